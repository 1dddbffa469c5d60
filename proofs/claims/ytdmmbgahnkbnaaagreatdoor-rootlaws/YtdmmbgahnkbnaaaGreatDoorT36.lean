import Derived.Test.YtdmmbgahnkbnaaaGreatDoorT35
import Derived.Defers
import Derived.Recover
set_option linter.all false
open Go.Value renaming slice->C,int->G,pointer->L,bool->P,string->W
open Go.IntKind renaming i64->F
open Go.Obj renaming cells->H
open Go renaming undef->I,World->T
open Go.Proofs.Tryz renaming prog->U
set_option maxRecDepth 99999
set_option maxHeartbeats 0
namespace Go.Proofs.YtdmmbgahnkbnaaaGreatDoor
open Go.RowKit Go.Shelf
attribute [local go_sem] Oper.semAt_some
section
variable{cs:Array Value}{m:Nat × Nat}{t:TypeId}{W':T}
theorem mj(p q:Addr)(w:T):
 CallsD U 184 #[L (some p),L (some q)] .returning w λe d w'=>e=.returned (.tuple #[])/\d=.returning/\w'=w.alloc (H #[G F 0,G F 0] 152):=by
 have a:∀w:T,(Instr.typeAssert Value.nilIface 20 152 true).run U w=.ok (.tuple #[.agg #[G F 0,G F 0],P false]) w:=λ_=>by kernel_rfl
 refine callsD_of_wpS Tryz.func184 rfl λb cs c=>?_;apply wpS_seq;apply wpS_region;simp[wpOpsS,go_sem,recoverD,c,Tryz.ntmps184,Exit.thenS,a];apply wpS_seq;apply wpS_region;simp[wpOpsS,go_sem,Exit.thenS];refine wpS_cond (t:=false) (by simp[Act.eval,Array.replicate]) ?_;simp only[C4,if_false];refine wpS_of_wp (wp_skip ?_);cases b;simp_all [bodyPostS,results,Tryz.results184]
def ml(p q:Nat)(a p0:Int)(w:T)(g:Boxed w p 25 (C none 0 0))(i:JD w q 152 (G F 0) (G F 0))(k:p≠q):
 CallsD U 184 #[L (some ⟨p,0,none⟩),L (some ⟨q,0,none⟩)] (.panicking [{ v:=Hl a p0,recovered:=false }]) w λe A w'=>e=.returned (.tuple #[])/\A=.panicking [{ v:=Hl a p0,recovered:=true }]/\Boxed w' p 25 (C none 0 0)/\JD w' q 152 (G F a) (G F p0)/\∀n w0,Below n w0 w->n<=w.heap.size->n<=p->n<=q->Below n w0 w':=by
 unfold Hl;have l:∀w:T,(Instr.typeAssert (.iface 152 (.agg #[G F a,G F p0])) 20 152 true).run U w=.ok (.tuple #[.agg #[G F a,G F p0],P true]) w:=λ_=>by kernel_rfl
 refine callsD_of_wpS Tryz.func184 rfl λB cs r=>?_;apply wpS_seq;apply wpS_region;simp[wpOpsS,go_sem,recoverD,r,Tryz.ntmps184,Exit.thenS,l];apply wpS_seq;apply wpS_region;simp[wpOpsS,go_sem,Exit.thenS];refine wpS_cond (t:=true) (by simp[Act.eval,Array.replicate]) ?_;simp only[if_true];refine wpS_of_wp ?_;simp[Array.replicate];have d:=JD.new w 152 (G F a) (G F p0);have c:=g.alloc (H #[G F a,G F p0] 152);have b:=i.alloc (H #[G F a,G F p0] 152);have x:p≠w.heap.size:=by have:=g.lt;omega
 have y:q≠w.heap.size:=by have:=i.lt;omega
 have f:=Z λ(n:Nat) (w0:T) (h:Below n w0 w) (hn:n<=w.heap.size)=>h.alloc hn (H #[G F a,G F p0] 152);obtain⟨W,j⟩:=ex (w.alloc (H #[G F a,G F p0] 152));rw[j]at d c b f;rw[j];obtain⟨D,hD⟩:=ex (w.heap.size);rw[hD]at d x y f;rw[hD];clear j g i l r;obtain⟨d0,d1⟩:=d.cp;have x0:=c.cell;have x1:=c.frozen;obtain⟨y0,y1⟩:=b.cp;obtain⟨z0,E⟩:=b.fp;have s:=Z c;have u:=Z b;clear c b d;go_region
 have hX:Boxed (((W.setCell ⟨p,0,none⟩ (C none 0 0)).setCell ⟨q,0,none⟩ (G F a)).setCell ⟨q,1,none⟩ (G F p0)).drew p 25 (C none 0 0):=
  (BC _ ⟨q,1,none⟩ (G F p0) p k).trans ((BC _ ⟨q,0,none⟩ (G F a) p k).trans (s.o.set (C none 0 0)))
 have o:JD (((W.setCell ⟨p,0,none⟩ (C none 0 0)).setCell ⟨q,0,none⟩ (G F a)).setCell ⟨q,1,none⟩ (G F p0)).drew q 152 (G F a) (G F p0):=
  (((u.o.far (p:=⟨p,0,none⟩) (λe=>k e.symm) _).set0 _).set1 _).drew
 have hZ:∀n w0,Below n w0 w->n<=D->n<=p->n<=q->Below n w0 (((W.setCell ⟨p,0,none⟩ (C none 0 0)).setCell ⟨q,0,none⟩ (G F a)).setCell ⟨q,1,none⟩ (G F p0)).drew:=
  λn w0 h hn z m=>((((f.o n w0 h hn).setCell (p:=⟨p,0,none⟩) z _).setCell (p:=⟨q,0,none⟩) m _).setCell (p:=⟨q,1,none⟩) m _).drew
 generalize (((W.setCell ⟨p,0,none⟩ (C none 0 0)).setCell ⟨q,0,none⟩ (G F a)).setCell ⟨q,1,none⟩ (G F p0)).drew=V at hX o hZ ⊢;simp[bodyPostS,results,Tryz.results184];exact⟨hX,o,hZ⟩
theorem mm(s:ByteArray)(g q0:Int)(w:T)(p:∀V R,De V R s 0->Calls U 185 #[L (some ⟨R,0,none⟩)] V λr w'=>V.grownBy w' (some R)/\r=.panicked [{ v:=Hl g q0,recovered:=false }]):
 Calls U 106 #[W s] w λr w'=>r=.returned (.tuple #[.agg #[C none 0 0],.agg #[G F g,G F q0]])/\Bl w w':=by
 have K:∀(fn:Fn) (first cap:Array Value) (w:T),(Instr.makeFunc fn first cap).run U w=.ok (.func fn first cap) w:=λ_ _ _ _=>rfl;have n:=Z p;clear p;go_enter_defers Tryz.func106,Tryz.ntmps106
 go_upto_region 3 with fail
 have b:=BH w 25 (C none 0 0);have a:=JD.new (w.alloc (H #[C none 0 0] 25)) 152 (G F 0) (G F 0);have c:De (((w.alloc (H #[C none 0 0] 25)).alloc (H #[G F 0,G F 0] 152)).alloc (H #[W s,G F 0] 222)) ((w.alloc (H #[C none 0 0] 25)).alloc (H #[G F 0,G F 0] 152)).heap.size s 0:=BD _ _;rw[Ax,Ax]at c;rw[Ax]at a;replace b:=(b.alloc (H #[G F 0,G F 0] 152)).alloc (H #[W s,G F 0] 222);replace a:=a.alloc (H #[W s,G F 0] 222);have j:Bl w (((w.alloc (H #[C none 0 0] 25)).alloc (H #[G F 0,G F 0] 152)).alloc (H #[W s,G F 0] 222)):=((Ba w _).alloc (by rw[Ax];omega) _).alloc (by rw[Ax,Ax];omega) _;have t:(((w.alloc (H #[C none 0 0] 25)).alloc (H #[G F 0,G F 0] 152)).alloc (H #[W s,G F 0] 222)).heap.size=w.heap.size+1+1+1:=by rw[Ax,Ax,Ax]
 obtain⟨V,i⟩:=ex (((w.alloc (H #[C none 0 0] 25)).alloc (H #[G F 0,G F 0] 152)).alloc (H #[W s,G F 0] 222));rw[i]at b a c j t;rw[i];obtain⟨u,l,m,x⟩:=Dr b a j (n.o _ _ c);clear b a c j i n t;go_wp2_with(go_at_call 185;refine x.o.mono ?_;rintro e w1 ⟨q,rfl⟩;have d:=Z q;clear q)
 have z:Boxed w1 w.heap.size 25 (C none 0 0):=u.o.kept d.o (λe=>by have:=Cu e;omega);have y:JD w1 (w.heap.size+1) 152 (G F 0) (G F 0):=(d.o.block _ l.o.lt λe=>by have:=Cu e;omega).trans l.o;have o:=m.o.grown d.o m.o.size (λk e=>by grind);refine leaves_cons (f:=184) (args:=#[L (some ⟨w.heap.size,0,none⟩),L (some ⟨w.heap.size+1,0,none⟩)]) DL (by simp[go_sem]) ?_;refine(ml w.heap.size (w.heap.size+1) g q0 _ z y O).mono ?_;rintro e M w2 ⟨rfl,rfl,A,B,D⟩;have E:=D _ _ o o.size (Aa _) O;have x0:=A.cell;obtain⟨y0,y1⟩:=B.cp;simp[Leaves,settle,results,Tryz.results106,go_sem,x0,y0,y1];exact E
theorem mn{W:T}{F:Nat}(hF:W.heap[F]?=some (H cs t m))(j:t=152)(hg:W.grownBy W' (some F)):∀k v ds,Row k W v ds->Row k W' v ds:=by
 intro k v ds c;obtain⟨a,cap,e,_⟩:=id c;subst e;refine c.grown hg λp g hl=>?_;obtain⟨b,n,f,d,l,i⟩:=c.typ hl;grind
def Vv{W:T}{F:Nat}(hF:W.heap[F]?=some (H cs t m))(g:t=152)(hg:W.grownBy W' (some F)){r:Bool}{v:Value}{qs:List Rat}(h:RowK r W v qs):RowK r W' v qs:=by
 obtain⟨a,cap,e,k,c,l,d⟩:=h;refine⟨a,cap,e,k,c,l,?_⟩;rcases d with d|⟨b,i,f⟩
 . exact Or.inl d
 . refine Or.inr ⟨b,i,f.keep (hg.block b f.lt λe=>?_) (mn hF g hg)⟩;obtain⟨n,j,_⟩:=f;have e:=Cu e;subst e;have:=j.symm.trans hF;simp only[AU,Bv]at this;subst g;have c:=this.2.1;revert c;cases r<;>(show ¬(_=_);decide)
theorem mo(s:ByteArray)(ps:List Rat)(w:T)(hP:∀V R,De V R s 0->Calls U 185 #[L (some ⟨R,0,none⟩)] V λr w'=>V.grownBy w' (some R)/\∃u,r=.returned u/\Jd w' u ps):
 Calls U 106 #[W s] w λr w'=>∃u,r=.returned (.tuple #[u,.agg #[G F 0,G F 0]])/\Jd w' u ps/\Bl w w':=by
 have ah:∀(fn:Fn) (first cap:Array Value) (w:T),(Instr.makeFunc fn first cap).run U w=.ok (.func fn first cap) w:=λ_ _ _ _=>rfl;have N:=Z hP;clear hP;go_enter_defers Tryz.func106,Tryz.ntmps106
 go_upto_region 3 with fail
 have g:=BH w 25 (C none 0 0);have c:=JD.new (w.alloc (H #[C none 0 0] 25)) 152 (G F 0) (G F 0);have l:De (((w.alloc (H #[C none 0 0] 25)).alloc (H #[G F 0,G F 0] 152)).alloc (H #[W s,G F 0] 222)) ((w.alloc (H #[C none 0 0] 25)).alloc (H #[G F 0,G F 0] 152)).heap.size s 0:=BD _ _;rw[Ax,Ax]at l;rw[Ax]at c;replace g:=(g.alloc (H #[G F 0,G F 0] 152)).alloc (H #[W s,G F 0] 222);replace c:=c.alloc (H #[W s,G F 0] 222);have B:Bl w (((w.alloc (H #[C none 0 0] 25)).alloc (H #[G F 0,G F 0] 152)).alloc (H #[W s,G F 0] 222)):=((Ba w _).alloc (by rw[Ax];omega) _).alloc (by rw[Ax,Ax];omega) _;have hz:(((w.alloc (H #[C none 0 0] 25)).alloc (H #[G F 0,G F 0] 152)).alloc (H #[W s,G F 0] 222)).heap.size=w.heap.size+1+1+1:=by rw[Ax,Ax,Ax]
 obtain⟨V,A⟩:=ex (((w.alloc (H #[C none 0 0] 25)).alloc (H #[G F 0,G F 0] 152)).alloc (H #[W s,G F 0] 222));rw[A]at g c l B hz;rw[A];obtain⟨H0,E,M,HC⟩:=Dr g c B (N.o _ _ l);clear g c l B A N hz;go_wp2_with(go_at_call 185;refine HC.o.mono ?_;rintro e w1 ⟨ae,u1,rfl,D⟩;have m:=Z ae;obtain⟨a,d,b,rfl⟩:=D.form;have HU:=Z D.row;have j:Boxed w1 w.heap.size 25 (C none 0 0):=H0.o.kept m.o (λe=>by have:=Cu e;omega);have i:JD w1 (w.heap.size+1) 152 (G F 0) (G F 0):=(m.o.block _ E.o.lt λe=>by have:=Cu e;omega).trans E.o;have x0:=j.cell;have x1:=j.frozen;obtain⟨y0,y1⟩:=i.cp;obtain⟨z0,z1⟩:=i.fp;have K:=Z j;have H3:=Z i;clear ae D j i)
 have n:w.heap.size+1≠w.heap.size:=O
 have Qd:=M.o.grown m.o M.o.size (λk e=>by grind);have Q:=K.o.set (C a d b);have S:=FV K.o (C a d b) HU.o;have v:=H3.o.far (p:=⟨w.heap.size,0,none⟩) n (C a d b);have X:=Qd.setCell (p:=⟨w.heap.size,0,none⟩) (Aa _) (C a d b);generalize w1.setCell ⟨w.heap.size,0,none⟩ (C a d b)=o at Q S v X ⊢;have b1:=(BC o ⟨w.heap.size+1,0,none⟩ (G F 0) w.heap.size λe=>n e.symm).trans Q;have b2:=Vv v rfl (J1 o (w.heap.size+1) 0 (G F 0)) S;have x:=v.set0 (G F 0);have b4:=X.setCell (p:=⟨w.heap.size+1,0,none⟩) DK (G F 0);generalize o.setCell ⟨w.heap.size+1,0,none⟩ (G F 0)=q at b1 b2 x b4 ⊢;have d1:=(BC q ⟨w.heap.size+1,1,none⟩ (G F 0) w.heap.size λe=>n e.symm).trans b1;have d2:=Vv x rfl (J1 q (w.heap.size+1) 1 (G F 0)) b2;have y:=x.set1 (G F 0);have z:=b4.setCell (p:=⟨w.heap.size+1,1,none⟩) DK (G F 0);generalize q.setCell ⟨w.heap.size+1,1,none⟩ (G F 0)=t at d1 d2 y z ⊢;refine leaves_cons (f:=184) (args:=#[L (some ⟨w.heap.size,0,none⟩),L (some ⟨w.heap.size+1,0,none⟩)]) DL (by simp[go_sem]) ?_;refine(mj ⟨w.heap.size,0,none⟩ ⟨w.heap.size+1,0,none⟩ _).mono ?_;rintro e u' w2 ⟨rfl,rfl,rfl⟩;have e1:Boxed t w.heap.size 25 (C a d b):=d1;have f1:=(e1.alloc (H #[G F 0,G F 0] 152)).cell;have f2:=(y.alloc (H #[G F 0,G F 0] 152)).c0;have f3:=(y.alloc (H #[G F 0,G F 0] 152)).c1;have f4:=z.alloc z.size (H #[G F 0,G F 0] 152);have f5:=d2.below (Ba t (H #[G F 0,G F 0] 152));generalize t.alloc (H #[G F 0,G F 0] 152)=W5 at f1 f2 f3 f4 f5 ⊢;simp[Leaves,settle,results,Tryz.results106,go_sem,f1,f2,f3];exact⟨⟨_,rfl,f5⟩,f4⟩
def Vw{l:List UInt8}:∀(f:Nat) (b:Bool) (I m:Nat) (S d:List Rat) (k:Nat),I<=l.length->m<=I->Gh S m->Ez l f b I S=.ok d k->∃r,r<=l.length/\Gh d r:=by
 intro f;induction f with
 |zero=>intro b I m S d k _ _ _ h;cases h
 |succ f q=>
  intro b I m S d k o w t h;cases g:XO l I with
  |error e p=>rw[QL g]at h;cases h
  |ok a u=>
   obtain⟨c,n⟩:=a;have s:=PS o g;have i:=t.next (Vt o g) s.2.2 b;have v:=Hz l u;rw[QM g]at h;split at h
   . rename_i j;have:=YT j;exact q _ _ (m+1) _ _ _ O O i h
   . split at h
     . rename_i j;have:=YT j;exact q _ _ (m+1) _ _ _ O O i h
     . split at h
       . cases h;exact⟨m+1,O,i⟩
       . cases h
def mp{l:List UInt8}{S:List Rat}{k:Nat}(h:Er l=.ok S k):∃m,m<=l.length/\Gh S m:=by
 unfold Er at h;have a:=Ga (l:=l) (i:=0) O;split at h
 . rename_i b;have:=YT b;exact Vw _ _ _ 0 _ _ _ O O Gh.start h
 . exact Vw _ _ _ 0 _ _ _ a O Gh.start h
theorem QW(l:List UInt8):(Y4 l).1.length<=9/\∀i,DV 601 (cf (Y4 l).1 i):=by
 by_cases h:300<l.length
 . grind[Y4,Xk,DV.zero]
 . rw[N9 h];cases a:Er l with
   |error e p=>grind[MI,Xk,DV.zero]
   |ok S k=>
    obtain⟨m,b,hs⟩:=mp a;rw[show(MI (EStateM.Result.ok S k)).1=Jc S from J];exact⟨Ad (Ym _) (by rw[hs.1];exact Aa _),λi=>by rw[Yp];exact(hs.2 i).mono O⟩
def LQ(l:List UInt8)(w':T)(u:Value)(e p:Int):Prop:=e=((Y4 l).2.1:Int)/\p=((Y4 l).2.2:Int)/\Jd w' u (Y4 l).1
def mq(s:ByteArray)(hs:s.size<=300)(w:T):
 Calls U 106 #[W s] w λr w'=>∃u e p,r=.returned (.tuple #[u,.agg #[G F e,G F p]])/\LQ (Jj s) w' u e p/\Bl w w':=by
 have a:=N9 (l:=Jj s) (by rw[JH];omega);cases b:Er (Jj s)with
 |error f q0=>
  rw[b]at a;refine(mm s f q0 w λV R c=>(Vu R s V c hs).mono λr w' h=>⟨h.1,h.2.1 _ _ b⟩).mono ?_;rintro r w' ⟨rfl,d⟩;refine⟨_,_,_,J,?_,d⟩;rw[LQ,a];exact⟨J,J,_,J,RowK.nil _ _⟩
 |ok S k=>
  rw[b]at a;refine(mo s (Jc S) w λV R c=>(Vu R s V c hs).mono λr w' h=>⟨h.1,by obtain⟨u,g,i,_⟩:=h.2.2 _ _ b;exact⟨u,g,i⟩⟩).mono ?_;rintro r w' ⟨u,rfl,j,d⟩;refine⟨_,_,_,J,?_,d⟩;rw[LQ,a];exact⟨J,J,j⟩
def Vy(s:ByteArray)(w:T):
 Calls U 42 #[W s] w λr w'=>∃u e p,r=.returned (.tuple #[u,G F e,G F p])/\LQ (Jj s) w' u e p/\Bl w w':=by
 by_cases o:300<s.size
 . have S:(300:Int)<(s.size:Int):=O
   have A:=Z (show Y4 (Jj s)=([],1,0)by unfold Y4;rw[BF (by rw[JH];exact o)]);clear o;go_enter Tryz.func42,Tryz.ntmps42
   go_wp2;exact BA (v:=.tuple #[.agg #[C none 0 0],G F 1,G F 0]) (by simp[results,Tryz.results42,go_sem]) rfl ⟨_,_,_,rfl,by rw[LQ,A.o];exact⟨rfl,rfl,_,rfl,RowK.nil _ _⟩,Ba w _⟩
 . have S:¬(300:Int)<(s.size:Int):=O
   have q:=Z λ(V:T)=>mq s O V;clear o;go_enter Tryz.func42,Tryz.ntmps42
   go_upto_region 4 with(go_at_call 106;refine(q.o _).mono ?_;clear q;rintro e w1 ⟨u1,f,p1,rfl,a,b⟩;obtain⟨c,i,d,rfl⟩:=a.2.2.form;have l:=Z a;have k:=Z b;clear a b)
   have M:w.heap.size<w1.heap.size:=by have:=k.o.size;rw[Ax]at this;omega
   have q0:Boxed w1 w.heap.size 25 (C none 0 0):=(k.o.block _ (by rw[Ax];omega)).trans (BH w 25 (C none 0 0));have y:=(Ba w _).trans (k.o.mono (by rw[Ax];omega));have g:=BH w1 25 (C c i d);have j:=JD.new (w1.alloc (H #[C c i d] 25)) 152 (G F f) (G F p1);rw[Ax]at j;replace g:=g.alloc (H #[G F f,G F p1] 152);have hA:Bl w1 ((w1.alloc (H #[C c i d] 25)).alloc (H #[G F f,G F p1] 152)):=(Ba w1 _).alloc (by rw[Ax];omega) _;have q1:=(hA.block _ q0.lt).trans q0;have b:=Bt y hA;have a:=l.o.2.2.row.below hA;have z:=Z (⟨l.o.1,l.o.2.1⟩:f=_/\p1=_);have t:w.heap.size≠w1.heap.size:=O
   have x:w.heap.size≠w1.heap.size+1:=O
   generalize (w1.alloc (H #[C c i d] 25)).alloc (H #[G F f,G F p1] 152)=R at g j hA q1 b a ⊢;clear hA q0 y k l M;obtain⟨Q,m⟩:=ex (w.heap.size);obtain⟨B,n⟩:=ex (w1.heap.size);rw[n]at g j t x;rw[m]at q1 t x;rw[n,m];have q2:Boxed R Q 25 (C none 0 0):=q1;have x0:=g.cell;obtain⟨y0,y1⟩:=j.cp;have z0:=q2.cell;have X:=q2.frozen;obtain⟨K,E,N,D⟩:=Dr q2 m b a;clear g j q1 q2 m n b a;go_region
   go_wp2_with fail
   have r0:=z0;refine BA (v:=.tuple #[.agg #[C c i d],G F f,G F p1]) (by simp[results,Tryz.results42,go_sem,r0]) rfl ⟨_,_,_,rfl,⟨z.o.1,z.o.2,_,rfl,?_⟩,?_⟩
   . exact(FV K.o (C c i d) D.o).below ((BB _ _).drew)
   . exact(N.o.setCell (p:=⟨Q,0,none⟩) (by rw[E.o];exact Aa _) _).drew
end
section
variable{k m:Nat}
theorem DV.abs{q:Rat}(h:DV k q):DV k (Yt q):=by
 grind[kV,DV,Sm]
theorem mr(z:List Rat)(i:Nat)(a:Rat)(q:List Rat):∀(j k:Nat),i+j<=k->cf (Xd z i a q j) k=cf z k:=by
 intro j;induction j with
 |zero=>intro k _;rfl
 |succ j b=>
  intro k hk;grind[Xd,GY,Ft]
theorem OA(z:List Rat)(i:Nat)(a:Rat)(q:List Rat):∀(j k:Nat),cf (Xd z i a q j) k=cf z k\/cf (Xd z i a q j) k=cf z k+a*cf q (k-i):=by
 intro j;induction j with
 |zero=>intro k;exact Or.inl J
 |succ j b=>
  intro k;grind[Xd,GY,mr,Ft]
def DV.mul2{p q:Rat}(hp:DV k p)(hq:DV m q):DV (k+m) (p*q):=by
 rw[<-eI];refine DV.divInt ?_ (hp.1.mul hq.1) (hp.2.mul hq.2);exact Cw (by have:=p.den_nz;omega) (by have:=q.den_nz;omega)
def DV.inv{q:Rat}(hq:DV m q)(a:q≠0):DV m q⁻¹:=by
 rw[Rat.inv_def];exact DV.divInt (λe=>a (Fy.1 e)) hq.2 hq.1
def DV.div2{p q:Rat}(hp:DV k p)(hq:DV m q)(a:q≠0):DV (k+m) (p/q):=by
 rw[FM];exact hp.mul2 (hq.inv a)
def Id{p:List Rat}(hp:Jc p=p)(h:∀i,m<=i->cf p i=0):p.length<=m:=by
 by_cases hl:p.length<=m
 . exact hl
 . exfalso
   exact Ju hp DK (h _ O)
end
namespace M3
def ZQ(V:T)(g r:Nat):Prop:=∀j,j<r->V.cell? ⟨g,j*4,none⟩=some (P false)/\V.cell? ⟨g,j*4+1,none⟩=some (C none 0 0)/\V.cell? ⟨g,j*4+2,none⟩=some (P false)/\V.cell? ⟨g,j*4+3,none⟩=some (C none 0 0)
variable{cs:Array Value}{n:Int}{bs bs':List (Option (Nat × Dat))}{S:List Rat}{B B4 X g gQ i r:Nat}{t:TypeId}{v:Value}{V V' w:T}
theorem ZQ.of(h:ZQ V g r)(e:V'.heap[g]?=V.heap[g]?):ZQ V' g r:=λj a=>by
 obtain⟨b,c,d,f⟩:=h j a;grind[BX]
def Gi(w V:T)(bs:List (Option (Nat × Dat)))(B4:Nat)(n:Int)(gQ r:Nat):Prop:=DM w V bs/\Boxed V B4 3 (.int F n)/\ZQ V gQ r/\gQ<V.heap.size
def Gi.below{w V V':T}{bs:List (Option (Nat × Dat))}{B4:Nat}{n:Int}{gQ r:Nat}(h:Gi w V bs B4 n gQ r)(a:Bl V V'):Gi w V' bs B4 n gQ r:=
 ⟨h.1.below a,(a.block B4 h.2.1.lt).trans h.2.1,h.2.2.1.of (a.block gQ h.2.2.2),AJ h.2.2.2 a.size⟩
def Gi.own{w V V':T}{bs:List (Option (Nat × Dat))}{B4:Nat}{n:Int}{gQ r:Nat}{row:Option Nat}(h:Gi w V bs B4 n gQ r)(f:∃cs t m,V.heap[gQ]?=some (H cs t m))(hg:V.grownBy V' row)(c:∀x,row=some x->w.heap.size<=x/\∃o:Obj,V.heap[x]?=some o/\o.isCells=false):Gi w V' bs B4 n gQ r:=by
 have a:∀r,row=some r->∃o:Obj,V.heap[r]?=some o/\o.isCells=false:=λr e=>(c r e).2;refine⟨h.1.own hg c,YD hg a (show Bx V B4 3 #[G F n]from h.2.1),h.2.2.1.of ?_,AJ h.2.2.2 hg.size⟩;obtain⟨cs,t,m,e⟩:=f;refine hg.block gQ h.2.2.2 λd=>?_;obtain⟨o,b,g⟩:=a gQ d.symm;rw[e]at b;cases b;cases g
def MO(V:T)(m:Nat):Has V (.agg (YF m)) (.rats (List.replicate m 0)):=by
 refine⟨YF m,J,λj a=>?_⟩;rw[AO]at a;obtain⟨b,c,d,e⟩:=Nt a;exact⟨_,_,_,_,b,c,d,e,by rw[J9];exact XE _⟩
def Gx(w:T)(a c:Option Addr)(la b lb d m:Nat)(e:Option Addr)(rc B5 gQ:Nat)(x:Option (Nat × Dat))(Q:List Rat):List (Option (Nat × Dat)):=
 [some (w.heap.size,.cell 25 (C a la b)),some (w.heap.size+1,.cell 25 (C c lb d)),some (w.heap.size+1+1,.cell 25 (C Option.none 0 0)),some (w.heap.size+1+1+1,.cell 25 (C Option.none 0 0)),
  x,some (B5,.cell 23 (C e la rc)),some (gQ,.rats Q),some (gQ+1,.cell 23 (C (some ⟨gQ,0,Option.none⟩) m m)),some (gQ+1+1,.cell 23 (C (some ⟨gQ,0,Option.none⟩) m m))]
def g4(la g:Nat)(R:List Rat):Option (Nat × Dat):=if la=0 then none else some (g,.rats R)
theorem ms(p:List Rat)(i:Nat)(c:Rat)(j:Nat):cf (p.set i c) j=c\/cf (p.set i c) j=cf p j:=by
 grind[GY,Ft]
def Gi.upd(h:Gi w V bs B4 n gQ r)(f:DM w V' bs')(b:∀B,B≠X->V'.heap[B]?=V.heap[B]?)(c:B4≠X)(d:gQ≠X):Gi w V' bs' B4 n gQ r:=by
 have e:=b gQ d;refine⟨f,(b B4 c).trans h.2.1,h.2.2.1.of e,?_⟩;refine Nat.lt_of_not_le λhle=>?_;have a:=Array.getElem?_eq_none_iff.2 hle;rw[e]at a;exact absurd (Array.getElem?_eq_none_iff.1 a) (by have:=h.2.2.2;omega)
def FZ(w W V:T)(bs:List (Option (Nat × Dat)))(B4:Nat)(n:Int)(gQ r:Nat):Prop:=Gi w V bs B4 n gQ r/\KeepsOthers W V
def FZ.below{w W V V':T}{bs:List (Option (Nat × Dat))}{B4:Nat}{n:Int}{gQ r:Nat}(h:FZ w W V bs B4 n gQ r)(a:Bl V V'):FZ w W V' bs B4 n gQ r:=⟨h.1.below a,h.2.trans (Xh a)⟩
def Vz{m:Nat × Nat}(h:Boxed V B4 3 v)(a:V.heap[X]?=some (H cs 41 m)):B4≠X:=λe=>by
 subst e;have:=a.symm.trans h;grind
def mu(V:T)(C:Nat)(x y z u:Value)(B:Nat)(h:B≠C):(put4 V C x y z u).heap[B]?=V.heap[B]?:=
 (BC _ ⟨C,3,none⟩ u B h).trans ((BC _ ⟨C,2,none⟩ z B h).trans ((BC _ ⟨C,1,none⟩ y B h).trans (BC V ⟨C,0,none⟩ x B h)))
def FZ.al{W:T}(h:FZ w W V bs B4 n gQ r){o:Obj}(m:DM w (V.alloc o) bs'):FZ w W (V.alloc o) bs' B4 n gQ r:=
 have k:=h.below (Ba V o)
 ⟨⟨m,k.1.2⟩,k.2⟩
def FZ.up{W:T}{p:Nat × Nat}(h:FZ w W V bs B4 n gQ r)(m:DM w V' bs')(c:V.heap[X]?=some (H cs 41 p))(b:∀B,B≠X->V'.heap[B]?=V.heap[B]?)(a:gQ≠X)(k:KeepsOthers V V'):FZ w W V' bs' B4 n gQ r:=
 ⟨h.1.upd m b (Vz h.1.2.1 c) a,h.2.trans k⟩
theorem mx{o a:Nat}{x:Value}(h:o≠a):(V.setCell ⟨g,a,none⟩ x).cell? ⟨g,o,none⟩=V.cell? ⟨g,o,none⟩:=World.cell?_setCell_other _ _ _ _ DK
def ZQ.put(h:ZQ V g (i+1))(x y z u:Value):ZQ (putAt V g (i*4) x y z u) g i:=λj e=>by
 obtain⟨a,b,c,d⟩:=h j O;grind[putAt,mx]
def boxed_below(h:Boxed V B t v)(a:Bl V V'):Boxed V' B t v:=(a.block B h.lt).trans h
def Ie(V:T)(D:Nat)(rs a:Value)(R Q:List Rat):Prop:=RowK true V rs R/\RowK true V a Q/\V.heap[D]?=some (.deferred (some []))
def Ie.below{V V':T}{D:Nat}{rs b:Value}{R Q:List Rat}(h:Ie V D rs b R Q)(a:Bl V V'):Ie V' D rs b R Q:=⟨h.1.below a,h.2.1.below a,(a.block D (Ab.1 h.2.2).1).trans h.2.2⟩
def Ie.set{D:Nat}{rs f:Value}{R Q:List Rat}(h:Ie V D rs f R Q){a:Option Addr}{l c:Nat}(b:Boxed V B 25 (C a l c))(x:Value):Ie (V.setCell ⟨B,0,none⟩ x) D rs f R Q:=
 ⟨FV b x h.1,FV b x h.2.1,(BC _ ⟨B,0,none⟩ x D λe=>by
  have e:D=B:=e;have d:=h.2.2;rw[e,show V.heap[B]?=_ from b]at d;cases d).trans h.2.2⟩
def DM.asPoly(M:DM w V bs)(h:bs[i]?=some (some (B,.cell 25 (C Option.none 0 0)))):DM w V (bs.set i (some (B,.poly []))):=by
 have b:∀j B' d,(bs.set i (some (B,.poly [])))[j]?=some (some (B',d))->(∃a,bs[j]?=some (some (B',a)))/\((∃cs,Bx V B' d.ty cs/\Has V (.agg cs) d)/\w.heap.size<=B'):=λj B' d e=>by
  rw[List.getElem?_set]at e;split at e
  . rename_i m;subst m;split at e
    . cases e;exact⟨⟨_,h⟩,⟨_,(M.cell h).1,Ns V⟩,(M.1 i _ _ h).2⟩
    . cases e
  . exact⟨⟨_,e⟩,M.1 j _ _ e⟩
 exact⟨λj B' d e=>(b j B' d e).2,λj k B' d a c f=>by
  obtain⟨⟨_,g⟩,_⟩:=b j B' d c;obtain⟨⟨_,l⟩,_⟩:=b k B' a f;exact M.2.1 j k B' _ _ g l,M.2.2⟩
def MP(w2:T)(a:Option Addr)(la rc m:Nat):T:=(((w2.alloc (H #[C a la rc] 23)).alloc (H (YF m) 41)).alloc (H #[C (some ⟨w2.heap.size+1,0,none⟩) m m] 23)).alloc (H #[C (some ⟨w2.heap.size+1,0,none⟩) m m] 23)
theorem my(A:Nat)(y qa:Option Addr)(la E lb x n m:Nat)(ps qs:List Rat)(w:T)(ha:RowK true w (C y la E) ps)(hb:RowK true w (C qa lb x) qs)(hq:∀i,DV A (cf qs i))(dz:Jc qs=qs)(dh:qs≠[])(hL:∀k,k<=m->∃z,z+(2*A+1)<=1000000000/\(k<m->2*z+2*(2*A+1)<=1000000000)/\(∀i,DV z (cf (JO ps qs n m k).2 i))/\∀i,DV (z+A) (cf (JO ps qs n m k).1 i))(hn:lb=n+1)(hm:la-n=m):
 Calls U 193 #[.agg #[C y la E],.agg #[C qa lb x]] w λe w'=>∃u v,e=.returned (.tuple #[u,v,P true])/\Jd w' u (Jm ps qs)/\Jd w' v (JU ps qs)/\Bl w w':=by
 obtain⟨de,fh,fm,gq,s,t,aa,bb,ll,cc,kk,dd,cn⟩:=ha.forms;obtain⟨Qf,fi,fo,ii,s',t',ah,ai,ay,aj,aq,am,co⟩:=hb.forms;obtain⟨V0,f9,bg⟩:=UT 25 (.cell 25 (C y la E)) EN 25 (.cell 25 (C qa lb x)) EN 25 (.cell 25 (C none 0 0)) EN 25 (.cell 25 (C none 0 0)) EN (w:=w);have M1:=bg.o;have Wk:=Z (show Calls U 26 #[.agg #[C qa lb x]] V0 λe w'=>e=.returned (G F (n:Int))/\Bl V0 w' by
  have h:=JY (.agg #[C qa lb x]) qs V0 ⟨_,rfl,hb.below M1.2.2⟩;rwa[show((qs.length:Int)-1)=(n:Int)by omega]at h)
 have Wg:=Z λ(V:T) (h:Bl w V)=>kr (C y la E) ps V (ha.below h);have il:∀W:T,(Instr.makeSlice 23 (G F (m:Int)) (G F (m:Int))).run U W=.ok (C (some ⟨W.heap.size,0,none⟩) m m) (W.alloc (H (YF m) 41)):=λW=>MD m O W;obtain⟨d,iu⟩:=ex ((la:Int)-(n:Int):Int);have iy:IntKind.i64.wrap d=d:=by rw[BJ];omega
 have ij:max (0:Int) d=(m:Int):=O
 have ir:¬(n:Int)<0:=O
 obtain⟨HP,HQ,Qb,Qe,S,Qr,Ug,Ui⟩:=ID cn co de Qf (show lb=n+1/\la-n=m from⟨hn,hm⟩) hq dz dh;have HL:=Z hL;have Ql:m<=1099511627776:=O
 clear ha hb cn co de Qf fh fm fi fo hq dz dh hL hn hm M1;have c1:=(bg.o.cell (i:=1) rfl).1.cell;refine(BI (n:=3)).1 ?_;refine BP Tryz.func193 rfl trivial ?_ rfl;simp only[Tryz.ntmps193,An,Ah,AE,Nat.reduceAdd,Nat.reduceSub,Ao,Ap,AD,Au,Am,AB];gi_wp2_with fail
 rw[f9.o];refine⟨trivial,?_⟩;refine((BI (n:=_)).2 Wk.o).mono ?_;rintro e w1 ⟨rfl,ck⟩;have Ue:Bl w1 (w1.alloc (H #[G F (n:Int)] 3)):=Ba w1 _;have Qo:=(bg.o.below ck).below Ue;have h4:=BH w1 3 (G F (n:Int));have c0:=(Qo.cell (i:=0) rfl).1.cell;obtain⟨Qh,Qt,H4⟩:=Db (Wg.o _ Qo.2.2) Qo h4;clear Ue Qo h4 ck c1;gi_wp2_with fail
 obtain⟨V1,bz⟩:=ex (w1.alloc (H #[G F (n:Int)] 3));obtain⟨B4,bi⟩:=ex (w1.heap.size);rw[bz]at Qh Qt H4 c0;rw[bi]at H4;rw[bz,bi];clear bz bi;refine⟨trivial,?_⟩;refine((BI (n:=_)).2 Qh.o).mono ?_;rintro e w2 ⟨u2,rfl,ed,_,bf,df⟩;have fx:∃a gR rc,u2=C a la rc/\(la≠0->a=some ⟨gR,0,none⟩)/\(la≠0->V1.heap.size<=gR/\Dp true w2 gR ps)/\la<=rc/\rc<=9223372036854775807:=by
  obtain⟨a7,fe,e7,h7,h8,_⟩:=id ed;rcases df with rfl|⟨g',cap,e1,e2,e3⟩
  . injection e7 with _ e7
    have h0:=Qb.o.trans e7.symm;exact⟨_,0,_,by rw[h0],λh=>absurd h0 h,λh=>absurd h0 h,O,O⟩
  . rw[e1]at e7;have e8:cap=fe:=by injection e7
    exact⟨_,g',cap,by rw[e1,Qb.o],λ_=>rfl,λ_=>⟨e2,e3⟩,by rw[Qb.o,e8];exact h7,by rw[e8];exact h8⟩
 obtain⟨a,gR,rc,rfl,di,bu,dj,dt⟩:=fx;have Qk:=Z (show(la≠0->a=some ⟨gR,0,none⟩)/\la<=rc/\rc<=9223372036854775807 from⟨di,dj,dt⟩);clear dj dt di;have Uf:DM w w2 ([some (w.heap.size,.cell 25 (C y la E)),some (w.heap.size+1,.cell 25 (C qa lb x)),some (w.heap.size+1+1,.cell 25 (C Option.none 0 0)),some (w.heap.size+1+1+1,.cell 25 (C Option.none 0 0))]++[g4 la gR ps]):=by
  unfold g4;split
  . exact(Qt.o.below bf).none
  . exact Qt.o.adopt bf (bu (by assumption)).1 (bu (by assumption)).2
 have h4:Boxed w2 B4 3 (G F (n:Int)):=(bf.block B4 H4.o.lt).trans H4.o;have Uk:=Ba w2 (H #[C a la rc] 23);have h5:=boxed_below h4 Uk;have c4:=h5.cell;have Uv:=Z (Uf.push (.cell 23 (C a la rc)) (cs:=#[C a la rc]) ⟨rfl,rfl⟩);have H5:=Z h5;clear df ed bf bu Uf h4 Uk h5 c0;gi_wp2_with fail
 refine⟨trivial,?_⟩;refine(P9 Fence.wide _ trivial rfl _ _ _ _).mono ?_;rintro e w3 ⟨rfl,rfl⟩;have Qm:=Z (show Gi w (MP w2 a la rc m) (Gx w y qa la E lb x m a rc w2.heap.size (w2.heap.size+1) (g4 la gR ps) (List.replicate m 0)) B4 (n:Int) (w2.heap.size+1) m by
  have Uo:=((Uv.o.push (.rats (List.replicate m 0)) (MO _ m)).push (.cell 23 (C (some ⟨w2.heap.size+1,0,none⟩) m m)) (cs:=#[C (some ⟨w2.heap.size+1,0,none⟩) m m]) ⟨rfl,rfl⟩).push (.cell 23 (C (some ⟨w2.heap.size+1,0,none⟩) m m)) (cs:=#[C (some ⟨w2.heap.size+1,0,none⟩) m m]) ⟨rfl,rfl⟩;simp only[Ax]at Uo;have hz:(MP w2 a la rc m).heap[w2.heap.size+1]?=some (H (YF m) 41 (0,0)):=by
   have e:=BD (w2.alloc (H #[C a la rc] 23)) (H (YF m) 41);rw[Ax]at e;exact(Bi _ _ _ (by simp only[Ax];omega)).trans ((Bi _ _ _ DK).trans e)
  exact⟨Uo,boxed_below (boxed_below (boxed_below H5.o (Ba _ _)) (Ba _ _)) (Ba _ _),λj hj=>by
   obtain⟨h0,h1,h2,N⟩:=Nt hj;exact⟨cell_of hz h0,cell_of hz h1,cell_of hz h2,cell_of hz N⟩,(Ab.1 hz).1⟩)
 obtain⟨W3,an⟩:=ex (MP w2 a la rc m);rw[an]at Qm;have Qj:W3.heap.size=w2.heap.size+1+1+1+1:=by rw[<-an];simp only[MP,Ax]
 unfold MP at an;rw[an];simp only[Ax];obtain⟨B5,bj⟩:=ex (w2.heap.size);rw[bj]at Qm Qj;rw[bj];have ia:=Z Qj;clear Qj an bj c4;gi_wp2_with fail
 have Ul:=Z (show w.heap.size<=W3.heap.size from Qm.o.1.2.2.size);refine XQ rfl O (gf:=239) (lb:=#[L (some ⟨B5+1+1+1,0,none⟩)]) rfl trivial (Bk Tryz.func239 (by kernel_rfl) rfl)
  (P8 Fence.wide _ trivial rfl O (B5+1+1+1) (some ⟨B5+1,0,none⟩) m m (λ_=>P false) (λ_=>C none 0 0) (λ_=>P false) (λ_=>C none 0 0) Ql) (λ_=>rfl)
  (λk W=>Gi w W (Gx w y qa la E lb x m a rc B5 (B5+1) (g4 la gR (JO ps qs n m k).2) (JO ps qs n m k).1) B4 (n:Int) (B5+1) (m-k)) (λ_ _ _=>False)
  (λk W W' row h hg hr=>h.own (by obtain⟨cs,h1,_⟩:=h.1.rats (i:=6) rfl;exact⟨cs,_,_,h1⟩) hg λr e=>⟨Ad Ul.o (hr r e).1,(hr r e).2⟩)
  (λc s W W' row h=>h.elim) Qm.o ?rd
  (λk=>{ tmps:=#[.agg #[C y la E],.agg #[C qa lb x],L (some ⟨w.heap.size,0,none⟩),L (some ⟨w.heap.size+1,0,none⟩),L (some ⟨w.heap.size+1+1,0,none⟩),L (some ⟨w.heap.size+1+1+1,0,none⟩),P false,L (some ⟨B4,0,none⟩),L (some ⟨B5,0,none⟩),L (some ⟨B5+1+1,0,none⟩),G F ((m:Int)-1-k),I,I,I,I,.agg #[C qa lb x],G F ↑n,G F ↑n,P (decide ((n:Int)<0)),I,I,L (some ⟨w.heap.size,0,none⟩),C y la E,C a la rc,C a la rc,G F ↑la,G F ↑n,G F d,G F ↑m,C (some ⟨B5+1,0,none⟩) m m,C (some ⟨B5+1,0,none⟩) m m,.func (.func 239) #[] #[L (some ⟨B5+1+1+1,0,none⟩)],G F ((m:Int)-1-k),.agg #[P false,C none 0 0,P false,C none 0 0],I,I,I,I,I,I,I,I,I,I,I,I,I,I,I,I,I,I,I,I,I,I,I,I,I,I,I,I,I,I,I,I,I,I,I,I,I,I,I,I,I,I,I,I,I,I,I],defers:=[] }) ?assign ?body ?done ?stop
 case stop=>intro D c k W _ _ h;exact h.elim
 case rd=>
  intro k W h;refine⟨(h.1.cell (i:=8) rfl).1.cell,λhk=>?_⟩;obtain⟨h0,h1,h2,N⟩:=h.2.2.1 (m-1-k) O;exact⟨B5+1,rfl,h0,h1,h2,N⟩
 case assign=>
  intro l k W K hK;unfold MA;gi_wp2;exact hK
 case body=>
  intro l k W hS hk Qj;have Ud:la≠0:=by have:=S.o;omega
  obtain rfl:=Qk.o.1 Ud;have HG:=Z (show ∀X,g4 la gR X=some (gR,.rats X)from λ_=>BE Ud);rw[HG.o]at hS;obtain⟨gj,M,rfl,fg,q0,q1,q2,q3⟩:=HQ.o n (by have:=S.o;omega);have Ur:=Z (show ∀j,j<lb->∀V,Bl w V->(V.cell? ⟨M,j*4,none⟩=some (P (s' j))/\V.cell? ⟨M,j*4+1,none⟩=some (C (ah j) (ay j) (aj j))/\V.cell? ⟨M,j*4+2,none⟩=some (P (t' j))/\V.cell? ⟨M,j*4+3,none⟩=some (C (ai j) (aq j) (am j)))/\Jg V (.agg #[P (s' j),C (ah j) (ay j) (aj j),P (t' j),C (ai j) (aq j) (am j)]) (cf qs j)from λj hj V hB=>by
   obtain⟨hi,b,e,hb,c0,c1,c2,c3⟩:=HQ.o j hj;cases e;exact⟨⟨(hB.cell (p:=⟨M,_,none⟩) hb).trans c0,(hB.cell (p:=⟨M,_,none⟩) hb).trans c1,(hB.cell (p:=⟨M,_,none⟩) hb).trans c2,(hB.cell (p:=⟨M,_,none⟩) hb).trans c3⟩,hi.below hB⟩)
  clear gj fg q0 q1 q2 q3;have Qa:cf qs n≠0:=by
   have:=Ju Ug.o Ui.o;rwa[show qs.length-1=n by have:=S.o;have:=Qe.o;omega]at this
  obtain⟨z,gv,cj,ae,ap⟩:=HL.o k O;have Qv:z+(2*A+1)+(z+(2*A+1))<=1000000000:=O
  clear gv;obtain⟨i,hi⟩:=ex (m-(k+1):Nat);obtain⟨R,hR⟩:=ex ((JO ps qs n m k).2);obtain⟨Q,hQ⟩:=ex ((JO ps qs n m k).1);have Uy:R.length=la:=by rw[<-hR,(Xp ps qs n m k).2];exact Qb.o.symm
  have Wj:Q.length=m:=by rw[<-hQ];exact(Xp ps qs n m k).1
  rw[hR,hQ]at hS;rw[hR]at ae;obtain⟨t0,gr⟩:=ex (i+n:Nat);obtain⟨c,hc⟩:=ex (cf R t0/cf qs n);have Up:JO ps qs n m (k+1)=(Q.set i c,Xd R i (-c) qs qs.length):=by rw[JO];grind
  have Qd:DV (z+A) c:=by rw[<-hc];exact(ae t0).div2 (Qr.o n) Qa
  obtain⟨Wb,Qi,Ub⟩:=Db (show Sq c from Sq.of Qd O) (show ∀j,Sq (cf qs j)from λj=>Sq.of (Qr.o j) O) (show ∀j,Sq (c*cf qs j)from λj=>Sq.of (Qd.mul2 (Qr.o j)) O);have Wa:=Z (show ∀j t,Sq (cf (Xd R i (-c) qs j) t)from λj t=>by
   rcases OA R i (-c) qs j t with e|e
   . rw[e];exact Sq.of (ae t) O
   . rw[e];exact Sq.of ((ae t).add2 (Qd.neg.mul2 (Qr.o _))) O)
  obtain⟨Qu,Uu,gw,Qw,Qy,Qc⟩:=IC (show Sq (cf R t0)from Sq.of (ae t0) O) hc Qa (show decide (cf qs n≠0)=true from BK Qa) Up (show R.length=la/\Q.length=m/\t0<la/\i<m/\m-k=i+1/\m-(k+1)=i by have:=S.o;omega);have Un:(m:Int)-1-(k:Int)=(i:Int):=O
  have ib:(i:Int)+(n:Int)=(t0:Int):=O
  have iz:IntKind.i64.wrap (t0:Int)=(t0:Int):=by rw[BJ];have:=S.o;omega
  have iw:(t0:Int)<(la:Int):=by have:=Qc.o;omega
  have io:(n:Int)<(lb:Int):=by have:=S.o;omega
  have ie:(i:Int)<(m:Int):=by have:=Qc.o;omega
  rw[Un];have Qg:FZ w W W.drew (Gx w y (some ⟨M,0,none⟩) la E lb x m (some ⟨gR,0,none⟩) rc B5 (B5+1) (some (gR,.rats R)) Q++[Option.none]) B4 (n:Int) (B5+1) (m-k):=⟨⟨(hS.1.below ((BB _ W).drew)).none,(hS.below ((BB _ W).drew)).2⟩,Xh ((BB _ W).drew)⟩;clear hS hi hR hQ Uy Wj gr hc Qd cj ae ap Qv Qa Up Un Qj;gi_wp2_with fail
  refine LE (Or.inr ⟨l,rfl⟩) Dj [[],[],[],[1,2],[0,3],[4],[],[6],[],[7,8],[9],[5,10],[11],[12],[12],[],[15,13,11,0,1,2,3,4,5,6,7,8,9,10,11,12,13,15],[14,16,0,1,2,3,4,5,6,7,8,9,10,11,12,13,14,15,16]] [.eq (C (some ⟨gR,0,none⟩) la rc),.eq (G F (i:Int)),.eq (G F (n:Int)),.eq (G F (t0:Int)),.eq (L (some ⟨gR,t0*4,none⟩)),.rat (cf R t0),.eq (L (some ⟨w.heap.size+1,0,none⟩)),.eq (C (some ⟨M,0,none⟩) lb x),.eq (G F (n:Int)),.eq (L (some ⟨M,n*4,none⟩)),.rat (cf qs n),.tup1 (.rat c),.tup1 (.rat c),.rat c,.eq (P true),.ptr,.eq I,.eq (P true)] [15,16] (λb v V=>FZ w W V (Gx w y (some ⟨M,0,none⟩) la E lb x m (some ⟨gR,0,none⟩) rc B5 (B5+1) (some (gR,.rats R)) Q++[nb b v 0 1 (.rat 0) (.rat c)]) B4 (n:Int) (B5+1) (m-k)) Qg (Pu (.vl rfl λ_ j=>L8 5 j.1.1)<|Pu (.vl rfl λ_ _=>mv)<|Pu (.vl rfl λ_ j=>⟨_,by have e0:=j.1.2.1.cell;refine DS ?_;go_simp,rfl⟩)<|Pu (.vl rfl λh _=>⟨_,by refine DS ?_;rw[h.e 1,h.e 2];go_simp,rfl⟩)<|Pu (.vl rfl λh _=>⟨_,by refine DS ?_;rw[h.e 0,h.e 3];go_simp,rfl⟩)<|Pu (.vl rfl λh j=>P2 4 j.1.1 (by have:=Qc.o;omega) (h.e 4))<|Pu (.vl rfl λ_ _=>⟨_,by refine DS ?_;go_simp,rfl⟩)<|Pu (.vl rfl λh j=>⟨_,by have e0:=(j.1.1.cell (i:=1) rfl).1.cell;refine DS ?_;rw[h.e 6];go_simp,rfl⟩)<|Pu (.vl rfl λ_ j=>⟨_,by have e0:=j.1.2.1.cell;refine DS ?_;go_simp,rfl⟩)<|Pu (.vl rfl λh _=>⟨_,by refine DS ?_;rw[h.e 7,h.e 8];go_simp,rfl⟩)<|Pu (.vl rfl λh j=>by
     obtain⟨⟨e0,e1,e2,e3⟩,hr⟩:=Ur.o n (by have:=S.o;omega) _ j.1.1.2.2;exact⟨_,by refine DS ?_;rw[h.e 9];go_simp,hr⟩)<|Pu (.cl λh _=>Nb (by
     have q:=P7 _ _ (cf R t0) (cf qs n) _ (h.g 5) (h.g 10) Qu.o (Qi.o n);rw[Qw.o,Uu.o]at q;exact q))<|Pu (.vl rfl λh _=>mw (h.g 11))<|Pu (.vl rfl λh _=>Nj (h.g 12))<|Pu (.vl rfl λh _=>Nk (h.g 12))<|Pu (.wr rfl λ_ j=>Nf 9 j.1.1 (hT:=λm=>j.al m))<|Pu (.wr rfl λh j=>LG 9 j.1.1 (h.g 13) (hp:=h.g 15) (hT:=λn m=>j.up m n (mu _ _ _ _ _ _) (j.1.1.ne 6 9 rfl rfl DN) (QD _ _ _ _ _ _)))<|Pu (.vl rfl λh _=>aw (h.g 14)) Stp.end_)
   λf V hF MM=>?_
  refine DS ?_;obtain⟨Bc,bm⟩:=hF.p 15;rw[hF.e 0,hF.e 1,hF.e 2,hF.e 3,hF.e 4,hF.e 6,hF.e 7,hF.e 8,hF.e 9,hF.e 14,hF.e 17,bm];have MM:=Dz MM;simp only[bm]at MM;have HM:=Z MM;clear hF bm MM;obtain⟨s8,a8,l8,c8,t8,b8,k8,d8,n8,r8,i8,j8⟩:=HM.o.1.1.rat (i:=9) rfl;obtain⟨e0,e1,e2,e3⟩:=n8.cq;have e6:=(HM.o.1.1.cell (i:=7) rfl).1.cell;have hE:=HM.o.1.1.rats (i:=6) rfl;obtain⟨z0,z1,z2,z3⟩:=HM.o.1.2.2.1 i (by have:=Qc.o;omega);have f0:=hE.frozen (i*4);have f1:=hE.frozen (i*4+1);have f2:=hE.frozen (i*4+2);have f3:=hE.frozen (i*4+3);have gy:=Z r8;have Qz:=Z (show FZ w W (putAt V (B5+1) (i*4) (P s8) (C a8 l8 c8) (P t8) (C b8 k8 d8)) (Gx w y (some ⟨M,0,none⟩) la E lb x m (some ⟨gR,0,none⟩) rc B5 (B5+1) (some (gR,.rats R)) (Q.set i c)++[some (Bc,.rat c)]) B4 (n:Int) (B5+1) i from by
   have hp:=HM.o.1.1.putRats (i:=6) rfl (j:=i) (by have:=Qc.o;omega) r8;obtain⟨cs,Qd,_⟩:=hE;refine⟨⟨hp,(L4 (Vz HM.o.1.2.1 Qd) _ _ _ _).trans HM.o.1.2.1,ZQ.put (by have h:=HM.o.1.2.2.1;rwa[Qc.o.2.2.2.2.1]at h) _ _ _ _,?_⟩,HM.o.2.trans (VF _ _ _ _ _ _ _)⟩;exact(Ab.1 (UQ Qd _ _ _ _)).1)
  have c9:=(Qz.o.1.1.cell (i:=1) rfl).1.cell;unfold putAt at c9;clear n8 i8 j8 hE r8;gi_wp2_with fail
  obtain⟨W9,az⟩:=ex (putAt V (B5+1) (i*4) (P s8) (C a8 l8 c8) (P t8) (C b8 k8 d8));rw[az]at Qz;unfold putAt at az;rw[az];clear az c9 e0 e1 e2 e3 e6 z0 z1 z2 z3 f0 f1 f2 f3;gi_loopw [56] (λjv wr=>∃j:Nat,j<=lb/\jv=G F (j:Int)/\Hid (FZ w W wr (Gx w y (some ⟨M,0,none⟩) la E lb x m (some ⟨gR,0,none⟩) rc B5 (B5+1) (some (gR,.rats (Xd R i (-c) qs j))) (Q.set i c)++[some (Bc,.rat c)]) B4 (n:Int) (B5+1) i)) λjv _=>lb-(intOf jv).toNat
  case atStart=>exact⟨0,As _,rfl,Qz⟩
  case round=>
   obtain⟨j,hj,rfl,HJ⟩:=hrel;by_cases gn:j<lb
   . have ig:(j:Int)<(lb:Int):=O
     obtain⟨⟨e0,e1,e2,e3⟩,dx⟩:=Ur.o j gn wr HJ.o.1.1.2.2;have Uz:=Z dx;obtain⟨g,gu⟩:=ex (i+j:Nat);have ic:(i:Int)+(j:Int)=(g:Int):=O
     have Qp:=Z (show g<la/\g=i+j by have:=Qc.o;have:=S.o;omega);have ja:IntKind.i64.wrap (g:Int)=(g:Int):=by rw[BJ];have:=Qp.o;omega
     have ix:(g:Int)<(la:Int):=by have:=Qp.o;omega
     clear dx gu;gi_wp2_with fail
     have Qq:FZ w W (wr.alloc (H #[P (s' j),C (ah j) (ay j) (aj j),P (t' j),C (ai j) (aq j) (am j)] 41)) (Gx w y (some ⟨M,0,none⟩) la E lb x m (some ⟨gR,0,none⟩) rc B5 (B5+1) (some (gR,.rats (Xd R i (-c) qs j))) (Q.set i c)++[some (Bc,.rat c)]++[some (wr.heap.size,.rat (cf qs j))]) B4 (n:Int) (B5+1) i:=by
      have h1:=HJ.o.below (Ba wr (H #[P (s' j),C (ah j) (ay j) (aj j),P (t' j),C (ai j) (aq j) (am j)] 41));exact⟨⟨HJ.o.1.1.push (.rat (cf qs j)) Uz.o,h1.1.2⟩,h1.2⟩
     obtain⟨Wd,ce⟩:=ex (wr.alloc (H #[P (s' j),C (ah j) (ay j) (aj j),P (t' j),C (ai j) (aq j) (am j)] 41));obtain⟨Bd,bn⟩:=ex (wr.heap.size);rw[ce,bn]at Qq;rw[ce,bn];obtain⟨X,hX⟩:=ex (Xd R i (-c) qs j);rw[hX]at Qq;have Uj:=Z (show g<X.length by rw[<-hX,Ll];have:=Qc.o;have:=Qp.o;omega);have Ut:=Z (show Sq (cf X g)by rw[<-hX];exact Wa.o j g);have We:=Z (show X.set g (cf X g-c*cf qs j)=Xd R i (-c) qs (j+1)by
      rw[Xd,hX,<-Qp.o.2,show cf X g-c*cf qs j=cf X g+-c*cf qs j by grind])
     have Qg:=Qq.below ((BB _ Wd).drew);clear ce bn hX Qq e0 e1 e2 e3;refine LE (Or.inr ⟨l,rfl⟩) Dj [[],[],[],[1,2],[],[],[],[5,6],[4,7],[8],[],[],[10,11],[9,12,12],[0,3,0,1,2,3,4,5,6,7,8,9,10,11,12,13],[14,13,13,0,1,2,3,4,5,6,7,8,9,10,11,12,13]] [.eq (C (some ⟨gR,0,none⟩) la rc),.eq (G F (i:Int)),.eq (G F (j:Int)),.eq (G F (g:Int)),.eq (C (some ⟨gR,0,none⟩) la rc),.eq (G F (i:Int)),.eq (G F (j:Int)),.eq (G F (g:Int)),.eq (L (some ⟨gR,g*4,none⟩)),.rat (cf X g),.rat c,.rat (cf qs j),.rat (c*cf qs j),.rat (cf X g-c*cf qs j),.eq (L (some ⟨gR,g*4,none⟩)),.eq I] [15] (λb _ V=>FZ w W V (Gx w y (some ⟨M,0,none⟩) la E lb x m (some ⟨gR,0,none⟩) rc B5 (B5+1) (some (gR,.rats (if b.getD 0 false then X.set g (cf X g-c*cf qs j)else X))) (Q.set i c)++[some (Bc,.rat c)]++[some (Bd,.rat (cf qs j))]) B4 (n:Int) (B5+1) i) Qg (Pu (.vl rfl λ_ j=>L8 5 j.1.1)<|Pu (.vl rfl λ_ _=>mv)<|Pu (.vl rfl λ_ _=>mv)<|Pu (.vl rfl λh _=>⟨_,by refine DS ?_;rw[h.e 1,h.e 2];go_simp,rfl⟩)<|Pu (.vl rfl λ_ j=>L8 5 j.1.1)<|Pu (.vl rfl λ_ _=>mv)<|Pu (.vl rfl λ_ _=>mv)<|Pu (.vl rfl λh _=>⟨_,by refine DS ?_;rw[h.e 5,h.e 6];go_simp,rfl⟩)<|Pu (.vl rfl λh _=>⟨_,by refine DS ?_;rw[h.e 4,h.e 7];go_simp,rfl⟩)<|Pu (.vl rfl λh j=>P2 4 j.1.1 Uj.o (h.e 8))<|Pu (.vl rfl λ_ j=>Ek 9 j.1.1)<|Pu (.vl rfl λ_ j=>Ek 10 j.1.1)<|Pu (.cl λh _=>Kg _ _ c (cf qs j) _ (h.g 10) (h.g 11) Wb.o (Qi.o j))<|Pu (.cl λh _=>LJ _ _ (cf X g) (c*cf qs j) _ (h.g 9) (h.g 12) Ut.o (Ub.o j))<|Pu (.vl rfl λh _=>⟨_,by refine DS ?_;rw[h.e 0,h.e 3];go_simp,rfl⟩)<|Pu (.wr rfl λh j=>L9 4 j.1.1 Uj.o (h.g 13) (h.e 14) (hT:=λ⟨_,e,_⟩ m=>j.up m e (λB hB=>L4 hB _ _ _ _) (j.1.1.ne 6 4 rfl rfl DN) (VF _ _ _ _ _ _ _))) Stp.end_)
      λf V hF N=>?_
     refine DS ?_;rw[hF.e 0,hF.e 1,hF.e 2,hF.e 3,hF.e 4,hF.e 5,hF.e 6,hF.e 7,hF.e 8,hF.e 14];have N:=Dz N;rw[We.o]at N;have HO:=Z (show FZ w W V (Gx w y (some ⟨M,0,none⟩) la E lb x m (some ⟨gR,0,none⟩) rc B5 (B5+1) (some (gR,.rats (Xd R i (-c) qs (j+1)))) (Q.set i c)++[some (Bc,.rat c)]) B4 (n:Int) (B5+1) i from⟨⟨N.1.1.take 10,N.1.2⟩,N.2⟩);clear hF N;gi_wp2_with fail
     go_roundw
     case rel=>exact⟨j+1,O,by go_num,HO⟩
     case measure=>simp[intOf];omega
   . obtain rfl:j=lb:=O
     gi_wp2_with fail
     refine⟨HJ.o.2.from _,?_⟩;have N:=HJ.o.1.1.take 9;rw[Qe.o]at N;show Gi w wr (Gx w y _ la E _ x m _ rc B5 (B5+1) (g4 la gR (JO ps qs n m (k+1)).2) (JO ps qs n m (k+1)).1) B4 (n:Int) (B5+1) (m-(k+1));rw[Qy.o,Qc.o.2.2.2.2.2,HG.o];refine⟨?_,HJ.o.1.2⟩;have Qf:=Qe.o;rw[<-Qf];rw[<-Qf]at N;exact N
 case done=>
  intro DC W hD hS hK;have Uq:=(Xp ps qs n m m).2;have Uh:=(Xp ps qs n m m).1;have Qa:cf qs n≠0:=by
   have:=Ju Ug.o Ui.o;rwa[show qs.length-1=n by have:=S.o;have:=Qe.o;omega]at this
  obtain⟨z,Qv,cj,ae,ap⟩:=HL.o m (Aa _);have Qs:Jm ps qs=Jc (JO ps qs n m m).1:=by unfold Jm;rw[show qs.length-1=n by have:=S.o;have:=Qe.o;omega,show ps.length-n=m by have:=S.o;have:=Qb.o;omega]
  have Qx:JU ps qs=Jc (JO ps qs n m m).2:=by unfold JU;rw[show qs.length-1=n by have:=S.o;have:=Qe.o;omega,show ps.length-n=m by have:=S.o;have:=Qb.o;omega]
  obtain⟨R,hR⟩:=ex ((JO ps qs n m m).2);obtain⟨Q,hQ⟩:=ex ((JO ps qs n m m).1);rw[hR]at Uq ae Qx;rw[hQ]at Uh ap Qs;rw[hR,hQ]at hS;have Qu:=Z (show Sqs R from Sqs.of λi=>Sq.of (ae i) O);have ei:=Z (show Sqs Q from Sqs.of λi=>Sq.of (ap i) O);have Um:RowK true W (C a la rc) R:=by
   by_cases h0:la=0
   . rw[h0,AM (show R.length=0 by have:=Qb.o;omega)];exact⟨a,rc,rfl,As _,by have:=Qk.o;omega,DL,Or.inl rfl⟩
   . have h:=hS.1;rw[show g4 la gR R=some (gR,.rats R)from BE h0]at h;have h:=(h.rats (i:=4) rfl).row (n:=la) (cap:=rc) (by have:=Qb.o;omega) (by have:=Qk.o;omega) (by have:=Qk.o;omega) gq;rw[Qk.o.1 h0];rwa[Af (by have:=Qb.o;omega)]at h
  have Uc:RowK true W (C (some ⟨B5+1,0,none⟩) m m) Q:=by
   have h:=(hS.1.rats (i:=6) rfl).row (n:=m) (cap:=m) O (Aa _) O Ql;rwa[Af O]at h
  have Qg:DM w W.drew (((Gx w y qa la E lb x m a rc B5 (B5+1) (g4 la gR R) Q).set 2 (some (w.heap.size+1+1,.poly []))).set 3 (some (w.heap.size+1+1+1,.poly [])))/\Ie W.drew DC (C a la rc) (C (some ⟨B5+1,0,none⟩) m m) R Q:=⟨((hS.1.asPoly (i:=2) rfl).asPoly (i:=3) rfl).drew,Ie.below ⟨Um,Uc,hK⟩ ((BB _ W).drew)⟩;obtain⟨Us,Wc,Uw⟩:=Db Qs Qx (show w.heap.size<=DC by have:=Ul.o;omega);clear hS Uq Uh cj ae ap Qv Qs Qx hR hQ Qa Um Uc hK;gi_wp2_with fail
  refine LE (Or.inl rfl) Dj [[],[0],[],[2,1],[1,3,0,1],[3,4,0,1,2,3,4],[5,0,1,2,3,4,5]] [.eq (C (some ⟨B5+1,0,none⟩) m m),.poly (Jc Q),.eq (C a la rc),.poly (Jc R),.eq I,.eq I,.eq (P true)] [4,5] (λb _ V=>DM w V (((Gx w y qa la E lb x m a rc B5 (B5+1) (g4 la gR R) Q).set 2 (some (w.heap.size+1+1,.poly (if b.getD 0 false then Jc Q else [])))).set 3 (some (w.heap.size+1+1+1,.poly (if b.getD 1 false then Jc R else []))))/\Ie V DC (C a la rc) (C (some ⟨B5+1,0,none⟩) m m) R Q) Qg (Pu (.vl rfl λ_ j=>L8 7 j.1)<|Pu (.cl λh j=>c1 (h.e 0) ((Kh _ Q _ j.2.2.1 ei.o).mono λ_ _ ⟨u,e,h,_,b⟩=>⟨u,e,h,b⟩))<|Pu (.vl rfl λ_ j=>L8 5 j.1)<|Pu (.cl λh j=>c1 (h.e 2) ((Kh _ R _ j.2.1 Qu.o).mono λ_ _ ⟨u,e,h,_,b⟩=>⟨u,e,h,b⟩))<|Pu (.wr rfl λh j=>F8 2 j.1 (h.g 1) (hT:=λn m=>⟨m,j.2.set n _⟩))<|Pu (.wr rfl λh j=>F8 3 j.1 (h.g 3) (hT:=λn m=>⟨m,j.2.set n _⟩))<|Pu (.vl rfl λ_ _=>av) Stp.end_)
   λf V hF MM=>?_
  refine DS ?_;rw[hF.e 0,hF.e 2,hF.e 6];have MM:=Dz MM;obtain⟨a2,l2,c2,g2,gh⟩:=MM.1.poly2 (i:=2) rfl;obtain⟨a3,l3,c3,g3,gi⟩:=MM.1.poly2 (i:=3) rfl;have Ux:=MM.1.2.2;have Ua:=MM.2.2.2;clear hF MM;gi_wp2;refine⟨DL,.inl ⟨_,_,rfl,BU Ua,?_⟩⟩;have hg:=BW V DC (.deferred none);have Qn:∀r,some DC=some r->∃o:Obj,V.heap[r]?=some o/\o.isCells=false:=λr e=>by cases e;exact⟨_,Ua,rfl⟩
  have q2:Boxed _ (w.heap.size+1+1) 25 (C a2 l2 c2):=YD hg Qn (show Bx V (w.heap.size+1+1) 25 #[C a2 l2 c2]from g2);have q3:Boxed _ (w.heap.size+1+1+1) 25 (C a3 l3 c3):=YD hg Qn (show Bx V (w.heap.size+1+1+1) 25 #[C a3 l3 c3]from g3);have x2:=q2.cell;have x3:=q3.cell;refine⟨.tuple #[.agg #[C a2 l2 c2],.agg #[C a3 l3 c3],P true],by simp[results,Tryz.results193,go_sem,x2,x3],_,_,rfl,?_,?_,?_⟩
  . rw[Us.o];obtain⟨u,e,h⟩:=gh;exact⟨u,e,ME hg Qn h⟩
  . rw[Wc.o];obtain⟨u,e,h⟩:=gi;exact⟨u,e,ME hg Qn h⟩
  . exact Ux.trans (DH (w:=w) (Aa _) _ DC _ _ Uw.o Ua rfl rfl)
def boxed_own{row:Option Nat}(hg:V.grownBy V' row)(a:∀r,row=some r->∃o:Obj,V.heap[r]?=some o/\o.isCells=false)(h:Boxed V B t v):Boxed V' B t v:=YD hg a (show Bx V B t #[v]from h)
def mz(o:Value)(ps:List Rat)(q:Value)(w:T)(m:Jd w o ps)(d:Jd w q []):
 Calls U 193 #[o,q] w λe w'=>e=.returned (.tuple #[.agg #[C none 0 0],.agg #[C none 0 0],P false])/\Bl w w':=by
 obtain⟨v,la,x,rfl⟩:=m.form;obtain⟨f,lb,g,rfl⟩:=d.form;obtain⟨c,s,b⟩:=UT 25 (.cell 25 (C v la x)) EN 25 (.cell 25 (C f lb g)) EN 25 (.cell 25 (C none 0 0)) EN 25 (.cell 25 (C none 0 0)) EN (w:=w);have j:=b.o;have k:=Z (show Calls U 26 #[.agg #[C f lb g]] c λe w'=>e=.returned (G F (-1))/\Bl c w' from JY (.agg #[C f lb g]) [] c (d.below j.2.2));clear m d j;go_enter Tryz.func193,Tryz.ntmps193
 go_upto_region 1 with fail
 rw[s.o];have c1:=(b.o.cell (i:=1) rfl).1.cell;go_wp2_with(go_at_call 26;refine k.o.mono ?_;clear k;rintro e w1 ⟨rfl,n⟩;have l:Bl w1 (w1.alloc (H #[G F (-1)] 3)):=Ba w1 _;have a:=(b.o.below n).below l;have t:=(a.cell (i:=2) rfl).1.cell;have f2:=(a.cell (i:=2) rfl).1.frozen;have u:=(a.cell (i:=3) rfl).1.cell;have f3:=(a.cell (i:=3) rfl).1.frozen;have r:=Z a.2.2;clear l a n)
 refine BA (by simp[results,Tryz.results193,go_sem,t,u]) rfl ⟨rfl,?_⟩;exact((r.o.setCell (p:=⟨w.heap.size+1+1,0,none⟩) DK _).setCell (p:=⟨w.heap.size+1+1+1,0,none⟩) DK _)
def _root_.Go.Proofs.YtdmmbgahnkbnaaaGreatDoor.ySplit_n(A:Nat)(g j:Value)(ps qs:List Rat)(w:T)(d:Jd w g ps)(f:Jd w j qs)(_hs:Sqs ps)(hq:∀i,DV A (cf qs i))(_htp:Jc ps=ps)(m:Jc qs=qs)(a:qs≠[])
(l:∀k,k<=ps.length-(qs.length-1)->∃z,z+(2*A+1)<=1000000000/\(k<ps.length-(qs.length-1)->2*z+2*(2*A+1)<=1000000000)/\(∀i,DV z (cf (JO ps qs (qs.length-1) (ps.length-(qs.length-1)) k).2 i))/\∀i,DV (z+A) (cf (JO ps qs (qs.length-1) (ps.length-(qs.length-1)) k).1 i)):
 Calls U 193 #[g,j] w λe w'=>∃u v,e=.returned (.tuple #[u,v,P true])/\Jd w' u (Jm ps qs)/\Jd w' v (JU ps qs)/\Bl w w':=by
 obtain⟨n,la,o,rfl⟩:=d.form;obtain⟨p,lb,q,rfl⟩:=f.form;have b:=d.row;have c:=f.row;obtain⟨r,_⟩:=b.forms;obtain⟨s,_⟩:=c.forms;have t:=Ac.2 a;exact my A n p la o lb q (lb-1) (la-(lb-1)) ps qs w b c hq m a (λk hk=>by rw[show lb-1=qs.length-1 by omega,show la-(qs.length-1)=ps.length-(qs.length-1)by omega];exact l k O) O J
def m7(A:Nat)(b c:Value)(ps qs:List Rat)(w:T)(d:Jd w b ps)(f:Jd w c qs)(hs:Sqs ps)(hq:∀i,DV A (cf qs i))(l:Jc ps=ps)(m:Jc qs=qs)
(g:qs≠[]->∀k,k<=ps.length-(qs.length-1)->∃z,z+(2*A+1)<=1000000000/\(k<ps.length-(qs.length-1)->2*z+2*(2*A+1)<=1000000000)/\(∀i,DV z (cf (JO ps qs (qs.length-1) (ps.length-(qs.length-1)) k).2 i))/\∀i,DV (z+A) (cf (JO ps qs (qs.length-1) (ps.length-(qs.length-1)) k).1 i)):
 Calls U 193 #[b,c] w λe w'=>∃u v,e=.returned (.tuple #[u,v,P (decide (qs≠[]))])/\Jd w' u (if qs=[]then []else Jm ps qs)/\Jd w' v (if qs=[]then []else JU ps qs)/\Bl w w':=by
 by_cases a:qs=[]
 . subst a;refine(mz b ps c w d f).mono ?_;rintro e w' ⟨rfl,h⟩;exact⟨_,_,J,⟨_,J,RowK.nil _ _⟩,⟨_,J,RowK.nil _ _⟩,h⟩
 . have j:decide (qs≠[])=true:=BK a;rw[j];simp only[BE a];exact ySplit_n A b c ps qs w d f hs hq l m a (g a)
def LR(ps:List Rat)(n i:Nat)(S:List Rat):Prop:=S.length=n/\∀j,cf S j=if j<i then GD ps j else 0
theorem LR.next{ps:List Rat}{n:Nat}(h:LR ps n i S)(hi:i<n):LR ps n (i+1) (S.set i (GD ps i)):=by
 refine⟨by rw[Fm];exact h.1,λj=>?_⟩;rw[GY _ _ _ _ (by rw[h.1];exact hi),h.2 j];grind
def LR.done{ps:List Rat}{n:Nat}(h:LR ps n n S)(hn:n=ps.length-1):Jc S=Jb ps:=Is λj=>by
 rw[h.2 j,KO];split
 . rfl
 . rw[Ys (p:=ps) O,A6]
def LS(v:Value)(ps:List Rat)(w:T)(h:Jd w v ps)(ap:Sqs ps)(aq:∀i,Sq (GD ps i)):
 Calls U 27 #[v] w λe w'=>∃u,e=.returned u/\Jd w' u (Jb ps)/\Bl w w':=by
 obtain⟨y,la,g,rfl⟩:=h.form;have ha:=h.row;obtain⟨am,ay,az,bj,s,t,aa,bb,ll,cc,kk,dd,ai⟩:=ha.forms;obtain⟨V0,ae,o⟩:=LC 25 (.cell 25 (C y la g)) EN 25 (.cell 25 (C none 0 0)) EN (w:=w);have M1:=o.o;obtain⟨d,hd⟩:=ex ((ps.length:Int)-1:Int);have M:=Z (JY (.agg #[C y la g]) ps V0 (h.below M1.2.2));rw[hd]at M;obtain⟨n,hn⟩:=ex (ps.length-1:Nat);have Qd:max (0:Int) d=(n:Int):=O
 have Qn:∀W:T,(Instr.makeSlice 23 (G F (n:Int)) (G F (n:Int))).run U W=.ok (C (some ⟨W.heap.size,0,none⟩) n n) (W.alloc (H (YF n) 41)):=λW=>MD n O W;obtain⟨HP,Qi,Qk,z⟩:=Dr ai ap aq (show n=ps.length-1/\la=ps.length from⟨hn.symm,am⟩);have Qc:n<=1099511627776:=O
 clear h ha ai ap aq am ay az hn hd M1;go_enter Tryz.func27,Tryz.ntmps27
 go_upto_region 1 with fail
 rw[ae.o];have c0:=(o.o.cell (i:=0) rfl).1.cell;go_upto_region 2 with(go_at_call 26;refine M.o.mono ?_;clear M;rintro e w1 ⟨rfl,ah⟩)
 have D:DM w (w1.alloc (H (YF n) 41)) [some (w.heap.size,.cell 25 (C y la g)),some (w.heap.size+1,.cell 25 (C none 0 0)),some (w1.heap.size,.rats (List.replicate n 0))]:=(o.o.below ah).push (.rats (List.replicate n 0)) (MO _ n);obtain⟨V1,N⟩:=ex (w1.alloc (H (YF n) 41));obtain⟨r,R⟩:=ex (w1.heap.size);rw[N,R]at D;rw[N,R];have Qh:=Z D;clear D N R ah c0 o ae Qn Qd;go_wp2;go_loopw [11] (λiv wr=>∃(i:Nat) (S:List Rat),i<=n/\iv=G F (i:Int)/\Hid (LR ps n i S)/\Hid (DM w wr [some (w.heap.size,.cell 25 (C y la g)),some (w.heap.size+1,.cell 25 (C none 0 0)),some (r,.rats S)])) λiv _=>n-(intOf iv).toNat
 case atStart=>exact⟨0,_,As _,rfl,Z ⟨AO,λj=>by rw[J9,BE O]⟩,Qh⟩
 case round=>
  obtain⟨i,S,hi,rfl,c,m⟩:=hrel;clear Qh;by_cases an:i<n
  . have bm:(i:Int)<(n:Int):=O
    obtain⟨K,hK⟩:=ex (i+1:Nat);have bf:(i:Int)+1=(K:Int):=O
    have bi:IntKind.i64.wrap (K:Int)=(K:Int):=by rw[BJ];omega
    have bg:(K:Int)<(la:Int):=by have:=z.o;omega
    obtain⟨aj,a,rfl,l,p0,p1,p2,p3⟩:=HP.o K (by have:=z.o;omega);have Qo:=Z (show ∀V,Bl w V->(V.cell? ⟨a,K*4,none⟩=some (P (s K))/\V.cell? ⟨a,K*4+1,none⟩=some (C (aa K) (ll K) (cc K))/\V.cell? ⟨a,K*4+2,none⟩=some (P (t K))/\V.cell? ⟨a,K*4+3,none⟩=some (C (bb K) (kk K) (dd K)))/\Jg V (.agg #[P (s K),C (aa K) (ll K) (cc K),P (t K),C (bb K) (kk K) (dd K)]) (cf ps K)from λV k=>by
     exact⟨⟨(k.cell (p:=⟨a,_,none⟩) l).trans p0,(k.cell (p:=⟨a,_,none⟩) l).trans p1,(k.cell (p:=⟨a,_,none⟩) l).trans p2,(k.cell (p:=⟨a,_,none⟩) l).trans p3⟩,aj.below k⟩)
    have B:=Z (show K<=1099511627776/\K=i+1 by omega);have Qm:=Z (show cf ps K*((K:Int):Rat)=GD ps i by rw[B.o.2];rfl);have Qp:=Z (show i<S.length by rw[c.o.1];exact an);clear aj l p0 p1 p2 p3 hK;go_wp2_with fail
    have Qj:=m.o.drew;refine YB Dj [[],[],[],[2],[],[4],[3,5],[6],[],[8],[9],[7,10,10],[0,1,0,1,2,3,4,5,6,7,8,9,10,11],[12,11,11,0,1,2,3,4,5,6,7,8,9,10,11]] [.eq (C (some ⟨r,0,none⟩) n n),.eq (G F (i:Int)),.eq (L (some ⟨w.heap.size,0,none⟩)),.eq (C (some ⟨a,0,none⟩) la g),.eq (G F (i:Int)),.eq (G F (K:Int)),.eq (L (some ⟨a,K*4,none⟩)),.rat (cf ps K),.eq (G F (i:Int)),.eq (G F (K:Int)),.rat ((K:Int):Rat),.rat (GD ps i),.eq (L (some ⟨r,i*4,none⟩)),.eq I] [13] (λb _ V=>DM w V [some (w.heap.size,.cell 25 (C (some ⟨a,0,none⟩) la g)),some (w.heap.size+1,.cell 25 (C none 0 0)),some (r,if b.getD 0 false then .rats (S.set i (GD ps i))else .rats S)]) Qj (Pu (.vl rfl λ_ _=>mv)<|Pu (.vl rfl λ_ _=>mv)<|Pu (.vl rfl λ_ _=>⟨_,by refine DS ?_;go_simp,rfl⟩)<|Pu (.vl rfl λh j=>⟨_,by have e0:=(j.cell (i:=0) rfl).1.cell;refine DS ?_;rw[h.e 2];go_simp,rfl⟩)<|Pu (.vl rfl λ_ _=>mv)<|Pu (.vl rfl λh _=>⟨_,by refine DS ?_;rw[h.e 4];go_simp,rfl⟩)<|Pu (.vl rfl λh _=>⟨_,by refine DS ?_;rw[h.e 3,h.e 5];go_simp,rfl⟩)<|Pu (.vl rfl λh j=>by obtain⟨⟨e0,e1,e2,e3⟩,hr⟩:=Qo.o _ j.2.2;exact⟨_,by refine DS ?_;rw[h.e 6];go_simp,hr⟩)<|Pu (.vl rfl λ_ _=>mv)<|Pu (.vl rfl λh _=>⟨_,by refine DS ?_;rw[h.e 8];go_simp,rfl⟩)<|Pu (.cl λh _=>c1 (h.e 9) (VJ (K:Int) O (by have:=B.o;omega) _))<|Pu (.cl λh _=>Qm.o ▸ Kg _ _ (cf ps K) ((K:Int):Rat) _ (h.g 7) (h.g 10) (Qi.o.at K) (ls B.o.1))<|Pu (.vl rfl λh _=>⟨_,by refine DS ?_;rw[h.e 0,h.e 1];go_simp,rfl⟩)<|Pu (.wr rfl λh j=>L9 2 j Qp.o (h.g 11) (h.e 12)) Stp.end_)
     λf V hF q=>?_
    refine DS ?_;rw[hF.e 0,hF.e 1,hF.e 2,hF.e 3,hF.e 4,hF.e 5,hF.e 6,hF.e 8,hF.e 9,hF.e 12];have q:=Dz q;have HO:=Z q;clear q hF;go_wp2_with fail
    go_roundw
    case rel=>exact⟨i+1,_,O,by go_num,Z (c.o.next an),HO⟩
    case measure=>simp[intOf];omega
  . obtain rfl:i=n:=O
    have hE:=m.o.rats (i:=2) rfl;have A:=hE.row (n:=i) (cap:=i) (by rw[c.o.1];exact Aa _) (Aa _) O Qc;rw[Af (by rw[c.o.1];exact Aa _)]at A;have E:=Z (Kh _ S wr A (Sqs.of λj=>by
     rw[c.o.2 j];split
     . exact Qk.o j
     . exact GS))
    rw[c.o.done z.o.1]at E;clear hE A;go_wp2_with(go_at_call 43;refine E.o.mono ?_;clear E;rintro e w5 ⟨u5,rfl,X,_,Q⟩;obtain⟨a7,l7,c7,rfl⟩:=X.form;have x:=boxed_below (m.o.cell (i:=1) rfl).1 Q;have x0:=x.cell;have x1:=x.frozen;have Qq:=Z (FV x (C a7 l7 c7) X.row);have Ql:=Z ((Bt m.o.2.2 Q).setCell (p:=⟨w.heap.size+1,0,none⟩) (by show w.heap.size<=w.heap.size+1;omega) (C a7 l7 c7));clear X Q x)
    exact BA (by simp[results,Tryz.results27,go_sem,x0]) rfl ⟨_,rfl,⟨_,rfl,Qq.o⟩,Ql.o⟩
end M3
def CD(D:Int)(K:Nat)(c:Rat):Prop:=∃n:Int,c=Rat.divInt n D/\Sm K n
section
variable {D E:Int} {K M:Nat} {c d:Rat}
def CD.mono(h:CD D K c)(hk:K<=M):CD D M c:=by
 obtain⟨n,e,h⟩:=h;exact⟨n,e,h.mono hk⟩
def CD.smq(h:CD D K c)(hD:D≠0)(hs:Sm K D):DV K c:=by
 obtain⟨n,rfl,h⟩:=h;exact DV.divInt hD h hs
theorem CD.zero(D:Int)(K:Nat):CD D K 0:=⟨0,by rw[Rat.zero_divInt],Sm.zero K⟩
def CD.add(h:CD D K c)(a:CD D M d)(hD:D≠0):CD D (max K M+1) (c+d):=by
 obtain⟨n,rfl,h⟩:=h;obtain⟨m,rfl,a⟩:=a;refine⟨n+m,?_,?_⟩
 . rw[FA _ _ hD hD,<-Int.add_mul,Fs hD]
 . exact(h.mono (Nat.le_max_left ..)).add (a.mono (Nat.le_max_right ..))
def CD.mul(h:CD D K c)(a:CD E M d):CD (D*E) (K+M) (c*d):=by
 obtain⟨n,rfl,h⟩:=h;obtain⟨m,rfl,a⟩:=a;exact⟨n*m,by rw[Fl],h.mul a⟩
def CD.wide(h:CD D K c)(hE:Sm M E)(a:E≠0):CD (D*E) (K+M) c:=by
 obtain⟨n,rfl,h⟩:=h;exact⟨n*E,by rw[Fs a],h.mul hE⟩
end
def EO(D:Int)(K:Nat)(ps:List Rat):Prop:=∀i,CD D K (cf ps i)
theorem WA{D:Int}{K:Nat}{ps qs:List Rat}(hD:D≠0)(h:∀i j,CD D K (cf ps i*cf qs j))(n:Nat):∀(i k:Nat),CD D (K+min i ps.length) (cf (Ev ps qs n i) k):=by
 intro i;induction i with
 |zero=>intro k;rw[Ev,J9];exact CD.zero _ _
 |succ i a=>
  intro k;rw[Ev];rcases OA (Ev ps qs n i) i (cf ps i) qs qs.length k with e|e
  . rw[e];exact(a k).mono O
  . rw[e];by_cases hi:i<ps.length
    . exact((a k).add (h i (k-i)) hD).mono O
    grind[Ys]
def m8{D:Int}{K:Nat}{ps qs:List Rat}(hD:D≠0)(hs:Sm 1000000000 D)(h:∀i j,CD D K (cf ps i*cf qs j))(hk:K+ps.length+1<=1000000000):M3.Kj ps qs:=by
 have hq:∀c,CD D (K+ps.length+1) c->Sq c:=λc b=>Sq.of ((b.mono hk).smq hD hs) (Aa _);refine⟨λi j=>hq _ ((h i j).mono O),λn i j k=>?_⟩;have a:=WA hD h n i k;rcases OA (Ev ps qs n i) i (cf ps i) qs j k with e|e
 . rw[e];exact hq _ (a.mono O)
 . rw[e];exact hq _ ((a.add (h i (k-i)) hD).mono O)
def m9{D:Int}{K:Nat}{ps qs:List Rat}(hD:D≠0)(h:∀i j,CD D K (cf ps i*cf qs j)):EO D (K+ps.length) (Ji ps qs):=λk=>by
 unfold Ji;rw[Yp,K7];have a:=WA hD h (ps.length+qs.length) ps.length k;grind[SY]
def WB(p q:List Rat):(Ji p q).length<=p.length+q.length:=Id (Jv _ _) λi hi=>by grind[Ji,Yp,K7,lu]
def Sm.powZ{A:Nat}{v:Int}(h:Sm A v):∀n,Sm (n*A+1) (v^n):=by
 intro n;induction n with
 |zero=>rw[FP];exact Sm.one _ O
 |succ n a=>rw[CH,Cc,show n*A+1*A+1=n*A+1+A by omega];exact a.mul h
def nC{D:Int}{K:Nat}{c:Rat}(h:CD D K c):CD D K (-c):=by
 obtain⟨n,rfl,h⟩:=h;exact⟨-n,by rw[<-Rat.neg_divInt],by unfold Sm at h ⊢;rwa[FD]⟩
theorem WC{D E l:Int}{K A:Nat}{ps qs:List Rat}{n m:Nat}(hD:D≠0)(hp:EO D K ps)(hE:E≠0)(N:Sm A E)(hq:EO E A qs)(b:l≠0)(hl:Sm A l)(M:cf qs n=Rat.divInt l E)(B:cf qs n≠0):
 ∀k,EO (D*l^k) (K+k*(A+1)) (JO ps qs n m k).2/\EO (D*l^k) (K+k*(A+1)) (JO ps qs n m k).1:=by
 intro k;induction k with
 |zero=>
  rw[FP,Int.mul_one];exact⟨λi=>(hp i).mono O,λi=>by rw[JO,J9];exact CD.zero _ _⟩
 |succ k V=>
  obtain⟨d,g⟩:=V;have w:D*l^k≠0:=Cw hD (Int.pow_ne_zero b);have e:D*l^(k+1)=D*l^k*l:=by rw[CH,Int.mul_assoc]
  rw[e];have v:D*l^k*l≠0:=Cw w b;obtain⟨R,p⟩:=ex ((JO ps qs n m k).2);obtain⟨Q,o⟩:=ex ((JO ps qs n m k).1);rw[p]at d;rw[o]at g;obtain⟨r,z,s⟩:=d (m-(k+1)+n);obtain⟨c,q⟩:=ex (cf R (m-(k+1)+n)/cf qs n);have f:c=Rat.divInt (r*E) (D*l^k*l):=by
   rw[<-q];have y:cf R (m-(k+1)+n)=Rat.divInt (r*E) (D*l^k*l)*cf qs n:=by
    rw[M,Fl,z,show r*E*l=r*(E*l)from Int.mul_assoc _ _ _,show D*l^k*l*E=D*l^k*(E*l)by grind,Fs (Cw hE b)]
   rw[y,Rat.mul_div_cancel B]
  have t:CD (D*l^k*l) (K+(k+1)*(A+1)) c:=⟨r*E,f,(s.mul N).mono (by rw[Cc];omega)⟩;have u:∀j,CD (D*l^k*l) (K+k*(A+1)+A) (c*cf qs j):=λj=>by
   obtain⟨x,ex,S⟩:=hq j;refine⟨r*x,?_,s.mul S⟩;rw[f,ex,Fl,show r*E*x=r*x*E by grind,Fs hE]
  rw[JO,p,o];simp only[q];refine⟨λi=>?_,λi=>?_⟩
  . rcases OA R (m-(k+1)) (-c) qs qs.length i with a|a
    . rw[a];exact((d i).wide hl b).mono (by rw[Cc];omega)
    . rw[a,Rat.neg_mul];exact(((d i).wide hl b).add (nC (u _)) v).mono (by rw[Cc];omega)
  . rcases M3.ms Q (m-(k+1)) c i with a|a
    . rw[a];exact t
    . rw[a];exact((g i).wide hl b).mono (by rw[Cc];omega)
section
variable{n:Nat}{f g:Nat->Int}
theorem nD:∀(n:Nat) (f:Nat->Nat),(∀i,i<=n->f i<n)->∃i j,i<j/\j<=n/\f i=f j:=by
 intro n;induction n with
 |zero=>intro f h;grind
 |succ n d=>
  intro f h;by_cases c:∃i,i<=n/\f i=f (n+1)
  . obtain⟨i,a,b⟩:=c;exact⟨i,n+1,O,Aa _,b⟩
  . have k:∀i,i<=n->f i≠f (n+1):=λi hi e=>c ⟨i,hi,e⟩;obtain⟨i,j,a,b,g⟩:=d (λi=>if f i=n then f (n+1)else f i) (λi hi=>by
     grind)
    refine⟨i,j,a,O,?_⟩;grind
def enc(b:Nat):Nat->(Nat->Nat)->Nat
 |0,_=>0
 |M+1,d=>enc b M d+d M*b^M
theorem QX{b:Nat}{M:Nat}{d:Nat->Nat}(h:∀k,k<M->d k<b):enc b M d<b^M:=by
 induction M with
 |zero=>simp[enc]
 |succ M c=>
  have e:=c λk hk=>h k O;have a:=h M O;have f:(d M+1)*b^M<=b*b^M:=Ae _ a;grind[enc]
theorem nE{b:Nat}{M:Nat}{d a:Nat->Nat}(h:∀k,k<M->d k<b)(c:∀k,k<M->a k<b)(e:enc b M d=enc b M a):∀k,k<M->d k=a k:=by
 induction M with
 |zero=>intro k hk;omega
 |succ M f=>
  have l1:=QX (λk hk=>h k O:∀k,k<M->d k<b);have l2:=QX (λk hk=>c k O:∀k,k<M->a k<b);grind[enc,Nat.add_mul_div_right,Ct]
def Es(b x j:Nat):Nat:=x/b^j%b
def nF{b:Nat}(a:0<b)(x j:Nat):Es b x j<b:=Co _ a
theorem WD(b x:Nat):∀N,enc b N (Es b x)=x%b^N:=by
 intro N;induction N with
 |zero=>simp[enc,Nat.mod_one]
 |succ N a=>grind[enc,Nat.mod_pow_succ,Es]
def Y6:Nat->(Nat->Int)->Int
 |0,_=>0
 |n+1,f=>Y6 n f+f n
theorem WE(h:∀k,k<n->f k=g k):Y6 n f=Y6 n g:=by
 induction n with
 |zero=>rfl
 |succ n a=>grind[Y6]
def nH(n:Nat)(f g:Nat->Int):Y6 n (λk=>f k-g k)=Y6 n f-Y6 n g:=by
 induction n with
 |zero=>rfl
 |succ n a=>rw[Y6,Y6,Y6,a];omega
theorem OB{C:Nat}(h:∀k,k<n->(f k).natAbs<=C):(Y6 n f).natAbs<=n*C:=by
 induction n with
 |zero=>simp[Y6]
 |succ n a=>
  grind[Y6]
theorem nI(N A:Nat)(c:Nat->Nat->Int)(s:∀k j,(c k j).natAbs<=A):
 ∃z:Nat->Int,(∃j,j<N+1/\z j≠0)/\(∀j,(z j).natAbs<=(2*(N+1)*A+1)^N)/\∀k,k<N->Y6 (N+1) (λj=>c k j*z j)=0:=by
 obtain⟨B,e⟩:=ex ((2*(N+1)*A+1)^N);have i:1<=B:=by rw[<-e];exact CE O
 obtain⟨C,hC⟩:=ex ((N+1)*(A*B));have f:∀x j,Es (B+1) x j<=B:=λx j=>by have:=nF (b:=B+1) O x j;omega
 have r:∀x k,(Y6 (N+1) λj=>c k j*(Es (B+1) x j:Int)).natAbs<=C:=λx k=>by
  rw[<-hC];refine OB λj _=>?_;rw[Cv,Ay];exact Cq (s k j) (f x j)
 obtain⟨g,hg⟩:∃g:Nat->Nat->Nat,∀x k,(g x k:Int)=Y6 (N+1) (λj=>c k j*(Es (B+1) x j:Int))+C/\g x k<2*C+1:=
  ⟨λx k=>(Y6 (N+1) (λj=>c k j*(Es (B+1) x j:Int))+C).toNat,λx k=>by have:=r x k;dsimp only;omega⟩
 have E:(2*C+1)^N<(B+1)^(N+1):=by
  have a:2*C+1<=(2*(N+1)*A+1)*B:=by
   have l:2*C=2*(N+1)*A*B:=by rw[<-hC];simp only[CA]
   rw[l,Cc,FC];exact Nat.add_le_add_left i _
  have d:(2*C+1)^N<=B^(N+1):=by
   refine Ad (CG a N) ?_;rw[Nat.mul_pow,e,Ci,AV];exact Aa _
  exact CB d (Nat.pow_lt_pow_left O O)
 obtain⟨x,y,a,d,m⟩:=nD ((2*C+1)^N) (λx=>enc (2*C+1) N (g x)) λx _=>QX λk _=>(hg x k).2;have n:=nE (λk _=>(hg x k).2) (λk _=>(hg y k).2) m;refine⟨λj=>(Es (B+1) x j:Int)-(Es (B+1) y j:Int),?_,λj=>?_,λk hk=>?_⟩
 . by_cases t:∃j,j<N+1/\(Es (B+1) x j:Int)-(Es (B+1) y j:Int)≠0
   . exact t
   . exfalso
     have o:∀j,j<N+1->Es (B+1) x j=Es (B+1) y j:=λj K=>by
      grind
     have p:∀M,M<=N+1->enc (B+1) M (Es (B+1) x)=enc (B+1) M (Es (B+1) y):=λM=>by
      induction M with
      |zero=>intro _;rfl
      |succ M u=>intro hM;rw[enc,enc,u O,o M O]
     have q:=p (N+1) (Aa _);rw[WD,WD,Cx O,Cx O]at q;omega
 . grind
 . have w:=n k hk;have D:=(hg x k).1;have v:=(hg y k).1;rw[show(λj=>c k j*((Es (B+1) x j:Int)-(Es (B+1) y j:Int)))=(λj=>c k j*(Es (B+1) x j:Int)-c k j*(Es (B+1) y j:Int))from funext λj=>Int.mul_sub _ _ _,nH];omega
def WF(p q:List Rat):(JR p q).length<=max p.length q.length:=Id (Yx _ _) λi hi=>by grind[Mz,Ys]
def DQ(c:Rat)(p:List Rat):List Rat:=Jc (XJ c p)
theorem JK(c:Rat)(p:List Rat):Jc (DQ c p)=DQ c p:=Yl _
theorem Yw(c:Rat)(p:List Rat)(i:Nat):cf (DQ c p) i=cf p i*c:=by unfold DQ;rw[Yp,K6]
theorem Jn(c:Rat)(p:List Rat)(x:Rat):ev (DQ c p) x=ev p x*c:=by unfold DQ;rw[Hb,Iu]
def YU{a b:Rat}(c:a≠0)(d:b≠0):a*b≠0:=λh=>by
 grind
theorem QY{p:List Rat}(h:cf p n≠0):n<p.length:=by
 grind[Ys]
theorem YE{c:Rat}(d:c≠0){p:List Rat}(hp:Jc p=p):(DQ c p).length=p.length:=by
 refine FI (Id (JK _ _) λi hi=>by rw[Yw,Ys hi,A6]) ?_;by_cases a:p=[]
 . grind
 . have b:=Ju hp a;have e:0<p.length:=Ac.2 a;have f:=QY (p:=DQ c p) (n:=p.length-1) (by rw[Yw];exact YU b d);omega
theorem LT(c d:Rat)(p:List Rat):DQ c (DQ d p)=DQ (d*c) p:=YO (JK _ _) (JK _ _) λx=>by rw[Jn,Jn,Jn];grind
theorem KC{p:List Rat}(hp:Jc p=p):DQ 1 p=p:=YO (JK _ _) hp λx=>by rw[Jn];grind
theorem nJ(c:Rat):DQ c []=[]:=rfl
def Hn{c:Rat}(b:c≠0){p:List Rat}(hp:Jc p=p)(a:p≠[]):DQ c p≠[]:=λh=>by
 grind[YE]
theorem JC{p q:List Rat}(hp:Jc p=p)(hq:Jc q=q)(a:p≠[])(b:q≠[]):(Ji p q).length=p.length+q.length-1:=SW hp hq a b
def MQ{p:List Rat}(h:p.length=0):p=[]:=Al.1 h
def OC{p q u v:List Rat}(hq:Jc q=q)(a:q≠[])(f:Jc u=u)(hv:Jc v=v)(g:v.length<q.length)(h:∀x,ev p x=ev q x*ev u x+ev v x):u=Jm p q/\v=JU p q:=by
 obtain⟨b,c,d,e⟩:=Y3 p q hq a;exact cH hq a f d hv e g c (λx=>by rw[<-h x,b x])
theorem OD{c d:Rat}(a:d≠0)(p q:List Rat)(hq:Jc q=q)(b:q≠[]):Jm (DQ c p) (DQ d q)=DQ (c/d) (Jm p q)/\JU (DQ c p) (DQ d q)=DQ c (JU p q):=by
 obtain⟨f,e,g,j⟩:=Y3 p q hq b;have h:=OC (p:=DQ c p) (JK d q) (Hn a hq b) (JK (c/d) (Jm p q)) (JK c (JU p q)) (by
  rw[YE a hq];exact CB (Id (JK _ _) λi hi=>by rw[Yw,Ys hi,A6]) e) (λx=>by
  grind[Jn])
 grind
def WG:Nat->List Rat->List Rat->List Rat->List Rat->Prop
 |0,p,q,a,b=>p=a/\q=b
 |n+1,p,q,a,b=>∃c:Rat,q≠[]/\c≠0/\WG n q (DQ c (JU p q)) a b
def Eu(p q a b:List Rat):Prop:=∃n,WG n p q a b
def Eu.base(p q:List Rat):Eu p q p q:=⟨0,J,J⟩
def Eu.step(p q:List Rat)(c:Rat)(a b:List Rat)(h:q≠[])(k:c≠0):Eu q (DQ c (JU p q)) a b->Eu p q a b:=λ⟨n,e⟩=>⟨n+1,c,h,k,e⟩
def Eu.ind{d:∀p q a b:List Rat,Eu p q a b->Prop}(base:∀p q,d p q p q (.base p q))
(step:∀p q c a b (h:q≠[]) (k:c≠0) (e:Eu q (DQ c (JU p q)) a b),d q (DQ c (JU p q)) a b e->d p q a b (.step p q c a b h k e))
{p q a b:List Rat}(t:Eu p q a b):d p q a b t:=by
 obtain⟨n,e⟩:=t;induction n generalizing p q with
 |zero=>obtain⟨rfl,rfl⟩:=e;exact base _ _
 |succ n f=>obtain⟨c,h,k,e⟩:=e;exact step p q c a b h k ⟨n,e⟩ (f e)
def Eu.tail{p q a b:List Rat}(h:Eu p q a b){c:Rat}(e:b≠[])(f:c≠0):Eu p q b (DQ c (JU a b)):=by
 induction h using Eu.ind with
 |base p q=>exact .step p q c _ _ e f (.base _ _)
 |step p q d a b hq g _ i=>exact .step p q d _ _ hq g (i e)
theorem Xr(p q:List Rat):Jc (JU p q)=JU p q:=Yl _
theorem YC(p q:List Rat):Jc (Jm p q)=Jm p q:=Yl _
def Eu.len{p q a b:List Rat}(h:Eu p q a b):Jc q=q->b.length<=q.length:=by
 induction h using Eu.ind with
 |base p q=>exact λ_=>Aa _
 |step p q d a b hq f _ g=>
  intro c;have e:=g (JK _ _);rw[YE f (Xr _ _)]at e;have:=(Y3 p q c hq).2.1;omega
theorem nK{p q a b:List Rat}(h:Eu p q a b):Jc p=p->Jc q=q->b≠[]->∀u v T:List Rat,Jc u=u->Jc v=v->Jc T=T->u.length+b.length<=q.length+1->v.length+b.length<=p.length+1->(u≠[]\/v≠[])->T.length<b.length->
 (∀x,ev T x=ev u x*ev p x+ev v x*ev q x)->∃c:Rat,c≠0/\T=DQ c (JU a b):=by
 induction h using Eu.ind with
 |base p q=>
  intro hp hq g u v T j hv hT E lv f o n;have Q:u.length<=1:=O
  obtain⟨w,y,S,V⟩:=Y3 p q hq g;match u,Q,f with
  |[],_,f=>
   have s:v≠[]:=by
    rcases f with f|f
    . exact absurd J f
    . exact f
   have e:T=Ji v q:=YO hT (Jv _ _) λx=>by rw[Je,n x];simp[ev];grind
   grind[JC,Ac]
  |[c],_,_=>
   have hc:c≠0:=λe=>by
    have:=Ju j DL;simp[Xc]at this;exact this e
   refine⟨c,hc,?_⟩;have K:∀x,ev (DQ c p) x=ev q x*ev (DQ (-1) v) x+ev T x:=λx=>by
    grind[Jn,ev]
   have X:=(OC hq g (JK _ _) hT o K).2;have z:=(OD (c:=c) (d:=1) DN p q hq g).2;rw[KC hq]at z;rw[X,z]
 |step p q d a b g B hE D=>
  intro hp hq A u v T j hv hT E lv f o n;obtain⟨w,y,S,V⟩:=Y3 p q hq g;obtain⟨r,k⟩:=ex (DQ d (JU p q));rw[k]at hE D;have m:Jc r=r:=by rw[<-k];exact JK _ _
  have ai:b.length<=r.length:=hE.len m;have ah:0<b.length:=Ac.2 A;have an:r.length<q.length:=by rw[<-k,YE B (Xr _ _)];exact y
  have N:r≠[]:=λe=>by
   grind
  have aj:d*(1/d)=1:=by rw[AX];exact Ak B
  have l:(1/d)≠0:=λe=>by grind
  have M:∀x,ev p x=ev q x*ev (Jm p q) x+ev r x*(1/d):=λx=>by rw[w x,<-k,Jn];grind
  have t:∀x,ev T x=ev (Xx (Ji u (Jm p q)) v) x*ev q x+ev (DQ (1/d) u) x*ev r x:=λx=>by
   rw[n x,M x,Ye,Je,Jn];grind
  have ae:(DQ (1/d) u).length+b.length<=q.length+1:=by rw[YE l j];exact E
  refine D hq m A (Xx (Ji u (Jm p q)) v) (DQ (1/d) u) T (K8 _ _) (JK _ _) hT ?_ ae ?_ o t
  . by_cases hn:Xx (Ji u (Jm p q)) v=[]
    . rw[hn];simp;omega
    . have l1:=JC (K8 _ _) hq hn g;have e:Ji (Xx (Ji u (Jm p q)) v) q=JR T (Ji (DQ (1/d) u) r):=YO (Jv _ _) (Yx _ _) λx=>by rw[Je,Xy,Je,t x];grind
      have l2:=WF T (Ji (DQ (1/d) u) r);have l3:=WB (DQ (1/d) u) r;rw[<-e,l1]at l2;have am:0<q.length:=Ac.2 g;by_cases i:u=[]
      . have R:Ji (DQ (1/d) u) r=[]:=by rw[i];rfl
        rw[R]at l2;simp at l2;omega
      . have l4:=JC (JK _ _) m (Hn l j i) N;omega
  . by_cases i:u=[]
    . left
      have s:v≠[]:=by
       rcases f with f|f
       . exact absurd i f
       . exact f
      have e:Xx (Ji u (Jm p q)) v=v:=YO (K8 _ _) hv λx=>by rw[Ye,Je,i];simp[ev];grind
      rw[e];exact s
    . right;exact Hn l j i
def Ln(K:Nat)(r:List Rat):Prop:=∃c:Rat,c≠0/\∀i,∃z:Int,Sm K z/\cf r i*c=(z:Rat)
def nL(s t:Nat)(f:Nat->Int):Y6 (s+t) f=Y6 s f+Y6 t (λj=>f (s+j)):=by
 induction t with
 |zero=>simp[Y6]
 |succ t a=>rw[<-Nat.add_assoc,Y6,Y6,a];omega
def QZ{f:Nat->Rat}(h:∀k,k<n->f k=(g k:Rat)):Dw n f=((Y6 n g:Int):Rat):=by
 induction n with
 |zero=>rfl
 |succ n a=>rw[Dw,Y6,a λk hk=>h k O,h n O,Fa]
def OE(p q:List Rat)(h:p.length<=n)(k:Nat):cf (Ji p q) k=Dw n (λi=>if i<=k then cf p i*cf q (k-i)else 0):=by
 unfold Ji;rw[Yp,K7,<-cC p q h];rfl
theorem Ln.sc{K:Nat}{r:List Rat}(h:Ln K r){d:Rat}(g:d≠0):Ln K (DQ d r):=by
 obtain⟨c,f,j⟩:=h;have e:d*(1/d)=1:=by rw[AX];exact Ak g
 refine⟨(1/d)*c,YU (λk=>by grind) f,λi=>?_⟩;obtain⟨z,a,b⟩:=j i;exact⟨z,a,by rw[Yw,<-b];grind⟩
def Ln.mono{K L:Nat}{r:List Rat}(h:Ln K r)(hk:K<=L):Ln L r:=by
 obtain⟨c,d,e⟩:=h;exact⟨c,d,λi=>by obtain⟨z,a,b⟩:=e i;exact⟨z,a.mono hk,b⟩⟩
theorem nO{K N A B:Nat}(hA:A=Y^K)(f:N+1<=1000000000)(e:B=(2*(N+1)*A+1)^N):(N+1)*(A*B)<Y^((K+1)*(N+1)):=by
 have b:1<=A:=by rw[hA];exact CE Hf
 have c:2*(N+1)*A+1<=Y^(K+1):=by
  have a:(2*(N+1)+1)*A<=Y*A:=Ae _ uo;rw[Ci,<-hA,AV A];rw[Cc,FC]at a;exact Ad (Nat.add_le_add_left b _) a
 have d:(2*(N+1)*A+1)^(N+1)<=Y^((K+1)*(N+1)):=by rw[Fg];exact CG c _
 refine AJ ?_ d;grind[CA,AV,Ae]
theorem WH{K m:Nat}{p q:List Rat}{cp cq:Rat}(hp:Jc p=p)(hq:Jc q=q)(ai:cp≠0)(aj:cq≠0)(ae:∀i,∃z:Int,Sm K z/\cf p i*cp=(z:Rat))(ah:∀i,∃z:Int,Sm K z/\cf q i*cq=(z:Rat))(hl:p.length+q.length<=1000000000)(hle:q.length<=p.length)(az:0<m)(bg:m<=q.length):
 ∃u v:List Rat,Jc u=u/\Jc v=v/\u.length+m<=q.length+1/\v.length+m<=p.length+1/\(u≠[]\/v≠[])/\(Xx (Ji u p) (Ji v q)).length<m/\
  (∀i,∃z:Int,Sm ((K+1)*(p.length+q.length)) z/\cf (Xx (Ji u p) (Ji v q)) i=(z:Rat))/\(∀i,∃z:Int,Sm ((K+1)*(p.length+q.length)) z/\cf u i=(z:Rat)*cp)/\(∀i,∃z:Int,Sm ((K+1)*(p.length+q.length)) z/\cf v i=(z:Rat)*cq):=by
 obtain⟨α,hα⟩:=Classical.axiomOfChoice ae;obtain⟨β,hβ⟩:=Classical.axiomOfChoice ah;have bm:q≠[]:=λe=>by
  grind
 have V:p≠[]:=λe=>by
  grind
 obtain⟨s,hs⟩:=ex (q.length+1-m);obtain⟨t,ht⟩:=ex (p.length+1-m);obtain⟨N,hN⟩:=ex (s+t-1);obtain⟨A,hA⟩:=ex (Y^K);have ap:∀i,(α i).natAbs<=A:=λi=>by have:=(hα i).1;unfold Sm at this;omega
 have aq:∀i,(β i).natAbs<=A:=λi=>by have:=(hβ i).1;unfold Sm at this;omega
 have M:s+t=N+1:=O
 obtain⟨z,⟨c,bj,E⟩,l,an⟩:=nI N A (λk j=>if j<s then(if j<=m-1+k then α (m-1+k-j)else 0)else(if j-s<=m-1+k then β (m-1+k-(j-s))else 0)) (λk j=>by
  grind)
 obtain⟨B,x⟩:=ex ((2*(N+1)*A+1)^N);rw[x]at l;obtain⟨u,y⟩:=ex (Jc ((List.range s).map λj=>(z j:Rat)*cp));obtain⟨v,hv⟩:=ex (Jc ((List.range t).map λj=>(z (s+j):Rat)*cq));have d:Jc u=u:=by rw[<-y];exact Yl _
 have o:Jc v=v:=by rw[<-hv];exact Yl _
 have n:∀j,cf u j=if j<s then(z j:Rat)*cp else 0:=λj=>by rw[<-y,Yp,Ov]
 have r:∀j,cf v j=if j<t then(z (s+j):Rat)*cq else 0:=λj=>by rw[<-hv,Yp,Ov]
 have Q:u.length<=s:=Id d λi hi=>by grind
 have X:v.length<=t:=Id o λi hi=>by grind
 obtain⟨a,hZ⟩:∃a:Nat->Int,∀i,a i=Y6 s (λj=>if j<=i then z j*α (i-j)else 0)+Y6 t (λj=>if j<=i then z (s+j)*β (i-j)else 0):=⟨_,λ_=>rfl⟩;have hT:∀i,cf (Xx (Ji u p) (Ji v q)) i=(a i:Rat):=λi=>by
  rw[cL,OE u p Q,OE v q X,hZ,Fa];congr 1
  . refine QZ λj f=>?_;split
    . grind
    . rfl
  . refine QZ λj f=>?_;split
    . grind
    . rfl
 have ay:∀i,(a i).natAbs<=(N+1)*(A*B):=λi=>by
  have b:(Y6 s λj=>if j<=i then z j*α (i-j)else 0).natAbs<=s*(A*B):=OB λj _=>by
   split
   . rw[Cv,AV];exact Cq (ap _) (l _)
   . simp
  have w:(Y6 t λj=>if j<=i then z (s+j)*β (i-j)else 0).natAbs<=t*(A*B):=OB λj _=>by
   split
   . rw[Cv,AV];exact Cq (aq _) (l _)
   . simp
  grind[Cc]
 have Qk:(Xx (Ji u p) (Ji v q)).length<m:=by
  have:(Xx (Ji u p) (Ji v q)).length<=m-1:=Id (K8 _ _) λi hi=>by
   by_cases bi:i<m-1+N
   . rw[hT];have e:=an (i-(m-1)) O;rw[<-M,nL]at e;have b:Y6 s (λj=>if j<=i then z j*α (i-j)else 0)=Y6 s (λj=>(if j<s then(if j<=m-1+(i-(m-1))then α (m-1+(i-(m-1))-j)else 0)else(if j-s<=m-1+(i-(m-1))then β (m-1+(i-(m-1))-(j-s))else 0))*z j):=WE λj f=>by
      grind
     have w:Y6 t (λj=>if j<=i then z (s+j)*β (i-j)else 0)=Y6 t (λj=>(if s+j<s then(if s+j<=m-1+(i-(m-1))then α (m-1+(i-(m-1))-(s+j))else 0)else(if s+j-s<=m-1+(i-(m-1))then β (m-1+(i-(m-1))-(s+j-s))else 0))*z (s+j)):=WE λj f=>by
      grind
     rw[hZ,b,w,e];rfl
   . refine Ys ?_;have l1:=cO (Ji u p) (Ji v q);by_cases D:u=[]
     . have e0:Ji u p=[]:=by rw[D];rfl
       by_cases g:v=[]
       . have b:Ji v q=[]:=by rw[g];rfl
         grind
       grind[JC]
     . have l2:=JC d hp D V;by_cases g:v=[]
       . have b:Ji v q=[]:=by rw[g];rfl
         grind
       grind[JC]
  omega
 have R:u≠[]\/v≠[]:=by
  by_cases am:c<s
  . left
    intro e;have:=n c;rw[e,Xk,BF am]at this;exact YU (by exact_mod_cast E) ai this.symm
  . right
    intro e;have:=r (c-s);rw[e,Xk,BF O,show s+(c-s)=c from by omega]at this;exact YU (by exact_mod_cast E) aj this.symm
 have bf:=nO hA.symm O x.symm;have h5:(K+1)*(N+1)<=(K+1)*(p.length+q.length):=Ai _ O;have S:1<=A:=by rw[<-hA];exact CE Hf
 have bn:∀i,Sm ((K+1)*(p.length+q.length)) (z i):=λi=>by
  have b:B<=(N+1)*(A*B):=Ad (Cl B S) (Cl _ O);unfold Sm;grind[AJ,AC,Hf]
 refine⟨u,v,d,o,O,O,R,Qk,λi=>⟨a i,?_,hT i⟩,λi=>?_,λi=>?_⟩
 . grind[Sm,AJ,AC,Hf]
 . rw[n];split
   . grind
   . exact⟨0,Sm.zero _,DL⟩
 . rw[r];split
   . grind
   . exact⟨0,Sm.zero _,DL⟩
theorem WI{K:Nat}{p q a b:List Rat}(hp:Jc p=p)(hq:Jc q=q)(e:Ln K p)(f:Ln K q)(hl:p.length+q.length<=1000000000)(hle:q.length<=p.length)(h:Eu p q a b)(d:b≠[]):Ln ((K+1)*(p.length+q.length)) (JU a b):=by
 obtain⟨cp,m,j⟩:=e;obtain⟨cq,n,k⟩:=f;obtain⟨u,v,s,t,r,hv,o,g,hT,_,_⟩:=WH hp hq m n j k hl hle (Ac.2 d) (h.len hq);obtain⟨c,l,w⟩:=nK h hp hq d u v _ s t (K8 _ _) r hv o g (λx=>by rw[Ye,Je,Je]);refine⟨c,l,λi=>?_⟩;obtain⟨z,y,A⟩:=hT i;grind[Yw]
def nR{p q:List Rat}(hp:Jc p=p)(hq:Jc q=q)(h:p.length<q.length):JU p q=p:=
 ((OC (p:=p) hq (λe=>by rw[e]at h;simp at h) (u:=[]) (v:=p) J hp h λx=>by simp[ev];grind).2).symm
theorem WJ{K:Nat}{p q a b:List Rat}(hp:Jc p=p)(hq:Jc q=q)(d:Ln K p)(e:Ln K q)(hl:p.length+q.length<=1000000000)(h:Eu p q a b)(f:b≠[]):Ln ((K+1)*(p.length+q.length)) (JU a b):=by
 by_cases hle:q.length<=p.length
 . exact WI hp hq d e hl hle h f
 . have hs:=nR hp hq O;match h with
   |⟨0,i,j⟩=>subst i;subst j;rw[hs];exact d.mono (by
    have:(K+1)*1<=(K+1)*(p.length+q.length):=Ai _ O
    omega)
   |⟨n+1,c,m,g,hE⟩=>
    have hE:Eu q (DQ c (JU p q)) a b:=⟨n,hE⟩;rw[hs]at hE;have l:=YE g hp;have k:=WI hq (JK c p) e (d.sc g) O O hE f;grind
def MR{c:Rat}(a:c≠0):1/c≠0:=λe=>by
 grind
def Js(p:List Rat):List Rat:=DQ (1/cf p (p.length-1)) p
def nU:Js []=[]:=rfl
theorem Yu(p:List Rat):Jc (Js p)=Js p:=JK _ _
theorem MS{c:Rat}(a:c≠0){p:List Rat}(hp:Jc p=p):Js (DQ c p)=Js p:=by
 grind[Js,YE,Yw,LT]
def Kn{p:List Rat}(hp:Jc p=p)(a:p≠[]):Js p≠[]:=Hn (MR (Ju hp a)) hp a
theorem XW{p:List Rat}(hp:Jc p=p):(Js p).length=p.length:=by
 by_cases a:p=[]
 . subst a;rfl
 . exact YE (MR (Ju hp a)) hp
theorem Q3{p:List Rat}(hp:Jc p=p)(a:p≠[]):cf (Js p) ((Js p).length-1)=1:=by
 grind[XW,Js,Yw,Ju]
def KD{p:List Rat}(hp:Jc p=p):Js (Js p)=Js p:=by
 by_cases a:p=[]
 . subst a;rfl
 . exact MS (MR (Ju hp a)) hp
def ET:Nat->List Rat->List Rat->List Rat
 |0,p,_=>Js p
 |n+1,p,q=>if q=[]then Js p else ET n q (JU p q)
def Jr(p q:List Rat):List Rat:=ET q.length p q
theorem nV:∀(n m:Nat) (p q:List Rat),Jc q=q->q.length<=n->q.length<=m->ET n p q=ET m p q:=by
 intro n;induction n with
 |zero=>
  intro m p q _ h _;have hq:q=[]:=MQ O;subst hq;cases m with
  |zero=>rfl
  |succ m=>simp[ET]
 |succ n d=>
  intro m p q hq h b;by_cases a:q=[]
  . grind
  . have hl:0<q.length:=Ac.2 a;cases m with
    |zero=>omega
    |succ m=>
     have c:=(Y3 p q hq a).2.1;grind[ET,Xr]
def WK(p:List Rat):Jr p []=Js p:=rfl
theorem nW{p q:List Rat}(hq:Jc q=q)(a:q≠[]):Jr p q=Jr q (JU p q):=by
 have b:=(Y3 p q hq a).2.1;have hl:0<q.length:=Ac.2 a;unfold Jr;obtain⟨n,hn⟩:∃n,q.length=n+1:=⟨q.length-1,O⟩;grind[ET,nV,Xr]
theorem nX:∀(n:Nat) (c d:Rat) (p q:List Rat),c≠0->d≠0->Jc p=p->Jc q=q->ET n (DQ c p) (DQ d q)=ET n p q:=by
 intro n;induction n with
 |zero=>intro c d p q b _ hp _;exact MS b hp
 |succ n f=>
  intro c d p q b e hp hq;by_cases a:q=[]
  . grind[ET,nJ,MS]
  . simp only[ET,BE a,BE (Hn e hq a)];rw[(OD e p q hq a).2];exact f d c q (JU p q) e b hq (Xr _ _)
theorem Q4{c d:Rat}{p q:List Rat}(a:c≠0)(b:d≠0)(hp:Jc p=p)(hq:Jc q=q):Jr (DQ c p) (DQ d q)=Jr p q:=by
 grind[Jr,YE,nX]
def Eu.gcd{p q a b:List Rat}(h:Eu p q a b):Jc p=p->Jc q=q->Jr p q=Jr a b:=by
 induction h using Eu.ind with
 |base p q=>exact λ_ _=>rfl
 |step p q c a b f e _ g=>
  intro hp hq;rw[<-g hq (JK _ _),nW hq f];have d:=Q4 (c:=1) DN e hq (Xr p q);rw[KC hq]at d;exact d.symm
theorem nY:∀(n:Nat) (p q:List Rat),Jc (ET n p q)=ET n p q:=by
 intro n;induction n with
 |zero=>intro p q;exact Yu _
 |succ n a=>
  intro p q;grind[ET,Yu]
def JE(p q:List Rat):Jc (Jr p q)=Jr p q:=nY _ _ _
theorem Ho(c:Rat):c*(c.den:Rat)=(c.num:Rat):=by
 have a:((c.den:Int):Rat)≠0:=by exact_mod_cast c.den_nz
 grind[CC,AP,AH]
theorem dvd_one{a b c:Int}(h:a∣b*c)(hg:Nat.gcd a.natAbs c.natAbs=1):a∣b:=by
 have d:=CP.2 h;grind[Cv,CP,Nat.Coprime.dvd_of_dvd_mul_right]
theorem nZ{c:Rat}{D n:Int}(h:c*(D:Rat)=(n:Rat)):(c.den:Int)∣D/\c.num*D=n*c.den:=by
 have f:(c.den:Rat)≠0:=by exact_mod_cast c.den_nz
 have a:c*(c.den:Rat)=(c.num:Rat):=Ho c;have b:((c.num*D:Int):Rat)=((n*(c.den:Int):Int):Rat):=by
  rw[Az,Az,<-a,<-h];show c*(c.den:Rat)*(D:Rat)=c*(D:Rat)*((c.den:Int):Rat);rw[AH];grind
 have d:c.num*D=n*c.den:=Rat.intCast_inj.1 b;refine⟨?_,d⟩;have e:(c.den:Int)∣D*c.num:=⟨n,DK⟩;refine dvd_one e ?_;show Nat.gcd (c.den:Int).natAbs c.num.natAbs=1;rw[Ay,CW];exact c.reduced
theorem nd{p:List Rat}{L G:Int}(M:∀i,((cf p i).den:Int)∣L)(N:∀u:Int,(∀i,((cf p i).den:Int)∣u)->L∣u)(D:∀i,G∣(cf p i).num)(E:∀v:Int,(∀i,v∣(cf p i).num)->v∣G)(n:G≠0){K:Nat}(h:Ln K p):
 ∀i,∃z:Int,Sm K z/\cf p i*((L:Rat)/(G:Rat))=(z:Rat):=by
 obtain⟨c,Q,S⟩:=h;have w:c.num≠0:=λe=>Q (Fy.1 e);have s:(c.den:Int)≠0:=by have:=c.den_nz;omega
 have g:∀i,∃z:Int,Sm K z/\(cf p i).num*c.num=z*((cf p i).den*c.den):=λi=>by
  obtain⟨z,k,l⟩:=S i;refine⟨z,k,?_⟩;have y:c*(c.den:Rat)=(c.num:Rat):=Ho c;have j:cf p i*((cf p i).den:Rat)=((cf p i).num:Rat):=Ho _;have A:(((cf p i).num*c.num:Int):Rat)=((z*(((cf p i).den:Int)*(c.den:Int)):Int):Rat):=by
   rw[Az,Az,Az,AH,AH,<-y,<-j,<-l];grind
  exact Rat.intCast_inj.1 A
 have b:L∣c.num:=N _ λi=>by
  obtain⟨z,_,e⟩:=g i;have a:((cf p i).den:Int)∣(cf p i).num*c.num:=⟨z*c.den,DK⟩;rw[Int.mul_comm]at a;refine dvd_one a ?_;show Nat.gcd ((cf p i).den:Int).natAbs (cf p i).num.natAbs=1;rw[Ay,CW];exact(cf p i).reduced
 have hv:(c.den:Int)∣G:=E _ λi=>by
  obtain⟨z,_,e⟩:=g i;have a:(c.den:Int)∣(cf p i).num*c.num:=⟨z*(cf p i).den,DK⟩;refine dvd_one a ?_;show Nat.gcd (c.den:Int).natAbs c.num.natAbs=1;rw[Ay,CW];exact c.reduced
 obtain⟨u,b⟩:=b;obtain⟨v,hv⟩:=hv;have x:u≠0:=λe=>w (by rw[b,e,FG]);have r:v≠0:=λe=>n (by rw[hv,e,FG]);intro i;obtain⟨e,o⟩:=M i;obtain⟨m,q⟩:=D i;obtain⟨z,k,l⟩:=g i;have R:((cf p i).den:Int)≠0:=by have:=(cf p i).den_nz;omega
 have t:z=m*e*(u*v):=by
  have B:z*(((cf p i).den:Int)*c.den)=m*e*(u*v)*(((cf p i).den:Int)*c.den):=by
   rw[<-l,q,b,hv,o];generalize ((cf p i).den:Int)=d;generalize (c.den:Int)=f;grind
  exact Int.eq_of_mul_eq_mul_right (Cw R s) B
 refine⟨m*e,k.le ?_,?_⟩
 . rw[t,Cv (m*e)]
   have:0<(u*v).natAbs:=Int.natAbs_pos.2 (Cw x r)
   exact Cf _ this
 . have V:(G:Rat)≠0:=by exact_mod_cast n
   have j:cf p i*((cf p i).den:Rat)=((cf p i).num:Rat):=Ho _;rw[q,Az]at j;have X:(L:Rat)=((cf p i).den:Rat)*(e:Rat):=by rw[o,Az,AH]
   grind
def XK(p:List Rat):Nat->Nat
 |0=>1
 |n+1=>Nat.lcm (XK p n) (cf p n).den
def Xu(p:List Rat):Nat->Nat
 |0=>0
 |n+1=>Nat.gcd (Xu p n) (cf p n).num.natAbs
def WL(p:List Rat):∀n,0<XK p n:=by
 intro n;induction n with
 |zero=>exact Nat.one_pos
 |succ n a=>exact Nat.lcm_pos a (cf p n).den_pos
theorem Q5(p:List Rat):∀n i,i<n->(cf p i).den∣XK p n:=by
 intro n;induction n with
 |zero=>intro i h;omega
 |succ n a=>
  intro i h;grind[XK,Nat.dvd_lcm_right,Nat.dvd_trans,Nat.dvd_lcm_left]
def Q6(p:List Rat)(u:Nat)(h:∀i,(cf p i).den∣u):∀n,XK p n∣u:=by
 intro n;induction n with
 |zero=>exact Nat.one_dvd _
 |succ n a=>exact Nat.lcm_dvd a (h n)
theorem Q7(p:List Rat):∀n i,i<n->Xu p n∣(cf p i).num.natAbs:=by
 intro n;induction n with
 |zero=>intro i h;omega
 |succ n a=>
  intro i h;grind[Xu,CX,Nat.dvd_trans,Fj]
def WM(p:List Rat)(v:Nat)(h:∀i,v∣(cf p i).num.natAbs):∀n,v∣Xu p n:=by
 intro n;induction n with
 |zero=>exact Nat.dvd_zero _
 |succ n a=>exact Nat.dvd_gcd a (h n)
theorem WN{D:Int}{K:Nat}{c:Rat}(hD:D≠0)(h:CD D K c):∃n:Int,Sm K n/\c*(D:Rat)=(n:Rat):=by
 obtain⟨n,rfl,h⟩:=h;refine⟨n,h,?_⟩;have a:(D:Rat)≠0:=by exact_mod_cast hD
 grind[AP]
theorem OG{D:Int}{K:Nat}{c:Rat}{n:Int}(hD:D≠0)(hn:Sm K n)(h:c*(D:Rat)=(n:Rat)):CD D K c:=by
 refine⟨n,?_,hn⟩;have a:(D:Rat)≠0:=by exact_mod_cast hD
 grind[AP]
theorem WO{D:Int}{K:Nat}{p:List Rat}(hD:D≠0)(hs:Sm K D)(h:EO D K p)(n:Nat):Sm K (XK p n:Int):=by
 refine hs.le ?_;rw[Ay];refine Nat.le_of_dvd (Int.natAbs_pos.2 hD) (Q6 p _ (λi=>?_) n);obtain⟨z,_,e⟩:=WN hD (h i);grind[nZ,CJ]
def WP{K:Nat}{p:List Rat}(h:∀i,Sm K (cf p i).num):∀n,Sm K (Xu p n:Int):=by
 intro n;induction n with
 |zero=>exact Sm.zero K
 |succ n a=>exact Sm.gcd a (h n)
def EO.ln{D:Int}{K:Nat}{p:List Rat}(hD:D≠0)(h:EO D K p):Ln K p:=
 ⟨(D:Rat),by exact_mod_cast hD,λi=>WN hD (h i)⟩
def MT{p:List Rat}(hp:Jc p=p)(a:p≠[]):Xu p p.length≠0:=λe=>by
 have hl:0<p.length:=Ac.2 a;have b:=Q7 p p.length (p.length-1) O;grind[Nat.zero_dvd,Ju,Fy]
def Jp(p:List Rat):List Rat:=DQ ((XK p p.length:Rat)/(Xu p p.length:Rat)) p
theorem nf{p:List Rat}(hp:Jc p=p)(a:p≠[]):0<(XK p p.length:Rat)/(Xu p p.length:Rat):=by
 have b:(0:Rat)<(XK p p.length:Rat):=by exact_mod_cast WL p _
 have c:(0:Rat)<(Xu p p.length:Rat):=by exact_mod_cast Nat.pos_of_ne_zero (MT hp a)
 grind[Rat.mul_pos,Rat.inv_pos]
theorem Q8{p:List Rat}(hp:Jc p=p)(b:p≠[]){K:Nat}(h:Ln K p):∀i,∃z:Int,Sm K z/\cf (Jp p) i=(z:Rat):=by
 have a:∀i,p.length<=i->cf p i=0:=λi hi=>Ys hi;have c:=nd (p:=p) (L:=(XK p p.length:Int)) (G:=(Xu p p.length:Int)) (λi=>by
  by_cases hi:i<p.length
  . grind[Int.natCast_dvd_natCast,Q5]
  . rw[a i O];exact Int.one_dvd _) (λu d=>by
  refine CJ.2 (Q6 p _ (λi=>CJ.1 (d i)) _)) (λi=>by
  by_cases hi:i<p.length
  . exact CJ.2 (Q7 p _ i hi)
  . rw[a i O];exact Int.dvd_zero _) (λv hv=>by
  have:v.natAbs∣Xu p p.length:=WM p _ (λi=>CP.2 (hv i)) _
  grind[Int.natAbs_dvd,Int.natCast_dvd_natCast]) (by have:=MT hp b;omega) h
 intro i;obtain⟨z,e,f⟩:=c i;grind[Jp,Yw,AH]
structure DivS(A la:Nat)(S:Nat->List Rat->List Rat->Prop)(qs:List Rat):Prop where
 next:∀(k:Nat) (R Q:List Rat) (n:Nat) (a:Rat),S k R Q->(∀i,i+qs.length<=R.length->cf Q i=0)->qs.length<=R.length->n=R.length-qs.length->a=cf R (R.length-1)/cf qs (qs.length-1)->
  (∀i,cf (JR R (Ji (Jc (Gm n [a])) qs)) i=cf R i-(if n<=i then a*cf qs (i-n)else 0))->(∀i,cf (Xx Q (Jc (Gm n [a]))) i=if i=n then a else cf Q i)->S (k+1) (JR R (Ji (Jc (Gm n [a])) qs)) (Xx Q (Jc (Gm n [a])))
 size:∀(k:Nat) (R Q:List Rat),k<=la->S k R Q->Sqs R/\Sqs Q/\∃z,z+(2*A+1)<=1000000000/\∀i,DV z (cf R i)
end
section
variable {D E l:Int} {K A:Nat} {ps qs:List Rat}
structure Dvn(D E l:Int)(K A:Nat)(ps qs:List Rat):Prop where
 hD:D≠0
 sD:Sm K D
 hp:EO D K ps
 hE:E≠0
 sE:Sm A E
 hq:EO E A qs
 hl:l≠0
 sl:Sm A l
 lead:cf qs (qs.length-1)=Rat.divInt l E
variable{m:Nat}
def Dvn.lne(h:Dvn D E l K A ps qs):cf qs (qs.length-1)≠0:=by
 rw[h.lead];intro e;have hE:(E:Rat)≠0:=by exact_mod_cast h.hE
 have a:(l:Rat)/(E:Rat)*(E:Rat)=l:=Ak hE;rw[<-AP,e,A6]at a;exact h.hl (by exact_mod_cast a.symm)
def Dvn.den(h:Dvn D E l K A ps qs)(k:Nat):D*l^k≠0/\Sm (K+k*(A+1)+1) (D*l^k):=by
 refine⟨Cw h.hD (Int.pow_ne_zero h.hl),(h.sD.mul (h.sl.powZ k)).mono ?_⟩;rw[C1];omega
def Dvn.at(h:Dvn D E l K A ps qs)(k:Nat):(∀i,DV (K+k*(A+1)+1) (cf (JO ps qs (qs.length-1) m k).2 i))/\∀i,DV (K+k*(A+1)+1) (cf (JO ps qs (qs.length-1) m k).1 i):=by
 have b:=WC (m:=m) h.hD h.hp h.hE h.sE h.hq h.hl h.sl h.lead h.lne k;have a:=h.den k;exact⟨λi=>((b.1 i).mono O).smq a.1 a.2,λi=>((b.2 i).mono O).smq a.1 a.2⟩
def Dvn.sizes(h:Dvn D E l K A ps qs)(b:2*(K+m*(A+1)+1)+2*(2*A+1)<=1000000000):∀k,k<=m->∃z,z+(2*A+1)<=1000000000/\(k<m->2*z+2*(2*A+1)<=1000000000)/\(∀i,DV z (cf (JO ps qs (qs.length-1) m k).2 i))/\∀i,DV (z+A) (cf (JO ps qs (qs.length-1) m k).1 i):=by
 intro k hk;have a:k*(A+1)<=m*(A+1):=Ae _ hk;exact⟨K+k*(A+1)+1,O,λ_=>by omega,(h.at k).1,λi=>((h.at k).2 i).mono O⟩
def Dvn.rem(h:Dvn D E l K A ps qs)(b:ps.length-(qs.length-1)=m):EO (D*l^m) (K+m*(A+1)) (JU ps qs)/\EO (D*l^m) (K+m*(A+1)) (Jm ps qs):=by
 have a:=WC (m:=m) h.hD h.hp h.hE h.sE h.hq h.hl h.sl h.lead h.lne m;refine⟨λi=>?_,λi=>?_⟩
 . unfold JU;rw[Yp,b];exact a.1 i
 . unfold Jm;rw[Yp,b];exact a.2 i
end
def EZ(A:Nat)(p:List Rat):Prop:=∀i,∃z:Int,Sm A z/\cf p i=(z:Rat)
def EZ.cdl{A:Nat}{p:List Rat}(h:EZ A p):EO 1 A p:=λi=>by
 obtain⟨z,a,b⟩:=h i;exact OG DN a (by rw[b];grind)
def EZ.mono{A B:Nat}{p:List Rat}(h:EZ A p)(c:A<=B):EZ B p:=λi=>by
 obtain⟨z,a,b⟩:=h i;exact⟨z,a.mono c,b⟩
def EZ.ln{A:Nat}{p:List Rat}(h:EZ A p):Ln A p:=h.cdl.ln DN
def EZ.smq{A:Nat}{p:List Rat}(h:EZ A p)(hA:1<=A)(i:Nat):DV A (cf p i):=(h.cdl i).smq DN (Sm.one A hA)
theorem Q9{A:Nat}{p:List Rat}(hp:Jc p=p)(d:p≠[])(h:Ln A p):∃E:Int,E≠0/\Sm A E/\EO E A (Js p):=by
 obtain⟨c,g,b⟩:=h;have hl:=Ju hp d;obtain⟨E,f,a⟩:=b (p.length-1);have hE:E≠0:=λe=>by
  rw[e]at a;exact YU hl g a
 refine⟨E,hE,f,λi=>?_⟩;obtain⟨z,j,k⟩:=b i;grind[OG,Js,Yw]
def Ln.sqs{A:Nat}{p:List Rat}(hp:Jc p=p)(h:Ln A p)(hA1:1<=A):∀i,DV A (cf (Js p) i):=by
 by_cases a:p=[]
 . subst a;intro i;rw[nU,Xk];exact DV.zero _ hA1
 . obtain⟨E,b,c,d⟩:=Q9 hp a h;exact λi=>(d i).smq b c
theorem WR(c:Rat):Yt c=c\/Yt c=-c:=by
 grind[Yt]
theorem ng{c:Rat}(h:c≠0):Yt c≠0:=by
 grind[WR]
theorem nh{c:Rat}(h:c≠0):∀n:Nat,c^n≠0:=by
 intro n;induction n with
 |zero=>grind
 |succ n a=>grind
def Ea(p q:List Rat):Rat:=Yt (cf q (q.length-1))^(p.length+1-q.length)
def XM(p q:List Rat):List Rat:=DQ (Ea p q) p
def XF(p q:List Rat):List Rat:=JR [] (Jp (JU (XM p q) q))
def ni:Jp []=[]:=rfl
def J5(p:List Rat):Jc (Jp p)=Jp p:=JK _ _
theorem Xa{p:List Rat}(hp:Jc p=p):∃c:Rat,0<c/\Jp p=DQ c p:=by
 by_cases a:p=[]
 . subst a;exact⟨1,DN,J⟩
 . exact⟨_,nf hp a,J⟩
def LU{p:List Rat}(hp:Jc p=p){K:Nat}(h:Ln K p):EZ K (Jp p):=by
 by_cases a:p=[]
 . subst a;exact λi=>⟨0,Sm.zero K,by rw[ni,Xk];rfl⟩
 . exact Q8 hp a h
theorem RA{p q:List Rat}(hq:Jc q=q)(a:q≠[]):Ea p q≠0:=nh (ng (Ju hq a)) _
theorem Ig(p q:List Rat):Jc (XF p q)=XF p q:=Yx _ _
theorem RB{p q:List Rat}(hq:Jc q=q)(a:q≠[]):∃c:Rat,c≠0/\XF p q=DQ c (JU p q)/\XF p q=DQ (-1) (Jp (JU (XM p q) q)):=by
 have b:XF p q=DQ (-1) (Jp (JU (XM p q) q)):=YO (Ig _ _) (JK _ _) λx=>by
  grind[XF,Xy,Jn,ev]
 have e:=(OD (c:=Ea p q) (d:=1) DN p q hq a).2;grind[KC,Xa,Xr,XM,RA,LT]
theorem WS{p q:List Rat}(hq:Jc q=q)(a:q≠[]){A:Nat}(h:Ln A (JU p q)):EZ A (Jp (JU (XM p q) q))/\EZ A (XF p q):=by
 have b:=(OD (c:=Ea p q) (d:=1) DN p q hq a).2;rw[KC hq]at b;have f:EZ A (Jp (JU (XM p q) q)):=LU (Xr _ _) (by unfold XM;rw[b];exact h.sc (RA hq a));refine⟨f,λi=>?_⟩;obtain⟨z,g,j⟩:=f i;obtain⟨_,_,_,e⟩:=RB (p:=p) hq a;exact⟨-z,g.neg,by rw[e,Yw,j,Rat.intCast_neg];grind⟩
structure Chn(p q:List Rat)(A:Nat)(a b:List Rat):Prop where
 ta:Jc a=a
 tb:Jc b=b
 wa:EZ A a
 wb:EZ A b
 gc:Jr a b=Jr p q
 la:a.length<=max p.length q.length
 lb:b.length<=q.length
 nx:b≠[]->Ln A (JU a b)
 eu:Eu (Jp p) (Jp q) a b
def Da(K:Nat)(p q:List Rat):Nat:=(K+1)*(p.length+q.length+1)
theorem OH(K:Nat)(p q:List Rat):K+1<=Da K p q:=by
 grind[Da]
def WT(K:Nat)(p q:List Rat):(K+1)*(p.length+q.length)<=Da K p q:=Ai _ O
theorem JJ{p:List Rat}(hp:Jc p=p):(Jp p).length=p.length:=by
 grind[Xa,YE]
theorem WU{p q:List Rat}(hp:Jc p=p)(hq:Jc q=q):Jr (Jp p) (Jp q)=Jr p q:=by
 grind[Xa,Q4]
section
variable {K:Nat} {p q a b:List Rat}
def Chn.ln_rem(hp:Jc p=p)(hq:Jc q=q)(d:Ln K p)(e:Ln K q)(hl:p.length+q.length<=1000000000)(h:Eu (Jp p) (Jp q) a b)(f:b≠[]):Ln (Da K p q) (JU a b):=by
 have c:=WJ (J5 p) (J5 q) (LU hp d).ln (LU hq e).ln (by rw[JJ hp,JJ hq];exact hl) h f;rw[JJ hp,JJ hq]at c;exact c.mono (WT _ _ _)
def Chn.start(hp:Jc p=p)(hq:Jc q=q)(a:Ln K p)(b:Ln K q)(hl:p.length+q.length<=1000000000):Chn p q (Da K p q) (Jp p) (Jp q) where
 ta:=J5 p
 tb:=J5 q
 wa:=(LU hp a).mono (by have:=OH K p q;omega)
 wb:=(LU hq b).mono (by have:=OH K p q;omega)
 gc:=WU hp hq
 la:=by rw[JJ hp];omega
 lb:=by rw[JJ hq];exact Aa _
 nx:=Chn.ln_rem hp hq a b hl (.base _ _)
 eu:=.base _ _
def Chn.next(hp:Jc p=p)(hq:Jc q=q)(i:Ln K p)(j:Ln K q)(hl:p.length+q.length<=1000000000)(h:Chn p q (Da K p q) a b)(d:b≠[]):Chn p q (Da K p q) b (XF a b):=by
 obtain⟨c,g,e,_⟩:=RB (p:=a) h.tb d;have f:Eu (Jp p) (Jp q) b (XF a b):=by rw[e];exact h.eu.tail d g
 have l:(XF a b).length<b.length:=by
  rw[e,YE g (Xr _ _)];exact(Y3 a b h.tb d).2.1
 have k:=h.lb;exact⟨h.tb,Ig _ _,h.wb,(WS h.tb d (h.nx d)).2,by rw[<-f.gcd (J5 p) (J5 q)];exact WU hp hq,O,O,Chn.ln_rem hp hq i j hl f,f⟩
end
def Xi{a b:List Rat}(f:Jc b=b)(d:b≠[]):(XF a b).length<b.length:=by
 obtain⟨c,g,e,_⟩:=RB (p:=a) f d;rw[e,YE g (Xr _ _)];exact(Y3 a b f d).2.1
structure Rhn(p q:List Rat)(A:Nat)(a b:List Rat):Prop where
 ta:Jc a=a
 tb:Jc b=b
 ca:∃D:Int,D≠0/\Sm A D/\EO D A a
 cb:∃E:Int,E≠0/\Sm A E/\EO E A b
 mb:b≠[]->cf b (b.length-1)=1
 ma:Js a=a
 gc:Jr a b=Jr p q
 la:a.length<=max p.length q.length
 lb:b.length<=q.length
 nx:b≠[]->Ln A (JU a b)
 eu:Eu (Js p) (Js q) a b
def RC{A:Nat}(hA:1<=A):∃D:Int,D≠0/\Sm A D/\EO D A []:=⟨1,DN,Sm.one A hA,λi=>by rw[Xk];exact CD.zero _ _⟩
def MU{A:Nat}{p:List Rat}(hp:Jc p=p)(h:Ln A p)(hA:1<=A):∃E:Int,E≠0/\Sm A E/\EO E A (Js p):=by
 by_cases a:p=[]
 . subst a;exact RC hA
 . exact Q9 hp a h
section
variable {K:Nat} {p q a b:List Rat}
end
theorem OI(q:Rat):Xt q 0<0↔q<0:=by
 grind[Rat.lt_iff,Xt,XT]
def nj(a b:Nat):(a:Int)*((b:Int)/((Int.gcd a b:Nat):Int))=((Nat.lcm a b:Nat):Int):=by
 show(a:Int)*((b:Int)/((Nat.gcd a b:Nat):Int))=_;rw[<-Fh,<-Int.natCast_mul];congr 1;rw[Nat.lcm,Nat.mul_div_assoc _ (CX a b)]
theorem IG(ps:List Rat)(i:Nat):(if((i:Nat):Int)<0 then(0:Rat)else cf ps ((i:Nat):Int).toNat)=cf ps i:=by
 grind
namespace M3
def RD(n:Nat)(h:n<=2199023255552)(w:T):(Instr.makeSlice 22 (G F (n:Int)) (G F (n:Int))).run U w=.ok (C (some ⟨w.heap.size,0,none⟩) n n) (w.alloc (H (YF n) 41)):=by
 obtain⟨i,hi,b⟩:=CY.1 Tryz.infoRat;simp only[Prod.mk.injEq]at b;obtain⟨d,hs,c⟩:=b;have a:=run_make (P:=U) w 22 41 i _ Tryz.underlying22 hi d F F n n O (Int.le_refl _) (by rw[c];omega) O;simp only[CV,hs]at a;exact a
