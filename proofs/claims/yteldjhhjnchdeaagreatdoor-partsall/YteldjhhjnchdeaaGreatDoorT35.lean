import Derived.Test.YteldjhhjnchdeaaGreatDoorT34
set_option linter.all false
open Go.Value renaming slice->C,int->G,pointer->P,bool->T,string->U
open Go.IntKind renaming i64->F
open Go.Obj renaming cells->H
open Go renaming undef->I,World->L,Value->o
open Go.Proofs.Tryz renaming prog->g
set_option maxRecDepth 99999
set_option maxHeartbeats 0
namespace Go.Proofs.YteldjhhjnchdeaaGreatDoor
open Rat renaming divInt->kU
open List renaming replicate->kT
open Proofs.Tryz
open Go.RowKit Go.Shelf
attribute [local go_sem] Oper.semAt_some
section
variable{cs:Array o}{m:Nat × Nat}{t:TypeId}{W W':L}
def eV(p q:Addr)(w:L):
 CallsD g 93 #[P (some p),P (some q)] .returning w λe d f=>e=.returned (.tuple #[])/\d=.returning/\f=w.alloc (H #[G F 0,G F 0] 97):=by
 have a:∀w:L,(Instr.typeAssert Value.nilIface 20 97 true).run g w=.ok (.tuple #[.agg #[G F 0,G F 0],T false]) w:=λ_=>by kernel_rfl
 refine callsD_of_wpS func93 J λb cs c=>?_;apply wpS_seq;apply wpS_region;simp[wpOpsS,go_sem,recoverD,c,ntmps93,Exit.thenS,a];apply wpS_seq;apply wpS_region;simp[wpOpsS,go_sem,Exit.thenS];refine wpS_cond (t:=false) (by simp[Act.eval,Array.replicate]) ?_;simp only[CU,if_false];refine wpS_of_wp (wp_skip ?_);cases b;simp_all [bodyPostS,results,results93]
def eX(p q:Nat)(a p0:Int)(w:L)(i:Boxed w p 25 (C none 0 0))(j:Jn w q 97 (G F 0) (G F 0))(m:p≠q):
 CallsD g 93 #[P (some ⟨p,0,none⟩),P (some ⟨q,0,none⟩)] (.panicking [{ v:=GT a p0,recovered:=false }]) w λe Q r=>e=.returned (.tuple #[])/\Q=.panicking [{ v:=GT a p0,recovered:=true }]/\Boxed r p 25 (C none 0 0)/\Jn r q 97 (G F a) (G F p0)/\∀n w0,Below n w0 w->n<=w.heap.size->n<=p->n<=q->Below n w0 r:=by
 unfold GT;have s:∀w:L,(Instr.typeAssert (.iface 97 (.agg #[G F a,G F p0])) 20 97 true).run g w=.ok (.tuple #[.agg #[G F a,G F p0],T true]) w:=λ_=>by kernel_rfl
 refine callsD_of_wpS func93 J λR cs A=>?_;apply wpS_seq;apply wpS_region;simp[wpOpsS,go_sem,recoverD,A,ntmps93,Exit.thenS,s];apply wpS_seq;apply wpS_region;simp[wpOpsS,go_sem,Exit.thenS];refine wpS_cond (t:=true) (by simp[Act.eval,Array.replicate]) ?_;simp only[if_true];refine wpS_of_wp ?_;simp[Array.replicate];have d:=Jn.new w 97 (G F a) (G F p0);have c:=i.alloc (H #[G F a,G F p0] 97);have b:=j.alloc (H #[G F a,G F p0] 97);have K:p≠w.heap.size:=by have:=i.lt;omega
 have M:q≠w.heap.size:=by have:=j.lt;omega
 have f:=Y λ(n:Nat) (w0:L) (h:Below n w0 w) (l:n<=w.heap.size)=>h.alloc l (H #[G F a,G F p0] 97);obtain⟨W,k⟩:=ex (w.alloc (H #[G F a,G F p0] 97));rw[k]at d c b f;rw[k];obtain⟨D,hD⟩:=ex (w.heap.size);rw[hD]at d K M f;rw[hD];clear k i j s A;obtain⟨d0,d1⟩:=d.cp;have x0:=c.cell;have x1:=c.frozen;obtain⟨S,X⟩:=b.cp;obtain⟨z0,z1⟩:=b.fp;have B:=Y c;have E:=Y b;clear c b d;go_region
 have x:Boxed (((W.setCell ⟨p,0,none⟩ (C none 0 0)).setCell ⟨q,0,none⟩ (G F a)).setCell ⟨q,1,none⟩ (G F p0)).drew p 25 (C none 0 0):=
  (BD _ ⟨q,1,none⟩ (G F p0) p m).trans ((BD _ ⟨q,0,none⟩ (G F a) p m).trans (B.o.set (C none 0 0)))
 have y:Jn (((W.setCell ⟨p,0,none⟩ (C none 0 0)).setCell ⟨q,0,none⟩ (G F a)).setCell ⟨q,1,none⟩ (G F p0)).drew q 97 (G F a) (G F p0):=
  (((E.o.far (p:=⟨p,0,none⟩) (λe=>m e.symm) _).set0 _).set1 _).drew
 have z:∀n w0,Below n w0 w->n<=D->n<=p->n<=q->Below n w0 (((W.setCell ⟨p,0,none⟩ (C none 0 0)).setCell ⟨q,0,none⟩ (G F a)).setCell ⟨q,1,none⟩ (G F p0)).drew:=
  λn w0 h l N u=>((((f.o n w0 h l).setCell (p:=⟨p,0,none⟩) N _).setCell (p:=⟨q,0,none⟩) u _).setCell (p:=⟨q,1,none⟩) u _).drew
 generalize (((W.setCell ⟨p,0,none⟩ (C none 0 0)).setCell ⟨q,0,none⟩ (G F a)).setCell ⟨q,1,none⟩ (G F p0)).drew=V at x y z ⊢;simp[bodyPostS,results,results93];exact⟨x,y,z⟩
theorem eY(s:ByteArray)(i q0:Int)(w:L)(u:∀V R,Db V R s 0->Calls g 94 #[P (some ⟨R,0,none⟩)] V λr m=>V.grownBy m (some R)/\r=.panicked [{ v:=GT i q0,recovered:=false }]):
 Calls g 53 #[U s] w λr m=>r=.returned (.tuple #[.agg #[C none 0 0],.agg #[G F i,G F q0]])/\Bl w m:=by
 have X:∀(fn:Fn) (first cap:Array o) (w:L),(Instr.makeFunc fn first cap).run g w=.ok (.func fn first cap) w:=λ_ _ _ _=>rfl;have q:=Y u;clear u;go_enter_defers func53,ntmps53
 go_upto_region 3 with fail
 have b:=BK w 25 (C none 0 0);have a:=Jn.new (w.alloc (H #[C none 0 0] 25)) 97 (G F 0) (G F 0);have c:Db (((w.alloc (H #[C none 0 0] 25)).alloc (H #[G F 0,G F 0] 97)).alloc (H #[U s,G F 0] 130)) ((w.alloc (H #[C none 0 0] 25)).alloc (H #[G F 0,G F 0] 97)).heap.size s 0:=BC _ _;rw[A1,A1]at c;rw[A1]at a;replace b:=(b.alloc (H #[G F 0,G F 0] 97)).alloc (H #[U s,G F 0] 130);replace a:=a.alloc (H #[U s,G F 0] 130);have l:Bl w (((w.alloc (H #[C none 0 0] 25)).alloc (H #[G F 0,G F 0] 97)).alloc (H #[U s,G F 0] 130)):=((Ba w _).alloc (by rw[A1];omega) _).alloc (by rw[A1,A1];omega) _;have y:(((w.alloc (H #[C none 0 0] 25)).alloc (H #[G F 0,G F 0] 97)).alloc (H #[U s,G F 0] 130)).heap.size=w.heap.size+1+1+1:=by rw[A1,A1,A1]
 obtain⟨V,j⟩:=ex (((w.alloc (H #[C none 0 0] 25)).alloc (H #[G F 0,G F 0] 97)).alloc (H #[U s,G F 0] 130));rw[j]at b a c l y;rw[j];obtain⟨A,n,p,B⟩:=Do b a l (q.o _ _ c);clear b a c l j q y;go_wp2_with(go_at_call 94;refine B.o.mono ?_;rintro e z ⟨x,rfl⟩;have d:=Y x;clear x)
 have E:Boxed z w.heap.size 25 (C none 0 0):=A.o.kept d.o (λe=>by have:=Cf e;omega);have D:Jn z (w.heap.size+1) 97 (G F 0) (G F 0):=(d.o.block _ n.o.lt λe=>by have:=Cf e;omega).trans n.o;have t:=p.o.grown d.o p.o.size (λk e=>by grind);refine leaves_cons (f:=93) (args:=#[P (some ⟨w.heap.size,0,none⟩),P (some ⟨w.heap.size+1,0,none⟩)]) DK (by simp[go_sem]) ?_;refine(eX w.heap.size (w.heap.size+1) i q0 _ E D O).mono ?_;rintro e u' w2 ⟨rfl,rfl,K,M,N⟩;have Q:=N _ _ t t.size (Aa _) O;have x0:=K.cell;obtain⟨S,W⟩:=M.cp;simp[Leaves,settle,results,results53,go_sem,x0,S,W];exact Q
theorem eZ{F:Nat}(hF:W.heap[F]?=some (H cs t m))(l:t=97)(hg:W.grownBy W' (some F)):∀k v ds,Row k W v ds->Row k W' v ds:=by
 intro k v ds c;obtain⟨a,cap,e,_⟩:=id c;subst e;refine c.grown hg λp i hl=>?_;obtain⟨b,q,f,d,n,j⟩:=c.typ hl;grind
def Sz{F:Nat}(hF:W.heap[F]?=some (H cs t m))(i:t=97)(hg:W.grownBy W' (some F)){r:Bool}{v:o}{qs:Ja}(h:RowK r W v qs):RowK r W' v qs:=by
 obtain⟨a,cap,e,k,c,l,d⟩:=h;refine⟨a,cap,e,k,c,l,?_⟩;rcases d with d|⟨b,j,f⟩
 . exact Am d
 . refine Ax ⟨b,j,f.keep (hg.block b f.lt λe=>?_) (eZ hF i hg)⟩;obtain⟨n,g1,_⟩:=f;have e:=Cf e;subst e;have:=g1.symm.trans hF;simp only[AO,Obj.cells.injEq]at this;subst i;have c:=this.2.1;revert c;cases r<;>(show ¬(_=_);decide)
theorem ec(s:ByteArray)(ps:Ja)(w:L)(hP:∀V R,Db V R s 0->Calls g 94 #[P (some ⟨R,0,none⟩)] V λr j=>V.grownBy j (some R)/\∃u,r=.returned u/\Jh j u ps):
 Calls g 53 #[U s] w λr j=>∃u,r=.returned (.tuple #[u,.agg #[G F 0,G F 0]])/\Jh j u ps/\Bl w j:=by
 have ae:∀(fn:Fn) (first cap:Array o) (w:L),(Instr.makeFunc fn first cap).run g w=.ok (.func fn first cap) w:=λ_ _ _ _=>rfl;have X:=Y hP;clear hP;go_enter_defers func53,ntmps53
 go_upto_region 3 with fail
 have i:=BK w 25 (C none 0 0);have c:=Jn.new (w.alloc (H #[C none 0 0] 25)) 97 (G F 0) (G F 0);have n:Db (((w.alloc (H #[C none 0 0] 25)).alloc (H #[G F 0,G F 0] 97)).alloc (H #[U s,G F 0] 130)) ((w.alloc (H #[C none 0 0] 25)).alloc (H #[G F 0,G F 0] 97)).heap.size s 0:=BC _ _;rw[A1,A1]at n;rw[A1]at c;replace i:=(i.alloc (H #[G F 0,G F 0] 97)).alloc (H #[U s,G F 0] 130);replace c:=c.alloc (H #[U s,G F 0] 130);have K:Bl w (((w.alloc (H #[C none 0 0] 25)).alloc (H #[G F 0,G F 0] 97)).alloc (H #[U s,G F 0] 130)):=((Ba w _).alloc (by rw[A1];omega) _).alloc (by rw[A1,A1];omega) _;have hz:(((w.alloc (H #[C none 0 0] 25)).alloc (H #[G F 0,G F 0] 97)).alloc (H #[U s,G F 0] 130)).heap.size=w.heap.size+1+1+1:=by rw[A1,A1,A1]
 obtain⟨V,E⟩:=ex (((w.alloc (H #[C none 0 0] 25)).alloc (H #[G F 0,G F 0] 97)).alloc (H #[U s,G F 0] 130));rw[E]at i c n K hz;rw[E];obtain⟨H0,Q,W,HC⟩:=Do i c K (X.o _ _ n);clear i c n K E X hz;go_wp2_with(go_at_call 94;refine HC.o.mono ?_;rintro e N ⟨ad,u1,rfl,M⟩;have q:=Y ad;obtain⟨a,d,b,rfl⟩:=M.form;have HU:=Y M.row;have m:Boxed N w.heap.size 25 (C none 0 0):=H0.o.kept q.o (λe=>by have:=Cf e;omega);have l:Jn N (w.heap.size+1) 97 (G F 0) (G F 0):=(q.o.block _ Q.o.lt λe=>by have:=Cf e;omega).trans Q.o;have x0:=m.cell;have x1:=m.frozen;obtain⟨y0,y1⟩:=l.cp;obtain⟨z0,z1⟩:=l.fp;have S:=Y m;have H3:=Y l;clear ad M m l)
 have t:w.heap.size+1≠w.heap.size:=O
 have Qd:=W.o.grown q.o W.o.size (λk e=>by grind);have a1:=S.o.set (C a d b);have a2:=Ej S.o (C a d b) HU.o;have z:=H3.o.far (p:=⟨w.heap.size,0,none⟩) t (C a d b);have a4:=Qd.setCell (p:=⟨w.heap.size,0,none⟩) (Aa _) (C a d b);generalize N.setCell ⟨w.heap.size,0,none⟩ (C a d b)=v at a1 a2 z a4 ⊢;have b1:=(BD v ⟨w.heap.size+1,0,none⟩ (G F 0) w.heap.size λe=>t e.symm).trans a1;have b2:=Sz z J (JE v (w.heap.size+1) 0 (G F 0)) a2;have A:=z.set0 (G F 0);have b4:=a4.setCell (p:=⟨w.heap.size+1,0,none⟩) DX (G F 0);generalize v.setCell ⟨w.heap.size+1,0,none⟩ (G F 0)=x at b1 b2 A b4 ⊢;have d1:=(BD x ⟨w.heap.size+1,1,none⟩ (G F 0) w.heap.size λe=>t e.symm).trans b1;have d2:=Sz A J (JE x (w.heap.size+1) 1 (G F 0)) b2;have B:=A.set1 (G F 0);have D:=b4.setCell (p:=⟨w.heap.size+1,1,none⟩) DX (G F 0);generalize x.setCell ⟨w.heap.size+1,1,none⟩ (G F 0)=y at d1 d2 B D ⊢;refine leaves_cons (f:=93) (args:=#[P (some ⟨w.heap.size,0,none⟩),P (some ⟨w.heap.size+1,0,none⟩)]) DK (by simp[go_sem]) ?_;refine(eV ⟨w.heap.size,0,none⟩ ⟨w.heap.size+1,0,none⟩ _).mono ?_;rintro e u' w2 ⟨rfl,rfl,rfl⟩;have e1:Boxed y w.heap.size 25 (C a d b):=d1;have f1:=(e1.alloc (H #[G F 0,G F 0] 97)).cell;have f2:=(B.alloc (H #[G F 0,G F 0] 97)).c0;have f3:=(B.alloc (H #[G F 0,G F 0] 97)).c1;have f4:=D.alloc D.size (H #[G F 0,G F 0] 97);have f5:=d2.below (Ba y (H #[G F 0,G F 0] 97));generalize y.alloc (H #[G F 0,G F 0] 97)=W5 at f1 f2 f3 f4 f5 ⊢;simp[Leaves,settle,results,results53,go_sem,f1,f2,f3];exact⟨⟨_,J,f5⟩,f4⟩
def S0{l:List UInt8}:∀(f:Nat) (b:Bool) (I m:Nat) (S d:Ja) (k:Nat),I<=l.length->m<=I->Xh S m->EP l f b I S=.ok d k->∃u,u<=l.length/\Xh d u:=by
 intro f;induction f with
 |zero=>intro b I m S d k _ _ _ h;cases h
 |succ f t=>
  intro b I m S d k s z v h;cases i:Yg l I with
  |error e p=>rw[MY i]at h;cases h
  |ok a w=>
   obtain⟨c,n⟩:=a;have r:=Lh s i;have j:=v.next (Sw s i) r.2.2 b;have x:=GH l w;have y:=Ys r.2.1;rw[MZ i]at h;split at h
   . rename_i q;have:=Ye q;exact t _ _ (m+1) _ _ _ O O j h
   . split at h
     . rename_i q;have:=Ye q;exact t _ _ (m+1) _ _ _ O O j h
     . split at h
       . cases h;exact⟨m+1,O,j⟩
       . cases h
def ef{l:List UInt8}{S:Ja}{k:Nat}(h:EF l=.ok S k):∃m,m<=l.length/\Xh S m:=by
 unfold EF at h;have a:=Ys (l:=l) (i:=0) O;split at h
 . rename_i b;have:=Ye b;exact S0 _ _ _ 0 _ _ _ O O Xh.start h
 . exact S0 _ _ _ 0 _ _ _ a O Xh.start h
theorem Op(l:List UInt8):(J3 l).1.length<=9/\∀i,DT 601 (cf (J3 l).1 i):=by
 by_cases h:300<l.length
 . grind[J3,Yt,DT.zero]
 . rw[LA h];cases a:EF l with
   |error e p=>grind[K9,Yt,DT.zero]
   |ok S k=>
    obtain⟨m,b,hs⟩:=ef a;rw[show(K9 (EStateM.Result.ok S k)).1=Jb S from J];exact⟨Al (Yk _) (by rw[hs.1];exact Aa _),λi=>by rw[JR];exact(hs.2 i).mono O⟩
def KN(l:List UInt8)(a:L)(u:o)(e p:Int):Prop:=e=((J3 l).2.1:Int)/\p=((J3 l).2.2:Int)/\Jh a u (J3 l).1
def eh(s:ByteArray)(hs:s.size<=300)(w:L):
 Calls g 53 #[U s] w λr a=>∃u e p,r=.returned (.tuple #[u,.agg #[G F e,G F p]])/\KN (Jf s) a u e p/\Bl w a:=by
 have b:=LA (l:=Jf s) (by rw[Ji];omega);cases c:EF (Jf s)with
 |error i q0=>
  rw[c]at b;refine(eY s i q0 w λV R d=>(Sx R s V d hs).mono λr a h=>⟨h.1,h.2.1 _ _ c⟩).mono ?_;rintro r a ⟨rfl,f⟩;refine⟨_,_,_,J,?_,f⟩;rw[KN,b];exact⟨J,J,_,J,RowK.nil _ _⟩
 |ok S k=>
  rw[c]at b;refine(ec s (Jb S) w λV R d=>(Sx R s V d hs).mono λr a h=>⟨h.1,by obtain⟨u,j,m,_⟩:=h.2.2 _ _ c;exact⟨u,j,m⟩⟩).mono ?_;rintro r a ⟨u,rfl,n,f⟩;refine⟨_,_,_,J,?_,f⟩;rw[KN,b];exact⟨J,J,n⟩
def TA(s:ByteArray)(w:L):
 Calls g 23 #[U s] w λr M=>∃u e p,r=.returned (.tuple #[u,G F e,G F p])/\KN (Jf s) M u e p/\Bl w M:=by
 by_cases y:300<s.size
 . have ad:(300:Int)<(s.size:Int):=O
   have N:=Y (show J3 (Jf s)=([],1,0)by unfold J3;rw[BL (by rw[Ji];exact y)]);clear y;go_enter func23,ntmps23
   go_wp2;exact BA (v:=.tuple #[.agg #[C none 0 0],G F 1,G F 0]) (by simp[results,results23,go_sem]) J ⟨_,_,_,J,by rw[KN,N.o];exact⟨J,J,_,J,RowK.nil _ _⟩,Ba w _⟩
 . have ad:¬(300:Int)<(s.size:Int):=O
   have z:=Y λ(V:L)=>eh s O V;clear y;go_enter func23,ntmps23
   go_upto_region 4 with(go_at_call 53;refine(z.o _).mono ?_;clear z;rintro e a ⟨u1,i,p1,rfl,b,c⟩;obtain⟨d,k,f,rfl⟩:=b.2.2.form;have q:=Y b;have n:=Y c;clear b c)
   have X:w.heap.size<a.heap.size:=by have:=n.o.size;rw[A1]at this;omega
   have q0:Boxed a w.heap.size 25 (C none 0 0):=(n.o.block _ (by rw[A1];omega)).trans (BK w 25 (C none 0 0));have E:=(Ba w _).trans (n.o.mono (by rw[A1];omega));have j:=BK a 25 (C d k f);have l:=Jn.new (a.alloc (H #[C d k f] 25)) 97 (G F i) (G F p1);rw[A1]at l;replace j:=j.alloc (H #[G F i,G F p1] 97);have m:Bl a ((a.alloc (H #[C d k f] 25)).alloc (H #[G F i,G F p1] 97)):=(Ba a _).alloc (by rw[A1];omega) _;have q1:=(m.block _ q0.lt).trans q0;have c:=Bt E m;have b:=q.o.2.2.row.below m;have K:=Y (⟨q.o.1,q.o.2.1⟩:i=_/\p1=_);have A:w.heap.size≠a.heap.size:=O
   have D:w.heap.size≠a.heap.size+1:=O
   generalize (a.alloc (H #[C d k f] 25)).alloc (H #[G F i,G F p1] 97)=W2 at j l m q1 c b ⊢;clear m q0 E n q X;obtain⟨Q,t⟩:=ex (w.heap.size);obtain⟨B,x⟩:=ex (a.heap.size);rw[x]at j l A D;rw[t]at q1 A D;rw[x,t];have q2:Boxed W2 Q 25 (C none 0 0):=q1;have x0:=j.cell;obtain⟨y0,y1⟩:=l.cp;have z0:=q2.cell;have z1:=q2.frozen;obtain⟨W,S,Qk,R⟩:=Do q2 t c b;clear j l q1 q2 t x c b;go_region
   go_wp2_with fail
   have r0:=z0;refine BA (v:=.tuple #[.agg #[C d k f],G F i,G F p1]) (by simp[results,results23,go_sem,r0]) J ⟨_,_,_,J,⟨K.o.1,K.o.2,_,J,?_⟩,?_⟩
   . exact(Ej W.o (C d k f) R.o).below ((BB _ _).drew)
   . exact(Qk.o.setCell (p:=⟨Q,0,none⟩) (by rw[S.o];exact Aa _) _).drew
end
section
variable{Q R:Ja}{k la m n:Nat}
theorem ej{q:Rat}(h:DT k q):(J8 q).length<=40*k+5:=by
 have a:=Im q.num;have b:=Im (q.den:Int);have c:=h.1.words;have d:=h.2.words;grind[J8]
theorem DT.abs{q:Rat}(h:DT k q):DT k (YE q):=by
 grind[K5,DT,Sm]
theorem eo{c:Rat}(h:DT k c){i:Nat}(e:i<Z)(f:Bool):(EZ c i f).length<=40*k+40:=by
 have a:=ej h.abs;have b:=Ih i;have d:(Jc Z i).length<=1:=JO Je DX;grind[Ee,Xb,EE,EZ]
theorem er{ps:Ja}(h:∀i,DT k (cf ps i))(hl:ps.length<=Z):∀(d m:Nat),ps.length-m=d->(J9 (ps.drop m) m).length<=d*(40*k+40):=by
 intro d;induction d with
 |zero=>
  intro m b;grind[List.drop_of_length_le,J9]
 |succ d a=>
  intro m b;have a:=a (m+1) O;rw[KF ps (by omega:m<ps.length)];have c:=eo (h m) (by omega:m<Z) (J9 (ps.drop (m+1)) (m+1)).isEmpty;grind
def Ma{ps:Ja}(h:Sqs ps)(hl:ps.length<=3000)(m:Nat):(J9 (ps.drop m) m).length<=140737488355328:=by
 have a:=er (λi=>(h.at i).sm) uo _ m J;omega
theorem ez(z:Ja)(i:Nat)(a:Rat)(q:Ja):∀(j k:Nat),i+j<=k->cf (YP z i a q j) k=cf z k:=by
 intro j;induction j with
 |zero=>intro k _;rfl
 |succ j c=>
  intro k b;grind[YP,XJ,CW]
theorem XT(z:Ja)(i:Nat)(a:Rat)(q:Ja):∀(j k:Nat),cf (YP z i a q j) k=cf z k\/cf (YP z i a q j) k=cf z k+a*cf q (k-i):=by
 intro j;induction j with
 |zero=>intro k;exact Am J
 |succ j b=>
  intro k;grind[YP,XJ,ez,CW]
def DT.mul2{p q:Rat}(hp:DT k p)(hq:DT m q):DT (k+m) (p*q):=by
 rw[<-Nf];refine DT.divInt ?_ (hp.1.mul hq.1) (hp.2.mul hq.2);exact AU (by have:=p.den_nz;omega) (by have:=q.den_nz;omega)
def DT.inv{q:Rat}(hq:DT m q)(a:q≠0):DT m q⁻¹:=by
 rw[Rat.inv_def];exact DT.divInt (λe=>a (CS.1 e)) hq.2 hq.1
def DT.div2{p q:Rat}(hp:DT k p)(hq:DT m q)(a:q≠0):DT (k+m) (p/q):=by
 rw[FA];exact hp.mul2 (hq.inv a)
def DT.sub2{p q:Rat}(hp:DT k p)(hq:DT m q):DT (k+m+1) (p-q):=by
 rw[C9];exact hp.add2 hq.neg
def Y2{p:Ja}(hp:Jb p=p)(h:∀i,m<=i->cf p i=0):p.length<=m:=by
 by_cases hl:p.length<=m
 . exact hl
 . exfalso
   exact Jv hp DX (h _ O)
theorem LE(n:Nat)(a:Rat)(i:Nat):cf (Jb (Dg n [a])) i=if i=n then a else 0:=by rw[JR,MX]
def fA(n:Nat)(a:Rat):(Jb (Dg n [a])).length<=n+1:=Of n a
theorem TB(n:Nat)(a:Rat)(x:Rat):ev (Jb (Dg n [a])) x=x^n*a:=by
 rw[XF,LY];show x^n*(a+x*0)=_;grind
theorem LF(n:Nat)(a:Rat)(q:Ja)(i:Nat):cf (Jy (Jb (Dg n [a])) q) i=if n<=i then a*cf q (i-n)else 0:=by
 have e:Jy (Jb (Dg n [a])) q=Jb (YD a (Dg n q)):=by
  rw[<-JW];refine LX λx=>?_;rw[Jm,TB,Xw,LY];grind
 grind[JR,Xc,IM]
theorem fB{M qs:Ja}(a:∀i,i≠n->cf M i=0)(N:Nat):∀i k,cf (Xj M qs N i) k=0\/cf (Xj M qs N i) k=cf M n*cf qs (k-n)/\n<i:=by
 intro i;induction i with
 |zero=>intro k;left;rw[Xj,JT]
 |succ i b=>
  intro k;grind[Xj,XT]
theorem fC{M qs:Ja}(b:∀i,i≠n->cf M i=0)(hs:∀j,Sq (cf M n*cf qs j)):M3.GS M qs:=by
 have a:Sq 0:=Sq.of (k:=1) (DT.zero 1 O) O;refine⟨λi j=>?_,λN i j k=>?_⟩
 . grind
 grind[fB,XT]
def Hg(A la:Nat)(ps qs R Q:Ja)(k:Nat):Prop:=
 Jb R=R/\Jb Q=Q/\k+R.length<=la/\Q.length<=la/\(∀x,ev ps x=ev qs x*ev Q x+ev R x)/\(∀i,i+qs.length<=R.length->cf Q i=0)/\
  ∃z,z+(2*A+1)<=2^k*(3*A+1)/\(∀i,DT z (cf R i))/\∀i,DT (z+A) (cf Q i)
theorem Hg.start{A:Nat}{ps qs:Ja}(b:1<=A)(a:Jb ps=ps)(hp:∀i,DT A (cf ps i)):Hg A ps.length ps qs ps [] 0:=by
 refine⟨a,J,O,DK,λx=>?_,λi _=>Yt i,A,O,hp,λi=>?_⟩
 . show _=ev qs x*0+_;grind
 . rw[Yt];exact DT.zero _ O
def Hg.sizes{A:Nat}{ps qs:Ja}(h:Hg A la ps qs R Q k)(f:2^la*(3*A+1)<=1000000000):Sqs R/\Sqs Q/\∃z,z+(2*A+1)<=1000000000/\(∀i,DT z (cf R i)):=by
 obtain⟨_,_,d,_,_,_,z,e,a,b⟩:=h;have c:2^k*(3*A+1)<=2^la*(3*A+1):=Af _ (Ag O O);exact⟨Sqs.of λi=>Sq.of (a i) O,Sqs.of λi=>Sq.of (b i) O,z,O,a⟩
theorem Oq{qs:Ja}{a:Rat}(c:Jb qs=qs)(b:qs≠[])(hl:qs.length<=R.length)(j:n=R.length-qs.length)
(d:a=cf R (R.length-1)/cf qs (qs.length-1)):(JP R (Jy (Jb (Dg n [a])) qs)).length<=R.length-1:=by
 have k:0<qs.length:=Ac.2 b;have f:=Jv c b;refine Y2 (Yi _ _) λi e=>?_;grind[Iy,LF,JS]
theorem Hg.next{A:Nat}{ps qs:Ja}{a:Rat}(h:Hg A la ps qs R Q k)(hq:∀i,DT A (cf qs i))(j:Jb qs=qs)(c:qs≠[])(hl:qs.length<=R.length)(r:n=R.length-qs.length)
(f:a=cf R (R.length-1)/cf qs (qs.length-1)):Hg A la ps qs (JP R (Jy (Jb (Dg n [a])) qs)) (Xm Q (Jb (Dg n [a]))) (k+1):=by
 obtain⟨s,t,u,v,w,y,z,B,b,p⟩:=h;have E:0<qs.length:=Ac.2 c;have l:=Jv j c;have m:∀i,cf (JP R (Jy (Jb (Dg n [a])) qs)) i=cf R i-(if n<=i then a*cf qs (i-n)else 0):=λi=>by rw[Iy,LF]
 have e:∀i,cf (Xm Q (Jb (Dg n [a]))) i=if i=n then a else cf Q i:=λi=>by
  grind[NB,LE]
 have D:=Oq j c hl r f;have d:DT (z+A) a:=by rw[f];exact(b _).div2 (hq _) l
 refine⟨Yi _ _,Xd _ _,O,Y2 (Xd _ _) λi q=>?_,λx=>?_,λi q=>?_,2*z+(2*A+1),?_,λi=>?_,λi=>?_⟩
 . rw[e,BH O,JS O]
 . grind[Xk,XW,Jm]
 . grind
 . grind[Ch]
 . rw[m];split
   . exact((b i).sub2 (d.mul2 (hq _))).mono O
   . rw[C9,Rat.neg_zero,Rat.add_zero];exact(b i).mono O
 . rw[e];split
   . exact d.mono O
   . exact(p i).mono O
def Hg.done{A:Nat}{ps qs:Ja}(h:Hg A la ps qs R Q k)(b:Jb qs=qs)(a:qs≠[])(hl:R.length<qs.length):Q=JL ps qs/\R=J0 ps qs:=by
 obtain⟨d,e,_,_,f,_⟩:=h;obtain⟨g1,g2,c,g4⟩:=Yz ps qs b a;exact Mx b a e c d g4 hl g2 (λx=>by rw[<-f x,<-g1 x])
end
namespace M3
def ZQ(V:L)(g r:Nat):Prop:=∀j,j<r->V.cell? ⟨g,j*4,none⟩=some (T false)/\V.cell? ⟨g,j*4+1,none⟩=some (C none 0 0)/\V.cell? ⟨g,j*4+2,none⟩=some (T false)/\V.cell? ⟨g,j*4+3,none⟩=some (C none 0 0)
variable{cs:Array o}{n:Int}{bs bs':List (Option (Nat × Dat))}{S:Ja}{B B4 X gQ i r:Nat}{t:TypeId}{v:o}{V V' W w:L}
theorem ZQ.of{g:Nat}(h:ZQ V g r)(e:V'.heap[g]?=V.heap[g]?):ZQ V' g r:=λj a=>by
 obtain⟨b,c,d,f⟩:=h j a;grind[BR]
def F2(w V:L)(bs:List (Option (Nat × Dat)))(B4:Nat)(n:Int)(gQ r:Nat):Prop:=DL w V bs/\Boxed V B4 3 (.int F n)/\ZQ V gQ r/\gQ<V.heap.size
def F2.below{w V V':L}{bs:List (Option (Nat × Dat))}{B4:Nat}{n:Int}{gQ r:Nat}(h:F2 w V bs B4 n gQ r)(a:Bl V V'):F2 w V' bs B4 n gQ r:=
 ⟨h.1.below a,(a.block B4 h.2.1.lt).trans h.2.1,h.2.2.1.of (a.block gQ h.2.2.2),Ap h.2.2.2 a.size⟩
def F2.own{w V V':L}{bs:List (Option (Nat × Dat))}{B4:Nat}{n:Int}{gQ r:Nat}{row:Option Nat}(h:F2 w V bs B4 n gQ r)(f:∃cs t m,V.heap[gQ]?=some (H cs t m))(hg:V.grownBy V' row)(c:∀x,row=some x->w.heap.size<=x/\∃o:Obj,V.heap[x]?=some o/\o.isCells=false):F2 w V' bs B4 n gQ r:=by
 have a:∀r,row=some r->∃o:Obj,V.heap[r]?=some o/\o.isCells=false:=λr e=>(c r e).2;refine⟨h.1.own hg c,Io hg a (show Bx V B4 3 #[G F n]from h.2.1),h.2.2.1.of ?_,Ap h.2.2.2 hg.size⟩;obtain⟨cs,t,m,e⟩:=f;refine hg.block gQ h.2.2.2 λd=>?_;obtain⟨o,b,i⟩:=a gQ d.symm;rw[e]at b;cases b;cases i
def Mb(V:L)(m:Nat):Has V (.agg (YB m)) (.rats (kT m 0)):=by
 refine⟨YB m,J,λj a=>?_⟩;rw[AE]at a;obtain⟨b,c,d,e⟩:=MQ a;exact⟨_,_,_,_,b,c,d,e,by rw[JT];exact ER _⟩
def GD(w:L)(a c:kR)(la b lb d m:Nat)(e:kR)(rc B5 gQ:Nat)(x:Option (Nat × Dat))(Q:Ja):List (Option (Nat × Dat)):=
 [some (w.heap.size,.cell 25 (C a la b)),some (w.heap.size+1,.cell 25 (C c lb d)),some (w.heap.size+1+1,.cell 25 (C Option.none 0 0)),some (w.heap.size+1+1+1,.cell 25 (C Option.none 0 0)),
  x,some (B5,.cell 23 (C e la rc)),some (gQ,.rats Q),some (gQ+1,.cell 23 (C (some ⟨gQ,0,Option.none⟩) m m)),some (gQ+1+1,.cell 23 (C (some ⟨gQ,0,Option.none⟩) m m))]
def g4(la g:Nat)(R:Ja):Option (Nat × Dat):=if la=0 then none else some (g,.rats R)
theorem fD(p:Ja)(i:Nat)(c:Rat)(j:Nat):cf (p.set i c) j=c\/cf (p.set i c) j=cf p j:=by
 grind[XJ,CW]
def F2.upd(h:F2 w V bs B4 n gQ r)(f:DL w V' bs')(b:∀B,B≠X->V'.heap[B]?=V.heap[B]?)(c:B4≠X)(d:gQ≠X):F2 w V' bs' B4 n gQ r:=by
 have e:=b gQ d;refine⟨f,(b B4 c).trans h.2.1,h.2.2.1.of e,?_⟩;refine Nat.lt_of_not_le λhle=>?_;have a:=Array.getElem?_eq_none_iff.2 hle;rw[e]at a;exact absurd (Array.getElem?_eq_none_iff.1 a) (by have:=h.2.2.2;omega)
def El(w W V:L)(bs:List (Option (Nat × Dat)))(B4:Nat)(n:Int)(gQ r:Nat):Prop:=F2 w V bs B4 n gQ r/\KeepsOthers W V
def El.below{w W V V':L}{bs:List (Option (Nat × Dat))}{B4:Nat}{n:Int}{gQ r:Nat}(h:El w W V bs B4 n gQ r)(a:Bl V V'):El w W V' bs B4 n gQ r:=⟨h.1.below a,h.2.trans (Yn a)⟩
theorem TC{m:Nat × Nat}(h:Boxed V B4 3 v)(a:V.heap[X]?=some (H cs 65 m)):B4≠X:=λe=>by
 subst e;have:=a.symm.trans h;grind
def fE(V:L)(C:Nat)(x y z u:o)(B:Nat)(h:B≠C):(put4 V C x y z u).heap[B]?=V.heap[B]?:=
 (BD _ ⟨C,3,none⟩ u B h).trans ((BD _ ⟨C,2,none⟩ z B h).trans ((BD _ ⟨C,1,none⟩ y B h).trans (BD V ⟨C,0,none⟩ x B h)))
def El.al(h:El w W V bs B4 n gQ r){o:Obj}(m:DL w (V.alloc o) bs'):El w W (V.alloc o) bs' B4 n gQ r:=
 have k:=h.below (Ba V o)
 ⟨⟨m,k.1.2⟩,k.2⟩
def El.up{p:Nat × Nat}(h:El w W V bs B4 n gQ r)(m:DL w V' bs')(c:V.heap[X]?=some (H cs 65 p))(b:∀B,B≠X->V'.heap[B]?=V.heap[B]?)(a:gQ≠X)(k:KeepsOthers V V'):El w W V' bs' B4 n gQ r:=
 ⟨h.1.upd m b (TC h.1.2.1 c) a,h.2.trans k⟩
theorem fF{g o a:Nat}{x:Value}(h:o≠a):(V.setCell ⟨g,a,none⟩ x).cell? ⟨g,o,none⟩=V.cell? ⟨g,o,none⟩:=World.cell?_setCell_other _ _ _ _ DX
theorem ZQ.put{g:Nat}(h:ZQ V g (i+1))(x y z u:o):ZQ (putAt V g (i*4) x y z u) g i:=λj e=>by
 obtain⟨a,b,c,d⟩:=h j O;grind[putAt,fF]
def boxed_below(h:Boxed V B t v)(a:Bl V V'):Boxed V' B t v:=(a.block B h.lt).trans h
def Hh(V:L)(D:Nat)(rs a:o)(R Q:Ja):Prop:=RowK true V rs R/\RowK true V a Q/\V.heap[D]?=some (.deferred (some []))
def Hh.below{V V':L}{D:Nat}{rs b:o}{R Q:Ja}(h:Hh V D rs b R Q)(a:Bl V V'):Hh V' D rs b R Q:=⟨h.1.below a,h.2.1.below a,(a.block D (Ab.1 h.2.2).1).trans h.2.2⟩
def Hh.set{D:Nat}{rs f:o}{R Q:Ja}(h:Hh V D rs f R Q){a:kR}{l c:Nat}(b:Boxed V B 25 (C a l c))(x:o):Hh (V.setCell ⟨B,0,none⟩ x) D rs f R Q:=
 ⟨Ej b x h.1,Ej b x h.2.1,(BD _ ⟨B,0,none⟩ x D λe=>by
  have e:D=B:=e;have d:=h.2.2;rw[e,show V.heap[B]?=_ from b]at d;cases d).trans h.2.2⟩
def DL.asPoly(M:DL w V bs)(h:bs[i]?=some (some (B,.cell 25 (C Option.none 0 0)))):DL w V (bs.set i (some (B,.poly []))):=by
 have b:∀j B' d,(bs.set i (some (B,.poly [])))[j]?=some (some (B',d))->(∃a,bs[j]?=some (some (B',a)))/\((∃cs,Bx V B' d.ty cs/\Has V (.agg cs) d)/\w.heap.size<=B'):=λj B' d e=>by
  rw[List.getElem?_set]at e;split at e
  . rename_i n;subst n;split at e
    . cases e;exact⟨⟨_,h⟩,⟨_,(M.cell h).1,MP V⟩,(M.1 i _ _ h).2⟩
    . cases e
  . exact⟨⟨_,e⟩,M.1 j _ _ e⟩
 exact⟨λj B' d e=>(b j B' d e).2,λj k B' d a c f=>by
  obtain⟨⟨_,l⟩,_⟩:=b j B' d c;obtain⟨⟨_,m⟩,_⟩:=b k B' a f;exact M.2.1 j k B' _ _ l m,M.2.2⟩
def LG(a:L)(b:kR)(la rc m:Nat):L:=(((a.alloc (H #[C b la rc] 23)).alloc (H (YB m) 65)).alloc (H #[C (some ⟨a.heap.size+1,0,none⟩) m m] 23)).alloc (H #[C (some ⟨a.heap.size+1,0,none⟩) m m] 23)
theorem fG(A:Nat)(E qa:kR)(la M lb y n m:Nat)(ps qs:Ja)(w:L)(ha:RowK true w (C E la M) ps)(hb:RowK true w (C qa lb y) qs)(hq:∀i,DT A (cf qs i))(di:Jb qs=qs)(ck:qs≠[])(hL:∀k,k<=m->∃z,z+(2*A+1)<=1000000000/\(k<m->2*z+2*(2*A+1)<=1000000000)/\(∀i,DT z (cf (JI ps qs n m k).2 i))/\∀i,DT (z+A) (cf (JI ps qs n m k).1 i))(hn:lb=n+1)(hm:la-n=m):
 Calls g 22 #[.agg #[C E la M],.agg #[C qa lb y]] w λe w'=>∃u v,e=.returned (.tuple #[u,v,T true])/\Jh w' u (JL ps qs)/\Jh w' v (J0 ps qs)/\Bl w w':=by
 obtain⟨ce,ed,et,fe,s,t,aa,bb,ll,cc,kk,dd,bt⟩:=ha.forms;obtain⟨Qf,ei,ew,fu,s',t',ae,ah,ap,ai,an,aj,bu⟩:=hb.forms;obtain⟨V0,du,az⟩:=RP 25 (.cell 25 (C E la M)) EH 25 (.cell 25 (C qa lb y)) EH 25 (.cell 25 (C none 0 0)) EH 25 (.cell 25 (C none 0 0)) EH (w:=w);have M1:=az.o;have Wi:=Y (show Calls g 20 #[.agg #[C qa lb y]] V0 λe w'=>e=.returned (G F (n:Int))/\Bl V0 w' by
  have h:=YJ (.agg #[C qa lb y]) qs V0 ⟨_,J,hb.below M1.2.2⟩;rwa[show((qs.length:Int)-1)=(n:Int)by omega]at h)
 have Wg:=Y λ(V:L) (h:Bl w V)=>bp (C E la M) ps V (ha.below h);have fx:∀W:L,(Instr.makeSlice 23 (G F (m:Int)) (G F (m:Int))).run g W=.ok (C (some ⟨W.heap.size,0,none⟩) m m) (W.alloc (H (YB m) 65)):=λW=>K4 m O W;obtain⟨d,gb⟩:=ex ((la:Int)-(n:Int):Int);have gi:F.wrap d=d:=by rw[BQ];omega
 have fw:max (0:Int) d=(m:Int):=O
 have ga:¬(n:Int)<0:=O
 obtain⟨HP,HQ,Qb,Qe,HN,Qr,Ug,Ui⟩:=Gw bt bu ce Qf (show lb=n+1/\la-n=m from⟨hn,hm⟩) hq di ck;have HL:=Y hL;have Ql:m<=1099511627776:=O
 clear ha hb bt bu ce Qf ed et ei ew hq di ck hL hn hm M1;have c1:=(az.o.cell (i:=1) J).1.cell;refine(BJ (n:=3)).1 ?_;refine BU func22 J trivial ?_ J;simp only[ntmps22,An,Ak,AK,Nat.reduceAdd,Nat.reduceSub,Ay,Az,AJ,AA,Aj,Au];gi_wp2_with fail
 rw[du.o];refine⟨trivial,?_⟩;refine((BJ (n:=_)).2 Wi.o).mono ?_;rintro e w1 ⟨rfl,bn⟩;have Ue:Bl w1 (w1.alloc (H #[G F (n:Int)] 3)):=Ba w1 _;have Qo:=(az.o.below bn).below Ue;have h4:=BK w1 3 (G F (n:Int));have c0:=(Qo.cell (i:=0) J).1.cell;obtain⟨Qh,Qt,H4⟩:=Dc (Wg.o _ Qo.2.2) Qo h4;clear Ue Qo h4 bn c1;gi_wp2_with fail
 obtain⟨V1,bj⟩:=ex (w1.alloc (H #[G F (n:Int)] 3));obtain⟨B4,bc⟩:=ex (w1.heap.size);rw[bj]at Qh Qt H4 c0;rw[bc]at H4;rw[bj,bc];clear bj bc;refine⟨trivial,?_⟩;refine((BJ (n:=_)).2 Qh.o).mono ?_;rintro e N ⟨u2,rfl,dj,_,ay,cj⟩;have f6:∃a gR rc,u2=C a la rc/\(la≠0->a=some ⟨gR,0,none⟩)/\(la≠0->V1.heap.size<=gR/\Dj true N gR ps)/\la<=rc/\rc<=9223372036854775807:=by
  obtain⟨a7,dx,e7,h7,h8,_⟩:=id dj;rcases cj with rfl|⟨g',cap,e1,e2,e3⟩
  . injection e7 with _ e7
    have h0:=Qb.o.trans e7.symm;exact⟨_,0,_,by rw[h0],λh=>absurd h0 h,λh=>absurd h0 h,O,O⟩
  . rw[e1]at e7;have e8:cap=dx:=by injection e7
    exact⟨_,g',cap,by rw[e1,Qb.o],λ_=>rfl,λ_=>⟨e2,e3⟩,by rw[Qb.o,e8];exact h7,by rw[e8];exact h8⟩
 obtain⟨a,gR,rc,rfl,cn,bi,co,de⟩:=f6;have Qk:=Y (show(la≠0->a=some ⟨gR,0,none⟩)/\la<=rc/\rc<=9223372036854775807 from⟨cn,co,de⟩);clear co de cn;have Uf:DL w N ([some (w.heap.size,.cell 25 (C E la M)),some (w.heap.size+1,.cell 25 (C qa lb y)),some (w.heap.size+1+1,.cell 25 (C Option.none 0 0)),some (w.heap.size+1+1+1,.cell 25 (C Option.none 0 0))]++[g4 la gR ps]):=by
  unfold g4;split
  . exact(Qt.o.below ay).none
  . exact Qt.o.adopt ay (bi (by assumption)).1 (bi (by assumption)).2
 have h4:Boxed N B4 3 (G F (n:Int)):=(ay.block B4 H4.o.lt).trans H4.o;have Uk:=Ba N (H #[C a la rc] 23);have h5:=boxed_below h4 Uk;have c4:=h5.cell;have Uv:=Y (Uf.push (.cell 23 (C a la rc)) (cs:=#[C a la rc]) ⟨J,J⟩);have H5:=Y h5;clear cj dj ay bi Uf h4 Uk h5 c0;gi_wp2_with fail
 refine⟨trivial,?_⟩;refine(OS Fence.wide _ trivial J _ _ _ _).mono ?_;rintro e w3 ⟨rfl,rfl⟩;have Qm:=Y (show F2 w (LG N a la rc m) (GD w E qa la M lb y m a rc N.heap.size (N.heap.size+1) (g4 la gR ps) (kT m 0)) B4 (n:Int) (N.heap.size+1) m by
  have Uo:=((Uv.o.push (.rats (kT m 0)) (Mb _ m)).push (.cell 23 (C (some ⟨N.heap.size+1,0,none⟩) m m)) (cs:=#[C (some ⟨N.heap.size+1,0,none⟩) m m]) ⟨J,J⟩).push (.cell 23 (C (some ⟨N.heap.size+1,0,none⟩) m m)) (cs:=#[C (some ⟨N.heap.size+1,0,none⟩) m m]) ⟨J,J⟩;simp only[A1]at Uo;have hz:(LG N a la rc m).heap[N.heap.size+1]?=some (H (YB m) 65 (0,0)):=by
   have e:=BC (N.alloc (H #[C a la rc] 23)) (H (YB m) 65);rw[A1]at e;exact(Bh _ _ _ (by simp only[A1];omega)).trans ((Bh _ _ _ DX).trans e)
  exact⟨Uo,boxed_below (boxed_below (boxed_below H5.o (Ba _ _)) (Ba _ _)) (Ba _ _),λj hj=>by
   obtain⟨h0,h1,h2,h3⟩:=MQ hj;exact⟨cell_of hz h0,cell_of hz h1,cell_of hz h2,cell_of hz h3⟩,(Ab.1 hz).1⟩)
 obtain⟨W3,ak⟩:=ex (LG N a la rc m);rw[ak]at Qm;have Qj:W3.heap.size=N.heap.size+1+1+1+1:=by rw[<-ak];simp only[LG,A1]
 unfold LG at ak;rw[ak];simp only[A1];obtain⟨B5,bf⟩:=ex (N.heap.size);rw[bf]at Qm Qj;rw[bf];have fk:=Y Qj;clear Qj ak bf c4;gi_wp2_with fail
 have Ul:=Y (show w.heap.size<=W3.heap.size from Qm.o.1.2.2.size);refine Xp J O (gf:=67) (lb:=#[P (some ⟨B5+1+1+1,0,none⟩)]) J trivial (DB func67 kS J)
  (OR Fence.wide _ trivial J O (B5+1+1+1) (some ⟨B5+1,0,none⟩) m m (λ_=>T false) (λ_=>C none 0 0) (λ_=>T false) (λ_=>C none 0 0) Ql) (λ_=>rfl)
  (λk W=>F2 w W (GD w E qa la M lb y m a rc B5 (B5+1) (g4 la gR (JI ps qs n m k).2) (JI ps qs n m k).1) B4 (n:Int) (B5+1) (m-k)) (λ_ _ _=>False)
  (λk W W' row h hg hr=>h.own (by obtain⟨cs,h1,_⟩:=h.1.rats (i:=6) J;exact⟨cs,_,_,h1⟩) hg λr e=>⟨Al Ul.o (hr r e).1,(hr r e).2⟩)
  (λc s W W' row h=>h.elim) Qm.o ?rd
  (λk=>{ tmps:=#[.agg #[C E la M],.agg #[C qa lb y],P (some ⟨w.heap.size,0,none⟩),P (some ⟨w.heap.size+1,0,none⟩),P (some ⟨w.heap.size+1+1,0,none⟩),P (some ⟨w.heap.size+1+1+1,0,none⟩),T false,P (some ⟨B4,0,none⟩),P (some ⟨B5,0,none⟩),P (some ⟨B5+1+1,0,none⟩),G F ((m:Int)-1-k),I,I,I,I,.agg #[C qa lb y],G F ↑n,G F ↑n,T (decide ((n:Int)<0)),I,I,P (some ⟨w.heap.size,0,none⟩),C E la M,C a la rc,C a la rc,G F ↑la,G F ↑n,G F d,G F ↑m,C (some ⟨B5+1,0,none⟩) m m,C (some ⟨B5+1,0,none⟩) m m,.func (.func 67) #[] #[P (some ⟨B5+1+1+1,0,none⟩)],G F ((m:Int)-1-k),.agg #[T false,C none 0 0,T false,C none 0 0],I,I,I,I,I,I,I,I,I,I,I,I,I,I,I,I,I,I,I,I,I,I,I,I,I,I,I,I,I,I,I,I,I,I,I,I,I,I,I,I,I,I,I,I,I,I,I],defers:=[] }) ?assign ?body ?done ?stop
 case stop=>intro D c k W _ _ h;exact h.elim
 case rd=>
  intro k W h;refine⟨(h.1.cell (i:=8) J).1.cell,λhk=>?_⟩;obtain⟨h0,h1,h2,h3⟩:=h.2.2.1 (m-1-k) O;exact⟨B5+1,J,h0,h1,h2,h3⟩
 case assign=>
  intro l k W K hK;unfold K0;gi_wp2;exact hK
 case body=>
  intro l k W hS hk Qj;have Ud:la≠0:=by have:=HN.o;omega
  obtain rfl:=Qk.o.1 Ud;have HG:=Y (show ∀X,g4 la gR X=some (gR,.rats X)from λ_=>BH Ud);rw[HG.o]at hS;obtain⟨f9,S,rfl,dz,q0,q1,q2,q3⟩:=HQ.o n (by have:=HN.o;omega);have Ur:=Y (show ∀j,j<lb->∀V,Bl w V->(V.cell? ⟨S,j*4,none⟩=some (T (s' j))/\V.cell? ⟨S,j*4+1,none⟩=some (C (ae j) (ap j) (ai j))/\V.cell? ⟨S,j*4+2,none⟩=some (T (t' j))/\V.cell? ⟨S,j*4+3,none⟩=some (C (ah j) (an j) (aj j)))/\Jl V (.agg #[T (s' j),C (ae j) (ap j) (ai j),T (t' j),C (ah j) (an j) (aj j)]) (cf qs j)from λj hj V hB=>by
   obtain⟨hi,b,e,hb,c0,c1,c2,c3⟩:=HQ.o j hj;cases e;exact⟨⟨(hB.cell (p:=⟨S,_,none⟩) hb).trans c0,(hB.cell (p:=⟨S,_,none⟩) hb).trans c1,(hB.cell (p:=⟨S,_,none⟩) hb).trans c2,(hB.cell (p:=⟨S,_,none⟩) hb).trans c3⟩,hi.below hB⟩)
  clear f9 dz q0 q1 q2 q3;have Qa:cf qs n≠0:=by
   have:=Jv Ug.o Ui.o;rwa[show qs.length-1=n by have:=HN.o;have:=Qe.o;omega]at this
  obtain⟨z,fh,bm,ad,am⟩:=HL.o k O;have Qv:z+(2*A+1)+(z+(2*A+1))<=1000000000:=O
  clear fh;obtain⟨i,hi⟩:=ex (m-(k+1):Nat);obtain⟨R,hR⟩:=ex ((JI ps qs n m k).2);obtain⟨Q,hQ⟩:=ex ((JI ps qs n m k).1);have Uy:R.length=la:=by rw[<-hR,(Y0 ps qs n m k).2];exact Qb.o.symm
  have Wh:Q.length=m:=by rw[<-hQ];exact(Y0 ps qs n m k).1
  rw[hR,hQ]at hS;rw[hR]at ad;obtain⟨t0,ff⟩:=ex (i+n:Nat);obtain⟨c,hc⟩:=ex (cf R t0/cf qs n);have Up:JI ps qs n m (k+1)=(Q.set i c,YP R i (-c) qs qs.length):=by rw[JI];grind
  have Qd:DT (z+A) c:=by rw[<-hc];exact(ad t0).div2 (Qr.o n) Qa
  obtain⟨Wb,Qi,Ub⟩:=Dc (show Sq c from Sq.of Qd O) (show ∀j,Sq (cf qs j)from λj=>Sq.of (Qr.o j) O) (show ∀j,Sq (c*cf qs j)from λj=>Sq.of (Qd.mul2 (Qr.o j)) O);have Wa:=Y (show ∀j t,Sq (cf (YP R i (-c) qs j) t)from λj t=>by
   rcases XT R i (-c) qs j t with e|e
   . rw[e];exact Sq.of (ad t) O
   . rw[e];exact Sq.of ((ad t).add2 (Qd.neg.mul2 (Qr.o _))) O)
  obtain⟨Qu,Uu,fi,Qw,Qy,Qc⟩:=IW (show Sq (cf R t0)from Sq.of (ad t0) O) hc Qa (show decide (cf qs n≠0)=true from BI Qa) Up (show R.length=la/\Q.length=m/\t0<la/\i<m/\m-k=i+1/\m-(k+1)=i by have:=HN.o;omega);have Un:(m:Int)-1-(k:Int)=(i:Int):=O
  have fm:(i:Int)+(n:Int)=(t0:Int):=O
  have gj:F.wrap (t0:Int)=(t0:Int):=by rw[BQ];have:=HN.o;omega
  have gg:(t0:Int)<(la:Int):=by have:=Qc.o;omega
  have fy:(n:Int)<(lb:Int):=by have:=HN.o;omega
  have fs:(i:Int)<(m:Int):=by have:=Qc.o;omega
  rw[Un];have Qg:El w W W.drew (GD w E (some ⟨S,0,none⟩) la M lb y m (some ⟨gR,0,none⟩) rc B5 (B5+1) (some (gR,.rats R)) Q++[Option.none]) B4 (n:Int) (B5+1) (m-k):=⟨⟨(hS.1.below ((BB _ W).drew)).none,(hS.below ((BB _ W).drew)).2⟩,Yn ((BB _ W).drew)⟩;clear hS hi hR hQ Uy Wh ff hc Qd bm ad am Qv Qa Up Un Qj;gi_wp2_with fail
  refine Kw (Ax ⟨l,J⟩) Di [[],[],[],[1,2],[0,3],[4],[],[6],[],[7,8],[9],[5,10],[11],[12],[12],[],[15,13,11,0,1,2,3,4,5,6,7,8,9,10,11,12,13,15],[14,16,0,1,2,3,4,5,6,7,8,9,10,11,12,13,14,15,16]] [.eq (C (some ⟨gR,0,none⟩) la rc),.eq (G F (i:Int)),.eq (G F (n:Int)),.eq (G F (t0:Int)),.eq (P (some ⟨gR,t0*4,none⟩)),.rat (cf R t0),.eq (P (some ⟨w.heap.size+1,0,none⟩)),.eq (C (some ⟨S,0,none⟩) lb y),.eq (G F (n:Int)),.eq (P (some ⟨S,n*4,none⟩)),.rat (cf qs n),.tup1 (.rat c),.tup1 (.rat c),.rat c,.eq (T true),.ptr,.eq I,.eq (T true)] [15,16] (λb v V=>El w W V (GD w E (some ⟨S,0,none⟩) la M lb y m (some ⟨gR,0,none⟩) rc B5 (B5+1) (some (gR,.rats R)) Q++[nb b v 0 1 (.rat 0) (.rat c)]) B4 (n:Int) (B5+1) (m-k)) Qg (No (.vl J λ_ j=>Kx 5 j.1.1)<|No (.vl J λ_ _=>mv)<|No (.vl J λ_ j=>⟨_,by have e0:=j.1.2.1.cell;refine DU ?_;go_simp,J⟩)<|No (.vl J λh _=>⟨_,by refine DU ?_;rw[h.e 1,h.e 2];go_simp,J⟩)<|No (.vl J λh _=>⟨_,by refine DU ?_;rw[h.e 0,h.e 3];go_simp,J⟩)<|No (.vl J λh j=>OM 4 j.1.1 (by have:=Qc.o;omega) (h.e 4))<|No (.vl J λ_ _=>⟨_,by refine DU ?_;go_simp,J⟩)<|No (.vl J λh j=>⟨_,by have e0:=(j.1.1.cell (i:=1) J).1.cell;refine DU ?_;rw[h.e 6];go_simp,J⟩)<|No (.vl J λ_ j=>⟨_,by have e0:=j.1.2.1.cell;refine DU ?_;go_simp,J⟩)<|No (.vl J λh _=>⟨_,by refine DU ?_;rw[h.e 7,h.e 8];go_simp,J⟩)<|No (.vl J λh j=>by
     obtain⟨⟨e0,e1,e2,e3⟩,hr⟩:=Ur.o n (by have:=HN.o;omega) _ j.1.1.2.2;exact⟨_,by refine DU ?_;rw[h.e 9];go_simp,hr⟩)<|No (.cl λh _=>RT (by
     have q:=Rs _ _ (cf R t0) (cf qs n) _ (h.g 5) (h.g 10) Qu.o (Qi.o n);rw[Qw.o,Uu.o]at q;exact q))<|No (.vl J λh _=>mw (h.g 11))<|No (.vl J λh _=>Re (h.g 12))<|No (.vl J λh _=>Rf (h.g 12))<|No (.wr J λ_ j=>RZ 9 j.1.1 (hT:=λm=>j.al m))<|No (.wr J λh j=>RY 9 j.1.1 (h.g 13) (hp:=h.g 15) (hT:=λn m=>j.up m n (fE _ _ _ _ _ _) (j.1.1.ne 6 9 J J DN) (bU _ _ _ _ _ _)))<|No (.vl J λh _=>aw (h.g 14)) Stp.end_)
   λf V hF MM=>?_
  refine DU ?_;obtain⟨Bc,bg⟩:=hF.p 15;rw[hF.e 0,hF.e 1,hF.e 2,hF.e 3,hF.e 4,hF.e 6,hF.e 7,hF.e 8,hF.e 9,hF.e 14,hF.e 17,bg];have MM:=ED MM;simp only[bg]at MM;have HM:=Y MM;clear hF bg MM;obtain⟨s8,a8,l8,c8,t8,b8,k8,d8,n8,r8,i8,j8⟩:=HM.o.1.1.rat (i:=9) J;obtain⟨e0,e1,e2,e3⟩:=n8.cq;have e6:=(HM.o.1.1.cell (i:=7) J).1.cell;have hE:=HM.o.1.1.rats (i:=6) J;obtain⟨z0,z1,z2,z3⟩:=HM.o.1.2.2.1 i (by have:=Qc.o;omega);have f0:=hE.frozen (i*4);have f1:=hE.frozen (i*4+1);have f2:=hE.frozen (i*4+2);have f3:=hE.frozen (i*4+3);have fj:=Y r8;have Qz:=Y (show El w W (putAt V (B5+1) (i*4) (T s8) (C a8 l8 c8) (T t8) (C b8 k8 d8)) (GD w E (some ⟨S,0,none⟩) la M lb y m (some ⟨gR,0,none⟩) rc B5 (B5+1) (some (gR,.rats R)) (Q.set i c)++[some (Bc,.rat c)]) B4 (n:Int) (B5+1) i from by
   have hp:=HM.o.1.1.putRats (i:=6) J (j:=i) (by have:=Qc.o;omega) r8;obtain⟨cs,Qd,_⟩:=hE;refine⟨⟨hp,(Ks (TC HM.o.1.2.1 Qd) _ _ _ _).trans HM.o.1.2.1,ZQ.put (by have h:=HM.o.1.2.2.1;rwa[Qc.o.2.2.2.2.1]at h) _ _ _ _,?_⟩,HM.o.2.trans (R7 _ _ _ _ _ _ _)⟩;exact(Ab.1 (RL Qd _ _ _ _)).1)
  have c9:=(Qz.o.1.1.cell (i:=1) J).1.cell;unfold putAt at c9;clear n8 i8 j8 hE r8;gi_wp2_with fail
  obtain⟨W9,aq⟩:=ex (putAt V (B5+1) (i*4) (T s8) (C a8 l8 c8) (T t8) (C b8 k8 d8));rw[aq]at Qz;unfold putAt at aq;rw[aq];clear aq c9 e0 e1 e2 e3 e6 z0 z1 z2 z3 f0 f1 f2 f3;gi_loopw [56] (λjv wr=>∃j:Nat,j<=lb/\jv=G F (j:Int)/\Hid (El w W wr (GD w E (some ⟨S,0,none⟩) la M lb y m (some ⟨gR,0,none⟩) rc B5 (B5+1) (some (gR,.rats (YP R i (-c) qs j))) (Q.set i c)++[some (Bc,.rat c)]) B4 (n:Int) (B5+1) i)) λjv _=>lb-(intOf jv).toNat
  case atStart=>exact⟨0,As _,J,Qz⟩
  case round=>
   obtain⟨j,hj,rfl,HJ⟩:=hrel;by_cases fd:j<lb
   . have ft:(j:Int)<(lb:Int):=O
     obtain⟨⟨e0,e1,e2,e3⟩,dh⟩:=Ur.o j fd wr HJ.o.1.1.2.2;have Uz:=Y dh;obtain⟨x,fg⟩:=ex (i+j:Nat);have fo:(i:Int)+(j:Int)=(x:Int):=O
     have Qp:=Y (show x<la/\x=i+j by have:=Qc.o;have:=HN.o;omega);have gk:F.wrap (x:Int)=(x:Int):=by rw[BQ];have:=Qp.o;omega
     have gh:(x:Int)<(la:Int):=by have:=Qp.o;omega
     clear dh fg;gi_wp2_with fail
     have Qq:El w W (wr.alloc (H #[T (s' j),C (ae j) (ap j) (ai j),T (t' j),C (ah j) (an j) (aj j)] 65)) (GD w E (some ⟨S,0,none⟩) la M lb y m (some ⟨gR,0,none⟩) rc B5 (B5+1) (some (gR,.rats (YP R i (-c) qs j))) (Q.set i c)++[some (Bc,.rat c)]++[some (wr.heap.size,.rat (cf qs j))]) B4 (n:Int) (B5+1) i:=by
      have h1:=HJ.o.below (Ba wr (H #[T (s' j),C (ae j) (ap j) (ai j),T (t' j),C (ah j) (an j) (aj j)] 65));exact⟨⟨HJ.o.1.1.push (.rat (cf qs j)) Uz.o,h1.1.2⟩,h1.2⟩
     obtain⟨Wd,bk⟩:=ex (wr.alloc (H #[T (s' j),C (ae j) (ap j) (ai j),T (t' j),C (ah j) (an j) (aj j)] 65));obtain⟨Bd,bh⟩:=ex (wr.heap.size);rw[bk,bh]at Qq;rw[bk,bh];obtain⟨X,hX⟩:=ex (YP R i (-c) qs j);rw[hX]at Qq;have Uj:=Y (show x<X.length by rw[<-hX,XV];have:=Qc.o;have:=Qp.o;omega);have Ut:=Y (show Sq (cf X x)by rw[<-hX];exact Wa.o j x);have We:=Y (show X.set x (cf X x-c*cf qs j)=YP R i (-c) qs (j+1)by
      rw[YP,hX,<-Qp.o.2,show cf X x-c*cf qs j=cf X x+-c*cf qs j by grind])
     have Qg:=Qq.below ((BB _ Wd).drew);clear bk bh hX Qq e0 e1 e2 e3;refine Kw (Ax ⟨l,J⟩) Di [[],[],[],[1,2],[],[],[],[5,6],[4,7],[8],[],[],[10,11],[9,12,12],[0,3,0,1,2,3,4,5,6,7,8,9,10,11,12,13],[14,13,13,0,1,2,3,4,5,6,7,8,9,10,11,12,13]] [.eq (C (some ⟨gR,0,none⟩) la rc),.eq (G F (i:Int)),.eq (G F (j:Int)),.eq (G F (x:Int)),.eq (C (some ⟨gR,0,none⟩) la rc),.eq (G F (i:Int)),.eq (G F (j:Int)),.eq (G F (x:Int)),.eq (P (some ⟨gR,x*4,none⟩)),.rat (cf X x),.rat c,.rat (cf qs j),.rat (c*cf qs j),.rat (cf X x-c*cf qs j),.eq (P (some ⟨gR,x*4,none⟩)),.eq I] [15] (λb _ V=>El w W V (GD w E (some ⟨S,0,none⟩) la M lb y m (some ⟨gR,0,none⟩) rc B5 (B5+1) (some (gR,.rats (if b.getD 0 false then X.set x (cf X x-c*cf qs j)else X))) (Q.set i c)++[some (Bc,.rat c)]++[some (Bd,.rat (cf qs j))]) B4 (n:Int) (B5+1) i) Qg (No (.vl J λ_ j=>Kx 5 j.1.1)<|No (.vl J λ_ _=>mv)<|No (.vl J λ_ _=>mv)<|No (.vl J λh _=>⟨_,by refine DU ?_;rw[h.e 1,h.e 2];go_simp,J⟩)<|No (.vl J λ_ j=>Kx 5 j.1.1)<|No (.vl J λ_ _=>mv)<|No (.vl J λ_ _=>mv)<|No (.vl J λh _=>⟨_,by refine DU ?_;rw[h.e 5,h.e 6];go_simp,J⟩)<|No (.vl J λh _=>⟨_,by refine DU ?_;rw[h.e 4,h.e 7];go_simp,J⟩)<|No (.vl J λh j=>OM 4 j.1.1 Uj.o (h.e 8))<|No (.vl J λ_ j=>GO 9 j.1.1)<|No (.vl J λ_ j=>GO 10 j.1.1)<|No (.cl λh _=>Kz _ _ c (cf qs j) _ (h.g 10) (h.g 11) Wb.o (Qi.o j))<|No (.cl λh _=>MI _ _ (cf X x) (c*cf qs j) _ (h.g 9) (h.g 12) Ut.o (Ub.o j))<|No (.vl J λh _=>⟨_,by refine DU ?_;rw[h.e 0,h.e 3];go_simp,J⟩)<|No (.wr J λh j=>Ky 4 j.1.1 Uj.o (h.g 13) (h.e 14) (hT:=λ⟨_,e,_⟩ m=>j.up m e (λB hB=>Ks hB _ _ _ _) (j.1.1.ne 6 4 J J DN) (R7 _ _ _ _ _ _ _))) Stp.end_)
      λf V hF h3=>?_
     refine DU ?_;rw[hF.e 0,hF.e 1,hF.e 2,hF.e 3,hF.e 4,hF.e 5,hF.e 6,hF.e 7,hF.e 8,hF.e 14];have h3:=ED h3;rw[We.o]at h3;have HO:=Y (show El w W V (GD w E (some ⟨S,0,none⟩) la M lb y m (some ⟨gR,0,none⟩) rc B5 (B5+1) (some (gR,.rats (YP R i (-c) qs (j+1)))) (Q.set i c)++[some (Bc,.rat c)]) B4 (n:Int) (B5+1) i from⟨⟨h3.1.1.take 10,h3.1.2⟩,h3.2⟩);clear hF h3;gi_wp2_with fail
     go_roundw
     case rel=>exact⟨j+1,O,by go_num,HO⟩
     case measure=>simp[intOf];omega
   . obtain rfl:j=lb:=O
     gi_wp2_with fail
     refine⟨HJ.o.2.from _,?_⟩;have h3:=HJ.o.1.1.take 9;rw[Qe.o]at h3;show F2 w wr (GD w E _ la M _ y m _ rc B5 (B5+1) (g4 la gR (JI ps qs n m (k+1)).2) (JI ps qs n m (k+1)).1) B4 (n:Int) (B5+1) (m-(k+1));rw[Qy.o,Qc.o.2.2.2.2.2,HG.o];refine⟨?_,HJ.o.1.2⟩;have Qf:=Qe.o;rw[<-Qf];rw[<-Qf]at h3;exact h3
 case done=>
  intro DC W hD hS hK;have Uq:=(Y0 ps qs n m m).2;have Uh:=(Y0 ps qs n m m).1;have Qa:cf qs n≠0:=by
   have:=Jv Ug.o Ui.o;rwa[show qs.length-1=n by have:=HN.o;have:=Qe.o;omega]at this
  obtain⟨z,Qv,bm,ad,am⟩:=HL.o m (Aa _);have Qs:JL ps qs=Jb (JI ps qs n m m).1:=by unfold JL;rw[show qs.length-1=n by have:=HN.o;have:=Qe.o;omega,show ps.length-n=m by have:=HN.o;have:=Qb.o;omega]
  have Qx:J0 ps qs=Jb (JI ps qs n m m).2:=by unfold J0;rw[show qs.length-1=n by have:=HN.o;have:=Qe.o;omega,show ps.length-n=m by have:=HN.o;have:=Qb.o;omega]
  obtain⟨R,hR⟩:=ex ((JI ps qs n m m).2);obtain⟨Q,hQ⟩:=ex ((JI ps qs n m m).1);rw[hR]at Uq ad Qx;rw[hQ]at Uh am Qs;rw[hR,hQ]at hS;have Qu:=Y (show Sqs R from Sqs.of λi=>Sq.of (ad i) O);have dt:=Y (show Sqs Q from Sqs.of λi=>Sq.of (am i) O);have Um:RowK true W (C a la rc) R:=by
   by_cases h0:la=0
   . rw[h0,Ao (show R.length=0 by have:=Qb.o;omega)];exact⟨a,rc,J,As _,by have:=Qk.o;omega,DK,Am J⟩
   . have h:=hS.1;rw[show g4 la gR R=some (gR,.rats R)from BH h0]at h;have h:=(h.rats (i:=4) J).row (n:=la) (cap:=rc) (by have:=Qb.o;omega) (by have:=Qk.o;omega) (by have:=Qk.o;omega) fe;rw[Qk.o.1 h0];rwa[Ad (by have:=Qb.o;omega)]at h
  have Uc:RowK true W (C (some ⟨B5+1,0,none⟩) m m) Q:=by
   have h:=(hS.1.rats (i:=6) J).row (n:=m) (cap:=m) O (Aa _) O Ql;rwa[Ad O]at h
  have Qg:DL w W.drew (((GD w E qa la M lb y m a rc B5 (B5+1) (g4 la gR R) Q).set 2 (some (w.heap.size+1+1,.poly []))).set 3 (some (w.heap.size+1+1+1,.poly [])))/\Hh W.drew DC (C a la rc) (C (some ⟨B5+1,0,none⟩) m m) R Q:=⟨((hS.1.asPoly (i:=2) J).asPoly (i:=3) J).drew,Hh.below ⟨Um,Uc,hK⟩ ((BB _ W).drew)⟩;obtain⟨Us,Wc,Uw⟩:=Dc Qs Qx (show w.heap.size<=DC by have:=Ul.o;omega);clear hS Uq Uh bm ad am Qv Qs Qx hR hQ Qa Um Uc hK;gi_wp2_with fail
  refine Kw (Am J) Di [[],[0],[],[2,1],[1,3,0,1],[3,4,0,1,2,3,4],[5,0,1,2,3,4,5]] [.eq (C (some ⟨B5+1,0,none⟩) m m),.poly (Jb Q),.eq (C a la rc),.poly (Jb R),.eq I,.eq I,.eq (T true)] [4,5] (λb _ V=>DL w V (((GD w E qa la M lb y m a rc B5 (B5+1) (g4 la gR R) Q).set 2 (some (w.heap.size+1+1,.poly (if b.getD 0 false then Jb Q else [])))).set 3 (some (w.heap.size+1+1+1,.poly (if b.getD 1 false then Jb R else []))))/\Hh V DC (C a la rc) (C (some ⟨B5+1,0,none⟩) m m) R Q) Qg (No (.vl J λ_ j=>Kx 7 j.1)<|No (.cl λh j=>c1 (h.e 0) ((Ik _ Q _ j.2.2.1 dt.o).mono λ_ _ ⟨u,e,h,_,b⟩=>⟨u,e,h,b⟩))<|No (.vl J λ_ j=>Kx 5 j.1)<|No (.cl λh j=>c1 (h.e 2) ((Ik _ R _ j.2.1 Qu.o).mono λ_ _ ⟨u,e,h,_,b⟩=>⟨u,e,h,b⟩))<|No (.wr J λh j=>E0 2 j.1 (h.g 1) (hT:=λn m=>⟨m,j.2.set n _⟩))<|No (.wr J λh j=>E0 3 j.1 (h.g 3) (hT:=λn m=>⟨m,j.2.set n _⟩))<|No (.vl J λ_ _=>av) Stp.end_)
   λf V hF MM=>?_
  refine DU ?_;rw[hF.e 0,hF.e 2,hF.e 6];have MM:=ED MM;obtain⟨a2,l2,c2,g2,f7⟩:=MM.1.poly2 (i:=2) J;obtain⟨a3,l3,c3,g3,f8⟩:=MM.1.poly2 (i:=3) J;have Ux:=MM.1.2.2;have Ua:=MM.2.2.2;clear hF MM;gi_wp2;refine⟨DK,.inl ⟨_,_,J,BX Ua,?_⟩⟩;have hg:=BV V DC (.deferred none);have Qn:∀r,some DC=some r->∃o:Obj,V.heap[r]?=some o/\o.isCells=false:=λr e=>by cases e;exact⟨_,Ua,J⟩
  have q2:Boxed _ (w.heap.size+1+1) 25 (C a2 l2 c2):=Io hg Qn (show Bx V (w.heap.size+1+1) 25 #[C a2 l2 c2]from g2);have q3:Boxed _ (w.heap.size+1+1+1) 25 (C a3 l3 c3):=Io hg Qn (show Bx V (w.heap.size+1+1+1) 25 #[C a3 l3 c3]from g3);have x2:=q2.cell;have x3:=q3.cell;refine⟨.tuple #[.agg #[C a2 l2 c2],.agg #[C a3 l3 c3],T true],by simp[results,results22,go_sem,x2,x3],_,_,J,?_,?_,?_⟩
  . rw[Us.o];obtain⟨u,e,h⟩:=f7;exact⟨u,e,MS hg Qn h⟩
  . rw[Wc.o];obtain⟨u,e,h⟩:=f8;exact⟨u,e,MS hg Qn h⟩
  . exact Ux.trans (DJ (w:=w) (Aa _) _ DC _ _ Uw.o Ua J J)
def boxed_own{row:Option Nat}(hg:V.grownBy V' row)(a:∀r,row=some r->∃o:Obj,V.heap[r]?=some o/\o.isCells=false)(h:Boxed V B t v):Boxed V' B t v:=Io hg a (show Bx V B t #[v]from h)
def fH(t:o)(ps:Ja)(u:o)(w:L)(r:Jh w t ps)(d:Jh w u []):
 Calls g 22 #[t,u] w λe k=>e=.returned (.tuple #[.agg #[C none 0 0],.agg #[C none 0 0],T false])/\Bl w k:=by
 obtain⟨A,la,B,rfl⟩:=r.form;obtain⟨f,lb,j,rfl⟩:=d.form;obtain⟨c,x,b⟩:=RP 25 (.cell 25 (C A la B)) EH 25 (.cell 25 (C f lb j)) EH 25 (.cell 25 (C none 0 0)) EH 25 (.cell 25 (C none 0 0)) EH (w:=w);have m:=b.o;have n:=Y (show Calls g 20 #[.agg #[C f lb j]] c λe k=>e=.returned (G F (-1))/\Bl c k from YJ (.agg #[C f lb j]) [] c (d.below m.2.2));clear r d m;go_enter func22,ntmps22
 go_upto_region 1 with fail
 rw[x.o];have c1:=(b.o.cell (i:=1) J).1.cell;go_wp2_with(go_at_call 20;refine n.o.mono ?_;clear n;rintro e l ⟨rfl,s⟩;have q:Bl l (l.alloc (H #[G F (-1)] 3)):=Ba l _;have a:=(b.o.below s).below q;have y:=(a.cell (i:=2) J).1.cell;have f2:=(a.cell (i:=2) J).1.frozen;have z:=(a.cell (i:=3) J).1.cell;have f3:=(a.cell (i:=3) J).1.frozen;have v:=Y a.2.2;clear q a s)
 refine BA (by simp[results,results22,go_sem,y,z]) J ⟨J,?_⟩;exact((v.o.setCell (p:=⟨w.heap.size+1+1,0,none⟩) DX _).setCell (p:=⟨w.heap.size+1+1+1,0,none⟩) DX _)
def _root_.Go.Proofs.YteldjhhjnchdeaaGreatDoor.ySplit_n(A:Nat)(l m:o)(ps qs:Ja)(w:L)(f:Jh w l ps)(j:Jh w m qs)(_hs:Sqs ps)(hq:∀i,DT A (cf qs i))(_htp:Jb ps=ps)(p:Jb qs=qs)(b:qs≠[])
(n:∀k,k<=ps.length-(qs.length-1)->∃z,z+(2*A+1)<=1000000000/\(k<ps.length-(qs.length-1)->2*z+2*(2*A+1)<=1000000000)/\(∀i,DT z (cf (JI ps qs (qs.length-1) (ps.length-(qs.length-1)) k).2 i))/\∀i,DT (z+A) (cf (JI ps qs (qs.length-1) (ps.length-(qs.length-1)) k).1 i)):
 Calls g 22 #[l,m] w λe a=>∃u v,e=.returned (.tuple #[u,v,T true])/\Jh a u (JL ps qs)/\Jh a v (J0 ps qs)/\Bl w a:=by
 obtain⟨q,la,r,rfl⟩:=f.form;obtain⟨s,lb,t,rfl⟩:=j.form;have c:=f.row;have d:=j.row;obtain⟨y,_⟩:=c.forms;obtain⟨B,_⟩:=d.forms;have D:=Ac.2 b;exact fG A q s la r lb t (lb-1) (la-(lb-1)) ps qs w c d hq p b (λk x=>by rw[show lb-1=qs.length-1 by omega,show la-(qs.length-1)=ps.length-(qs.length-1)by omega];exact n k O) O J
def fI(A:Nat)(b c:o)(ps qs:Ja)(w:L)(f:Jh w b ps)(j:Jh w c qs)(hs:Sqs ps)(hq:∀i,DT A (cf qs i))(n:Jb ps=ps)(p:Jb qs=qs)
(l:qs≠[]->∀k,k<=ps.length-(qs.length-1)->∃z,z+(2*A+1)<=1000000000/\(k<ps.length-(qs.length-1)->2*z+2*(2*A+1)<=1000000000)/\(∀i,DT z (cf (JI ps qs (qs.length-1) (ps.length-(qs.length-1)) k).2 i))/\∀i,DT (z+A) (cf (JI ps qs (qs.length-1) (ps.length-(qs.length-1)) k).1 i)):
 Calls g 22 #[b,c] w λe d=>∃u v,e=.returned (.tuple #[u,v,T (decide (qs≠[]))])/\Jh d u (if qs=[]then []else JL ps qs)/\Jh d v (if qs=[]then []else J0 ps qs)/\Bl w d:=by
 by_cases a:qs=[]
 . subst a;refine(fH b ps c w f j).mono ?_;rintro e d ⟨rfl,h⟩;exact⟨_,_,J,⟨_,J,RowK.nil _ _⟩,⟨_,J,RowK.nil _ _⟩,h⟩
 . have m:decide (qs≠[])=true:=BI a;rw[m];simp only[BH a];exact ySplit_n A b c ps qs w f j hs hq n p a (l a)
def KO(ps:Ja)(n i:Nat)(S:Ja):Prop:=S.length=n/\∀j,cf S j=if j<i then Ef ps j else 0
theorem KO.next{ps:Ja}{n:Nat}(h:KO ps n i S)(a:i<n):KO ps n (i+1) (S.set i (Ef ps i)):=by
 refine⟨by rw[C0];exact h.1,λj=>?_⟩;rw[XJ _ _ _ _ (by rw[h.1];exact a),h.2 j];grind
def KO.done{ps:Ja}{n:Nat}(h:KO ps n n S)(a:n=ps.length-1):Jb S=Jd ps:=Yy λj=>by
 rw[h.2 j,IL];split
 . rfl
 . rw[JS (p:=ps) O,CX]
def Ot(v:o)(ps:Ja)(w:L)(h:Jh w v ps)(aq:Sqs ps)(ay:∀i,Sq (Ef ps i)):
 Calls g 24 #[v] w λe w'=>∃u,e=.returned u/\Jh w' u (Jd ps)/\Bl w w':=by
 obtain⟨A,la,k,rfl⟩:=h.form;have ha:=h.row;obtain⟨an,az,bc,bi,s,t,aa,bb,ll,cc,kk,dd,ak⟩:=ha.forms;obtain⟨V0,ai,r⟩:=Kt 25 (.cell 25 (C A la k)) EH 25 (.cell 25 (C none 0 0)) EH (w:=w);have M1:=r.o;obtain⟨d,hd⟩:=ex ((ps.length:Int)-1:Int);have R:=Y (YJ (.agg #[C A la k]) ps V0 (h.below M1.2.2));rw[hd]at R;obtain⟨n,hn⟩:=ex (ps.length-1:Nat);have Qd:max (0:Int) d=(n:Int):=O
 have Qn:∀W:L,(Instr.makeSlice 23 (G F (n:Int)) (G F (n:Int))).run g W=.ok (C (some ⟨W.heap.size,0,none⟩) n n) (W.alloc (H (YB n) 65)):=λW=>K4 n O W;obtain⟨HP,Qi,Qk,D⟩:=Do ak aq ay (show n=ps.length-1/\la=ps.length from⟨hn.symm,an⟩);have Qc:n<=1099511627776:=O
 clear h ha ak aq ay an az bc hn hd M1;go_enter func24,ntmps24
 go_upto_region 1 with fail
 rw[ai.o];have c0:=(r.o.cell (i:=0) J).1.cell;go_upto_region 2 with(go_at_call 20;refine R.o.mono ?_;clear R;rintro e B ⟨rfl,aj⟩)
 have N:DL w (B.alloc (H (YB n) 65)) [some (w.heap.size,.cell 25 (C A la k)),some (w.heap.size+1,.cell 25 (C none 0 0)),some (B.heap.size,.rats (kT n 0))]:=(r.o.below aj).push (.rats (kT n 0)) (Mb _ n);obtain⟨V1,X⟩:=ex (B.alloc (H (YB n) 65));obtain⟨y,ae⟩:=ex (B.heap.size);rw[X,ae]at N;rw[X,ae];have Qh:=Y N;clear N X ae aj c0 r ai Qn Qd;go_wp2;go_loopw [11] (λiv wr=>∃(i:Nat) (S:Ja),i<=n/\iv=G F (i:Int)/\Hid (KO ps n i S)/\Hid (DL w wr [some (w.heap.size,.cell 25 (C A la k)),some (w.heap.size+1,.cell 25 (C none 0 0)),some (y,.rats S)])) λiv _=>n-(intOf iv).toNat
 case atStart=>exact⟨0,_,As _,J,Y ⟨AE,λj=>by rw[JT,BH O]⟩,Qh⟩
 case round=>
  obtain⟨i,S,hi,rfl,c,q⟩:=hrel;clear Qh;by_cases ap:i<n
  . have bj:(i:Int)<(n:Int):=O
    obtain⟨K,hK⟩:=ex (i+1:Nat);have bf:(i:Int)+1=(K:Int):=O
    have bh:F.wrap (K:Int)=(K:Int):=by rw[BQ];omega
    have bg:(K:Int)<(la:Int):=by have:=D.o;omega
    obtain⟨am,a,rfl,m,p0,p1,p2,p3⟩:=HP.o K (by have:=D.o;omega);have Qo:=Y (show ∀V,Bl w V->(V.cell? ⟨a,K*4,none⟩=some (T (s K))/\V.cell? ⟨a,K*4+1,none⟩=some (C (aa K) (ll K) (cc K))/\V.cell? ⟨a,K*4+2,none⟩=some (T (t K))/\V.cell? ⟨a,K*4+3,none⟩=some (C (bb K) (kk K) (dd K)))/\Jl V (.agg #[T (s K),C (aa K) (ll K) (cc K),T (t K),C (bb K) (kk K) (dd K)]) (cf ps K)from λV l=>by
     exact⟨⟨(l.cell (p:=⟨a,_,none⟩) m).trans p0,(l.cell (p:=⟨a,_,none⟩) m).trans p1,(l.cell (p:=⟨a,_,none⟩) m).trans p2,(l.cell (p:=⟨a,_,none⟩) m).trans p3⟩,am.below l⟩)
    have M:=Y (show K<=1099511627776/\K=i+1 by omega);have Qm:=Y (show cf ps K*((K:Int):Rat)=Ef ps i by rw[M.o.2];rfl);have Qp:=Y (show i<S.length by rw[c.o.1];exact ap);clear am m p0 p1 p2 p3 hK;go_wp2_with fail
    have Qj:=q.o.drew;refine Xa Di [[],[],[],[2],[],[4],[3,5],[6],[],[8],[9],[7,10,10],[0,1,0,1,2,3,4,5,6,7,8,9,10,11],[12,11,11,0,1,2,3,4,5,6,7,8,9,10,11]] [.eq (C (some ⟨y,0,none⟩) n n),.eq (G F (i:Int)),.eq (P (some ⟨w.heap.size,0,none⟩)),.eq (C (some ⟨a,0,none⟩) la k),.eq (G F (i:Int)),.eq (G F (K:Int)),.eq (P (some ⟨a,K*4,none⟩)),.rat (cf ps K),.eq (G F (i:Int)),.eq (G F (K:Int)),.rat ((K:Int):Rat),.rat (Ef ps i),.eq (P (some ⟨y,i*4,none⟩)),.eq I] [13] (λb _ V=>DL w V [some (w.heap.size,.cell 25 (C (some ⟨a,0,none⟩) la k)),some (w.heap.size+1,.cell 25 (C none 0 0)),some (y,if b.getD 0 false then .rats (S.set i (Ef ps i))else .rats S)]) Qj (No (.vl J λ_ _=>mv)<|No (.vl J λ_ _=>mv)<|No (.vl J λ_ _=>⟨_,by refine DU ?_;go_simp,J⟩)<|No (.vl J λh j=>⟨_,by have e0:=(j.cell (i:=0) J).1.cell;refine DU ?_;rw[h.e 2];go_simp,J⟩)<|No (.vl J λ_ _=>mv)<|No (.vl J λh _=>⟨_,by refine DU ?_;rw[h.e 4];go_simp,J⟩)<|No (.vl J λh _=>⟨_,by refine DU ?_;rw[h.e 3,h.e 5];go_simp,J⟩)<|No (.vl J λh j=>by obtain⟨⟨e0,e1,e2,e3⟩,hr⟩:=Qo.o _ j.2.2;exact⟨_,by refine DU ?_;rw[h.e 6];go_simp,hr⟩)<|No (.vl J λ_ _=>mv)<|No (.vl J λh _=>⟨_,by refine DU ?_;rw[h.e 8];go_simp,J⟩)<|No (.cl λh _=>c1 (h.e 9) (R9 (K:Int) O (by have:=M.o;omega) _))<|No (.cl λh _=>Qm.o ▸ Kz _ _ (cf ps K) ((K:Int):Rat) _ (h.g 7) (h.g 10) (Qi.o.at K) (Sl M.o.1))<|No (.vl J λh _=>⟨_,by refine DU ?_;rw[h.e 0,h.e 1];go_simp,J⟩)<|No (.wr J λh j=>Ky 2 j Qp.o (h.g 11) (h.e 12)) Stp.end_)
     λf V hF x=>?_
    refine DU ?_;rw[hF.e 0,hF.e 1,hF.e 2,hF.e 3,hF.e 4,hF.e 5,hF.e 6,hF.e 8,hF.e 9,hF.e 12];have x:=ED x;have HO:=Y x;clear x hF;go_wp2_with fail
    go_roundw
    case rel=>exact⟨i+1,_,O,by go_num,Y (c.o.next ap),HO⟩
    case measure=>simp[intOf];omega
  . obtain rfl:i=n:=O
    have hE:=q.o.rats (i:=2) J;have E:=hE.row (n:=i) (cap:=i) (by rw[c.o.1];exact Aa _) (Aa _) O Qc;rw[Ad (by rw[c.o.1];exact Aa _)]at E;have Q:=Y (Ik _ S wr E (Sqs.of λj=>by
     rw[c.o.2 j];split
     . exact Qk.o j
     . exact Ij))
    rw[c.o.done D.o.1]at Q;clear hE E;go_wp2_with(go_at_call 27;refine Q.o.mono ?_;clear Q;rintro e w5 ⟨u5,rfl,ah,_,ad⟩;obtain⟨a7,l7,c7,rfl⟩:=ah.form;have z:=boxed_below (q.o.cell (i:=1) J).1 ad;have x0:=z.cell;have x1:=z.frozen;have Qq:=Y (Ej z (C a7 l7 c7) ah.row);have Ql:=Y ((Bt q.o.2.2 ad).setCell (p:=⟨w.heap.size+1,0,none⟩) (by show w.heap.size<=w.heap.size+1;omega) (C a7 l7 c7));clear ah ad z)
    exact BA (by simp[results,results24,go_sem,x0]) J ⟨_,J,⟨_,J,Qq.o⟩,Ql.o⟩
end M3
def CD(D:Int)(K:Nat)(c:Rat):Prop:=∃n:Int,c=kU n D/\Sm K n
section
variable {D E:Int} {K M:Nat} {c d:Rat}
def CD.mono(h:CD D K c)(a:K<=M):CD D M c:=by
 obtain⟨n,e,h⟩:=h;exact⟨n,e,h.mono a⟩
def CD.smq(h:CD D K c)(hD:D≠0)(hs:Sm K D):DT K c:=by
 obtain⟨n,rfl,h⟩:=h;exact DT.divInt hD h hs
theorem CD.zero(D:Int)(K:Nat):CD D K 0:=⟨0,by rw[Rat.zero_divInt],Sm.zero K⟩
def CD.add(h:CD D K c)(a:CD D M d)(hD:D≠0):CD D (max K M+1) (c+d):=by
 obtain⟨n,rfl,h⟩:=h;obtain⟨m,rfl,a⟩:=a;refine⟨n+m,?_,?_⟩
 . rw[Fs _ _ hD hD,<-Int.add_mul,CM hD]
 . exact(h.mono (Nat.le_max_left ..)).add (a.mono (Nat.le_max_right ..))
def CD.mul(h:CD D K c)(a:CD E M d):CD (D*E) (K+M) (c*d):=by
 obtain⟨n,rfl,h⟩:=h;obtain⟨m,rfl,a⟩:=a;exact⟨n*m,by rw[CH],h.mul a⟩
def CD.wide(h:CD D K c)(hE:Sm M E)(a:E≠0):CD (D*E) (K+M) c:=by
 obtain⟨n,rfl,h⟩:=h;exact⟨n*E,by rw[CM a],h.mul hE⟩
theorem CD.of(h:DT K c):CD (c.den:Int) K c:=⟨c.num,(CV c).symm,h.1⟩
end
def Dp(D:Int)(K:Nat)(ps:Ja):Prop:=∀i,CD D K (cf ps i)
theorem Dp.some{A:Nat}:∀ {ps:Ja},(∀i,DT A (cf ps i))->∃D:Int,D≠0/\Sm (ps.length*A+1) D/\Dp D (ps.length*A+1) ps:=by
 intro ps;induction ps with
 |nil=>intro _;exact⟨1,DN,Sm.one _ O,λi=>by rw[Yt];exact CD.zero _ _⟩
 |cons c t k=>
  intro h;obtain⟨D,b,d,j⟩:=k (λi=>by have:=h (i+1);rwa[Yp]at this);have a:=h 0;rw[YC]at a;have f:(c.den:Int)≠0:=by have:=c.den_nz;omega
  have e:(c::t).length*A+1=t.length*A+1+A:=by rw[Ak,AR];omega
  rw[e];refine⟨D*c.den,AU b f,d.mul a.2,λi=>?_⟩;cases i with
  |zero=>
   rw[YC];have:=(CD.of a).wide d b;grind
  |succ i=>rw[Yp];exact(j i).wide a.2 f
theorem TD{D:Int}{K:Nat}{ps qs:Ja}(hD:D≠0)(h:∀i j,CD D K (cf ps i*cf qs j))(n:Nat):∀(i k:Nat),CD D (K+min i ps.length) (cf (Xj ps qs n i) k):=by
 intro i;induction i with
 |zero=>intro k;rw[Xj,JT];exact CD.zero _ _
 |succ i a=>
  intro k;rw[Xj];rcases XT (Xj ps qs n i) i (cf ps i) qs qs.length k with e|e
  . rw[e];exact(a k).mono O
  . rw[e];by_cases b:i<ps.length
    . exact((a k).add (h i (k-i)) hD).mono O
    grind[JS]
def fJ{D:Int}{K:Nat}{ps qs:Ja}(hD:D≠0)(hs:Sm 1000000000 D)(h:∀i j,CD D K (cf ps i*cf qs j))(d:K+ps.length+1<=1000000000):M3.GS ps qs:=by
 have hq:∀c,CD D (K+ps.length+1) c->Sq c:=λc b=>Sq.of ((b.mono d).smq hD hs) (Aa _);refine⟨λi j=>hq _ ((h i j).mono O),λn i j k=>?_⟩;have a:=TD hD h n i k;rcases XT (Xj ps qs n i) i (cf ps i) qs j k with e|e
 . rw[e];exact hq _ (a.mono O)
 . rw[e];exact hq _ ((a.add (h i (k-i)) hD).mono O)
theorem fK{D:Int}{K:Nat}{ps qs:Ja}(hD:D≠0)(h:∀i j,CD D K (cf ps i*cf qs j)):Dp D (K+ps.length) (Jy ps qs):=λk=>by
 unfold Jy;rw[JR,IJ];have a:=TD hD h (ps.length+qs.length) ps.length k;grind[NA]
theorem TE(p q:Ja):(Jy p q).length<=p.length+q.length:=Y2 (JW _ _) λi a=>by grind[Jy,JR,IJ,Sn]
def Sm.powZ{A:Nat}{v:Int}(h:Sm A v):∀n,Sm (n*A+1) (v^n):=by
 intro n;induction n with
 |zero=>rw[Int.pow_zero];exact Sm.one _ O
 |succ n a=>rw[Int.pow_succ,AR,show n*A+1*A+1=n*A+1+A by omega];exact a.mul h
def TF{D:Int}{K:Nat}{c:Rat}(h:CD D K c):CD D K (-c):=by
 obtain⟨n,rfl,h⟩:=h;exact⟨-n,by rw[<-Rat.neg_divInt],by unfold Sm at h ⊢;rwa[Fw]⟩
theorem TG{D E l:Int}{K A:Nat}{ps qs:Ja}{n m:Nat}(hD:D≠0)(hp:Dp D K ps)(hE:E≠0)(V:Sm A E)(hq:Dp E A qs)(b:l≠0)(hl:Sm A l)(S:cf qs n=kU l E)(N:cf qs n≠0):
 ∀k,Dp (D*l^k) (K+k*(A+1)) (JI ps qs n m k).2/\Dp (D*l^k) (K+k*(A+1)) (JI ps qs n m k).1:=by
 intro k;induction k with
 |zero=>
  rw[Int.pow_zero,FH];exact⟨λi=>(hp i).mono O,λi=>by rw[JI,JT];exact CD.zero _ _⟩
 |succ k X=>
  obtain⟨d,p⟩:=X;have z:D*l^k≠0:=AU hD (Int.pow_ne_zero b);have e:D*l^(k+1)=D*l^k*l:=by rw[Int.pow_succ,FB]
  rw[e];have y:D*l^k*l≠0:=AU z b;obtain⟨R,s⟩:=ex ((JI ps qs n m k).2);obtain⟨Q,q⟩:=ex ((JI ps qs n m k).1);rw[s]at d;rw[q]at p;obtain⟨r,M,u⟩:=d (m-(k+1)+n);obtain⟨c,t⟩:=ex (cf R (m-(k+1)+n)/cf qs n);have f:c=kU (r*E) (D*l^k*l):=by
   rw[<-t];have B:cf R (m-(k+1)+n)=kU (r*E) (D*l^k*l)*cf qs n:=by
    rw[S,CH,M,show r*E*l=r*(E*l)from FB _ _ _,show D*l^k*l*E=D*l^k*(E*l)by grind,CM (AU hE b)]
   rw[B,Rat.mul_div_cancel N]
  have v:CD (D*l^k*l) (K+(k+1)*(A+1)) c:=⟨r*E,f,(u.mul V).mono (by rw[AR];omega)⟩;have w:∀j,CD (D*l^k*l) (K+k*(A+1)+A) (c*cf qs j):=λj=>by
   obtain⟨x,ex,W⟩:=hq j;refine⟨r*x,?_,u.mul W⟩;rw[f,ex,CH,show r*E*x=r*x*E by grind,CM hE]
  rw[JI,s,q];simp only[t];refine⟨λi=>?_,λi=>?_⟩
  . rcases XT R (m-(k+1)) (-c) qs qs.length i with a|a
    . rw[a];exact((d i).wide hl b).mono (by rw[AR];omega)
    . rw[a,Rat.neg_mul];exact(((d i).wide hl b).add (TF (w _)) y).mono (by rw[AR];omega)
  . rcases M3.fD Q (m-(k+1)) c i with a|a
    . rw[a];exact v
    . rw[a];exact((p i).wide hl b).mono (by rw[AR];omega)
section
variable{n:Nat}{f:Nat->Int}{S:Nat->Ja->Ja->Prop}
theorem fL:∀(n:Nat) (f:Nat->Nat),(∀i,i<=n->f i<n)->∃i j,i<j/\j<=n/\f i=f j:=by
 intro n;induction n with
 |zero=>intro f h;grind
 |succ n k=>
  intro f h;by_cases d:∃i,i<=n/\f i=f (n+1)
  . obtain⟨i,a,b⟩:=d;exact⟨i,n+1,O,Aa _,b⟩
  . have m:∀i,i<=n->f i≠f (n+1):=λi c e=>d ⟨i,c,e⟩;obtain⟨i,j,a,b,l⟩:=k (λi=>if f i=n then f (n+1)else f i) (λi c=>by
     grind)
    refine⟨i,j,a,O,?_⟩;grind
def enc(b:Nat):Nat->(Nat->Nat)->Nat
 |0,_=>0
 |M+1,d=>enc b M d+d M*b^M
theorem Ou{b:Nat}{M:Nat}{d:Nat->Nat}(h:∀k,k<M->d k<b):enc b M d<b^M:=by
 induction M with
 |zero=>simp[enc]
 |succ M c=>
  have e:=c λk i=>h k O;have a:=h M O;have f:(d M+1)*b^M<=b*b^M:=Af _ a;grind[enc]
theorem fM{b:Nat}{M:Nat}{d a:Nat->Nat}(h:∀k,k<M->d k<b)(f:∀k,k<M->a k<b)(e:enc b M d=enc b M a):∀k,k<M->d k=a k:=by
 induction M with
 |zero=>intro k c;omega
 |succ M i=>
  have l1:=Ou (λk c=>h k O:∀k,k<M->d k<b);have l2:=Ou (λk c=>f k O:∀k,k<M->a k<b);grind[enc,Nat.add_mul_div_right,A3]
def Ea(b x j:Nat):Nat:=x/b^j%b
def fN{b:Nat}(a:0<b)(x j:Nat):Ea b x j<b:=AZ _ a
theorem TH(b x:Nat):∀N,enc b N (Ea b x)=x%b^N:=by
 intro N;induction N with
 |zero=>simp[enc,Nat.mod_one]
 |succ N a=>grind[enc,Nat.mod_pow_succ,Ea]
def YM:Nat->(Nat->Int)->Int
 |0,_=>0
 |n+1,f=>YM n f+f n
theorem TI{g:Nat->Int}(h:∀k,k<n->f k=g k):YM n f=YM n g:=by
 induction n with
 |zero=>rfl
 |succ n a=>grind[YM]
def fO(n:Nat)(f g:Nat->Int):YM n (λk=>f k-g k)=YM n f-YM n g:=by
 induction n with
 |zero=>rfl
 |succ n a=>rw[YM,YM,YM,a];omega
theorem Mc{C:Nat}(h:∀k,k<n->(f k).natAbs<=C):(YM n f).natAbs<=n*C:=by
 induction n with
 |zero=>simp[YM]
 |succ n a=>
  grind[YM]
theorem fP(N A:Nat)(c:Nat->Nat->Int)(u:∀k j,(c k j).natAbs<=A):
 ∃z:Nat->Int,(∃j,j<N+1/\z j≠0)/\(∀j,(z j).natAbs<=(2*(N+1)*A+1)^N)/\∀k,k<N->YM (N+1) (λj=>c k j*z j)=0:=by
 obtain⟨B,e⟩:=ex ((2*(N+1)*A+1)^N);have l:1<=B:=by rw[<-e];exact CL O
 obtain⟨C,f⟩:=ex ((N+1)*(A*B));have i:∀x j,Ea (B+1) x j<=B:=λx j=>by have:=fN (b:=B+1) O x j;omega
 have t:∀x k,(YM (N+1) λj=>c k j*(Ea (B+1) x j:Int)).natAbs<=C:=λx k=>by
  rw[<-f];refine Mc λj _=>?_;rw[Co,Aw];exact A9 (u k j) (i x j)
 obtain⟨g,hg⟩:∃g:Nat->Nat->Nat,∀x k,(g x k:Int)=YM (N+1) (λj=>c k j*(Ea (B+1) x j:Int))+C/\g x k<2*C+1:=
  ⟨λx k=>(YM (N+1) (λj=>c k j*(Ea (B+1) x j:Int))+C).toNat,λx k=>by have:=t x k;dsimp only;omega⟩
 have S:(2*C+1)^N<(B+1)^(N+1):=by
  have a:2*C+1<=(2*(N+1)*A+1)*B:=by
   have m:2*C=2*(N+1)*A*B:=by rw[<-f];simp only[Ch]
   rw[m,AR,Fg];exact Nat.add_le_add_left l _
  have d:(2*C+1)^N<=B^(N+1):=by
   refine Al (Cs a N) ?_;rw[Nat.mul_pow,e,Cc,AB];exact Aa _
  exact Cq d (Nat.pow_lt_pow_left O O)
 obtain⟨x,y,a,d,n⟩:=fL ((2*C+1)^N) (λx=>enc (2*C+1) N (g x)) λx _=>Ou λk _=>(hg x k).2;have p:=fM (λk _=>(hg x k).2) (λk _=>(hg y k).2) n;refine⟨λj=>(Ea (B+1) x j:Int)-(Ea (B+1) y j:Int),?_,λj=>?_,λk v=>?_⟩
 . by_cases w:∃j,j<N+1/\(Ea (B+1) x j:Int)-(Ea (B+1) y j:Int)≠0
   . exact w
   . exfalso
     have q:∀j,j<N+1->Ea (B+1) x j=Ea (B+1) y j:=λj V=>by
      grind
     have r:∀M,M<=N+1->enc (B+1) M (Ea (B+1) x)=enc (B+1) M (Ea (B+1) y):=λM=>by
      induction M with
      |zero=>intro _;rfl
      |succ M D=>intro R;rw[enc,enc,D O,q M O]
     have s:=r (N+1) (Aa _);rw[TH,TH,Ci O,Ci O]at s;omega
 . grind
 . have K:=p k v;have Q:=(hg x k).1;have E:=(hg y k).1;rw[show(λj=>c k j*((Ea (B+1) x j:Int)-(Ea (B+1) y j:Int)))=(λj=>c k j*(Ea (B+1) x j:Int)-c k j*(Ea (B+1) y j:Int))from funext λj=>Int.mul_sub _ _ _,fO];omega
theorem fQ(p q:Ja):(JP p q).length<=max p.length q.length:=Y2 (Yi _ _) λi a=>by grind[Iy,JS]
def Da(c:Rat)(p:Ja):Ja:=Jb (YD c p)
theorem JQ(c:Rat)(p:Ja):Jb (Da c p)=Da c p:=Ym _
theorem Yo(c:Rat)(p:Ja)(i:Nat):cf (Da c p) i=cf p i*c:=by unfold Da;rw[JR,Xc]
theorem Y8(c:Rat)(p:Ja)(x:Rat):ev (Da c p) x=ev p x*c:=by unfold Da;rw[XF,Xw]
theorem Hi{a b:Rat}(c:a≠0)(d:b≠0):a*b≠0:=λh=>by
 grind
theorem TJ{p:Ja}(h:cf p n≠0):n<p.length:=by
 grind[JS]
theorem Yh{c:Rat}(d:c≠0){p:Ja}(hp:Jb p=p):(Da c p).length=p.length:=by
 refine FE (Y2 (JQ _ _) λi e=>by rw[Yo,JS e,CX]) ?_;by_cases a:p=[]
 . grind
 . have b:=Jv hp a;have f:0<p.length:=Ac.2 a;have j:=TJ (p:=Da c p) (n:=p.length-1) (by rw[Yo];exact Hi b d);omega
theorem Ov(c d:Rat)(p:Ja):Da c (Da d p)=Da (d*c) p:=XY (JQ _ _) (JQ _ _) λx=>by rw[Y8,Y8,Y8];grind
theorem Hj{p:Ja}(hp:Jb p=p):Da 1 p=p:=XY (JQ _ _) hp λx=>by rw[Y8];grind
theorem fR(c:Rat):Da c []=[]:=rfl
theorem Ir{c:Rat}(b:c≠0){p:Ja}(hp:Jb p=p)(a:p≠[]):Da c p≠[]:=λh=>by
 grind[Yh]
theorem JH{p q:Ja}(hp:Jb p=p)(hq:Jb q=q)(a:p≠[])(b:q≠[]):(Jy p q).length=p.length+q.length-1:=PZ hp hq a b
def Md{p:Ja}(h:p.length=0):p=[]:=List.length_eq_zero_iff.1 h
def Me{p q u v:Ja}(hq:Jb q=q)(a:q≠[])(f:Jb u=u)(i:Jb v=v)(j:v.length<q.length)(h:∀x,ev p x=ev q x*ev u x+ev v x):u=JL p q/\v=J0 p q:=by
 obtain⟨b,c,d,e⟩:=Yz p q hq a;exact Mx hq a f d i e j c (λx=>by rw[<-h x,b x])
theorem LH{c d:Rat}(a:d≠0)(p q:Ja)(hq:Jb q=q)(b:q≠[]):JL (Da c p) (Da d q)=Da (c/d) (JL p q)/\J0 (Da c p) (Da d q)=Da c (J0 p q):=by
 obtain⟨j,e,k,l⟩:=Yz p q hq b;have h:=Me (p:=Da c p) (JQ d q) (Ir a hq b) (JQ (c/d) (JL p q)) (JQ c (J0 p q)) (by
  rw[Yh a hq];exact Cq (Y2 (JQ _ _) λi f=>by rw[Yo,JS f,CX]) e) (λx=>by
  grind[Y8])
 grind
def TK:Nat->Ja->Ja->Ja->Ja->Prop
 |0,p,q,a,b=>p=a/\q=b
 |n+1,p,q,a,b=>∃c:Rat,q≠[]/\c≠0/\TK n q (Da c (J0 p q)) a b
def Eu(p q a b:Ja):Prop:=∃n,TK n p q a b
def Eu.base(p q:Ja):Eu p q p q:=⟨0,J,J⟩
def Eu.step(p q:Ja)(c:Rat)(a b:Ja)(h:q≠[])(k:c≠0):Eu q (Da c (J0 p q)) a b->Eu p q a b:=λ⟨n,e⟩=>⟨n+1,c,h,k,e⟩
def Eu.ind{d:∀p q a b:Ja,Eu p q a b->Prop}(base:∀p q,d p q p q (.base p q))
(step:∀p q c a b (h:q≠[]) (k:c≠0) (e:Eu q (Da c (J0 p q)) a b),d q (Da c (J0 p q)) a b e->d p q a b (.step p q c a b h k e))
{p q a b:Ja}(t:Eu p q a b):d p q a b t:=by
 obtain⟨n,e⟩:=t;induction n generalizing p q with
 |zero=>obtain⟨rfl,rfl⟩:=e;exact base _ _
 |succ n f=>obtain⟨c,h,k,e⟩:=e;exact step p q c a b h k ⟨n,e⟩ (f e)
def Eu.tail{p q a b:Ja}(h:Eu p q a b){c:Rat}(e:b≠[])(f:c≠0):Eu p q b (Da c (J0 a b)):=by
 induction h using Eu.ind with
 |base p q=>exact .step p q c _ _ e f (.base _ _)
 |step p q d a b hq i _ j=>exact .step p q d _ _ hq i (j e)
theorem YN(p q:Ja):Jb (J0 p q)=J0 p q:=Ym _
theorem Yq(p q:Ja):Jb (JL p q)=JL p q:=Ym _
def Eu.len{p q a b:Ja}(h:Eu p q a b):Jb q=q->b.length<=q.length:=by
 induction h using Eu.ind with
 |base p q=>exact λ_=>Aa _
 |step p q d a b hq f _ i=>
  intro c;have e:=i (JQ _ _);rw[Yh f (YN _ _)]at e;have:=(Yz p q c hq).2.1;omega
theorem fS{p q a b:Ja}(h:Eu p q a b):Jb p=p->Jb q=q->b≠[]->∀u v T:Ja,Jb u=u->Jb v=v->Jb T=T->u.length+b.length<=q.length+1->v.length+b.length<=p.length+1->(u≠[]\/v≠[])->T.length<b.length->
 (∀x,ev T x=ev u x*ev p x+ev v x*ev q x)->∃c:Rat,c≠0/\T=Da c (J0 a b):=by
 induction h using Eu.ind with
 |base p q=>
  intro hp hq i u v T k M hT Q lv f t s;have W:u.length<=1:=O
  obtain⟨z,A,h3,h4⟩:=Yz p q hq i;match u,W,f with
  |[],_,f=>
   have w:v≠[]:=by
    rcases f with f|f
    . exact absurd J f
    . exact f
   have e:T=Jy v q:=XY hT (JW _ _) λx=>by rw[Jm,s x];simp[ev];grind
   grind[JH,Ac]
  |[c],_,_=>
   have hc:c≠0:=λe=>by
    have:=Jv k DK;simp[YC]at this;exact this e
   refine⟨c,hc,?_⟩;have R:∀x,ev (Da c p) x=ev q x*ev (Da (-1) v) x+ev T x:=λx=>by
    grind[Y8,ev]
   have h7:=(Me hq i (JQ _ _) hT t R).2;have B:=(LH (c:=c) (d:=1) DN p q hq i).2;rw[Hj hq]at B;rw[h7,B]
 |step p q d a b i E hE N=>
  intro hp hq D u v T k M hT Q lv f t s;obtain⟨z,A,h3,h4⟩:=Yz p q hq i;obtain⟨r,l⟩:=ex (Da d (J0 p q));rw[l]at hE N;have n:Jb r=r:=by rw[<-l];exact JQ _ _
  have ah:b.length<=r.length:=hE.len n;have ae:0<b.length:=Ac.2 D;have ak:r.length<q.length:=by rw[<-l,Yh E (YN _ _)];exact A
  have V:r≠[]:=λe=>by
   grind
  have ai:d*(1/d)=1:=by rw[Rat.mul_comm];exact CJ E
  have m:(1/d)≠0:=λe=>by grind
  have S:∀x,ev p x=ev q x*ev (JL p q) x+ev r x*(1/d):=λx=>by rw[z x,<-l,Y8];grind
  have y:∀x,ev T x=ev (Xm (Jy u (JL p q)) v) x*ev q x+ev (Da (1/d) u) x*ev r x:=λx=>by
   rw[s x,S x,Xk,Jm,Y8];grind
  have ad:(Da (1/d) u).length+b.length<=q.length+1:=by rw[Yh m k];exact Q
  refine N hq n D (Xm (Jy u (JL p q)) v) (Da (1/d) u) T (Xd _ _) (JQ _ _) hT ?_ ad ?_ t y
  . by_cases K:Xm (Jy u (JL p q)) v=[]
    . rw[K];simp;omega
    . have l1:=JH (Xd _ _) hq K i;have e:Jy (Xm (Jy u (JL p q)) v) q=JP T (Jy (Da (1/d) u) r):=XY (JW _ _) (Yi _ _) λx=>by rw[Jm,XW,Jm,y x];grind
      have l2:=fQ T (Jy (Da (1/d) u) r);have l3:=TE (Da (1/d) u) r;rw[<-e,l1]at l2;have aj:0<q.length:=Ac.2 i;by_cases j:u=[]
      . have X:Jy (Da (1/d) u) r=[]:=by rw[j];rfl
        rw[X]at l2;simp at l2;omega
      . have l4:=JH (JQ _ _) n (Ir m k j) V;omega
  . by_cases j:u=[]
    . left
      have w:v≠[]:=by
       rcases f with f|f
       . exact absurd j f
       . exact f
      have e:Xm (Jy u (JL p q)) v=v:=XY (Xd _ _) M λx=>by rw[Xk,Jm,j];simp[ev];grind
      rw[e];exact w
    . right;exact Ir m k j
def Ln(K:Nat)(r:Ja):Prop:=∃c:Rat,c≠0/\∀i,∃z:Int,Sm K z/\cf r i*c=(z:Rat)
def fT(s t:Nat)(f:Nat->Int):YM (s+t) f=YM s f+YM t (λj=>f (s+j)):=by
 induction t with
 |zero=>simp[YM]
 |succ t a=>rw[<-Nat.add_assoc,YM,YM,a];omega
def Ow{f:Nat->Rat}{g:Nat->Int}(h:∀k,k<n->f k=(g k:Rat)):sumN n f=((YM n g:Int):Rat):=by
 induction n with
 |zero=>rfl
 |succ n a=>rw[sumN,YM,a λk b=>h k O,h n O,FG]
def Mf(p q:Ja)(h:p.length<=n)(k:Nat):cf (Jy p q) k=sumN n (λi=>if i<=k then cf p i*cf q (k-i)else 0):=by
 unfold Jy;rw[JR,IJ,<-PY p q h];rfl
theorem Ln.sc{K:Nat}{r:Ja}(h:Ln K r){d:Rat}(j:d≠0):Ln K (Da d r):=by
 obtain⟨c,f,k⟩:=h;have e:d*(1/d)=1:=by rw[Rat.mul_comm];exact CJ j
 refine⟨(1/d)*c,Hi (λl=>by grind) f,λi=>?_⟩;obtain⟨z,a,b⟩:=k i;exact⟨z,a,by rw[Yo,<-b];grind⟩
def Ln.mono{K L:Nat}{r:Ja}(h:Ln K r)(e:K<=L):Ln L r:=by
 obtain⟨c,d,f⟩:=h;exact⟨c,d,λi=>by obtain⟨z,a,b⟩:=f i;exact⟨z,a.mono e,b⟩⟩
theorem fU{K N A B:Nat}(b:A=Z^K)(i:N+1<=1000000000)(f:B=(2*(N+1)*A+1)^N):(N+1)*(A*B)<Z^((K+1)*(N+1)):=by
 have c:1<=A:=by rw[b];exact CL Gr
 have d:2*(N+1)*A+1<=Z^(K+1):=by
  have a:(2*(N+1)+1)*A<=Z*A:=Af _ uo;rw[Cc,<-b,AB A];rw[AR,Fg]at a;exact Al (Nat.add_le_add_left c _) a
 have e:(2*(N+1)*A+1)^(N+1)<=Z^((K+1)*(N+1)):=by rw[Fz];exact Cs d _
 refine Ap ?_ e;grind[Ch,AB,Af]
theorem fV{K m:Nat}{p q:Ja}{cp cq:Rat}(hp:Jb p=p)(hq:Jb q=q)(ah:cp≠0)(ai:cq≠0)(ad:∀i,∃z:Int,Sm K z/\cf p i*cp=(z:Rat))(ae:∀i,∃z:Int,Sm K z/\cf q i*cq=(z:Rat))(hl:p.length+q.length<=1000000000)(hle:q.length<=p.length)(aq:0<m)(az:m<=q.length):
 ∃u v:Ja,Jb u=u/\Jb v=v/\u.length+m<=q.length+1/\v.length+m<=p.length+1/\(u≠[]\/v≠[])/\(Xm (Jy u p) (Jy v q)).length<m/\
  (∀i,∃z:Int,Sm ((K+1)*(p.length+q.length)) z/\cf (Xm (Jy u p) (Jy v q)) i=(z:Rat))/\(∀i,∃z:Int,Sm ((K+1)*(p.length+q.length)) z/\cf u i=(z:Rat)*cp)/\(∀i,∃z:Int,Sm ((K+1)*(p.length+q.length)) z/\cf v i=(z:Rat)*cq):=by
 obtain⟨α,hα⟩:=Cw ad;obtain⟨β,hβ⟩:=Cw ae;have bg:q≠[]:=λe=>by
  grind
 have Qi:p≠[]:=λe=>by
  grind
 obtain⟨s,hs⟩:=ex (q.length+1-m);obtain⟨t,ht⟩:=ex (p.length+1-m);obtain⟨N,hN⟩:=ex (s+t-1);obtain⟨A,D⟩:=ex (Z^K);have am:∀i,(α i).natAbs<=A:=λi=>by have:=(hα i).1;unfold Sm at this;omega
 have an:∀i,(β i).natAbs<=A:=λi=>by have:=(hβ i).1;unfold Sm at this;omega
 have X:s+t=N+1:=O
 obtain⟨z,⟨c,bf,W⟩,n,ak⟩:=fP N A (λk j=>if j<s then(if j<=m-1+k then α (m-1+k-j)else 0)else(if j-s<=m-1+k then β (m-1+k-(j-s))else 0)) (λk j=>by
  grind)
 obtain⟨B,E⟩:=ex ((2*(N+1)*A+1)^N);rw[E]at n;obtain⟨u,R⟩:=ex (Jb ((List.range s).map λj=>(z j:Rat)*cp));obtain⟨v,V⟩:=ex (Jb ((List.range t).map λj=>(z (s+j):Rat)*cq));have d:Jb u=u:=by rw[<-R];exact Ym _
 have w:Jb v=v:=by rw[<-V];exact Ym _
 have r:∀j,cf u j=if j<s then(z j:Rat)*cp else 0:=λj=>by rw[<-R,JR,LV]
 have x:∀j,cf v j=if j<t then(z (s+j):Rat)*cq else 0:=λj=>by rw[<-V,JR,LV]
 have Qf:u.length<=s:=Y2 d λi Q=>by grind
 have Qj:v.length<=t:=Y2 w λi Q=>by grind
 obtain⟨a,M⟩:∃a:Nat->Int,∀i,a i=YM s (λj=>if j<=i then z j*α (i-j)else 0)+YM t (λj=>if j<=i then z (s+j)*β (i-j)else 0):=⟨_,λ_=>rfl⟩;have hT:∀i,cf (Xm (Jy u p) (Jy v q)) i=(a i:Rat):=λi=>by
  rw[NB,Mf u p Qf,Mf v q Qj,M,FG];congr 1
  . refine Ow λj f=>?_;split
    . grind
    . rfl
  . refine Ow λj f=>?_;split
    . grind
    . rfl
 have ap:∀i,(a i).natAbs<=(N+1)*(A*B):=λi=>by
  have b:(YM s λj=>if j<=i then z j*α (i-j)else 0).natAbs<=s*(A*B):=Mc λj _=>by
   split
   . rw[Co,AB];exact A9 (am _) (n _)
   . simp
  have y:(YM t λj=>if j<=i then z (s+j)*β (i-j)else 0).natAbs<=t*(A*B):=Mc λj _=>by
   split
   . rw[Co,AB];exact A9 (an _) (n _)
   . simp
  grind[AR]
 have Qk:(Xm (Jy u p) (Jy v q)).length<m:=by
  have:(Xm (Jy u p) (Jy v q)).length<=m-1:=Y2 (Xd _ _) λi Q=>by
   by_cases bc:i<m-1+N
   . rw[hT];have e:=ak (i-(m-1)) O;rw[<-X,fT]at e;have b:YM s (λj=>if j<=i then z j*α (i-j)else 0)=YM s (λj=>(if j<s then(if j<=m-1+(i-(m-1))then α (m-1+(i-(m-1))-j)else 0)else(if j-s<=m-1+(i-(m-1))then β (m-1+(i-(m-1))-(j-s))else 0))*z j):=TI λj f=>by
      grind
     have y:YM t (λj=>if j<=i then z (s+j)*β (i-j)else 0)=YM t (λj=>(if s+j<s then(if s+j<=m-1+(i-(m-1))then α (m-1+(i-(m-1))-(s+j))else 0)else(if s+j-s<=m-1+(i-(m-1))then β (m-1+(i-(m-1))-(s+j-s))else 0))*z (s+j)):=TI λj f=>by
      grind
     rw[M,b,y,e];rfl
   . refine JS ?_;have l1:=U7 (Jy u p) (Jy v q);by_cases S:u=[]
     . have e0:Jy u p=[]:=by rw[S];rfl
       by_cases l:v=[]
       . have b:Jy v q=[]:=by rw[l];rfl
         grind
       grind[JH]
     . have l2:=JH d hp S Qi;by_cases l:v=[]
       . have b:Jy v q=[]:=by rw[l];rfl
         grind
       grind[JH]
  omega
 have Qg:u≠[]\/v≠[]:=by
  by_cases aj:c<s
  . left
    intro e;have:=r c;rw[e,Yt,BL aj]at this;exact Hi (by exact_mod_cast W) ah this.symm
  . right
    intro e;have:=x (c-s);rw[e,Yt,BL O,show s+(c-s)=c from by omega]at this;exact Hi (by exact_mod_cast W) ai this.symm
 have ay:=fU D.symm O E.symm;have h5:(K+1)*(N+1)<=(K+1)*(p.length+q.length):=Ai _ O;have Qh:1<=A:=by rw[<-D];exact CL Gr
 have bh:∀i,Sm ((K+1)*(p.length+q.length)) (z i):=λi=>by
  have b:B<=(N+1)*(A*B):=Al (Cg B Qh) (Cg _ O);grind[Sm,Ap,Ag,Gr]
 refine⟨u,v,d,w,O,O,Qg,Qk,λi=>⟨a i,?_,hT i⟩,λi=>?_,λi=>?_⟩
 . grind[Sm,Ap,Ag,Gr]
 . rw[r];split
   . grind
   . exact⟨0,Sm.zero _,DK⟩
 . rw[x];split
   . grind
   . exact⟨0,Sm.zero _,DK⟩
theorem TL{K:Nat}{p q a b:Ja}(hp:Jb p=p)(hq:Jb q=q)(e:Ln K p)(f:Ln K q)(hl:p.length+q.length<=1000000000)(hle:q.length<=p.length)(h:Eu p q a b)(d:b≠[]):Ln ((K+1)*(p.length+q.length)) (J0 a b):=by
 obtain⟨cp,n,k⟩:=e;obtain⟨cq,r,l⟩:=f;obtain⟨u,v,w,A,t,y,s,j,hT,_,_⟩:=fV hp hq n r k l hl hle (Ac.2 d) (h.len hq);obtain⟨c,m,B⟩:=fS h hp hq d u v _ w A (Xd _ _) t y s j (λx=>by rw[Xk,Jm,Jm]);refine⟨c,m,λi=>?_⟩;obtain⟨z,D,E⟩:=hT i;grind[Yo]
theorem fW{p q:Ja}(hp:Jb p=p)(hq:Jb q=q)(h:p.length<q.length):J0 p q=p:=
 ((Me (p:=p) hq (λe=>by rw[e]at h;simp at h) (u:=[]) (v:=p) J hp h λx=>by simp[ev];grind).2).symm
theorem TM{K:Nat}{p q a b:Ja}(hp:Jb p=p)(hq:Jb q=q)(d:Ln K p)(e:Ln K q)(hl:p.length+q.length<=1000000000)(h:Eu p q a b)(f:b≠[]):Ln ((K+1)*(p.length+q.length)) (J0 a b):=by
 by_cases hle:q.length<=p.length
 . exact TL hp hq d e hl hle h f
 . have hs:=fW hp hq O;match h with
   |⟨0,j,k⟩=>subst j;subst k;rw[hs];exact d.mono (by
    have:(K+1)*1<=(K+1)*(p.length+q.length):=Ai _ O
    omega)
   |⟨n+1,c,r,i,hE⟩=>
    have hE:Eu q (Da c (J0 p q)) a b:=⟨n,hE⟩;rw[hs]at hE;have m:=Yh i hp;have l:=TL hq (JQ c p) e (d.sc i) O O hE f;grind
theorem GW{c:Rat}(a:c≠0):1/c≠0:=λe=>by
 grind
def Jt(p:Ja):Ja:=Da (1/cf p (p.length-1)) p
def fX:Jt []=[]:=rfl
theorem Yx(p:Ja):Jb (Jt p)=Jt p:=JQ _ _
theorem LI{c:Rat}(a:c≠0){p:Ja}(hp:Jb p=p):Jt (Da c p)=Jt p:=by
 grind[Jt,Yh,Yo,Ov]
def fY{p:Ja}(hp:Jb p=p)(a:p≠[]):Jt p≠[]:=Ir (GW (Jv hp a)) hp a
theorem Ya{p:Ja}(hp:Jb p=p):(Jt p).length=p.length:=by
 by_cases a:p=[]
 . subst a;rfl
 . exact Yh (GW (Jv hp a)) hp
theorem Mg{p:Ja}(hp:Jb p=p)(a:p≠[]):cf (Jt p) ((Jt p).length-1)=1:=by
 grind[Ya,Jt,Yo,Jv]
def Is{p:Ja}(hp:Jb p=p):Jt (Jt p)=Jt p:=by
 by_cases a:p=[]
 . subst a;rfl
 . exact LI (GW (Jv hp a)) hp
def EG:Nat->Ja->Ja->Ja
 |0,p,_=>Jt p
 |n+1,p,q=>if q=[]then Jt p else EG n q (J0 p q)
def JA(p q:Ja):Ja:=EG q.length p q
theorem fZ:∀(n m:Nat) (p q:Ja),Jb q=q->q.length<=n->q.length<=m->EG n p q=EG m p q:=by
 intro n;induction n with
 |zero=>
  intro m p q _ h _;have hq:q=[]:=Md O;subst hq;cases m with
  |zero=>rfl
  |succ m=>simp[EG]
 |succ n d=>
  intro m p q hq h b;by_cases a:q=[]
  . grind
  . have hl:0<q.length:=Ac.2 a;cases m with
    |zero=>omega
    |succ m=>
     have c:=(Yz p q hq a).2.1;grind[EG,YN]
def Ox(p:Ja):JA p []=Jt p:=rfl
theorem fl{p q:Ja}(hq:Jb q=q)(a:q≠[]):JA p q=JA q (J0 p q):=by
 have b:=(Yz p q hq a).2.1;have hl:0<q.length:=Ac.2 a;unfold JA;obtain⟨n,c⟩:∃n,q.length=n+1:=⟨q.length-1,O⟩;grind[EG,fZ,YN]
theorem gA:∀(n:Nat) (c d:Rat) (p q:Ja),c≠0->d≠0->Jb p=p->Jb q=q->EG n (Da c p) (Da d q)=EG n p q:=by
 intro n;induction n with
 |zero=>intro c d p q b _ hp _;exact LI b hp
 |succ n f=>
  intro c d p q b e hp hq;by_cases a:q=[]
  . grind[EG,fR,LI]
  . simp only[EG,BH a,BH (Ir e hq a)];rw[(LH e p q hq a).2];exact f d c q (J0 p q) e b hq (YN _ _)
theorem KP{c d:Rat}{p q:Ja}(a:c≠0)(b:d≠0)(hp:Jb p=p)(hq:Jb q=q):JA (Da c p) (Da d q)=JA p q:=by
 grind[JA,Yh,gA]
def Eu.gcd{p q a b:Ja}(h:Eu p q a b):Jb p=p->Jb q=q->JA p q=JA a b:=by
 induction h using Eu.ind with
 |base p q=>exact λ_ _=>rfl
 |step p q c a b f e _ i=>
  intro hp hq;rw[<-i hq (JQ _ _),fl hq f];have d:=KP (c:=1) DN e hq (YN p q);rw[Hj hq]at d;exact d.symm
def TN(p q:Ja)(hp:Jb p=p)(hq:Jb q=q):JA (Jt p) (Jt q)=JA p q:=by
 by_cases b:p=[]
 . subst b;by_cases a:q=[]
   . subst a;rfl
   . have:=KP (c:=1) (p:=[]) DN (GW (Jv hq a)) J hq;exact this
 . by_cases a:q=[]
   . subst a;exact Is hp
   . exact KP (GW (Jv hp b)) (GW (Jv hq a)) hp hq
theorem gC:∀(n:Nat) (p q:Ja),Jb (EG n p q)=EG n p q:=by
 intro n;induction n with
 |zero=>intro p q;exact Yx _
 |succ n a=>
  intro p q;grind[EG,Yx]
theorem JZ(p q:Ja):Jb (JA p q)=JA p q:=gC _ _ _
theorem Hk(c:Rat):c*(c.den:Rat)=(c.num:Rat):=by
 have a:((c.den:Int):Rat)≠0:=by exact_mod_cast c.den_nz
 grind[CV,Ck,AM]
theorem dvd_one{a b c:Int}(h:a∣b*c)(hg:Nat.gcd a.natAbs c.natAbs=1):a∣b:=by
 have d:=Fq.2 h;grind[Co,Fq,Nat.Coprime.dvd_of_dvd_mul_right]
theorem gD{c:Rat}{D n:Int}(h:c*(D:Rat)=(n:Rat)):(c.den:Int)∣D/\c.num*D=n*c.den:=by
 have f:(c.den:Rat)≠0:=by exact_mod_cast c.den_nz
 have a:c*(c.den:Rat)=(c.num:Rat):=Hk c;have b:((c.num*D:Int):Rat)=((n*(c.den:Int):Int):Rat):=by
  rw[AC,AC,<-a,<-h];show c*(c.den:Rat)*(D:Rat)=c*(D:Rat)*((c.den:Int):Rat);rw[AM];grind
 have d:c.num*D=n*c.den:=CR.1 b;refine⟨?_,d⟩;have e:(c.den:Int)∣D*c.num:=⟨n,DX⟩;refine dvd_one e ?_;show Nat.gcd (c.den:Int).natAbs c.num.natAbs=1;rw[Aw,CB];exact c.reduced
theorem gE{p:Ja}{L G:Int}(R:∀i,((cf p i).den:Int)∣L)(S:∀u:Int,(∀i,((cf p i).den:Int)∣u)->L∣u)(N:∀i,G∣(cf p i).num)(Q:∀v:Int,(∀i,v∣(cf p i).num)->v∣G)(r:G≠0){K:Nat}(h:Ln K p):
 ∀i,∃z:Int,Sm K z/\cf p i*((L:Rat)/(G:Rat))=(z:Rat):=by
 obtain⟨c,V,X⟩:=h;have A:c.num≠0:=λe=>V (CS.1 e);have x:(c.den:Int)≠0:=by have:=c.den_nz;omega
 have k:∀i,∃z:Int,Sm K z/\(cf p i).num*c.num=z*((cf p i).den*c.den):=λi=>by
  obtain⟨z,n,q⟩:=X i;refine⟨z,n,?_⟩;have D:c*(c.den:Rat)=(c.num:Rat):=Hk c;have l:cf p i*((cf p i).den:Rat)=((cf p i).num:Rat):=Hk _;have E:(((cf p i).num*c.num:Int):Rat)=((z*(((cf p i).den:Int)*(c.den:Int)):Int):Rat):=by
   rw[AC,AC,AC,AM,AM,<-D,<-l,<-q];grind
  exact CR.1 E
 have b:L∣c.num:=S _ λi=>by
  obtain⟨z,_,e⟩:=k i;have a:((cf p i).den:Int)∣(cf p i).num*c.num:=⟨z*c.den,DX⟩;rw[Int.mul_comm]at a;refine dvd_one a ?_;show Nat.gcd ((cf p i).den:Int).natAbs (cf p i).num.natAbs=1;rw[Aw,CB];exact(cf p i).reduced
 have j:(c.den:Int)∣G:=Q _ λi=>by
  obtain⟨z,_,e⟩:=k i;have a:(c.den:Int)∣(cf p i).num*c.num:=⟨z*(cf p i).den,DX⟩;refine dvd_one a ?_;show Nat.gcd (c.den:Int).natAbs c.num.natAbs=1;rw[Aw,CB];exact c.reduced
 obtain⟨u,b⟩:=b;obtain⟨v,j⟩:=j;have B:u≠0:=λe=>A (by rw[b,e,Int.mul_zero]);have w:v≠0:=λe=>r (by rw[j,e,Int.mul_zero]);intro i;obtain⟨e,s⟩:=R i;obtain⟨m,t⟩:=N i;obtain⟨z,n,q⟩:=k i;have W:((cf p i).den:Int)≠0:=by have:=(cf p i).den_nz;omega
 have y:z=m*e*(u*v):=by
  have M:z*(((cf p i).den:Int)*c.den)=m*e*(u*v)*(((cf p i).den:Int)*c.den):=by
   rw[<-q,t,b,j,s];generalize ((cf p i).den:Int)=d;generalize (c.den:Int)=f;grind
  exact Int.eq_of_mul_eq_mul_right (AU W x) M
 refine⟨m*e,n.le ?_,?_⟩
 . rw[y,Co (m*e)]
   have:0<(u*v).natAbs:=Int.natAbs_pos.2 (AU B w)
   exact A6 _ this
 . have ad:(G:Rat)≠0:=by exact_mod_cast r
   have l:cf p i*((cf p i).den:Rat)=((cf p i).num:Rat):=Hk _;rw[t,AC]at l;have ae:(L:Rat)=((cf p i).den:Rat)*(e:Rat):=by rw[s,AC,AM]
   grind
def Xi(p:Ja):Nat->Nat
 |0=>1
 |n+1=>Nat.lcm (Xi p n) (cf p n).den
def Y4(p:Ja):Nat->Nat
 |0=>0
 |n+1=>Nat.gcd (Y4 p n) (cf p n).num.natAbs
def TO(p:Ja):∀n,0<Xi p n:=by
 intro n;induction n with
 |zero=>exact Nat.one_pos
 |succ n a=>exact Nat.lcm_pos a (cf p n).den_pos
theorem Oy(p:Ja):∀n i,i<n->(cf p i).den∣Xi p n:=by
 intro n;induction n with
 |zero=>intro i h;omega
 |succ n a=>
  intro i h;grind[Xi,Nat.dvd_lcm_right,Nat.dvd_trans,Nat.dvd_lcm_left]
def Oz(p:Ja)(u:Nat)(h:∀i,(cf p i).den∣u):∀n,Xi p n∣u:=by
 intro n;induction n with
 |zero=>exact Nat.one_dvd _
 |succ n a=>exact Nat.lcm_dvd a (h n)
theorem O0(p:Ja):∀n i,i<n->Y4 p n∣(cf p i).num.natAbs:=by
 intro n;induction n with
 |zero=>intro i h;omega
 |succ n a=>
  intro i h;grind[Y4,CN,Nat.dvd_trans,C7]
def TP(p:Ja)(v:Nat)(h:∀i,v∣(cf p i).num.natAbs):∀n,v∣Y4 p n:=by
 intro n;induction n with
 |zero=>exact Nat.dvd_zero _
 |succ n a=>exact Nat.dvd_gcd a (h n)
theorem TQ{D:Int}{K:Nat}{c:Rat}(hD:D≠0)(h:CD D K c):∃n:Int,Sm K n/\c*(D:Rat)=(n:Rat):=by
 obtain⟨n,rfl,h⟩:=h;refine⟨n,h,?_⟩;have a:(D:Rat)≠0:=by exact_mod_cast hD
 grind[Ck]
theorem Mh{D:Int}{K:Nat}{c:Rat}{n:Int}(hD:D≠0)(a:Sm K n)(h:c*(D:Rat)=(n:Rat)):CD D K c:=by
 refine⟨n,?_,a⟩;have b:(D:Rat)≠0:=by exact_mod_cast hD
 grind[Ck]
theorem TR{D:Int}{K:Nat}{p:Ja}(hD:D≠0)(hs:Sm K D)(h:Dp D K p)(n:Nat):Sm K (Xi p n:Int):=by
 refine hs.le ?_;rw[Aw];refine Nat.le_of_dvd (Int.natAbs_pos.2 hD) (Oz p _ (λi=>?_) n);obtain⟨z,_,e⟩:=TQ hD (h i);grind[gD,Cy]
def TS{K:Nat}{p:Ja}(h:∀i,Sm K (cf p i).num):∀n,Sm K (Y4 p n:Int):=by
 intro n;induction n with
 |zero=>exact Sm.zero K
 |succ n a=>exact Sm.gcd a (h n)
def Dp.ln{D:Int}{K:Nat}{p:Ja}(hD:D≠0)(h:Dp D K p):Ln K p:=
 ⟨(D:Rat),by exact_mod_cast hD,λi=>TQ hD (h i)⟩
theorem LJ{p:Ja}(hp:Jb p=p)(a:p≠[]):Y4 p p.length≠0:=λe=>by
 have hl:0<p.length:=Ac.2 a;have b:=O0 p p.length (p.length-1) O;grind[Nat.zero_dvd,Jv,CS]
def Yf(p:Ja):Ja:=Da ((Xi p p.length:Rat)/(Y4 p p.length:Rat)) p
theorem gF{p:Ja}(hp:Jb p=p)(a:p≠[]):0<(Xi p p.length:Rat)/(Y4 p p.length:Rat):=by
 have b:(0:Rat)<(Xi p p.length:Rat):=by exact_mod_cast TO p _
 have c:(0:Rat)<(Y4 p p.length:Rat):=by exact_mod_cast Nat.pos_of_ne_zero (LJ hp a)
 grind[Rat.mul_pos,Rat.inv_pos]
theorem TT{p:Ja}(hp:Jb p=p)(c:p≠[]){K:Nat}(h:Ln K p):∀i,∃z:Int,Sm K z/\cf (Yf p) i=(z:Rat):=by
 have b:∀i,p.length<=i->cf p i=0:=λi a=>JS a;have d:=gE (p:=p) (L:=(Xi p p.length:Int)) (G:=(Y4 p p.length:Int)) (λi=>by
  by_cases a:i<p.length
  . grind[Fe,Oy]
  . rw[b i O];exact Int.one_dvd _) (λu e=>by
  refine Cy.2 (Oz p _ (λi=>Cy.1 (e i)) _)) (λi=>by
  by_cases a:i<p.length
  . exact Cy.2 (O0 p _ i a)
  . rw[b i O];exact Int.dvd_zero _) (λv f=>by
  have:v.natAbs∣Y4 p p.length:=TP p _ (λi=>Fq.2 (f i)) _
  grind[Int.natAbs_dvd,Fe]) (by have:=LJ hp c;omega) h
 intro i;obtain⟨z,j,k⟩:=d i;grind[Yf,Yo,AM]
def lenOf:o->Nat|C _ l _=>l|_=>0
def LK(w V:L)(a rv:o)(Q R:Ja):Prop:=RowK false V a Q/\RowK false V rv R/\Bl w V
def LK.below{w V V':L}{b rv:o}{Q R:Ja}(h:LK w V b rv Q R)(a:Bl V V'):LK w V' b rv Q R:=⟨h.1.below a,h.2.1.below a,Bt h.2.2 a⟩
def O1(w wr V:L)(a rv:o)(Q R:Ja):Prop:=LK w V a rv Q R/\Bl wr V
def O1.below{w wr V V':L}{b rv:o}{Q R:Ja}(h:O1 w wr V b rv Q R)(a:Bl V V'):O1 w wr V' b rv Q R:=⟨h.1.below a,Bt h.2 a⟩
def Hl(S:Nat->Ja->Ja->Prop)(la:Nat)(ps qs R Q:Ja)(k:Nat):Prop:=
 Jb R=R/\Jb Q=Q/\k+R.length<=la/\Q.length<=la/\(∀x,ev ps x=ev qs x*ev Q x+ev R x)/\(∀i,i+qs.length<=R.length->cf Q i=0)/\S k R Q
structure DivS(A la:Nat)(S:Nat->Ja->Ja->Prop)(qs:Ja):Prop where
 next:∀(k:Nat) (R Q:Ja) (n:Nat) (a:Rat),S k R Q->(∀i,i+qs.length<=R.length->cf Q i=0)->qs.length<=R.length->n=R.length-qs.length->a=cf R (R.length-1)/cf qs (qs.length-1)->
  (∀i,cf (JP R (Jy (Jb (Dg n [a])) qs)) i=cf R i-(if n<=i then a*cf qs (i-n)else 0))->(∀i,cf (Xm Q (Jb (Dg n [a]))) i=if i=n then a else cf Q i)->S (k+1) (JP R (Jy (Jb (Dg n [a])) qs)) (Xm Q (Jb (Dg n [a])))
 size:∀(k:Nat) (R Q:Ja),k<=la->S k R Q->Sqs R/\Sqs Q/\∃z,z+(2*A+1)<=1000000000/\∀i,DT z (cf R i)
theorem Hl.start{ps qs:Ja}(a:Jb ps=ps)(h:S 0 ps []):Hl S ps.length ps qs ps [] 0:=by
 refine⟨a,J,O,DK,λx=>?_,λi _=>Yt i,h⟩;show _=ev qs x*0+_;grind
theorem Hl.next{A la:Nat}{S:Nat->Ja->Ja->Prop}{ps qs R Q:Ja}{k n:Nat}{a:Rat}(q:DivS A la S qs)(h:Hl S la ps qs R Q k)(s:Jb qs=qs)(j:qs≠[])(hl:qs.length<=R.length)(f:n=R.length-qs.length)
(d:a=cf R (R.length-1)/cf qs (qs.length-1)):Hl S la ps qs (JP R (Jy (Jb (Dg n [a])) qs)) (Xm Q (Jb (Dg n [a]))) (k+1):=by
 obtain⟨t,u,v,w,m,c,p⟩:=h;have z:0<qs.length:=Ac.2 j;have l:∀i,cf (JP R (Jy (Jb (Dg n [a])) qs)) i=cf R i-(if n<=i then a*cf qs (i-n)else 0):=λi=>by rw[Iy,LF]
 have b:∀i,cf (Xm Q (Jb (Dg n [a]))) i=if i=n then a else cf Q i:=λi=>by
  rw[NB,LE];split
  . rename_i e;rw[e,c n O,Rat.zero_add]
  . exact Rat.add_zero _
 have y:=Oq s j hl f d;refine⟨Yi _ _,Xd _ _,O,Y2 (Xd _ _) λi r=>?_,λx=>?_,λi r=>?_,q.next k R Q n a p c hl f d l b⟩
 . rw[b,BH O,JS O]
 . rw[Xk,XW,Jm,TB,m x];grind
 . rw[b,BH O];exact c i O
def Hl.done{la:Nat}{ps qs R Q:Ja}{k:Nat}(h:Hl S la ps qs R Q k)(b:Jb qs=qs)(a:qs≠[])(hl:R.length<qs.length):Q=JL ps qs/\R=J0 ps qs:=by
 obtain⟨d,e,_,_,f,_⟩:=h;obtain⟨g1,g2,c,g4⟩:=Yz ps qs b a;exact Mx b a e c d g4 hl g2 (λx=>by rw[<-f x,<-g1 x])
def TU(S:Nat->Ja->Ja->Prop)(A:Nat)(va vb:o)(ps qs:Ja)(w:L)(X:RowK false w va ps)(hb:RowK false w vb qs)(ap:DivS A ps.length S qs)(an:S 0 ps [])(hq:∀i,DT A (cf qs i))(az:Jb ps=ps)(bc:Jb qs=qs)(ah:qs≠[])(ff:ps.length<=1000):
 Calls g 41 #[va,vb] w λe l=>∃u v,e=.returned (.tuple #[u,v])/\RowK false l u (JL ps qs)/\RowK false l v (J0 ps qs)/\Bl w l:=by
 obtain⟨a,la,ca,rfl⟩:=X.form;obtain⟨b,lb,cb,rfl⟩:=hb.form;obtain⟨fd,ew,f7,fe,_⟩:=X.formsF;obtain⟨du,f6,f8,dx,s',t',ai,aj,bj,ak,bi,am,dh⟩:=hb.formsF;have Un:0<qs.length:=Ac.2 ah;have Qq:=Y (KK _ ps w X);rw[az]at Qq;obtain⟨HA,HB,Ul,HQ,Qe,Qg,Qk,Qi⟩:=Gw X dh hb hq bc ah du ap;have Ua:=Y (Jv bc ah);have Qw:=Y (show Sqs qs from Sqs.of λi=>Sq.of (hq i) (by
  obtain⟨_,_,z,h1,_⟩:=ap.size 0 ps [] (As _) an;omega))
 have Ql:=Y (Hl.start (qs:=qs) az an);obtain⟨lp,dz⟩:=ex (ps.length);rw[dz]at Ql Qi;have ft:1<=lb:=O
 have fu:lb<=1099511627776:=dx;have fw:lp<=1000:=O
 clear X hb an ap hq az bc ah fd du ew f7 f6 f8 fe dx dh Un ff dz;go_enter func41,ntmps41
 go_wp2_with(go_at_call 45;refine Qq.o.mono ?_;rintro e w0 ⟨u0,rfl,ae,cn⟩;obtain⟨a0,l0,c0,rfl⟩:=ae.form)
 go_loopw [6,7,8] (λqv rv _ wr=>∃(k lr:Nat) (Q R:Ja),(∃ra rc,rv=C ra lr rc)/\(∃qa ql qc,qv=C qa ql qc)/\lr<=1000/\Hid (lr=R.length)/\Hid (LK w wr qv rv Q R)/\Hid (Hl S lp ps qs R Q k)) λ_ rv _ _=>lenOf rv
 case atStart=>exact⟨0,_,[],ps,⟨_,_,J⟩,⟨_,_,_,J⟩,by obtain⟨_,_,e,_⟩:=id ae;cases e;have:=Ql.o.2.2.1;omega,Y (by obtain⟨_,_,e,_⟩:=id ae;cases e;rfl),Y ⟨RowK.nil _ _,ae,cn⟩,Ql⟩
 case round=>
  clear ae cn;obtain⟨k,lr,Q,R,⟨ra,rc,rfl⟩,⟨qa,ql,qc,rfl⟩,fx,D,r,W⟩:=hrel;by_cases fk:lb<=lr
  . have Qh:(lb:Int)<=(lr:Int):=O
    obtain⟨n,hn⟩:=ex (lr-lb:Nat);obtain⟨m,hm⟩:=ex (lr-1:Nat);obtain⟨c,f9⟩:=ex (lb-1:Nat);have gg:(lr:Int)-(lb:Int)=(n:Int):=O
    have fy:(lr:Int)-1=(m:Int):=O
    have fm:(lb:Int)-1=(c:Int):=O
    have gh:F.wrap (n:Int)=(n:Int):=by rw[BQ];omega
    have ga:F.wrap (m:Int)=(m:Int):=by rw[BQ];omega
    have fo:F.wrap (c:Int)=(c:Int):=by rw[BQ];omega
    have gb:(m:Int)<(lr:Int):=O
    have fs:(c:Int)<(lb:Int):=O
    have B:=Y (show n=R.length-qs.length/\m=R.length-1/\c=qs.length-1/\qs.length<=R.length by have:=D.o;have:=Qk.o;omega);have Qd:=Y (show n<1099511627775/\n+1<=1001 by omega);obtain⟨fg,fh,fi,fj,s,t,aa,bb,ll,cc,kk,dd,di⟩:=r.o.2.1.formsF;clear fg fh fi fj;obtain⟨dj,d,rfl,ad,bk,bm,bn,bt⟩:=di m O;obtain⟨dt,f,rfl,y,bu,ce,cj,ck⟩:=HB.o c O;have Qa:=Y (show ∀V,Bl wr V->(V.cell? ⟨d,m*4,none⟩=some (C (aa m) (ll m) (cc m))/\V.cell? ⟨d,m*4+1,none⟩=some (T (s m))/\V.cell? ⟨d,m*4+2,none⟩=some (C (bb m) (kk m) (dd m))/\V.cell? ⟨d,m*4+3,none⟩=some (T (t m)))/\Jq V (.agg #[C (aa m) (ll m) (cc m),T (s m),C (bb m) (kk m) (dd m),T (t m)]) (cf R m)from λV q=>by
     exact⟨⟨(q.cell (p:=⟨d,_,none⟩) ad).trans bk,(q.cell (p:=⟨d,_,none⟩) ad).trans bm,(q.cell (p:=⟨d,_,none⟩) ad).trans bn,(q.cell (p:=⟨d,_,none⟩) ad).trans bt⟩,dj.below q⟩)
    have Qb:=Y (show ∀V,Bl w V->(V.cell? ⟨f,c*4,none⟩=some (C (ai c) (bj c) (ak c))/\V.cell? ⟨f,c*4+1,none⟩=some (T (s' c))/\V.cell? ⟨f,c*4+2,none⟩=some (C (aj c) (bi c) (am c))/\V.cell? ⟨f,c*4+3,none⟩=some (T (t' c)))/\Jq V (.agg #[C (ai c) (bj c) (ak c),T (s' c),C (aj c) (bi c) (am c),T (t' c)]) (cf qs c)from λV q=>by
     exact⟨⟨(q.cell (p:=⟨f,_,none⟩) y).trans bu,(q.cell (p:=⟨f,_,none⟩) y).trans ce,(q.cell (p:=⟨f,_,none⟩) y).trans cj,(q.cell (p:=⟨f,_,none⟩) y).trans ck⟩,dt.below q⟩)
    obtain⟨sR,sQ,z,hz,et⟩:=Qi.o.size k R Q (by have:=W.o.2.2.1;omega) W.o.2.2.2.2.2.2;obtain⟨x,hx⟩:=ex (cf R m/cf qs c);have Qp:=Y (show x=cf R (R.length-1)/cf qs (qs.length-1)by rw[<-hx,<-B.o.2.1,<-B.o.2.2.1]);have Qx:=Y (show cf qs c≠0 by rw[B.o.2.2.1];exact Ua.o);have Qf:DT (z+A) x:=by rw[<-hx];exact(et m).div2 (HQ.o c) Qx.o
    obtain⟨Uf,Qo,Qn,Ui,Um,Uk,Qs⟩:=Np (show Sq x from Sq.of Qf O) (show ∀j,Sq (x*cf qs j)from λj=>Sq.of (Qf.mul2 (HQ.o j)) O) sR sQ hx (W.o.next Qi.o Qe.o Qg.o B.o.2.2.2 B.o.1 Qp.o) (Oq Qe.o Qg.o B.o.2.2.2 B.o.1 Qp.o);have Qm:=Y (show Sqs (Jb (Dg n [x]))from Sqs.of λi=>by
     rw[LE];split
     . exact Uf.o
     . exact Sq.of (DT.zero 1 O) O)
    have Qy:=Y (show Sqs (Jy (Jb (Dg n [x])) qs)from Sqs.of λi=>by
     rw[LF];split
     . exact Qo.o _
     . exact Sq.of (DT.zero 1 O) O)
    have Ub:=Y (show M3.GS (Jb (Dg n [x])) qs from fC (n:=n) (λi hi=>by rw[LE,BH hi]) λj=>by rw[LE,BL J];exact Qo.o j);have Qt:=Y (fA n x);have Qz:=Y (show(Jy (Jb (Dg n [x])) qs).length<1099511627776 by
     have h1:(Jy (Jb (Dg n [x])) qs).length<=R.length:=Y2 (JW _ _) (λi hi=>by
      rw[LF];split
      . rw[JS (p:=qs) (by have:=B.o;omega),Rat.mul_zero]
      . rfl)
     have:=D.o;omega)
    have Qu:=Y (show Q.length<1099511627776/\R.length<1099511627776 by have:=W.o.2.2.2.1;have:=D.o;omega);clear dj ad bk bm bn bt dt y bu ce cj ck di hz et sR sQ hx Qf hn hm f9;go_wp2_with fail
    have hq:Bl wr wr.drew:=(BB _ wr).drew;obtain⟨⟨E,K,M,N⟩,_⟩:=Qa.o _ hq;obtain⟨⟨f0,f1,f2,f3⟩,_⟩:=Qb.o _ (Bt r.o.2.2 hq);have Qv:=Y λ(V:L) (h:Bl wr V)=>SM _ _ (cf R m) (cf qs c) V (Qa.o V h).2 (Qb.o V (Bt r.o.2.2 h)).2 (Qn.o.at m) (Qw.o.at c) Qx.o;rw[Um.o]at Qv;have Ud:=Y λ(V:L) (v:o) (hv:Jq V v x)=>K7 v n x V hv Qd.o.1;go_region_held3 (λl=>(l.cell? ⟨d,m*4,none⟩=some (C (aa m) (ll m) (cc m))/\l.cell? ⟨d,m*4+1,none⟩=some (T (s m))/\l.cell? ⟨d,m*4+2,none⟩=some (C (bb m) (kk m) (dd m))/\l.cell? ⟨d,m*4+3,none⟩=some (T (t m)))/\l.cell? ⟨f,c*4,none⟩=some (C (ai c) (bj c) (ak c))/\l.cell? ⟨f,c*4+1,none⟩=some (T (s' c))/\l.cell? ⟨f,c*4+2,none⟩=some (C (aj c) (bi c) (am c))/\l.cell? ⟨f,c*4+3,none⟩=some (T (t' c))) (first|(with_reducible exact⟨⟨E,K,M,N⟩,f0,f1,f2,f3⟩)|(go_keep;done))
     (first
      |(go_at_call 77;refine(Qv.o _ hq).mono ?_;rintro e w5 ⟨v5,rfl,ei,co⟩;replace hq:=Bt hq co;clear co E K M N f0 f1 f2 f3;obtain⟨⟨E,K,M,N⟩,_⟩:=Qa.o _ hq;obtain⟨⟨f0,f1,f2,f3⟩,_⟩:=Qb.o _ (Bt r.o.2.2 hq))
      |(go_at_call 78;refine(Ud.o _ _ ei).mono ?_;clear ei;rintro e w6 ⟨v6,rfl,bh,de⟩;replace hq:=Bt hq de;clear de E K M N f0 f1 f2 f3;obtain⟨⟨E,K,M,N⟩,_⟩:=Qa.o _ hq;obtain⟨⟨f0,f1,f2,f3⟩,_⟩:=Qb.o _ (Bt r.o.2.2 hq);obtain⟨a9,l9,c9,rfl⟩:=bh.form))
    have HM:=Y bh;have HV:=Y (r.o.below hq);clear bh hq E K M N f0 f1 f2 f3;obtain⟨H1,H2,H3⟩:=Dc (Ob _ _ Q (Jb (Dg n [x])) w6 HV.o.1 HM.o Ui.o Qm.o ⟨Qu.o.1,by have:=Qt.o;have:=Qd.o;omega⟩) (λ(U:L) (h:Bl w6 U)=>Ok _ _ (Jb (Dg n [x])) qs U (HM.o.below h) (Ul.o.below (Bt HV.o.2.2 h)) Qm.o Qw.o Ub.o (by have:=Qt.o;have:=Qd.o;have:=Qk.o;omega)) λ(U:L) (h:Bl w6 U) (v:o) (hv:RowK false U v (Jy (Jb (Dg n [x])) qs))=>SR _ v R _ U (HV.o.2.1.below h) hv Qn.o Qy.o ⟨Qu.o.2,Qz.o⟩;go_wp2_with(first
     |(go_at_call 64;refine H1.o.mono ?_;rintro e w1 ⟨u1,rfl,bf,ay⟩;obtain⟨a1,l1,c1,rfl⟩:=bf.form;have Uh:=Y bf;clear bf)
     |(go_at_call 14;refine(H2.o _ ay).mono ?_;rintro e w2 ⟨u2,rfl,ed,y⟩;have Qj:=Bt ay y;have Ug:=Y (Uh.o.below y);clear y)
     |(go_at_call 63;refine(H3.o _ Qj _ ed).mono ?_;rintro e w3 ⟨u3,rfl,bg,aq⟩;obtain⟨a3,c3,rfl,_⟩:=id bg;have Uj:=Y bg;have Uc:=Y (Bt Qj aq);have Ue:=Y (Ug.o.below aq);clear ed bg aq ay Qj))
    go_roundw
    case rel=>exact⟨k+1,_,_,_,⟨_,_,J⟩,⟨_,_,_,J⟩,by have:=Qs.o;have:=D.o;omega,Y J,Y ⟨Ue.o,Uj.o,Bt HV.o.2.2 Uc.o⟩,Uk⟩
    case measure=>
     show(JP R _).length<lr;have:=Qs.o;have:=D.o;omega
  . have Qh:¬(lb:Int)<=(lr:Int):=O
    have Qr:=Y (W.o.done Qe.o Qg.o (by have:=D.o;have:=Qk.o;omega));go_wp2_with fail
    exact BA (v:=.tuple #[C qa ql qc,C ra lr rc]) (by simp[results,results41,go_sem]) J ⟨_,_,J,by rw[<-Qr.o.1];exact r.o.1,by rw[<-Qr.o.2];exact r.o.2.1,r.o.2.2⟩
end
section
variable {D E l:Int} {K A:Nat} {ps qs:Ja}
structure Dvn(D E l:Int)(K A:Nat)(ps qs:Ja):Prop where
 hD:D≠0
 sD:Sm K D
 hp:Dp D K ps
 hE:E≠0
 sE:Sm A E
 hq:Dp E A qs
 hl:l≠0
 sl:Sm A l
 lead:cf qs (qs.length-1)=kU l E
variable{m:Nat}
def Dvn.lne(h:Dvn D E l K A ps qs):cf qs (qs.length-1)≠0:=by
 rw[h.lead];intro e;have hE:(E:Rat)≠0:=by exact_mod_cast h.hE
 have a:(l:Rat)/(E:Rat)*(E:Rat)=l:=CJ hE;rw[<-Ck,e,CX]at a;exact h.hl (by exact_mod_cast a.symm)
def Dvn.sq(h:Dvn D E l K A ps qs)(i:Nat):DT A (cf qs i):=(h.hq i).smq h.hE h.sE
def Dvn.den(h:Dvn D E l K A ps qs)(k:Nat):D*l^k≠0/\Sm (K+k*(A+1)+1) (D*l^k):=by
 refine⟨AU h.hD (Int.pow_ne_zero h.hl),(h.sD.mul (h.sl.powZ k)).mono ?_⟩;rw[Fc];omega
def Dvn.at(h:Dvn D E l K A ps qs)(k:Nat):(∀i,DT (K+k*(A+1)+1) (cf (JI ps qs (qs.length-1) m k).2 i))/\∀i,DT (K+k*(A+1)+1) (cf (JI ps qs (qs.length-1) m k).1 i):=by
 have b:=TG (m:=m) h.hD h.hp h.hE h.sE h.hq h.hl h.sl h.lead h.lne k;have a:=h.den k;exact⟨λi=>((b.1 i).mono O).smq a.1 a.2,λi=>((b.2 i).mono O).smq a.1 a.2⟩
def Dvn.sizes(h:Dvn D E l K A ps qs)(c:2*(K+m*(A+1)+1)+2*(2*A+1)<=1000000000):∀k,k<=m->∃z,z+(2*A+1)<=1000000000/\(k<m->2*z+2*(2*A+1)<=1000000000)/\(∀i,DT z (cf (JI ps qs (qs.length-1) m k).2 i))/\∀i,DT (z+A) (cf (JI ps qs (qs.length-1) m k).1 i):=by
 intro k a;have b:k*(A+1)<=m*(A+1):=Af _ a;exact⟨K+k*(A+1)+1,O,λ_=>by omega,(h.at k).1,λi=>((h.at k).2 i).mono O⟩
def Dvn.rem(h:Dvn D E l K A ps qs)(b:ps.length-(qs.length-1)=m):Dp (D*l^m) (K+m*(A+1)) (J0 ps qs)/\Dp (D*l^m) (K+m*(A+1)) (JL ps qs):=by
 have a:=TG (m:=m) h.hD h.hp h.hE h.sE h.hq h.hl h.sl h.lead h.lne m;refine⟨λi=>?_,λi=>?_⟩
 . unfold J0;rw[JR,b];exact a.1 i
 . unfold JL;rw[JR,b];exact a.2 i
theorem Dvn.divS(h:Dvn D E l K A ps qs)(la:Nat)(S:K+la*(A+1)+1+(2*A+1)<=1000000000):DivS A la (λk R Q=>Dp (D*l^k) (K+k*(A+1)) R/\Dp (D*l^k) (K+k*(A+1)) Q) qs:=by
 refine⟨?_,?_⟩
 . rintro k R Q n a ⟨b,d⟩ _ _ _ w z y;have t:D*l^k≠0:=(h.den k).1;have e:D*l^(k+1)=D*l^k*l:=by rw[Int.pow_succ,FB]
   rw[e];have s:D*l^k*l≠0:=AU t h.hl;obtain⟨r,v,m⟩:=b (R.length-1);have f:a=kU (r*E) (D*l^k*l):=by
    rw[w];have u:cf R (R.length-1)=kU (r*E) (D*l^k*l)*cf qs (qs.length-1):=by
     rw[h.lead,CH,v,show r*E*l=r*(E*l)from FB _ _ _,show D*l^k*l*E=D*l^k*(E*l)by grind,CM (AU h.hE h.hl)]
    rw[u,Rat.mul_div_cancel h.lne]
   have p:CD (D*l^k*l) (K+(k+1)*(A+1)) a:=⟨r*E,f,(m.mul h.sE).mono (by rw[AR];omega)⟩;have q:∀j,CD (D*l^k*l) (K+k*(A+1)+A) (a*cf qs j):=λj=>by
    obtain⟨x,ex,M⟩:=h.hq j;refine⟨r*x,?_,m.mul M⟩;rw[f,ex,CH,show r*E*x=r*x*E by grind,CM h.hE]
   refine⟨λi=>?_,λi=>?_⟩
   . rw[z];split
     . rw[C9];exact(((b i).wide h.sl h.hl).add (TF (q _)) s).mono (by rw[AR];omega)
     . rw[C9,Rat.neg_zero,Rat.add_zero];exact((b i).wide h.sl h.hl).mono (by rw[AR];omega)
   . rw[y];split
     . exact p
     . exact((d i).wide h.sl h.hl).mono (by rw[AR];omega)
 . rintro k R Q B ⟨b,d⟩;have N:k*(A+1)<=la*(A+1):=Af _ B;have c:=h.den k;exact⟨Sqs.of λi=>Sq.of (((b i).mono O).smq c.1 c.2) O,Sqs.of λi=>Sq.of (((d i).mono O).smq c.1 c.2) O,K+k*(A+1)+1,O,λi=>((b i).mono O).smq c.1 c.2⟩
def Dvn.start(h:Dvn D E l K A ps qs):Dp (D*l^0) (K+0*(A+1)) ps/\Dp (D*l^0) (K+0*(A+1)) []:=by
 rw[Int.pow_zero,FH];exact⟨λi=>(h.hp i).mono O,λi=>by rw[Yt];exact CD.zero _ _⟩
end
def D7(A:Nat)(p:Ja):Prop:=∀i,∃z:Int,Sm A z/\cf p i=(z:Rat)
theorem D7.cdl{A:Nat}{p:Ja}(h:D7 A p):Dp 1 A p:=λi=>by
 obtain⟨z,a,b⟩:=h i;exact Mh DN a (by rw[b];grind)
def D7.mono{A B:Nat}{p:Ja}(h:D7 A p)(c:A<=B):D7 B p:=λi=>by
 obtain⟨z,a,b⟩:=h i;exact⟨z,a.mono c,b⟩
def D7.ln{A:Nat}{p:Ja}(h:D7 A p):Ln A p:=h.cdl.ln DN
def D7.smq{A:Nat}{p:Ja}(h:D7 A p)(a:1<=A)(i:Nat):DT A (cf p i):=(h.cdl i).smq DN (Sm.one A a)
theorem O2{A:Nat}{p:Ja}(hp:Jb p=p)(d:p≠[])(h:Ln A p):∃E:Int,E≠0/\Sm A E/\Dp E A (Jt p):=by
 obtain⟨c,j,b⟩:=h;have hl:=Jv hp d;obtain⟨E,f,a⟩:=b (p.length-1);have hE:E≠0:=λe=>by
  rw[e]at a;exact Hi hl j a
 refine⟨E,hE,f,λi=>?_⟩;obtain⟨z,k,l⟩:=b i;grind[Mh,Jt,Yo]
def Ln.sqs{A:Nat}{p:Ja}(hp:Jb p=p)(h:Ln A p)(hA1:1<=A):∀i,DT A (cf (Jt p) i):=by
 by_cases a:p=[]
 . subst a;intro i;rw[fX,Yt];exact DT.zero _ hA1
 . obtain⟨E,b,c,d⟩:=O2 hp a h;exact λi=>(d i).smq b c
theorem gG(c:Rat):YE c=c\/YE c=-c:=by
 grind[YE]
theorem gH{c:Rat}(h:c≠0):YE c≠0:=by
 grind[gG]
theorem gI{c:Rat}(h:c≠0):∀n:Nat,c^n≠0:=by
 intro n;induction n with
 |zero=>grind
 |succ n a=>grind
def Gk(p q:Ja):Rat:=YE (cf q (q.length-1))^(p.length+1-q.length)
def XA(p q:Ja):Ja:=Da (Gk p q) p
def EK(p q:Ja):Ja:=JP [] (Yf (J0 (XA p q) q))
def gJ:Yf []=[]:=rfl
def Hm(p:Ja):Jb (Yf p)=Yf p:=JQ _ _
theorem Gl{p:Ja}(hp:Jb p=p):∃c:Rat,0<c/\Yf p=Da c p:=by
 by_cases a:p=[]
 . subst a;exact⟨1,DN,J⟩
 . exact⟨_,gF hp a,J⟩
def It{p:Ja}(hp:Jb p=p){K:Nat}(h:Ln K p):D7 K (Yf p):=by
 by_cases a:p=[]
 . subst a;exact λi=>⟨0,Sm.zero K,by rw[gJ,Yt];rfl⟩
 . exact TT hp a h
theorem O3{p q:Ja}(hq:Jb q=q)(a:q≠[]):Gk p q≠0:=gI (gH (Jv hq a)) _
theorem Mi(p q:Ja):Jb (EK p q)=EK p q:=Yi _ _
theorem O4{p q:Ja}(hq:Jb q=q)(a:q≠[]):∃c:Rat,c≠0/\EK p q=Da c (J0 p q)/\EK p q=Da (-1) (Yf (J0 (XA p q) q)):=by
 have b:EK p q=Da (-1) (Yf (J0 (XA p q) q)):=XY (Mi _ _) (JQ _ _) λx=>by
  grind[EK,XW,Y8,ev]
 have e:=(LH (c:=Gk p q) (d:=1) DN p q hq a).2;grind[Hj,Gl,YN,XA,O3,Ov]
theorem TV{p q:Ja}(hq:Jb q=q)(a:q≠[]){A:Nat}(h:Ln A (J0 p q)):D7 A (Yf (J0 (XA p q) q))/\D7 A (EK p q):=by
 have b:=(LH (c:=Gk p q) (d:=1) DN p q hq a).2;rw[Hj hq]at b;have f:D7 A (Yf (J0 (XA p q) q)):=It (YN _ _) (by unfold XA;rw[b];exact h.sc (O3 hq a));refine⟨f,λi=>?_⟩;obtain⟨z,j,k⟩:=f i;obtain⟨_,_,_,e⟩:=O4 (p:=p) hq a;exact⟨-z,j.neg,by rw[e,Yo,k,Rat.intCast_neg];grind⟩
theorem D7.nil(A:Nat):D7 A []:=λi=>⟨0,Sm.zero A,by rw[Yt];rfl⟩
structure Chn(p q:Ja)(A:Nat)(a b:Ja):Prop where
 ta:Jb a=a
 tb:Jb b=b
 wa:D7 A a
 wb:D7 A b
 gc:JA a b=JA p q
 la:a.length<=max p.length q.length
 lb:b.length<=q.length
 nx:b≠[]->Ln A (J0 a b)
 eu:Eu (Yf p) (Yf q) a b
def DZ(K:Nat)(p q:Ja):Nat:=(K+1)*(p.length+q.length+1)
theorem Hn(K:Nat)(p q:Ja):K+1<=DZ K p q:=by
 grind[DZ]
def TW(K:Nat)(p q:Ja):(K+1)*(p.length+q.length)<=DZ K p q:=Ai _ O
theorem Y5{p:Ja}(hp:Jb p=p):(Yf p).length=p.length:=by
 grind[Gl,Yh]
theorem TY{p q:Ja}(hp:Jb p=p)(hq:Jb q=q):JA (Yf p) (Yf q)=JA p q:=by
 grind[Gl,KP]
section
variable {K:Nat} {p q a b:Ja}
def Chn.ln_rem(hp:Jb p=p)(hq:Jb q=q)(d:Ln K p)(e:Ln K q)(hl:p.length+q.length<=1000000000)(h:Eu (Yf p) (Yf q) a b)(f:b≠[]):Ln (DZ K p q) (J0 a b):=by
 have c:=TM (Hm p) (Hm q) (It hp d).ln (It hq e).ln (by rw[Y5 hp,Y5 hq];exact hl) h f;rw[Y5 hp,Y5 hq]at c;exact c.mono (TW _ _ _)
def Chn.start(hp:Jb p=p)(hq:Jb q=q)(a:Ln K p)(b:Ln K q)(hl:p.length+q.length<=1000000000):Chn p q (DZ K p q) (Yf p) (Yf q) where
 ta:=Hm p
 tb:=Hm q
 wa:=(It hp a).mono (by have:=Hn K p q;omega)
 wb:=(It hq b).mono (by have:=Hn K p q;omega)
 gc:=TY hp hq
 la:=by rw[Y5 hp];omega
 lb:=by rw[Y5 hq];exact Aa _
 nx:=Chn.ln_rem hp hq a b hl (.base _ _)
 eu:=.base _ _
def Chn.next(hp:Jb p=p)(hq:Jb q=q)(j:Ln K p)(k:Ln K q)(hl:p.length+q.length<=1000000000)(h:Chn p q (DZ K p q) a b)(d:b≠[]):Chn p q (DZ K p q) b (EK a b):=by
 obtain⟨c,i,e,_⟩:=O4 (p:=a) h.tb d;have f:Eu (Yf p) (Yf q) b (EK a b):=by rw[e];exact h.eu.tail d i
 have m:(EK a b).length<b.length:=by
  rw[e,Yh i (YN _ _)];exact(Yz a b h.tb d).2.1
 have l:=h.lb;exact⟨h.tb,Mi _ _,h.wb,(TV h.tb d (h.nx d)).2,by rw[<-f.gcd (Hm p) (Hm q)];exact TY hp hq,O,O,Chn.ln_rem hp hq j k hl f,f⟩
end
def Mj{a b:Ja}(f:Jb b=b)(d:b≠[]):(EK a b).length<b.length:=by
 obtain⟨c,i,e,_⟩:=O4 (p:=a) f d;rw[e,Yh i (YN _ _)];exact(Yz a b f d).2.1
structure Rhn(p q:Ja)(A:Nat)(a b:Ja):Prop where
 ta:Jb a=a
 tb:Jb b=b
 ca:∃D:Int,D≠0/\Sm A D/\Dp D A a
 cb:∃E:Int,E≠0/\Sm A E/\Dp E A b
 mb:b≠[]->cf b (b.length-1)=1
 ma:Jt a=a
 gc:JA a b=JA p q
 la:a.length<=max p.length q.length
 lb:b.length<=q.length
 nx:b≠[]->Ln A (J0 a b)
 eu:Eu (Jt p) (Jt q) a b
def O5{A:Nat}(a:1<=A):∃D:Int,D≠0/\Sm A D/\Dp D A []:=⟨1,DN,Sm.one A a,λi=>by rw[Yt];exact CD.zero _ _⟩
def Iu{A:Nat}{p:Ja}(hp:Jb p=p)(h:Ln A p)(b:1<=A):∃E:Int,E≠0/\Sm A E/\Dp E A (Jt p):=by
 by_cases a:p=[]
 . subst a;exact O5 b
 . exact O2 hp a h
def TZ{K:Nat}{p:Ja}(hp:Jb p=p)(h:Ln K p):Ln K (Jt p):=by
 by_cases a:p=[]
 . subst a;exact h
 . exact h.sc (GW (Jv hp a))
def Ta{p:Ja}(hp:Jb p=p)(h:Jt p≠[]):cf (Jt p) ((Jt p).length-1)=1:=Mg hp (λe=>h (by rw[e];rfl))
section
variable {K:Nat} {p q a b:Ja}
def Rhn.ln_rem(hp:Jb p=p)(hq:Jb q=q)(d:Ln K p)(e:Ln K q)(hl:p.length+q.length<=1000000000)(h:Eu (Jt p) (Jt q) a b)(f:b≠[]):Ln (DZ K p q) (J0 a b):=by
 have c:=TM (Yx p) (Yx q) (TZ hp d) (TZ hq e) (by rw[Ya hp,Ya hq];exact hl) h f;rw[Ya hp,Ya hq]at c;exact c.mono (TW _ _ _)
def Rhn.start(hp:Jb p=p)(hq:Jb q=q)(a:Ln K p)(b:Ln K q)(hl:p.length+q.length<=1000000000):Rhn p q (DZ K p q) (Jt p) (Jt q) where
 ta:=Yx p
 tb:=Yx q
 ca:=Iu hp (a.mono (by have:=Hn K p q;omega)) (by have:=Hn K p q;omega)
 cb:=Iu hq (b.mono (by have:=Hn K p q;omega)) (by have:=Hn K p q;omega)
 mb:=Ta hq
 ma:=Is hp
 gc:=TN p q hp hq
 la:=by rw[Ya hp];omega
 lb:=by rw[Ya hq];exact Aa _
 nx:=Rhn.ln_rem hp hq a b hl (.base _ _)
 eu:=.base _ _
theorem Rhn.next(hp:Jb p=p)(hq:Jb q=q)(j:Ln K p)(k:Ln K q)(hl:p.length+q.length<=1000000000)(h:Rhn p q (DZ K p q) a b)(d:b≠[]):Rhn p q (DZ K p q) b (Jt (J0 a b)):=by
 have e:=YN a b;have f:Eu (Jt p) (Jt q) b (Jt (J0 a b)):=by
  by_cases i:J0 a b=[]
  . have:=h.eu.tail (c:=1) d DN;rw[i]at this ⊢;exact this
  . exact h.eu.tail d (GW (Jv e i))
 have m:(Jt (J0 a b)).length<b.length:=by
  rw[Ya e];exact(Yz a b h.tb d).2.1
 have l:=h.lb;refine⟨h.tb,Yx _,h.cb,Iu e (h.nx d) (by have:=Hn K p q;omega),Ta e,?_,by rw[<-f.gcd (Yx p) (Yx q)];exact TN p q hp hq,O,O,Rhn.ln_rem hp hq j k hl f,f⟩;unfold Jt;rw[h.mb d,show(1:Rat)/1=1 by grind];exact Hj h.tb
end
theorem Tb(q:Rat):Ha q 0<0↔q<0:=by
 grind[Rat.lt_iff,Ha,EC]
def gK(a b:Nat):(a:Int)*((b:Int)/((Int.gcd a b:Nat):Int))=((Nat.lcm a b:Nat):Int):=by
 show(a:Int)*((b:Int)/((Nat.gcd a b:Nat):Int))=_;rw[<-Ff,<-Fl];congr 1;rw[Nat.lcm,Nat.mul_div_assoc _ (CN a b)]
theorem KQ(ps:Ja)(i:Nat):(if((i:Nat):Int)<0 then(0:Rat)else cf ps ((i:Nat):Int).toNat)=cf ps i:=by
 grind
namespace M3
def Tc(n:Nat)(h:n<=2199023255552)(w:L):(Instr.makeSlice 22 (G F (n:Int)) (G F (n:Int))).run g w=.ok (C (some ⟨w.heap.size,0,none⟩) n n) (w.alloc (H (YB n) 65)):=by
 obtain⟨i,d,b⟩:=Fk.1 Tryz.infoRat;simp only[Prod.mk.injEq]at b;obtain⟨e,hs,c⟩:=b;have a:=run_make (P:=g) w 22 65 i _ underlying22 d e F F n n O (Int.le_refl _) (by rw[c];omega) O;simp only[Cv,hs]at a;exact a
