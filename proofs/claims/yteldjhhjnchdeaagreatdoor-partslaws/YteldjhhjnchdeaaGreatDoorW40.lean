import Derived.Test.YteldjhhjnchdeaaGreatDoorW39
import Derived.Defers
import Derived.Recover
import Derived.Test.YteldjhhjnchdeaaGreatDoorW35
open Go.Value renaming int->C,slice->F,string->D,pointer->B
open Go.IntKind renaming i64->E
open Go.Obj renaming cells->G
set_option maxRecDepth 100000
set_option maxHeartbeats 16000000
namespace Go.Proofs.YteldjhhjnchdeaaGreatDoor
open Go.RowKit Go.Shelf
section
variable{cs:Array Value}{l:List UInt8}{m:Nat × Nat}{t:TypeId}{W W':World}
theorem ZG(p q:Addr)(w:World):
 CallsD Tryz.prog 93 #[B (some p),B (some q)] .returning w λe d f=>e=.returned (.tuple #[])/\d=.returning/\f=w.alloc (G #[C E 0,C E 0] 97):=by
 have a:∀w:World,(Instr.typeAssert Value.nilIface 20 97 true).run Tryz.prog w=.ok (.tuple #[.agg #[C E 0,C E 0],.bool false]) w:=λ_=>by kernel_rfl
 refine callsD_of_wpS Tryz.func93 rfl λb cs c=>?_;apply wpS_seq;apply wpS_region;simp[wpOpsS,go_sem,recoverD,c,Tryz.ntmps93,Exit.thenS,a];apply wpS_seq;apply wpS_region;simp[wpOpsS,go_sem,Exit.thenS];refine wpS_cond (t:=false) (by simp[Act.eval,Array.replicate]) ?_;simp only[Cm,if_false];refine wpS_of_wp (wp_skip ?_);cases b;simp_all [bodyPostS,results,Tryz.results93]
theorem ZH(p q:Nat)(a b:Int)(w:World)(i:Boxed w p 25 (F none 0 0))(j:Jq w q 97 (C E 0) (C E 0))(m:p≠q):
 CallsD Tryz.prog 93 #[B (some ⟨p,0,none⟩),B (some ⟨q,0,none⟩)] (.panicking [{ v:=F5 a b,recovered:=false }]) w λe M o=>e=.returned (.tuple #[])/\M=.panicking [{ v:=F5 a b,recovered:=true }]/\Boxed o p 25 (F none 0 0)/\Jq o q 97 (C E a) (C E b)/\∀n w0,Below n w0 w->n<=w.heap.size->n<=p->n<=q->Below n w0 o:=by
 unfold F5;have r:∀w:World,(Instr.typeAssert (.iface 97 (.agg #[C E a,C E b])) 20 97 true).run Tryz.prog w=.ok (.tuple #[.agg #[C E a,C E b],.bool true]) w:=λ_=>by kernel_rfl
 refine callsD_of_wpS Tryz.func93 rfl λN cs z=>?_;apply wpS_seq;apply wpS_region;simp[wpOpsS,go_sem,recoverD,z,Tryz.ntmps93,Exit.thenS,r];apply wpS_seq;apply wpS_region;simp[wpOpsS,go_sem,Exit.thenS];refine wpS_cond (t:=true) (by simp[Act.eval,Array.replicate]) ?_;simp only[if_true];refine wpS_of_wp ?_;simp[Array.replicate];have f:=Jq.new w 97 (C E a) (C E b);have d:=i.alloc (G #[C E a,C E b] 97);have c:=j.alloc (G #[C E a,C E b] 97);have I:p≠w.heap.size:=by have:=i.lt;omega
 have K:q≠w.heap.size:=by have:=j.lt;omega
 have g:=Z λ(n:Nat) (w0:World) (h:Below n w0 w) (l:n<=w.heap.size)=>h.alloc l (G #[C E a,C E b] 97);obtain⟨W,k⟩:=ex (w.alloc (G #[C E a,C E b] 97));rw[k]at f d c g;rw[k];obtain⟨D,hD⟩:=ex (w.heap.size);rw[hD]at f I K g;rw[hD];clear k i j r z;obtain⟨d0,d1⟩:=f.cp;have x0:=d.cell;have x1:=d.frozen;obtain⟨P,Q⟩:=c.cp;obtain⟨R,S⟩:=c.fp;have A:=Z d;have H:=Z c;clear d c f;go_region
 have u:Boxed (((W.setCell ⟨p,0,none⟩ (F none 0 0)).setCell ⟨q,0,none⟩ (C E a)).setCell ⟨q,1,none⟩ (C E b)).drew p 25 (F none 0 0):=
  (BC _ ⟨q,1,none⟩ (C E b) p m).trans ((BC _ ⟨q,0,none⟩ (C E a) p m).trans (A.o.set (F none 0 0)))
 have x:Jq (((W.setCell ⟨p,0,none⟩ (F none 0 0)).setCell ⟨q,0,none⟩ (C E a)).setCell ⟨q,1,none⟩ (C E b)).drew q 97 (C E a) (C E b):=
  (((H.o.far (p:=⟨p,0,none⟩) (λe=>m e.symm) _).set0 _).set1 _).drew
 have y:∀n w0,Below n w0 w->n<=D->n<=p->n<=q->Below n w0 (((W.setCell ⟨p,0,none⟩ (F none 0 0)).setCell ⟨q,0,none⟩ (C E a)).setCell ⟨q,1,none⟩ (C E b)).drew:=
  λn w0 h l L s=>((((g.o n w0 h l).setCell (p:=⟨p,0,none⟩) L _).setCell (p:=⟨q,0,none⟩) s _).setCell (p:=⟨q,1,none⟩) s _).drew
 generalize (((W.setCell ⟨p,0,none⟩ (F none 0 0)).setCell ⟨q,0,none⟩ (C E a)).setCell ⟨q,1,none⟩ (C E b)).drew=V at u x y ⊢;simp[bodyPostS,results,Tryz.results93];exact⟨u,x,y⟩
theorem ZI(s:ByteArray)(g q0:Int)(w:World)(t:∀V R,DW V R s 0->Calls Tryz.prog 94 #[B (some ⟨R,0,none⟩)] V λr l=>V.grownBy l (some R)/\r=.panicked [{ v:=F5 g q0,recovered:=false }]):
 Calls Tryz.prog 53 #[D s] w λr l=>r=.returned (.tuple #[.agg #[F none 0 0],.agg #[C E g,C E q0]])/\Bl w l:=by
 have p:=Z t;clear t;go_enter_defers Tryz.func53,Tryz.ntmps53
 go_upto_region 3 with fail
 have b:=BL w 25 (F none 0 0);have a:=Jq.new (w.alloc (G #[F none 0 0] 25)) 97 (C E 0) (C E 0);have c:DW (((w.alloc (G #[F none 0 0] 25)).alloc (G #[C E 0,C E 0] 97)).alloc (G #[D s,C E 0] 130)) ((w.alloc (G #[F none 0 0] 25)).alloc (G #[C E 0,C E 0] 97)).heap.size s 0:=BD _ _;rw[BA,BA]at c;rw[BA]at a;replace b:=(b.alloc (G #[C E 0,C E 0] 97)).alloc (G #[D s,C E 0] 130);replace a:=a.alloc (G #[D s,C E 0] 130);have j:Bl w (((w.alloc (G #[F none 0 0] 25)).alloc (G #[C E 0,C E 0] 97)).alloc (G #[D s,C E 0] 130)):=((Ba w _).alloc (by rw[BA];omega) _).alloc (by rw[BA,BA];omega) _;have x:(((w.alloc (G #[F none 0 0] 25)).alloc (G #[C E 0,C E 0] 97)).alloc (G #[D s,C E 0] 130)).heap.size=w.heap.size+1+1+1:=by rw[BA,BA,BA]
 obtain⟨V,i⟩:=ex (((w.alloc (G #[F none 0 0] 25)).alloc (G #[C E 0,C E 0] 97)).alloc (G #[D s,C E 0] 130));rw[i]at b a c j x;rw[i];obtain⟨y,n,o,z⟩:=EA b a j (p.o _ _ c);clear b a c j i p x;go_wp2_with(go_at_call 94;refine z.o.mono ?_;rintro e m ⟨u,rfl⟩;have d:=Z u;clear u)
 have H:Boxed m w.heap.size 25 (F none 0 0):=y.o.kept d.o (λe=>by have:=Ci e;omega);have A:Jq m (w.heap.size+1) 97 (C E 0) (C E 0):=(d.o.block _ n.o.lt λe=>by have:=Ci e;omega).trans n.o;have q:Bl w m:=o.o.grown d.o o.o.size (λk e=>by have:=Ci e;omega);refine leaves_cons (f:=93) (args:=#[B (some ⟨w.heap.size,0,none⟩),B (some ⟨w.heap.size+1,0,none⟩)]) O (by simp[go_sem]) ?_;refine(ZH w.heap.size (w.heap.size+1) g q0 _ H A Y).mono ?_;rintro e Q S ⟨rfl,rfl,I,K,L⟩;have M:=L _ _ q q.size (Aa _) Y;have x0:=I.cell;obtain⟨N,P⟩:=K.cp;simp[Leaves,settle,results,Tryz.results53,go_sem,x0,N,P];exact M
theorem ZJ{F:Nat}(hF:W.heap[F]?=some (G cs t m))(l:t=97)(j:W.grownBy W' (some F)):∀k v ds,Row k W v ds->Row k W' v ds:=by
 intro k v ds c;obtain⟨a,cap,e,_⟩:=id c;subst e;refine c.grown j λp d hl=>?_;obtain⟨b,off,f,n,o,i⟩:=c.typ hl;rw[f]at d;cases d;intro e;subst e;have:=i.symm.trans hF;simp only[Al,Bn]at this;subst l;have g:=this.2.1;revert g;cases k<;>(show ¬(_=_);decide)
theorem P5{F:Nat}(hF:W.heap[F]?=some (G cs t m))(i:t=97)(g:W.grownBy W' (some F)){r:Bool}{v:Value}{qs:List Rat}(h:RowK r W v qs):RowK r W' v qs:=by
 obtain⟨a,cap,e,l,c,n,d⟩:=h;refine⟨a,cap,e,l,c,n,?_⟩;rcases d with d|⟨b,j,f⟩
 . exact Or.inl d
 . refine Or.inr ⟨b,j,f.keep (g.block b f.lt λe=>?_) (ZJ hF i g)⟩;obtain⟨o,k,_⟩:=f;have e:=Ci e;subst e;have:=k.symm.trans hF;simp only[Al,Bn]at this;subst i;have c:=this.2.1;revert c;cases r<;>(show ¬(_=_);decide)
theorem ZK(s:ByteArray)(ps:List Rat)(w:World)(hP:∀V R,DW V R s 0->Calls Tryz.prog 94 #[B (some ⟨R,0,none⟩)] V λr i=>V.grownBy i (some R)/\∃u,r=.returned u/\Jc i u ps):
 Calls Tryz.prog 53 #[D s] w λr i=>∃u,r=.returned (.tuple #[u,.agg #[C E 0,C E 0]])/\Jc i u ps/\Bl w i:=by
 have Q:=Z hP;clear hP;go_enter_defers Tryz.func53,Tryz.ntmps53
 go_upto_region 3 with fail
 have g:=BL w 25 (F none 0 0);have c:=Jq.new (w.alloc (G #[F none 0 0] 25)) 97 (C E 0) (C E 0);have m:DW (((w.alloc (G #[F none 0 0] 25)).alloc (G #[C E 0,C E 0] 97)).alloc (G #[D s,C E 0] 130)) ((w.alloc (G #[F none 0 0] 25)).alloc (G #[C E 0,C E 0] 97)).heap.size s 0:=BD _ _;rw[BA,BA]at m;rw[BA]at c;replace g:=(g.alloc (G #[C E 0,C E 0] 97)).alloc (G #[D s,C E 0] 130);replace c:=c.alloc (G #[D s,C E 0] 130);have K:Bl w (((w.alloc (G #[F none 0 0] 25)).alloc (G #[C E 0,C E 0] 97)).alloc (G #[D s,C E 0] 130)):=((Ba w _).alloc (by rw[BA];omega) _).alloc (by rw[BA,BA];omega) _;have hz:(((w.alloc (G #[F none 0 0] 25)).alloc (G #[C E 0,C E 0] 97)).alloc (G #[D s,C E 0] 130)).heap.size=w.heap.size+1+1+1:=by rw[BA,BA,BA]
 obtain⟨V,I⟩:=ex (((w.alloc (G #[F none 0 0] 25)).alloc (G #[C E 0,C E 0] 97)).alloc (G #[D s,C E 0] 130));rw[I]at g c m K hz;rw[I];obtain⟨H0,M,P,HC⟩:=EA g c K (Q.o _ _ m);clear g c m K I Q hz;go_wp2_with(go_at_call 94;refine HC.o.mono ?_;rintro e n ⟨ad,u1,rfl,L⟩;have o:=Z ad;obtain⟨a,d,b,rfl⟩:=L.form;have HU:=Z L.row;have l:Boxed n w.heap.size 25 (F none 0 0):=H0.o.kept o.o (λe=>by have:=Ci e;omega);have j:Jq n (w.heap.size+1) 97 (C E 0) (C E 0):=(o.o.block _ M.o.lt λe=>by have:=Ci e;omega).trans M.o;have x0:=l.cell;have x1:=l.frozen;obtain⟨y0,y1⟩:=j.cp;obtain⟨z0,z1⟩:=j.fp;have N:=Z l;have H3:=Z j;clear ad L l j)
 have q:w.heap.size+1≠w.heap.size:=Y
 have Qd:Bl w n:=P.o.grown o.o P.o.size (λk e=>by have:=Ci e;omega);have S:=N.o.set (F a d b);have T:=EY N.o (F a d b) HU.o;have y:=H3.o.far (p:=⟨w.heap.size,0,none⟩) q (F a d b);have U:=Qd.setCell (p:=⟨w.heap.size,0,none⟩) (Aa _) (F a d b);generalize n.setCell ⟨w.heap.size,0,none⟩ (F a d b)=t at S T y U ⊢;have W:=(BC t ⟨w.heap.size+1,0,none⟩ (C E 0) w.heap.size λe=>q e.symm).trans S;have X:=P5 y rfl (JJ t (w.heap.size+1) 0 (C E 0)) T;have z:=y.set0 (C E 0);have b4:=U.setCell (p:=⟨w.heap.size+1,0,none⟩) (by show _<=w.heap.size+1;omega) (C E 0);generalize t.setCell ⟨w.heap.size+1,0,none⟩ (C E 0)=v at W X z b4 ⊢;have d1:=(BC v ⟨w.heap.size+1,1,none⟩ (C E 0) w.heap.size λe=>q e.symm).trans W;have d2:=P5 z rfl (JJ v (w.heap.size+1) 1 (C E 0)) X;have A:=z.set1 (C E 0);have H:=b4.setCell (p:=⟨w.heap.size+1,1,none⟩) (by show _<=w.heap.size+1;omega) (C E 0);generalize v.setCell ⟨w.heap.size+1,1,none⟩ (C E 0)=x at d1 d2 A H ⊢;refine leaves_cons (f:=93) (args:=#[B (some ⟨w.heap.size,0,none⟩),B (some ⟨w.heap.size+1,0,none⟩)]) O (by simp[go_sem]) ?_;refine(ZG ⟨w.heap.size,0,none⟩ ⟨w.heap.size+1,0,none⟩ _).mono ?_;rintro e u' w2 ⟨rfl,rfl,rfl⟩;have e1:Boxed x w.heap.size 25 (F a d b):=d1;have f1:=(e1.alloc (G #[C E 0,C E 0] 97)).cell;have f2:=(A.alloc (G #[C E 0,C E 0] 97)).c0;have f3:=(A.alloc (G #[C E 0,C E 0] 97)).c1;have f4:=H.alloc H.size (G #[C E 0,C E 0] 97);have f5:=d2.below (Ba x (G #[C E 0,C E 0] 97));generalize x.alloc (G #[C E 0,C E 0] 97)=W5 at f1 f2 f3 f4 f5 ⊢;simp[Leaves,settle,results,Tryz.results53,go_sem,f1,f2,f3];exact⟨⟨_,rfl,f5⟩,f4⟩
attribute [local go_sem] Oper.semAt_some
theorem P6:∀(f:Nat) (b:Bool) (I m:Nat) (S d:List Rat) (k:Nat),I<=l.length->m<=I->XM S m->ET l f b I S=.ok d k->∃r,r<=l.length/\XM d r:=by
 intro f;induction f with
 |zero=>intro b I m S d k _ _ _ h;cases h
 |succ f q=>
  intro b I m S d k o w t h;cases g:YU l I with
  |error e p=>rw[Me g]at h;cases h
  |ok a u=>
   obtain⟨c,n⟩:=a;have s:=Ls o g;have i:=t.next (P3 o g) s.2.2 b;have v:=GD l u;rw[Mf g]at h;split at h
   . rename_i j;have:=Yo j;exact q _ _ (m+1) _ _ _ Y Y i h
   . split at h
     . rename_i j;have:=Yo j;exact q _ _ (m+1) _ _ _ Y Y i h
     . split at h
       . cases h;exact⟨m+1,Y,i⟩
       . cases h
theorem ZL{S:List Rat}{k:Nat}(h:EQ l=.ok S k):∃m,m<=l.length/\XM S m:=by
 unfold EQ at h;have a:=XF (l:=l) (i:=0) Y;split at h
 . rename_i b;have:=Yo b;exact P6 _ _ _ 0 _ _ _ Y Y XM.start h
 . exact P6 _ _ _ 0 _ _ _ a Y XM.start h
theorem Mp(l:List UInt8):(Yl l).1.length<=9/\∀i,DV 601 (cf (Yl l).1 i):=by
 by_cases h:300<l.length
 . rw[show Yl l=([],1,0)by unfold Yl;rw[BJ h]];exact⟨O,λi=>by rw[Yx];exact DV.zero _ Y⟩
 . rw[Ky h];cases a:EQ l with
   |error e p=>exact⟨by simp[IK],λi=>by rw[show(IK (EStateM.Result.error (α:=List Rat) e p)).1=[]from rfl,Yx];exact DV.zero _ Y⟩
   |ok S k=>
    obtain⟨m,b,hs⟩:=ZL a;rw[show(IK (EStateM.Result.ok S k)).1=Jd S from rfl];exact⟨Aw (LT _) (by rw[hs.1];exact Aa _),λi=>by rw[Yc];exact(hs.2 i).mono Y⟩
def Hr(l:List UInt8)(a:World)(u:Value)(e p:Int):Prop:=e=((Yl l).2.1:Int)/\p=((Yl l).2.2:Int)/\Jc a u (Yl l).1
theorem ZM(s:ByteArray)(hs:s.size<=300)(w:World):
 Calls Tryz.prog 53 #[D s] w λr a=>∃u e p,r=.returned (.tuple #[u,.agg #[C E e,C E p]])/\Hr (Jh s) a u e p/\Bl w a:=by
 have b:=Ky (l:=Jh s) (by rw[Jr];omega);cases c:EQ (Jh s)with
 |error g q0=>
  rw[c]at b;refine(ZI s g q0 w λV R d=>(P4 R s V d hs).mono λr a h=>⟨h.1,h.2.1 _ _ c⟩).mono ?_;rintro r a ⟨rfl,f⟩;refine⟨_,_,_,rfl,?_,f⟩;rw[Hr,b];exact⟨rfl,rfl,_,rfl,RowK.nil _ _⟩
 |ok S k=>
  rw[c]at b;refine(ZK s (Jd S) w λV R d=>(P4 R s V d hs).mono λr a h=>⟨h.1,by obtain⟨u,i,j,_⟩:=h.2.2 _ _ c;exact⟨u,i,j⟩⟩).mono ?_;rintro r a ⟨u,rfl,m,f⟩;refine⟨_,_,_,rfl,?_,f⟩;rw[Hr,b];exact⟨rfl,rfl,m⟩
theorem Mq(s:ByteArray)(w:World):
 Calls Tryz.prog 23 #[D s] w λr K=>∃u e p,r=.returned (.tuple #[u,C E e,C E p])/\Hr (Jh s) K u e p/\Bl w K:=by
 by_cases x:300<s.size
 . have U:(300:Int)<(s.size:Int):=Y
   have L:=Z (show Yl (Jh s)=([],1,0)by unfold Yl;rw[BJ (by rw[Jr];exact x)]);clear x;go_enter Tryz.func23,Tryz.ntmps23
   go_wp2;exact BB (v:=.tuple #[.agg #[F none 0 0],C E 1,C E 0]) (by simp[results,Tryz.results23,go_sem]) rfl ⟨_,_,_,rfl,by rw[Hr,L.o];exact⟨rfl,rfl,_,rfl,RowK.nil _ _⟩,Ba w _⟩
 . have U:¬(300:Int)<(s.size:Int):=Y
   have y:=Z λ(V:World)=>ZM s Y V;clear x;go_enter Tryz.func23,Tryz.ntmps23
   go_upto_region 4 with(go_at_call 53;refine(y.o _).mono ?_;clear y;rintro e a ⟨u1,g,k,rfl,b,c⟩;obtain⟨d,j,f,rfl⟩:=b.2.2.form;have o:=Z b;have n:=Z c;clear b c)
   have R:w.heap.size<a.heap.size:=by have:=n.o.size;rw[BA]at this;omega
   have q0:Boxed a w.heap.size 25 (F none 0 0):=(n.o.block _ (by rw[BA];omega)).trans (BL w 25 (F none 0 0));have H:Bl w a:=(Ba w _).trans (n.o.mono (by rw[BA];omega));have i:=BL a 25 (F d j f);have l:=Jq.new (a.alloc (G #[F d j f] 25)) 97 (C E g) (C E k);rw[BA]at l;replace i:=i.alloc (G #[C E g,C E k] 97);have m:Bl a ((a.alloc (G #[F d j f] 25)).alloc (G #[C E g,C E k] 97)):=(Ba a _).alloc (by rw[BA];omega) _;have q1:=(m.block _ q0.lt).trans q0;have c:=Bt H m;have b:=o.o.2.2.row.below m;have I:=Z (⟨o.o.1,o.o.2.1⟩:g=_/\k=_);have z:w.heap.size≠a.heap.size:=Y
   have A:w.heap.size≠a.heap.size+1:=Y
   generalize (a.alloc (G #[F d j f] 25)).alloc (G #[C E g,C E k] 97)=T at i l m q1 c b ⊢;clear m q0 H n o R;obtain⟨Q,q⟩:=ex (w.heap.size);obtain⟨B,t⟩:=ex (a.heap.size);rw[t]at i l z A;rw[q]at q1 z A;rw[t,q];have q2:Boxed T Q 25 (F none 0 0):=q1;have x0:=i.cell;obtain⟨X,y1⟩:=l.cp;have W:=q2.cell;have z1:=q2.frozen;obtain⟨P,N,S,M⟩:=EA q2 q c b;clear i l q1 q2 q t c b;go_region
   go_wp2_with fail
   have r0:=W;refine BB (v:=.tuple #[.agg #[F d j f],C E g,C E k]) (by simp[results,Tryz.results23,go_sem,r0]) rfl ⟨_,_,_,rfl,⟨I.o.1,I.o.2,_,rfl,?_⟩,?_⟩
   . exact(EY P.o (F d j f) M.o).below ((BE _ _).drew)
   . exact(S.o.setCell (p:=⟨Q,0,none⟩) (by rw[N.o];exact Aa _) _).drew
end
variable{ps:List Rat}{k m:Nat}{p q:Rat}
theorem ZN(h:DV k q):(YE q).length<=40*k+5:=by
 have a:=I1 q.num;have b:=I1 (q.den:Int);have c:=h.1.words;have d:=h.2.words;unfold YE;split
 . omega
 . rw[Aq,Ao];omega
theorem DV.abs(h:DV k q):DV k (Xb q):=by
 have:=PZ q;unfold DV Sm at h ⊢;rw[this.1,this.2];exact⟨by have:=h.1;omega,h.2⟩
theorem ZO{c:Rat}(h:DV k c){i:Nat}(b:i<J)(f:Bool):(X6 c i f).length<=40*k+40:=by
 have a:=ZN h.abs;have d:=Iw i;have e:(Jg J i).length<=1:=JX Jf (by rw[Nat.pow_one];exact b);have g:(IH c f).length<=1:=by
  unfold IH;split
  . simp
  . split<;>simp
 have j:(FR c i).length<=40*k+5:=by
  unfold FR;split
  . simp
  . exact a
 have l:(GG i).length<=23:=by
  unfold GG;split
  . simp
  . split
    . simp
    . rw[Ao,Ao];omega
 unfold X6;rw[Aq,Aq];omega
theorem ZP(h:∀i,DV k (cf ps i))(hl:ps.length<=J):∀(d m:Nat),ps.length-m=d->(YI (ps.drop m) m).length<=d*(40*k+40):=by
 intro d;induction d with
 |zero=>
  intro m b;rw[List.drop_of_length_le Y];simp[YI]
 |succ d a=>
  intro m b;have a:=a (m+1) Y;rw[Pa ps (by omega:m<ps.length)];have c:=ZO (h m) (by omega:m<J) (YI (ps.drop (m+1)) (m+1)).isEmpty;rw[AE];split
  . omega
  . rw[Aq];omega
theorem Mr(h:Sqs ps)(hl:ps.length<=3000)(m:Nat):(YI (ps.drop m) m).length<=140737488355328:=by
 have a:=ZP (λi=>(h.at i).sm) uo _ m rfl;refine Aw a (Aw (Am _ (Nat.sub_le _ _)) (Aw (Am _ hl) ?_));decide
theorem ZR(z:List Rat)(i:Nat)(a:Rat)(q:List Rat):∀(j k:Nat),i+j<=k->cf (Yz z i a q j) k=cf z k:=by
 intro j;induction j with
 |zero=>intro k _;rfl
 |succ j b=>
  intro k c;rw[Yz];by_cases h:i+j<z.length
  . rw[XC _ _ _ _ (by rw[Yn];exact h),BH Y,b k Y]
  . rw[C4 (by rw[Yn];omega),b k Y]
theorem Kz(z:List Rat)(i:Nat)(a:Rat)(q:List Rat):∀(j k:Nat),cf (Yz z i a q j) k=cf z k\/cf (Yz z i a q j) k=cf z k+a*cf q (k-i):=by
 intro j;induction j with
 |zero=>intro k;exact Or.inl rfl
 |succ j b=>
  intro k;rw[Yz];by_cases h:i+j<z.length
  . rw[XC _ _ _ _ (by rw[Yn];exact h)];by_cases e:k=i+j
    . subst e;rw[BJ rfl,ZR z i a q j (i+j) (Aa _)];exact Or.inr (by rw[Nat.add_sub_cancel_left])
    . rw[BH e];exact b k
  . rw[C4 (by rw[Yn];omega)];exact b k
theorem DV.mul2(hp:DV k p)(hq:DV m q):DV (k+m) (p*q):=by
 rw[<-Se];refine DV.divInt ?_ (hp.1.mul hq.1) (hp.2.mul hq.2);exact Cv (by have:=p.den_nz;omega) (by have:=q.den_nz;omega)
theorem DV.inv(hq:DV m q)(a:q≠0):DV m q⁻¹:=by
 rw[Rat.inv_def];exact DV.divInt (λe=>a (FH.1 e)) hq.2 hq.1
theorem DV.div2(hp:DV k p)(hq:DV m q)(a:q≠0):DV (k+m) (p/q):=by
 rw[Ft];exact hp.mul2 (hq.inv a)
theorem Xz{p:List Rat}(hp:Jd p=p)(h:∀i,m<=i->cf p i=0):p.length<=m:=by
 by_cases hl:p.length<=m
 . exact hl
 . exfalso
   exact Jw hp (by intro e;rw[e]at hl;simp at hl) (h _ Y)

