import Derived.Defers
import Derived.Recover
import Derived.Test.YteldjhhjnchdeaaGreatDoorT40
open Go.Value renaming int->C,slice->F,string->D,pointer->B
open Go.IntKind renaming i64->E
open Go.Obj renaming cells->G
set_option maxRecDepth 100000
set_option maxHeartbeats 16000000
namespace Go.Proofs.YteldjhhjnchdeaaGreatDoor
open Go.RowKit Go.Shelf
section
variable{cs:Array Value}{l:List UInt8}{m:Nat × Nat}{t:TypeId}{W W':World}
theorem cO(p q:Addr)(w:World):
 CallsD Tryz.prog 93 #[B (some p),B (some q)] .returning w λe b d=>e=.returned (.tuple #[])/\b=.returning/\d=w.alloc (G #[C E 0,C E 0] 97):=by
 have c:∀w:World,(Instr.typeAssert Value.nilIface 20 97 true).run Tryz.prog w=.ok (.tuple #[.agg #[C E 0,C E 0],.bool false]) w:=λ_=>by kernel_rfl
 refine callsD_of_wpS Tryz.func93 rfl λa cs f=>?_;apply wpS_seq;apply wpS_region;simp[wpOpsS,go_sem,recoverD,f,Tryz.ntmps93,Exit.thenS,c];apply wpS_seq;apply wpS_region;simp[wpOpsS,go_sem,Exit.thenS];refine wpS_cond (t:=false) (by simp[Act.eval,Array.replicate]) ?_;simp only[A9,if_false];refine wpS_of_wp (wp_skip ?_);cases a;simp_all [bodyPostS,results,Tryz.results93]
theorem cS(p q:Nat)(b a:Int)(w:World)(k:Boxed w p 25 (F none 0 0))(i:Jn w q 97 (C E 0) (C E 0))(f:p≠q):
 CallsD Tryz.prog 93 #[B (some ⟨p,0,none⟩),B (some ⟨q,0,none⟩)] (.panicking [{ v:=Gb b a,recovered:=false }]) w λe z j=>e=.returned (.tuple #[])/\z=.panicking [{ v:=Gb b a,recovered:=true }]/\Boxed j p 25 (F none 0 0)/\Jn j q 97 (C E b) (C E a)/\∀n w0,Below n w0 w->n<=w.heap.size->n<=p->n<=q->Below n w0 j:=by
 unfold Gb;have r:∀w:World,(Instr.typeAssert (.iface 97 (.agg #[C E b,C E a])) 20 97 true).run Tryz.prog w=.ok (.tuple #[.agg #[C E b,C E a],.bool true]) w:=λ_=>by kernel_rfl
 refine callsD_of_wpS Tryz.func93 rfl λL cs x=>?_;apply wpS_seq;apply wpS_region;simp[wpOpsS,go_sem,recoverD,x,Tryz.ntmps93,Exit.thenS,r];apply wpS_seq;apply wpS_region;simp[wpOpsS,go_sem,Exit.thenS];refine wpS_cond (t:=true) (by simp[Act.eval,Array.replicate]) ?_;simp only[if_true];refine wpS_of_wp ?_;simp[Array.replicate];have n0:=Jn.new w 97 (C E b) (C E a);have d:=k.alloc (G #[C E b,C E a] 97);have c:=i.alloc (G #[C E b,C E a] 97);have A:p≠w.heap.size:=by have:=k.lt;omega
 have K:q≠w.heap.size:=by have:=i.lt;omega
 have m:=Ja (λ(n:Nat) (w0:World) (h:Below n w0 w) (l:n<=w.heap.size)=>h.alloc l (G #[C E b,C E a] 97));obtain⟨W,g⟩:=ex (w.alloc (G #[C E b,C E a] 97));rw[g]at n0 d c m;rw[g];obtain⟨D,hD⟩:=ex (w.heap.size);rw[hD]at n0 A K m;rw[hD];clear g k i r x;obtain⟨d0,d1⟩:=n0.cp;have x0:=d.cell;have x1:=d.frozen;obtain⟨M,O⟩:=c.cp;obtain⟨P,N⟩:=c.fp;have I:=Ja d;have H:=Ja c;clear d c n0;go_region
 have s:Boxed (((W.setCell ⟨p,0,none⟩ (F none 0 0)).setCell ⟨q,0,none⟩ (C E b)).setCell ⟨q,1,none⟩ (C E a)).drew p 25 (F none 0 0):=
  (BD _ ⟨q,1,none⟩ (C E a) p f).trans ((BD _ ⟨q,0,none⟩ (C E b) p f).trans (I.o.set (F none 0 0)))
 have y:Jn (((W.setCell ⟨p,0,none⟩ (F none 0 0)).setCell ⟨q,0,none⟩ (C E b)).setCell ⟨q,1,none⟩ (C E a)).drew q 97 (C E b) (C E a):=
  (((H.o.far (p:=⟨p,0,none⟩) (λe=>f e.symm) _).set0 _).set1 _).drew
 have o:∀n w0,Below n w0 w->n<=D->n<=p->n<=q->Below n w0 (((W.setCell ⟨p,0,none⟩ (F none 0 0)).setCell ⟨q,0,none⟩ (C E b)).setCell ⟨q,1,none⟩ (C E a)).drew:=
  λn w0 h l J u=>((((m.o n w0 h l).setCell (p:=⟨p,0,none⟩) J _).setCell (p:=⟨q,0,none⟩) u _).setCell (p:=⟨q,1,none⟩) u _).drew
 generalize (((W.setCell ⟨p,0,none⟩ (F none 0 0)).setCell ⟨q,0,none⟩ (C E b)).setCell ⟨q,1,none⟩ (C E a)).drew=V at s y o ⊢;simp[bodyPostS,results,Tryz.results93];exact⟨s,y,o⟩
theorem cT(s:ByteArray)(l q0:Int)(w:World)(x:∀V R,De V R s 0->Calls Tryz.prog 94 #[B (some ⟨R,0,none⟩)] V λr d=>V.grownBy d (some R)/\r=.panicked [{ v:=Gb l q0,recovered:=false }]):
 Calls Tryz.prog 53 #[D s] w λr d=>r=.returned (.tuple #[.agg #[F none 0 0],.agg #[C E l,C E q0]])/\Bl w d:=by
 have n:=Ja x;clear x;go_enter_defers Tryz.func53,Tryz.ntmps53
 go_upto_region 3 with fail
 have b:=BM w 25 (F none 0 0);have a:=Jn.new (w.alloc (G #[F none 0 0] 25)) 97 (C E 0) (C E 0);have c:De (((w.alloc (G #[F none 0 0] 25)).alloc (G #[C E 0,C E 0] 97)).alloc (G #[D s,C E 0] 130)) ((w.alloc (G #[F none 0 0] 25)).alloc (G #[C E 0,C E 0] 97)).heap.size s 0:=BE _ _;rw[A1,A1]at c;rw[A1]at a;replace b:=(b.alloc (G #[C E 0,C E 0] 97)).alloc (G #[D s,C E 0] 130);replace a:=a.alloc (G #[D s,C E 0] 130);have g:Bl w (((w.alloc (G #[F none 0 0] 25)).alloc (G #[C E 0,C E 0] 97)).alloc (G #[D s,C E 0] 130)):=((Ba w _).alloc (by rw[A1];omega) _).alloc (by rw[A1,A1];omega) _;have q:(((w.alloc (G #[F none 0 0] 25)).alloc (G #[C E 0,C E 0] 97)).alloc (G #[D s,C E 0] 130)).heap.size=w.heap.size+1+1+1:=by rw[A1,A1,A1]
 obtain⟨V,m⟩:=ex (((w.alloc (G #[F none 0 0] 25)).alloc (G #[C E 0,C E 0] 97)).alloc (G #[D s,C E 0] 130));rw[m]at b a c g q;rw[m];obtain⟨y,p,u,M⟩:=EC b a g (n.o _ _ c);clear b a c g m n q;go_wp2_with(go_at_call 94;refine M.o.mono ?_;rintro e j ⟨t,rfl⟩;have i:=Ja t;clear t)
 have J:Boxed j w.heap.size 25 (F none 0 0):=y.o.kept i.o (λe=>by have:=Ch e;omega);have z:Jn j (w.heap.size+1) 97 (C E 0) (C E 0):=(i.o.block _ p.o.lt (λe=>by have:=Ch e;omega)).trans p.o;have o:Bl w j:=u.o.grown i.o u.o.size (λk e=>by have:=Ch e;omega);refine leaves_cons (f:=93) (args:=#[B (some ⟨w.heap.size,0,none⟩),B (some ⟨w.heap.size+1,0,none⟩)]) DQ (by simp[go_sem]) ?_;refine(cS w.heap.size (w.heap.size+1) l q0 _ J z om).mono ?_;rintro e O P ⟨rfl,rfl,N,L,A⟩;have I:=A _ _ o o.size (Aa _) om;have x0:=N.cell;obtain⟨H,K⟩:=L.cp;simp[Leaves,settle,results,Tryz.results53,go_sem,x0,H,K];exact I
theorem cU{F:Nat}(hF:W.heap[F]?=some (G cs t m))(g:t=97)(f:W.grownBy W' (some F)):∀k v ds,Row k W v ds->Row k W' v ds:=by
 intro k v ds c;obtain⟨a,cap,e,_⟩:=id c;subst e;refine c.grown f (λp d hl=>?_);obtain⟨b,off,j,o,n,l⟩:=c.typ hl;rw[j]at d;cases d;intro e;subst e;have:=l.symm.trans hF;simp only[Ag,Bu]at this;subst g;have i:=this.2.1;revert i;cases k<;>(show ¬(_=_);decide)
theorem R6{F:Nat}(hF:W.heap[F]?=some (G cs t m))(i:t=97)(g:W.grownBy W' (some F)){r:Bool}{v:Value}{qs:List Rat}(h:RowK r W v qs):RowK r W' v qs:=by
 obtain⟨a,cap,e,j,d,n,c⟩:=h;refine⟨a,cap,e,j,d,n,?_⟩;rcases c with c|⟨b,k,f⟩
 . exact Or.inl c
 . refine Or.inr ⟨b,k,f.keep (g.block b f.lt (λe=>?_)) (cU hF i g)⟩;obtain⟨o,l,_⟩:=f;have e:=Ch e;subst e;have:=l.symm.trans hF;simp only[Ag,Bu]at this;subst i;have d:=this.2.1;revert d;cases r<;>(show ¬(_=_);decide)
theorem cV(s:ByteArray)(ps:List Rat)(w:World)(Y:∀V R,De V R s 0->Calls Tryz.prog 94 #[B (some ⟨R,0,none⟩)] V λr i=>V.grownBy i (some R)/\∃u,r=.returned u/\Jg i u ps):
 Calls Tryz.prog 53 #[D s] w λr i=>∃u,r=.returned (.tuple #[u,.agg #[C E 0,C E 0]])/\Jg i u ps/\Bl w i:=by
 have X:=Ja Y;clear Y;go_enter_defers Tryz.func53,Tryz.ntmps53
 go_upto_region 3 with fail
 have g:=BM w 25 (F none 0 0);have d:=Jn.new (w.alloc (G #[F none 0 0] 25)) 97 (C E 0) (C E 0);have n:De (((w.alloc (G #[F none 0 0] 25)).alloc (G #[C E 0,C E 0] 97)).alloc (G #[D s,C E 0] 130)) ((w.alloc (G #[F none 0 0] 25)).alloc (G #[C E 0,C E 0] 97)).heap.size s 0:=BE _ _;rw[A1,A1]at n;rw[A1]at d;replace g:=(g.alloc (G #[C E 0,C E 0] 97)).alloc (G #[D s,C E 0] 130);replace d:=d.alloc (G #[D s,C E 0] 130);have A:Bl w (((w.alloc (G #[F none 0 0] 25)).alloc (G #[C E 0,C E 0] 97)).alloc (G #[D s,C E 0] 130)):=((Ba w _).alloc (by rw[A1];omega) _).alloc (by rw[A1,A1];omega) _;have Q:(((w.alloc (G #[F none 0 0] 25)).alloc (G #[C E 0,C E 0] 97)).alloc (G #[D s,C E 0] 130)).heap.size=w.heap.size+1+1+1:=by rw[A1,A1,A1]
 obtain⟨V,x⟩:=ex (((w.alloc (G #[F none 0 0] 25)).alloc (G #[C E 0,C E 0] 97)).alloc (G #[D s,C E 0] 130));rw[x]at g d n A Q;rw[x];obtain⟨H0,O,T,HC⟩:=EC g d A (X.o _ _ n);clear g d n A x X Q;go_wp2_with(go_at_call 94;refine HC.o.mono ?_;rintro e m ⟨ad,u1,rfl,v⟩;have H:=Ja ad;obtain⟨c,b,a,rfl⟩:=v.form;have HU:=Ja v.row;have l:Boxed m w.heap.size 25 (F none 0 0):=H0.o.kept H.o (λe=>by have:=Ch e;omega);have j:Jn m (w.heap.size+1) 97 (C E 0) (C E 0):=(H.o.block _ O.o.lt (λe=>by have:=Ch e;omega)).trans O.o;have x0:=l.cell;have x1:=l.frozen;obtain⟨y0,y1⟩:=j.cp;obtain⟨z0,z1⟩:=j.fp;have H2:=Ja l;have H3:=Ja j;clear ad v l j)
 have I:w.heap.size+1≠w.heap.size:=om
 have Qd:Bl w m:=T.o.grown H.o T.o.size (λk e=>by have:=Ch e;omega);have P:=H2.o.set (F c b a);have U:=FY H2.o (F c b a) HU.o;have t:=H3.o.far (p:=⟨w.heap.size,0,none⟩) I (F c b a);have M:=Qd.setCell (p:=⟨w.heap.size,0,none⟩) (Aa _) (F c b a);generalize m.setCell ⟨w.heap.size,0,none⟩ (F c b a)=q at P U t M ⊢;have Z:=(BD q ⟨w.heap.size+1,0,none⟩ (C E 0) w.heap.size (λe=>I e.symm)).trans P;have N:=R6 t rfl (JC q (w.heap.size+1) 0 (C E 0)) U;have z:=t.set0 (C E 0);have S:=M.setCell (p:=⟨w.heap.size+1,0,none⟩) (by show _<=w.heap.size+1;omega) (C E 0);generalize q.setCell ⟨w.heap.size+1,0,none⟩ (C E 0)=o at Z N z S ⊢;have d1:=(BD o ⟨w.heap.size+1,1,none⟩ (C E 0) w.heap.size (λe=>I e.symm)).trans Z;have W:=R6 z rfl (JC o (w.heap.size+1) 1 (C E 0)) N;have K:=z.set1 (C E 0);have y:=S.setCell (p:=⟨w.heap.size+1,1,none⟩) (by show _<=w.heap.size+1;omega) (C E 0);generalize o.setCell ⟨w.heap.size+1,1,none⟩ (C E 0)=J at d1 W K y ⊢;refine leaves_cons (f:=93) (args:=#[B (some ⟨w.heap.size,0,none⟩),B (some ⟨w.heap.size+1,0,none⟩)]) DQ (by simp[go_sem]) ?_;refine(cO ⟨w.heap.size,0,none⟩ ⟨w.heap.size+1,0,none⟩ _).mono ?_;rintro e u' w2 ⟨rfl,rfl,rfl⟩;have e1:Boxed J w.heap.size 25 (F c b a):=d1;have f1:=(e1.alloc (G #[C E 0,C E 0] 97)).cell;have f2:=(K.alloc (G #[C E 0,C E 0] 97)).c0;have f3:=(K.alloc (G #[C E 0,C E 0] 97)).c1;have f4:=y.alloc y.size (G #[C E 0,C E 0] 97);have L:=W.below (Ba J (G #[C E 0,C E 0] 97));generalize J.alloc (G #[C E 0,C E 0] 97)=W5 at f1 f2 f3 f4 L ⊢;simp[Leaves,settle,results,Tryz.results53,go_sem,f1,f2,f3];exact⟨⟨_,rfl,L⟩,f4⟩
attribute [local go_sem] Oper.semAt_some
theorem R7:∀(f:Nat) (b:Bool) (I m:Nat) (S d:List Rat) (k:Nat),I<=l.length->m<=I->YJ S m->ES l f b I S=.ok d k->∃o,o<=l.length/\YJ d o:=by
 intro f;induction f with
 |zero=>intro b I m S d k _ _ _ h;cases h
 |succ f r=>
  intro b I m S d k q v t h;cases g:JU l I with
  |bad e p=>rw[KL g]at h;cases h
  |ok a u=>
   obtain⟨c,n⟩:=a;have s:=I0 q g;have i:=t.next (OX q g) s.2.2 b;have w:=GH l u;rw[KM g]at h;split at h
   . rename_i j;have:=JS j;exact r _ _ (m+1) _ _ _ om om i h
   . split at h
     . rename_i j;have:=JS j;exact r _ _ (m+1) _ _ _ om om i h
     . split at h
       . cases h;exact⟨m+1,om,i⟩
       . cases h
theorem cW{S:List Rat}{k:Nat}(h:Xt l=.ok S k):∃m,m<=l.length/\YJ S m:=by
 unfold Xt at h;have b:=Ys (l:=l) (i:=0) om;split at h
 . rename_i a;have:=JS a;exact R7 _ _ _ 0 _ _ _ om om YJ.start h
 . exact R7 _ _ _ 0 _ _ _ b om YJ.start h
theorem OY(l:List UInt8):(JQ l).1.length<=9/\∀i,Df 601 (cf (JQ l).1 i):=by
 by_cases h:300<l.length
 . rw[show JQ l=([],1,0)by unfold JQ;rw[BG h]];exact⟨DQ,λi=>by rw[YQ];exact Df.zero _ om⟩
 . rw[K5 h];cases a:Xt l with
   |bad e p=>exact⟨by simp[KN],λi=>by rw[show(KN (Rd.bad (α:=List Rat) e p)).1=[]from rfl,YQ];exact Df.zero _ om⟩
   |ok S k=>
    obtain⟨m,b,hs⟩:=cW a;rw[show(KN (Rd.ok S k)).1=Jd S from rfl];exact⟨As (JB _) (by rw[hs.1];exact Aa _),λi=>by rw[JX];exact(hs.2 i).mono om⟩
def KQ(l:List UInt8)(a:World)(u:Value)(e p:Int):Prop:=e=((JQ l).2.1:Int)/\p=((JQ l).2.2:Int)/\Jg a u (JQ l).1
theorem cX(s:ByteArray)(hs:s.size<=300)(w:World):
 Calls Tryz.prog 53 #[D s] w λr a=>∃u e p,r=.returned (.tuple #[u,.agg #[C E e,C E p]])/\KQ (Je s) a u e p/\Bl w a:=by
 have b:=K5 (l:=Je s) (by rw[Ji];omega);cases c:Xt (Je s)with
 |bad i q0=>
  rw[c]at b;refine(cT s i q0 w (λV R d=>(R5 R s V d hs).mono (λr a h=>⟨h.1,h.2.1 _ _ c⟩))).mono ?_;rintro r a ⟨rfl,f⟩;refine⟨_,_,_,rfl,?_,f⟩;rw[KQ,b];exact⟨rfl,rfl,_,rfl,RowK.nil _ _⟩
 |ok S k=>
  rw[c]at b;refine(cV s (Jd S) w (λV R d=>(R5 R s V d hs).mono (λr a h=>⟨h.1,by obtain⟨u,g,j,_⟩:=h.2.2 _ _ c;exact⟨u,g,j⟩⟩))).mono ?_;rintro r a ⟨u,rfl,m,f⟩;refine⟨_,_,_,rfl,?_,f⟩;rw[KQ,b];exact⟨rfl,rfl,m⟩
theorem R8(s:ByteArray)(w:World):
 Calls Tryz.prog 23 #[D s] w λr H=>∃u e p,r=.returned (.tuple #[u,C E e,C E p])/\KQ (Je s) H u e p/\Bl w H:=by
 by_cases x:300<s.size
 . have M:(300:Int)<(s.size:Int):=om
   have N:=Ja (show JQ (Je s)=([],1,0)by unfold JQ;rw[BG (by rw[Ji];exact x)]);clear x;go_enter Tryz.func23,Tryz.ntmps23
   go_wp2;exact BA (v:=.tuple #[.agg #[F none 0 0],C E 1,C E 0]) (by simp[results,Tryz.results23,go_sem]) rfl ⟨_,_,_,rfl,by rw[KQ,N.o];exact⟨rfl,rfl,_,rfl,RowK.nil _ _⟩,Ba w _⟩
 . have M:¬(300:Int)<(s.size:Int):=om
   have z:=Ja (λ(V:World)=>cX s om V);clear x;go_enter Tryz.func23,Tryz.ntmps23
   go_upto_region 4 with(go_at_call 53;refine(z.o _).mono ?_;clear z;rintro e a ⟨u1,k,g,rfl,b,f⟩;obtain⟨j,i,c,rfl⟩:=b.2.2.form;have n:=Ja b;have o:=Ja f;clear b f)
   have R:w.heap.size<a.heap.size:=by have:=o.o.size;rw[A1]at this;omega
   have q0:Boxed a w.heap.size 25 (F none 0 0):=(o.o.block _ (by rw[A1];omega)).trans (BM w 25 (F none 0 0));have y:Bl w a:=(Ba w _).trans (o.o.mono (by rw[A1];omega));have d:=BM a 25 (F j i c);have m:=Jn.new (a.alloc (G #[F j i c] 25)) 97 (C E k) (C E g);rw[A1]at m;replace d:=d.alloc (G #[C E k,C E g] 97);have l:Bl a ((a.alloc (G #[F j i c] 25)).alloc (G #[C E k,C E g] 97)):=(Ba a _).alloc (by rw[A1];omega) _;have q1:=(l.block _ q0.lt).trans q0;have f:=Bt y l;have b:=n.o.2.2.row.below l;have J:=Ja (⟨n.o.1,n.o.2.1⟩:k=_/\g=_);have I:w.heap.size≠a.heap.size:=om
   have A:w.heap.size≠a.heap.size+1:=om
   generalize (a.alloc (G #[F j i c] 25)).alloc (G #[C E k,C E g] 97)=K at d m l q1 f b ⊢;clear l q0 y o n R;obtain⟨Q,q⟩:=ex (w.heap.size);obtain⟨B,t⟩:=ex (a.heap.size);rw[t]at d m I A;rw[q]at q1 I A;rw[t,q];have q2:Boxed K Q 25 (F none 0 0):=q1;have x0:=d.cell;obtain⟨U,X⟩:=m.cp;have L:=q2.cell;have W:=q2.frozen;obtain⟨T,O,P,S⟩:=EC q2 q f b;clear d m q1 q2 q t f b;go_region
   go_wp2_with fail
   have r0:=L;refine BA (v:=.tuple #[.agg #[F j i c],C E k,C E g]) (by simp[results,Tryz.results23,go_sem,r0]) rfl ⟨_,_,_,rfl,⟨J.o.1,J.o.2,_,rfl,?_⟩,?_⟩
   . exact(FY T.o (F j i c) S.o).below ((BB _ _).drew)
   . exact(P.o.setCell (p:=⟨Q,0,none⟩) (by rw[O.o];exact Aa _) _).drew
end
variable{M ps qs:List Rat}{k m n:Nat}{p q:Rat}
theorem cY(h:Df k q):(J6 q).length<=40*k+5:=by
 have a:=Iq q.num;have b:=Iq (q.den:Int);have d:=h.1.words;have c:=h.2.words;unfold J6;split
 . omega
 . rw[Ai,Am];omega
theorem Df.abs(h:Df k q):Df k (Yu q):=by
 have:=K0 q;unfold Df Sm at h ⊢;rw[this.1,this.2];exact⟨by have:=h.1;omega,h.2⟩
theorem cZ{c:Rat}(h:Df k c){i:Nat}(b:i<DR)(f:Bool):(X1 c i f).length<=40*k+40:=by
 have a:=cY h.abs;have d:=Im i;have l:(Jc DR i).length<=1:=JJ Jf (by rw[Nat.pow_one];exact b);have g:(X8 c f).length<=1:=by
  unfold X8;split
  . simp
  . split<;>simp
 have e:(Y0 c i).length<=40*k+5:=by
  unfold Y0;split
  . simp
  . exact a
 have j:(EY i).length<=23:=by
  unfold EY;split
  . simp
  . split
    . simp
    . rw[Am,Am];omega
 unfold X1;rw[Ai,Ai];omega
theorem cr(h:∀i,Df k (cf ps i))(hl:ps.length<=DR):∀(d m:Nat),ps.length-m=d->(J7 (ps.drop m) m).length<=d*(40*k+40):=by
 intro d;induction d with
 |zero=>
  intro m b;rw[List.drop_of_length_le om];simp[J7]
 |succ d a=>
  intro m b;have a:=a (m+1) om;rw[KC ps (by omega:m<ps.length)];have c:=cZ (h m) (by omega:m<DR) (J7 (ps.drop (m+1)) (m+1)).isEmpty;rw[AA];split
  . omega
  . rw[Ai];omega
theorem Xu(h:Db ps)(hl:ps.length<=3000000)(m:Nat):(J7 (ps.drop m) m).length<=140737488355328:=by
 have a:=cr (λi=>(h.at i).sm) uo _ m rfl;refine As a (As (Ak _ (Nat.sub_le _ _)) (As (Ak _ hl) ?_));decide
theorem dA(z:List Rat)(i:Nat)(a:Rat)(q:List Rat):∀(j k:Nat),i+j<=k->cf (YB z i a q j) k=cf z k:=by
 intro j;induction j with
 |zero=>intro k _;rfl
 |succ j b=>
  intro k c;rw[YB];by_cases h:i+j<z.length
  . rw[Xy _ _ _ _ (by rw[Yr];exact h),BC om,b k om]
  . rw[CX (by rw[Yr];omega),b k om]
theorem Xk(z:List Rat)(i:Nat)(a:Rat)(q:List Rat):∀(j k:Nat),cf (YB z i a q j) k=cf z k\/cf (YB z i a q j) k=cf z k+a*cf q (k-i):=by
 intro j;induction j with
 |zero=>intro k;exact Or.inl rfl
 |succ j b=>
  intro k;rw[YB];by_cases h:i+j<z.length
  . rw[Xy _ _ _ _ (by rw[Yr];exact h)];by_cases e:k=i+j
    . subst e;rw[BG rfl,dA z i a q j (i+j) (Aa _)];exact Or.inr (by rw[Nat.add_sub_cancel_left])
    . rw[BC e];exact b k
  . rw[CX (by rw[Yr];omega)];exact b k
theorem Df.mul2(hp:Df k p)(hq:Df m q):Df (k+m) (p*q):=by
 rw[<-PU];refine Df.divInt ?_ (hp.1.mul hq.1) (hp.2.mul hq.2);exact Co (by have:=p.den_nz;omega) (by have:=q.den_nz;omega)
theorem Df.inv(hq:Df m q)(a:q≠0):Df m q⁻¹:=by
 rw[Rat.inv_def];exact Df.divInt (λe=>a (Fx.1 e)) hq.2 hq.1
theorem Df.div2(hp:Df k p)(hq:Df m q)(a:q≠0):Df (k+m) (p/q):=by
 rw[Fz];exact hp.mul2 (hq.inv a)
theorem Xv{p:List Rat}(hp:Jd p=p)(h:∀i,m<=i->cf p i=0):p.length<=m:=by
 by_cases hl:p.length<=m
 . exact hl
 . exfalso
   exact JF hp (by intro e;rw[e]at hl;simp at hl) (h _ om)
theorem MY(n:Nat)(a:Rat)(i:Nat):cf (Jd (Dn n [a])) i=if i=n then a else 0:=by rw[JX,MU]
theorem dB(n:Nat)(a:Rat):(Jd (Dn n [a])).length<=n+1:=YX n a
theorem R9(n:Nat)(a:Rat)(x:Rat):ev (Jd (Dn n [a])) x=x^n*a:=by
 rw[Hh,LU];show x^n*(a+x*0)=_;grind
theorem MZ(n:Nat)(a:Rat)(q:List Rat)(i:Nat):cf (JR (Jd (Dn n [a])) q) i=if n<=i then a*cf q (i-n)else 0:=by
 have e:JR (Jd (Dn n [a])) q=Jd (YH a (Dn n q)):=by
  rw[<-XH];refine Kc λx=>?_;rw[XR,R9,XG,LU];grind
 rw[e,JX,Y5,IV];split
 . exact Rat.mul_comm _ _
 . exact CQ _
theorem SC(f:∀i,i≠n->cf M i=0)(N:Nat):∀i k,cf (Yv M qs N i) k=0\/cf (Yv M qs N i) k=cf M n*cf qs (k-n)/\n<i:=by
 intro i;induction i with
 |zero=>intro k;left;rw[Yv,JN]
 |succ i c=>
  intro k;rw[Yv];by_cases a:i=n
  . subst a;have b:cf (Yv M qs N i) k=0:=by
     rcases c k with h|⟨_,h⟩
     . exact h
     . omega
    rcases Xk (Yv M qs N i) i (cf M i) qs qs.length k with e|e
    . left;rw[e,b]
    . right;exact⟨by rw[e,b,Rat.zero_add],om⟩
  . have d:cf (YB (Yv M qs N i) i (cf M i) qs qs.length) k=cf (Yv M qs N i) k:=by
     rcases Xk (Yv M qs N i) i (cf M i) qs qs.length k with e|e
     . exact e
     . rw[e,f i a,CQ,FM]
    rw[d];rcases c k with h|⟨h,g⟩
    . exact Or.inl h
    . exact Or.inr ⟨h,om⟩
theorem dC(b:∀i,i≠n->cf M i=0)(hs:∀j,Sq (cf M n*cf qs j)):M3.X2 M qs:=by
 have d:Sq 0:=Sq.of (k:=1) (Df.zero 1 om) om;refine⟨λi j=>?_,λN i j k=>?_⟩
 . by_cases a:i=n
   . rw[a];exact hs j
   . rw[b i a,CQ];exact d
 . have c:Sq (cf (Yv M qs N i) k):=by
    rcases SC b N i k with h|⟨h,_⟩
    . rw[h];exact d
    . rw[h];exact hs _
   rcases Xk (Yv M qs N i) i (cf M i) qs j k with e|e
   . rw[e];exact c
   . by_cases a:i=n
     . have f:cf (Yv M qs N i) k=0:=by
        rcases SC b N i k with h|⟨_,h⟩
        . exact h
        . omega
       rw[e,f,a,Rat.zero_add];exact hs _
     . rw[e,b i a,CQ,FM];exact c
theorem SF{R:List Rat}{a:Rat}(f:Jd qs=qs)(b:qs≠[])(hl:qs.length<=R.length)(k:n=R.length-qs.length)
(d:a=cf R (R.length-1)/cf qs (qs.length-1)):(J2 R (JR (Jd (Dn n [a])) qs)).length<=R.length-1:=by
 have g:0<qs.length:=Aq.2 b;have c:=JF f b;refine Xv (Iz _ _) λi j=>?_;rw[Kd,MZ];by_cases e:i=R.length-1
 . rw[BG om,e,show R.length-1-n=qs.length-1 from by omega,d,Ct c,Rat.sub_self]
 . rw[J4 (p:=R) om,BG om,J4 (p:=qs) om,FV,Rat.sub_self]

