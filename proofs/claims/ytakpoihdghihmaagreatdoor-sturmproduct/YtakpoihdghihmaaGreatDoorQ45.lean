import Derived.Test.YtakpoihdghihmaaGreatDoorQ44
open Go.Value renaming slice->C,pointer->E,agg->L
open Go renaming World->G,Value->I
open Go.Obj renaming cells->F
set_option maxRecDepth 100000
set_option maxHeartbeats 16000000
namespace Go.Proofs.YtakpoihdghihmaaGreatDoor
namespace M3
open Go.RowKit Go.Shelf
attribute [local go_sem] Oper.semAt_some
def Hy(ty:TypeId)(W W':G):Prop:=∀B,B<W.heap.size->(∀cs m,W.heap[B]?≠some (F cs ty m))->W'.heap[B]?=W.heap[B]?
variable{H:List (List Rat)}{cs:List I}{B c g l n:Nat}{f:Nat->List Rat}{a:Option Addr}{ty:TypeId}{v:I}{V W W' w:G}
theorem Hy.at(h:Hy ty W W'){cs:Array I}{t:TypeId}{m:Nat × Nat}(a:W.heap[B]?=some (F cs t m))(b:t≠ty):W'.heap[B]?=W.heap[B]?:=
 h B (Ab.1 a).1 λc d e=>by
  rw[a]at e;simp only[Ak,B0]at e;exact b e.2.1
theorem Hy.row(h:Hy ty W W')(d:∀k,Kj k≠ty){k:IntKind}{ds:List Nat}(s:Row k W v ds):Row k W' v ds:=by
 obtain⟨a,c,e,l,n,o,f⟩:=s;refine⟨a,c,e,l,n,o,?_⟩;rcases f with f|⟨b,off,i,g,q⟩
 . exact Or.inl f
 . obtain⟨cs,m,p⟩:=id g;have d:=h.at p (d k);refine Or.inr ⟨b,off,i,g.of d,λj r=>?_⟩;rw[<-q j r];simp only[World.cell?,d]
theorem Hy.rowK(h:Hy ty W W')(r:∀k,Kj k≠ty)(s:∀k,IJ k≠ty){k:Bool}{qs:List Rat}(B:RowK k W v qs):RowK k W' v qs:=by
 obtain⟨a,cap,e,o,p,q,c⟩:=B;refine⟨a,cap,e,o,p,q,?_⟩;rcases c with c|⟨b,n,cs,d,w⟩
 . exact Or.inl c
 . refine Or.inr ⟨b,n,cs,(h.at d (s k)).trans d,λj A=>?_⟩;obtain⟨x,y,z,u,f,i,l,m,t⟩:=w j A;exact⟨x,y,z,u,f,i,l,m,t.keep λ_ _ _ g=>h.row r g⟩
theorem aV(k:IntKind):Kj k≠25:=by cases k<;>decide
theorem aW(k:Bool):IJ k≠25:=by cases k<;>decide
theorem XI.far{base:Nat}(h:XI ty base W v cs)(c:∀B,B<W.heap.size->X4 v≠some B->W'.heap[B]?=W.heap[B]?):Hy ty W W':=λB b d=>c B b λe=>by
 rcases h with⟨rfl,_⟩|⟨g,cap,f,rfl,i,a,j⟩
 . cases e
 . cases e;exact d _ _ a
theorem E9.keep{W W':G}{cs:List I}{L:List (List Rat)}(h:E9 W cs L)(a:∀v p,Je W v p->Je W' v p):E9 W' cs L:=Gm.keep h λ_ _=>a _ _
def Fqq(w:G)(B4 B5:Nat)(H:List (List Rat))(W:G):Prop:=
 ∃v cs,Boxed W w.heap.size 120 v/\XI 25 (w.heap.size+1) W v cs/\E9 W cs H/\X4 v≠some B4/\X4 v≠some B5/\Bl w W
theorem Fqq.own(w:G)(B4 B5 B:Nat)(m:w.heap.size<=B):OwnFrom B (Fqq w B4 B5):=by
 rintro H W W' row ⟨v,cs,f,g,i,j,l,c⟩ a d;have b:∀r,row=some r->∃o:Obj,W.heap[r]?=some o/\o.isCells=false:=λr e=>(d r e).2;exact⟨v,cs,J9 a b f,g.own a b,i.keep λ_ _ h=>LS a b h,j,l,c.grown a c.size λk e=>An m (d k e).1⟩
theorem Fqq.bel(w:G)(B4 B5:Nat):GB (Fqq w B4 B5):=by
 rintro H W W' ⟨v,cs,b,c,d,e,f,g⟩ a;exact⟨v,cs,boxed_below b a,c.below a,d.keep λ_ _ h=>h.below a,e,f,Bt g a⟩
theorem Fqq.set(w:G)(B4 B5:Nat)(q:w.heap.size+1<=B4)(r:w.heap.size+1<=B5):KQ B4 B5 (Fqq w B4 B5):=by
 rintro H W B a l c u n o ⟨v,cs,i,j,k,d,f,m⟩;refine⟨v,cs,Boxed.other i Y u,j.keep λg e _ _=>BC W ⟨B,0,none⟩ u g λb=>?_,k.keep λ_ _ h=>h.setB o,d,f,m.setCell (p:=⟨B,0,none⟩) (by show w.heap.size<=B;omega) u⟩;have b:g=B:=b;subst b;rcases n with rfl|rfl
 . exact d e
 . exact f e
theorem Fqq.app{B4 B5:Nat}(M:Boxed W w.heap.size 120 v)(f:XI 25 (w.heap.size+1) W v cs)(T:E9 W cs H)(D:X4 v≠some B4)(K:X4 v≠some B5)(U:Bl w W)(l4:B4<W.heap.size)(l5:B5<W.heap.size){r:List Rat}(hr:Je W (L #[C a l c]) r)(hl:cs.length+1<=1099511627776):
 ∃x y z d,(Builtin.append_ #[120,120] 120 #[v,C (some ⟨W.heap.size,0,none⟩) 1 1]).run Tryz.prog (W.alloc (F #[C a l c] 25))=.ok (C x y z) d/\Boxed d w.heap.size 120 v/\∀(b:Nat) (A:Act),b=w.heap.size+1->NR b B4 B5 (Fqq w B4 B5) (H++[r]) W .normal A (d.setCell ⟨w.heap.size,0,none⟩ (C x y z)):=by
 have s:w.heap.size<W.heap.size:=(Ab.1 M).1;obtain⟨v',d,e,N,far,bel,sz,S⟩:=Vj Vl (w.heap.size+1) W v cs f (x:=C a l c) rfl hl s;obtain⟨x,z,rfl,_⟩:=N.form;have Q:X4 v≠some w.heap.size:=λe=>by have:=(f.lt e).2;omega
 have j:Boxed d w.heap.size 120 v:=(far _ s Q).trans M;have P:=XI.far f far;have q:∀v p,Je W v p->Je d v p:=λv p h=>by
  obtain⟨u,e,h⟩:=h;exact⟨u,e,P.rowK aV aW h⟩
 obtain⟨av,cv,hv,_⟩:=f.form;have t:∀u p,Je d u p->Je (d.setCell ⟨w.heap.size,0,none⟩ (C x (cs++[Value.slice a l c]).length z)) u p:=λu p h=>by
  obtain⟨u,e,h⟩:=h;exact⟨u,e,Hr j (o:=0) (by rw[hv];rfl) rfl true DI _ _ _ h⟩
 have ne:∀B,B<W.heap.size->X4 v≠some B->X4 (C x (cs++[Value.slice a l c]).length z)≠some B:=λB hB h e=>by
  rcases S with m|⟨g,m,X⟩
  . exact h (m.symm.trans e)
  . rw[m]at e;injection e with e;omega
 refine⟨x,_,z,d,e,j,λb A hb=>⟨⟨_,_,j.set _,N.keep λg e X _=>BC d ⟨w.heap.size,0,none⟩ _ g (by show g≠w.heap.size;omega),E9.keep ((E9.keep T q).snoc (q _ _ hr)) t,ne _ l4 D,ne _ l5 K,?_⟩,?_,λk o hk n i=>?_,λu p h=>t _ _ (q _ _ h)⟩⟩
 . exact(bel _ _ Y U).setCell (p:=⟨w.heap.size,0,none⟩) (Aa _) _
 . rw[World.size_setCell];exact sz
 . have R:=(Ab.1 i).1;rw[BC d ⟨w.heap.size,0,none⟩ _ k (by show k≠w.heap.size;omega)];refine(far k R λe=>?_).trans i;rcases n with n|rfl|rfl
   . rcases f with⟨rfl,_⟩|⟨g,cap,ad,rfl,_,V,_⟩
     . cases e
     . cases e;rw[V]at i;cases i;cases n
   . exact D e
   . exact K e
theorem aY{F:Fence}{P:Program}(w:G){d:Array Oper}{rest:List Oper}{o:Oper}{a:Act}{Q:Exit->Act->G->Prop}(m:o.guard=none)(s x:Operand)(t:TypeId)
(b:o.op=Op.call { callee:=Callee.builtin Builtin.append,args:=#[s,x],argTypes:=#[t,t] })(f g:I)(q:a.eval s=f)(r:a.eval x=g)(e:I)(i:G)(p:(Builtin.append_ #[t,t] o.type #[f,g]).run P w=.ok e i)
(j:wpListIn F n P d Q rest (a.put o.dst e) i):wpListIn F n P d Q (o::rest) a w:=by
 refine wpListIn_plain m λK k=>?_;unfold Oper.wpIn;refine⟨?_,?_⟩
 . simp[Oper.about,b,resolve,Target.leads,Sem.run_pure]
 . rw[Oper.semAt_plain F _ _ (by rw[b];intro c l;cases l)];simp[execOp,b,resolve,invoke,builtin,q,r,p,Result.andThen];exact k _ _ j
theorem ar(K:Nat)(s t:Nat)(pa qa:Option Addr)(pl pc ql qc:Nat)(p q:List Rat)(w:G)(A:ChOk K p q)(ad:Db w s pa pl pc)(ae:Db w t qa ql qc)(ip:Je w (L #[C pa pl pc]) p)(iq:Je w (L #[C qa ql qc]) q):
 Calls Tryz.prog 186 #[C none 0 0,.func (.func 136) #[] #[E (some ⟨s,0,none⟩),E (some ⟨t,0,none⟩)]] w λe B=>∃v cs,e=.returned v/\XI 25 (w.heap.size+1) B v cs/\E9 B cs (XS p q)/\Bl w B:=by
 have g:Bl w (w.alloc (F #[C none 0 0] 120)):=Ba w _;obtain⟨Q,m⟩:=ex (w.alloc (F #[C none 0 0] 120));have Qd:Boxed Q w.heap.size 120 (C none 0 0):=by rw[<-m];exact BI w _ _
 have Qc:Q.heap.size=w.heap.size+1:=by rw[<-m];simp
 rw[m]at g;obtain⟨Qi,Qg,Qh,Qn,Qj,Ql,i,HA⟩:=GJ A (ad.below g) (ae.below g) (ip.below g) (iq.below g) Qd Qc g;have Qf:=Ja m;have Qk:=Ja (show(XS p q).length<=1000000000 from by
  have c:∀(n:Nat) (a b:List Rat),(EJ n a b).length<=n+1:=λn=>by
   induction n with
    |zero=>intro a b;exact Aa _
    |succ n ih=>
    intro a b;rw[EJ];split
    . simp
    . have:=ih b (YK a b);simp only[Ae];omega
  have d:=c (JE q).length (JE p) (JE q);have f:=J0 A.tq;have h4:=A.ln;show(EJ _ _ _).length<=_;omega)
 clear A ad ae ip iq Qd Qc g m;refine(BJ (n:=3)).1 ?_;refine BR Tryz.func186 rfl trivial ?_ rfl;simp only[Tryz.ntmps186,Ar,Ae,Az,Nat.reduceAdd,Nat.reduceSub,At,Au,AH,Ay,Aq,AA];gi_wp2_with fail
 rw[Qf.o];clear Qf;refine QT Y Qi.o Qg.o Qh.o Qn.o Qj.o rfl (Bj Tryz.func136 (by kernel_rfl) rfl) rfl
  (λB4 B5=>Fqq w B4 B5) (λB4 B5=>Fqq.own w B4 B5 _ (by have:=i.o;omega)) (λB4 B5=>Fqq.bel w B4 B5)
  (λB4 B5 h4 h5=>Fqq.set w B4 B5 (by have:=i.o;omega) (by have:=i.o;omega)) (λB4 B5 V h4 h5 hV=>⟨_,[],boxed_below Ql.o hV,XI.nil _ _ _,⟨rfl,λj p e=>by simp at e⟩,by simp[X4],by simp[X4],Bt HA.o hV⟩)
  (λv b=>{ tmps:=#[C none 0 0,.func (.func 136) #[] #[E (some ⟨s,0,none⟩),E (some ⟨t,0,none⟩)],E (some ⟨w.heap.size,0,none⟩),undef,C none 0 0,E (some ⟨b,0,none⟩),.func (.func 136) #[] #[E (some ⟨s,0,none⟩),E (some ⟨t,0,none⟩)],L #[v],undef,undef,undef,undef,undef],defers:=[] }) ?assign ?body ?done
 case assign=>
  intro l x xl xc W K z;gi_wp2;exact z
 case body=>
  rintro l b B4 B5 x xl xc r H W ⟨v,cs,c,d,f,u,y,k⟩ ai hb l4 l5 U hr;have P:=Bx.lt (cs:=#[C x xl xc]) U;obtain⟨xa,xb,an,B,aj,S,ah⟩:=Fqq.app c d f u y k (Nat.lt_trans l4 P) (Nat.lt_trans l5 P) hr (by
   have h8:=ai.length_le;have h9:=Qk.o;have am:=f.1;simp only[Av,Ae,Az]at h8;omega)
  have Qm:=Ja (ah Q.heap.size · i.o);obtain⟨R,T,X,_,_⟩:=d.form;subst X;have e0:=c.cell;have e1:=U.cell;have e2:=S.cell;have f2:=S.frozen;clear c d f u y k ai hb l4 l5 U hr P S ah;gi_wp2_with(gi_at_builtin;refine aY _ rfl _ _ 120 rfl _ _ rfl rfl _ _ aj ?_;clear aj)
  exact Qm.o _
 case done=>
  rintro D B4 B5 W H r hD ⟨v,cs,c,d,f,u,y,k⟩ af ak z;obtain⟨R,T,X,_,_⟩:=d.form;subst X;have e0:=c.cell;obtain⟨M,N,HD⟩:=Dd (show XI 25 (w.heap.size+1) W (C R cs.length T) cs/\E9 W cs (XS p q)/\Bl w W from⟨d,by rw[af];exact f,k⟩) z (show w.heap.size<=D by have:=i.o;omega);clear c d f u y k af ak z hD;gi_wp2_with fail
  refine⟨Z,.inl ⟨_,_,rfl,BV N.o,?_⟩⟩;have hg:=Bb W D (.deferred none);have Qe:∀r,some D=some r->∃o:Obj,W.heap[r]?=some o/\o.isCells=false:=λr e=>by cases e;exact⟨_,N.o,rfl⟩
  exact⟨C R cs.length T,by simp[results,Tryz.results186,go_sem],_,cs,rfl,M.o.1.own hg Qe,M.o.2.1.keep λ_ _ h=>LS hg Qe h,M.o.2.2.trans (B7 (w:=w) (Aa _) _ D _ _ HD.o N.o rfl rfl)⟩
def D9(V:G)(g n:Nat)(f:Nat->List Rat):Prop:=∃cs:Array I,V.heap[g]?=some (F cs 25 (0,0))/\∀j,j<n->∃a l c,cs[j]?=some (C a l c)/\RowK true V (C a l c) (f j)
theorem D9.lt(h:D9 V g n f):g<V.heap.size:=by obtain⟨cs,h,_⟩:=h;exact(Ab.1 h).1
theorem D9.below{V V':G}{g n:Nat}{f:Nat->List Rat}(h:D9 V g n f)(b:Bl V V'):D9 V' g n f:=by
 have hl:=h.lt;obtain⟨cs,d,i⟩:=h;refine⟨cs,(b.block g hl).trans d,λj m=>?_⟩;obtain⟨a,l,c,e,k⟩:=i j m;exact⟨a,l,c,e,k.below b⟩
theorem D9.cell{V:G}{g n:Nat}{f:Nat->List Rat}(h:D9 V g n f){j:Nat}(k:j<n):∃a l c,V.cell? ⟨g,j,none⟩=some (C a l c)/\RowK true V (C a l c) (f j):=by
 obtain⟨cs,b,d⟩:=h;obtain⟨a,l,c,e,i⟩:=d j k;exact⟨a,l,c,cell_of b e,i⟩
theorem D9.frozen{V:G}{g n:Nat}{f:Nat->List Rat}(h:D9 V g n f)(o:Nat):V.frozen? ⟨g,o,none⟩=false:=by obtain⟨cs,a,_⟩:=h;simp[World.frozen?,a]
theorem D9.set(h:D9 V g n f){j:Nat}(t:j<n){q:List Rat}(x:RowK true V (C a l c) q):D9 (V.setCell ⟨g,j,none⟩ (C a l c)) g n (λk=>if k=j then q else f k):=by
 obtain⟨cs,d,i⟩:=h;obtain⟨y,z,c0,b,_⟩:=i j t;have m:∀v qs,RowK true V v qs->RowK true (V.setCell ⟨g,j,none⟩ (C a l c)) v qs:=λv qs w=>Hr d b rfl true DI _ v qs w;refine⟨cs.setIfInBounds j (C a l c),J6 d _,λk u=>?_⟩;have o:j<cs.size:=(Ab.1 b).1;by_cases e:k=j
 . subst e;refine⟨a,l,c,?_,?_⟩
   . rw[Cs o]
   . show RowK true _ _ (if k=k then q else f k);rw[BH rfl];exact m _ _ x
 . obtain⟨p,l1,c1,r,s⟩:=i k u;refine⟨p,l1,c1,?_,?_⟩
   . rw[Ag Y];exact r
   . show RowK true _ _ (if k=j then q else f k);rw[BB e];exact m _ _ s
theorem D9.cong{a:Nat->List Rat}(h:D9 V g n f)(e:∀j,j<n->f j=a j):D9 V g n a:=by
 obtain⟨cs,c,d⟩:=h;refine⟨cs,c,λj b=>?_⟩;rw[<-e j b];exact d j b
theorem Mem.setFar{bs:List (Option (Nat × Dat))}(M:Mem w V bs)(f:w.heap.size<=B)(g:Db V B a l c)(j:∀(i:Nat) B' d,bs[i]?=some (some (B',d))->B'≠B)(u:I):Mem w (V.setCell ⟨B,0,Option.none⟩ u) bs:=by
 refine⟨λi B' d h=>?_,M.2.1,M.2.2.setCell (p:=⟨B,0,Option.none⟩) f u⟩;obtain⟨⟨cs,b,e⟩,k⟩:=M.1 i B' d h;exact⟨⟨cs,b.far (p:=⟨B,0,Option.none⟩) (j i B' d h) u,e.set1 g rfl u⟩,k⟩
def GY(w:G)(a d:Option Addr)(c b f e:Nat)(H:List (List Rat)):List (Option (Nat × Dat)):=
 [some (w.heap.size,.cell 25 (C a c b)),some (w.heap.size+1,.cell 25 (C d f e)),some (w.heap.size+1+1,.cell 25 (C none 0 0)),some (w.heap.size+1+1+1,.poly (H.getLastD []))]
theorem bA{a f:Option Addr}{c b j g:Nat}{i:Nat}{d:Dat}(e:(GY w a f c b j g H)[i]?=some (some (B,d))):B<=w.heap.size+1+1+1:=by
 unfold GY at e;rcases i with _|_|_|_|i<;>simp at e<;>omega
theorem QU(K:Nat)(va vb:I)(p q:List Rat)(w:G)(ha:Je w va p)(y:Je w vb q)(af:ChOk K p q):
 Calls Tryz.prog 35 #[va,vb] w λe U=>∃u,e=.returned u/\Je U u (Jr p q)/\Bl w U:=by
 obtain⟨f,j,g,rfl⟩:=ha.form;obtain⟨m,t,s,rfl⟩:=y.form;have M0:Mem w _ _:=((((Mem.nil w).push (.cell 25 (C f j g)) (cs:=#[C f j g]) ⟨rfl,rfl⟩).push (.cell 25 (C m t s)) (cs:=#[C m t s]) ⟨rfl,rfl⟩).push (.cell 25 (C none 0 0)) (cs:=#[C none 0 0]) ⟨rfl,rfl⟩).push (.poly []) (cs:=#[C none 0 0]) (Ik _);simp only[Ax]at M0;obtain⟨W0,ad⟩:=ex ((((w.alloc (F #[C f j g] 25)).alloc (F #[C m t s] 25)).alloc (F #[C none 0 0] 25)).alloc (F #[C none 0 0] 25));have M1:Mem w W0 (GY w f m j g t s []):=by rw[<-ad];exact M0
 have hN:W0.heap.size=w.heap.size+1+1+1+1:=by rw[<-ad];simp
 obtain⟨Qe,Qg,HN,HP,HQ,Qm⟩:=I5 ad M1 hN (λ(V:G) (hB:Bl w V)=>ha.below hB) (λ(V:G) (hB:Bl w V)=>y.below hB) af;have Qj:=Ja (λ(V:G) (x:I) (r:List Rat) (hx:Je V x r) (hc:Chn p q (DX K p q) r [])=>show Calls Tryz.prog 88 #[x] V λe U=>∃u,e=.returned u/\Je U u (Jr p q)/\Bl V U by
  have Qb:=af.bd;have h1:=QQ x r V hx (Sqs.of λi=>Sq.of (hc.wa.smq Qb.2.2.2 i) Qb.1) hc.ta (λi=>by
   have h2:=Ln.sqs hc.ta hc.wa.ln Qb.2.2.2 i;unfold Jz at h2;rw[Yk,Fi,CG,<-Fi]at h2;exact Sq.of h2 Qb.1)
  rw[<-hc.gc,P9];exact h1)
 clear ha y af M0 M1 ad hN;refine(BJ (n:=3)).1 ?_;refine BR Tryz.func35 rfl trivial ?_ rfl;simp only[Tryz.ntmps35,Ar,Ae,Az,Nat.reduceAdd,Nat.reduceSub,At,Au,AH,Ay,Aq,AA];gi_wp2_with fail
 rw[Qe.o];refine⟨trivial,?_⟩;refine(QS _ _ _ _ _ _ _ _).mono ?_;rintro e U ⟨rfl,rfl⟩;obtain⟨z,T⟩:=ex ((W0.alloc (F #[C f j g] 25)).alloc (F #[C m t s] 25));have Qi:Bl W0 z:=by rw[<-T];exact(Ba W0 _).alloc (by rw[Ax];omega) _
 have nP:Db z W0.heap.size f j g:=by rw[<-T];exact(BI W0 25 (C f j g)).alloc _
 have nQ:Db z (W0.heap.size+1) m t s:=by
  rw[<-T];have:=BI (W0.alloc (F #[C f j g] 25)) 25 (C m t s);rwa[Ax]at this
 have M2:=Mem.below Qg.o Qi;have Qf:z.heap.size=w.heap.size+6:=by rw[<-T];simp[HN.o]
 rw[T,HN.o];rw[HN.o]at nP nQ;obtain⟨Qc,Ql,Qn,R⟩:=Dt M2 nP nQ Qf;clear M2 nP nQ Qf Qi T Qe HN Qg;gi_wp2_with fail
 refine QT Y Qm.o Ql.o Qn.o (HP.o z Qc.o.2.2) (HQ.o z Qc.o.2.2) rfl (Bj Tryz.func136 (by kernel_rfl) rfl) rfl
  (λ_ _ H W=>Mem w W (GY w f m j g t s H)) (λ_ _ H W W' row M hg hr=>Mem.own M hg λr e=>⟨by have:=(hr r e).1;have:=R.o;omega,(hr r e).2⟩) (λ_ _ H W W' M y=>Mem.below M y)
  (λB4 B5 S h5 H W B a l c u hB y M=>Mem.setFar M (by have:=R.o;omega) y (λi B' d e=>by have:=bA e;have:=R.o;omega) u) (λ_ _ V _ _ hV=>Mem.below Qc.o hV)
  (λv b=>{ tmps:=#[L #[C f j g],L #[C m t s],E (some ⟨w.heap.size,0,none⟩),E (some ⟨w.heap.size+1,0,none⟩),E (some ⟨w.heap.size+1+1,0,none⟩),E (some ⟨w.heap.size+1+1+1,0,none⟩),E (some ⟨b,0,none⟩),L #[C f j g],L #[C m t s],.func (.func 136) #[] #[E (some ⟨w.heap.size+1+1+1+1,0,none⟩),E (some ⟨w.heap.size+1+1+1+1+1,0,none⟩)],L #[v],undef,undef,undef],defers:=[] }) ?assign ?body ?done
 case assign=>
  intro l x xl xc W K hK;gi_wp2;exact hK
 case body=>
  intro l b B4 B5 x xl xc r H W M _ y _ _ ai hr;obtain⟨ya,yl,yc,Q,r3⟩:=Mem.poly2 M (i:=3) rfl;have e3:=Q.cell;have f3:=Q.frozen;have eb:=ai.cell;have HH:=Ja (show ∀ah,NR z.heap.size B4 B5 (λH W=>Mem w W (GY w f m j g t s H)) (H++[r]) W .normal ah (W.setCell ⟨w.heap.size+1+1+1,0,none⟩ (C x xl xc))from λah=>by
   refine⟨?_,?_,λk o hk _ ho=>?_,λv ps h=>h.setB Q⟩
   . have S:=Mem.putPoly M (i:=3) rfl hr;show Mem w _ (GY w f m j g t s (H++[r]));unfold GY at S ⊢;rw[show(H++[r]).getLastD []=r by simp];exact S
   . rw[World.size_setCell];exact Aa _
   . exact(BC W ⟨w.heap.size+1+1+1,0,none⟩ _ k (by show k≠w.heap.size+1+1+1;have:=R.o;omega)).trans ho)
  clear M y ai hr Q r3;gi_wp2;exact HH.o _
 case done=>
  intro D _ _ W H r hD M am aj hK;have Qo:w.heap.size<=D:=by have:=R.o;omega
  have M:Mem w W [some (w.heap.size,.cell 25 (C f j g)),some (w.heap.size+1,.cell 25 (C m t s)),some (w.heap.size+1+1,.cell 25 (C none 0 0)),some (w.heap.size+1+1+1,.poly r)]:=by
   have S:Mem w W (GY w f m j g t s (H++[r])):=M;unfold GY at S;rwa[show(H++[r]).getLastD []=r by simp]at S
  obtain⟨ya,yl,yc,Q,r3⟩:=Mem.poly2 M (i:=3) rfl;have e3:=Q.cell;have n2:=(Mem.cell M (i:=2) rfl).1;obtain⟨HC,Qh,HK⟩:=Dd (Qj.o W _ r r3 aj) M.2.2 hK;clear M am aj hK r3 Q Qj;gi_wp2_with(refine⟨trivial,?_⟩;gi_at_call 88;refine((BJ (n:=_)).2 HC.o).mono ?_;clear HC;rintro e X ⟨u5,rfl,ak,ae⟩;obtain⟨A,P,N,rfl⟩:=ak.form;have n5:=boxed_below n2 ae;have x0:=n5.cell;have x1:=n5.frozen)
  have Qd:(X.setCell ⟨w.heap.size+1+1,0,none⟩ (C A P N)).heap[D]?=some (.deferred (some [])):=by
   rw[BC X ⟨w.heap.size+1+1,0,none⟩ _ D (by show D≠w.heap.size+1+1;have:=R.o;omega)];exact(ae.block D (Ab.1 HK.o).1).trans HK.o
  refine⟨Z,.inl ⟨_,_,rfl,BV Qd,?_⟩⟩;have q:Db (X.setCell ⟨w.heap.size+1+1,0,none⟩ (C A P N)) (w.heap.size+1+1) A P N:=Db.put (show Db X (w.heap.size+1+1) none 0 0 from n5);have hg:=Bb (X.setCell ⟨w.heap.size+1+1,0,none⟩ (C A P N)) D (.deferred none);have Qk:∀r,some D=some r->∃o:Obj,(X.setCell ⟨w.heap.size+1+1,0,none⟩ (C A P N)).heap[r]?=some o/\o.isCells=false:=λr e=>by cases e;exact⟨_,Qd,rfl⟩
  have q2:Db _ (w.heap.size+1+1) A P N:=J9 hg Qk q;have g0:=q2.cell;refine⟨L #[C A P N],by simp[results,Tryz.results35,go_sem,g0],_,rfl,?_,?_⟩
  . exact LS hg Qk (ak.setB n5)
  . exact((Bt Qh.o ae).setCell (p:=⟨w.heap.size+1+1,0,none⟩) (by show w.heap.size<=w.heap.size+1+1;omega) _).trans (B7 (w:=w) (Aa _) _ D _ _ Qo Qd rfl rfl)
end M3
section
def Dv(a b:List Rat):Prop:=∃c:List Rat,∀x,ev b x=ev a x*ev c x
def DS(a b:List Rat):Prop:=∃u v:List Rat,∀x,ev u x*ev a x+ev v x*ev b x=1
section
variable {a b c d p q:List Rat}
theorem Dv.refl(a:List Rat):Dv a a:=⟨[1],λx=>by simp[ev];grind⟩
theorem Dv.trans(h:Dv a b)(d:Dv b c):Dv a c:=by
 obtain⟨u,e⟩:=h;obtain⟨v,f⟩:=d;exact⟨Jm u v,λx=>by rw[f,e,Jg];grind⟩
theorem Dv.zero(a:List Rat):Dv a []:=⟨[],λx=>by simp[ev]⟩
theorem Dv.mul(h:Dv a b)(c:List Rat):Dv a (Jm b c):=by
 obtain⟨u,d⟩:=h;exact⟨Jm u c,λx=>by rw[Jg,d,Jg];grind⟩
theorem Dv.mul'(h:Dv a b)(c:List Rat):Dv a (Jm c b):=by
 obtain⟨u,d⟩:=h;exact⟨Jm u c,λx=>by rw[Jg,d,Jg];grind⟩
theorem Dv.comb(h:Dv d a)(e:Dv d b)(u v:List Rat)(f:∀x,ev c x=ev u x*ev a x+ev v x*ev b x):Dv d c:=by
 obtain⟨s,g⟩:=h;obtain⟨t,i⟩:=e;exact⟨Xw (Jm u s) (Jm v t),λx=>by rw[f,g,i,YA,Jg,Jg];grind⟩
theorem Dv.of_sc{k:Rat}(c:k≠0)(h:Dv a b):Dv (DP k a) b:=by
 obtain⟨u,d⟩:=h;have e:(1/k)*k=1:=Ap c;exact⟨DP (1/k) u,λx=>by rw[d,JJ,JJ];grind⟩
theorem Dv.sc(h:Dv a b)(k:Rat):Dv a (DP k b):=by
 obtain⟨u,c⟩:=h;exact⟨DP k u,λx=>by rw[JJ,c,JJ];grind⟩
theorem DS.symm(h:DS a b):DS b a:=by
 obtain⟨u,v,h⟩:=h;exact⟨v,u,λx=>by rw[<-h x];grind⟩
theorem DS.of_dv(h:DS a b)(c:Dv d a):DS d b:=by
 obtain⟨u,v,h⟩:=h;obtain⟨s,e⟩:=c;exact⟨Jm u s,v,λx=>by rw[<-h x,e x,Jg];grind⟩
theorem DS.dv(h:DS a b)(e:Dv a (Jm b c)):Dv a c:=by
 obtain⟨u,v,h⟩:=h;obtain⟨k,f⟩:=e;refine⟨Xw (Jm u c) (Jm v k),λx=>?_⟩;have g:=h x;have d:=f x;rw[Jg]at d;rw[YA,Jg,Jg];grind
theorem DS.mul(h:DS a b)(d:DS a c):DS a (Jm b c):=by
 obtain⟨u,v,h⟩:=h;obtain⟨s,t,d⟩:=d;refine⟨Xw u (Jm (Jm v b) s),Jm v t,λx=>?_⟩;have e:=h x;have f:=d x;rw[YA,Jg,Jg,Jg,Jg];grind
theorem DS.unit(h:DS a b)(c:Dv a b):Dv a [1]:=by
 obtain⟨u,v,h⟩:=h;obtain⟨s,d⟩:=c;refine⟨Xw u (Jm v s),λx=>?_⟩;have e:=h x;have f:=d x;rw[YA,Jg];simp[ev];grind
end
theorem LU{p:List Rat}(x:Rat):ev (Jz p) x=ev p x*(1/cf p (p.length-1)):=JJ _ _ _
theorem bB:∀(n:Nat) (p q:List Rat),Jd p=p->Jd q=q->q.length<=n->Dv (D4 n p q) p/\Dv (D4 n p q) q/\∃u v:List Rat,∀x,ev (D4 n p q) x=ev u x*ev p x+ev v x*ev q x:=by
 intro n;induction n with
 |zero=>
  intro p q hp hq hl;have a:q=[]:=KL Y;subst a;rw[D4];refine⟨?_,Dv.zero _,[1/cf p (p.length-1)],[],λx=>by rw[LU];simp[ev];grind⟩;by_cases b:p=[]
  . subst b;exact Dv.refl _
  . exact Dv.of_sc (Ie (Jt hp b)) (Dv.refl _)
 |succ n g=>
  intro p q hp hq hl;by_cases a:q=[]
  . subst a;simp only[D4,BH];refine⟨?_,Dv.zero _,[1/cf p (p.length-1)],[],λx=>by rw[LU];simp[ev];grind⟩;by_cases b:p=[]
    . subst b;exact Dv.refl _
    . exact Dv.of_sc (Ie (Jt hp b)) (Dv.refl _)
  . simp only[D4,BB a];obtain⟨d,j,k,i⟩:=YO p q hq a;obtain⟨c,e,u,v,f⟩:=g q (JH p q) hq i Y;refine⟨c.comb e (Js p q) [1] (λx=>by rw[d x];simp[ev];grind),c,v,Yl u (Jm v (Js p q)),λx=>?_⟩;rw[f x,d x,Y0,Jg];grind
section
variable {p q d:List Rat}
theorem YB(hp:Jd p=p)(hq:Jd q=q):Dv (Jr p q) p/\Dv (Jr p q) q/\∃u v:List Rat,∀x,ev (Jr p q) x=ev u x*ev p x+ev v x*ev q x:=bB _ p q hp hq (Aa _)
theorem KS(hp:Jd p=p)(hq:Jd q=q)(a:Dv d p)(b:Dv d q):Dv d (Jr p q):=by
 obtain⟨_,_,u,v,h⟩:=YB hp hq;exact a.comb b u v h
theorem bC:∀(n:Nat) (p q:List Rat),Jd p=p->Jd q=q->q.length<=n->Jz (D4 n p q)=D4 n p q:=by
 intro n;induction n with
 |zero=>intro p q hp _ _;exact Ih hp
 |succ n b=>
  intro p q hp hq hl;rw[D4];split
  . exact Ih hp
  . rename_i a;have:=(YO p q hq a).2.1;exact b _ _ hq (Xb _ _) Y
theorem XT(hp:Jd p=p)(hq:Jd q=q):Jz (Jr p q)=Jr p q:=bC _ p q hp hq (Aa _)
end
variable{a b g p q:List Rat}
theorem YW(hp:Jd p=p)(h:∀x,ev p x=0):p=[]:=XA hp rfl (λx=>by rw[h x];rfl)
theorem Dv.some(d:Jd b=b)(h:Dv a b):∃c,Jd c=c/\b=Jm a c:=by
 obtain⟨c,e⟩:=h;exact⟨Jd c,J3 _,XA d (JY _ _) λx=>by rw[Jg,Xz,e]⟩
theorem Xc(a:List Rat):Jm a []=[]:=YW (JY _ _) λx=>by rw[Jg];simp[ev]
theorem Dv.anti(o:Jd a=a)(j:Jd b=b)(h:Dv a b)(r:Dv b a):∃k:Rat,k≠0/\b=DP k a:=by
 obtain⟨c,p,e⟩:=h.some j;obtain⟨d,s,i⟩:=r.some o;by_cases g:a=[]
 . refine⟨1,DI,?_⟩;rw[e,g];rfl
 . have n:b≠[]:=λf=>g (by rw[i,f];rfl);have m:c≠[]:=λf=>n (by rw[e,f];exact Xc _);have l:d≠[]:=λf=>g (by rw[i,f];exact Xc _);have l1:=JG o p g m;have l2:=JG j s n l;rw[<-e]at l1;rw[<-i]at l2;have u:0<c.length:=Af.2 m;have v:0<d.length:=Af.2 l;have w:0<a.length:=Af.2 g;have q:c.length=1:=Y
   match c,q with
   |[k],_=>
    have t:k≠0:=by
     have:=Jt p Z;simpa[YL]using this
    refine⟨k,t,XA j (JI _ _) λx=>?_⟩;rw[e,Jg,JJ];simp[ev];grind
theorem Dv.eq(c:Jd a=a)(f:Jd b=b)(ma:Jz a=a)(mb:Jz b=b)(h:Dv a b)(d:Dv b a):a=b:=by
 obtain⟨k,g,e⟩:=h.anti c f d;rw[<-mb,e,KN g c,ma]
theorem JP(e:Jd g=g)(a:g≠[])(h:Dv g p):JH p g=[]/\∀x,ev p x=ev g x*ev (Js p g) x:=by
 obtain⟨c,d⟩:=h;have b:=LO (p:=p) (u:=Jd c) (v:=[]) e a (J3 _) rfl (Af.2 a) (λx=>by rw[d,Xz];simp[ev];grind);refine⟨b.2.symm,λx=>?_⟩;rw[<-b.1,Xz,d]
theorem YC{u v:List Rat}(i:Jd g=g)(b:g≠[])(h:∀x,ev g x*ev u x=ev g x*ev v x):∀x,ev u x=ev v x:=by
 have d:Jm g (Yl u v)=[]:=YW (JY _ _) λx=>by rw[Jg,Y0];have:=h x;grind
 have e:Yl u v=[]:=by
  by_cases a:Yl u v=[]
  . exact a
  . exfalso
    have l:=JG i (Xq u v) b a;rw[d]at l;have j:0<g.length:=Af.2 b;have k:0<(Yl u v).length:=Af.2 a;simp at l;omega
 intro x;have c:=congrArg (λr=>ev r x) e;simp only[Y0]at c;have f:ev [] x=0:=rfl;rw[f]at c;grind
theorem LV(hp:Jd p=p)(hq:Jd q=q)(a:Jr p q≠[]):DS (Js p (Jr p q)) (Js q (Jr p q)):=by
 obtain⟨f,g,u,v,i⟩:=YB hp hq;have c:=JO p q;have d:=(JP c a f).2;have e:=(JP c a g).2;refine⟨u,v,?_⟩;have j:=YC (u:=Xw (Jm u (Js p (Jr p q))) (Jm v (Js q (Jr p q)))) (v:=[1]) c a (λx=>by
  rw[YA,Jg,Jg];have b:=i x;have k:=d x;have l:=e x;simp[ev];grind)
 intro x;have b:=j x;rw[YA,Jg,Jg]at b;rw[b];simp[ev];grind
theorem YM(hp:Jd p=p)(hq:Jd q=q)(h:p≠[]\/q≠[]):Jr p q≠[]:=λe=>by
 obtain⟨a,b,_⟩:=YB hp hq;rw[e]at a b;obtain⟨c,f⟩:=a;obtain⟨d,g⟩:=b;rcases h with h|h
 . exact h (YW hp λx=>by rw[f];simp[ev])
 . exact h (YW hq λx=>by rw[g];simp[ev])
end
section
variable {a b c d e f g k p q r u w y z R:List Rat}
theorem Yc(p q:List Rat)(x:Rat):ev (Jb (Jm p q)) x=ev (Jb p) x*ev q x+ev p x*ev (Jb q) x:=by
 rw[R1,YA,Jg,Jg]
theorem KT(p:List Rat)(i:Nat):cf (Jb p) i=cf p (i+1)*(((i+1:Nat):Int):Rat):=by
 unfold Jb;rw[Yd,IA];rfl
theorem QV(a:p≠[]):(Jb p).length<p.length:=by
 have b:0<p.length:=Af.2 a;have c:(Jb p).length<=p.length-1:=X5 (JF _) λi d=>by
  rw[KT,Yi Y,CC]
 omega
theorem bD(hp:Jd p=p)(h:Jb p=[]):p.length<=1:=by
 refine X5 hp λi d=>?_;obtain⟨j,rfl⟩:∃j,i=j+1:=⟨i-1,Y⟩;have b:=KT p j;rw[h,YG]at b;rcases Cj.1 b.symm with a|a
 . exact a
 . exfalso
   have c:((j+1:Nat):Int)=0:=by exact_mod_cast a
   omega
theorem KU(hp:Jd p=p)(a:p≠[])(hl:p.length<=1):Dv p [1]:=by
 have b:0<p.length:=Af.2 a;match p,hl,hp,a with
 |[c],_,hp,_=>
  have d:c≠0:=by
   have:=Jt hp Z;simpa[YL]using this
  exact⟨[1/c],λx=>by simp[ev];grind⟩
theorem NS(b:Jd u=u)(a:u≠[])(h:Dv u (Jb u)):Dv u [1]:=by
 refine KU b a (bD b ?_);obtain⟨c,i,e⟩:=h.some (JF u);by_cases f:Jb u=[]
 . exact f
 . exfalso
   have d:c≠[]:=λg=>f (by rw[e,g];exact Xc _);have l1:=JG b i a d;have l2:=QV a;have j:0<c.length:=Af.2 d;rw[<-e]at l1;omega
theorem Xo(f:Jd a=a)(g:Jd b=b)(c:a≠[])(d:b≠[]):Jm a b≠[]:=λe=>by
 have l:=JG f g c d;have i:0<a.length:=Af.2 c;have j:0<b.length:=Af.2 d;rw[e]at l;simp at l;omega
theorem bE(D:Jd d=d)(r:d≠[])(h:Dv d (Jm (Jb d) f)):∀(n:Nat) (u:List Rat),Jd u=u->d.length-u.length<=n->Dv u d->DS u f->Dv u [1]:=by
 intro n;induction n with
 |zero=>
  intro u b hl p l;obtain⟨m,o,e⟩:=p.some D;have a:u≠[]:=λg=>r (by rw[e,g];rfl);have w:m≠[]:=λg=>r (by rw[e,g];exact Xc _);have l1:=JG b o a w;rw[<-e]at l1;have p3:0<u.length:=Af.2 a;have R:m.length<=1:=Y
  have S:=KU o w R;have Q:Dv d u:=by
   obtain⟨c,j⟩:=S;refine⟨c,λx=>?_⟩;have y:=j x;rw[e,Jg,Rat.mul_assoc,<-y];simp[ev];grind
  have i:Dv u (Jm f (Jb d)):=by
   obtain⟨c,j⟩:=p.trans h;exact⟨c,λx=>by rw[<-j,Jg,Jg];grind⟩
  have z:=l.dv i;refine NS b a ?_;obtain⟨k,hk,T⟩:=Q.anti D b p;have A:Jb u=DP k (Jb d):=by
   refine XA (JF _) (JI _ _) λx=>?_;rw[T,JJ];have B:DP k d=Jm d [k]:=XA (JI _ _) (JY _ _) λx=>by rw[JJ,Jg];simp[ev];grind
   rw[B,Yc];have M:ev (Jb [k]) x=0:=by rw[Xr];simp[dv,ev];grind
   rw[M];simp[ev];grind
  rw[A];exact z.sc k
 |succ n ih=>
  intro u b hl p l;obtain⟨m,o,e⟩:=p.some D;have a:u≠[]:=λg=>r (by rw[e,g];rfl);have w:m≠[]:=λg=>r (by rw[e,g];exact Xc _);obtain⟨U,V,s,t,W⟩:=YB b o;have K:=YM b o (Or.inl a);have H:=JO u m;by_cases X:(Jr u m).length<=1
  . obtain⟨c,j⟩:=KU H K X;have P:DS u m:=⟨Jm s c,Jm t c,λx=>by
     have y:=j x;have i:=W x;rw[Jg,Jg];have z:ev [1] x=1:=by simp[ev];grind
     rw[z]at y;grind⟩
    have i:Dv u (Jm f (Jm m (Jb u))):=by
     obtain⟨v,q⟩:=h;refine⟨Yl (Jm m v) (Jm f (Jb m)),λx=>?_⟩;have A:=q x;have B:=Yc u m x;rw[<-e]at B;have M:ev d x=ev u x*ev m x:=by rw[e,Jg]
     rw[Jg]at A;rw[Jg,Jg,Y0,Jg,Jg];grind
    exact NS b a (P.dv (l.dv i))
  . have N:Dv (Jm u (Jr u m)) d:=by
     obtain⟨v,q⟩:=V;exact⟨v,λx=>by rw[e,Jg,q,Jg];grind⟩
    have l1:=JG b H a K;have p3:0<u.length:=Af.2 a;have i:=ih (Jm u (Jr u m)) (JY _ _) Y N (l.symm.mul (l.of_dv U).symm).symm;obtain⟨v,q⟩:=i;exact⟨Jm (Jr u m) v,λx=>by rw[q,Jg,Jg];grind⟩
structure Yun(R w y:List Rat):Prop where
 tR:Jd R=R
 R0:R≠[]
 tw:Jd w=w
 w0:w≠[]
 mw:Jz w=w
 ty:Jd y=y
 eq:∀x,ev y x*ev R x=ev w x*ev (Jb R) x
 cop:DS w y
theorem Yun.dv(h:Yun R w y):Dv w R:=by
 refine h.cop.dv ⟨Jb R,λx=>?_⟩;rw[Jg,h.eq]
theorem KV(f:Jd w=w)(w0:w≠[])(mw:Jz w=w)(d:Jd g=g)(p:Jz g=g)(h:Dv g w):Jz (Js w g)=Js w g/\g≠[]/\Js w g≠[]/\w=Jm g (Js w g):=by
 have a:g≠[]:=λe=>w0 (by
  obtain⟨c,m⟩:=h;exact YW f λx=>by rw[m,e];simp[ev])
 have e:=(JP d a h).2;have b:w=Jm g (Js w g):=XA f (JY _ _) λx=>by rw[Jg,<-e]
 have q0:Js w g≠[]:=λj=>w0 (by rw[b,j];exact Xc _);refine⟨?_,a,q0,b⟩;have l:=JG d (Yq w g) a q0;have r:0<g.length:=Af.2 a;have q:0<(Js w g).length:=Af.2 q0;have i:cf w (w.length-1)=cf g (g.length-1)*cf (Js w g) ((Js w g).length-1):=by
  obtain⟨Q,k⟩:=ex (Js w g);rw[k]at b l q ⊢;rw[b,l,show g.length+Q.length-1-1=(g.length-1)+(Q.length-1)by omega];unfold Jm;rw[Yd];exact Lm g Q (g.length-1) (Q.length-1) Y Y
 have o:cf w (w.length-1)=1:=by have:=NJ f w0;rwa[mw]at this
 have n:cf g (g.length-1)=1:=by have:=NJ d a;rwa[p]at this
 rw[o,n,CG]at i;unfold Jz;rw[<-i,show(1:Rat)/1=1 by grind];exact Gu (Yq _ _)
theorem Yun.step(h:Yun R w y):Jr w (Js R w)=Js w (Jr w (Yl y (Jb w)))/\Js w (Jr w (Js R w))=Jr w (Yl y (Jb w))/\
 Yun (Js R w) (Js w (Jr w (Yl y (Jb w)))) (Js (Yl y (Jb w)) (Jr w (Yl y (Jb w))))/\R=Jm w (Js R w)/\
 (∀x,ev (Yl y (Jb w)) x*ev (Js R w) x=ev w x*ev (Jb (Js R w)) x)/\w=Jm (Jr w (Yl y (Jb w))) (Js w (Jr w (Yl y (Jb w)))):=by
 obtain⟨r,hr⟩:=ex (Js R w);obtain⟨z,N⟩:=ex (Yl y (Jb w));have tr:Jd r=r:=by rw[<-hr];exact Yq _ _
 have U:Jd z=z:=by rw[<-N];exact Xq _ _
 have eR:∀x,ev R x=ev w x*ev r x:=by rw[<-hr];exact(JP h.tw h.w0 h.dv).2
 have V:R=Jm w r:=XA h.tR (JY _ _) λx=>by rw[Jg,eR]
 have r0:r≠[]:=λe=>h.R0 (by rw[V,e];exact Xc _);have Qf:∀x,ev z x*ev r x=ev w x*ev (Jb r) x:=by
  have b:=YC (g:=w) (u:=Jm z r) (v:=Jm w (Jb r)) h.tw h.w0 (λx=>by
   have a:=h.eq x;have i:=Yc w r x;rw[<-V]at i;rw[Jg,Jg,<-N,Y0];have K:=eR x;grind)
  intro x;have a:=b x;rwa[Jg,Jg]at a
 have X:=JF r;obtain⟨d,B⟩:=ex (Jr r (Jb r));have H:Jd d=d:=by rw[<-B];exact JO _ _
 have d0:d≠[]:=by rw[<-B];exact YM tr X (Or.inl r0)
 obtain⟨g1,g2,_⟩:=YB tr X;rw[B]at g1 g2;obtain⟨f,hf⟩:=ex (Js r d);obtain⟨e,he⟩:=ex (Js (Jb r) d);have q:∀x,ev r x=ev d x*ev f x:=by rw[<-hf];exact(JP H d0 g1).2
 have ee:∀x,ev (Jb r) x=ev d x*ev e x:=by rw[<-he];exact(JP H d0 g2).2
 have tf:Jd f=f:=by rw[<-hf];exact Yq _ _
 have f0:f≠[]:=λe2=>r0 (YW tr λx=>by rw[q,e2];simp[ev]);have Qi:DS f e:=by
  have:=LV tr X (by rw[B];exact d0);rwa[B,hf,he]at this
 have Qh:∀x,ev z x*ev f x=ev w x*ev e x:=by
  have b:=YC (g:=d) (u:=Jm z f) (v:=Jm w e) H d0 (λx=>by
   have a:=Qf x;rw[q,ee]at a;rw[Jg,Jg];grind)
  intro x;have a:=b x;rwa[Jg,Jg]at a
 have Qg:Dv f w:=Qi.dv (⟨z,λx=>by rw[Jg];have:=Qh x;grind⟩);obtain⟨k,tk,ek⟩:=Qg.some h.tw;have j:∀x,ev w x=ev f x*ev k x:=λx=>by rw[ek,Jg]
 have W:∀x,ev z x=ev k x*ev e x:=by
  have b:=YC (g:=f) (u:=z) (v:=Jm k e) tf f0 (λx=>by
   have a:=Qh x;rw[j]at a;rw[Jg];grind)
  intro x;have a:=b x;rwa[Jg]at a
 obtain⟨P,l⟩:=ex (Jr w z);have m:Jd P=P:=by rw[<-l];exact JO _ _
 have mP:Jz P=P:=by rw[<-l];exact XT h.tw U
 obtain⟨S,p2,_⟩:=YB h.tw U;have Qo:Dv k P:=by rw[<-l];exact KS h.tw U ⟨f,λx=>by rw[j];grind⟩ ⟨e,W⟩
 rw[l]at S p2;have Qm:Dv P k:=by
  obtain⟨u,v,D⟩:=Qi;refine S.comb p2 u v λx=>?_;have b:=D x;rw[j,W];grind
 obtain⟨m1,p,Q,eW⟩:=KV h.tw h.w0 h.mw m mP S;have zP:=(JP m p p2).2;have o:=(JP m p S).2;have Ql:DS k y:=h.cop.of_dv ⟨f,λx=>by rw[j];grind⟩;have Qq:DS k f:=by
  obtain⟨u,v,D⟩:=Ql;refine⟨Xw u (Jm v (Xw e (Jb f))),Jm v (Jb k),λx=>?_⟩;have b:=D x;have a:ev y x=ev z x+ev (Jb w) x:=by rw[<-N,Y0];grind
  have i:=Yc f k x;rw[<-ek]at i;have K:=W x;rw[YA,Jg,Jg,YA];grind
 have Qj:Dv d (Jm (Jb d) f):=by
  refine⟨Yl e (Jb f),λx=>?_⟩;have b:r=Jm d f:=XA tr (JY _ _) λx=>by rw[Jg,q]
  have a:=Yc d f x;rw[<-b,ee]at a;rw[Jg,Y0];grind
 have Qp:DS k d:=by
  obtain⟨q1,q2,s,t,q3⟩:=YB tk H;obtain⟨c,A⟩:=bE H d0 Qj (d.length) (Jr k d) (JO _ _) Y q2 (Qq.of_dv q1);refine⟨Jm s c,Jm t c,λx=>?_⟩;have b:=A x;have a:=q3 x;have i:ev [1] x=1:=by simp[ev];grind
  rw[i]at b;rw[Jg,Jg];grind
 obtain⟨c1,c2,s,t,c3⟩:=YB h.tw tr;have Qk:Dv f (Jr w r):=KS h.tw tr Qg ⟨d,λx=>by rw[q];grind⟩;have Qs:Dv (Jr w r) f:=by
  obtain⟨u,v,D⟩:=Qp;refine c1.comb c2 u v λx=>?_;have b:=D x;rw[j,q];grind
 obtain⟨n,M⟩:=ex (Js w P);rw[M]at m1 Q eW o;have T:Jd n=n:=by rw[<-M];exact Yq _ _
 have Qt:Dv f n:=by
  obtain⟨c,A⟩:=Qm;refine⟨c,λx=>?_⟩;have b:=YC (g:=P) (u:=n) (v:=Jm f c) m p (λx=>by
   have a:=o x;have i:=j x;have K:=A x;rw[Jg];grind)
  have a:=b x;rwa[Jg]at a
 have Qn:Dv n f:=by
  have k0:k≠[]:=λe2=>h.w0 (by rw[ek,e2];exact Xc _);obtain⟨c,A⟩:=Qo;refine⟨c,λx=>?_⟩;have b:=YC (g:=k) (u:=f) (v:=Jm n c) tk k0 (λx=>by
   have a:=o x;have i:=j x;have K:=A x;rw[Jg];grind)
  have a:=b x;rwa[Jg]at a
 have hG:Jr w r=n:=Dv.eq (JO _ _) T (XT h.tw tr) m1 (Qs.trans Qt) (Qn.trans Qk);have Qr:Dv n w:=⟨P,λx=>by rw[o];grind⟩;have Qb:Js w n=P:=by
  refine XA (Yq _ _) m λx=>?_;have b:=(JP T Q Qr).2;refine YC (g:=n) (u:=Js w n) (v:=P) T Q (λx=>?_) x;have a:=b x;have i:=o x;grind
 rw[hr,N,l,M];refine⟨hG,by rw[hG];exact Qb,⟨tr,r0,T,Q,m1,Yq _ _,λx=>?_,?_⟩,V,Qf,eW⟩
 . refine(YC (g:=P) (u:=Jm (Js z P) r) (v:=Jm n (Jb r)) m p (λx=>?_) x |> λb=>by rwa[Jg,Jg]at b);have a:=Qf x;have i:=zP x;have K:=o x;rw[Jg,Jg];grind
 . have:=LV h.tw U (by rw[l];exact p);rwa[l,M]at this
theorem Yun.start(tp:Jd p=p)(p0:p≠[])(i:Jz p=p):Yun p (Js p (Jr p (Jb p))) (Js (Jb p) (Jr p (Jb p))):=by
 have ts:=JF p;obtain⟨b,f,_⟩:=YB tp ts;have a:=YM tp ts (Or.inl p0);obtain⟨g,_,j,e⟩:=KV tp p0 i (JO _ _) (XT tp ts) b;have c:=(JP (JO p (Jb p)) a b).2;have d:=(JP (JO p (Jb p)) a f).2;refine⟨tp,p0,Yq _ _,j,g,Yq _ _,λx=>?_,LV tp ts a⟩;have k:=c x;have l:=d x;grind
end
section
open Go.RowKit Go.Shelf
def Cd(M:Nat)(p:List Rat):Prop:=∃D:Int,D≠0/\Sm M D/\D8 D M p
section
variable {M N:Nat} {p q:List Rat}
theorem Cd.mono(h:Cd M p)(a:M<=N):Cd N p:=by
 obtain⟨D,d1,b,c⟩:=h;exact⟨D,d1,b.mono a,λi=>(c i).mono a⟩
theorem Cd.smq(h:Cd M p)(i:Nat):DT M (cf p i):=by
 obtain⟨D,d1,a,b⟩:=h;exact(b i).smq d1 a
theorem Cd.ln(h:Cd M p):Ln M p:=by
 obtain⟨D,d1,b,a⟩:=h;exact a.ln d1
theorem Cd.sqs(h:Cd M p)(a:M<=1000000000):Sqs p:=Sqs.of λi=>Sq.of (h.smq i) a
theorem Cd.pos(h:Cd M p):1<=M:=by
 obtain⟨D,d1,a,_⟩:=h;by_cases b:1<=M
 . exact b
 . exfalso
   obtain rfl:M=0:=Y
   unfold Sm at a
   have:D.natAbs≠0:=Int.natAbs_ne_zero.2 d1
   simp at a;omega
theorem Cd.monS(h:Cd M p)(tp:Jd p=p)(b:M<=1000000000)(i:Nat):Sq (cf p i/cf p (p.length-1)):=by
 have a:=Ln.sqs tp h.ln h.pos i;unfold Jz at a;rw[Yk,Fi,CG,<-Fi]at a;exact Sq.of a b
theorem Cd.dvn(h:Cd M p)(f:Cd M q)(g:cf q (q.length-1)=1):∃D E:Int,Dvn D E E M M p q:=by
 obtain⟨D,d1,c,d⟩:=h;obtain⟨E,a,b,e⟩:=f;exact⟨D,E,d1,c,d,a,b,e,a,b,by rw[g,Rat.divInt_self' a]⟩
theorem Cd.quo(h:Cd M p)(e:Cd M q)(b:cf q (q.length-1)=1):Cd ((p.length+1)*(M+1)) (Js p q)/\Cd ((p.length+1)*(M+1)) (JH p q):=by
 obtain⟨D,E,d⟩:=h.dvn e b;obtain⟨m,b⟩:=ex (p.length-(q.length-1));have a:=d.den m;have c:=d.rem b;have f:m*(M+1)<=p.length*(M+1):=Ah _ Y;have g:(p.length+1)*(M+1)=p.length*(M+1)+(M+1):=by rw[AD,CA]
 exact⟨⟨_,a.1,a.2.mono Y,λi=>(c.2 i).mono Y⟩,⟨_,a.1,a.2.mono Y,λi=>(c.1 i).mono Y⟩⟩
end
variable{q:List Rat}
theorem KW(tq:Jd q=q)(q0:q≠[])(a:Jz q=q):cf q (q.length-1)=1:=by
 have:=NJ tq q0;rwa[a]at this
def EA(p q:List Rat):List Rat:=if q=[]then []else Js p q
theorem bF(p q:List Rat):Jd (EA p q)=EA p q:=by
 unfold EA;split
 . rfl
 . exact Yq _ _
theorem Cd.ov{M:Nat}{p:List Rat}(h:Cd M p)(b:Cd M q)(tq:Jd q=q)(c:Jz q=q):Cd ((p.length+1)*(M+1)) (EA p q):=by
 unfold EA;split
 . refine(show Cd 1 []from QJ Y).mono ?_
   have:1*1<=(p.length+1)*(M+1):=Cq Y Y
   omega
 . rename_i a;exact(h.quo b (KW tq a c)).1
def GZ(p:List Rat):List Rat:=Jz (EA p (Jr p (Jb p)))
namespace M3
variable{p q:List Rat}{K:Nat}
theorem Chn.ends(d:ChOk K p q):∀(n:Nat) (a b:List Rat),b.length<=n->Chn p q (DX K p q) a b->∃r,Chn p q (DX K p q) r []:=by
 intro n;induction n with
 |zero=>
  intro a b hl h;have c:b=[]:=KL Y;subst c;exact⟨a,h⟩
 |succ n e=>
  intro a b hl h;by_cases c:b=[]
  . subst c;exact⟨a,h⟩
  . have f:=YS (a:=a) h.tb c;exact e b (YK a b) Y (Chn.next d.tp d.tq d.lp d.lq d.bd.2.2.1 h c)
theorem ChOk.gcd(a:ChOk K p q):Cd (DX K p q) (Jr p q):=by
 obtain⟨r,b⟩:=Chn.ends a _ _ _ (Aa _) (Chn.start a.tp a.tq a.lp a.lq a.bd.2.2.1);rw[<-b.gc,P9];exact QK b.ta b.wa.ln a.bd.2.2.2
theorem bG(M:Nat)(v:I)(p:List Rat)(w:G)(h:Je w v p)(tp:Jd p=p)(b:Cd M p)(a:M<=1000000000):
 Calls Tryz.prog 88 #[v] w λe c=>∃u,e=.returned u/\Je c u (Jz p)/\Bl w c:=
 QQ v p w h (b.sqs a) tp λi=>b.monS tp a i
theorem bH(M:Nat)(a b:I)(p q:List Rat)(w:G)(d:Je w a p)(f:Je w b q)(hp:Cd M p)(hq:Cd M q)(tp:Jd p=p)(tq:Jd q=q)(j:Jz q=q)(n:2*((p.length+3)*(M+1))<=1000000000):
 Calls Tryz.prog 139 #[a,b] w λe c=>∃u v,e=.returned (.tuple #[u,v,.bool (decide (q≠[]))])/\Je c u (if q=[]then []else Js p q)/\Je c v (if q=[]then []else JH p q)/\Bl w c:=by
 have k:(p.length+3)*(M+1)=p.length*(M+1)+3*(M+1):=AD _ _ _;refine P1 M a b p q w d f (hp.sqs Y) hq.smq tp tq λq0=>?_;obtain⟨D,E,g⟩:=hp.dvn hq (KW tq q0 j);obtain⟨m,i⟩:=ex (p.length-(q.length-1));have l:m*(M+1)<=p.length*(M+1):=Ah _ Y;rw[i];exact g.sizes Y
attribute [local go_sem] Oper.semAt_some
theorem bI(M:Nat)(T U:I)(p q:List Rat)(w:G)(y:Je w T p)(z:Je w U q)(hp:Cd M p)(hq:Cd M q)(tp:Jd p=p)(tq:Jd q=q)(S:Jz q=q)(N:2*((p.length+3)*(M+1))<=1000000000):
 Calls Tryz.prog 89 #[T,U] w λe V=>∃u,e=.returned u/\Je V u (EA p q)/\Bl w V:=by
 obtain⟨k,la,l,rfl⟩:=y.form;obtain⟨m,lb,n,rfl⟩:=z.form;have s:=(((Mem.nil w).push (.cell 25 (C k la l)) (cs:=#[C k la l]) ⟨rfl,rfl⟩).push (.cell 25 (C m lb n)) (cs:=#[C m lb n]) ⟨rfl,rfl⟩).push (.cell 25 (C none 0 0)) (cs:=#[C none 0 0]) ⟨rfl,rfl⟩;simp only[Ax]at s;obtain⟨W0,t⟩:=ex (((w.alloc (F #[C k la l] 25)).alloc (F #[C m lb n] 25)).alloc (F #[C none 0 0] 25));have D:=Ja t;have a:Hid (Mem w W0 [some (w.heap.size,.cell 25 (C k la l)),some (w.heap.size+1,.cell 25 (C m lb n)),some (w.heap.size+1+1,.cell 25 (C none 0 0))]):=Ja (by rw[<-t];exact s);have r:=Ja (bH M _ _ p q W0 (y.below a.o.2.2) (z.below a.o.2.2) hp hq tp tq S N);obtain⟨bq,P⟩:=ex (decide (q≠[]));rw[P,show(if q=[]then []else Js p q)=EA p q from rfl]at r;have c0:=(a.o.cell (i:=0) rfl).1.cell;have c1:=(a.o.cell (i:=1) rfl).1.cell;have n1:=(a.o.cell (i:=2) rfl).1;have B:=Ja a.o.2.2;clear s t y z hp hq tp tq S N P a;go_enter Tryz.func89,Tryz.ntmps89
 go_upto_region 1 with fail
 rw[D.o];clear D;go_upto_region 2 with(go_at_call 139;refine r.o.mono ?_;clear r;rintro e o ⟨u4,v4,rfl,A,Q,g⟩;obtain⟨b,d,c,rfl⟩:=A.form;obtain⟨H,R,K,rfl⟩:=Q.form)
 have f:Bl o ((o.alloc (F #[C b d c] 25)).alloc (F #[C H R K] 25)):=(Ba o _).alloc (by rw[Ax];omega) _;have nb:=(BI o 25 (C b d c)).alloc (F #[C H R K] 25);have e5:=nb.cell;have j:=boxed_below (boxed_below n1 g) f;have x0:=j.cell;have x1:=j.frozen;have X:=Ja (KP j (x:=C b d c) (A.below f));have W:=Ja (((Bt B.o g).trans (f.mono (An B.o.size g.size))).setCell (p:=⟨w.heap.size+1+1,0,none⟩) (by show w.heap.size<=w.heap.size+1+1;omega) (C b d c));clear c0 c1 A Q g nb j f;go_wp2_with fail
 exact BA (v:=L #[C b d c]) (by simp[results,Tryz.results89,go_sem,x0]) rfl ⟨_,rfl,X.o,W.o⟩
structure FrOk(K:Nat)(p:List Rat):Prop where
 ch:ChOk K p (Jb p)
 le:(p.length+3)*(DX K p (Jb p)+1)*2<=1000000000
theorem FrOk.cd(h:FrOk K p):Cd (DX K p (Jb p)) p:=(show Cd K p from h.ch.cp).mono (by have:=LQ K p (Jb p);omega)
theorem FrOk.sl(h:FrOk K p)(i:Nat):Sq (GM p i):=by
 have b:=(show Cd K (Jb p)from h.ch.cq).sqs h.ch.bd.2.1;have a:=b.at i;unfold Jb at a;rwa[Yd,IA]at a
theorem bJ(K:Nat)(v:I)(p:List Rat)(w:G)(h:Je w v p)(m:FrOk K p):
 Calls Tryz.prog 36 #[v] w λe w'=>∃u,e=.returned u/\Je w' u (GZ p)/\Bl w w':=by
 have Qi:Tryz.prog.follows .mixedOrders=true:=by kernel_rfl
 obtain⟨j,la,k,rfl⟩:=h.form;have M0:=((Mem.nil w).push (.cell 25 (C j la k)) (cs:=#[C j la k]) ⟨rfl,rfl⟩).push (.poly []) (cs:=#[C none 0 0]) (Ik _);simp only[Ax]at M0;obtain⟨W0,ae⟩:=ex ((w.alloc (F #[C j la k] 25)).alloc (F #[C none 0 0] 25));have Qc:=Ja ae;have h9:=m.le;have h8:=m.ch.bd;have h7:(p.length+3)*(DX K p (Jb p)+1)=(p.length+1)*(DX K p (Jb p)+1)+2*(DX K p (Jb p)+1):=by rw[<-AD]
 have Qa:=m.ch.gcd;have Qb:=XT m.ch.tp m.ch.tq;obtain⟨Qe,Qj,Qf,Qd⟩:=Dt (λ(V:G) (P:Bl w V)=>P2 (L #[C j la k]) p V (h.below P) (m.cd.sqs h8.1) m.sl) (λ(V:G) (P:Bl w V) (y:I) (R:Je V y (Jb p))=>QU K (L #[C j la k]) y p (Jb p) V (h.below P) R m.ch) (λ(V:G) (P:Bl w V) (y:I) (R:Je V y (Jr p (Jb p)))=>bI (DX K p (Jb p)) (L #[C j la k]) y p (Jr p (Jb p)) V (h.below P) R m.cd Qa m.ch.tp (JO _ _) Qb Y) λ(V:G) (y:I) (R:Je V y (EA p (Jr p (Jb p))))=>bG ((p.length+1)*(DX K p (Jb p)+1)) y (EA p (Jr p (Jb p))) V R (bF _ _) (m.cd.ov Qa (JO _ _) Qb) Y;rw[show Jz (EA p (Jr p (Jb p)))=GZ p from rfl]at Qd;have M1:Hid (Mem w W0 [some (w.heap.size,.cell 25 (C j la k)),some (w.heap.size+1,.poly ([]))]):=Ja (by rw[<-ae];exact M0);clear M0 ae h m h9 h8 h7 Qa Qb;go_enter Tryz.func36,Tryz.ntmps36
 go_upto_region 1 with fail
 rw[Qc.o];clear Qc;refine Jp Qi [[],[],[],[2],[1,3,3],[0,4,4],[5,5],[6,6,0,1,2,3,4,5,6]] (by kernel_rfl) DI
  (λD ad V=>∃(ta tb T U W X ti:I) (S:Option (Nat × Dat)),ad={ tmps:=#[L #[C j la k],E (some ⟨w.heap.size,0,none⟩),E (some ⟨w.heap.size+1,0,none⟩),ta,tb,T,U,W,X,ti],defers:=[] }/\Hid ((D 0=true->ta=L #[C j la k])/\(D 1=true->tb=L #[C j la k])/\(D 2=true->T=L #[C j la k])/\(D 3=true->Has V U (.poly (Jb p)))/\(D 4=true->Has V W (.poly (Jr p (Jb p))))/\(D 5=true->Has V X (.poly (EA p (Jr p (Jb p)))))/\(D 6=true->Has V ti (.poly (GZ p)))/\((D 7=false->S=some (w.heap.size+1,.poly ([])))/\(D 7=true->S=some (w.heap.size+1,.poly (GZ p)))))/\Hid (Mem w V [some (w.heap.size,.cell 25 (C j la k)),S]))
  ⟨_,_,_,_,_,_,_,_,rfl,Ja ⟨Z,Z,Z,Z,Z,Z,Z,⟨λ_=>rfl,Z⟩⟩,Ja (M1.o).drew⟩ ?step1 ?fin1
 case step1=>
  rintro D ad V i ds ah hi g af ⟨ta,tb,T,U,W,X,ti,S,rfl,b,f⟩;have ai:i<8:=(Ad.1 hi).1;obtain rfl|rfl|rfl|rfl|rfl|rfl|rfl|rfl:=Le i Y
  all_goals
   simp only[Aj,Ai,Ak]at hi;subst hi
  . have e0:=(f.o.cell (i:=0) rfl).1.cell;clear g;refine Za ?_;exact⟨_,_,_,_,_,_,_,_,rfl,(De b),Ja (f.o)⟩
  . have e0:=(f.o.cell (i:=0) rfl).1.cell;clear g;refine Za ?_;exact⟨_,_,_,_,_,_,_,_,rfl,(Dl b),Ja (f.o)⟩
  . have e0:=(f.o.cell (i:=0) rfl).1.cell;clear g;refine Za ?_;exact⟨_,_,_,_,_,_,_,_,rfl,(Da b),Ja (f.o)⟩
  . obtain rfl:=(b.o.2.2.1 (g 2 Z));have H:=Ja (Qe.o V f.o.2.2);clear g;refine Jc rfl rfl λK hK=>?_;go_simp;go_wp2_with(go_at_call 38;refine H.o.mono ?_;rintro e w5 ⟨v5,rfl,M,d⟩)
    obtain⟨o,q,_,_,x,z,A,B⟩:=b.o;exact⟨_,_,_,_,_,_,_,_,rfl,Ja ⟨o,q,λ_=>rfl,λ_=>M,λh=>(x h).below d,λh=>(z h).below d,λh=>(A h).below d,B⟩,Ja (f.o.below d)⟩
  . obtain rfl:=(b.o.2.1 (g 1 Z));have N:=(b.o.2.2.2.1 (g 3 Z));have H:=Ja (Qj.o V f.o.2.2 _ N);clear g N;refine Jc rfl rfl λK hK=>?_;go_simp;go_wp2_with(go_at_call 35;refine H.o.mono ?_;rintro e w5 ⟨v5,rfl,M,d⟩)
    obtain⟨o,_,s,t,_,z,A,B⟩:=b.o;exact⟨_,_,_,_,_,_,_,_,rfl,Ja ⟨o,λ_=>rfl,s,λh=>(t h).below d,λ_=>M,λh=>(z h).below d,λh=>(A h).below d,B⟩,Ja (f.o.below d)⟩
  . obtain rfl:=(b.o.1 (g 0 Z));have N:=(b.o.2.2.2.2.1 (g 4 Z));have H:=Ja (Qf.o V f.o.2.2 _ N);clear g N;refine Jc rfl rfl λK hK=>?_;go_simp;go_wp2_with(go_at_call 89;refine H.o.mono ?_;rintro e w5 ⟨v5,rfl,M,d⟩)
    obtain⟨_,q,s,t,x,_,A,B⟩:=b.o;exact⟨_,_,_,_,_,_,_,_,rfl,Ja ⟨λ_=>rfl,q,s,λh=>(t h).below d,λh=>(x h).below d,λ_=>M,λh=>(A h).below d,B⟩,Ja (f.o.below d)⟩
  . have h0:=((Du b) (g 5 Z));have H:=Ja (Qd.o V _ h0);clear g h0;refine Jc rfl rfl λK hK=>?_;go_simp;go_wp2_with(go_at_call 88;refine H.o.mono ?_;rintro e w5 ⟨v5,rfl,M,d⟩)
    obtain⟨o,q,s,t,x,z,_,B⟩:=b.o;exact⟨_,_,_,_,_,_,_,_,rfl,Ja ⟨o,q,s,λh=>(t h).below d,λh=>(x h).below d,λh=>(z h).below d,λ_=>M,B⟩,Ja (f.o.below d)⟩
  . obtain rfl:=Ee b af;have hv:=((EC b) (g 6 Z));obtain⟨a1,l1,c1,rfl⟩:=Je.form (show Je V _ _ from hv);obtain⟨a,l,c,n,r⟩:=f.o.poly2 (i:=1) rfl;have e0:=n.cell;have f0:=n.frozen;clear g;refine Za ?_;obtain⟨o,q,s,t,x,z,A,_⟩:=b.o;exact⟨_,_,_,_,_,_,_,_,rfl,Ja ⟨o,q,s,λh=>(t h).set1 n rfl _,λh=>(x h).set1 n rfl _,λh=>(z h).set1 n rfl _,λh=>(A h).set1 n rfl _,⟨λh=>by simp at h,λ_=>rfl⟩⟩,Ja (f.o.putPoly (i:=1) rfl hv)⟩
 rintro D ad V2 Q ⟨ta,tb,T,U,W,X,ti,S,rfl,b,f⟩;obtain rfl:=b.o.2.2.2.2.2.2.2.2 (Q 7 DI);obtain rfl:=b.o.1 (Q 0 DI);obtain rfl:=b.o.2.1 (Q 1 DI);obtain rfl:=b.o.2.2.1 (Q 2 DI);clear b Q M1;have M2:Hid (Mem w V2 [some (w.heap.size,.cell 25 (C j la k)),some (w.heap.size+1,.poly (GZ p))]):=f;clear f;obtain⟨a3,l3,c3,n3,r3⟩:=M2.o.poly2 (i:=1) rfl;have Qh:=n3.cell;have Qg:=Ja M2.o.2.2;go_wp2_with fail
 exact BA (v:=L #[C a3 l3 c3]) (by simp[results,Tryz.results36,go_sem,Qh]) rfl ⟨_,rfl,r3,Qg.o⟩
end M3
end
section
open Go.RowKit Go.Shelf
attribute [local go_sem] Oper.semAt_some
theorem _root_.Go.Boxed.bel{W W':G}{B:Nat}{t:TypeId}{v:I}(h:Boxed W B t v)(a:Bl W W'):Boxed W' B t v:=(a.block B h.lt).trans h
end
section
open Go.RowKit Go.Shelf
variable{p q:List Rat}{A K:Nat}
theorem Cd.dvnG(h:Cd K p)(i:Cd A q)(tq:Jd q=q)(q0:q≠[]):∃D E l:Int,Dvn D E l K A p q:=by
 obtain⟨D,d1,c,d⟩:=h;obtain⟨E,f,g,a⟩:=i;obtain⟨n,b,j⟩:=a (q.length-1);refine⟨D,E,n,d1,c,d,f,g,a,λe=>?_,j,b⟩;exact Jt tq q0 (by rw[b,e];simp)
theorem Cd.quoG(h:Cd K p)(c:Cd A q)(tq:Jd q=q)(q0:q≠[]):Cd (K+p.length*(A+1)+1) (Js p q):=by
 obtain⟨D,E,l,b⟩:=h.dvnG c tq q0;obtain⟨m,e⟩:=ex (p.length-(q.length-1));have a:=b.den m;have d:=b.rem e;have f:m*(A+1)<=p.length*(A+1):=Ah _ Y;exact⟨_,a.1,a.2.mono Y,λi=>(d.2 i).mono Y⟩
namespace M3
theorem bK(K A:Nat)(a b:I)(p q:List Rat)(w:G)(d:Je w a p)(f:Je w b q)(hp:Cd K p)(hq:Cd A q)(tp:Jd p=p)(tq:Jd q=q)(q0:q≠[])(k:2*(K+p.length*(A+1)+1)+2*(2*A+1)<=1000000000):
 Calls Tryz.prog 139 #[a,b] w λe c=>∃u v,e=.returned (.tuple #[u,v,.bool true])/\Je c u (Js p q)/\Je c v (JH p q)/\Bl w c:=by
 obtain⟨D,E,l,g⟩:=hp.dvnG hq tq q0;obtain⟨m,i⟩:=ex (p.length-(q.length-1));have j:m*(A+1)<=p.length*(A+1):=Ah _ Y;refine QM A a b p q w d f (hp.sqs Y) hq.smq tp tq q0 ?_;rw[i];exact g.sizes Y
attribute [local go_sem] Oper.semAt_some
end M3
end
theorem LW{a b:Rat}(c:0<a)(d:0<b):∃e,0<e/\e<=a/\e<=b:=by
 rcases Yt a b with h|h
 . exact⟨a,c,Rat.le_refl,h⟩
 . exact⟨b,d,h,Rat.le_refl⟩
theorem bL{w:List Rat}(tw:Jd w=w)(w0:w≠[])(hl:w.length<=1)(x y:Rat):Dg w x y:=by
 match w,w0,hl with
 |[c],_,_=>
  have c0:c≠0:=by
   have:=Jt tw Z;simpa[cf]using this
  exact Iw c0 (λx=>Jy c x) x y
theorem QW:∀(n:Nat) (R w y:List Rat),R.length<=n->Yun R w y->∀ {B:Rat},0<=B->∃k,0<k/\Sh B λx z=>¬Dg w x z->k<=ev y x*ev (Jb w) x/\k<=ev y z*ev (Jb w) z:=by
 intro n;induction n with
 |zero=>intro R w y hn h;exact absurd (AM.1 Y) h.R0
 |succ n ih=>
  intro R w y hn h B i;by_cases hl:w.length<=1
  . exact⟨1,DI,Sh.all λx z _ _ _ T=>absurd (bL h.tw h.w0 hl x z) T⟩
  . obtain⟨_,_,f,eR,_,m⟩:=h.step;have tz:=Xq y (Jb w);have Qa:∀x,ev (Yl y (Jb w)) x=ev y x-ev (Jb w) x:=λx=>Y0 _ _ _;obtain⟨z,hz⟩:=ex (Yl y (Jb w));rw[hz]at f m tz Qa;obtain⟨g1,g2,_⟩:=YB h.tw tz;have a0:=YM h.tw tz (Or.inl h.w0);have Q:=(JP (JO w z) a0 g2).2;obtain⟨a,ha⟩:=ex (Jr w z);rw[ha]at f m Q;obtain⟨g,bk⟩:=ex (Js w a);rw[bk]at f m;obtain⟨N,bl⟩:=ex (Js z a);rw[bl]at f Q;obtain⟨R2,bh⟩:=ex (Js R w);rw[bh]at f eR;have lR:R2.length<=n:=by
     have:=JG h.tw f.tR h.w0 f.R0;rw[<-eR]at this;omega
    obtain⟨W,bm,X⟩:=ih R2 g N lR f i;have s:∀x,ev w x=ev a x*ev g x:=λx=>by
     have:=Jg a g x;rwa[<-m]at this
    have fd:∀x,ev (Jb w) x=ev (Jb a) x*ev g x+ev a x*ev (Jb g) x:=λx=>by
     have:=Yc a g x;rwa[<-m]at this
    have fy:∀x,ev (Jb w) x=ev y x-ev a x*ev N x:=λx=>by
     have D:=Qa x;have f:=Q x;grind
    obtain⟨u,v,ae⟩:=h.cop;obtain⟨U,pU,hU⟩:=XB u i;obtain⟨V,j,hV⟩:=XB v i;obtain⟨ce,pY,hY⟩:=XB y i;obtain⟨A,pA,hA⟩:=XB a i;obtain⟨A1,ai,hA1⟩:=XB (Jb a) i;obtain⟨W2,bu,bj⟩:=XB g i;obtain⟨o,cl,bi⟩:=XB (Jb g) i;obtain⟨P,bz,ad⟩:=XB N i;have c:∀ {a b:Rat},0<a->0<b->0<a*b:=λD f=>Rat.mul_pos D f;obtain⟨e1,am,an⟩:=small (Rat.le_of_lt (c pU bu)) (show(0:Rat)<1/4 by grind);obtain⟨e2,ap,aq⟩:=small (Rat.le_of_lt (c (c j j) (c pY bz))) (show(0:Rat)<1/16 by grind);obtain⟨e,e0,bf,bg⟩:=LW am ap;have l:0<V*(o+P):=c j (by grind);obtain⟨M,hM⟩:=ex (V*(o+P));obtain⟨e3,aw,ax⟩:=small (Rat.le_of_lt (c pU pA)) (show(0:Rat)<1/4 by grind);obtain⟨e4,ay,az⟩:=small (Rat.le_of_lt (c j ai)) (show(0:Rat)<1/4 by grind);obtain⟨e5,ba,bc⟩:=small (Rat.le_of_lt (c (c l l) (c ai (c pA (show 0<o+o+P by grind))))) (show(0:Rat)<W/8 by grind);obtain⟨d1,aj,ci,cj⟩:=LW aw ay;obtain⟨d,d0,ck,ak⟩:=LW aj ba;obtain⟨k,k0,bn,bt⟩:=LW (YE (show(0:Rat)<1/2 by grind) (c j j)) (YE (show(0:Rat)<W/8 by grind) (c l l));refine⟨k,k0,(((Ge a i e0).and (Ge g i d0)).and X).mono λx H hx af _ ⟨⟨ta,tw⟩,X⟩ T=>?_⟩;have ah:∀ {K r t:Rat},0<K->r<=K*t->k<=r/K->k<=t:=fun {K r t} hK D f=>by
     have h3:r/K*K=r:=Ap (by grind);rcases Yt k t with h4|h4
     . exact h4
     . have:=Rat.mul_nonneg (a:=K) (b:=k-t) (by grind) (by grind);have:=Rat.mul_nonneg (a:=r/K-k) (b:=K) (by grind) (by grind);rcases Yt t k with S|S
       . rcases Rat.le_iff_lt_or_eq.1 S with h6|h6
         . have:=Rat.mul_pos (a:=K) (b:=k-t) hK (by grind);grind
         . grind
       . exact S
    have ca:∀p,Wi B p->Wi e (ev a p)->k<=ev y p*ev (Jb w) p:=λp hp hq=>by
     have:=R7 (hU p hp) (hV p hp) (hY p hp) hq (bj p hp) (ad p hp) (ae p) (s p) (by have:=an e bf;grind) (by have:=aq e bg;grind);rw[<-fy p]at this;exact ah (c j j) this bn
    have cw:∀p,Wi B p->Wi d (ev g p)->W<=ev N p*ev (Jb g) p->k<=ev y p*ev (Jb w) p:=λp hp hq hk=>by
     have h9:=R8 (hU p hp) (hV p hp) (hA p hp) (hA1 p hp) hq (bi p hp) (ad p hp) (ae p) (s p) (by have D:=fy p;have h3:=fd p;grind) bm hk (by have:=ax d (by grind);grind) (by have:=az d (by grind);grind) (by have:=bc d ak;grind);rw[<-fd p]at h9;exact ah (c l l) h9 bt
    by_cases sa:Dg a x H
    . have sw:¬Dg g x H:=λq=>T (by
       unfold Dg at *;rw[s,s];have:=Rat.mul_pos sa q;grind)
      obtain⟨t1,t2⟩:=tw sw;obtain⟨r1,r2⟩:=X sw;exact⟨cw x hx t1 r1,cw H af t2 r2⟩
    . obtain⟨t1,t2⟩:=ta sa;exact⟨ca x hx t1,ca H af t2⟩

