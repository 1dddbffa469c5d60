import Derived.Test.YtakpoihdghihmaaGreatDoorR44
open Go.Value renaming slice->C,pointer->E
open Go renaming World->G,Value->I
open Go.Obj renaming cells->F
set_option maxRecDepth 100000
set_option maxHeartbeats 16000000
namespace Go.Proofs.YtakpoihdghihmaaGreatDoor
namespace M3
open Go.RowKit Go.Shelf
attribute [local go_sem] Oper.semAt_some
def Ie(ty:TypeId)(W W':G):Prop:=∀B,B<W.heap.size->(∀cs m,W.heap[B]?≠some (F cs ty m))->W'.heap[B]?=W.heap[B]?
variable{H:List (List Rat)}{cs:List I}{B c g l n:Nat}{f:Nat->List Rat}{a:Option Addr}{ty:TypeId}{v:I}{V W W' w:G}
theorem Ie.at(h:Ie ty W W'){cs:Array I}{t:TypeId}{m:Nat × Nat}(a:W.heap[B]?=some (F cs t m))(b:t≠ty):W'.heap[B]?=W.heap[B]?:=
 h B (Ab.1 a).1 λc d e=>by
  rw[a]at e;simp only[Ak,Bo]at e;exact b e.2.1
theorem Ie.row(h:Ie ty W W')(d:∀k,KS k≠ty){k:IntKind}{ds:List Nat}(s:Row k W v ds):Row k W' v ds:=by
 obtain⟨a,c,e,l,n,o,f⟩:=s;refine⟨a,c,e,l,n,o,?_⟩;rcases f with f|⟨b,off,i,g,q⟩
 . exact Or.inl f
 . obtain⟨cs,m,p⟩:=id g;have d:=h.at p (d k);refine Or.inr ⟨b,off,i,g.of d,λj r=>?_⟩;rw[<-q j r];simp only[World.cell?,d]
theorem Ie.rowK(h:Ie ty W W')(r:∀k,KS k≠ty)(s:∀k,IV k≠ty){k:Bool}{qs:List Rat}(B:RowK k W v qs):RowK k W' v qs:=by
 obtain⟨a,cap,e,o,p,q,c⟩:=B;refine⟨a,cap,e,o,p,q,?_⟩;rcases c with c|⟨b,n,cs,d,w⟩
 . exact Or.inl c
 . refine Or.inr ⟨b,n,cs,(h.at d (s k)).trans d,λj A=>?_⟩;obtain⟨x,y,z,u,f,i,l,m,t⟩:=w j A;exact⟨x,y,z,u,f,i,l,m,t.keep λ_ _ _ g=>h.row r g⟩
theorem cx(k:IntKind):KS k≠25:=by cases k<;>decide
theorem dA(k:Bool):IV k≠25:=by cases k<;>decide
theorem XQ.far{base:Nat}(h:XQ ty base W v cs)(c:∀B,B<W.heap.size->Ea v≠some B->W'.heap[B]?=W.heap[B]?):Ie ty W W':=λB b d=>c B b λe=>by
 rcases h with⟨rfl,_⟩|⟨g,cap,f,rfl,i,a,j⟩
 . cases e
 . cases e;exact d _ _ a
theorem FW.keep{W W':G}{cs:List I}{L:List (List Rat)}(h:FW W cs L)(a:∀v p,Je W v p->Je W' v p):FW W' cs L:=Hk.keep h λ_ _=>a _ _
def FZ(w:G)(B4 B5:Nat)(H:List (List Rat))(W:G):Prop:=
 ∃v cs,Boxed W w.heap.size 120 v/\XQ 25 (w.heap.size+1) W v cs/\FW W cs H/\Ea v≠some B4/\Ea v≠some B5/\Bl w W
theorem FZ.own(w:G)(B4 B5 B:Nat)(m:w.heap.size<=B):OwnFrom B (FZ w B4 B5):=by
 rintro H W W' row ⟨v,cs,f,g,i,j,l,c⟩ a d;have b:∀r,row=some r->∃o:Obj,W.heap[r]?=some o/\o.isCells=false:=λr e=>(d r e).2;exact⟨v,cs,Yc a b f,g.own a b,i.keep λ_ _ h=>L0 a b h,j,l,c.grown a c.size λk e=>An m (d k e).1⟩
theorem FZ.bel(w:G)(B4 B5:Nat):GB (FZ w B4 B5):=by
 rintro H W W' ⟨v,cs,b,c,d,e,f,g⟩ a;exact⟨v,cs,boxed_below b a,c.below a,d.keep λ_ _ h=>h.below a,e,f,Bt g a⟩
theorem FZ.set(w:G)(B4 B5:Nat)(q:w.heap.size+1<=B4)(r:w.heap.size+1<=B5):Kp B4 B5 (FZ w B4 B5):=by
 rintro H W B a l c u n o ⟨v,cs,i,j,k,d,f,m⟩;refine⟨v,cs,Boxed.other i O u,j.keep λg e _ _=>BD W ⟨B,0,none⟩ u g λb=>?_,k.keep λ_ _ h=>h.setB o,d,f,m.setCell (p:=⟨B,0,none⟩) (by show w.heap.size<=B;omega) u⟩;have b:g=B:=b;subst b;rcases n with rfl|rfl
 . exact d e
 . exact f e
theorem FZ.app{B4 B5:Nat}(L:Boxed W w.heap.size 120 v)(f:XQ 25 (w.heap.size+1) W v cs)(S:FW W cs H)(D:Ea v≠some B4)(K:Ea v≠some B5)(T:Bl w W)(l4:B4<W.heap.size)(l5:B5<W.heap.size){r:List Rat}(X:Je W (.agg #[C a l c]) r)(hl:cs.length+1<=1099511627776):
 ∃x y z d,(Builtin.append_ #[120,120] 120 #[v,C (some ⟨W.heap.size,0,none⟩) 1 1]).run Tryz.prog (W.alloc (F #[C a l c] 25))=.ok (C x y z) d/\Boxed d w.heap.size 120 v/\∀(b:Nat) (A:Act),b=w.heap.size+1->OE b B4 B5 (FZ w B4 B5) (H++[r]) W .normal A (d.setCell ⟨w.heap.size,0,none⟩ (C x y z)):=by
 have s:w.heap.size<W.heap.size:=(Ab.1 L).1;obtain⟨v',d,e,M,far,bel,sz,R⟩:=ZG ZI (w.heap.size+1) W v cs f (x:=C a l c) rfl hl s;obtain⟨x,z,rfl,_⟩:=M.form;have P:Ea v≠some w.heap.size:=λe=>by have:=(f.lt e).2;omega
 have j:Boxed d w.heap.size 120 v:=(far _ s P).trans L;have N:=XQ.far f far;have q:∀v p,Je W v p->Je d v p:=λv p h=>by
  obtain⟨u,e,h⟩:=h;exact⟨u,e,N.rowK cx dA h⟩
 obtain⟨av,cv,hv,_⟩:=f.form;have t:∀u p,Je d u p->Je (d.setCell ⟨w.heap.size,0,none⟩ (C x (cs++[Value.slice a l c]).length z)) u p:=λu p h=>by
  obtain⟨u,e,h⟩:=h;exact⟨u,e,IW j (o:=0) (by rw[hv];rfl) rfl true DF _ _ _ h⟩
 have ne:∀B,B<W.heap.size->Ea v≠some B->Ea (C x (cs++[Value.slice a l c]).length z)≠some B:=λB hB h e=>by
  rcases R with m|⟨g,m,V⟩
  . exact h (m.symm.trans e)
  . rw[m]at e;injection e with e;omega
 refine⟨x,_,z,d,e,j,λb A hb=>⟨⟨_,_,j.set _,M.keep λg e V _=>BD d ⟨w.heap.size,0,none⟩ _ g (by show g≠w.heap.size;omega),FW.keep ((FW.keep S q).snoc (q _ _ X)) t,ne _ l4 D,ne _ l5 K,?_⟩,?_,λk o hk n i=>?_,λu p h=>t _ _ (q _ _ h)⟩⟩
 . exact(bel _ _ O T).setCell (p:=⟨w.heap.size,0,none⟩) (Aa _) _
 . rw[World.size_setCell];exact sz
 . have Q:=(Ab.1 i).1;rw[BD d ⟨w.heap.size,0,none⟩ _ k (by show k≠w.heap.size;omega)];refine(far k Q λe=>?_).trans i;rcases n with n|rfl|rfl
   . rcases f with⟨rfl,_⟩|⟨g,cap,ad,rfl,_,U,_⟩
     . cases e
     . cases e;rw[U]at i;cases i;cases n
   . exact D e
   . exact K e
theorem dB{F:Fence}{P:Program}(w:G){d:Array Oper}{rest:List Oper}{o:Oper}{a:Act}{Q:Exit->Act->G->Prop}(m:o.guard=none)(s x:Operand)(t:TypeId)
(b:o.op=Op.call { callee:=Callee.builtin Builtin.append,args:=#[s,x],argTypes:=#[t,t] })(f g:I)(q:a.eval s=f)(r:a.eval x=g)(e:I)(i:G)(p:(Builtin.append_ #[t,t] o.type #[f,g]).run P w=.ok e i)
(j:wpListIn F n P d Q rest (a.put o.dst e) i):wpListIn F n P d Q (o::rest) a w:=by
 refine wpListIn_plain m λK k=>?_;unfold Oper.wpIn;refine⟨?_,?_⟩
 . simp[Oper.about,b,resolve,Target.leads,Sem.run_pure]
 . rw[Oper.semAt_plain F _ _ (by rw[b];intro c l;cases l)];simp[execOp,b,resolve,invoke,builtin,q,r,p,Result.andThen];exact k _ _ j
theorem dC(K:Nat)(s t:Nat)(pa qa:Option Addr)(pl pc ql qc:Nat)(p q:List Rat)(w:G)(A:ChOk K p q)(ad:Da w s pa pl pc)(ae:Da w t qa ql qc)(ip:Je w (.agg #[C pa pl pc]) p)(iq:Je w (.agg #[C qa ql qc]) q):
 Calls Tryz.prog 186 #[C none 0 0,.func (.func 136) #[] #[E (some ⟨s,0,none⟩),E (some ⟨t,0,none⟩)]] w λe B=>∃v cs,e=.returned v/\XQ 25 (w.heap.size+1) B v cs/\FW B cs (X2 p q)/\Bl w B:=by
 have g:Bl w (w.alloc (F #[C none 0 0] 120)):=Ba w _;obtain⟨P,m⟩:=ex (w.alloc (F #[C none 0 0] 120));have Qd:Boxed P w.heap.size 120 (C none 0 0):=by rw[<-m];exact BG w _ _
 have X:P.heap.size=w.heap.size+1:=by rw[<-m];simp
 rw[m]at g;obtain⟨Qi,Qg,Qh,Qn,Qj,Ql,i,HA⟩:=Hd A (ad.below g) (ae.below g) (ip.below g) (iq.below g) Qd X g;have Qf:=Ja m;have Qk:=Ja (show(X2 p q).length<=1000000000 from by
  have c:∀(n:Nat) (a b:List Rat),(EK n a b).length<=n+1:=λn=>by
   induction n with
    |zero=>intro a b;exact Aa _
    |succ n ih=>
    intro a b;rw[EK];split
    . simp
    . have:=ih b (YP a b);simp only[Af];omega
  have d:=c (JI q).length (JI p) (JI q);have f:=J4 A.tq;have h4:=A.ln;show(EK _ _ _).length<=_;omega)
 clear A ad ae ip iq Qd X g m;refine(BH (n:=3)).1 ?_;refine BN Tryz.func186 rfl trivial ?_ rfl;simp only[Tryz.ntmps186,As,Af,Ay,Nat.reduceAdd,Nat.reduceSub,Av,Aw,AG,AC,Ar,Au];gi_wp2_with fail
 rw[Qf.o];clear Qf;refine Rp O Qi.o Qg.o Qh.o Qn.o Qj.o rfl (Bg Tryz.func136 (by kernel_rfl) rfl) rfl
  (λB4 B5=>FZ w B4 B5) (λB4 B5=>FZ.own w B4 B5 _ (by have:=i.o;omega)) (λB4 B5=>FZ.bel w B4 B5)
  (λB4 B5 h4 h5=>FZ.set w B4 B5 (by have:=i.o;omega) (by have:=i.o;omega)) (λB4 B5 V h4 h5 hV=>⟨_,[],boxed_below Ql.o hV,XQ.nil _ _ _,⟨rfl,λj p e=>by simp at e⟩,by simp[Ea],by simp[Ea],Bt HA.o hV⟩)
  (λv b=>{ tmps:=#[C none 0 0,.func (.func 136) #[] #[E (some ⟨s,0,none⟩),E (some ⟨t,0,none⟩)],E (some ⟨w.heap.size,0,none⟩),undef,C none 0 0,E (some ⟨b,0,none⟩),.func (.func 136) #[] #[E (some ⟨s,0,none⟩),E (some ⟨t,0,none⟩)],.agg #[v],undef,undef,undef,undef,undef],defers:=[] }) ?assign ?body ?done
 case assign=>
  intro l x xl xc W K z;gi_wp2;exact z
 case body=>
  rintro l b B4 B5 x xl xc r H W ⟨v,cs,c,d,f,u,y,k⟩ ai hb l4 l5 T hr;have N:=Bx.lt (cs:=#[C x xl xc]) T;obtain⟨xa,xb,an,B,aj,R,ah⟩:=FZ.app c d f u y k (Nat.lt_trans l4 N) (Nat.lt_trans l5 N) hr (by
   have h8:=ai.length_le;have h9:=Qk.o;have am:=f.1;simp only[Ao,Af,Ay]at h8;omega)
  have Qm:=Ja (ah P.heap.size · i.o);obtain⟨Q,S,U,_,_⟩:=d.form;subst U;have e0:=c.cell;have e1:=T.cell;have e2:=R.cell;have f2:=R.frozen;clear c d f u y k ai hb l4 l5 T hr N R ah;gi_wp2_with(gi_at_builtin;refine dB _ rfl _ _ 120 rfl _ _ rfl rfl _ _ aj ?_;clear aj)
  exact Qm.o _
 case done=>
  rintro D B4 B5 W H r hD ⟨v,cs,c,d,f,u,y,k⟩ af ak z;obtain⟨Q,S,U,_,_⟩:=d.form;subst U;have e0:=c.cell;obtain⟨L,M,HD⟩:=Db (show XQ 25 (w.heap.size+1) W (C Q cs.length S) cs/\FW W cs (X2 p q)/\Bl w W from⟨d,by rw[af];exact f,k⟩) z (show w.heap.size<=D by have:=i.o;omega);clear c d f u y k af ak z hD;gi_wp2_with fail
  refine⟨Z,.inl ⟨_,_,rfl,BR M.o,?_⟩⟩;have hg:=BU W D (.deferred none);have Qe:∀r,some D=some r->∃o:Obj,W.heap[r]?=some o/\o.isCells=false:=λr e=>by cases e;exact⟨_,M.o,rfl⟩
  exact⟨C Q cs.length S,by simp[results,Tryz.results186,go_sem],_,cs,rfl,L.o.1.own hg Qe,L.o.2.1.keep λ_ _ h=>L0 hg Qe h,L.o.2.2.trans (Bz (w:=w) (Aa _) _ D _ _ HD.o M.o rfl rfl)⟩
def EA(V:G)(g n:Nat)(f:Nat->List Rat):Prop:=∃cs:Array I,V.heap[g]?=some (F cs 25 (0,0))/\∀j,j<n->∃a l c,cs[j]?=some (C a l c)/\RowK true V (C a l c) (f j)
theorem EA.lt(h:EA V g n f):g<V.heap.size:=by obtain⟨cs,h,_⟩:=h;exact(Ab.1 h).1
theorem EA.below{V V':G}{g n:Nat}{f:Nat->List Rat}(h:EA V g n f)(b:Bl V V'):EA V' g n f:=by
 have hl:=h.lt;obtain⟨cs,d,i⟩:=h;refine⟨cs,(b.block g hl).trans d,λj m=>?_⟩;obtain⟨a,l,c,e,k⟩:=i j m;exact⟨a,l,c,e,k.below b⟩
theorem EA.cell{V:G}{g n:Nat}{f:Nat->List Rat}(h:EA V g n f){j:Nat}(k:j<n):∃a l c,V.cell? ⟨g,j,none⟩=some (C a l c)/\RowK true V (C a l c) (f j):=by
 obtain⟨cs,b,d⟩:=h;obtain⟨a,l,c,e,i⟩:=d j k;exact⟨a,l,c,cell_of b e,i⟩
theorem EA.frozen{V:G}{g n:Nat}{f:Nat->List Rat}(h:EA V g n f)(o:Nat):V.frozen? ⟨g,o,none⟩=false:=by obtain⟨cs,a,_⟩:=h;simp[World.frozen?,a]
theorem EA.set(h:EA V g n f){j:Nat}(t:j<n){q:List Rat}(x:RowK true V (C a l c) q):EA (V.setCell ⟨g,j,none⟩ (C a l c)) g n (λk=>if k=j then q else f k):=by
 obtain⟨cs,d,i⟩:=h;obtain⟨y,z,c0,b,_⟩:=i j t;have m:∀v qs,RowK true V v qs->RowK true (V.setCell ⟨g,j,none⟩ (C a l c)) v qs:=λv qs w=>IW d b rfl true DF _ v qs w;refine⟨cs.setIfInBounds j (C a l c),J8 d _,λk u=>?_⟩;have o:j<cs.size:=(Ab.1 b).1;by_cases e:k=j
 . subst e;refine⟨a,l,c,?_,?_⟩
   . rw[Ct o]
   . show RowK true _ _ (if k=k then q else f k);rw[BC rfl];exact m _ _ x
 . obtain⟨p,l1,c1,r,s⟩:=i k u;refine⟨p,l1,c1,?_,?_⟩
   . rw[Ah O];exact r
   . show RowK true _ _ (if k=j then q else f k);rw[BA e];exact m _ _ s
theorem EA.cong{a:Nat->List Rat}(h:EA V g n f)(e:∀j,j<n->f j=a j):EA V g n a:=by
 obtain⟨cs,c,d⟩:=h;refine⟨cs,c,λj b=>?_⟩;rw[<-e j b];exact d j b
theorem Mem.setFar{bs:List (Option (Nat × Dat))}(M:Mem w V bs)(f:w.heap.size<=B)(g:Da V B a l c)(j:∀(i:Nat) B' d,bs[i]?=some (some (B',d))->B'≠B)(u:I):Mem w (V.setCell ⟨B,0,Option.none⟩ u) bs:=by
 refine⟨λi B' d h=>?_,M.2.1,M.2.2.setCell (p:=⟨B,0,Option.none⟩) f u⟩;obtain⟨⟨cs,b,e⟩,k⟩:=M.1 i B' d h;exact⟨⟨cs,b.far (p:=⟨B,0,Option.none⟩) (j i B' d h) u,e.set1 g rfl u⟩,k⟩
def Gy(w:G)(a d:Option Addr)(c b f e:Nat)(H:List (List Rat)):List (Option (Nat × Dat)):=
 [some (w.heap.size,.cell 25 (C a c b)),some (w.heap.size+1,.cell 25 (C d f e)),some (w.heap.size+1+1,.cell 25 (C none 0 0)),some (w.heap.size+1+1+1,.poly (H.getLastD []))]
theorem dD{a f:Option Addr}{c b j g:Nat}{i:Nat}{d:Dat}(e:(Gy w a f c b j g H)[i]?=some (some (B,d))):B<=w.heap.size+1+1+1:=by
 unfold Gy at e;rcases i with _|_|_|_|i<;>simp at e<;>omega
theorem Rq(K:Nat)(va vb:I)(p q:List Rat)(w:G)(ha:Je w va p)(y:Je w vb q)(af:ChOk K p q):
 Calls Tryz.prog 35 #[va,vb] w λe T=>∃u,e=.returned u/\Je T u (Jz p q)/\Bl w T:=by
 obtain⟨f,j,g,rfl⟩:=ha.form;obtain⟨m,t,s,rfl⟩:=y.form;have M0:Mem w _ _:=((((Mem.nil w).push (.cell 25 (C f j g)) (cs:=#[C f j g]) ⟨rfl,rfl⟩).push (.cell 25 (C m t s)) (cs:=#[C m t s]) ⟨rfl,rfl⟩).push (.cell 25 (C none 0 0)) (cs:=#[C none 0 0]) ⟨rfl,rfl⟩).push (.poly []) (cs:=#[C none 0 0]) (Ht _);simp only[Ax]at M0;obtain⟨W0,ad⟩:=ex ((((w.alloc (F #[C f j g] 25)).alloc (F #[C m t s] 25)).alloc (F #[C none 0 0] 25)).alloc (F #[C none 0 0] 25));have M1:Mem w W0 (Gy w f m j g t s []):=by rw[<-ad];exact M0
 have hN:W0.heap.size=w.heap.size+1+1+1+1:=by rw[<-ad];simp
 obtain⟨Qe,Qg,HN,HP,HQ,Qm⟩:=Is ad M1 hN (λ(V:G) (hB:Bl w V)=>ha.below hB) (λ(V:G) (hB:Bl w V)=>y.below hB) af;have Qj:=Ja (λ(V:G) (x:I) (r:List Rat) (hx:Je V x r) (X:Chn p q (DY K p q) r [])=>show Calls Tryz.prog 88 #[x] V λe T=>∃u,e=.returned u/\Je T u (Jz p q)/\Bl V T by
  have Qb:=af.bd;have h1:=Rm x r V hx (Sqs.of λi=>Sq.of (X.wa.smq Qb.2.2.2 i) Qb.1) X.ta (λi=>by
   have h2:=Ln.sqs X.ta X.wa.ln Qb.2.2.2 i;unfold Jp at h2;rw[Yu,Fh,Cn,<-Fh]at h2;exact Sq.of h2 Qb.1)
  rw[<-X.gc,RV];exact h1)
 clear ha y af M0 M1 ad hN;refine(BH (n:=3)).1 ?_;refine BN Tryz.func35 rfl trivial ?_ rfl;simp only[Tryz.ntmps35,As,Af,Ay,Nat.reduceAdd,Nat.reduceSub,Av,Aw,AG,AC,Ar,Au];gi_wp2_with fail
 rw[Qe.o];refine⟨trivial,?_⟩;refine(Ro _ _ _ _ _ _ _ _).mono ?_;rintro e T ⟨rfl,rfl⟩;obtain⟨z,S⟩:=ex ((W0.alloc (F #[C f j g] 25)).alloc (F #[C m t s] 25));have Qi:Bl W0 z:=by rw[<-S];exact(Ba W0 _).alloc (by rw[Ax];omega) _
 have nP:Da z W0.heap.size f j g:=by rw[<-S];exact(BG W0 25 (C f j g)).alloc _
 have nQ:Da z (W0.heap.size+1) m t s:=by
  rw[<-S];have:=BG (W0.alloc (F #[C f j g] 25)) 25 (C m t s);rwa[Ax]at this
 have M2:=Mem.below Qg.o Qi;have Qf:z.heap.size=w.heap.size+6:=by rw[<-S];simp[HN.o]
 rw[S,HN.o];rw[HN.o]at nP nQ;obtain⟨Qc,Ql,Qn,Q⟩:=Dr M2 nP nQ Qf;clear M2 nP nQ Qf Qi S Qe HN Qg;gi_wp2_with fail
 refine Rp O Qm.o Ql.o Qn.o (HP.o z Qc.o.2.2) (HQ.o z Qc.o.2.2) rfl (Bg Tryz.func136 (by kernel_rfl) rfl) rfl
  (λ_ _ H W=>Mem w W (Gy w f m j g t s H)) (λ_ _ H W W' row M hg hr=>Mem.own M hg λr e=>⟨by have:=(hr r e).1;have:=Q.o;omega,(hr r e).2⟩) (λ_ _ H W W' M y=>Mem.below M y)
  (λB4 B5 R h5 H W B a l c u hB y M=>Mem.setFar M (by have:=Q.o;omega) y (λi B' d e=>by have:=dD e;have:=Q.o;omega) u) (λ_ _ V _ _ hV=>Mem.below Qc.o hV)
  (λv b=>{ tmps:=#[.agg #[C f j g],.agg #[C m t s],E (some ⟨w.heap.size,0,none⟩),E (some ⟨w.heap.size+1,0,none⟩),E (some ⟨w.heap.size+1+1,0,none⟩),E (some ⟨w.heap.size+1+1+1,0,none⟩),E (some ⟨b,0,none⟩),.agg #[C f j g],.agg #[C m t s],.func (.func 136) #[] #[E (some ⟨w.heap.size+1+1+1+1,0,none⟩),E (some ⟨w.heap.size+1+1+1+1+1,0,none⟩)],.agg #[v],undef,undef,undef],defers:=[] }) ?assign ?body ?done
 case assign=>
  intro l x xl xc W K hK;gi_wp2;exact hK
 case body=>
  intro l b B4 B5 x xl xc r H W M _ y _ _ ai hr;obtain⟨ya,yl,yc,P,r3⟩:=Mem.poly2 M (i:=3) rfl;have e3:=P.cell;have f3:=P.frozen;have eb:=ai.cell;have HH:=Ja (show ∀ah,OE z.heap.size B4 B5 (λH W=>Mem w W (Gy w f m j g t s H)) (H++[r]) W .normal ah (W.setCell ⟨w.heap.size+1+1+1,0,none⟩ (C x xl xc))from λah=>by
   refine⟨?_,?_,λk o hk _ ho=>?_,λv ps h=>h.setB P⟩
   . have R:=Mem.putPoly M (i:=3) rfl hr;show Mem w _ (Gy w f m j g t s (H++[r]));unfold Gy at R ⊢;rw[show(H++[r]).getLastD []=r by simp];exact R
   . rw[World.size_setCell];exact Aa _
   . exact(BD W ⟨w.heap.size+1+1+1,0,none⟩ _ k (by show k≠w.heap.size+1+1+1;have:=Q.o;omega)).trans ho)
  clear M y ai hr P r3;gi_wp2;exact HH.o _
 case done=>
  intro D _ _ W H r hD M am aj hK;have Qo:w.heap.size<=D:=by have:=Q.o;omega
  have M:Mem w W [some (w.heap.size,.cell 25 (C f j g)),some (w.heap.size+1,.cell 25 (C m t s)),some (w.heap.size+1+1,.cell 25 (C none 0 0)),some (w.heap.size+1+1+1,.poly r)]:=by
   have R:Mem w W (Gy w f m j g t s (H++[r])):=M;unfold Gy at R;rwa[show(H++[r]).getLastD []=r by simp]at R
  obtain⟨ya,yl,yc,P,r3⟩:=Mem.poly2 M (i:=3) rfl;have e3:=P.cell;have n2:=(Mem.cell M (i:=2) rfl).1;obtain⟨HC,Qh,HK⟩:=Db (Qj.o W _ r r3 aj) M.2.2 hK;clear M am aj hK r3 P Qj;gi_wp2_with(refine⟨trivial,?_⟩;gi_at_call 88;refine((BH (n:=_)).2 HC.o).mono ?_;clear HC;rintro e U ⟨u5,rfl,ak,ae⟩;obtain⟨A,N,L,rfl⟩:=ak.form;have n5:=boxed_below n2 ae;have x0:=n5.cell;have x1:=n5.frozen)
  have Qd:(U.setCell ⟨w.heap.size+1+1,0,none⟩ (C A N L)).heap[D]?=some (.deferred (some [])):=by
   rw[BD U ⟨w.heap.size+1+1,0,none⟩ _ D (by show D≠w.heap.size+1+1;have:=Q.o;omega)];exact(ae.block D (Ab.1 HK.o).1).trans HK.o
  refine⟨Z,.inl ⟨_,_,rfl,BR Qd,?_⟩⟩;have q:Da (U.setCell ⟨w.heap.size+1+1,0,none⟩ (C A N L)) (w.heap.size+1+1) A N L:=Da.put (show Da U (w.heap.size+1+1) none 0 0 from n5);have hg:=BU (U.setCell ⟨w.heap.size+1+1,0,none⟩ (C A N L)) D (.deferred none);have Qk:∀r,some D=some r->∃o:Obj,(U.setCell ⟨w.heap.size+1+1,0,none⟩ (C A N L)).heap[r]?=some o/\o.isCells=false:=λr e=>by cases e;exact⟨_,Qd,rfl⟩
  have q2:Da _ (w.heap.size+1+1) A N L:=Yc hg Qk q;have g0:=q2.cell;refine⟨.agg #[C A N L],by simp[results,Tryz.results35,go_sem,g0],_,rfl,?_,?_⟩
  . exact L0 hg Qk (ak.setB n5)
  . exact((Bt Qh.o ae).setCell (p:=⟨w.heap.size+1+1,0,none⟩) (by show w.heap.size<=w.heap.size+1+1;omega) _).trans (Bz (w:=w) (Aa _) _ D _ _ Qo Qd rfl rfl)
end M3
section
def Dv(a b:List Rat):Prop:=∃c:List Rat,∀x,ev b x=ev a x*ev c x
def DU(a b:List Rat):Prop:=∃u v:List Rat,∀x,ev u x*ev a x+ev v x*ev b x=1
section
variable {a b c d p q:List Rat}
theorem Dv.refl(a:List Rat):Dv a a:=⟨[1],λx=>by simp[ev];grind⟩
theorem Dv.trans(h:Dv a b)(d:Dv b c):Dv a c:=by
 obtain⟨u,e⟩:=h;obtain⟨v,f⟩:=d;exact⟨Jr u v,λx=>by rw[f,e,Jg];grind⟩
theorem Dv.zero(a:List Rat):Dv a []:=⟨[],λx=>by simp[ev]⟩
theorem Dv.mul(h:Dv a b)(c:List Rat):Dv a (Jr b c):=by
 obtain⟨u,d⟩:=h;exact⟨Jr u c,λx=>by rw[Jg,d,Jg];grind⟩
theorem Dv.mul'(h:Dv a b)(c:List Rat):Dv a (Jr c b):=by
 obtain⟨u,d⟩:=h;exact⟨Jr u c,λx=>by rw[Jg,d,Jg];grind⟩
theorem Dv.comb(h:Dv d a)(e:Dv d b)(u v:List Rat)(f:∀x,ev c x=ev u x*ev a x+ev v x*ev b x):Dv d c:=by
 obtain⟨s,g⟩:=h;obtain⟨t,i⟩:=e;exact⟨XI (Jr u s) (Jr v t),λx=>by rw[f,g,i,YK,Jg,Jg];grind⟩
theorem Dv.of_sc{k:Rat}(c:k≠0)(h:Dv a b):Dv (DN k a) b:=by
 obtain⟨u,d⟩:=h;have e:(1/k)*k=1:=Ap c;exact⟨DN (1/k) u,λx=>by rw[d,JJ,JJ];grind⟩
theorem Dv.sc(h:Dv a b)(k:Rat):Dv a (DN k b):=by
 obtain⟨u,c⟩:=h;exact⟨DN k u,λx=>by rw[JJ,c,JJ];grind⟩
theorem DU.symm(h:DU a b):DU b a:=by
 obtain⟨u,v,h⟩:=h;exact⟨v,u,λx=>by rw[<-h x];grind⟩
theorem DU.of_dv(h:DU a b)(c:Dv d a):DU d b:=by
 obtain⟨u,v,h⟩:=h;obtain⟨s,e⟩:=c;exact⟨Jr u s,v,λx=>by rw[<-h x,e x,Jg];grind⟩
theorem DU.dv(h:DU a b)(e:Dv a (Jr b c)):Dv a c:=by
 obtain⟨u,v,h⟩:=h;obtain⟨k,f⟩:=e;refine⟨XI (Jr u c) (Jr v k),λx=>?_⟩;have g:=h x;have d:=f x;rw[Jg]at d;rw[YK,Jg,Jg];grind
theorem DU.mul(h:DU a b)(d:DU a c):DU a (Jr b c):=by
 obtain⟨u,v,h⟩:=h;obtain⟨s,t,d⟩:=d;refine⟨XI u (Jr (Jr v b) s),Jr v t,λx=>?_⟩;have e:=h x;have f:=d x;rw[YK,Jg,Jg,Jg,Jg];grind
theorem DU.unit(h:DU a b)(c:Dv a b):Dv a [1]:=by
 obtain⟨u,v,h⟩:=h;obtain⟨s,d⟩:=c;refine⟨XI u (Jr v s),λx=>?_⟩;have e:=h x;have f:=d x;rw[YK,Jg];simp[ev];grind
end
theorem L2{p:List Rat}(x:Rat):ev (Jp p) x=ev p x*(1/cf p (p.length-1)):=JJ _ _ _
theorem dE:∀(n:Nat) (p q:List Rat),Jd p=p->Jd q=q->q.length<=n->Dv (D7 n p q) p/\Dv (D7 n p q) q/\∃u v:List Rat,∀x,ev (D7 n p q) x=ev u x*ev p x+ev v x*ev q x:=by
 intro n;induction n with
 |zero=>
  intro p q hp hq hl;have a:q=[]:=Kl O;subst a;rw[D7];refine⟨?_,Dv.zero _,[1/cf p (p.length-1)],[],λx=>by rw[L2];simp[ev];grind⟩;by_cases b:p=[]
  . subst b;exact Dv.refl _
  . exact Dv.of_sc (Km (Js hp b)) (Dv.refl _)
 |succ n g=>
  intro p q hp hq hl;by_cases a:q=[]
  . subst a;simp only[D7,BC];refine⟨?_,Dv.zero _,[1/cf p (p.length-1)],[],λx=>by rw[L2];simp[ev];grind⟩;by_cases b:p=[]
    . subst b;exact Dv.refl _
    . exact Dv.of_sc (Km (Js hp b)) (Dv.refl _)
  . simp only[D7,BA a];obtain⟨d,j,k,i⟩:=YT p q hq a;obtain⟨c,e,u,v,f⟩:=g q (JK p q) hq i O;refine⟨c.comb e (Jo p q) [1] (λx=>by rw[d x];simp[ev];grind),c,v,JD u (Jr v (Jo p q)),λx=>?_⟩;rw[f x,d x,Y9,Jg];grind
section
variable {p q d:List Rat}
theorem Y4(hp:Jd p=p)(hq:Jd q=q):Dv (Jz p q) p/\Dv (Jz p q) q/\∃u v:List Rat,∀x,ev (Jz p q) x=ev u x*ev p x+ev v x*ev q x:=dE _ p q hp hq (Aa _)
theorem OG(hp:Jd p=p)(hq:Jd q=q)(a:Dv d p)(b:Dv d q):Dv d (Jz p q):=by
 obtain⟨_,_,u,v,h⟩:=Y4 hp hq;exact a.comb b u v h
theorem dF:∀(n:Nat) (p q:List Rat),Jd p=p->Jd q=q->q.length<=n->Jp (D7 n p q)=D7 n p q:=by
 intro n;induction n with
 |zero=>intro p q hp _ _;exact Hr hp
 |succ n b=>
  intro p q hp hq hl;rw[D7];split
  . exact Hr hp
  . rename_i a;have:=(YT p q hq a).2.1;exact b _ _ hq (Xj _ _) O
theorem X3(hp:Jd p=p)(hq:Jd q=q):Jp (Jz p q)=Jz p q:=dF _ p q hp hq (Aa _)
end
variable{a b g p q:List Rat}
theorem Yv(hp:Jd p=p)(h:∀x,ev p x=0):p=[]:=Xr hp rfl (λx=>by rw[h x];rfl)
theorem Dv.some(d:Jd b=b)(h:Dv a b):∃c,Jd c=c/\b=Jr a c:=by
 obtain⟨c,e⟩:=h;exact⟨Jd c,J5 _,Xr d (J2 _ _) λx=>by rw[Jg,XH,e]⟩
theorem YW(a:List Rat):Jr a []=[]:=Yv (J2 _ _) λx=>by rw[Jg];simp[ev]
theorem Dv.anti(o:Jd a=a)(j:Jd b=b)(h:Dv a b)(r:Dv b a):∃k:Rat,k≠0/\b=DN k a:=by
 obtain⟨c,p,e⟩:=h.some j;obtain⟨d,s,i⟩:=r.some o;by_cases g:a=[]
 . refine⟨1,DF,?_⟩;rw[e,g];rfl
 . have n:b≠[]:=λf=>g (by rw[i,f];rfl);have m:c≠[]:=λf=>n (by rw[e,f];exact YW _);have l:d≠[]:=λf=>g (by rw[i,f];exact YW _);have l1:=JA o p g m;have l2:=JA j s n l;rw[<-e]at l1;rw[<-i]at l2;have u:0<c.length:=Ae.2 m;have v:0<d.length:=Ae.2 l;have w:0<a.length:=Ae.2 g;have q:c.length=1:=O
   match c,q with
   |[k],_=>
    have t:k≠0:=by
     have:=Js p Z;simpa[YQ]using this
    refine⟨k,t,Xr j (JP _ _) λx=>?_⟩;rw[e,Jg,JJ];simp[ev];grind
theorem Dv.eq(c:Jd a=a)(f:Jd b=b)(ma:Jp a=a)(mb:Jp b=b)(h:Dv a b)(d:Dv b a):a=b:=by
 obtain⟨k,g,e⟩:=h.anti c f d;rw[<-mb,e,Lu g c,ma]
theorem JO(e:Jd g=g)(a:g≠[])(h:Dv g p):JK p g=[]/\∀x,ev p x=ev g x*ev (Jo p g) x:=by
 obtain⟨c,d⟩:=h;have b:=Lr (p:=p) (u:=Jd c) (v:=[]) e a (J5 _) rfl (Ae.2 a) (λx=>by rw[d,XH];simp[ev];grind);refine⟨b.2.symm,λx=>?_⟩;rw[<-b.1,XH,d]
theorem Yt{u v:List Rat}(i:Jd g=g)(b:g≠[])(h:∀x,ev g x*ev u x=ev g x*ev v x):∀x,ev u x=ev v x:=by
 have d:Jr g (JD u v)=[]:=Yv (J2 _ _) λx=>by rw[Jg,Y9];have:=h x;grind
 have e:JD u v=[]:=by
  by_cases a:JD u v=[]
  . exact a
  . exfalso
    have l:=JA i (Yh u v) b a;rw[d]at l;have j:0<g.length:=Ae.2 b;have k:0<(JD u v).length:=Ae.2 a;simp at l;omega
 intro x;have c:=Bw (λr=>ev r x) e;simp only[Y9]at c;have f:ev [] x=0:=rfl;rw[f]at c;grind
theorem OH(hp:Jd p=p)(hq:Jd q=q)(a:Jz p q≠[]):DU (Jo p (Jz p q)) (Jo q (Jz p q)):=by
 obtain⟨f,g,u,v,i⟩:=Y4 hp hq;have c:=Yi p q;have d:=(JO c a f).2;have e:=(JO c a g).2;refine⟨u,v,?_⟩;have j:=Yt (u:=XI (Jr u (Jo p (Jz p q))) (Jr v (Jo q (Jz p q)))) (v:=[1]) c a (λx=>by
  rw[YK,Jg,Jg];have b:=i x;have k:=d x;have l:=e x;simp[ev];grind)
 intro x;have b:=j x;rw[YK,Jg,Jg]at b;rw[b];simp[ev];grind
theorem Xm(hp:Jd p=p)(hq:Jd q=q)(h:p≠[]\/q≠[]):Jz p q≠[]:=λe=>by
 obtain⟨a,b,_⟩:=Y4 hp hq;rw[e]at a b;obtain⟨c,f⟩:=a;obtain⟨d,g⟩:=b;rcases h with h|h
 . exact h (Yv hp λx=>by rw[f];simp[ev])
 . exact h (Yv hq λx=>by rw[g];simp[ev])
end
section
variable {a b c d e f g k p q r u w y z R:List Rat}
theorem Yo(p q:List Rat)(x:Rat):ev (Jb (Jr p q)) x=ev (Jb p) x*ev q x+ev p x*ev (Jb q) x:=by
 rw[TJ,YK,Jg,Jg]
theorem Xn(p:List Rat)(i:Nat):cf (Jb p) i=cf p (i+1)*(((i+1:Nat):Int):Rat):=by
 unfold Jb;rw[Yf,Im];rfl
theorem Y8(a:p≠[]):(Jb p).length<p.length:=by
 have b:0<p.length:=Ae.2 a;have c:(Jb p).length<=p.length-1:=XO (Jq _) λi d=>by
  rw[Xn,Ye O,A2]
 omega
theorem X6(hp:Jd p=p)(h:Jb p=[]):p.length<=1:=by
 refine XO hp λi d=>?_;obtain⟨j,rfl⟩:∃j,i=j+1:=⟨i-1,O⟩;have b:=Xn p j;rw[h,YH]at b;rcases AM.1 b.symm with a|a
 . exact a
 . exfalso
   have c:((j+1:Nat):Int)=0:=by exact_mod_cast a
   omega
theorem Ig(hp:Jd p=p)(a:p≠[])(hl:p.length<=1):Dv p [1]:=by
 have b:0<p.length:=Ae.2 a;match p,hl,hp,a with
 |[c],_,hp,_=>
  have d:c≠0:=by
   have:=Js hp Z;simpa[YQ]using this
  exact⟨[1/c],λx=>by simp[ev];grind⟩
theorem KG(b:Jd u=u)(a:u≠[])(h:Dv u (Jb u)):Dv u [1]:=by
 refine Ig b a (X6 b ?_);obtain⟨c,i,e⟩:=h.some (Jq u);by_cases f:Jb u=[]
 . exact f
 . exfalso
   have d:c≠[]:=λg=>f (by rw[e,g];exact YW _);have l1:=JA b i a d;have l2:=Y8 a;have j:0<c.length:=Ae.2 d;rw[<-e]at l1;omega
theorem dG(hp:Jd p=p)(a:p≠[]):¬ ∀x,ev p x=0:=λh=>a (Yv hp h)
theorem Rr(f:Jd a=a)(g:Jd b=b)(c:a≠[])(d:b≠[]):Jr a b≠[]:=λe=>by
 have l:=JA f g c d;have i:0<a.length:=Ae.2 c;have j:0<b.length:=Ae.2 d;rw[e]at l;simp at l;omega
theorem dH(D:Jd d=d)(r:d≠[])(h:Dv d (Jr (Jb d) f)):∀(n:Nat) (u:List Rat),Jd u=u->d.length-u.length<=n->Dv u d->DU u f->Dv u [1]:=by
 intro n;induction n with
 |zero=>
  intro u b hl p l;obtain⟨m,o,e⟩:=p.some D;have a:u≠[]:=λg=>r (by rw[e,g];rfl);have w:m≠[]:=λg=>r (by rw[e,g];exact YW _);have l1:=JA b o a w;rw[<-e]at l1;have p3:0<u.length:=Ae.2 a;have Q:m.length<=1:=O
  have R:=Ig o w Q;have P:Dv d u:=by
   obtain⟨c,j⟩:=R;refine⟨c,λx=>?_⟩;have y:=j x;rw[e,Jg,Rat.mul_assoc,<-y];simp[ev];grind
  have i:Dv u (Jr f (Jb d)):=by
   obtain⟨c,j⟩:=p.trans h;exact⟨c,λx=>by rw[<-j,Jg,Jg];grind⟩
  have z:=l.dv i;refine KG b a ?_;obtain⟨k,hk,S⟩:=P.anti D b p;have A:Jb u=DN k (Jb d):=by
   refine Xr (Jq _) (JP _ _) λx=>?_;rw[S,JJ];have B:DN k d=Jr d [k]:=Xr (JP _ _) (J2 _ _) λx=>by rw[JJ,Jg];simp[ev];grind
   rw[B,Yo];have L:ev (Jb [k]) x=0:=by rw[Xk];simp[dv,ev];grind
   rw[L];simp[ev];grind
  rw[A];exact z.sc k
 |succ n X=>
  intro u b hl p l;obtain⟨m,o,e⟩:=p.some D;have a:u≠[]:=λg=>r (by rw[e,g];rfl);have w:m≠[]:=λg=>r (by rw[e,g];exact YW _);obtain⟨T,U,s,t,V⟩:=Y4 b o;have K:=Xm b o (Or.inl a);have H:=Yi u m;by_cases W:(Jz u m).length<=1
  . obtain⟨c,j⟩:=Ig H K W;have N:DU u m:=⟨Jr s c,Jr t c,λx=>by
     have y:=j x;have i:=V x;rw[Jg,Jg];have z:ev [1] x=1:=by simp[ev];grind
     rw[z]at y;grind⟩
    have i:Dv u (Jr f (Jr m (Jb u))):=by
     obtain⟨v,q⟩:=h;refine⟨JD (Jr m v) (Jr f (Jb m)),λx=>?_⟩;have A:=q x;have B:=Yo u m x;rw[<-e]at B;have L:ev d x=ev u x*ev m x:=by rw[e,Jg]
     rw[Jg]at A;rw[Jg,Jg,Y9,Jg,Jg];grind
    exact KG b a (N.dv (l.dv i))
  . have M:Dv (Jr u (Jz u m)) d:=by
     obtain⟨v,q⟩:=U;exact⟨v,λx=>by rw[e,Jg,q,Jg];grind⟩
    have l1:=JA b H a K;have p3:0<u.length:=Ae.2 a;have i:=X (Jr u (Jz u m)) (J2 _ _) O M (l.symm.mul (l.of_dv T).symm).symm;obtain⟨v,q⟩:=i;exact⟨Jr (Jz u m) v,λx=>by rw[q,Jg,Jg];grind⟩
structure Yun(R w y:List Rat):Prop where
 tR:Jd R=R
 R0:R≠[]
 tw:Jd w=w
 w0:w≠[]
 mw:Jp w=w
 ty:Jd y=y
 eq:∀x,ev y x*ev R x=ev w x*ev (Jb R) x
 cop:DU w y
theorem Yun.dv(h:Yun R w y):Dv w R:=by
 refine h.cop.dv ⟨Jb R,λx=>?_⟩;rw[Jg,h.eq]
theorem OI(f:Jd w=w)(w0:w≠[])(mw:Jp w=w)(d:Jd g=g)(p:Jp g=g)(h:Dv g w):Jp (Jo w g)=Jo w g/\g≠[]/\Jo w g≠[]/\w=Jr g (Jo w g):=by
 have a:g≠[]:=λe=>w0 (by
  obtain⟨c,m⟩:=h;exact Yv f λx=>by rw[m,e];simp[ev])
 have e:=(JO d a h).2;have b:w=Jr g (Jo w g):=Xr f (J2 _ _) λx=>by rw[Jg,<-e]
 have q0:Jo w g≠[]:=λj=>w0 (by rw[b,j];exact YW _);refine⟨?_,a,q0,b⟩;have l:=JA d (YV w g) a q0;have r:0<g.length:=Ae.2 a;have q:0<(Jo w g).length:=Ae.2 q0;have i:cf w (w.length-1)=cf g (g.length-1)*cf (Jo w g) ((Jo w g).length-1):=by
  obtain⟨Q,k⟩:=ex (Jo w g);rw[k]at b l q ⊢;rw[b,l,show g.length+Q.length-1-1=(g.length-1)+(Q.length-1)by omega];unfold Jr;rw[Yf];exact MW g Q (g.length-1) (Q.length-1) O O
 have o:cf w (w.length-1)=1:=by have:=Lv f w0;rwa[mw]at this
 have n:cf g (g.length-1)=1:=by have:=Lv d a;rwa[p]at this
 rw[o,n,Cn]at i;unfold Jp;rw[<-i,show(1:Rat)/1=1 by grind];exact Ic (YV _ _)
theorem Yun.step(h:Yun R w y):Jz w (Jo R w)=Jo w (Jz w (JD y (Jb w)))/\Jo w (Jz w (Jo R w))=Jz w (JD y (Jb w))/\
 Yun (Jo R w) (Jo w (Jz w (JD y (Jb w)))) (Jo (JD y (Jb w)) (Jz w (JD y (Jb w))))/\R=Jr w (Jo R w)/\
 (∀x,ev (JD y (Jb w)) x*ev (Jo R w) x=ev w x*ev (Jb (Jo R w)) x)/\w=Jr (Jz w (JD y (Jb w))) (Jo w (Jz w (JD y (Jb w)))):=by
 obtain⟨r,hr⟩:=ex (Jo R w);obtain⟨z,M⟩:=ex (JD y (Jb w));have tr:Jd r=r:=by rw[<-hr];exact YV _ _
 have T:Jd z=z:=by rw[<-M];exact Yh _ _
 have eR:∀x,ev R x=ev w x*ev r x:=by rw[<-hr];exact(JO h.tw h.w0 h.dv).2
 have U:R=Jr w r:=Xr h.tR (J2 _ _) λx=>by rw[Jg,eR]
 have r0:r≠[]:=λe=>h.R0 (by rw[U,e];exact YW _);have X:∀x,ev z x*ev r x=ev w x*ev (Jb r) x:=by
  have b:=Yt (g:=w) (u:=Jr z r) (v:=Jr w (Jb r)) h.tw h.w0 (λx=>by
   have a:=h.eq x;have i:=Yo w r x;rw[<-U]at i;rw[Jg,Jg,<-M,Y9];have K:=eR x;grind)
  intro x;have a:=b x;rwa[Jg,Jg]at a
 have W:=Jq r;obtain⟨d,B⟩:=ex (Jz r (Jb r));have H:Jd d=d:=by rw[<-B];exact Yi _ _
 have d0:d≠[]:=by rw[<-B];exact Xm tr W (Or.inl r0)
 obtain⟨g1,g2,_⟩:=Y4 tr W;rw[B]at g1 g2;obtain⟨f,hf⟩:=ex (Jo r d);obtain⟨e,he⟩:=ex (Jo (Jb r) d);have q:∀x,ev r x=ev d x*ev f x:=by rw[<-hf];exact(JO H d0 g1).2
 have ee:∀x,ev (Jb r) x=ev d x*ev e x:=by rw[<-he];exact(JO H d0 g2).2
 have tf:Jd f=f:=by rw[<-hf];exact YV _ _
 have f0:f≠[]:=λe2=>r0 (Yv tr λx=>by rw[q,e2];simp[ev]);have Qi:DU f e:=by
  have:=OH tr W (by rw[B];exact d0);rwa[B,hf,he]at this
 have Qh:∀x,ev z x*ev f x=ev w x*ev e x:=by
  have b:=Yt (g:=d) (u:=Jr z f) (v:=Jr w e) H d0 (λx=>by
   have a:=X x;rw[q,ee]at a;rw[Jg,Jg];grind)
  intro x;have a:=b x;rwa[Jg,Jg]at a
 have Qg:Dv f w:=Qi.dv (⟨z,λx=>by rw[Jg];have:=Qh x;grind⟩);obtain⟨k,tk,ek⟩:=Qg.some h.tw;have j:∀x,ev w x=ev f x*ev k x:=λx=>by rw[ek,Jg]
 have V:∀x,ev z x=ev k x*ev e x:=by
  have b:=Yt (g:=f) (u:=z) (v:=Jr k e) tf f0 (λx=>by
   have a:=Qh x;rw[j]at a;rw[Jg];grind)
  intro x;have a:=b x;rwa[Jg]at a
 obtain⟨P,l⟩:=ex (Jz w z);have m:Jd P=P:=by rw[<-l];exact Yi _ _
 have mP:Jp P=P:=by rw[<-l];exact X3 h.tw T
 obtain⟨Q,p2,_⟩:=Y4 h.tw T;have Qo:Dv k P:=by rw[<-l];exact OG h.tw T ⟨f,λx=>by rw[j];grind⟩ ⟨e,V⟩
 rw[l]at Q p2;have Qm:Dv P k:=by
  obtain⟨u,v,D⟩:=Qi;refine Q.comb p2 u v λx=>?_;have b:=D x;rw[j,V];grind
 obtain⟨m1,p,N,eW⟩:=OI h.tw h.w0 h.mw m mP Q;have zP:=(JO m p p2).2;have o:=(JO m p Q).2;have Ql:DU k y:=h.cop.of_dv ⟨f,λx=>by rw[j];grind⟩;have Qq:DU k f:=by
  obtain⟨u,v,D⟩:=Ql;refine⟨XI u (Jr v (XI e (Jb f))),Jr v (Jb k),λx=>?_⟩;have b:=D x;have a:ev y x=ev z x+ev (Jb w) x:=by rw[<-M,Y9];grind
  have i:=Yo f k x;rw[<-ek]at i;have K:=V x;rw[YK,Jg,Jg,YK];grind
 have Qj:Dv d (Jr (Jb d) f):=by
  refine⟨JD e (Jb f),λx=>?_⟩;have b:r=Jr d f:=Xr tr (J2 _ _) λx=>by rw[Jg,q]
  have a:=Yo d f x;rw[<-b,ee]at a;rw[Jg,Y9];grind
 have Qp:DU k d:=by
  obtain⟨q1,q2,s,t,q3⟩:=Y4 tk H;obtain⟨c,A⟩:=dH H d0 Qj (d.length) (Jz k d) (Yi _ _) O q2 (Qq.of_dv q1);refine⟨Jr s c,Jr t c,λx=>?_⟩;have b:=A x;have a:=q3 x;have i:ev [1] x=1:=by simp[ev];grind
  rw[i]at b;rw[Jg,Jg];grind
 obtain⟨c1,c2,s,t,c3⟩:=Y4 h.tw tr;have Qk:Dv f (Jz w r):=OG h.tw tr Qg ⟨d,λx=>by rw[q];grind⟩;have Qs:Dv (Jz w r) f:=by
  obtain⟨u,v,D⟩:=Qp;refine c1.comb c2 u v λx=>?_;have b:=D x;rw[j,q];grind
 obtain⟨n,L⟩:=ex (Jo w P);rw[L]at m1 N eW o;have S:Jd n=n:=by rw[<-L];exact YV _ _
 have Qt:Dv f n:=by
  obtain⟨c,A⟩:=Qm;refine⟨c,λx=>?_⟩;have b:=Yt (g:=P) (u:=n) (v:=Jr f c) m p (λx=>by
   have a:=o x;have i:=j x;have K:=A x;rw[Jg];grind)
  have a:=b x;rwa[Jg]at a
 have Qn:Dv n f:=by
  have k0:k≠[]:=λe2=>h.w0 (by rw[ek,e2];exact YW _);obtain⟨c,A⟩:=Qo;refine⟨c,λx=>?_⟩;have b:=Yt (g:=k) (u:=f) (v:=Jr n c) tk k0 (λx=>by
   have a:=o x;have i:=j x;have K:=A x;rw[Jg];grind)
  have a:=b x;rwa[Jg]at a
 have hG:Jz w r=n:=Dv.eq (Yi _ _) S (X3 h.tw tr) m1 (Qs.trans Qt) (Qn.trans Qk);have Qr:Dv n w:=⟨P,λx=>by rw[o];grind⟩;have Qb:Jo w n=P:=by
  refine Xr (YV _ _) m λx=>?_;have b:=(JO S N Qr).2;refine Yt (g:=n) (u:=Jo w n) (v:=P) S N (λx=>?_) x;have a:=b x;have i:=o x;grind
 rw[hr,M,l,L];refine⟨hG,by rw[hG];exact Qb,⟨tr,r0,S,N,m1,YV _ _,λx=>?_,?_⟩,U,X,eW⟩
 . refine(Yt (g:=P) (u:=Jr (Jo z P) r) (v:=Jr n (Jb r)) m p (λx=>?_) x |> λb=>by rwa[Jg,Jg]at b);have a:=X x;have i:=zP x;have K:=o x;rw[Jg,Jg];grind
 . have:=OH h.tw T (by rw[l];exact p);rwa[l,L]at this
theorem Yun.start(tp:Jd p=p)(p0:p≠[])(i:Jp p=p):Yun p (Jo p (Jz p (Jb p))) (Jo (Jb p) (Jz p (Jb p))):=by
 have ts:=Jq p;obtain⟨b,f,_⟩:=Y4 tp ts;have a:=Xm tp ts (Or.inl p0);obtain⟨g,_,j,e⟩:=OI tp p0 i (Yi _ _) (X3 tp ts) b;have c:=(JO (Yi p (Jb p)) a b).2;have d:=(JO (Yi p (Jb p)) a f).2;refine⟨tp,p0,YV _ _,j,g,YV _ _,λx=>?_,OH tp ts a⟩;have k:=c x;have l:=d x;grind
end
section
open Go.RowKit Go.Shelf
def Cd(M:Nat)(p:List Rat):Prop:=∃D:Int,D≠0/\Sm M D/\D6 D M p
section
variable {M N:Nat} {p q:List Rat}
theorem Cd.mono(h:Cd M p)(a:M<=N):Cd N p:=by
 obtain⟨D,d1,b,c⟩:=h;exact⟨D,d1,b.mono a,λi=>(c i).mono a⟩
theorem Cd.smq(h:Cd M p)(i:Nat):DQ M (cf p i):=by
 obtain⟨D,d1,a,b⟩:=h;exact(b i).smq d1 a
theorem Cd.ln(h:Cd M p):Ln M p:=by
 obtain⟨D,d1,b,a⟩:=h;exact a.ln d1
theorem Cd.sqs(h:Cd M p)(a:M<=1000000000):Sqs p:=Sqs.of λi=>Sq.of (h.smq i) a
theorem Cd.pos(h:Cd M p):1<=M:=by
 obtain⟨D,d1,a,_⟩:=h;by_cases b:1<=M
 . exact b
 . exfalso
   obtain rfl:M=0:=O
   unfold Sm at a
   have:D.natAbs≠0:=Int.natAbs_ne_zero.2 d1
   simp at a;omega
theorem Cd.mon(h:Cd M p)(tp:Jd p=p):Cd M (Jp p):=Ly tp h.ln h.pos
theorem Cd.monS(h:Cd M p)(tp:Jd p=p)(b:M<=1000000000)(i:Nat):Sq (cf p i/cf p (p.length-1)):=by
 have a:=Ln.sqs tp h.ln h.pos i;unfold Jp at a;rw[Yu,Fh,Cn,<-Fh]at a;exact Sq.of a b
theorem Cd.dvn(h:Cd M p)(f:Cd M q)(g:cf q (q.length-1)=1):∃D E:Int,Dvn D E E M M p q:=by
 obtain⟨D,d1,c,d⟩:=h;obtain⟨E,a,b,e⟩:=f;exact⟨D,E,d1,c,d,a,b,e,a,b,by rw[g,Rat.divInt_self' a]⟩
end
theorem dI{q:List Rat}(tq:Jd q=q)(q0:q≠[])(a:Jp q=q):cf q (q.length-1)=1:=by
 have:=Lv tq q0;rwa[a]at this
def Dk(p q:List Rat):List Rat:=if q=[]then []else Jo p q
def dJ(p:List Rat):List Rat:=Jp (Dk p (Jz p (Jb p)))
namespace M3
variable{p q:List Rat}{K:Nat}
theorem Chn.ends(d:ChOk K p q):∀(n:Nat) (a b:List Rat),b.length<=n->Chn p q (DY K p q) a b->∃r,Chn p q (DY K p q) r []:=by
 intro n;induction n with
 |zero=>
  intro a b hl h;have c:b=[]:=Kl O;subst c;exact⟨a,h⟩
 |succ n e=>
  intro a b hl h;by_cases c:b=[]
  . subst c;exact⟨a,h⟩
  . have f:=YZ (a:=a) h.tb c;exact e b (YP a b) O (Chn.next d.tp d.tq d.lp d.lq d.bd.2.2.1 h c)
theorem ChOk.gcd(a:ChOk K p q):Cd (DY K p q) (Jz p q):=by
 obtain⟨r,b⟩:=Chn.ends a _ _ _ (Aa _) (Chn.start a.tp a.tq a.lp a.lq a.bd.2.2.1);rw[<-b.gc,RV];exact Ly b.ta b.wa.ln a.bd.2.2.2
theorem dK(M:Nat)(v:I)(p:List Rat)(w:G)(h:Je w v p)(tp:Jd p=p)(b:Cd M p)(a:M<=1000000000):
 Calls Tryz.prog 88 #[v] w λe c=>∃u,e=.returned u/\Je c u (Jp p)/\Bl w c:=
 Rm v p w h (b.sqs a) tp λi=>b.monS tp a i
theorem dL(M:Nat)(a b:I)(p q:List Rat)(w:G)(d:Je w a p)(f:Je w b q)(hp:Cd M p)(hq:Cd M q)(tp:Jd p=p)(tq:Jd q=q)(j:Jp q=q)(n:2*((p.length+3)*(M+1))<=1000000000):
 Calls Tryz.prog 139 #[a,b] w λe c=>∃u v,e=.returned (.tuple #[u,v,.bool (decide (q≠[]))])/\Je c u (if q=[]then []else Jo p q)/\Je c v (if q=[]then []else JK p q)/\Bl w c:=by
 have k:(p.length+3)*(M+1)=p.length*(M+1)+3*(M+1):=AJ _ _ _;refine RM M a b p q w d f (hp.sqs O) hq.smq tp tq λq0=>?_;obtain⟨D,E,g⟩:=hp.dvn hq (dI tq q0 j);obtain⟨m,i⟩:=ex (p.length-(q.length-1));have l:m*(M+1)<=p.length*(M+1):=Aj _ O;rw[i];exact g.sizes O
attribute [local go_sem] Oper.semAt_some
theorem L3(M:Nat)(S T:I)(p q:List Rat)(w:G)(y:Je w S p)(z:Je w T q)(hp:Cd M p)(hq:Cd M q)(tp:Jd p=p)(tq:Jd q=q)(R:Jp q=q)(L:2*((p.length+3)*(M+1))<=1000000000):
 Calls Tryz.prog 89 #[S,T] w λe U=>∃u,e=.returned u/\Je U u (Dk p q)/\Bl w U:=by
 obtain⟨k,la,l,rfl⟩:=y.form;obtain⟨m,lb,n,rfl⟩:=z.form;have s:=(((Mem.nil w).push (.cell 25 (C k la l)) (cs:=#[C k la l]) ⟨rfl,rfl⟩).push (.cell 25 (C m lb n)) (cs:=#[C m lb n]) ⟨rfl,rfl⟩).push (.cell 25 (C none 0 0)) (cs:=#[C none 0 0]) ⟨rfl,rfl⟩;simp only[Ax]at s;obtain⟨W0,t⟩:=ex (((w.alloc (F #[C k la l] 25)).alloc (F #[C m lb n] 25)).alloc (F #[C none 0 0] 25));have D:=Ja t;have a:Hid (Mem w W0 [some (w.heap.size,.cell 25 (C k la l)),some (w.heap.size+1,.cell 25 (C m lb n)),some (w.heap.size+1+1,.cell 25 (C none 0 0))]):=Ja (by rw[<-t];exact s);have r:=Ja (dL M _ _ p q W0 (y.below a.o.2.2) (z.below a.o.2.2) hp hq tp tq R L);obtain⟨bq,N⟩:=ex (decide (q≠[]));rw[N,show(if q=[]then []else Jo p q)=Dk p q from rfl]at r;have c0:=(a.o.cell (i:=0) rfl).1.cell;have c1:=(a.o.cell (i:=1) rfl).1.cell;have X:=(a.o.cell (i:=2) rfl).1;have B:=Ja a.o.2.2;clear s t y z hp hq tp tq R L N a;go_enter Tryz.func89,Tryz.ntmps89
 go_upto_region 1 with fail
 rw[D.o];clear D;go_upto_region 2 with(go_at_call 139;refine r.o.mono ?_;clear r;rintro e o ⟨u4,v4,rfl,A,P,g⟩;obtain⟨b,d,c,rfl⟩:=A.form;obtain⟨H,Q,K,rfl⟩:=P.form)
 have f:Bl o ((o.alloc (F #[C b d c] 25)).alloc (F #[C H Q K] 25)):=(Ba o _).alloc (by rw[Ax];omega) _;have nb:=(BG o 25 (C b d c)).alloc (F #[C H Q K] 25);have e5:=nb.cell;have j:=boxed_below (boxed_below X g) f;have x0:=j.cell;have x1:=j.frozen;have W:=Ja (Ko j (x:=C b d c) (A.below f));have V:=Ja (((Bt B.o g).trans (f.mono (An B.o.size g.size))).setCell (p:=⟨w.heap.size+1+1,0,none⟩) (by show w.heap.size<=w.heap.size+1+1;omega) (C b d c));clear c0 c1 A P g nb j f;go_wp2_with fail
 exact BB (v:=.agg #[C b d c]) (by simp[results,Tryz.results89,go_sem,x0]) rfl ⟨_,rfl,W.o,V.o⟩
structure FrOk(K:Nat)(p:List Rat):Prop where
 ch:ChOk K p (Jb p)
 le:(p.length+3)*(DY K p (Jb p)+1)*2<=1000000000
end M3
end
section
open Go.RowKit Go.Shelf
attribute [local go_sem] Oper.semAt_some
theorem _root_.Go.Boxed.bel{W W':G}{B:Nat}{t:TypeId}{v:I}(h:Boxed W B t v)(a:Bl W W'):Boxed W' B t v:=(a.block B h.lt).trans h
end
section
open Go.RowKit Go.Shelf
variable{p q:List Rat}{A K:Nat}
theorem Cd.dvnG(h:Cd K p)(i:Cd A q)(tq:Jd q=q)(q0:q≠[]):∃D E l:Int,Dvn D E l K A p q:=by
 obtain⟨D,d1,c,d⟩:=h;obtain⟨E,f,g,a⟩:=i;obtain⟨n,b,j⟩:=a (q.length-1);refine⟨D,E,n,d1,c,d,f,g,a,λe=>?_,j,b⟩;exact Js tq q0 (by rw[b,e];simp)
theorem Cd.quoG(h:Cd K p)(c:Cd A q)(tq:Jd q=q)(q0:q≠[]):Cd (K+p.length*(A+1)+1) (Jo p q):=by
 obtain⟨D,E,l,b⟩:=h.dvnG c tq q0;obtain⟨m,e⟩:=ex (p.length-(q.length-1));have a:=b.den m;have d:=b.rem e;have f:m*(A+1)<=p.length*(A+1):=Aj _ O;exact⟨_,a.1,a.2.mono O,λi=>(d.2 i).mono O⟩
namespace M3
theorem dM(K A:Nat)(a b:I)(p q:List Rat)(w:G)(d:Je w a p)(f:Je w b q)(hp:Cd K p)(hq:Cd A q)(tp:Jd p=p)(tq:Jd q=q)(q0:q≠[])(k:2*(K+p.length*(A+1)+1)+2*(2*A+1)<=1000000000):
 Calls Tryz.prog 139 #[a,b] w λe c=>∃u v,e=.returned (.tuple #[u,v,.bool true])/\Je c u (Jo p q)/\Je c v (JK p q)/\Bl w c:=by
 obtain⟨D,E,l,g⟩:=hp.dvnG hq tq q0;obtain⟨m,i⟩:=ex (p.length-(q.length-1));have j:m*(A+1)<=p.length*(A+1):=Aj _ O;refine Ri A a b p q w d f (hp.sqs O) hq.smq tp tq q0 ?_;rw[i];exact g.sizes O
attribute [local go_sem] Oper.semAt_some
end M3
end
theorem Gh{a b:Rat}(c:0<a)(d:0<b):∃e,0<e/\e<=a/\e<=b:=by
 rcases J9 a b with h|h
 . exact⟨a,c,Rat.le_refl,h⟩
 . exact⟨b,d,h,Rat.le_refl⟩
theorem XD{w:List Rat}(tw:Jd w=w)(w0:w≠[])(hl:w.length<=1)(x y:Rat):DR w x y:=by
 match w,w0,hl with
 |[c],_,_=>
  have c0:c≠0:=by
   have:=Js tw Z;simpa[cf]using this
  exact Yr c0 (λx=>Jm c x) x y
theorem L4:∀(n:Nat) (R w y:List Rat),R.length<=n->Yun R w y->∀ {B:Rat},0<=B->∃k,0<k/\Sh B λx z=>¬DR w x z->k<=ev y x*ev (Jb w) x/\k<=ev y z*ev (Jb w) z:=by
 intro n;induction n with
 |zero=>intro R w y hn h;exact absurd (Az.1 O) h.R0
 |succ n ih=>
  intro R w y hn h B i;by_cases hl:w.length<=1
  . exact⟨1,DF,Sh.all λx z _ _ _ S=>absurd (XD h.tw h.w0 hl x z) S⟩
  . obtain⟨_,_,f,eR,_,m⟩:=h.step;have tz:=Yh y (Jb w);have Qa:∀x,ev (JD y (Jb w)) x=ev y x-ev (Jb w) x:=λx=>Y9 _ _ _;obtain⟨z,hz⟩:=ex (JD y (Jb w));rw[hz]at f m tz Qa;obtain⟨g1,g2,_⟩:=Y4 h.tw tz;have a0:=Xm h.tw tz (Or.inl h.w0);have P:=(JO (Yi w z) a0 g2).2;obtain⟨a,ha⟩:=ex (Jz w z);rw[ha]at f m P;obtain⟨g,bk⟩:=ex (Jo w a);rw[bk]at f m;obtain⟨L,bl⟩:=ex (Jo z a);rw[bl]at f P;obtain⟨R2,bh⟩:=ex (Jo R w);rw[bh]at f eR;have lR:R2.length<=n:=by
     have:=JA h.tw f.tR h.w0 f.R0;rw[<-eR]at this;omega
    obtain⟨T,bm,W⟩:=ih R2 g L lR f i;have s:∀x,ev w x=ev a x*ev g x:=λx=>by
     have:=Jg a g x;rwa[<-m]at this
    have fd:∀x,ev (Jb w) x=ev (Jb a) x*ev g x+ev a x*ev (Jb g) x:=λx=>by
     have:=Yo a g x;rwa[<-m]at this
    have fy:∀x,ev (Jb w) x=ev y x-ev a x*ev L x:=λx=>by
     have D:=Qa x;have f:=P x;grind
    obtain⟨u,v,ae⟩:=h.cop;obtain⟨U,pU,hU⟩:=Xp u i;obtain⟨V,j,hV⟩:=Xp v i;obtain⟨ce,pY,hY⟩:=Xp y i;obtain⟨A,pA,hA⟩:=Xp a i;obtain⟨A1,ai,hA1⟩:=Xp (Jb a) i;obtain⟨W2,bu,bj⟩:=Xp g i;obtain⟨o,cl,bi⟩:=Xp (Jb g) i;obtain⟨N,bz,ad⟩:=Xp L i;have c:∀ {a b:Rat},0<a->0<b->0<a*b:=λD f=>Rat.mul_pos D f;obtain⟨e1,am,an⟩:=small (Rat.le_of_lt (c pU bu)) (show(0:Rat)<1/4 by grind);obtain⟨e2,ap,aq⟩:=small (Rat.le_of_lt (c (c j j) (c pY bz))) (show(0:Rat)<1/16 by grind);obtain⟨e,e0,bf,bg⟩:=Gh am ap;have l:0<V*(o+N):=c j (by grind);obtain⟨M,hM⟩:=ex (V*(o+N));obtain⟨e3,aw,ax⟩:=small (Rat.le_of_lt (c pU pA)) (show(0:Rat)<1/4 by grind);obtain⟨e4,ay,az⟩:=small (Rat.le_of_lt (c j ai)) (show(0:Rat)<1/4 by grind);obtain⟨e5,ba,bc⟩:=small (Rat.le_of_lt (c (c l l) (c ai (c pA (show 0<o+o+N by grind))))) (show(0:Rat)<T/8 by grind);obtain⟨d1,aj,ci,cj⟩:=Gh aw ay;obtain⟨d,d0,ck,ak⟩:=Gh aj ba;obtain⟨k,k0,bn,bt⟩:=Gh (Yy (show(0:Rat)<1/2 by grind) (c j j)) (Yy (show(0:Rat)<T/8 by grind) (c l l));refine⟨k,k0,(((GX a i e0).and (GX g i d0)).and W).mono λx H hx af _ ⟨⟨ta,tw⟩,W⟩ S=>?_⟩;have ah:∀ {K r t:Rat},0<K->r<=K*t->k<=r/K->k<=t:=fun {K r t} hK D f=>by
     have h3:r/K*K=r:=Ap (by grind);rcases J9 k t with h4|h4
     . exact h4
     . have:=Rat.mul_nonneg (a:=K) (b:=k-t) (by grind) (by grind);have:=Rat.mul_nonneg (a:=r/K-k) (b:=K) (by grind) (by grind);rcases J9 t k with Q|Q
       . rcases Rat.le_iff_lt_or_eq.1 Q with h6|h6
         . have:=Rat.mul_pos (a:=K) (b:=k-t) hK (by grind);grind
         . grind
       . exact Q
    have ca:∀p,Wi B p->Wi e (ev a p)->k<=ev y p*ev (Jb w) p:=λp hp hq=>by
     have:=TO (hU p hp) (hV p hp) (hY p hp) hq (bj p hp) (ad p hp) (ae p) (s p) (by have:=an e bf;grind) (by have:=aq e bg;grind);rw[<-fy p]at this;exact ah (c j j) this bn
    have cw:∀p,Wi B p->Wi d (ev g p)->T<=ev L p*ev (Jb g) p->k<=ev y p*ev (Jb w) p:=λp hp hq hk=>by
     have h9:=TP (hU p hp) (hV p hp) (hA p hp) (hA1 p hp) hq (bi p hp) (ad p hp) (ae p) (s p) (by have D:=fy p;have h3:=fd p;grind) bm hk (by have:=ax d (by grind);grind) (by have:=az d (by grind);grind) (by have:=bc d ak;grind);rw[<-fd p]at h9;exact ah (c l l) h9 bt
    by_cases sa:DR a x H
    . have sw:¬DR g x H:=λq=>S (by
       unfold DR at *;rw[s,s];have:=Rat.mul_pos sa q;grind)
      obtain⟨X,t2⟩:=tw sw;obtain⟨r1,r2⟩:=W sw;exact⟨cw x hx X r1,cw H af t2 r2⟩
    . obtain⟨X,t2⟩:=ta sa;exact⟨ca x hx X,ca H af t2⟩

