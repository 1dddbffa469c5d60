import Derived.Test.YtakpoihdghihmaaGreatDoorM44
open Go.Value renaming slice->C,pointer->B
open Go renaming World->G,Value->I
set_option maxRecDepth 100000
set_option maxHeartbeats 16000000
namespace Go.Proofs.YtakpoihdghihmaaGreatDoor
namespace M3
open Go.RowKit Go.Shelf
attribute [local go_sem] Oper.semAt_some
def Hh(ty:TypeId)(W W':G):Prop:=∀B,B<W.heap.size->(∀cs m,W.heap[B]?≠some (.cells cs ty m))->W'.heap[B]?=W.heap[B]?
variable{cs:List I}{c g l n:Nat}{f:Nat->List Rat}{a:Option Addr}{ty:TypeId}{v:I}{V W W':G}
theorem Hh.at(h:Hh ty W W'){B:Nat}{cs:Array I}{t:TypeId}{m:Nat × Nat}(a:W.heap[B]?=some (.cells cs t m))(b:t≠ty):W'.heap[B]?=W.heap[B]?:=
 h B (Ab.1 a).1 λc d e=>by
  rw[a]at e;simp only[Ak,Bu]at e;exact b e.2.1
theorem Hh.row(h:Hh ty W W')(d:∀k,KL k≠ty){k:IntKind}{ds:List Nat}(s:Row k W v ds):Row k W' v ds:=by
 obtain⟨a,c,e,l,n,o,f⟩:=s;refine⟨a,c,e,l,n,o,?_⟩;rcases f with f|⟨b,off,i,g,q⟩
 . exact Or.inl f
 . obtain⟨cs,m,p⟩:=id g;have d:=h.at p (d k);refine Or.inr ⟨b,off,i,g.of d,λj r=>?_⟩;rw[<-q j r];simp only[World.cell?,d]
theorem Hh.rowK(h:Hh ty W W')(r:∀k,KL k≠ty)(s:∀k,Dh k≠ty){k:Bool}{qs:List Rat}(D:RowK k W v qs):RowK k W' v qs:=by
 obtain⟨a,cap,e,o,p,q,c⟩:=D;refine⟨a,cap,e,o,p,q,?_⟩;rcases c with c|⟨b,n,cs,d,w⟩
 . exact Or.inl c
 . refine Or.inr ⟨b,n,cs,(h.at d (s k)).trans d,λj A=>?_⟩;obtain⟨x,y,z,u,f,i,l,m,t⟩:=w j A;exact⟨x,y,z,u,f,i,l,m,t.keep λ_ _ _ g=>h.row r g⟩
theorem Zy(k:IntKind):KL k≠25:=by cases k<;>decide
theorem Zz(k:Bool):Dh k≠25:=by cases k<;>decide
theorem XK.far{base:Nat}(h:XK ty base W v cs)(c:∀B,B<W.heap.size->X1 v≠some B->W'.heap[B]?=W.heap[B]?):Hh ty W W':=λB b d=>c B b λe=>by
 rcases h with⟨rfl,_⟩|⟨g,cap,f,rfl,i,a,j⟩
 . cases e
 . cases e;exact d _ _ a
theorem Ev.keep{W W':G}{cs:List I}{L:List (List Rat)}(h:Ev W cs L)(a:∀v p,Jf W v p->Jf W' v p):Ev W' cs L:=GO.keep h λ_ _=>a _ _
def Ey(w:G)(B4 B5:Nat)(H:List (List Rat))(W:G):Prop:=
 ∃v cs,Boxed W w.heap.size 120 v/\XK 25 (w.heap.size+1) W v cs/\Ev W cs H/\X1 v≠some B4/\X1 v≠some B5/\Bl w W
theorem Ey.own(w:G)(B4 B5 B:Nat)(m:w.heap.size<=B):OwnFrom B (Ey w B4 B5):=by
 rintro H W W' row ⟨v,cs,f,g,i,j,l,c⟩ a d;have b:∀r,row=some r->∃o:Obj,W.heap[r]?=some o/\o.isCells=false:=λr e=>(d r e).2;exact⟨v,cs,Ya a b f,g.own a b,i.keep λ_ _ h=>Mw a b h,j,l,c.grown a c.size λk e=>An m (d k e).1⟩
theorem Ey.bel(w:G)(B4 B5:Nat):GB (Ey w B4 B5):=by
 rintro H W W' ⟨v,cs,b,c,d,e,f,g⟩ a;exact⟨v,cs,boxed_below b a,c.below a,d.keep λ_ _ h=>h.below a,e,f,Bt g a⟩
theorem Ey.set(w:G)(B4 B5:Nat)(q:w.heap.size+1<=B4)(r:w.heap.size+1<=B5):I5 B4 B5 (Ey w B4 B5):=by
 rintro H W B a l c u n o ⟨v,cs,i,j,k,d,f,m⟩;refine⟨v,cs,Boxed.other i Y u,j.keep λg e _ _=>BD W ⟨B,0,none⟩ u g λb=>?_,k.keep λ_ _ h=>h.setB o,d,f,m.setCell (p:=⟨B,0,none⟩) (by show w.heap.size<=B;omega) u⟩;have b:g=B:=b;subst b;rcases n with rfl|rfl
 . exact d e
 . exact f e
theorem Ey.app{w:G}{B4 B5:Nat}{H:List (List Rat)}(F:Boxed W w.heap.size 120 v)(f:XK 25 (w.heap.size+1) W v cs)(Q:Ev W cs H)(D:X1 v≠some B4)(E:X1 v≠some B5)(R:Bl w W)(X:B4<W.heap.size)(l5:B5<W.heap.size){r:List Rat}(U:Jf W (.agg #[C a l c]) r)(hl:cs.length+1<=1099511627776):
 ∃x y z d,(Builtin.append_ #[120,120] 120 #[v,C (some ⟨W.heap.size,0,none⟩) 1 1]).run Tryz.prog (W.alloc (.cells #[C a l c] 25))=.ok (C x y z) d/\Boxed d w.heap.size 120 v/\∀(b:Nat) (A:Act),b=w.heap.size+1->P9 b B4 B5 (Ey w B4 B5) (H++[r]) W .normal A (d.setCell ⟨w.heap.size,0,none⟩ (C x y z)):=by
 have s:w.heap.size<W.heap.size:=(Ab.1 F).1;obtain⟨v',d,e,K,far,bel,sz,P⟩:=VB VD (w.heap.size+1) W v cs f (x:=C a l c) rfl hl s;obtain⟨x,z,rfl,_⟩:=K.form;have M:X1 v≠some w.heap.size:=λe=>by have:=(f.lt e).2;omega
 have j:Boxed d w.heap.size 120 v:=(far _ s M).trans F;have L:=XK.far f far;have q:∀v p,Jf W v p->Jf d v p:=λv p h=>by
  obtain⟨u,e,h⟩:=h;exact⟨u,e,L.rowK Zy Zz h⟩
 obtain⟨av,cv,V,_⟩:=f.form;have t:∀u p,Jf d u p->Jf (d.setCell ⟨w.heap.size,0,none⟩ (C x (cs++[Value.slice a l c]).length z)) u p:=λu p h=>by
  obtain⟨u,e,h⟩:=h;exact⟨u,e,Gx j (o:=0) (by rw[V];rfl) rfl true DB _ _ _ h⟩
 have ne:∀B,B<W.heap.size->X1 v≠some B->X1 (C x (cs++[Value.slice a l c]).length z)≠some B:=λB hB h e=>by
  rcases P with m|⟨g,m,T⟩
  . exact h (m.symm.trans e)
  . rw[m]at e;injection e with e;omega
 refine⟨x,_,z,d,e,j,λb A hb=>⟨⟨_,_,j.set _,K.keep λg e T _=>BD d ⟨w.heap.size,0,none⟩ _ g (by show g≠w.heap.size;omega),Ev.keep ((Ev.keep Q q).snoc (q _ _ U)) t,ne _ X D,ne _ l5 E,?_⟩,?_,λk o hk n i=>?_,λu p h=>t _ _ (q _ _ h)⟩⟩
 . exact(bel _ _ Y R).setCell (p:=⟨w.heap.size,0,none⟩) (Aa _) _
 . rw[World.size_setCell];exact sz
 . have N:=(Ab.1 i).1;rw[BD d ⟨w.heap.size,0,none⟩ _ k (by show k≠w.heap.size;omega)];refine(far k N λe=>?_).trans i;rcases n with n|rfl|rfl
   . rcases f with⟨rfl,_⟩|⟨g,cap,ad,rfl,_,S,_⟩
     . cases e
     . cases e;rw[S]at i;cases i;cases n
   . exact D e
   . exact E e
theorem Z0{F:Fence}{P:Program}(w:G){d:Array Oper}{rest:List Oper}{o:Oper}{a:Act}{Q:Exit->Act->G->Prop}(m:o.guard=none)(s x:Operand)(t:TypeId)
(b:o.op=Op.call { callee:=Callee.builtin Builtin.append,args:=#[s,x],argTypes:=#[t,t] })(f g:I)(q:a.eval s=f)(r:a.eval x=g)(e:I)(i:G)(p:(Builtin.append_ #[t,t] o.type #[f,g]).run P w=.ok e i)
(j:wpListIn F n P d Q rest (a.put o.dst e) i):wpListIn F n P d Q (o::rest) a w:=by
 refine wpListIn_plain m λK k=>?_;unfold Oper.wpIn;refine⟨?_,?_⟩
 . simp[Oper.about,b,resolve,Target.leads,Sem.run_pure]
 . rw[Oper.semAt_plain F _ _ (by rw[b];intro c l;cases l)];simp[execOp,b,resolve,invoke,builtin,q,r,p,Result.andThen];exact k _ _ j
theorem Z1(K:Nat)(s t:Nat)(pa qa:Option Addr)(pl pc ql qc:Nat)(p q:List Rat)(w:G)(A:ChOk K p q)(ad:DY w s pa pl pc)(ae:DY w t qa ql qc)(ip:Jf w (.agg #[C pa pl pc]) p)(iq:Jf w (.agg #[C qa ql qc]) q):
 Calls Tryz.prog 186 #[C none 0 0,.func (.func 136) #[] #[B (some ⟨s,0,none⟩),B (some ⟨t,0,none⟩)]] w λe E=>∃v cs,e=.returned v/\XK 25 (w.heap.size+1) E v cs/\Ev E cs (X3 p q)/\Bl w E:=by
 have g:Bl w (w.alloc (.cells #[C none 0 0] 120)):=Ba w _;obtain⟨N,m⟩:=ex (w.alloc (.cells #[C none 0 0] 120));have X:Boxed N w.heap.size 120 (C none 0 0):=by rw[<-m];exact BG w _ _
 have U:N.heap.size=w.heap.size+1:=by rw[<-m];simp
 rw[m]at g;obtain⟨Qi,Qg,Qh,Qn,Qj,Ql,i,HA⟩:=GH A (ad.below g) (ae.below g) (ip.below g) (iq.below g) X U g;have Qf:=Ja m;have Qk:=Ja (show(X3 p q).length<=1000000000 from by
  have c:∀(n:Nat) (a b:List Rat),(EA n a b).length<=n+1:=λn=>by
   induction n with
    |zero=>intro a b;exact Aa _
    |succ n ih=>
    intro a b;rw[EA];split
    . simp
    . have:=ih b (YK a b);simp only[Ah];omega
  have d:=c (JK q).length (JK p) (JK q);have f:=J6 A.tq;have h4:=A.ln;show(EA _ _ _).length<=_;omega)
 clear A ad ae ip iq X U g m;refine(BH (n:=3)).1 ?_;refine BN Tryz.func186 rfl trivial ?_ rfl;simp only[Tryz.ntmps186,Ar,Ah,Au,Nat.reduceAdd,Nat.reduceSub,Av,Aw,AH,AA,Ap,AC];gi_wp2_with fail
 rw[Qf.o];clear Qf;refine Zx Y Qi.o Qg.o Qh.o Qn.o Qj.o rfl (Bf Tryz.func136 (by kernel_rfl) rfl) rfl
  (λB4 B5=>Ey w B4 B5) (λB4 B5=>Ey.own w B4 B5 _ (by have:=i.o;omega)) (λB4 B5=>Ey.bel w B4 B5)
  (λB4 B5 h4 h5=>Ey.set w B4 B5 (by have:=i.o;omega) (by have:=i.o;omega)) (λB4 B5 V h4 h5 hV=>⟨_,[],boxed_below Ql.o hV,XK.nil _ _ _,⟨rfl,λj p e=>by simp at e⟩,by simp[X1],by simp[X1],Bt HA.o hV⟩)
  (λv b=>{ tmps:=#[C none 0 0,.func (.func 136) #[] #[B (some ⟨s,0,none⟩),B (some ⟨t,0,none⟩)],B (some ⟨w.heap.size,0,none⟩),undef,C none 0 0,B (some ⟨b,0,none⟩),.func (.func 136) #[] #[B (some ⟨s,0,none⟩),B (some ⟨t,0,none⟩)],.agg #[v],undef,undef,undef,undef,undef],defers:=[] }) ?assign ?body ?done
 case assign=>
  intro l x xl xc W K z;gi_wp2;exact z
 case body=>
  rintro l b B4 B5 x xl xc r H W ⟨v,cs,c,d,f,u,y,k⟩ ai hb l4 l5 S hr;have M:=Bx.lt (cs:=#[C x xl xc]) S;obtain⟨xa,xb,an,E,aj,Q,ah⟩:=Ey.app c d f u y k (Nat.lt_trans l4 M) (Nat.lt_trans l5 M) hr (by
   have h8:=ai.length_le;have h9:=Qk.o;have am:=f.1;simp only[Ao,Ah,Au]at h8;omega)
  have Qm:=Ja (ah N.heap.size · i.o);obtain⟨P,R,T,_,_⟩:=d.form;subst T;have e0:=c.cell;have e1:=S.cell;have e2:=Q.cell;have f2:=Q.frozen;clear c d f u y k ai hb l4 l5 S hr M Q ah;gi_wp2_with(gi_at_builtin;refine Z0 _ rfl _ _ 120 rfl _ _ rfl rfl _ _ aj ?_;clear aj)
  exact Qm.o _
 case done=>
  rintro D B4 B5 W H r hD ⟨v,cs,c,d,f,u,y,k⟩ af ak z;obtain⟨P,R,T,_,_⟩:=d.form;subst T;have e0:=c.cell;obtain⟨F,L,HD⟩:=DX (show XK 25 (w.heap.size+1) W (C P cs.length R) cs/\Ev W cs (X3 p q)/\Bl w W from⟨d,by rw[af];exact f,k⟩) z (show w.heap.size<=D by have:=i.o;omega);clear c d f u y k af ak z hD;gi_wp2_with fail
  refine⟨Z,.inl ⟨_,_,rfl,BS L.o,?_⟩⟩;have hg:=BT W D (.deferred none);have Qe:∀r,some D=some r->∃o:Obj,W.heap[r]?=some o/\o.isCells=false:=λr e=>by cases e;exact⟨_,L.o,rfl⟩
  exact⟨C P cs.length R,by simp[results,Tryz.results186,go_sem],_,cs,rfl,F.o.1.own hg Qe,F.o.2.1.keep λ_ _ h=>Mw hg Qe h,F.o.2.2.trans (Bw (w:=w) (Aa _) _ D _ _ HD.o L.o rfl rfl)⟩
def Dx(V:G)(g n:Nat)(f:Nat->List Rat):Prop:=∃cs:Array I,V.heap[g]?=some (.cells cs 25 (0,0))/\∀j,j<n->∃a l c,cs[j]?=some (C a l c)/\RowK true V (C a l c) (f j)
theorem Dx.lt(h:Dx V g n f):g<V.heap.size:=by obtain⟨cs,h,_⟩:=h;exact(Ab.1 h).1
theorem Dx.below{V V':G}{g n:Nat}{f:Nat->List Rat}(h:Dx V g n f)(b:Bl V V'):Dx V' g n f:=by
 have hl:=h.lt;obtain⟨cs,d,i⟩:=h;refine⟨cs,(b.block g hl).trans d,λj m=>?_⟩;obtain⟨a,l,c,e,k⟩:=i j m;exact⟨a,l,c,e,k.below b⟩
theorem Dx.cell{V:G}{g n:Nat}{f:Nat->List Rat}(h:Dx V g n f){j:Nat}(k:j<n):∃a l c,V.cell? ⟨g,j,none⟩=some (C a l c)/\RowK true V (C a l c) (f j):=by
 obtain⟨cs,b,d⟩:=h;obtain⟨a,l,c,e,i⟩:=d j k;exact⟨a,l,c,cell_of b e,i⟩
theorem Dx.frozen{V:G}{g n:Nat}{f:Nat->List Rat}(h:Dx V g n f)(o:Nat):V.frozen? ⟨g,o,none⟩=false:=by obtain⟨cs,a,_⟩:=h;simp[World.frozen?,a]
theorem Dx.set(h:Dx V g n f){j:Nat}(t:j<n){q:List Rat}(x:RowK true V (C a l c) q):Dx (V.setCell ⟨g,j,none⟩ (C a l c)) g n (λk=>if k=j then q else f k):=by
 obtain⟨cs,d,i⟩:=h;obtain⟨y,z,c0,b,_⟩:=i j t;have m:∀v qs,RowK true V v qs->RowK true (V.setCell ⟨g,j,none⟩ (C a l c)) v qs:=λv qs w=>Gx d b rfl true DB _ v qs w;refine⟨cs.setIfInBounds j (C a l c),JO d _,λk u=>?_⟩;have o:j<cs.size:=(Ab.1 b).1;by_cases e:k=j
 . subst e;refine⟨a,l,c,?_,?_⟩
   . rw[Ck o]
   . show RowK true _ _ (if k=k then q else f k);rw[BE rfl];exact m _ _ x
 . obtain⟨p,l1,c1,r,s⟩:=i k u;refine⟨p,l1,c1,?_,?_⟩
   . rw[Ae Y];exact r
   . show RowK true _ _ (if k=j then q else f k);rw[BC e];exact m _ _ s
theorem Dx.cong{a:Nat->List Rat}(h:Dx V g n f)(e:∀j,j<n->f j=a j):Dx V g n a:=by
 obtain⟨cs,c,d⟩:=h;refine⟨cs,c,λj b=>?_⟩;rw[<-e j b];exact d j b
end M3
section
def Dv(a b:List Rat):Prop:=∃c:List Rat,∀x,ev b x=ev a x*ev c x
def DP(a b:List Rat):Prop:=∃u v:List Rat,∀x,ev u x*ev a x+ev v x*ev b x=1
section
variable {a b c d p q:List Rat}
theorem Dv.refl(a:List Rat):Dv a a:=⟨[1],λx=>by simp[ev];grind⟩
theorem Dv.trans(h:Dv a b)(d:Dv b c):Dv a c:=by
 obtain⟨u,e⟩:=h;obtain⟨v,f⟩:=d;exact⟨Jm u v,λx=>by rw[f,e,Jh];grind⟩
theorem Dv.zero(a:List Rat):Dv a []:=⟨[],λx=>by simp[ev]⟩
theorem Dv.mul(h:Dv a b)(c:List Rat):Dv a (Jm b c):=by
 obtain⟨u,d⟩:=h;exact⟨Jm u c,λx=>by rw[Jh,d,Jh];grind⟩
theorem Dv.mul'(h:Dv a b)(c:List Rat):Dv a (Jm c b):=by
 obtain⟨u,d⟩:=h;exact⟨Jm u c,λx=>by rw[Jh,d,Jh];grind⟩
theorem Dv.comb(h:Dv d a)(e:Dv d b)(u v:List Rat)(f:∀x,ev c x=ev u x*ev a x+ev v x*ev b x):Dv d c:=by
 obtain⟨s,g⟩:=h;obtain⟨t,i⟩:=e;exact⟨Xv (Jm u s) (Jm v t),λx=>by rw[f,g,i,Yw,Jh,Jh];grind⟩
theorem Dv.of_sc{k:Rat}(c:k≠0)(h:Dv a b):Dv (DK k a) b:=by
 obtain⟨u,d⟩:=h;have e:(1/k)*k=1:=Aq c;exact⟨DK (1/k) u,λx=>by rw[d,JG,JG];grind⟩
theorem Dv.sc(h:Dv a b)(k:Rat):Dv a (DK k b):=by
 obtain⟨u,c⟩:=h;exact⟨DK k u,λx=>by rw[JG,c,JG];grind⟩
theorem DP.symm(h:DP a b):DP b a:=by
 obtain⟨u,v,h⟩:=h;exact⟨v,u,λx=>by rw[<-h x];grind⟩
theorem DP.of_dv(h:DP a b)(c:Dv d a):DP d b:=by
 obtain⟨u,v,h⟩:=h;obtain⟨s,e⟩:=c;exact⟨Jm u s,v,λx=>by rw[<-h x,e x,Jh];grind⟩
theorem DP.dv(h:DP a b)(e:Dv a (Jm b c)):Dv a c:=by
 obtain⟨u,v,h⟩:=h;obtain⟨k,f⟩:=e;refine⟨Xv (Jm u c) (Jm v k),λx=>?_⟩;have g:=h x;have d:=f x;rw[Jh]at d;rw[Yw,Jh,Jh];grind
theorem DP.mul(h:DP a b)(d:DP a c):DP a (Jm b c):=by
 obtain⟨u,v,h⟩:=h;obtain⟨s,t,d⟩:=d;refine⟨Xv u (Jm (Jm v b) s),Jm v t,λx=>?_⟩;have e:=h x;have f:=d x;rw[Yw,Jh,Jh,Jh,Jh];grind
theorem DP.unit(h:DP a b)(c:Dv a b):Dv a [1]:=by
 obtain⟨u,v,h⟩:=h;obtain⟨s,d⟩:=c;refine⟨Xv u (Jm v s),λx=>?_⟩;have e:=h x;have f:=d x;rw[Yw,Jh];simp[ev];grind
end
theorem IJ{p:List Rat}(x:Rat):ev (JJ p) x=ev p x*(1/cf p (p.length-1)):=JG _ _ _
theorem Z2:∀(n:Nat) (p q:List Rat),Jd p=p->Jd q=q->q.length<=n->Dv (X8 n p q) p/\Dv (X8 n p q) q/\∃u v:List Rat,∀x,ev (X8 n p q) x=ev u x*ev p x+ev v x*ev q x:=by
 intro n;induction n with
 |zero=>
  intro p q hp hq hl;have a:q=[]:=Ky Y;subst a;rw[X8];refine⟨?_,Dv.zero _,[1/cf p (p.length-1)],[],λx=>by rw[IJ];simp[ev];grind⟩;by_cases b:p=[]
  . subst b;exact Dv.refl _
  . exact Dv.of_sc (I2 (Jw hp b)) (Dv.refl _)
 |succ n g=>
  intro p q hp hq hl;by_cases a:q=[]
  . subst a;simp only[X8,BE];refine⟨?_,Dv.zero _,[1/cf p (p.length-1)],[],λx=>by rw[IJ];simp[ev];grind⟩;by_cases b:p=[]
    . subst b;exact Dv.refl _
    . exact Dv.of_sc (I2 (Jw hp b)) (Dv.refl _)
  . simp only[X8,BC a];obtain⟨d,j,k,i⟩:=YF p q hq a;obtain⟨c,e,u,v,f⟩:=g q (JF p q) hq i Y;refine⟨c.comb e (Js p q) [1] (λx=>by rw[d x];simp[ev];grind),c,v,Yi u (Jm v (Js p q)),λx=>?_⟩;rw[f x,d x,YT,Jh];grind
section
variable {p q d:List Rat}
theorem Yo(hp:Jd p=p)(hq:Jd q=q):Dv (JA p q) p/\Dv (JA p q) q/\∃u v:List Rat,∀x,ev (JA p q) x=ev u x*ev p x+ev v x*ev q x:=Z2 _ p q hp hq (Aa _)
theorem IK(hp:Jd p=p)(hq:Jd q=q)(a:Dv d p)(b:Dv d q):Dv d (JA p q):=by
 obtain⟨_,_,u,v,h⟩:=Yo hp hq;exact a.comb b u v h
theorem Z3:∀(n:Nat) (p q:List Rat),Jd p=p->Jd q=q->q.length<=n->JJ (X8 n p q)=X8 n p q:=by
 intro n;induction n with
 |zero=>intro p q hp _ _;exact I3 hp
 |succ n b=>
  intro p q hp hq hl;rw[X8];split
  . exact I3 hp
  . rename_i a;have:=(YF p q hq a).2.1;exact b _ _ hq (Y5 _ _) Y
theorem XS(hp:Jd p=p)(hq:Jd q=q):JJ (JA p q)=JA p q:=Z3 _ p q hp hq (Aa _)
end
variable{a b g p q:List Rat}
theorem Y6(hp:Jd p=p)(h:∀x,ev p x=0):p=[]:=Xo hp rfl (λx=>by rw[h x];rfl)
theorem Dv.some(d:Jd b=b)(h:Dv a b):∃c,Jd c=c/\b=Jm a c:=by
 obtain⟨c,e⟩:=h;exact⟨Jd c,J3 _,Xo d (JS _ _) λx=>by rw[Jh,XA,e]⟩
theorem XI(a:List Rat):Jm a []=[]:=Y6 (JS _ _) λx=>by rw[Jh];simp[ev]
theorem Dv.anti(o:Jd a=a)(j:Jd b=b)(h:Dv a b)(r:Dv b a):∃k:Rat,k≠0/\b=DK k a:=by
 obtain⟨c,p,e⟩:=h.some j;obtain⟨d,s,i⟩:=r.some o;by_cases g:a=[]
 . refine⟨1,DB,?_⟩;rw[e,g];rfl
 . have n:b≠[]:=λf=>g (by rw[i,f];rfl);have m:c≠[]:=λf=>n (by rw[e,f];exact XI _);have l:d≠[]:=λf=>g (by rw[i,f];exact XI _);have l1:=JE o p g m;have l2:=JE j s n l;rw[<-e]at l1;rw[<-i]at l2;have u:0<c.length:=Ai.2 m;have v:0<d.length:=Ai.2 l;have w:0<a.length:=Ai.2 g;have q:c.length=1:=Y
   match c,q with
   |[k],_=>
    have t:k≠0:=by
     have:=Jw p Z;simpa[YL]using this
    refine⟨k,t,Xo j (JM _ _) λx=>?_⟩;rw[e,Jh,JG];simp[ev];grind
theorem Dv.eq(c:Jd a=a)(f:Jd b=b)(ma:JJ a=a)(mb:JJ b=b)(h:Dv a b)(d:Dv b a):a=b:=by
 obtain⟨k,g,e⟩:=h.anti c f d;rw[<-mb,e,K1 g c,ma]
theorem JL(e:Jd g=g)(a:g≠[])(h:Dv g p):JF p g=[]/\∀x,ev p x=ev g x*ev (Js p g) x:=by
 obtain⟨c,d⟩:=h;have b:=Kz (p:=p) (u:=Jd c) (v:=[]) e a (J3 _) rfl (Ai.2 a) (λx=>by rw[d,XA];simp[ev];grind);refine⟨b.2.symm,λx=>?_⟩;rw[<-b.1,XA,d]
theorem Yy{u v:List Rat}(i:Jd g=g)(b:g≠[])(h:∀x,ev g x*ev u x=ev g x*ev v x):∀x,ev u x=ev v x:=by
 have d:Jm g (Yi u v)=[]:=Y6 (JS _ _) λx=>by rw[Jh,YT];have:=h x;grind
 have e:Yi u v=[]:=by
  by_cases a:Yi u v=[]
  . exact a
  . exfalso
    have l:=JE i (Xn u v) b a;rw[d]at l;have j:0<g.length:=Ai.2 b;have k:0<(Yi u v).length:=Ai.2 a;simp at l;omega
 intro x;have c:=congrArg (λr=>ev r x) e;simp only[YT]at c;have f:ev [] x=0:=rfl;rw[f]at c;grind
theorem LB(hp:Jd p=p)(hq:Jd q=q)(a:JA p q≠[]):DP (Js p (JA p q)) (Js q (JA p q)):=by
 obtain⟨f,g,u,v,i⟩:=Yo hp hq;have c:=JY p q;have d:=(JL c a f).2;have e:=(JL c a g).2;refine⟨u,v,?_⟩;have j:=Yy (u:=Xv (Jm u (Js p (JA p q))) (Jm v (Js q (JA p q)))) (v:=[1]) c a (λx=>by
  rw[Yw,Jh,Jh];have b:=i x;have k:=d x;have l:=e x;simp[ev];grind)
 intro x;have b:=j x;rw[Yw,Jh,Jh]at b;rw[b];simp[ev];grind
theorem Xg(hp:Jd p=p)(hq:Jd q=q)(h:p≠[]\/q≠[]):JA p q≠[]:=λe=>by
 obtain⟨a,b,_⟩:=Yo hp hq;rw[e]at a b;obtain⟨c,f⟩:=a;obtain⟨d,g⟩:=b;rcases h with h|h
 . exact h (Y6 hp λx=>by rw[f];simp[ev])
 . exact h (Y6 hq λx=>by rw[g];simp[ev])
end
section
variable {a b c d e f g k p q r u w y z R:List Rat}
theorem J9(p q:List Rat)(x:Rat):ev (Jc (Jm p q)) x=ev (Jc p) x*ev q x+ev p x*ev (Jc q) x:=by
 rw[RS,Yw,Jh,Jh]
theorem Mx(p:List Rat)(i:Nat):cf (Jc p) i=cf p (i+1)*(((i+1:Nat):Int):Rat):=by
 unfold Jc;rw[Ym,IX];rfl
theorem Z4(a:p≠[]):(Jc p).length<p.length:=by
 have b:0<p.length:=Ai.2 a;have c:(Jc p).length<=p.length-1:=X2 (J4 _) λi d=>by
  rw[Mx,Yt Y,CG]
 omega
theorem Z6(hp:Jd p=p)(h:Jc p=[]):p.length<=1:=by
 refine X2 hp λi d=>?_;obtain⟨j,rfl⟩:∃j,i=j+1:=⟨i-1,Y⟩;have b:=Mx p j;rw[h,Xb]at b;rcases A6.1 b.symm with a|a
 . exact a
 . exfalso
   have c:((j+1:Nat):Int)=0:=by exact_mod_cast a
   omega
theorem I7(hp:Jd p=p)(a:p≠[])(hl:p.length<=1):Dv p [1]:=by
 have b:0<p.length:=Ai.2 a;match p,hl,hp,a with
 |[c],_,hp,_=>
  have d:c≠0:=by
   have:=Jw hp Z;simpa[YL]using this
  exact⟨[1/c],λx=>by simp[ev];grind⟩
theorem My(b:Jd u=u)(a:u≠[])(h:Dv u (Jc u)):Dv u [1]:=by
 refine I7 b a (Z6 b ?_);obtain⟨c,i,e⟩:=h.some (J4 u);by_cases f:Jc u=[]
 . exact f
 . exfalso
   have d:c≠[]:=λg=>f (by rw[e,g];exact XI _);have l1:=JE b i a d;have l2:=Z4 a;have j:0<c.length:=Ai.2 d;rw[<-e]at l1;omega
theorem YO(f:Jd a=a)(g:Jd b=b)(c:a≠[])(d:b≠[]):Jm a b≠[]:=λe=>by
 have l:=JE f g c d;have i:0<a.length:=Ai.2 c;have j:0<b.length:=Ai.2 d;rw[e]at l;simp at l;omega
theorem Z7(E:Jd d=d)(r:d≠[])(h:Dv d (Jm (Jc d) f)):∀(n:Nat) (u:List Rat),Jd u=u->d.length-u.length<=n->Dv u d->DP u f->Dv u [1]:=by
 intro n;induction n with
 |zero=>
  intro u b hl p l;obtain⟨m,o,e⟩:=p.some E;have a:u≠[]:=λg=>r (by rw[e,g];rfl);have w:m≠[]:=λg=>r (by rw[e,g];exact XI _);have l1:=JE b o a w;rw[<-e]at l1;have X:0<u.length:=Ai.2 a;have P:m.length<=1:=Y
  have Q:=I7 o w P;have N:Dv d u:=by
   obtain⟨c,j⟩:=Q;refine⟨c,λx=>?_⟩;have y:=j x;rw[e,Jh,Rat.mul_assoc,<-y];simp[ev];grind
  have i:Dv u (Jm f (Jc d)):=by
   obtain⟨c,j⟩:=p.trans h;exact⟨c,λx=>by rw[<-j,Jh,Jh];grind⟩
  have z:=l.dv i;refine My b a ?_;obtain⟨k,hk,R⟩:=N.anti E b p;have A:Jc u=DK k (Jc d):=by
   refine Xo (J4 _) (JM _ _) λx=>?_;rw[R,JG];have D:DK k d=Jm d [k]:=Xo (JM _ _) (JS _ _) λx=>by rw[JG,Jh];simp[ev];grind
   rw[D,J9];have K:ev (Jc [k]) x=0:=by rw[Y7];simp[dv,ev];grind
   rw[K];simp[ev];grind
  rw[A];exact z.sc k
 |succ n W=>
  intro u b hl p l;obtain⟨m,o,e⟩:=p.some E;have a:u≠[]:=λg=>r (by rw[e,g];rfl);have w:m≠[]:=λg=>r (by rw[e,g];exact XI _);obtain⟨S,T,s,t,U⟩:=Yo b o;have H:=Xg b o (Or.inl a);have F:=JY u m;by_cases V:(JA u m).length<=1
  . obtain⟨c,j⟩:=I7 F H V;have M:DP u m:=⟨Jm s c,Jm t c,λx=>by
     have y:=j x;have i:=U x;rw[Jh,Jh];have z:ev [1] x=1:=by simp[ev];grind
     rw[z]at y;grind⟩
    have i:Dv u (Jm f (Jm m (Jc u))):=by
     obtain⟨v,q⟩:=h;refine⟨Yi (Jm m v) (Jm f (Jc m)),λx=>?_⟩;have A:=q x;have D:=J9 u m x;rw[<-e]at D;have K:ev d x=ev u x*ev m x:=by rw[e,Jh]
     rw[Jh]at A;rw[Jh,Jh,YT,Jh,Jh];grind
    exact My b a (M.dv (l.dv i))
  . have L:Dv (Jm u (JA u m)) d:=by
     obtain⟨v,q⟩:=T;exact⟨v,λx=>by rw[e,Jh,q,Jh];grind⟩
    have l1:=JE b F a H;have X:0<u.length:=Ai.2 a;have i:=W (Jm u (JA u m)) (JS _ _) Y L (l.symm.mul (l.of_dv S).symm).symm;obtain⟨v,q⟩:=i;exact⟨Jm (JA u m) v,λx=>by rw[q,Jh,Jh];grind⟩
structure Yun(R w y:List Rat):Prop where
 tR:Jd R=R
 R0:R≠[]
 tw:Jd w=w
 w0:w≠[]
 mw:JJ w=w
 ty:Jd y=y
 eq:∀x,ev y x*ev R x=ev w x*ev (Jc R) x
 cop:DP w y
theorem Yun.dv(h:Yun R w y):Dv w R:=by
 refine h.cop.dv ⟨Jc R,λx=>?_⟩;rw[Jh,h.eq]
theorem LC(f:Jd w=w)(w0:w≠[])(mw:JJ w=w)(d:Jd g=g)(p:JJ g=g)(h:Dv g w):JJ (Js w g)=Js w g/\g≠[]/\Js w g≠[]/\w=Jm g (Js w g):=by
 have a:g≠[]:=λe=>w0 (by
  obtain⟨c,m⟩:=h;exact Y6 f λx=>by rw[m,e];simp[ev])
 have e:=(JL d a h).2;have b:w=Jm g (Js w g):=Xo f (JS _ _) λx=>by rw[Jh,<-e]
 have q0:Js w g≠[]:=λj=>w0 (by rw[b,j];exact XI _);refine⟨?_,a,q0,b⟩;have l:=JE d (YC w g) a q0;have r:0<g.length:=Ai.2 a;have q:0<(Js w g).length:=Ai.2 q0;have i:cf w (w.length-1)=cf g (g.length-1)*cf (Js w g) ((Js w g).length-1):=by
  obtain⟨Q,k⟩:=ex (Js w g);rw[k]at b l q ⊢;rw[b,l,show g.length+Q.length-1-1=(g.length-1)+(Q.length-1)by omega];unfold Jm;rw[Ym];exact LU g Q (g.length-1) (Q.length-1) Y Y
 have o:cf w (w.length-1)=1:=by have:=Mp f w0;rwa[mw]at this
 have n:cf g (g.length-1)=1:=by have:=Mp d a;rwa[p]at this
 rw[o,n,CM]at i;unfold JJ;rw[<-i,show(1:Rat)/1=1 by grind];exact He (YC _ _)
theorem Yun.step(h:Yun R w y):JA w (Js R w)=Js w (JA w (Yi y (Jc w)))/\Js w (JA w (Js R w))=JA w (Yi y (Jc w))/\
 Yun (Js R w) (Js w (JA w (Yi y (Jc w)))) (Js (Yi y (Jc w)) (JA w (Yi y (Jc w))))/\R=Jm w (Js R w)/\
 (∀x,ev (Yi y (Jc w)) x*ev (Js R w) x=ev w x*ev (Jc (Js R w)) x)/\w=Jm (JA w (Yi y (Jc w))) (Js w (JA w (Yi y (Jc w)))):=by
 obtain⟨r,hr⟩:=ex (Js R w);obtain⟨z,L⟩:=ex (Yi y (Jc w));have tr:Jd r=r:=by rw[<-hr];exact YC _ _
 have S:Jd z=z:=by rw[<-L];exact Xn _ _
 have eR:∀x,ev R x=ev w x*ev r x:=by rw[<-hr];exact(JL h.tw h.w0 h.dv).2
 have T:R=Jm w r:=Xo h.tR (JS _ _) λx=>by rw[Jh,eR]
 have r0:r≠[]:=λe=>h.R0 (by rw[T,e];exact XI _);have W:∀x,ev z x*ev r x=ev w x*ev (Jc r) x:=by
  have b:=Yy (g:=w) (u:=Jm z r) (v:=Jm w (Jc r)) h.tw h.w0 (λx=>by
   have a:=h.eq x;have i:=J9 w r x;rw[<-T]at i;rw[Jh,Jh,<-L,YT];have H:=eR x;grind)
  intro x;have a:=b x;rwa[Jh,Jh]at a
 have V:=J4 r;obtain⟨d,D⟩:=ex (JA r (Jc r));have F:Jd d=d:=by rw[<-D];exact JY _ _
 have d0:d≠[]:=by rw[<-D];exact Xg tr V (Or.inl r0)
 obtain⟨g1,g2,_⟩:=Yo tr V;rw[D]at g1 g2;obtain⟨f,hf⟩:=ex (Js r d);obtain⟨e,he⟩:=ex (Js (Jc r) d);have q:∀x,ev r x=ev d x*ev f x:=by rw[<-hf];exact(JL F d0 g1).2
 have ee:∀x,ev (Jc r) x=ev d x*ev e x:=by rw[<-he];exact(JL F d0 g2).2
 have tf:Jd f=f:=by rw[<-hf];exact YC _ _
 have f0:f≠[]:=λX=>r0 (Y6 tr λx=>by rw[q,X];simp[ev]);have Qi:DP f e:=by
  have:=LB tr V (by rw[D];exact d0);rwa[D,hf,he]at this
 have Qh:∀x,ev z x*ev f x=ev w x*ev e x:=by
  have b:=Yy (g:=d) (u:=Jm z f) (v:=Jm w e) F d0 (λx=>by
   have a:=W x;rw[q,ee]at a;rw[Jh,Jh];grind)
  intro x;have a:=b x;rwa[Jh,Jh]at a
 have Qg:Dv f w:=Qi.dv (⟨z,λx=>by rw[Jh];have:=Qh x;grind⟩);obtain⟨k,tk,ek⟩:=Qg.some h.tw;have j:∀x,ev w x=ev f x*ev k x:=λx=>by rw[ek,Jh]
 have U:∀x,ev z x=ev k x*ev e x:=by
  have b:=Yy (g:=f) (u:=z) (v:=Jm k e) tf f0 (λx=>by
   have a:=Qh x;rw[j]at a;rw[Jh];grind)
  intro x;have a:=b x;rwa[Jh]at a
 obtain⟨P,l⟩:=ex (JA w z);have m:Jd P=P:=by rw[<-l];exact JY _ _
 have mP:JJ P=P:=by rw[<-l];exact XS h.tw S
 obtain⟨N,p2,_⟩:=Yo h.tw S;have Qo:Dv k P:=by rw[<-l];exact IK h.tw S ⟨f,λx=>by rw[j];grind⟩ ⟨e,U⟩
 rw[l]at N p2;have Qm:Dv P k:=by
  obtain⟨u,v,E⟩:=Qi;refine N.comb p2 u v λx=>?_;have b:=E x;rw[j,U];grind
 obtain⟨m1,p,M,eW⟩:=LC h.tw h.w0 h.mw m mP N;have zP:=(JL m p p2).2;have o:=(JL m p N).2;have Ql:DP k y:=h.cop.of_dv ⟨f,λx=>by rw[j];grind⟩;have Qq:DP k f:=by
  obtain⟨u,v,E⟩:=Ql;refine⟨Xv u (Jm v (Xv e (Jc f))),Jm v (Jc k),λx=>?_⟩;have b:=E x;have a:ev y x=ev z x+ev (Jc w) x:=by rw[<-L,YT];grind
  have i:=J9 f k x;rw[<-ek]at i;have H:=U x;rw[Yw,Jh,Jh,Yw];grind
 have Qj:Dv d (Jm (Jc d) f):=by
  refine⟨Yi e (Jc f),λx=>?_⟩;have b:r=Jm d f:=Xo tr (JS _ _) λx=>by rw[Jh,q]
  have a:=J9 d f x;rw[<-b,ee]at a;rw[Jh,YT];grind
 have Qp:DP k d:=by
  obtain⟨q1,q2,s,t,q3⟩:=Yo tk F;obtain⟨c,A⟩:=Z7 F d0 Qj (d.length) (JA k d) (JY _ _) Y q2 (Qq.of_dv q1);refine⟨Jm s c,Jm t c,λx=>?_⟩;have b:=A x;have a:=q3 x;have i:ev [1] x=1:=by simp[ev];grind
  rw[i]at b;rw[Jh,Jh];grind
 obtain⟨c1,c2,s,t,c3⟩:=Yo h.tw tr;have Qk:Dv f (JA w r):=IK h.tw tr Qg ⟨d,λx=>by rw[q];grind⟩;have Qs:Dv (JA w r) f:=by
  obtain⟨u,v,E⟩:=Qp;refine c1.comb c2 u v λx=>?_;have b:=E x;rw[j,q];grind
 obtain⟨n,K⟩:=ex (Js w P);rw[K]at m1 M eW o;have Q:Jd n=n:=by rw[<-K];exact YC _ _
 have Qt:Dv f n:=by
  obtain⟨c,A⟩:=Qm;refine⟨c,λx=>?_⟩;have b:=Yy (g:=P) (u:=n) (v:=Jm f c) m p (λx=>by
   have a:=o x;have i:=j x;have H:=A x;rw[Jh];grind)
  have a:=b x;rwa[Jh]at a
 have Qn:Dv n f:=by
  have k0:k≠[]:=λX=>h.w0 (by rw[ek,X];exact XI _);obtain⟨c,A⟩:=Qo;refine⟨c,λx=>?_⟩;have b:=Yy (g:=k) (u:=f) (v:=Jm n c) tk k0 (λx=>by
   have a:=o x;have i:=j x;have H:=A x;rw[Jh];grind)
  have a:=b x;rwa[Jh]at a
 have hG:JA w r=n:=Dv.eq (JY _ _) Q (XS h.tw tr) m1 (Qs.trans Qt) (Qn.trans Qk);have Qr:Dv n w:=⟨P,λx=>by rw[o];grind⟩;have Qb:Js w n=P:=by
  refine Xo (YC _ _) m λx=>?_;have b:=(JL Q M Qr).2;refine Yy (g:=n) (u:=Js w n) (v:=P) Q M (λx=>?_) x;have a:=b x;have i:=o x;grind
 rw[hr,L,l,K];refine⟨hG,by rw[hG];exact Qb,⟨tr,r0,Q,M,m1,YC _ _,λx=>?_,?_⟩,T,W,eW⟩
 . refine(Yy (g:=P) (u:=Jm (Js z P) r) (v:=Jm n (Jc r)) m p (λx=>?_) x |> λb=>by rwa[Jh,Jh]at b);have a:=W x;have i:=zP x;have H:=o x;rw[Jh,Jh];grind
 . have:=LB h.tw S (by rw[l];exact p);rwa[l,K]at this
theorem Yun.start(tp:Jd p=p)(p0:p≠[])(i:JJ p=p):Yun p (Js p (JA p (Jc p))) (Js (Jc p) (JA p (Jc p))):=by
 have ts:=J4 p;obtain⟨b,f,_⟩:=Yo tp ts;have a:=Xg tp ts (Or.inl p0);obtain⟨g,_,j,e⟩:=LC tp p0 i (JY _ _) (XS tp ts) b;have c:=(JL (JY p (Jc p)) a b).2;have d:=(JL (JY p (Jc p)) a f).2;refine⟨tp,p0,YC _ _,j,g,YC _ _,λx=>?_,LB tp ts a⟩;have k:=c x;have l:=d x;grind
end
section
open Go.RowKit Go.Shelf
def Cd(M:Nat)(p:List Rat):Prop:=∃D:Int,D≠0/\Sm M D/\EL D M p
section
variable {M N:Nat} {p q:List Rat}
theorem Cd.mono(h:Cd M p)(a:M<=N):Cd N p:=by
 obtain⟨D,d1,b,c⟩:=h;exact⟨D,d1,b.mono a,λi=>(c i).mono a⟩
theorem Cd.smq(h:Cd M p)(i:Nat):DM M (cf p i):=by
 obtain⟨D,d1,a,b⟩:=h;exact(b i).smq d1 a
theorem Cd.sqs(h:Cd M p)(a:M<=1000000000):Sqs p:=Sqs.of λi=>Sq.of (h.smq i) a
end
theorem Mz{q:List Rat}(tq:Jd q=q)(q0:q≠[])(a:JJ q=q):cf q (q.length-1)=1:=by
 have:=Mp tq q0;rwa[a]at this
def FU(p q:List Rat):List Rat:=if q=[]then []else Js p q
def Z8(p:List Rat):List Rat:=JJ (FU p (JA p (Jc p)))
namespace M3
attribute [local go_sem] Oper.semAt_some
structure FrOk(K:Nat)(p:List Rat):Prop where
 ch:ChOk K p (Jc p)
 le:(p.length+3)*(DV K p (Jc p)+1)*2<=1000000000
end M3
end
section
open Go.RowKit Go.Shelf
attribute [local go_sem] Oper.semAt_some
theorem _root_.Go.Boxed.bel{W W':G}{B:Nat}{t:TypeId}{v:I}(h:Boxed W B t v)(a:Bl W W'):Boxed W' B t v:=(a.block B h.lt).trans h
end
section
open Go.RowKit Go.Shelf
variable{p q:List Rat}{A K:Nat}
theorem Cd.dvnG(h:Cd K p)(i:Cd A q)(tq:Jd q=q)(q0:q≠[]):∃D E l:Int,Dvn D E l K A p q:=by
 obtain⟨D,d1,c,d⟩:=h;obtain⟨E,f,g,a⟩:=i;obtain⟨n,b,j⟩:=a (q.length-1);refine⟨D,E,n,d1,c,d,f,g,a,λe=>?_,j,b⟩;exact Jw tq q0 (by rw[b,e];simp)
theorem Cd.quoG(h:Cd K p)(c:Cd A q)(tq:Jd q=q)(q0:q≠[]):Cd (K+p.length*(A+1)+1) (Js p q):=by
 obtain⟨D,E,l,b⟩:=h.dvnG c tq q0;obtain⟨m,e⟩:=ex (p.length-(q.length-1));have a:=b.den m;have d:=b.rem e;have f:m*(A+1)<=p.length*(A+1):=Aj _ Y;exact⟨_,a.1,a.2.mono Y,λi=>(d.2 i).mono Y⟩
namespace M3
theorem Z9(K A:Nat)(a b:I)(p q:List Rat)(w:G)(d:Jf w a p)(f:Jf w b q)(hp:Cd K p)(hq:Cd A q)(tp:Jd p=p)(tq:Jd q=q)(q0:q≠[])(k:2*(K+p.length*(A+1)+1)+2*(2*A+1)<=1000000000):
 Calls Tryz.prog 139 #[a,b] w λe c=>∃u v,e=.returned (.tuple #[u,v,.bool true])/\Jf c u (Js p q)/\Jf c v (JF p q)/\Bl w c:=by
 obtain⟨D,E,l,g⟩:=hp.dvnG hq tq q0;obtain⟨m,i⟩:=ex (p.length-(q.length-1));have j:m*(A+1)<=p.length*(A+1):=Aj _ Y;refine P5 A a b p q w d f (hp.sqs Y) hq.smq tp tq q0 ?_;rw[i];exact g.sizes Y
attribute [local go_sem] Oper.semAt_some
end M3
end
theorem I8{a b:Rat}(c:0<a)(d:0<b):∃e,0<e/\e<=a/\e<=b:=by
 rcases Yc a b with h|h
 . exact⟨a,c,Rat.le_refl,h⟩
 . exact⟨b,d,h,Rat.le_refl⟩
theorem QA{w:List Rat}(tw:Jd w=w)(w0:w≠[])(hl:w.length<=1)(x y:Rat):Dd w x y:=by
 match w,w0,hl with
 |[c],_,_=>
  have c0:c≠0:=by
   have:=Jw tw Z;simpa[cf]using this
  exact IZ c0 (λx=>Jr c x) x y
theorem QB:∀(n:Nat) (R w y:List Rat),R.length<=n->Yun R w y->∀ {B:Rat},0<=B->∃k,0<k/\Sh B λx z=>¬Dd w x z->k<=ev y x*ev (Jc w) x/\k<=ev y z*ev (Jc w) z:=by
 intro n;induction n with
 |zero=>intro R w y hn h;exact absurd (AN.1 Y) h.R0
 |succ n ih=>
  intro R w y hn h B i;by_cases hl:w.length<=1
  . exact⟨1,DB,Sh.all λx z _ _ _ P=>absurd (QA h.tw h.w0 hl x z) P⟩
  . obtain⟨_,_,f,eR,_,m⟩:=h.step;have X:=Xn y (Jc w);have Qa:∀x,ev (Yi y (Jc w)) x=ev y x-ev (Jc w) x:=λx=>YT _ _ _;obtain⟨z,hz⟩:=ex (Yi y (Jc w));rw[hz]at f m X Qa;obtain⟨g1,g2,_⟩:=Yo h.tw X;have a0:=Xg h.tw X (Or.inl h.w0);have L:=(JL (JY w z) a0 g2).2;obtain⟨a,ha⟩:=ex (JA w z);rw[ha]at f m L;obtain⟨g,bk⟩:=ex (Js w a);rw[bk]at f m;obtain⟨F,bl⟩:=ex (Js z a);rw[bl]at f L;obtain⟨R2,bh⟩:=ex (Js R w);rw[bh]at f eR;have lR:R2.length<=n:=by
     have:=JE h.tw f.tR h.w0 f.R0;rw[<-eR]at this;omega
    obtain⟨Q,bm,S⟩:=ih R2 g F lR f i;have s:∀x,ev w x=ev a x*ev g x:=λx=>by
     have:=Jh a g x;rwa[<-m]at this
    have fd:∀x,ev (Jc w) x=ev (Jc a) x*ev g x+ev a x*ev (Jc g) x:=λx=>by
     have:=J9 a g x;rwa[<-m]at this
    have fy:∀x,ev (Jc w) x=ev y x-ev a x*ev F x:=λx=>by
     have D:=Qa x;have f:=L x;grind
    obtain⟨u,v,ae⟩:=h.cop;obtain⟨U,pU,hU⟩:=Xp u i;obtain⟨V,j,hV⟩:=Xp v i;obtain⟨ce,pY,hY⟩:=Xp y i;obtain⟨A,pA,hA⟩:=Xp a i;obtain⟨A1,ai,hA1⟩:=Xp (Jc a) i;obtain⟨W2,bu,bj⟩:=Xp g i;obtain⟨o,cl,bi⟩:=Xp (Jc g) i;obtain⟨H,bz,ad⟩:=Xp F i;have c:∀ {a b:Rat},0<a->0<b->0<a*b:=λD f=>Rat.mul_pos D f;obtain⟨e1,am,an⟩:=small (Rat.le_of_lt (c pU bu)) (show(0:Rat)<1/4 by grind);obtain⟨e2,ap,aq⟩:=small (Rat.le_of_lt (c (c j j) (c pY bz))) (show(0:Rat)<1/16 by grind);obtain⟨e,e0,bf,bg⟩:=I8 am ap;have l:0<V*(o+H):=c j (by grind);obtain⟨M,hM⟩:=ex (V*(o+H));obtain⟨e3,aw,ax⟩:=small (Rat.le_of_lt (c pU pA)) (show(0:Rat)<1/4 by grind);obtain⟨e4,ay,az⟩:=small (Rat.le_of_lt (c j ai)) (show(0:Rat)<1/4 by grind);obtain⟨e5,ba,bc⟩:=small (Rat.le_of_lt (c (c l l) (c ai (c pA (show 0<o+o+H by grind))))) (show(0:Rat)<Q/8 by grind);obtain⟨d1,aj,ci,cj⟩:=I8 aw ay;obtain⟨d,d0,ck,ak⟩:=I8 aj ba;obtain⟨k,k0,bn,bt⟩:=I8 (YA (show(0:Rat)<1/2 by grind) (c j j)) (YA (show(0:Rat)<Q/8 by grind) (c l l));refine⟨k,k0,(((F1 a i e0).and (F1 g i d0)).and S).mono λx E hx af _ ⟨⟨ta,tw⟩,S⟩ P=>?_⟩;have ah:∀ {K r t:Rat},0<K->r<=K*t->k<=r/K->k<=t:=fun {K r t} hK D f=>by
     have h3:r/K*K=r:=Aq (by grind);rcases Yc k t with h4|h4
     . exact h4
     . have:=Rat.mul_nonneg (a:=K) (b:=k-t) (by grind) (by grind);have:=Rat.mul_nonneg (a:=r/K-k) (b:=K) (by grind) (by grind);rcases Yc t k with N|N
       . rcases Rat.le_iff_lt_or_eq.1 N with h6|h6
         . have:=Rat.mul_pos (a:=K) (b:=k-t) hK (by grind);grind
         . grind
       . exact N
    have ca:∀p,Wi B p->Wi e (ev a p)->k<=ev y p*ev (Jc w) p:=λp hp hq=>by
     have:=RX (hU p hp) (hV p hp) (hY p hp) hq (bj p hp) (ad p hp) (ae p) (s p) (by have:=an e bf;grind) (by have:=aq e bg;grind);rw[<-fy p]at this;exact ah (c j j) this bn
    have cw:∀p,Wi B p->Wi d (ev g p)->Q<=ev F p*ev (Jc g) p->k<=ev y p*ev (Jc w) p:=λp hp hq hk=>by
     have h9:=RY (hU p hp) (hV p hp) (hA p hp) (hA1 p hp) hq (bi p hp) (ad p hp) (ae p) (s p) (by have D:=fy p;have h3:=fd p;grind) bm hk (by have:=ax d (by grind);grind) (by have:=az d (by grind);grind) (by have:=bc d ak;grind);rw[<-fd p]at h9;exact ah (c l l) h9 bt
    by_cases sa:Dd a x E
    . have sw:¬Dd g x E:=λq=>P (by
       unfold Dd at *;rw[s,s];have:=Rat.mul_pos sa q;grind)
      obtain⟨T,W⟩:=tw sw;obtain⟨r1,r2⟩:=S sw;exact⟨cw x hx T r1,cw E af W r2⟩
    . obtain⟨T,W⟩:=ta sa;exact⟨ca x hx T,ca E af W⟩

