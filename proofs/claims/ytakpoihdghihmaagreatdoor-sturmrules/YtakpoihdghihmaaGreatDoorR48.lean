import Derived.Test.YtakpoihdghihmaaGreatDoorR47
open Go.Value renaming slice->C,pointer->G,int->I,agg->S
open Go renaming undef->E,Value->F,World->H
open Go.IntKind renaming i64->Q
open Go.Proofs.Tryz renaming prog->R
open Go.Obj renaming cells->U
set_option maxRecDepth 100000
set_option maxHeartbeats 16000000
namespace Go.Proofs.YtakpoihdghihmaaGreatDoor
section
open Go.RowKit Go.Shelf
def Cd(M:Nat)(p:List Rat):Prop:=∃D:Int,D≠0/\Sm M D/\EC D M p
section
variable {M N:Nat} {p q:List Rat}
theorem Cd.mono(h:Cd M p)(a:M<=N):Cd N p:=by
 obtain⟨D,d1,b,c⟩:=h;exact⟨D,d1,b.mono a,λi=>(c i).mono a⟩
theorem Cd.smq(h:Cd M p)(i:Nat):DT M (cf p i):=by
 obtain⟨D,d1,a,b⟩:=h;exact(b i).smq d1 a
theorem Cd.ln(h:Cd M p):Ln M p:=by
 obtain⟨D,d1,b,a⟩:=h;exact a.ln d1
theorem Cd.sqs(h:Cd M p)(a:M<=1000000):DV p:=DV.of λi=>Sq.of (h.smq i) a
theorem Cd.pos(h:Cd M p):1<=M:=by
 obtain⟨D,d1,a,_⟩:=h;by_cases b:1<=M
 . exact b
 . exfalso
   obtain rfl:M=0:=Y
   unfold Sm at a;have:D.natAbs≠0:=Int.natAbs_ne_zero.2 d1;simp at a;omega
theorem Cd.mon(h:Cd M p)(tp:Jd p=p):Cd M (Jq p):=L6 tp h.ln h.pos
theorem Cd.monS(h:Cd M p)(tp:Jd p=p)(b:M<=1000000)(i:Nat):Sq (cf p i/cf p (p.length-1)):=by
 have a:=Ln.sqs tp h.ln h.pos i;unfold Jq at a;rw[Yw,Fh,Co,<-Fh]at a;exact Sq.of a b
theorem Cd.dvn(h:Cd M p)(f:Cd M q)(g:cf q (q.length-1)=1):∃D E:Int,Dvn D E E M M p q:=by
 obtain⟨D,d1,c,d⟩:=h;obtain⟨E,a,b,e⟩:=f;exact⟨D,E,d1,c,d,a,b,e,a,b,by rw[g,Rat.divInt_self' a]⟩
end
theorem dG{q:List Rat}(tq:Jd q=q)(q0:q≠[])(a:Jq q=q):cf q (q.length-1)=1:=by
 have:=L3 tq q0;rwa[a]at this
def Dm(p q:List Rat):List Rat:=if q=[]then []else Jp p q
def dH(p:List Rat):List Rat:=Jq (Dm p (Jz p (Jb p)))
namespace M3
variable{p q:List Rat}{K:Nat}
theorem Chn.ends(d:ChOk K p q):∀(n:Nat) (a b:List Rat),b.length<=n->Chn p q (Da K p q) a b->∃r,Chn p q (Da K p q) r []:=by
 intro n;induction n with
 |zero=>
  intro a b hl h;have c:b=[]:=Kr Y;subst c;exact⟨a,h⟩
 |succ n e=>
  intro a b hl h;by_cases c:b=[]
  . subst c;exact⟨a,h⟩
  . have f:=Y0 (a:=a) h.tb c;exact e b (YQ a b) Y (Chn.next d.tp d.tq d.lp d.lq d.bd.2.2.1 h c)
theorem ChOk.gcd(a:ChOk K p q):Cd (Da K p q) (Jz p q):=by
 obtain⟨r,b⟩:=Chn.ends a _ _ _ (Aa _) (Chn.start a.tp a.tq a.lp a.lq a.bd.2.2.1);rw[<-b.gc,RU];exact L6 b.ta b.wa.ln a.bd.2.2.2
theorem dI(M:Nat)(v:F)(p:List Rat)(w:H)(h:Je w v p)(tp:Jd p=p)(b:Cd M p)(a:M<=1000000):
 Calls R 88 #[v] w λe c=>∃u,e=.returned u/\Je c u (Jq p)/\Bl w c:=
 Rl v p w h (b.sqs a) tp λi=>b.monS tp a i
theorem dJ(M:Nat)(a b:F)(p q:List Rat)(w:H)(d:Je w a p)(f:Je w b q)(hp:Cd M p)(hq:Cd M q)(tp:Jd p=p)(tq:Jd q=q)(j:Jq q=q)(n:2*((p.length+3)*(M+1))<=1000000):
 Calls R 139 #[a,b] w λe c=>∃u v,e=.returned (.tuple #[u,v,.bool (decide (q≠[]))])/\Je c u (if q=[]then []else Jp p q)/\Je c v (if q=[]then []else JM p q)/\Bl w c:=by
 have k:(p.length+3)*(M+1)=p.length*(M+1)+3*(M+1):=AJ _ _ _;refine RM M a b p q w d f (hp.sqs Y) hq.smq tp tq λq0=>?_;obtain⟨D,E,g⟩:=hp.dvn hq (dG tq q0 j);obtain⟨m,i⟩:=ex (p.length-(q.length-1));have l:m*(M+1)<=p.length*(M+1):=Ak _ Y;rw[i];exact g.sizes Y
attribute [local go_sem] Oper.semAt_some
theorem MB(M:Nat)(X vb:F)(p q:List Rat)(w:H)(y:Je w X p)(z:Je w vb q)(hp:Cd M p)(hq:Cd M q)(tp:Jd p=p)(tq:Jd q=q)(W:Jq q=q)(N:2*((p.length+3)*(M+1))<=1000000):
 Calls R 89 #[X,vb] w λe w'=>∃u,e=.returned u/\Je w' u (Dm p q)/\Bl w w':=by
 obtain⟨k,la,l,rfl⟩:=y.form;obtain⟨m,lb,n,rfl⟩:=z.form;have s:=(((Mem.nil w).push (.cell 25 (C k la l)) (cs:=#[C k la l]) ⟨rfl,rfl⟩).push (.cell 25 (C m lb n)) (cs:=#[C m lb n]) ⟨rfl,rfl⟩).push (.cell 25 (C none 0 0)) (cs:=#[C none 0 0]) ⟨rfl,rfl⟩;simp only[Ax]at s;obtain⟨W0,t⟩:=ex (((w.alloc (U #[C k la l] 25)).alloc (U #[C m lb n] 25)).alloc (U #[C none 0 0] 25));have D:=Ja t;have a:Hid (Mem w W0 [some (w.heap.size,.cell 25 (C k la l)),some (w.heap.size+1,.cell 25 (C m lb n)),some (w.heap.size+1+1,.cell 25 (C none 0 0))]):=Ja (by rw[<-t];exact s);have r:=Ja (dJ M _ _ p q W0 (y.below a.o.2.2) (z.below a.o.2.2) hp hq tp tq W N);obtain⟨bq,P⟩:=ex (decide (q≠[]));rw[P,show(if q=[]then []else Jp p q)=Dm p q from rfl]at r;have c0:=(a.o.cell (i:=0) rfl).1.cell;have c1:=(a.o.cell (i:=1) rfl).1.cell;have n1:=(a.o.cell (i:=2) rfl).1;have B:=Ja a.o.2.2;clear s t y z hp hq tp tq W N P a;go_enter Tryz.func89,Tryz.ntmps89
 go_upto_region 1 with fail
 rw[D.o];clear D;go_upto_region 2 with(go_at_call 139;refine r.o.mono ?_;clear r;rintro e o ⟨u4,v4,rfl,A,T,g⟩;obtain⟨b,d,c,rfl⟩:=A.form;obtain⟨K,V,L,rfl⟩:=T.form)
 have f:Bl o ((o.alloc (U #[C b d c] 25)).alloc (U #[C K V L] 25)):=(Ba o _).alloc (by rw[Ax];omega) _;have nb:=(BG o 25 (C b d c)).alloc (U #[C K V L] 25);have e5:=nb.cell;have j:=boxed_below (boxed_below n1 g) f;have x0:=j.cell;have x1:=j.frozen;have Qe:=Ja (Ku j (x:=C b d c) (A.below f));have Qd:=Ja (((Bt B.o g).trans (f.mono (An B.o.size g.size))).setCell (p:=⟨w.heap.size+1+1,0,none⟩) (by show w.heap.size<=w.heap.size+1+1;omega) (C b d c));clear c0 c1 A T g nb j f;go_wp2_with fail
 exact BA (v:=S #[C b d c]) (by simp[results,Tryz.results89,go_sem,x0]) rfl ⟨_,rfl,Qe.o,Qd.o⟩
structure FrOk(K:Nat)(p:List Rat):Prop where
 ch:ChOk K p (Jb p)
 le:(p.length+3)*(Da K p (Jb p)+1)*2<=1000000
end M3
end
section
open Go.RowKit Go.Shelf
attribute [local go_sem] Oper.semAt_some
theorem _root_.Go.Boxed.bel{W W':H}{B:Nat}{t:TypeId}{v:F}(h:Boxed W B t v)(a:Bl W W'):Boxed W' B t v:=(a.block B h.lt).trans h
end
section
open Go.RowKit Go.Shelf
variable{p q:List Rat}{A K:Nat}
theorem Cd.dvnG(h:Cd K p)(i:Cd A q)(tq:Jd q=q)(q0:q≠[]):∃D E l:Int,Dvn D E l K A p q:=by
 obtain⟨D,d1,c,d⟩:=h;obtain⟨E,f,g,a⟩:=i;obtain⟨n,b,j⟩:=a (q.length-1);refine⟨D,E,n,d1,c,d,f,g,a,λe=>?_,j,b⟩;exact Jt tq q0 (by rw[b,e];simp)
theorem Cd.quoG(h:Cd K p)(c:Cd A q)(tq:Jd q=q)(q0:q≠[]):Cd (K+p.length*(A+1)+1) (Jp p q):=by
 obtain⟨D,E,l,b⟩:=h.dvnG c tq q0;obtain⟨m,e⟩:=ex (p.length-(q.length-1));have a:=b.den m;have d:=b.rem e;have f:m*(A+1)<=p.length*(A+1):=Ak _ Y;exact⟨_,a.1,a.2.mono Y,λi=>(d.2 i).mono Y⟩
namespace M3
theorem dK(K A:Nat)(a b:F)(p q:List Rat)(w:H)(d:Je w a p)(f:Je w b q)(hp:Cd K p)(hq:Cd A q)(tp:Jd p=p)(tq:Jd q=q)(q0:q≠[])(k:2*(K+p.length*(A+1)+1)+2*(2*A+1)<=1000000):
 Calls R 139 #[a,b] w λe c=>∃u v,e=.returned (.tuple #[u,v,.bool true])/\Je c u (Jp p q)/\Je c v (JM p q)/\Bl w c:=by
 obtain⟨D,E,l,g⟩:=hp.dvnG hq tq q0;obtain⟨m,i⟩:=ex (p.length-(q.length-1));have j:m*(A+1)<=p.length*(A+1):=Ak _ Y;refine Rh A a b p q w d f (hp.sqs Y) hq.smq tp tq q0 ?_;rw[i];exact g.sizes Y
attribute [local go_sem] Oper.semAt_some
end M3
end
section
variable{r:Bool}{L:List (List Rat × Nat)}{p:List Rat}{cs:List F}{B base c l t:Nat}{a:Option Addr}{v:F}{W W':H}
theorem Gp{a b:Rat}(c:0<a)(d:0<b):∃e,0<e/\e<=a/\e<=b:=by
 rcases J9 a b with h|h
 . exact⟨a,c,Rat.le_refl,h⟩
 . exact⟨b,d,h,Rat.le_refl⟩
theorem XH{w:List Rat}(tw:Jd w=w)(w0:w≠[])(hl:w.length<=1)(x y:Rat):DU w x y:=by
 match w,w0,hl with
 |[c],_,_=>
  have c0:c≠0:=by
   have:=Jt tw O;simpa[cf]using this
  exact Ys c0 (λx=>Jo c x) x y
theorem MC:∀(n:Nat) (R w y:List Rat),R.length<=n->Yun R w y->∀ {B:Rat},0<=B->∃k,0<k/\Sh B λx z=>¬DU w x z->k<=ev y x*ev (Jb w) x/\k<=ev y z*ev (Jb w) z:=by
 intro n;induction n with
 |zero=>intro R w y hn h;exact absurd (Az.1 Y) h.R0
 |succ n ih=>
  intro R w y hn h B i;by_cases hl:w.length<=1
  . exact⟨1,DF,Sh.all λx z _ _ _ X=>absurd (XH h.tw h.w0 hl x z) X⟩
  . obtain⟨_,_,f,eR,_,m⟩:=h.step;have tz:=Yi y (Jb w);have Qa:∀x,ev (JD y (Jb w)) x=ev y x-ev (Jb w) x:=λx=>Xa _ _ _;obtain⟨z,hz⟩:=ex (JD y (Jb w));rw[hz]at f m tz Qa;obtain⟨g1,g2,_⟩:=Y5 h.tw tz;have a0:=Xo h.tw tz (Or.inl h.w0);have T:=(JO (Yj w z) a0 g2).2;obtain⟨a,ha⟩:=ex (Jz w z);rw[ha]at f m T;obtain⟨g,bk⟩:=ex (Jp w a);rw[bk]at f m;obtain⟨N,bl⟩:=ex (Jp z a);rw[bl]at f T;obtain⟨R2,bh⟩:=ex (Jp R w);rw[bh]at f eR;have lR:R2.length<=n:=by
     have:=JA h.tw f.tR h.w0 f.R0;rw[<-eR]at this;omega
    obtain⟨k2,bm,s2⟩:=ih R2 g N lR f i;have s:∀x,ev w x=ev a x*ev g x:=λx=>by
     have:=Jg a g x;rwa[<-m]at this
    have fd:∀x,ev (Jb w) x=ev (Jb a) x*ev g x+ev a x*ev (Jb g) x:=λx=>by
     have:=Yp a g x;rwa[<-m]at this
    have fy:∀x,ev (Jb w) x=ev y x-ev a x*ev N x:=λx=>by
     have D:=Qa x;have f:=T x;grind
    obtain⟨u,v,ae⟩:=h.cop;obtain⟨U,pU,hU⟩:=Xr u i;obtain⟨V,j,hV⟩:=Xr v i;obtain⟨ce,pY,hY⟩:=Xr y i;obtain⟨A,pA,hA⟩:=Xr a i;obtain⟨A1,ai,hA1⟩:=Xr (Jb a) i;obtain⟨W2,bu,bj⟩:=Xr g i;obtain⟨o,cl,bi⟩:=Xr (Jb g) i;obtain⟨P,bz,ad⟩:=Xr N i;have c:∀ {a b:Rat},0<a->0<b->0<a*b:=λD f=>Rat.mul_pos D f;obtain⟨e1,am,an⟩:=small (Rat.le_of_lt (c pU bu)) (show(0:Rat)<1/4 by grind);obtain⟨e2,ap,aq⟩:=small (Rat.le_of_lt (c (c j j) (c pY bz))) (show(0:Rat)<1/16 by grind);obtain⟨e,e0,bf,bg⟩:=Gp am ap;have l:0<V*(o+P):=c j (by grind);obtain⟨M,hM⟩:=ex (V*(o+P));obtain⟨e3,aw,ax⟩:=small (Rat.le_of_lt (c pU pA)) (show(0:Rat)<1/4 by grind);obtain⟨e4,ay,az⟩:=small (Rat.le_of_lt (c j ai)) (show(0:Rat)<1/4 by grind);obtain⟨e5,ba,bc⟩:=small (Rat.le_of_lt (c (c l l) (c ai (c pA (show 0<o+o+P by grind))))) (show(0:Rat)<k2/8 by grind);obtain⟨d1,aj,ci,cj⟩:=Gp aw ay;obtain⟨d,d0,ck,ak⟩:=Gp aj ba;obtain⟨k,k0,bn,bt⟩:=Gp (YA (show(0:Rat)<1/2 by grind) (c j j)) (YA (show(0:Rat)<k2/8 by grind) (c l l));refine⟨k,k0,(((Gc a i e0).and (Gc g i d0)).and s2).mono λx L hx af _ ⟨⟨ta,tw⟩,s2⟩ X=>?_⟩;have ah:∀ {K r t:Rat},0<K->r<=K*t->k<=r/K->k<=t:=fun {K r t} hK D f=>by
     have h3:r/K*K=r:=Ap (by grind);rcases J9 k t with h4|h4
     . exact h4
     . have:=Rat.mul_nonneg (a:=K) (b:=k-t) (by grind) (by grind);have:=Rat.mul_nonneg (a:=r/K-k) (b:=K) (by grind) (by grind);rcases J9 t k with W|W
       . rcases Rat.le_iff_lt_or_eq.1 W with h6|h6
         . have:=Rat.mul_pos (a:=K) (b:=k-t) hK (by grind);grind
         . grind
       . exact W
    have ca:∀p,Wi B p->Wi e (ev a p)->k<=ev y p*ev (Jb w) p:=λp hp hq=>by
     have:=TN (hU p hp) (hV p hp) (hY p hp) hq (bj p hp) (ad p hp) (ae p) (s p) (by have:=an e bf;grind) (by have:=aq e bg;grind);rw[<-fy p]at this;exact ah (c j j) this bn
    have cw:∀p,Wi B p->Wi d (ev g p)->k2<=ev N p*ev (Jb g) p->k<=ev y p*ev (Jb w) p:=λp hp hq hk=>by
     have h9:=TO (hU p hp) (hV p hp) (hA p hp) (hA1 p hp) hq (bi p hp) (ad p hp) (ae p) (s p) (by have D:=fy p;have h3:=fd p;grind) bm hk (by have:=ax d (by grind);grind) (by have:=az d (by grind);grind) (by have:=bc d ak;grind);rw[<-fd p]at h9;exact ah (c l l) h9 bt
    by_cases sa:DU a x L
    . have sw:¬DU g x L:=λq=>X (by
       unfold DU at *;rw[s,s];have:=Rat.mul_pos sa q;grind)
      obtain⟨t1,t2⟩:=tw sw;obtain⟨r1,r2⟩:=s2 sw;exact⟨cw x hx t1 r1,cw L af t2 r2⟩
    . obtain⟨t1,t2⟩:=ta sa;exact⟨ca x hx t1,ca L af t2⟩
open Go.RowKit Go.Shelf
theorem Tryz.infoPart:(Tryz.prog.info? 73).map (λi=>(i.zero,i.size,i.bytes))=some (some (S #[C none 0 0,I Q 0]),2,32):=by kernel_rfl
theorem Tryz.infoRPart:(Tryz.prog.info? 73).map (λi=>(i.zero,i.size,i.bytes))=some (some (S #[C none 0 0,I Q 0]),2,32):=by kernel_rfl
def D3(r:Bool):TypeId:=match r with|true=>73|false=>73
def GW(r:Bool):TypeId:=match r with|true=>70|false=>70
def zP:Array F:=#[C none 0 0,.int Q 0]
theorem dL(r:Bool):Tryz.prog.underlying (GW r)=some (.slice (D3 r)):=by
 cases r with
 |true=>exact Tryz.underlying70
 |false=>exact Tryz.underlying70
theorem dM(r:Bool):∃i,Tryz.prog.info? (D3 r)=some i/\i.zero=some (S zP)/\i.size=2/\i.bytes=32:=by
 cases r with
 |true=>
  obtain⟨i,a,b,c,d⟩:=info_parts Tryz.infoPart;exact⟨i,a,b,c,d⟩
 |false=>
  obtain⟨i,a,b,c,d⟩:=info_parts Tryz.infoRPart;exact⟨i,a,b,c,d⟩
def Gq(r:Bool)(W W':H):Prop:=∀B,B<W.heap.size->(∀cs m,W.heap[B]?≠some (U cs (D3 r) m))->W'.heap[B]?=W.heap[B]?
theorem Gq.at(h:Gq r W W'){cs:Array F}{t:TypeId}{m:Nat × Nat}(a:W.heap[B]?=some (U cs t m))(b:t≠D3 r):W'.heap[B]?=W.heap[B]?:=
 h B (Ab.1 a).1 λc d e=>by
  rw[a]at e;simp only[Ai,Bo]at e;exact b e.2.1
theorem dN(k:IntKind)(r:Bool):KV k≠D3 r:=by cases r<;>cases k<;>decide
theorem dO(k:Bool)(r:Bool):Ic k≠D3 r:=by cases r<;>cases k<;>decide
theorem Gq.row(h:Gq r W W'){k:IntKind}{ds:List Nat}(t:Row k W v ds):Row k W' v ds:=by
 obtain⟨a,c,e,l,n,o,d⟩:=t;refine⟨a,c,e,l,n,o,?_⟩;rcases d with d|⟨b,off,i,g,q⟩
 . exact Or.inl d
 . obtain⟨cs,m,p⟩:=id g;have f:=h.at p (dN k r);refine Or.inr ⟨b,off,i,g.of f,λj s=>?_⟩;rw[<-q j s];simp only[World.cell?,f]
theorem Gq.rowK(h:Gq r W W'){k:Bool}{qs:List Rat}(A:RowK k W v qs):RowK k W' v qs:=by
 obtain⟨a,cap,e,o,p,q,c⟩:=A;refine⟨a,cap,e,o,p,q,?_⟩;rcases c with c|⟨b,n,cs,d,t⟩
 . exact Or.inl c
 . refine Or.inr ⟨b,n,cs,(h.at d (dO k r)).trans d,λj w=>?_⟩;obtain⟨x,y,z,u,f,i,l,m,s⟩:=t j w;exact⟨x,y,z,u,f,i,l,m,s.keep λ_ _ _ g=>h.row g⟩
def GG(r:Bool)(W:H)(cs:List F)(L:List (List Rat × Nat)):Prop:=
 cs.length=L.length*2/\∀j p t,L[j]?=some (p,t)->∃x,cs[j*2]?=some x/\cs[j*2+1]?=some (.int Q (t:Int))/\RowK r W x p
theorem GG.keep(h:GG r W cs L)(d:∀v qs,RowK r W v qs->RowK r W' v qs):GG r W' cs L:=by
 refine⟨h.1,λj p t e=>?_⟩;obtain⟨x,a,b,c⟩:=h.2 j p t e;exact⟨x,a,b,d _ _ c⟩
theorem GG.below{r:Bool}{W W':H}{cs:List F}{L:List (List Rat × Nat)}(h:GG r W cs L)(a:Bl W W'):GG r W' cs L:=h.keep λ_ _ g=>g.below a
theorem GG.snoc(h:GG r W cs L){x:F}(k:RowK r W x p):GG r W (cs++[x,I Q (t:Int)]) (L++[(p,t)]):=by
 refine⟨by simp[h.1];omega,λj l m e=>?_⟩;by_cases i:j<L.length
 . rw[AV i]at e;obtain⟨y,b,c,f⟩:=h.2 j l m e;exact⟨y,by rw[AV (by have:=h.1;omega)];exact b,by rw[AV (by have:=h.1;omega)];exact c,f⟩
 . rw[AE Y]at e;obtain⟨d,g⟩:=ex (j-L.length);rw[g]at e;cases d with
   |succ d=>simp at e
   |zero=>
    simp at e;obtain⟨rfl,rfl⟩:=e;have a:j=L.length:=Y
    subst a;refine⟨x,?_,?_,k⟩
    . rw[AE (by have:=h.1;omega),h.1,Cr];rfl
    . rw[AE (by have:=h.1;omega),h.1,show L.length*2+1-L.length*2=1 by omega];rfl
def D8(r:Bool)(base:Nat)(W:H)(v:F)(L:List (List Rat × Nat)):Prop:=
 (v=C none 0 0/\L=[])\/∃g cap a,v=C (some ⟨g,0,none⟩) L.length cap/\base<=g/\W.heap[g]?=some (U a (D3 r) (0,0))/\L.length<=cap/\cap<=maxLen/\a.size=cap*2/\GG r W (a.toList.take (L.length*2)) L
theorem D8.nil(r:Bool)(base:Nat)(W:H):D8 r base W (C none 0 0) []:=Or.inl ⟨rfl,rfl⟩
theorem D8.below{r:Bool}{base:Nat}{W W':H}{v:F}{L:List (List Rat × Nat)}(h:D8 r base W v L)(b:Bl W W'):D8 r base W' v L:=by
 rcases h with h|⟨g,cap,c,d,e,a,f,i,j,k⟩
 . exact Or.inl h
 . exact Or.inr ⟨g,cap,c,d,e,(b.block g (Ab.1 a).1).trans a,f,i,j,k.below b⟩
theorem D8.form(h:D8 r base W v L):∃a c,v=C a L.length c/\L.length<=c/\c<=maxLen:=by
 rcases h with⟨rfl,rfl⟩|⟨g,cap,e,rfl,_,_,b,d,_⟩
 . exact⟨none,0,rfl,O,by unfold maxLen;omega⟩
 . exact⟨_,cap,rfl,b,d⟩
theorem D8.set(h:D8 r base W v L)(b:Boxed W B 25 (C a l c)){u:F}(s:∀v qs,RowK r W v qs->RowK r (W.setCell ⟨B,0,none⟩ u) v qs):D8 r base (W.setCell ⟨B,0,none⟩ u) v L:=by
 rcases h with h|⟨g,cap,i,j,k,d,m,n,o,p⟩
 . exact Or.inl h
 . have f:g≠B:=λe=>by
    subst e;have q:W.heap[g]?=some (U #[C a l c] 25 (0,0)):=b;rw[q]at d;simp only[Ai,Bo]at d;have:=d.2.1;revert this;cases r<;>decide
   exact Or.inr ⟨g,cap,i,j,k,(BD W ⟨B,0,none⟩ u g f).trans d,m,n,o,p.keep s⟩
theorem dQ(r:Bool)(base:Nat)(W:H)(v:F)(L:List (List Rat × Nat))(h:D8 r base W v L)(hx:RowK r W (C a l c) p)(hl:L.length+1<=1099511627776)(X:base<=W.heap.size):
 ∃v' z,(Builtin.append_ #[GW r,GW r] (GW r) #[v,C (some ⟨W.heap.size,0,none⟩) 1 1]).run R (W.alloc (U #[C a l c,I Q (t:Int)] (D3 r)))=.ok v' z/\D8 r base z v' (L++[(p,t)])/\Gq r W z/\(∀n w0,n<=base->Below n w0 W->Below n w0 z)/\W.heap.size<=z.heap.size:=by
 obtain⟨i,hi,hz,y,af⟩:=dM r;have ht:=dL r;have k:Bl W (W.alloc (U #[C a l c,I Q (t:Int)] (D3 r))):=Ba W _;obtain⟨b,ae⟩:=ex (W.alloc (U #[C a l c,I Q (t:Int)] (D3 r)));have Qf:b.heap[W.heap.size]?=some (U #[C a l c,I Q (t:Int)] (D3 r) (0,0)):=by rw[<-ae];exact BE W _
 rw[ae]at k ⊢;have Ql:=hx.below k;have K:∀j c',[Value.slice a l c,I Q (t:Int)][j]?=some c'->b.cell? ((⟨W.heap.size,0,none⟩:Addr).add j)=some c':=λj c' f=>by
  rw[Xf,AY];exact cell_of Qf (by simpa using f)
 have Qh:∀c'∈[Value.slice a l c,I Q (t:Int)],c'.oneCell'=true:=λc' f=>by
  simp at f;rcases f with rfl|rfl<;>rfl
 have Qk:(Value.agg zP).cells=zP:=rfl;have Qp:zP.size=2:=rfl;have grown:∀(cs:List F) (w:Nat) (m:Nat),m=L.length+1->GG r b (cs++[C a l c,I Q (t:Int)]) (L++[(p,t)])->cs.length=L.length*2->
  D8 r base (b.drew.alloc (U (cs.toArray++[Value.slice a l c,I Q (t:Int)].toArray++Builtin.zeroCells zP (grownCap b m w (D3 r)-m)) (D3 r))) (C (some ⟨b.heap.size,0,none⟩) m (grownCap b m w (D3 r))) (L++[(p,t)]):=by
  intro cs w m hm f x;subst hm;have Qm:=grownCap_ge b (L.length+1) w (D3 r);have Qq:=grownCap_le_maxLen b (L.length+1) w (D3 r) (by unfold maxLen;omega);have Qr:Bl b (b.drew.alloc (U (cs.toArray++[Value.slice a l c,I Q (t:Int)].toArray++Builtin.zeroCells zP (grownCap b (L.length+1) w (D3 r)-(L.length+1))) (D3 r))):=((BF _ b).drew).alloc (Aa _) _;refine Or.inr ⟨b.heap.size,_,_,by rw[Ao];rfl,An X k.size,BE b.drew _,by rw[Ao];exact Qm,Qq,?_,?_⟩
  . simp only[Array.size_append,As,size_zeroCells,Qp,x,Ah,Ay];omega
  . have e:(cs.toArray++[Value.slice a l c,I Q (t:Int)].toArray++Builtin.zeroCells zP (grownCap b (L.length+1) w (D3 r)-(L.length+1))).toList.take ((L++[(p,t)]).length*2)=cs++[C a l c,I Q (t:Int)]:=by
     simp only[Array.toList_append];have M:(L++[(p,t)]).length*2=(cs++[Value.slice a l c,I Q (t:Int)]).length:=by simp;omega
     rw[M];exact List.take_left
    rw[e];exact f.below Qr
 have fin:∀o,Gq r W (b.drew.alloc o)/\(∀n w0,n<=base->Below n w0 W->Below n w0 (b.drew.alloc o))/\W.heap.size<=(b.drew.alloc o).heap.size:=λo=>by
  have N:Bl W (b.drew.alloc o):=(k.drew).alloc (by exact k.size) _;exact⟨λB D _=>N.block B D,λn w0 u V=>V.trans (N.mono (An u X)),N.size⟩
 rcases h with⟨rfl,rfl⟩|⟨g,cap,d,rfl,h2,T,h4,h5,h6,h7⟩
 . have s:=run_append_nil (P:=R) b (GW r) (GW r) (D3 r) i _ ht hi hz ⟨W.heap.size,0,none⟩ 1 1 [C a l c,I Q (t:Int)] (by rw[y];rfl) K Y Y (by rw[af];omega);rw[Qk]at s;refine⟨_,_,s,?_,fin _⟩;have:=grown [] 0 1 rfl (by rw[Ar];exact GG.snoc (cs:=[]) (L:=[]) ⟨rfl,λj p t e=>by simp at e⟩ Ql) rfl;simpa using this
 . have A:b.heap[g]?=some (U d (D3 r) (0,0)):=(k.block g (Ab.1 T).1).trans T;have x:(d.toList.take (L.length*2)).length=L.length*2:=by rw[Al];have h0:d.toList.length=d.size:=Fy;omega
   have Qj:=(h7.below k).snoc (t:=t) Ql;by_cases ah:L.length+1<=cap
   . have s:=run_append_room (P:=R) b (GW r) (GW r) (D3 r) i ht hi g L.length cap d A ⟨W.heap.size,0,none⟩ 1 1 [C a l c,I Q (t:Int)] (by rw[y];rfl) K Qh ah (by rw[y];simp;omega);rw[y]at s;obtain⟨q,ad⟩:=ex ((d.toList.take (L.length*2)++[Value.slice a l c,I Q (t:Int)]++d.toList.drop (L.length*2+[Value.slice a l c,I Q (t:Int)].length)).toArray);rw[ad]at s;have Qo:=setRow_heap b g d q (D3 r) (0,0) A;have Qd:Gq r b (b.setRow g q):=λB D u=>setRow_other b g B q λe=>u d (0,0) (by rw[e];exact A);have Qg:b.heap.size<=(b.setRow g q).heap.size:=(below_setRow (B:=0) (BF _ b) (AO _) q).size;refine⟨_,_,s,?_,λB D u=>?_,λn w0 u V=>below_setRow (V.trans (k.mono (An u X))) (An u h2) q,An k.size Qg⟩
     . refine Or.inr ⟨g,cap,q,by rw[Ao];rfl,h2,Qo,by rw[Ao];exact ah,h5,?_,?_⟩
       . rw[<-ad];simp only[As,Ao,AU,x,Ah,Ay];have h0:d.toList.length=d.size:=Fy;omega
       . have e:q.toList.take ((L++[(p,t)]).length*2)=d.toList.take (L.length*2)++[C a l c,I Q (t:Int)]:=by
          rw[<-ad];have M:(L++[(p,t)]).length*2=(d.toList.take (L.length*2)++[Value.slice a l c,I Q (t:Int)]).length:=by simp[x];omega
          rw[M];exact List.take_left
         rw[e];exact Qj.keep λ_ _ g=>Qd.rowK g
     . have Qn:B≠g:=λe=>u d (0,0) (by rw[e];exact T);exact(setRow_other b g B q Qn).trans (k.block B D)
   . have ai:∀j c',(d.toList.take (L.length*2))[j]?=some c'->b.cell? ((⟨g,0,none⟩:Addr).add j)=some c':=λj c' f=>by
      rw[Xf,AY];rw[C5]at f;split at f
      . rw[Cs]at f;exact cell_of A f
      . cases f
     have s:=run_append_grow (P:=R) b (GW r) (GW r) (D3 r) i _ ht hi hz ⟨g,0,none⟩ L.length cap (d.toList.take (L.length*2)) (by rw[y];exact x) ai ⟨W.heap.size,0,none⟩ 1 1 [C a l c,I Q (t:Int)] (by rw[y];rfl) K Y Y (by rw[af];exact growslice_fits Y Y);rw[Qk]at s;exact⟨_,_,s,grown _ cap _ rfl Qj x,fin _⟩
namespace M3
theorem Mem.farP{w W W':H}{bs:List (Option (Nat × Dat))}{r:Bool}(M:Mem w W bs)(a:Gq r W W')(e:Bl w W')(f:∀(i:Nat) B d,bs[i]?=some (some (B,d))->d.ty≠D3 r):Mem w W' bs:=by
 refine⟨λi B d h=>?_,M.2.1,e⟩;obtain⟨⟨cs,b,c⟩,j⟩:=M.1 i B d h;exact⟨⟨cs,(a.at b (f i B d h)).trans b,c.keep (λ_ _ _ g=>a.row g) (Or.inr λ_ _ g=>a.rowK g)⟩,j⟩
end M3
end
section
open Go.RowKit Go.Shelf
def Gr(s:List Rat × List Rat):List Rat × List Rat:=(Dm s.1 (Jz s.1 (JD s.2 (Jb s.1))),Dm (JD s.2 (Jb s.1)) (Jz s.1 (JD s.2 (Jb s.1))))
def DI(w y:List Rat):Nat->List Rat × List Rat
 |0=>(w,y)
 |n+1=>Gr (DI w y n)
def yP(s:List Rat × List Rat):List Rat:=Jz s.1 (JD s.2 (Jb s.1))
def yL(w y:List Rat):Nat->List (List Rat × Nat)
 |0=>[]
 |n+1=>yL w y n++(if 1<(yP (DI w y n)).length then [(yP (DI w y n),n+1)]else [])
theorem Rr(w y:List Rat):∀n,(yL w y n).length<=n:=by
 intro n;induction n with
 |zero=>exact Aa _
 |succ n a=>
  rw[yL,Ao];split
  . simp;omega
  . simp;omega
structure StOk(K M:Nat)(w y:List Rat):Prop where
 ch:M3.ChOk K w (JD y (Jb w))
 ty:Jd y=y
 cw:Cd M w
 cs:Cd M (Jb w)
 cy:Cd M y
 cz:Cd M (JD y (Jb w))
 kM:Da K w (JD y (Jb w))<=M
 l1:2*((w.length+3)*(M+1))<=1000000
 l2:2*(((JD y (Jb w)).length+3)*(M+1))<=1000000
structure PtOk(K M N:Nat)(p:List Rat):Prop where
 tp:Jd p=p
 cp:Cd M p
 ch:M3.ChOk K (Jq p) (Jb (Jq p))
 kM:Da K (Jq p) (Jb (Jq p))<=M
 l1:2*((p.length+3)*(M+1))<=1000000
 gt:1<p.length
 nN:N<=1000000
 st:∀n,n<N->1<(DI (Dm (Jq p) (Jz (Jq p) (Jb (Jq p)))) (Dm (Jb (Jq p)) (Jz (Jq p) (Jb (Jq p)))) n).1.length/\StOk K M (DI (Dm (Jq p) (Jz (Jq p) (Jb (Jq p)))) (Dm (Jb (Jq p)) (Jz (Jq p) (Jb (Jq p)))) n).1 (DI (Dm (Jq p) (Jz (Jq p) (Jb (Jq p)))) (Dm (Jb (Jq p)) (Jz (Jq p) (Jb (Jq p)))) n).2
 en:(DI (Dm (Jq p) (Jz (Jq p) (Jb (Jq p)))) (Dm (Jb (Jq p)) (Jz (Jq p) (Jb (Jq p)))) N).1.length<=1
def Kx(p:List Rat)(N:Nat):List (List Rat × Nat):=yL (Dm (Jq p) (Jz (Jq p) (Jb (Jq p)))) (Dm (Jb (Jq p)) (Jz (Jq p) (Jb (Jq p)))) N
namespace M3
def Eg(base:Nat)(V:H)(v:F)(L:List (List Rat × Nat)):Prop:=D8 true base V v L
section
variable {base:Nat} {V V':World} {v:Value} {L:List (List Rat × Nat)}
theorem Eg.below(h:Eg base V v L)(a:Bl V V'):Eg base V' v L:=D8.below h a
theorem Eg.drew(h:Eg base V v L):Eg base V.drew v L:=D8.below h ((BF _ V).drew)
theorem Eg.alloc(h:Eg base V v L)(o:Obj):Eg base (V.alloc o) v L:=D8.below h (Ba V o)
theorem Eg.set1(h:Eg base V v L){B:Nat}{a:Option Addr}{l c:Nat}(q:Boxed V B 25 (C a l c))(_:JN (C a l c)=true)(b:F):Eg base (V.setCell ⟨B,0,none⟩ b) v L:=D8.set h q (λ_ _ g=>Ei q b g)
end
theorem dS(a b:F)(ps qs:List Rat)(w:H)(i:Je w a ps)(j:Je w b qs)(k:DV ps)(l:DV qs)(m:DV (JD ps qs)):
 Calls R 90 #[a,b] w λe c=>∃u,e=.returned u/\Je c u (JD ps qs)/\Bl w c:=by
 refine(QK a b ps qs w i j k l m).mono ?_;rintro e c ⟨u,d,f,_,g⟩;exact⟨u,d,f,g⟩
theorem ON{M:Nat}{w:List Rat}(h:Cd M (Jb w))(b:M<=1000000)(i:Nat):Sq (Gn w i):=by
 have a:=(h.sqs b).at i;unfold Jb at a;rwa[Yf,Is]at a
attribute [local go_sem] Oper.semAt_some
theorem dT(K M N:Nat)(v:F)(p:List Rat)(w:H)(h:Je w v p)(ai:PtOk K M N p):
 Calls R 37 #[v] w λe w'=>∃u,e=.returned u/\D8 true w.heap.size w' u (Kx p N)/\Bl w w':=by
 have Ql:Tryz.prog.follows .mixedOrders=true:=by kernel_rfl
 obtain⟨q,hq⟩:=ex (Jq p);obtain⟨c,hc⟩:=ex (Jz q (Jb q));obtain⟨w0,bc⟩:=ex (Dm q c);obtain⟨y0,bf⟩:=ex (Dm (Jb q) c);have hM:M<=1000000:=by
  have A:=ai.l1;have:1*(M+1)<=(p.length+3)*(M+1):=Ak _ Y;omega
 have Qq:=ai.ch;have Ui:=ai.kM;rw[hq]at Qq Ui;have Uz:q.length=p.length:=by rw[<-hq];exact YZ ai.tp
 have Qu:Cd M q:=by rw[<-hq];exact ai.cp.mon ai.tp
 have Uj:Jd q=q:=by rw[<-hq];exact YF _
 have Uf:Cd M (Jb q):=(show Cd K (Jb q)from Qq.cq).mono (by have:=L5 K q (Jb q);omega);have Qw:Cd M c:=by rw[<-hc];exact Qq.gcd.mono Ui
 have Uk:Jd c=c:=by rw[<-hc];exact Yj _ _
 have Uc:Jq c=c:=by rw[<-hc];exact X6 Uj (Jr _)
 have Ux:2*(((Jb q).length+3)*(M+1))<=1000000:=by
  have A:(Jb q).length<=q.length:=An (YS _) (by simp[Hk]);have h2:((Jb q).length+3)*(M+1)<=(p.length+3)*(M+1):=Ak _ Y;have h3:=ai.l1;omega
 obtain⟨Ug,Up,Uh,Ut,Us,Uq⟩:=Ix (λ(V:H) (x:F) (r:List Rat) (hx:Je V x r)=>JX x r V hx) (λ(V:H) (x:F) (hx:Je V x p)=>show Calls R 88 #[x] V λe w'=>∃u,e=.returned u/\Je w' u q/\Bl V w' by rw[<-hq];exact dI M x p V hx ai.tp ai.cp hM) (λ(V:H) (x:F) (hx:Je V x q)=>Lx x q V hx (Qu.sqs hM) (ON Uf hM)) (λ(V:H) (x y:F) (hx:Je V x q) (hy:Je V y (Jb q))=>show Calls R 35 #[x,y] V λe w'=>∃u,e=.returned u/\Je w' u c/\Bl V w' by rw[<-hc];exact Rp K x y q (Jb q) V hx hy Qq) (λ(V:H) (x y:F) (hx:Je V x q) (hy:Je V y c)=>show Calls R 89 #[x,y] V λe w'=>∃u,e=.returned u/\Je w' u w0/\Bl V w' by rw[<-bc];exact MB M x y q c V hx hy Qu Qw Uj Uk Uc (by rw[Uz];exact ai.l1)) (λ(V:H) (x y:F) (hx:Je V x (Jb q)) (hy:Je V y c)=>show Calls R 89 #[x,y] V λe w'=>∃u,e=.returned u/\Je w' u y0/\Bl V w' by rw[<-bf];exact MB M x y (Jb q) c V hx hy Uf Qw (Jr _) Uk Uc Ux);have Qv:=ai.st;have Qz:=ai.en;rw[hq,hc,bc,bf]at Qv Qz;obtain⟨Uy,Wk,Wm⟩:=Df Qv Qz (show Kx p N=yL w0 y0 N by unfold Kx;rw[hq,hc,bc,bf]);rw[Wm.o];obtain⟨Wh,Wj,Wl⟩:=Df (λ(a b:List Rat) (ho:StOk K M a b) (V:H) (x:F) (hx:Je V x a)=>Lx x a V hx (ho.cw.sqs hM) (ON ho.cs hM)) (λ(a b:List Rat) (ho:StOk K M a b) (V:H) (x y:F) (hx:Je V x b) (hy:Je V y (Jb a))=>dS x y b (Jb a) V hx hy (ho.cy.sqs hM) (ho.cs.sqs hM) (ho.cz.sqs hM)) λ(a b:List Rat) (ho:StOk K M a b) (V:H) (x y:F) (hx:Je V x a) (hy:Je V y (JD b (Jb a)))=>Rp K x y a (JD b (Jb a)) V hx hy ho.ch;have Qf:∀(a b:List Rat),StOk K M a b->Cd M (Jz a (JD b (Jb a)))/\Jd (Jz a (JD b (Jb a)))=Jz a (JD b (Jb a))/\Jq (Jz a (JD b (Jb a)))=Jz a (JD b (Jb a)):=λa b ho=>⟨ho.ch.gcd.mono ho.kM,Yj _ _,X6 ho.ch.tp ho.ch.tq⟩;have Wc:=Ja λ(a b:List Rat) (ho:StOk K M a b) (V:H) (x y:F) (hx:Je V x a) (hy:Je V y (Jz a (JD b (Jb a))))=>MB M x y a (Jz a (JD b (Jb a))) V hx hy ho.cw (Qf a b ho).1 ho.ch.tp (Qf a b ho).2.1 (Qf a b ho).2.2 ho.l1;have Wn:=Ja λ(a b:List Rat) (ho:StOk K M a b) (V:H) (x y:F) (hx:Je V x (JD b (Jb a))) (hy:Je V y (Jz a (JD b (Jb a))))=>MB M x y (JD b (Jb a)) (Jz a (JD b (Jb a))) V hx hy ho.cz (Qf a b ho).1 ho.ch.tq (Qf a b ho).2.1 (Qf a b ho).2.2 ho.l2;have Ud:¬(p.length:Int)-1<1:=by have:=ai.gt;omega
 obtain⟨d0,bt⟩:=ex ((p.length:Int)-1:Int);rw[bt]at Ud;have Wg:=Ja bt;have ew:N<=1000000:=ai.nN;obtain⟨pa,la,pc,rfl⟩:=h.form;have M0:=(Mem.nil w).push (.poly p) (cs:=#[C pa la pc]) h;obtain⟨W0,bm⟩:=ex (w.alloc (U #[C pa la pc] 25));have Uo:=Ja bm;have M1:Hid (Mem w W0 [some (w.heap.size,.poly p)]):=Ja (by rw[<-bm];exact M0);clear M0 bm h ai Qq Ui Uz Qu Uj Uf Qw Uk Uc Ux Qv Qz Qf hM hq hc bc bf bt;go_enter Tryz.func37,Tryz.ntmps37
 go_upto_region 1 with fail
 rw[Uo.o];clear Uo;obtain⟨a1,l1,c1,n1,r1⟩:=M1.o.poly2 (i:=0) rfl;have Ua:=n1.cell;have H1:=Ja (Ug.o W0 _ p r1);rw[Wg.o]at H1;go_upto_region 3 with(go_at_call 30;refine H1.o.mono ?_;clear H1;rintro e w1 ⟨rfl,hq⟩;clear Ua;have Ua:=(boxed_below n1 hq).cell)
 have M2:Hid (Mem w w1 [some (w.heap.size,.poly p)]):=Ja (M1.o.below hq);clear M1;clear hq n1 r1 Ua;obtain⟨a2,l2,c2,n2,r2⟩:=M2.o.poly2 (i:=0) rfl;have Ub:=n2.cell;have Qy:=n2.frozen;have H1:=Ja (Up.o w1 _ r2);clear Up;go_upto_region 4 with(go_at_call 88;refine H1.o.mono ?_;clear H1;rintro e w2 ⟨u2,rfl,ck,hq⟩;obtain⟨am,ap,an,rfl⟩:=Je.form ck;clear Ub;have Ub:=(boxed_below n2 hq).cell;clear Qy;have Qy:=(boxed_below n2 hq).frozen)
 obtain⟨V3,hV⟩:=ex (w2.setCell ⟨w.heap.size,0,none⟩ (C am ap an));have g:Mem w (w2.setCell ⟨w.heap.size,0,none⟩ (C am ap an)) [some (w.heap.size,.poly q)]:=Mem.putPoly (M2.o.below hq) (i:=0) rfl ck;rw[hV]at g;rw[hV];have M3:Hid (Mem w V3 [some (w.heap.size,.poly q)]):=Ja (g);clear M2;clear g hV;clear ck hq n2 r2 Ub Qy;refine Jm Ql [[],[],[1],[0,2,2],[],[4,3,3,0,1,2,3,4]] (by kernel_rfl) DF
  (λD af V=>∃(ta tb tc td tu:F) (x4:Option (Nat × Dat)),af={ tmps:=#[S #[C pa la pc],G (some ⟨w.heap.size,0,none⟩),C none 0 0,tu,E,E,E,E,E,S #[C a1 l1 c1],I Q d0,.bool (decide (d0<1)),S #[C a2 l2 c2],S #[C am ap an],ta,tb,tc,td,E,E,E,E,E,E,E,E,E,E,E,E,E,E,E,E,E,E,E,E,E,E,E,E,E,E,E,E,E,E,E,E,E,E,E],defers:=[] }/\Hid ((D 0=true->Has V ta (.poly q))/\(D 1=true->Has V tb (.poly q))/\(D 2=true->Has V tc (.poly (Jb q)))/\(D 3=true->Has V td (.poly c))/\((D 4=false->x4=none)/\(D 4=true->D 5=false->∃B:Nat,tu=G (some ⟨B,0,none⟩)/\x4=some (B,.poly []))/\(D 5=true->∃B:Nat,tu=G (some ⟨B,0,none⟩)/\x4=some (B,.poly c))))/\Hid (Mem w V [some (w.heap.size,.poly q),x4]))
  ⟨_,_,_,_,_,none,rfl,Ja ⟨O,O,O,O,O⟩,Ja ((M3.o).none).drew⟩ ?step4 ?fin4
 case step4=>
  rintro D af V i ds aj hi m ad ⟨ta,tb,tc,td,tu,x4,rfl,f,g⟩;have Qr:i<6:=(Ac.1 hi).1;obtain rfl|rfl|rfl|rfl|rfl|rfl:=K3 i Y
  all_goals
   simp only[Af,Ae,Ai]at hi;subst hi
  . clear m;obtain⟨a,l,c,n,r⟩:=g.o.poly2 (i:=0) rfl;have e0:=n.cell;refine Za ?_;exact⟨_,_,_,_,_,_,rfl,(Dc f λ_=>r),Ja (g.o)⟩
  . clear m;obtain⟨a,l,c,n,r⟩:=g.o.poly2 (i:=0) rfl;have e0:=n.cell;refine Za ?_;exact⟨_,_,_,_,_,_,rfl,(Di f λ_=>r),Ja (g.o)⟩
  . have s:=(f.o.2.1 (m 1 O));have HC:=Ja (Uh.o V _ s);clear m s;refine Jc rfl rfl λK hK=>?_;go_simp;go_wp2_with(go_at_call 38;refine HC.o.mono ?_;rintro e w5 ⟨v5,rfl,ae,j⟩)
    exact⟨_,_,_,_,_,_,rfl,Ja ⟨λh=>(f.o.1 h).below j,λh=>(f.o.2.1 h).below j,λ_=>ae,λh=>(f.o.2.2.2.1 h).below j,f.o.2.2.2.2⟩,Ja (g.o.below j)⟩
  . have s:=(f.o.1 (m 0 O));have A:=(f.o.2.2.1 (m 2 O));have HC:=Ja (Ut.o V _ _ s A);clear m s A;refine Jc rfl rfl λK hK=>?_;go_simp;go_wp2_with(go_at_call 35;refine HC.o.mono ?_;rintro e w5 ⟨v5,rfl,ae,j⟩)
    exact⟨_,_,_,_,_,_,rfl,Ja ⟨λh=>(f.o.1 h).below j,λh=>(f.o.2.1 h).below j,λh=>(f.o.2.2.1 h).below j,λ_=>ae,f.o.2.2.2.2⟩,Ja (g.o.below j)⟩
  . have hf:D 5=false:=DG aj ad;obtain rfl:=f.o.2.2.2.2.1 ad;clear m;refine Za ?_;exact⟨_,_,_,_,_,_,rfl,Ja ⟨λh=>(f.o.1 h).alloc _,λh=>(f.o.2.1 h).alloc _,λh=>(f.o.2.2.1 h).alloc _,λh=>(f.o.2.2.2.1 h).alloc _,⟨λh=>by simp at h,λ_ _=>⟨_,rfl,rfl⟩,λh=>by simp[hf]at h⟩⟩,Ja (g.o.fill (i:=1) rfl (.poly []) (H7 _))⟩
  . obtain⟨B,rfl,rfl⟩:=Dq f (m 4 O) ad;have Qc:=m 4 O;have hv:=(f.o.2.2.2.1 (m 3 O));obtain⟨a1,l1,c1,rfl⟩:=Je.form (show Je V _ _ from hv);obtain⟨a,l,c,n,r⟩:=g.o.poly2 (i:=1) rfl;have e0:=n.cell;have f0:=n.frozen;clear m;refine Za ?_;exact⟨_,_,_,_,_,_,rfl,Ja ⟨λh=>(f.o.1 h).set1 n rfl _,λh=>(f.o.2.1 h).set1 n rfl _,λh=>(f.o.2.2.1 h).set1 n rfl _,λh=>(f.o.2.2.2.1 h).set1 n rfl _,⟨λh=>by simp[Qc]at h,λ_ h=>by simp at h,λ_=>⟨B,rfl,rfl⟩⟩⟩,Ja (g.o.putPoly (i:=1) rfl hv)⟩
 rintro D af V5 ah ⟨ta,tb,tc,td,tu,x4,rfl,f,g⟩;obtain⟨B6,rfl,rfl⟩:=f.o.2.2.2.2.2.2 (ah 5 DF);clear f ah M3;have M4:Hid (Mem w V5 [some (w.heap.size,.poly q),some (B6,.poly c)]):=g;clear g;go_upto_region 5 with fail
 refine Jm Ql [[],[],[0,1],[],[3,2],[],[4,5,4],[],[],[7,2,6,0,1,2,7,8],[8,6,9,0,1,2,3,4,5,6,7,8,9]] (by kernel_rfl) DF
  (λD af V=>∃(te tg ti tj tk tl tm tB tE:F) (x7 x8:Option (Nat × Dat)),af={ tmps:=#[S #[C pa la pc],G (some ⟨w.heap.size,0,none⟩),C none 0 0,G (some ⟨B6,0,none⟩),tB,tE,E,E,E,S #[C a1 l1 c1],I Q d0,.bool (decide (d0<1)),S #[C a2 l2 c2],S #[C am ap an],ta,tb,tc,td,te,tg,ti,tj,tk,tl,tm,E,E,E,E,E,E,E,E,E,E,E,E,E,E,E,E,E,E,E,E,E,E,E,E,E,E,E,E],defers:=[] }/\Hid ((D 0=true->Has V te (.poly q))/\(D 1=true->Has V tg (.poly c))/\(D 2=true->Has V ti (.poly w0))/\(D 3=true->Has V tj (.poly q))/\(D 4=true->Has V tk (.poly (Jb q)))/\(D 5=true->Has V tl (.poly c))/\(D 6=true->Has V tm (.poly y0))/\((D 7=false->x7=none)/\(D 7=true->D 9=false->∃B:Nat,tB=G (some ⟨B,0,none⟩)/\x7=some (B,.poly []))/\(D 9=true->∃B:Nat,tB=G (some ⟨B,0,none⟩)/\x7=some (B,.poly w0)))/\((D 8=false->x8=none)/\(D 8=true->D 10=false->∃B:Nat,tE=G (some ⟨B,0,none⟩)/\x8=some (B,.poly []))/\(D 10=true->∃B:Nat,tE=G (some ⟨B,0,none⟩)/\x8=some (B,.poly y0))))/\Hid (Mem w V [some (w.heap.size,.poly q),some (B6,.poly c),x7,x8]))
  ⟨_,_,_,_,_,_,_,_,_,none,none,rfl,Ja ⟨O,O,O,O,O,O,O,O,O⟩,Ja (((M4.o).none).none).drew⟩ ?step7 ?fin7
 case step7=>
  rintro D af V i ds aj hi m ad ⟨te,tg,ti,tj,tk,tl,tm,tB,tE,x7,x8,rfl,f,g⟩;have Qr:i<11:=(Ac.1 hi).1;obtain rfl|rfl|rfl|rfl|rfl|rfl|rfl|rfl|rfl|rfl|rfl:=Ep i Y
  all_goals
   simp only[Af,Ae,Ai]at hi;subst hi
  . clear m;obtain⟨a,l,c,n,r⟩:=g.o.poly2 (i:=0) rfl;have e0:=n.cell;refine Za ?_;exact⟨_,_,_,_,_,_,_,_,_,_,_,rfl,(Dc f λ_=>r),Ja (g.o)⟩
  . clear m;obtain⟨a,l,c,n,r⟩:=g.o.poly2 (i:=1) rfl;have e0:=n.cell;refine Za ?_;exact⟨_,_,_,_,_,_,_,_,_,_,_,rfl,(Di f λ_=>r),Ja (g.o)⟩
  . have s:=(f.o.1 (m 0 O));have A:=(f.o.2.1 (m 1 O));have HC:=Ja (Us.o V _ _ s A);clear m s A;refine Jc rfl rfl λK hK=>?_;go_simp;go_wp2_with(go_at_call 89;refine HC.o.mono ?_;rintro e w5 ⟨v5,rfl,ae,j⟩)
    obtain⟨X,G1,_,G3,G4,G5,G6,G7⟩:=f.o;exact⟨_,_,_,_,_,_,_,_,_,_,_,rfl,Ja ⟨λh=>(X h).below j,λh=>(G1 h).below j,λ_=>ae,λh=>(G3 h).below j,λh=>(G4 h).below j,λh=>(G5 h).below j,λh=>(G6 h).below j,G7⟩,Ja (g.o.below j)⟩
  . clear m;obtain⟨a,l,c,n,r⟩:=g.o.poly2 (i:=0) rfl;have e0:=n.cell;refine Za ?_;exact⟨_,_,_,_,_,_,_,_,_,_,_,rfl,(De f λ_=>r),Ja (g.o)⟩
  . have s:=(f.o.2.2.2.1 (m 3 O));have HC:=Ja (Uh.o V _ s);clear m s;refine Jc rfl rfl λK hK=>?_;go_simp;go_wp2_with(go_at_call 38;refine HC.o.mono ?_;rintro e w5 ⟨v5,rfl,ae,j⟩)
    obtain⟨X,G1,G2,G3,_,G5,G6,G7⟩:=f.o;exact⟨_,_,_,_,_,_,_,_,_,_,_,rfl,Ja ⟨λh=>(X h).below j,λh=>(G1 h).below j,λh=>(G2 h).below j,λh=>(G3 h).below j,λ_=>ae,λh=>(G5 h).below j,λh=>(G6 h).below j,G7⟩,Ja (g.o.below j)⟩
  . clear m;obtain⟨a,l,c,n,r⟩:=g.o.poly2 (i:=1) rfl;have e0:=n.cell;refine Za ?_;exact⟨_,_,_,_,_,_,_,_,_,_,_,rfl,(Dp f λ_=>r),Ja (g.o)⟩
  . have s:=(f.o.2.2.2.2.1 (m 4 O));have A:=((Dq f) (m 5 O));have HC:=Ja (Uq.o V _ _ s A);clear m s A;refine Jc rfl rfl λK hK=>?_;go_simp;go_wp2_with(go_at_call 89;refine HC.o.mono ?_;rintro e w5 ⟨v5,rfl,ae,j⟩)
    obtain⟨X,G1,G2,G3,G4,G5,_,G7⟩:=f.o;exact⟨_,_,_,_,_,_,_,_,_,_,_,rfl,Ja ⟨λh=>(X h).below j,λh=>(G1 h).below j,λh=>(G2 h).below j,λh=>(G3 h).below j,λh=>(G4 h).below j,λh=>(G5 h).below j,λ_=>ae,G7⟩,Ja (g.o.below j)⟩
  . have hf:D 9=false:=DG aj ad;obtain rfl:=f.o.2.2.2.2.2.2.2.1.1 ad;clear m;refine Za ?_;obtain⟨X,G1,G2,G3,G4,G5,G6,_,G8⟩:=f.o;exact⟨_,_,_,_,_,_,_,_,_,_,_,rfl,Ja ⟨λh=>(X h).alloc _,λh=>(G1 h).alloc _,λh=>(G2 h).alloc _,λh=>(G3 h).alloc _,λh=>(G4 h).alloc _,λh=>(G5 h).alloc _,λh=>(G6 h).alloc _,⟨λh=>by simp at h,λ_ _=>⟨_,rfl,rfl⟩,λh=>by simp[hf]at h⟩,G8⟩,Ja (g.o.fill (i:=2) rfl (.poly []) (H7 _))⟩
  . have hf:D 10=false:=DG aj ad;obtain rfl:=Ea f ad;clear m;refine Za ?_;obtain⟨X,G1,G2,G3,G4,G5,G6,G7,_⟩:=f.o;exact⟨_,_,_,_,_,_,_,_,_,_,_,rfl,Ja ⟨λh=>(X h).alloc _,λh=>(G1 h).alloc _,λh=>(G2 h).alloc _,λh=>(G3 h).alloc _,λh=>(G4 h).alloc _,λh=>(G5 h).alloc _,λh=>(G6 h).alloc _,G7,⟨λh=>by simp at h,λ_ _=>⟨_,rfl,rfl⟩,λh=>by simp[hf]at h⟩⟩,Ja (g.o.fill (i:=3) rfl (.poly []) (H7 _))⟩
  . obtain⟨B,rfl,rfl⟩:=f.o.2.2.2.2.2.2.2.1.2.1 (m 7 O) ad;have Qc:=m 7 O;have hv:=(f.o.2.2.1 (m 2 O));obtain⟨a1,l1,c1,rfl⟩:=Je.form (show Je V _ _ from hv);obtain⟨a,l,c,n,r⟩:=g.o.poly2 (i:=2) rfl;have e0:=n.cell;have f0:=n.frozen;clear m;refine Za ?_;obtain⟨X,G1,G2,G3,G4,G5,G6,_,G8⟩:=f.o;exact⟨_,_,_,_,_,_,_,_,_,_,_,rfl,Ja ⟨λh=>(X h).set1 n rfl _,λh=>(G1 h).set1 n rfl _,λh=>(G2 h).set1 n rfl _,λh=>(G3 h).set1 n rfl _,λh=>(G4 h).set1 n rfl _,λh=>(G5 h).set1 n rfl _,λh=>(G6 h).set1 n rfl _,⟨λh=>by simp[Qc]at h,λ_ h=>by simp at h,λ_=>⟨B,rfl,rfl⟩⟩,G8⟩,Ja (g.o.putPoly (i:=2) rfl hv)⟩
  . obtain⟨B,rfl,rfl⟩:=F7 f (m 8 O) ad;have Qc:=m 8 O;have hv:=((D6 f) (m 6 O));obtain⟨a1,l1,c1,rfl⟩:=Je.form (show Je V _ _ from hv);obtain⟨a,l,c,n,r⟩:=g.o.poly2 (i:=3) rfl;have e0:=n.cell;have f0:=n.frozen;clear m;refine Za ?_;obtain⟨X,G1,G2,G3,G4,G5,G6,G7,_⟩:=f.o;exact⟨_,_,_,_,_,_,_,_,_,_,_,rfl,Ja ⟨λh=>(X h).set1 n rfl _,λh=>(G1 h).set1 n rfl _,λh=>(G2 h).set1 n rfl _,λh=>(G3 h).set1 n rfl _,λh=>(G4 h).set1 n rfl _,λh=>(G5 h).set1 n rfl _,λh=>(G6 h).set1 n rfl _,G7,⟨λh=>by simp[Qc]at h,λ_ h=>by simp at h,λ_=>⟨B,rfl,rfl⟩⟩⟩,Ja (g.o.putPoly (i:=3) rfl hv)⟩
 rintro D af V8 ah ⟨te,tg,ti,tj,tk,tl,tm,tB,tE,x7,x8,rfl,f,g⟩;obtain⟨B9,rfl,rfl⟩:=f.o.2.2.2.2.2.2.2.1.2.2 (ah 9 DF);obtain⟨B10,rfl,rfl⟩:=f.o.2.2.2.2.2.2.2.2.2.2 (ah 10 DF);clear f ah M4;have M5:Hid (Mem w V8 [some (w.heap.size,.poly q),some (B6,.poly c),some (B9,.poly w0),some (B10,.poly y0)]):=g;clear g;go_wp2;go_loopw [6,7] (λlv tv wr=>∃(k:Nat) (xa:Option Addr) (xc:Nat),k<=N/\lv=C xa (yL w0 y0 k).length xc/\tv=I Q ((k+1:Nat):Int)/\Hid (Eg w.heap.size wr (C xa (yL w0 y0 k).length xc) (yL w0 y0 k))/\Hid (Mem w wr [some (w.heap.size,.poly q),some (B6,.poly c),some (B9,.poly ((DI w0 y0 k).1)),some (B10,.poly ((DI w0 y0 k).2))])) λ_ tv _=>N+1-(intOf tv).toNat
 case atStart=>exact⟨0,none,0,AO _,rfl,rfl,Ja (D8.nil _ _ _),M5⟩
 case round=>
  clear M5 Ut Us Uq Uh;obtain⟨k,xa,xc,hk,rfl,rfl,XL,M6⟩:=hrel;obtain⟨o,ci⟩:=ex ((DI w0 y0 k).1);obtain⟨z,cj⟩:=ex ((DI w0 y0 k).2);obtain⟨L,hL⟩:=ex (yL w0 y0 k);have Qa:=Ja (show(DI w0 y0 k).1=o/\(DI w0 y0 k).2=z/\yL w0 y0 k=L/\L.length<=k from⟨ci,cj,hL,by rw[<-hL];exact Rr _ _ _⟩);rw[ci,cj]at M6;rw[hL]at XL;clear ci cj hL;rw[Qa.o.2.2.1];obtain⟨ll,ce⟩:=ex (L.length:Nat);rw[ce]at XL ⊢;have Qk:=Ja ce;clear ce;obtain⟨T,hT⟩:=ex (k+1:Nat);rw[hT];have Qh:=Ja hT;clear hT;obtain⟨bj,cn,bk,bh,r11⟩:=M6.o.poly2 (i:=2) rfl;have Qd:=bh.cell;have H1:=Ja (Ug.o wr _ o r11);obtain⟨d1,bu⟩:=ex ((o.length:Int)-1:Int);rw[bu]at H1;have Uw:=Ja bu;clear bu;by_cases dp:k<N
  . have Wa:(0:Int)<d1:=by have A:=(Uy.o k dp).1;rw[Qa.o.1]at A;have:=Uw.o;omega
    have HO:=Ja (show StOk K M o z by have A:=(Uy.o k dp).2;rwa[Qa.o.1,Qa.o.2.1]at A);go_upto_region 10 with(go_at_call 30;refine H1.o.mono ?_;clear H1;rintro e w1 ⟨rfl,hq⟩;clear Qd;have Qd:=(boxed_below bh hq).cell)
    have M7:Hid (Mem w w1 [some (w.heap.size,.poly q),some (B6,.poly c),some (B9,.poly o),some (B10,.poly z)]):=Ja (M6.o.below hq);have Uv:=Ja (XL.o.below hq);clear XL hq bh r11 Qd M6;refine Jm Ql [[],[],[1],[0,2,2],[3,3,0,1,2,3]] (by kernel_rfl) DF
     (λD af V=>∃(tn tr ts tt:F) (y3:Option (Nat × Dat)),af={ tmps:=#[S #[C pa la pc],G (some ⟨w.heap.size,0,none⟩),C none 0 0,G (some ⟨B6,0,none⟩),G (some ⟨B9,0,none⟩),G (some ⟨B10,0,none⟩),C xa ll xc,I Q ↑T,u8,S #[C a1 l1 c1],I Q d0,.bool (decide (d0<1)),S #[C a2 l2 c2],S #[C am ap an],ta,tb,tc,td,te,tg,ti,tj,tk,tl,tm,S #[C bj cn bk],I Q d1,.bool true,u28,u29,tn,tr,ts,tt,u34,u35,u36,u37,u38,u39,u40,u41,u42,u43,u44,u45,u46,u47,u48,u49,u50,u51,E],defers:=[] }/\Hid ((D 0=true->Has V tn (.poly z))/\(D 1=true->Has V tr (.poly o))/\(D 2=true->Has V ts (.poly (Jb o)))/\(D 3=true->Has V tt (.poly (JD z (Jb o))))/\((D 4=false->y3=some (B10,.poly z))/\(D 4=true->y3=some (B10,.poly (JD z (Jb o))))))/\Hid (Mem w V [some (w.heap.size,.poly q),some (B6,.poly c),some (B9,.poly o),y3])/\Hid (Eg w.heap.size V (C xa ll xc) L))
     ⟨_,_,_,_,_,rfl,Ja ⟨O,O,O,O,⟨λ_=>rfl,O⟩⟩,Ja (M7.o).drew,Ja (Uv.o.drew)⟩ ?step12 ?fin12
    case step12=>
     rintro D af V i ds aj hi m ad ⟨tn,tr,ts,tt,y3,rfl,f,g,W⟩;have Qr:i<5:=(Ac.1 hi).1;obtain rfl|rfl|rfl|rfl|rfl:=Hi i Y
     all_goals
      simp only[Af,Ae,Ai]at hi;subst hi
     . have hf:D 4=false:=DG aj ad;obtain rfl:=f.o.2.2.2.2.1 hf;clear m;obtain⟨a,l,c,n,r⟩:=g.o.poly2 (i:=3) rfl;have e0:=n.cell;refine Za ?_;exact⟨_,_,_,_,_,rfl,Ja ⟨λ_=>r,f.o.2.1,f.o.2.2.1,f.o.2.2.2.1,⟨λ_=>rfl,λh=>by simp[hf]at h⟩⟩,Ja (g.o),Ja (W.o)⟩
     . clear m;obtain⟨a,l,c,n,r⟩:=g.o.poly2 (i:=2) rfl;have e0:=n.cell;refine Za ?_;exact⟨_,_,_,_,_,rfl,(Di f λ_=>r),Ja (g.o),Ja (W.o)⟩
     . have s:=(f.o.2.1 (m 1 O));have HC:=Ja (Wh.o o z HO.o V _ s);clear m s;refine Jc rfl rfl λK hK=>?_;go_simp;go_wp2_with(go_at_call 38;refine HC.o.mono ?_;rintro e w5 ⟨v5,rfl,ae,j⟩)
       exact⟨_,_,_,_,_,rfl,Ja ⟨λh=>(f.o.1 h).below j,λh=>(f.o.2.1 h).below j,λ_=>ae,λh=>(f.o.2.2.2.1 h).below j,f.o.2.2.2.2⟩,Ja (g.o.below j),Ja (W.o.below j)⟩
     . have s:=(f.o.1 (m 0 O));have A:=(f.o.2.2.1 (m 2 O));have HC:=Ja (Wj.o o z HO.o V _ _ s A);clear m s A;refine Jc rfl rfl λK hK=>?_;go_simp;go_wp2_with(go_at_call 90;refine HC.o.mono ?_;rintro e w5 ⟨v5,rfl,ae,j⟩)
       exact⟨_,_,_,_,_,rfl,Ja ⟨λh=>(f.o.1 h).below j,λh=>(f.o.2.1 h).below j,λh=>(f.o.2.2.1 h).below j,λ_=>ae,f.o.2.2.2.2⟩,Ja (g.o.below j),Ja (W.o.below j)⟩
     . obtain rfl:=f.o.2.2.2.2.1 ad;have hv:=(f.o.2.2.2.1 (m 3 O));obtain⟨a1,l1,c1,rfl⟩:=Je.form (show Je V _ _ from hv);obtain⟨a,l,c,n,r⟩:=g.o.poly2 (i:=3) rfl;have e0:=n.cell;have f0:=n.frozen;clear m;refine Za ?_;exact⟨_,_,_,_,_,rfl,Ja ⟨λh=>(f.o.1 h).set1 n rfl _,λh=>(f.o.2.1 h).set1 n rfl _,λh=>(f.o.2.2.1 h).set1 n rfl _,λh=>(f.o.2.2.2.1 h).set1 n rfl _,⟨λh=>by simp at h,λ_=>rfl⟩⟩,Ja (g.o.putPoly (i:=3) rfl hv),Ja (W.o.set1 n rfl _)⟩
    rintro D af co ah ⟨tn,tr,ts,tt,y3,rfl,f,g,W⟩;obtain rfl:=f.o.2.2.2.2.2 (ah 4 DF);clear f ah M7;have M8:Hid (Mem w co [some (w.heap.size,.poly q),some (B6,.poly c),some (B9,.poly o),some (B10,.poly (JD z (Jb o)))]):=g;clear g;have Um:=W;clear W Uv;obtain⟨P,hP⟩:=ex (Jz o (JD z (Jb o)));obtain⟨Qs,Qp,Qe,Qg⟩:=Dt hP (Wl.o o z HO.o) (Wc.o o z HO.o) (Wn.o o z HO.o);rw[hP]at Qp Qe Qg;clear hP;obtain⟨de,du,dh,dz,ei⟩:=M8.o.poly2 (i:=2) rfl;have Qx:=dz.cell;obtain⟨df,dx,di,ed,eo⟩:=M8.o.poly2 (i:=3) rfl;have Ue:=ed.cell;have H1:=Ja (Qp.o co _ _ ei eo);go_upto_region 12 with(go_at_call 35;refine H1.o.mono ?_;clear H1;rintro e w3 ⟨u3,rfl,cl,hq⟩;obtain⟨aw,ay,ax,rfl⟩:=Je.form cl)
    have Ur:=Ja ((Um.o.below hq).alloc (U #[C aw ay ax] 25));clear Um dz ei Qx ed eo Ue;have Qi:=Ur;clear Ur;obtain⟨ct,hV⟩:=ex (w3.alloc (U #[C aw ay ax] 25));obtain⟨ak,bl⟩:=ex (w3.heap.size);have g:Mem w (w3.alloc (U #[C aw ay ax] 25)) [some (w.heap.size,.poly q),some (B6,.poly c),some (B9,.poly o),some (B10,.poly (JD z (Jb o))),some (w3.heap.size,.poly P)]:=Mem.push (M8.o.below hq) (.poly P) cl;rw[hV,bl]at g;rw[hV]at Qi;rw[hV];rw[bl];have M9:Hid (Mem w ct [some (w.heap.size,.poly q),some (B6,.poly c),some (B9,.poly o),some (B10,.poly (JD z (Jb o))),some (ak,.poly P)]):=Ja (g);clear M8;clear g hV bl cl hq;obtain⟨az,bg,ba,aq,bi⟩:=M9.o.poly2 (i:=4) rfl;have Qb:=aq.cell;have H1:=Ja (Ug.o ct _ P bi);obtain⟨d2,bz⟩:=ex ((P.length:Int)-1:Int);rw[bz]at H1;have Un:=Ja bz;clear bz;by_cases dj:1<P.length
    . have We:(0:Int)<d2:=by have:=Un.o;omega
      have Qj:=Ja (show yL w0 y0 (k+1)=L++[(P,T)]by rw[yL,Qa.o.2.2.1];unfold yP;rw[Qa.o.1,Qa.o.2.1,Qs.o,BC dj,Qh.o]);go_upto_region 13 with(go_at_call 30;refine H1.o.mono ?_;clear H1;rintro e w4 ⟨rfl,hq⟩;clear Qb;have Qb:=(boxed_below aq hq).cell)
      have X4:=Qi.o.below hq;have M4:=M9.o.below hq;have r4:=bi.below hq;have Ul:=M4.2.2.size;obtain⟨v',w',bn,X5,dm,dk,et⟩:=dQ true w.heap.size w4 (C xa ll xc) L X4 (t:=T) r4.row (by have:=Qa.o.2.2.2;omega) Ul;obtain⟨ya,yc,dt,_,_⟩:=X5.form;rw[Ao,show([(P,T)]:List (List Rat × Nat)).length=1 from rfl]at dt;subst dt;have M5:=M4.farP dm (dk _ w (Aa _) M4.2.2) (λi B d e=>by rcases i with _|_|_|_|_|i<;>simp at e<;>(obtain⟨rfl,rfl⟩:=e;show 25≠73;decide));have e4:=(boxed_below aq hq).cell;clear X4 r4 Ul dm dk et hq M4 aq bi Qb Qi;rw[show GW true=70 from rfl,show D3 true=73 from rfl]at bn;go_upto_region 14 with(first
       |(at_builtin;refine Lib.wpList_append_run _ rfl _ _ 70 70 rfl _ _ rfl rfl _ _ bn ?_;clear bn))
      clear e4 M9;have Qn:Hid (Mem w w' [some (w.heap.size,.poly q),some (B6,.poly c),some (B9,.poly o),some (B10,.poly (JD z (Jb o))),some (ak,.poly P)]):=Ja (M5);clear M5;have Uu:Hid (Eg w.heap.size w' (C ya (L.length+1) yc) (L++[(P,T)])):=Ja X5;clear X5;rw[Qk.o]at Uu;refine Jm Ql [[],[],[0,1],[],[],[3,4,2],[2,5,0,1,2],[5,6,0,1,2,3,4,5,6]] (by kernel_rfl) DF
       (λD af V=>∃(tw tx tz tA tC tD:F) (y2 y3:Option (Nat × Dat)),af={ tmps:=#[S #[C pa la pc],G (some ⟨w.heap.size,0,none⟩),C none 0 0,G (some ⟨B6,0,none⟩),G (some ⟨B9,0,none⟩),G (some ⟨B10,0,none⟩),C ya (L.length+1) yc,I Q ↑T,G (some ⟨ak,0,none⟩),S #[C a1 l1 c1],I Q d0,.bool (decide (d0<1)),S #[C a2 l2 c2],S #[C am ap an],ta,tb,tc,td,te,tg,ti,tj,tk,tl,tm,S #[C bj cn bk],I Q d1,.bool true,u28,u29,tn,tr,ts,tt,S #[C de du dh],S #[C df dx di],S #[C aw ay ax],S #[C az bg ba],I Q d2,.bool true,C xa ll xc,S #[C az bg ba],I Q ↑T,S #[C az bg ba,I Q ↑T],C (some ⟨w4.heap.size,0,none⟩) 1 1,C ya (L.length+1) yc,tw,tx,tz,tA,tC,tD,E],defers:=[] }/\Hid ((D 0=true->Has V tw (.poly o))/\(D 1=true->Has V tx (.poly P))/\(D 2=true->Has V tz (.poly (Dm o P)))/\(D 3=true->Has V tA (.poly (JD z (Jb o))))/\(D 4=true->Has V tC (.poly P))/\(D 5=true->Has V tD (.poly (Dm (JD z (Jb o)) P)))/\((D 6=false->y2=some (B9,.poly o))/\(D 6=true->y2=some (B9,.poly (Dm o P))))/\((D 7=false->y3=some (B10,.poly (JD z (Jb o))))/\(D 7=true->y3=some (B10,.poly (Dm (JD z (Jb o)) P)))))/\Hid (Mem w V [some (w.heap.size,.poly q),some (B6,.poly c),y2,y3,some (ak,.poly P)])/\Hid (Eg w.heap.size V (C ya (ll+1) yc) (L++[(P,T)])))
       ⟨_,_,_,_,_,_,_,_,rfl,Ja ⟨O,O,O,O,O,O,⟨λ_=>rfl,O⟩,⟨λ_=>rfl,O⟩⟩,Ja (Qn.o).drew,Ja (Uu.o.drew)⟩ ?step18 ?fin18
      case step18=>
       rintro D af V i ds aj hi m ad ⟨tw,tx,tz,tA,tC,tD,y2,y3,rfl,f,g,W⟩;have Qr:i<8:=(Ac.1 hi).1;obtain rfl|rfl|rfl|rfl|rfl|rfl|rfl|rfl:=K4 i Y
       all_goals
        simp only[Af,Ae,Ai]at hi;subst hi
       . have hf:D 6=false:=DG aj ad;obtain rfl:=f.o.2.2.2.2.2.2.1.1 hf;clear m;obtain⟨a,l,c,n,r⟩:=g.o.poly2 (i:=2) rfl;have e0:=n.cell;refine Za ?_;exact⟨_,_,_,_,_,_,_,_,rfl,(Ds (Dc f λ_=>r) ⟨λ_=>rfl,λh=>by simp[hf]at h⟩),Ja (g.o),Ja (W.o)⟩
       . clear m;obtain⟨a,l,c,n,r⟩:=g.o.poly2 (i:=4) rfl;have e0:=n.cell;refine Za ?_;exact⟨_,_,_,_,_,_,_,_,rfl,(Di f λ_=>r),Ja (g.o),Ja (W.o)⟩
       . have s:=(f.o.1 (m 0 O));have A:=(f.o.2.1 (m 1 O));have HC:=Ja (Qe.o V _ _ s A);clear m s A;refine Jc rfl rfl λK hK=>?_;go_simp;go_wp2_with(go_at_call 89;refine HC.o.mono ?_;rintro e w5 ⟨v5,rfl,ae,j⟩)
         obtain⟨X,G1,_,G3,G4,G5,G6⟩:=f.o;exact⟨_,_,_,_,_,_,_,_,rfl,Ja ⟨λh=>(X h).below j,λh=>(G1 h).below j,λ_=>ae,λh=>(G3 h).below j,λh=>(G4 h).below j,λh=>(G5 h).below j,G6⟩,Ja (g.o.below j),Ja (W.o.below j)⟩
       . have hf:D 7=false:=DG aj ad;obtain rfl:=EQ f hf;clear m;obtain⟨a,l,c,n,r⟩:=g.o.poly2 (i:=3) rfl;have e0:=n.cell;refine Za ?_;exact⟨_,_,_,_,_,_,_,_,rfl,(LL (De f λ_=>r) ⟨λ_=>rfl,λh=>by simp[hf]at h⟩),Ja (g.o),Ja (W.o)⟩
       . clear m;obtain⟨a,l,c,n,r⟩:=g.o.poly2 (i:=4) rfl;have e0:=n.cell;refine Za ?_;exact⟨_,_,_,_,_,_,_,_,rfl,(Do f λ_=>r),Ja (g.o),Ja (W.o)⟩
       . have s:=(f.o.2.2.2.1 (m 3 O));have A:=(f.o.2.2.2.2.1 (m 4 O));have HC:=Ja (Qg.o V _ _ s A);clear m s A;refine Jc rfl rfl λK hK=>?_;go_simp;go_wp2_with(go_at_call 89;refine HC.o.mono ?_;rintro e w5 ⟨v5,rfl,ae,j⟩)
         obtain⟨X,G1,G2,G3,G4,_,G6⟩:=f.o;exact⟨_,_,_,_,_,_,_,_,rfl,Ja ⟨λh=>(X h).below j,λh=>(G1 h).below j,λh=>(G2 h).below j,λh=>(G3 h).below j,λh=>(G4 h).below j,λ_=>ae,G6⟩,Ja (g.o.below j),Ja (W.o.below j)⟩
       . obtain rfl:=f.o.2.2.2.2.2.2.1.1 ad;have hv:=(f.o.2.2.1 (m 2 O));obtain⟨a1,l1,c1,rfl⟩:=Je.form (show Je V _ _ from hv);obtain⟨a,l,c,n,r⟩:=g.o.poly2 (i:=2) rfl;have e0:=n.cell;have f0:=n.frozen;clear m;refine Za ?_;obtain⟨X,G1,G2,G3,G4,G5,_,G7⟩:=f.o;exact⟨_,_,_,_,_,_,_,_,rfl,Ja ⟨λh=>(X h).set1 n rfl _,λh=>(G1 h).set1 n rfl _,λh=>(G2 h).set1 n rfl _,λh=>(G3 h).set1 n rfl _,λh=>(G4 h).set1 n rfl _,λh=>(G5 h).set1 n rfl _,⟨λh=>by simp at h,λ_=>rfl⟩,G7⟩,Ja (g.o.putPoly (i:=2) rfl hv),Ja (W.o.set1 n rfl _)⟩
       . obtain rfl:=EQ f ad;have hv:=((Dq f) (m 5 O));obtain⟨a1,l1,c1,rfl⟩:=Je.form (show Je V _ _ from hv);obtain⟨a,l,c,n,r⟩:=g.o.poly2 (i:=3) rfl;have e0:=n.cell;have f0:=n.frozen;clear m;refine Za ?_;obtain⟨X,G1,G2,G3,G4,G5,G6,_⟩:=f.o;exact⟨_,_,_,_,_,_,_,_,rfl,Ja ⟨λh=>(X h).set1 n rfl _,λh=>(G1 h).set1 n rfl _,λh=>(G2 h).set1 n rfl _,λh=>(G3 h).set1 n rfl _,λh=>(G4 h).set1 n rfl _,λh=>(G5 h).set1 n rfl _,G6,⟨λh=>by simp at h,λ_=>rfl⟩⟩,Ja (g.o.putPoly (i:=3) rfl hv),Ja (W.o.set1 n rfl _)⟩
      rintro D af da ah ⟨tw,tx,tz,tA,tC,tD,y2,y3,rfl,f,g,W⟩;obtain rfl:=f.o.2.2.2.2.2.2.1.2 (ah 6 DF);obtain rfl:=f.o.2.2.2.2.2.2.2.2 (ah 7 DF);clear f ah Qn;have Qo:Hid (Mem w da [some (w.heap.size,.poly q),some (B6,.poly c),some (B9,.poly (Dm o P)),some (B10,.poly (Dm (JD z (Jb o)) P)),some (ak,.poly P)]):=g;clear g;have Qt:Hid (Mem w da [some (w.heap.size,.poly q),some (B6,.poly c),some (B9,.poly (Dm o P)),some (B10,.poly (Dm (JD z (Jb o)) P))]):=Ja (Qo.o.take 4);have Qm:=Ja (show(DI w0 y0 (k+1)).1=Dm o P/\(DI w0 y0 (k+1)).2=Dm (JD z (Jb o)) P by rw[DI];unfold Gr;rw[Qa.o.1,Qa.o.2.1,Qs.o];exact⟨rfl,rfl⟩);have Wd:T+1<=9223372036854775807:=by have:=Qh.o;omega
      clear Qo;go_wp2_with fail
      go_roundw
      case rel=>exact⟨k+1,ya,yc,Y,by rw[Qj.o,Ao,Qk.o];rfl,by rw[Qh.o];go_num,by rw[Qj.o,Ao,Qk.o];exact W,by rw[Qm.o.1,Qm.o.2];exact Qt⟩
      case measure=>simp[intOf];have:=Qh.o;omega
    . have We:¬(0:Int)<d2:=by have:=Un.o;omega
      have Qj:=Ja (show yL w0 y0 (k+1)=L by rw[yL,Qa.o.2.2.1];unfold yP;rw[Qa.o.1,Qa.o.2.1,Qs.o,BB dj,C4]);go_upto_region 14 with(go_at_call 30;refine H1.o.mono ?_;clear H1;rintro e w4 ⟨rfl,hq⟩;clear Qb;have Qb:=(boxed_below aq hq).cell)
      have Wb:=Ja (Qi.o.below hq);have Qn:Hid (Mem w w4 [some (w.heap.size,.poly q),some (B6,.poly c),some (B9,.poly o),some (B10,.poly (JD z (Jb o))),some (ak,.poly P)]):=Ja (M9.o.below hq);clear M9;clear hq aq bi Qb Qi;refine Jm Ql [[],[],[0,1],[],[],[3,4,2],[2,5,0,1,2],[5,6,0,1,2,3,4,5,6]] (by kernel_rfl) DF
       (λD af V=>∃(tw tx tz tA tC tD:F) (y2 y3:Option (Nat × Dat)),af={ tmps:=#[S #[C pa la pc],G (some ⟨w.heap.size,0,none⟩),C none 0 0,G (some ⟨B6,0,none⟩),G (some ⟨B9,0,none⟩),G (some ⟨B10,0,none⟩),C xa ll xc,I Q ↑T,G (some ⟨ak,0,none⟩),S #[C a1 l1 c1],I Q d0,.bool (decide (d0<1)),S #[C a2 l2 c2],S #[C am ap an],ta,tb,tc,td,te,tg,ti,tj,tk,tl,tm,S #[C bj cn bk],I Q d1,.bool true,u28,u29,tn,tr,ts,tt,S #[C de du dh],S #[C df dx di],S #[C aw ay ax],S #[C az bg ba],I Q d2,.bool (decide (0<d2)),u40,u41,u42,u43,u44,u45,tw,tx,tz,tA,tC,tD,E],defers:=[] }/\Hid ((D 0=true->Has V tw (.poly o))/\(D 1=true->Has V tx (.poly P))/\(D 2=true->Has V tz (.poly (Dm o P)))/\(D 3=true->Has V tA (.poly (JD z (Jb o))))/\(D 4=true->Has V tC (.poly P))/\(D 5=true->Has V tD (.poly (Dm (JD z (Jb o)) P)))/\((D 6=false->y2=some (B9,.poly o))/\(D 6=true->y2=some (B9,.poly (Dm o P))))/\((D 7=false->y3=some (B10,.poly (JD z (Jb o))))/\(D 7=true->y3=some (B10,.poly (Dm (JD z (Jb o)) P)))))/\Hid (Mem w V [some (w.heap.size,.poly q),some (B6,.poly c),y2,y3,some (ak,.poly P)])/\Hid (Eg w.heap.size V (C xa ll xc) L))
       ⟨_,_,_,_,_,_,_,_,rfl,Ja ⟨O,O,O,O,O,O,⟨λ_=>rfl,O⟩,⟨λ_=>rfl,O⟩⟩,Ja (Qn.o).drew,Ja (Wb.o.drew)⟩ ?step20 ?fin20
      case step20=>
       rintro D af V i ds aj hi m ad ⟨tw,tx,tz,tA,tC,tD,y2,y3,rfl,f,g,W⟩;have Qr:i<8:=(Ac.1 hi).1;obtain rfl|rfl|rfl|rfl|rfl|rfl|rfl|rfl:=K4 i Y
       all_goals
        simp only[Af,Ae,Ai]at hi;subst hi
       . have hf:D 6=false:=DG aj ad;obtain rfl:=f.o.2.2.2.2.2.2.1.1 hf;clear m;obtain⟨a,l,c,n,r⟩:=g.o.poly2 (i:=2) rfl;have e0:=n.cell;refine Za ?_;exact⟨_,_,_,_,_,_,_,_,rfl,(Ds (Dc f λ_=>r) ⟨λ_=>rfl,λh=>by simp[hf]at h⟩),Ja (g.o),Ja (W.o)⟩
       . clear m;obtain⟨a,l,c,n,r⟩:=g.o.poly2 (i:=4) rfl;have e0:=n.cell;refine Za ?_;exact⟨_,_,_,_,_,_,_,_,rfl,(Di f λ_=>r),Ja (g.o),Ja (W.o)⟩
       . have s:=(f.o.1 (m 0 O));have A:=(f.o.2.1 (m 1 O));have HC:=Ja (Qe.o V _ _ s A);clear m s A;refine Jc rfl rfl λK hK=>?_;go_simp;go_wp2_with(go_at_call 89;refine HC.o.mono ?_;rintro e w5 ⟨v5,rfl,ae,j⟩)
         obtain⟨X,G1,_,G3,G4,G5,G6⟩:=f.o;exact⟨_,_,_,_,_,_,_,_,rfl,Ja ⟨λh=>(X h).below j,λh=>(G1 h).below j,λ_=>ae,λh=>(G3 h).below j,λh=>(G4 h).below j,λh=>(G5 h).below j,G6⟩,Ja (g.o.below j),Ja (W.o.below j)⟩
       . have hf:D 7=false:=DG aj ad;obtain rfl:=EQ f hf;clear m;obtain⟨a,l,c,n,r⟩:=g.o.poly2 (i:=3) rfl;have e0:=n.cell;refine Za ?_;exact⟨_,_,_,_,_,_,_,_,rfl,(LL (De f λ_=>r) ⟨λ_=>rfl,λh=>by simp[hf]at h⟩),Ja (g.o),Ja (W.o)⟩
       . clear m;obtain⟨a,l,c,n,r⟩:=g.o.poly2 (i:=4) rfl;have e0:=n.cell;refine Za ?_;exact⟨_,_,_,_,_,_,_,_,rfl,(Do f λ_=>r),Ja (g.o),Ja (W.o)⟩
       . have s:=(f.o.2.2.2.1 (m 3 O));have A:=(f.o.2.2.2.2.1 (m 4 O));have HC:=Ja (Qg.o V _ _ s A);clear m s A;refine Jc rfl rfl λK hK=>?_;go_simp;go_wp2_with(go_at_call 89;refine HC.o.mono ?_;rintro e w5 ⟨v5,rfl,ae,j⟩)
         obtain⟨X,G1,G2,G3,G4,_,G6⟩:=f.o;exact⟨_,_,_,_,_,_,_,_,rfl,Ja ⟨λh=>(X h).below j,λh=>(G1 h).below j,λh=>(G2 h).below j,λh=>(G3 h).below j,λh=>(G4 h).below j,λ_=>ae,G6⟩,Ja (g.o.below j),Ja (W.o.below j)⟩
       . obtain rfl:=f.o.2.2.2.2.2.2.1.1 ad;have hv:=(f.o.2.2.1 (m 2 O));obtain⟨a1,l1,c1,rfl⟩:=Je.form (show Je V _ _ from hv);obtain⟨a,l,c,n,r⟩:=g.o.poly2 (i:=2) rfl;have e0:=n.cell;have f0:=n.frozen;clear m;refine Za ?_;obtain⟨X,G1,G2,G3,G4,G5,_,G7⟩:=f.o;exact⟨_,_,_,_,_,_,_,_,rfl,Ja ⟨λh=>(X h).set1 n rfl _,λh=>(G1 h).set1 n rfl _,λh=>(G2 h).set1 n rfl _,λh=>(G3 h).set1 n rfl _,λh=>(G4 h).set1 n rfl _,λh=>(G5 h).set1 n rfl _,⟨λh=>by simp at h,λ_=>rfl⟩,G7⟩,Ja (g.o.putPoly (i:=2) rfl hv),Ja (W.o.set1 n rfl _)⟩
       . obtain rfl:=EQ f ad;have hv:=((Dq f) (m 5 O));obtain⟨a1,l1,c1,rfl⟩:=Je.form (show Je V _ _ from hv);obtain⟨a,l,c,n,r⟩:=g.o.poly2 (i:=3) rfl;have e0:=n.cell;have f0:=n.frozen;clear m;refine Za ?_;obtain⟨X,G1,G2,G3,G4,G5,G6,_⟩:=f.o;exact⟨_,_,_,_,_,_,_,_,rfl,Ja ⟨λh=>(X h).set1 n rfl _,λh=>(G1 h).set1 n rfl _,λh=>(G2 h).set1 n rfl _,λh=>(G3 h).set1 n rfl _,λh=>(G4 h).set1 n rfl _,λh=>(G5 h).set1 n rfl _,G6,⟨λh=>by simp at h,λ_=>rfl⟩⟩,Ja (g.o.putPoly (i:=3) rfl hv),Ja (W.o.set1 n rfl _)⟩
      rintro D af db ah ⟨tw,tx,tz,tA,tC,tD,y2,y3,rfl,f,g,W⟩;obtain rfl:=f.o.2.2.2.2.2.2.1.2 (ah 6 DF);obtain rfl:=f.o.2.2.2.2.2.2.2.2 (ah 7 DF);clear f ah Qn;have Qo:Hid (Mem w db [some (w.heap.size,.poly q),some (B6,.poly c),some (B9,.poly (Dm o P)),some (B10,.poly (Dm (JD z (Jb o)) P)),some (ak,.poly P)]):=g;clear g;have Qt:Hid (Mem w db [some (w.heap.size,.poly q),some (B6,.poly c),some (B9,.poly (Dm o P)),some (B10,.poly (Dm (JD z (Jb o)) P))]):=Ja (Qo.o.take 4);have Qm:=Ja (show(DI w0 y0 (k+1)).1=Dm o P/\(DI w0 y0 (k+1)).2=Dm (JD z (Jb o)) P by rw[DI];unfold Gr;rw[Qa.o.1,Qa.o.2.1,Qs.o];exact⟨rfl,rfl⟩);have Wd:T+1<=9223372036854775807:=by have:=Qh.o;omega
      clear Qo;go_wp2_with fail
      go_roundw
      case rel=>exact⟨k+1,xa,xc,Y,by rw[Qj.o,Qk.o],by rw[Qh.o];go_num,by rw[Qj.o,Qk.o];exact W,by rw[Qm.o.1,Qm.o.2];exact Qt⟩
      case measure=>simp[intOf];have:=Qh.o;omega
  . obtain rfl:k=N:=Y
    have Wa:¬(0:Int)<d1:=by have A:=Wk.o;rw[Qa.o.1]at A;have:=Uw.o;omega
    go_wp2_with(go_at_call 30;refine H1.o.mono ?_;clear H1;rintro e w1 ⟨rfl,hq⟩;clear Qd;have Qd:=(boxed_below bh hq).cell)
    have HF:=Ja (show D8 true w.heap.size w1 (C xa ll xc) (yL w0 y0 k)/\Bl w w1 by rw[Qa.o.2.2.1];exact⟨XL.o.below hq,(M6.o.below hq).2.2⟩);go_ret;exact⟨_,rfl,HF.o⟩
end M3
end
variable{p:List Rat}{l:Nat}{r:Nat->Int}{c:Rat}
theorem dU:∀D:Nat,1<D->∃l,1<l/\l∣D/\∀a:Nat,¬l∣a->Nat.gcd l a=1:=by
 intro D;induction D using Nat.strongRecOn with
 |ind D i=>
  intro hD;by_cases h:∀d,d∣D->d=1\/d=D
  . refine⟨D,hD,Nat.dvd_refl _,λa f=>?_⟩;rcases h _ (Fj D a)with e|e
    . exact e
    . exact absurd (e ▸ CV D a) f
  . obtain⟨d,g⟩:=Classical.not_forall.1 h;obtain⟨b,c⟩:=Classical.not_imp.1 g;have k:d≠1/\d≠D:=⟨λe=>c (Or.inl e),λe=>c (Or.inr e)⟩;have m:d<=D:=Nat.le_of_dvd Y b;have n:d≠0:=λe=>by subst e;have:=Nat.zero_dvd.1 b;omega
    obtain⟨l,l1,l2,j⟩:=i d Y Y;exact⟨l,l1,Nat.dvd_trans l2 b,j⟩
theorem OO{P:Nat->Prop}(h:∃a,P a):∃a,P a/\∀i,i<a->¬P i:=by
 obtain⟨a,d⟩:=h;induction a using Nat.strongRecOn with
 |ind a f=>
  by_cases h:∃i,i<a/\P i
  . obtain⟨i,b,c⟩:=h;exact f i b c
  . exact⟨a,d,λi e hp=>h ⟨i,e,hp⟩⟩
theorem dV{l:Int}{f:Nat->Int}{a:Nat}:∀n,a<n->(∀i,i<n->i≠a->l∣f i)->l∣Yl n f->l∣f a:=by
 have j:∀n,(∀i,i<n->l∣f i)->l∣Yl n f:=λn=>by
  induction n with
  |zero=>exact λ_=>Int.dvd_zero _
  |succ n d=>exact λh=>by rw[Yl];exact Int.dvd_add (d λi g=>h i Y) (h n Y)
 intro n;induction n with
 |zero=>intro h;omega
 |succ n d=>
  intro o h c;rw[Yl]at c;by_cases e:a=n
  . subst e;have m:=j a λi g=>h i Y Y;have b:=Int.dvd_sub c m;rwa[show Yl a f+f a-Yl a f=f a by omega]at b
  . refine d Y (λi g=>h i Y) ?_;have b:=Int.dvd_sub c (h n Y λk=>e k.symm);rwa[show Yl n f+f n-f n=Yl n f by omega]at b
theorem dW(hl:∀a:Nat,¬l∣a->Nat.gcd l a=1){s:Nat->Int}{n:Nat}(p:∀i,n<=i->r i=0)(h:∀k,(l:Int)∣Yl n λi=>if i<=k then r i*s (k-i)else 0)(o:∃a,¬(l:Int)∣r a)(q:∃b,¬(l:Int)∣s b):False:=by
 obtain⟨a,e,g⟩:=OO o;obtain⟨b,j,m⟩:=OO q;have f:a<n:=by
  by_cases c:a<n
  . exact c
  . exact absurd (by rw[p a Y];exact Int.dvd_zero _) e
 have c:=dV n f (λi t u=>by
  split
  . by_cases d:i<a
    . exact Int.dvd_trans (Classical.not_not.1 (g i d)) (Int.dvd_mul_right _ _)
    . exact Int.dvd_trans (Classical.not_not.1 (m (a+b-i) Y)) (Int.dvd_mul_left _ _)
  . exact Int.dvd_zero _) (h (a+b))
 rw[BC Y,show a+b-a=b by omega,CN]at c;exact j (dvd_one c (by rw[AK];exact hl _ λd=>e (CP.2 d)))
theorem dZ{L G:Int}(W:∀i,((cf p i).den:Int)∣L)(X:∀u:Int,(∀i,((cf p i).den:Int)∣u)->L∣u)(T:∀i,G∣(cf p i).num)(V:∀v:Int,(∀i,v∣(cf p i).num)->v∣G)(P:G≠0)(hz:∀i,∃z:Int,cf p i*c=(z:Rat)):
 ∃t:Int,∀i,∃r:Int,cf p i*((L:Rat)/(G:Rat))=(r:Rat)/\cf p i*c=((r*t:Int):Rat):=by
 have y:(c.den:Int)≠0:=by have:=c.den_nz;omega
 have j:∀i,∃z:Int,cf p i*c=(z:Rat)/\(cf p i).num*c.num=z*((cf p i).den*c.den):=λi=>by
  obtain⟨z,b⟩:=hz i;refine⟨z,b,?_⟩;have B:c*(c.den:Rat)=(c.num:Rat):=Hf c;have a:cf p i*((cf p i).den:Rat)=((cf p i).num:Rat):=Hf _;have D:(((cf p i).num*c.num:Int):Rat)=((z*(((cf p i).den:Int)*(c.den:Int)):Int):Rat):=by
   rw[AB,AB,AB,AP,AP,<-B,<-a,<-b];grind
  exact Rat.intCast_inj.1 D
 have l:L∣c.num:=X _ λi=>by
  obtain⟨z,_,e⟩:=j i;have g:((cf p i).den:Int)∣(cf p i).num*c.num:=⟨z*c.den,by rw[e,Int.mul_left_comm]⟩;rw[CN]at g;refine dvd_one g ?_;rw[AK,CZ];exact(cf p i).reduced
 have n:(c.den:Int)∣G:=V _ λi=>by
  obtain⟨z,_,e⟩:=j i;have g:(c.den:Int)∣(cf p i).num*c.num:=⟨z*(cf p i).den,by rw[e,<-Fx,CN]⟩;refine dvd_one g ?_;rw[AK,CZ];exact c.reduced
 obtain⟨u,l⟩:=l;obtain⟨v,n⟩:=n;refine⟨u*v,λi=>?_⟩;obtain⟨e,s⟩:=W i;obtain⟨m,w⟩:=T i;obtain⟨z,K,b⟩:=j i;have hd:((cf p i).den:Int)≠0:=by have:=(cf p i).den_nz;omega
 have A:z=m*e*(u*v):=by
  have M:z*(((cf p i).den:Int)*c.den)=m*e*(u*v)*(((cf p i).den:Int)*c.den):=by
   rw[<-b,w,l,n,s];generalize ((cf p i).den:Int)=d;generalize (c.den:Int)=f;grind
  exact Int.eq_of_mul_eq_mul_right (CI hd y) M
 refine⟨m*e,?_,by rw[K,A]⟩;have o:(G:Rat)≠0:=by exact_mod_cast P
 have a:cf p i*((cf p i).den:Rat)=((cf p i).num:Rat):=Hf _;rw[w,AB]at a;have x:(L:Rat)=((cf p i).den:Rat)*(e:Rat):=by rw[s,AB,AP]
 have k:(L:Rat)/(G:Rat)*(G:Rat)=L:=Ap o;have N:(cf p i*((L:Rat)/(G:Rat))-((m*e:Int):Rat))*(G:Rat)=0:=by
  rw[AB];generalize (L:Rat)/(G:Rat)=f at k ⊢;rw[x]at k;generalize ((cf p i).den:Rat)=d at a k;grind
 rcases AM.1 N with q|q
 . grind
 . exact absurd q o
theorem Rs(hp:Jd p=p)(e:p≠[])(l:∀i,∃z:Int,cf p i*c=(z:Rat)):∃t:Int,∀i,∃r:Int,cf (JI p) i=(r:Rat)/\cf p i*c=((r*t:Int):Rat):=by
 have b:∀i,p.length<=i->cf p i=0:=λi a=>Ye a;obtain⟨t,g⟩:=dZ (p:=p) (L:=(Y4 p p.length:Int)) (G:=(YO p p.length:Int)) (λi=>by
  by_cases a:i<p.length
  . exact Int.natCast_dvd_natCast.2 (OB p _ i a)
  . rw[b i Y];exact Int.one_dvd _) (λu j=>CP.2 (OC p _ (λi=>CP.1 (j i)) _)) (λi=>by
  by_cases a:i<p.length
  . exact CP.2 (OD p _ i a)
  . rw[b i Y];exact Int.dvd_zero _) (λv k=>by
  have:v.natAbs∣YO p p.length:=RX p _ (λi=>FG.2 (k i)) _;exact Int.natAbs_dvd.1 (Int.natCast_dvd_natCast.2 this)) (by have:=Kt hp e;omega) l
 refine⟨t,λi=>?_⟩;obtain⟨r,d,f⟩:=g i;refine⟨r,?_,f⟩;unfold JI;rw[Yw];rw[AP,AP]at d;exact d
theorem Rt(hp:Jd p=p)(m:p≠[])(o:∀i,cf (JI p) i=(r i:Rat))(hl:1<l):∃i,¬(l:Int)∣r i:=by
 by_cases h:∃i,¬(l:Int)∣r i
 . exact h
 . exfalso
   have u:∀i,(l:Int)∣r i:=λi=>Classical.not_not.1 λb=>h ⟨i,b⟩;have d:(l:Rat)≠0:=by exact_mod_cast (show l≠0 by omega)
   obtain⟨c,n,e⟩:=GF hp;have w:c≠0:=λg=>by rw[g]at n;exact absurd n DF
   have f:∀i,cf p i*c=(r i:Rat):=λi=>by rw[<-Yw,<-e,o]
   obtain⟨t,K⟩:=Rs hp m (c:=c/(l:Rat)) (λi=>by
    obtain⟨q,hq⟩:=u i;refine⟨q,?_⟩;have b:c/(l:Rat)*(l:Rat)=c:=Ap d;have j:=f i;rw[hq,AB,AP]at j;have a:(cf p i*(c/(l:Rat))-(q:Rat))*(l:Rat)=0:=by grind
    rcases AM.1 a with k|k
    . grind
    . exact absurd k d)
   obtain⟨L,b,j⟩:=K (p.length-1);have s:=Jt hp m;have x:L=r (p.length-1):=Rat.intCast_inj.1 (by rw[<-b,o]);have v:r (p.length-1)≠0:=λg=>by
    have a:=f (p.length-1);rw[g]at a;exact X2 s w a
   have a:=f (p.length-1);have k:c/(l:Rat)*(l:Rat)=c:=Ap d;have y:((r (p.length-1):Int):Rat)=(((r (p.length-1))*(t*(l:Int)):Int):Rat):=by
    rw[<-a,AB,AB,AP];rw[x,AB]at j;grind
   have z:=Rat.intCast_inj.1 y;have A:t*(l:Int)=1:=by
    have B:r (p.length-1)*1=r (p.length-1)*(t*(l:Int)):=by rw[Int.mul_one];exact z
    exact(Int.eq_of_mul_eq_mul_left v B).symm
   have D:(l:Int)∣1:=⟨t,by rw[CN];exact A.symm⟩;have M:=Int.le_of_dvd DF D;omega
theorem OP(hp:Jd p=p)(b:p≠[]):∀i,∃r:Int,cf (JI p) i=(r:Rat):=by
 obtain⟨t,k⟩:=Rs hp b (c:=(Y4 p p.length:Rat)) (λi=>by
  have f:(cf p i).den∣Y4 p p.length:=by
   by_cases j:i<p.length
   . exact OB p _ i j
   . rw[Ye Y];exact Nat.one_dvd _
  obtain⟨e,g⟩:=f;refine⟨(cf p i).num*(e:Int),?_⟩;have a:cf p i*((cf p i).den:Rat)=((cf p i).num:Rat):=Hf _;rw[g,AB,<-a,AP,Rat.natCast_mul];grind)
 intro i;obtain⟨r,d,_⟩:=k i;exact⟨r,d⟩
theorem dc{P g:List Rat}(B:Jd P=P)(u:P≠[])(hw:∀i,∃z:Int,cf P i=(z:Rat))(o:Jd g=g)(h:Dv g P):
 ∃H:List Rat,Jd H=H/\P=Js (JI g) H/\∀i,∃z:Int,cf H i=(z:Rat):=by
 have y:g≠[]:=λe=>u (by
  obtain⟨c,j⟩:=h;exact Yx B λx=>by rw[j,e];simp[ev])
 obtain⟨X,D,eg⟩:=GF o;have M:X≠0:=λm=>by rw[m]at D;exact absurd D DF
 have hd:Dv (JI g) P:=by rw[eg];exact h.of_sc M
 obtain⟨H,f,eP⟩:=hd.some B;have t:H≠[]:=λe=>u (by rw[eP,e];exact YX _);refine⟨H,f,eP,?_⟩;obtain⟨c,j,w⟩:=GF f;have V:c≠0:=λm=>by rw[m]at j;exact absurd j DF
 obtain⟨r,p⟩:=Classical.axiomOfChoice (OP o y);obtain⟨s,q⟩:=Classical.axiomOfChoice (OP f t);obtain⟨z,hz⟩:=Classical.axiomOfChoice hw;have K:DP c P=Js (JI g) (JI H):=by
  refine Xt (JP _ _) (J2 _ _) λx=>?_;have a:ev P x=ev (JI g) x*ev H x:=by rw[<-Jg,<-eP]
  rw[JJ,Jg,w,JJ,a];grind
 have T:∀k,(z k:Rat)*c=((Yl (JI g).length (λi=>if i<=k then r i*s (k-i)else 0):Int):Rat):=λk=>by
  rw[<-hz k,<-Yw,K,L1 _ _ (Aa _)];refine OA λi _=>?_;split
  . rw[p,q,AB]
  . rfl
 have v:c*(c.den:Rat)=(c.num:Rat):=Hf c;have L:∀k,z k*c.num=(c.den:Int)*Yl (JI g).length (λi=>if i<=k then r i*s (k-i)else 0):=λk=>by
  have a:((z k*c.num:Int):Rat)=(((c.den:Int)*Yl (JI g).length (λi=>if i<=k then r i*s (k-i)else 0):Int):Rat):=by
   rw[AB,AB,<-T k,AP,<-v];grind
  exact Rat.intCast_inj.1 a
 have W:c.num≠0:=λe=>V (FD.1 e);have N:c.num.natAbs=1:=by
  by_cases a:c.num.natAbs=1
  . exact a
  . exfalso
    have A:c.num.natAbs≠0:=Int.natAbs_ne_zero.2 W;obtain⟨l,l1,l2,l3⟩:=dU c.num.natAbs Y;refine dW l3 (r:=r) (s:=s) (n:=(JI g).length) (λi hi=>?_) (λk=>?_) (Rt o y p l1) (Rt f t q l1)
    . have b:=p i;rw[Ye hi]at b;exact(Rat.intCast_inj.1 (show((0:Int):Rat)=_ from b)).symm
    . have b:(l:Int)∣(c.den:Int)*Yl (JI g).length (λi=>if i<=k then r i*s (k-i)else 0):=by
       rw[<-L k];exact Int.dvd_trans (CP.2 l2) (Int.dvd_mul_left _ _)
      rw[CN]at b;refine dvd_one b ?_;rw[AK,AK];have d:Nat.gcd l c.den∣Nat.gcd c.num.natAbs c.den:=Nat.dvd_gcd (Nat.dvd_trans (Fj _ _) l2) (CV _ _);have h5:Nat.gcd c.num.natAbs c.den=1:=c.reduced;rw[h5]at d;exact Nat.dvd_one.1 d
 intro i;refine⟨s i*(c.den:Int)*c.num,?_⟩;have a:cf H i*c=(s i:Rat):=by rw[<-q,w,Yw]
 have A:(c.num:Rat)*(c.num:Rat)=1:=by
  rw[<-AB];have b:c.num*c.num=1:=by
   rcases Int.natAbs_eq c.num with e|e<;>(rw[N]at e;rw[e];rfl)
  rw[b];rfl
 rw[AB,AB,AP,<-a];have d:cf H i*c*(c.den:Rat)*(c.num:Rat)=cf H i*(c.num*c.num:Rat):=by rw[Rat.mul_assoc (cf H i),v,Rat.mul_assoc]
 rw[d,A,Rat.mul_one]

