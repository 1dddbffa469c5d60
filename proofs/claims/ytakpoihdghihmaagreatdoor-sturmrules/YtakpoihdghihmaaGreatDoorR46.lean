import Derived.Test.YtakpoihdghihmaaGreatDoorR45
open Go.Value renaming slice->C,pointer->F,int->H,agg->R
open Go renaming undef->E,Value->G,World->Q
open Go.IntKind renaming i64->I
set_option maxRecDepth 100000
set_option maxHeartbeats 16000000
namespace Go.Proofs.YtakpoihdghihmaaGreatDoor
section
open Go.RowKit Go.Shelf
variable{r:Bool}{L:List (List Rat × Nat)}{p:List Rat}{cs:List G}{B base c l t:Nat}{a:Option Addr}{v:G}{W W':Q}
theorem Tryz.infoPart:(Tryz.prog.info? 73).map (λi=>(i.zero,i.size,i.bytes))=some (some (R #[C none 0 0,H I 0]),2,32):=by kernel_rfl
theorem Tryz.infoRPart:(Tryz.prog.info? 73).map (λi=>(i.zero,i.size,i.bytes))=some (some (R #[C none 0 0,H I 0]),2,32):=by kernel_rfl
def Dy(r:Bool):TypeId:=match r with|true=>73|false=>73
def GR(r:Bool):TypeId:=match r with|true=>70|false=>70
def zP:Array G:=#[C none 0 0,.int I 0]
theorem dN(r:Bool):Tryz.prog.underlying (GR r)=some (.slice (Dy r)):=by
 cases r with
 |true=>exact Tryz.underlying70
 |false=>exact Tryz.underlying70
theorem dO(r:Bool):∃i,Tryz.prog.info? (Dy r)=some i/\i.zero=some (R zP)/\i.size=2/\i.bytes=32:=by
 cases r with
 |true=>
  obtain⟨i,a,b,c,d⟩:=info_parts Tryz.infoPart;exact⟨i,a,b,c,d⟩
 |false=>
  obtain⟨i,a,b,c,d⟩:=info_parts Tryz.infoRPart;exact⟨i,a,b,c,d⟩
def Gi(r:Bool)(W W':Q):Prop:=∀B,B<W.heap.size->(∀cs m,W.heap[B]?≠some (.cells cs (Dy r) m))->W'.heap[B]?=W.heap[B]?
theorem Gi.at(h:Gi r W W'){cs:Array G}{t:TypeId}{m:Nat × Nat}(a:W.heap[B]?=some (.cells cs t m))(b:t≠Dy r):W'.heap[B]?=W.heap[B]?:=
 h B (Ab.1 a).1 λc d e=>by
  rw[a]at e;simp only[Ak,Bo]at e;exact b e.2.1
theorem dQ(k:IntKind)(r:Bool):KS k≠Dy r:=by cases r<;>cases k<;>decide
theorem dS(k:Bool)(r:Bool):IV k≠Dy r:=by cases r<;>cases k<;>decide
theorem Gi.row(h:Gi r W W'){k:IntKind}{ds:List Nat}(t:Row k W v ds):Row k W' v ds:=by
 obtain⟨a,c,e,l,n,o,d⟩:=t;refine⟨a,c,e,l,n,o,?_⟩;rcases d with d|⟨b,off,i,g,q⟩
 . exact Or.inl d
 . obtain⟨cs,m,p⟩:=id g;have f:=h.at p (dQ k r);refine Or.inr ⟨b,off,i,g.of f,λj s=>?_⟩;rw[<-q j s];simp only[World.cell?,f]
theorem Gi.rowK(h:Gi r W W'){k:Bool}{qs:List Rat}(A:RowK k W v qs):RowK k W' v qs:=by
 obtain⟨a,cap,e,o,p,q,c⟩:=A;refine⟨a,cap,e,o,p,q,?_⟩;rcases c with c|⟨b,n,cs,d,t⟩
 . exact Or.inl c
 . refine Or.inr ⟨b,n,cs,(h.at d (dS k r)).trans d,λj w=>?_⟩;obtain⟨x,y,z,u,f,i,l,m,s⟩:=t j w;exact⟨x,y,z,u,f,i,l,m,s.keep λ_ _ _ g=>h.row g⟩
def GA(r:Bool)(W:Q)(cs:List G)(L:List (List Rat × Nat)):Prop:=
 cs.length=L.length*2/\∀j p t,L[j]?=some (p,t)->∃x,cs[j*2]?=some x/\cs[j*2+1]?=some (.int I (t:Int))/\RowK r W x p
theorem GA.keep(h:GA r W cs L)(d:∀v qs,RowK r W v qs->RowK r W' v qs):GA r W' cs L:=by
 refine⟨h.1,λj p t e=>?_⟩;obtain⟨x,a,b,c⟩:=h.2 j p t e;exact⟨x,a,b,d _ _ c⟩
theorem GA.below{r:Bool}{W W':Q}{cs:List G}{L:List (List Rat × Nat)}(h:GA r W cs L)(a:Bl W W'):GA r W' cs L:=h.keep λ_ _ g=>g.below a
theorem GA.snoc(h:GA r W cs L){x:G}(k:RowK r W x p):GA r W (cs++[x,H I (t:Int)]) (L++[(p,t)]):=by
 refine⟨by simp[h.1];omega,λj l m e=>?_⟩;by_cases i:j<L.length
 . rw[AV i]at e;obtain⟨y,b,c,f⟩:=h.2 j l m e;exact⟨y,by rw[AV (by have:=h.1;omega)];exact b,by rw[AV (by have:=h.1;omega)];exact c,f⟩
 . rw[AE O]at e;obtain⟨d,g⟩:=ex (j-L.length);rw[g]at e;cases d with
   |succ d=>simp at e
   |zero=>
    simp at e;obtain⟨rfl,rfl⟩:=e;have a:j=L.length:=O
    subst a;refine⟨x,?_,?_,k⟩
    . rw[AE (by have:=h.1;omega),h.1,Cq];rfl
    . rw[AE (by have:=h.1;omega),h.1,show L.length*2+1-L.length*2=1 by omega];rfl
def D0(r:Bool)(base:Nat)(W:Q)(v:G)(L:List (List Rat × Nat)):Prop:=
 (v=C none 0 0/\L=[])\/∃g cap a,v=C (some ⟨g,0,none⟩) L.length cap/\base<=g/\W.heap[g]?=some (.cells a (Dy r) (0,0))/\L.length<=cap/\cap<=maxLen/\a.size=cap*2/\GA r W (a.toList.take (L.length*2)) L
theorem D0.nil(r:Bool)(base:Nat)(W:Q):D0 r base W (C none 0 0) []:=Or.inl ⟨rfl,rfl⟩
theorem D0.below{r:Bool}{base:Nat}{W W':Q}{v:G}{L:List (List Rat × Nat)}(h:D0 r base W v L)(b:Bl W W'):D0 r base W' v L:=by
 rcases h with h|⟨g,cap,c,d,e,a,f,i,j,k⟩
 . exact Or.inl h
 . exact Or.inr ⟨g,cap,c,d,e,(b.block g (Ab.1 a).1).trans a,f,i,j,k.below b⟩
theorem D0.form(h:D0 r base W v L):∃a c,v=C a L.length c/\L.length<=c/\c<=maxLen:=by
 rcases h with⟨rfl,rfl⟩|⟨g,cap,e,rfl,_,_,b,d,_⟩
 . exact⟨none,0,rfl,Z,by unfold maxLen;omega⟩
 . exact⟨_,cap,rfl,b,d⟩
theorem D0.set(h:D0 r base W v L)(b:Boxed W B 25 (C a l c)){u:G}(s:∀v qs,RowK r W v qs->RowK r (W.setCell ⟨B,0,none⟩ u) v qs):D0 r base (W.setCell ⟨B,0,none⟩ u) v L:=by
 rcases h with h|⟨g,cap,i,j,k,d,m,n,o,p⟩
 . exact Or.inl h
 . have f:g≠B:=λe=>by
    subst e;have q:W.heap[g]?=some (.cells #[C a l c] 25 (0,0)):=b;rw[q]at d;simp only[Ak,Bo]at d;have:=d.2.1;revert this;cases r<;>decide
   exact Or.inr ⟨g,cap,i,j,k,(BD W ⟨B,0,none⟩ u g f).trans d,m,n,o,p.keep s⟩
theorem dT(r:Bool)(base:Nat)(W:Q)(v:G)(L:List (List Rat × Nat))(h:D0 r base W v L)(hx:RowK r W (C a l c) p)(hl:L.length+1<=1099511627776)(U:base<=W.heap.size):
 ∃v' z,(Builtin.append_ #[GR r,GR r] (GR r) #[v,C (some ⟨W.heap.size,0,none⟩) 1 1]).run Tryz.prog (W.alloc (.cells #[C a l c,H I (t:Int)] (Dy r)))=.ok v' z/\D0 r base z v' (L++[(p,t)])/\Gi r W z/\(∀n w0,n<=base->Below n w0 W->Below n w0 z)/\W.heap.size<=z.heap.size:=by
 obtain⟨i,X,hz,y,ae⟩:=dO r;have ht:=dN r;have k:Bl W (W.alloc (.cells #[C a l c,H I (t:Int)] (Dy r))):=Ba W _;obtain⟨b,ad⟩:=ex (W.alloc (.cells #[C a l c,H I (t:Int)] (Dy r)));have Qf:b.heap[W.heap.size]?=some (.cells #[C a l c,H I (t:Int)] (Dy r) (0,0)):=by rw[<-ad];exact BE W _
 rw[ad]at k ⊢;have Ql:=hx.below k;have K:∀j c',[Value.slice a l c,H I (t:Int)][j]?=some c'->b.cell? ((⟨W.heap.size,0,none⟩:Addr).add j)=some c':=λj c' f=>by
  rw[Xf,AY];exact cell_of Qf (by simpa using f)
 have Qh:∀c'∈[Value.slice a l c,H I (t:Int)],c'.oneCell'=true:=λc' f=>by
  simp at f;rcases f with rfl|rfl<;>rfl
 have Qk:(Value.agg zP).cells=zP:=rfl;have Qp:zP.size=2:=rfl;have grown:∀(cs:List G) (w:Nat) (m:Nat),m=L.length+1->GA r b (cs++[C a l c,H I (t:Int)]) (L++[(p,t)])->cs.length=L.length*2->
  D0 r base (b.drew.alloc (.cells (cs.toArray++[Value.slice a l c,H I (t:Int)].toArray++Builtin.zeroCells zP (grownCap b m w (Dy r)-m)) (Dy r))) (C (some ⟨b.heap.size,0,none⟩) m (grownCap b m w (Dy r))) (L++[(p,t)]):=by
  intro cs w m hm f x;subst hm;have Qm:=grownCap_ge b (L.length+1) w (Dy r);have Qq:=grownCap_le_maxLen b (L.length+1) w (Dy r) (by unfold maxLen;omega);have Qr:Bl b (b.drew.alloc (.cells (cs.toArray++[Value.slice a l c,H I (t:Int)].toArray++Builtin.zeroCells zP (grownCap b (L.length+1) w (Dy r)-(L.length+1))) (Dy r))):=((BF _ b).drew).alloc (Aa _) _;refine Or.inr ⟨b.heap.size,_,_,by rw[Ao];rfl,An U k.size,BE b.drew _,by rw[Ao];exact Qm,Qq,?_,?_⟩
  . simp only[Array.size_append,As,size_zeroCells,Qp,x,Af,Ay];omega
  . have e:(cs.toArray++[Value.slice a l c,H I (t:Int)].toArray++Builtin.zeroCells zP (grownCap b (L.length+1) w (Dy r)-(L.length+1))).toList.take ((L++[(p,t)]).length*2)=cs++[C a l c,H I (t:Int)]:=by
     simp only[Array.toList_append];have M:(L++[(p,t)]).length*2=(cs++[Value.slice a l c,H I (t:Int)]).length:=by simp;omega
     rw[M];exact List.take_left
    rw[e];exact f.below Qr
 have fin:∀o,Gi r W (b.drew.alloc o)/\(∀n w0,n<=base->Below n w0 W->Below n w0 (b.drew.alloc o))/\W.heap.size<=(b.drew.alloc o).heap.size:=λo=>by
  have N:Bl W (b.drew.alloc o):=(k.drew).alloc (by exact k.size) _;exact⟨λB D _=>N.block B D,λn w0 u T=>T.trans (N.mono (An u U)),N.size⟩
 rcases h with⟨rfl,rfl⟩|⟨g,cap,d,rfl,h2,S,h4,h5,h6,h7⟩
 . have s:=run_append_nil (P:=Tryz.prog) b (GR r) (GR r) (Dy r) i _ ht X hz ⟨W.heap.size,0,none⟩ 1 1 [C a l c,H I (t:Int)] (by rw[y];rfl) K O O (by rw[ae];omega);rw[Qk]at s;refine⟨_,_,s,?_,fin _⟩;have:=grown [] 0 1 rfl (by rw[Ar];exact GA.snoc (cs:=[]) (L:=[]) ⟨rfl,λj p t e=>by simp at e⟩ Ql) rfl;simpa using this
 . have A:b.heap[g]?=some (.cells d (Dy r) (0,0)):=(k.block g (Ab.1 S).1).trans S;have x:(d.toList.take (L.length*2)).length=L.length*2:=by rw[Al];have h0:d.toList.length=d.size:=Fy;omega
   have Qj:=(h7.below k).snoc (t:=t) Ql;by_cases af:L.length+1<=cap
   . have s:=run_append_room (P:=Tryz.prog) b (GR r) (GR r) (Dy r) i ht X g L.length cap d A ⟨W.heap.size,0,none⟩ 1 1 [C a l c,H I (t:Int)] (by rw[y];rfl) K Qh af (by rw[y];simp;omega);rw[y]at s;obtain⟨q,V⟩:=ex ((d.toList.take (L.length*2)++[Value.slice a l c,H I (t:Int)]++d.toList.drop (L.length*2+[Value.slice a l c,H I (t:Int)].length)).toArray);rw[V]at s;have Qo:=setRow_heap b g d q (Dy r) (0,0) A;have Qd:Gi r b (b.setRow g q):=λB D u=>setRow_other b g B q λe=>u d (0,0) (by rw[e];exact A);have Qg:b.heap.size<=(b.setRow g q).heap.size:=(below_setRow (B:=0) (BF _ b) (AO _) q).size;refine⟨_,_,s,?_,λB D u=>?_,λn w0 u T=>below_setRow (T.trans (k.mono (An u U))) (An u h2) q,An k.size Qg⟩
     . refine Or.inr ⟨g,cap,q,by rw[Ao];rfl,h2,Qo,by rw[Ao];exact af,h5,?_,?_⟩
       . rw[<-V];simp only[As,Ao,AU,x,Af,Ay];have h0:d.toList.length=d.size:=Fy;omega
       . have e:q.toList.take ((L++[(p,t)]).length*2)=d.toList.take (L.length*2)++[C a l c,H I (t:Int)]:=by
          rw[<-V];have M:(L++[(p,t)]).length*2=(d.toList.take (L.length*2)++[Value.slice a l c,H I (t:Int)]).length:=by simp[x];omega
          rw[M];exact List.take_left
         rw[e];exact Qj.keep λ_ _ g=>Qd.rowK g
     . have Qn:B≠g:=λe=>u d (0,0) (by rw[e];exact S);exact(setRow_other b g B q Qn).trans (k.block B D)
   . have ah:∀j c',(d.toList.take (L.length*2))[j]?=some c'->b.cell? ((⟨g,0,none⟩:Addr).add j)=some c':=λj c' f=>by
      rw[Xf,AY];rw[C5]at f;split at f
      . rw[Cr]at f;exact cell_of A f
      . cases f
     have s:=run_append_grow (P:=Tryz.prog) b (GR r) (GR r) (Dy r) i _ ht X hz ⟨g,0,none⟩ L.length cap (d.toList.take (L.length*2)) (by rw[y];exact x) ah ⟨W.heap.size,0,none⟩ 1 1 [C a l c,H I (t:Int)] (by rw[y];rfl) K O O (by rw[ae];exact growslice_fits O O);rw[Qk]at s;exact⟨_,_,s,grown _ cap _ rfl Qj x,fin _⟩
namespace M3
theorem Mem.farP{w W W':Q}{bs:List (Option (Nat × Dat))}{r:Bool}(M:Mem w W bs)(a:Gi r W W')(e:Bl w W')(f:∀(i:Nat) B d,bs[i]?=some (some (B,d))->d.ty≠Dy r):Mem w W' bs:=by
 refine⟨λi B d h=>?_,M.2.1,e⟩;obtain⟨⟨cs,b,c⟩,j⟩:=M.1 i B d h;exact⟨⟨cs,(a.at b (f i B d h)).trans b,c.keep (λ_ _ _ g=>a.row g) (Or.inr λ_ _ g=>a.rowK g)⟩,j⟩
end M3
end
section
open Go.RowKit Go.Shelf
def Gj(s:List Rat × List Rat):List Rat × List Rat:=(Dk s.1 (Jz s.1 (JD s.2 (Jb s.1))),Dk (JD s.2 (Jb s.1)) (Jz s.1 (JD s.2 (Jb s.1))))
def DH(w y:List Rat):Nat->List Rat × List Rat
 |0=>(w,y)
 |n+1=>Gj (DH w y n)
def yP(s:List Rat × List Rat):List Rat:=Jz s.1 (JD s.2 (Jb s.1))
def yL(w y:List Rat):Nat->List (List Rat × Nat)
 |0=>[]
 |n+1=>yL w y n++(if 1<(yP (DH w y n)).length then [(yP (DH w y n),n+1)]else [])
theorem Rs(w y:List Rat):∀n,(yL w y n).length<=n:=by
 intro n;induction n with
 |zero=>exact Aa _
 |succ n a=>
  rw[yL,Ao];split
  . simp;omega
  . simp;omega
structure StOk(K M:Nat)(w y:List Rat):Prop where
 ch:M3.ChOk K w (JD y (Jb w))
 ty:Jd y=y
 cw:Cd M w
 cs:Cd M (Jb w)
 cy:Cd M y
 cz:Cd M (JD y (Jb w))
 kM:DY K w (JD y (Jb w))<=M
 l1:2*((w.length+3)*(M+1))<=1000000000
 l2:2*(((JD y (Jb w)).length+3)*(M+1))<=1000000000
structure PtOk(K M N:Nat)(p:List Rat):Prop where
 tp:Jd p=p
 cp:Cd M p
 ch:M3.ChOk K (Jp p) (Jb (Jp p))
 kM:DY K (Jp p) (Jb (Jp p))<=M
 l1:2*((p.length+3)*(M+1))<=1000000000
 gt:1<p.length
 nN:N<=1000000000
 st:∀n,n<N->1<(DH (Dk (Jp p) (Jz (Jp p) (Jb (Jp p)))) (Dk (Jb (Jp p)) (Jz (Jp p) (Jb (Jp p)))) n).1.length/\StOk K M (DH (Dk (Jp p) (Jz (Jp p) (Jb (Jp p)))) (Dk (Jb (Jp p)) (Jz (Jp p) (Jb (Jp p)))) n).1 (DH (Dk (Jp p) (Jz (Jp p) (Jb (Jp p)))) (Dk (Jb (Jp p)) (Jz (Jp p) (Jb (Jp p)))) n).2
 en:(DH (Dk (Jp p) (Jz (Jp p) (Jb (Jp p)))) (Dk (Jb (Jp p)) (Jz (Jp p) (Jb (Jp p)))) N).1.length<=1
def Kr(p:List Rat)(N:Nat):List (List Rat × Nat):=yL (Dk (Jp p) (Jz (Jp p) (Jb (Jp p)))) (Dk (Jb (Jp p)) (Jz (Jp p) (Jb (Jp p)))) N
namespace M3
def Eb(base:Nat)(V:Q)(v:G)(L:List (List Rat × Nat)):Prop:=D0 true base V v L
section
variable {base:Nat} {V V':World} {v:Value} {L:List (List Rat × Nat)}
theorem Eb.below(h:Eb base V v L)(a:Bl V V'):Eb base V' v L:=D0.below h a
theorem Eb.drew(h:Eb base V v L):Eb base V.drew v L:=D0.below h ((BF _ V).drew)
theorem Eb.alloc(h:Eb base V v L)(o:Obj):Eb base (V.alloc o) v L:=D0.below h (Ba V o)
theorem Eb.set1(h:Eb base V v L){B:Nat}{a:Option Addr}{l c:Nat}(q:Boxed V B 25 (C a l c))(_:JN (C a l c)=true)(b:G):Eb base (V.setCell ⟨B,0,none⟩ b) v L:=D0.set h q (λ_ _ g=>Eo q b g)
end
theorem dU(a b:G)(ps qs:List Rat)(w:Q)(i:Je w a ps)(j:Je w b qs)(k:Sqs ps)(l:Sqs qs)(m:Sqs (JD ps qs)):
 Calls Tryz.prog 90 #[a,b] w λe c=>∃u,e=.returned u/\Je c u (JD ps qs)/\Bl w c:=by
 refine(QJ a b ps qs w i j k l m).mono ?_;rintro e c ⟨u,d,f,_,g⟩;exact⟨u,d,f,g⟩
theorem OJ{M:Nat}{w:List Rat}(h:Cd M (Jb w))(b:M<=1000000000)(i:Nat):Sq (Gg w i):=by
 have a:=(h.sqs b).at i;unfold Jb at a;rwa[Yf,Im]at a
attribute [local go_sem] Oper.semAt_some
theorem dV(K M N:Nat)(v:G)(p:List Rat)(w:Q)(h:Je w v p)(ai:PtOk K M N p):
 Calls Tryz.prog 37 #[v] w λe w'=>∃u,e=.returned u/\D0 true w.heap.size w' u (Kr p N)/\Bl w w':=by
 have Ql:Tryz.prog.follows .mixedOrders=true:=by kernel_rfl
 obtain⟨q,hq⟩:=ex (Jp p);obtain⟨c,hc⟩:=ex (Jz q (Jb q));obtain⟨w0,bc⟩:=ex (Dk q c);obtain⟨y0,bf⟩:=ex (Dk (Jb q) c);have hM:M<=1000000000:=by
  have A:=ai.l1
  have:1*(M+1)<=(p.length+3)*(M+1):=Aj _ O
  omega
 have Qq:=ai.ch;have Ui:=ai.kM;rw[hq]at Qq Ui;have Uz:q.length=p.length:=by rw[<-hq];exact YY ai.tp
 have Qu:Cd M q:=by rw[<-hq];exact ai.cp.mon ai.tp
 have Uj:Jd q=q:=by rw[<-hq];exact YF _
 have Uf:Cd M (Jb q):=(show Cd K (Jb q)from Qq.cq).mono (by have:=Lx K q (Jb q);omega);have Qw:Cd M c:=by rw[<-hc];exact Qq.gcd.mono Ui
 have Uk:Jd c=c:=by rw[<-hc];exact Yi _ _
 have Uc:Jp c=c:=by rw[<-hc];exact X3 Uj (Jq _)
 have Ux:2*(((Jb q).length+3)*(M+1))<=1000000000:=by
  have A:(Jb q).length<=q.length:=An (YR _) (by simp[Hb]);have h2:((Jb q).length+3)*(M+1)<=(p.length+3)*(M+1):=Aj _ O;have h3:=ai.l1;omega
 obtain⟨Ug,Up,Uh,Ut,Us,Uq⟩:=Is (λ(V:Q) (x:G) (r:List Rat) (hx:Je V x r)=>JX x r V hx) (λ(V:Q) (x:G) (hx:Je V x p)=>show Calls Tryz.prog 88 #[x] V λe w'=>∃u,e=.returned u/\Je w' u q/\Bl V w' by rw[<-hq];exact dK M x p V hx ai.tp ai.cp hM) (λ(V:Q) (x:G) (hx:Je V x q)=>Lp x q V hx (Qu.sqs hM) (OJ Uf hM)) (λ(V:Q) (x y:G) (hx:Je V x q) (hy:Je V y (Jb q))=>show Calls Tryz.prog 35 #[x,y] V λe w'=>∃u,e=.returned u/\Je w' u c/\Bl V w' by rw[<-hc];exact Rq K x y q (Jb q) V hx hy Qq) (λ(V:Q) (x y:G) (hx:Je V x q) (hy:Je V y c)=>show Calls Tryz.prog 89 #[x,y] V λe w'=>∃u,e=.returned u/\Je w' u w0/\Bl V w' by rw[<-bc];exact L3 M x y q c V hx hy Qu Qw Uj Uk Uc (by rw[Uz];exact ai.l1)) (λ(V:Q) (x y:G) (hx:Je V x (Jb q)) (hy:Je V y c)=>show Calls Tryz.prog 89 #[x,y] V λe w'=>∃u,e=.returned u/\Je w' u y0/\Bl V w' by rw[<-bf];exact L3 M x y (Jb q) c V hx hy Uf Qw (Jq _) Uk Uc Ux);have Qv:=ai.st;have Qz:=ai.en;rw[hq,hc,bc,bf]at Qv Qz;obtain⟨Uy,Wk,Wm⟩:=Db Qv Qz (show Kr p N=yL w0 y0 N by unfold Kr;rw[hq,hc,bc,bf]);rw[Wm.o];obtain⟨Wh,Wj,Wl⟩:=Db (λ(a b:List Rat) (ho:StOk K M a b) (V:Q) (x:G) (hx:Je V x a)=>Lp x a V hx (ho.cw.sqs hM) (OJ ho.cs hM)) (λ(a b:List Rat) (ho:StOk K M a b) (V:Q) (x y:G) (hx:Je V x b) (hy:Je V y (Jb a))=>dU x y b (Jb a) V hx hy (ho.cy.sqs hM) (ho.cs.sqs hM) (ho.cz.sqs hM)) λ(a b:List Rat) (ho:StOk K M a b) (V:Q) (x y:G) (hx:Je V x a) (hy:Je V y (JD b (Jb a)))=>Rq K x y a (JD b (Jb a)) V hx hy ho.ch;have Qf:∀(a b:List Rat),StOk K M a b->Cd M (Jz a (JD b (Jb a)))/\Jd (Jz a (JD b (Jb a)))=Jz a (JD b (Jb a))/\Jp (Jz a (JD b (Jb a)))=Jz a (JD b (Jb a)):=λa b ho=>⟨ho.ch.gcd.mono ho.kM,Yi _ _,X3 ho.ch.tp ho.ch.tq⟩;have Wc:=Ja λ(a b:List Rat) (ho:StOk K M a b) (V:Q) (x y:G) (hx:Je V x a) (hy:Je V y (Jz a (JD b (Jb a))))=>L3 M x y a (Jz a (JD b (Jb a))) V hx hy ho.cw (Qf a b ho).1 ho.ch.tp (Qf a b ho).2.1 (Qf a b ho).2.2 ho.l1;have Wn:=Ja λ(a b:List Rat) (ho:StOk K M a b) (V:Q) (x y:G) (hx:Je V x (JD b (Jb a))) (hy:Je V y (Jz a (JD b (Jb a))))=>L3 M x y (JD b (Jb a)) (Jz a (JD b (Jb a))) V hx hy ho.cz (Qf a b ho).1 ho.ch.tq (Qf a b ho).2.1 (Qf a b ho).2.2 ho.l2;have Ud:¬(p.length:Int)-1<1:=by have:=ai.gt;omega
 obtain⟨d0,bt⟩:=ex ((p.length:Int)-1:Int);rw[bt]at Ud;have Wg:=Ja bt;have ew:N<=1000000000:=ai.nN;obtain⟨pa,la,pc,rfl⟩:=h.form;have M0:=(Mem.nil w).push (.poly p) (cs:=#[C pa la pc]) h;obtain⟨W0,bm⟩:=ex (w.alloc (.cells #[C pa la pc] 25));have Uo:=Ja bm;have M1:Hid (Mem w W0 [some (w.heap.size,.poly p)]):=Ja (by rw[<-bm];exact M0);clear M0 bm h ai Qq Ui Uz Qu Uj Uf Qw Uk Uc Ux Qv Qz Qf hM hq hc bc bf bt;go_enter Tryz.func37,Tryz.ntmps37
 go_upto_region 1 with fail
 rw[Uo.o];clear Uo;obtain⟨a1,l1,c1,n1,r1⟩:=M1.o.poly2 (i:=0) rfl;have Ua:=n1.cell;have H1:=Ja (Ug.o W0 _ p r1);rw[Wg.o]at H1;go_upto_region 3 with(go_at_call 30;refine H1.o.mono ?_;clear H1;rintro e w1 ⟨rfl,hq⟩;clear Ua;have Ua:=(boxed_below n1 hq).cell)
 have M2:Hid (Mem w w1 [some (w.heap.size,.poly p)]):=Ja (M1.o.below hq);clear M1;clear hq n1 r1 Ua;obtain⟨a2,l2,c2,n2,r2⟩:=M2.o.poly2 (i:=0) rfl;have Ub:=n2.cell;have Qy:=n2.frozen;have H1:=Ja (Up.o w1 _ r2);clear Up;go_upto_region 4 with(go_at_call 88;refine H1.o.mono ?_;clear H1;rintro e w2 ⟨u2,rfl,ck,hq⟩;obtain⟨am,ap,an,rfl⟩:=Je.form ck;clear Ub;have Ub:=(boxed_below n2 hq).cell;clear Qy;have Qy:=(boxed_below n2 hq).frozen)
 obtain⟨V3,hV⟩:=ex (w2.setCell ⟨w.heap.size,0,none⟩ (C am ap an));have g:Mem w (w2.setCell ⟨w.heap.size,0,none⟩ (C am ap an)) [some (w.heap.size,.poly q)]:=Mem.putPoly (M2.o.below hq) (i:=0) rfl ck;rw[hV]at g;rw[hV];have M3:Hid (Mem w V3 [some (w.heap.size,.poly q)]):=Ja (g);clear M2;clear g hV;clear ck hq n2 r2 Ub Qy;refine Jn Ql [[],[],[1],[0,2,2],[],[4,3,3,0,1,2,3,4]] (by kernel_rfl) DF
  (λD af V=>∃(ta tb tc td tu:G) (x4:Option (Nat × Dat)),af={ tmps:=#[R #[C pa la pc],F (some ⟨w.heap.size,0,none⟩),C none 0 0,tu,E,E,E,E,E,R #[C a1 l1 c1],H I d0,.bool (decide (d0<1)),R #[C a2 l2 c2],R #[C am ap an],ta,tb,tc,td,E,E,E,E,E,E,E,E,E,E,E,E,E,E,E,E,E,E,E,E,E,E,E,E,E,E,E,E,E,E,E,E,E,E,E],defers:=[] }/\Hid ((D 0=true->Has V ta (.poly q))/\(D 1=true->Has V tb (.poly q))/\(D 2=true->Has V tc (.poly (Jb q)))/\(D 3=true->Has V td (.poly c))/\((D 4=false->x4=none)/\(D 4=true->D 5=false->∃B:Nat,tu=F (some ⟨B,0,none⟩)/\x4=some (B,.poly []))/\(D 5=true->∃B:Nat,tu=F (some ⟨B,0,none⟩)/\x4=some (B,.poly c))))/\Hid (Mem w V [some (w.heap.size,.poly q),x4]))
  ⟨_,_,_,_,_,none,rfl,Ja ⟨Z,Z,Z,Z,Z⟩,Ja ((M3.o).none).drew⟩ ?step4 ?fin4
 case step4=>
  rintro D af V i ds aj hi m ad ⟨ta,tb,tc,td,tu,x4,rfl,f,g⟩;have Qr:i<6:=(Ac.1 hi).1;obtain rfl|rfl|rfl|rfl|rfl|rfl:=Kw i O
  all_goals
   simp only[Ai,Ag,Ak]at hi;subst hi
  . clear m;obtain⟨a,l,c,n,r⟩:=g.o.poly2 (i:=0) rfl;have e0:=n.cell;refine Za ?_;exact⟨_,_,_,_,_,_,rfl,(De f λ_=>r),Ja (g.o)⟩
  . clear m;obtain⟨a,l,c,n,r⟩:=g.o.poly2 (i:=0) rfl;have e0:=n.cell;refine Za ?_;exact⟨_,_,_,_,_,_,rfl,(Dh f λ_=>r),Ja (g.o)⟩
  . have s:=(f.o.2.1 (m 1 Z));have HC:=Ja (Uh.o V _ s);clear m s;refine Jc rfl rfl λK hK=>?_;go_simp;go_wp2_with(go_at_call 38;refine HC.o.mono ?_;rintro e w5 ⟨v5,rfl,ae,j⟩)
    exact⟨_,_,_,_,_,_,rfl,Ja ⟨λh=>(f.o.1 h).below j,λh=>(f.o.2.1 h).below j,λ_=>ae,λh=>(f.o.2.2.2.1 h).below j,f.o.2.2.2.2⟩,Ja (g.o.below j)⟩
  . have s:=(f.o.1 (m 0 Z));have A:=(f.o.2.2.1 (m 2 Z));have HC:=Ja (Ut.o V _ _ s A);clear m s A;refine Jc rfl rfl λK hK=>?_;go_simp;go_wp2_with(go_at_call 35;refine HC.o.mono ?_;rintro e w5 ⟨v5,rfl,ae,j⟩)
    exact⟨_,_,_,_,_,_,rfl,Ja ⟨λh=>(f.o.1 h).below j,λh=>(f.o.2.1 h).below j,λh=>(f.o.2.2.1 h).below j,λ_=>ae,f.o.2.2.2.2⟩,Ja (g.o.below j)⟩
  . have hf:D 5=false:=DI aj ad;obtain rfl:=f.o.2.2.2.2.1 ad;clear m;refine Za ?_;exact⟨_,_,_,_,_,_,rfl,Ja ⟨λh=>(f.o.1 h).alloc _,λh=>(f.o.2.1 h).alloc _,λh=>(f.o.2.2.1 h).alloc _,λh=>(f.o.2.2.2.1 h).alloc _,⟨λh=>by simp at h,λ_ _=>⟨_,rfl,rfl⟩,λh=>by simp[hf]at h⟩⟩,Ja (g.o.fill (i:=1) rfl (.poly []) (Ht _))⟩
  . obtain⟨B,rfl,rfl⟩:=Dn f (m 4 Z) ad;have Qc:=m 4 Z;have hv:=(f.o.2.2.2.1 (m 3 Z));obtain⟨a1,l1,c1,rfl⟩:=Je.form (show Je V _ _ from hv);obtain⟨a,l,c,n,r⟩:=g.o.poly2 (i:=1) rfl;have e0:=n.cell;have f0:=n.frozen;clear m;refine Za ?_;exact⟨_,_,_,_,_,_,rfl,Ja ⟨λh=>(f.o.1 h).set1 n rfl _,λh=>(f.o.2.1 h).set1 n rfl _,λh=>(f.o.2.2.1 h).set1 n rfl _,λh=>(f.o.2.2.2.1 h).set1 n rfl _,⟨λh=>by simp[Qc]at h,λ_ h=>by simp at h,λ_=>⟨B,rfl,rfl⟩⟩⟩,Ja (g.o.putPoly (i:=1) rfl hv)⟩
 rintro D af V5 ah ⟨ta,tb,tc,td,tu,x4,rfl,f,g⟩;obtain⟨B6,rfl,rfl⟩:=f.o.2.2.2.2.2.2 (ah 5 DF);clear f ah M3;have M4:Hid (Mem w V5 [some (w.heap.size,.poly q),some (B6,.poly c)]):=g;clear g;go_upto_region 5 with fail
 refine Jn Ql [[],[],[0,1],[],[3,2],[],[4,5,4],[],[],[7,2,6,0,1,2,7,8],[8,6,9,0,1,2,3,4,5,6,7,8,9]] (by kernel_rfl) DF
  (λD af V=>∃(te tg ti tj tk tl tm tA tD:G) (x7 x8:Option (Nat × Dat)),af={ tmps:=#[R #[C pa la pc],F (some ⟨w.heap.size,0,none⟩),C none 0 0,F (some ⟨B6,0,none⟩),tA,tD,E,E,E,R #[C a1 l1 c1],H I d0,.bool (decide (d0<1)),R #[C a2 l2 c2],R #[C am ap an],ta,tb,tc,td,te,tg,ti,tj,tk,tl,tm,E,E,E,E,E,E,E,E,E,E,E,E,E,E,E,E,E,E,E,E,E,E,E,E,E,E,E,E],defers:=[] }/\Hid ((D 0=true->Has V te (.poly q))/\(D 1=true->Has V tg (.poly c))/\(D 2=true->Has V ti (.poly w0))/\(D 3=true->Has V tj (.poly q))/\(D 4=true->Has V tk (.poly (Jb q)))/\(D 5=true->Has V tl (.poly c))/\(D 6=true->Has V tm (.poly y0))/\((D 7=false->x7=none)/\(D 7=true->D 9=false->∃B:Nat,tA=F (some ⟨B,0,none⟩)/\x7=some (B,.poly []))/\(D 9=true->∃B:Nat,tA=F (some ⟨B,0,none⟩)/\x7=some (B,.poly w0)))/\((D 8=false->x8=none)/\(D 8=true->D 10=false->∃B:Nat,tD=F (some ⟨B,0,none⟩)/\x8=some (B,.poly []))/\(D 10=true->∃B:Nat,tD=F (some ⟨B,0,none⟩)/\x8=some (B,.poly y0))))/\Hid (Mem w V [some (w.heap.size,.poly q),some (B6,.poly c),x7,x8]))
  ⟨_,_,_,_,_,_,_,_,_,none,none,rfl,Ja ⟨Z,Z,Z,Z,Z,Z,Z,Z,Z⟩,Ja (((M4.o).none).none).drew⟩ ?step7 ?fin7
 case step7=>
  rintro D af V i ds aj hi m ad ⟨te,tg,ti,tj,tk,tl,tm,tA,tD,x7,x8,rfl,f,g⟩;have Qr:i<11:=(Ac.1 hi).1;obtain rfl|rfl|rfl|rfl|rfl|rfl|rfl|rfl|rfl|rfl|rfl:=Gm i O
  all_goals
   simp only[Ai,Ag,Ak]at hi;subst hi
  . clear m;obtain⟨a,l,c,n,r⟩:=g.o.poly2 (i:=0) rfl;have e0:=n.cell;refine Za ?_;exact⟨_,_,_,_,_,_,_,_,_,_,_,rfl,(De f λ_=>r),Ja (g.o)⟩
  . clear m;obtain⟨a,l,c,n,r⟩:=g.o.poly2 (i:=1) rfl;have e0:=n.cell;refine Za ?_;exact⟨_,_,_,_,_,_,_,_,_,_,_,rfl,(Dh f λ_=>r),Ja (g.o)⟩
  . have s:=(f.o.1 (m 0 Z));have A:=(f.o.2.1 (m 1 Z));have HC:=Ja (Us.o V _ _ s A);clear m s A;refine Jc rfl rfl λK hK=>?_;go_simp;go_wp2_with(go_at_call 89;refine HC.o.mono ?_;rintro e w5 ⟨v5,rfl,ae,j⟩)
    obtain⟨U,W,_,X,G4,G5,G6,G7⟩:=f.o;exact⟨_,_,_,_,_,_,_,_,_,_,_,rfl,Ja ⟨λh=>(U h).below j,λh=>(W h).below j,λ_=>ae,λh=>(X h).below j,λh=>(G4 h).below j,λh=>(G5 h).below j,λh=>(G6 h).below j,G7⟩,Ja (g.o.below j)⟩
  . clear m;obtain⟨a,l,c,n,r⟩:=g.o.poly2 (i:=0) rfl;have e0:=n.cell;refine Za ?_;exact⟨_,_,_,_,_,_,_,_,_,_,_,rfl,(Df f λ_=>r),Ja (g.o)⟩
  . have s:=(f.o.2.2.2.1 (m 3 Z));have HC:=Ja (Uh.o V _ s);clear m s;refine Jc rfl rfl λK hK=>?_;go_simp;go_wp2_with(go_at_call 38;refine HC.o.mono ?_;rintro e w5 ⟨v5,rfl,ae,j⟩)
    obtain⟨U,W,G2,X,_,G5,G6,G7⟩:=f.o;exact⟨_,_,_,_,_,_,_,_,_,_,_,rfl,Ja ⟨λh=>(U h).below j,λh=>(W h).below j,λh=>(G2 h).below j,λh=>(X h).below j,λ_=>ae,λh=>(G5 h).below j,λh=>(G6 h).below j,G7⟩,Ja (g.o.below j)⟩
  . clear m;obtain⟨a,l,c,n,r⟩:=g.o.poly2 (i:=1) rfl;have e0:=n.cell;refine Za ?_;exact⟨_,_,_,_,_,_,_,_,_,_,_,rfl,(Dw f λ_=>r),Ja (g.o)⟩
  . have s:=(f.o.2.2.2.2.1 (m 4 Z));have A:=((Dn f) (m 5 Z));have HC:=Ja (Uq.o V _ _ s A);clear m s A;refine Jc rfl rfl λK hK=>?_;go_simp;go_wp2_with(go_at_call 89;refine HC.o.mono ?_;rintro e w5 ⟨v5,rfl,ae,j⟩)
    obtain⟨U,W,G2,X,G4,G5,_,G7⟩:=f.o;exact⟨_,_,_,_,_,_,_,_,_,_,_,rfl,Ja ⟨λh=>(U h).below j,λh=>(W h).below j,λh=>(G2 h).below j,λh=>(X h).below j,λh=>(G4 h).below j,λh=>(G5 h).below j,λ_=>ae,G7⟩,Ja (g.o.below j)⟩
  . have hf:D 9=false:=DI aj ad;obtain rfl:=f.o.2.2.2.2.2.2.2.1.1 ad;clear m;refine Za ?_;obtain⟨U,W,G2,X,G4,G5,G6,_,G8⟩:=f.o;exact⟨_,_,_,_,_,_,_,_,_,_,_,rfl,Ja ⟨λh=>(U h).alloc _,λh=>(W h).alloc _,λh=>(G2 h).alloc _,λh=>(X h).alloc _,λh=>(G4 h).alloc _,λh=>(G5 h).alloc _,λh=>(G6 h).alloc _,⟨λh=>by simp at h,λ_ _=>⟨_,rfl,rfl⟩,λh=>by simp[hf]at h⟩,G8⟩,Ja (g.o.fill (i:=2) rfl (.poly []) (Ht _))⟩
  . have hf:D 10=false:=DI aj ad;obtain rfl:=Ed f ad;clear m;refine Za ?_;obtain⟨U,W,G2,X,G4,G5,G6,G7,_⟩:=f.o;exact⟨_,_,_,_,_,_,_,_,_,_,_,rfl,Ja ⟨λh=>(U h).alloc _,λh=>(W h).alloc _,λh=>(G2 h).alloc _,λh=>(X h).alloc _,λh=>(G4 h).alloc _,λh=>(G5 h).alloc _,λh=>(G6 h).alloc _,G7,⟨λh=>by simp at h,λ_ _=>⟨_,rfl,rfl⟩,λh=>by simp[hf]at h⟩⟩,Ja (g.o.fill (i:=3) rfl (.poly []) (Ht _))⟩
  . obtain⟨B,rfl,rfl⟩:=f.o.2.2.2.2.2.2.2.1.2.1 (m 7 Z) ad;have Qc:=m 7 Z;have hv:=(f.o.2.2.1 (m 2 Z));obtain⟨a1,l1,c1,rfl⟩:=Je.form (show Je V _ _ from hv);obtain⟨a,l,c,n,r⟩:=g.o.poly2 (i:=2) rfl;have e0:=n.cell;have f0:=n.frozen;clear m;refine Za ?_;obtain⟨U,W,G2,X,G4,G5,G6,_,G8⟩:=f.o;exact⟨_,_,_,_,_,_,_,_,_,_,_,rfl,Ja ⟨λh=>(U h).set1 n rfl _,λh=>(W h).set1 n rfl _,λh=>(G2 h).set1 n rfl _,λh=>(X h).set1 n rfl _,λh=>(G4 h).set1 n rfl _,λh=>(G5 h).set1 n rfl _,λh=>(G6 h).set1 n rfl _,⟨λh=>by simp[Qc]at h,λ_ h=>by simp at h,λ_=>⟨B,rfl,rfl⟩⟩,G8⟩,Ja (g.o.putPoly (i:=2) rfl hv)⟩
  . obtain⟨B,rfl,rfl⟩:=F3 f (m 8 Z) ad;have Qc:=m 8 Z;have hv:=((ED f) (m 6 Z));obtain⟨a1,l1,c1,rfl⟩:=Je.form (show Je V _ _ from hv);obtain⟨a,l,c,n,r⟩:=g.o.poly2 (i:=3) rfl;have e0:=n.cell;have f0:=n.frozen;clear m;refine Za ?_;obtain⟨U,W,G2,X,G4,G5,G6,G7,_⟩:=f.o;exact⟨_,_,_,_,_,_,_,_,_,_,_,rfl,Ja ⟨λh=>(U h).set1 n rfl _,λh=>(W h).set1 n rfl _,λh=>(G2 h).set1 n rfl _,λh=>(X h).set1 n rfl _,λh=>(G4 h).set1 n rfl _,λh=>(G5 h).set1 n rfl _,λh=>(G6 h).set1 n rfl _,G7,⟨λh=>by simp[Qc]at h,λ_ h=>by simp at h,λ_=>⟨B,rfl,rfl⟩⟩⟩,Ja (g.o.putPoly (i:=3) rfl hv)⟩
 rintro D af V8 ah ⟨te,tg,ti,tj,tk,tl,tm,tA,tD,x7,x8,rfl,f,g⟩;obtain⟨B9,rfl,rfl⟩:=f.o.2.2.2.2.2.2.2.1.2.2 (ah 9 DF);obtain⟨B10,rfl,rfl⟩:=f.o.2.2.2.2.2.2.2.2.2.2 (ah 10 DF);clear f ah M4;have M5:Hid (Mem w V8 [some (w.heap.size,.poly q),some (B6,.poly c),some (B9,.poly w0),some (B10,.poly y0)]):=g;clear g;go_wp2;go_loopw [6,7] (λlv tv wr=>∃(k:Nat) (xa:Option Addr) (xc:Nat),k<=N/\lv=C xa (yL w0 y0 k).length xc/\tv=H I ((k+1:Nat):Int)/\Hid (Eb w.heap.size wr (C xa (yL w0 y0 k).length xc) (yL w0 y0 k))/\Hid (Mem w wr [some (w.heap.size,.poly q),some (B6,.poly c),some (B9,.poly ((DH w0 y0 k).1)),some (B10,.poly ((DH w0 y0 k).2))])) λ_ tv _=>N+1-(intOf tv).toNat
 case atStart=>exact⟨0,none,0,AO _,rfl,rfl,Ja (D0.nil _ _ _),M5⟩
 case round=>
  clear M5 Ut Us Uq Uh;obtain⟨k,xa,xc,hk,rfl,rfl,XL,M6⟩:=hrel;obtain⟨o,ci⟩:=ex ((DH w0 y0 k).1);obtain⟨z,cj⟩:=ex ((DH w0 y0 k).2);obtain⟨L,hL⟩:=ex (yL w0 y0 k);have Qa:=Ja (show(DH w0 y0 k).1=o/\(DH w0 y0 k).2=z/\yL w0 y0 k=L/\L.length<=k from⟨ci,cj,hL,by rw[<-hL];exact Rs _ _ _⟩);rw[ci,cj]at M6;rw[hL]at XL;clear ci cj hL;rw[Qa.o.2.2.1];obtain⟨ll,ce⟩:=ex (L.length:Nat);rw[ce]at XL ⊢;have Qk:=Ja ce;clear ce;obtain⟨T,hT⟩:=ex (k+1:Nat);rw[hT];have Qh:=Ja hT;clear hT;obtain⟨bj,cn,bk,bh,r11⟩:=M6.o.poly2 (i:=2) rfl;have Qd:=bh.cell;have H1:=Ja (Ug.o wr _ o r11);obtain⟨d1,bu⟩:=ex ((o.length:Int)-1:Int);rw[bu]at H1;have Uw:=Ja bu;clear bu;by_cases dp:k<N
  . have Wa:(0:Int)<d1:=by have A:=(Uy.o k dp).1;rw[Qa.o.1]at A;have:=Uw.o;omega
    have HO:=Ja (show StOk K M o z by have A:=(Uy.o k dp).2;rwa[Qa.o.1,Qa.o.2.1]at A);go_upto_region 10 with(go_at_call 30;refine H1.o.mono ?_;clear H1;rintro e w1 ⟨rfl,hq⟩;clear Qd;have Qd:=(boxed_below bh hq).cell)
    have M7:Hid (Mem w w1 [some (w.heap.size,.poly q),some (B6,.poly c),some (B9,.poly o),some (B10,.poly z)]):=Ja (M6.o.below hq);have Uv:=Ja (XL.o.below hq);clear XL hq bh r11 Qd M6;refine Jn Ql [[],[],[1],[0,2,2],[3,3,0,1,2,3]] (by kernel_rfl) DF
     (λD af V=>∃(tn tr ts tt:G) (y3:Option (Nat × Dat)),af={ tmps:=#[R #[C pa la pc],F (some ⟨w.heap.size,0,none⟩),C none 0 0,F (some ⟨B6,0,none⟩),F (some ⟨B9,0,none⟩),F (some ⟨B10,0,none⟩),C xa ll xc,H I ↑T,u8,R #[C a1 l1 c1],H I d0,.bool (decide (d0<1)),R #[C a2 l2 c2],R #[C am ap an],ta,tb,tc,td,te,tg,ti,tj,tk,tl,tm,R #[C bj cn bk],H I d1,.bool true,u28,u29,tn,tr,ts,tt,u34,u35,u36,u37,u38,u39,u40,u41,u42,u43,u44,u45,u46,u47,u48,u49,u50,u51,E],defers:=[] }/\Hid ((D 0=true->Has V tn (.poly z))/\(D 1=true->Has V tr (.poly o))/\(D 2=true->Has V ts (.poly (Jb o)))/\(D 3=true->Has V tt (.poly (JD z (Jb o))))/\((D 4=false->y3=some (B10,.poly z))/\(D 4=true->y3=some (B10,.poly (JD z (Jb o))))))/\Hid (Mem w V [some (w.heap.size,.poly q),some (B6,.poly c),some (B9,.poly o),y3])/\Hid (Eb w.heap.size V (C xa ll xc) L))
     ⟨_,_,_,_,_,rfl,Ja ⟨Z,Z,Z,Z,⟨λ_=>rfl,Z⟩⟩,Ja (M7.o).drew,Ja (Uv.o.drew)⟩ ?step12 ?fin12
    case step12=>
     rintro D af V i ds aj hi m ad ⟨tn,tr,ts,tt,y3,rfl,f,g,S⟩;have Qr:i<5:=(Ac.1 hi).1;obtain rfl|rfl|rfl|rfl|rfl:=KJ i O
     all_goals
      simp only[Ai,Ag,Ak]at hi;subst hi
     . have hf:D 4=false:=DI aj ad;obtain rfl:=f.o.2.2.2.2.1 hf;clear m;obtain⟨a,l,c,n,r⟩:=g.o.poly2 (i:=3) rfl;have e0:=n.cell;refine Za ?_;exact⟨_,_,_,_,_,rfl,Ja ⟨λ_=>r,f.o.2.1,f.o.2.2.1,f.o.2.2.2.1,⟨λ_=>rfl,λh=>by simp[hf]at h⟩⟩,Ja (g.o),Ja (S.o)⟩
     . clear m;obtain⟨a,l,c,n,r⟩:=g.o.poly2 (i:=2) rfl;have e0:=n.cell;refine Za ?_;exact⟨_,_,_,_,_,rfl,(Dh f λ_=>r),Ja (g.o),Ja (S.o)⟩
     . have s:=(f.o.2.1 (m 1 Z));have HC:=Ja (Wh.o o z HO.o V _ s);clear m s;refine Jc rfl rfl λK hK=>?_;go_simp;go_wp2_with(go_at_call 38;refine HC.o.mono ?_;rintro e w5 ⟨v5,rfl,ae,j⟩)
       exact⟨_,_,_,_,_,rfl,Ja ⟨λh=>(f.o.1 h).below j,λh=>(f.o.2.1 h).below j,λ_=>ae,λh=>(f.o.2.2.2.1 h).below j,f.o.2.2.2.2⟩,Ja (g.o.below j),Ja (S.o.below j)⟩
     . have s:=(f.o.1 (m 0 Z));have A:=(f.o.2.2.1 (m 2 Z));have HC:=Ja (Wj.o o z HO.o V _ _ s A);clear m s A;refine Jc rfl rfl λK hK=>?_;go_simp;go_wp2_with(go_at_call 90;refine HC.o.mono ?_;rintro e w5 ⟨v5,rfl,ae,j⟩)
       exact⟨_,_,_,_,_,rfl,Ja ⟨λh=>(f.o.1 h).below j,λh=>(f.o.2.1 h).below j,λh=>(f.o.2.2.1 h).below j,λ_=>ae,f.o.2.2.2.2⟩,Ja (g.o.below j),Ja (S.o.below j)⟩
     . obtain rfl:=f.o.2.2.2.2.1 ad;have hv:=(f.o.2.2.2.1 (m 3 Z));obtain⟨a1,l1,c1,rfl⟩:=Je.form (show Je V _ _ from hv);obtain⟨a,l,c,n,r⟩:=g.o.poly2 (i:=3) rfl;have e0:=n.cell;have f0:=n.frozen;clear m;refine Za ?_;exact⟨_,_,_,_,_,rfl,Ja ⟨λh=>(f.o.1 h).set1 n rfl _,λh=>(f.o.2.1 h).set1 n rfl _,λh=>(f.o.2.2.1 h).set1 n rfl _,λh=>(f.o.2.2.2.1 h).set1 n rfl _,⟨λh=>by simp at h,λ_=>rfl⟩⟩,Ja (g.o.putPoly (i:=3) rfl hv),Ja (S.o.set1 n rfl _)⟩
    rintro D af co ah ⟨tn,tr,ts,tt,y3,rfl,f,g,S⟩;obtain rfl:=f.o.2.2.2.2.2 (ah 4 DF);clear f ah M7;have M8:Hid (Mem w co [some (w.heap.size,.poly q),some (B6,.poly c),some (B9,.poly o),some (B10,.poly (JD z (Jb o)))]):=g;clear g;have Um:=S;clear S Uv;obtain⟨P,hP⟩:=ex (Jz o (JD z (Jb o)));obtain⟨Qs,Qp,Qe,Qg⟩:=Dr hP (Wl.o o z HO.o) (Wc.o o z HO.o) (Wn.o o z HO.o);rw[hP]at Qp Qe Qg;clear hP;obtain⟨de,du,dh,dz,ei⟩:=M8.o.poly2 (i:=2) rfl;have Qx:=dz.cell;obtain⟨df,dx,di,ed,eo⟩:=M8.o.poly2 (i:=3) rfl;have Ue:=ed.cell;have H1:=Ja (Qp.o co _ _ ei eo);go_upto_region 12 with(go_at_call 35;refine H1.o.mono ?_;clear H1;rintro e w3 ⟨u3,rfl,cl,hq⟩;obtain⟨aw,ay,ax,rfl⟩:=Je.form cl)
    have Ur:=Ja ((Um.o.below hq).alloc (.cells #[C aw ay ax] 25));clear Um dz ei Qx ed eo Ue;have Qi:=Ur;clear Ur;obtain⟨ct,hV⟩:=ex (w3.alloc (.cells #[C aw ay ax] 25));obtain⟨ak,bl⟩:=ex (w3.heap.size);have g:Mem w (w3.alloc (.cells #[C aw ay ax] 25)) [some (w.heap.size,.poly q),some (B6,.poly c),some (B9,.poly o),some (B10,.poly (JD z (Jb o))),some (w3.heap.size,.poly P)]:=Mem.push (M8.o.below hq) (.poly P) cl;rw[hV,bl]at g;rw[hV]at Qi;rw[hV];rw[bl];have M9:Hid (Mem w ct [some (w.heap.size,.poly q),some (B6,.poly c),some (B9,.poly o),some (B10,.poly (JD z (Jb o))),some (ak,.poly P)]):=Ja (g);clear M8;clear g hV bl cl hq;obtain⟨az,bg,ba,aq,bi⟩:=M9.o.poly2 (i:=4) rfl;have Qb:=aq.cell;have H1:=Ja (Ug.o ct _ P bi);obtain⟨d2,bz⟩:=ex ((P.length:Int)-1:Int);rw[bz]at H1;have Un:=Ja bz;clear bz;by_cases dj:1<P.length
    . have We:(0:Int)<d2:=by have:=Un.o;omega
      have Qj:=Ja (show yL w0 y0 (k+1)=L++[(P,T)]by rw[yL,Qa.o.2.2.1];unfold yP;rw[Qa.o.1,Qa.o.2.1,Qs.o,BC dj,Qh.o]);go_upto_region 13 with(go_at_call 30;refine H1.o.mono ?_;clear H1;rintro e w4 ⟨rfl,hq⟩;clear Qb;have Qb:=(boxed_below aq hq).cell)
      have X4:=Qi.o.below hq;have M4:=M9.o.below hq;have r4:=bi.below hq;have Ul:=M4.2.2.size;obtain⟨v',w',bn,X5,dm,dk,et⟩:=dT true w.heap.size w4 (C xa ll xc) L X4 (t:=T) r4.row (by have:=Qa.o.2.2.2;omega) Ul;obtain⟨ya,yc,dt,_,_⟩:=X5.form;rw[Ao,show([(P,T)]:List (List Rat × Nat)).length=1 from rfl]at dt;subst dt;have M5:=M4.farP dm (dk _ w (Aa _) M4.2.2) (λi B d e=>by rcases i with _|_|_|_|_|i<;>simp at e<;>(obtain⟨rfl,rfl⟩:=e;show 25≠73;decide));have e4:=(boxed_below aq hq).cell;clear X4 r4 Ul dm dk et hq M4 aq bi Qb Qi;rw[show GR true=70 from rfl,show Dy true=73 from rfl]at bn;go_upto_region 14 with(first
       |(at_builtin;refine Lib.wpList_append_run _ rfl _ _ 70 70 rfl _ _ rfl rfl _ _ bn ?_;clear bn))
      clear e4 M9;have Qn:Hid (Mem w w' [some (w.heap.size,.poly q),some (B6,.poly c),some (B9,.poly o),some (B10,.poly (JD z (Jb o))),some (ak,.poly P)]):=Ja (M5);clear M5;have Uu:Hid (Eb w.heap.size w' (C ya (L.length+1) yc) (L++[(P,T)])):=Ja X5;clear X5;rw[Qk.o]at Uu;refine Jn Ql [[],[],[0,1],[],[],[3,4,2],[2,5,0,1,2],[5,6,0,1,2,3,4,5,6]] (by kernel_rfl) DF
       (λD af V=>∃(tw tx ty tz tB tC:G) (y2 y3:Option (Nat × Dat)),af={ tmps:=#[R #[C pa la pc],F (some ⟨w.heap.size,0,none⟩),C none 0 0,F (some ⟨B6,0,none⟩),F (some ⟨B9,0,none⟩),F (some ⟨B10,0,none⟩),C ya (L.length+1) yc,H I ↑T,F (some ⟨ak,0,none⟩),R #[C a1 l1 c1],H I d0,.bool (decide (d0<1)),R #[C a2 l2 c2],R #[C am ap an],ta,tb,tc,td,te,tg,ti,tj,tk,tl,tm,R #[C bj cn bk],H I d1,.bool true,u28,u29,tn,tr,ts,tt,R #[C de du dh],R #[C df dx di],R #[C aw ay ax],R #[C az bg ba],H I d2,.bool true,C xa ll xc,R #[C az bg ba],H I ↑T,R #[C az bg ba,H I ↑T],C (some ⟨w4.heap.size,0,none⟩) 1 1,C ya (L.length+1) yc,tw,tx,ty,tz,tB,tC,E],defers:=[] }/\Hid ((D 0=true->Has V tw (.poly o))/\(D 1=true->Has V tx (.poly P))/\(D 2=true->Has V ty (.poly (Dk o P)))/\(D 3=true->Has V tz (.poly (JD z (Jb o))))/\(D 4=true->Has V tB (.poly P))/\(D 5=true->Has V tC (.poly (Dk (JD z (Jb o)) P)))/\((D 6=false->y2=some (B9,.poly o))/\(D 6=true->y2=some (B9,.poly (Dk o P))))/\((D 7=false->y3=some (B10,.poly (JD z (Jb o))))/\(D 7=true->y3=some (B10,.poly (Dk (JD z (Jb o)) P)))))/\Hid (Mem w V [some (w.heap.size,.poly q),some (B6,.poly c),y2,y3,some (ak,.poly P)])/\Hid (Eb w.heap.size V (C ya (ll+1) yc) (L++[(P,T)])))
       ⟨_,_,_,_,_,_,_,_,rfl,Ja ⟨Z,Z,Z,Z,Z,Z,⟨λ_=>rfl,Z⟩,⟨λ_=>rfl,Z⟩⟩,Ja (Qn.o).drew,Ja (Uu.o.drew)⟩ ?step18 ?fin18
      case step18=>
       rintro D af V i ds aj hi m ad ⟨tw,tx,ty,tz,tB,tC,y2,y3,rfl,f,g,S⟩;have Qr:i<8:=(Ac.1 hi).1;obtain rfl|rfl|rfl|rfl|rfl|rfl|rfl|rfl:=Kx i O
       all_goals
        simp only[Ai,Ag,Ak]at hi;subst hi
       . have hf:D 6=false:=DI aj ad;obtain rfl:=f.o.2.2.2.2.2.2.1.1 hf;clear m;obtain⟨a,l,c,n,r⟩:=g.o.poly2 (i:=2) rfl;have e0:=n.cell;refine Za ?_;exact⟨_,_,_,_,_,_,_,_,rfl,(Dz (De f λ_=>r) ⟨λ_=>rfl,λh=>by simp[hf]at h⟩),Ja (g.o),Ja (S.o)⟩
       . clear m;obtain⟨a,l,c,n,r⟩:=g.o.poly2 (i:=4) rfl;have e0:=n.cell;refine Za ?_;exact⟨_,_,_,_,_,_,_,_,rfl,(Dh f λ_=>r),Ja (g.o),Ja (S.o)⟩
       . have s:=(f.o.1 (m 0 Z));have A:=(f.o.2.1 (m 1 Z));have HC:=Ja (Qe.o V _ _ s A);clear m s A;refine Jc rfl rfl λK hK=>?_;go_simp;go_wp2_with(go_at_call 89;refine HC.o.mono ?_;rintro e w5 ⟨v5,rfl,ae,j⟩)
         obtain⟨U,W,_,X,G4,G5,G6⟩:=f.o;exact⟨_,_,_,_,_,_,_,_,rfl,Ja ⟨λh=>(U h).below j,λh=>(W h).below j,λ_=>ae,λh=>(X h).below j,λh=>(G4 h).below j,λh=>(G5 h).below j,G6⟩,Ja (g.o.below j),Ja (S.o.below j)⟩
       . have hf:D 7=false:=DI aj ad;obtain rfl:=ET f hf;clear m;obtain⟨a,l,c,n,r⟩:=g.o.poly2 (i:=3) rfl;have e0:=n.cell;refine Za ?_;exact⟨_,_,_,_,_,_,_,_,rfl,(LE (Df f λ_=>r) ⟨λ_=>rfl,λh=>by simp[hf]at h⟩),Ja (g.o),Ja (S.o)⟩
       . clear m;obtain⟨a,l,c,n,r⟩:=g.o.poly2 (i:=4) rfl;have e0:=n.cell;refine Za ?_;exact⟨_,_,_,_,_,_,_,_,rfl,(Du f λ_=>r),Ja (g.o),Ja (S.o)⟩
       . have s:=(f.o.2.2.2.1 (m 3 Z));have A:=(f.o.2.2.2.2.1 (m 4 Z));have HC:=Ja (Qg.o V _ _ s A);clear m s A;refine Jc rfl rfl λK hK=>?_;go_simp;go_wp2_with(go_at_call 89;refine HC.o.mono ?_;rintro e w5 ⟨v5,rfl,ae,j⟩)
         obtain⟨U,W,G2,X,G4,_,G6⟩:=f.o;exact⟨_,_,_,_,_,_,_,_,rfl,Ja ⟨λh=>(U h).below j,λh=>(W h).below j,λh=>(G2 h).below j,λh=>(X h).below j,λh=>(G4 h).below j,λ_=>ae,G6⟩,Ja (g.o.below j),Ja (S.o.below j)⟩
       . obtain rfl:=f.o.2.2.2.2.2.2.1.1 ad;have hv:=(f.o.2.2.1 (m 2 Z));obtain⟨a1,l1,c1,rfl⟩:=Je.form (show Je V _ _ from hv);obtain⟨a,l,c,n,r⟩:=g.o.poly2 (i:=2) rfl;have e0:=n.cell;have f0:=n.frozen;clear m;refine Za ?_;obtain⟨U,W,G2,X,G4,G5,_,G7⟩:=f.o;exact⟨_,_,_,_,_,_,_,_,rfl,Ja ⟨λh=>(U h).set1 n rfl _,λh=>(W h).set1 n rfl _,λh=>(G2 h).set1 n rfl _,λh=>(X h).set1 n rfl _,λh=>(G4 h).set1 n rfl _,λh=>(G5 h).set1 n rfl _,⟨λh=>by simp at h,λ_=>rfl⟩,G7⟩,Ja (g.o.putPoly (i:=2) rfl hv),Ja (S.o.set1 n rfl _)⟩
       . obtain rfl:=ET f ad;have hv:=((Dn f) (m 5 Z));obtain⟨a1,l1,c1,rfl⟩:=Je.form (show Je V _ _ from hv);obtain⟨a,l,c,n,r⟩:=g.o.poly2 (i:=3) rfl;have e0:=n.cell;have f0:=n.frozen;clear m;refine Za ?_;obtain⟨U,W,G2,X,G4,G5,G6,_⟩:=f.o;exact⟨_,_,_,_,_,_,_,_,rfl,Ja ⟨λh=>(U h).set1 n rfl _,λh=>(W h).set1 n rfl _,λh=>(G2 h).set1 n rfl _,λh=>(X h).set1 n rfl _,λh=>(G4 h).set1 n rfl _,λh=>(G5 h).set1 n rfl _,G6,⟨λh=>by simp at h,λ_=>rfl⟩⟩,Ja (g.o.putPoly (i:=3) rfl hv),Ja (S.o.set1 n rfl _)⟩
      rintro D af da ah ⟨tw,tx,ty,tz,tB,tC,y2,y3,rfl,f,g,S⟩;obtain rfl:=f.o.2.2.2.2.2.2.1.2 (ah 6 DF);obtain rfl:=f.o.2.2.2.2.2.2.2.2 (ah 7 DF);clear f ah Qn;have Qo:Hid (Mem w da [some (w.heap.size,.poly q),some (B6,.poly c),some (B9,.poly (Dk o P)),some (B10,.poly (Dk (JD z (Jb o)) P)),some (ak,.poly P)]):=g;clear g;have Qt:Hid (Mem w da [some (w.heap.size,.poly q),some (B6,.poly c),some (B9,.poly (Dk o P)),some (B10,.poly (Dk (JD z (Jb o)) P))]):=Ja (Qo.o.take 4);have Qm:=Ja (show(DH w0 y0 (k+1)).1=Dk o P/\(DH w0 y0 (k+1)).2=Dk (JD z (Jb o)) P by rw[DH];unfold Gj;rw[Qa.o.1,Qa.o.2.1,Qs.o];exact⟨rfl,rfl⟩);have Wd:T+1<=9223372036854775807:=by have:=Qh.o;omega
      clear Qo;go_wp2_with fail
      go_roundw
      case rel=>exact⟨k+1,ya,yc,O,by rw[Qj.o,Ao,Qk.o];rfl,by rw[Qh.o];go_num,by rw[Qj.o,Ao,Qk.o];exact S,by rw[Qm.o.1,Qm.o.2];exact Qt⟩
      case measure=>simp[intOf];have:=Qh.o;omega
    . have We:¬(0:Int)<d2:=by have:=Un.o;omega
      have Qj:=Ja (show yL w0 y0 (k+1)=L by rw[yL,Qa.o.2.2.1];unfold yP;rw[Qa.o.1,Qa.o.2.1,Qs.o,BA dj,C4]);go_upto_region 14 with(go_at_call 30;refine H1.o.mono ?_;clear H1;rintro e w4 ⟨rfl,hq⟩;clear Qb;have Qb:=(boxed_below aq hq).cell)
      have Wb:=Ja (Qi.o.below hq);have Qn:Hid (Mem w w4 [some (w.heap.size,.poly q),some (B6,.poly c),some (B9,.poly o),some (B10,.poly (JD z (Jb o))),some (ak,.poly P)]):=Ja (M9.o.below hq);clear M9;clear hq aq bi Qb Qi;refine Jn Ql [[],[],[0,1],[],[],[3,4,2],[2,5,0,1,2],[5,6,0,1,2,3,4,5,6]] (by kernel_rfl) DF
       (λD af V=>∃(tw tx ty tz tB tC:G) (y2 y3:Option (Nat × Dat)),af={ tmps:=#[R #[C pa la pc],F (some ⟨w.heap.size,0,none⟩),C none 0 0,F (some ⟨B6,0,none⟩),F (some ⟨B9,0,none⟩),F (some ⟨B10,0,none⟩),C xa ll xc,H I ↑T,F (some ⟨ak,0,none⟩),R #[C a1 l1 c1],H I d0,.bool (decide (d0<1)),R #[C a2 l2 c2],R #[C am ap an],ta,tb,tc,td,te,tg,ti,tj,tk,tl,tm,R #[C bj cn bk],H I d1,.bool true,u28,u29,tn,tr,ts,tt,R #[C de du dh],R #[C df dx di],R #[C aw ay ax],R #[C az bg ba],H I d2,.bool (decide (0<d2)),u40,u41,u42,u43,u44,u45,tw,tx,ty,tz,tB,tC,E],defers:=[] }/\Hid ((D 0=true->Has V tw (.poly o))/\(D 1=true->Has V tx (.poly P))/\(D 2=true->Has V ty (.poly (Dk o P)))/\(D 3=true->Has V tz (.poly (JD z (Jb o))))/\(D 4=true->Has V tB (.poly P))/\(D 5=true->Has V tC (.poly (Dk (JD z (Jb o)) P)))/\((D 6=false->y2=some (B9,.poly o))/\(D 6=true->y2=some (B9,.poly (Dk o P))))/\((D 7=false->y3=some (B10,.poly (JD z (Jb o))))/\(D 7=true->y3=some (B10,.poly (Dk (JD z (Jb o)) P)))))/\Hid (Mem w V [some (w.heap.size,.poly q),some (B6,.poly c),y2,y3,some (ak,.poly P)])/\Hid (Eb w.heap.size V (C xa ll xc) L))
       ⟨_,_,_,_,_,_,_,_,rfl,Ja ⟨Z,Z,Z,Z,Z,Z,⟨λ_=>rfl,Z⟩,⟨λ_=>rfl,Z⟩⟩,Ja (Qn.o).drew,Ja (Wb.o.drew)⟩ ?step20 ?fin20
      case step20=>
       rintro D af V i ds aj hi m ad ⟨tw,tx,ty,tz,tB,tC,y2,y3,rfl,f,g,S⟩;have Qr:i<8:=(Ac.1 hi).1;obtain rfl|rfl|rfl|rfl|rfl|rfl|rfl|rfl:=Kx i O
       all_goals
        simp only[Ai,Ag,Ak]at hi;subst hi
       . have hf:D 6=false:=DI aj ad;obtain rfl:=f.o.2.2.2.2.2.2.1.1 hf;clear m;obtain⟨a,l,c,n,r⟩:=g.o.poly2 (i:=2) rfl;have e0:=n.cell;refine Za ?_;exact⟨_,_,_,_,_,_,_,_,rfl,(Dz (De f λ_=>r) ⟨λ_=>rfl,λh=>by simp[hf]at h⟩),Ja (g.o),Ja (S.o)⟩
       . clear m;obtain⟨a,l,c,n,r⟩:=g.o.poly2 (i:=4) rfl;have e0:=n.cell;refine Za ?_;exact⟨_,_,_,_,_,_,_,_,rfl,(Dh f λ_=>r),Ja (g.o),Ja (S.o)⟩
       . have s:=(f.o.1 (m 0 Z));have A:=(f.o.2.1 (m 1 Z));have HC:=Ja (Qe.o V _ _ s A);clear m s A;refine Jc rfl rfl λK hK=>?_;go_simp;go_wp2_with(go_at_call 89;refine HC.o.mono ?_;rintro e w5 ⟨v5,rfl,ae,j⟩)
         obtain⟨U,W,_,X,G4,G5,G6⟩:=f.o;exact⟨_,_,_,_,_,_,_,_,rfl,Ja ⟨λh=>(U h).below j,λh=>(W h).below j,λ_=>ae,λh=>(X h).below j,λh=>(G4 h).below j,λh=>(G5 h).below j,G6⟩,Ja (g.o.below j),Ja (S.o.below j)⟩
       . have hf:D 7=false:=DI aj ad;obtain rfl:=ET f hf;clear m;obtain⟨a,l,c,n,r⟩:=g.o.poly2 (i:=3) rfl;have e0:=n.cell;refine Za ?_;exact⟨_,_,_,_,_,_,_,_,rfl,(LE (Df f λ_=>r) ⟨λ_=>rfl,λh=>by simp[hf]at h⟩),Ja (g.o),Ja (S.o)⟩
       . clear m;obtain⟨a,l,c,n,r⟩:=g.o.poly2 (i:=4) rfl;have e0:=n.cell;refine Za ?_;exact⟨_,_,_,_,_,_,_,_,rfl,(Du f λ_=>r),Ja (g.o),Ja (S.o)⟩
       . have s:=(f.o.2.2.2.1 (m 3 Z));have A:=(f.o.2.2.2.2.1 (m 4 Z));have HC:=Ja (Qg.o V _ _ s A);clear m s A;refine Jc rfl rfl λK hK=>?_;go_simp;go_wp2_with(go_at_call 89;refine HC.o.mono ?_;rintro e w5 ⟨v5,rfl,ae,j⟩)
         obtain⟨U,W,G2,X,G4,_,G6⟩:=f.o;exact⟨_,_,_,_,_,_,_,_,rfl,Ja ⟨λh=>(U h).below j,λh=>(W h).below j,λh=>(G2 h).below j,λh=>(X h).below j,λh=>(G4 h).below j,λ_=>ae,G6⟩,Ja (g.o.below j),Ja (S.o.below j)⟩
       . obtain rfl:=f.o.2.2.2.2.2.2.1.1 ad;have hv:=(f.o.2.2.1 (m 2 Z));obtain⟨a1,l1,c1,rfl⟩:=Je.form (show Je V _ _ from hv);obtain⟨a,l,c,n,r⟩:=g.o.poly2 (i:=2) rfl;have e0:=n.cell;have f0:=n.frozen;clear m;refine Za ?_;obtain⟨U,W,G2,X,G4,G5,_,G7⟩:=f.o;exact⟨_,_,_,_,_,_,_,_,rfl,Ja ⟨λh=>(U h).set1 n rfl _,λh=>(W h).set1 n rfl _,λh=>(G2 h).set1 n rfl _,λh=>(X h).set1 n rfl _,λh=>(G4 h).set1 n rfl _,λh=>(G5 h).set1 n rfl _,⟨λh=>by simp at h,λ_=>rfl⟩,G7⟩,Ja (g.o.putPoly (i:=2) rfl hv),Ja (S.o.set1 n rfl _)⟩
       . obtain rfl:=ET f ad;have hv:=((Dn f) (m 5 Z));obtain⟨a1,l1,c1,rfl⟩:=Je.form (show Je V _ _ from hv);obtain⟨a,l,c,n,r⟩:=g.o.poly2 (i:=3) rfl;have e0:=n.cell;have f0:=n.frozen;clear m;refine Za ?_;obtain⟨U,W,G2,X,G4,G5,G6,_⟩:=f.o;exact⟨_,_,_,_,_,_,_,_,rfl,Ja ⟨λh=>(U h).set1 n rfl _,λh=>(W h).set1 n rfl _,λh=>(G2 h).set1 n rfl _,λh=>(X h).set1 n rfl _,λh=>(G4 h).set1 n rfl _,λh=>(G5 h).set1 n rfl _,G6,⟨λh=>by simp at h,λ_=>rfl⟩⟩,Ja (g.o.putPoly (i:=3) rfl hv),Ja (S.o.set1 n rfl _)⟩
      rintro D af db ah ⟨tw,tx,ty,tz,tB,tC,y2,y3,rfl,f,g,S⟩;obtain rfl:=f.o.2.2.2.2.2.2.1.2 (ah 6 DF);obtain rfl:=f.o.2.2.2.2.2.2.2.2 (ah 7 DF);clear f ah Qn;have Qo:Hid (Mem w db [some (w.heap.size,.poly q),some (B6,.poly c),some (B9,.poly (Dk o P)),some (B10,.poly (Dk (JD z (Jb o)) P)),some (ak,.poly P)]):=g;clear g;have Qt:Hid (Mem w db [some (w.heap.size,.poly q),some (B6,.poly c),some (B9,.poly (Dk o P)),some (B10,.poly (Dk (JD z (Jb o)) P))]):=Ja (Qo.o.take 4);have Qm:=Ja (show(DH w0 y0 (k+1)).1=Dk o P/\(DH w0 y0 (k+1)).2=Dk (JD z (Jb o)) P by rw[DH];unfold Gj;rw[Qa.o.1,Qa.o.2.1,Qs.o];exact⟨rfl,rfl⟩);have Wd:T+1<=9223372036854775807:=by have:=Qh.o;omega
      clear Qo;go_wp2_with fail
      go_roundw
      case rel=>exact⟨k+1,xa,xc,O,by rw[Qj.o,Qk.o],by rw[Qh.o];go_num,by rw[Qj.o,Qk.o];exact S,by rw[Qm.o.1,Qm.o.2];exact Qt⟩
      case measure=>simp[intOf];have:=Qh.o;omega
  . obtain rfl:k=N:=O
    have Wa:¬(0:Int)<d1:=by have A:=Wk.o;rw[Qa.o.1]at A;have:=Uw.o;omega
    go_wp2_with(go_at_call 30;refine H1.o.mono ?_;clear H1;rintro e w1 ⟨rfl,hq⟩;clear Qd;have Qd:=(boxed_below bh hq).cell)
    have HF:=Ja (show D0 true w.heap.size w1 (C xa ll xc) (yL w0 y0 k)/\Bl w w1 by rw[Qa.o.2.2.1];exact⟨XL.o.below hq,(M6.o.below hq).2.2⟩);go_ret;exact⟨_,rfl,HF.o⟩
end M3
end
variable{P a b g p q:List Rat}{K M l n:Nat}{r:Nat->Int}{c:Rat}
theorem dW:∀D:Nat,1<D->∃l,1<l/\l∣D/\∀a:Nat,¬l∣a->Nat.gcd l a=1:=by
 intro D;induction D using Nat.strongRecOn with
 |ind D i=>
  intro hD;by_cases h:∀d,d∣D->d=1\/d=D
  . refine⟨D,hD,Nat.dvd_refl _,λa f=>?_⟩;rcases h _ (Fj D a)with e|e
    . exact e
    . exact absurd (e ▸ CV D a) f
  . obtain⟨d,g⟩:=Classical.not_forall.1 h;obtain⟨b,c⟩:=Classical.not_imp.1 g;have k:d≠1/\d≠D:=⟨λe=>c (Or.inl e),λe=>c (Or.inr e)⟩;have m:d<=D:=Nat.le_of_dvd O b;have n:d≠0:=λe=>by subst e;have:=Nat.zero_dvd.1 b;omega
    obtain⟨l,l1,l2,j⟩:=i d O O;exact⟨l,l1,Nat.dvd_trans l2 b,j⟩
theorem OK{P:Nat->Prop}(h:∃a,P a):∃a,P a/\∀i,i<a->¬P i:=by
 obtain⟨a,d⟩:=h;induction a using Nat.strongRecOn with
 |ind a f=>
  by_cases h:∃i,i<a/\P i
  . obtain⟨i,b,c⟩:=h;exact f i b c
  . exact⟨a,d,λi e hp=>h ⟨i,e,hp⟩⟩
theorem dZ{l:Int}{f:Nat->Int}{a:Nat}:∀n,a<n->(∀i,i<n->i≠a->l∣f i)->l∣Yk n f->l∣f a:=by
 have j:∀n,(∀i,i<n->l∣f i)->l∣Yk n f:=λn=>by
  induction n with
  |zero=>exact λ_=>Int.dvd_zero _
  |succ n d=>exact λh=>by rw[Yk];exact Int.dvd_add (d λi g=>h i O) (h n O)
 intro n;induction n with
 |zero=>intro h;omega
 |succ n d=>
  intro o h c;rw[Yk]at c;by_cases e:a=n
  . subst e;have m:=j a λi g=>h i O O;have b:=Int.dvd_sub c m;rwa[show Yk a f+f a-Yk a f=f a by omega]at b
  . refine d O (λi g=>h i O) ?_;have b:=Int.dvd_sub c (h n O λk=>e k.symm);rwa[show Yk n f+f n-f n=Yk n f by omega]at b
theorem dc(hl:∀a:Nat,¬l∣a->Nat.gcd l a=1){s:Nat->Int}(p:∀i,n<=i->r i=0)(h:∀k,(l:Int)∣Yk n λi=>if i<=k then r i*s (k-i)else 0)(o:∃a,¬(l:Int)∣r a)(q:∃b,¬(l:Int)∣s b):False:=by
 obtain⟨a,e,g⟩:=OK o;obtain⟨b,j,m⟩:=OK q;have f:a<n:=by
  by_cases c:a<n
  . exact c
  . exact absurd (by rw[p a O];exact Int.dvd_zero _) e
 have c:=dZ n f (λi t u=>by
  split
  . by_cases d:i<a
    . exact Int.dvd_trans (Classical.not_not.1 (g i d)) (Int.dvd_mul_right _ _)
    . exact Int.dvd_trans (Classical.not_not.1 (m (a+b-i) O)) (Int.dvd_mul_left _ _)
  . exact Int.dvd_zero _) (h (a+b))
 rw[BC O,show a+b-a=b by omega,CN]at c;exact j (dvd_one c (by rw[AK];exact hl _ λd=>e (CP.2 d)))
theorem dl{L G:Int}(U:∀i,((cf p i).den:Int)∣L)(V:∀u:Int,(∀i,((cf p i).den:Int)∣u)->L∣u)(S:∀i,G∣(cf p i).num)(T:∀v:Int,(∀i,v∣(cf p i).num)->v∣G)(P:G≠0)(X:∀i,∃z:Int,cf p i*c=(z:Rat)):
 ∃t:Int,∀i,∃r:Int,cf p i*((L:Rat)/(G:Rat))=(r:Rat)/\cf p i*c=((r*t:Int):Rat):=by
 have y:(c.den:Int)≠0:=by have:=c.den_nz;omega
 have j:∀i,∃z:Int,cf p i*c=(z:Rat)/\(cf p i).num*c.num=z*((cf p i).den*c.den):=λi=>by
  obtain⟨z,b⟩:=X i;refine⟨z,b,?_⟩;have B:c*(c.den:Rat)=(c.num:Rat):=Gx c;have a:cf p i*((cf p i).den:Rat)=((cf p i).num:Rat):=Gx _;have D:(((cf p i).num*c.num:Int):Rat)=((z*(((cf p i).den:Int)*(c.den:Int)):Int):Rat):=by
   rw[AB,AB,AB,AP,AP,<-B,<-a,<-b];grind
  exact Rat.intCast_inj.1 D
 have l:L∣c.num:=V _ λi=>by
  obtain⟨z,_,e⟩:=j i;have g:((cf p i).den:Int)∣(cf p i).num*c.num:=⟨z*c.den,by rw[e,Int.mul_left_comm]⟩;rw[CN]at g;refine dvd_one g ?_;rw[AK,CZ];exact(cf p i).reduced
 have n:(c.den:Int)∣G:=T _ λi=>by
  obtain⟨z,_,e⟩:=j i;have g:(c.den:Int)∣(cf p i).num*c.num:=⟨z*(cf p i).den,by rw[e,<-Fx,CN]⟩;refine dvd_one g ?_;rw[AK,CZ];exact c.reduced
 obtain⟨u,l⟩:=l;obtain⟨v,n⟩:=n;refine⟨u*v,λi=>?_⟩;obtain⟨e,s⟩:=U i;obtain⟨m,w⟩:=S i;obtain⟨z,K,b⟩:=j i;have W:((cf p i).den:Int)≠0:=by have:=(cf p i).den_nz;omega
 have A:z=m*e*(u*v):=by
  have M:z*(((cf p i).den:Int)*c.den)=m*e*(u*v)*(((cf p i).den:Int)*c.den):=by
   rw[<-b,w,l,n,s];generalize ((cf p i).den:Int)=d;generalize (c.den:Int)=f;grind
  exact Int.eq_of_mul_eq_mul_right (CI W y) M
 refine⟨m*e,?_,by rw[K,A]⟩;have o:(G:Rat)≠0:=by exact_mod_cast P
 have a:cf p i*((cf p i).den:Rat)=((cf p i).num:Rat):=Gx _;rw[w,AB]at a;have x:(L:Rat)=((cf p i).den:Rat)*(e:Rat):=by rw[s,AB,AP]
 have k:(L:Rat)/(G:Rat)*(G:Rat)=L:=Ap o;have N:(cf p i*((L:Rat)/(G:Rat))-((m*e:Int):Rat))*(G:Rat)=0:=by
  rw[AB];generalize (L:Rat)/(G:Rat)=f at k ⊢;rw[x]at k;generalize ((cf p i).den:Rat)=d at a k;grind
 rcases AM.1 N with q|q
 . grind
 . exact absurd q o
theorem Rt(hp:Jd p=p)(e:p≠[])(l:∀i,∃z:Int,cf p i*c=(z:Rat)):∃t:Int,∀i,∃r:Int,cf (JI p) i=(r:Rat)/\cf p i*c=((r*t:Int):Rat):=by
 have b:∀i,p.length<=i->cf p i=0:=λi a=>Ye a;obtain⟨t,g⟩:=dl (p:=p) (L:=(Y3 p p.length:Int)) (G:=(YN p p.length:Int)) (λi=>by
  by_cases a:i<p.length
  . exact Int.natCast_dvd_natCast.2 (N3 p _ i a)
  . rw[b i O];exact Int.one_dvd _) (λu j=>CP.2 (N8 p _ (λi=>CP.1 (j i)) _)) (λi=>by
  by_cases a:i<p.length
  . exact CP.2 (N9 p _ i a)
  . rw[b i O];exact Int.dvd_zero _) (λv k=>by
  have:v.natAbs∣YN p p.length:=RY p _ (λi=>FG.2 (k i)) _
  exact Int.natAbs_dvd.1 (Int.natCast_dvd_natCast.2 this)) (by have:=Kn hp e;omega) l
 refine⟨t,λi=>?_⟩;obtain⟨r,d,f⟩:=g i;refine⟨r,?_,f⟩;unfold JI;rw[Yu];rw[AP,AP]at d;exact d
theorem Ru(hp:Jd p=p)(m:p≠[])(o:∀i,cf (JI p) i=(r i:Rat))(hl:1<l):∃i,¬(l:Int)∣r i:=by
 by_cases h:∃i,¬(l:Int)∣r i
 . exact h
 . exfalso
   have u:∀i,(l:Int)∣r i:=λi=>Classical.not_not.1 λb=>h ⟨i,b⟩;have d:(l:Rat)≠0:=by exact_mod_cast (show l≠0 by omega)
   obtain⟨c,n,e⟩:=F9 hp;have w:c≠0:=λg=>by rw[g]at n;exact absurd n DF
   have f:∀i,cf p i*c=(r i:Rat):=λi=>by rw[<-Yu,<-e,o]
   obtain⟨t,K⟩:=Rt hp m (c:=c/(l:Rat)) (λi=>by
    obtain⟨q,hq⟩:=u i;refine⟨q,?_⟩;have b:c/(l:Rat)*(l:Rat)=c:=Ap d;have j:=f i;rw[hq,AB,AP]at j;have a:(cf p i*(c/(l:Rat))-(q:Rat))*(l:Rat)=0:=by grind
    rcases AM.1 a with k|k
    . grind
    . exact absurd k d)
   obtain⟨L,b,j⟩:=K (p.length-1);have s:=Js hp m;have x:L=r (p.length-1):=Rat.intCast_inj.1 (by rw[<-b,o]);have v:r (p.length-1)≠0:=λg=>by
    have a:=f (p.length-1);rw[g]at a;exact X1 s w a
   have a:=f (p.length-1);have k:c/(l:Rat)*(l:Rat)=c:=Ap d;have y:((r (p.length-1):Int):Rat)=(((r (p.length-1))*(t*(l:Int)):Int):Rat):=by
    rw[<-a,AB,AB,AP];rw[x,AB]at j;grind
   have z:=Rat.intCast_inj.1 y;have A:t*(l:Int)=1:=by
    have B:r (p.length-1)*1=r (p.length-1)*(t*(l:Int)):=by rw[Int.mul_one];exact z
    exact(Int.eq_of_mul_eq_mul_left v B).symm
   have D:(l:Int)∣1:=⟨t,by rw[CN];exact A.symm⟩;have M:=Int.le_of_dvd DF D;omega
theorem OL(hp:Jd p=p)(b:p≠[]):∀i,∃r:Int,cf (JI p) i=(r:Rat):=by
 obtain⟨t,k⟩:=Rt hp b (c:=(Y3 p p.length:Rat)) (λi=>by
  have f:(cf p i).den∣Y3 p p.length:=by
   by_cases j:i<p.length
   . exact N3 p _ i j
   . rw[Ye O];exact Nat.one_dvd _
  obtain⟨e,g⟩:=f;refine⟨(cf p i).num*(e:Int),?_⟩;have a:cf p i*((cf p i).den:Rat)=((cf p i).num:Rat):=Gx _;rw[g,AB,<-a,AP,Rat.natCast_mul];grind)
 intro i;obtain⟨r,d,_⟩:=k i;exact⟨r,d⟩
theorem dq(B:Jd P=P)(u:P≠[])(hw:∀i,∃z:Int,cf P i=(z:Rat))(o:Jd g=g)(h:Dv g P):
 ∃H:List Rat,Jd H=H/\P=Jr (JI g) H/\∀i,∃z:Int,cf H i=(z:Rat):=by
 have y:g≠[]:=λe=>u (by
  obtain⟨c,j⟩:=h;exact Yv B λx=>by rw[j,e];simp[ev])
 obtain⟨V,D,W⟩:=F9 o;have M:V≠0:=λm=>by rw[m]at D;exact absurd D DF
 have hd:Dv (JI g) P:=by rw[W];exact h.of_sc M
 obtain⟨H,f,eP⟩:=hd.some B;have t:H≠[]:=λe=>u (by rw[eP,e];exact YW _);refine⟨H,f,eP,?_⟩;obtain⟨c,j,w⟩:=F9 f;have T:c≠0:=λm=>by rw[m]at j;exact absurd j DF
 obtain⟨r,p⟩:=Classical.axiomOfChoice (OL o y);obtain⟨s,q⟩:=Classical.axiomOfChoice (OL f t);obtain⟨z,hz⟩:=Classical.axiomOfChoice hw;have K:DN c P=Jr (JI g) (JI H):=by
  refine Xr (JP _ _) (J2 _ _) λx=>?_;have a:ev P x=ev (JI g) x*ev H x:=by rw[<-Jg,<-eP]
  rw[JJ,Jg,w,JJ,a];grind
 have S:∀k,(z k:Rat)*c=((Yk (JI g).length (λi=>if i<=k then r i*s (k-i)else 0):Int):Rat):=λk=>by
  rw[<-hz k,<-Yu,K,Lt _ _ (Aa _)];refine N2 λi _=>?_;split
  . rw[p,q,AB]
  . rfl
 have v:c*(c.den:Rat)=(c.num:Rat):=Gx c;have L:∀k,z k*c.num=(c.den:Int)*Yk (JI g).length (λi=>if i<=k then r i*s (k-i)else 0):=λk=>by
  have a:((z k*c.num:Int):Rat)=(((c.den:Int)*Yk (JI g).length (λi=>if i<=k then r i*s (k-i)else 0):Int):Rat):=by
   rw[AB,AB,<-S k,AP,<-v];grind
  exact Rat.intCast_inj.1 a
 have U:c.num≠0:=λe=>T (FD.1 e);have N:c.num.natAbs=1:=by
  by_cases a:c.num.natAbs=1
  . exact a
  . exfalso
    have A:c.num.natAbs≠0:=Int.natAbs_ne_zero.2 U;obtain⟨l,l1,l2,l3⟩:=dW c.num.natAbs O;refine dc l3 (r:=r) (s:=s) (n:=(JI g).length) (λi hi=>?_) (λk=>?_) (Ru o y p l1) (Ru f t q l1)
    . have b:=p i;rw[Ye hi]at b;exact(Rat.intCast_inj.1 (show((0:Int):Rat)=_ from b)).symm
    . have b:(l:Int)∣(c.den:Int)*Yk (JI g).length (λi=>if i<=k then r i*s (k-i)else 0):=by
       rw[<-L k];exact Int.dvd_trans (CP.2 l2) (Int.dvd_mul_left _ _)
      rw[CN]at b;refine dvd_one b ?_;rw[AK,AK];have d:Nat.gcd l c.den∣Nat.gcd c.num.natAbs c.den:=Nat.dvd_gcd (Nat.dvd_trans (Fj _ _) l2) (CV _ _);have X:Nat.gcd c.num.natAbs c.den=1:=c.reduced;rw[X]at d;exact Nat.dvd_one.1 d
 intro i;refine⟨s i*(c.den:Int)*c.num,?_⟩;have a:cf H i*c=(s i:Rat):=by rw[<-q,w,Yu]
 have A:(c.num:Rat)*(c.num:Rat)=1:=by
  rw[<-AB];have b:c.num*c.num=1:=by
   rcases Int.natAbs_eq c.num with e|e<;>(rw[N]at e;rw[e];rfl)
  rw[b];rfl
 rw[AB,AB,AP,<-a];have d:cf H i*c*(c.den:Rat)*(c.num:Rat)=cf H i*(c.num*c.num:Rat):=by rw[Rat.mul_assoc (cf H i),v,Rat.mul_assoc]
 rw[d,A,Rat.mul_one]
def Dm:List Int->Int->Int
 |[],_=>0
 |c::t,x=>c+x*Dm t x
def cz(g:List Int)(i:Nat):Int:=g[i]?.getD 0
theorem Rv(i:Nat):cz [] i=0:=rfl
theorem L5(c:Int)(t:List Int):cz (c::t) 0=c:=rfl
theorem Ks(c:Int)(t:List Int)(i:Nat):cz (c::t) (i+1)=cz t i:=rfl
theorem OM{g:List Int}{i:Nat}(h:g.length<=i):cz g i=0:=by unfold cz;rw[AQ h];rfl
def Yw:List Int->Int->List Int × Int
 |[],_=>([],0)
 |c::t,k=>((Yw t k).2::(Yw t k).1,c+k*(Yw t k).2)
theorem ON(k x:Int):∀g:List Int,Dm g x=(x-k)*Dm (Yw g k).1 x+(Yw g k).2:=by
 intro g;induction g with
 |nil=>simp[Dm,Yw]
 |cons c t a=>rw[Dm,Yw,a];simp only[Dm];grind
theorem Rw(k:Int)(g:List Int):(Yw g k).2=Dm g k:=by
 have h:=ON k k g;rw[Int.sub_self,Int.zero_mul,Int.zero_add]at h;exact h.symm
theorem OO(k:Int):∀(g:List Int),cz g 0=(Yw g k).2-k*cz (Yw g k).1 0/\∀i,cz g (i+1)=cz (Yw g k).1 i-k*cz (Yw g k).1 (i+1):=by
 intro g;induction g with
 |nil=>exact⟨by simp[Rv,Yw],λi=>by simp[Rv,Yw]⟩
 |cons c t a=>
  rw[Yw];refine⟨by rw[L5,L5];omega,λi=>?_⟩;cases i with
  |zero=>rw[Ks,L5,Ks];exact a.1
  |succ i=>rw[Ks,Ks,Ks];exact a.2 i
theorem Rx(k:Int)(g:List Int){m:Nat}(h:∀i,m+1<=i->cz g i=0):∀i,m<=i->cz (Yw g k).1 i=0:=by
 have b:∀d i,m<=i->(Yw g k).1.length<=i+d->cz (Yw g k).1 i=0:=λd=>by
  induction d with
  |zero=>intro i _ c;exact OM O
  |succ d j=>
   intro i a c;have e:=j (i+1) O O;have f:=(OO k g).2 i;rw[h (i+1) O,e,Int.mul_zero]at f;omega
 intro i a;exact b (Yw g k).1.length i a O
theorem dw:∀(m:Nat) (g:List Int),(∀i,m<=i->cz g i=0)->(∃i,cz g i≠0)->∀b:List Int,b.Nodup->(∀k∈b,Dm g k=0)->b.length<m:=by
 intro m;induction m with
 |zero=>intro g h ⟨i,s⟩;exact absurd (h i O) s
 |succ m u=>
  intro g h ⟨t,c⟩ b e o;cases b with
  |nil=>simp
  |cons a b=>
   rw[List.nodup_cons]at e;have q:(Yw g a).2=0:=by rw[Rw];exact o a Z
   have hq:∃i,cz (Yw g a).1 i≠0:=by
    by_cases f:∃i,cz (Yw g a).1 i≠0
    . exact f
    . exfalso
      have d:∀i,cz (Yw g a).1 i=0:=λi=>Classical.not_not.1 λr=>f ⟨i,r⟩;have j:=OO a g;cases t with
      |zero=>rw[j.1,q,d]at c;simp at c
      |succ i=>rw[j.2,d,d]at c;simp at c
   have v:=u (Yw g a).1 (Rx a g h) hq b e.2 (λk p=>by
    have l:=ON a k g;rw[o k (by simp[p]),q,Int.add_zero]at l;rcases Int.mul_eq_zero.1 l.symm with n|n
    . exact absurd (show k∈b from p) λw=>e.1 (by rwa[show a=k by omega])
    . exact n)
   simp only[Af];omega
theorem eA(B:Nat):∀(m:Nat) (g:List Int) (M:Nat),(∀i,m<=i->cz g i=0)->∀b:List Int,b.Nodup->b.length=m->(∀k∈b,(Dm g k).natAbs<=M/\k.natAbs<=B)->∀i,(cz g i).natAbs<=M*(2*B+3)^m:=by
 intro m;induction m with
 |zero=>intro g M h b _ _ _ i;rw[h i O];simp
 |succ m v=>
  intro g M h b f hl o i;cases b with
  |nil=>simp at hl
  |cons a b=>
   rw[List.nodup_cons]at f;obtain⟨p,q⟩:=o a Z;have K:((Yw g a).2).natAbs<=M:=by rw[Rw];exact p
   have hq:=v (Yw g a).1 (2*M) (Rx a g h) b f.2 (by simpa using hl) (λk u=>by
    obtain⟨n,c⟩:=o k (by simp[u]);refine⟨?_,c⟩;have z:=ON a k g;have r:(k-a)*Dm (Yw g a).1 k=Dm g k-(Yw g a).2:=O
    have s:(k-a).natAbs*(Dm (Yw g a).1 k).natAbs<=2*M:=by
     rw[<-Cz,r];omega
    have t:0<(k-a).natAbs:=Int.natAbs_pos.2 λe=>f.1 (by rwa[show a=k by omega]);exact An (C3 _ t) s)
   obtain⟨X,d⟩:∃X,2*M*(2*B+3)^m=X:=⟨_,rfl⟩;rw[d]at hq;have A:2*M<=X:=by rw[<-d];exact Ce _ (CL O)
   have D:X+B*X<=M*(2*B+3)^(m+1):=by
    have e:M*(2*B+3)^(m+1)*2=X*(2*B+3):=by rw[<-d,A4];grind
    have w:X*(2*B+3)=2*(B*X)+3*X:=by grind
    omega
   have j:∀y:Int,(a*y).natAbs<=B*y.natAbs:=λy=>by rw[Cz];exact Aj _ q
   have l:=OO a g;cases i with
   |zero=>
    rw[l.1];have n:=j (cz (Yw g a).1 0);have c:B*(cz (Yw g a).1 0).natAbs<=B*X:=Aq _ (hq 0);omega
   |succ i=>
    rw[l.2];have n:=j (cz (Yw g a).1 (i+1));have c:B*(cz (Yw g a).1 (i+1)).natAbs<=B*X:=Aq _ (hq (i+1));have x:=hq i;omega
theorem eB{B:Nat}:∀(g:List Int) (k:Int),(∀i,(cz g i).natAbs<=M)->k.natAbs<=B->(Dm g k).natAbs<=M*(B+1)^g.length:=by
 intro g;induction g with
 |nil=>intro k _ _;simp[Dm]
 |cons c t l=>
  intro k h e;have b:=l k (λi=>h (i+1)) e;have j:=h 0;rw[L5]at j;rw[Dm,Af,A4];obtain⟨a,d⟩:=ex ((B+1)^t.length);rw[d]at b ⊢;have f:1<=a:=by rw[<-d];exact CL O
  have m:(k*Dm t k).natAbs<=B*(M*a):=by rw[Cz];exact CE e b
  have n:M<=M*a:=Ce _ f;have o:M*(a*(B+1))=M*a+B*(M*a):=by grind
  have p:=FI c (k*Dm t k);omega
def Kt(g:List Int):List Rat:=g.map (λz:Int=>(z:Rat))
theorem OP(g:List Int)(i:Nat):cf (Kt g) i=(cz g i:Rat):=by
 unfold cf Kt cz;rw[Fa];cases g[i]? with
 |none=>rfl
 |some z=>rfl
theorem OQ(k:Int):∀g:List Int,ev (Kt g) (k:Rat)=(Dm g k:Rat):=by
 intro g;induction g with
 |nil=>rfl
 |cons c t a=>
  show(c:Rat)+(k:Rat)*ev (Kt t) (k:Rat)=_;rw[a,Dm,FP,AB]
theorem OR(h:∀i,∃z:Int,cf p i=(z:Rat)):∃g:List Int,p=Kt g/\g.length=p.length:=by
 induction p with
 |nil=>exact⟨[],rfl,rfl⟩
 |cons c t e=>
  obtain⟨g,b,d⟩:=e (λi=>by have:=h (i+1);rwa[J3]at this);obtain⟨z,a⟩:=h 0;rw[YQ]at a;exact⟨z::g,by rw[a,b];rfl,by simp[d]⟩
theorem nodup_range(n:Nat):((List.range n).map (λi:Nat=>(i:Int))).Nodup:=by
 refine List.Pairwise.map _ ?_ (List.nodup_range (n:=n));intro a b h e;exact h O
theorem eC(x:Jd P=P)(f:P≠[])(hl:P.length<=n+1)(s:∀i,∃z:Int,z.natAbs<=M/\cf P i=(z:Rat))(y:Jd g=g)(h:Dv g P):
 ∀i,∃z:Int,z.natAbs<=M*(2*n+1)^(n+1)*(2*(2*n)+3)^(n+1)/\cf (JI g) i=(z:Rat):=by
 obtain⟨H,V,eP,W⟩:=dq x f (λi=>by obtain⟨z,_,c⟩:=s i;exact⟨z,c⟩) y h;have U:g≠[]:=λe=>f (by rw[eP,e];rfl);have t:H≠[]:=λe=>f (by rw[eP,e];exact YW _);obtain⟨a,m,lp⟩:=OR (p:=P) (λi=>by obtain⟨z,_,c⟩:=s i;exact⟨z,c⟩);obtain⟨j,w,lg⟩:=OR (OL y U);obtain⟨X,T,lh⟩:=OR W;have af:(JI g).length<=n+1:=by
  have b:=JA (Yj g) V (λe=>f (by rw[eP,e];rfl)) t;rw[<-eP]at b;have c:0<H.length:=Ae.2 t;omega
 have L:∀i,(cz a i).natAbs<=M:=λi=>by
  obtain⟨z,b,c⟩:=s i;rw[m,OP]at c;rwa[Rat.intCast_inj.1 c]
 have u:∀k:Int,Dm a k=Dm j k*Dm X k:=λk=>by
  have b:ev P (k:Rat)=ev (JI g) (k:Rat)*ev H (k:Rat):=by rw[<-Jg,<-eP]
  rw[m,w,T,OQ,OQ,OQ,<-AB]at b;exact Rat.intCast_inj.1 b
 obtain⟨R,o⟩:=ex ((List.range (2*n+1)).map (λi:Nat=>(i:Int)));have v:R.Nodup:=by rw[<-o];exact nodup_range _
 have ad:R.length=2*n+1:=by rw[<-o];simp
 have D:∀k∈R,k.natAbs<=2*n:=λk d=>by
  rw[<-o]at d;obtain⟨i,r,rfl⟩:=C1.1 d;have:=List.mem_range.1 r;omega
 have ae:(R.filter λk=>Dm a k==0).length<n+1:=by
  refine dw (n+1) a (λi r=>OM O) ?_ _ (v.filter _) (λk d=>by
   have:=(Fp.1 d).2;simpa using this)
  refine⟨P.length-1,λe=>Js x f ?_⟩;have b:=OP a (P.length-1);rw[<-m,e]at b;exact b
 have ah:(R.filter λk=>Dm a k==0).length+(R.filter λk=>!(Dm a k==0)).length=R.length:=by
  rw[<-List.countP_eq_length_filter,<-List.countP_eq_length_filter];have b:=List.length_eq_countP_add_countP (l:=R) λk=>Dm a k==0;have c:List.countP (λk=>!(Dm a k==0)) R=List.countP (λk=>decide ¬((Dm a k==0)=true)) R:=by congr 1;funext k;cases(Dm a k==0)<;>rfl
  omega
 obtain⟨S,q⟩:=ex ((R.filter λk=>!(Dm a k==0)).take (n+1));have B:S.length=n+1:=by rw[<-q,Al];omega
 have K:S.Nodup:=by rw[<-q];exact List.Sublist.nodup (List.take_sublist _ _) (v.filter _)
 have N:∀k∈S,Dm a k≠0/\k.natAbs<=2*n:=λk d=>by
  rw[<-q]at d;have b:=Fp.1 (Fu d);refine⟨?_,D k b.1⟩;have:=b.2;simpa using this
 have A:=eA (2*n) (n+1) j (M*(2*n+1)^(n+1)) (λi r=>OM O) S K B (λk d=>by
  obtain⟨b,c⟩:=N k d;refine⟨?_,c⟩;have h3:=eB a k L c;have h4:M*(2*n+1)^a.length<=M*(2*n+1)^(n+1):=Aq _ (AF O O);have h5:(Dm j k).natAbs<=(Dm a k).natAbs:=by
   rw[u k,Cz];refine Ce _ (Int.natAbs_pos.2 λe=>b ?_);rw[u k,e,Int.mul_zero]
  omega)
 intro i;exact⟨cz j i,A i,by rw[w,OP]⟩
theorem Ln.mul{N:Nat}(hp:Ln K p)(hq:Ln N q)(hl:p.length<=1000000000):Ln (K+N+1) (Jr p q):=by
 obtain⟨c,l,b⟩:=hp;obtain⟨d,m,a⟩:=hq;obtain⟨z,b⟩:=Classical.axiomOfChoice b;obtain⟨y,a⟩:=Classical.axiomOfChoice a;refine⟨c*d,X1 l m,λk=>⟨Yk p.length λi=>if i<=k then z i*y (k-i)else 0,?_,?_⟩⟩
 . have e:(Yk p.length λi=>if i<=k then z i*y (k-i)else 0).natAbs<=p.length*(Y^K*Y^N):=Lq λi _=>by
    split
    . rw[Cz];have g:=(b i).1;have j:=(a (k-i)).1;unfold Sm at g j;exact CE O O
    . simp
   unfold Sm;rw[A4,CO];have f:0<Y^K*Y^N:=FQ (CL Gq) (CL Gq);refine Ch e ?_;rw[At];exact(Nat.mul_lt_mul_left f).2 uo
 . rw[Lt p q (Aa _)];have e:∀n,Dg n (λi=>if i<=k then cf p i*cf q (k-i)else 0)*(c*d)=((Yk n (λi=>if i<=k then z i*y (k-i)else 0):Int):Rat):=λn=>by
    induction n with
    |zero=>simp[Dg,Yk,Rat.zero_mul]
    |succ n o=>
     rw[Dg,Yk,FP,<-o];split
     . rw[AB,<-(b n).2,<-(a (k-n)).2];grind
     . rw[show((0:Int):Rat)=0 from rfl];grind
   exact e _
theorem Ln.slope(h:Ln K p)(hl:p.length<=1000000000):Ln (K+1) (Jb p):=by
 obtain⟨c,d,e⟩:=h;refine⟨c,d,λi=>?_⟩;obtain⟨z,a,b⟩:=e (i+1);rw[Xn];by_cases f:i+1<p.length
 . refine⟨z*((i+1:Nat):Int),a.mul (by unfold Sm Y;rw[AK];omega),?_⟩;rw[AB,<-b];grind
 . exact⟨0,Sm.zero _,by rw[Ye O,A2,A2];rfl⟩
theorem Dv.lnN{e:Nat}(b:Jd P=P)(s:P≠[])(hl:P.length<=n+1)(S:(2*n+1)^(n+1)*(2*(2*n)+3)^(n+1)<=Y^e)(T:Ln K P)(r:Jd g=g)(h:Dv g P):Ln (K+e) g:=by
 obtain⟨c,p,o⟩:=F9 b;have v:c≠0:=λf=>by rw[f]at p;exact absurd p DF
 have D:JI P≠[]:=by rw[o];exact KB v b s
 have L:Dv g (JI P):=by rw[o];exact h.sc c
 have x:=KD b T;have y:=eC (n:=n) (M:=Y^K-1) (Yj P) D (by rw[J4 b];omega) (λi=>by
  obtain⟨z,j,k⟩:=x i;unfold Sm at j;exact⟨z,O,k⟩) r L
 have A:EG (K+e) (JI g):=λi=>by
  obtain⟨z,j,k⟩:=y i;refine⟨z,?_,k⟩;unfold Sm;have V:0<Y^K:=CL Gq;have t:0<Y^e:=CL Gq;have a:(Y^K-1)*((2*n+1)^(n+1)*(2*(2*n)+3)^(n+1))<=(Y^K-1)*Y^e:=Aq _ S;rw[<-AH]at a;have l:(Y^K-1)*Y^e<Y^K*Y^e:=(Nat.mul_lt_mul_right t).2 O;rw[CO];exact Ch j (Ch a l)
 obtain⟨m,q,w⟩:=F9 r;have u:m≠0:=λf=>by rw[f]at q;exact absurd q DF
 have a:=A.ln;rw[w]at a;obtain⟨d,N,U⟩:=a;refine⟨m*d,X1 u N,λi=>?_⟩;obtain⟨z,l,B⟩:=U i;exact⟨z,l,by rw[<-B,Yu];grind⟩
theorem L6:(2*24+1)^(24+1)*(2*(2*24)+3)^(24+1)<=Y^5:=by unfold Y;decide
theorem eD:(2*47+1)^(47+1)*(2*(2*47)+3)^(47+1)<=Y^11:=by unfold Y;decide
theorem Dv.len(g:Jd a=a)(i:Jd b=b)(b0:b≠[])(h:Dv a b):a.length<=b.length/\a≠[]:=by
 obtain⟨c,j,e⟩:=h.some i;have f:a≠[]:=λd=>b0 (by rw[e,d];rfl);have c0:c≠[]:=λd=>b0 (by rw[e,d];exact YW _);have l:=JA g j f c0;rw[<-e]at l
 have:0<c.length:=Ae.2 c0
 exact⟨O,f⟩
theorem Ry(d:Jd a=a)(e:Jd b=b)(c:a≠[])(b0:b≠[]):cf (Jr a b) ((Jr a b).length-1)=cf a (a.length-1)*cf b (b.length-1):=by
 have l:=JA d e c b0;have f:0<a.length:=Ae.2 c;have g:0<b.length:=Ae.2 b0;rw[l,show a.length+b.length-1-1=(a.length-1)+(b.length-1)by omega];unfold Jr;rw[Yf];exact MW a b (a.length-1) (b.length-1) O O
theorem X7{R:List Rat}(c:Jd R=R)(hl:1<R.length):(Jb R).length=R.length-1/\cf (Jb R) ((Jb R).length-1)=cf R (R.length-1)*(((R.length-1:Nat):Int):Rat):=by
 have R0:R≠[]:=λe=>by rw[e]at hl;simp at hl
 have d:=Y8 R0;have b:cf (Jb R) (R.length-2)≠0:=by
  rw[Xn,show R.length-2+1=R.length-1 by omega];exact X1 (Js c R0) (by
   intro e
   have:((R.length-1:Nat):Int)=0:=by exact_mod_cast e
   omega)
 have f:=RS b;have a:(Jb R).length=R.length-1:=O
 refine⟨a,?_⟩;rw[a,Xn,show R.length-1-1+1=R.length-1 by omega]
theorem L7(tq:Jd q=q)(q0:q≠[])(a:Jp q=q):cf q (q.length-1)=1:=by
 have:=Lv tq q0;rwa[a]at this
theorem Rz{R w y:List Rat}(tq:Jd q=q)(q0:q≠[])(lq:q.length<=25)(k:Ln K q)(tR:Jd R=R)(P:Jp R=R)(tw:Jd w=w)(mw:Jp w=w)(ty:Jd y=y)(dR:Dv R q)(g:Dv w q)
(L:∀x,ev y x*ev R x=ev w x*ev (Jb R) x):∃D:Int,D≠0/\Sm (2*K+24) D/\D6 D (2*K+24) y:=by
 by_cases a:y=[]
 . subst a;exact Rg O
 . obtain⟨V,R0⟩:=dR.len tR tq q0;obtain⟨X,w0⟩:=g.len tw tq q0;have c:Jr y R=Jr w (Jb R):=Xr (J2 _ _) (J2 _ _) λx=>by rw[Jg,Jg,L]
   have p0:Jr w (Jb R)≠[]:=by rw[<-c];exact Rr ty tR a R0
   have f:Jb R≠[]:=λe=>p0 (by rw[e];exact YW _);have A:1<R.length:=by
    have S:0<(Jb R).length:=Ae.2 f;have:=Y8 R0;omega
   obtain⟨W,N⟩:=X7 tR A;have v:Ln (K+5) R:=dR.lnN (n:=24) tq q0 O L6 k tR;have t:Ln (K+5) w:=g.lnN (n:=24) tq q0 O L6 k tw;have s:=t.mul (v.slope O) O;have U:=JA tw (Jq R) w0 f;have u:Dv y (Jr w (Jb R)):=⟨R,λx=>by rw[<-c,Jg]⟩;have z:=u.lnN (n:=47) (e:=11) (J2 _ _) p0 O eD s ty;have b:=Ry ty tR a R0;have r:=Ry tw (Jq R) w0 f;rw[c]at b;rw[r,N,L7 tw w0 mw,L7 tR R0 P]at b;have p:cf y (y.length-1)=(((R.length-1:Nat):Int):Rat):=by
    rw[Cn,Cn,Rat.mul_one]at b;exact b.symm
   obtain⟨E,l,m,o⟩:=OA ty a z;refine⟨E,l,m.mono O,λi=>?_⟩;have B:cf y i=cf (Jp y) i*(((R.length-1:Nat):Int):Rat):=by
    unfold Jp;rw[Yu,<-p];have T:(1/cf y (y.length-1))*cf y (y.length-1)=1:=Ap (Js ty a);grind
   rw[B];have j:=(o i).mul (E:=1) (M:=1) (d:=(((R.length-1:Nat):Int):Rat)) ⟨((R.length-1:Nat):Int),by rw[CA,show((1:Int):Rat)=1 from rfl];grind,by unfold Sm Y;rw[AK];omega⟩;rw[Int.mul_one]at j;exact j.mono O
def D8(q w y:List Rat):Nat->List Rat
 |0=>q
 |n+1=>Jo (D8 q w y n) (DH w y n).1
theorem GS(h:q≠[]):Dk p q=Jo p q:=BA h
section
variable {q w y:List Rat}
theorem X8(h:Yun q w y)(m:Jp q=q):∀n,Yun (D8 q w y n) (DH w y n).1 (DH w y n).2/\Dv (D8 q w y n) q/\Jp (D8 q w y n)=D8 q w y n/\Dv (DH w y n).1 q:=by
 intro n;induction n with
 |zero=>exact⟨h,Dv.refl _,m,h.dv⟩
 |succ n l=>
  obtain⟨a,g,i,j⟩:=l;obtain⟨_,_,o,p,_,s⟩:=a.step;have c:Jz (DH w y n).1 (JD (DH w y n).2 (Jb (DH w y n).1))≠[]:=Xm a.tw (Yh _ _) (Or.inl a.w0);have e:(DH w y (n+1)).1=Jo (DH w y n).1 (Jz (DH w y n).1 (JD (DH w y n).2 (Jb (DH w y n).1))):=by rw[DH];unfold Gj;exact GS c
  have f:(DH w y (n+1)).2=Jo (JD (DH w y n).2 (Jb (DH w y n).1)) (Jz (DH w y n).1 (JD (DH w y n).2 (Jb (DH w y n).1))):=by rw[DH];unfold Gj;exact GS c
  have k:Dv (Jo (D8 q w y n) (DH w y n).1) (D8 q w y n):=by
   refine⟨(DH w y n).1,λx=>?_⟩;have b:=Bw (λr=>ev r x) p;simp only[Jg]at b;rw[b];exact Ck _ _
  have d:Dv (Jo (DH w y n).1 (Jz (DH w y n).1 (JD (DH w y n).2 (Jb (DH w y n).1)))) (DH w y n).1:=by
   refine⟨Jz (DH w y n).1 (JD (DH w y n).2 (Jb (DH w y n).1)),λx=>?_⟩;have b:=Bw (λr=>ev r x) s;simp only[Jg]at b;exact b.trans (Ck _ _)
  rw[e,f];exact⟨o,k.trans g,(OI a.tR a.R0 i a.tw a.mw a.dv).1,d.trans j⟩
theorem OS(h:Yun q w y)(c:Jp q=q)(n:Nat)(f:1<(DH w y n).1.length):(D8 q w y (n+1)).length<(D8 q w y n).length:=by
 obtain⟨a,_,e,_⟩:=X8 h c n;obtain⟨_,_,b,d,_,_⟩:=a.step;have l:=JA a.tw (YV (D8 q w y n) (DH w y n).1) a.w0 b.R0;rw[<-d]at l;rw[D8]
 have:0<(Jo (D8 q w y n) (DH w y n).1).length:=Ae.2 b.R0
 omega
theorem eE(h:Yun q w y)(f:Jp q=q):∃N,N<=q.length/\(DH w y N).1.length<=1/\∀n,n<N->1<(DH w y n).1.length:=by
 have l:∃N,(DH w y N).1.length<=1:=by
  by_cases b:∃N,(DH w y N).1.length<=1
  . exact b
  . exfalso
    have g:∀n,1<(DH w y n).1.length:=λn=>by
     by_cases i:1<(DH w y n).1.length
     . exact i
     . exact absurd ⟨n,O⟩ b
    have a:∀n,(D8 q w y n).length+n<=q.length:=λn=>by
     induction n with
     |zero=>exact Aa _
     |succ n e=>have:=OS h f n (g n);omega
    have j:=a (q.length+1);omega
 obtain⟨N,k,c⟩:=OK l;have a:∀n,n<=N->(D8 q w y n).length+n<=q.length:=λn=>by
  induction n with
  |zero=>exact λ_=>Aa _
  |succ n e=>
   intro d;have j:=c n O;have:=OS h f n O;have:=e O;omega
 exact⟨N,by have:=a N (Aa _);omega,k,λn d=>by have:=c n d;omega⟩
end
theorem eF{p:List Rat}(tp:Jd p=p)(hl:1<p.length)(af:p.length<=25)(cp:Cd 75 p):∃N,PtOk 174 8926 N p/\N<=25:=by
 obtain⟨q,hq⟩:=ex (Jp p);have tq:Jd q=q:=by rw[<-hq];exact YF _
 have k:Jp q=q:=by rw[<-hq];exact Hr tp
 have lq:q.length=p.length:=by rw[<-hq];exact YY tp
 have q0:q≠[]:=λe=>by rw[e]at lq;simp at lq;omega
 have cq:Cd 75 q:=by rw[<-hq];exact cp.mon tp
 have ah:=Y8 q0;have cs:Cd 76 (Jb q):=by
  obtain⟨D,d1,o,r⟩:=cq;refine⟨D,d1,o.mono O,λi=>?_⟩;rw[Xn];by_cases hi:i+1<q.length
  . have c:=(r (i+1)).mul (E:=1) (M:=1) (d:=(((i+1:Nat):Int):Rat)) ⟨((i+1:Nat):Int),by rw[CA,show((1:Int):Rat)=1 from rfl];grind,by unfold Sm Y;rw[AK];omega⟩;rwa[Int.mul_one]at c
  . rw[Ye O,A2];exact CD.zero _ _
 have K:∀a b:List Rat,Jd a=a->Jd b=b->Cd 174 a->Cd 174 b->a.length<=25->b.length<=25->M3.ChOk 174 a b/\DY 174 a b<=8926:=λa b ta tb ca cb la lb=>by
  have c:DY 174 a b<=(174+1)*(25+25+1):=Aq _ O;have s:(max a.length b.length+2)*(DY 174 a b+1)<=(25+2)*((174+1)*(25+25+1)+1):=CE O O;exact⟨⟨ta,tb,ca,cb,O,O⟩,O⟩
 have v:∀n:Nat,n<=25->2*((n+3)*(8926+1))<=1000000000:=λn V=>by
  have:(n+3)*(8926+1)<=(25+3)*(8926+1):=Aj _ O
  omega
 have P:=Xm tq (Jq q) (Or.inl q0);obtain⟨w,z⟩:=ex (Dk q (Jz q (Jb q)));obtain⟨y,A⟩:=ex (Dk (Jb q) (Jz q (Jb q)));have u:Yun q w y:=by
  rw[<-z,<-A,GS P,GS P];exact Yun.start tq q0 k
 obtain⟨N,hN,ad,ae⟩:=eE u k;refine⟨N,?_,O⟩;have c0:=K q (Jb q) tq (Jq _) (cq.mono O) (cs.mono O) O O;refine⟨tp,cp.mono O,by rw[hq];exact c0.1,by rw[hq];exact c0.2,v _ O,hl,O,?_,by rw[hq,z,A];exact ad⟩;rw[hq,z,A];intro n V;refine⟨ae n V,?_⟩;obtain⟨c,s,T,g⟩:=X8 u k n;obtain⟨s1,s2,f,s4,B,s6⟩:=c.step;obtain⟨k1,W,X,k4⟩:=X8 u k (n+1);obtain⟨a,j⟩:=ex ((DH w y n).1);obtain⟨b,U⟩:=ex ((DH w y n).2);obtain⟨R,t⟩:=ex (D8 q w y n);have Qf:D8 q w y (n+1)=Jo R a:=by rw[D8,t,j]
 rw[Qf]at W X;rw[j,U,t]at c f B;rw[t]at s T;rw[j]at g;rw[j,U];have la:=(g.len c.tw tq q0).1;have l:=cq.ln;have m:Cd 80 a:=by
  have h5:=g.lnN (n:=24) tq q0 O L6 l c.tw;have:=Ly c.tw (h5.mono (L:=80) O) O;rwa[c.mw]at this
 have Qe:=Rz tq q0 O l c.tR T c.tw c.mw c.ty s g c.eq;have cB:Cd 174 b:=(show Cd (2*75+24) b from Qe).mono O;have Qd:=Rz tq q0 O l f.tR X c.tw c.mw (Yh _ _) W g B;have S:Cd 174 (JD b (Jb a)):=(show Cd (2*75+24) (JD b (Jb a))from Qd).mono O;have cS:Cd 81 (Jb a):=by
  obtain⟨D,d1,o,r⟩:=m;refine⟨D,d1,o.mono O,λi=>?_⟩;rw[Xn];by_cases hi:i+1<a.length
  . have h6:=(r (i+1)).mul (E:=1) (M:=1) (d:=(((i+1:Nat):Int):Rat)) ⟨((i+1:Nat):Int),by rw[CA,show((1:Int):Rat)=1 from rfl];grind,by unfold Sm Y;rw[AK];omega⟩;rwa[Int.mul_one]at h6
  . rw[Ye O,A2];exact CD.zero _ _
 have lZ:(JD b (Jb a)).length<=25:=by
  by_cases z0:JD b (Jb a)=[]
  . rw[z0];simp
  . have e1:Jr (JD b (Jb a)) (Jo R a)=Jr a (Jb (Jo R a)):=Xr (J2 _ _) (J2 _ _) λx=>by rw[Jg,Jg,B]
    have l1:=JA (Yh b (Jb a)) f.tR z0 f.R0;have l2:=bJ a (Jb (Jo R a));have l3:=Y8 f.R0;rw[e1]at l1
    have:0<(Jo R a).length:=Ae.2 f.R0
    omega
 have c1:=K a (JD b (Jb a)) c.tw (Yh _ _) (m.mono O) S O lZ;exact⟨c1.1,c.ty,m.mono O,cS.mono O,cB.mono O,S.mono O,c1.2,v _ O,v _ lZ⟩

