import Derived.Test.YtdmmbgahnkbnaaaGreatDoorV41
set_option linter.all false
open Go.Value renaming slice->C
open Go.Obj renaming cells->D
open Go renaming Value->E,World->F
set_option maxRecDepth 99999
set_option maxHeartbeats 0
namespace Go.Proofs.YtdmmbgahnkbnaaaGreatDoor
open Go.RowKit Go.Shelf
namespace M3
attribute [local go_sem] Oper.semAt_some
def sK(v:E)(p:List Rat)(w:F)(h:Je w v p)(hl:p.length<=1):
 Calls Tryz.prog 50 #[v] w λe w'=>e=.returned (C none 0 0)/\Bl w w':=by
 have f:(p.length:Int)-1<1:=O
 obtain⟨d0,a⟩:=ex ((p.length:Int)-1:Int);rw[a]at f;have j:=Z a;have g:=Z λ(V:F) (x:E) (r:List Rat) (k:Je V x r)=>Yv x r V k;obtain⟨o,la,q,rfl⟩:=h.form;obtain⟨W0,d,c⟩:=I7 25 (.poly p) h;clear h a hl;go_enter Tryz.func50,Tryz.ntmps50
 go_upto_region 1 with fail
 rw[d.o];obtain⟨m,l1,c1,l,r1⟩:=c.o.poly2 (i:=0) rfl;have n:=l.cell;have b:=Z (g.o W0 _ p r1);rw[j.o]at b;go_wp2_with(go_at_call 26;refine b.o.mono ?_;rintro e w1 ⟨rfl,hq⟩)
 go_ret;exact⟨rfl,(c.o.below hq).2.2⟩
end M3
namespace M3
variable{e:List Rat}{i t:Nat}
theorem sL{M n:Nat}(hM:M<=80000)(hn:n<=25){W:List Rat}(f:Jc W=W)(W0:W≠[])(H:W.length<=n)(p:Cd M W):∃L:List (List Rat × Nat),L.length<=25/\
 (∀x∈L,1<x.1.length/\x.1.length<=n/\1<=x.2/\x.2+1<=W.length/\DR x.1 (Jb x.1)/\Jc x.1=x.1/\Jr x.1=x.1/\Cd (M+5) x.1)/\
 L.Pairwise (λa b=>a.2<b.2/\DR a.1 b.1)/\(∀x,ev (Jr W) x=Dp L x)/\
 ∀(V:F) (x:E),Je V x W->Calls Tryz.prog 50 #[x] V λe w'=>∃u,e=.returned u/\EP true V.heap.size w' u L/\Bl V w':=by
 have c:Jr (Jr W)=Jr W:=KJ f;have lq:(Jr W).length=W.length:=XY f;have q0:=Kt f W0;have tq:=Yo W;have cq:Cd M (Jr W):=p.mon f;by_cases hl:1<W.length
 . obtain⟨N,l,t⟩:=W4 hM rfl rfl f hl O p;have i:=Yun.start tq q0 c;have g:=Yd tq (Ju (Jr W)) (Or.inl q0);have j:=l.st;have k:=l.en;refine⟨Kv W N,?_,?_,?_,?_,λV x d=>Wt _ _ N x W V d l⟩
   . grind[Wq,Kv]
   all_goals
    unfold Kv;rw[Im g,Im g]at j k;rw[Im g,Im g]
   . have w:=ZB i c (λm o=>(j m o).1) k;intro x d;obtain⟨y,z,A,B,r,G,s,_⟩:=(Y2 i c N).1 x d;have v:=(s.len r tq q0).1;grind[pF]
   . exact(Y2 i c N).2
   . exact(ZB i c (λm o=>(j m o).1) k).2
 . refine⟨[],DI,DI,DI,λx=>?_,λV x d=>(sK x W V d O).mono ?_⟩
   . rw[ZA tq c q0 O];simp[ev,Dp];grind
   . rintro e w' ⟨rfl,q⟩;exact⟨_,rfl,EP.nil _ _ _,q⟩
theorem sM{L:List (List Rat × Nat)}(h:L[i]?=some (e,t))(x:Rat):Dp (L.take (i+1)) x=Dp (L.take i) x*ev e x^t:=by
 grind[List.take_add_one,OS,Dp]
def sN{L:List (List Rat × Nat)}(h:L[i]?=some (e,t))(x:Rat):Dp L x=Dp (L.take i) x*ev e x^t*Dp (L.drop (i+1)) x:=by
 rw[<-sM h,<-OS,AW]
theorem sO:∀L:List (List Rat × Nat),∃c:List Rat,∀x,ev c x=Dp L x:=by
 have hp:∀(e:List Rat) (n:Nat),∃c:List Rat,∀x,ev c x=ev e x^n:=λe n=>by
  induction n with
  |zero=>exact⟨[1],λx=>by simp[ev];grind⟩
  |succ n f=>
   obtain⟨c,b⟩:=f;exact⟨Ji c e,λx=>by rw[Jd,b,Rat.pow_succ]⟩
 intro L;induction L with
 |nil=>exact⟨[1],λx=>by simp[ev,Dp];grind⟩
 |cons a L f=>
  obtain⟨c,b⟩:=f;obtain⟨d,g⟩:=hp a.1 a.2;exact⟨Ji d c,λx=>by rw[Jd,g,b];rfl⟩
end M3
def aD(r:Bool)(base:Nat)(W:F)(g cap:Nat)(f:Nat->Int)(L:List (List Rat × Nat)):Prop:=
 base<=g/\(∃cs,W.heap[g]?=some (D cs (EG r) (0,0)))/\L.length<=cap/\cap<=maxLen/\
  ∀j p t,L[j]?=some (p,t)->∃x,W.cell? ⟨g,j*2,none⟩=some x/\W.cell? ⟨g,j*2+1,none⟩=some (.int .i64 (f j))/\RowK r W x p
def tms(L:List (List Rat × Nat))(j:Nat):Int:=match L[j]? with|some x=>(x.2:Int)|none=>0
section
variable {r:Bool} {base:Nat} {W W':World} {v:Value} {g cap:Nat} {f:Nat->Int} {L:List (List Rat × Nat)}
theorem aD.lt(h:aD r base W g cap f L):g<W.heap.size:=by
 obtain⟨_,⟨cs,a⟩,_⟩:=h;grind
end
section
variable {p:List Rat} (tp:Jc p=p) (p0:p≠[])
end
section
def EF(f:Nat->Rat):Nat->List Rat
 |0=>[1]
 |k+1=>Ji (EF f k) [0-f k,1]
def Lg(f:Nat->Rat):Nat->List Rat
 |0=>[]
 |k+1=>if f k∈Lg f k then Lg f k else Lg f k++[f k]
variable{c:Int}
theorem aE(f:Nat->Rat)(k:Nat):Made (EF f k) (Lg f k):=by
 induction k with
 |zero=>exact Made.one
 |succ k a=>
  rw[EF,Lg,show(0:Rat)-f k=-(f k)by grind];by_cases h:f k∈Lg f k
  . rw[BF h];exact a.old h
  . rw[BE h];exact a.new h
def Ol(a:-9223372036854775808<=c)(b:c<=9223372036854775807):Sm 1 c:=by
 show c.natAbs<Y^1;rw[Nat.pow_one];unfold Y;omega
theorem SA{k:Nat}{x:Rat}(c:DQ k x):Cd k [0-x,1]:=by
 have a:DQ k (0-x):=by
  rw[show 0-x=-x by grind];exact c.neg
 have b:((0-x).den:Int)≠0:=by have:=(0-x).den_nz;omega
 refine⟨((0-x).den:Int),b,a.2,λi=>?_⟩;match i with
 |0=>exact CD.of a
 |1=>exact⟨(0-x).den,by rw[Rat.divInt_self' b];rfl,a.2⟩
 |i+2=>exact CD.zero _ _
def SB(h:Sm 1 c):Cd 1 [Rat.divInt c 1,0,1]:=by
 refine⟨1,DK,Sm.one 1 O,λi=>?_⟩;match i with
 |0=>exact⟨c,rfl,h⟩
 |1=>exact CD.zero _ _
 |2=>exact⟨1,by show(1:Rat)=_;decide +kernel,Sm.one 1 O⟩
 |i+3=>exact CD.zero _ _
def aF(x:Rat):Jc [0-x,1]=[0-x,1]:=XA (Or.inr (by show(1:Rat)≠0;decide))
def sP:Cd (1+0*2010) [1]:=by
 refine⟨1,DK,Sm.one _ O,λi=>?_⟩;match i with
 |0=>exact⟨1,EM,Sm.one _ O⟩
 |i+1=>exact⟨0,by show(0:Rat)=_;decide +kernel,Sm.zero _⟩
def K8{f:Nat->Rat}(e:∀j,DQ 2000 (f j))(k:Nat)(hk:k<=7):Cd (1+k*2010) (EF f k)/\(EF f k).length=k+1:=by
 induction k with
 |zero=>exact⟨sP,rfl⟩
 |succ k g=>
  obtain⟨c,d⟩:=g O;have a:=c.mul (SA (e k));have b:=JB (aE f k).tp (aF (f k)) (aE f k).p0 DI;rw[d]at a b;refine⟨a.mono O,?_⟩;rw[EF,b];simp
def sQ{f:Nat->Rat}(a:∀j,DQ 2000 (f j))(k:Nat)(hk:k<7):M3.KC (EF f k) [0-f k,1]/\Sqs (EF f k)/\Sqs [0-f k,1]:=by
 obtain⟨b,c⟩:=K8 a k O;exact⟨b.times (SA (a k)) O,b.sqs O,(SA (a k)).sqs O⟩
def sR{f:Nat->Rat}(d:∀j,DQ 2000 (f j))(k:Nat)(hk:k<=7)(b:Sm 1 c):M3.KC (EF f k) [Rat.divInt c 1,0,1]/\Sqs (EF f k)/\Sqs [Rat.divInt c 1,0,1]:=by
 obtain⟨a,e⟩:=K8 d k hk;exact⟨a.times (SB b) O,a.sqs O,(SB b).sqs O⟩
end
namespace M3
variable{P R:List Rat}{B1 B2 B3 H:Nat}{a b n q:Rat}{m u x y z:E}{V w:F}
theorem sS(base:Nat)(W:F)(v:E)(qs:List Rat)(h:ET true base W v qs)(hq:ED true W (.agg #[x,y,z,u]) q)(hl:qs.length+1<=1099511627776){w':F}
(n:(Builtin.append_ #[Ew true,Ew true] (Ew true) #[v,C (some ⟨W.heap.size,0,none⟩) 1 1]).run Tryz.prog (W.alloc (D #[x,y,z,u] (Dn true)))=.ok m w'):
 (∀B,B<W.heap.size->(∀p l c,v=C (some p) l c->p.block≠B)->w'.heap[B]?=W.heap[B]?)/\∀p l c,m=C (some p) l c->(∃H l' c',v=C (some H) l' c'/\H.block=p.block)\/W.heap.size<=p.block:=by
 obtain⟨i,hi,G,d,A⟩:=VQ true;have s:=VP true;have b:Bl W (W.alloc (D #[x,y,z,u] (Dn true))):=Ba W _;obtain⟨a,w⟩:=ex (W.alloc (D #[x,y,z,u] (Dn true)));have ae:a.heap[W.heap.size]?=some (D #[x,y,z,u] (Dn true) (0,0)):=by rw[<-w];exact BD W _
 rw[w]at b n;have f:∀j c,[x,y,z,u][j]?=some c->a.cell? ((⟨W.heap.size,0,none⟩:Addr).add j)=some c:=λj c N=>by
  grind[Yk,cell_of]
 have fin:∀o B,B<W.heap.size->(a.drew.alloc o).heap[B]?=W.heap[B]?:=λo B k=>by
  have L:Bl W (a.drew.alloc o):=(b.drew).alloc (by exact b.size) _;exact L.block B k
 rcases h with⟨rfl,rfl⟩|⟨g,cap,cur,rfl,T,t,U,V,X,h7,h8⟩
 . have r:=run_append_nil (P:=Tryz.prog) a (Ew true) (Ew true) (Dn true) i _ s hi G ⟨W.heap.size,0,none⟩ 1 1 [x,y,z,u] (by rw[d];rfl) f O O (by rw[A];omega);grind
 . have M:a.heap[g]?=some (D cur (Dn true) (0,0)):=(b.block g (Ab.1 t).1).trans t;have I:(cur.toList.take (qs.length*4)).length=qs.length*4:=by rw[Ap];have S:cur.toList.length=cur.size:=Fi;omega
   by_cases R:qs.length+1<=cap
   . have r:=run_append_room (P:=Tryz.prog) a (Ew true) (Ew true) (Dn true) i s hi g qs.length cap cur M ⟨W.heap.size,0,none⟩ 1 1 [x,y,z,u] (by rw[d];rfl) f hq.one R (by rw[d];simp;omega);rw[r]at n;cases n;refine⟨λB k hn=>?_,λp l c e=>Or.inl ?_⟩
     . have K:B≠g:=λe=>hn _ _ _ rfl e.symm;exact(setRow_other a g B _ K).trans (b.block B k)
     grind
   . have Q:∀j c,(cur.toList.take (qs.length*4))[j]?=some c->a.cell? ((⟨g,0,none⟩:Addr).add j)=some c:=λj c N=>by
      grind[Yk,cell_of]
     have r:=run_append_grow (P:=Tryz.prog) a (Ew true) (Ew true) (Dn true) i _ s hi G ⟨g,0,none⟩ qs.length cap (cur.toList.take (qs.length*4)) (by rw[d];exact I) Q ⟨W.heap.size,0,none⟩ 1 1 [x,y,z,u] (by rw[d];rfl) f O O (by rw[A];exact growslice_fits O O);grind
def SC{v:E}(b:ET true H V v R){B:Nat}{a:Option Addr}{l c:Nat}(q:Boxed V B 25 (C a l c))(o:B<H)(x:E):ET true H (V.setCell ⟨B,0,none⟩ x) v R:=by
 rcases b with h|⟨g,cap,cur,d,e,f,i,j,k,m,n⟩
 . exact Or.inl h
 . exact Or.inr ⟨g,cap,cur,d,e,(BC V ⟨B,0,none⟩ x g (by show g≠B;omega)).trans f,i,j,k,m,n.keep (P9 q rfl x)⟩
theorem aG{W:F}{v:E}{qs:List Rat}(h:ET true H W v qs):∀p l c,v=C (some p) l c->p.block<W.heap.size:=by
 rcases h with⟨rfl,_⟩|⟨g,cap,cur,rfl,a,b,_⟩
 . intro p l c e;cases e
 . intro p l c e;grind
def SF{rv:E}{I:Rat}(M:DJ w V [some (B1,.poly P),some (B2,.rat n),some (B3,.rat I)])(G:ET true H V rv R)(N:H<=V.heap.size)(X:w.heap.size<=H)(t:B1<H/\B2<H/\B3<H)
(U:∀p l c m l' c',rv=C (some p) l c->V.cell? ⟨B1,0,none⟩=some (C (some m) l' c')->p.block≠m.block)(hq:Jf V (.agg #[x,y,z,u]) q)(hl:R.length+1<=1099511627776):
 ∃o w',(Builtin.append_ #[22,22] 22 #[rv,C (some ⟨V.heap.size,0,none⟩) 1 1]).run Tryz.prog (V.alloc (D #[x,y,z,u] 41))=.ok o w'/\ET true H w' o (R++[q])/\DJ w w' [some (B1,.poly P),some (B2,.rat n),some (B3,.rat I)]/\H<=w'.heap.size/\
  (∀p l c,o=C (some p) l c->(∃m l' c',rv=C (some m) l' c'/\m.block=p.block)\/V.heap.size<=p.block)/\(∀B,B<V.heap.size->(∀p l c,rv=C (some p) l c->p.block≠B)->w'.heap[B]?=V.heap[B]?)/\∀k v ds,Row k V v ds->Row k w' v ds:=by
 obtain⟨o,w',e,T,r,L⟩:=kH true H V rv R G hq hl N;have s:=L H V (Aa _) (BB H V);have far:=sS H V rv R G hq hl e;refine⟨o,w',e,T,⟨λi B d hi=>?_,M.2.1,L _ _ X M.2.2⟩,Ac N s.size,far.2,far.1,r⟩;match i,hi with
 |0,hi=>
  obtain⟨⟨cs,f,g⟩,j⟩:=M.1 0 B1 _ rfl;simp only[A2,AR,Fg]at hi;obtain⟨rfl,rfl⟩:=hi;refine⟨⟨cs,(s.block B1 t.1).trans f,?_⟩,j⟩;obtain⟨u9,K,W⟩:=(show Je V (.agg cs) P from g);refine(show Je w' (.agg cs) P from⟨u9,K,?_⟩);obtain⟨a,cap,rfl,k1,k2,k3,A⟩:=W;refine⟨a,cap,rfl,k1,k2,k3,?_⟩;rcases A with A|⟨b,rfl,Q⟩
  . exact Or.inl A
  . refine Or.inr ⟨b,rfl,Q.keep (far.1 b Q.lt λp l c S=>?_) r⟩;exact U p l c ⟨b,0,none⟩ P.length cap S (cell_of f (by cases K;rfl))
 |1,hi=>
  obtain⟨⟨cs,f,g⟩,j⟩:=M.1 1 B2 _ rfl;simp only[A2,AZ,AR,Fg]at hi;obtain⟨rfl,rfl⟩:=hi;exact⟨⟨cs,(s.block B2 t.2.1).trans f,g.keep r (Or.inl rfl)⟩,j⟩
 |2,hi=>
  obtain⟨⟨cs,f,g⟩,j⟩:=M.1 2 B3 _ rfl;simp only[A2,AZ,AR,Fg]at hi;obtain⟨rfl,rfl⟩:=hi;exact⟨⟨cs,(s.block B3 t.2.2).trans f,g.keep r (Or.inl rfl)⟩,j⟩
 |i+3,hi=>simp at hi
theorem sT{N:Nat}{rv:E}{a:Rat}(M:DJ w V [some (B1,.poly P),some (B2,.rat n),some (B3,.rat a)])(d:ET true H V rv R)(f:H<=V.heap.size)(g:w.heap.size<=H)(e:B1<H/\B2<H/\B3<H)
(o:∀p l c,rv=C (some p) l c->p.block<N)(r:∀p l c,V.cell? ⟨B1,0,none⟩=some (C (some p) l c)->N<=p.block)(hq:Jf V (.agg #[x,y,z,u]) q)(hl:R.length+1<=1099511627776):
 ∃b w',(Builtin.append_ #[22,22] 22 #[rv,C (some ⟨V.heap.size,0,none⟩) 1 1]).run Tryz.prog (V.alloc (D #[x,y,z,u] 41))=.ok b w'/\ET true H w' b (R++[q])/\DJ w w' [some (B1,.poly P),some (B2,.rat n),some (B3,.rat a)]/\H<=w'.heap.size:=by
 obtain⟨b,w',i,j,k,m,_⟩:=SF M d f g e (λp l c s l' c' n a=>by grind) hq hl;grind
def sU{e f d x2 y2 g u2:E}{c:Rat}(k:Jf V (.agg #[x,y,z,u]) a)(l:Jf V (.agg #[m,e,f,d]) b)(n:Jf V (.agg #[x2,y2,g,u2]) c):RowK true (V.alloc (D #[x,y,z,u,m,e,f,d,x2,y2,g,u2] 41)) (C (some ⟨V.heap.size,0,none⟩) 3 3) [a,b,c]:=by
 have i:Bl V (V.alloc (D #[x,y,z,u,m,e,f,d,x2,y2,g,u2] 41)):=Ba V _;refine⟨_,3,rfl,Aa _,O,DI,Or.inr ⟨V.heap.size,rfl,_,BD V _,λj o=>?_⟩⟩;have p:j<3:=o;rcases j with _|_|_|j
 . exact⟨x,y,z,u,rfl,rfl,rfl,rfl,k.below i⟩
 . exact⟨m,e,f,d,rfl,rfl,rfl,rfl,l.below i⟩
 . exact⟨x2,y2,g,u2,rfl,rfl,rfl,rfl,n.below i⟩
 . omega
def sV{d e c:E}(g:Jf V (.agg #[x,y,z,u]) a)(i:Jf V (.agg #[m,d,e,c]) b):RowK true (V.alloc (D #[x,y,z,u,m,d,e,c] 41)) (C (some ⟨V.heap.size,0,none⟩) 2 2) [a,b]:=by
 have f:Bl V (V.alloc (D #[x,y,z,u,m,d,e,c] 41)):=Ba V _;refine⟨_,2,rfl,Aa _,O,DI,Or.inr ⟨V.heap.size,rfl,_,BD V _,λj k=>?_⟩⟩;have l:j<2:=k;rcases j with _|_|j
 . exact⟨x,y,z,u,rfl,rfl,rfl,rfl,g.below f⟩
 . exact⟨m,d,e,c,rfl,rfl,rfl,rfl,i.below f⟩
 . omega
end M3
open M3
def Hw(s:List UInt8 × Bool)(c:UInt8):List UInt8 × Bool:=if c=46\/(s.2=true/\c=48)then s else(s.1++[c],s.2&&decide (c=45))
def aH(l:List UInt8):List UInt8 × Bool:=l.foldl Hw ([],true)
variable{a b:Int}{m:Nat}
theorem sW(l:List UInt8):∀s,l.foldl Hw s=(l.filter (· != 46)).foldl Hw s:=by
 induction l with
 |nil=>intro s;rfl
 |cons c l a=>
  intro s;grind[Hw]
theorem aI(j:Nat)(p:List UInt8):(List.replicate j 48).foldl Hw (p,true)=(p,true):=by
 induction j with
 |zero=>rfl
 |succ j a=>grind[Hw]
theorem sX(l:List UInt8):∀p,(∀c∈l,c≠46)->l.foldl Hw (p,false)=(p++l,false):=by
 induction l with
 |nil=>intro p _;rw[CC];rfl
 |cons c l a=>
  intro p h;grind[Hw]
theorem sY{n:Nat}(hn:n≠0)(p:List UInt8):(YY n).foldl Hw (p,true)=(p++YY n,false):=by
 obtain⟨c,t,f,g,i,a,_⟩:=KX hn;have j:∀d∈c::t,d≠46:=λd b e=>by
  have:=Y5 (AJ.1 a d b);rw[e]at this;simp at this
 grind[Hw,sX]
theorem sZ(z:Int)(k:Nat):(aH (XS z k)).1=if z=0 then []else El z:=by
 unfold aH;rw[sW,nC];by_cases a:z=0
 . subst a;rw[BE O,BF rfl];unfold EU;rw[List.foldl_append,aI,show YY (0:Int).natAbs=[48]by decide];rfl
 . have hn:z.natAbs≠0:=O
   grind[EU,El,Hw,aI,sY]
theorem se(z:Int):El z≠[]:=by
 grind[nD,El]
theorem sf{a b:Nat}(h:YY a=YY b):a=b:=by
 by_cases g:a=0
 . by_cases d:b=0
   . omega
   . obtain⟨c,t,e,f,_⟩:=KX d;grind[YY]
 . obtain⟨c,t,e,f,_,_,i⟩:=KX g;by_cases d:b=0
   . grind[YY]
   . obtain⟨c',l,j,_,_,_,k⟩:=KX d;grind
theorem sj(h:El a=El b):a=b:=by
 grind[Vu,El,sf]
theorem sk{k:Nat}(h:XS a k=XS b k):a=b:=by
 grind[sZ,se,sj]
def GY(m:Nat)(q:Rat):Int:=q.num*10^m/(q.den:Int)
theorem Om(m:Nat)(q:Rat):Rat.divInt (GY m q) (10^m)<=q:=WC.1 (my q (10^m) (MU m))
def On(m:Nat)(q:Rat):q<Rat.divInt (GY m q+1) (10^m):=WD.1 (mz q (10^m) (MU m))
theorem aJ(h:a<=b):Rat.divInt a (10^m)<=Rat.divInt b (10^m):=by
 have hp:(0:Rat)<((10^m:Int):Rat):=Rat.intCast_pos.2 (MU m);have c:((10^m:Int):Rat)≠0:=λe=>by grind
 rw[AD,AD,<-Rat.not_lt,Rat.lt_div_iff hp,Aj c,Rat.not_lt];exact_mod_cast h
theorem so{a b:Rat}(f:a<=b)(h:∀M:Int,a<Rat.divInt M (10^m)->¬Rat.divInt M (10^m)<=b):GY m a=GY m b:=by
 have l1:=Om m a;have d:=On m a;have l2:=Om m b;have e:=On m b;refine Int.le_antisymm (Int.not_lt.1 λc=>?_) (Int.not_lt.1 λc=>?_)
 . have:=aJ (m:=m) (show GY m b+1<=GY m a by omega);grind
 . have:=aJ (m:=m) (show GY m a+1<=GY m b by omega);grind

