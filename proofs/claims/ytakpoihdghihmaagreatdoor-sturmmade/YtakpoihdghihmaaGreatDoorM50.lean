import Derived.Test.YtakpoihdghihmaaGreatDoorM49
open Go.Value renaming slice->C
set_option maxRecDepth 100000
set_option maxHeartbeats 16000000
namespace Go.Proofs.YtakpoihdghihmaaGreatDoor
section
open Go.RowKit Go.Shelf
theorem Cd.mul{M N:Nat}{p q:List Rat}(h:Cd M p)(g:Cd N q):Cd (M+N+p.length) (Jm p q):=by
 obtain⟨D,d1,b,c⟩:=h;obtain⟨E,d,e,f⟩:=g;have a:D*E≠0:=CN d1 d;exact⟨D*E,a,(b.mul e).mono Y,λi=>ZB a (λi j=>(c i).mul (f j)) i⟩
variable{p:List Rat}{M:Nat}
theorem Cd.times{N:Nat}{q:List Rat}(h:Cd M p)(f:Cd N q)(hl:M+N+p.length+1<=1000000000):M3.H7 p q:=by
 obtain⟨D,d1,a,b⟩:=h;obtain⟨E,c,d,e⟩:=f;exact ZA (CN d1 c) ((a.mul d).mono Y) (λi j=>(b i).mul (e j)) hl
theorem Cd.slope(h:Cd M p)(hl:p.length<=1000000000):Cd (M+1) (Jc p):=by
 obtain⟨D,d1,a,b⟩:=h;refine⟨D,d1,a.mono Y,λi=>?_⟩;rw[Mx];by_cases e:i+1<p.length
 . have c:=(b (i+1)).mul (E:=1) (M:=1) (d:=(((i+1:Nat):Int):Rat)) ⟨((i+1:Nat):Int),by rw[CL,show((1:Int):Rat)=1 from rfl];grind,by unfold Sm O;rw[Ch];omega⟩;rwa[Int.mul_one]at c
 . rw[Yt Y,CG];exact CD.zero _ _
namespace M3
theorem ChOk.of{K:Nat}{p q:List Rat}(tp:Jd p=p)(tq:Jd q=q)(cp:Cd K p)(cq:Cd K q){n:Nat}(lp:p.length<=n)(lq:q.length<=n)(hle:4*((n+2)*((K+1)*(n+n+1)+1))<=1000000000)(c:n<=1000):ChOk K p q:=by
 refine⟨tp,tq,cp,cq,?_,Y⟩;have a:DV K p q<=(K+1)*(n+n+1):=As _ Y;have b:(max p.length q.length+2)*(DV K p q+1)<=(n+2)*((K+1)*(n+n+1)+1):=CW Y Y;omega
attribute [local go_sem] Oper.semAt_some
end M3
end
section
open Go.RowKit Go.Shelf
theorem bY(x:List Rat):(Jc x).length<=x.length:=An (Xy _) (by simp[Ge])
theorem bZ{K n:Nat}{p:List Rat}(tp:Jd p=p)(cp:Cd K p)(lp:p.length<=n)(b:4*((n+2)*((K+1+1)*(n+n+1)+1))<=1000000000)(c:n<=1000){X:Nat}(g:n*((K+1+1)*(n+n+1)+n*((K+1+1)*(n+n+1)+1)+1+X+1)+1+X<=1000000000):CtOk (K+1) X p:=by
 have sl:=bY p;refine⟨M3.ChOk.of tp (J4 _) (cp.mono Y) (cp.slope Y) (n:=n) lp Y b c,?_⟩;have d:DV (K+1) p (Jc p)<=(K+1+1)*(n+n+1):=As _ Y;have a:max p.length (Jc p).length<=n:=Y
 have e:max p.length (Jc p).length*(DV (K+1) p (Jc p)+1)<=n*((K+1+1)*(n+n+1)+1):=CW a Y;have f:max p.length (Jc p).length*(DV (K+1) p (Jc p)+max p.length (Jc p).length*(DV (K+1) p (Jc p)+1)+1+X+1)<=n*((K+1+1)*(n+n+1)+n*((K+1+1)*(n+n+1)+1)+1+X+1):=CW a Y;omega
namespace M3
attribute [local go_sem] Oper.semAt_some
end M3
end
section
def EB(f:Nat->Rat):Nat->List Rat
 |0=>[1]
 |k+1=>Jm (EB f k) [0-f k,1]
def D4(f:Nat->Rat):Nat->List Rat
 |0=>[]
 |k+1=>if f k∈D4 f k then D4 f k else D4 f k++[f k]
variable{c:Int}{R:List Rat}{k:Nat}{f:Nat->Rat}
theorem QV(f:Nat->Rat)(k:Nat):(D4 f k).length<=k:=by
 induction k with
 |zero=>exact Aa _
 |succ k a=>
  rw[D4];split
  . omega
  . rw[Ao,List.length_singleton];omega
theorem QW(f:Nat->Rat)(k:Nat):∀x∈D4 f k,∃j,x=f j:=by
 induction k with
 |zero=>intro x a;cases a
 |succ k b=>
  intro x a;rw[D4]at a;split at a
  . exact b x a
  . rcases Cy.1 a with h|h
    . exact b x h
    . exact⟨k,List.mem_singleton.1 h⟩
theorem IM(f:Nat->Rat)(k:Nat):Made (EB f k) (D4 f k):=by
 induction k with
 |zero=>exact Made.one
 |succ k a=>
  rw[EB,D4,show(0:Rat)-f k=-(f k)by grind];by_cases h:f k∈D4 f k
  . rw[BE h];exact a.old h
  . rw[BC h];exact a.new h
def GX(f:Nat->Rat)(k:Nat)(c:Int):List Rat:=if 0<c then Jm (EB f k) [Rat.divInt c 1,0,1]else EB f k
theorem QX(f:Nat->Rat)(k:Nat)(c:Int):Made (GX f k c) (D4 f k):=by
 unfold GX;split
 . rename_i h;refine(IM f k).quad ?_;obtain⟨m,rfl⟩:=Int.eq_ofNat_of_zero_le (Int.le_of_lt h);rw[PT];exact_mod_cast h
 . exact IM f k
theorem bp(a:-9223372036854775808<=c)(b:c<=9223372036854775807):Sm 1 c:=by
 show c.natAbs<O^1;rw[Nat.pow_one];unfold O;omega
theorem NM{x:Rat}(c:DM k x):Cd k [0-x,1]:=by
 have a:DM k (0-x):=by
  rw[show 0-x=-x by grind];exact c.neg
 have b:((0-x).den:Int)≠0:=by have:=(0-x).den_nz;omega
 refine⟨((0-x).den:Int),b,a.2,λi=>?_⟩;match i with
 |0=>exact CD.of a
 |1=>exact⟨(0-x).den,by rw[Rat.divInt_self' b];rfl,a.2⟩
 |i+2=>exact CD.zero _ _
theorem NN(h:Sm 1 c):Cd 1 [Rat.divInt c 1,0,1]:=by
 refine⟨1,DB,Sm.one 1 Y,λi=>?_⟩;match i with
 |0=>exact⟨c,rfl,h⟩
 |1=>exact CD.zero _ _
 |2=>exact⟨1,by show(1:Rat)=_;decide +kernel,Sm.one 1 Y⟩
 |i+3=>exact CD.zero _ _
theorem QZ(x:Rat):Jd [0-x,1]=[0-x,1]:=Xz (Or.inr (by show(1:Rat)≠0;decide))
theorem br:Cd (1+0*2010) [1]:=by
 refine⟨1,DB,Sm.one _ Y,λi=>?_⟩;match i with
 |0=>exact⟨1,dk,Sm.one _ Y⟩
 |i+1=>exact⟨0,by show(0:Rat)=_;decide +kernel,Sm.zero _⟩
theorem KB(e:∀j,DM 2000 (f j))(k:Nat)(i:k<=7):Cd (1+k*2010) (EB f k)/\(EB f k).length=k+1:=by
 induction k with
 |zero=>exact⟨br,rfl⟩
 |succ k g=>
  obtain⟨c,d⟩:=g Y;have a:=c.mul (NM (e k));have b:=JE (IM f k).tp (QZ (f k)) (IM f k).p0 Z;rw[d]at a b;refine⟨a.mono Y,?_⟩;rw[EB,b];simp
theorem bv(a:∀j,DM 2000 (f j))(k:Nat)(d:k<7):M3.H7 (EB f k) [0-f k,1]/\Sqs (EB f k)/\Sqs [0-f k,1]:=by
 obtain⟨b,c⟩:=KB a k Y;exact⟨b.times (NM (a k)) Y,b.sqs Y,(NM (a k)).sqs Y⟩
theorem bw(d:∀j,DM 2000 (f j))(k:Nat)(e:k<=7)(b:Sm 1 c):M3.H7 (EB f k) [Rat.divInt c 1,0,1]/\Sqs (EB f k)/\Sqs [Rat.divInt c 1,0,1]:=by
 obtain⟨a,g⟩:=KB d k e;exact⟨a.times (NN b) Y,a.sqs Y,(NN b).sqs Y⟩
theorem cA(i:∀j,DM 2000 (f j))(k:Nat)(l:k<=7)(g:Sm 1 c):CtOk 14101 2000 (GX f k c):=by
 obtain⟨a,e⟩:=KB i k l;have b:Cd 14100 (GX f k c)/\(GX f k c).length<=10:=by
  unfold GX;split
  . have d:=JE (IM f k).tp (LI (Rat.divInt c 1)).1 (IM f k).p0 Z;rw[e]at d;refine⟨(a.mul (NN g)).mono Y,?_⟩;rw[d];simp only[Ah,Au];omega
  . exact⟨a.mono Y,Y⟩
 exact bZ (QX f k c).tp b.1 b.2 DB Y DB
theorem cB(a:k<R.length)(x:Rat):decide (x∈R.take (k+1))=(decide (x∈R.take k) || decide (cf R k=x)):=by
 rw[List.take_add_one,Al a];simp only[Option.toList_some,Cy,List.mem_singleton,cf,Al a,CQ];rw[Bool.decide_or];congr 1;exact Bk.2 eq_comm
def Ez(R:List Rat)(x:Rat)(k:Nat):Nat:=((R.take k).filter λr=>decide (r<=x)).length
theorem Q3(R:List Rat)(x:Rat)(k:Nat):Ez R x k<=k:=An (List.length_filter_le ..) (List.length_take_le ..)
theorem Q4(a:k<R.length)(x:Rat):Ez R x (k+1)=if cf R k<=x then Ez R x k+1 else Ez R x k:=by
 unfold Ez;rw[List.take_add_one,Al a,List.filter_append,Ao];simp only[Option.toList_some,cf,Al a,CQ];by_cases h:R[k]<=x
 . rw[BE h];simp[h]
 . rw[BC h];simp[h]
end
namespace M3
open Go.RowKit Go.Shelf
variable{R qs:List Rat}{H c n:Nat}{a:Option Addr}{b q:Rat}{f u v x y z:Value}{V W:World}
theorem cC(base:Nat)(W:World)(v:Value)(qs:List Rat)(h:D6 true base W v qs)(hq:Dp true W (.agg #[x,y,z,u]) q)(hl:qs.length+1<=1099511627776){K:World}
(k:(Builtin.append_ #[EK true,EK true] (EK true) #[v,C (some ⟨W.heap.size,0,none⟩) 1 1]).run Tryz.prog (W.alloc (.cells #[x,y,z,u] (Dh true)))=.ok f K):
 ∀B,B<W.heap.size->(∀p l c,v=C (some p) l c->p.block≠B)->K.heap[B]?=W.heap[B]?:=by
 obtain⟨i,w,I,s,H⟩:=PC true;have A:=PB true;have r:Bl W (W.alloc (.cells #[x,y,z,u] (Dh true))):=Ba W _;obtain⟨a,G⟩:=ex (W.alloc (.cells #[x,y,z,u] (Dh true)));have L:a.heap[W.heap.size]?=some (.cells #[x,y,z,u] (Dh true) (0,0)):=by rw[<-G];exact BB W _
 rw[G]at r k;have t:∀j c,[x,y,z,u][j]?=some c->a.cell? ((⟨W.heap.size,0,none⟩:Addr).add j)=some c:=λj c m=>by
  rw[Yu,AW];exact cell_of L (by simpa using m)
 have D:(Value.agg (zK true)).cells=zK true:=rfl;have fin:∀o B,B<W.heap.size->(a.drew.alloc o).heap[B]?=W.heap[B]?:=λo B d=>by
  have Q:Bl W (a.drew.alloc o):=(r.drew).alloc (by exact r.size) _;exact Q.block B d
 rcases h with⟨rfl,rfl⟩|⟨g,cap,b,rfl,V,E,X,h5,h6,h7,h8⟩
 . have n:=run_append_nil (P:=Tryz.prog) a (EK true) (EK true) (Dh true) i _ A w I ⟨W.heap.size,0,none⟩ 1 1 [x,y,z,u] (by rw[s];rfl) t Y Y (by rw[H];omega);rw[D]at n;rw[n]at k;cases k;intro B d _;exact fin _ B d
 . have F:a.heap[g]?=some (.cells b (Dh true) (0,0)):=(r.block g (Ab.1 E).1).trans E;have M:(b.toList.take (qs.length*4)).length=qs.length*4:=by rw[Am];have U:b.toList.length=b.size:=C3;omega
   by_cases T:qs.length+1<=cap
   . have n:=run_append_room (P:=Tryz.prog) a (EK true) (EK true) (Dh true) i A w g qs.length cap b F ⟨W.heap.size,0,none⟩ 1 1 [x,y,z,u] (by rw[s];rfl) t hq.one T (by rw[s];simp;omega);rw[n]at k;cases k;intro B d R;have N:B≠g:=λe=>R _ _ _ rfl e.symm;exact(setRow_other a g B _ N).trans (r.block B d)
   . have S:∀j c,(b.toList.take (qs.length*4))[j]?=some c->a.cell? ((⟨g,0,none⟩:Addr).add j)=some c:=λj c m=>by
      rw[Yu,AW];rw[CP]at m;split at m
      . rw[A8]at m;exact cell_of F m
      . cases m
     have n:=run_append_grow (P:=Tryz.prog) a (EK true) (EK true) (Dh true) i _ A w I ⟨g,0,none⟩ qs.length cap (b.toList.take (qs.length*4)) (by rw[s];exact M) S ⟨W.heap.size,0,none⟩ 1 1 [x,y,z,u] (by rw[s];rfl) t Y Y (by rw[H];exact growslice_fits Y Y);rw[D]at n;rw[n]at k;cases k;intro B d _;exact fin _ B d
theorem NO(b:D6 true H V v R){B:Nat}{l:Nat}(q:Boxed V B 25 (C a l c))(p:B<H)(x:Value):D6 true H (V.setCell ⟨B,0,none⟩ x) v R:=by
 rcases b with h|⟨g,cap,d,e,f,i,j,k,m,n,o⟩
 . exact Or.inl h
 . exact Or.inr ⟨g,cap,d,e,f,(BD V ⟨B,0,none⟩ x g (by show g≠B;omega)).trans i,j,k,m,n,o.keep (MP q rfl x)⟩
theorem cD(h:D6 true H W (C a n c) qs)(q:0<qs.length):∃g,a=some ⟨g,0,none⟩/\De true W g qs:=by
 rcases h with⟨_,rfl⟩|⟨g,cap,k,e,r,l,s,t,v,w,m⟩
 . simp at q
 . refine⟨g,by cases e;rfl,k,l,λj p=>?_⟩;obtain⟨x,y,z,u,b,d,f,i,o⟩:=m.2 j p;rw[AV Y,A8]at b d f i;exact⟨x,y,z,u,b,d,f,i,o⟩
theorem cE(h:D6 true H W v qs):∀p l c,v=C (some p) l c->p.block<W.heap.size:=by
 rcases h with⟨rfl,_⟩|⟨g,cap,b,rfl,d,a,_⟩
 . intro p l c e;cases e
 . intro p l c e;cases e;exact(Ab.1 a).1
theorem NP(h:D6 true H W (C a n c) qs){j:Nat}(w:j<qs.length):∃g s f l c1 t b k d,a=some ⟨g,0,none⟩/\g<W.heap.size/\W.cell? ⟨g,j*4,none⟩=some (.bool s)/\W.cell? ⟨g,j*4+1,none⟩=some (C f l c1)/\W.cell? ⟨g,j*4+2,none⟩=some (.bool t)/\W.cell? ⟨g,j*4+3,none⟩=some (C b k d)/\Jg W (.agg #[.bool s,C f l c1,.bool t,C b k d]) (cf qs j):=by
 obtain⟨g,e,m⟩:=cD h Y;obtain⟨x,y,z,u,p,q,r,v,o⟩:=m.at w;obtain⟨s,f,l,c1,t,b,k,d,i⟩:=Jg.form (show Jg W _ _ from o);simp only[Value.agg.injEq,Array.mk.injEq,FC,and_true]at i;obtain⟨rfl,rfl,rfl,rfl⟩:=i;exact⟨g,s,f,l,c1,t,b,k,d,e,m.lt,p,q,r,v,o⟩
theorem cF{w:World}{k n o N:Nat}{P:List Rat}{G I:Rat}(M:Mem w V [some (k,.poly P),some (n,.rat G),some (o,.rat I)])(F:D6 true H V f R)(Q:H<=V.heap.size)(hw:w.heap.size<=H)(D:k<H/\n<H/\o<H)
(W:∀p l c,f=C (some p) l c->p.block<N)(X:∀p l c,V.cell? ⟨k,0,none⟩=some (C (some p) l c)->N<=p.block)(hq:Jg V (.agg #[x,y,z,u]) q)(hl:R.length+1<=1099511627776):
 ∃v j,(Builtin.append_ #[22,22] 22 #[f,C (some ⟨V.heap.size,0,none⟩) 1 1]).run Tryz.prog (V.alloc (.cells #[x,y,z,u] 37))=.ok v j/\D6 true H j v (R++[q])/\Mem w j [some (k,.poly P),some (n,.rat G),some (o,.rat I)]/\H<=j.heap.size:=by
 obtain⟨v,j,e,U,A,L⟩:=U9 true H V f R F hq hl Q;have t:=L H V (Aa _) (BF H V);have far:=cC H V f R F hq hl e;refine⟨v,j,e,U,⟨λi B d g=>?_,M.2.1,L _ _ hw M.2.2⟩,An Q t.size⟩;match i,g with
 |0,g=>
  obtain⟨⟨cs,m,r⟩,s⟩:=M.1 0 k _ rfl;simp only[Ag,Ak,Fj]at g;obtain⟨rfl,rfl⟩:=g;refine⟨⟨cs,(t.block k D.1).trans m,?_⟩,s⟩;obtain⟨u9,K,hr⟩:=(show Jf V (.agg cs) P from r);refine(show Jf j (.agg cs) P from⟨u9,K,?_⟩);obtain⟨a,cap,rfl,k1,k2,k3,E⟩:=hr;refine⟨a,cap,rfl,k1,k2,k3,?_⟩;rcases E with E|⟨b,rfl,S⟩
  . exact Or.inl E
  . refine Or.inr ⟨b,rfl,S.keep (far b S.lt λp l c T=>?_) A⟩;have c1:=W p l c T;have c2:=X ⟨b,0,none⟩ P.length cap (cell_of m (by cases K;rfl));exact λe=>by have:N<=b:=c2;omega
 |1,g=>
  obtain⟨⟨cs,m,r⟩,s⟩:=M.1 1 n _ rfl;simp only[Ag,Af,Ak,Fj]at g;obtain⟨rfl,rfl⟩:=g;exact⟨⟨cs,(t.block n D.2.1).trans m,r.keep A (Or.inl rfl)⟩,s⟩
 |2,g=>
  obtain⟨⟨cs,m,r⟩,s⟩:=M.1 2 o _ rfl;simp only[Ag,Af,Ak,Fj]at g;obtain⟨rfl,rfl⟩:=g;exact⟨⟨cs,(t.block o D.2.2).trans m,r.keep A (Or.inl rfl)⟩,s⟩
 |i+3,g=>simp at g
theorem Q5{g k d e i l u2:Value}{a c:Rat}(n:Jg V (.agg #[x,y,z,u]) a)(o:Jg V (.agg #[f,g,k,d]) b)(p:Jg V (.agg #[e,i,l,u2]) c):RowK true (V.alloc (.cells #[x,y,z,u,f,g,k,d,e,i,l,u2] 37)) (C (some ⟨V.heap.size,0,none⟩) 3 3) [a,b,c]:=by
 have m:Bl V (V.alloc (.cells #[x,y,z,u,f,g,k,d,e,i,l,u2] 37)):=Ba V _;refine⟨_,3,rfl,Aa _,Y,Z,Or.inr ⟨V.heap.size,rfl,_,BB V _,λj q=>?_⟩⟩;have r:j<3:=q;rcases j with _|_|_|j
 . exact⟨x,y,z,u,rfl,rfl,rfl,rfl,n.below m⟩
 . exact⟨f,g,k,d,rfl,rfl,rfl,rfl,o.below m⟩
 . exact⟨e,i,l,u2,rfl,rfl,rfl,rfl,p.below m⟩
 . omega
theorem cG{d e c:Value}{a:Rat}(i:Jg V (.agg #[x,y,z,u]) a)(k:Jg V (.agg #[f,d,e,c]) b):RowK true (V.alloc (.cells #[x,y,z,u,f,d,e,c] 37)) (C (some ⟨V.heap.size,0,none⟩) 2 2) [a,b]:=by
 have g:Bl V (V.alloc (.cells #[x,y,z,u,f,d,e,c] 37)):=Ba V _;refine⟨_,2,rfl,Aa _,Y,Z,Or.inr ⟨V.heap.size,rfl,_,BB V _,λj l=>?_⟩⟩;have m:j<2:=l;rcases j with _|_|j
 . exact⟨x,y,z,u,rfl,rfl,rfl,rfl,i.below g⟩
 . exact⟨f,d,e,c,rfl,rfl,rfl,rfl,k.below g⟩
 . omega
end M3
open Go.RowKit Go.Shelf
namespace M3
attribute [local go_sem] Oper.semAt_some
end M3

