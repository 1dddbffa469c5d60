import Derived.Test.YtcahejkcdcjjgaaGreatDoorS08
import Derived.Laws.CopyOwn
import Derived.Deep.OwnRows
set_option linter.all false
open Go.Value renaming slice->B,int->G
open Go renaming World->C,undef->L
open Go.Proofs.Tryz renaming prog->E
open Go.IntKind renaming u64->F,i64->I
open Go.Obj renaming cells->H
set_option maxRecDepth 99999
set_option maxHeartbeats 0
namespace Go.Proofs.YtcahejkcdcjjgaaGreatDoor
open List renaming replicate->WT
open Proofs.Tryz
open Go.RowKit Go.Shelf
section
def DG:=@Lib.run_eql_slice_nil
def Bu:=@CallsIn.inRound
variable{p:Addr}{d:Array Bool}{ops:Array Oper}{Q:Exit->Act->C->Prop}{tab:List U}{bs ds q xs:U}{c i l len m n:Nat}{a:WO}{P:Program}{w:C}
def Q3(n:Nat):madeCells #[G F 0] n=(cellsOf F (WT n 0)).toArray:=by
 apply Array.ext
 . simp[madeCells,cellsOf]
 . intro i a b;simp[madeCells,cellsOf,Nat.mod_one]
def GT(n:Nat)(h:n<=2199023255552)(w:C):(Instr.makeSlice 34 (G I (n:Int)) (G I (n:Int))).run E w=.ok (B (some ⟨w.heap.size,0,none⟩) n n) (w.alloc (H (cellsOf F (WT n 0)).toArray 163)):=by
 rw[<-Q3];exact run_make_row' 34 163 (G F 0) 8 underlying34 Tryz.infoU64 J I I n Z Z w
def Il(l:Nat)(h:l<=2199023255551)(w:C):(Instr.makeSlice 34 (G I ((l:Int)+1)) (G I ((l:Int)+1))).run E w=.ok (B (some ⟨w.heap.size,0,none⟩) (l+1) (l+1)) (w.alloc (H (cellsOf F (WT (l+1) 0)).toArray 163)):=
 GT (l+1) Z w
theorem LC(b o j:Nat):(⟨b,o,none⟩:Addr).add j=⟨b,o+j,none⟩:=by simp[Addr.add]
theorem Yv(h:n<=m):(Jc O n).length<=(Jc O m).length:=by
 rcases AJ (Jc O m).length (Jc O n).length with a|a
 . have:=YK Jb a;omega
 . exact a
theorem Q4{W:C}(h:Row F w (B a l c) ds)(f:Bl w W)(e:a=some p)(_h0:0<l)(j:Nat)(v:Value)(o:(cellsOf F ds)[j]?=some v):W.cell? (p.add j)=some v:=by
 obtain⟨hl,_,_,_,g⟩:=Jn h;have n:j<ds.length:=by
  grind[cellsOf]
 obtain⟨b,m,d,k,i⟩:=g j Z;rw[d]at e;cases e;rw[LC];rw[(f.cell (p:=⟨b,m+j,none⟩) k),i];grind[cellsOf]
theorem F5(h:Row F w (B a l c) ds)(e:a=some p)(d:0<l):p.block<w.heap.size:=by
 obtain⟨b,i,f,g,_⟩:=(Jn h).2.2.2.2 0 d;grind
def Q5(h:Row F w (B a l c) ds)(e:0<l):∃p,a=some p:=by
 obtain⟨b,g,d,f,_⟩:=(Jn h).2.2.2.2 0 e;exact⟨_,d⟩
theorem M7(h:XU xs bs 0 len c q)(i:xs=Jc O m)(f:bs=Jc O n)(hl:len=xs.length)(g:bs.length<=len)(l:n<=m):Jw q=Jc O (m-n):=by
 obtain⟨a,b,j,d⟩:=h;rw[AH,Ad (show xs.length<=len by omega),Ad g,i,f,Jl Jb,Jl Jb]at d;have e:=JY b;rw[a]at e;have k:c=0:=by
  grind
 grind[JP,Jb]
theorem LD(g b k:Nat)(a:WO)(la d:Nat)(xs:U)(w c:C)(m:Row F w (B a la d) xs)(l:Bl w c)(hg:w.heap.size<=g)(q:c.heap[g]?=some (H (cellsOf F (WT b 0)).toArray 163 (0,0)))(hl:la<=b):
 ∃i,(Builtin.copy_ #[34,34] 3 #[B (some ⟨g,0,none⟩) b k,B a la d]).run E c=.ok (G I (la:Nat)) i/\DU i g (xs++WT (b-la) 0)/\Bl w i:=by
 obtain⟨t,_⟩:=Jn m;have n:(Tryz.prog.info? 163).map (·.size)=some 1:=by kernel_rfl
 have r:(cellsOf F xs)++(cellsOf F (WT b 0)).drop la=cellsOf F (xs++WT (b-la) 0):=by simp[cellsOf]
 by_cases s:la=0
 . subst s;refine⟨c,run_copy_none (P:=E) c 34 34 3 163 (some ⟨g,0,none⟩) a b k 0 d underlying34 n (Nat.zero_min b),DU.made ?_,l⟩;grind
 . obtain⟨p,hp⟩:=Q5 m Z;subst hp;have f:(cellsOf F xs).length=la:=by simp[cellsOf,t]
   have o:=run_copy_row (P:=E) c 34 34 3 163 g 0 b k p la d _ 163 (cellsOf F xs) underlying34 n q (by rw[f];exact(Cq hl).symm) (λj v e=>Q4 m l J Z j v e) (by rw[f];simp[cellsOf];exact hl) (λv e=>by
    rw[cellsOf,List.mem_map]at e;obtain⟨_,_,rfl⟩:=e;rfl)
   rw[f,C7,Al,Ch,r]at o;exact⟨_,o,DU.made (setRow_heap c g _ _ _ _ q),below_setRow l hg _⟩
theorem LE(a:WO)(la j:Nat)(b:WO)(lb k m n:Nat)(w:C)(l:Row F w (B a la j) (Jc O m))(o:Row F w (B b lb k) (Jc O n))(h:n<=m):
 Calls E 115 #[B a la j,B b lb k] w λe D=>∃u,e=.returned u/\UN D u (m-n)/\Bl w D:=by
 obtain⟨hl,aj,ae,X,V⟩:=Jn l;obtain⟨A,ak,ah,am,W⟩:=Jn o;have P:lb<=la:=by rw[hl,A];exact Yv h
 have f:=Ja hl;have i:=Ja o;have Q:=GT la Z w;obtain⟨d,g⟩:∃d,d=w.alloc (H (cellsOf F (WT la 0)).toArray 163):=⟨_,J⟩;have t:Bl w d:=by rw[g];exact Ba w _
 have v:d.heap[w.heap.size]?=some (H (cellsOf F (WT la 0)).toArray 163 (0,0)):=by rw[g];exact BV w _
 rw[<-g]at Q;obtain⟨w2,ai,hA2,y⟩:=LD w.heap.size la la a la j (Jc O m) w d l t (Aa _) v (Aa _);rw[A3,List.replicate_zero,CH]at hA2;have ad:=hA2.lt;clear V hl W A l o g t v;go_enter func115,ntmps115
 go_wp2_with(go_at_call 148;refine(M6 w.heap.size 0 la la (Jc O m) b lb k (Jc O n) _ hA2 (Jm Jb m) (by rw[Ch,<-f.o];exact Aa _) (Aa _) Z P (Row.below i.o y) (Jm Jb n) λp e S=>by have:=F5 i.o e S;omega).mono ?_)
 rintro e w3 ⟨c,q,rfl,r,hA3,z⟩;have N:=r.1;have M:Row F w3 (B (some ⟨w.heap.size,0,none⟩) la la) q:=by
  have T:=hA3.row 0 la la (by rw[JK N (by rw[<-f.o];omega),<-f.o];omega) (Aa _) Z X;have R:((Da (Jc O m) 0 la q).drop 0).take la=q:=by
   grind[Da]
  rwa[R]at T
 have K:=Ja (M7 r J J f.o (by have:=Jn i.o;omega) h);have x:=below_grown y z (Aa _);clear r hA3 z;go_wp2_with(go_at_call 132;refine(Ye _ q _ M).mono ?_)
 rintro e w4 ⟨u,rfl,s,U⟩;rw[K.o]at s;obtain⟨ua,uc,rfl⟩:=UN.form s;go_wp2;go_ret;exact⟨_,J,s,x.trans (U.mono x.size)⟩
theorem M8(h:Ed (xs++[0]) bs 0 len c q)(i:xs=Jc O m)(g:bs=Jc O n)(hl:len=xs.length+1)(o:bs.length<=xs.length):Jw q=Jc O (m+n):=by
 obtain⟨j,b,k,a⟩:=h;have p:m<O^xs.length:=by
  grind[JY,Jm,Jb,Jl]
 have r:n<O^xs.length:=by
  have:=JY (Jm Jb n);grind[Jl,Ar,Am,O]
 rw[AH,Ad (show(xs++[0]).length<=len by simp;omega),Ad (show bs.length<=len by omega),J4,Cd,A4,g,Jl Jb]at a;have e:val O xs=m:=by rw[i,Jl Jb]
 rw[e]at a;have f:O^len=O^xs.length*O:=by rw[hl,Ce]
 have l:O^xs.length*2<=O^len:=by rw[f];exact Au _ Jb
 have d:c=0:=by
  grind
 subst d;rw[<-JP Jb b];congr 1
theorem M9(a:WO)(la A:Nat)(b:WO)(lb D m n:Nat)(w:C)(k:Row F w (B a la A) (Jc O m))(l:Row F w (B b lb D) (Jc O n))(an:la<1099511627776)(ap:lb<1099511627776):
 Calls E 113 #[B a la A,B b lb D] w λe w'=>∃u,e=.returned u/\UN w' u (m+n)/\Bl w w':=by
 by_cases aq:la<lb
 . obtain⟨hl,ai,ad,ak,W⟩:=Jn l;obtain⟨z,aj,ae,am,X⟩:=Jn k;obtain⟨o,r,P⟩:=Dm hl k z;have R:=Il lb Z w;obtain⟨d,f⟩:∃d,d=w.alloc (H (cellsOf F (WT (lb+1) 0)).toArray 163):=⟨_,J⟩;have s:Bl w d:=by rw[f];exact Ba w _
   have t:d.heap[w.heap.size]?=some (H (cellsOf F (WT (lb+1) 0)).toArray 163 (0,0)):=by rw[f];exact BV w _
   rw[<-f]at R;obtain⟨w2,ah,hA2,x⟩:=LD w.heap.size (lb+1) (lb+1) b lb D (Jc O n) w d l s (Aa _) t Z;rw[show lb+1-lb=1 from by omega,List.replicate_one]at hA2;have Qi:=hA2.lt;have K:=Ja (show DR O (Jc O n++[0])from(Jm Jb n).append (DR.cons uo (DR.nil _)));have g:=Ja (show(Jc O n++[0]).length=lb+1 by grind);clear W hl X z k l f s t;go_enter func113,ntmps113
   go_wp2_with(go_at_call 146;refine(LB w.heap.size 0 (lb+1) (lb+1) (Jc O n++[0]) a la A (Jc O m) _ hA2 K.o (by rw[Ch,g.o];exact Aa _) (Aa _) Z Z (Row.below r.o x) (Jm Jb m) λp e T=>by have:=F5 r.o e T;omega).mono ?_)
   rintro e w3 ⟨c,q,rfl,i,hA3,y⟩;have Q:=i.1;have N:Row F w3 (B (some ⟨w.heap.size,0,none⟩) (lb+1) (lb+1)) q:=by
    have U:=hA3.row 0 (lb+1) (lb+1) (by rw[JK Q (by rw[g.o];omega),g.o];omega) (Aa _) Z Z;have S:((Da (Jc O n++[0]) 0 (lb+1) q).drop 0).take (lb+1)=q:=by
     grind[Da]
    rwa[S]at U
   have M:=Ja (M8 i J J (by rw[<-o.o]) (by rw[<-o.o,<-P.o];omega));have v:=below_grown x y (Aa _);clear i hA3 y;go_wp2_with(go_at_call 132;refine(Ye _ q _ N).mono ?_)
   rintro e w4 ⟨u,rfl,j,V⟩;rw[M.o]at j;obtain⟨ua,uc,rfl⟩:=UN.form j;go_wp2;go_ret;exact⟨_,J,by rw[CO m n];exact j,v.trans (V.mono v.size)⟩
 . obtain⟨hl,ai,ad,ak,W⟩:=Jn k;obtain⟨z,aj,ae,am,X⟩:=Jn l;obtain⟨o,r,P⟩:=Dm hl l z;have R:=Il la Z w;obtain⟨d,f⟩:∃d,d=w.alloc (H (cellsOf F (WT (la+1) 0)).toArray 163):=⟨_,J⟩;have s:Bl w d:=by rw[f];exact Ba w _
   have t:d.heap[w.heap.size]?=some (H (cellsOf F (WT (la+1) 0)).toArray 163 (0,0)):=by rw[f];exact BV w _
   rw[<-f]at R;obtain⟨w2,ah,hA2,x⟩:=LD w.heap.size (la+1) (la+1) a la A (Jc O m) w d k s (Aa _) t Z;rw[show la+1-la=1 from by omega,List.replicate_one]at hA2;have Qi:=hA2.lt;have K:=Ja (show DR O (Jc O m++[0])from(Jm Jb m).append (DR.cons uo (DR.nil _)));have g:=Ja (show(Jc O m++[0]).length=la+1 by grind);clear W hl X z k l f s t;go_enter func113,ntmps113
   go_wp2_with(go_at_call 146;refine(LB w.heap.size 0 (la+1) (la+1) (Jc O m++[0]) b lb D (Jc O n) _ hA2 K.o (by rw[Ch,g.o];exact Aa _) (Aa _) Z Z (Row.below r.o x) (Jm Jb n) λp e T=>by have:=F5 r.o e T;omega).mono ?_)
   rintro e w3 ⟨c,q,rfl,i,hA3,y⟩;have Q:=i.1;have N:Row F w3 (B (some ⟨w.heap.size,0,none⟩) (la+1) (la+1)) q:=by
    have U:=hA3.row 0 (la+1) (la+1) (by rw[JK Q (by rw[g.o];omega),g.o];omega) (Aa _) Z Z;have S:((Da (Jc O m++[0]) 0 (la+1) q).drop 0).take (la+1)=q:=by
     grind[Da]
    rwa[S]at U
   have M:=Ja (M8 i J J (by rw[<-o.o]) (by rw[<-o.o,<-P.o];omega));have v:=below_grown x y (Aa _);clear i hA3 y;go_wp2_with(go_at_call 132;refine(Ye _ q _ N).mono ?_)
   rintro e w4 ⟨u,rfl,j,V⟩;rw[M.o]at j;obtain⟨ua,uc,rfl⟩:=UN.form j;go_wp2;go_ret;exact⟨_,J,j,v.trans (V.mono v.size)⟩
def Xe(a:Array Bool):Nat:=a.toList.countP λb=>!b
theorem Xk(a:i<d.size)(h:d.getD i true=false):Xe (d.setIfInBounds i true)+1=Xe d:=by
 grind[Array.getInternal_eq_getElem,Xe]
theorem Q6{F:Fence}{c:Region.Mode}(I:Array Bool->Act->C->Prop)
(step:∀b a w i,b.size=ops.size->I b a w->i∈Region.ready c ops b->wpOpIn F n P ops Q i (I (b.setIfInBounds i true)) a w)
(fin:∀b a w,b.size=ops.size->I b a w->Region.ready c ops b=[]->Q .normal a w):
 ∀(d:Nat) (b:Array Bool) (a:Act) (w:C),b.size=ops.size->Xe b<=d->I b a w->wpAnyIn F n P c ops Q d b a w:=by
 intro d;have k:∀ {b:Array Bool} {i:Nat},i∈Region.ready c ops b->i<ops.size/\b.getD i true=false:=by
  intro b i e;simp only[Region.ready,List.mem_filter,List.mem_range,Cz,Cv]at e;exact⟨e.1,e.2.1⟩
 induction d with
 |zero=>
  intro b a w hs j f;have g:Region.ready c ops b=[]:=by
   cases m:Region.ready c ops b with
   |nil=>rfl
   |cons i l=>
    grind[Cn,Xk]
  exact⟨g,fin _ _ _ hs f g⟩
 |succ d o=>
  intro b a w hs j f;refine⟨fin _ _ _ hs f,λi e=>?_⟩;grind[Xk,wpOpIn_mono]
def Dl:Tryz.prog.follows .mixedOrders=true:=by kernel_rfl
theorem Q7{F:Fence}{id:Nat}{a:Act}(c:P.follows .mixedOrders=true)(I:Array Bool->Act->C->Prop)
(start:I (Array.replicate ops.size false) a w.drew)
(step:∀b a w i,b.size=ops.size->I b a w->i∈Region.ready .any ops b->wpOpIn F n P ops Q i (I (b.setIfInBounds i true)) a w)
(fin:∀b a w,b.size=ops.size->I b a w->Region.ready .any ops b=[]->Q .normal a w):
 (Code.region id ops true).wpIn F n P Q a w:=
 wpIn_region_any c (Q6 I step fin _ _ _ _ DQ (by grind[Xe]) start)
def Xf(tab:List U):Bool:=tab.zipIdx.all λp=>p.1.all (·<p.2)
def Xl(h:Xf tab=true)(a:tab[i]?=some ds){j:Nat}(b:j∈ds):j<i:=by
 simp only[Xf,AA,decide_eq_true_eq]at h;exact h (ds,i) (List.mk_mem_zipIdx_iff_getElem?.2 a) j b
theorem mem_ready{c:Region.Mode}(f:Region.tabAfter c ops=tab):
 i∈Region.ready c ops d↔d.getD i true=false/\∃ds,tab[i]?=some ds/\∀j∈ds,d.getD j false=true:=by
 subst f;simp only[Region.ready,List.mem_filter,List.mem_range,Cz,Cv,Region.tabAfter,List.getElem?_map,Array.getElem?_toList];constructor
 . rintro⟨e,b,a⟩;rw[Array.getElem?_eq_getElem e]at a ⊢;simp only[Option.map_some,C3,Array.all_eq_true',Bool.or_eq_true,Cv]at a;refine⟨b,_,J,λj k=>?_⟩;grind
 . rintro⟨b,ds,g,a⟩;grind
theorem Ym{F:Fence}{id:Nat}{a:Act}(v:P.follows .mixedOrders=true)
(tab:List U)(l:Region.tabAfter .any ops=tab)(q:Xf tab=true)(I:(Nat->Bool)->Act->C->Prop)
(start:I (λ_=>false) a w.drew)
(step:∀(D:Nat->Bool) a w i ds,(∀i ds,tab[i]?=some ds->D i=true->∀j∈ds,D j=true)->tab[i]?=some ds->(∀j∈ds,D j=true)->D i=false->I D a w->wpOpIn F n P ops Q i (I λj=>j==i || D j) a w)
(fin:∀(D:Nat->Bool) a w,(∀i,i<tab.length->D i=true)->I D a w->Q .normal a w):
 (Code.region id ops true).wpIn F n P Q a w:=by
 have r:tab.length=ops.size:=by rw[<-l];simp[Region.tabAfter]
 refine Q7 v (λb a w=>(∀i ds,tab[i]?=some ds->b.getD i false=true->∀j∈ds,b.getD j false=true)/\I (λj=>b.getD j false) a w) ⟨λi ds _ h=>?_,?_⟩ ?_ ?_
 . simp only[Array.getD,Cj]at h;split at h<;>simp at h
 . have e:(λj=>(Array.replicate ops.size false).getD j false)=λ_=>false:=by
    funext j;simp only[Array.getD,Cj];split<;>simp
   rw[e];exact start
 . rintro b a w i hs ⟨p,d⟩ f;obtain⟨o,ds,c,s⟩:=(mem_ready l).1 f;have m:i<b.size:=by
    rw[hs,<-r];rcases AJ i tab.length with h|h
    . exact h
    . grind
   have u:b.getD i false=false:=by
    simp only[Array.getD,m,dif_pos]at o ⊢;exact o
   have e:∀j,(b.setIfInBounds i true).getD j false=(j==i || b.getD j false):=by
    intro j;rw[Cx,Cx,Array.getElem?_setIfInBounds];by_cases k:i=j
    . subst k;simp[m]
    . simp[k,Ne.symm k]
   refine wpOpIn_mono (λy N h=>⟨λM z A t j g=>?_,?_⟩) (step _ a w i ds p c s u d)
   . grind
   . rw[show(λj=>(b.setIfInBounds i true).getD j false)=λj=>(j==i || b.getD j false)from funext e];exact h
 . rintro b a w hs ⟨p,d⟩ K;refine fin _ a w (λi=>?_) d;induction i using Nat.strongRecOn with
   |_ i x=>
    intro f;cases t:b.getD i false with
    |true=>rfl
    |false=>
     exfalso
     have c:tab[i]?=some tab[i]:=AO f
     have:i∈Region.ready .any ops b:=(mem_ready l).2 ⟨by
      grind,_,c,λj g=>x j (Xl q c g) (by have:=Xl q c g;omega)⟩
     grind
attribute [local go_sem] Oper.semAt_some
def NA(w:C)(a:WO)(len c:Nat)(b:WO)(lb d:Nat)(xs e:U)(k:Nat)(W:C):Prop:=
 (((Boxed W w.heap.size 34 (B b lb d)/\Boxed W (w.heap.size+1) 3 (.int I 0))/\Boxed W (w.heap.size+1+1) 34 (B a len c))/\Bl w W)/\xs.drop (len-k)=e.drop (len-k)
def NB(w:C)(xs a:U)(c:Code)(_k:Nat)(W:C):Prop:=
 (Boxed W (w.heap.size+1) 3 (.int I (YX (val O xs) (val O a)))/\Bl w W)/\c=.ret
def Q8(w:C)(a:WO)(len c:Nat)(b:WO)(lb d:Nat)(xs e:U):OwnFrom (w.heap.size+1+1+1) (NA w a len c b lb d xs e):=
 Bj (Bj (Bj (Bj (B5 (boxed_own _ _ λ_=>B b lb d) _) (B5 (boxed_own _ _ λ_=>G I 0) _)) (B5 (boxed_own _ _ λ_=>B a len c) _)) (DA (Aa _) Z)) (DN _ _)
def Q9(w:C)(xs a:U)(c:Code):OwnFrom (w.heap.size+1+1+1) (NB w xs a c):=
 Bj (Bj (B5 (boxed_own _ _ λ_=>G I (YX (val O xs) (val O a))) _) (DA (Aa _) Z)) (DN _ _)
theorem RA{c:Bool}(h:m≠n)(a:c=decide (n<m)):(if c then 1 else -1:Int)=YX m n:=by
 grind[GP,IY]
def RB(a:WO)(la j:Nat)(b:WO)(lb c:Nat)(w:C)(m n:Nat)(l:la≠lb)(k:la<lb↔m<n)(g:m≠n):
 Calls E 114 #[B a la j,B b lb c] w λe i=>e=.returned (G I (YX m n))/\Bl w i:=by
 have o:(((la:Nat):Int) != (lb:Int))=true:=by rw[bne_iff_ne];omega
 have f:=Ja (show(if decide ((lb:Int)<(la:Int))=true then 1 else -1:Int)=YX m n from RA g De);clear k g l;refine(Be (n:=3)).1 ?_;refine Bn func114 J trivial ?_ J;simp only[ntmps114,Ak,Ag,AB,Nat.reduceAdd,Nat.reduceSub,An,Ao,Ax,Ap,Al,Aw];gi_wp2_with(refine⟨trivial,?_⟩;gi_at_call 119;refine((Be (n:=_)).2 (Ko _ _)).mono ?_;rintro e i ⟨rfl,rfl⟩)
 . have d:YX m n=1:=by rw[<-f.o,Br si]
   have q:=(Bb (w.alloc (H #[B b lb c] 34)) 3 (G I 1)).cell;simp only[A1]at q;refine⟨G I 1,by simp[results,results114,go_sem,q],by rw[d],?_⟩;exact(Ba w _).alloc DQ _
 . have d:YX m n=-1:=by rw[<-f.o,Bk si]
   have q:=(Bb (w.alloc (H #[B b lb c] 34)) 3 (G I (-1))).cell;simp only[A1]at q;refine⟨G I (-1),by simp[results,results114,go_sem,q],by rw[d],?_⟩;exact(Ba w _).alloc DQ _
theorem RC(a:WO)(len f:Nat)(b:WO)(g:Nat)(xs d:List Nat)(w:C)(ha:Row F w (B a len f) xs)(hb:Row F w (B b len g) d)(xa:DR O xs)(xb:DR O d):
 Calls E 114 #[B a len f,B b len g] w λe U=>e=.returned (G I (YX (val O xs) (val O d)))/\Bl w U:=by
 obtain⟨hl,ak,an,aj,z⟩:=Jn ha;obtain⟨ah,ai,ap,aq,ad⟩:=Jn hb;obtain⟨M,X,HC,Qe⟩:=Dw hl ah z ad;clear z ad hl ah ha hb;refine(Be (n:=3)).1 ?_;refine Bn func114 J trivial ?_ J;simp only[ntmps114,Ak,Ag,AB,Nat.reduceAdd,Nat.reduceSub,An,Ao,Ax,Ap,Al,Aw];gi_wp2_with(refine⟨trivial,?_⟩;gi_at_call 147;refine(Gs Fence.wide _ trivial J _ _ _ _).mono ?_;rintro e U ⟨rfl,rfl⟩)
 obtain⟨W0,v⟩:=ex (((w.alloc (H #[B b len g] 34)).alloc (H #[G I 0] 3)).alloc (H #[B a len f] 34));have b0:=((Bb w 34 (B b len g)).alloc (H #[G I 0] 3)).alloc (H #[B a len f] 34);have P:=(Bb (w.alloc (H #[B b len g] 34)) 3 (G I 0)).alloc (H #[B a len f] 34);have R:=Bb ((w.alloc (H #[B b len g] 34)).alloc (H #[G I 0] 3)) 34 (B a len f);simp only[A1]at P R;have hN:W0.heap.size=w.heap.size+1+1+1:=by rw[<-v];simp
 have Qf:Bl w W0:=by rw[<-v];exact((Ba w _).alloc DQ _).alloc si _
 rw[v]at b0 P R ⊢;clear v;refine Yt J Z (gf:=174) (lb:=#[.pointer (some ⟨w.heap.size+1+1,0,none⟩)]) J trivial (DF func174 WS J)
  (Gr Fence.wide _ trivial J Z (w.heap.size+1+1) a len f (λj=>xs[j]?.getD 0) aj) (λ_=>rfl)
  (NA w a len f b len g xs d) (NB w xs d) (by rw[hN];exact Q8 w a len f b len g xs d) (λc=>by rw[hN];exact Q9 w xs d c)
  ⟨⟨⟨⟨b0,P⟩,R⟩,Qf⟩,by rw[C2,AF (by rw[M.o];exact Aa _),AF (by rw[X.o];exact Aa _)]⟩ ?rd
  (λk=>{ tmps:=#[B a len f,B b len g,L,.pointer (some ⟨w.heap.size,0,none⟩),.pointer (some ⟨w.heap.size+1,0,none⟩),G I ((len:Int)-1-k),G F (xs[len-1-k]?.getD 0:Nat),B a len f,G I (len:Nat),B b len g,G I (len:Nat),.bool false,L,L,L,L,L,L,B a len f,.func (.func 174) #[] #[.pointer (some ⟨w.heap.size+1+1,0,none⟩)],G I ((len:Int)-1-k),G F (xs[len-1-k]?.getD 0:Nat),L,L,L,L,L,L,L,L,L,L,L,L,L],defers:=[] }) ?assign ?body ?done ?stop
 case rd=>
  rintro k W ⟨⟨⟨_,c2⟩,i⟩,_⟩;refine⟨c2.cell,λhk=>?_⟩;obtain⟨u,A,ea,S,z⟩:=HC.o (len-1-k) Z;exact⟨u,A,ea,(i.cell (p:=⟨u,A+(len-1-k),none⟩) S).trans z⟩
 case assign=>
  intro l k W K o;unfold Xj;gi_wp2;exact o
 case body=>
  rintro l k W ⟨⟨⟨⟨c0,c1⟩,c2⟩,i⟩,r⟩ hk ay;have d0:=c0.cell;have d1:=c1.cell;have f1:=c1.frozen;obtain⟨u,A,rfl,S,ae⟩:=Qe.o (len-1-k) Z;have dy:=(i.cell (p:=⟨u,A+(len-1-k),none⟩) S).trans ae;clear ae;have e1:((len:Int)-1-k)=((len-1-k:Nat):Int):=Z
  rw[e1];have hm:len-1-k<len:=Z
  have es:len-1-k+1=len-k:=Z
  have Qc:xs.drop (len-1-k+1)=d.drop (len-1-k+1):=by rw[es];exact r
  have Qb:=M.o.symm.trans X.o;have s:=Ja λ(h:xs[len-1-k]?.getD 0=d[len-1-k]?.getD 0)=>Pl Qb (len-1-k) (by rw[<-M.o];exact hm) Qc h;have t:=Ja (show xs[len-1-k]?.getD 0≠d[len-1-k]?.getD 0->YX (val O xs) (val O d)=YX (xs[len-1-k]?.getD 0) (d[len-1-k]?.getD 0)from λh=>by
   grind[GP,Pk,IY])
  have V:=Ja (show len-(k+1)=len-1-k by omega);clear e1 es Qc r Qb;generalize xs[len-1-k]?.getD 0=x at s t ⊢;generalize d[len-1-k]?.getD 0=y at s t dy;generalize len-1-k=m at s hm V dy ⊢;have am:=ai;by_cases T:x=y
  . subst T;gi_wp2_with fail
    refine⟨KeepsFrom.refl _ _,⟨⟨⟨c0,c1⟩,c2⟩,i⟩,?_⟩;rw[V.o];exact s.o DQ
  . have az:(((x:Nat):Int) != (y:Int))=true:=by rw[bne_iff_ne];omega
    have N:=Ja T;clear T;gi_wp2_with(refine⟨trivial,?_⟩;gi_at_call 119;refine(Bu l ((Be (n:=_)).2 (Ko _ _))).mono ?_;rintro e U ⟨rfl,rfl⟩)
    . refine⟨(Bg _ _ _).from _,⟨?_,i.setCell (p:=⟨w.heap.size+1,0,none⟩) DQ _⟩,J⟩;rw[t.o N.o,IY ‹y<x›];exact c1.set _
    . refine⟨(Bg _ _ _).from _,⟨?_,i.setCell (p:=⟨w.heap.size+1,0,none⟩) DQ _⟩,J⟩;rw[t.o N.o,GP (by have:=N.o;omega)];exact c1.set _
 case done=>
  rintro D W hD ⟨⟨⟨⟨c0,c1⟩,c2⟩,i⟩,r⟩ o;have d1:=c1.cell;have f1:=c1.frozen;have HZ:=Ja r;clear r;gi_wp2;have Qd:=(Bg W ⟨w.heap.size+1,0,none⟩ (G I 0)).same D _ o J;refine⟨DQ,.inl ⟨_,_,J,Bq Qd,?_⟩⟩;have Q:=(c1.set (G I 0)).kept (Bp _ D (.deferred none)) (λe=>by grind);have q:=Q.cell;have hv:YX (val O xs) (val O d)=0:=by
   have:=HZ.o;grind[MU]
  refine⟨G I 0,by simp[results,results114,go_sem,q],by rw[hv],?_⟩;exact(i.setCell (p:=⟨w.heap.size+1,0,none⟩) DQ _).trans (DP (w:=w) (Aa _) _ D _ _ Z Qd J J)
 case stop=>
  rintro D c k W hD hk ⟨⟨c1,i⟩,rfl⟩ o;have d1:=c1.cell;gi_wp2;refine⟨DQ,.inl ⟨_,_,J,Bq o,?_⟩⟩;have Q:=c1.kept (Bp _ D (.deferred none)) (λe=>by grind);have q:=Q.cell;refine⟨G I (YX (val O xs) (val O d)),by simp[results,results114,go_sem,q],J,?_⟩;exact i.trans (DP (w:=w) (Aa _) _ D _ _ Z o J J)
theorem LF(p q:Value)(xs c:U)(w:C)(o:Row F w p xs)(j:Row F w q c)(d:DR O xs)(f:DR O c)(k:EF xs)(l:EF c):
 Calls E 114 #[p,q] w λe r=>e=.returned (G I (YX (val O xs) (val O c)))/\Bl w r:=by
 obtain⟨a,m,rfl,s⟩:=id o;obtain⟨b,n,rfl,t⟩:=id j;have i:2<=O:=by unfold O;omega
 by_cases hl:xs.length=c.length
 . rw[<-hl]at j ⊢;exact RC a xs.length m b n xs c w o j d f
 . refine RB a _ m b _ n w _ _ hl ?_ ?_
   . constructor
     . exact λh=>YA i d f k l h
     . intro h;grind[Nat.lt_or_gt_of_ne,YA]
   . rcases Nat.lt_or_gt_of_ne hl with g|g
     . have:=YA i d f k l g;omega
     . have:=YA i f d l k g;omega
end
variable{a:Act}{ops:Array Oper}{Q:Exit->Act->C->Prop}{P:Program}{w:C}
def RD(n c:Nat)(w:C):Calls E 131 #[B none n c] w λe d=>e=.returned (B none 0 0)/\d=w:=by
 have f:∀(w:C) (a:WO) (n c b c':Nat),(binOp .eql 34 (B a n c) (B none b c')).run E w=.ok (.bool a.isNone) w:=λw a n c b c'=>DG w _ _ a n c b c' underlying34;go_enter func131,ntmps131
 go_wp2;go_ret;exact⟨J,J⟩
theorem LG(p:Addr)(c:Nat)(xs:U)(w:C)(hl:xs.length<=1099511627776)(f:∀j,j<xs.length->w.cell? (p.add j)=some (G F (xs[j]?.getD 0:Nat))):
 Calls E 131 #[B (some p) xs.length c] w λe g=>∃b,e=.returned b/\g.ownsRow w.heap.size 163 1 b xs.length (cellsOf F xs)/\Bl w g:=by
 obtain⟨y,m,s,t,v⟩:=info_parts Tryz.infoU64;have K:∀(w:C) (a:WO) (n c d c':Nat),(binOp .eql 34 (B a n c) (B none d c')).run E w=.ok (.bool a.isNone) w:=λw a n c d c'=>DG w _ _ a n c d c' underlying34;have A:=Ja f;clear f;go_enter func131,ntmps131
 go_wp2_with(at_builtin;refine wpList_append_own _ J _ _ 34 J w.heap.size 163 y (G F 0) 1 8 underlying34 m s t v J DV _ _ _ J (World.ownsRow_made w #[] 0 (Aa _) (AN _) J) p xs.length c (cellsOf F xs) J ?qc1 ?qc2 ?qc3 ?qc4 ?qc5 ?qc6 ?_)
 case qc1=>simp[cellsOf]
 case qc2=>
  intro j u z;have i:j<xs.length:=by
   grind[cellsOf]
  refine Lib.cell?_alloc_some _ ?_;rw[A.o j i];grind[cellsOf]
 case qc3=>intro u r;obtain⟨x,_,rfl⟩:=List.mem_map.1 r;rfl
 case qc4=>unfold maxLen;omega
 case qc5=>omega
 case qc6=>simp
 intro b M q l D;go_wp2;go_ret;refine⟨b,J,by simpa using q,?_⟩;exact(Ba w _).grown l DQ (by intro k o;simp[Value.ownBlock]at o;omega)
theorem RE{c:Region.Mode}(I:Array Bool->Act->C->Prop)
(step:∀b a w i,b.size=ops.size->I b a w->i∈Region.ready c ops b->wpOp P ops Q i (I (b.setIfInBounds i true)) a w)
(fin:∀b a w,b.size=ops.size->I b a w->Region.ready c ops b=[]->Q .normal a w):
 ∀(d:Nat) (b:Array Bool) (a:Act) (w:C),b.size=ops.size->Xe b<=d->I b a w->wpAny P c ops Q d b a w:=by
 intro d;have k:∀ {b:Array Bool} {i:Nat},i∈Region.ready c ops b->i<ops.size/\b.getD i true=false:=by
  intro b i e;simp only[Region.ready,List.mem_filter,List.mem_range,Cz,Cv]at e;exact⟨e.1,e.2.1⟩
 induction d with
 |zero=>
  intro b a w hs j f;have g:Region.ready c ops b=[]:=by
   cases m:Region.ready c ops b with
   |nil=>rfl
   |cons i l=>
    grind[Cn,Xk]
  exact⟨g,fin _ _ _ hs f g⟩
 |succ d n=>
  intro b a w hs j f;refine⟨fin _ _ _ hs f,λi e=>?_⟩;grind[Xk,wpOp_mono]
theorem wp_region_held{id:Nat}(c:P.follows .mixedOrders=true)(I:Array Bool->Act->C->Prop)
(start:I (Array.replicate ops.size false) a w.drew)
(step:∀b a w i,b.size=ops.size->I b a w->i∈Region.ready .any ops b->wpOp P ops Q i (I (b.setIfInBounds i true)) a w)
(fin:∀b a w,b.size=ops.size->I b a w->Region.ready .any ops b=[]->Q .normal a w):
 (Code.region id ops true).wp P Q a w:=
 wp_region_any c (RE I step fin _ _ _ _ DQ (by grind[Xe]) start)
theorem Jt{id:Nat}(u:P.follows .mixedOrders=true)
(tab:List U)(l:Region.tabAfter .any ops=tab)(p:Xf tab=true)(I:(Nat->Bool)->Act->C->Prop)
(start:I (λ_=>false) a w.drew)
(step:∀(D:Nat->Bool) a w i ds,(∀i ds,tab[i]?=some ds->D i=true->∀j∈ds,D j=true)->tab[i]?=some ds->(∀j∈ds,D j=true)->D i=false->I D a w->wpOp P ops Q i (I λj=>j==i || D j) a w)
(fin:∀(D:Nat->Bool) a w,(∀i,i<tab.length->D i=true)->I D a w->Q .normal a w):
 (Code.region id ops true).wp P Q a w:=by
 have q:tab.length=ops.size:=by rw[<-l];simp[Region.tabAfter]
 refine wp_region_held u (λb a w=>(∀i ds,tab[i]?=some ds->b.getD i false=true->∀j∈ds,b.getD j false=true)/\I (λj=>b.getD j false) a w) ⟨λi ds _ h=>?_,?_⟩ ?_ ?_
 . simp only[Array.getD,Cj]at h;split at h<;>simp at h
 . have e:(λj=>(Array.replicate ops.size false).getD j false)=λ_=>false:=by
    funext j;simp only[Array.getD,Cj];split<;>simp
   rw[e];exact start
 . rintro b a w i hs ⟨o,d⟩ f;obtain⟨n,ds,c,r⟩:=(mem_ready l).1 f;have m:i<b.size:=by
    rw[hs,<-q];rcases AJ i tab.length with h|h
    . exact h
    . grind
   have t:b.getD i false=false:=by
    simp only[Array.getD,m,dif_pos]at n ⊢;exact n
   have e:∀j,(b.setIfInBounds i true).getD j false=(j==i || b.getD j false):=by
    intro j;rw[Cx,Cx,Array.getElem?_setIfInBounds];by_cases k:i=j
    . subst k;simp[m]
    . simp[k,Ne.symm k]
   refine wpOp_mono (λx M h=>⟨λK y z s j g=>?_,?_⟩) (step _ a w i ds o c r t d)
   . grind
   . rw[show(λj=>(b.setIfInBounds i true).getD j false)=λj=>(j==i || b.getD j false)from funext e];exact h
 . rintro b a w hs ⟨o,d⟩ A;refine fin _ a w (λi=>?_) d;induction i using Nat.strongRecOn with
   |_ i v=>
    intro f;cases s:b.getD i false with
    |true=>rfl
    |false=>
     exfalso
     have c:tab[i]?=some tab[i]:=AO f
     have:i∈Region.ready .any ops b:=(mem_ready l).2 ⟨by
      grind,_,c,λj g=>v j (Xl p c g) (by have:=Xl p c g;omega)⟩
     grind
def DY{T:List U}{D:Nat->Bool}(c:∀i ds,T[i]?=some ds->D i=true->∀j∈ds,D j=true){a k:Nat}{ds:U}(b:D k=false)(e:T[a]?=some ds:=by rfl)(d:k∈ds:=by simp):D a=false:=by
 cases h:D a with
 |false=>rfl
 |true=>rw[c a ds e h k d]at b;cases b
theorem NC(a:WO)(la b:Nat)(c:U)(w:C)(t:Row F w (B a la b) c)(n:0<la):
 Calls E 131 #[B a la b] w λe d=>∃g f,e=.returned (B (some ⟨g,0,none⟩) la f)/\DU d g c/\w.heap.size<=g/\(la<=f/\f<=9223372036854775807)/\Bl w d:=by
 obtain⟨hl,x,A,z,s⟩:=Jn t;obtain⟨l,m,rfl,_,_⟩:=s 0 n;have i:=LG ⟨l,m,none⟩ b c w Z (λj y=>by
  grind[LC])
 rw[<-hl]at i;refine i.mono ?_;rintro e d ⟨D,rfl,k,r⟩;rcases k.2 with⟨_,ev⟩|⟨g,cap,u,ev,o,v,p,q,_⟩
 . omega
 . subst ev;exact⟨_,cap,J,DU.owns k,o,⟨p,q⟩,r⟩
theorem ND(a:WO)(la b:Nat)(d:U)(w:C)(l:Row F w (B a la b) d):
 Calls E 131 #[B a la b] w λe c=>∃m f,e=.returned (B m la f)/\Row F c (B m la f) d/\Bl w c:=by
 obtain⟨hl,y,A,t,z⟩:=Jn l;rcases A5 la with i|i
 . subst i;obtain rfl:d=[]:=As hl.symm;cases a with
   |none=>
    refine(RD 0 b w).mono ?_;rintro e c ⟨rfl,rfl⟩;exact⟨none,0,J,⟨none,0,J,Aa _,Z,Z,Az J⟩,BL _ _⟩
   |some p=>
    refine(LG p b [] w DQ λj s=>by simp at s).mono ?_;rintro e c ⟨K,rfl,u,k⟩;rcases u.2 with⟨ev,_⟩|⟨g,cap,v,ev,_,_,x,q,_⟩
    . subst ev;exact⟨none,0,J,⟨none,0,J,Aa _,Z,Z,Az J⟩,k⟩
    . subst ev;exact⟨_,cap,J,⟨_,cap,J,AN _,q,DQ,Az J⟩,k⟩
 . refine(NC a la b d w l i).mono ?_;rintro e c ⟨g,f,rfl,r,_,⟨n,o⟩,k⟩;have D:=r.row 0 la f Z n o t;grind

