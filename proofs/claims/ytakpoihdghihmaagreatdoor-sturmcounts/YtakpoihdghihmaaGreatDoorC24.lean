import Derived.Test.YtakpoihdghihmaaGreatDoorC20
import Derived.Test.YtakpoihdghihmaaGreatDoorC15
import Derived.Test.YtakpoihdghihmaaGreatDoorC16
import Derived.Test.YtakpoihdghihmaaGreatDoorC06
import Derived.Lib.SliceRun
import Derived.Deep.OwnRows
import Derived.Test.YtakpoihdghihmaaGreatDoorC23
open Go.Value renaming slice->C,bool->G,agg->I
open Go renaming World->E,Value->F
open Go.Obj renaming cells->H
set_option maxRecDepth 100000
set_option maxHeartbeats 16000000
namespace Go.Proofs.YtakpoihdghihmaaGreatDoor
attribute [local go_sem] Oper.semAt_some
open Go.RowKit Go.Shelf
section
variable{z:Int}{v:F}{W:E}
theorem Jm.form(h:Jm W v z):∃a l cap,v=I #[G (decide (z<0)),C a l cap]:=by
 obtain⟨a,l,cap,e,_⟩:=h;exact⟨a,l,cap,e⟩
theorem Jm.alloc{W:E}{v:F}{z:Int}(h:Jm W v z)(o:Obj):Jm (W.alloc o) v z:=h.below (Ba W o)
theorem Jm.box{R:Nat}{t:TypeId}{u0 u1 x0 x1:F}(h:Jm W v z)(q:Jp W R t u0 u1)(c:JC u0=true)(d:JC u1=true):Jm ((W.setCell ⟨R,0,none⟩ x0).setCell ⟨R,1,none⟩ x1) v z:=by
 obtain⟨a,l,cap,e,b⟩:=h;exact⟨a,l,cap,e,Row.set (Row.set b q.c0 c _) (u0:=u1) (q.set0 x0).c1 d _⟩
end
section
def JF(W:E)(B:Nat)(t:TypeId)(x y z u:F):Prop:=W.heap[B]?=some (H #[x,y,z,u] t (0,0))
section
variable {W W':World} {B:Nat} {t:TypeId} {x y z u:Value}
theorem JF.lt(h:JF W B t x y z u):B<W.heap.size:=(Ab.1 h).1
theorem JF.c0(h:JF W B t x y z u):W.cell? ⟨B,0,none⟩=some x:=by simp[World.cell?,show W.heap[B]?=_ from h]
theorem JF.c1(h:JF W B t x y z u):W.cell? ⟨B,1,none⟩=some y:=by simp[World.cell?,show W.heap[B]?=_ from h]
theorem JF.cp(h:JF W B t x y z u):type_of% (And.intro h.c0 h.c1):=⟨h.c0,h.c1⟩
theorem JF.c2(h:JF W B t x y z u):W.cell? ⟨B,2,none⟩=some z:=by simp[World.cell?,show W.heap[B]?=_ from h]
theorem JF.c3(h:JF W B t x y z u):W.cell? ⟨B,3,none⟩=some u:=by simp[World.cell?,show W.heap[B]?=_ from h]
theorem JF.cq(h:JF W B t x y z u):type_of% (And.intro h.c0 (And.intro h.c1 (And.intro h.c2 h.c3))):=⟨h.c0,h.c1,h.c2,h.c3⟩
theorem JF.f0(h:JF W B t x y z u):W.frozen? ⟨B,0,none⟩=false:=by simp[World.frozen?,show W.heap[B]?=_ from h]
theorem JF.f1(h:JF W B t x y z u):W.frozen? ⟨B,1,none⟩=false:=by simp[World.frozen?,show W.heap[B]?=_ from h]
theorem JF.fp(h:JF W B t x y z u):type_of% (And.intro h.f0 h.f1):=⟨h.f0,h.f1⟩
theorem JF.f2(h:JF W B t x y z u):W.frozen? ⟨B,2,none⟩=false:=by simp[World.frozen?,show W.heap[B]?=_ from h]
theorem JF.f3(h:JF W B t x y z u):W.frozen? ⟨B,3,none⟩=false:=by simp[World.frozen?,show W.heap[B]?=_ from h]
theorem JF.fq(h:JF W B t x y z u):type_of% (And.intro h.f0 (And.intro h.f1 (And.intro h.f2 h.f3))):=⟨h.f0,h.f1,h.f2,h.f3⟩
theorem JF.new(W:E)(t:TypeId)(x y z u:F):JF (W.alloc (H #[x,y,z,u] t)) W.heap.size t x y z u:=BE W _
theorem JF.below(h:JF W B t x y z u)(a:Bl W W'):JF W' B t x y z u:=(a.block B h.lt).trans h
theorem JF.alloc(h:JF W B t x y z u)(o:Obj):JF (W.alloc o) B t x y z u:=h.below (Ba W o)
theorem JF.set0(h:JF W B t x y z u)(v:F):JF (W.setCell ⟨B,0,none⟩ v) B t v y z u:=by
 obtain⟨b,a⟩:=Ab.1 h;show(W.heap.modify B _)[B]?=_;rw[Cb (by rw[CX];exact b),Cq,a];rfl
theorem JF.set1(h:JF W B t x y z u)(v:F):JF (W.setCell ⟨B,1,none⟩ v) B t x v z u:=by
 obtain⟨b,a⟩:=Ab.1 h;show(W.heap.modify B _)[B]?=_;rw[Cb (by rw[CX];exact b),Cq,a];rfl
theorem JF.set2(h:JF W B t x y z u)(v:F):JF (W.setCell ⟨B,2,none⟩ v) B t x y v u:=by
 obtain⟨b,a⟩:=Ab.1 h;show(W.heap.modify B _)[B]?=_;rw[Cb (by rw[CX];exact b),Cq,a];rfl
theorem JF.set3(h:JF W B t x y z u)(v:F):JF (W.setCell ⟨B,3,none⟩ v) B t x y z v:=by
 obtain⟨b,a⟩:=Ab.1 h;show(W.heap.modify B _)[B]?=_;rw[Cb (by rw[CX];exact b),Cq,a];rfl
theorem JF.far(h:JF W B t x y z u){p:Addr}(hp:B≠p.block)(v:F):JF (W.setCell p v) B t x y z u:=(BD W p v B hp).trans h
end
def put4(W:E)(B:Nat)(x y z u:F):E:=(((W.setCell ⟨B,0,none⟩ x).setCell ⟨B,1,none⟩ y).setCell ⟨B,2,none⟩ z).setCell ⟨B,3,none⟩ u
variable{B:Nat}{t:TypeId}{u x y z:F}{W:E}
theorem JF.put(h:JF W B t x y z u)(b c d a:F):JF (put4 W B b c d a) B t b c d a:=(((h.set0 b).set1 c).set2 d).set3 a
theorem JF.putFar{C:Nat}(h:JF W B t x y z u)(a:B≠C)(c d e b:F):JF (put4 W C c d e b) B t x y z u:=(((h.far a c).far a d).far a e).far a b
theorem Jo{n:Nat}{w:E}(h:Below n w W)(a:n<=B)(x y z u:F):Below n w (put4 W B x y z u):=(((h.setCell (p:=⟨B,0,none⟩) a _).setCell (p:=⟨B,1,none⟩) a _).setCell (p:=⟨B,2,none⟩) a _).setCell (p:=⟨B,3,none⟩) a _
theorem Row.put4{k:IntKind}{v:F}{ds:List Nat}(h:Row k W v ds)(q:JF W B t x y z u)(d:JC x=true)(e:JC y=true)(f:JC z=true)(g:JC u=true)(a b c i:F):Row k (put4 W B a b c i) v ds:=
 Row.set (Row.set (Row.set (Row.set h q.c0 d _) (q.set0 a).c1 e _) ((q.set0 a).set1 b).c2 f _) (((q.set0 a).set1 b).set2 c).c3 g _
theorem Jm.put4{W:E}{v:F}{i:Int}(h:Jm W v i){B:Nat}{t:TypeId}{x y z u:F}(q:JF W B t x y z u)(c:JC x=true)(d:JC y=true)(f:JC z=true)(g:JC u=true)(k m n j:F):Jm (put4 W B k m n j) v i:=by
 obtain⟨a,l,cap,e,b⟩:=h;exact⟨a,l,cap,e,Row.put4 b q c d f g _ _ _ _⟩
theorem Jv.put4{W:E}{v:F}{i:Int}(h:Jv W v i){B:Nat}{t:TypeId}{x y z u:F}(q:JF W B t x y z u)(c:JC x=true)(d:JC y=true)(f:JC z=true)(g:JC u=true)(k m n j:F):Jv (put4 W B k m n j) v i:=by
 obtain⟨a,l,cap,e,b⟩:=h;exact⟨a,l,cap,e,Row.put4 b q c d f g _ _ _ _⟩
def Jj(W:E)(v:F)(q:Rat):Prop:=∃s a l c t b k d,v=I #[G s,C a l c,G t,C b k d]/\Jm W (I #[G s,C a l c]) q.num/\Jm W (I #[G t,C b k d]) (EI q)
theorem Jj.below{W W':E}{v:F}{q:Rat}(h:Jj W v q)(f:Bl W W'):Jj W' v q:=by
 obtain⟨s,a,l,c,t,b,k,d,e,g,i⟩:=h;exact⟨s,a,l,c,t,b,k,d,e,g.below f,i.below f⟩
theorem Jj.put4{W:E}{v:F}{p:Rat}(h:Jj W v p){B:Nat}{t:TypeId}{x y z u:F}(q:JF W B t x y z u)(f:JC x=true)(g:JC y=true)(i:JC z=true)(j:JC u=true)(r w A o:F):Jj (put4 W B r w A o) v p:=by
 obtain⟨s,a,l,c,t,b,k,d,e,m,n⟩:=h;exact⟨s,a,l,c,t,b,k,d,e,m.put4 q f g i j _ _ _ _,n.put4 q f g i j _ _ _ _⟩
def Jl(W:E)(v:F)(q:Rat):Prop:=∃a l c s b k d t,v=I #[C a l c,G s,C b k d,G t]/\Jv W (I #[C a l c,G s]) q.num/\Jv W (I #[C b k d,G t]) (q.den:Int)
theorem Jl.below{W W':E}{v:F}{q:Rat}(h:Jl W v q)(f:Bl W W'):Jl W' v q:=by
 obtain⟨s,a,l,c,t,b,k,d,e,g,i⟩:=h;exact⟨s,a,l,c,t,b,k,d,e,g.below f,i.below f⟩
theorem Jl.put4{W:E}{v:F}{p:Rat}(h:Jl W v p){B:Nat}{t:TypeId}{x y z u:F}(q:JF W B t x y z u)(f:JC x=true)(g:JC y=true)(i:JC z=true)(j:JC u=true)(r w A o:F):Jl (put4 W B r w A o) v p:=by
 obtain⟨s,a,l,c,t,b,k,d,e,m,n⟩:=h;exact⟨s,a,l,c,t,b,k,d,e,m.put4 q f g i j _ _ _ _,n.put4 q f g i j _ _ _ _⟩
end
section
inductive Dat
 |int(z:Int)
 |rat(q:Rat)
 |big(z:Int)
 |ref(q:Rat)
 |zref
 |pair(x y:Int)
def Dat.ty:Dat->TypeId
 |.int _=>35
 |.rat _=>37
 |.big _=>45
 |.ref _=>47
 |.zref=>47
 |.pair _ _=>37
def II(W:E)(v:F)(x y:Int):Prop:=∃s a l c t b k d,v=I #[G s,C a l c,G t,C b k d]/\Jm W (I #[G s,C a l c]) x/\Jm W (I #[G t,C b k d]) y
variable{cs:Array F}{r:Bool}{d:Dat}{z z0:Int}{bs:List (Option (Nat × Dat))}{qs:List Rat}{B b i j n o:Nat}{m:Nat × Nat}{q q0:Rat}{t:TypeId}{u u0 v x x0 y:F}{V V' W w:E}
theorem Jj.pair(h:Jj W v q):II W v q.num (EI q):=h
theorem II.below{W W':E}{v:F}{x y:Int}(h:II W v x y)(f:Bl W W'):II W' v x y:=by
 obtain⟨s,a,l,c,t,b,k,d,e,g,i⟩:=h;exact⟨s,a,l,c,t,b,k,d,e,g.below f,i.below f⟩
def Has(V:E)(v:F):Dat->Prop
 |.int z=>Jm V v z
 |.rat q=>Jj V v q
 |.big z=>Jv V v z
 |.ref q=>Jl V v q
 |.zref=>v=I #[C none 0 0,G false,C none 0 0,G false]
 |.pair x y=>II V v x y
theorem Has.below{V V':E}{v:F}{d:Dat}(h:Has V v d)(a:Bl V V'):Has V' v d:=by
 cases d with
 |int z=>exact Jm.below h a
 |rat q=>exact Jj.below h a
 |big z=>exact Jv.below h a
 |ref q=>exact Jl.below h a
 |zref=>exact h
 |pair x y=>exact II.below h a
theorem Has.alloc{V:E}{v:F}{d:Dat}(h:Has V v d)(o:Obj):Has (V.alloc o) v d:=h.below (Ba V o)
theorem Has.keep{V V':E}{v:F}{d:Dat}(h:Has V v d)(f:∀k v ds,Row k V v ds->Row k V' v ds):Has V' v d:=by
 cases d with
 |zref=>exact h
 |pair x y=>
  obtain⟨s,a,l,c,t,b,k,d,e,⟨g,l1,c1,j,n⟩,⟨i,l2,c2,m,o⟩⟩:=h;exact⟨s,a,l,c,t,b,k,d,e,⟨g,l1,c1,j,f _ _ _ n⟩,⟨i,l2,c2,m,f _ _ _ o⟩⟩
 |int z=>obtain⟨a,l,c,e,p⟩:=h;exact⟨a,l,c,e,f _ _ _ p⟩
 |big z=>obtain⟨a,l,c,e,p⟩:=h;exact⟨a,l,c,e,f _ _ _ p⟩
 |rat q=>
  obtain⟨s,a,l,c,t,b,k,d,e,⟨g,l1,c1,j,n⟩,⟨i,l2,c2,m,o⟩⟩:=h;exact⟨s,a,l,c,t,b,k,d,e,⟨g,l1,c1,j,f _ _ _ n⟩,⟨i,l2,c2,m,f _ _ _ o⟩⟩
 |ref q=>
  obtain⟨s,a,l,c,t,b,k,d,e,⟨g,l1,c1,j,n⟩,⟨i,l2,c2,m,o⟩⟩:=h;exact⟨s,a,l,c,t,b,k,d,e,⟨g,l1,c1,j,f _ _ _ n⟩,⟨i,l2,c2,m,f _ _ _ o⟩⟩
def Bx(V:E)(B:Nat)(t:TypeId)(cs:Array F):Prop:=V.heap[B]?=some (H cs t (0,0))
theorem Bx.lt(h:Bx V B t cs):B<V.heap.size:=(Ab.1 h).1
theorem Bx.below(h:Bx V B t cs)(a:Bl V V'):Bx V' B t cs:=(a.block B h.lt).trans h
theorem Bx.far(h:Bx V B t cs){p:Addr}(hp:B≠p.block)(u:F):Bx (V.setCell p u) B t cs:=(BD V p u B hp).trans h
def Mem(w V:E)(bs:List (Option (Nat × Dat))):Prop:=
 (∀(i:Nat) B d,bs[i]?=some (some (B,d))->(∃cs,Bx V B d.ty cs/\Has V (I cs) d)/\w.heap.size<=B)/\
 (∀(i j:Nat) B d a,bs[i]?=some (some (B,d))->bs[j]?=some (some (B,a))->i=j)/\Bl w V
theorem Mem.nil(w:E):Mem w w []:=⟨λi B z h=>by simp at h,λi j B z a h=>by simp at h,BA _ w⟩
theorem Mem.int{w V:E}{bs:List (Option (Nat × Dat))}(M:Mem w V bs){i B:Nat}{z:Int}(h:bs[i]?=some (some (B,.int z))):∃s a l c,Jp V B 35 (G s) (C a l c)/\Jm V (I #[G s,C a l c]) z:=by
 obtain⟨⟨cs,b,d⟩,_⟩:=M.1 i B _ h;obtain⟨a,l,c,e,f⟩:=d;cases e;exact⟨_,a,l,c,b,a,l,c,rfl,f⟩
theorem Mem.big{w V:E}{bs:List (Option (Nat × Dat))}(M:Mem w V bs){i B:Nat}{z:Int}(h:bs[i]?=some (some (B,.big z))):∃a l c s,Jp V B 45 (C a l c) (G s)/\Jv V (I #[C a l c,G s]) z:=by
 obtain⟨⟨cs,b,d⟩,_⟩:=M.1 i B _ h;obtain⟨a,l,c,e,f⟩:=d;cases e;exact⟨a,l,c,_,b,a,l,c,rfl,f⟩
theorem Mem.rat{w V:E}{bs:List (Option (Nat × Dat))}(M:Mem w V bs){i B:Nat}{q:Rat}(h:bs[i]?=some (some (B,.rat q))):
 ∃s a l c t b k d,JF V B 37 (G s) (C a l c) (G t) (C b k d)/\Jj V (I #[G s,C a l c,G t,C b k d]) q/\Jm V (I #[G s,C a l c]) q.num/\Jm V (I #[G t,C b k d]) (EI q):=by
 obtain⟨⟨cs,m,f⟩,_⟩:=M.1 i B _ h;have n:=f;obtain⟨s,a,l,c,t,b,k,d,e,g,j⟩:=f;cases e;exact⟨s,a,l,c,t,b,k,d,m,n,g,j⟩
theorem Mem.ref{w V:E}{bs:List (Option (Nat × Dat))}(M:Mem w V bs){i B:Nat}{q:Rat}(h:bs[i]?=some (some (B,.ref q))):
 ∃a l c s b k d t,JF V B 47 (C a l c) (G s) (C b k d) (G t)/\Jl V (I #[C a l c,G s,C b k d,G t]) q/\Jv V (I #[C a l c,G s]) q.num/\Jv V (I #[C b k d,G t]) (q.den:Int):=by
 obtain⟨⟨cs,m,f⟩,_⟩:=M.1 i B _ h;have n:=f;obtain⟨s,a,l,c,t,b,k,d,e,g,j⟩:=f;cases e;exact⟨s,a,l,c,t,b,k,d,m,n,g,j⟩
theorem Mem.below{w V V':E}{bs:List (Option (Nat × Dat))}(M:Mem w V bs)(a:Bl V V'):Mem w V' bs:=
 ⟨λi B z h=>by
  obtain⟨⟨cs,b,c⟩,d⟩:=M.1 i B z h;exact⟨⟨cs,b.below a,c.below a⟩,d⟩,M.2.1,Bt M.2.2 a⟩
theorem Mem.drew{w V:E}{bs:List (Option (Nat × Dat))}(M:Mem w V bs):Mem w V.drew bs:=M.below ((BA _ V).drew)
theorem Mem.sub{cs:List (Option (Nat × Dat))}(M:Mem w V bs)(f:Nat->Nat)(e:∀(i j:Nat),f i=f j->i=j)(h:∀(i:Nat) x,cs[i]?=some (some x)->bs[f i]?=some (some x)):Mem w V cs:=
 ⟨λi B d a=>M.1 (f i) B d (h i _ a),λi j B d b a c=>e i j (M.2.1 (f i) (f j) B d b (h i _ a) (h j _ c)),M.2.2⟩
theorem Mem.take{w V:E}{bs:List (Option (Nat × Dat))}(M:Mem w V bs)(n:Nat):Mem w V (bs.take n):=by
 refine M.sub id (λ_ _ h=>h) λi x h=>?_;rw[Fe]at h;split at h
 . exact h
 . cases h
theorem Mem.none{w V:E}{bs:List (Option (Nat × Dat))}(M:Mem w V bs):Mem w V (bs++[Option.none]):=by
 refine M.sub id (λ_ _ h=>h) λi x h=>?_;by_cases a:i<bs.length
 . rwa[AO a]at h
 . rw[AG O]at h;obtain⟨k,b⟩:=ex (i-bs.length);rw[b]at h;cases k<;>simp at h
theorem Mem.fill(M:Mem w V bs)(h:bs[i]?=some Option.none)(d:Dat)(q:Has V (I cs) d):
 Mem w (V.alloc (H cs d.ty)) (bs.set i (some (V.heap.size,d))):=by
 have m:Bl V (V.alloc (H cs d.ty)):=Ba V _;have f:i<bs.length:=(Ad.1 h).1;have l:=M.below m;have n:∀(j:Nat) B d,bs[j]?=some (some (B,d))->B<V.heap.size:=λj B d h=>by
  obtain⟨⟨_,a,_⟩,_⟩:=M.1 j B d h;exact a.lt
 refine⟨λj B p e=>?_,λj k B d1 o a b=>?_,l.2.2⟩
 . by_cases c:i=j
   . subst c;rw[Cf f]at e;simp at e;obtain⟨rfl,rfl⟩:=e;exact⟨⟨cs,BE V _,q.below m⟩,M.2.2.size⟩
   . rw[A6 c]at e;exact l.1 j B p e
 . by_cases c:i=j<;>by_cases g:i=k
   . omega
   . subst c;rw[Cf f]at a;rw[A6 g]at b;simp at a;have:=n k B o b;omega
   . subst g;rw[Cf f]at b;rw[A6 c]at a;simp at b;have:=n j B d1 a;omega
   . rw[A6 c]at a;rw[A6 g]at b;exact M.2.1 j k B d1 o a b
theorem SV{α:Type}(l:List α)(x y:α):(l++[x]).set l.length y=l++[y]:=by
 induction l with
 |nil=>rfl
 |cons a l b=>simp
theorem Mem.push(M:Mem w V bs)(d:Dat)(a:Has V (I cs) d):Mem w (V.alloc (H cs d.ty)) (bs++[some (V.heap.size,d)]):=by
 have h:=M.none.fill (i:=bs.length) Z d a;rwa[SV]at h
theorem Mem.repl(M:Mem w V bs)(h:bs[i]?=some (some (B,d)))(c:Dat)(z:Bx V' B c.ty cs)(A:Has V (I cs) c)
(o:∀k v ds,Row k V v ds->Row k V' v ds)(D:∀B' t cs,B'≠B->Bx V B' t cs->Bx V' B' t cs)(y:Bl w V'):Mem w V' (bs.set i (some (B,c))):=by
 have n:i<bs.length:=(Ad.1 h).1;obtain⟨_,K⟩:=M.1 i B d h;refine⟨λj B' d1 a=>?_,λj k B' d1 r u x=>?_,y⟩
 . by_cases b:i=j
   . subst b;rw[Cf n]at a;simp at a;obtain⟨rfl,rfl⟩:=a;exact⟨⟨cs,z,A.keep o⟩,K⟩
   . rw[A6 b]at a;obtain⟨⟨q,g,l⟩,L⟩:=M.1 j B' d1 a;have p:B'≠B:=λe=>b (by rw[e]at a;exact M.2.1 i j B d d1 h a);exact⟨⟨q,D _ _ _ p g,l.keep o⟩,L⟩
 . have m:∀(j:Nat) d1,(bs.set i (some (B,c)))[j]?=some (some (B',d1))->∃f,bs[j]?=some (some (B',f)):=λj d1 a=>by
    by_cases b:i=j
    . subst b;rw[Cf n]at a;simp at a;exact⟨d,by rw[h,a.1]⟩
    . rw[A6 b]at a;exact⟨d1,a⟩
   obtain⟨f,g⟩:=m j d1 u;obtain⟨s,l⟩:=m k r x;exact M.2.1 j k B' f s g l
theorem keep2(q:Jp V B t x y)(b:JC x=true)(c:JC y=true)(a d:F):∀k v ds,Row k V v ds->Row k ((V.setCell ⟨B,0,Option.none⟩ a).setCell ⟨B,1,Option.none⟩ d) v ds:=
 λ_ _ _ h=>Row.set (Row.set h q.c0 b _) (q.set0 a).c1 c _
theorem Mem.putInt(M:Mem w V bs)(h:bs[i]?=some (some (B,.int z0)))(f:Jm V (I #[x,y]) z):
 Mem w ((V.setCell ⟨B,0,Option.none⟩ x).setCell ⟨B,1,Option.none⟩ y) (bs.set i (some (B,.int z))):=by
 obtain⟨s,a,l,c,b,_⟩:=M.int h;obtain⟨_,e⟩:=M.1 i B _ h;exact M.repl h (.int z) (cs:=#[x,y]) ((b.set0 x).set1 y) f (keep2 b rfl rfl x y) (λB' t cs d g=>(g.far (p:=⟨B,0,Option.none⟩) d _).far (p:=⟨B,1,Option.none⟩) d _) ((M.2.2.setCell (p:=⟨B,0,Option.none⟩) e _).setCell (p:=⟨B,1,Option.none⟩) e _)
theorem Mem.putBig(M:Mem w V bs)(h:bs[i]?=some (some (B,.big z0)))(f:Jv V (I #[x,y]) z):
 Mem w ((V.setCell ⟨B,0,Option.none⟩ x).setCell ⟨B,1,Option.none⟩ y) (bs.set i (some (B,.big z))):=by
 obtain⟨a,l,c,s,b,_⟩:=M.big h;obtain⟨_,e⟩:=M.1 i B _ h;exact M.repl h (.big z) (cs:=#[x,y]) ((b.set0 x).set1 y) f (keep2 b rfl rfl x y) (λB' t cs d g=>(g.far (p:=⟨B,0,Option.none⟩) d _).far (p:=⟨B,1,Option.none⟩) d _) ((M.2.2.setCell (p:=⟨B,0,Option.none⟩) e _).setCell (p:=⟨B,1,Option.none⟩) e _)
theorem far4(x y z u:F):∀B' t cs,B'≠B->Bx V B' t cs->Bx (put4 V B x y z u) B' t cs:=λ_ _ _ a g=>(((g.far (p:=⟨B,0,Option.none⟩) a _).far (p:=⟨B,1,Option.none⟩) a _).far (p:=⟨B,2,Option.none⟩) a _).far (p:=⟨B,3,Option.none⟩) a _
theorem Mem.putRat(M:Mem w V bs)(h:bs[i]?=some (some (B,.rat q0))){z:F}(b:Jj V (I #[x,y,z,u]) q):
 Mem w (put4 V B x y z u) (bs.set i (some (B,.rat q))):=by
 obtain⟨_,_,_,_,_,_,_,_,a,_⟩:=M.rat h;obtain⟨_,c⟩:=M.1 i B _ h;exact M.repl h (.rat q) (cs:=#[x,y,z,u]) (a.put x y z u) b (λ_ _ _ g=>Row.put4 g a rfl rfl rfl rfl _ _ _ _) (far4 x y z u) (Jo M.2.2 c _ _ _ _)
theorem Mem.putRef(M:Mem w V bs)(h:bs[i]?=some (some (B,.ref q0))){z:F}(b:Jl V (I #[x,y,z,u]) q):
 Mem w (put4 V B x y z u) (bs.set i (some (B,.ref q))):=by
 obtain⟨_,_,_,_,_,_,_,_,a,_⟩:=M.ref h;obtain⟨_,c⟩:=M.1 i B _ h;exact M.repl h (.ref q) (cs:=#[x,y,z,u]) (a.put x y z u) b (λ_ _ _ g=>Row.put4 g a rfl rfl rfl rfl _ _ _ _) (far4 x y z u) (Jo M.2.2 c _ _ _ _)
theorem Mem.zref{w V:E}{bs:List (Option (Nat × Dat))}(M:Mem w V bs){i B:Nat}(h:bs[i]?=some (some (B,.zref))):JF V B 47 (C Option.none 0 0) (G false) (C Option.none 0 0) (G false):=by
 obtain⟨⟨cs,a,b⟩,_⟩:=M.1 i B _ h;cases(show Value.agg cs=_ from b);exact a
theorem Mem.putZref(M:Mem w V bs)(h:bs[i]?=some (some (B,.zref))){z:F}(b:Jl V (I #[x,y,z,u]) q):
 Mem w (put4 V B x y z u) (bs.set i (some (B,.ref q))):=by
 have a:=M.zref h;obtain⟨_,c⟩:=M.1 i B _ h;exact M.repl h (.ref q) (cs:=#[x,y,z,u]) (a.put x y z u) b (λ_ _ _ g=>Row.put4 g a rfl rfl rfl rfl _ _ _ _) (far4 x y z u) (Jo M.2.2 c _ _ _ _)
theorem Has.set2(h:Has V v d)(q:Jp V B t x y)(c:JC x=true)(e:JC y=true)(a b:F):Has ((V.setCell ⟨B,0,Option.none⟩ a).setCell ⟨B,1,Option.none⟩ b) v d:=h.keep (keep2 q c e a b)
theorem Has.put4{V:E}{v:F}{d:Dat}(h:Has V v d){B:Nat}{t:TypeId}{x y z u:F}(q:JF V B t x y z u)(a:JC x=true)(b:JC y=true)(c:JC z=true)(e:JC u=true)(i j k f:F):Has (Go.Proofs.YtakpoihdghihmaaGreatDoor.put4 V B i j k f) v d:=h.keep λ_ _ _ g=>Row.put4 g q a b c e _ _ _ _
theorem Jm.form2(h:Jm W v z):∃s a l c,v=I #[G s,C a l c]:=by
 obtain⟨a,l,c,e,_⟩:=h;exact⟨_,a,l,c,e⟩
theorem Jv.form2(h:Jv W v z):∃a l c s,v=I #[C a l c,G s]:=by
 obtain⟨a,l,c,e,_⟩:=h;exact⟨a,l,c,_,e⟩
theorem Jj.form(h:Jj W v q):∃s a l c t b k d,v=I #[G s,C a l c,G t,C b k d]:=by
 obtain⟨s,a,l,c,t,b,k,d,e,_⟩:=h;exact⟨s,a,l,c,t,b,k,d,e⟩
theorem Jl.form(h:Jl W v q):∃a l c s b k d t,v=I #[C a l c,G s,C b k d,G t]:=by
 obtain⟨s,a,l,c,t,b,k,d,e,_⟩:=h;exact⟨s,a,l,c,t,b,k,d,e⟩
theorem Mem.ne(M:Mem w V bs)(i j:Nat){B':Nat}{a:Dat}(h:bs[i]?=some (some (B,d)))(b:bs[j]?=some (some (B',a)))(c:i≠j):B≠B':=λe=>by
 subst e;exact c (M.2.1 i j B d a h b)
theorem Mem.ge(M:Mem w V bs)(i:Nat)(h:bs[i]?=some (some (B,d))):w.heap.size<=B:=(M.1 i B d h).2
theorem EM(W:E):Jm W (I #[G false,C Option.none 0 0]) 0:=
 ⟨Option.none,0,0,Z,by unfold UN;rw[Int.natAbs_zero,JH];exact Row.nil _ _⟩
theorem cG(W:E):Jv W (I #[C Option.none 0 0,G false]) 0:=
 ⟨Option.none,0,0,Z,by unfold RN;rw[Int.natAbs_zero,JH];exact Row.nil _ _⟩
theorem EQ(W:E):Jj W (I #[G false,C Option.none 0 0,G false,C Option.none 0 0]) 0:=⟨_,_,_,_,_,_,_,_,rfl,EM W,EM W⟩
def Tup2(V:E)(t:F)(d1 a:Dat):Prop:=∃u1 u2,t=.tuple #[u1,u2,G true]/\Has V u1 d1/\Has V u2 a
theorem Tup2.below{V V':E}{t:F}{d1 a:Dat}(h:Tup2 V t d1 a)(b:Bl V V'):Tup2 V' t d1 a:=by
 obtain⟨u1,u2,e,c,d⟩:=h;exact⟨u1,u2,e,c.below b,d.below b⟩
theorem Tup2.alloc{V:E}{t:F}{d1 a:Dat}(h:Tup2 V t d1 a)(o:Obj):Tup2 (V.alloc o) t d1 a:=by
 obtain⟨u1,u2,e,b,c⟩:=h;exact⟨u1,u2,e,b.alloc o,c.alloc o⟩
theorem Tup2.set2{V:E}{v:F}{d1 c:Dat}(h:Tup2 V v d1 c){B:Nat}{t:TypeId}{x y:F}(q:Jp V B t x y)(d:JC x=true)(f:JC y=true)(a b:F):Tup2 ((V.setCell ⟨B,0,Option.none⟩ a).setCell ⟨B,1,Option.none⟩ b) v d1 c:=by
 obtain⟨u1,u2,e,g,i⟩:=h;exact⟨u1,u2,e,g.set2 q d f a b,i.set2 q d f a b⟩
def EF(r:Bool)(W:E)(v:F)(q:Rat):Prop:=match r with|true=>Jj W v q|false=>Jl W v q
def D5(r:Bool):TypeId:=match r with|true=>37|false=>47
theorem EF.below{r:Bool}{W W':E}{v:F}{q:Rat}(h:EF r W v q)(a:Bl W W'):EF r W' v q:=by
 cases r with
 |true=>exact Jj.below h a
 |false=>exact Jl.below h a
theorem EF.keep{r:Bool}{W W':E}{v:F}{q:Rat}(h:EF r W v q)(a:∀k v ds,Row k W v ds->Row k W' v ds):EF r W' v q:=by
 cases r with
 |true=>exact Has.keep (d:=.rat q) h a
 |false=>exact Has.keep (d:=.ref q) h a
theorem EF.form(h:EF r W v q):∃x y z u,v=I #[x,y,z,u]/\JC x=true/\JC y=true/\JC z=true/\JC u=true:=by
 cases r with
 |true=>
  obtain⟨s,a,l,c,t,b,k,d,e,_⟩:=(show Jj W v q from h);exact⟨_,_,_,_,e,rfl,rfl,rfl,rfl⟩
 |false=>
  obtain⟨s,a,l,c,t,b,k,d,e,_⟩:=(show Jl W v q from h);exact⟨_,_,_,_,e,rfl,rfl,rfl,rfl⟩
theorem EF.no{z:F}(h:EF r W (I #[x,y,z,u]) q):JC x=true/\JC y=true/\JC z=true/\JC u=true:=by
 obtain⟨g,i,j,f,e,a,b,c,d⟩:=h.form;cases e;exact⟨a,b,c,d⟩
theorem EF.one{z:F}(h:EF r W (I #[x,y,z,u]) q):∀v∈[x,y,z,u],v.oneCell'=true:=by
 cases r with
 |true=>
  obtain⟨s,a,l,c,t,b,k,d,e,_⟩:=(show Jj W _ q from h);cases e;intro v f;simp at f;rcases f with rfl|rfl|rfl|rfl<;>rfl
 |false=>
  obtain⟨s,a,l,c,t,b,k,d,e,_⟩:=(show Jl W _ q from h);cases e;intro v f;simp at f;rcases f with rfl|rfl|rfl|rfl<;>rfl
def Dz(r:Bool)(W:E)(b:Nat)(qs:List Rat):Prop:=
 ∃cs:Array F,W.heap[b]?=some (H cs (D5 r) (0,0))/\∀j,j<qs.length->∃x y z u,cs[j*4]?=some x/\cs[j*4+1]?=some y/\cs[j*4+2]?=some z/\cs[j*4+3]?=some u/\EF r W (I #[x,y,z,u]) (cf qs j)
theorem Dz.lt(h:Dz r W b qs):b<W.heap.size:=by obtain⟨cs,h,_⟩:=h;exact(Ab.1 h).1
theorem Dz.below{r:Bool}{W W':E}{b:Nat}{qs:List Rat}(h:Dz r W b qs)(a:Bl W W'):Dz r W' b qs:=by
 have hl:=h.lt;obtain⟨cs,g,i⟩:=h;refine⟨cs,(a.block b hl).trans g,λj l=>?_⟩;obtain⟨x,y,z,u,c,d,e,f,k⟩:=i j l;exact⟨x,y,z,u,c,d,e,f,k.below a⟩
theorem Dz.keep{r:Bool}{W W':E}{b:Nat}{qs:List Rat}(h:Dz r W b qs)(l:W'.heap[b]?=W.heap[b]?)(n:∀k v ds,Row k W v ds->Row k W' v ds):Dz r W' b qs:=by
 obtain⟨cs,f,g⟩:=h;refine⟨cs,l.trans f,λj m=>?_⟩;obtain⟨x,y,z,u,a,c,d,e,i⟩:=g j m;exact⟨x,y,z,u,a,c,d,e,i.keep n⟩
theorem Dz.take{r:Bool}{W:E}{b:Nat}{qs:List Rat}(h:Dz r W b qs)(n:Nat):Dz r W b (qs.take n):=by
 obtain⟨cs,f,g⟩:=h;refine⟨cs,f,λj k=>?_⟩;rw[Ak]at k;obtain⟨x,y,z,u,a,c,d,e,i⟩:=g j O;exact⟨x,y,z,u,a,c,d,e,by rw[OK,BC O];exact i⟩
theorem Dz.at(h:Dz r W b qs)(k:j<qs.length):
 ∃x y z u,W.cell? ⟨b,j*4,none⟩=some x/\W.cell? ⟨b,j*4+1,none⟩=some y/\W.cell? ⟨b,j*4+2,none⟩=some z/\W.cell? ⟨b,j*4+3,none⟩=some u/\EF r W (I #[x,y,z,u]) (cf qs j):=by
 obtain⟨cs,a,g⟩:=h;obtain⟨x,y,z,u,c,d,e,f,i⟩:=g j k;exact⟨x,y,z,u,by simp[World.cell?,a,c],by simp[World.cell?,a,d],by simp[World.cell?,a,e],by simp[World.cell?,a,f],i⟩
theorem Dz.frozen{r:Bool}{W:E}{b:Nat}{qs:List Rat}(h:Dz r W b qs)(o:Nat):W.frozen? ⟨b,o,none⟩=false:=by obtain⟨cs,a,_⟩:=h;simp[World.frozen?,a]
def putAt(W:E)(b o:Nat)(x y z u:F):E:=(((W.setCell ⟨b,o,none⟩ x).setCell ⟨b,o+1,none⟩ y).setCell ⟨b,o+2,none⟩ z).setCell ⟨b,o+3,none⟩ u
theorem J2(h:W.heap[b]?=some (H cs t m))(v:F):(W.setCell ⟨b,o,none⟩ v).heap[b]?=some (H (cs.setIfInBounds o v) t m):=by
 obtain⟨c,a⟩:=Ab.1 h;show(W.heap.modify b _)[b]?=_;rw[Cb (by rw[CX];exact c),Cq,a];simp
theorem SW(h:W.heap[b]?=some (H cs t m))(x y z u:F):(putAt W b o x y z u).heap[b]?=some (H ((((cs.setIfInBounds o x).setIfInBounds (o+1) y).setIfInBounds (o+2) z).setIfInBounds (o+3) u) t m):=
 J2 (J2 (J2 (J2 h x) y) z) u
theorem Lx(a:B≠b)(x y z u:F):(putAt W b o x y z u).heap[B]?=W.heap[B]?:=
 (BD _ _ _ B a).trans ((BD _ _ _ B a).trans ((BD _ _ _ B a).trans (BD _ _ _ B a)))
theorem SX(h:Below n w W)(a:n<=b)(x y z u:F):Below n w (putAt W b o x y z u):=
 (((h.setCell (p:=⟨b,o,none⟩) a _).setCell (p:=⟨b,o+1,none⟩) a _).setCell (p:=⟨b,o+2,none⟩) a _).setCell (p:=⟨b,o+3,none⟩) a _
theorem cell_of(h:W.heap[b]?=some (H cs t m))(e:cs[o]?=some x):W.cell? ⟨b,o,none⟩=some x:=by simp[World.cell?,h,e]
theorem cH{a z0:F}(h:W.heap[b]?=some (H cs t m))(c:cs[o]?=some x0)(d:cs[o+1]?=some a)(e:cs[o+2]?=some z0)(f:cs[o+3]?=some u0)
(i:JC x0=true)(j:JC a=true)(l:JC z0=true)(n:JC u0=true)(x y z u:F):∀k v ds,Row k W v ds->Row k (putAt W b o x y z u) v ds:=λk v ds g=>by
 have c1:((cs.setIfInBounds o x))[o+1]?=some a:=by rw[Al O];exact d
 have c2:(((cs.setIfInBounds o x).setIfInBounds (o+1) y))[o+2]?=some z0:=by rw[Al O,Al O];exact e
 have c3:((((cs.setIfInBounds o x).setIfInBounds (o+1) y).setIfInBounds (o+2) z))[o+3]?=some u0:=by rw[Al O,Al O,Al O];exact f
 exact Row.set (Row.set (Row.set (Row.set g (cell_of h c) i _) (cell_of (J2 h x) c1) j _) (cell_of (J2 (J2 h x) y) c2) l _) (cell_of (J2 (J2 (J2 h x) y) z) c3) n _
theorem Dz.putKeep(h:Dz r W b qs)(l:j<qs.length)(x y z u:F):∀k v ds,Row k W v ds->Row k (putAt W b (j*4) x y z u) v ds:=by
 obtain⟨cs,f,g⟩:=h;obtain⟨x0,q,z0,u0,a,c,d,e,i⟩:=g j l;obtain⟨m,n,o,p⟩:=i.no;exact cH f a c d e m n o p x y z u
theorem Dz.set{r:Bool}{W:E}{b:Nat}{qs:List Rat}(h:Dz r W b qs){j:Nat}(a:j<qs.length){x y z u:F}{q:Rat}(B:EF r W (I #[x,y,z,u]) q):Dz r (putAt W b (j*4) x y z u) b (qs.set j q):=by
 have f:=h.putKeep a x y z u;obtain⟨cs,w,c⟩:=h;obtain⟨x0,M,z0,u0,p,s,t,v,L⟩:=c j a;refine⟨_,SW w x y z u,λi d=>?_⟩;rw[CB]at d;have k:=(Ab.1 p).1;have m:=(Ab.1 s).1;have l:=(Ab.1 t).1;have g:=(Ab.1 v).1;by_cases e:i=j
 . subst e;refine⟨x,y,z,u,?_,?_,?_,?_,?_⟩
   . rw[Al O,Al O,Al O,CC k]
   . rw[Al O,Al O,CC (by simpa using m)]
   . rw[Al O,CC (by simpa using l)]
   . rw[CC (by simpa using g)]
   . rw[X7 _ _ _ _ a,BC rfl];exact B.keep f
 . obtain⟨x1,D,K,u1,d0,d1,n,o,A⟩:=c i d;refine⟨x1,D,K,u1,?_,?_,?_,?_,?_⟩
   . rw[Al O,Al O,Al O,Al O];exact d0
   . rw[Al O,Al O,Al O,Al O];exact d1
   . rw[Al O,Al O,Al O,Al O];exact n
   . rw[Al O,Al O,Al O,Al O];exact o
   . rw[X7 _ _ _ _ a,BB e];exact A.keep f
def RowK(r:Bool)(W:E)(v:F)(qs:List Rat):Prop:=
 ∃a cap,v=C a qs.length cap/\qs.length<=cap/\cap<=9223372036854775807/\qs.length<=1099511627776/\(qs=[]\/∃b,a=some ⟨b,0,none⟩/\Dz r W b qs)
theorem RowK.below{r:Bool}{W W':E}{v:F}{qs:List Rat}(h:RowK r W v qs)(k:Bl W W'):RowK r W' v qs:=by
 obtain⟨a,cap,e,f,g,i,c⟩:=h;refine⟨a,cap,e,f,g,i,?_⟩;rcases c with c|⟨b,d,j⟩
 . exact Or.inl c
 . exact Or.inr ⟨b,d,j.below k⟩
theorem RowK.nil(r:Bool)(W:E):RowK r W (C none 0 0) []:=⟨none,0,rfl,Aa _,O,Z,Or.inl rfl⟩
theorem Dz.row(h:Dz r W b qs){cap:Nat}(d:n<=qs.length)(c:n<=cap)(a:cap<=9223372036854775807)(hl:n<=1099511627776):RowK r W (C (some ⟨b,0,none⟩) n cap) (qs.take n):=by
 have e:(qs.take n).length=n:=by rw[Ak];omega
 exact⟨_,cap,by rw[e],O,a,O,Or.inr ⟨b,rfl,h.take n⟩⟩
theorem RowK.open(h:RowK r W v qs):∃a cap,v=C a qs.length cap/\qs.length<=cap/\cap<=9223372036854775807/\qs.length<=1099511627776/\
 Hid (∀j,j<qs.length->∃b,a=some ⟨b,0,none⟩/\Dz r W b qs):=by
 obtain⟨a,cap,e,g,i,k,c⟩:=h;refine⟨a,cap,e,g,i,k,λj d=>?_⟩;rcases c with c|⟨b,f,l⟩
 . rw[c]at d;simp at d
 . exact⟨b,f,l⟩
theorem RowK.take{r:Bool}{W:E}{a:Option Addr}{l cap:Nat}{qs:List Rat}(h:RowK r W (C a l cap) qs){n:Nat}(m:n<=l):RowK r W (C a n cap) (qs.take n):=by
 obtain⟨a',i,e,j,f,k,c⟩:=h;cases e;have e:(qs.take n).length=n:=by rw[Ak];omega
 refine⟨a,cap,by rw[e],O,f,O,?_⟩;rcases c with c|⟨b,d,g⟩
 . left;rw[c];simp
 . exact Or.inr ⟨b,d,g.take n⟩
def Jh(W:E)(v:F)(ps:List Rat):Prop:=∃u,v=I #[u]/\RowK true W u ps
theorem Jh.below{W W':E}{v:F}{ps:List Rat}(h:Jh W v ps)(b:Bl W W'):Jh W' v ps:=by
 obtain⟨u,e,a⟩:=h;exact⟨u,e,a.below b⟩
theorem RowK.form(h:RowK r W v qs):∃a l c,v=C a l c:=by
 obtain⟨a,cap,e,_⟩:=h;exact⟨a,_,cap,e⟩
theorem Jh.form{W:E}{v:F}{ps:List Rat}(h:Jh W v ps):∃a l c,v=I #[C a l c]:=by
 obtain⟨u,e,b⟩:=h;obtain⟨a,l,c,rfl⟩:=b.form;exact⟨a,l,c,e⟩
theorem Jh.row{a:Option Addr}{l c:Nat}{ps:List Rat}(h:Jh W (I #[C a l c]) ps):RowK true W (C a l c) ps:=by
 obtain⟨u,e,b⟩:=h;cases e;exact b
@[irreducible] def Da(qs:List Rat):Prop:=∀i,Sq (cf qs i)
theorem Da.at(h:Da qs)(i:Nat):Sq (cf qs i):=by unfold Da at h;exact h i
theorem Da.of(h:∀i,Sq (cf qs i)):Da qs:=by unfold Da;exact h
def Xa(r:Bool)(W:E)(cs:List F)(qs:List Rat):Prop:=
 cs.length=qs.length*4/\∀j,j<qs.length->∃x y z u,cs[j*4]?=some x/\cs[j*4+1]?=some y/\cs[j*4+2]?=some z/\cs[j*4+3]?=some u/\EF r W (I #[x,y,z,u]) (cf qs j)
theorem Xa.nil(r:Bool)(W:E):Xa r W [] []:=⟨rfl,λj a=>by simp at a⟩
theorem Xa.below{r:Bool}{W W':E}{cs:List F}{qs:List Rat}(h:Xa r W cs qs)(f:Bl W W'):Xa r W' cs qs:=by
 refine⟨h.1,λj g=>?_⟩;obtain⟨x,y,z,u,a,b,c,d,e⟩:=h.2 j g;exact⟨x,y,z,u,a,b,c,d,e.below f⟩
theorem Xa.keep{r:Bool}{W W':E}{cs:List F}{qs:List Rat}(h:Xa r W cs qs)(g:∀k v ds,Row k W v ds->Row k W' v ds):Xa r W' cs qs:=by
 refine⟨h.1,λj f=>?_⟩;obtain⟨x,y,z,u,a,b,c,d,e⟩:=h.2 j f;exact⟨x,y,z,u,a,b,c,d,e.keep g⟩
theorem Xa.one{r:Bool}{W:E}{cs:List F}{qs:List Rat}(h:Xa r W cs qs):∀v∈cs,v.oneCell'=true:=by
 intro v l;obtain⟨k,j,rfl⟩:=F1.1 l;have hl:=h.1;obtain⟨x,y,z,u,d,e,f,g,i⟩:=h.2 (k/4) O;have b:=i.one;have c:cs[k]?=some cs[k]:=Af j;have a:k=k/4*4\/k=k/4*4+1\/k=k/4*4+2\/k=k/4*4+3:=O
 rcases a with a|a|a|a
 . rw[<-a,c]at d;cases d;exact b _ Z
 . rw[<-a,c]at e;cases e;exact b _ Z
 . rw[<-a,c]at f;cases f;exact b _ Z
 . rw[<-a,c]at g;cases g;exact b _ Z
theorem Xa.snoc{cs:List F}(h:Xa r W cs qs){z:F}(hq:EF r W (I #[x,y,z,u]) q):Xa r W (cs++[x,y,z,u]) (qs++[q]):=by
 have hl:=h.1;refine⟨by simp;omega,λj g=>?_⟩;rw[Aq,FT]at g;by_cases i:j<qs.length
 . obtain⟨l,m,n,k,b,c,d,e,f⟩:=h.2 j i;refine⟨l,m,n,k,?_,?_,?_,?_,?_⟩
   . rw[AO O];exact b
   . rw[AO O];exact c
   . rw[AO O];exact d
   . rw[AO O];exact e
   . rw[OJ,BB O];exact f
 . have a:j=qs.length:=O
   subst a;refine⟨x,y,z,u,?_,?_,?_,?_,?_⟩
   . rw[AG O,show qs.length*4-cs.length=0 from by omega];rfl
   . rw[AG O,show qs.length*4+1-cs.length=1 from by omega];rfl
   . rw[AG O,show qs.length*4+2-cs.length=2 from by omega];rfl
   . rw[AG O,show qs.length*4+3-cs.length=3 from by omega];rfl
   . rw[OJ,BC rfl];exact hq
theorem Dz.cells(h:Dz r W b qs):∃cs,Xa r W cs qs/\∀j u,cs[j]?=some u->W.cell? ⟨b,j,none⟩=some u:=by
 obtain⟨a,k,d⟩:=h;have p:qs.length*4<=a.size:=by
  cases hq:qs.length with
  |zero=>omega
  |succ n=>
   obtain⟨x,y,z,u,_,_,_,c,_⟩:=d n O;have:=(Ab.1 c).1;omega
 refine⟨a.toList.take (qs.length*4),⟨by rw[Ak];have o:a.toList.length=a.size:=CO;omega,λj m=>?_⟩,λj u e=>?_⟩
 . obtain⟨x,y,z,u,f,g,i,c,l⟩:=d j m;refine⟨x,y,z,u,?_,?_,?_,?_,l⟩
   . rw[AV O,Ce];exact f
   . rw[AV O,Ce];exact g
   . rw[AV O,Ce];exact i
   . rw[AV O,Ce];exact c
 . rw[Fe]at e;split at e
   . rw[Ce]at e;exact cell_of k e
   . cases e
theorem RowK.owns{base:Nat}{cs:List F}(h:W.ownsRow base (D5 r) 4 v n cs)(e:Xa r W cs qs)(hl:qs.length<=1099511627776):RowK r W v qs/\n=qs.length/\(v=C none 0 0\/∃g cap,v=C (some ⟨g,0,none⟩) n cap/\base<=g/\Dz r W g qs):=by
 obtain⟨w,k⟩:=h;have s:n=qs.length:=by have:=e.1;omega
 subst s;rcases k with⟨rfl,i⟩|⟨g,cap,f,rfl,m,o,hle,q,A,t⟩
 . have:qs=[]:=Ao i
   subst this;exact⟨RowK.nil r W,rfl,Or.inl rfl⟩
 . have hE:Dz r W g qs:=by
    refine⟨f,o,λj p=>?_⟩;obtain⟨x,y,z,u,a,b,c,d,l⟩:=e.2 j p;rw[<-t]at a b c d;rw[AV O,Ce]at a b c d;exact⟨x,y,z,u,a,b,c,d,l⟩
   refine⟨⟨_,cap,rfl,hle,by unfold maxLen at q;omega,hl,Or.inr ⟨g,rfl,hE⟩⟩,rfl,Or.inr ⟨g,cap,rfl,m,hE⟩⟩
theorem Jv.form(h:Jv W v z):∃a l cap,v=I #[C a l cap,G (decide (z<0))]:=by
 obtain⟨a,l,cap,e,_⟩:=h;exact⟨a,l,cap,e⟩
theorem Jv.box{R:Nat}{u1 x1:F}(h:Jv W v z)(q:Jp W R t u0 u1)(c:JC u0=true)(d:JC u1=true):Jv ((W.setCell ⟨R,0,none⟩ x0).setCell ⟨R,1,none⟩ x1) v z:=by
 obtain⟨a,l,cap,e,b⟩:=h;exact⟨a,l,cap,e,Row.set (Row.set b q.c0 c _) (u0:=u1) (q.set0 x0).c1 d _⟩
theorem SY(M N:F)(x y:Int)(w:E)(f:Jv w M x)(g:Jv w N y)(W:EP x<=1000000000)(X:EP y<=1000000000):
 Calls Tryz.prog 159 #[M,N] w λe c=>∃u,e=.returned u/\Jv c u (x-y)/\Bl w c:=by
 obtain⟨a,la,ca,rfl⟩:=f.form;obtain⟨b,lb,cb,rfl⟩:=g.form;obtain⟨s,q⟩:=ex (decide (x<0));obtain⟨t,r⟩:=ex (decide (y<0));rw[q]at f ⊢;rw[r]at g ⊢;clear q r;obtain⟨W0,d⟩:=ex (((w.alloc (H #[C a la ca,G s] 45)).alloc (H #[C b lb cb,G t] 45)).alloc (H #[C none 0 0,G false] 45));have i:Bl w W0:=by rw[<-d];exact XS w _ _ _
 have b0:Jp W0 w.heap.size 45 (C a la ca) (G s):=by rw[<-d];exact((Jp.new w _ _ _).alloc _).alloc _
 have j:Jp W0 (w.heap.size+1) 45 (C b lb cb) (G t):=by
  have h:=(Jp.new (w.alloc (H #[C a la ca,G s] 45)) 45 (C b lb cb) (G t)).alloc (H #[C none 0 0,G false] 45);rw[Ax,d]at h;exact h
 have k:Jp W0 (w.heap.size+1+1) 45 (C none 0 0) (G false):=by
  have h:=Jp.new ((w.alloc (H #[C a la ca,G s] 45)).alloc (H #[C b lb cb,G t] 45)) 45 (C none 0 0) (G false);rw[Ax,Ax,d]at h;exact h
 have P:=Y λ(V:E) (h:Bl W0 V)=>Og _ y V ((g.below i).below h);have Q:=Y λ(V:E) (u:F) (h:Bl W0 V) (hu:Jv V u (-y))=>Of _ u x (-y) V ((f.below i).below h) hu W (by unfold EP at *;rw[FM];exact X);clear f g;go_enter Tryz.func159,Tryz.ntmps159
 go_wp2_with fail
 try rw[d]
 clear d;have hq:Bl W0 W0.drew:=(BA _ W0).drew;obtain⟨z,A⟩:=b0.cp;obtain⟨B,D⟩:=j.cp;have ad:¬(w.heap.size=w.heap.size+1+1):=O
 go_region_held3 (λc=>c.cell? ⟨w.heap.size,0,none⟩=some (C a la ca)/\c.cell? ⟨w.heap.size,1,none⟩=some (G s)/\c.cell? ⟨w.heap.size+1,0,none⟩=some (C b lb cb)/\c.cell? ⟨w.heap.size+1,1,none⟩=some (G t)) (refine⟨?_,?_,?_,?_⟩<;>(first|(go_keep;done)|((repeat rw[JG O]);simp[*];done)))
  (first
   |(go_at_call 142;refine(P.o _ hq).mono ?_;rintro e w1 ⟨u1,rfl,n,T⟩;obtain⟨na,nl,nc,rfl⟩:=n.form;obtain⟨s1,l⟩:=ex (decide (-y<0));rw[l]at n;rw[l];clear l;have hq:=Bt hq T;obtain⟨z,A⟩:=(b0.below hq).cp;obtain⟨B,D⟩:=(j.below hq).cp)
   |(go_at_call 96;refine(Q.o _ _ hq n).mono ?_;rintro e w2 ⟨u2,rfl,o,U⟩;obtain⟨L,sl,sc,rfl⟩:=o.form;obtain⟨K,m⟩:=ex (decide (x+-y<0));rw[m]at o;rw[m];clear m;have hq:=Bt hq U;obtain⟨z,A⟩:=(b0.below hq).cp;obtain⟨B,D⟩:=(j.below hq).cp;obtain⟨r0,r1⟩:=(k.below hq).cp;obtain⟨f0,f1⟩:=(k.below hq).fp))
 all_goals go_wp2_with fail
 have S:=Bt i hq;have R:=o.box (k.below hq) rfl rfl (x0:=C L sl sc) (x1:=G K);exact A0 (v:=I #[C L sl sc,G K]) (by simp[results,Tryz.results159,go_sem,r0,r1]) rfl ⟨_,rfl,by rw[Int.sub_eq_add_neg];exact R,(S.setCell (p:=⟨_,0,none⟩) Di _).setCell (p:=⟨_,1,none⟩) Di _⟩
theorem SZ(P Q:F)(x y:Int)(w:E)(f:Jm w P x)(X:Jm w Q y)(af:(Je DN x.natAbs).length<1099511627776)(ah:(Je DN y.natAbs).length<1099511627776):
 Calls Tryz.prog 67 #[P,Q] w λe c=>∃u,e=.returned u/\Jm c u (x-y)/\Bl w c:=by
 obtain⟨a,la,ca,rfl⟩:=f.form;obtain⟨b,lb,cb,W,g⟩:=X;cases W;obtain⟨s,A⟩:=ex (decide (x<0));obtain⟨t,n⟩:=ex (decide (y<0));rw[A]at f ⊢;rw[n];clear A;obtain⟨W0,d⟩:=ex (((w.alloc (H #[G s,C a la ca] 35)).alloc (H #[G t,C b lb cb] 35)).alloc (H #[G false,C none 0 0] 35));have i:Bl w W0:=by rw[<-d];exact XS w _ _ _
 have b0:Jp W0 w.heap.size 35 (G s) (C a la ca):=by rw[<-d];exact((Jp.new w _ _ _).alloc _).alloc _
 have j:Jp W0 (w.heap.size+1) 35 (G t) (C b lb cb):=by
  have h:=(Jp.new (w.alloc (H #[G s,C a la ca] 35)) 35 (G t) (C b lb cb)).alloc (H #[G false,C none 0 0] 35);rw[Ax,d]at h;exact h
 have k:Jp W0 (w.heap.size+1+1) 35 (G false) (C none 0 0):=by
  have h:=Jp.new ((w.alloc (H #[G s,C a la ca] 35)).alloc (H #[G t,C b lb cb] 35)) 35 (G false) (C none 0 0);rw[Ax,Ax,d]at h;exact h
 have r:(if(!t)=true then -(y.natAbs:Int)else y.natAbs)=-y:=by
  rw[<-n];by_cases h:y<0
  . simp only[h,DJ,Bool.not_true,Cx,if_false];omega
  . simp only[h,DE,Bool.not_false,if_true];omega
 have R:=Y (λ(V:E) (h:Bl W0 V)=>show Calls Tryz.prog 72 #[G (!t),C b lb cb] V λe c=>∃u,e=.returned u/\Jm c u (-y)/\Bl V c by
  have z:=Kw (!t) (C b lb cb) y.natAbs V (UN.below (UN.below g i) h);rw[r]at z;exact z)
 have S:=Y λ(V:E) (u:F) (h:Bl W0 V) (g:Jm V u (-y))=>O0 _ u x (-y) V ((f.below i).below h) g af (by rw[FM];exact ah);clear f g r n;go_enter Tryz.func67,Tryz.ntmps67
 go_wp2_with fail
 try rw[d]
 clear d;have hq:Bl W0 W0.drew:=(BA _ W0).drew;obtain⟨B,D⟩:=b0.cp;obtain⟨K,L⟩:=j.cp;have ai:¬(w.heap.size=w.heap.size+1+1):=O
 go_region_held3 (λc=>c.cell? ⟨w.heap.size,0,none⟩=some (G s)/\c.cell? ⟨w.heap.size,1,none⟩=some (C a la ca)/\c.cell? ⟨w.heap.size+1,0,none⟩=some (G t)/\c.cell? ⟨w.heap.size+1,1,none⟩=some (C b lb cb)) (refine⟨?_,?_,?_,?_⟩<;>(first|(go_keep;done)|((repeat rw[JG O]);simp[*];done)))
  (first
   |(go_at_call 72;refine(R.o _ hq).mono ?_;rintro e w1 ⟨u1,rfl,o,ad⟩;obtain⟨na,nl,nc,rfl⟩:=o.form;obtain⟨s1,l⟩:=ex (decide (-y<0));rw[l]at o;rw[l];clear l;have hq:=Bt hq ad;obtain⟨B,D⟩:=(b0.below hq).cp;obtain⟨K,L⟩:=(j.below hq).cp)
   |(go_at_call 83;refine(S.o _ _ hq o).mono ?_;rintro e w2 ⟨u2,rfl,q,ae⟩;obtain⟨N,sl,sc,rfl⟩:=q.form;obtain⟨M,m⟩:=ex (decide (x+-y<0));rw[m]at q;rw[m];clear m;have hq:=Bt hq ae;obtain⟨B,D⟩:=(b0.below hq).cp;obtain⟨K,L⟩:=(j.below hq).cp;obtain⟨r0,r1⟩:=(k.below hq).cp;obtain⟨f0,f1⟩:=(k.below hq).fp))
 all_goals go_wp2_with fail
 have U:=Bt i hq;have T:=q.box (k.below hq) rfl rfl (x0:=G M) (x1:=C N sl sc);exact A0 (v:=I #[G M,C N sl sc]) (by simp[results,Tryz.results67,go_sem,r0,r1]) rfl ⟨_,rfl,by rw[Int.sub_eq_add_neg];exact T,(U.setCell (p:=⟨_,0,none⟩) Di _).setCell (p:=⟨_,1,none⟩) Di _⟩
theorem cI(a:Option Addr)(la ca:Nat)(b:Option Addr)(lb cb m n:Nat)(w:E)(t:la+lb<=1099511627776)
(i:Row .u64 w (C a la ca) (Je DN m))(j:Row .u64 w (C b lb cb) (Je DN n)):
 Calls Tryz.prog 127 #[C a la ca,C b lb cb] w λe q=>∃u,e=.returned u/\UN q u (m*n)/\Bl w q:=by
 have l:=Kz (la+lb) O w;rw[show((la+lb:Nat):Int)=(la:Int)+(lb:Int)from by omega]at l;obtain⟨c,d⟩:∃c,c=w.alloc (H (cellsOf .u64 (List.replicate (la+lb) 0)).toArray 115):=⟨_,rfl⟩;have f:Bl w c:=by rw[d];exact Ba w _
 have k:DV c w.heap.size (List.replicate (la+lb) 0):=by rw[d];exact DV.made (BE w _)
 rw[<-d]at l;have r:=Y (aF w.heap.size (la+lb) (la+lb) (List.replicate (la+lb) 0) a la ca b lb cb m n c k (λx v=>by rw[CS v];unfold DN;omega) (by rw[Ay];exact Aa _) (Aa _) O t (Row.below i f) (Row.below j f)
  (λp e g=>by have:=KP i e g;omega) λp e g=>by have:=KP j e g;omega)
 clear d k i j;go_enter Tryz.func127,Tryz.ntmps127
 go_wp2_with(go_at_call 168;refine r.o.mono ?_;rintro e A ⟨u,rfl,⟨o,s⟩,_,_⟩;obtain⟨y,z,rfl⟩:=UN.form o)
 go_ret;exact⟨_,rfl,o,below_grown f s (Aa _)⟩
theorem XH(R S:F)(x y:Int)(w:E)(ha:Jm w R x)(hb:Jm w S y)(hl:(Je DN x.natAbs).length+(Je DN y.natAbs).length<=1099511627776):
 Calls Tryz.prog 69 #[R,S] w λe f=>∃u,e=.returned u/\Jm f u (x*y)/\Bl w f:=by
 obtain⟨a,la,ca,n,j⟩:=ha;cases n;obtain⟨b,lb,cb,n,A⟩:=hb;cases n;have X:=j.len;have Qe:=A.len;obtain⟨s,o⟩:=ex (decide (x<0));obtain⟨t,r⟩:=ex (decide (y<0));have B:(if(!(s==t))=true then -((x.natAbs*y.natAbs:Nat):Int)else((x.natAbs*y.natAbs:Nat):Int))=x*y:=by
  rw[<-o,<-r,<-CK];rcases Ft x 0 with c|c|c<;>rcases Ft y 0 with d|d|d
  . have:=Int.mul_pos_of_neg_of_neg c d;simp[c,d];omega
  . subst d;simp
  . have:=Int.mul_neg_of_neg_of_pos c d;have g:¬y<0:=O
    simp[c,g];omega
  . subst c;simp
  . subst c;simp
  . subst c;simp
  . have:=Int.mul_neg_of_pos_of_neg c d;have g:¬x<0:=O
    simp[d,g];omega
  . subst d;simp
  . have:=Int.mul_pos c d;have g:¬x<0:=O
    have h2:¬y<0:=O
    simp[g,h2];omega
 rw[o,r];obtain⟨W0,i⟩:=ex (((w.alloc (H #[G s,C a la ca] 35)).alloc (H #[G t,C b lb cb] 35)).alloc (H #[G false,C none 0 0] 35));have k:Bl w W0:=by rw[<-i];exact XS w _ _ _
 have b0:Jp W0 w.heap.size 35 (G s) (C a la ca):=by rw[<-i];exact((Jp.new w _ _ _).alloc _).alloc _
 have l:Jp W0 (w.heap.size+1) 35 (G t) (C b lb cb):=by
  have h:=(Jp.new (w.alloc (H #[G s,C a la ca] 35)) 35 (G t) (C b lb cb)).alloc (H #[G false,C none 0 0] 35);rw[Ax,i]at h;exact h
 have m:Jp W0 (w.heap.size+1+1) 35 (G false) (C none 0 0):=by
  have h:=Jp.new ((w.alloc (H #[G s,C a la ca] 35)).alloc (H #[G t,C b lb cb] 35)) 35 (G false) (C none 0 0);rw[Ax,Ax,i]at h;exact h
 have U:=Y λ(V:E) (h:Bl W0 V)=>cI a la ca b lb cb _ _ V O (UN.below (UN.below j k) h) (UN.below (UN.below A k) h);have T:=Y (λ(V:E) (u:F) (j:UN V u (x.natAbs*y.natAbs))=>show Calls Tryz.prog 72 #[G (!(s==t)),u] V λe f=>∃u,e=.returned u/\Jm f u (x*y)/\Bl V f by
  have g:=Kw (!(s==t)) u _ V j;rw[B]at g;exact g)
 clear j A B o r X Qe hl;go_enter Tryz.func69,Tryz.ntmps69
 go_wp2_with fail
 try rw[i]
 clear i;have hq:Bl W0 W0.drew:=(BA _ W0).drew;obtain⟨K,L⟩:=b0.cp;obtain⟨M,N⟩:=l.cp;have af:¬(w.heap.size=w.heap.size+1+1):=O
 go_region_held3 (λf=>f.cell? ⟨w.heap.size,0,none⟩=some (G s)/\f.cell? ⟨w.heap.size,1,none⟩=some (C a la ca)/\f.cell? ⟨w.heap.size+1,0,none⟩=some (G t)/\f.cell? ⟨w.heap.size+1,1,none⟩=some (C b lb cb)) (refine⟨?_,?_,?_,?_⟩<;>(first|(go_keep;done)|((repeat rw[JG O]);simp[*];done)))
  (first
   |(go_at_call 127;refine(U.o _ hq).mono ?_;rintro e w1 ⟨u1,rfl,D,ad⟩;obtain⟨na,nc,rfl⟩:=UN.form D;have hq:=Bt hq ad;obtain⟨K,L⟩:=(b0.below hq).cp;obtain⟨M,N⟩:=(l.below hq).cp)
   |(go_at_call 72;refine(T.o _ _ D).mono ?_;rintro e w2 ⟨u2,rfl,z,ae⟩;obtain⟨Q,sl,sc,rfl⟩:=z.form;obtain⟨P,q⟩:=ex (decide (x*y<0));rw[q]at z;rw[q];clear q;have hq:=Bt hq ae;obtain⟨K,L⟩:=(b0.below hq).cp;obtain⟨M,N⟩:=(l.below hq).cp;obtain⟨r0,r1⟩:=(m.below hq).cp;obtain⟨f0,f1⟩:=(m.below hq).fp))
 all_goals go_wp2_with fail
 have Qf:=Bt k hq;have W:=z.box (m.below hq) rfl rfl (x0:=G P) (x1:=C Q sl sc);exact A0 (v:=I #[G P,C Q sl sc]) (by simp[results,Tryz.results69,go_sem,r0,r1]) rfl ⟨_,rfl,W,(Qf.setCell (p:=⟨_,0,none⟩) Di _).setCell (p:=⟨_,1,none⟩) Di _⟩
end
namespace M3
inductive Dat
 |int(z:Int)
 |rat(q:Rat)
 |big(z:Int)
 |ref(q:Rat)
 |zref
 |pair(x y:Int)
 |rats(qs:List Rat)
 |poly(ps:List Rat)
 |cell(t:TypeId)(v:Value)
def Dat.ty:Dat->TypeId
 |.int _=>35
 |.rat _=>37
 |.big _=>45
 |.ref _=>47
 |.zref=>47
 |.pair _ _=>37
 |.rats _=>37
 |.poly _=>25
 |.cell t _=>t
def Has(V:E)(v:F):Dat->Prop
 |.int z=>Jm V v z
 |.rat q=>Jj V v q
 |.big z=>Jv V v z
 |.ref q=>Jl V v q
 |.zref=>v=I #[C none 0 0,G false,C none 0 0,G false]
 |.pair x y=>II V v x y
 |.rats qs=>∃cs,v=I cs/\∀j,j<qs.length->∃x y z u,cs[j*4]?=some x/\cs[j*4+1]?=some y/\cs[j*4+2]?=some z/\cs[j*4+3]?=some u/\EF true V (I #[x,y,z,u]) (cf qs j)
 |.poly ps=>Jh V v ps
 |.cell _ x=>v=I #[x]/\JC x=true
theorem Has.below{V V':E}{v:F}{d:Dat}(h:Has V v d)(a:Bl V V'):Has V' v d:=by
 cases d with
 |int z=>exact Jm.below h a
 |rat q=>exact Jj.below h a
 |big z=>exact Jv.below h a
 |ref q=>exact Jl.below h a
 |zref=>exact h
 |pair x y=>exact II.below h a
 |rats qs=>
  obtain⟨cs,e,h⟩:=h;refine⟨cs,e,λj k=>?_⟩;obtain⟨x,y,z,u,b,c,f,g,i⟩:=h j k;exact⟨x,y,z,u,b,c,f,g,i.below a⟩
 |poly ps=>exact Jh.below h a
 |cell t x=>exact h
theorem Has.alloc{V:E}{v:F}{d:Dat}(h:Has V v d)(o:Obj):Has (V.alloc o) v d:=h.below (Ba V o)
def Dat.noPoly:Dat->Bool|.poly _=>false|_=>true
theorem Has.keep{V V':E}{v:F}{d:Dat}(h:Has V v d)(f:∀k v ds,Row k V v ds->Row k V' v ds)(hp:d.noPoly=true\/∀v qs,RowK true V v qs->RowK true V' v qs):Has V' v d:=by
 cases d with
 |rats qs=>
  obtain⟨cs,e,h⟩:=h;refine⟨cs,e,λj D=>?_⟩;obtain⟨x,y,z,u,w,g,i,A,B⟩:=h j D;exact⟨x,y,z,u,w,g,i,A,B.keep f⟩
 |poly ps=>
  rcases hp with hp|hp
  . cases hp
  . obtain⟨u,e,m⟩:=h;exact⟨u,e,hp _ _ m⟩
 |cell t x=>exact h
 |zref=>exact h
 |pair x y=>
  obtain⟨s,a,l,c,t,b,k,d,e,⟨n,l1,c1,g,m⟩,⟨o,l2,c2,i,p⟩⟩:=h;exact⟨s,a,l,c,t,b,k,d,e,⟨n,l1,c1,g,f _ _ _ m⟩,⟨o,l2,c2,i,f _ _ _ p⟩⟩
 |int z=>obtain⟨a,l,c,e,r⟩:=h;exact⟨a,l,c,e,f _ _ _ r⟩
 |big z=>obtain⟨a,l,c,e,r⟩:=h;exact⟨a,l,c,e,f _ _ _ r⟩
 |rat q=>
  obtain⟨s,a,l,c,t,b,k,d,e,⟨n,l1,c1,g,m⟩,⟨o,l2,c2,i,p⟩⟩:=h;exact⟨s,a,l,c,t,b,k,d,e,⟨n,l1,c1,g,f _ _ _ m⟩,⟨o,l2,c2,i,f _ _ _ p⟩⟩
 |ref q=>
  obtain⟨s,a,l,c,t,b,k,d,e,⟨n,l1,c1,g,m⟩,⟨o,l2,c2,i,p⟩⟩:=h;exact⟨s,a,l,c,t,b,k,d,e,⟨n,l1,c1,g,f _ _ _ m⟩,⟨o,l2,c2,i,f _ _ _ p⟩⟩
def Bx(V:E)(B:Nat)(t:TypeId)(cs:Array F):Prop:=V.heap[B]?=some (H cs t (0,0))
variable{cs:Array F}{r:Bool}{d:Dat}{z0:Int}{bs:List (Option (Nat × Dat))}{qs:List Rat}{B i:Nat}{q q0:Rat}{t:TypeId}{m u x x0 y z:F}{V V' w:E}
theorem Bx.lt(h:Bx V B t cs):B<V.heap.size:=(Ab.1 h).1
theorem Bx.below(h:Bx V B t cs)(a:Bl V V'):Bx V' B t cs:=(a.block B h.lt).trans h
theorem Bx.far(h:Bx V B t cs){p:Addr}(hp:B≠p.block)(u:F):Bx (V.setCell p u) B t cs:=(BD V p u B hp).trans h
def noPoly:List (Option (Nat × Dat))->Bool
 |[]=>true
 |some (_,d)::t=>d.noPoly&&noPoly t
 |Option.none::t=>noPoly t
theorem Sa(h:noPoly bs=true){x:Nat × Dat}(e:bs[i]?=some (some x)):x.2.noPoly=true:=by
 induction bs generalizing i with
 |nil=>simp at e
 |cons b t a=>
  cases b with
  |none=>
   cases i with
   |zero=>simp at e
   |succ i=>exact a h (by simpa using e)
  |some y=>
   rw[noPoly,AU]at h;cases i with
   |zero=>simp at e;rw[<-e];exact h.1
   |succ i=>exact a h.2 (by simpa using e)
def Mem(w V:E)(bs:List (Option (Nat × Dat))):Prop:=
 (∀(i:Nat) B d,bs[i]?=some (some (B,d))->(∃cs,Bx V B d.ty cs/\Has V (I cs) d)/\w.heap.size<=B)/\
 (∀(i j:Nat) B d a,bs[i]?=some (some (B,d))->bs[j]?=some (some (B,a))->i=j)/\Bl w V
theorem Mem.nil(w:E):Mem w w []:=⟨λi B z h=>by simp at h,λi j B z a h=>by simp at h,BA _ w⟩
theorem Mem.int{w V:E}{bs:List (Option (Nat × Dat))}(M:Mem w V bs){i B:Nat}{z:Int}(h:bs[i]?=some (some (B,.int z))):∃s a l c,Jp V B 35 (G s) (C a l c)/\Jm V (I #[G s,C a l c]) z:=by
 obtain⟨⟨cs,b,d⟩,_⟩:=M.1 i B _ h;obtain⟨a,l,c,e,f⟩:=d;cases e;exact⟨_,a,l,c,b,a,l,c,rfl,f⟩
theorem Mem.big{w V:E}{bs:List (Option (Nat × Dat))}(M:Mem w V bs){i B:Nat}{z:Int}(h:bs[i]?=some (some (B,.big z))):∃a l c s,Jp V B 45 (C a l c) (G s)/\Jv V (I #[C a l c,G s]) z:=by
 obtain⟨⟨cs,b,d⟩,_⟩:=M.1 i B _ h;obtain⟨a,l,c,e,f⟩:=d;cases e;exact⟨a,l,c,_,b,a,l,c,rfl,f⟩
theorem Mem.rat{w V:E}{bs:List (Option (Nat × Dat))}(M:Mem w V bs){i B:Nat}{q:Rat}(h:bs[i]?=some (some (B,.rat q))):
 ∃s a l c t b k d,JF V B 37 (G s) (C a l c) (G t) (C b k d)/\Jj V (I #[G s,C a l c,G t,C b k d]) q/\Jm V (I #[G s,C a l c]) q.num/\Jm V (I #[G t,C b k d]) (EI q):=by
 obtain⟨⟨cs,m,f⟩,_⟩:=M.1 i B _ h;have n:=f;obtain⟨s,a,l,c,t,b,k,d,e,g,j⟩:=f;cases e;exact⟨s,a,l,c,t,b,k,d,m,n,g,j⟩
theorem Mem.ref{w V:E}{bs:List (Option (Nat × Dat))}(M:Mem w V bs){i B:Nat}{q:Rat}(h:bs[i]?=some (some (B,.ref q))):
 ∃a l c s b k d t,JF V B 47 (C a l c) (G s) (C b k d) (G t)/\Jl V (I #[C a l c,G s,C b k d,G t]) q/\Jv V (I #[C a l c,G s]) q.num/\Jv V (I #[C b k d,G t]) (q.den:Int):=by
 obtain⟨⟨cs,m,f⟩,_⟩:=M.1 i B _ h;have n:=f;obtain⟨s,a,l,c,t,b,k,d,e,g,j⟩:=f;cases e;exact⟨s,a,l,c,t,b,k,d,m,n,g,j⟩
theorem Mem.below{w V V':E}{bs:List (Option (Nat × Dat))}(M:Mem w V bs)(a:Bl V V'):Mem w V' bs:=
 ⟨λi B z h=>by
  obtain⟨⟨cs,b,c⟩,d⟩:=M.1 i B z h;exact⟨⟨cs,b.below a,c.below a⟩,d⟩,M.2.1,Bt M.2.2 a⟩
theorem Mem.drew{w V:E}{bs:List (Option (Nat × Dat))}(M:Mem w V bs):Mem w V.drew bs:=M.below ((BA _ V).drew)
theorem Mem.sub{cs:List (Option (Nat × Dat))}(M:Mem w V bs)(f:Nat->Nat)(e:∀(i j:Nat),f i=f j->i=j)(h:∀(i:Nat) x,cs[i]?=some (some x)->bs[f i]?=some (some x)):Mem w V cs:=
 ⟨λi B d a=>M.1 (f i) B d (h i _ a),λi j B d b a c=>e i j (M.2.1 (f i) (f j) B d b (h i _ a) (h j _ c)),M.2.2⟩
theorem Mem.take{w V:E}{bs:List (Option (Nat × Dat))}(M:Mem w V bs)(n:Nat):Mem w V (bs.take n):=by
 refine M.sub id (λ_ _ h=>h) λi x h=>?_;rw[Fe]at h;split at h
 . exact h
 . cases h
theorem Mem.none{w V:E}{bs:List (Option (Nat × Dat))}(M:Mem w V bs):Mem w V (bs++[Option.none]):=by
 refine M.sub id (λ_ _ h=>h) λi x h=>?_;by_cases a:i<bs.length
 . rwa[AO a]at h
 . rw[AG O]at h;obtain⟨k,b⟩:=ex (i-bs.length);rw[b]at h;cases k<;>simp at h
theorem Mem.fill(M:Mem w V bs)(h:bs[i]?=some Option.none)(d:Dat)(q:Has V (I cs) d):
 Mem w (V.alloc (H cs d.ty)) (bs.set i (some (V.heap.size,d))):=by
 have m:Bl V (V.alloc (H cs d.ty)):=Ba V _;have f:i<bs.length:=(Ad.1 h).1;have l:=M.below m;have n:∀(j:Nat) B d,bs[j]?=some (some (B,d))->B<V.heap.size:=λj B d h=>by
  obtain⟨⟨_,a,_⟩,_⟩:=M.1 j B d h;exact a.lt
 refine⟨λj B p e=>?_,λj k B d1 o a b=>?_,l.2.2⟩
 . by_cases c:i=j
   . subst c;rw[Cf f]at e;simp at e;obtain⟨rfl,rfl⟩:=e;exact⟨⟨cs,BE V _,q.below m⟩,M.2.2.size⟩
   . rw[A6 c]at e;exact l.1 j B p e
 . by_cases c:i=j<;>by_cases g:i=k
   . omega
   . subst c;rw[Cf f]at a;rw[A6 g]at b;simp at a;have:=n k B o b;omega
   . subst g;rw[Cf f]at b;rw[A6 c]at a;simp at b;have:=n j B d1 a;omega
   . rw[A6 c]at a;rw[A6 g]at b;exact M.2.1 j k B d1 o a b
theorem Mem.push(M:Mem w V bs)(d:Dat)(a:Has V (I cs) d):Mem w (V.alloc (H cs d.ty)) (bs++[some (V.heap.size,d)]):=by
 have h:=M.none.fill (i:=bs.length) Z d a;rwa[SV]at h
theorem Mem.repl(M:Mem w V bs)(h:bs[i]?=some (some (B,d)))(c:Dat)(z:Bx V' B c.ty cs)(A:Has V (I cs) c)
(o:∀k v ds,Row k V v ds->Row k V' v ds)(D:∀B' t cs,B'≠B->Bx V B' t cs->Bx V' B' t cs)(y:Bl w V')
(hp:noPoly bs=true\/∀v qs,RowK true V v qs->RowK true V' v qs)(K:c.noPoly=true\/∀v qs,RowK true V v qs->RowK true V' v qs):Mem w V' (bs.set i (some (B,c))):=by
 have n:i<bs.length:=(Ad.1 h).1;obtain⟨_,L⟩:=M.1 i B d h;refine⟨λj B' d1 a=>?_,λj k B' d1 r u x=>?_,y⟩
 . by_cases b:i=j
   . subst b;rw[Cf n]at a;simp at a;obtain⟨rfl,rfl⟩:=a;exact⟨⟨cs,z,A.keep o K⟩,L⟩
   . rw[A6 b]at a;obtain⟨⟨q,g,l⟩,N⟩:=M.1 j B' d1 a;have p:B'≠B:=λe=>b (by rw[e]at a;exact M.2.1 i j B d d1 h a);exact⟨⟨q,D _ _ _ p g,l.keep o (hp.imp (λh=>Sa h a) id)⟩,N⟩
 . have m:∀(j:Nat) d1,(bs.set i (some (B,c)))[j]?=some (some (B',d1))->∃f,bs[j]?=some (some (B',f)):=λj d1 a=>by
    by_cases b:i=j
    . subst b;rw[Cf n]at a;simp at a;exact⟨d,by rw[h,a.1]⟩
    . rw[A6 b]at a;exact⟨d1,a⟩
   obtain⟨f,g⟩:=m j d1 u;obtain⟨s,l⟩:=m k r x;exact M.2.1 j k B' f s g l
theorem XI(h:Bx V B t cs){o:Nat}(e:cs[o]?=some x0)(n:JC x0=true)(r:Bool)(m:t≠D5 r)(x:F)(v:F)(qs:List Rat)(d:RowK r V v qs):RowK r (V.setCell ⟨B,o,Option.none⟩ x) v qs:=by
 obtain⟨a,cap,ev,j,k,l,c⟩:=d;refine⟨a,cap,ev,j,k,l,?_⟩;rcases c with c|⟨b,i,g⟩
 . exact Or.inl c
 . refine Or.inr ⟨b,i,g.keep (BD V ⟨B,o,Option.none⟩ x b ?_) λ_ _ _ d=>Row.set d (cell_of h e) n _⟩;rintro rfl;obtain⟨p,f,_⟩:=g;rw[show V.heap[b]?=_ from h]at f;cases f;exact m rfl
theorem Sb(q:Jp V B t x0 m)(a:t≠D5 r)(b:JC x0=true)(c:JC m=true)(x y:F):∀v qs,RowK r V v qs->RowK r ((V.setCell ⟨B,0,Option.none⟩ x).setCell ⟨B,1,Option.none⟩ y) v qs:=
 λv qs h=>XI (cs:=#[x,m]) (q.set0 x) (o:=1) rfl c r a y v qs (XI (cs:=#[x0,m]) q (o:=0) rfl b r a x v qs h)
theorem Sc{z0 u0:F}(q:JF V B t x0 m z0 u0)(a:t≠D5 r)(b:JC x0=true)(c:JC m=true)(d:JC z0=true)(e:JC u0=true)(x y z u:F):∀v qs,RowK r V v qs->RowK r (put4 V B x y z u) v qs:=
 λv qs h=>XI (cs:=#[x,y,z,u0]) (((q.set0 x).set1 y).set2 z) (o:=3) rfl e r a u v qs (XI (cs:=#[x,y,z0,u0]) ((q.set0 x).set1 y) (o:=2) rfl d r a z v qs (XI (cs:=#[x,m,z0,u0]) (q.set0 x) (o:=1) rfl c r a y v qs (XI (cs:=#[x0,m,z0,u0]) q (o:=0) rfl b r a x v qs h)))
theorem keep2(q:Jp V B t x y)(b:JC x=true)(c:JC y=true)(a d:F):∀k v ds,Row k V v ds->Row k ((V.setCell ⟨B,0,Option.none⟩ a).setCell ⟨B,1,Option.none⟩ d) v ds:=
 λ_ _ _ h=>Row.set (Row.set h q.c0 b _) (q.set0 a).c1 c _
theorem Mem.putInt(M:Mem w V bs)(h:bs[i]?=some (some (B,.int z0))){z:Int}(f:Jm V (I #[x,y]) z):
 Mem w ((V.setCell ⟨B,0,Option.none⟩ x).setCell ⟨B,1,Option.none⟩ y) (bs.set i (some (B,.int z))):=by
 obtain⟨s,a,l,c,b,_⟩:=M.int h;obtain⟨_,e⟩:=M.1 i B _ h;exact M.repl h (.int z) (cs:=#[x,y]) ((b.set0 x).set1 y) f (keep2 b rfl rfl x y) (λB' t cs d g=>(g.far (p:=⟨B,0,Option.none⟩) d _).far (p:=⟨B,1,Option.none⟩) d _) ((M.2.2.setCell (p:=⟨B,0,Option.none⟩) e _).setCell (p:=⟨B,1,Option.none⟩) e _) (Or.inr (Sb b DO rfl rfl x y)) (Or.inl rfl)
theorem Mem.putBig(M:Mem w V bs)(h:bs[i]?=some (some (B,.big z0))){z:Int}(f:Jv V (I #[x,y]) z):
 Mem w ((V.setCell ⟨B,0,Option.none⟩ x).setCell ⟨B,1,Option.none⟩ y) (bs.set i (some (B,.big z))):=by
 obtain⟨a,l,c,s,b,_⟩:=M.big h;obtain⟨_,e⟩:=M.1 i B _ h;exact M.repl h (.big z) (cs:=#[x,y]) ((b.set0 x).set1 y) f (keep2 b rfl rfl x y) (λB' t cs d g=>(g.far (p:=⟨B,0,Option.none⟩) d _).far (p:=⟨B,1,Option.none⟩) d _) ((M.2.2.setCell (p:=⟨B,0,Option.none⟩) e _).setCell (p:=⟨B,1,Option.none⟩) e _) (Or.inr (Sb b DO rfl rfl x y)) (Or.inl rfl)
theorem far4(x y z u:F):∀B' t cs,B'≠B->Bx V B' t cs->Bx (put4 V B x y z u) B' t cs:=λ_ _ _ a g=>(((g.far (p:=⟨B,0,Option.none⟩) a _).far (p:=⟨B,1,Option.none⟩) a _).far (p:=⟨B,2,Option.none⟩) a _).far (p:=⟨B,3,Option.none⟩) a _
theorem Mem.putRat(M:Mem w V bs)(h:bs[i]?=some (some (B,.rat q0)))(b:Jj V (I #[x,y,z,u]) q)(d:noPoly bs=true:=by rfl):
 Mem w (put4 V B x y z u) (bs.set i (some (B,.rat q))):=by
 obtain⟨_,_,_,_,_,_,_,_,a,_⟩:=M.rat h;obtain⟨_,c⟩:=M.1 i B _ h;exact M.repl h (.rat q) (cs:=#[x,y,z,u]) (a.put x y z u) b (λ_ _ _ g=>Row.put4 g a rfl rfl rfl rfl _ _ _ _) (far4 x y z u) (Jo M.2.2 c _ _ _ _) (Or.inl d) (Or.inl rfl)
theorem Mem.putRef(M:Mem w V bs)(h:bs[i]?=some (some (B,.ref q0)))(b:Jl V (I #[x,y,z,u]) q):
 Mem w (put4 V B x y z u) (bs.set i (some (B,.ref q))):=by
 obtain⟨_,_,_,_,_,_,_,_,a,_⟩:=M.ref h;obtain⟨_,c⟩:=M.1 i B _ h;exact M.repl h (.ref q) (cs:=#[x,y,z,u]) (a.put x y z u) b (λ_ _ _ g=>Row.put4 g a rfl rfl rfl rfl _ _ _ _) (far4 x y z u) (Jo M.2.2 c _ _ _ _) (Or.inr (Sc a DO rfl rfl rfl rfl x y z u)) (Or.inl rfl)
theorem Mem.zref{w V:E}{bs:List (Option (Nat × Dat))}(M:Mem w V bs){i B:Nat}(h:bs[i]?=some (some (B,.zref))):JF V B 47 (C Option.none 0 0) (G false) (C Option.none 0 0) (G false):=by
 obtain⟨⟨cs,a,b⟩,_⟩:=M.1 i B _ h;cases(show Value.agg cs=_ from b);exact a
theorem Mem.putZref(M:Mem w V bs)(h:bs[i]?=some (some (B,.zref)))(b:Jl V (I #[x,y,z,u]) q):
 Mem w (put4 V B x y z u) (bs.set i (some (B,.ref q))):=by
 have a:=M.zref h;obtain⟨_,c⟩:=M.1 i B _ h;exact M.repl h (.ref q) (cs:=#[x,y,z,u]) (a.put x y z u) b (λ_ _ _ g=>Row.put4 g a rfl rfl rfl rfl _ _ _ _) (far4 x y z u) (Jo M.2.2 c _ _ _ _) (Or.inr (Sc a DO rfl rfl rfl rfl x y z u)) (Or.inl rfl)
theorem Has.set2{v:F}(h:Has V v d)(q:Jp V B t x y)(e:JC x=true)(f:JC y=true)(a b:F)(c:d.noPoly=true:=by rfl):Has ((V.setCell ⟨B,0,Option.none⟩ a).setCell ⟨B,1,Option.none⟩ b) v d:=h.keep (keep2 q e f a b) (Or.inl c)
theorem Has.put4{V:E}{v:F}{d:Dat}(h:Has V v d){B:Nat}{t:TypeId}{x y z u:F}(q:JF V B t x y z u)(b:JC x=true)(c:JC y=true)(e:JC z=true)(f:JC u=true)(j k l i:F)(a:d.noPoly=true:=by rfl):Has (Go.Proofs.YtakpoihdghihmaaGreatDoor.put4 V B j k l i) v d:=h.keep (λ_ _ _ g=>Row.put4 g q b c e f _ _ _ _) (Or.inl a)
theorem Mem.ne(M:Mem w V bs)(i j:Nat){B':Nat}{a:Dat}(h:bs[i]?=some (some (B,d)))(b:bs[j]?=some (some (B',a)))(c:i≠j):B≠B':=λe=>by
 subst e;exact c (M.2.1 i j B d a h b)
theorem Mem.ge(M:Mem w V bs)(i:Nat)(h:bs[i]?=some (some (B,d))):w.heap.size<=B:=(M.1 i B d h).2
def Tup2(V:E)(t:F)(d1 a:Dat):Prop:=∃u1 u2,t=.tuple #[u1,u2,G true]/\Has V u1 d1/\Has V u2 a
theorem Tup2.below{V V':E}{t:F}{d1 a:Dat}(h:Tup2 V t d1 a)(b:Bl V V'):Tup2 V' t d1 a:=by
 obtain⟨u1,u2,e,c,d⟩:=h;exact⟨u1,u2,e,c.below b,d.below b⟩
theorem Tup2.alloc{V:E}{t:F}{d1 a:Dat}(h:Tup2 V t d1 a)(o:Obj):Tup2 (V.alloc o) t d1 a:=by
 obtain⟨u1,u2,e,b,c⟩:=h;exact⟨u1,u2,e,b.alloc o,c.alloc o⟩
theorem Tup2.set2{V:E}{v:F}{d1 a:Dat}(h:Tup2 V v d1 a){B:Nat}{t:TypeId}{x y:F}(q:Jp V B t x y)(d:JC x=true)(f:JC y=true)(b c:F)(j:d1.noPoly=true:=by rfl)(k:a.noPoly=true:=by rfl):Tup2 ((V.setCell ⟨B,0,Option.none⟩ b).setCell ⟨B,1,Option.none⟩ c) v d1 a:=by
 obtain⟨u1,u2,e,g,i⟩:=h;exact⟨u1,u2,e,g.set2 q d f b c j,i.set2 q d f b c k⟩
theorem Mem.rats{w V:E}{bs:List (Option (Nat × Dat))}(M:Mem w V bs){i B:Nat}{qs:List Rat}(h:bs[i]?=some (some (B,.rats qs))):Dz true V B qs:=by
 obtain⟨⟨cs,b,a⟩,_⟩:=M.1 i B _ h;obtain⟨c,e,a⟩:=a;cases e;exact⟨cs,b,a⟩
theorem Mem.putRats(M:Mem w V bs)(h:bs[i]?=some (some (B,.rats qs))){j:Nat}(o:j<qs.length)(L:Jj V (I #[x,y,z,u]) q)(Q:noPoly bs=true:=by rfl):
 Mem w (putAt V B (j*4) x y z u) (bs.set i (some (B,.rats (qs.set j q)))):=by
 have n:=M.rats h;obtain⟨_,p⟩:=M.1 i B _ h;obtain⟨cs,c1,c2⟩:=Dz.set (r:=true) n o L;have N:=n.putKeep o x y z u;have m:i<bs.length:=(Ad.1 h).1;refine⟨λb B' d1 a=>?_,λb k B' d1 v D K=>?_,SX M.2.2 p _ _ _ _⟩
 . by_cases c:i=b
   . subst c;rw[Cf m]at a;simp at a;obtain⟨rfl,rfl⟩:=a;exact⟨⟨cs,c1,cs,rfl,c2⟩,p⟩
   . rw[A6 c]at a;obtain⟨⟨t,f,g⟩,P⟩:=M.1 b B' d1 a;have s:B'≠B:=λe=>c (by rw[e]at a;exact M.2.1 i b B _ d1 h a);exact⟨⟨t,(Lx s x y z u).trans f,g.keep N (Or.inl (Sa Q a))⟩,P⟩
 . have l:∀(b:Nat) d1,(bs.set i (some (B,.rats (qs.set j q))))[b]?=some (some (B',d1))->∃d,bs[b]?=some (some (B',d)):=λb d1 a=>by
    by_cases c:i=b
    . subst c;rw[Cf m]at a;simp at a;exact⟨_,by rw[h,a.1]⟩
    . rw[A6 c]at a;exact⟨d1,a⟩
   obtain⟨d,f⟩:=l b d1 D;obtain⟨A,g⟩:=l k v K;exact M.2.1 b k B' d A f g
theorem Mem.cell{w V:E}{bs:List (Option (Nat × Dat))}(M:Mem w V bs){i B:Nat}{t:TypeId}{v:F}(h:bs[i]?=some (some (B,.cell t v))):Boxed V B t v/\JC v=true:=by
 obtain⟨⟨cs,b,a⟩,_⟩:=M.1 i B _ h;obtain⟨e,a⟩:=a;cases e;exact⟨b,a⟩
theorem Mem.poly{w V:E}{bs:List (Option (Nat × Dat))}(M:Mem w V bs){i B:Nat}{ps:List Rat}(h:bs[i]?=some (some (B,.poly ps))):∃a l c,Boxed V B 25 (C a l c)/\RowK true V (C a l c) ps:=by
 obtain⟨⟨cs,d,b⟩,_⟩:=M.1 i B _ h;obtain⟨a,l,c,e⟩:=Jh.form b;cases e;exact⟨a,l,c,d,Jh.row b⟩
theorem Sd(q:Boxed V B t x)(a:JC x=true)(b:F):∀k v ds,Row k V v ds->Row k (V.setCell ⟨B,0,Option.none⟩ b) v ds:=
 λ_ _ _ h=>Row.set h q.cell a _
theorem Mem.putPoly(M:Mem w V bs){p0:List Rat}(h:bs[i]?=some (some (B,.poly p0))){ps:List Rat}(e:Jh V (I #[x]) ps):
 Mem w (V.setCell ⟨B,0,Option.none⟩ x) (bs.set i (some (B,.poly ps))):=by
 obtain⟨a,l,c,b,_⟩:=M.poly h;obtain⟨_,j⟩:=M.1 i B _ h;have d:∀v qs,RowK true V v qs->RowK true (V.setCell ⟨B,0,Option.none⟩ x) v qs:=XI (cs:=#[C a l c]) b (o:=0) rfl rfl true DO x;exact M.repl h (.poly ps) (cs:=#[x]) (b.set x) e (Sd b rfl x) (λB' t cs f g=>g.far (p:=⟨B,0,Option.none⟩) f _) (M.2.2.setCell (p:=⟨B,0,Option.none⟩) j _) (Or.inr d) (Or.inr d)
theorem Mem.adopt(M:Mem w V bs)(l:Bl V V'){g:Nat}(n:V.heap.size<=g)(m:Dz true V' g qs):Mem w V' (bs++[some (g,.rats qs)]):=by
 have e:=M.below l;have f:∀(j:Nat) B d,bs[j]?=some (some (B,d))->B<V.heap.size:=λj B d h=>by
  obtain⟨⟨_,a,_⟩,_⟩:=M.1 j B d h;exact a.lt
 have c:∀(j:Nat) x,(bs++[some (g,Dat.rats qs)])[j]?=some (some x)->bs[j]?=some (some x)\/(j=bs.length/\x=(g,.rats qs)):=λj x h=>by
  by_cases o:j<bs.length
  . rw[AO o]at h;exact Or.inl h
  . rw[AG O]at h;obtain⟨k,p⟩:=ex (j-bs.length);rw[p]at h;cases k with
    |zero=>simp at h;exact Or.inr ⟨O,h.symm⟩
    |succ k=>simp at h
 refine⟨λj B d h=>?_,λj k B d1 i a b=>?_,e.2.2⟩
 . rcases c j _ h with h|⟨_,h⟩
   . exact e.1 j B d h
   . cases h;obtain⟨cs,c1,c2⟩:=m;exact⟨⟨cs,c1,cs,rfl,c2⟩,Am M.2.2.size n⟩
 . rcases c j _ a with a|⟨q,a⟩<;>rcases c k _ b with b|⟨r,b⟩
   . exact M.2.1 j k B d1 i a b
   . cases b;have:=f j _ _ a;omega
   . cases a;have:=f k _ _ b;omega
   . omega
end M3
def EB(W:E)(b:Nat)(xs:List Nat):Prop:=∃a:List F,W.heap[b]?=some (H (cellsOf .i64 xs++a).toArray 3 (0,0))
variable{a:Act}{K:Act->E->Prop}{f:Array Oper}{Q:Exit->Act->E->Prop}{D bs d xs:List Nat}{b c i k:Nat}{o:Oper}{P:Program}{W W' w:E}
theorem EB.lt(h:EB W b xs):b<W.heap.size:=by obtain⟨_,h⟩:=h;exact(Ab.1 h).1
theorem EB.cell{W:E}{b:Nat}{xs:List Nat}(h:EB W b xs){j:Nat}(a:j<xs.length):W.cell? ⟨b,j,none⟩=some (.int .i64 (xs[j]?.getD 0:Nat)):=by
 obtain⟨c,h⟩:=h;have e:(cellsOf .i64 xs++c)[j]?=some (.int .i64 (xs[j]?.getD 0:Nat)):=by
  rw[AO (by rw[YG];exact a)];simp[cellsOf,List.getElem?_eq_getElem a]
 simp[World.cell?,h,e]
theorem EB.frozen{W:E}{b:Nat}{xs:List Nat}(h:EB W b xs)(j:Nat):W.frozen? ⟨b,j,none⟩=false:=by obtain⟨_,h⟩:=h;simp[World.frozen?,h]
theorem EB.of_block(h:EB W b xs)(e:W'.heap[b]?=W.heap[b]?):EB W' b xs:=by obtain⟨a,h⟩:=h;exact⟨a,e.trans h⟩
theorem EB.below(h:EB W b xs)(a:Bl W W'):EB W' b xs:=h.of_block (a.block b h.lt)
theorem EB.set{W:E}{b:Nat}{xs:List Nat}(h:EB W b xs)(j v:Nat):EB (W.setCell ⟨b,j,none⟩ (.int .i64 (v:Nat))) b (xs.set j v):=by
 obtain⟨d,h⟩:=h;obtain⟨g,f⟩:=Ab.1 h;have e:∃c,(cellsOf .i64 xs++d).set j (.int .i64 (v:Nat))=cellsOf .i64 (xs.set j v)++c:=by
  rcases AQ j xs.length with a|a
  . exact⟨d,by rw[FZ _ _ (by rw[YG];exact a)];simp[cellsOf,List.map_set]⟩
  . exact⟨_,by rw[CN _ _ (by rw[YG];exact a),Fc a]⟩
 obtain⟨c,e⟩:=e;refine⟨c,?_⟩;show(W.heap.modify b _)[b]?=_;rw[Cb (by rw[CX];exact g),Cq,f,<-e];simp
theorem EB.made(h:W.heap[b]?=some (H (cellsOf .i64 xs).toArray 3 (0,0))):EB W b xs:=⟨[],by rw[Fl];exact h⟩
theorem EB.row(h:EB W b xs)(off len cap:Nat)(d:off+len<=xs.length)(f:len<=cap)(c:cap<=9223372036854775807)(g:len<=1099511627776):Row .i64 W (C (some ⟨b,off,none⟩) len cap) ((xs.drop off).take len):=by
 have e:((xs.drop off).take len).length=len:=by rw[Ak,AR];omega
 refine⟨_,cap,by rw[e],O,c,O,Or.inr ⟨b,off,rfl,(by obtain⟨i,h⟩:=h;exact⟨_,_,h⟩),λj a=>?_⟩⟩;rw[e]at a;rw[h.cell O,AV a,CZ]
theorem cJ(n:Nat):madeCells #[.int .i64 0] n=(cellsOf .i64 (List.replicate n 0)).toArray:=by
 apply Array.ext
 . simp[madeCells,cellsOf]
 . intro i a b;simp[madeCells,cellsOf,Nat.mod_one]
theorem Se(n:Nat)(h:n<=2199023255552)(w:E):(Instr.makeSlice 43 (.int .i64 (n:Int)) (.int .i64 (n:Int))).run Tryz.prog w=.ok (C (some ⟨w.heap.size,0,none⟩) n n) (w.alloc (H (cellsOf .i64 (List.replicate n 0)).toArray 3)):=by
 rw[<-cJ];exact run_make_row' 43 3 (.int .i64 0) 8 Tryz.underlying43 Tryz.infoInt rfl .i64 .i64 n O O w
theorem PF(B:Nat):∀(D:List Nat) (j d:Nat),j<D.length->val B (D.set j d)+B^j*D[j]?.getD 0=val B D+B^j*d
 |[],_,_,h=>by cases h
 |x::D,0,d,_=>by simp[val];omega
 |x::D,j+1,d,h=>by
  have a:=PF B D j d (by simpa using h);simp only[List.set_cons_succ,val,Ag,AZ];have e:B*val B (D.set j d)+B*(B^j*D[j]?.getD 0)=B*val B D+B*(B^j*d):=by rw[<-AB,a,AB]
  have b:B^j*B*D[j]?.getD 0=B*(B^j*D[j]?.getD 0):=by rw[At (B^j) B,AA]
  have c:B^j*B*d=B*(B^j*d):=by rw[At (B^j) B,AA]
  omega
theorem Sf(B n:Nat):val B (List.replicate n 0)=0:=by
 induction n with
 |zero=>rfl
 |succ n a=>rw[Fx,val,a];simp
theorem DQ.set{B:Nat}{D:List Nat}(h:DQ B D)(j:Nat){d:Nat}(b:d<B):DQ B (D.set j d):=λx c=>by
 rcases List.mem_or_eq_of_mem_set c with a|a
 . exact h x a
 . rw[a];exact b
def IJ(a bs:List Nat)(i:Nat)(D:List Nat):Prop:=
 D.length=a.length+bs.length+1/\DQ 10000 D/\val 10000 D=val 10000 (a.take i)*val 10000 bs
def Hz(a bs:List Nat)(i k c:Nat)(D:List Nat):Prop:=
 D.length=a.length+bs.length+1/\DQ 10000 D/\c<10000/\
  val 10000 D+10000^(i+k)*c=val 10000 (a.take i)*val 10000 bs+10000^i*(a[i]?.getD 0*val 10000 (bs.take k))
theorem IJ.start(a bs:List Nat):IJ a bs 0 (List.replicate (a.length+bs.length+1) 0):=
 ⟨Ay,λx b=>by rw[CS b];omega,by rw[Sf];simp[val]⟩
theorem IJ.inner(h:IJ d bs i D):Hz d bs i 0 0 D:=by
 obtain⟨a,b,c⟩:=h;refine⟨a,b,O,?_⟩;rw[c];simp[val]
theorem Hz.total(h:Hz d bs i k c D)(b:bs.length<=k):val 10000 D+10000^(i+k)*c=val 10000 (d.take (i+1))*val 10000 bs:=by
 obtain⟨_,_,_,a⟩:=h;rw[a,Ac b,Jt,AC,AA]
theorem Hz.done(h:Hz d bs i k 0 D)(a:bs.length<=k):IJ d bs (i+1) D:=by
 have:=h.total a;exact⟨h.1,h.2.1,O⟩
theorem Hz.over(h:Hz d bs i k c D)(g:DQ 10000 d)(j:DQ 10000 bs)(n:i<d.length)(o:bs.length<k):c=0:=by
 have l:=h.total O;have b:=YB (g.take (i+1));have e:=YB j;rw[Ak,CR O]at b;have f:val 10000 (d.take (i+1))*val 10000 bs<10000^(i+1)*10000^bs.length:=Nat.mul_lt_mul'' b e;rw[<-CV]at f;have m:10000^(i+1+bs.length)<=10000^(i+k):=Aw O O;rcases A9 c with a|a
 . exact a
 . have:=Ap (10000^(i+k)) a;omega
theorem Hz.step(h:Hz d bs i k c D)(l:DQ 10000 d)(m:DQ 10000 bs)(n:i+k<D.length)(c1:Nat)(b:c1=c+D[i+k]?.getD 0+d[i]?.getD 0*bs[k]?.getD 0):
 Hz d bs i (k+1) (c1/10000) (D.set (i+k) (c1%10000)):=by
 obtain⟨g,a,o,p⟩:=h;have x1:=l.getD O i;have q:=m.getD O k;have r:=a.getD O (i+k);have s:d[i]?.getD 0*bs[k]?.getD 0<=9999*9999:=Cu O O;refine⟨by rw[CB];exact g,a.set _ (Ci _ O),O,?_⟩;have j:=PF 10000 D (i+k) (c1%10000) n;rw[Jt,AB,AB];have e:10000^(i+(k+1))*(c1/10000)+10000^(i+k)*(c1%10000)=10000^(i+k)*c1:=by
  rw[<-Fh,AZ,AA,<-AB,Cl]
 have f:10000^i*(d[i]?.getD 0*(10000^k*bs[k]?.getD 0))=10000^(i+k)*(d[i]?.getD 0*bs[k]?.getD 0):=by
  rw[CV,AA];congr 1;rw[Nat.mul_left_comm]
 rw[b,AB,AB]at e;rw[f];rw[b]at j ⊢;omega
theorem IJ.fin{m n:Nat}(h:IJ d bs d.length D)(c:d=Je 10000 m)(e:bs=Je 10000 n):JA D=Je 10000 (m*n):=by
 obtain⟨_,b,a⟩:=h;rw[Ac (Aa _)]at a;rw[<-Yg O b,a,c,e,Jq O,Jq O]
theorem Jp.keptG{B:Nat}{t:TypeId}{x y:F}{g:Nat}(h:Jp W B t x y)(a:W.grownBy W' (some g))(b:B≠g):Jp W' B t x y:=
 (a.block B h.lt λe=>b (by cases e;rfl)).trans h
theorem cK{x y:Nat}(a:x<10000)(b:y<10000):x*y<=99980001/\IntKind.i64.wrap ((x:Int)*(y:Int))=((x*y:Nat):Int):=by
 have h:x*y<=9999*9999:=Cu O O;refine⟨O,?_⟩;have e:(x:Int)*(y:Int)=((x*y:Nat):Int):=by rw[Fo]
 rw[e];generalize x*y=p at *;simp[IntKind.wrap,IntKind.signed,IntKind.bits];omega
theorem cL(a b:Option Addr)(la lb ca cb m n:Nat)(s t:Bool)(w:E)(ra:RN w (C a la ca) m)(rb:RN w (C b lb cb) n)(bi:la<=1000000000)(bj:lb<=1000000000):
 Calls Tryz.prog 97 #[I #[C a la ca,G s],I #[C b lb cb,G t]] w λe P=>∃c lc cc,e=.returned (I #[C c lc cc,G ((s != t)&&decide (0<lc))])/\RN P (C c lc cc) (m*n)/\Bl w P:=by
 obtain⟨W0,z⟩:=ex (((w.alloc (H #[C a la ca,G s] 45)).alloc (H #[C b lb cb,G t] 45)).alloc (H #[C none 0 0,G false] 45));have Qk:Bl w W0:=by rw[<-z];exact XS w _ _ _
 have b0:Jp W0 w.heap.size 45 (C a la ca) (G s):=by rw[<-z];exact((Jp.new w _ _ _).alloc _).alloc _
 have b1:Jp W0 (w.heap.size+1) 45 (C b lb cb) (G t):=by
  have h:=(Jp.new (w.alloc (H #[C a la ca,G s] 45)) 45 (C b lb cb) (G t)).alloc (H #[C none 0 0,G false] 45);rw[Ax,z]at h;exact h
 have bR:Jp W0 (w.heap.size+1+1) 45 (C none 0 0) (G false):=by
  have h:=Jp.new ((w.alloc (H #[C a la ca,G s] 45)).alloc (H #[C b lb cb,G t] 45)) 45 (C none 0 0) (G false);rw[Ax,Ax,z]at h;exact h
 have Ql:W0.heap.size=w.heap.size+3:=by rw[<-z];simp
 obtain⟨ad,ay,bk,bf,ak⟩:=Jw ra;obtain⟨ae,az,bl,bg,am⟩:=Jw rb;have HF:=Y λD (h:IJ (Je 10000 m) (Je 10000 n) (Je 10000 m).length D)=>h.fin (m:=m) (n:=n) rfl rfl;have U:=Ju (B:=10000) O m;have V:=Ju (B:=10000) O n;have Q:=Se (la+lb+1) O W0;rw[show((la+lb+1:Nat):Int)=(la:Int)+(lb:Int)+1 from by omega]at Q;obtain⟨l,q⟩:=ex (W0.alloc (H (cellsOf .i64 (List.replicate (la+lb+1) 0)).toArray 3));rw[q]at Q;obtain⟨g,hg⟩:∃g,g=W0.heap.size:=⟨_,rfl⟩;rw[<-hg]at Q Ql;have Qh:EB l g (List.replicate (la+lb+1) 0):=by rw[<-q,hg];exact EB.made (BE W0 _)
 have K:Bl w l:=by rw[<-q];exact Qk.alloc Qk.size _
 have q0:Jp l w.heap.size 45 (C a la ca) (G s):=by rw[<-q];exact b0.alloc _
 have S:Jp l (w.heap.size+1) 45 (C b lb cb) (G t):=by rw[<-q];exact b1.alloc _
 have qR:Jp l (w.heap.size+1+1) 45 (C none 0 0) (G false):=by rw[<-q];exact bR.alloc _
 have k0:=b0.c0;have k1:=b1.c0;have X:=Y (IJ.start (Je 10000 m) (Je 10000 n));generalize Je 10000 m=T at *;generalize Je 10000 n=N at *;obtain⟨H1,H2,R,L⟩:=Dy ak am ad ae;rw[<-ad,<-ae]at X;have bc:w.heap.size+2<g:=O
 clear Ql;clear ak am ad ae ra rb q hg b0 b1 bR;go_enter Tryz.func97,Tryz.ntmps97
 go_wp2;clear z Q k0 k1;go_loopw [6] (λiv wr=>∃(i:Nat) (D:List Nat),iv=.int .i64 i/\i<=la/\Hid (IJ T N i D)/\EB wr g D/\l.grownBy wr (some g))
  (λiv _=>la-(intOf iv).toNat)
 case atStart=>exact⟨0,_,rfl,Az _,X.o,Qh,Y3 _ _⟩
 case round=>
  clear X Qh;obtain⟨i,D,rfl,hi,A,j,f⟩:=hrel;have m0:=(q0.keptG f O).c0;have m1:=(q0.keptG f O).c1;have m2:=(S.keptG f O).c0;have m3:=(S.keptG f O).c1;by_cases an:i<la
  . have HI:=Y A.o.inner;clear A;obtain⟨ab,ao,rfl,aq,ai⟩:=H1.o i an;go_wp2;go_loopw [7,8] (λcv kv wr=>∃(c k:Nat) (D:List Nat),cv=.int .i64 c/\kv=.int .i64 k/\k<=lb+1/\c<10000/\Hid (Hz T N i k c D)/\EB wr g D/\l.grownBy wr (some g))
     (λ_ kv _=>lb+2-(intOf kv).toNat)
    case atStart=>exact⟨0,0,D,rfl,rfl,O,O,HI,j,f⟩
    case round=>
     clear HI j f m0 m1 m2 m3;obtain⟨c,k,D,rfl,rfl,hk,hc,o,j,f⟩:=hrel;have m0:=(q0.keptG f O).c0;have m2:=(S.keptG f O).c0;have Qf:=o.o.1;rw[<-R.o,<-L.o]at Qf;by_cases ax:k<lb
     . obtain⟨bb,bo,rfl,aw,aj⟩:=H2.o k ax;have bm:wr.cell? ⟨ab,ao+i,none⟩=some (.int .i64 (T[i]?.getD 0:Nat)):=(BO (w:=l) (f.block ab (by have:=K.size;omega) λe=>by cases e;omega)).trans ((K.cell (p:=⟨ab,ao+i,none⟩) aq).trans ai);have bn:wr.cell? ⟨bb,bo+k,none⟩=some (.int .i64 (N[k]?.getD 0:Nat)):=(BO (w:=l) (f.block bb (by have:=K.size;omega) λe=>by cases e;omega)).trans ((K.cell (p:=⟨bb,bo+k,none⟩) aw).trans aj);have Qm:wr.cell? ⟨g,i+k,none⟩=some (.int .i64 (D[i+k]?.getD 0:Nat)):=j.cell O;have Qn:=j.frozen (i+k);have y1:=U.getD O i;have y2:=V.getD O k;have y3:=o.o.2.1.getD O (i+k);have r:=Y (o.o.step U V O _ rfl);obtain⟨z1,z2⟩:=cK y1 y2;generalize T[i]?.getD 0=x at *;generalize N[k]?.getD 0=y at *;generalize D[i+k]?.getD 0=d at *;generalize x*y=p at *;clear ai aj;go_upto_region 11 with fail
       go_quiet (fail)
       go_wp2;have e2:((c:Int)+(d:Int)+(p:Int))%10000=(((c+d+p)%10000:Nat):Int):=O
       rw[e2];exact⟨⟨(c+d+p)/10000,k+1,D.set (i+k) ((c+d+p)%10000),by go_num,Z,O,r.o.2.2.1,r,EB.set (W:=wr.drewN nq) j _ _,Ji (B:=wr.drewN nq) ⟨f.os,f.tape,f.output,f.size,f.block⟩ (JI _ _ _ _)⟩,by simp[intOf];omega⟩
     . rcases A9 c with ah|ah
       . subst ah;have HN:=Y (o.o.done (by rw[<-L.o];omega));clear o;go_wp2;exact⟨⟨i+1,D,Z,O,HN,j,f⟩,by simp[intOf];omega⟩
       . have bh:k<=lb:=by
          rcases AQ lb k with h|h
          . have:=o.o.over U V (by rw[<-R.o];exact an) (by rw[<-L.o];exact h);omega
          . exact h
         have Qm:wr.cell? ⟨g,i+k,none⟩=some (.int .i64 (D[i+k]?.getD 0:Nat)):=j.cell O;have Qn:=j.frozen (i+k);have y3:=o.o.2.1.getD O (i+k);have Qi:N[k]?.getD 0=0:=by rw[As (by rw[<-L.o];omega)];rfl
         have r:=Y (o.o.step U V O _ rfl);rw[Qi,CF,Ct]at r;clear Qi;generalize D[i+k]?.getD 0=d at *;go_wp2;have e2:((c:Int)+(d:Int))%10000=(((c+d)%10000:Nat):Int):=O
         rw[e2];exact⟨⟨(c+d)/10000,k+1,D.set (i+k) ((c+d)%10000),by go_num,Z,O,r.o.2.2.1,r,EB.set j _ _,Ji f (JI _ _ _ _)⟩,by simp[intOf];omega⟩
  . obtain rfl:i=la:=O
    have Qg:Row .i64 wr (C (some ⟨g,0,none⟩) (i+lb+1) (i+lb+1)) D:=by
     have Qf:=A.o.1;rw[<-R.o,<-L.o]at Qf;have h1:=j.row 0 (i+lb+1) (i+lb+1) O (Aa _) O O;rwa[AW,Ac O]at h1
    have Qo:=Y (HF.o D (by rw[<-R.o];exact A.o));have Qj:Bl w wr:=below_grown K f O;have rR:=qR.keptG f O;have p0:=q0.keptG f O;have p1:=S.keptG f O;clear A HF H1 H2;go_upto_region 14 with fail
    have hq:Bl wr wr.drew:=(BA _ wr).drew;have bt:¬(w.heap.size=w.heap.size+1+1):=O
    go_region_held3 (λP=>P.cell? ⟨w.heap.size,1,none⟩=some (G s)/\P.cell? ⟨w.heap.size+1,1,none⟩=some (G t)) (refine⟨?_,?_⟩<;>(first|(go_keep;done)|((repeat rw[JG O]);simp[*];done)))
     (first
      |(go_at_call 148;refine(Ku _ D _ (Row.below Qg hq)).mono ?_;rintro e w1 ⟨u,rfl,M,rfl⟩;rw[Qo.o]at M;obtain⟨a',c',rfl⟩:=RN.form M)
      |(go_at_call 144;refine(KH _ _ _ _ _).mono ?_;rintro e w2 ⟨rfl,af⟩;have M:=Row.below M af;have hq:=Bt hq af;have m1:=(p0.below hq).c1;have m3:=(p1.below hq).c1;obtain⟨r0,r1⟩:=(rR.below hq).cp;obtain⟨f0,f1⟩:=(rR.below hq).fp))
    all_goals go_wp2_with fail
    obtain⟨hr,ap⟩:=Ym (C a' (Je 10000 (m*n)).length c') (G (!(s==t)&&decide (0<(Je 10000 (m*n)).length))) (Bt Qj hq) O (rR.below hq) rfl rfl M;exact A0 (v:=I #[C a' (Je 10000 (m*n)).length c',G (!(s==t)&&decide (0<(Je 10000 (m*n)).length))]) (by simp[results,Tryz.results97,go_sem,r0,r1]) rfl ⟨_,_,_,rfl,hr,ap⟩
theorem XJ(n o:F)(x y:Int)(w:E)(v:Jv w n x)(z:Jv w o y)(A:EP x<=1000000000)(B:EP y<=1000000000):
 Calls Tryz.prog 97 #[n,o] w λe j=>∃u,e=.returned u/\Jv j u (x*y)/\Bl w j:=by
 obtain⟨a,la,ca,rfl,l⟩:=v;obtain⟨b,lb,cb,rfl,m⟩:=z;have D:=(Jw l).1;have K:=(Jw m).1;unfold EP at A B;refine(cL a b la lb ca cb _ _ _ _ w l m O O).mono ?_;rintro e j ⟨c,i,p,rfl,k,t⟩;refine⟨_,rfl,⟨c,i,p,?_,?_⟩,t⟩
 . have hl:=(Jw k).1;have q:((decide (x<0) != decide (y<0))&&decide (0<i))=decide (x*y<0):=by
    rw[CE];simp only[AU,BQ];have r:0<i↔x.natAbs*y.natAbs≠0:=by
     rw[hl,Ae,Ne,JR O]
    rw[r];rcases Ft x 0 with d|d|d<;>rcases Ft y 0 with f|f|f
    . have:=Int.mul_pos_of_neg_of_neg d f;simp[d,f];omega
    . subst f;simp
    . have:=Int.mul_neg_of_neg_of_pos d f;have g:¬y<0:=O
      simp only[d,g,DJ,DE,this,iff_true];exact⟨rfl,F4 O O⟩
    . subst d;simp
    . subst d;simp
    . subst d;simp
    . have:=Int.mul_neg_of_pos_of_neg d f;have g:¬x<0:=O
      simp only[f,g,DJ,DE,this,iff_true];exact⟨rfl,F4 O O⟩
    . subst f;simp
    . have:=Int.mul_pos d f;have g:¬x<0:=O
      have s:¬y<0:=O
      simp[g,s];omega
   rw[q]
 . rw[CK];exact k
theorem My{n:Int}(a:-9223372036854775808<=n)(b:n<=9223372036854775807):EP n<=1000000000:=by
 have c:=YL (B:=10000) O (n:=n.natAbs) (k:=5) O;unfold EP;omega
theorem Yj(c:f[i]?=some o)(d:Region.wanted o (yielded f a.tmps)=true)
(h:∀b:Act->E->Prop,(∀a w,K a w->b a w)->o.wp P a w b Q):wpOp P f Q i K a w:=by
 unfold wpOp;rw[c];simp only[d,if_true];exact Or.inl (h K λ_ _ h=>h)
theorem Er{p q:Prop}(k:q)(h:Hid q->p:=by intro x;refine Yj rfl rfl λK a=>?_;go_simp;refine a _ _ ?_;(repeat apply Exists.intro);refine ⟨rfl,?_⟩;exact x.o):p:=h k
theorem YF(b:f[i]?=some o)(c:Region.wanted o (yielded f a.tmps)=false)
(h:K (a.put o.dst undef) w):wpOp P f Q i K a w:=by
 unfold wpOp;rw[b];simp only[c];exact h

