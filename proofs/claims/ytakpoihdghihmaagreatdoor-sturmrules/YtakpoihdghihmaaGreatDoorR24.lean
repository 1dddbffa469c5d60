import Derived.Test.YtakpoihdghihmaaGreatDoorR20
import Derived.Test.YtakpoihdghihmaaGreatDoorR15
import Derived.Test.YtakpoihdghihmaaGreatDoorR16
import Derived.Test.YtakpoihdghihmaaGreatDoorR06
import Derived.Lib.SliceRun
import Derived.Deep.OwnRows
import Derived.Test.YtakpoihdghihmaaGreatDoorR04
import Derived.Deep.DeepCutAuto
import Derived.Lib.Strings
open Go renaming World->D,Value->E
open Go.Value renaming slice->C,bool->F,agg->H
open Go.Obj renaming cells->G
set_option maxRecDepth 100000
set_option maxHeartbeats 16000000
namespace Go.Proofs.YtakpoihdghihmaaGreatDoor
open Go.RowKit Go.Shelf
section
attribute [local go_sem] Oper.semAt_some
variable{z:Int}{v:E}{W:D}
theorem Jk.form(h:Jk W v z):∃a l cap,v=H #[F (decide (z<0)),C a l cap]:=by
 obtain⟨a,l,cap,e,_⟩:=h;exact⟨a,l,cap,e⟩
theorem Jk.alloc{W:D}{v:E}{z:Int}(h:Jk W v z)(o:Obj):Jk (W.alloc o) v z:=h.below (Ba W o)
theorem Jk.box{R:Nat}{t:TypeId}{u0 u1 x0 x1:E}(h:Jk W v z)(q:Jt W R t u0 u1)(c:JN u0=true)(d:JN u1=true):Jk ((W.setCell ⟨R,0,none⟩ x0).setCell ⟨R,1,none⟩ x1) v z:=by
 obtain⟨a,l,cap,e,b⟩:=h;exact⟨a,l,cap,e,Row.set (Row.set b q.c0 c _) (u0:=u1) (q.set0 x0).c1 d _⟩
end
section
def JM(W:D)(B:Nat)(t:TypeId)(x y z u:E):Prop:=W.heap[B]?=some (G #[x,y,z,u] t (0,0))
section
variable {W W':World} {B:Nat} {t:TypeId} {x y z u:Value}
theorem JM.lt(h:JM W B t x y z u):B<W.heap.size:=(Ab.1 h).1
theorem JM.c0(h:JM W B t x y z u):W.cell? ⟨B,0,none⟩=some x:=by simp[World.cell?,show W.heap[B]?=_ from h]
theorem JM.c1(h:JM W B t x y z u):W.cell? ⟨B,1,none⟩=some y:=by simp[World.cell?,show W.heap[B]?=_ from h]
theorem JM.cp(h:JM W B t x y z u):type_of% (And.intro h.c0 h.c1):=⟨h.c0,h.c1⟩
theorem JM.c2(h:JM W B t x y z u):W.cell? ⟨B,2,none⟩=some z:=by simp[World.cell?,show W.heap[B]?=_ from h]
theorem JM.c3(h:JM W B t x y z u):W.cell? ⟨B,3,none⟩=some u:=by simp[World.cell?,show W.heap[B]?=_ from h]
theorem JM.cq(h:JM W B t x y z u):type_of% (And.intro h.c0 (And.intro h.c1 (And.intro h.c2 h.c3))):=⟨h.c0,h.c1,h.c2,h.c3⟩
theorem JM.f0(h:JM W B t x y z u):W.frozen? ⟨B,0,none⟩=false:=by simp[World.frozen?,show W.heap[B]?=_ from h]
theorem JM.f1(h:JM W B t x y z u):W.frozen? ⟨B,1,none⟩=false:=by simp[World.frozen?,show W.heap[B]?=_ from h]
theorem JM.fp(h:JM W B t x y z u):type_of% (And.intro h.f0 h.f1):=⟨h.f0,h.f1⟩
theorem JM.f2(h:JM W B t x y z u):W.frozen? ⟨B,2,none⟩=false:=by simp[World.frozen?,show W.heap[B]?=_ from h]
theorem JM.f3(h:JM W B t x y z u):W.frozen? ⟨B,3,none⟩=false:=by simp[World.frozen?,show W.heap[B]?=_ from h]
theorem JM.fq(h:JM W B t x y z u):type_of% (And.intro h.f0 (And.intro h.f1 (And.intro h.f2 h.f3))):=⟨h.f0,h.f1,h.f2,h.f3⟩
theorem JM.new(W:D)(t:TypeId)(x y z u:E):JM (W.alloc (G #[x,y,z,u] t)) W.heap.size t x y z u:=BE W _
theorem JM.below(h:JM W B t x y z u)(a:Bl W W'):JM W' B t x y z u:=(a.block B h.lt).trans h
theorem JM.alloc(h:JM W B t x y z u)(o:Obj):JM (W.alloc o) B t x y z u:=h.below (Ba W o)
theorem JM.set0(h:JM W B t x y z u)(v:E):JM (W.setCell ⟨B,0,none⟩ v) B t v y z u:=by
 obtain⟨b,a⟩:=Ab.1 h;show(W.heap.modify B _)[B]?=_;rw[Cf (by rw[CU];exact b),Cm,a];rfl
theorem JM.set1(h:JM W B t x y z u)(v:E):JM (W.setCell ⟨B,1,none⟩ v) B t x v z u:=by
 obtain⟨b,a⟩:=Ab.1 h;show(W.heap.modify B _)[B]?=_;rw[Cf (by rw[CU];exact b),Cm,a];rfl
theorem JM.set2(h:JM W B t x y z u)(v:E):JM (W.setCell ⟨B,2,none⟩ v) B t x y v u:=by
 obtain⟨b,a⟩:=Ab.1 h;show(W.heap.modify B _)[B]?=_;rw[Cf (by rw[CU];exact b),Cm,a];rfl
theorem JM.set3(h:JM W B t x y z u)(v:E):JM (W.setCell ⟨B,3,none⟩ v) B t x y z v:=by
 obtain⟨b,a⟩:=Ab.1 h;show(W.heap.modify B _)[B]?=_;rw[Cf (by rw[CU];exact b),Cm,a];rfl
theorem JM.far(h:JM W B t x y z u){p:Addr}(hp:B≠p.block)(v:E):JM (W.setCell p v) B t x y z u:=(BD W p v B hp).trans h
end
def put4(W:D)(B:Nat)(x y z u:E):D:=(((W.setCell ⟨B,0,none⟩ x).setCell ⟨B,1,none⟩ y).setCell ⟨B,2,none⟩ z).setCell ⟨B,3,none⟩ u
variable{B:Nat}{t:TypeId}{u x y z:E}{W:D}
theorem JM.put(h:JM W B t x y z u)(b c d a:E):JM (put4 W B b c d a) B t b c d a:=(((h.set0 b).set1 c).set2 d).set3 a
theorem JM.putFar{C:Nat}(h:JM W B t x y z u)(a:B≠C)(c d e b:E):JM (put4 W C c d e b) B t x y z u:=(((h.far a c).far a d).far a e).far a b
theorem JB{n:Nat}{w:D}(h:Below n w W)(a:n<=B)(x y z u:E):Below n w (put4 W B x y z u):=(((h.setCell (p:=⟨B,0,none⟩) a _).setCell (p:=⟨B,1,none⟩) a _).setCell (p:=⟨B,2,none⟩) a _).setCell (p:=⟨B,3,none⟩) a _
theorem Row.put4{k:IntKind}{v:E}{ds:List Nat}(h:Row k W v ds)(q:JM W B t x y z u)(d:JN x=true)(e:JN y=true)(f:JN z=true)(g:JN u=true)(a b c i:E):Row k (put4 W B a b c i) v ds:=
 Row.set (Row.set (Row.set (Row.set h q.c0 d _) (q.set0 a).c1 e _) ((q.set0 a).set1 b).c2 f _) (((q.set0 a).set1 b).set2 c).c3 g _
theorem Jk.put4{W:D}{v:E}{i:Int}(h:Jk W v i){B:Nat}{t:TypeId}{x y z u:E}(q:JM W B t x y z u)(c:JN x=true)(d:JN y=true)(f:JN z=true)(g:JN u=true)(k m n j:E):Jk (put4 W B k m n j) v i:=by
 obtain⟨a,l,cap,e,b⟩:=h;exact⟨a,l,cap,e,Row.put4 b q c d f g _ _ _ _⟩
def Jh(W:D)(v:E)(q:Rat):Prop:=∃s a l c t b k d,v=H #[F s,C a l c,F t,C b k d]/\Jk W (H #[F s,C a l c]) q.num/\Jk W (H #[F t,C b k d]) (Dp q)
theorem Jh.below{W W':D}{v:E}{q:Rat}(h:Jh W v q)(f:Bl W W'):Jh W' v q:=by
 obtain⟨s,a,l,c,t,b,k,d,e,g,i⟩:=h;exact⟨s,a,l,c,t,b,k,d,e,g.below f,i.below f⟩
theorem Jh.put4{W:D}{v:E}{p:Rat}(h:Jh W v p){B:Nat}{t:TypeId}{x y z u:E}(q:JM W B t x y z u)(f:JN x=true)(g:JN y=true)(i:JN z=true)(j:JN u=true)(r w A o:E):Jh (put4 W B r w A o) v p:=by
 obtain⟨s,a,l,c,t,b,k,d,e,m,n⟩:=h;exact⟨s,a,l,c,t,b,k,d,e,m.put4 q f g i j _ _ _ _,n.put4 q f g i j _ _ _ _⟩
def GL(W:D)(v:E)(q:Rat):Prop:=∃a l c s b k d t,v=H #[C a l c,F s,C b k d,F t]/\KV W (H #[C a l c,F s]) q.num/\KV W (H #[C b k d,F t]) (q.den:Int)
theorem GL.below{W W':D}{v:E}{q:Rat}(h:GL W v q)(f:Bl W W'):GL W' v q:=by
 obtain⟨s,a,l,c,t,b,k,d,e,g,i⟩:=h;exact⟨s,a,l,c,t,b,k,d,e,g.below f,i.below f⟩
end
section
def Iv(W:D)(v:E)(x y:Int):Prop:=∃s a l c t b k d,v=H #[F s,C a l c,F t,C b k d]/\Jk W (H #[F s,C a l c]) x/\Jk W (H #[F t,C b k d]) y
theorem Jh.pair{W:D}{v:E}{q:Rat}(h:Jh W v q):Iv W v q.num (Dp q):=h
theorem Iv.below{W W':D}{v:E}{x y:Int}(h:Iv W v x y)(f:Bl W W'):Iv W' v x y:=by
 obtain⟨s,a,l,c,t,b,k,d,e,g,i⟩:=h;exact⟨s,a,l,c,t,b,k,d,e,g.below f,i.below f⟩
structure Dat where
 ty:TypeId
 has:World->Value->Prop
 below:∀ {V V':World} {v:Value},has V v->Bl V V'->has V' v
 keep:∀ {V V':World} {v:Value},has V v->(∀k v ds,Row k V v ds->Row k V' v ds)->has V' v
def Dat.int(z:Int):Dat where
 ty:=35
 has V v:=Jk V v z
 below h hb:=Jk.below h hb
 keep h hk:=by
  obtain⟨a,l,c,e,b⟩:=h;exact⟨a,l,c,e,hk _ _ _ b⟩
def Dat.rat(q:Rat):Dat where
 ty:=37
 has V v:=Jh V v q
 below h hb:=Jh.below h hb
 keep h hk:=by
  obtain⟨s,a,l,c,t,b,k,d,e,⟨f,l1,c1,i,m⟩,⟨g,l2,c2,j,n⟩⟩:=h;exact⟨s,a,l,c,t,b,k,d,e,⟨f,l1,c1,i,hk _ _ _ m⟩,⟨g,l2,c2,j,hk _ _ _ n⟩⟩
def Dat.ref(q:Rat):Dat where
 ty:=47
 has V v:=GL V v q
 below h hb:=GL.below h hb
 keep h hk:=by
  obtain⟨s,a,l,c,t,b,k,d,e,⟨f,l1,c1,i,m⟩,⟨g,l2,c2,j,n⟩⟩:=h;exact⟨s,a,l,c,t,b,k,d,e,⟨f,l1,c1,i,hk _ _ _ m⟩,⟨g,l2,c2,j,hk _ _ _ n⟩⟩
def Has(V:D)(v:E)(d:Dat):Prop:=d.has V v
theorem Has.below{V V':D}{v:E}{d:Dat}(h:Has V v d)(a:Bl V V'):Has V' v d:=d.below h a
theorem Has.alloc{V:D}{v:E}{d:Dat}(h:Has V v d)(o:Obj):Has (V.alloc o) v d:=h.below (Ba V o)
theorem Has.keep{V V':D}{v:E}{d:Dat}(h:Has V v d)(a:∀k v ds,Row k V v ds->Row k V' v ds):Has V' v d:=d.keep h a
def Bx(V:D)(B:Nat)(t:TypeId)(cs:Array E):Prop:=V.heap[B]?=some (G cs t (0,0))
variable{cs:Array E}{r:Bool}{d:Dat}{bs:List (Option (Nat × Dat))}{qs:List Rat}{B b i j n o:Nat}{m:Nat × Nat}{q:Rat}{t:TypeId}{u v x y z:E}{V V' W w:D}
theorem Bx.lt(h:Bx V B t cs):B<V.heap.size:=(Ab.1 h).1
theorem Bx.below(h:Bx V B t cs)(a:Bl V V'):Bx V' B t cs:=(a.block B h.lt).trans h
theorem Bx.far(h:Bx V B t cs){p:Addr}(hp:B≠p.block)(u:E):Bx (V.setCell p u) B t cs:=(BD V p u B hp).trans h
def Mem(w V:D)(bs:List (Option (Nat × Dat))):Prop:=
 (∀(i:Nat) B d,bs[i]?=some (some (B,d))->(∃cs,Bx V B d.ty cs/\Has V (H cs) d)/\w.heap.size<=B)/\
 (∀(i j:Nat) B d a,bs[i]?=some (some (B,d))->bs[j]?=some (some (B,a))->i=j)/\Bl w V
theorem Mem.nil(w:D):Mem w w []:=⟨λi B z h=>by simp at h,λi j B z a h=>by simp at h,BF _ w⟩
theorem Mem.int{w V:D}{bs:List (Option (Nat × Dat))}(M:Mem w V bs){i B:Nat}{z:Int}(h:bs[i]?=some (some (B,.int z))):∃s a l c,Jt V B 35 (F s) (C a l c)/\Jk V (H #[F s,C a l c]) z:=by
 obtain⟨⟨cs,b,d⟩,_⟩:=M.1 i B _ h;obtain⟨a,l,c,e,f⟩:=d;cases e;exact⟨_,a,l,c,b,a,l,c,rfl,f⟩
theorem Mem.rat{w V:D}{bs:List (Option (Nat × Dat))}(M:Mem w V bs){i B:Nat}{q:Rat}(h:bs[i]?=some (some (B,.rat q))):
 ∃s a l c t b k d,JM V B 37 (F s) (C a l c) (F t) (C b k d)/\Jh V (H #[F s,C a l c,F t,C b k d]) q/\Jk V (H #[F s,C a l c]) q.num/\Jk V (H #[F t,C b k d]) (Dp q):=by
 obtain⟨⟨cs,m,f⟩,_⟩:=M.1 i B _ h;have n:=f;obtain⟨s,a,l,c,t,b,k,d,e,g,j⟩:=f;cases e;exact⟨s,a,l,c,t,b,k,d,m,n,g,j⟩
theorem Mem.below{w V V':D}{bs:List (Option (Nat × Dat))}(M:Mem w V bs)(a:Bl V V'):Mem w V' bs:=
 ⟨λi B z h=>by
  obtain⟨⟨cs,b,c⟩,d⟩:=M.1 i B z h;exact⟨⟨cs,b.below a,c.below a⟩,d⟩,M.2.1,Bt M.2.2 a⟩
theorem Mem.drew{w V:D}{bs:List (Option (Nat × Dat))}(M:Mem w V bs):Mem w V.drew bs:=M.below ((BF _ V).drew)
theorem Mem.sub{cs:List (Option (Nat × Dat))}(M:Mem w V bs)(f:Nat->Nat)(e:∀(i j:Nat),f i=f j->i=j)(h:∀(i:Nat) x,cs[i]?=some (some x)->bs[f i]?=some (some x)):Mem w V cs:=
 ⟨λi B d a=>M.1 (f i) B d (h i _ a),λi j B d b a c=>e i j (M.2.1 (f i) (f j) B d b (h i _ a) (h j _ c)),M.2.2⟩
theorem Mem.take{w V:D}{bs:List (Option (Nat × Dat))}(M:Mem w V bs)(n:Nat):Mem w V (bs.take n):=by
 refine M.sub id (λ_ _ h=>h) λi x h=>?_;rw[C5]at h;split at h
 . exact h
 . cases h
theorem Mem.none{w V:D}{bs:List (Option (Nat × Dat))}(M:Mem w V bs):Mem w V (bs++[Option.none]):=by
 refine M.sub id (λ_ _ h=>h) λi x h=>?_;by_cases a:i<bs.length
 . rwa[AV a]at h
 . rw[AE O]at h;obtain⟨k,b⟩:=ex (i-bs.length);rw[b]at h;cases k<;>simp at h
theorem Mem.fill(M:Mem w V bs)(h:bs[i]?=some Option.none)(d:Dat)(q:Has V (H cs) d):
 Mem w (V.alloc (G cs d.ty)) (bs.set i (some (V.heap.size,d))):=by
 have m:Bl V (V.alloc (G cs d.ty)):=Ba V _;have f:i<bs.length:=(Ac.1 h).1;have l:=M.below m;have n:∀(j:Nat) B d,bs[j]?=some (some (B,d))->B<V.heap.size:=λj B d h=>by
  obtain⟨⟨_,a,_⟩,_⟩:=M.1 j B d h;exact a.lt
 refine⟨λj B p e=>?_,λj k B d1 o a b=>?_,l.2.2⟩
 . by_cases c:i=j
   . subst c;rw[A9 f]at e;simp at e;obtain⟨rfl,rfl⟩:=e;exact⟨⟨cs,BE V _,q.below m⟩,M.2.2.size⟩
   . rw[AR c]at e;exact l.1 j B p e
 . by_cases c:i=j<;>by_cases g:i=k
   . omega
   . subst c;rw[A9 f]at a;rw[AR g]at b;simp at a;have:=n k B o b;omega
   . subst g;rw[A9 f]at b;rw[AR c]at a;simp at b;have:=n j B d1 a;omega
   . rw[AR c]at a;rw[AR g]at b;exact M.2.1 j k B d1 o a b
theorem P1{α:Type}(l:List α)(x y:α):(l++[x]).set l.length y=l++[y]:=by
 induction l with
 |nil=>rfl
 |cons a l b=>simp
theorem Mem.push(M:Mem w V bs)(d:Dat)(a:Has V (H cs) d):Mem w (V.alloc (G cs d.ty)) (bs++[some (V.heap.size,d)]):=by
 have h:=M.none.fill (i:=bs.length) Z d a;rwa[P1]at h
theorem Mem.repl(M:Mem w V bs)(h:bs[i]?=some (some (B,d)))(c:Dat)(z:Bx V' B c.ty cs)(A:Has V (H cs) c)
(o:∀k v ds,Row k V v ds->Row k V' v ds)(I:∀B' t cs,B'≠B->Bx V B' t cs->Bx V' B' t cs)(y:Bl w V'):Mem w V' (bs.set i (some (B,c))):=by
 have n:i<bs.length:=(Ac.1 h).1;obtain⟨_,K⟩:=M.1 i B d h;refine⟨λj B' d1 a=>?_,λj k B' d1 r u x=>?_,y⟩
 . by_cases b:i=j
   . subst b;rw[A9 n]at a;simp at a;obtain⟨rfl,rfl⟩:=a;exact⟨⟨cs,z,A.keep o⟩,K⟩
   . rw[AR b]at a;obtain⟨⟨q,g,l⟩,L⟩:=M.1 j B' d1 a;have p:B'≠B:=λe=>b (by rw[e]at a;exact M.2.1 i j B d d1 h a);exact⟨⟨q,I _ _ _ p g,l.keep o⟩,L⟩
 . have m:∀(j:Nat) d1,(bs.set i (some (B,c)))[j]?=some (some (B',d1))->∃f,bs[j]?=some (some (B',f)):=λj d1 a=>by
    by_cases b:i=j
    . subst b;rw[A9 n]at a;simp at a;exact⟨d,by rw[h,a.1]⟩
    . rw[AR b]at a;exact⟨d1,a⟩
   obtain⟨f,g⟩:=m j d1 u;obtain⟨s,l⟩:=m k r x;exact M.2.1 j k B' f s g l
theorem keep2(q:Jt V B t x y)(b:JN x=true)(c:JN y=true)(a d:E):∀k v ds,Row k V v ds->Row k ((V.setCell ⟨B,0,Option.none⟩ a).setCell ⟨B,1,Option.none⟩ d) v ds:=
 λ_ _ _ h=>Row.set (Row.set h q.c0 b _) (q.set0 a).c1 c _
theorem Mem.putInt(M:Mem w V bs){z0:Int}(h:bs[i]?=some (some (B,.int z0))){z:Int}(f:Jk V (H #[x,y]) z):
 Mem w ((V.setCell ⟨B,0,Option.none⟩ x).setCell ⟨B,1,Option.none⟩ y) (bs.set i (some (B,.int z))):=by
 obtain⟨s,a,l,c,b,_⟩:=M.int h;obtain⟨_,e⟩:=M.1 i B _ h;exact M.repl h (.int z) (cs:=#[x,y]) ((b.set0 x).set1 y) f (keep2 b rfl rfl x y) (λB' t cs d g=>(g.far (p:=⟨B,0,Option.none⟩) d _).far (p:=⟨B,1,Option.none⟩) d _) ((M.2.2.setCell (p:=⟨B,0,Option.none⟩) e _).setCell (p:=⟨B,1,Option.none⟩) e _)
theorem far4(x y z u:E):∀B' t cs,B'≠B->Bx V B' t cs->Bx (put4 V B x y z u) B' t cs:=λ_ _ _ a g=>(((g.far (p:=⟨B,0,Option.none⟩) a _).far (p:=⟨B,1,Option.none⟩) a _).far (p:=⟨B,2,Option.none⟩) a _).far (p:=⟨B,3,Option.none⟩) a _
theorem Mem.putRat(M:Mem w V bs){q0:Rat}(h:bs[i]?=some (some (B,.rat q0)))(b:Jh V (H #[x,y,z,u]) q):
 Mem w (put4 V B x y z u) (bs.set i (some (B,.rat q))):=by
 obtain⟨_,_,_,_,_,_,_,_,a,_⟩:=M.rat h;obtain⟨_,c⟩:=M.1 i B _ h;exact M.repl h (.rat q) (cs:=#[x,y,z,u]) (a.put x y z u) b (λ_ _ _ g=>Row.put4 g a rfl rfl rfl rfl _ _ _ _) (far4 x y z u) (JB M.2.2 c _ _ _ _)
theorem Has.set2(h:Has V v d)(q:Jt V B t x y)(c:JN x=true)(e:JN y=true)(a b:E):Has ((V.setCell ⟨B,0,Option.none⟩ a).setCell ⟨B,1,Option.none⟩ b) v d:=h.keep (keep2 q c e a b)
theorem Has.put4{V:D}{v:E}{d:Dat}(h:Has V v d){B:Nat}{t:TypeId}{x y z u:E}(q:JM V B t x y z u)(a:JN x=true)(b:JN y=true)(c:JN z=true)(e:JN u=true)(i j k f:E):Has (Go.Proofs.YtakpoihdghihmaaGreatDoor.put4 V B i j k f) v d:=h.keep λ_ _ _ g=>Row.put4 g q a b c e _ _ _ _
theorem Jk.form2{z:Int}(h:Jk W v z):∃s a l c,v=H #[F s,C a l c]:=by
 obtain⟨a,l,c,e,_⟩:=h;exact⟨_,a,l,c,e⟩
theorem Jh.form(h:Jh W v q):∃s a l c t b k d,v=H #[F s,C a l c,F t,C b k d]:=by
 obtain⟨s,a,l,c,t,b,k,d,e,_⟩:=h;exact⟨s,a,l,c,t,b,k,d,e⟩
theorem Mem.ne(M:Mem w V bs)(i j:Nat){B':Nat}{a:Dat}(h:bs[i]?=some (some (B,d)))(b:bs[j]?=some (some (B',a)))(c:i≠j):B≠B':=λe=>by
 subst e;exact c (M.2.1 i j B d a h b)
theorem Mem.ge(M:Mem w V bs)(i:Nat)(h:bs[i]?=some (some (B,d))):w.heap.size<=B:=(M.1 i B d h).2
theorem XW(W:D):Jk W (H #[F false,C Option.none 0 0]) 0:=
 ⟨Option.none,0,0,Z,by unfold UN;rw[Int.natAbs_zero,JR];exact Row.nil _ _⟩
theorem XY(W:D):Jh W (H #[F false,C Option.none 0 0,F false,C Option.none 0 0]) 0:=⟨_,_,_,_,_,_,_,_,rfl,XW W,XW W⟩
def Tup2(V:D)(t:E)(d1 a:Dat):Prop:=∃u1 u2,t=.tuple #[u1,u2,F true]/\Has V u1 d1/\Has V u2 a
theorem Tup2.below{V V':D}{t:E}{d1 a:Dat}(h:Tup2 V t d1 a)(b:Bl V V'):Tup2 V' t d1 a:=by
 obtain⟨u1,u2,e,c,d⟩:=h;exact⟨u1,u2,e,c.below b,d.below b⟩
theorem Tup2.alloc{V:D}{t:E}{d1 a:Dat}(h:Tup2 V t d1 a)(o:Obj):Tup2 (V.alloc o) t d1 a:=by
 obtain⟨u1,u2,e,b,c⟩:=h;exact⟨u1,u2,e,b.alloc o,c.alloc o⟩
theorem Tup2.set2{V:D}{v:E}{d1 c:Dat}(h:Tup2 V v d1 c){B:Nat}{t:TypeId}{x y:E}(q:Jt V B t x y)(d:JN x=true)(f:JN y=true)(a b:E):Tup2 ((V.setCell ⟨B,0,Option.none⟩ a).setCell ⟨B,1,Option.none⟩ b) v d1 c:=by
 obtain⟨u1,u2,e,g,i⟩:=h;exact⟨u1,u2,e,g.set2 q d f a b,i.set2 q d f a b⟩
def D9(r:Bool)(W:D)(v:E)(q:Rat):Prop:=match r with|true=>Jh W v q|false=>GL W v q
def IV(r:Bool):TypeId:=match r with|true=>37|false=>47
theorem D9.below{r:Bool}{W W':D}{v:E}{q:Rat}(h:D9 r W v q)(a:Bl W W'):D9 r W' v q:=by
 cases r with
 |true=>exact Jh.below h a
 |false=>exact GL.below h a
theorem D9.keep{r:Bool}{W W':D}{v:E}{q:Rat}(h:D9 r W v q)(a:∀k v ds,Row k W v ds->Row k W' v ds):D9 r W' v q:=by
 cases r with
 |true=>exact Has.keep (d:=.rat q) h a
 |false=>exact Has.keep (d:=.ref q) h a
theorem D9.form(h:D9 r W v q):∃x y z u,v=H #[x,y,z,u]/\JN x=true/\JN y=true/\JN z=true/\JN u=true:=by
 cases r with
 |true=>
  obtain⟨s,a,l,c,t,b,k,d,e,_⟩:=(show Jh W v q from h);exact⟨_,_,_,_,e,rfl,rfl,rfl,rfl⟩
 |false=>
  obtain⟨s,a,l,c,t,b,k,d,e,_⟩:=(show GL W v q from h);exact⟨_,_,_,_,e,rfl,rfl,rfl,rfl⟩
theorem D9.no(h:D9 r W (H #[x,y,z,u]) q):JN x=true/\JN y=true/\JN z=true/\JN u=true:=by
 obtain⟨g,i,j,f,e,a,b,c,d⟩:=h.form;cases e;exact⟨a,b,c,d⟩
theorem D9.one(h:D9 r W (H #[x,y,z,u]) q):∀v∈[x,y,z,u],v.oneCell'=true:=by
 cases r with
 |true=>
  obtain⟨s,a,l,c,t,b,k,d,e,_⟩:=(show Jh W _ q from h);cases e;intro v f;simp at f;rcases f with rfl|rfl|rfl|rfl<;>rfl
 |false=>
  obtain⟨s,a,l,c,t,b,k,d,e,_⟩:=(show GL W _ q from h);cases e;intro v f;simp at f;rcases f with rfl|rfl|rfl|rfl<;>rfl
def Dl(r:Bool)(W:D)(b:Nat)(qs:List Rat):Prop:=
 ∃cs:Array E,W.heap[b]?=some (G cs (IV r) (0,0))/\∀j,j<qs.length->∃x y z u,cs[j*4]?=some x/\cs[j*4+1]?=some y/\cs[j*4+2]?=some z/\cs[j*4+3]?=some u/\D9 r W (H #[x,y,z,u]) (cf qs j)
theorem Dl.lt(h:Dl r W b qs):b<W.heap.size:=by obtain⟨cs,h,_⟩:=h;exact(Ab.1 h).1
theorem Dl.below{r:Bool}{W W':D}{b:Nat}{qs:List Rat}(h:Dl r W b qs)(a:Bl W W'):Dl r W' b qs:=by
 have hl:=h.lt;obtain⟨cs,g,i⟩:=h;refine⟨cs,(a.block b hl).trans g,λj l=>?_⟩;obtain⟨x,y,z,u,c,d,e,f,k⟩:=i j l;exact⟨x,y,z,u,c,d,e,f,k.below a⟩
theorem Dl.keep{r:Bool}{W W':D}{b:Nat}{qs:List Rat}(h:Dl r W b qs)(l:W'.heap[b]?=W.heap[b]?)(n:∀k v ds,Row k W v ds->Row k W' v ds):Dl r W' b qs:=by
 obtain⟨cs,f,g⟩:=h;refine⟨cs,l.trans f,λj m=>?_⟩;obtain⟨x,y,z,u,a,c,d,e,i⟩:=g j m;exact⟨x,y,z,u,a,c,d,e,i.keep n⟩
theorem Dl.take{r:Bool}{W:D}{b:Nat}{qs:List Rat}(h:Dl r W b qs)(n:Nat):Dl r W b (qs.take n):=by
 obtain⟨cs,f,g⟩:=h;refine⟨cs,f,λj k=>?_⟩;rw[Al]at k;obtain⟨x,y,z,u,a,c,d,e,i⟩:=g j O;exact⟨x,y,z,u,a,c,d,e,by rw[MQ,BC O];exact i⟩
theorem Dl.at(h:Dl r W b qs)(k:j<qs.length):
 ∃x y z u,W.cell? ⟨b,j*4,none⟩=some x/\W.cell? ⟨b,j*4+1,none⟩=some y/\W.cell? ⟨b,j*4+2,none⟩=some z/\W.cell? ⟨b,j*4+3,none⟩=some u/\D9 r W (H #[x,y,z,u]) (cf qs j):=by
 obtain⟨cs,a,g⟩:=h;obtain⟨x,y,z,u,c,d,e,f,i⟩:=g j k;exact⟨x,y,z,u,by simp[World.cell?,a,c],by simp[World.cell?,a,d],by simp[World.cell?,a,e],by simp[World.cell?,a,f],i⟩
theorem Dl.frozen{r:Bool}{W:D}{b:Nat}{qs:List Rat}(h:Dl r W b qs)(o:Nat):W.frozen? ⟨b,o,none⟩=false:=by obtain⟨cs,a,_⟩:=h;simp[World.frozen?,a]
def putAt(W:D)(b o:Nat)(x y z u:E):D:=(((W.setCell ⟨b,o,none⟩ x).setCell ⟨b,o+1,none⟩ y).setCell ⟨b,o+2,none⟩ z).setCell ⟨b,o+3,none⟩ u
theorem J8(h:W.heap[b]?=some (G cs t m))(v:E):(W.setCell ⟨b,o,none⟩ v).heap[b]?=some (G (cs.setIfInBounds o v) t m):=by
 obtain⟨c,a⟩:=Ab.1 h;show(W.heap.modify b _)[b]?=_;rw[Cf (by rw[CU];exact c),Cm,a];simp
theorem P2(h:W.heap[b]?=some (G cs t m))(x y z u:E):(putAt W b o x y z u).heap[b]?=some (G ((((cs.setIfInBounds o x).setIfInBounds (o+1) y).setIfInBounds (o+2) z).setIfInBounds (o+3) u) t m):=
 J8 (J8 (J8 (J8 h x) y) z) u
theorem Kc(a:B≠b)(x y z u:E):(putAt W b o x y z u).heap[B]?=W.heap[B]?:=
 (BD _ _ _ B a).trans ((BD _ _ _ B a).trans ((BD _ _ _ B a).trans (BD _ _ _ B a)))
theorem P3(h:Below n w W)(a:n<=b)(x y z u:E):Below n w (putAt W b o x y z u):=
 (((h.setCell (p:=⟨b,o,none⟩) a _).setCell (p:=⟨b,o+1,none⟩) a _).setCell (p:=⟨b,o+2,none⟩) a _).setCell (p:=⟨b,o+3,none⟩) a _
theorem cell_of(h:W.heap[b]?=some (G cs t m))(e:cs[o]?=some x):W.cell? ⟨b,o,none⟩=some x:=by simp[World.cell?,h,e]
theorem WR{x0 a z0 u0:E}(h:W.heap[b]?=some (G cs t m))(c:cs[o]?=some x0)(d:cs[o+1]?=some a)(e:cs[o+2]?=some z0)(f:cs[o+3]?=some u0)
(i:JN x0=true)(j:JN a=true)(l:JN z0=true)(n:JN u0=true)(x y z u:E):∀k v ds,Row k W v ds->Row k (putAt W b o x y z u) v ds:=λk v ds g=>by
 have c1:((cs.setIfInBounds o x))[o+1]?=some a:=by rw[Ah O];exact d
 have c2:(((cs.setIfInBounds o x).setIfInBounds (o+1) y))[o+2]?=some z0:=by rw[Ah O,Ah O];exact e
 have c3:((((cs.setIfInBounds o x).setIfInBounds (o+1) y).setIfInBounds (o+2) z))[o+3]?=some u0:=by rw[Ah O,Ah O,Ah O];exact f
 exact Row.set (Row.set (Row.set (Row.set g (cell_of h c) i _) (cell_of (J8 h x) c1) j _) (cell_of (J8 (J8 h x) y) c2) l _) (cell_of (J8 (J8 (J8 h x) y) z) c3) n _
theorem Dl.putKeep(h:Dl r W b qs)(l:j<qs.length)(x y z u:E):∀k v ds,Row k W v ds->Row k (putAt W b (j*4) x y z u) v ds:=by
 obtain⟨cs,f,g⟩:=h;obtain⟨x0,q,z0,u0,a,c,d,e,i⟩:=g j l;obtain⟨m,n,o,p⟩:=i.no;exact WR f a c d e m n o p x y z u
theorem Dl.set{r:Bool}{W:D}{b:Nat}{qs:List Rat}(h:Dl r W b qs){j:Nat}(a:j<qs.length){x y z u:E}{q:Rat}(B:D9 r W (H #[x,y,z,u]) q):Dl r (putAt W b (j*4) x y z u) b (qs.set j q):=by
 have f:=h.putKeep a x y z u;obtain⟨cs,w,c⟩:=h;obtain⟨x0,M,z0,u0,p,s,t,v,L⟩:=c j a;refine⟨_,P2 w x y z u,λi d=>?_⟩;rw[CJ]at d;have k:=(Ab.1 p).1;have m:=(Ab.1 s).1;have l:=(Ab.1 t).1;have g:=(Ab.1 v).1;by_cases e:i=j
 . subst e;refine⟨x,y,z,u,?_,?_,?_,?_,?_⟩
   . rw[Ah O,Ah O,Ah O,Ct k]
   . rw[Ah O,Ah O,Ct (by simpa using m)]
   . rw[Ah O,Ct (by simpa using l)]
   . rw[Ct (by simpa using g)]
   . rw[XS _ _ _ _ a,BC rfl];exact B.keep f
 . obtain⟨x1,I,K,u1,d0,d1,n,o,A⟩:=c i d;refine⟨x1,I,K,u1,?_,?_,?_,?_,?_⟩
   . rw[Ah O,Ah O,Ah O,Ah O];exact d0
   . rw[Ah O,Ah O,Ah O,Ah O];exact d1
   . rw[Ah O,Ah O,Ah O,Ah O];exact n
   . rw[Ah O,Ah O,Ah O,Ah O];exact o
   . rw[XS _ _ _ _ a,BA e];exact A.keep f
def RowK(r:Bool)(W:D)(v:E)(qs:List Rat):Prop:=
 ∃a cap,v=C a qs.length cap/\qs.length<=cap/\cap<=9223372036854775807/\qs.length<=1099511627776/\(qs=[]\/∃b,a=some ⟨b,0,none⟩/\Dl r W b qs)
theorem RowK.below{r:Bool}{W W':D}{v:E}{qs:List Rat}(h:RowK r W v qs)(k:Bl W W'):RowK r W' v qs:=by
 obtain⟨a,cap,e,f,g,i,c⟩:=h;refine⟨a,cap,e,f,g,i,?_⟩;rcases c with c|⟨b,d,j⟩
 . exact Or.inl c
 . exact Or.inr ⟨b,d,j.below k⟩
theorem RowK.nil(r:Bool)(W:D):RowK r W (C none 0 0) []:=⟨none,0,rfl,Aa _,O,Z,Or.inl rfl⟩
theorem Dl.row(h:Dl r W b qs){cap:Nat}(d:n<=qs.length)(c:n<=cap)(a:cap<=9223372036854775807)(hl:n<=1099511627776):RowK r W (C (some ⟨b,0,none⟩) n cap) (qs.take n):=by
 have e:(qs.take n).length=n:=by rw[Al];omega
 exact⟨_,cap,by rw[e],O,a,O,Or.inr ⟨b,rfl,h.take n⟩⟩
theorem RowK.open(h:RowK r W v qs):∃a cap,v=C a qs.length cap/\qs.length<=cap/\cap<=9223372036854775807/\qs.length<=1099511627776/\
 Hid (∀j,j<qs.length->∃b,a=some ⟨b,0,none⟩/\Dl r W b qs):=by
 obtain⟨a,cap,e,g,i,k,c⟩:=h;refine⟨a,cap,e,g,i,k,λj d=>?_⟩;rcases c with c|⟨b,f,l⟩
 . rw[c]at d;simp at d
 . exact⟨b,f,l⟩
theorem RowK.take{r:Bool}{W:D}{a:Option Addr}{l cap:Nat}{qs:List Rat}(h:RowK r W (C a l cap) qs){n:Nat}(m:n<=l):RowK r W (C a n cap) (qs.take n):=by
 obtain⟨a',i,e,j,f,k,c⟩:=h;cases e;have e:(qs.take n).length=n:=by rw[Al];omega
 refine⟨a,cap,by rw[e],O,f,O,?_⟩;rcases c with c|⟨b,d,g⟩
 . left;rw[c];simp
 . exact Or.inr ⟨b,d,g.take n⟩
def Je(W:D)(v:E)(ps:List Rat):Prop:=∃u,v=H #[u]/\RowK true W u ps
theorem Je.below{W W':D}{v:E}{ps:List Rat}(h:Je W v ps)(b:Bl W W'):Je W' v ps:=by
 obtain⟨u,e,a⟩:=h;exact⟨u,e,a.below b⟩
theorem RowK.form(h:RowK r W v qs):∃a l c,v=C a l c:=by
 obtain⟨a,cap,e,_⟩:=h;exact⟨a,_,cap,e⟩
theorem Je.form{W:D}{v:E}{ps:List Rat}(h:Je W v ps):∃a l c,v=H #[C a l c]:=by
 obtain⟨u,e,b⟩:=h;obtain⟨a,l,c,rfl⟩:=b.form;exact⟨a,l,c,e⟩
theorem Je.row{a:Option Addr}{l c:Nat}{ps:List Rat}(h:Je W (H #[C a l c]) ps):RowK true W (C a l c) ps:=by
 obtain⟨u,e,b⟩:=h;cases e;exact b
structure Sqs(qs:List Rat):Prop where
 all:∀i,Sq (cf qs i)
theorem Sqs.at(h:Sqs qs)(i:Nat):Sq (cf qs i):=h.all i
theorem Sqs.of(h:∀i,Sq (cf qs i)):Sqs qs:=⟨h⟩
def XZ(r:Bool)(W:D)(cs:List E)(qs:List Rat):Prop:=
 cs.length=qs.length*4/\∀j,j<qs.length->∃x y z u,cs[j*4]?=some x/\cs[j*4+1]?=some y/\cs[j*4+2]?=some z/\cs[j*4+3]?=some u/\D9 r W (H #[x,y,z,u]) (cf qs j)
theorem XZ.nil(r:Bool)(W:D):XZ r W [] []:=⟨rfl,λj a=>by simp at a⟩
theorem XZ.below{r:Bool}{W W':D}{cs:List E}{qs:List Rat}(h:XZ r W cs qs)(f:Bl W W'):XZ r W' cs qs:=by
 refine⟨h.1,λj g=>?_⟩;obtain⟨x,y,z,u,a,b,c,d,e⟩:=h.2 j g;exact⟨x,y,z,u,a,b,c,d,e.below f⟩
theorem XZ.one{r:Bool}{W:D}{cs:List E}{qs:List Rat}(h:XZ r W cs qs):∀v∈cs,v.oneCell'=true:=by
 intro v l;obtain⟨k,j,rfl⟩:=FL.1 l;have hl:=h.1;obtain⟨x,y,z,u,d,e,f,g,i⟩:=h.2 (k/4) O;have b:=i.one;have c:cs[k]?=some cs[k]:=Am j;have a:k=k/4*4\/k=k/4*4+1\/k=k/4*4+2\/k=k/4*4+3:=O
 rcases a with a|a|a|a
 . rw[<-a,c]at d;cases d;exact b _ Z
 . rw[<-a,c]at e;cases e;exact b _ Z
 . rw[<-a,c]at f;cases f;exact b _ Z
 . rw[<-a,c]at g;cases g;exact b _ Z
theorem Dl.cells(h:Dl r W b qs):∃cs,XZ r W cs qs/\∀j u,cs[j]?=some u->W.cell? ⟨b,j,none⟩=some u:=by
 obtain⟨a,k,d⟩:=h;have p:qs.length*4<=a.size:=by
  cases hq:qs.length with
  |zero=>omega
  |succ n=>
   obtain⟨x,y,z,u,_,_,_,c,_⟩:=d n O;have:=(Ab.1 c).1;omega
 refine⟨a.toList.take (qs.length*4),⟨by rw[Al];have o:a.toList.length=a.size:=Fy;omega,λj m=>?_⟩,λj u e=>?_⟩
 . obtain⟨x,y,z,u,f,g,i,c,l⟩:=d j m;refine⟨x,y,z,u,?_,?_,?_,?_,l⟩
   . rw[A5 O,Cr];exact f
   . rw[A5 O,Cr];exact g
   . rw[A5 O,Cr];exact i
   . rw[A5 O,Cr];exact c
 . rw[C5]at e;split at e
   . rw[Cr]at e;exact cell_of k e
   . cases e
theorem RowK.owns{base:Nat}{cs:List E}(h:W.ownsRow base (IV r) 4 v n cs)(e:XZ r W cs qs)(hl:qs.length<=1099511627776):RowK r W v qs/\n=qs.length/\(v=C none 0 0\/∃g cap,v=C (some ⟨g,0,none⟩) n cap/\base<=g/\Dl r W g qs):=by
 obtain⟨w,k⟩:=h;have s:n=qs.length:=by have:=e.1;omega
 subst s;rcases k with⟨rfl,i⟩|⟨g,cap,f,rfl,m,o,hle,q,A,t⟩
 . have:qs=[]:=AD i
   subst this;exact⟨RowK.nil r W,rfl,Or.inl rfl⟩
 . have hE:Dl r W g qs:=by
    refine⟨f,o,λj p=>?_⟩;obtain⟨x,y,z,u,a,b,c,d,l⟩:=e.2 j p;rw[<-t]at a b c d;rw[A5 O,Cr]at a b c d;exact⟨x,y,z,u,a,b,c,d,l⟩
   refine⟨⟨_,cap,rfl,hle,by unfold maxLen at q;omega,hl,Or.inr ⟨g,rfl,hE⟩⟩,rfl,Or.inr ⟨g,cap,rfl,m,hE⟩⟩
attribute [local go_sem] Oper.semAt_some
theorem P4(P Q:E)(x y:Int)(w:D)(f:Jk w P x)(X:Jk w Q y)(af:(Ji Y x.natAbs).length<1099511627776)(ah:(Ji Y y.natAbs).length<1099511627776):
 Calls Tryz.prog 67 #[P,Q] w λe c=>∃u,e=.returned u/\Jk c u (x-y)/\Bl w c:=by
 obtain⟨a,la,ca,rfl⟩:=f.form;obtain⟨b,lb,cb,W,g⟩:=X;cases W;obtain⟨s,A⟩:=ex (decide (x<0));obtain⟨t,n⟩:=ex (decide (y<0));rw[A]at f ⊢;rw[n];clear A;obtain⟨W0,d⟩:=ex (((w.alloc (G #[F s,C a la ca] 35)).alloc (G #[F t,C b lb cb] 35)).alloc (G #[F false,C none 0 0] 35));have i:Bl w W0:=by rw[<-d];exact IH w _ _ _
 have b0:Jt W0 w.heap.size 35 (F s) (C a la ca):=by rw[<-d];exact((Jt.new w _ _ _).alloc _).alloc _
 have j:Jt W0 (w.heap.size+1) 35 (F t) (C b lb cb):=by
  have h:=(Jt.new (w.alloc (G #[F s,C a la ca] 35)) 35 (F t) (C b lb cb)).alloc (G #[F false,C none 0 0] 35);rw[Ax,d]at h;exact h
 have k:Jt W0 (w.heap.size+1+1) 35 (F false) (C none 0 0):=by
  have h:=Jt.new ((w.alloc (G #[F s,C a la ca] 35)).alloc (G #[F t,C b lb cb] 35)) 35 (F false) (C none 0 0);rw[Ax,Ax,d]at h;exact h
 have r:(if(!t)=true then -(y.natAbs:Int)else y.natAbs)=-y:=by
  rw[<-n];by_cases h:y<0
  . simp only[h,decide_true,Bool.not_true,CB,if_false];omega
  . simp only[h,decide_false,Bool.not_false,if_true];omega
 have R:=Ja (λ(V:D) (h:Bl W0 V)=>show Calls Tryz.prog 72 #[F (!t),C b lb cb] V λe c=>∃u,e=.returned u/\Jk c u (-y)/\Bl V c by
  have z:=Ir (!t) (C b lb cb) y.natAbs V (UN.below (UN.below g i) h);rw[r]at z;exact z)
 have S:=Ja λ(V:D) (u:E) (h:Bl W0 V) (g:Jk V u (-y))=>NL _ u x (-y) V ((f.below i).below h) g af (by rw[Int.natAbs_neg];exact ah);clear f g r n;go_enter Tryz.func67,Tryz.ntmps67
 go_wp2_with fail
 try rw[d]
 clear d;have hq:Bl W0 W0.drew:=(BF _ W0).drew;obtain⟨B,I⟩:=b0.cp;obtain⟨K,L⟩:=j.cp;have ai:¬(w.heap.size=w.heap.size+1+1):=O
 go_region_held3 (λc=>c.cell? ⟨w.heap.size,0,none⟩=some (F s)/\c.cell? ⟨w.heap.size,1,none⟩=some (C a la ca)/\c.cell? ⟨w.heap.size+1,0,none⟩=some (F t)/\c.cell? ⟨w.heap.size+1,1,none⟩=some (C b lb cb)) (refine⟨?_,?_,?_,?_⟩<;>(first|(go_keep;done)|((repeat rw[Ya O]);simp[*];done)))
  (first
   |(go_at_call 72;refine(R.o _ hq).mono ?_;rintro e w1 ⟨u1,rfl,o,ad⟩;obtain⟨na,nl,nc,rfl⟩:=o.form;obtain⟨s1,l⟩:=ex (decide (-y<0));rw[l]at o;rw[l];clear l;have hq:=Bt hq ad;obtain⟨B,I⟩:=(b0.below hq).cp;obtain⟨K,L⟩:=(j.below hq).cp)
   |(go_at_call 83;refine(S.o _ _ hq o).mono ?_;rintro e w2 ⟨u2,rfl,q,ae⟩;obtain⟨N,sl,sc,rfl⟩:=q.form;obtain⟨M,m⟩:=ex (decide (x+-y<0));rw[m]at q;rw[m];clear m;have hq:=Bt hq ae;obtain⟨B,I⟩:=(b0.below hq).cp;obtain⟨K,L⟩:=(j.below hq).cp;obtain⟨r0,r1⟩:=(k.below hq).cp;obtain⟨f0,f1⟩:=(k.below hq).fp))
 all_goals go_wp2_with fail
 have U:=Bt i hq;have T:=q.box (k.below hq) rfl rfl (x0:=F M) (x1:=C N sl sc);exact BB (v:=H #[F M,C N sl sc]) (by simp[results,Tryz.results67,go_sem,r0,r1]) rfl ⟨_,rfl,by rw[Int.sub_eq_add_neg];exact T,(U.setCell (p:=⟨_,0,none⟩) Dd _).setCell (p:=⟨_,1,none⟩) Dd _⟩
theorem WS(a:Option Addr)(la ca:Nat)(b:Option Addr)(lb cb m n:Nat)(w:D)(t:la+lb<=1099511627776)
(i:Row .u64 w (C a la ca) (Ji Y m))(j:Row .u64 w (C b lb cb) (Ji Y n)):
 Calls Tryz.prog 127 #[C a la ca,C b lb cb] w λe q=>∃u,e=.returned u/\UN q u (m*n)/\Bl w q:=by
 have l:=It (la+lb) O w;rw[show((la+lb:Nat):Int)=(la:Int)+(lb:Int)from by omega]at l;obtain⟨c,d⟩:∃c,c=w.alloc (G (cellsOf .u64 (List.replicate (la+lb) 0)).toArray 115):=⟨_,rfl⟩;have f:Bl w c:=by rw[d];exact Ba w _
 have k:DJ c w.heap.size (List.replicate (la+lb) 0):=by rw[d];exact DJ.made (BE w _)
 rw[<-d]at l;have r:=Ja (VW w.heap.size (la+lb) (la+lb) (List.replicate (la+lb) 0) a la ca b lb cb m n c k (λx v=>by rw[C6 v];unfold Y;omega) (by rw[AA];exact Aa _) (Aa _) O t (Row.below i f) (Row.below j f)
  (λp e g=>by have:=IP i e g;omega) λp e g=>by have:=IP j e g;omega)
 clear d k i j;go_enter Tryz.func127,Tryz.ntmps127
 go_wp2_with(go_at_call 168;refine r.o.mono ?_;rintro e A ⟨u,rfl,⟨o,s⟩,_,_⟩;obtain⟨y,z,rfl⟩:=UN.form o)
 go_ret;exact⟨_,rfl,o,below_grown f s (Aa _)⟩
theorem Xh(R S:E)(x y:Int)(w:D)(ha:Jk w R x)(hb:Jk w S y)(hl:(Ji Y x.natAbs).length+(Ji Y y.natAbs).length<=1099511627776):
 Calls Tryz.prog 69 #[R,S] w λe f=>∃u,e=.returned u/\Jk f u (x*y)/\Bl w f:=by
 obtain⟨a,la,ca,n,j⟩:=ha;cases n;obtain⟨b,lb,cb,n,A⟩:=hb;cases n;have X:=j.len;have Qe:=A.len;obtain⟨s,o⟩:=ex (decide (x<0));obtain⟨t,r⟩:=ex (decide (y<0));have B:(if(!(s==t))=true then -((x.natAbs*y.natAbs:Nat):Int)else((x.natAbs*y.natAbs:Nat):Int))=x*y:=by
  rw[<-o,<-r,<-Cz];rcases Int.lt_trichotomy x 0 with c|c|c<;>rcases Int.lt_trichotomy y 0 with d|d|d
  . have:=Int.mul_pos_of_neg_of_neg c d;simp[c,d];omega
  . subst d;simp
  . have:=Int.mul_neg_of_neg_of_pos c d;have g:¬y<0:=O
    simp[c,g];omega
  . subst c;simp
  . subst c;simp
  . subst c;simp
  . have:=Int.mul_neg_of_pos_of_neg c d;have g:¬x<0:=O
    simp[d,g];omega
  . subst d;simp
  . have:=Int.mul_pos c d;have g:¬x<0:=O
    have h2:¬y<0:=O
    simp[g,h2];omega
 rw[o,r];obtain⟨W0,i⟩:=ex (((w.alloc (G #[F s,C a la ca] 35)).alloc (G #[F t,C b lb cb] 35)).alloc (G #[F false,C none 0 0] 35));have k:Bl w W0:=by rw[<-i];exact IH w _ _ _
 have b0:Jt W0 w.heap.size 35 (F s) (C a la ca):=by rw[<-i];exact((Jt.new w _ _ _).alloc _).alloc _
 have l:Jt W0 (w.heap.size+1) 35 (F t) (C b lb cb):=by
  have h:=(Jt.new (w.alloc (G #[F s,C a la ca] 35)) 35 (F t) (C b lb cb)).alloc (G #[F false,C none 0 0] 35);rw[Ax,i]at h;exact h
 have m:Jt W0 (w.heap.size+1+1) 35 (F false) (C none 0 0):=by
  have h:=Jt.new ((w.alloc (G #[F s,C a la ca] 35)).alloc (G #[F t,C b lb cb] 35)) 35 (F false) (C none 0 0);rw[Ax,Ax,i]at h;exact h
 have U:=Ja λ(V:D) (h:Bl W0 V)=>WS a la ca b lb cb _ _ V O (UN.below (UN.below j k) h) (UN.below (UN.below A k) h);have T:=Ja (λ(V:D) (u:E) (j:UN V u (x.natAbs*y.natAbs))=>show Calls Tryz.prog 72 #[F (!(s==t)),u] V λe f=>∃u,e=.returned u/\Jk f u (x*y)/\Bl V f by
  have g:=Ir (!(s==t)) u _ V j;rw[B]at g;exact g)
 clear j A B o r X Qe hl;go_enter Tryz.func69,Tryz.ntmps69
 go_wp2_with fail
 try rw[i]
 clear i;have hq:Bl W0 W0.drew:=(BF _ W0).drew;obtain⟨K,L⟩:=b0.cp;obtain⟨M,N⟩:=l.cp;have af:¬(w.heap.size=w.heap.size+1+1):=O
 go_region_held3 (λf=>f.cell? ⟨w.heap.size,0,none⟩=some (F s)/\f.cell? ⟨w.heap.size,1,none⟩=some (C a la ca)/\f.cell? ⟨w.heap.size+1,0,none⟩=some (F t)/\f.cell? ⟨w.heap.size+1,1,none⟩=some (C b lb cb)) (refine⟨?_,?_,?_,?_⟩<;>(first|(go_keep;done)|((repeat rw[Ya O]);simp[*];done)))
  (first
   |(go_at_call 127;refine(U.o _ hq).mono ?_;rintro e w1 ⟨u1,rfl,I,ad⟩;obtain⟨na,nc,rfl⟩:=UN.form I;have hq:=Bt hq ad;obtain⟨K,L⟩:=(b0.below hq).cp;obtain⟨M,N⟩:=(l.below hq).cp)
   |(go_at_call 72;refine(T.o _ _ I).mono ?_;rintro e w2 ⟨u2,rfl,z,ae⟩;obtain⟨Q,sl,sc,rfl⟩:=z.form;obtain⟨P,q⟩:=ex (decide (x*y<0));rw[q]at z;rw[q];clear q;have hq:=Bt hq ae;obtain⟨K,L⟩:=(b0.below hq).cp;obtain⟨M,N⟩:=(l.below hq).cp;obtain⟨r0,r1⟩:=(m.below hq).cp;obtain⟨f0,f1⟩:=(m.below hq).fp))
 all_goals go_wp2_with fail
 have Qf:=Bt k hq;have W:=z.box (m.below hq) rfl rfl (x0:=F P) (x1:=C Q sl sc);exact BB (v:=H #[F P,C Q sl sc]) (by simp[results,Tryz.results69,go_sem,r0,r1]) rfl ⟨_,rfl,W,(Qf.setCell (p:=⟨_,0,none⟩) Dd _).setCell (p:=⟨_,1,none⟩) Dd _⟩
end
namespace M3
structure Dat where
 ty:TypeId
 has:World->Value->Prop
 noPoly:Bool
 below:∀ {V V':World} {v:Value},has V v->Bl V V'->has V' v
 keep:∀ {V V':World} {v:Value},has V v->(∀k v ds,Row k V v ds->Row k V' v ds)->(noPoly=true\/∀v qs,RowK true V v qs->RowK true V' v qs)->has V' v
def Dat.int(z:Int):Dat where
 ty:=35
 has V v:=Jk V v z
 noPoly:=true
 below h hb:=Jk.below h hb
 keep h hk _:=by
  obtain⟨a,l,c,e,b⟩:=h;exact⟨a,l,c,e,hk _ _ _ b⟩
def Dat.rat(q:Rat):Dat where
 ty:=37
 has V v:=Jh V v q
 noPoly:=true
 below h hb:=Jh.below h hb
 keep h hk _:=by
  obtain⟨s,a,l,c,t,b,k,d,e,⟨f,l1,c1,i,m⟩,⟨g,l2,c2,j,n⟩⟩:=h;exact⟨s,a,l,c,t,b,k,d,e,⟨f,l1,c1,i,hk _ _ _ m⟩,⟨g,l2,c2,j,hk _ _ _ n⟩⟩
def Dat.ref(q:Rat):Dat where
 ty:=47
 has V v:=GL V v q
 noPoly:=true
 below h hb:=GL.below h hb
 keep h hk _:=by
  obtain⟨s,a,l,c,t,b,k,d,e,⟨f,l1,c1,i,m⟩,⟨g,l2,c2,j,n⟩⟩:=h;exact⟨s,a,l,c,t,b,k,d,e,⟨f,l1,c1,i,hk _ _ _ m⟩,⟨g,l2,c2,j,hk _ _ _ n⟩⟩
def Dat.rats(qs:List Rat):Dat where
 ty:=37
 has V v:=∃cs,v=H cs/\∀j,j<qs.length->∃x y z u,cs[j*4]?=some x/\cs[j*4+1]?=some y/\cs[j*4+2]?=some z/\cs[j*4+3]?=some u/\D9 true V (H #[x,y,z,u]) (cf qs j)
 noPoly:=true
 below h hb:=by
  obtain⟨cs,e,h⟩:=h;refine⟨cs,e,λj g=>?_⟩;obtain⟨x,y,z,u,a,b,c,d,f⟩:=h j g;exact⟨x,y,z,u,a,b,c,d,f.below hb⟩
 keep h hk _:=by
  obtain⟨cs,e,h⟩:=h;refine⟨cs,e,λj g=>?_⟩;obtain⟨x,y,z,u,a,b,c,d,f⟩:=h j g;exact⟨x,y,z,u,a,b,c,d,f.keep hk⟩
def Dat.poly(ps:List Rat):Dat where
 ty:=25
 has V v:=Je V v ps
 noPoly:=false
 below h hb:=Je.below h hb
 keep h _ hp:=by
  rcases hp with hp|hp
  . cases hp
  . obtain⟨u,e,a⟩:=h;exact⟨u,e,hp _ _ a⟩
def Dat.cell(t:TypeId)(x:E):Dat where
 ty:=t
 has _ v:=v=H #[x]/\JN x=true
 noPoly:=true
 below h _:=h
 keep h _ _:=h
def Has(V:D)(v:E)(d:Dat):Prop:=d.has V v
theorem Has.below{V V':D}{v:E}{d:Dat}(h:Has V v d)(a:Bl V V'):Has V' v d:=d.below h a
theorem Has.alloc{V:D}{v:E}{d:Dat}(h:Has V v d)(o:Obj):Has (V.alloc o) v d:=h.below (Ba V o)
theorem Has.keep{V V':D}{v:E}{d:Dat}(h:Has V v d)(a:∀k v ds,Row k V v ds->Row k V' v ds)(hp:d.noPoly=true\/∀v qs,RowK true V v qs->RowK true V' v qs):Has V' v d:=d.keep h a hp
def Bx(V:D)(B:Nat)(t:TypeId)(cs:Array E):Prop:=V.heap[B]?=some (G cs t (0,0))
variable{cs:Array E}{d:Dat}{bs:List (Option (Nat × Dat))}{qs:List Rat}{B i:Nat}{q:Rat}{t:TypeId}{u x x0 y z:E}{V V' w:D}
theorem Bx.lt(h:Bx V B t cs):B<V.heap.size:=(Ab.1 h).1
theorem Bx.below(h:Bx V B t cs)(a:Bl V V'):Bx V' B t cs:=(a.block B h.lt).trans h
theorem Bx.far(h:Bx V B t cs){p:Addr}(hp:B≠p.block)(u:E):Bx (V.setCell p u) B t cs:=(BD V p u B hp).trans h
def noPoly:List (Option (Nat × Dat))->Bool
 |[]=>true
 |some (_,d)::t=>d.noPoly&&noPoly t
 |Option.none::t=>noPoly t
theorem P5(h:noPoly bs=true){x:Nat × Dat}(e:bs[i]?=some (some x)):x.2.noPoly=true:=by
 induction bs generalizing i with
 |nil=>simp at e
 |cons b t a=>
  cases b with
  |none=>
   cases i with
   |zero=>simp at e
   |succ i=>exact a h (by simpa using e)
  |some y=>
   rw[noPoly,Cu]at h;cases i with
   |zero=>simp at e;rw[<-e];exact h.1
   |succ i=>exact a h.2 (by simpa using e)
def Mem(w V:D)(bs:List (Option (Nat × Dat))):Prop:=
 (∀(i:Nat) B d,bs[i]?=some (some (B,d))->(∃cs,Bx V B d.ty cs/\Has V (H cs) d)/\w.heap.size<=B)/\
 (∀(i j:Nat) B d a,bs[i]?=some (some (B,d))->bs[j]?=some (some (B,a))->i=j)/\Bl w V
theorem Mem.nil(w:D):Mem w w []:=⟨λi B z h=>by simp at h,λi j B z a h=>by simp at h,BF _ w⟩
theorem Mem.int{w V:D}{bs:List (Option (Nat × Dat))}(M:Mem w V bs){i B:Nat}{z:Int}(h:bs[i]?=some (some (B,.int z))):∃s a l c,Jt V B 35 (F s) (C a l c)/\Jk V (H #[F s,C a l c]) z:=by
 obtain⟨⟨cs,b,d⟩,_⟩:=M.1 i B _ h;obtain⟨a,l,c,e,f⟩:=d;cases e;exact⟨_,a,l,c,b,a,l,c,rfl,f⟩
theorem Mem.rat{w V:D}{bs:List (Option (Nat × Dat))}(M:Mem w V bs){i B:Nat}{q:Rat}(h:bs[i]?=some (some (B,.rat q))):
 ∃s a l c t b k d,JM V B 37 (F s) (C a l c) (F t) (C b k d)/\Jh V (H #[F s,C a l c,F t,C b k d]) q/\Jk V (H #[F s,C a l c]) q.num/\Jk V (H #[F t,C b k d]) (Dp q):=by
 obtain⟨⟨cs,m,f⟩,_⟩:=M.1 i B _ h;have n:=f;obtain⟨s,a,l,c,t,b,k,d,e,g,j⟩:=f;cases e;exact⟨s,a,l,c,t,b,k,d,m,n,g,j⟩
theorem Mem.below{w V V':D}{bs:List (Option (Nat × Dat))}(M:Mem w V bs)(a:Bl V V'):Mem w V' bs:=
 ⟨λi B z h=>by
  obtain⟨⟨cs,b,c⟩,d⟩:=M.1 i B z h;exact⟨⟨cs,b.below a,c.below a⟩,d⟩,M.2.1,Bt M.2.2 a⟩
theorem Mem.drew{w V:D}{bs:List (Option (Nat × Dat))}(M:Mem w V bs):Mem w V.drew bs:=M.below ((BF _ V).drew)
theorem Mem.sub{cs:List (Option (Nat × Dat))}(M:Mem w V bs)(f:Nat->Nat)(e:∀(i j:Nat),f i=f j->i=j)(h:∀(i:Nat) x,cs[i]?=some (some x)->bs[f i]?=some (some x)):Mem w V cs:=
 ⟨λi B d a=>M.1 (f i) B d (h i _ a),λi j B d b a c=>e i j (M.2.1 (f i) (f j) B d b (h i _ a) (h j _ c)),M.2.2⟩
theorem Mem.take{w V:D}{bs:List (Option (Nat × Dat))}(M:Mem w V bs)(n:Nat):Mem w V (bs.take n):=by
 refine M.sub id (λ_ _ h=>h) λi x h=>?_;rw[C5]at h;split at h
 . exact h
 . cases h
theorem Mem.none{w V:D}{bs:List (Option (Nat × Dat))}(M:Mem w V bs):Mem w V (bs++[Option.none]):=by
 refine M.sub id (λ_ _ h=>h) λi x h=>?_;by_cases a:i<bs.length
 . rwa[AV a]at h
 . rw[AE O]at h;obtain⟨k,b⟩:=ex (i-bs.length);rw[b]at h;cases k<;>simp at h
theorem Mem.fill(M:Mem w V bs)(h:bs[i]?=some Option.none)(d:Dat)(q:Has V (H cs) d):
 Mem w (V.alloc (G cs d.ty)) (bs.set i (some (V.heap.size,d))):=by
 have m:Bl V (V.alloc (G cs d.ty)):=Ba V _;have f:i<bs.length:=(Ac.1 h).1;have l:=M.below m;have n:∀(j:Nat) B d,bs[j]?=some (some (B,d))->B<V.heap.size:=λj B d h=>by
  obtain⟨⟨_,a,_⟩,_⟩:=M.1 j B d h;exact a.lt
 refine⟨λj B p e=>?_,λj k B d1 o a b=>?_,l.2.2⟩
 . by_cases c:i=j
   . subst c;rw[A9 f]at e;simp at e;obtain⟨rfl,rfl⟩:=e;exact⟨⟨cs,BE V _,q.below m⟩,M.2.2.size⟩
   . rw[AR c]at e;exact l.1 j B p e
 . by_cases c:i=j<;>by_cases g:i=k
   . omega
   . subst c;rw[A9 f]at a;rw[AR g]at b;simp at a;have:=n k B o b;omega
   . subst g;rw[A9 f]at b;rw[AR c]at a;simp at b;have:=n j B d1 a;omega
   . rw[AR c]at a;rw[AR g]at b;exact M.2.1 j k B d1 o a b
theorem Mem.push(M:Mem w V bs)(d:Dat)(a:Has V (H cs) d):Mem w (V.alloc (G cs d.ty)) (bs++[some (V.heap.size,d)]):=by
 have h:=M.none.fill (i:=bs.length) Z d a;rwa[P1]at h
theorem Mem.repl(M:Mem w V bs)(h:bs[i]?=some (some (B,d)))(c:Dat)(z:Bx V' B c.ty cs)(A:Has V (H cs) c)
(o:∀k v ds,Row k V v ds->Row k V' v ds)(I:∀B' t cs,B'≠B->Bx V B' t cs->Bx V' B' t cs)(y:Bl w V')
(hp:noPoly bs=true\/∀v qs,RowK true V v qs->RowK true V' v qs)(K:c.noPoly=true\/∀v qs,RowK true V v qs->RowK true V' v qs):Mem w V' (bs.set i (some (B,c))):=by
 have n:i<bs.length:=(Ac.1 h).1;obtain⟨_,L⟩:=M.1 i B d h;refine⟨λj B' d1 a=>?_,λj k B' d1 r u x=>?_,y⟩
 . by_cases b:i=j
   . subst b;rw[A9 n]at a;simp at a;obtain⟨rfl,rfl⟩:=a;exact⟨⟨cs,z,A.keep o K⟩,L⟩
   . rw[AR b]at a;obtain⟨⟨q,g,l⟩,N⟩:=M.1 j B' d1 a;have p:B'≠B:=λe=>b (by rw[e]at a;exact M.2.1 i j B d d1 h a);exact⟨⟨q,I _ _ _ p g,l.keep o (hp.imp (λh=>P5 h a) id)⟩,N⟩
 . have m:∀(j:Nat) d1,(bs.set i (some (B,c)))[j]?=some (some (B',d1))->∃f,bs[j]?=some (some (B',f)):=λj d1 a=>by
    by_cases b:i=j
    . subst b;rw[A9 n]at a;simp at a;exact⟨d,by rw[h,a.1]⟩
    . rw[AR b]at a;exact⟨d1,a⟩
   obtain⟨f,g⟩:=m j d1 u;obtain⟨s,l⟩:=m k r x;exact M.2.1 j k B' f s g l
theorem IW(h:Bx V B t cs){o:Nat}(e:cs[o]?=some x0)(n:JN x0=true)(r:Bool)(m:t≠IV r)(x:E)(v:E)(qs:List Rat)(d:RowK r V v qs):RowK r (V.setCell ⟨B,o,Option.none⟩ x) v qs:=by
 obtain⟨a,cap,ev,j,k,l,c⟩:=d;refine⟨a,cap,ev,j,k,l,?_⟩;rcases c with c|⟨b,i,g⟩
 . exact Or.inl c
 . refine Or.inr ⟨b,i,g.keep (BD V ⟨B,o,Option.none⟩ x b ?_) λ_ _ _ d=>Row.set d (cell_of h e) n _⟩;rintro rfl;obtain⟨p,f,_⟩:=g;rw[show V.heap[b]?=_ from h]at f;cases f;exact m rfl
theorem WT{a:E}(q:Jt V B t x0 a){r:Bool}(b:t≠IV r)(c:JN x0=true)(d:JN a=true)(x y:E):∀v qs,RowK r V v qs->RowK r ((V.setCell ⟨B,0,Option.none⟩ x).setCell ⟨B,1,Option.none⟩ y) v qs:=
 λv qs h=>IW (cs:=#[x,a]) (q.set0 x) (o:=1) rfl d r b y v qs (IW (cs:=#[x0,a]) q (o:=0) rfl c r b x v qs h)
theorem keep2(q:Jt V B t x y)(b:JN x=true)(c:JN y=true)(a d:E):∀k v ds,Row k V v ds->Row k ((V.setCell ⟨B,0,Option.none⟩ a).setCell ⟨B,1,Option.none⟩ d) v ds:=
 λ_ _ _ h=>Row.set (Row.set h q.c0 b _) (q.set0 a).c1 c _
theorem Mem.putInt(M:Mem w V bs){z0:Int}(h:bs[i]?=some (some (B,.int z0))){z:Int}(f:Jk V (H #[x,y]) z):
 Mem w ((V.setCell ⟨B,0,Option.none⟩ x).setCell ⟨B,1,Option.none⟩ y) (bs.set i (some (B,.int z))):=by
 obtain⟨s,a,l,c,b,_⟩:=M.int h;obtain⟨_,e⟩:=M.1 i B _ h;exact M.repl h (.int z) (cs:=#[x,y]) ((b.set0 x).set1 y) f (keep2 b rfl rfl x y) (λB' t cs d g=>(g.far (p:=⟨B,0,Option.none⟩) d _).far (p:=⟨B,1,Option.none⟩) d _) ((M.2.2.setCell (p:=⟨B,0,Option.none⟩) e _).setCell (p:=⟨B,1,Option.none⟩) e _) (Or.inr (WT b DF rfl rfl x y)) (Or.inl rfl)
theorem far4(x y z u:E):∀B' t cs,B'≠B->Bx V B' t cs->Bx (put4 V B x y z u) B' t cs:=λ_ _ _ a g=>(((g.far (p:=⟨B,0,Option.none⟩) a _).far (p:=⟨B,1,Option.none⟩) a _).far (p:=⟨B,2,Option.none⟩) a _).far (p:=⟨B,3,Option.none⟩) a _
theorem Mem.putRat(M:Mem w V bs){q0:Rat}(h:bs[i]?=some (some (B,.rat q0)))(b:Jh V (H #[x,y,z,u]) q)(d:noPoly bs=true:=by rfl):
 Mem w (put4 V B x y z u) (bs.set i (some (B,.rat q))):=by
 obtain⟨_,_,_,_,_,_,_,_,a,_⟩:=M.rat h;obtain⟨_,c⟩:=M.1 i B _ h;exact M.repl h (.rat q) (cs:=#[x,y,z,u]) (a.put x y z u) b (λ_ _ _ g=>Row.put4 g a rfl rfl rfl rfl _ _ _ _) (far4 x y z u) (JB M.2.2 c _ _ _ _) (Or.inl d) (Or.inl rfl)
theorem Has.set2{v:E}(h:Has V v d)(q:Jt V B t x y)(e:JN x=true)(f:JN y=true)(a b:E)(c:d.noPoly=true:=by rfl):Has ((V.setCell ⟨B,0,Option.none⟩ a).setCell ⟨B,1,Option.none⟩ b) v d:=h.keep (keep2 q e f a b) (Or.inl c)
theorem Has.put4{V:D}{v:E}{d:Dat}(h:Has V v d){B:Nat}{t:TypeId}{x y z u:E}(q:JM V B t x y z u)(b:JN x=true)(c:JN y=true)(e:JN z=true)(f:JN u=true)(j k l i:E)(a:d.noPoly=true:=by rfl):Has (Go.Proofs.YtakpoihdghihmaaGreatDoor.put4 V B j k l i) v d:=h.keep (λ_ _ _ g=>Row.put4 g q b c e f _ _ _ _) (Or.inl a)
theorem Mem.ne(M:Mem w V bs)(i j:Nat){B':Nat}{a:Dat}(h:bs[i]?=some (some (B,d)))(b:bs[j]?=some (some (B',a)))(c:i≠j):B≠B':=λe=>by
 subst e;exact c (M.2.1 i j B d a h b)
theorem Mem.ge(M:Mem w V bs)(i:Nat)(h:bs[i]?=some (some (B,d))):w.heap.size<=B:=(M.1 i B d h).2
def Tup2(V:D)(t:E)(d1 a:Dat):Prop:=∃u1 u2,t=.tuple #[u1,u2,F true]/\Has V u1 d1/\Has V u2 a
theorem Tup2.below{V V':D}{t:E}{d1 a:Dat}(h:Tup2 V t d1 a)(b:Bl V V'):Tup2 V' t d1 a:=by
 obtain⟨u1,u2,e,c,d⟩:=h;exact⟨u1,u2,e,c.below b,d.below b⟩
theorem Tup2.alloc{V:D}{t:E}{d1 a:Dat}(h:Tup2 V t d1 a)(o:Obj):Tup2 (V.alloc o) t d1 a:=by
 obtain⟨u1,u2,e,b,c⟩:=h;exact⟨u1,u2,e,b.alloc o,c.alloc o⟩
theorem Tup2.set2{V:D}{v:E}{d1 a:Dat}(h:Tup2 V v d1 a){B:Nat}{t:TypeId}{x y:E}(q:Jt V B t x y)(d:JN x=true)(f:JN y=true)(b c:E)(j:d1.noPoly=true:=by rfl)(k:a.noPoly=true:=by rfl):Tup2 ((V.setCell ⟨B,0,Option.none⟩ b).setCell ⟨B,1,Option.none⟩ c) v d1 a:=by
 obtain⟨u1,u2,e,g,i⟩:=h;exact⟨u1,u2,e,g.set2 q d f b c j,i.set2 q d f b c k⟩
theorem Mem.rats{w V:D}{bs:List (Option (Nat × Dat))}(M:Mem w V bs){i B:Nat}{qs:List Rat}(h:bs[i]?=some (some (B,.rats qs))):Dl true V B qs:=by
 obtain⟨⟨cs,b,a⟩,_⟩:=M.1 i B _ h;obtain⟨c,e,a⟩:=a;cases e;exact⟨cs,b,a⟩
theorem Mem.putRats(M:Mem w V bs)(h:bs[i]?=some (some (B,.rats qs))){j:Nat}(o:j<qs.length)(L:Jh V (H #[x,y,z,u]) q)(Q:noPoly bs=true:=by rfl):
 Mem w (putAt V B (j*4) x y z u) (bs.set i (some (B,.rats (qs.set j q)))):=by
 have n:=M.rats h;obtain⟨_,p⟩:=M.1 i B _ h;obtain⟨cs,c1,c2⟩:=Dl.set (r:=true) n o L;have N:=n.putKeep o x y z u;have m:i<bs.length:=(Ac.1 h).1;refine⟨λb B' d1 a=>?_,λb k B' d1 v I K=>?_,P3 M.2.2 p _ _ _ _⟩
 . by_cases c:i=b
   . subst c;rw[A9 m]at a;simp at a;obtain⟨rfl,rfl⟩:=a;exact⟨⟨cs,c1,cs,rfl,c2⟩,p⟩
   . rw[AR c]at a;obtain⟨⟨t,f,g⟩,P⟩:=M.1 b B' d1 a;have s:B'≠B:=λe=>c (by rw[e]at a;exact M.2.1 i b B _ d1 h a);exact⟨⟨t,(Kc s x y z u).trans f,g.keep N (Or.inl (P5 Q a))⟩,P⟩
 . have l:∀(b:Nat) d1,(bs.set i (some (B,.rats (qs.set j q))))[b]?=some (some (B',d1))->∃d,bs[b]?=some (some (B',d)):=λb d1 a=>by
    by_cases c:i=b
    . subst c;rw[A9 m]at a;simp at a;exact⟨_,by rw[h,a.1]⟩
    . rw[AR c]at a;exact⟨d1,a⟩
   obtain⟨d,f⟩:=l b d1 I;obtain⟨A,g⟩:=l k v K;exact M.2.1 b k B' d A f g
theorem Mem.cell{w V:D}{bs:List (Option (Nat × Dat))}(M:Mem w V bs){i B:Nat}{t:TypeId}{v:E}(h:bs[i]?=some (some (B,.cell t v))):Boxed V B t v/\JN v=true:=by
 obtain⟨⟨cs,b,a⟩,_⟩:=M.1 i B _ h;obtain⟨e,a⟩:=a;cases e;exact⟨b,a⟩
theorem Mem.poly{w V:D}{bs:List (Option (Nat × Dat))}(M:Mem w V bs){i B:Nat}{ps:List Rat}(h:bs[i]?=some (some (B,.poly ps))):∃a l c,Boxed V B 25 (C a l c)/\RowK true V (C a l c) ps:=by
 obtain⟨⟨cs,d,b⟩,_⟩:=M.1 i B _ h;obtain⟨a,l,c,e⟩:=Je.form b;cases e;exact⟨a,l,c,d,Je.row b⟩
theorem P6(q:Boxed V B t x)(a:JN x=true)(b:E):∀k v ds,Row k V v ds->Row k (V.setCell ⟨B,0,Option.none⟩ b) v ds:=
 λ_ _ _ h=>Row.set h q.cell a _
theorem Mem.putPoly(M:Mem w V bs){p0:List Rat}(h:bs[i]?=some (some (B,.poly p0))){ps:List Rat}(e:Je V (H #[x]) ps):
 Mem w (V.setCell ⟨B,0,Option.none⟩ x) (bs.set i (some (B,.poly ps))):=by
 obtain⟨a,l,c,b,_⟩:=M.poly h;obtain⟨_,j⟩:=M.1 i B _ h;have d:∀v qs,RowK true V v qs->RowK true (V.setCell ⟨B,0,Option.none⟩ x) v qs:=IW (cs:=#[C a l c]) b (o:=0) rfl rfl true DF x;exact M.repl h (.poly ps) (cs:=#[x]) (b.set x) e (P6 b rfl x) (λB' t cs f g=>g.far (p:=⟨B,0,Option.none⟩) f _) (M.2.2.setCell (p:=⟨B,0,Option.none⟩) j _) (Or.inr d) (Or.inr d)
theorem Mem.adopt(M:Mem w V bs)(l:Bl V V'){g:Nat}(n:V.heap.size<=g)(m:Dl true V' g qs):Mem w V' (bs++[some (g,.rats qs)]):=by
 have e:=M.below l;have f:∀(j:Nat) B d,bs[j]?=some (some (B,d))->B<V.heap.size:=λj B d h=>by
  obtain⟨⟨_,a,_⟩,_⟩:=M.1 j B d h;exact a.lt
 have c:∀(j:Nat) x,(bs++[some (g,Dat.rats qs)])[j]?=some (some x)->bs[j]?=some (some x)\/(j=bs.length/\x=(g,.rats qs)):=λj x h=>by
  by_cases o:j<bs.length
  . rw[AV o]at h;exact Or.inl h
  . rw[AE O]at h;obtain⟨k,p⟩:=ex (j-bs.length);rw[p]at h;cases k with
    |zero=>simp at h;exact Or.inr ⟨O,h.symm⟩
    |succ k=>simp at h
 refine⟨λj B d h=>?_,λj k B d1 i a b=>?_,e.2.2⟩
 . rcases c j _ h with h|⟨_,h⟩
   . exact e.1 j B d h
   . cases h;obtain⟨cs,c1,c2⟩:=m;exact⟨⟨cs,c1,cs,rfl,c2⟩,An M.2.2.size n⟩
 . rcases c j _ a with a|⟨q,a⟩<;>rcases c k _ b with b|⟨r,b⟩
   . exact M.2.1 j k B d1 i a b
   . cases b;have:=f j _ _ a;omega
   . cases a;have:=f k _ _ b;omega
   . omega
end M3
def P7(W:D)(b:Nat)(xs:List Nat):Prop:=∃a:List E,W.heap[b]?=some (G (cellsOf .i64 xs++a).toArray 3 (0,0))
variable{a:Act}{K:Act->D->Prop}{c:Array Oper}{Q:Exit->Act->D->Prop}{i:Nat}{o:Oper}{P:Program}{w:D}
theorem P7.lt{W:D}{b:Nat}{xs:List Nat}(h:P7 W b xs):b<W.heap.size:=by obtain⟨_,h⟩:=h;exact(Ab.1 h).1
theorem J7(d:c[i]?=some o)(e:Region.wanted o (yielded c a.tmps)=true)
(h:∀b:Act->D->Prop,(∀a w,K a w->b a w)->o.wp P a w b Q):wpOp P c Q i K a w:=by
 unfold wpOp;rw[d];simp only[e,if_true];exact Or.inl (h K λ_ _ h=>h)
theorem EO{p q:Prop}(k:q)(h:Hid q->p:=by intro x;refine J7 rfl rfl λK a=>?_;go_simp;refine a _ _ ?_;(repeat apply Exists.intro);refine ⟨rfl,?_⟩;exact x.o):p:=h k
theorem Yn(b:c[i]?=some o)(d:Region.wanted o (yielded c a.tmps)=false)
(h:K (a.put o.dst undef) w):wpOp P c Q i K a w:=by
 unfold wpOp;rw[b];simp only[d];exact h

