import Derived.Test.YtakpoihdghihmaaGreatDoorQ03
import Derived.Deep.RegionHeld3
open Go renaming Value->C,World->D
set_option maxRecDepth 100000
set_option maxHeartbeats 16000000
namespace Go.Proofs.YtakpoihdghihmaaGreatDoor
open Go.RowKit Go.Shelf
def Jn(W:D)(B:Nat)(t:TypeId)(x y:C):Prop:=W.heap[B]?=some (.cells #[x,y] t (0,0))
variable{B:Nat}{t:TypeId}{x y:C}{W w:D}
theorem Jn.lt(h:Jn W B t x y):B<W.heap.size:=(Ab.1 h).1
theorem Jn.c0(h:Jn W B t x y):W.cell? ⟨B,0,none⟩=some x:=by simp[World.cell?,show W.heap[B]?=_ from h]
theorem Jn.c1(h:Jn W B t x y):W.cell? ⟨B,1,none⟩=some y:=by simp[World.cell?,show W.heap[B]?=_ from h]
theorem Jn.cp(h:Jn W B t x y):type_of% (And.intro h.c0 h.c1):=⟨h.c0,h.c1⟩
theorem Jn.f0(h:Jn W B t x y):W.frozen? ⟨B,0,none⟩=false:=by simp[World.frozen?,show W.heap[B]?=_ from h]
theorem Jn.f1(h:Jn W B t x y):W.frozen? ⟨B,1,none⟩=false:=by simp[World.frozen?,show W.heap[B]?=_ from h]
theorem Jn.fp(h:Jn W B t x y):type_of% (And.intro h.f0 h.f1):=⟨h.f0,h.f1⟩
theorem Jn.new(W:D)(t:TypeId)(x y:C):Jn (W.alloc (.cells #[x,y] t)) W.heap.size t x y:=BD W _
theorem Jn.below{W':D}(h:Jn W B t x y)(a:Below W.heap.size W W'):Jn W' B t x y:=(a.block B h.lt).trans h
theorem Jn.alloc{W:D}{B:Nat}{t:TypeId}{x y:C}(h:Jn W B t x y)(o:Obj):Jn (W.alloc o) B t x y:=h.below ((BE _ W).alloc (Aa _) o)
theorem Jn.drew{W:D}{B:Nat}{t:TypeId}{x y:C}(h:Jn W B t x y):Jn W.drew B t x y:=h
theorem Jn.set0(h:Jn W B t x y)(u:C):Jn (W.setCell ⟨B,0,none⟩ u) B t u y:=by
 obtain⟨b,a⟩:=Ab.1 h;show(W.heap.modify B _)[B]?=_;rw[Cg (by rw[CT];exact b),Cm,a];rfl
theorem Jn.set1(h:Jn W B t x y)(u:C):Jn (W.setCell ⟨B,1,none⟩ u) B t x u:=by
 obtain⟨b,a⟩:=Ab.1 h;show(W.heap.modify B _)[B]?=_;rw[Cg (by rw[CT];exact b),Cm,a];rfl
theorem Jn.far(h:Jn W B t x y){p:Addr}(hp:B≠p.block)(u:C):Jn (W.setCell p u) B t x y:=(BC W p u B hp).trans h
theorem Below.then{w W a:D}(h:Below w.heap.size w W)(k:Below W.heap.size W a):Below w.heap.size w a:=h.trans (k.mono h.size)
theorem Bt:type_of% @Below.then:=@Below.then
theorem J7{b o a c:Nat}{u:C}(h:b≠a):(w.setCell ⟨a,c,none⟩ u).cell? ⟨b,o,none⟩=w.cell? ⟨b,o,none⟩:=
 World.cell?_of_block (w:=w) (BC w ⟨a,c,none⟩ u b h)
def JK:C->Bool|.int _ _=>false|_=>true
theorem Row.set{k:IntKind}{W:D}{v:C}{ds:List Nat}(h:Row k W v ds){p:Addr}{u0:C}(hp:W.cell? p=some u0)(s:JK u0=true)(u:C):Row k (W.setCell p u) v ds:=by
 obtain⟨a,cap,e,l,m,n,c⟩:=h;refine⟨a,cap,e,l,m,n,?_⟩;rcases c with c|⟨b,off,i,r,o⟩
 . exact Or.inl c
 . refine Or.inr ⟨b,off,i,r.set p u,λj q=>?_⟩;have d:=o j q;have f:p≠⟨b,off+j,none⟩:=by
    intro g;rw[<-g,hp]at d;cases d;simp[JK]at s
   exact(World.cell?_setCell_other (h:=f) ..).trans d
theorem Hf{k:IntKind}{a:D}{R:Nat}{u0 u1:C}(x0 x1:C){v:C}{ds:List Nat}(c:Below w.heap.size w a)(b:w.heap.size<=R)(q:Jn a R t u0 u1)(e:JK u0=true)(f:JK u1=true)(d:Row k a v ds):
 Row k ((a.setCell ⟨R,0,none⟩ x0).setCell ⟨R,1,none⟩ x1) v ds/\Below w.heap.size w ((a.setCell ⟨R,0,none⟩ x0).setCell ⟨R,1,none⟩ x1):=
 ⟨Row.set (Row.set d q.c0 e _) (u0:=u1) (q.set0 x0).c1 f _,(c.setCell b _).setCell b _⟩
theorem RN.below{W W':D}{v:C}{n:Nat}(h:RN W v n)(a:Below W.heap.size W W'):RN W' v n:=Row.below h a
theorem Hg(w:D)(a b c:Obj):Below w.heap.size w (((w.alloc a).alloc b).alloc c):=
 (((BE _ w).alloc (Aa _) _).alloc Z _).alloc si _
theorem Sj{m n:Nat}(h:n<=m):0<=XD m n:=by
 rcases A5 n m with g|g
 . rw[Ix g];omega
 . have:m=n:=Y
   rw[this,OE];omega
def I3(W:D)(v:C)(z:Int):Prop:=∃a l cap,v=.agg #[.slice a l cap,.bool (decide (z<0))]/\RN W (.slice a l cap) z.natAbs
theorem I3.below{W W':D}{v:C}{z:Int}(h:I3 W v z)(b:Below W.heap.size W W'):I3 W' v z:=by
 obtain⟨a,l,cap,e,c⟩:=h;exact⟨a,l,cap,e,c.below b⟩
def MC(z:Int):Nat:=(Ji 10000 z.natAbs).length
