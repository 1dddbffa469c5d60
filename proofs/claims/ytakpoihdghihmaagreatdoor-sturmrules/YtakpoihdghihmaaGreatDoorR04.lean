import Derived.Test.YtakpoihdghihmaaGreatDoorR03
import Derived.Deep.RegionHeld3
open Go renaming Value->C,World->D
set_option maxRecDepth 100000
set_option maxHeartbeats 16000000
namespace Go.Proofs.YtakpoihdghihmaaGreatDoor
open Go.RowKit Go.Shelf
def Jt(W:D)(B:Nat)(t:TypeId)(x y:C):Prop:=W.heap[B]?=some (.cells #[x,y] t (0,0))
variable{B:Nat}{t:TypeId}{x y:C}{W w:D}
theorem Jt.lt(h:Jt W B t x y):B<W.heap.size:=(Ab.1 h).1
theorem Jt.c0(h:Jt W B t x y):W.cell? ⟨B,0,none⟩=some x:=by simp[World.cell?,show W.heap[B]?=_ from h]
theorem Jt.c1(h:Jt W B t x y):W.cell? ⟨B,1,none⟩=some y:=by simp[World.cell?,show W.heap[B]?=_ from h]
theorem Jt.cp(h:Jt W B t x y):type_of% (And.intro h.c0 h.c1):=⟨h.c0,h.c1⟩
theorem Jt.f0(h:Jt W B t x y):W.frozen? ⟨B,0,none⟩=false:=by simp[World.frozen?,show W.heap[B]?=_ from h]
theorem Jt.f1(h:Jt W B t x y):W.frozen? ⟨B,1,none⟩=false:=by simp[World.frozen?,show W.heap[B]?=_ from h]
theorem Jt.fp(h:Jt W B t x y):type_of% (And.intro h.f0 h.f1):=⟨h.f0,h.f1⟩
theorem Jt.new(W:D)(t:TypeId)(x y:C):Jt (W.alloc (.cells #[x,y] t)) W.heap.size t x y:=BE W _
theorem Jt.below{W':D}(h:Jt W B t x y)(a:Below W.heap.size W W'):Jt W' B t x y:=(a.block B h.lt).trans h
theorem Jt.alloc{W:D}{B:Nat}{t:TypeId}{x y:C}(h:Jt W B t x y)(o:Obj):Jt (W.alloc o) B t x y:=h.below ((BF _ W).alloc (Aa _) o)
theorem Jt.drew{W:D}{B:Nat}{t:TypeId}{x y:C}(h:Jt W B t x y):Jt W.drew B t x y:=h
theorem Jt.set0(h:Jt W B t x y)(u:C):Jt (W.setCell ⟨B,0,none⟩ u) B t u y:=by
 obtain⟨b,a⟩:=Ab.1 h;show(W.heap.modify B _)[B]?=_;rw[Cf (by rw[CU];exact b),Cm,a];rfl
theorem Jt.set1(h:Jt W B t x y)(u:C):Jt (W.setCell ⟨B,1,none⟩ u) B t x u:=by
 obtain⟨b,a⟩:=Ab.1 h;show(W.heap.modify B _)[B]?=_;rw[Cf (by rw[CU];exact b),Cm,a];rfl
theorem Jt.far(h:Jt W B t x y){p:Addr}(hp:B≠p.block)(u:C):Jt (W.setCell p u) B t x y:=(BD W p u B hp).trans h
theorem Below.then{w W a:D}(h:Below w.heap.size w W)(k:Below W.heap.size W a):Below w.heap.size w a:=h.trans (k.mono h.size)
theorem Bt:type_of% @Below.then:=@Below.then
theorem Ya{b o a c:Nat}{u:C}(h:b≠a):(w.setCell ⟨a,c,none⟩ u).cell? ⟨b,o,none⟩=w.cell? ⟨b,o,none⟩:=
 World.cell?_of_block (w:=w) (BD w ⟨a,c,none⟩ u b h)
def JN:C->Bool|.int _ _=>false|_=>true
theorem Row.set{k:IntKind}{W:D}{v:C}{ds:List Nat}(h:Row k W v ds){p:Addr}{u0:C}(hp:W.cell? p=some u0)(s:JN u0=true)(u:C):Row k (W.setCell p u) v ds:=by
 obtain⟨a,cap,e,l,m,n,c⟩:=h;refine⟨a,cap,e,l,m,n,?_⟩;rcases c with c|⟨b,off,i,r,o⟩
 . exact Or.inl c
 . refine Or.inr ⟨b,off,i,r.set p u,λj q=>?_⟩;have d:=o j q;have f:p≠⟨b,off+j,none⟩:=by
    intro g;rw[<-g,hp]at d;cases d;simp[JN]at s
   exact(World.cell?_setCell_other (h:=f) ..).trans d
theorem IG{k:IntKind}{a:D}{R:Nat}{u0 u1:C}(x0 x1:C){v:C}{ds:List Nat}(c:Below w.heap.size w a)(b:w.heap.size<=R)(q:Jt a R t u0 u1)(e:JN u0=true)(f:JN u1=true)(d:Row k a v ds):
 Row k ((a.setCell ⟨R,0,none⟩ x0).setCell ⟨R,1,none⟩ x1) v ds/\Below w.heap.size w ((a.setCell ⟨R,0,none⟩ x0).setCell ⟨R,1,none⟩ x1):=
 ⟨Row.set (Row.set d q.c0 e _) (u0:=u1) (q.set0 x0).c1 f _,(c.setCell b _).setCell b _⟩
theorem RN.below{W W':D}{v:C}{n:Nat}(h:RN W v n)(a:Below W.heap.size W W'):RN W' v n:=Row.below h a
theorem IH(w:D)(a b c:Obj):Below w.heap.size w (((w.alloc a).alloc b).alloc c):=
 (((BF _ w).alloc (Aa _) _).alloc Z _).alloc si _
theorem Tw{m n:Nat}(h:n<=m):0<=XJ m n:=by
 rcases A6 n m with g|g
 . rw[KO g];omega
 . have:m=n:=O
   rw[this,O8];omega
def KV(W:D)(v:C)(z:Int):Prop:=∃a l cap,v=.agg #[.slice a l cap,.bool (decide (z<0))]/\RN W (.slice a l cap) z.natAbs
theorem KV.below{W W':D}{v:C}{z:Int}(h:KV W v z)(b:Below W.heap.size W W'):KV W' v z:=by
 obtain⟨a,l,cap,e,c⟩:=h;exact⟨a,l,cap,e,c.below b⟩
def Mt(z:Int):Nat:=(Ji 10000 z.natAbs).length
