import Derived.Test.YtakpoihdghihmaaGreatDoorM03
import Derived.Deep.RegionHeld3
open Go renaming Value->C,World->D
set_option maxRecDepth 100000
set_option maxHeartbeats 16000000
namespace Go.Proofs.YtakpoihdghihmaaGreatDoor
open Go.RowKit Go.Shelf
def Jo(W:D)(B:Nat)(t:TypeId)(x y:C):Prop:=W.heap[B]?=some (.cells #[x,y] t (0,0))
variable{B:Nat}{t:TypeId}{x y:C}{W w:D}
theorem Jo.lt(h:Jo W B t x y):B<W.heap.size:=(Ab.1 h).1
theorem Jo.c0(h:Jo W B t x y):W.cell? ⟨B,0,none⟩=some x:=by simp[World.cell?,show W.heap[B]?=_ from h]
theorem Jo.c1(h:Jo W B t x y):W.cell? ⟨B,1,none⟩=some y:=by simp[World.cell?,show W.heap[B]?=_ from h]
theorem Jo.cp(h:Jo W B t x y):type_of% (And.intro h.c0 h.c1):=⟨h.c0,h.c1⟩
theorem Jo.f0(h:Jo W B t x y):W.frozen? ⟨B,0,none⟩=false:=by simp[World.frozen?,show W.heap[B]?=_ from h]
theorem Jo.f1(h:Jo W B t x y):W.frozen? ⟨B,1,none⟩=false:=by simp[World.frozen?,show W.heap[B]?=_ from h]
theorem Jo.fp(h:Jo W B t x y):type_of% (And.intro h.f0 h.f1):=⟨h.f0,h.f1⟩
theorem Jo.new(W:D)(t:TypeId)(x y:C):Jo (W.alloc (.cells #[x,y] t)) W.heap.size t x y:=BB W _
theorem Jo.below{W':D}(h:Jo W B t x y)(a:Below W.heap.size W W'):Jo W' B t x y:=(a.block B h.lt).trans h
theorem Jo.alloc{W:D}{B:Nat}{t:TypeId}{x y:C}(h:Jo W B t x y)(o:Obj):Jo (W.alloc o) B t x y:=h.below ((BF _ W).alloc (Aa _) o)
theorem Jo.drew{W:D}{B:Nat}{t:TypeId}{x y:C}(h:Jo W B t x y):Jo W.drew B t x y:=h
theorem Jo.set0(h:Jo W B t x y)(u:C):Jo (W.setCell ⟨B,0,none⟩ u) B t u y:=by
 obtain⟨b,a⟩:=Ab.1 h;show(W.heap.modify B _)[B]?=_;rw[A7 (by rw[CK];exact b),Cc,a];rfl
theorem Jo.set1(h:Jo W B t x y)(u:C):Jo (W.setCell ⟨B,1,none⟩ u) B t x u:=by
 obtain⟨b,a⟩:=Ab.1 h;show(W.heap.modify B _)[B]?=_;rw[A7 (by rw[CK];exact b),Cc,a];rfl
theorem Jo.far(h:Jo W B t x y){p:Addr}(hp:B≠p.block)(u:C):Jo (W.setCell p u) B t x y:=(BD W p u B hp).trans h
theorem Below.then{w W a:D}(h:Below w.heap.size w W)(k:Below W.heap.size W a):Below w.heap.size w a:=h.trans (k.mono h.size)
theorem Bt:type_of% @Below.then:=@Below.then
theorem J5{b o a c:Nat}{u:C}(h:b≠a):(w.setCell ⟨a,c,none⟩ u).cell? ⟨b,o,none⟩=w.cell? ⟨b,o,none⟩:=
 World.cell?_of_block (w:=w) (BD w ⟨a,c,none⟩ u b h)
def JD:C->Bool|.int _ _=>false|_=>true
theorem Row.set{k:IntKind}{W:D}{v:C}{ds:List Nat}(h:Row k W v ds){p:Addr}{u0:C}(hp:W.cell? p=some u0)(s:JD u0=true)(u:C):Row k (W.setCell p u) v ds:=by
 obtain⟨a,cap,e,l,m,n,c⟩:=h;refine⟨a,cap,e,l,m,n,?_⟩;rcases c with c|⟨b,off,i,r,o⟩
 . exact Or.inl c
 . refine Or.inr ⟨b,off,i,r.set p u,λj q=>?_⟩;have d:=o j q;have f:p≠⟨b,off+j,none⟩:=by
    intro g;rw[<-g,hp]at d;cases d;simp[JD]at s
   exact(World.cell?_setCell_other (h:=f) ..).trans d
theorem Gl{k:IntKind}{a:D}{R:Nat}{u0 u1:C}(x0 x1:C){v:C}{ds:List Nat}(c:Below w.heap.size w a)(b:w.heap.size<=R)(q:Jo a R t u0 u1)(e:JD u0=true)(f:JD u1=true)(d:Row k a v ds):
 Row k ((a.setCell ⟨R,0,none⟩ x0).setCell ⟨R,1,none⟩ x1) v ds/\Below w.heap.size w ((a.setCell ⟨R,0,none⟩ x0).setCell ⟨R,1,none⟩ x1):=
 ⟨Row.set (Row.set d q.c0 e _) (u0:=u1) (q.set0 x0).c1 f _,(c.setCell b _).setCell b _⟩
theorem RN.below{W W':D}{v:C}{n:Nat}(h:RN W v n)(a:Below W.heap.size W W'):RN W' v n:=Row.below h a
theorem Gm(w:D)(a b c:Obj):Below w.heap.size w (((w.alloc a).alloc b).alloc c):=
 (((BF _ w).alloc (Aa _) _).alloc Z _).alloc si _
theorem R9{m n:Nat}(h:n<=m):0<=XC m n:=by
 rcases AX n m with g|g
 . rw[Ib g];omega
 . have:m=n:=Y
   rw[this,Nm];omega
def Ii(W:D)(v:C)(z:Int):Prop:=∃a l cap,v=.agg #[.slice a l cap,.bool (decide (z<0))]/\RN W (.slice a l cap) z.natAbs
theorem Ii.below{W W':D}{v:C}{z:Int}(h:Ii W v z)(b:Below W.heap.size W W'):Ii W' v z:=by
 obtain⟨a,l,cap,e,c⟩:=h;exact⟨a,l,cap,e,c.below b⟩
def Lr(z:Int):Nat:=(Ji 10000 z.natAbs).length
