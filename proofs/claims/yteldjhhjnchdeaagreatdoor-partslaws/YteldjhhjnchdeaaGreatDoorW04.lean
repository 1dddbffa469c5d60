import Derived.Test.YteldjhhjnchdeaaGreatDoorW03
import Derived.Deep.RegionHeld3
open Go renaming Value->C,World->D
set_option maxRecDepth 100000
set_option maxHeartbeats 16000000
namespace Go.Proofs.YteldjhhjnchdeaaGreatDoor
open Go.RowKit Go.Shelf
def Jq(W:D)(B:Nat)(t:TypeId)(x y:C):Prop:=W.heap[B]?=some (.cells #[x,y] t (0,0))
variable{B:Nat}{t:TypeId}{x y:C}{W w:D}
theorem Jq.lt(h:Jq W B t x y):B<W.heap.size:=(Ae.1 h).1
theorem Jq.c0(h:Jq W B t x y):W.cell? ⟨B,0,none⟩=some x:=by simp[World.cell?,show W.heap[B]?=_ from h]
theorem Jq.c1(h:Jq W B t x y):W.cell? ⟨B,1,none⟩=some y:=by simp[World.cell?,show W.heap[B]?=_ from h]
theorem Jq.cp(h:Jq W B t x y):type_of% (And.intro h.c0 h.c1):=⟨h.c0,h.c1⟩
theorem Jq.f0(h:Jq W B t x y):W.frozen? ⟨B,0,none⟩=false:=by simp[World.frozen?,show W.heap[B]?=_ from h]
theorem Jq.f1(h:Jq W B t x y):W.frozen? ⟨B,1,none⟩=false:=by simp[World.frozen?,show W.heap[B]?=_ from h]
theorem Jq.fp(h:Jq W B t x y):type_of% (And.intro h.f0 h.f1):=⟨h.f0,h.f1⟩
theorem Jq.new(W:D)(t:TypeId)(x y:C):Jq (W.alloc (.cells #[x,y] t)) W.heap.size t x y:=BD W _
theorem Jq.below{W':D}(h:Jq W B t x y)(a:Below W.heap.size W W'):Jq W' B t x y:=(a.block B h.lt).trans h
theorem Jq.alloc{W:D}{B:Nat}{t:TypeId}{x y:C}(h:Jq W B t x y)(o:Obj):Jq (W.alloc o) B t x y:=h.below ((BE _ W).alloc (Aa _) o)
theorem Jq.drew{W:D}{B:Nat}{t:TypeId}{x y:C}(h:Jq W B t x y):Jq W.drew B t x y:=h
theorem Jq.set0(h:Jq W B t x y)(u:C):Jq (W.setCell ⟨B,0,none⟩ u) B t u y:=by
 obtain⟨b,a⟩:=Ae.1 h;show(W.heap.modify B _)[B]?=_;rw[Ce (by rw[CR];exact b),Cj,a];rfl
theorem Jq.set1(h:Jq W B t x y)(u:C):Jq (W.setCell ⟨B,1,none⟩ u) B t x u:=by
 obtain⟨b,a⟩:=Ae.1 h;show(W.heap.modify B _)[B]?=_;rw[Ce (by rw[CR];exact b),Cj,a];rfl
theorem Jq.far(h:Jq W B t x y){p:Addr}(hp:B≠p.block)(u:C):Jq (W.setCell p u) B t x y:=(BC W p u B hp).trans h
theorem Below.then{w W a:D}(h:Below w.heap.size w W)(k:Below W.heap.size W a):Below w.heap.size w a:=h.trans (k.mono h.size)
theorem Bt:type_of% @Below.then:=@Below.then
theorem JW{b o a c:Nat}{u:C}(h:b≠a):(w.setCell ⟨a,c,none⟩ u).cell? ⟨b,o,none⟩=w.cell? ⟨b,o,none⟩:=
 World.cell?_of_block (w:=w) (BC w ⟨a,c,none⟩ u b h)
def JG:C->Bool|.int _ _=>false|_=>true
theorem Row.set{k:IntKind}{W:D}{v:C}{ds:List Nat}(h:Row k W v ds){p:Addr}{u0:C}(hp:W.cell? p=some u0)(s:JG u0=true)(u:C):Row k (W.setCell p u) v ds:=by
 obtain⟨a,cap,e,l,m,n,c⟩:=h;refine⟨a,cap,e,l,m,n,?_⟩;rcases c with c|⟨b,off,i,r,o⟩
 . exact Or.inl c
 . refine Or.inr ⟨b,off,i,r.set p u,λj q=>?_⟩;have d:=o j q;have f:p≠⟨b,off+j,none⟩:=by
    intro g;rw[<-g,hp]at d;cases d;simp[JG]at s
   exact(World.cell?_setCell_other (h:=f) ..).trans d
theorem Ha{k:IntKind}{a:D}{R:Nat}{u0 u1:C}(x0 x1:C){v:C}{ds:List Nat}(c:Below w.heap.size w a)(b:w.heap.size<=R)(q:Jq a R t u0 u1)(e:JG u0=true)(f:JG u1=true)(d:Row k a v ds):
 Row k ((a.setCell ⟨R,0,none⟩ x0).setCell ⟨R,1,none⟩ x1) v ds/\Below w.heap.size w ((a.setCell ⟨R,0,none⟩ x0).setCell ⟨R,1,none⟩ x1):=
 ⟨Row.set (Row.set d q.c0 e _) (u0:=u1) (q.set0 x0).c1 f _,(c.setCell b _).setCell b _⟩
theorem RN.below{W W':D}{v:C}{n:Nat}(h:RN W v n)(a:Below W.heap.size W W'):RN W' v n:=Row.below h a
theorem Hb(w:D)(a b c:Obj):Below w.heap.size w (((w.alloc a).alloc b).alloc c):=
 (((BE _ w).alloc (Aa _) _).alloc O _).alloc si _
theorem SX{m n:Nat}(h:n<=m):0<=Xr m n:=by
 rcases AZ n m with g|g
 . rw[Ie g];omega
 . have:m=n:=Y
   rw[this,Nq];omega
def Im(W:D)(v:C)(z:Int):Prop:=∃a l cap,v=.agg #[.slice a l cap,.bool (decide (z<0))]/\RN W (.slice a l cap) z.natAbs
theorem Im.below{W W':D}{v:C}{z:Int}(h:Im W v z)(b:Below W.heap.size W W'):Im W' v z:=by
 obtain⟨a,l,cap,e,c⟩:=h;exact⟨a,l,cap,e,c.below b⟩
def Lv(z:Int):Nat:=(Jg 10000 z.natAbs).length
theorem SY(c:UInt8)(l:List UInt8):(⟨#[c]⟩:ByteArray)++⟨l.toArray⟩=⟨(c::l).toArray⟩:=by
 apply ByteArray.ext;simp[ByteArray.data_append]
