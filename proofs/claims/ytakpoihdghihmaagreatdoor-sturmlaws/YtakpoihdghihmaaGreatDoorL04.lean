import Derived.Test.YtakpoihdghihmaaGreatDoorL03
import Derived.Deep.RegionHeld3
set_option maxRecDepth 100000
set_option maxHeartbeats 16000000
namespace Go.Proofs.YtakpoihdghihmaaGreatDoor
open Go.RowKit Go.Shelf
def Jo(W:World)(B:Nat)(t:TypeId)(x y:Value):Prop:=W.heap[B]?=some (.cells #[x,y] t (0,0))
theorem Jo.lt{W:World}{B:Nat}{t:TypeId}{x y:Value}(h:Jo W B t x y):B<W.heap.size:=(Ab.1 h).1
theorem Jo.c0{W:World}{B:Nat}{t:TypeId}{x y:Value}(h:Jo W B t x y):W.cell? ⟨B,0,none⟩=some x:=by simp[World.cell?,show W.heap[B]?=_ from h]
theorem Jo.c1{W:World}{B:Nat}{t:TypeId}{x y:Value}(h:Jo W B t x y):W.cell? ⟨B,1,none⟩=some y:=by simp[World.cell?,show W.heap[B]?=_ from h]
theorem Jo.cp{W:World}{B:Nat}{t:TypeId}{x y:Value}(h:Jo W B t x y):type_of% (And.intro h.c0 h.c1):=⟨h.c0,h.c1⟩
theorem Jo.f0{W:World}{B:Nat}{t:TypeId}{x y:Value}(h:Jo W B t x y):W.frozen? ⟨B,0,none⟩=false:=by simp[World.frozen?,show W.heap[B]?=_ from h]
theorem Jo.f1{W:World}{B:Nat}{t:TypeId}{x y:Value}(h:Jo W B t x y):W.frozen? ⟨B,1,none⟩=false:=by simp[World.frozen?,show W.heap[B]?=_ from h]
theorem Jo.fp{W:World}{B:Nat}{t:TypeId}{x y:Value}(h:Jo W B t x y):type_of% (And.intro h.f0 h.f1):=⟨h.f0,h.f1⟩
theorem Jo.new(W:World)(t:TypeId)(x y:Value):Jo (W.alloc (.cells #[x,y] t)) W.heap.size t x y:=BF W _
theorem Jo.below{W W':World}{B:Nat}{t:TypeId}{x y:Value}(h:Jo W B t x y)(hb:Below W.heap.size W W'):Jo W' B t x y:=(hb.block B h.lt).trans h
theorem Jo.alloc{W:World}{B:Nat}{t:TypeId}{x y:Value}(h:Jo W B t x y)(o:Obj):Jo (W.alloc o) B t x y:=h.below ((BG _ W).alloc (Aa _) o)
theorem Jo.drew{W:World}{B:Nat}{t:TypeId}{x y:Value}(h:Jo W B t x y):Jo W.drew B t x y:=h
theorem Jo.set0{W:World}{B:Nat}{t:TypeId}{x y:Value}(h:Jo W B t x y)(u:Value):Jo (W.setCell ⟨B,0,none⟩ u) B t u y:=by
 obtain⟨hlt,hk⟩:=Ab.1 h;show(W.heap.modify B _)[B]?=_;rw[Ca (by rw[CN];exact hlt),Cf,hk];rfl
theorem Jo.set1{W:World}{B:Nat}{t:TypeId}{x y:Value}(h:Jo W B t x y)(u:Value):Jo (W.setCell ⟨B,1,none⟩ u) B t x u:=by
 obtain⟨hlt,hk⟩:=Ab.1 h;show(W.heap.modify B _)[B]?=_;rw[Ca (by rw[CN];exact hlt),Cf,hk];rfl
theorem Jo.far{W:World}{B:Nat}{t:TypeId}{x y:Value}(h:Jo W B t x y){p:Addr}(hp:B≠p.block)(u:Value):Jo (W.setCell p u) B t x y:=(BC W p u B hp).trans h
theorem Below.then{w W w1:World}(h:Below w.heap.size w W)(k:Below W.heap.size W w1):Below w.heap.size w w1:=h.trans (k.mono h.size)
theorem Bt:type_of% @Below.then:=@Below.then
theorem J9{w:World}{b o b' o':Nat}{u:Value}(h:b≠b'):(w.setCell ⟨b',o',none⟩ u).cell? ⟨b,o,none⟩=w.cell? ⟨b,o,none⟩:=
 World.cell?_of_block (w:=w) (BC w ⟨b',o',none⟩ u b h)
def JC:Value→Bool|.int _ _=>false|_=>true
theorem Row.set{k:IntKind}{W:World}{v:Value}{ds:List Nat}(h:Row k W v ds){p:Addr}{u0:Value}(hp:W.cell? p=some u0)(hn:JC u0=true)(u:Value):Row k (W.setCell p u) v ds:=by
 obtain⟨a,cap,e,h1,h2,h2',h3⟩:=h;refine⟨a,cap,e,h1,h2,h2',?_⟩;rcases h3 with h3|⟨b,off,ea,hlt,hc⟩
 · exact Or.inl h3
 · refine Or.inr ⟨b,off,ea,hlt.set p u,fun j hj=>?_⟩;have hc':=hc j hj;have Qa:p≠⟨b,off+j,none⟩:=by
    intro e';rw[←e',hp]at hc';cases hc';simp[JC]at hn
   exact(World.cell?_setCell_other (h:=Qa) ..).trans hc'
theorem Hg{k:IntKind}{w w2:World}{R:Nat}{t:TypeId}{u0 u1:Value}(x0 x1:Value){v:Value}{ds:List Nat}(hB:Below w.heap.size w w2)(hR:w.heap.size≤R)(q:Jo w2 R t u0 u1)(n0:JC u0=true)(n1:JC u1=true)(hr:Row k w2 v ds):
 Row k ((w2.setCell ⟨R,0,none⟩ x0).setCell ⟨R,1,none⟩ x1) v ds∧Below w.heap.size w ((w2.setCell ⟨R,0,none⟩ x0).setCell ⟨R,1,none⟩ x1):=
 ⟨Row.set (Row.set hr q.c0 n0 _) (u0:=u1) (q.set0 x0).c1 n1 _,(hB.setCell hR _).setCell hR _⟩
theorem RN.below{W W':World}{v:Value}{n:Nat}(h:RN W v n)(hb:Below W.heap.size W W'):RN W' v n:=Row.below h hb
theorem Hh(w:World)(o1 o2 o3:Obj):Below w.heap.size w (((w.alloc o1).alloc o2).alloc o3):=
 (((BG _ w).alloc (Aa _) _).alloc (by simp) _).alloc (by simp;omega) _
theorem TH{m n:Nat}(h:n≤m):0≤XK m n:=by
 rcases AV n m with g|g
 · rw[I6 g];omega
 · have:m=n:=by omega
   rw[this,Of];omega
def KE(W:World)(v:Value)(z:Int):Prop:=∃a l cap,v=.agg #[.slice a l cap,.bool (decide (z<0))]∧RN W (.slice a l cap) z.natAbs
theorem KE.below{W W':World}{v:Value}{z:Int}(h:KE W v z)(hb:Below W.heap.size W W'):KE W' v z:=by
 obtain⟨a,l,cap,e,hr⟩:=h;exact⟨a,l,cap,e,hr.below hb⟩
def MQ(z:Int):Nat:=(Ji 10000 z.natAbs).length
