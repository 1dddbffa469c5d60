import Derived.Test.YtcahodpphikgnaaGreatDoorW02
import Derived.Deep.RegionHeld3
set_option linter.all false
set_option maxRecDepth 99999
set_option maxHeartbeats 0
namespace Go.Proofs.YtcahodpphikgnaaGreatDoor
open Go.RowKit Go.Shelf
def Ji(W:World)(B:Nat)(t:TypeId)(x y:Value):Prop:=W.heap[B]?=some (.cells #[x,y] t (0,0))
def Ji.lt{W:World}{B:Nat}{t:TypeId}{x y:Value}(h:Ji W B t x y):B<W.heap.size:=(Ac.1 h).1
def Ji.c0{W:World}{B:Nat}{t:TypeId}{x y:Value}(h:Ji W B t x y):W.cell? ⟨B,0,none⟩=some x:=by simp[World.cell?,show W.heap[B]?=_ from h]
def Ji.c1{W:World}{B:Nat}{t:TypeId}{x y:Value}(h:Ji W B t x y):W.cell? ⟨B,1,none⟩=some y:=by simp[World.cell?,show W.heap[B]?=_ from h]
def Ji.cp{W:World}{B:Nat}{t:TypeId}{x y:Value}(h:Ji W B t x y):type_of% (And.intro h.c0 h.c1):=⟨h.c0,h.c1⟩
def Ji.f0{W:World}{B:Nat}{t:TypeId}{x y:Value}(h:Ji W B t x y):W.frozen? ⟨B,0,none⟩=false:=by simp[World.frozen?,show W.heap[B]?=_ from h]
def Ji.f1{W:World}{B:Nat}{t:TypeId}{x y:Value}(h:Ji W B t x y):W.frozen? ⟨B,1,none⟩=false:=by simp[World.frozen?,show W.heap[B]?=_ from h]
def Ji.fp{W:World}{B:Nat}{t:TypeId}{x y:Value}(h:Ji W B t x y):type_of% (And.intro h.f0 h.f1):=⟨h.f0,h.f1⟩
def Ji.new(W:World)(t:TypeId)(x y:Value):Ji (W.alloc (.cells #[x,y] t)) W.heap.size t x y:=BD W _
def Ji.below{W W':World}{B:Nat}{t:TypeId}{x y:Value}(h:Ji W B t x y)(hb:Below W.heap.size W W'):Ji W' B t x y:=(hb.block B h.lt).trans h
def Ji.alloc{W:World}{B:Nat}{t:TypeId}{x y:Value}(h:Ji W B t x y)(o:Obj):Ji (W.alloc o) B t x y:=h.below ((BC _ W).alloc (Aa _) o)
def Ji.drew{W:World}{B:Nat}{t:TypeId}{x y:Value}(h:Ji W B t x y):Ji W.drew B t x y:=h
def Ji.set0{W:World}{B:Nat}{t:TypeId}{x y:Value}(h:Ji W B t x y)(u:Value):Ji (W.setCell ⟨B,0,none⟩ u) B t u y:=by
 obtain⟨hlt,hk⟩:=Ac.1 h;show(W.heap.modify B _)[B]?=_;rw[Array.getElem?_eq_getElem (by rw[Array.size_modify];exact hlt),Array.getElem_modify_self,hk];rfl
def Ji.set1{W:World}{B:Nat}{t:TypeId}{x y:Value}(h:Ji W B t x y)(u:Value):Ji (W.setCell ⟨B,1,none⟩ u) B t x u:=by
 obtain⟨hlt,hk⟩:=Ac.1 h;show(W.heap.modify B _)[B]?=_;rw[Array.getElem?_eq_getElem (by rw[Array.size_modify];exact hlt),Array.getElem_modify_self,hk];rfl
def Ji.far{W:World}{B:Nat}{t:TypeId}{x y:Value}(h:Ji W B t x y){p:Addr}(hp:B≠p.block)(u:Value):Ji (W.setCell p u) B t x y:=(BP W p u B hp).trans h
def Below.then{w W w1:World}(h:Below w.heap.size w W)(k:Below W.heap.size W w1):Below w.heap.size w w1:=h.trans (k.mono h.size)
def Bt:=@Below.then
theorem Jw{w:World}{b o b' o':Nat}{u:Value}(h:b≠b'):(w.setCell ⟨b',o',none⟩ u).cell? ⟨b,o,none⟩=w.cell? ⟨b,o,none⟩:=
 World.cell?_of_block (w:=w) (BP w ⟨b',o',none⟩ u b h)
def JI:Value→Bool|.int _ _=>false|_=>true
def Row.set{k:IntKind}{W:World}{v:Value}{ds:Y}(h:Row k W v ds){p:Addr}{u0:Value}(hp:W.cell? p=some u0)(hn:JI u0=true)(u:Value):Row k (W.setCell p u) v ds:=by
 obtain⟨a,cap,e,h1,h2,h2',h3⟩:=h;refine⟨a,cap,e,h1,h2,h2',?_⟩;rcases h3 with h3|⟨b,off,ea,hlt,hc⟩
 · exact AE h3
 · refine A6 ⟨b,off,ea,hlt.set p u,fun j hj=>?_⟩;grind[JI,World.cell?_setCell_other]
def YA{k:IntKind}{w w2:World}{R:Nat}{t:TypeId}{u0 u1:Value}(x0 x1:Value){v:Value}{ds:Y}(hB:Below w.heap.size w w2)(hR:w.heap.size≤R)(q:Ji w2 R t u0 u1)(n0:JI u0=true)(n1:JI u1=true)(hr:Row k w2 v ds):
 Row k ((w2.setCell ⟨R,0,none⟩ x0).setCell ⟨R,1,none⟩ x1) v ds∧Below w.heap.size w ((w2.setCell ⟨R,0,none⟩ x0).setCell ⟨R,1,none⟩ x1):=
 ⟨Row.set (Row.set hr q.c0 n0 _) (u0:=u1) (q.set0 x0).c1 n1 _,(hB.setCell hR _).setCell hR _⟩
def DU{w W:World}{t1 t2 t3:TypeId}{x1 y1 x2 y2 x3 y3:Value}(h:((w.alloc (.cells #[x1,y1] t1)).alloc (.cells #[x2,y2] t2)).alloc (.cells #[x3,y3] t3)=W):Below w.heap.size w W∧Ji W w.heap.size t1 x1 y1∧Ji W (w.heap.size+1) t2 x2 y2∧Ji W (w.heap.size+1+1) t3 x3 y3:=by
 subst h;have h1:=(Ji.new (w.alloc (.cells #[x1,y1] t1)) t2 x2 y2).alloc (.cells #[x3,y3] t3);have h2:=Ji.new ((w.alloc (.cells #[x1,y1] t1)).alloc (.cells #[x2,y2] t2)) t3 x3 y3;rw[BA]at h1;rw[BA,BA]at h2;exact⟨(((BC _ w).alloc (Aa _) _).alloc (by simp) _).alloc (by simp;omega) _,((Ji.new w _ _ _).alloc _).alloc _,h1,h2⟩
def Dn(w:World)(o1 o2 o3:Obj):Below w.heap.size w (((w.alloc o1).alloc o2).alloc o3):=
 (((BC _ w).alloc (Aa _) _).alloc (by simp) _).alloc (by simp;omega) _
def Gq{m n:Nat}(h:n≤m):0≤Ya m n:=by
 rcases AR n m with g|g
 · rw[DS g];omega
 · have:m=n:=by omega
   rw[this,EW];omega
def Em(W:World)(v:Value)(z:Int):Prop:=∃a l cap,v=.agg #[.slice a l cap,.bool (decide (z<0))]∧RN W (.slice a l cap) z.natAbs
theorem Eo(c:UInt8)(l:List UInt8):(⟨#[c]⟩:ByteArray)++⟨l.toArray⟩=⟨(c::l).toArray⟩:=by
 apply Cu;simp[ByteArray.data_append]
