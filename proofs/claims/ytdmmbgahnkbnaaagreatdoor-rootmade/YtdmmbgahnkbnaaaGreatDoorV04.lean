import Derived.Test.YtdmmbgahnkbnaaaGreatDoorV03
import Derived.Deep.RegionHeld3
set_option linter.all false
open Go renaming Value->C,World->D
set_option maxRecDepth 99999
set_option maxHeartbeats 0
namespace Go.Proofs.YtdmmbgahnkbnaaaGreatDoor
open Go.RowKit Go.Shelf
def JC(W:D)(B:Nat)(t:TypeId)(x y:C):Prop:=W.heap[B]?=some (.cells #[x,y] t (0,0))
variable{B n:Nat}{t:TypeId}{v x y:C}{W w:D}
def JC.lt(h:JC W B t x y):B<W.heap.size:=(Ab.1 h).1
def JC.c0(h:JC W B t x y):W.cell? ⟨B,0,none⟩=some x:=by simp[World.cell?,show W.heap[B]?=_ from h]
def JC.c1(h:JC W B t x y):W.cell? ⟨B,1,none⟩=some y:=by simp[World.cell?,show W.heap[B]?=_ from h]
def JC.cp(h:JC W B t x y):type_of% (And.intro h.c0 h.c1):=⟨h.c0,h.c1⟩
def JC.f0(h:JC W B t x y):W.frozen? ⟨B,0,none⟩=false:=by simp[World.frozen?,show W.heap[B]?=_ from h]
def JC.f1(h:JC W B t x y):W.frozen? ⟨B,1,none⟩=false:=by simp[World.frozen?,show W.heap[B]?=_ from h]
def JC.fp(h:JC W B t x y):type_of% (And.intro h.f0 h.f1):=⟨h.f0,h.f1⟩
def JC.new(W:D)(t:TypeId)(x y:C):JC (W.alloc (.cells #[x,y] t)) W.heap.size t x y:=BD W _
def JC.below{W':D}(h:JC W B t x y)(a:Below W.heap.size W W'):JC W' B t x y:=(a.block B h.lt).trans h
def JC.alloc{W:D}{B:Nat}{t:TypeId}{x y:C}(h:JC W B t x y)(o:Obj):JC (W.alloc o) B t x y:=h.below ((BB _ W).alloc (Aa _) o)
def JC.drew{W:D}{B:Nat}{t:TypeId}{x y:C}(h:JC W B t x y):JC W.drew B t x y:=h
def JC.set0(h:JC W B t x y)(u:C):JC (W.setCell ⟨B,0,none⟩ u) B t u y:=by
 obtain⟨a,hk⟩:=Ab.1 h;show(W.heap.modify B _)[B]?=_;rw[Array.getElem?_eq_getElem (by rw[Array.size_modify];exact a),Array.getElem_modify_self,hk];rfl
def JC.set1(h:JC W B t x y)(u:C):JC (W.setCell ⟨B,1,none⟩ u) B t x u:=by
 obtain⟨a,hk⟩:=Ab.1 h;show(W.heap.modify B _)[B]?=_;rw[Array.getElem?_eq_getElem (by rw[Array.size_modify];exact a),Array.getElem_modify_self,hk];rfl
def JC.far(h:JC W B t x y){p:Addr}(hp:B≠p.block)(u:C):JC (W.setCell p u) B t x y:=(BC W p u B hp).trans h
def Below.then{w W w1:D}(h:Below w.heap.size w W)(k:Below W.heap.size W w1):Below w.heap.size w w1:=h.trans (k.mono h.size)
def Bt:type_of% @Below.then:=@Below.then
theorem JR{b o a c:Nat}{u:C}(h:b≠a):(w.setCell ⟨a,c,none⟩ u).cell? ⟨b,o,none⟩=w.cell? ⟨b,o,none⟩:=
 World.cell?_of_block (w:=w) (BC w ⟨a,c,none⟩ u b h)
def JP:C->Bool|.int _ _=>false|_=>true
theorem Row.set{k:IntKind}{W:D}{v:C}{ds:List Nat}(h:Row k W v ds){p:Addr}{u0:C}(hp:W.cell? p=some u0)(hn:JP u0=true)(u:C):Row k (W.setCell p u) v ds:=by
 obtain⟨a,cap,e,f,g,i,c⟩:=h;refine⟨a,cap,e,f,g,i,?_⟩;rcases c with c|⟨b,m,d,l,n⟩
 . exact Or.inl c
 . refine Or.inr ⟨b,m,d,l.set p u,λj o=>?_⟩;grind[JP,World.cell?_setCell_other]
def KZ{k:IntKind}{w2:D}{R:Nat}{u0 u1:C}(x0 x1:C){ds:List Nat}(b:Below w.heap.size w w2)(a:w.heap.size<=R)(q:JC w2 R t u0 u1)(d:JP u0=true)(e:JP u1=true)(c:Row k w2 v ds):
 Row k ((w2.setCell ⟨R,0,none⟩ x0).setCell ⟨R,1,none⟩ x1) v ds/\Below w.heap.size w ((w2.setCell ⟨R,0,none⟩ x0).setCell ⟨R,1,none⟩ x1):=
 ⟨Row.set (Row.set c q.c0 d _) (u0:=u1) (q.set0 x0).c1 e _,(b.setCell a _).setCell a _⟩
def RN.below{W W':D}{v:C}{n:Nat}(h:RN W v n)(a:Below W.heap.size W W'):RN W' v n:=Row.below h a
def RN.form(h:RN W v n):∃a cap,v=.slice a (Jh 10000 n).length cap:=by
 obtain⟨a,cap,e,_⟩:=h;exact⟨a,cap,e⟩
def NM{a b c:TypeId}{x1 y1 x2 y2 x3 y3:C}(h:((w.alloc (.cells #[x1,y1] a)).alloc (.cells #[x2,y2] b)).alloc (.cells #[x3,y3] c)=W):Below w.heap.size w W/\JC W w.heap.size a x1 y1/\JC W (w.heap.size+1) b x2 y2/\JC W (w.heap.size+1+1) c x3 y3:=by
 subst h;have d:=(JC.new (w.alloc (.cells #[x1,y1] a)) b x2 y2).alloc (.cells #[x3,y3] c);have e:=JC.new ((w.alloc (.cells #[x1,y1] a)).alloc (.cells #[x2,y2] b)) c x3 y3;rw[Ax]at d;rw[Ax,Ax]at e;exact⟨(((BB _ w).alloc (Aa _) _).alloc DI _).alloc si _,((JC.new w _ _ _).alloc _).alloc _,d,e⟩
def Pd(w:D)(a b c:Obj):Below w.heap.size w (((w.alloc a).alloc b).alloc c):=
 (((BB _ w).alloc (Aa _) _).alloc DI _).alloc si _
def dc{m:Nat}(h:n<=m):0<=D4 m n:=by
 rcases A4 n m with g|g
 . rw[NG g];omega
 . have:m=n:=O
   rw[this,TB];omega
def Ka(W:D)(v:C)(z:Int):Prop:=∃a l cap,v=.agg #[.slice a l cap,.bool (decide (z<0))]/\RN W (.slice a l cap) z.natAbs
def Ka.below{W W':D}{v:C}{z:Int}(h:Ka W v z)(b:Below W.heap.size W W'):Ka W' v z:=by
 obtain⟨a,l,cap,e,c⟩:=h;exact⟨a,l,cap,e,c.below b⟩
def Pe(z:Int):Nat:=(Jh 10000 z.natAbs).length
theorem dk(c:UInt8)(l:List UInt8):(⟨#[c]⟩:ByteArray)++⟨l.toArray⟩=⟨(c::l).toArray⟩:=by
 apply ByteArray.ext;simp[ByteArray.data_append]
