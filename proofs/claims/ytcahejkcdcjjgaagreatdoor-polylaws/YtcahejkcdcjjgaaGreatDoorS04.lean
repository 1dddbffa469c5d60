import Derived.Test.YtcahejkcdcjjgaaGreatDoorS03
import Derived.Deep.RegionHeld3
set_option linter.all false
open Go renaming Value->C,World->D
set_option maxRecDepth 99999
set_option maxHeartbeats 0
namespace Go.Proofs.YtcahejkcdcjjgaaGreatDoor
open Go.RowKit Go.Shelf
def Jo(W:D)(B:Nat)(t:TypeId)(x y:C):Prop:=W.heap[B]?=some (.cells #[x,y] t (0,0))
variable{d:U}{B c f n:Nat}{t:TypeId}{v x y:C}{W W' w:D}
def Jo.lt(h:Jo W B t x y):B<W.heap.size:=(Ab.1 h).1
def Jo.c0(h:Jo W B t x y):W.cell? ⟨B,0,none⟩=some x:=by simp[World.cell?,show W.heap[B]?=_ from h]
def Jo.c1(h:Jo W B t x y):W.cell? ⟨B,1,none⟩=some y:=by simp[World.cell?,show W.heap[B]?=_ from h]
def Jo.cp(h:Jo W B t x y):type_of% (And.intro h.c0 h.c1):=⟨h.c0,h.c1⟩
def Jo.f0(h:Jo W B t x y):W.frozen? ⟨B,0,none⟩=false:=by simp[World.frozen?,show W.heap[B]?=_ from h]
def Jo.f1(h:Jo W B t x y):W.frozen? ⟨B,1,none⟩=false:=by simp[World.frozen?,show W.heap[B]?=_ from h]
def Jo.fp(h:Jo W B t x y):type_of% (And.intro h.f0 h.f1):=⟨h.f0,h.f1⟩
def Jo.new(W:D)(t:TypeId)(x y:C):Jo (W.alloc (.cells #[x,y] t)) W.heap.size t x y:=BV W _
def Jo.below(h:Jo W B t x y)(a:Below W.heap.size W W'):Jo W' B t x y:=(a.block B h.lt).trans h
def Jo.alloc{W:D}{B:Nat}{t:TypeId}{x y:C}(h:Jo W B t x y)(o:Obj):Jo (W.alloc o) B t x y:=h.below ((BL _ W).alloc (Aa _) o)
def Jo.drew{W:D}{B:Nat}{t:TypeId}{x y:C}(h:Jo W B t x y):Jo W.drew B t x y:=h
def Jo.set0(h:Jo W B t x y)(u:C):Jo (W.setCell ⟨B,0,none⟩ u) B t u y:=by
 obtain⟨b,a⟩:=Ab.1 h;show(W.heap.modify B _)[B]?=_;rw[Array.getElem?_eq_getElem (by rw[Array.size_modify];exact b),Array.getElem_modify_self,a];rfl
def Jo.set1(h:Jo W B t x y)(u:C):Jo (W.setCell ⟨B,1,none⟩ u) B t x u:=by
 obtain⟨b,a⟩:=Ab.1 h;show(W.heap.modify B _)[B]?=_;rw[Array.getElem?_eq_getElem (by rw[Array.size_modify];exact b),Array.getElem_modify_self,a];rfl
def Jo.far(h:Jo W B t x y){p:Addr}(hp:B≠p.block)(u:C):Jo (W.setCell p u) B t x y:=(BR W p u B hp).trans h
def Below.then{w W a:D}(h:Below w.heap.size w W)(k:Below W.heap.size W a):Below w.heap.size w a:=h.trans (k.mono h.size)
def Bt:=@Below.then
theorem JO{b o a:Nat}{u:C}(h:b≠f):(w.setCell ⟨f,a,none⟩ u).cell? ⟨b,o,none⟩=w.cell? ⟨b,o,none⟩:=
 World.cell?_of_block (w:=w) (BR w ⟨f,a,none⟩ u b h)
def Jv:C->Bool|.int _ _=>false|_=>true
theorem Row.set{k:IntKind}{W:D}{v:C}{ds:U}(h:Row k W v ds){p:Addr}{u0:C}(hp:W.cell? p=some u0)(q:Jv u0=true)(u:C):Row k (W.setCell p u) v ds:=by
 obtain⟨a,cap,e,f,g,i,c⟩:=h;refine⟨a,cap,e,f,g,i,?_⟩;rcases c with c|⟨b,m,d,l,n⟩
 . exact Az c
 . refine AE ⟨b,m,d,l.set p u,λj o=>?_⟩;grind[Jv,World.cell?_setCell_other]
def XH{k:IntKind}{a:D}{R:Nat}{u0 u1:C}(x0 x1:C){ds:U}(c:Below w.heap.size w a)(b:w.heap.size<=R)(q:Jo a R t u0 u1)(e:Jv u0=true)(f:Jv u1=true)(d:Row k a v ds):
 Row k ((a.setCell ⟨R,0,none⟩ x0).setCell ⟨R,1,none⟩ x1) v ds/\Below w.heap.size w ((a.setCell ⟨R,0,none⟩ x0).setCell ⟨R,1,none⟩ x1):=
 ⟨Row.set (Row.set d q.c0 e _) (u0:=u1) (q.set0 x0).c1 f _,(c.setCell b _).setCell b _⟩
def RN.below{W W':D}{v:C}{n:Nat}(h:RN W v n)(a:Below W.heap.size W W'):RN W' v n:=Row.below h a
def RN.form(h:RN W v n):∃a cap,v=.slice a (Jc 10000 n).length cap:=by
 obtain⟨a,cap,e,_⟩:=h;exact⟨a,cap,e⟩
def Id{a b c:TypeId}{x1 f d g e i:C}(h:((w.alloc (.cells #[x1,f] a)).alloc (.cells #[d,g] b)).alloc (.cells #[e,i] c)=W):Below w.heap.size w W/\Jo W w.heap.size a x1 f/\Jo W (w.heap.size+1) b d g/\Jo W (w.heap.size+1+1) c e i:=by
 subst h;have j:=(Jo.new (w.alloc (.cells #[x1,f] a)) b d g).alloc (.cells #[e,i] c);have k:=Jo.new ((w.alloc (.cells #[x1,f] a)).alloc (.cells #[d,g] b)) c e i;rw[A1]at j;rw[A1,A1]at k;exact⟨(((BL _ w).alloc (Aa _) _).alloc DQ _).alloc si _,((Jo.new w _ _ _).alloc _).alloc _,j,k⟩
def Kl(w:D)(a b c:Obj):Below w.heap.size w (((w.alloc a).alloc b).alloc c):=
 (((BL _ w).alloc (Aa _) _).alloc DQ _).alloc si _
def QH{m:Nat}(h:n<=m):0<=YX m n:=by
 rcases AJ n m with g|g
 . rw[IY g];omega
 . have:m=n:=Z
   rw[this,MU];omega
def RN.len{a:WO}{l:Nat}(h:RN W (.slice a l c) n):l=(Jc 10000 n).length:=by
 obtain⟨b,cap,e,_⟩:=h;cases e;rfl
def Yk(W:D)(v:C)(z:Int):Prop:=∃a l cap,v=.agg #[.slice a l cap,.bool (decide (z<0))]/\RN W (.slice a l cap) z.natAbs
def Yk.below{W W':D}{v:C}{z:Int}(h:Yk W v z)(b:Below W.heap.size W W'):Yk W' v z:=by
 obtain⟨a,l,cap,e,c⟩:=h;exact⟨a,l,cap,e,c.below b⟩
def Km(z:Int):Nat:=(Jc 10000 z.natAbs).length
theorem QI(c:UInt8)(l:List UInt8):(⟨#[c]⟩:ByteArray)++⟨l.toArray⟩=⟨(c::l).toArray⟩:=by
 apply ByteArray.ext;simp[ByteArray.data_append]
def Jo.kept{row:Option Nat}(h:Jo W B t x y)(hg:W.grownBy W' row)(a:some B≠row):Jo W' B t x y:=(hg.block B h.lt a).trans h
def Gt(b c:Nat)(a:U):Prop:=DR 10000 a/\val 10000 a+10000^a.length*c=b/\a.length<=100/\(a=[]\/c≠0\/10000^(a.length-1)<=val 10000 a)
theorem Gt.step(h:Gt f c d)(j:f<=9223372036854775808)(k:c≠0):Gt f (c/10000) (d++[c%10000]):=by
 obtain⟨a,b,e,i⟩:=h;refine⟨a.append (DR.cons (AY _ Z) (DR.nil _)),?_,?_,?_⟩
 . grind[J4,Ce,A9,Nat.mod_add_div]
 . grind
 . right
   by_cases g:c/10000=0
   . right
     rw[AV,List.length_singleton,Nat.add_sub_cancel,J4]
     have:c%10000≠0:=Z
     have:=Au (10000^d.length) (show 1<=c%10000 by omega);omega
   . exact Az g
theorem Gt.done(h:Gt f 0 d):d=Jc 10000 f:=by
 obtain⟨a,b,c,e⟩:=h;rw[Cd,A4]at b;rw[<-b];refine(YD Z a (Kb Z a ?_)).symm;grind
