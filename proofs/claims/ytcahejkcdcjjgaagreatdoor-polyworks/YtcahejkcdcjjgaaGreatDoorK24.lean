import Derived.Test.YtcahejkcdcjjgaaGreatDoorK20
import Derived.Test.YtcahejkcdcjjgaaGreatDoorK15
import Derived.Test.YtcahejkcdcjjgaaGreatDoorK16
import Derived.Test.YtcahejkcdcjjgaaGreatDoorK06
import Derived.Lib.SliceRun
import Derived.Deep.OwnRows
import Derived.Test.YtcahejkcdcjjgaaGreatDoorK23
set_option maxRecDepth 100000
set_option maxHeartbeats 16000000
namespace Go.Proofs.YtcahejkcdcjjgaaGreatDoor
open Go.RowKit Go.Shelf
theorem Js3(a:Option Addr)(cap:Nat)(w:World):
 Calls Tryz.prog 60 #[.agg #[.bool false,.slice a 0 cap]] w fun e w'=>e=.returned (.string ⟨#[48]⟩)∧Below w.heap.size w w':=by
 have b0:=Jk.new w 36 (.bool false) (.slice a 0 cap);have k1:=b0.c1;go_enter Tryz.func60,Tryz.ntmps60
 go_wp2;go_ret;exact⟨rfl,(Below.refl _ w).alloc (Aa _) _⟩
theorem Js4(s:Bool)(a:Option Addr)(l cap:Nat)(T:ByteArray)(w:World)(hl:0<l)(hT:T.size≤100000000000000)
(HT:∀V,Below w.heap.size w V→Calls Tryz.prog 101 #[.slice a l cap] V fun e w'=>e=.returned (.string T)∧Below V.heap.size V w'):
 Calls Tryz.prog 60 #[.agg #[.bool s,.slice a l cap]] w fun e w'=>e=.returned (.string (if s then(⟨#[45]⟩:ByteArray)++T else T))∧Below w.heap.size w w':=by
 have b0:=Jk.new w 36 (.bool s) (.slice a l cap);have Qa:Below w.heap.size w (w.alloc (.cells #[.bool s,.slice a l cap] 36)):=(Below.refl _ w).alloc (Aa _) _;have k0:=b0.c0;have k1:=b0.c1;have hl0:¬l=0:=by omega
 have Qb:=Ja HT;clear HT;cases s;all_goals
  go_enter Tryz.func60,Tryz.ntmps60
  go_wp2_with(go_at_call 101;refine(Qb.o _ Qa).mono ?_;rintro e w1 ⟨rfl,hb1⟩)
  go_ret;exact⟨by simp,Below.then Qa hb1⟩
theorem Jah(n:Nat):(YY n).length≤20*(Jc B64 n).length+1:=by
 unfold YY;split
 · simp
 · rw[Jga];have h1:n<B64^(Jc B64 n).length:=by
    have:=J7 (Jm Je n);rwa[Jl Je]at this
   have h2:B64^(Jc B64 n).length≤10^(20*(Jc B64 n).length):=by
    rw[Nat.pow_mul];exact C8 (by unfold B64;omega) _
   have:=JG (B:=10) (by omega) (AA h1 h2);omega
theorem Jjm(v:Value)(z:Int)(w:World)(h:Jj w v z)(htab:Lib.TabIs Tryz.prog w "internal/strconv.uint64pow10" .u64 Lib.pow10Tab):
 Calls Tryz.prog 60 #[v] w fun e w'=>e=.returned (.string ⟨(YC z).toArray⟩)∧Below w.heap.size w w':=by
 obtain⟨a,l,cap,rfl,hu⟩:=h;have hl:=hu.len;by_cases h0:z.natAbs=0
 · have hz:z=0:=by omega
   subst hz;have Qb:l=0:=by rw[hl];simp[Jw]
   subst Qb;exact Js3 a cap w
 · have Qa:0<l:=by rw[hl];exact Jbw.2 h0
   refine(Js4 _ a l cap ⟨(YY z.natAbs).toArray⟩ w Qa (by
    have h1:=Jah z.natAbs;have h2:=(Jp hu).2.2.2.1;show(YY z.natAbs).toArray.size≤_;rw[An];omega) (fun V hV=>Jsy a l cap z.natAbs V (Row.below hu hV) h0 (Jy htab hV))).mono ?_
   rintro e w' ⟨rfl,hB⟩;refine⟨?_,hB⟩;congr 2;unfold YC;by_cases hz:z<0
   · simp only[hz,decide_true,if_true];exact Jft _ _
   · simp only[hz,decide_false,if_false,A6]
attribute [local go_sem] Oper.semAt_some
theorem Jj.set{W:World}{v:Value}{z:Int}(h:Jj W v z){p:Addr}{u0:Value}(hp:W.cell? p=some u0)(hn:JA u0=true)(u:Value):Jj (W.setCell p u) v z:=by
 obtain⟨a,l,cap,e,hr⟩:=h;exact⟨a,l,cap,e,Row.set hr hp hn u⟩
theorem Jj.form{W:World}{v:Value}{z:Int}(h:Jj W v z):∃a l cap,v=.agg #[.bool (decide (z<0)),.slice a l cap]:=by
 obtain⟨a,l,cap,e,_⟩:=h;exact⟨a,l,cap,e⟩
theorem Jj.alloc{W:World}{v:Value}{z:Int}(h:Jj W v z)(o:Obj):Jj (W.alloc o) v z:=h.below ((Below.refl _ W).alloc (Aa _) o)
theorem Jj.drew{W:World}{v:Value}{z:Int}(h:Jj W v z):Jj W.drew v z:=h
theorem Jj.box{W:World}{R:Nat}{t:TypeId}{u0 u1 x0 x1 v:Value}{z:Int}(h:Jj W v z)(q:Jk W R t u0 u1)(n0:JA u0=true)(n1:JA u1=true):Jj ((W.setCell ⟨R,0,none⟩ x0).setCell ⟨R,1,none⟩ x1) v z:=by
 obtain⟨a,l,cap,e,hr⟩:=h;exact⟨a,l,cap,e,Row.set (Row.set hr q.c0 n0 _) (u0:=u1) (q.set0 x0).c1 n1 _⟩
end Go.Proofs.YtcahejkcdcjjgaaGreatDoor
namespace Go.Proofs.YtcahejkcdcjjgaaGreatDoor
open Go.RowKit Go.Shelf
def JH(W:World)(B:Nat)(t:TypeId)(x y z u:Value):Prop:=W.heap[B]?=some (.cells #[x,y,z,u] t (0,0))
section
variable {W W':World} {B:Nat} {t:TypeId} {x y z u:Value}
theorem JH.lt(h:JH W B t x y z u):B<W.heap.size:=(Ac.1 h).1
theorem JH.c0(h:JH W B t x y z u):W.cell? ⟨B,0,none⟩=some x:=by simp[World.cell?,show W.heap[B]?=_ from h]
theorem JH.c1(h:JH W B t x y z u):W.cell? ⟨B,1,none⟩=some y:=by simp[World.cell?,show W.heap[B]?=_ from h]
theorem JH.c2(h:JH W B t x y z u):W.cell? ⟨B,2,none⟩=some z:=by simp[World.cell?,show W.heap[B]?=_ from h]
theorem JH.c3(h:JH W B t x y z u):W.cell? ⟨B,3,none⟩=some u:=by simp[World.cell?,show W.heap[B]?=_ from h]
theorem JH.f0(h:JH W B t x y z u):W.frozen? ⟨B,0,none⟩=false:=by simp[World.frozen?,show W.heap[B]?=_ from h]
theorem JH.f1(h:JH W B t x y z u):W.frozen? ⟨B,1,none⟩=false:=by simp[World.frozen?,show W.heap[B]?=_ from h]
theorem JH.f2(h:JH W B t x y z u):W.frozen? ⟨B,2,none⟩=false:=by simp[World.frozen?,show W.heap[B]?=_ from h]
theorem JH.f3(h:JH W B t x y z u):W.frozen? ⟨B,3,none⟩=false:=by simp[World.frozen?,show W.heap[B]?=_ from h]
theorem JH.new(W:World)(t:TypeId)(x y z u:Value):JH (W.alloc (.cells #[x,y,z,u] t)) W.heap.size t x y z u:=World.alloc_heap_new W _
theorem JH.below(h:JH W B t x y z u)(hb:Below W.heap.size W W'):JH W' B t x y z u:=(hb.block B h.lt).trans h
theorem JH.alloc(h:JH W B t x y z u)(o:Obj):JH (W.alloc o) B t x y z u:=h.below ((Below.refl _ W).alloc (Aa _) o)
theorem JH.drew(h:JH W B t x y z u):JH W.drew B t x y z u:=h
theorem JH.set0(h:JH W B t x y z u)(v:Value):JH (W.setCell ⟨B,0,none⟩ v) B t v y z u:=by
 obtain⟨hlt,hk⟩:=Ac.1 h;show(W.heap.modify B _)[B]?=_;rw[A7 (by rw[Cx];exact hlt),Ce,hk];rfl
theorem JH.set1(h:JH W B t x y z u)(v:Value):JH (W.setCell ⟨B,1,none⟩ v) B t x v z u:=by
 obtain⟨hlt,hk⟩:=Ac.1 h;show(W.heap.modify B _)[B]?=_;rw[A7 (by rw[Cx];exact hlt),Ce,hk];rfl
theorem JH.set2(h:JH W B t x y z u)(v:Value):JH (W.setCell ⟨B,2,none⟩ v) B t x y v u:=by
 obtain⟨hlt,hk⟩:=Ac.1 h;show(W.heap.modify B _)[B]?=_;rw[A7 (by rw[Cx];exact hlt),Ce,hk];rfl
theorem JH.set3(h:JH W B t x y z u)(v:Value):JH (W.setCell ⟨B,3,none⟩ v) B t x y z v:=by
 obtain⟨hlt,hk⟩:=Ac.1 h;show(W.heap.modify B _)[B]?=_;rw[A7 (by rw[Cx];exact hlt),Ce,hk];rfl
theorem JH.far(h:JH W B t x y z u){p:Addr}(hp:B≠p.block)(v:Value):JH (W.setCell p v) B t x y z u:=(Below.heap_setCell W p v B hp).trans h
end
def put4(W:World)(B:Nat)(x y z u:Value):World:=(((W.setCell ⟨B,0,none⟩ x).setCell ⟨B,1,none⟩ y).setCell ⟨B,2,none⟩ z).setCell ⟨B,3,none⟩ u
theorem JH.put{W:World}{B:Nat}{t:TypeId}{x y z u:Value}(h:JH W B t x y z u)(x' y' z' u':Value):JH (put4 W B x' y' z' u') B t x' y' z' u':=(((h.set0 x').set1 y').set2 z').set3 u'
theorem JH.putFar{W:World}{B C:Nat}{t:TypeId}{x y z u:Value}(h:JH W B t x y z u)(hn:B≠C)(x' y' z' u':Value):JH (put4 W C x' y' z' u') B t x y z u:=(((h.far hn x').far hn y').far hn z').far hn u'
theorem Jk.putFar{W:World}{B C:Nat}{t:TypeId}{x y:Value}(h:Jk W B t x y)(hn:B≠C)(x' y' z' u':Value):Jk (put4 W C x' y' z' u') B t x y:=(((h.far hn x').far hn y').far hn z').far hn u'
theorem Jt{n B:Nat}{w W:World}(h:Below n w W)(hB:n≤B)(x y z u:Value):Below n w (put4 W B x y z u):=(((h.setCell (p:=⟨B,0,none⟩) hB _).setCell (p:=⟨B,1,none⟩) hB _).setCell (p:=⟨B,2,none⟩) hB _).setCell (p:=⟨B,3,none⟩) hB _
theorem Row.put4{k:IntKind}{W:World}{v:Value}{ds:List Nat}(h:Row k W v ds){B:Nat}{t:TypeId}{x y z u:Value}(q:JH W B t x y z u)(n0:JA x=true)(n1:JA y=true)(n2:JA z=true)(n3:JA u=true)(x' y' z' u':Value):Row k (put4 W B x' y' z' u') v ds:=
 Row.set (Row.set (Row.set (Row.set h q.c0 n0 _) (q.set0 x').c1 n1 _) ((q.set0 x').set1 y').c2 n2 _) (((q.set0 x').set1 y').set2 z').c3 n3 _
theorem Jj.put4{W:World}{v:Value}{i:Int}(h:Jj W v i){B:Nat}{t:TypeId}{x y z u:Value}(q:JH W B t x y z u)(n0:JA x=true)(n1:JA y=true)(n2:JA z=true)(n3:JA u=true)(x' y' z' u':Value):Jj (put4 W B x' y' z' u') v i:=by
 obtain⟨a,l,cap,e,hr⟩:=h;exact⟨a,l,cap,e,Row.put4 hr q n0 n1 n2 n3 _ _ _ _⟩
theorem Jo.put4{W:World}{v:Value}{i:Int}(h:Jo W v i){B:Nat}{t:TypeId}{x y z u:Value}(q:JH W B t x y z u)(n0:JA x=true)(n1:JA y=true)(n2:JA z=true)(n3:JA u=true)(x' y' z' u':Value):Jo (put4 W B x' y' z' u') v i:=by
 obtain⟨a,l,cap,e,hr⟩:=h;exact⟨a,l,cap,e,Row.put4 hr q n0 n1 n2 n3 _ _ _ _⟩
def Ji(W:World)(v:Value)(q:Rat):Prop:=∃s a l c t b k d,v=.agg #[.bool s,.slice a l c,.bool t,.slice b k d]∧Jj W (.agg #[.bool s,.slice a l c]) q.num∧Jj W (.agg #[.bool t,.slice b k d]) (denZ q)
theorem Ji.below{W W':World}{v:Value}{q:Rat}(h:Ji W v q)(hb:Below W.heap.size W W'):Ji W' v q:=by
 obtain⟨s,a,l,c,t,b,k,d,e,h1,h2⟩:=h;exact⟨s,a,l,c,t,b,k,d,e,h1.below hb,h2.below hb⟩
theorem Ji.put4{W:World}{v:Value}{p:Rat}(h:Ji W v p){B:Nat}{t:TypeId}{x y z u:Value}(q:JH W B t x y z u)(n0:JA x=true)(n1:JA y=true)(n2:JA z=true)(n3:JA u=true)(x' y' z' u':Value):Ji (put4 W B x' y' z' u') v p:=by
 obtain⟨s,a,l,c,t,b,k,d,e,h1,h2⟩:=h;exact⟨s,a,l,c,t,b,k,d,e,h1.put4 q n0 n1 n2 n3 _ _ _ _,h2.put4 q n0 n1 n2 n3 _ _ _ _⟩
def Jq(W:World)(v:Value)(q:Rat):Prop:=∃a l c s b k d t,v=.agg #[.slice a l c,.bool s,.slice b k d,.bool t]∧Jo W (.agg #[.slice a l c,.bool s]) q.num∧Jo W (.agg #[.slice b k d,.bool t]) (q.den:Int)
theorem Jq.below{W W':World}{v:Value}{q:Rat}(h:Jq W v q)(hb:Below W.heap.size W W'):Jq W' v q:=by
 obtain⟨s,a,l,c,t,b,k,d,e,h1,h2⟩:=h;exact⟨s,a,l,c,t,b,k,d,e,h1.below hb,h2.below hb⟩
theorem Jq.put4{W:World}{v:Value}{p:Rat}(h:Jq W v p){B:Nat}{t:TypeId}{x y z u:Value}(q:JH W B t x y z u)(n0:JA x=true)(n1:JA y=true)(n2:JA z=true)(n3:JA u=true)(x' y' z' u':Value):Jq (put4 W B x' y' z' u') v p:=by
 obtain⟨s,a,l,c,t,b,k,d,e,h1,h2⟩:=h;exact⟨s,a,l,c,t,b,k,d,e,h1.put4 q n0 n1 n2 n3 _ _ _ _,h2.put4 q n0 n1 n2 n3 _ _ _ _⟩
end Go.Proofs.YtcahejkcdcjjgaaGreatDoor
namespace Go.Proofs.YtcahejkcdcjjgaaGreatDoor
open Go.RowKit Go.Shelf
inductive Dat
 |int(z:Int)
 |rat(q:Rat)
 |big(z:Int)
 |ref(q:Rat)
 |zref
 |pair(x y:Int)
def Dat.ty:Dat→TypeId
 |.int _=>36
 |.rat _=>38
 |.big _=>47
 |.ref _=>49
 |.zref=>49
 |.pair _ _=>38
def Xs(W:World)(v:Value)(x y:Int):Prop:=∃s a l c t b k d,v=.agg #[.bool s,.slice a l c,.bool t,.slice b k d]∧Jj W (.agg #[.bool s,.slice a l c]) x∧Jj W (.agg #[.bool t,.slice b k d]) y
theorem Ji.pair{W:World}{v:Value}{q:Rat}(h:Ji W v q):Xs W v q.num (denZ q):=h
theorem Xs.form{W:World}{v:Value}{x y:Int}(h:Xs W v x y):∃s a l c t b k d,v=.agg #[.bool s,.slice a l c,.bool t,.slice b k d]:=by
 obtain⟨s,a,l,c,t,b,k,d,e,_⟩:=h;exact⟨s,a,l,c,t,b,k,d,e⟩
theorem Xs.below{W W':World}{v:Value}{x y:Int}(h:Xs W v x y)(hb:Below W.heap.size W W'):Xs W' v x y:=by
 obtain⟨s,a,l,c,t,b,k,d,e,h1,h2⟩:=h;exact⟨s,a,l,c,t,b,k,d,e,h1.below hb,h2.below hb⟩
def Has(V:World)(v:Value):Dat→Prop
 |.int z=>Jj V v z
 |.rat q=>Ji V v q
 |.big z=>Jo V v z
 |.ref q=>Jq V v q
 |.zref=>v=.agg #[.slice none 0 0,.bool false,.slice none 0 0,.bool false]
 |.pair x y=>Xs V v x y
theorem Has.below{V V':World}{v:Value}{d:Dat}(h:Has V v d)(hb:Below V.heap.size V V'):Has V' v d:=by
 cases d with
 |int z=>exact Jj.below h hb
 |rat q=>exact Ji.below h hb
 |big z=>exact Jo.below h hb
 |ref q=>exact Jq.below h hb
 |zref=>exact h
 |pair x y=>exact Xs.below h hb
theorem Has.alloc{V:World}{v:Value}{d:Dat}(h:Has V v d)(o:Obj):Has (V.alloc o) v d:=h.below ((Below.refl _ V).alloc (Aa _) o)
theorem Has.keep{V V':World}{v:Value}{d:Dat}(h:Has V v d)(hk:∀k v ds,Row k V v ds→Row k V' v ds):Has V' v d:=by
 cases d with
 |zref=>exact h
 |pair x y=>
  obtain⟨s,a,l,c,t,b,k,d,e,⟨a1,l1,c1,e1,h1⟩,⟨a2,l2,c2,e2,h2⟩⟩:=h;exact⟨s,a,l,c,t,b,k,d,e,⟨a1,l1,c1,e1,hk _ _ _ h1⟩,⟨a2,l2,c2,e2,hk _ _ _ h2⟩⟩
 |int z=>obtain⟨a,l,c,e,hr⟩:=h;exact⟨a,l,c,e,hk _ _ _ hr⟩
 |big z=>obtain⟨a,l,c,e,hr⟩:=h;exact⟨a,l,c,e,hk _ _ _ hr⟩
 |rat q=>
  obtain⟨s,a,l,c,t,b,k,d,e,⟨a1,l1,c1,e1,h1⟩,⟨a2,l2,c2,e2,h2⟩⟩:=h;exact⟨s,a,l,c,t,b,k,d,e,⟨a1,l1,c1,e1,hk _ _ _ h1⟩,⟨a2,l2,c2,e2,hk _ _ _ h2⟩⟩
 |ref q=>
  obtain⟨s,a,l,c,t,b,k,d,e,⟨a1,l1,c1,e1,h1⟩,⟨a2,l2,c2,e2,h2⟩⟩:=h;exact⟨s,a,l,c,t,b,k,d,e,⟨a1,l1,c1,e1,hk _ _ _ h1⟩,⟨a2,l2,c2,e2,hk _ _ _ h2⟩⟩
def Bx(V:World)(B:Nat)(t:TypeId)(cs:Array Value):Prop:=V.heap[B]?=some (.cells cs t (0,0))
theorem Bx.lt{V:World}{B:Nat}{t:TypeId}{cs:Array Value}(h:Bx V B t cs):B<V.heap.size:=(Ac.1 h).1
theorem Bx.below{V V':World}{B:Nat}{t:TypeId}{cs:Array Value}(h:Bx V B t cs)(hb:Below V.heap.size V V'):Bx V' B t cs:=(hb.block B h.lt).trans h
theorem Bx.far{V:World}{B:Nat}{t:TypeId}{cs:Array Value}(h:Bx V B t cs){p:Addr}(hp:B≠p.block)(u:Value):Bx (V.setCell p u) B t cs:=(Below.heap_setCell V p u B hp).trans h
def Mem(w V:World)(bs:List (Option (Nat × Dat))):Prop:=
 (∀(i:Nat) B d,bs[i]?=some (some (B,d))→(∃cs,Bx V B d.ty cs∧Has V (.agg cs) d)∧w.heap.size≤B)∧
 (∀(i j:Nat) B d d',bs[i]?=some (some (B,d))→bs[j]?=some (some (B,d'))→i=j)∧Below w.heap.size w V
theorem Mem.nil(w:World):Mem w w []:=⟨fun i B z h=>by simp at h,fun i j B z z' h=>by simp at h,Below.refl _ w⟩
theorem Mem.int{w V:World}{bs:List (Option (Nat × Dat))}(M:Mem w V bs){i B:Nat}{z:Int}(h:bs[i]?=some (some (B,.int z))):∃s a l c,Jk V B 36 (.bool s) (.slice a l c)∧Jj V (.agg #[.bool s,.slice a l c]) z:=by
 obtain⟨⟨cs,h1,h2⟩,_⟩:=M.1 i B _ h;obtain⟨a,l,c,e,hu⟩:=h2;cases e;exact⟨_,a,l,c,h1,a,l,c,rfl,hu⟩
theorem Mem.big{w V:World}{bs:List (Option (Nat × Dat))}(M:Mem w V bs){i B:Nat}{z:Int}(h:bs[i]?=some (some (B,.big z))):∃a l c s,Jk V B 47 (.slice a l c) (.bool s)∧Jo V (.agg #[.slice a l c,.bool s]) z:=by
 obtain⟨⟨cs,h1,h2⟩,_⟩:=M.1 i B _ h;obtain⟨a,l,c,e,hu⟩:=h2;cases e;exact⟨a,l,c,_,h1,a,l,c,rfl,hu⟩
theorem Mem.rat{w V:World}{bs:List (Option (Nat × Dat))}(M:Mem w V bs){i B:Nat}{q:Rat}(h:bs[i]?=some (some (B,.rat q))):
 ∃s a l c t b k d,JH V B 38 (.bool s) (.slice a l c) (.bool t) (.slice b k d)∧Ji V (.agg #[.bool s,.slice a l c,.bool t,.slice b k d]) q∧Jj V (.agg #[.bool s,.slice a l c]) q.num∧Jj V (.agg #[.bool t,.slice b k d]) (denZ q):=by
 obtain⟨⟨cs,h1,h2⟩,_⟩:=M.1 i B _ h;have h3:=h2;obtain⟨s,a,l,c,t,b,k,d,e,g1,g2⟩:=h2;cases e;exact⟨s,a,l,c,t,b,k,d,h1,h3,g1,g2⟩
theorem Mem.pair{w V:World}{bs:List (Option (Nat × Dat))}(M:Mem w V bs){i B:Nat}{x y:Int}(h:bs[i]?=some (some (B,.pair x y))):
 ∃s a l c t b k d,JH V B 38 (.bool s) (.slice a l c) (.bool t) (.slice b k d)∧Xs V (.agg #[.bool s,.slice a l c,.bool t,.slice b k d]) x y∧Jj V (.agg #[.bool s,.slice a l c]) x∧Jj V (.agg #[.bool t,.slice b k d]) y:=by
 obtain⟨⟨cs,h1,h2⟩,_⟩:=M.1 i B _ h;have h3:=h2;obtain⟨s,a,l,c,t,b,k,d,e,g1,g2⟩:=h2;cases e;exact⟨s,a,l,c,t,b,k,d,h1,h3,g1,g2⟩
theorem Mem.ref{w V:World}{bs:List (Option (Nat × Dat))}(M:Mem w V bs){i B:Nat}{q:Rat}(h:bs[i]?=some (some (B,.ref q))):
 ∃a l c s b k d t,JH V B 49 (.slice a l c) (.bool s) (.slice b k d) (.bool t)∧Jq V (.agg #[.slice a l c,.bool s,.slice b k d,.bool t]) q∧Jo V (.agg #[.slice a l c,.bool s]) q.num∧Jo V (.agg #[.slice b k d,.bool t]) (q.den:Int):=by
 obtain⟨⟨cs,h1,h2⟩,_⟩:=M.1 i B _ h;have h3:=h2;obtain⟨s,a,l,c,t,b,k,d,e,g1,g2⟩:=h2;cases e;exact⟨s,a,l,c,t,b,k,d,h1,h3,g1,g2⟩
theorem Mem.below{w V V':World}{bs:List (Option (Nat × Dat))}(M:Mem w V bs)(hb:Below V.heap.size V V'):Mem w V' bs:=
 ⟨fun i B z h=>by
  obtain⟨⟨cs,h1,h2⟩,h3⟩:=M.1 i B z h;exact⟨⟨cs,h1.below hb,h2.below hb⟩,h3⟩,M.2.1,M.2.2.trans (hb.mono M.2.2.size)⟩
theorem Mem.drew{w V:World}{bs:List (Option (Nat × Dat))}(M:Mem w V bs):Mem w V.drew bs:=M.below ((Below.refl _ V).drew)
theorem Mem.sub{w V:World}{bs cs:List (Option (Nat × Dat))}(M:Mem w V bs)(f:Nat→Nat)(hf:∀(i j:Nat),f i=f j→i=j)(h:∀(i:Nat) x,cs[i]?=some (some x)→bs[f i]?=some (some x)):Mem w V cs:=
 ⟨fun i B d h1=>M.1 (f i) B d (h i _ h1),fun i j B d d' h1 h2=>hf i j (M.2.1 (f i) (f j) B d d' (h i _ h1) (h j _ h2)),M.2.2⟩
theorem Mem.take{w V:World}{bs:List (Option (Nat × Dat))}(M:Mem w V bs)(n:Nat):Mem w V (bs.take n):=by
 refine M.sub id (fun _ _ h=>h) (fun i x h=>?_);rw[Fc]at h;split at h
 · exact h
 · cases h
theorem Mem.none{w V:World}{bs:List (Option (Nat × Dat))}(M:Mem w V bs):Mem w V (bs++[Option.none]):=by
 refine M.sub id (fun _ _ h=>h) (fun i x h=>?_);by_cases hi:i<bs.length
 · rwa[AL hi]at h
 · rw[AB (by omega)]at h;obtain⟨k,hk⟩:=ex (i-bs.length);rw[hk]at h;cases k<;>simp at h
theorem Mem.fill{w V:World}{bs:List (Option (Nat × Dat))}(M:Mem w V bs){i:Nat}(h:bs[i]?=some Option.none){cs:Array Value}(d:Dat)(hd:Has V (.agg cs) d):
 Mem w (V.alloc (.cells cs d.ty)) (bs.set i (some (V.heap.size,d))):=by
 have Qb:Below V.heap.size V (V.alloc (.cells cs d.ty)):=(Below.refl _ V).alloc (Aa _) _;have Qa:i<bs.length:=(Ad.1 h).1;have M2:=M.below Qb;have Qc:∀(j:Nat) B d,bs[j]?=some (some (B,d))→B<V.heap.size:=fun j B d h=>by
  obtain⟨⟨_,h1,_⟩,_⟩:=M.1 j B d h;exact h1.lt
 refine⟨fun j B d' hj=>?_,fun j k B d1 d2 h1 h2=>?_,M2.2.2⟩
 · by_cases hij:i=j
   · subst hij;rw[AY Qa]at hj;simp at hj;obtain⟨rfl,rfl⟩:=hj;exact⟨⟨cs,World.alloc_heap_new V _,hd.below Qb⟩,M.2.2.size⟩
   · rw[AO hij]at hj;exact M2.1 j B d' hj
 · by_cases hij:i=j<;>by_cases hik:i=k
   · omega
   · subst hij;rw[AY Qa]at h1;rw[AO hik]at h2;simp at h1;have:=Qc k B d2 h2;omega
   · subst hik;rw[AY Qa]at h2;rw[AO hij]at h1;simp at h2;have:=Qc j B d1 h1;omega
   · rw[AO hij]at h1;rw[AO hik]at h2;exact M.2.1 j k B d1 d2 h1 h2
theorem Jnl{α:Type}(l:List α)(x y:α):(l++[x]).set l.length y=l++[y]:=by
 induction l with
 |nil=>rfl
 |cons a l ih=>simp
theorem Mem.push{w V:World}{bs:List (Option (Nat × Dat))}(M:Mem w V bs){cs:Array Value}(d:Dat)(hd:Has V (.agg cs) d):Mem w (V.alloc (.cells cs d.ty)) (bs++[some (V.heap.size,d)]):=by
 have h:=M.none.fill (i:=bs.length) (by simp) d hd;rwa[Jnl]at h
theorem Mem.repl{w V V':World}{bs:List (Option (Nat × Dat))}(M:Mem w V bs){i B:Nat}{d:Dat}(h:bs[i]?=some (some (B,d))){cs:Array Value}(d':Dat)(hc:Bx V' B d'.ty cs)(hd:Has V (.agg cs) d')
(hk:∀k v ds,Row k V v ds→Row k V' v ds)(hf:∀B' t cs,B'≠B→Bx V B' t cs→Bx V' B' t cs)(hB:Below w.heap.size w V'):Mem w V' (bs.set i (some (B,d'))):=by
 have Qb:i<bs.length:=(Ad.1 h).1;obtain⟨_,hw⟩:=M.1 i B d h;refine⟨fun j B' d1 hj=>?_,fun j k B' d1 d2 h1 h2=>?_,hB⟩
 · by_cases hij:i=j
   · subst hij;rw[AY Qb]at hj;simp at hj;obtain⟨rfl,rfl⟩:=hj;exact⟨⟨cs,hc,hd.keep hk⟩,hw⟩
   · rw[AO hij]at hj;obtain⟨⟨cs1,g1,g2⟩,hw1⟩:=M.1 j B' d1 hj;have Qc:B'≠B:=fun e=>hij (by rw[e]at hj;exact M.2.1 i j B d d1 h hj);exact⟨⟨cs1,hf _ _ _ Qc g1,g2.keep hk⟩,hw1⟩
 · have Qa:∀(j:Nat) d1,(bs.set i (some (B,d')))[j]?=some (some (B',d1))→∃d3,bs[j]?=some (some (B',d3)):=fun j d1 hj=>by
    by_cases hij:i=j
    · subst hij;rw[AY Qb]at hj;simp at hj;exact⟨d,by rw[h,hj.1]⟩
    · rw[AO hij]at hj;exact⟨d1,hj⟩
   obtain⟨d3,g1⟩:=Qa j d1 h1;obtain⟨d4,g2⟩:=Qa k d2 h2;exact M.2.1 j k B' d3 d4 g1 g2
theorem keep2{V:World}{B:Nat}{t:TypeId}{x y:Value}(q:Jk V B t x y)(n0:JA x=true)(n1:JA y=true)(x' y':Value):∀k v ds,Row k V v ds→Row k ((V.setCell ⟨B,0,Option.none⟩ x').setCell ⟨B,1,Option.none⟩ y') v ds:=
 fun _ _ _ h=>Row.set (Row.set h q.c0 n0 _) (q.set0 x').c1 n1 _
theorem Mem.putInt{w V:World}{bs:List (Option (Nat × Dat))}(M:Mem w V bs){i B:Nat}{z0:Int}(h:bs[i]?=some (some (B,.int z0))){x y:Value}{z:Int}(hi:Jj V (.agg #[x,y]) z):
 Mem w ((V.setCell ⟨B,0,Option.none⟩ x).setCell ⟨B,1,Option.none⟩ y) (bs.set i (some (B,.int z))):=by
 obtain⟨s,a,l,c,hb,_⟩:=M.int h;obtain⟨_,hw⟩:=M.1 i B _ h;exact M.repl h (.int z) (cs:=#[x,y]) ((hb.set0 x).set1 y) hi (keep2 hb rfl rfl x y) (fun B' t cs hne g=>(g.far (p:=⟨B,0,Option.none⟩) hne _).far (p:=⟨B,1,Option.none⟩) hne _) ((M.2.2.setCell (p:=⟨B,0,Option.none⟩) hw _).setCell (p:=⟨B,1,Option.none⟩) hw _)
theorem Mem.putBig{w V:World}{bs:List (Option (Nat × Dat))}(M:Mem w V bs){i B:Nat}{z0:Int}(h:bs[i]?=some (some (B,.big z0))){x y:Value}{z:Int}(hi:Jo V (.agg #[x,y]) z):
 Mem w ((V.setCell ⟨B,0,Option.none⟩ x).setCell ⟨B,1,Option.none⟩ y) (bs.set i (some (B,.big z))):=by
 obtain⟨a,l,c,s,hb,_⟩:=M.big h;obtain⟨_,hw⟩:=M.1 i B _ h;exact M.repl h (.big z) (cs:=#[x,y]) ((hb.set0 x).set1 y) hi (keep2 hb rfl rfl x y) (fun B' t cs hne g=>(g.far (p:=⟨B,0,Option.none⟩) hne _).far (p:=⟨B,1,Option.none⟩) hne _) ((M.2.2.setCell (p:=⟨B,0,Option.none⟩) hw _).setCell (p:=⟨B,1,Option.none⟩) hw _)
theorem far4{V:World}{B:Nat}(x y z u:Value):∀B' t cs,B'≠B→Bx V B' t cs→Bx (put4 V B x y z u) B' t cs:=fun _ _ _ hne g=>(((g.far (p:=⟨B,0,Option.none⟩) hne _).far (p:=⟨B,1,Option.none⟩) hne _).far (p:=⟨B,2,Option.none⟩) hne _).far (p:=⟨B,3,Option.none⟩) hne _
theorem Mem.putRat{w V:World}{bs:List (Option (Nat × Dat))}(M:Mem w V bs){i B:Nat}{q0:Rat}(h:bs[i]?=some (some (B,.rat q0))){x y z u:Value}{q:Rat}(hi:Ji V (.agg #[x,y,z,u]) q):
 Mem w (put4 V B x y z u) (bs.set i (some (B,.rat q))):=by
 obtain⟨_,_,_,_,_,_,_,_,hb,_⟩:=M.rat h;obtain⟨_,hw⟩:=M.1 i B _ h;exact M.repl h (.rat q) (cs:=#[x,y,z,u]) (hb.put x y z u) hi (fun _ _ _ g=>Row.put4 g hb rfl rfl rfl rfl _ _ _ _) (far4 x y z u) (Jt M.2.2 hw _ _ _ _)
theorem Mem.zref{w V:World}{bs:List (Option (Nat × Dat))}(M:Mem w V bs){i B:Nat}(h:bs[i]?=some (some (B,.zref))):JH V B 49 (.slice Option.none 0 0) (.bool false) (.slice Option.none 0 0) (.bool false):=by
 obtain⟨⟨cs,h1,h2⟩,_⟩:=M.1 i B _ h;cases(show Value.agg cs=_ from h2);exact h1
theorem Has.set2{V:World}{v:Value}{d:Dat}(h:Has V v d){B:Nat}{t:TypeId}{x y:Value}(q:Jk V B t x y)(n0:JA x=true)(n1:JA y=true)(x' y':Value):Has ((V.setCell ⟨B,0,Option.none⟩ x').setCell ⟨B,1,Option.none⟩ y') v d:=h.keep (keep2 q n0 n1 x' y')
theorem Has.put4{V:World}{v:Value}{d:Dat}(h:Has V v d){B:Nat}{t:TypeId}{x y z u:Value}(q:JH V B t x y z u)(n0:JA x=true)(n1:JA y=true)(n2:JA z=true)(n3:JA u=true)(x' y' z' u':Value):Has (Go.Proofs.YtcahejkcdcjjgaaGreatDoor.put4 V B x' y' z' u') v d:=h.keep (fun _ _ _ g=>Row.put4 g q n0 n1 n2 n3 _ _ _ _)
theorem Jj.form2{W:World}{v:Value}{z:Int}(h:Jj W v z):∃s a l c,v=.agg #[.bool s,.slice a l c]:=by
 obtain⟨a,l,c,e,_⟩:=h;exact⟨_,a,l,c,e⟩
theorem Jo.form2{W:World}{v:Value}{z:Int}(h:Jo W v z):∃a l c s,v=.agg #[.slice a l c,.bool s]:=by
 obtain⟨a,l,c,e,_⟩:=h;exact⟨a,l,c,_,e⟩
theorem Ji.form{W:World}{v:Value}{q:Rat}(h:Ji W v q):∃s a l c t b k d,v=.agg #[.bool s,.slice a l c,.bool t,.slice b k d]:=by
 obtain⟨s,a,l,c,t,b,k,d,e,_⟩:=h;exact⟨s,a,l,c,t,b,k,d,e⟩
theorem Jq.form{W:World}{v:Value}{q:Rat}(h:Jq W v q):∃a l c s b k d t,v=.agg #[.slice a l c,.bool s,.slice b k d,.bool t]:=by
 obtain⟨s,a,l,c,t,b,k,d,e,_⟩:=h;exact⟨s,a,l,c,t,b,k,d,e⟩
theorem Mem.ne{w V:World}{bs:List (Option (Nat × Dat))}(M:Mem w V bs)(i j:Nat){B B':Nat}{d d':Dat}(h:bs[i]?=some (some (B,d)))(h':bs[j]?=some (some (B',d')))(hij:i≠j):B≠B':=fun e=>by
 subst e;exact hij (M.2.1 i j B d d' h h')
theorem Mem.ge{w V:World}{bs:List (Option (Nat × Dat))}(M:Mem w V bs)(i:Nat){B:Nat}{d:Dat}(h:bs[i]?=some (some (B,d))):w.heap.size≤B:=(M.1 i B d h).2
theorem Jam(W:World):Jj W (.agg #[.bool false,.slice Option.none 0 0]) 0:=
 ⟨Option.none,0,0,by simp,by unfold UN;rw[Int.natAbs_zero,Jw];exact Row.nil _ _⟩
theorem Jva(W:World):Jo W (.agg #[.slice Option.none 0 0,.bool false]) 0:=
 ⟨Option.none,0,0,by simp,by unfold RN;rw[Int.natAbs_zero,Jw];exact Row.nil _ _⟩
theorem Jcn(W:World):Ji W (.agg #[.bool false,.slice Option.none 0 0,.bool false,.slice Option.none 0 0]) 0:=⟨_,_,_,_,_,_,_,_,rfl,Jam W,Jam W⟩
def Tup2(V:World)(t:Value)(d1 d2:Dat):Prop:=∃u1 u2,t=.tuple #[u1,u2,.bool true]∧Has V u1 d1∧Has V u2 d2
theorem Tup2.below{V V':World}{t:Value}{d1 d2:Dat}(h:Tup2 V t d1 d2)(hb:Below V.heap.size V V'):Tup2 V' t d1 d2:=by
 obtain⟨u1,u2,e,h1,h2⟩:=h;exact⟨u1,u2,e,h1.below hb,h2.below hb⟩
theorem Tup2.alloc{V:World}{t:Value}{d1 d2:Dat}(h:Tup2 V t d1 d2)(o:Obj):Tup2 (V.alloc o) t d1 d2:=by
 obtain⟨u1,u2,e,h1,h2⟩:=h;exact⟨u1,u2,e,h1.alloc o,h2.alloc o⟩
theorem Tup2.set2{V:World}{v:Value}{d1 d2:Dat}(h:Tup2 V v d1 d2){B:Nat}{t:TypeId}{x y:Value}(q:Jk V B t x y)(n0:JA x=true)(n1:JA y=true)(x' y':Value):Tup2 ((V.setCell ⟨B,0,Option.none⟩ x').setCell ⟨B,1,Option.none⟩ y') v d1 d2:=by
 obtain⟨u1,u2,e,h1,h2⟩:=h;exact⟨u1,u2,e,h1.set2 q n0 n1 x' y',h2.set2 q n0 n1 x' y'⟩
def IsK(r:Bool)(W:World)(v:Value)(q:Rat):Prop:=match r with|true=>Ji W v q|false=>Jq W v q
def tyK(r:Bool):TypeId:=match r with|true=>38|false=>49
theorem IsK.below{r:Bool}{W W':World}{v:Value}{q:Rat}(h:IsK r W v q)(hb:Below W.heap.size W W'):IsK r W' v q:=by
 cases r with
 |true=>exact Ji.below h hb
 |false=>exact Jq.below h hb
theorem IsK.keep{r:Bool}{W W':World}{v:Value}{q:Rat}(h:IsK r W v q)(hk:∀k v ds,Row k W v ds→Row k W' v ds):IsK r W' v q:=by
 cases r with
 |true=>exact Has.keep (d:=.rat q) h hk
 |false=>exact Has.keep (d:=.ref q) h hk
theorem IsK.form{r:Bool}{W:World}{v:Value}{q:Rat}(h:IsK r W v q):∃x y z u,v=.agg #[x,y,z,u]∧JA x=true∧JA y=true∧JA z=true∧JA u=true:=by
 cases r with
 |true=>
  obtain⟨s,a,l,c,t,b,k,d,e,_⟩:=(show Ji W v q from h);exact⟨_,_,_,_,e,rfl,rfl,rfl,rfl⟩
 |false=>
  obtain⟨s,a,l,c,t,b,k,d,e,_⟩:=(show Jq W v q from h);exact⟨_,_,_,_,e,rfl,rfl,rfl,rfl⟩
theorem IsK.no{r:Bool}{W:World}{x y z u:Value}{q:Rat}(h:IsK r W (.agg #[x,y,z,u]) q):JA x=true∧JA y=true∧JA z=true∧JA u=true:=by
 obtain⟨x',y',z',u',e,h1,h2,h3,h4⟩:=h.form;cases e;exact⟨h1,h2,h3,h4⟩
theorem IsK.one{r:Bool}{W:World}{x y z u:Value}{q:Rat}(h:IsK r W (.agg #[x,y,z,u]) q):∀v∈[x,y,z,u],v.oneCell'=true:=by
 cases r with
 |true=>
  obtain⟨s,a,l,c,t,b,k,d,e,_⟩:=(show Ji W _ q from h);cases e;intro v hv;simp at hv;rcases hv with rfl|rfl|rfl|rfl<;>rfl
 |false=>
  obtain⟨s,a,l,c,t,b,k,d,e,_⟩:=(show Jq W _ q from h);cases e;intro v hv;simp at hv;rcases hv with rfl|rfl|rfl|rfl<;>rfl
def Els(r:Bool)(W:World)(b:Nat)(qs:List Rat):Prop:=
 ∃cs:Array Value,W.heap[b]?=some (.cells cs (tyK r) (0,0))∧∀j,j<qs.length→∃x y z u,cs[j*4]?=some x∧cs[j*4+1]?=some y∧cs[j*4+2]?=some z∧cs[j*4+3]?=some u∧IsK r W (.agg #[x,y,z,u]) (cf qs j)
theorem Els.lt{r:Bool}{W:World}{b:Nat}{qs:List Rat}(h:Els r W b qs):b<W.heap.size:=by obtain⟨cs,h,_⟩:=h;exact(Ac.1 h).1
theorem Els.below{r:Bool}{W W':World}{b:Nat}{qs:List Rat}(h:Els r W b qs)(hb:Below W.heap.size W W'):Els r W' b qs:=by
 have hl:=h.lt;obtain⟨cs,h1,h2⟩:=h;refine⟨cs,(hb.block b hl).trans h1,fun j hj=>?_⟩;obtain⟨x,y,z,u,e0,e1,e2,e3,h3⟩:=h2 j hj;exact⟨x,y,z,u,e0,e1,e2,e3,h3.below hb⟩
theorem Els.keep{r:Bool}{W W':World}{b:Nat}{qs:List Rat}(h:Els r W b qs)(hb:W'.heap[b]?=W.heap[b]?)(hk:∀k v ds,Row k W v ds→Row k W' v ds):Els r W' b qs:=by
 obtain⟨cs,h1,h2⟩:=h;refine⟨cs,hb.trans h1,fun j hj=>?_⟩;obtain⟨x,y,z,u,e0,e1,e2,e3,h3⟩:=h2 j hj;exact⟨x,y,z,u,e0,e1,e2,e3,h3.keep hk⟩
theorem Els.alloc{r:Bool}{W:World}{b:Nat}{qs:List Rat}(h:Els r W b qs)(o:Obj):Els r (W.alloc o) b qs:=h.below ((Below.refl _ W).alloc (Aa _) o)
theorem Els.take{r:Bool}{W:World}{b:Nat}{qs:List Rat}(h:Els r W b qs)(n:Nat):Els r W b (qs.take n):=by
 obtain⟨cs,h1,h2⟩:=h;refine⟨cs,h1,fun j hj=>?_⟩;rw[Ag]at hj;obtain⟨x,y,z,u,e0,e1,e2,e3,h3⟩:=h2 j (by omega);exact⟨x,y,z,u,e0,e1,e2,e3,by rw[Jix,if_pos (by omega)];exact h3⟩
theorem Els.at{r:Bool}{W:World}{b:Nat}{qs:List Rat}(h:Els r W b qs){j:Nat}(hj:j<qs.length):
 ∃x y z u,W.cell? ⟨b,j*4,none⟩=some x∧W.cell? ⟨b,j*4+1,none⟩=some y∧W.cell? ⟨b,j*4+2,none⟩=some z∧W.cell? ⟨b,j*4+3,none⟩=some u∧IsK r W (.agg #[x,y,z,u]) (cf qs j):=by
 obtain⟨cs,h1,h2⟩:=h;obtain⟨x,y,z,u,e0,e1,e2,e3,h3⟩:=h2 j hj;exact⟨x,y,z,u,by simp[World.cell?,h1,e0],by simp[World.cell?,h1,e1],by simp[World.cell?,h1,e2],by simp[World.cell?,h1,e3],h3⟩
theorem Els.frozen{r:Bool}{W:World}{b:Nat}{qs:List Rat}(h:Els r W b qs)(o:Nat):W.frozen? ⟨b,o,none⟩=false:=by obtain⟨cs,h1,_⟩:=h;simp[World.frozen?,h1]
def putAt(W:World)(b o:Nat)(x y z u:Value):World:=(((W.setCell ⟨b,o,none⟩ x).setCell ⟨b,o+1,none⟩ y).setCell ⟨b,o+2,none⟩ z).setCell ⟨b,o+3,none⟩ u
theorem JQ{W:World}{b o:Nat}{cs:Array Value}{t:TypeId}{m:Nat × Nat}(h:W.heap[b]?=some (.cells cs t m))(v:Value):(W.setCell ⟨b,o,none⟩ v).heap[b]?=some (.cells (cs.setIfInBounds o v) t m):=by
 obtain⟨hlt,hk⟩:=Ac.1 h;show(W.heap.modify b _)[b]?=_;rw[A7 (by rw[Cx];exact hlt),Ce,hk];simp
theorem Jg2{W:World}{b o:Nat}{cs:Array Value}{t:TypeId}{m:Nat × Nat}(h:W.heap[b]?=some (.cells cs t m))(x y z u:Value):(putAt W b o x y z u).heap[b]?=some (.cells ((((cs.setIfInBounds o x).setIfInBounds (o+1) y).setIfInBounds (o+2) z).setIfInBounds (o+3) u) t m):=
 JQ (JQ (JQ (JQ h x) y) z) u
theorem Jbf{W:World}{b o B:Nat}(hB:B≠b)(x y z u:Value):(putAt W b o x y z u).heap[B]?=W.heap[B]?:=
 (Below.heap_setCell _ _ _ B hB).trans ((Below.heap_setCell _ _ _ B hB).trans ((Below.heap_setCell _ _ _ B hB).trans (Below.heap_setCell _ _ _ B hB)))
theorem Jco{n b o:Nat}{w W:World}(h:Below n w W)(hB:n≤b)(x y z u:Value):Below n w (putAt W b o x y z u):=
 (((h.setCell (p:=⟨b,o,none⟩) hB _).setCell (p:=⟨b,o+1,none⟩) hB _).setCell (p:=⟨b,o+2,none⟩) hB _).setCell (p:=⟨b,o+3,none⟩) hB _
theorem cell_of{W:World}{b o:Nat}{cs:Array Value}{t:TypeId}{m:Nat × Nat}{x:Value}(h:W.heap[b]?=some (.cells cs t m))(e:cs[o]?=some x):W.cell? ⟨b,o,none⟩=some x:=by simp[World.cell?,h,e]
theorem Jmk{W:World}{b o:Nat}{cs:Array Value}{t:TypeId}{m:Nat × Nat}{x0 y0 z0 u0:Value}(h:W.heap[b]?=some (.cells cs t m))(e0:cs[o]?=some x0)(e1:cs[o+1]?=some y0)(e2:cs[o+2]?=some z0)(e3:cs[o+3]?=some u0)
(n0:JA x0=true)(n1:JA y0=true)(n2:JA z0=true)(n3:JA u0=true)(x y z u:Value):∀k v ds,Row k W v ds→Row k (putAt W b o x y z u) v ds:=fun k v ds hr=>by
 have c1:((cs.setIfInBounds o x))[o+1]?=some y0:=by rw[Af (by omega)];exact e1
 have c2:(((cs.setIfInBounds o x).setIfInBounds (o+1) y))[o+2]?=some z0:=by rw[Af (by omega),Af (by omega)];exact e2
 have c3:((((cs.setIfInBounds o x).setIfInBounds (o+1) y).setIfInBounds (o+2) z))[o+3]?=some u0:=by rw[Af (by omega),Af (by omega),Af (by omega)];exact e3
 exact Row.set (Row.set (Row.set (Row.set hr (cell_of h e0) n0 _) (cell_of (JQ h x) c1) n1 _) (cell_of (JQ (JQ h x) y) c2) n2 _) (cell_of (JQ (JQ (JQ h x) y) z) c3) n3 _
theorem Els.putKeep{r:Bool}{W:World}{b:Nat}{qs:List Rat}(h:Els r W b qs){j:Nat}(hj:j<qs.length)(x y z u:Value):∀k v ds,Row k W v ds→Row k (putAt W b (j*4) x y z u) v ds:=by
 obtain⟨cs,h1,h2⟩:=h;obtain⟨x0,y0,z0,u0,e0,e1,e2,e3,h3⟩:=h2 j hj;obtain⟨n0,n1,n2,n3⟩:=h3.no;exact Jmk h1 e0 e1 e2 e3 n0 n1 n2 n3 x y z u
theorem Els.set{r:Bool}{W:World}{b:Nat}{qs:List Rat}(h:Els r W b qs){j:Nat}(hj:j<qs.length){x y z u:Value}{q:Rat}(hv:IsK r W (.agg #[x,y,z,u]) q):Els r (putAt W b (j*4) x y z u) b (qs.set j q):=by
 have hk:=h.putKeep hj x y z u;obtain⟨cs,h1,h2⟩:=h;obtain⟨x0,y0,z0,u0,e0,e1,e2,e3,h3⟩:=h2 j hj;refine⟨_,Jg2 h1 x y z u,fun i hi=>?_⟩;rw[Cs]at hi;have Qb:=(Ac.1 e0).1;have Qd:=(Ac.1 e1).1;have Qa:=(Ac.1 e2).1;have Qc:=(Ac.1 e3).1;by_cases hij:i=j
 · subst hij;refine⟨x,y,z,u,?_,?_,?_,?_,?_⟩
   · rw[Af (by omega),Af (by omega),Af (by omega),Cy Qb]
   · rw[Af (by omega),Af (by omega),Cy (by simpa using Qd)]
   · rw[Af (by omega),Cy (by simpa using Qa)]
   · rw[Cy (by simpa using Qc)]
   · rw[XC _ _ _ _ hj,if_pos rfl];exact hv.keep hk
 · obtain⟨x1,y1,z1,u1,d0,d1,d2,d3,h4⟩:=h2 i hi;refine⟨x1,y1,z1,u1,?_,?_,?_,?_,?_⟩
   · rw[Af (by omega),Af (by omega),Af (by omega),Af (by omega)];exact d0
   · rw[Af (by omega),Af (by omega),Af (by omega),Af (by omega)];exact d1
   · rw[Af (by omega),Af (by omega),Af (by omega),Af (by omega)];exact d2
   · rw[Af (by omega),Af (by omega),Af (by omega),Af (by omega)];exact d3
   · rw[XC _ _ _ _ hj,if_neg hij];exact h4.keep hk
def RowK(r:Bool)(W:World)(v:Value)(qs:List Rat):Prop:=
 ∃a cap,v=.slice a qs.length cap∧qs.length≤cap∧cap≤9223372036854775807∧qs.length≤1099511627776∧(qs=[]∨∃b,a=some ⟨b,0,none⟩∧Els r W b qs)
theorem RowK.below{r:Bool}{W W':World}{v:Value}{qs:List Rat}(h:RowK r W v qs)(hb:Below W.heap.size W W'):RowK r W' v qs:=by
 obtain⟨a,cap,e,h1,h2,h3,h4⟩:=h;refine⟨a,cap,e,h1,h2,h3,?_⟩;rcases h4 with h4|⟨b,ea,h5⟩
 · exact Or.inl h4
 · exact Or.inr ⟨b,ea,h5.below hb⟩
theorem RowK.nil(r:Bool)(W:World):RowK r W (.slice none 0 0) []:=⟨none,0,rfl,Aa _,by omega,by simp,Or.inl rfl⟩
theorem Els.row{r:Bool}{W:World}{b:Nat}{qs:List Rat}(h:Els r W b qs){n cap:Nat}(hn:n≤qs.length)(hc:n≤cap)(hm:cap≤9223372036854775807)(hl:n≤1099511627776):RowK r W (.slice (some ⟨b,0,none⟩) n cap) (qs.take n):=by
 have e:(qs.take n).length=n:=by rw[Ag];omega
 exact⟨_,cap,by rw[e],by omega,hm,by omega,Or.inr ⟨b,rfl,h.take n⟩⟩
theorem RowK.open{r:Bool}{W:World}{v:Value}{qs:List Rat}(h:RowK r W v qs):∃a cap,v=.slice a qs.length cap∧qs.length≤cap∧cap≤9223372036854775807∧qs.length≤1099511627776∧
 Hid (∀j,j<qs.length→∃b,a=some ⟨b,0,none⟩∧Els r W b qs):=by
 obtain⟨a,cap,e,h1,h2,h3,h4⟩:=h;refine⟨a,cap,e,h1,h2,h3,fun j hj=>?_⟩;rcases h4 with h4|⟨b,ea,h5⟩
 · rw[h4]at hj;simp at hj
 · exact⟨b,ea,h5⟩
theorem RowK.take{r:Bool}{W:World}{a:Option Addr}{l cap:Nat}{qs:List Rat}(h:RowK r W (.slice a l cap) qs){n:Nat}(hn:n≤l):RowK r W (.slice a n cap) (qs.take n):=by
 obtain⟨a',cap',e,h1,h2,h3,h4⟩:=h;cases e;have e:(qs.take n).length=n:=by rw[Ag];omega
 refine⟨a,cap,by rw[e],by omega,h2,by omega,?_⟩;rcases h4 with h4|⟨b,ea,h5⟩
 · left;rw[h4];simp
 · exact Or.inr ⟨b,ea,h5.take n⟩
def Ju(W:World)(v:Value)(ps:List Rat):Prop:=∃u,v=.agg #[u]∧RowK true W u ps
theorem Ju.below{W W':World}{v:Value}{ps:List Rat}(h:Ju W v ps)(hb:Below W.heap.size W W'):Ju W' v ps:=by
 obtain⟨u,e,h1⟩:=h;exact⟨u,e,h1.below hb⟩
theorem RowK.form{r:Bool}{W:World}{v:Value}{qs:List Rat}(h:RowK r W v qs):∃a l c,v=.slice a l c:=by
 obtain⟨a,cap,e,_⟩:=h;exact⟨a,_,cap,e⟩
theorem Ju.form{W:World}{v:Value}{ps:List Rat}(h:Ju W v ps):∃a l c,v=.agg #[.slice a l c]:=by
 obtain⟨u,e,h1⟩:=h;obtain⟨a,l,c,rfl⟩:=h1.form;exact⟨a,l,c,e⟩
theorem Ju.row{W:World}{a:Option Addr}{l c:Nat}{ps:List Rat}(h:Ju W (.agg #[.slice a l c]) ps):RowK true W (.slice a l c) ps:=by
 obtain⟨u,e,h1⟩:=h;cases e;exact h1
@[irreducible] def Sqs(qs:List Rat):Prop:=∀i,Sq (cf qs i)
theorem Sqs.at{qs:List Rat}(h:Sqs qs)(i:Nat):Sq (cf qs i):=by unfold Sqs at h;exact h i
theorem Sqs.of{qs:List Rat}(h:∀i,Sq (cf qs i)):Sqs qs:=by unfold Sqs;exact h
def YH(r:Bool)(W:World)(cs:List Value)(qs:List Rat):Prop:=
 cs.length=qs.length*4∧∀j,j<qs.length→∃x y z u,cs[j*4]?=some x∧cs[j*4+1]?=some y∧cs[j*4+2]?=some z∧cs[j*4+3]?=some u∧IsK r W (.agg #[x,y,z,u]) (cf qs j)
theorem YH.nil(r:Bool)(W:World):YH r W [] []:=⟨rfl,fun j hj=>by simp at hj⟩
theorem YH.below{r:Bool}{W W':World}{cs:List Value}{qs:List Rat}(h:YH r W cs qs)(hb:Below W.heap.size W W'):YH r W' cs qs:=by
 refine⟨h.1,fun j hj=>?_⟩;obtain⟨x,y,z,u,e0,e1,e2,e3,h3⟩:=h.2 j hj;exact⟨x,y,z,u,e0,e1,e2,e3,h3.below hb⟩
theorem YH.keep{r:Bool}{W W':World}{cs:List Value}{qs:List Rat}(h:YH r W cs qs)(hk:∀k v ds,Row k W v ds→Row k W' v ds):YH r W' cs qs:=by
 refine⟨h.1,fun j hj=>?_⟩;obtain⟨x,y,z,u,e0,e1,e2,e3,h3⟩:=h.2 j hj;exact⟨x,y,z,u,e0,e1,e2,e3,h3.keep hk⟩
theorem YH.one{r:Bool}{W:World}{cs:List Value}{qs:List Rat}(h:YH r W cs qs):∀v∈cs,v.oneCell'=true:=by
 intro v hv;obtain⟨k,hk,rfl⟩:=List.mem_iff_getElem.1 hv;have hl:=h.1;obtain⟨x,y,z,u,e0,e1,e2,e3,h3⟩:=h.2 (k/4) (by omega);have h4:=h3.one;have hg:cs[k]?=some cs[k]:=Ae hk;have hc:k=k/4*4∨k=k/4*4+1∨k=k/4*4+2∨k=k/4*4+3:=by omega
 rcases hc with hc|hc|hc|hc
 · rw[←hc,hg]at e0;cases e0;exact h4 _ (by simp)
 · rw[←hc,hg]at e1;cases e1;exact h4 _ (by simp)
 · rw[←hc,hg]at e2;cases e2;exact h4 _ (by simp)
 · rw[←hc,hg]at e3;cases e3;exact h4 _ (by simp)
theorem YH.snoc{r:Bool}{W:World}{cs:List Value}{qs:List Rat}(h:YH r W cs qs){x y z u:Value}{q:Rat}(hq:IsK r W (.agg #[x,y,z,u]) q):YH r W (cs++[x,y,z,u]) (qs++[q]):=by
 have hl:=h.1;refine⟨by simp;omega,fun j hj=>?_⟩;rw[Ai,Ff]at hj;by_cases hjl:j<qs.length
 · obtain⟨x',y',z',u',e0,e1,e2,e3,h3⟩:=h.2 j hjl;refine⟨x',y',z',u',?_,?_,?_,?_,?_⟩
   · rw[AL (by omega)];exact e0
   · rw[AL (by omega)];exact e1
   · rw[AL (by omega)];exact e2
   · rw[AL (by omega)];exact e3
   · rw[Jiv,if_neg (by omega)];exact h3
 · have Qa:j=qs.length:=by omega
   subst Qa;refine⟨x,y,z,u,?_,?_,?_,?_,?_⟩
   · rw[AB (by omega),show qs.length*4-cs.length=0 from by omega];rfl
   · rw[AB (by omega),show qs.length*4+1-cs.length=1 from by omega];rfl
   · rw[AB (by omega),show qs.length*4+2-cs.length=2 from by omega];rfl
   · rw[AB (by omega),show qs.length*4+3-cs.length=3 from by omega];rfl
   · rw[Jiv,if_pos rfl];exact hq
theorem Els.cells{r:Bool}{W:World}{b:Nat}{qs:List Rat}(h:Els r W b qs):∃cs,YH r W cs qs∧∀j u,cs[j]?=some u→W.cell? ⟨b,j,none⟩=some u:=by
 obtain⟨ar,h1,h2⟩:=h;have hsz:qs.length*4≤ar.size:=by
  cases hq:qs.length with
  |zero=>omega
  |succ n=>
   obtain⟨x,y,z,u,_,_,_,e3,_⟩:=h2 n (by omega);have:=(Ac.1 e3).1;omega
 refine⟨ar.toList.take (qs.length*4),⟨by rw[Ag];have h0:ar.toList.length=ar.size:=CY;omega,fun j hj=>?_⟩,fun j u e=>?_⟩
 · obtain⟨x,y,z,u,e0,e1,e2,e3,h3⟩:=h2 j hj;refine⟨x,y,z,u,?_,?_,?_,?_,h3⟩
   · rw[AE (by omega),Cm];exact e0
   · rw[AE (by omega),Cm];exact e1
   · rw[AE (by omega),Cm];exact e2
   · rw[AE (by omega),Cm];exact e3
 · rw[Fc]at e;split at e
   · rw[Cm]at e;exact cell_of h1 e
   · cases e
theorem RowK.owns{r:Bool}{W:World}{base:Nat}{v:Value}{n:Nat}{cs:List Value}{qs:List Rat}(h:W.ownsRow base (tyK r) 4 v n cs)(hc:YH r W cs qs)(hl:qs.length≤1099511627776):RowK r W v qs∧n=qs.length∧(v=.slice none 0 0∨∃g cap,v=.slice (some ⟨g,0,none⟩) n cap∧base≤g∧Els r W g qs):=by
 obtain⟨h1,h2⟩:=h;have hn:n=qs.length:=by have:=hc.1;omega
 subst hn;rcases h2 with⟨rfl,h0⟩|⟨g,cap,cur,rfl,hbg,hg,hle,hmax,hsz,htk⟩
 · have:qs=[]:=Ao h0;subst this;exact⟨RowK.nil r W,rfl,Or.inl rfl⟩
 · have hE:Els r W g qs:=by
    refine⟨cur,hg,fun j hj=>?_⟩;obtain⟨x,y,z,u,e0,e1,e2,e3,h3⟩:=hc.2 j hj;rw[←htk]at e0 e1 e2 e3;rw[AE (by omega),Cm]at e0 e1 e2 e3;exact⟨x,y,z,u,e0,e1,e2,e3,h3⟩
   refine⟨⟨_,cap,rfl,hle,by unfold maxLen at hmax;omega,hl,Or.inr ⟨g,rfl,hE⟩⟩,rfl,Or.inr ⟨g,cap,rfl,hbg,hE⟩⟩
attribute [local go_sem] Oper.semAt_some
theorem Jo.alloc{W:World}{v:Value}{z:Int}(h:Jo W v z)(o:Obj):Jo (W.alloc o) v z:=h.below ((Below.refl _ W).alloc (Aa _) o)
theorem Jo.form{W:World}{v:Value}{z:Int}(h:Jo W v z):∃a l cap,v=.agg #[.slice a l cap,.bool (decide (z<0))]:=by
 obtain⟨a,l,cap,e,_⟩:=h;exact⟨a,l,cap,e⟩
theorem Jo.box{W:World}{R:Nat}{t:TypeId}{u0 u1 x0 x1 v:Value}{z:Int}(h:Jo W v z)(q:Jk W R t u0 u1)(n0:JA u0=true)(n1:JA u1=true):Jo ((W.setCell ⟨R,0,none⟩ x0).setCell ⟨R,1,none⟩ x1) v z:=by
 obtain⟨a,l,cap,e,hr⟩:=h;exact⟨a,l,cap,e,Row.set (Row.set hr q.c0 n0 _) (u0:=u1) (q.set0 x0).c1 n1 _⟩
theorem Js5(va vb:Value)(x y:Int)(w:World)(ha:Jo w va x)(hb:Jo w vb y)(hma:szB x≤1000000000)(hmb:szB y≤1000000000):
 Calls Tryz.prog 158 #[va,vb] w fun e w'=>∃u,e=.returned u∧Jo w' u (x-y)∧Below w.heap.size w w':=by
 obtain⟨a,la,ca,rfl⟩:=ha.form;obtain⟨b,lb,cb,rfl⟩:=hb.form;obtain⟨s,hs⟩:=ex (decide (x<0));obtain⟨t,ht⟩:=ex (decide (y<0));rw[hs]at ha ⊢;rw[ht]at hb ⊢;clear hs ht;obtain⟨W0,hW0⟩:=ex (((w.alloc (.cells #[.slice a la ca,.bool s] 47)).alloc (.cells #[.slice b lb cb,.bool t] 47)).alloc (.cells #[.slice none 0 0,.bool false] 47));have Qa:Below w.heap.size w W0:=by rw[←hW0];exact YZ w _ _ _
 have b0:Jk W0 w.heap.size 47 (.slice a la ca) (.bool s):=by rw[←hW0];exact((Jk.new w _ _ _).alloc _).alloc _
 have b1:Jk W0 (w.heap.size+1) 47 (.slice b lb cb) (.bool t):=by
  have h:=(Jk.new (w.alloc (.cells #[.slice a la ca,.bool s] 47)) 47 (.slice b lb cb) (.bool t)).alloc (.cells #[.slice none 0 0,.bool false] 47);rw[World.size_alloc,hW0]at h;exact h
 have bR:Jk W0 (w.heap.size+1+1) 47 (.slice none 0 0) (.bool false):=by
  have h:=Jk.new ((w.alloc (.cells #[.slice a la ca,.bool s] 47)).alloc (.cells #[.slice b lb cb,.bool t] 47)) 47 (.slice none 0 0) (.bool false);rw[World.size_alloc,World.size_alloc,hW0]at h;exact h
 have HN:=Ja (fun(V:World) (h:Below W0.heap.size W0 V)=>Jtu _ y V ((hb.below Qa).below h));have HS:=Ja (fun(V:World) (u:Value) (h:Below W0.heap.size W0 V) (hu:Jo V u (-y))=>Jp5 _ u x (-y) V ((ha.below Qa).below h) hu hma (by unfold szB at *;rw[C9];exact hmb));clear ha hb;go_enter Tryz.func158,Tryz.ntmps158
 go_wp2_with fail
 try rw[hW0]
 clear hW0;have hq:Below W0.heap.size W0 W0.drew:=(Below.refl _ W0).drew;have k0:=b0.c0;have k1:=b0.c1;have k2:=b1.c0;have k3:=b1.c1;have ne2:¬(w.heap.size=w.heap.size+1+1):=by omega
 go_region_held3 (fun w'=>w'.cell? ⟨w.heap.size,0,none⟩=some (.slice a la ca)∧w'.cell? ⟨w.heap.size,1,none⟩=some (.bool s)∧w'.cell? ⟨w.heap.size+1,0,none⟩=some (.slice b lb cb)∧w'.cell? ⟨w.heap.size+1,1,none⟩=some (.bool t)) (refine⟨?_,?_,?_,?_⟩<;>(first|(go_keep;done)|((repeat rw[JF (by omega)]);simp[*];done)))
  (first
   |(go_at_call 126;refine(HN.o _ hq).mono ?_;rintro e w1 ⟨u1,rfl,hu1,hb1⟩;obtain⟨na,nl,nc,rfl⟩:=hu1.form;obtain⟨s1,hs1⟩:=ex (decide (-y<0));rw[hs1]at hu1;rw[hs1];clear hs1;have hq:=Below.then hq hb1;have k0:=(b0.below hq).c0;have k1:=(b0.below hq).c1;have k2:=(b1.below hq).c0;have k3:=(b1.below hq).c1)
   |(go_at_call 108;refine(HS.o _ _ hq hu1).mono ?_;rintro e w2 ⟨u2,rfl,hu2,hb2⟩;obtain⟨sa,sl,sc,rfl⟩:=hu2.form;obtain⟨s2,hs2⟩:=ex (decide (x+-y<0));rw[hs2]at hu2;rw[hs2];clear hs2;have hq:=Below.then hq hb2;have k0:=(b0.below hq).c0;have k1:=(b0.below hq).c1;have k2:=(b1.below hq).c0;have k3:=(b1.below hq).c1;have r0:=(bR.below hq).c0;have r1:=(bR.below hq).c1;have f0:=(bR.below hq).f0;have f1:=(bR.below hq).f1))
 all_goals go_wp2_with fail
 have Qc:=Qa.trans (hq.mono Qa.size);have Qb:=hu2.box (bR.below hq) rfl rfl (x0:=.slice sa sl sc) (x1:=.bool s2);exact bodyPost_ret (v:=.agg #[.slice sa sl sc,.bool s2]) (by simp[results,Tryz.results158,go_sem,r0,r1]) rfl ⟨_,rfl,by rw[Int.sub_eq_add_neg];exact Qb,(Qc.setCell (p:=⟨_,0,none⟩) (by simp only;omega) _).setCell (p:=⟨_,1,none⟩) (by simp only;omega) _⟩
theorem Jkp(va vb:Value)(x y:Int)(w:World)(ha:Jj w va x)(hb:Jj w vb y)(hlx:(Jc B64 x.natAbs).length<1099511627776)(hly:(Jc B64 y.natAbs).length<1099511627776):
 Calls Tryz.prog 88 #[va,vb] w fun e w'=>∃u,e=.returned u∧Jj w' u (x-y)∧Below w.heap.size w w':=by
 obtain⟨a,la,ca,rfl⟩:=ha.form;obtain⟨b,lb,cb,e0,hu⟩:=hb;cases e0;obtain⟨s,hs⟩:=ex (decide (x<0));obtain⟨t,ht⟩:=ex (decide (y<0));rw[hs]at ha ⊢;rw[ht];clear hs;obtain⟨W0,hW0⟩:=ex (((w.alloc (.cells #[.bool s,.slice a la ca] 36)).alloc (.cells #[.bool t,.slice b lb cb] 36)).alloc (.cells #[.bool false,.slice none 0 0] 36));have Qb:Below w.heap.size w W0:=by rw[←hW0];exact YZ w _ _ _
 have b0:Jk W0 w.heap.size 36 (.bool s) (.slice a la ca):=by rw[←hW0];exact((Jk.new w _ _ _).alloc _).alloc _
 have b1:Jk W0 (w.heap.size+1) 36 (.bool t) (.slice b lb cb):=by
  have h:=(Jk.new (w.alloc (.cells #[.bool s,.slice a la ca] 36)) 36 (.bool t) (.slice b lb cb)).alloc (.cells #[.bool false,.slice none 0 0] 36);rw[World.size_alloc,hW0]at h;exact h
 have bR:Jk W0 (w.heap.size+1+1) 36 (.bool false) (.slice none 0 0):=by
  have h:=Jk.new ((w.alloc (.cells #[.bool s,.slice a la ca] 36)).alloc (.cells #[.bool t,.slice b lb cb] 36)) 36 (.bool false) (.slice none 0 0);rw[World.size_alloc,World.size_alloc,hW0]at h;exact h
 have Qa:(if(!t)=true then -(y.natAbs:Int)else y.natAbs)=-y:=by
  rw[←ht];by_cases h:y<0
  · simp only[h,decide_true,Bool.not_true,A6,if_false];omega
  · simp only[h,decide_false,Bool.not_false,if_true];omega
 have HN:=Ja (fun(V:World) (h:Below W0.heap.size W0 V)=>show Calls Tryz.prog 112 #[.bool (!t),.slice b lb cb] V fun e w'=>∃u,e=.returned u∧Jj w' u (-y)∧Below V.heap.size V w' by
  have h1:=Ja8 (!t) (.slice b lb cb) y.natAbs V (UN.below (UN.below hu Qb) h);rw[Qa]at h1;exact h1)
 have HS:=Ja (fun(V:World) (u:Value) (h:Below W0.heap.size W0 V) (hu:Jj V u (-y))=>Jjh _ u x (-y) V ((ha.below Qb).below h) hu hlx (by rw[C9];exact hly));clear ha hu Qa ht;go_enter Tryz.func88,Tryz.ntmps88
 go_wp2_with fail
 try rw[hW0]
 clear hW0;have hq:Below W0.heap.size W0 W0.drew:=(Below.refl _ W0).drew;have k0:=b0.c0;have k1:=b0.c1;have k2:=b1.c0;have k3:=b1.c1;have ne2:¬(w.heap.size=w.heap.size+1+1):=by omega
 go_region_held3 (fun w'=>w'.cell? ⟨w.heap.size,0,none⟩=some (.bool s)∧w'.cell? ⟨w.heap.size,1,none⟩=some (.slice a la ca)∧w'.cell? ⟨w.heap.size+1,0,none⟩=some (.bool t)∧w'.cell? ⟨w.heap.size+1,1,none⟩=some (.slice b lb cb)) (refine⟨?_,?_,?_,?_⟩<;>(first|(go_keep;done)|((repeat rw[JF (by omega)]);simp[*];done)))
  (first
   |(go_at_call 112;refine(HN.o _ hq).mono ?_;rintro e w1 ⟨u1,rfl,hu1,hb1⟩;obtain⟨na,nl,nc,rfl⟩:=hu1.form;obtain⟨s1,hs1⟩:=ex (decide (-y<0));rw[hs1]at hu1;rw[hs1];clear hs1;have hq:=Below.then hq hb1;have k0:=(b0.below hq).c0;have k1:=(b0.below hq).c1;have k2:=(b1.below hq).c0;have k3:=(b1.below hq).c1)
   |(go_at_call 81;refine(HS.o _ _ hq hu1).mono ?_;rintro e w2 ⟨u2,rfl,hu2,hb2⟩;obtain⟨sa,sl,sc,rfl⟩:=hu2.form;obtain⟨s2,hs2⟩:=ex (decide (x+-y<0));rw[hs2]at hu2;rw[hs2];clear hs2;have hq:=Below.then hq hb2;have k0:=(b0.below hq).c0;have k1:=(b0.below hq).c1;have k2:=(b1.below hq).c0;have k3:=(b1.below hq).c1;have r0:=(bR.below hq).c0;have r1:=(bR.below hq).c1;have f0:=(bR.below hq).f0;have f1:=(bR.below hq).f1))
 all_goals go_wp2_with fail
 have Qd:=Qb.trans (hq.mono Qb.size);have Qc:=hu2.box (bR.below hq) rfl rfl (x0:=.bool s2) (x1:=.slice sa sl sc);exact bodyPost_ret (v:=.agg #[.bool s2,.slice sa sl sc]) (by simp[results,Tryz.results88,go_sem,r0,r1]) rfl ⟨_,rfl,by rw[Int.sub_eq_add_neg];exact Qc,(Qd.setCell (p:=⟨_,0,none⟩) (by simp only;omega) _).setCell (p:=⟨_,1,none⟩) (by simp only;omega) _⟩
theorem Jqt(a:Option Addr)(la ca:Nat)(b:Option Addr)(lb cb m n:Nat)(w:World)(hlen:la+lb≤1099511627776)
(ra:Row .u64 w (.slice a la ca) (Jc B64 m))(rb:Row .u64 w (.slice b lb cb) (Jc B64 n)):
 Calls Tryz.prog 118 #[.slice a la ca,.slice b lb cb] w fun e w'=>∃u,e=.returned u∧UN w' u (m*n)∧Below w.heap.size w w':=by
 have Qb:=Jbb (la+lb) (by omega) w;rw[show((la+lb:Nat):Int)=(la:Int)+(lb:Int)from by omega]at Qb;obtain⟨W1,hW1⟩:∃W1,W1=w.alloc (.cells (cellsOf .u64 (List.replicate (la+lb) 0)).toArray 163):=⟨_,rfl⟩;have Qa:Below w.heap.size w W1:=by rw[hW1];exact(Below.refl _ w).alloc (Aa _) _
 have Qc:Arr W1 w.heap.size (List.replicate (la+lb) 0):=by rw[hW1];exact Arr.made (World.alloc_heap_new w _)
 rw[←hW1]at Qb;have HP:=Ja (Jom w.heap.size (la+lb) (la+lb) (List.replicate (la+lb) 0) a la ca b lb cb m n W1 Qc (fun x hx=>by rw[Cw hx];unfold B64;omega) (by rw[At];exact Aa _) (Aa _) (by omega) hlen (Row.below ra Qa) (Row.below rb Qa)
  (fun p e h0=>by have:=Jdt ra e h0;omega) (fun p e h0=>by have:=Jdt rb e h0;omega))
 have hl1:=(Jp ra).2.1;have hl2:=(Jp ra).2.2.1;have hl3:=(Jp rb).2.1;have hl4:=(Jp rb).2.2.1;clear hW1 Qc ra rb;go_enter Tryz.func118,Tryz.ntmps118
 go_wp2_with(go_at_call 153;refine HP.o.mono ?_;rintro e w5 ⟨u,rfl,⟨hu,hg5⟩,_,_⟩;obtain⟨ua,uc,rfl⟩:=UN.form hu)
 go_ret;exact⟨_,rfl,hu,below_grown Qa hg5 (Aa _)⟩
theorem Y6(va vb:Value)(x y:Int)(w:World)(ha:Jj w va x)(hb:Jj w vb y)(hl:(Jc B64 x.natAbs).length+(Jc B64 y.natAbs).length≤1099511627776):
 Calls Tryz.prog 85 #[va,vb] w fun e w'=>∃u,e=.returned u∧Jj w' u (x*y)∧Below w.heap.size w w':=by
 obtain⟨a,la,ca,e0,hu⟩:=ha;cases e0;obtain⟨b,lb,cb,e0,hv⟩:=hb;cases e0;have Qd:=hu.len;have Qf:=hv.len;obtain⟨s,hs⟩:=ex (decide (x<0));obtain⟨t,ht⟩:=ex (decide (y<0));have Qc:(if(!(s==t))=true then -((x.natAbs*y.natAbs:Nat):Int)else((x.natAbs*y.natAbs:Nat):Int))=x*y:=by
  rw[←hs,←ht,←Int.natAbs_mul];rcases Fh x 0 with hx|hx|hx<;>rcases Fh y 0 with hy|hy|hy
  · have:=Int.mul_pos_of_neg_of_neg hx hy;simp[hx,hy];omega
  · subst hy;simp
  · have:=Int.mul_neg_of_neg_of_pos hx hy;have h1:¬y<0:=by omega
    simp[hx,h1];omega
  · subst hx;simp
  · subst hx;simp
  · subst hx;simp
  · have:=Int.mul_neg_of_pos_of_neg hx hy;have h1:¬x<0:=by omega
    simp[hy,h1];omega
  · subst hy;simp
  · have:=Int.mul_pos hx hy;have h1:¬x<0:=by omega
    have h2:¬y<0:=by omega
    simp[h1,h2];omega
 rw[hs,ht];obtain⟨W0,hW0⟩:=ex (((w.alloc (.cells #[.bool s,.slice a la ca] 36)).alloc (.cells #[.bool t,.slice b lb cb] 36)).alloc (.cells #[.bool false,.slice none 0 0] 36));have Qa:Below w.heap.size w W0:=by rw[←hW0];exact YZ w _ _ _
 have b0:Jk W0 w.heap.size 36 (.bool s) (.slice a la ca):=by rw[←hW0];exact((Jk.new w _ _ _).alloc _).alloc _
 have b1:Jk W0 (w.heap.size+1) 36 (.bool t) (.slice b lb cb):=by
  have h:=(Jk.new (w.alloc (.cells #[.bool s,.slice a la ca] 36)) 36 (.bool t) (.slice b lb cb)).alloc (.cells #[.bool false,.slice none 0 0] 36);rw[World.size_alloc,hW0]at h;exact h
 have bR:Jk W0 (w.heap.size+1+1) 36 (.bool false) (.slice none 0 0):=by
  have h:=Jk.new ((w.alloc (.cells #[.bool s,.slice a la ca] 36)).alloc (.cells #[.bool t,.slice b lb cb] 36)) 36 (.bool false) (.slice none 0 0);rw[World.size_alloc,World.size_alloc,hW0]at h;exact h
 have HT:=Ja (fun(V:World) (h:Below W0.heap.size W0 V)=>Jqt a la ca b lb cb _ _ V (by omega) (UN.below (UN.below hu Qa) h) (UN.below (UN.below hv Qa) h));have HS:=Ja (fun(V:World) (u:Value) (hu:UN V u (x.natAbs*y.natAbs))=>show Calls Tryz.prog 112 #[.bool (!(s==t)),u] V fun e w'=>∃u,e=.returned u∧Jj w' u (x*y)∧Below V.heap.size V w' by
  have h1:=Ja8 (!(s==t)) u _ V hu;rw[Qc]at h1;exact h1)
 clear hu hv Qc hs ht Qd Qf hl;go_enter Tryz.func85,Tryz.ntmps85
 go_wp2_with fail
 try rw[hW0]
 clear hW0;have hq:Below W0.heap.size W0 W0.drew:=(Below.refl _ W0).drew;have k0:=b0.c0;have k1:=b0.c1;have k2:=b1.c0;have k3:=b1.c1;have ne2:¬(w.heap.size=w.heap.size+1+1):=by omega
 go_region_held3 (fun w'=>w'.cell? ⟨w.heap.size,0,none⟩=some (.bool s)∧w'.cell? ⟨w.heap.size,1,none⟩=some (.slice a la ca)∧w'.cell? ⟨w.heap.size+1,0,none⟩=some (.bool t)∧w'.cell? ⟨w.heap.size+1,1,none⟩=some (.slice b lb cb)) (refine⟨?_,?_,?_,?_⟩<;>(first|(go_keep;done)|((repeat rw[JF (by omega)]);simp[*];done)))
  (first
   |(go_at_call 118;refine(HT.o _ hq).mono ?_;rintro e w1 ⟨u1,rfl,hu1,hb1⟩;obtain⟨na,nc,rfl⟩:=UN.form hu1;have hq:=Below.then hq hb1;have k0:=(b0.below hq).c0;have k1:=(b0.below hq).c1;have k2:=(b1.below hq).c0;have k3:=(b1.below hq).c1)
   |(go_at_call 112;refine(HS.o _ _ hu1).mono ?_;rintro e w2 ⟨u2,rfl,hu2,hb2⟩;obtain⟨sa,sl,sc,rfl⟩:=hu2.form;obtain⟨s2,hs2⟩:=ex (decide (x*y<0));rw[hs2]at hu2;rw[hs2];clear hs2;have hq:=Below.then hq hb2;have k0:=(b0.below hq).c0;have k1:=(b0.below hq).c1;have k2:=(b1.below hq).c0;have k3:=(b1.below hq).c1;have r0:=(bR.below hq).c0;have r1:=(bR.below hq).c1;have f0:=(bR.below hq).f0;have f1:=(bR.below hq).f1))
 all_goals go_wp2_with fail
 have Qe:=Qa.trans (hq.mono Qa.size);have Qb:=hu2.box (bR.below hq) rfl rfl (x0:=.bool s2) (x1:=.slice sa sl sc);exact bodyPost_ret (v:=.agg #[.bool s2,.slice sa sl sc]) (by simp[results,Tryz.results85,go_sem,r0,r1]) rfl ⟨_,rfl,Qb,(Qe.setCell (p:=⟨_,0,none⟩) (by simp only;omega) _).setCell (p:=⟨_,1,none⟩) (by simp only;omega) _⟩
end Go.Proofs.YtcahejkcdcjjgaaGreatDoor
namespace Go.Proofs.YtcahejkcdcjjgaaGreatDoor.M3
open Go.RowKit Go.Shelf
inductive Dat
 |int(z:Int)
 |rat(q:Rat)
 |big(z:Int)
 |ref(q:Rat)
 |zref
 |pair(x y:Int)
 |rats(qs:List Rat)
 |poly(ps:List Rat)
 |cell(t:TypeId)(v:Value)
def Dat.ty:Dat→TypeId
 |.int _=>36
 |.rat _=>38
 |.big _=>47
 |.ref _=>49
 |.zref=>49
 |.pair _ _=>38
 |.rats _=>38
 |.poly _=>25
 |.cell t _=>t
def Has(V:World)(v:Value):Dat→Prop
 |.int z=>Jj V v z
 |.rat q=>Ji V v q
 |.big z=>Jo V v z
 |.ref q=>Jq V v q
 |.zref=>v=.agg #[.slice none 0 0,.bool false,.slice none 0 0,.bool false]
 |.pair x y=>Xs V v x y
 |.rats qs=>∃cs,v=.agg cs∧∀j,j<qs.length→∃x y z u,cs[j*4]?=some x∧cs[j*4+1]?=some y∧cs[j*4+2]?=some z∧cs[j*4+3]?=some u∧IsK true V (.agg #[x,y,z,u]) (cf qs j)
 |.poly ps=>Ju V v ps
 |.cell _ x=>v=.agg #[x]∧JA x=true
theorem Has.below{V V':World}{v:Value}{d:Dat}(h:Has V v d)(hb:Below V.heap.size V V'):Has V' v d:=by
 cases d with
 |int z=>exact Jj.below h hb
 |rat q=>exact Ji.below h hb
 |big z=>exact Jo.below h hb
 |ref q=>exact Jq.below h hb
 |zref=>exact h
 |pair x y=>exact Xs.below h hb
 |rats qs=>
  obtain⟨cs,e,h⟩:=h;refine⟨cs,e,fun j hj=>?_⟩;obtain⟨x,y,z,u,e0,e1,e2,e3,h3⟩:=h j hj;exact⟨x,y,z,u,e0,e1,e2,e3,h3.below hb⟩
 |poly ps=>exact Ju.below h hb
 |cell t x=>exact h
theorem Has.alloc{V:World}{v:Value}{d:Dat}(h:Has V v d)(o:Obj):Has (V.alloc o) v d:=h.below ((Below.refl _ V).alloc (Aa _) o)
def Dat.noPoly:Dat→Bool|.poly _=>false|_=>true
theorem Has.keep{V V':World}{v:Value}{d:Dat}(h:Has V v d)(hk:∀k v ds,Row k V v ds→Row k V' v ds)(hp:d.noPoly=true∨∀v qs,RowK true V v qs→RowK true V' v qs):Has V' v d:=by
 cases d with
 |rats qs=>
  obtain⟨cs,e,h⟩:=h;refine⟨cs,e,fun j hj=>?_⟩;obtain⟨x,y,z,u,e0,e1,e2,e3,h3⟩:=h j hj;exact⟨x,y,z,u,e0,e1,e2,e3,h3.keep hk⟩
 |poly ps=>
  rcases hp with hp|hp
  · cases hp
  · obtain⟨u,e,h1⟩:=h;exact⟨u,e,hp _ _ h1⟩
 |cell t x=>exact h
 |zref=>exact h
 |pair x y=>
  obtain⟨s,a,l,c,t,b,k,d,e,⟨a1,l1,c1,e1,h1⟩,⟨a2,l2,c2,e2,h2⟩⟩:=h;exact⟨s,a,l,c,t,b,k,d,e,⟨a1,l1,c1,e1,hk _ _ _ h1⟩,⟨a2,l2,c2,e2,hk _ _ _ h2⟩⟩
 |int z=>obtain⟨a,l,c,e,hr⟩:=h;exact⟨a,l,c,e,hk _ _ _ hr⟩
 |big z=>obtain⟨a,l,c,e,hr⟩:=h;exact⟨a,l,c,e,hk _ _ _ hr⟩
 |rat q=>
  obtain⟨s,a,l,c,t,b,k,d,e,⟨a1,l1,c1,e1,h1⟩,⟨a2,l2,c2,e2,h2⟩⟩:=h;exact⟨s,a,l,c,t,b,k,d,e,⟨a1,l1,c1,e1,hk _ _ _ h1⟩,⟨a2,l2,c2,e2,hk _ _ _ h2⟩⟩
 |ref q=>
  obtain⟨s,a,l,c,t,b,k,d,e,⟨a1,l1,c1,e1,h1⟩,⟨a2,l2,c2,e2,h2⟩⟩:=h;exact⟨s,a,l,c,t,b,k,d,e,⟨a1,l1,c1,e1,hk _ _ _ h1⟩,⟨a2,l2,c2,e2,hk _ _ _ h2⟩⟩
def Bx(V:World)(B:Nat)(t:TypeId)(cs:Array Value):Prop:=V.heap[B]?=some (.cells cs t (0,0))
theorem Bx.lt{V:World}{B:Nat}{t:TypeId}{cs:Array Value}(h:Bx V B t cs):B<V.heap.size:=(Ac.1 h).1
theorem Bx.below{V V':World}{B:Nat}{t:TypeId}{cs:Array Value}(h:Bx V B t cs)(hb:Below V.heap.size V V'):Bx V' B t cs:=(hb.block B h.lt).trans h
theorem Bx.far{V:World}{B:Nat}{t:TypeId}{cs:Array Value}(h:Bx V B t cs){p:Addr}(hp:B≠p.block)(u:Value):Bx (V.setCell p u) B t cs:=(Below.heap_setCell V p u B hp).trans h
def noPoly:List (Option (Nat × Dat))→Bool
 |[]=>true
 |some (_,d)::t=>d.noPoly&&noPoly t
 |Option.none::t=>noPoly t
theorem Jid{bs:List (Option (Nat × Dat))}(h:noPoly bs=true){i:Nat}{x:Nat × Dat}(e:bs[i]?=some (some x)):x.2.noPoly=true:=by
 induction bs generalizing i with
 |nil=>simp at e
 |cons b t ih=>
  cases b with
  |none=>
   cases i with
   |zero=>simp at e
   |succ i=>exact ih h (by simpa using e)
  |some y=>
   rw[noPoly,AD]at h;cases i with
   |zero=>simp at e;rw[←e];exact h.1
   |succ i=>exact ih h.2 (by simpa using e)
def Mem(w V:World)(bs:List (Option (Nat × Dat))):Prop:=
 (∀(i:Nat) B d,bs[i]?=some (some (B,d))→(∃cs,Bx V B d.ty cs∧Has V (.agg cs) d)∧w.heap.size≤B)∧
 (∀(i j:Nat) B d d',bs[i]?=some (some (B,d))→bs[j]?=some (some (B,d'))→i=j)∧Below w.heap.size w V
theorem Mem.nil(w:World):Mem w w []:=⟨fun i B z h=>by simp at h,fun i j B z z' h=>by simp at h,Below.refl _ w⟩
theorem Mem.int{w V:World}{bs:List (Option (Nat × Dat))}(M:Mem w V bs){i B:Nat}{z:Int}(h:bs[i]?=some (some (B,.int z))):∃s a l c,Jk V B 36 (.bool s) (.slice a l c)∧Jj V (.agg #[.bool s,.slice a l c]) z:=by
 obtain⟨⟨cs,h1,h2⟩,_⟩:=M.1 i B _ h;obtain⟨a,l,c,e,hu⟩:=h2;cases e;exact⟨_,a,l,c,h1,a,l,c,rfl,hu⟩
theorem Mem.big{w V:World}{bs:List (Option (Nat × Dat))}(M:Mem w V bs){i B:Nat}{z:Int}(h:bs[i]?=some (some (B,.big z))):∃a l c s,Jk V B 47 (.slice a l c) (.bool s)∧Jo V (.agg #[.slice a l c,.bool s]) z:=by
 obtain⟨⟨cs,h1,h2⟩,_⟩:=M.1 i B _ h;obtain⟨a,l,c,e,hu⟩:=h2;cases e;exact⟨a,l,c,_,h1,a,l,c,rfl,hu⟩
theorem Mem.rat{w V:World}{bs:List (Option (Nat × Dat))}(M:Mem w V bs){i B:Nat}{q:Rat}(h:bs[i]?=some (some (B,.rat q))):
 ∃s a l c t b k d,JH V B 38 (.bool s) (.slice a l c) (.bool t) (.slice b k d)∧Ji V (.agg #[.bool s,.slice a l c,.bool t,.slice b k d]) q∧Jj V (.agg #[.bool s,.slice a l c]) q.num∧Jj V (.agg #[.bool t,.slice b k d]) (denZ q):=by
 obtain⟨⟨cs,h1,h2⟩,_⟩:=M.1 i B _ h;have h3:=h2;obtain⟨s,a,l,c,t,b,k,d,e,g1,g2⟩:=h2;cases e;exact⟨s,a,l,c,t,b,k,d,h1,h3,g1,g2⟩
theorem Mem.pair{w V:World}{bs:List (Option (Nat × Dat))}(M:Mem w V bs){i B:Nat}{x y:Int}(h:bs[i]?=some (some (B,.pair x y))):
 ∃s a l c t b k d,JH V B 38 (.bool s) (.slice a l c) (.bool t) (.slice b k d)∧Xs V (.agg #[.bool s,.slice a l c,.bool t,.slice b k d]) x y∧Jj V (.agg #[.bool s,.slice a l c]) x∧Jj V (.agg #[.bool t,.slice b k d]) y:=by
 obtain⟨⟨cs,h1,h2⟩,_⟩:=M.1 i B _ h;have h3:=h2;obtain⟨s,a,l,c,t,b,k,d,e,g1,g2⟩:=h2;cases e;exact⟨s,a,l,c,t,b,k,d,h1,h3,g1,g2⟩
theorem Mem.ref{w V:World}{bs:List (Option (Nat × Dat))}(M:Mem w V bs){i B:Nat}{q:Rat}(h:bs[i]?=some (some (B,.ref q))):
 ∃a l c s b k d t,JH V B 49 (.slice a l c) (.bool s) (.slice b k d) (.bool t)∧Jq V (.agg #[.slice a l c,.bool s,.slice b k d,.bool t]) q∧Jo V (.agg #[.slice a l c,.bool s]) q.num∧Jo V (.agg #[.slice b k d,.bool t]) (q.den:Int):=by
 obtain⟨⟨cs,h1,h2⟩,_⟩:=M.1 i B _ h;have h3:=h2;obtain⟨s,a,l,c,t,b,k,d,e,g1,g2⟩:=h2;cases e;exact⟨s,a,l,c,t,b,k,d,h1,h3,g1,g2⟩
theorem Mem.below{w V V':World}{bs:List (Option (Nat × Dat))}(M:Mem w V bs)(hb:Below V.heap.size V V'):Mem w V' bs:=
 ⟨fun i B z h=>by
  obtain⟨⟨cs,h1,h2⟩,h3⟩:=M.1 i B z h;exact⟨⟨cs,h1.below hb,h2.below hb⟩,h3⟩,M.2.1,M.2.2.trans (hb.mono M.2.2.size)⟩
theorem Mem.drew{w V:World}{bs:List (Option (Nat × Dat))}(M:Mem w V bs):Mem w V.drew bs:=M.below ((Below.refl _ V).drew)
theorem Mem.sub{w V:World}{bs cs:List (Option (Nat × Dat))}(M:Mem w V bs)(f:Nat→Nat)(hf:∀(i j:Nat),f i=f j→i=j)(h:∀(i:Nat) x,cs[i]?=some (some x)→bs[f i]?=some (some x)):Mem w V cs:=
 ⟨fun i B d h1=>M.1 (f i) B d (h i _ h1),fun i j B d d' h1 h2=>hf i j (M.2.1 (f i) (f j) B d d' (h i _ h1) (h j _ h2)),M.2.2⟩
theorem Mem.take{w V:World}{bs:List (Option (Nat × Dat))}(M:Mem w V bs)(n:Nat):Mem w V (bs.take n):=by
 refine M.sub id (fun _ _ h=>h) (fun i x h=>?_);rw[Fc]at h;split at h
 · exact h
 · cases h
theorem Mem.none{w V:World}{bs:List (Option (Nat × Dat))}(M:Mem w V bs):Mem w V (bs++[Option.none]):=by
 refine M.sub id (fun _ _ h=>h) (fun i x h=>?_);by_cases hi:i<bs.length
 · rwa[AL hi]at h
 · rw[AB (by omega)]at h;obtain⟨k,hk⟩:=ex (i-bs.length);rw[hk]at h;cases k<;>simp at h
theorem Mem.fill{w V:World}{bs:List (Option (Nat × Dat))}(M:Mem w V bs){i:Nat}(h:bs[i]?=some Option.none){cs:Array Value}(d:Dat)(hd:Has V (.agg cs) d):
 Mem w (V.alloc (.cells cs d.ty)) (bs.set i (some (V.heap.size,d))):=by
 have Qb:Below V.heap.size V (V.alloc (.cells cs d.ty)):=(Below.refl _ V).alloc (Aa _) _;have Qa:i<bs.length:=(Ad.1 h).1;have M2:=M.below Qb;have Qc:∀(j:Nat) B d,bs[j]?=some (some (B,d))→B<V.heap.size:=fun j B d h=>by
  obtain⟨⟨_,h1,_⟩,_⟩:=M.1 j B d h;exact h1.lt
 refine⟨fun j B d' hj=>?_,fun j k B d1 d2 h1 h2=>?_,M2.2.2⟩
 · by_cases hij:i=j
   · subst hij;rw[AY Qa]at hj;simp at hj;obtain⟨rfl,rfl⟩:=hj;exact⟨⟨cs,World.alloc_heap_new V _,hd.below Qb⟩,M.2.2.size⟩
   · rw[AO hij]at hj;exact M2.1 j B d' hj
 · by_cases hij:i=j<;>by_cases hik:i=k
   · omega
   · subst hij;rw[AY Qa]at h1;rw[AO hik]at h2;simp at h1;have:=Qc k B d2 h2;omega
   · subst hik;rw[AY Qa]at h2;rw[AO hij]at h1;simp at h2;have:=Qc j B d1 h1;omega
   · rw[AO hij]at h1;rw[AO hik]at h2;exact M.2.1 j k B d1 d2 h1 h2
theorem Mem.push{w V:World}{bs:List (Option (Nat × Dat))}(M:Mem w V bs){cs:Array Value}(d:Dat)(hd:Has V (.agg cs) d):Mem w (V.alloc (.cells cs d.ty)) (bs++[some (V.heap.size,d)]):=by
 have h:=M.none.fill (i:=bs.length) (by simp) d hd;rwa[Jnl]at h
theorem Mem.repl{w V V':World}{bs:List (Option (Nat × Dat))}(M:Mem w V bs){i B:Nat}{d:Dat}(h:bs[i]?=some (some (B,d))){cs:Array Value}(d':Dat)(hc:Bx V' B d'.ty cs)(hd:Has V (.agg cs) d')
(hk:∀k v ds,Row k V v ds→Row k V' v ds)(hf:∀B' t cs,B'≠B→Bx V B' t cs→Bx V' B' t cs)(hB:Below w.heap.size w V')
(hp:noPoly bs=true∨∀v qs,RowK true V v qs→RowK true V' v qs)(hp':d'.noPoly=true∨∀v qs,RowK true V v qs→RowK true V' v qs):Mem w V' (bs.set i (some (B,d'))):=by
 have Qb:i<bs.length:=(Ad.1 h).1;obtain⟨_,hw⟩:=M.1 i B d h;refine⟨fun j B' d1 hj=>?_,fun j k B' d1 d2 h1 h2=>?_,hB⟩
 · by_cases hij:i=j
   · subst hij;rw[AY Qb]at hj;simp at hj;obtain⟨rfl,rfl⟩:=hj;exact⟨⟨cs,hc,hd.keep hk hp'⟩,hw⟩
   · rw[AO hij]at hj;obtain⟨⟨cs1,g1,g2⟩,hw1⟩:=M.1 j B' d1 hj;have Qc:B'≠B:=fun e=>hij (by rw[e]at hj;exact M.2.1 i j B d d1 h hj);exact⟨⟨cs1,hf _ _ _ Qc g1,g2.keep hk (hp.imp (fun h=>Jid h hj) id)⟩,hw1⟩
 · have Qa:∀(j:Nat) d1,(bs.set i (some (B,d')))[j]?=some (some (B',d1))→∃d3,bs[j]?=some (some (B',d3)):=fun j d1 hj=>by
    by_cases hij:i=j
    · subst hij;rw[AY Qb]at hj;simp at hj;exact⟨d,by rw[h,hj.1]⟩
    · rw[AO hij]at hj;exact⟨d1,hj⟩
   obtain⟨d3,g1⟩:=Qa j d1 h1;obtain⟨d4,g2⟩:=Qa k d2 h2;exact M.2.1 j k B' d3 d4 g1 g2
theorem Jg3{V:World}{B:Nat}{t:TypeId}{cs:Array Value}(h:Bx V B t cs){o:Nat}{x0:Value}(e:cs[o]?=some x0)(n0:JA x0=true)(r:Bool)(ht:t≠tyK r)(x:Value)(v:Value)(qs:List Rat)(hr:RowK r V v qs):RowK r (V.setCell ⟨B,o,Option.none⟩ x) v qs:=by
 obtain⟨a,cap,ev,h1,h2,h3,h4⟩:=hr;refine⟨a,cap,ev,h1,h2,h3,?_⟩;rcases h4 with h4|⟨b,ea,h5⟩
 · exact Or.inl h4
 · refine Or.inr ⟨b,ea,h5.keep (Below.heap_setCell V ⟨B,o,Option.none⟩ x b ?_) (fun _ _ _ hr=>Row.set hr (cell_of h e) n0 _)⟩;rintro rfl;obtain⟨cs',g1,_⟩:=h5;rw[show V.heap[b]?=_ from h]at g1;cases g1;exact ht rfl
theorem Jtx{V:World}{B:Nat}{t:TypeId}{x0 y0:Value}(q:Jk V B t x0 y0){r:Bool}(ht:t≠tyK r)(n0:JA x0=true)(n1:JA y0=true)(x y:Value):∀v qs,RowK r V v qs→RowK r ((V.setCell ⟨B,0,Option.none⟩ x).setCell ⟨B,1,Option.none⟩ y) v qs:=
 fun v qs h=>Jg3 (cs:=#[x,y0]) (q.set0 x) (o:=1) rfl n1 r ht y v qs (Jg3 (cs:=#[x0,y0]) q (o:=0) rfl n0 r ht x v qs h)
theorem keep2{V:World}{B:Nat}{t:TypeId}{x y:Value}(q:Jk V B t x y)(n0:JA x=true)(n1:JA y=true)(x' y':Value):∀k v ds,Row k V v ds→Row k ((V.setCell ⟨B,0,Option.none⟩ x').setCell ⟨B,1,Option.none⟩ y') v ds:=
 fun _ _ _ h=>Row.set (Row.set h q.c0 n0 _) (q.set0 x').c1 n1 _
theorem Mem.putInt{w V:World}{bs:List (Option (Nat × Dat))}(M:Mem w V bs){i B:Nat}{z0:Int}(h:bs[i]?=some (some (B,.int z0))){x y:Value}{z:Int}(hi:Jj V (.agg #[x,y]) z):
 Mem w ((V.setCell ⟨B,0,Option.none⟩ x).setCell ⟨B,1,Option.none⟩ y) (bs.set i (some (B,.int z))):=by
 obtain⟨s,a,l,c,hb,_⟩:=M.int h;obtain⟨_,hw⟩:=M.1 i B _ h;exact M.repl h (.int z) (cs:=#[x,y]) ((hb.set0 x).set1 y) hi (keep2 hb rfl rfl x y) (fun B' t cs hne g=>(g.far (p:=⟨B,0,Option.none⟩) hne _).far (p:=⟨B,1,Option.none⟩) hne _) ((M.2.2.setCell (p:=⟨B,0,Option.none⟩) hw _).setCell (p:=⟨B,1,Option.none⟩) hw _) (Or.inr (Jtx hb (by decide) rfl rfl x y)) (Or.inl rfl)
theorem Mem.putBig{w V:World}{bs:List (Option (Nat × Dat))}(M:Mem w V bs){i B:Nat}{z0:Int}(h:bs[i]?=some (some (B,.big z0))){x y:Value}{z:Int}(hi:Jo V (.agg #[x,y]) z):
 Mem w ((V.setCell ⟨B,0,Option.none⟩ x).setCell ⟨B,1,Option.none⟩ y) (bs.set i (some (B,.big z))):=by
 obtain⟨a,l,c,s,hb,_⟩:=M.big h;obtain⟨_,hw⟩:=M.1 i B _ h;exact M.repl h (.big z) (cs:=#[x,y]) ((hb.set0 x).set1 y) hi (keep2 hb rfl rfl x y) (fun B' t cs hne g=>(g.far (p:=⟨B,0,Option.none⟩) hne _).far (p:=⟨B,1,Option.none⟩) hne _) ((M.2.2.setCell (p:=⟨B,0,Option.none⟩) hw _).setCell (p:=⟨B,1,Option.none⟩) hw _) (Or.inr (Jtx hb (by decide) rfl rfl x y)) (Or.inl rfl)
theorem far4{V:World}{B:Nat}(x y z u:Value):∀B' t cs,B'≠B→Bx V B' t cs→Bx (put4 V B x y z u) B' t cs:=fun _ _ _ hne g=>(((g.far (p:=⟨B,0,Option.none⟩) hne _).far (p:=⟨B,1,Option.none⟩) hne _).far (p:=⟨B,2,Option.none⟩) hne _).far (p:=⟨B,3,Option.none⟩) hne _
theorem Mem.putRat{w V:World}{bs:List (Option (Nat × Dat))}(M:Mem w V bs){i B:Nat}{q0:Rat}(h:bs[i]?=some (some (B,.rat q0))){x y z u:Value}{q:Rat}(hi:Ji V (.agg #[x,y,z,u]) q)(np:noPoly bs=true:=by rfl):
 Mem w (put4 V B x y z u) (bs.set i (some (B,.rat q))):=by
 obtain⟨_,_,_,_,_,_,_,_,hb,_⟩:=M.rat h;obtain⟨_,hw⟩:=M.1 i B _ h;exact M.repl h (.rat q) (cs:=#[x,y,z,u]) (hb.put x y z u) hi (fun _ _ _ g=>Row.put4 g hb rfl rfl rfl rfl _ _ _ _) (far4 x y z u) (Jt M.2.2 hw _ _ _ _) (Or.inl np) (Or.inl rfl)
theorem Mem.zref{w V:World}{bs:List (Option (Nat × Dat))}(M:Mem w V bs){i B:Nat}(h:bs[i]?=some (some (B,.zref))):JH V B 49 (.slice Option.none 0 0) (.bool false) (.slice Option.none 0 0) (.bool false):=by
 obtain⟨⟨cs,h1,h2⟩,_⟩:=M.1 i B _ h;cases(show Value.agg cs=_ from h2);exact h1
theorem Has.set2{V:World}{v:Value}{d:Dat}(h:Has V v d){B:Nat}{t:TypeId}{x y:Value}(q:Jk V B t x y)(n0:JA x=true)(n1:JA y=true)(x' y':Value)(ht:d.noPoly=true:=by rfl):Has ((V.setCell ⟨B,0,Option.none⟩ x').setCell ⟨B,1,Option.none⟩ y') v d:=h.keep (keep2 q n0 n1 x' y') (Or.inl ht)
theorem Has.put4{V:World}{v:Value}{d:Dat}(h:Has V v d){B:Nat}{t:TypeId}{x y z u:Value}(q:JH V B t x y z u)(n0:JA x=true)(n1:JA y=true)(n2:JA z=true)(n3:JA u=true)(x' y' z' u':Value)(ht:d.noPoly=true:=by rfl):Has (Go.Proofs.YtcahejkcdcjjgaaGreatDoor.put4 V B x' y' z' u') v d:=h.keep (fun _ _ _ g=>Row.put4 g q n0 n1 n2 n3 _ _ _ _) (Or.inl ht)
theorem Mem.ne{w V:World}{bs:List (Option (Nat × Dat))}(M:Mem w V bs)(i j:Nat){B B':Nat}{d d':Dat}(h:bs[i]?=some (some (B,d)))(h':bs[j]?=some (some (B',d')))(hij:i≠j):B≠B':=fun e=>by
 subst e;exact hij (M.2.1 i j B d d' h h')
theorem Mem.ge{w V:World}{bs:List (Option (Nat × Dat))}(M:Mem w V bs)(i:Nat){B:Nat}{d:Dat}(h:bs[i]?=some (some (B,d))):w.heap.size≤B:=(M.1 i B d h).2
def Tup2(V:World)(t:Value)(d1 d2:Dat):Prop:=∃u1 u2,t=.tuple #[u1,u2,.bool true]∧Has V u1 d1∧Has V u2 d2
theorem Tup2.below{V V':World}{t:Value}{d1 d2:Dat}(h:Tup2 V t d1 d2)(hb:Below V.heap.size V V'):Tup2 V' t d1 d2:=by
 obtain⟨u1,u2,e,h1,h2⟩:=h;exact⟨u1,u2,e,h1.below hb,h2.below hb⟩
theorem Tup2.alloc{V:World}{t:Value}{d1 d2:Dat}(h:Tup2 V t d1 d2)(o:Obj):Tup2 (V.alloc o) t d1 d2:=by
 obtain⟨u1,u2,e,h1,h2⟩:=h;exact⟨u1,u2,e,h1.alloc o,h2.alloc o⟩
theorem Tup2.set2{V:World}{v:Value}{d1 d2:Dat}(h:Tup2 V v d1 d2){B:Nat}{t:TypeId}{x y:Value}(q:Jk V B t x y)(n0:JA x=true)(n1:JA y=true)(x' y':Value)(t1:d1.noPoly=true:=by rfl)(t2:d2.noPoly=true:=by rfl):Tup2 ((V.setCell ⟨B,0,Option.none⟩ x').setCell ⟨B,1,Option.none⟩ y') v d1 d2:=by
 obtain⟨u1,u2,e,h1,h2⟩:=h;exact⟨u1,u2,e,h1.set2 q n0 n1 x' y' t1,h2.set2 q n0 n1 x' y' t2⟩
theorem Mem.rats{w V:World}{bs:List (Option (Nat × Dat))}(M:Mem w V bs){i B:Nat}{qs:List Rat}(h:bs[i]?=some (some (B,.rats qs))):Els true V B qs:=by
 obtain⟨⟨cs,h1,h2⟩,_⟩:=M.1 i B _ h;obtain⟨cs',e,h2⟩:=h2;cases e;exact⟨cs,h1,h2⟩
theorem Mem.putRats{w V:World}{bs:List (Option (Nat × Dat))}(M:Mem w V bs){i B:Nat}{qs:List Rat}(h:bs[i]?=some (some (B,.rats qs))){j:Nat}(hj:j<qs.length){x y z u:Value}{q:Rat}(hi:Ji V (.agg #[x,y,z,u]) q)(np:noPoly bs=true:=by rfl):
 Mem w (putAt V B (j*4) x y z u) (bs.set i (some (B,.rats (qs.set j q)))):=by
 have hb:=M.rats h;obtain⟨_,hw⟩:=M.1 i B _ h;obtain⟨cs,c1,c2⟩:=Els.set (r:=true) hb hj hi;have hk:=hb.putKeep hj x y z u;have Qb:i<bs.length:=(Ad.1 h).1;refine⟨fun j' B' d1 hj'=>?_,fun j' k B' d1 d2 h1 h2=>?_,Jco M.2.2 hw _ _ _ _⟩
 · by_cases hij:i=j'
   · subst hij;rw[AY Qb]at hj';simp at hj';obtain⟨rfl,rfl⟩:=hj';exact⟨⟨cs,c1,cs,rfl,c2⟩,hw⟩
   · rw[AO hij]at hj';obtain⟨⟨cs1,g1,g2⟩,hw1⟩:=M.1 j' B' d1 hj';have Qc:B'≠B:=fun e=>hij (by rw[e]at hj';exact M.2.1 i j' B _ d1 h hj');exact⟨⟨cs1,(Jbf Qc x y z u).trans g1,g2.keep hk (Or.inl (Jid np hj'))⟩,hw1⟩
 · have Qa:∀(j':Nat) d1,(bs.set i (some (B,.rats (qs.set j q))))[j']?=some (some (B',d1))→∃d3,bs[j']?=some (some (B',d3)):=fun j' d1 hj'=>by
    by_cases hij:i=j'
    · subst hij;rw[AY Qb]at hj';simp at hj';exact⟨_,by rw[h,hj'.1]⟩
    · rw[AO hij]at hj';exact⟨d1,hj'⟩
   obtain⟨d3,g1⟩:=Qa j' d1 h1;obtain⟨d4,g2⟩:=Qa k d2 h2;exact M.2.1 j' k B' d3 d4 g1 g2
theorem Mem.cell{w V:World}{bs:List (Option (Nat × Dat))}(M:Mem w V bs){i B:Nat}{t:TypeId}{v:Value}(h:bs[i]?=some (some (B,.cell t v))):Boxed V B t v∧JA v=true:=by
 obtain⟨⟨cs,h1,h2⟩,_⟩:=M.1 i B _ h;obtain⟨e,h2⟩:=h2;cases e;exact⟨h1,h2⟩
theorem Mem.poly{w V:World}{bs:List (Option (Nat × Dat))}(M:Mem w V bs){i B:Nat}{ps:List Rat}(h:bs[i]?=some (some (B,.poly ps))):∃a l c,Boxed V B 25 (.slice a l c)∧RowK true V (.slice a l c) ps:=by
 obtain⟨⟨cs,h1,h2⟩,_⟩:=M.1 i B _ h;obtain⟨a,l,c,e⟩:=Ju.form h2;cases e;exact⟨a,l,c,h1,Ju.row h2⟩
theorem Mem.adopt{w V V':World}{bs:List (Option (Nat × Dat))}(M:Mem w V bs)(hb:Below V.heap.size V V'){g:Nat}(hg:V.heap.size≤g){qs:List Rat}(he:Els true V' g qs):Mem w V' (bs++[some (g,.rats qs)]):=by
 have M2:=M.below hb;have Qb:∀(j:Nat) B d,bs[j]?=some (some (B,d))→B<V.heap.size:=fun j B d h=>by
  obtain⟨⟨_,h1,_⟩,_⟩:=M.1 j B d h;exact h1.lt
 have Qa:∀(j:Nat) x,(bs++[some (g,Dat.rats qs)])[j]?=some (some x)→bs[j]?=some (some x)∨(j=bs.length∧x=(g,.rats qs)):=fun j x h=>by
  by_cases hj:j<bs.length
  · rw[AL hj]at h;exact Or.inl h
  · rw[AB (by omega)]at h;obtain⟨k,hk⟩:=ex (j-bs.length);rw[hk]at h;cases k with
    |zero=>simp at h;exact Or.inr ⟨by omega,h.symm⟩
    |succ k=>simp at h
 refine⟨fun j B d h=>?_,fun j k B d1 d2 h1 h2=>?_,M2.2.2⟩
 · rcases Qa j _ h with h|⟨_,h⟩
   · exact M2.1 j B d h
   · cases h;obtain⟨cs,c1,c2⟩:=he;exact⟨⟨cs,c1,cs,rfl,c2⟩,Aw M.2.2.size hg⟩
 · rcases Qa j _ h1 with h1|⟨e1,h1⟩<;>rcases Qa k _ h2 with h2|⟨e2,h2⟩
   · exact M.2.1 j k B d1 d2 h1 h2
   · cases h2;have:=Qb j _ _ h1;omega
   · cases h1;have:=Qb k _ _ h2;omega
   · omega
end Go.Proofs.YtcahejkcdcjjgaaGreatDoor.M3
namespace Go.Proofs.YtcahejkcdcjjgaaGreatDoor
open Go.RowKit Go.Shelf
def ArI(W:World)(b:Nat)(xs:List Nat):Prop:=∃tl:List Value,W.heap[b]?=some (.cells (cellsOf .i64 xs++tl).toArray 3 (0,0))
theorem ArI.lt{W:World}{b:Nat}{xs:List Nat}(h:ArI W b xs):b<W.heap.size:=by obtain⟨_,h⟩:=h;exact(Ac.1 h).1
theorem ArI.cell{W:World}{b:Nat}{xs:List Nat}(h:ArI W b xs){j:Nat}(hj:j<xs.length):W.cell? ⟨b,j,none⟩=some (.int .i64 (xs[j]?.getD 0:Nat)):=by
 obtain⟨tl,h⟩:=h;have e:(cellsOf .i64 xs++tl)[j]?=some (.int .i64 (xs[j]?.getD 0:Nat)):=by
  rw[AL (by rw[Yc];exact hj)];simp[cellsOf,List.getElem?_eq_getElem hj]
 simp[World.cell?,h,e]
theorem ArI.frozen{W:World}{b:Nat}{xs:List Nat}(h:ArI W b xs)(j:Nat):W.frozen? ⟨b,j,none⟩=false:=by obtain⟨_,h⟩:=h;simp[World.frozen?,h]
theorem ArI.of_block{W W':World}{b:Nat}{xs:List Nat}(h:ArI W b xs)(e:W'.heap[b]?=W.heap[b]?):ArI W' b xs:=by obtain⟨tl,h⟩:=h;exact⟨tl,e.trans h⟩
theorem ArI.kept{W W':World}{row:Option Nat}{b:Nat}{xs:List Nat}(h:ArI W b xs)(hg:W.grownBy W' row)(hne:some b≠row):ArI W' b xs:=h.of_block (hg.block b h.lt hne)
theorem ArI.below{W W':World}{b:Nat}{xs:List Nat}(h:ArI W b xs)(hb:Below W.heap.size W W'):ArI W' b xs:=h.of_block (hb.block b h.lt)
theorem ArI.alloc{W:World}{b:Nat}{xs:List Nat}(h:ArI W b xs)(o:Obj):ArI (W.alloc o) b xs:=h.below ((Below.refl _ W).alloc (Aa _) o)
theorem ArI.set{W:World}{b:Nat}{xs:List Nat}(h:ArI W b xs)(j v:Nat):ArI (W.setCell ⟨b,j,none⟩ (.int .i64 (v:Nat))) b (xs.set j v):=by
 obtain⟨tl,h⟩:=h;obtain⟨hlt,hk⟩:=Ac.1 h;have e:∃tl',(cellsOf .i64 xs++tl).set j (.int .i64 (v:Nat))=cellsOf .i64 (xs.set j v)++tl':=by
  rcases AC j xs.length with hj|hj
  · exact⟨tl,by rw[Fl _ _ (by rw[Yc];exact hj)];simp[cellsOf,List.map_set]⟩
  · exact⟨_,by rw[Cr _ _ (by rw[Yc];exact hj),CI hj]⟩
 obtain⟨tl',e⟩:=e;refine⟨tl',?_⟩;show(W.heap.modify b _)[b]?=_;rw[A7 (by rw[Cx];exact hlt),Ce,hk,←e];simp
theorem ArI.made{W:World}{b:Nat}{xs:List Nat}(h:W.heap[b]?=some (.cells (cellsOf .i64 xs).toArray 3 (0,0))):ArI W b xs:=⟨[],by rw[Cj];exact h⟩
theorem ArI.row{W:World}{b:Nat}{xs:List Nat}(h:ArI W b xs)(off len cap:Nat)(h1:off+len≤xs.length)(h2:len≤cap)(h3:cap≤9223372036854775807)(h4:len≤1099511627776):Row .i64 W (.slice (some ⟨b,off,none⟩) len cap) ((xs.drop off).take len):=by
 have e:((xs.drop off).take len).length=len:=by rw[Ag,AF];omega
 refine⟨_,cap,by rw[e],by omega,h3,by omega,Or.inr ⟨b,off,rfl,(by obtain⟨tl,h⟩:=h;exact⟨_,_,h⟩),fun j hj=>?_⟩⟩;rw[e]at hj;rw[h.cell (by omega),AE hj,CB]
theorem Jhz(n:Nat):madeCells #[.int .i64 0] n=(cellsOf .i64 (List.replicate n 0)).toArray:=by
 apply Array.ext
 · simp[madeCells,cellsOf]
 · intro i h1 h2;simp[madeCells,cellsOf,Nat.mod_one]
theorem Jie(n:Nat)(h:n≤2199023255552)(w:World):(Instr.makeSlice 45 (.int .i64 (n:Int)) (.int .i64 (n:Int))).run Tryz.prog w=.ok (.slice (some ⟨w.heap.size,0,none⟩) n n) (w.alloc (.cells (cellsOf .i64 (List.replicate n 0)).toArray 3)):=by
 rw[←Jhz];exact run_make_row' 45 3 (.int .i64 0) 8 Tryz.underlying45 Tryz.infoInt rfl .i64 .i64 n (by omega) (by omega) w
theorem Jjn(B:Nat):∀(D:List Nat) (j d:Nat),j<D.length→val B (D.set j d)+B^j*D[j]?.getD 0=val B D+B^j*d
 |[],_,_,h=>by cases h
 |x::D,0,d,_=>by simp[val];omega
 |x::D,j+1,d,h=>by
  have ih:=Jjn B D j d (by simpa using h);simp only[List.set_cons_succ,val,Ah,AK];have e:B*val B (D.set j d)+B*(B^j*D[j]?.getD 0)=B*val B D+B*(B^j*d):=by rw[←Av,ih,Av]
  have e1:B^j*B*D[j]?.getD 0=B*(B^j*D[j]?.getD 0):=by rw[As (B^j) B,Au]
  have e2:B^j*B*d=B*(B^j*d):=by rw[As (B^j) B,Au]
  omega
theorem Jif(B n:Nat):val B (List.replicate n 0)=0:=by
 induction n with
 |zero=>rfl
 |succ n ih=>rw[CN,val,ih];simp
theorem Dig.set{B:Nat}{D:List Nat}(h:Dig B D)(j:Nat){d:Nat}(hd:d<B):Dig B (D.set j d):=fun x hx=>by
 rcases List.mem_or_eq_of_mem_set hx with h1|h1
 · exact h x h1
 · rw[h1];exact hd
def Jdl(us bs:List Nat)(i:Nat)(D:List Nat):Prop:=
 D.length=us.length+bs.length+1∧Dig 10000 D∧val 10000 D=val 10000 (us.take i)*val 10000 bs
def Jg4(us bs:List Nat)(i k c:Nat)(D:List Nat):Prop:=
 D.length=us.length+bs.length+1∧Dig 10000 D∧c<10000∧
  val 10000 D+10000^(i+k)*c=val 10000 (us.take i)*val 10000 bs+10000^i*(us[i]?.getD 0*val 10000 (bs.take k))
theorem Jdl.start(us bs:List Nat):Jdl us bs 0 (List.replicate (us.length+bs.length+1) 0):=
 ⟨At,fun x hx=>by rw[Cw hx];omega,by rw[Jif];simp[val]⟩
theorem Jdl.inner{us bs:List Nat}{i:Nat}{D:List Nat}(h:Jdl us bs i D):Jg4 us bs i 0 0 D:=by
 obtain⟨h1,h2,h3⟩:=h;refine⟨h1,h2,by omega,?_⟩;rw[h3];simp[val]
theorem Jg4.total{us bs:List Nat}{i k c:Nat}{D:List Nat}(h:Jg4 us bs i k c D)(hk:bs.length≤k):val 10000 D+10000^(i+k)*c=val 10000 (us.take (i+1))*val 10000 bs:=by
 obtain⟨_,_,_,h4⟩:=h;rw[h4,Ab hk,Jn,AZ,Au]
theorem Jg4.done{us bs:List Nat}{i k:Nat}{D:List Nat}(h:Jg4 us bs i k 0 D)(hk:bs.length≤k):Jdl us bs (i+1) D:=by
 have:=h.total hk;exact⟨h.1,h.2.1,by omega⟩
theorem Jg4.over{us bs:List Nat}{i k c:Nat}{D:List Nat}(h:Jg4 us bs i k c D)(ha:Dig 10000 us)(hb:Dig 10000 bs)(hi:i<us.length)(hk:bs.length<k):c=0:=by
 have h1:=h.total (by omega);have h2:=J7 (ha.take (i+1));have h3:=J7 hb;rw[Ag,Cv (by omega)]at h2;have h4:val 10000 (us.take (i+1))*val 10000 bs<10000^(i+1)*10000^bs.length:=Nat.mul_lt_mul'' h2 h3;rw[←CF]at h4;have h5:10000^(i+1+bs.length)≤10000^(i+k):=Ar (by omega) (by omega);rcases AQ c with h6|h6
 · exact h6
 · have:=Ay (10000^(i+k)) h6;omega
theorem Jg4.step{us bs:List Nat}{i k c:Nat}{D:List Nat}(h:Jg4 us bs i k c D)(ha:Dig 10000 us)(hb:Dig 10000 bs)(hj:i+k<D.length)(c1:Nat)(hc1:c1=c+D[i+k]?.getD 0+us[i]?.getD 0*bs[k]?.getD 0):
 Jg4 us bs i (k+1) (c1/10000) (D.set (i+k) (c1%10000)):=by
 obtain⟨h1,h2,h3,h4⟩:=h;have x1:=ha.getD (by omega) i;have x2:=hb.getD (by omega) k;have x3:=h2.getD (by omega) (i+k);have x4:us[i]?.getD 0*bs[k]?.getD 0≤9999*9999:=Fu (by omega) (by omega);refine⟨by rw[Cs];exact h1,h2.set _ (A4 _ (by omega)),by omega,?_⟩;have h5:=Jjn 10000 D (i+k) (c1%10000) hj;rw[Jn,Av,Av];have e1:10000^(i+(k+1))*(c1/10000)+10000^(i+k)*(c1%10000)=10000^(i+k)*c1:=by
  rw[←CG,AK,Au,←Av,A8]
 have e2:10000^i*(us[i]?.getD 0*(10000^k*bs[k]?.getD 0))=10000^(i+k)*(us[i]?.getD 0*bs[k]?.getD 0):=by
  rw[CF,Au];congr 1;rw[Nat.mul_left_comm]
 rw[hc1,Av,Av]at e1;rw[e2];rw[hc1]at h5 ⊢;omega
theorem Jdl.fin{us bs D:List Nat}{m n:Nat}(h:Jdl us bs us.length D)(ha:us=Jc 10000 m)(hb:bs=Jc 10000 n):Jv D=Jc 10000 (m*n):=by
 obtain⟨_,h2,h3⟩:=h;rw[Ab (Aa _)]at h3;rw[←JW (by omega) h2,h3,ha,hb,Jl (by omega),Jl (by omega)]
theorem Jk.keptG{W W':World}{B:Nat}{t:TypeId}{x y:Value}{g:Nat}(h:Jk W B t x y)(hg:W.grownBy W' (some g))(hne:B≠g):Jk W' B t x y:=
 (hg.block B h.lt (fun e=>hne (by cases e;rfl))).trans h
theorem Jqu{x y:Nat}(hx:x<10000)(hy:y<10000):x*y≤99980001∧IntKind.i64.wrap ((x:Int)*(y:Int))=((x*y:Nat):Int):=by
 have h:x*y≤9999*9999:=Fu (by omega) (by omega);refine⟨by omega,?_⟩;have e:(x:Int)*(y:Int)=((x*y:Nat):Int):=by rw[CW]
 rw[e];generalize x*y=p at *;simp[IntKind.wrap,IntKind.signed,IntKind.bits];omega
theorem Jqv(a b:Option Addr)(la lb ca cb m n:Nat)(s t:Bool)(w:World)(ra:RN w (.slice a la ca) m)(rb:RN w (.slice b lb cb) n)(hla:la≤1000000000)(hlb:lb≤1000000000):
 Calls Tryz.prog 109 #[.agg #[.slice a la ca,.bool s],.agg #[.slice b lb cb,.bool t]] w fun e w'=>∃c lc cc,e=.returned (.agg #[.slice c lc cc,.bool ((s != t)&&decide (0<lc))])∧RN w' (.slice c lc cc) (m*n)∧Below w.heap.size w w':=by
 obtain⟨W0,hW0⟩:=ex (((w.alloc (.cells #[.slice a la ca,.bool s] 47)).alloc (.cells #[.slice b lb cb,.bool t] 47)).alloc (.cells #[.slice none 0 0,.bool false] 47));have Qk:Below w.heap.size w W0:=by rw[←hW0];exact YZ w _ _ _
 have b0:Jk W0 w.heap.size 47 (.slice a la ca) (.bool s):=by rw[←hW0];exact((Jk.new w _ _ _).alloc _).alloc _
 have b1:Jk W0 (w.heap.size+1) 47 (.slice b lb cb) (.bool t):=by
  have h:=(Jk.new (w.alloc (.cells #[.slice a la ca,.bool s] 47)) 47 (.slice b lb cb) (.bool t)).alloc (.cells #[.slice none 0 0,.bool false] 47);rw[World.size_alloc,hW0]at h;exact h
 have bR:Jk W0 (w.heap.size+1+1) 47 (.slice none 0 0) (.bool false):=by
  have h:=Jk.new ((w.alloc (.cells #[.slice a la ca,.bool s] 47)).alloc (.cells #[.slice b lb cb,.bool t] 47)) 47 (.slice none 0 0) (.bool false);rw[World.size_alloc,World.size_alloc,hW0]at h;exact h
 have Ql:W0.heap.size=w.heap.size+3:=by rw[←hW0];simp
 obtain⟨hl1,hc1,hm1,hk1,hf1⟩:=Jp ra;obtain⟨hl2,hc2,hm2,hk2,hf2⟩:=Jp rb;have HF:=Ja (fun D (h:Jdl (Jc 10000 m) (Jc 10000 n) (Jc 10000 m).length D)=>h.fin (m:=m) (n:=n) rfl rfl);have xa:=Jm (B:=10000) (by omega) m;have xb:=Jm (B:=10000) (by omega) n;have Qd:=Jie (la+lb+1) (by omega) W0;rw[show((la+lb+1:Nat):Int)=(la:Int)+(lb:Int)+1 from by omega]at Qd;obtain⟨W1,hW1⟩:=ex (W0.alloc (.cells (cellsOf .i64 (List.replicate (la+lb+1) 0)).toArray 3));rw[hW1]at Qd;obtain⟨g,hg⟩:∃g,g=W0.heap.size:=⟨_,rfl⟩;rw[←hg]at Qd Ql;have Qj:ArI W1 g (List.replicate (la+lb+1) 0):=by rw[←hW1,hg];exact ArI.made (World.alloc_heap_new W0 _)
 have Qb:Below w.heap.size w W1:=by rw[←hW1];exact Qk.alloc Qk.size _
 have q0:Jk W1 w.heap.size 47 (.slice a la ca) (.bool s):=by rw[←hW1];exact b0.alloc _
 have q1:Jk W1 (w.heap.size+1) 47 (.slice b lb cb) (.bool t):=by rw[←hW1];exact b1.alloc _
 have qR:Jk W1 (w.heap.size+1+1) 47 (.slice none 0 0) (.bool false):=by rw[←hW1];exact bR.alloc _
 have k0:=b0.c0;have k1:=b1.c0;have HS:=Ja (Jdl.start (Jc 10000 m) (Jc 10000 n));generalize Jc 10000 m=us at *;generalize Jc 10000 n=vs at *;have H1:=Ja hf1;have H2:=Ja hf2;have Qe:=Ja hl1;have Qc:=Ja hl2;rw[←hl1,←hl2]at HS;have hgw:w.heap.size+2<g:=by omega
 clear Ql;clear hf1 hf2 hl1 hl2 ra rb hW1 hg b0 b1 bR;go_enter Tryz.func109,Tryz.ntmps109
 go_wp2;clear hW0 Qd k0 k1;go_loopw [6] (fun iv wr=>∃(i:Nat) (D:List Nat),iv=.int .i64 i∧i≤la∧Hid (Jdl us vs i D)∧ArI wr g D∧W1.grownBy wr (some g))
  (fun iv _=>la-(intOf iv).toNat)
 case atStart=>exact⟨0,_,rfl,AW _,HS.o,Qj,Yr _ _⟩
 case round=>
  clear HS Qj;obtain⟨i,D,rfl,hi,HD,hA,hG⟩:=hrel;have m0:=(q0.keptG hG (by omega)).c0;have m1:=(q0.keptG hG (by omega)).c1;have m2:=(q1.keptG hG (by omega)).c0;have m3:=(q1.keptG hG (by omega)).c1;by_cases hlt:i<la
  · have HI:=Ja HD.o.inner;clear HD;obtain⟨ab,ao,rfl,hab,hca⟩:=H1.o i hlt;go_wp2;go_loopw [7,8] (fun cv kv wr=>∃(c k:Nat) (D:List Nat),cv=.int .i64 c∧kv=.int .i64 k∧k≤lb+1∧c<10000∧Hid (Jg4 us vs i k c D)∧ArI wr g D∧W1.grownBy wr (some g))
     (fun _ kv _=>lb+2-(intOf kv).toNat)
    case atStart=>exact⟨0,0,D,rfl,rfl,by omega,by omega,HI,hA,hG⟩
    case round=>
     clear HI hA hG m0 m1 m2 m3;obtain⟨c,k,D,rfl,rfl,hk,hc,HK,hA,hG⟩:=hrel;have m0:=(q0.keptG hG (by omega)).c0;have m2:=(q1.keptG hG (by omega)).c0;have Qg:=HK.o.1;rw[←Qe.o,←Qc.o]at Qg;by_cases hkl:k<lb
     · obtain⟨bb,bo,rfl,hbb,hcb⟩:=H2.o k hkl;have hxa:wr.cell? ⟨ab,ao+i,none⟩=some (.int .i64 (us[i]?.getD 0:Nat)):=(World.cell?_of_block (w:=W1) (hG.block ab (by have:=Qb.size;omega) (fun e=>by cases e;omega))).trans ((Qb.cell (p:=⟨ab,ao+i,none⟩) hab).trans hca);have hxb:wr.cell? ⟨bb,bo+k,none⟩=some (.int .i64 (vs[k]?.getD 0:Nat)):=(World.cell?_of_block (w:=W1) (hG.block bb (by have:=Qb.size;omega) (fun e=>by cases e;omega))).trans ((Qb.cell (p:=⟨bb,bo+k,none⟩) hbb).trans hcb);have Qo:wr.cell? ⟨g,i+k,none⟩=some (.int .i64 (D[i+k]?.getD 0:Nat)):=hA.cell (by omega);have Qm:=hA.frozen (i+k);have y1:=xa.getD (by omega) i;have y2:=xb.getD (by omega) k;have y3:=HK.o.2.1.getD (by omega) (i+k);have Qa:=Ja (HK.o.step xa xb (by omega) _ rfl);obtain⟨z1,z2⟩:=Jqu y1 y2;generalize us[i]?.getD 0=x at *;generalize vs[k]?.getD 0=y at *;generalize D[i+k]?.getD 0=d at *;generalize x*y=p at *;clear hca hcb;go_upto_region 11 with fail
       go_quiet (fail)
       go_wp2;have e2:((c:Int)+(d:Int)+(p:Int))%10000=(((c+d+p)%10000:Nat):Int):=by omega
       rw[e2];exact⟨⟨(c+d+p)/10000,k+1,D.set (i+k) ((c+d+p)%10000),by go_num,by simp,by omega,Qa.o.2.2.1,Qa,ArI.set (W:=wr.drewN nq) hA _ _,Jf (B:=wr.drewN nq) ⟨hG.os,hG.tape,hG.output,hG.size,hG.block⟩ (JE _ _ _ _)⟩,by simp[intOf];omega⟩
     · rcases AQ c with hc0|hc0
       · subst hc0;have HN:=Ja (HK.o.done (by rw[←Qc.o];omega));clear HK;go_wp2;exact⟨⟨i+1,D,by simp,by omega,HN,hA,hG⟩,by simp[intOf];omega⟩
       · have hkb:k≤lb:=by
          rcases AC lb k with h|h
          · have:=HK.o.over xa xb (by rw[←Qe.o];exact hlt) (by rw[←Qc.o];exact h);omega
          · exact h
         have Qo:wr.cell? ⟨g,i+k,none⟩=some (.int .i64 (D[i+k]?.getD 0:Nat)):=hA.cell (by omega);have Qm:=hA.frozen (i+k);have y3:=HK.o.2.1.getD (by omega) (i+k);have Qh:vs[k]?.getD 0=0:=by rw[Aq (by rw[←Qc.o];omega)];rfl
         have Qa:=Ja (HK.o.step xa xb (by omega) _ rfl);rw[Qh,Co,Cd]at Qa;clear Qh;generalize D[i+k]?.getD 0=d at *;go_wp2;have e2:((c:Int)+(d:Int))%10000=(((c+d)%10000:Nat):Int):=by omega
         rw[e2];exact⟨⟨(c+d)/10000,k+1,D.set (i+k) ((c+d)%10000),by go_num,by simp,by omega,Qa.o.2.2.1,Qa,ArI.set hA _ _,Jf hG (JE _ _ _ _)⟩,by simp[intOf];omega⟩
  · obtain rfl:i=la:=by omega
    have Qf:Row .i64 wr (.slice (some ⟨g,0,none⟩) (i+lb+1) (i+lb+1)) D:=by
     have Qg:=HD.o.1;rw[←Qe.o,←Qc.o]at Qg;have h1:=hA.row 0 (i+lb+1) (i+lb+1) (by omega) (Aa _) (by omega) (by omega);rwa[Ax,Ab (by omega)]at h1
    have Qn:=Ja (HF.o D (by rw[←Qe.o];exact HD.o));have Qi:Below w.heap.size w wr:=below_grown Qb hG (by omega);have rR:=qR.keptG hG (by omega);have p0:=q0.keptG hG (by omega);have p1:=q1.keptG hG (by omega);clear HD HF H1 H2;go_upto_region 14 with fail
    have hq:Below wr.heap.size wr wr.drew:=(Below.refl _ wr).drew;have ne2:¬(w.heap.size=w.heap.size+1+1):=by omega
    go_region_held3 (fun w'=>w'.cell? ⟨w.heap.size,1,none⟩=some (.bool s)∧w'.cell? ⟨w.heap.size+1,1,none⟩=some (.bool t)) (refine⟨?_,?_⟩<;>(first|(go_keep;done)|((repeat rw[JF (by omega)]);simp[*];done)))
     (first
      |(go_at_call 140;refine(Jl1 _ D _ (Row.below Qf hq)).mono ?_;rintro e w1 ⟨u,rfl,hu,rfl⟩;rw[Qn.o]at hu;obtain⟨a',c',rfl⟩:=RN.form hu)
      |(go_at_call 141;refine(Jdq _ _ _ _ _).mono ?_;rintro e w2 ⟨rfl,hb2⟩;have hu:=Row.below hu hb2;have hq:=Below.then hq hb2;have m1:=(p0.below hq).c1;have m3:=(p1.below hq).c1;have r0:=(rR.below hq).c0;have r1:=(rR.below hq).c1;have f0:=(rR.below hq).f0;have f1:=(rR.below hq).f1))
    all_goals go_wp2_with fail
    obtain⟨hr,hB2⟩:=Yy (.slice a' (Jc 10000 (m*n)).length c') (.bool (!(s==t)&&decide (0<(Jc 10000 (m*n)).length))) (Qi.trans (hq.mono Qi.size)) (by omega) (rR.below hq) rfl rfl hu;exact bodyPost_ret (v:=.agg #[.slice a' (Jc 10000 (m*n)).length c',.bool (!(s==t)&&decide (0<(Jc 10000 (m*n)).length))]) (by simp[results,Tryz.results109,go_sem,r0,r1]) rfl ⟨_,_,_,rfl,hr,hB2⟩
theorem Xt(va vb:Value)(x y:Int)(w:World)(ha:Jo w va x)(hb:Jo w vb y)(hma:szB x≤1000000000)(hmb:szB y≤1000000000):
 Calls Tryz.prog 109 #[va,vb] w fun e w'=>∃u,e=.returned u∧Jo w' u (x*y)∧Below w.heap.size w w':=by
 obtain⟨a,la,ca,rfl,ra⟩:=ha;obtain⟨b,lb,cb,rfl,rb⟩:=hb;have hl1:=(Jp ra).1;have hl2:=(Jp rb).1;unfold szB at hma hmb;refine(Jqv a b la lb ca cb _ _ _ _ w ra rb (by omega) (by omega)).mono ?_;rintro e w' ⟨c,lc,cc,rfl,hr,hB⟩;refine⟨_,rfl,⟨c,lc,cc,?_,?_⟩,hB⟩
 · have hl:=(Jp hr).1;have e1:((decide (x<0) != decide (y<0))&&decide (0<lc))=decide (x*y<0):=by
    rw[Ck];simp only[AD,decide_eq_true_eq];have h0:0<lc↔x.natAbs*y.natAbs≠0:=by
     rw[hl,AH,Ne,JC (by omega)]
    rw[h0];rcases Fh x 0 with hx|hx|hx<;>rcases Fh y 0 with hy|hy|hy
    · have:=Int.mul_pos_of_neg_of_neg hx hy;simp[hx,hy];omega
    · subst hy;simp
    · have:=Int.mul_neg_of_neg_of_pos hx hy;have h1:¬y<0:=by omega
      simp only[hx,h1,decide_true,decide_false,this,iff_true];exact⟨rfl,Fq (by omega) (by omega)⟩
    · subst hx;simp
    · subst hx;simp
    · subst hx;simp
    · have:=Int.mul_neg_of_pos_of_neg hx hy;have h1:¬x<0:=by omega
      simp only[hy,h1,decide_true,decide_false,this,iff_true];exact⟨rfl,Fq (by omega) (by omega)⟩
    · subst hy;simp
    · have:=Int.mul_pos hx hy;have h1:¬x<0:=by omega
      have h2:¬y<0:=by omega
      simp[h1,h2];omega
   rw[e1]
 · rw[Int.natAbs_mul];exact hr
theorem Jfx{n:Int}(h1:-9223372036854775808≤n)(h2:n≤9223372036854775807):szB n≤1000000000:=by
 have h3:(10000:Nat)^5=100000000000000000000:=by decide
 have h4:=JG (B:=10000) (by omega) (n:=n.natAbs) (k:=5) (by omega);unfold szB;omega
theorem J2{P:Program}{ops:Array Oper}{Q:Exit→Act→World→Prop}{i:Nat}{o:Oper}{K:Act→World→Prop}{a:Act}{w:World}(ho:ops[i]?=some o)(hw:Region.wanted o (yielded ops a.tmps)=true)
(h:∀K':Act→World→Prop,(∀a w,K a w→K' a w)→o.wp P a w K' Q):wpOp P ops Q i K a w:=by
 unfold wpOp;rw[ho];simp only[hw,if_true];exact Or.inl (h K (fun _ _ h=>h))
theorem Yb{P:Program}{ops:Array Oper}{Q:Exit→Act→World→Prop}{i:Nat}{o:Oper}{K:Act→World→Prop}{a:Act}{w:World}(ho:ops[i]?=some o)(hw:Region.wanted o (yielded ops a.tmps)=false)
(h:K (a.put o.dst undef) w):wpOp P ops Q i K a w:=by
 unfold wpOp;rw[ho];simp only[hw];exact h
