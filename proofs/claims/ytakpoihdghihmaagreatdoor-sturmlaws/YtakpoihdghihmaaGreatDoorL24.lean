import Derived.Test.YtakpoihdghihmaaGreatDoorL20
import Derived.Test.YtakpoihdghihmaaGreatDoorL15
import Derived.Test.YtakpoihdghihmaaGreatDoorL16
import Derived.Test.YtakpoihdghihmaaGreatDoorL06
import Derived.Lib.SliceRun
import Derived.Deep.OwnRows
import Derived.Test.YtakpoihdghihmaaGreatDoorL04
import Derived.Deep.DeepCutAuto
import Derived.Lib.Strings
set_option maxRecDepth 100000
set_option maxHeartbeats 16000000
namespace Go.Proofs.YtakpoihdghihmaaGreatDoor
open Go.RowKit Go.Shelf
section
attribute [local go_sem] Oper.semAt_some
theorem Jk.form{W:World}{v:Value}{z:Int}(h:Jk W v z):∃a l cap,v=.agg #[.bool (decide (z<0)),.slice a l cap]:=by
 obtain⟨a,l,cap,e,_⟩:=h;exact⟨a,l,cap,e⟩
theorem Jk.alloc{W:World}{v:Value}{z:Int}(h:Jk W v z)(o:Obj):Jk (W.alloc o) v z:=h.below (Ba W o)
theorem Jk.box{W:World}{R:Nat}{t:TypeId}{u0 u1 x0 x1 v:Value}{z:Int}(h:Jk W v z)(q:Jo W R t u0 u1)(n0:JC u0=true)(n1:JC u1=true):Jk ((W.setCell ⟨R,0,none⟩ x0).setCell ⟨R,1,none⟩ x1) v z:=by
 obtain⟨a,l,cap,e,hr⟩:=h;exact⟨a,l,cap,e,Row.set (Row.set hr q.c0 n0 _) (u0:=u1) (q.set0 x0).c1 n1 _⟩
end
def JF(W:World)(B:Nat)(t:TypeId)(x y z u:Value):Prop:=W.heap[B]?=some (.cells #[x,y,z,u] t (0,0))
section
variable {W W':World} {B:Nat} {t:TypeId} {x y z u:Value}
theorem JF.lt(h:JF W B t x y z u):B<W.heap.size:=(Ab.1 h).1
theorem JF.c0(h:JF W B t x y z u):W.cell? ⟨B,0,none⟩=some x:=by simp[World.cell?,show W.heap[B]?=_ from h]
theorem JF.c1(h:JF W B t x y z u):W.cell? ⟨B,1,none⟩=some y:=by simp[World.cell?,show W.heap[B]?=_ from h]
theorem JF.cp(h:JF W B t x y z u):type_of% (And.intro h.c0 h.c1):=⟨h.c0,h.c1⟩
theorem JF.c2(h:JF W B t x y z u):W.cell? ⟨B,2,none⟩=some z:=by simp[World.cell?,show W.heap[B]?=_ from h]
theorem JF.c3(h:JF W B t x y z u):W.cell? ⟨B,3,none⟩=some u:=by simp[World.cell?,show W.heap[B]?=_ from h]
theorem JF.cq(h:JF W B t x y z u):type_of% (And.intro h.c0 (And.intro h.c1 (And.intro h.c2 h.c3))):=⟨h.c0,h.c1,h.c2,h.c3⟩
theorem JF.f0(h:JF W B t x y z u):W.frozen? ⟨B,0,none⟩=false:=by simp[World.frozen?,show W.heap[B]?=_ from h]
theorem JF.f1(h:JF W B t x y z u):W.frozen? ⟨B,1,none⟩=false:=by simp[World.frozen?,show W.heap[B]?=_ from h]
theorem JF.fp(h:JF W B t x y z u):type_of% (And.intro h.f0 h.f1):=⟨h.f0,h.f1⟩
theorem JF.f2(h:JF W B t x y z u):W.frozen? ⟨B,2,none⟩=false:=by simp[World.frozen?,show W.heap[B]?=_ from h]
theorem JF.f3(h:JF W B t x y z u):W.frozen? ⟨B,3,none⟩=false:=by simp[World.frozen?,show W.heap[B]?=_ from h]
theorem JF.fq(h:JF W B t x y z u):type_of% (And.intro h.f0 (And.intro h.f1 (And.intro h.f2 h.f3))):=⟨h.f0,h.f1,h.f2,h.f3⟩
theorem JF.new(W:World)(t:TypeId)(x y z u:Value):JF (W.alloc (.cells #[x,y,z,u] t)) W.heap.size t x y z u:=BF W _
theorem JF.below(h:JF W B t x y z u)(hb:Bl W W'):JF W' B t x y z u:=(hb.block B h.lt).trans h
theorem JF.alloc(h:JF W B t x y z u)(o:Obj):JF (W.alloc o) B t x y z u:=h.below (Ba W o)
theorem JF.set0(h:JF W B t x y z u)(v:Value):JF (W.setCell ⟨B,0,none⟩ v) B t v y z u:=by
 obtain⟨hlt,hk⟩:=Ab.1 h;show(W.heap.modify B _)[B]?=_;rw[Ca (by rw[CN];exact hlt),Cf,hk];rfl
theorem JF.set1(h:JF W B t x y z u)(v:Value):JF (W.setCell ⟨B,1,none⟩ v) B t x v z u:=by
 obtain⟨hlt,hk⟩:=Ab.1 h;show(W.heap.modify B _)[B]?=_;rw[Ca (by rw[CN];exact hlt),Cf,hk];rfl
theorem JF.set2(h:JF W B t x y z u)(v:Value):JF (W.setCell ⟨B,2,none⟩ v) B t x y v u:=by
 obtain⟨hlt,hk⟩:=Ab.1 h;show(W.heap.modify B _)[B]?=_;rw[Ca (by rw[CN];exact hlt),Cf,hk];rfl
theorem JF.set3(h:JF W B t x y z u)(v:Value):JF (W.setCell ⟨B,3,none⟩ v) B t x y z v:=by
 obtain⟨hlt,hk⟩:=Ab.1 h;show(W.heap.modify B _)[B]?=_;rw[Ca (by rw[CN];exact hlt),Cf,hk];rfl
theorem JF.far(h:JF W B t x y z u){p:Addr}(hp:B≠p.block)(v:Value):JF (W.setCell p v) B t x y z u:=(BC W p v B hp).trans h
end
def put4(W:World)(B:Nat)(x y z u:Value):World:=(((W.setCell ⟨B,0,none⟩ x).setCell ⟨B,1,none⟩ y).setCell ⟨B,2,none⟩ z).setCell ⟨B,3,none⟩ u
theorem JF.put{W:World}{B:Nat}{t:TypeId}{x y z u:Value}(h:JF W B t x y z u)(x' y' z' u':Value):JF (put4 W B x' y' z' u') B t x' y' z' u':=(((h.set0 x').set1 y').set2 z').set3 u'
theorem JF.putFar{W:World}{B C:Nat}{t:TypeId}{x y z u:Value}(h:JF W B t x y z u)(hn:B≠C)(x' y' z' u':Value):JF (put4 W C x' y' z' u') B t x y z u:=(((h.far hn x').far hn y').far hn z').far hn u'
theorem Jr{n B:Nat}{w W:World}(h:Below n w W)(hB:n≤B)(x y z u:Value):Below n w (put4 W B x y z u):=(((h.setCell (p:=⟨B,0,none⟩) hB _).setCell (p:=⟨B,1,none⟩) hB _).setCell (p:=⟨B,2,none⟩) hB _).setCell (p:=⟨B,3,none⟩) hB _
theorem Row.put4{k:IntKind}{W:World}{v:Value}{ds:List Nat}(h:Row k W v ds){B:Nat}{t:TypeId}{x y z u:Value}(q:JF W B t x y z u)(n0:JC x=true)(n1:JC y=true)(n2:JC z=true)(n3:JC u=true)(x' y' z' u':Value):Row k (put4 W B x' y' z' u') v ds:=
 Row.set (Row.set (Row.set (Row.set h q.c0 n0 _) (q.set0 x').c1 n1 _) ((q.set0 x').set1 y').c2 n2 _) (((q.set0 x').set1 y').set2 z').c3 n3 _
theorem Jk.put4{W:World}{v:Value}{i:Int}(h:Jk W v i){B:Nat}{t:TypeId}{x y z u:Value}(q:JF W B t x y z u)(n0:JC x=true)(n1:JC y=true)(n2:JC z=true)(n3:JC u=true)(x' y' z' u':Value):Jk (put4 W B x' y' z' u') v i:=by
 obtain⟨a,l,cap,e,hr⟩:=h;exact⟨a,l,cap,e,Row.put4 hr q n0 n1 n2 n3 _ _ _ _⟩
def Jg(W:World)(v:Value)(q:Rat):Prop:=∃s a l c t b k d,v=.agg #[.bool s,.slice a l c,.bool t,.slice b k d]∧Jk W (.agg #[.bool s,.slice a l c]) q.num∧Jk W (.agg #[.bool t,.slice b k d]) (Dr q)
theorem Jg.below{W W':World}{v:Value}{q:Rat}(h:Jg W v q)(hb:Bl W W'):Jg W' v q:=by
 obtain⟨s,a,l,c,t,b,k,d,e,h1,h2⟩:=h;exact⟨s,a,l,c,t,b,k,d,e,h1.below hb,h2.below hb⟩
theorem Jg.put4{W:World}{v:Value}{p:Rat}(h:Jg W v p){B:Nat}{t:TypeId}{x y z u:Value}(q:JF W B t x y z u)(n0:JC x=true)(n1:JC y=true)(n2:JC z=true)(n3:JC u=true)(x' y' z' u':Value):Jg (put4 W B x' y' z' u') v p:=by
 obtain⟨s,a,l,c,t,b,k,d,e,h1,h2⟩:=h;exact⟨s,a,l,c,t,b,k,d,e,h1.put4 q n0 n1 n2 n3 _ _ _ _,h2.put4 q n0 n1 n2 n3 _ _ _ _⟩
def F9(W:World)(v:Value)(q:Rat):Prop:=∃a l c s b k d t,v=.agg #[.slice a l c,.bool s,.slice b k d,.bool t]∧KE W (.agg #[.slice a l c,.bool s]) q.num∧KE W (.agg #[.slice b k d,.bool t]) (q.den:Int)
theorem F9.below{W W':World}{v:Value}{q:Rat}(h:F9 W v q)(hb:Bl W W'):F9 W' v q:=by
 obtain⟨s,a,l,c,t,b,k,d,e,h1,h2⟩:=h;exact⟨s,a,l,c,t,b,k,d,e,h1.below hb,h2.below hb⟩
section
def IW(W:World)(v:Value)(x y:Int):Prop:=∃s a l c t b k d,v=.agg #[.bool s,.slice a l c,.bool t,.slice b k d]∧Jk W (.agg #[.bool s,.slice a l c]) x∧Jk W (.agg #[.bool t,.slice b k d]) y
theorem Jg.pair{W:World}{v:Value}{q:Rat}(h:Jg W v q):IW W v q.num (Dr q):=h
theorem IW.below{W W':World}{v:Value}{x y:Int}(h:IW W v x y)(hb:Bl W W'):IW W' v x y:=by
 obtain⟨s,a,l,c,t,b,k,d,e,h1,h2⟩:=h;exact⟨s,a,l,c,t,b,k,d,e,h1.below hb,h2.below hb⟩
structure Dat where
 ty:TypeId
 has:World→Value→Prop
 below:∀ {V V':World} {v:Value},has V v→Bl V V'→has V' v
 keep:∀ {V V':World} {v:Value},has V v→(∀k v ds,Row k V v ds→Row k V' v ds)→has V' v
def Dat.int(z:Int):Dat where
 ty:=35
 has V v:=Jk V v z
 below h hb:=Jk.below h hb
 keep h hk:=by
  obtain⟨a,l,c,e,hr⟩:=h;exact⟨a,l,c,e,hk _ _ _ hr⟩
def Dat.rat(q:Rat):Dat where
 ty:=37
 has V v:=Jg V v q
 below h hb:=Jg.below h hb
 keep h hk:=by
  obtain⟨s,a,l,c,t,b,k,d,e,⟨a1,l1,c1,e1,h1⟩,⟨a2,l2,c2,e2,h2⟩⟩:=h;exact⟨s,a,l,c,t,b,k,d,e,⟨a1,l1,c1,e1,hk _ _ _ h1⟩,⟨a2,l2,c2,e2,hk _ _ _ h2⟩⟩
def Dat.ref(q:Rat):Dat where
 ty:=47
 has V v:=F9 V v q
 below h hb:=F9.below h hb
 keep h hk:=by
  obtain⟨s,a,l,c,t,b,k,d,e,⟨a1,l1,c1,e1,h1⟩,⟨a2,l2,c2,e2,h2⟩⟩:=h;exact⟨s,a,l,c,t,b,k,d,e,⟨a1,l1,c1,e1,hk _ _ _ h1⟩,⟨a2,l2,c2,e2,hk _ _ _ h2⟩⟩
def Has(V:World)(v:Value)(d:Dat):Prop:=d.has V v
theorem Has.below{V V':World}{v:Value}{d:Dat}(h:Has V v d)(hb:Bl V V'):Has V' v d:=d.below h hb
theorem Has.alloc{V:World}{v:Value}{d:Dat}(h:Has V v d)(o:Obj):Has (V.alloc o) v d:=h.below (Ba V o)
theorem Has.keep{V V':World}{v:Value}{d:Dat}(h:Has V v d)(hk:∀k v ds,Row k V v ds→Row k V' v ds):Has V' v d:=d.keep h hk
def Bx(V:World)(B:Nat)(t:TypeId)(cs:Array Value):Prop:=V.heap[B]?=some (.cells cs t (0,0))
theorem Bx.lt{V:World}{B:Nat}{t:TypeId}{cs:Array Value}(h:Bx V B t cs):B<V.heap.size:=(Ab.1 h).1
theorem Bx.below{V V':World}{B:Nat}{t:TypeId}{cs:Array Value}(h:Bx V B t cs)(hb:Bl V V'):Bx V' B t cs:=(hb.block B h.lt).trans h
theorem Bx.far{V:World}{B:Nat}{t:TypeId}{cs:Array Value}(h:Bx V B t cs){p:Addr}(hp:B≠p.block)(u:Value):Bx (V.setCell p u) B t cs:=(BC V p u B hp).trans h
def Mem(w V:World)(bs:List (Option (Nat × Dat))):Prop:=
 (∀(i:Nat) B d,bs[i]?=some (some (B,d))→(∃cs,Bx V B d.ty cs∧Has V (.agg cs) d)∧w.heap.size≤B)∧
 (∀(i j:Nat) B d d',bs[i]?=some (some (B,d))→bs[j]?=some (some (B,d'))→i=j)∧Bl w V
theorem Mem.nil(w:World):Mem w w []:=⟨fun i B z h=>by simp at h,fun i j B z z' h=>by simp at h,BG _ w⟩
theorem Mem.int{w V:World}{bs:List (Option (Nat × Dat))}(M:Mem w V bs){i B:Nat}{z:Int}(h:bs[i]?=some (some (B,.int z))):∃s a l c,Jo V B 35 (.bool s) (.slice a l c)∧Jk V (.agg #[.bool s,.slice a l c]) z:=by
 obtain⟨⟨cs,h1,h2⟩,_⟩:=M.1 i B _ h;obtain⟨a,l,c,e,hu⟩:=h2;cases e;exact⟨_,a,l,c,h1,a,l,c,rfl,hu⟩
theorem Mem.rat{w V:World}{bs:List (Option (Nat × Dat))}(M:Mem w V bs){i B:Nat}{q:Rat}(h:bs[i]?=some (some (B,.rat q))):
 ∃s a l c t b k d,JF V B 37 (.bool s) (.slice a l c) (.bool t) (.slice b k d)∧Jg V (.agg #[.bool s,.slice a l c,.bool t,.slice b k d]) q∧Jk V (.agg #[.bool s,.slice a l c]) q.num∧Jk V (.agg #[.bool t,.slice b k d]) (Dr q):=by
 obtain⟨⟨cs,h1,h2⟩,_⟩:=M.1 i B _ h;have h3:=h2;obtain⟨s,a,l,c,t,b,k,d,e,g1,g2⟩:=h2;cases e;exact⟨s,a,l,c,t,b,k,d,h1,h3,g1,g2⟩
theorem Mem.below{w V V':World}{bs:List (Option (Nat × Dat))}(M:Mem w V bs)(hb:Bl V V'):Mem w V' bs:=
 ⟨fun i B z h=>by
  obtain⟨⟨cs,h1,h2⟩,h3⟩:=M.1 i B z h;exact⟨⟨cs,h1.below hb,h2.below hb⟩,h3⟩,M.2.1,Bt M.2.2 hb⟩
theorem Mem.drew{w V:World}{bs:List (Option (Nat × Dat))}(M:Mem w V bs):Mem w V.drew bs:=M.below ((BG _ V).drew)
theorem Mem.sub{w V:World}{bs cs:List (Option (Nat × Dat))}(M:Mem w V bs)(f:Nat→Nat)(hf:∀(i j:Nat),f i=f j→i=j)(h:∀(i:Nat) x,cs[i]?=some (some x)→bs[f i]?=some (some x)):Mem w V cs:=
 ⟨fun i B d h1=>M.1 (f i) B d (h i _ h1),fun i j B d d' h1 h2=>hf i j (M.2.1 (f i) (f j) B d d' (h i _ h1) (h j _ h2)),M.2.2⟩
theorem Mem.take{w V:World}{bs:List (Option (Nat × Dat))}(M:Mem w V bs)(n:Nat):Mem w V (bs.take n):=by
 refine M.sub id (fun _ _ h=>h) (fun i x h=>?_);rw[Fe]at h;split at h
 · exact h
 · cases h
theorem Mem.none{w V:World}{bs:List (Option (Nat × Dat))}(M:Mem w V bs):Mem w V (bs++[Option.none]):=by
 refine M.sub id (fun _ _ h=>h) (fun i x h=>?_);by_cases hi:i<bs.length
 · rwa[A4 hi]at h
 · rw[AR (by omega)]at h;obtain⟨k,hk⟩:=ex (i-bs.length);rw[hk]at h;cases k<;>simp at h
theorem Mem.fill{w V:World}{bs:List (Option (Nat × Dat))}(M:Mem w V bs){i:Nat}(h:bs[i]?=some Option.none){cs:Array Value}(d:Dat)(hd:Has V (.agg cs) d):
 Mem w (V.alloc (.cells cs d.ty)) (bs.set i (some (V.heap.size,d))):=by
 have Qb:Bl V (V.alloc (.cells cs d.ty)):=Ba V _;have Qa:i<bs.length:=(Ae.1 h).1;have M2:=M.below Qb;have Qc:∀(j:Nat) B d,bs[j]?=some (some (B,d))→B<V.heap.size:=fun j B d h=>by
  obtain⟨⟨_,h1,_⟩,_⟩:=M.1 j B d h;exact h1.lt
 refine⟨fun j B d' hj=>?_,fun j k B d1 d2 h1 h2=>?_,M2.2.2⟩
 · by_cases hij:i=j
   · subst hij;rw[A3 Qa]at hj;simp at hj;obtain⟨rfl,rfl⟩:=hj;exact⟨⟨cs,BF V _,hd.below Qb⟩,M.2.2.size⟩
   · rw[AN hij]at hj;exact M2.1 j B d' hj
 · by_cases hij:i=j<;>by_cases hik:i=k
   · omega
   · subst hij;rw[A3 Qa]at h1;rw[AN hik]at h2;simp at h1;have:=Qc k B d2 h2;omega
   · subst hik;rw[A3 Qa]at h2;rw[AN hij]at h1;simp at h2;have:=Qc j B d1 h1;omega
   · rw[AN hij]at h1;rw[AN hik]at h2;exact M.2.1 j k B d1 d2 h1 h2
theorem Pa{α:Type}(l:List α)(x y:α):(l++[x]).set l.length y=l++[y]:=by
 induction l with
 |nil=>rfl
 |cons a l ih=>simp
theorem Mem.push{w V:World}{bs:List (Option (Nat × Dat))}(M:Mem w V bs){cs:Array Value}(d:Dat)(hd:Has V (.agg cs) d):Mem w (V.alloc (.cells cs d.ty)) (bs++[some (V.heap.size,d)]):=by
 have h:=M.none.fill (i:=bs.length) (by simp) d hd;rwa[Pa]at h
theorem Mem.repl{w V V':World}{bs:List (Option (Nat × Dat))}(M:Mem w V bs){i B:Nat}{d:Dat}(h:bs[i]?=some (some (B,d))){cs:Array Value}(d':Dat)(hc:Bx V' B d'.ty cs)(hd:Has V (.agg cs) d')
(hk:∀k v ds,Row k V v ds→Row k V' v ds)(hf:∀B' t cs,B'≠B→Bx V B' t cs→Bx V' B' t cs)(hB:Bl w V'):Mem w V' (bs.set i (some (B,d'))):=by
 have Qb:i<bs.length:=(Ae.1 h).1;obtain⟨_,hw⟩:=M.1 i B d h;refine⟨fun j B' d1 hj=>?_,fun j k B' d1 d2 h1 h2=>?_,hB⟩
 · by_cases hij:i=j
   · subst hij;rw[A3 Qb]at hj;simp at hj;obtain⟨rfl,rfl⟩:=hj;exact⟨⟨cs,hc,hd.keep hk⟩,hw⟩
   · rw[AN hij]at hj;obtain⟨⟨cs1,g1,g2⟩,hw1⟩:=M.1 j B' d1 hj;have Qc:B'≠B:=fun e=>hij (by rw[e]at hj;exact M.2.1 i j B d d1 h hj);exact⟨⟨cs1,hf _ _ _ Qc g1,g2.keep hk⟩,hw1⟩
 · have Qa:∀(j:Nat) d1,(bs.set i (some (B,d')))[j]?=some (some (B',d1))→∃d3,bs[j]?=some (some (B',d3)):=fun j d1 hj=>by
    by_cases hij:i=j
    · subst hij;rw[A3 Qb]at hj;simp at hj;exact⟨d,by rw[h,hj.1]⟩
    · rw[AN hij]at hj;exact⟨d1,hj⟩
   obtain⟨d3,g1⟩:=Qa j d1 h1;obtain⟨d4,g2⟩:=Qa k d2 h2;exact M.2.1 j k B' d3 d4 g1 g2
theorem keep2{V:World}{B:Nat}{t:TypeId}{x y:Value}(q:Jo V B t x y)(n0:JC x=true)(n1:JC y=true)(x' y':Value):∀k v ds,Row k V v ds→Row k ((V.setCell ⟨B,0,Option.none⟩ x').setCell ⟨B,1,Option.none⟩ y') v ds:=
 fun _ _ _ h=>Row.set (Row.set h q.c0 n0 _) (q.set0 x').c1 n1 _
theorem Mem.putInt{w V:World}{bs:List (Option (Nat × Dat))}(M:Mem w V bs){i B:Nat}{z0:Int}(h:bs[i]?=some (some (B,.int z0))){x y:Value}{z:Int}(hi:Jk V (.agg #[x,y]) z):
 Mem w ((V.setCell ⟨B,0,Option.none⟩ x).setCell ⟨B,1,Option.none⟩ y) (bs.set i (some (B,.int z))):=by
 obtain⟨s,a,l,c,hb,_⟩:=M.int h;obtain⟨_,hw⟩:=M.1 i B _ h;exact M.repl h (.int z) (cs:=#[x,y]) ((hb.set0 x).set1 y) hi (keep2 hb rfl rfl x y) (fun B' t cs hne g=>(g.far (p:=⟨B,0,Option.none⟩) hne _).far (p:=⟨B,1,Option.none⟩) hne _) ((M.2.2.setCell (p:=⟨B,0,Option.none⟩) hw _).setCell (p:=⟨B,1,Option.none⟩) hw _)
theorem far4{V:World}{B:Nat}(x y z u:Value):∀B' t cs,B'≠B→Bx V B' t cs→Bx (put4 V B x y z u) B' t cs:=fun _ _ _ hne g=>(((g.far (p:=⟨B,0,Option.none⟩) hne _).far (p:=⟨B,1,Option.none⟩) hne _).far (p:=⟨B,2,Option.none⟩) hne _).far (p:=⟨B,3,Option.none⟩) hne _
theorem Mem.putRat{w V:World}{bs:List (Option (Nat × Dat))}(M:Mem w V bs){i B:Nat}{q0:Rat}(h:bs[i]?=some (some (B,.rat q0))){x y z u:Value}{q:Rat}(hi:Jg V (.agg #[x,y,z,u]) q):
 Mem w (put4 V B x y z u) (bs.set i (some (B,.rat q))):=by
 obtain⟨_,_,_,_,_,_,_,_,hb,_⟩:=M.rat h;obtain⟨_,hw⟩:=M.1 i B _ h;exact M.repl h (.rat q) (cs:=#[x,y,z,u]) (hb.put x y z u) hi (fun _ _ _ g=>Row.put4 g hb rfl rfl rfl rfl _ _ _ _) (far4 x y z u) (Jr M.2.2 hw _ _ _ _)
theorem Has.set2{V:World}{v:Value}{d:Dat}(h:Has V v d){B:Nat}{t:TypeId}{x y:Value}(q:Jo V B t x y)(n0:JC x=true)(n1:JC y=true)(x' y':Value):Has ((V.setCell ⟨B,0,Option.none⟩ x').setCell ⟨B,1,Option.none⟩ y') v d:=h.keep (keep2 q n0 n1 x' y')
theorem Has.put4{V:World}{v:Value}{d:Dat}(h:Has V v d){B:Nat}{t:TypeId}{x y z u:Value}(q:JF V B t x y z u)(n0:JC x=true)(n1:JC y=true)(n2:JC z=true)(n3:JC u=true)(x' y' z' u':Value):Has (Go.Proofs.YtakpoihdghihmaaGreatDoor.put4 V B x' y' z' u') v d:=h.keep (fun _ _ _ g=>Row.put4 g q n0 n1 n2 n3 _ _ _ _)
theorem Jk.form2{W:World}{v:Value}{z:Int}(h:Jk W v z):∃s a l c,v=.agg #[.bool s,.slice a l c]:=by
 obtain⟨a,l,c,e,_⟩:=h;exact⟨_,a,l,c,e⟩
theorem Jg.form{W:World}{v:Value}{q:Rat}(h:Jg W v q):∃s a l c t b k d,v=.agg #[.bool s,.slice a l c,.bool t,.slice b k d]:=by
 obtain⟨s,a,l,c,t,b,k,d,e,_⟩:=h;exact⟨s,a,l,c,t,b,k,d,e⟩
theorem Mem.ne{w V:World}{bs:List (Option (Nat × Dat))}(M:Mem w V bs)(i j:Nat){B B':Nat}{d d':Dat}(h:bs[i]?=some (some (B,d)))(h':bs[j]?=some (some (B',d')))(hij:i≠j):B≠B':=fun e=>by
 subst e;exact hij (M.2.1 i j B d d' h h')
theorem Mem.ge{w V:World}{bs:List (Option (Nat × Dat))}(M:Mem w V bs)(i:Nat){B:Nat}{d:Dat}(h:bs[i]?=some (some (B,d))):w.heap.size≤B:=(M.1 i B d h).2
theorem X2(W:World):Jk W (.agg #[.bool false,.slice Option.none 0 0]) 0:=
 ⟨Option.none,0,0,by simp,by unfold UN;rw[Int.natAbs_zero,JN];exact Row.nil _ _⟩
theorem Xn(W:World):Jg W (.agg #[.bool false,.slice Option.none 0 0,.bool false,.slice Option.none 0 0]) 0:=⟨_,_,_,_,_,_,_,_,rfl,X2 W,X2 W⟩
def Tup2(V:World)(t:Value)(d1 d2:Dat):Prop:=∃u1 u2,t=.tuple #[u1,u2,.bool true]∧Has V u1 d1∧Has V u2 d2
theorem Tup2.below{V V':World}{t:Value}{d1 d2:Dat}(h:Tup2 V t d1 d2)(hb:Bl V V'):Tup2 V' t d1 d2:=by
 obtain⟨u1,u2,e,h1,h2⟩:=h;exact⟨u1,u2,e,h1.below hb,h2.below hb⟩
theorem Tup2.alloc{V:World}{t:Value}{d1 d2:Dat}(h:Tup2 V t d1 d2)(o:Obj):Tup2 (V.alloc o) t d1 d2:=by
 obtain⟨u1,u2,e,h1,h2⟩:=h;exact⟨u1,u2,e,h1.alloc o,h2.alloc o⟩
theorem Tup2.set2{V:World}{v:Value}{d1 d2:Dat}(h:Tup2 V v d1 d2){B:Nat}{t:TypeId}{x y:Value}(q:Jo V B t x y)(n0:JC x=true)(n1:JC y=true)(x' y':Value):Tup2 ((V.setCell ⟨B,0,Option.none⟩ x').setCell ⟨B,1,Option.none⟩ y') v d1 d2:=by
 obtain⟨u1,u2,e,h1,h2⟩:=h;exact⟨u1,u2,e,h1.set2 q n0 n1 x' y',h2.set2 q n0 n1 x' y'⟩
def D9(r:Bool)(W:World)(v:Value)(q:Rat):Prop:=match r with|true=>Jg W v q|false=>F9 W v q
def IX(r:Bool):TypeId:=match r with|true=>37|false=>47
theorem D9.below{r:Bool}{W W':World}{v:Value}{q:Rat}(h:D9 r W v q)(hb:Bl W W'):D9 r W' v q:=by
 cases r with
 |true=>exact Jg.below h hb
 |false=>exact F9.below h hb
theorem D9.keep{r:Bool}{W W':World}{v:Value}{q:Rat}(h:D9 r W v q)(hk:∀k v ds,Row k W v ds→Row k W' v ds):D9 r W' v q:=by
 cases r with
 |true=>exact Has.keep (d:=.rat q) h hk
 |false=>exact Has.keep (d:=.ref q) h hk
theorem D9.form{r:Bool}{W:World}{v:Value}{q:Rat}(h:D9 r W v q):∃x y z u,v=.agg #[x,y,z,u]∧JC x=true∧JC y=true∧JC z=true∧JC u=true:=by
 cases r with
 |true=>
  obtain⟨s,a,l,c,t,b,k,d,e,_⟩:=(show Jg W v q from h);exact⟨_,_,_,_,e,rfl,rfl,rfl,rfl⟩
 |false=>
  obtain⟨s,a,l,c,t,b,k,d,e,_⟩:=(show F9 W v q from h);exact⟨_,_,_,_,e,rfl,rfl,rfl,rfl⟩
theorem D9.no{r:Bool}{W:World}{x y z u:Value}{q:Rat}(h:D9 r W (.agg #[x,y,z,u]) q):JC x=true∧JC y=true∧JC z=true∧JC u=true:=by
 obtain⟨x',y',z',u',e,h1,h2,h3,h4⟩:=h.form;cases e;exact⟨h1,h2,h3,h4⟩
theorem D9.one{r:Bool}{W:World}{x y z u:Value}{q:Rat}(h:D9 r W (.agg #[x,y,z,u]) q):∀v∈[x,y,z,u],v.oneCell'=true:=by
 cases r with
 |true=>
  obtain⟨s,a,l,c,t,b,k,d,e,_⟩:=(show Jg W _ q from h);cases e;intro v hv;simp at hv;rcases hv with rfl|rfl|rfl|rfl<;>rfl
 |false=>
  obtain⟨s,a,l,c,t,b,k,d,e,_⟩:=(show F9 W _ q from h);cases e;intro v hv;simp at hv;rcases hv with rfl|rfl|rfl|rfl<;>rfl
def Dl(r:Bool)(W:World)(b:Nat)(qs:List Rat):Prop:=
 ∃cs:Array Value,W.heap[b]?=some (.cells cs (IX r) (0,0))∧∀j,j<qs.length→∃x y z u,cs[j*4]?=some x∧cs[j*4+1]?=some y∧cs[j*4+2]?=some z∧cs[j*4+3]?=some u∧D9 r W (.agg #[x,y,z,u]) (cf qs j)
theorem Dl.lt{r:Bool}{W:World}{b:Nat}{qs:List Rat}(h:Dl r W b qs):b<W.heap.size:=by obtain⟨cs,h,_⟩:=h;exact(Ab.1 h).1
theorem Dl.below{r:Bool}{W W':World}{b:Nat}{qs:List Rat}(h:Dl r W b qs)(hb:Bl W W'):Dl r W' b qs:=by
 have hl:=h.lt;obtain⟨cs,h1,h2⟩:=h;refine⟨cs,(hb.block b hl).trans h1,fun j hj=>?_⟩;obtain⟨x,y,z,u,e0,e1,e2,e3,h3⟩:=h2 j hj;exact⟨x,y,z,u,e0,e1,e2,e3,h3.below hb⟩
theorem Dl.keep{r:Bool}{W W':World}{b:Nat}{qs:List Rat}(h:Dl r W b qs)(hb:W'.heap[b]?=W.heap[b]?)(hk:∀k v ds,Row k W v ds→Row k W' v ds):Dl r W' b qs:=by
 obtain⟨cs,h1,h2⟩:=h;refine⟨cs,hb.trans h1,fun j hj=>?_⟩;obtain⟨x,y,z,u,e0,e1,e2,e3,h3⟩:=h2 j hj;exact⟨x,y,z,u,e0,e1,e2,e3,h3.keep hk⟩
theorem Dl.take{r:Bool}{W:World}{b:Nat}{qs:List Rat}(h:Dl r W b qs)(n:Nat):Dl r W b (qs.take n):=by
 obtain⟨cs,h1,h2⟩:=h;refine⟨cs,h1,fun j hj=>?_⟩;rw[Al]at hj;obtain⟨x,y,z,u,e0,e1,e2,e3,h3⟩:=h2 j (by omega);exact⟨x,y,z,u,e0,e1,e2,e3,by rw[Lu,BH (by omega)];exact h3⟩
theorem Dl.at{r:Bool}{W:World}{b:Nat}{qs:List Rat}(h:Dl r W b qs){j:Nat}(hj:j<qs.length):
 ∃x y z u,W.cell? ⟨b,j*4,none⟩=some x∧W.cell? ⟨b,j*4+1,none⟩=some y∧W.cell? ⟨b,j*4+2,none⟩=some z∧W.cell? ⟨b,j*4+3,none⟩=some u∧D9 r W (.agg #[x,y,z,u]) (cf qs j):=by
 obtain⟨cs,h1,h2⟩:=h;obtain⟨x,y,z,u,e0,e1,e2,e3,h3⟩:=h2 j hj;exact⟨x,y,z,u,by simp[World.cell?,h1,e0],by simp[World.cell?,h1,e1],by simp[World.cell?,h1,e2],by simp[World.cell?,h1,e3],h3⟩
theorem Dl.frozen{r:Bool}{W:World}{b:Nat}{qs:List Rat}(h:Dl r W b qs)(o:Nat):W.frozen? ⟨b,o,none⟩=false:=by obtain⟨cs,h1,_⟩:=h;simp[World.frozen?,h1]
def putAt(W:World)(b o:Nat)(x y z u:Value):World:=(((W.setCell ⟨b,o,none⟩ x).setCell ⟨b,o+1,none⟩ y).setCell ⟨b,o+2,none⟩ z).setCell ⟨b,o+3,none⟩ u
theorem J7{W:World}{b o:Nat}{cs:Array Value}{t:TypeId}{m:Nat × Nat}(h:W.heap[b]?=some (.cells cs t m))(v:Value):(W.setCell ⟨b,o,none⟩ v).heap[b]?=some (.cells (cs.setIfInBounds o v) t m):=by
 obtain⟨hlt,hk⟩:=Ab.1 h;show(W.heap.modify b _)[b]?=_;rw[Ca (by rw[CN];exact hlt),Cf,hk];simp
theorem Pb{W:World}{b o:Nat}{cs:Array Value}{t:TypeId}{m:Nat × Nat}(h:W.heap[b]?=some (.cells cs t m))(x y z u:Value):(putAt W b o x y z u).heap[b]?=some (.cells ((((cs.setIfInBounds o x).setIfInBounds (o+1) y).setIfInBounds (o+2) z).setIfInBounds (o+3) u) t m):=
 J7 (J7 (J7 (J7 h x) y) z) u
theorem KL{W:World}{b o B:Nat}(hB:B≠b)(x y z u:Value):(putAt W b o x y z u).heap[B]?=W.heap[B]?:=
 (BC _ _ _ B hB).trans ((BC _ _ _ B hB).trans ((BC _ _ _ B hB).trans (BC _ _ _ B hB)))
theorem Mw{n b o:Nat}{w W:World}(h:Below n w W)(hB:n≤b)(x y z u:Value):Below n w (putAt W b o x y z u):=
 (((h.setCell (p:=⟨b,o,none⟩) hB _).setCell (p:=⟨b,o+1,none⟩) hB _).setCell (p:=⟨b,o+2,none⟩) hB _).setCell (p:=⟨b,o+3,none⟩) hB _
theorem cell_of{W:World}{b o:Nat}{cs:Array Value}{t:TypeId}{m:Nat × Nat}{x:Value}(h:W.heap[b]?=some (.cells cs t m))(e:cs[o]?=some x):W.cell? ⟨b,o,none⟩=some x:=by simp[World.cell?,h,e]
theorem Vd{W:World}{b o:Nat}{cs:Array Value}{t:TypeId}{m:Nat × Nat}{x0 y0 z0 u0:Value}(h:W.heap[b]?=some (.cells cs t m))(e0:cs[o]?=some x0)(e1:cs[o+1]?=some y0)(e2:cs[o+2]?=some z0)(e3:cs[o+3]?=some u0)
(n0:JC x0=true)(n1:JC y0=true)(n2:JC z0=true)(n3:JC u0=true)(x y z u:Value):∀k v ds,Row k W v ds→Row k (putAt W b o x y z u) v ds:=fun k v ds hr=>by
 have c1:((cs.setIfInBounds o x))[o+1]?=some y0:=by rw[Ah (by omega)];exact e1
 have c2:(((cs.setIfInBounds o x).setIfInBounds (o+1) y))[o+2]?=some z0:=by rw[Ah (by omega),Ah (by omega)];exact e2
 have c3:((((cs.setIfInBounds o x).setIfInBounds (o+1) y).setIfInBounds (o+2) z))[o+3]?=some u0:=by rw[Ah (by omega),Ah (by omega),Ah (by omega)];exact e3
 exact Row.set (Row.set (Row.set (Row.set hr (cell_of h e0) n0 _) (cell_of (J7 h x) c1) n1 _) (cell_of (J7 (J7 h x) y) c2) n2 _) (cell_of (J7 (J7 (J7 h x) y) z) c3) n3 _
theorem Dl.putKeep{r:Bool}{W:World}{b:Nat}{qs:List Rat}(h:Dl r W b qs){j:Nat}(hj:j<qs.length)(x y z u:Value):∀k v ds,Row k W v ds→Row k (putAt W b (j*4) x y z u) v ds:=by
 obtain⟨cs,h1,h2⟩:=h;obtain⟨x0,y0,z0,u0,e0,e1,e2,e3,h3⟩:=h2 j hj;obtain⟨n0,n1,n2,n3⟩:=h3.no;exact Vd h1 e0 e1 e2 e3 n0 n1 n2 n3 x y z u
theorem Dl.set{r:Bool}{W:World}{b:Nat}{qs:List Rat}(h:Dl r W b qs){j:Nat}(hj:j<qs.length){x y z u:Value}{q:Rat}(hv:D9 r W (.agg #[x,y,z,u]) q):Dl r (putAt W b (j*4) x y z u) b (qs.set j q):=by
 have hk:=h.putKeep hj x y z u;obtain⟨cs,h1,h2⟩:=h;obtain⟨x0,y0,z0,u0,e0,e1,e2,e3,h3⟩:=h2 j hj;refine⟨_,Pb h1 x y z u,fun i hi=>?_⟩;rw[Cz]at hi;have Qb:=(Ab.1 e0).1;have Qd:=(Ab.1 e1).1;have Qc:=(Ab.1 e2).1;have Qa:=(Ab.1 e3).1;by_cases hij:i=j
 · subst hij;refine⟨x,y,z,u,?_,?_,?_,?_,?_⟩
   · rw[Ah (by omega),Ah (by omega),Ah (by omega),Cn Qb]
   · rw[Ah (by omega),Ah (by omega),Cn (by simpa using Qd)]
   · rw[Ah (by omega),Cn (by simpa using Qc)]
   · rw[Cn (by simpa using Qa)]
   · rw[XG _ _ _ _ hj,BH rfl];exact hv.keep hk
 · obtain⟨x1,y1,z1,u1,d0,d1,d2,d3,h4⟩:=h2 i hi;refine⟨x1,y1,z1,u1,?_,?_,?_,?_,?_⟩
   · rw[Ah (by omega),Ah (by omega),Ah (by omega),Ah (by omega)];exact d0
   · rw[Ah (by omega),Ah (by omega),Ah (by omega),Ah (by omega)];exact d1
   · rw[Ah (by omega),Ah (by omega),Ah (by omega),Ah (by omega)];exact d2
   · rw[Ah (by omega),Ah (by omega),Ah (by omega),Ah (by omega)];exact d3
   · rw[XG _ _ _ _ hj,BE hij];exact h4.keep hk
def RowK(r:Bool)(W:World)(v:Value)(qs:List Rat):Prop:=
 ∃a cap,v=.slice a qs.length cap∧qs.length≤cap∧cap≤9223372036854775807∧qs.length≤1099511627776∧(qs=[]∨∃b,a=some ⟨b,0,none⟩∧Dl r W b qs)
theorem RowK.below{r:Bool}{W W':World}{v:Value}{qs:List Rat}(h:RowK r W v qs)(hb:Bl W W'):RowK r W' v qs:=by
 obtain⟨a,cap,e,h1,h2,h3,h4⟩:=h;refine⟨a,cap,e,h1,h2,h3,?_⟩;rcases h4 with h4|⟨b,ea,h5⟩
 · exact Or.inl h4
 · exact Or.inr ⟨b,ea,h5.below hb⟩
theorem RowK.nil(r:Bool)(W:World):RowK r W (.slice none 0 0) []:=⟨none,0,rfl,Aa _,by omega,by simp,Or.inl rfl⟩
theorem Dl.row{r:Bool}{W:World}{b:Nat}{qs:List Rat}(h:Dl r W b qs){n cap:Nat}(hn:n≤qs.length)(hc:n≤cap)(hm:cap≤9223372036854775807)(hl:n≤1099511627776):RowK r W (.slice (some ⟨b,0,none⟩) n cap) (qs.take n):=by
 have e:(qs.take n).length=n:=by rw[Al];omega
 exact⟨_,cap,by rw[e],by omega,hm,by omega,Or.inr ⟨b,rfl,h.take n⟩⟩
theorem RowK.open{r:Bool}{W:World}{v:Value}{qs:List Rat}(h:RowK r W v qs):∃a cap,v=.slice a qs.length cap∧qs.length≤cap∧cap≤9223372036854775807∧qs.length≤1099511627776∧
 Hid (∀j,j<qs.length→∃b,a=some ⟨b,0,none⟩∧Dl r W b qs):=by
 obtain⟨a,cap,e,h1,h2,h3,h4⟩:=h;refine⟨a,cap,e,h1,h2,h3,fun j hj=>?_⟩;rcases h4 with h4|⟨b,ea,h5⟩
 · rw[h4]at hj;simp at hj
 · exact⟨b,ea,h5⟩
theorem RowK.take{r:Bool}{W:World}{a:Option Addr}{l cap:Nat}{qs:List Rat}(h:RowK r W (.slice a l cap) qs){n:Nat}(hn:n≤l):RowK r W (.slice a n cap) (qs.take n):=by
 obtain⟨a',cap',e,h1,h2,h3,h4⟩:=h;cases e;have e:(qs.take n).length=n:=by rw[Al];omega
 refine⟨a,cap,by rw[e],by omega,h2,by omega,?_⟩;rcases h4 with h4|⟨b,ea,h5⟩
 · left;rw[h4];simp
 · exact Or.inr ⟨b,ea,h5.take n⟩
def Je(W:World)(v:Value)(ps:List Rat):Prop:=∃u,v=.agg #[u]∧RowK true W u ps
theorem Je.below{W W':World}{v:Value}{ps:List Rat}(h:Je W v ps)(hb:Bl W W'):Je W' v ps:=by
 obtain⟨u,e,h1⟩:=h;exact⟨u,e,h1.below hb⟩
theorem RowK.form{r:Bool}{W:World}{v:Value}{qs:List Rat}(h:RowK r W v qs):∃a l c,v=.slice a l c:=by
 obtain⟨a,cap,e,_⟩:=h;exact⟨a,_,cap,e⟩
theorem Je.form{W:World}{v:Value}{ps:List Rat}(h:Je W v ps):∃a l c,v=.agg #[.slice a l c]:=by
 obtain⟨u,e,h1⟩:=h;obtain⟨a,l,c,rfl⟩:=h1.form;exact⟨a,l,c,e⟩
theorem Je.row{W:World}{a:Option Addr}{l c:Nat}{ps:List Rat}(h:Je W (.agg #[.slice a l c]) ps):RowK true W (.slice a l c) ps:=by
 obtain⟨u,e,h1⟩:=h;cases e;exact h1
structure Sqs(qs:List Rat):Prop where
 all:∀i,Sq (cf qs i)
theorem Sqs.at{qs:List Rat}(h:Sqs qs)(i:Nat):Sq (cf qs i):=h.all i
theorem Sqs.of{qs:List Rat}(h:∀i,Sq (cf qs i)):Sqs qs:=⟨h⟩
def X3(r:Bool)(W:World)(cs:List Value)(qs:List Rat):Prop:=
 cs.length=qs.length*4∧∀j,j<qs.length→∃x y z u,cs[j*4]?=some x∧cs[j*4+1]?=some y∧cs[j*4+2]?=some z∧cs[j*4+3]?=some u∧D9 r W (.agg #[x,y,z,u]) (cf qs j)
theorem X3.nil(r:Bool)(W:World):X3 r W [] []:=⟨rfl,fun j hj=>by simp at hj⟩
theorem X3.below{r:Bool}{W W':World}{cs:List Value}{qs:List Rat}(h:X3 r W cs qs)(hb:Bl W W'):X3 r W' cs qs:=by
 refine⟨h.1,fun j hj=>?_⟩;obtain⟨x,y,z,u,e0,e1,e2,e3,h3⟩:=h.2 j hj;exact⟨x,y,z,u,e0,e1,e2,e3,h3.below hb⟩
theorem X3.one{r:Bool}{W:World}{cs:List Value}{qs:List Rat}(h:X3 r W cs qs):∀v∈cs,v.oneCell'=true:=by
 intro v hv;obtain⟨k,hk,rfl⟩:=FE.1 hv;have hl:=h.1;obtain⟨x,y,z,u,e0,e1,e2,e3,h3⟩:=h.2 (k/4) (by omega);have h4:=h3.one;have hg:cs[k]?=some cs[k]:=Am hk;have hc:k=k/4*4∨k=k/4*4+1∨k=k/4*4+2∨k=k/4*4+3:=by omega
 rcases hc with hc|hc|hc|hc
 · rw[←hc,hg]at e0;cases e0;exact h4 _ (by simp)
 · rw[←hc,hg]at e1;cases e1;exact h4 _ (by simp)
 · rw[←hc,hg]at e2;cases e2;exact h4 _ (by simp)
 · rw[←hc,hg]at e3;cases e3;exact h4 _ (by simp)
theorem Dl.cells{r:Bool}{W:World}{b:Nat}{qs:List Rat}(h:Dl r W b qs):∃cs,X3 r W cs qs∧∀j u,cs[j]?=some u→W.cell? ⟨b,j,none⟩=some u:=by
 obtain⟨ar,h1,h2⟩:=h;have hsz:qs.length*4≤ar.size:=by
  cases hq:qs.length with
  |zero=>omega
  |succ n=>
   obtain⟨x,y,z,u,_,_,_,e3,_⟩:=h2 n (by omega);have:=(Ab.1 e3).1;omega
 refine⟨ar.toList.take (qs.length*4),⟨by rw[Al];have h0:ar.toList.length=ar.size:=Array.length_toList;omega,fun j hj=>?_⟩,fun j u e=>?_⟩
 · obtain⟨x,y,z,u,e0,e1,e2,e3,h3⟩:=h2 j hj;refine⟨x,y,z,u,?_,?_,?_,?_,h3⟩
   · rw[AY (by omega),Cw];exact e0
   · rw[AY (by omega),Cw];exact e1
   · rw[AY (by omega),Cw];exact e2
   · rw[AY (by omega),Cw];exact e3
 · rw[Fe]at e;split at e
   · rw[Cw]at e;exact cell_of h1 e
   · cases e
theorem RowK.owns{r:Bool}{W:World}{base:Nat}{v:Value}{n:Nat}{cs:List Value}{qs:List Rat}(h:W.ownsRow base (IX r) 4 v n cs)(hc:X3 r W cs qs)(hl:qs.length≤1099511627776):RowK r W v qs∧n=qs.length∧(v=.slice none 0 0∨∃g cap,v=.slice (some ⟨g,0,none⟩) n cap∧base≤g∧Dl r W g qs):=by
 obtain⟨h1,h2⟩:=h;have hn:n=qs.length:=by have:=hc.1;omega
 subst hn;rcases h2 with⟨rfl,h0⟩|⟨g,cap,cur,rfl,hbg,hg,hle,hmax,hsz,htk⟩
 · have:qs=[]:=AB h0
   subst this;exact⟨RowK.nil r W,rfl,Or.inl rfl⟩
 · have hE:Dl r W g qs:=by
    refine⟨cur,hg,fun j hj=>?_⟩;obtain⟨x,y,z,u,e0,e1,e2,e3,h3⟩:=hc.2 j hj;rw[←htk]at e0 e1 e2 e3;rw[AY (by omega),Cw]at e0 e1 e2 e3;exact⟨x,y,z,u,e0,e1,e2,e3,h3⟩
   refine⟨⟨_,cap,rfl,hle,by unfold maxLen at hmax;omega,hl,Or.inr ⟨g,rfl,hE⟩⟩,rfl,Or.inr ⟨g,cap,rfl,hbg,hE⟩⟩
attribute [local go_sem] Oper.semAt_some
theorem Pc(va vb:Value)(x y:Int)(w:World)(ha:Jk w va x)(hb:Jk w vb y)(hlx:(Ji O x.natAbs).length<1099511627776)(hly:(Ji O y.natAbs).length<1099511627776):
 Calls Tryz.prog 67 #[va,vb] w fun e w'=>∃u,e=.returned u∧Jk w' u (x-y)∧Bl w w':=by
 obtain⟨a,la,ca,rfl⟩:=ha.form;obtain⟨b,lb,cb,e0,hu⟩:=hb;cases e0;obtain⟨s,hs⟩:=ex (decide (x<0));obtain⟨t,ht⟩:=ex (decide (y<0));rw[hs]at ha ⊢;rw[ht];clear hs;obtain⟨W0,hW0⟩:=ex (((w.alloc (.cells #[.bool s,.slice a la ca] 35)).alloc (.cells #[.bool t,.slice b lb cb] 35)).alloc (.cells #[.bool false,.slice none 0 0] 35));have Qb:Bl w W0:=by rw[←hW0];exact Hh w _ _ _
 have b0:Jo W0 w.heap.size 35 (.bool s) (.slice a la ca):=by rw[←hW0];exact((Jo.new w _ _ _).alloc _).alloc _
 have b1:Jo W0 (w.heap.size+1) 35 (.bool t) (.slice b lb cb):=by
  have h:=(Jo.new (w.alloc (.cells #[.bool s,.slice a la ca] 35)) 35 (.bool t) (.slice b lb cb)).alloc (.cells #[.bool false,.slice none 0 0] 35);rw[BA,hW0]at h;exact h
 have bR:Jo W0 (w.heap.size+1+1) 35 (.bool false) (.slice none 0 0):=by
  have h:=Jo.new ((w.alloc (.cells #[.bool s,.slice a la ca] 35)).alloc (.cells #[.bool t,.slice b lb cb] 35)) 35 (.bool false) (.slice none 0 0);rw[BA,BA,hW0]at h;exact h
 have Qa:(if(!t)=true then -(y.natAbs:Int)else y.natAbs)=-y:=by
  rw[←ht];by_cases h:y<0
  · simp only[h,decide_true,Bool.not_true,Cu,if_false];omega
  · simp only[h,decide_false,Bool.not_false,if_true];omega
 have HN:=Ja (fun(V:World) (h:Bl W0 V)=>show Calls Tryz.prog 72 #[.bool (!t),.slice b lb cb] V fun e w'=>∃u,e=.returned u∧Jk w' u (-y)∧Bl V w' by
  have h1:=IR (!t) (.slice b lb cb) y.natAbs V (UN.below (UN.below hu Qb) h);rw[Qa]at h1;exact h1)
 have HS:=Ja (fun(V:World) (u:Value) (h:Bl W0 V) (hu:Jk V u (-y))=>Mj _ u x (-y) V ((ha.below Qb).below h) hu hlx (by rw[Int.natAbs_neg];exact hly));clear ha hu Qa ht;go_enter Tryz.func67,Tryz.ntmps67
 go_wp2_with fail
 try rw[hW0]
 clear hW0;have hq:Bl W0 W0.drew:=(BG _ W0).drew;obtain⟨k0,k1⟩:=b0.cp;obtain⟨k2,k3⟩:=b1.cp;have ne2:¬(w.heap.size=w.heap.size+1+1):=by omega
 go_region_held3 (fun w'=>w'.cell? ⟨w.heap.size,0,none⟩=some (.bool s)∧w'.cell? ⟨w.heap.size,1,none⟩=some (.slice a la ca)∧w'.cell? ⟨w.heap.size+1,0,none⟩=some (.bool t)∧w'.cell? ⟨w.heap.size+1,1,none⟩=some (.slice b lb cb)) (refine⟨?_,?_,?_,?_⟩<;>(first|(go_keep;done)|((repeat rw[J9 (by omega)]);simp[*];done)))
  (first
   |(go_at_call 72;refine(HN.o _ hq).mono ?_;rintro e w1 ⟨u1,rfl,hu1,hb1⟩;obtain⟨na,nl,nc,rfl⟩:=hu1.form;obtain⟨s1,hs1⟩:=ex (decide (-y<0));rw[hs1]at hu1;rw[hs1];clear hs1;have hq:=Bt hq hb1;obtain⟨k0,k1⟩:=(b0.below hq).cp;obtain⟨k2,k3⟩:=(b1.below hq).cp)
   |(go_at_call 83;refine(HS.o _ _ hq hu1).mono ?_;rintro e w2 ⟨u2,rfl,hu2,hb2⟩;obtain⟨sa,sl,sc,rfl⟩:=hu2.form;obtain⟨s2,hs2⟩:=ex (decide (x+-y<0));rw[hs2]at hu2;rw[hs2];clear hs2;have hq:=Bt hq hb2;obtain⟨k0,k1⟩:=(b0.below hq).cp;obtain⟨k2,k3⟩:=(b1.below hq).cp;obtain⟨r0,r1⟩:=(bR.below hq).cp;obtain⟨f0,f1⟩:=(bR.below hq).fp))
 all_goals go_wp2_with fail
 have Qd:=Bt Qb hq;have Qc:=hu2.box (bR.below hq) rfl rfl (x0:=.bool s2) (x1:=.slice sa sl sc);exact BB (v:=.agg #[.bool s2,.slice sa sl sc]) (by simp[results,Tryz.results67,go_sem,r0,r1]) rfl ⟨_,rfl,by rw[Int.sub_eq_add_neg];exact Qc,(Qd.setCell (p:=⟨_,0,none⟩) (by simp only;omega) _).setCell (p:=⟨_,1,none⟩) (by simp only;omega) _⟩
theorem Ve(a:Option Addr)(la ca:Nat)(b:Option Addr)(lb cb m n:Nat)(w:World)(hlen:la+lb≤1099511627776)
(ra:Row .u64 w (.slice a la ca) (Ji O m))(rb:Row .u64 w (.slice b lb cb) (Ji O n)):
 Calls Tryz.prog 127 #[.slice a la ca,.slice b lb cb] w fun e w'=>∃u,e=.returned u∧UN w' u (m*n)∧Bl w w':=by
 have Qc:=IV (la+lb) (by omega) w;rw[show((la+lb:Nat):Int)=(la:Int)+(lb:Int)from by omega]at Qc;obtain⟨W1,hW1⟩:∃W1,W1=w.alloc (.cells (cellsOf .u64 (List.replicate (la+lb) 0)).toArray 115):=⟨_,rfl⟩;have Qa:Bl w W1:=by rw[hW1];exact Ba w _
 have Qb:DQ W1 w.heap.size (List.replicate (la+lb) 0):=by rw[hW1];exact DQ.made (BF w _)
 rw[←hW1]at Qc;have HP:=Ja (UP w.heap.size (la+lb) (la+lb) (List.replicate (la+lb) 0) a la ca b lb cb m n W1 Qb (fun x hx=>by rw[CV hx];unfold O;omega) (by rw[Az];exact Aa _) (Aa _) (by omega) hlen (Row.below ra Qa) (Row.below rb Qa)
  (fun p e h0=>by have:=Hn ra e h0;omega) (fun p e h0=>by have:=Hn rb e h0;omega))
 clear hW1 Qb ra rb;go_enter Tryz.func127,Tryz.ntmps127
 go_wp2_with(go_at_call 168;refine HP.o.mono ?_;rintro e w5 ⟨u,rfl,⟨hu,hg5⟩,_,_⟩;obtain⟨ua,uc,rfl⟩:=UN.form hu)
 go_ret;exact⟨_,rfl,hu,below_grown Qa hg5 (Aa _)⟩
theorem Xf(va vb:Value)(x y:Int)(w:World)(ha:Jk w va x)(hb:Jk w vb y)(hl:(Ji O x.natAbs).length+(Ji O y.natAbs).length≤1099511627776):
 Calls Tryz.prog 69 #[va,vb] w fun e w'=>∃u,e=.returned u∧Jk w' u (x*y)∧Bl w w':=by
 obtain⟨a,la,ca,e0,hu⟩:=ha;cases e0;obtain⟨b,lb,cb,e0,hv⟩:=hb;cases e0;have Qd:=hu.len;have Qe:=hv.len;obtain⟨s,hs⟩:=ex (decide (x<0));obtain⟨t,ht⟩:=ex (decide (y<0));have Qc:(if(!(s==t))=true then -((x.natAbs*y.natAbs:Nat):Int)else((x.natAbs*y.natAbs:Nat):Int))=x*y:=by
  rw[←hs,←ht,←CT];rcases Int.lt_trichotomy x 0 with hx|hx|hx<;>rcases Int.lt_trichotomy y 0 with hy|hy|hy
  · have:=Int.mul_pos_of_neg_of_neg hx hy;simp[hx,hy];omega
  · subst hy;simp
  · have:=Int.mul_neg_of_neg_of_pos hx hy;have h1:¬y<0:=by omega
    simp[hx,h1];omega
  · subst hx;simp
  · subst hx;simp
  · subst hx;simp
  · have:=Int.mul_neg_of_pos_of_neg hx hy;have h1:¬x<0:=by omega
    simp[hy,h1];omega
  · subst hy;simp
  · have:=Int.mul_pos hx hy;have h1:¬x<0:=by omega
    have h2:¬y<0:=by omega
    simp[h1,h2];omega
 rw[hs,ht];obtain⟨W0,hW0⟩:=ex (((w.alloc (.cells #[.bool s,.slice a la ca] 35)).alloc (.cells #[.bool t,.slice b lb cb] 35)).alloc (.cells #[.bool false,.slice none 0 0] 35));have Qa:Bl w W0:=by rw[←hW0];exact Hh w _ _ _
 have b0:Jo W0 w.heap.size 35 (.bool s) (.slice a la ca):=by rw[←hW0];exact((Jo.new w _ _ _).alloc _).alloc _
 have b1:Jo W0 (w.heap.size+1) 35 (.bool t) (.slice b lb cb):=by
  have h:=(Jo.new (w.alloc (.cells #[.bool s,.slice a la ca] 35)) 35 (.bool t) (.slice b lb cb)).alloc (.cells #[.bool false,.slice none 0 0] 35);rw[BA,hW0]at h;exact h
 have bR:Jo W0 (w.heap.size+1+1) 35 (.bool false) (.slice none 0 0):=by
  have h:=Jo.new ((w.alloc (.cells #[.bool s,.slice a la ca] 35)).alloc (.cells #[.bool t,.slice b lb cb] 35)) 35 (.bool false) (.slice none 0 0);rw[BA,BA,hW0]at h;exact h
 have HT:=Ja (fun(V:World) (h:Bl W0 V)=>Ve a la ca b lb cb _ _ V (by omega) (UN.below (UN.below hu Qa) h) (UN.below (UN.below hv Qa) h));have HS:=Ja (fun(V:World) (u:Value) (hu:UN V u (x.natAbs*y.natAbs))=>show Calls Tryz.prog 72 #[.bool (!(s==t)),u] V fun e w'=>∃u,e=.returned u∧Jk w' u (x*y)∧Bl V w' by
  have h1:=IR (!(s==t)) u _ V hu;rw[Qc]at h1;exact h1)
 clear hu hv Qc hs ht Qd Qe hl;go_enter Tryz.func69,Tryz.ntmps69
 go_wp2_with fail
 try rw[hW0]
 clear hW0;have hq:Bl W0 W0.drew:=(BG _ W0).drew;obtain⟨k0,k1⟩:=b0.cp;obtain⟨k2,k3⟩:=b1.cp;have ne2:¬(w.heap.size=w.heap.size+1+1):=by omega
 go_region_held3 (fun w'=>w'.cell? ⟨w.heap.size,0,none⟩=some (.bool s)∧w'.cell? ⟨w.heap.size,1,none⟩=some (.slice a la ca)∧w'.cell? ⟨w.heap.size+1,0,none⟩=some (.bool t)∧w'.cell? ⟨w.heap.size+1,1,none⟩=some (.slice b lb cb)) (refine⟨?_,?_,?_,?_⟩<;>(first|(go_keep;done)|((repeat rw[J9 (by omega)]);simp[*];done)))
  (first
   |(go_at_call 127;refine(HT.o _ hq).mono ?_;rintro e w1 ⟨u1,rfl,hu1,hb1⟩;obtain⟨na,nc,rfl⟩:=UN.form hu1;have hq:=Bt hq hb1;obtain⟨k0,k1⟩:=(b0.below hq).cp;obtain⟨k2,k3⟩:=(b1.below hq).cp)
   |(go_at_call 72;refine(HS.o _ _ hu1).mono ?_;rintro e w2 ⟨u2,rfl,hu2,hb2⟩;obtain⟨sa,sl,sc,rfl⟩:=hu2.form;obtain⟨s2,hs2⟩:=ex (decide (x*y<0));rw[hs2]at hu2;rw[hs2];clear hs2;have hq:=Bt hq hb2;obtain⟨k0,k1⟩:=(b0.below hq).cp;obtain⟨k2,k3⟩:=(b1.below hq).cp;obtain⟨r0,r1⟩:=(bR.below hq).cp;obtain⟨f0,f1⟩:=(bR.below hq).fp))
 all_goals go_wp2_with fail
 have Qf:=Bt Qa hq;have Qb:=hu2.box (bR.below hq) rfl rfl (x0:=.bool s2) (x1:=.slice sa sl sc);exact BB (v:=.agg #[.bool s2,.slice sa sl sc]) (by simp[results,Tryz.results69,go_sem,r0,r1]) rfl ⟨_,rfl,Qb,(Qf.setCell (p:=⟨_,0,none⟩) (by simp only;omega) _).setCell (p:=⟨_,1,none⟩) (by simp only;omega) _⟩
end
namespace M3
structure Dat where
 ty:TypeId
 has:World→Value→Prop
 noPoly:Bool
 below:∀ {V V':World} {v:Value},has V v→Bl V V'→has V' v
 keep:∀ {V V':World} {v:Value},has V v→(∀k v ds,Row k V v ds→Row k V' v ds)→(noPoly=true∨∀v qs,RowK true V v qs→RowK true V' v qs)→has V' v
def Dat.int(z:Int):Dat where
 ty:=35
 has V v:=Jk V v z
 noPoly:=true
 below h hb:=Jk.below h hb
 keep h hk _:=by
  obtain⟨a,l,c,e,hr⟩:=h;exact⟨a,l,c,e,hk _ _ _ hr⟩
def Dat.rat(q:Rat):Dat where
 ty:=37
 has V v:=Jg V v q
 noPoly:=true
 below h hb:=Jg.below h hb
 keep h hk _:=by
  obtain⟨s,a,l,c,t,b,k,d,e,⟨a1,l1,c1,e1,h1⟩,⟨a2,l2,c2,e2,h2⟩⟩:=h;exact⟨s,a,l,c,t,b,k,d,e,⟨a1,l1,c1,e1,hk _ _ _ h1⟩,⟨a2,l2,c2,e2,hk _ _ _ h2⟩⟩
def Dat.ref(q:Rat):Dat where
 ty:=47
 has V v:=F9 V v q
 noPoly:=true
 below h hb:=F9.below h hb
 keep h hk _:=by
  obtain⟨s,a,l,c,t,b,k,d,e,⟨a1,l1,c1,e1,h1⟩,⟨a2,l2,c2,e2,h2⟩⟩:=h;exact⟨s,a,l,c,t,b,k,d,e,⟨a1,l1,c1,e1,hk _ _ _ h1⟩,⟨a2,l2,c2,e2,hk _ _ _ h2⟩⟩
def Dat.rats(qs:List Rat):Dat where
 ty:=37
 has V v:=∃cs,v=.agg cs∧∀j,j<qs.length→∃x y z u,cs[j*4]?=some x∧cs[j*4+1]?=some y∧cs[j*4+2]?=some z∧cs[j*4+3]?=some u∧D9 true V (.agg #[x,y,z,u]) (cf qs j)
 noPoly:=true
 below h hb:=by
  obtain⟨cs,e,h⟩:=h;refine⟨cs,e,fun j hj=>?_⟩;obtain⟨x,y,z,u,e0,e1,e2,e3,h3⟩:=h j hj;exact⟨x,y,z,u,e0,e1,e2,e3,h3.below hb⟩
 keep h hk _:=by
  obtain⟨cs,e,h⟩:=h;refine⟨cs,e,fun j hj=>?_⟩;obtain⟨x,y,z,u,e0,e1,e2,e3,h3⟩:=h j hj;exact⟨x,y,z,u,e0,e1,e2,e3,h3.keep hk⟩
def Dat.poly(ps:List Rat):Dat where
 ty:=25
 has V v:=Je V v ps
 noPoly:=false
 below h hb:=Je.below h hb
 keep h _ hp:=by
  rcases hp with hp|hp
  · cases hp
  · obtain⟨u,e,h1⟩:=h;exact⟨u,e,hp _ _ h1⟩
def Dat.cell(t:TypeId)(x:Value):Dat where
 ty:=t
 has _ v:=v=.agg #[x]∧JC x=true
 noPoly:=true
 below h _:=h
 keep h _ _:=h
def Has(V:World)(v:Value)(d:Dat):Prop:=d.has V v
theorem Has.below{V V':World}{v:Value}{d:Dat}(h:Has V v d)(hb:Bl V V'):Has V' v d:=d.below h hb
theorem Has.alloc{V:World}{v:Value}{d:Dat}(h:Has V v d)(o:Obj):Has (V.alloc o) v d:=h.below (Ba V o)
theorem Has.keep{V V':World}{v:Value}{d:Dat}(h:Has V v d)(hk:∀k v ds,Row k V v ds→Row k V' v ds)(hp:d.noPoly=true∨∀v qs,RowK true V v qs→RowK true V' v qs):Has V' v d:=d.keep h hk hp
def Bx(V:World)(B:Nat)(t:TypeId)(cs:Array Value):Prop:=V.heap[B]?=some (.cells cs t (0,0))
theorem Bx.lt{V:World}{B:Nat}{t:TypeId}{cs:Array Value}(h:Bx V B t cs):B<V.heap.size:=(Ab.1 h).1
theorem Bx.below{V V':World}{B:Nat}{t:TypeId}{cs:Array Value}(h:Bx V B t cs)(hb:Bl V V'):Bx V' B t cs:=(hb.block B h.lt).trans h
theorem Bx.far{V:World}{B:Nat}{t:TypeId}{cs:Array Value}(h:Bx V B t cs){p:Addr}(hp:B≠p.block)(u:Value):Bx (V.setCell p u) B t cs:=(BC V p u B hp).trans h
def noPoly:List (Option (Nat × Dat))→Bool
 |[]=>true
 |some (_,d)::t=>d.noPoly&&noPoly t
 |Option.none::t=>noPoly t
theorem Pd{bs:List (Option (Nat × Dat))}(h:noPoly bs=true){i:Nat}{x:Nat × Dat}(e:bs[i]?=some (some x)):x.2.noPoly=true:=by
 induction bs generalizing i with
 |nil=>simp at e
 |cons b t ih=>
  cases b with
  |none=>
   cases i with
   |zero=>simp at e
   |succ i=>exact ih h (by simpa using e)
  |some y=>
   rw[noPoly,Co]at h;cases i with
   |zero=>simp at e;rw[←e];exact h.1
   |succ i=>exact ih h.2 (by simpa using e)
def Mem(w V:World)(bs:List (Option (Nat × Dat))):Prop:=
 (∀(i:Nat) B d,bs[i]?=some (some (B,d))→(∃cs,Bx V B d.ty cs∧Has V (.agg cs) d)∧w.heap.size≤B)∧
 (∀(i j:Nat) B d d',bs[i]?=some (some (B,d))→bs[j]?=some (some (B,d'))→i=j)∧Bl w V
theorem Mem.nil(w:World):Mem w w []:=⟨fun i B z h=>by simp at h,fun i j B z z' h=>by simp at h,BG _ w⟩
theorem Mem.int{w V:World}{bs:List (Option (Nat × Dat))}(M:Mem w V bs){i B:Nat}{z:Int}(h:bs[i]?=some (some (B,.int z))):∃s a l c,Jo V B 35 (.bool s) (.slice a l c)∧Jk V (.agg #[.bool s,.slice a l c]) z:=by
 obtain⟨⟨cs,h1,h2⟩,_⟩:=M.1 i B _ h;obtain⟨a,l,c,e,hu⟩:=h2;cases e;exact⟨_,a,l,c,h1,a,l,c,rfl,hu⟩
theorem Mem.rat{w V:World}{bs:List (Option (Nat × Dat))}(M:Mem w V bs){i B:Nat}{q:Rat}(h:bs[i]?=some (some (B,.rat q))):
 ∃s a l c t b k d,JF V B 37 (.bool s) (.slice a l c) (.bool t) (.slice b k d)∧Jg V (.agg #[.bool s,.slice a l c,.bool t,.slice b k d]) q∧Jk V (.agg #[.bool s,.slice a l c]) q.num∧Jk V (.agg #[.bool t,.slice b k d]) (Dr q):=by
 obtain⟨⟨cs,h1,h2⟩,_⟩:=M.1 i B _ h;have h3:=h2;obtain⟨s,a,l,c,t,b,k,d,e,g1,g2⟩:=h2;cases e;exact⟨s,a,l,c,t,b,k,d,h1,h3,g1,g2⟩
theorem Mem.below{w V V':World}{bs:List (Option (Nat × Dat))}(M:Mem w V bs)(hb:Bl V V'):Mem w V' bs:=
 ⟨fun i B z h=>by
  obtain⟨⟨cs,h1,h2⟩,h3⟩:=M.1 i B z h;exact⟨⟨cs,h1.below hb,h2.below hb⟩,h3⟩,M.2.1,Bt M.2.2 hb⟩
theorem Mem.drew{w V:World}{bs:List (Option (Nat × Dat))}(M:Mem w V bs):Mem w V.drew bs:=M.below ((BG _ V).drew)
theorem Mem.sub{w V:World}{bs cs:List (Option (Nat × Dat))}(M:Mem w V bs)(f:Nat→Nat)(hf:∀(i j:Nat),f i=f j→i=j)(h:∀(i:Nat) x,cs[i]?=some (some x)→bs[f i]?=some (some x)):Mem w V cs:=
 ⟨fun i B d h1=>M.1 (f i) B d (h i _ h1),fun i j B d d' h1 h2=>hf i j (M.2.1 (f i) (f j) B d d' (h i _ h1) (h j _ h2)),M.2.2⟩
theorem Mem.take{w V:World}{bs:List (Option (Nat × Dat))}(M:Mem w V bs)(n:Nat):Mem w V (bs.take n):=by
 refine M.sub id (fun _ _ h=>h) (fun i x h=>?_);rw[Fe]at h;split at h
 · exact h
 · cases h
theorem Mem.none{w V:World}{bs:List (Option (Nat × Dat))}(M:Mem w V bs):Mem w V (bs++[Option.none]):=by
 refine M.sub id (fun _ _ h=>h) (fun i x h=>?_);by_cases hi:i<bs.length
 · rwa[A4 hi]at h
 · rw[AR (by omega)]at h;obtain⟨k,hk⟩:=ex (i-bs.length);rw[hk]at h;cases k<;>simp at h
theorem Mem.fill{w V:World}{bs:List (Option (Nat × Dat))}(M:Mem w V bs){i:Nat}(h:bs[i]?=some Option.none){cs:Array Value}(d:Dat)(hd:Has V (.agg cs) d):
 Mem w (V.alloc (.cells cs d.ty)) (bs.set i (some (V.heap.size,d))):=by
 have Qb:Bl V (V.alloc (.cells cs d.ty)):=Ba V _;have Qa:i<bs.length:=(Ae.1 h).1;have M2:=M.below Qb;have Qc:∀(j:Nat) B d,bs[j]?=some (some (B,d))→B<V.heap.size:=fun j B d h=>by
  obtain⟨⟨_,h1,_⟩,_⟩:=M.1 j B d h;exact h1.lt
 refine⟨fun j B d' hj=>?_,fun j k B d1 d2 h1 h2=>?_,M2.2.2⟩
 · by_cases hij:i=j
   · subst hij;rw[A3 Qa]at hj;simp at hj;obtain⟨rfl,rfl⟩:=hj;exact⟨⟨cs,BF V _,hd.below Qb⟩,M.2.2.size⟩
   · rw[AN hij]at hj;exact M2.1 j B d' hj
 · by_cases hij:i=j<;>by_cases hik:i=k
   · omega
   · subst hij;rw[A3 Qa]at h1;rw[AN hik]at h2;simp at h1;have:=Qc k B d2 h2;omega
   · subst hik;rw[A3 Qa]at h2;rw[AN hij]at h1;simp at h2;have:=Qc j B d1 h1;omega
   · rw[AN hij]at h1;rw[AN hik]at h2;exact M.2.1 j k B d1 d2 h1 h2
theorem Mem.push{w V:World}{bs:List (Option (Nat × Dat))}(M:Mem w V bs){cs:Array Value}(d:Dat)(hd:Has V (.agg cs) d):Mem w (V.alloc (.cells cs d.ty)) (bs++[some (V.heap.size,d)]):=by
 have h:=M.none.fill (i:=bs.length) (by simp) d hd;rwa[Pa]at h
theorem Mem.repl{w V V':World}{bs:List (Option (Nat × Dat))}(M:Mem w V bs){i B:Nat}{d:Dat}(h:bs[i]?=some (some (B,d))){cs:Array Value}(d':Dat)(hc:Bx V' B d'.ty cs)(hd:Has V (.agg cs) d')
(hk:∀k v ds,Row k V v ds→Row k V' v ds)(hf:∀B' t cs,B'≠B→Bx V B' t cs→Bx V' B' t cs)(hB:Bl w V')
(hp:noPoly bs=true∨∀v qs,RowK true V v qs→RowK true V' v qs)(hp':d'.noPoly=true∨∀v qs,RowK true V v qs→RowK true V' v qs):Mem w V' (bs.set i (some (B,d'))):=by
 have Qb:i<bs.length:=(Ae.1 h).1;obtain⟨_,hw⟩:=M.1 i B d h;refine⟨fun j B' d1 hj=>?_,fun j k B' d1 d2 h1 h2=>?_,hB⟩
 · by_cases hij:i=j
   · subst hij;rw[A3 Qb]at hj;simp at hj;obtain⟨rfl,rfl⟩:=hj;exact⟨⟨cs,hc,hd.keep hk hp'⟩,hw⟩
   · rw[AN hij]at hj;obtain⟨⟨cs1,g1,g2⟩,hw1⟩:=M.1 j B' d1 hj;have Qc:B'≠B:=fun e=>hij (by rw[e]at hj;exact M.2.1 i j B d d1 h hj);exact⟨⟨cs1,hf _ _ _ Qc g1,g2.keep hk (hp.imp (fun h=>Pd h hj) id)⟩,hw1⟩
 · have Qa:∀(j:Nat) d1,(bs.set i (some (B,d')))[j]?=some (some (B',d1))→∃d3,bs[j]?=some (some (B',d3)):=fun j d1 hj=>by
    by_cases hij:i=j
    · subst hij;rw[A3 Qb]at hj;simp at hj;exact⟨d,by rw[h,hj.1]⟩
    · rw[AN hij]at hj;exact⟨d1,hj⟩
   obtain⟨d3,g1⟩:=Qa j d1 h1;obtain⟨d4,g2⟩:=Qa k d2 h2;exact M.2.1 j k B' d3 d4 g1 g2
theorem Hs{V:World}{B:Nat}{t:TypeId}{cs:Array Value}(h:Bx V B t cs){o:Nat}{x0:Value}(e:cs[o]?=some x0)(n0:JC x0=true)(r:Bool)(ht:t≠IX r)(x:Value)(v:Value)(qs:List Rat)(hr:RowK r V v qs):RowK r (V.setCell ⟨B,o,Option.none⟩ x) v qs:=by
 obtain⟨a,cap,ev,h1,h2,h3,h4⟩:=hr;refine⟨a,cap,ev,h1,h2,h3,?_⟩;rcases h4 with h4|⟨b,ea,h5⟩
 · exact Or.inl h4
 · refine Or.inr ⟨b,ea,h5.keep (BC V ⟨B,o,Option.none⟩ x b ?_) (fun _ _ _ hr=>Row.set hr (cell_of h e) n0 _)⟩;rintro rfl;obtain⟨cs',g1,_⟩:=h5;rw[show V.heap[b]?=_ from h]at g1;cases g1;exact ht rfl
theorem Vf{V:World}{B:Nat}{t:TypeId}{x0 y0:Value}(q:Jo V B t x0 y0){r:Bool}(ht:t≠IX r)(n0:JC x0=true)(n1:JC y0=true)(x y:Value):∀v qs,RowK r V v qs→RowK r ((V.setCell ⟨B,0,Option.none⟩ x).setCell ⟨B,1,Option.none⟩ y) v qs:=
 fun v qs h=>Hs (cs:=#[x,y0]) (q.set0 x) (o:=1) rfl n1 r ht y v qs (Hs (cs:=#[x0,y0]) q (o:=0) rfl n0 r ht x v qs h)
theorem keep2{V:World}{B:Nat}{t:TypeId}{x y:Value}(q:Jo V B t x y)(n0:JC x=true)(n1:JC y=true)(x' y':Value):∀k v ds,Row k V v ds→Row k ((V.setCell ⟨B,0,Option.none⟩ x').setCell ⟨B,1,Option.none⟩ y') v ds:=
 fun _ _ _ h=>Row.set (Row.set h q.c0 n0 _) (q.set0 x').c1 n1 _
theorem Mem.putInt{w V:World}{bs:List (Option (Nat × Dat))}(M:Mem w V bs){i B:Nat}{z0:Int}(h:bs[i]?=some (some (B,.int z0))){x y:Value}{z:Int}(hi:Jk V (.agg #[x,y]) z):
 Mem w ((V.setCell ⟨B,0,Option.none⟩ x).setCell ⟨B,1,Option.none⟩ y) (bs.set i (some (B,.int z))):=by
 obtain⟨s,a,l,c,hb,_⟩:=M.int h;obtain⟨_,hw⟩:=M.1 i B _ h;exact M.repl h (.int z) (cs:=#[x,y]) ((hb.set0 x).set1 y) hi (keep2 hb rfl rfl x y) (fun B' t cs hne g=>(g.far (p:=⟨B,0,Option.none⟩) hne _).far (p:=⟨B,1,Option.none⟩) hne _) ((M.2.2.setCell (p:=⟨B,0,Option.none⟩) hw _).setCell (p:=⟨B,1,Option.none⟩) hw _) (Or.inr (Vf hb (by decide) rfl rfl x y)) (Or.inl rfl)
theorem far4{V:World}{B:Nat}(x y z u:Value):∀B' t cs,B'≠B→Bx V B' t cs→Bx (put4 V B x y z u) B' t cs:=fun _ _ _ hne g=>(((g.far (p:=⟨B,0,Option.none⟩) hne _).far (p:=⟨B,1,Option.none⟩) hne _).far (p:=⟨B,2,Option.none⟩) hne _).far (p:=⟨B,3,Option.none⟩) hne _
theorem Mem.putRat{w V:World}{bs:List (Option (Nat × Dat))}(M:Mem w V bs){i B:Nat}{q0:Rat}(h:bs[i]?=some (some (B,.rat q0))){x y z u:Value}{q:Rat}(hi:Jg V (.agg #[x,y,z,u]) q)(np:noPoly bs=true:=by rfl):
 Mem w (put4 V B x y z u) (bs.set i (some (B,.rat q))):=by
 obtain⟨_,_,_,_,_,_,_,_,hb,_⟩:=M.rat h;obtain⟨_,hw⟩:=M.1 i B _ h;exact M.repl h (.rat q) (cs:=#[x,y,z,u]) (hb.put x y z u) hi (fun _ _ _ g=>Row.put4 g hb rfl rfl rfl rfl _ _ _ _) (far4 x y z u) (Jr M.2.2 hw _ _ _ _) (Or.inl np) (Or.inl rfl)
theorem Has.set2{V:World}{v:Value}{d:Dat}(h:Has V v d){B:Nat}{t:TypeId}{x y:Value}(q:Jo V B t x y)(n0:JC x=true)(n1:JC y=true)(x' y':Value)(ht:d.noPoly=true:=by rfl):Has ((V.setCell ⟨B,0,Option.none⟩ x').setCell ⟨B,1,Option.none⟩ y') v d:=h.keep (keep2 q n0 n1 x' y') (Or.inl ht)
theorem Has.put4{V:World}{v:Value}{d:Dat}(h:Has V v d){B:Nat}{t:TypeId}{x y z u:Value}(q:JF V B t x y z u)(n0:JC x=true)(n1:JC y=true)(n2:JC z=true)(n3:JC u=true)(x' y' z' u':Value)(ht:d.noPoly=true:=by rfl):Has (Go.Proofs.YtakpoihdghihmaaGreatDoor.put4 V B x' y' z' u') v d:=h.keep (fun _ _ _ g=>Row.put4 g q n0 n1 n2 n3 _ _ _ _) (Or.inl ht)
theorem Mem.ne{w V:World}{bs:List (Option (Nat × Dat))}(M:Mem w V bs)(i j:Nat){B B':Nat}{d d':Dat}(h:bs[i]?=some (some (B,d)))(h':bs[j]?=some (some (B',d')))(hij:i≠j):B≠B':=fun e=>by
 subst e;exact hij (M.2.1 i j B d d' h h')
theorem Mem.ge{w V:World}{bs:List (Option (Nat × Dat))}(M:Mem w V bs)(i:Nat){B:Nat}{d:Dat}(h:bs[i]?=some (some (B,d))):w.heap.size≤B:=(M.1 i B d h).2
def Tup2(V:World)(t:Value)(d1 d2:Dat):Prop:=∃u1 u2,t=.tuple #[u1,u2,.bool true]∧Has V u1 d1∧Has V u2 d2
theorem Tup2.below{V V':World}{t:Value}{d1 d2:Dat}(h:Tup2 V t d1 d2)(hb:Bl V V'):Tup2 V' t d1 d2:=by
 obtain⟨u1,u2,e,h1,h2⟩:=h;exact⟨u1,u2,e,h1.below hb,h2.below hb⟩
theorem Tup2.alloc{V:World}{t:Value}{d1 d2:Dat}(h:Tup2 V t d1 d2)(o:Obj):Tup2 (V.alloc o) t d1 d2:=by
 obtain⟨u1,u2,e,h1,h2⟩:=h;exact⟨u1,u2,e,h1.alloc o,h2.alloc o⟩
theorem Tup2.set2{V:World}{v:Value}{d1 d2:Dat}(h:Tup2 V v d1 d2){B:Nat}{t:TypeId}{x y:Value}(q:Jo V B t x y)(n0:JC x=true)(n1:JC y=true)(x' y':Value)(t1:d1.noPoly=true:=by rfl)(t2:d2.noPoly=true:=by rfl):Tup2 ((V.setCell ⟨B,0,Option.none⟩ x').setCell ⟨B,1,Option.none⟩ y') v d1 d2:=by
 obtain⟨u1,u2,e,h1,h2⟩:=h;exact⟨u1,u2,e,h1.set2 q n0 n1 x' y' t1,h2.set2 q n0 n1 x' y' t2⟩
theorem Mem.rats{w V:World}{bs:List (Option (Nat × Dat))}(M:Mem w V bs){i B:Nat}{qs:List Rat}(h:bs[i]?=some (some (B,.rats qs))):Dl true V B qs:=by
 obtain⟨⟨cs,h1,h2⟩,_⟩:=M.1 i B _ h;obtain⟨cs',e,h2⟩:=h2;cases e;exact⟨cs,h1,h2⟩
theorem Mem.putRats{w V:World}{bs:List (Option (Nat × Dat))}(M:Mem w V bs){i B:Nat}{qs:List Rat}(h:bs[i]?=some (some (B,.rats qs))){j:Nat}(hj:j<qs.length){x y z u:Value}{q:Rat}(hi:Jg V (.agg #[x,y,z,u]) q)(np:noPoly bs=true:=by rfl):
 Mem w (putAt V B (j*4) x y z u) (bs.set i (some (B,.rats (qs.set j q)))):=by
 have hb:=M.rats h;obtain⟨_,hw⟩:=M.1 i B _ h;obtain⟨cs,c1,c2⟩:=Dl.set (r:=true) hb hj hi;have hk:=hb.putKeep hj x y z u;have Qb:i<bs.length:=(Ae.1 h).1;refine⟨fun j' B' d1 hj'=>?_,fun j' k B' d1 d2 h1 h2=>?_,Mw M.2.2 hw _ _ _ _⟩
 · by_cases hij:i=j'
   · subst hij;rw[A3 Qb]at hj';simp at hj';obtain⟨rfl,rfl⟩:=hj';exact⟨⟨cs,c1,cs,rfl,c2⟩,hw⟩
   · rw[AN hij]at hj';obtain⟨⟨cs1,g1,g2⟩,hw1⟩:=M.1 j' B' d1 hj';have Qc:B'≠B:=fun e=>hij (by rw[e]at hj';exact M.2.1 i j' B _ d1 h hj');exact⟨⟨cs1,(KL Qc x y z u).trans g1,g2.keep hk (Or.inl (Pd np hj'))⟩,hw1⟩
 · have Qa:∀(j':Nat) d1,(bs.set i (some (B,.rats (qs.set j q))))[j']?=some (some (B',d1))→∃d3,bs[j']?=some (some (B',d3)):=fun j' d1 hj'=>by
    by_cases hij:i=j'
    · subst hij;rw[A3 Qb]at hj';simp at hj';exact⟨_,by rw[h,hj'.1]⟩
    · rw[AN hij]at hj';exact⟨d1,hj'⟩
   obtain⟨d3,g1⟩:=Qa j' d1 h1;obtain⟨d4,g2⟩:=Qa k d2 h2;exact M.2.1 j' k B' d3 d4 g1 g2
theorem Mem.cell{w V:World}{bs:List (Option (Nat × Dat))}(M:Mem w V bs){i B:Nat}{t:TypeId}{v:Value}(h:bs[i]?=some (some (B,.cell t v))):Boxed V B t v∧JC v=true:=by
 obtain⟨⟨cs,h1,h2⟩,_⟩:=M.1 i B _ h;obtain⟨e,h2⟩:=h2;cases e;exact⟨h1,h2⟩
theorem Mem.poly{w V:World}{bs:List (Option (Nat × Dat))}(M:Mem w V bs){i B:Nat}{ps:List Rat}(h:bs[i]?=some (some (B,.poly ps))):∃a l c,Boxed V B 25 (.slice a l c)∧RowK true V (.slice a l c) ps:=by
 obtain⟨⟨cs,h1,h2⟩,_⟩:=M.1 i B _ h;obtain⟨a,l,c,e⟩:=Je.form h2;cases e;exact⟨a,l,c,h1,Je.row h2⟩
theorem Mx{V:World}{B:Nat}{t:TypeId}{x:Value}(q:Boxed V B t x)(n0:JC x=true)(x':Value):∀k v ds,Row k V v ds→Row k (V.setCell ⟨B,0,Option.none⟩ x') v ds:=
 fun _ _ _ h=>Row.set h q.cell n0 _
theorem Mem.putPoly{w V:World}{bs:List (Option (Nat × Dat))}(M:Mem w V bs){i B:Nat}{p0:List Rat}(h:bs[i]?=some (some (B,.poly p0))){x:Value}{ps:List Rat}(hi:Je V (.agg #[x]) ps):
 Mem w (V.setCell ⟨B,0,Option.none⟩ x) (bs.set i (some (B,.poly ps))):=by
 obtain⟨a,l,c,hb,_⟩:=M.poly h;obtain⟨_,hw⟩:=M.1 i B _ h;have hr:∀v qs,RowK true V v qs→RowK true (V.setCell ⟨B,0,Option.none⟩ x) v qs:=Hs (cs:=#[.slice a l c]) hb (o:=0) rfl rfl true (by decide) x;exact M.repl h (.poly ps) (cs:=#[x]) (hb.set x) hi (Mx hb rfl x) (fun B' t cs hne g=>g.far (p:=⟨B,0,Option.none⟩) hne _) (M.2.2.setCell (p:=⟨B,0,Option.none⟩) hw _) (Or.inr hr) (Or.inr hr)
theorem Mem.adopt{w V V':World}{bs:List (Option (Nat × Dat))}(M:Mem w V bs)(hb:Bl V V'){g:Nat}(hg:V.heap.size≤g){qs:List Rat}(he:Dl true V' g qs):Mem w V' (bs++[some (g,.rats qs)]):=by
 have M2:=M.below hb;have Qb:∀(j:Nat) B d,bs[j]?=some (some (B,d))→B<V.heap.size:=fun j B d h=>by
  obtain⟨⟨_,h1,_⟩,_⟩:=M.1 j B d h;exact h1.lt
 have Qa:∀(j:Nat) x,(bs++[some (g,Dat.rats qs)])[j]?=some (some x)→bs[j]?=some (some x)∨(j=bs.length∧x=(g,.rats qs)):=fun j x h=>by
  by_cases hj:j<bs.length
  · rw[A4 hj]at h;exact Or.inl h
  · rw[AR (by omega)]at h;obtain⟨k,hk⟩:=ex (j-bs.length);rw[hk]at h;cases k with
    |zero=>simp at h;exact Or.inr ⟨by omega,h.symm⟩
    |succ k=>simp at h
 refine⟨fun j B d h=>?_,fun j k B d1 d2 h1 h2=>?_,M2.2.2⟩
 · rcases Qa j _ h with h|⟨_,h⟩
   · exact M2.1 j B d h
   · cases h;obtain⟨cs,c1,c2⟩:=he;exact⟨⟨cs,c1,cs,rfl,c2⟩,An M.2.2.size hg⟩
 · rcases Qa j _ h1 with h1|⟨e1,h1⟩<;>rcases Qa k _ h2 with h2|⟨e2,h2⟩
   · exact M.2.1 j k B d1 d2 h1 h2
   · cases h2;have:=Qb j _ _ h1;omega
   · cases h1;have:=Qb k _ _ h2;omega
   · omega
end M3
def Pe(W:World)(b:Nat)(xs:List Nat):Prop:=∃tl:List Value,W.heap[b]?=some (.cells (cellsOf .i64 xs++tl).toArray 3 (0,0))
theorem Pe.lt{W:World}{b:Nat}{xs:List Nat}(h:Pe W b xs):b<W.heap.size:=by obtain⟨_,h⟩:=h;exact(Ab.1 h).1
theorem J6{P:Program}{ops:Array Oper}{Q:Exit→Act→World→Prop}{i:Nat}{o:Oper}{K:Act→World→Prop}{a:Act}{w:World}(ho:ops[i]?=some o)(hw:Region.wanted o (yielded ops a.tmps)=true)
(h:∀K':Act→World→Prop,(∀a w,K a w→K' a w)→o.wp P a w K' Q):wpOp P ops Q i K a w:=by
 unfold wpOp;rw[ho];simp only[hw,if_true];exact Or.inl (h K (fun _ _ h=>h))
theorem ER{p q:Prop}(k:q)(h:Hid q→p:=by intro x;refine J6 rfl rfl fun K hK=>?_;go_simp;refine hK _ _ ?_;(repeat apply Exists.intro);refine ⟨rfl,?_⟩;exact x.o):p:=h k
theorem Yi{P:Program}{ops:Array Oper}{Q:Exit→Act→World→Prop}{i:Nat}{o:Oper}{K:Act→World→Prop}{a:Act}{w:World}(ho:ops[i]?=some o)(hw:Region.wanted o (yielded ops a.tmps)=false)
(h:K (a.put o.dst undef) w):wpOp P ops Q i K a w:=by
 unfold wpOp;rw[ho];simp only[hw];exact h

