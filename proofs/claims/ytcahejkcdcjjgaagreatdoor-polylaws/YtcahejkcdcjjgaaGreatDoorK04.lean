import Derived.Test.YtcahejkcdcjjgaaGreatDoorK03
import Derived.Deep.RegionHeld3
import Derived.Test.YtcahejkcdcjjgaaGreatDoorK02
set_option maxRecDepth 100000
set_option maxHeartbeats 16000000
namespace Go.Proofs.YtcahejkcdcjjgaaGreatDoor
open Go.RowKit Go.Shelf
def Jo (W:World) (B:Nat) (t:TypeId) (x y:Value):Prop:=W.heap[B]?=some (.cells #[x,y] t (0,0))
theorem Jo.lt {W:World} {B:Nat} {t:TypeId} {x y:Value} (h:Jo W B t x y):B<W.heap.size:=(Array.getElem?_eq_some_iff.1 h).1
theorem Jo.c0 {W:World} {B:Nat} {t:TypeId} {x y:Value} (h:Jo W B t x y):W.cell? ⟨B,0,none⟩=some x:=by simp [World.cell?,show W.heap[B]?=_ from h]
theorem Jo.c1 {W:World} {B:Nat} {t:TypeId} {x y:Value} (h:Jo W B t x y):W.cell? ⟨B,1,none⟩=some y:=by simp [World.cell?,show W.heap[B]?=_ from h]
theorem Jo.f0 {W:World} {B:Nat} {t:TypeId} {x y:Value} (h:Jo W B t x y):W.frozen? ⟨B,0,none⟩=false:=by simp [World.frozen?,show W.heap[B]?=_ from h]
theorem Jo.f1 {W:World} {B:Nat} {t:TypeId} {x y:Value} (h:Jo W B t x y):W.frozen? ⟨B,1,none⟩=false:=by simp [World.frozen?,show W.heap[B]?=_ from h]
theorem Jo.new (W:World) (t:TypeId) (x y:Value):Jo (W.alloc (.cells #[x,y] t)) W.heap.size t x y:=World.alloc_heap_new W _
theorem Jo.below {W W':World} {B:Nat} {t:TypeId} {x y:Value} (h:Jo W B t x y) (hb:Below W.heap.size W W'):Jo W' B t x y:=(hb.block B h.lt).trans h
theorem Jo.alloc {W:World} {B:Nat} {t:TypeId} {x y:Value} (h:Jo W B t x y) (o:Obj):Jo (W.alloc o) B t x y:=h.below ((Below.refl _ W).alloc (Nat.le_refl _) o)
theorem Jo.drew {W:World} {B:Nat} {t:TypeId} {x y:Value} (h:Jo W B t x y):Jo W.drew B t x y:=h
theorem Jo.set0 {W:World} {B:Nat} {t:TypeId} {x y:Value} (h:Jo W B t x y) (u:Value):Jo (W.setCell ⟨B,0,none⟩ u) B t u y:=by
 obtain ⟨hlt,hk⟩:=Array.getElem?_eq_some_iff.1 h;show (W.heap.modify B _)[B]?=_;rw [Array.getElem?_eq_getElem (by rw [Array.size_modify];exact hlt),Array.getElem_modify_self,hk];rfl
theorem Jo.set1 {W:World} {B:Nat} {t:TypeId} {x y:Value} (h:Jo W B t x y) (u:Value):Jo (W.setCell ⟨B,1,none⟩ u) B t x u:=by
 obtain ⟨hlt,hk⟩:=Array.getElem?_eq_some_iff.1 h;show (W.heap.modify B _)[B]?=_;rw [Array.getElem?_eq_getElem (by rw [Array.size_modify];exact hlt),Array.getElem_modify_self,hk];rfl
theorem Jo.far {W:World} {B:Nat} {t:TypeId} {x y:Value} (h:Jo W B t x y) {p:Addr} (hp:B≠p.block) (u:Value):Jo (W.setCell p u) B t x y:=(Below.heap_setCell W p u B hp).trans h
theorem Below.then {w W w1:World} (h:Below w.heap.size w W) (k:Below W.heap.size W w1):Below w.heap.size w w1:=h.trans (k.mono h.size)
theorem JP {w:World} {b o b' o':Nat} {u:Value} (h:b≠b'):(w.setCell ⟨b',o',none⟩ u).cell? ⟨b,o,none⟩=w.cell? ⟨b,o,none⟩:=
 World.cell?_of_block (w:=w) (Below.heap_setCell w ⟨b',o',none⟩ u b h)
def Jw:Value→Bool | .int _ _=>false | _=>true
theorem Row.set {k:IntKind} {W:World} {v:Value} {ds:List Nat} (h:Row k W v ds) {p:Addr} {u0:Value} (hp:W.cell? p=some u0) (hn:Jw u0=true) (u:Value):Row k (W.setCell p u) v ds:=by
 obtain ⟨a,cap,e,h1,h2,h2',h3⟩:=h;refine ⟨a,cap,e,h1,h2,h2',?_⟩;rcases h3 with h3 | ⟨b,off,ea,hlt,hc⟩
 · exact Or.inl h3
 · refine Or.inr ⟨b,off,ea,hlt.set p u,fun j hj=>?_⟩;have hc':=hc j hj;have hne:p≠⟨b,off+j,none⟩:=by
    intro e';rw [←e',hp] at hc';cases hc';simp [Jw] at hn
   exact (World.cell?_setCell_other (h:=hne) ..).trans hc'
theorem XN {k:IntKind} {w w2:World} {R:Nat} {t:TypeId} {u0 u1:Value} (x0 x1:Value) {v:Value} {ds:List Nat} (hB:Below w.heap.size w w2) (hR:w.heap.size≤R) (q:Jo w2 R t u0 u1) (n0:Jw u0=true) (n1:Jw u1=true) (hr:Row k w2 v ds) :
 Row k ((w2.setCell ⟨R,0,none⟩ x0).setCell ⟨R,1,none⟩ x1) v ds∧Below w.heap.size w ((w2.setCell ⟨R,0,none⟩ x0).setCell ⟨R,1,none⟩ x1):=
 ⟨Row.set (Row.set hr q.c0 n0 _) (u0:=u1) (q.set0 x0).c1 n1 _,(hB.setCell hR _).setCell hR _⟩
theorem RN.below {W W':World} {v:Value} {n:Nat} (h:RN W v n) (hb:Below W.heap.size W W'):RN W' v n:=Row.below h hb
theorem RN.form {W:World} {v:Value} {n:Nat} (h:RN W v n):∃ a cap,v=.slice a (Jd 10000 n).length cap:=by
 obtain ⟨a,cap,e,_⟩:=h;exact ⟨a,cap,e⟩
theorem Ja8 (w:World) (o1 o2 o3:Obj):Below w.heap.size w (((w.alloc o1).alloc o2).alloc o3):=
 (((Below.refl _ w).alloc (Nat.le_refl _) _).alloc (by simp) _).alloc (by simp;omega) _
theorem Jq2 {m n:Nat} (h:n≤m):0≤Y4 m n:=by
 rcases Nat.lt_or_ge n m with g | g
 · rw [Jdd g];omega
 · have:m=n:=by omega
   rw [this,Jhd];omega
theorem RN.len {W:World} {a:Option Addr} {l c n:Nat} (h:RN W (.slice a l c) n):l=(Jd 10000 n).length:=by
 obtain ⟨a',cap,e,_⟩:=h;cases e;rfl
def J4 (W:World) (v:Value) (z:Int):Prop:=∃ a l cap,v=.agg #[.slice a l cap,.bool (decide (z<0))]∧RN W (.slice a l cap) z.natAbs
theorem J4.below {W W':World} {v:Value} {z:Int} (h:J4 W v z) (hb:Below W.heap.size W W'):J4 W' v z:=by
 obtain ⟨a,l,cap,e,hr⟩:=h;exact ⟨a,l,cap,e,hr.below hb⟩
def szB (z:Int):Nat:=(Jd 10000 z.natAbs).length
theorem Jq3 (c:UInt8) (l:List UInt8):(⟨#[c]⟩:ByteArray)++⟨l.toArray⟩=⟨(c::l).toArray⟩:=by
 apply ByteArray.ext;simp [ByteArray.data_append]
theorem Jo.kept {W W':World} {row:Option Nat} {B:Nat} {t:TypeId} {x y:Value} (h:Jo W B t x y) (hg:W.grownBy W' row) (hne:some B≠row):Jo W' B t x y:=(hg.block B h.lt hne).trans h
def Jo3 (N c:Nat) (acc:List Nat):Prop:=Dig 10000 acc∧val 10000 acc+10000 ^ acc.length*c=N∧acc.length≤100∧(acc=[]∨c≠0∨10000 ^ (acc.length - 1)≤val 10000 acc)
theorem Jo3.step {N c:Nat} {acc:List Nat} (h:Jo3 N c acc) (hN:N≤9223372036854775808) (hc:c≠0):Jo3 N (c / 10000) (acc++[c % 10000]):=by
 obtain ⟨h1,h2,h3,h4⟩:=h;refine ⟨h1.append (Dig.cons (Nat.mod_lt _ (by omega)) (Dig.nil _)),?_,?_,?_⟩
 · rw [Yb,List.length_append,List.length_singleton,Nat.pow_succ,Nat.mul_assoc,Nat.add_assoc,←Nat.mul_add,Nat.mod_add_div];exact h2
 · rcases Nat.lt_or_ge acc.length 20 with h | h
   · simp;omega
   · have g1:(10000:Nat) ^ 20≤10000 ^ acc.length:=Nat.pow_le_pow_right (by omega) h;have g2:10000 ^ acc.length*1≤10000 ^ acc.length*c:=Nat.mul_le_mul_left _ (by omega);have g3:(10000:Nat) ^ 20=100000000000000000000000000000000000000000000000000000000000000000000000000000000:=by decide
     omega
 · right
   by_cases g:c / 10000=0
   · right
     rw [List.length_append,List.length_singleton,Nat.add_sub_cancel,Yb];have:c % 10000≠0:=by omega
     have:=Nat.mul_le_mul_left (10000 ^ acc.length) (show 1≤c % 10000 by omega);omega
   · exact Or.inl g
theorem Jo3.done {N:Nat} {acc:List Nat} (h:Jo3 N 0 acc):acc=Jd 10000 N:=by
 obtain ⟨h1,h2,h3,h4⟩:=h;rw [Nat.mul_zero,Nat.add_zero] at h2;rw [←h2];refine (Yy (by omega) h1 (Jcy (by omega) h1 ?_)).symm;rcases h4 with h | h | h
 · exact Or.inl h
 · exact absurd rfl h
 · exact Or.inr h
end Go.Proofs.YtcahejkcdcjjgaaGreatDoor
