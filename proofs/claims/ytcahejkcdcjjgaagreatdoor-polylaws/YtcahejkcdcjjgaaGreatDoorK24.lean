import Derived.Test.YtcahejkcdcjjgaaGreatDoorK20
import Derived.Test.YtcahejkcdcjjgaaGreatDoorK15
import Derived.Test.YtcahejkcdcjjgaaGreatDoorK04
import Derived.Test.YtcahejkcdcjjgaaGreatDoorK16
import Derived.Test.YtcahejkcdcjjgaaGreatDoorK09
import Derived.Test.YtcahejkcdcjjgaaGreatDoorK06
import Derived.Test.YtcahejkcdcjjgaaGreatDoorK01
import Derived.Lib.SliceRun
import Derived.Deep.OwnRows
import Derived.Test.YtcahejkcdcjjgaaGreatDoorK23
import Derived.Test.YtcahejkcdcjjgaaGreatDoorK17
import Derived.Test.YtcahejkcdcjjgaaGreatDoorK18
set_option maxRecDepth 100000
set_option maxHeartbeats 16000000
namespace Go.Proofs.YtcahejkcdcjjgaaGreatDoor
open Go.RowKit Go.Shelf
theorem Jro (a:Option Addr) (cap:Nat) (w:World) :
 Calls Tryz.prog 60 #[.agg #[.bool false,.slice a 0 cap]] w fun e w'=>e=.returned (.string ⟨#[48]⟩)∧Below w.heap.size w w':=by
 have b0:=Jo.new w 36 (.bool false) (.slice a 0 cap);have k1:=b0.c1;go_enter Tryz.func60,Tryz.ntmps60
 go_wp2;go_ret;exact ⟨rfl,(Below.refl _ w).alloc (Nat.le_refl _) _⟩
theorem Jrp (s:Bool) (a:Option Addr) (l cap:Nat) (T:ByteArray) (w:World) (hl:0<l) (hT:T.size≤100000000000000)
 (HT:∀ V,Below w.heap.size w V→Calls Tryz.prog 101 #[.slice a l cap] V fun e w'=>e=.returned (.string T)∧Below V.heap.size V w') :
 Calls Tryz.prog 60 #[.agg #[.bool s,.slice a l cap]] w fun e w'=>e=.returned (.string (if s then (⟨#[45]⟩:ByteArray)++T else T))∧Below w.heap.size w w':=by
 have b0:=Jo.new w 36 (.bool s) (.slice a l cap);have hB0:Below w.heap.size w (w.alloc (.cells #[.bool s,.slice a l cap] 36)):=(Below.refl _ w).alloc (Nat.le_refl _) _;have k0:=b0.c0;have k1:=b0.c1;have hl0:¬ l=0:=by omega
 have HTH:=Ja HT;clear HT;cases s;all_goals
  go_enter Tryz.func60,Tryz.ntmps60
  go_wp2_with (go_at_call 101;refine (HTH.out _ hB0).mono ?_;rintro e w1 ⟨rfl,hb1⟩)
  go_ret;exact ⟨by simp,Below.then hB0 hb1⟩
theorem Jb5 (n:Nat):(Xt n).length≤20*(Jd B64 n).length+1:=by
 unfold Xt;split
 · simp
 · rw [Jfb];have h1:n<B64 ^ (Jd B64 n).length:=by
    have:=J2 (Jq Jc n);rwa [Jn Jc] at this
   have h2:B64 ^ (Jd B64 n).length≤10 ^ (20*(Jd B64 n).length):=by
    rw [Nat.pow_mul];exact Nat.pow_le_pow_left (by unfold B64;omega) _
   have:=JN (B:=10) (by omega) (Nat.lt_of_lt_of_le h1 h2);omega
theorem Jir (v:Value) (z:Int) (w:World) (h:Jh w v z) (htab:Lib.TabIs Tryz.prog w "internal/strconv.uint64pow10" .u64 Lib.pow10Tab) :
 Calls Tryz.prog 60 #[v] w fun e w'=>e=.returned (.string ⟨(XB z).toArray⟩)∧Below w.heap.size w w':=by
 obtain ⟨a,l,cap,rfl,hu⟩:=h;have hl:=hu.len;by_cases h0:z.natAbs=0
 · have hz:z=0:=by omega
   subst hz;have hl0:l=0:=by rw [hl];simp [Jz]
   subst hl0;exact Jro a cap w
 · have hlp:0<l:=by rw [hl];exact Ja9.2 h0
   refine (Jrp _ a l cap ⟨(Xt z.natAbs).toArray⟩ w hlp (by
    have h1:=Jb5 z.natAbs;have h2:=(Jr hu).2.2.2.1;show (Xt z.natAbs).toArray.size≤_;rw [List.size_toArray];omega) (fun V hV=>Jrj a l cap z.natAbs V (Row.below hu hV) h0 (JE htab hV))).mono ?_
   rintro e w' ⟨rfl,hB⟩;refine ⟨?_,hB⟩;congr 2;unfold XB;by_cases hz:z<0
   · simp only [hz,decide_true,if_true];exact Jq3 _ _
   · simp only [hz,decide_false,if_false,Bool.false_eq_true]
end Go.Proofs.YtcahejkcdcjjgaaGreatDoor
namespace Go.Proofs.YtcahejkcdcjjgaaGreatDoor
open Go.RowKit Go.Shelf
attribute [local go_sem] Oper.semAt_some
theorem Jh.set {W:World} {v:Value} {z:Int} (h:Jh W v z) {p:Addr} {u0:Value} (hp:W.cell? p=some u0) (hn:Jw u0=true) (u:Value):Jh (W.setCell p u) v z:=by
 obtain ⟨a,l,cap,e,hr⟩:=h;exact ⟨a,l,cap,e,Row.set hr hp hn u⟩
theorem Jh.form {W:World} {v:Value} {z:Int} (h:Jh W v z):∃ a l cap,v=.agg #[.bool (decide (z<0)),.slice a l cap]:=by
 obtain ⟨a,l,cap,e,_⟩:=h;exact ⟨a,l,cap,e⟩
theorem Jh.alloc {W:World} {v:Value} {z:Int} (h:Jh W v z) (o:Obj):Jh (W.alloc o) v z:=h.below ((Below.refl _ W).alloc (Nat.le_refl _) o)
theorem Jh.drew {W:World} {v:Value} {z:Int} (h:Jh W v z):Jh W.drew v z:=h
theorem Jh.box {W:World} {R:Nat} {t:TypeId} {u0 u1 x0 x1 v:Value} {z:Int} (h:Jh W v z) (q:Jo W R t u0 u1) (n0:Jw u0=true) (n1:Jw u1=true):Jh ((W.setCell ⟨R,0,none⟩ x0).setCell ⟨R,1,none⟩ x1) v z:=by
 obtain ⟨a,l,cap,e,hr⟩:=h;exact ⟨a,l,cap,e,Row.set (Row.set hr q.c0 n0 _) (u0:=u1) (q.set0 x0).c1 n1 _⟩
end Go.Proofs.YtcahejkcdcjjgaaGreatDoor
namespace Go.Proofs.YtcahejkcdcjjgaaGreatDoor
open Go.RowKit Go.Shelf
def Js (W:World) (B:Nat) (t:TypeId) (x y z u:Value):Prop:=W.heap[B]?=some (.cells #[x,y,z,u] t (0,0))
section
variable {W W':World} {B:Nat} {t:TypeId} {x y z u:Value}
theorem Js.lt (h:Js W B t x y z u):B<W.heap.size:=(Array.getElem?_eq_some_iff.1 h).1
theorem Js.c0 (h:Js W B t x y z u):W.cell? ⟨B,0,none⟩=some x:=by simp [World.cell?,show W.heap[B]?=_ from h]
theorem Js.c1 (h:Js W B t x y z u):W.cell? ⟨B,1,none⟩=some y:=by simp [World.cell?,show W.heap[B]?=_ from h]
theorem Js.c2 (h:Js W B t x y z u):W.cell? ⟨B,2,none⟩=some z:=by simp [World.cell?,show W.heap[B]?=_ from h]
theorem Js.c3 (h:Js W B t x y z u):W.cell? ⟨B,3,none⟩=some u:=by simp [World.cell?,show W.heap[B]?=_ from h]
theorem Js.f0 (h:Js W B t x y z u):W.frozen? ⟨B,0,none⟩=false:=by simp [World.frozen?,show W.heap[B]?=_ from h]
theorem Js.f1 (h:Js W B t x y z u):W.frozen? ⟨B,1,none⟩=false:=by simp [World.frozen?,show W.heap[B]?=_ from h]
theorem Js.f2 (h:Js W B t x y z u):W.frozen? ⟨B,2,none⟩=false:=by simp [World.frozen?,show W.heap[B]?=_ from h]
theorem Js.f3 (h:Js W B t x y z u):W.frozen? ⟨B,3,none⟩=false:=by simp [World.frozen?,show W.heap[B]?=_ from h]
theorem Js.new (W:World) (t:TypeId) (x y z u:Value):Js (W.alloc (.cells #[x,y,z,u] t)) W.heap.size t x y z u:=World.alloc_heap_new W _
theorem Js.below (h:Js W B t x y z u) (hb:Below W.heap.size W W'):Js W' B t x y z u:=(hb.block B h.lt).trans h
theorem Js.alloc (h:Js W B t x y z u) (o:Obj):Js (W.alloc o) B t x y z u:=h.below ((Below.refl _ W).alloc (Nat.le_refl _) o)
theorem Js.drew (h:Js W B t x y z u):Js W.drew B t x y z u:=h
theorem Js.set0 (h:Js W B t x y z u) (v:Value):Js (W.setCell ⟨B,0,none⟩ v) B t v y z u:=by
 obtain ⟨hlt,hk⟩:=Array.getElem?_eq_some_iff.1 h;show (W.heap.modify B _)[B]?=_;rw [Array.getElem?_eq_getElem (by rw [Array.size_modify];exact hlt),Array.getElem_modify_self,hk];rfl
theorem Js.set1 (h:Js W B t x y z u) (v:Value):Js (W.setCell ⟨B,1,none⟩ v) B t x v z u:=by
 obtain ⟨hlt,hk⟩:=Array.getElem?_eq_some_iff.1 h;show (W.heap.modify B _)[B]?=_;rw [Array.getElem?_eq_getElem (by rw [Array.size_modify];exact hlt),Array.getElem_modify_self,hk];rfl
theorem Js.set2 (h:Js W B t x y z u) (v:Value):Js (W.setCell ⟨B,2,none⟩ v) B t x y v u:=by
 obtain ⟨hlt,hk⟩:=Array.getElem?_eq_some_iff.1 h;show (W.heap.modify B _)[B]?=_;rw [Array.getElem?_eq_getElem (by rw [Array.size_modify];exact hlt),Array.getElem_modify_self,hk];rfl
theorem Js.set3 (h:Js W B t x y z u) (v:Value):Js (W.setCell ⟨B,3,none⟩ v) B t x y z v:=by
 obtain ⟨hlt,hk⟩:=Array.getElem?_eq_some_iff.1 h;show (W.heap.modify B _)[B]?=_;rw [Array.getElem?_eq_getElem (by rw [Array.size_modify];exact hlt),Array.getElem_modify_self,hk];rfl
theorem Js.far (h:Js W B t x y z u) {p:Addr} (hp:B≠p.block) (v:Value):Js (W.setCell p v) B t x y z u:=(Below.heap_setCell W p v B hp).trans h
end
def put4 (W:World) (B:Nat) (x y z u:Value):World:=(((W.setCell ⟨B,0,none⟩ x).setCell ⟨B,1,none⟩ y).setCell ⟨B,2,none⟩ z).setCell ⟨B,3,none⟩ u
theorem Js.put {W:World} {B:Nat} {t:TypeId} {x y z u:Value} (h:Js W B t x y z u) (x' y' z' u':Value):Js (put4 W B x' y' z' u') B t x' y' z' u':=(((h.set0 x').set1 y').set2 z').set3 u'
theorem Js.putFar {W:World} {B C:Nat} {t:TypeId} {x y z u:Value} (h:Js W B t x y z u) (hn:B≠C) (x' y' z' u':Value):Js (put4 W C x' y' z' u') B t x y z u:=(((h.far hn x').far hn y').far hn z').far hn u'
theorem Jo.putFar {W:World} {B C:Nat} {t:TypeId} {x y:Value} (h:Jo W B t x y) (hn:B≠C) (x' y' z' u':Value):Jo (put4 W C x' y' z' u') B t x y:=(((h.far hn x').far hn y').far hn z').far hn u'
theorem Jt {n B:Nat} {w W:World} (h:Below n w W) (hB:n≤B) (x y z u:Value):Below n w (put4 W B x y z u):=(((h.setCell (p:=⟨B,0,none⟩) hB _).setCell (p:=⟨B,1,none⟩) hB _).setCell (p:=⟨B,2,none⟩) hB _).setCell (p:=⟨B,3,none⟩) hB _
theorem Row.put4 {k:IntKind} {W:World} {v:Value} {ds:List Nat} (h:Row k W v ds) {B:Nat} {t:TypeId} {x y z u:Value} (q:Js W B t x y z u) (n0:Jw x=true) (n1:Jw y=true) (n2:Jw z=true) (n3:Jw u=true) (x' y' z' u':Value):Row k (put4 W B x' y' z' u') v ds:=
 Row.set (Row.set (Row.set (Row.set h q.c0 n0 _) (q.set0 x').c1 n1 _) ((q.set0 x').set1 y').c2 n2 _) (((q.set0 x').set1 y').set2 z').c3 n3 _
theorem Jh.put4 {W:World} {v:Value} {i:Int} (h:Jh W v i) {B:Nat} {t:TypeId} {x y z u:Value} (q:Js W B t x y z u) (n0:Jw x=true) (n1:Jw y=true) (n2:Jw z=true) (n3:Jw u=true) (x' y' z' u':Value):Jh (put4 W B x' y' z' u') v i:=by
 obtain ⟨a,l,cap,e,hr⟩:=h;exact ⟨a,l,cap,e,Row.put4 hr q n0 n1 n2 n3 _ _ _ _⟩
theorem J4.put4 {W:World} {v:Value} {i:Int} (h:J4 W v i) {B:Nat} {t:TypeId} {x y z u:Value} (q:Js W B t x y z u) (n0:Jw x=true) (n1:Jw y=true) (n2:Jw z=true) (n3:Jw u=true) (x' y' z' u':Value):J4 (put4 W B x' y' z' u') v i:=by
 obtain ⟨a,l,cap,e,hr⟩:=h;exact ⟨a,l,cap,e,Row.put4 hr q n0 n1 n2 n3 _ _ _ _⟩
def Jf (W:World) (v:Value) (q:Rat):Prop:=∃ s a l c t b k d,v=.agg #[.bool s,.slice a l c,.bool t,.slice b k d]∧Jh W (.agg #[.bool s,.slice a l c]) q.num∧Jh W (.agg #[.bool t,.slice b k d]) (denZ q)
theorem Jf.below {W W':World} {v:Value} {q:Rat} (h:Jf W v q) (hb:Below W.heap.size W W'):Jf W' v q:=by
 obtain ⟨s,a,l,c,t,b,k,d,e,h1,h2⟩:=h;exact ⟨s,a,l,c,t,b,k,d,e,h1.below hb,h2.below hb⟩
theorem Jf.put4 {W:World} {v:Value} {p:Rat} (h:Jf W v p) {B:Nat} {t:TypeId} {x y z u:Value} (q:Js W B t x y z u) (n0:Jw x=true) (n1:Jw y=true) (n2:Jw z=true) (n3:Jw u=true) (x' y' z' u':Value):Jf (put4 W B x' y' z' u') v p:=by
 obtain ⟨s,a,l,c,t,b,k,d,e,h1,h2⟩:=h;exact ⟨s,a,l,c,t,b,k,d,e,h1.put4 q n0 n1 n2 n3 _ _ _ _,h2.put4 q n0 n1 n2 n3 _ _ _ _⟩
def Yi (W:World) (v:Value) (q:Rat):Prop:=∃ a l c s b k d t,v=.agg #[.slice a l c,.bool s,.slice b k d,.bool t]∧J4 W (.agg #[.slice a l c,.bool s]) q.num∧J4 W (.agg #[.slice b k d,.bool t]) (q.den:Int)
theorem Yi.below {W W':World} {v:Value} {q:Rat} (h:Yi W v q) (hb:Below W.heap.size W W'):Yi W' v q:=by
 obtain ⟨s,a,l,c,t,b,k,d,e,h1,h2⟩:=h;exact ⟨s,a,l,c,t,b,k,d,e,h1.below hb,h2.below hb⟩
theorem Yi.put4 {W:World} {v:Value} {p:Rat} (h:Yi W v p) {B:Nat} {t:TypeId} {x y z u:Value} (q:Js W B t x y z u) (n0:Jw x=true) (n1:Jw y=true) (n2:Jw z=true) (n3:Jw u=true) (x' y' z' u':Value):Yi (put4 W B x' y' z' u') v p:=by
 obtain ⟨s,a,l,c,t,b,k,d,e,h1,h2⟩:=h;exact ⟨s,a,l,c,t,b,k,d,e,h1.put4 q n0 n1 n2 n3 _ _ _ _,h2.put4 q n0 n1 n2 n3 _ _ _ _⟩
end Go.Proofs.YtcahejkcdcjjgaaGreatDoor
namespace Go.Proofs.YtcahejkcdcjjgaaGreatDoor
open Go.RowKit Go.Shelf
inductive Dat
 | int (z:Int)
 | rat (q:Rat)
 | big (z:Int)
 | ref (q:Rat)
 | zref
 | pair (x y:Int)
def Dat.ty:Dat→TypeId
 | .int _=>36
 | .rat _=>38
 | .big _=>47
 | .ref _=>49
 | .zref=>49
 | .pair _ _=>38
def Y9 (W:World) (v:Value) (x y:Int):Prop:=∃ s a l c t b k d,v=.agg #[.bool s,.slice a l c,.bool t,.slice b k d]∧Jh W (.agg #[.bool s,.slice a l c]) x∧Jh W (.agg #[.bool t,.slice b k d]) y
theorem Jf.pair {W:World} {v:Value} {q:Rat} (h:Jf W v q):Y9 W v q.num (denZ q):=h
theorem Y9.form {W:World} {v:Value} {x y:Int} (h:Y9 W v x y):∃ s a l c t b k d,v=.agg #[.bool s,.slice a l c,.bool t,.slice b k d]:=by
 obtain ⟨s,a,l,c,t,b,k,d,e,_⟩:=h;exact ⟨s,a,l,c,t,b,k,d,e⟩
theorem Y9.below {W W':World} {v:Value} {x y:Int} (h:Y9 W v x y) (hb:Below W.heap.size W W'):Y9 W' v x y:=by
 obtain ⟨s,a,l,c,t,b,k,d,e,h1,h2⟩:=h;exact ⟨s,a,l,c,t,b,k,d,e,h1.below hb,h2.below hb⟩
def Has (V:World) (v:Value):Dat→Prop
 | .int z=>Jh V v z
 | .rat q=>Jf V v q
 | .big z=>J4 V v z
 | .ref q=>Yi V v q
 | .zref=>v=.agg #[.slice none 0 0,.bool false,.slice none 0 0,.bool false]
 | .pair x y=>Y9 V v x y
theorem Has.below {V V':World} {v:Value} {d:Dat} (h:Has V v d) (hb:Below V.heap.size V V'):Has V' v d:=by
 cases d with
 | int z=>exact Jh.below h hb
 | rat q=>exact Jf.below h hb
 | big z=>exact J4.below h hb
 | ref q=>exact Yi.below h hb
 | zref=>exact h
 | pair x y=>exact Y9.below h hb
theorem Has.alloc {V:World} {v:Value} {d:Dat} (h:Has V v d) (o:Obj):Has (V.alloc o) v d:=h.below ((Below.refl _ V).alloc (Nat.le_refl _) o)
theorem Has.keep {V V':World} {v:Value} {d:Dat} (h:Has V v d) (hk:∀ k v ds,Row k V v ds→Row k V' v ds):Has V' v d:=by
 cases d with
 | zref=>exact h
 | pair x y=>
  obtain ⟨s,a,l,c,t,b,k,d,e,⟨a1,l1,c1,e1,h1⟩,⟨a2,l2,c2,e2,h2⟩⟩:=h;exact ⟨s,a,l,c,t,b,k,d,e,⟨a1,l1,c1,e1,hk _ _ _ h1⟩,⟨a2,l2,c2,e2,hk _ _ _ h2⟩⟩
 | int z=>obtain ⟨a,l,c,e,hr⟩:=h;exact ⟨a,l,c,e,hk _ _ _ hr⟩
 | big z=>obtain ⟨a,l,c,e,hr⟩:=h;exact ⟨a,l,c,e,hk _ _ _ hr⟩
 | rat q=>
  obtain ⟨s,a,l,c,t,b,k,d,e,⟨a1,l1,c1,e1,h1⟩,⟨a2,l2,c2,e2,h2⟩⟩:=h;exact ⟨s,a,l,c,t,b,k,d,e,⟨a1,l1,c1,e1,hk _ _ _ h1⟩,⟨a2,l2,c2,e2,hk _ _ _ h2⟩⟩
 | ref q=>
  obtain ⟨s,a,l,c,t,b,k,d,e,⟨a1,l1,c1,e1,h1⟩,⟨a2,l2,c2,e2,h2⟩⟩:=h;exact ⟨s,a,l,c,t,b,k,d,e,⟨a1,l1,c1,e1,hk _ _ _ h1⟩,⟨a2,l2,c2,e2,hk _ _ _ h2⟩⟩
def Bx (V:World) (B:Nat) (t:TypeId) (cs:Array Value):Prop:=V.heap[B]?=some (.cells cs t (0,0))
theorem Bx.lt {V:World} {B:Nat} {t:TypeId} {cs:Array Value} (h:Bx V B t cs):B<V.heap.size:=(Array.getElem?_eq_some_iff.1 h).1
theorem Bx.below {V V':World} {B:Nat} {t:TypeId} {cs:Array Value} (h:Bx V B t cs) (hb:Below V.heap.size V V'):Bx V' B t cs:=(hb.block B h.lt).trans h
theorem Bx.far {V:World} {B:Nat} {t:TypeId} {cs:Array Value} (h:Bx V B t cs) {p:Addr} (hp:B≠p.block) (u:Value):Bx (V.setCell p u) B t cs:=(Below.heap_setCell V p u B hp).trans h
def Mem (w V:World) (bs:List (Option (Nat × Dat))):Prop:=
 (∀ (i:Nat) B d,bs[i]?=some (some (B,d))→(∃ cs,Bx V B d.ty cs∧Has V (.agg cs) d)∧w.heap.size≤B)∧
 (∀ (i j:Nat) B d d',bs[i]?=some (some (B,d))→bs[j]?=some (some (B,d'))→i=j)∧Below w.heap.size w V
theorem Mem.nil (w:World):Mem w w []:=⟨fun i B z h=>by simp at h,fun i j B z z' h=>by simp at h,Below.refl _ w⟩
theorem Mem.int {w V:World} {bs:List (Option (Nat × Dat))} (M:Mem w V bs) {i B:Nat} {z:Int} (h:bs[i]?=some (some (B,.int z))):∃ s a l c,Jo V B 36 (.bool s) (.slice a l c)∧Jh V (.agg #[.bool s,.slice a l c]) z:=by
 obtain ⟨⟨cs,h1,h2⟩,_⟩:=M.1 i B _ h;obtain ⟨a,l,c,e,hu⟩:=h2;cases e;exact ⟨_,a,l,c,h1,a,l,c,rfl,hu⟩
theorem Mem.big {w V:World} {bs:List (Option (Nat × Dat))} (M:Mem w V bs) {i B:Nat} {z:Int} (h:bs[i]?=some (some (B,.big z))):∃ a l c s,Jo V B 47 (.slice a l c) (.bool s)∧J4 V (.agg #[.slice a l c,.bool s]) z:=by
 obtain ⟨⟨cs,h1,h2⟩,_⟩:=M.1 i B _ h;obtain ⟨a,l,c,e,hu⟩:=h2;cases e;exact ⟨a,l,c,_,h1,a,l,c,rfl,hu⟩
theorem Mem.rat {w V:World} {bs:List (Option (Nat × Dat))} (M:Mem w V bs) {i B:Nat} {q:Rat} (h:bs[i]?=some (some (B,.rat q))) :
 ∃ s a l c t b k d,Js V B 38 (.bool s) (.slice a l c) (.bool t) (.slice b k d)∧Jf V (.agg #[.bool s,.slice a l c,.bool t,.slice b k d]) q∧Jh V (.agg #[.bool s,.slice a l c]) q.num∧Jh V (.agg #[.bool t,.slice b k d]) (denZ q):=by
 obtain ⟨⟨cs,h1,h2⟩,_⟩:=M.1 i B _ h;have h3:=h2;obtain ⟨s,a,l,c,t,b,k,d,e,g1,g2⟩:=h2;cases e;exact ⟨s,a,l,c,t,b,k,d,h1,h3,g1,g2⟩
theorem Mem.pair {w V:World} {bs:List (Option (Nat × Dat))} (M:Mem w V bs) {i B:Nat} {x y:Int} (h:bs[i]?=some (some (B,.pair x y))) :
 ∃ s a l c t b k d,Js V B 38 (.bool s) (.slice a l c) (.bool t) (.slice b k d)∧Y9 V (.agg #[.bool s,.slice a l c,.bool t,.slice b k d]) x y∧Jh V (.agg #[.bool s,.slice a l c]) x∧Jh V (.agg #[.bool t,.slice b k d]) y:=by
 obtain ⟨⟨cs,h1,h2⟩,_⟩:=M.1 i B _ h;have h3:=h2;obtain ⟨s,a,l,c,t,b,k,d,e,g1,g2⟩:=h2;cases e;exact ⟨s,a,l,c,t,b,k,d,h1,h3,g1,g2⟩
theorem Mem.ref {w V:World} {bs:List (Option (Nat × Dat))} (M:Mem w V bs) {i B:Nat} {q:Rat} (h:bs[i]?=some (some (B,.ref q))) :
 ∃ a l c s b k d t,Js V B 49 (.slice a l c) (.bool s) (.slice b k d) (.bool t)∧Yi V (.agg #[.slice a l c,.bool s,.slice b k d,.bool t]) q∧J4 V (.agg #[.slice a l c,.bool s]) q.num∧J4 V (.agg #[.slice b k d,.bool t]) (q.den:Int):=by
 obtain ⟨⟨cs,h1,h2⟩,_⟩:=M.1 i B _ h;have h3:=h2;obtain ⟨s,a,l,c,t,b,k,d,e,g1,g2⟩:=h2;cases e;exact ⟨s,a,l,c,t,b,k,d,h1,h3,g1,g2⟩
theorem Mem.below {w V V':World} {bs:List (Option (Nat × Dat))} (M:Mem w V bs) (hb:Below V.heap.size V V'):Mem w V' bs:=
 ⟨fun i B z h=>by
  obtain ⟨⟨cs,h1,h2⟩,h3⟩:=M.1 i B z h;exact ⟨⟨cs,h1.below hb,h2.below hb⟩,h3⟩,M.2.1,M.2.2.trans (hb.mono M.2.2.size)⟩
theorem Mem.drew {w V:World} {bs:List (Option (Nat × Dat))} (M:Mem w V bs):Mem w V.drew bs:=M.below ((Below.refl _ V).drew)
theorem Mem.sub {w V:World} {bs cs:List (Option (Nat × Dat))} (M:Mem w V bs) (f:Nat→Nat) (hf:∀ (i j:Nat),f i=f j→i=j) (h:∀ (i:Nat) x,cs[i]?=some (some x)→bs[f i]?=some (some x)):Mem w V cs:=
 ⟨fun i B d h1=>M.1 (f i) B d (h i _ h1),fun i j B d d' h1 h2=>hf i j (M.2.1 (f i) (f j) B d d' (h i _ h1) (h j _ h2)),M.2.2⟩
theorem Mem.take {w V:World} {bs:List (Option (Nat × Dat))} (M:Mem w V bs) (n:Nat):Mem w V (bs.take n):=by
 refine M.sub id (fun _ _ h=>h) (fun i x h=>?_);rw [List.getElem?_take] at h;split at h
 · exact h
 · cases h
theorem Mem.none {w V:World} {bs:List (Option (Nat × Dat))} (M:Mem w V bs):Mem w V (bs++[Option.none]):=by
 refine M.sub id (fun _ _ h=>h) (fun i x h=>?_);by_cases hi:i<bs.length
 · rwa [List.getElem?_append_left hi] at h
 · rw [List.getElem?_append_right (by omega)] at h;obtain ⟨k,hk⟩:∃ k,i - bs.length=k:=⟨_,rfl⟩;rw [hk] at h;cases k <;> simp at h
theorem Mem.fill {w V:World} {bs:List (Option (Nat × Dat))} (M:Mem w V bs) {i:Nat} (h:bs[i]?=some Option.none) {cs:Array Value} (d:Dat) (hd:Has V (.agg cs) d) :
 Mem w (V.alloc (.cells cs d.ty)) (bs.set i (some (V.heap.size,d))):=by
 have hal:Below V.heap.size V (V.alloc (.cells cs d.ty)):=(Below.refl _ V).alloc (Nat.le_refl _) _;have hlen:i<bs.length:=(List.getElem?_eq_some_iff.1 h).1;have M2:=M.below hal;have hlt:∀ (j:Nat) B d,bs[j]?=some (some (B,d))→B<V.heap.size:=fun j B d h=>by
  obtain ⟨⟨_,h1,_⟩,_⟩:=M.1 j B d h;exact h1.lt
 refine ⟨fun j B d' hj=>?_,fun j k B d1 d2 h1 h2=>?_,M2.2.2⟩
 · by_cases hij:i=j
   · subst hij;rw [List.getElem?_set_self hlen] at hj;simp at hj;obtain ⟨rfl,rfl⟩:=hj;exact ⟨⟨cs,World.alloc_heap_new V _,hd.below hal⟩,M.2.2.size⟩
   · rw [List.getElem?_set_ne hij] at hj;exact M2.1 j B d' hj
 · by_cases hij:i=j <;> by_cases hik:i=k
   · omega
   · subst hij;rw [List.getElem?_set_self hlen] at h1;rw [List.getElem?_set_ne hik] at h2;simp at h1;have:=hlt k B d2 h2;omega
   · subst hik;rw [List.getElem?_set_self hlen] at h2;rw [List.getElem?_set_ne hij] at h1;simp at h2;have:=hlt j B d1 h1;omega
   · rw [List.getElem?_set_ne hij] at h1;rw [List.getElem?_set_ne hik] at h2;exact M.2.1 j k B d1 d2 h1 h2
theorem Jmt {α:Type} (l:List α) (x y:α):(l++[x]).set l.length y=l++[y]:=by
 induction l with
 | nil=>rfl
 | cons a l ih=>simp
theorem Mem.push {w V:World} {bs:List (Option (Nat × Dat))} (M:Mem w V bs) {cs:Array Value} (d:Dat) (hd:Has V (.agg cs) d):Mem w (V.alloc (.cells cs d.ty)) (bs++[some (V.heap.size,d)]):=by
 have h:=M.none.fill (i:=bs.length) (by simp) d hd;rwa [Jmt] at h
theorem Mem.repl {w V V':World} {bs:List (Option (Nat × Dat))} (M:Mem w V bs) {i B:Nat} {d:Dat} (h:bs[i]?=some (some (B,d))) {cs:Array Value} (d':Dat) (hc:Bx V' B d'.ty cs) (hd:Has V (.agg cs) d')
 (hk:∀ k v ds,Row k V v ds→Row k V' v ds) (hf:∀ B' t cs,B'≠B→Bx V B' t cs→Bx V' B' t cs) (hB:Below w.heap.size w V'):Mem w V' (bs.set i (some (B,d'))):=by
 have hlen:i<bs.length:=(List.getElem?_eq_some_iff.1 h).1;obtain ⟨_,hw⟩:=M.1 i B d h;refine ⟨fun j B' d1 hj=>?_,fun j k B' d1 d2 h1 h2=>?_,hB⟩
 · by_cases hij:i=j
   · subst hij;rw [List.getElem?_set_self hlen] at hj;simp at hj;obtain ⟨rfl,rfl⟩:=hj;exact ⟨⟨cs,hc,hd.keep hk⟩,hw⟩
   · rw [List.getElem?_set_ne hij] at hj;obtain ⟨⟨cs1,g1,g2⟩,hw1⟩:=M.1 j B' d1 hj;have hne:B'≠B:=fun e=>hij (by rw [e] at hj;exact M.2.1 i j B d d1 h hj);exact ⟨⟨cs1,hf _ _ _ hne g1,g2.keep hk⟩,hw1⟩
 · have hget:∀ (j:Nat) d1,(bs.set i (some (B,d')))[j]?=some (some (B',d1))→∃ d3,bs[j]?=some (some (B',d3)):=fun j d1 hj=>by
    by_cases hij:i=j
    · subst hij;rw [List.getElem?_set_self hlen] at hj;simp at hj;exact ⟨d,by rw [h,hj.1]⟩
    · rw [List.getElem?_set_ne hij] at hj;exact ⟨d1,hj⟩
   obtain ⟨d3,g1⟩:=hget j d1 h1;obtain ⟨d4,g2⟩:=hget k d2 h2;exact M.2.1 j k B' d3 d4 g1 g2
theorem keep2 {V:World} {B:Nat} {t:TypeId} {x y:Value} (q:Jo V B t x y) (n0:Jw x=true) (n1:Jw y=true) (x' y':Value):∀ k v ds,Row k V v ds→Row k ((V.setCell ⟨B,0,Option.none⟩ x').setCell ⟨B,1,Option.none⟩ y') v ds:=
 fun _ _ _ h=>Row.set (Row.set h q.c0 n0 _) (q.set0 x').c1 n1 _
theorem Mem.putInt {w V:World} {bs:List (Option (Nat × Dat))} (M:Mem w V bs) {i B:Nat} {z0:Int} (h:bs[i]?=some (some (B,.int z0))) {x y:Value} {z:Int} (hi:Jh V (.agg #[x,y]) z) :
 Mem w ((V.setCell ⟨B,0,Option.none⟩ x).setCell ⟨B,1,Option.none⟩ y) (bs.set i (some (B,.int z))):=by
 obtain ⟨s,a,l,c,hb,_⟩:=M.int h;obtain ⟨_,hw⟩:=M.1 i B _ h;exact M.repl h (.int z) (cs:=#[x,y]) ((hb.set0 x).set1 y) hi (keep2 hb rfl rfl x y) (fun B' t cs hne g=>(g.far (p:=⟨B,0,Option.none⟩) hne _).far (p:=⟨B,1,Option.none⟩) hne _) ((M.2.2.setCell (p:=⟨B,0,Option.none⟩) hw _).setCell (p:=⟨B,1,Option.none⟩) hw _)
theorem far4 {V:World} {B:Nat} (x y z u:Value):∀ B' t cs,B'≠B→Bx V B' t cs→Bx (put4 V B x y z u) B' t cs:=fun _ _ _ hne g=>(((g.far (p:=⟨B,0,Option.none⟩) hne _).far (p:=⟨B,1,Option.none⟩) hne _).far (p:=⟨B,2,Option.none⟩) hne _).far (p:=⟨B,3,Option.none⟩) hne _
theorem Mem.putRat {w V:World} {bs:List (Option (Nat × Dat))} (M:Mem w V bs) {i B:Nat} {q0:Rat} (h:bs[i]?=some (some (B,.rat q0))) {x y z u:Value} {q:Rat} (hi:Jf V (.agg #[x,y,z,u]) q) :
 Mem w (put4 V B x y z u) (bs.set i (some (B,.rat q))):=by
 obtain ⟨_,_,_,_,_,_,_,_,hb,_⟩:=M.rat h;obtain ⟨_,hw⟩:=M.1 i B _ h;exact M.repl h (.rat q) (cs:=#[x,y,z,u]) (hb.put x y z u) hi (fun _ _ _ g=>Row.put4 g hb rfl rfl rfl rfl _ _ _ _) (far4 x y z u) (Jt M.2.2 hw _ _ _ _)
theorem Mem.zref {w V:World} {bs:List (Option (Nat × Dat))} (M:Mem w V bs) {i B:Nat} (h:bs[i]?=some (some (B,.zref))):Js V B 49 (.slice Option.none 0 0) (.bool false) (.slice Option.none 0 0) (.bool false):=by
 obtain ⟨⟨cs,h1,h2⟩,_⟩:=M.1 i B _ h;cases (show Value.agg cs=_ from h2);exact h1
theorem Has.set2 {V:World} {v:Value} {d:Dat} (h:Has V v d) {B:Nat} {t:TypeId} {x y:Value} (q:Jo V B t x y) (n0:Jw x=true) (n1:Jw y=true) (x' y':Value):Has ((V.setCell ⟨B,0,Option.none⟩ x').setCell ⟨B,1,Option.none⟩ y') v d:=h.keep (keep2 q n0 n1 x' y')
theorem Has.put4 {V:World} {v:Value} {d:Dat} (h:Has V v d) {B:Nat} {t:TypeId} {x y z u:Value} (q:Js V B t x y z u) (n0:Jw x=true) (n1:Jw y=true) (n2:Jw z=true) (n3:Jw u=true) (x' y' z' u':Value):Has (Go.Proofs.YtcahejkcdcjjgaaGreatDoor.put4 V B x' y' z' u') v d:=h.keep (fun _ _ _ g=>Row.put4 g q n0 n1 n2 n3 _ _ _ _)
theorem Jh.form2 {W:World} {v:Value} {z:Int} (h:Jh W v z):∃ s a l c,v=.agg #[.bool s,.slice a l c]:=by
 obtain ⟨a,l,c,e,_⟩:=h;exact ⟨_,a,l,c,e⟩
theorem J4.form2 {W:World} {v:Value} {z:Int} (h:J4 W v z):∃ a l c s,v=.agg #[.slice a l c,.bool s]:=by
 obtain ⟨a,l,c,e,_⟩:=h;exact ⟨a,l,c,_,e⟩
theorem Jf.form {W:World} {v:Value} {q:Rat} (h:Jf W v q):∃ s a l c t b k d,v=.agg #[.bool s,.slice a l c,.bool t,.slice b k d]:=by
 obtain ⟨s,a,l,c,t,b,k,d,e,_⟩:=h;exact ⟨s,a,l,c,t,b,k,d,e⟩
theorem Yi.form {W:World} {v:Value} {q:Rat} (h:Yi W v q):∃ a l c s b k d t,v=.agg #[.slice a l c,.bool s,.slice b k d,.bool t]:=by
 obtain ⟨s,a,l,c,t,b,k,d,e,_⟩:=h;exact ⟨s,a,l,c,t,b,k,d,e⟩
theorem Mem.ne {w V:World} {bs:List (Option (Nat × Dat))} (M:Mem w V bs) (i j:Nat) {B B':Nat} {d d':Dat} (h:bs[i]?=some (some (B,d))) (h':bs[j]?=some (some (B',d'))) (hij:i≠j):B≠B':=fun e=>by
 subst e;exact hij (M.2.1 i j B d d' h h')
theorem Mem.ge {w V:World} {bs:List (Option (Nat × Dat))} (M:Mem w V bs) (i:Nat) {B:Nat} {d:Dat} (h:bs[i]?=some (some (B,d))):w.heap.size≤B:=(M.1 i B d h).2
theorem XU (W:World):Jh W (.agg #[.bool false,.slice Option.none 0 0]) 0:=
 ⟨Option.none,0,0,by simp,by unfold UN;rw [Int.natAbs_zero,Jz];exact Row.nil _ _⟩
theorem XQ (W:World):Jf W (.agg #[.bool false,.slice Option.none 0 0,.bool false,.slice Option.none 0 0]) 0:=⟨_,_,_,_,_,_,_,_,rfl,XU W,XU W⟩
def Tup2 (V:World) (t:Value) (d1 d2:Dat):Prop:=∃ u1 u2,t=.tuple #[u1,u2,.bool true]∧Has V u1 d1∧Has V u2 d2
theorem Tup2.below {V V':World} {t:Value} {d1 d2:Dat} (h:Tup2 V t d1 d2) (hb:Below V.heap.size V V'):Tup2 V' t d1 d2:=by
 obtain ⟨u1,u2,e,h1,h2⟩:=h;exact ⟨u1,u2,e,h1.below hb,h2.below hb⟩
theorem Tup2.alloc {V:World} {t:Value} {d1 d2:Dat} (h:Tup2 V t d1 d2) (o:Obj):Tup2 (V.alloc o) t d1 d2:=by
 obtain ⟨u1,u2,e,h1,h2⟩:=h;exact ⟨u1,u2,e,h1.alloc o,h2.alloc o⟩
theorem Tup2.set2 {V:World} {v:Value} {d1 d2:Dat} (h:Tup2 V v d1 d2) {B:Nat} {t:TypeId} {x y:Value} (q:Jo V B t x y) (n0:Jw x=true) (n1:Jw y=true) (x' y':Value):Tup2 ((V.setCell ⟨B,0,Option.none⟩ x').setCell ⟨B,1,Option.none⟩ y') v d1 d2:=by
 obtain ⟨u1,u2,e,h1,h2⟩:=h;exact ⟨u1,u2,e,h1.set2 q n0 n1 x' y',h2.set2 q n0 n1 x' y'⟩
def IsK (r:Bool) (W:World) (v:Value) (q:Rat):Prop:=match r with | true=>Jf W v q | false=>Yi W v q
def tyK (r:Bool):TypeId:=match r with | true=>38 | false=>49
theorem IsK.below {r:Bool} {W W':World} {v:Value} {q:Rat} (h:IsK r W v q) (hb:Below W.heap.size W W'):IsK r W' v q:=by
 cases r with
 | true=>exact Jf.below h hb
 | false=>exact Yi.below h hb
theorem IsK.keep {r:Bool} {W W':World} {v:Value} {q:Rat} (h:IsK r W v q) (hk:∀ k v ds,Row k W v ds→Row k W' v ds):IsK r W' v q:=by
 cases r with
 | true=>exact Has.keep (d:=.rat q) h hk
 | false=>exact Has.keep (d:=.ref q) h hk
theorem IsK.form {r:Bool} {W:World} {v:Value} {q:Rat} (h:IsK r W v q):∃ x y z u,v=.agg #[x,y,z,u]∧Jw x=true∧Jw y=true∧Jw z=true∧Jw u=true:=by
 cases r with
 | true=>
  obtain ⟨s,a,l,c,t,b,k,d,e,_⟩:=(show Jf W v q from h);exact ⟨_,_,_,_,e,rfl,rfl,rfl,rfl⟩
 | false=>
  obtain ⟨s,a,l,c,t,b,k,d,e,_⟩:=(show Yi W v q from h);exact ⟨_,_,_,_,e,rfl,rfl,rfl,rfl⟩
theorem IsK.no {r:Bool} {W:World} {x y z u:Value} {q:Rat} (h:IsK r W (.agg #[x,y,z,u]) q):Jw x=true∧Jw y=true∧Jw z=true∧Jw u=true:=by
 obtain ⟨x',y',z',u',e,h1,h2,h3,h4⟩:=h.form;cases e;exact ⟨h1,h2,h3,h4⟩
theorem IsK.one {r:Bool} {W:World} {x y z u:Value} {q:Rat} (h:IsK r W (.agg #[x,y,z,u]) q):∀ v∈[x,y,z,u],v.oneCell'=true:=by
 cases r with
 | true=>
  obtain ⟨s,a,l,c,t,b,k,d,e,_⟩:=(show Jf W _ q from h);cases e;intro v hv;simp at hv;rcases hv with rfl | rfl | rfl | rfl <;> rfl
 | false=>
  obtain ⟨s,a,l,c,t,b,k,d,e,_⟩:=(show Yi W _ q from h);cases e;intro v hv;simp at hv;rcases hv with rfl | rfl | rfl | rfl <;> rfl
def Els (r:Bool) (W:World) (b:Nat) (qs:List Rat):Prop:=
 ∃ cs:Array Value,W.heap[b]?=some (.cells cs (tyK r) (0,0))∧∀ j,j<qs.length→∃ x y z u,cs[j*4]?=some x∧cs[j*4+1]?=some y∧cs[j*4+2]?=some z∧cs[j*4+3]?=some u∧IsK r W (.agg #[x,y,z,u]) (cf qs j)
theorem Els.lt {r:Bool} {W:World} {b:Nat} {qs:List Rat} (h:Els r W b qs):b<W.heap.size:=by obtain ⟨cs,h,_⟩:=h;exact (Array.getElem?_eq_some_iff.1 h).1
theorem Els.below {r:Bool} {W W':World} {b:Nat} {qs:List Rat} (h:Els r W b qs) (hb:Below W.heap.size W W'):Els r W' b qs:=by
 have hl:=h.lt;obtain ⟨cs,h1,h2⟩:=h;refine ⟨cs,(hb.block b hl).trans h1,fun j hj=>?_⟩;obtain ⟨x,y,z,u,e0,e1,e2,e3,h3⟩:=h2 j hj;exact ⟨x,y,z,u,e0,e1,e2,e3,h3.below hb⟩
theorem Els.keep {r:Bool} {W W':World} {b:Nat} {qs:List Rat} (h:Els r W b qs) (hb:W'.heap[b]?=W.heap[b]?) (hk:∀ k v ds,Row k W v ds→Row k W' v ds):Els r W' b qs:=by
 obtain ⟨cs,h1,h2⟩:=h;refine ⟨cs,hb.trans h1,fun j hj=>?_⟩;obtain ⟨x,y,z,u,e0,e1,e2,e3,h3⟩:=h2 j hj;exact ⟨x,y,z,u,e0,e1,e2,e3,h3.keep hk⟩
theorem Els.alloc {r:Bool} {W:World} {b:Nat} {qs:List Rat} (h:Els r W b qs) (o:Obj):Els r (W.alloc o) b qs:=h.below ((Below.refl _ W).alloc (Nat.le_refl _) o)
theorem Els.take {r:Bool} {W:World} {b:Nat} {qs:List Rat} (h:Els r W b qs) (n:Nat):Els r W b (qs.take n):=by
 obtain ⟨cs,h1,h2⟩:=h;refine ⟨cs,h1,fun j hj=>?_⟩;rw [List.length_take] at hj;obtain ⟨x,y,z,u,e0,e1,e2,e3,h3⟩:=h2 j (by omega);exact ⟨x,y,z,u,e0,e1,e2,e3,by rw [Jh5,if_pos (by omega)];exact h3⟩
theorem Els.at {r:Bool} {W:World} {b:Nat} {qs:List Rat} (h:Els r W b qs) {j:Nat} (hj:j<qs.length) :
 ∃ x y z u,W.cell? ⟨b,j*4,none⟩=some x∧W.cell? ⟨b,j*4+1,none⟩=some y∧W.cell? ⟨b,j*4+2,none⟩=some z∧W.cell? ⟨b,j*4+3,none⟩=some u∧IsK r W (.agg #[x,y,z,u]) (cf qs j):=by
 obtain ⟨cs,h1,h2⟩:=h;obtain ⟨x,y,z,u,e0,e1,e2,e3,h3⟩:=h2 j hj;exact ⟨x,y,z,u,by simp [World.cell?,h1,e0],by simp [World.cell?,h1,e1],by simp [World.cell?,h1,e2],by simp [World.cell?,h1,e3],h3⟩
theorem Els.frozen {r:Bool} {W:World} {b:Nat} {qs:List Rat} (h:Els r W b qs) (o:Nat):W.frozen? ⟨b,o,none⟩=false:=by obtain ⟨cs,h1,_⟩:=h;simp [World.frozen?,h1]
def putAt (W:World) (b o:Nat) (x y z u:Value):World:=(((W.setCell ⟨b,o,none⟩ x).setCell ⟨b,o+1,none⟩ y).setCell ⟨b,o+2,none⟩ z).setCell ⟨b,o+3,none⟩ u
theorem JG {W:World} {b o:Nat} {cs:Array Value} {t:TypeId} {m:Nat × Nat} (h:W.heap[b]?=some (.cells cs t m)) (v:Value):(W.setCell ⟨b,o,none⟩ v).heap[b]?=some (.cells (cs.setIfInBounds o v) t m):=by
 obtain ⟨hlt,hk⟩:=Array.getElem?_eq_some_iff.1 h;show (W.heap.modify b _)[b]?=_;rw [Array.getElem?_eq_getElem (by rw [Array.size_modify];exact hlt),Array.getElem_modify_self,hk];simp
theorem Jf4 {W:World} {b o:Nat} {cs:Array Value} {t:TypeId} {m:Nat × Nat} (h:W.heap[b]?=some (.cells cs t m)) (x y z u:Value):(putAt W b o x y z u).heap[b]?=some (.cells ((((cs.setIfInBounds o x).setIfInBounds (o+1) y).setIfInBounds (o+2) z).setIfInBounds (o+3) u) t m):=
 JG (JG (JG (JG h x) y) z) u
theorem Jap {W:World} {b o B:Nat} (hB:B≠b) (x y z u:Value):(putAt W b o x y z u).heap[B]?=W.heap[B]?:=
 (Below.heap_setCell _ _ _ B hB).trans ((Below.heap_setCell _ _ _ B hB).trans ((Below.heap_setCell _ _ _ B hB).trans (Below.heap_setCell _ _ _ B hB)))
theorem Jep {n b o:Nat} {w W:World} (h:Below n w W) (hB:n≤b) (x y z u:Value):Below n w (putAt W b o x y z u):=
 (((h.setCell (p:=⟨b,o,none⟩) hB _).setCell (p:=⟨b,o+1,none⟩) hB _).setCell (p:=⟨b,o+2,none⟩) hB _).setCell (p:=⟨b,o+3,none⟩) hB _
theorem cell_of {W:World} {b o:Nat} {cs:Array Value} {t:TypeId} {m:Nat × Nat} {x:Value} (h:W.heap[b]?=some (.cells cs t m)) (e:cs[o]?=some x):W.cell? ⟨b,o,none⟩=some x:=by simp [World.cell?,h,e]
theorem Jln {W:World} {b o:Nat} {cs:Array Value} {t:TypeId} {m:Nat × Nat} {x0 y0 z0 u0:Value} (h:W.heap[b]?=some (.cells cs t m)) (e0:cs[o]?=some x0) (e1:cs[o+1]?=some y0) (e2:cs[o+2]?=some z0) (e3:cs[o+3]?=some u0)
 (n0:Jw x0=true) (n1:Jw y0=true) (n2:Jw z0=true) (n3:Jw u0=true) (x y z u:Value):∀ k v ds,Row k W v ds→Row k (putAt W b o x y z u) v ds:=fun k v ds hr=>by
 have c1:((cs.setIfInBounds o x))[o+1]?=some y0:=by rw [Array.getElem?_setIfInBounds_ne (by omega)];exact e1
 have c2:(((cs.setIfInBounds o x).setIfInBounds (o+1) y))[o+2]?=some z0:=by rw [Array.getElem?_setIfInBounds_ne (by omega),Array.getElem?_setIfInBounds_ne (by omega)];exact e2
 have c3:((((cs.setIfInBounds o x).setIfInBounds (o+1) y).setIfInBounds (o+2) z))[o+3]?=some u0:=by rw [Array.getElem?_setIfInBounds_ne (by omega),Array.getElem?_setIfInBounds_ne (by omega),Array.getElem?_setIfInBounds_ne (by omega)];exact e3
 exact Row.set (Row.set (Row.set (Row.set hr (cell_of h e0) n0 _) (cell_of (JG h x) c1) n1 _) (cell_of (JG (JG h x) y) c2) n2 _) (cell_of (JG (JG (JG h x) y) z) c3) n3 _
theorem Els.putKeep {r:Bool} {W:World} {b:Nat} {qs:List Rat} (h:Els r W b qs) {j:Nat} (hj:j<qs.length) (x y z u:Value):∀ k v ds,Row k W v ds→Row k (putAt W b (j*4) x y z u) v ds:=by
 obtain ⟨cs,h1,h2⟩:=h;obtain ⟨x0,y0,z0,u0,e0,e1,e2,e3,h3⟩:=h2 j hj;obtain ⟨n0,n1,n2,n3⟩:=h3.no;exact Jln h1 e0 e1 e2 e3 n0 n1 n2 n3 x y z u
theorem Els.set {r:Bool} {W:World} {b:Nat} {qs:List Rat} (h:Els r W b qs) {j:Nat} (hj:j<qs.length) {x y z u:Value} {q:Rat} (hv:IsK r W (.agg #[x,y,z,u]) q):Els r (putAt W b (j*4) x y z u) b (qs.set j q):=by
 have hk:=h.putKeep hj x y z u;obtain ⟨cs,h1,h2⟩:=h;obtain ⟨x0,y0,z0,u0,e0,e1,e2,e3,h3⟩:=h2 j hj;refine ⟨_,Jf4 h1 x y z u,fun i hi=>?_⟩;rw [List.length_set] at hi;have lt0:=(Array.getElem?_eq_some_iff.1 e0).1;have lt1:=(Array.getElem?_eq_some_iff.1 e1).1;have lt2:=(Array.getElem?_eq_some_iff.1 e2).1;have lt3:=(Array.getElem?_eq_some_iff.1 e3).1;by_cases hij:i=j
 · subst hij;refine ⟨x,y,z,u,?_,?_,?_,?_,?_⟩
   · rw [Array.getElem?_setIfInBounds_ne (by omega),Array.getElem?_setIfInBounds_ne (by omega),Array.getElem?_setIfInBounds_ne (by omega),Array.getElem?_setIfInBounds_self_of_lt lt0]
   · rw [Array.getElem?_setIfInBounds_ne (by omega),Array.getElem?_setIfInBounds_ne (by omega),Array.getElem?_setIfInBounds_self_of_lt (by simpa using lt1)]
   · rw [Array.getElem?_setIfInBounds_ne (by omega),Array.getElem?_setIfInBounds_self_of_lt (by simpa using lt2)]
   · rw [Array.getElem?_setIfInBounds_self_of_lt (by simpa using lt3)]
   · rw [XI _ _ _ _ hj,if_pos rfl];exact hv.keep hk
 · obtain ⟨x1,y1,z1,u1,d0,d1,d2,d3,h4⟩:=h2 i hi;refine ⟨x1,y1,z1,u1,?_,?_,?_,?_,?_⟩
   · rw [Array.getElem?_setIfInBounds_ne (by omega),Array.getElem?_setIfInBounds_ne (by omega),Array.getElem?_setIfInBounds_ne (by omega),Array.getElem?_setIfInBounds_ne (by omega)];exact d0
   · rw [Array.getElem?_setIfInBounds_ne (by omega),Array.getElem?_setIfInBounds_ne (by omega),Array.getElem?_setIfInBounds_ne (by omega),Array.getElem?_setIfInBounds_ne (by omega)];exact d1
   · rw [Array.getElem?_setIfInBounds_ne (by omega),Array.getElem?_setIfInBounds_ne (by omega),Array.getElem?_setIfInBounds_ne (by omega),Array.getElem?_setIfInBounds_ne (by omega)];exact d2
   · rw [Array.getElem?_setIfInBounds_ne (by omega),Array.getElem?_setIfInBounds_ne (by omega),Array.getElem?_setIfInBounds_ne (by omega),Array.getElem?_setIfInBounds_ne (by omega)];exact d3
   · rw [XI _ _ _ _ hj,if_neg hij];exact h4.keep hk
def RowK (r:Bool) (W:World) (v:Value) (qs:List Rat):Prop:=
 ∃ a cap,v=.slice a qs.length cap∧qs.length≤cap∧cap≤9223372036854775807∧qs.length≤1099511627776∧(qs=[]∨∃ b,a=some ⟨b,0,none⟩∧Els r W b qs)
theorem RowK.below {r:Bool} {W W':World} {v:Value} {qs:List Rat} (h:RowK r W v qs) (hb:Below W.heap.size W W'):RowK r W' v qs:=by
 obtain ⟨a,cap,e,h1,h2,h3,h4⟩:=h;refine ⟨a,cap,e,h1,h2,h3,?_⟩;rcases h4 with h4 | ⟨b,ea,h5⟩
 · exact Or.inl h4
 · exact Or.inr ⟨b,ea,h5.below hb⟩
theorem RowK.nil (r:Bool) (W:World):RowK r W (.slice none 0 0) []:=⟨none,0,rfl,Nat.le_refl _,by omega,by simp,Or.inl rfl⟩
theorem Els.row {r:Bool} {W:World} {b:Nat} {qs:List Rat} (h:Els r W b qs) {n cap:Nat} (hn:n≤qs.length) (hc:n≤cap) (hm:cap≤9223372036854775807) (hl:n≤1099511627776):RowK r W (.slice (some ⟨b,0,none⟩) n cap) (qs.take n):=by
 have e:(qs.take n).length=n:=by rw [List.length_take];omega
 exact ⟨_,cap,by rw [e],by omega,hm,by omega,Or.inr ⟨b,rfl,h.take n⟩⟩
theorem RowK.open {r:Bool} {W:World} {v:Value} {qs:List Rat} (h:RowK r W v qs):∃ a cap,v=.slice a qs.length cap∧qs.length≤cap∧cap≤9223372036854775807∧qs.length≤1099511627776∧
 Hid (∀ j,j<qs.length→∃ b,a=some ⟨b,0,none⟩∧Els r W b qs):=by
 obtain ⟨a,cap,e,h1,h2,h3,h4⟩:=h;refine ⟨a,cap,e,h1,h2,h3,fun j hj=>?_⟩;rcases h4 with h4 | ⟨b,ea,h5⟩
 · rw [h4] at hj;simp at hj
 · exact ⟨b,ea,h5⟩
theorem RowK.take {r:Bool} {W:World} {a:Option Addr} {l cap:Nat} {qs:List Rat} (h:RowK r W (.slice a l cap) qs) {n:Nat} (hn:n≤l):RowK r W (.slice a n cap) (qs.take n):=by
 obtain ⟨a',cap',e,h1,h2,h3,h4⟩:=h;cases e;have e:(qs.take n).length=n:=by rw [List.length_take];omega
 refine ⟨a,cap,by rw [e],by omega,h2,by omega,?_⟩;rcases h4 with h4 | ⟨b,ea,h5⟩
 · left;rw [h4];simp
 · exact Or.inr ⟨b,ea,h5.take n⟩
def Jk (W:World) (v:Value) (ps:List Rat):Prop:=∃ u,v=.agg #[u]∧RowK true W u ps
theorem Jk.below {W W':World} {v:Value} {ps:List Rat} (h:Jk W v ps) (hb:Below W.heap.size W W'):Jk W' v ps:=by
 obtain ⟨u,e,h1⟩:=h;exact ⟨u,e,h1.below hb⟩
theorem RowK.form {r:Bool} {W:World} {v:Value} {qs:List Rat} (h:RowK r W v qs):∃ a l c,v=.slice a l c:=by
 obtain ⟨a,cap,e,_⟩:=h;exact ⟨a,_,cap,e⟩
theorem Jk.form {W:World} {v:Value} {ps:List Rat} (h:Jk W v ps):∃ a l c,v=.agg #[.slice a l c]:=by
 obtain ⟨u,e,h1⟩:=h;obtain ⟨a,l,c,rfl⟩:=h1.form;exact ⟨a,l,c,e⟩
theorem Jk.row {W:World} {a:Option Addr} {l c:Nat} {ps:List Rat} (h:Jk W (.agg #[.slice a l c]) ps):RowK true W (.slice a l c) ps:=by
 obtain ⟨u,e,h1⟩:=h;cases e;exact h1
@[irreducible] def Sqs (qs:List Rat):Prop:=∀ i,Sq (cf qs i)
theorem Sqs.at {qs:List Rat} (h:Sqs qs) (i:Nat):Sq (cf qs i):=by unfold Sqs at h;exact h i
theorem Sqs.of {qs:List Rat} (h:∀ i,Sq (cf qs i)):Sqs qs:=by unfold Sqs;exact h
def YW (r:Bool) (W:World) (cs:List Value) (qs:List Rat):Prop:=
 cs.length=qs.length*4∧∀ j,j<qs.length→∃ x y z u,cs[j*4]?=some x∧cs[j*4+1]?=some y∧cs[j*4+2]?=some z∧cs[j*4+3]?=some u∧IsK r W (.agg #[x,y,z,u]) (cf qs j)
theorem YW.nil (r:Bool) (W:World):YW r W [] []:=⟨rfl,fun j hj=>by simp at hj⟩
theorem YW.below {r:Bool} {W W':World} {cs:List Value} {qs:List Rat} (h:YW r W cs qs) (hb:Below W.heap.size W W'):YW r W' cs qs:=by
 refine ⟨h.1,fun j hj=>?_⟩;obtain ⟨x,y,z,u,e0,e1,e2,e3,h3⟩:=h.2 j hj;exact ⟨x,y,z,u,e0,e1,e2,e3,h3.below hb⟩
theorem YW.keep {r:Bool} {W W':World} {cs:List Value} {qs:List Rat} (h:YW r W cs qs) (hk:∀ k v ds,Row k W v ds→Row k W' v ds):YW r W' cs qs:=by
 refine ⟨h.1,fun j hj=>?_⟩;obtain ⟨x,y,z,u,e0,e1,e2,e3,h3⟩:=h.2 j hj;exact ⟨x,y,z,u,e0,e1,e2,e3,h3.keep hk⟩
theorem YW.one {r:Bool} {W:World} {cs:List Value} {qs:List Rat} (h:YW r W cs qs):∀ v∈cs,v.oneCell'=true:=by
 intro v hv;obtain ⟨k,hk,rfl⟩:=List.mem_iff_getElem.1 hv;have hl:=h.1;obtain ⟨x,y,z,u,e0,e1,e2,e3,h3⟩:=h.2 (k / 4) (by omega);have h4:=h3.one;have hg:cs[k]?=some cs[k]:=List.getElem?_eq_getElem hk;have hc:k=k / 4*4∨k=k / 4*4+1∨k=k / 4*4+2∨k=k / 4*4+3:=by omega
 rcases hc with hc | hc | hc | hc
 · rw [←hc,hg] at e0;cases e0;exact h4 _ (by simp)
 · rw [←hc,hg] at e1;cases e1;exact h4 _ (by simp)
 · rw [←hc,hg] at e2;cases e2;exact h4 _ (by simp)
 · rw [←hc,hg] at e3;cases e3;exact h4 _ (by simp)
theorem Els.cells {r:Bool} {W:World} {b:Nat} {qs:List Rat} (h:Els r W b qs):∃ cs,YW r W cs qs∧∀ j u,cs[j]?=some u→W.cell? ⟨b,j,none⟩=some u:=by
 obtain ⟨ar,h1,h2⟩:=h;have hsz:qs.length*4≤ar.size:=by
  cases hq:qs.length with
  | zero=>omega
  | succ n=>
   obtain ⟨x,y,z,u,_,_,_,e3,_⟩:=h2 n (by omega);have:=(Array.getElem?_eq_some_iff.1 e3).1;omega
 refine ⟨ar.toList.take (qs.length*4),⟨by rw [List.length_take];have h0:ar.toList.length=ar.size:=Array.length_toList;omega,fun j hj=>?_⟩,fun j u e=>?_⟩
 · obtain ⟨x,y,z,u,e0,e1,e2,e3,h3⟩:=h2 j hj;refine ⟨x,y,z,u,?_,?_,?_,?_,h3⟩
   · rw [List.getElem?_take_of_lt (by omega),Array.getElem?_toList];exact e0
   · rw [List.getElem?_take_of_lt (by omega),Array.getElem?_toList];exact e1
   · rw [List.getElem?_take_of_lt (by omega),Array.getElem?_toList];exact e2
   · rw [List.getElem?_take_of_lt (by omega),Array.getElem?_toList];exact e3
 · rw [List.getElem?_take] at e;split at e
   · rw [Array.getElem?_toList] at e;exact cell_of h1 e
   · cases e
theorem RowK.owns {r:Bool} {W:World} {base:Nat} {v:Value} {n:Nat} {cs:List Value} {qs:List Rat} (h:W.ownsRow base (tyK r) 4 v n cs) (hc:YW r W cs qs) (hl:qs.length≤1099511627776):RowK r W v qs∧n=qs.length∧(v=.slice none 0 0∨∃ g cap,v=.slice (some ⟨g,0,none⟩) n cap∧base≤g∧Els r W g qs):=by
 obtain ⟨h1,h2⟩:=h;have hn:n=qs.length:=by have:=hc.1;omega
 subst hn;rcases h2 with ⟨rfl,h0⟩ | ⟨g,cap,cur,rfl,hbg,hg,hle,hmax,hsz,htk⟩
 · have:qs=[]:=List.eq_nil_of_length_eq_zero h0;subst this;exact ⟨RowK.nil r W,rfl,Or.inl rfl⟩
 · have hE:Els r W g qs:=by
    refine ⟨cur,hg,fun j hj=>?_⟩;obtain ⟨x,y,z,u,e0,e1,e2,e3,h3⟩:=hc.2 j hj;rw [←htk] at e0 e1 e2 e3;rw [List.getElem?_take_of_lt (by omega),Array.getElem?_toList] at e0 e1 e2 e3;exact ⟨x,y,z,u,e0,e1,e2,e3,h3⟩
   refine ⟨⟨_,cap,rfl,hle,by unfold maxLen at hmax;omega,hl,Or.inr ⟨g,rfl,hE⟩⟩,rfl,Or.inr ⟨g,cap,rfl,hbg,hE⟩⟩
end Go.Proofs.YtcahejkcdcjjgaaGreatDoor
namespace Go.Proofs.YtcahejkcdcjjgaaGreatDoor
open Go.RowKit Go.Shelf
attribute [local go_sem] Oper.semAt_some
theorem J4.alloc {W:World} {v:Value} {z:Int} (h:J4 W v z) (o:Obj):J4 (W.alloc o) v z:=h.below ((Below.refl _ W).alloc (Nat.le_refl _) o)
theorem J4.form {W:World} {v:Value} {z:Int} (h:J4 W v z):∃ a l cap,v=.agg #[.slice a l cap,.bool (decide (z<0))]:=by
 obtain ⟨a,l,cap,e,_⟩:=h;exact ⟨a,l,cap,e⟩
theorem J4.box {W:World} {R:Nat} {t:TypeId} {u0 u1 x0 x1 v:Value} {z:Int} (h:J4 W v z) (q:Jo W R t u0 u1) (n0:Jw u0=true) (n1:Jw u1=true):J4 ((W.setCell ⟨R,0,none⟩ x0).setCell ⟨R,1,none⟩ x1) v z:=by
 obtain ⟨a,l,cap,e,hr⟩:=h;exact ⟨a,l,cap,e,Row.set (Row.set hr q.c0 n0 _) (u0:=u1) (q.set0 x0).c1 n1 _⟩
theorem Jjz (va vb:Value) (x y:Int) (w:World) (ha:Jh w va x) (hb:Jh w vb y) (hlx:(Jd B64 x.natAbs).length<1099511627776) (hly:(Jd B64 y.natAbs).length<1099511627776) :
 Calls Tryz.prog 88 #[va,vb] w fun e w'=>∃ u,e=.returned u∧Jh w' u (x - y)∧Below w.heap.size w w':=by
 obtain ⟨a,la,ca,rfl⟩:=ha.form;obtain ⟨b,lb,cb,e0,hu⟩:=hb;cases e0;obtain ⟨s,hs⟩:∃ s,decide (x<0)=s:=⟨_,rfl⟩;obtain ⟨t,ht⟩:∃ t,decide (y<0)=t:=⟨_,rfl⟩;rw [hs] at ha ⊢;rw [ht];clear hs;obtain ⟨W0,hW0⟩:∃ W0,((w.alloc (.cells #[.bool s,.slice a la ca] 36)).alloc (.cells #[.bool t,.slice b lb cb] 36)).alloc (.cells #[.bool false,.slice none 0 0] 36)=W0:=⟨_,rfl⟩;have hB0:Below w.heap.size w W0:=by rw [←hW0];exact Ja8 w _ _ _
 have b0:Jo W0 w.heap.size 36 (.bool s) (.slice a la ca):=by rw [←hW0];exact ((Jo.new w _ _ _).alloc _).alloc _
 have b1:Jo W0 (w.heap.size+1) 36 (.bool t) (.slice b lb cb):=by
  have h:=(Jo.new (w.alloc (.cells #[.bool s,.slice a la ca] 36)) 36 (.bool t) (.slice b lb cb)).alloc (.cells #[.bool false,.slice none 0 0] 36);rw [World.size_alloc,hW0] at h;exact h
 have bR:Jo W0 (w.heap.size+1+1) 36 (.bool false) (.slice none 0 0):=by
  have h:=Jo.new ((w.alloc (.cells #[.bool s,.slice a la ca] 36)).alloc (.cells #[.bool t,.slice b lb cb] 36)) 36 (.bool false) (.slice none 0 0);rw [World.size_alloc,World.size_alloc,hW0] at h;exact h
 have hneg:(if (!t)=true then -(y.natAbs:Int) else y.natAbs)=-y:=by
  rw [←ht];by_cases h:y<0
  · simp only [h,decide_true,Bool.not_true,Bool.false_eq_true,if_false];omega
  · simp only [h,decide_false,Bool.not_false,if_true];omega
 have HN:=Ja (fun (V:World) (h:Below W0.heap.size W0 V)=>show Calls Tryz.prog 112 #[.bool (!t),.slice b lb cb] V fun e w'=>∃ u,e=.returned u∧Jh w' u (-y)∧Below V.heap.size V w' by
  have h1:=Jai (!t) (.slice b lb cb) y.natAbs V (UN.below (UN.below hu hB0) h);rw [hneg] at h1;exact h1)
 have HS:=Ja (fun (V:World) (u:Value) (h:Below W0.heap.size W0 V) (hu:Jh V u (-y))=>Jim _ u x (-y) V ((ha.below hB0).below h) hu hlx (by rw [Int.natAbs_neg];exact hly));clear ha hu hneg ht;go_enter Tryz.func88,Tryz.ntmps88
 go_wp2_with fail
 try rw [hW0]
 clear hW0;have hq:Below W0.heap.size W0 W0.drew:=(Below.refl _ W0).drew;have k0:=b0.c0;have k1:=b0.c1;have k2:=b1.c0;have k3:=b1.c1;have ne2:¬ (w.heap.size=w.heap.size+1+1):=by omega
 go_region_held3 (fun w'=>w'.cell? ⟨w.heap.size,0,none⟩=some (.bool s)∧w'.cell? ⟨w.heap.size,1,none⟩=some (.slice a la ca)∧w'.cell? ⟨w.heap.size+1,0,none⟩=some (.bool t)∧w'.cell? ⟨w.heap.size+1,1,none⟩=some (.slice b lb cb)) (refine ⟨?_,?_,?_,?_⟩ <;> (first | (go_keep;done) | ((repeat rw [JP (by omega)]);simp [*];done)))
  (first
   | (go_at_call 112;refine (HN.out _ hq).mono ?_;rintro e w1 ⟨u1,rfl,hu1,hb1⟩;obtain ⟨na,nl,nc,rfl⟩:=hu1.form;obtain ⟨s1,hs1⟩:∃ s1,decide (-y<0)=s1:=⟨_,rfl⟩;rw [hs1] at hu1;rw [hs1];clear hs1;have hq:=Below.then hq hb1;have k0:=(b0.below hq).c0;have k1:=(b0.below hq).c1;have k2:=(b1.below hq).c0;have k3:=(b1.below hq).c1)
   | (go_at_call 81;refine (HS.out _ _ hq hu1).mono ?_;rintro e w2 ⟨u2,rfl,hu2,hb2⟩;obtain ⟨sa,sl,sc,rfl⟩:=hu2.form;obtain ⟨s2,hs2⟩:∃ s2,decide (x+-y<0)=s2:=⟨_,rfl⟩;rw [hs2] at hu2;rw [hs2];clear hs2;have hq:=Below.then hq hb2;have k0:=(b0.below hq).c0;have k1:=(b0.below hq).c1;have k2:=(b1.below hq).c0;have k3:=(b1.below hq).c1;have r0:=(bR.below hq).c0;have r1:=(bR.below hq).c1;have f0:=(bR.below hq).f0;have f1:=(bR.below hq).f1))
 all_goals go_wp2_with fail
 have hq2:=hB0.trans (hq.mono hB0.size);have hfin:=hu2.box (bR.below hq) rfl rfl (x0:=.bool s2) (x1:=.slice sa sl sc);exact bodyPost_ret (v:=.agg #[.bool s2,.slice sa sl sc]) (by simp [results,Tryz.results88,go_sem,r0,r1]) rfl ⟨_,rfl,by rw [Int.sub_eq_add_neg];exact hfin,(hq2.setCell (p:=⟨_,0,none⟩) (by simp only;omega) _).setCell (p:=⟨_,1,none⟩) (by simp only;omega) _⟩
theorem Jpr (a:Option Addr) (la ca:Nat) (b:Option Addr) (lb cb m n:Nat) (w:World) (hlen:la+lb≤1099511627776)
 (ra:Row .u64 w (.slice a la ca) (Jd B64 m)) (rb:Row .u64 w (.slice b lb cb) (Jd B64 n)) :
 Calls Tryz.prog 118 #[.slice a la ca,.slice b lb cb] w fun e w'=>∃ u,e=.returned u∧UN w' u (m*n)∧Below w.heap.size w w':=by
 have hmk:=Jal (la+lb) (by omega) w;rw [show ((la+lb:Nat):Int)=(la:Int)+(lb:Int) from by omega] at hmk;obtain ⟨W1,hW1⟩:∃ W1,W1=w.alloc (.cells (cellsOf .u64 (List.replicate (la+lb) 0)).toArray 163):=⟨_,rfl⟩;have hB1:Below w.heap.size w W1:=by rw [hW1];exact (Below.refl _ w).alloc (Nat.le_refl _) _
 have hA1:Arr W1 w.heap.size (List.replicate (la+lb) 0):=by rw [hW1];exact Arr.made (World.alloc_heap_new w _)
 rw [←hW1] at hmk;have HP:=Ja (Jnp w.heap.size (la+lb) (la+lb) (List.replicate (la+lb) 0) a la ca b lb cb m n W1 hA1 (fun x hx=>by rw [List.eq_of_mem_replicate hx];unfold B64;omega) (by rw [List.length_replicate];exact Nat.le_refl _) (Nat.le_refl _) (by omega) hlen (Row.below ra hB1) (Row.below rb hB1)
  (fun p e h0=>by have:=Jc3 ra e h0;omega) (fun p e h0=>by have:=Jc3 rb e h0;omega))
 have hl1:=(Jr ra).2.1;have hl2:=(Jr ra).2.2.1;have hl3:=(Jr rb).2.1;have hl4:=(Jr rb).2.2.1;clear hW1 hA1 ra rb;go_enter Tryz.func118,Tryz.ntmps118
 go_wp2_with (go_at_call 153;refine HP.out.mono ?_;rintro e w5 ⟨u,rfl,⟨hu,hg5⟩,_,_⟩;obtain ⟨ua,uc,rfl⟩:=UN.form hu)
 go_ret;exact ⟨_,rfl,hu,below_grown hB1 hg5 (Nat.le_refl _)⟩
theorem YQ (va vb:Value) (x y:Int) (w:World) (ha:Jh w va x) (hb:Jh w vb y) (hl:(Jd B64 x.natAbs).length+(Jd B64 y.natAbs).length≤1099511627776) :
 Calls Tryz.prog 85 #[va,vb] w fun e w'=>∃ u,e=.returned u∧Jh w' u (x*y)∧Below w.heap.size w w':=by
 obtain ⟨a,la,ca,e0,hu⟩:=ha;cases e0;obtain ⟨b,lb,cb,e0,hv⟩:=hb;cases e0;have ela:=hu.len;have elb:=hv.len;obtain ⟨s,hs⟩:∃ s,decide (x<0)=s:=⟨_,rfl⟩;obtain ⟨t,ht⟩:∃ t,decide (y<0)=t:=⟨_,rfl⟩;have hsg:(if (!(s == t))=true then -((x.natAbs*y.natAbs:Nat):Int) else ((x.natAbs*y.natAbs:Nat):Int))=x*y:=by
  rw [←hs,←ht,←Int.natAbs_mul];rcases Int.lt_trichotomy x 0 with hx | hx | hx <;> rcases Int.lt_trichotomy y 0 with hy | hy | hy
  · have:=Int.mul_pos_of_neg_of_neg hx hy;simp [hx,hy];omega
  · subst hy;simp
  · have:=Int.mul_neg_of_neg_of_pos hx hy;have h1:¬ y<0:=by omega
    simp [hx,h1];omega
  · subst hx;simp
  · subst hx;simp
  · subst hx;simp
  · have:=Int.mul_neg_of_pos_of_neg hx hy;have h1:¬ x<0:=by omega
    simp [hy,h1];omega
  · subst hy;simp
  · have:=Int.mul_pos hx hy;have h1:¬ x<0:=by omega
    have h2:¬ y<0:=by omega
    simp [h1,h2];omega
 rw [hs,ht];obtain ⟨W0,hW0⟩:∃ W0,((w.alloc (.cells #[.bool s,.slice a la ca] 36)).alloc (.cells #[.bool t,.slice b lb cb] 36)).alloc (.cells #[.bool false,.slice none 0 0] 36)=W0:=⟨_,rfl⟩;have hB0:Below w.heap.size w W0:=by rw [←hW0];exact Ja8 w _ _ _
 have b0:Jo W0 w.heap.size 36 (.bool s) (.slice a la ca):=by rw [←hW0];exact ((Jo.new w _ _ _).alloc _).alloc _
 have b1:Jo W0 (w.heap.size+1) 36 (.bool t) (.slice b lb cb):=by
  have h:=(Jo.new (w.alloc (.cells #[.bool s,.slice a la ca] 36)) 36 (.bool t) (.slice b lb cb)).alloc (.cells #[.bool false,.slice none 0 0] 36);rw [World.size_alloc,hW0] at h;exact h
 have bR:Jo W0 (w.heap.size+1+1) 36 (.bool false) (.slice none 0 0):=by
  have h:=Jo.new ((w.alloc (.cells #[.bool s,.slice a la ca] 36)).alloc (.cells #[.bool t,.slice b lb cb] 36)) 36 (.bool false) (.slice none 0 0);rw [World.size_alloc,World.size_alloc,hW0] at h;exact h
 have HT:=Ja (fun (V:World) (h:Below W0.heap.size W0 V)=>Jpr a la ca b lb cb _ _ V (by omega) (UN.below (UN.below hu hB0) h) (UN.below (UN.below hv hB0) h));have HS:=Ja (fun (V:World) (u:Value) (hu:UN V u (x.natAbs*y.natAbs))=>show Calls Tryz.prog 112 #[.bool (!(s == t)),u] V fun e w'=>∃ u,e=.returned u∧Jh w' u (x*y)∧Below V.heap.size V w' by
  have h1:=Jai (!(s == t)) u _ V hu;rw [hsg] at h1;exact h1)
 clear hu hv hsg hs ht ela elb hl;go_enter Tryz.func85,Tryz.ntmps85
 go_wp2_with fail
 try rw [hW0]
 clear hW0;have hq:Below W0.heap.size W0 W0.drew:=(Below.refl _ W0).drew;have k0:=b0.c0;have k1:=b0.c1;have k2:=b1.c0;have k3:=b1.c1;have ne2:¬ (w.heap.size=w.heap.size+1+1):=by omega
 go_region_held3 (fun w'=>w'.cell? ⟨w.heap.size,0,none⟩=some (.bool s)∧w'.cell? ⟨w.heap.size,1,none⟩=some (.slice a la ca)∧w'.cell? ⟨w.heap.size+1,0,none⟩=some (.bool t)∧w'.cell? ⟨w.heap.size+1,1,none⟩=some (.slice b lb cb)) (refine ⟨?_,?_,?_,?_⟩ <;> (first | (go_keep;done) | ((repeat rw [JP (by omega)]);simp [*];done)))
  (first
   | (go_at_call 118;refine (HT.out _ hq).mono ?_;rintro e w1 ⟨u1,rfl,hu1,hb1⟩;obtain ⟨na,nc,rfl⟩:=UN.form hu1;have hq:=Below.then hq hb1;have k0:=(b0.below hq).c0;have k1:=(b0.below hq).c1;have k2:=(b1.below hq).c0;have k3:=(b1.below hq).c1)
   | (go_at_call 112;refine (HS.out _ _ hu1).mono ?_;rintro e w2 ⟨u2,rfl,hu2,hb2⟩;obtain ⟨sa,sl,sc,rfl⟩:=hu2.form;obtain ⟨s2,hs2⟩:∃ s2,decide (x*y<0)=s2:=⟨_,rfl⟩;rw [hs2] at hu2;rw [hs2];clear hs2;have hq:=Below.then hq hb2;have k0:=(b0.below hq).c0;have k1:=(b0.below hq).c1;have k2:=(b1.below hq).c0;have k3:=(b1.below hq).c1;have r0:=(bR.below hq).c0;have r1:=(bR.below hq).c1;have f0:=(bR.below hq).f0;have f1:=(bR.below hq).f1))
 all_goals go_wp2_with fail
 have hq2:=hB0.trans (hq.mono hB0.size);have hfin:=hu2.box (bR.below hq) rfl rfl (x0:=.bool s2) (x1:=.slice sa sl sc);exact bodyPost_ret (v:=.agg #[.bool s2,.slice sa sl sc]) (by simp [results,Tryz.results85,go_sem,r0,r1]) rfl ⟨_,rfl,hfin,(hq2.setCell (p:=⟨_,0,none⟩) (by simp only;omega) _).setCell (p:=⟨_,1,none⟩) (by simp only;omega) _⟩
end Go.Proofs.YtcahejkcdcjjgaaGreatDoor
namespace Go.Proofs.YtcahejkcdcjjgaaGreatDoor.M3
open Go.RowKit Go.Shelf
inductive Dat
 | int (z:Int)
 | rat (q:Rat)
 | big (z:Int)
 | ref (q:Rat)
 | zref
 | pair (x y:Int)
 | rats (qs:List Rat)
 | poly (ps:List Rat)
 | cell (t:TypeId) (v:Value)
def Dat.ty:Dat→TypeId
 | .int _=>36
 | .rat _=>38
 | .big _=>47
 | .ref _=>49
 | .zref=>49
 | .pair _ _=>38
 | .rats _=>38
 | .poly _=>25
 | .cell t _=>t
def Has (V:World) (v:Value):Dat→Prop
 | .int z=>Jh V v z
 | .rat q=>Jf V v q
 | .big z=>J4 V v z
 | .ref q=>Yi V v q
 | .zref=>v=.agg #[.slice none 0 0,.bool false,.slice none 0 0,.bool false]
 | .pair x y=>Y9 V v x y
 | .rats qs=>∃ cs,v=.agg cs∧∀ j,j<qs.length→∃ x y z u,cs[j*4]?=some x∧cs[j*4+1]?=some y∧cs[j*4+2]?=some z∧cs[j*4+3]?=some u∧IsK true V (.agg #[x,y,z,u]) (cf qs j)
 | .poly ps=>Jk V v ps
 | .cell _ x=>v=.agg #[x]∧Jw x=true
theorem Has.below {V V':World} {v:Value} {d:Dat} (h:Has V v d) (hb:Below V.heap.size V V'):Has V' v d:=by
 cases d with
 | int z=>exact Jh.below h hb
 | rat q=>exact Jf.below h hb
 | big z=>exact J4.below h hb
 | ref q=>exact Yi.below h hb
 | zref=>exact h
 | pair x y=>exact Y9.below h hb
 | rats qs=>
  obtain ⟨cs,e,h⟩:=h;refine ⟨cs,e,fun j hj=>?_⟩;obtain ⟨x,y,z,u,e0,e1,e2,e3,h3⟩:=h j hj;exact ⟨x,y,z,u,e0,e1,e2,e3,h3.below hb⟩
 | poly ps=>exact Jk.below h hb
 | cell t x=>exact h
theorem Has.alloc {V:World} {v:Value} {d:Dat} (h:Has V v d) (o:Obj):Has (V.alloc o) v d:=h.below ((Below.refl _ V).alloc (Nat.le_refl _) o)
def Dat.noPoly:Dat→Bool | .poly _=>false | _=>true
theorem Has.keep {V V':World} {v:Value} {d:Dat} (h:Has V v d) (hk:∀ k v ds,Row k V v ds→Row k V' v ds) (hp:d.noPoly=true∨∀ v qs,RowK true V v qs→RowK true V' v qs):Has V' v d:=by
 cases d with
 | rats qs=>
  obtain ⟨cs,e,h⟩:=h;refine ⟨cs,e,fun j hj=>?_⟩;obtain ⟨x,y,z,u,e0,e1,e2,e3,h3⟩:=h j hj;exact ⟨x,y,z,u,e0,e1,e2,e3,h3.keep hk⟩
 | poly ps=>
  rcases hp with hp | hp
  · cases hp
  · obtain ⟨u,e,h1⟩:=h;exact ⟨u,e,hp _ _ h1⟩
 | cell t x=>exact h
 | zref=>exact h
 | pair x y=>
  obtain ⟨s,a,l,c,t,b,k,d,e,⟨a1,l1,c1,e1,h1⟩,⟨a2,l2,c2,e2,h2⟩⟩:=h;exact ⟨s,a,l,c,t,b,k,d,e,⟨a1,l1,c1,e1,hk _ _ _ h1⟩,⟨a2,l2,c2,e2,hk _ _ _ h2⟩⟩
 | int z=>obtain ⟨a,l,c,e,hr⟩:=h;exact ⟨a,l,c,e,hk _ _ _ hr⟩
 | big z=>obtain ⟨a,l,c,e,hr⟩:=h;exact ⟨a,l,c,e,hk _ _ _ hr⟩
 | rat q=>
  obtain ⟨s,a,l,c,t,b,k,d,e,⟨a1,l1,c1,e1,h1⟩,⟨a2,l2,c2,e2,h2⟩⟩:=h;exact ⟨s,a,l,c,t,b,k,d,e,⟨a1,l1,c1,e1,hk _ _ _ h1⟩,⟨a2,l2,c2,e2,hk _ _ _ h2⟩⟩
 | ref q=>
  obtain ⟨s,a,l,c,t,b,k,d,e,⟨a1,l1,c1,e1,h1⟩,⟨a2,l2,c2,e2,h2⟩⟩:=h;exact ⟨s,a,l,c,t,b,k,d,e,⟨a1,l1,c1,e1,hk _ _ _ h1⟩,⟨a2,l2,c2,e2,hk _ _ _ h2⟩⟩
def Bx (V:World) (B:Nat) (t:TypeId) (cs:Array Value):Prop:=V.heap[B]?=some (.cells cs t (0,0))
theorem Bx.lt {V:World} {B:Nat} {t:TypeId} {cs:Array Value} (h:Bx V B t cs):B<V.heap.size:=(Array.getElem?_eq_some_iff.1 h).1
theorem Bx.below {V V':World} {B:Nat} {t:TypeId} {cs:Array Value} (h:Bx V B t cs) (hb:Below V.heap.size V V'):Bx V' B t cs:=(hb.block B h.lt).trans h
theorem Bx.far {V:World} {B:Nat} {t:TypeId} {cs:Array Value} (h:Bx V B t cs) {p:Addr} (hp:B≠p.block) (u:Value):Bx (V.setCell p u) B t cs:=(Below.heap_setCell V p u B hp).trans h
def noPoly:List (Option (Nat × Dat))→Bool
 | []=>true
 | some (_,d)::t=>d.noPoly && noPoly t
 | Option.none::t=>noPoly t
theorem Jhp {bs:List (Option (Nat × Dat))} (h:noPoly bs=true) {i:Nat} {x:Nat × Dat} (e:bs[i]?=some (some x)):x.2.noPoly=true:=by
 induction bs generalizing i with
 | nil=>simp at e
 | cons b t ih=>
  cases b with
  | none=>
   cases i with
   | zero=>simp at e
   | succ i=>exact ih h (by simpa using e)
  | some y=>
   rw [noPoly,Bool.and_eq_true] at h;cases i with
   | zero=>simp at e;rw [←e];exact h.1
   | succ i=>exact ih h.2 (by simpa using e)
def Mem (w V:World) (bs:List (Option (Nat × Dat))):Prop:=
 (∀ (i:Nat) B d,bs[i]?=some (some (B,d))→(∃ cs,Bx V B d.ty cs∧Has V (.agg cs) d)∧w.heap.size≤B)∧
 (∀ (i j:Nat) B d d',bs[i]?=some (some (B,d))→bs[j]?=some (some (B,d'))→i=j)∧Below w.heap.size w V
theorem Mem.nil (w:World):Mem w w []:=⟨fun i B z h=>by simp at h,fun i j B z z' h=>by simp at h,Below.refl _ w⟩
theorem Mem.int {w V:World} {bs:List (Option (Nat × Dat))} (M:Mem w V bs) {i B:Nat} {z:Int} (h:bs[i]?=some (some (B,.int z))):∃ s a l c,Jo V B 36 (.bool s) (.slice a l c)∧Jh V (.agg #[.bool s,.slice a l c]) z:=by
 obtain ⟨⟨cs,h1,h2⟩,_⟩:=M.1 i B _ h;obtain ⟨a,l,c,e,hu⟩:=h2;cases e;exact ⟨_,a,l,c,h1,a,l,c,rfl,hu⟩
theorem Mem.big {w V:World} {bs:List (Option (Nat × Dat))} (M:Mem w V bs) {i B:Nat} {z:Int} (h:bs[i]?=some (some (B,.big z))):∃ a l c s,Jo V B 47 (.slice a l c) (.bool s)∧J4 V (.agg #[.slice a l c,.bool s]) z:=by
 obtain ⟨⟨cs,h1,h2⟩,_⟩:=M.1 i B _ h;obtain ⟨a,l,c,e,hu⟩:=h2;cases e;exact ⟨a,l,c,_,h1,a,l,c,rfl,hu⟩
theorem Mem.rat {w V:World} {bs:List (Option (Nat × Dat))} (M:Mem w V bs) {i B:Nat} {q:Rat} (h:bs[i]?=some (some (B,.rat q))) :
 ∃ s a l c t b k d,Js V B 38 (.bool s) (.slice a l c) (.bool t) (.slice b k d)∧Jf V (.agg #[.bool s,.slice a l c,.bool t,.slice b k d]) q∧Jh V (.agg #[.bool s,.slice a l c]) q.num∧Jh V (.agg #[.bool t,.slice b k d]) (denZ q):=by
 obtain ⟨⟨cs,h1,h2⟩,_⟩:=M.1 i B _ h;have h3:=h2;obtain ⟨s,a,l,c,t,b,k,d,e,g1,g2⟩:=h2;cases e;exact ⟨s,a,l,c,t,b,k,d,h1,h3,g1,g2⟩
theorem Mem.pair {w V:World} {bs:List (Option (Nat × Dat))} (M:Mem w V bs) {i B:Nat} {x y:Int} (h:bs[i]?=some (some (B,.pair x y))) :
 ∃ s a l c t b k d,Js V B 38 (.bool s) (.slice a l c) (.bool t) (.slice b k d)∧Y9 V (.agg #[.bool s,.slice a l c,.bool t,.slice b k d]) x y∧Jh V (.agg #[.bool s,.slice a l c]) x∧Jh V (.agg #[.bool t,.slice b k d]) y:=by
 obtain ⟨⟨cs,h1,h2⟩,_⟩:=M.1 i B _ h;have h3:=h2;obtain ⟨s,a,l,c,t,b,k,d,e,g1,g2⟩:=h2;cases e;exact ⟨s,a,l,c,t,b,k,d,h1,h3,g1,g2⟩
theorem Mem.ref {w V:World} {bs:List (Option (Nat × Dat))} (M:Mem w V bs) {i B:Nat} {q:Rat} (h:bs[i]?=some (some (B,.ref q))) :
 ∃ a l c s b k d t,Js V B 49 (.slice a l c) (.bool s) (.slice b k d) (.bool t)∧Yi V (.agg #[.slice a l c,.bool s,.slice b k d,.bool t]) q∧J4 V (.agg #[.slice a l c,.bool s]) q.num∧J4 V (.agg #[.slice b k d,.bool t]) (q.den:Int):=by
 obtain ⟨⟨cs,h1,h2⟩,_⟩:=M.1 i B _ h;have h3:=h2;obtain ⟨s,a,l,c,t,b,k,d,e,g1,g2⟩:=h2;cases e;exact ⟨s,a,l,c,t,b,k,d,h1,h3,g1,g2⟩
theorem Mem.below {w V V':World} {bs:List (Option (Nat × Dat))} (M:Mem w V bs) (hb:Below V.heap.size V V'):Mem w V' bs:=
 ⟨fun i B z h=>by
  obtain ⟨⟨cs,h1,h2⟩,h3⟩:=M.1 i B z h;exact ⟨⟨cs,h1.below hb,h2.below hb⟩,h3⟩,M.2.1,M.2.2.trans (hb.mono M.2.2.size)⟩
theorem Mem.drew {w V:World} {bs:List (Option (Nat × Dat))} (M:Mem w V bs):Mem w V.drew bs:=M.below ((Below.refl _ V).drew)
theorem Mem.sub {w V:World} {bs cs:List (Option (Nat × Dat))} (M:Mem w V bs) (f:Nat→Nat) (hf:∀ (i j:Nat),f i=f j→i=j) (h:∀ (i:Nat) x,cs[i]?=some (some x)→bs[f i]?=some (some x)):Mem w V cs:=
 ⟨fun i B d h1=>M.1 (f i) B d (h i _ h1),fun i j B d d' h1 h2=>hf i j (M.2.1 (f i) (f j) B d d' (h i _ h1) (h j _ h2)),M.2.2⟩
theorem Mem.take {w V:World} {bs:List (Option (Nat × Dat))} (M:Mem w V bs) (n:Nat):Mem w V (bs.take n):=by
 refine M.sub id (fun _ _ h=>h) (fun i x h=>?_);rw [List.getElem?_take] at h;split at h
 · exact h
 · cases h
theorem Mem.none {w V:World} {bs:List (Option (Nat × Dat))} (M:Mem w V bs):Mem w V (bs++[Option.none]):=by
 refine M.sub id (fun _ _ h=>h) (fun i x h=>?_);by_cases hi:i<bs.length
 · rwa [List.getElem?_append_left hi] at h
 · rw [List.getElem?_append_right (by omega)] at h;obtain ⟨k,hk⟩:∃ k,i - bs.length=k:=⟨_,rfl⟩;rw [hk] at h;cases k <;> simp at h
theorem Mem.fill {w V:World} {bs:List (Option (Nat × Dat))} (M:Mem w V bs) {i:Nat} (h:bs[i]?=some Option.none) {cs:Array Value} (d:Dat) (hd:Has V (.agg cs) d) :
 Mem w (V.alloc (.cells cs d.ty)) (bs.set i (some (V.heap.size,d))):=by
 have hal:Below V.heap.size V (V.alloc (.cells cs d.ty)):=(Below.refl _ V).alloc (Nat.le_refl _) _;have hlen:i<bs.length:=(List.getElem?_eq_some_iff.1 h).1;have M2:=M.below hal;have hlt:∀ (j:Nat) B d,bs[j]?=some (some (B,d))→B<V.heap.size:=fun j B d h=>by
  obtain ⟨⟨_,h1,_⟩,_⟩:=M.1 j B d h;exact h1.lt
 refine ⟨fun j B d' hj=>?_,fun j k B d1 d2 h1 h2=>?_,M2.2.2⟩
 · by_cases hij:i=j
   · subst hij;rw [List.getElem?_set_self hlen] at hj;simp at hj;obtain ⟨rfl,rfl⟩:=hj;exact ⟨⟨cs,World.alloc_heap_new V _,hd.below hal⟩,M.2.2.size⟩
   · rw [List.getElem?_set_ne hij] at hj;exact M2.1 j B d' hj
 · by_cases hij:i=j <;> by_cases hik:i=k
   · omega
   · subst hij;rw [List.getElem?_set_self hlen] at h1;rw [List.getElem?_set_ne hik] at h2;simp at h1;have:=hlt k B d2 h2;omega
   · subst hik;rw [List.getElem?_set_self hlen] at h2;rw [List.getElem?_set_ne hij] at h1;simp at h2;have:=hlt j B d1 h1;omega
   · rw [List.getElem?_set_ne hij] at h1;rw [List.getElem?_set_ne hik] at h2;exact M.2.1 j k B d1 d2 h1 h2
theorem Mem.push {w V:World} {bs:List (Option (Nat × Dat))} (M:Mem w V bs) {cs:Array Value} (d:Dat) (hd:Has V (.agg cs) d):Mem w (V.alloc (.cells cs d.ty)) (bs++[some (V.heap.size,d)]):=by
 have h:=M.none.fill (i:=bs.length) (by simp) d hd;rwa [Jmt] at h
theorem Mem.repl {w V V':World} {bs:List (Option (Nat × Dat))} (M:Mem w V bs) {i B:Nat} {d:Dat} (h:bs[i]?=some (some (B,d))) {cs:Array Value} (d':Dat) (hc:Bx V' B d'.ty cs) (hd:Has V (.agg cs) d')
 (hk:∀ k v ds,Row k V v ds→Row k V' v ds) (hf:∀ B' t cs,B'≠B→Bx V B' t cs→Bx V' B' t cs) (hB:Below w.heap.size w V')
 (hp:noPoly bs=true∨∀ v qs,RowK true V v qs→RowK true V' v qs) (hp':d'.noPoly=true∨∀ v qs,RowK true V v qs→RowK true V' v qs):Mem w V' (bs.set i (some (B,d'))):=by
 have hlen:i<bs.length:=(List.getElem?_eq_some_iff.1 h).1;obtain ⟨_,hw⟩:=M.1 i B d h;refine ⟨fun j B' d1 hj=>?_,fun j k B' d1 d2 h1 h2=>?_,hB⟩
 · by_cases hij:i=j
   · subst hij;rw [List.getElem?_set_self hlen] at hj;simp at hj;obtain ⟨rfl,rfl⟩:=hj;exact ⟨⟨cs,hc,hd.keep hk hp'⟩,hw⟩
   · rw [List.getElem?_set_ne hij] at hj;obtain ⟨⟨cs1,g1,g2⟩,hw1⟩:=M.1 j B' d1 hj;have hne:B'≠B:=fun e=>hij (by rw [e] at hj;exact M.2.1 i j B d d1 h hj);exact ⟨⟨cs1,hf _ _ _ hne g1,g2.keep hk (hp.imp (fun h=>Jhp h hj) id)⟩,hw1⟩
 · have hget:∀ (j:Nat) d1,(bs.set i (some (B,d')))[j]?=some (some (B',d1))→∃ d3,bs[j]?=some (some (B',d3)):=fun j d1 hj=>by
    by_cases hij:i=j
    · subst hij;rw [List.getElem?_set_self hlen] at hj;simp at hj;exact ⟨d,by rw [h,hj.1]⟩
    · rw [List.getElem?_set_ne hij] at hj;exact ⟨d1,hj⟩
   obtain ⟨d3,g1⟩:=hget j d1 h1;obtain ⟨d4,g2⟩:=hget k d2 h2;exact M.2.1 j k B' d3 d4 g1 g2
theorem Jdq {V:World} {B:Nat} {t:TypeId} {cs:Array Value} (h:Bx V B t cs) {o:Nat} {x0:Value} (e:cs[o]?=some x0) (n0:Jw x0=true) (r:Bool) (ht:t≠tyK r) (x:Value) (v:Value) (qs:List Rat) (hr:RowK r V v qs):RowK r (V.setCell ⟨B,o,Option.none⟩ x) v qs:=by
 obtain ⟨a,cap,ev,h1,h2,h3,h4⟩:=hr;refine ⟨a,cap,ev,h1,h2,h3,?_⟩;rcases h4 with h4 | ⟨b,ea,h5⟩
 · exact Or.inl h4
 · refine Or.inr ⟨b,ea,h5.keep (Below.heap_setCell V ⟨B,o,Option.none⟩ x b ?_) (fun _ _ _ hr=>Row.set hr (cell_of h e) n0 _)⟩;rintro rfl;obtain ⟨cs',g1,_⟩:=h5;rw [show V.heap[b]?=_ from h] at g1;cases g1;exact ht rfl
theorem Jth {V:World} {B:Nat} {t:TypeId} {x0 y0:Value} (q:Jo V B t x0 y0) {r:Bool} (ht:t≠tyK r) (n0:Jw x0=true) (n1:Jw y0=true) (x y:Value):∀ v qs,RowK r V v qs→RowK r ((V.setCell ⟨B,0,Option.none⟩ x).setCell ⟨B,1,Option.none⟩ y) v qs:=
 fun v qs h=>Jdq (cs:=#[x,y0]) (q.set0 x) (o:=1) rfl n1 r ht y v qs (Jdq (cs:=#[x0,y0]) q (o:=0) rfl n0 r ht x v qs h)
theorem keep2 {V:World} {B:Nat} {t:TypeId} {x y:Value} (q:Jo V B t x y) (n0:Jw x=true) (n1:Jw y=true) (x' y':Value):∀ k v ds,Row k V v ds→Row k ((V.setCell ⟨B,0,Option.none⟩ x').setCell ⟨B,1,Option.none⟩ y') v ds:=
 fun _ _ _ h=>Row.set (Row.set h q.c0 n0 _) (q.set0 x').c1 n1 _
theorem Mem.putInt {w V:World} {bs:List (Option (Nat × Dat))} (M:Mem w V bs) {i B:Nat} {z0:Int} (h:bs[i]?=some (some (B,.int z0))) {x y:Value} {z:Int} (hi:Jh V (.agg #[x,y]) z) :
 Mem w ((V.setCell ⟨B,0,Option.none⟩ x).setCell ⟨B,1,Option.none⟩ y) (bs.set i (some (B,.int z))):=by
 obtain ⟨s,a,l,c,hb,_⟩:=M.int h;obtain ⟨_,hw⟩:=M.1 i B _ h;exact M.repl h (.int z) (cs:=#[x,y]) ((hb.set0 x).set1 y) hi (keep2 hb rfl rfl x y) (fun B' t cs hne g=>(g.far (p:=⟨B,0,Option.none⟩) hne _).far (p:=⟨B,1,Option.none⟩) hne _) ((M.2.2.setCell (p:=⟨B,0,Option.none⟩) hw _).setCell (p:=⟨B,1,Option.none⟩) hw _) (Or.inr (Jth hb (by decide) rfl rfl x y)) (Or.inl rfl)
theorem far4 {V:World} {B:Nat} (x y z u:Value):∀ B' t cs,B'≠B→Bx V B' t cs→Bx (put4 V B x y z u) B' t cs:=fun _ _ _ hne g=>(((g.far (p:=⟨B,0,Option.none⟩) hne _).far (p:=⟨B,1,Option.none⟩) hne _).far (p:=⟨B,2,Option.none⟩) hne _).far (p:=⟨B,3,Option.none⟩) hne _
theorem Mem.putRat {w V:World} {bs:List (Option (Nat × Dat))} (M:Mem w V bs) {i B:Nat} {q0:Rat} (h:bs[i]?=some (some (B,.rat q0))) {x y z u:Value} {q:Rat} (hi:Jf V (.agg #[x,y,z,u]) q) (np:noPoly bs=true:=by rfl) :
 Mem w (put4 V B x y z u) (bs.set i (some (B,.rat q))):=by
 obtain ⟨_,_,_,_,_,_,_,_,hb,_⟩:=M.rat h;obtain ⟨_,hw⟩:=M.1 i B _ h;exact M.repl h (.rat q) (cs:=#[x,y,z,u]) (hb.put x y z u) hi (fun _ _ _ g=>Row.put4 g hb rfl rfl rfl rfl _ _ _ _) (far4 x y z u) (Jt M.2.2 hw _ _ _ _) (Or.inl np) (Or.inl rfl)
theorem Mem.zref {w V:World} {bs:List (Option (Nat × Dat))} (M:Mem w V bs) {i B:Nat} (h:bs[i]?=some (some (B,.zref))):Js V B 49 (.slice Option.none 0 0) (.bool false) (.slice Option.none 0 0) (.bool false):=by
 obtain ⟨⟨cs,h1,h2⟩,_⟩:=M.1 i B _ h;cases (show Value.agg cs=_ from h2);exact h1
theorem Has.set2 {V:World} {v:Value} {d:Dat} (h:Has V v d) {B:Nat} {t:TypeId} {x y:Value} (q:Jo V B t x y) (n0:Jw x=true) (n1:Jw y=true) (x' y':Value) (ht:d.noPoly=true:=by rfl):Has ((V.setCell ⟨B,0,Option.none⟩ x').setCell ⟨B,1,Option.none⟩ y') v d:=h.keep (keep2 q n0 n1 x' y') (Or.inl ht)
theorem Has.put4 {V:World} {v:Value} {d:Dat} (h:Has V v d) {B:Nat} {t:TypeId} {x y z u:Value} (q:Js V B t x y z u) (n0:Jw x=true) (n1:Jw y=true) (n2:Jw z=true) (n3:Jw u=true) (x' y' z' u':Value) (ht:d.noPoly=true:=by rfl):Has (Go.Proofs.YtcahejkcdcjjgaaGreatDoor.put4 V B x' y' z' u') v d:=h.keep (fun _ _ _ g=>Row.put4 g q n0 n1 n2 n3 _ _ _ _) (Or.inl ht)
theorem Mem.ne {w V:World} {bs:List (Option (Nat × Dat))} (M:Mem w V bs) (i j:Nat) {B B':Nat} {d d':Dat} (h:bs[i]?=some (some (B,d))) (h':bs[j]?=some (some (B',d'))) (hij:i≠j):B≠B':=fun e=>by
 subst e;exact hij (M.2.1 i j B d d' h h')
theorem Mem.ge {w V:World} {bs:List (Option (Nat × Dat))} (M:Mem w V bs) (i:Nat) {B:Nat} {d:Dat} (h:bs[i]?=some (some (B,d))):w.heap.size≤B:=(M.1 i B d h).2
def Tup2 (V:World) (t:Value) (d1 d2:Dat):Prop:=∃ u1 u2,t=.tuple #[u1,u2,.bool true]∧Has V u1 d1∧Has V u2 d2
theorem Tup2.below {V V':World} {t:Value} {d1 d2:Dat} (h:Tup2 V t d1 d2) (hb:Below V.heap.size V V'):Tup2 V' t d1 d2:=by
 obtain ⟨u1,u2,e,h1,h2⟩:=h;exact ⟨u1,u2,e,h1.below hb,h2.below hb⟩
theorem Tup2.alloc {V:World} {t:Value} {d1 d2:Dat} (h:Tup2 V t d1 d2) (o:Obj):Tup2 (V.alloc o) t d1 d2:=by
 obtain ⟨u1,u2,e,h1,h2⟩:=h;exact ⟨u1,u2,e,h1.alloc o,h2.alloc o⟩
theorem Tup2.set2 {V:World} {v:Value} {d1 d2:Dat} (h:Tup2 V v d1 d2) {B:Nat} {t:TypeId} {x y:Value} (q:Jo V B t x y) (n0:Jw x=true) (n1:Jw y=true) (x' y':Value) (t1:d1.noPoly=true:=by rfl) (t2:d2.noPoly=true:=by rfl):Tup2 ((V.setCell ⟨B,0,Option.none⟩ x').setCell ⟨B,1,Option.none⟩ y') v d1 d2:=by
 obtain ⟨u1,u2,e,h1,h2⟩:=h;exact ⟨u1,u2,e,h1.set2 q n0 n1 x' y' t1,h2.set2 q n0 n1 x' y' t2⟩
theorem Mem.rats {w V:World} {bs:List (Option (Nat × Dat))} (M:Mem w V bs) {i B:Nat} {qs:List Rat} (h:bs[i]?=some (some (B,.rats qs))):Els true V B qs:=by
 obtain ⟨⟨cs,h1,h2⟩,_⟩:=M.1 i B _ h;obtain ⟨cs',e,h2⟩:=h2;cases e;exact ⟨cs,h1,h2⟩
theorem Mem.putRats {w V:World} {bs:List (Option (Nat × Dat))} (M:Mem w V bs) {i B:Nat} {qs:List Rat} (h:bs[i]?=some (some (B,.rats qs))) {j:Nat} (hj:j<qs.length) {x y z u:Value} {q:Rat} (hi:Jf V (.agg #[x,y,z,u]) q) (np:noPoly bs=true:=by rfl) :
 Mem w (putAt V B (j*4) x y z u) (bs.set i (some (B,.rats (qs.set j q)))):=by
 have hb:=M.rats h;obtain ⟨_,hw⟩:=M.1 i B _ h;obtain ⟨cs,c1,c2⟩:=Els.set (r:=true) hb hj hi;have hk:=hb.putKeep hj x y z u;have hlen:i<bs.length:=(List.getElem?_eq_some_iff.1 h).1;refine ⟨fun j' B' d1 hj'=>?_,fun j' k B' d1 d2 h1 h2=>?_,Jep M.2.2 hw _ _ _ _⟩
 · by_cases hij:i=j'
   · subst hij;rw [List.getElem?_set_self hlen] at hj';simp at hj';obtain ⟨rfl,rfl⟩:=hj';exact ⟨⟨cs,c1,cs,rfl,c2⟩,hw⟩
   · rw [List.getElem?_set_ne hij] at hj';obtain ⟨⟨cs1,g1,g2⟩,hw1⟩:=M.1 j' B' d1 hj';have hne:B'≠B:=fun e=>hij (by rw [e] at hj';exact M.2.1 i j' B _ d1 h hj');exact ⟨⟨cs1,(Jap hne x y z u).trans g1,g2.keep hk (Or.inl (Jhp np hj'))⟩,hw1⟩
 · have hget:∀ (j':Nat) d1,(bs.set i (some (B,.rats (qs.set j q))))[j']?=some (some (B',d1))→∃ d3,bs[j']?=some (some (B',d3)):=fun j' d1 hj'=>by
    by_cases hij:i=j'
    · subst hij;rw [List.getElem?_set_self hlen] at hj';simp at hj';exact ⟨_,by rw [h,hj'.1]⟩
    · rw [List.getElem?_set_ne hij] at hj';exact ⟨d1,hj'⟩
   obtain ⟨d3,g1⟩:=hget j' d1 h1;obtain ⟨d4,g2⟩:=hget k d2 h2;exact M.2.1 j' k B' d3 d4 g1 g2
theorem Mem.cell {w V:World} {bs:List (Option (Nat × Dat))} (M:Mem w V bs) {i B:Nat} {t:TypeId} {v:Value} (h:bs[i]?=some (some (B,.cell t v))):Boxed V B t v∧Jw v=true:=by
 obtain ⟨⟨cs,h1,h2⟩,_⟩:=M.1 i B _ h;obtain ⟨e,h2⟩:=h2;cases e;exact ⟨h1,h2⟩
theorem Mem.poly {w V:World} {bs:List (Option (Nat × Dat))} (M:Mem w V bs) {i B:Nat} {ps:List Rat} (h:bs[i]?=some (some (B,.poly ps))):∃ a l c,Boxed V B 25 (.slice a l c)∧RowK true V (.slice a l c) ps:=by
 obtain ⟨⟨cs,h1,h2⟩,_⟩:=M.1 i B _ h;obtain ⟨a,l,c,e⟩:=Jk.form h2;cases e;exact ⟨a,l,c,h1,Jk.row h2⟩
theorem Jti {V:World} {B:Nat} {t:TypeId} {x:Value} (q:Boxed V B t x) (n0:Jw x=true) (x':Value):∀ k v ds,Row k V v ds→Row k (V.setCell ⟨B,0,Option.none⟩ x') v ds:=
 fun _ _ _ h=>Row.set h q.cell n0 _
theorem Mem.adopt {w V V':World} {bs:List (Option (Nat × Dat))} (M:Mem w V bs) (hb:Below V.heap.size V V') {g:Nat} (hg:V.heap.size≤g) {qs:List Rat} (he:Els true V' g qs):Mem w V' (bs++[some (g,.rats qs)]):=by
 have M2:=M.below hb;have hlt:∀ (j:Nat) B d,bs[j]?=some (some (B,d))→B<V.heap.size:=fun j B d h=>by
  obtain ⟨⟨_,h1,_⟩,_⟩:=M.1 j B d h;exact h1.lt
 have hat:∀ (j:Nat) x,(bs++[some (g,Dat.rats qs)])[j]?=some (some x)→bs[j]?=some (some x)∨(j=bs.length∧x=(g,.rats qs)):=fun j x h=>by
  by_cases hj:j<bs.length
  · rw [List.getElem?_append_left hj] at h;exact Or.inl h
  · rw [List.getElem?_append_right (by omega)] at h;obtain ⟨k,hk⟩:∃ k,j - bs.length=k:=⟨_,rfl⟩;rw [hk] at h;cases k with
    | zero=>simp at h;exact Or.inr ⟨by omega,h.symm⟩
    | succ k=>simp at h
 refine ⟨fun j B d h=>?_,fun j k B d1 d2 h1 h2=>?_,M2.2.2⟩
 · rcases hat j _ h with h | ⟨_,h⟩
   · exact M2.1 j B d h
   · cases h;obtain ⟨cs,c1,c2⟩:=he;exact ⟨⟨cs,c1,cs,rfl,c2⟩,Nat.le_trans M.2.2.size hg⟩
 · rcases hat j _ h1 with h1 | ⟨e1,h1⟩ <;> rcases hat k _ h2 with h2 | ⟨e2,h2⟩
   · exact M.2.1 j k B d1 d2 h1 h2
   · cases h2;have:=hlt j _ _ h1;omega
   · cases h1;have:=hlt k _ _ h2;omega
   · omega
end Go.Proofs.YtcahejkcdcjjgaaGreatDoor.M3
namespace Go.Proofs.YtcahejkcdcjjgaaGreatDoor
open Go.RowKit Go.Shelf
def ArI (W:World) (b:Nat) (xs:List Nat):Prop:=∃ tl:List Value,W.heap[b]?=some (.cells (cellsOf .i64 xs++tl).toArray 3 (0,0))
theorem ArI.lt {W:World} {b:Nat} {xs:List Nat} (h:ArI W b xs):b<W.heap.size:=by obtain ⟨_,h⟩:=h;exact (Array.getElem?_eq_some_iff.1 h).1
theorem ArI.cell {W:World} {b:Nat} {xs:List Nat} (h:ArI W b xs) {j:Nat} (hj:j<xs.length):W.cell? ⟨b,j,none⟩=some (.int .i64 (xs[j]?.getD 0:Nat)):=by
 obtain ⟨tl,h⟩:=h;have e:(cellsOf .i64 xs++tl)[j]?=some (.int .i64 (xs[j]?.getD 0:Nat)):=by
  rw [List.getElem?_append_left (by rw [Yn];exact hj)];simp [cellsOf,List.getElem?_eq_getElem hj]
 simp [World.cell?,h,e]
theorem ArI.frozen {W:World} {b:Nat} {xs:List Nat} (h:ArI W b xs) (j:Nat):W.frozen? ⟨b,j,none⟩=false:=by obtain ⟨_,h⟩:=h;simp [World.frozen?,h]
theorem ArI.of_block {W W':World} {b:Nat} {xs:List Nat} (h:ArI W b xs) (e:W'.heap[b]?=W.heap[b]?):ArI W' b xs:=by obtain ⟨tl,h⟩:=h;exact ⟨tl,e.trans h⟩
theorem ArI.kept {W W':World} {row:Option Nat} {b:Nat} {xs:List Nat} (h:ArI W b xs) (hg:W.grownBy W' row) (hne:some b≠row):ArI W' b xs:=h.of_block (hg.block b h.lt hne)
theorem ArI.below {W W':World} {b:Nat} {xs:List Nat} (h:ArI W b xs) (hb:Below W.heap.size W W'):ArI W' b xs:=h.of_block (hb.block b h.lt)
theorem ArI.alloc {W:World} {b:Nat} {xs:List Nat} (h:ArI W b xs) (o:Obj):ArI (W.alloc o) b xs:=h.below ((Below.refl _ W).alloc (Nat.le_refl _) o)
theorem ArI.set {W:World} {b:Nat} {xs:List Nat} (h:ArI W b xs) (j v:Nat):ArI (W.setCell ⟨b,j,none⟩ (.int .i64 (v:Nat))) b (xs.set j v):=by
 obtain ⟨tl,h⟩:=h;obtain ⟨hlt,hk⟩:=Array.getElem?_eq_some_iff.1 h;have e:∃ tl',(cellsOf .i64 xs++tl).set j (.int .i64 (v:Nat))=cellsOf .i64 (xs.set j v)++tl':=by
  rcases Nat.lt_or_ge j xs.length with hj | hj
  · exact ⟨tl,by rw [List.set_append_left _ _ (by rw [Yn];exact hj)];simp [cellsOf,List.map_set]⟩
  · exact ⟨_,by rw [List.set_append_right _ _ (by rw [Yn];exact hj),List.set_eq_of_length_le hj]⟩
 obtain ⟨tl',e⟩:=e;refine ⟨tl',?_⟩;show (W.heap.modify b _)[b]?=_;rw [Array.getElem?_eq_getElem (by rw [Array.size_modify];exact hlt),Array.getElem_modify_self,hk,←e];simp
theorem ArI.made {W:World} {b:Nat} {xs:List Nat} (h:W.heap[b]?=some (.cells (cellsOf .i64 xs).toArray 3 (0,0))):ArI W b xs:=⟨[],by rw [List.append_nil];exact h⟩
theorem ArI.row {W:World} {b:Nat} {xs:List Nat} (h:ArI W b xs) (off len cap:Nat) (h1:off+len≤xs.length) (h2:len≤cap) (h3:cap≤9223372036854775807) (h4:len≤1099511627776):Row .i64 W (.slice (some ⟨b,off,none⟩) len cap) ((xs.drop off).take len):=by
 have e:((xs.drop off).take len).length=len:=by rw [List.length_take,List.length_drop];omega
 refine ⟨_,cap,by rw [e],by omega,h3,by omega,Or.inr ⟨b,off,rfl,(by obtain ⟨tl,h⟩:=h;exact ⟨_,_,h⟩),fun j hj=>?_⟩⟩;rw [e] at hj;rw [h.cell (by omega),List.getElem?_take_of_lt hj,List.getElem?_drop]
theorem Jis (B:Nat):∀ (D:List Nat) (j d:Nat),j<D.length→val B (D.set j d)+B ^ j*D[j]?.getD 0=val B D+B ^ j*d
 | [],_,_,h=>by cases h
 | x::D,0,d,_=>by simp [val];omega
 | x::D,j+1,d,h=>by
  have ih:=Jis B D j d (by simpa using h);simp only [List.set_cons_succ,val,List.getElem?_cons_succ,Nat.pow_succ];have e:B*val B (D.set j d)+B*(B ^ j*D[j]?.getD 0)=B*val B D+B*(B ^ j*d):=by rw [←Nat.mul_add,ih,Nat.mul_add]
  have e1:B ^ j*B*D[j]?.getD 0=B*(B ^ j*D[j]?.getD 0):=by rw [Nat.mul_comm (B ^ j) B,Nat.mul_assoc]
  have e2:B ^ j*B*d=B*(B ^ j*d):=by rw [Nat.mul_comm (B ^ j) B,Nat.mul_assoc]
  omega
theorem Jhq (B n:Nat):val B (List.replicate n 0)=0:=by
 induction n with
 | zero=>rfl
 | succ n ih=>rw [List.replicate_succ,val,ih];simp
theorem Dig.set {B:Nat} {D:List Nat} (h:Dig B D) (j:Nat) {d:Nat} (hd:d<B):Dig B (D.set j d):=fun x hx=>by
 rcases List.mem_or_eq_of_mem_set hx with h1 | h1
 · exact h x h1
 · rw [h1];exact hd
def Jj0 (us bs:List Nat) (i:Nat) (D:List Nat):Prop:=
 D.length=us.length+bs.length+1∧Dig 10000 D∧val 10000 D=val 10000 (us.take i)*val 10000 bs
def Jit (us bs:List Nat) (i k c:Nat) (D:List Nat):Prop:=
 D.length=us.length+bs.length+1∧Dig 10000 D∧c<10000∧
  val 10000 D+10000 ^ (i+k)*c=val 10000 (us.take i)*val 10000 bs+10000 ^ i*(us[i]?.getD 0*val 10000 (bs.take k))
theorem Jj0.start (us bs:List Nat):Jj0 us bs 0 (List.replicate (us.length+bs.length+1) 0):=
 ⟨List.length_replicate,fun x hx=>by rw [List.eq_of_mem_replicate hx];omega,by rw [Jhq];simp [val]⟩
theorem Jit.total {us bs:List Nat} {i k c:Nat} {D:List Nat} (h:Jit us bs i k c D) (hk:bs.length≤k):val 10000 D+10000 ^ (i+k)*c=val 10000 (us.take (i+1))*val 10000 bs:=by
 obtain ⟨_,_,_,h4⟩:=h;rw [h4,List.take_of_length_le hk,Jl,Nat.add_mul,Nat.mul_assoc]
theorem Jit.done {us bs:List Nat} {i k:Nat} {D:List Nat} (h:Jit us bs i k 0 D) (hk:bs.length≤k):Jj0 us bs (i+1) D:=by
 have:=h.total hk;exact ⟨h.1,h.2.1,by omega⟩
theorem Jit.over {us bs:List Nat} {i k c:Nat} {D:List Nat} (h:Jit us bs i k c D) (ha:Dig 10000 us) (hb:Dig 10000 bs) (hi:i<us.length) (hk:bs.length<k):c=0:=by
 have h1:=h.total (by omega);have h2:=J2 (ha.take (i+1));have h3:=J2 hb;rw [List.length_take,Nat.min_eq_left (by omega)] at h2;have h4:val 10000 (us.take (i+1))*val 10000 bs<10000 ^ (i+1)*10000 ^ bs.length:=Nat.mul_lt_mul'' h2 h3;rw [←Nat.pow_add] at h4;have h5:10000 ^ (i+1+bs.length)≤10000 ^ (i+k):=Nat.pow_le_pow_right (by omega) (by omega);rcases Nat.eq_zero_or_pos c with h6 | h6
 · exact h6
 · have:=Nat.mul_le_mul_left (10000 ^ (i+k)) h6;omega
theorem Jit.step {us bs:List Nat} {i k c:Nat} {D:List Nat} (h:Jit us bs i k c D) (ha:Dig 10000 us) (hb:Dig 10000 bs) (hj:i+k<D.length) (c1:Nat) (hc1:c1=c+D[i+k]?.getD 0+us[i]?.getD 0*bs[k]?.getD 0) :
 Jit us bs i (k+1) (c1 / 10000) (D.set (i+k) (c1 % 10000)):=by
 obtain ⟨h1,h2,h3,h4⟩:=h;have x1:=ha.getD (by omega) i;have x2:=hb.getD (by omega) k;have x3:=h2.getD (by omega) (i+k);have x4:us[i]?.getD 0*bs[k]?.getD 0≤9999*9999:=Nat.mul_le_mul (by omega) (by omega);refine ⟨by rw [List.length_set];exact h1,h2.set _ (Nat.mod_lt _ (by omega)),by omega,?_⟩;have h5:=Jis 10000 D (i+k) (c1 % 10000) hj;rw [Jl,Nat.mul_add,Nat.mul_add];have e1:10000 ^ (i+(k+1))*(c1 / 10000)+10000 ^ (i+k)*(c1 % 10000)=10000 ^ (i+k)*c1:=by
  rw [←Nat.add_assoc,Nat.pow_succ,Nat.mul_assoc,←Nat.mul_add,Nat.div_add_mod]
 have e2:10000 ^ i*(us[i]?.getD 0*(10000 ^ k*bs[k]?.getD 0))=10000 ^ (i+k)*(us[i]?.getD 0*bs[k]?.getD 0):=by
  rw [Nat.pow_add,Nat.mul_assoc];congr 1;rw [Nat.mul_left_comm]
 rw [hc1,Nat.mul_add,Nat.mul_add] at e1;rw [e2];rw [hc1] at h5 ⊢;omega
theorem Jj0.fin {us bs D:List Nat} {m n:Nat} (h:Jj0 us bs us.length D) (ha:us=Jd 10000 m) (hb:bs=Jd 10000 n):Jy D=Jd 10000 (m*n):=by
 obtain ⟨_,h2,h3⟩:=h;rw [List.take_of_length_le (Nat.le_refl _)] at h3;rw [←JQ (by omega) h2,h3,ha,hb,Jn (by omega),Jn (by omega)]
theorem Jp {P:Program} {ops:Array Oper} {Q:Exit→Act→World→Prop} {i:Nat} {o:Oper} {K:Act→World→Prop} {a:Act} {w:World} (ho:ops[i]?=some o) (hw:Region.wanted o (yielded ops a.tmps)=true)
 (h:∀ K':Act→World→Prop,(∀ a w,K a w→K' a w)→o.wp P a w K' Q):wpOp P ops Q i K a w:=by
 unfold wpOp;rw [ho];simp only [hw,if_true];exact Or.inl (h K (fun _ _ h=>h))
theorem J3 {P:Program} {ops:Array Oper} {Q:Exit→Act→World→Prop} {i:Nat} {o:Oper} {K:Act→World→Prop} {a:Act} {w:World} (ho:ops[i]?=some o) (hw:Region.wanted o (yielded ops a.tmps)=false)
 (h:K (a.put o.dst undef) w):wpOp P ops Q i K a w:=by
 unfold wpOp;rw [ho];simp only [hw];exact h
end Go.Proofs.YtcahejkcdcjjgaaGreatDoor
