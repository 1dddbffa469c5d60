import Derived.Test.YtcahejkcdcjjgaaGreatDoorK03
import Derived.Deep.RegionHeld3
import Derived.Test.YtcahejkcdcjjgaaGreatDoorK02
set_option maxRecDepth 100000
set_option maxHeartbeats 16000000
namespace Go.Proofs.YtcahejkcdcjjgaaGreatDoor
open Go.RowKit Go.Shelf
def Ji (W:World) (B:Nat) (t:TypeId) (x y:Value):Prop:=W.heap[B]?=some (.cells #[x,y] t (0,0))
theorem Ji.lt {W:World} {B:Nat} {t:TypeId} {x y:Value} (h:Ji W B t x y):B<W.heap.size:=(Array.getElem?_eq_some_iff.1 h).1
theorem Ji.c0 {W:World} {B:Nat} {t:TypeId} {x y:Value} (h:Ji W B t x y):W.cell? ⟨B,0,none⟩=some x:=by simp [World.cell?,show W.heap[B]?=_ from h]
theorem Ji.c1 {W:World} {B:Nat} {t:TypeId} {x y:Value} (h:Ji W B t x y):W.cell? ⟨B,1,none⟩=some y:=by simp [World.cell?,show W.heap[B]?=_ from h]
theorem Ji.f0 {W:World} {B:Nat} {t:TypeId} {x y:Value} (h:Ji W B t x y):W.frozen? ⟨B,0,none⟩=false:=by simp [World.frozen?,show W.heap[B]?=_ from h]
theorem Ji.f1 {W:World} {B:Nat} {t:TypeId} {x y:Value} (h:Ji W B t x y):W.frozen? ⟨B,1,none⟩=false:=by simp [World.frozen?,show W.heap[B]?=_ from h]
theorem Ji.new (W:World) (t:TypeId) (x y:Value):Ji (W.alloc (.cells #[x,y] t)) W.heap.size t x y:=World.alloc_heap_new W _
theorem Ji.below {W W':World} {B:Nat} {t:TypeId} {x y:Value} (h:Ji W B t x y) (hb:Below W.heap.size W W'):Ji W' B t x y:=(hb.block B h.lt).trans h
theorem Ji.alloc {W:World} {B:Nat} {t:TypeId} {x y:Value} (h:Ji W B t x y) (o:Obj):Ji (W.alloc o) B t x y:=h.below ((Below.refl _ W).alloc (Nat.le_refl _) o)
theorem Ji.drew {W:World} {B:Nat} {t:TypeId} {x y:Value} (h:Ji W B t x y):Ji W.drew B t x y:=h
theorem Ji.set0 {W:World} {B:Nat} {t:TypeId} {x y:Value} (h:Ji W B t x y) (u:Value):Ji (W.setCell ⟨B,0,none⟩ u) B t u y:=by
 obtain ⟨hlt,hk⟩:=Array.getElem?_eq_some_iff.1 h;show (W.heap.modify B _)[B]?=_;rw [Array.getElem?_eq_getElem (by rw [Array.size_modify];exact hlt),Array.getElem_modify_self,hk];rfl
theorem Ji.set1 {W:World} {B:Nat} {t:TypeId} {x y:Value} (h:Ji W B t x y) (u:Value):Ji (W.setCell ⟨B,1,none⟩ u) B t x u:=by
 obtain ⟨hlt,hk⟩:=Array.getElem?_eq_some_iff.1 h;show (W.heap.modify B _)[B]?=_;rw [Array.getElem?_eq_getElem (by rw [Array.size_modify];exact hlt),Array.getElem_modify_self,hk];rfl
theorem Ji.far {W:World} {B:Nat} {t:TypeId} {x y:Value} (h:Ji W B t x y) {p:Addr} (hp:B≠p.block) (u:Value):Ji (W.setCell p u) B t x y:=(Below.heap_setCell W p u B hp).trans h
theorem Below.then {w W w1:World} (h:Below w.heap.size w W) (k:Below W.heap.size W w1):Below w.heap.size w w1:=h.trans (k.mono h.size)
theorem JG {w:World} {b o b' o':Nat} {u:Value} (h:b≠b'):(w.setCell ⟨b',o',none⟩ u).cell? ⟨b,o,none⟩=w.cell? ⟨b,o,none⟩:=
 World.cell?_of_block (w:=w) (Below.heap_setCell w ⟨b',o',none⟩ u b h)
def JD:Value→Bool | .int _ _=>false | _=>true
theorem Row.set {k:IntKind} {W:World} {v:Value} {ds:List Nat} (h:Row k W v ds) {p:Addr} {u0:Value} (hp:W.cell? p=some u0) (hn:JD u0=true) (u:Value):Row k (W.setCell p u) v ds:=by
 obtain ⟨a,cap,e,h1,h2,h2',h3⟩:=h;refine ⟨a,cap,e,h1,h2,h2',?_⟩;rcases h3 with h3 | ⟨b,off,ea,hlt,hc⟩
 · exact Or.inl h3
 · refine Or.inr ⟨b,off,ea,hlt.set p u,fun j hj=>?_⟩;have hc':=hc j hj;have hne:p≠⟨b,off+j,none⟩:=by
    intro e';rw [←e',hp] at hc';cases hc';simp [JD] at hn
   exact (World.cell?_setCell_other (h:=hne) ..).trans hc'
theorem Yq {k:IntKind} {w w2:World} {R:Nat} {t:TypeId} {u0 u1:Value} (x0 x1:Value) {v:Value} {ds:List Nat} (hB:Below w.heap.size w w2) (hR:w.heap.size≤R) (q:Ji w2 R t u0 u1) (n0:JD u0=true) (n1:JD u1=true) (hr:Row k w2 v ds) :
 Row k ((w2.setCell ⟨R,0,none⟩ x0).setCell ⟨R,1,none⟩ x1) v ds∧Below w.heap.size w ((w2.setCell ⟨R,0,none⟩ x0).setCell ⟨R,1,none⟩ x1):=
 ⟨Row.set (Row.set hr q.c0 n0 _) (u0:=u1) (q.set0 x0).c1 n1 _,(hB.setCell hR _).setCell hR _⟩
theorem RN.below {W W':World} {v:Value} {n:Nat} (h:RN W v n) (hb:Below W.heap.size W W'):RN W' v n:=Row.below h hb
theorem RN.form {W:World} {v:Value} {n:Nat} (h:RN W v n):∃ a cap,v=.slice a (Jb 10000 n).length cap:=by
 obtain ⟨a,cap,e,_⟩:=h;exact ⟨a,cap,e⟩
theorem Jlb (va vb:Value) (m n:Nat) (w:World) (ha:RN w va m) (hb:RN w vb n) :
 Calls Tryz.prog 143 #[va,vb] w fun e w'=>e=.returned (.int .i64 (YD m n))∧Below w.heap.size w w':=by
 have h:=Jhn 10000 (by omega) va vb _ _ w ha hb (Jk (by omega) m) (Jk (by omega) n) (J5 (by omega) m) (J5 (by omega) n);rw [Jj (by omega),Jj (by omega)] at h;exact h
theorem YP (w:World) (o1 o2 o3:Obj):Below w.heap.size w (((w.alloc o1).alloc o2).alloc o3):=
 (((Below.refl _ w).alloc (Nat.le_refl _) _).alloc (by simp) _).alloc (by simp;omega) _
theorem Jlc {m n:Nat} (h:n≤m):0≤YD m n:=by
 rcases Nat.lt_or_ge n m with g | g
 · rw [Jaw g];omega
 · have:m=n:=by omega
   rw [this,Jdn];omega
theorem Jma (a b:Option Addr) (la lb ca cb m n:Nat) (s:Bool) (w:World) (ra:RN w (.slice a la ca) m) (rb:RN w (.slice b lb cb) n) (hma:(Jb 10000 m).length≤1000000000) (hmb:(Jb 10000 n).length≤1000000000) :
 Calls Tryz.prog 108 #[.agg #[.slice a la ca,.bool s],.agg #[.slice b lb cb,.bool s]] w fun e w'=>∃ c lc cc,e=.returned (.agg #[.slice c lc cc,.bool (s && decide (0<lc))])∧RN w' (.slice c lc cc) (m+n)∧Below w.heap.size w w':=by
 have ne2:¬ (w.heap.size=w.heap.size+1+1):=by omega
 go_enter Tryz.func108,Tryz.ntmps108
 go_wp2_with fail
 have hB0:=YP w (.cells #[.slice a la ca,.bool s] 47) (.cells #[.slice b lb cb,.bool s] 47) (.cells #[.slice none 0 0,.bool false] 47);have b0:=((Ji.new w 47 (.slice a la ca) (.bool s)).alloc (.cells #[.slice b lb cb,.bool s] 47)).alloc (.cells #[.slice none 0 0,.bool false] 47);have b1:=(Ji.new (w.alloc (.cells #[.slice a la ca,.bool s] 47)) 47 (.slice b lb cb) (.bool s)).alloc (.cells #[.slice none 0 0,.bool false] 47);have bR:=Ji.new ((w.alloc (.cells #[.slice a la ca,.bool s] 47)).alloc (.cells #[.slice b lb cb,.bool s] 47)) 47 (.slice none 0 0) (.bool false);simp only [World.size_alloc] at b1 bR;go_region_held3 (fun w'=>w'.cell? ⟨w.heap.size,0,none⟩=some (.slice a la ca)∧w'.cell? ⟨w.heap.size+1,0,none⟩=some (.slice b lb cb)∧w'.cell? ⟨w.heap.size,1,none⟩=some (.bool s)) (refine ⟨?_,?_,?_⟩ <;> (first | (go_keep;done) | ((repeat rw [JG (by omega)]);simp [*];done)))
  (first
   | (go_at_call 142;refine (Jrw _ _ m n _ ?_ ?_ hma hmb).mono ?_;exact ra.below hB0.drew;exact rb.below hB0.drew;rintro e w1 ⟨u,rfl,hu,hb1⟩;obtain ⟨a',c',rfl⟩:=hu.form;have b0:=b0.drew.below hb1;have b1:=b1.drew.below hb1;have bR:=bR.drew.below hb1;have hB0:=Below.then hB0.drew hb1;have k0:=b0.c0;have k1:=b0.c1;have k2:=b1.c0)
   | (go_at_call 141;refine (Jcn _ _ _ _ _).mono ?_;rintro e w2 ⟨rfl,hb2⟩;have hu:=Row.below hu hb2;have b0:=b0.below hb2;have b1:=b1.below hb2;have bR:=bR.below hb2;have hB0:=Below.then hB0 hb2;have k0:=b0.c0;have k1:=b0.c1;have k2:=b1.c0;have r0:=bR.c0;have r1:=bR.c1;have f0:=bR.f0;have f1:=bR.f1))
 all_goals go_wp2_with fail
 obtain ⟨hr,hB2⟩:=Yq (.slice a' (Jb 10000 (m+n)).length c') (.bool (s && decide (0<(Jb 10000 (m+n)).length))) hB0 (by omega) bR rfl rfl hu;exact bodyPost_ret (v:=.agg #[.slice a' (Jb 10000 (m+n)).length c',.bool (s && decide (0<(Jb 10000 (m+n)).length))]) (by simp [results,Tryz.results108,go_sem,r0,r1]) rfl ⟨_,_,_,rfl,hr,hB2⟩
theorem Jmb (a b:Option Addr) (la lb ca cb m n:Nat) (s:Bool) (w:World) (ra:RN w (.slice a la ca) m) (rb:RN w (.slice b lb cb) n) (hma:(Jb 10000 m).length≤1000000000) (hmn:n≤m) :
 Calls Tryz.prog 108 #[.agg #[.slice a la ca,.bool s],.agg #[.slice b lb cb,.bool (!s)]] w fun e w'=>∃ c lc cc,e=.returned (.agg #[.slice c lc cc,.bool (s && decide (0<lc))])∧RN w' (.slice c lc cc) (m - n)∧Below w.heap.size w w':=by
 have ne2:¬ (w.heap.size=w.heap.size+1+1):=by omega
 have hs:(s == !s)=false:=by cases s <;> rfl
 have hcmp:=Jlc hmn;have HC:Hid (n≤m):=hmn;clear hmn;have hB0:=YP w (.cells #[.slice a la ca,.bool s] 47) (.cells #[.slice b lb cb,.bool (!s)] 47) (.cells #[.slice none 0 0,.bool false] 47);have b0:=((Ji.new w 47 (.slice a la ca) (.bool s)).alloc (.cells #[.slice b lb cb,.bool (!s)] 47)).alloc (.cells #[.slice none 0 0,.bool false] 47);have b1:=(Ji.new (w.alloc (.cells #[.slice a la ca,.bool s] 47)) 47 (.slice b lb cb) (.bool (!s))).alloc (.cells #[.slice none 0 0,.bool false] 47);have bR:=Ji.new ((w.alloc (.cells #[.slice a la ca,.bool s] 47)).alloc (.cells #[.slice b lb cb,.bool (!s)] 47)) 47 (.slice none 0 0) (.bool false);simp only [World.size_alloc] at b1 bR;go_enter Tryz.func108,Tryz.ntmps108
 go_wp2_with (first
  | (go_at_call 143;refine (Jlb _ _ m n _ ?_ ?_).mono ?_;exact ra.below hB0;exact rb.below hB0;rintro e w0 ⟨rfl,hb0⟩;have b0:=b0.below hb0;have b1:=b1.below hb0;have bR:=bR.below hb0;have hB0:=Below.then hB0 hb0;have k0:=b0.c0;have k1:=b0.c1;have k2:=b1.c0))
 go_region_held3 (fun w'=>w'.cell? ⟨w.heap.size,0,none⟩=some (.slice a la ca)∧w'.cell? ⟨w.heap.size+1,0,none⟩=some (.slice b lb cb)∧w'.cell? ⟨w.heap.size,1,none⟩=some (.bool s)) (refine ⟨?_,?_,?_⟩ <;> (first | (go_keep;done) | ((repeat rw [JG (by omega)]);simp [*];done)))
  (first
   | (go_at_call 144;refine (Jeb _ _ m n _ ?_ ?_ (Nat.le_of_lt_succ (Nat.lt_succ_of_le HC.out)) hma).mono ?_;exact ra.below hB0.drew;exact rb.below hB0.drew;rintro e w1 ⟨u,rfl,hu,hb1⟩;obtain ⟨a',c',rfl⟩:=hu.form;have b0:=b0.drew.below hb1;have b1:=b1.drew.below hb1;have bR:=bR.drew.below hb1;have hB0:=Below.then hB0.drew hb1;have k0:=b0.c0;have k1:=b0.c1;have k2:=b1.c0)
   | (go_at_call 141;refine (Jcn _ _ _ _ _).mono ?_;rintro e w2 ⟨rfl,hb2⟩;have hu:=Row.below hu hb2;have b0:=b0.below hb2;have b1:=b1.below hb2;have bR:=bR.below hb2;have hB0:=Below.then hB0 hb2;have k0:=b0.c0;have k1:=b0.c1;have k2:=b1.c0;have r0:=bR.c0;have r1:=bR.c1;have f0:=bR.f0;have f1:=bR.f1))
 all_goals go_wp2_with fail
 obtain ⟨hr,hB2⟩:=Yq (.slice a' (Jb 10000 (m - n)).length c') (.bool (s && decide (0<(Jb 10000 (m - n)).length))) hB0 (by omega) bR rfl rfl hu;exact bodyPost_ret (v:=.agg #[.slice a' (Jb 10000 (m - n)).length c',.bool (s && decide (0<(Jb 10000 (m - n)).length))]) (by simp [results,Tryz.results108,go_sem,r0,r1]) rfl ⟨_,_,_,rfl,hr,hB2⟩
theorem Jmc (a b:Option Addr) (la lb ca cb m n:Nat) (s:Bool) (w:World) (ra:RN w (.slice a la ca) m) (rb:RN w (.slice b lb cb) n) (hma:(Jb 10000 n).length≤1000000000) (hmn:m<n) :
 Calls Tryz.prog 108 #[.agg #[.slice a la ca,.bool s],.agg #[.slice b lb cb,.bool (!s)]] w fun e w'=>∃ c lc cc,e=.returned (.agg #[.slice c lc cc,.bool ((!s) && decide (0<lc))])∧RN w' (.slice c lc cc) (n - m)∧Below w.heap.size w w':=by
 have ne2:¬ (w.heap.size=w.heap.size+1+1):=by omega
 have hs:(s == !s)=false:=by cases s <;> rfl
 have hcmp:YD m n<0:=by rw [Y8 hmn];omega
 have HC:Hid (m<n):=hmn;clear hmn;have hB0:=YP w (.cells #[.slice a la ca,.bool s] 47) (.cells #[.slice b lb cb,.bool (!s)] 47) (.cells #[.slice none 0 0,.bool false] 47);have b0:=((Ji.new w 47 (.slice a la ca) (.bool s)).alloc (.cells #[.slice b lb cb,.bool (!s)] 47)).alloc (.cells #[.slice none 0 0,.bool false] 47);have b1:=(Ji.new (w.alloc (.cells #[.slice a la ca,.bool s] 47)) 47 (.slice b lb cb) (.bool (!s))).alloc (.cells #[.slice none 0 0,.bool false] 47);have bR:=Ji.new ((w.alloc (.cells #[.slice a la ca,.bool s] 47)).alloc (.cells #[.slice b lb cb,.bool (!s)] 47)) 47 (.slice none 0 0) (.bool false);simp only [World.size_alloc] at b1 bR;go_enter Tryz.func108,Tryz.ntmps108
 go_wp2_with (first
  | (go_at_call 143;refine (Jlb _ _ m n _ ?_ ?_).mono ?_;exact ra.below hB0;exact rb.below hB0;rintro e w0 ⟨rfl,hb0⟩;have b0:=b0.below hb0;have b1:=b1.below hb0;have bR:=bR.below hb0;have hB0:=Below.then hB0 hb0;have k0:=b0.c0;have k1:=b1.c1;have k2:=b1.c0))
 go_region_held3 (fun w'=>w'.cell? ⟨w.heap.size,0,none⟩=some (.slice a la ca)∧w'.cell? ⟨w.heap.size+1,0,none⟩=some (.slice b lb cb)∧w'.cell? ⟨w.heap.size+1,1,none⟩=some (.bool (!s))) (refine ⟨?_,?_,?_⟩ <;> (first | (go_keep;done) | ((repeat rw [JG (by omega)]);simp [*];done)))
  (first
   | (go_at_call 144;refine (Jeb _ _ n m _ ?_ ?_ (Nat.le_of_lt_succ (Nat.lt_succ_of_le (Nat.le_of_lt HC.out))) hma).mono ?_;exact rb.below hB0.drew;exact ra.below hB0.drew;rintro e w1 ⟨u,rfl,hu,hb1⟩;obtain ⟨a',c',rfl⟩:=hu.form;have b0:=b0.drew.below hb1;have b1:=b1.drew.below hb1;have bR:=bR.drew.below hb1;have hB0:=Below.then hB0.drew hb1;have k0:=b0.c0;have k1:=b1.c1;have k2:=b1.c0)
   | (go_at_call 141;refine (Jcn _ _ _ _ _).mono ?_;rintro e w2 ⟨rfl,hb2⟩;have hu:=Row.below hu hb2;have b0:=b0.below hb2;have b1:=b1.below hb2;have bR:=bR.below hb2;have hB0:=Below.then hB0 hb2;have k0:=b0.c0;have k1:=b1.c1;have k2:=b1.c0;have r0:=bR.c0;have r1:=bR.c1;have f0:=bR.f0;have f1:=bR.f1))
 all_goals go_wp2_with fail
 obtain ⟨hr,hB2⟩:=Yq (.slice a' (Jb 10000 (n - m)).length c') (.bool ((!s) && decide (0<(Jb 10000 (n - m)).length))) hB0 (by omega) bR rfl rfl hu;exact bodyPost_ret (v:=.agg #[.slice a' (Jb 10000 (n - m)).length c',.bool ((!s) && decide (0<(Jb 10000 (n - m)).length))]) (by simp [results,Tryz.results108,go_sem,r0,r1]) rfl ⟨_,_,_,rfl,hr,hB2⟩
theorem RN.len {W:World} {a:Option Addr} {l c n:Nat} (h:RN W (.slice a l c) n):l=(Jb 10000 n).length:=by
 obtain ⟨a',cap,e,_⟩:=h;cases e;rfl
theorem Jc5 {d:Value} {p q:Bool} (h:p=q):Value.agg #[d,.bool p]=.agg #[d,.bool q]:=by rw [h]
def Jp (W:World) (v:Value) (z:Int):Prop:=∃ a l cap,v=.agg #[.slice a l cap,.bool (decide (z<0))]∧RN W (.slice a l cap) z.natAbs
theorem Jp.below {W W':World} {v:Value} {z:Int} (h:Jp W v z) (hb:Below W.heap.size W W'):Jp W' v z:=by
 obtain ⟨a,l,cap,e,hr⟩:=h;exact ⟨a,l,cap,e,hr.below hb⟩
def szB (z:Int):Nat:=(Jb 10000 z.natAbs).length
theorem XW {n:Nat}:0<(Jb 10000 n).length↔n≠0:=by
 rw [List.length_pos_iff,Ne,Jz (by omega)]
theorem Jn8 (va vb:Value) (x y:Int) (w:World) (ha:Jp w va x) (hb:Jp w vb y) (hma:szB x≤1000000000) (hmb:szB y≤1000000000) :
 Calls Tryz.prog 108 #[va,vb] w fun e w'=>∃ u,e=.returned u∧Jp w' u (x+y)∧Below w.heap.size w w':=by
 obtain ⟨a,la,ca,rfl,ra⟩:=ha;obtain ⟨b,lb,cb,rfl,rb⟩:=hb;unfold szB at hma hmb;by_cases hs:decide (x<0)=decide (y<0)
 · rw [←hs];refine (Jma a b la lb ca cb _ _ _ w ra rb hma hmb).mono ?_;rintro e w' ⟨c,lc,cc,rfl,hr,hB⟩;have hl:=hr.len;have e1:x.natAbs+y.natAbs=(x+y).natAbs:=by
    have:(x<0↔y<0):=by simpa using hs
    omega
   rw [e1] at hr hl;refine ⟨_,rfl,⟨c,lc,cc,?_,hr⟩,hB⟩;refine Jc5 ?_;rw [Bool.eq_iff_iff];simp only [Bool.and_eq_true,decide_eq_true_eq];rw [hl,XW];have:(x<0↔y<0):=by simpa using hs
   omega
 · have hs2:decide (y<0)=!decide (x<0):=by
    cases h1:decide (x<0) <;> cases h2:decide (y<0) <;> simp_all
   have hs3:¬ (x<0↔y<0):=by simpa using hs
   rw [hs2];by_cases hmn:y.natAbs≤x.natAbs
   · refine (Jmb a b la lb ca cb _ _ _ w ra rb hma hmn).mono ?_;rintro e w' ⟨c,lc,cc,rfl,hr,hB⟩;have hl:=hr.len;have e1:x.natAbs - y.natAbs=(x+y).natAbs:=by omega
     rw [e1] at hr hl;refine ⟨_,rfl,⟨c,lc,cc,?_,hr⟩,hB⟩;refine Jc5 ?_;rw [Bool.eq_iff_iff];simp only [Bool.and_eq_true,decide_eq_true_eq];rw [hl,XW];omega
   · refine (Jmc a b la lb ca cb _ _ _ w ra rb hmb (by omega)).mono ?_;rintro e w' ⟨c,lc,cc,rfl,hr,hB⟩;have hl:=hr.len;have e1:y.natAbs - x.natAbs=(x+y).natAbs:=by omega
     rw [e1] at hr hl;refine ⟨_,rfl,⟨c,lc,cc,?_,hr⟩,hB⟩;refine Jc5 ?_;rw [Bool.eq_iff_iff];simp only [Bool.and_eq_true,decide_eq_true_eq,Bool.not_eq_true',decide_eq_false_iff_not];rw [hl,XW];omega
theorem Jhp (w:World) (o1 o2:Obj):Below w.heap.size w ((w.alloc o1).alloc o2):=
 ((Below.refl _ w).alloc (Nat.le_refl _) _).alloc (by simp) _
theorem Jsl (a:Option Addr) (la ca m:Nat) (s:Bool) (w:World) (ra:RN w (.slice a la ca) m) :
 Calls Tryz.prog 126 #[.agg #[.slice a la ca,.bool s]] w fun e w'=>e=.returned (.agg #[.slice a la ca,.bool (!s && decide (0<la))])∧RN w' (.slice a la ca) m∧Below w.heap.size w w':=by
 have hB0:=Jhp w (.cells #[.slice a la ca,.bool s] 47) (.cells #[.slice none 0 0,.bool false] 47);have bR:=Ji.new (w.alloc (.cells #[.slice a la ca,.bool s] 47)) 47 (.slice none 0 0) (.bool false);simp only [World.size_alloc] at bR;go_enter Tryz.func126,Tryz.ntmps126
 go_wp2_with (first
  | (go_at_call 141;refine (Jcn _ _ _ _ _).mono ?_;rintro e w2 ⟨rfl,hb2⟩;have bR:=bR.below hb2;have hB0:=Below.then hB0 hb2;have r0:=bR.c0;have r1:=bR.c1;have f0:=bR.f0;have f1:=bR.f1))
 obtain ⟨hr,hB2⟩:=Yq (.slice a la ca) (.bool (!s && decide (0<la))) hB0 (by omega) bR rfl rfl (ra.below hB0);exact bodyPost_ret (v:=.agg #[.slice a la ca,.bool (!s && decide (0<la))]) (by simp [results,Tryz.results126,go_sem,r0,r1]) rfl ⟨rfl,hr,hB2⟩
theorem Jrr (va:Value) (x:Int) (w:World) (ha:Jp w va x) :
 Calls Tryz.prog 126 #[va] w fun e w'=>∃ u,e=.returned u∧Jp w' u (-x)∧Below w.heap.size w w':=by
 obtain ⟨a,la,ca,rfl,ra⟩:=ha;refine (Jsl a la ca _ _ w ra).mono ?_;rintro e w' ⟨rfl,hr,hB⟩;have hl:=hr.len;rw [show x.natAbs=(-x).natAbs from by omega] at hr hl;refine ⟨_,rfl,⟨a,la,ca,?_,hr⟩,hB⟩;refine Jc5 ?_;rw [Bool.eq_iff_iff];simp only [Bool.and_eq_true,decide_eq_true_eq,Bool.not_eq_true',decide_eq_false_iff_not];rw [hl,XW];omega
theorem Jqg (c:UInt8) (l:List UInt8):(⟨#[c]⟩:ByteArray)++⟨l.toArray⟩=⟨(c::l).toArray⟩:=by
 apply ByteArray.ext;simp [ByteArray.data_append]
theorem Ji.kept {W W':World} {row:Option Nat} {B:Nat} {t:TypeId} {x y:Value} (h:Ji W B t x y) (hg:W.grownBy W' row) (hne:some B≠row):Ji W' B t x y:=(hg.block B h.lt hne).trans h
def Jdo (N c:Nat) (acc:List Nat):Prop:=Dig 10000 acc∧val 10000 acc+10000 ^ acc.length*c=N∧acc.length≤100∧(acc=[]∨c≠0∨10000 ^ (acc.length - 1)≤val 10000 acc)
theorem Jdo.step {N c:Nat} {acc:List Nat} (h:Jdo N c acc) (hN:N≤9223372036854775808) (hc:c≠0):Jdo N (c / 10000) (acc++[c % 10000]):=by
 obtain ⟨h1,h2,h3,h4⟩:=h;refine ⟨h1.append (Dig.cons (Nat.mod_lt _ (by omega)) (Dig.nil _)),?_,?_,?_⟩
 · rw [J9,List.length_append,List.length_singleton,Nat.pow_succ,Nat.mul_assoc,Nat.add_assoc,←Nat.mul_add,Nat.mod_add_div];exact h2
 · rcases Nat.lt_or_ge acc.length 20 with h | h
   · simp;omega
   · have g1:(10000:Nat) ^ 20≤10000 ^ acc.length:=Nat.pow_le_pow_right (by omega) h;have g2:10000 ^ acc.length*1≤10000 ^ acc.length*c:=Nat.mul_le_mul_left _ (by omega);have g3:(10000:Nat) ^ 20=100000000000000000000000000000000000000000000000000000000000000000000000000000000:=by decide
     omega
 · right
   by_cases g:c / 10000=0
   · right
     rw [List.length_append,List.length_singleton,Nat.add_sub_cancel,J9];have:c % 10000≠0:=by omega
     have:=Nat.mul_le_mul_left (10000 ^ acc.length) (show 1≤c % 10000 by omega);omega
   · exact Or.inl g
theorem Jdo.done {N:Nat} {acc:List Nat} (h:Jdo N 0 acc):acc=Jb 10000 N:=by
 obtain ⟨h1,h2,h3,h4⟩:=h;rw [Nat.mul_zero,Nat.add_zero] at h2;rw [←h2];refine (YC (by omega) h1 (Jcm (by omega) h1 ?_)).symm;rcases h4 with h | h | h
 · exact Or.inl h
 · exact absurd rfl h
 · exact Or.inr h
theorem Jco {k:IntKind} {w wr w3:World} {B base:Nat} {e t:TypeId} {o:Obj} {v v' y:Value} {acc:List Nat} {D:Int} (d:Nat) (hD:D=(d:Nat)) (hb0:w.heap.size≤B) (hbB:B<base) (hB:Below w.heap.size w wr) (bx:Ji wr B t v y) (hown:wr.ownsRow base e 1 v acc.length (cellsOf k acc))
 (hown':w3.ownsRow base e 1 v' (acc.length+1) (cellsOf k acc++[.int k D])) (hgrow:(wr.alloc o).grownBy w3 v.ownBlock) :
 ∃ g cv,v'=.slice (some ⟨g,0,none⟩) (acc++[d]).length cv∧(w3.setCell ⟨B,0,none⟩ v').ownsRow base e 1 v' (acc++[d]).length (cellsOf k (acc++[d]))∧Ji w3 B t v y∧Below w.heap.size w w3∧base≤w3.heap.size∧(∀ B' t' x' y',B'<base→Ji wr B' t' x' y'→Ji w3 B' t' x' y'):=by
 obtain ⟨g,cv,hv⟩:=ownsRow_succ hown';subst hD;have hrow:∀ q,v.ownBlock=some q→base≤q∧q<wr.heap.size:=fun q hq=>hown.lt q hq;have hk:∀ B' t' x' y',B'<base→Ji wr B' t' x' y'→Ji w3 B' t' x' y':=fun B' t' x' y' h b=>(b.alloc o).kept hgrow (fun e'=>by have:=(hrow B' e'.symm).1;omega);have ho:w3.ownsRow base e 1 v' (acc++[d]).length (cellsOf k (acc++[d])):=by rw [Ja0];simpa using hown'
 refine ⟨g,cv,by rw [hv];simp,ownsRow_setCell_below ho hbB v',hk _ _ _ _ hbB bx,?_,?_,hk⟩
 · exact (hB.alloc hB.size _).grown hgrow (by simp;have:=hB.size;omega) (fun q hq=>by have:=(hrow q hq).1;omega)
 · rcases ho.2 with ⟨h,_⟩ | ⟨g',cap',cur',_,hge,hgb,_⟩
   · rw [hv] at h;cases h
   · have:=(Array.getElem?_eq_some_iff.1 hgb).1;omega
theorem Jqh (N:Nat) (hN:N≤9223372036854775807) (w:World) :
 Calls Tryz.prog 93 #[.int .i64 N] w fun e w'=>∃ u,e=.returned u∧Jp w' u N∧Below w.heap.size w w':=by
 obtain ⟨i0,hi,hz0,hz1,hz2⟩:=info_parts Tryz.infoInt;have bR:=(Ji.new w 47 (.slice none 0 0) (.bool false)).alloc (.cells #[.slice none 0 0,.bool false] 47);have bb:=Ji.new (w.alloc (.cells #[.slice none 0 0,.bool false] 47)) 47 (.slice none 0 0) (.bool false);simp only [World.size_alloc] at bb;have hB0:=Jhp w (.cells #[.slice none 0 0,.bool false] 47) (.cells #[.slice none 0 0,.bool false] 47);have HF:Hid (∀ acc,Jdo N 0 acc→acc=Jb 10000 N):=fun acc h=>h.done;have HS:Hid (∀ c acc,Jdo N c acc→c≠0→Jdo N (c / 10000) (acc++[c % 10000])):=fun c acc h hc=>h.step (by omega) hc;go_enter Tryz.func93,Tryz.ntmps93
 go_wp2;go_loopw [0] (fun nv wr=>∃ (c:Nat) (acc:List Nat) (ao:Option Addr) (cv:Nat),nv=.int .i64 c∧c≤N∧acc.length≤100∧Hid (Jdo N c acc)∧Ji wr w.heap.size 47 (.slice none 0 0) (.bool false)∧Ji wr (w.heap.size+1) 47 (.slice ao acc.length cv) (.bool false)∧wr.ownsRow (w.heap.size+1+1) 3 1 (.slice ao acc.length cv) acc.length (cellsOf .i64 acc)∧Below w.heap.size w wr∧w.heap.size+1+1≤wr.heap.size)
  (fun nv _=>(intOf nv).toNat)
 case atStart=>exact ⟨N,[],none,0,rfl,Nat.le_refl _,by simp,⟨Dig.nil _,by simp [val],by simp,Or.inl rfl⟩,bR,bb,World.ownsRow_nil _ _ _ _,hB0,by simp⟩
 case round=>
  clear bR bb hB0;obtain ⟨c,acc,ao,cv,rfl,hcN,hla,HA,bR,bb,hown,hB,hsz⟩:=hrel;have c0:=bb.c0;have c1:=bb.c1;have f0:=bb.f0;by_cases hc:c=0
  · subst hc;have e:=HF.out acc HA.out;have r0:=bR.c0;have r1:=bR.c1;have g0:=bR.f0;have g1:=bR.f1;clear HF HS;go_wp2;subst e;obtain ⟨hr,hB2⟩:=Yq (.slice ao (Jb 10000 N).length cv) (.bool false) hB (Nat.le_refl _) bR rfl rfl (Row.of_owns hown (by omega));exact bodyPost_ret (v:=.agg #[.slice ao (Jb 10000 N).length cv,.bool false]) (by simp [results,Tryz.results93,go_sem,r0,r1]) rfl ⟨_,rfl,⟨ao,_,cv,by rw [show decide ((N:Int)<0)=false from decide_eq_false (by omega)],hr⟩,hB2⟩
  · have hc0:((c:Int) != 0)=true:=by rw [bne_iff_ne];omega
    have HN:=Jho (HS.out c acc HA.out hc);go_wp2_with (first
     | (at_builtin;refine wpList_append_own _ rfl _ _ 45 rfl (w.heap.size+1+1) 3 i0 (.int .i64 0) 1 8 Tryz.underlying45 hi hz0 hz1 hz2 rfl (by decide) (.slice ao acc.length cv) acc.length (cellsOf .i64 acc) rfl (hown.alloc _) ⟨wr.heap.size,0,none⟩ 1 1 [_] rfl rfl (cell_one_new _ _ _) (by simp [Value.oneCell']) (by unfold maxLen;omega) (by omega) (by simp;omega) ?_;intro v' w3 hown' hgrow hnil;obtain ⟨g,cv',e1,ho,bb3,hB3,hsz3,hk3⟩:=Jco (c % 10000) (by omega) (by omega) (by omega) hB bb hown hown' hgrow;have d0:=bb3.c0;have d1:=bb3.f0;subst e1))
    have hl1:(acc++[c % 10000]).length≤100:=HN.out.2.2.1;have el:(acc++[c % 10000]).length=acc.length+1:=by simp
    go_roundw
    case rel=>exact ⟨c / 10000,acc++[c % 10000],some ⟨g,0,none⟩,cv',by simp,by omega,hl1,HN,(hk3 _ _ _ _ (by omega) bR).far (by simp) _,by rw [el];exact bb3.set0 _,by rw [el] at ho ⊢;exact ho,hB3.setCell (by simp) _,by simpa [World.setCell] using hsz3⟩
    case measure=>simp [intOf];omega
theorem Jn9 (c:Nat):(-(c:Int)).tmod 10000=-((c % 10000:Nat):Int):=by
 rw [Int.neg_tmod,Int.tmod_eq_emod_of_nonneg (by omega)];rfl
theorem Joa (c:Nat):(-(c:Int)).tdiv 10000=-((c / 10000:Nat):Int):=by
 rw [Int.neg_tdiv,Int.tdiv_eq_ediv_of_nonneg (by omega)];rfl
theorem Jqi (N:Nat) (h0:1≤N) (hN:N≤9223372036854775808) (w:World) :
 Calls Tryz.prog 93 #[.int .i64 (-(N:Int))] w fun e w'=>∃ u,e=.returned u∧Jp w' u (-(N:Int))∧Below w.heap.size w w':=by
 have h0':0<N:=h0;obtain ⟨i0,hi,hz0,hz1,hz2⟩:=info_parts Tryz.infoInt;have bR:=(Ji.new w 47 (.slice none 0 0) (.bool false)).alloc (.cells #[.slice none 0 0,.bool true] 47);have bb:=Ji.new (w.alloc (.cells #[.slice none 0 0,.bool false] 47)) 47 (.slice none 0 0) (.bool true);simp only [World.size_alloc] at bb;have hB0:=Jhp w (.cells #[.slice none 0 0,.bool false] 47) (.cells #[.slice none 0 0,.bool true] 47);have HF:Hid (∀ acc,Jdo N 0 acc→acc=Jb 10000 N):=fun acc h=>h.done;have HS:Hid (∀ c acc,Jdo N c acc→c≠0→Jdo N (c / 10000) (acc++[c % 10000])):=fun c acc h hc=>h.step (by omega) hc;go_enter Tryz.func93,Tryz.ntmps93
 go_wp2;go_loopw [0] (fun nv wr=>∃ (c:Nat) (acc:List Nat) (ao:Option Addr) (cv:Nat),nv=.int .i64 (-(c:Int))∧c≤N∧acc.length≤100∧Hid (Jdo N c acc)∧Ji wr w.heap.size 47 (.slice none 0 0) (.bool false)∧Ji wr (w.heap.size+1) 47 (.slice ao acc.length cv) (.bool true)∧wr.ownsRow (w.heap.size+1+1) 3 1 (.slice ao acc.length cv) acc.length (cellsOf .i64 acc)∧Below w.heap.size w wr∧w.heap.size+1+1≤wr.heap.size)
  (fun nv _=>(-(intOf nv)).toNat)
 case atStart=>exact ⟨N,[],none,0,rfl,Nat.le_refl _,by simp,⟨Dig.nil _,by simp [val],by simp,Or.inl rfl⟩,bR,bb,World.ownsRow_nil _ _ _ _,hB0,by simp⟩
 case round=>
  clear bR bb hB0;obtain ⟨c,acc,ao,cv,rfl,hcN,hla,HA,bR,bb,hown,hB,hsz⟩:=hrel;have c0:=bb.c0;have c1:=bb.c1;have f0:=bb.f0;have ht:=Jn9 c;have hd:=Joa c;by_cases hc:c=0
  · subst hc;have e:=HF.out acc HA.out;have r0:=bR.c0;have r1:=bR.c1;have g0:=bR.f0;have g1:=bR.f1;clear HF HS ht hd;go_wp2;subst e;obtain ⟨hr,hB2⟩:=Yq (.slice ao (Jb 10000 N).length cv) (.bool true) hB (Nat.le_refl _) bR rfl rfl (Row.of_owns hown (by omega));exact bodyPost_ret (v:=.agg #[.slice ao (Jb 10000 N).length cv,.bool true]) (by simp [results,Tryz.results93,go_sem,r0,r1]) rfl ⟨_,rfl,⟨ao,_,cv,by rw [show decide (-(N:Int)<0)=true from decide_eq_true (by omega)],by rw [Int.natAbs_neg];exact hr⟩,hB2⟩
  · have hc0:((-(c:Int)) != 0)=true:=by rw [bne_iff_ne];omega
    have HN:=Jho (HS.out c acc HA.out hc);by_cases hm:c % 10000=0
    · have hmI:(c:Int) % 10000=0:=by omega
      have HM:=Jho hm;clear hm;go_wp2_with (first
       | (at_builtin;refine wpList_append_own _ rfl _ _ 45 rfl (w.heap.size+1+1) 3 i0 (.int .i64 0) 1 8 Tryz.underlying45 hi hz0 hz1 hz2 rfl (by decide) (.slice ao acc.length cv) acc.length (cellsOf .i64 acc) rfl (hown.alloc _) ⟨wr.heap.size,0,none⟩ 1 1 [_] rfl rfl (cell_one_new _ _ _) (by simp [Value.oneCell']) (by unfold maxLen;omega) (by omega) (by simp;omega) ?_;intro v' w3 hown' hgrow hnil;obtain ⟨g,cv',e1,ho,bb3,hB3,hsz3,hk3⟩:=Jco (c % 10000) (by omega) (by omega) (by omega) hB bb hown hown' hgrow;have d0:=bb3.c0;have d1:=bb3.f0;subst e1))
      have hl1:(acc++[c % 10000]).length≤100:=HN.out.2.2.1;have el:(acc++[c % 10000]).length=acc.length+1:=by simp
      go_roundw
      case rel=>exact ⟨c / 10000,acc++[c % 10000],some ⟨g,0,none⟩,cv',by simp,by omega,hl1,HN,(hk3 _ _ _ _ (by omega) bR).far (by simp) _,by rw [el];exact bb3.set0 _,by rw [el] at ho ⊢;exact ho,hB3.setCell (by simp) _,by simpa [World.setCell] using hsz3⟩
      case measure=>simp [intOf];omega
    · have hmI:0<(c:Int) % 10000:=by omega
      go_wp2_with (first
       | (at_builtin;refine wpList_append_own _ rfl _ _ 45 rfl (w.heap.size+1+1) 3 i0 (.int .i64 0) 1 8 Tryz.underlying45 hi hz0 hz1 hz2 rfl (by decide) (.slice ao acc.length cv) acc.length (cellsOf .i64 acc) rfl (hown.alloc _) ⟨wr.heap.size,0,none⟩ 1 1 [_] rfl rfl (cell_one_new _ _ _) (by simp [Value.oneCell']) (by unfold maxLen;omega) (by omega) (by simp;omega) ?_;intro v' w3 hown' hgrow hnil;obtain ⟨g,cv',e1,ho,bb3,hB3,hsz3,hk3⟩:=Jco (c % 10000) (by omega) (by omega) (by omega) hB bb hown hown' hgrow;have d0:=bb3.c0;have d1:=bb3.f0;subst e1))
      have hl1:(acc++[c % 10000]).length≤100:=HN.out.2.2.1;have el:(acc++[c % 10000]).length=acc.length+1:=by simp
      go_roundw
      case rel=>exact ⟨c / 10000,acc++[c % 10000],some ⟨g,0,none⟩,cv',by simp,by omega,hl1,HN,(hk3 _ _ _ _ (by omega) bR).far (by simp) _,by rw [el];exact bb3.set0 _,by rw [el] at ho ⊢;exact ho,hB3.setCell (by simp) _,by simpa [World.setCell] using hsz3⟩
      case measure=>simp [intOf];omega
theorem Jhq (n:Int) (h1:-9223372036854775808≤n) (h2:n≤9223372036854775807) (w:World) :
 Calls Tryz.prog 93 #[.int .i64 n] w fun e w'=>∃ u,e=.returned u∧Jp w' u n∧Below w.heap.size w w':=by
 by_cases h:n<0
 · have e:n=-(n.natAbs:Int):=by omega
   rw [e];exact Jqi n.natAbs (by omega) (by omega) w
 · have e:n=(n.natAbs:Int):=by omega
   rw [e];exact Jqh n.natAbs (by omega) w
end Go.Proofs.YtcahejkcdcjjgaaGreatDoor
