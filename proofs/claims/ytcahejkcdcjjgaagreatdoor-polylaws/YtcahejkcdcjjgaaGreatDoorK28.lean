import Derived.Test.YtcahejkcdcjjgaaGreatDoorK24
import Derived.Test.YtcahejkcdcjjgaaGreatDoorK27
import Derived.Test.YtcahejkcdcjjgaaGreatDoorK26
import Derived.Test.YtcahejkcdcjjgaaGreatDoorK04
import Derived.Test.YtcahejkcdcjjgaaGreatDoorK01
import Derived.Test.YtcahejkcdcjjgaaGreatDoorK03
import Derived.Test.YtcahejkcdcjjgaaGreatDoorK09
import Derived.Test.YtcahejkcdcjjgaaGreatDoorK20
set_option maxRecDepth 100000
set_option maxHeartbeats 16000000
namespace Go.Proofs.YtcahejkcdcjjgaaGreatDoor
open Go.RowKit Go.Shelf
def Jd8 (r:Bool) (base:Nat) (W:World) (v:Value) (qs:List Rat):Prop:=
 (v=.slice none 0 0∧qs=[])∨∃ g cap cur,v=.slice (some ⟨g,0,none⟩) qs.length cap∧base≤g∧W.heap[g]?=some (.cells cur (tyK r) (0,0))∧qs.length≤cap∧cap≤maxLen∧cur.size=cap*4∧(∀ c∈cur.toList,Jw c=true)∧YW r W (cur.toList.take (qs.length*4)) qs
theorem Jd8.nil (r:Bool) (base:Nat) (W:World):Jd8 r base W (.slice none 0 0) []:=Or.inl ⟨rfl,rfl⟩
theorem Jd8.below {r:Bool} {base:Nat} {W W':World} {v:Value} {qs:List Rat} (h:Jd8 r base W v qs) (hb:Below W.heap.size W W'):Jd8 r base W' v qs:=by
 rcases h with h | ⟨g,cap,cur,h1,h2,h3,h4,h5,h6,h7,h8⟩
 · exact Or.inl h
 · exact Or.inr ⟨g,cap,cur,h1,h2,(hb.block g (Array.getElem?_eq_some_iff.1 h3).1).trans h3,h4,h5,h6,h7,h8.below hb⟩
theorem Jd8.row {r:Bool} {base:Nat} {W:World} {v:Value} {qs:List Rat} (h:Jd8 r base W v qs) (hl:qs.length≤1099511627776):RowK r W v qs:=by
 rcases h with ⟨rfl,rfl⟩ | ⟨g,cap,cur,rfl,h2,h3,h4,h5,h6,h7,h8⟩
 · exact RowK.nil r W
 · refine ⟨_,cap,rfl,h4,by unfold maxLen at h5;omega,hl,Or.inr ⟨g,rfl,cur,h3,fun j hj=>?_⟩⟩;obtain ⟨x,y,z,u,e0,e1,e2,e3,h9⟩:=h8.2 j hj;rw [List.getElem?_take_of_lt (by omega),Array.getElem?_toList] at e0 e1 e2 e3;exact ⟨x,y,z,u,e0,e1,e2,e3,h9⟩
theorem Jd8.form {r:Bool} {base:Nat} {W:World} {v:Value} {qs:List Rat} (h:Jd8 r base W v qs):∃ a c,v=.slice a qs.length c∧(∀ p,a=some p→base≤p.block):=by
 rcases h with ⟨rfl,rfl⟩ | ⟨g,cap,cur,rfl,h2,_⟩
 · exact ⟨none,0,rfl,fun p e=>by cases e⟩
 · exact ⟨_,cap,rfl,fun p e=>by cases e;exact h2⟩
end Go.Proofs.YtcahejkcdcjjgaaGreatDoor
namespace Go.Proofs.YtcahejkcdcjjgaaGreatDoor
open Go.RowKit Go.Shelf
attribute [local go_sem] Oper.semAt_some
def Yq (q:Rat):List UInt8:=if q.den=1 then XB q.num else XB q.num++47::XB (q.den:Int)
theorem Jcq (a b:List UInt8):(⟨a.toArray⟩:ByteArray)++⟨b.toArray⟩=⟨(a++b).toArray⟩:=by
 apply ByteArray.ext;simp
theorem Jb7 (z:Int):(XB z).length≤20*(Jd B64 z.natAbs).length+2:=by
 have h:=Jb5 z.natAbs;unfold XB;split
 · rw [List.length_cons];omega
 · omega
theorem Jhu {z:Int} (h:Sok z):(⟨(XB z).toArray⟩:ByteArray).size≤1000000000:=by
 have h1:=Jb7 z;have h2:=h.words;show (XB z).toArray.size≤_;rw [List.size_toArray];omega
theorem Jf7 (a b:List UInt8):(⟨a.toArray⟩:ByteArray)++⟨#[47]⟩++⟨b.toArray⟩=⟨(a++47::b).toArray⟩:=by
 have e:(⟨#[47]⟩:ByteArray)=⟨([47]:List UInt8).toArray⟩:=rfl;rw [e,Jcq,Jcq,List.append_assoc];rfl
theorem Jru (va:Value) (q:Rat) (w:World) (ha:Jf w va q) (hsq:Sq q) (htab:Lib.TabIs Tryz.prog w "internal/strconv.uint64pow10" .u64 Lib.pow10Tab) :
 Calls Tryz.prog 16 #[va] w fun e w'=>e=.returned (.string ⟨(Yq q).toArray⟩)∧Below w.heap.size w w':=by
 obtain ⟨S1,hS1⟩:∃ S:ByteArray,⟨(XB q.num).toArray⟩=S:=⟨_,rfl⟩;have zS1:S1.size≤1000000000:=by rw [←hS1];exact Jhu hsq.num
 have HS1:=Ja hS1;clear hS1;obtain ⟨S2,hS2⟩:∃ S:ByteArray,⟨(XB (q.den:Int)).toArray⟩=S:=⟨_,rfl⟩;have zS2:S2.size≤1000000000:=by rw [←hS2];exact Jhu hsq.den
 have HS2:=Ja hS2;clear hS2;have HT:=Ja htab;clear htab;by_cases hd:q.den=1
 · have HD:=Ja hd;have HR:=Ja (show (⟨(Yq q).toArray⟩:ByteArray)=S1 by rw [←HS1.out];unfold Yq;rw [if_pos hd]);rw [HR.out];clear hd;obtain ⟨s900,a900,l900,c900,t900,b900,k900,d900,rfl⟩:=Jf.form ha;have M0:=((Mem.nil w).push (.rat (q)) ha);have M0:Mem w (w.alloc (.cells #[.bool s900,.slice a900 l900 c900,.bool t900,.slice b900 k900 d900] 38)) [some (w.heap.size,.rat (q))]:=M0;obtain ⟨W0,hW0⟩:∃ W0,w.alloc (.cells #[.bool s900,.slice a900 l900 c900,.bool t900,.slice b900 k900 d900] 38)=W0:=⟨_,rfl⟩;have HW0:=Ja hW0;rw [hW0] at M0;have M1:Hid (Mem w W0 [some (w.heap.size,.rat (q))]):=Ja M0;have HHSQ:=Ja hsq;clear M0 hW0 ha hsq;go_enter Tryz.func16,Tryz.ntmps16
   go_upto_region 1 with fail
   rw [HW0.out];clear HW0;obtain ⟨s1,a1,l1,c1,t1,b1,k1,d1,n1,r1,i1,j1⟩:=M1.out.rat (i:=0) rfl;have e1a:=n1.c0;have e1b:=n1.c1;have e1c:=n1.c2;have e1d:=n1.c3;have H1:=Ja (Y2 _ q W0 r1);rw [decide_eq_true HD.out] at H1;have H2:=Ja (fun (V:World) (h:Below W0.heap.size W0 V)=>Jir _ q.num V (i1.below h) (JE HT.out (M1.out.2.2.trans (h.mono M1.out.2.2.size))));rw [HS1.out] at H2;go_wp2_with (first
    | (go_at_call 59;refine H1.out.mono ?_;clear H1;rintro e w1 ⟨rfl,hq⟩;have e1a:=(n1.below hq).c0;have e1b:=(n1.below hq).c1;have e1c:=(n1.below hq).c2;have e1d:=(n1.below hq).c3)
    | (go_at_call 60;refine (H2.out _ hq).mono ?_;clear H2;rintro e w2 ⟨rfl,hb2⟩;have hq:=Below.then hq hb2))
   go_ret;exact ⟨rfl,M1.out.2.2.trans (hq.mono M1.out.2.2.size)⟩
 · have HD:=Ja hd;have HR:=Ja (show (⟨(Yq q).toArray⟩:ByteArray)=S1++⟨#[47]⟩++S2 by rw [←HS1.out,←HS2.out,Jf7];unfold Yq;rw [if_neg hd]);rw [HR.out];have HZ:=Ja (show denZ q=q.den by unfold denZ;rw [if_neg hd]);clear hd;have y1:¬ 9223372036854775807<S1.size+1:=by omega
   have y2:¬ 9223372036854775807<S1.size+1+S2.size:=by omega
   obtain ⟨s900,a900,l900,c900,t900,b900,k900,d900,rfl⟩:=Jf.form ha;have M0:=((Mem.nil w).push (.rat (q)) ha);have M0:Mem w (w.alloc (.cells #[.bool s900,.slice a900 l900 c900,.bool t900,.slice b900 k900 d900] 38)) [some (w.heap.size,.rat (q))]:=M0;obtain ⟨W0,hW0⟩:∃ W0,w.alloc (.cells #[.bool s900,.slice a900 l900 c900,.bool t900,.slice b900 k900 d900] 38)=W0:=⟨_,rfl⟩;have HW0:=Ja hW0;rw [hW0] at M0;have M1:Hid (Mem w W0 [some (w.heap.size,.rat (q))]):=Ja M0;have HHSQ:=Ja hsq;clear M0 hW0 ha hsq;go_enter Tryz.func16,Tryz.ntmps16
   go_upto_region 1 with fail
   rw [HW0.out];clear HW0;obtain ⟨s1,a1,l1,c1,t1,b1,k1,d1,n1,r1,i1,j1⟩:=M1.out.rat (i:=0) rfl;have e1a:=n1.c0;have e1b:=n1.c1;have e1c:=n1.c2;have e1d:=n1.c3;have H1:=Ja (Y2 _ q W0 r1);rw [decide_eq_false HD.out] at H1;go_upto_region 3 with (go_at_call 59;refine H1.out.mono ?_;clear H1;rintro e w1 ⟨rfl,hb1⟩)
   have M2:Hid (Mem w w1 [some (w.heap.size,.rat (q))]):=Ja (M1.out.below hb1);clear M1;clear n1 e1a e1b e1c e1d i1 r1 j1 hb1;obtain ⟨s2,a2,l2,c2,t2,b2,k2,d2,n2,r2,i2,j2⟩:=M2.out.rat (i:=0) rfl;have e2a:=n2.c0;have e2b:=n2.c1;have e2c:=n2.c2;have e2d:=n2.c3;have H2:=Ja (fun (V:World) (h:Below w1.heap.size w1 V)=>(by have h1:=Jir _ q.num V (i2.below h) (JE HT.out (M2.out.2.2.trans (h.mono M2.out.2.2.size)));rw [HS1.out] at h1;exact h1));have H6:=Ja (fun (V:World) (h:Below w1.heap.size w1 V)=>(by have h0:=(j2.below h);rw [HZ.out] at h0;have h1:=Jir _ (q.den:Int) V h0 (JE HT.out (M2.out.2.2.trans (h.mono M2.out.2.2.size)));rw [HS2.out] at h1;exact h1));have hq:Below w1.heap.size w1 w1.drew:=(Below.refl _ w1).drew;go_region_held3 (fun w'=>w'.cell? ⟨w.heap.size,0,none⟩=some (.bool s2)∧w'.cell? ⟨w.heap.size,1,none⟩=some (.slice a2 l2 c2)∧w'.cell? ⟨w.heap.size,2,none⟩=some (.bool t2)∧w'.cell? ⟨w.heap.size,3,none⟩=some (.slice b2 k2 d2)) (first | (with_reducible exact ⟨e2a,e2b,e2c,e2d⟩) | (go_keep;done) | (refine ⟨?_,?_,?_,?_⟩ <;> ((repeat rw [JP (by omega)]);first | assumption | (go_keep;done))))
    (first
     | (go_at_call 60;refine (H2.out _ hq ).mono ?_;clear H2;rintro e w2 ⟨rfl,hb2⟩;have hq:=Below.then hq hb2;have e2a:=(n2.below hq).c0;have e2b:=(n2.below hq).c1;have e2c:=(n2.below hq).c2;have e2d:=(n2.below hq).c3)
     | (go_at_call 60;refine (H6.out _ hq ).mono ?_;clear H6;rintro e w6 ⟨rfl,hb6⟩;have hq:=Below.then hq hb6;have e2a:=(n2.below hq).c0;have e2b:=(n2.below hq).c1;have e2c:=(n2.below hq).c2;have e2d:=(n2.below hq).c3))
   all_goals go_wp2_with fail
   go_ret;exact ⟨rfl,M2.out.2.2.trans (hq.mono M2.out.2.2.size)⟩
end Go.Proofs.YtcahejkcdcjjgaaGreatDoor
namespace Go.Proofs.YtcahejkcdcjjgaaGreatDoor
theorem Jrv (b:ByteArray) (n i:Nat) (r:List UInt8) (h:b.size - i=n):ByteArray.toList.loop b i r=r.reverse++b.data.toList.drop i:=by
 induction n generalizing i r with
 | zero=>
  rw [ByteArray.toList.loop,if_neg (by omega),List.drop_eq_nil_of_le (by simpa using (by omega:b.size≤i)),List.append_nil]
 | succ n ih=>
  have hi:i<b.size:=by omega
  have hi2:i<b.data.toList.length:=by simpa using hi
  rw [ByteArray.toList.loop,if_pos hi,ih (i+1) _ (by omega),List.reverse_cons,List.append_assoc,List.drop_eq_getElem_cons hi2];have e:b.get! i=b.data.toList[i]:=by
   show b.data[i]! = _;rw [getElem!_pos b.data i hi];simp
  rw [e];rfl
theorem Jcr (b:ByteArray):b.toList=b.data.toList:=by
 show ByteArray.toList.loop b 0 []=_;rw [Jrv b _ 0 [] rfl];rfl
def Jb8 (c:Rat):Rat:=if c<0 then -c else c
def Jbo (c:Rat) (i:Nat):List UInt8:=if Yq (Jb8 c)=[49]∧0<i then [] else Yq (Jb8 c)
def Jg7 (i:Nat):List UInt8:=if i=0 then [] else if i=1 then [120] else 120::94::Xt i
def Jhv (c:Rat) (first:Bool):List UInt8:=if c<0 then [45] else if first then [] else [43]
def Xy (c:Rat) (i:Nat) (first:Bool):List UInt8:=Jhv c first++Jbo c i++Jg7 i
def Yt:List Rat→Nat→List UInt8
 | [],_=>[]
 | c::t,i=>if c=0 then Yt t (i+1) else Yt t (i+1)++Xy c i (Yt t (i+1)).isEmpty
def Jb9 (p:List Rat):List UInt8:=if Yt p 0=[] then [48] else Yt p 0
theorem neg_num {c:Rat}:(c<0)↔c.num<0:=by
 rw [←Rat.not_le,←Rat.num_nonneg];omega
theorem Jn7 {c:Rat} (h:c<0):Yq c=45::Yq (-c):=by
 have h1:=neg_num.1 h;unfold Yq;rw [Rat.neg_den,Rat.neg_num];have e:XB c.num=45::XB (-c.num):=by
  unfold XB;rw [if_pos h1,if_neg (by omega),Int.natAbs_neg]
 rw [e];split <;> rfl
theorem Jf8 {c:Rat} (h:¬ c<0):(Yq c).head?≠some 45:=by
 have h1:¬ c.num<0:=fun h2=>h (neg_num.2 h2);have h2:(XB c.num).head?≠some 45:=by
  unfold XB;rw [if_neg h1];by_cases hn:c.num.natAbs=0
  · rw [hn];decide
  · obtain ⟨d,t,e,_,h3,_⟩:=Jhg hn;rw [e];intro h4;simp at h4;exact h3 h4
 have h0:XB c.num≠[]:=by
  unfold XB;rw [if_neg h1];by_cases hn:c.num.natAbs=0
  · rw [hn];decide
  · obtain ⟨d,t,e,_⟩:=Jhg hn;rw [e];simp
 unfold Yq;split
 · exact h2
 · cases hd:XB c.num with
   | nil=>exact absurd hd h0
   | cons x t=>rw [hd] at h2;exact h2
theorem Jj6 {c:Rat} (h:c<0):Jb8 c=-c:=by unfold Jb8;rw [if_pos h]
theorem Jj7 {c:Rat} (h:¬ c<0):Jb8 c=c:=by unfold Jb8;rw [if_neg h]
theorem Jj8 (c:Rat):(Jb8 c).num=(c.num.natAbs:Int)∧(Jb8 c).den=c.den:=by
 by_cases h:c<0
 · have:=neg_num.1 h;rw [Jj6 h,Rat.neg_num,Rat.neg_den];exact ⟨by omega,rfl⟩
 · have:¬ c.num<0:=fun h2=>h (neg_num.2 h2);rw [Jj7 h];exact ⟨by omega,rfl⟩
theorem Jf9 (p:List Rat) {m:Nat} (h:m<p.length):Yt (p.drop m) m=if cf p m=0 then Yt (p.drop (m+1)) (m+1) else Yt (p.drop (m+1)) (m+1)++Xy (cf p m) m (Yt (p.drop (m+1)) (m+1)).isEmpty:=by
 rw [List.drop_eq_getElem_cons h,Yt,Joo h]
end Go.Proofs.YtcahejkcdcjjgaaGreatDoor
namespace Go.Proofs.YtcahejkcdcjjgaaGreatDoor.M3
open Go.RowKit Go.Shelf
theorem Jiv {W W':World} {row:Option Nat} (hg:W.grownBy W' row) (hr:∀ r,row=some r→∃ o:Obj,W.heap[r]?=some o∧o.isCells=false) {k:IntKind} {v:Value} {ds:List Nat} (h:Row k W v ds):Row k W' v ds:=by
 obtain ⟨a,cap,e,h1,h2,h2',h3⟩:=h;refine ⟨a,cap,e,h1,h2,h2',?_⟩;rcases h3 with h3 | ⟨b,off,ea,hlt,hc⟩
 · exact Or.inl h3
 · by_cases h0:ds=[]
   · exact Or.inl h0
   · have hl:0<ds.length:=List.length_pos_iff.2 h0;have hne:some b≠row:=fun e=>by
      obtain ⟨o,ho,hno⟩:=hr b e.symm;have h4:=hc 0 hl;cases o with
      | cells cs t m=>cases hno
      | _=>simp [World.cell?,ho] at h4
     exact Or.inr ⟨b,off,ea,hlt.of (hg.block b hlt.lt hne),fun j hj=>(World.cell?_of_block (w:=W) (hg.block b hlt.lt hne)).trans (hc j hj)⟩
theorem YK {W W':World} {row:Option Nat} (hg:W.grownBy W' row) (hr:∀ r,row=some r→∃ o:Obj,W.heap[r]?=some o∧o.isCells=false) {B:Nat} {t:TypeId} {cs:Array Value} (h:Bx W B t cs):Bx W' B t cs:=by
 have hne:some B≠row:=fun e=>by
  obtain ⟨o,ho,hno⟩:=hr B e.symm;rw [show W.heap[B]?=_ from h] at ho;cases ho;cases hno
 exact (hg.block B h.lt hne).trans h
theorem Xs {W W':World} {row:Option Nat} (hg:W.grownBy W' row) (hr:∀ r,row=some r→∃ o:Obj,W.heap[r]?=some o∧o.isCells=false) {r:Bool} {v:Value} {qs:List Rat} (h:RowK r W v qs):RowK r W' v qs:=by
 obtain ⟨a,cap,e,h1,h2,h3,h4⟩:=h;refine ⟨a,cap,e,h1,h2,h3,?_⟩;rcases h4 with h4 | ⟨b,ea,h5⟩
 · exact Or.inl h4
 · have hb:W'.heap[b]?=W.heap[b]?:=by
    obtain ⟨cs,g1,_⟩:=h5;rw [g1];exact YK hg hr g1
   exact Or.inr ⟨b,ea,h5.keep hb (fun _ _ _ h=>Jiv hg hr h)⟩
theorem Mem.own {w W W':World} {bs:List (Option (Nat × Dat))} {row:Option Nat} (M:Mem w W bs) (hg:W.grownBy W' row) (hr:∀ r,row=some r→w.heap.size≤r∧∃ o:Obj,W.heap[r]?=some o∧o.isCells=false):Mem w W' bs:=by
 have hr2:∀ r,row=some r→∃ o:Obj,W.heap[r]?=some o∧o.isCells=false:=fun r e=>(hr r e).2;refine ⟨fun i B d h=>?_,M.2.1,M.2.2.grown hg M.2.2.size (fun k e=>(hr k e).1)⟩;obtain ⟨⟨cs,h1,h2⟩,h3⟩:=M.1 i B d h;exact ⟨⟨cs,YK hg hr2 h1,h2.keep (fun _ _ _ h=>Jiv hg hr2 h) (Or.inr (fun _ _ h=>Xs hg hr2 h))⟩,h3⟩
theorem Jj9 {w:World} {B:Nat} (hB:w.heap.size≤B) (f:Nat→List (Option (Nat × Dat))):OwnFrom B (fun k W=>Mem w W (f k)):=
 fun _ _ _ _ M hg hr=>M.own hg (fun r e=>⟨Nat.le_trans hB (hr r e).1,(hr r e).2⟩)
theorem Mem.with {w W:World} {bs:List (Option (Nat × Dat))} (M:Mem w W bs) {b:Nat} {cs:Array Value} (d:Dat) (hb:Bx W b d.ty cs) (hd:Has W (.agg cs) d) (hw:w.heap.size≤b) (hne:∀ (i:Nat) B d',bs[i]?=some (some (B,d'))→B≠b):Mem w W (bs++[some (b,d)]):=by
 have hat:∀ (j:Nat) x,(bs++[some (b,d)])[j]?=some (some x)→bs[j]?=some (some x)∨(j=bs.length∧x=(b,d)):=fun j x h=>by
  by_cases hj:j<bs.length
  · rw [List.getElem?_append_left hj] at h;exact Or.inl h
  · rw [List.getElem?_append_right (by omega)] at h;obtain ⟨k,hk⟩:∃ k,j - bs.length=k:=⟨_,rfl⟩;rw [hk] at h;cases k with
    | zero=>simp at h;exact Or.inr ⟨by omega,h.symm⟩
    | succ k=>simp at h
 refine ⟨fun j B d h=>?_,fun j k B d1 d2 h1 h2=>?_,M.2.2⟩
 · rcases hat j _ h with h | ⟨_,h⟩
   · exact M.1 j B d h
   · cases h;exact ⟨⟨cs,hb,hd⟩,hw⟩
 · rcases hat j _ h1 with h1 | ⟨e1,h1⟩ <;> rcases hat k _ h2 with h2 | ⟨e2,h2⟩
   · exact M.2.1 j k B d1 d2 h1 h2
   · cases h2;exact absurd rfl (hne j _ _ h1)
   · cases h1;exact absurd rfl (hne k _ _ h2)
   · omega
def Jg8 (w W0 W:World) (bs:List (Option (Nat × Dat))):Prop:=Mem w W bs∧KeepsOthers W0 W
theorem Jg8.below {w W0 W W':World} {bs:List (Option (Nat × Dat))} (h:Jg8 w W0 W bs) (hb:Below W.heap.size W W'):Jg8 w W0 W' bs:=⟨h.1.below hb,h.2.trans (JW hb)⟩
theorem Jg8.drew {w W0 W:World} {bs:List (Option (Nat × Dat))} (h:Jg8 w W0 W bs):Jg8 w W0 W.drew bs:=h.below ((Below.refl _ W).drew)
theorem Jc7 (W:World) (B:Nat) (x y z u:Value):KeepsOthers W (put4 W B x y z u):=(((KeepsOthers.setCell _ _ _).trans (KeepsOthers.setCell _ _ _)).trans (KeepsOthers.setCell _ _ _)).trans (KeepsOthers.setCell _ _ _)
theorem Jeq (W:World) (B o:Nat) (x y z u:Value):KeepsOthers W (putAt W B o x y z u):=(((KeepsOthers.setCell _ _ _).trans (KeepsOthers.setCell _ _ _)).trans (KeepsOthers.setCell _ _ _)).trans (KeepsOthers.setCell _ _ _)
end Go.Proofs.YtcahejkcdcjjgaaGreatDoor.M3
namespace Go.Proofs.YtcahejkcdcjjgaaGreatDoor
open Go.RowKit Go.Shelf
attribute [local go_sem] Oper.semAt_some
theorem Jka (n c:Nat) (w:World):Calls Tryz.prog 69 #[.slice none n c] w fun e w'=>e=.returned (.slice none 0 0)∧w'=w:=by
 have q22:∀ (w:World) (a:Option Addr) (n c n' c':Nat),(binOp .eql 23 (.slice a n c) (.slice none n' c')).run Tryz.prog w=.ok (.bool a.isNone) w:=fun w a n c n' c'=>Lib.run_eql_slice_nil w _ _ a n c n' c' Tryz.underlying23;go_enter Tryz.func69,Tryz.ntmps69
 go_wp2;go_ret;exact ⟨rfl,rfl⟩
theorem Jiw (p:Addr) (n c:Nat) (xs:List Value) (w:World) (hn:n≤1099511627776) (hl:xs.length=n*4) (hc:∀ j u,xs[j]?=some u→w.cell? (p.add j)=some u) (h1:∀ u∈xs,u.oneCell'=true) :
 Calls Tryz.prog 69 #[.slice (some p) n c] w fun e w'=>∃ v',e=.returned v'∧w'.ownsRow w.heap.size 38 4 v' n xs∧Below w.heap.size w w':=by
 obtain ⟨i0,hi,hz0,hz1,hz2⟩:=info_parts Tryz.infoRat;have q22:∀ (w:World) (a:Option Addr) (n c n' c':Nat),(binOp .eql 23 (.slice a n c) (.slice none n' c')).run Tryz.prog w=.ok (.bool a.isNone) w:=fun w a n c n' c'=>Lib.run_eql_slice_nil w _ _ a n c n' c' Tryz.underlying23;have A:=Ja hc;have B:=Ja h1;have C:=Ja hl;clear hc h1 hl;go_enter Tryz.func69,Tryz.ntmps69
 go_wp2_with (at_builtin;refine wpList_append_own _ rfl _ _ 23 rfl w.heap.size 38 i0 (.agg #[.bool false,.slice none 0 0,.bool false,.slice none 0 0]) 4 64 Tryz.underlying23 hi hz0 hz1 hz2 rfl (by decide) _ _ _ rfl (World.ownsRow_made w #[] 0 (Nat.le_refl _) (Nat.zero_le _) rfl) p n c xs rfl ?qc1 ?qc2 ?qc3 ?qc4 ?qc5 ?qc6 ?_)
 case qc1=>exact C.out
 case qc2=>intro j u hj;exact Lib.cell?_alloc_some _ (A.out j u hj)
 case qc3=>exact B.out
 case qc4=>unfold maxLen;omega
 case qc5=>omega
 case qc6=>simp
 intro v' w1 hown hgrow hnil;go_wp2;go_ret;refine ⟨v',rfl,by simpa using hown,?_⟩;exact ((Below.refl _ w).alloc (Nat.le_refl _) _).grown hgrow (by simp) (by intro k hk;simp [Value.ownBlock] at hk;omega)
theorem Jhw (v:Value) (qs:List Rat) (w:World) (h:RowK true w v qs):Calls Tryz.prog 69 #[v] w fun e w'=>∃ u,e=.returned u∧RowK true w' u qs∧Frh w.heap.size u∧Below w.heap.size w w'∧(u=.slice none 0 0∨∃ g cap,u=.slice (some ⟨g,0,none⟩) qs.length cap∧w.heap.size≤g∧Els true w' g qs):=by
 obtain ⟨a,cap,rfl,h1,h2,h3,h4⟩:=h;rcases a with _ | p
 · refine (Jka _ _ w).mono ?_;rintro e w' ⟨rfl,rfl⟩;have hq:qs=[]:=by
    rcases h4 with h4 | ⟨b,ea,_⟩
    · exact h4
    · cases ea
   subst hq;exact ⟨_,rfl,RowK.nil _ _,fun a l c e=>(by cases e),Below.refl _ _,Or.inl rfl⟩
 · have hcs:∃ cs,YW true w cs qs∧∀ j u,cs[j]?=some u→w.cell? (p.add j)=some u:=by
    rcases h4 with h4 | ⟨b,ea,hE⟩
    · rw [h4];exact ⟨[],YW.nil _ _,fun j u e=>by simp at e⟩
    · cases ea;obtain ⟨cs,hc,hat⟩:=hE.cells;refine ⟨cs,hc,fun j u e=>?_⟩;rw [Jc2,Nat.zero_add];exact hat j u e
   obtain ⟨cs,hc,hat⟩:=hcs;refine (Jiw p qs.length cap cs w h3 hc.1 hat hc.one).mono ?_;rintro e w' ⟨v',rfl,hown,hb⟩;obtain ⟨g1,_,g3⟩:=RowK.owns (r:=true) hown (hc.below hb) h3;refine ⟨v',rfl,g1,fun a l c e=>?_,hb,g3⟩;rcases g3 with g3 | ⟨g,cap',g3,g4,_⟩
   · rw [g3] at e;cases e
   · rw [g3] at e;cases e;exact g4
theorem Jsn {W:World} {B:Nat} (q:Js W B 38 (.bool false) (.slice none 0 0) (.bool false) (.slice none 0 0)) {v:Value} {p:Rat} (h:Jf W v p) (x y z u:Value):Jf (put4 W B x y z u) v p:=h.put4 q rfl rfl rfl rfl _ _ _ _
theorem Jkb (v:Value) (q:Rat) (w:World) (h:Jf w v q) (hq:Sq q) :
 Calls Tryz.prog 79 #[v] w fun e w'=>∃ u,e=.returned u∧Jk w' u (Ji [q])∧Jrt w.heap.size u∧Below w.heap.size w w':=by
 obtain ⟨s,a,l,c,t,b,k,d,rfl⟩:=h.form;obtain ⟨W0,hW0⟩:∃ W0,(w.alloc (.cells #[.bool s,.slice a l c,.bool t,.slice b k d] 38)).alloc (.cells #[.slice none 0 0] 25)=W0:=⟨_,rfl⟩;have b0:Js W0 w.heap.size 38 (.bool s) (.slice a l c) (.bool t) (.slice b k d):=by rw [←hW0];exact (Js.new w _ _ _ _ _).alloc _
 have b1:Boxed W0 (w.heap.size+1) 25 (.slice none 0 0):=by rw [←hW0];have:=Boxed.new (w.alloc (.cells #[.bool s,.slice a l c,.bool t,.slice b k d] 38)) 25 (.slice none 0 0);simpa using this
 have hB0:Below w.heap.size w W0:=by rw [←hW0];exact ((Below.refl _ w).alloc (Nat.le_refl _) _).alloc (by simp) _
 obtain ⟨W1,hW1⟩:∃ W1,W0.alloc (.cells #[.bool s,.slice a l c,.bool t,.slice b k d] 38)=W1:=⟨_,rfl⟩;have hB1:Below W0.heap.size W0 W1:=by rw [←hW1];exact (Below.refl _ W0).alloc (Nat.le_refl _) _
 have hE:Els true W1 W0.heap.size [q]:=by
  refine ⟨#[.bool s,.slice a l c,.bool t,.slice b k d],by rw [←hW1];exact World.alloc_heap_new W0 _,fun j hj=>?_⟩;have hj0:j=0:=by simpa using hj
  subst hj0;exact ⟨_,_,_,_,rfl,rfl,rfl,rfl,by rw [Yd];exact (h.below hB0).below hB1⟩
 have hrow:RowK true W1 (.slice (some ⟨W0.heap.size,0,none⟩) 1 1) [q]:=by
  have:=hE.row (n:=1) (cap:=1) (by simp) (Nat.le_refl _) (by omega) (by omega);simpa using this
 have HM:=Ja (Xa _ [q] W1 hrow (Sqs.of fun i=>by
  cases i with
   | zero=>rw [Yd];exact hq
   | succ i=>rw [JI,Yu];exact sq0))
 have HW0:=Ja hW0;have HW1:=Ja hW1;have k0:=b0.c0;have k1:=b0.c1;have k2:=b0.c2;have k3:=b0.c3;clear hW0 hW1 h hq hE hrow;go_enter Tryz.func79,Tryz.ntmps79
 go_upto_region 1 with fail
 rw [HW0.out];go_wp2_with (go_at_call 65;rw [HW1.out];refine HM.out.mono ?_;clear HM;rintro e w2 ⟨u2,rfl,hu2,hf2,hb2⟩;obtain ⟨ua,ul,uc,rfl⟩:=hu2.form;have hq:=Below.then hB1 hb2;have b1':=boxed_below b1 hq;have k9:=b1'.cell;have f9:=b1'.frozen)
 refine bodyPost_ret (v:=.agg #[.slice ua ul uc]) (by simp [results,Tryz.results79,go_sem,k9]) rfl ⟨_,rfl,⟨_,rfl,Jbh b1' _ hu2.row⟩,?_,(Below.then hB0 hq).setCell (p:=⟨w.heap.size+1,0,none⟩) (by simp) _⟩;intro a' l' c' e;have:=hf2 W0.heap.size (fun a l c e=>by cases e;exact Nat.le_refl _) a' l' c' e;have h2:=hB0.size;omega
end Go.Proofs.YtcahejkcdcjjgaaGreatDoor
namespace Go.Proofs.YtcahejkcdcjjgaaGreatDoor.M3
open Go.RowKit Go.Shelf
attribute [local go_sem] Oper.semAt_some
def Jlp (V:World) (t:Value) (q:Rat):Prop:=∃ v,t=.iface 38 v∧Jf V v q
theorem Jlp.below {V V':World} {t:Value} {q:Rat} (h:Jlp V t q) (hb:Below V.heap.size V V'):Jlp V' t q:=by
 obtain ⟨v,e,h1⟩:=h;exact ⟨v,e,h1.below hb⟩
theorem Jpz (v:Value) (V:World):(method 371 38 v "Times").run Tryz.prog V=.ok (41,v) V:=by kernel_rfl
theorem Jp0 (v:Value) (V:World):(method 371 38 v "Plus").run Tryz.prog V=.ok (40,v) V:=by kernel_rfl
def XC (ps qs:List Rat):Prop:=(∀ i j,Sq (cf ps i*cf qs j))∧∀ n i j k,Sq (cf (Yl (YC ps qs n i) i (cf ps i) qs j) k)
theorem Jp1 (a b:Option Addr) (la ca lb cb:Nat) (ps qs:List Rat) (w:World) (ha:RowK true w (.slice a la ca) ps) (hb:RowK true w (.slice b lb cb) qs) (hps:Sqs ps) (hqs:Sqs qs) (hok:XC ps qs) (hlen:ps.length+qs.length≤1099511627776) :
 Calls Tryz.prog 68 #[.slice a la ca,.slice b lb cb] w fun e w'=>∃ v zs,e=.returned v∧RowK true w' v zs∧(∀ j,cf zs j=cf (Jay ps qs) j)∧Sqs zs∧Frh w.heap.size v∧Below w.heap.size w w':=by
 have hmx:Tryz.prog.follows .mixedOrders=true:=by kernel_rfl
 obtain ⟨hla,hca,hcma,hlma,s,t,aa,bb,ll,cc,kk,dd,hc⟩:=ha.forms;obtain ⟨hlb,hcb,hcmb,hlmb,s',t',aa',bb',ll',cc',kk',dd',hc'⟩:=hb.forms;obtain ⟨n,hn⟩:∃ n:Nat,max (0:Int) ((la:Int)+(lb:Int) - 1)=(n:Int):=⟨(max (0:Int) ((la:Int)+(lb:Int) - 1)).toNat,by omega⟩;have hn1:n≤1099511627776:=by omega
 have HN:=Ja (show la+lb≤n+1 from by omega);have HNZ:=Ja (show la+lb=0∨n+1=la+lb from by omega);have HC:=Ja hc;have HC':=Ja hc';have HP:=Ja hps;have HQ:=Ja hqs;have HK:=Ja hok;have HLA:=Ja hla;have HLB:=Ja hlb;have hmk:=XG n (by omega) w;have M0:Mem w (w.alloc (.cells (Ya n) 38)) [some (w.heap.size,.rats (List.replicate n 0))]:=M3.Mem.push (M3.Mem.nil w) (.rats (List.replicate n 0)) (by
  obtain ⟨cs,h1,h2⟩:=Jf6 n w;refine ⟨Ya n,rfl,fun j hj=>?_⟩;rw [List.length_replicate] at hj;obtain ⟨h0,h1,h2,h3⟩:=Jdt hj;exact ⟨_,_,_,_,h0,h1,h2,h3,by rw [JO];exact XQ _⟩)
 obtain ⟨W0,hW0⟩:∃ W0,w.alloc (.cells (Ya n) 38)=W0:=⟨_,rfl⟩;rw [hW0] at M0 hmk;have HM0:=Ja M0;clear M0 hW0 ha hb hps hqs hla hlb hca hcma hcb hcmb hok hc hc' hlen;go_enter Tryz.func68,Tryz.ntmps68
 go_wp2;go_loopw [20] (fun i wr=>∃ (k:Nat),k≤la∧i=.int .i64 (k:Int)∧Hid (Mem w wr [some (w.heap.size,.rats (YC ps qs n k))])) (fun i _=>la - (intOf i).toNat)
 case atStart=>exact ⟨0,Nat.zero_le _,rfl,HM0⟩
 case round=>
  obtain ⟨k,hk,rfl,HR⟩:=hrel;by_cases hlt:k<la
  · have hlt2:(k:Int)<(la:Int):=by omega
    obtain ⟨hi,bx,rfl,hbx,k0,k1,k2,k3⟩:=HC.out k hlt;have hB:=HR.out.2.2;have HX:=Ja (hi.below hB);replace k0:=(hB.cell (p:=⟨bx,_,none⟩) hbx).trans k0;replace k1:=(hB.cell (p:=⟨bx,_,none⟩) hbx).trans k1;replace k2:=(hB.cell (p:=⟨bx,_,none⟩) hbx).trans k2;replace k3:=(hB.cell (p:=⟨bx,_,none⟩) hbx).trans k3;clear hi hB;obtain ⟨s1,hs1⟩:∃ x,s k=x:=⟨_,rfl⟩;obtain ⟨t1,ht1⟩:∃ x,t k=x:=⟨_,rfl⟩;obtain ⟨a1,ha1⟩:∃ x,aa k=x:=⟨_,rfl⟩;obtain ⟨b1,hb1⟩:∃ x,bb k=x:=⟨_,rfl⟩;obtain ⟨l1,hl1⟩:∃ x,ll k=x:=⟨_,rfl⟩;obtain ⟨c1,hc1⟩:∃ x,cc k=x:=⟨_,rfl⟩;obtain ⟨m1,hm1⟩:∃ x,kk k=x:=⟨_,rfl⟩;obtain ⟨d1,hd1⟩:∃ x,dd k=x:=⟨_,rfl⟩;rw [hs1,ht1,ha1,hb1,hl1,hc1,hm1,hd1] at HX;rw [hs1] at k0;rw [ha1,hl1,hc1] at k1;rw [ht1] at k2;rw [hb1,hm1,hd1] at k3;clear hs1 ht1 ha1 hb1 hl1 hc1 hm1 hd1;go_upto_region 5 with fail
    have MM:Mem w (wr.alloc (.cells #[.bool s1,.slice a1 l1 c1,.bool t1,.slice b1 m1 d1] 38)) [some (w.heap.size,.rats (YC ps qs n k)),some (wr.heap.size,.rat (cf ps k))]:=M3.Mem.push HR.out (.rat (cf ps k)) HX.out;obtain ⟨V1,hV⟩:∃ V,wr.alloc (.cells #[.bool s1,.slice a1 l1 c1,.bool t1,.slice b1 m1 d1] 38)=V:=⟨_,rfl⟩;obtain ⟨B1,hBk⟩:∃ B,wr.heap.size=B:=⟨_,rfl⟩;rw [hV,hBk] at MM;rw [hV];rw [hBk];have HM1:=Ja MM;clear MM hV hBk HR HX k0 k1 k2 k3;go_wp2_with fail
    go_loopw [27] (fun i wr=>∃ (j:Nat),j≤lb∧i=.int .i64 (j:Int)∧Hid (Mem w wr [some (w.heap.size,.rats (Yl (YC ps qs n k) k (cf ps k) qs j)),some (B1,.rat (cf ps k))])) (fun i _=>lb - (intOf i).toNat)
    case atStart=>exact ⟨0,Nat.zero_le _,rfl,HM1⟩
    case round=>
     obtain ⟨j,hj,rfl,HR⟩:=hrel;by_cases hjt:j<lb
     · have hjt2:(j:Int)<(lb:Int):=by omega
       obtain ⟨hi,by_,rfl,hby,k0,k1,k2,k3⟩:=HC'.out j hjt;have hB:=HR.out.2.2;have HX:=Ja (hi.below hB);replace k0:=(hB.cell (p:=⟨by_,_,none⟩) hby).trans k0;replace k1:=(hB.cell (p:=⟨by_,_,none⟩) hby).trans k1;replace k2:=(hB.cell (p:=⟨by_,_,none⟩) hby).trans k2;replace k3:=(hB.cell (p:=⟨by_,_,none⟩) hby).trans k3;clear hi hB;obtain ⟨s2,hs1⟩:∃ x,s' j=x:=⟨_,rfl⟩;obtain ⟨t2,ht1⟩:∃ x,t' j=x:=⟨_,rfl⟩;obtain ⟨a2,ha1⟩:∃ x,aa' j=x:=⟨_,rfl⟩;obtain ⟨b2,hb1⟩:∃ x,bb' j=x:=⟨_,rfl⟩;obtain ⟨l2,hl1⟩:∃ x,ll' j=x:=⟨_,rfl⟩;obtain ⟨c2,hc1⟩:∃ x,cc' j=x:=⟨_,rfl⟩;obtain ⟨m2,hm1⟩:∃ x,kk' j=x:=⟨_,rfl⟩;obtain ⟨d2,hd1⟩:∃ x,dd' j=x:=⟨_,rfl⟩;rw [hs1,ht1,ha1,hb1,hl1,hc1,hm1,hd1] at HX;rw [hs1] at k0;rw [ha1,hl1,hc1] at k1;rw [ht1] at k2;rw [hb1,hm1,hd1] at k3;clear hs1 ht1 ha1 hb1 hl1 hc1 hm1 hd1;go_upto_region 8 with fail
       have MM:Mem w (wr.alloc (.cells #[.bool s2,.slice a2 l2 c2,.bool t2,.slice b2 m2 d2] 38)) [some (w.heap.size,.rats (Yl (YC ps qs n k) k (cf ps k) qs j)),some (B1,.rat (cf ps k)),some (wr.heap.size,.rat (cf qs j))]:=M3.Mem.push HR.out (.rat (cf qs j)) HX.out;obtain ⟨V2,hV⟩:∃ V,wr.alloc (.cells #[.bool s2,.slice a2 l2 c2,.bool t2,.slice b2 m2 d2] 38)=V:=⟨_,rfl⟩;obtain ⟨B2,hBk⟩:∃ B,wr.heap.size=B:=⟨_,rfl⟩;rw [hV,hBk] at MM;rw [hV];rw [hBk];have HM2:=Ja MM;clear MM hV hBk HR HX k0 k1 k2 k3;have hij:(k:Int)+(j:Int)<(n:Int):=by have:=HN.out;omega
       have hij0:(0:Int)≤(k:Int)+(j:Int):=by omega
       have HIJ:=Ja (show k+j<n by omega);have hcast:(k:Int)+(j:Int)=((k+j:Nat):Int):=by omega
       obtain ⟨m,hm⟩:∃ m,k+j=m:=⟨_,rfl⟩;rw [hm] at HIJ hcast;have HM:=Ja hm;have hmn:(m:Int)<(n:Int):=by have:=HIJ.out;omega
       have hwr:IntKind.i64.wrap (m:Int)=(m:Int):=by rw [IntKind.wrap_i64];omega
       obtain ⟨zs,hzs⟩:∃ zs,Yl (YC ps qs n k) k (cf ps k) qs j=zs:=⟨_,rfl⟩;rw [hzs] at HM2;have HZL:=Ja (show m<zs.length by rw [←hzs,Ye,Ja1];exact HIJ.out);have HZS:=Ja hzs;have HSZ:=Ja (show Sq (cf zs m) by rw [←hzs];exact HK.out.2 n k j m);have HSP:=Ja (HK.out.1 k j);have ST0:=HM2.out.drew;clear hm hzs HM2 hij hij0;refine Jj hmx [[],[],[],[1,2],[],[],[],[5,6],[4,7],[8],[9],[],[11],[],[12,13],[10,14,14],[0,3,0,1,2,3,4,5,6,7,8,9,10,11,12,13,14,15],[16,15,15,0,1,2,3,4,5,6,7,8,9,10,11,12,13,14,15]] (by kernel_rfl) (by decide)
        (fun D act V=>∃ (t32x t33x t34x t35x t36x t37x t38x t39x t40x t41x t42x t43x t44x t45x t46x t47x t48x:Value),act={ tmps:=#[Value.slice (some ⟨bx,0,none⟩) la ca,Value.slice (some ⟨by_,0,none⟩) lb cb,undef,undef,Value.slice none 0 0,Value.slice (some ⟨w.heap.size,0,none⟩) n n,Value.int IntKind.i64 ↑k,.pointer (some ⟨B1,0,none⟩),Value.int IntKind.i64 ↑j,.pointer (some ⟨B2,0,none⟩),Value.slice (some ⟨bx,0,none⟩) la ca,Value.int IntKind.i64 ↑la,Value.slice (some ⟨by_,0,none⟩) lb cb,Value.int IntKind.i64 ↑lb,Value.int IntKind.i64 (↑la+↑lb),Value.int IntKind.i64 (↑la+↑lb - 1),Value.int IntKind.i64 ↑n,Value.slice (some ⟨w.heap.size,0,none⟩) n n,Value.slice (some ⟨bx,0,none⟩) la ca,Value.int IntKind.i64 ↑la,Value.int IntKind.i64 ↑k,Value.bool true,Value.int IntKind.i64 ↑k,.pointer (some { block:=bx,off:=k*4 }),Value.agg #[Value.bool s1,Value.slice a1 l1 c1,Value.bool t1,Value.slice b1 m1 d1],Value.slice (some ⟨by_,0,none⟩) lb cb,Value.int IntKind.i64 ↑lb,Value.int IntKind.i64 ↑j,Value.bool true,Value.int IntKind.i64 ↑j,.pointer (some { block:=by_,off:=j*4 }),Value.agg #[Value.bool s2,Value.slice a2 l2 c2,Value.bool t2,Value.slice b2 m2 d2],t32x,t33x,t34x,t35x,t36x,t37x,t38x,t39x,t40x,t41x,t42x,t43x,t44x,t45x,t46x,t47x,t48x,u49,u50,undef],defers:=[] }∧Hid ((D 0=true→t32x=.slice (some ⟨w.heap.size,0,none⟩) n n)∧(D 1=true→t33x=.int .i64 (k:Int))∧(D 2=true→t34x=.int .i64 (j:Int))∧(D 3=true→t35x=.int .i64 (m:Int))∧(D 4=true→t36x=.slice (some ⟨w.heap.size,0,none⟩) n n)∧(D 5=true→t37x=.int .i64 (k:Int))∧(D 6=true→t38x=.int .i64 (j:Int))∧(D 7=true→t39x=.int .i64 (m:Int))∧(D 8=true→t40x=.pointer (some ⟨w.heap.size,m*4,none⟩))∧(D 9=true→D 17=false→Jf V t41x (cf zs m))∧(D 10=true→D 17=false→Jlp V t42x (cf zs m))∧(D 11=true→D 17=false→Jf V t43x (cf ps k))∧(D 12=true→D 17=false→Jlp V t44x (cf ps k))∧(D 13=true→D 17=false→Jf V t45x (cf qs j))∧(D 14=true→D 17=false→Jf V t46x (cf ps k*cf qs j))∧(D 15=true→D 17=false→Jf V t47x (cf zs m+cf ps k*cf qs j))∧(D 16=true→t48x=.pointer (some ⟨w.heap.size,m*4,none⟩)))∧Hid ((D 17=false→Mem w V [some (w.heap.size,.rats (zs)),some (B1,.rat (cf ps k)),some (B2,.rat (cf qs j))])∧(D 17=true→Mem w V [some (w.heap.size,.rats (zs.set m (cf zs m+cf ps k*cf qs j))),some (B1,.rat (cf ps k)),some (B2,.rat (cf qs j))])))
        ⟨_,_,_,_,_,_,_,_,_,_,_,_,_,_,_,_,_,rfl,Ja ⟨by simp,by simp,by simp,by simp,by simp,by simp,by simp,by simp,by simp,by simp,by simp,by simp,by simp,by simp,by simp,by simp,by simp⟩,Ja ⟨fun _=>ST0,by simp⟩⟩ ?step1 ?fin1
       case step1=>
        rintro D act V i ds hcl hi hds hDi ⟨t32x,t33x,t34x,t35x,t36x,t37x,t38x,t39x,t40x,t41x,t42x,t43x,t44x,t45x,t46x,t47x,t48x,rfl,GG,SS0⟩;have hi6:i<18:=(List.getElem?_eq_some_iff.1 hi).1;obtain rfl | rfl | rfl | rfl | rfl | rfl | rfl | rfl | rfl | rfl | rfl | rfl | rfl | rfl | rfl | rfl | rfl | rfl:i=0∨i=1∨i=2∨i=3∨i=4∨i=5∨i=6∨i=7∨i=8∨i=9∨i=10∨i=11∨i=12∨i=13∨i=14∨i=15∨i=16∨i=17:=by omega
        all_goals
         simp only [List.getElem?_cons_zero,List.getElem?_cons_succ,Option.some.injEq] at hi;subst hi
        · have hf0:D 17=false:=nyt hcl rfl (by simp) hDi;have hS0:=SS0.out.1 hf0;clear hds;refine Jb rfl rfl (fun K hK=>?_);go_simp;obtain ⟨_,G1,G2,G3,G4,G5,G6,G7,G8,G9,G10,G11,G12,G13,G14,G15,G16⟩:=GG.out;exact hK _ _ ⟨_,_,_,_,_,_,_,_,_,_,_,_,_,_,_,_,_,rfl,Ja ⟨fun _=>rfl,G1,G2,G3,G4,G5,G6,G7,G8,G9,G10,G11,G12,G13,G14,G15,G16⟩,Ja ⟨SS0.out.1,SS0.out.2⟩⟩
        · have hf0:D 17=false:=nyt hcl rfl (by simp) hDi;have hS0:=SS0.out.1 hf0;clear hds;refine Jb rfl rfl (fun K hK=>?_);go_simp;obtain ⟨G0,_,G2,G3,G4,G5,G6,G7,G8,G9,G10,G11,G12,G13,G14,G15,G16⟩:=GG.out;exact hK _ _ ⟨_,_,_,_,_,_,_,_,_,_,_,_,_,_,_,_,_,rfl,Ja ⟨G0,fun _=>rfl,G2,G3,G4,G5,G6,G7,G8,G9,G10,G11,G12,G13,G14,G15,G16⟩,Ja ⟨SS0.out.1,SS0.out.2⟩⟩
        · have hf0:D 17=false:=nyt hcl rfl (by simp) hDi;have hS0:=SS0.out.1 hf0;clear hds;refine Jb rfl rfl (fun K hK=>?_);go_simp;obtain ⟨G0,G1,_,G3,G4,G5,G6,G7,G8,G9,G10,G11,G12,G13,G14,G15,G16⟩:=GG.out;exact hK _ _ ⟨_,_,_,_,_,_,_,_,_,_,_,_,_,_,_,_,_,rfl,Ja ⟨G0,G1,fun _=>rfl,G3,G4,G5,G6,G7,G8,G9,G10,G11,G12,G13,G14,G15,G16⟩,Ja ⟨SS0.out.1,SS0.out.2⟩⟩
        · have hf0:D 17=false:=nyt hcl rfl (by simp) hDi;have hS0:=SS0.out.1 hf0;obtain rfl:=GG.out.2.1 (hds 1 (by simp));obtain rfl:=GG.out.2.2.1 (hds 2 (by simp));clear hds;refine Jb rfl rfl (fun K hK=>?_);go_simp;obtain ⟨G0,_,_,_,G4,G5,G6,G7,G8,G9,G10,G11,G12,G13,G14,G15,G16⟩:=GG.out;exact hK _ _ ⟨_,_,_,_,_,_,_,_,_,_,_,_,_,_,_,_,_,rfl,Ja ⟨G0,fun _=>rfl,fun _=>rfl,fun _=>rfl,G4,G5,G6,G7,G8,G9,G10,G11,G12,G13,G14,G15,G16⟩,Ja ⟨SS0.out.1,SS0.out.2⟩⟩
        · have hf0:D 17=false:=nyt hcl rfl (by simp) hDi;have hS0:=SS0.out.1 hf0;clear hds;refine Jb rfl rfl (fun K hK=>?_);go_simp;obtain ⟨G0,G1,G2,G3,_,G5,G6,G7,G8,G9,G10,G11,G12,G13,G14,G15,G16⟩:=GG.out;exact hK _ _ ⟨_,_,_,_,_,_,_,_,_,_,_,_,_,_,_,_,_,rfl,Ja ⟨G0,G1,G2,G3,fun _=>rfl,G5,G6,G7,G8,G9,G10,G11,G12,G13,G14,G15,G16⟩,Ja ⟨SS0.out.1,SS0.out.2⟩⟩
        · have hf0:D 17=false:=nyt hcl rfl (by simp) hDi;have hS0:=SS0.out.1 hf0;clear hds;refine Jb rfl rfl (fun K hK=>?_);go_simp;obtain ⟨G0,G1,G2,G3,G4,_,G6,G7,G8,G9,G10,G11,G12,G13,G14,G15,G16⟩:=GG.out;exact hK _ _ ⟨_,_,_,_,_,_,_,_,_,_,_,_,_,_,_,_,_,rfl,Ja ⟨G0,G1,G2,G3,G4,fun _=>rfl,G6,G7,G8,G9,G10,G11,G12,G13,G14,G15,G16⟩,Ja ⟨SS0.out.1,SS0.out.2⟩⟩
        · have hf0:D 17=false:=nyt hcl rfl (by simp) hDi;have hS0:=SS0.out.1 hf0;clear hds;refine Jb rfl rfl (fun K hK=>?_);go_simp;obtain ⟨G0,G1,G2,G3,G4,G5,_,G7,G8,G9,G10,G11,G12,G13,G14,G15,G16⟩:=GG.out;exact hK _ _ ⟨_,_,_,_,_,_,_,_,_,_,_,_,_,_,_,_,_,rfl,Ja ⟨G0,G1,G2,G3,G4,G5,fun _=>rfl,G7,G8,G9,G10,G11,G12,G13,G14,G15,G16⟩,Ja ⟨SS0.out.1,SS0.out.2⟩⟩
        · have hf0:D 17=false:=nyt hcl rfl (by simp) hDi;have hS0:=SS0.out.1 hf0;obtain rfl:=GG.out.2.2.2.2.2.1 (hds 5 (by simp));obtain rfl:=GG.out.2.2.2.2.2.2.1 (hds 6 (by simp));clear hds;refine Jb rfl rfl (fun K hK=>?_);go_simp;obtain ⟨G0,G1,G2,G3,G4,_,_,_,G8,G9,G10,G11,G12,G13,G14,G15,G16⟩:=GG.out;exact hK _ _ ⟨_,_,_,_,_,_,_,_,_,_,_,_,_,_,_,_,_,rfl,Ja ⟨G0,G1,G2,G3,G4,fun _=>rfl,fun _=>rfl,fun _=>rfl,G8,G9,G10,G11,G12,G13,G14,G15,G16⟩,Ja ⟨SS0.out.1,SS0.out.2⟩⟩
        · have hf0:D 17=false:=nyt hcl rfl (by simp) hDi;have hS0:=SS0.out.1 hf0;obtain rfl:=GG.out.2.2.2.2.1 (hds 4 (by simp));obtain rfl:=GG.out.2.2.2.2.2.2.2.1 (hds 7 (by simp));clear hds;refine Jb rfl rfl (fun K hK=>?_);go_simp;obtain ⟨G0,G1,G2,G3,_,G5,G6,_,_,G9,G10,G11,G12,G13,G14,G15,G16⟩:=GG.out;exact hK _ _ ⟨_,_,_,_,_,_,_,_,_,_,_,_,_,_,_,_,_,rfl,Ja ⟨G0,G1,G2,G3,fun _=>rfl,G5,G6,fun _=>rfl,fun _=>rfl,G9,G10,G11,G12,G13,G14,G15,G16⟩,Ja ⟨SS0.out.1,SS0.out.2⟩⟩
        · have hf0:D 17=false:=nyt hcl rfl (by simp) hDi;have hS0:=SS0.out.1 hf0;obtain rfl:=GG.out.2.2.2.2.2.2.2.2.1 (hds 8 (by simp));obtain ⟨xa,xb,xc,xd,e0,e1,e2,e3,hr⟩:=(hS0.rats (i:=0) rfl).at HZL.out;clear hds;refine Jb rfl rfl (fun K hK=>?_);go_simp;obtain ⟨G0,G1,G2,G3,G4,G5,G6,G7,_,_,G10,G11,G12,G13,G14,G15,G16⟩:=GG.out;exact hK _ _ ⟨_,_,_,_,_,_,_,_,_,_,_,_,_,_,_,_,_,rfl,Ja ⟨G0,G1,G2,G3,G4,G5,G6,G7,fun _=>rfl,fun _ _=>hr,G10,G11,G12,G13,G14,G15,G16⟩,Ja ⟨SS0.out.1,SS0.out.2⟩⟩
        · have hf0:D 17=false:=nyt hcl rfl (by simp) hDi;have hS0:=SS0.out.1 hf0;have h0:=GG.out.2.2.2.2.2.2.2.2.2.1 (hds 9 (by simp)) hf0;clear hds;refine Jb rfl rfl (fun K hK=>?_);go_simp;obtain ⟨G0,G1,G2,G3,G4,G5,G6,G7,G8,G9,_,G11,G12,G13,G14,G15,G16⟩:=GG.out;exact hK _ _ ⟨_,_,_,_,_,_,_,_,_,_,_,_,_,_,_,_,_,rfl,Ja ⟨G0,G1,G2,G3,G4,G5,G6,G7,G8,G9,fun _ _=>⟨_,rfl,h0⟩,G11,G12,G13,G14,G15,G16⟩,Ja ⟨SS0.out.1,SS0.out.2⟩⟩
        · have hf0:D 17=false:=nyt hcl rfl (by simp) hDi;have hS0:=SS0.out.1 hf0;obtain ⟨s,a,l,c,t,b,q,d,n,r,i,j⟩:=hS0.rat (i:=1) rfl;have e0:=n.c0;have e1:=n.c1;have e2:=n.c2;have e3:=n.c3;clear hds;refine Jb rfl rfl (fun K hK=>?_);go_simp;obtain ⟨G0,G1,G2,G3,G4,G5,G6,G7,G8,G9,G10,_,G12,G13,G14,G15,G16⟩:=GG.out;exact hK _ _ ⟨_,_,_,_,_,_,_,_,_,_,_,_,_,_,_,_,_,rfl,Ja ⟨G0,G1,G2,G3,G4,G5,G6,G7,G8,G9,G10,fun _ _=>r,G12,G13,G14,G15,G16⟩,Ja ⟨SS0.out.1,SS0.out.2⟩⟩
        · have hf0:D 17=false:=nyt hcl rfl (by simp) hDi;have hS0:=SS0.out.1 hf0;have h0:=GG.out.2.2.2.2.2.2.2.2.2.2.2.1 (hds 11 (by simp)) hf0;clear hds;refine Jb rfl rfl (fun K hK=>?_);go_simp;obtain ⟨G0,G1,G2,G3,G4,G5,G6,G7,G8,G9,G10,G11,_,G13,G14,G15,G16⟩:=GG.out;exact hK _ _ ⟨_,_,_,_,_,_,_,_,_,_,_,_,_,_,_,_,_,rfl,Ja ⟨G0,G1,G2,G3,G4,G5,G6,G7,G8,G9,G10,G11,fun _ _=>⟨_,rfl,h0⟩,G13,G14,G15,G16⟩,Ja ⟨SS0.out.1,SS0.out.2⟩⟩
        · have hf0:D 17=false:=nyt hcl rfl (by simp) hDi;have hS0:=SS0.out.1 hf0;obtain ⟨s,a,l,c,t,b,q,d,n,r,i,j⟩:=hS0.rat (i:=2) rfl;have e0:=n.c0;have e1:=n.c1;have e2:=n.c2;have e3:=n.c3;clear hds;refine Jb rfl rfl (fun K hK=>?_);go_simp;obtain ⟨G0,G1,G2,G3,G4,G5,G6,G7,G8,G9,G10,G11,G12,_,G14,G15,G16⟩:=GG.out;exact hK _ _ ⟨_,_,_,_,_,_,_,_,_,_,_,_,_,_,_,_,_,rfl,Ja ⟨G0,G1,G2,G3,G4,G5,G6,G7,G8,G9,G10,G11,G12,fun _ _=>r,G14,G15,G16⟩,Ja ⟨SS0.out.1,SS0.out.2⟩⟩
        · have hf0:D 17=false:=nyt hcl rfl (by simp) hDi;have hS0:=SS0.out.1 hf0;have h0:=GG.out.2.2.2.2.2.2.2.2.2.2.2.2.1 (hds 12 (by simp)) hf0;have h1:=GG.out.2.2.2.2.2.2.2.2.2.2.2.2.2.1 (hds 13 (by simp)) hf0;obtain ⟨y0,rfl,g0⟩:=h0;have hmt:=Jpz y0 V;clear hds;have HC:=Ja (Jas _ _ (cf ps k) (cf qs j) V g0 h1 (HP.out.at k) (HQ.out.at j));clear h1;refine Jb rfl rfl (fun K hK=>?_);go_simp;go_wp2_with (go_at_call 41;refine HC.out.mono ?_;rintro e w5 ⟨v5,rfl,hv5,hb5⟩)
          obtain ⟨G0,G1,G2,G3,G4,G5,G6,G7,G8,G9,G10,G11,G12,G13,_,G15,G16⟩:=GG.out;exact ⟨_,_,_,_,_,_,_,_,_,_,_,_,_,_,_,_,_,rfl,Ja ⟨G0,G1,G2,G3,G4,G5,G6,G7,G8,fun h h2=>(G9 h h2).below hb5,fun h h2=>(G10 h h2).below hb5,fun h h2=>(G11 h h2).below hb5,fun h h2=>(G12 h h2).below hb5,fun h h2=>(G13 h h2).below hb5,fun _ _=>hv5,fun h h2=>(G15 h h2).below hb5,G16⟩,Ja ⟨fun h=>(SS0.out.1 h).below hb5,fun h=>(SS0.out.2 h).below hb5⟩⟩
        · have hf0:D 17=false:=nyt hcl rfl (by simp) hDi;have hS0:=SS0.out.1 hf0;have h0:=GG.out.2.2.2.2.2.2.2.2.2.2.1 (hds 10 (by simp)) hf0;have h1:=GG.out.2.2.2.2.2.2.2.2.2.2.2.2.2.2.1 (hds 14 (by simp)) hf0;obtain ⟨y0,rfl,g0⟩:=h0;have hmt:=Jp0 y0 V;clear hds;have HC:=Ja (Xq _ _ (cf zs m) (cf ps k*cf qs j) V g0 h1 HSZ.out HSP.out);clear h1;refine Jb rfl rfl (fun K hK=>?_);go_simp;go_wp2_with (go_at_call 40;refine HC.out.mono ?_;rintro e w5 ⟨v5,rfl,hv5,hb5⟩)
          obtain ⟨G0,G1,G2,G3,G4,G5,G6,G7,G8,G9,G10,G11,G12,G13,G14,_,G16⟩:=GG.out;exact ⟨_,_,_,_,_,_,_,_,_,_,_,_,_,_,_,_,_,rfl,Ja ⟨G0,G1,G2,G3,G4,G5,G6,G7,G8,fun h h2=>(G9 h h2).below hb5,fun h h2=>(G10 h h2).below hb5,fun h h2=>(G11 h h2).below hb5,fun h h2=>(G12 h h2).below hb5,fun h h2=>(G13 h h2).below hb5,fun h h2=>(G14 h h2).below hb5,fun _ _=>hv5,G16⟩,Ja ⟨fun h=>(SS0.out.1 h).below hb5,fun h=>(SS0.out.2 h).below hb5⟩⟩
        · have hf0:D 17=false:=nyt hcl rfl (by simp) hDi;have hS0:=SS0.out.1 hf0;obtain rfl:=GG.out.1 (hds 0 (by simp));obtain rfl:=GG.out.2.2.2.1 (hds 3 (by simp));clear hds;refine Jb rfl rfl (fun K hK=>?_);go_simp;obtain ⟨_,G1,G2,_,G4,G5,G6,G7,G8,G9,G10,G11,G12,G13,G14,G15,_⟩:=GG.out;exact hK _ _ ⟨_,_,_,_,_,_,_,_,_,_,_,_,_,_,_,_,_,rfl,Ja ⟨fun _=>rfl,G1,G2,fun _=>rfl,G4,G5,G6,G7,G8,G9,G10,G11,G12,G13,G14,G15,fun _=>rfl⟩,Ja ⟨SS0.out.1,SS0.out.2⟩⟩
        · have hS0:=SS0.out.1 hDi;have h0:=GG.out.2.2.2.2.2.2.2.2.2.2.2.2.2.2.2.1 (hds 15 (by simp)) hDi;obtain rfl:=GG.out.2.2.2.2.2.2.2.2.2.2.2.2.2.2.2.2 (hds 16 (by simp));have hE:=hS0.rats (i:=0) rfl;obtain ⟨xa,xb,xc,xd,e0,e1,e2,e3,_⟩:=hE.at HZL.out;have f0:=hE.frozen (m*4);have f1:=hE.frozen (m*4+1);have f2:=hE.frozen (m*4+2);have f3:=hE.frozen (m*4+3);obtain ⟨s9,a9,l9,c9,t9,b9,k9,d9,rfl⟩:=Jf.form h0;clear hds;refine Jb rfl rfl (fun K hK=>?_);go_simp;obtain ⟨G0,G1,G2,G3,G4,G5,G6,G7,G8,_,_,_,_,_,_,_,_⟩:=GG.out;exact hK _ _ ⟨_,_,_,_,_,_,_,_,_,_,_,_,_,_,_,_,_,rfl,Ja ⟨G0,G1,G2,G3,G4,G5,G6,G7,G8,fun _ h=>by simp at h,fun _ h=>by simp at h,fun _ h=>by simp at h,fun _ h=>by simp at h,fun _ h=>by simp at h,fun _ h=>by simp at h,fun _ h=>by simp at h,fun _=>rfl⟩,Ja ⟨fun h=>by simp at h,fun _=>hS0.putRats (i:=0) rfl HZL.out h0⟩⟩
       case fin1=>
        rintro D act V hDD ⟨t32x,t33x,t34x,t35x,t36x,t37x,t38x,t39x,t40x,t41x,t42x,t43x,t44x,t45x,t46x,t47x,t48x,rfl,GG,SS0⟩;have HM3:=Ja (SS0.out.2 (hDD 17 (by decide)));clear GG SS0 hDD;go_wp2_with fail
        go_roundw
        case rel=>
         refine ⟨j+1,by omega,by go_num,Ja ?_⟩;have h1:=HM3.out.take 2;rw [←HM.out,←HZS.out] at h1;exact h1
        case measure=>simp [intOf];omega
     · have hjl:j=lb:=by omega
       subst hjl;go_wp2_with fail
       go_roundw
       case rel=>
        refine ⟨k+1,by omega,by go_num,Ja ?_⟩;have h1:=HR.out.take 1;rw [HLB.out] at h1;exact h1
       case measure=>simp [intOf];omega
  · have hkl:k=la:=by omega
    subst hkl;go_wp2;go_ret;have hE:=HR.out.rats (i:=0) rfl;have hlz:=Ja1 ps qs n k;have hrow:=hE.row (n:=n) (cap:=n) (by omega) (Nat.le_refl _) (by omega) (by omega);rw [List.take_of_length_le (by omega)] at hrow;refine ⟨_,_,rfl,hrow,fun j=>?_,Sqs.of fun i=>?_,fun a' l' c' e=>(by cases e;exact Nat.le_refl _),HR.out.2.2⟩
    · rw [HLA.out,Je7 _ _ _ _ _ (Or.inr (by have:=HN.out;have h2:=HLB.out;have h1:=HLA.out;omega)),Jaz]
    · exact HK.out.2 n k 0 i
def Jct (qs:List Rat) (x:Rat):Prop:=∀ n,Sq (ev (qs.drop n) x)∧Sq (ev (qs.drop n) x*x)
theorem Jrw (qs:List Rat) (x:Rat) {m:Nat} (h:m<qs.length):ev (qs.drop (m+1)) x*x+cf qs m=ev (qs.drop m) x:=by
 rw [List.drop_eq_getElem_cons h,ev,Joo h];grind
def Jn8 (w:World) (a:Option Addr) (len cap:Nat) (qs:List Rat) (x:Rat) (k:Nat):List (Option (Nat × Dat)):=
 [some (w.heap.size,.rat x),some (w.heap.size+1,.rat 0),some (w.heap.size+1+1,.rat (ev (qs.drop (len - k)) x)),some (w.heap.size+1+1+1,.cell 23 (.slice a len cap))]
def Jtx (w:World) (a:Option Addr) (len cap:Nat) (qs:List Rat) (x:Rat) (k:Nat) (W:World):Prop:=Mem w W (Jn8 w a len cap qs x k)
theorem Jto (a:Option Addr) (len cap:Nat) (qs:List Rat) (vx:Value) (x:Rat) (w:World) (h:RowK true w (.slice a len cap) qs) (hx:Jf w vx x) (hs:Sqs qs) (hsx:Sq x) (hok:Jct qs x) :
 Calls Tryz.prog 76 #[.slice a len cap,vx] w fun e w'=>∃ u,e=.returned u∧Jf w' u (ev qs x)∧Below w.heap.size w w':=by
 have hmx:Tryz.prog.follows .mixedOrders=true:=by kernel_rfl
 obtain ⟨xs,xa,xl,xc,xt,xb,xk,xd,rfl⟩:=hx.form;obtain ⟨hl,hcap,hcm,hlm,s,t,aa,bb,ll,cc,kk,dd,hc⟩:=h.forms;have HL:=Ja hl;have HC:=Ja hc;have HS:=Ja hs;have HSX:=Ja hsx;have HK:=Ja hok;have HX:=Ja hx;clear hc hl hs hsx hok hx h;refine (callsIn_wide (n:=3)).1 ?_;refine callsIn_of_wp_marks Tryz.func76 rfl trivial ?_ rfl;simp only [Tryz.ntmps76,List.size_toArray,List.length_cons,List.length_nil,Nat.reduceAdd,Nat.reduceSub,Array.replicate_succ,Array.replicate_zero,List.push_toArray,List.append_toArray,List.nil_append,List.cons_append];gi_wp2_with (refine ⟨trivial,?_⟩;gi_at_call 50;refine (Jds Fence.wide _ trivial rfl _ _ _ _).mono ?_;rintro e w' ⟨rfl,rfl⟩)
 have M0:Mem w _ _:=((((Mem.nil w).push (.rat x) HX.out).push (.rat 0) (XQ _)).push (.rat 0) (XQ _)).push (.cell 23 (.slice a len cap)) (cs:=#[.slice a len cap]) ⟨rfl,rfl⟩;simp only [World.size_alloc] at M0;obtain ⟨W0,hW0⟩:∃ W0,(((w.alloc (.cells #[.bool xs,.slice xa xl xc,.bool xt,.slice xb xk xd] 38)).alloc (.cells #[.bool false,.slice none 0 0,.bool false,.slice none 0 0] 38)).alloc (.cells #[.bool false,.slice none 0 0,.bool false,.slice none 0 0] 38)).alloc (.cells #[.slice a len cap] 23)=W0:=⟨_,rfl⟩;have hN:W0.heap.size=w.heap.size+1+1+1+1:=by rw [←hW0];simp
 have M1:Mem w W0 (Jn8 w a len cap qs x 0):=by
  rw [←hW0];unfold Jn8;rw [show ev (qs.drop (len - 0)) x=0 from by rw [List.drop_eq_nil_of_le (by have:=HL.out;omega)];rfl];exact M0
 have HW0:=Ja hW0;rw [hW0];clear M0 hW0;refine XZ rfl (by omega) (gf:=94) (lb:=#[.pointer (some ⟨w.heap.size+1+1+1,0,none⟩)]) rfl trivial (enters_of Tryz.func94 (by kernel_rfl) rfl)
  (Jat Fence.wide _ trivial rfl (by omega) (w.heap.size+1+1+1) a len cap (fun j=>.bool (s j)) (fun j=>.slice (aa j) (ll j) (cc j)) (fun j=>.bool (t j)) (fun j=>.slice (bb j) (kk j) (dd j)) hlm) (fun _=>rfl)
  (Jtx w a len cap qs x) (fun _ _ _=>False) (Jj9 (by omega) _) (fun c s W W' row h=>h.elim) M1 ?rd
  (fun k b=>{ tmps:=#[.slice a len cap,.agg #[.bool xs,.slice xa xl xc,.bool xt,.slice xb xk xd],undef,.pointer (some ⟨w.heap.size,0,none⟩),.pointer (some ⟨w.heap.size+1,0,none⟩),.pointer (some ⟨w.heap.size+1+1,0,none⟩),undef,.pointer (some ⟨b,0,none⟩),.slice a len cap,.func (.func 94) #[] #[.pointer (some ⟨w.heap.size+1+1+1,0,none⟩)],.int .i64 ((len:Int) - 1 - k),.agg #[.bool (s (len - 1 - k)),.slice (aa (len - 1 - k)) (ll (len - 1 - k)) (cc (len - 1 - k)),.bool (t (len - 1 - k)),.slice (bb (len - 1 - k)) (kk (len - 1 - k)) (dd (len - 1 - k))],undef,undef,undef,undef,undef,undef,undef,undef],defers:=[] })
  (fun k=>.cells #[.bool (s (len - 1 - k)),.slice (aa (len - 1 - k)) (ll (len - 1 - k)) (cc (len - 1 - k)),.bool (t (len - 1 - k)),.slice (bb (len - 1 - k)) (kk (len - 1 - k)) (dd (len - 1 - k))] 38 (0,0)) ?assign ?body ?done ?stop
 case stop=>intro D c k W _ _ h;exact h.elim
 case rd=>
  intro k W M;have hB:=M.2.2;refine ⟨(Mem.cell M (i:=3) rfl).1.cell,fun hk=>?_⟩;obtain ⟨_,b,ea,hb,h1,h2,h3,h4⟩:=HC.out (len - 1 - k) (by omega);exact ⟨b,ea,(hB.cell (p:=⟨b,_,none⟩) hb).trans h1,(hB.cell (p:=⟨b,_,none⟩) hb).trans h2,(hB.cell (p:=⟨b,_,none⟩) hb).trans h3,(hB.cell (p:=⟨b,_,none⟩) hb).trans h4⟩
 case assign=>
  intro l k W K hK;unfold Jbg;gi_wp2;exact hK
 case body=>
  intro l k b W M hk hsz hbx hbb;have hm:len - 1 - k<len:=by omega
  obtain ⟨hi,_⟩:=HC.out (len - 1 - k) hm;have hMb:Mem w W (Jn8 w a len cap qs x k++[some (b,.rat (cf qs (len - 1 - k)))]):=Mem.with M (.rat (cf qs (len - 1 - k))) hbb (hi.below M.2.2) (by omega) (fun i B d' e=>by
   unfold Jn8 at e;have:B≤w.heap.size+1+1+1:=by
    rcases i with _ | _ | _ | _ | i <;> simp at e <;> omega
   omega)
  have ek:len - k=len - 1 - k+1:=by omega
  unfold Jn8 at hMb;rw [ek] at hMb;have HEK:=Ja (show len - (k+1)=len - 1 - k by omega);clear hi hbb M hsz hbx ek;obtain ⟨m,hm0⟩:∃ m,len - 1 - k=m:=⟨_,rfl⟩;rw [hm0] at hMb hm HEK ⊢;have HM:=Ja (show m<qs.length by have:=HL.out;omega);have hMb:Mem w W [some (w.heap.size,.rat x),some (w.heap.size+1,.rat 0),some (w.heap.size+1+1,.rat (ev (qs.drop (m+1)) x)),some (w.heap.size+1+1+1,.cell 23 (.slice a len cap)),some (b,.rat (cf qs m))]:=hMb;have HST:=Ja (show Sq (ev (qs.drop (m+1)) x)∧Sq (ev (qs.drop (m+1)) x*x) from HK.out (m+1));have HSC:=Ja (HS.out.at m);have HEV:=Ja (Jrw qs x HM.out);obtain ⟨sm,hsm⟩:∃ y,ev (qs.drop (m+1)) x=y:=⟨_,rfl⟩;rw [hsm] at hMb HST HEV;obtain ⟨cm,hcm'⟩:∃ y,cf qs m=y:=⟨_,rfl⟩;rw [hcm'] at hMb HSC HEV;have ST0:Jg8 w W W.drew [some (w.heap.size,.rat x),some (w.heap.size+1,.rat 0),some (w.heap.size+1+1,.rat sm),some (w.heap.size+1+1+1,.cell 23 (.slice a len cap)),some (b,.rat cm)]:=Jg8.drew ⟨hMb,KeepsOthers.refl W⟩;clear hMb hsm hcm' hm0;gi_wp2_with fail
  refine JU hmx [[],[0],[],[1,2],[3],[],[4,5,3],[6,6,0,1,2,3,4,5,6]] (by kernel_rfl) (by decide)
   (fun D act V=>∃ (t12x t13x t14x t15x t16x t17x t18x:Value),act={ tmps:=#[Value.slice a len cap,Value.agg #[Value.bool xs,Value.slice xa xl xc,Value.bool xt,Value.slice xb xk xd],undef,.pointer (some ⟨w.heap.size,0,none⟩),.pointer (some ⟨w.heap.size+1,0,none⟩),.pointer (some ⟨w.heap.size+1+1,0,none⟩),undef,.pointer (some ⟨b,0,none⟩),Value.slice a len cap,Value.func (Fn.func 94) #[] #[.pointer (some ⟨w.heap.size+1+1+1,0,none⟩)],Value.int IntKind.i64 (↑len - 1 - ↑k),Value.agg #[Value.bool (s m),Value.slice (aa m) (ll m) (cc m),Value.bool (t m),Value.slice (bb m) (kk m) (dd m)],t12x,t13x,t14x,t15x,t16x,t17x,t18x,undef],defers:=[] }∧Hid ((D 0=true→D 7=false→Jf V t12x sm)∧(D 1=true→D 7=false→Jlp V t13x sm)∧(D 2=true→D 7=false→Jf V t14x x)∧(D 3=true→D 7=false→Jf V t15x (sm*x))∧(D 4=true→D 7=false→Jlp V t16x (sm*x))∧(D 5=true→D 7=false→Jf V t17x cm)∧(D 6=true→D 7=false→Jf V t18x (sm*x+cm)))∧Hid ((D 7=false→Jg8 w W V [some (w.heap.size,.rat x),some (w.heap.size+1,.rat 0),some (w.heap.size+1+1,.rat (sm)),some (w.heap.size+1+1+1,.cell 23 (.slice a len cap)),some (b,.rat cm)])∧(D 7=true→Jg8 w W V [some (w.heap.size,.rat x),some (w.heap.size+1,.rat 0),some (w.heap.size+1+1,.rat (sm*x+cm)),some (w.heap.size+1+1+1,.cell 23 (.slice a len cap)),some (b,.rat cm)])))
   ⟨_,_,_,_,_,_,_,rfl,Ja ⟨by simp,by simp,by simp,by simp,by simp,by simp,by simp⟩,Ja ⟨fun _=>ST0,by simp⟩⟩ ?step1 ?fin1
  case step1=>
   rintro D act V i ds hcl hi hds hDi ⟨t12x,t13x,t14x,t15x,t16x,t17x,t18x,rfl,GG,SS0⟩;have hi6:i<8:=(List.getElem?_eq_some_iff.1 hi).1;obtain rfl | rfl | rfl | rfl | rfl | rfl | rfl | rfl:i=0∨i=1∨i=2∨i=3∨i=4∨i=5∨i=6∨i=7:=by omega
   all_goals
    simp only [List.getElem?_cons_zero,List.getElem?_cons_succ,Option.some.injEq] at hi;subst hi
   · have hf0:D 7=false:=nyt hcl rfl (by simp) hDi;have hS0:=SS0.out.1 hf0;obtain ⟨s,a,l,c,t,b,q,d,n,r,i,j⟩:=hS0.1.rat (i:=2) rfl;have e0:=n.c0;have e1:=n.c1;have e2:=n.c2;have e3:=n.c3;clear hds;refine wpOpIn_step rfl (fun K hK=>?_);go_simp;obtain ⟨_,G1,G2,G3,G4,G5,G6⟩:=GG.out;exact hK _ _ ⟨_,_,_,_,_,_,_,rfl,Ja ⟨fun _ _=>r,G1,G2,G3,G4,G5,G6⟩,Ja ⟨SS0.out.1,SS0.out.2⟩⟩
   · have hf0:D 7=false:=nyt hcl rfl (by simp) hDi;have hS0:=SS0.out.1 hf0;have h0:=GG.out.1 (hds 0 (by simp)) hf0;clear hds;refine wpOpIn_step rfl (fun K hK=>?_);go_simp;obtain ⟨G0,_,G2,G3,G4,G5,G6⟩:=GG.out;exact hK _ _ ⟨_,_,_,_,_,_,_,rfl,Ja ⟨G0,fun _ _=>⟨_,rfl,h0⟩,G2,G3,G4,G5,G6⟩,Ja ⟨SS0.out.1,SS0.out.2⟩⟩
   · have hf0:D 7=false:=nyt hcl rfl (by simp) hDi;have hS0:=SS0.out.1 hf0;obtain ⟨s,a,l,c,t,b,q,d,n,r,i,j⟩:=hS0.1.rat (i:=0) rfl;have e0:=n.c0;have e1:=n.c1;have e2:=n.c2;have e3:=n.c3;clear hds;refine wpOpIn_step rfl (fun K hK=>?_);go_simp;obtain ⟨G0,G1,_,G3,G4,G5,G6⟩:=GG.out;exact hK _ _ ⟨_,_,_,_,_,_,_,rfl,Ja ⟨G0,G1,fun _ _=>r,G3,G4,G5,G6⟩,Ja ⟨SS0.out.1,SS0.out.2⟩⟩
   · have hf0:D 7=false:=nyt hcl rfl (by simp) hDi;have hS0:=SS0.out.1 hf0;have h0:=GG.out.2.1 (hds 1 (by simp)) hf0;have h1:=GG.out.2.2.1 (hds 2 (by simp)) hf0;obtain ⟨y0,rfl,g0⟩:=h0;have hmt:=Jpz y0 V;clear hds;have HC:=Ja (fun (n9:Nat)=>CallsIn.inRound l ((callsIn_wide (n:=n9)).2 (Jas _ _ sm x V g0 h1 HST.out.1 HSX.out)));clear h1;refine wpOpIn_step rfl (fun K hK=>?_);go_simp;gi_wp2_with (refine ⟨trivial,?_⟩;gi_at_call 41;refine (HC.out _).mono ?_;rintro e w5 ⟨v5,rfl,hv5,hb5⟩)
     obtain ⟨G0,G1,G2,_,G4,G5,G6⟩:=GG.out;exact ⟨_,_,_,_,_,_,_,rfl,Ja ⟨fun h h2=>(G0 h h2).below hb5,fun h h2=>(G1 h h2).below hb5,fun h h2=>(G2 h h2).below hb5,fun _ _=>hv5,fun h h2=>(G4 h h2).below hb5,fun h h2=>(G5 h h2).below hb5,fun h h2=>(G6 h h2).below hb5⟩,Ja ⟨fun h=>(SS0.out.1 h).below hb5,fun h=>(SS0.out.2 h).below hb5⟩⟩
   · have hf0:D 7=false:=nyt hcl rfl (by simp) hDi;have hS0:=SS0.out.1 hf0;have h0:=GG.out.2.2.2.1 (hds 3 (by simp)) hf0;clear hds;refine wpOpIn_step rfl (fun K hK=>?_);go_simp;obtain ⟨G0,G1,G2,G3,_,G5,G6⟩:=GG.out;exact hK _ _ ⟨_,_,_,_,_,_,_,rfl,Ja ⟨G0,G1,G2,G3,fun _ _=>⟨_,rfl,h0⟩,G5,G6⟩,Ja ⟨SS0.out.1,SS0.out.2⟩⟩
   · have hf0:D 7=false:=nyt hcl rfl (by simp) hDi;have hS0:=SS0.out.1 hf0;obtain ⟨s,a,l,c,t,b,q,d,n,r,i,j⟩:=hS0.1.rat (i:=4) rfl;have e0:=n.c0;have e1:=n.c1;have e2:=n.c2;have e3:=n.c3;clear hds;refine wpOpIn_step rfl (fun K hK=>?_);go_simp;obtain ⟨G0,G1,G2,G3,G4,_,G6⟩:=GG.out;exact hK _ _ ⟨_,_,_,_,_,_,_,rfl,Ja ⟨G0,G1,G2,G3,G4,fun _ _=>r,G6⟩,Ja ⟨SS0.out.1,SS0.out.2⟩⟩
   · have hf0:D 7=false:=nyt hcl rfl (by simp) hDi;have hS0:=SS0.out.1 hf0;have h0:=GG.out.2.2.2.2.1 (hds 4 (by simp)) hf0;have h1:=GG.out.2.2.2.2.2.1 (hds 5 (by simp)) hf0;obtain ⟨y0,rfl,g0⟩:=h0;have hmt:=Jp0 y0 V;clear hds;have HC:=Ja (fun (n9:Nat)=>CallsIn.inRound l ((callsIn_wide (n:=n9)).2 (Xq _ _ (sm*x) cm V g0 h1 HST.out.2 HSC.out)));clear h1;refine wpOpIn_step rfl (fun K hK=>?_);go_simp;gi_wp2_with (refine ⟨trivial,?_⟩;gi_at_call 40;refine (HC.out _).mono ?_;rintro e w5 ⟨v5,rfl,hv5,hb5⟩)
     obtain ⟨G0,G1,G2,G3,G4,G5,_⟩:=GG.out;exact ⟨_,_,_,_,_,_,_,rfl,Ja ⟨fun h h2=>(G0 h h2).below hb5,fun h h2=>(G1 h h2).below hb5,fun h h2=>(G2 h h2).below hb5,fun h h2=>(G3 h h2).below hb5,fun h h2=>(G4 h h2).below hb5,fun h h2=>(G5 h h2).below hb5,fun _ _=>hv5⟩,Ja ⟨fun h=>(SS0.out.1 h).below hb5,fun h=>(SS0.out.2 h).below hb5⟩⟩
   · have hS0:=SS0.out.1 hDi;have h0:=GG.out.2.2.2.2.2.2 (hds 6 (by simp)) hDi;obtain ⟨s,a,l,c,t,b,q,d,n,r,i,j⟩:=hS0.1.rat (i:=2) rfl;have e0:=n.c0;have e1:=n.c1;have e2:=n.c2;have e3:=n.c3;have f0:=n.f0;have f1:=n.f1;have f2:=n.f2;have f3:=n.f3;obtain ⟨s9,a9,l9,c9,t9,b9,k9,d9,rfl⟩:=Jf.form h0;clear hds;refine wpOpIn_step rfl (fun K hK=>?_);go_simp;exact hK _ _ ⟨_,_,_,_,_,_,_,rfl,Ja ⟨fun _ h=>by simp at h,fun _ h=>by simp at h,fun _ h=>by simp at h,fun _ h=>by simp at h,fun _ h=>by simp at h,fun _ h=>by simp at h,fun _ h=>by simp at h⟩,Ja ⟨fun h=>by simp at h,fun _=>⟨hS0.1.putRat (i:=2) rfl h0,hS0.2.trans (Jc7 _ _ _ _ _ _)⟩⟩⟩
  case fin1=>
   rintro D act V hDD ⟨t12x,t13x,t14x,t15x,t16x,t17x,t18x,rfl,GG,SS0⟩;have h2:=SS0.out.2 (hDD 7 (by decide));refine ⟨h2.2.from _,?_⟩;have h3:=h2.1.take 4;rw [HEV.out,←HEK.out] at h3;exact h3
 case done=>
  intro D W hD M hK;have M:Mem w W [some (w.heap.size,.rat x),some (w.heap.size+1,.rat 0),some (w.heap.size+1+1,.rat (ev (qs.drop (len - len)) x)),some (w.heap.size+1+1+1,.cell 23 (.slice a len cap))]:=M;rw [show qs.drop (len - len)=qs from by rw [Nat.sub_self];rfl] at M;obtain ⟨s1,a1,l1,c1,t1,b1,k1,d1,n1,r1,i1,j1⟩:=M.rat (i:=2) rfl;obtain ⟨s2,a2,l2,c2,t2,b2,k2,d2,n2,r2,i2,j2⟩:=M.rat (i:=1) rfl;have e1a:=n1.c0;have e1b:=n1.c1;have e1c:=n1.c2;have e1d:=n1.c3;have e2a:=n2.c0;have e2b:=n2.c1;have e2c:=n2.c2;have e2d:=n2.c3;have f2a:=n2.f0;have f2b:=n2.f1;have f2c:=n2.f2;have f2d:=n2.f3;have HR:=Ja r1;have HB:=Ja M.2.2;clear r1 i1 j1 r2 i2 j2 M;gi_wp2;have hK2:(put4 W (w.heap.size+1) (.bool s1) (.slice a1 l1 c1) (.bool t1) (.slice b1 k1 d1)).heap[D]?=some (.deferred (some [])):=(Jc7 W (w.heap.size+1) _ _ _ _).same D _ hK rfl;refine ⟨by simp,.inl ⟨_,_,rfl,run_takeDeferred hK2,?_⟩⟩;have q:=n2.put (.bool s1) (.slice a1 l1 c1) (.bool t1) (.slice b1 k1 d1);have hg:=grownBy_putObj' (put4 W (w.heap.size+1) (.bool s1) (.slice a1 l1 c1) (.bool t1) (.slice b1 k1 d1)) D (.deferred none);have hgr:∀ r,some D=some r→∃ o:Obj,(put4 W (w.heap.size+1) (.bool s1) (.slice a1 l1 c1) (.bool t1) (.slice b1 k1 d1)).heap[r]?=some o∧o.isCells=false:=fun r e=>by cases e;exact ⟨_,hK2,rfl⟩
  have q2:Js _ (w.heap.size+1) 38 (.bool s1) (.slice a1 l1 c1) (.bool t1) (.slice b1 k1 d1):=YK hg hgr q;have g0:=q2.c0;have g1:=q2.c1;have g2:=q2.c2;have g3:=q2.c3;unfold put4 at g0 g1 g2 g3;refine ⟨.agg #[.bool s1,.slice a1 l1 c1,.bool t1,.slice b1 k1 d1],by simp [results,Tryz.results76,go_sem,g0,g1,g2,g3],_,rfl,?_,?_⟩
  · exact IsK.keep (r:=true) (Jf.put4 HR.out n2 rfl rfl rfl rfl _ _ _ _) (fun _ _ _ h=>Jiv hg hgr h)
  · exact (Jt HB.out (by omega) _ _ _ _).trans (belowK_b (w:=w) (Nat.le_refl _) _ D _ _ (by omega) hK2 rfl rfl)
theorem Xb (va vb:Value) (ps qs:List Rat) (w:World) (ha:Jk w va ps) (hb:Jk w vb qs) (hps:Sqs ps) (hqs:Sqs qs) (hok:XC ps qs) (hlen:ps.length+qs.length≤1099511627776) :
 Calls Tryz.prog 28 #[va,vb] w fun e w'=>∃ u,e=.returned u∧Jk w' u (JS ps qs)∧Jrt w.heap.size u∧Below w.heap.size w w':=by
 obtain ⟨u,rfl,ha⟩:=ha;obtain ⟨v,rfl,hb⟩:=hb;obtain ⟨a,la,ca,rfl⟩:=ha.form;obtain ⟨b,lb,cb,rfl⟩:=hb.form;obtain ⟨W0,hW0⟩:∃ W0,((w.alloc (.cells #[.slice a la ca] 25)).alloc (.cells #[.slice b lb cb] 25)).alloc (.cells #[.slice none 0 0] 25)=W0:=⟨_,rfl⟩;have b0:Boxed W0 w.heap.size 25 (.slice a la ca):=by rw [←hW0];exact ((Boxed.new w _ _).alloc _).alloc _
 have b1:Boxed W0 (w.heap.size+1) 25 (.slice b lb cb):=by rw [←hW0];have:=(Boxed.new (w.alloc (.cells #[.slice a la ca] 25)) 25 (.slice b lb cb)).alloc (.cells #[.slice none 0 0] 25);simpa using this
 have b2:Boxed W0 (w.heap.size+1+1) 25 (.slice none 0 0):=by rw [←hW0];have:=Boxed.new ((w.alloc (.cells #[.slice a la ca] 25)).alloc (.cells #[.slice b lb cb] 25)) 25 (.slice none 0 0);simpa using this
 have hB0:Below w.heap.size w W0:=by rw [←hW0];exact (((Below.refl _ w).alloc (Nat.le_refl _) _).alloc (by simp) _).alloc (by simp;omega) _
 have HJ:=Ja (Jp1 a b la ca lb cb ps qs W0 (ha.below hB0) (hb.below hB0) hps hqs hok hlen);have HM:=Ja (fun (V:World) (v:Value) (zs:List Rat) (h:RowK true V v zs) (hs:Sqs zs)=>Xa v zs V h hs);have HW0:=Ja hW0;have k0:=b0.cell;have k1:=b1.cell;clear hW0 ha hb hps hqs hok hlen;go_enter Tryz.func28,Tryz.ntmps28
 go_upto_region 1 with fail
 rw [HW0.out];go_wp2_with (first
  | (go_at_call 68;refine HJ.out.mono ?_;clear HJ;rintro e w1 ⟨v1,zs,rfl,hr1,hz,hs1,hf1,hb1⟩;have HZ:=Ja hz;clear hz)
  | (go_at_call 65;refine (HM.out _ _ zs hr1 hs1).mono ?_;clear HM;rintro e w2 ⟨u2,rfl,hu2,hf2,hb2⟩;obtain ⟨a9,l9,c9,rfl⟩:=hu2.form;have hq:=Below.then hb1 hb2;have b2':=boxed_below b2 hq;have k2:=b2'.cell;have f2:=b2'.frozen))
 have e0:Ji zs=JS ps qs:=Jae fun j=>HZ.out j;rw [e0] at hu2;refine bodyPost_ret (v:=.agg #[.slice a9 l9 c9]) (by simp [results,Tryz.results28,go_sem,k2]) rfl ⟨_,rfl,⟨_,rfl,Jbh b2' _ hu2.row⟩,?_,(Below.then hB0 hq).setCell (p:=⟨w.heap.size+1+1,0,none⟩) (by simp;omega) _⟩;intro a' l' c' e;have:=hf2 W0.heap.size hf1 a' l' c' e;have h2:=hB0.size;omega
theorem Jbp (v vx:Value) (ps:List Rat) (x:Rat) (w:World) (h:Jk w v ps) (hx:Jf w vx x) (hs:Sqs ps) (hsx:Sq x) (hok:Jct ps x) :
 Calls Tryz.prog 34 #[v,vx] w fun e w'=>∃ u,e=.returned u∧Jf w' u (ev ps x)∧Below w.heap.size w w':=by
 obtain ⟨u,rfl,hr⟩:=h;obtain ⟨a,l,c,rfl⟩:=hr.form;obtain ⟨s8,a8,l8,c8,t8,b8,k8,d8,rfl⟩:=hx.form;have M0:Mem w _ _:=(((Mem.nil w).push (.cell 25 (.slice a l c)) (cs:=#[.slice a l c]) ⟨rfl,rfl⟩).push (.rat x) (Has.alloc (d:=.rat x) hx _)).push (.rat 0) (XQ _);simp only [World.size_alloc] at M0;obtain ⟨W0,hW0⟩:∃ W0,((w.alloc (.cells #[.slice a l c] 25)).alloc (.cells #[.bool s8,.slice a8 l8 c8,.bool t8,.slice b8 k8 d8] 38)).alloc (.cells #[.bool false,.slice none 0 0,.bool false,.slice none 0 0] 38)=W0:=⟨_,rfl⟩;have M1:Mem w W0 [some (w.heap.size,.cell 25 (.slice a l c)),some (w.heap.size+1,.rat x),some (w.heap.size+1+1,.rat 0)]:=by rw [←hW0];exact M0
 obtain ⟨s1,a1,l1,c1,t1,b1,k1,d1,n1,r1,i1,j1⟩:=M1.rat (i:=1) rfl;obtain ⟨s2,a2,l2,c2,t2,b2,k2,d2,n2,r2,i2,j2⟩:=M1.rat (i:=2) rfl;have b0:=(M1.cell (i:=0) rfl).1;have HC:=Ja (Jto a l c ps _ x W0 (hr.below M1.2.2) r1 hs hsx hok);have HW0:=Ja hW0;have hB0:=M1.2.2;have k0:=b0.cell;have e0:=n1.c0;have e1:=n1.c1;have e2:=n1.c2;have e3:=n1.c3;clear hW0 hr hs hsx hok hx M0 M1 r1 i1 j1 r2 i2 j2;go_enter Tryz.func34,Tryz.ntmps34
 go_upto_region 1 with fail
 rw [HW0.out];go_wp2_with (go_at_call 76;refine HC.out.mono ?_;clear HC;rintro e w1 ⟨u,rfl,hu,hb1⟩;have n2':=n2.below hb1;have j0:=n2'.c0;have j1:=n2'.c1;have j2:=n2'.c2;have j3:=n2'.c3;have f0:=n2'.f0;have f1:=n2'.f1;have f2:=n2'.f2;have f3:=n2'.f3;obtain ⟨s91,a91,l91,c91,t91,b91,k91,d91,rfl⟩:=Jf.form hu)
 exact bodyPost_ret (v:=.agg #[.bool s91,.slice a91 l91 c91,.bool t91,.slice b91 k91 d91]) (by simp [results,Tryz.results34,go_sem,j0,j1,j2,j3]) rfl ⟨_,rfl,hu.put4 n2' rfl rfl rfl rfl _ _ _ _,Jt (Below.then hB0 hb1) (by omega) _ _ _ _⟩
theorem Jca (n:Int) (h1:-9223372036854775808≤n) (h2:n≤9223372036854775807) (w:World) :
 Calls Tryz.prog 77 #[.int .i64 n] w fun e w'=>∃ u,e=.returned u∧Jf w' u (n:Rat)∧Below w.heap.size w w':=by
 have hB0:Below w.heap.size w (w.alloc (.cells #[.bool false,.slice none 0 0,.bool false,.slice none 0 0] 38)):=(Below.refl _ w).alloc (Nat.le_refl _) _;have b0:=Js.new w 38 (.bool false) (.slice none 0 0) (.bool false) (.slice none 0 0);obtain ⟨W0,hW0⟩:∃ W0,w.alloc (.cells #[.bool false,.slice none 0 0,.bool false,.slice none 0 0] 38)=W0:=⟨_,rfl⟩;rw [hW0] at hB0 b0;have HW0:=Ja hW0;have HA:=Ja (Jmn n h1 h2 W0);have HB:=Ja (fun (V:World)=>Jmn 1 (by omega) (by omega) V);have HSN:=Ja (show Sok n from Sok.of (k:=2) (by unfold Sm B64;omega) (by omega));have HO:=Ja (fun (V:World) (u v:Value) (hu:Jh V u n) (hv:Jh V v 1)=>Jsm u v n 1 V hu hv HSN.out Sok.one);rw [show decide ((1:Int)≠0)=true from rfl,show Rat.divInt n 1=(n:Rat) from by rw [Rat.divInt_eq_div];grind] at HO;clear hW0;go_enter Tryz.func77,Tryz.ntmps77
 go_upto_region 1 with fail
 rw [HW0.out];go_wp2_with (first
  | (go_at_call 110;refine HA.out.mono ?_;clear HA;rintro e w1 ⟨u1,rfl,hu1,hb1⟩)
  | (go_at_call 110;refine (HB.out _).mono ?_;clear HB;rintro e w2 ⟨u2,rfl,hu2,hb2⟩;have hu1:=hu1.below hb2)
  | (go_at_call 107;refine (HO.out _ _ _ hu1 hu2).mono ?_;clear HO;rintro e w3 ⟨u3,rfl,hu3,hb3⟩;have hq:=Below.then (Below.then hb1 hb2) hb3;have n2:=(b0.below hq).alloc (.cells #[.bool false,.slice none 0 0,.bool false,.slice none 0 0] 38);obtain ⟨s91,a91,l91,c91,t91,b91,k91,d91,rfl⟩:=Jf.form hu3;have n3:=(b0.below hq).alloc (.cells #[.bool s91,.slice a91 l91 c91,.bool t91,.slice b91 k91 d91] 38);have j0:=n3.c0;have j1:=n3.c1;have j2:=n3.c2;have j3:=n3.c3;have f0:=n3.f0;have f1:=n3.f1;have f2:=n3.f2;have f3:=n3.f3))
 exact bodyPost_ret (v:=.agg #[.bool s91,.slice a91 l91 c91,.bool t91,.slice b91 k91 d91]) (by simp [results,Tryz.results77,go_sem,j0,j1,j2,j3]) rfl ⟨_,rfl,(hu3.below ((Below.refl _ _).alloc (Nat.le_refl _) _)).put4 n3 rfl rfl rfl rfl _ _ _ _,Jt ((Below.then hB0 hq).alloc (by have:=hB0.size;have:=hq.size;omega) _) (Nat.le_refl _) _ _ _ _⟩
end Go.Proofs.YtcahejkcdcjjgaaGreatDoor.M3
