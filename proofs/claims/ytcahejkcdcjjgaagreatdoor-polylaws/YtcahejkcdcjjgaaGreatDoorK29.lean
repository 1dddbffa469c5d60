import Derived.Test.YtcahejkcdcjjgaaGreatDoorK28
import Derived.Test.YtcahejkcdcjjgaaGreatDoorK27
import Derived.Test.YtcahejkcdcjjgaaGreatDoorShelf
import Derived.Test.YtcahejkcdcjjgaaGreatDoorK24
import Derived.Test.YtcahejkcdcjjgaaGreatDoorK20
import Derived.Test.YtcahejkcdcjjgaaGreatDoorK26
import Derived.Test.YtcahejkcdcjjgaaGreatDoorK09
set_option maxRecDepth 100000
set_option maxHeartbeats 16000000
namespace Go.Proofs.YtcahejkcdcjjgaaGreatDoor
open Go.RowKit Go.Shelf
attribute [local go_sem] Oper.semAt_some
abbrev Jer (w:World):Prop:=Lib.TabIs Tryz.prog w "internal/strconv.uint64pow10" .u64 Lib.pow10Tab
theorem Js4 (n:Nat) (hn:n≤9223372036854775807) (w:World) (htab:Jer w):Calls Tryz.prog 58 #[.int .i64 (n:Int)] w fun e w'=>e=.returned (.string ⟨(Xt n).toArray⟩)∧Below w.heap.size w w':=by
 refine (Tryz.strconv_Itoa n (by omega) (by omega) w htab).mono ?_;rintro e w' ⟨rfl,k,os,rfl⟩;refine ⟨?_,Jby w k os⟩;unfold Lib.itoa;rw [if_neg (by omega),Int.toNat_natCast,Jfn]
theorem Js5 (s:ByteArray) (w:World):Calls Tryz.prog 96 #[.string s,.string ⟨#[45]⟩] w fun e w'=>e=.returned (.tuple #[.string ⟨(JF (Je s)).toArray⟩,.bool (decide ((Je s).head?=some 45))])∧Below w.heap.size w w':=by
 refine (Jjk s w).mono ?_;rintro e w' ⟨rfl,rfl⟩;exact ⟨rfl,Below.refl _ _⟩
theorem Jix (a b:List UInt8):(⟨a.toArray⟩:ByteArray)++⟨b.toArray⟩=⟨(a++b).toArray⟩:=by
 apply ByteArray.ext;simp
theorem Jkc (i:Nat) (hi:i≤1099511627776) (w:World) (htab:Jer w) :
 Calls Tryz.prog 97 #[.int .i64 (i:Int)] w fun e w'=>e=.returned (.string ⟨(Jg7 i).toArray⟩)∧Below w.heap.size w w':=by
 by_cases h0:i=0
 · subst h0;go_enter Tryz.func97,Tryz.ntmps97
   go_wp2;go_ret;exact ⟨rfl,Below.refl _ _⟩
 · by_cases h1:i=1
   · subst h1;go_enter Tryz.func97,Tryz.ntmps97
     go_wp2;go_ret;exact ⟨rfl,Below.refl _ _⟩
   · have H:=Ja (Js4 i (by omega) w htab);have e0:((i:Int) == 0)=false:=by rw [beq_eq_false_iff_ne];omega
     have e1:((i:Int) == 1)=false:=by rw [beq_eq_false_iff_ne];omega
     have HE:=Ja (show (⟨#[120,94]⟩:ByteArray)++⟨(Xt i).toArray⟩=⟨(Jg7 i).toArray⟩ by
      unfold Jg7;rw [if_neg h0,if_neg h1];exact Jix [120,94] (Xt i))
     have hz:(⟨(Xt i).toArray⟩:ByteArray).size≤1000:=by
      show (Xt i).toArray.size≤_;rw [List.size_toArray];have:=Jb5 i;have h3:(Jd B64 i).length≤1:=JN Jc (by unfold B64;omega);omega
     obtain ⟨S,hS⟩:∃ S:ByteArray,⟨(Xt i).toArray⟩=S:=⟨_,rfl⟩;rw [hS] at H HE hz;clear h0 h1 htab hS;go_enter Tryz.func97,Tryz.ntmps97
     go_wp2_with (go_at_call 58;refine H.out.mono ?_;clear H;rintro e w1 ⟨rfl,hb1⟩)
     go_ret;exact ⟨by rw [←HE.out];rfl,hb1⟩
theorem Jhx (q:Rat):JF (Yq q)=Yq (Jb8 q)∧decide ((Yq q).head?=some 45)=decide (q<0):=by
 by_cases h:q<0
 · rw [Jj6 h,Jn7 h];refine ⟨rfl,?_⟩;rw [decide_eq_true h];rfl
 · rw [Jj7 h];have h1:=Jf8 h;refine ⟨by unfold JF;rw [if_neg h1],by rw [decide_eq_false h1,decide_eq_false h]⟩
theorem Jtp (a b c:List UInt8):(⟨a.toArray⟩:ByteArray)++⟨b.toArray⟩++⟨c.toArray⟩=⟨(a++b++c).toArray⟩:=by rw [Jix,Jix]
theorem XD {X Y:ByteArray} (h:X=Y):Ending.returned (.string X)=.returned (.string Y):=by rw [h]
theorem Jlq (va:Value) (q:Rat) (i:Nat) (first:Bool) (w:World) (ha:Jf w va q) (hs:Sq q) (hi:i≤1099511627776) (htab:Jer w) :
 Calls Tryz.prog 53 #[va,.int .i64 (i:Int),.bool first] w fun e w'=>e=.returned (.string ⟨(Xy q i first).toArray⟩)∧Below w.heap.size w w':=by
 obtain ⟨s,a,l,c,t,b,k,d,rfl⟩:=ha.form;have b0:=Js.new w 38 (.bool s) (.slice a l c) (.bool t) (.slice b k d);have hB0:Below w.heap.size w (w.alloc (.cells #[.bool s,.slice a l c,.bool t,.slice b k d] 38)):=(Below.refl _ w).alloc (Nat.le_refl _) _;obtain ⟨W0,hW0⟩:∃ W0,w.alloc (.cells #[.bool s,.slice a l c,.bool t,.slice b k d] 38)=W0:=⟨_,rfl⟩;rw [hW0] at b0 hB0;have HW0:=Ja hW0;have HT:=Ja (Jru _ q W0 (ha.below hB0) hs (JE htab hB0));have HCU:=Ja (fun (V:World)=>Js5 ⟨(Yq q).toArray⟩ V);rw [show Je ⟨(Yq q).toArray⟩=Yq q from by simp [Je],(Jhx q).1,(Jhx q).2] at HCU;have HPW:=Ja (fun (V:World) (h:Below W0.heap.size W0 V)=>Jkc i hi V (JE (JE htab hB0) h));have k0:=b0.c0;have k1:=b0.c1;have k2:=b0.c2;have k3:=b0.c3;have hzA:(⟨(Yq (Jb8 q)).toArray⟩:ByteArray).size≤2000000000:=by
  show (Yq (Jb8 q)).toArray.size≤_;rw [List.size_toArray];obtain ⟨e1,e2⟩:=Jj8 q;unfold Yq;have h1:=Jb7 (Jb8 q).num;have h2:=Jb7 ((Jb8 q).den:Int);have h3:=hs.num.words;have h4:=hs.den.words;rw [e1,Int.natAbs_natCast] at h1;rw [e2] at h2;rw [e1,e2];split
  · omega
  · rw [List.length_append,List.length_cons];omega
 have hzP:(⟨(Jg7 i).toArray⟩:ByteArray).size≤2000:=by
  show (Jg7 i).toArray.size≤_;rw [List.size_toArray];have h3:(Jd B64 i).length≤1:=JN Jc (by unfold B64;omega);have:=Jb5 i;unfold Jg7;split
  · simp
  · split
    · simp
    · simp only [List.length_cons];omega
 obtain ⟨ST,hST⟩:∃ S:ByteArray,⟨(Yq q).toArray⟩=S:=⟨_,rfl⟩;obtain ⟨SP,hSP⟩:∃ S:ByteArray,⟨(Jg7 i).toArray⟩=S:=⟨_,rfl⟩;obtain ⟨bl,hbl⟩:∃ x,decide (q<0)=x:=⟨_,rfl⟩;rw [hST] at HT HCU;rw [hbl] at HCU;rw [hSP] at HPW hzP;have HBL:=Ja hbl;have HSP:=Ja hSP;clear hW0 ha hs htab hST hbl;obtain ⟨SZ,hSZ⟩:∃ S:ByteArray,⟨(Yq (Jb8 q)).toArray⟩=S:=⟨_,rfl⟩;have HSZ:=Ja hSZ;have HFIN:=Ja (show (bl=true→(⟨#[45]⟩:ByteArray)++⟨(Jbo q i).toArray⟩++SP=⟨(Xy q i first).toArray⟩)∧(bl=false→first=true→(⟨(Jbo q i).toArray⟩:ByteArray)++SP=⟨(Xy q i first).toArray⟩)∧(bl=false→first=false→(⟨#[43]⟩:ByteArray)++⟨(Jbo q i).toArray⟩++SP=⟨(Xy q i first).toArray⟩) by
  rw [←HSP.out];have hb:=HBL.out;refine ⟨fun h=>?_,fun h h2=>?_,fun h h2=>?_⟩
  · rw [h] at hb;unfold Xy Jhv;rw [if_pos (of_decide_eq_true hb)];exact Jtp [45] _ _
  · rw [h] at hb;unfold Xy Jhv;rw [if_neg (of_decide_eq_false hb),h2];exact (Jix _ _)
  · rw [h] at hb;unfold Xy Jhv;rw [if_neg (of_decide_eq_false hb),h2];exact Jtp [43] _ _)
 by_cases h49:Yq (Jb8 q)=[49]
 · by_cases hi0:0<i
   · have hi1:(0:Int)<(i:Int):=by omega
     rw [show Jbo q i=[] from by unfold Jbo;rw [if_pos ⟨h49,hi0⟩]] at HFIN;rw [h49] at HCU hzA;clear h49 hi0 hSZ HSZ;cases bl
     · cases first
       · go_enter Tryz.func53,Tryz.ntmps53
         go_upto_region 1 with fail
         rw [HW0.out];go_wp2_with (first
          | (go_at_call 16;refine HT.out.mono ?_;clear HT;rintro e w1 ⟨rfl,hb1⟩)
          | (go_at_call 96;refine (HCU.out _).mono ?_;clear HCU;rintro e w2 ⟨rfl,hb2⟩;have hq2:=Below.then hb1 hb2)
          | (go_at_call 97;refine (HPW.out _ hq2).mono ?_;clear HPW;rintro e w3 ⟨rfl,hb3⟩))
         go_ret;refine ⟨?_,Below.then hB0 (Below.then hq2 hb3)⟩;exact XD (X:=(⟨#[43]⟩:ByteArray)++⟨#[]⟩++SP) (HFIN.out.2.2 (by first | rfl | trivial) (by first | rfl | trivial))
       · go_enter Tryz.func53,Tryz.ntmps53
         go_upto_region 1 with fail
         rw [HW0.out];go_wp2_with (first
          | (go_at_call 16;refine HT.out.mono ?_;clear HT;rintro e w1 ⟨rfl,hb1⟩)
          | (go_at_call 96;refine (HCU.out _).mono ?_;clear HCU;rintro e w2 ⟨rfl,hb2⟩;have hq2:=Below.then hb1 hb2)
          | (go_at_call 97;refine (HPW.out _ hq2).mono ?_;clear HPW;rintro e w3 ⟨rfl,hb3⟩))
         go_ret;refine ⟨?_,Below.then hB0 (Below.then hq2 hb3)⟩;exact XD (X:=(⟨#[]⟩:ByteArray)++SP) (HFIN.out.2.1 (by first | rfl | trivial) (by first | rfl | trivial))
     · go_enter Tryz.func53,Tryz.ntmps53
       go_upto_region 1 with fail
       rw [HW0.out];go_wp2_with (first
        | (go_at_call 16;refine HT.out.mono ?_;clear HT;rintro e w1 ⟨rfl,hb1⟩)
        | (go_at_call 96;refine (HCU.out _).mono ?_;clear HCU;rintro e w2 ⟨rfl,hb2⟩;have hq2:=Below.then hb1 hb2)
        | (go_at_call 97;refine (HPW.out _ hq2).mono ?_;clear HPW;rintro e w3 ⟨rfl,hb3⟩))
       go_ret;refine ⟨?_,Below.then hB0 (Below.then hq2 hb3)⟩;exact XD (X:=(⟨#[45]⟩:ByteArray)++⟨#[]⟩++SP) (HFIN.out.1 (by first | rfl | trivial))
   · have hi1:¬ (0:Int)<(i:Int):=by omega
     rw [show Jbo q i=[49] from by unfold Jbo;rw [if_neg (fun h=>hi0 h.2),h49]] at HFIN;rw [h49] at HCU hzA;clear h49 hi0 hSZ HSZ;cases bl
     · cases first
       · go_enter Tryz.func53,Tryz.ntmps53
         go_upto_region 1 with fail
         rw [HW0.out];go_wp2_with (first
          | (go_at_call 16;refine HT.out.mono ?_;clear HT;rintro e w1 ⟨rfl,hb1⟩)
          | (go_at_call 96;refine (HCU.out _).mono ?_;clear HCU;rintro e w2 ⟨rfl,hb2⟩;have hq2:=Below.then hb1 hb2)
          | (go_at_call 97;refine (HPW.out _ hq2).mono ?_;clear HPW;rintro e w3 ⟨rfl,hb3⟩))
         go_ret;refine ⟨?_,Below.then hB0 (Below.then hq2 hb3)⟩;exact XD (X:=(⟨#[43]⟩:ByteArray)++⟨#[49]⟩++SP) (HFIN.out.2.2 (by first | rfl | trivial) (by first | rfl | trivial))
       · go_enter Tryz.func53,Tryz.ntmps53
         go_upto_region 1 with fail
         rw [HW0.out];go_wp2_with (first
          | (go_at_call 16;refine HT.out.mono ?_;clear HT;rintro e w1 ⟨rfl,hb1⟩)
          | (go_at_call 96;refine (HCU.out _).mono ?_;clear HCU;rintro e w2 ⟨rfl,hb2⟩;have hq2:=Below.then hb1 hb2)
          | (go_at_call 97;refine (HPW.out _ hq2).mono ?_;clear HPW;rintro e w3 ⟨rfl,hb3⟩))
         go_ret;refine ⟨?_,Below.then hB0 (Below.then hq2 hb3)⟩;exact XD (X:=(⟨#[49]⟩:ByteArray)++SP) (HFIN.out.2.1 (by first | rfl | trivial) (by first | rfl | trivial))
     · go_enter Tryz.func53,Tryz.ntmps53
       go_upto_region 1 with fail
       rw [HW0.out];go_wp2_with (first
        | (go_at_call 16;refine HT.out.mono ?_;clear HT;rintro e w1 ⟨rfl,hb1⟩)
        | (go_at_call 96;refine (HCU.out _).mono ?_;clear HCU;rintro e w2 ⟨rfl,hb2⟩;have hq2:=Below.then hb1 hb2)
        | (go_at_call 97;refine (HPW.out _ hq2).mono ?_;clear HPW;rintro e w3 ⟨rfl,hb3⟩))
       go_ret;refine ⟨?_,Below.then hB0 (Below.then hq2 hb3)⟩;exact XD (X:=(⟨#[45]⟩:ByteArray)++⟨#[49]⟩++SP) (HFIN.out.1 (by first | rfl | trivial))
 · have hne2:¬ SZ=(⟨#[49]⟩:ByteArray):=by
    intro h;apply h49;rw [←hSZ] at h;have h2:=congrArg (fun b:ByteArray=>b.data.toList) h;simpa using h2
   have hne4:¬ SZ.toList=[49]:=by
    rw [Jcr,←hSZ];simpa using h49
   clear hne2;rw [show Jbo q i=Yq (Jb8 q) from by unfold Jbo;rw [if_neg (fun h=>h49 h.1)],hSZ] at HFIN;rw [hSZ] at HCU hzA;clear h49 hSZ;cases bl
   · cases first
     · go_enter Tryz.func53,Tryz.ntmps53
       go_upto_region 1 with fail
       rw [HW0.out];go_wp2_with (first
        | (go_at_call 16;refine HT.out.mono ?_;clear HT;rintro e w1 ⟨rfl,hb1⟩)
        | (go_at_call 96;refine (HCU.out _).mono ?_;clear HCU;rintro e w2 ⟨rfl,hb2⟩;have hq2:=Below.then hb1 hb2)
        | (go_at_call 97;refine (HPW.out _ hq2).mono ?_;clear HPW;rintro e w3 ⟨rfl,hb3⟩))
       go_ret;refine ⟨?_,Below.then hB0 (Below.then hq2 hb3)⟩;exact XD (X:=(⟨#[43]⟩:ByteArray)++SZ++SP) (HFIN.out.2.2 (by first | rfl | trivial) (by first | rfl | trivial))
     · go_enter Tryz.func53,Tryz.ntmps53
       go_upto_region 1 with fail
       rw [HW0.out];go_wp2_with (first
        | (go_at_call 16;refine HT.out.mono ?_;clear HT;rintro e w1 ⟨rfl,hb1⟩)
        | (go_at_call 96;refine (HCU.out _).mono ?_;clear HCU;rintro e w2 ⟨rfl,hb2⟩;have hq2:=Below.then hb1 hb2)
        | (go_at_call 97;refine (HPW.out _ hq2).mono ?_;clear HPW;rintro e w3 ⟨rfl,hb3⟩))
       go_ret;refine ⟨?_,Below.then hB0 (Below.then hq2 hb3)⟩;exact XD (X:=(SZ:ByteArray)++SP) (HFIN.out.2.1 (by first | rfl | trivial) (by first | rfl | trivial))
   · go_enter Tryz.func53,Tryz.ntmps53
     go_upto_region 1 with fail
     rw [HW0.out];go_wp2_with (first
      | (go_at_call 16;refine HT.out.mono ?_;clear HT;rintro e w1 ⟨rfl,hb1⟩)
      | (go_at_call 96;refine (HCU.out _).mono ?_;clear HCU;rintro e w2 ⟨rfl,hb2⟩;have hq2:=Below.then hb1 hb2)
      | (go_at_call 97;refine (HPW.out _ hq2).mono ?_;clear HPW;rintro e w3 ⟨rfl,hb3⟩))
     go_ret;refine ⟨?_,Below.then hB0 (Below.then hq2 hb3)⟩;exact XD (X:=(⟨#[45]⟩:ByteArray)++SZ++SP) (HFIN.out.1 (by first | rfl | trivial))
theorem Jp2 (B b:Nat) (l:List UInt8) (w:World) (h:Lib.IsBuilder 89 5 B b (Lib.byteCells l) w):Calls Tryz.prog 54 #[.pointer (some ⟨b,0,none⟩)] w fun e w'=>e=.returned (.int .i64 (l.length:Int))∧Below w.heap.size w w':=by
 refine (Tryz.Builder_Len B b _ w h).mono ?_;rintro e w' ⟨rfl,rfl⟩;exact ⟨by rw [Lib.byteCells_length],Below.refl _ _⟩
def TyI (w:World) (B0:Nat) (a:Option Addr) (len cap:Nat) (qs:List Rat) (k:Nat) (W:World):Prop:=
 (Boxed W (B0+1) 23 (.slice a len cap)∧Below w.heap.size w W)∧Lib.IsBuilder 89 5 B0 B0 (Lib.byteCells (Yt (qs.drop (len - k)) (len - k))) W
theorem Jrx (w:World) (B0:Nat) (a:Option Addr) (len cap:Nat) (qs:List Rat) (hB:w.heap.size≤B0):OwnFrom (B0+1+1) (TyI w B0 a len cap qs):=
 OwnFrom.and (OwnFrom.and (Own.from (boxed_own _ _ (fun _=>.slice a len cap)) _) (ownFrom_below (Nat.le_refl _) (by omega))) (fun _ _ _ _ h hg hr=>Jbd h hg hr)
def TyS (w W:World) (B0 b:Nat) (a:Option Addr) (len cap:Nat) (x y z u:Value) (T:List UInt8) (V:World):Prop:=
 ((Boxed V (B0+1) 23 (.slice a len cap)∧Below w.heap.size w V)∧Lib.IsBuilder 89 5 B0 B0 (Lib.byteCells T) V)∧KeepsOthers W V∧Js V b 38 x y z u∧B0+1<V.heap.size
theorem TyS.below {w W:World} {B0 b:Nat} {a:Option Addr} {len cap:Nat} {x y z u:Value} {T:List UInt8} {V V':World} (h:TyS w W B0 b a len cap x y z u T V) (hb:Below V.heap.size V V'):TyS w W B0 b a len cap x y z u T V':=
 ⟨⟨⟨boxed_below h.1.1.1 hb,h.1.1.2.trans (hb.mono h.1.1.2.size)⟩,YP h.1.2 hb⟩,h.2.1.trans (JW hb),h.2.2.1.below hb,Nat.lt_of_lt_of_le h.2.2.2 hb.size⟩
theorem TyS.write {w W:World} {B0 b:Nat} {a:Option Addr} {len cap:Nat} {x y z u:Value} {T T':List UInt8} {V V':World} (h:TyS w W B0 b a len cap x y z u T V) (hw:w.heap.size≤B0) (hb0:b≠B0) {bs:List Value}
 (hbw:Lib.BuilderAt 89 5 B0 B0 (.pointer (some ⟨B0,0,none⟩)) bs V') (hb:Below B0 V V') (hk:∀ k o,V.heap[k]?=some o→k≠B0→(∀ cur z,o≠.cells cur 5 z)→V'.heap[k]?=some o) (e:bs=Lib.byteCells T'):TyS w W B0 b a len cap x y z u T' V':=by
 refine ⟨⟨⟨hk _ _ h.1.1.1 (by omega) (fun cur z e=>by cases e),h.1.1.2.trans (hb.mono hw)⟩,Or.inr (by rw [←e];exact hbw)⟩,h.2.1.trans ⟨hb.size,fun k o ho hc=>?_⟩,hk _ _ h.2.2.1 hb0 (fun cur z e=>by cases e),Nat.lt_of_lt_of_le h.2.2.2 hb.size⟩;by_cases hkb:k=B0
 · subst hkb;rcases h.1.2 with h1 | h1
   · obtain ⟨_,v,h2,_⟩:=h1;rw [h2] at ho;cases ho;cases hc
   · obtain ⟨_,v,h2,_⟩:=h1;rw [h2] at ho;cases ho;cases hc
 · exact hk k o ho hkb (fun cur z e=>by rw [e] at hc;cases hc)
def TyR (w W:World) (B0 b:Nat) (a:Option Addr) (len cap:Nat) (x y z u:Value) (T:List UInt8) (q:Rat) (V:World):Prop:=TyS w W B0 b a len cap x y z u T V∧Jf V (.agg #[x,y,z,u]) q
theorem TyR.below {w W:World} {B0 b:Nat} {a:Option Addr} {len cap:Nat} {x y z u:Value} {T:List UInt8} {q:Rat} {V V':World} (h:TyR w W B0 b a len cap x y z u T q V) (hb:Below V.heap.size V V'):TyR w W B0 b a len cap x y z u T q V':=⟨h.1.below hb,h.2.below hb⟩
theorem Xc (v:Value) (qs:List Rat) (w:World) (hp:Jk w v qs) (hs:Sqs qs) (hT:∀ m,(Yt (qs.drop m) m).length≤140737488355328) (htab:Jer w) :
 Calls Tryz.prog 13 #[v] w fun e w'=>e=.returned (.string ⟨(Jb9 qs).toArray⟩)∧Below w.heap.size w w':=by
 have hmx:Tryz.prog.follows .mixedOrders=true:=by kernel_rfl
 obtain ⟨u0,rfl,h⟩:=hp;obtain ⟨a,len,cap,rfl⟩:=h.form;obtain ⟨hl,hcap,hcm,hlm,s,t,aa,bb,ll,cc,kk,dd,hc⟩:=h.forms;have HL:=Ja hl;have HC:=Ja hc;have HS:=Ja hs;have HTL:=Ja hT;have HTB:=Ja htab;clear hc hl hs h hT htab;obtain ⟨W0,hW0⟩:∃ W0,((w.alloc (.cells #[.slice a len cap] 25)).alloc (.cells #[.pointer none,.slice none 0 0] 89)).alloc (.cells #[.slice a len cap] 23)=W0:=⟨_,rfl⟩;obtain ⟨B0,hB0e⟩:∃ B0,w.heap.size+1=B0:=⟨_,rfl⟩;have hN:W0.heap.size=B0+1+1:=by rw [←hW0,←hB0e];simp
 have x2:Boxed W0 (B0+1) 23 (.slice a len cap):=by
  have h1:=Boxed.new ((w.alloc (.cells #[.slice a len cap] 25)).alloc (.cells #[.pointer none,.slice none 0 0] 89)) 23 (.slice a len cap);rw [hW0] at h1;simpa [hB0e] using h1
 have x3:Below w.heap.size w W0:=by rw [←hW0];exact (((Below.refl _ w).alloc (Nat.le_refl _) _).alloc (by simp) _).alloc (by simp;omega) _
 have x5:Lib.IsBuilder 89 5 B0 B0 (Lib.byteCells (Yt (qs.drop (len - 0)) (len - 0))) W0:=by
  refine Or.inl ⟨Nat.le_refl _,.slice none 0 0,?_,?_,by simp [Value.ownBlock]⟩
  · rw [←hW0,←hB0e];have h1:=World.alloc_heap_new (w.alloc (.cells #[.slice a len cap] 25)) (.cells #[.pointer none,.slice none 0 0] 89);rw [World.size_alloc] at h1;exact (Below.heap_alloc _ _ _ (by simp)).trans h1
  · rw [List.drop_eq_nil_of_le (by have:=HL.out;omega)];exact ⟨rfl,Or.inl ⟨rfl,rfl⟩⟩
 have HW0:=Ja hW0;have HB0E:=Ja hB0e;have hwB:w.heap.size≤B0:=by omega
 clear hW0;refine (callsIn_wide (n:=3)).1 ?_;refine callsIn_of_wp_marks Tryz.func13 rfl trivial ?_ rfl;simp only [Tryz.ntmps13,List.size_toArray,List.length_cons,List.length_nil,Nat.reduceAdd,Nat.reduceSub,Array.replicate_succ,Array.replicate_zero,List.push_toArray,List.append_toArray,List.nil_append,List.cons_append];gi_wp2_with (refine ⟨trivial,?_⟩;gi_at_call 50;refine (Jds Fence.wide _ trivial rfl _ _ _ _).mono ?_;rintro e w' ⟨rfl,rfl⟩)
 rw [HW0.out];try simp only [HB0E.out]
 clear hB0e;refine XZ rfl (by omega) (gf:=94) (lb:=#[.pointer (some ⟨B0+1,0,none⟩)]) rfl trivial (enters_of Tryz.func94 (by kernel_rfl) rfl)
  (Jat Fence.wide _ trivial rfl (by omega) (B0+1) a len cap (fun j=>.bool (s j)) (fun j=>.slice (aa j) (ll j) (cc j)) (fun j=>.bool (t j)) (fun j=>.slice (bb j) (kk j) (dd j)) hlm) (fun _=>rfl)
  (TyI w B0 a len cap qs) (fun _ _ _=>False) (by rw [hN];exact Jrx w B0 a len cap qs hwB) (fun c s W W' row h=>h.elim) ⟨⟨x2,x3⟩,x5⟩ ?rd
  (fun k b=>{ tmps:=#[.agg #[.slice a len cap],.pointer (some ⟨w.heap.size,0,none⟩),.string ⟨#[]⟩,.pointer (some ⟨B0,0,none⟩),.int .i64 ((len:Int) - 1 - k),.pointer (some ⟨b,0,none⟩),.pointer (some ⟨w.heap.size,0,none⟩),.slice a len cap,.func (.func 94) #[] #[.pointer (some ⟨B0+1,0,none⟩)],.int .i64 ((len:Int) - 1 - k),.agg #[.bool (s (len - 1 - k)),.slice (aa (len - 1 - k)) (ll (len - 1 - k)) (cc (len - 1 - k)),.bool (t (len - 1 - k)),.slice (bb (len - 1 - k)) (kk (len - 1 - k)) (dd (len - 1 - k))],undef,undef,undef,undef,undef,undef,undef,undef,undef,undef,undef,undef],defers:=[] })
  (fun k=>.cells #[.bool (s (len - 1 - k)),.slice (aa (len - 1 - k)) (ll (len - 1 - k)) (cc (len - 1 - k)),.bool (t (len - 1 - k)),.slice (bb (len - 1 - k)) (kk (len - 1 - k)) (dd (len - 1 - k))] 38 (0,0)) ?assign ?body ?done ?stop
 case stop=>intro D c k W _ _ h;exact h.elim
 case rd=>
  intro k W M;have hB:=M.1.2;refine ⟨M.1.1.cell,fun hk=>?_⟩;obtain ⟨_,b,ea,hb,h1,h2,h3,h4⟩:=HC.out (len - 1 - k) (by omega);exact ⟨b,ea,(hB.cell (p:=⟨b,_,none⟩) hb).trans h1,(hB.cell (p:=⟨b,_,none⟩) hb).trans h2,(hB.cell (p:=⟨b,_,none⟩) hb).trans h3,(hB.cell (p:=⟨b,_,none⟩) hb).trans h4⟩
 case assign=>
  intro l k W K hK;unfold Jbg;gi_wp2;exact hK
 case done=>
  rintro D W hD ⟨⟨y1,y2⟩,y3⟩ hK;rw [show qs.drop (len - len)=qs from by rw [Nat.sub_self];rfl,Nat.sub_self] at y3;have hBsz:B0≤W.heap.size:=by have:=y1.lt;omega
  have HY:=Ja y3;have HLN:=Ja (Jp2 B0 B0 _ W y3);clear y3;by_cases hem:Yt qs 0=[]
  · have HTX:=Ja (show Jb9 qs=[48] by unfold Jb9;rw [if_pos hem]);rw [hem] at HLN;gi_wp2_with (refine ⟨trivial,?_⟩;gi_at_call 54;refine ((callsIn_wide (n:=_)).2 HLN.out).mono ?_;rintro e w6 ⟨rfl,hb6⟩)
    have hK6:w6.heap[D]?=some (.deferred (some [])):=(JW hb6).same D _ hK rfl;refine ⟨by simp,.inl ⟨_,_,rfl,run_takeDeferred hK6,?_⟩⟩;refine ⟨.string ⟨#[48]⟩,by simp [results,Tryz.results13,go_sem],by rw [HTX.out],?_⟩;exact below_grown (y2.trans (hb6.mono y2.size)) (grownBy_putObj' _ D (.deferred none)) (by omega)
  · have HTX:=Ja (show Jb9 qs=Yt qs 0 by unfold Jb9;rw [if_neg hem]);have hne:((Yt qs 0).length:Int)≠0:=by
     have:0<(Yt qs 0).length:=List.length_pos_iff.2 hem;omega
    have hnb:(((Yt qs 0).length:Int) == 0)=false:=by rw [beq_eq_false_iff_ne];exact hne
    have HST:=Ja (fun (V:World) (h:Below W.heap.size W V)=>Tryz.Builder_String_any_k B0 B0 (Yt qs 0) V (Lib.IsBuilderF.of (YP HY.out h)) (Nat.le_trans hBsz h.size));obtain ⟨n,hn⟩:∃ n,(Yt qs 0).length=n:=⟨_,rfl⟩;rw [hn] at HLN hnb hne;obtain ⟨ST,hST⟩:∃ S:ByteArray,⟨(Yt qs 0).toArray⟩=S:=⟨_,rfl⟩;rw [hST] at HST;have HSS:=Ja (show ⟨(Jb9 qs).toArray⟩=ST by rw [HTX.out];exact hST);clear hem hn hST HY;gi_wp2_with (first
     | (refine ⟨trivial,?_⟩;gi_at_call 54;refine ((callsIn_wide (n:=_)).2 HLN.out).mono ?_;clear HLN;rintro e w6 ⟨rfl,hb6⟩)
     | (refine ⟨trivial,?_⟩;gi_at_call 55;refine ((callsIn_wide (n:=_)).2 (HST.out _ hb6)).mono ?_;clear HST;rintro e w7 ⟨rfl,_,hb7,hk7⟩))
    have hK6:w6.heap[D]?=some (.deferred (some [])):=(JW hb6).same D _ hK rfl;have hK7:=hk7 D _ hK6 (fun e=>by cases e;omega) (fun c fz e=>by cases e);refine ⟨by simp,.inl ⟨_,_,rfl,run_takeDeferred hK7,?_⟩⟩;refine ⟨.string ST,by simp [results,Tryz.results13,go_sem],by rw [HSS.out],?_⟩;exact below_grown ((y2.trans (hb6.mono y2.size)).trans (hb7.mono hwB)) (grownBy_putObj' _ D (.deferred none)) (by omega)
 case body=>
  rintro l k b W ⟨⟨y1,y2⟩,y3⟩ hk hsz hbx hbb;have hm:len - 1 - k<len:=by omega
  obtain ⟨hi,_⟩:=HC.out (len - 1 - k) hm;have HI:=Ja (Jf.below hi y2);have e1:((len:Int) - 1 - k)=((len - 1 - k:Nat):Int):=by omega
  have ek:len - k=len - 1 - k+1:=by omega
  rw [e1];rw [ek] at y3;have HEK:=Ja (show len - (k+1)=len - 1 - k by omega);clear e1 hi ek;obtain ⟨m,hm0⟩:∃ m,len - 1 - k=m:=⟨_,rfl⟩;rw [hm0] at hbb HI hm y3 HEK ⊢;have HM:=Ja (show m<qs.length by have:=HL.out;omega);have HPD:=Ja (Jf9 qs HM.out);have HTM:=Ja (HTL.out m);have HSM:=Ja (HS.out.at m);have hmi:m≤1099511627776:=by omega
  clear hm0;have q0:Js W b 38 (.bool (s m)) (.slice (aa m) (ll m) (cc m)) (.bool (t m)) (.slice (bb m) (kk m) (dd m)):=hbb;obtain ⟨s1,hs1⟩:∃ x,s m=x:=⟨_,rfl⟩;obtain ⟨t1,ht1⟩:∃ x,t m=x:=⟨_,rfl⟩;obtain ⟨a1,ha1⟩:∃ x,aa m=x:=⟨_,rfl⟩;obtain ⟨b1,hb1⟩:∃ x,bb m=x:=⟨_,rfl⟩;obtain ⟨l1,hl1⟩:∃ x,ll m=x:=⟨_,rfl⟩;obtain ⟨c1,hc1⟩:∃ x,cc m=x:=⟨_,rfl⟩;obtain ⟨m1,hm1⟩:∃ x,kk m=x:=⟨_,rfl⟩;obtain ⟨d1,hd1⟩:∃ x,dd m=x:=⟨_,rfl⟩;rw [hs1,ht1,ha1,hb1,hl1,hc1,hm1,hd1] at q0 HI ⊢;obtain ⟨T,hTe⟩:∃ T,Yt (qs.drop (m+1)) (m+1)=T:=⟨_,rfl⟩;rw [hTe] at y3 HPD;obtain ⟨cm,hcm'⟩:∃ y,cf qs m=y:=⟨_,rfl⟩;rw [hcm'] at HI HPD HSM;have hS:TyS w W B0 b a len cap (.bool s1) (.slice a1 l1 c1) (.bool t1) (.slice b1 m1 d1) T W:=⟨⟨⟨y1,y2⟩,y3⟩,KeepsOthers.refl W,q0,by have:=y1.lt;omega⟩;have hbB:b≠B0:=by omega
  clear hs1 ht1 ha1 hb1 hl1 hc1 hm1 hd1 hTe hcm' y1 y2 y3 hbb hsz hbx;have k0:=q0.c0;have k1:=q0.c1;have k2:=q0.c2;have k3:=q0.c3;have HZ:=Ja (fun (n9:Nat)=>CallsIn.inRound l ((callsIn_wide (n:=n9)).2 (Jht _ cm W HI.out HSM.out)));by_cases hx:cm=0
  · rw [show decide (cm=0)=true from decide_eq_true hx] at HZ;have HX:=Ja hx;clear hx;gi_wp2_with (refine ⟨trivial,?_⟩;gi_at_call 51;refine (HZ.out _).mono ?_;rintro e w' ⟨rfl,hb'⟩)
    have hS':=hS.below hb';refine ⟨hS'.2.1.from _,hS'.1.1,?_⟩;rw [HEK.out,HPD.out,if_pos HX.out];exact hS'.1.2
  · rw [show decide (cm=0)=false from decide_eq_false hx] at HZ;have HX:=Ja hx;clear hx;gi_wp2_with (refine ⟨trivial,?_⟩;gi_at_call 51;refine (HZ.out _).mono ?_;clear HZ;rintro e w' ⟨rfl,hb'⟩)
    have hS':=hS.below hb';have HI':=Ja (HI.out.below hb');clear hS k0 k1 k2 k3 q0 HI;obtain ⟨n,hn⟩:∃ n,T.length=n:=⟨_,rfl⟩;obtain ⟨f,hf⟩:∃ f,T.isEmpty=f:=⟨_,rfl⟩;have hnf:((n:Int) == 0)=f:=by
     rw [←hf,←hn,Bool.eq_iff_iff,beq_iff_eq,List.isEmpty_iff_length_eq_zero];omega
    rw [if_neg HX.out,hf] at HPD;have HN:=Ja hn;have HTM2:=Ja (show T.length+(Xy cm m f).length≤140737488355328 by
     have:=HTM.out;rw [HPD.out,List.length_append] at this;exact this)
    have ST0:TyR w W B0 b a len cap (.bool s1) (.slice a1 l1 c1) (.bool t1) (.slice b1 m1 d1) T cm w'.drew:=TyR.below ⟨hS',HI'.out⟩ ((Below.refl _ w').drew);have HIW:=Ja (fun (V:World) (h:Below w.heap.size w V)=>JE HTB.out h);obtain ⟨TX,hTX⟩:∃ S:ByteArray,⟨(Xy cm m f).toArray⟩=S:=⟨_,rfl⟩;have HTX:=Ja hTX;have HZT:=Ja (show T.length+TX.size≤140737488355328 by rw [←hTX];show _+(Xy cm m f).toArray.size≤_;rw [List.size_toArray];exact HTM2.out);have HBC:=Ja (show Lib.byteCells T++Lib.strCells TX=Lib.byteCells (T++Xy cm m f) by rw [←hTX];simp [Lib.byteCells,Lib.strCells]);have HTT:=Ja (fun (V:World) (u:Value) (hu:Jf V u cm) (h:Below w.heap.size w V)=>Jlq u cm m f V hu HSM.out hmi (HIW.out V h));rw [hTX] at HTT;clear hS' hn hf hTX;refine JU hmx [[],[],[],[2],[0,1,3,2],[4,4]] (by kernel_rfl) (by decide)
     (fun D act V=>∃ (t14x t15x t16x t17x t18x t19x:Value),act={ tmps:=#[Value.agg #[Value.slice a len cap],.pointer (some ⟨w.heap.size,0,none⟩),Value.string { data:=#[] },.pointer (some ⟨B0,0,none⟩),Value.int IntKind.i64 ↑m,.pointer (some ⟨b,0,none⟩),.pointer (some ⟨w.heap.size,0,none⟩),Value.slice a len cap,Value.func (Fn.func 94) #[] #[.pointer (some ⟨B0+1,0,none⟩)],Value.int IntKind.i64 ↑m,Value.agg #[Value.bool s1,Value.slice a1 l1 c1,Value.bool t1,Value.slice b1 m1 d1],Value.agg #[Value.bool s1,Value.slice a1 l1 c1,Value.bool t1,Value.slice b1 m1 d1],Value.bool false,Value.bool true,t14x,t15x,t16x,t17x,t18x,t19x,undef,undef,undef],defers:=[] }∧Hid ((D 0=true→D 5=false→Jf V t14x cm)∧(D 1=true→t15x=.int .i64 (m:Int))∧(D 2=true→t16x=.int .i64 (n:Int))∧(D 3=true→t17x=.bool f)∧(D 4=true→t18x=.string TX)∧(D 5=true→True))∧Hid ((D 5=false→TyR w W B0 b a len cap (.bool s1) (.slice a1 l1 c1) (.bool t1) (.slice b1 m1 d1) (T) cm V)∧(D 5=true→TyS w W B0 b a len cap (.bool s1) (.slice a1 l1 c1) (.bool t1) (.slice b1 m1 d1) (T++Xy cm m f) V)))
     ⟨_,_,_,_,_,_,rfl,Ja ⟨by simp,by simp,by simp,by simp,by simp,by simp⟩,Ja ⟨fun _=>ST0,by simp⟩⟩ ?step1 ?fin1
    case step1=>
     rintro D act V i ds hcl hi hds hDi ⟨t14x,t15x,t16x,t17x,t18x,t19x,rfl,GG,SS0⟩;have hi6:i<6:=(List.getElem?_eq_some_iff.1 hi).1;obtain rfl | rfl | rfl | rfl | rfl | rfl:i=0∨i=1∨i=2∨i=3∨i=4∨i=5:=by omega
     all_goals
      simp only [List.getElem?_cons_zero,List.getElem?_cons_succ,Option.some.injEq] at hi;subst hi
     · have hf0:D 5=false:=by
        cases h:D 5 with
        | false=>rfl
        | true=>rw [(hcl 4 _ rfl (hcl 5 _ rfl h 4 (by simp)) 0 (by simp))] at hDi;cases hDi
       have hS0:=SS0.out.1 hf0;have e0:=hS0.1.2.2.1.c0;have e1:=hS0.1.2.2.1.c1;have e2:=hS0.1.2.2.1.c2;have e3:=hS0.1.2.2.1.c3;clear hds;refine wpOpIn_step rfl (fun K hK=>?_);go_simp;obtain ⟨_,G1,G2,G3,G4,_⟩:=GG.out;exact hK _ _ ⟨_,_,_,_,_,_,rfl,Ja ⟨fun _ _=>hS0.2,G1,G2,G3,G4,fun _=>trivial⟩,Ja ⟨SS0.out.1,SS0.out.2⟩⟩
     · have hf0:D 5=false:=by
        cases h:D 5 with
        | false=>rfl
        | true=>rw [(hcl 4 _ rfl (hcl 5 _ rfl h 4 (by simp)) 1 (by simp))] at hDi;cases hDi
       have hS0:=SS0.out.1 hf0;clear hds;refine wpOpIn_step rfl (fun K hK=>?_);go_simp;obtain ⟨G0,_,G2,G3,G4,_⟩:=GG.out;exact hK _ _ ⟨_,_,_,_,_,_,rfl,Ja ⟨G0,fun _=>rfl,G2,G3,G4,fun _=>trivial⟩,Ja ⟨SS0.out.1,SS0.out.2⟩⟩
     · have hf0:D 5=false:=by
        cases h:D 5 with
        | false=>rfl
        | true=>rw [(hcl 4 _ rfl (hcl 5 _ rfl h 4 (by simp)) 2 (by simp))] at hDi;cases hDi
       have hS0:=SS0.out.1 hf0;clear hds;have HC:=Ja (fun (n9:Nat)=>CallsIn.inRound l ((callsIn_wide (n:=n9)).2 (Jp2 B0 B0 T V hS0.1.1.2)));rw [HN.out] at HC;refine wpOpIn_step rfl (fun K hK=>?_);go_simp;gi_wp2_with (refine ⟨trivial,?_⟩;gi_at_call 54;refine (HC.out _).mono ?_;rintro e w5 ⟨rfl,hb5⟩)
       exact ⟨_,_,_,_,_,_,rfl,Ja ⟨fun h h2=>(GG.out.1 h h2).below hb5,GG.out.2.1,fun _=>rfl,GG.out.2.2.2.1,GG.out.2.2.2.2.1,fun _=>trivial⟩,Ja ⟨fun h=>(SS0.out.1 h).below hb5,fun h=>(SS0.out.2 h).below hb5⟩⟩
     · have hf0:D 5=false:=by
        cases h:D 5 with
        | false=>rfl
        | true=>rw [(hcl 4 _ rfl (hcl 5 _ rfl h 4 (by simp)) 3 (by simp))] at hDi;cases hDi
       have hS0:=SS0.out.1 hf0;obtain rfl:=GG.out.2.2.1 (hds 2 (by simp));clear hds;refine wpOpIn_step rfl (fun K hK=>?_);go_simp;exact hK _ _ ⟨_,_,_,_,_,_,rfl,Ja ⟨GG.out.1,GG.out.2.1,fun _=>rfl,fun _=>rfl,GG.out.2.2.2.2.1,fun _=>trivial⟩,Ja ⟨SS0.out.1,SS0.out.2⟩⟩
     · have hf0:D 5=false:=nyt hcl rfl (by simp) hDi;have hS0:=SS0.out.1 hf0;have h0:=GG.out.1 (hds 0 (by simp)) hf0;obtain rfl:=GG.out.2.1 (hds 1 (by simp));obtain rfl:=GG.out.2.2.2.1 (hds 3 (by simp));clear hds;have HC:=Ja (fun (n9:Nat)=>CallsIn.inRound l ((callsIn_wide (n:=n9)).2 (HTT.out V _ h0 hS0.1.1.1.2)));clear h0;refine wpOpIn_step rfl (fun K hK=>?_);go_simp;gi_wp2_with (refine ⟨trivial,?_⟩;gi_at_call 53;refine (HC.out _).mono ?_;rintro e w5 ⟨rfl,hb5⟩)
       exact ⟨_,_,_,_,_,_,rfl,Ja ⟨fun h h2=>(GG.out.1 h h2).below hb5,fun _=>rfl,GG.out.2.2.1,fun _=>rfl,fun _=>rfl,fun _=>trivial⟩,Ja ⟨fun h=>(SS0.out.1 h).below hb5,fun h=>(SS0.out.2 h).below hb5⟩⟩
     · have hS0:=SS0.out.1 hDi;obtain rfl:=GG.out.2.2.2.2.1 (hds 4 (by simp));clear hds;have HC:=Ja (fun (n9:Nat)=>CallsIn.inRound l ((callsIn_wide (n:=n9)).2 (Xo B0 B0 _ TX V hS0.1.1.2 (by rw [Lib.byteCells_length];exact HZT.out) (by have:=hS0.1.2.2.2;omega))));refine wpOpIn_step rfl (fun K hK=>?_);go_simp;gi_wp2_with (refine ⟨trivial,?_⟩;gi_at_call 52;refine (HC.out _).mono ?_;rintro e w5 ⟨⟨v5,rfl⟩,⟨hbw5,hb5⟩,hk5⟩)
       exact ⟨_,_,_,_,_,_,rfl,Ja ⟨fun _ h=>by simp at h,GG.out.2.1,GG.out.2.2.1,GG.out.2.2.2.1,fun _=>rfl,fun _=>trivial⟩,Ja ⟨fun h=>by simp at h,fun _=>hS0.1.write hwB hbB hbw5 hb5 hk5 HBC.out⟩⟩
    case fin1=>
     rintro D act V hDD ⟨t14x,t15x,t16x,t17x,t18x,t19x,rfl,GG,SS0⟩;have h2:=SS0.out.2 (hDD 5 (by decide));refine ⟨h2.2.1.from _,h2.1.1,?_⟩;rw [HEK.out,HPD.out];exact h2.1.2
end Go.Proofs.YtcahejkcdcjjgaaGreatDoor
