import Derived.Test.YtcahejkcdcjjgaaGreatDoorK28
set_option maxRecDepth 100000
set_option maxHeartbeats 16000000
namespace Go.Proofs.YtcahejkcdcjjgaaGreatDoor
open Go.RowKit Go.Shelf
attribute [local go_sem] Oper.semAt_some
abbrev Jg9(w:World):Prop:=Lib.TabIs Tryz.prog w "internal/strconv.uint64pow10" .u64 Lib.pow10Tab
theorem Jmo(n:Nat)(hn:n≤9223372036854775807)(w:World)(htab:Jg9 w):Calls Tryz.prog 58 #[.int .i64 (n:Int)] w fun e w'=>e=.returned (.string ⟨(YY n).toArray⟩)∧Below w.heap.size w w':=by
 refine(Tryz.strconv_Itoa n (by omega) (by omega) w htab).mono ?_;rintro e w' ⟨rfl,k,os,rfl⟩;refine⟨?_,Jcg w k os⟩;unfold Lib.itoa;rw[if_neg (by omega),Cq,Jgl]
theorem Juh(s:ByteArray)(w:World):Calls Tryz.prog 96 #[.string s,.string ⟨#[45]⟩] w fun e w'=>e=.returned (.tuple #[.string ⟨(JJ (Jd s)).toArray⟩,.bool (decide ((Jd s).head?=some 45))])∧Below w.heap.size w w':=by
 refine(Jka s w).mono ?_;rintro e w' ⟨rfl,rfl⟩;exact⟨rfl,Below.refl _ _⟩
theorem XY(a b:List UInt8):(⟨a.toArray⟩:ByteArray)++⟨b.toArray⟩=⟨(a++b).toArray⟩:=by
 apply ByteArray.ext;simp
theorem Jk1(i:Nat)(hi:i≤1099511627776)(w:World)(htab:Jg9 w):
 Calls Tryz.prog 97 #[.int .i64 (i:Int)] w fun e w'=>e=.returned (.string ⟨(X5 i).toArray⟩)∧Below w.heap.size w w':=by
 by_cases h0:i=0
 · subst h0;go_enter Tryz.func97,Tryz.ntmps97
   go_wp2;go_ret;exact⟨rfl,Below.refl _ _⟩
 · by_cases h1:i=1
   · subst h1;go_enter Tryz.func97,Tryz.ntmps97
     go_wp2;go_ret;exact⟨rfl,Below.refl _ _⟩
   · have H:=Ja (Jmo i (by omega) w htab);have e0:((i:Int)==0)=false:=by rw[beq_eq_false_iff_ne];omega
     have e1:((i:Int)==1)=false:=by rw[beq_eq_false_iff_ne];omega
     have HE:=Ja (show(⟨#[120,94]⟩:ByteArray)++⟨(YY i).toArray⟩=⟨(X5 i).toArray⟩by
      unfold X5;rw[if_neg h0,if_neg h1];exact XY [120,94] (YY i))
     have hz:(⟨(YY i).toArray⟩:ByteArray).size≤1000:=by
      show(YY i).toArray.size≤_;rw[An];have:=Jah i;have h3:(Jc B64 i).length≤1:=JG Je (by unfold B64;omega);omega
     obtain⟨S,hS⟩:∃S:ByteArray,⟨(YY i).toArray⟩=S:=⟨_,rfl⟩;rw[hS]at H HE hz;clear h0 h1 htab hS;go_enter Tryz.func97,Tryz.ntmps97
     go_wp2_with(go_at_call 58;refine H.o.mono ?_;clear H;rintro e w1 ⟨rfl,hb1⟩)
     go_ret;exact⟨by rw[←HE.o];rfl,hb1⟩
theorem Jil(q:Rat):JJ (JY q)=JY (Y3 q)∧decide ((JY q).head?=some 45)=decide (q<0):=by
 by_cases h:q<0
 · rw[Jkw h,Jo6 h];refine⟨rfl,?_⟩;rw[decide_eq_true h];rfl
 · rw[Jkx h];have h1:=Jg7 h;refine⟨by unfold JJ;rw[if_neg h1],by rw[decide_eq_false h1,decide_eq_false h]⟩
theorem Ju4(a b c:List UInt8):(⟨a.toArray⟩:ByteArray)++⟨b.toArray⟩++⟨c.toArray⟩=⟨(a++b++c).toArray⟩:=by rw[XY,XY]
theorem X6{X Y:ByteArray}(h:X=Y):Ending.returned (.string X)=.returned (.string Y):=by rw[h]
theorem Jmp(va:Value)(q:Rat)(i:Nat)(first:Bool)(w:World)(ha:Ji w va q)(hs:Sq q)(hi:i≤1099511627776)(htab:Jg9 w):
 Calls Tryz.prog 53 #[va,.int .i64 (i:Int),.bool first] w fun e w'=>e=.returned (.string ⟨(Xu q i first).toArray⟩)∧Below w.heap.size w w':=by
 obtain⟨s,a,l,c,t,b,k,d,rfl⟩:=ha.form;have b0:=JH.new w 38 (.bool s) (.slice a l c) (.bool t) (.slice b k d);have Qe:Below w.heap.size w (w.alloc (.cells #[.bool s,.slice a l c,.bool t,.slice b k d] 38)):=(Below.refl _ w).alloc (Aa _) _;obtain⟨W0,hW0⟩:=ex (w.alloc (.cells #[.bool s,.slice a l c,.bool t,.slice b k d] 38));rw[hW0]at b0 Qe;have Qf:=Ja hW0;have HT:=Ja (Jtb _ q W0 (ha.below Qe) hs (Jy htab Qe));have Qc:=Ja (fun(V:World)=>Juh ⟨(JY q).toArray⟩ V);rw[show Jd ⟨(JY q).toArray⟩=JY q from by simp[Jd],(Jil q).1,(Jil q).2]at Qc;have Qd:=Ja (fun(V:World) (h:Below W0.heap.size W0 V)=>Jk1 i hi V (Jy (Jy htab Qe) h));have k0:=b0.c0;have k1:=b0.c1;have k2:=b0.c2;have k3:=b0.c3;have Qg:(⟨(JY (Y3 q)).toArray⟩:ByteArray).size≤2000000000:=by
  show(JY (Y3 q)).toArray.size≤_;rw[An];obtain⟨e1,e2⟩:=Jcp q;unfold JY;have h1:=Jai (Y3 q).num;have h2:=Jai ((Y3 q).den:Int);have h3:=hs.num.words;have h4:=hs.den.words;rw[e1,Ch]at h1;rw[e2]at h2;rw[e1,e2];split
  · omega
  · rw[Ai,Al];omega
 have Qj:(⟨(X5 i).toArray⟩:ByteArray).size≤2000:=by
  show(X5 i).toArray.size≤_;rw[An];have h3:(Jc B64 i).length≤1:=JG Je (by unfold B64;omega);have:=Jah i;unfold X5;split
  · simp
  · split
    · simp
    · simp only[Al];omega
 obtain⟨ST,hST⟩:∃S:ByteArray,⟨(JY q).toArray⟩=S:=⟨_,rfl⟩;obtain⟨SP,hSP⟩:∃S:ByteArray,⟨(X5 i).toArray⟩=S:=⟨_,rfl⟩;obtain⟨bl,hbl⟩:=ex (decide (q<0));rw[hST]at HT Qc;rw[hbl]at Qc;rw[hSP]at Qd Qj;have Ql:=Ja hbl;have Qm:=Ja hSP;clear hW0 ha hs htab hST hbl;obtain⟨SZ,hSZ⟩:∃S:ByteArray,⟨(JY (Y3 q)).toArray⟩=S:=⟨_,rfl⟩;have Qi:=Ja hSZ;have Qb:=Ja (show(bl=true→(⟨#[45]⟩:ByteArray)++⟨(YK q i).toArray⟩++SP=⟨(Xu q i first).toArray⟩)∧(bl=false→first=true→(⟨(YK q i).toArray⟩:ByteArray)++SP=⟨(Xu q i first).toArray⟩)∧(bl=false→first=false→(⟨#[43]⟩:ByteArray)++⟨(YK q i).toArray⟩++SP=⟨(Xu q i first).toArray⟩)by
  rw[←Qm.o];have hb:=Ql.o;refine⟨fun h=>?_,fun h h2=>?_,fun h h2=>?_⟩
  · rw[h]at hb;unfold Xu XA;rw[if_pos (of_decide_eq_true hb)];exact Ju4 [45] _ _
  · rw[h]at hb;unfold Xu XA;rw[if_neg (of_decide_eq_false hb),h2];exact(XY _ _)
  · rw[h]at hb;unfold Xu XA;rw[if_neg (of_decide_eq_false hb),h2];exact Ju4 [43] _ _)
 by_cases h49:JY (Y3 q)=[49]
 · by_cases hi0:0<i
   · have Qk:(0:Int)<(i:Int):=by omega
     rw[show YK q i=[]from by unfold YK;rw[if_pos ⟨h49,hi0⟩]]at Qb;rw[h49]at Qc Qg;clear h49 hi0 hSZ Qi;cases bl
     · cases first
       · go_enter Tryz.func53,Tryz.ntmps53
         go_upto_region 1 with fail
         rw[Qf.o];go_wp2_with(first
          |(go_at_call 16;refine HT.o.mono ?_;clear HT;rintro e w1 ⟨rfl,hb1⟩)
          |(go_at_call 96;refine(Qc.o _).mono ?_;clear Qc;rintro e w2 ⟨rfl,hb2⟩;have Qa:=Below.then hb1 hb2)
          |(go_at_call 97;refine(Qd.o _ Qa).mono ?_;clear Qd;rintro e w3 ⟨rfl,hb3⟩))
         go_ret;refine⟨?_,Below.then Qe (Below.then Qa hb3)⟩;exact X6 (X:=(⟨#[43]⟩:ByteArray)++⟨#[]⟩++SP) (Qb.o.2.2 (by first|rfl|trivial) (by first|rfl|trivial))
       · go_enter Tryz.func53,Tryz.ntmps53
         go_upto_region 1 with fail
         rw[Qf.o];go_wp2_with(first
          |(go_at_call 16;refine HT.o.mono ?_;clear HT;rintro e w1 ⟨rfl,hb1⟩)
          |(go_at_call 96;refine(Qc.o _).mono ?_;clear Qc;rintro e w2 ⟨rfl,hb2⟩;have Qa:=Below.then hb1 hb2)
          |(go_at_call 97;refine(Qd.o _ Qa).mono ?_;clear Qd;rintro e w3 ⟨rfl,hb3⟩))
         go_ret;refine⟨?_,Below.then Qe (Below.then Qa hb3)⟩;exact X6 (X:=(⟨#[]⟩:ByteArray)++SP) (Qb.o.2.1 (by first|rfl|trivial) (by first|rfl|trivial))
     · go_enter Tryz.func53,Tryz.ntmps53
       go_upto_region 1 with fail
       rw[Qf.o];go_wp2_with(first
        |(go_at_call 16;refine HT.o.mono ?_;clear HT;rintro e w1 ⟨rfl,hb1⟩)
        |(go_at_call 96;refine(Qc.o _).mono ?_;clear Qc;rintro e w2 ⟨rfl,hb2⟩;have Qa:=Below.then hb1 hb2)
        |(go_at_call 97;refine(Qd.o _ Qa).mono ?_;clear Qd;rintro e w3 ⟨rfl,hb3⟩))
       go_ret;refine⟨?_,Below.then Qe (Below.then Qa hb3)⟩;exact X6 (X:=(⟨#[45]⟩:ByteArray)++⟨#[]⟩++SP) (Qb.o.1 (by first|rfl|trivial))
   · have Qk:¬(0:Int)<(i:Int):=by omega
     rw[show YK q i=[49]from by unfold YK;rw[if_neg (fun h=>hi0 h.2),h49]]at Qb;rw[h49]at Qc Qg;clear h49 hi0 hSZ Qi;cases bl
     · cases first
       · go_enter Tryz.func53,Tryz.ntmps53
         go_upto_region 1 with fail
         rw[Qf.o];go_wp2_with(first
          |(go_at_call 16;refine HT.o.mono ?_;clear HT;rintro e w1 ⟨rfl,hb1⟩)
          |(go_at_call 96;refine(Qc.o _).mono ?_;clear Qc;rintro e w2 ⟨rfl,hb2⟩;have Qa:=Below.then hb1 hb2)
          |(go_at_call 97;refine(Qd.o _ Qa).mono ?_;clear Qd;rintro e w3 ⟨rfl,hb3⟩))
         go_ret;refine⟨?_,Below.then Qe (Below.then Qa hb3)⟩;exact X6 (X:=(⟨#[43]⟩:ByteArray)++⟨#[49]⟩++SP) (Qb.o.2.2 (by first|rfl|trivial) (by first|rfl|trivial))
       · go_enter Tryz.func53,Tryz.ntmps53
         go_upto_region 1 with fail
         rw[Qf.o];go_wp2_with(first
          |(go_at_call 16;refine HT.o.mono ?_;clear HT;rintro e w1 ⟨rfl,hb1⟩)
          |(go_at_call 96;refine(Qc.o _).mono ?_;clear Qc;rintro e w2 ⟨rfl,hb2⟩;have Qa:=Below.then hb1 hb2)
          |(go_at_call 97;refine(Qd.o _ Qa).mono ?_;clear Qd;rintro e w3 ⟨rfl,hb3⟩))
         go_ret;refine⟨?_,Below.then Qe (Below.then Qa hb3)⟩;exact X6 (X:=(⟨#[49]⟩:ByteArray)++SP) (Qb.o.2.1 (by first|rfl|trivial) (by first|rfl|trivial))
     · go_enter Tryz.func53,Tryz.ntmps53
       go_upto_region 1 with fail
       rw[Qf.o];go_wp2_with(first
        |(go_at_call 16;refine HT.o.mono ?_;clear HT;rintro e w1 ⟨rfl,hb1⟩)
        |(go_at_call 96;refine(Qc.o _).mono ?_;clear Qc;rintro e w2 ⟨rfl,hb2⟩;have Qa:=Below.then hb1 hb2)
        |(go_at_call 97;refine(Qd.o _ Qa).mono ?_;clear Qd;rintro e w3 ⟨rfl,hb3⟩))
       go_ret;refine⟨?_,Below.then Qe (Below.then Qa hb3)⟩;exact X6 (X:=(⟨#[45]⟩:ByteArray)++⟨#[49]⟩++SP) (Qb.o.1 (by first|rfl|trivial))
 · have Qh:¬SZ=(⟨#[49]⟩:ByteArray):=by
    intro h;apply h49;rw[←hSZ]at h;have h2:=congrArg (fun b:ByteArray=>b.data.toList) h;simpa using h2
   have hne4:¬SZ.toList=[49]:=by
    rw[Xi,←hSZ];simpa using h49
   clear Qh;rw[show YK q i=JY (Y3 q)from by unfold YK;rw[if_neg (fun h=>h49 h.1)],hSZ]at Qb;rw[hSZ]at Qc Qg;clear h49 hSZ;cases bl
   · cases first
     · go_enter Tryz.func53,Tryz.ntmps53
       go_upto_region 1 with fail
       rw[Qf.o];go_wp2_with(first
        |(go_at_call 16;refine HT.o.mono ?_;clear HT;rintro e w1 ⟨rfl,hb1⟩)
        |(go_at_call 96;refine(Qc.o _).mono ?_;clear Qc;rintro e w2 ⟨rfl,hb2⟩;have Qa:=Below.then hb1 hb2)
        |(go_at_call 97;refine(Qd.o _ Qa).mono ?_;clear Qd;rintro e w3 ⟨rfl,hb3⟩))
       go_ret;refine⟨?_,Below.then Qe (Below.then Qa hb3)⟩;exact X6 (X:=(⟨#[43]⟩:ByteArray)++SZ++SP) (Qb.o.2.2 (by first|rfl|trivial) (by first|rfl|trivial))
     · go_enter Tryz.func53,Tryz.ntmps53
       go_upto_region 1 with fail
       rw[Qf.o];go_wp2_with(first
        |(go_at_call 16;refine HT.o.mono ?_;clear HT;rintro e w1 ⟨rfl,hb1⟩)
        |(go_at_call 96;refine(Qc.o _).mono ?_;clear Qc;rintro e w2 ⟨rfl,hb2⟩;have Qa:=Below.then hb1 hb2)
        |(go_at_call 97;refine(Qd.o _ Qa).mono ?_;clear Qd;rintro e w3 ⟨rfl,hb3⟩))
       go_ret;refine⟨?_,Below.then Qe (Below.then Qa hb3)⟩;exact X6 (X:=(SZ:ByteArray)++SP) (Qb.o.2.1 (by first|rfl|trivial) (by first|rfl|trivial))
   · go_enter Tryz.func53,Tryz.ntmps53
     go_upto_region 1 with fail
     rw[Qf.o];go_wp2_with(first
      |(go_at_call 16;refine HT.o.mono ?_;clear HT;rintro e w1 ⟨rfl,hb1⟩)
      |(go_at_call 96;refine(Qc.o _).mono ?_;clear Qc;rintro e w2 ⟨rfl,hb2⟩;have Qa:=Below.then hb1 hb2)
      |(go_at_call 97;refine(Qd.o _ Qa).mono ?_;clear Qd;rintro e w3 ⟨rfl,hb3⟩))
     go_ret;refine⟨?_,Below.then Qe (Below.then Qa hb3)⟩;exact X6 (X:=(⟨#[45]⟩:ByteArray)++SZ++SP) (Qb.o.1 (by first|rfl|trivial))
theorem Jq7(B b:Nat)(l:List UInt8)(w:World)(h:Lib.IsBuilder 89 5 B b (Lib.byteCells l) w):Calls Tryz.prog 54 #[.pointer (some ⟨b,0,none⟩)] w fun e w'=>e=.returned (.int .i64 (l.length:Int))∧Below w.heap.size w w':=by
 refine(Tryz.Builder_Len B b _ w h).mono ?_;rintro e w' ⟨rfl,rfl⟩;exact⟨by rw[Lib.byteCells_length],Below.refl _ _⟩
def TyI(w:World)(B0:Nat)(a:Option Addr)(len cap:Nat)(qs:List Rat)(k:Nat)(W:World):Prop:=
 (Boxed W (B0+1) 23 (.slice a len cap)∧Below w.heap.size w W)∧Lib.IsBuilder 89 5 B0 B0 (Lib.byteCells (JV (qs.drop (len-k)) (len-k))) W
theorem Jte(w:World)(B0:Nat)(a:Option Addr)(len cap:Nat)(qs:List Rat)(hB:w.heap.size≤B0):OwnFrom (B0+1+1) (TyI w B0 a len cap qs):=
 OwnFrom.and (OwnFrom.and (Own.from (boxed_own _ _ (fun _=>.slice a len cap)) _) (ownFrom_below (Aa _) (by omega))) (fun _ _ _ _ h hg hr=>Jb0 h hg hr)
def TyS(w W:World)(B0 b:Nat)(a:Option Addr)(len cap:Nat)(x y z u:Value)(T:List UInt8)(V:World):Prop:=
 ((Boxed V (B0+1) 23 (.slice a len cap)∧Below w.heap.size w V)∧Lib.IsBuilder 89 5 B0 B0 (Lib.byteCells T) V)∧KeepsOthers W V∧JH V b 38 x y z u∧B0+1<V.heap.size
theorem TyS.below{w W:World}{B0 b:Nat}{a:Option Addr}{len cap:Nat}{x y z u:Value}{T:List UInt8}{V V':World}(h:TyS w W B0 b a len cap x y z u T V)(hb:Below V.heap.size V V'):TyS w W B0 b a len cap x y z u T V':=
 ⟨⟨⟨boxed_below h.1.1.1 hb,h.1.1.2.trans (hb.mono h.1.1.2.size)⟩,Y5 h.1.2 hb⟩,h.2.1.trans (J6 hb),h.2.2.1.below hb,AA h.2.2.2 hb.size⟩
theorem TyS.write{w W:World}{B0 b:Nat}{a:Option Addr}{len cap:Nat}{x y z u:Value}{T T':List UInt8}{V V':World}(h:TyS w W B0 b a len cap x y z u T V)(hw:w.heap.size≤B0)(hb0:b≠B0){bs:List Value}
(hbw:Lib.BuilderAt 89 5 B0 B0 (.pointer (some ⟨B0,0,none⟩)) bs V')(hb:Below B0 V V')(hk:∀k o,V.heap[k]?=some o→k≠B0→(∀cur z,o≠.cells cur 5 z)→V'.heap[k]?=some o)(e:bs=Lib.byteCells T'):TyS w W B0 b a len cap x y z u T' V':=by
 refine⟨⟨⟨hk _ _ h.1.1.1 (by omega) (fun cur z e=>by cases e),h.1.1.2.trans (hb.mono hw)⟩,Or.inr (by rw[←e];exact hbw)⟩,h.2.1.trans ⟨hb.size,fun k o ho hc=>?_⟩,hk _ _ h.2.2.1 hb0 (fun cur z e=>by cases e),AA h.2.2.2 hb.size⟩;by_cases hkb:k=B0
 · subst hkb;rcases h.1.2 with h1|h1
   · obtain⟨_,v,h2,_⟩:=h1;rw[h2]at ho;cases ho;cases hc
   · obtain⟨_,v,h2,_⟩:=h1;rw[h2]at ho;cases ho;cases hc
 · exact hk k o ho hkb (fun cur z e=>by rw[e]at hc;cases hc)
def TyR(w W:World)(B0 b:Nat)(a:Option Addr)(len cap:Nat)(x y z u:Value)(T:List UInt8)(q:Rat)(V:World):Prop:=TyS w W B0 b a len cap x y z u T V∧Ji V (.agg #[x,y,z,u]) q
theorem TyR.below{w W:World}{B0 b:Nat}{a:Option Addr}{len cap:Nat}{x y z u:Value}{T:List UInt8}{q:Rat}{V V':World}(h:TyR w W B0 b a len cap x y z u T q V)(hb:Below V.heap.size V V'):TyR w W B0 b a len cap x y z u T q V':=⟨h.1.below hb,h.2.below hb⟩
theorem YL(v:Value)(qs:List Rat)(w:World)(hp:Ju w v qs)(hs:Sqs qs)(hT:∀m,(JV (qs.drop m) m).length≤140737488355328)(htab:Jg9 w):
 Calls Tryz.prog 13 #[v] w fun e w'=>e=.returned (.string ⟨(Xv qs).toArray⟩)∧Below w.heap.size w w':=by
 have Qx:Tryz.prog.follows .mixedOrders=true:=by kernel_rfl
 obtain⟨u0,rfl,h⟩:=hp;obtain⟨a,len,cap,rfl⟩:=h.form;obtain⟨hl,hcap,hcm,hlm,s,t,aa,bb,ll,cc,kk,dd,hc⟩:=h.forms;have HL:=Ja hl;have HC:=Ja hc;have HS:=Ja hs;have Ua:=Ja hT;have Qr:=Ja htab;clear hc hl hs h hT htab;obtain⟨W0,hW0⟩:=ex (((w.alloc (.cells #[.slice a len cap] 25)).alloc (.cells #[.pointer none,.slice none 0 0] 89)).alloc (.cells #[.slice a len cap] 23));obtain⟨B0,hB0e⟩:=ex (w.heap.size+1);have hN:W0.heap.size=B0+1+1:=by rw[←hW0,←hB0e];simp
 have x2:Boxed W0 (B0+1) 23 (.slice a len cap):=by
  have h1:=Boxed.new ((w.alloc (.cells #[.slice a len cap] 25)).alloc (.cells #[.pointer none,.slice none 0 0] 89)) 23 (.slice a len cap);rw[hW0]at h1;simpa[hB0e]using h1
 have x3:Below w.heap.size w W0:=by rw[←hW0];exact(((Below.refl _ w).alloc (Aa _) _).alloc (by simp) _).alloc (by simp;omega) _
 have x5:Lib.IsBuilder 89 5 B0 B0 (Lib.byteCells (JV (qs.drop (len-0)) (len-0))) W0:=by
  refine Or.inl ⟨Aa _,.slice none 0 0,?_,?_,by simp[Value.ownBlock]⟩
  · rw[←hW0,←hB0e];have h1:=World.alloc_heap_new (w.alloc (.cells #[.slice a len cap] 25)) (.cells #[.pointer none,.slice none 0 0] 89);rw[World.size_alloc]at h1;exact(Below.heap_alloc _ _ _ (by simp)).trans h1
  · rw[AG (by have:=HL.o;omega)];exact⟨rfl,Or.inl ⟨rfl,rfl⟩⟩
 have Qq:=Ja hW0;have Qh:=Ja hB0e;have Qm:w.heap.size≤B0:=by omega
 clear hW0;refine(callsIn_wide (n:=3)).1 ?_;refine callsIn_of_wp_marks Tryz.func13 rfl trivial ?_ rfl;simp only[Tryz.ntmps13,An,Al,AU,Nat.reduceAdd,Nat.reduceSub,AM,AN,AX,AR,Ap,Az];gi_wp2_with(refine⟨trivial,?_⟩;gi_at_call 50;refine(Jf0 Fence.wide _ trivial rfl _ _ _ _).mono ?_;rintro e w' ⟨rfl,rfl⟩)
 rw[Qq.o];try simp only[Qh.o]
 clear hB0e;refine Jfc rfl (by omega) (gf:=94) (lb:=#[.pointer (some ⟨B0+1,0,none⟩)]) rfl trivial (enters_of Tryz.func94 (by kernel_rfl) rfl)
  (Jdb Fence.wide _ trivial rfl (by omega) (B0+1) a len cap (fun j=>.bool (s j)) (fun j=>.slice (aa j) (ll j) (cc j)) (fun j=>.bool (t j)) (fun j=>.slice (bb j) (kk j) (dd j)) hlm) (fun _=>rfl)
  (TyI w B0 a len cap qs) (fun _ _ _=>False) (by rw[hN];exact Jte w B0 a len cap qs Qm) (fun c s W W' row h=>h.elim) ⟨⟨x2,x3⟩,x5⟩ ?rd
  (fun k b=>{ tmps:=#[.agg #[.slice a len cap],.pointer (some ⟨w.heap.size,0,none⟩),.string ⟨#[]⟩,.pointer (some ⟨B0,0,none⟩),.int .i64 ((len:Int)-1-k),.pointer (some ⟨b,0,none⟩),.pointer (some ⟨w.heap.size,0,none⟩),.slice a len cap,.func (.func 94) #[] #[.pointer (some ⟨B0+1,0,none⟩)],.int .i64 ((len:Int)-1-k),.agg #[.bool (s (len-1-k)),.slice (aa (len-1-k)) (ll (len-1-k)) (cc (len-1-k)),.bool (t (len-1-k)),.slice (bb (len-1-k)) (kk (len-1-k)) (dd (len-1-k))],undef,undef,undef,undef,undef,undef,undef,undef,undef,undef,undef,undef],defers:=[] })
  (fun k=>.cells #[.bool (s (len-1-k)),.slice (aa (len-1-k)) (ll (len-1-k)) (cc (len-1-k)),.bool (t (len-1-k)),.slice (bb (len-1-k)) (kk (len-1-k)) (dd (len-1-k))] 38 (0,0)) ?assign ?body ?done ?stop
 case stop=>intro D c k W _ _ h;exact h.elim
 case rd=>
  intro k W M;have hB:=M.1.2;refine⟨M.1.1.cell,fun hk=>?_⟩;obtain⟨_,b,ea,hb,h1,h2,h3,h4⟩:=HC.o (len-1-k) (by omega);exact⟨b,ea,(hB.cell (p:=⟨b,_,none⟩) hb).trans h1,(hB.cell (p:=⟨b,_,none⟩) hb).trans h2,(hB.cell (p:=⟨b,_,none⟩) hb).trans h3,(hB.cell (p:=⟨b,_,none⟩) hb).trans h4⟩
 case assign=>
  intro l k W K hK;unfold Jda;gi_wp2;exact hK
 case done=>
  rintro D W hD ⟨⟨y1,y2⟩,y3⟩ hK;rw[show qs.drop (len-len)=qs from by rw[A0];rfl,A0]at y3;have Qi:B0≤W.heap.size:=by have:=y1.lt;omega
  have HY:=Ja y3;have Qd:=Ja (Jq7 B0 B0 _ W y3);clear y3;by_cases hem:JV qs 0=[]
  · have Qe:=Ja (show Xv qs=[48]by unfold Xv;rw[if_pos hem]);rw[hem]at Qd;gi_wp2_with(refine⟨trivial,?_⟩;gi_at_call 54;refine((callsIn_wide (n:=_)).2 Qd.o).mono ?_;rintro e w6 ⟨rfl,hb6⟩)
    have Qk:w6.heap[D]?=some (.deferred (some [])):=(J6 hb6).same D _ hK rfl;refine⟨by simp,.inl ⟨_,_,rfl,run_takeDeferred Qk,?_⟩⟩;refine⟨.string ⟨#[48]⟩,by simp[results,Tryz.results13,go_sem],by rw[Qe.o],?_⟩;exact below_grown (y2.trans (hb6.mono y2.size)) (grownBy_putObj' _ D (.deferred none)) (by omega)
  · have Qe:=Ja (show Xv qs=JV qs 0 by unfold Xv;rw[if_neg hem]);have Qo:((JV qs 0).length:Int)≠0:=by
     have:0<(JV qs 0).length:=AH.2 hem;omega
    have Qt:(((JV qs 0).length:Int)==0)=false:=by rw[beq_eq_false_iff_ne];exact Qo
    have Qj:=Ja (fun(V:World) (h:Below W.heap.size W V)=>Tryz.Builder_String_any_k B0 B0 (JV qs 0) V (Lib.IsBuilderF.of (Y5 HY.o h)) (Aw Qi h.size));obtain⟨n,hn⟩:=ex ((JV qs 0).length);rw[hn]at Qd Qt Qo;obtain⟨ST,hST⟩:∃S:ByteArray,⟨(JV qs 0).toArray⟩=S:=⟨_,rfl⟩;rw[hST]at Qj;have Ub:=Ja (show⟨(Xv qs).toArray⟩=ST by rw[Qe.o];exact hST);clear hem hn hST HY;gi_wp2_with(first
     |(refine⟨trivial,?_⟩;gi_at_call 54;refine((callsIn_wide (n:=_)).2 Qd.o).mono ?_;clear Qd;rintro e w6 ⟨rfl,hb6⟩)
     |(refine⟨trivial,?_⟩;gi_at_call 55;refine((callsIn_wide (n:=_)).2 (Qj.o _ hb6)).mono ?_;clear Qj;rintro e w7 ⟨rfl,_,hb7,hk7⟩))
    have Qk:w6.heap[D]?=some (.deferred (some [])):=(J6 hb6).same D _ hK rfl;have Qw:=hk7 D _ Qk (fun e=>by cases e;omega) (fun c fz e=>by cases e);refine⟨by simp,.inl ⟨_,_,rfl,run_takeDeferred Qw,?_⟩⟩;refine⟨.string ST,by simp[results,Tryz.results13,go_sem],by rw[Ub.o],?_⟩;exact below_grown ((y2.trans (hb6.mono y2.size)).trans (hb7.mono Qm)) (grownBy_putObj' _ D (.deferred none)) (by omega)
 case body=>
  rintro l k b W ⟨⟨y1,y2⟩,y3⟩ hk hsz hbx hbb;have hm:len-1-k<len:=by omega
  obtain⟨hi,_⟩:=HC.o (len-1-k) hm;have HI:=Ja (Ji.below hi y2);have e1:((len:Int)-1-k)=((len-1-k:Nat):Int):=by omega
  have ek:len-k=len-1-k+1:=by omega
  rw[e1];rw[ek]at y3;have Qf:=Ja (show len-(k+1)=len-1-k by omega);clear e1 hi ek;obtain⟨m,hm0⟩:=ex (len-1-k);rw[hm0]at hbb HI hm y3 Qf ⊢;have HM:=Ja (show m<qs.length by have:=HL.o;omega);have Qc:=Ja (XK qs HM.o);have Qv:=Ja (Ua.o m);have Ql:=Ja (HS.o.at m);have Qp:m≤1099511627776:=by omega
  clear hm0;have q0:JH W b 38 (.bool (s m)) (.slice (aa m) (ll m) (cc m)) (.bool (t m)) (.slice (bb m) (kk m) (dd m)):=hbb;obtain⟨s1,hs1⟩:=ex (s m);obtain⟨t1,ht1⟩:=ex (t m);obtain⟨a1,ha1⟩:=ex (aa m);obtain⟨b1,hb1⟩:=ex (bb m);obtain⟨l1,hl1⟩:=ex (ll m);obtain⟨c1,hc1⟩:=ex (cc m);obtain⟨m1,hm1⟩:=ex (kk m);obtain⟨d1,hd1⟩:=ex (dd m);rw[hs1,ht1,ha1,hb1,hl1,hc1,hm1,hd1]at q0 HI ⊢;obtain⟨T,hTe⟩:=ex (JV (qs.drop (m+1)) (m+1));rw[hTe]at y3 Qc;obtain⟨cm,hcm'⟩:∃y,cf qs m=y:=⟨_,rfl⟩;rw[hcm']at HI Qc Ql;have hS:TyS w W B0 b a len cap (.bool s1) (.slice a1 l1 c1) (.bool t1) (.slice b1 m1 d1) T W:=⟨⟨⟨y1,y2⟩,y3⟩,KeepsOthers.refl W,q0,by have:=y1.lt;omega⟩;have Qy:b≠B0:=by omega
  clear hs1 ht1 ha1 hb1 hl1 hc1 hm1 hd1 hTe hcm' y1 y2 y3 hbb hsz hbx;have k0:=q0.c0;have k1:=q0.c1;have k2:=q0.c2;have k3:=q0.c3;have HZ:=Ja (fun(n9:Nat)=>CallsIn.inRound l ((callsIn_wide (n:=n9)).2 (Jij _ cm W HI.o Ql.o)));by_cases hx:cm=0
  · rw[show decide (cm=0)=true from decide_eq_true hx]at HZ;have HX:=Ja hx;clear hx;gi_wp2_with(refine⟨trivial,?_⟩;gi_at_call 51;refine(HZ.o _).mono ?_;rintro e w' ⟨rfl,hb'⟩)
    have hS':=hS.below hb';refine⟨hS'.2.1.from _,hS'.1.1,?_⟩;rw[Qf.o,Qc.o,if_pos HX.o];exact hS'.1.2
  · rw[show decide (cm=0)=false from decide_eq_false hx]at HZ;have HX:=Ja hx;clear hx;gi_wp2_with(refine⟨trivial,?_⟩;gi_at_call 51;refine(HZ.o _).mono ?_;clear HZ;rintro e w' ⟨rfl,hb'⟩)
    have hS':=hS.below hb';have HI':=Ja (HI.o.below hb');clear hS k0 k1 k2 k3 q0 HI;obtain⟨n,hn⟩:=ex (T.length);obtain⟨f,hf⟩:=ex (T.isEmpty);have hnf:((n:Int)==0)=f:=by
     rw[←hf,←hn,Ck,beq_iff_eq,List.isEmpty_iff_length_eq_zero];omega
    rw[if_neg HX.o,hf]at Qc;have HN:=Ja hn;have Qg:=Ja (show T.length+(Xu cm m f).length≤140737488355328 by
     have:=Qv.o;rw[Qc.o,Ai]at this;exact this)
    have Qs:TyR w W B0 b a len cap (.bool s1) (.slice a1 l1 c1) (.bool t1) (.slice b1 m1 d1) T cm w'.drew:=TyR.below ⟨hS',HI'.o⟩ ((Below.refl _ w').drew);have Qz:=Ja (fun(V:World) (h:Below w.heap.size w V)=>Jy Qr.o h);obtain⟨TX,hTX⟩:∃S:ByteArray,⟨(Xu cm m f).toArray⟩=S:=⟨_,rfl⟩;have Qe:=Ja hTX;have Uc:=Ja (show T.length+TX.size≤140737488355328 by rw[←hTX];show _+(Xu cm m f).toArray.size≤_;rw[An];exact Qg.o);have Qu:=Ja (show Lib.byteCells T++Lib.strCells TX=Lib.byteCells (T++Xu cm m f)by rw[←hTX];simp[Lib.byteCells,Lib.strCells]);have Qn:=Ja (fun(V:World) (u:Value) (hu:Ji V u cm) (h:Below w.heap.size w V)=>Jmp u cm m f V hu Ql.o Qp (Qz.o V h));rw[hTX]at Qn;clear hS' hn hf hTX;refine Yf Qx [[],[],[],[2],[0,1,3,2],[4,4]] (by kernel_rfl) (by decide)
     (fun D act V=>∃(ta tb tc td te tf:Value),act={ tmps:=#[.agg #[.slice a len cap],.pointer (some ⟨w.heap.size,0,none⟩),.string { data:=#[] },.pointer (some ⟨B0,0,none⟩),.int .i64 ↑m,.pointer (some ⟨b,0,none⟩),.pointer (some ⟨w.heap.size,0,none⟩),.slice a len cap,.func (.func 94) #[] #[.pointer (some ⟨B0+1,0,none⟩)],.int .i64 ↑m,.agg #[.bool s1,.slice a1 l1 c1,.bool t1,.slice b1 m1 d1],.agg #[.bool s1,.slice a1 l1 c1,.bool t1,.slice b1 m1 d1],.bool false,.bool true,ta,tb,tc,td,te,tf,undef,undef,undef],defers:=[] }∧Hid ((D 0=true→D 5=false→Ji V ta cm)∧(D 1=true→tb=.int .i64 (m:Int))∧(D 2=true→tc=.int .i64 (n:Int))∧(D 3=true→td=.bool f)∧(D 4=true→te=.string TX)∧(D 5=true→True))∧Hid ((D 5=false→TyR w W B0 b a len cap (.bool s1) (.slice a1 l1 c1) (.bool t1) (.slice b1 m1 d1) (T) cm V)∧(D 5=true→TyS w W B0 b a len cap (.bool s1) (.slice a1 l1 c1) (.bool t1) (.slice b1 m1 d1) (T++Xu cm m f) V)))
     ⟨_,_,_,_,_,_,rfl,Ja (by simp),Ja ⟨fun _=>Qs,by simp⟩⟩ ?step1 ?fin1
    case step1=>
     rintro D act V i ds hcl hi hds hDi ⟨ta,tb,tc,td,te,tf,rfl,GG,SS0⟩;have hi6:i<6:=(Ad.1 hi).1;obtain rfl|rfl|rfl|rfl|rfl|rfl:=Lt6 i (by omega)
     all_goals
      simp only[Aj,Ah,Ak]at hi;subst hi
     · have Qb:D 5=false:=by
        cases h:D 5 with
        |false=>rfl
        |true=>rw[(hcl 4 _ rfl (hcl 5 _ rfl h 4 (by simp)) 0 (by simp))]at hDi;cases hDi
       have Qa:=SS0.o.1 Qb;have e0:=Qa.1.2.2.1.c0;have e1:=Qa.1.2.2.1.c1;have e2:=Qa.1.2.2.1.c2;have e3:=Qa.1.2.2.1.c3;clear hds;refine wpOpIn_step rfl fun K hK=>?_;go_simp;obtain⟨_,G1,G2,G3,G4,_⟩:=GG.o;exact hK _ _ ⟨_,_,_,_,_,_,rfl,Ja ⟨fun _ _=>Qa.2,G1,G2,G3,G4,fun _=>trivial⟩,SS0⟩
     · have Qb:D 5=false:=by
        cases h:D 5 with
        |false=>rfl
        |true=>rw[(hcl 4 _ rfl (hcl 5 _ rfl h 4 (by simp)) 1 (by simp))]at hDi;cases hDi
       have Qa:=SS0.o.1 Qb;clear hds;refine wpOpIn_step rfl fun K hK=>?_;go_simp;obtain⟨G0,_,G2,G3,G4,_⟩:=GG.o;exact hK _ _ ⟨_,_,_,_,_,_,rfl,Ja ⟨G0,fun _=>rfl,G2,G3,G4,fun _=>trivial⟩,SS0⟩
     · have Qb:D 5=false:=by
        cases h:D 5 with
        |false=>rfl
        |true=>rw[(hcl 4 _ rfl (hcl 5 _ rfl h 4 (by simp)) 2 (by simp))]at hDi;cases hDi
       have Qa:=SS0.o.1 Qb;clear hds;have HC:=Ja (fun(n9:Nat)=>CallsIn.inRound l ((callsIn_wide (n:=n9)).2 (Jq7 B0 B0 T V Qa.1.1.2)));rw[HN.o]at HC;refine wpOpIn_step rfl fun K hK=>?_;go_simp;gi_wp2_with(refine⟨trivial,?_⟩;gi_at_call 54;refine(HC.o _).mono ?_;rintro e w5 ⟨rfl,hb5⟩)
       exact⟨_,_,_,_,_,_,rfl,Ja ⟨fun h h2=>(GG.o.1 h h2).below hb5,GG.o.2.1,fun _=>rfl,GG.o.2.2.2.1,GG.o.2.2.2.2.1,fun _=>trivial⟩,Ja ⟨fun h=>(SS0.o.1 h).below hb5,fun h=>(SS0.o.2 h).below hb5⟩⟩
     · have Qb:D 5=false:=by
        cases h:D 5 with
        |false=>rfl
        |true=>rw[(hcl 4 _ rfl (hcl 5 _ rfl h 4 (by simp)) 3 (by simp))]at hDi;cases hDi
       have Qa:=SS0.o.1 Qb;obtain rfl:=GG.o.2.2.1 (hds 2 (by simp));clear hds;refine wpOpIn_step rfl fun K hK=>?_;go_simp;exact hK _ _ ⟨_,_,_,_,_,_,rfl,Ja ⟨GG.o.1,GG.o.2.1,fun _=>rfl,fun _=>rfl,GG.o.2.2.2.2.1,fun _=>trivial⟩,SS0⟩
     · have Qb:D 5=false:=nyt hcl hDi;have Qa:=SS0.o.1 Qb;have h0:=GG.o.1 (hds 0 (by simp)) Qb;obtain rfl:=GG.o.2.1 (hds 1 (by simp));obtain rfl:=GG.o.2.2.2.1 (hds 3 (by simp));clear hds;have HC:=Ja (fun(n9:Nat)=>CallsIn.inRound l ((callsIn_wide (n:=n9)).2 (Qn.o V _ h0 Qa.1.1.1.2)));clear h0;refine wpOpIn_step rfl fun K hK=>?_;go_simp;gi_wp2_with(refine⟨trivial,?_⟩;gi_at_call 53;refine(HC.o _).mono ?_;rintro e w5 ⟨rfl,hb5⟩)
       exact⟨_,_,_,_,_,_,rfl,Ja ⟨fun h h2=>(GG.o.1 h h2).below hb5,fun _=>rfl,GG.o.2.2.1,fun _=>rfl,fun _=>rfl,fun _=>trivial⟩,Ja ⟨fun h=>(SS0.o.1 h).below hb5,fun h=>(SS0.o.2 h).below hb5⟩⟩
     · have Qa:=SS0.o.1 hDi;obtain rfl:=GG.o.2.2.2.2.1 (hds 4 (by simp));clear hds;have HC:=Ja (fun(n9:Nat)=>CallsIn.inRound l ((callsIn_wide (n:=n9)).2 (XP B0 B0 _ TX V Qa.1.1.2 (by rw[Lib.byteCells_length];exact Uc.o) (by have:=Qa.1.2.2.2;omega))));refine wpOpIn_step rfl fun K hK=>?_;go_simp;gi_wp2_with(refine⟨trivial,?_⟩;gi_at_call 52;refine(HC.o _).mono ?_;rintro e w5 ⟨⟨v5,rfl⟩,⟨hbw5,hb5⟩,hk5⟩)
       exact⟨_,_,_,_,_,_,rfl,Ja ⟨fun _ h=>by simp at h,GG.o.2.1,GG.o.2.2.1,GG.o.2.2.2.1,fun _=>rfl,fun _=>trivial⟩,Ja ⟨fun h=>by simp at h,fun _=>Qa.1.write Qm Qy hbw5 hb5 hk5 Qu.o⟩⟩
    case fin1=>
     rintro D act V hDD ⟨ta,tb,tc,td,te,tf,rfl,GG,SS0⟩;have h2:=SS0.o.2 (hDD 5 (by decide));refine⟨h2.2.1.from _,h2.1.1,?_⟩;rw[Qf.o,Qc.o];exact h2.1.2
