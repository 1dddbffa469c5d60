import Derived.Test.YtcahejkcdcjjgaaGreatDoorK35
import Derived.Test.YtcahejkcdcjjgaaGreatDoorK39
import Derived.Test.YtcahejkcdcjjgaaGreatDoorK28
import Derived.Test.YtcahejkcdcjjgaaGreatDoorK09
set_option maxRecDepth 100000
set_option maxHeartbeats 16000000
namespace Go.Proofs.YtcahejkcdcjjgaaGreatDoor
open Go.RowKit Go.Shelf
theorem Jqe {ds:List UInt8}:(nzL ds).head?=some 48→nzL ds=[48]:=by
 unfold nzL Lib.trimLeftB;split
 · intro _;rfl
 · rename_i he;intro h;exfalso
   have:=List.head?_dropWhile_not (p:=fun x:UInt8=>x == 48) (l:=ds);rw [h] at this;simp at this
theorem Jlv {ds:List UInt8} (h:ds.all isD=true) (c:UInt8) (hc:isD c=false):c ∉ nzL ds:=by
 intro hm;have:=List.all_eq_true.1 (Xd h).2.1 c hm;rw [hc] at this;cases this
theorem Jqf {ds:List UInt8} (h:ds.all isD=true):JF (nzL ds)=nzL ds∧¬ (nzL ds).head?=some 45:=by
 have h1:¬ (nzL ds).head?=some 45:=fun e=>Jlv h 45 (by decide) (List.mem_of_head? e);exact ⟨by unfold JF;rw [if_neg h1],h1⟩
theorem Jau {ds:List UInt8} (h:ds.all isD=true) (hl:ds.length≤12):good (nzL ds)=true∧YA (nzL ds)=(num ds:Int):=by
 obtain ⟨g1,g2,g3,g4,g5⟩:=Xd h;obtain ⟨t1,t2⟩:=Jqf h;refine ⟨?_,?_⟩
 · unfold good;rw [t1,g2];simp only [Bool.and_true,Bool.and_eq_true,decide_eq_true_eq,Bool.or_eq_true,Bool.not_eq_true',decide_eq_false_iff_not];refine ⟨⟨by omega,by simpa using g3⟩,?_⟩;by_cases h0:(nzL ds).head?=some 48
   · exact Or.inr (Jqe h0)
   · exact Or.inl h0
 · unfold YA;rw [if_neg t2,t1,g1]
theorem Jlw {l:List UInt8} (h:(47:UInt8) ∉ l):JJ l=l.length:=by
 unfold JJ;have e:=List.takeWhile_append_of_pos (p:=fun x:UInt8=>x != 47) (l₁:=l) (l₂:=[]) (fun c hc=>by simp;intro e;exact h (e ▸ hc));rw [List.append_nil] at e;rw [e];simp
theorem Jqg {a b:List UInt8} (h:(47:UInt8) ∉ a):JJ (a++47::b)=a.length:=by
 unfold JJ;rw [List.takeWhile_append_of_pos (fun c hc=>by simp;intro e;exact h (e ▸ hc)),List.takeWhile_cons_of_neg (by simp),List.append_nil]
theorem Jqh {ds:List UInt8} (h:ds.all isD=true) (hl:ds.length≤12):Jbi (nzL ds)=((num ds:Int):Rat):=by
 have h5:=(Xd h).2.2.2.2;unfold Jbi;rw [Jgg (by omega) (Jlw (Jlv h 47 (by decide))),if_pos (Jau h hl).1,(Jau h hl).2];rfl
theorem Jkj {ds es:List UInt8} (h:ds.all isD=true) (hl:ds.length≤12) (k:es.all isD=true) (kl:es.length≤12) (h0:num es≠0):Jbi (nzL ds++47::nzL es)=Rat.divInt (num ds) (num es):=by
 have h5:=(Xd h).2.2.2.2;have k5:=(Xd k).2.2.2.2;have hs:=Jqg (b:=nzL es) (Jlv h 47 (by decide));unfold Jbi;rw [Jgh (by simp;omega) (by rw [hs];simp),hs];rw [show (nzL ds++47::nzL es).take (nzL ds).length=nzL ds from by simp,show (nzL ds++47::nzL es).drop ((nzL ds).length+1)=nzL es from by rw [←List.drop_drop];simp];rw [(Jau h hl).2,(Jau k kl).2,if_pos ⟨(Jau h hl).1,(Jau k kl).1,by omega⟩];rfl
theorem Jqi {es:List UInt8} (h:es.all isD=true):nzL es=[48]↔num es=0:=by
 obtain ⟨g1,g2,g3,g4,g5⟩:=Xd h;refine ⟨fun e=>by rw [←g1,e];decide,fun e=>?_⟩;cases hz:nzL es with
 | nil=>exact absurd hz g3
 | cons c t=>
  cases t with
  | cons d t=>
   rw [hz] at g4;have:=g4 (by simp);omega
  | nil=>
   rw [hz] at g1 g2;have hb:=Yv (List.all_eq_true.1 g2 c (List.mem_cons_self ..));have:num [c]=c.toNat - 48:=by simp [num,dgs,val]
   have:c=48:=UInt8.toNat_inj.1 (by show c.toNat=48;omega);rw [this]
end Go.Proofs.YtcahejkcdcjjgaaGreatDoor
namespace Go.Proofs.YtcahejkcdcjjgaaGreatDoor
open Go.RowKit Go.Shelf
attribute [local go_sem] Oper.semAt_some
def CfB (w V:World) (R B:Nat) (s:ByteArray) (I:Int):Prop:=
 RcB V R s I∧Js V B 38 (.bool false) (.slice none 0 0) (.bool false) (.slice none 0 0)∧w.grownBy V (some R)∧w.heap.size≤B
section
variable {w V V':World} {R B:Nat} {s:ByteArray} {I I':Int}
theorem CfB.below (h:CfB w V R B s I) (hb:Below V.heap.size V V'):CfB w V' R B s I:=⟨h.1.below hb,h.2.1.below hb,Jg h.2.2.1 (JM hb _),h.2.2.2⟩
theorem CfB.rc (h:CfB w V R B s I) (hr:RcB V' R s I') (hg:V.grownBy V' (some R)):CfB w V' R B s I':=by
 have hne:B≠R:=Jcc h.1 h.2.1 (by decide);exact ⟨hr,(hg.block B h.2.1.lt (fun e=>hne (Option.some.inj e))).trans h.2.1,Jg h.2.2.1 hg,h.2.2.2⟩
theorem CfB.new (h:RcB w R s I):CfB w (w.alloc (.cells #[.bool false,.slice none 0 0,.bool false,.slice none 0 0] 38)) R w.heap.size s I:=by
 have ha:Below w.heap.size w (w.alloc (.cells #[.bool false,.slice none 0 0,.bool false,.slice none 0 0] 38)):=(Below.refl _ w).alloc (Nat.le_refl _) _;exact ⟨h.below ha,Js.new _ _ _ _ _ _,JM ha _,Nat.le_refl _⟩
theorem CfB.put (h:CfB w V R B s I) {x y z u:Value} {c:Rat} (hv:Jf V (.agg #[x,y,z,u]) c) :
 Jf (put4 V B x y z u) (.agg #[x,y,z,u]) c∧RcB (put4 V B x y z u) R s I∧w.grownBy (put4 V B x y z u) (some R):=by
 obtain ⟨h1,h2,h4,h5⟩:=h;have hne:R≠B:=fun e=>Jcc h1 h2 (by decide) e.symm;refine ⟨IsK.keep (r:=true) hv (fun _ _ _ g=>Row.put4 g h2 rfl rfl rfl rfl _ _ _ _),?_,JR (JR (JR (JR h4 h5 0 _) h5 1 _) h5 2 _) h5 3 _⟩;have g0:=(Below.heap_setCell V ⟨B,0,none⟩ x R hne).trans h1;have g1:=(Below.heap_setCell _ ⟨B,1,none⟩ y R hne).trans g0;have g2:=(Below.heap_setCell _ ⟨B,2,none⟩ z R hne).trans g1;exact (Below.heap_setCell _ ⟨B,3,none⟩ u R hne).trans g2
end
def Jtq (w:World) (R:Nat) (s:ByteArray) (I:Nat) (r:Ending) (w':World):Prop:=
 w.grownBy w' (some R)∧(∀ e q,Yr (Je s) I=.bad e q→r=.panicked [{ v:=Xw e q,recovered:=false }])∧(∀ c k,Yr (Je s) I=.ok c k→∃ u,r=.returned u∧Jf w' u c∧RcB w' R s (k:Int))
theorem Jr8 (R:Nat) (s:ByteArray) (I:Nat) (w:World) (h:RcB w R s I) (hI:I≤s.size) (hs:s.size≤300) :
 Calls Tryz.prog 155 #[.pointer (some ⟨R,0,none⟩)] w fun r w'=>Jtq w R s I r w':=by
 have hC0:=CfB.new h;obtain ⟨W0,hW0⟩:∃ W0,w.alloc (.cells #[.bool false,.slice none 0 0,.bool false,.slice none 0 0] 38)=W0:=⟨_,rfl⟩;obtain ⟨B,hB⟩:∃ B,w.heap.size=B:=⟨_,rfl⟩;rw [hW0,hB] at hC0;have HW0:=Ja hW0;have HB:=Ja hB;have HC0:=Ja hC0;have HN1:=Ja (Jeb R s I W0 hC0.1 hI hs);have HF:=Ja (fun (e q:Int) (V:World)=>Jdu (.pointer (some ⟨R,0,none⟩)) e q V);clear h hW0 hB hC0;cases hn:YO (Je s) I with
 | bad e0 q0=>
  have HC:=Ja (show Yr (Je s) I=.bad e0 q0 by unfold Yr;rw [hn]);have HNN:=Ja hn;clear hn;go_enter Tryz.func155,Tryz.ntmps155
  go_upto_region 1 with fail
  rw [HW0.out,HB.out];go_wp2_with (go_at_call 182;refine HN1.out.mono ?_;clear HN1;rintro e w1 ⟨hg1,hb1,_⟩;obtain rfl:=hb1 _ _ HNN.out;have HG1:=Ja (Jg HC0.out.2.2.1 hg1);clear hg1 hb1)
  refine ⟨rfl,HG1.out,fun e q he=>?_,fun c k he=>?_⟩
  · rw [HC.out] at he;cases he;rfl
  · rw [HC.out] at he;cases he
 | ok a0 k0=>
  obtain ⟨ds,p0⟩:=a0;have hok:=Ja5 (by rw [Jm];exact hI) hn;have HOK:=Ja hok;have hk0:k0≤s.size:=by have:=hok.2.2.2.2.1;rwa [Jm] at this
  have HNN:=Ja hn;obtain ⟨b,hb⟩:∃ b,b=YJ (Je s) (skB (Je s) k0) 47:=⟨_,rfl⟩;have HX:=Ja (fun (V:World) (hh:RcB V R s (k0:Int))=>YL R s k0 47 V hh hk0 hs b hb);obtain ⟨j,hj⟩:∃ j,skB (Je s) k0=j:=⟨_,rfl⟩;rw [hj] at HX hb;have HJ:=Ja hj;obtain ⟨SD,hSD⟩:∃ S:ByteArray,⟨(nzL ds).toArray⟩=S:=⟨_,rfl⟩;have HSD:=Ja hSD;have hszD:SD.size≤13:=by
   rw [←hSD];show (nzL ds).toArray.size≤13;rw [List.size_toArray];have:=(Xd hok.2.2.2.2.2.2.2.2).2.2.2.2;have:=hok.2.2.2.2.2.2.2.1;have:=hok.2.2.2.2.2.1;omega
  clear hn hj hSD hok;cases b with
  | false=>
   have HC:=Ja (show Yr (Je s) I=.ok ((num ds:Int):Rat) j by unfold Yr;rw [HNN.out];simp [HJ.out,←hb]);have HPR:=Ja (fun (S:ByteArray) (V:World)=>Jgk S V);have HV2:=Ja (trivial:True);have HV:=Ja (show Jbi (Je SD)=((num ds:Int):Rat) by rw [←HSD.out];have e:=HOK.out;rw [show Je ⟨(nzL ds).toArray⟩=nzL ds from by simp [Je]];exact Jqh e.2.2.2.2.2.2.2.2 (by omega));clear hb;go_enter Tryz.func155,Tryz.ntmps155
   go_upto_region 1 with fail
   rw [HW0.out,HB.out];go_upto_region 8 with (first
    | (go_at_call 182;refine HN1.out.mono ?_;clear HN1;rintro e w1 ⟨hg1,_,hb1⟩;obtain ⟨rfl,hr1⟩:=hb1 _ _ _ HNN.out;rw [HSD.out];have HC1:=Ja (HC0.out.rc hr1 hg1);clear hg1 hb1 hr1)
    | (go_at_call 120;refine (HX.out _ HC1.out.1).mono ?_;clear HX;rintro e w2 ⟨rfl,hr2,hg2⟩;have HC2:=Ja (HC1.out.rc hr2 hg2);clear hr2 hg2)
    | (go_at_call 63;refine (HPR.out _ _).mono ?_;clear HPR;rintro e w5 ⟨u5,rfl,hu5,hq5⟩;(first | rw [HV.out] at hu5 | rw [HV2.out] at hu5);have HC5:=Ja (HC2.out.below hq5);clear hq5;obtain ⟨s9,a9,l9,c9,t9,b9,k9,d9,rfl⟩:=hu5.form;have HU5:=Ja hu5;clear hu5))
   have hN:=Js.new w5 38 (.bool s9) (.slice a9 l9 c9) (.bool t9) (.slice b9 k9 d9);have hA:Below w5.heap.size w5 (w5.alloc (.cells #[.bool s9,.slice a9 l9 c9,.bool t9,.slice b9 k9 d9] 38)):=(Below.refl _ w5).alloc (Nat.le_refl _) _;have hC6:=HC5.out.below hA;have hP:=hC6.put (HU5.out.below hA);have hQ:=hC6.2.1.put (.bool s9) (.slice a9 l9 c9) (.bool t9) (.slice b9 k9 d9);obtain ⟨W6,hW6⟩:∃ W,w5.alloc (.cells #[.bool s9,.slice a9 l9 c9,.bool t9,.slice b9 k9 d9] 38)=W:=⟨_,rfl⟩;obtain ⟨B6,hB6⟩:∃ B,w5.heap.size=B:=⟨_,rfl⟩;rw [hW6] at hN hC6 hP hQ;rw [hB6] at hN;rw [hW6,hB6];have e0:=hN.c0;have e1:=hN.c1;have e2:=hN.c2;have e3:=hN.c3;have g0:=hC6.2.1.f0;have g1:=hC6.2.1.f1;have g2:=hC6.2.1.f2;have g3:=hC6.2.1.f3;have r0:=hC6.2.1.c0;have r1:=hC6.2.1.c1;have r2:=hC6.2.1.c2;have r3:=hC6.2.1.c3;have HP:=Ja hP;clear hA hN hC6 hP hQ hW6 hB6;go_wp2_with fail
   refine bodyPost_ret (v:=.agg #[.bool s9,.slice a9 l9 c9,.bool t9,.slice b9 k9 d9]) (by simp [results,Tryz.results155,go_sem,r0,r1,r2,r3]) rfl ⟨HP.out.2.2,fun e q he=>?_,fun c k he=>?_⟩
   · rw [HC.out] at he;cases he
   · rw [HC.out] at he;cases he;exact ⟨_,rfl,HP.out.1,HP.out.2.1⟩
  | true=>
   have hj1:j+1≤s.size:=by have:=Yk hb.symm;rw [Jm] at this;omega
   have HNU:=Ja (fun (V:World) (hh:RcB V R s ((j+1:Nat):Int))=>Jeb R s (j+1) V hh hj1 hs);have HCF:=Ja (show Yr (Je s) I=(match YO (Je s) (j+1) with | .bad e p=>.bad e p | .ok (es,p) m=>if num es=0 then .bad 4 p else .ok (Rat.divInt (num ds) (num es)) m) by
    unfold Yr;rw [HNN.out];simp only [HJ.out];rw [if_pos hb.symm];rcases YO (Je s) (j+1) with ⟨e,p⟩ | ⟨⟨es,p⟩,k⟩ <;> rfl)
   clear hb;cases hm:YO (Je s) (j+1) with
   | bad e1 q1=>
    rw [hm] at HCF;have HMM:=Ja hm;clear hm;go_enter Tryz.func155,Tryz.ntmps155
    go_upto_region 1 with fail
    rw [HW0.out,HB.out];go_wp2_with (first
     | (go_at_call 182;refine HN1.out.mono ?_;clear HN1;rintro e w1 ⟨hg1,_,hb1⟩;obtain ⟨rfl,hr1⟩:=hb1 _ _ _ HNN.out;rw [HSD.out];have HC1:=Ja (HC0.out.rc hr1 hg1);clear hg1 hb1 hr1)
     | (go_at_call 120;refine (HX.out _ HC1.out.1).mono ?_;clear HX;rintro e w2 ⟨rfl,hr2,hg2⟩;have HC2:=Ja (HC1.out.rc hr2 hg2);clear hr2 hg2)
     | (go_at_call 182;refine (HNU.out _ HC2.out.1).mono ?_;clear HNU;rintro e w3 ⟨hg3,hb3,_⟩;obtain rfl:=hb3 _ _ HMM.out;have HG3:=Ja (Jg HC2.out.2.2.1 hg3);clear hg3 hb3))
    refine ⟨rfl,HG3.out,fun e q he=>?_,fun c k he=>?_⟩
    · rw [HCF.out] at he;cases he;rfl
    · rw [HCF.out] at he;cases he
   | ok a1 k1=>
    obtain ⟨es,p1⟩:=a1;rw [hm] at HCF;have HMM:=Ja hm;have mok:=Ja5 (by rw [Jm];exact hj1) hm;have MOK:=Ja mok;have hZ:=Jqi mok.2.2.2.2.2.2.2.2;obtain ⟨SE,hSE⟩:∃ S:ByteArray,⟨(nzL es).toArray⟩=S:=⟨_,rfl⟩;have HSE:=Ja hSE;have hszE:SE.size≤13:=by
     rw [←hSE];show (nzL es).toArray.size≤13;rw [List.size_toArray];have:=(Xd mok.2.2.2.2.2.2.2.2).2.2.2.2;have:=mok.2.2.2.2.2.2.2.1;have:=mok.2.2.2.2.2.1;omega
    clear hm mok;by_cases h0:num es=0
    · have hSE1:SE=⟨#[48]⟩:=by rw [←hSE,hZ.2 h0]
      have HC:=Ja (show Yr (Je s) I=.bad 4 p1 by rw [HCF.out];simp [h0]);clear hSE hZ h0;subst hSE1;go_enter Tryz.func155,Tryz.ntmps155
      go_upto_region 1 with fail
      rw [HW0.out,HB.out];go_wp2_with (first
       | (go_at_call 182;refine HN1.out.mono ?_;clear HN1;rintro e w1 ⟨hg1,_,hb1⟩;obtain ⟨rfl,hr1⟩:=hb1 _ _ _ HNN.out;rw [HSD.out];have HC1:=Ja (HC0.out.rc hr1 hg1);clear hg1 hb1 hr1)
       | (go_at_call 120;refine (HX.out _ HC1.out.1).mono ?_;clear HX;rintro e w2 ⟨rfl,hr2,hg2⟩;have HC2:=Ja (HC1.out.rc hr2 hg2);clear hr2 hg2)
       | (go_at_call 182;refine (HNU.out _ HC2.out.1).mono ?_;clear HNU;rintro e w3 ⟨hg3,_,hb3⟩;obtain ⟨rfl,hr3⟩:=hb3 _ _ _ HMM.out;rw [HSE.out];have HC3:=Ja (HC2.out.rc hr3 hg3);clear hg3 hb3 hr3)
       | (go_at_call 123;refine (HF.out _ _ _).mono ?_;clear HF;rintro e w4 ⟨rfl,rfl⟩))
      refine ⟨rfl,HC3.out.2.2.1,fun e q he=>?_,fun c k he=>?_⟩
      · rw [HC.out] at he;cases he;rfl
      · rw [HC.out] at he;cases he
    · have hne4:¬ SE.toList=[48]:=by
       rw [Jcr,←hSE];exact fun e=>h0 (hZ.1 (by simpa using e))
      have hne5:(SE.toList == [48])=false:=beq_eq_false_iff_ne.2 hne4;have HC:=Ja (show Yr (Je s) I=.ok (Rat.divInt (num ds) (num es)) k1 by rw [HCF.out];simp [h0]);have HPR:=Ja (fun (S:ByteArray) (V:World)=>Jgk S V);have HV:=Ja (show Jbi (Je (SD++(⟨#[47]⟩++SE)))=Rat.divInt (num ds) (num es) by
       rw [←HSD.out,←HSE.out];have e:=HOK.out;have f:=MOK.out;rw [show (⟨(nzL ds).toArray⟩:ByteArray)++(⟨#[47]⟩++⟨(nzL es).toArray⟩)=⟨(nzL ds++47::nzL es).toArray⟩ from by rw [show (⟨#[47]⟩:ByteArray)=⟨([47]:List UInt8).toArray⟩ from rfl,Jcq,Jcq];rfl];rw [show Je ⟨(nzL ds++47::nzL es).toArray⟩=nzL ds++47::nzL es from by simp [Je]];exact Jkj e.2.2.2.2.2.2.2.2 (by omega) f.2.2.2.2.2.2.2.2 (by omega) h0)
      have HV2:=Ja (show Jbi (Je (SD++⟨#[47]⟩++SE))=Rat.divInt (num ds) (num es) by
       rw [←HSD.out,←HSE.out];have e:=HOK.out;have f:=MOK.out;rw [Jf7,show Je ⟨(nzL ds++47::nzL es).toArray⟩=nzL ds++47::nzL es from by simp [Je]];exact Jkj e.2.2.2.2.2.2.2.2 (by omega) f.2.2.2.2.2.2.2.2 (by omega) h0)
      clear hSE hZ h0;go_enter Tryz.func155,Tryz.ntmps155
      go_upto_region 1 with fail
      rw [HW0.out,HB.out];go_upto_region 8 with (first
       | (go_at_call 182;refine HN1.out.mono ?_;clear HN1;rintro e w1 ⟨hg1,_,hb1⟩;obtain ⟨rfl,hr1⟩:=hb1 _ _ _ HNN.out;rw [HSD.out];have HC1:=Ja (HC0.out.rc hr1 hg1);clear hg1 hb1 hr1)
       | (go_at_call 120;refine (HX.out _ HC1.out.1).mono ?_;clear HX;rintro e w2 ⟨rfl,hr2,hg2⟩;have HC2:=Ja (HC1.out.rc hr2 hg2);clear hr2 hg2)
       | (go_at_call 182;refine (HNU.out _ HC2.out.1).mono ?_;clear HNU;rintro e w3 ⟨hg3,_,hb3⟩;obtain ⟨rfl,hr3⟩:=hb3 _ _ _ HMM.out;rw [HSE.out];have HC3:=Ja (HC2.out.rc hr3 hg3);clear hg3 hb3 hr3)
       | (go_at_call 63;refine (HPR.out _ _).mono ?_;clear HPR;rintro e w5 ⟨u5,rfl,hu5,hq5⟩;(first | rw [HV.out] at hu5 | rw [HV2.out] at hu5);have HC5:=Ja (HC3.out.below hq5);clear hq5;obtain ⟨s9,a9,l9,c9,t9,b9,k9,d9,rfl⟩:=hu5.form;have HU5:=Ja hu5;clear hu5))
      have hN:=Js.new w5 38 (.bool s9) (.slice a9 l9 c9) (.bool t9) (.slice b9 k9 d9);have hA:Below w5.heap.size w5 (w5.alloc (.cells #[.bool s9,.slice a9 l9 c9,.bool t9,.slice b9 k9 d9] 38)):=(Below.refl _ w5).alloc (Nat.le_refl _) _;have hC6:=HC5.out.below hA;have hP:=hC6.put (HU5.out.below hA);have hQ:=hC6.2.1.put (.bool s9) (.slice a9 l9 c9) (.bool t9) (.slice b9 k9 d9);obtain ⟨W6,hW6⟩:∃ W,w5.alloc (.cells #[.bool s9,.slice a9 l9 c9,.bool t9,.slice b9 k9 d9] 38)=W:=⟨_,rfl⟩;obtain ⟨B6,hB6⟩:∃ B,w5.heap.size=B:=⟨_,rfl⟩;rw [hW6] at hN hC6 hP hQ;rw [hB6] at hN;rw [hW6,hB6];have e0:=hN.c0;have e1:=hN.c1;have e2:=hN.c2;have e3:=hN.c3;have g0:=hC6.2.1.f0;have g1:=hC6.2.1.f1;have g2:=hC6.2.1.f2;have g3:=hC6.2.1.f3;have r0:=hC6.2.1.c0;have r1:=hC6.2.1.c1;have r2:=hC6.2.1.c2;have r3:=hC6.2.1.c3;have HP:=Ja hP;clear hA hN hC6 hP hQ hW6 hB6;go_wp2_with fail
      refine bodyPost_ret (v:=.agg #[.bool s9,.slice a9 l9 c9,.bool t9,.slice b9 k9 d9]) (by simp [results,Tryz.results155,go_sem,r0,r1,r2,r3]) rfl ⟨HP.out.2.2,fun e q he=>?_,fun c k he=>?_⟩
      · rw [HC.out] at he;cases he
      · rw [HC.out] at he;cases he;exact ⟨_,rfl,HP.out.1,HP.out.2.1⟩
end Go.Proofs.YtcahejkcdcjjgaaGreatDoor
namespace Go.Proofs.YtcahejkcdcjjgaaGreatDoor
open Go.RowKit Go.Shelf
def TcB (w V:World) (R B C:Nat) (s:ByteArray) (I:Int) (c:Rat):Prop:=
 CfB w V R B s I∧(∃ s9 a9 l9 c9 t9 b9 k9 d9,Js V C 38 (.bool s9) (.slice a9 l9 c9) (.bool t9) (.slice b9 k9 d9)∧Jf V (.agg #[.bool s9,.slice a9 l9 c9,.bool t9,.slice b9 k9 d9]) c)∧B<C
section
variable {w V V':World} {R B C:Nat} {s:ByteArray} {I I':Int} {c:Rat}
theorem TcB.below (h:TcB w V R B C s I c) (hb:Below V.heap.size V V'):TcB w V' R B C s I c:=by
 obtain ⟨h1,⟨s9,a9,l9,c9,t9,b9,k9,d9,h2,h3⟩,h4⟩:=h;exact ⟨h1.below hb,⟨s9,a9,l9,c9,t9,b9,k9,d9,h2.below hb,h3.below hb⟩,h4⟩
theorem TcB.rc (h:TcB w V R B C s I c) (hr:RcB V' R s I') (hg:V.grownBy V' (some R)):TcB w V' R B C s I' c:=by
 obtain ⟨h1,⟨s9,a9,l9,c9,t9,b9,k9,d9,h2,h3⟩,h4⟩:=h;have hne:C≠R:=Jcc h1.1 h2 (by decide);exact ⟨h1.rc hr hg,⟨s9,a9,l9,c9,t9,b9,k9,d9,(hg.block C h2.lt (fun e=>hne (Option.some.inj e))).trans h2,IsK.keep (r:=true) h3 (Jlt h1.1 hg)⟩,h4⟩
theorem TcB.new (h:CfB w V R B s I) (hlt:B<V.heap.size) {s9:Bool} {a9:Option Addr} {l9 c9:Nat} {t9:Bool} {b9:Option Addr} {k9 d9:Nat} (hv:Jf V (.agg #[.bool s9,.slice a9 l9 c9,.bool t9,.slice b9 k9 d9]) c) :
 TcB w (V.alloc (.cells #[.bool s9,.slice a9 l9 c9,.bool t9,.slice b9 k9 d9] 38)) R B V.heap.size s I c:=by
 have ha:Below V.heap.size V (V.alloc (.cells #[.bool s9,.slice a9 l9 c9,.bool t9,.slice b9 k9 d9] 38)):=(Below.refl _ V).alloc (Nat.le_refl _) _;exact ⟨h.below ha,⟨s9,a9,l9,c9,t9,b9,k9,d9,Js.new _ _ _ _ _ _,hv.below ha⟩,hlt⟩
theorem TcB.put (h:TcB w V R B C s I c) {s9:Bool} {a9:Option Addr} {l9 c9:Nat} {t9:Bool} {b9:Option Addr} {k9 d9:Nat} {c':Rat} (hv:Jf V (.agg #[.bool s9,.slice a9 l9 c9,.bool t9,.slice b9 k9 d9]) c') :
 TcB w (put4 V C (.bool s9) (.slice a9 l9 c9) (.bool t9) (.slice b9 k9 d9)) R B C s I c':=by
 obtain ⟨⟨h1,h2,h3,h4⟩,⟨s8,a8,l8,c8,t8,b8,k8,d8,h5,h6⟩,h7⟩:=h;have hne:R≠C:=fun e=>Jcc h1 h5 (by decide) e.symm;have hC:w.heap.size≤C:=by omega
 refine ⟨⟨?_,h2.putFar (by omega) _ _ _ _,JR (JR (JR (JR h3 hC 0 _) hC 1 _) hC 2 _) hC 3 _,h4⟩,⟨s9,a9,l9,c9,t9,b9,k9,d9,h5.put _ _ _ _,IsK.keep (r:=true) hv (fun _ _ _ g=>Row.put4 g h5 rfl rfl rfl rfl _ _ _ _)⟩,h7⟩;have g0:=(Below.heap_setCell V ⟨C,0,none⟩ (.bool s9) R hne).trans h1;have g1:=(Below.heap_setCell _ ⟨C,1,none⟩ (.slice a9 l9 c9) R hne).trans g0;have g2:=(Below.heap_setCell _ ⟨C,2,none⟩ (.bool t9) R hne).trans g1;exact (Below.heap_setCell _ ⟨C,3,none⟩ (.slice b9 k9 d9) R hne).trans g2
end
def Jtr (w:World) (R:Nat) (s:ByteArray) (I:Nat) (r:Ending) (w':World):Prop:=
 w.grownBy w' (some R)∧(∀ e q,Yc (Je s) I=.bad e q→r=.panicked [{ v:=Xw e q,recovered:=false }])∧(∀ c n k,Yc (Je s) I=.ok (c,n) k→∃ u,r=.returned (.tuple #[u,.int .i64 (n:Int)])∧Jf w' u c∧RcB w' R s (k:Int))
end Go.Proofs.YtcahejkcdcjjgaaGreatDoor
namespace Go.Proofs.YtcahejkcdcjjgaaGreatDoor
open Go.RowKit Go.Shelf
attribute [local go_sem] Oper.semAt_some
def TxB (w V:World) (R B C:Nat) (s:ByteArray) (I:Int) (x y z u:Value) (c:Rat):Prop:=CfB w V R B s I∧Js V C 38 x y z u∧Jf V (.agg #[x,y,z,u]) c∧B<C
def FxB (w V:World) (R B:Nat) (s:ByteArray) (I:Int) (x y z u:Value) (c:Rat):Prop:=Js V B 38 x y z u∧Jf V (.agg #[x,y,z,u]) c∧RcB V R s I∧w.grownBy V (some R)
theorem TxB.below {w V V':World} {R B C:Nat} {s:ByteArray} {I:Int} {x y z u:Value} {c:Rat} (h:TxB w V R B C s I x y z u c) (hb:Below V.heap.size V V'):TxB w V' R B C s I x y z u c:=⟨h.1.below hb,h.2.1.below hb,h.2.2.1.below hb,h.2.2.2⟩
theorem TxB.rc {w V V':World} {R B C:Nat} {s:ByteArray} {I I':Int} {x y z u:Value} {c:Rat} (h:TxB w V R B C s I x y z u c) (hr:RcB V' R s I') (hg:V.grownBy V' (some R)):TxB w V' R B C s I' x y z u c:=by
 have hne:C≠R:=Jcc h.1.1 h.2.1 (by decide);exact ⟨h.1.rc hr hg,(hg.block C h.2.1.lt (fun e=>hne (Option.some.inj e))).trans h.2.1,IsK.keep (r:=true) h.2.2.1 (Jlt h.1.1 hg),h.2.2.2⟩
theorem TxB.put {w V:World} {R B C:Nat} {s:ByteArray} {I:Int} {x y z u:Value} {c:Rat} (h:TxB w V R B C s I x y z u c):FxB w (put4 V B x y z u) R B s I x y z u c:=
 ⟨h.1.2.1.put _ _ _ _,(h.1.put h.2.2.1).1,(h.1.put h.2.2.1).2.1,(h.1.put h.2.2.1).2.2⟩
theorem TcB.cells {w V:World} {R B C:Nat} {s:ByteArray} {I:Int} {c:Rat} (h:TcB w V R B C s I c):∃ s9 a9 l9 c9 t9 b9 k9 d9,TxB w V R B C s I (.bool s9) (.slice a9 l9 c9) (.bool t9) (.slice b9 k9 d9) c:=by
 obtain ⟨h1,⟨s9,a9,l9,c9,t9,b9,k9,d9,h2,h3⟩,h4⟩:=h;exact ⟨s9,a9,l9,c9,t9,b9,k9,d9,h1,h2,h3,h4⟩
theorem TxB.drew {w V:World} {R B C:Nat} {s:ByteArray} {I:Int} {x y z u:Value} {c:Rat} (h:TxB w V R B C s I x y z u c):TxB w V.drew R B C s I x y z u c:=h.below ((Below.refl _ V).drew)
theorem Jmz (R:Nat) (s:ByteArray) (I:Nat) (w:World) (h:RcB w R s I) (hI:I≤s.size) (hs:s.size≤300) :
 Calls Tryz.prog 121 #[.pointer (some ⟨R,0,none⟩)] w fun r w'=>Jtr w R s I r w':=by
 have hmx:Tryz.prog.follows .mixedOrders=true:=by kernel_rfl
 have hC0:=CfB.new h;have hlt0:w.heap.size<(w.alloc (.cells #[.bool false,.slice none 0 0,.bool false,.slice none 0 0] 38)).heap.size:=hC0.2.1.lt;obtain ⟨W0,hW0⟩:∃ W0,w.alloc (.cells #[.bool false,.slice none 0 0,.bool false,.slice none 0 0] 38)=W0:=⟨_,rfl⟩;obtain ⟨B,hB⟩:∃ B,w.heap.size=B:=⟨_,rfl⟩;rw [hW0] at hlt0;rw [hW0,hB] at hC0;rw [hB] at hlt0;have HW0:=Ja hW0;have HB:=Ja hB;have HC0:=Ja hC0;have HL0:=Ja hlt0;have HF:=Ja (fun (e q:Int) (V:World)=>Jdu (.pointer (some ⟨R,0,none⟩)) e q V);have HWR:=Ja (M3.Jca 1 (by omega) (by omega) W0);clear h hW0 hB hC0 hlt0;go_enter Tryz.func121,Tryz.ntmps121
 go_upto_region 1 with fail
 rw [HW0.out,HB.out];go_upto_region 2 with (go_at_call 77;refine HWR.out.mono ?_;clear HWR;rintro e w1 ⟨u1,rfl,hu1,hq1⟩;obtain ⟨s9,a9,l9,c9,t9,b9,k9,d9,rfl⟩:=hu1.form)
 have hT:=TcB.new (HC0.out.below hq1) (Nat.lt_of_lt_of_le HL0.out hq1.size) hu1;obtain ⟨W1,hW1⟩:∃ W,w1.alloc (.cells #[.bool s9,.slice a9 l9 c9,.bool t9,.slice b9 k9 d9] 38)=W:=⟨_,rfl⟩;obtain ⟨C,hC⟩:∃ C,w1.heap.size=C:=⟨_,rfl⟩;rw [hW1,hC] at hT;rw [hW1,hC];have HT:=Ja (show TcB w W1 R B C s I 1 from hT);clear hT hW1 hC hu1 hq1;have HAD:=Ja (Jh1 R s I W1 HT.out.1.1 hI hs);obtain ⟨J,hJ⟩:∃ J,skB (Je s) I=J:=⟨_,rfl⟩;rw [hJ] at HAD;have HJ:=Ja hJ;have hJs:J≤s.size:=by rw [←hJ,←Jm];exact Y5 (by rw [Jm];exact hI)
 clear hJ;cases hdg:Jah (Je s) J with
 | false=>
  rw [hdg] at HAD;have HTS:=Ja (show Yc (Je s) I=if YJ (Je s) J 120 then (match Jaa (Je s) (J+1) with | .bad e p=>.bad e p | .ok n m=>.ok (1,n) m) else .bad 2 J by
   unfold Yc;rw [HJ.out,hdg];simp only [Bool.false_eq_true,if_false];split
   · cases Jaa (Je s) (J+1) <;> rfl
   · rfl)
  have HKK:=Ja (show skB (Je s) J=J by rw [←HJ.out];exact Jcb _ _);clear hdg;obtain ⟨b,hb⟩:∃ b,b=YJ (Je s) (skB (Je s) J) 120:=⟨_,rfl⟩;have HX:=Ja (fun (V:World) (hh:RcB V R s (J:Int))=>YL R s J 120 V hh hJs hs b hb);rw [HKK.out] at HX hb;cases b with
  | false=>
   have HTT:=Ja (show Yc (Je s) I=.bad 2 J by rw [HTS.out,←hb];rfl);clear hb;go_wp2_with (first
    | (go_at_call 154;refine HAD.out.mono ?_;clear HAD;rintro e w2 ⟨rfl,hr2,hg2⟩;have HT2:=Ja (HT.out.rc hr2 hg2);clear hr2 hg2)
    | (go_at_call 120;refine (HX.out _ HT2.out.1.1).mono ?_;clear HX;rintro e w3 ⟨rfl,hr3,hg3⟩;have c13:=hr3.c1;have HT3:=Ja (HT2.out.rc hr3 hg3);clear hr3 hg3)
    | (go_at_call 123;refine (HF.out _ _ _).mono ?_;clear HF;rintro e w4 ⟨rfl,rfl⟩))
   refine ⟨rfl,HT3.out.1.2.2.1,fun e q he=>?_,fun c n k he=>?_⟩
   · rw [HTT.out] at he;cases he;rfl
   · rw [HTT.out] at he;cases he
  | true=>
   have hJ1:J+1≤s.size:=by have:=Yk hb.symm;rw [Jm] at this;omega
   have HTS2:=Ja (show Yc (Je s) I=(match Jaa (Je s) (J+1) with | .bad e p=>.bad e p | .ok n m=>.ok (1,n) m) by rw [HTS.out,if_pos hb.symm]);clear hb HTS;go_upto_region 6 with (first
    | (go_at_call 154;refine HAD.out.mono ?_;clear HAD;rintro e w2 ⟨rfl,hr2,hg2⟩;have HT2:=Ja (HT.out.rc hr2 hg2);clear hr2 hg2)
    | (go_at_call 120;refine (HX.out _ HT2.out.1.1).mono ?_;clear HX;rintro e w3 ⟨rfl,hr3,hg3⟩;have HT3:=Ja (HT2.out.rc hr3 hg3);clear hr3 hg3))
   obtain ⟨s8,a8,l8,c8,t8,b8,k8,d8,hTX⟩:=HT3.out.cells;have ST0:=hTX.drew;clear hTX;cases hp:Jaa (Je s) (J+1) with
   | bad e5 q5=>
    have HPK:=Ja (fun (V:World) (hh:RcB V R s ((J+1:Nat):Int))=>(Jdw R s (J+1) V hh hJ1 hs).mono (fun r w5 (h5:Jqa V R s (J+1) r w5)=>(⟨h5.2.1 _ _ hp,h5.1⟩:r=.panicked [{ v:=Xw (e5:Int) (q5:Int),recovered:=false }]∧V.grownBy w5 (some R))));have HTT:=Ja (show Yc (Je s) I=.bad e5 q5 by rw [HTS2.out,hp]);clear hp HTS2;have ST1:=ST0;replace ST0:∃ I9:Int,(false=false→I9=((J+1:Nat):Int))∧TxB w w3.drew R B C s I9 (.bool s8) (.slice a8 l8 c8) (.bool t8) (.slice b8 k8 d8) (1):=⟨_,fun _=>rfl,ST1⟩;clear ST1;refine Jj hmx [[],[],[1],[0,2,0],[2,3,0,1,2,3]] (by kernel_rfl) (by decide)
     (fun D act V=>∃ (t15x t16x t17x t3x:Value),act={ tmps:=#[.pointer (some ⟨R,0,none⟩),undef,.pointer (some ⟨B,0,none⟩),t3x,.pointer (some ⟨C,0,none⟩),Value.bool false,Value.agg #[Value.bool s9,Value.slice a9 l9 c9,Value.bool t9,Value.slice b9 k9 d9],.pointer (some ⟨R,0,none⟩),Value.bool false,Value.bool false,undef,undef,Value.bool true,.pointer (some ⟨R,0,none⟩),Value.bool true,t15x,t16x,t17x,undef,undef,undef,undef,undef,undef,undef,undef,undef,undef],defers:=[] }∧Hid ((D 0=true→t15x=.agg #[.bool s8,.slice a8 l8 c8,.bool t8,.slice b8 k8 d8])∧(D 1=true→t16x=.pointer (some ⟨R,0,none⟩))∧(D 2=true→False)∧(D 4=true→True))∧Hid ((D 3=false→∃ I9:Int,(D 2=false→I9=((J+1:Nat):Int))∧TxB w V R B C s I9 (.bool s8) (.slice a8 l8 c8) (.bool t8) (.slice b8 k8 d8) (1))∧(D 3=true→True)))
     ⟨_,_,_,_,rfl,Ja ⟨by simp,by simp,by simp,by simp⟩,Ja ⟨fun _=>ST0,by simp⟩⟩ ?step1 ?fin1
    case step1=>
     rintro D act V i ds hcl hi hds hDi ⟨t15x,t16x,t17x,t3x,rfl,GG,SS0⟩;have hi6:i<5:=(List.getElem?_eq_some_iff.1 hi).1;obtain rfl | rfl | rfl | rfl | rfl:i=0∨i=1∨i=2∨i=3∨i=4:=by omega
     all_goals
      simp only [List.getElem?_cons_zero,List.getElem?_cons_succ,Option.some.injEq] at hi;subst hi
     · have hf0:D 3=false:=nyt hcl rfl (by simp) hDi;have hS0:=SS0.out.1 hf0;obtain ⟨I9,hI1,hT⟩:=hS0;have e0:=hT.2.1.c0;have e1:=hT.2.1.c1;have e2:=hT.2.1.c2;have e3:=hT.2.1.c3;clear hds;refine Jb rfl rfl (fun K hK=>?_);go_simp;exact hK _ _ ⟨_,_,_,_,rfl,Ja ⟨fun _=>rfl,GG.out.2.1,GG.out.2.2.1,fun _=>trivial⟩,Ja ⟨SS0.out.1,SS0.out.2⟩⟩
     · have hf0:D 3=false:=by
        cases h:D 3 with
        | false=>rfl
        | true=>rw [(hcl 2 _ rfl (hcl 3 _ rfl h 2 (by simp)) 1 (by simp))] at hDi;cases hDi
       have hS0:=SS0.out.1 hf0;clear hds;refine Jb rfl rfl (fun K hK=>?_);go_simp;exact hK _ _ ⟨_,_,_,_,rfl,Ja ⟨GG.out.1,fun _=>rfl,GG.out.2.2.1,fun _=>trivial⟩,Ja ⟨SS0.out.1,SS0.out.2⟩⟩
     · have hf0:D 3=false:=nyt hcl rfl (by simp) hDi;have hS0:=SS0.out.1 hf0;obtain rfl:=GG.out.2.1 (hds 1 (by simp));obtain ⟨I9,hI1,hT⟩:=hS0;obtain rfl:=hI1 hDi;clear hds;have HC:=Ja (HPK.out V hT.1.1);refine Jb rfl rfl (fun K hK=>?_);go_simp;go_wp2_with (go_at_call 156;refine HC.out.mono ?_;rintro e w5 ⟨rfl,hg5⟩)
       exact ⟨rfl,Jg hT.1.2.2.1 hg5,(fun e q he=>by rw [HTT.out] at he;cases he;rfl),(fun c n k he=>by rw [HTT.out] at he;cases he)⟩
     · have hS0:=SS0.out.1 hDi;have NV:False:=GG.out.2.2.1 (hds 2 (by simp));clear hds;exact (NV).elim
     · have NV:False:=GG.out.2.2.1 (hds 2 (by simp));clear hds;exact (NV).elim
    case fin1=>
     rintro D act V hDD ⟨t15x,t16x,t17x,t3x,rfl,GG,SS0⟩;exact (GG.out.2.2.1 (hDD 2 (by decide))).elim
   | ok n5 m5=>
    have HPK:=Ja (fun (V:World) (hh:RcB V R s ((J+1:Nat):Int))=>(Jdw R s (J+1) V hh hJ1 hs).mono (fun r w5 (h5:Jqa V R s (J+1) r w5)=>(⟨(h5.2.2 _ _ hp).1,(h5.2.2 _ _ hp).2,h5.1⟩:r=.returned (.int .i64 (n5:Int))∧RcB w5 R s (m5:Int)∧V.grownBy w5 (some R))));have HTT:=Ja (show Yc (Je s) I=.ok (1,n5) m5 by rw [HTS2.out,hp]);clear hp HTS2;have ST1:=ST0;replace ST0:∃ I9:Int,(false=false→I9=((J+1:Nat):Int))∧(false=true→I9=(m5:Int))∧TxB w w3.drew R B C s I9 (.bool s8) (.slice a8 l8 c8) (.bool t8) (.slice b8 k8 d8) (1):=⟨_,fun _=>rfl,(fun h=>by cases h),ST1⟩;clear ST1;refine Jj hmx [[],[],[1],[0,2,0],[2,3,0,1,2,3]] (by kernel_rfl) (by decide)
     (fun D act V=>∃ (t15x t16x t17x t3x:Value),act={ tmps:=#[.pointer (some ⟨R,0,none⟩),undef,.pointer (some ⟨B,0,none⟩),t3x,.pointer (some ⟨C,0,none⟩),Value.bool false,Value.agg #[Value.bool s9,Value.slice a9 l9 c9,Value.bool t9,Value.slice b9 k9 d9],.pointer (some ⟨R,0,none⟩),Value.bool false,Value.bool false,undef,undef,Value.bool true,.pointer (some ⟨R,0,none⟩),Value.bool true,t15x,t16x,t17x,undef,undef,undef,undef,undef,undef,undef,undef,undef,undef],defers:=[] }∧Hid ((D 0=true→t15x=.agg #[.bool s8,.slice a8 l8 c8,.bool t8,.slice b8 k8 d8])∧(D 1=true→t16x=.pointer (some ⟨R,0,none⟩))∧(D 2=true→t17x=.int .i64 (n5:Int))∧(D 4=true→t3x=.int .i64 (n5:Int)))∧Hid ((D 3=false→∃ I9:Int,(D 2=false→I9=((J+1:Nat):Int))∧(D 2=true→I9=(m5:Int))∧TxB w V R B C s I9 (.bool s8) (.slice a8 l8 c8) (.bool t8) (.slice b8 k8 d8) (1))∧(D 3=true→FxB w V R B s (m5:Int) (.bool s8) (.slice a8 l8 c8) (.bool t8) (.slice b8 k8 d8) (1))))
     ⟨_,_,_,_,rfl,Ja ⟨by simp,by simp,by simp,by simp⟩,Ja ⟨fun _=>ST0,by simp⟩⟩ ?step2 ?fin2
    case step2=>
     rintro D act V i ds hcl hi hds hDi ⟨t15x,t16x,t17x,t3x,rfl,GG,SS0⟩;have hi6:i<5:=(List.getElem?_eq_some_iff.1 hi).1;obtain rfl | rfl | rfl | rfl | rfl:i=0∨i=1∨i=2∨i=3∨i=4:=by omega
     all_goals
      simp only [List.getElem?_cons_zero,List.getElem?_cons_succ,Option.some.injEq] at hi;subst hi
     · have hf0:D 3=false:=nyt hcl rfl (by simp) hDi;have hS0:=SS0.out.1 hf0;obtain ⟨I9,hI1,hI2,hT⟩:=hS0;have e0:=hT.2.1.c0;have e1:=hT.2.1.c1;have e2:=hT.2.1.c2;have e3:=hT.2.1.c3;clear hds;refine Jb rfl rfl (fun K hK=>?_);go_simp;exact hK _ _ ⟨_,_,_,_,rfl,Ja ⟨fun _=>rfl,GG.out.2.1,GG.out.2.2.1,GG.out.2.2.2⟩,Ja ⟨SS0.out.1,SS0.out.2⟩⟩
     · have hf0:D 3=false:=by
        cases h:D 3 with
        | false=>rfl
        | true=>rw [(hcl 2 _ rfl (hcl 3 _ rfl h 2 (by simp)) 1 (by simp))] at hDi;cases hDi
       have hS0:=SS0.out.1 hf0;clear hds;refine Jb rfl rfl (fun K hK=>?_);go_simp;exact hK _ _ ⟨_,_,_,_,rfl,Ja ⟨GG.out.1,fun _=>rfl,GG.out.2.2.1,GG.out.2.2.2⟩,Ja ⟨SS0.out.1,SS0.out.2⟩⟩
     · have hf0:D 3=false:=nyt hcl rfl (by simp) hDi;have hS0:=SS0.out.1 hf0;obtain rfl:=GG.out.2.1 (hds 1 (by simp));obtain ⟨I9,hI1,hI2,hT⟩:=hS0;obtain rfl:=hI1 hDi;clear hds;have HC:=Ja (HPK.out V hT.1.1);refine Jb rfl rfl (fun K hK=>?_);go_simp;go_wp2_with (go_at_call 156;refine HC.out.mono ?_;rintro e w5 ⟨rfl,hr5,hg5⟩)
       exact ⟨_,_,_,_,rfl,Ja ⟨GG.out.1,fun _=>rfl,fun _=>rfl,GG.out.2.2.2⟩,Ja ⟨fun _=>⟨_,fun h=>by simp at h,fun _=>rfl,hT.rc hr5 hg5⟩,fun h=>by simp [hf0] at h⟩⟩
     · have hS0:=SS0.out.1 hDi;obtain rfl:=GG.out.1 (hds 0 (by simp));obtain ⟨I9,hI1,hI2,hT⟩:=hS0;obtain rfl:=hI2 (hds 2 (by simp));have r0:=hT.1.2.1.c0;have r1:=hT.1.2.1.c1;have r2:=hT.1.2.1.c2;have r3:=hT.1.2.1.c3;have g0:=hT.1.2.1.f0;have g1:=hT.1.2.1.f1;have g2:=hT.1.2.1.f2;have g3:=hT.1.2.1.f3;clear hds;refine Jb rfl rfl (fun K hK=>?_);go_simp;exact hK _ _ ⟨_,_,_,_,rfl,Ja ⟨fun _=>rfl,GG.out.2.1,GG.out.2.2.1,GG.out.2.2.2⟩,Ja ⟨fun h=>by simp at h,fun _=>hT.put⟩⟩
     · obtain rfl:=GG.out.2.2.1 (hds 2 (by simp));clear hds;refine Jb rfl rfl (fun K hK=>?_);go_simp;exact hK _ _ ⟨_,_,_,_,rfl,Ja ⟨GG.out.1,GG.out.2.1,fun _=>rfl,fun _=>rfl⟩,Ja ⟨SS0.out.1,SS0.out.2⟩⟩
    case fin2=>
     rintro D act V hDD ⟨t15x,t16x,t17x,t3x,rfl,GG,SS0⟩;have HF9:=Ja (SS0.out.2 (hDD 3 (by decide)));obtain rfl:=GG.out.2.2.2 (hDD 4 (by decide));clear GG SS0 hDD;have r0:=HF9.out.1.c0;have r1:=HF9.out.1.c1;have r2:=HF9.out.1.c2;have r3:=HF9.out.1.c3;go_wp2_with fail
     refine bodyPost_ret (v:=.tuple #[.agg #[.bool s8,.slice a8 l8 c8,.bool t8,.slice b8 k8 d8],.int .i64 (n5:Int)]) (by simp [results,Tryz.results121,go_sem,r0,r1,r2,r3]) rfl ⟨HF9.out.2.2.2,fun e q he=>?_,fun c n k he=>?_⟩
     · rw [HTT.out] at he;cases he
     · rw [HTT.out] at he;cases he;exact ⟨_,rfl,HF9.out.2.1,HF9.out.2.2.1⟩
 | true=>
  rw [hdg] at HAD;have HCF:=Ja (fun (V:World) (hh:RcB V R s (J:Int))=>Jr8 R s J V hh hJs hs);have HTS:=Ja (show Yc (Je s) I=(match Yr (Je s) J with | .bad e p=>.bad e p | .ok c k=>if YJ (Je s) (skB (Je s) k) 120 then (match Jaa (Je s) (skB (Je s) k+1) with | .bad e p=>.bad e p | .ok n m=>.ok (c,n) m) else .ok (c,0) (skB (Je s) k)) by
   unfold Yc;rw [HJ.out,hdg];simp only [if_true];cases Yr (Je s) J with
    | bad e p=>rfl
    | ok c k=>
    simp only [];split
    · cases Jaa (Je s) (skB (Je s) k+1) <;> rfl
    · rfl)
  clear hdg;cases hcf:Yr (Je s) J with
  | bad e4 q4=>
   have HCB:=Ja hcf;have HTT:=Ja (show Yc (Je s) I=.bad e4 q4 by rw [HTS.out,hcf]);clear hcf HTS;go_wp2_with (first
    | (go_at_call 154;refine HAD.out.mono ?_;clear HAD;rintro e w2 ⟨rfl,hr2,hg2⟩;have HT2:=Ja (HT.out.rc hr2 hg2);clear hr2 hg2)
    | (go_at_call 155;refine (HCF.out _ HT2.out.1.1).mono ?_;clear HCF;rintro e w3 ⟨hg3,hb3,_⟩;obtain rfl:=hb3 _ _ HCB.out;have HG3:=Ja (Jg HT2.out.1.2.2.1 hg3);clear hg3 hb3))
   refine ⟨rfl,HG3.out,fun e q he=>?_,fun c n k he=>?_⟩
   · rw [HTT.out] at he;cases he;rfl
   · rw [HTT.out] at he;cases he
  | ok c4 k4=>
   have HCO:=Ja hcf;have hk4:k4≤s.size:=by have:=(Jja (by rw [Jm];exact hJs) hcf).2;rwa [Jm] at this
   replace HTS:=Ja (show Yc (Je s) I=(if YJ (Je s) (skB (Je s) k4) 120 then (match Jaa (Je s) (skB (Je s) k4+1) with | .bad e p=>.bad e p | .ok n m=>.ok (c4,n) m) else .ok (c4,0) (skB (Je s) k4)) by rw [HTS.out,hcf]);clear hcf;obtain ⟨b,hb⟩:∃ b,b=YJ (Je s) (skB (Je s) k4) 120:=⟨_,rfl⟩;have HX:=Ja (fun (V:World) (hh:RcB V R s (k4:Int))=>YL R s k4 120 V hh hk4 hs b hb);obtain ⟨P,hPP⟩:∃ P,skB (Je s) k4=P:=⟨_,rfl⟩;rw [hPP] at HX hb HTS;clear hPP;obtain ⟨s7,a7,l7,c7,t7,b7,k7,d7,hT7⟩:=HT.out.cells;have HT7:=Ja hT7;clear hT7;go_upto_region 5 with (first
    | (go_at_call 154;refine HAD.out.mono ?_;clear HAD;rintro e w2 ⟨rfl,hr2,hg2⟩;have HT2:=Ja (HT7.out.rc hr2 hg2);clear hr2 hg2)
    | (go_at_call 155;refine (HCF.out _ HT2.out.1.1).mono ?_;clear HCF;rintro e w4 ⟨hg4,_,hb4⟩;obtain ⟨u4,rfl,hu4,hr4⟩:=hb4 _ _ HCO.out;obtain ⟨s6,a6,l6,c6,t6,b6,k6,d6,rfl⟩:=hu4.form;have hT4:=HT2.out.rc hr4 hg4;have f0:=hT4.2.1.f0;have f1:=hT4.2.1.f1;have f2:=hT4.2.1.f2;have f3:=hT4.2.1.f3;have e0:=hT4.2.1.c0;have e1:=hT4.2.1.c1;have e2:=hT4.2.1.c2;have e3:=hT4.2.1.c3;have HT4:=Ja ((show TcB w w4 R B C s (k4:Int) 1 from ⟨hT4.1,⟨_,_,_,_,_,_,_,_,hT4.2.1,hT4.2.2.1⟩,hT4.2.2.2⟩).put hu4);clear hg4 hb4 hu4 hr4 hT4))
   clear f0 f1 f2 f3 e0 e1 e2 e3;replace HT4:=Ja (show TcB w (put4 w4 C (.bool s6) (.slice a6 l6 c6) (.bool t6) (.slice b6 k6 d6)) R B C s (k4:Int) c4 from HT4.out);have hW4:∃ W,W=put4 w4 C (.bool s6) (.slice a6 l6 c6) (.bool t6) (.slice b6 k6 d6):=⟨_,rfl⟩;obtain ⟨W4,hW4⟩:=hW4;rw [←hW4] at HT4;unfold put4 at hW4;rw [←hW4];clear hW4;cases b with
   | true=>
    have hJ1:P+1≤s.size:=by have:=Yk hb.symm;rw [Jm] at this;omega
    have HTS2:=Ja (show Yc (Je s) I=(match Jaa (Je s) (P+1) with | .bad e p=>.bad e p | .ok n m=>.ok (c4,n) m) by rw [HTS.out,if_pos hb.symm]);clear hb HTS;go_upto_region 6 with (go_at_call 120;refine (HX.out _ HT4.out.1.1).mono ?_;clear HX;rintro e w3 ⟨rfl,hr3,hg3⟩;have HT3:=Ja (HT4.out.rc hr3 hg3);clear hr3 hg3)
    obtain ⟨s8,a8,l8,c8,t8,b8,k8,d8,hTX⟩:=HT3.out.cells;have ST0:=hTX.drew;clear hTX;cases hp:Jaa (Je s) (P+1) with
    | bad e5 q5=>
     have HPK:=Ja (fun (V:World) (hh:RcB V R s ((P+1:Nat):Int))=>(Jdw R s (P+1) V hh hJ1 hs).mono (fun r w5 (h5:Jqa V R s (P+1) r w5)=>(⟨h5.2.1 _ _ hp,h5.1⟩:r=.panicked [{ v:=Xw (e5:Int) (q5:Int),recovered:=false }]∧V.grownBy w5 (some R))));have HTT:=Ja (show Yc (Je s) I=.bad e5 q5 by rw [HTS2.out,hp]);clear hp HTS2;have ST1:=ST0;replace ST0:∃ I9:Int,(false=false→I9=((P+1:Nat):Int))∧TxB w w3.drew R B C s I9 (.bool s8) (.slice a8 l8 c8) (.bool t8) (.slice b8 k8 d8) (c4):=⟨_,fun _=>rfl,ST1⟩;clear ST1;refine Jj hmx [[],[],[1],[0,2,0],[2,3,0,1,2,3]] (by kernel_rfl) (by decide)
      (fun D act V=>∃ (t15x t16x t17x t3x:Value),act={ tmps:=#[.pointer (some ⟨R,0,none⟩),undef,.pointer (some ⟨B,0,none⟩),t3x,.pointer (some ⟨C,0,none⟩),Value.bool true,Value.agg #[Value.bool s9,Value.slice a9 l9 c9,Value.bool t9,Value.slice b9 k9 d9],.pointer (some ⟨R,0,none⟩),Value.bool true,Value.bool true,.pointer (some ⟨R,0,none⟩),Value.agg #[Value.bool s6,Value.slice a6 l6 c6,Value.bool t6,Value.slice b6 k6 d6],Value.bool true,.pointer (some ⟨R,0,none⟩),Value.bool true,t15x,t16x,t17x,undef,undef,undef,undef,undef,undef,undef,undef,undef,undef],defers:=[] }∧Hid ((D 0=true→t15x=.agg #[.bool s8,.slice a8 l8 c8,.bool t8,.slice b8 k8 d8])∧(D 1=true→t16x=.pointer (some ⟨R,0,none⟩))∧(D 2=true→False)∧(D 4=true→True))∧Hid ((D 3=false→∃ I9:Int,(D 2=false→I9=((P+1:Nat):Int))∧TxB w V R B C s I9 (.bool s8) (.slice a8 l8 c8) (.bool t8) (.slice b8 k8 d8) (c4))∧(D 3=true→True)))
      ⟨_,_,_,_,rfl,Ja ⟨by simp,by simp,by simp,by simp⟩,Ja ⟨fun _=>ST0,by simp⟩⟩ ?step3 ?fin3
     case step3=>
      rintro D act V i ds hcl hi hds hDi ⟨t15x,t16x,t17x,t3x,rfl,GG,SS0⟩;have hi6:i<5:=(List.getElem?_eq_some_iff.1 hi).1;obtain rfl | rfl | rfl | rfl | rfl:i=0∨i=1∨i=2∨i=3∨i=4:=by omega
      all_goals
       simp only [List.getElem?_cons_zero,List.getElem?_cons_succ,Option.some.injEq] at hi;subst hi
      · have hf0:D 3=false:=nyt hcl rfl (by simp) hDi;have hS0:=SS0.out.1 hf0;obtain ⟨I9,hI1,hT⟩:=hS0;have e0:=hT.2.1.c0;have e1:=hT.2.1.c1;have e2:=hT.2.1.c2;have e3:=hT.2.1.c3;clear hds;refine Jb rfl rfl (fun K hK=>?_);go_simp;exact hK _ _ ⟨_,_,_,_,rfl,Ja ⟨fun _=>rfl,GG.out.2.1,GG.out.2.2.1,fun _=>trivial⟩,Ja ⟨SS0.out.1,SS0.out.2⟩⟩
      · have hf0:D 3=false:=by
         cases h:D 3 with
         | false=>rfl
         | true=>rw [(hcl 2 _ rfl (hcl 3 _ rfl h 2 (by simp)) 1 (by simp))] at hDi;cases hDi
        have hS0:=SS0.out.1 hf0;clear hds;refine Jb rfl rfl (fun K hK=>?_);go_simp;exact hK _ _ ⟨_,_,_,_,rfl,Ja ⟨GG.out.1,fun _=>rfl,GG.out.2.2.1,fun _=>trivial⟩,Ja ⟨SS0.out.1,SS0.out.2⟩⟩
      · have hf0:D 3=false:=nyt hcl rfl (by simp) hDi;have hS0:=SS0.out.1 hf0;obtain rfl:=GG.out.2.1 (hds 1 (by simp));obtain ⟨I9,hI1,hT⟩:=hS0;obtain rfl:=hI1 hDi;clear hds;have HC:=Ja (HPK.out V hT.1.1);refine Jb rfl rfl (fun K hK=>?_);go_simp;go_wp2_with (go_at_call 156;refine HC.out.mono ?_;rintro e w5 ⟨rfl,hg5⟩)
        exact ⟨rfl,Jg hT.1.2.2.1 hg5,(fun e q he=>by rw [HTT.out] at he;cases he;rfl),(fun c n k he=>by rw [HTT.out] at he;cases he)⟩
      · have hS0:=SS0.out.1 hDi;have NV:False:=GG.out.2.2.1 (hds 2 (by simp));clear hds;exact (NV).elim
      · have NV:False:=GG.out.2.2.1 (hds 2 (by simp));clear hds;exact (NV).elim
     case fin3=>
      rintro D act V hDD ⟨t15x,t16x,t17x,t3x,rfl,GG,SS0⟩;exact (GG.out.2.2.1 (hDD 2 (by decide))).elim
    | ok n5 m5=>
     have HPK:=Ja (fun (V:World) (hh:RcB V R s ((P+1:Nat):Int))=>(Jdw R s (P+1) V hh hJ1 hs).mono (fun r w5 (h5:Jqa V R s (P+1) r w5)=>(⟨(h5.2.2 _ _ hp).1,(h5.2.2 _ _ hp).2,h5.1⟩:r=.returned (.int .i64 (n5:Int))∧RcB w5 R s (m5:Int)∧V.grownBy w5 (some R))));have HTT:=Ja (show Yc (Je s) I=.ok (c4,n5) m5 by rw [HTS2.out,hp]);clear hp HTS2;have ST1:=ST0;replace ST0:∃ I9:Int,(false=false→I9=((P+1:Nat):Int))∧(false=true→I9=(m5:Int))∧TxB w w3.drew R B C s I9 (.bool s8) (.slice a8 l8 c8) (.bool t8) (.slice b8 k8 d8) (c4):=⟨_,fun _=>rfl,(fun h=>by cases h),ST1⟩;clear ST1;refine Jj hmx [[],[],[1],[0,2,0],[2,3,0,1,2,3]] (by kernel_rfl) (by decide)
      (fun D act V=>∃ (t15x t16x t17x t3x:Value),act={ tmps:=#[.pointer (some ⟨R,0,none⟩),undef,.pointer (some ⟨B,0,none⟩),t3x,.pointer (some ⟨C,0,none⟩),Value.bool true,Value.agg #[Value.bool s9,Value.slice a9 l9 c9,Value.bool t9,Value.slice b9 k9 d9],.pointer (some ⟨R,0,none⟩),Value.bool true,Value.bool true,.pointer (some ⟨R,0,none⟩),Value.agg #[Value.bool s6,Value.slice a6 l6 c6,Value.bool t6,Value.slice b6 k6 d6],Value.bool true,.pointer (some ⟨R,0,none⟩),Value.bool true,t15x,t16x,t17x,undef,undef,undef,undef,undef,undef,undef,undef,undef,undef],defers:=[] }∧Hid ((D 0=true→t15x=.agg #[.bool s8,.slice a8 l8 c8,.bool t8,.slice b8 k8 d8])∧(D 1=true→t16x=.pointer (some ⟨R,0,none⟩))∧(D 2=true→t17x=.int .i64 (n5:Int))∧(D 4=true→t3x=.int .i64 (n5:Int)))∧Hid ((D 3=false→∃ I9:Int,(D 2=false→I9=((P+1:Nat):Int))∧(D 2=true→I9=(m5:Int))∧TxB w V R B C s I9 (.bool s8) (.slice a8 l8 c8) (.bool t8) (.slice b8 k8 d8) (c4))∧(D 3=true→FxB w V R B s (m5:Int) (.bool s8) (.slice a8 l8 c8) (.bool t8) (.slice b8 k8 d8) (c4))))
      ⟨_,_,_,_,rfl,Ja ⟨by simp,by simp,by simp,by simp⟩,Ja ⟨fun _=>ST0,by simp⟩⟩ ?step4 ?fin4
     case step4=>
      rintro D act V i ds hcl hi hds hDi ⟨t15x,t16x,t17x,t3x,rfl,GG,SS0⟩;have hi6:i<5:=(List.getElem?_eq_some_iff.1 hi).1;obtain rfl | rfl | rfl | rfl | rfl:i=0∨i=1∨i=2∨i=3∨i=4:=by omega
      all_goals
       simp only [List.getElem?_cons_zero,List.getElem?_cons_succ,Option.some.injEq] at hi;subst hi
      · have hf0:D 3=false:=nyt hcl rfl (by simp) hDi;have hS0:=SS0.out.1 hf0;obtain ⟨I9,hI1,hI2,hT⟩:=hS0;have e0:=hT.2.1.c0;have e1:=hT.2.1.c1;have e2:=hT.2.1.c2;have e3:=hT.2.1.c3;clear hds;refine Jb rfl rfl (fun K hK=>?_);go_simp;exact hK _ _ ⟨_,_,_,_,rfl,Ja ⟨fun _=>rfl,GG.out.2.1,GG.out.2.2.1,GG.out.2.2.2⟩,Ja ⟨SS0.out.1,SS0.out.2⟩⟩
      · have hf0:D 3=false:=by
         cases h:D 3 with
         | false=>rfl
         | true=>rw [(hcl 2 _ rfl (hcl 3 _ rfl h 2 (by simp)) 1 (by simp))] at hDi;cases hDi
        have hS0:=SS0.out.1 hf0;clear hds;refine Jb rfl rfl (fun K hK=>?_);go_simp;exact hK _ _ ⟨_,_,_,_,rfl,Ja ⟨GG.out.1,fun _=>rfl,GG.out.2.2.1,GG.out.2.2.2⟩,Ja ⟨SS0.out.1,SS0.out.2⟩⟩
      · have hf0:D 3=false:=nyt hcl rfl (by simp) hDi;have hS0:=SS0.out.1 hf0;obtain rfl:=GG.out.2.1 (hds 1 (by simp));obtain ⟨I9,hI1,hI2,hT⟩:=hS0;obtain rfl:=hI1 hDi;clear hds;have HC:=Ja (HPK.out V hT.1.1);refine Jb rfl rfl (fun K hK=>?_);go_simp;go_wp2_with (go_at_call 156;refine HC.out.mono ?_;rintro e w5 ⟨rfl,hr5,hg5⟩)
        exact ⟨_,_,_,_,rfl,Ja ⟨GG.out.1,fun _=>rfl,fun _=>rfl,GG.out.2.2.2⟩,Ja ⟨fun _=>⟨_,fun h=>by simp at h,fun _=>rfl,hT.rc hr5 hg5⟩,fun h=>by simp [hf0] at h⟩⟩
      · have hS0:=SS0.out.1 hDi;obtain rfl:=GG.out.1 (hds 0 (by simp));obtain ⟨I9,hI1,hI2,hT⟩:=hS0;obtain rfl:=hI2 (hds 2 (by simp));have r0:=hT.1.2.1.c0;have r1:=hT.1.2.1.c1;have r2:=hT.1.2.1.c2;have r3:=hT.1.2.1.c3;have g0:=hT.1.2.1.f0;have g1:=hT.1.2.1.f1;have g2:=hT.1.2.1.f2;have g3:=hT.1.2.1.f3;clear hds;refine Jb rfl rfl (fun K hK=>?_);go_simp;exact hK _ _ ⟨_,_,_,_,rfl,Ja ⟨fun _=>rfl,GG.out.2.1,GG.out.2.2.1,GG.out.2.2.2⟩,Ja ⟨fun h=>by simp at h,fun _=>hT.put⟩⟩
      · obtain rfl:=GG.out.2.2.1 (hds 2 (by simp));clear hds;refine Jb rfl rfl (fun K hK=>?_);go_simp;exact hK _ _ ⟨_,_,_,_,rfl,Ja ⟨GG.out.1,GG.out.2.1,fun _=>rfl,fun _=>rfl⟩,Ja ⟨SS0.out.1,SS0.out.2⟩⟩
     case fin4=>
      rintro D act V hDD ⟨t15x,t16x,t17x,t3x,rfl,GG,SS0⟩;have HF9:=Ja (SS0.out.2 (hDD 3 (by decide)));obtain rfl:=GG.out.2.2.2 (hDD 4 (by decide));clear GG SS0 hDD;have r0:=HF9.out.1.c0;have r1:=HF9.out.1.c1;have r2:=HF9.out.1.c2;have r3:=HF9.out.1.c3;go_wp2_with fail
      refine bodyPost_ret (v:=.tuple #[.agg #[.bool s8,.slice a8 l8 c8,.bool t8,.slice b8 k8 d8],.int .i64 (n5:Int)]) (by simp [results,Tryz.results121,go_sem,r0,r1,r2,r3]) rfl ⟨HF9.out.2.2.2,fun e q he=>?_,fun c n k he=>?_⟩
      · rw [HTT.out] at he;cases he
      · rw [HTT.out] at he;cases he;exact ⟨_,rfl,HF9.out.2.1,HF9.out.2.2.1⟩
   | false=>
    have HTT:=Ja (show Yc (Je s) I=.ok (c4,0) P by rw [HTS.out,←hb];rfl);clear hb HTS;go_wp2_with (go_at_call 120;refine (HX.out _ HT4.out.1.1).mono ?_;clear HX;rintro e w3 ⟨rfl,hr3,hg3⟩;obtain ⟨s8,a8,l8,c8,t8,b8,k8,d8,hT⟩:=(HT4.out.rc hr3 hg3).cells;have e0:=hT.2.1.c0;have e1:=hT.2.1.c1;have e2:=hT.2.1.c2;have e3:=hT.2.1.c3;have r0:=hT.1.2.1.c0;have r1:=hT.1.2.1.c1;have r2:=hT.1.2.1.c2;have r3:=hT.1.2.1.c3;have g0:=hT.1.2.1.f0;have g1:=hT.1.2.1.f1;have g2:=hT.1.2.1.f2;have g3:=hT.1.2.1.f3;have HF9:=Ja hT.put;clear hT hr3 hg3)
    refine bodyPost_ret (v:=.tuple #[.agg #[.bool s8,.slice a8 l8 c8,.bool t8,.slice b8 k8 d8],.int .i64 0]) (by simp [results,Tryz.results121,go_sem,r0,r1,r2,r3]) rfl ⟨HF9.out.2.2.2,fun e q he=>?_,fun c n k he=>?_⟩
    · rw [HTT.out] at he;cases he
    · rw [HTT.out] at he;cases he;exact ⟨_,rfl,HF9.out.2.1,HF9.out.2.2.1⟩
end Go.Proofs.YtcahejkcdcjjgaaGreatDoor
namespace Go.Proofs.YtcahejkcdcjjgaaGreatDoor
open Go.RowKit Go.Shelf
theorem Jts {ds:List UInt8} (h:ds.all isD=true) (hl:ds.length≤12):num ds<1000000000000:=
 Nat.lt_of_lt_of_le (Jmw h) (Nat.pow_le_pow_right (n:=10) (by omega) hl)
theorem Jm0 {l:List UInt8} {i p k:Nat} {ds:List UInt8} (hi:i≤l.length) (h:YO l i=.ok (ds,p) k):num ds<1000000000000∧k≤l.length:=by
 have h1:=Ja5 hi h;exact ⟨Jts h1.2.2.2.2.2.2.2.2 (by have:=h1.2.2.2.2.2.2.2.1;have:=h1.2.2.2.2.2.1;omega),h1.2.2.2.2.1⟩
theorem Jlx {l:List UInt8} {i k:Nat} {c:Rat} (hi:i≤l.length) (h:Yr l i=.ok c k):Jg9 c:=by
 unfold Yr at h;split at h
 · cases h
 · rename_i ds p k0 h1;have h2:=Jm0 hi h1;split at h
   · rename_i h3;have h4:=Yk h3;split at h
     · cases h
     · rename_i es p' m h5;have h6:=Jm0 (by omega) h5;split at h
       · cases h
       · rename_i h0;cases h;exact ⟨num ds,num es,rfl,h2.1,h0,h6.1⟩
   · cases h;exact ⟨num ds,1,(Jls _).symm,h2.1,by omega,by omega⟩
theorem Jc8 {l:List UInt8} {i k n:Nat} {c:Rat} (hi:i≤l.length) (h:Yc l i=.ok (c,n) k):Jg9 c:=by
 rw [Jkf] at h;unfold Jcw at h;split at h
 · cases h
 · rename_i c0 k0 h1;have hc:Jg9 c0:=by
    split at h1
    · cases h1;exact Jg9.one
    · exact Jlx hi h1
   split at h
   · split at h
     · cases h
     · cases h;exact hc
   · cases h;exact hc
def PoB (w V:World) (R Q b:Nat) (s:ByteArray) (I:Int) (S:List Rat):Prop:=
 RcB V R s I∧Boxed V Q 25 (.slice none 0 0)∧Els true V b S∧w.grownBy V (some R)∧w.heap.size≤Q∧w.heap.size≤b
section
variable {w V V':World} {R Q b:Nat} {s:ByteArray} {I I':Int} {S:List Rat}
theorem PoB.below (h:PoB w V R Q b s I S) (hb:Below V.heap.size V V'):PoB w V' R Q b s I S:=
 ⟨h.1.below hb,(hb.block Q h.2.1.lt).trans h.2.1,h.2.2.1.below hb,Jg h.2.2.2.1 (JM hb _),h.2.2.2.2⟩
theorem PoB.drew (h:PoB w V R Q b s I S):PoB w V.drew R Q b s I S:=h.below ((Below.refl _ V).drew)
theorem PoB.nb (h:PoB w V R Q b s I S):b≠R∧Q≠R∧Q≠b:=by
 obtain ⟨h1,h2,⟨cs,h3,_⟩,_⟩:=h;refine ⟨Jcc h1 h3 (by decide),Jcc h1 h2 (by decide),fun e=>?_⟩;subst e;have:=h3.symm.trans h2;simp only [Option.some.injEq,Obj.cells.injEq] at this;exact absurd this.2.1 (by decide)
theorem PoB.rc (h:PoB w V R Q b s I S) (hr:RcB V' R s I') (hg:V.grownBy V' (some R)):PoB w V' R Q b s I' S:=by
 obtain ⟨n1,n2,_⟩:=h.nb;obtain ⟨h1,h2,h3,h4,h5⟩:=h;exact ⟨hr,(hg.block Q h2.lt (fun e=>n2 (Option.some.inj e))).trans h2,h3.keep (hg.block b h3.lt (fun e=>n1 (Option.some.inj e))) (Jlt h1 hg),Jg h4 hg,h5⟩
theorem PoB.put (h:PoB w V R Q b s I S) {j:Nat} (hj:j<S.length) {x y z u:Value} {q:Rat} (hv:Jf V (.agg #[x,y,z,u]) q):PoB w (putAt V b (j*4) x y z u) R Q b s I (S.set j q):=by
 obtain ⟨n1,_,n3⟩:=h.nb;obtain ⟨h1,h2,h3,h4,h5,h6⟩:=h;exact ⟨(Jap (fun e=>n1 e.symm) _ _ _ _).trans h1,(Jap n3 _ _ _ _).trans h2,h3.set hj hv,JR (JR (JR (JR h4 h6 _ _) h6 _ _) h6 _ _) h6 _ _,h5,h6⟩
theorem PoB.new (h:RcB w R s I) (n:Nat):PoB w ((w.alloc (.cells #[.slice none 0 0] 25)).alloc (.cells (Ya n) 38)) R w.heap.size (w.heap.size+1) s I (List.replicate n 0):=by
 have ha:Below w.heap.size w (w.alloc (.cells #[.slice none 0 0] 25)):=(Below.refl _ w).alloc (Nat.le_refl _) _;have hb:Below w.heap.size w ((w.alloc (.cells #[.slice none 0 0] 25)).alloc (.cells (Ya n) 38)):=ha.alloc ha.size _;have hE:=Jf6 n (w.alloc (.cells #[.slice none 0 0] 25));rw [World.size_alloc] at hE;exact ⟨h.below hb,(Boxed.new w 25 (.slice none 0 0)).alloc _,hE,JM hb _,Nat.le_refl _,by omega⟩
end
def PoX (w V:World) (R Q b C:Nat) (s:ByteArray) (I:Int) (S:List Rat) (c:Rat):Prop:=
 PoB w V R Q b s I S∧∃ s9 a9 l9 c9 t9 b9 k9 d9,Js V C 38 (.bool s9) (.slice a9 l9 c9) (.bool t9) (.slice b9 k9 d9)∧Jf V (.agg #[.bool s9,.slice a9 l9 c9,.bool t9,.slice b9 k9 d9]) c
theorem PoX.below {w V V':World} {R Q b C:Nat} {s:ByteArray} {I:Int} {S:List Rat} {c:Rat} (h:PoX w V R Q b C s I S c) (hb:Below V.heap.size V V'):PoX w V' R Q b C s I S c:=by
 obtain ⟨h1,s9,a9,l9,c9,t9,b9,k9,d9,h2,h3⟩:=h;exact ⟨h1.below hb,s9,a9,l9,c9,t9,b9,k9,d9,h2.below hb,h3.below hb⟩
theorem PoX.new {w V:World} {R Q b:Nat} {s:ByteArray} {I:Int} {S:List Rat} {c:Rat} (h:PoB w V R Q b s I S) {s9:Bool} {a9:Option Addr} {l9 c9:Nat} {t9:Bool} {b9:Option Addr} {k9 d9:Nat} (hv:Jf V (.agg #[.bool s9,.slice a9 l9 c9,.bool t9,.slice b9 k9 d9]) c) :
 PoX w (V.alloc (.cells #[.bool s9,.slice a9 l9 c9,.bool t9,.slice b9 k9 d9] 38)) R Q b V.heap.size s I S c:=by
 have ha:Below V.heap.size V (V.alloc (.cells #[.bool s9,.slice a9 l9 c9,.bool t9,.slice b9 k9 d9] 38)):=(Below.refl _ V).alloc (Nat.le_refl _) _;exact ⟨h.below ha,s9,a9,l9,c9,t9,b9,k9,d9,Js.new _ _ _ _ _ _,hv.below ha⟩
def Jtt (w:World) (R:Nat) (s:ByteArray) (r:Ending) (w':World):Prop:=
 w.grownBy w' (some R)∧(∀ e q,XS (Je s)=.bad e q→r=.panicked [{ v:=Xw e q,recovered:=false }])∧(∀ S k,XS (Je s)=.ok S k→∃ u,r=.returned u∧Jk w' u (Ji S)∧∃ m,m≤300∧YN S m)
end Go.Proofs.YtcahejkcdcjjgaaGreatDoor
