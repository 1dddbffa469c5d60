import Derived.Test.YtcahejkcdcjjgaaGreatDoorK35
import Derived.Test.YtcahejkcdcjjgaaGreatDoorK38
set_option maxRecDepth 100000
set_option maxHeartbeats 16000000
namespace Go.Proofs.YtcahejkcdcjjgaaGreatDoor
open Go.RowKit Go.Shelf
theorem Jrs{ds:List UInt8}:(nzL ds).head?=some 48→nzL ds=[48]:=by
 unfold nzL Lib.trimLeftB;split
 · intro _;rfl
 · rename_i he;intro h;exfalso
   have:=List.head?_dropWhile_not (p:=fun x:UInt8=>x==48) (l:=ds);rw[h]at this;simp at this
theorem Jmt{ds:List UInt8}(h:ds.all isD=true)(c:UInt8)(hc:isD c=false):c ∉ nzL ds:=by
 intro hm;have:=A3.1 (Xy h).2.1 c hm;rw[hc]at this;cases this
theorem Jrt{ds:List UInt8}(h:ds.all isD=true):JJ (nzL ds)=nzL ds∧¬(nzL ds).head?=some 45:=by
 have h1:¬(nzL ds).head?=some 45:=fun e=>Jmt h 45 (by decide) (List.mem_of_head? e);exact⟨by unfold JJ;rw[if_neg h1],h1⟩
theorem Jbm{ds:List UInt8}(h:ds.all isD=true)(hl:ds.length≤12):good (nzL ds)=true∧Yz (nzL ds)=(num ds:Int):=by
 obtain⟨g1,g2,g3,g4,g5⟩:=Xy h;obtain⟨t1,t2⟩:=Jrt h;refine⟨?_,?_⟩
 · unfold good;rw[t1,g2];simp only[Bool.and_true,AD,decide_eq_true_eq,CO,Cl,decide_eq_false_iff_not];refine⟨⟨by omega,by simpa using g3⟩,?_⟩;by_cases h0:(nzL ds).head?=some 48
   · exact Or.inr (Jrs h0)
   · exact Or.inl h0
 · unfold Yz;rw[if_neg t2,t1,g1]
theorem Jmu{l:List UInt8}(h:(47:UInt8) ∉ l):JS l=l.length:=by
 unfold JS;have e:=List.takeWhile_append_of_pos (p:=fun x:UInt8=>x != 47) (l₁:=l) (l₂:=[]) (fun c hc=>by simp;intro e;exact h (e ▸ hc));rw[Cj]at e;rw[e];simp
theorem Jru{a b:List UInt8}(h:(47:UInt8) ∉ a):JS (a++47::b)=a.length:=by
 unfold JS;rw[List.takeWhile_append_of_pos (fun c hc=>by simp;intro e;exact h (e ▸ hc)),List.takeWhile_cons_of_neg (by simp),Cj]
theorem Jrv{ds:List UInt8}(h:ds.all isD=true)(hl:ds.length≤12):Jhg (nzL ds)=((num ds:Int):Rat):=by
 have h5:=(Xy h).2.2.2.2;unfold Jhg;rw[Jlb (by omega) (Jmu (Jmt h 47 (by decide))),if_pos (Jbm h hl).1,(Jbm h hl).2];rfl
theorem Jlf{ds es:List UInt8}(h:ds.all isD=true)(hl:ds.length≤12)(k:es.all isD=true)(kl:es.length≤12)(h0:num es≠0):Jhg (nzL ds++47::nzL es)=Rat.divInt (num ds) (num es):=by
 have h5:=(Xy h).2.2.2.2;have k5:=(Xy k).2.2.2.2;have hs:=Jru (b:=nzL es) (Jmt h 47 (by decide));unfold Jhg;rw[Jlc (by simp;omega) (by rw[hs];simp),hs];rw[show(nzL ds++47::nzL es).take (nzL ds).length=nzL ds from by simp,show(nzL ds++47::nzL es).drop ((nzL ds).length+1)=nzL es from by rw[←Fj];simp];rw[(Jbm h hl).2,(Jbm k kl).2,if_pos ⟨(Jbm h hl).1,(Jbm k kl).1,by omega⟩];rfl
theorem Jrw{es:List UInt8}(h:es.all isD=true):nzL es=[48]↔num es=0:=by
 obtain⟨g1,g2,g3,g4,g5⟩:=Xy h;refine⟨fun e=>by rw[←g1,e];decide,fun e=>?_⟩;cases hz:nzL es with
 |nil=>exact absurd hz g3
 |cons c t=>
  cases t with
  |cons d t=>
   rw[hz]at g4;have:=g4 (by simp);omega
  |nil=>
   rw[hz]at g1 g2;have hb:=YA (A3.1 g2 c (CA ..));have:num [c]=c.toNat-48:=by simp[num,dgs,val]
   have:c=48:=UInt8.toNat_inj.1 (by show c.toNat=48;omega);rw[this]
attribute [local go_sem] Oper.semAt_some
def CfB(w V:World)(R B:Nat)(s:ByteArray)(I:Int):Prop:=
 RcB V R s I∧JH V B 38 (.bool false) (.slice none 0 0) (.bool false) (.slice none 0 0)∧w.grownBy V (some R)∧w.heap.size≤B
section
variable {w V V':World} {R B:Nat} {s:ByteArray} {I I':Int}
theorem CfB.below(h:CfB w V R B s I)(hb:Below V.heap.size V V'):CfB w V' R B s I:=⟨h.1.below hb,h.2.1.below hb,Jf h.2.2.1 (JU hb _),h.2.2.2⟩
theorem CfB.rc(h:CfB w V R B s I)(hr:RcB V' R s I')(hg:V.grownBy V' (some R)):CfB w V' R B s I':=by
 have Qa:B≠R:=Jct h.1 h.2.1 (by decide);exact⟨hr,(hg.block B h.2.1.lt (fun e=>Qa (Cb e))).trans h.2.1,Jf h.2.2.1 hg,h.2.2.2⟩
theorem CfB.new(h:RcB w R s I):CfB w (w.alloc (.cells #[.bool false,.slice none 0 0,.bool false,.slice none 0 0] 38)) R w.heap.size s I:=by
 have ha:Below w.heap.size w (w.alloc (.cells #[.bool false,.slice none 0 0,.bool false,.slice none 0 0] 38)):=(Below.refl _ w).alloc (Aa _) _;exact⟨h.below ha,JH.new _ _ _ _ _ _,JU ha _,Aa _⟩
theorem CfB.put(h:CfB w V R B s I){x y z u:Value}{c:Rat}(hv:Ji V (.agg #[x,y,z,u]) c):
 Ji (put4 V B x y z u) (.agg #[x,y,z,u]) c∧RcB (put4 V B x y z u) R s I∧w.grownBy (put4 V B x y z u) (some R):=by
 obtain⟨h1,h2,h4,h5⟩:=h;have Qa:R≠B:=fun e=>Jct h1 h2 (by decide) e.symm;refine⟨IsK.keep (r:=true) hv (fun _ _ _ g=>Row.put4 g h2 rfl rfl rfl rfl _ _ _ _),?_,J1 (J1 (J1 (J1 h4 h5 0 _) h5 1 _) h5 2 _) h5 3 _⟩;have g0:=(Below.heap_setCell V ⟨B,0,none⟩ x R Qa).trans h1;have g1:=(Below.heap_setCell _ ⟨B,1,none⟩ y R Qa).trans g0;have g2:=(Below.heap_setCell _ ⟨B,2,none⟩ z R Qa).trans g1;exact(Below.heap_setCell _ ⟨B,3,none⟩ u R Qa).trans g2
end
def Ju6(w:World)(R:Nat)(s:ByteArray)(I:Nat)(r:Ending)(w':World):Prop:=
 w.grownBy w' (some R)∧(∀e q,J9 (Jd s) I=.bad e q→r=.panicked [{ v:=XZ e q,recovered:=false }])∧(∀c k,J9 (Jd s) I=.ok c k→∃u,r=.returned u∧Ji w' u c∧RcB w' R s (k:Int))
theorem Jtp(R:Nat)(s:ByteArray)(I:Nat)(w:World)(h:RcB w R s I)(hI:I≤s.size)(hs:s.size≤300):
 Calls Tryz.prog 155 #[.pointer (some ⟨R,0,none⟩)] w fun r w'=>Ju6 w R s I r w':=by
 have Qo:=CfB.new h;obtain⟨W0,hW0⟩:=ex (w.alloc (.cells #[.bool false,.slice none 0 0,.bool false,.slice none 0 0] 38));obtain⟨B,hB⟩:=ex (w.heap.size);rw[hW0,hB]at Qo;have Qk:=Ja hW0;have HB:=Ja hB;have Ql:=Ja Qo;have Qc:=Ja (Je7 R s I W0 Qo.1 hI hs);have HF:=Ja (fun(e q:Int) (V:World)=>Jeu (.pointer (some ⟨R,0,none⟩)) e q V);clear h hW0 hB Qo;cases hn:JP (Jd s) I with
 |bad e0 q0=>
  have HC:=Ja (show J9 (Jd s) I=.bad e0 q0 by unfold J9;rw[hn]);have Qe:=Ja hn;clear hn;go_enter Tryz.func155,Tryz.ntmps155
  go_upto_region 1 with fail
  rw[Qk.o,HB.o];go_wp2_with(go_at_call 182;refine Qc.o.mono ?_;clear Qc;rintro e w1 ⟨hg1,hb1,_⟩;obtain rfl:=hb1 _ _ Qe.o;have Ua:=Ja (Jf Ql.o.2.2.1 hg1);clear hg1 hb1)
  refine⟨rfl,Ua.o,fun e q he=>?_,fun c k he=>?_⟩
  · rw[HC.o]at he;cases he;rfl
  · rw[HC.o]at he;cases he
 |ok a0 k0=>
  obtain⟨ds,p0⟩:=a0;have Qg:=Jbs (by rw[Jg];exact hI) hn;have Qw:=Ja Qg;have Qz:k0≤s.size:=by have:=Qg.2.2.2.2.1;rwa[Jg]at this
  have Qe:=Ja hn;obtain⟨b,hb⟩:∃b,b=JL (Jd s) (skB (Jd s) k0) 47:=⟨_,rfl⟩;have HX:=Ja (fun(V:World) (hh:RcB V R s (k0:Int))=>Y0 R s k0 47 V hh Qz hs b hb);obtain⟨j,hj⟩:=ex (skB (Jd s) k0);rw[hj]at HX hb;have HJ:=Ja hj;obtain⟨SD,hSD⟩:∃S:ByteArray,⟨(nzL ds).toArray⟩=S:=⟨_,rfl⟩;have Qf:=Ja hSD;have hszD:SD.size≤13:=by
   rw[←hSD];show(nzL ds).toArray.size≤13;rw[An];have:=(Xy Qg.2.2.2.2.2.2.2.2).2.2.2.2;have:=Qg.2.2.2.2.2.2.2.1;have:=Qg.2.2.2.2.2.1;omega
  clear hn hj hSD Qg;cases b with
  |false=>
   have HC:=Ja (show J9 (Jd s) I=.ok ((num ds:Int):Rat) j by unfold J9;rw[Qe.o];simp[HJ.o,←hb]);have Qm:=Ja (fun(S:ByteArray) (V:World)=>Jle S V);have Qu:=Ja (trivial:True);have HV:=Ja (show Jhg (Jd SD)=((num ds:Int):Rat)by rw[←Qf.o];have e:=Qw.o;rw[show Jd ⟨(nzL ds).toArray⟩=nzL ds from by simp[Jd]];exact Jrv e.2.2.2.2.2.2.2.2 (by omega));clear hb;go_enter Tryz.func155,Tryz.ntmps155
   go_upto_region 1 with fail
   rw[Qk.o,HB.o];go_upto_region 8 with(first
    |(go_at_call 182;refine Qc.o.mono ?_;clear Qc;rintro e w1 ⟨hg1,_,hb1⟩;obtain⟨rfl,hr1⟩:=hb1 _ _ _ Qe.o;rw[Qf.o];have Qb:=Ja (Ql.o.rc hr1 hg1);clear hg1 hb1 hr1)
    |(go_at_call 120;refine(HX.o _ Qb.o.1).mono ?_;clear HX;rintro e w2 ⟨rfl,hr2,hg2⟩;have Qd:=Ja (Qb.o.rc hr2 hg2);clear hr2 hg2)
    |(go_at_call 63;refine(Qm.o _ _).mono ?_;clear Qm;rintro e w5 ⟨u5,rfl,hu5,hq5⟩;(first|rw[HV.o]at hu5|rw[Qu.o]at hu5);have Qt:=Ja (Qd.o.below hq5);clear hq5;obtain⟨s9,a9,l9,c9,t9,b9,k9,d9,rfl⟩:=hu5.form;have Qs:=Ja hu5;clear hu5))
   have hN:=JH.new w5 38 (.bool s9) (.slice a9 l9 c9) (.bool t9) (.slice b9 k9 d9);have hA:Below w5.heap.size w5 (w5.alloc (.cells #[.bool s9,.slice a9 l9 c9,.bool t9,.slice b9 k9 d9] 38)):=(Below.refl _ w5).alloc (Aa _) _;have Qa:=Qt.o.below hA;have hP:=Qa.put (Qs.o.below hA);have hQ:=Qa.2.1.put (.bool s9) (.slice a9 l9 c9) (.bool t9) (.slice b9 k9 d9);obtain⟨W6,hW6⟩:=ex (w5.alloc (.cells #[.bool s9,.slice a9 l9 c9,.bool t9,.slice b9 k9 d9] 38));obtain⟨B6,hB6⟩:=ex (w5.heap.size);rw[hW6]at hN Qa hP hQ;rw[hB6]at hN;rw[hW6,hB6];have e0:=hN.c0;have e1:=hN.c1;have e2:=hN.c2;have e3:=hN.c3;have g0:=Qa.2.1.f0;have g1:=Qa.2.1.f1;have g2:=Qa.2.1.f2;have g3:=Qa.2.1.f3;have r0:=Qa.2.1.c0;have r1:=Qa.2.1.c1;have r2:=Qa.2.1.c2;have r3:=Qa.2.1.c3;have HP:=Ja hP;clear hA hN Qa hP hQ hW6 hB6;go_wp2_with fail
   refine bodyPost_ret (v:=.agg #[.bool s9,.slice a9 l9 c9,.bool t9,.slice b9 k9 d9]) (by simp[results,Tryz.results155,go_sem,r0,r1,r2,r3]) rfl ⟨HP.o.2.2,fun e q he=>?_,fun c k he=>?_⟩
   · rw[HC.o]at he;cases he
   · rw[HC.o]at he;cases he;exact⟨_,rfl,HP.o.1,HP.o.2.1⟩
  |true=>
   have Qy:j+1≤s.size:=by have:=JZ hb.symm;rw[Jg]at this;omega
   have Qj:=Ja (fun(V:World) (hh:RcB V R s ((j+1:Nat):Int))=>Je7 R s (j+1) V hh Qy hs);have Qh:=Ja (show J9 (Jd s) I=(match JP (Jd s) (j+1)with|.bad e p=>.bad e p|.ok (es,p) m=>if num es=0 then .bad 4 p else .ok (Rat.divInt (num ds) (num es)) m)by
    unfold J9;rw[Qe.o];simp only[HJ.o];rw[if_pos hb.symm];rcases JP (Jd s) (j+1)with⟨e,p⟩|⟨⟨es,p⟩,k⟩<;>rfl)
   clear hb;cases hm:JP (Jd s) (j+1)with
   |bad e1 q1=>
    rw[hm]at Qh;have Qp:=Ja hm;clear hm;go_enter Tryz.func155,Tryz.ntmps155
    go_upto_region 1 with fail
    rw[Qk.o,HB.o];go_wp2_with(first
     |(go_at_call 182;refine Qc.o.mono ?_;clear Qc;rintro e w1 ⟨hg1,_,hb1⟩;obtain⟨rfl,hr1⟩:=hb1 _ _ _ Qe.o;rw[Qf.o];have Qb:=Ja (Ql.o.rc hr1 hg1);clear hg1 hb1 hr1)
     |(go_at_call 120;refine(HX.o _ Qb.o.1).mono ?_;clear HX;rintro e w2 ⟨rfl,hr2,hg2⟩;have Qd:=Ja (Qb.o.rc hr2 hg2);clear hr2 hg2)
     |(go_at_call 182;refine(Qj.o _ Qd.o.1).mono ?_;clear Qj;rintro e w3 ⟨hg3,hb3,_⟩;obtain rfl:=hb3 _ _ Qp.o;have Ub:=Ja (Jf Qd.o.2.2.1 hg3);clear hg3 hb3))
    refine⟨rfl,Ub.o,fun e q he=>?_,fun c k he=>?_⟩
    · rw[Qh.o]at he;cases he;rfl
    · rw[Qh.o]at he;cases he
   |ok a1 k1=>
    obtain⟨es,p1⟩:=a1;rw[hm]at Qh;have Qp:=Ja hm;have Qi:=Jbs (by rw[Jg];exact Qy) hm;have Qx:=Ja Qi;have hZ:=Jrw Qi.2.2.2.2.2.2.2.2;obtain⟨SE,hSE⟩:∃S:ByteArray,⟨(nzL es).toArray⟩=S:=⟨_,rfl⟩;have Qn:=Ja hSE;have hszE:SE.size≤13:=by
     rw[←hSE];show(nzL es).toArray.size≤13;rw[An];have:=(Xy Qi.2.2.2.2.2.2.2.2).2.2.2.2;have:=Qi.2.2.2.2.2.2.2.1;have:=Qi.2.2.2.2.2.1;omega
    clear hm Qi;by_cases h0:num es=0
    · have Qq:SE=⟨#[48]⟩:=by rw[←hSE,hZ.2 h0]
      have HC:=Ja (show J9 (Jd s) I=.bad 4 p1 by rw[Qh.o];simp[h0]);clear hSE hZ h0;subst Qq;go_enter Tryz.func155,Tryz.ntmps155
      go_upto_region 1 with fail
      rw[Qk.o,HB.o];go_wp2_with(first
       |(go_at_call 182;refine Qc.o.mono ?_;clear Qc;rintro e w1 ⟨hg1,_,hb1⟩;obtain⟨rfl,hr1⟩:=hb1 _ _ _ Qe.o;rw[Qf.o];have Qb:=Ja (Ql.o.rc hr1 hg1);clear hg1 hb1 hr1)
       |(go_at_call 120;refine(HX.o _ Qb.o.1).mono ?_;clear HX;rintro e w2 ⟨rfl,hr2,hg2⟩;have Qd:=Ja (Qb.o.rc hr2 hg2);clear hr2 hg2)
       |(go_at_call 182;refine(Qj.o _ Qd.o.1).mono ?_;clear Qj;rintro e w3 ⟨hg3,_,hb3⟩;obtain⟨rfl,hr3⟩:=hb3 _ _ _ Qp.o;rw[Qn.o];have Qr:=Ja (Qd.o.rc hr3 hg3);clear hg3 hb3 hr3)
       |(go_at_call 123;refine(HF.o _ _ _).mono ?_;clear HF;rintro e w4 ⟨rfl,rfl⟩))
      refine⟨rfl,Qr.o.2.2.1,fun e q he=>?_,fun c k he=>?_⟩
      · rw[HC.o]at he;cases he;rfl
      · rw[HC.o]at he;cases he
    · have Qv:¬SE.toList=[48]:=by
       rw[Xi,←hSE];exact fun e=>h0 (hZ.1 (by simpa using e))
      have hne5:(SE.toList == [48])=false:=beq_eq_false_iff_ne.2 Qv;have HC:=Ja (show J9 (Jd s) I=.ok (Rat.divInt (num ds) (num es)) k1 by rw[Qh.o];simp[h0]);have Qm:=Ja (fun(S:ByteArray) (V:World)=>Jle S V);have HV:=Ja (show Jhg (Jd (SD++(⟨#[47]⟩++SE)))=Rat.divInt (num ds) (num es)by
       rw[←Qf.o,←Qn.o];have e:=Qw.o;have f:=Qx.o;rw[show(⟨(nzL ds).toArray⟩:ByteArray)++(⟨#[47]⟩++⟨(nzL es).toArray⟩)=⟨(nzL ds++47::nzL es).toArray⟩from by rw[show(⟨#[47]⟩:ByteArray)=⟨([47]:List UInt8).toArray⟩from rfl,Jdd,Jdd];rfl];rw[show Jd ⟨(nzL ds++47::nzL es).toArray⟩=nzL ds++47::nzL es from by simp[Jd]];exact Jlf e.2.2.2.2.2.2.2.2 (by omega) f.2.2.2.2.2.2.2.2 (by omega) h0)
      have Qu:=Ja (show Jhg (Jd (SD++⟨#[47]⟩++SE))=Rat.divInt (num ds) (num es)by
       rw[←Qf.o,←Qn.o];have e:=Qw.o;have f:=Qx.o;rw[Jdx,show Jd ⟨(nzL ds++47::nzL es).toArray⟩=nzL ds++47::nzL es from by simp[Jd]];exact Jlf e.2.2.2.2.2.2.2.2 (by omega) f.2.2.2.2.2.2.2.2 (by omega) h0)
      clear hSE hZ h0;go_enter Tryz.func155,Tryz.ntmps155
      go_upto_region 1 with fail
      rw[Qk.o,HB.o];go_upto_region 8 with(first
       |(go_at_call 182;refine Qc.o.mono ?_;clear Qc;rintro e w1 ⟨hg1,_,hb1⟩;obtain⟨rfl,hr1⟩:=hb1 _ _ _ Qe.o;rw[Qf.o];have Qb:=Ja (Ql.o.rc hr1 hg1);clear hg1 hb1 hr1)
       |(go_at_call 120;refine(HX.o _ Qb.o.1).mono ?_;clear HX;rintro e w2 ⟨rfl,hr2,hg2⟩;have Qd:=Ja (Qb.o.rc hr2 hg2);clear hr2 hg2)
       |(go_at_call 182;refine(Qj.o _ Qd.o.1).mono ?_;clear Qj;rintro e w3 ⟨hg3,_,hb3⟩;obtain⟨rfl,hr3⟩:=hb3 _ _ _ Qp.o;rw[Qn.o];have Qr:=Ja (Qd.o.rc hr3 hg3);clear hg3 hb3 hr3)
       |(go_at_call 63;refine(Qm.o _ _).mono ?_;clear Qm;rintro e w5 ⟨u5,rfl,hu5,hq5⟩;(first|rw[HV.o]at hu5|rw[Qu.o]at hu5);have Qt:=Ja (Qr.o.below hq5);clear hq5;obtain⟨s9,a9,l9,c9,t9,b9,k9,d9,rfl⟩:=hu5.form;have Qs:=Ja hu5;clear hu5))
      have hN:=JH.new w5 38 (.bool s9) (.slice a9 l9 c9) (.bool t9) (.slice b9 k9 d9);have hA:Below w5.heap.size w5 (w5.alloc (.cells #[.bool s9,.slice a9 l9 c9,.bool t9,.slice b9 k9 d9] 38)):=(Below.refl _ w5).alloc (Aa _) _;have Qa:=Qt.o.below hA;have hP:=Qa.put (Qs.o.below hA);have hQ:=Qa.2.1.put (.bool s9) (.slice a9 l9 c9) (.bool t9) (.slice b9 k9 d9);obtain⟨W6,hW6⟩:=ex (w5.alloc (.cells #[.bool s9,.slice a9 l9 c9,.bool t9,.slice b9 k9 d9] 38));obtain⟨B6,hB6⟩:=ex (w5.heap.size);rw[hW6]at hN Qa hP hQ;rw[hB6]at hN;rw[hW6,hB6];have e0:=hN.c0;have e1:=hN.c1;have e2:=hN.c2;have e3:=hN.c3;have g0:=Qa.2.1.f0;have g1:=Qa.2.1.f1;have g2:=Qa.2.1.f2;have g3:=Qa.2.1.f3;have r0:=Qa.2.1.c0;have r1:=Qa.2.1.c1;have r2:=Qa.2.1.c2;have r3:=Qa.2.1.c3;have HP:=Ja hP;clear hA hN Qa hP hQ hW6 hB6;go_wp2_with fail
      refine bodyPost_ret (v:=.agg #[.bool s9,.slice a9 l9 c9,.bool t9,.slice b9 k9 d9]) (by simp[results,Tryz.results155,go_sem,r0,r1,r2,r3]) rfl ⟨HP.o.2.2,fun e q he=>?_,fun c k he=>?_⟩
      · rw[HC.o]at he;cases he
      · rw[HC.o]at he;cases he;exact⟨_,rfl,HP.o.1,HP.o.2.1⟩
end Go.Proofs.YtcahejkcdcjjgaaGreatDoor
namespace Go.Proofs.YtcahejkcdcjjgaaGreatDoor
open Go.RowKit Go.Shelf
def TcB(w V:World)(R B C:Nat)(s:ByteArray)(I:Int)(c:Rat):Prop:=
 CfB w V R B s I∧(∃s9 a9 l9 c9 t9 b9 k9 d9,JH V C 38 (.bool s9) (.slice a9 l9 c9) (.bool t9) (.slice b9 k9 d9)∧Ji V (.agg #[.bool s9,.slice a9 l9 c9,.bool t9,.slice b9 k9 d9]) c)∧B<C
section
variable {w V V':World} {R B C:Nat} {s:ByteArray} {I I':Int} {c:Rat}
theorem TcB.below(h:TcB w V R B C s I c)(hb:Below V.heap.size V V'):TcB w V' R B C s I c:=by
 obtain⟨h1,⟨s9,a9,l9,c9,t9,b9,k9,d9,h2,h3⟩,h4⟩:=h;exact⟨h1.below hb,⟨s9,a9,l9,c9,t9,b9,k9,d9,h2.below hb,h3.below hb⟩,h4⟩
theorem TcB.rc(h:TcB w V R B C s I c)(hr:RcB V' R s I')(hg:V.grownBy V' (some R)):TcB w V' R B C s I' c:=by
 obtain⟨h1,⟨s9,a9,l9,c9,t9,b9,k9,d9,h2,h3⟩,h4⟩:=h;have Qa:C≠R:=Jct h1.1 h2 (by decide);exact⟨h1.rc hr hg,⟨s9,a9,l9,c9,t9,b9,k9,d9,(hg.block C h2.lt (fun e=>Qa (Cb e))).trans h2,IsK.keep (r:=true) h3 (Jmr h1.1 hg)⟩,h4⟩
theorem TcB.new(h:CfB w V R B s I)(hlt:B<V.heap.size){s9:Bool}{a9:Option Addr}{l9 c9:Nat}{t9:Bool}{b9:Option Addr}{k9 d9:Nat}(hv:Ji V (.agg #[.bool s9,.slice a9 l9 c9,.bool t9,.slice b9 k9 d9]) c):
 TcB w (V.alloc (.cells #[.bool s9,.slice a9 l9 c9,.bool t9,.slice b9 k9 d9] 38)) R B V.heap.size s I c:=by
 have ha:Below V.heap.size V (V.alloc (.cells #[.bool s9,.slice a9 l9 c9,.bool t9,.slice b9 k9 d9] 38)):=(Below.refl _ V).alloc (Aa _) _;exact⟨h.below ha,⟨s9,a9,l9,c9,t9,b9,k9,d9,JH.new _ _ _ _ _ _,hv.below ha⟩,hlt⟩
theorem TcB.put(h:TcB w V R B C s I c){s9:Bool}{a9:Option Addr}{l9 c9:Nat}{t9:Bool}{b9:Option Addr}{k9 d9:Nat}{c':Rat}(hv:Ji V (.agg #[.bool s9,.slice a9 l9 c9,.bool t9,.slice b9 k9 d9]) c'):
 TcB w (put4 V C (.bool s9) (.slice a9 l9 c9) (.bool t9) (.slice b9 k9 d9)) R B C s I c':=by
 obtain⟨⟨h1,h2,h3,h4⟩,⟨s8,a8,l8,c8,t8,b8,k8,d8,h5,h6⟩,h7⟩:=h;have Qa:R≠C:=fun e=>Jct h1 h5 (by decide) e.symm;have hC:w.heap.size≤C:=by omega
 refine⟨⟨?_,h2.putFar (by omega) _ _ _ _,J1 (J1 (J1 (J1 h3 hC 0 _) hC 1 _) hC 2 _) hC 3 _,h4⟩,⟨s9,a9,l9,c9,t9,b9,k9,d9,h5.put _ _ _ _,IsK.keep (r:=true) hv (fun _ _ _ g=>Row.put4 g h5 rfl rfl rfl rfl _ _ _ _)⟩,h7⟩;have g0:=(Below.heap_setCell V ⟨C,0,none⟩ (.bool s9) R Qa).trans h1;have g1:=(Below.heap_setCell _ ⟨C,1,none⟩ (.slice a9 l9 c9) R Qa).trans g0;have g2:=(Below.heap_setCell _ ⟨C,2,none⟩ (.bool t9) R Qa).trans g1;exact(Below.heap_setCell _ ⟨C,3,none⟩ (.slice b9 k9 d9) R Qa).trans g2
end
def Ju7(w:World)(R:Nat)(s:ByteArray)(I:Nat)(r:Ending)(w':World):Prop:=
 w.grownBy w' (some R)∧(∀e q,JR (Jd s) I=.bad e q→r=.panicked [{ v:=XZ e q,recovered:=false }])∧(∀c n k,JR (Jd s) I=.ok (c,n) k→∃u,r=.returned (.tuple #[u,.int .i64 (n:Int)])∧Ji w' u c∧RcB w' R s (k:Int))
end Go.Proofs.YtcahejkcdcjjgaaGreatDoor
namespace Go.Proofs.YtcahejkcdcjjgaaGreatDoor
open Go.RowKit Go.Shelf
attribute [local go_sem] Oper.semAt_some
def TxB(w V:World)(R B C:Nat)(s:ByteArray)(I:Int)(x y z u:Value)(c:Rat):Prop:=CfB w V R B s I∧JH V C 38 x y z u∧Ji V (.agg #[x,y,z,u]) c∧B<C
def FxB(w V:World)(R B:Nat)(s:ByteArray)(I:Int)(x y z u:Value)(c:Rat):Prop:=JH V B 38 x y z u∧Ji V (.agg #[x,y,z,u]) c∧RcB V R s I∧w.grownBy V (some R)
theorem TxB.below{w V V':World}{R B C:Nat}{s:ByteArray}{I:Int}{x y z u:Value}{c:Rat}(h:TxB w V R B C s I x y z u c)(hb:Below V.heap.size V V'):TxB w V' R B C s I x y z u c:=⟨h.1.below hb,h.2.1.below hb,h.2.2.1.below hb,h.2.2.2⟩
theorem TxB.rc{w V V':World}{R B C:Nat}{s:ByteArray}{I I':Int}{x y z u:Value}{c:Rat}(h:TxB w V R B C s I x y z u c)(hr:RcB V' R s I')(hg:V.grownBy V' (some R)):TxB w V' R B C s I' x y z u c:=by
 have Qa:C≠R:=Jct h.1.1 h.2.1 (by decide);exact⟨h.1.rc hr hg,(hg.block C h.2.1.lt (fun e=>Qa (Cb e))).trans h.2.1,IsK.keep (r:=true) h.2.2.1 (Jmr h.1.1 hg),h.2.2.2⟩
theorem TxB.put{w V:World}{R B C:Nat}{s:ByteArray}{I:Int}{x y z u:Value}{c:Rat}(h:TxB w V R B C s I x y z u c):FxB w (put4 V B x y z u) R B s I x y z u c:=
 ⟨h.1.2.1.put _ _ _ _,(h.1.put h.2.2.1).1,(h.1.put h.2.2.1).2.1,(h.1.put h.2.2.1).2.2⟩
theorem TcB.cells{w V:World}{R B C:Nat}{s:ByteArray}{I:Int}{c:Rat}(h:TcB w V R B C s I c):∃s9 a9 l9 c9 t9 b9 k9 d9,TxB w V R B C s I (.bool s9) (.slice a9 l9 c9) (.bool t9) (.slice b9 k9 d9) c:=by
 obtain⟨h1,⟨s9,a9,l9,c9,t9,b9,k9,d9,h2,h3⟩,h4⟩:=h;exact⟨s9,a9,l9,c9,t9,b9,k9,d9,h1,h2,h3,h4⟩
theorem TxB.drew{w V:World}{R B C:Nat}{s:ByteArray}{I:Int}{x y z u:Value}{c:Rat}(h:TxB w V R B C s I x y z u c):TxB w V.drew R B C s I x y z u c:=h.below ((Below.refl _ V).drew)
theorem Jnv(R:Nat)(s:ByteArray)(I:Nat)(w:World)(h:RcB w R s I)(hI:I≤s.size)(hs:s.size≤300):
 Calls Tryz.prog 121 #[.pointer (some ⟨R,0,none⟩)] w fun r w'=>Ju7 w R s I r w':=by
 have Qt:Tryz.prog.follows .mixedOrders=true:=by kernel_rfl
 have Qr:=CfB.new h;have Ql:w.heap.size<(w.alloc (.cells #[.bool false,.slice none 0 0,.bool false,.slice none 0 0] 38)).heap.size:=Qr.2.1.lt;obtain⟨W0,hW0⟩:=ex (w.alloc (.cells #[.bool false,.slice none 0 0,.bool false,.slice none 0 0] 38));obtain⟨B,hB⟩:=ex (w.heap.size);rw[hW0]at Ql;rw[hW0,hB]at Qr;rw[hB]at Ql;have Qx:=Ja hW0;have HB:=Ja hB;have Qz:=Ja Qr;have Ud:=Ja Ql;have HF:=Ja (fun(e q:Int) (V:World)=>Jeu (.pointer (some ⟨R,0,none⟩)) e q V);have Qw:=Ja (M3.Jk0 1 (by omega) (by omega) W0);clear h hW0 hB Qr Ql;go_enter Tryz.func121,Tryz.ntmps121
 go_upto_region 1 with fail
 rw[Qx.o,HB.o];go_upto_region 2 with(go_at_call 77;refine Qw.o.mono ?_;clear Qw;rintro e w1 ⟨u1,rfl,hu1,hq1⟩;obtain⟨s9,a9,l9,c9,t9,b9,k9,d9,rfl⟩:=hu1.form)
 have hT:=TcB.new (Qz.o.below hq1) (AA Ud.o hq1.size) hu1;obtain⟨W1,hW1⟩:=ex (w1.alloc (.cells #[.bool s9,.slice a9 l9 c9,.bool t9,.slice b9 k9 d9] 38));obtain⟨C,hC⟩:=ex (w1.heap.size);rw[hW1,hC]at hT;rw[hW1,hC];have HT:=Ja (show TcB w W1 R B C s I 1 from hT);clear hT hW1 hC hu1 hq1;have Qk:=Ja (Jir R s I W1 HT.o.1.1 hI hs);obtain⟨J,hJ⟩:=ex (skB (Jd s) I);rw[hJ]at Qk;have HJ:=Ja hJ;have Qu:J≤s.size:=by rw[←hJ,←Jg];exact Yj (by rw[Jg];exact hI)
 clear hJ;cases hdg:Ja7 (Jd s) J with
 |false=>
  rw[hdg]at Qk;have Qh:=Ja (show JR (Jd s) I=if JL (Jd s) J 120 then(match XG (Jd s) (J+1)with|.bad e p=>.bad e p|.ok n m=>.ok (1,n) m)else .bad 2 J by
   unfold JR;rw[HJ.o,hdg];simp only[A6,if_false];split
   · cases XG (Jd s) (J+1)<;>rfl
   · rfl)
  have Ub:=Ja (show skB (Jd s) J=J by rw[←HJ.o];exact Jak _ _);clear hdg;obtain⟨b,hb⟩:∃b,b=JL (Jd s) (skB (Jd s) J) 120:=⟨_,rfl⟩;have HX:=Ja (fun(V:World) (hh:RcB V R s (J:Int))=>Y0 R s J 120 V hh Qu hs b hb);rw[Ub.o]at HX hb;cases b with
  |false=>
   have Qc:=Ja (show JR (Jd s) I=.bad 2 J by rw[Qh.o,←hb];rfl);clear hb;go_wp2_with(first
    |(go_at_call 154;refine Qk.o.mono ?_;clear Qk;rintro e w2 ⟨rfl,hr2,hg2⟩;have Qj:=Ja (HT.o.rc hr2 hg2);clear hr2 hg2)
    |(go_at_call 120;refine(HX.o _ Qj.o.1.1).mono ?_;clear HX;rintro e w3 ⟨rfl,hr3,hg3⟩;have c13:=hr3.c1;have Qq:=Ja (Qj.o.rc hr3 hg3);clear hr3 hg3)
    |(go_at_call 123;refine(HF.o _ _ _).mono ?_;clear HF;rintro e w4 ⟨rfl,rfl⟩))
   refine⟨rfl,Qq.o.1.2.2.1,fun e q he=>?_,fun c n k he=>?_⟩
   · rw[Qc.o]at he;cases he;rfl
   · rw[Qc.o]at he;cases he
  |true=>
   have Qp:J+1≤s.size:=by have:=JZ hb.symm;rw[Jg]at this;omega
   have Qd:=Ja (show JR (Jd s) I=(match XG (Jd s) (J+1)with|.bad e p=>.bad e p|.ok n m=>.ok (1,n) m)by rw[Qh.o,if_pos hb.symm]);clear hb Qh;go_upto_region 6 with(first
    |(go_at_call 154;refine Qk.o.mono ?_;clear Qk;rintro e w2 ⟨rfl,hr2,hg2⟩;have Qj:=Ja (HT.o.rc hr2 hg2);clear hr2 hg2)
    |(go_at_call 120;refine(HX.o _ Qj.o.1.1).mono ?_;clear HX;rintro e w3 ⟨rfl,hr3,hg3⟩;have Qq:=Ja (Qj.o.rc hr3 hg3);clear hr3 hg3))
   obtain⟨s8,a8,l8,c8,t8,b8,k8,d8,hTX⟩:=Qq.o.cells;have Qg:=hTX.drew;clear hTX;cases hp:XG (Jd s) (J+1)with
   |bad e5 q5=>
    have Qn:=Ja (fun(V:World) (hh:RcB V R s ((J+1:Nat):Int))=>(Jew R s (J+1) V hh Qp hs).mono (fun r w5 (h5:Jrp V R s (J+1) r w5)=>(⟨h5.2.1 _ _ hp,h5.1⟩:r=.panicked [{ v:=XZ (e5:Int) (q5:Int),recovered:=false }]∧V.grownBy w5 (some R))));have Qc:=Ja (show JR (Jd s) I=.bad e5 q5 by rw[Qd.o,hp]);clear hp Qd;have Qi:=Qg;replace Qg:∃I9:Int,(false=false→I9=((J+1:Nat):Int))∧TxB w w3.drew R B C s I9 (.bool s8) (.slice a8 l8 c8) (.bool t8) (.slice b8 k8 d8) (1):=⟨_,fun _=>rfl,Qi⟩;clear Qi;refine Jr Qt [[],[],[1],[0,2,0],[2,3,0,1,2,3]] (by kernel_rfl) (by decide)
     (fun D act V=>∃(ta tb tc td:Value),act={ tmps:=#[.pointer (some ⟨R,0,none⟩),undef,.pointer (some ⟨B,0,none⟩),td,.pointer (some ⟨C,0,none⟩),.bool false,.agg #[.bool s9,.slice a9 l9 c9,.bool t9,.slice b9 k9 d9],.pointer (some ⟨R,0,none⟩),.bool false,.bool false,undef,undef,.bool true,.pointer (some ⟨R,0,none⟩),.bool true,ta,tb,tc,undef,undef,undef,undef,undef,undef,undef,undef,undef,undef],defers:=[] }∧Hid ((D 0=true→ta=.agg #[.bool s8,.slice a8 l8 c8,.bool t8,.slice b8 k8 d8])∧(D 1=true→tb=.pointer (some ⟨R,0,none⟩))∧(D 2=true→False)∧(D 4=true→True))∧Hid ((D 3=false→∃I9:Int,(D 2=false→I9=((J+1:Nat):Int))∧TxB w V R B C s I9 (.bool s8) (.slice a8 l8 c8) (.bool t8) (.slice b8 k8 d8) (1))∧(D 3=true→True)))
     ⟨_,_,_,_,rfl,Ja (by simp),Ja ⟨fun _=>Qg,by simp⟩⟩ ?step1 ?fin1
    case step1=>
     rintro D act V i ds hcl hi hds hDi ⟨ta,tb,tc,td,rfl,GG,SS0⟩;have Qv:i<5:=(Ad.1 hi).1;obtain rfl|rfl|rfl|rfl|rfl:=Lt5 i (by omega)
     all_goals
      simp only[Aj,Ah,Ak]at hi;subst hi
     · have Qa:D 3=false:=nyt hcl hDi;have Qb:=SS0.o.1 Qa;obtain⟨I9,hI1,hT⟩:=Qb;have e0:=hT.2.1.c0;have e1:=hT.2.1.c1;have e2:=hT.2.1.c2;have e3:=hT.2.1.c3;clear hds;refine Jb rfl rfl fun K hK=>?_;go_simp;exact hK _ _ ⟨_,_,_,_,rfl,Ja ⟨fun _=>rfl,GG.o.2.1,GG.o.2.2.1,fun _=>trivial⟩,SS0⟩
     · have Qa:D 3=false:=by
        cases h:D 3 with
        |false=>rfl
        |true=>rw[(hcl 2 _ rfl (hcl 3 _ rfl h 2 (by simp)) 1 (by simp))]at hDi;cases hDi
       have Qb:=SS0.o.1 Qa;clear hds;refine Jb rfl rfl fun K hK=>?_;go_simp;exact hK _ _ ⟨_,_,_,_,rfl,Ja ⟨GG.o.1,fun _=>rfl,GG.o.2.2.1,fun _=>trivial⟩,SS0⟩
     · have Qa:D 3=false:=nyt hcl hDi;have Qb:=SS0.o.1 Qa;obtain rfl:=GG.o.2.1 (hds 1 (by simp));obtain⟨I9,hI1,hT⟩:=Qb;obtain rfl:=hI1 hDi;clear hds;have HC:=Ja (Qn.o V hT.1.1);refine Jb rfl rfl fun K hK=>?_;go_simp;go_wp2_with(go_at_call 156;refine HC.o.mono ?_;rintro e w5 ⟨rfl,hg5⟩)
       exact⟨rfl,Jf hT.1.2.2.1 hg5,(fun e q he=>by rw[Qc.o]at he;cases he;rfl),(fun c n k he=>by rw[Qc.o]at he;cases he)⟩
     · have Qb:=SS0.o.1 hDi;have NV:False:=GG.o.2.2.1 (hds 2 (by simp));clear hds;exact(NV).elim
     · have NV:False:=GG.o.2.2.1 (hds 2 (by simp));clear hds;exact(NV).elim
    case fin1=>
     rintro D act V hDD ⟨ta,tb,tc,td,rfl,GG,SS0⟩;exact(GG.o.2.2.1 (hDD 2 (by decide))).elim
   |ok n5 m5=>
    have Qn:=Ja (fun(V:World) (hh:RcB V R s ((J+1:Nat):Int))=>(Jew R s (J+1) V hh Qp hs).mono (fun r w5 (h5:Jrp V R s (J+1) r w5)=>(⟨(h5.2.2 _ _ hp).1,(h5.2.2 _ _ hp).2,h5.1⟩:r=.returned (.int .i64 (n5:Int))∧RcB w5 R s (m5:Int)∧V.grownBy w5 (some R))));have Qc:=Ja (show JR (Jd s) I=.ok (1,n5) m5 by rw[Qd.o,hp]);clear hp Qd;have Qi:=Qg;replace Qg:∃I9:Int,(false=false→I9=((J+1:Nat):Int))∧(false=true→I9=(m5:Int))∧TxB w w3.drew R B C s I9 (.bool s8) (.slice a8 l8 c8) (.bool t8) (.slice b8 k8 d8) (1):=⟨_,fun _=>rfl,(fun h=>by cases h),Qi⟩;clear Qi;refine Jr Qt [[],[],[1],[0,2,0],[2,3,0,1,2,3]] (by kernel_rfl) (by decide)
     (fun D act V=>∃(ta tb tc td:Value),act={ tmps:=#[.pointer (some ⟨R,0,none⟩),undef,.pointer (some ⟨B,0,none⟩),td,.pointer (some ⟨C,0,none⟩),.bool false,.agg #[.bool s9,.slice a9 l9 c9,.bool t9,.slice b9 k9 d9],.pointer (some ⟨R,0,none⟩),.bool false,.bool false,undef,undef,.bool true,.pointer (some ⟨R,0,none⟩),.bool true,ta,tb,tc,undef,undef,undef,undef,undef,undef,undef,undef,undef,undef],defers:=[] }∧Hid ((D 0=true→ta=.agg #[.bool s8,.slice a8 l8 c8,.bool t8,.slice b8 k8 d8])∧(D 1=true→tb=.pointer (some ⟨R,0,none⟩))∧(D 2=true→tc=.int .i64 (n5:Int))∧(D 4=true→td=.int .i64 (n5:Int)))∧Hid ((D 3=false→∃I9:Int,(D 2=false→I9=((J+1:Nat):Int))∧(D 2=true→I9=(m5:Int))∧TxB w V R B C s I9 (.bool s8) (.slice a8 l8 c8) (.bool t8) (.slice b8 k8 d8) (1))∧(D 3=true→FxB w V R B s (m5:Int) (.bool s8) (.slice a8 l8 c8) (.bool t8) (.slice b8 k8 d8) (1))))
     ⟨_,_,_,_,rfl,Ja (by simp),Ja ⟨fun _=>Qg,by simp⟩⟩ ?step2 ?fin2
    case step2=>
     rintro D act V i ds hcl hi hds hDi ⟨ta,tb,tc,td,rfl,GG,SS0⟩;have Qv:i<5:=(Ad.1 hi).1;obtain rfl|rfl|rfl|rfl|rfl:=Lt5 i (by omega)
     all_goals
      simp only[Aj,Ah,Ak]at hi;subst hi
     · have Qa:D 3=false:=nyt hcl hDi;have Qb:=SS0.o.1 Qa;obtain⟨I9,hI1,hI2,hT⟩:=Qb;have e0:=hT.2.1.c0;have e1:=hT.2.1.c1;have e2:=hT.2.1.c2;have e3:=hT.2.1.c3;clear hds;refine Jb rfl rfl fun K hK=>?_;go_simp;exact hK _ _ ⟨_,_,_,_,rfl,Ja ⟨fun _=>rfl,GG.o.2.1,GG.o.2.2.1,GG.o.2.2.2⟩,SS0⟩
     · have Qa:D 3=false:=by
        cases h:D 3 with
        |false=>rfl
        |true=>rw[(hcl 2 _ rfl (hcl 3 _ rfl h 2 (by simp)) 1 (by simp))]at hDi;cases hDi
       have Qb:=SS0.o.1 Qa;clear hds;refine Jb rfl rfl fun K hK=>?_;go_simp;exact hK _ _ ⟨_,_,_,_,rfl,Ja ⟨GG.o.1,fun _=>rfl,GG.o.2.2.1,GG.o.2.2.2⟩,SS0⟩
     · have Qa:D 3=false:=nyt hcl hDi;have Qb:=SS0.o.1 Qa;obtain rfl:=GG.o.2.1 (hds 1 (by simp));obtain⟨I9,hI1,hI2,hT⟩:=Qb;obtain rfl:=hI1 hDi;clear hds;have HC:=Ja (Qn.o V hT.1.1);refine Jb rfl rfl fun K hK=>?_;go_simp;go_wp2_with(go_at_call 156;refine HC.o.mono ?_;rintro e w5 ⟨rfl,hr5,hg5⟩)
       exact⟨_,_,_,_,rfl,Ja ⟨GG.o.1,fun _=>rfl,fun _=>rfl,GG.o.2.2.2⟩,Ja ⟨fun _=>⟨_,fun h=>by simp at h,fun _=>rfl,hT.rc hr5 hg5⟩,fun h=>by simp[Qa]at h⟩⟩
     · have Qb:=SS0.o.1 hDi;obtain rfl:=GG.o.1 (hds 0 (by simp));obtain⟨I9,hI1,hI2,hT⟩:=Qb;obtain rfl:=hI2 (hds 2 (by simp));have r0:=hT.1.2.1.c0;have r1:=hT.1.2.1.c1;have r2:=hT.1.2.1.c2;have r3:=hT.1.2.1.c3;have g0:=hT.1.2.1.f0;have g1:=hT.1.2.1.f1;have g2:=hT.1.2.1.f2;have g3:=hT.1.2.1.f3;clear hds;refine Jb rfl rfl fun K hK=>?_;go_simp;exact hK _ _ ⟨_,_,_,_,rfl,Ja ⟨fun _=>rfl,GG.o.2.1,GG.o.2.2.1,GG.o.2.2.2⟩,Ja ⟨fun h=>by simp at h,fun _=>hT.put⟩⟩
     · obtain rfl:=GG.o.2.2.1 (hds 2 (by simp));clear hds;refine Jb rfl rfl fun K hK=>?_;go_simp;exact hK _ _ ⟨_,_,_,_,rfl,Ja ⟨GG.o.1,GG.o.2.1,fun _=>rfl,fun _=>rfl⟩,SS0⟩
    case fin2=>
     rintro D act V hDD ⟨ta,tb,tc,td,rfl,GG,SS0⟩;have Qe:=Ja (SS0.o.2 (hDD 3 (by decide)));obtain rfl:=GG.o.2.2.2 (hDD 4 (by decide));clear GG SS0 hDD;have r0:=Qe.o.1.c0;have r1:=Qe.o.1.c1;have r2:=Qe.o.1.c2;have r3:=Qe.o.1.c3;go_wp2_with fail
     refine bodyPost_ret (v:=.tuple #[.agg #[.bool s8,.slice a8 l8 c8,.bool t8,.slice b8 k8 d8],.int .i64 (n5:Int)]) (by simp[results,Tryz.results121,go_sem,r0,r1,r2,r3]) rfl ⟨Qe.o.2.2.2,fun e q he=>?_,fun c n k he=>?_⟩
     · rw[Qc.o]at he;cases he
     · rw[Qc.o]at he;cases he;exact⟨_,rfl,Qe.o.2.1,Qe.o.2.2.1⟩
 |true=>
  rw[hdg]at Qk;have Qs:=Ja (fun(V:World) (hh:RcB V R s (J:Int))=>Jtp R s J V hh Qu hs);have Qh:=Ja (show JR (Jd s) I=(match J9 (Jd s) J with|.bad e p=>.bad e p|.ok c k=>if JL (Jd s) (skB (Jd s) k) 120 then(match XG (Jd s) (skB (Jd s) k+1)with|.bad e p=>.bad e p|.ok n m=>.ok (c,n) m)else .ok (c,0) (skB (Jd s) k))by
   unfold JR;rw[HJ.o,hdg];simp only[if_true];cases J9 (Jd s) J with
    |bad e p=>rfl
    |ok c k=>
    simp only[];split
    · cases XG (Jd s) (skB (Jd s) k+1)<;>rfl
    · rfl)
  clear hdg;cases hcf:J9 (Jd s) J with
  |bad e4 q4=>
   have Qy:=Ja hcf;have Qc:=Ja (show JR (Jd s) I=.bad e4 q4 by rw[Qh.o,hcf]);clear hcf Qh;go_wp2_with(first
    |(go_at_call 154;refine Qk.o.mono ?_;clear Qk;rintro e w2 ⟨rfl,hr2,hg2⟩;have Qj:=Ja (HT.o.rc hr2 hg2);clear hr2 hg2)
    |(go_at_call 155;refine(Qs.o _ Qj.o.1.1).mono ?_;clear Qs;rintro e w3 ⟨hg3,hb3,_⟩;obtain rfl:=hb3 _ _ Qy.o;have Uf:=Ja (Jf Qj.o.1.2.2.1 hg3);clear hg3 hb3))
   refine⟨rfl,Uf.o,fun e q he=>?_,fun c n k he=>?_⟩
   · rw[Qc.o]at he;cases he;rfl
   · rw[Qc.o]at he;cases he
  |ok c4 k4=>
   have Uc:=Ja hcf;have Ua:k4≤s.size:=by have:=(Jjz (by rw[Jg];exact Qu) hcf).2;rwa[Jg]at this
   replace Qh:=Ja (show JR (Jd s) I=(if JL (Jd s) (skB (Jd s) k4) 120 then(match XG (Jd s) (skB (Jd s) k4+1)with|.bad e p=>.bad e p|.ok n m=>.ok (c4,n) m)else .ok (c4,0) (skB (Jd s) k4))by rw[Qh.o,hcf]);clear hcf;obtain⟨b,hb⟩:∃b,b=JL (Jd s) (skB (Jd s) k4) 120:=⟨_,rfl⟩;have HX:=Ja (fun(V:World) (hh:RcB V R s (k4:Int))=>Y0 R s k4 120 V hh Ua hs b hb);obtain⟨P,hPP⟩:=ex (skB (Jd s) k4);rw[hPP]at HX hb Qh;clear hPP;obtain⟨s7,a7,l7,c7,t7,b7,k7,d7,hT7⟩:=HT.o.cells;have Ue:=Ja hT7;clear hT7;go_upto_region 5 with(first
    |(go_at_call 154;refine Qk.o.mono ?_;clear Qk;rintro e w2 ⟨rfl,hr2,hg2⟩;have Qj:=Ja (Ue.o.rc hr2 hg2);clear hr2 hg2)
    |(go_at_call 155;refine(Qs.o _ Qj.o.1.1).mono ?_;clear Qs;rintro e w4 ⟨hg4,_,hb4⟩;obtain⟨u4,rfl,hu4,hr4⟩:=hb4 _ _ Uc.o;obtain⟨s6,a6,l6,c6,t6,b6,k6,d6,rfl⟩:=hu4.form;have Qf:=Qj.o.rc hr4 hg4;have f0:=Qf.2.1.f0;have f1:=Qf.2.1.f1;have f2:=Qf.2.1.f2;have f3:=Qf.2.1.f3;have e0:=Qf.2.1.c0;have e1:=Qf.2.1.c1;have e2:=Qf.2.1.c2;have e3:=Qf.2.1.c3;have Qm:=Ja ((show TcB w w4 R B C s (k4:Int) 1 from⟨Qf.1,⟨_,_,_,_,_,_,_,_,Qf.2.1,Qf.2.2.1⟩,Qf.2.2.2⟩).put hu4);clear hg4 hb4 hu4 hr4 Qf))
   clear f0 f1 f2 f3 e0 e1 e2 e3;replace Qm:=Ja (show TcB w (put4 w4 C (.bool s6) (.slice a6 l6 c6) (.bool t6) (.slice b6 k6 d6)) R B C s (k4:Int) c4 from Qm.o);have Qo:∃W,W=put4 w4 C (.bool s6) (.slice a6 l6 c6) (.bool t6) (.slice b6 k6 d6):=⟨_,rfl⟩;obtain⟨W4,Qo⟩:=Qo;rw[←Qo]at Qm;unfold put4 at Qo;rw[←Qo];clear Qo;cases b with
   |true=>
    have Qp:P+1≤s.size:=by have:=JZ hb.symm;rw[Jg]at this;omega
    have Qd:=Ja (show JR (Jd s) I=(match XG (Jd s) (P+1)with|.bad e p=>.bad e p|.ok n m=>.ok (c4,n) m)by rw[Qh.o,if_pos hb.symm]);clear hb Qh;go_upto_region 6 with(go_at_call 120;refine(HX.o _ Qm.o.1.1).mono ?_;clear HX;rintro e w3 ⟨rfl,hr3,hg3⟩;have Qq:=Ja (Qm.o.rc hr3 hg3);clear hr3 hg3)
    obtain⟨s8,a8,l8,c8,t8,b8,k8,d8,hTX⟩:=Qq.o.cells;have Qg:=hTX.drew;clear hTX;cases hp:XG (Jd s) (P+1)with
    |bad e5 q5=>
     have Qn:=Ja (fun(V:World) (hh:RcB V R s ((P+1:Nat):Int))=>(Jew R s (P+1) V hh Qp hs).mono (fun r w5 (h5:Jrp V R s (P+1) r w5)=>(⟨h5.2.1 _ _ hp,h5.1⟩:r=.panicked [{ v:=XZ (e5:Int) (q5:Int),recovered:=false }]∧V.grownBy w5 (some R))));have Qc:=Ja (show JR (Jd s) I=.bad e5 q5 by rw[Qd.o,hp]);clear hp Qd;have Qi:=Qg;replace Qg:∃I9:Int,(false=false→I9=((P+1:Nat):Int))∧TxB w w3.drew R B C s I9 (.bool s8) (.slice a8 l8 c8) (.bool t8) (.slice b8 k8 d8) (c4):=⟨_,fun _=>rfl,Qi⟩;clear Qi;refine Jr Qt [[],[],[1],[0,2,0],[2,3,0,1,2,3]] (by kernel_rfl) (by decide)
      (fun D act V=>∃(ta tb tc td:Value),act={ tmps:=#[.pointer (some ⟨R,0,none⟩),undef,.pointer (some ⟨B,0,none⟩),td,.pointer (some ⟨C,0,none⟩),.bool true,.agg #[.bool s9,.slice a9 l9 c9,.bool t9,.slice b9 k9 d9],.pointer (some ⟨R,0,none⟩),.bool true,.bool true,.pointer (some ⟨R,0,none⟩),.agg #[.bool s6,.slice a6 l6 c6,.bool t6,.slice b6 k6 d6],.bool true,.pointer (some ⟨R,0,none⟩),.bool true,ta,tb,tc,undef,undef,undef,undef,undef,undef,undef,undef,undef,undef],defers:=[] }∧Hid ((D 0=true→ta=.agg #[.bool s8,.slice a8 l8 c8,.bool t8,.slice b8 k8 d8])∧(D 1=true→tb=.pointer (some ⟨R,0,none⟩))∧(D 2=true→False)∧(D 4=true→True))∧Hid ((D 3=false→∃I9:Int,(D 2=false→I9=((P+1:Nat):Int))∧TxB w V R B C s I9 (.bool s8) (.slice a8 l8 c8) (.bool t8) (.slice b8 k8 d8) (c4))∧(D 3=true→True)))
      ⟨_,_,_,_,rfl,Ja (by simp),Ja ⟨fun _=>Qg,by simp⟩⟩ ?step3 ?fin3
     case step3=>
      rintro D act V i ds hcl hi hds hDi ⟨ta,tb,tc,td,rfl,GG,SS0⟩;have Qv:i<5:=(Ad.1 hi).1;obtain rfl|rfl|rfl|rfl|rfl:=Lt5 i (by omega)
      all_goals
       simp only[Aj,Ah,Ak]at hi;subst hi
      · have Qa:D 3=false:=nyt hcl hDi;have Qb:=SS0.o.1 Qa;obtain⟨I9,hI1,hT⟩:=Qb;have e0:=hT.2.1.c0;have e1:=hT.2.1.c1;have e2:=hT.2.1.c2;have e3:=hT.2.1.c3;clear hds;refine Jb rfl rfl fun K hK=>?_;go_simp;exact hK _ _ ⟨_,_,_,_,rfl,Ja ⟨fun _=>rfl,GG.o.2.1,GG.o.2.2.1,fun _=>trivial⟩,SS0⟩
      · have Qa:D 3=false:=by
         cases h:D 3 with
         |false=>rfl
         |true=>rw[(hcl 2 _ rfl (hcl 3 _ rfl h 2 (by simp)) 1 (by simp))]at hDi;cases hDi
        have Qb:=SS0.o.1 Qa;clear hds;refine Jb rfl rfl fun K hK=>?_;go_simp;exact hK _ _ ⟨_,_,_,_,rfl,Ja ⟨GG.o.1,fun _=>rfl,GG.o.2.2.1,fun _=>trivial⟩,SS0⟩
      · have Qa:D 3=false:=nyt hcl hDi;have Qb:=SS0.o.1 Qa;obtain rfl:=GG.o.2.1 (hds 1 (by simp));obtain⟨I9,hI1,hT⟩:=Qb;obtain rfl:=hI1 hDi;clear hds;have HC:=Ja (Qn.o V hT.1.1);refine Jb rfl rfl fun K hK=>?_;go_simp;go_wp2_with(go_at_call 156;refine HC.o.mono ?_;rintro e w5 ⟨rfl,hg5⟩)
        exact⟨rfl,Jf hT.1.2.2.1 hg5,(fun e q he=>by rw[Qc.o]at he;cases he;rfl),(fun c n k he=>by rw[Qc.o]at he;cases he)⟩
      · have Qb:=SS0.o.1 hDi;have NV:False:=GG.o.2.2.1 (hds 2 (by simp));clear hds;exact(NV).elim
      · have NV:False:=GG.o.2.2.1 (hds 2 (by simp));clear hds;exact(NV).elim
     case fin3=>
      rintro D act V hDD ⟨ta,tb,tc,td,rfl,GG,SS0⟩;exact(GG.o.2.2.1 (hDD 2 (by decide))).elim
    |ok n5 m5=>
     have Qn:=Ja (fun(V:World) (hh:RcB V R s ((P+1:Nat):Int))=>(Jew R s (P+1) V hh Qp hs).mono (fun r w5 (h5:Jrp V R s (P+1) r w5)=>(⟨(h5.2.2 _ _ hp).1,(h5.2.2 _ _ hp).2,h5.1⟩:r=.returned (.int .i64 (n5:Int))∧RcB w5 R s (m5:Int)∧V.grownBy w5 (some R))));have Qc:=Ja (show JR (Jd s) I=.ok (c4,n5) m5 by rw[Qd.o,hp]);clear hp Qd;have Qi:=Qg;replace Qg:∃I9:Int,(false=false→I9=((P+1:Nat):Int))∧(false=true→I9=(m5:Int))∧TxB w w3.drew R B C s I9 (.bool s8) (.slice a8 l8 c8) (.bool t8) (.slice b8 k8 d8) (c4):=⟨_,fun _=>rfl,(fun h=>by cases h),Qi⟩;clear Qi;refine Jr Qt [[],[],[1],[0,2,0],[2,3,0,1,2,3]] (by kernel_rfl) (by decide)
      (fun D act V=>∃(ta tb tc td:Value),act={ tmps:=#[.pointer (some ⟨R,0,none⟩),undef,.pointer (some ⟨B,0,none⟩),td,.pointer (some ⟨C,0,none⟩),.bool true,.agg #[.bool s9,.slice a9 l9 c9,.bool t9,.slice b9 k9 d9],.pointer (some ⟨R,0,none⟩),.bool true,.bool true,.pointer (some ⟨R,0,none⟩),.agg #[.bool s6,.slice a6 l6 c6,.bool t6,.slice b6 k6 d6],.bool true,.pointer (some ⟨R,0,none⟩),.bool true,ta,tb,tc,undef,undef,undef,undef,undef,undef,undef,undef,undef,undef],defers:=[] }∧Hid ((D 0=true→ta=.agg #[.bool s8,.slice a8 l8 c8,.bool t8,.slice b8 k8 d8])∧(D 1=true→tb=.pointer (some ⟨R,0,none⟩))∧(D 2=true→tc=.int .i64 (n5:Int))∧(D 4=true→td=.int .i64 (n5:Int)))∧Hid ((D 3=false→∃I9:Int,(D 2=false→I9=((P+1:Nat):Int))∧(D 2=true→I9=(m5:Int))∧TxB w V R B C s I9 (.bool s8) (.slice a8 l8 c8) (.bool t8) (.slice b8 k8 d8) (c4))∧(D 3=true→FxB w V R B s (m5:Int) (.bool s8) (.slice a8 l8 c8) (.bool t8) (.slice b8 k8 d8) (c4))))
      ⟨_,_,_,_,rfl,Ja (by simp),Ja ⟨fun _=>Qg,by simp⟩⟩ ?step4 ?fin4
     case step4=>
      rintro D act V i ds hcl hi hds hDi ⟨ta,tb,tc,td,rfl,GG,SS0⟩;have Qv:i<5:=(Ad.1 hi).1;obtain rfl|rfl|rfl|rfl|rfl:=Lt5 i (by omega)
      all_goals
       simp only[Aj,Ah,Ak]at hi;subst hi
      · have Qa:D 3=false:=nyt hcl hDi;have Qb:=SS0.o.1 Qa;obtain⟨I9,hI1,hI2,hT⟩:=Qb;have e0:=hT.2.1.c0;have e1:=hT.2.1.c1;have e2:=hT.2.1.c2;have e3:=hT.2.1.c3;clear hds;refine Jb rfl rfl fun K hK=>?_;go_simp;exact hK _ _ ⟨_,_,_,_,rfl,Ja ⟨fun _=>rfl,GG.o.2.1,GG.o.2.2.1,GG.o.2.2.2⟩,SS0⟩
      · have Qa:D 3=false:=by
         cases h:D 3 with
         |false=>rfl
         |true=>rw[(hcl 2 _ rfl (hcl 3 _ rfl h 2 (by simp)) 1 (by simp))]at hDi;cases hDi
        have Qb:=SS0.o.1 Qa;clear hds;refine Jb rfl rfl fun K hK=>?_;go_simp;exact hK _ _ ⟨_,_,_,_,rfl,Ja ⟨GG.o.1,fun _=>rfl,GG.o.2.2.1,GG.o.2.2.2⟩,SS0⟩
      · have Qa:D 3=false:=nyt hcl hDi;have Qb:=SS0.o.1 Qa;obtain rfl:=GG.o.2.1 (hds 1 (by simp));obtain⟨I9,hI1,hI2,hT⟩:=Qb;obtain rfl:=hI1 hDi;clear hds;have HC:=Ja (Qn.o V hT.1.1);refine Jb rfl rfl fun K hK=>?_;go_simp;go_wp2_with(go_at_call 156;refine HC.o.mono ?_;rintro e w5 ⟨rfl,hr5,hg5⟩)
        exact⟨_,_,_,_,rfl,Ja ⟨GG.o.1,fun _=>rfl,fun _=>rfl,GG.o.2.2.2⟩,Ja ⟨fun _=>⟨_,fun h=>by simp at h,fun _=>rfl,hT.rc hr5 hg5⟩,fun h=>by simp[Qa]at h⟩⟩
      · have Qb:=SS0.o.1 hDi;obtain rfl:=GG.o.1 (hds 0 (by simp));obtain⟨I9,hI1,hI2,hT⟩:=Qb;obtain rfl:=hI2 (hds 2 (by simp));have r0:=hT.1.2.1.c0;have r1:=hT.1.2.1.c1;have r2:=hT.1.2.1.c2;have r3:=hT.1.2.1.c3;have g0:=hT.1.2.1.f0;have g1:=hT.1.2.1.f1;have g2:=hT.1.2.1.f2;have g3:=hT.1.2.1.f3;clear hds;refine Jb rfl rfl fun K hK=>?_;go_simp;exact hK _ _ ⟨_,_,_,_,rfl,Ja ⟨fun _=>rfl,GG.o.2.1,GG.o.2.2.1,GG.o.2.2.2⟩,Ja ⟨fun h=>by simp at h,fun _=>hT.put⟩⟩
      · obtain rfl:=GG.o.2.2.1 (hds 2 (by simp));clear hds;refine Jb rfl rfl fun K hK=>?_;go_simp;exact hK _ _ ⟨_,_,_,_,rfl,Ja ⟨GG.o.1,GG.o.2.1,fun _=>rfl,fun _=>rfl⟩,SS0⟩
     case fin4=>
      rintro D act V hDD ⟨ta,tb,tc,td,rfl,GG,SS0⟩;have Qe:=Ja (SS0.o.2 (hDD 3 (by decide)));obtain rfl:=GG.o.2.2.2 (hDD 4 (by decide));clear GG SS0 hDD;have r0:=Qe.o.1.c0;have r1:=Qe.o.1.c1;have r2:=Qe.o.1.c2;have r3:=Qe.o.1.c3;go_wp2_with fail
      refine bodyPost_ret (v:=.tuple #[.agg #[.bool s8,.slice a8 l8 c8,.bool t8,.slice b8 k8 d8],.int .i64 (n5:Int)]) (by simp[results,Tryz.results121,go_sem,r0,r1,r2,r3]) rfl ⟨Qe.o.2.2.2,fun e q he=>?_,fun c n k he=>?_⟩
      · rw[Qc.o]at he;cases he
      · rw[Qc.o]at he;cases he;exact⟨_,rfl,Qe.o.2.1,Qe.o.2.2.1⟩
   |false=>
    have Qc:=Ja (show JR (Jd s) I=.ok (c4,0) P by rw[Qh.o,←hb];rfl);clear hb Qh;go_wp2_with(go_at_call 120;refine(HX.o _ Qm.o.1.1).mono ?_;clear HX;rintro e w3 ⟨rfl,hr3,hg3⟩;obtain⟨s8,a8,l8,c8,t8,b8,k8,d8,hT⟩:=(Qm.o.rc hr3 hg3).cells;have e0:=hT.2.1.c0;have e1:=hT.2.1.c1;have e2:=hT.2.1.c2;have e3:=hT.2.1.c3;have r0:=hT.1.2.1.c0;have r1:=hT.1.2.1.c1;have r2:=hT.1.2.1.c2;have r3:=hT.1.2.1.c3;have g0:=hT.1.2.1.f0;have g1:=hT.1.2.1.f1;have g2:=hT.1.2.1.f2;have g3:=hT.1.2.1.f3;have Qe:=Ja hT.put;clear hT hr3 hg3)
    refine bodyPost_ret (v:=.tuple #[.agg #[.bool s8,.slice a8 l8 c8,.bool t8,.slice b8 k8 d8],.int .i64 0]) (by simp[results,Tryz.results121,go_sem,r0,r1,r2,r3]) rfl ⟨Qe.o.2.2.2,fun e q he=>?_,fun c n k he=>?_⟩
    · rw[Qc.o]at he;cases he
    · rw[Qc.o]at he;cases he;exact⟨_,rfl,Qe.o.2.1,Qe.o.2.2.1⟩
end Go.Proofs.YtcahejkcdcjjgaaGreatDoor
namespace Go.Proofs.YtcahejkcdcjjgaaGreatDoor
open Go.RowKit Go.Shelf
theorem Ju8{ds:List UInt8}(h:ds.all isD=true)(hl:ds.length≤12):num ds<1000000000000:=
 AA (Jnt h) (Ar (n:=10) (by omega) hl)
theorem Jnw{l:List UInt8}{i p k:Nat}{ds:List UInt8}(hi:i≤l.length)(h:JP l i=.ok (ds,p) k):num ds<1000000000000∧k≤l.length:=by
 have h1:=Jbs hi h;exact⟨Ju8 h1.2.2.2.2.2.2.2.2 (by have:=h1.2.2.2.2.2.2.2.1;have:=h1.2.2.2.2.2.1;omega),h1.2.2.2.2.1⟩
theorem Jmv{l:List UInt8}{i k:Nat}{c:Rat}(hi:i≤l.length)(h:J9 l i=.ok c k):Jdz c:=by
 unfold J9 at h;split at h
 · cases h
 · rename_i ds p k0 h1;have h2:=Jnw hi h1;split at h
   · rename_i h3;have h4:=JZ h3;split at h
     · cases h
     · rename_i es p' m h5;have h6:=Jnw (by omega) h5;split at h
       · cases h
       · rename_i h0;cases h;exact⟨num ds,num es,rfl,h2.1,h0,h6.1⟩
   · cases h;exact⟨num ds,1,(Jhd _).symm,h2.1,by omega,by omega⟩
theorem Jd0{l:List UInt8}{i k n:Nat}{c:Rat}(hi:i≤l.length)(h:JR l i=.ok (c,n) k):Jdz c:=by
 rw[XT]at h;unfold Jay at h;split at h
 · cases h
 · rename_i c0 k0 h1;have hc:Jdz c0:=by
    split at h1
    · cases h1;exact Jdz.one
    · exact Jmv hi h1
   split at h
   · split at h
     · cases h
     · cases h;exact hc
   · cases h;exact hc
def PoB(w V:World)(R Q b:Nat)(s:ByteArray)(I:Int)(S:List Rat):Prop:=
 RcB V R s I∧Boxed V Q 25 (.slice none 0 0)∧Els true V b S∧w.grownBy V (some R)∧w.heap.size≤Q∧w.heap.size≤b
section
variable {w V V':World} {R Q b:Nat} {s:ByteArray} {I I':Int} {S:List Rat}
theorem PoB.below(h:PoB w V R Q b s I S)(hb:Below V.heap.size V V'):PoB w V' R Q b s I S:=
 ⟨h.1.below hb,(hb.block Q h.2.1.lt).trans h.2.1,h.2.2.1.below hb,Jf h.2.2.2.1 (JU hb _),h.2.2.2.2⟩
theorem PoB.drew(h:PoB w V R Q b s I S):PoB w V.drew R Q b s I S:=h.below ((Below.refl _ V).drew)
theorem PoB.nb(h:PoB w V R Q b s I S):b≠R∧Q≠R∧Q≠b:=by
 obtain⟨h1,h2,⟨cs,h3,_⟩,_⟩:=h;refine⟨Jct h1 h3 (by decide),Jct h1 h2 (by decide),fun e=>?_⟩;subst e;have:=h3.symm.trans h2;simp only[Ak,Obj.cells.injEq]at this;exact absurd this.2.1 (by decide)
theorem PoB.rc(h:PoB w V R Q b s I S)(hr:RcB V' R s I')(hg:V.grownBy V' (some R)):PoB w V' R Q b s I' S:=by
 obtain⟨n1,n2,_⟩:=h.nb;obtain⟨h1,h2,h3,h4,h5⟩:=h;exact⟨hr,(hg.block Q h2.lt (fun e=>n2 (Cb e))).trans h2,h3.keep (hg.block b h3.lt (fun e=>n1 (Cb e))) (Jmr h1 hg),Jf h4 hg,h5⟩
theorem PoB.put(h:PoB w V R Q b s I S){j:Nat}(hj:j<S.length){x y z u:Value}{q:Rat}(hv:Ji V (.agg #[x,y,z,u]) q):PoB w (putAt V b (j*4) x y z u) R Q b s I (S.set j q):=by
 obtain⟨n1,_,n3⟩:=h.nb;obtain⟨h1,h2,h3,h4,h5,h6⟩:=h;exact⟨(Jbf (fun e=>n1 e.symm) _ _ _ _).trans h1,(Jbf n3 _ _ _ _).trans h2,h3.set hj hv,J1 (J1 (J1 (J1 h4 h6 _ _) h6 _ _) h6 _ _) h6 _ _,h5,h6⟩
theorem PoB.new(h:RcB w R s I)(n:Nat):PoB w ((w.alloc (.cells #[.slice none 0 0] 25)).alloc (.cells (Yh n) 38)) R w.heap.size (w.heap.size+1) s I (List.replicate n 0):=by
 have ha:Below w.heap.size w (w.alloc (.cells #[.slice none 0 0] 25)):=(Below.refl _ w).alloc (Aa _) _;have hb:Below w.heap.size w ((w.alloc (.cells #[.slice none 0 0] 25)).alloc (.cells (Yh n) 38)):=ha.alloc ha.size _;have hE:=Jep n (w.alloc (.cells #[.slice none 0 0] 25));rw[World.size_alloc]at hE;exact⟨h.below hb,(Boxed.new w 25 (.slice none 0 0)).alloc _,hE,JU hb _,Aa _,by omega⟩
end
def PoX(w V:World)(R Q b C:Nat)(s:ByteArray)(I:Int)(S:List Rat)(c:Rat):Prop:=
 PoB w V R Q b s I S∧∃s9 a9 l9 c9 t9 b9 k9 d9,JH V C 38 (.bool s9) (.slice a9 l9 c9) (.bool t9) (.slice b9 k9 d9)∧Ji V (.agg #[.bool s9,.slice a9 l9 c9,.bool t9,.slice b9 k9 d9]) c
theorem PoX.below{w V V':World}{R Q b C:Nat}{s:ByteArray}{I:Int}{S:List Rat}{c:Rat}(h:PoX w V R Q b C s I S c)(hb:Below V.heap.size V V'):PoX w V' R Q b C s I S c:=by
 obtain⟨h1,s9,a9,l9,c9,t9,b9,k9,d9,h2,h3⟩:=h;exact⟨h1.below hb,s9,a9,l9,c9,t9,b9,k9,d9,h2.below hb,h3.below hb⟩
theorem PoX.new{w V:World}{R Q b:Nat}{s:ByteArray}{I:Int}{S:List Rat}{c:Rat}(h:PoB w V R Q b s I S){s9:Bool}{a9:Option Addr}{l9 c9:Nat}{t9:Bool}{b9:Option Addr}{k9 d9:Nat}(hv:Ji V (.agg #[.bool s9,.slice a9 l9 c9,.bool t9,.slice b9 k9 d9]) c):
 PoX w (V.alloc (.cells #[.bool s9,.slice a9 l9 c9,.bool t9,.slice b9 k9 d9] 38)) R Q b V.heap.size s I S c:=by
 have ha:Below V.heap.size V (V.alloc (.cells #[.bool s9,.slice a9 l9 c9,.bool t9,.slice b9 k9 d9] 38)):=(Below.refl _ V).alloc (Aa _) _;exact⟨h.below ha,s9,a9,l9,c9,t9,b9,k9,d9,JH.new _ _ _ _ _ _,hv.below ha⟩
def Ju9(w:World)(R:Nat)(s:ByteArray)(r:Ending)(w':World):Prop:=
 w.grownBy w' (some R)∧(∀e q,Xx (Jd s)=.bad e q→r=.panicked [{ v:=XZ e q,recovered:=false }])∧(∀S k,Xx (Jd s)=.ok S k→∃u,r=.returned u∧Ju w' u (Jh S)∧∃m,m≤300∧Yv S m)
