import Derived.Test.YtakpoihdghihmaaGreatDoorL34
import Derived.Test.YtakpoihdghihmaaGreatDoorL38
set_option maxRecDepth 100000
set_option maxHeartbeats 16000000
namespace Go.Proofs.YtakpoihdghihmaaGreatDoor
open Go.RowKit Go.Shelf
section
theorem aE{ds:List UInt8}:(Dd ds).head?=some 48→Dd ds=[48]:=by
 unfold Dd Lib.trimLeftB;split
 · intro _;rfl
 · rename_i he;intro h;exfalso
   have:=List.head?_dropWhile_not (p:=fun x:UInt8=>x==48) (l:=ds);rw[h]at this;simp at this
theorem NX{ds:List UInt8}(h:ds.all Dc=true)(c:UInt8)(hc:Dc c=false):c ∉ Dd ds:=by
 intro hm;have:=A5.1 (XN h).2.1 c hm;rw[hc]at this;cases this
theorem aF{ds:List UInt8}(h:ds.all Dc=true):JW (Dd ds)=Dd ds∧¬(Dd ds).head?=some 45:=by
 have h1:¬(Dd ds).head?=some 45:=fun e=>NX h 45 (by decide) (List.mem_of_head? e);exact⟨by unfold JW;rw[BE h1],h1⟩
theorem Ik{ds:List UInt8}(h:ds.all Dc=true)(hl:ds.length≤12):good (Dd ds)=true∧Y9 (Dd ds)=(num ds:Int):=by
 obtain⟨g1,g2,g3,g4,g5⟩:=XN h;obtain⟨t1,t2⟩:=aF h;refine⟨?_,?_⟩
 · unfold good;rw[t1,g2];simp only[Bool.and_true,Co,DA,Fi,CM,DB];refine⟨⟨by omega,by simpa using g3⟩,?_⟩;by_cases h0:(Dd ds).head?=some 48
   · exact Or.inr (aE h0)
   · exact Or.inl h0
 · unfold Y9;rw[BE t2,t1,g1]
theorem aG{l:List UInt8}(h:(47:UInt8) ∉ l):JT l=l.length:=by
 unfold JT;have e:=List.takeWhile_append_of_pos (p:=fun x:UInt8=>x != 47) (l₁:=l) (l₂:=[]) (fun c hc=>by simp;intro e;exact h (e ▸ hc));rw[C1]at e;rw[e];simp
theorem aH{a b:List UInt8}(h:(47:UInt8) ∉ a):JT (a++47::b)=a.length:=by
 unfold JT;rw[List.takeWhile_append_of_pos (fun c hc=>by simp;intro e;exact h (e ▸ hc)),List.takeWhile_cons_of_neg (by simp),C1]
theorem aI{ds:List UInt8}(h:ds.all Dc=true)(hl:ds.length≤12):Ei (Dd ds)=((num ds:Int):Rat):=by
 have h5:=(XN h).2.2.2.2;unfold Ei;rw[NT (by omega) (aG (NX h 47 (by decide))),BH (Ik h hl).1,(Ik h hl).2];rfl
theorem QI{ds es:List UInt8}(h:ds.all Dc=true)(hl:ds.length≤12)(k:es.all Dc=true)(kl:es.length≤12)(h0:num es≠0):Ei (Dd ds++47::Dd es)=Rat.divInt (num ds) (num es):=by
 have h5:=(XN h).2.2.2.2;have k5:=(XN k).2.2.2.2;have hs:=aH (b:=Dd es) (NX h 47 (by decide));unfold Ei;rw[NU (by simp;omega) (by rw[hs];simp),hs];rw[show(Dd ds++47::Dd es).take (Dd ds).length=Dd ds from by simp,show(Dd ds++47::Dd es).drop ((Dd ds).length+1)=Dd es from by rw[←FD];simp];rw[(Ik h hl).2,(Ik k kl).2,BH ⟨(Ik h hl).1,(Ik k kl).1,by omega⟩];rfl
theorem aJ{es:List UInt8}(h:es.all Dc=true):Dd es=[48]↔num es=0:=by
 obtain⟨g1,g2,g3,g4,g5⟩:=XN h;refine⟨fun e=>by rw[←g1,e];decide,fun e=>?_⟩;cases hz:Dd es with
 |nil=>exact absurd hz g3
 |cons c t=>
  cases t with
  |cons d t=>
   rw[hz]at g4;have:=g4 (by simp);omega
  |nil=>
   rw[hz]at g1 g2;have hb:=YU (A5.1 g2 c (CE ..))
   have:num [c]=c.toNat-48:=by simp[num,Dx,val]
   have:c=48:=DF.1 (by show c.toNat=48;omega)
   rw[this]
attribute [local go_sem] Oper.semAt_some
def Es(w V:World)(R B:Nat)(s:ByteArray)(I:Int):Prop:=
 Db V R s I∧JF V B 37 (.bool false) (.slice none 0 0) (.bool false) (.slice none 0 0)∧w.grownBy V (some R)∧w.heap.size≤B
section
variable {w V V':World} {R B:Nat} {s:ByteArray} {I I':Int}
theorem Es.below(h:Es w V R B s I)(hb:Bl V V'):Es w V' R B s I:=⟨h.1.below hb,h.2.1.below hb,Jl h.2.2.1 (Yk hb _),h.2.2.2⟩
theorem Es.rc(h:Es w V R B s I)(hr:Db V' R s I')(hg:V.grownBy V' (some R)):Es w V' R B s I':=by
 have Qa:B≠R:=Gr h.1 h.2.1 (by decide);exact⟨hr,(hg.block B h.2.1.lt (fun e=>Qa (Cp e))).trans h.2.1,Jl h.2.2.1 hg,h.2.2.2⟩
theorem Es.new(h:Db w R s I):Es w (w.alloc (.cells #[.bool false,.slice none 0 0,.bool false,.slice none 0 0] 37)) R w.heap.size s I:=by
 have ha:Bl w (w.alloc (.cells #[.bool false,.slice none 0 0,.bool false,.slice none 0 0] 37)):=Ba w _;exact⟨h.below ha,JF.new _ _ _ _ _ _,Yk ha _,Aa _⟩
theorem Es.put(h:Es w V R B s I){x y z u:Value}{c:Rat}(hv:Jg V (.agg #[x,y,z,u]) c):
 Jg (put4 V B x y z u) (.agg #[x,y,z,u]) c∧Db (put4 V B x y z u) R s I∧w.grownBy (put4 V B x y z u) (some R):=by
 obtain⟨h1,h2,h4,h5⟩:=h;have Qa:R≠B:=fun e=>Gr h1 h2 (by decide) e.symm;refine⟨D9.keep (r:=true) hv (fun _ _ _ g=>Row.put4 g h2 rfl rfl rfl rfl _ _ _ _),?_,YA (YA (YA (YA h4 h5 0 _) h5 1 _) h5 2 _) h5 3 _⟩;have g0:=(BC V ⟨B,0,none⟩ x R Qa).trans h1;have g1:=(BC _ ⟨B,1,none⟩ y R Qa).trans g0;have g2:=(BC _ ⟨B,2,none⟩ z R Qa).trans g1;exact(BC _ ⟨B,3,none⟩ u R Qa).trans g2
end
def aK(w:World)(R:Nat)(s:ByteArray)(I:Nat)(r:Ending)(w':World):Prop:=
 w.grownBy w' (some R)∧(∀e q,YQ (Jj s) I=.error e q→r=.panicked [{ v:=GA e q,recovered:=false }])∧(∀c k,YQ (Jj s) I=.ok c k→∃u,r=.returned u∧Jg w' u c∧Db w' R s (k:Int))
theorem aL(R:Nat)(s:ByteArray)(I:Nat)(w:World)(h:Db w R s I)(hI:I≤s.size)(hs:s.size≤300):
 Calls Tryz.prog 188 #[.pointer (some ⟨R,0,none⟩)] w fun r w'=>aK w R s I r w':=by
 have Qn:=Es.new h;obtain⟨W0,hW0⟩:=ex (w.alloc (.cells #[.bool false,.slice none 0 0,.bool false,.slice none 0 0] 37));obtain⟨B,hB⟩:=ex (w.heap.size);rw[hW0,hB]at Qn;obtain⟨Ql,HB,Qm,Qc,HF⟩:=GT hW0 hB Qn (NR R s I W0 Qn.1 hI hs) (fun(e q:Int) (V:World)=>KS (.pointer (some ⟨R,0,none⟩)) e q V);clear h hW0 hB Qn;cases hn:XF (Jj s) I with
 |error e0 q0=>
  have HC:=Ja (show YQ (Jj s) I=.error e0 q0 by unfold YQ;rw[hn]);have Qe:=Ja hn;clear hn;go_enter Tryz.func188,Tryz.ntmps188
  go_upto_region 1 with fail
  rw[Ql.o,HB.o];go_wp2_with(go_at_call 209;refine Qc.o.mono ?_;clear Qc;rintro e w1 ⟨hg1,hb1,_⟩;obtain rfl:=hb1 _ _ Qe.o;have Ub:=Ja (Jl Qm.o.2.2.1 hg1);clear hg1 hb1)
  refine⟨rfl,Ub.o,fun e q he=>?_,fun c k he=>?_⟩
  · rw[HC.o]at he;cases he;rfl
  · rw[HC.o]at he;cases he
 |ok a0 k0=>
  obtain⟨ds,p0⟩:=a0;have Qj:=GR (by rw[Jp];exact hI) hn;have Qq:=Ja Qj;have Qz:k0≤s.size:=by have:=Qj.2.2.2.2.1;rwa[Jp]at this
  have Qe:=Ja hn;obtain⟨b,hb⟩:∃b,b=XE (Jj s) (DT (Jj s) k0) 47:=⟨_,rfl⟩;have HX:=Ja (fun(V:World) (hh:Db V R s (k0:Int))=>Gs R s k0 47 V hh Qz hs b hb);obtain⟨j,hj⟩:=ex (DT (Jj s) k0);rw[hj]at HX hb;have HJ:=Ja hj;obtain⟨SD,hSD⟩:∃S:ByteArray,⟨(Dd ds).toArray⟩=S:=⟨_,rfl⟩;have Qf:=Ja hSD;have hszD:SD.size≤13:=by
   rw[←hSD];show(Dd ds).toArray.size≤13;rw[Ap];have:=(XN Qj.2.2.2.2.2.2.2.2).2.2.2.2;have:=Qj.2.2.2.2.2.2.2.1;have:=Qj.2.2.2.2.2.1;omega
  clear hn hj hSD Qj;cases b with
  |false=>
   obtain⟨HC,Qk,Qs,HV⟩:=Dt (show YQ (Jj s) I=.ok ((num ds:Int):Rat) j by unfold YQ;rw[Qe.o];simp[HJ.o,←hb]) (fun(S:ByteArray) (V:World)=>LP S V) (trivial:True) (show Ei (Jj SD)=((num ds:Int):Rat)by rw[←Qf.o];have e:=Qq.o;rw[show Jj ⟨(Dd ds).toArray⟩=Dd ds from by simp[Jj]];exact aI e.2.2.2.2.2.2.2.2 (by omega));clear hb;go_enter Tryz.func188,Tryz.ntmps188
   go_upto_region 1 with fail
   rw[Ql.o,HB.o];go_upto_region 8 with(first
    |(go_at_call 209;refine Qc.o.mono ?_;clear Qc;rintro e w1 ⟨hg1,_,hb1⟩;obtain⟨rfl,hr1⟩:=hb1 _ _ _ Qe.o;rw[Qf.o];have Qb:=Ja (Qm.o.rc hr1 hg1);clear hg1 hb1 hr1)
    |(go_at_call 160;refine(HX.o _ Qb.o.1).mono ?_;clear HX;rintro e w2 ⟨rfl,hr2,hg2⟩;have Qd:=Ja (Qb.o.rc hr2 hg2);clear hr2 hg2)
    |(go_at_call 24;refine(Qk.o _ _).mono ?_;clear Qk;rintro e w5 ⟨u5,rfl,hu5,hq5⟩;(first|rw[HV.o]at hu5|rw[Qs.o]at hu5);have Qt:=Ja (Qd.o.below hq5);clear hq5;obtain⟨s9,a9,l9,c9,t9,b9,k9,d9,rfl⟩:=hu5.form;have Qv:=Ja hu5;clear hu5))
   have hN:=JF.new w5 37 (.bool s9) (.slice a9 l9 c9) (.bool t9) (.slice b9 k9 d9);have hA:Bl w5 (w5.alloc (.cells #[.bool s9,.slice a9 l9 c9,.bool t9,.slice b9 k9 d9] 37)):=Ba w5 _;have Qa:=Qt.o.below hA;have hP:=Qa.put (Qv.o.below hA);have hQ:=Qa.2.1.put (.bool s9) (.slice a9 l9 c9) (.bool t9) (.slice b9 k9 d9);obtain⟨W6,hW6⟩:=ex (w5.alloc (.cells #[.bool s9,.slice a9 l9 c9,.bool t9,.slice b9 k9 d9] 37));obtain⟨B6,hB6⟩:=ex (w5.heap.size);rw[hW6]at hN Qa hP hQ;rw[hB6]at hN;rw[hW6,hB6];obtain⟨e0,e1,e2,e3⟩:=hN.cq;obtain⟨g0,g1,g2,g3⟩:=Qa.2.1.fq;obtain⟨r0,r1,r2,r3⟩:=Qa.2.1.cq;have HP:=Ja hP;clear hA hN Qa hP hQ hW6 hB6;go_wp2_with fail
   refine BB (v:=.agg #[.bool s9,.slice a9 l9 c9,.bool t9,.slice b9 k9 d9]) (by simp[results,Tryz.results188,go_sem,r0,r1,r2,r3]) rfl ⟨HP.o.2.2,fun e q he=>?_,fun c k he=>?_⟩
   · rw[HC.o]at he;cases he
   · rw[HC.o]at he;cases he;exact⟨_,rfl,HP.o.1,HP.o.2.1⟩
  |true=>
   have Qx:j+1≤s.size:=by have:=Yu hb.symm;rw[Jp]at this;omega
   have Qg:=Ja (fun(V:World) (hh:Db V R s ((j+1:Nat):Int))=>NR R s (j+1) V hh Qx hs);have Qh:=Ja (show YQ (Jj s) I=(match XF (Jj s) (j+1)with|.error e p=>.error e p|.ok (es,p) m=>if num es=0 then .error 4 p else .ok (Rat.divInt (num ds) (num es)) m)by
    unfold YQ;rw[Qe.o];simp only[HJ.o];rw[BH hb.symm];rcases XF (Jj s) (j+1)with⟨e,p⟩|⟨⟨es,p⟩,k⟩<;>rfl)
   clear hb;cases hm:XF (Jj s) (j+1)with
   |error e1 q1=>
    rw[hm]at Qh;have Qo:=Ja hm;clear hm;go_enter Tryz.func188,Tryz.ntmps188
    go_upto_region 1 with fail
    rw[Ql.o,HB.o];go_wp2_with(first
     |(go_at_call 209;refine Qc.o.mono ?_;clear Qc;rintro e w1 ⟨hg1,_,hb1⟩;obtain⟨rfl,hr1⟩:=hb1 _ _ _ Qe.o;rw[Qf.o];have Qb:=Ja (Qm.o.rc hr1 hg1);clear hg1 hb1 hr1)
     |(go_at_call 160;refine(HX.o _ Qb.o.1).mono ?_;clear HX;rintro e w2 ⟨rfl,hr2,hg2⟩;have Qd:=Ja (Qb.o.rc hr2 hg2);clear hr2 hg2)
     |(go_at_call 209;refine(Qg.o _ Qd.o.1).mono ?_;clear Qg;rintro e w3 ⟨hg3,hb3,_⟩;obtain rfl:=hb3 _ _ Qo.o;have Ua:=Ja (Jl Qd.o.2.2.1 hg3);clear hg3 hb3))
    refine⟨rfl,Ua.o,fun e q he=>?_,fun c k he=>?_⟩
    · rw[Qh.o]at he;cases he;rfl
    · rw[Qh.o]at he;cases he
   |ok a1 k1=>
    obtain⟨es,p1⟩:=a1;rw[hm]at Qh;have Qo:=Ja hm;have Qi:=GR (by rw[Jp];exact Qx) hm;have Qy:=Ja Qi;have hZ:=aJ Qi.2.2.2.2.2.2.2.2;obtain⟨SE,hSE⟩:∃S:ByteArray,⟨(Dd es).toArray⟩=S:=⟨_,rfl⟩;have Qp:=Ja hSE;have hszE:SE.size≤13:=by
     rw[←hSE];show(Dd es).toArray.size≤13;rw[Ap];have:=(XN Qi.2.2.2.2.2.2.2.2).2.2.2.2;have:=Qi.2.2.2.2.2.2.2.1;have:=Qi.2.2.2.2.2.1;omega
    clear hm Qi;by_cases h0:num es=0
    · have Qu:SE=⟨#[48]⟩:=by rw[←hSE,hZ.2 h0]
      have HC:=Ja (show YQ (Jj s) I=.error 4 p1 by rw[Qh.o];simp[h0]);clear hSE hZ h0;subst Qu;go_enter Tryz.func188,Tryz.ntmps188
      go_upto_region 1 with fail
      rw[Ql.o,HB.o];go_wp2_with(first
       |(go_at_call 209;refine Qc.o.mono ?_;clear Qc;rintro e w1 ⟨hg1,_,hb1⟩;obtain⟨rfl,hr1⟩:=hb1 _ _ _ Qe.o;rw[Qf.o];have Qb:=Ja (Qm.o.rc hr1 hg1);clear hg1 hb1 hr1)
       |(go_at_call 160;refine(HX.o _ Qb.o.1).mono ?_;clear HX;rintro e w2 ⟨rfl,hr2,hg2⟩;have Qd:=Ja (Qb.o.rc hr2 hg2);clear hr2 hg2)
       |(go_at_call 209;refine(Qg.o _ Qd.o.1).mono ?_;clear Qg;rintro e w3 ⟨hg3,_,hb3⟩;obtain⟨rfl,hr3⟩:=hb3 _ _ _ Qo.o;rw[Qp.o];have Qr:=Ja (Qd.o.rc hr3 hg3);clear hg3 hb3 hr3)
       |(go_at_call 163;refine(HF.o _ _ _).mono ?_;clear HF;rintro e w4 ⟨rfl,rfl⟩))
      refine⟨rfl,Qr.o.2.2.1,fun e q he=>?_,fun c k he=>?_⟩
      · rw[HC.o]at he;cases he;rfl
      · rw[HC.o]at he;cases he
    · have Qw:¬SE.toList=[48]:=by
       rw[NC,←hSE];exact fun e=>h0 (hZ.1 (by simpa using e))
      have hne5:(SE.toList == [48])=false:=Bh.2 Qw;have HC:=Ja (show YQ (Jj s) I=.ok (Rat.divInt (num ds) (num es)) k1 by rw[Qh.o];simp[h0]);have Qk:=Ja (fun(S:ByteArray) (V:World)=>LP S V);have HV:=Ja (show Ei (Jj (SD++(⟨#[47]⟩++SE)))=Rat.divInt (num ds) (num es)by
       rw[←Qf.o,←Qp.o];have e:=Qq.o;have f:=Qy.o;rw[show(⟨(Dd ds).toArray⟩:ByteArray)++(⟨#[47]⟩++⟨(Dd es).toArray⟩)=⟨(Dd ds++47::Dd es).toArray⟩from by rw[show(⟨#[47]⟩:ByteArray)=⟨([47]:List UInt8).toArray⟩from rfl,LF,LF];rfl];rw[show Jj ⟨(Dd ds++47::Dd es).toArray⟩=Dd ds++47::Dd es from by simp[Jj]];exact QI e.2.2.2.2.2.2.2.2 (by omega) f.2.2.2.2.2.2.2.2 (by omega) h0)
      have Qs:=Ja (show Ei (Jj (SD++⟨#[47]⟩++SE))=Rat.divInt (num ds) (num es)by
       rw[←Qf.o,←Qp.o];have e:=Qq.o;have f:=Qy.o;rw[WJ,show Jj ⟨(Dd ds++47::Dd es).toArray⟩=Dd ds++47::Dd es from by simp[Jj]];exact QI e.2.2.2.2.2.2.2.2 (by omega) f.2.2.2.2.2.2.2.2 (by omega) h0)
      clear hSE hZ h0;go_enter Tryz.func188,Tryz.ntmps188
      go_upto_region 1 with fail
      rw[Ql.o,HB.o];go_upto_region 8 with(first
       |(go_at_call 209;refine Qc.o.mono ?_;clear Qc;rintro e w1 ⟨hg1,_,hb1⟩;obtain⟨rfl,hr1⟩:=hb1 _ _ _ Qe.o;rw[Qf.o];have Qb:=Ja (Qm.o.rc hr1 hg1);clear hg1 hb1 hr1)
       |(go_at_call 160;refine(HX.o _ Qb.o.1).mono ?_;clear HX;rintro e w2 ⟨rfl,hr2,hg2⟩;have Qd:=Ja (Qb.o.rc hr2 hg2);clear hr2 hg2)
       |(go_at_call 209;refine(Qg.o _ Qd.o.1).mono ?_;clear Qg;rintro e w3 ⟨hg3,_,hb3⟩;obtain⟨rfl,hr3⟩:=hb3 _ _ _ Qo.o;rw[Qp.o];have Qr:=Ja (Qd.o.rc hr3 hg3);clear hg3 hb3 hr3)
       |(go_at_call 24;refine(Qk.o _ _).mono ?_;clear Qk;rintro e w5 ⟨u5,rfl,hu5,hq5⟩;(first|rw[HV.o]at hu5|rw[Qs.o]at hu5);have Qt:=Ja (Qr.o.below hq5);clear hq5;obtain⟨s9,a9,l9,c9,t9,b9,k9,d9,rfl⟩:=hu5.form;have Qv:=Ja hu5;clear hu5))
      have hN:=JF.new w5 37 (.bool s9) (.slice a9 l9 c9) (.bool t9) (.slice b9 k9 d9);have hA:Bl w5 (w5.alloc (.cells #[.bool s9,.slice a9 l9 c9,.bool t9,.slice b9 k9 d9] 37)):=Ba w5 _;have Qa:=Qt.o.below hA;have hP:=Qa.put (Qv.o.below hA);have hQ:=Qa.2.1.put (.bool s9) (.slice a9 l9 c9) (.bool t9) (.slice b9 k9 d9);obtain⟨W6,hW6⟩:=ex (w5.alloc (.cells #[.bool s9,.slice a9 l9 c9,.bool t9,.slice b9 k9 d9] 37));obtain⟨B6,hB6⟩:=ex (w5.heap.size);rw[hW6]at hN Qa hP hQ;rw[hB6]at hN;rw[hW6,hB6];obtain⟨e0,e1,e2,e3⟩:=hN.cq;obtain⟨g0,g1,g2,g3⟩:=Qa.2.1.fq;obtain⟨r0,r1,r2,r3⟩:=Qa.2.1.cq;have HP:=Ja hP;clear hA hN Qa hP hQ hW6 hB6;go_wp2_with fail
      refine BB (v:=.agg #[.bool s9,.slice a9 l9 c9,.bool t9,.slice b9 k9 d9]) (by simp[results,Tryz.results188,go_sem,r0,r1,r2,r3]) rfl ⟨HP.o.2.2,fun e q he=>?_,fun c k he=>?_⟩
      · rw[HC.o]at he;cases he
      · rw[HC.o]at he;cases he;exact⟨_,rfl,HP.o.1,HP.o.2.1⟩
end
def Ez(w V:World)(R B C:Nat)(s:ByteArray)(I:Int)(c:Rat):Prop:=
 Es w V R B s I∧(∃s9 a9 l9 c9 t9 b9 k9 d9,JF V C 37 (.bool s9) (.slice a9 l9 c9) (.bool t9) (.slice b9 k9 d9)∧Jg V (.agg #[.bool s9,.slice a9 l9 c9,.bool t9,.slice b9 k9 d9]) c)∧B<C
section
variable {w V V':World} {R B C:Nat} {s:ByteArray} {I I':Int} {c:Rat}
theorem Ez.rc(h:Ez w V R B C s I c)(hr:Db V' R s I')(hg:V.grownBy V' (some R)):Ez w V' R B C s I' c:=by
 obtain⟨h1,⟨s9,a9,l9,c9,t9,b9,k9,d9,h2,h3⟩,h4⟩:=h;have Qa:C≠R:=Gr h1.1 h2 (by decide);exact⟨h1.rc hr hg,⟨s9,a9,l9,c9,t9,b9,k9,d9,(hg.block C h2.lt (fun e=>Qa (Cp e))).trans h2,D9.keep (r:=true) h3 (NN h1.1 hg)⟩,h4⟩
theorem Ez.new(h:Es w V R B s I)(hlt:B<V.heap.size){s9:Bool}{a9:Option Addr}{l9 c9:Nat}{t9:Bool}{b9:Option Addr}{k9 d9:Nat}(hv:Jg V (.agg #[.bool s9,.slice a9 l9 c9,.bool t9,.slice b9 k9 d9]) c):
 Ez w (V.alloc (.cells #[.bool s9,.slice a9 l9 c9,.bool t9,.slice b9 k9 d9] 37)) R B V.heap.size s I c:=by
 have ha:Bl V (V.alloc (.cells #[.bool s9,.slice a9 l9 c9,.bool t9,.slice b9 k9 d9] 37)):=Ba V _;exact⟨h.below ha,⟨s9,a9,l9,c9,t9,b9,k9,d9,JF.new _ _ _ _ _ _,hv.below ha⟩,hlt⟩
theorem Ez.put(h:Ez w V R B C s I c){s9:Bool}{a9:Option Addr}{l9 c9:Nat}{t9:Bool}{b9:Option Addr}{k9 d9:Nat}{c':Rat}(hv:Jg V (.agg #[.bool s9,.slice a9 l9 c9,.bool t9,.slice b9 k9 d9]) c'):
 Ez w (put4 V C (.bool s9) (.slice a9 l9 c9) (.bool t9) (.slice b9 k9 d9)) R B C s I c':=by
 obtain⟨⟨h1,h2,h3,h4⟩,⟨s8,a8,l8,c8,t8,b8,k8,d8,h5,h6⟩,h7⟩:=h;have Qa:R≠C:=fun e=>Gr h1 h5 (by decide) e.symm;have hC:w.heap.size≤C:=by omega
 refine⟨⟨?_,h2.putFar (by omega) _ _ _ _,YA (YA (YA (YA h3 hC 0 _) hC 1 _) hC 2 _) hC 3 _,h4⟩,⟨s9,a9,l9,c9,t9,b9,k9,d9,h5.put _ _ _ _,D9.keep (r:=true) hv (fun _ _ _ g=>Row.put4 g h5 rfl rfl rfl rfl _ _ _ _)⟩,h7⟩;have g0:=(BC V ⟨C,0,none⟩ (.bool s9) R Qa).trans h1;have g1:=(BC _ ⟨C,1,none⟩ (.slice a9 l9 c9) R Qa).trans g0;have g2:=(BC _ ⟨C,2,none⟩ (.bool t9) R Qa).trans g1;exact(BC _ ⟨C,3,none⟩ (.slice b9 k9 d9) R Qa).trans g2
end
def aM(w:World)(R:Nat)(s:ByteArray)(I:Nat)(r:Ending)(w':World):Prop:=
 w.grownBy w' (some R)∧(∀e q,Y5 (Jj s) I=.error e q→r=.panicked [{ v:=GA e q,recovered:=false }])∧(∀c n k,Y5 (Jj s) I=.ok (c,n) k→∃u,r=.returned (.tuple #[u,.int .i64 (n:Int)])∧Jg w' u c∧Db w' R s (k:Int))
section
attribute [local go_sem] Oper.semAt_some
def E0(w V:World)(R B C:Nat)(s:ByteArray)(I:Int)(x y z u:Value)(c:Rat):Prop:=Es w V R B s I∧JF V C 37 x y z u∧Jg V (.agg #[x,y,z,u]) c∧B<C
def aN(w V:World)(R B:Nat)(s:ByteArray)(I:Int)(x y z u:Value)(c:Rat):Prop:=JF V B 37 x y z u∧Jg V (.agg #[x,y,z,u]) c∧Db V R s I∧w.grownBy V (some R)
theorem E0.below{w V V':World}{R B C:Nat}{s:ByteArray}{I:Int}{x y z u:Value}{c:Rat}(h:E0 w V R B C s I x y z u c)(hb:Bl V V'):E0 w V' R B C s I x y z u c:=⟨h.1.below hb,h.2.1.below hb,h.2.2.1.below hb,h.2.2.2⟩
theorem E0.rc{w V V':World}{R B C:Nat}{s:ByteArray}{I I':Int}{x y z u:Value}{c:Rat}(h:E0 w V R B C s I x y z u c)(hr:Db V' R s I')(hg:V.grownBy V' (some R)):E0 w V' R B C s I' x y z u c:=by
 have Qa:C≠R:=Gr h.1.1 h.2.1 (by decide);exact⟨h.1.rc hr hg,(hg.block C h.2.1.lt (fun e=>Qa (Cp e))).trans h.2.1,D9.keep (r:=true) h.2.2.1 (NN h.1.1 hg),h.2.2.2⟩
theorem E0.put{w V:World}{R B C:Nat}{s:ByteArray}{I:Int}{x y z u:Value}{c:Rat}(h:E0 w V R B C s I x y z u c):aN w (put4 V B x y z u) R B s I x y z u c:=
 ⟨h.1.2.1.put _ _ _ _,(h.1.put h.2.2.1).1,(h.1.put h.2.2.1).2.1,(h.1.put h.2.2.1).2.2⟩
theorem Ez.cells{w V:World}{R B C:Nat}{s:ByteArray}{I:Int}{c:Rat}(h:Ez w V R B C s I c):∃s9 a9 l9 c9 t9 b9 k9 d9,E0 w V R B C s I (.bool s9) (.slice a9 l9 c9) (.bool t9) (.slice b9 k9 d9) c:=by
 obtain⟨h1,⟨s9,a9,l9,c9,t9,b9,k9,d9,h2,h3⟩,h4⟩:=h;exact⟨s9,a9,l9,c9,t9,b9,k9,d9,h1,h2,h3,h4⟩
theorem E0.drew{w V:World}{R B C:Nat}{s:ByteArray}{I:Int}{x y z u:Value}{c:Rat}(h:E0 w V R B C s I x y z u c):E0 w V.drew R B C s I x y z u c:=h.below ((BG _ V).drew)
theorem aO(R:Nat)(s:ByteArray)(I:Nat)(w:World)(h:Db w R s I)(hI:I≤s.size)(hs:s.size≤300):
 Calls Tryz.prog 161 #[.pointer (some ⟨R,0,none⟩)] w fun r w'=>aM w R s I r w':=by
 have Qw:Tryz.prog.follows .mixedOrders=true:=by kernel_rfl
 have Qk:=Es.new h;have Qd:w.heap.size<(w.alloc (.cells #[.bool false,.slice none 0 0,.bool false,.slice none 0 0] 37)).heap.size:=Qk.2.1.lt;obtain⟨W0,hW0⟩:=ex (w.alloc (.cells #[.bool false,.slice none 0 0,.bool false,.slice none 0 0] 37));obtain⟨B,hB⟩:=ex (w.heap.size);rw[hW0]at Qd;rw[hW0,hB]at Qk;rw[hB]at Qd;obtain⟨Qv,HB,Ua,Qx,HF,Qp⟩:=Hl hW0 hB Qk Qd (fun(e q:Int) (V:World)=>KS (.pointer (some ⟨R,0,none⟩)) e q V) (M3.ND 1 (by omega) (by omega) W0);clear h hW0 hB Qk Qd;go_enter Tryz.func161,Tryz.ntmps161
 go_upto_region 1 with fail
 rw[Qv.o,HB.o];go_upto_region 2 with(go_at_call 79;refine Qp.o.mono ?_;clear Qp;rintro e w1 ⟨u1,rfl,hu1,hq1⟩;obtain⟨s9,a9,l9,c9,t9,b9,k9,d9,rfl⟩:=hu1.form)
 have hT:=Ez.new (Ua.o.below hq1) (AP Qx.o hq1.size) hu1;obtain⟨W1,hW1⟩:=ex (w1.alloc (.cells #[.bool s9,.slice a9 l9 c9,.bool t9,.slice b9 k9 d9] 37));obtain⟨C,hC⟩:=ex (w1.heap.size);rw[hW1,hC]at hT;rw[hW1,hC];have HT:=Ja (show Ez w W1 R B C s I 1 from hT);clear hT hW1 hC hu1 hq1;have Ql:=Ja (QB R s I W1 HT.o.1.1 hI hs);obtain⟨J,hJ⟩:=ex (DT (Jj s) I);rw[hJ]at Ql;have HJ:=Ja hJ;have Qo:J≤s.size:=by rw[←hJ,←Jp];exact XY (by rw[Jp];exact hI)
 clear hJ;obtain⟨dg,hdg⟩:=ex (FM (Jj s) J);rw[hdg]at Ql;have Qs:=Ja hdg;clear hdg;go_upto_if 9 with(go_at_call 187;refine Ql.o.mono ?_;clear Ql;rintro e w2 ⟨rfl,hr2,hg2⟩;have Qi:=Ja (HT.o.rc hr2 hg2);clear hr2 hg2)
 clear HT;go_cut [] (fun wx=>∃(c:Rat) (k:Nat),k≤s.size∧Hid (Ez w wx R B C s (k:Int) c)∧Hid (Y5 (Jj s) I=if XE (Jj s) (DT (Jj s) k) 120 then(match EZ (Jj s) (DT (Jj s) k+1)with|.error e p=>.error e p|.ok n m=>.ok (c,n) m)else if dg then .ok (c,0) (DT (Jj s) k)else .error 2 (DT (Jj s) k)))
 case first=>
  cases dg with
  |false=>
   go_wp2_with fail
   go_meet
   case rel=>
    refine⟨1,J,Qo,Qi,Ja ?_⟩;have h1:DT (Jj s) J=J:=by rw[←HJ.o];exact LM _ _
    unfold Y5;rw[HJ.o,Qs.o,h1];simp only[Cu,if_false];split
    · cases EZ (Jj s) (J+1)<;>rfl
    · rfl
  |true=>
   have Qj:=Ja (fun(V:World) (hh:Db V R s (J:Int))=>aL R s J V hh Qo hs);have Qa:=Ja (show Y5 (Jj s) I=(match YQ (Jj s) J with|.error e p=>.error e p|.ok c k=>if XE (Jj s) (DT (Jj s) k) 120 then(match EZ (Jj s) (DT (Jj s) k+1)with|.error e p=>.error e p|.ok n m=>.ok (c,n) m)else .ok (c,0) (DT (Jj s) k))by
    unfold Y5;rw[HJ.o,Qs.o];simp only[if_true];cases YQ (Jj s) J with
     |error e p=>rfl
     |ok c k=>
     simp only[];split
     · cases EZ (Jj s) (DT (Jj s) k+1)<;>rfl
     · rfl)
   cases hcf:YQ (Jj s) J with
   |error e4 q4=>
    have Qt:=Ja hcf;have Qb:=Ja (show Y5 (Jj s) I=.error e4 q4 by rw[Qa.o,hcf]);clear hcf Qa;go_wp2_with(go_at_call 188;refine(Qj.o _ Qi.o.1.1).mono ?_;clear Qj;rintro e w3 ⟨hg3,hb3,_⟩;obtain rfl:=hb3 _ _ Qt.o;have Qy:=Ja (Jl Qi.o.1.2.2.1 hg3);clear hg3 hb3)
    refine⟨rfl,Qy.o,fun e q he=>?_,fun c n k he=>?_⟩
    · rw[Qb.o]at he;cases he;rfl
    · rw[Qb.o]at he;cases he
   |ok c4 k4=>
    have Ub:=Ja hcf;have Qz:k4≤s.size:=by have:=(MI (by rw[Jp];exact Qo) hcf).2;rwa[Jp]at this
    rw[hcf]at Qa;clear hcf;obtain⟨s7,a7,l7,c7,t7,b7,k7,d7,hT7⟩:=Qi.o.cells;have Qr:=Ja hT7;clear hT7;go_wp2_with(go_at_call 188;refine(Qj.o _ Qr.o.1.1).mono ?_;clear Qj;rintro e w4 ⟨hg4,_,hb4⟩;obtain⟨u4,rfl,hu4,hr4⟩:=hb4 _ _ Ub.o;obtain⟨s6,a6,l6,c6,t6,b6,k6,d6,rfl⟩:=hu4.form;have Qc:=Qr.o.rc hr4 hg4;obtain⟨f0,f1,f2,f3⟩:=Qc.2.1.fq;obtain⟨e0,e1,e2,e3⟩:=Qc.2.1.cq;have Qh:=Ja ((show Ez w w4 R B C s (k4:Int) 1 from⟨Qc.1,⟨_,_,_,_,_,_,_,_,Qc.2.1,Qc.2.2.1⟩,Qc.2.2.2⟩).put hu4);clear hg4 hb4 hu4 hr4 Qc)
    clear f0 f1 f2 f3 e0 e1 e2 e3;go_meet
    case rel=>exact⟨c4,k4,Qz,Qh,Qa⟩
 obtain⟨c,k,hk,HT3,Qa⟩:=hcut;clear Qi;obtain⟨b,hb⟩:∃b,b=XE (Jj s) (DT (Jj s) k) 120:=⟨_,rfl⟩;have HX:=Ja (Gs R s k 120 wc HT3.o.1.1 hk hs b hb);rw[←hb]at Qa;obtain⟨P,hP⟩:=ex (DT (Jj s) k);rw[hP]at HX hb Qa;cases b with
 |true=>
  have Qq:P+1≤s.size:=by have:=Yu hb.symm;rw[Jp]at this;omega
  rw[BH rfl]at Qa;clear hb hP;go_upto_region 6 with(go_at_call 160;refine HX.o.mono ?_;clear HX;rintro e w3 ⟨rfl,hr3,hg3⟩;have Qh:=Ja (HT3.o.rc hr3 hg3);clear hr3 hg3)
  obtain⟨s8,a8,l8,c8,t8,b8,k8,d8,hTX⟩:=Qh.o.cells;have hT:=hTX.drew;obtain⟨e0,e1,e2,e3⟩:=hT.2.1.cq;obtain⟨r0,r1,r2,r3⟩:=hT.1.2.1.cq;obtain⟨g0,g1,g2,g3⟩:=hT.1.2.1.fq;have Qn:=Ja hT;clear hTX hT;have hBC:B≠C:=Nat.ne_of_lt Qn.o.2.2.2;cases hp:EZ (Jj s) (P+1)with
  |error e5 q5=>
   have Qm:=Ja (fun(V:World) (hh:Db V R s ((P+1:Nat):Int))=>(QE R s (P+1) V hh Qq hs).mono (fun r w5 (h5:NS V R s (P+1) r w5)=>(⟨h5.2.1 _ _ hp,h5.1⟩:r=.panicked [{ v:=GA (e5:Int) (q5:Int),recovered:=false }]∧V.grownBy w5 (some R))));rw[hp]at Qa;have Qb:=Ja (show Y5 (Jj s) I=.error e5 q5 from Qa.o);clear hp Qa e0 e1 e2 e3 r0 r1 r2 r3 g0 g1 g2 g3;have Qu:∃I9:Int,(false=false→I9=((P+1:Nat):Int))∧E0 w w3.drew R B C s I9 (.bool s8) (.slice a8 l8 c8) (.bool t8) (.slice b8 k8 d8) c:=⟨_,fun _=>rfl,Qn.o⟩;refine Jm Qw [[],[],[1],[0,2,0],[2,3,0,1,2,3]] (by kernel_rfl) (by decide)
    (fun D act V=>∃(ta tb tc td:Value),act={ tmps:=#[.pointer (some ⟨R,0,none⟩),undef,.pointer (some ⟨B,0,none⟩),td,.pointer (some ⟨C,0,none⟩),.bool dg,u6,u7,u8,u9,u10,u11,.bool true,.pointer (some ⟨R,0,none⟩),.bool true,ta,tb,tc,undef,u19,u20,u21,u22,u23,u24,u25,u26,u27],defers:=[] }∧Hid ((D 0=true→ta=.agg #[.bool s8,.slice a8 l8 c8,.bool t8,.slice b8 k8 d8])∧(D 1=true→tb=.pointer (some ⟨R,0,none⟩))∧(D 2=true→False)∧(D 4=true→True))∧Hid ((D 3=false→∃I9:Int,(D 2=false→I9=((P+1:Nat):Int))∧E0 w V R B C s I9 (.bool s8) (.slice a8 l8 c8) (.bool t8) (.slice b8 k8 d8) c)∧(D 3=true→True)))
    ⟨_,_,_,_,rfl,Ja (by simp),Ja ⟨fun _=>Qu,by simp⟩⟩ ?step1 ?fin1
   case step1=>
    rintro D act V i ds hcl hi hds hDi ⟨ta,tb,tc,td,rfl,GG,SS0⟩;have hi6:i<5:=(Ae.1 hi).1;obtain rfl|rfl|rfl|rfl|rfl:=Iv i (by omega)
    all_goals
     simp only[Ai,Ag,Ak]at hi;subst hi
    · have Qg:=SS0.o.1 (DP hcl hDi);obtain⟨I9,hI1,hT⟩:=Qg;obtain⟨e0,e1,e2,e3⟩:=hT.2.1.cq;clear hds;refine DZ ?_;exact⟨Ja ⟨fun _=>rfl,GG.o.2.1,GG.o.2.2.1,fun _=>trivial⟩,SS0⟩
    · have Qf:D 3=false:=DP hcl (DP (a:=2) hcl hDi);have Qg:=SS0.o.1 Qf;clear hds;refine DZ ?_;exact⟨Ja ⟨GG.o.1,fun _=>rfl,GG.o.2.2.1,fun _=>trivial⟩,SS0⟩
    · have Qg:=SS0.o.1 (DP hcl hDi);obtain rfl:=GG.o.2.1 (hds 1 (by simp));obtain⟨I9,hI1,hT⟩:=Qg;obtain rfl:=hI1 hDi;clear hds;have HC:=Ja (Qm.o V hT.1.1);refine Jb rfl rfl fun K hK=>?_;go_simp;go_wp2_with(go_at_call 189;refine HC.o.mono ?_;rintro e w5 ⟨rfl,hg5⟩)
      exact⟨rfl,Jl hT.1.2.2.1 hg5,(fun e q he=>by rw[Qb.o]at he;cases he;rfl),(fun c n k he=>by rw[Qb.o]at he;cases he)⟩
    · have Qg:=SS0.o.1 hDi;have NV:False:=GG.o.2.2.1 (hds 2 (by simp));clear hds;exact(NV).elim
    · have NV:False:=GG.o.2.2.1 (hds 2 (by simp));clear hds;exact(NV).elim
   case fin1=>
    rintro D act V hDD ⟨ta,tb,tc,td,rfl,GG,SS0⟩;exact(GG.o.2.2.1 (hDD 2 (by decide))).elim
  |ok n5 m5=>
   have Qm:=Ja ((QE R s (P+1) w3.drew Qn.o.1.1 Qq hs).mono (fun r w5 (h5:NS w3.drew R s (P+1) r w5)=>(⟨(h5.2.2 _ _ hp).1,(h5.2.2 _ _ hp).2,h5.1⟩:r=.returned (.int .i64 (n5:Int))∧Db w5 R s (m5:Int)∧w3.drew.grownBy w5 (some R))));rw[hp]at Qa;have Qb:=Ja (show Y5 (Jj s) I=.ok (c,n5) m5 from Qa.o);clear hp Qa;go_region_held3 (fun w'=>w'.cell? ⟨C,0,none⟩=some (.bool s8)∧w'.cell? ⟨C,1,none⟩=some (.slice a8 l8 c8)∧w'.cell? ⟨C,2,none⟩=some (.bool t8)∧w'.cell? ⟨C,3,none⟩=some (.slice b8 k8 d8)) (first|(with_reducible exact⟨e0,e1,e2,e3⟩)|(go_keep;done))
    ((go_at_call 189;refine Qm.o.mono ?_;clear Qm;rintro e w5 ⟨rfl,hr5,hg5⟩;have hT:=Qn.o.rc hr5 hg5;clear e0 e1 e2 e3 r0 r1 r2 r3 g0 g1 g2 g3;obtain⟨e0,e1,e2,e3⟩:=hT.2.1.cq;obtain⟨r0,r1,r2,r3⟩:=hT.1.2.1.cq;obtain⟨g0,g1,g2,g3⟩:=hT.1.2.1.fq;have Qe:=Ja hT.put;clear hT hr5 hg5))
   go_wp2_with fail
   refine BB (v:=.tuple #[.agg #[.bool s8,.slice a8 l8 c8,.bool t8,.slice b8 k8 d8],.int .i64 (n5:Int)]) (by simp[results,Tryz.results161,go_sem,r0,r1,r2,r3]) rfl ⟨Qe.o.2.2.2,fun e q he=>?_,fun c n k he=>?_⟩
   · rw[Qb.o]at he;cases he
   · rw[Qb.o]at he;cases he;exact⟨_,rfl,Qe.o.2.1,Qe.o.2.2.1⟩
 |false=>
  rw[BE (by decide)]at Qa;clear hb hP;cases dg with
  |false=>
   have Qb:=Ja (show Y5 (Jj s) I=.error 2 P from Qa.o);go_wp2_with(first
    |(go_at_call 160;refine HX.o.mono ?_;clear HX;rintro e w3 ⟨rfl,hr3,hg3⟩;have c13:=hr3.c1;have Qh:=Ja (HT3.o.rc hr3 hg3);clear hr3 hg3)
    |(go_at_call 163;refine(HF.o _ _ _).mono ?_;clear HF;rintro e w4 ⟨rfl,rfl⟩))
   refine⟨rfl,Qh.o.1.2.2.1,fun e q he=>?_,fun c n k he=>?_⟩
   · rw[Qb.o]at he;cases he;rfl
   · rw[Qb.o]at he;cases he
  |true=>
   have Qb:=Ja (show Y5 (Jj s) I=.ok (c,0) P from Qa.o);clear Qa;go_wp2_with(go_at_call 160;refine HX.o.mono ?_;clear HX;rintro e w3 ⟨rfl,hr3,hg3⟩;obtain⟨s8,a8,l8,c8,t8,b8,k8,d8,hT⟩:=(HT3.o.rc hr3 hg3).cells;obtain⟨e0,e1,e2,e3⟩:=hT.2.1.cq;obtain⟨r0,r1,r2,r3⟩:=hT.1.2.1.cq;obtain⟨g0,g1,g2,g3⟩:=hT.1.2.1.fq;have Qe:=Ja hT.put;clear hT hr3 hg3)
   refine BB (v:=.tuple #[.agg #[.bool s8,.slice a8 l8 c8,.bool t8,.slice b8 k8 d8],.int .i64 0]) (by simp[results,Tryz.results161,go_sem,r0,r1,r2,r3]) rfl ⟨Qe.o.2.2.2,fun e q he=>?_,fun c n k he=>?_⟩
   · rw[Qb.o]at he;cases he
   · rw[Qb.o]at he;cases he;exact⟨_,rfl,Qe.o.2.1,Qe.o.2.2.1⟩
end
theorem aP{ds:List UInt8}(h:ds.all Dc=true)(hl:ds.length≤12):num ds<1000000000000:=
 AP (P7 h) (AJ (n:=10) (by omega) hl)
theorem QJ{l:List UInt8}{i p k:Nat}{ds:List UInt8}(hi:i≤l.length)(h:XF l i=.ok (ds,p) k):num ds<1000000000000∧k≤l.length:=by
 have h1:=GR hi h;exact⟨aP h1.2.2.2.2.2.2.2.2 (by have:=h1.2.2.2.2.2.2.2.1;have:=h1.2.2.2.2.2.1;omega),h1.2.2.2.2.1⟩
theorem aQ{l:List UInt8}{i k:Nat}{c:Rat}(hi:i≤l.length)(h:YQ l i=.ok c k):GX c:=by
 unfold YQ at h;split at h
 · cases h
 · rename_i ds p k0 h1;have h2:=QJ hi h1;split at h
   · rename_i h3;have h4:=Yu h3;split at h
     · cases h
     · rename_i es p' m h5;have h6:=QJ (by omega) h5;split at h
       · cases h
       · rename_i h0;cases h;exact⟨num ds,num es,rfl,h2.1,h0,h6.1⟩
   · cases h;exact⟨num ds,1,(P9 _).symm,h2.1,by omega,by omega⟩
theorem QK{l:List UInt8}{i k n:Nat}{c:Rat}(hi:i≤l.length)(h:Y5 l i=.ok (c,n) k):GX c:=by
 rw[ZW]at h;unfold NK at h;split at h
 · cases h
 · rename_i c0 k0 h1;have hc:GX c0:=by
    split at h1
    · cases h1;exact GX.one
    · exact aQ hi h1
   split at h
   · split at h
     · cases h
     · cases h;exact hc
   · cases h;exact hc
def ES(w V:World)(R Q b:Nat)(s:ByteArray)(I:Int)(S:List Rat):Prop:=
 Db V R s I∧Boxed V Q 25 (.slice none 0 0)∧Dl true V b S∧w.grownBy V (some R)∧w.heap.size≤Q∧w.heap.size≤b
section
variable {w V V':World} {R Q b:Nat} {s:ByteArray} {I I':Int} {S:List Rat}
theorem ES.below(h:ES w V R Q b s I S)(hb:Bl V V'):ES w V' R Q b s I S:=
 ⟨h.1.below hb,(hb.block Q h.2.1.lt).trans h.2.1,h.2.2.1.below hb,Jl h.2.2.2.1 (Yk hb _),h.2.2.2.2⟩
theorem ES.nb(h:ES w V R Q b s I S):b≠R∧Q≠R∧Q≠b:=by
 obtain⟨h1,h2,⟨cs,h3,_⟩,_⟩:=h;refine⟨Gr h1 h3 (by decide),Gr h1 h2 (by decide),fun e=>?_⟩;subst e;have:=h3.symm.trans h2;simp only[Ak,DG]at this;exact absurd this.2.1 (by decide)
theorem ES.rc(h:ES w V R Q b s I S)(hr:Db V' R s I')(hg:V.grownBy V' (some R)):ES w V' R Q b s I' S:=by
 obtain⟨n1,n2,_⟩:=h.nb;obtain⟨h1,h2,h3,h4,h5⟩:=h;exact⟨hr,(hg.block Q h2.lt (fun e=>n2 (Cp e))).trans h2,h3.keep (hg.block b h3.lt (fun e=>n1 (Cp e))) (NN h1 hg),Jl h4 hg,h5⟩
theorem ES.put(h:ES w V R Q b s I S){j:Nat}(hj:j<S.length){x y z u:Value}{q:Rat}(hv:Jg V (.agg #[x,y,z,u]) q):ES w (putAt V b (j*4) x y z u) R Q b s I (S.set j q):=by
 obtain⟨n1,_,n3⟩:=h.nb;obtain⟨h1,h2,h3,h4,h5,h6⟩:=h;exact⟨(KL (fun e=>n1 e.symm) _ _ _ _).trans h1,(KL n3 _ _ _ _).trans h2,h3.set hj hv,YA (YA (YA (YA h4 h6 _ _) h6 _ _) h6 _ _) h6 _ _,h5,h6⟩
theorem ES.new(h:Db w R s I)(n:Nat):ES w ((w.alloc (.cells #[.slice none 0 0] 25)).alloc (.cells (Ya n) 37)) R w.heap.size (w.heap.size+1) s I (List.replicate n 0):=by
 have ha:Bl w (w.alloc (.cells #[.slice none 0 0] 25)):=Ba w _;have hb:Bl w ((w.alloc (.cells #[.slice none 0 0] 25)).alloc (.cells (Ya n) 37)):=ha.alloc ha.size _;have hE:=LD n (w.alloc (.cells #[.slice none 0 0] 25));rw[BA]at hE;exact⟨h.below hb,(BI w 25 (.slice none 0 0)).alloc _,hE,Yk hb _,Aa _,by omega⟩
end
def Hz(w V:World)(R Q b C:Nat)(s:ByteArray)(I:Int)(S:List Rat)(c:Rat):Prop:=
 ES w V R Q b s I S∧∃s9 a9 l9 c9 t9 b9 k9 d9,JF V C 37 (.bool s9) (.slice a9 l9 c9) (.bool t9) (.slice b9 k9 d9)∧Jg V (.agg #[.bool s9,.slice a9 l9 c9,.bool t9,.slice b9 k9 d9]) c
theorem Hz.below{w V V':World}{R Q b C:Nat}{s:ByteArray}{I:Int}{S:List Rat}{c:Rat}(h:Hz w V R Q b C s I S c)(hb:Bl V V'):Hz w V' R Q b C s I S c:=by
 obtain⟨h1,s9,a9,l9,c9,t9,b9,k9,d9,h2,h3⟩:=h;exact⟨h1.below hb,s9,a9,l9,c9,t9,b9,k9,d9,h2.below hb,h3.below hb⟩
theorem Hz.new{w V:World}{R Q b:Nat}{s:ByteArray}{I:Int}{S:List Rat}{c:Rat}(h:ES w V R Q b s I S){s9:Bool}{a9:Option Addr}{l9 c9:Nat}{t9:Bool}{b9:Option Addr}{k9 d9:Nat}(hv:Jg V (.agg #[.bool s9,.slice a9 l9 c9,.bool t9,.slice b9 k9 d9]) c):
 Hz w (V.alloc (.cells #[.bool s9,.slice a9 l9 c9,.bool t9,.slice b9 k9 d9] 37)) R Q b V.heap.size s I S c:=by
 have ha:Bl V (V.alloc (.cells #[.bool s9,.slice a9 l9 c9,.bool t9,.slice b9 k9 d9] 37)):=Ba V _;exact⟨h.below ha,s9,a9,l9,c9,t9,b9,k9,d9,JF.new _ _ _ _ _ _,hv.below ha⟩
def aR(w:World)(R:Nat)(s:ByteArray)(r:Ending)(w':World):Prop:=
 w.grownBy w' (some R)∧(∀e q,EW (Jj s)=.error e q→r=.panicked [{ v:=GA e q,recovered:=false }])∧(∀S k,EW (Jj s)=.ok S k→∃u,r=.returned u∧Je w' u (Jc S)∧∃m,m≤300∧X5 S m)
attribute [local go_sem] Oper.semAt_some
def Il(b:Bool):Value:=if b then .func (.func 26) #[] #[]else .func (.func 34) #[] #[]
theorem QL(R:Nat)(s:ByteArray)(w:World)(h:Db w R s 0)(hs:s.size≤300):
 Calls Tryz.prog 120 #[.pointer (some ⟨R,0,none⟩)] w fun r w'=>aR w R s r w':=by
 have Ur:Tryz.prog.follows .mixedOrders=true:=by kernel_rfl
 have Uc:(Instr.makeSlice 23 (.int .i64 9) (.int .i64 9)).run Tryz.prog (w.alloc (.cells #[.slice none 0 0] 25))=.ok (.slice (some ⟨(w.alloc (.cells #[.slice none 0 0] 25)).heap.size,0,none⟩) 9 9) ((w.alloc (.cells #[.slice none 0 0] 25)).alloc (.cells (Ya 9) 37)):=X4 9 (by omega) _;have Qr:=ES.new h 9;obtain⟨W0,hW0⟩:=ex ((w.alloc (.cells #[.slice none 0 0] 25)).alloc (.cells (Ya 9) 37));rw[hW0,BA]at Uc;rw[hW0]at Qr;obtain⟨Q,hQ⟩:=ex (w.heap.size);obtain⟨b,hb⟩:=ex (w.heap.size+1);rw[hb]at Uc;rw[hb,hQ]at Qr;have HQ:=Ja hQ;have Un:=Ja Qr;obtain⟨b0,hb0⟩:∃x,x=XE (Jj s) (DT (Jj s) 0) 45:=⟨_,rfl⟩;obtain⟨Ue,Qv,HF⟩:=Dg (Gs R s 0 45 W0 Qr.1 (by omega) hs b0 hb0) hb0 (fun(e q:Int) (V:World)=>KS (.pointer (some ⟨R,0,none⟩)) e q V);clear h hW0 hQ hb Qr hb0;go_enter Tryz.func120,Tryz.ntmps120
 go_upto_region 3 with fail
 rw[HQ.o];clear Uc;go_upto_if 9 with(go_at_call 160;refine Ue.o.mono ?_;clear Ue;rintro e w1 ⟨rfl,hr1,hg1⟩;have Qm:=Ja (Un.o.rc hr1 hg1);clear hr1 hg1)
 go_cut [4] (fun jv w'=>jv=Il b0∧Hid (ES w w' R Q b s ((DT (Jj s) 0+(if b0=true then 1 else 0):Nat):Int) (List.replicate 9 0)))
 case first=>
  cases b0 with
  |true=>go_wp2_with fail;go_meet;case rel=>exact⟨rfl,Qm⟩
  |false=>go_wp2_with fail;go_meet;case rel=>exact⟨rfl,Qm⟩
 obtain⟨rfl,HP2⟩:=hcut;clear Qm;go_wp2_with fail
 go_loopw [4,5,6] (fun jv _ _ wr=>∃(j:Bool) (I f m:Nat) (S:List Rat),jv=Il j∧I≤s.size∧Hid (ES w wr R Q b s (I:Int) S)∧Hid (X5 S m)∧Hid (m≤I∧s.size-I<f∧Ea (Jj s) f j I S=EW (Jj s))) (fun _ _ _ wr=>s.size-Gq wr R)
 case atStart=>
  have Uq:DT (Jj s) 0≤s.size:=by rw[←Jp];exact XY (by omega)
  refine⟨b0,DT (Jj s) 0+(if b0=true then 1 else 0),s.size+1,0,List.replicate 9 0,rfl,?_,HP2,Ja X5.start,Ja ⟨by omega,by omega,?_⟩⟩
  · cases b0 with
    |false=>simpa using Uq
    |true=>
     have h2:=Yu Qv.o.symm;rw[Jp]at h2;simp;omega
  · unfold EW;rw[←Qv.o,Jp];cases b0<;>rfl
 case round=>
  clear HP2 Qv Un;obtain⟨j,I,f,m,S,rfl,hI,HP,HS,HT⟩:=hrel;have Qt:=Ja (aO R s I wr HP.o.1 hI hs);obtain⟨f,rfl⟩:∃f',f=f'+1:=⟨f-1,by have:=HT.o.2.1;omega⟩;cases ht:Y5 (Jj s) I with
  |error e5 q5=>
   have Up:=Ja ht;have Qc:=Ja (show EW (Jj s)=.error e5 q5 by rw[←HT.o.2.2];exact NL ht);clear ht;go_wp2_with(go_at_call 161;refine Qt.o.mono ?_;clear Qt;rintro e w1 ⟨hg1,hb1,_⟩;obtain rfl:=hb1 _ _ Up.o;have Ut:=Ja (Jl HP.o.2.2.2.1 hg1);clear hg1 hb1)
   refine⟨rfl,Ut.o,fun e q he=>?_,fun S' k he=>?_⟩
   · rw[Qc.o]at he;cases he;rfl
   · rw[Qc.o]at he;cases he
  |ok a5 k5=>
   obtain⟨c,n⟩:=a5;have Qo:=MK (by rw[Jp];exact hI) ht;rw[Jp]at Qo;obtain⟨Qj,Uh,Qx,Us⟩:=Dt Qo (QK (by rw[Jp];exact hI) ht) (NM (f:=f) (b:=j) (S:=S) ht) ht;have hn9:n<9:=by omega
   have hn9':(n:Int)<9:=by omega
   obtain⟨Qz,Ul,Uo,Qk⟩:=Dt (show n<S.length by rw[HS.o.1];omega) (show Sq (cf S n)from Sq.of (HS.o.2 n) (by have:=HT.o.1;omega)) (show Sq c from Sq.of Uh.o.sm (by omega)) (HS.o.next Uh.o Qo.2.2 j);obtain⟨S',hS'⟩:∃S',S.set n (if j then cf S n-c else cf S n+c)=S':=⟨_,rfl⟩;rw[hS']at Qk Qx;have Uj:=Ja hS';have Qp:=Ja (Qx.o.symm.trans HT.o.2.2);have Ua:k5≤s.size:=Qo.2.1;obtain⟨J,hJ⟩:=ex (DT (Jj s) k5);rw[hJ]at Qp;have HJ:=Ja hJ;have Qy:J≤s.size:=by rw[←hJ,←Jp];exact XY (by rw[Jp];exact Ua)
   have Qq:=Ja (show DT (Jj s) J=J by rw[←hJ];exact LM _ _);have Qn:=Ja (show k5≤J by rw[←hJ];exact GJ _ _);clear ht Qo hS' hJ Qx;go_upto_region 6 with(go_at_call 161;refine Qt.o.mono ?_;clear Qt;rintro e w1 ⟨hg1,_,hb1⟩;obtain⟨u1,rfl,hu1,hr1⟩:=hb1 _ _ _ Us.o;obtain⟨s9,a9,l9,c9,t9,b9,k9,d9,rfl⟩:=hu1.form;have HU:=Ja hu1;have Qm:=Ja (HP.o.rc hr1 hg1);clear hg1 hb1 hu1 hr1)
   have Qu:=Hz.new Qm.o HU.o;obtain⟨W1,hW1⟩:=ex (w1.alloc (.cells #[.bool s9,.slice a9 l9 c9,.bool t9,.slice b9 k9 d9] 37));obtain⟨C,hC⟩:=ex (w1.heap.size);rw[hW1,hC]at Qu;rw[hW1,hC];have Ug:=Ja (Hy HP.o.1);clear hW1 hC HU Qm HP;have Uf:=Qu.below ((BG _ W1).drew);clear Qu;go_cut [] (fun w'=>Hid (ES w w' R Q b s (k5:Int) S'))
   case first=>
    obtain⟨vv,hvv⟩:=ex ((if j then cf S n-c else cf S n+c));rw[hvv]at Uj;have Um:=Ja hvv;clear hvv;refine Jm Ur [[],[],[],[],[],[3,4],[5],[],[2,6,7],[0,1,0,1,2,3,4,5,6,7,8],[9,8,8,0,1,2,3,4,5,6,7,8]] (by kernel_rfl) (by decide)
     (fun D act V=>∃(ta tb tc td te tg ti tj tk tl:Value),act={ tmps:=#[.pointer (some ⟨R,0,none⟩),undef,.pointer (some ⟨Q,0,none⟩),.slice (some ⟨b,0,none⟩) 9 9,Il j,.pointer (some ⟨C,0,none⟩),.int .i64 ↑n,u7,u8,u9,.tuple #[.agg #[.bool s9,.slice a9 l9 c9,.bool t9,.slice b9 k9 d9],.int .i64 ↑n],.pointer (some ⟨R,0,none⟩),.tuple #[.agg #[.bool s9,.slice a9 l9 c9,.bool t9,.slice b9 k9 d9],.int .i64 ↑n],.agg #[.bool s9,.slice a9 l9 c9,.bool t9,.slice b9 k9 d9],.int .i64 ↑n,ta,tb,tc,td,te,tg,ti,tj,tk,tl,u25,u26,u27,u28,u29,u30,u31,u32,u33,u34,u35,u36,u37,u38,u39,u40,u41],defers:=[] }∧Hid ((D 0=true→ta=.slice (some ⟨b,0,none⟩) 9 9)∧(D 1=true→tb=.int .i64 (n:Int))∧(D 2=true→tc=Il j)∧(D 3=true→td=.slice (some ⟨b,0,none⟩) 9 9)∧(D 4=true→te=.int .i64 (n:Int))∧(D 5=true→tg=.pointer (some ⟨b,n*4,none⟩))∧(D 6=true→D 10=false→Jg V ti (cf S n))∧(D 7=true→D 10=false→Jg V tj c)∧(D 8=true→D 10=false→Jg V tk vv)∧(D 9=true→tl=.pointer (some ⟨b,n*4,none⟩)))∧Hid ((D 10=false→Hz w V R Q b C s (k5:Int) S c)∧(D 10=true→ES w V R Q b s (k5:Int) (S.set n vv))))
     (E8 ⟨_,_,rfl,Ja (by simp),Ja ⟨fun _=>Uf,by simp⟩⟩) ?step1t ?fin1t
    case step1t=>
     rintro D act V i ds hcl hi hds hDi ⟨ta,tb,tc,td,te,tg,ti,tj,tk,tl,rfl,GG,SS0⟩;have hi6:i<11:=(Ae.1 hi).1;obtain rfl|rfl|rfl|rfl|rfl|rfl|rfl|rfl|rfl|rfl|rfl:=Gx i (by omega)
     all_goals
      simp only[Ai,Ag,Ak]at hi;subst hi
     · clear hds;refine DZ ?_;exact⟨(Di GG),SS0⟩
     · clear hds;refine DZ ?_;exact⟨(Dm GG),SS0⟩
     · clear hds;refine DZ ?_;exact⟨(De GG),SS0⟩
     · clear hds;refine DZ ?_;exact⟨(Dj GG),SS0⟩
     · clear hds;refine DZ ?_;exact⟨(Dy GG),SS0⟩
     · obtain rfl:=GG.o.2.2.2.1 (hds 3 (by simp));obtain rfl:=GG.o.2.2.2.2.1 (hds 4 (by simp));clear hds;refine DZ ?_;exact⟨(D4 (Dy (Dj GG))),SS0⟩
     · have Qb:=SS0.o.1 (DP hcl hDi);obtain rfl:=Du GG (hds 5 (by simp));obtain⟨xa,xb,xc,xd,e0,e1,e2,e3,hr⟩:=Qb.1.2.2.1.at Qz.o;clear hds;refine DZ ?_;exact⟨(ED (D4 GG) fun _ _=>hr),SS0⟩
     · have Qb:=SS0.o.1 (DP hcl hDi);obtain⟨hB0,s8,a8,l8,c8,t8,b8,k8,d8,n8,r8⟩:=Qb;obtain⟨e0,e1,e2,e3⟩:=n8.cq;clear hds;refine DZ ?_;exact⟨(EQ GG fun _ _=>r8),SS0⟩
     · have Qa:D 10=false:=DP hcl hDi;have h0:=EJ GG (hds 6 (by simp)) Qa;have h1:=Ev GG (hds 7 (by simp)) Qa;obtain rfl:=GG.o.2.2.1 (hds 2 (by simp));clear hds;cases j with
       |true=>
        obtain rfl:cf S n-c=vv:=Um.o;have ff:Il true=.func (.func 26) #[] #[]:=rfl;have HC:=Ja (Hv _ _ (cf S n) c V h0 h1 Ul.o Uo.o);clear h0 h1;refine Jb rfl rfl fun K hK=>?_;go_simp;go_wp2_with(go_at_call 26;refine HC.o.mono ?_;rintro e w5 ⟨v5,rfl,hv5,hb5⟩)
        obtain⟨G0,G1,_,G3,G4,G5,G6,G7,_,G9⟩:=GG.o;exact E8 ⟨_,_,rfl,Ja ⟨G0,G1,fun _=>rfl,G3,G4,G5,fun h h2=>(G6 h h2).below hb5,fun h h2=>(G7 h h2).below hb5,fun _ _=>hv5,G9⟩,Ja ⟨fun h=>(SS0.o.1 h).below hb5,fun h=>(SS0.o.2 h).below hb5⟩⟩
       |false=>
        obtain rfl:cf S n+c=vv:=Um.o;have ff:Il false=.func (.func 34) #[] #[]:=rfl;have HC:=Ja (Hu _ _ (cf S n) c V h0 h1 Ul.o Uo.o);clear h0 h1;refine Jb rfl rfl fun K hK=>?_;go_simp;go_wp2_with(go_at_call 34;refine HC.o.mono ?_;rintro e w5 ⟨v5,rfl,hv5,hb5⟩)
        obtain⟨G0,G1,_,G3,G4,G5,G6,G7,_,G9⟩:=GG.o;exact E8 ⟨_,_,rfl,Ja ⟨G0,G1,fun _=>rfl,G3,G4,G5,fun h h2=>(G6 h h2).below hb5,fun h h2=>(G7 h h2).below hb5,fun _ _=>hv5,G9⟩,Ja ⟨fun h=>(SS0.o.1 h).below hb5,fun h=>(SS0.o.2 h).below hb5⟩⟩
     · obtain rfl:=GG.o.1 (hds 0 (by simp));obtain rfl:=GG.o.2.1 (hds 1 (by simp));clear hds;refine DZ ?_;exact⟨(MW (Dm (Di GG))),SS0⟩
     · have Qb:=SS0.o.1 hDi;have h0:=Ee GG (hds 8 (by simp)) hDi;obtain rfl:=GG.o.2.2.2.2.2.2.2.2.2 (hds 9 (by simp));have hE:=Qb.1.2.2.1;obtain⟨xa,xb,xc,xd,e0,e1,e2,e3,_⟩:=hE.at Qz.o;have f0:=hE.frozen (n*4);have f1:=hE.frozen (n*4+1);have f2:=hE.frozen (n*4+2);have f3:=hE.frozen (n*4+3);obtain⟨s9,a9,l9,c9,t9,b9,k9,d9,rfl⟩:=Jg.form h0;clear hds;refine DZ ?_;exact⟨(MW (EK (EQ (ED GG (fun _ h=>by simp at h)) (fun _ h=>by simp at h)) (fun _ h=>by simp at h))),Ja ⟨fun h=>by simp at h,fun _=>Qb.1.put Qz.o h0⟩⟩
    case fin1t=>
     rintro D act V hDD ⟨ta,tb,tc,td,te,tg,ti,tj,tk,tl,rfl,GG,SS0⟩;have Ui:=Ja (SS0.o.2 (hDD 10 (by decide)));clear GG SS0 hDD;rw[Uj.o]at Ui;go_wp2_with fail
     go_meet
     case rel=>exact Ui
   clear Uf;have Qi:=hcut;clear hcut;cases h43:XE (Jj s) J 43 with
   |true=>
    have Qw:J+1≤s.size:=by have:=Yu h43;rw[Jp]at this;omega
    have Qc:=Ja (show Ea (Jj s) f false (J+1) S'=EW (Jj s)by have e:=Qp.o;rw[BH h43]at e;exact e);have Qf:=Ja (fun(V:World) (hh:Db V R s (k5:Int))=>Gs R s k5 43 V hh Ua hs true (by rw[HJ.o,h43]));rw[HJ.o]at Qf;clear h43;go_wp2_with(go_at_call 160;refine(Qf.o _ Qi.o.1).mono ?_;clear Qf;rintro e w7 ⟨rfl,hr7,hg7⟩;have Qd:=Ja (Qi.o.rc hr7 hg7);clear hr7 hg7)
    go_roundw
    case rel=>exact⟨false,J+1,f,m+1,S',rfl,Qw,Qd,Qk,Ja ⟨by have:=HT.o.1;have:=Qj.o;have:=Qn.o;omega,by have:=HT.o.2.1;have:=Qj.o;have:=Qn.o;omega,Qc.o⟩⟩
    case measure=>
     have e1:=Hy (I:=J+1) Qd.o.1;rw[e1,Ug.o];have:=Qj.o;have:=Qn.o;omega
   |false=>
    have Qf:=Ja (fun(V:World) (hh:Db V R s (k5:Int))=>Gs R s k5 43 V hh Ua hs false (by rw[HJ.o,h43]));rw[HJ.o]at Qf;cases h45:XE (Jj s) J 45 with
    |true=>
     have Qw:J+1≤s.size:=by have:=Yu h45;rw[Jp]at this;omega
     have Qc:=Ja (show Ea (Jj s) f true (J+1) S'=EW (Jj s)by have e:=Qp.o;rw[BE (by rw[h43];decide),BH h45]at e;exact e);have Qg:=Ja (fun(V:World) (hh:Db V R s (J:Int))=>Gs R s J 45 V hh Qy hs true (by rw[Qq.o,h45]));rw[Qq.o]at Qg;clear h43 h45;go_wp2_with(first
      |(go_at_call 160;refine(Qf.o _ Qi.o.1).mono ?_;clear Qf;rintro e w7 ⟨rfl,hr7,hg7⟩;have Qd:=Ja (Qi.o.rc hr7 hg7);clear hr7 hg7)
      |(go_at_call 160;refine(Qg.o _ Qd.o.1).mono ?_;clear Qg;rintro e w8 ⟨rfl,hr8,hg8⟩;have Qh:=Ja (Qd.o.rc hr8 hg8);clear hr8 hg8))
     go_roundw
     case rel=>exact⟨true,J+1,f,m+1,S',rfl,Qw,Qh,Qk,Ja ⟨by have:=HT.o.1;have:=Qj.o;have:=Qn.o;omega,by have:=HT.o.2.1;have:=Qj.o;have:=Qn.o;omega,Qc.o⟩⟩
     case measure=>
      have e1:=Hy (I:=J+1) Qh.o.1;rw[e1,Ug.o];have:=Qj.o;have:=Qn.o;omega
    |false=>
     have Qg:=Ja (fun(V:World) (hh:Db V R s (J:Int))=>Gs R s J 45 V hh Qy hs false (by rw[Qq.o,h45]));rw[Qq.o]at Qg;have Ql:=Ja (fun(V:World) (hh:Db V R s (J:Int))=>NO R s J V hh Qy hs);rw[Qq.o]at Ql;by_cases hJe:J=s.size
     · have Qc:=Ja (show EW (Jj s)=.ok S' J by have e:=Qp.o;rw[BE (by rw[h43];decide),BE (by rw[h45];decide),BH (by rw[Jp];exact hJe)]at e;exact e.symm);rw[show decide (J=s.size)=true from BL hJe]at Ql;have Uk:=Ja (fun(V:World) (hE:Dl true V b S')=>Xu (.slice (some ⟨b,0,none⟩) 9 9) S' V (by
        have Ud:=hE.row (n:=9) (cap:=9) (by rw[Qk.o.1];exact Aa _) (Aa _) (by omega) (by omega);rwa[Ac (by rw[Qk.o.1];exact Aa _)]at Ud) (Sqs.of fun i=>Sq.of (Qk.o.2 i) (by have:=HT.o.1;omega)))
       clear h43 h45 hJe;go_wp2_with(first
        |(go_at_call 160;refine(Qf.o _ Qi.o.1).mono ?_;clear Qf;rintro e w7 ⟨rfl,hr7,hg7⟩;have Qd:=Ja (Qi.o.rc hr7 hg7);clear hr7 hg7)
        |(go_at_call 160;refine(Qg.o _ Qd.o.1).mono ?_;clear Qg;rintro e w8 ⟨rfl,hr8,hg8⟩;have Qh:=Ja (Qd.o.rc hr8 hg8);clear hr8 hg8)
        |(go_at_call 162;refine(Ql.o _ Qh.o.1).mono ?_;clear Ql;rintro e w9 ⟨rfl,hr9,hg9⟩;have Qs:=Ja (Qh.o.rc hr9 hg9);clear hr9 hg9)
        |(go_at_call 39;refine(Uk.o _ Qs.o.2.2.1).mono ?_;clear Uk;rintro e w10 ⟨u10,rfl,hu10,_,hq10⟩;obtain⟨a7,l7,c7,rfl⟩:=hu10.form;have Qe:=Ja (Qs.o.below hq10);have x0:=Qe.o.2.1.cell;have x1:=Qe.o.2.1.frozen;have Ub:=Ja hu10.row;clear hu10 hq10))
       refine BB (v:=.agg #[.slice a7 l7 c7]) (by simp[results,Tryz.results120,go_sem,x0]) rfl ⟨YA Qe.o.2.2.2.1 Qe.o.2.2.2.2.1 0 _,fun e q he=>?_,fun S'' k he=>?_⟩
       · rw[Qc.o]at he;cases he
       · rw[Qc.o]at he;cases he;exact⟨_,rfl,⟨_,rfl,EX Qe.o.2.1 _ Ub.o⟩,m+1,by have:=HT.o.1;have:=Qj.o;omega,Qk.o⟩
     · have Qc:=Ja (show EW (Jj s)=.error 2 J by have e:=Qp.o;rw[BE (by rw[h43];decide),BE (by rw[h45];decide),BE (by rw[Jp];exact hJe)]at e;exact e.symm);rw[show decide (J=s.size)=false from BR hJe]at Ql;clear h43 h45 hJe;go_wp2_with(first
        |(go_at_call 160;refine(Qf.o _ Qi.o.1).mono ?_;clear Qf;rintro e w7 ⟨rfl,hr7,hg7⟩;have Qd:=Ja (Qi.o.rc hr7 hg7);clear hr7 hg7)
        |(go_at_call 160;refine(Qg.o _ Qd.o.1).mono ?_;clear Qg;rintro e w8 ⟨rfl,hr8,hg8⟩;have Qh:=Ja (Qd.o.rc hr8 hg8);clear hr8 hg8)
        |(go_at_call 162;refine(Ql.o _ Qh.o.1).mono ?_;clear Ql;rintro e w9 ⟨rfl,hr9,hg9⟩;have c19:=hr9.c1;have Qs:=Ja (Qh.o.rc hr9 hg9);clear hr9 hg9)
        |(go_at_call 163;refine(HF.o _ _ _).mono ?_;clear HF;rintro e w10 ⟨rfl,rfl⟩))
       refine⟨rfl,Qs.o.2.2.2.1,fun e q he=>?_,fun S'' k he=>?_⟩
       · rw[Qc.o]at he;cases he;rfl
       · rw[Qc.o]at he;cases he
structure Sq1(q:Rat):Prop where
 sm:DV 100000 q
set_option linter.unusedSimpArgs false
theorem aS{q:Rat}(h:Sq q):Sq (Yl q):=by
 unfold Yl;split
 · exact h.neg
 · exact h
theorem sign_neg{q:Rat}{sg:Int}(h:q.num.sign=sg)(h0:sg<0):q<0:=neg_num.2 (by rw[←h]at h0;exact Int.sign_eq_neg_one_iff_neg.1 (by have:=Int.sign_trichotomy q.num;omega))
theorem aT(va:Value)(q:Rat)(w:World)(ha:Jg w va q):
 Calls Tryz.prog 179 #[va] w fun e w'=>∃u,e=.returned u∧Jk w' u q.num∧Bl w w':=by
 obtain⟨s900,a900,l900,c900,t900,b900,k900,d900,rfl⟩:=Jg.form ha;have M0:=(((Mem.nil w).push (.rat (q)) ha).push (.int 0) (X2 _));simp only[BA]at M0;have M0:Mem w ((w.alloc (.cells #[.bool s900,.slice a900 l900 c900,.bool t900,.slice b900 k900 d900] 37)).alloc (.cells #[.bool false,.slice none 0 0] 35)) [some (w.heap.size,.rat (q)),some (w.heap.size+1,.int (0))]:=M0;obtain⟨W0,hW0⟩:=ex ((w.alloc (.cells #[.bool s900,.slice a900 l900 c900,.bool t900,.slice b900 k900 d900] 37)).alloc (.cells #[.bool false,.slice none 0 0] 35));have Qb:=Ja hW0;rw[hW0]at M0;have M1:Hid (Mem w W0 [some (w.heap.size,.rat (q)),some (w.heap.size+1,.int (0))]):=Ja M0;clear M0 hW0 ha;go_enter Tryz.func179,Tryz.ntmps179
 go_upto_region 1 with fail
 rw[Qb.o];clear Qb;obtain⟨s1,a1,l1,c1,t1,b1,k1,d1,n1,r1,i1,j1⟩:=M1.o.rat (i:=0) rfl;obtain⟨e1a,e1b⟩:=n1.cp;obtain⟨s2,a2,l2,c2,n2,i2⟩:=M1.o.int (i:=1) rfl;obtain⟨Qc,Qd⟩:=n2.cp;obtain⟨f2a,f2b⟩:=n2.fp;have hB:=M1.o.2.2;have Qa:=M1.o.ge 1 rfl;go_wp2_with fail
 exact BB (v:=.agg #[.bool s1,.slice a1 l1 c1]) (by simp[results,Tryz.results179,go_sem,Qc,Qd]) rfl ⟨_,rfl,i1.box n2 rfl rfl,(hB.setCell (p:=⟨_,0,none⟩) Qa _).setCell (p:=⟨_,1,none⟩) Qa _⟩
theorem QM(s:ByteArray)(w:World):
 Calls Tryz.prog 12 #[.string s] w fun e w'=>∃u,e=.returned u∧Jg w' u (Ei (Jj s))∧Bl w w':=by
 have HC:=Ja (fun(V:World)=>LP s V);obtain⟨q,hq⟩:=ex (Ei (Jj s));obtain⟨o,ho⟩:=ex ((Xg (Jj s)).isSome);unfold Xy at HC;rw[hq,ho]at HC;rw[hq];clear hq ho;have M0:=((Mem.nil w).push (.rat 0) (Xn _));have M0:Mem w (w.alloc (.cells #[.bool false,.slice none 0 0,.bool false,.slice none 0 0] 37)) [some (w.heap.size,.rat (0))]:=M0;obtain⟨W0,hW0⟩:=ex (w.alloc (.cells #[.bool false,.slice none 0 0,.bool false,.slice none 0 0] 37));have Qa:=Ja hW0;rw[hW0]at M0;have M1:Hid (Mem w W0 [some (w.heap.size,.rat (0))]):=Ja M0;clear M0 hW0;go_enter Tryz.func12,Tryz.ntmps12
 go_upto_region 1 with fail
 rw[Qa.o];clear Qa;go_upto_region 2 with(go_at_call 24;refine(HC.o _).mono ?_;clear HC;rintro e w1 ⟨u,rfl,hu,hb⟩;obtain⟨s90,a90,l90,c90,t90,b90,k90,d90,rfl⟩:=Jg.form hu)
 obtain⟨V1,hV⟩:=ex (w1.alloc (.cells #[.bool s90,.slice a90 l90 c90,.bool t90,.slice b90 k90 d90] 37));obtain⟨B1,hBk⟩:=ex (w1.heap.size);have MM:Mem w (w1.alloc (.cells #[.bool s90,.slice a90 l90 c90,.bool t90,.slice b90 k90 d90] 37)) [some (w.heap.size,.rat (0)),some (w1.heap.size,.rat (q))]:=Mem.push (M1.o.below hb) (.rat (q)) hu;rw[hV,hBk]at MM;rw[hV];rw[hBk];have M2:Hid (Mem w V1 [some (w.heap.size,.rat (0)),some (B1,.rat (q))]):=Ja (MM);clear M1;clear MM hV hBk;clear hu hb;obtain⟨s2,a2,l2,c2,t2,b2,k2,d2,n2,r2,i2,j2⟩:=M2.o.rat (i:=1) rfl;obtain⟨e2a,e2b,e2c,e2d⟩:=n2.cq;obtain⟨s3,a3,l3,c3,t3,b3,k3,d3,n3,r3,i3,j3⟩:=M2.o.rat (i:=0) rfl;obtain⟨Qe,Qd,Qf,Qc⟩:=n3.cq;obtain⟨f3a,f3b,f3c,f3d⟩:=n3.fq;have hB:=M2.o.2.2;have Qb:=M2.o.ge 0 rfl;go_wp2_with fail
 exact BB (v:=.agg #[.bool s2,.slice a2 l2 c2,.bool t2,.slice b2 k2 d2]) (by simp[results,Tryz.results12,go_sem,Qe,Qd,Qf,Qc]) rfl ⟨_,rfl,r2.put4 n3 rfl rfl rfl rfl _ _ _ _,Jr hB Qb _ _ _ _⟩

