import Derived.Test.YtcahejkcdcjjgaaGreatDoorK39
set_option maxRecDepth 100000
set_option maxHeartbeats 16000000
namespace Go.Proofs.YtcahejkcdcjjgaaGreatDoor
open Go.RowKit Go.Shelf
attribute [local go_sem] Oper.semAt_some
def fnJ(b:Bool):Value:=if b then .func (.func 43) #[] #[]else .func (.func 40) #[] #[]
theorem Jnx(R:Nat)(s:ByteArray)(w:World)(h:RcB w R s 0)(hs:s.size≤300):
 Calls Tryz.prog 90 #[.pointer (some ⟨R,0,none⟩)] w fun r w'=>Ju9 w R s r w':=by
 have Uo:Tryz.prog.follows .mixedOrders=true:=by kernel_rfl
 have Ur:(Instr.makeSlice 23 (.int .i64 9) (.int .i64 9)).run Tryz.prog (w.alloc (.cells #[.slice none 0 0] 25))=.ok (.slice (some ⟨(w.alloc (.cells #[.slice none 0 0] 25)).heap.size,0,none⟩) 9 9) ((w.alloc (.cells #[.slice none 0 0] 25)).alloc (.cells (Yh 9) 38)):=X9 9 (by omega) _;have Uh:=PoB.new h 9;obtain⟨W0,hW0⟩:=ex ((w.alloc (.cells #[.slice none 0 0] 25)).alloc (.cells (Yh 9) 38));rw[hW0,World.size_alloc]at Ur;rw[hW0]at Uh;obtain⟨Q,hQ⟩:=ex (w.heap.size);obtain⟨b,hb⟩:=ex (w.heap.size+1);rw[hb]at Ur;rw[hb,hQ]at Uh;have HQ:=Ja hQ;have Un:=Ja Uh;obtain⟨b0,hb0⟩:∃x,x=JL (Jd s) (skB (Jd s) 0) 45:=⟨_,rfl⟩;have Um:=Ja (Y0 R s 0 45 W0 Uh.1 (by omega) hs b0 hb0);have Ue:=Ja hb0;have HF:=Ja (fun(e q:Int) (V:World)=>Jeu (.pointer (some ⟨R,0,none⟩)) e q V);clear h hW0 hQ hb Uh hb0;go_enter Tryz.func90,Tryz.ntmps90
 go_upto_region 3 with fail
 rw[HQ.o];clear Ur;cases b0 with
 |true=>
  go_wp2_with(go_at_call 120;refine Um.o.mono ?_;clear Um;rintro e w1 ⟨rfl,hr1,hg1⟩;have Qr:=Ja (Un.o.rc hr1 hg1);clear hr1 hg1)
  go_loopw [4,5,6] (fun jv _ _ wr=>∃(j:Bool) (I f m:Nat) (S:List Rat),jv=fnJ j∧I≤s.size∧Hid (PoB w wr R Q b s (I:Int) S)∧Hid (Yv S m)∧Hid (m≤I∧s.size-I<f∧X3 (Jd s) f j I S=Xx (Jd s))) (fun _ _ _ wr=>s.size-rdI wr R)
  case atStart=>
   have Ut:skB (Jd s) 0≤s.size:=by rw[←Jg];exact Yj (by omega)
   refine⟨true,skB (Jd s) 0+(if true=true then 1 else 0),s.size+1,0,List.replicate 9 0,rfl,?_,Qr,Ja Yv.start,Ja ⟨by omega,by omega,?_⟩⟩
   · first
      |simpa using Ut
      |(have h2:=JZ Ue.o.symm;rw[Jg]at h2;simp;omega)
   · unfold Xx;rw[←Ue.o,Jg];rfl
  case round=>
   clear Qr Ue Un;obtain⟨j,I,f,m,S,rfl,hI,HP,HS,HT⟩:=hrel;have Qu:=Ja (Jnv R s I wr HP.o.1 hI hs);obtain⟨f,rfl⟩:∃f',f=f'+1:=⟨f-1,by have:=HT.o.2.1;omega⟩;cases ht:JR (Jd s) I with
   |bad e5 q5=>
    have Uq:=Ja ht;have Qc:=Ja (show Xx (Jd s)=.bad e5 q5 by rw[←HT.o.2.2];exact Jcs ht);clear ht;go_wp2_with(go_at_call 121;refine Qu.o.mono ?_;clear Qu;rintro e w1 ⟨hg1,hb1,_⟩;obtain rfl:=hb1 _ _ Uq.o;have Us:=Ja (Jf HP.o.2.2.2.1 hg1);clear hg1 hb1)
    refine⟨rfl,Us.o,fun e q he=>?_,fun S' k he=>?_⟩
    · rw[Qc.o]at he;cases he;rfl
    · rw[Qc.o]at he;cases he
   |ok a5 k5=>
    obtain⟨c,n⟩:=a5;have Qp:=Jb9 (by rw[Jg];exact hI) ht;rw[Jg]at Qp;have Ql:=Ja Qp;have Ui:=Ja (Jd0 (by rw[Jg];exact hI) ht);have Ua:=Ja (Jet (f:=f) (b:=j) (S:=S) ht);have Up:=Ja ht;have Uv:n<9:=by omega
    have hn9':(n:Int)<9:=by omega
    have Qn:=Ja (show n<S.length by rw[HS.o.1];omega);have Ug:=Ja (show Sq (cf S n)from Sq.of (HS.o.2 n) (by have:=HT.o.1;omega));have Uj:=Ja (show Sq c from Sq.of Ui.o.sm (by omega));have Qk:=Ja (HS.o.next Ui.o Qp.2.2 j);obtain⟨S',hS'⟩:∃S',S.set n (if j then cf S n-c else cf S n+c)=S':=⟨_,rfl⟩;rw[hS']at Qk Ua;have Uf:=Ja hS';have Qq:=Ja (Ua.o.symm.trans HT.o.2.2);have Qw:k5≤s.size:=Qp.2.1;obtain⟨J,hJ⟩:=ex (skB (Jd s) k5);rw[hJ]at Qq;have HJ:=Ja hJ;have Qx:J≤s.size:=by rw[←hJ,←Jg];exact Yj (by rw[Jg];exact Qw)
    have Qo:=Ja (show skB (Jd s) J=J by rw[←hJ];exact Jak _ _);have Qm:=Ja (show k5≤J by rw[←hJ];exact Jbt _ _);clear ht Qp hS' hJ Ua;go_upto_region 6 with(go_at_call 121;refine Qu.o.mono ?_;clear Qu;rintro e w1 ⟨hg1,_,hb1⟩;obtain⟨u1,rfl,hu1,hr1⟩:=hb1 _ _ _ Up.o;obtain⟨s9,a9,l9,c9,t9,b9,k9,d9,rfl⟩:=hu1.form;have HU:=Ja hu1;have Qr:=Ja (HP.o.rc hr1 hg1);clear hg1 hb1 hu1 hr1)
    have Qz:=PoX.new Qr.o HU.o;obtain⟨W1,hW1⟩:=ex (w1.alloc (.cells #[.bool s9,.slice a9 l9 c9,.bool t9,.slice b9 k9 d9] 38));obtain⟨C,hC⟩:=ex (w1.heap.size);rw[hW1,hC]at Qz;rw[hW1,hC];have Ul:=Ja (Ja4 HP.o.1);clear hW1 hC HU Qr HP;have Qy:=Qz.below ((Below.refl _ W1).drew);clear Qz;go_cut [] (fun w'=>Hid (PoB w w' R Q b s (k5:Int) S'))
    case first=>
     cases j with
     |true=>
      have Uc:=Ja (show S.set n (cf S n-c)=S' from Uf.o);unfold fnJ;simp only[if_true];refine Jr Uo [[],[],[],[],[],[3,4],[5],[],[2,6,7],[0,1,0,1,2,3,4,5,6,7,8],[9,8,8,0,1,2,3,4,5,6,7,8]] (by kernel_rfl) (by decide)
       (fun D act V=>∃(ta tb tc td te tf tg ti tj tk:Value),act={ tmps:=#[.pointer (some ⟨R,0,none⟩),undef,.pointer (some ⟨Q,0,none⟩),.slice (some ⟨b,0,none⟩) 9 9,.func (.func 43) #[] #[],.pointer (some ⟨C,0,none⟩),.int .i64 ↑n,.slice (some ⟨b,0,none⟩) 9 9,.pointer (some ⟨R,0,none⟩),.bool true,.tuple #[.agg #[.bool s9,.slice a9 l9 c9,.bool t9,.slice b9 k9 d9],.int .i64 ↑n],.pointer (some ⟨R,0,none⟩),.tuple #[.agg #[.bool s9,.slice a9 l9 c9,.bool t9,.slice b9 k9 d9],.int .i64 ↑n],.agg #[.bool s9,.slice a9 l9 c9,.bool t9,.slice b9 k9 d9],.int .i64 ↑n,ta,tb,tc,td,te,tf,tg,ti,tj,tk,u25,u26,u27,u28,u29,u30,u31,u32,u33,u34,u35,u36,u37,u38,u39,u40,u41],defers:=[] }∧Hid ((D 0=true→ta=.slice (some ⟨b,0,none⟩) 9 9)∧(D 1=true→tb=.int .i64 (n:Int))∧(D 2=true→tc=.func (.func 43) #[] #[])∧(D 3=true→td=.slice (some ⟨b,0,none⟩) 9 9)∧(D 4=true→te=.int .i64 (n:Int))∧(D 5=true→tf=.pointer (some ⟨b,n*4,none⟩))∧(D 6=true→D 10=false→Ji V tg (cf S n))∧(D 7=true→D 10=false→Ji V ti c)∧(D 8=true→D 10=false→Ji V tj (cf S n-c))∧(D 9=true→tk=.pointer (some ⟨b,n*4,none⟩)))∧Hid ((D 10=false→PoX w V R Q b C s (k5:Int) S c)∧(D 10=true→PoB w V R Q b s (k5:Int) (S.set n (cf S n-c)))))
       (E8 ⟨_,_,rfl,Ja (by simp),Ja ⟨fun _=>Qy,by simp⟩⟩) ?step1t ?fin1t
      case step1t=>
       rintro D act V i ds hcl hi hds hDi ⟨ta,tb,tc,td,te,tf,tg,ti,tj,tk,rfl,GG,SS0⟩;have Uu:i<11:=(Ad.1 hi).1;obtain rfl|rfl|rfl|rfl|rfl|rfl|rfl|rfl|rfl|rfl|rfl:=Lt11 i (by omega)
       all_goals
        simp only[Aj,Ah,Ak]at hi;subst hi
       · clear hds;refine Jb rfl rfl fun K hK=>?_;go_simp;obtain⟨_,G1⟩:=GG.o;exact hK _ _ (E8 ⟨_,_,rfl,Ja ⟨fun _=>rfl,G1⟩,SS0⟩)
       · clear hds;refine Jb rfl rfl fun K hK=>?_;go_simp;obtain⟨G0,_,G2⟩:=GG.o;exact hK _ _ (E8 ⟨_,_,rfl,Ja ⟨G0,fun _=>rfl,G2⟩,SS0⟩)
       · clear hds;refine Jb rfl rfl fun K hK=>?_;go_simp;obtain⟨G0,G1,_,G3⟩:=GG.o;exact hK _ _ (E8 ⟨_,_,rfl,Ja ⟨G0,G1,fun _=>rfl,G3⟩,SS0⟩)
       · clear hds;refine Jb rfl rfl fun K hK=>?_;go_simp;obtain⟨G0,G1,G2,_,G4⟩:=GG.o;exact hK _ _ (E8 ⟨_,_,rfl,Ja ⟨G0,G1,G2,fun _=>rfl,G4⟩,SS0⟩)
       · clear hds;refine Jb rfl rfl fun K hK=>?_;go_simp;obtain⟨G0,G1,G2,G3,_,G5⟩:=GG.o;exact hK _ _ (E8 ⟨_,_,rfl,Ja ⟨G0,G1,G2,G3,fun _=>rfl,G5⟩,SS0⟩)
       · obtain rfl:=GG.o.2.2.2.1 (hds 3 (by simp));obtain rfl:=GG.o.2.2.2.2.1 (hds 4 (by simp));clear hds;refine Jb rfl rfl fun K hK=>?_;go_simp;obtain⟨G0,G1,G2,_,_,_,G6⟩:=GG.o;exact hK _ _ (E8 ⟨_,_,rfl,Ja ⟨G0,G1,G2,fun _=>rfl,fun _=>rfl,fun _=>rfl,G6⟩,SS0⟩)
       · have Qa:D 10=false:=nyt hcl hDi;have Qb:=SS0.o.1 Qa;obtain rfl:=GG.o.2.2.2.2.2.1 (hds 5 (by simp));obtain⟨xa,xb,xc,xd,e0,e1,e2,e3,hr⟩:=Qb.1.2.2.1.at Qn.o;clear hds;refine Jb rfl rfl fun K hK=>?_;go_simp;obtain⟨G0,G1,G2,G3,G4,_,_,G7⟩:=GG.o;exact hK _ _ (E8 ⟨_,_,rfl,Ja ⟨G0,G1,G2,G3,G4,fun _=>rfl,fun _ _=>hr,G7⟩,SS0⟩)
       · have Qa:D 10=false:=nyt hcl hDi;have Qb:=SS0.o.1 Qa;obtain⟨hB0,s8,a8,l8,c8,t8,b8,k8,d8,n8,r8⟩:=Qb;have e0:=n8.c0;have e1:=n8.c1;have e2:=n8.c2;have e3:=n8.c3;clear hds;refine Jb rfl rfl fun K hK=>?_;go_simp;obtain⟨G0,G1,G2,G3,G4,G5,G6,_,G8⟩:=GG.o;exact hK _ _ (E8 ⟨_,_,rfl,Ja ⟨G0,G1,G2,G3,G4,G5,G6,fun _ _=>r8,G8⟩,SS0⟩)
       · have Qa:D 10=false:=nyt hcl hDi;have h0:=GG.o.2.2.2.2.2.2.1 (hds 6 (by simp)) Qa;have h1:=GG.o.2.2.2.2.2.2.2.1 (hds 7 (by simp)) Qa;obtain rfl:=GG.o.2.2.1 (hds 2 (by simp));clear hds;have HC:=Ja (Jen _ _ (cf S n) c V h0 h1 Ug.o Uj.o);clear h0 h1;refine Jb rfl rfl fun K hK=>?_;go_simp;go_wp2_with(go_at_call 43;refine HC.o.mono ?_;rintro e w5 ⟨v5,rfl,hv5,hb5⟩)
         obtain⟨G0,G1,_,G3,G4,G5,G6,G7,_,G9⟩:=GG.o;exact E8 ⟨_,_,rfl,Ja ⟨G0,G1,fun _=>rfl,G3,G4,G5,fun h h2=>(G6 h h2).below hb5,fun h h2=>(G7 h h2).below hb5,fun _ _=>hv5,G9⟩,Ja ⟨fun h=>(SS0.o.1 h).below hb5,fun h=>(SS0.o.2 h).below hb5⟩⟩
       · obtain rfl:=GG.o.1 (hds 0 (by simp));obtain rfl:=GG.o.2.1 (hds 1 (by simp));clear hds;refine Jb rfl rfl fun K hK=>?_;go_simp;obtain⟨_,_,G2,G3,G4,G5,G6,G7,G8,_⟩:=GG.o;exact hK _ _ (E8 ⟨_,_,rfl,Ja ⟨fun _=>rfl,fun _=>rfl,G2,G3,G4,G5,G6,G7,G8,fun _=>rfl⟩,SS0⟩)
       · have Qb:=SS0.o.1 hDi;have h0:=GG.o.2.2.2.2.2.2.2.2.1 (hds 8 (by simp)) hDi;obtain rfl:=GG.o.2.2.2.2.2.2.2.2.2 (hds 9 (by simp));have hE:=Qb.1.2.2.1;obtain⟨xa,xb,xc,xd,e0,e1,e2,e3,_⟩:=hE.at Qn.o;have f0:=hE.frozen (n*4);have f1:=hE.frozen (n*4+1);have f2:=hE.frozen (n*4+2);have f3:=hE.frozen (n*4+3);obtain⟨s9,a9,l9,c9,t9,b9,k9,d9,rfl⟩:=Ji.form h0;clear hds;refine Jb rfl rfl fun K hK=>?_;go_simp;obtain⟨G0,G1,G2,G3,G4,G5,_,_,_,_⟩:=GG.o;exact hK _ _ (E8 ⟨_,_,rfl,Ja ⟨G0,G1,G2,G3,G4,G5,fun _ h=>by simp at h,fun _ h=>by simp at h,fun _ h=>by simp at h,fun _=>rfl⟩,Ja ⟨fun h=>by simp at h,fun _=>Qb.1.put Qn.o h0⟩⟩)
      case fin1t=>
       rintro D act V hDD ⟨ta,tb,tc,td,te,tf,tg,ti,tj,tk,rfl,GG,SS0⟩;have Qs:=Ja (SS0.o.2 (hDD 10 (by decide)));clear GG SS0 hDD;rw[Uc.o]at Qs;go_wp2_with fail
       go_meet
       case rel=>exact Qs
     |false=>
      have Uc:=Ja (show S.set n (cf S n+c)=S' from Uf.o);unfold fnJ;simp only[A6,if_false];refine Jr Uo [[],[],[],[],[],[3,4],[5],[],[2,6,7],[0,1,0,1,2,3,4,5,6,7,8],[9,8,8,0,1,2,3,4,5,6,7,8]] (by kernel_rfl) (by decide)
       (fun D act V=>∃(ta tb tc td te tf tg ti tj tk:Value),act={ tmps:=#[.pointer (some ⟨R,0,none⟩),undef,.pointer (some ⟨Q,0,none⟩),.slice (some ⟨b,0,none⟩) 9 9,.func (.func 40) #[] #[],.pointer (some ⟨C,0,none⟩),.int .i64 ↑n,.slice (some ⟨b,0,none⟩) 9 9,.pointer (some ⟨R,0,none⟩),.bool true,.tuple #[.agg #[.bool s9,.slice a9 l9 c9,.bool t9,.slice b9 k9 d9],.int .i64 ↑n],.pointer (some ⟨R,0,none⟩),.tuple #[.agg #[.bool s9,.slice a9 l9 c9,.bool t9,.slice b9 k9 d9],.int .i64 ↑n],.agg #[.bool s9,.slice a9 l9 c9,.bool t9,.slice b9 k9 d9],.int .i64 ↑n,ta,tb,tc,td,te,tf,tg,ti,tj,tk,u25,u26,u27,u28,u29,u30,u31,u32,u33,u34,u35,u36,u37,u38,u39,u40,u41],defers:=[] }∧Hid ((D 0=true→ta=.slice (some ⟨b,0,none⟩) 9 9)∧(D 1=true→tb=.int .i64 (n:Int))∧(D 2=true→tc=.func (.func 40) #[] #[])∧(D 3=true→td=.slice (some ⟨b,0,none⟩) 9 9)∧(D 4=true→te=.int .i64 (n:Int))∧(D 5=true→tf=.pointer (some ⟨b,n*4,none⟩))∧(D 6=true→D 10=false→Ji V tg (cf S n))∧(D 7=true→D 10=false→Ji V ti c)∧(D 8=true→D 10=false→Ji V tj (cf S n+c))∧(D 9=true→tk=.pointer (some ⟨b,n*4,none⟩)))∧Hid ((D 10=false→PoX w V R Q b C s (k5:Int) S c)∧(D 10=true→PoB w V R Q b s (k5:Int) (S.set n (cf S n+c)))))
       (E8 ⟨_,_,rfl,Ja (by simp),Ja ⟨fun _=>Qy,by simp⟩⟩) ?step2t ?fin2t
      case step2t=>
       rintro D act V i ds hcl hi hds hDi ⟨ta,tb,tc,td,te,tf,tg,ti,tj,tk,rfl,GG,SS0⟩;have Uu:i<11:=(Ad.1 hi).1;obtain rfl|rfl|rfl|rfl|rfl|rfl|rfl|rfl|rfl|rfl|rfl:=Lt11 i (by omega)
       all_goals
        simp only[Aj,Ah,Ak]at hi;subst hi
       · clear hds;refine Jb rfl rfl fun K hK=>?_;go_simp;obtain⟨_,G1⟩:=GG.o;exact hK _ _ (E8 ⟨_,_,rfl,Ja ⟨fun _=>rfl,G1⟩,SS0⟩)
       · clear hds;refine Jb rfl rfl fun K hK=>?_;go_simp;obtain⟨G0,_,G2⟩:=GG.o;exact hK _ _ (E8 ⟨_,_,rfl,Ja ⟨G0,fun _=>rfl,G2⟩,SS0⟩)
       · clear hds;refine Jb rfl rfl fun K hK=>?_;go_simp;obtain⟨G0,G1,_,G3⟩:=GG.o;exact hK _ _ (E8 ⟨_,_,rfl,Ja ⟨G0,G1,fun _=>rfl,G3⟩,SS0⟩)
       · clear hds;refine Jb rfl rfl fun K hK=>?_;go_simp;obtain⟨G0,G1,G2,_,G4⟩:=GG.o;exact hK _ _ (E8 ⟨_,_,rfl,Ja ⟨G0,G1,G2,fun _=>rfl,G4⟩,SS0⟩)
       · clear hds;refine Jb rfl rfl fun K hK=>?_;go_simp;obtain⟨G0,G1,G2,G3,_,G5⟩:=GG.o;exact hK _ _ (E8 ⟨_,_,rfl,Ja ⟨G0,G1,G2,G3,fun _=>rfl,G5⟩,SS0⟩)
       · obtain rfl:=GG.o.2.2.2.1 (hds 3 (by simp));obtain rfl:=GG.o.2.2.2.2.1 (hds 4 (by simp));clear hds;refine Jb rfl rfl fun K hK=>?_;go_simp;obtain⟨G0,G1,G2,_,_,_,G6⟩:=GG.o;exact hK _ _ (E8 ⟨_,_,rfl,Ja ⟨G0,G1,G2,fun _=>rfl,fun _=>rfl,fun _=>rfl,G6⟩,SS0⟩)
       · have Qa:D 10=false:=nyt hcl hDi;have Qb:=SS0.o.1 Qa;obtain rfl:=GG.o.2.2.2.2.2.1 (hds 5 (by simp));obtain⟨xa,xb,xc,xd,e0,e1,e2,e3,hr⟩:=Qb.1.2.2.1.at Qn.o;clear hds;refine Jb rfl rfl fun K hK=>?_;go_simp;obtain⟨G0,G1,G2,G3,G4,_,_,G7⟩:=GG.o;exact hK _ _ (E8 ⟨_,_,rfl,Ja ⟨G0,G1,G2,G3,G4,fun _=>rfl,fun _ _=>hr,G7⟩,SS0⟩)
       · have Qa:D 10=false:=nyt hcl hDi;have Qb:=SS0.o.1 Qa;obtain⟨hB0,s8,a8,l8,c8,t8,b8,k8,d8,n8,r8⟩:=Qb;have e0:=n8.c0;have e1:=n8.c1;have e2:=n8.c2;have e3:=n8.c3;clear hds;refine Jb rfl rfl fun K hK=>?_;go_simp;obtain⟨G0,G1,G2,G3,G4,G5,G6,_,G8⟩:=GG.o;exact hK _ _ (E8 ⟨_,_,rfl,Ja ⟨G0,G1,G2,G3,G4,G5,G6,fun _ _=>r8,G8⟩,SS0⟩)
       · have Qa:D 10=false:=nyt hcl hDi;have h0:=GG.o.2.2.2.2.2.2.1 (hds 6 (by simp)) Qa;have h1:=GG.o.2.2.2.2.2.2.2.1 (hds 7 (by simp)) Qa;obtain rfl:=GG.o.2.2.1 (hds 2 (by simp));clear hds;have HC:=Ja (Jem _ _ (cf S n) c V h0 h1 Ug.o Uj.o);clear h0 h1;refine Jb rfl rfl fun K hK=>?_;go_simp;go_wp2_with(go_at_call 40;refine HC.o.mono ?_;rintro e w5 ⟨v5,rfl,hv5,hb5⟩)
         obtain⟨G0,G1,_,G3,G4,G5,G6,G7,_,G9⟩:=GG.o;exact E8 ⟨_,_,rfl,Ja ⟨G0,G1,fun _=>rfl,G3,G4,G5,fun h h2=>(G6 h h2).below hb5,fun h h2=>(G7 h h2).below hb5,fun _ _=>hv5,G9⟩,Ja ⟨fun h=>(SS0.o.1 h).below hb5,fun h=>(SS0.o.2 h).below hb5⟩⟩
       · obtain rfl:=GG.o.1 (hds 0 (by simp));obtain rfl:=GG.o.2.1 (hds 1 (by simp));clear hds;refine Jb rfl rfl fun K hK=>?_;go_simp;obtain⟨_,_,G2,G3,G4,G5,G6,G7,G8,_⟩:=GG.o;exact hK _ _ (E8 ⟨_,_,rfl,Ja ⟨fun _=>rfl,fun _=>rfl,G2,G3,G4,G5,G6,G7,G8,fun _=>rfl⟩,SS0⟩)
       · have Qb:=SS0.o.1 hDi;have h0:=GG.o.2.2.2.2.2.2.2.2.1 (hds 8 (by simp)) hDi;obtain rfl:=GG.o.2.2.2.2.2.2.2.2.2 (hds 9 (by simp));have hE:=Qb.1.2.2.1;obtain⟨xa,xb,xc,xd,e0,e1,e2,e3,_⟩:=hE.at Qn.o;have f0:=hE.frozen (n*4);have f1:=hE.frozen (n*4+1);have f2:=hE.frozen (n*4+2);have f3:=hE.frozen (n*4+3);obtain⟨s9,a9,l9,c9,t9,b9,k9,d9,rfl⟩:=Ji.form h0;clear hds;refine Jb rfl rfl fun K hK=>?_;go_simp;obtain⟨G0,G1,G2,G3,G4,G5,_,_,_,_⟩:=GG.o;exact hK _ _ (E8 ⟨_,_,rfl,Ja ⟨G0,G1,G2,G3,G4,G5,fun _ h=>by simp at h,fun _ h=>by simp at h,fun _ h=>by simp at h,fun _=>rfl⟩,Ja ⟨fun h=>by simp at h,fun _=>Qb.1.put Qn.o h0⟩⟩)
      case fin2t=>
       rintro D act V hDD ⟨ta,tb,tc,td,te,tf,tg,ti,tj,tk,rfl,GG,SS0⟩;have Qs:=Ja (SS0.o.2 (hDD 10 (by decide)));clear GG SS0 hDD;rw[Uc.o]at Qs;go_wp2_with fail
       go_meet
       case rel=>exact Qs
    clear Qy;have Qh:=hcut;clear hcut;cases h43:JL (Jd s) J 43 with
    |true=>
     have Ub:J+1≤s.size:=by have:=JZ h43;rw[Jg]at this;omega
     have Qc:=Ja (show X3 (Jd s) f false (J+1) S'=Xx (Jd s)by have e:=Qq.o;rw[if_pos h43]at e;exact e);have Qf:=Ja (fun(V:World) (hh:RcB V R s (k5:Int))=>Y0 R s k5 43 V hh Qw hs true (by rw[HJ.o,h43]));rw[HJ.o]at Qf;clear h43;go_wp2_with(go_at_call 120;refine(Qf.o _ Qh.o.1).mono ?_;clear Qf;rintro e w7 ⟨rfl,hr7,hg7⟩;have Qd:=Ja (Qh.o.rc hr7 hg7);clear hr7 hg7)
     go_roundw
     case rel=>exact⟨false,J+1,f,m+1,S',rfl,Ub,Qd,Qk,Ja ⟨by have:=HT.o.1;have:=Ql.o;have:=Qm.o;omega,by have:=HT.o.2.1;have:=Ql.o;have:=Qm.o;omega,Qc.o⟩⟩
     case measure=>
      have e1:=Ja4 (I:=J+1) Qd.o.1;rw[e1,Ul.o];have:=Ql.o;have:=Qm.o;omega
    |false=>
     have Qf:=Ja (fun(V:World) (hh:RcB V R s (k5:Int))=>Y0 R s k5 43 V hh Qw hs false (by rw[HJ.o,h43]));rw[HJ.o]at Qf;cases h45:JL (Jd s) J 45 with
     |true=>
      have Ub:J+1≤s.size:=by have:=JZ h45;rw[Jg]at this;omega
      have Qc:=Ja (show X3 (Jd s) f true (J+1) S'=Xx (Jd s)by have e:=Qq.o;rw[if_neg (by rw[h43];decide),if_pos h45]at e;exact e);have Qg:=Ja (fun(V:World) (hh:RcB V R s (J:Int))=>Y0 R s J 45 V hh Qx hs true (by rw[Qo.o,h45]));rw[Qo.o]at Qg;clear h43 h45;go_wp2_with(first
       |(go_at_call 120;refine(Qf.o _ Qh.o.1).mono ?_;clear Qf;rintro e w7 ⟨rfl,hr7,hg7⟩;have Qd:=Ja (Qh.o.rc hr7 hg7);clear hr7 hg7)
       |(go_at_call 120;refine(Qg.o _ Qd.o.1).mono ?_;clear Qg;rintro e w8 ⟨rfl,hr8,hg8⟩;have Qi:=Ja (Qd.o.rc hr8 hg8);clear hr8 hg8))
      go_roundw
      case rel=>exact⟨true,J+1,f,m+1,S',rfl,Ub,Qi,Qk,Ja ⟨by have:=HT.o.1;have:=Ql.o;have:=Qm.o;omega,by have:=HT.o.2.1;have:=Ql.o;have:=Qm.o;omega,Qc.o⟩⟩
      case measure=>
       have e1:=Ja4 (I:=J+1) Qi.o.1;rw[e1,Ul.o];have:=Ql.o;have:=Qm.o;omega
     |false=>
      have Qg:=Ja (fun(V:World) (hh:RcB V R s (J:Int))=>Y0 R s J 45 V hh Qx hs false (by rw[Qo.o,h45]));rw[Qo.o]at Qg;have Qj:=Ja (fun(V:World) (hh:RcB V R s (J:Int))=>Jf5 R s J V hh Qx hs);rw[Qo.o]at Qj;by_cases hJe:J=s.size
      · have Qc:=Ja (show Xx (Jd s)=.ok S' J by have e:=Qq.o;rw[if_neg (by rw[h43];decide),if_neg (by rw[h45];decide),if_pos (by rw[Jg];exact hJe)]at e;exact e.symm);rw[show decide (J=s.size)=true from decide_eq_true hJe]at Qj;have Uk:=Ja (fun(V:World) (hE:Els true V b S')=>X4 (.slice (some ⟨b,0,none⟩) 9 9) S' V (by
         have Qv:=hE.row (n:=9) (cap:=9) (by rw[Qk.o.1];exact Aa _) (Aa _) (by omega) (by omega);rwa[Ab (by rw[Qk.o.1];exact Aa _)]at Qv) (Sqs.of fun i=>Sq.of (Qk.o.2 i) (by have:=HT.o.1;omega)))
        clear h43 h45 hJe;go_wp2_with(first
         |(go_at_call 120;refine(Qf.o _ Qh.o.1).mono ?_;clear Qf;rintro e w7 ⟨rfl,hr7,hg7⟩;have Qd:=Ja (Qh.o.rc hr7 hg7);clear hr7 hg7)
         |(go_at_call 120;refine(Qg.o _ Qd.o.1).mono ?_;clear Qg;rintro e w8 ⟨rfl,hr8,hg8⟩;have Qi:=Ja (Qd.o.rc hr8 hg8);clear hr8 hg8)
         |(go_at_call 122;refine(Qj.o _ Qi.o.1).mono ?_;clear Qj;rintro e w9 ⟨rfl,hr9,hg9⟩;have Qt:=Ja (Qi.o.rc hr9 hg9);clear hr9 hg9)
         |(go_at_call 65;refine(Uk.o _ Qt.o.2.2.1).mono ?_;clear Uk;rintro e w10 ⟨u10,rfl,hu10,_,hq10⟩;obtain⟨a7,l7,c7,rfl⟩:=hu10.form;have Qe:=Ja (Qt.o.below hq10);have x0:=Qe.o.2.1.cell;have x1:=Qe.o.2.1.frozen;have Ud:=Ja hu10.row;clear hu10 hq10))
        refine bodyPost_ret (v:=.agg #[.slice a7 l7 c7]) (by simp[results,Tryz.results90,go_sem,x0]) rfl ⟨J1 Qe.o.2.2.2.1 Qe.o.2.2.2.2.1 0 _,fun e q he=>?_,fun S'' k he=>?_⟩
        · rw[Qc.o]at he;cases he
        · rw[Qc.o]at he;cases he;exact⟨_,rfl,⟨_,rfl,Jh0 Qe.o.2.1 _ Ud.o⟩,m+1,by have:=HT.o.1;have:=Ql.o;omega,Qk.o⟩
      · have Qc:=Ja (show Xx (Jd s)=.bad 2 J by have e:=Qq.o;rw[if_neg (by rw[h43];decide),if_neg (by rw[h45];decide),if_neg (by rw[Jg];exact hJe)]at e;exact e.symm);rw[show decide (J=s.size)=false from decide_eq_false hJe]at Qj;clear h43 h45 hJe;go_wp2_with(first
         |(go_at_call 120;refine(Qf.o _ Qh.o.1).mono ?_;clear Qf;rintro e w7 ⟨rfl,hr7,hg7⟩;have Qd:=Ja (Qh.o.rc hr7 hg7);clear hr7 hg7)
         |(go_at_call 120;refine(Qg.o _ Qd.o.1).mono ?_;clear Qg;rintro e w8 ⟨rfl,hr8,hg8⟩;have Qi:=Ja (Qd.o.rc hr8 hg8);clear hr8 hg8)
         |(go_at_call 122;refine(Qj.o _ Qi.o.1).mono ?_;clear Qj;rintro e w9 ⟨rfl,hr9,hg9⟩;have Uw:=hr9.c1;have Qt:=Ja (Qi.o.rc hr9 hg9);clear hr9 hg9)
         |(go_at_call 123;refine(HF.o _ _ _).mono ?_;clear HF;rintro e w10 ⟨rfl,rfl⟩))
        refine⟨rfl,Qt.o.2.2.2.1,fun e q he=>?_,fun S'' k he=>?_⟩
        · rw[Qc.o]at he;cases he;rfl
        · rw[Qc.o]at he;cases he
 |false=>
  go_wp2_with(go_at_call 120;refine Um.o.mono ?_;clear Um;rintro e w1 ⟨rfl,hr1,hg1⟩;have Qr:=Ja (Un.o.rc hr1 hg1);clear hr1 hg1)
  go_loopw [4,5,6] (fun jv _ _ wr=>∃(j:Bool) (I f m:Nat) (S:List Rat),jv=fnJ j∧I≤s.size∧Hid (PoB w wr R Q b s (I:Int) S)∧Hid (Yv S m)∧Hid (m≤I∧s.size-I<f∧X3 (Jd s) f j I S=Xx (Jd s))) (fun _ _ _ wr=>s.size-rdI wr R)
  case atStart=>
   have Ut:skB (Jd s) 0≤s.size:=by rw[←Jg];exact Yj (by omega)
   refine⟨false,skB (Jd s) 0+(if false=true then 1 else 0),s.size+1,0,List.replicate 9 0,rfl,?_,Qr,Ja Yv.start,Ja ⟨by omega,by omega,?_⟩⟩
   · first
      |simpa using Ut
      |(have h2:=JZ Ue.o.symm;rw[Jg]at h2;simp;omega)
   · unfold Xx;rw[←Ue.o,Jg];rfl
  case round=>
   clear Qr Ue Un;obtain⟨j,I,f,m,S,rfl,hI,HP,HS,HT⟩:=hrel;have Qu:=Ja (Jnv R s I wr HP.o.1 hI hs);obtain⟨f,rfl⟩:∃f',f=f'+1:=⟨f-1,by have:=HT.o.2.1;omega⟩;cases ht:JR (Jd s) I with
   |bad e5 q5=>
    have Uq:=Ja ht;have Qc:=Ja (show Xx (Jd s)=.bad e5 q5 by rw[←HT.o.2.2];exact Jcs ht);clear ht;go_wp2_with(go_at_call 121;refine Qu.o.mono ?_;clear Qu;rintro e w1 ⟨hg1,hb1,_⟩;obtain rfl:=hb1 _ _ Uq.o;have Us:=Ja (Jf HP.o.2.2.2.1 hg1);clear hg1 hb1)
    refine⟨rfl,Us.o,fun e q he=>?_,fun S' k he=>?_⟩
    · rw[Qc.o]at he;cases he;rfl
    · rw[Qc.o]at he;cases he
   |ok a5 k5=>
    obtain⟨c,n⟩:=a5;have Qp:=Jb9 (by rw[Jg];exact hI) ht;rw[Jg]at Qp;have Ql:=Ja Qp;have Ui:=Ja (Jd0 (by rw[Jg];exact hI) ht);have Ua:=Ja (Jet (f:=f) (b:=j) (S:=S) ht);have Up:=Ja ht;have Uv:n<9:=by omega
    have hn9':(n:Int)<9:=by omega
    have Qn:=Ja (show n<S.length by rw[HS.o.1];omega);have Ug:=Ja (show Sq (cf S n)from Sq.of (HS.o.2 n) (by have:=HT.o.1;omega));have Uj:=Ja (show Sq c from Sq.of Ui.o.sm (by omega));have Qk:=Ja (HS.o.next Ui.o Qp.2.2 j);obtain⟨S',hS'⟩:∃S',S.set n (if j then cf S n-c else cf S n+c)=S':=⟨_,rfl⟩;rw[hS']at Qk Ua;have Uf:=Ja hS';have Qq:=Ja (Ua.o.symm.trans HT.o.2.2);have Qw:k5≤s.size:=Qp.2.1;obtain⟨J,hJ⟩:=ex (skB (Jd s) k5);rw[hJ]at Qq;have HJ:=Ja hJ;have Qx:J≤s.size:=by rw[←hJ,←Jg];exact Yj (by rw[Jg];exact Qw)
    have Qo:=Ja (show skB (Jd s) J=J by rw[←hJ];exact Jak _ _);have Qm:=Ja (show k5≤J by rw[←hJ];exact Jbt _ _);clear ht Qp hS' hJ Ua;go_upto_region 6 with(go_at_call 121;refine Qu.o.mono ?_;clear Qu;rintro e w1 ⟨hg1,_,hb1⟩;obtain⟨u1,rfl,hu1,hr1⟩:=hb1 _ _ _ Up.o;obtain⟨s9,a9,l9,c9,t9,b9,k9,d9,rfl⟩:=hu1.form;have HU:=Ja hu1;have Qr:=Ja (HP.o.rc hr1 hg1);clear hg1 hb1 hu1 hr1)
    have Qz:=PoX.new Qr.o HU.o;obtain⟨W1,hW1⟩:=ex (w1.alloc (.cells #[.bool s9,.slice a9 l9 c9,.bool t9,.slice b9 k9 d9] 38));obtain⟨C,hC⟩:=ex (w1.heap.size);rw[hW1,hC]at Qz;rw[hW1,hC];have Ul:=Ja (Ja4 HP.o.1);clear hW1 hC HU Qr HP;have Qy:=Qz.below ((Below.refl _ W1).drew);clear Qz;go_cut [] (fun w'=>Hid (PoB w w' R Q b s (k5:Int) S'))
    case first=>
     cases j with
     |true=>
      have Uc:=Ja (show S.set n (cf S n-c)=S' from Uf.o);unfold fnJ;simp only[if_true];refine Jr Uo [[],[],[],[],[],[3,4],[5],[],[2,6,7],[0,1,0,1,2,3,4,5,6,7,8],[9,8,8,0,1,2,3,4,5,6,7,8]] (by kernel_rfl) (by decide)
       (fun D act V=>∃(ta tb tc td te tf tg ti tj tk:Value),act={ tmps:=#[.pointer (some ⟨R,0,none⟩),undef,.pointer (some ⟨Q,0,none⟩),.slice (some ⟨b,0,none⟩) 9 9,.func (.func 43) #[] #[],.pointer (some ⟨C,0,none⟩),.int .i64 ↑n,.slice (some ⟨b,0,none⟩) 9 9,.pointer (some ⟨R,0,none⟩),.bool false,.tuple #[.agg #[.bool s9,.slice a9 l9 c9,.bool t9,.slice b9 k9 d9],.int .i64 ↑n],.pointer (some ⟨R,0,none⟩),.tuple #[.agg #[.bool s9,.slice a9 l9 c9,.bool t9,.slice b9 k9 d9],.int .i64 ↑n],.agg #[.bool s9,.slice a9 l9 c9,.bool t9,.slice b9 k9 d9],.int .i64 ↑n,ta,tb,tc,td,te,tf,tg,ti,tj,tk,u25,u26,u27,u28,u29,u30,u31,u32,u33,u34,u35,u36,u37,u38,u39,u40,u41],defers:=[] }∧Hid ((D 0=true→ta=.slice (some ⟨b,0,none⟩) 9 9)∧(D 1=true→tb=.int .i64 (n:Int))∧(D 2=true→tc=.func (.func 43) #[] #[])∧(D 3=true→td=.slice (some ⟨b,0,none⟩) 9 9)∧(D 4=true→te=.int .i64 (n:Int))∧(D 5=true→tf=.pointer (some ⟨b,n*4,none⟩))∧(D 6=true→D 10=false→Ji V tg (cf S n))∧(D 7=true→D 10=false→Ji V ti c)∧(D 8=true→D 10=false→Ji V tj (cf S n-c))∧(D 9=true→tk=.pointer (some ⟨b,n*4,none⟩)))∧Hid ((D 10=false→PoX w V R Q b C s (k5:Int) S c)∧(D 10=true→PoB w V R Q b s (k5:Int) (S.set n (cf S n-c)))))
       (E8 ⟨_,_,rfl,Ja (by simp),Ja ⟨fun _=>Qy,by simp⟩⟩) ?step1 ?fin1
      case step1=>
       rintro D act V i ds hcl hi hds hDi ⟨ta,tb,tc,td,te,tf,tg,ti,tj,tk,rfl,GG,SS0⟩;have Uu:i<11:=(Ad.1 hi).1;obtain rfl|rfl|rfl|rfl|rfl|rfl|rfl|rfl|rfl|rfl|rfl:=Lt11 i (by omega)
       all_goals
        simp only[Aj,Ah,Ak]at hi;subst hi
       · clear hds;refine Jb rfl rfl fun K hK=>?_;go_simp;obtain⟨_,G1⟩:=GG.o;exact hK _ _ (E8 ⟨_,_,rfl,Ja ⟨fun _=>rfl,G1⟩,SS0⟩)
       · clear hds;refine Jb rfl rfl fun K hK=>?_;go_simp;obtain⟨G0,_,G2⟩:=GG.o;exact hK _ _ (E8 ⟨_,_,rfl,Ja ⟨G0,fun _=>rfl,G2⟩,SS0⟩)
       · clear hds;refine Jb rfl rfl fun K hK=>?_;go_simp;obtain⟨G0,G1,_,G3⟩:=GG.o;exact hK _ _ (E8 ⟨_,_,rfl,Ja ⟨G0,G1,fun _=>rfl,G3⟩,SS0⟩)
       · clear hds;refine Jb rfl rfl fun K hK=>?_;go_simp;obtain⟨G0,G1,G2,_,G4⟩:=GG.o;exact hK _ _ (E8 ⟨_,_,rfl,Ja ⟨G0,G1,G2,fun _=>rfl,G4⟩,SS0⟩)
       · clear hds;refine Jb rfl rfl fun K hK=>?_;go_simp;obtain⟨G0,G1,G2,G3,_,G5⟩:=GG.o;exact hK _ _ (E8 ⟨_,_,rfl,Ja ⟨G0,G1,G2,G3,fun _=>rfl,G5⟩,SS0⟩)
       · obtain rfl:=GG.o.2.2.2.1 (hds 3 (by simp));obtain rfl:=GG.o.2.2.2.2.1 (hds 4 (by simp));clear hds;refine Jb rfl rfl fun K hK=>?_;go_simp;obtain⟨G0,G1,G2,_,_,_,G6⟩:=GG.o;exact hK _ _ (E8 ⟨_,_,rfl,Ja ⟨G0,G1,G2,fun _=>rfl,fun _=>rfl,fun _=>rfl,G6⟩,SS0⟩)
       · have Qa:D 10=false:=nyt hcl hDi;have Qb:=SS0.o.1 Qa;obtain rfl:=GG.o.2.2.2.2.2.1 (hds 5 (by simp));obtain⟨xa,xb,xc,xd,e0,e1,e2,e3,hr⟩:=Qb.1.2.2.1.at Qn.o;clear hds;refine Jb rfl rfl fun K hK=>?_;go_simp;obtain⟨G0,G1,G2,G3,G4,_,_,G7⟩:=GG.o;exact hK _ _ (E8 ⟨_,_,rfl,Ja ⟨G0,G1,G2,G3,G4,fun _=>rfl,fun _ _=>hr,G7⟩,SS0⟩)
       · have Qa:D 10=false:=nyt hcl hDi;have Qb:=SS0.o.1 Qa;obtain⟨hB0,s8,a8,l8,c8,t8,b8,k8,d8,n8,r8⟩:=Qb;have e0:=n8.c0;have e1:=n8.c1;have e2:=n8.c2;have e3:=n8.c3;clear hds;refine Jb rfl rfl fun K hK=>?_;go_simp;obtain⟨G0,G1,G2,G3,G4,G5,G6,_,G8⟩:=GG.o;exact hK _ _ (E8 ⟨_,_,rfl,Ja ⟨G0,G1,G2,G3,G4,G5,G6,fun _ _=>r8,G8⟩,SS0⟩)
       · have Qa:D 10=false:=nyt hcl hDi;have h0:=GG.o.2.2.2.2.2.2.1 (hds 6 (by simp)) Qa;have h1:=GG.o.2.2.2.2.2.2.2.1 (hds 7 (by simp)) Qa;obtain rfl:=GG.o.2.2.1 (hds 2 (by simp));clear hds;have HC:=Ja (Jen _ _ (cf S n) c V h0 h1 Ug.o Uj.o);clear h0 h1;refine Jb rfl rfl fun K hK=>?_;go_simp;go_wp2_with(go_at_call 43;refine HC.o.mono ?_;rintro e w5 ⟨v5,rfl,hv5,hb5⟩)
         obtain⟨G0,G1,_,G3,G4,G5,G6,G7,_,G9⟩:=GG.o;exact E8 ⟨_,_,rfl,Ja ⟨G0,G1,fun _=>rfl,G3,G4,G5,fun h h2=>(G6 h h2).below hb5,fun h h2=>(G7 h h2).below hb5,fun _ _=>hv5,G9⟩,Ja ⟨fun h=>(SS0.o.1 h).below hb5,fun h=>(SS0.o.2 h).below hb5⟩⟩
       · obtain rfl:=GG.o.1 (hds 0 (by simp));obtain rfl:=GG.o.2.1 (hds 1 (by simp));clear hds;refine Jb rfl rfl fun K hK=>?_;go_simp;obtain⟨_,_,G2,G3,G4,G5,G6,G7,G8,_⟩:=GG.o;exact hK _ _ (E8 ⟨_,_,rfl,Ja ⟨fun _=>rfl,fun _=>rfl,G2,G3,G4,G5,G6,G7,G8,fun _=>rfl⟩,SS0⟩)
       · have Qb:=SS0.o.1 hDi;have h0:=GG.o.2.2.2.2.2.2.2.2.1 (hds 8 (by simp)) hDi;obtain rfl:=GG.o.2.2.2.2.2.2.2.2.2 (hds 9 (by simp));have hE:=Qb.1.2.2.1;obtain⟨xa,xb,xc,xd,e0,e1,e2,e3,_⟩:=hE.at Qn.o;have f0:=hE.frozen (n*4);have f1:=hE.frozen (n*4+1);have f2:=hE.frozen (n*4+2);have f3:=hE.frozen (n*4+3);obtain⟨s9,a9,l9,c9,t9,b9,k9,d9,rfl⟩:=Ji.form h0;clear hds;refine Jb rfl rfl fun K hK=>?_;go_simp;obtain⟨G0,G1,G2,G3,G4,G5,_,_,_,_⟩:=GG.o;exact hK _ _ (E8 ⟨_,_,rfl,Ja ⟨G0,G1,G2,G3,G4,G5,fun _ h=>by simp at h,fun _ h=>by simp at h,fun _ h=>by simp at h,fun _=>rfl⟩,Ja ⟨fun h=>by simp at h,fun _=>Qb.1.put Qn.o h0⟩⟩)
      case fin1=>
       rintro D act V hDD ⟨ta,tb,tc,td,te,tf,tg,ti,tj,tk,rfl,GG,SS0⟩;have Qs:=Ja (SS0.o.2 (hDD 10 (by decide)));clear GG SS0 hDD;rw[Uc.o]at Qs;go_wp2_with fail
       go_meet
       case rel=>exact Qs
     |false=>
      have Uc:=Ja (show S.set n (cf S n+c)=S' from Uf.o);unfold fnJ;simp only[A6,if_false];refine Jr Uo [[],[],[],[],[],[3,4],[5],[],[2,6,7],[0,1,0,1,2,3,4,5,6,7,8],[9,8,8,0,1,2,3,4,5,6,7,8]] (by kernel_rfl) (by decide)
       (fun D act V=>∃(ta tb tc td te tf tg ti tj tk:Value),act={ tmps:=#[.pointer (some ⟨R,0,none⟩),undef,.pointer (some ⟨Q,0,none⟩),.slice (some ⟨b,0,none⟩) 9 9,.func (.func 40) #[] #[],.pointer (some ⟨C,0,none⟩),.int .i64 ↑n,.slice (some ⟨b,0,none⟩) 9 9,.pointer (some ⟨R,0,none⟩),.bool false,.tuple #[.agg #[.bool s9,.slice a9 l9 c9,.bool t9,.slice b9 k9 d9],.int .i64 ↑n],.pointer (some ⟨R,0,none⟩),.tuple #[.agg #[.bool s9,.slice a9 l9 c9,.bool t9,.slice b9 k9 d9],.int .i64 ↑n],.agg #[.bool s9,.slice a9 l9 c9,.bool t9,.slice b9 k9 d9],.int .i64 ↑n,ta,tb,tc,td,te,tf,tg,ti,tj,tk,u25,u26,u27,u28,u29,u30,u31,u32,u33,u34,u35,u36,u37,u38,u39,u40,u41],defers:=[] }∧Hid ((D 0=true→ta=.slice (some ⟨b,0,none⟩) 9 9)∧(D 1=true→tb=.int .i64 (n:Int))∧(D 2=true→tc=.func (.func 40) #[] #[])∧(D 3=true→td=.slice (some ⟨b,0,none⟩) 9 9)∧(D 4=true→te=.int .i64 (n:Int))∧(D 5=true→tf=.pointer (some ⟨b,n*4,none⟩))∧(D 6=true→D 10=false→Ji V tg (cf S n))∧(D 7=true→D 10=false→Ji V ti c)∧(D 8=true→D 10=false→Ji V tj (cf S n+c))∧(D 9=true→tk=.pointer (some ⟨b,n*4,none⟩)))∧Hid ((D 10=false→PoX w V R Q b C s (k5:Int) S c)∧(D 10=true→PoB w V R Q b s (k5:Int) (S.set n (cf S n+c)))))
       (E8 ⟨_,_,rfl,Ja (by simp),Ja ⟨fun _=>Qy,by simp⟩⟩) ?step2 ?fin2
      case step2=>
       rintro D act V i ds hcl hi hds hDi ⟨ta,tb,tc,td,te,tf,tg,ti,tj,tk,rfl,GG,SS0⟩;have Uu:i<11:=(Ad.1 hi).1;obtain rfl|rfl|rfl|rfl|rfl|rfl|rfl|rfl|rfl|rfl|rfl:=Lt11 i (by omega)
       all_goals
        simp only[Aj,Ah,Ak]at hi;subst hi
       · clear hds;refine Jb rfl rfl fun K hK=>?_;go_simp;obtain⟨_,G1⟩:=GG.o;exact hK _ _ (E8 ⟨_,_,rfl,Ja ⟨fun _=>rfl,G1⟩,SS0⟩)
       · clear hds;refine Jb rfl rfl fun K hK=>?_;go_simp;obtain⟨G0,_,G2⟩:=GG.o;exact hK _ _ (E8 ⟨_,_,rfl,Ja ⟨G0,fun _=>rfl,G2⟩,SS0⟩)
       · clear hds;refine Jb rfl rfl fun K hK=>?_;go_simp;obtain⟨G0,G1,_,G3⟩:=GG.o;exact hK _ _ (E8 ⟨_,_,rfl,Ja ⟨G0,G1,fun _=>rfl,G3⟩,SS0⟩)
       · clear hds;refine Jb rfl rfl fun K hK=>?_;go_simp;obtain⟨G0,G1,G2,_,G4⟩:=GG.o;exact hK _ _ (E8 ⟨_,_,rfl,Ja ⟨G0,G1,G2,fun _=>rfl,G4⟩,SS0⟩)
       · clear hds;refine Jb rfl rfl fun K hK=>?_;go_simp;obtain⟨G0,G1,G2,G3,_,G5⟩:=GG.o;exact hK _ _ (E8 ⟨_,_,rfl,Ja ⟨G0,G1,G2,G3,fun _=>rfl,G5⟩,SS0⟩)
       · obtain rfl:=GG.o.2.2.2.1 (hds 3 (by simp));obtain rfl:=GG.o.2.2.2.2.1 (hds 4 (by simp));clear hds;refine Jb rfl rfl fun K hK=>?_;go_simp;obtain⟨G0,G1,G2,_,_,_,G6⟩:=GG.o;exact hK _ _ (E8 ⟨_,_,rfl,Ja ⟨G0,G1,G2,fun _=>rfl,fun _=>rfl,fun _=>rfl,G6⟩,SS0⟩)
       · have Qa:D 10=false:=nyt hcl hDi;have Qb:=SS0.o.1 Qa;obtain rfl:=GG.o.2.2.2.2.2.1 (hds 5 (by simp));obtain⟨xa,xb,xc,xd,e0,e1,e2,e3,hr⟩:=Qb.1.2.2.1.at Qn.o;clear hds;refine Jb rfl rfl fun K hK=>?_;go_simp;obtain⟨G0,G1,G2,G3,G4,_,_,G7⟩:=GG.o;exact hK _ _ (E8 ⟨_,_,rfl,Ja ⟨G0,G1,G2,G3,G4,fun _=>rfl,fun _ _=>hr,G7⟩,SS0⟩)
       · have Qa:D 10=false:=nyt hcl hDi;have Qb:=SS0.o.1 Qa;obtain⟨hB0,s8,a8,l8,c8,t8,b8,k8,d8,n8,r8⟩:=Qb;have e0:=n8.c0;have e1:=n8.c1;have e2:=n8.c2;have e3:=n8.c3;clear hds;refine Jb rfl rfl fun K hK=>?_;go_simp;obtain⟨G0,G1,G2,G3,G4,G5,G6,_,G8⟩:=GG.o;exact hK _ _ (E8 ⟨_,_,rfl,Ja ⟨G0,G1,G2,G3,G4,G5,G6,fun _ _=>r8,G8⟩,SS0⟩)
       · have Qa:D 10=false:=nyt hcl hDi;have h0:=GG.o.2.2.2.2.2.2.1 (hds 6 (by simp)) Qa;have h1:=GG.o.2.2.2.2.2.2.2.1 (hds 7 (by simp)) Qa;obtain rfl:=GG.o.2.2.1 (hds 2 (by simp));clear hds;have HC:=Ja (Jem _ _ (cf S n) c V h0 h1 Ug.o Uj.o);clear h0 h1;refine Jb rfl rfl fun K hK=>?_;go_simp;go_wp2_with(go_at_call 40;refine HC.o.mono ?_;rintro e w5 ⟨v5,rfl,hv5,hb5⟩)
         obtain⟨G0,G1,_,G3,G4,G5,G6,G7,_,G9⟩:=GG.o;exact E8 ⟨_,_,rfl,Ja ⟨G0,G1,fun _=>rfl,G3,G4,G5,fun h h2=>(G6 h h2).below hb5,fun h h2=>(G7 h h2).below hb5,fun _ _=>hv5,G9⟩,Ja ⟨fun h=>(SS0.o.1 h).below hb5,fun h=>(SS0.o.2 h).below hb5⟩⟩
       · obtain rfl:=GG.o.1 (hds 0 (by simp));obtain rfl:=GG.o.2.1 (hds 1 (by simp));clear hds;refine Jb rfl rfl fun K hK=>?_;go_simp;obtain⟨_,_,G2,G3,G4,G5,G6,G7,G8,_⟩:=GG.o;exact hK _ _ (E8 ⟨_,_,rfl,Ja ⟨fun _=>rfl,fun _=>rfl,G2,G3,G4,G5,G6,G7,G8,fun _=>rfl⟩,SS0⟩)
       · have Qb:=SS0.o.1 hDi;have h0:=GG.o.2.2.2.2.2.2.2.2.1 (hds 8 (by simp)) hDi;obtain rfl:=GG.o.2.2.2.2.2.2.2.2.2 (hds 9 (by simp));have hE:=Qb.1.2.2.1;obtain⟨xa,xb,xc,xd,e0,e1,e2,e3,_⟩:=hE.at Qn.o;have f0:=hE.frozen (n*4);have f1:=hE.frozen (n*4+1);have f2:=hE.frozen (n*4+2);have f3:=hE.frozen (n*4+3);obtain⟨s9,a9,l9,c9,t9,b9,k9,d9,rfl⟩:=Ji.form h0;clear hds;refine Jb rfl rfl fun K hK=>?_;go_simp;obtain⟨G0,G1,G2,G3,G4,G5,_,_,_,_⟩:=GG.o;exact hK _ _ (E8 ⟨_,_,rfl,Ja ⟨G0,G1,G2,G3,G4,G5,fun _ h=>by simp at h,fun _ h=>by simp at h,fun _ h=>by simp at h,fun _=>rfl⟩,Ja ⟨fun h=>by simp at h,fun _=>Qb.1.put Qn.o h0⟩⟩)
      case fin2=>
       rintro D act V hDD ⟨ta,tb,tc,td,te,tf,tg,ti,tj,tk,rfl,GG,SS0⟩;have Qs:=Ja (SS0.o.2 (hDD 10 (by decide)));clear GG SS0 hDD;rw[Uc.o]at Qs;go_wp2_with fail
       go_meet
       case rel=>exact Qs
    clear Qy;have Qh:=hcut;clear hcut;cases h43:JL (Jd s) J 43 with
    |true=>
     have Ub:J+1≤s.size:=by have:=JZ h43;rw[Jg]at this;omega
     have Qc:=Ja (show X3 (Jd s) f false (J+1) S'=Xx (Jd s)by have e:=Qq.o;rw[if_pos h43]at e;exact e);have Qf:=Ja (fun(V:World) (hh:RcB V R s (k5:Int))=>Y0 R s k5 43 V hh Qw hs true (by rw[HJ.o,h43]));rw[HJ.o]at Qf;clear h43;go_wp2_with(go_at_call 120;refine(Qf.o _ Qh.o.1).mono ?_;clear Qf;rintro e w7 ⟨rfl,hr7,hg7⟩;have Qd:=Ja (Qh.o.rc hr7 hg7);clear hr7 hg7)
     go_roundw
     case rel=>exact⟨false,J+1,f,m+1,S',rfl,Ub,Qd,Qk,Ja ⟨by have:=HT.o.1;have:=Ql.o;have:=Qm.o;omega,by have:=HT.o.2.1;have:=Ql.o;have:=Qm.o;omega,Qc.o⟩⟩
     case measure=>
      have e1:=Ja4 (I:=J+1) Qd.o.1;rw[e1,Ul.o];have:=Ql.o;have:=Qm.o;omega
    |false=>
     have Qf:=Ja (fun(V:World) (hh:RcB V R s (k5:Int))=>Y0 R s k5 43 V hh Qw hs false (by rw[HJ.o,h43]));rw[HJ.o]at Qf;cases h45:JL (Jd s) J 45 with
     |true=>
      have Ub:J+1≤s.size:=by have:=JZ h45;rw[Jg]at this;omega
      have Qc:=Ja (show X3 (Jd s) f true (J+1) S'=Xx (Jd s)by have e:=Qq.o;rw[if_neg (by rw[h43];decide),if_pos h45]at e;exact e);have Qg:=Ja (fun(V:World) (hh:RcB V R s (J:Int))=>Y0 R s J 45 V hh Qx hs true (by rw[Qo.o,h45]));rw[Qo.o]at Qg;clear h43 h45;go_wp2_with(first
       |(go_at_call 120;refine(Qf.o _ Qh.o.1).mono ?_;clear Qf;rintro e w7 ⟨rfl,hr7,hg7⟩;have Qd:=Ja (Qh.o.rc hr7 hg7);clear hr7 hg7)
       |(go_at_call 120;refine(Qg.o _ Qd.o.1).mono ?_;clear Qg;rintro e w8 ⟨rfl,hr8,hg8⟩;have Qi:=Ja (Qd.o.rc hr8 hg8);clear hr8 hg8))
      go_roundw
      case rel=>exact⟨true,J+1,f,m+1,S',rfl,Ub,Qi,Qk,Ja ⟨by have:=HT.o.1;have:=Ql.o;have:=Qm.o;omega,by have:=HT.o.2.1;have:=Ql.o;have:=Qm.o;omega,Qc.o⟩⟩
      case measure=>
       have e1:=Ja4 (I:=J+1) Qi.o.1;rw[e1,Ul.o];have:=Ql.o;have:=Qm.o;omega
     |false=>
      have Qg:=Ja (fun(V:World) (hh:RcB V R s (J:Int))=>Y0 R s J 45 V hh Qx hs false (by rw[Qo.o,h45]));rw[Qo.o]at Qg;have Qj:=Ja (fun(V:World) (hh:RcB V R s (J:Int))=>Jf5 R s J V hh Qx hs);rw[Qo.o]at Qj;by_cases hJe:J=s.size
      · have Qc:=Ja (show Xx (Jd s)=.ok S' J by have e:=Qq.o;rw[if_neg (by rw[h43];decide),if_neg (by rw[h45];decide),if_pos (by rw[Jg];exact hJe)]at e;exact e.symm);rw[show decide (J=s.size)=true from decide_eq_true hJe]at Qj;have Uk:=Ja (fun(V:World) (hE:Els true V b S')=>X4 (.slice (some ⟨b,0,none⟩) 9 9) S' V (by
         have Qv:=hE.row (n:=9) (cap:=9) (by rw[Qk.o.1];exact Aa _) (Aa _) (by omega) (by omega);rwa[Ab (by rw[Qk.o.1];exact Aa _)]at Qv) (Sqs.of fun i=>Sq.of (Qk.o.2 i) (by have:=HT.o.1;omega)))
        clear h43 h45 hJe;go_wp2_with(first
         |(go_at_call 120;refine(Qf.o _ Qh.o.1).mono ?_;clear Qf;rintro e w7 ⟨rfl,hr7,hg7⟩;have Qd:=Ja (Qh.o.rc hr7 hg7);clear hr7 hg7)
         |(go_at_call 120;refine(Qg.o _ Qd.o.1).mono ?_;clear Qg;rintro e w8 ⟨rfl,hr8,hg8⟩;have Qi:=Ja (Qd.o.rc hr8 hg8);clear hr8 hg8)
         |(go_at_call 122;refine(Qj.o _ Qi.o.1).mono ?_;clear Qj;rintro e w9 ⟨rfl,hr9,hg9⟩;have Qt:=Ja (Qi.o.rc hr9 hg9);clear hr9 hg9)
         |(go_at_call 65;refine(Uk.o _ Qt.o.2.2.1).mono ?_;clear Uk;rintro e w10 ⟨u10,rfl,hu10,_,hq10⟩;obtain⟨a7,l7,c7,rfl⟩:=hu10.form;have Qe:=Ja (Qt.o.below hq10);have x0:=Qe.o.2.1.cell;have x1:=Qe.o.2.1.frozen;have Ud:=Ja hu10.row;clear hu10 hq10))
        refine bodyPost_ret (v:=.agg #[.slice a7 l7 c7]) (by simp[results,Tryz.results90,go_sem,x0]) rfl ⟨J1 Qe.o.2.2.2.1 Qe.o.2.2.2.2.1 0 _,fun e q he=>?_,fun S'' k he=>?_⟩
        · rw[Qc.o]at he;cases he
        · rw[Qc.o]at he;cases he;exact⟨_,rfl,⟨_,rfl,Jh0 Qe.o.2.1 _ Ud.o⟩,m+1,by have:=HT.o.1;have:=Ql.o;omega,Qk.o⟩
      · have Qc:=Ja (show Xx (Jd s)=.bad 2 J by have e:=Qq.o;rw[if_neg (by rw[h43];decide),if_neg (by rw[h45];decide),if_neg (by rw[Jg];exact hJe)]at e;exact e.symm);rw[show decide (J=s.size)=false from decide_eq_false hJe]at Qj;clear h43 h45 hJe;go_wp2_with(first
         |(go_at_call 120;refine(Qf.o _ Qh.o.1).mono ?_;clear Qf;rintro e w7 ⟨rfl,hr7,hg7⟩;have Qd:=Ja (Qh.o.rc hr7 hg7);clear hr7 hg7)
         |(go_at_call 120;refine(Qg.o _ Qd.o.1).mono ?_;clear Qg;rintro e w8 ⟨rfl,hr8,hg8⟩;have Qi:=Ja (Qd.o.rc hr8 hg8);clear hr8 hg8)
         |(go_at_call 122;refine(Qj.o _ Qi.o.1).mono ?_;clear Qj;rintro e w9 ⟨rfl,hr9,hg9⟩;have Uw:=hr9.c1;have Qt:=Ja (Qi.o.rc hr9 hg9);clear hr9 hg9)
         |(go_at_call 123;refine(HF.o _ _ _).mono ?_;clear HF;rintro e w10 ⟨rfl,rfl⟩))
        refine⟨rfl,Qt.o.2.2.2.1,fun e q he=>?_,fun S'' k he=>?_⟩
        · rw[Qc.o]at he;cases he;rfl
        · rw[Qc.o]at he;cases he
@[irreducible] def Sq1(q:Rat):Prop:=SmQ 100000 q
theorem Sq1.of{k:Nat}{q:Rat}(h:SmQ k q)(hk:k≤100000):Sq1 q:=by unfold Sq1;exact h.mono hk
theorem Sq1.sm{q:Rat}(h:Sq1 q):SmQ 100000 q:=by unfold Sq1 at h;exact h
theorem Jul(va:Value)(x:Int)(w:World)(ha:Jo w va x):
 Calls Tryz.prog 57 #[va] w fun e w'=>∃u,e=.returned u∧Jo w' u (x.natAbs:Int)∧Below w.heap.size w w':=by
 obtain⟨a900,l900,c900,s900,rfl⟩:=Jo.form2 ha;have M0:=(((Mem.nil w).push (.big (x)) ha).push (.big 0) (Jva _));simp only[World.size_alloc]at M0;have M0:Mem w ((w.alloc (.cells #[.slice a900 l900 c900,.bool s900] 47)).alloc (.cells #[.slice none 0 0,.bool false] 47)) [some (w.heap.size,.big (x)),some (w.heap.size+1,.big (0))]:=M0;obtain⟨W0,hW0⟩:=ex ((w.alloc (.cells #[.slice a900 l900 c900,.bool s900] 47)).alloc (.cells #[.slice none 0 0,.bool false] 47));have Qb:=Ja hW0;rw[hW0]at M0;have M1:Hid (Mem w W0 [some (w.heap.size,.big (x)),some (w.heap.size+1,.big (0))]):=Ja M0;clear M0 hW0 ha;go_enter Tryz.func57,Tryz.ntmps57
 go_upto_region 1 with fail
 rw[Qb.o];clear Qb;obtain⟨a1,l1,c1,s1,n1,i1⟩:=M1.o.big (i:=0) rfl;have e1a:=n1.c0;have e1b:=n1.c1;obtain⟨a2,l2,c2,s2,n2,i2⟩:=M1.o.big (i:=1) rfl;have Qe:=n2.c0;have Qc:=n2.c1;have f2a:=n2.f0;have f2b:=n2.f1;have hI:Jo W0 (.agg #[.slice a1 l1 c1,.bool false]) (x.natAbs:Int):=by
  obtain⟨a,l,c,e,hr⟩:=i1;simp only[Value.agg.injEq,Fv,C6,Value.slice.injEq,Value.bool.injEq,and_true]at e;obtain⟨⟨e1,e2,e3⟩,_⟩:=e;exact⟨a,l,c,by rw[decide_eq_false (by omega),e1,e2,e3],by rw[Ch];exact hr⟩
 go_wp2_with fail
 have Qd:=M1.o.2.2;have Qa:=M1.o.ge 1 rfl;exact bodyPost_ret (v:=.agg #[.slice a1 l1 c1,.bool false]) (by simp[results,Tryz.results57,go_sem,Qe,Qc]) rfl ⟨_,rfl,hI.box n2 rfl rfl,(Qd.setCell (p:=⟨_,0,none⟩) Qa _).setCell (p:=⟨_,1,none⟩) Qa _⟩
set_option linter.unusedSimpArgs false
def Jrx(w V:World):Prop:=Below w.heap.size w V
theorem Jrx.below{w V V':World}(h:Jrx w V)(hb:Below V.heap.size V V'):Jrx w V':=Below.trans h (hb.mono (Below.size h))
theorem Jum{q:Rat}(h:Sq q):Sq (Y3 q):=by
 unfold Y3;split
 · exact h.neg
 · exact h
theorem Jry{ps:List Rat}{k:Nat}{T:List UInt8}(hlt:k<ps.length)(hc:cf ps k≠0)(hT:JV (ps.drop (k+1)) (k+1)=T):JV (ps.drop k) k=(T++XA (cf ps k) T.isEmpty)++YK (cf ps k) k++X5 k:=by
 rw[XK ps hlt,if_neg hc,hT];unfold Xu;simp only[Cg]
theorem Jmw{ps:List Rat}(h0:ps≠[])(h:Jh ps=ps):JV ps 0≠[]:=by
 have h1:=Yo h h0;have hl:0<ps.length:=AH.2 h0;have hk:∀j,j<ps.length→JV (ps.drop (ps.length-1-j)) (ps.length-1-j)≠[]:=by
  intro j;induction j with
  |zero=>
   intro _;rw[CP,XK ps (by omega),if_neg h1];intro h2;exact Jky _ _ _ (Fd.1 h2).2
  |succ j ih=>
   intro hj;rw[XK ps (by omega),show ps.length-1-(j+1)+1=ps.length-1-j from by omega];split
   · exact ih (by omega)
   · intro h2;exact Jky _ _ _ (Fd.1 h2).2
 have:=hk (ps.length-1) (by omega);rw[A0,Ax]at this;exact this
theorem Jrz{q:Rat}{sg:Int}(h:q.num.sign=sg)(h0:sg<0):q<0:=neg_num.2 (by rw[←h]at h0;exact Int.sign_eq_neg_one_iff_neg.1 (by have:=Int.sign_trichotomy q.num;omega))
theorem Jr0{q:Rat}{sg:Int}(h:q.num.sign=sg)(h0:¬sg<0):¬q<0:=fun h1=>h0 (by rw[←h,Int.sign_eq_neg_one_iff_neg.2 (neg_num.1 h1)];decide)
theorem Xa(va:Value)(ps:List Rat)(w:World)(ha:RowK false w va ps)(hps:Sqs ps)(hT:∀m,(JV (ps.drop m) m).length≤140737488355328)(htr:Jh ps=ps)(htab:Jg9 w):
 Calls Tryz.prog 14 #[va] w fun e w'=>e=.returned (.string ⟨(Xv ps).toArray⟩)∧Below w.heap.size w w':=by
 have Ui:Tryz.prog.follows .mixedOrders=true:=by kernel_rfl
 obtain⟨a,la,ca,rfl⟩:=ha.form;obtain⟨hla,hca,hcma,hlma,s,t,aa,bb,ll,cc,kk,dd,hc⟩:=ha.formsF;have HA:=Ja hc;have HP:=Ja hps;have Qs:=Ja hla;have Ua:=Ja hT;have Uj:=Ja htr;have Qy:=Ja htab;clear ha hps hla hca hcma hc hT htr htab;by_cases h0:la=0
 · have Uc:((la:Int)==0)=true:=by rw[h0];rfl
   have HE:=Ja (show(⟨(Xv ps).toArray⟩:ByteArray)=⟨#[48]⟩by rw[List.length_eq_zero_iff.1 (by have:=Qs.o;omega:ps.length=0)];rfl);clear h0;go_enter Tryz.func14,Tryz.ntmps14
   go_wp2;go_ret;exact⟨by rw[HE.o];rfl,Below.refl _ _⟩
 · have Uc:((la:Int)==0)=false:=by rw[beq_eq_false_iff_ne];omega
   go_enter Tryz.func14,Tryz.ntmps14
   go_wp2;go_loopw [3,4] (fun sv iv wr=>∃m:Nat,m≤la∧sv=.string ⟨(JV (ps.drop m) m).toArray⟩∧iv=.int .i64 ((m:Int)-1)∧Hid (Below w.heap.size w wr)) (fun _ i _=>(intOf i+1).toNat)
   case atStart=>exact⟨la,Aa _,by rw[AG (by have:=Qs.o;omega)];rfl,rfl,Ja (Below.refl _ _)⟩
   case round=>
    obtain⟨m,hm,rfl,rfl,HG⟩:=hrel;by_cases hm0:m=0
    · subst hm0;have HE:=Ja (show(⟨(Xv ps).toArray⟩:ByteArray)=⟨(JV (ps.drop 0) 0).toArray⟩by unfold Xv;rw[if_neg (Jmw (fun h=>h0 (by have:=Qs.o;rw[h]at this;simpa using this)) Uj.o),Ax]);obtain⟨SS,hSS⟩:∃S:ByteArray,⟨(JV (ps.drop 0) 0).toArray⟩=S:=⟨_,rfl⟩;rw[hSS]at HE ⊢;clear hSS;go_wp2;go_ret;exact⟨by rw[HE.o];rfl,HG.o⟩
    · obtain⟨k,rfl⟩:∃k,m=k+1:=⟨m-1,by omega⟩;have Qa:((k+1:Nat):Int)-1=(k:Int):=by omega
      rw[Qa];have Ue:k<la:=by omega
      have hlt2:(k:Int)<(la:Int):=by omega
      obtain⟨T,hTT⟩:=ex (JV (ps.drop (k+1)) (k+1):List UInt8);rw[hTT];obtain⟨ST,hST⟩:=ex ((⟨T.toArray⟩:ByteArray):ByteArray);rw[hST];obtain⟨hi,b,rfl,hb,c0,c1,c2,c3⟩:=HA.o k Ue;have Qv:=Ja (show ∀V,Below w.heap.size w V→(V.cell? ⟨b,k*4,none⟩=some (.slice (aa k) (ll k) (cc k))∧V.cell? ⟨b,k*4+1,none⟩=some (.bool (s k))∧V.cell? ⟨b,k*4+2,none⟩=some (.slice (bb k) (kk k) (dd k))∧V.cell? ⟨b,k*4+3,none⟩=some (.bool (t k)))∧Jq V (.agg #[.slice (aa k) (ll k) (cc k),.bool (s k),.slice (bb k) (kk k) (dd k),.bool (t k)]) (cf ps k)from fun V hB=>by
       exact⟨⟨(hB.cell (p:=⟨b,_,none⟩) hb).trans c0,(hB.cell (p:=⟨b,_,none⟩) hb).trans c1,(hB.cell (p:=⟨b,_,none⟩) hb).trans c2,(hB.cell (p:=⟨b,_,none⟩) hb).trans c3⟩,hi.below hB⟩)
      clear hi c0 c1 c2 c3 hb;obtain⟨⟨e0,e1,e2,e3⟩,hr⟩:=Qv.o wr HG.o;have Qk:=Ja (Jjq _ _ wr hr);obtain⟨sg,hsg⟩:=ex ((cf ps k).num.sign);rw[hsg]at Qk;have Ql:=Ja hsg;have Qu:=Ja hTT;have Qj:=Ja hST;clear hr hTT hST hsg Qa hm0;by_cases hz:sg=0
      · have Ug:(sg==0)=true:=by rw[hz];rfl
        have HX:=Ja (show ST=⟨(JV (ps.drop k) k).toArray⟩by rw[XK ps (by have:=Qs.o;omega),if_pos (Fe.1 (Int.sign_eq_zero_iff_zero.1 (Ql.o.trans hz))),Qu.o,Qj.o]);clear hz;go_wp2_with(first
         |(go_at_call 56;refine Qk.o.mono ?_;clear Qk;rintro e w1 ⟨rfl,hb1⟩;have Qn:=Ja (HG.o.trans (hb1.mono HG.o.size));clear hb1 e0 e1 e2 e3))
        go_roundw
        case rel=>exact⟨k,by omega,congrArg Value.string HX.o,by first|rfl|go_num,Ja Qn.o⟩
        case measure=>first|(simp[intOf];done)|(simp[intOf];omega)
      · have Ug:(sg==0)=false:=by rw[beq_eq_false_iff_ne];exact hz
        go_upto_region 8 with(first
         |(go_at_call 56;refine Qk.o.mono ?_;clear Qk;rintro e w1 ⟨rfl,hb1⟩;have Qn:=Ja (HG.o.trans (hb1.mono HG.o.size));clear hb1 e0 e1 e2 e3;obtain⟨⟨e0,e1,e2,e3⟩,hr⟩:=Qv.o w1 Qn.o;have Qw:=Ja (Jjq _ _ w1 hr);rw[Ql.o]at Qw;clear hr))
        go_upto_if 27 with(first
         |(go_at_call 56;refine Qw.o.mono ?_;clear Qw;rintro e w2 ⟨rfl,hb2⟩;have Uh:=Ja (Qn.o.trans (hb2.mono Qn.o.size));clear hb2 e0 e1 e2 e3))
        go_cut [3] (fun sv w'=>sv=.string (ST++⟨(XA (cf ps k) T.isEmpty).toArray⟩)∧w'=w2)
        case first=>
         have hzT:ST.size≤140737488355328:=by
          rw[←Qj.o,←Qu.o];show(JV (ps.drop (k+1)) (k+1)).toArray.size≤_;rw[An];exact Ua.o _
         by_cases hneg:sg<0
         · have Qm:=Ja (show ST++⟨#[45]⟩=ST++⟨(XA (cf ps k) T.isEmpty).toArray⟩by unfold XA;rw[if_pos (Jrz Ql.o hneg)]);go_wp2_with fail
           go_meet
           case rel=>exact⟨by rw[←Qm.o],rfl⟩
         · have Qt:=Jr0 Ql.o hneg;by_cases hTe:T=[]
           · have Qm:=Ja (show(⟨#[]⟩:ByteArray)=⟨#[]⟩++⟨(XA (cf ps k) T.isEmpty).toArray⟩by unfold XA;rw[if_neg Qt,hTe];rfl);have Ub:ST=⟨#[]⟩:=by rw[←Qj.o,hTe]
             clear Qt hTe;subst Ub;go_wp2_with fail
             go_meet
             case rel=>exact⟨by rw[←Qm.o],rfl⟩
           · have Qm:=Ja (show ST++⟨#[43]⟩=ST++⟨(XA (cf ps k) T.isEmpty).toArray⟩by unfold XA;rw[if_neg Qt,if_neg (by simpa using hTe)]);have Ub:ST.toList.isEmpty=false:=by
              rw[←Qj.o,Xi];simpa using hTe
             clear Qt hTe;go_wp2_with fail
             go_meet
             case rel=>exact⟨by rw[←Qm.o],rfl⟩
        case rest=>
         obtain⟨rfl,rfl⟩:=hcut;obtain⟨SG,hSG⟩:=ex (ST++⟨(XA (cf ps k) T.isEmpty).toArray⟩);rw[hSG];have Qo:=Ja hSG;clear hSG;obtain⟨SA,hSA⟩:∃S:ByteArray,⟨(JY (Y3 (cf ps k))).toArray⟩=S:=⟨_,rfl⟩;have Qc:=Ja hSA;have Uk:=Ja (Jum (HP.o.at k));clear hSA;go_wp2_with fail
         have Uf:Jrx w (wc.drew):=Uh.o.drew;refine Jr Ui [[],[],[0,1],[2],[3],[4],[],[],[6,7],[8],[9],[5,10],[11,5],[12,12,0,1,2,3,4,5,6,7,8,9,10,11,12]] (by kernel_rfl) (by decide)
          (fun D act V=>∃(ta tb tc td te tf tg ti tj tk tl tm tn tp:Value),act={ tmps:=#[.slice (some ⟨b,0,none⟩) la ca,undef,.string { data:=#[] },.string SG,.int .i64 ↑k,tp,.slice (some ⟨b,0,none⟩) la ca,.int .i64 ↑la,.bool false,.slice (some ⟨b,0,none⟩) la ca,.int .i64 ↑la,.int .i64 (↑la-1),u12,u13,u14,u15,u16,u17,u18,u19,u20,u21,u22,u23,u24,u25,u26,u27,u28,u29,u30,u31,u32,u33,ta,tb,tc,td,te,tf,tg,ti,tj,tk,tl,tm,tn,u47,u48,u49,u50,u51,u52,u53,u54,u55,u56,u57,u58,u59,u60,u61,u62,u63,u64,u65,u66,undef],defers:=[] }∧Hid ((D 0=true→ta=.slice (some ⟨b,0,none⟩) la ca)∧(D 1=true→tb=.int .i64 (k:Int))∧(D 2=true→tc=.pointer (some ⟨b,k*4,none⟩))∧(D 3=true→td=.pointer (some ⟨b,k*4,none⟩))∧(D 4=true→Jo V te (cf ps k).num)∧(D 5=true→Jo V tf ((cf ps k).num.natAbs:Int))∧(D 6=true→tg=.slice (some ⟨b,0,none⟩) la ca)∧(D 7=true→ti=.int .i64 (k:Int))∧(D 8=true→tj=.pointer (some ⟨b,k*4,none⟩))∧(D 9=true→tk=.pointer (some ⟨b,k*4+2,none⟩))∧(D 10=true→Jo V tl ((cf ps k).den:Int))∧(D 11=true→Jq V tm (Y3 (cf ps k)))∧(D 12=true→tn=.string SA)∧(D 13=true→tp=.string SA))∧Hid (Jrx w V))
          (E8 ⟨_,_,_,_,_,_,rfl,Ja ⟨by simp,by simp,by simp,by simp,by simp,by simp,by simp,by simp,by simp,by simp,by simp,by simp,by simp,by simp⟩,Ja Uf⟩) ?step1 ?fin1
         case step1=>
          rintro D act V i ds hcl hi hds hDi ⟨ta,tb,tc,td,te,tf,tg,ti,tj,tk,tl,tm,tn,tp,rfl,GG,SS0⟩;have hi6:i<14:=(Ad.1 hi).1;obtain rfl|rfl|rfl|rfl|rfl|rfl|rfl|rfl|rfl|rfl|rfl|rfl|rfl|rfl:=Lt14 i (by omega)
          all_goals
           simp only[Aj,Ah,Ak]at hi;subst hi
          · have Qb:=SS0.o;clear hds;refine Jb rfl rfl fun K hK=>?_;go_simp;obtain⟨_,G1⟩:=GG.o;exact hK _ _ (E8 ⟨_,_,_,_,_,_,rfl,Ja ⟨fun _=>rfl,G1⟩,Ja (SS0.o)⟩)
          · have Qb:=SS0.o;clear hds;refine Jb rfl rfl fun K hK=>?_;go_simp;obtain⟨G0,_,G2⟩:=GG.o;exact hK _ _ (E8 ⟨_,_,_,_,_,_,rfl,Ja ⟨G0,fun _=>rfl,G2⟩,Ja (SS0.o)⟩)
          · have Qb:=SS0.o;obtain rfl:=GG.o.1 (hds 0 (by simp));obtain rfl:=GG.o.2.1 (hds 1 (by simp));clear hds;refine Jb rfl rfl fun K hK=>?_;go_simp;obtain⟨_,_,_,G3⟩:=GG.o;exact hK _ _ (E8 ⟨_,_,_,_,_,_,rfl,Ja ⟨fun _=>rfl,fun _=>rfl,fun _=>rfl,G3⟩,Ja (SS0.o)⟩)
          · have Qb:=SS0.o;obtain rfl:=GG.o.2.2.1 (hds 2 (by simp));clear hds;refine Jb rfl rfl fun K hK=>?_;go_simp;obtain⟨G0,G1,_,_,G4⟩:=GG.o;exact hK _ _ (E8 ⟨_,_,_,_,_,_,rfl,Ja ⟨G0,G1,fun _=>rfl,fun _=>rfl,G4⟩,Ja (SS0.o)⟩)
          · have Qb:=SS0.o;obtain rfl:=GG.o.2.2.2.1 (hds 3 (by simp));obtain⟨⟨e0,e1,e2,e3⟩,hr⟩:=Qv.o V Qb;obtain⟨_,_,_,_,_,_,_,_,ev,hn,hd⟩:=hr;cases ev;clear hds;refine Jb rfl rfl fun K hK=>?_;go_simp;obtain⟨G0,G1,G2,_,_,G5⟩:=GG.o;exact hK _ _ (E8 ⟨_,_,_,_,_,_,rfl,Ja ⟨G0,G1,G2,fun _=>rfl,fun _=>hn,G5⟩,Ja (SS0.o)⟩)
          · have Qb:=SS0.o;have h0:=GG.o.2.2.2.2.1 (hds 4 (by simp));clear hds;have HC:=Ja (Jul _ _ V h0);clear h0;refine Jb rfl rfl fun K hK=>?_;go_simp;go_wp2_with(go_at_call 57;refine HC.o.mono ?_;rintro e w5 ⟨v5,rfl,hv5,hb5⟩)
            obtain⟨G0,G1,G2,G3,G4,_,G6,G7,G8,G9,G10,G11,G12⟩:=GG.o;exact E8 ⟨_,_,_,_,_,_,rfl,Ja ⟨G0,G1,G2,G3,fun h=>(G4 h).below hb5,fun _=>hv5,G6,G7,G8,G9,fun h=>(G10 h).below hb5,fun h=>(G11 h).below hb5,G12⟩,Ja (SS0.o.below hb5)⟩
          · have Qb:=SS0.o;clear hds;refine Jb rfl rfl fun K hK=>?_;go_simp;obtain⟨G0,G1,G2,G3,G4,G5,_,G7⟩:=GG.o;exact hK _ _ (E8 ⟨_,_,_,_,_,_,rfl,Ja ⟨G0,G1,G2,G3,G4,G5,fun _=>rfl,G7⟩,Ja (SS0.o)⟩)
          · have Qb:=SS0.o;clear hds;refine Jb rfl rfl fun K hK=>?_;go_simp;obtain⟨G0,G1,G2,G3,G4,G5,G6,_,G8⟩:=GG.o;exact hK _ _ (E8 ⟨_,_,_,_,_,_,rfl,Ja ⟨G0,G1,G2,G3,G4,G5,G6,fun _=>rfl,G8⟩,Ja (SS0.o)⟩)
          · have Qb:=SS0.o;obtain rfl:=GG.o.2.2.2.2.2.2.1 (hds 6 (by simp));obtain rfl:=GG.o.2.2.2.2.2.2.2.1 (hds 7 (by simp));clear hds;refine Jb rfl rfl fun K hK=>?_;go_simp;obtain⟨G0,G1,G2,G3,G4,G5,_,_,_,G9⟩:=GG.o;exact hK _ _ (E8 ⟨_,_,_,_,_,_,rfl,Ja ⟨G0,G1,G2,G3,G4,G5,fun _=>rfl,fun _=>rfl,fun _=>rfl,G9⟩,Ja (SS0.o)⟩)
          · have Qb:=SS0.o;obtain rfl:=GG.o.2.2.2.2.2.2.2.2.1 (hds 8 (by simp));clear hds;refine Jb rfl rfl fun K hK=>?_;go_simp;obtain⟨G0,G1,G2,G3,G4,G5,G6,G7,_,_,G10⟩:=GG.o;exact hK _ _ (E8 ⟨_,_,_,_,_,_,rfl,Ja ⟨G0,G1,G2,G3,G4,G5,G6,G7,fun _=>rfl,fun _=>rfl,G10⟩,Ja (SS0.o)⟩)
          · have Qb:=SS0.o;obtain rfl:=GG.o.2.2.2.2.2.2.2.2.2.1 (hds 9 (by simp));obtain⟨⟨e0,e1,e2,e3⟩,hr⟩:=Qv.o V Qb;obtain⟨_,_,_,_,_,_,_,_,ev,hn,hd⟩:=hr;cases ev;clear hds;refine Jb rfl rfl fun K hK=>?_;go_simp;obtain⟨G0,G1,G2,G3,G4,G5,G6,G7,G8,_,_,G11⟩:=GG.o;exact hK _ _ (E8 ⟨_,_,_,_,_,_,rfl,Ja ⟨G0,G1,G2,G3,G4,G5,G6,G7,G8,fun _=>rfl,fun _=>hd,G11⟩,Ja (SS0.o)⟩)
          · have Qb:=SS0.o;have h0:=GG.o.2.2.2.2.2.1 (hds 5 (by simp));have h1:=GG.o.2.2.2.2.2.2.2.2.2.2.1 (hds 10 (by simp));obtain⟨a91,l91,c91,s91,rfl⟩:=Jo.form2 h0;obtain⟨a92,l92,c92,s92,rfl⟩:=Jo.form2 h1;clear hds;refine Jb rfl rfl fun K hK=>?_;go_simp;obtain⟨G0,G1,G2,G3,G4,G5,G6,G7,G8,G9,G10,_,G12⟩:=GG.o;exact hK _ _ (E8 ⟨_,_,_,_,_,_,rfl,Ja ⟨G0,G1,G2,G3,G4,G5,G6,G7,G8,G9,G10,fun _=>⟨_,_,_,_,_,_,_,_,rfl,by rw[(Jcp _).1];exact h0,by rw[(Jcp _).2];exact h1⟩,G12⟩,Ja (SS0.o)⟩)
          · have Qb:=SS0.o;have h0:=GG.o.2.2.2.2.2.2.2.2.2.2.2.1 (hds 11 (by simp));clear hds;have HC:=Ja (Jtc _ (Y3 (cf ps k)) V h0 Uk.o);rw[Qc.o]at HC;clear h0;refine Jb rfl rfl fun K hK=>?_;go_simp;go_wp2_with(go_at_call 17;refine HC.o.mono ?_;rintro e w5 ⟨rfl,hb5⟩)
            obtain⟨G0,G1,G2,G3,G4,G5,G6,G7,G8,G9,G10,G11,_,G13⟩:=GG.o;exact E8 ⟨_,_,_,_,_,_,rfl,Ja ⟨G0,G1,G2,G3,fun h=>(G4 h).below hb5,fun h=>(G5 h).below hb5,G6,G7,G8,G9,fun h=>(G10 h).below hb5,fun h=>(G11 h).below hb5,fun _=>rfl,G13⟩,Ja (SS0.o.below hb5)⟩
          · have Qb:=SS0.o;obtain rfl:=GG.o.2.2.2.2.2.2.2.2.2.2.2.2.1 (hds 12 (by simp));clear hds;refine Jb rfl rfl fun K hK=>?_;go_simp;obtain⟨G0,G1,G2,G3,G4,G5,G6,G7,G8,G9,G10,G11,_,_⟩:=GG.o;exact hK _ _ (E8 ⟨_,_,_,_,_,_,rfl,Ja ⟨G0,G1,G2,G3,G4,G5,G6,G7,G8,G9,G10,G11,fun _=>rfl,fun _=>rfl⟩,Ja (SS0.o)⟩)
         case fin1=>
          rintro D act V hDD ⟨ta,tb,tc,td,te,tf,tg,ti,tj,tk,tl,tm,tn,tp,rfl,GG,SS0⟩;have Qf:=Ja (show Below w.heap.size w V from SS0.o);obtain rfl:=GG.o.2.2.2.2.2.2.2.2.2.2.2.2.1 (hDD 12 (by decide));obtain rfl:=GG.o.2.2.2.2.2.2.2.2.2.2.2.2.2 (hDD 13 (by decide));clear GG SS0 hDD;have Qz:cf ps k≠0:=fun h=>by have:=Ql.o;rw[h]at this;exact hz this.symm
          have Qg:=Ja (Jry (by have:=Qs.o;omega) Qz Qu.o);obtain⟨LG,hLG⟩:=ex (T++XA (cf ps k) T.isEmpty);rw[hLG]at Qg;have Qi:=Ja (show(⟨LG.toArray⟩:ByteArray)=SG by rw[←Qo.o,←Qj.o,←hLG,XY]);clear hLG Qz;have hzG:SG.size≤140737488355329:=by
           rw[←Qo.o,←Qj.o,←Qu.o,XY];show((JV (ps.drop (k+1)) (k+1))++_).toArray.size≤_;rw[An,Ai];have h1:=Ua.o (k+1);have h2:(XA (cf ps k) (JV (ps.drop (k+1)) (k+1)).isEmpty).length≤1:=by
            unfold XA;split
            · simp
            · split<;>simp
           omega
          have hzA:SA.size≤2000000000:=by
           rw[←Qc.o];show(JY (Y3 (cf ps k))).toArray.size≤_;rw[An];obtain⟨e1,e2⟩:=Jcp (cf ps k);have hs:=HP.o.at k;unfold JY;have h1:=Jai (Y3 (cf ps k)).num;have h2:=Jai ((Y3 (cf ps k)).den:Int);have h3:=hs.num.words;have h4:=hs.den.words;rw[e1,Ch]at h1;rw[e2]at h2;rw[e1,e2];split
           · omega
           · rw[Ai,Al];omega
          by_cases h49:JY (Y3 (cf ps k))=[49]
          · by_cases hk0:k=0
            · have Qa:¬k=1:=by omega
              have HX:=Ja (show(⟨LG.toArray⟩:ByteArray)++⟨[49].toArray⟩=⟨(JV (ps.drop k) k).toArray⟩by
               rw[Qg.o,show YK (cf ps k) k=JY (Y3 (cf ps k))from by unfold YK;rw[if_neg (by intro h;omega)],show X5 k=[]from by unfold X5;rw[if_pos hk0],h49];simp only[XY,Cg,Cj,Ap,Az])
              rw[Qi.o]at HX;have Qr:((k:Int)==0)=true:=by rw[hk0];rfl
              have Qp:¬(0:Int)<(k:Int):=by omega
              have Qe:¬(1:Int)<(k:Int):=by omega
              have Qd:SA=⟨#[49]⟩:=by rw[←Qc.o,h49]
              clear h49 Qa hk0;subst Qd;go_wp2_with fail
              go_roundw
              case rel=>exact⟨k,by omega,congrArg Value.string HX.o,by first|rfl|go_num,Ja Qf.o⟩
              case measure=>first|(simp[intOf];done)|(simp[intOf];omega)
            · by_cases Qa:k=1
              · skip
                have HX:=Ja (show(⟨LG.toArray⟩:ByteArray)++⟨[120].toArray⟩=⟨(JV (ps.drop k) k).toArray⟩by
                 rw[Qg.o,show YK (cf ps k) k=[]from by unfold YK;rw[if_pos ⟨h49,by omega⟩],show X5 k=[120]from by unfold X5;rw[if_neg hk0,if_pos Qa]];simp only[XY,Cg,Cj,Ap,Az])
                rw[Qi.o]at HX;have Qr:((k:Int)==0)=false:=by rw[beq_eq_false_iff_ne];omega
                have Qp:(0:Int)<(k:Int):=by omega
                have Qe:¬(1:Int)<(k:Int):=by omega
                have Qd:SA=⟨#[49]⟩:=by rw[←Qc.o,h49]
                clear h49 hk0 Qa;subst Qd;go_wp2_with fail
                go_roundw
                case rel=>exact⟨k,by omega,congrArg Value.string HX.o,by first|rfl|go_num,Ja Qf.o⟩
                case measure=>first|(simp[intOf];done)|(simp[intOf];omega)
              · skip
                have HX:=Ja (show(⟨LG.toArray⟩:ByteArray)++⟨[120].toArray⟩++⟨[94].toArray⟩++⟨(YY k).toArray⟩=⟨(JV (ps.drop k) k).toArray⟩by
                 rw[Qg.o,show YK (cf ps k) k=[]from by unfold YK;rw[if_pos ⟨h49,by omega⟩],show X5 k=120::94::YY k from by unfold X5;rw[if_neg hk0,if_neg Qa]];simp only[XY,Cg,Cj,Ap,Az])
                rw[Qi.o]at HX;have Qh:=Ja (Jmo k (by omega) V (Jy Qy.o Qf.o));obtain⟨SD,hSD⟩:∃S:ByteArray,⟨(YY k).toArray⟩=S:=⟨_,rfl⟩;rw[hSD]at Qh HX;have Ud:SD.size≤2000:=by
                 rw[←hSD];show(YY k).toArray.size≤_;rw[An];have h3:(Jc B64 k).length≤1:=JG Je (by unfold B64;omega);have:=Jah k;omega
                clear hSD;have Qr:((k:Int)==0)=false:=by rw[beq_eq_false_iff_ne];omega
                have Qp:(0:Int)<(k:Int):=by omega
                have Qe:(1:Int)<(k:Int):=by omega
                have Qd:SA=⟨#[49]⟩:=by rw[←Qc.o,h49]
                clear h49 hk0 Qa;subst Qd;go_wp2_with(go_at_call 58;refine Qh.o.mono ?_;clear Qh;rintro e w9 ⟨rfl,hb9⟩;have Qx:=Ja (Qf.o.trans (hb9.mono Qf.o.size));clear hb9)
                go_roundw
                case rel=>exact⟨k,by omega,congrArg Value.string HX.o,by first|rfl|go_num,Ja Qx.o⟩
                case measure=>first|(simp[intOf];done)|(simp[intOf];omega)
          · by_cases hk0:k=0
            · have Qa:¬k=1:=by omega
              have HX:=Ja (show(⟨LG.toArray⟩:ByteArray)++⟨(JY (Y3 (cf ps k))).toArray⟩=⟨(JV (ps.drop k) k).toArray⟩by
               rw[Qg.o,show YK (cf ps k) k=JY (Y3 (cf ps k))from by unfold YK;rw[if_neg (by intro h;omega)],show X5 k=[]from by unfold X5;rw[if_pos hk0]];simp only[XY,Cg,Cj,Ap,Az])
              rw[Qi.o,Qc.o]at HX;have Qr:((k:Int)==0)=true:=by rw[hk0];rfl
              have Qp:¬(0:Int)<(k:Int):=by omega
              have Qe:¬(1:Int)<(k:Int):=by omega
              have Qq:¬SA.toList=[49]:=by
               rw[Xi,←Qc.o];simpa using h49
              clear h49 Qa hk0;go_wp2_with fail
              go_roundw
              case rel=>exact⟨k,by omega,congrArg Value.string HX.o,by first|rfl|go_num,Ja Qf.o⟩
              case measure=>first|(simp[intOf];done)|(simp[intOf];omega)
            · by_cases Qa:k=1
              · skip
                have HX:=Ja (show(⟨LG.toArray⟩:ByteArray)++⟨(JY (Y3 (cf ps k))).toArray⟩++⟨[120].toArray⟩=⟨(JV (ps.drop k) k).toArray⟩by
                 rw[Qg.o,show YK (cf ps k) k=JY (Y3 (cf ps k))from by unfold YK;rw[if_neg (fun h=>h49 h.1)],show X5 k=[120]from by unfold X5;rw[if_neg hk0,if_pos Qa]];simp only[XY,Cg,Cj,Ap,Az])
                rw[Qi.o,Qc.o]at HX;have Qr:((k:Int)==0)=false:=by rw[beq_eq_false_iff_ne];omega
                have Qp:(0:Int)<(k:Int):=by omega
                have Qe:¬(1:Int)<(k:Int):=by omega
                have Qq:¬SA.toList=[49]:=by
                 rw[Xi,←Qc.o];simpa using h49
                clear h49 hk0 Qa;go_wp2_with fail
                go_roundw
                case rel=>exact⟨k,by omega,congrArg Value.string HX.o,by first|rfl|go_num,Ja Qf.o⟩
                case measure=>first|(simp[intOf];done)|(simp[intOf];omega)
              · skip
                have HX:=Ja (show(⟨LG.toArray⟩:ByteArray)++⟨(JY (Y3 (cf ps k))).toArray⟩++⟨[120].toArray⟩++⟨[94].toArray⟩++⟨(YY k).toArray⟩=⟨(JV (ps.drop k) k).toArray⟩by
                 rw[Qg.o,show YK (cf ps k) k=JY (Y3 (cf ps k))from by unfold YK;rw[if_neg (fun h=>h49 h.1)],show X5 k=120::94::YY k from by unfold X5;rw[if_neg hk0,if_neg Qa]];simp only[XY,Cg,Cj,Ap,Az])
                rw[Qi.o,Qc.o]at HX;have Qh:=Ja (Jmo k (by omega) V (Jy Qy.o Qf.o));obtain⟨SD,hSD⟩:∃S:ByteArray,⟨(YY k).toArray⟩=S:=⟨_,rfl⟩;rw[hSD]at Qh HX;have Ud:SD.size≤2000:=by
                 rw[←hSD];show(YY k).toArray.size≤_;rw[An];have h3:(Jc B64 k).length≤1:=JG Je (by unfold B64;omega);have:=Jah k;omega
                clear hSD;have Qr:((k:Int)==0)=false:=by rw[beq_eq_false_iff_ne];omega
                have Qp:(0:Int)<(k:Int):=by omega
                have Qe:(1:Int)<(k:Int):=by omega
                have Qq:¬SA.toList=[49]:=by
                 rw[Xi,←Qc.o];simpa using h49
                clear h49 hk0 Qa;go_wp2_with(go_at_call 58;refine Qh.o.mono ?_;clear Qh;rintro e w9 ⟨rfl,hb9⟩;have Qx:=Ja (Qf.o.trans (hb9.mono Qf.o.size));clear hb9)
                go_roundw
                case rel=>exact⟨k,by omega,congrArg Value.string HX.o,by first|rfl|go_num,Ja Qx.o⟩
                case measure=>first|(simp[intOf];done)|(simp[intOf];omega)
