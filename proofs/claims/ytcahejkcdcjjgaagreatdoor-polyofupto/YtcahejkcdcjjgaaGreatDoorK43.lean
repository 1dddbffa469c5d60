import Derived.Test.YtcahejkcdcjjgaaGreatDoorK42
set_option maxRecDepth 100000
set_option maxHeartbeats 16000000
namespace Go.Proofs.YtcahejkcdcjjgaaGreatDoor
open Go.RowKit Go.Shelf
attribute [local go_sem] Oper.semAt_some
theorem Jje (a:Option Addr) (n cap:Nat) (S:Nat→ByteArray) (w:World) (hc:∀ j,j<n→∃ b off,a=some ⟨b,off,none⟩∧b<w.heap.size∧w.cell? ⟨b,off+j,none⟩=some (.string (S j))) (hn:n≤1048576) (hs:∀ j,j<n→(S j).size≤140737488351232) (htab:Je9 w) :
 Calls Tryz.prog 4 #[.slice a n cap] w fun r w'=>r=.returned (.bool true)∧Below w.heap.size w w':=by
 have hmx:Tryz.prog.follows .mixedOrders=true:=by kernel_rfl
 have HT:=Ja htab;have HC:=Ja hc;have HG:=Ja (fun (j:Nat) (V:World)=>Jrd (S j) V);have HRD:=Ja (fun (j:Nat) (hj:j<n) (V:World)=>Jsc (S j) (hs j hj) V);have hsm:∀ j,SmQ 2000 (Jaa (Je (S j))):=fun j=>Jq4 _;obtain ⟨f,hf⟩:∃ f:Nat→Rat,∀ j,Jaa (Je (S j))=f j:=⟨fun j=>Jaa (Je (S j)),fun _=>rfl⟩;simp only [hf] at HG HRD hsm;obtain ⟨fs,hfs⟩:∃ fs,Jc0 f n=fs:=⟨_,rfl⟩;have hcf:∀ j,SmQ 2000 (cf fs j):=fun j=>by
  rw [←hfs,Jo4];split
  · exact hsm j
  · exact SmQ.zero _ (by omega)
 have hfl:fs.length=n:=by rw [←hfs,Y8]
 have hQ:Sqs fs:=Sqs.of fun i=>Sq.of (hcf i) (by omega);have hQT:Sqs (JG fs):=Sqs.of fun i=>by rw [Jdv];exact Sq.of (hcf i) (by omega)
 have HQ:=Ja hQ;have HQT:=Ja hQT;have HFS:=Ja hfs;have HFL:=Ja hfl;have HTL:=Ja (fun m=>Ji9 hQT (Nat.le_trans (XC fs) (by omega)) m);have HTR:=Ja (Jln fs);obtain ⟨TX,hTX⟩:∃ S:ByteArray,⟨(Jav (JG fs)).toArray⟩=S:=⟨_,rfl⟩;have XTX:=Ja hTX;have HTN:=Ja (XC fs);clear htab hc hs hsm hf hfs hcf hfl hQ hQT hTX;go_enter Tryz.func4,Tryz.ntmps4
 go_wp2;go_loopw [3,4,5] (fun o m i wr=>∃ k:Nat,k≤n∧i=.int .i64 (k:Int)∧(∃ oa oc,o=.slice oa k oc)∧(∃ ma mc,m=.slice ma k mc)∧Hid (YI true w.heap.size wr o (Jc0 f k)∧YI false w.heap.size wr m (Jc0 f k)∧Below w.heap.size w wr)) (fun _ _ i _=>n - (intOf i).toNat)
 case atStart=>exact ⟨0,Nat.zero_le _,rfl,⟨_,_,rfl⟩,⟨_,_,rfl⟩,Ja ⟨YI.nil _ _ _,YI.nil _ _ _,Below.refl _ _⟩⟩
 case round=>
  obtain ⟨k,hk,rfl,⟨oa,oc,rfl⟩,⟨ma,mc,rfl⟩,HR⟩:=hrel;by_cases hlt:k<n
  · have hlt2:(k:Int)<(n:Int):=by omega
    have HKL:=Ja (show k+1≤1099511627776 by omega);obtain ⟨b,off,rfl,hbW,hcell⟩:=HC.out k hlt;have HCV:=Ja (fun (V:World) (h:Below w.heap.size w V)=>(h.cell (p:=⟨b,off+k,none⟩) hbW).trans hcell);have hc0:=HCV.out wr HR.out.2.2;clear hbW hcell;go_wp2_with (first
     | (go_at_call 20;refine (HG.out k _).mono ?_;clear HG;rintro e w1 ⟨u1,rfl,hu1,hb1⟩;obtain ⟨s91,a91,l91,c91,t91,b91,k91,d91,rfl⟩:=Ji.form hu1;obtain ⟨v9,w9,hap,ho9,hm9,hb9⟩:=Jkp w.heap.size w1 _ _ _ (HR.out.1.below hb1) (HR.out.2.1.below hb1) hu1 (by rw [Y8];exact HKL.out) (Nat.le_trans HR.out.2.2.size hb1.size);have HO9:=Ja ho9;have HM9:=Ja hm9;have HB9:=Ja (hb9 w.heap.size w (Nat.le_refl _) (HR.out.2.2.trans (hb1.mono HR.out.2.2.size)));clear ho9 hm9 hb9 hu1 hb1 hc0;have hc0:=HCV.out w9 HB9.out)
     | (go_at_call 21;refine (HRD.out k hlt _).mono ?_;clear HRD;rintro e w2 ⟨u2,rfl,hu2,hb2⟩;obtain ⟨a92,l92,c92,s92,b92,k92,d92,t92,rfl⟩:=JB.form hu2;obtain ⟨v8,w8,hap2,hm8,ho8,hb8⟩:=Jjd w.heap.size w2 _ _ _ _ (HO9.out.below hb2) (HM9.out.below hb2) hu2 (by rw [Y8];exact HKL.out) (Nat.le_trans HB9.out.size hb2.size);have HO8:=Ja ho8;have HM8:=Ja hm8;have HB8:=Ja (hb8 w.heap.size w (Nat.le_refl _) (HB9.out.trans (hb2.mono HB9.out.size)));clear ho8 hm8 hb8 hu2 hb2 hc0 HO9 HM9 HB9)
     | (at_builtin;refine Lib.wpList_append_run _ rfl _ _ 22 22 rfl _ _ rfl rfl _ _ hap ?_;clear hap)
     | (at_builtin;refine Lib.wpList_append_run _ rfl _ _ 30 30 rfl _ _ rfl rfl _ _ hap2 ?_;clear hap2))
    obtain ⟨a9,c9,e9,_⟩:=HO8.out.form;obtain ⟨a8,c8,e8,_⟩:=HM8.out.form;go_roundw
    case rel=>
     refine ⟨k+1,by omega,by go_num,⟨a9,c9,?_⟩,⟨a8,c8,?_⟩,Ja ⟨?_,?_,HB8.out⟩⟩
     · rw [←Jap,Y8] at e9;exact e9
     · rw [←Jap,Y8] at e8;exact e8
     · rw [Jap];exact HO8.out
     · rw [Jap];exact HM8.out
    case measure=>simp [intOf];omega
  · obtain rfl:n=k:=by omega
    rw [HFS.out] at HR;clear HC HG HRD hlt;have HO:=Ja (Jsw (.slice oa n oc) fs wr (HR.out.1.row (by have:=HFL.out;omega)) HQ.out);go_upto_region 9 with (go_at_call 22;refine HO.out.mono ?_;clear HO;rintro e w5 ⟨u,rfl,hu,hfr,hb⟩;obtain ⟨ap,lp,cp,rfl⟩:=hu.form)
    have hA:Below w5.heap.size w5 (w5.alloc (.cells #[.slice ap lp cp] 25)):=(Below.refl _ w5).alloc (Nat.le_refl _) _;have nP:=Boxed.new w5 25 (.slice ap lp cp);have rP:=hu.row.below hA;have hBl:w.heap.size≤w5.heap.size:=Nat.le_trans HR.out.2.2.size hb.size;have hWr:Below wr.heap.size wr (w5.alloc (.cells #[.slice ap lp cp] 25)):=Below.then hb hA
    obtain ⟨VP,hV⟩:∃ V,w5.alloc (.cells #[.slice ap lp cp] 25)=V:=⟨_,rfl⟩;obtain ⟨BP,hB⟩:∃ B,w5.heap.size=B:=⟨_,rfl⟩;rw [hV] at rP hWr;rw [hV,hB] at nP;rw [hB] at hBl;rw [hV];rw [hB];have HM:=Ja (Jqz (.slice ma n mc) fs VP ((HR.out.2.1.row (by have:=HFL.out;omega)).below hWr));have HST:=Ja (fun (W:World) (qv:Value) (h:Below VP.heap.size VP W) (quo:RowK false W qv (JG fs))=>Jnd HR.out.1 HR.out.2.1 HFL.out HR.out.2.2 hfr (Below.then hWr h) hBl (nP.bel h) (rP.below h) quo);clear hA hV hB hu hfr hb nP rP hBl hWr HR;obtain ⟨lq,hlq⟩:∃ l,(JG fs).length=l:=⟨_,rfl⟩;have hlqn:lq≤1048576:=by have:=HTN.out;have:=HFL.out;omega
    have HLQ:=Ja hlq;clear hlq;go_wp2_with (go_at_call 23;refine HM.out.mono ?_;clear HM;rintro e w6 ⟨u,rfl,hu,hb⟩;obtain ⟨qa,qc,ee,-⟩:=id hu;rw [HLQ.out] at ee;subst ee)
    have HS0:=Ja (HST.out _ _ hb hu);clear HST hu hb;go_loopw [8] (fun iv wr=>∃ k:Nat,k≤n∧iv=.int .i64 (k:Int)∧Hid (OfS w n fs oa ma BP ap lp cp (.slice qa lq qc) k wr)) (fun iv _=>n - (intOf iv).toNat)
    case atStart=>exact ⟨0,Nat.zero_le _,rfl,HS0⟩
    case round=>
     obtain ⟨k,hk2,rfl,HS⟩:=hrel;clear HS0;by_cases hlt:k<n
     · have hlt2:(k:Int)<(n:Int):=by omega
       obtain ⟨gI,rfl,-⟩:=HS.out.inn (by omega);obtain ⟨gM,rfl,-⟩:=HS.out.mro (by omega);have HKF:=Ja (show k<fs.length∧0<n by have:=HFL.out;omega);obtain ⟨q,hq⟩:∃ q,cf fs k=q:=⟨_,rfl⟩;have HE:=Ja (fun (V:World) (h:Abv wr V)=>(HS.out.below h).elem rfl hlt);have HF:=Ja (fun (V:World) (h:Abv wr V)=>(HS.out.below h).melem rfl HKF.out.1 HKF.out.2);have HSQ:=Ja (HQ.out.at k);rw [hq] at HE HF HSQ;obtain ⟨TV,hTV⟩:∃ S:ByteArray,⟨(JM q).toArray⟩=S:=⟨_,rfl⟩;have XTV:=Ja hTV;have HTB:=Ja (fun (V:World) (h:Abv wr V)=>JY HT.out (HS.out.below h).bel);clear hq hTV;go_wp2_with fail
       have ST0:Abv wr wr.drew:=Abv.drew wr;refine Jq hmx [[],[],[0,1],[2],[3],[],[],[5,6],[7],[8,4],[4,9]] (by kernel_rfl) (by decide)
        (fun D act V=>∃ (t43x t44x t45x t46x t47x t48x t49x t50x t51x t52x t53x:Value),act={ tmps:=#[Value.slice a n cap,undef,u2,Value.slice (some ⟨gI,0,none⟩) n oc,Value.slice (some ⟨gM,0,none⟩) n mc,Value.int IntKind.i64 ↑n,.pointer (some ⟨BP,0,none⟩),Value.slice qa lq qc,Value.int IntKind.i64 ↑k,undef,undef,Value.int IntKind.i64 ↑n,Value.slice a n cap,Value.int IntKind.i64 ↑n,Value.bool false,u15,u16,u17,u18,u19,u20,u21,u22,u23,u24,u25,u26,u27,u28,u29,u30,u31,u32,Value.slice (some ⟨gI,0,none⟩) n oc,Value.agg #[Value.slice ap lp cp],Value.slice (some ⟨gM,0,none⟩) n mc,Value.slice qa lq qc,Value.int IntKind.i64 ↑k,Value.slice (some ⟨gI,0,none⟩) n oc,Value.int IntKind.i64 ↑n,Value.bool true,u41,u42,t43x,t44x,t45x,t46x,t47x,t48x,t49x,t50x,t51x,t52x,t53x,u54,u55,u56,u57,undef,undef,undef,undef,undef,undef,undef,undef,undef,undef,undef,undef,undef,undef,undef,undef,undef,undef,undef,undef,undef,undef,undef,undef,undef,undef,undef,undef,undef,undef,undef,undef,undef],defers:=[] }∧Hid ((D 0=true→t43x=.slice (some ⟨gI,0,none⟩) n oc)∧(D 1=true→t44x=.int .i64 (k:Int))∧(D 2=true→t45x=.pointer (some ⟨gI,k*4,none⟩))∧(D 3=true→Ji V t46x q)∧(D 4=true→t47x=.string TV)∧(D 5=true→t48x=.slice (some ⟨gM,0,none⟩) n mc)∧(D 6=true→t49x=.int .i64 (k:Int))∧(D 7=true→t50x=.pointer (some ⟨gM,k*4,none⟩))∧(D 8=true→JB V t51x q)∧(D 9=true→t52x=.string TV)∧(D 10=true→t53x=.bool false))∧Hid (Abv wr V))
        ⟨_,_,_,_,_,_,_,_,_,_,_,rfl,Ja ⟨by simp,by simp,by simp,by simp,by simp,by simp,by simp,by simp,by simp,by simp,by simp⟩,Ja ST0⟩ ?step1 ?fin1
       case step1=>
        rintro D act V i ds hcl hi hds hDi ⟨t43x,t44x,t45x,t46x,t47x,t48x,t49x,t50x,t51x,t52x,t53x,rfl,GG,SS0⟩;have hi6:i<11:=(List.getElem?_eq_some_iff.1 hi).1;obtain rfl | rfl | rfl | rfl | rfl | rfl | rfl | rfl | rfl | rfl | rfl:i=0∨i=1∨i=2∨i=3∨i=4∨i=5∨i=6∨i=7∨i=8∨i=9∨i=10:=by omega
        all_goals
         simp only [List.getElem?_cons_zero,List.getElem?_cons_succ,Option.some.injEq] at hi;subst hi
        · have hS0:=SS0.out;clear hds;refine Jc rfl rfl (fun K hK=>?_);go_simp;obtain ⟨_,G1,G2,G3,G4,G5,G6,G7,G8,G9,G10⟩:=GG.out;exact hK _ _ ⟨_,_,_,_,_,_,_,_,_,_,_,rfl,Ja ⟨fun _=>rfl,G1,G2,G3,G4,G5,G6,G7,G8,G9,G10⟩,Ja (SS0.out)⟩
        · have hS0:=SS0.out;clear hds;refine Jc rfl rfl (fun K hK=>?_);go_simp;obtain ⟨G0,_,G2,G3,G4,G5,G6,G7,G8,G9,G10⟩:=GG.out;exact hK _ _ ⟨_,_,_,_,_,_,_,_,_,_,_,rfl,Ja ⟨G0,fun _=>rfl,G2,G3,G4,G5,G6,G7,G8,G9,G10⟩,Ja (SS0.out)⟩
        · have hS0:=SS0.out;obtain rfl:=GG.out.1 (hds 0 (by simp));obtain rfl:=GG.out.2.1 (hds 1 (by simp));clear hds;refine Jc rfl rfl (fun K hK=>?_);go_simp;obtain ⟨_,_,_,G3,G4,G5,G6,G7,G8,G9,G10⟩:=GG.out;exact hK _ _ ⟨_,_,_,_,_,_,_,_,_,_,_,rfl,Ja ⟨fun _=>rfl,fun _=>rfl,fun _=>rfl,G3,G4,G5,G6,G7,G8,G9,G10⟩,Ja (SS0.out)⟩
        · have hS0:=SS0.out;obtain rfl:=GG.out.2.2.1 (hds 2 (by simp));obtain ⟨s9,a9,l9,c9,t9,b9,k9,d9,e0,e1,e2,e3,hr⟩:=HE.out V hS0;clear hds;refine Jc rfl rfl (fun K hK=>?_);go_simp;obtain ⟨G0,G1,_,_,G4,G5,G6,G7,G8,G9,G10⟩:=GG.out;exact hK _ _ ⟨_,_,_,_,_,_,_,_,_,_,_,rfl,Ja ⟨G0,G1,fun _=>rfl,fun _=>hr,G4,G5,G6,G7,G8,G9,G10⟩,Ja (SS0.out)⟩
        · have hS0:=SS0.out;have h0:=GG.out.2.2.2.1 (hds 3 (by simp));clear hds;have HC:=Ja (Jhg _ q V h0 HSQ.out (HTB.out V hS0));rw [XTV.out] at HC;clear h0;refine Jc rfl rfl (fun K hK=>?_);go_simp;go_wp2_with (go_at_call 16;refine HC.out.mono ?_;rintro e w5 ⟨rfl,hb5⟩)
          obtain ⟨G0,G1,G2,G3,_,G5,G6,G7,G8,G9,G10⟩:=GG.out;exact ⟨_,_,_,_,_,_,_,_,_,_,_,rfl,Ja ⟨G0,G1,G2,fun h=>(G3 h).below hb5,fun _=>rfl,G5,G6,G7,fun h=>(G8 h).below hb5,G9,G10⟩,Ja (SS0.out.below hb5)⟩
        · have hS0:=SS0.out;clear hds;refine Jc rfl rfl (fun K hK=>?_);go_simp;obtain ⟨G0,G1,G2,G3,G4,_,G6,G7,G8,G9,G10⟩:=GG.out;exact hK _ _ ⟨_,_,_,_,_,_,_,_,_,_,_,rfl,Ja ⟨G0,G1,G2,G3,G4,fun _=>rfl,G6,G7,G8,G9,G10⟩,Ja (SS0.out)⟩
        · have hS0:=SS0.out;clear hds;refine Jc rfl rfl (fun K hK=>?_);go_simp;obtain ⟨G0,G1,G2,G3,G4,G5,_,G7,G8,G9,G10⟩:=GG.out;exact hK _ _ ⟨_,_,_,_,_,_,_,_,_,_,_,rfl,Ja ⟨G0,G1,G2,G3,G4,G5,fun _=>rfl,G7,G8,G9,G10⟩,Ja (SS0.out)⟩
        · have hS0:=SS0.out;obtain rfl:=GG.out.2.2.2.2.2.1 (hds 5 (by simp));obtain rfl:=GG.out.2.2.2.2.2.2.1 (hds 6 (by simp));clear hds;refine Jc rfl rfl (fun K hK=>?_);go_simp;obtain ⟨G0,G1,G2,G3,G4,_,_,_,G8,G9,G10⟩:=GG.out;exact hK _ _ ⟨_,_,_,_,_,_,_,_,_,_,_,rfl,Ja ⟨G0,G1,G2,G3,G4,fun _=>rfl,fun _=>rfl,fun _=>rfl,G8,G9,G10⟩,Ja (SS0.out)⟩
        · have hS0:=SS0.out;obtain rfl:=GG.out.2.2.2.2.2.2.2.1 (hds 7 (by simp));obtain ⟨a9,l9,c9,s9,b9,k9,d9,t9,e0,e1,e2,e3,hr⟩:=HF.out V hS0;clear hds;refine Jc rfl rfl (fun K hK=>?_);go_simp;obtain ⟨G0,G1,G2,G3,G4,G5,G6,_,_,G9,G10⟩:=GG.out;exact hK _ _ ⟨_,_,_,_,_,_,_,_,_,_,_,rfl,Ja ⟨G0,G1,G2,G3,G4,G5,G6,fun _=>rfl,fun _=>hr,G9,G10⟩,Ja (SS0.out)⟩
        · have hS0:=SS0.out;have h0:=GG.out.2.2.2.2.2.2.2.2.1 (hds 8 (by simp));clear hds;have HC:=Ja (Jhh _ q V h0 HSQ.out);rw [XTV.out] at HC;clear h0;refine Jc rfl rfl (fun K hK=>?_);go_simp;go_wp2_with (go_at_call 17;refine HC.out.mono ?_;rintro e w5 ⟨rfl,hb5⟩)
          obtain ⟨G0,G1,G2,G3,G4,G5,G6,G7,G8,_,G10⟩:=GG.out;exact ⟨_,_,_,_,_,_,_,_,_,_,_,rfl,Ja ⟨G0,G1,G2,fun h=>(G3 h).below hb5,G4,G5,G6,G7,fun h=>(G8 h).below hb5,fun _=>rfl,G10⟩,Ja (SS0.out.below hb5)⟩
        · have hS0:=SS0.out;obtain rfl:=GG.out.2.2.2.2.1 (hds 4 (by simp));obtain rfl:=GG.out.2.2.2.2.2.2.2.2.2.1 (hds 9 (by simp));clear hds;refine Jc rfl rfl (fun K hK=>?_);go_simp;obtain ⟨G0,G1,G2,G3,_,G5,G6,G7,G8,_,_⟩:=GG.out;exact hK _ _ ⟨_,_,_,_,_,_,_,_,_,_,_,rfl,Ja ⟨G0,G1,G2,G3,fun _=>rfl,G5,G6,G7,G8,fun _=>rfl,fun _=>rfl⟩,Ja (SS0.out)⟩
       case fin1=>
        rintro D act V13 hDD ⟨t43x,t44x,t45x,t46x,t47x,t48x,t49x,t50x,t51x,t52x,t53x,rfl,GG,SS0⟩;obtain rfl:=GG.out.2.2.2.2.2.2.2.2.2.2 (hDD 10 (by decide));have hS:=HS.out.below SS0.out;obtain ⟨s9,a9,l9,c9,t9,b9,k9,d9,e0,e1,e2,e3,_⟩:=hS.elem rfl hlt;have f0:=hS.frozen rfl HKF.out.2 (k*4);have f1:=hS.frozen rfl HKF.out.2 (k*4+1);have f2:=hS.frozen rfl HKF.out.2 (k*4+2);have f3:=hS.frozen rfl HKF.out.2 (k*4+3);have HP9:=Ja (hS.put rfl hlt);clear GG SS0 hDD hS;go_wp2_with fail
        go_roundw
        case rel=>exact ⟨k+1,by omega,by go_num,HP9⟩
        case measure=>simp [intOf];omega
     · obtain rfl:n=k:=by omega
       clear hlt hk2 hk;go_wp2_with fail
       go_loopw [9] (fun iv wr=>∃ k:Nat,k≤lq∧iv=.int .i64 (k:Int)∧Hid (OfS w n fs oa ma BP ap lp cp (.slice qa lq qc) n wr)) (fun iv _=>lq - (intOf iv).toNat)
       case atStart=>exact ⟨0,Nat.zero_le _,rfl,HS⟩
       case round=>
        obtain ⟨k,hk3,rfl,HU⟩:=hrel;clear HS;by_cases hlt:k<lq
        · have hlt2:(k:Int)<(lq:Int):=by omega
          have HY:=Ja (Jqv (.agg #[.slice ap lp cp]) (JG fs) (k:Int) wr ⟨_,rfl,HU.out.pol⟩);rw [if_neg (by omega),Int.toNat_natCast] at HY;have HSQ:=Ja (HQT.out.at k);obtain ⟨hlq9,_,_,_,s,t,aa,bb,ll,cc,kk,dd,hcq⟩:=HU.out.quo.formsF;obtain ⟨hi,bq,rfl,hbq,c0,c1,c2,c3⟩:=hcq k hlt;obtain ⟨q,hq⟩:∃ q,cf (JG fs) k=q:=⟨_,rfl⟩;rw [hq] at HY HSQ hi;obtain ⟨TV,hTV⟩:∃ S:ByteArray,⟨(JM q).toArray⟩=S:=⟨_,rfl⟩;have XTV:=Ja hTV;have HCQ:=Ja (fun (V:World) (hB:Below wr.heap.size wr V)=>(show (V.cell? ⟨bq,k*4,none⟩=some (.slice (aa k) (ll k) (cc k))∧V.cell? ⟨bq,k*4+1,none⟩=some (.bool (s k))∧V.cell? ⟨bq,k*4+2,none⟩=some (.slice (bb k) (kk k) (dd k))∧V.cell? ⟨bq,k*4+3,none⟩=some (.bool (t k)))∧JB V (.agg #[.slice (aa k) (ll k) (cc k),.bool (s k),.slice (bb k) (kk k) (dd k),.bool (t k)]) q from ⟨⟨(hB.cell (p:=⟨bq,_,none⟩) hbq).trans c0,(hB.cell (p:=⟨bq,_,none⟩) hbq).trans c1,(hB.cell (p:=⟨bq,_,none⟩) hbq).trans c2,(hB.cell (p:=⟨bq,_,none⟩) hbq).trans c3⟩,hi.below hB⟩));have eP:=HU.out.box.cell;clear hlq9 hcq hi hbq c0 c1 c2 c3 hq hTV;go_wp2_with (go_at_call 11;refine HY.out.mono ?_;clear HY;rintro e w5 ⟨u5,rfl,hu5,hb5⟩;obtain ⟨s5,a5,l5,c5,t5,b5,k5,d5,rfl⟩:=Ji.form hu5)
          have hA:Below w5.heap.size w5 (w5.alloc (.cells #[.bool s5,.slice a5 l5 c5,.bool t5,.slice b5 k5 d5] 38)):=(Below.refl _ w5).alloc (Nat.le_refl _) _;have nC:=JC.new w5 38 (.bool s5) (.slice a5 l5 c5) (.bool t5) (.slice b5 k5 d5);have rC:=hu5.below hA;have HB5:=Ja (Below.then hb5 hA);obtain ⟨VC,hV⟩:∃ V,w5.alloc (.cells #[.bool s5,.slice a5 l5 c5,.bool t5,.slice b5 k5 d5] 38)=V:=⟨_,rfl⟩;obtain ⟨BC,hB⟩:∃ B,w5.heap.size=B:=⟨_,rfl⟩;rw [hV] at rC HB5;rw [hV,hB] at nC;rw [hV];rw [hB];clear hA hV hB hu5 hb5 eP;have HTB:=Ja (fun (V:World) (h:Abv VC V)=>JY HT.out (HU.out.below (Below.then HB5.out h)).bel);have ST0:Abv VC VC.drew:=Abv.drew VC;refine Jq hmx [[],[0],[],[],[2,3],[4],[5,1],[1,6]] (by kernel_rfl) (by decide)
           (fun D act V=>∃ (t67x t68x t69x t70x t71x t72x t73x t74x:Value),act={ tmps:=#[Value.slice a n cap,undef,u2,Value.slice oa n oc,Value.slice ma n mc,Value.int IntKind.i64 ↑n,.pointer (some ⟨BP,0,none⟩),Value.slice (some ⟨bq,0,none⟩) lq qc,Value.int IntKind.i64 ↑n,Value.int IntKind.i64 ↑k,.pointer (some ⟨BC,0,none⟩),Value.int IntKind.i64 ↑n,Value.slice a n cap,Value.int IntKind.i64 ↑n,Value.bool false,u15,u16,u17,u18,u19,u20,u21,u22,u23,u24,u25,u26,u27,u28,u29,u30,u31,u32,Value.slice oa n oc,Value.agg #[Value.slice ap lp cp],Value.slice ma n mc,Value.slice (some ⟨bq,0,none⟩) lq qc,Value.int IntKind.i64 ↑n,Value.slice oa n oc,Value.int IntKind.i64 ↑n,Value.bool false,u41,u42,u43,u44,u45,u46,u47,u48,u49,u50,u51,u52,u53,u54,u55,u56,u57,Value.int IntKind.i64 ↑k,Value.slice (some ⟨bq,0,none⟩) lq qc,Value.int IntKind.i64 ↑lq,Value.bool true,u62,u63,Value.agg #[Value.slice ap lp cp],Value.int IntKind.i64 ↑k,Value.agg #[Value.bool s5,Value.slice a5 l5 c5,Value.bool t5,Value.slice b5 k5 d5],t67x,t68x,t69x,t70x,t71x,t72x,t73x,t74x,undef,undef,undef,undef,undef,undef,undef,undef,undef,undef,undef,undef,undef,undef,undef,undef],defers:=[] }∧Hid ((D 0=true→t67x=.agg #[.bool s5,.slice a5 l5 c5,.bool t5,.slice b5 k5 d5])∧(D 1=true→t68x=.string TV)∧(D 2=true→t69x=.slice (some ⟨bq,0,none⟩) lq qc)∧(D 3=true→t70x=.int .i64 (k:Int))∧(D 4=true→t71x=.pointer (some ⟨bq,k*4,none⟩))∧(D 5=true→JB V t72x q)∧(D 6=true→t73x=.string TV)∧(D 7=true→t74x=.bool false))∧Hid (Abv VC V))
           ⟨_,_,_,_,_,_,_,_,rfl,Ja ⟨by simp,by simp,by simp,by simp,by simp,by simp,by simp,by simp⟩,Ja ST0⟩ ?step2 ?fin2
          case step2=>
           rintro D act V i ds hcl hi hds hDi ⟨t67x,t68x,t69x,t70x,t71x,t72x,t73x,t74x,rfl,GG,SS0⟩;have hi6:i<8:=(List.getElem?_eq_some_iff.1 hi).1;obtain rfl | rfl | rfl | rfl | rfl | rfl | rfl | rfl:i=0∨i=1∨i=2∨i=3∨i=4∨i=5∨i=6∨i=7:=by omega
           all_goals
            simp only [List.getElem?_cons_zero,List.getElem?_cons_succ,Option.some.injEq] at hi;subst hi
           · have hS0:=SS0.out;have e0:=(nC.below hS0).c0;have e1:=(nC.below hS0).c1;have e2:=(nC.below hS0).c2;have e3:=(nC.below hS0).c3;clear hds;refine Jc rfl rfl (fun K hK=>?_);go_simp;obtain ⟨_,G1,G2,G3,G4,G5,G6,G7⟩:=GG.out;exact hK _ _ ⟨_,_,_,_,_,_,_,_,rfl,Ja ⟨fun _=>rfl,G1,G2,G3,G4,G5,G6,G7⟩,Ja (SS0.out)⟩
           · have hS0:=SS0.out;obtain rfl:=GG.out.1 (hds 0 (by simp));clear hds;have HC:=Ja (Jhg _ q V (rC.below hS0) HSQ.out (HTB.out V hS0));rw [XTV.out] at HC;refine Jc rfl rfl (fun K hK=>?_);go_simp;go_wp2_with (go_at_call 16;refine HC.out.mono ?_;rintro e w5 ⟨rfl,hb5⟩)
             obtain ⟨_,_,G2,G3,G4,G5,G6,G7⟩:=GG.out;exact ⟨_,_,_,_,_,_,_,_,rfl,Ja ⟨fun _=>rfl,fun _=>rfl,G2,G3,G4,fun h=>(G5 h).below hb5,G6,G7⟩,Ja (SS0.out.below hb5)⟩
           · have hS0:=SS0.out;clear hds;refine Jc rfl rfl (fun K hK=>?_);go_simp;obtain ⟨G0,G1,_,G3,G4,G5,G6,G7⟩:=GG.out;exact hK _ _ ⟨_,_,_,_,_,_,_,_,rfl,Ja ⟨G0,G1,fun _=>rfl,G3,G4,G5,G6,G7⟩,Ja (SS0.out)⟩
           · have hS0:=SS0.out;clear hds;refine Jc rfl rfl (fun K hK=>?_);go_simp;obtain ⟨G0,G1,G2,_,G4,G5,G6,G7⟩:=GG.out;exact hK _ _ ⟨_,_,_,_,_,_,_,_,rfl,Ja ⟨G0,G1,G2,fun _=>rfl,G4,G5,G6,G7⟩,Ja (SS0.out)⟩
           · have hS0:=SS0.out;obtain rfl:=GG.out.2.2.1 (hds 2 (by simp));obtain rfl:=GG.out.2.2.2.1 (hds 3 (by simp));clear hds;refine Jc rfl rfl (fun K hK=>?_);go_simp;obtain ⟨G0,G1,_,_,_,G5,G6,G7⟩:=GG.out;exact hK _ _ ⟨_,_,_,_,_,_,_,_,rfl,Ja ⟨G0,G1,fun _=>rfl,fun _=>rfl,fun _=>rfl,G5,G6,G7⟩,Ja (SS0.out)⟩
           · have hS0:=SS0.out;obtain rfl:=GG.out.2.2.2.2.1 (hds 4 (by simp));obtain ⟨⟨e0,e1,e2,e3⟩,hr⟩:=HCQ.out V (Below.then HB5.out hS0);clear hds;refine Jc rfl rfl (fun K hK=>?_);go_simp;obtain ⟨G0,G1,G2,G3,_,_,G6,G7⟩:=GG.out;exact hK _ _ ⟨_,_,_,_,_,_,_,_,rfl,Ja ⟨G0,G1,G2,G3,fun _=>rfl,fun _=>hr,G6,G7⟩,Ja (SS0.out)⟩
           · have hS0:=SS0.out;have h0:=GG.out.2.2.2.2.2.1 (hds 5 (by simp));clear hds;have HC:=Ja (Jhh _ q V h0 HSQ.out);rw [XTV.out] at HC;clear h0;refine Jc rfl rfl (fun K hK=>?_);go_simp;go_wp2_with (go_at_call 17;refine HC.out.mono ?_;rintro e w5 ⟨rfl,hb5⟩)
             obtain ⟨G0,G1,G2,G3,G4,G5,_,G7⟩:=GG.out;exact ⟨_,_,_,_,_,_,_,_,rfl,Ja ⟨G0,G1,G2,G3,G4,fun h=>(G5 h).below hb5,fun _=>rfl,G7⟩,Ja (SS0.out.below hb5)⟩
           · have hS0:=SS0.out;obtain rfl:=GG.out.2.1 (hds 1 (by simp));obtain rfl:=GG.out.2.2.2.2.2.2.1 (hds 6 (by simp));clear hds;refine Jc rfl rfl (fun K hK=>?_);go_simp;obtain ⟨G0,_,G2,G3,G4,G5,_,_⟩:=GG.out;exact hK _ _ ⟨_,_,_,_,_,_,_,_,rfl,Ja ⟨G0,fun _=>rfl,G2,G3,G4,G5,fun _=>rfl,fun _=>rfl⟩,Ja (SS0.out)⟩
          case fin2=>
           rintro D act V20 hDD ⟨t67x,t68x,t69x,t70x,t71x,t72x,t73x,t74x,rfl,GG,SS0⟩;obtain rfl:=GG.out.2.2.2.2.2.2.2 (hDD 7 (by decide));have HU9:=Ja (HU.out.below (Below.then HB5.out SS0.out));clear GG SS0 hDD;go_wp2_with fail
           go_roundw
           case rel=>exact ⟨k+1,by omega,by go_num,HU9⟩
           case measure=>simp [intOf];omega
        · obtain rfl:lq=k:=by omega
          clear hlt hk3;have hwr:IntKind.i64.wrap ((lq:Int) - 1)=(lq:Int) - 1:=by rw [IntKind.wrap_i64];omega
          have HTB:=Ja (fun (V:World) (h:Abv wr V)=>JY HT.out (HU.out.below h).bel);have H1:=Ja (fun (V:World) (h:Abv wr V)=>Jlc (.agg #[.slice ap lp cp]) (JG fs) V ⟨_,rfl,(HU.out.below h).pol⟩ HQT.out HTL.out (HTB.out V h));have H2:=Ja (fun (V:World) (h:Abv wr V)=>Jq9 (.slice qa lq qc) (JG fs) V (HU.out.below h).quo HQT.out HTL.out HTR.out (HTB.out V h));have H3:=Ja (fun (V:World) (h:Abv wr V)=>Jgi (.agg #[.slice ap lp cp]) (JG fs) V ⟨_,rfl,(HU.out.below h).pol⟩);have H4:=Ja (fun (V:World) (h:Abv wr V)=>Jpr V (HTB.out V h));rw [XTX.out] at H1 H2;rw [HLQ.out] at H3;have hq:Abv wr wr:=Below.refl _ _;have eP:=(HU.out.below hq).box.cell;go_wp2_with (first
           | (go_at_call 13;refine (H1.out _ hq).mono ?_;clear H1;rintro e x1 ⟨rfl,hb⟩;replace hq:=Abv.below hq hb;clear hb eP;have eP:=(HU.out.below hq).box.cell)
           | (go_at_call 14;refine (H2.out _ hq).mono ?_;clear H2;rintro e x2 ⟨rfl,hb⟩;replace hq:=Abv.below hq hb;clear hb eP;have eP:=(HU.out.below hq).box.cell)
           | (go_at_call 15;refine (H3.out _ hq).mono ?_;clear H3;rintro e x3 ⟨rfl,hb⟩;replace hq:=Abv.below hq hb;clear hb eP)
           | (go_at_call 19;refine (H4.out _ hq).mono ?_;clear H4;rintro e x4 ⟨rfl,hb⟩;replace hq:=Abv.below hq hb;clear hb))
          go_ret;exact ⟨rfl,(HU.out.below hq).bel⟩
end Go.Proofs.YtcahejkcdcjjgaaGreatDoor
