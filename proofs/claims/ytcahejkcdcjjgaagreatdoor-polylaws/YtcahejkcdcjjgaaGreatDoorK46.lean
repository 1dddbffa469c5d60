import Derived.Test.YtcahejkcdcjjgaaGreatDoorK43
import Derived.Test.YtcahejkcdcjjgaaGreatDoorK45
import Derived.Test.YtcahejkcdcjjgaaGreatDoorK35
set_option maxRecDepth 100000
set_option maxHeartbeats 16000000
namespace Go.Proofs.YtcahejkcdcjjgaaGreatDoor
open Go.RowKit Go.Shelf
def Jso (Z:List UInt8):Prop:=Z=[]∨∃ t,Z=43::t∨Z=45::t
theorem Jso.head {Z:List UInt8} (h:Jso Z) {c:UInt8} (hc:Z.head?=some c):isD c=false∧c≠47∧c≠32∧c≠120∧c≠94:=by
 rcases h with rfl | ⟨t,rfl | rfl⟩
 · cases hc
 · cases hc;decide
 · cases hc;decide
end Go.Proofs.YtcahejkcdcjjgaaGreatDoor
namespace Go.Proofs.YtcahejkcdcjjgaaGreatDoor
open Go.RowKit Go.Shelf
attribute [local go_sem] Oper.semAt_some
def Abv (V0 V:World):Prop:=Below V0.heap.size V0 V
theorem Abv.below {V0 V V':World} (h:Abv V0 V) (hb:Below V.heap.size V V'):Abv V0 V':=Below.then h hb
theorem Abv.drew (V:World):Abv V V.drew:=(Below.refl _ V).drew
end Go.Proofs.YtcahejkcdcjjgaaGreatDoor
namespace Go.Proofs.YtcahejkcdcjjgaaGreatDoor.M3
open Go.RowKit Go.Shelf
attribute [local go_sem] Oper.semAt_some
def Jol (ps:List Rat) (n i:Nat) (S:List Rat):Prop:=S.length=n∧∀ j,cf S j=if j<i then slF ps j else 0
theorem Jol.next {ps:List Rat} {n i:Nat} {S:List Rat} (h:Jol ps n i S) (hi:i<n):Jol ps n (i+1) (S.set i (slF ps i)):=by
 refine ⟨by rw [List.length_set];exact h.1,fun j=>?_⟩;rw [XI _ _ _ _ (by rw [h.1];exact hi),h.2 j];by_cases e:j=i
 · rw [if_pos e,if_pos (by omega),e]
 · rw [if_neg e];by_cases e2:j<i
   · rw [if_pos e2,if_pos (by omega)]
   · rw [if_neg e2,if_neg (by omega)]
theorem Jol.done {ps:List Rat} {n:Nat} {S:List Rat} (h:Jol ps n n S) (hn:n=ps.length - 1):Ji S=JA ps:=Jae fun j=>by
 rw [h.2 j,Jag];split
 · rfl
 · rw [J7 (p:=ps) (by omega),Rat.zero_mul]
theorem Jaw (v:Value) (ps:List Rat) (w:World) (h:Jk w v ps) (hps:Sqs ps) (hsl:∀ i,Sq (slF ps i)) :
 Calls Tryz.prog 35 #[v] w fun e w'=>∃ u,e=.returned u∧Jk w' u (JA ps)∧Below w.heap.size w w':=by
 have hmx:Tryz.prog.follows .mixedOrders=true:=by kernel_rfl
 obtain ⟨pa,la,pc,rfl⟩:=h.form;have ha:=h.row;obtain ⟨hla,hca,hcma,hlma,s,t,aa,bb,ll,cc,kk,dd,hcp⟩:=ha.forms;have M0:Mem w _ _:=((Mem.nil w).push (.cell 25 (.slice pa la pc)) (cs:=#[.slice pa la pc]) ⟨rfl,rfl⟩).push (.cell 25 (.slice none 0 0)) (cs:=#[.slice none 0 0]) ⟨rfl,rfl⟩;simp only [World.size_alloc] at M0;obtain ⟨V0,hV0⟩:∃ V,(w.alloc (.cells #[.slice pa la pc] 25)).alloc (.cells #[.slice none 0 0] 25)=V:=⟨_,rfl⟩;have M1:Mem w V0 [some (w.heap.size,.cell 25 (.slice pa la pc)),some (w.heap.size+1,.cell 25 (.slice none 0 0))]:=by rw [←hV0];exact M0
 have HM1:=Ja M1;obtain ⟨d,hd⟩:∃ d:Int,(ps.length:Int) - 1=d:=⟨_,rfl⟩;have HDG:=Ja (Yp (.agg #[.slice pa la pc]) ps V0 (h.below M1.2.2));rw [hd] at HDG;obtain ⟨n,hn⟩:∃ n:Nat,ps.length - 1=n:=⟨_,rfl⟩;have hmax:max (0:Int) d=(n:Int):=by omega
 have hmk:∀ W:World,(Instr.makeSlice 23 (.int .i64 (n:Int)) (.int .i64 (n:Int))).run Tryz.prog W=.ok (.slice (some ⟨W.heap.size,0,none⟩) n n) (W.alloc (.cells (Ya n) 38)):=fun W=>XG n (by omega) W;have HP:=Ja hcp;have HPS:=Ja hps;have HSL:=Ja hsl;have HN:=Ja (show n=ps.length - 1∧la=ps.length from ⟨hn.symm,hla⟩);have hnle:n≤1099511627776:=by omega
 have HV0:=Ja hV0;clear h ha hcp hps hsl hla hca hcma hn hd M0 M1 hV0;go_enter Tryz.func35,Tryz.ntmps35
 go_upto_region 1 with fail
 rw [HV0.out];have c0:=(HM1.out.cell (i:=0) rfl).1.cell;go_upto_region 2 with (go_at_call 15;refine HDG.out.mono ?_;clear HDG;rintro e w1 ⟨rfl,hb1⟩)
 have hM2:Mem w (w1.alloc (.cells (Ya n) 38)) [some (w.heap.size,.cell 25 (.slice pa la pc)),some (w.heap.size+1,.cell 25 (.slice none 0 0)),some (w1.heap.size,.rats (List.replicate n 0))]:=(HM1.out.below hb1).push (.rats (List.replicate n 0)) (Jec _ n);obtain ⟨V1,hV1⟩:∃ V,w1.alloc (.cells (Ya n) 38)=V:=⟨_,rfl⟩;obtain ⟨gS,hgS⟩:∃ g,w1.heap.size=g:=⟨_,rfl⟩;rw [hV1,hgS] at hM2;rw [hV1,hgS];have HM2:=Ja hM2;clear hM2 hV1 hgS hb1 c0 HM1 HV0 hmk hmax;go_wp2;go_loopw [11] (fun iv wr=>∃ (i:Nat) (S:List Rat),i≤n∧iv=.int .i64 (i:Int)∧Hid (Jol ps n i S)∧Hid (Mem w wr [some (w.heap.size,.cell 25 (.slice pa la pc)),some (w.heap.size+1,.cell 25 (.slice none 0 0)),some (gS,.rats S)])) (fun iv _=>n - (intOf iv).toNat)
 case atStart=>exact ⟨0,_,Nat.zero_le _,rfl,Ja ⟨List.length_replicate,fun j=>by rw [JO,if_neg (by omega)]⟩,HM2⟩
 case round=>
  obtain ⟨i,S,hi,rfl,HS,HM⟩:=hrel;clear HM2;by_cases hlt:i<n
  · have hlt2:(i:Int)<(n:Int):=by omega
    obtain ⟨K,hK⟩:∃ K:Nat,i+1=K:=⟨_,rfl⟩;have hK1:(i:Int)+1=(K:Int):=by omega
    have hKw:IntKind.i64.wrap (K:Int)=(K:Int):=by rw [IntKind.wrap_i64];omega
    have hKl:(K:Int)<(la:Int):=by have:=HN.out;omega
    obtain ⟨hip,bp,rfl,hbp,p0,p1,p2,p3⟩:=HP.out K (by have:=HN.out;omega);have HCL:=Ja (show ∀ V,Below w.heap.size w V→(V.cell? ⟨bp,K*4,none⟩=some (.bool (s K))∧V.cell? ⟨bp,K*4+1,none⟩=some (.slice (aa K) (ll K) (cc K))∧V.cell? ⟨bp,K*4+2,none⟩=some (.bool (t K))∧V.cell? ⟨bp,K*4+3,none⟩=some (.slice (bb K) (kk K) (dd K)))∧Jf V (.agg #[.bool (s K),.slice (aa K) (ll K) (cc K),.bool (t K),.slice (bb K) (kk K) (dd K)]) (cf ps K) from fun V hB=>by
     exact ⟨⟨(hB.cell (p:=⟨bp,_,none⟩) hbp).trans p0,(hB.cell (p:=⟨bp,_,none⟩) hbp).trans p1,(hB.cell (p:=⟨bp,_,none⟩) hbp).trans p2,(hB.cell (p:=⟨bp,_,none⟩) hbp).trans p3⟩,hip.below hB⟩)
    have HKK:=Ja (show K≤1099511627776∧K=i+1 by omega);have HFN:=Ja (show cf ps K*((K:Int):Rat)=slF ps i by rw [HKK.out.2];rfl);have HIL:=Ja (show i<S.length by rw [HS.out.1];exact hlt);clear hip hbp p0 p1 p2 p3 hK;go_wp2_with fail
    have ST0:=HM.out.drew;refine Jj hmx [[],[],[],[2],[],[4],[3,5],[6],[],[8],[9],[7,10,10],[0,1,0,1,2,3,4,5,6,7,8,9,10,11],[12,11,11,0,1,2,3,4,5,6,7,8,9,10,11]] (by kernel_rfl) (by decide)
     (fun D act V=>∃ (t14x t15x t16x t17x t18x t19x t20x t21x t22x t23x t24x t25x t26x:Value),act={ tmps:=#[Value.agg #[Value.slice (some ⟨bp,0,none⟩) la pc],.pointer (some ⟨w.heap.size,0,none⟩),.pointer (some ⟨w.heap.size+1,0,none⟩),Value.slice (some ⟨gS,0,none⟩) n n,Value.int IntKind.i64 ↑i,Value.agg #[Value.slice (some ⟨bp,0,none⟩) la pc],Value.int IntKind.i64 d,Value.int IntKind.i64 ↑n,Value.slice (some ⟨gS,0,none⟩) n n,Value.slice (some ⟨gS,0,none⟩) n n,Value.int IntKind.i64 ↑n,Value.int IntKind.i64 ↑i,Value.bool true,Value.int IntKind.i64 ↑i,t14x,t15x,t16x,t17x,t18x,t19x,t20x,t21x,t22x,t23x,t24x,t25x,t26x,u27,undef,undef],defers:=[] }∧Hid ((D 0=true→t14x=.slice (some ⟨gS,0,none⟩) n n)∧(D 1=true→t15x=.int .i64 (i:Int))∧(D 2=true→t16x=.pointer (some ⟨w.heap.size,0,none⟩))∧(D 3=true→t17x=.slice (some ⟨bp,0,none⟩) la pc)∧(D 4=true→t18x=.int .i64 (i:Int))∧(D 5=true→t19x=.int .i64 (K:Int))∧(D 6=true→t20x=.pointer (some ⟨bp,K*4,none⟩))∧(D 7=true→D 13=false→Jf V t21x (cf ps K))∧(D 8=true→t22x=.int .i64 (i:Int))∧(D 9=true→t23x=.int .i64 (K:Int))∧(D 10=true→D 13=false→Jf V t24x ((K:Int):Rat))∧(D 11=true→D 13=false→Jf V t25x (slF ps i))∧(D 12=true→t26x=.pointer (some ⟨gS,i*4,none⟩)))∧Hid ((D 13=false→Mem w V [some (w.heap.size,.cell 25 (.slice (some ⟨bp,0,none⟩) la pc)),some (w.heap.size+1,.cell 25 (.slice none 0 0)),some (gS,.rats (S))])∧(D 13=true→Mem w V [some (w.heap.size,.cell 25 (.slice (some ⟨bp,0,none⟩) la pc)),some (w.heap.size+1,.cell 25 (.slice none 0 0)),some (gS,.rats (S.set i (slF ps i)))])))
     ⟨_,_,_,_,_,_,_,_,_,_,_,_,_,rfl,Ja ⟨by simp,by simp,by simp,by simp,by simp,by simp,by simp,by simp,by simp,by simp,by simp,by simp,by simp⟩,Ja ⟨fun _=>ST0,by simp⟩⟩ ?step1 ?fin1
    case step1=>
     rintro D act V i ds hcl hi hds hDi ⟨t14x,t15x,t16x,t17x,t18x,t19x,t20x,t21x,t22x,t23x,t24x,t25x,t26x,rfl,GG,SS0⟩;have hi6:i<14:=(List.getElem?_eq_some_iff.1 hi).1;obtain rfl | rfl | rfl | rfl | rfl | rfl | rfl | rfl | rfl | rfl | rfl | rfl | rfl | rfl:i=0∨i=1∨i=2∨i=3∨i=4∨i=5∨i=6∨i=7∨i=8∨i=9∨i=10∨i=11∨i=12∨i=13:=by omega
     all_goals
      simp only [List.getElem?_cons_zero,List.getElem?_cons_succ,Option.some.injEq] at hi;subst hi
     · have hf0:D 13=false:=nyt hcl rfl (by simp) hDi;have hS0:=SS0.out.1 hf0;clear hds;refine Jb rfl rfl (fun K hK=>?_);go_simp;obtain ⟨_,G1,G2,G3,G4,G5,G6,G7,G8,G9,G10,G11,G12⟩:=GG.out;exact hK _ _ ⟨_,_,_,_,_,_,_,_,_,_,_,_,_,rfl,Ja ⟨fun _=>rfl,G1,G2,G3,G4,G5,G6,G7,G8,G9,G10,G11,G12⟩,Ja ⟨SS0.out.1,SS0.out.2⟩⟩
     · have hf0:D 13=false:=nyt hcl rfl (by simp) hDi;have hS0:=SS0.out.1 hf0;clear hds;refine Jb rfl rfl (fun K hK=>?_);go_simp;obtain ⟨G0,_,G2,G3,G4,G5,G6,G7,G8,G9,G10,G11,G12⟩:=GG.out;exact hK _ _ ⟨_,_,_,_,_,_,_,_,_,_,_,_,_,rfl,Ja ⟨G0,fun _=>rfl,G2,G3,G4,G5,G6,G7,G8,G9,G10,G11,G12⟩,Ja ⟨SS0.out.1,SS0.out.2⟩⟩
     · have hf0:D 13=false:=nyt hcl rfl (by simp) hDi;have hS0:=SS0.out.1 hf0;clear hds;refine Jb rfl rfl (fun K hK=>?_);go_simp;obtain ⟨G0,G1,_,G3,G4,G5,G6,G7,G8,G9,G10,G11,G12⟩:=GG.out;exact hK _ _ ⟨_,_,_,_,_,_,_,_,_,_,_,_,_,rfl,Ja ⟨G0,G1,fun _=>rfl,G3,G4,G5,G6,G7,G8,G9,G10,G11,G12⟩,Ja ⟨SS0.out.1,SS0.out.2⟩⟩
     · have hf0:D 13=false:=nyt hcl rfl (by simp) hDi;have hS0:=SS0.out.1 hf0;obtain rfl:=GG.out.2.2.1 (hds 2 (by simp));have e0:=(hS0.cell (i:=0) rfl).1.cell;clear hds;refine Jb rfl rfl (fun K hK=>?_);go_simp;obtain ⟨G0,G1,_,_,G4,G5,G6,G7,G8,G9,G10,G11,G12⟩:=GG.out;exact hK _ _ ⟨_,_,_,_,_,_,_,_,_,_,_,_,_,rfl,Ja ⟨G0,G1,fun _=>rfl,fun _=>rfl,G4,G5,G6,G7,G8,G9,G10,G11,G12⟩,Ja ⟨SS0.out.1,SS0.out.2⟩⟩
     · have hf0:D 13=false:=nyt hcl rfl (by simp) hDi;have hS0:=SS0.out.1 hf0;clear hds;refine Jb rfl rfl (fun K hK=>?_);go_simp;obtain ⟨G0,G1,G2,G3,_,G5,G6,G7,G8,G9,G10,G11,G12⟩:=GG.out;exact hK _ _ ⟨_,_,_,_,_,_,_,_,_,_,_,_,_,rfl,Ja ⟨G0,G1,G2,G3,fun _=>rfl,G5,G6,G7,G8,G9,G10,G11,G12⟩,Ja ⟨SS0.out.1,SS0.out.2⟩⟩
     · have hf0:D 13=false:=nyt hcl rfl (by simp) hDi;have hS0:=SS0.out.1 hf0;obtain rfl:=GG.out.2.2.2.2.1 (hds 4 (by simp));clear hds;refine Jb rfl rfl (fun K hK=>?_);go_simp;obtain ⟨G0,G1,G2,G3,_,_,G6,G7,G8,G9,G10,G11,G12⟩:=GG.out;exact hK _ _ ⟨_,_,_,_,_,_,_,_,_,_,_,_,_,rfl,Ja ⟨G0,G1,G2,G3,fun _=>rfl,fun _=>rfl,G6,G7,G8,G9,G10,G11,G12⟩,Ja ⟨SS0.out.1,SS0.out.2⟩⟩
     · have hf0:D 13=false:=nyt hcl rfl (by simp) hDi;have hS0:=SS0.out.1 hf0;obtain rfl:=GG.out.2.2.2.1 (hds 3 (by simp));obtain rfl:=GG.out.2.2.2.2.2.1 (hds 5 (by simp));clear hds;refine Jb rfl rfl (fun K hK=>?_);go_simp;obtain ⟨G0,G1,G2,_,G4,_,_,G7,G8,G9,G10,G11,G12⟩:=GG.out;exact hK _ _ ⟨_,_,_,_,_,_,_,_,_,_,_,_,_,rfl,Ja ⟨G0,G1,G2,fun _=>rfl,G4,fun _=>rfl,fun _=>rfl,G7,G8,G9,G10,G11,G12⟩,Ja ⟨SS0.out.1,SS0.out.2⟩⟩
     · have hf0:D 13=false:=nyt hcl rfl (by simp) hDi;have hS0:=SS0.out.1 hf0;obtain rfl:=GG.out.2.2.2.2.2.2.1 (hds 6 (by simp));obtain ⟨⟨e0,e1,e2,e3⟩,hr⟩:=HCL.out V hS0.2.2;clear hds;refine Jb rfl rfl (fun K hK=>?_);go_simp;obtain ⟨G0,G1,G2,G3,G4,G5,_,_,G8,G9,G10,G11,G12⟩:=GG.out;exact hK _ _ ⟨_,_,_,_,_,_,_,_,_,_,_,_,_,rfl,Ja ⟨G0,G1,G2,G3,G4,G5,fun _=>rfl,fun _ _=>hr,G8,G9,G10,G11,G12⟩,Ja ⟨SS0.out.1,SS0.out.2⟩⟩
     · have hf0:D 13=false:=nyt hcl rfl (by simp) hDi;have hS0:=SS0.out.1 hf0;clear hds;refine Jb rfl rfl (fun K hK=>?_);go_simp;obtain ⟨G0,G1,G2,G3,G4,G5,G6,G7,_,G9,G10,G11,G12⟩:=GG.out;exact hK _ _ ⟨_,_,_,_,_,_,_,_,_,_,_,_,_,rfl,Ja ⟨G0,G1,G2,G3,G4,G5,G6,G7,fun _=>rfl,G9,G10,G11,G12⟩,Ja ⟨SS0.out.1,SS0.out.2⟩⟩
     · have hf0:D 13=false:=nyt hcl rfl (by simp) hDi;have hS0:=SS0.out.1 hf0;obtain rfl:=GG.out.2.2.2.2.2.2.2.2.1 (hds 8 (by simp));clear hds;refine Jb rfl rfl (fun K hK=>?_);go_simp;obtain ⟨G0,G1,G2,G3,G4,G5,G6,G7,_,_,G10,G11,G12⟩:=GG.out;exact hK _ _ ⟨_,_,_,_,_,_,_,_,_,_,_,_,_,rfl,Ja ⟨G0,G1,G2,G3,G4,G5,G6,G7,fun _=>rfl,fun _=>rfl,G10,G11,G12⟩,Ja ⟨SS0.out.1,SS0.out.2⟩⟩
     · have hf0:D 13=false:=nyt hcl rfl (by simp) hDi;have hS0:=SS0.out.1 hf0;obtain rfl:=GG.out.2.2.2.2.2.2.2.2.2.1 (hds 9 (by simp));clear hds;have HC:=Ja (Jca (K:Int) (by omega) (by have:=HKK.out;omega) V);refine Jb rfl rfl (fun K hK=>?_);go_simp;go_wp2_with (go_at_call 77;refine HC.out.mono ?_;rintro e w5 ⟨v5,rfl,hv5,hb5⟩)
       obtain ⟨G0,G1,G2,G3,G4,G5,G6,G7,G8,_,_,G11,G12⟩:=GG.out;exact ⟨_,_,_,_,_,_,_,_,_,_,_,_,_,rfl,Ja ⟨G0,G1,G2,G3,G4,G5,G6,fun h h2=>(G7 h h2).below hb5,G8,fun _=>rfl,fun _ _=>hv5,fun h h2=>(G11 h h2).below hb5,G12⟩,Ja ⟨fun h=>(SS0.out.1 h).below hb5,fun h=>(SS0.out.2 h).below hb5⟩⟩
     · have hf0:D 13=false:=nyt hcl rfl (by simp) hDi;have hS0:=SS0.out.1 hf0;have h0:=GG.out.2.2.2.2.2.2.2.1 (hds 7 (by simp)) hf0;have h1:=GG.out.2.2.2.2.2.2.2.2.2.2.1 (hds 10 (by simp)) hf0;clear hds;have HC:=Ja (Jas _ _ (cf ps K) ((K:Int):Rat) V h0 h1 (HPS.out.at K) (Jr3 HKK.out.1));rw [HFN.out] at HC;clear h0 h1;refine Jb rfl rfl (fun K hK=>?_);go_simp;go_wp2_with (go_at_call 41;refine HC.out.mono ?_;rintro e w5 ⟨v5,rfl,hv5,hb5⟩)
       obtain ⟨G0,G1,G2,G3,G4,G5,G6,G7,G8,G9,G10,_,G12⟩:=GG.out;exact ⟨_,_,_,_,_,_,_,_,_,_,_,_,_,rfl,Ja ⟨G0,G1,G2,G3,G4,G5,G6,fun h h2=>(G7 h h2).below hb5,G8,G9,fun h h2=>(G10 h h2).below hb5,fun _ _=>hv5,G12⟩,Ja ⟨fun h=>(SS0.out.1 h).below hb5,fun h=>(SS0.out.2 h).below hb5⟩⟩
     · have hf0:D 13=false:=nyt hcl rfl (by simp) hDi;have hS0:=SS0.out.1 hf0;obtain rfl:=GG.out.1 (hds 0 (by simp));obtain rfl:=GG.out.2.1 (hds 1 (by simp));clear hds;refine Jb rfl rfl (fun K hK=>?_);go_simp;obtain ⟨_,_,G2,G3,G4,G5,G6,G7,G8,G9,G10,G11,_⟩:=GG.out;exact hK _ _ ⟨_,_,_,_,_,_,_,_,_,_,_,_,_,rfl,Ja ⟨fun _=>rfl,fun _=>rfl,G2,G3,G4,G5,G6,G7,G8,G9,G10,G11,fun _=>rfl⟩,Ja ⟨SS0.out.1,SS0.out.2⟩⟩
     · have hS0:=SS0.out.1 hDi;have h0:=GG.out.2.2.2.2.2.2.2.2.2.2.2.1 (hds 11 (by simp)) hDi;obtain rfl:=GG.out.2.2.2.2.2.2.2.2.2.2.2.2 (hds 12 (by simp));have hE:=hS0.rats (i:=2) rfl;obtain ⟨xa,xb,xc,xd,e0,e1,e2,e3,_⟩:=hE.at HIL.out;have f0:=hE.frozen (i*4);have f1:=hE.frozen (i*4+1);have f2:=hE.frozen (i*4+2);have f3:=hE.frozen (i*4+3);obtain ⟨s9,a9,l9,c9,t9,b9,k9,d9,rfl⟩:=Jf.form h0;clear hds;refine Jb rfl rfl (fun K hK=>?_);go_simp;obtain ⟨G0,G1,G2,G3,G4,G5,G6,_,G8,G9,_,_,_⟩:=GG.out;exact hK _ _ ⟨_,_,_,_,_,_,_,_,_,_,_,_,_,rfl,Ja ⟨G0,G1,G2,G3,G4,G5,G6,fun _ h=>by simp at h,G8,G9,fun _ h=>by simp at h,fun _ h=>by simp at h,fun _=>rfl⟩,Ja ⟨fun h=>by simp at h,fun _=>hS0.putRats (i:=2) rfl HIL.out h0⟩⟩
    case fin1=>
     rintro D act V hDD ⟨t14x,t15x,t16x,t17x,t18x,t19x,t20x,t21x,t22x,t23x,t24x,t25x,t26x,rfl,GG,SS0⟩;have HO:=Ja (SS0.out.2 (hDD 13 (by decide)));clear GG SS0 hDD;go_wp2_with fail
     go_roundw
     case rel=>exact ⟨i+1,_,by omega,by go_num,Ja (HS.out.next hlt),HO⟩
     case measure=>simp [intOf];omega
  · obtain rfl:i=n:=by omega
    have hE:=HM.out.rats (i:=2) rfl;have hrow:=hE.row (n:=i) (cap:=i) (by rw [HS.out.1];exact Nat.le_refl _) (Nat.le_refl _) (by omega) hnle;rw [List.take_of_length_le (by rw [HS.out.1];exact Nat.le_refl _)] at hrow;have HMD:=Ja (Xa _ S wr hrow (Sqs.of fun j=>by
     rw [HS.out.2 j];split
     · exact HSL.out j
     · exact sq0))
    rw [HS.out.done HN.out.1] at HMD;clear hE hrow;go_wp2_with (go_at_call 65;refine HMD.out.mono ?_;clear HMD;rintro e w5 ⟨u5,rfl,hu5,_,hb5⟩;obtain ⟨a7,l7,c7,rfl⟩:=hu5.form;have n5:=boxed_below (HM.out.cell (i:=1) rfl).1 hb5;have x0:=n5.cell;have x1:=n5.frozen;have HU5:=Ja (Jbh n5 (.slice a7 l7 c7) hu5.row);have HB5:=Ja ((HM.out.2.2.trans (hb5.mono HM.out.2.2.size)).setCell (p:=⟨w.heap.size+1,0,none⟩) (by show w.heap.size≤w.heap.size+1;omega) (.slice a7 l7 c7));clear hu5 hb5 n5)
    exact bodyPost_ret (v:=.agg #[.slice a7 l7 c7]) (by simp [results,Tryz.results35,go_sem,x0]) rfl ⟨_,rfl,⟨_,rfl,HU5.out⟩,HB5.out⟩
end Go.Proofs.YtcahejkcdcjjgaaGreatDoor.M3
namespace Go.Proofs.YtcahejkcdcjjgaaGreatDoor
open Go.RowKit Go.Shelf
def CD (D:Int) (K:Nat) (c:Rat):Prop:=∃ n:Int,c=Rat.divInt n D∧Sm K n
section
variable {D E:Int} {K M:Nat} {c d:Rat}
theorem CD.mono (h:CD D K c) (hk:K≤M):CD D M c:=by
 obtain ⟨n,e,h⟩:=h;exact ⟨n,e,h.mono hk⟩
theorem CD.smq (h:CD D K c) (hD:D≠0) (hs:Sm K D):SmQ K c:=by
 obtain ⟨n,rfl,h⟩:=h;exact SmQ.divInt hD h hs
theorem CD.zero (D:Int) (K:Nat):CD D K 0:=⟨0,by rw [Rat.zero_divInt],Sm.zero K⟩
theorem CD.add (h:CD D K c) (h2:CD D M d) (hD:D≠0):CD D (max K M+1) (c+d):=by
 obtain ⟨n,rfl,h⟩:=h;obtain ⟨m,rfl,h2⟩:=h2;refine ⟨n+m,?_,?_⟩
 · rw [Rat.divInt_add_divInt _ _ hD hD,←Int.add_mul,Rat.divInt_mul_right hD]
 · exact (h.mono (Nat.le_max_left ..)).add (h2.mono (Nat.le_max_right ..))
theorem CD.mul (h:CD D K c) (h2:CD E M d):CD (D*E) (K+M) (c*d):=by
 obtain ⟨n,rfl,h⟩:=h;obtain ⟨m,rfl,h2⟩:=h2;exact ⟨n*m,by rw [Rat.divInt_mul_divInt],h.mul h2⟩
theorem CD.wide (h:CD D K c) (hE:Sm M E) (h0:E≠0):CD (D*E) (K+M) c:=by
 obtain ⟨n,rfl,h⟩:=h;exact ⟨n*E,by rw [Rat.divInt_mul_right h0],h.mul hE⟩
theorem CD.of (h:SmQ K c):CD (c.den:Int) K c:=⟨c.num,(Rat.num_divInt_den c).symm,h.1⟩
end
def CDL (D:Int) (K:Nat) (ps:List Rat):Prop:=∀ i,CD D K (cf ps i)
theorem CDL.some {A:Nat}:∀ {ps:List Rat},(∀ i,SmQ A (cf ps i))→∃ D:Int,D≠0∧Sm (ps.length*A+1) D∧CDL D (ps.length*A+1) ps:=by
 intro ps;induction ps with
 | nil=>intro _;exact ⟨1,by decide,Sm.one _ (by omega),fun i=>by rw [Yu];exact CD.zero _ _⟩
 | cons c t ih=>
  intro h;obtain ⟨D,h1,h2,h3⟩:=ih (fun i=>by have:=h (i+1);rwa [JI] at this);have hc:=h 0;rw [Yd] at hc;have hd:(c.den:Int)≠0:=by have:=c.den_nz;omega
  have e:(c::t).length*A+1=t.length*A+1+A:=by rw [List.length_cons,Nat.add_mul];omega
  rw [e];refine ⟨D*c.den,Int.mul_ne_zero h1 hd,h2.mul hc.2,fun i=>?_⟩;cases i with
  | zero=>
   rw [Yd];have:=(CD.of hc).wide h2 h1;rw [Int.mul_comm] at this;exact this.mono (by omega)
  | succ i=>rw [JI];exact (h3 i).wide hc.2 hd
theorem Jkw {D:Int} {K:Nat} {ps qs:List Rat} (hD:D≠0) (h:∀ i j,CD D K (cf ps i*cf qs j)) (n:Nat):∀ (i k:Nat),CD D (K+min i ps.length) (cf (YC ps qs n i) k):=by
 intro i;induction i with
 | zero=>intro k;rw [YC,JO];exact CD.zero _ _
 | succ i ih=>
  intro k;rw [YC];rcases YH (YC ps qs n i) i (cf ps i) qs qs.length k with e | e
  · rw [e];exact (ih k).mono (by omega)
  · rw [e];by_cases hi:i<ps.length
    · exact ((ih k).add (h i (k - i)) hD).mono (by omega)
    · rw [J7 (p:=ps) (by omega),Rat.zero_mul,Rat.add_zero];exact (ih k).mono (by omega)
theorem Jgp {D:Int} {K:Nat} {ps qs:List Rat} (hD:D≠0) (hs:Sm 1000000 D) (h:∀ i j,CD D K (cf ps i*cf qs j)) (hk:K+ps.length+1≤1000000):M3.XC ps qs:=by
 have hq:∀ c,CD D (K+ps.length+1) c→Sq c:=fun c hc=>Sq.of ((hc.mono hk).smq hD hs) (Nat.le_refl _);refine ⟨fun i j=>hq _ ((h i j).mono (by omega)),fun n i j k=>?_⟩;have h1:=Jkw hD h n i k;rcases YH (YC ps qs n i) i (cf ps i) qs j k with e | e
 · rw [e];exact hq _ (h1.mono (by omega))
 · rw [e];exact hq _ ((h1.add (h i (k - i)) hD).mono (by omega))
theorem Ji2 {D:Int} {K:Nat} {ps qs:List Rat} (hD:D≠0) (h:∀ i j,CD D K (cf ps i*cf qs j)):CDL D (K+ps.length) (JS ps qs):=fun k=>by
 unfold JS;rw [JY,Jaz];have h1:=Jkw hD h (ps.length+qs.length) ps.length k;rwa [Je7 _ _ _ _ _ (Or.inr (by omega)),Nat.min_self] at h1
theorem Ji3 (a:Rat) (j:Nat):cf (J8 a) j=a∨cf (J8 a) j=1∨cf (J8 a) j=0:=by
 rcases j with _ | _ | j
 · exact Or.inl rfl
 · exact Or.inr (Or.inl rfl)
 · exact Or.inr (Or.inr (J7 (by simp [J8])))
theorem Jm3 {A:Nat} {a:Rat} (h:SmQ A a) (j:Nat):CD (a.den:Int) A (cf (J8 a) j):=by
 have hd:(a.den:Int)≠0:=by have:=a.den_nz;omega
 rcases Ji3 a j with e | e | e
 · rw [e];exact CD.of h
 · rw [e];exact ⟨a.den,by rw [Rat.divInt_self' hd],h.2⟩
 · rw [e];exact CD.zero _ _
theorem Jqn (p q:List Rat):(JS p q).length≤p.length+q.length:=Jdx (Jcf _ _) fun i hi=>by unfold JS;rw [JY,Jaz,Jkh p q hi]
theorem Jgq (a:Rat) (l:List Rat):(JX a l).length≤2*l.length:=by
 induction l with
 | nil=>simp [JX]
 | cons c t ih=>
  rw [JX];have h1:=Jbq (JS (JX a t) (J8 a)) (Ji [c]);have h2:=Jqn (JX a t) (J8 a);have h3:=JZ [c];have h4:(J8 a).length=2:=rfl;have h5:([c]:List Rat).length=1:=rfl;rw [List.length_cons];omega
theorem Sm.powZ {A:Nat} {v:Int} (h:Sm A v):∀ n,Sm (n*A+1) (v ^ n):=by
 intro n;induction n with
 | zero=>rw [Int.pow_zero];exact Sm.one _ (by omega)
 | succ n ih=>rw [Int.pow_succ,Nat.add_mul,show n*A+1*A+1=n*A+1+A by omega];exact ih.mul h
theorem Jqo {D:Int} {K A L:Nat} {a:Rat} (hD:D≠0) (ha:SmQ A a):∀ l:List Rat,l.length≤L→CDL D K l→CDL (D*(a.den:Int) ^ l.length) (K+l.length*(A+2*L+3)) (JX a l):=by
 have hd:(a.den:Int)≠0:=by have:=a.den_nz;omega
 intro l;induction l with
 | nil=>intro _ _ i;rw [JX,Yu];exact CD.zero _ _
 | cons c t ih=>
  intro hl h;rw [List.length_cons] at hl;have ih:=ih (by omega) (fun i=>by have:=h (i+1);rwa [JI] at this);have hc:=h 0;rw [Yd] at hc;have hlen:=Jgq a t;have hv:(a.den:Int) ^ t.length≠0:=Int.pow_ne_zero hd;have h1:∀ i j,CD (D*(a.den:Int) ^ t.length*a.den) (K+t.length*(A+2*L+3)+A) (cf (JX a t) i*cf (J8 a) j):=fun i j=>(ih i).mul (Jm3 ha j);have h2:=Ji2 (Int.mul_ne_zero (Int.mul_ne_zero hD hv) hd) h1;have e:D*(a.den:Int) ^ t.length*a.den=D*(a.den:Int) ^ (c::t).length:=by rw [List.length_cons,Int.pow_succ,Int.mul_assoc]
  rw [e] at h2;have hE:D*(a.den:Int) ^ (c::t).length≠0:=Int.mul_ne_zero hD (Int.pow_ne_zero hd);have h3:CD (D*(a.den:Int) ^ (c::t).length) (K+((c::t).length*A+1)) c:=hc.wide (ha.2.powZ _) (Int.pow_ne_zero hd);intro i;rw [JX,Jcg,JY];have h4:CD (D*(a.den:Int) ^ (c::t).length) (K+((c::t).length*A+1)) (cf [c] i):=by
   rcases i with _ | i
   · exact h3
   · rw [J7 (by simp)];exact CD.zero _ _
  refine ((h2 i).add h4 hE).mono ?_;rw [List.length_cons,Nat.add_mul,Nat.add_mul,Nat.mul_add t.length,Nat.mul_add t.length];omega
def Jl2 (a:Rat) (ps:List Rat):Prop:=∀ k,Sqs (JX a (ps.drop k))∧M3.XC (JX a (ps.drop k)) (J8 a)∧Sqs (JS (JX a (ps.drop k)) (J8 a))
theorem Jm4 {D:Int} {K A L:Nat} {a:Rat} {ps:List Rat} (hD:D≠0) (hsD:Sm K D) (hp:CDL D K ps) (ha:SmQ A a) (hl:ps.length≤L) (hb:K+(L+1)*(A+2*L+3)+2*L+2≤1000000):Jl2 a ps:=fun k=>by
 have hd:(a.den:Int)≠0:=by have:=a.den_nz;omega
 obtain ⟨l,hll⟩:∃ l,ps.drop k=l:=⟨_,rfl⟩;have hlen:l.length≤L:=by rw [←hll,List.length_drop];omega
 have hcl:CDL D K l:=fun i=>by
  have e:cf l i=cf ps (k+i):=by rw [←hll];simp [cf]
  rw [e];exact hp _
 rw [hll];have h1:=Jqo hD ha l hlen hcl;have hv:(a.den:Int) ^ l.length≠0:=Int.pow_ne_zero hd;have hE:D*(a.den:Int) ^ l.length≠0:=Int.mul_ne_zero hD hv;have hm:l.length*(A+2*L+3)≤L*(A+2*L+3):=Nat.mul_le_mul_right _ hlen;have hm2:l.length*A≤L*A:=Nat.mul_le_mul_right _ hlen;have hm3:L*A≤L*(A+2*L+3):=Nat.mul_le_mul_left _ (by omega);rw [Nat.add_mul] at hb;have hsE:Sm (K+(l.length*A+1)) (D*(a.den:Int) ^ l.length):=hsD.mul (ha.2.powZ _);have hsE2:Sm 1000000 (D*(a.den:Int) ^ l.length*a.den):=(hsE.mul ha.2).mono (by omega);have hE2:D*(a.den:Int) ^ l.length*a.den≠0:=Int.mul_ne_zero hE hd;have h2:∀ i j,CD (D*(a.den:Int) ^ l.length*a.den) (K+l.length*(A+2*L+3)+A) (cf (JX a l) i*cf (J8 a) j):=fun i j=>(h1 i).mul (Jm3 ha j);have hlm:=Jgq a l;refine ⟨Sqs.of fun i=>Sq.of (((h1 i).mono (by omega:_≤1000000)).smq hE (hsE.mono (by omega))) (Nat.le_refl _),Jgp hE2 hsE2 h2 (by omega),Sqs.of fun i=>?_⟩;exact Sq.of (((Ji2 hE2 h2 i).mono (by omega:_≤1000000)).smq hE2 hsE2) (Nat.le_refl _)
end Go.Proofs.YtcahejkcdcjjgaaGreatDoor
namespace Go.Proofs.YtcahejkcdcjjgaaGreatDoor.M3
open Go.RowKit Go.Shelf
attribute [local go_sem] Oper.semAt_some
theorem Tryz.infoPoly:(Tryz.prog.info? 25).map (fun i=>(i.zero,i.size,i.bytes))=some (some (.agg #[.slice none 0 0]),1,24):=by kernel_rfl
def Jgr (n:Nat):Array Value:=madeCells #[.slice none 0 0] (n*1)
theorem Jqp {n j:Nat} (hj:j<n):(Jgr n)[j]?=some (.slice none 0 0):=by
 unfold Jgr madeCells;rw [Array.getElem?_map,Array.getElem?_range];simp [hj];have:j % 1=0:=by omega
 simp [this]
theorem Jl3 (n:Nat) (h:n≤1099511627776) (w:World):(Instr.makeSlice 115 (.int .i64 (n:Int)) (.int .i64 (n:Int))).run Tryz.prog w=.ok (.slice (some ⟨w.heap.size,0,none⟩) n n) (w.alloc (.cells (Jgr n) 25)):=by
 obtain ⟨i,hi,hzz⟩:=Option.map_eq_some_iff.1 Tryz.infoPoly;simp only [Prod.mk.injEq] at hzz;obtain ⟨hz,hs,hb⟩:=hzz;have hr:=run_make (P:=Tryz.prog) w 115 25 i _ Tryz.underlying115 hi hz .i64 .i64 n n (by omega) (Int.le_refl _) (by rw [hb];omega) (by omega);simp only [Int.toNat_natCast,hs] at hr;exact hr
def XT (V:World) (g n:Nat) (f:Nat→List Rat):Prop:=∃ cs:Array Value,V.heap[g]?=some (.cells cs 25 (0,0))∧∀ j,j<n→∃ a l c,cs[j]?=some (.slice a l c)∧RowK true V (.slice a l c) (f j)
theorem XT.lt {V:World} {g n:Nat} {f:Nat→List Rat} (h:XT V g n f):g<V.heap.size:=by obtain ⟨cs,h,_⟩:=h;exact (Array.getElem?_eq_some_iff.1 h).1
theorem XT.below {V V':World} {g n:Nat} {f:Nat→List Rat} (h:XT V g n f) (hb:Below V.heap.size V V'):XT V' g n f:=by
 have hl:=h.lt;obtain ⟨cs,h1,h2⟩:=h;refine ⟨cs,(hb.block g hl).trans h1,fun j hj=>?_⟩;obtain ⟨a,l,c,e,h3⟩:=h2 j hj;exact ⟨a,l,c,e,h3.below hb⟩
theorem XT.new (V:World) (n:Nat):XT (V.alloc (.cells (Jgr n) 25)) V.heap.size n (fun _=>[]):=⟨Jgr n,World.alloc_heap_new V _,fun _ hj=>⟨_,_,_,Jqp hj,RowK.nil _ _⟩⟩
theorem XT.cell {V:World} {g n:Nat} {f:Nat→List Rat} (h:XT V g n f) {j:Nat} (hj:j<n):∃ a l c,V.cell? ⟨g,j,none⟩=some (.slice a l c)∧RowK true V (.slice a l c) (f j):=by
 obtain ⟨cs,h1,h2⟩:=h;obtain ⟨a,l,c,e,h3⟩:=h2 j hj;exact ⟨a,l,c,cell_of h1 e,h3⟩
theorem XT.frozen {V:World} {g n:Nat} {f:Nat→List Rat} (h:XT V g n f) (o:Nat):V.frozen? ⟨g,o,none⟩=false:=by obtain ⟨cs,h1,_⟩:=h;simp [World.frozen?,h1]
theorem XT.set {V:World} {g n:Nat} {f:Nat→List Rat} (h:XT V g n f) {j:Nat} (hj:j<n) {a:Option Addr} {l c:Nat} {q:List Rat} (hv:RowK true V (.slice a l c) q):XT (V.setCell ⟨g,j,none⟩ (.slice a l c)) g n (fun k=>if k=j then q else f k):=by
 obtain ⟨cs,h1,h2⟩:=h;obtain ⟨a0,l0,c0,e0,_⟩:=h2 j hj;have hk:∀ v qs,RowK true V v qs→RowK true (V.setCell ⟨g,j,none⟩ (.slice a l c)) v qs:=fun v qs hr=>Jdq h1 e0 rfl true (by decide) _ v qs hr;refine ⟨cs.setIfInBounds j (.slice a l c),JG h1 _,fun k hk2=>?_⟩;have hjs:j<cs.size:=(Array.getElem?_eq_some_iff.1 e0).1;by_cases e:k=j
 · subst e;refine ⟨a,l,c,?_,?_⟩
   · rw [Array.getElem?_setIfInBounds_self_of_lt hjs]
   · show RowK true _ _ (if k=k then q else f k);rw [if_pos rfl];exact hk _ _ hv
 · obtain ⟨a1,l1,c1,e1,h3⟩:=h2 k hk2;refine ⟨a1,l1,c1,?_,?_⟩
   · rw [Array.getElem?_setIfInBounds_ne (by omega)];exact e1
   · show RowK true _ _ (if k=j then q else f k);rw [if_neg e];exact hk _ _ h3
theorem XT.cong {V:World} {g n:Nat} {f f':Nat→List Rat} (h:XT V g n f) (e:∀ j,j<n→f j=f' j):XT V g n f':=by
 obtain ⟨cs,h1,h2⟩:=h;refine ⟨cs,h1,fun j hj=>?_⟩;rw [←e j hj];exact h2 j hj
theorem Jsc {q:Rat} (h:Sq q):Sqs (Ji [q]):=Sqs.of fun i=>by
 rw [JY];rcases i with _ | i
 · exact h
 · rw [J7 (by simp)];exact sq0
theorem Jom (pa:Option Addr) (la pc:Nat) (ps:List Rat) (w:World) (ha:RowK true w (.slice pa la pc) ps) (hps:Sqs ps) :
 Calls Tryz.prog 78 #[.slice pa la pc,.func (.func 79) #[] #[]] w fun e w'=>∃ g,e=.returned (.slice (some ⟨g,0,none⟩) la la)∧w.heap.size≤g∧XT w' g la (fun j=>Ji [cf ps j])∧Below w.heap.size w w':=by
 obtain ⟨hla,hca,hcma,hlma,s,t,aa,bb,ll,cc,kk,dd,hcp⟩:=ha.forms;have hmk:=Jl3 la hlma w;have hE0:=XT.new w la;have hB0:Below w.heap.size w (w.alloc (.cells (Jgr la) 25)):=(Below.refl _ w).alloc (Nat.le_refl _) _;obtain ⟨W0,hW0⟩:∃ W0,w.alloc (.cells (Jgr la) 25)=W0:=⟨_,rfl⟩;rw [hW0] at hE0 hB0 hmk;have HE0:=Ja (hE0.cong (f':=fun j=>if j<0 then Ji [cf ps j] else []) (fun j _=>rfl));have HB0:=Ja hB0;have HP:=Ja hcp;have HPS:=Ja hps;obtain ⟨g,hg⟩:∃ g,w.heap.size=g:=⟨_,rfl⟩;rw [hg] at HE0 hmk;have HG:=Ja hg;clear ha hps hcp hla hca hcma hE0 hB0 hW0 hg;go_enter Tryz.func78,Tryz.ntmps78
 go_wp2;clear hmk;go_loopw [13] (fun iv wr=>∃ i:Nat,i≤la∧iv=.int .i64 (i:Int)∧Hid (XT wr g la (fun j=>if j<i then Ji [cf ps j] else [])∧Below w.heap.size w wr)) (fun iv _=>la - (intOf iv).toNat)
 case atStart=>exact ⟨0,Nat.zero_le _,rfl,Ja ⟨HE0.out,HB0.out⟩⟩
 case round=>
  obtain ⟨i,hi,rfl,HR⟩:=hrel;clear HE0 HB0;by_cases hlt:i<la
  · have hlt2:(i:Int)<(la:Int):=by omega
    obtain ⟨hip,bp,rfl,hbp,p0,p1,p2,p3⟩:=HP.out i hlt;have e0:=(HR.out.2.cell (p:=⟨bp,_,none⟩) hbp).trans p0;have e1:=(HR.out.2.cell (p:=⟨bp,_,none⟩) hbp).trans p1;have e2:=(HR.out.2.cell (p:=⟨bp,_,none⟩) hbp).trans p2;have e3:=(HR.out.2.cell (p:=⟨bp,_,none⟩) hbp).trans p3;have hA:Below wr.heap.size wr (wr.alloc (.cells #[.bool (s i),.slice (aa i) (ll i) (cc i),.bool (t i),.slice (bb i) (kk i) (dd i)] 38)):=(Below.refl _ wr).alloc (Nat.le_refl _) _;have HC:=Ja (Jkb _ (cf ps i) _ ((hip.below HR.out.2).below hA) (HPS.out.at i));have HR1:=Ja (show XT _ g la (fun j=>if j<i then Ji [cf ps j] else [])∧Below w.heap.size w _ from ⟨HR.out.1.below hA,HR.out.2.trans (hA.mono HR.out.2.size)⟩);clear hip p0 p1 p2 p3 hA;go_wp2_with (go_at_call 79;refine HC.out.mono ?_;clear HC;rintro e w5 ⟨u5,rfl,hu5,_,hb5⟩;obtain ⟨a5,l5,c5,rfl⟩:=hu5.form;have hE:=HR1.out.1.below hb5;obtain ⟨a6,l6,c6,x0,_⟩:=hE.cell hlt;have x1:=hE.frozen i;have HE:=Ja (hE.set hlt hu5.row);have HB:=Ja ((HR1.out.2.trans (hb5.mono HR1.out.2.size)).setCell (p:=⟨g,i,none⟩) (by rw [HG.out];exact Nat.le_refl _) (.slice a5 l5 c5));clear hE hu5 hb5)
    go_roundw
    case rel=>exact ⟨i+1,by omega,by go_num,Ja ⟨HE.out.cong (fun j _=>by
     by_cases e:j=i
     · subst e;rw [if_pos rfl,if_pos (by omega)]
     · rw [if_neg e];by_cases e2:j<i
       · rw [if_pos e2,if_pos (by omega)]
       · rw [if_neg e2,if_neg (by omega)]),HB.out⟩⟩
    case measure=>simp [intOf];omega
  · obtain rfl:i=la:=by omega
    go_wp2;go_ret;exact ⟨g,rfl,by rw [HG.out];exact Nat.le_refl _,HR.out.1.cong (fun j hj=>if_pos hj),HR.out.2⟩
end Go.Proofs.YtcahejkcdcjjgaaGreatDoor.M3
