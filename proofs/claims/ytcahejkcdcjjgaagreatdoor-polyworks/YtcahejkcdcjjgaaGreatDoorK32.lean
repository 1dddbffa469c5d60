import Derived.Test.YtcahejkcdcjjgaaGreatDoorK31
import Derived.Deep.RegionWith
import Derived.Test.YtcahejkcdcjjgaaGreatDoorK28
import Derived.Lib.AppendZeros
set_option maxRecDepth 100000
set_option maxHeartbeats 16000000
namespace Go.Proofs.YtcahejkcdcjjgaaGreatDoor
open Go.RowKit Go.Shelf
attribute [local go_sem] Oper.semAt_some
def Jnr(W:World):Value→Nat
 |.slice (some p) l _=>val 10000 ((List.range l).map fun j=>Jfg W ⟨p.block,p.off+j,none⟩)
 |_=>0
theorem RN.rowVal{W:World}{a:Option Addr}{l c n:Nat}(h:RN W (.slice a l c) n):Jnr W (.slice a l c)=n:=by
 obtain⟨h1,_,_,_,h5⟩:=Jp h;rcases AQ l with h0|h0
 · subst h0;have hn:n=0:=(JC (by omega)).1 (Ao h1.symm);subst hn;cases a<;>rfl
 · obtain⟨b,off,rfl,_,_⟩:=h5 0 h0;show val 10000 ((List.range l).map fun j=>Jfg W ⟨b,off+j,none⟩)=n;have e:(List.range l).map (fun j=>Jfg W ⟨b,off+j,none⟩)=Jc 10000 n:=by
    refine List.ext_getElem (by rw[Fp,List.length_range];exact h1) (fun j g1 g2=>?_);obtain⟨b',off',e,_,hc⟩:=h5 j (by omega);cases e;rw[List.getElem_map,List.getElem_range,Jfg,hc,Ae g2];rfl
   rw[e,Jl (by omega)]
theorem Jfj{m n:Nat}(h:n≤m):(Jc 10000 n).length≤(Jc 10000 m).length:=by
 rcases AC (Jc 10000 m).length (Jc 10000 n).length with h1|h1
 · have:=Yx (by omega) h1;omega
 · exact h1
theorem Juj(va vb:Value)(x y:Int)(w:World)(ha:Jo w va x)(hb:Jo w vb y)(hma:szB x≤100000000)(hmb:szB y≤100000000):
 Calls Tryz.prog 125 #[va,vb] w fun e w'=>∃u,e=.returned u∧Jo w' u (Int.gcd x y:Nat)∧Below w.heap.size w w':=by
 obtain⟨a,la,ca,rfl,ra⟩:=ha;obtain⟨b,lb,cb,rfl,rb⟩:=hb;obtain⟨s,hs⟩:=ex (decide (x<0));obtain⟨t,ht⟩:=ex (decide (y<0));rw[hs,ht];clear hs ht;obtain⟨W0,hW0⟩:=ex (((w.alloc (.cells #[.slice a la ca,.bool s] 47)).alloc (.cells #[.slice b lb cb,.bool t] 47)).alloc (.cells #[.slice none 0 0,.bool false] 47));have Qd:Below w.heap.size w W0:=by rw[←hW0];exact YZ w _ _ _
 have b0:Jk W0 w.heap.size 47 (.slice a la ca) (.bool s):=by rw[←hW0];exact((Jk.new w _ _ _).alloc _).alloc _
 have b1:Jk W0 (w.heap.size+1) 47 (.slice b lb cb) (.bool t):=by
  have h:=(Jk.new (w.alloc (.cells #[.slice a la ca,.bool s] 47)) 47 (.slice b lb cb) (.bool t)).alloc (.cells #[.slice none 0 0,.bool false] 47);rw[World.size_alloc,hW0]at h;exact h
 have bR:Jk W0 (w.heap.size+1+1) 47 (.slice none 0 0) (.bool false):=by
  have h:=Jk.new ((w.alloc (.cells #[.slice a la ca,.bool s] 47)).alloc (.cells #[.slice b lb cb,.bool t] 47)) 47 (.slice none 0 0) (.bool false);rw[World.size_alloc,World.size_alloc,hW0]at h;exact h
 have r0:=RN.below ra Qd;have r1:=RN.below rb Qd;have k0:=b0.c0;have k2:=b1.c0;have Qf:la≤100000000:=by rw[RN.len ra];exact hma
 have Qe:lb≤100000000:=by rw[RN.len rb];exact hmb
 have Qg:=Ja hW0;clear hW0 ra rb hma hmb;go_enter Tryz.func125,Tryz.ntmps125
 go_upto_region 1 with fail
 rw[Qg.o];clear Qg;go_wp2_with fail
 go_loopw [5,6] (fun xv yv wr=>∃(a0:Option Addr) (l0 c0 X:Nat) (a1:Option Addr) (l1 c1 Y:Nat),xv=.slice a0 l0 c0∧yv=.slice a1 l1 c1∧Hid (RN wr (.slice a0 l0 c0) X)∧Hid (RN wr (.slice a1 l1 c1) Y)∧Hid (Nat.gcd X Y=Int.gcd x y)∧(l0≤100000000∧l1≤100000000)∧Below W0.heap.size W0 wr)
  (fun _ yv wr=>Jnr wr yv)
 case atStart=>exact⟨a,la,ca,x.natAbs,b,lb,cb,y.natAbs,rfl,rfl,Ja r0,Ja r1,Ja rfl,⟨Qf,Qe⟩,Below.refl _ W0⟩
 case round=>
  clear r0 r1 Qf Qe;obtain⟨a0,l0,c0,X,a1,l1,c1,Y,rfl,rfl,hX,hY,hG,⟨hl0,hl1⟩,hB⟩:=hrel;rcases AQ l1 with h0|h0
  · subst h0;have Qh:Y=0:=(JC (by omega)).1 (Ao (RN.len hY.o).symm);have HE:=Ja (show X=Int.gcd x y by rw[←hG.o,Qh,Nat.gcd_zero_right]);have Qa:=bR.below hB;have q0:=Qa.c0;have q1:=Qa.c1;have f0:=Qa.f0;have f1:=Qa.f1;clear Qh;go_wp2_with fail
    have Qb:=(Jig hX.o).box Qa rfl rfl (x0:=.slice a0 l0 c0) (x1:=.bool false);rw[HE.o]at Qb;have Qj:=Qd.trans (hB.mono Qd.size);have z0:=((Qa.set0 (.slice a0 l0 c0)).set1 (.bool false)).c0;have z1:=((Qa.set0 (.slice a0 l0 c0)).set1 (.bool false)).c1;exact bodyPost_ret (v:=.agg #[.slice a0 l0 c0,.bool false]) (by simp[results,Tryz.results125,go_sem,z0,z1]) rfl ⟨_,rfl,Qb,(Qj.setCell (p:=⟨_,0,none⟩) (by simp only;omega) _).setCell (p:=⟨_,1,none⟩) (by simp only;omega) _⟩
  · have Qi:Y≠0:=fun e=>by
     have h:=RN.len hY.o;rw[e,Jw]at h;simp at h;omega
    have Ql:=Ja (Jnq a0 l0 c0 a1 l1 c1 X Y wr hX.o hY.o Qi hl0 hl1);have Qc:=A4 X (show Y>0 by omega);go_wp2_with(go_at_call 157;refine Ql.o.mono ?_;rintro e w2 ⟨u,v,rfl,hu,hv,hb2⟩;obtain⟨ua,uc,rfl⟩:=RN.form hu;obtain⟨va,vc,rfl⟩:=RN.form hv)
    have Qk:=RN.below hY.o hb2;refine⟨⟨a1,l1,c1,Y,va,_,vc,X%Y,rfl,rfl,Ja Qk,Ja hv,Ja (by rw[←hG.o,C7 Y,←Nat.gcd_rec,C7]),⟨hl1,?_⟩,hB.trans (hb2.mono hB.size)⟩,?_⟩
    · have h1:=Jfj (Ft Qc);rw[←RN.len hY.o]at h1;omega
    · rw[RN.rowVal hv,RN.rowVal hY.o];exact Qc
theorem Jo8(w:World)(o0 o1 o2 o3:Value)(p0 p1:Value):
 Jk ((((w.alloc (.cells #[o0,o1] 47)).alloc (.cells #[o2,o3] 47)).alloc (.cells #[p0,p1] 47)).alloc (.cells #[p0,p1] 47)) w.heap.size 47 o0 o1∧
 Jk ((((w.alloc (.cells #[o0,o1] 47)).alloc (.cells #[o2,o3] 47)).alloc (.cells #[p0,p1] 47)).alloc (.cells #[p0,p1] 47)) (w.heap.size+1) 47 o2 o3∧
 Jk ((((w.alloc (.cells #[o0,o1] 47)).alloc (.cells #[o2,o3] 47)).alloc (.cells #[p0,p1] 47)).alloc (.cells #[p0,p1] 47)) (w.heap.size+1+1) 47 p0 p1∧
 Jk ((((w.alloc (.cells #[o0,o1] 47)).alloc (.cells #[o2,o3] 47)).alloc (.cells #[p0,p1] 47)).alloc (.cells #[p0,p1] 47)) (w.heap.size+1+1+1) 47 p0 p1:=by
 refine⟨(((Jk.new w _ _ _).alloc _).alloc _).alloc _,?_,?_,?_⟩
 · have h:=((Jk.new (w.alloc (.cells #[o0,o1] 47)) 47 o2 o3).alloc (.cells #[p0,p1] 47)).alloc (.cells #[p0,p1] 47);rw[World.size_alloc]at h;exact h
 · have h:=(Jk.new ((w.alloc (.cells #[o0,o1] 47)).alloc (.cells #[o2,o3] 47)) 47 p0 p1).alloc (.cells #[p0,p1] 47);rw[World.size_alloc,World.size_alloc]at h;exact h
 · have h:=Jk.new (((w.alloc (.cells #[o0,o1] 47)).alloc (.cells #[o2,o3] 47)).alloc (.cells #[p0,p1] 47)) 47 p0 p1;rw[World.size_alloc,World.size_alloc,World.size_alloc]at h;exact h
theorem Jq8{W:World}{a:Option Addr}{l c n:Nat}(h:RN W (.slice a l c) n)(m:Bool):Jo W (.agg #[.slice a l c,.bool (m&&decide (0<l))]) (if m=true then -(n:Int)else(n:Int)):=by
 have hl:=RN.len h;have hz:0<l↔n≠0:=by
  rw[hl];constructor
  · intro h1 h2;rw[h2,Jw]at h1;simp at h1
  · intro h1;exact AH.2 (fun e=>h1 ((JC (by omega)).1 e))
 cases m with
 |false=>
  refine⟨a,l,c,?_,by simp;exact h⟩;have:decide ((n:Int)<0)=false:=decide_eq_false (by omega);simp[this]
 |true=>
  refine⟨a,l,c,?_,by simp;exact h⟩;simp only[Bool.true_and,if_true];have:decide (0<l)=decide (-(n:Int)<0):=by
   by_cases hn:n=0
   · rw[decide_eq_false (fun h1=>hz.1 h1 hn),decide_eq_false (by omega)]
   · rw[decide_eq_true (hz.2 hn),decide_eq_true (by omega)]
  rw[this]
theorem Jq9(a:Option Addr)(la ca:Nat)(b:Option Addr)(lb cb X Y:Nat)(s t:Bool)(z r:Int)(w:World)(hu:RN w (.slice a la ca) X)(hv:RN w (.slice b lb cb) Y)(hY:Y≠0)(hla:la≤100000000)(hlb:lb≤100000000)
(HP:Hid (¬(s=true∧X%Y≠0)→(if(!(s==t))=true then -((X/Y:Nat):Int)else((X/Y:Nat):Int))=z∧((X%Y:Nat):Int)=r))
(HN:Hid (s=true∧X%Y≠0→(if(!(s==t))=true then -((X/Y+1:Nat):Int)else((X/Y+1:Nat):Int))=z∧((Y-X%Y:Nat):Int)=r)):
 Calls Tryz.prog 127 #[.agg #[.slice a la ca,.bool s],.agg #[.slice b lb cb,.bool t]] w fun e w'=>∃q o,e=.returned (.tuple #[q,o])∧Jo w' q z∧Jo w' o r∧Below w.heap.size w w':=by
 have Un:Tryz.prog.follows .mixedOrders=true:=by kernel_rfl
 obtain⟨b0,b1,b4,b5⟩:=Jo8 w (.slice a la ca) (.bool s) (.slice b lb cb) (.bool t) (.slice none 0 0) (.bool false);have Qo:=Jnm w (.cells #[.slice a la ca,.bool s] 47) (.cells #[.slice b lb cb,.bool t] 47) (.cells #[.slice none 0 0,.bool false] 47) (.cells #[.slice none 0 0,.bool false] 47);obtain⟨W0,hW0⟩:=ex ((((w.alloc (.cells #[.slice a la ca,.bool s] 47)).alloc (.cells #[.slice b lb cb,.bool t] 47)).alloc (.cells #[.slice none 0 0,.bool false] 47)).alloc (.cells #[.slice none 0 0,.bool false] 47));rw[hW0]at b0 b1 b4 b5 Qo;have Uh:=Ja hW0;have Uq:=RN.below hu Qo;have Ug:=RN.below hv Qo;have Uk:=Ja (Jnq a la ca b lb cb X Y W0 Uq Ug hY hla hlb);have Up:=Ja Ug;have Ur:=Ja (RN.len hu).symm;have k0:=b0.c0;have k1:=b0.c1;have k2:=b1.c0;have k3:=b1.c1;clear hW0 hu hv Uq Ug;go_enter Tryz.func127,Tryz.ntmps127
 go_upto_region 1 with fail
 rw[Uh.o];go_upto_region 2 with(go_at_call 157;refine Uk.o.mono ?_;rintro e w1 ⟨u1,v1,rfl,hu1,hv1,hb1⟩;obtain⟨ua,uc,rfl⟩:=RN.form hu1;obtain⟨va,vc,rfl⟩:=RN.form hv1)
 clear Uk Uh;obtain⟨lr,hlre⟩:=ex ((Jc 10000 (X%Y)).length);obtain⟨lq,hlqe⟩:=ex ((Jc 10000 (X/Y)).length);have Ui:=Ja (show lr=0↔X%Y=0 by
  rw[←hlre];exact⟨fun h=>(JC (by omega)).1 (Ao h),fun h=>by rw[h,Jw];rfl⟩)
 rw[hlre]at hv1 ⊢;rw[hlqe]at hu1 ⊢;have hlq:lq≤100000000:=by
  have h1:=Jfj (m:=X) (n:=X/Y) (C5 _ _);have h2:=Ur.o;omega
 have Uo:=Ja hlqe.symm;clear hlre hlqe;have k0:=(b0.below hb1).c0;have k1:=(b0.below hb1).c1;have k2:=(b1.below hb1).c0;have k3:=(b1.below hb1).c1;have Qt:=Ja (Jdq ua lq uc (!(s==t)) w1);go_upto_region 3 with(go_at_call 141;refine Qt.o.mono ?_;rintro e w2 ⟨rfl,hb2⟩)
 obtain⟨m8,hm8⟩:=ex (((!(s==t))&&decide (0<lq)):Bool);have hI:=Jq8 (RN.below hu1 hb2) (!(s==t));rw[hm8]at hI ⊢;obtain⟨W3,hW3⟩:=ex (w2.alloc (.cells #[.slice ua lq uc,.bool m8] 47));have Qv:Below w2.heap.size w2 W3:=by rw[←hW3];exact(Below.refl _ w2).alloc (Aa _) _
 have b8:Jk W3 w2.heap.size 47 (.slice ua lq uc) (.bool m8):=by rw[←hW3];exact Jk.new w2 _ _ _
 have Ql:Below w1.heap.size w1 W3:=hb2.trans (Qv.mono hb2.size);have Qh:Below W0.heap.size W0 W3:=hb1.trans (Ql.mono hb1.size);have Ub:=hI.below Qv;have Ul:=RN.below hv1 Ql;have Qg:=Qo.trans (Qh.mono Qo.size);obtain⟨B8,hB8⟩:=ex (w2.heap.size);have hB8w:w.heap.size+1+1+1<B8:=by
  have h1:=(b5.below (hb1.trans (hb2.mono hb1.size))).lt;omega
 rw[hW3];rw[hB8]at b8 ⊢;clear hW3 hB8 hm8 hI Qt;have p0:=b0.below Qh;have p1:=b1.below Qh;have p4:=b4.below Qh;have p5:=b5.below Qh;clear b0 b1 b4 b5 k0 k1 k2 k3;have k0:=p0.c0;have k1:=p0.c1;have k2:=p1.c0;have k3:=p1.c1;have k8:=b8.c0;have k9:=b8.c1;have q0:=p4.c0;have q1:=p4.c1;have q2:=p5.c0;have q3:=p5.c1;have f0:=p4.f0;have f1:=p4.f1;have f2:=p5.f0;have f3:=p5.f1;obtain⟨cd,hcd⟩:=ex ((!s || decide (lr=0)):Bool);have Qi:=Ja hcd;clear hcd;go_cut [31] (fun v w4=>v=.bool cd∧w4=W3)
 case first=>
  cases s with
  |false=>
   have e5:cd=true:=by rw[←Qi.o];rfl
   go_wp2_with fail
   go_meet
   case rel=>exact⟨by rw[e5],rfl⟩
  |true=>
   by_cases h5:lr=0
   · have e5:cd=true:=by rw[←Qi.o];simp;omega
     have h6:((lr:Int)==0)=true:=by simp;omega
     clear h5;go_wp2_with fail
     go_meet
     case rel=>exact⟨by rw[e5],rfl⟩
   · have e5:cd=false:=by rw[←Qi.o];simp;omega
     have h6:((lr:Int)==0)=false:=by simp;omega
     clear h5;go_wp2_with fail
     go_meet
     case rel=>exact⟨by rw[e5],rfl⟩
 case rest=>
  obtain⟨rfl,rfl⟩:=hcut;cases cd with
  |true=>
   have hc:¬(s=true∧X%Y≠0):=fun⟨h1,h2⟩=>by
    have h:=Qi.o;rw[h1]at h;simp at h;exact h2 (Ui.o.1 h)
   obtain⟨z1,z2⟩:=HP.o hc;rw[z1]at Ub;have Qt:=Ja (Jdq va lr vc s);have Uj:(s&&decide (0<lr))=false:=by
    have h:=Qi.o;cases s with
    |false=>rfl
    |true=>simp at h;simp;omega
   rw[Uj]at Qt;have Qw:=Ja z2;clear Uj z1 z2 hc;go_wp2_with fail
   go_region_with (first
    |(go_at_call 141;refine(Qt.o _).mono ?_;rintro e w5 ⟨rfl,hb5⟩;have k8:=((b8.drew).below hb5).c0;have k9:=((b8.drew).below hb5).c1;have q0:=((p4.drew).below hb5).c0;have q1:=((p4.drew).below hb5).c1;have q2:=((p5.drew).below hb5).c0;have q3:=((p5.drew).below hb5).c1;have f0:=((p4.drew).below hb5).f0;have f1:=((p4.drew).below hb5).f1;have f2:=((p5.drew).below hb5).f0;have f3:=((p5.drew).below hb5).f1))
   all_goals
    go_wp2_with fail
    have Qk:Below wc.heap.size wc w5:=((Below.refl _ wc).drew).trans (hb5.mono (Aa _));have Qb:=p4.below Qk;have Qe:=p5.below Qk;obtain⟨z4,z5⟩:=Jfy (.slice ua lq uc) (.bool m8) (.slice va lr vc) (.bool false) Qb Qe;have Qs:=z4.c0;have Qp:=z4.c1;have Qu:=z5.c0;have Qq:=z5.c1;have Qd:Jk ((w5.setCell ⟨w.heap.size+1+1,0,none⟩ (.slice ua lq uc)).setCell ⟨w.heap.size+1+1,1,none⟩ (.bool m8)) (w.heap.size+1+1+1) 47 (.slice none 0 0) (.bool false):=(Qe.far (by simp) _).far (by simp) _;have Qc:=(Jig Ul).below Qk;rw[Qw.o]at Qc;have Qn:=((Ub.below Qk).box Qb rfl rfl (x0:=.slice ua lq uc) (x1:=.bool m8)).box Qd rfl rfl (x0:=.slice va lr vc) (x1:=.bool false);have Qj:=(Qc.box Qb rfl rfl (x0:=.slice ua lq uc) (x1:=.bool m8)).box Qd rfl rfl (x0:=.slice va lr vc) (x1:=.bool false);have Qm:=Qg.trans (Qk.mono Qg.size);exact bodyPost_ret (v:=.tuple #[.agg #[.slice ua lq uc,.bool m8],.agg #[.slice va lr vc,.bool false]]) (by simp[results,Tryz.results127,go_sem,Qs,Qp,Qu,Qq]) rfl ⟨_,_,rfl,Qn,Qj,(((Qm.setCell (p:=⟨_,0,none⟩) (by simp only;omega) _).setCell (p:=⟨_,1,none⟩) (by simp only;omega) _).setCell (p:=⟨_,0,none⟩) (by simp only;omega) _).setCell (p:=⟨_,1,none⟩) (by simp only;omega) _⟩
  |false=>
   have hc:s=true∧X%Y≠0:=by
    have h:=Qi.o;simp at h;exact⟨h.1,fun e=>h.2 (Ui.o.2 e)⟩
   obtain⟨z1,z2⟩:=HN.o hc;rw[hc.1]at z1;have Um:Jo wc (.agg #[.slice ua lq uc,.bool m8]) (if(!(true==t))=true then -((X/Y:Nat):Int)else((X/Y:Nat):Int)):=by have h:=Ub;rw[hc.1]at h;exact h
   have Qy:=Ja Um;have Qx:=Ja z1;have Qw:=Ja z2;have hmod:=A4 X (show Y>0 by omega);have Ua:=Ja (Jja 1 (by omega) (by omega));have Qz:=Ja (fun(V:World) (h:Below wc.heap.size wc V)=>Jfs _ _ Y (X%Y) V (RN.below (RN.below Up.o Qh) h) (RN.below Ul h) (by omega) (by rw[←RN.len Up.o];omega));clear hc Um z1 z2 Ub;cases t with
   |true=>
    have Ud:=Ja (show ∀(V:World) (u:Value),Below wc.heap.size wc V→Jo V u 1→Calls Tryz.prog 108 #[.agg #[.slice ua lq uc,.bool m8],u] V fun e w'=>∃u,e=.returned u∧Jo w' u z∧Below V.heap.size V w' from fun V u h hu=>by
     have hx:=Qy.o.below h;simp only[beq_self_eq_true,Bool.not_true,A6,if_false]at hx;have h1:=Jp5 _ u _ 1 V hx hu (by unfold szB;rw[Ch,←Uo.o];omega) (Jfx (by omega) (by omega));have h2:=Qx.o;simp only[beq_self_eq_true,Bool.not_true,A6,if_false]at h2;rw[show((X/Y:Nat):Int)+1=z from by rw[←h2];push_cast;rfl]at h1;exact h1)
    clear Qy Qx HN HP;go_upto_region 6 with fail
    refine Jr Un [[],[],[0,1,1],[],[3],[],[4,5,2],[6],[2,6,0,1,2],[7,8,0,1,2,3,4,5,6,7,8]] (by kernel_rfl) (by decide)
     (fun DD ac V=>∃t39 t40 t41 t42 t43 t44 t45 t46:Value,ac={ tmps:=#[.agg #[.slice a la ca,.bool s],.agg #[.slice b lb cb,.bool true],.pointer (some ⟨w.heap.size,0,none⟩),.pointer (some ⟨w.heap.size+1,0,none⟩),.pointer (some ⟨w.heap.size+1+1,0,none⟩),.pointer (some ⟨w.heap.size+1+1+1,0,none⟩),.slice ua lq uc,.slice va lr vc,.pointer (some ⟨B8,0,none⟩),u9,u10,u11,u12,u13,u14,u15,u16,u17,u18,u19,u20,u21,u22,u23,u24,u25,u26,u27,u28,u29,u30,.bool false,u32,u33,u34,u35,u36,.pointer (some ⟨w.heap.size+1,1,none⟩),.bool true,t39,t40,t41,t42,t43,t44,t45,t46,u47,u48,u49,u50,u51,u52,u53,u54],defers:=[] }∧Hid (DD 0=true→t39=.agg #[.slice ua lq uc,.bool m8])∧Hid (DD 1=true→DD 8=false→Jo V t40 1)∧Hid (DD 2=true→DD 8=false→∃a5 l5 c5 s5,t41=.agg #[.slice a5 l5 c5,.bool s5]∧Jo V t41 z)∧Hid (DD 3=true→t42=.pointer (some ⟨w.heap.size+1,0,none⟩))∧Hid (DD 4=true→t43=.slice b lb cb)∧Hid (DD 5=true→t44=.slice va lr vc)∧Hid (DD 6=true→DD 8=false→∃a6 l6 c6,t45=.slice a6 l6 c6∧RN V t45 (Y-X%Y))∧Hid (DD 7=true→∃a6 l6 c6,t45=.slice a6 l6 c6∧t46=.agg #[.slice a6 l6 c6,.bool false])∧Hid (DD 8=true→∃V0 a5 l5 c5 s5 a6 l6 c6,t41=.agg #[.slice a5 l5 c5,.bool s5]∧t45=.slice a6 l6 c6∧Jo V0 (.agg #[.slice a5 l5 c5,.bool s5]) z∧RN V0 (.slice a6 l6 c6) (Y-X%Y)∧Below wc.heap.size wc V0∧(DD 9=false→V=((V0.setCell ⟨w.heap.size+1+1,0,none⟩ (.slice a5 l5 c5)).setCell ⟨w.heap.size+1+1,1,none⟩ (.bool s5)))∧(DD 9=true→V=(((V0.setCell ⟨w.heap.size+1+1,0,none⟩ (.slice a5 l5 c5)).setCell ⟨w.heap.size+1+1,1,none⟩ (.bool s5)).setCell ⟨w.heap.size+1+1+1,0,none⟩ (.slice a6 l6 c6)).setCell ⟨w.heap.size+1+1+1,1,none⟩ (.bool false)))∧Hid (DD 8=false→Below wc.heap.size wc V))
     (E8 ⟨rfl,Ja (fun h=>by cases h),Ja (fun h=>by cases h),Ja (fun h=>by cases h),Ja (fun h=>by cases h),Ja (fun h=>by cases h),Ja (fun h=>by cases h),Ja (fun h=>by cases h),Ja (fun h=>by cases h),Ja (fun h=>by cases h),Ja (fun _=>(Below.refl _ wc).drew)⟩) ?step ?fin
    case step=>
     rintro DD a2 V i ds hcl2 hi2 hds hDi ⟨t39,t40,t41,t42,t43,t44,t45,t46,rfl,g0,g1,g2,g3,g4,g5,g6,g7,g8,gq⟩;have Qf:i<10:=(Ad.1 hi2).1;obtain rfl|rfl|rfl|rfl|rfl|rfl|rfl|rfl|rfl|rfl:=Lt10 i (by omega)
     all_goals
      simp only[Aj,Ah,Ak]at hi2;subst hi2;clear Qf
     · have Qa:DD 8=false:=by
        cases h:DD 8 with
        |false=>rfl
        |true=>rw[hcl2 8 _ rfl h 0 (by simp)]at hDi;cases hDi
       have hq:=gq.o Qa;have k8:=(b8.below hq).c0;have k9:=(b8.below hq).c1;clear hds hcl2;refine Js rfl rfl fun K hK=>?_;go_simp;exact hK _ _ (E8 ⟨rfl,Ja (fun _=>rfl),g1,g2,g3,g4,g5,g6,g7,Ja (fun h=>by simp[Qa]at h),gq⟩)
     · have Qa:DD 8=false:=by
        cases h:DD 8 with
        |false=>rfl
        |true=>rw[hcl2 8 _ rfl h 1 (by simp)]at hDi;cases hDi
       have Ue:DD 2=false:=by
        cases h:DD 2 with
        |false=>rfl
        |true=>rw[hcl2 2 _ rfl h 1 (by simp)]at hDi;cases hDi
       have hq:=gq.o Qa;clear hds hcl2;refine Js rfl rfl fun K hK=>?_;go_simp;go_wp2_with(go_at_call 93;refine(Ua.o _).mono ?_;rintro e w5 ⟨u5,rfl,hu5,hb5⟩)
       exact⟨_,_,_,_,_,_,_,_,rfl,g0,Ja (fun _ _=>hu5),Ja (fun h=>by simp[Ue]at h),g3,g4,g5,Ja (fun h h2=>by obtain⟨a6,l6,c6,e,q⟩:=g6.o h h2;exact⟨a6,l6,c6,e,RN.below q hb5⟩),g7,Ja (fun h=>by simp[Qa]at h),Ja (fun _=>hq.trans (hb5.mono hq.size))⟩
     · have Qa:DD 8=false:=by
        cases h:DD 8 with
        |false=>rfl
        |true=>rw[hcl2 8 _ rfl h 2 (by simp)]at hDi;cases hDi
       have hq:=gq.o Qa;obtain rfl:=g0.o (hds 0 (by simp));have h1:=g1.o (hds 1 (by simp)) Qa;clear hds hcl2;refine Js rfl rfl fun K hK=>?_;go_simp;go_wp2_with(go_at_call 108;refine(Ud.o _ _ hq h1).mono ?_;rintro e w5 ⟨u5,rfl,hu5,hb5⟩;obtain⟨a5,l5,c5,rfl⟩:=hu5.form;obtain⟨s5,hs5⟩:=ex (decide (z<0));rw[hs5]at hu5;rw[hs5];clear hs5)
       exact E8 ⟨rfl,Ja (fun _=>rfl),Ja (fun h h2=>(g1.o h h2).below hb5),Ja (fun _ _=>⟨a5,l5,c5,s5,rfl,hu5⟩),g3,g4,g5,Ja (fun h h2=>by obtain⟨a6,l6,c6,e,q⟩:=g6.o h h2;exact⟨a6,l6,c6,e,RN.below q hb5⟩),g7,Ja (fun h=>by simp[Qa]at h),Ja (fun _=>hq.trans (hb5.mono hq.size))⟩
     · clear hds hcl2;refine Js rfl rfl fun K hK=>?_;go_simp;exact hK _ _ ⟨_,_,_,_,_,_,_,_,rfl,g0,g1,g2,Ja (fun _=>rfl),g4,g5,g6,g7,g8,gq⟩
     · have Qr:DD 6=false:=by
        cases h:DD 6 with
        |false=>rfl
        |true=>rw[hcl2 6 _ rfl h 4 (by simp)]at hDi;cases hDi
       have Qa:DD 8=false:=by
        cases h:DD 8 with
        |false=>rfl
        |true=>rw[hcl2 8 _ rfl h 6 (by simp)]at Qr;cases Qr
       have hq:=gq.o Qa;obtain rfl:=g3.o (hds 3 (by simp));have k2:=(p1.below hq).c0;clear hds hcl2;refine Js rfl rfl fun K hK=>?_;go_simp;exact hK _ _ ⟨_,_,_,_,_,_,_,_,rfl,g0,g1,g2,Ja (fun _=>rfl),Ja (fun _=>rfl),g5,g6,g7,Ja (fun h=>by simp[Qa]at h),gq⟩
     · clear hds hcl2;refine Js rfl rfl fun K hK=>?_;go_simp;exact hK _ _ ⟨_,_,_,_,_,_,_,_,rfl,g0,g1,g2,g3,g4,Ja (fun _=>rfl),g6,g7,g8,gq⟩
     · have Qa:DD 8=false:=by
        cases h:DD 8 with
        |false=>rfl
        |true=>rw[hcl2 8 _ rfl h 6 (by simp)]at hDi;cases hDi
       have Uc:DD 7=false:=by
        cases h:DD 7 with
        |false=>rfl
        |true=>rw[hcl2 7 _ rfl h 6 (by simp)]at hDi;cases hDi
       have hq:=gq.o Qa;obtain rfl:=g4.o (hds 4 (by simp));obtain rfl:=g5.o (hds 5 (by simp));clear hds hcl2;refine Js rfl rfl fun K hK=>?_;go_simp;go_wp2_with(go_at_call 144;refine(Qz.o _ hq).mono ?_;rintro e w5 ⟨u5,rfl,hu5,hb5⟩;obtain⟨a6,c6,rfl⟩:=RN.form hu5)
       exact⟨_,_,_,_,_,_,_,_,rfl,g0,Ja (fun h h2=>(g1.o h h2).below hb5),Ja (fun h h2=>by obtain⟨a5,l5,c5,s5,e,q⟩:=g2.o h h2;exact⟨a5,l5,c5,s5,e,q.below hb5⟩),g3,Ja (fun _=>rfl),Ja (fun _=>rfl),Ja (fun _ _=>⟨_,_,_,rfl,hu5⟩),Ja (fun h=>by simp[Uc]at h),Ja (fun h=>by simp[Qa]at h),Ja (fun _=>hq.trans (hb5.mono hq.size))⟩
     · obtain⟨a6,l6,c6,e6⟩:∃a6 l6 c6,t45=.slice a6 l6 c6:=by
        cases h8:DD 8 with
        |false=>obtain⟨a6,l6,c6,e,_⟩:=g6.o (hds 6 (by simp)) h8;exact⟨a6,l6,c6,e⟩
        |true=>obtain⟨_,_,_,_,_,a6,l6,c6,_,e,_⟩:=g8.o h8;exact⟨a6,l6,c6,e⟩
       obtain rfl:=e6;clear hds hcl2;refine Js rfl rfl fun K hK=>?_;go_simp;exact hK _ _ ⟨_,_,_,_,_,_,_,_,rfl,g0,g1,g2,g3,g4,g5,g6,Ja (fun _=>⟨a6,l6,c6,rfl,rfl⟩),g8,gq⟩
     · have Uf:DD 9=false:=by
        cases h:DD 9 with
        |false=>rfl
        |true=>rw[hcl2 9 _ rfl h 8 (by simp)]at hDi;cases hDi
       have hq:=gq.o hDi;obtain⟨a5,l5,c5,s5,e5,h5⟩:=g2.o (hds 2 (by simp)) hDi;obtain⟨a6,l6,c6,e6,h6⟩:=g6.o (hds 6 (by simp)) hDi;obtain rfl:=e5;obtain rfl:=e6;have q0:=(p4.below hq).c0;have q1:=(p4.below hq).c1;have f0:=(p4.below hq).f0;have f1:=(p4.below hq).f1;clear g1 g2 g6;clear hds hcl2;refine Js rfl rfl fun K hK=>?_;go_simp;exact hK _ _ ⟨_,_,_,_,_,_,_,_,rfl,g0,Ja (fun _ h=>by simp at h),Ja (fun _ h=>by simp at h),g3,g4,g5,Ja (fun _ h=>by simp at h),g7,Ja (fun _=>⟨V,a5,l5,c5,s5,a6,l6,c6,rfl,rfl,h5,h6,hq,fun _=>rfl,fun h=>by simp[Uf]at h⟩),Ja (fun h=>by simp at h)⟩
     · obtain⟨V0,a5,l5,c5,s5,a6,l6,c6,e5,e6,h5,h6,hq,hV,_⟩:=g8.o (hds 8 (by simp));obtain rfl:=hV hDi;obtain⟨a7,l7,c7,e7,e8⟩:=g7.o (hds 7 (by simp));obtain rfl:=e8;obtain rfl:=e6;cases e7;obtain rfl:=e5;have bb:=((p5.below hq).far (p:=⟨w.heap.size+1+1,0,none⟩) (by simp) (.slice a5 l5 c5)).far (p:=⟨w.heap.size+1+1,1,none⟩) (by simp) (.bool s5);have q0:=bb.c0;have q1:=bb.c1;have f0:=bb.f0;have f1:=bb.f1;have h8:=hds 8 (by simp);clear hV;clear hds hcl2;refine Js rfl rfl fun K hK=>?_;go_simp;exact hK _ _ ⟨_,_,_,_,_,_,_,_,rfl,g0,Ja (fun _ h=>by simp[h8]at h),Ja (fun _ h=>by simp[h8]at h),g3,g4,g5,Ja (fun _ h=>by simp[h8]at h),Ja (fun _=>⟨_,_,_,rfl,rfl⟩),Ja (fun _=>⟨V0,a5,l5,c5,s5,a6,l6,c6,rfl,rfl,h5,h6,hq,fun h=>by simp at h,fun _=>rfl⟩),Ja (fun h=>by simp[h8]at h)⟩
    case fin=>
     rintro DD a2 V hDD ⟨t39,t40,t41,t42,t43,t44,t45,t46,rfl,g0,g1,g2,g3,g4,g5,g6,g7,g8,gq⟩;obtain⟨V0,a5,l5,c5,s5,a6,l6,c6,e5,e6,h5,h6,hq,_,hV⟩:=g8.o (hDD 8 (by decide));obtain rfl:=hV (hDD 9 (by decide));clear g0 g1 g2 g3 g4 g5 g6 g7 g8 gq hDD hV e5 e6 Qz Ua;go_wp2_with fail
     have Qb:=p4.below hq;have Qe:=p5.below hq;obtain⟨z4,z5⟩:=Jfy (.slice a5 l5 c5) (.bool s5) (.slice a6 l6 c6) (.bool false) Qb Qe;have Qs:=z4.c0;have Qp:=z4.c1;have Qu:=z5.c0;have Qq:=z5.c1;have Qd:Jk ((V0.setCell ⟨w.heap.size+1+1,0,none⟩ (.slice a5 l5 c5)).setCell ⟨w.heap.size+1+1,1,none⟩ (.bool s5)) (w.heap.size+1+1+1) 47 (.slice none 0 0) (.bool false):=(Qe.far (by simp) _).far (by simp) _;have Qc:=Jig h6;rw[Qw.o]at Qc;have Qn:=(h5.box Qb rfl rfl (x0:=.slice a5 l5 c5) (x1:=.bool s5)).box Qd rfl rfl (x0:=.slice a6 l6 c6) (x1:=.bool false);have Qj:=(Qc.box Qb rfl rfl (x0:=.slice a5 l5 c5) (x1:=.bool s5)).box Qd rfl rfl (x0:=.slice a6 l6 c6) (x1:=.bool false);have Qm:=Qg.trans (hq.mono Qg.size);exact bodyPost_ret (v:=.tuple #[.agg #[.slice a5 l5 c5,.bool s5],.agg #[.slice a6 l6 c6,.bool false]]) (by simp[results,Tryz.results127,go_sem,Qs,Qp,Qu,Qq]) rfl ⟨_,_,rfl,Qn,Qj,(((Qm.setCell (p:=⟨_,0,none⟩) (by simp only;omega) _).setCell (p:=⟨_,1,none⟩) (by simp only;omega) _).setCell (p:=⟨_,0,none⟩) (by simp only;omega) _).setCell (p:=⟨_,1,none⟩) (by simp only;omega) _⟩
   |false=>
    have Ud:=Ja (show ∀(V:World) (u:Value),Below wc.heap.size wc V→Jo V u 1→Calls Tryz.prog 158 #[.agg #[.slice ua lq uc,.bool m8],u] V fun e w'=>∃u,e=.returned u∧Jo w' u z∧Below V.heap.size V w' from fun V u h hu=>by
     have hx:=Qy.o.below h;rw[if_pos (by rfl)]at hx;have h1:=Js5 _ u _ 1 V hx hu (by unfold szB;rw[C9,Ch,←Uo.o];omega) (Jfx (by omega) (by omega));have h2:=Qx.o;rw[if_pos (by rfl)]at h2;rw[show -((X/Y:Nat):Int)-1=z from by rw[←h2];push_cast;omega]at h1;exact h1)
    clear Qy Qx HN HP;go_upto_region 7 with fail
    refine Jr Un [[],[],[0,1,1],[],[3],[],[4,5,2],[6],[2,6,0,1,2],[7,8,0,1,2,3,4,5,6,7,8]] (by kernel_rfl) (by decide)
     (fun DD ac V=>∃t47 t48 t49 t50 t51 t52 t53 t54:Value,ac={ tmps:=#[.agg #[.slice a la ca,.bool s],.agg #[.slice b lb cb,.bool false],.pointer (some ⟨w.heap.size,0,none⟩),.pointer (some ⟨w.heap.size+1,0,none⟩),.pointer (some ⟨w.heap.size+1+1,0,none⟩),.pointer (some ⟨w.heap.size+1+1+1,0,none⟩),.slice ua lq uc,.slice va lr vc,.pointer (some ⟨B8,0,none⟩),u9,u10,u11,u12,u13,u14,u15,u16,u17,u18,u19,u20,u21,u22,u23,u24,u25,u26,u27,u28,u29,u30,.bool false,u32,u33,u34,u35,u36,.pointer (some ⟨w.heap.size+1,1,none⟩),.bool false,u39,u40,u41,u42,u43,u44,u45,u46,t47,t48,t49,t50,t51,t52,t53,t54],defers:=[] }∧Hid (DD 0=true→t47=.agg #[.slice ua lq uc,.bool m8])∧Hid (DD 1=true→DD 8=false→Jo V t48 1)∧Hid (DD 2=true→DD 8=false→∃a5 l5 c5 s5,t49=.agg #[.slice a5 l5 c5,.bool s5]∧Jo V t49 z)∧Hid (DD 3=true→t50=.pointer (some ⟨w.heap.size+1,0,none⟩))∧Hid (DD 4=true→t51=.slice b lb cb)∧Hid (DD 5=true→t52=.slice va lr vc)∧Hid (DD 6=true→DD 8=false→∃a6 l6 c6,t53=.slice a6 l6 c6∧RN V t53 (Y-X%Y))∧Hid (DD 7=true→∃a6 l6 c6,t53=.slice a6 l6 c6∧t54=.agg #[.slice a6 l6 c6,.bool false])∧Hid (DD 8=true→∃V0 a5 l5 c5 s5 a6 l6 c6,t49=.agg #[.slice a5 l5 c5,.bool s5]∧t53=.slice a6 l6 c6∧Jo V0 (.agg #[.slice a5 l5 c5,.bool s5]) z∧RN V0 (.slice a6 l6 c6) (Y-X%Y)∧Below wc.heap.size wc V0∧(DD 9=false→V=((V0.setCell ⟨w.heap.size+1+1,0,none⟩ (.slice a5 l5 c5)).setCell ⟨w.heap.size+1+1,1,none⟩ (.bool s5)))∧(DD 9=true→V=(((V0.setCell ⟨w.heap.size+1+1,0,none⟩ (.slice a5 l5 c5)).setCell ⟨w.heap.size+1+1,1,none⟩ (.bool s5)).setCell ⟨w.heap.size+1+1+1,0,none⟩ (.slice a6 l6 c6)).setCell ⟨w.heap.size+1+1+1,1,none⟩ (.bool false)))∧Hid (DD 8=false→Below wc.heap.size wc V))
     (E8 ⟨rfl,Ja (fun h=>by cases h),Ja (fun h=>by cases h),Ja (fun h=>by cases h),Ja (fun h=>by cases h),Ja (fun h=>by cases h),Ja (fun h=>by cases h),Ja (fun h=>by cases h),Ja (fun h=>by cases h),Ja (fun h=>by cases h),Ja (fun _=>(Below.refl _ wc).drew)⟩) ?step ?fin
    case step=>
     rintro DD a2 V i ds hcl2 hi2 hds hDi ⟨t47,t48,t49,t50,t51,t52,t53,t54,rfl,g0,g1,g2,g3,g4,g5,g6,g7,g8,gq⟩;have Qf:i<10:=(Ad.1 hi2).1;obtain rfl|rfl|rfl|rfl|rfl|rfl|rfl|rfl|rfl|rfl:=Lt10 i (by omega)
     all_goals
      simp only[Aj,Ah,Ak]at hi2;subst hi2;clear Qf
     · have Qa:DD 8=false:=by
        cases h:DD 8 with
        |false=>rfl
        |true=>rw[hcl2 8 _ rfl h 0 (by simp)]at hDi;cases hDi
       have hq:=gq.o Qa;have k8:=(b8.below hq).c0;have k9:=(b8.below hq).c1;clear hds hcl2;refine Js rfl rfl fun K hK=>?_;go_simp;exact hK _ _ (E8 ⟨rfl,Ja (fun _=>rfl),g1,g2,g3,g4,g5,g6,g7,Ja (fun h=>by simp[Qa]at h),gq⟩)
     · have Qa:DD 8=false:=by
        cases h:DD 8 with
        |false=>rfl
        |true=>rw[hcl2 8 _ rfl h 1 (by simp)]at hDi;cases hDi
       have Ue:DD 2=false:=by
        cases h:DD 2 with
        |false=>rfl
        |true=>rw[hcl2 2 _ rfl h 1 (by simp)]at hDi;cases hDi
       have hq:=gq.o Qa;clear hds hcl2;refine Js rfl rfl fun K hK=>?_;go_simp;go_wp2_with(go_at_call 93;refine(Ua.o _).mono ?_;rintro e w5 ⟨u5,rfl,hu5,hb5⟩)
       exact⟨_,_,_,_,_,_,_,_,rfl,g0,Ja (fun _ _=>hu5),Ja (fun h=>by simp[Ue]at h),g3,g4,g5,Ja (fun h h2=>by obtain⟨a6,l6,c6,e,q⟩:=g6.o h h2;exact⟨a6,l6,c6,e,RN.below q hb5⟩),g7,Ja (fun h=>by simp[Qa]at h),Ja (fun _=>hq.trans (hb5.mono hq.size))⟩
     · have Qa:DD 8=false:=by
        cases h:DD 8 with
        |false=>rfl
        |true=>rw[hcl2 8 _ rfl h 2 (by simp)]at hDi;cases hDi
       have hq:=gq.o Qa;obtain rfl:=g0.o (hds 0 (by simp));have h1:=g1.o (hds 1 (by simp)) Qa;clear hds hcl2;refine Js rfl rfl fun K hK=>?_;go_simp;go_wp2_with(go_at_call 158;refine(Ud.o _ _ hq h1).mono ?_;rintro e w5 ⟨u5,rfl,hu5,hb5⟩;obtain⟨a5,l5,c5,rfl⟩:=hu5.form;obtain⟨s5,hs5⟩:=ex (decide (z<0));rw[hs5]at hu5;rw[hs5];clear hs5)
       exact E8 ⟨rfl,Ja (fun _=>rfl),Ja (fun h h2=>(g1.o h h2).below hb5),Ja (fun _ _=>⟨a5,l5,c5,s5,rfl,hu5⟩),g3,g4,g5,Ja (fun h h2=>by obtain⟨a6,l6,c6,e,q⟩:=g6.o h h2;exact⟨a6,l6,c6,e,RN.below q hb5⟩),g7,Ja (fun h=>by simp[Qa]at h),Ja (fun _=>hq.trans (hb5.mono hq.size))⟩
     · clear hds hcl2;refine Js rfl rfl fun K hK=>?_;go_simp;exact hK _ _ ⟨_,_,_,_,_,_,_,_,rfl,g0,g1,g2,Ja (fun _=>rfl),g4,g5,g6,g7,g8,gq⟩
     · have Qr:DD 6=false:=by
        cases h:DD 6 with
        |false=>rfl
        |true=>rw[hcl2 6 _ rfl h 4 (by simp)]at hDi;cases hDi
       have Qa:DD 8=false:=by
        cases h:DD 8 with
        |false=>rfl
        |true=>rw[hcl2 8 _ rfl h 6 (by simp)]at Qr;cases Qr
       have hq:=gq.o Qa;obtain rfl:=g3.o (hds 3 (by simp));have k2:=(p1.below hq).c0;clear hds hcl2;refine Js rfl rfl fun K hK=>?_;go_simp;exact hK _ _ ⟨_,_,_,_,_,_,_,_,rfl,g0,g1,g2,Ja (fun _=>rfl),Ja (fun _=>rfl),g5,g6,g7,Ja (fun h=>by simp[Qa]at h),gq⟩
     · clear hds hcl2;refine Js rfl rfl fun K hK=>?_;go_simp;exact hK _ _ ⟨_,_,_,_,_,_,_,_,rfl,g0,g1,g2,g3,g4,Ja (fun _=>rfl),g6,g7,g8,gq⟩
     · have Qa:DD 8=false:=by
        cases h:DD 8 with
        |false=>rfl
        |true=>rw[hcl2 8 _ rfl h 6 (by simp)]at hDi;cases hDi
       have Uc:DD 7=false:=by
        cases h:DD 7 with
        |false=>rfl
        |true=>rw[hcl2 7 _ rfl h 6 (by simp)]at hDi;cases hDi
       have hq:=gq.o Qa;obtain rfl:=g4.o (hds 4 (by simp));obtain rfl:=g5.o (hds 5 (by simp));clear hds hcl2;refine Js rfl rfl fun K hK=>?_;go_simp;go_wp2_with(go_at_call 144;refine(Qz.o _ hq).mono ?_;rintro e w5 ⟨u5,rfl,hu5,hb5⟩;obtain⟨a6,c6,rfl⟩:=RN.form hu5)
       exact⟨_,_,_,_,_,_,_,_,rfl,g0,Ja (fun h h2=>(g1.o h h2).below hb5),Ja (fun h h2=>by obtain⟨a5,l5,c5,s5,e,q⟩:=g2.o h h2;exact⟨a5,l5,c5,s5,e,q.below hb5⟩),g3,Ja (fun _=>rfl),Ja (fun _=>rfl),Ja (fun _ _=>⟨_,_,_,rfl,hu5⟩),Ja (fun h=>by simp[Uc]at h),Ja (fun h=>by simp[Qa]at h),Ja (fun _=>hq.trans (hb5.mono hq.size))⟩
     · obtain⟨a6,l6,c6,e6⟩:∃a6 l6 c6,t53=.slice a6 l6 c6:=by
        cases h8:DD 8 with
        |false=>obtain⟨a6,l6,c6,e,_⟩:=g6.o (hds 6 (by simp)) h8;exact⟨a6,l6,c6,e⟩
        |true=>obtain⟨_,_,_,_,_,a6,l6,c6,_,e,_⟩:=g8.o h8;exact⟨a6,l6,c6,e⟩
       obtain rfl:=e6;clear hds hcl2;refine Js rfl rfl fun K hK=>?_;go_simp;exact hK _ _ ⟨_,_,_,_,_,_,_,_,rfl,g0,g1,g2,g3,g4,g5,g6,Ja (fun _=>⟨a6,l6,c6,rfl,rfl⟩),g8,gq⟩
     · have Uf:DD 9=false:=by
        cases h:DD 9 with
        |false=>rfl
        |true=>rw[hcl2 9 _ rfl h 8 (by simp)]at hDi;cases hDi
       have hq:=gq.o hDi;obtain⟨a5,l5,c5,s5,e5,h5⟩:=g2.o (hds 2 (by simp)) hDi;obtain⟨a6,l6,c6,e6,h6⟩:=g6.o (hds 6 (by simp)) hDi;obtain rfl:=e5;obtain rfl:=e6;have q0:=(p4.below hq).c0;have q1:=(p4.below hq).c1;have f0:=(p4.below hq).f0;have f1:=(p4.below hq).f1;clear g1 g2 g6;clear hds hcl2;refine Js rfl rfl fun K hK=>?_;go_simp;exact hK _ _ ⟨_,_,_,_,_,_,_,_,rfl,g0,Ja (fun _ h=>by simp at h),Ja (fun _ h=>by simp at h),g3,g4,g5,Ja (fun _ h=>by simp at h),g7,Ja (fun _=>⟨V,a5,l5,c5,s5,a6,l6,c6,rfl,rfl,h5,h6,hq,fun _=>rfl,fun h=>by simp[Uf]at h⟩),Ja (fun h=>by simp at h)⟩
     · obtain⟨V0,a5,l5,c5,s5,a6,l6,c6,e5,e6,h5,h6,hq,hV,_⟩:=g8.o (hds 8 (by simp));obtain rfl:=hV hDi;obtain⟨a7,l7,c7,e7,e8⟩:=g7.o (hds 7 (by simp));obtain rfl:=e8;obtain rfl:=e6;cases e7;obtain rfl:=e5;have bb:=((p5.below hq).far (p:=⟨w.heap.size+1+1,0,none⟩) (by simp) (.slice a5 l5 c5)).far (p:=⟨w.heap.size+1+1,1,none⟩) (by simp) (.bool s5);have q0:=bb.c0;have q1:=bb.c1;have f0:=bb.f0;have f1:=bb.f1;have h8:=hds 8 (by simp);clear hV;clear hds hcl2;refine Js rfl rfl fun K hK=>?_;go_simp;exact hK _ _ ⟨_,_,_,_,_,_,_,_,rfl,g0,Ja (fun _ h=>by simp[h8]at h),Ja (fun _ h=>by simp[h8]at h),g3,g4,g5,Ja (fun _ h=>by simp[h8]at h),Ja (fun _=>⟨_,_,_,rfl,rfl⟩),Ja (fun _=>⟨V0,a5,l5,c5,s5,a6,l6,c6,rfl,rfl,h5,h6,hq,fun h=>by simp at h,fun _=>rfl⟩),Ja (fun h=>by simp[h8]at h)⟩
    case fin=>
     rintro DD a2 V hDD ⟨t47,t48,t49,t50,t51,t52,t53,t54,rfl,g0,g1,g2,g3,g4,g5,g6,g7,g8,gq⟩;obtain⟨V0,a5,l5,c5,s5,a6,l6,c6,e5,e6,h5,h6,hq,_,hV⟩:=g8.o (hDD 8 (by decide));obtain rfl:=hV (hDD 9 (by decide));clear g0 g1 g2 g3 g4 g5 g6 g7 g8 gq hDD hV e5 e6 Qz Ua;go_wp2_with fail
     have Qb:=p4.below hq;have Qe:=p5.below hq;obtain⟨z4,z5⟩:=Jfy (.slice a5 l5 c5) (.bool s5) (.slice a6 l6 c6) (.bool false) Qb Qe;have Qs:=z4.c0;have Qp:=z4.c1;have Qu:=z5.c0;have Qq:=z5.c1;have Qd:Jk ((V0.setCell ⟨w.heap.size+1+1,0,none⟩ (.slice a5 l5 c5)).setCell ⟨w.heap.size+1+1,1,none⟩ (.bool s5)) (w.heap.size+1+1+1) 47 (.slice none 0 0) (.bool false):=(Qe.far (by simp) _).far (by simp) _;have Qc:=Jig h6;rw[Qw.o]at Qc;have Qn:=(h5.box Qb rfl rfl (x0:=.slice a5 l5 c5) (x1:=.bool s5)).box Qd rfl rfl (x0:=.slice a6 l6 c6) (x1:=.bool false);have Qj:=(Qc.box Qb rfl rfl (x0:=.slice a5 l5 c5) (x1:=.bool s5)).box Qd rfl rfl (x0:=.slice a6 l6 c6) (x1:=.bool false);have Qm:=Qg.trans (hq.mono Qg.size);exact bodyPost_ret (v:=.tuple #[.agg #[.slice a5 l5 c5,.bool s5],.agg #[.slice a6 l6 c6,.bool false]]) (by simp[results,Tryz.results127,go_sem,Qs,Qp,Qu,Qq]) rfl ⟨_,_,rfl,Qn,Qj,(((Qm.setCell (p:=⟨_,0,none⟩) (by simp only;omega) _).setCell (p:=⟨_,1,none⟩) (by simp only;omega) _).setCell (p:=⟨_,0,none⟩) (by simp only;omega) _).setCell (p:=⟨_,1,none⟩) (by simp only;omega) _⟩
theorem Jeq(va vb:Value)(x y:Int)(w:World)(ha:Jo w va x)(hb:Jo w vb y)(hy:y≠0)(hlx:szB x≤100000000)(hly:szB y≤100000000):
 Calls Tryz.prog 127 #[va,vb] w fun e w'=>∃q o,e=.returned (.tuple #[q,o])∧Jo w' q (x/y)∧Jo w' o (x%y)∧Below w.heap.size w w':=by
 obtain⟨a,la,ca,rfl,hu⟩:=ha;obtain⟨b,lb,cb,rfl,hv⟩:=hb;refine Jq9 a la ca b lb cb x.natAbs y.natAbs _ _ (x/y) (x%y) w hu hv (by omega) (by rw[RN.len hu];exact hlx) (by rw[RN.len hv];exact hly) (fun hc=>Jfh hy (fun h=>hc ⟨decide_eq_true h.1,h.2⟩)) (fun hc=>Jdm hy ⟨of_decide_eq_true hc.1,hc.2⟩)
theorem Jtf(va:Value)(x:Int)(w:World)(ha:Jo w va x):
 Calls Tryz.prog 98 #[va] w fun e w'=>e=.returned (.int .i64 x.sign)∧Below w.heap.size w w':=by
 obtain⟨a,la,ca,rfl,ra⟩:=ha;have Qa:=RN.len ra;have hk:=(Jp ra).2.2.2.1;have Qc:Below w.heap.size w (w.alloc (.cells #[.slice a la ca,.bool (decide (x<0))] 47)):=(Below.refl _ w).alloc (Aa _) _;have b0:=Jk.new w 47 (.slice a la ca) (.bool (decide (x<0)));have hz:la=0↔x=0:=by
  rw[Qa];constructor
  · intro h;have:=(JC (B:=10000) (by omega)).1 (Ao h);omega
  · intro h;rw[h,Int.natAbs_zero,Jw];rfl
 have HZ:=Ja hz;obtain⟨W0,hW0⟩:=ex (w.alloc (.cells #[.slice a la ca,.bool (decide (x<0))] 47));rw[hW0]at Qc b0;have Qb:=Ja hW0;have k0:=b0.c0;have k1:=b0.c1;by_cases hx:x<0
 · have hd:decide (x<0)=true:=decide_eq_true hx;rw[hd]at Qb k1 ⊢;have HE:=Ja (Int.sign_eq_neg_one_of_neg hx);clear Qa hz hW0 ra hd b0;go_enter Tryz.func98,Tryz.ntmps98
   go_upto_region 1 with fail
   rw[Qb.o];go_wp2_with fail
   go_ret;exact⟨by rw[HE.o];rfl,Qc⟩
 · have hd:decide (x<0)=false:=decide_eq_false hx;rw[hd]at Qb k1 ⊢;clear Qa hz hW0 ra hd b0;rcases AQ la with h0|h0
   · subst h0;have HE:=Ja (show x.sign=0 by rw[HZ.o.1 rfl];rfl);go_enter Tryz.func98,Tryz.ntmps98
     go_upto_region 1 with fail
     rw[Qb.o];go_wp2_with fail
     go_ret;refine⟨?_,Qc⟩;rw[HE.o];first|rfl|(simp;done)
   · have HE:=Ja (show x.sign=1 from Int.sign_eq_one_of_pos (by
      have:=HZ.o;rcases Fh x 0 with h|h|h
      · omega
      · have:=this.2 h;omega
      · exact h))
     have h1:min (1:Int) (la:Int)=1:=by omega
     have h2:(1:Int)≤(la:Int):=by omega
     have h3:¬((la:Int)<1):=by omega
     go_enter Tryz.func98,Tryz.ntmps98
     go_upto_region 1 with fail
     rw[Qb.o];go_wp2_with fail
     go_ret;refine⟨?_,Qc⟩;rw[HE.o];first|rfl|(simp[h1];done)
theorem Jim{x y:Int}(hy:y≠0):(0:Int)<(Int.gcd x y:Nat):=by
 have:=Int.gcd_pos_of_ne_zero_right x hy;omega
theorem Jq.mk{W:World}{s t:Bool}{a b:Option Addr}{l c k d:Nat}{q:Rat}(h1:Jo W (.agg #[.slice a l c,.bool s]) q.num)(h2:Jo W (.agg #[.slice b k d,.bool t]) (q.den:Int)):Jq W (.agg #[.slice a l c,.bool s,.slice b k d,.bool t]) q:=⟨_,_,_,_,_,_,_,_,rfl,h1,h2⟩
theorem Jo.sign{W:World}{a:Option Addr}{l c:Nat}{s:Bool}{z:Int}(h:Jo W (.agg #[.slice a l c,.bool s]) z):s=decide (z<0):=by
 obtain⟨a',l',c',e,_⟩:=h;cases e;rfl
theorem Jdf(va vb:Value)(x y:Int)(w:World)(ha:Jo w va x)(hb:Jo w vb y)(hy:y≠0)(hsx:Sok x)(hsy:Sok y):
 Calls Tryz.prog 92 #[va,vb] w fun e w'=>∃u,e=.returned u∧Jq w' u (Rat.divInt x y)∧Below w.heap.size w w':=by
 obtain⟨a900,l900,c900,s900,rfl⟩:=Jo.form2 ha;obtain⟨a901,l901,c901,s901,rfl⟩:=Jo.form2 hb;have M0:=((((Mem.nil w).push (.big (x)) ha).push (.big (y)) (Has.alloc (d:=.big (y)) hb _)).push .zref rfl);simp only[World.size_alloc]at M0;have M0:Mem w (((w.alloc (.cells #[.slice a900 l900 c900,.bool s900] 47)).alloc (.cells #[.slice a901 l901 c901,.bool s901] 47)).alloc (.cells #[.slice none 0 0,.bool false,.slice none 0 0,.bool false] 49)) [some (w.heap.size,.big (x)),some (w.heap.size+1,.big (y)),some (w.heap.size+1+1,.zref)]:=M0;obtain⟨W0,hW0⟩:=ex (((w.alloc (.cells #[.slice a900 l900 c900,.bool s900] 47)).alloc (.cells #[.slice a901 l901 c901,.bool s901] 47)).alloc (.cells #[.slice none 0 0,.bool false,.slice none 0 0,.bool false] 49));have Uc:=Ja hW0;rw[hW0]at M0;have M1:Hid (Mem w W0 [some (w.heap.size,.big (x)),some (w.heap.size+1,.big (y)),some (w.heap.size+1+1,.zref)]):=Ja M0;have Qc:=Ja hy;have Qa:=Ja hsx;have Qb:=Ja hsy;clear M0 hW0 ha hb hy hsx hsy;go_enter Tryz.func92,Tryz.ntmps92
 go_upto_region 1 with fail
 rw[Uc.o];clear Uc;obtain⟨a1,l1,c1,s1,n1,i1⟩:=M1.o.big (i:=0) rfl;have Um:=n1.c0;have Uo:=n1.c1;obtain⟨a2,l2,c2,s2,n2,i2⟩:=M1.o.big (i:=1) rfl;have Uj:=n2.c0;have Ug:=n2.c1;go_upto_region 2 with(go_at_call 125;refine(Juj _ _ x y _ i1 i2 (by have:=Qa.o.size;omega) (by have:=Qb.o.size;omega)).mono ?_;rintro e w1 ⟨u,rfl,hu,hb⟩;obtain⟨a90,l90,c90,s90,rfl⟩:=Jo.form2 hu)
 obtain⟨V3,hV⟩:=ex (w1.alloc (.cells #[.slice a90 l90 c90,.bool s90] 47));obtain⟨B3,hBk⟩:=ex (w1.heap.size);have MM:Mem w (w1.alloc (.cells #[.slice a90 l90 c90,.bool s90] 47)) [some (w.heap.size,.big (x)),some (w.heap.size+1,.big (y)),some (w.heap.size+1+1,.zref),some (w1.heap.size,.big (((Int.gcd x y:Nat):Int)))]:=Mem.push (M1.o.below hb) (.big (((Int.gcd x y:Nat):Int))) hu;rw[hV,hBk]at MM;rw[hV];rw[hBk];have M2:Hid (Mem w V3 [some (w.heap.size,.big (x)),some (w.heap.size+1,.big (y)),some (w.heap.size+1+1,.zref),some (B3,.big (((Int.gcd x y:Nat):Int)))]):=Ja (MM);clear M1;clear MM hV hBk;clear n1 Um Uo i1 n2 Uj Ug i2 hu hb;have HG:=Ja (Sok.gcd Qa.o Qb.o);by_cases hn:y<0
 · have HL:=Ja hn;obtain⟨a4,l4,c4,s4,n4,i4⟩:=M2.o.big (i:=1) rfl;have Uh:=n4.c0;have Ul:=n4.c1;have hs:=Jo.sign i4;rw[decide_eq_true hn]at hs;subst hs;clear hn;go_upto_region 3 with fail
   clear n4 Uh Ul i4;obtain⟨a5,l5,c5,s5,n5,i5⟩:=M2.o.big (i:=3) rfl;have Ud:=n5.c0;have Ue:=n5.c1;go_upto_region 4 with(go_at_call 126;refine(Jtu _ (((Int.gcd x y:Nat):Int)) _ i5).mono ?_;rintro e w6 ⟨u6,rfl,hu6,hb6⟩;obtain⟨a95,l95,c95,s95,rfl⟩:=Jo.form2 hu6;have Ud:=(n5.below hb6).c0;have Ue:=(n5.below hb6).c1;have Uf:=(n5.below hb6).f0;have Ui:=(n5.below hb6).f1)
   obtain⟨V6,hV⟩:=ex ((w6.setCell ⟨B3,0,none⟩ (.slice a95 l95 c95)).setCell ⟨B3,1,none⟩ (.bool s95));have MM:Mem w ((w6.setCell ⟨B3,0,none⟩ (.slice a95 l95 c95)).setCell ⟨B3,1,none⟩ (.bool s95)) [some (w.heap.size,.big (x)),some (w.heap.size+1,.big (y)),some (w.heap.size+1+1,.zref),some (B3,.big (-((Int.gcd x y:Nat):Int)))]:=Mem.putBig (M2.o.below hb6) (i:=3) rfl hu6;rw[hV]at MM;rw[hV];have M3:Hid (Mem w V6 [some (w.heap.size,.big (x)),some (w.heap.size+1,.big (y)),some (w.heap.size+1+1,.zref),some (B3,.big (-((Int.gcd x y:Nat):Int)))]):=Ja (MM);clear M2;clear MM hV;clear n5 Ud Ue i5 hu6 hb6 Uf Ui;have Qd:=Ja (show(-((Int.gcd x y:Nat):Int))≠0 by have:=Jim (x:=x) Qc.o;omega);have HE:=Ja (show(-((Int.gcd x y:Nat):Int))=(if y<0 then -((Int.gcd x y:Nat):Int)else((Int.gcd x y:Nat):Int))by rw[if_pos HL.o]);have Qe:=Ja HG.o.neg;obtain⟨a7,l7,c7,s7,n7,i7⟩:=M3.o.big (i:=0) rfl;have Uk:=n7.c0;have Up:=n7.c1;obtain⟨a8,l8,c8,s8,n8,i8⟩:=M3.o.big (i:=3) rfl;have Uq:=n8.c0;have Un:=n8.c1;go_upto_region 5 with(go_at_call 127;refine(Jeq _ _ x ((-((Int.gcd x y:Nat):Int))) _ i7 i8 Qd.o (by have:=Qa.o.size;omega) (by have:=Qe.o.size;omega)).mono ?_;rintro e w2 ⟨u1,u2,rfl,hu1,hu2,hb⟩;obtain⟨a91,l91,c91,s91,rfl⟩:=Jo.form2 hu1;obtain⟨a92,l92,c92,s92,rfl⟩:=Jo.form2 hu2)
   have MM:=Mem.push (Mem.push (M3.o.below hb) (.big (x/(-((Int.gcd x y:Nat):Int)))) hu1) (.big (x%(-((Int.gcd x y:Nat):Int)))) (Has.alloc (d:=.big (x%(-((Int.gcd x y:Nat):Int)))) hu2 _);simp only[World.size_alloc]at MM;have MM:Mem w ((w2.alloc (.cells #[.slice a91 l91 c91,.bool s91] 47)).alloc (.cells #[.slice a92 l92 c92,.bool s92] 47)) [some (w.heap.size,.big (x)),some (w.heap.size+1,.big (y)),some (w.heap.size+1+1,.zref),some (B3,.big (-((Int.gcd x y:Nat):Int))),some (w2.heap.size,.big (x/(-((Int.gcd x y:Nat):Int)))),some (w2.heap.size+1,.big (x%(-((Int.gcd x y:Nat):Int))))]:=MM;obtain⟨V10,hV⟩:=ex ((w2.alloc (.cells #[.slice a91 l91 c91,.bool s91] 47)).alloc (.cells #[.slice a92 l92 c92,.bool s92] 47));obtain⟨B9,hBk⟩:=ex (w2.heap.size);rw[hV,hBk]at MM;rw[hV];rw[hBk];obtain⟨B10,hBj⟩:=ex (B9+1);rw[hBj]at MM ⊢;have M4:Hid (Mem w V10 [some (w.heap.size,.big (x)),some (w.heap.size+1,.big (y)),some (w.heap.size+1+1,.zref),some (B3,.big (-((Int.gcd x y:Nat):Int))),some (B9,.big (x/(-((Int.gcd x y:Nat):Int)))),some (B10,.big (x%(-((Int.gcd x y:Nat):Int))))]):=Ja (MM);clear M3;clear MM hV hBk hBj;clear n7 Uk Up i7 n8 Uq Un i8 hu1 hu2 hb;obtain⟨a11,l11,c11,s11,n11,i11⟩:=M4.o.big (i:=1) rfl;have Qp:=n11.c0;have Qf:=n11.c1;obtain⟨a12,l12,c12,s12,n12,i12⟩:=M4.o.big (i:=3) rfl;have Qz:=n12.c0;have Qs:=n12.c1;go_upto_region 6 with(go_at_call 127;refine(Jeq _ _ y ((-((Int.gcd x y:Nat):Int))) _ i11 i12 Qd.o (by have:=Qb.o.size;omega) (by have:=Qe.o.size;omega)).mono ?_;rintro e w3 ⟨u1,u2,rfl,hu1,hu2,hb⟩;obtain⟨a93,l93,c93,s93,rfl⟩:=Jo.form2 hu1;obtain⟨a94,l94,c94,s94,rfl⟩:=Jo.form2 hu2)
   have MM:=Mem.push (Mem.push (M4.o.below hb) (.big (y/(-((Int.gcd x y:Nat):Int)))) hu1) (.big (y%(-((Int.gcd x y:Nat):Int)))) (Has.alloc (d:=.big (y%(-((Int.gcd x y:Nat):Int)))) hu2 _);simp only[World.size_alloc]at MM;have MM:Mem w ((w3.alloc (.cells #[.slice a93 l93 c93,.bool s93] 47)).alloc (.cells #[.slice a94 l94 c94,.bool s94] 47)) [some (w.heap.size,.big (x)),some (w.heap.size+1,.big (y)),some (w.heap.size+1+1,.zref),some (B3,.big (-((Int.gcd x y:Nat):Int))),some (B9,.big (x/(-((Int.gcd x y:Nat):Int)))),some (B10,.big (x%(-((Int.gcd x y:Nat):Int)))),some (w3.heap.size,.big (y/(-((Int.gcd x y:Nat):Int)))),some (w3.heap.size+1,.big (y%(-((Int.gcd x y:Nat):Int))))]:=MM;obtain⟨V14,hV⟩:=ex ((w3.alloc (.cells #[.slice a93 l93 c93,.bool s93] 47)).alloc (.cells #[.slice a94 l94 c94,.bool s94] 47));obtain⟨B13,hBk⟩:=ex (w3.heap.size);rw[hV,hBk]at MM;rw[hV];rw[hBk];obtain⟨B14,hBj⟩:=ex (B13+1);rw[hBj]at MM ⊢;have M5:Hid (Mem w V14 [some (w.heap.size,.big (x)),some (w.heap.size+1,.big (y)),some (w.heap.size+1+1,.zref),some (B3,.big (-((Int.gcd x y:Nat):Int))),some (B9,.big (x/(-((Int.gcd x y:Nat):Int)))),some (B10,.big (x%(-((Int.gcd x y:Nat):Int)))),some (B13,.big (y/(-((Int.gcd x y:Nat):Int)))),some (B14,.big (y%(-((Int.gcd x y:Nat):Int))))]):=Ja (MM);clear M4;clear MM hV hBk hBj;clear n11 Qp Qf i11 n12 Qz Qs i12 hu1 hu2 hb;obtain⟨a15,l15,c15,s15,n15,i15⟩:=M5.o.big (i:=4) rfl;have e15a:=n15.c0;have e15b:=n15.c1;obtain⟨a16,l16,c16,s16,n16,i16⟩:=M5.o.big (i:=6) rfl;have e16a:=n16.c0;have e16b:=n16.c1;have n17:=M5.o.zref (i:=2) rfl;have Ua:=n17.c0;have Qq:=n17.c1;have Qk:=n17.c2;have Qx:=n17.c3;have f17a:=n17.f0;have f17b:=n17.f1;have f17c:=n17.f2;have f17d:=n17.f3;have hr:Jq V14 (.agg #[.slice a15 l15 c15,.bool s15,.slice a16 l16 c16,.bool s16]) (Rat.divInt x y):=Jq.mk (by rw[Jap Qc.o,←HE.o];exact i15) (by rw[Jaq Qc.o,←HE.o];exact i16);have Ub:=M5.o.ge 2 rfl;have hB:=M5.o.2.2;go_wp2_with fail
   exact bodyPost_ret (v:=.agg #[.slice a15 l15 c15,.bool s15,.slice a16 l16 c16,.bool s16]) (by simp[results,Tryz.results92,go_sem,Ua,Qq,Qk,Qx]) rfl ⟨_,rfl,hr.put4 n17 rfl rfl rfl rfl _ _ _ _,Jt hB Ub _ _ _ _⟩
 · have HL:=Ja hn;obtain⟨a18,l18,c18,s18,n18,i18⟩:=M2.o.big (i:=1) rfl;have Qr:=n18.c0;have Qw:=n18.c1;have hs:=Jo.sign i18;rw[decide_eq_false hn]at hs;subst hs;clear hn;go_upto_region 4 with fail
   clear n18 Qr Qw i18;have Qd:=Ja (show((Int.gcd x y:Nat):Int)≠0 by have:=Jim (x:=x) Qc.o;omega);have HE:=Ja (show((Int.gcd x y:Nat):Int)=(if y<0 then -((Int.gcd x y:Nat):Int)else((Int.gcd x y:Nat):Int))by rw[if_neg (by have:=HL.o;omega)]);have Qe:=Ja HG.o;obtain⟨a19,l19,c19,s19,n19,i19⟩:=M2.o.big (i:=0) rfl;have Qo:=n19.c0;have Qj:=n19.c1;obtain⟨a20,l20,c20,s20,n20,i20⟩:=M2.o.big (i:=3) rfl;have Qh:=n20.c0;have Qg:=n20.c1;go_upto_region 5 with(go_at_call 127;refine(Jeq _ _ x (((Int.gcd x y:Nat):Int)) _ i19 i20 Qd.o (by have:=Qa.o.size;omega) (by have:=Qe.o.size;omega)).mono ?_;rintro e w2 ⟨u1,u2,rfl,hu1,hu2,hb⟩;obtain⟨a91,l91,c91,s91,rfl⟩:=Jo.form2 hu1;obtain⟨a92,l92,c92,s92,rfl⟩:=Jo.form2 hu2)
   have MM:=Mem.push (Mem.push (M2.o.below hb) (.big (x/((Int.gcd x y:Nat):Int))) hu1) (.big (x%((Int.gcd x y:Nat):Int))) (Has.alloc (d:=.big (x%((Int.gcd x y:Nat):Int))) hu2 _);simp only[World.size_alloc]at MM;have MM:Mem w ((w2.alloc (.cells #[.slice a91 l91 c91,.bool s91] 47)).alloc (.cells #[.slice a92 l92 c92,.bool s92] 47)) [some (w.heap.size,.big (x)),some (w.heap.size+1,.big (y)),some (w.heap.size+1+1,.zref),some (B3,.big (((Int.gcd x y:Nat):Int))),some (w2.heap.size,.big (x/((Int.gcd x y:Nat):Int))),some (w2.heap.size+1,.big (x%((Int.gcd x y:Nat):Int)))]:=MM;obtain⟨V22,hV⟩:=ex ((w2.alloc (.cells #[.slice a91 l91 c91,.bool s91] 47)).alloc (.cells #[.slice a92 l92 c92,.bool s92] 47));obtain⟨B21,hBk⟩:=ex (w2.heap.size);rw[hV,hBk]at MM;rw[hV];rw[hBk];obtain⟨B22,hBj⟩:=ex (B21+1);rw[hBj]at MM ⊢;have M3:Hid (Mem w V22 [some (w.heap.size,.big (x)),some (w.heap.size+1,.big (y)),some (w.heap.size+1+1,.zref),some (B3,.big (((Int.gcd x y:Nat):Int))),some (B21,.big (x/((Int.gcd x y:Nat):Int))),some (B22,.big (x%((Int.gcd x y:Nat):Int)))]):=Ja (MM);clear M2;clear MM hV hBk hBj;clear n19 Qo Qj i19 n20 Qh Qg i20 hu1 hu2 hb;obtain⟨a23,l23,c23,s23,n23,i23⟩:=M3.o.big (i:=1) rfl;have Qi:=n23.c0;have Ql:=n23.c1;obtain⟨a24,l24,c24,s24,n24,i24⟩:=M3.o.big (i:=3) rfl;have Qm:=n24.c0;have Qv:=n24.c1;go_upto_region 6 with(go_at_call 127;refine(Jeq _ _ y (((Int.gcd x y:Nat):Int)) _ i23 i24 Qd.o (by have:=Qb.o.size;omega) (by have:=Qe.o.size;omega)).mono ?_;rintro e w3 ⟨u1,u2,rfl,hu1,hu2,hb⟩;obtain⟨a93,l93,c93,s93,rfl⟩:=Jo.form2 hu1;obtain⟨a94,l94,c94,s94,rfl⟩:=Jo.form2 hu2)
   have MM:=Mem.push (Mem.push (M3.o.below hb) (.big (y/((Int.gcd x y:Nat):Int))) hu1) (.big (y%((Int.gcd x y:Nat):Int))) (Has.alloc (d:=.big (y%((Int.gcd x y:Nat):Int))) hu2 _);simp only[World.size_alloc]at MM;have MM:Mem w ((w3.alloc (.cells #[.slice a93 l93 c93,.bool s93] 47)).alloc (.cells #[.slice a94 l94 c94,.bool s94] 47)) [some (w.heap.size,.big (x)),some (w.heap.size+1,.big (y)),some (w.heap.size+1+1,.zref),some (B3,.big (((Int.gcd x y:Nat):Int))),some (B21,.big (x/((Int.gcd x y:Nat):Int))),some (B22,.big (x%((Int.gcd x y:Nat):Int))),some (w3.heap.size,.big (y/((Int.gcd x y:Nat):Int))),some (w3.heap.size+1,.big (y%((Int.gcd x y:Nat):Int)))]:=MM;obtain⟨V26,hV⟩:=ex ((w3.alloc (.cells #[.slice a93 l93 c93,.bool s93] 47)).alloc (.cells #[.slice a94 l94 c94,.bool s94] 47));obtain⟨B25,hBk⟩:=ex (w3.heap.size);rw[hV,hBk]at MM;rw[hV];rw[hBk];obtain⟨B26,hBj⟩:=ex (B25+1);rw[hBj]at MM ⊢;have M4:Hid (Mem w V26 [some (w.heap.size,.big (x)),some (w.heap.size+1,.big (y)),some (w.heap.size+1+1,.zref),some (B3,.big (((Int.gcd x y:Nat):Int))),some (B21,.big (x/((Int.gcd x y:Nat):Int))),some (B22,.big (x%((Int.gcd x y:Nat):Int))),some (B25,.big (y/((Int.gcd x y:Nat):Int))),some (B26,.big (y%((Int.gcd x y:Nat):Int)))]):=Ja (MM);clear M3;clear MM hV hBk hBj;clear n23 Qi Ql i23 n24 Qm Qv i24 hu1 hu2 hb;obtain⟨a27,l27,c27,s27,n27,i27⟩:=M4.o.big (i:=4) rfl;have e27a:=n27.c0;have e27b:=n27.c1;obtain⟨a28,l28,c28,s28,n28,i28⟩:=M4.o.big (i:=6) rfl;have e28a:=n28.c0;have e28b:=n28.c1;have n29:=M4.o.zref (i:=2) rfl;have Qt:=n29.c0;have Qy:=n29.c1;have Qn:=n29.c2;have Qu:=n29.c3;have f29a:=n29.f0;have f29b:=n29.f1;have f29c:=n29.f2;have f29d:=n29.f3;have hr:Jq V26 (.agg #[.slice a27 l27 c27,.bool s27,.slice a28 l28 c28,.bool s28]) (Rat.divInt x y):=Jq.mk (by rw[Jap Qc.o,←HE.o];exact i27) (by rw[Jaq Qc.o,←HE.o];exact i28);have Ub:=M4.o.ge 2 rfl;have hB:=M4.o.2.2;go_wp2_with fail
   exact bodyPost_ret (v:=.agg #[.slice a27 l27 c27,.bool s27,.slice a28 l28 c28,.bool s28]) (by simp[results,Tryz.results92,go_sem,Qt,Qy,Qn,Qu]) rfl ⟨_,rfl,hr.put4 n29 rfl rfl rfl rfl _ _ _ _,Jt hB Ub _ _ _ _⟩
theorem Jra(va vb:Value)(p q:Rat)(w:World)(ha:Jq w va p)(hb:Jq w vb q)(hsp:Sq p)(hsq:Sq q):
 Calls Tryz.prog 71 #[va,vb] w fun e w'=>∃u,e=.returned u∧Jq w' u (p+q)∧Below w.heap.size w w':=by
 obtain⟨a900,l900,c900,s900,b900,k900,d900,t900,rfl⟩:=Jq.form ha;obtain⟨a901,l901,c901,s901,b901,k901,d901,t901,rfl⟩:=Jq.form hb;have M0:=((((Mem.nil w).push (.ref (p)) ha).push (.ref (q)) (Has.alloc (d:=.ref (q)) hb _)).push .zref rfl);simp only[World.size_alloc]at M0;have M0:Mem w (((w.alloc (.cells #[.slice a900 l900 c900,.bool s900,.slice b900 k900 d900,.bool t900] 49)).alloc (.cells #[.slice a901 l901 c901,.bool s901,.slice b901 k901 d901,.bool t901] 49)).alloc (.cells #[.slice none 0 0,.bool false,.slice none 0 0,.bool false] 49)) [some (w.heap.size,.ref (p)),some (w.heap.size+1,.ref (q)),some (w.heap.size+1+1,.zref)]:=M0;obtain⟨W0,hW0⟩:=ex (((w.alloc (.cells #[.slice a900 l900 c900,.bool s900,.slice b900 k900 d900,.bool t900] 49)).alloc (.cells #[.slice a901 l901 c901,.bool s901,.slice b901 k901 d901,.bool t901] 49)).alloc (.cells #[.slice none 0 0,.bool false,.slice none 0 0,.bool false] 49));have Qv:=Ja hW0;rw[hW0]at M0;have M1:Hid (Mem w W0 [some (w.heap.size,.ref (p)),some (w.heap.size+1,.ref (q)),some (w.heap.size+1+1,.zref)]):=Ja M0;have Qb:=Ja hsp;have Qa:=Ja hsq;clear M0 hW0 ha hb hsp hsq;go_enter Tryz.func71,Tryz.ntmps71
 go_upto_region 1 with fail
 rw[Qv.o];clear Qv;obtain⟨a1,l1,c1,s1,b1,k1,d1,t1,n1,r1,i1,j1⟩:=M1.o.ref (i:=0) rfl;have Ql:=n1.c0;have Qn:=n1.c1;have Qj:=n1.c2;have Qe:=n1.c3;obtain⟨a2,l2,c2,s2,b2,k2,d2,t2,n2,r2,i2,j2⟩:=M1.o.ref (i:=1) rfl;have Qh:=n2.c0;have Qf:=n2.c1;have Qo:=n2.c2;have Qd:=n2.c3;have n3:=M1.o.zref (i:=2) rfl;have Qg:=n3.c0;have Qm:=n3.c1;have Qi:=n3.c2;have Qk:=n3.c3;have Qr:=n3.f0;have Qs:=n3.f1;have Qq:=n3.f2;have Qt:=n3.f3;have H4:=Ja (fun(V:World) (h:Below W0.heap.size W0 V)=>Xt _ _ (p.num) ((q.den:Int)) V (i1.below h) (j2.below h) (by have:=Qb.o.num.size;omega) (by have:=Qa.o.den.size;omega));have H9:=Ja (fun(V:World) (h:Below W0.heap.size W0 V)=>Xt _ _ (q.num) ((p.den:Int)) V (i2.below h) (j1.below h) (by have:=Qa.o.num.size;omega) (by have:=Qb.o.den.size;omega));have Qx:=Ja (fun(V:World) (h:Below W0.heap.size W0 V) (v4:Value) (g4:Jo V v4 (p.num*(q.den:Int))) (v9:Value) (g9:Jo V v9 (q.num*(p.den:Int)))=>Jp5 _ _ (p.num*(q.den:Int)) (q.num*(p.den:Int)) V g4 g9 (by have:=(Qb.o.cross Qa.o).size;omega) (by have:=(Qa.o.cross Qb.o).size;omega));have Qu:=Ja (fun(V:World) (h:Below W0.heap.size W0 V)=>Xt _ _ ((p.den:Int)) ((q.den:Int)) V (j1.below h) (j2.below h) (by have:=Qb.o.den.size;omega) (by have:=Qa.o.den.size;omega));have Qw:=Ja (fun(V:World) (h:Below W0.heap.size W0 V) (v10:Value) (Qc:Jo V v10 (p.num*(q.den:Int)+q.num*(p.den:Int))) (v15:Value) (Qp:Jo V v15 ((p.den:Int)*(q.den:Int)))=>(by have h:=Jdf _ _ (p.num*(q.den:Int)+q.num*(p.den:Int)) ((p.den:Int)*(q.den:Int)) V Qc Qp (CU (by have:=p.den_nz;omega) (by have:=q.den_nz;omega)) (Qb.o.sumN Qa.o) (Qb.o.mulD Qa.o);rw[Jl4]at h;exact h));have ne0:w.heap.size≠w.heap.size+1+1:=M1.o.ne 0 2 rfl rfl (by decide);have ne1:w.heap.size+1≠w.heap.size+1+1:=M1.o.ne 1 2 rfl rfl (by decide);have hq:Below W0.heap.size W0 W0.drew:=(Below.refl _ W0).drew;go_region_held3 (fun w'=>w'.cell? ⟨w.heap.size,0,none⟩=some (.slice a1 l1 c1)∧w'.cell? ⟨w.heap.size,1,none⟩=some (.bool s1)∧w'.cell? ⟨w.heap.size,2,none⟩=some (.slice b1 k1 d1)∧w'.cell? ⟨w.heap.size,3,none⟩=some (.bool t1)∧w'.cell? ⟨w.heap.size+1,0,none⟩=some (.slice a2 l2 c2)∧w'.cell? ⟨w.heap.size+1,1,none⟩=some (.bool s2)∧w'.cell? ⟨w.heap.size+1,2,none⟩=some (.slice b2 k2 d2)∧w'.cell? ⟨w.heap.size+1,3,none⟩=some (.bool t2)) (first|(with_reducible exact⟨Ql,Qn,Qj,Qe,Qh,Qf,Qo,Qd⟩)|(go_keep;done)|(refine⟨?_,?_,?_,?_,?_,?_,?_,?_⟩<;>((repeat rw[JF (by omega)]);first|assumption|(go_keep;done))))
  (first
   |(go_at_call 109;refine(H4.o _ hq ).mono ?_;clear H4;rintro e w4 ⟨v4,rfl,g4,hb4⟩;have hq:=Below.then hq hb4;have Ql:=(n1.below hq).c0;have Qn:=(n1.below hq).c1;have Qj:=(n1.below hq).c2;have Qe:=(n1.below hq).c3;have Qh:=(n2.below hq).c0;have Qf:=(n2.below hq).c1;have Qo:=(n2.below hq).c2;have Qd:=(n2.below hq).c3;have Qg:=(n3.below hq).c0;have Qm:=(n3.below hq).c1;have Qi:=(n3.below hq).c2;have Qk:=(n3.below hq).c3;have Qr:=(n3.below hq).f0;have Qs:=(n3.below hq).f1;have Qq:=(n3.below hq).f2;have Qt:=(n3.below hq).f3)
   |(go_at_call 109;refine(H9.o _ hq ).mono ?_;clear H9;rintro e w9 ⟨v9,rfl,g9,hb9⟩;have g4:=g4.below hb9;have hq:=Below.then hq hb9;have Ql:=(n1.below hq).c0;have Qn:=(n1.below hq).c1;have Qj:=(n1.below hq).c2;have Qe:=(n1.below hq).c3;have Qh:=(n2.below hq).c0;have Qf:=(n2.below hq).c1;have Qo:=(n2.below hq).c2;have Qd:=(n2.below hq).c3;have Qg:=(n3.below hq).c0;have Qm:=(n3.below hq).c1;have Qi:=(n3.below hq).c2;have Qk:=(n3.below hq).c3;have Qr:=(n3.below hq).f0;have Qs:=(n3.below hq).f1;have Qq:=(n3.below hq).f2;have Qt:=(n3.below hq).f3)
   |(go_at_call 108;refine(Qx.o _ hq _ g4 _ g9).mono ?_;clear Qx;rintro e w10 ⟨v10,rfl,Qc,hb10⟩;have g4:=g4.below hb10;have g9:=g9.below hb10;have hq:=Below.then hq hb10;have Ql:=(n1.below hq).c0;have Qn:=(n1.below hq).c1;have Qj:=(n1.below hq).c2;have Qe:=(n1.below hq).c3;have Qh:=(n2.below hq).c0;have Qf:=(n2.below hq).c1;have Qo:=(n2.below hq).c2;have Qd:=(n2.below hq).c3;have Qg:=(n3.below hq).c0;have Qm:=(n3.below hq).c1;have Qi:=(n3.below hq).c2;have Qk:=(n3.below hq).c3;have Qr:=(n3.below hq).f0;have Qs:=(n3.below hq).f1;have Qq:=(n3.below hq).f2;have Qt:=(n3.below hq).f3)
   |(go_at_call 109;refine(Qu.o _ hq ).mono ?_;clear Qu;rintro e w15 ⟨v15,rfl,Qp,hb15⟩;have g4:=g4.below hb15;have g9:=g9.below hb15;have Qc:=Qc.below hb15;have hq:=Below.then hq hb15;have Ql:=(n1.below hq).c0;have Qn:=(n1.below hq).c1;have Qj:=(n1.below hq).c2;have Qe:=(n1.below hq).c3;have Qh:=(n2.below hq).c0;have Qf:=(n2.below hq).c1;have Qo:=(n2.below hq).c2;have Qd:=(n2.below hq).c3;have Qg:=(n3.below hq).c0;have Qm:=(n3.below hq).c1;have Qi:=(n3.below hq).c2;have Qk:=(n3.below hq).c3;have Qr:=(n3.below hq).f0;have Qs:=(n3.below hq).f1;have Qq:=(n3.below hq).f2;have Qt:=(n3.below hq).f3)
   |(go_at_call 92;refine(Qw.o _ hq _ Qc _ Qp).mono ?_;clear Qw;rintro e w16 ⟨v16,rfl,g16,hb16⟩;obtain⟨a91,l91,c91,s91,b91,k91,d91,t91,rfl⟩:=Jq.form g16;have g4:=g4.below hb16;have g9:=g9.below hb16;have Qc:=Qc.below hb16;have Qp:=Qp.below hb16;have hq:=Below.then hq hb16;have Ql:=(n1.below hq).c0;have Qn:=(n1.below hq).c1;have Qj:=(n1.below hq).c2;have Qe:=(n1.below hq).c3;have Qh:=(n2.below hq).c0;have Qf:=(n2.below hq).c1;have Qo:=(n2.below hq).c2;have Qd:=(n2.below hq).c3;have Qg:=(n3.below hq).c0;have Qm:=(n3.below hq).c1;have Qi:=(n3.below hq).c2;have Qk:=(n3.below hq).c3;have Qr:=(n3.below hq).f0;have Qs:=(n3.below hq).f1;have Qq:=(n3.below hq).f2;have Qt:=(n3.below hq).f3))
 all_goals go_wp2_with fail
 have Qy:=M1.o.2.2.trans (hq.mono M1.o.2.2.size);have Qz:=M1.o.ge 2 rfl;exact bodyPost_ret (v:=.agg #[.slice a91 l91 c91,.bool s91,.slice b91 k91 d91,.bool t91]) (by simp[results,Tryz.results71,go_sem,Qg,Qm,Qi,Qk]) rfl ⟨_,rfl,g16.put4 (n3.below hq) rfl rfl rfl rfl _ _ _ _,Jt Qy Qz _ _ _ _⟩
theorem Jk3(va vb:Value)(p q:Rat)(w:World)(ha:Jq w va p)(hb:Jq w vb q)(hsp:Sq p)(hsq:Sq q):
 Calls Tryz.prog 73 #[va,vb] w fun e w'=>∃u,e=.returned u∧Jq w' u (p*q)∧Below w.heap.size w w':=by
 obtain⟨a900,l900,c900,s900,b900,k900,d900,t900,rfl⟩:=Jq.form ha;obtain⟨a901,l901,c901,s901,b901,k901,d901,t901,rfl⟩:=Jq.form hb;have M0:=((((Mem.nil w).push (.ref (p)) ha).push (.ref (q)) (Has.alloc (d:=.ref (q)) hb _)).push .zref rfl);simp only[World.size_alloc]at M0;have M0:Mem w (((w.alloc (.cells #[.slice a900 l900 c900,.bool s900,.slice b900 k900 d900,.bool t900] 49)).alloc (.cells #[.slice a901 l901 c901,.bool s901,.slice b901 k901 d901,.bool t901] 49)).alloc (.cells #[.slice none 0 0,.bool false,.slice none 0 0,.bool false] 49)) [some (w.heap.size,.ref (p)),some (w.heap.size+1,.ref (q)),some (w.heap.size+1+1,.zref)]:=M0;obtain⟨W0,hW0⟩:=ex (((w.alloc (.cells #[.slice a900 l900 c900,.bool s900,.slice b900 k900 d900,.bool t900] 49)).alloc (.cells #[.slice a901 l901 c901,.bool s901,.slice b901 k901 d901,.bool t901] 49)).alloc (.cells #[.slice none 0 0,.bool false,.slice none 0 0,.bool false] 49));have Qs:=Ja hW0;rw[hW0]at M0;have M1:Hid (Mem w W0 [some (w.heap.size,.ref (p)),some (w.heap.size+1,.ref (q)),some (w.heap.size+1+1,.zref)]):=Ja M0;have Qb:=Ja hsp;have Qa:=Ja hsq;clear M0 hW0 ha hb hsp hsq;go_enter Tryz.func73,Tryz.ntmps73
 go_upto_region 1 with fail
 rw[Qs.o];clear Qs;obtain⟨a1,l1,c1,s1,b1,k1,d1,t1,n1,r1,i1,j1⟩:=M1.o.ref (i:=0) rfl;have Qk:=n1.c0;have Qm:=n1.c1;have Qi:=n1.c2;have Qd:=n1.c3;obtain⟨a2,l2,c2,s2,b2,k2,d2,t2,n2,r2,i2,j2⟩:=M1.o.ref (i:=1) rfl;have Qg:=n2.c0;have Qe:=n2.c1;have Qn:=n2.c2;have Qc:=n2.c3;have n3:=M1.o.zref (i:=2) rfl;have Qf:=n3.c0;have Ql:=n3.c1;have Qh:=n3.c2;have Qj:=n3.c3;have Qp:=n3.f0;have Qq:=n3.f1;have Qo:=n3.f2;have Qr:=n3.f3;have H4:=Ja (fun(V:World) (h:Below W0.heap.size W0 V)=>Xt _ _ (p.num) (q.num) V (i1.below h) (i2.below h) (by have:=Qb.o.num.size;omega) (by have:=Qa.o.num.size;omega));have H9:=Ja (fun(V:World) (h:Below W0.heap.size W0 V)=>Xt _ _ ((p.den:Int)) ((q.den:Int)) V (j1.below h) (j2.below h) (by have:=Qb.o.den.size;omega) (by have:=Qa.o.den.size;omega));have Qt:=Ja (fun(V:World) (h:Below W0.heap.size W0 V) (v4:Value) (g4:Jo V v4 (p.num*q.num)) (v9:Value) (g9:Jo V v9 ((p.den:Int)*(q.den:Int)))=>(by have h:=Jdf _ _ (p.num*q.num) ((p.den:Int)*(q.den:Int)) V g4 g9 (CU (by have:=p.den_nz;omega) (by have:=q.den_nz;omega)) (Qb.o.mulN Qa.o) (Qb.o.mulD Qa.o);rw[Jl3]at h;exact h));have ne0:w.heap.size≠w.heap.size+1+1:=M1.o.ne 0 2 rfl rfl (by decide);have ne1:w.heap.size+1≠w.heap.size+1+1:=M1.o.ne 1 2 rfl rfl (by decide);have hq:Below W0.heap.size W0 W0.drew:=(Below.refl _ W0).drew;go_region_held3 (fun w'=>w'.cell? ⟨w.heap.size,0,none⟩=some (.slice a1 l1 c1)∧w'.cell? ⟨w.heap.size,1,none⟩=some (.bool s1)∧w'.cell? ⟨w.heap.size,2,none⟩=some (.slice b1 k1 d1)∧w'.cell? ⟨w.heap.size,3,none⟩=some (.bool t1)∧w'.cell? ⟨w.heap.size+1,0,none⟩=some (.slice a2 l2 c2)∧w'.cell? ⟨w.heap.size+1,1,none⟩=some (.bool s2)∧w'.cell? ⟨w.heap.size+1,2,none⟩=some (.slice b2 k2 d2)∧w'.cell? ⟨w.heap.size+1,3,none⟩=some (.bool t2)) (first|(with_reducible exact⟨Qk,Qm,Qi,Qd,Qg,Qe,Qn,Qc⟩)|(go_keep;done)|(refine⟨?_,?_,?_,?_,?_,?_,?_,?_⟩<;>((repeat rw[JF (by omega)]);first|assumption|(go_keep;done))))
  (first
   |(go_at_call 109;refine(H4.o _ hq ).mono ?_;clear H4;rintro e w4 ⟨v4,rfl,g4,hb4⟩;have hq:=Below.then hq hb4;have Qk:=(n1.below hq).c0;have Qm:=(n1.below hq).c1;have Qi:=(n1.below hq).c2;have Qd:=(n1.below hq).c3;have Qg:=(n2.below hq).c0;have Qe:=(n2.below hq).c1;have Qn:=(n2.below hq).c2;have Qc:=(n2.below hq).c3;have Qf:=(n3.below hq).c0;have Ql:=(n3.below hq).c1;have Qh:=(n3.below hq).c2;have Qj:=(n3.below hq).c3;have Qp:=(n3.below hq).f0;have Qq:=(n3.below hq).f1;have Qo:=(n3.below hq).f2;have Qr:=(n3.below hq).f3)
   |(go_at_call 109;refine(H9.o _ hq ).mono ?_;clear H9;rintro e w9 ⟨v9,rfl,g9,hb9⟩;have g4:=g4.below hb9;have hq:=Below.then hq hb9;have Qk:=(n1.below hq).c0;have Qm:=(n1.below hq).c1;have Qi:=(n1.below hq).c2;have Qd:=(n1.below hq).c3;have Qg:=(n2.below hq).c0;have Qe:=(n2.below hq).c1;have Qn:=(n2.below hq).c2;have Qc:=(n2.below hq).c3;have Qf:=(n3.below hq).c0;have Ql:=(n3.below hq).c1;have Qh:=(n3.below hq).c2;have Qj:=(n3.below hq).c3;have Qp:=(n3.below hq).f0;have Qq:=(n3.below hq).f1;have Qo:=(n3.below hq).f2;have Qr:=(n3.below hq).f3)
   |(go_at_call 92;refine(Qt.o _ hq _ g4 _ g9).mono ?_;clear Qt;rintro e w10 ⟨v10,rfl,g10,hb10⟩;obtain⟨a91,l91,c91,s91,b91,k91,d91,t91,rfl⟩:=Jq.form g10;have g4:=g4.below hb10;have g9:=g9.below hb10;have hq:=Below.then hq hb10;have Qk:=(n1.below hq).c0;have Qm:=(n1.below hq).c1;have Qi:=(n1.below hq).c2;have Qd:=(n1.below hq).c3;have Qg:=(n2.below hq).c0;have Qe:=(n2.below hq).c1;have Qn:=(n2.below hq).c2;have Qc:=(n2.below hq).c3;have Qf:=(n3.below hq).c0;have Ql:=(n3.below hq).c1;have Qh:=(n3.below hq).c2;have Qj:=(n3.below hq).c3;have Qp:=(n3.below hq).f0;have Qq:=(n3.below hq).f1;have Qo:=(n3.below hq).f2;have Qr:=(n3.below hq).f3))
 all_goals go_wp2_with fail
 have Qu:=M1.o.2.2.trans (hq.mono M1.o.2.2.size);have Qv:=M1.o.ge 2 rfl;exact bodyPost_ret (v:=.agg #[.slice a91 l91 c91,.bool s91,.slice b91 k91 d91,.bool t91]) (by simp[results,Tryz.results73,go_sem,Qf,Ql,Qh,Qj]) rfl ⟨_,rfl,g10.put4 (n3.below hq) rfl rfl rfl rfl _ _ _ _,Jt Qu Qv _ _ _ _⟩
theorem Jtg(va vb:Value)(p q:Rat)(w:World)(ha:Jq w va p)(hb:Jq w vb q)(hsp:Sq p)(hsq:Sq q)(hq0:q≠0):
 Calls Tryz.prog 75 #[va,vb] w fun e w'=>∃u,e=.returned u∧Jq w' u (p/q)∧Below w.heap.size w w':=by
 obtain⟨a900,l900,c900,s900,b900,k900,d900,t900,rfl⟩:=Jq.form ha;obtain⟨a901,l901,c901,s901,b901,k901,d901,t901,rfl⟩:=Jq.form hb;have M0:=((((Mem.nil w).push (.ref (p)) ha).push (.ref (q)) (Has.alloc (d:=.ref (q)) hb _)).push .zref rfl);simp only[World.size_alloc]at M0;have M0:Mem w (((w.alloc (.cells #[.slice a900 l900 c900,.bool s900,.slice b900 k900 d900,.bool t900] 49)).alloc (.cells #[.slice a901 l901 c901,.bool s901,.slice b901 k901 d901,.bool t901] 49)).alloc (.cells #[.slice none 0 0,.bool false,.slice none 0 0,.bool false] 49)) [some (w.heap.size,.ref (p)),some (w.heap.size+1,.ref (q)),some (w.heap.size+1+1,.zref)]:=M0;obtain⟨W0,hW0⟩:=ex (((w.alloc (.cells #[.slice a900 l900 c900,.bool s900,.slice b900 k900 d900,.bool t900] 49)).alloc (.cells #[.slice a901 l901 c901,.bool s901,.slice b901 k901 d901,.bool t901] 49)).alloc (.cells #[.slice none 0 0,.bool false,.slice none 0 0,.bool false] 49));have Qt:=Ja hW0;rw[hW0]at M0;have M1:Hid (Mem w W0 [some (w.heap.size,.ref (p)),some (w.heap.size+1,.ref (q)),some (w.heap.size+1+1,.zref)]):=Ja M0;have Qb:=Ja hsp;have Qa:=Ja hsq;have Qo:=Ja hq0;clear M0 hW0 ha hb hsp hsq hq0;go_enter Tryz.func75,Tryz.ntmps75
 go_upto_region 1 with fail
 rw[Qt.o];clear Qt;obtain⟨a1,l1,c1,s1,b1,k1,d1,t1,n1,r1,i1,j1⟩:=M1.o.ref (i:=0) rfl;have Qk:=n1.c0;have Qm:=n1.c1;have Qi:=n1.c2;have Qd:=n1.c3;obtain⟨a2,l2,c2,s2,b2,k2,d2,t2,n2,r2,i2,j2⟩:=M1.o.ref (i:=1) rfl;have Qg:=n2.c0;have Qe:=n2.c1;have Qn:=n2.c2;have Qc:=n2.c3;have n3:=M1.o.zref (i:=2) rfl;have Qf:=n3.c0;have Ql:=n3.c1;have Qh:=n3.c2;have Qj:=n3.c3;have Qq:=n3.f0;have Qr:=n3.f1;have Qp:=n3.f2;have Qs:=n3.f3;have H4:=Ja (fun(V:World) (h:Below W0.heap.size W0 V)=>Xt _ _ (p.num) ((q.den:Int)) V (i1.below h) (j2.below h) (by have:=Qb.o.num.size;omega) (by have:=Qa.o.den.size;omega));have H9:=Ja (fun(V:World) (h:Below W0.heap.size W0 V)=>Xt _ _ ((p.den:Int)) (q.num) V (j1.below h) (i2.below h) (by have:=Qb.o.den.size;omega) (by have:=Qa.o.num.size;omega));have Qu:=Ja (fun(V:World) (h:Below W0.heap.size W0 V) (v4:Value) (g4:Jo V v4 (p.num*(q.den:Int))) (v9:Value) (g9:Jo V v9 ((p.den:Int)*q.num))=>(by have h:=Jdf _ _ (p.num*(q.den:Int)) ((p.den:Int)*q.num) V g4 g9 (CU (by have:=p.den_nz;omega) (fun h=>Qo.o (Fe.1 h))) (Qb.o.cross Qa.o) (Qb.o.cross2 Qa.o);rw[Jjd]at h;exact h));have ne0:w.heap.size≠w.heap.size+1+1:=M1.o.ne 0 2 rfl rfl (by decide);have ne1:w.heap.size+1≠w.heap.size+1+1:=M1.o.ne 1 2 rfl rfl (by decide);have hq:Below W0.heap.size W0 W0.drew:=(Below.refl _ W0).drew;go_region_held3 (fun w'=>w'.cell? ⟨w.heap.size,0,none⟩=some (.slice a1 l1 c1)∧w'.cell? ⟨w.heap.size,1,none⟩=some (.bool s1)∧w'.cell? ⟨w.heap.size,2,none⟩=some (.slice b1 k1 d1)∧w'.cell? ⟨w.heap.size,3,none⟩=some (.bool t1)∧w'.cell? ⟨w.heap.size+1,0,none⟩=some (.slice a2 l2 c2)∧w'.cell? ⟨w.heap.size+1,1,none⟩=some (.bool s2)∧w'.cell? ⟨w.heap.size+1,2,none⟩=some (.slice b2 k2 d2)∧w'.cell? ⟨w.heap.size+1,3,none⟩=some (.bool t2)) (first|(with_reducible exact⟨Qk,Qm,Qi,Qd,Qg,Qe,Qn,Qc⟩)|(go_keep;done)|(refine⟨?_,?_,?_,?_,?_,?_,?_,?_⟩<;>((repeat rw[JF (by omega)]);first|assumption|(go_keep;done))))
  (first
   |(go_at_call 109;refine(H4.o _ hq ).mono ?_;clear H4;rintro e w4 ⟨v4,rfl,g4,hb4⟩;have hq:=Below.then hq hb4;have Qk:=(n1.below hq).c0;have Qm:=(n1.below hq).c1;have Qi:=(n1.below hq).c2;have Qd:=(n1.below hq).c3;have Qg:=(n2.below hq).c0;have Qe:=(n2.below hq).c1;have Qn:=(n2.below hq).c2;have Qc:=(n2.below hq).c3;have Qf:=(n3.below hq).c0;have Ql:=(n3.below hq).c1;have Qh:=(n3.below hq).c2;have Qj:=(n3.below hq).c3;have Qq:=(n3.below hq).f0;have Qr:=(n3.below hq).f1;have Qp:=(n3.below hq).f2;have Qs:=(n3.below hq).f3)
   |(go_at_call 109;refine(H9.o _ hq ).mono ?_;clear H9;rintro e w9 ⟨v9,rfl,g9,hb9⟩;have g4:=g4.below hb9;have hq:=Below.then hq hb9;have Qk:=(n1.below hq).c0;have Qm:=(n1.below hq).c1;have Qi:=(n1.below hq).c2;have Qd:=(n1.below hq).c3;have Qg:=(n2.below hq).c0;have Qe:=(n2.below hq).c1;have Qn:=(n2.below hq).c2;have Qc:=(n2.below hq).c3;have Qf:=(n3.below hq).c0;have Ql:=(n3.below hq).c1;have Qh:=(n3.below hq).c2;have Qj:=(n3.below hq).c3;have Qq:=(n3.below hq).f0;have Qr:=(n3.below hq).f1;have Qp:=(n3.below hq).f2;have Qs:=(n3.below hq).f3)
   |(go_at_call 92;refine(Qu.o _ hq _ g4 _ g9).mono ?_;clear Qu;rintro e w10 ⟨v10,rfl,g10,hb10⟩;obtain⟨a91,l91,c91,s91,b91,k91,d91,t91,rfl⟩:=Jq.form g10;have g4:=g4.below hb10;have g9:=g9.below hb10;have hq:=Below.then hq hb10;have Qk:=(n1.below hq).c0;have Qm:=(n1.below hq).c1;have Qi:=(n1.below hq).c2;have Qd:=(n1.below hq).c3;have Qg:=(n2.below hq).c0;have Qe:=(n2.below hq).c1;have Qn:=(n2.below hq).c2;have Qc:=(n2.below hq).c3;have Qf:=(n3.below hq).c0;have Ql:=(n3.below hq).c1;have Qh:=(n3.below hq).c2;have Qj:=(n3.below hq).c3;have Qq:=(n3.below hq).f0;have Qr:=(n3.below hq).f1;have Qp:=(n3.below hq).f2;have Qs:=(n3.below hq).f3))
 all_goals go_wp2_with fail
 have Qv:=M1.o.2.2.trans (hq.mono M1.o.2.2.size);have Qw:=M1.o.ge 2 rfl;exact bodyPost_ret (v:=.agg #[.slice a91 l91 c91,.bool s91,.slice b91 k91 d91,.bool t91]) (by simp[results,Tryz.results75,go_sem,Qf,Ql,Qh,Qj]) rfl ⟨_,rfl,g10.put4 (n3.below hq) rfl rfl rfl rfl _ _ _ _,Jt Qv Qw _ _ _ _⟩
theorem Jjq(va:Value)(q:Rat)(w:World)(ha:Jq w va q):
 Calls Tryz.prog 56 #[va] w fun e w'=>e=.returned (.int .i64 q.num.sign)∧Below w.heap.size w w':=by
 obtain⟨n,hn⟩:=ex (q.num.sign);rw[hn];have HN:=Ja hn;clear hn;obtain⟨a900,l900,c900,s900,b900,k900,d900,t900,rfl⟩:=Jq.form ha;have M0:=((Mem.nil w).push (.ref (q)) ha);have M0:Mem w (w.alloc (.cells #[.slice a900 l900 c900,.bool s900,.slice b900 k900 d900,.bool t900] 49)) [some (w.heap.size,.ref (q))]:=M0;obtain⟨W0,hW0⟩:=ex (w.alloc (.cells #[.slice a900 l900 c900,.bool s900,.slice b900 k900 d900,.bool t900] 49));have Qa:=Ja hW0;rw[hW0]at M0;have M1:Hid (Mem w W0 [some (w.heap.size,.ref (q))]):=Ja M0;clear M0 hW0 ha;go_enter Tryz.func56,Tryz.ntmps56
 go_upto_region 1 with fail
 rw[Qa.o];clear Qa;obtain⟨a1,l1,c1,s1,b1,k1,d1,t1,n1,r1,i1,j1⟩:=M1.o.ref (i:=0) rfl;have e1a:=n1.c0;have e1b:=n1.c1;have e1c:=n1.c2;have e1d:=n1.c3;have HC:=Ja (Jtf _ q.num W0 i1);rw[HN.o]at HC;go_wp2_with(go_at_call 98;refine HC.o.mono ?_;clear HC;rintro e w1 ⟨rfl,hq⟩)
 go_ret;exact⟨rfl,M1.o.2.2.trans (hq.mono M1.o.2.2.size)⟩
theorem Jcq(n:Int)(h1:-9223372036854775808≤n)(h2:n≤9223372036854775807)(w:World):
 Calls Tryz.prog 62 #[.int .i64 n] w fun e w'=>∃u,e=.returned u∧Jq w' u (n:Rat)∧Below w.heap.size w w':=by
 have HO:=Ja (fun(V:World)=>Jja n h1 h2 V);clear h1 h2;have M0:=((Mem.nil w).push .zref rfl);have M0:Mem w (w.alloc (.cells #[.slice none 0 0,.bool false,.slice none 0 0,.bool false] 49)) [some (w.heap.size,.zref)]:=M0;obtain⟨W0,hW0⟩:=ex (w.alloc (.cells #[.slice none 0 0,.bool false,.slice none 0 0,.bool false] 49));have Qd:=Ja hW0;rw[hW0]at M0;have M1:Hid (Mem w W0 [some (w.heap.size,.zref)]):=Ja M0;clear M0 hW0;go_enter Tryz.func62,Tryz.ntmps62
 go_upto_region 1 with fail
 rw[Qd.o];clear Qd;have n1:=M1.o.zref (i:=0) rfl;have Qe:=n1.c0;have Qb:=n1.c1;have Qc:=n1.c2;have Qa:=n1.c3;have Qk:=n1.f0;have Qi:=n1.f1;have Qh:=n1.f2;have Qf:=n1.f3;go_wp2_with(first
  |(go_at_call 93;refine(HO.o _).mono ?_;clear HO;rintro e w1 ⟨u1,rfl,hu1,hb1⟩;obtain⟨a91,l91,c91,s91,rfl⟩:=Jo.form2 hu1)
  |(go_at_call 93;refine(Jja 1 (by omega) (by omega) _).mono ?_;rintro e w2 ⟨u2,rfl,hu2,hb2⟩;obtain⟨a92,l92,c92,s92,rfl⟩:=Jo.form2 hu2;have hq:=hb1.trans (hb2.mono hb1.size);have Qe:=(n1.below hq).c0;have Qb:=(n1.below hq).c1;have Qc:=(n1.below hq).c2;have Qa:=(n1.below hq).c3;have Qk:=(n1.below hq).f0;have Qi:=(n1.below hq).f1;have Qh:=(n1.below hq).f2;have Qf:=(n1.below hq).f3))
 have hr:Jq w2 (.agg #[.slice a91 l91 c91,.bool s91,.slice a92 l92 c92,.bool s92]) (n:Rat):=Jq.mk (hu1.below hb2) hu2;have Qg:=M1.o.2.2.trans (hq.mono M1.o.2.2.size);have Qj:=M1.o.ge 0 rfl;exact bodyPost_ret (v:=.agg #[.slice a91 l91 c91,.bool s91,.slice a92 l92 c92,.bool s92]) (by simp[results,Tryz.results62,go_sem,Qe,Qb,Qc,Qa]) rfl ⟨_,rfl,hr.put4 (n1.below hq) rfl rfl rfl rfl _ _ _ _,Jt Qg Qj _ _ _ _⟩
theorem RowK.formsF{W:World}{a:Option Addr}{l cap:Nat}{qs:List Rat}(h:RowK false W (.slice a l cap) qs):l=qs.length∧l≤cap∧cap≤9223372036854775807∧l≤1099511627776∧∃(s t:Nat→Bool) (aa bb:Nat→Option Addr) (ll cc kk dd:Nat→Nat),∀j,j<l→Jq W (.agg #[.slice (aa j) (ll j) (cc j),.bool (s j),.slice (bb j) (kk j) (dd j),.bool (t j)]) (cf qs j)∧
 ∃b,a=some ⟨b,0,none⟩∧b<W.heap.size∧W.cell? ⟨b,j*4,none⟩=some (.slice (aa j) (ll j) (cc j))∧W.cell? ⟨b,j*4+1,none⟩=some (.bool (s j))∧W.cell? ⟨b,j*4+2,none⟩=some (.slice (bb j) (kk j) (dd j))∧W.cell? ⟨b,j*4+3,none⟩=some (.bool (t j)):=by
 obtain⟨h1,h2,h3,h4,x,y,z,u,hc⟩:=h.pick;refine⟨h1,h2,h3,h4,fun j=>Js7 (y j),fun j=>Js7 (u j),fun j=>Js8 (x j),fun j=>Js8 (z j),fun j=>Jj1 (x j),fun j=>Js9 (x j),fun j=>Jj1 (z j),fun j=>Js9 (z j),fun j hj=>?_⟩;obtain⟨hi,b,ea,hb,c0,c1,c2,c3⟩:=hc j hj;obtain⟨a',l',c',s,b',k',d',t,e,_⟩:=(show Jq W _ _ from hi);simp only[Value.agg.injEq,Fv,C6,and_true]at e;obtain⟨e0,e1,e2,e3⟩:=e;rw[e0,e1,e2,e3]at hi;rw[e0]at c0;rw[e1]at c1;rw[e2]at c2;rw[e3]at c3;dsimp only;rw[e0,e1,e2,e3];exact⟨hi,b,ea,hb,c0,c1,c2,c3⟩
theorem Jo9(q:Rat):(q.num.sign==0)=decide (q=0):=by
 rw[Ck,beq_iff_eq,decide_eq_true_eq,Int.sign_eq_zero_iff_zero,Fe]
theorem Jk4{qs:List Rat}{len k:Nat}(hl:len=qs.length)(hk:k≤len)(h1:∀j,k≤j→cf qs j=0)(h2:k=0∨cf qs (k-1)≠0):Jh qs=qs.take k∧(Jh qs).length=k:=by
 have e:=Jh2 (p:=qs) (n:=k) (by omega) h2 h1;exact⟨e,by rw[e,Ag];omega⟩
theorem Jth(a:Option Addr)(len cap:Nat)(qs:List Rat)(w:World)(h:RowK false w (.slice a len cap) qs):
 Calls Tryz.prog 23 #[.slice a len cap] w fun e w'=>e=.returned (.slice a (Jh qs).length cap)∧RowK false w' (.slice a (Jh qs).length cap) (Jh qs)∧Below w.heap.size w w':=by
 obtain⟨hl,hcap,hcm,hlm,s,t,aa,bb,ll,cc,kk,dd,hc⟩:=h.formsF;have HL:=Ja hl;have HC:=Ja hc;have HH:=Ja h;clear hc hl h;go_enter Tryz.func23,Tryz.ntmps23
 go_wp2;go_loopw [3] (fun v wr=>∃k:Nat,k≤len∧v=.int .i64 (k:Int)∧Hid ((∀j,k≤j→cf qs j=0)∧Below w.heap.size w wr)) (fun v _=>(intOf v).toNat)
 case atStart=>exact⟨len,Aa _,rfl,Ja ⟨fun j hj=>J4 (by have:=HL.o;omega),Below.refl _ _⟩⟩
 case round=>
  obtain⟨k,hk,rfl,HR⟩:=hrel;cases k with
  |zero=>
   go_wp2;go_ret;obtain⟨e1,e2⟩:=Jk4 HL.o (k:=0) (AW _) HR.o.1 (Or.inl rfl);refine⟨by rw[e2];rfl,?_,HR.o.2⟩;rw[e2,e1];exact(HH.o.below HR.o.2).take (by omega)
  |succ k=>
   obtain⟨hi,b,rfl,hb,k0,k1,k2,k3⟩:=HC.o k (by omega);have hB:=HR.o.2;have HX:=Ja (hi.below hB);replace k0:=(hB.cell (p:=⟨b,_,none⟩) hb).trans k0;replace k1:=(hB.cell (p:=⟨b,_,none⟩) hb).trans k1;replace k2:=(hB.cell (p:=⟨b,_,none⟩) hb).trans k2;replace k3:=(hB.cell (p:=⟨b,_,none⟩) hb).trans k3;have HS:=Ja (Jjq _ _ wr HX.o);have hz:=Jo9 (cf qs k);clear hi hB HX;by_cases hx:cf qs k=0
   · rw[show decide (cf qs k=0)=true from decide_eq_true hx]at hz;have HZ:=Ja hx;clear hx;generalize (cf qs k).num.sign=n at HS hz;go_wp2_with(go_at_call 56;refine HS.o.mono ?_;rintro e w1 ⟨rfl,hb1⟩)
     go_roundw
     case rel=>
      refine⟨k,by omega,by simp,Ja ⟨fun j hj=>?_,HR.o.2.trans (hb1.mono HR.o.2.size)⟩⟩;by_cases hjk:j=k
      · rw[hjk];exact HZ.o
      · exact HR.o.1 j (by omega)
     case measure=>simp[intOf]
   · rw[show decide (cf qs k=0)=false from decide_eq_false hx]at hz;have HZ:=Ja hx;clear hx;generalize (cf qs k).num.sign=n at HS hz;go_wp2_with(go_at_call 56;refine HS.o.mono ?_;rintro e w1 ⟨rfl,hb1⟩)
     go_ret;have Qa:=HR.o.2.trans (hb1.mono HR.o.2.size);obtain⟨e1,e2⟩:=Jk4 HL.o (k:=k+1) (by omega) HR.o.1 (Or.inr HZ.o);refine⟨by rw[e2];rfl,?_,Qa⟩;rw[e2,e1];exact(HH.o.below Qa).take (by omega)
theorem Jer(v:Value)(qs:List Rat)(w:World)(h:RowK false w v qs):
 Calls Tryz.prog 23 #[v] w fun e w'=>∃u,e=.returned u∧RowK false w' u (Jh qs)∧Below w.heap.size w w':=by
 obtain⟨a,l,c,rfl⟩:=h.form;refine(Jth a l c qs w h).mono ?_;rintro e w' ⟨rfl,h1,h2⟩;exact⟨_,rfl,h1,h2⟩
theorem Ju5{W:World}{B:Nat}(q:JH W B 49 (.slice none 0 0) (.bool false) (.slice none 0 0) (.bool false)){v:Value}{p:Rat}(h:Jq W v p)(x y z u:Value):Jq (put4 W B x y z u) v p:=h.put4 q rfl rfl rfl rfl _ _ _ _
theorem Jns(v:Value)(qs:List Rat)(i:Int)(w:World)(h:RowK false w v qs):
 Calls Tryz.prog 18 #[v,.int .i64 i] w fun e w'=>∃u,e=.returned u∧Jq w' u (if i<0 then 0 else cf qs i.toNat)∧Below w.heap.size w w':=by
 obtain⟨a,l,c,rfl⟩:=h.form;obtain⟨hl,hcap,hcm,hlm,s,t,aa,bb,ll,cc,kk,dd,hc⟩:=h.formsF;have HL:=Ja hl;have HC:=Ja hc;clear hl hc h;have Qb:Below w.heap.size w (w.alloc (.cells #[.slice none 0 0,.bool false,.slice none 0 0,.bool false] 49)):=(Below.refl _ w).alloc (Aa _) _;have b0:=JH.new w 49 (.slice none 0 0) (.bool false) (.slice none 0 0) (.bool false);have Qa:=Ja (fun(V:World)=>Jcq 0 (by omega) (by omega) V);by_cases h0:i<0∨(l:Int)≤i
 · have HZ:=Ja (show(if i<0 then(0:Rat)else cf qs i.toNat)=((0:Int):Rat)by
    rcases h0 with h0|h0
    · rw[if_pos h0];rfl
    · rw[if_neg (by omega),J4 (by have:=HL.o;omega)];rfl)
   rw[HZ.o];obtain⟨W0,hW0⟩:=ex (w.alloc (.cells #[.slice none 0 0,.bool false,.slice none 0 0,.bool false] 49));rw[hW0]at Qb b0;have Qc:=Ja hW0;clear hW0 HC;rcases h0 with h0|h0
   · go_enter Tryz.func18,Tryz.ntmps18
     go_upto_region 1 with fail
     rw[Qc.o];go_wp2_with(go_at_call 62;refine(Qa.o _).mono ?_;clear Qa;rintro e w1 ⟨u,rfl,hu,hb1⟩;have n2:=b0.below hb1;have j0:=n2.c0;have j1:=n2.c1;have j2:=n2.c2;have j3:=n2.c3;have f0:=n2.f0;have f1:=n2.f1;have f2:=n2.f2;have f3:=n2.f3;obtain⟨a91,l91,c91,s91,b91,k91,d91,t91,rfl⟩:=Jq.form hu)
     exact bodyPost_ret (v:=.agg #[.slice a91 l91 c91,.bool s91,.slice b91 k91 d91,.bool t91]) (by simp[results,Tryz.results18,go_sem,j0,j1,j2,j3]) rfl ⟨_,rfl,Ju5 n2 hu _ _ _ _,Jt (Below.then Qb hb1) (Aa _) _ _ _ _⟩
   · have h1:¬i<0:=by omega
     go_enter Tryz.func18,Tryz.ntmps18
     go_upto_region 1 with fail
     rw[Qc.o];go_wp2_with(go_at_call 62;refine(Qa.o _).mono ?_;clear Qa;rintro e w1 ⟨u,rfl,hu,hb1⟩;have n2:=b0.below hb1;have j0:=n2.c0;have j1:=n2.c1;have j2:=n2.c2;have j3:=n2.c3;have f0:=n2.f0;have f1:=n2.f1;have f2:=n2.f2;have f3:=n2.f3;obtain⟨a91,l91,c91,s91,b91,k91,d91,t91,rfl⟩:=Jq.form hu)
     exact bodyPost_ret (v:=.agg #[.slice a91 l91 c91,.bool s91,.slice b91 k91 d91,.bool t91]) (by simp[results,Tryz.results18,go_sem,j0,j1,j2,j3]) rfl ⟨_,rfl,Ju5 n2 hu _ _ _ _,Jt (Below.then Qb hb1) (Aa _) _ _ _ _⟩
 · have h1:¬i<0:=by omega
   rw[if_neg h1];obtain⟨m,rfl⟩:∃m:Nat,i=(m:Int):=⟨i.toNat,by omega⟩;have hm:m<l:=by omega
   obtain⟨hi,b,rfl,hb,k0,k1,k2,k3⟩:=HC.o m hm;have HI:=Ja hi;rw[Cq];clear HC hi h1 h0 Qa b0 Qb;generalize s m=s1 at *;generalize t m=t1 at *;generalize aa m=a1 at *;generalize bb m=b1 at *;generalize ll m=l1 at *;generalize cc m=c1 at *;generalize kk m=k1 at *;generalize dd m=d1 at *;go_enter Tryz.func18,Tryz.ntmps18
   go_wp2;exact bodyPost_ret (v:=.agg #[.slice a1 l1 c1,.bool s1,.slice b1 k1 d1,.bool t1]) (by simp[results,Tryz.results18,go_sem]) rfl ⟨_,rfl,HI.o.below ((Below.refl _ w).alloc (Aa _) _),(Below.refl _ w).alloc (Aa _) _⟩
def XB(f:Nat→Rat)(k:Nat):List Rat:=(List.range k).map f
theorem JM(f:Nat→Rat)(k:Nat):(XB f k).length=k:=by simp[XB]
theorem YU(f:Nat→Rat)(k:Nat):XB f (k+1)=XB f k++[f k]:=by simp[XB,List.range_succ]
theorem Jes(f:Nat→Rat)(k i:Nat):cf (XB f k) i=if i<k then f i else 0:=Jiw k f i
theorem Ja3(va vb:Value)(ps qs:List Rat)(w:World)(ha:RowK false w va ps)(hb:RowK false w vb qs)(hps:Sqs ps)(hqs:Sqs qs)(hlen:ps.length<1099511627776∧qs.length<1099511627776):
 Calls Tryz.prog 30 #[va,vb] w fun e w'=>∃u,e=.returned u∧RowK false w' u (XV ps qs)∧Below w.heap.size w w':=by
 obtain⟨a,la,ca,rfl⟩:=ha.form;obtain⟨b,lb,cb,rfl⟩:=hb.form;obtain⟨hla,hca,hcma,hlma,_⟩:=ha.formsF;obtain⟨hlb,hcb,hcmb,hlmb,_⟩:=hb.formsF;obtain⟨n,hn⟩:=ex (max la lb:Nat);have HN:=Ja (show la≤n∧lb≤n∧n<1099511627776∧(∀k,k<n→k<la∨k<lb)from⟨by omega,by omega,by omega,fun k hk=>by omega⟩);have HA:=Ja ha;have HB:=Ja hb;have HP:=Ja hps;have HQ:=Ja hqs;have Qm:=Ja hla;have Ql:=Ja hlb;clear ha hb hps hqs hla hlb hca hcma hcb hcmb hn hlen;go_enter Tryz.func30,Tryz.ntmps30
 go_wp2;go_loopw [5,6] (fun o i wr=>∃k:Nat,k≤n∧i=.int .i64 (k:Int)∧(∃oa oc,o=.slice oa k oc)∧Hid (Ja2 false w.heap.size wr o (XB (fun i=>cf ps i+cf qs i) k)∧Below w.heap.size w wr)) (fun _ i _=>n-(intOf i).toNat)
 case atStart=>exact⟨0,AW _,rfl,⟨_,_,rfl⟩,Ja ⟨Ja2.nil _ _ _,Below.refl _ _⟩⟩
 case round=>
  obtain⟨k,hk,rfl,⟨oa,oc,rfl⟩,HR⟩:=hrel;by_cases hlt:k<n
  · have Qd:=Ja (Jns _ ps (k:Int) wr (HA.o.below HR.o.2));have Qg:=Ja (fun(V:World) (h:Below wr.heap.size wr V)=>Jns _ qs (k:Int) V ((HB.o.below HR.o.2).below h));rw[if_neg (by omega),Cq]at Qd;rw[show(if(k:Int)<0 then(0:Rat)else cf qs ((k:Int)).toNat)=cf qs k from by rw[if_neg (by omega),Cq]]at Qg;have Qh:=Ja (fun(V:World) (u v:Value) (hu:Jq V u (cf ps k)) (hv:Jq V v (cf qs k))=>Jra u v (cf ps k) (cf qs k) V hu hv (HP.o.at k) (HQ.o.at k));have Qk:=HN.o.2.2.2 k hlt;have HK:=Ja (show k+1≤1099511627776 by have:=HN.o.2.2.1;omega);by_cases hka:(k:Int)<(la:Int)
    all_goals
     have Qj:(k:Int)<(la:Int)∨(k:Int)<(lb:Int):=by omega
    · clear Qk Qj;go_wp2_with(first
       |(go_at_call 18;refine Qd.o.mono ?_;clear Qd;rintro e w1 ⟨u1,rfl,Qa,hb1⟩;have Qc:=hb1)
       |(go_at_call 18;refine(Qg.o _ Qc).mono ?_;clear Qg;rintro e w2 ⟨u2,rfl,hu2,hb2⟩;have Qa:=Qa.below hb2;have Qe:=Below.then Qc hb2;clear Qc)
       |(go_at_call 71;refine(Qh.o _ _ _ Qa hu2).mono ?_;clear Qh;rintro e w3 ⟨u3,rfl,hu3,hb3⟩;have Qb:=Below.then Qe hb3;clear Qe Qa hu2 hb1 hb2 hb3;obtain⟨a91,l91,c91,s91,b91,k91,d91,t91,rfl⟩:=Jq.form hu3;obtain⟨v9,w9,hap,ho9,hk9,hb9⟩:=XJ false w.heap.size w3 _ _ (HR.o.1.below Qb) hu3 (by rw[JM];exact HK.o) (by have:=HR.o.2.size;have:=Qb.size;omega);have Qf:=Ja ho9;have Qi:=Ja (hb9 w.heap.size w (Aa _) (HR.o.2.trans (Qb.mono HR.o.2.size)));clear ho9 hk9 hb9 hu3)
       |(at_builtin;refine Lib.wpList_append_run _ rfl _ _ 30 30 rfl _ _ rfl rfl _ _ hap ?_))
      obtain⟨a9,c9,e9,_⟩:=Qf.o.form;go_roundw
      case rel=>
       refine⟨k+1,by omega,by go_num,⟨a9,c9,?_⟩,Ja ⟨?_,Qi.o⟩⟩
       · rw[←YU,JM]at e9;exact e9
       · rw[YU];exact Qf.o
      case measure=>simp[intOf];omega
    · have hkb2:(k:Int)<(lb:Int):=by omega
      clear Qk Qj;go_wp2_with(first
       |(go_at_call 18;refine Qd.o.mono ?_;clear Qd;rintro e w1 ⟨u1,rfl,Qa,hb1⟩;have Qc:=hb1)
       |(go_at_call 18;refine(Qg.o _ Qc).mono ?_;clear Qg;rintro e w2 ⟨u2,rfl,hu2,hb2⟩;have Qa:=Qa.below hb2;have Qe:=Below.then Qc hb2;clear Qc)
       |(go_at_call 71;refine(Qh.o _ _ _ Qa hu2).mono ?_;clear Qh;rintro e w3 ⟨u3,rfl,hu3,hb3⟩;have Qb:=Below.then Qe hb3;clear Qe Qa hu2 hb1 hb2 hb3;obtain⟨a91,l91,c91,s91,b91,k91,d91,t91,rfl⟩:=Jq.form hu3;obtain⟨v9,w9,hap,ho9,hk9,hb9⟩:=XJ false w.heap.size w3 _ _ (HR.o.1.below Qb) hu3 (by rw[JM];exact HK.o) (by have:=HR.o.2.size;have:=Qb.size;omega);have Qf:=Ja ho9;have Qi:=Ja (hb9 w.heap.size w (Aa _) (HR.o.2.trans (Qb.mono HR.o.2.size)));clear ho9 hk9 hb9 hu3)
       |(at_builtin;refine Lib.wpList_append_run _ rfl _ _ 30 30 rfl _ _ rfl rfl _ _ hap ?_))
      obtain⟨a9,c9,e9,_⟩:=Qf.o.form;go_roundw
      case rel=>
       refine⟨k+1,by omega,by go_num,⟨a9,c9,?_⟩,Ja ⟨?_,Qi.o⟩⟩
       · rw[←YU,JM]at e9;exact e9
       · rw[YU];exact Qf.o
      case measure=>simp[intOf];omega
  · have h1:¬(k:Int)<(la:Int):=by have:=HN.o.1;omega
    have h2:¬(k:Int)<(lb:Int):=by have:=HN.o.2.1;omega
    have HT:=Ja (fun(V:World) (h:Below wr.heap.size wr V)=>Jer _ _ V ((HR.o.1.below h).row (by rw[JM];have:=HN.o.2.2.1;omega)));have HE:=Ja (show Jh (XB (fun i=>cf ps i+cf qs i) k)=XV ps qs from YD fun j=>by
     rw[Jes,Y8];split
     · rfl
     · have:=HN.o;have g1:=Qm.o;have g2:=Ql.o;rw[J4 (p:=ps) (by omega),J4 (p:=qs) (by omega)];grind)
    rw[HE.o]at HT;go_wp2_with(go_at_call 23;refine(HT.o _ (Below.refl _ _)).mono ?_;clear HT;rintro e w1 ⟨u1,rfl,Qa,hb1⟩;obtain⟨a8,l8,c8,rfl⟩:=Qa.form)
    go_ret;exact⟨_,rfl,Qa,HR.o.2.trans (hb1.mono HR.o.2.size)⟩
