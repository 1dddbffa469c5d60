import Derived.Test.YtakpoihdghihmaaGreatDoorL22
import Derived.Test.YtakpoihdghihmaaGreatDoorL24
import Derived.Deep.RegionHeld3
set_option maxRecDepth 100000
set_option maxHeartbeats 16000000
namespace Go.Proofs.YtakpoihdghihmaaGreatDoor
open Go.RowKit Go.Shelf
attribute [local go_sem] Oper.semAt_some
theorem DI:type_of% @decide_eq_decide:=@decide_eq_decide
theorem Ht(va vb:Value)(x y:Int)(w:World)(ha:Jk w va x)(hb:Jk w vb y)(hlx:(Ji O x.natAbs).length<1000000000000)(hly:(Ji O y.natAbs).length<1000000000000):
 Calls Tryz.prog 84 #[va,vb] w fun e w'=>∃u,e=.returned u∧Jk w' u (Int.gcd x y:Nat)∧Bl w w':=by
 obtain⟨a,la,ca,e0,hu⟩:=ha;cases e0;obtain⟨b,lb,cb,e0,hv⟩:=hb;cases e0;have Qc:=hu.len;have Qd:=hv.len;obtain⟨s,hs⟩:=ex (decide (x<0));obtain⟨t,ht⟩:=ex (decide (y<0));rw[hs,ht];obtain⟨W0,hW0⟩:=ex (((w.alloc (.cells #[.bool s,.slice a la ca] 35)).alloc (.cells #[.bool t,.slice b lb cb] 35)).alloc (.cells #[.bool false,.slice none 0 0] 35));have Qa:Bl w W0:=by rw[←hW0];exact Hh w _ _ _
 have b0:Jo W0 w.heap.size 35 (.bool s) (.slice a la ca):=by rw[←hW0];exact((Jo.new w _ _ _).alloc _).alloc _
 have b1:Jo W0 (w.heap.size+1) 35 (.bool t) (.slice b lb cb):=by
  have h:=(Jo.new (w.alloc (.cells #[.bool s,.slice a la ca] 35)) 35 (.bool t) (.slice b lb cb)).alloc (.cells #[.bool false,.slice none 0 0] 35);rw[BA,hW0]at h;exact h
 have bR:Jo W0 (w.heap.size+1+1) 35 (.bool false) (.slice none 0 0):=by
  have h:=Jo.new ((w.alloc (.cells #[.bool s,.slice a la ca] 35)).alloc (.cells #[.bool t,.slice b lb cb] 35)) 35 (.bool false) (.slice none 0 0);rw[BA,BA,hW0]at h;exact h
 have HT:=Ja (Vc a la ca b lb cb _ _ W0 (UN.below hu Qa) (UN.below hv Qa) (by rw[Qc];exact hlx) (by rw[Qd];exact hly));have HS:=Ja (fun(V:World) (u:Value) (hu:UN V u (Nat.gcd x.natAbs y.natAbs))=>show Calls Tryz.prog 72 #[.bool false,u] V fun e w'=>∃u,e=.returned u∧Jk w' u (Int.gcd x y:Nat)∧Bl V w' from IR false u _ V hu);have k1:=b0.c1;have k3:=b1.c1;have Qe:=Ja hW0;clear hu hv hs ht Qc Qd hlx hly hW0;go_enter Tryz.func84,Tryz.ntmps84
 go_upto_region 1 with fail
 rw[Qe.o];go_wp2_with(first
  |(go_at_call 134;refine HT.o.mono ?_;rintro e w1 ⟨u1,rfl,hu1,hb1⟩;obtain⟨na,nc,rfl⟩:=UN.form hu1)
  |(go_at_call 72;refine(HS.o _ _ hu1).mono ?_;rintro e w2 ⟨u2,rfl,hu2,hb2⟩;obtain⟨sa,sl,sc,rfl⟩:=hu2.form;obtain⟨s2,hs2⟩:=ex (decide (((Int.gcd x y:Nat):Int)<0));rw[hs2]at hu2;rw[hs2];clear hs2;have hq:=Bt hb1 hb2;obtain⟨r0,r1⟩:=(bR.below hq).cp;obtain⟨f0,f1⟩:=(bR.below hq).fp))
 have Qf:=Bt Qa hq;have Qb:=hu2.box (bR.below hq) rfl rfl (x0:=.bool s2) (x1:=.slice sa sl sc);exact BB (v:=.agg #[.bool s2,.slice sa sl sc]) (by simp[results,Tryz.results84,go_sem,r0,r1]) rfl ⟨_,rfl,Qb,(Qf.setCell (p:=⟨_,0,none⟩) (by simp only;omega) _).setCell (p:=⟨_,1,none⟩) (by simp only;omega) _⟩
theorem Vg(w:World)(o1 o2 o3 o4:Obj):Bl w ((((w.alloc o1).alloc o2).alloc o3).alloc o4):=
 (((Ba w _).alloc (by simp) _).alloc (by simp;omega) _).alloc (by simp;omega) _
theorem Pf{x y z r:Int}(hy:y≠0)(h:r+y*z=x)(h0:0≤r)(h1:r<y.natAbs):z=x/y∧r=x%y:=by
 rcases Int.lt_or_gt_of_ne hy with hn|hp
 · have h2:=(Int.ediv_emod_unique (a:=x) (b:=-y) (r:=r) (q:=-z) (by omega)).2 ⟨by rw[Int.neg_mul_neg];exact h,h0,by omega⟩;rw[Int.ediv_neg,Int.emod_neg]at h2;exact⟨by omega,h2.2.symm⟩
 · have h2:=(Int.ediv_emod_unique (a:=x) (b:=y) (r:=r) (q:=z) hp).2 ⟨h,h0,by omega⟩;exact⟨h2.1.symm,h2.2.symm⟩
theorem Vh{x y:Int}(hy:y≠0)(hc:¬(x<0∧x.natAbs%y.natAbs≠0)):
 (if(!(decide (x<0)==decide (y<0)))=true then -((x.natAbs/y.natAbs:Nat):Int)else((x.natAbs/y.natAbs:Nat):Int))=x/y∧((x.natAbs%y.natAbs:Nat):Int)=x%y:=by
 have hm:=Ce x.natAbs y.natAbs;have hlt:=Ci x.natAbs (show y.natAbs>0 by omega);generalize x.natAbs/y.natAbs=Q at *;generalize x.natAbs%y.natAbs=R at *;have Qa:(y.natAbs:Int)*Q+R=x.natAbs:=by rw[←hm];push_cast;rfl
 apply Pf hy _ (by omega) (by omega);by_cases hx:x<0<;>by_cases hy2:y<0
 · have hR:R=0:=by
    rcases Cb R with h|h
    · exact h
    · exact absurd ⟨hx,by omega⟩ hc
   have e1:(y.natAbs:Int)=-y:=by omega
   have e2:(x.natAbs:Int)=-x:=by omega
   rw[e1,e2,Int.neg_mul]at Qa;simp[hx,hy2];omega
 · have hR:R=0:=by
    rcases Cb R with h|h
    · exact h
    · exact absurd ⟨hx,by omega⟩ hc
   have e1:(y.natAbs:Int)=y:=by omega
   have e2:(x.natAbs:Int)=-x:=by omega
   rw[e1,e2]at Qa;simp[hx,hy2,Int.mul_neg];omega
 · have e1:(y.natAbs:Int)=-y:=by omega
   have e2:(x.natAbs:Int)=x:=by omega
   rw[e1,e2,Int.neg_mul]at Qa;simp[hx,hy2,Int.mul_neg];omega
 · have e1:(y.natAbs:Int)=y:=by omega
   have e2:(x.natAbs:Int)=x:=by omega
   rw[e1,e2]at Qa;simp[hx,hy2];omega
theorem Vi{x y:Int}(hy:y≠0)(hc:x<0∧x.natAbs%y.natAbs≠0):
 (if(!(decide (x<0)==decide (y<0)))=true then -((x.natAbs/y.natAbs+1:Nat):Int)else((x.natAbs/y.natAbs+1:Nat):Int))=x/y∧((y.natAbs-x.natAbs%y.natAbs:Nat):Int)=x%y:=by
 have hm:=Ce x.natAbs y.natAbs;have hlt:=Ci x.natAbs (show y.natAbs>0 by omega);generalize x.natAbs/y.natAbs=Q at *;generalize x.natAbs%y.natAbs=R at *;have Qa:(y.natAbs:Int)*Q+R=x.natAbs:=by rw[←hm];push_cast;rfl
 obtain⟨hx,hR⟩:=hc;apply Pf hy _ (by omega) (by omega);have e2:(x.natAbs:Int)=-x:=by omega
 by_cases hy2:y<0
 · have e1:(y.natAbs:Int)=-y:=by omega
   have e3:((y.natAbs-R:Nat):Int)=-y-R:=by omega
   rw[e1,e2,Int.neg_mul]at Qa;rw[e3];simp[hx,hy2,Int.mul_add];omega
 · have e1:(y.natAbs:Int)=y:=by omega
   have e3:((y.natAbs-R:Nat):Int)=y-R:=by omega
   rw[e1,e2]at Qa;rw[e3];simp[hx,hy2,Int.mul_neg,Int.mul_add];omega
theorem Vj{W:World}{B:Nat}{t:TypeId}{v0 v1 u0 u1:Value}(x0 x1 y0 y1:Value)(h:Jo W B t v0 v1)(k:Jo W (B+1) t u0 u1):
 Jo ((((W.setCell ⟨B,0,none⟩ x0).setCell ⟨B,1,none⟩ x1).setCell ⟨B+1,0,none⟩ y0).setCell ⟨B+1,1,none⟩ y1) B t x0 x1∧Jo ((((W.setCell ⟨B,0,none⟩ x0).setCell ⟨B,1,none⟩ x1).setCell ⟨B+1,0,none⟩ y0).setCell ⟨B+1,1,none⟩ y1) (B+1) t y0 y1:=
 ⟨(((h.set0 x0).set1 x1).far (by simp) y0).far (by simp) y1,(((k.far (by simp) x0).far (by simp) x1).set0 y0).set1 y1⟩
theorem Vk(w:World)(o0 o1 o2 o3:Value)(p0 p1:Value):
 Jo ((((w.alloc (.cells #[o0,o1] 35)).alloc (.cells #[o2,o3] 35)).alloc (.cells #[p0,p1] 35)).alloc (.cells #[p0,p1] 35)) w.heap.size 35 o0 o1∧
 Jo ((((w.alloc (.cells #[o0,o1] 35)).alloc (.cells #[o2,o3] 35)).alloc (.cells #[p0,p1] 35)).alloc (.cells #[p0,p1] 35)) (w.heap.size+1) 35 o2 o3∧
 Jo ((((w.alloc (.cells #[o0,o1] 35)).alloc (.cells #[o2,o3] 35)).alloc (.cells #[p0,p1] 35)).alloc (.cells #[p0,p1] 35)) (w.heap.size+1+1) 35 p0 p1∧
 Jo ((((w.alloc (.cells #[o0,o1] 35)).alloc (.cells #[o2,o3] 35)).alloc (.cells #[p0,p1] 35)).alloc (.cells #[p0,p1] 35)) (w.heap.size+1+1+1) 35 p0 p1:=by
 refine⟨(((Jo.new w _ _ _).alloc _).alloc _).alloc _,?_,?_,?_⟩
 · have h:=((Jo.new (w.alloc (.cells #[o0,o1] 35)) 35 o2 o3).alloc (.cells #[p0,p1] 35)).alloc (.cells #[p0,p1] 35);rw[BA]at h;exact h
 · have h:=(Jo.new ((w.alloc (.cells #[o0,o1] 35)).alloc (.cells #[o2,o3] 35)) 35 p0 p1).alloc (.cells #[p0,p1] 35);rw[BA,BA]at h;exact h
 · have h:=Jo.new (((w.alloc (.cells #[o0,o1] 35)).alloc (.cells #[o2,o3] 35)).alloc (.cells #[p0,p1] 35)) 35 p0 p1;rw[BA,BA,BA]at h;exact h
theorem Vl(a:Option Addr)(la ca:Nat)(b:Option Addr)(lb cb X Y:Nat)(s t:Bool)(z r:Int)(w:World)(hu:UN w (.slice a la ca) X)(hv:UN w (.slice b lb cb) Y)(hY:Y≠0)(hla:la<1000000000000)(hlb:lb<1000000000000)
(HP:Hid (¬(s=true∧X%Y≠0)→(if(!(s==t))=true then -((X/Y:Nat):Int)else((X/Y:Nat):Int))=z∧((X%Y:Nat):Int)=r))
(HN:Hid (s=true∧X%Y≠0→(if(!(s==t))=true then -((X/Y+1:Nat):Int)else((X/Y+1:Nat):Int))=z∧((Y-X%Y:Nat):Int)=r)):
 Calls Tryz.prog 135 #[.agg #[.bool s,.slice a la ca],.agg #[.bool t,.slice b lb cb]] w fun e w'=>∃q o,e=.returned (.tuple #[q,o,.bool true])∧Jk w' q z∧Jk w' o r∧Bl w w':=by
 obtain⟨b0,b1,b4,b5⟩:=Vk w (.bool s) (.slice a la ca) (.bool t) (.slice b lb cb) (.bool false) (.slice none 0 0);have Qb:=Vg w (.cells #[.bool s,.slice a la ca] 35) (.cells #[.bool t,.slice b lb cb] 35) (.cells #[.bool false,.slice none 0 0] 35) (.cells #[.bool false,.slice none 0 0] 35);obtain⟨W0,hW0⟩:=ex ((((w.alloc (.cells #[.bool s,.slice a la ca] 35)).alloc (.cells #[.bool t,.slice b lb cb] 35)).alloc (.cells #[.bool false,.slice none 0 0] 35)).alloc (.cells #[.bool false,.slice none 0 0] 35));rw[hW0]at b0 b1 b4 b5 Qb;have Qh:=Ja hW0;have hlb0:lb≠0:=fun e=>hY ((Yh Jf).1 (AB (by rw[←UN.len hv,e])));have Qn:=UN.below hu Qb;have Qd:=UN.below hv Qb;have Qm:=Ja (Mu a la ca b lb cb X Y W0 Qn Qd hY (by omega));have Qw:=Ja Qd;have Qq:=Ja (UN.len hu).symm;obtain⟨k0,k1⟩:=b0.cp;obtain⟨k2,k3⟩:=b1.cp;clear hW0 hu hv Qn Qd;go_enter Tryz.func135,Tryz.ntmps135
 go_upto_region 1 with fail
 rw[Qh.o];go_upto_region 4 with(go_at_call 176;refine Qm.o.mono ?_;rintro e w1 ⟨u1,v1,rfl,hu1,hv1,hb1⟩;obtain⟨ua,uc,rfl⟩:=UN.form hu1;obtain⟨va,vc,rfl⟩:=UN.form hv1)
 clear Qm Qh;obtain⟨k0,k1⟩:=(b0.below hb1).cp;obtain⟨k2,k3⟩:=(b1.below hb1).cp;have Qg:(Ji O (X%Y)).length=0↔X%Y=0:=⟨fun h=>(Yh Jf).1 (AB h),fun h=>by rw[h,JN];rfl⟩;have hmod:=Ci X (show Y>0 by omega);have hlu:=Xd (m:=X) (n:=X/Y) (Fy _ _);have Qk:(Ji O (X/Y)).length<1099511627776:=by
  have h1:=(JB hu1).2.2.2.1
  have:(Ji O X).length=la:=by
   have h:=Qq.o;omega
  omega
 obtain⟨lr,hlre⟩:=ex ((Ji O (X%Y)).length);obtain⟨lq,hlqe⟩:=ex ((Ji O (X/Y)).length);rw[hlre]at hv1 Qg ⊢;rw[hlqe]at hu1 Qk ⊢;obtain⟨cd,hcd⟩:=ex ((s&&decide (0<lr)):Bool);have Qc:=Ja hcd;have Qp:=Ja Qg;clear hcd Qg hlre hlqe;go_cut [29] (fun v w2=>v=.bool cd∧w2=w1)
 case first=>
  cases s with
  |false=>
   have e5:cd=false:=by rw[←Qc.o];rfl
   go_wp2_with fail
   go_meet
   case rel=>exact⟨by rw[e5],rfl⟩
  |true=>
   by_cases h5:0<lr
   · have e5:cd=true:=by rw[←Qc.o];simp;omega
     go_wp2_with fail
     go_meet
     case rel=>exact⟨by rw[e5],rfl⟩
   · have e5:cd=false:=by rw[←Qc.o];simp;omega
     go_wp2_with fail
     go_meet
     case rel=>exact⟨by rw[e5],rfl⟩
 case rest=>
  obtain⟨rfl,rfl⟩:=hcut;go_upto_if 29 with fail
  go_cut [7,8] (fun qv rv w2=>∃(qa:Option Addr) (ql qc Q:Nat) (oa:Option Addr) (ol oc R:Nat),qv=.slice qa ql qc∧rv=.slice oa ol oc∧Hid (UN w2 (.slice qa ql qc) Q)∧Hid (UN w2 (.slice oa ol oc) R)∧Hid ((if(!(s==t))=true then -(Q:Int)else(Q:Int))=z∧(R:Int)=r)∧Bl W0 w2)
  case first=>
   cases cd with
   |false=>
    have hc:¬(s=true∧X%Y≠0):=fun⟨h1,h2⟩=>by
     have h:=Qc.o;rw[h1]at h;simp at h;exact h2 (Qp.o.1 h)
    go_wp2_with fail
    go_meet
    case rel=>exact⟨_,_,_,_,_,_,_,_,rfl,rfl,Ja hu1,Ja hv1,Ja (HP.o hc),hb1⟩
   |true=>
    have hc:s=true∧X%Y≠0:=by
     have h:=Qc.o;simp at h;exact⟨h.1,fun e=>by have:=Qp.o.2 e;omega⟩
    have HC:=Ja hc;clear hc;have Qv:=Ja (show ∀V:World,Bl wc V→Calls Tryz.prog 132 #[.slice ua lq uc,.slice (some ⟨V.heap.size,0,none⟩) 1 1] (V.alloc (.cells #[.int .u64 1] 115)) fun e w'=>∃u,e=.returned u∧UN w' u (X/Y+1)∧Below (V.alloc (.cells #[.int .u64 1] 115)).heap.size (V.alloc (.cells #[.int .u64 1] 115)) w' from fun V h=>by
     have Qe:Row .u64 (V.alloc (.cells #[.int .u64 1] 115)) (.slice (some ⟨V.heap.size,0,none⟩) 1 1) (Ji O 1):=by
      rw[Mv (by omega) (by unfold O;omega)];exact(DQ.made (xs:=[1]) (BF V (.cells #[.int .u64 ((1:Nat):Int)] 115))).row 0 1 1 (by simp) (by omega) (by omega) (by omega)
     exact O3 ua lq uc (some ⟨V.heap.size,0,none⟩) 1 1 (X/Y) 1 _ (Row.below (Row.below hu1 h) (Ba V _)) Qe Qk (by omega))
    have Qz:=Ja (fun(V:World) (h:Bl wc V)=>Md b lb cb va lr vc Y (X%Y) V (Row.below (Row.below Qw.o hb1) h) (Row.below hv1 h) (by omega));have hq:Bl wc wc.drew:=(BG _ wc).drew;have bx:=b1.below hb1;go_wp2_with fail
    have k3:=bx.c1;go_region_held3 (fun w'=>w'.cell? ⟨w.heap.size+1,1,none⟩=some (.slice b lb cb)) (first|exact k3|(go_keep;done))
     (first
      |(go_at_call 132;refine(Qv.o _ hq).mono ?_;rintro e w3 ⟨u3,rfl,hu3,hb3⟩;obtain⟨pa,pc,rfl⟩:=UN.form hu3;have hq:=PV hq hb3;have k3:=(bx.below hq).c1)
      |(go_at_call 133;refine(Qz.o _ hq).mono ?_;rintro e w4 ⟨u4,rfl,hu4,hb4⟩;obtain⟨ma,mc,rfl⟩:=UN.form hu4;have hq:=Bt hq hb4;have k3:=(bx.below hq).c1))
    all_goals go_wp2_with fail
    go_meet
    case rel=>exact⟨_,_,_,_,_,_,_,_,rfl,rfl,Ja (UN.below hu3 hb4),Ja hu4,Ja (HN.o HC.o),Bt hb1 hq⟩
  case rest=>
   obtain⟨qa,ql,qc,Q,oa,ol,oc,R,rfl,rfl,hQ,hR,hZ,hb2⟩:=hcut;have Qi:=Ja (show ∀V:World,Bl wc V→Calls Tryz.prog 72 #[.bool (!(s==t)),.slice qa ql qc] V fun e w'=>∃u,e=.returned u∧Jk w' u z∧Bl V w' from fun V h=>by
    have h1:=IR (!(s==t)) _ _ V (UN.below hQ.o h);rw[hZ.o.1]at h1;exact h1)
   have Qj:=Ja (show ∀V:World,Bl wc V→Calls Tryz.prog 72 #[.bool false,.slice oa ol oc] V fun e w'=>∃u,e=.returned u∧Jk w' u r∧Bl V w' from fun V h=>by
    have h1:=IR false _ _ V (UN.below hR.o h);simp only[Cu,if_false]at h1;rw[hZ.o.2]at h1;exact h1)
   have k0:=(b0.below hb2).c0;have k2:=(b1.below hb2).c0;go_wp2_with(first
    |(go_at_call 72;refine(Qi.o _ (BG _ _)).mono ?_;clear Qi;rintro e w5 ⟨u5,rfl,hu5,hb5⟩;obtain⟨a5,l5,c5,rfl⟩:=hu5.form;obtain⟨s5,hs5⟩:=ex (decide (z<0));rw[hs5]at hu5;rw[hs5];clear hs5)
    |(go_at_call 72;refine(Qj.o _ hb5).mono ?_;clear Qj;rintro e w6 ⟨u6,rfl,hu6,hb6⟩;obtain⟨a6,l6,c6,rfl⟩:=hu6.form;obtain⟨s6,hs6⟩:=ex (decide (r<0));rw[hs6]at hu6;rw[hs6];clear hs6;have Qa:=(Bt hb2 hb5).trans (hb6.mono (Bt hb2 hb5).size);obtain⟨q0,q1⟩:=(b4.below Qa).cp;obtain⟨q2,q3⟩:=(b5.below Qa).cp;obtain⟨f0,f1⟩:=(b4.below Qa).fp;obtain⟨f2,f3⟩:=(b5.below Qa).fp))
   have Qf:=b4.below Qa;have Qo:=b5.below Qa;obtain⟨z4,z5⟩:=Vj (.bool s5) (.slice a5 l5 c5) (.bool s6) (.slice a6 l6 c6) Qf Qo;obtain⟨Qy,Qx⟩:=z4.cp;obtain⟨Qr,Qu⟩:=z5.cp;have Ql:Jo ((w6.setCell ⟨w.heap.size+1+1,0,none⟩ (.bool s5)).setCell ⟨w.heap.size+1+1,1,none⟩ (.slice a5 l5 c5)) (w.heap.size+1+1+1) 35 (.bool false) (.slice none 0 0):=(Qo.far (by simp) _).far (by simp) _;have Qs:=((hu5.below hb6).box Qf rfl rfl (x0:=.bool s5) (x1:=.slice a5 l5 c5)).box Ql rfl rfl (x0:=.bool s6) (x1:=.slice a6 l6 c6);have Qt:=(hu6.box Qf rfl rfl (x0:=.bool s5) (x1:=.slice a5 l5 c5)).box Ql rfl rfl (x0:=.bool s6) (x1:=.slice a6 l6 c6);have Ua:=Bt Qb Qa;exact BB (v:=.tuple #[.agg #[.bool s5,.slice a5 l5 c5],.agg #[.bool s6,.slice a6 l6 c6],.bool true]) (by simp[results,Tryz.results135,go_sem,Qy,Qx,Qr,Qu]) rfl ⟨_,_,rfl,Qs,Qt,(((Ua.setCell (p:=⟨_,0,none⟩) (by simp only;omega) _).setCell (p:=⟨_,1,none⟩) (by simp only;omega) _).setCell (p:=⟨_,0,none⟩) (by simp only;omega) _).setCell (p:=⟨_,1,none⟩) (by simp only;omega) _⟩
theorem Pg(va vb:Value)(x y:Int)(w:World)(ha:Jk w va x)(hb:Jk w vb y)(hy:y≠0)(hlx:(Ji O x.natAbs).length<1000000000000)(hly:(Ji O y.natAbs).length<1000000000000):
 Calls Tryz.prog 135 #[va,vb] w fun e w'=>∃q o,e=.returned (.tuple #[q,o,.bool true])∧Jk w' q (x/y)∧Jk w' o (x%y)∧Bl w w':=by
 obtain⟨a,la,ca,rfl,hu⟩:=ha;obtain⟨b,lb,cb,rfl,hv⟩:=hb;refine Vl a la ca b lb cb x.natAbs y.natAbs _ _ (x/y) (x%y) w hu hv (by omega) (by rw[UN.len hu];exact hlx) (by rw[UN.len hv];exact hly) (fun hc=>Vh hy (fun h=>hc ⟨BL h.1,h.2⟩)) (fun hc=>Vi hy ⟨Bo hc.1,hc.2⟩)
theorem Vm(z:Int):(XR z 0=0)↔z=0:=by
 unfold XR;split<;>(try split)<;>omega
theorem Ph(v:Value)(z:Int)(w:World)(h:Jk w v z):
 Calls Tryz.prog 71 #[v] w fun e w'=>e=.returned (.bool (decide (z=0)))∧Bl w w':=by
 obtain⟨a,l,c,rfl⟩:=h.form;obtain⟨s,hs⟩:=ex (decide (z<0));rw[hs]at h ⊢;clear hs;have b0:=Jo.new w 35 (.bool s) (.slice a l c);have Qa:Bl w (w.alloc (.cells #[.bool s,.slice a l c] 35)):=Ba w _;obtain⟨W0,hW0⟩:=ex (w.alloc (.cells #[.bool s,.slice a l c] 35));rw[hW0]at b0 Qa;have Qb:=Ja hW0;have HO:=Ja (Hp _ _ z 0 W0 (h.below Qa) (X2 _));obtain⟨k0,k1⟩:=b0.cp;have HZ:=Ja (Vm z);obtain⟨n,hn⟩:=ex (XR z 0);rw[hn]at HO HZ;clear hW0 hn;go_enter Tryz.func71,Tryz.ntmps71
 go_upto_region 1 with fail
 rw[Qb.o];go_wp2_with(go_at_call 64;refine HO.o.mono ?_;rintro e w1 ⟨rfl,hb1⟩)
 go_ret;refine⟨?_,Bt Qa hb1⟩;show Ending.returned (Value.bool (n==0))=_;have e:(n==0)=decide (z=0):=by rw[C3];simp[HZ.o]
 rw[e]
def dd(y:Int):Int:=if y=0 then 1 else y
theorem Pi(v:Value)(x y:Int)(w:World)(h:IW w v x y):
 Calls Tryz.prog 68 #[v] w fun e w'=>e=.returned (.bool (decide (y=0)))∧Bl w w':=by
 obtain⟨s,a,l,c,t,b,k,d,rfl,h1,h2⟩:=h;have b0:=JF.new w 37 (.bool s) (.slice a l c) (.bool t) (.slice b k d);have Qa:Bl w (w.alloc (.cells #[.bool s,.slice a l c,.bool t,.slice b k d] 37)):=Ba w _;obtain⟨W0,hW0⟩:=ex (w.alloc (.cells #[.bool s,.slice a l c,.bool t,.slice b k d] 37));rw[hW0]at b0 Qa;have Qb:=Ja hW0;have HO:=Ja (Ph _ _ W0 (h2.below Qa));have k2:=b0.c2;have k3:=b0.c3;obtain⟨n,hn⟩:=ex (decide (y=0));rw[hn]at HO ⊢;clear hW0 hn;go_enter Tryz.func68,Tryz.ntmps68
 go_upto_region 1 with fail
 rw[Qb.o];go_wp2_with(go_at_call 71;refine HO.o.mono ?_;rintro e w1 ⟨rfl,hb1⟩)
 go_ret;exact⟨rfl,Bt Qa hb1⟩
theorem Vn(v:Value)(x y:Int)(w:World)(h:IW w v x y):
 Calls Tryz.prog 70 #[v] w fun e w'=>∃u,e=.returned u∧Jk w' u (dd y)∧Bl w w':=by
 have h0:=h;obtain⟨s,a,l,c,t,b,k,d,rfl,h1,h2⟩:=h;obtain⟨W0,hW0⟩:=ex ((w.alloc (.cells #[.bool s,.slice a l c,.bool t,.slice b k d] 37)).alloc (.cells #[.bool false,.slice none 0 0] 35));have b0:JF W0 w.heap.size 37 (.bool s) (.slice a l c) (.bool t) (.slice b k d):=by rw[←hW0];exact(JF.new w _ _ _ _ _).alloc _
 have Qb:Bl w W0:=by rw[←hW0];exact Mk w _ _
 have bR:Jo W0 (w.heap.size+1) 35 (.bool false) (.slice none 0 0):=by
  have h:=Jo.new (w.alloc (.cells #[.bool s,.slice a l c,.bool t,.slice b k d] 37)) 35 (.bool false) (.slice none 0 0);rw[BA,hW0]at h;exact h
 have HO:=Ja (Pi _ x y W0 (h0.below Qb));have Qd:=Ja hW0;obtain⟨k0,k1,k2,k3⟩:=b0.cq;have HD:=Ja (h2.below Qb);clear h0 h1 h2 hW0;by_cases hq:y=0
 · rw[BL hq]at HO;have HE:=Ja (show dd y=1 by unfold dd;rw[BH hq]);clear hq;go_enter Tryz.func70,Tryz.ntmps70
   go_upto_region 1 with fail
   rw[Qd.o];go_wp2_with(first
    |(go_at_call 68;refine HO.o.mono ?_;rintro e w1 ⟨rfl,hb1⟩)
    |(go_at_call 29;refine(Ho 1 (by omega) (by omega) _).mono ?_;rintro e w2 ⟨u2,rfl,hu2,hb2⟩;obtain⟨sa,sl,sc,rfl⟩:=hu2.form;obtain⟨s2,hs2⟩:=ex (decide ((1:Int)<0));rw[hs2]at hu2;rw[hs2];clear hs2;have hq:=Bt hb1 hb2;obtain⟨r0,r1⟩:=(bR.below hq).cp;obtain⟨f0,f1⟩:=(bR.below hq).fp))
   have Qc:=Bt Qb hq;have Qa:=hu2.box (bR.below hq) rfl rfl (x0:=.bool s2) (x1:=.slice sa sl sc);exact BB (v:=.agg #[.bool s2,.slice sa sl sc]) (by simp[results,Tryz.results70,go_sem,r0,r1]) rfl ⟨_,rfl,by rw[HE.o];exact Qa,(Qc.setCell (p:=⟨_,0,none⟩) (by simp only;omega) _).setCell (p:=⟨_,1,none⟩) (by simp only;omega) _⟩
 · rw[BR hq]at HO;have HE:=Ja (show y=dd y by unfold dd;rw[BE hq]);clear hq;go_enter Tryz.func70,Tryz.ntmps70
   go_upto_region 1 with fail
   rw[Qd.o];go_wp2_with(go_at_call 68;refine HO.o.mono ?_;rintro e w1 ⟨rfl,hb1⟩;have m2:=(b0.below hb1).c2;have m3:=(b0.below hb1).c3;obtain⟨r0,r1⟩:=(bR.below hb1).cp;obtain⟨f0,f1⟩:=(bR.below hb1).fp)
   have Qc:=Bt Qb hb1;have hu:=HD.o.below hb1;rw[HE.o]at hu;have Qa:=hu.box (bR.below hb1) rfl rfl (x0:=.bool t) (x1:=.slice b k d);exact BB (v:=.agg #[.bool t,.slice b k d]) (by simp[results,Tryz.results70,go_sem,r0,r1]) rfl ⟨_,rfl,Qa,(Qc.setCell (p:=⟨_,0,none⟩) (by simp only;omega) _).setCell (p:=⟨_,1,none⟩) (by simp only;omega) _⟩
theorem Vo(q:Rat):dd (Dr q)=q.den:=by
 have:=q.den_pos;unfold dd Dr;split<;>(try split at *)<;>omega
theorem IY(v:Value)(q:Rat)(w:World)(h:Jg w v q):
 Calls Tryz.prog 68 #[v] w fun e w'=>e=.returned (.bool (decide (q.den=1)))∧Bl w w':=by
 have h1:=Pi v q.num (Dr q) w h.pair;rwa[DI.2 Ks]at h1
theorem Ex(v:Value)(q:Rat)(w:World)(h:Jg w v q):
 Calls Tryz.prog 70 #[v] w fun e w'=>∃u,e=.returned u∧Jk w' u (q.den:Int)∧Bl w w':=by
 have h1:=Vn v q.num (Dr q) w h.pair;rwa[Vo]at h1
theorem F0(va vb:Value)(x y:Int)(w:World)(ha:Jk w va x)(hb:Jk w vb y)(hy:y≠0)(hsx:Sok x)(hsy:Sok y):
 Calls Tryz.prog 85 #[va,vb] w fun e w'=>∃u,e=.returned u∧Jk w' u (x/y)∧Bl w w':=by
 obtain⟨a,la,ca,rfl⟩:=ha.form;obtain⟨b,lb,cb,rfl⟩:=hb.form;obtain⟨s,hs⟩:=ex (decide (x<0));obtain⟨t,ht⟩:=ex (decide (y<0));rw[hs]at ha ⊢;rw[ht]at hb ⊢;clear hs ht;obtain⟨W0,hW0⟩:=ex (((w.alloc (.cells #[.bool s,.slice a la ca] 35)).alloc (.cells #[.bool t,.slice b lb cb] 35)).alloc (.cells #[.bool false,.slice none 0 0] 35));have Qb:Bl w W0:=by rw[←hW0];exact Hh w _ _ _
 have b0:Jo W0 w.heap.size 35 (.bool s) (.slice a la ca):=by rw[←hW0];exact((Jo.new w _ _ _).alloc _).alloc _
 have b1:Jo W0 (w.heap.size+1) 35 (.bool t) (.slice b lb cb):=by
  have h:=(Jo.new (w.alloc (.cells #[.bool s,.slice a la ca] 35)) 35 (.bool t) (.slice b lb cb)).alloc (.cells #[.bool false,.slice none 0 0] 35);rw[BA,hW0]at h;exact h
 have bR:Jo W0 (w.heap.size+1+1) 35 (.bool false) (.slice none 0 0):=by
  have h:=Jo.new ((w.alloc (.cells #[.bool s,.slice a la ca] 35)).alloc (.cells #[.bool t,.slice b lb cb] 35)) 35 (.bool false) (.slice none 0 0);rw[BA,BA,hW0]at h;exact h
 have HS:=Ja (Pg _ _ x y W0 (ha.below Qb) (hb.below Qb) hy (by have:=hsx.words;omega) (by have:=hsy.words;omega));have Qc:=Ja hW0;obtain⟨k0,k1⟩:=b0.cp;obtain⟨k2,k3⟩:=b1.cp;clear ha hb hy hsx hsy hW0;go_enter Tryz.func85,Tryz.ntmps85
 go_upto_region 1 with fail
 rw[Qc.o];go_upto_region 2 with(go_at_call 135;refine HS.o.mono ?_;rintro e w1 ⟨u1,u2,rfl,hu1,hu2,hb1⟩;obtain⟨a1,l1,c1,rfl⟩:=hu1.form;obtain⟨s1,hs1⟩:=ex (decide (x/y<0));rw[hs1]at hu1;rw[hs1];clear hs1;obtain⟨a2,l2,c2,rfl⟩:=hu2.form;obtain⟨s2,hs2⟩:=ex (decide (x%y<0));rw[hs2]at hu2;rw[hs2];clear hs2)
 have bq:=(Jo.new w1 35 (.bool s1) (.slice a1 l1 c1)).alloc (.cells #[.bool s2,.slice a2 l2 c2] 35);have br:=((bR.below hb1).alloc (.cells #[.bool s1,.slice a1 l1 c1] 35)).alloc (.cells #[.bool s2,.slice a2 l2 c2] 35);have hu:=(hu1.alloc (.cells #[.bool s1,.slice a1 l1 c1] 35)).alloc (.cells #[.bool s2,.slice a2 l2 c2] 35);have Qd:Bl w ((w1.alloc (.cells #[.bool s1,.slice a1 l1 c1] 35)).alloc (.cells #[.bool s2,.slice a2 l2 c2] 35)):=Bt (Bt Qb hb1) (Mk w1 _ _)
 obtain⟨q0,q1⟩:=bq.cp;obtain⟨r0,r1⟩:=br.cp;obtain⟨f0,f1⟩:=br.fp;go_wp2_with fail
 have Qa:=hu.box br rfl rfl (x0:=.bool s1) (x1:=.slice a1 l1 c1);exact BB (v:=.agg #[.bool s1,.slice a1 l1 c1]) (by simp[results,Tryz.results85,go_sem,r0,r1]) rfl ⟨_,rfl,Qa,(Qd.setCell (p:=⟨_,0,none⟩) (by simp only;omega) _).setCell (p:=⟨_,1,none⟩) (by simp only;omega) _⟩
theorem My(w:World)(s t:Bool)(a b:Option Addr)(la ca lb cb:Nat)(x y:Int)(ha:Jk w (.agg #[.bool s,.slice a la ca]) x)(hb:Jk w (.agg #[.bool t,.slice b lb cb]) y):
 Mem w (((w.alloc (.cells #[.bool s,.slice a la ca] 35)).alloc (.cells #[.bool t,.slice b lb cb] 35)).alloc (.cells #[.bool false,.slice none 0 0,.bool false,.slice none 0 0] 37)) [some (w.heap.size,.int x),some (w.heap.size+1,.int y),some (w.heap.size+1+1,.rat 0)]:=by
 have h:=(((Mem.nil w).push (.int x) ha).push (.int y) (hb.alloc _)).push (.rat 0) (Xn _);rw[BA,BA,BA]at h;exact h
theorem Jg.mk{W:World}{s t:Bool}{a b:Option Addr}{l c k d:Nat}{q:Rat}(h1:Jk W (.agg #[.bool s,.slice a l c]) q.num)(h2:Jk W (.agg #[.bool t,.slice b k d]) (Dr q)):Jg W (.agg #[.bool s,.slice a l c,.bool t,.slice b k d]) q:=⟨_,_,_,_,_,_,_,_,rfl,h1,h2⟩
theorem K7(va vb:Value)(q:Rat)(w:World)(ha:Jk w va q.num)(hb:Jk w vb (q.den:Int)):
 Calls Tryz.prog 86 #[va,vb] w fun e w'=>∃u,e=.returned u∧Jg w' u q∧Bl w w':=by
 obtain⟨a,la,ca,rfl⟩:=ha.form;obtain⟨b,lb,cb,rfl⟩:=hb.form;obtain⟨s,hs⟩:=ex (decide (q.num<0));obtain⟨t,ht⟩:=ex (decide ((q.den:Int)<0));rw[hs]at ha ⊢;rw[ht]at hb ⊢;clear hs ht;have M0:=My w s t a b la ca lb cb _ _ ha hb;obtain⟨W0,hW0⟩:=ex (((w.alloc (.cells #[.bool s,.slice a la ca] 35)).alloc (.cells #[.bool t,.slice b lb cb] 35)).alloc (.cells #[.bool false,.slice none 0 0,.bool false,.slice none 0 0] 37));have b0:Jo W0 w.heap.size 35 (.bool s) (.slice a la ca):=by rw[←hW0];exact((Jo.new w _ _ _).alloc _).alloc _
 have b1:Jo W0 (w.heap.size+1) 35 (.bool t) (.slice b lb cb):=by
  have h:=(Jo.new (w.alloc (.cells #[.bool s,.slice a la ca] 35)) 35 (.bool t) (.slice b lb cb)).alloc (.cells #[.bool false,.slice none 0 0,.bool false,.slice none 0 0] 37);rw[BA,hW0]at h;exact h
 have bR:JF W0 (w.heap.size+1+1) 37 (.bool false) (.slice none 0 0) (.bool false) (.slice none 0 0):=by
  have h:=JF.new ((w.alloc (.cells #[.bool s,.slice a la ca] 35)).alloc (.cells #[.bool t,.slice b lb cb] 35)) 37 (.bool false) (.slice none 0 0) (.bool false) (.slice none 0 0);rw[BA,BA,hW0]at h;exact h
 rw[hW0]at M0;have Qa:=M0.2.2;obtain⟨HO,HA,HB,Qc⟩:=Dt (fun(V:World) (u:Value) (h:Bl W0 V) (hu:Jk V u 1)=>Hp _ u (q.den:Int) 1 V ((hb.below Qa).below h) hu) (ha.below Qa) (hb.below Qa) hW0;obtain⟨k0,k1⟩:=b0.cp;obtain⟨k2,k3⟩:=b1.cp;have HZ:=Ja (show(XR (q.den:Int) 1=0)↔q.den=1 by unfold XR;split<;>(try split)<;>omega);obtain⟨n,hn⟩:=ex (XR (q.den:Int) 1);rw[hn]at HO HZ;clear ha hb hW0 hn M0;go_enter Tryz.func86,Tryz.ntmps86
 go_upto_region 1 with fail
 rw[Qc.o];have hq:Bl W0 W0.drew:=(BG _ W0).drew;go_region_held3 (fun w'=>w'.cell? ⟨w.heap.size+1,0,none⟩=some (.bool t)∧w'.cell? ⟨w.heap.size+1,1,none⟩=some (.slice b lb cb)) (refine⟨?_,?_⟩<;>(first|(go_keep;done)|((repeat rw[J9 (by omega)]);simp[*];done)))
  (first
   |(go_at_call 29;refine(Ho 1 (by omega) (by omega) _).mono ?_;rintro e w1 ⟨u1,rfl,hu1,hb1⟩;have hq:=Bt hq hb1;obtain⟨k2,k3⟩:=(b1.below hq).cp)
   |(go_at_call 64;refine(HO.o _ _ hq hu1).mono ?_;clear HO;rintro e w2 ⟨rfl,hb2⟩;have hq:=Bt hq hb2;obtain⟨k0,k1⟩:=(b0.below hq).cp;obtain⟨k2,k3⟩:=(b1.below hq).cp;obtain⟨r0,r1,r2,r3⟩:=(bR.below hq).cq;obtain⟨f0,f1,f2,f3⟩:=(bR.below hq).fq))
 have Qb:=Bt Qa hq;have bw:=bR.below hq;by_cases hn:n=0
 · have HD:=Ja (show Dr q=0 from Ks.2 (HZ.o.1 hn));subst hn;have hr:Jg w2 (.agg #[.bool s,.slice a la ca,.bool false,.slice none 0 0]) q:=Jg.mk (HA.o.below hq) (by rw[HD.o];exact X2 _);go_wp2_with fail
   exact BB (v:=.agg #[.bool s,.slice a la ca,.bool false,.slice none 0 0]) (by simp[results,Tryz.results86,go_sem,r0,r1,r2,r3]) rfl ⟨_,rfl,hr.put4 bw rfl rfl rfl rfl _ _ _ _,Jr Qb (by omega) _ _ _ _⟩
 · have HD:=Ja (show Dr q=q.den by unfold Dr;rw[BE (fun h=>hn (HZ.o.2 h))]);have hr:Jg w2 (.agg #[.bool s,.slice a la ca,.bool t,.slice b lb cb]) q:=Jg.mk (HA.o.below hq) (by rw[HD.o];exact HB.o.below hq);go_wp2_with fail
   exact BB (v:=.agg #[.bool s,.slice a la ca,.bool t,.slice b lb cb]) (by simp[results,Tryz.results86,go_sem,r0,r1,r2,r3]) rfl ⟨_,rfl,hr.put4 bw rfl rfl rfl rfl _ _ _ _,Jr Qb (by omega) _ _ _ _⟩
theorem IZ{x y:Int}(hy:y≠0):(0:Int)<(Int.gcd x y:Nat):=by
 have:=Int.gcd_pos_of_ne_zero_right x hy;omega
theorem Pj(va vb:Value)(x y:Int)(w:World)(ha:Jk w va x)(hb:Jk w vb y)(hy:y≠0)(hsx:Sok x)(hsy:Sok y):
 Calls Tryz.prog 65 #[va,vb] w fun e w'=>∃u,e=.returned u∧Jg w' u (Rat.divInt x y)∧Bl w w':=by
 obtain⟨HX,HY,HN⟩:=Dg hsx hsy hy;clear hsx hsy hy;obtain⟨s,a,la,ca,rfl⟩:=Jk.form2 ha;obtain⟨t,b,lb,cb,rfl⟩:=Jk.form2 hb;have M0:=My w s t a b la ca lb cb _ _ ha hb;obtain⟨W0,hW0⟩:=ex (((w.alloc (.cells #[.bool s,.slice a la ca] 35)).alloc (.cells #[.bool t,.slice b lb cb] 35)).alloc (.cells #[.bool false,.slice none 0 0,.bool false,.slice none 0 0] 37));have Uk:=Ja hW0;rw[hW0]at M0;have M1:Hid (Mem w W0 [some (w.heap.size,.int (x)),some (w.heap.size+1,.int (y)),some (w.heap.size+1+1,.rat (0))]):=Ja M0;clear M0 ha hb hW0;go_enter Tryz.func65,Tryz.ntmps65
 go_upto_region 1 with fail
 rw[Uk.o];clear Uk;obtain⟨s1,a1,l1,c1,n1,i1⟩:=M1.o.int (i:=0) rfl;obtain⟨Un,Up⟩:=n1.cp;obtain⟨s2,a2,l2,c2,n2,i2⟩:=M1.o.int (i:=1) rfl;obtain⟨Uo,Um⟩:=n2.cp;go_upto_region 2 with(go_at_call 84;refine(Ht _ _ x y _ i1 i2 (by have:=HX.o.words;omega) (by have:=HY.o.words;omega)).mono ?_;rintro e w1 ⟨u,rfl,hu,hb⟩;obtain⟨s90,a90,l90,c90,rfl⟩:=Jk.form2 hu)
 obtain⟨V3,hV⟩:=ex (w1.alloc (.cells #[.bool s90,.slice a90 l90 c90] 35));obtain⟨B3,hBk⟩:=ex (w1.heap.size);have MM:Mem w (w1.alloc (.cells #[.bool s90,.slice a90 l90 c90] 35)) [some (w.heap.size,.int (x)),some (w.heap.size+1,.int (y)),some (w.heap.size+1+1,.rat (0)),some (w1.heap.size,.int (((Int.gcd x y:Nat):Int)))]:=Mem.push (M1.o.below hb) (.int (((Int.gcd x y:Nat):Int))) hu;rw[hV,hBk]at MM;rw[hV];rw[hBk];have M2:Hid (Mem w V3 [some (w.heap.size,.int (x)),some (w.heap.size+1,.int (y)),some (w.heap.size+1+1,.rat (0)),some (B3,.int (((Int.gcd x y:Nat):Int)))]):=Ja (MM);clear M1;clear MM hV hBk;clear n1 Un Up i1 n2 Uo Um i2 hu hb;have HG:=Ja (Sok.gcd HX.o HY.o);by_cases hn:y<0
 · have HL:=Ja hn;clear hn;obtain⟨s4,a4,l4,c4,n4,i4⟩:=M2.o.int (i:=1) rfl;obtain⟨Uu,Ul⟩:=n4.cp;have HO:=Ja (Hp _ _ y 0 V3 i4 (X2 _));rw[show XR y 0=-1 from by unfold XR;rw[BH HL.o]]at HO;go_upto_region 3 with(go_at_call 64;refine HO.o.mono ?_;rintro e w5 ⟨rfl,hb5⟩)
   have M3:Hid (Mem w w5 [some (w.heap.size,.int (x)),some (w.heap.size+1,.int (y)),some (w.heap.size+1+1,.rat (0)),some (B3,.int (((Int.gcd x y:Nat):Int)))]):=Ja (M2.o.below hb5);clear M2;clear n4 Uu Ul i4 HO hb5;obtain⟨s5,a5,l5,c5,n5,i5⟩:=M3.o.int (i:=3) rfl;obtain⟨Ui,Uj⟩:=n5.cp;go_upto_region 4 with(go_at_call 67;refine(Pc _ _ 0 (((Int.gcd x y:Nat):Int)) _ (X2 _) i5 (by have:=Sok.zero.words;omega) (by have:=HG.o.words;omega)).mono ?_;rintro e w6 ⟨u6,rfl,hu6,hb6⟩;obtain⟨s92,a92,l92,c92,rfl⟩:=Jk.form2 hu6;obtain⟨Ui,Uj⟩:=(n5.below hb6).cp;obtain⟨Ur,Ut⟩:=(n5.below hb6).fp)
   obtain⟨V6,hV⟩:=ex ((w6.setCell ⟨B3,0,none⟩ (.bool s92)).setCell ⟨B3,1,none⟩ (.slice a92 l92 c92));have MM:Mem w ((w6.setCell ⟨B3,0,none⟩ (.bool s92)).setCell ⟨B3,1,none⟩ (.slice a92 l92 c92)) [some (w.heap.size,.int (x)),some (w.heap.size+1,.int (y)),some (w.heap.size+1+1,.rat (0)),some (B3,.int (0-((Int.gcd x y:Nat):Int)))]:=Mem.putInt (M3.o.below hb6) (i:=3) rfl hu6;rw[hV]at MM;rw[hV];have M4:Hid (Mem w V6 [some (w.heap.size,.int (x)),some (w.heap.size+1,.int (y)),some (w.heap.size+1+1,.rat (0)),some (B3,.int (0-((Int.gcd x y:Nat):Int)))]):=Ja (MM);clear M3;clear MM hV;clear n5 Ui Uj i5 hu6 hb6;clear Ur Ut;obtain⟨Qx,HE,Uh⟩:=Dg (show(0-((Int.gcd x y:Nat):Int))≠0 by have:=IZ (x:=x) HN.o;omega) (show(0-((Int.gcd x y:Nat):Int))=(if y<0 then -((Int.gcd x y:Nat):Int)else((Int.gcd x y:Nat):Int))by rw[BH HL.o];omega) (show Sok (0-((Int.gcd x y:Nat):Int))by rw[Int.zero_sub];exact HG.o.neg);obtain⟨s7,a7,l7,c7,n7,i7⟩:=M4.o.int (i:=0) rfl;obtain⟨Qy,Ud⟩:=n7.cp;obtain⟨s8,a8,l8,c8,n8,i8⟩:=M4.o.int (i:=1) rfl;obtain⟨Qz,Ua⟩:=n8.cp;obtain⟨s9,a9,l9,c9,n9,i9⟩:=M4.o.int (i:=3) rfl;obtain⟨Uc,Ub⟩:=n9.cp;obtain⟨s10,a10,l10,c10,t10,b10,k10,d10,n10,r10,i10,j10⟩:=M4.o.rat (i:=2) rfl;obtain⟨Qa,Qn,Qe,Qf⟩:=n10.cq;obtain⟨Qq,Qt,Qv,Qo⟩:=n10.fq;obtain⟨H1,H2,H3⟩:=Dg (fun(V:World) (h:Bl V6 V)=>F0 _ _ x ((0-((Int.gcd x y:Nat):Int))) V (i7.below h) (i9.below h) Qx.o HX.o Uh.o) (fun(V:World) (h:Bl V6 V)=>F0 _ _ y ((0-((Int.gcd x y:Nat):Int))) V (i8.below h) (i9.below h) Qx.o HY.o Uh.o) (fun(V:World) (u v:Value) (hu:Jk V u (x/(0-((Int.gcd x y:Nat):Int)))) (hv:Jk V v (y/(0-((Int.gcd x y:Nat):Int))))=>K7 u v (Rat.divInt x y) V (by rw[Ov HN.o,←HE.o];exact hu) (by rw[Ow HN.o,←HE.o];exact hv));have Us:w.heap.size≠w.heap.size+1+1:=M4.o.ne 0 2 rfl rfl (by decide);have Uv:w.heap.size+1≠w.heap.size+1+1:=M4.o.ne 1 2 rfl rfl (by decide);have Uq:B3≠w.heap.size+1+1:=M4.o.ne 3 2 rfl rfl (by decide);have hq:Bl V6 V6.drew:=(BG _ V6).drew;go_region_held3 (fun w'=>w'.cell? ⟨w.heap.size,0,none⟩=some (.bool s7)∧w'.cell? ⟨w.heap.size,1,none⟩=some (.slice a7 l7 c7)∧w'.cell? ⟨w.heap.size+1,0,none⟩=some (.bool s8)∧w'.cell? ⟨w.heap.size+1,1,none⟩=some (.slice a8 l8 c8)∧w'.cell? ⟨B3,0,none⟩=some (.bool s9)∧w'.cell? ⟨B3,1,none⟩=some (.slice a9 l9 c9)) (first|(with_reducible exact⟨Qy,Ud,Qz,Ua,Uc,Ub⟩)|(go_keep;done)|(refine⟨?_,?_,?_,?_,?_,?_⟩<;>((repeat rw[J9 (by omega)]);first|assumption|(go_keep;done))))
    (first
     |(go_at_call 85;refine(H1.o _ hq).mono ?_;clear H1;rintro e w2 ⟨u2,rfl,Qp,hb2⟩;have hq:=Bt hq hb2;obtain⟨Qy,Ud⟩:=(n7.below hq).cp;obtain⟨Qz,Ua⟩:=(n8.below hq).cp;obtain⟨Uc,Ub⟩:=(n9.below hq).cp;obtain⟨Qa,Qn,Qe,Qf⟩:=(n10.below hq).cq;obtain⟨Qq,Qt,Qv,Qo⟩:=(n10.below hq).fq)
     |(go_at_call 85;refine(H2.o _ hq).mono ?_;clear H2;rintro e w3 ⟨u3,rfl,hu3,hb3⟩;have Qp:=Qp.below hb3;have hq:=Bt hq hb3;obtain⟨Qy,Ud⟩:=(n7.below hq).cp;obtain⟨Qz,Ua⟩:=(n8.below hq).cp;obtain⟨Uc,Ub⟩:=(n9.below hq).cp;obtain⟨Qa,Qn,Qe,Qf⟩:=(n10.below hq).cq;obtain⟨Qq,Qt,Qv,Qo⟩:=(n10.below hq).fq)
     |(go_at_call 86;refine(H3.o _ _ _ Qp hu3).mono ?_;clear H3;rintro e w4 ⟨u4,rfl,hu4,hb4⟩;obtain⟨s91,a91,l91,c91,t91,b91,k91,d91,rfl⟩:=Jg.form hu4;have hq:=Bt hq hb4;obtain⟨Qy,Ud⟩:=(n7.below hq).cp;obtain⟨Qz,Ua⟩:=(n8.below hq).cp;obtain⟨Uc,Ub⟩:=(n9.below hq).cp;obtain⟨Qa,Qn,Qe,Qf⟩:=(n10.below hq).cq;obtain⟨Qq,Qt,Qv,Qo⟩:=(n10.below hq).fq))
   all_goals go_wp2_with fail
   have Ug:=Bt M4.o.2.2 hq;exact BB (v:=.agg #[.bool s91,.slice a91 l91 c91,.bool t91,.slice b91 k91 d91]) (by simp[results,Tryz.results65,go_sem,Qa,Qn,Qe,Qf]) rfl ⟨_,rfl,hu4.put4 (n10.below hq) rfl rfl rfl rfl _ _ _ _,Jr Ug (by omega) _ _ _ _⟩
 · have HL:=Ja hn;clear hn;obtain⟨s11,a11,l11,c11,n11,i11⟩:=M2.o.int (i:=1) rfl;obtain⟨Uf,Ue⟩:=n11.cp;have HO:=Ja (Hp _ _ y 0 V3 i11 (X2 _));rw[show XR y 0=1 from by have h1:=HL.o;have h2:=HN.o;unfold XR;rw[BE (by omega),BH (by omega)]]at HO;go_upto_region 4 with(go_at_call 64;refine HO.o.mono ?_;rintro e w5 ⟨rfl,hb5⟩)
   have M3:Hid (Mem w w5 [some (w.heap.size,.int (x)),some (w.heap.size+1,.int (y)),some (w.heap.size+1+1,.rat (0)),some (B3,.int (((Int.gcd x y:Nat):Int)))]):=Ja (M2.o.below hb5);clear M2;clear n11 Uf Ue i11 HO hb5;have Qx:=Ja (show((Int.gcd x y:Nat):Int)≠0 by have:=IZ (x:=x) HN.o;omega);have HE:=Ja (show((Int.gcd x y:Nat):Int)=(if y<0 then -((Int.gcd x y:Nat):Int)else((Int.gcd x y:Nat):Int))by rw[BE (by have:=HL.o;omega)]);obtain⟨s12,a12,l12,c12,n12,i12⟩:=M3.o.int (i:=0) rfl;obtain⟨Ql,Qk⟩:=n12.cp;obtain⟨s13,a13,l13,c13,n13,i13⟩:=M3.o.int (i:=1) rfl;obtain⟨Qc,Qj⟩:=n13.cp;obtain⟨s14,a14,l14,c14,n14,i14⟩:=M3.o.int (i:=3) rfl;obtain⟨Qb,Qg⟩:=n14.cp;obtain⟨s15,a15,l15,c15,t15,b15,k15,d15,n15,r15,i15,j15⟩:=M3.o.rat (i:=2) rfl;obtain⟨Qh,Qd,Qm,Qi⟩:=n15.cq;obtain⟨Qs,Qw,Qr,Qu⟩:=n15.fq;obtain⟨H1,H2,H3⟩:=Dg (fun(V:World) (h:Bl w5 V)=>F0 _ _ x (((Int.gcd x y:Nat):Int)) V (i12.below h) (i14.below h) Qx.o HX.o HG.o) (fun(V:World) (h:Bl w5 V)=>F0 _ _ y (((Int.gcd x y:Nat):Int)) V (i13.below h) (i14.below h) Qx.o HY.o HG.o) (fun(V:World) (u v:Value) (hu:Jk V u (x/((Int.gcd x y:Nat):Int))) (hv:Jk V v (y/((Int.gcd x y:Nat):Int)))=>K7 u v (Rat.divInt x y) V (by rw[Ov HN.o,←HE.o];exact hu) (by rw[Ow HN.o,←HE.o];exact hv));have Us:w.heap.size≠w.heap.size+1+1:=M3.o.ne 0 2 rfl rfl (by decide);have Uv:w.heap.size+1≠w.heap.size+1+1:=M3.o.ne 1 2 rfl rfl (by decide);have Uq:B3≠w.heap.size+1+1:=M3.o.ne 3 2 rfl rfl (by decide);have hq:Bl w5 w5.drew:=(BG _ w5).drew;go_region_held3 (fun w'=>w'.cell? ⟨w.heap.size,0,none⟩=some (.bool s12)∧w'.cell? ⟨w.heap.size,1,none⟩=some (.slice a12 l12 c12)∧w'.cell? ⟨w.heap.size+1,0,none⟩=some (.bool s13)∧w'.cell? ⟨w.heap.size+1,1,none⟩=some (.slice a13 l13 c13)∧w'.cell? ⟨B3,0,none⟩=some (.bool s14)∧w'.cell? ⟨B3,1,none⟩=some (.slice a14 l14 c14)) (first|(with_reducible exact⟨Ql,Qk,Qc,Qj,Qb,Qg⟩)|(go_keep;done)|(refine⟨?_,?_,?_,?_,?_,?_⟩<;>((repeat rw[J9 (by omega)]);first|assumption|(go_keep;done))))
    (first
     |(go_at_call 85;refine(H1.o _ hq).mono ?_;clear H1;rintro e w2 ⟨u2,rfl,Qp,hb2⟩;have hq:=Bt hq hb2;obtain⟨Ql,Qk⟩:=(n12.below hq).cp;obtain⟨Qc,Qj⟩:=(n13.below hq).cp;obtain⟨Qb,Qg⟩:=(n14.below hq).cp;obtain⟨Qh,Qd,Qm,Qi⟩:=(n15.below hq).cq;obtain⟨Qs,Qw,Qr,Qu⟩:=(n15.below hq).fq)
     |(go_at_call 85;refine(H2.o _ hq).mono ?_;clear H2;rintro e w3 ⟨u3,rfl,hu3,hb3⟩;have Qp:=Qp.below hb3;have hq:=Bt hq hb3;obtain⟨Ql,Qk⟩:=(n12.below hq).cp;obtain⟨Qc,Qj⟩:=(n13.below hq).cp;obtain⟨Qb,Qg⟩:=(n14.below hq).cp;obtain⟨Qh,Qd,Qm,Qi⟩:=(n15.below hq).cq;obtain⟨Qs,Qw,Qr,Qu⟩:=(n15.below hq).fq)
     |(go_at_call 86;refine(H3.o _ _ _ Qp hu3).mono ?_;clear H3;rintro e w4 ⟨u4,rfl,hu4,hb4⟩;obtain⟨s91,a91,l91,c91,t91,b91,k91,d91,rfl⟩:=Jg.form hu4;have hq:=Bt hq hb4;obtain⟨Ql,Qk⟩:=(n12.below hq).cp;obtain⟨Qc,Qj⟩:=(n13.below hq).cp;obtain⟨Qb,Qg⟩:=(n14.below hq).cp;obtain⟨Qh,Qd,Qm,Qi⟩:=(n15.below hq).cq;obtain⟨Qs,Qw,Qr,Qu⟩:=(n15.below hq).fq))
   all_goals go_wp2_with fail
   have Ug:=Bt M3.o.2.2 hq;exact BB (v:=.agg #[.bool s91,.slice a91 l91 c91,.bool t91,.slice b91 k91 d91]) (by simp[results,Tryz.results65,go_sem,Qh,Qd,Qm,Qi]) rfl ⟨_,rfl,hu4.put4 (n15.below hq) rfl rfl rfl rfl _ _ _ _,Jr Ug (by omega) _ _ _ _⟩
theorem K8(w:World)(s t s' t':Bool)(a b a' b':Option Addr)(l c k d l' c' k' d':Nat)(p q:Rat)(hp:Jg w (.agg #[.bool s,.slice a l c,.bool t,.slice b k d]) p)(hq:Jg w (.agg #[.bool s',.slice a' l' c',.bool t',.slice b' k' d']) q):
 Mem w (((w.alloc (.cells #[.bool s,.slice a l c,.bool t,.slice b k d] 37)).alloc (.cells #[.bool s',.slice a' l' c',.bool t',.slice b' k' d'] 37)).alloc (.cells #[.bool false,.slice none 0 0,.bool false,.slice none 0 0] 37)) [some (w.heap.size,.rat p),some (w.heap.size+1,.rat q),some (w.heap.size+1+1,.rat 0)]:=by
 have h:=(((Mem.nil w).push (.rat p) hp).push (.rat q) (hq.below (Ba w _))).push (.rat 0) (Xn _);rw[BA,BA,BA]at h;exact h
theorem Vp(w:World)(s t s' t':Bool)(a b a' b':Option Addr)(l c k d l' c' k' d':Nat)(p q:Rat)(hp:Jg w (.agg #[.bool s,.slice a l c,.bool t,.slice b k d]) p)(hq:Jg w (.agg #[.bool s',.slice a' l' c',.bool t',.slice b' k' d']) q):
 Mem w ((w.alloc (.cells #[.bool s,.slice a l c,.bool t,.slice b k d] 37)).alloc (.cells #[.bool s',.slice a' l' c',.bool t',.slice b' k' d'] 37)) [some (w.heap.size,.rat p),some (w.heap.size+1,.rat q)]:=by
 have h:=((Mem.nil w).push (.rat p) hp).push (.rat q) (hq.below (Ba w _));rw[BA]at h;exact h
theorem K9{q:Rat}(h:q.den=1):q=(q.num:Rat):=Rat.ext rfl h
theorem Vq{p q:Rat}(hp:p.den=1)(hq:q.den=1):(p+q).num=p.num+q.num∧(p+q).den=1:=by
 have h:p+q=((p.num+q.num:Int):Rat):=by rw[Rat.intCast_add,←K9 hp,←K9 hq]
 rw[h];exact⟨rfl,rfl⟩
theorem Vr{p q:Rat}(hp:p.den=1)(hq:q.den=1):(p*q).num=p.num*q.num∧(p*q).den=1:=by
 have h:p*q=((p.num*q.num:Int):Rat):=by rw[CF,←K9 hp,←K9 hq]
 rw[h];exact⟨rfl,rfl⟩
theorem Vs(p q:Rat)(hp:Sq p)(hq:Sq q)(cm lf rt ab ag:Int)(h1:((Int.gcd (p.den:Int) (q.den:Int):Nat):Int)=cm)(h2:(p.den:Int)/cm=lf)(h3:(q.den:Int)/cm=rt)(h4:p.num*rt+q.num*lf=ab)(h5:((Int.gcd ab cm:Nat):Int)=ag):
 Sok cm∧cm≠0∧Sok lf∧Sok rt∧Sok ab∧Sok ag∧ag≠0∧Sok (p.num*rt)∧Sok (q.num*lf)∧(p+q).num=ab/ag∧((p+q).den:Int)=lf*(q.den/ag):=by
 have hl:=TK p q cm lf rt ab ag h1.symm h2.symm h3.symm h4.symm h5.symm;have Qb:cm≠0:=by rw[←h1];have:=IZ (x:=(p.den:Int)) (y:=q.den) (by have:=q.den_nz;omega);omega
 have sc:Sok cm:=by rw[←h1];exact hp.den.gcd hq.den
 have Qd:Sm 1000000000 lf:=by rw[←h2];exact hp.sm.2.div
 have Qc:Sm 1000000000 rt:=by rw[←h3];exact hq.sm.2.div
 have s1:=hp.sm.1.mul Qc;have s2:=hq.sm.1.mul Qd;have Qa:Sok ab:=by rw[←h4];exact Sok.of (s1.add s2) (by omega)
 refine⟨sc,Qb,Sok.of Qd (by omega),Sok.of Qc (by omega),Qa,by rw[←h5];exact Qa.gcd sc,?_,Sok.of s1 (by omega),Sok.of s2 (by omega),hl.1,hl.2⟩;rw[←h5];have:=IZ (x:=ab) Qb;omega
theorem Hu(va vb:Value)(p q:Rat)(w:World)(ha:Jg w va p)(hb:Jg w vb q)(hsp:Sq p)(hsq:Sq q):
 Calls Tryz.prog 34 #[va,vb] w fun e w'=>∃u,e=.returned u∧Jg w' u (p+q)∧Bl w w':=by
 obtain⟨s,a,l,c,t,b,k,d,rfl⟩:=Jg.form ha;obtain⟨s',a',l',c',t',b',k',d',rfl⟩:=Jg.form hb;have M0:=K8 w s t s' t' a b a' b' l c k d l' c' k' d' p q ha hb;obtain⟨W0,hW0⟩:=ex (((w.alloc (.cells #[.bool s,.slice a l c,.bool t,.slice b k d] 37)).alloc (.cells #[.bool s',.slice a' l' c',.bool t',.slice b' k' d'] 37)).alloc (.cells #[.bool false,.slice none 0 0,.bool false,.slice none 0 0] 37));have Ug:=Ja hW0;rw[hW0]at M0;have M1:Hid (Mem w W0 [some (w.heap.size,.rat (p)),some (w.heap.size+1,.rat (q)),some (w.heap.size+1+1,.rat (0))]):=Ja M0;have Qy:Tryz.prog.follows .mixedOrders=true:=by kernel_rfl
 have HP:=Ja hsp;have HQ:=Ja hsq;clear M0 ha hb hW0 hsp hsq;go_enter Tryz.func34,Tryz.ntmps34
 go_upto_region 1 with fail
 rw[Ug.o];clear Ug;obtain⟨bb,hbb⟩:=ex (decide (p.den=1∧q.den=1):Bool);have Qu:=Ja hbb;clear hbb;go_cut [15] (fun c w'=>c=.bool bb∧Hid (Mem w w' [some (w.heap.size,.rat (p)),some (w.heap.size+1,.rat (q)),some (w.heap.size+1+1,.rat (0))]))
 case first=>
  obtain⟨s1,a1,l1,c1,t1,b1,k1,d1,n1,r1,i1,j1⟩:=M1.o.rat (i:=0) rfl;obtain⟨Ut,Uv,Uz,Wa⟩:=n1.cq;obtain⟨s2,a2,l2,c2,t2,b2,k2,d2,n2,r2,i2,j2⟩:=M1.o.rat (i:=1) rfl;obtain⟨Uu,Ur,Uq,Wc⟩:=n2.cq;have H1:=Ja (IY _ p W0 r1);have H2:=Ja (fun(V:World) (h:Bl W0 V)=>IY _ q V (r2.below h));by_cases h1:p.den=1
  · rw[BL h1]at H1;obtain⟨b2,hb2⟩:=ex (decide (q.den=1));rw[hb2]at H2;have Qz:=Ja (show b2=bb by rw[←hb2,←Qu.o];exact DI.2 ⟨fun h=>⟨h1,h⟩,fun h=>h.2⟩);clear hb2 h1;go_wp2_with(first
     |(go_at_call 68;refine H1.o.mono ?_;clear H1;rintro e w1 ⟨rfl,hb1⟩;obtain⟨Ut,Uv,Uz,Wa⟩:=(n1.below hb1).cq;obtain⟨Uu,Ur,Uq,Wc⟩:=(n2.below hb1).cq)
     |(go_at_call 68;refine(H2.o _ hb1).mono ?_;clear H2;rintro e w2 ⟨rfl,hb2⟩))
    go_meet
    case rel=>exact⟨by rw[Qz.o],Ja ((M1.o.below hb1).below hb2)⟩
  · rw[BR h1]at H1;have Qz:=Ja (show bb=false by rw[←Qu.o];exact BR (fun h=>h1 h.1));clear h1;go_wp2_with(go_at_call 68;refine H1.o.mono ?_;clear H1;rintro e w1 ⟨rfl,hb1⟩)
    go_meet
    case rel=>exact⟨by rw[Qz.o],Ja (M1.o.below hb1)⟩
 obtain⟨rfl,MM⟩:=hcut;have M2:Hid (Mem w wc [some (w.heap.size,.rat (p)),some (w.heap.size+1,.rat (q)),some (w.heap.size+1+1,.rat (0))]):=MM;clear M1 MM;cases bb with
 |true=>
  have Qv:=Bo Qu.o;have HW:=Ja (Vq Qv.1 Qv.2);clear Qv Qu;obtain⟨s3,a3,l3,c3,t3,b3,k3,d3,n3,r3,i3,j3⟩:=M2.o.rat (i:=0) rfl;obtain⟨e3a,e3b⟩:=n3.cp;obtain⟨s4,a4,l4,c4,t4,b4,k4,d4,n4,r4,i4,j4⟩:=M2.o.rat (i:=1) rfl;obtain⟨e4a,e4b⟩:=n4.cp;obtain⟨s5,a5,l5,c5,t5,b5,k5,d5,n5,r5,i5,j5⟩:=M2.o.rat (i:=2) rfl;obtain⟨Un,Ue,Uk,Um⟩:=n5.cq;obtain⟨Ux,Uy,Up,Uw⟩:=n5.fq;go_wp2_with(go_at_call 83;refine(Mj _ _ p.num q.num _ i3 i4 (by have:=HP.o.num.words;omega) (by have:=HQ.o.num.words;omega)).mono ?_;rintro e w1 ⟨u,rfl,hu,hq⟩;obtain⟨s90,a90,l90,c90,rfl⟩:=Jk.form2 hu;obtain⟨Un,Ue,Uk,Um⟩:=(n5.below hq).cq;obtain⟨Ux,Uy,Up,Uw⟩:=(n5.below hq).fq)
  have hr:Jg w1 (.agg #[.bool s90,.slice a90 l90 c90,.bool false,.slice none 0 0]) (p+q):=Jg.mk (by rw[HW.o.1];exact hu) (by rw[Ks.2 HW.o.2];exact X2 _);have Uc:=Bt M2.o.2.2 hq;exact BB (v:=.agg #[.bool s90,.slice a90 l90 c90,.bool false,.slice none 0 0]) (by simp[results,Tryz.results34,go_sem,Un,Ue,Uk,Um]) rfl ⟨_,rfl,hr.put4 (n5.below hq) rfl rfl rfl rfl _ _ _ _,Jr Uc (by omega) _ _ _ _⟩
 |false=>
  clear Qu;obtain⟨cm,hcm⟩:=ex (((Int.gcd (p.den:Int) (q.den:Int):Nat):Int):Int);have Ul:=Ja hcm;clear hcm;obtain⟨lf,hlf⟩:=ex ((p.den:Int)/cm:Int);have Ui:=Ja hlf;clear hlf;obtain⟨rt,hrt⟩:=ex ((q.den:Int)/cm:Int);have Ud:=Ja hrt;clear hrt;obtain⟨ab,hab⟩:=ex (p.num*rt+q.num*lf:Int);have Uj:=Ja hab;clear hab;obtain⟨ag,hag⟩:=ex (((Int.gcd ab cm:Nat):Int):Int);have Uh:=Ja hag;clear hag;obtain⟨S1,S2,S3,S4,S5,S6,S7,S8,S9,S10,S11⟩:=Vs p q HP.o HQ.o cm lf rt ab ag Ul.o Ui.o Ud.o Uj.o Uh.o;obtain⟨T1,T2,T3,T4,T5,T6,T7,T8⟩:=GK S1 S2 S3 S4 S5 S6 S7 S8;obtain⟨T9,Wb,Us⟩:=Dg S9 S10 S11;clear S1 S2 S3 S4 S5 S6 S7 S8 S9 S10 S11;go_upto_region 3 with fail
  refine Jm Qy [[],[0],[],[2,1],[1,3,3],[],[5,4,4,0,1,2,3,4,5]] (by kernel_rfl) (by decide)
   (fun D act V=>∃(ta tb tc td te tz:Value) (x5:Option (Nat × Dat)),act={ tmps:=#[.agg #[.bool s,.slice a l c,.bool t,.slice b k d],.agg #[.bool s',.slice a' l' c',.bool t',.slice b' k' d'],.pointer (some ⟨w.heap.size,0,none⟩),.pointer (some ⟨w.heap.size+1,0,none⟩),.pointer (some ⟨w.heap.size+1+1,0,none⟩),tz,undef,undef,undef,undef,u10,u11,u12,u13,u14,.bool false,u16,u17,u18,u19,u20,u21,ta,tb,tc,td,te,u27,u28,u29,u30,u31,u32,u33,u34,u35,u36,u37,u38,u39,u40,u41,u42,u43,u44,u45,u46,u47,u48,u49,u50,u51,u52,u53,u54,u55,u56],defers:=[] }∧Hid ((D 0=true→Has V ta (.rat (p)))∧(D 1=true→Has V tb (.int ((p.den:Int))))∧(D 2=true→Has V tc (.rat (q)))∧(D 3=true→Has V td (.int ((q.den:Int))))∧(D 4=true→Has V te (.int (cm)))∧((D 5=false→x5=none)∧(D 5=true→D 6=false→∃B:Nat,tz=.pointer (some ⟨B,0,none⟩)∧x5=some (B,.int 0))∧(D 6=true→∃B:Nat,tz=.pointer (some ⟨B,0,none⟩)∧x5=some (B,.int (cm)))))∧Hid (Mem w V [some (w.heap.size,.rat (p)),some (w.heap.size+1,.rat (q)),some (w.heap.size+1+1,.rat (0)),x5]))
   ⟨_,_,_,_,_,_,none,rfl,Ja ⟨by simp,by simp,by simp,by simp,by simp,by simp⟩,Ja ((M2.o).none).drew⟩ ?step6 ?fin6
  case step6=>
   rintro D act V i ds hcl hi hds hDi ⟨ta,tb,tc,td,te,tz,x5,rfl,GG,MM⟩;have Uf:i<7:=(Ae.1 hi).1;obtain rfl|rfl|rfl|rfl|rfl|rfl|rfl:=Gw i (by omega)
   all_goals
    simp only[Ai,Ag,Ak]at hi;subst hi
   · clear hds;obtain⟨s,a,l,c,t,b,k,d,n,r,i,j⟩:=MM.o.rat (i:=0) rfl;obtain⟨e0,e1,e2,e3⟩:=n.cq;refine Va ?_;exact⟨_,_,_,_,_,_,_,rfl,(Di GG fun _=>r),Ja (MM.o)⟩
   · have h0:=(GG.o.1 (hds 0 (by simp)));have HC:=Ja (Ex _ p V h0);clear hds h0;refine Jb rfl rfl fun K hK=>?_;go_simp;go_wp2_with(go_at_call 70;refine HC.o.mono ?_;rintro e w5 ⟨v5,rfl,hv5,hb5⟩)
     obtain⟨G0,_,G2,G3,G4,G5⟩:=GG.o;exact⟨_,_,_,_,_,_,_,rfl,Ja ⟨fun h=>(G0 h).below hb5,fun _=>hv5,fun h=>(G2 h).below hb5,fun h=>(G3 h).below hb5,fun h=>(G4 h).below hb5,G5⟩,Ja (MM.o.below hb5)⟩
   · clear hds;obtain⟨s,a,l,c,t,b,k,d,n,r,i,j⟩:=MM.o.rat (i:=1) rfl;obtain⟨e0,e1,e2,e3⟩:=n.cq;refine Va ?_;exact⟨_,_,_,_,_,_,_,rfl,(De GG fun _=>r),Ja (MM.o)⟩
   · have h0:=(GG.o.2.2.1 (hds 2 (by simp)));have HC:=Ja (Ex _ q V h0);clear hds h0;refine Jb rfl rfl fun K hK=>?_;go_simp;go_wp2_with(go_at_call 70;refine HC.o.mono ?_;rintro e w5 ⟨v5,rfl,hv5,hb5⟩)
     obtain⟨G0,G1,G2,_,G4,G5⟩:=GG.o;exact⟨_,_,_,_,_,_,_,rfl,Ja ⟨fun h=>(G0 h).below hb5,fun h=>(G1 h).below hb5,fun h=>(G2 h).below hb5,fun _=>hv5,fun h=>(G4 h).below hb5,G5⟩,Ja (MM.o.below hb5)⟩
   · have h0:=(GG.o.2.1 (hds 1 (by simp)));have h1:=(GG.o.2.2.2.1 (hds 3 (by simp)));have HC:=Ja ((by have h:=Ht _ _ (p.den:Int) (q.den:Int) V h0 h1 (by have:=HP.o.den.words;omega) (by have:=HQ.o.den.words;omega);rw[Ul.o]at h;exact h));clear hds h0 h1;refine Jb rfl rfl fun K hK=>?_;go_simp;go_wp2_with(go_at_call 84;refine HC.o.mono ?_;rintro e w5 ⟨v5,rfl,hv5,hb5⟩)
     obtain⟨G0,G1,G2,G3,_,G5⟩:=GG.o;exact⟨_,_,_,_,_,_,_,rfl,Ja ⟨fun h=>(G0 h).below hb5,fun h=>(G1 h).below hb5,fun h=>(G2 h).below hb5,fun h=>(G3 h).below hb5,fun _=>hv5,G5⟩,Ja (MM.o.below hb5)⟩
   · have hf:D 6=false:=DP hcl hDi;obtain rfl:=Du GG hDi;clear hds;refine Va ?_;obtain⟨G0,G1,G2,G3,G4,_⟩:=GG.o;exact⟨_,_,_,_,_,_,_,rfl,Ja ⟨fun h=>(G0 h).alloc _,fun h=>(G1 h).alloc _,fun h=>(G2 h).alloc _,fun h=>(G3 h).alloc _,fun h=>(G4 h).alloc _,⟨fun h=>by simp at h,fun _ _=>⟨_,rfl,rfl⟩,fun h=>by simp[hf]at h⟩⟩,Ja (MM.o.fill (i:=3) rfl (.int 0) (X2 _))⟩
   · obtain⟨B,rfl,rfl⟩:=EJ GG (hds 5 (by simp)) hDi;have Qa:=hds 5 (by simp);have hv:=(GG.o.2.2.2.2.1 (hds 4 (by simp)));obtain⟨s1,a1,l1,c1,rfl⟩:=Jk.form2 (show Jk V _ _ from hv);obtain⟨s,a,l,c,n,i⟩:=MM.o.int (i:=3) rfl;have e0:=n.c0;have f0:=n.f0;have e1:=n.c1;have f1:=n.f1;clear hds;refine Va ?_;obtain⟨G0,G1,G2,G3,G4,_⟩:=GG.o;exact⟨_,_,_,_,_,_,_,rfl,Ja ⟨fun h=>(G0 h).set2 n rfl rfl _ _,fun h=>(G1 h).set2 n rfl rfl _ _,fun h=>(G2 h).set2 n rfl rfl _ _,fun h=>(G3 h).set2 n rfl rfl _ _,fun h=>(G4 h).set2 n rfl rfl _ _,⟨fun h=>by simp[Qa]at h,fun _ h=>by simp at h,fun _=>⟨B,rfl,rfl⟩⟩⟩,Ja (MM.o.putInt (i:=3) rfl hv)⟩
  rintro D act V7 hDD ⟨ta,tb,tc,td,te,tz,x5,rfl,GG,MM⟩;obtain⟨B8,rfl,rfl⟩:=GG.o.2.2.2.2.2.2.2 (hDD 6 (by decide));clear GG hDD M2;have M3:Hid (Mem w V7 [some (w.heap.size,.rat (p)),some (w.heap.size+1,.rat (q)),some (w.heap.size+1+1,.rat (0)),some (B8,.int (cm))]):=MM;clear MM;go_upto_region 4 with fail
  refine Jm Qy [[],[0],[],[1,2,1],[],[4,3],[],[5,6,5],[],[],[8,3,7,0,1,2,3,8,9],[9,7,10,0,1,2,3,4,5,6,7,8,9,10]] (by kernel_rfl) (by decide)
   (fun D act V=>∃(tg ti tj tk tl tm tn tp tA tB:Value) (x8 x9:Option (Nat × Dat)),act={ tmps:=#[.agg #[.bool s,.slice a l c,.bool t,.slice b k d],.agg #[.bool s',.slice a' l' c',.bool t',.slice b' k' d'],.pointer (some ⟨w.heap.size,0,none⟩),.pointer (some ⟨w.heap.size+1,0,none⟩),.pointer (some ⟨w.heap.size+1+1,0,none⟩),.pointer (some ⟨B8,0,none⟩),tA,tB,undef,undef,u10,u11,u12,u13,u14,.bool false,u16,u17,u18,u19,u20,u21,ta,tb,tc,td,te,tg,ti,tj,tk,tl,tm,tn,tp,u35,u36,u37,u38,u39,u40,u41,u42,u43,u44,u45,u46,u47,u48,u49,u50,u51,u52,u53,u54,u55,u56],defers:=[] }∧Hid ((D 0=true→Has V tg (.rat (p)))∧(D 1=true→Has V ti (.int ((p.den:Int))))∧(D 2=true→Has V tj (.int (cm)))∧(D 3=true→Has V tk (.int (lf)))∧(D 4=true→Has V tl (.rat (q)))∧(D 5=true→Has V tm (.int ((q.den:Int))))∧(D 6=true→Has V tn (.int (cm)))∧(D 7=true→Has V tp (.int (rt)))∧((D 8=false→x8=none)∧(D 8=true→D 10=false→∃B:Nat,tA=.pointer (some ⟨B,0,none⟩)∧x8=some (B,.int 0))∧(D 10=true→∃B:Nat,tA=.pointer (some ⟨B,0,none⟩)∧x8=some (B,.int (lf))))∧((D 9=false→x9=none)∧(D 9=true→D 11=false→∃B:Nat,tB=.pointer (some ⟨B,0,none⟩)∧x9=some (B,.int 0))∧(D 11=true→∃B:Nat,tB=.pointer (some ⟨B,0,none⟩)∧x9=some (B,.int (rt)))))∧Hid (Mem w V [some (w.heap.size,.rat (p)),some (w.heap.size+1,.rat (q)),some (w.heap.size+1+1,.rat (0)),some (B8,.int (cm)),x8,x9]))
   ⟨_,_,_,_,_,_,_,_,_,_,none,none,rfl,Ja ⟨by simp,by simp,by simp,by simp,by simp,by simp,by simp,by simp,by simp,by simp⟩,Ja (((M3.o).none).none).drew⟩ ?step9 ?fin9
  case step9=>
   rintro D act V i ds hcl hi hds hDi ⟨tg,ti,tj,tk,tl,tm,tn,tp,tA,tB,x8,x9,rfl,GG,MM⟩;have Uf:i<12:=(Ae.1 hi).1;obtain rfl|rfl|rfl|rfl|rfl|rfl|rfl|rfl|rfl|rfl|rfl|rfl:=Gy i (by omega)
   all_goals
    simp only[Ai,Ag,Ak]at hi;subst hi
   · clear hds;obtain⟨s,a,l,c,t,b,k,d,n,r,i,j⟩:=MM.o.rat (i:=0) rfl;obtain⟨e0,e1,e2,e3⟩:=n.cq;refine Va ?_;exact⟨_,_,_,_,_,_,_,_,_,_,_,_,rfl,(Di GG fun _=>r),Ja (MM.o)⟩
   · have h0:=(GG.o.1 (hds 0 (by simp)));have HC:=Ja (Ex _ p V h0);clear hds h0;refine Jb rfl rfl fun K hK=>?_;go_simp;go_wp2_with(go_at_call 70;refine HC.o.mono ?_;rintro e w5 ⟨v5,rfl,hv5,hb5⟩)
     obtain⟨G0,_,G2,G3,G4,G5,G6,G7,G8⟩:=GG.o;exact⟨_,_,_,_,_,_,_,_,_,_,_,_,rfl,Ja ⟨fun h=>(G0 h).below hb5,fun _=>hv5,fun h=>(G2 h).below hb5,fun h=>(G3 h).below hb5,fun h=>(G4 h).below hb5,fun h=>(G5 h).below hb5,fun h=>(G6 h).below hb5,fun h=>(G7 h).below hb5,G8⟩,Ja (MM.o.below hb5)⟩
   · clear hds;obtain⟨s,a,l,c,n,i⟩:=MM.o.int (i:=3) rfl;obtain⟨e0,e1⟩:=n.cp;refine Va ?_;exact⟨_,_,_,_,_,_,_,_,_,_,_,_,rfl,(De GG fun _=>i),Ja (MM.o)⟩
   · have h0:=(GG.o.2.1 (hds 1 (by simp)));have h1:=(GG.o.2.2.1 (hds 2 (by simp)));have HC:=Ja ((by have h:=F0 _ _ (p.den:Int) cm V h0 h1 T2.o HP.o.den T1.o;rw[Ui.o]at h;exact h));clear hds h0 h1;refine Jb rfl rfl fun K hK=>?_;go_simp;go_wp2_with(go_at_call 85;refine HC.o.mono ?_;rintro e w5 ⟨v5,rfl,hv5,hb5⟩)
     obtain⟨G0,G1,G2,_,G4,G5,G6,G7,G8⟩:=GG.o;exact⟨_,_,_,_,_,_,_,_,_,_,_,_,rfl,Ja ⟨fun h=>(G0 h).below hb5,fun h=>(G1 h).below hb5,fun h=>(G2 h).below hb5,fun _=>hv5,fun h=>(G4 h).below hb5,fun h=>(G5 h).below hb5,fun h=>(G6 h).below hb5,fun h=>(G7 h).below hb5,G8⟩,Ja (MM.o.below hb5)⟩
   · clear hds;obtain⟨s,a,l,c,t,b,k,d,n,r,i,j⟩:=MM.o.rat (i:=1) rfl;obtain⟨e0,e1,e2,e3⟩:=n.cq;refine Va ?_;exact⟨_,_,_,_,_,_,_,_,_,_,_,_,rfl,(Dy GG fun _=>r),Ja (MM.o)⟩
   · have h0:=(GG.o.2.2.2.2.1 (hds 4 (by simp)));have HC:=Ja (Ex _ q V h0);clear hds h0;refine Jb rfl rfl fun K hK=>?_;go_simp;go_wp2_with(go_at_call 70;refine HC.o.mono ?_;rintro e w5 ⟨v5,rfl,hv5,hb5⟩)
     obtain⟨G0,G1,G2,G3,G4,_,G6,G7,G8⟩:=GG.o;exact⟨_,_,_,_,_,_,_,_,_,_,_,_,rfl,Ja ⟨fun h=>(G0 h).below hb5,fun h=>(G1 h).below hb5,fun h=>(G2 h).below hb5,fun h=>(G3 h).below hb5,fun h=>(G4 h).below hb5,fun _=>hv5,fun h=>(G6 h).below hb5,fun h=>(G7 h).below hb5,G8⟩,Ja (MM.o.below hb5)⟩
   · clear hds;obtain⟨s,a,l,c,n,i⟩:=MM.o.int (i:=3) rfl;obtain⟨e0,e1⟩:=n.cp;refine Va ?_;exact⟨_,_,_,_,_,_,_,_,_,_,_,_,rfl,(ED GG fun _=>i),Ja (MM.o)⟩
   · have h0:=((Du GG) (hds 5 (by simp)));have h1:=((EJ GG) (hds 6 (by simp)));have HC:=Ja ((by have h:=F0 _ _ (q.den:Int) cm V h0 h1 T2.o HQ.o.den T1.o;rw[Ud.o]at h;exact h));clear hds h0 h1;refine Jb rfl rfl fun K hK=>?_;go_simp;go_wp2_with(go_at_call 85;refine HC.o.mono ?_;rintro e w5 ⟨v5,rfl,hv5,hb5⟩)
     obtain⟨G0,G1,G2,G3,G4,G5,G6,_,G8⟩:=GG.o;exact⟨_,_,_,_,_,_,_,_,_,_,_,_,rfl,Ja ⟨fun h=>(G0 h).below hb5,fun h=>(G1 h).below hb5,fun h=>(G2 h).below hb5,fun h=>(G3 h).below hb5,fun h=>(G4 h).below hb5,fun h=>(G5 h).below hb5,fun h=>(G6 h).below hb5,fun _=>hv5,G8⟩,Ja (MM.o.below hb5)⟩
   · have hf:D 10=false:=DP hcl hDi;obtain rfl:=GG.o.2.2.2.2.2.2.2.2.1.1 hDi;clear hds;refine Va ?_;obtain⟨G0,G1,G2,G3,G4,G5,G6,G7,_,G9⟩:=GG.o;exact⟨_,_,_,_,_,_,_,_,_,_,_,_,rfl,Ja ⟨fun h=>(G0 h).alloc _,fun h=>(G1 h).alloc _,fun h=>(G2 h).alloc _,fun h=>(G3 h).alloc _,fun h=>(G4 h).alloc _,fun h=>(G5 h).alloc _,fun h=>(G6 h).alloc _,fun h=>(G7 h).alloc _,⟨fun h=>by simp at h,fun _ _=>⟨_,rfl,rfl⟩,fun h=>by simp[hf]at h⟩,G9⟩,Ja (MM.o.fill (i:=4) rfl (.int 0) (X2 _))⟩
   · have hf:D 11=false:=DP hcl hDi;obtain rfl:=F6 GG hDi;clear hds;refine Va ?_;obtain⟨G0,G1,G2,G3,G4,G5,G6,G7,G8,_⟩:=GG.o;exact⟨_,_,_,_,_,_,_,_,_,_,_,_,rfl,Ja ⟨fun h=>(G0 h).alloc _,fun h=>(G1 h).alloc _,fun h=>(G2 h).alloc _,fun h=>(G3 h).alloc _,fun h=>(G4 h).alloc _,fun h=>(G5 h).alloc _,fun h=>(G6 h).alloc _,fun h=>(G7 h).alloc _,G8,⟨fun h=>by simp at h,fun _ _=>⟨_,rfl,rfl⟩,fun h=>by simp[hf]at h⟩⟩,Ja (MM.o.fill (i:=5) rfl (.int 0) (X2 _))⟩
   · obtain⟨B,rfl,rfl⟩:=GG.o.2.2.2.2.2.2.2.2.1.2.1 (hds 8 (by simp)) hDi;have Qa:=hds 8 (by simp);have hv:=(GG.o.2.2.2.1 (hds 3 (by simp)));obtain⟨s1,a1,l1,c1,rfl⟩:=Jk.form2 (show Jk V _ _ from hv);obtain⟨s,a,l,c,n,i⟩:=MM.o.int (i:=4) rfl;have e0:=n.c0;have f0:=n.f0;have e1:=n.c1;have f1:=n.f1;clear hds;refine Va ?_;obtain⟨G0,G1,G2,G3,G4,G5,G6,G7,_,G9⟩:=GG.o;exact⟨_,_,_,_,_,_,_,_,_,_,_,_,rfl,Ja ⟨fun h=>(G0 h).set2 n rfl rfl _ _,fun h=>(G1 h).set2 n rfl rfl _ _,fun h=>(G2 h).set2 n rfl rfl _ _,fun h=>(G3 h).set2 n rfl rfl _ _,fun h=>(G4 h).set2 n rfl rfl _ _,fun h=>(G5 h).set2 n rfl rfl _ _,fun h=>(G6 h).set2 n rfl rfl _ _,fun h=>(G7 h).set2 n rfl rfl _ _,⟨fun h=>by simp[Qa]at h,fun _ h=>by simp at h,fun _=>⟨B,rfl,rfl⟩⟩,G9⟩,Ja (MM.o.putInt (i:=4) rfl hv)⟩
   · obtain⟨B,rfl,rfl⟩:=EG GG (hds 9 (by simp)) hDi;have Qa:=hds 9 (by simp);have hv:=((Ev GG) (hds 7 (by simp)));obtain⟨s1,a1,l1,c1,rfl⟩:=Jk.form2 (show Jk V _ _ from hv);obtain⟨s,a,l,c,n,i⟩:=MM.o.int (i:=5) rfl;have e0:=n.c0;have f0:=n.f0;have e1:=n.c1;have f1:=n.f1;clear hds;refine Va ?_;obtain⟨G0,G1,G2,G3,G4,G5,G6,G7,G8,_⟩:=GG.o;exact⟨_,_,_,_,_,_,_,_,_,_,_,_,rfl,Ja ⟨fun h=>(G0 h).set2 n rfl rfl _ _,fun h=>(G1 h).set2 n rfl rfl _ _,fun h=>(G2 h).set2 n rfl rfl _ _,fun h=>(G3 h).set2 n rfl rfl _ _,fun h=>(G4 h).set2 n rfl rfl _ _,fun h=>(G5 h).set2 n rfl rfl _ _,fun h=>(G6 h).set2 n rfl rfl _ _,fun h=>(G7 h).set2 n rfl rfl _ _,G8,⟨fun h=>by simp[Qa]at h,fun _ h=>by simp at h,fun _=>⟨B,rfl,rfl⟩⟩⟩,Ja (MM.o.putInt (i:=5) rfl hv)⟩
  rintro D act V10 hDD ⟨tg,ti,tj,tk,tl,tm,tn,tp,tA,tB,x8,x9,rfl,GG,MM⟩;obtain⟨B11,rfl,rfl⟩:=GG.o.2.2.2.2.2.2.2.2.1.2.2 (hDD 10 (by decide));obtain⟨B12,rfl,rfl⟩:=GG.o.2.2.2.2.2.2.2.2.2.2.2 (hDD 11 (by decide));clear GG hDD M3;have M4:Hid (Mem w V10 [some (w.heap.size,.rat (p)),some (w.heap.size+1,.rat (q)),some (w.heap.size+1+1,.rat (0)),some (B8,.int (cm)),some (B11,.int (lf)),some (B12,.int (rt))]):=MM;clear MM;go_upto_region 5 with fail
  refine Jm Qy [[],[0],[],[1,2],[],[4],[],[5,6,3],[3,7,7],[],[9,8,8,0,1,2,3,4,5,6,7,8,9]] (by kernel_rfl) (by decide)
   (fun D act V=>∃(tq tr ts tt tu tv tw tx ty tC:Value) (x9:Option (Nat × Dat)),act={ tmps:=#[.agg #[.bool s,.slice a l c,.bool t,.slice b k d],.agg #[.bool s',.slice a' l' c',.bool t',.slice b' k' d'],.pointer (some ⟨w.heap.size,0,none⟩),.pointer (some ⟨w.heap.size+1,0,none⟩),.pointer (some ⟨w.heap.size+1+1,0,none⟩),.pointer (some ⟨B8,0,none⟩),.pointer (some ⟨B11,0,none⟩),.pointer (some ⟨B12,0,none⟩),tC,undef,u10,u11,u12,u13,u14,.bool false,u16,u17,u18,u19,u20,u21,ta,tb,tc,td,te,tg,ti,tj,tk,tl,tm,tn,tp,tq,tr,ts,tt,tu,tv,tw,tx,ty,u44,u45,u46,u47,u48,u49,u50,u51,u52,u53,u54,u55,u56],defers:=[] }∧Hid ((D 0=true→tq=.pointer (some ⟨w.heap.size,0,none⟩))∧(D 1=true→Has V tr (.int (Rat.num (p))))∧(D 2=true→Has V ts (.int (rt)))∧(D 3=true→Has V tt (.int (p.num*rt)))∧(D 4=true→tu=.pointer (some ⟨w.heap.size+1,0,none⟩))∧(D 5=true→Has V tv (.int (Rat.num (q))))∧(D 6=true→Has V tw (.int (lf)))∧(D 7=true→Has V tx (.int (q.num*lf)))∧(D 8=true→Has V ty (.int (ab)))∧((D 9=false→x9=none)∧(D 9=true→D 10=false→∃B:Nat,tC=.pointer (some ⟨B,0,none⟩)∧x9=some (B,.int 0))∧(D 10=true→∃B:Nat,tC=.pointer (some ⟨B,0,none⟩)∧x9=some (B,.int (ab)))))∧Hid (Mem w V [some (w.heap.size,.rat (p)),some (w.heap.size+1,.rat (q)),some (w.heap.size+1+1,.rat (0)),some (B8,.int (cm)),some (B11,.int (lf)),some (B12,.int (rt)),x9]))
   ⟨_,_,_,_,_,_,_,_,_,_,none,rfl,Ja ⟨by simp,by simp,by simp,by simp,by simp,by simp,by simp,by simp,by simp,by simp⟩,Ja ((M4.o).none).drew⟩ ?step13 ?fin13
  case step13=>
   rintro D act V i ds hcl hi hds hDi ⟨tq,tr,ts,tt,tu,tv,tw,tx,ty,tC,x9,rfl,GG,MM⟩;have Uf:i<11:=(Ae.1 hi).1;obtain rfl|rfl|rfl|rfl|rfl|rfl|rfl|rfl|rfl|rfl|rfl:=Gx i (by omega)
   all_goals
    simp only[Ai,Ag,Ak]at hi;subst hi
   · clear hds;refine Va ?_;exact⟨_,_,_,_,_,_,_,_,_,_,_,rfl,(Di GG),Ja (MM.o)⟩
   · obtain rfl:=(GG.o.1 (hds 0 (by simp)));clear hds;obtain⟨s,a,l,c,t,b,k,d,n,r,i,j⟩:=MM.o.rat (i:=0) rfl;obtain⟨e0,e1,e2,e3⟩:=n.cq;refine Va ?_;exact⟨_,_,_,_,_,_,_,_,_,_,_,rfl,(Dm (Di GG) fun _=>i),Ja (MM.o)⟩
   · clear hds;obtain⟨s,a,l,c,n,i⟩:=MM.o.int (i:=5) rfl;obtain⟨e0,e1⟩:=n.cp;refine Va ?_;exact⟨_,_,_,_,_,_,_,_,_,_,_,rfl,(De GG fun _=>i),Ja (MM.o)⟩
   · have h0:=(GG.o.2.1 (hds 1 (by simp)));have h1:=(GG.o.2.2.1 (hds 2 (by simp)));have HC:=Ja (Xf _ _ p.num rt V h0 h1 (by have h1:=HP.o.num.words;have h2:=T4.o.words;omega));clear hds h0 h1;refine Jb rfl rfl fun K hK=>?_;go_simp;go_wp2_with(go_at_call 69;refine HC.o.mono ?_;rintro e w5 ⟨v5,rfl,hv5,hb5⟩)
     obtain⟨G0,G1,G2,_,G4,G5,G6,G7,G8,G9⟩:=GG.o;exact⟨_,_,_,_,_,_,_,_,_,_,_,rfl,Ja ⟨G0,fun h=>(G1 h).below hb5,fun h=>(G2 h).below hb5,fun _=>hv5,G4,fun h=>(G5 h).below hb5,fun h=>(G6 h).below hb5,fun h=>(G7 h).below hb5,fun h=>(G8 h).below hb5,G9⟩,Ja (MM.o.below hb5)⟩
   · clear hds;refine Va ?_;exact⟨_,_,_,_,_,_,_,_,_,_,_,rfl,(Dy GG),Ja (MM.o)⟩
   · obtain rfl:=(GG.o.2.2.2.2.1 (hds 4 (by simp)));clear hds;obtain⟨s,a,l,c,t,b,k,d,n,r,i,j⟩:=MM.o.rat (i:=1) rfl;obtain⟨e0,e1,e2,e3⟩:=n.cq;refine Va ?_;exact⟨_,_,_,_,_,_,_,_,_,_,_,rfl,(D4 (Dy GG) fun _=>i),Ja (MM.o)⟩
   · clear hds;obtain⟨s,a,l,c,n,i⟩:=MM.o.int (i:=4) rfl;obtain⟨e0,e1⟩:=n.cp;refine Va ?_;exact⟨_,_,_,_,_,_,_,_,_,_,_,rfl,(ED GG fun _=>i),Ja (MM.o)⟩
   · have h0:=((Du GG) (hds 5 (by simp)));have h1:=((EJ GG) (hds 6 (by simp)));have HC:=Ja (Xf _ _ q.num lf V h0 h1 (by have h1:=HQ.o.num.words;have h2:=T3.o.words;omega));clear hds h0 h1;refine Jb rfl rfl fun K hK=>?_;go_simp;go_wp2_with(go_at_call 69;refine HC.o.mono ?_;rintro e w5 ⟨v5,rfl,hv5,hb5⟩)
     obtain⟨G0,G1,G2,G3,G4,G5,G6,_,G8,G9⟩:=GG.o;exact⟨_,_,_,_,_,_,_,_,_,_,_,rfl,Ja ⟨G0,fun h=>(G1 h).below hb5,fun h=>(G2 h).below hb5,fun h=>(G3 h).below hb5,G4,fun h=>(G5 h).below hb5,fun h=>(G6 h).below hb5,fun _=>hv5,fun h=>(G8 h).below hb5,G9⟩,Ja (MM.o.below hb5)⟩
   · have h0:=(GG.o.2.2.2.1 (hds 3 (by simp)));have h1:=((Ev GG) (hds 7 (by simp)));have HC:=Ja ((by have h:=Mj _ _ (p.num*rt) (q.num*lf) V h0 h1 (by have:=T8.o.words;omega) (by have:=T9.o.words;omega);rw[Uj.o]at h;exact h));clear hds h0 h1;refine Jb rfl rfl fun K hK=>?_;go_simp;go_wp2_with(go_at_call 83;refine HC.o.mono ?_;rintro e w5 ⟨v5,rfl,hv5,hb5⟩)
     obtain⟨G0,G1,G2,G3,G4,G5,G6,G7,_,G9⟩:=GG.o;exact⟨_,_,_,_,_,_,_,_,_,_,_,rfl,Ja ⟨G0,fun h=>(G1 h).below hb5,fun h=>(G2 h).below hb5,fun h=>(G3 h).below hb5,G4,fun h=>(G5 h).below hb5,fun h=>(G6 h).below hb5,fun h=>(G7 h).below hb5,fun _=>hv5,G9⟩,Ja (MM.o.below hb5)⟩
   · have hf:D 10=false:=DP hcl hDi;obtain rfl:=F6 GG hDi;clear hds;refine Va ?_;obtain⟨G0,G1,G2,G3,G4,G5,G6,G7,G8,_⟩:=GG.o;exact⟨_,_,_,_,_,_,_,_,_,_,_,rfl,Ja ⟨G0,fun h=>(G1 h).alloc _,fun h=>(G2 h).alloc _,fun h=>(G3 h).alloc _,G4,fun h=>(G5 h).alloc _,fun h=>(G6 h).alloc _,fun h=>(G7 h).alloc _,fun h=>(G8 h).alloc _,⟨fun h=>by simp at h,fun _ _=>⟨_,rfl,rfl⟩,fun h=>by simp[hf]at h⟩⟩,Ja (MM.o.fill (i:=6) rfl (.int 0) (X2 _))⟩
   · obtain⟨B,rfl,rfl⟩:=EG GG (hds 9 (by simp)) hDi;have Qa:=hds 9 (by simp);have hv:=((Ee GG) (hds 8 (by simp)));obtain⟨s1,a1,l1,c1,rfl⟩:=Jk.form2 (show Jk V _ _ from hv);obtain⟨s,a,l,c,n,i⟩:=MM.o.int (i:=6) rfl;have e0:=n.c0;have f0:=n.f0;have e1:=n.c1;have f1:=n.f1;clear hds;refine Va ?_;obtain⟨G0,G1,G2,G3,G4,G5,G6,G7,G8,_⟩:=GG.o;exact⟨_,_,_,_,_,_,_,_,_,_,_,rfl,Ja ⟨G0,fun h=>(G1 h).set2 n rfl rfl _ _,fun h=>(G2 h).set2 n rfl rfl _ _,fun h=>(G3 h).set2 n rfl rfl _ _,G4,fun h=>(G5 h).set2 n rfl rfl _ _,fun h=>(G6 h).set2 n rfl rfl _ _,fun h=>(G7 h).set2 n rfl rfl _ _,fun h=>(G8 h).set2 n rfl rfl _ _,⟨fun h=>by simp[Qa]at h,fun _ h=>by simp at h,fun _=>⟨B,rfl,rfl⟩⟩⟩,Ja (MM.o.putInt (i:=6) rfl hv)⟩
  rintro D act V14 hDD ⟨tq,tr,ts,tt,tu,tv,tw,tx,ty,tC,x9,rfl,GG,MM⟩;obtain⟨B15,rfl,rfl⟩:=GG.o.2.2.2.2.2.2.2.2.2.2.2 (hDD 10 (by decide));clear GG hDD M4;have M5:Hid (Mem w V14 [some (w.heap.size,.rat (p)),some (w.heap.size+1,.rat (q)),some (w.heap.size+1+1,.rat (0)),some (B8,.int (cm)),some (B11,.int (lf)),some (B12,.int (rt)),some (B15,.int (ab))]):=MM;clear MM;go_upto_region 6 with fail
  obtain⟨s16,a16,l16,c16,n16,i16⟩:=M5.o.int (i:=6) rfl;obtain⟨Ub,Qw⟩:=n16.cp;obtain⟨s17,a17,l17,c17,n17,i17⟩:=M5.o.int (i:=3) rfl;obtain⟨Ua,Qx⟩:=n17.cp;have HC:=Ja (Ht _ _ ab cm V14 i16 i17 (by have:=T5.o.words;omega) (by have:=T1.o.words;omega));rw[Uh.o]at HC;go_upto_region 7 with(go_at_call 84;refine HC.o.mono ?_;clear HC;rintro e w1 ⟨u,rfl,hu,hb⟩;obtain⟨s90,a90,l90,c90,rfl⟩:=Jk.form2 hu)
  obtain⟨V18,hV⟩:=ex (w1.alloc (.cells #[.bool s90,.slice a90 l90 c90] 35));obtain⟨B18,hBk⟩:=ex (w1.heap.size);have MM:Mem w (w1.alloc (.cells #[.bool s90,.slice a90 l90 c90] 35)) [some (w.heap.size,.rat (p)),some (w.heap.size+1,.rat (q)),some (w.heap.size+1+1,.rat (0)),some (B8,.int (cm)),some (B11,.int (lf)),some (B12,.int (rt)),some (B15,.int (ab)),some (w1.heap.size,.int (ag))]:=Mem.push (M5.o.below hb) (.int (ag)) hu;rw[hV,hBk]at MM;rw[hV];rw[hBk];have M6:Hid (Mem w V18 [some (w.heap.size,.rat (p)),some (w.heap.size+1,.rat (q)),some (w.heap.size+1+1,.rat (0)),some (B8,.int (cm)),some (B11,.int (lf)),some (B12,.int (rt)),some (B15,.int (ab)),some (B18,.int (ag))]):=Ja (MM);clear M5;clear MM hV hBk;clear n16 Ub Qw i16 n17 Ua Qx i17 hu hb;obtain⟨s19,a19,l19,c19,n19,i19⟩:=M6.o.int (i:=6) rfl;obtain⟨Qb,Qo⟩:=n19.cp;obtain⟨s20,a20,l20,c20,n20,i20⟩:=M6.o.int (i:=7) rfl;obtain⟨Qn,Qf⟩:=n20.cp;obtain⟨s21,a21,l21,c21,n21,i21⟩:=M6.o.int (i:=4) rfl;obtain⟨Qh,Qc⟩:=n21.cp;obtain⟨s22,a22,l22,c22,t22,b22,k22,d22,n22,r22,i22,j22⟩:=M6.o.rat (i:=1) rfl;obtain⟨Qd,Qi,Qj,Qm⟩:=n22.cq;obtain⟨s23,a23,l23,c23,t23,b23,k23,d23,n23,r23,i23,j23⟩:=M6.o.rat (i:=2) rfl;obtain⟨Qe,Qk,Ql,Qg⟩:=n23.cq;obtain⟨Qq,Qr,Qp,Qs⟩:=n23.fq;obtain⟨H1,H2,H3,H4,H5⟩:=GT (fun(V:World) (h:Bl V18 V)=>F0 _ _ ab ag V (i19.below h) (i20.below h) T7.o T5.o T6.o) (fun(V:World) (h:Bl V18 V)=>Ex _ q V (r22.below h)) (fun(V:World) (u:Value) (h:Bl V18 V) (hu:Jk V u (q.den:Int))=>F0 u _ (q.den:Int) ag V hu (i20.below h) T7.o HQ.o.den T6.o) (fun(V:World) (u:Value) (h:Bl V18 V) (hu:Jk V u ((q.den:Int)/ag))=>Xf _ u lf ((q.den:Int)/ag) V (i21.below h) hu (by have h1:=T3.o.words;have h2:=(Sok.div (y:=ag) HQ.o.den).words;omega)) (fun(V:World) (u v:Value) (hu:Jk V u (ab/ag)) (hv:Jk V v (lf*((q.den:Int)/ag)))=>K7 u v (p+q) V (by rw[Wb.o];exact hu) (by rw[Us.o];exact hv));have ne6:B15≠w.heap.size+1+1:=M6.o.ne 6 2 rfl rfl (by decide);have ne7:B18≠w.heap.size+1+1:=M6.o.ne 7 2 rfl rfl (by decide);have ne4:B11≠w.heap.size+1+1:=M6.o.ne 4 2 rfl rfl (by decide);have ne1:w.heap.size+1≠w.heap.size+1+1:=M6.o.ne 1 2 rfl rfl (by decide);have hq:Bl V18 V18.drew:=(BG _ V18).drew;go_region_held3 (fun w'=>w'.cell? ⟨B15,0,none⟩=some (.bool s19)∧w'.cell? ⟨B15,1,none⟩=some (.slice a19 l19 c19)∧w'.cell? ⟨B18,0,none⟩=some (.bool s20)∧w'.cell? ⟨B18,1,none⟩=some (.slice a20 l20 c20)∧w'.cell? ⟨B11,0,none⟩=some (.bool s21)∧w'.cell? ⟨B11,1,none⟩=some (.slice a21 l21 c21)∧w'.cell? ⟨w.heap.size+1,0,none⟩=some (.bool s22)∧w'.cell? ⟨w.heap.size+1,1,none⟩=some (.slice a22 l22 c22)∧w'.cell? ⟨w.heap.size+1,2,none⟩=some (.bool t22)∧w'.cell? ⟨w.heap.size+1,3,none⟩=some (.slice b22 k22 d22)) (first|(with_reducible exact⟨Qb,Qo,Qn,Qf,Qh,Qc,Qd,Qi,Qj,Qm⟩)|(go_keep;done)|(refine⟨?_,?_,?_,?_,?_,?_,?_,?_,?_,?_⟩<;>((repeat rw[J9 (by omega)]);first|assumption|(go_keep;done))))
   (first
    |(go_at_call 85;refine(H1.o _ hq).mono ?_;clear H1;rintro e w2 ⟨u2,rfl,Qt,hb2⟩;have hq:=Bt hq hb2;obtain⟨Qb,Qo⟩:=(n19.below hq).cp;obtain⟨Qn,Qf⟩:=(n20.below hq).cp;obtain⟨Qh,Qc⟩:=(n21.below hq).cp;obtain⟨Qd,Qi,Qj,Qm⟩:=(n22.below hq).cq;obtain⟨Qe,Qk,Ql,Qg⟩:=(n23.below hq).cq;obtain⟨Qq,Qr,Qp,Qs⟩:=(n23.below hq).fq)
    |(go_at_call 70;refine(H2.o _ hq).mono ?_;clear H2;rintro e w3 ⟨u3,rfl,hu3,hb3⟩;have Qt:=Qt.below hb3;have hq:=Bt hq hb3;obtain⟨Qb,Qo⟩:=(n19.below hq).cp;obtain⟨Qn,Qf⟩:=(n20.below hq).cp;obtain⟨Qh,Qc⟩:=(n21.below hq).cp;obtain⟨Qd,Qi,Qj,Qm⟩:=(n22.below hq).cq;obtain⟨Qe,Qk,Ql,Qg⟩:=(n23.below hq).cq;obtain⟨Qq,Qr,Qp,Qs⟩:=(n23.below hq).fq)
    |(go_at_call 85;refine(H3.o _ _ hq hu3).mono ?_;clear H3;rintro e w4 ⟨u4,rfl,hu4,hb4⟩;have Qt:=Qt.below hb4;have hq:=Bt hq hb4;obtain⟨Qb,Qo⟩:=(n19.below hq).cp;obtain⟨Qn,Qf⟩:=(n20.below hq).cp;obtain⟨Qh,Qc⟩:=(n21.below hq).cp;obtain⟨Qd,Qi,Qj,Qm⟩:=(n22.below hq).cq;obtain⟨Qe,Qk,Ql,Qg⟩:=(n23.below hq).cq;obtain⟨Qq,Qr,Qp,Qs⟩:=(n23.below hq).fq)
    |(go_at_call 69;refine(H4.o _ _ hq hu4).mono ?_;clear H4;rintro e w5 ⟨u5,rfl,hu5,hb5⟩;have Qt:=Qt.below hb5;have hq:=Bt hq hb5;obtain⟨Qb,Qo⟩:=(n19.below hq).cp;obtain⟨Qn,Qf⟩:=(n20.below hq).cp;obtain⟨Qh,Qc⟩:=(n21.below hq).cp;obtain⟨Qd,Qi,Qj,Qm⟩:=(n22.below hq).cq;obtain⟨Qe,Qk,Ql,Qg⟩:=(n23.below hq).cq;obtain⟨Qq,Qr,Qp,Qs⟩:=(n23.below hq).fq)
    |(go_at_call 86;refine(H5.o _ _ _ Qt hu5).mono ?_;clear H5;rintro e w6 ⟨u6,rfl,hu6,hb6⟩;obtain⟨s91,a91,l91,c91,t91,b91,k91,d91,rfl⟩:=Jg.form hu6;have hq:=Bt hq hb6;obtain⟨Qb,Qo⟩:=(n19.below hq).cp;obtain⟨Qn,Qf⟩:=(n20.below hq).cp;obtain⟨Qh,Qc⟩:=(n21.below hq).cp;obtain⟨Qd,Qi,Qj,Qm⟩:=(n22.below hq).cq;obtain⟨Qe,Qk,Ql,Qg⟩:=(n23.below hq).cq;obtain⟨Qq,Qr,Qp,Qs⟩:=(n23.below hq).fq))
  all_goals go_wp2_with fail
  have Uc:=Bt M6.o.2.2 hq;have Uo:=M6.o.ge 2 rfl;exact BB (v:=.agg #[.bool s91,.slice a91 l91 c91,.bool t91,.slice b91 k91 d91]) (by simp[results,Tryz.results34,go_sem,Qe,Qk,Ql,Qg]) rfl ⟨_,rfl,hu6.put4 (n23.below hq) rfl rfl rfl rfl _ _ _ _,Jr Uc Uo _ _ _ _⟩
