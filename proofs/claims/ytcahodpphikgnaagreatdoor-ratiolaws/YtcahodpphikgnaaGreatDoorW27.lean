import Derived.Test.YtcahodpphikgnaaGreatDoorW26
import Derived.Test.YtcahodpphikgnaaGreatDoorW22
set_option linter.all false
set_option maxRecDepth 99999
set_option maxHeartbeats 0
namespace Go.Proofs.YtcahodpphikgnaaGreatDoor
open Rat renaming divInt->L1
open Proofs.Tryz
open Go.RowKit Go.Shelf
attribute [local go_sem] Oper.semAt_some
def X8(va vb:Value)(x y:Int)(w:World)(ha:Jd w va x)(hb:Jd w vb y)(hlx:(Jc O x.natAbs).length<1000000000000)(hly:(Jc O y.natAbs).length<1000000000000):
 Calls Tryz.prog 38 #[va,vb] w fun e w'=>∃u,e=.returned u∧Jd w' u (Int.gcd x y:Nat)∧Bl w w':=by
 obtain⟨a,la,ca,e0,hu⟩:=ha;cases e0;obtain⟨b,lb,cb,e0,hv⟩:=hb;cases e0;have Qb:=hu.len;have Qc:=hv.len;obtain⟨s,hs⟩:=ex (decide (x<0));obtain⟨t,ht⟩:=ex (decide (y<0));rw[hs,ht];obtain⟨W0,hW0⟩:=ex (((w.alloc (.cells #[.bool s,.slice a la ca] 25)).alloc (.cells #[.bool t,.slice b lb cb] 25)).alloc (.cells #[.bool false,.slice none 0 0] 25));obtain⟨hB0,b0,b1,bR⟩:=DU hW0;have HT:=Ja (K3 a la ca b lb cb _ _ W0 (UN.below hu hB0) (UN.below hv hB0) (by rw[Qb];exact hlx) (by rw[Qc];exact hly));have HS:=Ja (fun(V:World) (u:Value) (hu:UN V u (Nat.gcd x.natAbs y.natAbs))=>show Calls Tryz.prog 58 #[.bool false,u] V fun e w'=>∃u,e=.returned u∧Jd w' u (Int.gcd x y:Nat)∧Bl V w' from YB false u _ V hu);have k1:=b0.c1;have k3:=b1.c1;have Qd:=Ja hW0;clear hu hv hs ht Qb Qc hlx hly hW0;go_enter func38,ntmps38
 go_upto_region 1 with fail
 rw[Qd.o];go_wp2_with(first
  |(go_at_call 70;refine HT.o.mono ?_;rintro e w1 ⟨u1,rfl,hu1,hb1⟩;obtain⟨na,nc,rfl⟩:=UN.form hu1)
  |(go_at_call 58;refine(HS.o _ _ hu1).mono ?_;rintro e w2 ⟨u2,rfl,hu2,hb2⟩;obtain⟨sa,sl,sc,rfl⟩:=hu2.form;obtain⟨s2,hs2⟩:=ex (decide (((Int.gcd x y:Nat):Int)<0));rw[hs2]at hu2;rw[hs2];clear hs2;have hq:=Bt hb1 hb2;obtain⟨r0,r1⟩:=(bR.below hq).cp;obtain⟨f0,f1⟩:=(bR.below hq).fp))
 have Qe:=Bt hB0 hq;have Qa:=hu2.box (bR.below hq) J J (x0:=.bool s2) (x1:=.slice sa sl sc);exact BB (by simp[results,results38,go_sem,r0,r1]) J ⟨_,J,Qa,(Qe.setCell (p:=⟨_,0,none⟩) (by simp only;omega) _).setCell (p:=⟨_,1,none⟩) (by simp only;omega) _⟩
def K4(w:World)(o1 o2 o3 o4:Obj):Bl w ((((w.alloc o1).alloc o2).alloc o3).alloc o4):=
 (((Ba w _).alloc (by simp) _).alloc (by simp;omega) _).alloc (by simp;omega) _
def F2{x y z r:Int}(hy:y≠0)(h:r+y*z=x)(h0:0≤r)(h1:r<y.natAbs):z=x/y∧r=x%y:=by
 rcases Int.lt_or_gt_of_ne hy with hn|hp
 · have h2:=(Int.ediv_emod_unique (a:=x) (b:=-y) (r:=r) (q:=-z) (by omega)).2 ⟨by grind,h0,by omega⟩;grind[Int.ediv_neg,Int.emod_neg]
 grind[Int.ediv_emod_unique]
def K5{x y:Int}(hy:y≠0)(hc:¬(x<0∧x.natAbs%y.natAbs≠0)):
 (if(!(decide (x<0)==decide (y<0)))=true then -((x.natAbs/y.natAbs:Nat):Int)else((x.natAbs/y.natAbs:Nat):Int))=x/y∧((x.natAbs%y.natAbs:Nat):Int)=x%y:=by
 have hm:=AB x.natAbs y.natAbs;have hlt:=AH x.natAbs (show y.natAbs>0 by omega);generalize x.natAbs/y.natAbs=Q at *;generalize x.natAbs%y.natAbs=R at *;have hm2:(y.natAbs:Int)*Q+R=x.natAbs:=by rw[←hm];push_cast;rfl
 apply F2 hy _ (by omega) (by omega);grind
def K6{x y:Int}(hy:y≠0)(hc:x<0∧x.natAbs%y.natAbs≠0):
 (if(!(decide (x<0)==decide (y<0)))=true then -((x.natAbs/y.natAbs+1:Nat):Int)else((x.natAbs/y.natAbs+1:Nat):Int))=x/y∧((y.natAbs-x.natAbs%y.natAbs:Nat):Int)=x%y:=by
 have hm:=AB x.natAbs y.natAbs;have hlt:=AH x.natAbs (show y.natAbs>0 by omega);generalize x.natAbs/y.natAbs=Q at *;generalize x.natAbs%y.natAbs=R at *;have hm2:(y.natAbs:Int)*Q+R=x.natAbs:=by rw[←hm];push_cast;rfl
 obtain⟨hx,hR⟩:=hc;apply F2 hy _ (by omega) (by omega);grind
def K7{W:World}{B:Nat}{t:TypeId}{v0 v1 u0 u1:Value}(x0 x1 y0 y1:Value)(h:Ji W B t v0 v1)(k:Ji W (B+1) t u0 u1):
 Ji ((((W.setCell ⟨B,0,none⟩ x0).setCell ⟨B,1,none⟩ x1).setCell ⟨B+1,0,none⟩ y0).setCell ⟨B+1,1,none⟩ y1) B t x0 x1∧Ji ((((W.setCell ⟨B,0,none⟩ x0).setCell ⟨B,1,none⟩ x1).setCell ⟨B+1,0,none⟩ y0).setCell ⟨B+1,1,none⟩ y1) (B+1) t y0 y1:=
 ⟨(((h.set0 x0).set1 x1).far (by simp) y0).far (by simp) y1,(((k.far (by simp) x0).far (by simp) x1).set0 y0).set1 y1⟩
def K8(w:World)(o0 o1 o2 o3:Value)(p0 p1:Value):
 Ji ((((w.alloc (.cells #[o0,o1] 25)).alloc (.cells #[o2,o3] 25)).alloc (.cells #[p0,p1] 25)).alloc (.cells #[p0,p1] 25)) w.heap.size 25 o0 o1∧
 Ji ((((w.alloc (.cells #[o0,o1] 25)).alloc (.cells #[o2,o3] 25)).alloc (.cells #[p0,p1] 25)).alloc (.cells #[p0,p1] 25)) (w.heap.size+1) 25 o2 o3∧
 Ji ((((w.alloc (.cells #[o0,o1] 25)).alloc (.cells #[o2,o3] 25)).alloc (.cells #[p0,p1] 25)).alloc (.cells #[p0,p1] 25)) (w.heap.size+1+1) 25 p0 p1∧
 Ji ((((w.alloc (.cells #[o0,o1] 25)).alloc (.cells #[o2,o3] 25)).alloc (.cells #[p0,p1] 25)).alloc (.cells #[p0,p1] 25)) (w.heap.size+1+1+1) 25 p0 p1:=by
 refine⟨(((Ji.new w _ _ _).alloc _).alloc _).alloc _,?_,?_,?_⟩
 · have h:=((Ji.new (w.alloc (.cells #[o0,o1] 25)) 25 o2 o3).alloc (.cells #[p0,p1] 25)).alloc (.cells #[p0,p1] 25);rw[BA]at h;exact h
 · have h:=(Ji.new ((w.alloc (.cells #[o0,o1] 25)).alloc (.cells #[o2,o3] 25)) 25 p0 p1).alloc (.cells #[p0,p1] 25);rw[BA,BA]at h;exact h
 · have h:=Ji.new (((w.alloc (.cells #[o0,o1] 25)).alloc (.cells #[o2,o3] 25)).alloc (.cells #[p0,p1] 25)) 25 p0 p1;rw[BA,BA,BA]at h;exact h
def K9(a:N)(la ca:Nat)(b:N)(lb cb X Y:Nat)(s t:Bool)(z r:Int)(w:World)(hu:UN w (.slice a la ca) X)(hv:UN w (.slice b lb cb) Y)(hY:Y≠0)(hla:la<1000000000000)(hlb:lb<1000000000000)
(HP:Hid (¬(s=true∧X%Y≠0)→(if(!(s==t))=true then -((X/Y:Nat):Int)else((X/Y:Nat):Int))=z∧((X%Y:Nat):Int)=r))
(HN:Hid (s=true∧X%Y≠0→(if(!(s==t))=true then -((X/Y+1:Nat):Int)else((X/Y+1:Nat):Int))=z∧((Y-X%Y:Nat):Int)=r)):
 Calls Tryz.prog 49 #[.agg #[.bool s,.slice a la ca],.agg #[.bool t,.slice b lb cb]] w fun e w'=>∃q o,e=.returned (.tuple #[q,o,.bool true])∧Jd w' q z∧Jd w' o r∧Bl w w':=by
 obtain⟨b0,b1,b4,b5⟩:=K8 w (.bool s) (.slice a la ca) (.bool t) (.slice b lb cb) (.bool false) (.slice none 0 0);have Qb:=K4 w (.cells #[.bool s,.slice a la ca] 25) (.cells #[.bool t,.slice b lb cb] 25) (.cells #[.bool false,.slice none 0 0] 25) (.cells #[.bool false,.slice none 0 0] 25);obtain⟨W0,hW0⟩:=ex ((((w.alloc (.cells #[.bool s,.slice a la ca] 25)).alloc (.cells #[.bool t,.slice b lb cb] 25)).alloc (.cells #[.bool false,.slice none 0 0] 25)).alloc (.cells #[.bool false,.slice none 0 0] 25));rw[hW0]at b0 b1 b4 b5 Qb;have Qh:=Ja hW0;have hlb0:lb≠0:=fun e=>hY ((Ju Jb).1 (Ag (by rw[←UN.len hv,e])));have Qn:=UN.below hu Qb;have Qd:=UN.below hv Qb;have Qm:=Ja (EI a la ca b lb cb X Y W0 Qn Qd hY (by omega));have Qw:=Ja Qd;have Qq:=Ja (UN.len hu).symm;obtain⟨k0,k1⟩:=b0.cp;obtain⟨k2,k3⟩:=b1.cp;clear hW0 hu hv Qn Qd;go_enter func49,ntmps49
 go_upto_region 1 with fail
 rw[Qh.o];go_upto_region 4 with(go_at_call 84;refine Qm.o.mono ?_;rintro e w1 ⟨u1,v1,rfl,hu1,hv1,hb1⟩;obtain⟨ua,uc,rfl⟩:=UN.form hu1;obtain⟨va,vc,rfl⟩:=UN.form hv1)
 clear Qm Qh;obtain⟨k0,k1⟩:=(b0.below hb1).cp;obtain⟨k2,k3⟩:=(b1.below hb1).cp;have Qg:(Jc O (X%Y)).length=0↔X%Y=0:=⟨fun h=>(Ju Jb).1 (Ag h),fun h=>by rw[h,Jp];rfl⟩;have hmod:=AH X (show Y>0 by omega);have hlu:=JW (m:=X) (n:=X/Y) (Co _ _);have Qk:(Jc O (X/Y)).length<1099511627776:=by
  have h1:=(Jk hu1).2.2.2.1
  have:(Jc O X).length=la:=by
   have h:=Qq.o;omega
  omega
 obtain⟨lr,hlre⟩:=ex ((Jc O (X%Y)).length);obtain⟨lq,hlqe⟩:=ex ((Jc O (X/Y)).length);rw[hlre]at hv1 Qg ⊢;rw[hlqe]at hu1 Qk ⊢;obtain⟨cd,hcd⟩:=ex ((s&&decide (0<lr)):Bool);have Qc:=Ja hcd;have Qp:=Ja Qg;clear hcd Qg hlre hlqe;go_cut [29] (fun v w2=>v=.bool cd∧w2=w1)
 case first=>
  cases s with
  |false=>
   have e5:cd=false:=by rw[←Qc.o];rfl
   go_wp2_with fail
   go_meet
   grind
  |true=>
   by_cases h5:0<lr
   · have e5:cd=true:=by rw[←Qc.o];simp;omega
     go_wp2_with fail
     go_meet
     grind
   · have e5:cd=false:=by rw[←Qc.o];simp;omega
     go_wp2_with fail
     go_meet
     grind
 case rest=>
  obtain⟨rfl,rfl⟩:=hcut;go_upto_if 29 with fail
  go_cut [7,8] (fun qv rv w2=>∃(qa:N) (ql qc Q:Nat) (oa:N) (ol oc R:Nat),qv=.slice qa ql qc∧rv=.slice oa ol oc∧Hid (UN w2 (.slice qa ql qc) Q)∧Hid (UN w2 (.slice oa ol oc) R)∧Hid ((if(!(s==t))=true then -(Q:Int)else(Q:Int))=z∧(R:Int)=r)∧Bl W0 w2)
  case first=>
   cases cd with
   |false=>
    have hc:¬(s=true∧X%Y≠0):=fun⟨h1,h2⟩=>by
     have h:=Qc.o;rw[h1]at h;simp at h;exact h2 (Qp.o.1 h)
    go_wp2_with fail
    go_meet
    case rel=>exact⟨_,_,_,_,_,_,_,_,J,J,Ja hu1,Ja hv1,Ja (HP.o hc),hb1⟩
   |true=>
    have hc:s=true∧X%Y≠0:=by
     have h:=Qc.o;simp at h;exact⟨h.1,fun e=>by have:=Qp.o.2 e;omega⟩
    have HC:=Ja hc;clear hc;have Qv:=Ja (show ∀V:World,Bl wc V→Calls Tryz.prog 75 #[.slice ua lq uc,.slice (some ⟨V.heap.size,0,none⟩) 1 1] (V.alloc (.cells #[.int .u64 1] 94)) fun e w'=>∃u,e=.returned u∧UN w' u (X/Y+1)∧Below (V.alloc (.cells #[.int .u64 1] 94)).heap.size (V.alloc (.cells #[.int .u64 1] 94)) w' from fun V h=>by
     have Qe:Row .u64 (V.alloc (.cells #[.int .u64 1] 94)) (.slice (some ⟨V.heap.size,0,none⟩) 1 1) (Jc O 1):=by
      rw[Xp (by omega) (by unfold O;omega)];exact(Bo.made (xs:=[1]) (BD V (.cells #[.int .u64 ((1:Nat):Int)] 94))).row 0 1 1 (by simp) (by omega) (by omega) (by omega)
     exact FI ua lq uc (some ⟨V.heap.size,0,none⟩) 1 1 (X/Y) 1 _ (Row.below (Row.below hu1 h) (Ba V _)) Qe Qk (by omega))
    have Qz:=Ja (fun(V:World) (h:Bl wc V)=>Dx b lb cb va lr vc Y (X%Y) V (Row.below (Row.below Qw.o hb1) h) (Row.below hv1 h) (by omega));have hq:Bl wc wc.drew:=(BC _ wc).drew;have bx:=b1.below hb1;go_wp2_with fail
    have k3:=bx.c1;go_region_held3 (fun w'=>w'.cell? ⟨w.heap.size+1,1,none⟩=some (.slice b lb cb)) (first|exact k3|(go_keep;done))
     (first
      |(go_at_call 75;refine(Qv.o _ hq).mono ?_;rintro e w3 ⟨u3,rfl,hu3,hb3⟩;obtain⟨pa,pc,rfl⟩:=UN.form hu3;have hq:=Fx hq hb3;have k3:=(bx.below hq).c1)
      |(go_at_call 76;refine(Qz.o _ hq).mono ?_;rintro e w4 ⟨u4,rfl,hu4,hb4⟩;obtain⟨ma,mc,rfl⟩:=UN.form hu4;have hq:=Bt hq hb4;have k3:=(bx.below hq).c1))
    all_goals go_wp2_with fail
    go_meet
    case rel=>exact⟨_,_,_,_,_,_,_,_,J,J,Ja (UN.below hu3 hb4),Ja hu4,Ja (HN.o HC.o),Bt hb1 hq⟩
  case rest=>
   obtain⟨qa,ql,qc,Q,oa,ol,oc,R,rfl,rfl,hQ,hR,hZ,hb2⟩:=hcut;have Qi:=Ja (show ∀V:World,Bl wc V→Calls Tryz.prog 58 #[.bool (!(s==t)),.slice qa ql qc] V fun e w'=>∃u,e=.returned u∧Jd w' u z∧Bl V w' from fun V h=>by
    have h1:=YB (!(s==t)) _ _ V (UN.below hQ.o h);rw[hZ.o.1]at h1;exact h1)
   have Qj:=Ja (show ∀V:World,Bl wc V→Calls Tryz.prog 58 #[.bool false,.slice oa ol oc] V fun e w'=>∃u,e=.returned u∧Jd w' u r∧Bl V w' from fun V h=>by
    have h1:=YB false _ _ V (UN.below hR.o h);simp only[Cr,if_false]at h1;rw[hZ.o.2]at h1;exact h1)
   have k0:=(b0.below hb2).c0;have k2:=(b1.below hb2).c0;go_wp2_with(first
    |(go_at_call 58;refine(Qi.o _ (BC _ _)).mono ?_;clear Qi;rintro e w5 ⟨u5,rfl,hu5,hb5⟩;obtain⟨a5,l5,c5,rfl⟩:=hu5.form;obtain⟨s5,hs5⟩:=ex (decide (z<0));rw[hs5]at hu5;rw[hs5];clear hs5)
    |(go_at_call 58;refine(Qj.o _ hb5).mono ?_;clear Qj;rintro e w6 ⟨u6,rfl,hu6,hb6⟩;obtain⟨a6,l6,c6,rfl⟩:=hu6.form;obtain⟨s6,hs6⟩:=ex (decide (r<0));rw[hs6]at hu6;rw[hs6];clear hs6;have Qa:=(Bt hb2 hb5).trans (hb6.mono (Bt hb2 hb5).size);obtain⟨q0,q1⟩:=(b4.below Qa).cp;obtain⟨q2,q3⟩:=(b5.below Qa).cp;obtain⟨f0,f1⟩:=(b4.below Qa).fp;obtain⟨f2,f3⟩:=(b5.below Qa).fp))
   have Qf:=b4.below Qa;have Qo:=b5.below Qa;obtain⟨z4,z5⟩:=K7 (.bool s5) (.slice a5 l5 c5) (.bool s6) (.slice a6 l6 c6) Qf Qo;obtain⟨Qy,Qx⟩:=z4.cp;obtain⟨Qr,Qu⟩:=z5.cp;have Ql:Ji ((w6.setCell ⟨w.heap.size+1+1,0,none⟩ (.bool s5)).setCell ⟨w.heap.size+1+1,1,none⟩ (.slice a5 l5 c5)) (w.heap.size+1+1+1) 25 (.bool false) (.slice none 0 0):=(Qo.far (by simp) _).far (by simp) _;have Qs:=((hu5.below hb6).box Qf J J (x0:=.bool s5) (x1:=.slice a5 l5 c5)).box Ql J J (x0:=.bool s6) (x1:=.slice a6 l6 c6);have Qt:=(hu6.box Qf J J (x0:=.bool s5) (x1:=.slice a5 l5 c5)).box Ql J J (x0:=.bool s6) (x1:=.slice a6 l6 c6);have Ua:=Bt Qb Qa;exact BB (by simp[results,results49,go_sem,Qy,Qx,Qr,Qu]) J ⟨_,_,J,Qs,Qt,(((Ua.setCell (p:=⟨_,0,none⟩) (by simp only;omega) _).setCell (p:=⟨_,1,none⟩) (by simp only;omega) _).setCell (p:=⟨_,0,none⟩) (by simp only;omega) _).setCell (p:=⟨_,1,none⟩) (by simp only;omega) _⟩
def F3(va vb:Value)(x y:Int)(w:World)(ha:Jd w va x)(hb:Jd w vb y)(hy:y≠0)(hlx:(Jc O x.natAbs).length<1000000000000)(hly:(Jc O y.natAbs).length<1000000000000):
 Calls Tryz.prog 49 #[va,vb] w fun e w'=>∃q o,e=.returned (.tuple #[q,o,.bool true])∧Jd w' q (x/y)∧Jd w' o (x%y)∧Bl w w':=by
 obtain⟨a,la,ca,rfl,hu⟩:=ha;obtain⟨b,lb,cb,rfl,hv⟩:=hb;refine K9 a la ca b lb cb x.natAbs y.natAbs _ _ (x/y) (x%y) w hu hv (by omega) (by rw[UN.len hu];exact hlx) (by rw[UN.len hv];exact hly) (fun hc=>K5 hy (fun h=>hc ⟨BI h.1,h.2⟩)) (fun hc=>K6 hy ⟨BQ hc.1,hc.2⟩)
open M3
def LA(z:Int):(Yq z 0=0)↔z=0:=by
 unfold Yq;omega
def F4(v:Value)(z:Int)(w:World)(h:Jd w v z):
 Calls Tryz.prog 60 #[v] w fun e w'=>e=.returned (.bool (decide (z=0)))∧Bl w w':=by
 obtain⟨a,l,c,rfl⟩:=h.form;obtain⟨s,hs⟩:=ex (decide (z<0));rw[hs]at h ⊢;clear hs;have b0:=Ji.new w 25 (.bool s) (.slice a l c);have Qa:Bl w (w.alloc (.cells #[.bool s,.slice a l c] 25)):=Ba w _;obtain⟨W0,hW0⟩:=ex (w.alloc (.cells #[.bool s,.slice a l c] 25));rw[hW0]at b0 Qa;have Qb:=Ja hW0;have HO:=Ja (Yr _ _ z 0 W0 (h.below Qa) (Xb _));obtain⟨k0,k1⟩:=b0.cp;have HZ:=Ja (LA z);obtain⟨n,hn⟩:=ex (Yq z 0);rw[hn]at HO HZ;clear hW0 hn;go_enter func60,ntmps60
 go_upto_region 1 with fail
 rw[Qb.o];go_wp2_with(go_at_call 39;refine HO.o.mono ?_;rintro e w1 ⟨rfl,hb1⟩)
 go_ret;refine⟨?_,Bt Qa hb1⟩;show Ending.returned (Value.bool (n==0))=_;have e:(n==0)=decide (z=0):=by rw[CB];simp[HZ.o]
 rw[e]
def dd(y:Int):Int:=if y=0 then 1 else y
def F5(v:Value)(x y:Int)(w:World)(h:JR w v x y):
 Calls Tryz.prog 47 #[v] w fun e w'=>e=.returned (.bool (decide (y=0)))∧Bl w w':=by
 obtain⟨s,a,l,c,t,b,k,d,rfl,h1,h2⟩:=h;have b0:=JD.new w 27 (.bool s) (.slice a l c) (.bool t) (.slice b k d);have Qa:Bl w (w.alloc (.cells #[.bool s,.slice a l c,.bool t,.slice b k d] 27)):=Ba w _;obtain⟨W0,hW0⟩:=ex (w.alloc (.cells #[.bool s,.slice a l c,.bool t,.slice b k d] 27));rw[hW0]at b0 Qa;have Qb:=Ja hW0;have HO:=Ja (F4 _ _ W0 (h2.below Qa));have k2:=b0.c2;have k3:=b0.c3;obtain⟨n,hn⟩:=ex (decide (y=0));rw[hn]at HO ⊢;clear hW0 hn;go_enter func47,ntmps47
 go_upto_region 1 with fail
 rw[Qb.o];go_wp2_with(go_at_call 60;refine HO.o.mono ?_;rintro e w1 ⟨rfl,hb1⟩)
 go_ret;exact⟨J,Bt Qa hb1⟩
def F6(v:Value)(x y:Int)(w:World)(h:JR w v x y):
 Calls Tryz.prog 10 #[v] w fun e w'=>∃u,e=.returned u∧Jd w' u (dd y)∧Bl w w':=by
 have h0:=h;obtain⟨s,a,l,c,t,b,k,d,rfl,h1,h2⟩:=h;obtain⟨W0,hW0⟩:=ex ((w.alloc (.cells #[.bool s,.slice a l c,.bool t,.slice b k d] 27)).alloc (.cells #[.bool false,.slice none 0 0] 25));have b0:JD W0 w.heap.size 27 (.bool s) (.slice a l c) (.bool t) (.slice b k d):=by rw[←hW0];exact(JD.new w _ _ _ _ _).alloc _
 have Qb:Bl w W0:=by rw[←hW0];exact XR w _ _
 have bR:Ji W0 (w.heap.size+1) 25 (.bool false) (.slice none 0 0):=by
  have h:=Ji.new (w.alloc (.cells #[.bool s,.slice a l c,.bool t,.slice b k d] 27)) 25 (.bool false) (.slice none 0 0);rw[BA,hW0]at h;exact h
 have HO:=Ja (F5 _ x y W0 (h0.below Qb));have Qd:=Ja hW0;obtain⟨k0,k1,k2,k3⟩:=b0.cq;have HD:=Ja (h2.below Qb);clear h0 h1 h2 hW0;by_cases hq:y=0
 · rw[BI hq]at HO;have HE:=Ja (show dd y=1 by unfold dd;rw[BX hq]);clear hq;go_enter func10,ntmps10
   go_upto_region 1 with fail
   rw[Qd.o];go_wp2_with(first
    |(go_at_call 47;refine HO.o.mono ?_;rintro e w1 ⟨rfl,hb1⟩)
    |(go_at_call 40;refine(C7 1 (by omega) (by omega) _).mono ?_;rintro e w2 ⟨u2,rfl,hu2,hb2⟩;obtain⟨sa,sl,sc,rfl⟩:=hu2.form;obtain⟨s2,hs2⟩:=ex (decide ((1:Int)<0));rw[hs2]at hu2;rw[hs2];clear hs2;have hq:=Bt hb1 hb2;obtain⟨r0,r1⟩:=(bR.below hq).cp;obtain⟨f0,f1⟩:=(bR.below hq).fp))
   have Qc:=Bt Qb hq;have Qa:=hu2.box (bR.below hq) J J (x0:=.bool s2) (x1:=.slice sa sl sc);exact BB (v:=.agg #[.bool s2,.slice sa sl sc]) (by simp[results,results10,go_sem,r0,r1]) J ⟨_,J,by rw[HE.o];exact Qa,(Qc.setCell (p:=⟨_,0,none⟩) (by simp only;omega) _).setCell (p:=⟨_,1,none⟩) (by simp only;omega) _⟩
 · rw[BH hq]at HO;have HE:=Ja (show y=dd y by unfold dd;rw[BU hq]);clear hq;go_enter func10,ntmps10
   go_upto_region 1 with fail
   rw[Qd.o];go_wp2_with(go_at_call 47;refine HO.o.mono ?_;rintro e w1 ⟨rfl,hb1⟩;have m2:=(b0.below hb1).c2;have m3:=(b0.below hb1).c3;obtain⟨r0,r1⟩:=(bR.below hb1).cp;obtain⟨f0,f1⟩:=(bR.below hb1).fp)
   have Qc:=Bt Qb hb1;have hu:=HD.o.below hb1;rw[HE.o]at hu;have Qa:=hu.box (bR.below hb1) J J (x0:=.bool t) (x1:=.slice b k d);exact BB (v:=.agg #[.bool t,.slice b k d]) (by simp[results,results10,go_sem,r0,r1]) J ⟨_,J,Qa,(Qc.setCell (p:=⟨_,0,none⟩) (by simp only;omega) _).setCell (p:=⟨_,1,none⟩) (by simp only;omega) _⟩
def EJ(q:Rat):dd (Bv q)=q.den:=by
 have:=q.den_pos;unfold dd Bv;omega
def J9(v:Value)(q:Rat)(w:World)(h:Jf w v q):
 Calls Tryz.prog 47 #[v] w fun e w'=>e=.returned (.bool (decide (q.den=1)))∧Bl w w':=by
 have h1:=F5 v q.num (Bv q) w h.pair;rwa[decide_eq_decide.2 Xu]at h1
def YE(v:Value)(q:Rat)(w:World)(h:Jf w v q):
 Calls Tryz.prog 10 #[v] w fun e w'=>∃u,e=.returned u∧Jd w' u (q.den:Int)∧Bl w w':=by
 have h1:=F6 v q.num (Bv q) w h.pair;rwa[EJ]at h1
def Yw(va vb:Value)(x y:Int)(w:World)(ha:Jd w va x)(hb:Jd w vb y)(hy:y≠0)(hsx:Sok x)(hsy:Sok y):
 Calls Tryz.prog 63 #[va,vb] w fun e w'=>∃u,e=.returned u∧Jd w' u (x/y)∧Bl w w':=by
 obtain⟨a,la,ca,rfl⟩:=ha.form;obtain⟨b,lb,cb,rfl⟩:=hb.form;obtain⟨s,hs⟩:=ex (decide (x<0));obtain⟨t,ht⟩:=ex (decide (y<0));rw[hs]at ha ⊢;rw[ht]at hb ⊢;clear hs ht;obtain⟨W0,hW0⟩:=ex (((w.alloc (.cells #[.bool s,.slice a la ca] 25)).alloc (.cells #[.bool t,.slice b lb cb] 25)).alloc (.cells #[.bool false,.slice none 0 0] 25));obtain⟨hB0,b0,b1,bR⟩:=DU hW0;have HS:=Ja (F3 _ _ x y W0 (ha.below hB0) (hb.below hB0) hy (by have:=hsx.words;omega) (by have:=hsy.words;omega));have Qb:=Ja hW0;obtain⟨k0,k1⟩:=b0.cp;obtain⟨k2,k3⟩:=b1.cp;clear ha hb hy hsx hsy hW0;go_enter func63,ntmps63
 go_upto_region 1 with fail
 rw[Qb.o];go_upto_region 2 with(go_at_call 49;refine HS.o.mono ?_;rintro e w1 ⟨u1,u2,rfl,hu1,hu2,hb1⟩;obtain⟨a1,l1,c1,rfl⟩:=hu1.form;obtain⟨s1,hs1⟩:=ex (decide (x/y<0));rw[hs1]at hu1;rw[hs1];clear hs1;obtain⟨a2,l2,c2,rfl⟩:=hu2.form;obtain⟨s2,hs2⟩:=ex (decide (x%y<0));rw[hs2]at hu2;rw[hs2];clear hs2)
 have bq:=(Ji.new w1 25 (.bool s1) (.slice a1 l1 c1)).alloc (.cells #[.bool s2,.slice a2 l2 c2] 25);have br:=((bR.below hb1).alloc (.cells #[.bool s1,.slice a1 l1 c1] 25)).alloc (.cells #[.bool s2,.slice a2 l2 c2] 25);have hu:=(hu1.alloc (.cells #[.bool s1,.slice a1 l1 c1] 25)).alloc (.cells #[.bool s2,.slice a2 l2 c2] 25);have Qc:Bl w ((w1.alloc (.cells #[.bool s1,.slice a1 l1 c1] 25)).alloc (.cells #[.bool s2,.slice a2 l2 c2] 25)):=Bt (Bt hB0 hb1) (XR w1 _ _)
 obtain⟨q0,q1⟩:=bq.cp;obtain⟨r0,r1⟩:=br.cp;obtain⟨f0,f1⟩:=br.fp;go_wp2_with fail
 have Qa:=hu.box br J J (x0:=.bool s1) (x1:=.slice a1 l1 c1);exact BB (by simp[results,results63,go_sem,r0,r1]) J ⟨_,J,Qa,(Qc.setCell (p:=⟨_,0,none⟩) (by simp only;omega) _).setCell (p:=⟨_,1,none⟩) (by simp only;omega) _⟩
def EK(w:World)(s t:Bool)(a b:N)(la ca lb cb:Nat)(x y:Int)(ha:Jd w (.agg #[.bool s,.slice a la ca]) x)(hb:Jd w (.agg #[.bool t,.slice b lb cb]) y):
 Bk w (((w.alloc (.cells #[.bool s,.slice a la ca] 25)).alloc (.cells #[.bool t,.slice b lb cb] 25)).alloc (.cells #[.bool false,.slice none 0 0,.bool false,.slice none 0 0] 27)) [some (w.heap.size,.int x),some (w.heap.size+1,.int y),some (w.heap.size+1+1,.rat 0)]:=by
 have h:=(((Bk.nil w).push (.int x) ha).push (.int y) (hb.alloc _)).push (.rat 0) (X7 _);rw[BA,BA,BA]at h;exact h
def Jf.mk{W:World}{s t:Bool}{a b:N}{l c k d:Nat}{q:Rat}(h1:Jd W (.agg #[.bool s,.slice a l c]) q.num)(h2:Jd W (.agg #[.bool t,.slice b k d]) (Bv q)):Jf W (.agg #[.bool s,.slice a l c,.bool t,.slice b k d]) q:=⟨_,_,_,_,_,_,_,_,J,h1,h2⟩
def Dg(va vb:Value)(q:Rat)(w:World)(ha:Jd w va q.num)(hb:Jd w vb (q.den:Int)):
 Calls Tryz.prog 64 #[va,vb] w fun e w'=>∃u,e=.returned u∧Jf w' u q∧Bl w w':=by
 obtain⟨a,la,ca,rfl⟩:=ha.form;obtain⟨b,lb,cb,rfl⟩:=hb.form;obtain⟨s,hs⟩:=ex (decide (q.num<0));obtain⟨t,ht⟩:=ex (decide ((q.den:Int)<0));rw[hs]at ha ⊢;rw[ht]at hb ⊢;clear hs ht;have M0:=EK w s t a b la ca lb cb _ _ ha hb;obtain⟨W0,hW0⟩:=ex (((w.alloc (.cells #[.bool s,.slice a la ca] 25)).alloc (.cells #[.bool t,.slice b lb cb] 25)).alloc (.cells #[.bool false,.slice none 0 0,.bool false,.slice none 0 0] 27));have b0:Ji W0 w.heap.size 25 (.bool s) (.slice a la ca):=by rw[←hW0];exact((Ji.new w _ _ _).alloc _).alloc _
 have b1:Ji W0 (w.heap.size+1) 25 (.bool t) (.slice b lb cb):=by
  have h:=(Ji.new (w.alloc (.cells #[.bool s,.slice a la ca] 25)) 25 (.bool t) (.slice b lb cb)).alloc (.cells #[.bool false,.slice none 0 0,.bool false,.slice none 0 0] 27);rw[BA,hW0]at h;exact h
 have bR:JD W0 (w.heap.size+1+1) 27 (.bool false) (.slice none 0 0) (.bool false) (.slice none 0 0):=by
  have h:=JD.new ((w.alloc (.cells #[.bool s,.slice a la ca] 25)).alloc (.cells #[.bool t,.slice b lb cb] 25)) 27 (.bool false) (.slice none 0 0) (.bool false) (.slice none 0 0);rw[BA,BA,hW0]at h;exact h
 rw[hW0]at M0;have Qa:=M0.2.2;obtain⟨HO,HA,HB,Qc⟩:=DY (fun(V:World) (u:Value) (h:Bl W0 V) (hu:Jd V u 1)=>Yr _ u (q.den:Int) 1 V ((hb.below Qa).below h) hu) (ha.below Qa) (hb.below Qa) hW0;obtain⟨k0,k1⟩:=b0.cp;obtain⟨k2,k3⟩:=b1.cp;have HZ:=Ja (show(Yq (q.den:Int) 1=0)↔q.den=1 by unfold Yq;split<;>(try split)<;>omega);obtain⟨n,hn⟩:=ex (Yq (q.den:Int) 1);rw[hn]at HO HZ;clear ha hb hW0 hn M0;go_enter func64,ntmps64
 go_upto_region 1 with fail
 rw[Qc.o];have hq:Bl W0 W0.drew:=(BC _ W0).drew;go_region_held3 (fun w'=>w'.cell? ⟨w.heap.size+1,0,none⟩=some (.bool t)∧w'.cell? ⟨w.heap.size+1,1,none⟩=some (.slice b lb cb)) (refine⟨?_,?_⟩<;>(first|(go_keep;done)|((repeat rw[Jw (by omega)]);simp[*];done)))
  (first
   |(go_at_call 40;refine(C7 1 (by omega) (by omega) _).mono ?_;rintro e w1 ⟨u1,rfl,hu1,hb1⟩;have hq:=Bt hq hb1;obtain⟨k2,k3⟩:=(b1.below hq).cp)
   |(go_at_call 39;refine(HO.o _ _ hq hu1).mono ?_;clear HO;rintro e w2 ⟨rfl,hb2⟩;have hq:=Bt hq hb2;obtain⟨k0,k1⟩:=(b0.below hq).cp;obtain⟨k2,k3⟩:=(b1.below hq).cp;obtain⟨r0,r1,r2,r3⟩:=(bR.below hq).cq;obtain⟨f0,f1,f2,f3⟩:=(bR.below hq).fq))
 have Qb:=Bt Qa hq;have bw:=bR.below hq;by_cases hn:n=0
 · have HD:=Ja (show Bv q=0 from Xu.2 (HZ.o.1 hn));subst hn;have hr:Jf w2 (.agg #[.bool s,.slice a la ca,.bool false,.slice none 0 0]) q:=Jf.mk (HA.o.below hq) (by rw[HD.o];exact Xb _);go_wp2_with fail
   exact BB (by simp[results,results64,go_sem,r0,r1,r2,r3]) J ⟨_,J,hr.put4 bw J J J J _ _ _ _,Jq Qb (by omega) _ _ _ _⟩
 · have HD:=Ja (show Bv q=q.den by unfold Bv;rw[BU (fun h=>hn (HZ.o.2 h))]);have hr:Jf w2 (.agg #[.bool s,.slice a la ca,.bool t,.slice b lb cb]) q:=Jf.mk (HA.o.below hq) (by rw[HD.o];exact HB.o.below hq);go_wp2_with fail
   exact BB (by simp[results,results64,go_sem,r0,r1,r2,r3]) J ⟨_,J,hr.put4 bw J J J J _ _ _ _,Jq Qb (by omega) _ _ _ _⟩
def YX{x y:Int}(hy:y≠0):(0:Int)<(Int.gcd x y:Nat):=by
 have:=Int.gcd_pos_of_ne_zero_right x hy;omega
def F7(va vb:Value)(x y:Int)(w:World)(ha:Jd w va x)(hb:Jd w vb y)(hy:y≠0)(hsx:Sok x)(hsy:Sok y):
 Calls Tryz.prog 44 #[va,vb] w fun e w'=>∃u,e=.returned u∧Jf w' u (L1 x y)∧Bl w w':=by
 obtain⟨HX,HY,HN⟩:=CK hsx hsy hy;clear hsx hsy hy;obtain⟨s,a,la,ca,rfl⟩:=Jd.form2 ha;obtain⟨t,b,lb,cb,rfl⟩:=Jd.form2 hb;have M0:=EK w s t a b la ca lb cb _ _ ha hb;obtain⟨W0,hW0⟩:=ex (((w.alloc (.cells #[.bool s,.slice a la ca] 25)).alloc (.cells #[.bool t,.slice b lb cb] 25)).alloc (.cells #[.bool false,.slice none 0 0,.bool false,.slice none 0 0] 27));have Qp:=Ja hW0;rw[hW0]at M0;have M1:=Ja M0;clear M0 ha hb hW0;go_enter func44,ntmps44
 go_upto_region 1 with fail
 rw[Qp.o];clear Qp;obtain⟨s1,a1,l1,c1,n1,i1⟩:=M1.o.int (i:=0) J;have Qr:=n1.ka;obtain⟨s2,a2,l2,c2,n2,i2⟩:=M1.o.int (i:=1) J;have Qs:=n2.ka;go_upto_region 2 with(go_at_call 38;refine(X8 _ _ x y _ i1 i2 (by have:=HX.o.words;omega) (by have:=HY.o.words;omega)).mono ?_;rintro e w1 ⟨u,rfl,hu,hb⟩;obtain⟨s90,a90,l90,c90,rfl⟩:=Jd.form2 hu)
 obtain⟨V3,hV⟩:=ex (w1.alloc (.cells #[.bool s90,.slice a90 l90 c90] 25));obtain⟨B3,hBk⟩:=ex (w1.heap.size);have MM:Bk w (w1.alloc (.cells #[.bool s90,.slice a90 l90 c90] 25)) [some (w.heap.size,.int (x)),some (w.heap.size+1,.int (y)),some (w.heap.size+1+1,.rat (0)),some (w1.heap.size,.int (((Int.gcd x y:Nat):Int)))]:=Bk.push (M1.o.below hb) (.int (((Int.gcd x y:Nat):Int))) hu;rw[hV,hBk]at MM;rw[hV];rw[hBk];have M2:=Ja (MM);clear M1;clear MM hV hBk;clear n1 Qr i1 n2 Qs i2 hu hb;have HG:=Ja (Sok.gcd HX.o HY.o);by_cases hn:y<0
 · have HL:=Ja hn;clear hn;obtain⟨s4,a4,l4,c4,n4,i4⟩:=M2.o.int (i:=1) J;have Qt:=n4.ka;have HO:=Ja (Yr _ _ y 0 V3 i4 (Xb _));rw[show Yq y 0=-1 from by unfold Yq;rw[BX HL.o]]at HO;go_upto_region 3 with(go_at_call 39;refine HO.o.mono ?_;rintro e w5 ⟨rfl,hb5⟩)
   have M3:=Ja (M2.o.below hb5);clear M2;clear n4 Qt i4 HO hb5;obtain⟨s5,a5,l5,c5,n5,i5⟩:=M3.o.int (i:=3) J;have Qq:=n5.ka;go_upto_region 4 with(go_at_call 65;refine(KJ _ _ 0 (((Int.gcd x y:Nat):Int)) _ (Xb _) i5 (by have:=Sok.zero.words;omega) (by have:=HG.o.words;omega)).mono ?_;rintro e w6 ⟨u6,rfl,hu6,hb6⟩;obtain⟨s92,a92,l92,c92,rfl⟩:=Jd.form2 hu6;have Qq:=(n5.below hb6).ka;have Qv:=(n5.below hb6).fa)
   obtain⟨V6,hV⟩:=ex ((w6.setCell ⟨B3,0,none⟩ (.bool s92)).setCell ⟨B3,1,none⟩ (.slice a92 l92 c92));have MM:Bk w ((w6.setCell ⟨B3,0,none⟩ (.bool s92)).setCell ⟨B3,1,none⟩ (.slice a92 l92 c92)) [some (w.heap.size,.int (x)),some (w.heap.size+1,.int (y)),some (w.heap.size+1+1,.rat (0)),some (B3,.int (0-((Int.gcd x y:Nat):Int)))]:=Bk.putInt (M3.o.below hb6) (i:=3) J hu6;rw[hV]at MM;rw[hV];have M4:=Ja (MM);clear M3;clear MM hV;clear n5 Qq i5 hu6 hb6;clear Qv;obtain⟨Qi,HE,Qo⟩:=CK (show(0-((Int.gcd x y:Nat):Int))≠0 by have:=YX (x:=x) HN.o;omega) (show(0-((Int.gcd x y:Nat):Int))=(if y<0 then -((Int.gcd x y:Nat):Int)else((Int.gcd x y:Nat):Int))by rw[BX HL.o];omega) (show Sok (0-((Int.gcd x y:Nat):Int))by rw[Int.zero_sub];exact HG.o.neg);obtain⟨s7,a7,l7,c7,n7,i7⟩:=M4.o.int (i:=0) J;have Qm:=n7.ka;obtain⟨s8,a8,l8,c8,n8,i8⟩:=M4.o.int (i:=1) J;have Ql:=n8.ka;obtain⟨s9,a9,l9,c9,n9,i9⟩:=M4.o.int (i:=3) J;have Qn:=n9.ka;obtain⟨s10,a10,l10,c10,t10,b10,k10,d10,n10,r10,i10,j10⟩:=M4.o.rat (i:=2) J;have Qa:=n10.kb;have Qe:=n10.fb;obtain⟨H1,H2,H3⟩:=CK (fun(V:World) (h:Bl V6 V)=>Yw _ _ x ((0-((Int.gcd x y:Nat):Int))) V (i7.below h) (i9.below h) Qi.o HX.o Qo.o) (fun(V:World) (h:Bl V6 V)=>Yw _ _ y ((0-((Int.gcd x y:Nat):Int))) V (i8.below h) (i9.below h) Qi.o HY.o Qo.o) (fun(V:World) (u v:Value) (hu:Jd V u (x/(0-((Int.gcd x y:Nat):Int)))) (hv:Jd V v (y/(0-((Int.gcd x y:Nat):Int))))=>Dg u v (L1 x y) V (by rw[Er HN.o,←HE.o];exact hu) (by rw[Es HN.o,←HE.o];exact hv));have Qu:=M4.o.ne 3 2 J J (by decide);have hq:Bl V6 V6.drew:=(BC _ V6).drew;go_region_held3 (fun w'=>(w'.cell? ⟨w.heap.size,0,none⟩=some (.bool s7)∧w'.cell? ⟨w.heap.size,1,none⟩=some (.slice a7 l7 c7))∧(w'.cell? ⟨w.heap.size+1,0,none⟩=some (.bool s8)∧w'.cell? ⟨w.heap.size+1,1,none⟩=some (.slice a8 l8 c8))∧w'.cell? ⟨B3,0,none⟩=some (.bool s9)∧w'.cell? ⟨B3,1,none⟩=some (.slice a9 l9 c9)) (first|grind|(go_keep;done)|grind[Jw])
    (first
     |(go_at_call 63;refine(H1.o _ hq).mono ?_;clear H1;rintro e w2 ⟨u2,rfl,Qd,hb2⟩;have hq:=Bt hq hb2;have Qm:=(n7.below hq).ka;have Ql:=(n8.below hq).ka;have Qn:=(n9.below hq).ka;have Qa:=(n10.below hq).kb;have Qe:=(n10.below hq).fb)
     |(go_at_call 63;refine(H2.o _ hq).mono ?_;clear H2;rintro e w3 ⟨u3,rfl,hu3,hb3⟩;have Qd:=Qd.below hb3;have hq:=Bt hq hb3;have Qm:=(n7.below hq).ka;have Ql:=(n8.below hq).ka;have Qn:=(n9.below hq).ka;have Qa:=(n10.below hq).kb;have Qe:=(n10.below hq).fb)
     |(go_at_call 64;refine(H3.o _ _ _ Qd hu3).mono ?_;clear H3;rintro e w4 ⟨u4,rfl,hu4,hb4⟩;obtain⟨s91,a91,l91,c91,t91,b91,k91,d91,rfl⟩:=Jf.form hu4;have hq:=Bt hq hb4;have Qm:=(n7.below hq).ka;have Ql:=(n8.below hq).ka;have Qn:=(n9.below hq).ka;have Qa:=(n10.below hq).kb;have Qe:=(n10.below hq).fb))
   all_goals go_wp2_with fail
   have Qk:=Bt M4.o.2.2 hq;exact BB (by simp[results,results44,go_sem,Qa]) J ⟨_,J,hu4.put4 (n10.below hq) J J J J _ _ _ _,Jq Qk (by omega) _ _ _ _⟩
 · have HL:=Ja hn;clear hn;obtain⟨s11,a11,l11,c11,n11,i11⟩:=M2.o.int (i:=1) J;have Qj:=n11.ka;have HO:=Ja (Yr _ _ y 0 V3 i11 (Xb _));rw[show Yq y 0=1 from by have h1:=HL.o;have h2:=HN.o;unfold Yq;omega]at HO;go_upto_region 4 with(go_at_call 39;refine HO.o.mono ?_;rintro e w5 ⟨rfl,hb5⟩)
   have M3:=Ja (M2.o.below hb5);clear M2;clear n11 Qj i11 HO hb5;have Qi:=Ja (show((Int.gcd x y:Nat):Int)≠0 by have:=YX (x:=x) HN.o;omega);have HE:=Ja (show((Int.gcd x y:Nat):Int)=(if y<0 then -((Int.gcd x y:Nat):Int)else((Int.gcd x y:Nat):Int))by rw[BU (by have:=HL.o;omega)]);obtain⟨s12,a12,l12,c12,n12,i12⟩:=M3.o.int (i:=0) J;have Qc:=n12.ka;obtain⟨s13,a13,l13,c13,n13,i13⟩:=M3.o.int (i:=1) J;have Qf:=n13.ka;obtain⟨s14,a14,l14,c14,n14,i14⟩:=M3.o.int (i:=3) J;have Qh:=n14.ka;obtain⟨s15,a15,l15,c15,t15,b15,k15,d15,n15,r15,i15,j15⟩:=M3.o.rat (i:=2) J;have Qb:=n15.kb;have Qg:=n15.fb;obtain⟨H1,H2,H3⟩:=CK (fun(V:World) (h:Bl w5 V)=>Yw _ _ x (((Int.gcd x y:Nat):Int)) V (i12.below h) (i14.below h) Qi.o HX.o HG.o) (fun(V:World) (h:Bl w5 V)=>Yw _ _ y (((Int.gcd x y:Nat):Int)) V (i13.below h) (i14.below h) Qi.o HY.o HG.o) (fun(V:World) (u v:Value) (hu:Jd V u (x/((Int.gcd x y:Nat):Int))) (hv:Jd V v (y/((Int.gcd x y:Nat):Int)))=>Dg u v (L1 x y) V (by rw[Er HN.o,←HE.o];exact hu) (by rw[Es HN.o,←HE.o];exact hv));have Qu:=M3.o.ne 3 2 J J (by decide);have hq:Bl w5 w5.drew:=(BC _ w5).drew;go_region_held3 (fun w'=>(w'.cell? ⟨w.heap.size,0,none⟩=some (.bool s12)∧w'.cell? ⟨w.heap.size,1,none⟩=some (.slice a12 l12 c12))∧(w'.cell? ⟨w.heap.size+1,0,none⟩=some (.bool s13)∧w'.cell? ⟨w.heap.size+1,1,none⟩=some (.slice a13 l13 c13))∧w'.cell? ⟨B3,0,none⟩=some (.bool s14)∧w'.cell? ⟨B3,1,none⟩=some (.slice a14 l14 c14)) (first|grind|(go_keep;done)|grind[Jw])
    (first
     |(go_at_call 63;refine(H1.o _ hq).mono ?_;clear H1;rintro e w2 ⟨u2,rfl,Qd,hb2⟩;have hq:=Bt hq hb2;have Qc:=(n12.below hq).ka;have Qf:=(n13.below hq).ka;have Qh:=(n14.below hq).ka;have Qb:=(n15.below hq).kb;have Qg:=(n15.below hq).fb)
     |(go_at_call 63;refine(H2.o _ hq).mono ?_;clear H2;rintro e w3 ⟨u3,rfl,hu3,hb3⟩;have Qd:=Qd.below hb3;have hq:=Bt hq hb3;have Qc:=(n12.below hq).ka;have Qf:=(n13.below hq).ka;have Qh:=(n14.below hq).ka;have Qb:=(n15.below hq).kb;have Qg:=(n15.below hq).fb)
     |(go_at_call 64;refine(H3.o _ _ _ Qd hu3).mono ?_;clear H3;rintro e w4 ⟨u4,rfl,hu4,hb4⟩;obtain⟨s91,a91,l91,c91,t91,b91,k91,d91,rfl⟩:=Jf.form hu4;have hq:=Bt hq hb4;have Qc:=(n12.below hq).ka;have Qf:=(n13.below hq).ka;have Qh:=(n14.below hq).ka;have Qb:=(n15.below hq).kb;have Qg:=(n15.below hq).fb))
   all_goals go_wp2_with fail
   have Qk:=Bt M3.o.2.2 hq;exact BB (by simp[results,results44,go_sem,Qb]) J ⟨_,J,hu4.put4 (n15.below hq) J J J J _ _ _ _,Jq Qk (by omega) _ _ _ _⟩
def EL(w:World)(s t s' t':Bool)(a b a' b':N)(l c k d l' c' k' d':Nat)(p q:Rat)(hp:Jf w (.agg #[.bool s,.slice a l c,.bool t,.slice b k d]) p)(hq:Jf w (.agg #[.bool s',.slice a' l' c',.bool t',.slice b' k' d']) q):
 Bk w (((w.alloc (.cells #[.bool s,.slice a l c,.bool t,.slice b k d] 27)).alloc (.cells #[.bool s',.slice a' l' c',.bool t',.slice b' k' d'] 27)).alloc (.cells #[.bool false,.slice none 0 0,.bool false,.slice none 0 0] 27)) [some (w.heap.size,.rat p),some (w.heap.size+1,.rat q),some (w.heap.size+1+1,.rat 0)]:=by
 have h:=(((Bk.nil w).push (.rat p) hp).push (.rat q) (hq.below (Ba w _))).push (.rat 0) (X7 _);rw[BA,BA,BA]at h;exact h
def LB(w:World)(s t s' t':Bool)(a b a' b':N)(l c k d l' c' k' d':Nat)(p q:Rat)(hp:Jf w (.agg #[.bool s,.slice a l c,.bool t,.slice b k d]) p)(hq:Jf w (.agg #[.bool s',.slice a' l' c',.bool t',.slice b' k' d']) q):
 Bk w ((w.alloc (.cells #[.bool s,.slice a l c,.bool t,.slice b k d] 27)).alloc (.cells #[.bool s',.slice a' l' c',.bool t',.slice b' k' d'] 27)) [some (w.heap.size,.rat p),some (w.heap.size+1,.rat q)]:=by
 have h:=((Bk.nil w).push (.rat p) hp).push (.rat q) (hq.below (Ba w _));rw[BA]at h;exact h
def Xy{q:Rat}(h:q.den=1):q=(q.num:Rat):=Rat.ext J h
def LC{p q:Rat}(hp:p.den=1)(hq:q.den=1):(p+q).num=p.num+q.num∧(p+q).den=1:=by
 have h:p+q=((p.num+q.num:Int):Rat):=by rw[Rat.intCast_add,←Xy hp,←Xy hq]
 rw[h];exact⟨J,J⟩
def LD{p q:Rat}(hp:p.den=1)(hq:q.den=1):(p*q).num=p.num*q.num∧(p*q).den=1:=by
 have h:p*q=((p.num*q.num:Int):Rat):=by rw[Rat.intCast_mul,←Xy hp,←Xy hq]
 rw[h];exact⟨J,J⟩
def LE(p q:Rat)(hp:Sq p)(hq:Sq q)(cm lf rt ab ag:Int)(h1:((Int.gcd (p.den:Int) (q.den:Int):Nat):Int)=cm)(h2:(p.den:Int)/cm=lf)(h3:(q.den:Int)/cm=rt)(h4:p.num*rt+q.num*lf=ab)(h5:((Int.gcd ab cm:Nat):Int)=ag):
 Sok cm∧cm≠0∧Sok lf∧Sok rt∧Sok ab∧Sok ag∧ag≠0∧Sok (p.num*rt)∧Sok (q.num*lf)∧(p+q).num=ab/ag∧((p+q).den:Int)=lf*(q.den/ag):=by
 have hl:=Gt p q cm lf rt ab ag h1.symm h2.symm h3.symm h4.symm h5.symm;have Qb:cm≠0:=by rw[←h1];have:=YX (x:=(p.den:Int)) (y:=q.den) (by have:=q.den_nz;omega);omega
 have sc:Sok cm:=by rw[←h1];exact hp.den.gcd hq.den
 have Qd:Sm 1000000000 lf:=by rw[←h2];exact hp.sm.2.div
 have Qc:Sm 1000000000 rt:=by rw[←h3];exact hq.sm.2.div
 have s1:=hp.sm.1.mul Qc;have s2:=hq.sm.1.mul Qd;have Qa:Sok ab:=by rw[←h4];exact Sok.of (s1.add s2) (by omega)
 refine⟨sc,Qb,Sok.of Qd (by omega),Sok.of Qc (by omega),Qa,by rw[←h5];exact Qa.gcd sc,?_,Sok.of s1 (by omega),Sok.of s2 (by omega),hl.1,hl.2⟩;rw[←h5];have:=YX (x:=ab) Qb;omega
def F8(va vb:Value)(p q:Rat)(w:World)(ha:Jf w va p)(hb:Jf w vb q)(hsp:Sq p)(hsq:Sq q):
 Calls Tryz.prog 27 #[va,vb] w fun e w'=>∃u,e=.returned u∧Jf w' u (p+q)∧Bl w w':=by
 obtain⟨s,a,l,c,t,b,k,d,rfl⟩:=Jf.form ha;obtain⟨s',a',l',c',t',b',k',d',rfl⟩:=Jf.form hb;have M0:=EL w s t s' t' a b a' b' l c k d l' c' k' d' p q ha hb;obtain⟨W0,hW0⟩:=ex (((w.alloc (.cells #[.bool s,.slice a l c,.bool t,.slice b k d] 27)).alloc (.cells #[.bool s',.slice a' l' c',.bool t',.slice b' k' d'] 27)).alloc (.cells #[.bool false,.slice none 0 0,.bool false,.slice none 0 0] 27));have Qo:=Ja hW0;rw[hW0]at M0;obtain⟨M1,HP,HQ⟩:=CK M0 hsp hsq;clear M0 ha hb hW0 hsp hsq;go_enter func27,ntmps27
 go_upto_region 1 with fail
 rw[Qo.o];clear Qo;obtain⟨bb,hbb⟩:=ex (decide (p.den=1∧q.den=1):Bool);have Qh:=Ja hbb;clear hbb;go_cut [15] (fun c w'=>c=.bool bb∧Hid (Bk w w' [some (w.heap.size,.rat (p)),some (w.heap.size+1,.rat (q)),some (w.heap.size+1+1,.rat (0))]))
 case first=>
  obtain⟨s1,a1,l1,c1,t1,b1,k1,d1,n1,r1,i1,j1⟩:=M1.o.rat (i:=0) J;have Qv:=n1.kb;obtain⟨s2,a2,l2,c2,t2,b2,k2,d2,n2,r2,i2,j2⟩:=M1.o.rat (i:=1) J;have Qx:=n2.kb;have H1:=Ja (J9 _ p W0 r1);have H2:=Ja (fun(V:World) (h:Bl W0 V)=>J9 _ q V (r2.below h));by_cases h1:p.den=1
  · rw[BI h1]at H1;obtain⟨b2,hb2⟩:=ex (decide (q.den=1));rw[hb2]at H2;have Qk:=Ja (show b2=bb by rw[←hb2,←Qh.o];exact decide_eq_decide.2 ⟨fun h=>⟨h1,h⟩,fun h=>h.2⟩);clear hb2 h1;go_wp2_with(first
     |(go_at_call 47;refine H1.o.mono ?_;clear H1;rintro e w1 ⟨rfl,hb1⟩;have Qv:=(n1.below hb1).kb;have Qx:=(n2.below hb1).kb)
     |(go_at_call 47;refine(H2.o _ hb1).mono ?_;clear H2;rintro e w2 ⟨rfl,hb2⟩))
    go_meet
    case rel=>exact⟨by rw[Qk.o],Ja ((M1.o.below hb1).below hb2)⟩
  · rw[BH h1]at H1;have Qk:=Ja (show bb=false by rw[←Qh.o];exact BH (fun h=>h1 h.1));clear h1;go_wp2_with(go_at_call 47;refine H1.o.mono ?_;clear H1;rintro e w1 ⟨rfl,hb1⟩)
    go_meet
    case rel=>exact⟨by rw[Qk.o],Ja (M1.o.below hb1)⟩
 obtain⟨rfl,MM⟩:=hcut;have M2:=MM;clear M1 MM;cases bb with
 |true=>
  have Qi:=BQ Qh.o;have HW:=Ja (LC Qi.1 Qi.2);clear Qi Qh;obtain⟨s3,a3,l3,c3,t3,b3,k3,d3,n3,r3,i3,j3⟩:=M2.o.rat (i:=0) J;have En3:=n3.kb;obtain⟨s4,a4,l4,c4,t4,b4,k4,d4,n4,r4,i4,j4⟩:=M2.o.rat (i:=1) J;have En4:=n4.kb;obtain⟨s5,a5,l5,c5,t5,b5,k5,d5,n5,r5,i5,j5⟩:=M2.o.rat (i:=2) J;have Qt:=n5.kb;have Qz:=n5.fb;go_wp2_with(go_at_call 42;refine(DZ _ _ p.num q.num _ i3 i4 (by have:=HP.o.num.words;omega) (by have:=HQ.o.num.words;omega)).mono ?_;rintro e w1 ⟨u,rfl,hu,hq⟩;obtain⟨s90,a90,l90,c90,rfl⟩:=Jd.form2 hu;have Qt:=(n5.below hq).kb;have Qz:=(n5.below hq).fb)
  have hr:=Jf.mk (by rw[HW.o.1];exact hu) (by rw[Xu.2 HW.o.2];exact Xb _);have Ql:=Bt M2.o.2.2 hq;exact BB (by simp[results,results27,go_sem,Qt]) J ⟨_,J,hr.put4 (n5.below hq) J J J J _ _ _ _,Jq Ql (by omega) _ _ _ _⟩
 |false=>
  clear Qh;obtain⟨cm,hcm⟩:=ex (((Int.gcd (p.den:Int) (q.den:Int):Nat):Int):Int);have Qs:=Ja hcm;clear hcm;obtain⟨lf,hlf⟩:=ex ((p.den:Int)/cm:Int);have Qq:=Ja hlf;clear hlf;obtain⟨rt,hrt⟩:=ex ((q.den:Int)/cm:Int);have Qn:=Ja hrt;clear hrt;obtain⟨ab,hab⟩:=ex (p.num*rt+q.num*lf:Int);have Qr:=Ja hab;clear hab;obtain⟨ag,hag⟩:=ex (((Int.gcd ab cm:Nat):Int):Int);have Qp:=Ja hag;clear hag;obtain⟨S1,S2,S3,S4,S5,S6,S7,S8,S9,S10,S11⟩:=LE p q HP.o HQ.o cm lf rt ab ag Qs.o Qq.o Qn.o Qr.o Qp.o;obtain⟨T1,T2,T3,T4,T5,T6,T7,T8⟩:=Du S1 S2 S3 S4 S5 S6 S7 S8;obtain⟨T9,Qy,Qw⟩:=CK S9 S10 S11;clear S1 S2 S3 S4 S5 S6 S7 S8 S9 S10 S11;go_upto_region 3 with fail
  refine C9 CN [[],[0],[],[2,1],[1,3,3],[],[5,4,4,0,1,2,3,4,5]] [.rat p,.int ((p.den:Int)),.rat q,.int ((q.den:Int)),.int cm,.ptr,.eq undef] [5,6]
   (fun b v V=>Bk w V [some (w.heap.size,.rat p),some (w.heap.size+1,.rat q),some (w.heap.size+1+1,.rat 0),nb b v 0 1 (.int 0) (.int cm)]) (M2.o.none).drew (SB (.vl J fun _ j=>DA 0 j)<|SB (.cl fun h _=>YE _ p _ (h.g 0))<|SB (.vl J fun _ j=>DA 1 j)<|SB (.cl fun h _=>YE _ q _ (h.g 2))<|SB (.cl fun h _=>(by have h:=X8 _ _ (p.den:Int) (q.den:Int) _ (h.g 1) (h.g 3) (by have:=HP.o.den.words;omega) (by have:=HQ.o.den.words;omega);rw[Qs.o]at h;exact h))<|SB (.wr J fun _ j=>C0 3 j)<|SB (.wr J fun h j=>CZ 3 j (h.g 4) (hp:=h.g 5)) Stp.end_)
   fun f V7 hF MM=>?_
  refine CP ?_;obtain⟨B8,hB8⟩:=hF.p 5;have MM:=DE MM;simp only[hB8]at MM;rw[hB8];have M3:=Ja MM;clear MM hF hB8;clear M2;go_upto_region 4 with fail
  refine C9 CN [[],[0],[],[1,2,1],[],[4,3],[],[5,6,5],[],[],[8,3,7,0,1,2,3,8,9],[9,7,10,0,1,2,3,4,5,6,7,8,9,10]] [.rat p,.int ((p.den:Int)),.int cm,.int lf,.rat q,.int ((q.den:Int)),.int cm,.int rt,.ptr,.ptr,.eq undef,.eq undef] [8,9,10,11]
   (fun b v V=>Bk w V [some (w.heap.size,.rat p),some (w.heap.size+1,.rat q),some (w.heap.size+1+1,.rat 0),some (B8,.int cm),nb b v 0 2 (.int 0) (.int lf),nb b v 1 3 (.int 0) (.int rt)]) ((M3.o.none).none).drew (SB (.vl J fun _ j=>DA 0 j)<|SB (.cl fun h _=>YE _ p _ (h.g 0))<|SB (.vl J fun _ j=>DB 3 j)<|SB (.cl fun h _=>(by have h:=Yw _ _ (p.den:Int) cm _ (h.g 1) (h.g 2) T2.o HP.o.den T1.o;rw[Qq.o]at h;exact h))<|SB (.vl J fun _ j=>DA 1 j)<|SB (.cl fun h _=>YE _ q _ (h.g 4))<|SB (.vl J fun _ j=>DB 3 j)<|SB (.cl fun h _=>(by have h:=Yw _ _ (q.den:Int) cm _ (h.g 5) (h.g 6) T2.o HQ.o.den T1.o;rw[Qn.o]at h;exact h))<|SB (.wr J fun _ j=>C0 4 j)<|SB (.wr J fun _ j=>C0 5 j)<|SB (.wr J fun h j=>CZ 4 j (h.g 3) (hp:=h.g 8))<|SB (.wr J fun h j=>CZ 5 j (h.g 7) (hp:=h.g 9)) Stp.end_)
   fun f V10 hF MM=>?_
  refine CP ?_;obtain⟨B11,hB11⟩:=hF.p 8;obtain⟨B12,hB12⟩:=hF.p 9;have MM:=DE MM;simp only[hB11,hB12]at MM;rw[hB11,hB12];have M4:=Ja MM;clear MM hF hB11 hB12;clear M3;go_upto_region 5 with fail
  refine C9 CN [[],[0],[],[1,2],[],[4],[],[5,6,3],[3,7,7],[],[9,8,8,0,1,2,3,4,5,6,7,8,9]] [.eq (.pointer (some ⟨w.heap.size,0,none⟩)),.int (Rat.num (p)),.int rt,.int (p.num*rt),.eq (.pointer (some ⟨w.heap.size+1,0,none⟩)),.int (Rat.num (q)),.int lf,.int (q.num*lf),.int ab,.ptr,.eq undef] [9,10]
   (fun b v V=>Bk w V [some (w.heap.size,.rat p),some (w.heap.size+1,.rat q),some (w.heap.size+1+1,.rat 0),some (B8,.int cm),some (B11,.int lf),some (B12,.int rt),nb b v 0 1 (.int 0) (.int ab)]) (M4.o.none).drew (SB (.vl J fun _ _=>⟨_,by refine CP ?_;go_simp,J⟩)<|SB (.vl J fun h j=>DC 0 j (hp:=h.e 0))<|SB (.vl J fun _ j=>DB 5 j)<|SB (.cl fun h _=>JX _ _ p.num rt _ (h.g 1) (h.g 2) (by have:=HP.o.num.words;have:=T4.o.words;omega))<|SB (.vl J fun _ _=>⟨_,by refine CP ?_;go_simp,J⟩)<|SB (.vl J fun h j=>DC 1 j (hp:=h.e 4))<|SB (.vl J fun _ j=>DB 4 j)<|SB (.cl fun h _=>JX _ _ q.num lf _ (h.g 5) (h.g 6) (by have:=HQ.o.num.words;have:=T3.o.words;omega))<|SB (.cl fun h _=>(by have h:=DZ _ _ (p.num*rt) (q.num*lf) _ (h.g 3) (h.g 7) (by have:=T8.o.words;omega) (by have:=T9.o.words;omega);rw[Qr.o]at h;exact h))<|SB (.wr J fun _ j=>C0 6 j)<|SB (.wr J fun h j=>CZ 6 j (h.g 8) (hp:=h.g 9)) Stp.end_)
   fun f V14 hF MM=>?_
  refine CP ?_;rw[hF.e 0,hF.e 4];obtain⟨B15,hB15⟩:=hF.p 9;have MM:=DE MM;simp only[hB15]at MM;rw[hB15];have M5:=Ja MM;clear MM hF hB15;clear M4;go_upto_region 6 with fail
  obtain⟨s16,a16,l16,c16,n16,i16⟩:=M5.o.int (i:=6) J;have Qj:=n16.ka;obtain⟨s17,a17,l17,c17,n17,i17⟩:=M5.o.int (i:=3) J;have Qm:=n17.ka;have HC:=Ja (X8 _ _ ab cm V14 i16 i17 (by have:=T5.o.words;omega) (by have:=T1.o.words;omega));rw[Qp.o]at HC;go_upto_region 7 with(go_at_call 38;refine HC.o.mono ?_;clear HC;rintro e w1 ⟨u,rfl,hu,hb⟩;obtain⟨s90,a90,l90,c90,rfl⟩:=Jd.form2 hu)
  obtain⟨V18,hV⟩:=ex (w1.alloc (.cells #[.bool s90,.slice a90 l90 c90] 25));obtain⟨B18,hBk⟩:=ex (w1.heap.size);have MM:Bk w (w1.alloc (.cells #[.bool s90,.slice a90 l90 c90] 25)) [some (w.heap.size,.rat (p)),some (w.heap.size+1,.rat (q)),some (w.heap.size+1+1,.rat (0)),some (B8,.int (cm)),some (B11,.int (lf)),some (B12,.int (rt)),some (B15,.int (ab)),some (w1.heap.size,.int (ag))]:=Bk.push (M5.o.below hb) (.int (ag)) hu;rw[hV,hBk]at MM;rw[hV];rw[hBk];have M6:=Ja (MM);clear M5;clear MM hV hBk;clear n16 Qj i16 n17 Qm i17 hu hb;obtain⟨s19,a19,l19,c19,n19,i19⟩:=M6.o.int (i:=6) J;have Qe:=n19.ka;obtain⟨s20,a20,l20,c20,n20,i20⟩:=M6.o.int (i:=7) J;have Qb:=n20.ka;obtain⟨s21,a21,l21,c21,n21,i21⟩:=M6.o.int (i:=4) J;have Qf:=n21.ka;obtain⟨s22,a22,l22,c22,t22,b22,k22,d22,n22,r22,i22,j22⟩:=M6.o.rat (i:=1) J;have Qc:=n22.kb;obtain⟨s23,a23,l23,c23,t23,b23,k23,d23,n23,r23,i23,j23⟩:=M6.o.rat (i:=2) J;have Qa:=n23.kb;have Qd:=n23.fb;obtain⟨H1,H2,H3,H4,H5⟩:=C6 (fun(V:World) (h:Bl V18 V)=>Yw _ _ ab ag V (i19.below h) (i20.below h) T7.o T5.o T6.o) (fun(V:World) (h:Bl V18 V)=>YE _ q V (r22.below h)) (fun(V:World) (u:Value) (h:Bl V18 V) (hu:Jd V u (q.den:Int))=>Yw u _ (q.den:Int) ag V hu (i20.below h) T7.o HQ.o.den T6.o) (fun(V:World) (u:Value) (h:Bl V18 V) (hu:Jd V u ((q.den:Int)/ag))=>JX _ u lf ((q.den:Int)/ag) V (i21.below h) hu (by have h1:=T3.o.words;have h2:=(Sok.div (y:=ag) HQ.o.den).words;omega)) (fun(V:World) (u v:Value) (hu:Jd V u (ab/ag)) (hv:Jd V v (lf*((q.den:Int)/ag)))=>Dg u v (p+q) V (by rw[Qy.o];exact hu) (by rw[Qw.o];exact hv));have ne6:=M6.o.ne 6 2 J J (by decide);have ne7:=M6.o.ne 7 2 J J (by decide);have ne4:=M6.o.ne 4 2 J J (by decide);have ne1:=M6.o.ne 1 2 J J (by decide);have hq:Bl V18 V18.drew:=(BC _ V18).drew;go_region_held3 (fun w'=>(w'.cell? ⟨B15,0,none⟩=some (.bool s19)∧w'.cell? ⟨B15,1,none⟩=some (.slice a19 l19 c19))∧(w'.cell? ⟨B18,0,none⟩=some (.bool s20)∧w'.cell? ⟨B18,1,none⟩=some (.slice a20 l20 c20))∧(w'.cell? ⟨B11,0,none⟩=some (.bool s21)∧w'.cell? ⟨B11,1,none⟩=some (.slice a21 l21 c21))∧w'.cell? ⟨w.heap.size+1,0,none⟩=some (.bool s22)∧w'.cell? ⟨w.heap.size+1,1,none⟩=some (.slice a22 l22 c22)∧w'.cell? ⟨w.heap.size+1,2,none⟩=some (.bool t22)∧w'.cell? ⟨w.heap.size+1,3,none⟩=some (.slice b22 k22 d22)) (first|grind|(go_keep;done)|((repeat' apply And.intro)<;>((repeat rw[Jw (by omega)]);grind)))
   (first
    |(go_at_call 63;refine(H1.o _ hq).mono ?_;clear H1;rintro e w2 ⟨u2,rfl,Qg,hb2⟩;have hq:=Bt hq hb2;have Qe:=(n19.below hq).ka;have Qb:=(n20.below hq).ka;have Qf:=(n21.below hq).ka;have Qc:=(n22.below hq).kb;have Qa:=(n23.below hq).kb;have Qd:=(n23.below hq).fb)
    |(go_at_call 10;refine(H2.o _ hq).mono ?_;clear H2;rintro e w3 ⟨u3,rfl,hu3,hb3⟩;have Qg:=Qg.below hb3;have hq:=Bt hq hb3;have Qe:=(n19.below hq).ka;have Qb:=(n20.below hq).ka;have Qf:=(n21.below hq).ka;have Qc:=(n22.below hq).kb;have Qa:=(n23.below hq).kb;have Qd:=(n23.below hq).fb)
    |(go_at_call 63;refine(H3.o _ _ hq hu3).mono ?_;clear H3;rintro e w4 ⟨u4,rfl,hu4,hb4⟩;have Qg:=Qg.below hb4;have hq:=Bt hq hb4;have Qe:=(n19.below hq).ka;have Qb:=(n20.below hq).ka;have Qf:=(n21.below hq).ka;have Qc:=(n22.below hq).kb;have Qa:=(n23.below hq).kb;have Qd:=(n23.below hq).fb)
    |(go_at_call 51;refine(H4.o _ _ hq hu4).mono ?_;clear H4;rintro e w5 ⟨u5,rfl,hu5,hb5⟩;have Qg:=Qg.below hb5;have hq:=Bt hq hb5;have Qe:=(n19.below hq).ka;have Qb:=(n20.below hq).ka;have Qf:=(n21.below hq).ka;have Qc:=(n22.below hq).kb;have Qa:=(n23.below hq).kb;have Qd:=(n23.below hq).fb)
    |(go_at_call 64;refine(H5.o _ _ _ Qg hu5).mono ?_;clear H5;rintro e w6 ⟨u6,rfl,hu6,hb6⟩;obtain⟨s91,a91,l91,c91,t91,b91,k91,d91,rfl⟩:=Jf.form hu6;have hq:=Bt hq hb6;have Qe:=(n19.below hq).ka;have Qb:=(n20.below hq).ka;have Qf:=(n21.below hq).ka;have Qc:=(n22.below hq).kb;have Qa:=(n23.below hq).kb;have Qd:=(n23.below hq).fb))
  all_goals go_wp2_with fail
  have Ql:=Bt M6.o.2.2 hq;have Qu:=M6.o.ge 2 J;exact BB (by simp[results,results27,go_sem,Qa]) J ⟨_,J,hu6.put4 (n23.below hq) J J J J _ _ _ _,Jq Ql Qu _ _ _ _⟩
def LF(p q:Rat)(hp:Sq p)(hq:Sq q)(dn up x y:Int)(h1:((Int.gcd p.num (q.den:Int):Nat):Int)=dn)(h2:((Int.gcd q.num (p.den:Int):Nat):Int)=up)(h3:p.num/dn=x)(h4:q.num/up=y):
 Sok dn∧dn≠0∧Sok up∧up≠0∧Sok x∧Sok y∧(p*q).num=x*y∧((p*q).den:Int)=p.den/up*(q.den/dn):=by
 have hl:=Gu p q dn up h1.symm h2.symm;have Qb:dn≠0:=by rw[←h1];have:=YX (x:=p.num) (y:=q.den) (by have:=q.den_nz;omega);omega
 have Qa:up≠0:=by rw[←h2];have:=YX (x:=q.num) (y:=p.den) (by have:=p.den_nz;omega);omega
 refine⟨by rw[←h1];exact hp.num.gcd hq.den,Qb,by rw[←h2];exact hq.num.gcd hp.den,Qa,by rw[←h3];exact hp.num.div,by rw[←h4];exact hq.num.div,?_,hl.2⟩;rw[hl.1,h3,h4]
def Xq(va vb:Value)(p q:Rat)(w:World)(ha:Jf w va p)(hb:Jf w vb q)(hsp:Sq p)(hsq:Sq q):
 Calls Tryz.prog 29 #[va,vb] w fun e w'=>∃u,e=.returned u∧Jf w' u (p*q)∧Bl w w':=by
 obtain⟨s,a,l,c,t,b,k,d,rfl⟩:=Jf.form ha;obtain⟨s',a',l',c',t',b',k',d',rfl⟩:=Jf.form hb;have M0:=EL w s t s' t' a b a' b' l c k d l' c' k' d' p q ha hb;obtain⟨W0,hW0⟩:=ex (((w.alloc (.cells #[.bool s,.slice a l c,.bool t,.slice b k d] 27)).alloc (.cells #[.bool s',.slice a' l' c',.bool t',.slice b' k' d'] 27)).alloc (.cells #[.bool false,.slice none 0 0,.bool false,.slice none 0 0] 27));have Ql:=Ja hW0;rw[hW0]at M0;obtain⟨M1,HP,HQ⟩:=CK M0 hsp hsq;clear M0 ha hb hW0 hsp hsq;go_enter func29,ntmps29
 go_upto_region 1 with fail
 rw[Ql.o];clear Ql;obtain⟨bb,hbb⟩:=ex (decide (p.den=1∧q.den=1):Bool);have Qh:=Ja hbb;clear hbb;go_cut [13] (fun c w'=>c=.bool bb∧Hid (Bk w w' [some (w.heap.size,.rat (p)),some (w.heap.size+1,.rat (q)),some (w.heap.size+1+1,.rat (0))]))
 case first=>
  obtain⟨s1,a1,l1,c1,t1,b1,k1,d1,n1,r1,i1,j1⟩:=M1.o.rat (i:=0) J;have Qr:=n1.kb;obtain⟨s2,a2,l2,c2,t2,b2,k2,d2,n2,r2,i2,j2⟩:=M1.o.rat (i:=1) J;have Qs:=n2.kb;have H1:=Ja (J9 _ p W0 r1);have H2:=Ja (fun(V:World) (h:Bl W0 V)=>J9 _ q V (r2.below h));by_cases h1:p.den=1
  · rw[BI h1]at H1;obtain⟨b2,hb2⟩:=ex (decide (q.den=1));rw[hb2]at H2;have Qj:=Ja (show b2=bb by rw[←hb2,←Qh.o];exact decide_eq_decide.2 ⟨fun h=>⟨h1,h⟩,fun h=>h.2⟩);clear hb2 h1;go_wp2_with(first
     |(go_at_call 47;refine H1.o.mono ?_;clear H1;rintro e w1 ⟨rfl,hb1⟩;have Qr:=(n1.below hb1).kb;have Qs:=(n2.below hb1).kb)
     |(go_at_call 47;refine(H2.o _ hb1).mono ?_;clear H2;rintro e w2 ⟨rfl,hb2⟩))
    go_meet
    case rel=>exact⟨by rw[Qj.o],Ja ((M1.o.below hb1).below hb2)⟩
  · rw[BH h1]at H1;have Qj:=Ja (show bb=false by rw[←Qh.o];exact BH (fun h=>h1 h.1));clear h1;go_wp2_with(go_at_call 47;refine H1.o.mono ?_;clear H1;rintro e w1 ⟨rfl,hb1⟩)
    go_meet
    case rel=>exact⟨by rw[Qj.o],Ja (M1.o.below hb1)⟩
 obtain⟨rfl,MM⟩:=hcut;have M2:=MM;clear M1 MM;cases bb with
 |true=>
  have Qi:=BQ Qh.o;have HW:=Ja (LD Qi.1 Qi.2);clear Qi Qh;obtain⟨s3,a3,l3,c3,t3,b3,k3,d3,n3,r3,i3,j3⟩:=M2.o.rat (i:=0) J;have En3:=n3.kb;obtain⟨s4,a4,l4,c4,t4,b4,k4,d4,n4,r4,i4,j4⟩:=M2.o.rat (i:=1) J;have En4:=n4.kb;obtain⟨s5,a5,l5,c5,t5,b5,k5,d5,n5,r5,i5,j5⟩:=M2.o.rat (i:=2) J;have Qp:=n5.kb;have Qt:=n5.fb;go_wp2_with(go_at_call 51;refine(JX _ _ p.num q.num _ i3 i4 (by have h1:=HP.o.num.words;have h2:=HQ.o.num.words;omega)).mono ?_;rintro e w1 ⟨u,rfl,hu,hq⟩;obtain⟨s90,a90,l90,c90,rfl⟩:=Jd.form2 hu;have Qp:=(n5.below hq).kb;have Qt:=(n5.below hq).fb)
  have hr:=Jf.mk (by rw[HW.o.1];exact hu) (by rw[Xu.2 HW.o.2];exact Xb _);have Qk:=Bt M2.o.2.2 hq;exact BB (by simp[results,results29,go_sem,Qp]) J ⟨_,J,hr.put4 (n5.below hq) J J J J _ _ _ _,Jq Qk (by omega) _ _ _ _⟩
 |false=>
  clear Qh;obtain⟨dn,hdn⟩:=ex (((Int.gcd p.num (q.den:Int):Nat):Int):Int);have Qm:=Ja hdn;clear hdn;obtain⟨up,hup⟩:=ex (((Int.gcd q.num (p.den:Int):Nat):Int):Int);have Qn:=Ja hup;clear hup;obtain⟨x,hx⟩:=ex (p.num/dn:Int);have HX:=Ja hx;clear hx;obtain⟨y,hy⟩:=ex (q.num/up:Int);have HY:=Ja hy;clear hy;obtain⟨S1,S2,S3,S4,S5,S6,S7,S8⟩:=LF p q HP.o HQ.o dn up x y Qm.o Qn.o HX.o HY.o;obtain⟨T1,T2,T3,T4,T5,T6,T7,T8⟩:=Du S1 S2 S3 S4 S5 S6 S7 S8;clear S1 S2 S3 S4 S5 S6 S7 S8;go_upto_region 3 with fail
  refine C9 CN [[],[0],[],[2],[1,3,3],[],[5],[],[7,4],[6,8,8],[],[],[10,4,9,0,1,2,3,4,10,11],[11,9,12,0,1,2,3,4,5,6,7,8,9,10,11,12]] [.eq (.pointer (some ⟨w.heap.size,0,none⟩)),.int (Rat.num (p)),.rat q,.int ((q.den:Int)),.int dn,.eq (.pointer (some ⟨w.heap.size+1,0,none⟩)),.int (Rat.num (q)),.rat p,.int ((p.den:Int)),.int up,.ptr,.ptr,.eq undef,.eq undef] [10,11,12,13]
   (fun b v V=>Bk w V [some (w.heap.size,.rat p),some (w.heap.size+1,.rat q),some (w.heap.size+1+1,.rat 0),nb b v 0 2 (.int 0) (.int dn),nb b v 1 3 (.int 0) (.int up)]) ((M2.o.none).none).drew (SB (.vl J fun _ _=>⟨_,by refine CP ?_;go_simp,J⟩)<|SB (.vl J fun h j=>DC 0 j (hp:=h.e 0))<|SB (.vl J fun _ j=>DA 1 j)<|SB (.cl fun h _=>YE _ q _ (h.g 2))<|SB (.cl fun h _=>(by have h:=X8 _ _ p.num (q.den:Int) _ (h.g 1) (h.g 3) (by have:=HP.o.num.words;omega) (by have:=HQ.o.den.words;omega);rw[Qm.o]at h;exact h))<|SB (.vl J fun _ _=>⟨_,by refine CP ?_;go_simp,J⟩)<|SB (.vl J fun h j=>DC 1 j (hp:=h.e 5))<|SB (.vl J fun _ j=>DA 0 j)<|SB (.cl fun h _=>YE _ p _ (h.g 7))<|SB (.cl fun h _=>(by have h:=X8 _ _ q.num (p.den:Int) _ (h.g 6) (h.g 8) (by have:=HQ.o.num.words;omega) (by have:=HP.o.den.words;omega);rw[Qn.o]at h;exact h))<|SB (.wr J fun _ j=>C0 3 j)<|SB (.wr J fun _ j=>C0 4 j)<|SB (.wr J fun h j=>CZ 3 j (h.g 4) (hp:=h.g 10))<|SB (.wr J fun h j=>CZ 4 j (h.g 9) (hp:=h.g 11)) Stp.end_)
   fun f V7 hF MM=>?_
  refine CP ?_;rw[hF.e 0,hF.e 5];obtain⟨B8,hB8⟩:=hF.p 10;obtain⟨B9,hB9⟩:=hF.p 11;have MM:=DE MM;simp only[hB8,hB9]at MM;rw[hB8,hB9];have M3:=Ja MM;clear MM hF hB8 hB9;clear M2;go_upto_region 4 with fail
  refine C9 CN [[],[0],[],[1,2],[],[4],[],[5,6,3],[3,7,7],[],[9,8,8,0,1,2,3,4,5,6,7,8,9]] [.eq (.pointer (some ⟨w.heap.size,0,none⟩)),.int (Rat.num (p)),.int dn,.int x,.eq (.pointer (some ⟨w.heap.size+1,0,none⟩)),.int (Rat.num (q)),.int up,.int y,.int (x*y),.ptr,.eq undef] [9,10]
   (fun b v V=>Bk w V [some (w.heap.size,.rat p),some (w.heap.size+1,.rat q),some (w.heap.size+1+1,.rat 0),some (B8,.int dn),some (B9,.int up),nb b v 0 1 (.int 0) (.int (x*y))]) (M3.o.none).drew (SB (.vl J fun _ _=>⟨_,by refine CP ?_;go_simp,J⟩)<|SB (.vl J fun h j=>DC 0 j (hp:=h.e 0))<|SB (.vl J fun _ j=>DB 3 j)<|SB (.cl fun h _=>(by have h:=Yw _ _ p.num dn _ (h.g 1) (h.g 2) T2.o HP.o.num T1.o;rw[HX.o]at h;exact h))<|SB (.vl J fun _ _=>⟨_,by refine CP ?_;go_simp,J⟩)<|SB (.vl J fun h j=>DC 1 j (hp:=h.e 4))<|SB (.vl J fun _ j=>DB 4 j)<|SB (.cl fun h _=>(by have h:=Yw _ _ q.num up _ (h.g 5) (h.g 6) T4.o HQ.o.num T3.o;rw[HY.o]at h;exact h))<|SB (.cl fun h _=>JX _ _ x y _ (h.g 3) (h.g 7) (by have:=T5.o.words;have:=T6.o.words;omega))<|SB (.wr J fun _ j=>C0 5 j)<|SB (.wr J fun h j=>CZ 5 j (h.g 8) (hp:=h.g 9)) Stp.end_)
   fun f V11 hF MM=>?_
  refine CP ?_;rw[hF.e 0,hF.e 4];obtain⟨B12,hB12⟩:=hF.p 9;have MM:=DE MM;simp only[hB12]at MM;rw[hB12];have M4:=Ja MM;clear MM hF hB12;clear M3;go_upto_region 5 with fail
  obtain⟨s13,a13,l13,c13,n13,i13⟩:=M4.o.int (i:=5) J;have Qb:=n13.ka;obtain⟨s14,a14,l14,c14,t14,b14,k14,d14,n14,r14,i14,j14⟩:=M4.o.rat (i:=0) J;have Qf:=n14.kb;obtain⟨s15,a15,l15,c15,n15,i15⟩:=M4.o.int (i:=4) J;have Qd:=n15.ka;obtain⟨s16,a16,l16,c16,t16,b16,k16,d16,n16,r16,i16,j16⟩:=M4.o.rat (i:=1) J;have Qc:=n16.kb;obtain⟨s17,a17,l17,c17,n17,i17⟩:=M4.o.int (i:=3) J;have Qe:=n17.ka;obtain⟨s18,a18,l18,c18,t18,b18,k18,d18,n18,r18,i18,j18⟩:=M4.o.rat (i:=2) J;have Qa:=n18.kb;have Qg:=n18.fb;obtain⟨H2,H4,H6,H8,H9,Qo⟩:=Hf (fun(V:World) (h:Bl V11 V)=>YE _ p V (r14.below h)) (fun(V:World) (h:Bl V11 V) (v2:Value) (g2:Jd V v2 ((p.den:Int)))=>Yw _ _ (p.den:Int) up V g2 (i15.below h) T4.o HP.o.den T3.o) (fun(V:World) (h:Bl V11 V)=>YE _ q V (r16.below h)) (fun(V:World) (h:Bl V11 V) (v6:Value) (g6:Jd V v6 ((q.den:Int)))=>Yw _ _ (q.den:Int) dn V g6 (i17.below h) T2.o HQ.o.den T1.o) (fun(V:World) (h:Bl V11 V) (v4:Value) (g4:Jd V v4 ((p.den:Int)/up)) (v8:Value) (g8:Jd V v8 ((q.den:Int)/dn))=>JX _ _ ((p.den:Int)/up) ((q.den:Int)/dn) V g4 g8 (by have h1:=(Sok.div (y:=up) HP.o.den).words;have h2:=(Sok.div (y:=dn) HQ.o.den).words;omega)) (fun(V:World) (h:Bl V11 V) (v9:Value) (g9:Jd V v9 ((p.den:Int)/up*((q.den:Int)/dn)))=>Dg _ _ (p*q) V (by rw[T7.o];exact(i13.below h)) (by rw[T8.o];exact g9));have ne5:=M4.o.ne 5 2 J J (by decide);have ne0:=M4.o.ne 0 2 J J (by decide);have ne4:=M4.o.ne 4 2 J J (by decide);have ne1:=M4.o.ne 1 2 J J (by decide);have ne3:=M4.o.ne 3 2 J J (by decide);have hq:Bl V11 V11.drew:=(BC _ V11).drew;go_region_held3 (fun w'=>(w'.cell? ⟨B12,0,none⟩=some (.bool s13)∧w'.cell? ⟨B12,1,none⟩=some (.slice a13 l13 c13))∧(w'.cell? ⟨w.heap.size,0,none⟩=some (.bool s14)∧w'.cell? ⟨w.heap.size,1,none⟩=some (.slice a14 l14 c14)∧w'.cell? ⟨w.heap.size,2,none⟩=some (.bool t14)∧w'.cell? ⟨w.heap.size,3,none⟩=some (.slice b14 k14 d14))∧(w'.cell? ⟨B9,0,none⟩=some (.bool s15)∧w'.cell? ⟨B9,1,none⟩=some (.slice a15 l15 c15))∧(w'.cell? ⟨w.heap.size+1,0,none⟩=some (.bool s16)∧w'.cell? ⟨w.heap.size+1,1,none⟩=some (.slice a16 l16 c16)∧w'.cell? ⟨w.heap.size+1,2,none⟩=some (.bool t16)∧w'.cell? ⟨w.heap.size+1,3,none⟩=some (.slice b16 k16 d16))∧w'.cell? ⟨B8,0,none⟩=some (.bool s17)∧w'.cell? ⟨B8,1,none⟩=some (.slice a17 l17 c17)) (first|grind|(go_keep;done)|((repeat' apply And.intro)<;>((repeat rw[Jw (by omega)]);grind)))
   (first
    |(go_at_call 10;refine(H2.o _ hq ).mono ?_;clear H2;rintro e w2 ⟨v2,rfl,g2,hb2⟩;have hq:=Bt hq hb2;have Qb:=(n13.below hq).ka;have Qf:=(n14.below hq).kb;have Qd:=(n15.below hq).ka;have Qc:=(n16.below hq).kb;have Qe:=(n17.below hq).ka;have Qa:=(n18.below hq).kb;have Qg:=(n18.below hq).fb)
    |(go_at_call 63;refine(H4.o _ hq _ g2).mono ?_;clear H4;rintro e w4 ⟨v4,rfl,g4,hb4⟩;have g2:=g2.below hb4;have hq:=Bt hq hb4;have Qb:=(n13.below hq).ka;have Qf:=(n14.below hq).kb;have Qd:=(n15.below hq).ka;have Qc:=(n16.below hq).kb;have Qe:=(n17.below hq).ka;have Qa:=(n18.below hq).kb;have Qg:=(n18.below hq).fb)
    |(go_at_call 10;refine(H6.o _ hq ).mono ?_;clear H6;rintro e w6 ⟨v6,rfl,g6,hb6⟩;have g2:=g2.below hb6;have g4:=g4.below hb6;have hq:=Bt hq hb6;have Qb:=(n13.below hq).ka;have Qf:=(n14.below hq).kb;have Qd:=(n15.below hq).ka;have Qc:=(n16.below hq).kb;have Qe:=(n17.below hq).ka;have Qa:=(n18.below hq).kb;have Qg:=(n18.below hq).fb)
    |(go_at_call 63;refine(H8.o _ hq _ g6).mono ?_;clear H8;rintro e w8 ⟨v8,rfl,g8,hb8⟩;have g2:=g2.below hb8;have g4:=g4.below hb8;have g6:=g6.below hb8;have hq:=Bt hq hb8;have Qb:=(n13.below hq).ka;have Qf:=(n14.below hq).kb;have Qd:=(n15.below hq).ka;have Qc:=(n16.below hq).kb;have Qe:=(n17.below hq).ka;have Qa:=(n18.below hq).kb;have Qg:=(n18.below hq).fb)
    |(go_at_call 51;refine(H9.o _ hq _ g4 _ g8).mono ?_;clear H9;rintro e w9 ⟨v9,rfl,g9,hb9⟩;have g2:=g2.below hb9;have g4:=g4.below hb9;have g6:=g6.below hb9;have g8:=g8.below hb9;have hq:=Bt hq hb9;have Qb:=(n13.below hq).ka;have Qf:=(n14.below hq).kb;have Qd:=(n15.below hq).ka;have Qc:=(n16.below hq).kb;have Qe:=(n17.below hq).ka;have Qa:=(n18.below hq).kb;have Qg:=(n18.below hq).fb)
    |(go_at_call 64;refine(Qo.o _ hq _ g9).mono ?_;clear Qo;rintro e w10 ⟨v10,rfl,g10,hb10⟩;obtain⟨s91,a91,l91,c91,t91,b91,k91,d91,rfl⟩:=Jf.form g10;have g2:=g2.below hb10;have g4:=g4.below hb10;have g6:=g6.below hb10;have g8:=g8.below hb10;have g9:=g9.below hb10;have hq:=Bt hq hb10;have Qb:=(n13.below hq).ka;have Qf:=(n14.below hq).kb;have Qd:=(n15.below hq).ka;have Qc:=(n16.below hq).kb;have Qe:=(n17.below hq).ka;have Qa:=(n18.below hq).kb;have Qg:=(n18.below hq).fb))
  all_goals go_wp2_with fail
  have Qk:=Bt M4.o.2.2 hq;have Qq:=M4.o.ge 2 J;exact BB (by simp[results,results29,go_sem,Qa]) J ⟨_,J,g10.put4 (n18.below hq) J J J J _ _ _ _,Jq Qk Qq _ _ _ _⟩
def EM(va vb:Value)(x y:Int)(w:World)(ha:Jd w va x)(hb:Jd w vb y)(hsx:Sok x)(hsy:Sok y):
 Calls Tryz.prog 22 #[va,vb] w fun e w'=>∃u,e=.returned (.tuple #[u,.bool (decide (y≠0))])∧Jf w' u (L1 x y)∧Bl w w':=by
 have HX:=Ja hsx;have HY:=Ja hsy;clear hsx hsy;obtain⟨s,a,la,ca,rfl⟩:=Jd.form2 ha;obtain⟨t,b,lb,cb,rfl⟩:=Jd.form2 hb;have M0:=EK w s t a b la ca lb cb _ _ ha hb;obtain⟨W0,hW0⟩:=ex (((w.alloc (.cells #[.bool s,.slice a la ca] 25)).alloc (.cells #[.bool t,.slice b lb cb] 25)).alloc (.cells #[.bool false,.slice none 0 0,.bool false,.slice none 0 0] 27));have Qd:=Ja hW0;rw[hW0]at M0;have M1:=Ja M0;clear M0 ha hb hW0;obtain⟨s1,a1,l1,c1,n1,i1⟩:=M1.o.int (i:=0) J;have Qf:=n1.ka;obtain⟨s2,a2,l2,c2,n2,i2⟩:=M1.o.int (i:=1) J;have Qg:=n2.ka;obtain⟨s3,a3,l3,c3,t3,b3,k3,d3,n3,r3,i3,j3⟩:=M1.o.rat (i:=2) J;have Qa:=n3.kb;have Qb:=n3.fb;have H1:=Ja (F4 _ y W0 i2);have H2:=Ja (fun(V:World) (h:Bl W0 V) (hy:y≠0)=>F7 _ _ x y V (i1.below h) (i2.below h) hy HX.o HY.o);by_cases hy:y=0
 · rw[BI hy]at H1;have HD:=Ja (BH (p:=y≠0) (fun h=>h hy));rw[HD.o];have HE:=Ja (show L1 x y=0 by rw[hy,Rat.divInt_zero]);clear hy H2;go_enter func22,ntmps22
   go_upto_region 1 with fail
   rw[Qd.o];go_wp2_with(go_at_call 60;refine H1.o.mono ?_;rintro e w1 ⟨rfl,hq⟩;have Qa:=(n3.below hq).kb;have Qb:=(n3.below hq).fb)
   have hr:Jf w1 (.agg #[.bool false,.slice none 0 0,.bool false,.slice none 0 0]) (L1 x y):=by rw[HE.o];exact X7 _
   have Qc:=Bt M1.o.2.2 hq;exact BB (by simp[results,results22,go_sem,Qa]) J ⟨_,J,hr.put4 (n3.below hq) J J J J _ _ _ _,Jq Qc (by omega) _ _ _ _⟩
 · rw[BH hy]at H1;have HD:=Ja (BI (p:=y≠0) hy);rw[HD.o];have H2:=Ja (fun V h=>H2.o V h hy);clear hy;go_enter func22,ntmps22
   go_upto_region 1 with fail
   rw[Qd.o];go_wp2_with(first
    |(go_at_call 60;refine H1.o.mono ?_;rintro e w1 ⟨rfl,hq⟩;have Qf:=(n1.below hq).ka;have Qg:=(n2.below hq).ka;have Qa:=(n3.below hq).kb;have Qb:=(n3.below hq).fb)
    |(go_at_call 44;refine(H2.o _ hq).mono ?_;clear H2;rintro e w2 ⟨u2,rfl,hu2,hb2⟩;obtain⟨s91,a91,l91,c91,t91,b91,k91,d91,rfl⟩:=Jf.form hu2;have hq:=Bt hq hb2;have Qa:=(n3.below hq).kb;have Qb:=(n3.below hq).fb))
   have Qc:=Bt M1.o.2.2 hq;have Qe:=M1.o.ge 2 J;exact BB (by simp[results,results22,go_sem,Qa]) J ⟨_,J,hu2.put4 (n3.below hq) J J J J _ _ _ _,Jq Qc Qe _ _ _ _⟩
def LG(p q:Rat):decide ((p.den:Int)*q.num≠0)=decide (q≠0):=by
 refine decide_eq_decide.2 (not_congr ⟨fun h=>?_,fun h=>?_⟩)
 · rcases Int.mul_eq_zero.1 h with h|h
   · have:=p.den_nz;omega
   · exact Rat.num_eq_zero.1 h
 · rw[h];exact Int.mul_zero _
def LH(va vb:Value)(p q:Rat)(w:World)(ha:Jf w va p)(hb:Jf w vb q)(hsp:Sq p)(hsq:Sq q):
 Calls Tryz.prog 30 #[va,vb] w fun e w'=>∃u,e=.returned (.tuple #[u,.bool (decide (q≠0))])∧Jf w' u (p/q)∧Bl w w':=by
 obtain⟨bq,hbq⟩:=ex (decide (q≠0));have Qh:=Ja ((LG p q).trans hbq);rw[hbq];clear hbq;obtain⟨s,a,l,c,t,b,k,d,rfl⟩:=Jf.form ha;obtain⟨s',a',l',c',t',b',k',d',rfl⟩:=Jf.form hb;have M0:=EL w s t s' t' a b a' b' l c k d l' c' k' d' p q ha hb;obtain⟨W0,hW0⟩:=ex (((w.alloc (.cells #[.bool s,.slice a l c,.bool t,.slice b k d] 27)).alloc (.cells #[.bool s',.slice a' l' c',.bool t',.slice b' k' d'] 27)).alloc (.cells #[.bool false,.slice none 0 0,.bool false,.slice none 0 0] 27));have Qe:=Ja hW0;rw[hW0]at M0;obtain⟨M1,HP,HQ⟩:=CK M0 hsp hsq;clear M0 ha hb hW0 hsp hsq;go_enter func30,ntmps30
 go_upto_region 1 with fail
 rw[Qe.o];clear Qe;obtain⟨s1,a1,l1,c1,t1,b1,k1,d1,n1,r1,i1,j1⟩:=M1.o.rat (i:=0) J;have Qb:=n1.kb;obtain⟨s2,a2,l2,c2,t2,b2,k2,d2,n2,r2,i2,j2⟩:=M1.o.rat (i:=1) J;have Qd:=n2.kb;obtain⟨s3,a3,l3,c3,t3,b3,k3,d3,n3,r3,i3,j3⟩:=M1.o.rat (i:=2) J;have Qa:=n3.kb;have Qc:=n3.fb;obtain⟨H3,H4,H6,H9,Qf⟩:=C6 (fun(V:World) (h:Bl W0 V)=>YE _ q V (r2.below h)) (fun(V:World) (h:Bl W0 V) (v3:Value) (g3:Jd V v3 ((q.den:Int)))=>JX _ _ p.num (q.den:Int) V (i1.below h) g3 (by have h1:=HP.o.num.words;have h2:=HQ.o.den.words;omega)) (fun(V:World) (h:Bl W0 V)=>YE _ p V (r1.below h)) (fun(V:World) (h:Bl W0 V) (v6:Value) (g6:Jd V v6 ((p.den:Int)))=>JX _ _ (p.den:Int) q.num V g6 (i2.below h) (by have h1:=HP.o.den.words;have h2:=HQ.o.num.words;omega)) (fun(V:World) (h:Bl W0 V) (v4:Value) (g4:Jd V v4 (p.num*(q.den:Int))) (v9:Value) (g9:Jd V v9 ((p.den:Int)*q.num))=>(by have h:=EM _ _ (p.num*(q.den:Int)) ((p.den:Int)*q.num) V g4 g9 (HP.o.cross HQ.o) (HP.o.cross2 HQ.o);rw[Qh.o,Et]at h;exact h));have ne0:=M1.o.ne 0 2 J J (by decide);have ne1:=M1.o.ne 1 2 J J (by decide);have hq:Bl W0 W0.drew:=(BC _ W0).drew;go_region_held3 (fun w'=>(w'.cell? ⟨w.heap.size,0,none⟩=some (.bool s1)∧w'.cell? ⟨w.heap.size,1,none⟩=some (.slice a1 l1 c1)∧w'.cell? ⟨w.heap.size,2,none⟩=some (.bool t1)∧w'.cell? ⟨w.heap.size,3,none⟩=some (.slice b1 k1 d1))∧w'.cell? ⟨w.heap.size+1,0,none⟩=some (.bool s2)∧w'.cell? ⟨w.heap.size+1,1,none⟩=some (.slice a2 l2 c2)∧w'.cell? ⟨w.heap.size+1,2,none⟩=some (.bool t2)∧w'.cell? ⟨w.heap.size+1,3,none⟩=some (.slice b2 k2 d2)) (first|grind|(go_keep;done)|((repeat' apply And.intro)<;>((repeat rw[Jw (by omega)]);grind)))
  (first
   |(go_at_call 10;refine(H3.o _ hq ).mono ?_;clear H3;rintro e w3 ⟨v3,rfl,g3,hb3⟩;have hq:=Bt hq hb3;have Qb:=(n1.below hq).kb;have Qd:=(n2.below hq).kb;have Qa:=(n3.below hq).kb;have Qc:=(n3.below hq).fb)
   |(go_at_call 51;refine(H4.o _ hq _ g3).mono ?_;clear H4;rintro e w4 ⟨v4,rfl,g4,hb4⟩;have g3:=g3.below hb4;have hq:=Bt hq hb4;have Qb:=(n1.below hq).kb;have Qd:=(n2.below hq).kb;have Qa:=(n3.below hq).kb;have Qc:=(n3.below hq).fb)
   |(go_at_call 10;refine(H6.o _ hq ).mono ?_;clear H6;rintro e w6 ⟨v6,rfl,g6,hb6⟩;have g3:=g3.below hb6;have g4:=g4.below hb6;have hq:=Bt hq hb6;have Qb:=(n1.below hq).kb;have Qd:=(n2.below hq).kb;have Qa:=(n3.below hq).kb;have Qc:=(n3.below hq).fb)
   |(go_at_call 51;refine(H9.o _ hq _ g6).mono ?_;clear H9;rintro e w9 ⟨v9,rfl,g9,hb9⟩;have g3:=g3.below hb9;have g4:=g4.below hb9;have g6:=g6.below hb9;have hq:=Bt hq hb9;have Qb:=(n1.below hq).kb;have Qd:=(n2.below hq).kb;have Qa:=(n3.below hq).kb;have Qc:=(n3.below hq).fb)
   |(go_at_call 22;refine(Qf.o _ hq _ g4 _ g9).mono ?_;clear Qf;rintro e w10 ⟨v10,rfl,g10,hb10⟩;obtain⟨s91,a91,l91,c91,t91,b91,k91,d91,rfl⟩:=Jf.form g10;have g3:=g3.below hb10;have g4:=g4.below hb10;have g6:=g6.below hb10;have g9:=g9.below hb10;have hq:=Bt hq hb10;have Qb:=(n1.below hq).kb;have Qd:=(n2.below hq).kb;have Qa:=(n3.below hq).kb;have Qc:=(n3.below hq).fb))
 all_goals go_wp2_with fail
 have Qi:=Bt M1.o.2.2 hq;have Qg:=M1.o.ge 2 J;exact BB (by simp[results,results30,go_sem,Qa]) J ⟨_,J,g10.put4 (n3.below hq) J J J J _ _ _ _,Jq Qi Qg _ _ _ _⟩
def Yx(p q:Rat):Int:=Yq (p.num*q.den) (q.num*p.den)
def Yg(va vb:Value)(p q:Rat)(w:World)(ha:Jf w va p)(hb:Jf w vb q)(hsp:Sq p)(hsq:Sq q):
 Calls Tryz.prog 34 #[va,vb] w fun e w'=>e=.returned (.int .i64 (Yx p q))∧Bl w w':=by
 obtain⟨s,a,l,c,t,b,k,d,rfl⟩:=Jf.form ha;obtain⟨s',a',l',c',t',b',k',d',rfl⟩:=Jf.form hb;have M0:=LB w s t s' t' a b a' b' l c k d l' c' k' d' p q ha hb;obtain⟨W0,hW0⟩:=ex ((w.alloc (.cells #[.bool s,.slice a l c,.bool t,.slice b k d] 27)).alloc (.cells #[.bool s',.slice a' l' c',.bool t',.slice b' k' d'] 27));have Qf:=Ja hW0;rw[hW0]at M0;have M1:=Ja M0;obtain⟨n,hn⟩:=ex (Yx p q);have HN:=Ja hn;rw[hn];have HP:=Ja hsp;have HQ:=Ja hsq;clear M0 ha hb hW0 hsp hsq hn;go_enter func34,ntmps34
 go_upto_region 1 with fail
 rw[Qf.o];clear Qf;obtain⟨bb,hbb⟩:=ex (decide (p.den=1∧q.den=1):Bool);have Qc:=Ja hbb;clear hbb;go_cut [10] (fun c w'=>c=.bool bb∧Hid (Bk w w' [some (w.heap.size,.rat (p)),some (w.heap.size+1,.rat (q))]))
 case first=>
  obtain⟨s1,a1,l1,c1,t1,b1,k1,d1,n1,r1,i1,j1⟩:=M1.o.rat (i:=0) J;have Qh:=n1.kb;obtain⟨s2,a2,l2,c2,t2,b2,k2,d2,n2,r2,i2,j2⟩:=M1.o.rat (i:=1) J;have Qi:=n2.kb;have H1:=Ja (J9 _ p W0 r1);have H2:=Ja (fun(V:World) (h:Bl W0 V)=>J9 _ q V (r2.below h));by_cases h1:p.den=1
  · rw[BI h1]at H1;obtain⟨b2,hb2⟩:=ex (decide (q.den=1));rw[hb2]at H2;have Qe:=Ja (show b2=bb by rw[←hb2,←Qc.o];grind);clear hb2 h1;go_wp2_with(first
     |(go_at_call 47;refine H1.o.mono ?_;clear H1;rintro e w1 ⟨rfl,hb1⟩;have Qh:=(n1.below hb1).kb;have Qi:=(n2.below hb1).kb)
     |(go_at_call 47;refine(H2.o _ hb1).mono ?_;clear H2;rintro e w2 ⟨rfl,hb2⟩))
    go_meet
    case rel=>exact⟨by rw[Qe.o],Ja ((M1.o.below hb1).below hb2)⟩
  · rw[BH h1]at H1;have Qe:=Ja (show bb=false by rw[←Qc.o];grind);clear h1;go_wp2_with(go_at_call 47;refine H1.o.mono ?_;clear H1;rintro e w1 ⟨rfl,hb1⟩)
    go_meet
    case rel=>exact⟨by rw[Qe.o],Ja (M1.o.below hb1)⟩
 obtain⟨rfl,MM⟩:=hcut;have M2:=MM;clear M1 MM;cases bb with
 |true=>
  have Qd:=BQ Qc.o;have HE:=Ja (show Yq p.num q.num=n by rw[←HN.o];unfold Yx;rw[Qd.1,Qd.2];simp);clear Qd Qc;obtain⟨s3,a3,l3,c3,t3,b3,k3,d3,n3,r3,i3,j3⟩:=M2.o.rat (i:=0) J;have En3:=n3.kb;obtain⟨s4,a4,l4,c4,t4,b4,k4,d4,n4,r4,i4,j4⟩:=M2.o.rat (i:=1) J;have En4:=n4.kb;have H1:=Ja (Yr _ _ p.num q.num wc i3 i4);rw[HE.o]at H1;go_wp2_with(go_at_call 39;refine H1.o.mono ?_;clear H1;rintro e w1 ⟨rfl,hq⟩)
  go_ret;exact⟨J,Bt M2.o.2.2 hq⟩
 |false=>
  clear Qc;go_upto_region 3 with fail
  obtain⟨s5,a5,l5,c5,t5,b5,k5,d5,n5,r5,i5,j5⟩:=M2.o.rat (i:=0) J;have Qb:=n5.kb;obtain⟨s6,a6,l6,c6,t6,b6,k6,d6,n6,r6,i6,j6⟩:=M2.o.rat (i:=1) J;have Qa:=n6.kb;obtain⟨H3,H4,H8,H9,Qg⟩:=C6 (fun(V:World) (h:Bl wc V)=>YE _ q V (r6.below h)) (fun(V:World) (h:Bl wc V) (v3:Value) (g3:Jd V v3 ((q.den:Int)))=>JX _ _ p.num (q.den:Int) V (i5.below h) g3 (by have h1:=HP.o.num.words;have h2:=HQ.o.den.words;omega)) (fun(V:World) (h:Bl wc V)=>YE _ p V (r5.below h)) (fun(V:World) (h:Bl wc V) (v8:Value) (g8:Jd V v8 ((p.den:Int)))=>JX _ _ q.num (p.den:Int) V (i6.below h) g8 (by have h1:=HQ.o.num.words;have h2:=HP.o.den.words;omega)) (fun(V:World) (h:Bl wc V) (v4:Value) (g4:Jd V v4 (p.num*(q.den:Int))) (v9:Value) (g9:Jd V v9 (q.num*(p.den:Int)))=>(by have h:=Yr _ _ (p.num*(q.den:Int)) (q.num*(p.den:Int)) V g4 g9;rw[show Yq (p.num*(q.den:Int)) (q.num*(p.den:Int))=n from HN.o]at h;exact h));have hq:Bl wc wc.drew:=(BC _ wc).drew;go_region_held3 (fun w'=>(w'.cell? ⟨w.heap.size,0,none⟩=some (.bool s5)∧w'.cell? ⟨w.heap.size,1,none⟩=some (.slice a5 l5 c5)∧w'.cell? ⟨w.heap.size,2,none⟩=some (.bool t5)∧w'.cell? ⟨w.heap.size,3,none⟩=some (.slice b5 k5 d5))∧w'.cell? ⟨w.heap.size+1,0,none⟩=some (.bool s6)∧w'.cell? ⟨w.heap.size+1,1,none⟩=some (.slice a6 l6 c6)∧w'.cell? ⟨w.heap.size+1,2,none⟩=some (.bool t6)∧w'.cell? ⟨w.heap.size+1,3,none⟩=some (.slice b6 k6 d6)) (first|grind|(go_keep;done)|((repeat' apply And.intro)<;>((repeat rw[Jw (by omega)]);first|(simp only[*];done)|(go_keep;done))))
   (first
    |(go_at_call 10;refine(H3.o _ hq ).mono ?_;clear H3;rintro e w3 ⟨v3,rfl,g3,hb3⟩;have hq:=Bt hq hb3;have Qb:=(n5.below hq).kb;have Qa:=(n6.below hq).kb)
    |(go_at_call 51;refine(H4.o _ hq _ g3).mono ?_;clear H4;rintro e w4 ⟨v4,rfl,g4,hb4⟩;have g3:=g3.below hb4;have hq:=Bt hq hb4;have Qb:=(n5.below hq).kb;have Qa:=(n6.below hq).kb)
    |(go_at_call 10;refine(H8.o _ hq ).mono ?_;clear H8;rintro e w8 ⟨v8,rfl,g8,hb8⟩;have g3:=g3.below hb8;have g4:=g4.below hb8;have hq:=Bt hq hb8;have Qb:=(n5.below hq).kb;have Qa:=(n6.below hq).kb)
    |(go_at_call 51;refine(H9.o _ hq _ g8).mono ?_;clear H9;rintro e w9 ⟨v9,rfl,g9,hb9⟩;have g3:=g3.below hb9;have g4:=g4.below hb9;have g8:=g8.below hb9;have hq:=Bt hq hb9;have Qb:=(n5.below hq).kb;have Qa:=(n6.below hq).kb)
    |(go_at_call 39;refine(Qg.o _ hq _ g4 _ g9).mono ?_;clear Qg;rintro e w10 ⟨rfl,hb10⟩;have g3:=g3.below hb10;have g4:=g4.below hb10;have g8:=g8.below hb10;have g9:=g9.below hb10;have hq:=Bt hq hb10;have Qb:=(n5.below hq).kb;have Qa:=(n6.below hq).kb))
  all_goals go_wp2_with fail
  go_ret;exact⟨J,Bt M2.o.2.2 hq⟩
def Xr(q:Rat):List UInt8:=if q.den=1 then JO q.num else JO q.num++47::JO (q.den:Int)
theorem Xz(a b:List UInt8):(⟨a.toArray⟩:ByteArray)++⟨b.toArray⟩=⟨(a++b).toArray⟩:=by
 apply Cu;simp
def F9(z:Int):(JO z).length≤20*(Jc O z.natAbs).length+2:=by
 grind[Xn,JO]
def GA{z:Int}(h:Sok z):(⟨(JO z).toArray⟩:ByteArray).size≤400000000000:=by
 have h1:=F9 z;have h2:=h.words;show(JO z).toArray.size≤_;grind
def LI(a b:List UInt8):(⟨a.toArray⟩:ByteArray)++⟨#[47]⟩++⟨b.toArray⟩=⟨(a++47::b).toArray⟩:=by
 grind[Xz]
def Dh(va:Value)(q:Rat)(w:World)(ha:Jf w va q)(hsq:Sq q)(htab:Lib.TabIs Tryz.prog w "internal/strconv.uint64pow10" .u64 Lib.pow10Tab):
 Calls Tryz.prog 11 #[va] w fun e w'=>e=.returned (.string ⟨(Xr q).toArray⟩)∧Bl w w':=by
 obtain⟨S1,hS1⟩:∃S:ByteArray,⟨(JO q.num).toArray⟩=S:=⟨_,J⟩;have zS1:S1.size≤400000000000:=by rw[←hS1];exact GA hsq.num
 have Qa:=Ja hS1;clear hS1;obtain⟨S2,hS2⟩:∃S:ByteArray,⟨(JO (q.den:Int)).toArray⟩=S:=⟨_,J⟩;have zS2:S2.size≤400000000000:=by rw[←hS2];exact GA hsq.den
 have Qh:=Ja hS2;clear hS2;have HT:=Ja htab;clear htab;by_cases hd:q.den=1
 · have HD:=Ja hd;have HR:=Ja (show(⟨(Xr q).toArray⟩:ByteArray)=S1 by rw[←Qa.o];unfold Xr;rw[BX hd]);rw[HR.o];clear hd;obtain⟨s900,a900,l900,c900,t900,b900,k900,d900,rfl⟩:=Jf.form ha;obtain⟨W0,HW0,M1⟩:=C5 27 (.rat q) ha;clear ha hsq;go_enter func11,ntmps11
   go_upto_region 1 with fail
   rw[HW0.o];clear HW0;obtain⟨s1,a1,l1,c1,t1,b1,k1,d1,n1,r1,i1,j1⟩:=M1.o.rat (i:=0) J;obtain⟨Qe,Qb,Qc,Qd⟩:=n1.cq;have H1:=Ja (J9 _ q W0 r1);rw[BI HD.o]at H1;have H2:=Ja (fun(V:World) (h:Bl W0 V)=>XY _ q.num V (i1.below h) (JH HT.o (Bt M1.o.2.2 h)));rw[Qa.o]at H2;go_wp2_with(first
    |(go_at_call 47;refine H1.o.mono ?_;clear H1;rintro e w1 ⟨rfl,hq⟩;obtain⟨Qe,Qb,Qc,Qd⟩:=(n1.below hq).cq)
    |(go_at_call 13;refine(H2.o _ hq).mono ?_;clear H2;rintro e w2 ⟨rfl,hb2⟩;have hq:=Bt hq hb2))
   go_ret;exact⟨J,Bt M1.o.2.2 hq⟩
 · have HD:=Ja hd;have HR:=Ja (show(⟨(Xr q).toArray⟩:ByteArray)=S1++⟨#[47]⟩++S2 by rw[←Qa.o,←Qh.o,LI];unfold Xr;rw[BU hd]);rw[HR.o];have HZ:=Ja (show Bv q=q.den by unfold Bv;rw[BU hd]);clear hd;have y1:¬9223372036854775807<S1.size+1:=by omega
   have y2:¬9223372036854775807<S1.size+1+S2.size:=by omega
   obtain⟨s900,a900,l900,c900,t900,b900,k900,d900,rfl⟩:=Jf.form ha;obtain⟨W0,HW0,M1⟩:=C5 27 (.rat q) ha;clear ha hsq;go_enter func11,ntmps11
   go_upto_region 1 with fail
   rw[HW0.o];clear HW0;obtain⟨s1,a1,l1,c1,t1,b1,k1,d1,n1,r1,i1,j1⟩:=M1.o.rat (i:=0) J;obtain⟨Qe,Qb,Qc,Qd⟩:=n1.cq;have H1:=Ja (J9 _ q W0 r1);rw[BH HD.o]at H1;go_upto_region 3 with(go_at_call 47;refine H1.o.mono ?_;clear H1;rintro e w1 ⟨rfl,hb1⟩)
   have M2:=Ja (M1.o.below hb1);clear M1;clear n1 Qe Qb Qc Qd i1 r1 j1 hb1;obtain⟨s2,a2,l2,c2,t2,b2,k2,d2,n2,r2,i2,j2⟩:=M2.o.rat (i:=0) J;obtain⟨Qf,Qg,Qj,Qi⟩:=n2.cq;have H2:=Ja (fun(V:World) (h:Bl w1 V)=>(by have h1:=XY _ q.num V (i2.below h) (JH HT.o (Bt M2.o.2.2 h));rw[Qa.o]at h1;exact h1));have H6:=Ja (fun(V:World) (h:Bl w1 V)=>(by have h0:=(j2.below h);rw[HZ.o]at h0;have h1:=XY _ (q.den:Int) V h0 (JH HT.o (Bt M2.o.2.2 h));rw[Qh.o]at h1;exact h1));have hq:Bl w1 w1.drew:=(BC _ w1).drew;go_region_held3 (fun w'=>w'.cell? ⟨w.heap.size,0,none⟩=some (.bool s2)∧w'.cell? ⟨w.heap.size,1,none⟩=some (.slice a2 l2 c2)∧w'.cell? ⟨w.heap.size,2,none⟩=some (.bool t2)∧w'.cell? ⟨w.heap.size,3,none⟩=some (.slice b2 k2 d2)) (first|grind|(go_keep;done)|(refine⟨?_,?_,?_,?_⟩<;>((repeat rw[Jw (by omega)]);first|assumption|(go_keep;done))))
    (first
     |(go_at_call 13;refine(H2.o _ hq ).mono ?_;clear H2;rintro e w2 ⟨rfl,hb2⟩;have hq:=Bt hq hb2;obtain⟨Qf,Qg,Qj,Qi⟩:=(n2.below hq).cq)
     |(go_at_call 13;refine(H6.o _ hq ).mono ?_;clear H6;rintro e w6 ⟨rfl,hb6⟩;have hq:=Bt hq hb6;obtain⟨Qf,Qg,Qj,Qi⟩:=(n2.below hq).cq))
   all_goals go_wp2_with fail
   go_ret;exact⟨J,Bt M2.o.2.2 hq⟩
def LJ(y:Int):dd y≠0:=by unfold dd;split<;>omega
def LK(va:Value)(x y:Int)(w:World)(ha:JR w va x y)(hsx:Sok x)(hsy:Sok (dd y)):
 Calls Tryz.prog 15 #[va] w fun e w'=>∃u,e=.returned u∧Jd w' u (x/dd y)∧Bl w w':=by
 obtain⟨s900,a900,l900,c900,t900,b900,k900,d900,rfl⟩:=JR.form ha;obtain⟨W0,HW0,M1⟩:=Ff 27 (.pair (x) y) ha 25 (.int 0) (Xb _);have Qb:=Ja hsx;have Qa:=Ja hsy;clear ha hsx hsy;go_enter func15,ntmps15
 go_upto_region 1 with fail
 rw[HW0.o];clear HW0;refine C9 CN [[],[0],[],[2],[1,3,3],[4],[5],[5],[5],[],[],[9,6,4,0,1,2,3,4,5,6,9,10],[10,7,11,0,1,2,3,4,5,6,7,9,10,11],[8,12,0,1,2,3,4,5,6,7,8,9,10,11,12]] [.eq (.pointer (some ⟨w.heap.size,0,none⟩)),.int x,.pair (x) (y),.int (dd y),.tup2 (.int (x/dd y)) (.int (x%dd y)),.tup2 (.int (x/dd y)) (.int (x%dd y)),.int (x/dd y),.int (x%dd y),.eq (.bool true),.ptr,.ptr,.eq undef,.eq undef,.eq (.bool true)] [9,10,11,12]
  (fun b v V=>Bk w V [some (w.heap.size,.pair (x) (y)),some (w.heap.size+1,.int 0),nb b v 0 2 (.int 0) (.int (x/dd y)),nb b v 1 3 (.int 0) (.int (x%dd y))]) ((M1.o.none).none).drew (SB (.vl J fun _ _=>⟨_,by refine CP ?_;go_simp,J⟩)<|SB (.vl J fun h j=>KP 0 j (hp:=h.e 0))<|SB (.vl J fun _ j=>KQ 0 j)<|SB (.cl fun h _=>F6 _ x y _ (h.g 2))<|SB (.cl fun h _=>KK (F3 _ _ x (dd y) _ (h.g 1) (h.g 3) (LJ y) (by have:=Qb.o.words;omega) (by have:=Qa.o.words;omega)))<|SB (.vl J fun h _=>mw (h.g 4))<|SB (.vl J fun h _=>KR (h.g 5))<|SB (.vl J fun h _=>KS (h.g 5))<|SB (.vl J fun h _=>KT (h.g 5))<|SB (.wr J fun _ j=>C0 2 j)<|SB (.wr J fun _ j=>C0 3 j)<|SB (.wr J fun h j=>CZ 2 j (h.g 6) (hp:=h.g 9))<|SB (.wr J fun h j=>CZ 3 j (h.g 7) (hp:=h.g 10))<|SB (.vl J fun h _=>aw (h.g 8)) Stp.end_)
  fun f V2 hF MM=>?_
 refine CP ?_;rw[hF.e 0,hF.e 8,hF.e 13];obtain⟨B3,hB3⟩:=hF.p 9;obtain⟨B4,hB4⟩:=hF.p 10;have MM:=DE MM;simp only[hB3,hB4]at MM;rw[hB3,hB4];have M2:=Ja MM;clear MM hF hB3 hB4;clear M1;go_upto_region 2 with fail
 obtain⟨s5,a5,l5,c5,n5,i5⟩:=M2.o.int (i:=2) J;obtain⟨e5a,e5b⟩:=n5.cp;obtain⟨s6,a6,l6,c6,n6,i6⟩:=M2.o.int (i:=1) J;obtain⟨Qd,Qe⟩:=n6.cp;obtain⟨f6a,f6b⟩:=n6.fp;have Qc:=M2.o.ge 1 J;have hB:=M2.o.2.2;go_wp2_with fail
 exact BB (by simp[results,results15,go_sem,Qd,Qe]) J ⟨_,J,i5.box n6 J J,(hB.setCell (p:=⟨_,0,none⟩) Qc _).setCell (p:=⟨_,1,none⟩) Qc _⟩

