import Derived.Test.YtcahodpphikgnaaGreatDoorW25
set_option linter.all false
set_option maxRecDepth 99999
set_option maxHeartbeats 0
namespace Go.Proofs.YtcahodpphikgnaaGreatDoor
open Go.IntKind renaming u64->L2,i64->L3
open Proofs.Tryz
open Go.RowKit Go.Shelf
attribute [local go_sem] Oper.semAt_some
def F1{W:World}{B:Nat}{t:TypeId}{v0 v1 u0 u1:Value}(x0 x1 y0 y1:Value)(h:Ji W B t v0 v1)(k:Ji W (B+1) t u0 u1):
 Ji ((((W.setCell ⟨B,0,none⟩ x0).setCell ⟨B,1,none⟩ x1).setCell ⟨B+1,0,none⟩ y0).setCell ⟨B+1,1,none⟩ y1).drew B t x0 x1∧Ji ((((W.setCell ⟨B,0,none⟩ x0).setCell ⟨B,1,none⟩ x1).setCell ⟨B+1,0,none⟩ y0).setCell ⟨B+1,1,none⟩ y1).drew (B+1) t y0 y1:=
 ⟨((((h.set0 x0).set1 x1).far (by simp) y0).far (by simp) y1).drew,((((k.far (by simp) x0).far (by simp) x1).set0 y0).set1 y1).drew⟩
def K0(ab ao la k1 ca:Nat)(b:N)(lb cb x y d s H L:Nat)(w:World)(h1:(la:Int)-1=k1)(hab:ab<w.heap.size)
(ka:w.cell? ⟨ab,ao+k1,none⟩=some (.int .u64 (d:Nat)))(hdB:d<O)(hs:s≤63)(HS:Hid ((64:Int)-(Lib.bitLen d:Int)=(s:Int)))(hla:la≤1099511627776)(hk1:k1<la)
(HTA:Hid (∀V:World,Bl w V→Calls Tryz.prog 125 #[.slice (some ⟨ab,ao,none⟩) la ca,.int .i64 (la:Nat),.int .u64 (s:Nat)] V fun e w'=>e=.returned (.int .u64 (H:Nat))∧Bl V w'))
(HTB:Hid (∀V:World,Bl w V→Calls Tryz.prog 125 #[.slice b lb cb,.int .i64 (la:Nat),.int .u64 (s:Nat)] V fun e w'=>e=.returned (.int .u64 (L:Nat))∧Bl V w'))
(hH:H<O)(hLH:L≤H)(HLO:Hid (∀sg h l na nb xa xb,Y8 H L sg h l na nb xa xb→xb≤l→nb+xb≤h-l→Y0 x y na nb xa xb)):
 Calls Tryz.prog 100 #[.slice (some ⟨ab,ao,none⟩) la ca,.slice b lb cb] w fun e w'=>∃pa pb na nb:Nat,e=.returned (.tuple #[.agg #[.int .u64 (pa:Nat),.int .u64 (pb:Nat)],.agg #[.int .u64 (na:Nat),.int .u64 (nb:Nat)]])∧(pa<O∧pb<O∧na<O∧nb<O)∧(pb=0∨Y0 x y pa pb na nb)∧Bl w w':=by
 have i1:L3.wrap ((la:Int)-1)=(k1:Int):=by rw[h1];exact BM _ (by omega)
 have i3:L3.wrap (k1:Int)=(k1:Int):=BM _ (by omega);have isw:L2.wrap (s:Int)=(s:Int):=BT _ (by omega);obtain⟨W0,hW0⟩:=ex ((w.alloc (.cells #[.int .u64 0,.int .u64 0] 124)).alloc (.cells #[.int .u64 0,.int .u64 0] 124));have Qk:Bl w W0:=by rw[←hW0];exact(Ba w _).alloc (by simp) _
 have b4:Ji W0 w.heap.size 124 (.int .u64 0) (.int .u64 0):=by rw[←hW0];exact(Ji.new w _ _ _).alloc _
 have b5:Ji W0 (w.heap.size+1) 124 (.int .u64 0) (.int .u64 0):=by
  have h:=Ji.new (w.alloc (.cells #[.int .u64 0,.int .u64 0] 124)) 124 (.int .u64 0) (.int .u64 0);rw[BA,hW0]at h;exact h
 have Qv:=(Qk.cell (p:=⟨ab,ao+k1,none⟩) hab).trans ka;have Qn:=Ja hW0;have Qm:=Ja (show ∀V:World,Calls Tryz.prog 113 #[.int .u64 (d:Nat)] V fun e w'=>e=.returned (.int .i64 (s:Nat))∧w'=V from fun V=>by
  have h:=Tryz.bits_LeadingZeros64 (d:Nat) V (by omega) (by unfold O at hdB;omega);rw[Int.toNat_natCast,HS.o]at h;exact h)
 clear hW0 ka HS;go_enter func100,ntmps100
 go_upto_region 1 with fail
 try rw[Qn.o]
 go_upto_region 2 with(go_at_call 113;refine(Qm.o _).mono ?_;rintro e w' ⟨rfl,e1⟩;have e2:=e1.symm;subst e2;clear e1)
 have hq:=Qk;go_upto_region 3 with(first
  |(go_at_call 125;refine(HTA.o _ hq).mono ?_;clear HTA;rintro e w1 ⟨rfl,hb1⟩;have hq:=Bt hq hb1)
  |(go_at_call 125;refine(HTB.o _ hq).mono ?_;clear HTB;rintro e w2 ⟨rfl,hb2⟩;have hq:=Bt hq hb2))
 go_wp2_with fail
 obtain⟨W3,hW3⟩:=ex (((w2.alloc (.cells #[.int .u64 0,.int .u64 0] 124)).alloc (.cells #[.int .u64 1,.int .u64 0] 124)).alloc (.cells #[.int .u64 0,.int .u64 1] 124));have Qp:Bl w W3:=by rw[←hW3];exact((hq.alloc hq.size _).alloc (by have:=hq.size;simp;omega) _).alloc (by have:=hq.size;simp;omega) _
 have m9:Ji W3 w2.heap.size 124 (.int .u64 (0:Nat)) (.int .u64 (0:Nat)):=by rw[←hW3];exact((Ji.new w2 _ _ _).alloc _).alloc _
 have Qa:Ji W3 (w2.heap.size+1) 124 (.int .u64 (1:Nat)) (.int .u64 (0:Nat)):=by
  have h:=(Ji.new (w2.alloc (.cells #[.int .u64 0,.int .u64 0] 124)) 124 (.int .u64 1) (.int .u64 0)).alloc (.cells #[.int .u64 0,.int .u64 1] 124);rw[BA,hW3]at h;exact h
 have Qb:Ji W3 (w2.heap.size+1+1) 124 (.int .u64 (0:Nat)) (.int .u64 (1:Nat)):=by
  have h:=Ji.new ((w2.alloc (.cells #[.int .u64 0,.int .u64 0] 124)).alloc (.cells #[.int .u64 1,.int .u64 0] 124)) 124 (.int .u64 0) (.int .u64 1);rw[BA,BA,hW3]at h;exact h
 have Qc:=Bt hb1 hb2;have m4:Ji W3 w.heap.size 124 (.int .u64 0) (.int .u64 0):=by rw[←hW3];exact(((b4.below Qc).alloc _).alloc _).alloc _
 have m5:Ji W3 (w.heap.size+1) 124 (.int .u64 0) (.int .u64 0):=by rw[←hW3];exact(((b5.below Qc).alloc _).alloc _).alloc _
 have Qw:w.heap.size+1<w2.heap.size:=by have:=(b5.below Qc).lt;exact this
 rw[hW3];obtain⟨B9,hB9⟩:=ex (w2.heap.size);rw[hB9]at m9 Qa Qb Qw ⊢;clear hW3 Qc b4 b5 hb1 hb2 hq Qk hB9 Qv Qm Qn;go_loopw [7,8] (fun hv lv wr=>∃h l pa pb na nb xa xb:Nat,hv=.int .u64 (h:Nat)∧lv=.int .u64 (l:Nat)∧Hid (∃sg,Y8 H L sg h l na nb xa xb)∧Hid (pb=0∨Y0 x y pa pb na nb)∧(h<O∧pa<O∧pb<O∧na<O∧nb<O∧xa<O∧xb<O)∧
  Ji wr B9 124 (.int .u64 (pa:Nat)) (.int .u64 (pb:Nat))∧Ji wr (B9+1) 124 (.int .u64 (na:Nat)) (.int .u64 (nb:Nat))∧Ji wr (B9+1+1) 124 (.int .u64 (xa:Nat)) (.int .u64 (xb:Nat))∧Ji wr w.heap.size 124 (.int .u64 0) (.int .u64 0)∧Ji wr (w.heap.size+1) 124 (.int .u64 0) (.int .u64 0)∧Bl w wr)
  (fun _ lv _=>(intOf lv).toNat)
 case atStart=>exact⟨H,L,0,0,1,0,0,1,J,J,⟨1,Y8.start hLH⟩,AE J,⟨hH,by unfold O;omega,by unfold O;omega,by unfold O;omega,by unfold O;omega,by unfold O;omega,by unfold O;omega⟩,m9,Qa,Qb,m4,m5,Qp⟩
 case round=>
  clear m9 Qa Qb m4 m5 Qp;obtain⟨h,l,pa,pb,na,nb,xa,xb,rfl,rfl,HLE,HO,⟨z1,z2,z3,z4,z5,z6,z7⟩,m9,Qa,Qb,m4,m5,hB⟩:=hrel;obtain⟨sg,hle⟩:=HLE.o;have hlh:=hle.2.2.2.2.2.2.2;have hxb1:=hle.2.2.2.2.2.2.1;obtain⟨k9a,k9b⟩:=m9.cp;obtain⟨k10a,k10b⟩:=Qa.cp;obtain⟨k11a,k11b⟩:=Qb.cp;by_cases c1:xb≤l
  · obtain⟨y1,y2⟩:=hle.small (by omega);obtain⟨e,he⟩:∃e:Nat,(h:Int)-(l:Int)=(e:Int):=⟨h-l,by omega⟩;obtain⟨f,hf⟩:∃f:Nat,(nb:Int)+(xb:Int)=(f:Int):=⟨nb+xb,by omega⟩;have we:L2.wrap (e:Int)=(e:Int):=BT _ (by unfold O at z1;omega);have wf:L2.wrap (f:Int)=(f:Int):=BT _ (by unfold O at hH;omega);by_cases c2:f≤e
    · have Qi:=Ja (HLO.o _ _ _ _ _ _ _ hle c1 (by omega));have Qe:=hle.step (show 1≤l by omega);have Qd:=Ja Qe;obtain⟨q,hq⟩:=ex (h/l);obtain⟨r,hr⟩:=ex (h%l);rw[hq,hr]at Qe Qd;have hrl:r<l:=by rw[←hr];exact AH _ (by omega)
      have hqi:(h:Int)/(l:Int)=(q:Int):=by omega
      have Uc:(h:Int)%(l:Int)=(r:Int):=by omega
      have Ql:na+q*xa≤L:=by
       have h1:=Qe.2.2.1;have h2:=AY (na+q*xa) (show 0<l by omega);omega
      have Qo:nb+q*xb≤H:=by
       have h1:=Qe.2.1;have h2:=AY (nb+q*xb) (show 0<l by omega);omega
      obtain⟨P,hP⟩:=ex (q*xa);obtain⟨P2,hP2⟩:=ex (q*xb);rw[hP]at Ql Qd;rw[hP2]at Qo Qd;obtain⟨NA,hNA2⟩:=ex (na+P);obtain⟨NB,hNB2⟩:=ex (nb+P2);rw[hNA2]at Ql Qd;rw[hNB2]at Qo Qd;have p1:(q:Int)*(xa:Int)=(P:Int):=by omega
      have p2:(q:Int)*(xb:Int)=(P2:Int):=by omega
      have p3:(na:Int)+(P:Int)=(NA:Int):=by omega
      have p4:(nb:Int)+(P2:Int)=(NB:Int):=by omega
      have v1:L2.wrap (P:Int)=(P:Int):=BT _ (by unfold O at hH;omega);have v2:L2.wrap (P2:Int)=(P2:Int):=BT _ (by unfold O at hH;omega);have v3:L2.wrap (NA:Int)=(NA:Int):=BT _ (by unfold O at hH;omega);have v4:L2.wrap (NB:Int)=(NB:Int):=BT _ (by unfold O at hH;omega);have hqh:q≤h:=by rw[←hq];exact Co _ _
      have v5:L2.wrap (q:Int)=(q:Int):=BT _ (by unfold O at z1;omega);have hl0:¬(l=0):=by omega
      obtain⟨f9a,f9b⟩:=m9.fp;obtain⟨f10a,f10b⟩:=Qa.fp;obtain⟨f11a,f11b⟩:=Qb.fp;clear Qe hle hP hP2 hNA2 hNB2 hq hr y1 y2 HLE HO;go_upto_region 6 with fail
      go_quiet (fail)
      go_wp2_with fail
      go_region
      go_wp2_with fail
      have g9:Ji (wr.drewN (nq+1)) B9 124 (.int .u64 (pa:Nat)) (.int .u64 (pb:Nat)):=m9;have Ub:Ji (wr.drewN (nq+1)) (B9+1) 124 (.int .u64 (na:Nat)) (.int .u64 (nb:Nat)):=Qa;have Qs:Ji (wr.drewN (nq+1)) (B9+1+1) 124 (.int .u64 (xa:Nat)) (.int .u64 (xb:Nat)):=Qb;have g4:Ji (wr.drewN (nq+1)) w.heap.size 124 (.int .u64 0) (.int .u64 0):=m4;have g5:Ji (wr.drewN (nq+1)) (w.heap.size+1) 124 (.int .u64 0) (.int .u64 0):=m5;have gB:Bl w (wr.drewN (nq+1)):=Xo hB _;rw[Uc];refine⟨⟨l,r,na,nb,xa,xb,NA,NB,J,J,⟨_,Qd.o⟩,A6 Qi.o,⟨by omega,z4,z5,z6,z7,by omega,by omega⟩,?_,?_,?_,?_,?_,?_⟩,by simp[intOf];omega⟩
      · exact(((((g9.set0 _).set1 _).far (by simp) _).far (by simp) _).far (by simp only;omega) _).far (by simp only;omega) _
      · exact(((((Ub.far (by simp) _).far (by simp) _).set0 _).set1 _).far (by simp) _).far (by simp) _
      · exact(((((Qs.far (by simp only;omega) _).far (by simp only;omega) _).far (by simp) _).far (by simp) _).set0 _).set1 _
      · exact(((((g4.far (by simp only;omega) _).far (by simp only;omega) _).far (by simp only;omega) _).far (by simp only;omega) _).far (by simp only;omega) _).far (by simp only;omega) _
      · exact(((((g5.far (by simp only;omega) _).far (by simp only;omega) _).far (by simp only;omega) _).far (by simp only;omega) _).far (by simp only;omega) _).far (by simp only;omega) _
      · exact(((((gB.setCell (p:=⟨_,0,none⟩) (by simp only;omega) _).setCell (p:=⟨_,1,none⟩) (by simp only;omega) _).setCell (p:=⟨_,0,none⟩) (by simp only;omega) _).setCell (p:=⟨_,1,none⟩) (by simp only;omega) _).setCell (p:=⟨_,0,none⟩) (by simp only;omega) _).setCell (p:=⟨_,1,none⟩) (by simp only;omega) _
    · clear hle;obtain⟨Qx,Qq⟩:=m4.cp;obtain⟨Qy,Qu⟩:=m5.cp;obtain⟨Qr,Qt⟩:=m4.fp;obtain⟨Qz,Ua⟩:=m5.fp;go_wp2_with fail
      go_region
      go_wp2_with fail
      obtain⟨q4,q5⟩:=F1 (.int .u64 (pa:Nat)) (.int .u64 (pb:Nat)) (.int .u64 (na:Nat)) (.int .u64 (nb:Nat)) m4 m5;obtain⟨Qh,Qj⟩:=q4.cp;obtain⟨Qg,Qf⟩:=q5.cp;exact BB (v:=.tuple #[.agg #[.int .u64 (pa:Nat),.int .u64 (pb:Nat)],.agg #[.int .u64 (na:Nat),.int .u64 (nb:Nat)]]) (by simp[results,results100,go_sem,Qh,Qj,Qg,Qf]) J ⟨pa,pb,na,nb,J,⟨z2,z3,z4,z5⟩,HO.o,((((hB.setCell (p:=⟨_,0,none⟩) (by simp only;omega) _).setCell (p:=⟨_,1,none⟩) (by simp only;omega) _).setCell (p:=⟨_,0,none⟩) (by simp only;omega) _).setCell (p:=⟨_,1,none⟩) (by simp only;omega) _).drew⟩
  · clear hle;obtain⟨Qx,Qq⟩:=m4.cp;obtain⟨Qy,Qu⟩:=m5.cp;obtain⟨Qr,Qt⟩:=m4.fp;obtain⟨Qz,Ua⟩:=m5.fp;go_wp2_with fail
    go_region
    go_wp2_with fail
    obtain⟨q4,q5⟩:=F1 (.int .u64 (pa:Nat)) (.int .u64 (pb:Nat)) (.int .u64 (na:Nat)) (.int .u64 (nb:Nat)) m4 m5;obtain⟨Qh,Qj⟩:=q4.cp;obtain⟨Qg,Qf⟩:=q5.cp;exact BB (v:=.tuple #[.agg #[.int .u64 (pa:Nat),.int .u64 (pb:Nat)],.agg #[.int .u64 (na:Nat),.int .u64 (nb:Nat)]]) (by simp[results,results100,go_sem,Qh,Qj,Qg,Qf]) J ⟨pa,pb,na,nb,J,⟨z2,z3,z4,z5⟩,HO.o,((((hB.setCell (p:=⟨_,0,none⟩) (by simp only;omega) _).setCell (p:=⟨_,1,none⟩) (by simp only;omega) _).setCell (p:=⟨_,0,none⟩) (by simp only;omega) _).setCell (p:=⟨_,1,none⟩) (by simp only;omega) _).drew⟩
def K1(a:N)(la ca:Nat)(b:N)(lb cb x y:Nat)(w:World)(ra:Row .u64 w (.slice a la ca) (Jc O x))(rb:Row .u64 w (.slice b lb cb) (Jc O y))(hyx:y≤x)(hlb:2≤lb):
 Calls Tryz.prog 100 #[.slice a la ca,.slice b lb cb] w fun e w'=>∃pa pb na nb:Nat,e=.returned (.tuple #[.agg #[.int .u64 (pa:Nat),.int .u64 (pb:Nat)],.agg #[.int .u64 (na:Nat),.int .u64 (nb:Nat)]])∧(pa<O∧pb<O∧na<O∧nb<O)∧(pb=0∨Y0 x y pa pb na nb)∧Bl w w':=by
 obtain⟨hl1,hc1,hm1,hk1,hf1⟩:=Jk ra;obtain⟨hl2,hc2,hm2,hk2,hf2⟩:=Jk rb;have Qc:lb≤la:=by rw[hl1,hl2];exact JW hyx
 obtain⟨k,hk⟩:∃k,la=k+2:=⟨la-2,by omega⟩;obtain⟨ab,ao,rfl,hab,ka⟩:=hf1 (k+1) (by omega);have xa:=Jh Jb x;have hl1':(Jc O x).length=k+2:=by omega
 have hd:(Jc O x)[k+1]?.getD 0≠0:=by
  intro e;have h3:=Jl O (Jc O x) (k+1);rw[Ab (by omega),e,A4,AQ,Jg Jb]at h3;have h4:=JL xa (k+1);have h5:=Yz Jb hl1' (by omega);rw[show k+2-1=k+1 from J]at h5;omega
 have Qa:(Jc O x)[k+1]?.getD 0<O:=xa.getD (by unfold O;omega) _;obtain⟨d,hde⟩:=ex ((Jc O x)[k+1]?.getD 0);rw[hde]at ka hd Qa;obtain⟨e1,e2,e3⟩:=bitLen_spec d hd (by rw[←Y3];exact Qa);have hL:Lib.bitLen d≤64:=by
  rcases AR 64 (Lib.bitLen d)with h|h
  · exfalso
    have h5:2^64≤2^(Lib.bitLen d-1):=Ap (by omega) (by omega);rw[Y3]at Qa;omega
  · exact h
 obtain⟨s,hs⟩:∃s,s=64-Lib.bitLen d:=⟨_,J⟩;obtain⟨v1,v2⟩:=Ft (s:=s) xa hl1' hde e2 e3 e1 hL hs;rw[Jg Jb]at v1 v2;have Qb:d<2^(64-s):=by rw[hs,show 64-(64-Lib.bitLen d)=Lib.bitLen d from by omega];exact e3
 have hS:0<O^k*2^(64-s):=Bj (CG (by unfold O;omega)) (Au _);have hH:YW x k s<O:=by
  unfold YW;rw[Al hS];have hp:=YV (s:=s) (by omega);have e4:O*(O^k*2^(64-s))*2^s=O^(k+2):=by
   rw[A0,A0,Ax (2^(64-s)),hp,AW,AW,Ax O,A0]
  rw[←e4]at v1;exact Nat.lt_of_mul_lt_mul_right v1
 have HT:=fun(V:World) (h:Bl w V)=>F0 (some ⟨ab,ao,none⟩) la ca (Jc O x) k (k+1) la s V (Row.below ra h) xa hk (by omega) (by omega) (by omega) (Aa _) hk1 (fun _=>by rw[hde];exact Qb);have HU:=fun(V:World) (h:Bl w V)=>F0 b lb cb (Jc O y) k (k+1) la s V (Row.below rb h) (Jh Jb y) hk (by omega) (by omega) (by omega) Qc hk1 (fun e=>by
  have h6:=Jl O (Jc O y) (k+1);rw[Ab (by omega),Jg Jb]at h6;have h7:=Jl O (Jc O x) (k+1);rw[Ab (by omega),Jg Jb,hde]at h7;have h8:=JL xa (k+1);have h9:(Jc O y)[k+1]?.getD 0≤d:=by
   rcases AR d ((Jc O y)[k+1]?.getD 0)with h|h
   · exfalso
     have:=Ai (O^(k+1)) (show d+1≤(Jc O y)[k+1]?.getD 0 from h);rw[CF,Nat.mul_one]at this;omega
   · exact h
  omega)
 rw[Jg Jb]at HT HU;refine K0 ab ao la (k+1) ca b lb cb x y d s (YW x k s) (YW y k s) w (by omega) hab ka Qa (by omega) (show _=_ by omega) hk1 (by omega) HT HU hH (Nat.div_le_div_right hyx) ?_;intro sg h l na nb xa xb hle h1 h2;refine hle.out (S:=O^k*2^(64-s)) (al:=x%(O^k*2^(64-s))) (be:=y%(O^k*2^(64-s))) ?_ ?_ (AH _ hS) (AH _ hS) h1 h2
 · grind[YW,AB]
 grind[YW,AB]
def Df(W:World)(p:Addr):Nat:=match W.cell? p with|some (.int _ z)=>z.toNat|_=>0
def rowVal(W:World):Value→Nat
 |.slice (some p) l _=>val O ((List.range l).map fun j=>Df W ⟨p.block,p.off+j,none⟩)
 |_=>0
def UN.rowVal{W:World}{a:N}{l c n:Nat}(h:UN W (.slice a l c) n):rowVal W (.slice a l c)=n:=by
 obtain⟨h1,_,_,_,h5⟩:=Jk h;rcases Am l with h0|h0
 · subst h0;have hn:=(Ju Jb).1 (Ag h1.symm);subst hn;cases a<;>rfl
 · obtain⟨b,off,rfl,_,_⟩:=h5 0 h0;show val O ((List.range l).map fun j=>Df W ⟨b,off+j,none⟩)=n;have e:(List.range l).map (fun j=>Df W ⟨b,off+j,none⟩)=Jc O n:=by
    refine List.ext_getElem (by grind) (fun j g1 g2=>?_);grind[Df]
   rw[e,Jg Jb]
def K3(a:N)(la ca:Nat)(b:N)(lb cb x y:Nat)(w:World)(ra:Row .u64 w (.slice a la ca) (Jc O x))(rb:Row .u64 w (.slice b lb cb) (Jc O y))(hla:la<1000000000000)(hlb:lb<1000000000000):
 Calls Tryz.prog 70 #[.slice a la ca,.slice b lb cb] w fun e w'=>∃u,e=.returned u∧UN w' u (Nat.gcd x y)∧Bl w w':=by
 have HO:=Ja (Dy _ _ (Jc O x) (Jc O y) w ra rb (Jh Jb x) (Jh Jb y) (J6 Jb x) (J6 Jb y));rw[Jg Jb,Jg Jb]at HO;obtain⟨cm,hcm⟩:=ex (Ya x y:Int);rw[hcm]at HO;obtain⟨Qj,Qm,Qh⟩:=CK hcm ra rb;clear hcm ra rb;go_enter func70,ntmps70
 go_upto_if 14 with(go_at_call 72;refine HO.o.mono ?_;rintro e w1 ⟨rfl,hb1⟩)
 go_cut [0,1] (fun rv bv wr=>∃(a0:N) (l0 c0 X:Nat) (a1:N) (l1 c1 Y:Nat),rv=.slice a0 l0 c0∧bv=.slice a1 l1 c1∧Hid (UN wr (.slice a0 l0 c0) X)∧Hid (UN wr (.slice a1 l1 c1) Y)∧Hid (Y≤X∧Nat.gcd X Y=Nat.gcd x y)∧l0<1000000000000∧Bl w wr)
 case first=>
  by_cases Qw:cm<0
  · have Qx:x<y:=by
     have h:=Qj.o;unfold Ya at h;omega
    go_wp2_with fail
    go_meet
    case rel=>exact⟨_,_,_,y,_,_,_,x,J,J,Ja (UN.below Qh.o hb1),Ja (UN.below Qm.o hb1),Ja ⟨by omega,CA _ _⟩,hlb,hb1⟩
  · have Qx:¬(x<y):=fun h=>by
     have h1:=Qj.o;rw[Xs h]at h1;omega
    go_wp2_with fail
    go_meet
    case rel=>exact⟨_,_,_,x,_,_,_,y,J,J,Ja (UN.below Qm.o hb1),Ja (UN.below Qh.o hb1),Ja ⟨by omega,J⟩,hla,hb1⟩
 case rest=>
  obtain⟨a0,l0,c0,X,a1,l1,c1,Y,rfl,rfl,h1,h2,h3,h4,h5⟩:=hcut;clear HO Qj Qm Qh hb1;go_wp2_with fail
  go_loopw [0,1] (fun rv bv wr=>∃(a0:N) (l0 c0 X:Nat) (a1:N) (l1 c1 Y:Nat),rv=.slice a0 l0 c0∧bv=.slice a1 l1 c1∧Hid (UN wr (.slice a0 l0 c0) X)∧Hid (UN wr (.slice a1 l1 c1) Y)∧Hid (Y≤X∧Nat.gcd X Y=Nat.gcd x y)∧l0<1000000000000∧Bl w wr)
   (fun rv bv wr=>rowVal wr rv+rowVal wr bv)
  case atStart=>exact⟨a0,l0,c0,X,a1,l1,c1,Y,J,J,h1,h2,h3,h4,h5⟩
  case round=>
   clear h1 h2 h3 h4 h5;obtain⟨a0,l0,c0,X,a1,l1,c1,Y,rfl,rfl,hX,hY,hG,hl0,hB⟩:=hrel;have hll:l1≤l0:=by rw[UN.len hX.o,UN.len hY.o];exact JW hG.o.1
   by_cases hlen:1<l1
   · have Qw:(1:Int)<(l1:Int):=by omega
     have Qe:Y≠0:=fun e=>by
      have h:=UN.len hY.o;rw[e,Jp]at h;simp at h;omega
     have Qu:=Ja (K1 a0 l0 c0 a1 l1 c1 X Y _ hX.o hY.o hG.o.1 (by omega));go_upto_region 5 with(go_at_call 100;refine Qu.o.mono ?_;rintro e w2 ⟨pa,pb,na,nb,rfl,⟨b1,b2,b3,b4⟩,hout,hb2⟩)
     obtain⟨W3,hW3⟩:=ex ((w2.alloc (.cells #[.int .u64 (pa:Nat),.int .u64 (pb:Nat)] 124)).alloc (.cells #[.int .u64 (na:Nat),.int .u64 (nb:Nat)] 124));have Ql:=Bt hB hb2;have Qb:Bl wr W3:=by rw[←hW3];exact(hb2.alloc hb2.size _).alloc (by have:=hb2.size;simp;omega) _
     have Qd:=Bt hB Qb;have m5:Ji W3 w2.heap.size 124 (.int .u64 (pa:Nat)) (.int .u64 (pb:Nat)):=by rw[←hW3];exact(Ji.new w2 _ _ _).alloc _
     have m6:Ji W3 (w2.heap.size+1) 124 (.int .u64 (na:Nat)) (.int .u64 (nb:Nat)):=by
      have h:=Ji.new (w2.alloc (.cells #[.int .u64 (pa:Nat),.int .u64 (pb:Nat)] 124)) 124 (.int .u64 (na:Nat)) (.int .u64 (nb:Nat));rw[BA,hW3]at h;exact h
     have Qn:=UN.below hX.o Qb;have Qc:=UN.below hY.o Qb;rw[hW3];clear hW3 Qu hb2 Ql;obtain⟨k0,k1⟩:=m5.cp;obtain⟨k2,k3⟩:=m6.cp;by_cases hpb:pb=0
     · subst hpb;have Qk:=Ja (EI a0 l0 c0 a1 l1 c1 X Y W3 Qn Qc Qe (by omega));clear hout;go_wp2_with(go_at_call 84;refine Qk.o.mono ?_;rintro e w4 ⟨u,v,rfl,hu,hv,hb4⟩;obtain⟨ua,uc,rfl⟩:=UN.form hu;obtain⟨va,vc,rfl⟩:=UN.form hv)
       have Qi:=AH X (show Y>0 by omega);have Qq:=UN.below Qc hb4;refine⟨⟨a1,l1,c1,Y,va,_,vc,X%Y,J,J,Ja Qq,Ja hv,Ja ⟨by omega,by rw[←hG.o.2,CA Y,←Nat.gcd_rec,CA]⟩,by omega,Bt Qd hb4⟩,?_⟩;rw[UN.rowVal Qq,UN.rowVal hv,UN.rowVal hX.o,UN.rowVal hY.o];have:=hG.o.1;omega
     · have hL:=hout.resolve_left hpb;have Qs:nb*Y≠0:=by
        have:=hL.2.2.2;exact Nat.mul_ne_zero (by omega) Qe
       obtain⟨Qr,Qp,Qa,Qo,Qg⟩:=C6 (fun(V:World) (h:Bl W3 V)=>Fz pa pb a0 l0 c0 a1 l1 c1 X Y V (UN.below Qn h) (UN.below Qc h) b1 b2 (by omega) (by omega) (Nat.mul_ne_zero hpb Qe)) (fun(V:World) (h:Bl W3 V)=>Fz na nb a0 l0 c0 a1 l1 c1 X Y V (UN.below Qn h) (UN.below Qc h) b3 b4 (by omega) (by omega) Qs) (hL.less hpb (by omega)) hL.gcd hL.2.2.1;have Qf:=Ja (show Yh (pa*X) (pb*Y)≤X by
        have e1:=hL.1;have e2:=Cj (Yh (pa*X) (pb*Y)) hL.2.2.2;omega)
       clear hL hout Qs;generalize Yh (pa*X) (pb*Y)=D1 at *;generalize Yh (na*X) (nb*Y)=D2 at *;have hq:Bl W3 W3.drew:=(BC _ W3).drew;go_upto_region 6 with fail
       go_region_held3 (fun w'=>w'.cell? ⟨w2.heap.size,0,none⟩=some (.int .u64 (pa:Nat))∧w'.cell? ⟨w2.heap.size,1,none⟩=some (.int .u64 (pb:Nat))∧w'.cell? ⟨w2.heap.size+1,0,none⟩=some (.int .u64 (na:Nat))∧w'.cell? ⟨w2.heap.size+1,1,none⟩=some (.int .u64 (nb:Nat))) (exact⟨k0,k1,k2,k3⟩)
        (first
         |(go_at_call 101;refine(Qr.o _ hq).mono ?_;clear Qr;rintro e w4 ⟨u4,rfl,hu4,hb4⟩;obtain⟨xa,xc,rfl⟩:=UN.form hu4;have hq:=Bt hq hb4;obtain⟨k0,k1⟩:=(m5.below hq).cp;obtain⟨k2,k3⟩:=(m6.below hq).cp)
         |(go_at_call 101;refine(Qp.o _ hq).mono ?_;clear Qp;rintro e w5 ⟨u5,rfl,hu5,hb5⟩;obtain⟨ya,yc,rfl⟩:=UN.form hu5;have hq:=Bt hq hb5;obtain⟨k0,k1⟩:=(m5.below hq).cp;obtain⟨k2,k3⟩:=(m6.below hq).cp))
       all_goals go_wp2_with fail
       have hu4':=UN.below hu4 hb5;refine⟨⟨xa,_,xc,D1,ya,_,yc,D2,J,J,Ja hu4',Ja hu5,Ja ⟨Nat.le_of_lt Qg.o,Qo.o.trans hG.o.2⟩,?_,Bt Qd hq⟩,?_⟩
       · have h1:=JW Qf.o;rw[←UN.len hX.o]at h1;omega
       · rw[UN.rowVal hu4',UN.rowVal hu5,UN.rowVal hX.o,UN.rowVal hY.o];exact Qa.o
   · rcases Am l1 with h0|h0
     · subst h0;have Qt:=(Ju Jb).1 (Ag (UN.len hY.o).symm);have HC:=Ja (FN a0 l0 c0 _ wr hX.o);have HE:=Ja (show X=Nat.gcd x y by rw[←hG.o.2,Qt,Nat.gcd_zero_right]);clear Qt;go_wp2_with(go_at_call 78;refine HC.o.mono ?_;rintro e w2 ⟨za,zc,rfl,hz,hb2⟩)
       go_ret;exact⟨_,J,by rw[←HE.o];exact hz,Bt hB hb2⟩
     · obtain rfl:l1=1:=by omega
       obtain⟨hn1,hn2,hn3⟩:=Y4 (UN.len hY.o).symm;obtain⟨bb,bo,rfl,hbb,kb⟩:=(Jk hY.o).2.2.2.2 0 (by omega);rw[hn1]at kb;have Qy:wr.cell? ⟨bb,bo,none⟩=some (.int .u64 (Y:Nat)):=kb;have Qk:=Ja (EI a0 l0 c0 (some ⟨bb,bo,none⟩) 1 c1 X Y wr hX.o hY.o (by omega) (by omega));have Qi:=AH X (show Y>0 by omega);have HE:=Ja (show Nat.gcd Y (X%Y)=Nat.gcd x y by rw[←hG.o.2,CA Y,←Nat.gcd_rec,CA]);have Qv:=Ja (show ∀(V:World) (v:N) (l c:Nat),UN V (.slice v l c) (X%Y)→Calls Tryz.prog 102 #[.slice (some ⟨V.heap.size,0,none⟩) 1 1,.slice v l c] (V.alloc (.cells #[.int .u64 (Y:Nat)] 94)) fun e w'=>∃u,e=.returned u∧UN w' u (Nat.gcd x y)∧Below (V.alloc (.cells #[.int .u64 (Y:Nat)] 94)).heap.size (V.alloc (.cells #[.int .u64 (Y:Nat)] 94)) w' from fun V v l c h=>by
        have h1:=(Bo.made (xs:=[Y]) (BD V (.cells #[.int .u64 (Y:Nat)] 94))).row 0 1 1 (by simp) (by omega) (by omega) (by omega);have h2:Row .u64 (V.alloc (.cells #[.int .u64 (Y:Nat)] 94)) (.slice (some ⟨V.heap.size,0,none⟩) 1 1) (Jc O Y):=by rw[hn1];exact h1
        have h3:=Kv (some ⟨V.heap.size,0,none⟩) 1 v l c Y (X%Y) _ h2 (UN.below h (Ba V _)) (by omega);rw[HE.o]at h3;exact h3)
       clear kb hn1;go_upto_region 12 with(go_at_call 84;refine Qk.o.mono ?_;rintro e w2 ⟨u,v,rfl,hu,hv,hb2⟩;obtain⟨ua,uc,rfl⟩:=UN.form hu;obtain⟨va,vc,rfl⟩:=UN.form hv)
       have kb2:=(hb2.cell (p:=⟨bb,bo,none⟩) hbb).trans Qy;go_wp2_with(go_at_call 102;refine(Qv.o _ _ _ _ hv).mono ?_;rintro e w3 ⟨u3,rfl,hu3,Qb⟩;obtain⟨ta,tc,rfl⟩:=UN.form hu3)
       go_ret;have Ql:=Bt hB hb2;exact⟨_,J,hu3,Fx Ql Qb⟩

