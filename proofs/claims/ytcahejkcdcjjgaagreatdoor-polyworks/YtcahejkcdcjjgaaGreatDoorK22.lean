import Derived.Test.YtcahejkcdcjjgaaGreatDoorK21
import Derived.Deep.RegionHeld3
import Derived.BigRegion
set_option maxRecDepth 100000
set_option maxHeartbeats 16000000
namespace Go.Proofs.YtcahejkcdcjjgaaGreatDoor
open Go.RowKit Go.Shelf
attribute [local go_sem] Oper.semAt_some
theorem Jni{W:World}{B:Nat}{t:TypeId}{v0 v1 u0 u1:Value}(x0 x1 y0 y1:Value)(h:Jk W B t v0 v1)(k:Jk W (B+1) t u0 u1):
 Jk ((((W.setCell ⟨B,0,none⟩ x0).setCell ⟨B,1,none⟩ x1).setCell ⟨B+1,0,none⟩ y0).setCell ⟨B+1,1,none⟩ y1).drew B t x0 x1∧Jk ((((W.setCell ⟨B,0,none⟩ x0).setCell ⟨B,1,none⟩ x1).setCell ⟨B+1,0,none⟩ y0).setCell ⟨B+1,1,none⟩ y1).drew (B+1) t y0 y1:=
 ⟨((((h.set0 x0).set1 x1).far (by simp) y0).far (by simp) y1).drew,((((k.far (by simp) x0).far (by simp) x1).set0 y0).set1 y1).drew⟩
theorem Jov(ab ao la k1 ca:Nat)(b:Option Addr)(lb cb x y d s H L:Nat)(w:World)(h1:(la:Int)-1=k1)(hab:ab<w.heap.size)
(ka:w.cell? ⟨ab,ao+k1,none⟩=some (.int .u64 (d:Nat)))(hdB:d<B64)(hs:s≤63)(HS:Hid ((64:Int)-(Lib.bitLen d:Int)=(s:Int)))(hla:la≤1099511627776)(hk1:k1<la)
(HTA:Hid (∀V:World,Below w.heap.size w V→Calls Tryz.prog 177 #[.slice (some ⟨ab,ao,none⟩) la ca,.int .i64 (la:Nat),.int .u64 (s:Nat)] V fun e w'=>e=.returned (.int .u64 (H:Nat))∧Below V.heap.size V w'))
(HTB:Hid (∀V:World,Below w.heap.size w V→Calls Tryz.prog 177 #[.slice b lb cb,.int .i64 (la:Nat),.int .u64 (s:Nat)] V fun e w'=>e=.returned (.int .u64 (L:Nat))∧Below V.heap.size V w'))
(hH:H<B64)(hLH:L≤H)(HLO:Hid (∀sg h l na nb xa xb,Jb5 H L sg h l na nb xa xb→xb≤l→nb+xb≤h-l→Jbu x y na nb xa xb)):
 Calls Tryz.prog 149 #[.slice (some ⟨ab,ao,none⟩) la ca,.slice b lb cb] w fun e w'=>∃pa pb na nb:Nat,e=.returned (.tuple #[.agg #[.int .u64 (pa:Nat),.int .u64 (pb:Nat)],.agg #[.int .u64 (na:Nat),.int .u64 (nb:Nat)]])∧(pa<B64∧pb<B64∧na<B64∧nb<B64)∧(pb=0∨Jbu x y pa pb na nb)∧Below w.heap.size w w':=by
 have hmx:Tryz.prog.follows .mixedOrders=true:=by kernel_rfl
 have i1:IntKind.i64.wrap ((la:Int)-1)=(k1:Int):=by rw[h1];exact IntWalk.i64_in _ (by omega)
 have i3:IntKind.i64.wrap (k1:Int)=(k1:Int):=IntWalk.i64_in _ (by omega);have isw:IntKind.u64.wrap (s:Int)=(s:Int):=IntWalk.u64_in _ (by omega);obtain⟨W0,hW0⟩:=ex ((w.alloc (.cells #[.int .u64 0,.int .u64 0] 180)).alloc (.cells #[.int .u64 0,.int .u64 0] 180));have Qg:Below w.heap.size w W0:=by rw[←hW0];exact((Below.refl _ w).alloc (Aa _) _).alloc (by simp) _
 have b4:Jk W0 w.heap.size 180 (.int .u64 0) (.int .u64 0):=by rw[←hW0];exact(Jk.new w _ _ _).alloc _
 have b5:Jk W0 (w.heap.size+1) 180 (.int .u64 0) (.int .u64 0):=by
  have h:=Jk.new (w.alloc (.cells #[.int .u64 0,.int .u64 0] 180)) 180 (.int .u64 0) (.int .u64 0);rw[World.size_alloc,hW0]at h;exact h
 have Qq:=(Qg.cell (p:=⟨ab,ao+k1,none⟩) hab).trans ka;have Qm:=Ja hW0;have Qn:=Ja (show ∀V:World,Calls Tryz.prog 176 #[.int .u64 (d:Nat)] V fun e w'=>e=.returned (.int .i64 (s:Nat))∧w'=V from fun V=>by
  have h:=Tryz.bits_LeadingZeros64 (d:Nat) V (by omega) (by unfold B64 at hdB;omega);rw[Cq,HS.o]at h;exact h)
 clear hW0 ka HS;go_enter Tryz.func149,Tryz.ntmps149
 go_upto_region 1 with fail
 try rw[Qm.o]
 go_upto_region 2 with(go_at_call 176;refine(Qn.o _).mono ?_;rintro e w' ⟨rfl,e1⟩;have e2:=e1.symm;subst e2;clear e1)
 have hq:Below w.heap.size w W0:=Qg;go_upto_region 3 with(first
  |(go_at_call 177;refine(HTA.o _ hq).mono ?_;clear HTA;rintro e w1 ⟨rfl,hb1⟩;have hq:=hq.trans (hb1.mono hq.size))
  |(go_at_call 177;refine(HTB.o _ hq).mono ?_;clear HTB;rintro e w2 ⟨rfl,hb2⟩;have hq:=hq.trans (hb2.mono hq.size)))
 go_wp2_with fail
 obtain⟨W3,hW3⟩:=ex (((w2.alloc (.cells #[.int .u64 0,.int .u64 0] 180)).alloc (.cells #[.int .u64 1,.int .u64 0] 180)).alloc (.cells #[.int .u64 0,.int .u64 1] 180));have Ql:Below w.heap.size w W3:=by rw[←hW3];exact((hq.alloc hq.size _).alloc (by have:=hq.size;simp;omega) _).alloc (by have:=hq.size;simp;omega) _
 have m9:Jk W3 w2.heap.size 180 (.int .u64 (0:Nat)) (.int .u64 (0:Nat)):=by rw[←hW3];exact((Jk.new w2 _ _ _).alloc _).alloc _
 have Qa:Jk W3 (w2.heap.size+1) 180 (.int .u64 (1:Nat)) (.int .u64 (0:Nat)):=by
  have h:=(Jk.new (w2.alloc (.cells #[.int .u64 0,.int .u64 0] 180)) 180 (.int .u64 1) (.int .u64 0)).alloc (.cells #[.int .u64 0,.int .u64 1] 180);rw[World.size_alloc,hW3]at h;exact h
 have Qb:Jk W3 (w2.heap.size+1+1) 180 (.int .u64 (0:Nat)) (.int .u64 (1:Nat)):=by
  have h:=Jk.new ((w2.alloc (.cells #[.int .u64 0,.int .u64 0] 180)).alloc (.cells #[.int .u64 1,.int .u64 0] 180)) 180 (.int .u64 0) (.int .u64 1);rw[World.size_alloc,World.size_alloc,hW3]at h;exact h
 have Qc:Below W0.heap.size W0 w2:=hb1.trans (hb2.mono hb1.size);have m4:Jk W3 w.heap.size 180 (.int .u64 0) (.int .u64 0):=by rw[←hW3];exact(((b4.below Qc).alloc _).alloc _).alloc _
 have m5:Jk W3 (w.heap.size+1) 180 (.int .u64 0) (.int .u64 0):=by rw[←hW3];exact(((b5.below Qc).alloc _).alloc _).alloc _
 have Ua:w.heap.size+1<w2.heap.size:=by have:=(b5.below Qc).lt;exact this
 rw[hW3];obtain⟨B9,hB9⟩:=ex (w2.heap.size);rw[hB9]at m9 Qa Qb Ua ⊢;clear hW3 Qc b4 b5 hb1 hb2 hq Qg hB9 Qq Qn Qm;go_loopw [7,8] (fun hv lv wr=>∃h l pa pb na nb xa xb:Nat,hv=.int .u64 (h:Nat)∧lv=.int .u64 (l:Nat)∧Hid (∃sg,Jb5 H L sg h l na nb xa xb)∧Hid (pb=0∨Jbu x y pa pb na nb)∧(h<B64∧pa<B64∧pb<B64∧na<B64∧nb<B64∧xa<B64∧xb<B64)∧
  Jk wr B9 180 (.int .u64 (pa:Nat)) (.int .u64 (pb:Nat))∧Jk wr (B9+1) 180 (.int .u64 (na:Nat)) (.int .u64 (nb:Nat))∧Jk wr (B9+1+1) 180 (.int .u64 (xa:Nat)) (.int .u64 (xb:Nat))∧Jk wr w.heap.size 180 (.int .u64 0) (.int .u64 0)∧Jk wr (w.heap.size+1) 180 (.int .u64 0) (.int .u64 0)∧Below w.heap.size w wr)
  (fun _ lv _=>(intOf lv).toNat)
 case atStart=>exact⟨H,L,0,0,1,0,0,1,rfl,rfl,⟨1,Jb5.start hLH⟩,Or.inl rfl,⟨hH,by unfold B64;omega,by unfold B64;omega,by unfold B64;omega,by unfold B64;omega,by unfold B64;omega,by unfold B64;omega⟩,m9,Qa,Qb,m4,m5,Ql⟩
 case round=>
  clear m9 Qa Qb m4 m5 Ql;obtain⟨h,l,pa,pb,na,nb,xa,xb,rfl,rfl,HLE,HO,⟨z1,z2,z3,z4,z5,z6,z7⟩,m9,Qa,Qb,m4,m5,hB⟩:=hrel;obtain⟨sg,hle⟩:=HLE.o;have hlh:l≤h:=hle.2.2.2.2.2.2.2;have hxb1:1≤xb:=hle.2.2.2.2.2.2.1;have k9a:=m9.c0;have k9b:=m9.c1;have k10a:=Qa.c0;have k10b:=Qa.c1;have k11a:=Qb.c0;have k11b:=Qb.c1;by_cases c1:xb≤l
  · obtain⟨y1,y2⟩:=hle.small (by omega);obtain⟨e,he⟩:∃e:Nat,(h:Int)-(l:Int)=(e:Int):=⟨h-l,by omega⟩;obtain⟨f,hf⟩:∃f:Nat,(nb:Int)+(xb:Int)=(f:Int):=⟨nb+xb,by omega⟩;have we:IntKind.u64.wrap (e:Int)=(e:Int):=IntWalk.u64_in _ (by unfold B64 at z1;omega);have wf:IntKind.u64.wrap (f:Int)=(f:Int):=IntWalk.u64_in _ (by unfold B64 at hH;omega);by_cases c2:f≤e
    · have Qi:=Ja (HLO.o _ _ _ _ _ _ _ hle c1 (by omega));have Qe:=hle.step (show 1≤l by omega);have Qd:=Ja Qe;obtain⟨q,hq⟩:=ex (h/l);obtain⟨r,hr⟩:=ex (h%l);rw[hq,hr]at Qe Qd;have hrl:r<l:=by rw[←hr];exact A4 _ (by omega)
      have hqi:(h:Int)/(l:Int)=(q:Int):=by rw[←hq];exact(Fa h l).symm
      have Qw:(h:Int)%(l:Int)=(r:Int):=by rw[←hr];exact(Int.natCast_emod h l).symm
      have Qp:na+q*xa≤L:=by
       have h1:=Qe.2.2.1;have h2:=Cz (na+q*xa) (show 0<l by omega);omega
      have Qo:nb+q*xb≤H:=by
       have h1:=Qe.2.1;have h2:=Cz (nb+q*xb) (show 0<l by omega);omega
      obtain⟨P,hP⟩:=ex (q*xa);obtain⟨P2,hP2⟩:=ex (q*xb);rw[hP]at Qp Qd;rw[hP2]at Qo Qd;obtain⟨NA,hNA2⟩:=ex (na+P);obtain⟨NB,hNB2⟩:=ex (nb+P2);rw[hNA2]at Qp Qd;rw[hNB2]at Qo Qd;have p1:(q:Int)*(xa:Int)=(P:Int):=by rw[←hP];exact(CW q xa).symm
      have p2:(q:Int)*(xb:Int)=(P2:Int):=by rw[←hP2];exact(CW q xb).symm
      have p3:(na:Int)+(P:Int)=(NA:Int):=by omega
      have p4:(nb:Int)+(P2:Int)=(NB:Int):=by omega
      have v1:IntKind.u64.wrap (P:Int)=(P:Int):=IntWalk.u64_in _ (by unfold B64 at hH;omega);have v2:IntKind.u64.wrap (P2:Int)=(P2:Int):=IntWalk.u64_in _ (by unfold B64 at hH;omega);have v3:IntKind.u64.wrap (NA:Int)=(NA:Int):=IntWalk.u64_in _ (by unfold B64 at hH;omega);have v4:IntKind.u64.wrap (NB:Int)=(NB:Int):=IntWalk.u64_in _ (by unfold B64 at hH;omega);have hqh:q≤h:=by rw[←hq];exact C5 _ _
      have v5:IntKind.u64.wrap (q:Int)=(q:Int):=IntWalk.u64_in _ (by unfold B64 at z1;omega);have hl0:¬(l=0):=by omega
      have f9a:=m9.f0;have f9b:=m9.f1;have f10a:=Qa.f0;have f10b:=Qa.f1;have f11a:=Qb.f0;have f11b:=Qb.f1;clear Qe hle hP hP2 hNA2 hNB2 hq hr y1 y2 HLE HO;go_upto_region 6 with fail
      go_quiet (fail)
      go_wp2_with fail
      go_region
      go_wp2_with fail
      have g9:Jk (wr.drewN (nq+1)) B9 180 (.int .u64 (pa:Nat)) (.int .u64 (pb:Nat)):=m9;have Qs:Jk (wr.drewN (nq+1)) (B9+1) 180 (.int .u64 (na:Nat)) (.int .u64 (nb:Nat)):=Qa;have Qy:Jk (wr.drewN (nq+1)) (B9+1+1) 180 (.int .u64 (xa:Nat)) (.int .u64 (xb:Nat)):=Qb;have g4:Jk (wr.drewN (nq+1)) w.heap.size 180 (.int .u64 0) (.int .u64 0):=m4;have g5:Jk (wr.drewN (nq+1)) (w.heap.size+1) 180 (.int .u64 0) (.int .u64 0):=m5;have gB:Below w.heap.size w (wr.drewN (nq+1)):=Jcl hB _;rw[Qw];refine⟨⟨l,r,na,nb,xa,xb,NA,NB,rfl,rfl,⟨_,Qd.o⟩,Or.inr Qi.o,⟨by omega,z4,z5,z6,z7,by omega,by omega⟩,?_,?_,?_,?_,?_,?_⟩,by simp[intOf];omega⟩
      · exact(((((g9.set0 _).set1 _).far (by simp) _).far (by simp) _).far (by simp only;omega) _).far (by simp only;omega) _
      · exact(((((Qs.far (by simp) _).far (by simp) _).set0 _).set1 _).far (by simp) _).far (by simp) _
      · exact(((((Qy.far (by simp only;omega) _).far (by simp only;omega) _).far (by simp) _).far (by simp) _).set0 _).set1 _
      · exact(((((g4.far (by simp only;omega) _).far (by simp only;omega) _).far (by simp only;omega) _).far (by simp only;omega) _).far (by simp only;omega) _).far (by simp only;omega) _
      · exact(((((g5.far (by simp only;omega) _).far (by simp only;omega) _).far (by simp only;omega) _).far (by simp only;omega) _).far (by simp only;omega) _).far (by simp only;omega) _
      · exact(((((gB.setCell (p:=⟨_,0,none⟩) (by simp only;omega) _).setCell (p:=⟨_,1,none⟩) (by simp only;omega) _).setCell (p:=⟨_,0,none⟩) (by simp only;omega) _).setCell (p:=⟨_,1,none⟩) (by simp only;omega) _).setCell (p:=⟨_,0,none⟩) (by simp only;omega) _).setCell (p:=⟨_,1,none⟩) (by simp only;omega) _
    · clear hle;have Ub:=m4.c0;have Uc:=m4.c1;have Qz:=m5.c0;have Qv:=m5.c1;have Qx:=m4.f0;have Qt:=m4.f1;have Qr:=m5.f0;have Qu:=m5.f1;have n1:¬(w.heap.size+1=w.heap.size):=by omega
      have n2:¬(B9=w.heap.size):=by omega
      have n3:¬(B9+1=w.heap.size):=by omega
      have n4:¬(B9=w.heap.size+1):=by omega
      have n5:¬(B9+1=w.heap.size+1):=by omega
      go_wp2_with fail
      go_region
      go_wp2_with fail
      obtain⟨q4,q5⟩:=Jni (.int .u64 (pa:Nat)) (.int .u64 (pb:Nat)) (.int .u64 (na:Nat)) (.int .u64 (nb:Nat)) m4 m5;have Qj:=q4.c0;have Qk:=q4.c1;have Qh:=q5.c0;have Qf:=q5.c1;exact bodyPost_ret (v:=.tuple #[.agg #[.int .u64 (pa:Nat),.int .u64 (pb:Nat)],.agg #[.int .u64 (na:Nat),.int .u64 (nb:Nat)]]) (by simp[results,Tryz.results149,go_sem,Qj,Qk,Qh,Qf]) rfl ⟨pa,pb,na,nb,rfl,⟨z2,z3,z4,z5⟩,HO.o,((((hB.setCell (p:=⟨_,0,none⟩) (by simp only;omega) _).setCell (p:=⟨_,1,none⟩) (by simp only;omega) _).setCell (p:=⟨_,0,none⟩) (by simp only;omega) _).setCell (p:=⟨_,1,none⟩) (by simp only;omega) _).drew⟩
  · clear hle;have Ub:=m4.c0;have Uc:=m4.c1;have Qz:=m5.c0;have Qv:=m5.c1;have Qx:=m4.f0;have Qt:=m4.f1;have Qr:=m5.f0;have Qu:=m5.f1;have n1:¬(w.heap.size+1=w.heap.size):=by omega
    have n2:¬(B9=w.heap.size):=by omega
    have n3:¬(B9+1=w.heap.size):=by omega
    have n4:¬(B9=w.heap.size+1):=by omega
    have n5:¬(B9+1=w.heap.size+1):=by omega
    go_wp2_with fail
    go_region
    go_wp2_with fail
    obtain⟨q4,q5⟩:=Jni (.int .u64 (pa:Nat)) (.int .u64 (pb:Nat)) (.int .u64 (na:Nat)) (.int .u64 (nb:Nat)) m4 m5;have Qj:=q4.c0;have Qk:=q4.c1;have Qh:=q5.c0;have Qf:=q5.c1;exact bodyPost_ret (v:=.tuple #[.agg #[.int .u64 (pa:Nat),.int .u64 (pb:Nat)],.agg #[.int .u64 (na:Nat),.int .u64 (nb:Nat)]]) (by simp[results,Tryz.results149,go_sem,Qj,Qk,Qh,Qf]) rfl ⟨pa,pb,na,nb,rfl,⟨z2,z3,z4,z5⟩,HO.o,((((hB.setCell (p:=⟨_,0,none⟩) (by simp only;omega) _).setCell (p:=⟨_,1,none⟩) (by simp only;omega) _).setCell (p:=⟨_,0,none⟩) (by simp only;omega) _).setCell (p:=⟨_,1,none⟩) (by simp only;omega) _).drew⟩
end Go.Proofs.YtcahejkcdcjjgaaGreatDoor
namespace Go.Proofs.YtcahejkcdcjjgaaGreatDoor
open Go.RowKit Go.Shelf
theorem Jow(a:Option Addr)(la ca:Nat)(b:Option Addr)(lb cb x y:Nat)(w:World)(ra:Row .u64 w (.slice a la ca) (Jc B64 x))(rb:Row .u64 w (.slice b lb cb) (Jc B64 y))(hyx:y≤x)(hlb:2≤lb):
 Calls Tryz.prog 149 #[.slice a la ca,.slice b lb cb] w fun e w'=>∃pa pb na nb:Nat,e=.returned (.tuple #[.agg #[.int .u64 (pa:Nat),.int .u64 (pb:Nat)],.agg #[.int .u64 (na:Nat),.int .u64 (nb:Nat)]])∧(pa<B64∧pb<B64∧na<B64∧nb<B64)∧(pb=0∨Jbu x y pa pb na nb)∧Below w.heap.size w w':=by
 obtain⟨hl1,hc1,hm1,hk1,hf1⟩:=Jp ra;obtain⟨hl2,hc2,hm2,hk2,hf2⟩:=Jp rb;have Qb:lb≤la:=by rw[hl1,hl2];exact YT hyx
 obtain⟨k,hk⟩:∃k,la=k+2:=⟨la-2,by omega⟩;obtain⟨ab,ao,rfl,hab,ka⟩:=hf1 (k+1) (by omega);have xa:=Jm Je x;have hl1':(Jc B64 x).length=k+2:=by omega
 have hd:(Jc B64 x)[k+1]?.getD 0≠0:=by
  intro e;have h3:=Jn B64 (Jc B64 x) (k+1);rw[Ab (by omega),e,Co,Cd,Jl Je]at h3;have h4:=Yd xa (k+1);have h5:=YQ Je hl1' (by omega);rw[show k+2-1=k+1 from rfl]at h5;omega
 have Qa:(Jc B64 x)[k+1]?.getD 0<B64:=xa.getD (by unfold B64;omega) _;obtain⟨d,hde⟩:=ex ((Jc B64 x)[k+1]?.getD 0);rw[hde]at ka hd Qa;obtain⟨e1,e2,e3⟩:=bitLen_spec d hd (by rw[←Jau];exact Qa);have hL:Lib.bitLen d≤64:=by
  rcases AC 64 (Lib.bitLen d)with h|h
  · exfalso
    have h5:2^64≤2^(Lib.bitLen d-1):=Ar (by omega) (by omega);rw[Jau]at Qa;omega
  · exact h
 obtain⟨s,hs⟩:∃s,s=64-Lib.bitLen d:=⟨_,rfl⟩;obtain⟨v1,v2⟩:=Jkl (s:=s) xa hl1' hde e2 e3 e1 hL hs;rw[Jl Je]at v1 v2;have Qc:d<2^(64-s):=by rw[hs,show 64-(64-Lib.bitLen d)=Lib.bitLen d from by omega];exact e3
 have hS:0<B64^k*2^(64-s):=Nat.mul_pos (Fs (by unfold B64;omega)) (A9 _);have hH:Jbd x k s<B64:=by
  unfold Jbd;rw[AP hS];have hp:=Jbc (s:=s) (by omega);have e4:B64*(B64^k*2^(64-s))*2^s=B64^(k+2):=by
   rw[Au,Au,As (2^(64-s)),hp,AK,AK,As B64,Au]
  rw[←e4]at v1;exact Nat.lt_of_mul_lt_mul_right v1
 have HT:=fun(V:World) (h:Below w.heap.size w V)=>Jtw (some ⟨ab,ao,none⟩) la ca (Jc B64 x) k (k+1) la s V (Row.below ra h) xa hk (by omega) (by omega) (by omega) (Aa _) hk1 (fun _=>by rw[hde];exact Qc);have HU:=fun(V:World) (h:Below w.heap.size w V)=>Jtw b lb cb (Jc B64 y) k (k+1) la s V (Row.below rb h) (Jm Je y) hk (by omega) (by omega) (by omega) Qb hk1 (fun e=>by
  have hlt:=Yd (Jm Je y) (k+1);have h6:=Jn B64 (Jc B64 y) (k+1);rw[Ab (by omega),Jl Je]at h6;have h7:=Jn B64 (Jc B64 x) (k+1);rw[Ab (by omega),Jl Je,hde]at h7;have h8:=Yd xa (k+1);have h9:(Jc B64 y)[k+1]?.getD 0≤d:=by
   rcases AC d ((Jc B64 y)[k+1]?.getD 0)with h|h
   · exfalso
     have:=Ay (B64^(k+1)) (show d+1≤(Jc B64 y)[k+1]?.getD 0 from h);rw[Av,Fi]at this;omega
   · exact h
  omega)
 rw[Jl Je]at HT HU;refine Jov ab ao la (k+1) ca b lb cb x y d s (Jbd x k s) (Jbd y k s) w (by omega) hab ka Qa (by omega) (show _=_ by omega) hk1 (by omega) HT HU hH (Nat.div_le_div_right hyx) ?_;intro sg h l na nb xa xb hle h1 h2;refine hle.out (S:=B64^k*2^(64-s)) (al:=x%(B64^k*2^(64-s))) (be:=y%(B64^k*2^(64-s))) ?_ ?_ (A4 _ hS) (A4 _ hS) h1 h2
 · unfold Jbd;rw[As];exact(A8 x _).symm
 · unfold Jbd;rw[As];exact(A8 y _).symm
attribute [local go_sem] Oper.semAt_some
def Jfg(W:World)(p:Addr):Nat:=match W.cell? p with|some (.int _ z)=>z.toNat|_=>0
def rowVal(W:World):Value→Nat
 |.slice (some p) l _=>val B64 ((List.range l).map fun j=>Jfg W ⟨p.block,p.off+j,none⟩)
 |_=>0
theorem UN.rowVal{W:World}{a:Option Addr}{l c n:Nat}(h:UN W (.slice a l c) n):rowVal W (.slice a l c)=n:=by
 obtain⟨h1,_,_,_,h5⟩:=Jp h;rcases AQ l with h0|h0
 · subst h0;have hn:n=0:=(JC Je).1 (Ao h1.symm);subst hn;cases a<;>rfl
 · obtain⟨b,off,rfl,_,_⟩:=h5 0 h0;show val B64 ((List.range l).map fun j=>Jfg W ⟨b,off+j,none⟩)=n;have e:(List.range l).map (fun j=>Jfg W ⟨b,off+j,none⟩)=Jc B64 n:=by
    refine List.ext_getElem (by rw[Fp,List.length_range];exact h1) (fun j g1 g2=>?_);obtain⟨b',off',e,_,hc⟩:=h5 j (by omega);cases e;rw[List.getElem_map,List.getElem_range,Jfg,hc,Ae g2];rfl
   rw[e,Jl Je]
theorem Jud(a:Option Addr)(la ca:Nat)(b:Option Addr)(lb cb x y:Nat)(w:World)(ra:Row .u64 w (.slice a la ca) (Jc B64 x))(rb:Row .u64 w (.slice b lb cb) (Jc B64 y))(hla:la<1000000000000)(hlb:lb<1000000000000):
 Calls Tryz.prog 116 #[.slice a la ca,.slice b lb cb] w fun e w'=>∃u,e=.returned u∧UN w' u (Nat.gcd x y)∧Below w.heap.size w w':=by
 have hmx:Tryz.prog.follows .mixedOrders=true:=by kernel_rfl
 have HO:=Ja (Jgq _ _ (Jc B64 x) (Jc B64 y) w ra rb (Jm Je x) (Jm Je y) (Ya Je x) (Ya Je y));rw[Jl Je,Jl Je]at HO;obtain⟨cm,hcm⟩:=ex (YP x y:Int);rw[hcm]at HO;have Qf:=Ja hcm;have Qe:=Ja ra;have Qh:=Ja rb;clear hcm ra rb;go_enter Tryz.func116,Tryz.ntmps116
 go_upto_if 14 with(go_at_call 114;refine HO.o.mono ?_;rintro e w1 ⟨rfl,hb1⟩)
 go_cut [0,1] (fun rv bv wr=>∃(a0:Option Addr) (l0 c0 X:Nat) (a1:Option Addr) (l1 c1 Y:Nat),rv=.slice a0 l0 c0∧bv=.slice a1 l1 c1∧Hid (UN wr (.slice a0 l0 c0) X)∧Hid (UN wr (.slice a1 l1 c1) Y)∧Hid (Y≤X∧Nat.gcd X Y=Nat.gcd x y)∧l0<1000000000000∧Below w.heap.size w wr)
 case first=>
  by_cases Qw:cm<0
  · have Qy:x<y:=by
     have h:=Qf.o;unfold YP at h;split at h
     · assumption
     · split at h<;>omega
    go_wp2_with fail
    go_meet
    case rel=>exact⟨_,_,_,y,_,_,_,x,rfl,rfl,Ja (UN.below Qh.o hb1),Ja (UN.below Qe.o hb1),Ja ⟨by omega,C7 _ _⟩,hlb,hb1⟩
  · have Qy:¬(x<y):=fun h=>by
     have h1:=Qf.o;rw[Xm h]at h1;omega
    go_wp2_with fail
    go_meet
    case rel=>exact⟨_,_,_,x,_,_,_,y,rfl,rfl,Ja (UN.below Qe.o hb1),Ja (UN.below Qh.o hb1),Ja ⟨by omega,rfl⟩,hla,hb1⟩
 case rest=>
  obtain⟨a0,l0,c0,X,a1,l1,c1,Y,rfl,rfl,h1,h2,h3,h4,h5⟩:=hcut;clear HO Qf Qe Qh hb1;go_wp2_with fail
  go_loopw [0,1] (fun rv bv wr=>∃(a0:Option Addr) (l0 c0 X:Nat) (a1:Option Addr) (l1 c1 Y:Nat),rv=.slice a0 l0 c0∧bv=.slice a1 l1 c1∧Hid (UN wr (.slice a0 l0 c0) X)∧Hid (UN wr (.slice a1 l1 c1) Y)∧Hid (Y≤X∧Nat.gcd X Y=Nat.gcd x y)∧l0<1000000000000∧Below w.heap.size w wr)
   (fun rv bv wr=>rowVal wr rv+rowVal wr bv)
  case atStart=>exact⟨a0,l0,c0,X,a1,l1,c1,Y,rfl,rfl,h1,h2,h3,h4,h5⟩
  case round=>
   clear h1 h2 h3 h4 h5;obtain⟨a0,l0,c0,X,a1,l1,c1,Y,rfl,rfl,hX,hY,hG,hl0,hB⟩:=hrel;have hll:l1≤l0:=by rw[UN.len hX.o,UN.len hY.o];exact YT hG.o.1
   by_cases hlen:1<l1
   · have Qw:(1:Int)<(l1:Int):=by omega
     have Ql:Y≠0:=fun e=>by
      have h:=UN.len hY.o;rw[e,Jw]at h;simp at h;omega
     have Qs:=Ja (Jow a0 l0 c0 a1 l1 c1 X Y _ hX.o hY.o hG.o.1 (by omega));go_upto_region 5 with(go_at_call 149;refine Qs.o.mono ?_;rintro e w2 ⟨pa,pb,na,nb,rfl,⟨b1,b2,b3,b4⟩,hout,hb2⟩)
     obtain⟨W3,hW3⟩:=ex ((w2.alloc (.cells #[.int .u64 (pa:Nat),.int .u64 (pb:Nat)] 180)).alloc (.cells #[.int .u64 (na:Nat),.int .u64 (nb:Nat)] 180));have Qi:Below w.heap.size w w2:=hB.trans (hb2.mono hB.size);have Qa:Below wr.heap.size wr W3:=by rw[←hW3];exact(hb2.alloc hb2.size _).alloc (by have:=hb2.size;simp;omega) _
     have Qc:Below w.heap.size w W3:=hB.trans (Qa.mono hB.size);have m5:Jk W3 w2.heap.size 180 (.int .u64 (pa:Nat)) (.int .u64 (pb:Nat)):=by rw[←hW3];exact(Jk.new w2 _ _ _).alloc _
     have m6:Jk W3 (w2.heap.size+1) 180 (.int .u64 (na:Nat)) (.int .u64 (nb:Nat)):=by
      have h:=Jk.new (w2.alloc (.cells #[.int .u64 (pa:Nat),.int .u64 (pb:Nat)] 180)) 180 (.int .u64 (na:Nat)) (.int .u64 (nb:Nat));rw[World.size_alloc,hW3]at h;exact h
     have Qo:=UN.below hX.o Qa;have Qd:=UN.below hY.o Qa;rw[hW3];clear hW3 Qs hb2 Qi;have k0:=m5.c0;have k1:=m5.c1;have k2:=m6.c0;have k3:=m6.c1;by_cases hpb:pb=0
     · subst hpb;have Qm:=Ja (Jg1 a0 l0 c0 a1 l1 c1 X Y W3 Qo Qd Ql (by omega));clear hout;go_wp2_with(go_at_call 151;refine Qm.o.mono ?_;rintro e w4 ⟨u,v,rfl,hu,hv,hb4⟩;obtain⟨ua,uc,rfl⟩:=UN.form hu;obtain⟨va,vc,rfl⟩:=UN.form hv)
       have Qk:=A4 X (show Y>0 by omega);have Qu:=UN.below Qd hb4;refine⟨⟨a1,l1,c1,Y,va,_,vc,X%Y,rfl,rfl,Ja Qu,Ja hv,Ja ⟨by omega,by rw[←hG.o.2,C7 Y,←Nat.gcd_rec,C7]⟩,by omega,Qc.trans (hb4.mono Qc.size)⟩,?_⟩;rw[UN.rowVal Qu,UN.rowVal hv,UN.rowVal hX.o,UN.rowVal hY.o];have:=hG.o.1;omega
     · have hL:=hout.resolve_left hpb;have Qr:nb*Y≠0:=by
        have:=hL.2.2.2;exact Fq (by omega) Ql
       have Qt:=Ja (fun(V:World) (h:Below W3.heap.size W3 V)=>Jnh pa pb a0 l0 c0 a1 l1 c1 X Y V (UN.below Qo h) (UN.below Qd h) b1 b2 (by omega) (by omega) (Fq hpb Ql));have Qp:=Ja (fun(V:World) (h:Below W3.heap.size W3 V)=>Jnh na nb a0 l0 c0 a1 l1 c1 X Y V (UN.below Qo h) (UN.below Qd h) b3 b4 (by omega) (by omega) Qr);have Qb:=Ja (hL.less hpb (by omega));have Qj:=Ja hL.gcd;have Qg:=Ja hL.2.2.1;have Qn:=Ja (show YR (pa*X) (pb*Y)≤X by
        have e1:=hL.1;have e2:=Cu (YR (pa*X) (pb*Y)) hL.2.2.2;omega)
       clear hL hout Qr;generalize YR (pa*X) (pb*Y)=D1 at *;generalize YR (na*X) (nb*Y)=D2 at *;have hq:Below W3.heap.size W3 W3.drew:=(Below.refl _ W3).drew;go_upto_region 6 with fail
       go_region_held3 (fun w'=>w'.cell? ⟨w2.heap.size,0,none⟩=some (.int .u64 (pa:Nat))∧w'.cell? ⟨w2.heap.size,1,none⟩=some (.int .u64 (pb:Nat))∧w'.cell? ⟨w2.heap.size+1,0,none⟩=some (.int .u64 (na:Nat))∧w'.cell? ⟨w2.heap.size+1,1,none⟩=some (.int .u64 (nb:Nat))) (exact⟨k0,k1,k2,k3⟩)
        (first
         |(go_at_call 150;refine(Qt.o _ hq).mono ?_;clear Qt;rintro e w4 ⟨u4,rfl,hu4,hb4⟩;obtain⟨xa,xc,rfl⟩:=UN.form hu4;have hq:=hq.trans (hb4.mono hq.size);have k0:=(m5.below hq).c0;have k1:=(m5.below hq).c1;have k2:=(m6.below hq).c0;have k3:=(m6.below hq).c1)
         |(go_at_call 150;refine(Qp.o _ hq).mono ?_;clear Qp;rintro e w5 ⟨u5,rfl,hu5,hb5⟩;obtain⟨ya,yc,rfl⟩:=UN.form hu5;have hq:=hq.trans (hb5.mono hq.size);have k0:=(m5.below hq).c0;have k1:=(m5.below hq).c1;have k2:=(m6.below hq).c0;have k3:=(m6.below hq).c1))
       all_goals go_wp2_with fail
       have hu4':=UN.below hu4 hb5;refine⟨⟨xa,_,xc,D1,ya,_,yc,D2,rfl,rfl,Ja hu4',Ja hu5,Ja ⟨Ft Qg.o,Qj.o.trans hG.o.2⟩,?_,Qc.trans (hq.mono Qc.size)⟩,?_⟩
       · have h1:=YT Qn.o;rw[←UN.len hX.o]at h1;omega
       · rw[UN.rowVal hu4',UN.rowVal hu5,UN.rowVal hX.o,UN.rowVal hY.o];exact Qb.o
   · rcases AQ l1 with h0|h0
     · subst h0;have Qq:Y=0:=(JC Je).1 (Ao (UN.len hY.o).symm);have HC:=Ja (Jj4 a0 l0 c0 _ wr hX.o);have HE:=Ja (show X=Nat.gcd x y by rw[←hG.o.2,Qq,Nat.gcd_zero_right]);clear Qq;go_wp2_with(go_at_call 131;refine HC.o.mono ?_;rintro e w2 ⟨za,zc,rfl,hz,hb2⟩)
       go_ret;exact⟨_,rfl,by rw[←HE.o];exact hz,hB.trans (hb2.mono hB.size)⟩
     · obtain rfl:l1=1:=by omega
       obtain⟨hn1,hn2,hn3⟩:=Jbz (UN.len hY.o).symm;obtain⟨bb,bo,rfl,hbb,kb⟩:=(Jp hY.o).2.2.2.2 0 (by omega);rw[hn1]at kb;have Qv:wr.cell? ⟨bb,bo,none⟩=some (.int .u64 (Y:Nat)):=kb;have Qm:=Ja (Jg1 a0 l0 c0 (some ⟨bb,bo,none⟩) 1 c1 X Y wr hX.o hY.o (by omega) (by omega));have Qk:=A4 X (show Y>0 by omega);have HE:=Ja (show Nat.gcd Y (X%Y)=Nat.gcd x y by rw[←hG.o.2,C7 Y,←Nat.gcd_rec,C7]);have Qx:=Ja (show ∀(V:World) (v:Option Addr) (l c:Nat),UN V (.slice v l c) (X%Y)→Calls Tryz.prog 152 #[.slice (some ⟨V.heap.size,0,none⟩) 1 1,.slice v l c] (V.alloc (.cells #[.int .u64 (Y:Nat)] 163)) fun e w'=>∃u,e=.returned u∧UN w' u (Nat.gcd x y)∧Below (V.alloc (.cells #[.int .u64 (Y:Nat)] 163)).heap.size (V.alloc (.cells #[.int .u64 (Y:Nat)] 163)) w' from fun V v l c h=>by
        have h1:=(Arr.made (xs:=[Y]) (World.alloc_heap_new V (.cells #[.int .u64 (Y:Nat)] 163))).row 0 1 1 (by simp) (by omega) (by omega) (by omega);have h2:Row .u64 (V.alloc (.cells #[.int .u64 (Y:Nat)] 163)) (.slice (some ⟨V.heap.size,0,none⟩) 1 1) (Jc B64 Y):=by rw[hn1];exact h1
        have h3:=Jou (some ⟨V.heap.size,0,none⟩) 1 v l c Y (X%Y) _ h2 (UN.below h ((Below.refl _ V).alloc (Aa _) _)) (by omega);rw[HE.o]at h3;exact h3)
       clear kb hn1;go_upto_region 12 with(go_at_call 151;refine Qm.o.mono ?_;rintro e w2 ⟨u,v,rfl,hu,hv,hb2⟩;obtain⟨ua,uc,rfl⟩:=UN.form hu;obtain⟨va,vc,rfl⟩:=UN.form hv)
       have kb2:=(hb2.cell (p:=⟨bb,bo,none⟩) hbb).trans Qv;go_wp2_with(go_at_call 152;refine(Qx.o _ _ _ _ hv).mono ?_;rintro e w3 ⟨u3,rfl,hu3,Qa⟩;obtain⟨ta,tc,rfl⟩:=UN.form hu3)
       go_ret;have Qi:Below w.heap.size w w2:=hB.trans (hb2.mono hB.size);exact⟨_,rfl,hu3,Jko Qi Qa⟩
