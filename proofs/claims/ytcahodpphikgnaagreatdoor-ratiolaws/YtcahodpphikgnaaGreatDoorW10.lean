import Derived.Test.YtcahodpphikgnaaGreatDoorW09
set_option linter.all false
set_option maxRecDepth 99999
set_option maxHeartbeats 0
namespace Go.Proofs.YtcahodpphikgnaaGreatDoor
open Go.IntKind renaming u64->L2
open Go.RowKit Go.Shelf
theorem Bh:type_of% @Mul64.wrapN:=@Mul64.wrapN
def Be:=@Mul64.mulN
def BW:=@beq_eq_false_iff_ne
def BI:=@decide_eq_true
def BH:=@decide_eq_false
def BG:=@IntKind.wrap_u64
def FP{U d:Nat}(h:U/d≤4294967297):L2.wrap ((U:Int)/(d:Int))=((U/d:Nat):Int):=by
 rw[←Cq,Bh _ (by omega)]
def FQ{U p r:Nat}(h:p+r=U)(hU:U<18446744073709551616):L2.wrap ((U:Int)-L2.wrap ((p:Nat):Int))=(r:Int):=by
 rw[Bh _ (by omega),BG];omega
def Xw{q:Nat}(h:1≤q)(hq:q<18446744073709551616):L2.wrap ((q:Int)-1)=((q-1:Nat):Int):=by
 rw[BG];omega
def XO{r d:Nat}(h:r+d<18446744073709551616):L2.wrap ((r:Int)+d)=((r+d:Nat):Int):=by
 rw[BG];omega
def FR{U u p v:Nat}(h:p+v=U*4294967296+u)(hv:v<18446744073709551616):L2.wrap (L2.wrap (L2.wrap ((U:Int)*4294967296)+u)-L2.wrap ((p:Nat):Int))=(v:Int):=by
 simp only[BG];omega
def Hv(hi lo y s Y d1 d0 U L u1 u0:Nat)(hhi:hi<y)(hlo:lo<18446744073709551616)(hy:y<18446744073709551616)(w:World)(h0:hi≠0)(HS:Hid (L2.wrap (64-(Lib.bitLen y:Int))=(s:Int)))(hs:s≤63)
(HY:Hid (L2.wrap ((y:Int)*2^s)=(Y:Int)))(H1:Hid ((Y:Int)/4294967296=(d1:Int)))(H0:Hid (bits .and .u64 (Y:Int) 4294967295=(d0:Int)))
(HU:Hid (bits .or .u64 (L2.wrap ((hi:Int)*2^s)) ((lo:Int)/2^(64-s))=(U:Int)))(HL:Hid (L2.wrap ((lo:Int)*2^s)=(L:Int)))(HL1:Hid ((L:Int)/4294967296=(u1:Int)))(HL0:Hid (bits .and .u64 (L:Int) 4294967295=(u0:Int)))
(hd1:2147483648≤d1)(hd1':d1<4294967296)(Qb:d0<4294967296)(hu1:u1<4294967296)(hu0:u0<4294967296)(hU:U<d1*4294967296+d0)(HYd:Hid (Y=d1*4294967296+d0))(HYy:Hid (Y=y*2^s))(HN:Hid ((U*4294967296+u1)*4294967296+u0=(hi*O+lo)*2^s)):
 Calls Tryz.prog 109 #[.int .u64 (hi:Nat),.int .u64 (lo:Nat),.int .u64 (y:Nat)] w fun e w'=>e=.returned (.tuple #[.int .u64 (((hi*O+lo)/y:Nat):Int),.int .u64 (((hi*O+lo)%y:Nat):Int)])∧w'=w:=by
 have g1:((y:Int)==0)=false:=BW.2 (by omega);have g2:((hi:Int)==0)=false:=BW.2 (by omega);go_enter Tryz.func109,Tryz.ntmps109
 go_upto_region 8 with(first
  |(go_at_call 113;refine(Tryz.bits_LeadingZeros64 _ _ (by omega) (by omega)).mono ?_;rintro e w' ⟨rfl,rfl⟩))
 rw[HS.o];go_upto_region 9 with fail
 rw[HY.o];go_upto_region 10 with fail
 rw[H1.o];go_upto_region 11 with fail
 rw[H0.o];go_upto_region 15 with fail
 rw[HU.o,HL.o,HL1.o,HL0.o];have hG:=Ee hd1 hd1' Qb hu1 hU;have HD:=Hid.o (p:=Hid ((2147483648≤d1∧d1<4294967296)∧(d0<4294967296∧u1<4294967296∧u0<4294967296)∧U<d1*4294967296+d0)) ⟨⟨hd1,hd1'⟩,⟨Qb,hu1,hu0⟩,hU⟩;have HG:=Hid.o (p:=Hid _) hG;clear hG Qb hu1 hu0 hU hy h0 HS HY H1 H0 HU HL HL1 HL0 g1 g2;go_upto_block 0 with fail
 go_cut [15,16] (fun qv _ w1=>qv=.int .u64 ((U*4294967296+u1)/(d1*4294967296+d0):Nat)∧w1=w')
 case first=>
  go_wp2_with fail
  go_loop [15,16] (fun qv rv=>∃q r:Nat,qv=.int .u64 (q:Nat)∧rv=.int .u64 (r:Nat)∧Hid (XK U u1 d1 d0 q r)) (fun qv _=>(intOf qv).toNat)
  case atStart=>
   clear hd1 hd1';obtain⟨⟨hd1,hd1'⟩,⟨Qb,hu1,hu0⟩,hU⟩:=HD.o;have e1:=FP (U:=U) (d:=d1) HG.o.2.2.1;refine⟨U/d1,U%d1,by rw[e1],?_,HG⟩;rw[e1,Be];have h1:=HG.o.1;rw[FQ h1 (by omega)]
  case round=>
   obtain⟨q,r,rfl,rfl,HG⟩:=hrel;clear hd1 hd1' hhi hs;have HT:Hid ((4294967296≤q∨4294967296*r+u1<q*d0)→1≤q∧(q-1)*d1+(r+d1)=U∧(U*4294967296+u1)/(d1*4294967296+d0)≤q-1∧q-1≤4294967296):=fun hc=>Eg HG.o HD.o.1.1 HD.o.2.1.2.1 HD.o.2.2 hc;have HX:Hid (q*d0≤4294967296*r+u1→q=(U*4294967296+u1)/(d1*4294967296+d0)):=fun hc=>Ef HG.o (by have:=HD.o.1.1;omega) hc;by_cases hc:4294967296≤q
   · obtain⟨t1,t2,t3,t4⟩:=HT.o (AE hc);have Qi:decide ((4294967296:Int)≤q)=true:=BI (by omega);have E1:=Hid.o (p:=Hid (L2.wrap ((q:Int)-1)=((q-1:Nat):Int))) (Xw t1 (by omega));have E2:=Hid.o (p:=Hid (L2.wrap ((r:Int)+d1)=((r+d1:Nat):Int))) (XO (by have h1:=HG.o.2.2.2;have h2:=HD.o.1.2;omega));have TT:=Hid.o (p:=Hid ((q-1)*d1+(r+d1)=U∧(U*4294967296+u1)/(d1*4294967296+d0)≤q-1∧q-1≤4294967296)) ⟨t2,t3,t4⟩;have HQ:=Ja (show q-1<q by omega);clear hc t1 t2 t3 t4 HT HX;go_upto_region 19 with fail
     rw[E1.o];go_upto_region 20 with fail
     rw[E2.o];generalize q-1=q' at *;generalize r+d1=r' at *;by_cases hr:4294967296≤r'
     · have Qd:decide ((4294967296:Int)≤r')=true:=BI (by omega);have e:=YG TT.o.1 TT.o.2.1 TT.o.2.2 HD.o.2.1.1 (by have:=HD.o.1.1;omega) hr;have HE:=Hid.o (p:=Hid (q'=(U*4294967296+u1)/(d1*4294967296+d0))) e;clear hr e;go_wp2;go_meet
       case rel=>exact⟨by rw[←HE.o],J⟩
     · have Qd:decide ((4294967296:Int)≤r')=false:=BH (by omega);have HR:=Ja (show r'<4294967296 by omega);clear hr;go_wp2;go_round
       case rel=>exact⟨q',r',J,J,TT.o.1,TT.o.2.1,by have h9:=TT.o.2.2;omega,HR.o⟩
       case measure=>(simp[intOf];exact HQ.o)
   · have Qi:decide ((4294967296:Int)≤q)=false:=BH (by omega);have Qb:=HD.o.2.1.1;have Qe:=HG.o.2.2.2;have hm:q*d0<18446744073709551616:=by
      have h1:=Nat.mul_le_mul (show q≤4294967295 by omega) (show d0≤4294967295 by omega);omega
     have E3:L2.wrap ((q:Int)*d0)=((q*d0:Nat):Int):=by rw[Be,Bh _ hm]
     have E4:L2.wrap (4294967296*(r:Int))=((4294967296*r:Nat):Int):=by rw[BG];omega
     have E5:L2.wrap (((4294967296*r:Nat):Int)+u1)=((4294967296*r+u1:Nat):Int):=by rw[BG];have:=HD.o.2.1.2.1;omega
     by_cases hc2:4294967296*r+u1<q*d0
     · obtain⟨t1,t2,t3,t4⟩:=HT.o (A6 hc2);have Qa:=hc2;have E1:=Hid.o (p:=Hid (L2.wrap ((q:Int)-1)=((q-1:Nat):Int))) (Xw t1 (by omega));have E2:=Hid.o (p:=Hid (L2.wrap ((r:Int)+d1)=((r+d1:Nat):Int))) (XO (by have h1:=HG.o.2.2.2;have h2:=HD.o.1.2;omega));have TT:=Hid.o (p:=Hid ((q-1)*d1+(r+d1)=U∧(U*4294967296+u1)/(d1*4294967296+d0)≤q-1∧q-1≤4294967296)) ⟨t2,t3,t4⟩;have HQ:=Ja (show q-1<q by omega);clear hc hc2 t1 t2 t3 t4 HT HX hm Qb Qe;generalize q*d0=m at E3 Qa;generalize 4294967296*r+u1=t at E5 Qa;generalize 4294967296*r=rr at E4 E5;go_upto_region 19 with fail
       rw[E1.o];go_upto_region 20 with fail
       rw[E2.o];generalize q-1=q' at *;generalize r+d1=r' at *;by_cases hr:4294967296≤r'
       · have Qd:decide ((4294967296:Int)≤r')=true:=BI (by omega);have e:=YG TT.o.1 TT.o.2.1 TT.o.2.2 HD.o.2.1.1 (by have:=HD.o.1.1;omega) hr;have HE:=Hid.o (p:=Hid (q'=(U*4294967296+u1)/(d1*4294967296+d0))) e;clear hr e;go_wp2;go_meet
         case rel=>exact⟨by rw[←HE.o],J⟩
       · have Qd:decide ((4294967296:Int)≤r')=false:=BH (by omega);have HR:=Ja (show r'<4294967296 by omega);clear hr;go_wp2;go_round
         case rel=>exact⟨q',r',J,J,TT.o.1,TT.o.2.1,by have h9:=TT.o.2.2;omega,HR.o⟩
         case measure=>(simp[intOf];exact HQ.o)
     · have HE:=Hid.o (p:=Hid (q=(U*4294967296+u1)/(d1*4294967296+d0))) (HX.o (by omega));have Qa:=hc2;clear hc hc2 HT HX hm Qb Qe;generalize q*d0=m at E3 Qa;generalize 4294967296*r+u1=t at E5 Qa;generalize 4294967296*r=rr at E4 E5;go_wp2;go_meet
       case rel=>exact⟨by rw[←HE.o],J⟩
 case rest=>
  obtain⟨rfl,rfl⟩:=hcut;obtain⟨V,hV⟩:∃V,V=(U*4294967296+u1)%(d1*4294967296+d0):=⟨_,J⟩;have Qk:=Ja hV;have Qc:Hid (V<d1*4294967296+d0):=by
   show V < _;rw[hV];exact AH _ (by omega)
  clear hV;obtain⟨Q1,hQ⟩:∃Q1,Q1=(U*4294967296+u1)/(d1*4294967296+d0):=⟨_,J⟩;rw[←hQ];have HQ:=Ja hQ;have EV:Hid (L2.wrap (L2.wrap (L2.wrap ((U:Int)*4294967296)+u1)-L2.wrap ((Q1:Int)*Y))=(V:Int)):=by
   show _=_;rw[Be];refine FR ?_ (by have h1:=Qc.o;have h2:=HD.o.1.2;have h3:=HD.o.2.1.1;omega);rw[hQ,Qk.o,HYd.o,Ax];exact AB _ _
  have Qf:=Ja (Ee hd1 hd1' HD.o.2.1.1 HD.o.2.1.2.2 Qc.o);clear hQ;go_upto_region 22 with fail
  rw[EV.o];go_upto_block 2 with fail
  go_cut [18,16] (fun qv _ w1=>qv=.int .u64 ((V*4294967296+u0)/(d1*4294967296+d0):Nat)∧w1=wc)
  case first=>
   go_wp2_with fail
   go_loop [18,16] (fun qv rv=>∃q r:Nat,qv=.int .u64 (q:Nat)∧rv=.int .u64 (r:Nat)∧Hid (XK V u0 d1 d0 q r)) (fun qv _=>(intOf qv).toNat)
   case atStart=>
    have e1:=FP (U:=V) (d:=d1) Qf.o.2.2.1;refine⟨V/d1,V%d1,by rw[e1],?_,Qf⟩;rw[e1,Be];have h1:=Qf.o.1;rw[FQ h1 (by have h1:=Qc.o;have h2:=HD.o.1.2;have h3:=HD.o.2.1.1;omega)]
   case round=>
    obtain⟨q,r,rfl,rfl,HG⟩:=hrel;clear hd1 hd1' hhi hs;have HT:Hid ((4294967296≤q∨4294967296*r+u0<q*d0)→1≤q∧(q-1)*d1+(r+d1)=V∧(V*4294967296+u0)/(d1*4294967296+d0)≤q-1∧q-1≤4294967296):=fun hc=>Eg HG.o HD.o.1.1 HD.o.2.1.2.2 Qc.o hc;have HX:Hid (q*d0≤4294967296*r+u0→q=(V*4294967296+u0)/(d1*4294967296+d0)):=fun hc=>Ef HG.o (by have:=HD.o.1.1;omega) hc;by_cases hc:4294967296≤q
    · obtain⟨t1,t2,t3,t4⟩:=HT.o (AE hc);have Qi:decide ((4294967296:Int)≤q)=true:=BI (by omega);have E1:=Hid.o (p:=Hid (L2.wrap ((q:Int)-1)=((q-1:Nat):Int))) (Xw t1 (by omega));have E2:=Hid.o (p:=Hid (L2.wrap ((r:Int)+d1)=((r+d1:Nat):Int))) (XO (by have h1:=HG.o.2.2.2;have h2:=HD.o.1.2;omega));have TT:=Hid.o (p:=Hid ((q-1)*d1+(r+d1)=V∧(V*4294967296+u0)/(d1*4294967296+d0)≤q-1∧q-1≤4294967296)) ⟨t2,t3,t4⟩;have HQ:=Ja (show q-1<q by omega);clear hc t1 t2 t3 t4 HT HX;go_upto_region 26 with fail
      rw[E1.o];go_upto_region 27 with fail
      rw[E2.o];generalize q-1=q' at *;generalize r+d1=r' at *;by_cases hr:4294967296≤r'
      · have Qd:decide ((4294967296:Int)≤r')=true:=BI (by omega);have e:=YG TT.o.1 TT.o.2.1 TT.o.2.2 HD.o.2.1.1 (by have:=HD.o.1.1;omega) hr;have HE:=Hid.o (p:=Hid (q'=(V*4294967296+u0)/(d1*4294967296+d0))) e;clear hr e;go_wp2;go_meet
        case rel=>exact⟨by rw[←HE.o],J⟩
      · have Qd:decide ((4294967296:Int)≤r')=false:=BH (by omega);have HR:=Ja (show r'<4294967296 by omega);clear hr;go_wp2;go_round
        case rel=>exact⟨q',r',J,J,TT.o.1,TT.o.2.1,by have h9:=TT.o.2.2;omega,HR.o⟩
        case measure=>(simp[intOf];exact HQ.o)
    · have Qi:decide ((4294967296:Int)≤q)=false:=BH (by omega);have Qb:=HD.o.2.1.1;have Qe:=HG.o.2.2.2;have hm:q*d0<18446744073709551616:=by
       have h1:=Nat.mul_le_mul (show q≤4294967295 by omega) (show d0≤4294967295 by omega);omega
      have E3:L2.wrap ((q:Int)*d0)=((q*d0:Nat):Int):=by rw[Be,Bh _ hm]
      have E4:L2.wrap (4294967296*(r:Int))=((4294967296*r:Nat):Int):=by rw[BG];omega
      have E5:L2.wrap (((4294967296*r:Nat):Int)+u0)=((4294967296*r+u0:Nat):Int):=by rw[BG];have:=HD.o.2.1.2.2;omega
      by_cases hc2:4294967296*r+u0<q*d0
      · obtain⟨t1,t2,t3,t4⟩:=HT.o (A6 hc2);have Qa:=hc2;have E1:=Hid.o (p:=Hid (L2.wrap ((q:Int)-1)=((q-1:Nat):Int))) (Xw t1 (by omega));have E2:=Hid.o (p:=Hid (L2.wrap ((r:Int)+d1)=((r+d1:Nat):Int))) (XO (by have h1:=HG.o.2.2.2;have h2:=HD.o.1.2;omega));have TT:=Hid.o (p:=Hid ((q-1)*d1+(r+d1)=V∧(V*4294967296+u0)/(d1*4294967296+d0)≤q-1∧q-1≤4294967296)) ⟨t2,t3,t4⟩;have HQ:=Ja (show q-1<q by omega);clear hc hc2 t1 t2 t3 t4 HT HX hm Qb Qe;generalize q*d0=m at E3 Qa;generalize 4294967296*r+u0=t at E5 Qa;generalize 4294967296*r=rr at E4 E5;go_upto_region 26 with fail
        rw[E1.o];go_upto_region 27 with fail
        rw[E2.o];generalize q-1=q' at *;generalize r+d1=r' at *;by_cases hr:4294967296≤r'
        · have Qd:decide ((4294967296:Int)≤r')=true:=BI (by omega);have e:=YG TT.o.1 TT.o.2.1 TT.o.2.2 HD.o.2.1.1 (by have:=HD.o.1.1;omega) hr;have HE:=Hid.o (p:=Hid (q'=(V*4294967296+u0)/(d1*4294967296+d0))) e;clear hr e;go_wp2;go_meet
          case rel=>exact⟨by rw[←HE.o],J⟩
        · have Qd:decide ((4294967296:Int)≤r')=false:=BH (by omega);have HR:=Ja (show r'<4294967296 by omega);clear hr;go_wp2;go_round
          case rel=>exact⟨q',r',J,J,TT.o.1,TT.o.2.1,by have h9:=TT.o.2.2;omega,HR.o⟩
          case measure=>(simp[intOf];exact HQ.o)
      · have HE:=Hid.o (p:=Hid (q=(V*4294967296+u0)/(d1*4294967296+d0))) (HX.o (by omega));have Qa:=hc2;clear hc hc2 HT HX hm Qb Qe;generalize q*d0=m at E3 Qa;generalize 4294967296*r+u0=t at E5 Qa;generalize 4294967296*r=rr at E4 E5;go_wp2;go_meet
        case rel=>exact⟨by rw[←HE.o],J⟩
  case rest=>
   obtain⟨rfl,rfl⟩:=hcut;obtain⟨Q0,hQ0⟩:∃Q0,Q0=(V*4294967296+u0)/(d1*4294967296+d0):=⟨_,J⟩;rw[←hQ0];have Qg:0<d1*4294967296+d0:=by omega
   have hN:=HN.o;have hh:=GZ (t:=U*4294967296+u1) (k:=4294967296) (un0:=u0) Qg;rw[←HQ.o,←Qk.o,←hQ0,hN,←HYd.o,HYy.o]at hh;have Qh:=Ga (a:=hi*O+lo) (y:=y) (s:=s);rw[Qh.1,Qh.2,←HYy.o,HYd.o]at hh;have Qj:(hi*O+lo)/y<18446744073709551616:=by
    rw[Al (by omega)];have h1:(hi+1)*O≤y*O:=Ad _ hhi;have h2:=hlo;unfold O at h1 ⊢;omega
   have E6:L2.wrap (L2.wrap (L2.wrap ((V:Int)*4294967296)+u0)-L2.wrap ((Q0:Int)*Y))=(((hi*O+lo)%y*2^s:Nat):Int):=by
    rw[Be];refine FR ?_ ?_
    · rw[←hh.2,hQ0,HYd.o,Ax];exact AB _ _
    · rw[←hh.2];have h1:=AH (V*4294967296+u0) Qg;have h3:=HD.o.2.1.1;omega
   have E7:L2.wrap (L2.wrap ((Q1:Int)*4294967296)+Q0)=(((hi*O+lo)/y:Nat):Int):=by
    rw[←hh.1];rw[←hh.1]at Qj;simp only[BG];omega
   have E8:((((hi*O+lo)%y*2^s:Nat):Int)/2^s)=(((hi*O+lo)%y:Nat):Int):=by
    rw[show((2:Int)^s)=((2^s:Nat):Int)from by simp,←Cq,Nat.mul_div_cancel _ (Au s)]
   clear hh Qh hN hQ0 Qg Qj EV Qf hd1 hd1' hhi hlo;obtain⟨A,hA⟩:∃A,A=(hi*O+lo)/y:=⟨_,J⟩;obtain⟨Bm,hBm⟩:∃Bm,Bm=(hi*O+lo)%y:=⟨_,J⟩;rw[←hA]at E7;rw[←hBm]at E6 E8;have HA:=Ja hA;have Ql:=Ja hBm;clear hA hBm;generalize Bm*2^s=C at E6 E8;go_wp2;go_ret2
   refine⟨?_,J⟩;show Ending.returned (.tuple #[.int .u64 (A:Nat),.int .u64 (Bm:Nat)])=_;rw[HA.o,Ql.o]
def Hw{a b s:Nat}(h:b<2^s):(a*2^s) ||| b=a*2^s+b:=by
 grind[Ax,Ck]
def Hx(lo y:Nat)(hlo:lo<18446744073709551616)(h0:0<y)(hy:y<18446744073709551616)(w:World):
 Calls Tryz.prog 109 #[.int .u64 0,.int .u64 (lo:Nat),.int .u64 (y:Nat)] w fun e w'=>e=.returned (.tuple #[.int .u64 ((lo/y:Nat):Int),.int .u64 ((lo%y:Nat):Int)])∧Bl w w':=by
 have g1:((y:Int)==0)=false:=BW.2 (by omega);have g3:¬(y:Int)≤0:=by omega
 clear h0;go_enter Tryz.func109,Tryz.ntmps109
 go_wp2;go_quiet (fail)
 go_wp2;go_ret2
 refine⟨?_,below_drewN (BC _ _) _⟩;show Ending.returned (.tuple #[.int .u64 (L2.wrap ((lo:Int)/y)),.int .u64 ((lo:Int)%y)])=_;rw[←Cq,Bh _ (Nat.lt_of_le_of_lt (Co _ _) hlo),←Int.natCast_emod]
