import Derived.Test.YteldjhhjnchdeaaGreatDoorU10
import Derived.Laws.BitsAllLaws
import Derived.Deep.DeepCutAuto
import Derived.Deep.CutBlock
open Go.RowKit renaming Hid->B
open Go.IntKind renaming u64->D
set_option maxRecDepth 100000
set_option maxHeartbeats 16000000
namespace Go.Proofs.YteldjhhjnchdeaaGreatDoor
open Go.RowKit Go.Shelf
theorem DM:type_of% @Mul64.wrapN:=@Mul64.wrapN
theorem DB:type_of% @Mul64.mulN:=@Mul64.mulN
theorem BX:type_of% @IntKind.wrap_u64:=@IntKind.wrap_u64
theorem BI:type_of% @decide_eq_false:=@decide_eq_false
theorem BH:type_of% @beq_eq_false_iff_ne:=@beq_eq_false_iff_ne
variable{U d p r:Nat}
theorem Pk(h:U/d<=4294967297):IntKind.u64.wrap ((U:Int)/(d:Int))=((U/d:Nat):Int):=by
 rw[<-Fp,DM _ J]
theorem Pl(h:p+r=U)(a:U<18446744073709551616):IntKind.u64.wrap ((U:Int)-IntKind.u64.wrap ((p:Nat):Int))=(r:Int):=by
 rw[DM _ J,BX];omega
theorem Ls{q:Nat}(h:1<=q)(hq:q<18446744073709551616):IntKind.u64.wrap ((q:Int)-1)=((q-1:Nat):Int):=by
 rw[BX];omega
theorem Lt(h:r+d<18446744073709551616):IntKind.u64.wrap ((r:Int)+d)=((r+d:Nat):Int):=by
 rw[BX];omega
theorem Pm{u v:Nat}(h:p+v=U*4294967296+u)(a:v<18446744073709551616):IntKind.u64.wrap (IntKind.u64.wrap (IntKind.u64.wrap ((U:Int)*4294967296)+u)-IntKind.u64.wrap ((p:Nat):Int))=(v:Int):=by
 simp only[BX];omega
theorem VT(j lo y s ad d1 d0 U L u1 u0:Nat)(ah:j<y)(aq:lo<18446744073709551616)(hy:y<18446744073709551616)(w:World)(h0:j≠0)(HS:B (IntKind.u64.wrap (64-(Lib.bitLen y:Int))=(s:Int)))(hs:s<=63)
(HY:B (IntKind.u64.wrap ((y:Int)*2^s)=(ad:Int)))(H1:B ((ad:Int)/4294967296=(d1:Int)))(H0:B (bits .and D (ad:Int) 4294967295=(d0:Int)))
(HU:B (bits .or D (IntKind.u64.wrap ((j:Int)*2^s)) ((lo:Int)/2^(64-s))=(U:Int)))(HL:B (IntKind.u64.wrap ((lo:Int)*2^s)=(L:Int)))(an:B ((L:Int)/4294967296=(u1:Int)))(am:B (bits .and D (L:Int) 4294967295=(u0:Int)))
(Q:2147483648<=d1)(R:d1<4294967296)(K:d0<4294967296)(ai:u1<4294967296)(ak:u0<4294967296)(hU:U<d1*4294967296+d0)(ae:B (ad=d1*4294967296+d0))(ap:B (ad=y*2^s))(HN:B ((U*4294967296+u1)*4294967296+u0=(j*Z+lo)*2^s)):
 Calls Tryz.prog 175 #[.int D (j:Nat),.int D (lo:Nat),.int D (y:Nat)] w λe w'=>e=.returned (.tuple #[.int D (((j*Z+lo)/y:Nat):Int),.int D (((j*Z+lo)%y:Nat):Int)])/\w'=w:=by
 have g1:((y:Int)==0)=false:=BH.2 J;have g2:((j:Int)==0)=false:=BH.2 J;go_enter Tryz.func175,Tryz.ntmps175
 go_upto_region 8 with(first
  |(go_at_call 166;refine(Tryz.bits_LeadingZeros64 _ _ J J).mono ?_;rintro e w' ⟨rfl,rfl⟩))
 rw[HS.o];go_upto_region 9 with fail
 rw[HY.o];go_upto_region 10 with fail
 rw[H1.o];go_upto_region 11 with fail
 rw[H0.o];go_upto_region 15 with fail
 rw[HU.o,HL.o,an.o,am.o];have hG:=PA Q R K ai hU;have b:=Hid.o (p:=B ((2147483648<=d1/\d1<4294967296)/\(d0<4294967296/\u1<4294967296/\u0<4294967296)/\U<d1*4294967296+d0)) ⟨⟨Q,R⟩,⟨K,ai,ak⟩,hU⟩;have g:=Hid.o (p:=B _) hG;clear hG K ai ak hU hy h0 HS HY H1 H0 HU HL an am g1 g2;go_upto_block 0 with fail
 go_cut [15,16] λE _ w1=>E=.int D ((U*4294967296+u1)/(d1*4294967296+d0):Nat)/\w1=w'
 case first=>
  go_wp2_with fail
  go_loop [15,16] (λE rv=>∃q r:Nat,E=.int D (q:Nat)/\rv=.int D (r:Nat)/\B (Kk U u1 d1 d0 q r)) λE _=>(intOf E).toNat
  case atStart=>
   clear Q R;obtain⟨⟨Q,R⟩,⟨K,ai,ak⟩,hU⟩:=b.o;have e1:=Pk (U:=U) (d:=d1) g.o.2.2.1;refine⟨U/d1,U%d1,by rw[e1],?_,g⟩;rw[e1,DB];have o:=g.o.1;rw[Pl o J]
  case round=>
   obtain⟨q,r,rfl,rfl,g⟩:=hrel;clear Q R ah hs;have v:B ((4294967296<=q\/4294967296*r+u1<q*d0)->1<=q/\(q-1)*d1+(r+d1)=U/\(U*4294967296+u1)/(d1*4294967296+d0)<=q-1/\q-1<=4294967296):=λi=>PC g.o b.o.1.1 b.o.2.1.2.1 b.o.2.2 i;have P:B (q*d0<=4294967296*r+u1->q=(U*4294967296+u1)/(d1*4294967296+d0)):=λi=>PB g.o (by have:=b.o.1.1;omega) i;by_cases i:4294967296<=q
   . obtain⟨F,G,H,I⟩:=v.o (Or.inl i);have Qi:decide ((4294967296:Int)<=q)=true:=decide_eq_true J;have S:=Hid.o (p:=B (IntKind.u64.wrap ((q:Int)-1)=((q-1:Nat):Int))) (Ls F (by have h9:q<=4294967297:=g.o.2.2.1;omega));have T:=Hid.o (p:=B (IntKind.u64.wrap ((r:Int)+d1)=((r+d1:Nat):Int))) (Lt (by have o:=g.o.2.2.2;have h2:=b.o.1.2;omega));have c:=Hid.o (p:=B ((q-1)*d1+(r+d1)=U/\(U*4294967296+u1)/(d1*4294967296+d0)<=q-1/\q-1<=4294967296)) ⟨G,H,I⟩;have N:=O (show q-1<q by omega);clear i F G H I v P;go_upto_region 19 with fail
     rw[S.o];go_upto_region 20 with fail
     rw[T.o];generalize q-1=n at *;generalize r+d1=f at *;by_cases l:4294967296<=f
     . have X:decide ((4294967296:Int)<=f)=true:=decide_eq_true J;have e:=LW c.o.1 c.o.2.1 c.o.2.2 b.o.2.1.1 (by have:=b.o.1.1;omega) l;have u:=Hid.o (p:=B (n=(U*4294967296+u1)/(d1*4294967296+d0))) e;clear l e;go_wp2;go_meet
       case rel=>exact⟨by rw[<-u.o],rfl⟩
     . have X:decide ((4294967296:Int)<=f)=false:=BI J;have W:=O (show f<4294967296 by omega);clear l;go_wp2;go_round
       case rel=>exact⟨n,f,rfl,rfl,c.o.1,c.o.2.1,by have h9:n<=4294967296:=c.o.2.2;omega,W.o⟩
       case measure=>(simp[intOf];exact N.o)
   . have Qi:decide ((4294967296:Int)<=q)=false:=BI J;have K:=b.o.2.1.1;have Qe:=g.o.2.2.2;have hm:q*d0<18446744073709551616:=by
      have o:=CC (show q<=4294967295 by omega) (show d0<=4294967295 by omega);omega
     have E3:IntKind.u64.wrap ((q:Int)*d0)=((q*d0:Nat):Int):=by rw[DB,DM _ hm]
     have E4:IntKind.u64.wrap (4294967296*(r:Int))=((4294967296*r:Nat):Int):=by rw[BX];omega
     have M:IntKind.u64.wrap (((4294967296*r:Nat):Int)+u1)=((4294967296*r+u1:Nat):Int):=by rw[BX];have:=b.o.2.1.2.1;omega
     by_cases z:4294967296*r+u1<q*d0
     . obtain⟨F,G,H,I⟩:=v.o (Or.inr z);have x:4294967296*r+u1<q*d0:=z;have S:=Hid.o (p:=B (IntKind.u64.wrap ((q:Int)-1)=((q-1:Nat):Int))) (Ls F (by have h9:q<=4294967297:=g.o.2.2.1;omega));have T:=Hid.o (p:=B (IntKind.u64.wrap ((r:Int)+d1)=((r+d1:Nat):Int))) (Lt (by have o:=g.o.2.2.2;have h2:=b.o.1.2;omega));have c:=Hid.o (p:=B ((q-1)*d1+(r+d1)=U/\(U*4294967296+u1)/(d1*4294967296+d0)<=q-1/\q-1<=4294967296)) ⟨G,H,I⟩;have N:=O (show q-1<q by omega);clear i z F G H I v P hm K Qe;generalize q*d0=m at E3 x;generalize 4294967296*r+u1=t at M x;generalize 4294967296*r=rr at E4 M;go_upto_region 19 with fail
       rw[S.o];go_upto_region 20 with fail
       rw[T.o];generalize q-1=n at *;generalize r+d1=f at *;by_cases l:4294967296<=f
       . have X:decide ((4294967296:Int)<=f)=true:=decide_eq_true J;have e:=LW c.o.1 c.o.2.1 c.o.2.2 b.o.2.1.1 (by have:=b.o.1.1;omega) l;have u:=Hid.o (p:=B (n=(U*4294967296+u1)/(d1*4294967296+d0))) e;clear l e;go_wp2;go_meet
         case rel=>exact⟨by rw[<-u.o],rfl⟩
       . have X:decide ((4294967296:Int)<=f)=false:=BI J;have W:=O (show f<4294967296 by omega);clear l;go_wp2;go_round
         case rel=>exact⟨n,f,rfl,rfl,c.o.1,c.o.2.1,by have h9:n<=4294967296:=c.o.2.2;omega,W.o⟩
         case measure=>(simp[intOf];exact N.o)
     . have u:=Hid.o (p:=B (q=(U*4294967296+u1)/(d1*4294967296+d0))) (P.o J);have x:¬4294967296*r+u1<q*d0:=z;clear i z v P hm K Qe;generalize q*d0=m at E3 x;generalize 4294967296*r+u1=t at M x;generalize 4294967296*r=rr at E4 M;go_wp2;go_meet
       case rel=>exact⟨by rw[<-u.o],rfl⟩
 case rest=>
  obtain⟨rfl,rfl⟩:=hcut;obtain⟨V,hV⟩:∃V,V=(U*4294967296+u1)%(d1*4294967296+d0):=⟨_,rfl⟩;have Qk:=O hV;have Qc:B (V<d1*4294967296+d0):=by
   show V < _;rw[hV];exact A7 _ J
  clear hV;obtain⟨Q1,hQ⟩:∃Q1,Q1=(U*4294967296+u1)/(d1*4294967296+d0):=⟨_,rfl⟩;rw[<-hQ];have N:=O hQ;have EV:B (IntKind.u64.wrap (IntKind.u64.wrap (IntKind.u64.wrap ((U:Int)*4294967296)+u1)-IntKind.u64.wrap ((Q1:Int)*ad))=(V:Int)):=by
   show _=_;rw[DB];refine Pm ?_ (by have o:=Qc.o;have h2:=b.o.1.2;have h3:=b.o.2.1.1;omega);rw[hQ,Qk.o,ae.o,As];exact Cb _ _
  have Qf:=O (PA Q R b.o.2.1.1 b.o.2.1.2.2 Qc.o);clear hQ;go_upto_region 22 with fail
  rw[EV.o];go_upto_block 2 with fail
  go_cut [18,16] λE _ w1=>E=.int D ((V*4294967296+u0)/(d1*4294967296+d0):Nat)/\w1=wc
  case first=>
   go_wp2_with fail
   go_loop [18,16] (λE rv=>∃q r:Nat,E=.int D (q:Nat)/\rv=.int D (r:Nat)/\B (Kk V u0 d1 d0 q r)) λE _=>(intOf E).toNat
   case atStart=>
    have e1:=Pk (U:=V) (d:=d1) Qf.o.2.2.1;refine⟨V/d1,V%d1,by rw[e1],?_,Qf⟩;rw[e1,DB];have o:=Qf.o.1;rw[Pl o (by have o:=Qc.o;have h2:=b.o.1.2;have h3:=b.o.2.1.1;omega)]
   case round=>
    obtain⟨q,r,rfl,rfl,g⟩:=hrel;clear Q R ah hs;have v:B ((4294967296<=q\/4294967296*r+u0<q*d0)->1<=q/\(q-1)*d1+(r+d1)=V/\(V*4294967296+u0)/(d1*4294967296+d0)<=q-1/\q-1<=4294967296):=λi=>PC g.o b.o.1.1 b.o.2.1.2.2 Qc.o i;have P:B (q*d0<=4294967296*r+u0->q=(V*4294967296+u0)/(d1*4294967296+d0)):=λi=>PB g.o (by have:=b.o.1.1;omega) i;by_cases i:4294967296<=q
    . obtain⟨F,G,H,I⟩:=v.o (Or.inl i);have Qi:decide ((4294967296:Int)<=q)=true:=decide_eq_true J;have S:=Hid.o (p:=B (IntKind.u64.wrap ((q:Int)-1)=((q-1:Nat):Int))) (Ls F (by have h9:q<=4294967297:=g.o.2.2.1;omega));have T:=Hid.o (p:=B (IntKind.u64.wrap ((r:Int)+d1)=((r+d1:Nat):Int))) (Lt (by have o:=g.o.2.2.2;have h2:=b.o.1.2;omega));have c:=Hid.o (p:=B ((q-1)*d1+(r+d1)=V/\(V*4294967296+u0)/(d1*4294967296+d0)<=q-1/\q-1<=4294967296)) ⟨G,H,I⟩;have N:=O (show q-1<q by omega);clear i F G H I v P;go_upto_region 26 with fail
      rw[S.o];go_upto_region 27 with fail
      rw[T.o];generalize q-1=n at *;generalize r+d1=f at *;by_cases l:4294967296<=f
      . have X:decide ((4294967296:Int)<=f)=true:=decide_eq_true J;have e:=LW c.o.1 c.o.2.1 c.o.2.2 b.o.2.1.1 (by have:=b.o.1.1;omega) l;have u:=Hid.o (p:=B (n=(V*4294967296+u0)/(d1*4294967296+d0))) e;clear l e;go_wp2;go_meet
        case rel=>exact⟨by rw[<-u.o],rfl⟩
      . have X:decide ((4294967296:Int)<=f)=false:=BI J;have W:=O (show f<4294967296 by omega);clear l;go_wp2;go_round
        case rel=>exact⟨n,f,rfl,rfl,c.o.1,c.o.2.1,by have h9:n<=4294967296:=c.o.2.2;omega,W.o⟩
        case measure=>(simp[intOf];exact N.o)
    . have Qi:decide ((4294967296:Int)<=q)=false:=BI J;have K:=b.o.2.1.1;have Qe:=g.o.2.2.2;have hm:q*d0<18446744073709551616:=by
       have o:=CC (show q<=4294967295 by omega) (show d0<=4294967295 by omega);omega
      have E3:IntKind.u64.wrap ((q:Int)*d0)=((q*d0:Nat):Int):=by rw[DB,DM _ hm]
      have E4:IntKind.u64.wrap (4294967296*(r:Int))=((4294967296*r:Nat):Int):=by rw[BX];omega
      have M:IntKind.u64.wrap (((4294967296*r:Nat):Int)+u0)=((4294967296*r+u0:Nat):Int):=by rw[BX];have:=b.o.2.1.2.2;omega
      by_cases z:4294967296*r+u0<q*d0
      . obtain⟨F,G,H,I⟩:=v.o (Or.inr z);have x:4294967296*r+u0<q*d0:=z;have S:=Hid.o (p:=B (IntKind.u64.wrap ((q:Int)-1)=((q-1:Nat):Int))) (Ls F (by have h9:q<=4294967297:=g.o.2.2.1;omega));have T:=Hid.o (p:=B (IntKind.u64.wrap ((r:Int)+d1)=((r+d1:Nat):Int))) (Lt (by have o:=g.o.2.2.2;have h2:=b.o.1.2;omega));have c:=Hid.o (p:=B ((q-1)*d1+(r+d1)=V/\(V*4294967296+u0)/(d1*4294967296+d0)<=q-1/\q-1<=4294967296)) ⟨G,H,I⟩;have N:=O (show q-1<q by omega);clear i z F G H I v P hm K Qe;generalize q*d0=m at E3 x;generalize 4294967296*r+u0=t at M x;generalize 4294967296*r=rr at E4 M;go_upto_region 26 with fail
        rw[S.o];go_upto_region 27 with fail
        rw[T.o];generalize q-1=n at *;generalize r+d1=f at *;by_cases l:4294967296<=f
        . have X:decide ((4294967296:Int)<=f)=true:=decide_eq_true J;have e:=LW c.o.1 c.o.2.1 c.o.2.2 b.o.2.1.1 (by have:=b.o.1.1;omega) l;have u:=Hid.o (p:=B (n=(V*4294967296+u0)/(d1*4294967296+d0))) e;clear l e;go_wp2;go_meet
          case rel=>exact⟨by rw[<-u.o],rfl⟩
        . have X:decide ((4294967296:Int)<=f)=false:=BI J;have W:=O (show f<4294967296 by omega);clear l;go_wp2;go_round
          case rel=>exact⟨n,f,rfl,rfl,c.o.1,c.o.2.1,by have h9:n<=4294967296:=c.o.2.2;omega,W.o⟩
          case measure=>(simp[intOf];exact N.o)
      . have u:=Hid.o (p:=B (q=(V*4294967296+u0)/(d1*4294967296+d0))) (P.o J);have x:¬4294967296*r+u0<q*d0:=z;clear i z v P hm K Qe;generalize q*d0=m at E3 x;generalize 4294967296*r+u0=t at M x;generalize 4294967296*r=rr at E4 M;go_wp2;go_meet
        case rel=>exact⟨by rw[<-u.o],rfl⟩
  case rest=>
   obtain⟨rfl,rfl⟩:=hcut;obtain⟨Q0,af⟩:∃Q0,Q0=(V*4294967296+u0)/(d1*4294967296+d0):=⟨_,rfl⟩;rw[<-af];have Qg:0<d1*4294967296+d0:=J
   have hN:=HN.o;have hh:=PD (t:=U*4294967296+u1) (k:=4294967296) (un0:=u0) Qg;rw[<-N.o,<-Qk.o,<-af,hN,<-ae.o,ap.o]at hh;have Qh:=UD (a:=j*Z+lo) (y:=y) (s:=s);rw[Qh.1,Qh.2,<-ap.o,ae.o]at hh;have Qj:(j*Z+lo)/y<18446744073709551616:=by
    rw[AX J];have o:(j+1)*Z<=y*Z:=Ak _ ah;have h2:=aq;unfold Z at o ⊢;omega
   have E6:IntKind.u64.wrap (IntKind.u64.wrap (IntKind.u64.wrap ((V:Int)*4294967296)+u0)-IntKind.u64.wrap ((Q0:Int)*ad))=(((j*Z+lo)%y*2^s:Nat):Int):=by
    rw[DB];refine Pm ?_ ?_
    . rw[<-hh.2,af,ae.o,As];exact Cb _ _
    . rw[<-hh.2];have o:=A7 (V*4294967296+u0) Qg;have h3:=b.o.2.1.1;omega
   have E7:IntKind.u64.wrap (IntKind.u64.wrap ((Q1:Int)*4294967296)+Q0)=(((j*Z+lo)/y:Nat):Int):=by
    rw[<-hh.1];rw[<-hh.1]at Qj;simp only[BX];omega
   have E8:((((j*Z+lo)%y*2^s:Nat):Int)/2^s)=(((j*Z+lo)%y:Nat):Int):=by
    rw[show((2:Int)^s)=((2^s:Nat):Int)from by simp,<-Fp,Nat.mul_div_cancel _ (Cc s)]
   clear hh Qh hN af Qg Qj EV Qf Q R ah aq;obtain⟨A,hA⟩:∃A,A=(j*Z+lo)/y:=⟨_,rfl⟩;obtain⟨Bm,aj⟩:∃Bm,Bm=(j*Z+lo)%y:=⟨_,rfl⟩;rw[<-hA]at E7;rw[<-aj]at E6 E8;have HA:=O hA;have Ql:=O aj;clear hA aj;generalize Bm*2^s=C at E6 E8;go_wp2;go_ret2
   refine⟨?_,rfl⟩;show Ending.returned (.tuple #[.int D (A:Nat),.int D (Bm:Nat)])=_;rw[HA.o,Ql.o]
theorem VU{a b s:Nat}(h:b<2^s):(a*2^s) ||| b=a*2^s+b:=by
 rw[As];exact(Fj h a).symm
theorem VV(lo y:Nat)(b:lo<18446744073709551616)(a:0<y)(g:y<18446744073709551616)(w:World):
 Calls Tryz.prog 175 #[.int D 0,.int D (lo:Nat),.int D (y:Nat)] w λe c=>e=.returned (.tuple #[.int D ((lo/y:Nat):Int),.int D ((lo%y:Nat):Int)])/\Bl w c:=by
 have d:((y:Int)==0)=false:=BH.2 J;have f:¬(y:Int)<=0:=J
 clear a;go_enter Tryz.func175,Tryz.ntmps175
 go_wp2;go_quiet (fail)
 go_wp2;go_ret2
 refine⟨?_,below_drewN (BB _ _) _⟩;show Ending.returned (.tuple #[.int D (IntKind.u64.wrap ((lo:Int)/y)),.int D ((lo:Int)%y)])=_;rw[<-Fp,DM _ (Cp (Fw _ _) b),<-Int.natCast_emod]
