import Derived.Test.YteldjhhjnchdeaaGreatDoorT10
import Derived.Laws.BitsAllLaws
import Derived.Deep.DeepCutAuto
import Derived.Deep.CutBlock
open Go.RowKit renaming Hid->B
open Go.IntKind renaming u64->D
set_option maxRecDepth 100000
set_option maxHeartbeats 16000000
namespace Go.Proofs.YteldjhhjnchdeaaGreatDoor
open Go.RowKit Go.Shelf
theorem DM:type_of% @Mul64.wrapN:=@Mul64.wrapN
theorem DB:type_of% @Mul64.mulN:=@Mul64.mulN
theorem BX:type_of% @IntKind.wrap_u64:=@IntKind.wrap_u64
theorem BI:type_of% @decide_eq_false:=@decide_eq_false
theorem BH:type_of% @beq_eq_false_iff_ne:=@beq_eq_false_iff_ne
variable{U d p r:Nat}
theorem Pn(h:U/d<=4294967297):IntKind.u64.wrap ((U:Int)/(d:Int))=((U/d:Nat):Int):=by
 rw[<-Fo,DM _ om]
theorem Po(h:p+r=U)(a:U<18446744073709551616):IntKind.u64.wrap ((U:Int)-IntKind.u64.wrap ((p:Nat):Int))=(r:Int):=by
 rw[DM _ om,BX];omega
theorem Ly{q:Nat}(h:1<=q)(hq:q<18446744073709551616):IntKind.u64.wrap ((q:Int)-1)=((q-1:Nat):Int):=by
 rw[BX];omega
theorem Lz(h:r+d<18446744073709551616):IntKind.u64.wrap ((r:Int)+d)=((r+d:Nat):Int):=by
 rw[BX];omega
theorem Pp{u v:Nat}(h:p+v=U*4294967296+u)(a:v<18446744073709551616):IntKind.u64.wrap (IntKind.u64.wrap (IntKind.u64.wrap ((U:Int)*4294967296)+u)-IntKind.u64.wrap ((p:Nat):Int))=(v:Int):=by
 simp only[BX];omega
theorem VJ(j lo y s W d1 d0 U L u1 u0:Nat)(ah:j<y)(ak:lo<18446744073709551616)(hy:y<18446744073709551616)(w:World)(h0:j≠0)(HS:B (IntKind.u64.wrap (64-(Lib.bitLen y:Int))=(s:Int)))(hs:s<=63)
(HY:B (IntKind.u64.wrap ((y:Int)*2^s)=(W:Int)))(H1:B ((W:Int)/4294967296=(d1:Int)))(H0:B (bits .and D (W:Int) 4294967295=(d0:Int)))
(HU:B (bits .or D (IntKind.u64.wrap ((j:Int)*2^s)) ((lo:Int)/2^(64-s))=(U:Int)))(HL:B (IntKind.u64.wrap ((lo:Int)*2^s)=(L:Int)))(ap:B ((L:Int)/4294967296=(u1:Int)))(an:B (bits .and D (L:Int) 4294967295=(u0:Int)))
(P:2147483648<=d1)(O:d1<4294967296)(J:d0<4294967296)(ad:u1<4294967296)(ai:u0<4294967296)(hU:U<d1*4294967296+d0)(af:B (W=d1*4294967296+d0))(am:B (W=y*2^s))(HN:B ((U*4294967296+u1)*4294967296+u0=(j*DR+lo)*2^s)):
 Calls Tryz.prog 175 #[.int D (j:Nat),.int D (lo:Nat),.int D (y:Nat)] w λe w'=>e=.returned (.tuple #[.int D (((j*DR+lo)/y:Nat):Int),.int D (((j*DR+lo)%y:Nat):Int)])/\w'=w:=by
 have g1:((y:Int)==0)=false:=BH.2 om;have g2:((j:Int)==0)=false:=BH.2 om;go_enter Tryz.func175,Tryz.ntmps175
 go_upto_region 8 with(first
  |(go_at_call 166;refine(Tryz.bits_LeadingZeros64 _ _ om om).mono ?_;rintro e w' ⟨rfl,rfl⟩))
 rw[HS.o];go_upto_region 9 with fail
 rw[HY.o];go_upto_region 10 with fail
 rw[H1.o];go_upto_region 11 with fail
 rw[H0.o];go_upto_region 15 with fail
 rw[HU.o,HL.o,ap.o,an.o];have hG:=PD P O J ad hU;have b:=Hid.o (p:=B ((2147483648<=d1/\d1<4294967296)/\(d0<4294967296/\u1<4294967296/\u0<4294967296)/\U<d1*4294967296+d0)) ⟨⟨P,O⟩,⟨J,ad,ai⟩,hU⟩;have g:=Hid.o (p:=B _) hG;clear hG J ad ai hU hy h0 HS HY H1 H0 HU HL ap an g1 g2;go_upto_block 0 with fail
 go_cut [15,16] (λz _ w1=>z=.int D ((U*4294967296+u1)/(d1*4294967296+d0):Nat)/\w1=w')
 case first=>
  go_wp2_with fail
  go_loop [15,16] (λz rv=>∃q r:Nat,z=.int D (q:Nat)/\rv=.int D (r:Nat)/\B (Kh U u1 d1 d0 q r)) (λz _=>(intOf z).toNat)
  case atStart=>
   clear P O;obtain⟨⟨P,O⟩,⟨J,ad,ai⟩,hU⟩:=b.o;have e1:=Pn (U:=U) (d:=d1) g.o.2.2.1;refine⟨U/d1,U%d1,by rw[e1],?_,g⟩;rw[e1,DB];have o:=g.o.1;rw[Po o om]
  case round=>
   obtain⟨q,r,rfl,rfl,g⟩:=hrel;clear P O ah hs;have G:B ((4294967296<=q\/4294967296*r+u1<q*d0)->1<=q/\(q-1)*d1+(r+d1)=U/\(U*4294967296+u1)/(d1*4294967296+d0)<=q-1/\q-1<=4294967296):=λi=>PF g.o b.o.1.1 b.o.2.1.2.1 b.o.2.2 i;have M:B (q*d0<=4294967296*r+u1->q=(U*4294967296+u1)/(d1*4294967296+d0)):=λi=>PE g.o (by have:=b.o.1.1;omega) i;by_cases i:4294967296<=q
   . obtain⟨v,H,E,I⟩:=G.o (Or.inl i);have Qg:decide ((4294967296:Int)<=q)=true:=decide_eq_true om;have Z:=Hid.o (p:=B (IntKind.u64.wrap ((q:Int)-1)=((q-1:Nat):Int))) (Ly v (by have T:q<=4294967297:=g.o.2.2.1;omega));have R:=Hid.o (p:=B (IntKind.u64.wrap ((r:Int)+d1)=((r+d1:Nat):Int))) (Lz (by have o:=g.o.2.2.2;have h2:=b.o.1.2;omega));have c:=Hid.o (p:=B ((q-1)*d1+(r+d1)=U/\(U*4294967296+u1)/(d1*4294967296+d0)<=q-1/\q-1<=4294967296)) ⟨H,E,I⟩;have K:=Ja (show q-1<q by omega);clear i v H E I G M;go_upto_region 19 with fail
     rw[Z.o];go_upto_region 20 with fail
     rw[R.o];generalize q-1=n at *;generalize r+d1=f at *;by_cases l:4294967296<=f
     . have X:decide ((4294967296:Int)<=f)=true:=decide_eq_true om;have e:=Lc c.o.1 c.o.2.1 c.o.2.2 b.o.2.1.1 (by have:=b.o.1.1;omega) l;have u:=Hid.o (p:=B (n=(U*4294967296+u1)/(d1*4294967296+d0))) e;clear l e;go_wp2;go_meet
       case rel=>exact⟨by rw[<-u.o],rfl⟩
     . have X:decide ((4294967296:Int)<=f)=false:=BI om;have S:=Ja (show f<4294967296 by omega);clear l;go_wp2;go_round
       case rel=>exact⟨n,f,rfl,rfl,c.o.1,c.o.2.1,by have T:n<=4294967296:=c.o.2.2;omega,S.o⟩
       case measure=>(simp[intOf];exact K.o)
   . have Qg:decide ((4294967296:Int)<=q)=false:=BI om;have J:=b.o.2.1.1;have Qe:=g.o.2.2.2;have Y:q*d0<18446744073709551616:=by
      have o:=CN (show q<=4294967295 by omega) (show d0<=4294967295 by omega);omega
     have E3:IntKind.u64.wrap ((q:Int)*d0)=((q*d0:Nat):Int):=by rw[DB,DM _ Y]
     have E4:IntKind.u64.wrap (4294967296*(r:Int))=((4294967296*r:Nat):Int):=by rw[BX];omega
     have N:IntKind.u64.wrap (((4294967296*r:Nat):Int)+u1)=((4294967296*r+u1:Nat):Int):=by rw[BX];have:=b.o.2.1.2.1;omega
     by_cases F:4294967296*r+u1<q*d0
     . obtain⟨v,H,E,I⟩:=G.o (Or.inr F);have x:4294967296*r+u1<q*d0:=F;have Z:=Hid.o (p:=B (IntKind.u64.wrap ((q:Int)-1)=((q-1:Nat):Int))) (Ly v (by have T:q<=4294967297:=g.o.2.2.1;omega));have R:=Hid.o (p:=B (IntKind.u64.wrap ((r:Int)+d1)=((r+d1:Nat):Int))) (Lz (by have o:=g.o.2.2.2;have h2:=b.o.1.2;omega));have c:=Hid.o (p:=B ((q-1)*d1+(r+d1)=U/\(U*4294967296+u1)/(d1*4294967296+d0)<=q-1/\q-1<=4294967296)) ⟨H,E,I⟩;have K:=Ja (show q-1<q by omega);clear i F v H E I G M Y J Qe;generalize q*d0=m at E3 x;generalize 4294967296*r+u1=t at N x;generalize 4294967296*r=rr at E4 N;go_upto_region 19 with fail
       rw[Z.o];go_upto_region 20 with fail
       rw[R.o];generalize q-1=n at *;generalize r+d1=f at *;by_cases l:4294967296<=f
       . have X:decide ((4294967296:Int)<=f)=true:=decide_eq_true om;have e:=Lc c.o.1 c.o.2.1 c.o.2.2 b.o.2.1.1 (by have:=b.o.1.1;omega) l;have u:=Hid.o (p:=B (n=(U*4294967296+u1)/(d1*4294967296+d0))) e;clear l e;go_wp2;go_meet
         case rel=>exact⟨by rw[<-u.o],rfl⟩
       . have X:decide ((4294967296:Int)<=f)=false:=BI om;have S:=Ja (show f<4294967296 by omega);clear l;go_wp2;go_round
         case rel=>exact⟨n,f,rfl,rfl,c.o.1,c.o.2.1,by have T:n<=4294967296:=c.o.2.2;omega,S.o⟩
         case measure=>(simp[intOf];exact K.o)
     . have u:=Hid.o (p:=B (q=(U*4294967296+u1)/(d1*4294967296+d0))) (M.o om);have x:¬4294967296*r+u1<q*d0:=F;clear i F G M Y J Qe;generalize q*d0=m at E3 x;generalize 4294967296*r+u1=t at N x;generalize 4294967296*r=rr at E4 N;go_wp2;go_meet
       case rel=>exact⟨by rw[<-u.o],rfl⟩
 case rest=>
  obtain⟨rfl,rfl⟩:=hcut;obtain⟨V,hV⟩:∃V,V=(U*4294967296+u1)%(d1*4294967296+d0):=⟨_,rfl⟩;have Qk:=Ja hV;have Qc:B (V<d1*4294967296+d0):=by
   show V < _;rw[hV];exact A7 _ om
  clear hV;obtain⟨Q1,hQ⟩:∃Q1,Q1=(U*4294967296+u1)/(d1*4294967296+d0):=⟨_,rfl⟩;rw[<-hQ];have K:=Ja hQ;have EV:B (IntKind.u64.wrap (IntKind.u64.wrap (IntKind.u64.wrap ((U:Int)*4294967296)+u1)-IntKind.u64.wrap ((Q1:Int)*W))=(V:Int)):=by
   show _=_;rw[DB];refine Pp ?_ (by have o:=Qc.o;have h2:=b.o.1.2;have h3:=b.o.2.1.1;omega);rw[hQ,Qk.o,af.o,Ar];exact Cc _ _
  have Qf:=Ja (PD P O b.o.2.1.1 b.o.2.1.2.2 Qc.o);clear hQ;go_upto_region 22 with fail
  rw[EV.o];go_upto_block 2 with fail
  go_cut [18,16] (λz _ w1=>z=.int D ((V*4294967296+u0)/(d1*4294967296+d0):Nat)/\w1=wc)
  case first=>
   go_wp2_with fail
   go_loop [18,16] (λz rv=>∃q r:Nat,z=.int D (q:Nat)/\rv=.int D (r:Nat)/\B (Kh V u0 d1 d0 q r)) (λz _=>(intOf z).toNat)
   case atStart=>
    have e1:=Pn (U:=V) (d:=d1) Qf.o.2.2.1;refine⟨V/d1,V%d1,by rw[e1],?_,Qf⟩;rw[e1,DB];have o:=Qf.o.1;rw[Po o (by have o:=Qc.o;have h2:=b.o.1.2;have h3:=b.o.2.1.1;omega)]
   case round=>
    obtain⟨q,r,rfl,rfl,g⟩:=hrel;clear P O ah hs;have G:B ((4294967296<=q\/4294967296*r+u0<q*d0)->1<=q/\(q-1)*d1+(r+d1)=V/\(V*4294967296+u0)/(d1*4294967296+d0)<=q-1/\q-1<=4294967296):=λi=>PF g.o b.o.1.1 b.o.2.1.2.2 Qc.o i;have M:B (q*d0<=4294967296*r+u0->q=(V*4294967296+u0)/(d1*4294967296+d0)):=λi=>PE g.o (by have:=b.o.1.1;omega) i;by_cases i:4294967296<=q
    . obtain⟨v,H,E,I⟩:=G.o (Or.inl i);have Qg:decide ((4294967296:Int)<=q)=true:=decide_eq_true om;have Z:=Hid.o (p:=B (IntKind.u64.wrap ((q:Int)-1)=((q-1:Nat):Int))) (Ly v (by have T:q<=4294967297:=g.o.2.2.1;omega));have R:=Hid.o (p:=B (IntKind.u64.wrap ((r:Int)+d1)=((r+d1:Nat):Int))) (Lz (by have o:=g.o.2.2.2;have h2:=b.o.1.2;omega));have c:=Hid.o (p:=B ((q-1)*d1+(r+d1)=V/\(V*4294967296+u0)/(d1*4294967296+d0)<=q-1/\q-1<=4294967296)) ⟨H,E,I⟩;have K:=Ja (show q-1<q by omega);clear i v H E I G M;go_upto_region 26 with fail
      rw[Z.o];go_upto_region 27 with fail
      rw[R.o];generalize q-1=n at *;generalize r+d1=f at *;by_cases l:4294967296<=f
      . have X:decide ((4294967296:Int)<=f)=true:=decide_eq_true om;have e:=Lc c.o.1 c.o.2.1 c.o.2.2 b.o.2.1.1 (by have:=b.o.1.1;omega) l;have u:=Hid.o (p:=B (n=(V*4294967296+u0)/(d1*4294967296+d0))) e;clear l e;go_wp2;go_meet
        case rel=>exact⟨by rw[<-u.o],rfl⟩
      . have X:decide ((4294967296:Int)<=f)=false:=BI om;have S:=Ja (show f<4294967296 by omega);clear l;go_wp2;go_round
        case rel=>exact⟨n,f,rfl,rfl,c.o.1,c.o.2.1,by have T:n<=4294967296:=c.o.2.2;omega,S.o⟩
        case measure=>(simp[intOf];exact K.o)
    . have Qg:decide ((4294967296:Int)<=q)=false:=BI om;have J:=b.o.2.1.1;have Qe:=g.o.2.2.2;have Y:q*d0<18446744073709551616:=by
       have o:=CN (show q<=4294967295 by omega) (show d0<=4294967295 by omega);omega
      have E3:IntKind.u64.wrap ((q:Int)*d0)=((q*d0:Nat):Int):=by rw[DB,DM _ Y]
      have E4:IntKind.u64.wrap (4294967296*(r:Int))=((4294967296*r:Nat):Int):=by rw[BX];omega
      have N:IntKind.u64.wrap (((4294967296*r:Nat):Int)+u0)=((4294967296*r+u0:Nat):Int):=by rw[BX];have:=b.o.2.1.2.2;omega
      by_cases F:4294967296*r+u0<q*d0
      . obtain⟨v,H,E,I⟩:=G.o (Or.inr F);have x:4294967296*r+u0<q*d0:=F;have Z:=Hid.o (p:=B (IntKind.u64.wrap ((q:Int)-1)=((q-1:Nat):Int))) (Ly v (by have T:q<=4294967297:=g.o.2.2.1;omega));have R:=Hid.o (p:=B (IntKind.u64.wrap ((r:Int)+d1)=((r+d1:Nat):Int))) (Lz (by have o:=g.o.2.2.2;have h2:=b.o.1.2;omega));have c:=Hid.o (p:=B ((q-1)*d1+(r+d1)=V/\(V*4294967296+u0)/(d1*4294967296+d0)<=q-1/\q-1<=4294967296)) ⟨H,E,I⟩;have K:=Ja (show q-1<q by omega);clear i F v H E I G M Y J Qe;generalize q*d0=m at E3 x;generalize 4294967296*r+u0=t at N x;generalize 4294967296*r=rr at E4 N;go_upto_region 26 with fail
        rw[Z.o];go_upto_region 27 with fail
        rw[R.o];generalize q-1=n at *;generalize r+d1=f at *;by_cases l:4294967296<=f
        . have X:decide ((4294967296:Int)<=f)=true:=decide_eq_true om;have e:=Lc c.o.1 c.o.2.1 c.o.2.2 b.o.2.1.1 (by have:=b.o.1.1;omega) l;have u:=Hid.o (p:=B (n=(V*4294967296+u0)/(d1*4294967296+d0))) e;clear l e;go_wp2;go_meet
          case rel=>exact⟨by rw[<-u.o],rfl⟩
        . have X:decide ((4294967296:Int)<=f)=false:=BI om;have S:=Ja (show f<4294967296 by omega);clear l;go_wp2;go_round
          case rel=>exact⟨n,f,rfl,rfl,c.o.1,c.o.2.1,by have T:n<=4294967296:=c.o.2.2;omega,S.o⟩
          case measure=>(simp[intOf];exact K.o)
      . have u:=Hid.o (p:=B (q=(V*4294967296+u0)/(d1*4294967296+d0))) (M.o om);have x:¬4294967296*r+u0<q*d0:=F;clear i F G M Y J Qe;generalize q*d0=m at E3 x;generalize 4294967296*r+u0=t at N x;generalize 4294967296*r=rr at E4 N;go_wp2;go_meet
        case rel=>exact⟨by rw[<-u.o],rfl⟩
  case rest=>
   obtain⟨rfl,rfl⟩:=hcut;obtain⟨Q0,ae⟩:∃Q0,Q0=(V*4294967296+u0)/(d1*4294967296+d0):=⟨_,rfl⟩;rw[<-ae];have Qh:0<d1*4294967296+d0:=om
   have hN:=HN.o;have Q:=PG (t:=U*4294967296+u1) (k:=4294967296) (un0:=u0) Qh;rw[<-K.o,<-Qk.o,<-ae,hN,<-af.o,am.o]at Q;have Qi:=Tv (a:=j*DR+lo) (y:=y) (s:=s);rw[Qi.1,Qi.2,<-am.o,af.o]at Q;have Qj:(j*DR+lo)/y<18446744073709551616:=by
    rw[AX om];have o:(j+1)*DR<=y*DR:=Ak _ ah;have h2:=ak;unfold DR at o ⊢;omega
   have E6:IntKind.u64.wrap (IntKind.u64.wrap (IntKind.u64.wrap ((V:Int)*4294967296)+u0)-IntKind.u64.wrap ((Q0:Int)*W))=(((j*DR+lo)%y*2^s:Nat):Int):=by
    rw[DB];refine Pp ?_ ?_
    . rw[<-Q.2,ae,af.o,Ar];exact Cc _ _
    . rw[<-Q.2];have o:=A7 (V*4294967296+u0) Qh;have h3:=b.o.2.1.1;omega
   have E7:IntKind.u64.wrap (IntKind.u64.wrap ((Q1:Int)*4294967296)+Q0)=(((j*DR+lo)/y:Nat):Int):=by
    rw[<-Q.1];rw[<-Q.1]at Qj;simp only[BX];omega
   have E8:((((j*DR+lo)%y*2^s:Nat):Int)/2^s)=(((j*DR+lo)%y:Nat):Int):=by
    rw[show((2:Int)^s)=((2^s:Nat):Int)from by simp,<-Fo,Nat.mul_div_cancel _ (Ce s)]
   clear Q Qi hN ae Qh Qj EV Qf P O ah ak;obtain⟨A,hA⟩:∃A,A=(j*DR+lo)/y:=⟨_,rfl⟩;obtain⟨Bm,aj⟩:∃Bm,Bm=(j*DR+lo)%y:=⟨_,rfl⟩;rw[<-hA]at E7;rw[<-aj]at E6 E8;have HA:=Ja hA;have Ql:=Ja aj;clear hA aj;generalize Bm*2^s=C at E6 E8;go_wp2;go_ret2
   refine⟨?_,rfl⟩;show Ending.returned (.tuple #[.int D (A:Nat),.int D (Bm:Nat)])=_;rw[HA.o,Ql.o]
theorem VK{a b s:Nat}(h:b<2^s):(a*2^s) ||| b=a*2^s+b:=by
 rw[Ar];exact(Fi h a).symm
theorem VL(lo y:Nat)(c:lo<18446744073709551616)(b:0<y)(f:y<18446744073709551616)(w:World):
 Calls Tryz.prog 175 #[.int D 0,.int D (lo:Nat),.int D (y:Nat)] w λe a=>e=.returned (.tuple #[.int D ((lo/y:Nat):Int),.int D ((lo%y:Nat):Int)])/\Bl w a:=by
 have g:((y:Int)==0)=false:=BH.2 om;have d:¬(y:Int)<=0:=om
 clear b;go_enter Tryz.func175,Tryz.ntmps175
 go_wp2;go_quiet (fail)
 go_wp2;go_ret2
 refine⟨?_,below_drewN (BB _ _) _⟩;show Ending.returned (.tuple #[.int D (IntKind.u64.wrap ((lo:Int)/y)),.int D ((lo:Int)%y)])=_;rw[<-Fo,DM _ (Cs (Fv _ _) c),<-Int.natCast_emod]
