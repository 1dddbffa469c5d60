import Derived.Test.YtcahejkcdcjjgaaGreatDoorT10
import Derived.Laws.BitsAllLaws
import Derived.Deep.DeepCutAuto
import Derived.Deep.CutBlock
open Go.RowKit renaming Hid->B
open Go.IntKind renaming u64->D
set_option maxRecDepth 100000
set_option maxHeartbeats 16000000
namespace Go.Proofs.YtcahejkcdcjjgaaGreatDoor
open Go.RowKit Go.Shelf
theorem DJ:type_of% @Mul64.wrapN:=@Mul64.wrapN
theorem B7:type_of% @Mul64.mulN:=@Mul64.mulN
theorem BU:type_of% @IntKind.wrap_u64:=@IntKind.wrap_u64
theorem BH:type_of% @beq_eq_false_iff_ne:=@beq_eq_false_iff_ne
variable{U d p r:Nat}
theorem Nt(h:U/d<=4294967297):IntKind.u64.wrap ((U:Int)/(d:Int))=((U/d:Nat):Int):=by
 rw[<-Fb,DJ _ om]
theorem Nu(h:p+r=U)(a:U<18446744073709551616):IntKind.u64.wrap ((U:Int)-IntKind.u64.wrap ((p:Nat):Int))=(r:Int):=by
 rw[DJ _ om,BU];omega
theorem KW{q:Nat}(h:1<=q)(a:q<18446744073709551616):IntKind.u64.wrap ((q:Int)-1)=((q-1:Nat):Int):=by
 rw[BU];omega
theorem KX(h:r+d<18446744073709551616):IntKind.u64.wrap ((r:Int)+d)=((r+d:Nat):Int):=by
 rw[BU];omega
theorem Nv{u v:Nat}(h:p+v=U*4294967296+u)(a:v<18446744073709551616):IntKind.u64.wrap (IntKind.u64.wrap (IntKind.u64.wrap ((U:Int)*4294967296)+u)-IntKind.u64.wrap ((p:Nat):Int))=(v:Int):=by
 simp only[BU];omega
theorem R1(j lo y s R d1 d0 U aj u1 u0:Nat)(ah:j<y)(aq:lo<18446744073709551616)(hy:y<18446744073709551616)(w:World)(h0:j≠0)(HS:B (IntKind.u64.wrap (64-(Lib.bitLen y:Int))=(s:Int)))(hs:s<=63)
(HY:B (IntKind.u64.wrap ((y:Int)*2^s)=(R:Int)))(H1:B ((R:Int)/4294967296=(d1:Int)))(H0:B (bits .and D (R:Int) 4294967295=(d0:Int)))
(HU:B (bits .or D (IntKind.u64.wrap ((j:Int)*2^s)) ((lo:Int)/2^(64-s))=(U:Int)))(HL:B (IntKind.u64.wrap ((lo:Int)*2^s)=(aj:Int)))(av:B ((aj:Int)/4294967296=(u1:Int)))(ap:B (bits .and D (aj:Int) 4294967295=(u0:Int)))
(M:2147483648<=d1)(O:d1<4294967296)(J:d0<4294967296)(af:u1<4294967296)(ai:u0<4294967296)(hU:U<d1*4294967296+d0)(ae:B (R=d1*4294967296+d0))(an:B (R=y*2^s))(HN:B ((U*4294967296+u1)*4294967296+u0=(j*DN+lo)*2^s)):
 Calls Tryz.prog 164 #[.int D (j:Nat),.int D (lo:Nat),.int D (y:Nat)] w λe w'=>e=.returned (.tuple #[.int D (((j*DN+lo)/y:Nat):Int),.int D (((j*DN+lo)%y:Nat):Int)])/\w'=w:=by
 have g1:((y:Int)==0)=false:=BH.2 om;have g2:((j:Int)==0)=false:=BH.2 om;go_enter Tryz.func164,Tryz.ntmps164
 go_upto_region 8 with(first
  |(go_at_call 176;refine(Tryz.bits_LeadingZeros64 _ _ om om).mono ?_;rintro e w' ⟨rfl,rfl⟩))
 rw[HS.o];go_upto_region 9 with fail
 rw[HY.o];go_upto_region 10 with fail
 rw[H1.o];go_upto_region 11 with fail
 rw[H0.o];go_upto_region 15 with fail
 rw[HU.o,HL.o,av.o,ap.o];have hG:=NJ M O J af hU;have Qj:((d1:Int)==0)=false:=BH.2 om;have b:=Hid.o (p:=B ((2147483648<=d1/\d1<4294967296)/\(d0<4294967296/\u1<4294967296/\u0<4294967296)/\U<d1*4294967296+d0)) ⟨⟨M,O⟩,⟨J,af,ai⟩,hU⟩;have g:=Hid.o (p:=B _) hG;clear hG J af ai hU hy h0 HS HY H1 H0 HU HL av ap g1 g2;go_upto_block 0 with fail
 go_cut [15,16] (λx _ w1=>x=.int D ((U*4294967296+u1)/(d1*4294967296+d0):Nat)/\w1=w')
 case first=>
  go_wp2_with fail
  go_loop [15,16] (λx rv=>∃q r:Nat,x=.int D (q:Nat)/\rv=.int D (r:Nat)/\B (IK U u1 d1 d0 q r)) (λx _=>(intOf x).toNat)
  case atStart=>
   clear M O;obtain⟨⟨M,O⟩,⟨J,af,ai⟩,hU⟩:=b.o;have e1:=Nt (U:=U) (d:=d1) g.o.2.2.1;refine⟨U/d1,U%d1,by rw[e1],?_,g⟩;rw[e1,B7];have o:=g.o.1;rw[Nu o om]
  case round=>
   obtain⟨q,r,rfl,rfl,g⟩:=hrel;clear M O ah hs Qj;have z:B ((4294967296<=q\/4294967296*r+u1<q*d0)->1<=q/\(q-1)*d1+(r+d1)=U/\(U*4294967296+u1)/(d1*4294967296+d0)<=q-1/\q-1<=4294967296):=λi=>NL g.o b.o.1.1 b.o.2.1.2.1 b.o.2.2 i;have N:B (q*d0<=4294967296*r+u1->q=(U*4294967296+u1)/(d1*4294967296+d0)):=λi=>NK g.o (by have:=b.o.1.1;omega) i;by_cases i:4294967296<=q
   . obtain⟨I,F,u,H⟩:=z.o (Or.inl i);have Qi:decide ((4294967296:Int)<=q)=true:=decide_eq_true om;have Q:=Hid.o (p:=B (IntKind.u64.wrap ((q:Int)-1)=((q-1:Nat):Int))) (KW I (by have Y:q<=4294967297:=g.o.2.2.1;omega));have X:=Hid.o (p:=B (IntKind.u64.wrap ((r:Int)+d1)=((r+d1:Nat):Int))) (KX (by have o:=g.o.2.2.2;have Z:=b.o.1.2;omega));have c:=Hid.o (p:=B ((q-1)*d1+(r+d1)=U/\(U*4294967296+u1)/(d1*4294967296+d0)<=q-1/\q-1<=4294967296)) ⟨F,u,H⟩;have K:=Ja (show q-1<q by omega);clear i I F u H z N;go_upto_region 19 with fail
     rw[Q.o];go_upto_region 20 with fail
     rw[X.o];generalize q-1=n at *;generalize r+d1=f at *;by_cases l:4294967296<=f
     . have P:decide ((4294967296:Int)<=f)=true:=decide_eq_true om;have e:=KE c.o.1 c.o.2.1 c.o.2.2 b.o.2.1.1 (by have:=b.o.1.1;omega) l;have G:=Hid.o (p:=B (n=(U*4294967296+u1)/(d1*4294967296+d0))) e;clear l e;go_wp2;go_meet
       case rel=>exact⟨by rw[<-G.o],rfl⟩
     . have P:decide ((4294967296:Int)<=f)=false:=BF om;have T:=Ja (show f<4294967296 by omega);clear l;go_wp2;go_round
       case rel=>exact⟨n,f,rfl,rfl,c.o.1,c.o.2.1,by have Y:n<=4294967296:=c.o.2.2;omega,T.o⟩
       case measure=>(simp[intOf];exact K.o)
   . have Qi:decide ((4294967296:Int)<=q)=false:=BF om;have J:=b.o.2.1.1;have Qe:=g.o.2.2.2;have W:q*d0<18446744073709551616:=by
      have o:=Fx (show q<=4294967295 by omega) (show d0<=4294967295 by omega);omega
     have E3:IntKind.u64.wrap ((q:Int)*d0)=((q*d0:Nat):Int):=by rw[B7,DJ _ W]
     have E4:IntKind.u64.wrap (4294967296*(r:Int))=((4294967296*r:Nat):Int):=by rw[BU];omega
     have L:IntKind.u64.wrap (((4294967296*r:Nat):Int)+u1)=((4294967296*r+u1:Nat):Int):=by rw[BU];have:=b.o.2.1.2.1;omega
     by_cases v:4294967296*r+u1<q*d0
     . obtain⟨I,F,u,H⟩:=z.o (Or.inr v);have E:4294967296*r+u1<q*d0:=v;have Q:=Hid.o (p:=B (IntKind.u64.wrap ((q:Int)-1)=((q-1:Nat):Int))) (KW I (by have Y:q<=4294967297:=g.o.2.2.1;omega));have X:=Hid.o (p:=B (IntKind.u64.wrap ((r:Int)+d1)=((r+d1:Nat):Int))) (KX (by have o:=g.o.2.2.2;have Z:=b.o.1.2;omega));have c:=Hid.o (p:=B ((q-1)*d1+(r+d1)=U/\(U*4294967296+u1)/(d1*4294967296+d0)<=q-1/\q-1<=4294967296)) ⟨F,u,H⟩;have K:=Ja (show q-1<q by omega);clear i v I F u H z N W J Qe;generalize q*d0=m at E3 E;generalize 4294967296*r+u1=t at L E;generalize 4294967296*r=rr at E4 L;go_upto_region 19 with fail
       rw[Q.o];go_upto_region 20 with fail
       rw[X.o];generalize q-1=n at *;generalize r+d1=f at *;by_cases l:4294967296<=f
       . have P:decide ((4294967296:Int)<=f)=true:=decide_eq_true om;have e:=KE c.o.1 c.o.2.1 c.o.2.2 b.o.2.1.1 (by have:=b.o.1.1;omega) l;have G:=Hid.o (p:=B (n=(U*4294967296+u1)/(d1*4294967296+d0))) e;clear l e;go_wp2;go_meet
         case rel=>exact⟨by rw[<-G.o],rfl⟩
       . have P:decide ((4294967296:Int)<=f)=false:=BF om;have T:=Ja (show f<4294967296 by omega);clear l;go_wp2;go_round
         case rel=>exact⟨n,f,rfl,rfl,c.o.1,c.o.2.1,by have Y:n<=4294967296:=c.o.2.2;omega,T.o⟩
         case measure=>(simp[intOf];exact K.o)
     . have G:=Hid.o (p:=B (q=(U*4294967296+u1)/(d1*4294967296+d0))) (N.o om);have E:¬4294967296*r+u1<q*d0:=v;clear i v z N W J Qe;generalize q*d0=m at E3 E;generalize 4294967296*r+u1=t at L E;generalize 4294967296*r=rr at E4 L;go_wp2;go_meet
       case rel=>exact⟨by rw[<-G.o],rfl⟩
 case rest=>
  obtain⟨rfl,rfl⟩:=hcut;have Qo:=Ja (rfl:(U*4294967296+u1)/(d1*4294967296+d0)=(U*4294967296+u1)/(d1*4294967296+d0));obtain⟨V,hV⟩:∃V,V=(U*4294967296+u1)%(d1*4294967296+d0):=⟨_,rfl⟩;have Ql:=Ja hV;have Qc:B (V<d1*4294967296+d0):=by
   show V < _;rw[hV];exact A9 _ om
  clear hV;obtain⟨Q1,hQ⟩:∃Q1,Q1=(U*4294967296+u1)/(d1*4294967296+d0):=⟨_,rfl⟩;rw[<-hQ];have K:=Ja hQ;have EV:B (IntKind.u64.wrap (IntKind.u64.wrap (IntKind.u64.wrap ((U:Int)*4294967296)+u1)-IntKind.u64.wrap ((Q1:Int)*R))=(V:Int)):=by
   show _=_;rw[B7];refine Nv ?_ (by have o:=Qc.o;have Z:=b.o.1.2;have h3:=b.o.2.1.1;omega);rw[hQ,Ql.o,ae.o,As];exact Cb _ _
  have Qf:=Ja (NJ M O b.o.2.1.1 b.o.2.1.2.2 Qc.o);have Qn:=Ja (show 2147483648<=d1/\d1<4294967296 from⟨M,O⟩);clear hQ Qo;go_upto_region 22 with fail
  rw[EV.o];go_upto_block 2 with fail
  go_cut [18,16] (λx _ w1=>x=.int D ((V*4294967296+u0)/(d1*4294967296+d0):Nat)/\w1=wc)
  case first=>
   go_wp2_with fail
   go_loop [18,16] (λx rv=>∃q r:Nat,x=.int D (q:Nat)/\rv=.int D (r:Nat)/\B (IK V u0 d1 d0 q r)) (λx _=>(intOf x).toNat)
   case atStart=>
    have e1:=Nt (U:=V) (d:=d1) Qf.o.2.2.1;refine⟨V/d1,V%d1,by rw[e1],?_,Qf⟩;rw[e1,B7];have o:=Qf.o.1;rw[Nu o (by have o:=Qc.o;have Z:=b.o.1.2;have h3:=b.o.2.1.1;omega)]
   case round=>
    obtain⟨q,r,rfl,rfl,g⟩:=hrel;clear M O ah hs Qj;have z:B ((4294967296<=q\/4294967296*r+u0<q*d0)->1<=q/\(q-1)*d1+(r+d1)=V/\(V*4294967296+u0)/(d1*4294967296+d0)<=q-1/\q-1<=4294967296):=λi=>NL g.o b.o.1.1 b.o.2.1.2.2 Qc.o i;have N:B (q*d0<=4294967296*r+u0->q=(V*4294967296+u0)/(d1*4294967296+d0)):=λi=>NK g.o (by have:=b.o.1.1;omega) i;by_cases i:4294967296<=q
    . obtain⟨I,F,u,H⟩:=z.o (Or.inl i);have Qi:decide ((4294967296:Int)<=q)=true:=decide_eq_true om;have Q:=Hid.o (p:=B (IntKind.u64.wrap ((q:Int)-1)=((q-1:Nat):Int))) (KW I (by have Y:q<=4294967297:=g.o.2.2.1;omega));have X:=Hid.o (p:=B (IntKind.u64.wrap ((r:Int)+d1)=((r+d1:Nat):Int))) (KX (by have o:=g.o.2.2.2;have Z:=b.o.1.2;omega));have c:=Hid.o (p:=B ((q-1)*d1+(r+d1)=V/\(V*4294967296+u0)/(d1*4294967296+d0)<=q-1/\q-1<=4294967296)) ⟨F,u,H⟩;have K:=Ja (show q-1<q by omega);clear i I F u H z N;go_upto_region 26 with fail
      rw[Q.o];go_upto_region 27 with fail
      rw[X.o];generalize q-1=n at *;generalize r+d1=f at *;by_cases l:4294967296<=f
      . have P:decide ((4294967296:Int)<=f)=true:=decide_eq_true om;have e:=KE c.o.1 c.o.2.1 c.o.2.2 b.o.2.1.1 (by have:=b.o.1.1;omega) l;have G:=Hid.o (p:=B (n=(V*4294967296+u0)/(d1*4294967296+d0))) e;clear l e;go_wp2;go_meet
        case rel=>exact⟨by rw[<-G.o],rfl⟩
      . have P:decide ((4294967296:Int)<=f)=false:=BF om;have T:=Ja (show f<4294967296 by omega);clear l;go_wp2;go_round
        case rel=>exact⟨n,f,rfl,rfl,c.o.1,c.o.2.1,by have Y:n<=4294967296:=c.o.2.2;omega,T.o⟩
        case measure=>(simp[intOf];exact K.o)
    . have Qi:decide ((4294967296:Int)<=q)=false:=BF om;have J:=b.o.2.1.1;have Qe:=g.o.2.2.2;have W:q*d0<18446744073709551616:=by
       have o:=Fx (show q<=4294967295 by omega) (show d0<=4294967295 by omega);omega
      have E3:IntKind.u64.wrap ((q:Int)*d0)=((q*d0:Nat):Int):=by rw[B7,DJ _ W]
      have E4:IntKind.u64.wrap (4294967296*(r:Int))=((4294967296*r:Nat):Int):=by rw[BU];omega
      have L:IntKind.u64.wrap (((4294967296*r:Nat):Int)+u0)=((4294967296*r+u0:Nat):Int):=by rw[BU];have:=b.o.2.1.2.2;omega
      by_cases v:4294967296*r+u0<q*d0
      . obtain⟨I,F,u,H⟩:=z.o (Or.inr v);have E:4294967296*r+u0<q*d0:=v;have Q:=Hid.o (p:=B (IntKind.u64.wrap ((q:Int)-1)=((q-1:Nat):Int))) (KW I (by have Y:q<=4294967297:=g.o.2.2.1;omega));have X:=Hid.o (p:=B (IntKind.u64.wrap ((r:Int)+d1)=((r+d1:Nat):Int))) (KX (by have o:=g.o.2.2.2;have Z:=b.o.1.2;omega));have c:=Hid.o (p:=B ((q-1)*d1+(r+d1)=V/\(V*4294967296+u0)/(d1*4294967296+d0)<=q-1/\q-1<=4294967296)) ⟨F,u,H⟩;have K:=Ja (show q-1<q by omega);clear i v I F u H z N W J Qe;generalize q*d0=m at E3 E;generalize 4294967296*r+u0=t at L E;generalize 4294967296*r=rr at E4 L;go_upto_region 26 with fail
        rw[Q.o];go_upto_region 27 with fail
        rw[X.o];generalize q-1=n at *;generalize r+d1=f at *;by_cases l:4294967296<=f
        . have P:decide ((4294967296:Int)<=f)=true:=decide_eq_true om;have e:=KE c.o.1 c.o.2.1 c.o.2.2 b.o.2.1.1 (by have:=b.o.1.1;omega) l;have G:=Hid.o (p:=B (n=(V*4294967296+u0)/(d1*4294967296+d0))) e;clear l e;go_wp2;go_meet
          case rel=>exact⟨by rw[<-G.o],rfl⟩
        . have P:decide ((4294967296:Int)<=f)=false:=BF om;have T:=Ja (show f<4294967296 by omega);clear l;go_wp2;go_round
          case rel=>exact⟨n,f,rfl,rfl,c.o.1,c.o.2.1,by have Y:n<=4294967296:=c.o.2.2;omega,T.o⟩
          case measure=>(simp[intOf];exact K.o)
      . have G:=Hid.o (p:=B (q=(V*4294967296+u0)/(d1*4294967296+d0))) (N.o om);have E:¬4294967296*r+u0<q*d0:=v;clear i v z N W J Qe;generalize q*d0=m at E3 E;generalize 4294967296*r+u0=t at L E;generalize 4294967296*r=rr at E4 L;go_wp2;go_meet
        case rel=>exact⟨by rw[<-G.o],rfl⟩
  case rest=>
   obtain⟨rfl,rfl⟩:=hcut;obtain⟨Q0,ad⟩:∃Q0,Q0=(V*4294967296+u0)/(d1*4294967296+d0):=⟨_,rfl⟩;rw[<-ad];have Qh:0<d1*4294967296+d0:=om
   have hN:=HN.o;have S:=NM (t:=U*4294967296+u1) (k:=4294967296) (un0:=u0) Qh;rw[<-K.o,<-Ql.o,<-ad,hN,<-ae.o,an.o]at S;have Qg:=Q8 (a:=j*DN+lo) (y:=y) (s:=s);rw[Qg.1,Qg.2,<-an.o,ae.o]at S;have Qk:(j*DN+lo)/y<18446744073709551616:=by
    rw[AO om];have o:(j+1)*DN<=y*DN:=Ao _ ah;have Z:=aq;unfold DN at o ⊢;omega
   have E6:IntKind.u64.wrap (IntKind.u64.wrap (IntKind.u64.wrap ((V:Int)*4294967296)+u0)-IntKind.u64.wrap ((Q0:Int)*R))=(((j*DN+lo)%y*2^s:Nat):Int):=by
    rw[B7];refine Nv ?_ ?_
    . rw[<-S.2,ad,ae.o,As];exact Cb _ _
    . rw[<-S.2];have o:=A9 (V*4294967296+u0) Qh;have h3:=b.o.2.1.1;omega
   have E7:IntKind.u64.wrap (IntKind.u64.wrap ((Q1:Int)*4294967296)+Q0)=(((j*DN+lo)/y:Nat):Int):=by
    rw[<-S.1];rw[<-S.1]at Qk;simp only[BU];omega
   have E8:((((j*DN+lo)%y*2^s:Nat):Int)/2^s)=(((j*DN+lo)%y:Nat):Int):=by
    rw[show((2:Int)^s)=((2^s:Nat):Int)from by simp,<-Fb,Nat.mul_div_cancel _ (Cc s)]
   clear S Qg hN ad Qh Qk EV Qf Qn M O ah aq Qj;obtain⟨A,hA⟩:∃A,A=(j*DN+lo)/y:=⟨_,rfl⟩;obtain⟨Bm,ak⟩:∃Bm,Bm=(j*DN+lo)%y:=⟨_,rfl⟩;rw[<-hA]at E7;rw[<-ak]at E6 E8;have HA:=Ja hA;have Qm:=Ja ak;clear hA ak;generalize Bm*2^s=C at E6 E8;go_wp2;go_ret2
   refine⟨?_,rfl⟩;show Ending.returned (.tuple #[.int D (A:Nat),.int D (Bm:Nat)])=_;rw[HA.o,Qm.o]
theorem R2{a b s:Nat}(h:b<2^s):(a*2^s) ||| b=a*2^s+b:=by
 rw[As];exact(C2 h a).symm
theorem R3(lo y:Nat)(b:lo<18446744073709551616)(a:0<y)(g:y<18446744073709551616)(w:World):
 Calls Tryz.prog 164 #[.int D 0,.int D (lo:Nat),.int D (y:Nat)] w λe c=>e=.returned (.tuple #[.int D ((lo/y:Nat):Int),.int D ((lo%y:Nat):Int)])/\Bl w c:=by
 have f:((y:Int)==0)=false:=BH.2 om;have d:¬(y:Int)<=0:=om
 clear a;go_enter Tryz.func164,Tryz.ntmps164
 go_wp2;go_quiet (fail)
 go_wp2;go_ret2
 refine⟨?_,below_drewN (BB _ _) _⟩;show Ending.returned (.tuple #[.int D (IntKind.u64.wrap ((lo:Int)/y)),.int D ((lo:Int)%y)])=_;rw[<-Fb,DJ _ (CM (C6 _ _) b),<-Int.natCast_emod]
