import Derived.Test.YtcahejkcdcjjgaaGreatDoorW10
set_option linter.all false
open Go.RowKit renaming Hid->B
open Go.IntKind renaming u64->D
set_option maxRecDepth 99999
set_option maxHeartbeats 0
namespace Go.Proofs.YtcahejkcdcjjgaaGreatDoor
open Go.RowKit Go.Shelf
theorem DF:type_of% @Mul64.wrapN:=@Mul64.wrapN
def Bz:=@Mul64.mulN
def BU:=@IntKind.wrap_u64
def BI:=@decide_eq_true
def BG:=@beq_eq_false_iff_ne
variable{U d p r:Nat}
def NU(h:U/d<=4294967297):D.wrap ((U:Int)/(d:Int))=((U/d:Nat):Int):=by
 rw[<-C4,DF _ O]
def NW(h:p+r=U)(a:U<18446744073709551616):D.wrap ((U:Int)-D.wrap ((p:Nat):Int))=(r:Int):=by
 rw[DF _ O,BU];omega
def Iw{q:Nat}(h:1<=q)(a:q<18446744073709551616):D.wrap ((q:Int)-1)=((q-1:Nat):Int):=by
 rw[BU];omega
def Ix(h:r+d<18446744073709551616):D.wrap ((r:Int)+d)=((r+d:Nat):Int):=by
 rw[BU];omega
def NX{u v:Nat}(h:p+v=U*4294967296+u)(a:v<18446744073709551616):D.wrap (D.wrap (D.wrap ((U:Int)*4294967296)+u)-D.wrap ((p:Nat):Int))=(v:Int):=by
 simp only[BU];omega
def Rh(i lo y s X d1 d0 U aj u1 u0:Nat)(ah:i<y)(az:lo<18446744073709551616)(hy:y<18446744073709551616)(w:World)(h0:i≠0)(HS:B (D.wrap (64-(Lib.bitLen y:Int))=(s:Int)))(hs:s<=63)
(HY:B (D.wrap ((y:Int)*2^s)=(X:Int)))(H1:B ((X:Int)/4294967296=(d1:Int)))(H0:B (bits .and D (X:Int) 4294967295=(d0:Int)))
(HU:B (bits .or D (D.wrap ((i:Int)*2^s)) ((lo:Int)/2^(64-s))=(U:Int)))(HL:B (D.wrap ((lo:Int)*2^s)=(aj:Int)))(aq:B ((aj:Int)/4294967296=(u1:Int)))(ap:B (bits .and D (aj:Int) 4294967295=(u0:Int)))
(P:2147483648<=d1)(Q:d1<4294967296)(K:d0<4294967296)(ai:u1<4294967296)(an:u0<4294967296)(hU:U<d1*4294967296+d0)(ad:B (X=d1*4294967296+d0))(ay:B (X=y*2^s))(HN:B ((U*4294967296+u1)*4294967296+u0=(i*Y+lo)*2^s)):
 Calls Tryz.prog 164 #[.int D (i:Nat),.int D (lo:Nat),.int D (y:Nat)] w λe w'=>e=.returned (.tuple #[.int D (((i*Y+lo)/y:Nat):Int),.int D (((i*Y+lo)%y:Nat):Int)])/\w'=w:=by
 have g1:((y:Int)==0)=false:=BG.2 O;have g2:((i:Int)==0)=false:=BG.2 O;go_enter Tryz.func164,Tryz.ntmps164
 go_upto_region 8 with(first
  |(go_at_call 176;refine(Tryz.bits_LeadingZeros64 _ _ O O).mono ?_;rintro e w' ⟨rfl,rfl⟩))
 rw[HS.o];go_upto_region 9 with fail
 rw[HY.o];go_upto_region 10 with fail
 rw[H1.o];go_upto_region 11 with fail
 rw[H0.o];go_upto_region 15 with fail
 rw[HU.o,HL.o,aq.o,ap.o];have hG:=Mr P Q K ai hU;have Qj:((d1:Int)==0)=false:=BG.2 O;have b:=Hid.o (p:=B ((2147483648<=d1/\d1<4294967296)/\(d0<4294967296/\u1<4294967296/\u0<4294967296)/\U<d1*4294967296+d0)) ⟨⟨P,Q⟩,⟨K,ai,an⟩,hU⟩;have j:=Hid.o (p:=B _) hG;clear hG K ai an hU hy h0 HS HY H1 H0 HU HL aq ap g1 g2;go_upto_block 0 with fail
 go_cut [15,16] λE _ w1=>E=.int D ((U*4294967296+u1)/(d1*4294967296+d0):Nat)/\w1=w'
 case first=>
  go_wp2_with fail
  go_loop [15,16] (λE rv=>∃q r:Nat,E=.int D (q:Nat)/\rv=.int D (r:Nat)/\B (Gy U u1 d1 d0 q r)) λE _=>(intOf E).toNat
  case atStart=>
   clear P Q;obtain⟨⟨P,Q⟩,⟨K,ai,an⟩,hU⟩:=b.o;have e1:=NU (U:=U) (d:=d1) j.o.2.2.1;refine⟨U/d1,U%d1,by rw[e1],?_,j⟩;rw[e1,Bz];have n:=j.o.1;rw[NW n O]
  case round=>
   obtain⟨q,r,rfl,rfl,j⟩:=hrel;clear P Q ah hs Qj;have u:B ((4294967296<=q\/4294967296*r+u1<q*d0)->1<=q/\(q-1)*d1+(r+d1)=U/\(U*4294967296+u1)/(d1*4294967296+d0)<=q-1/\q-1<=4294967296):=λg=>Mt j.o b.o.1.1 b.o.2.1.2.1 b.o.2.2 g;have N:B (q*d0<=4294967296*r+u1->q=(U*4294967296+u1)/(d1*4294967296+d0)):=λg=>Ms j.o (by have:=b.o.1.1;omega) g;by_cases g:4294967296<=q
   . obtain⟨F,G,H,I⟩:=u.o (Ar g);have Qi:decide ((4294967296:Int)<=q)=true:=BI O;have R:=Hid.o (p:=B (D.wrap ((q:Int)-1)=((q-1:Nat):Int))) (Iw F O);have S:=Hid.o (p:=B (D.wrap ((r:Int)+d1)=((r+d1:Nat):Int))) (Ix (by have n:=j.o.2.2.2;have h2:=b.o.1.2;omega));have c:=Hid.o (p:=B ((q-1)*d1+(r+d1)=U/\(U*4294967296+u1)/(d1*4294967296+d0)<=q-1/\q-1<=4294967296)) ⟨G,H,I⟩;have M:=Z (show q-1<q by omega);clear g F G H I u N;go_upto_region 19 with fail
     rw[R.o];go_upto_region 20 with fail
     rw[S.o];generalize q-1=z at *;generalize r+d1=f at *;by_cases l:4294967296<=f
     . have W:decide ((4294967296:Int)<=f)=true:=BI O;have e:=Ic c.o.1 c.o.2.1 c.o.2.2 b.o.2.1.1 (by have:=b.o.1.1;omega) l;have o:=Hid.o (p:=B (z=(U*4294967296+u1)/(d1*4294967296+d0))) e;clear l e;go_wp2;go_meet
       case rel=>exact⟨by rw[<-o.o],J⟩
     . have W:decide ((4294967296:Int)<=f)=false:=BF O;have T:=Z (show f<4294967296 by omega);clear l;go_wp2;go_round
       case rel=>exact⟨z,f,J,J,c.o.1,c.o.2.1,by have h9:=c.o.2.2;omega,T.o⟩
       case measure=>(simp[intOf];exact M.o)
   . have Qi:decide ((4294967296:Int)<=q)=false:=BF O;have K:=b.o.2.1.1;have Qe:=j.o.2.2.2;have hm:q*d0<18446744073709551616:=by
      have n:=Ff (show q<=4294967295 by omega) (show d0<=4294967295 by omega);omega
     have E3:D.wrap ((q:Int)*d0)=((q*d0:Nat):Int):=by rw[Bz,DF _ hm]
     have E4:D.wrap (4294967296*(r:Int))=((4294967296*r:Nat):Int):=by rw[BU];omega
     have L:D.wrap (((4294967296*r:Nat):Int)+u1)=((4294967296*r+u1:Nat):Int):=by rw[BU];have:=b.o.2.1.2.1;omega
     by_cases x:4294967296*r+u1<q*d0
     . obtain⟨F,G,H,I⟩:=u.o (Ax x);have v:=x;have R:=Hid.o (p:=B (D.wrap ((q:Int)-1)=((q-1:Nat):Int))) (Iw F O);have S:=Hid.o (p:=B (D.wrap ((r:Int)+d1)=((r+d1:Nat):Int))) (Ix (by have n:=j.o.2.2.2;have h2:=b.o.1.2;omega));have c:=Hid.o (p:=B ((q-1)*d1+(r+d1)=U/\(U*4294967296+u1)/(d1*4294967296+d0)<=q-1/\q-1<=4294967296)) ⟨G,H,I⟩;have M:=Z (show q-1<q by omega);clear g x F G H I u N hm K Qe;generalize q*d0=m at E3 v;generalize 4294967296*r+u1=t at L v;generalize 4294967296*r=rr at E4 L;go_upto_region 19 with fail
       rw[R.o];go_upto_region 20 with fail
       rw[S.o];generalize q-1=z at *;generalize r+d1=f at *;by_cases l:4294967296<=f
       . have W:decide ((4294967296:Int)<=f)=true:=BI O;have e:=Ic c.o.1 c.o.2.1 c.o.2.2 b.o.2.1.1 (by have:=b.o.1.1;omega) l;have o:=Hid.o (p:=B (z=(U*4294967296+u1)/(d1*4294967296+d0))) e;clear l e;go_wp2;go_meet
         case rel=>exact⟨by rw[<-o.o],J⟩
       . have W:decide ((4294967296:Int)<=f)=false:=BF O;have T:=Z (show f<4294967296 by omega);clear l;go_wp2;go_round
         case rel=>exact⟨z,f,J,J,c.o.1,c.o.2.1,by have h9:=c.o.2.2;omega,T.o⟩
         case measure=>(simp[intOf];exact M.o)
     . have o:=Hid.o (p:=B (q=(U*4294967296+u1)/(d1*4294967296+d0))) (N.o O);have v:=x;clear g x u N hm K Qe;generalize q*d0=m at E3 v;generalize 4294967296*r+u1=t at L v;generalize 4294967296*r=rr at E4 L;go_wp2;go_meet
       case rel=>exact⟨by rw[<-o.o],J⟩
 case rest=>
  obtain⟨rfl,rfl⟩:=hcut;have Qo:=Z (J:(U*4294967296+u1)/(d1*4294967296+d0)=(U*4294967296+u1)/(d1*4294967296+d0));obtain⟨V,hV⟩:∃V,V=(U*4294967296+u1)%(d1*4294967296+d0):=⟨_,J⟩;have Ql:=Z hV;have Qc:B (V<d1*4294967296+d0):=by
   show V < _;rw[hV];exact AV _ O
  clear hV;obtain⟨Q1,hQ⟩:∃Q1,Q1=(U*4294967296+u1)/(d1*4294967296+d0):=⟨_,J⟩;rw[<-hQ];have M:=Z hQ;have EV:B (D.wrap (D.wrap (D.wrap ((U:Int)*4294967296)+u1)-D.wrap ((Q1:Int)*X))=(V:Int)):=by
   show _=_;rw[Bz];refine NX ?_ (by have n:=Qc.o;have h2:=b.o.1.2;have h3:=b.o.2.1.1;omega);rw[hQ,Ql.o,ad.o,AO];exact AZ _ _
  have Qf:=Z (Mr P Q b.o.2.1.1 b.o.2.1.2.2 Qc.o);have Qm:=Z (show 2147483648<=d1/\d1<4294967296 from⟨P,Q⟩);clear hQ Qo;go_upto_region 22 with fail
  rw[EV.o];go_upto_block 2 with fail
  go_cut [18,16] λE _ w1=>E=.int D ((V*4294967296+u0)/(d1*4294967296+d0):Nat)/\w1=wc
  case first=>
   go_wp2_with fail
   go_loop [18,16] (λE rv=>∃q r:Nat,E=.int D (q:Nat)/\rv=.int D (r:Nat)/\B (Gy V u0 d1 d0 q r)) λE _=>(intOf E).toNat
   case atStart=>
    have e1:=NU (U:=V) (d:=d1) Qf.o.2.2.1;refine⟨V/d1,V%d1,by rw[e1],?_,Qf⟩;rw[e1,Bz];have n:=Qf.o.1;rw[NW n (by have n:=Qc.o;have h2:=b.o.1.2;have h3:=b.o.2.1.1;omega)]
   case round=>
    obtain⟨q,r,rfl,rfl,j⟩:=hrel;clear P Q ah hs Qj;have u:B ((4294967296<=q\/4294967296*r+u0<q*d0)->1<=q/\(q-1)*d1+(r+d1)=V/\(V*4294967296+u0)/(d1*4294967296+d0)<=q-1/\q-1<=4294967296):=λg=>Mt j.o b.o.1.1 b.o.2.1.2.2 Qc.o g;have N:B (q*d0<=4294967296*r+u0->q=(V*4294967296+u0)/(d1*4294967296+d0)):=λg=>Ms j.o (by have:=b.o.1.1;omega) g;by_cases g:4294967296<=q
    . obtain⟨F,G,H,I⟩:=u.o (Ar g);have Qi:decide ((4294967296:Int)<=q)=true:=BI O;have R:=Hid.o (p:=B (D.wrap ((q:Int)-1)=((q-1:Nat):Int))) (Iw F O);have S:=Hid.o (p:=B (D.wrap ((r:Int)+d1)=((r+d1:Nat):Int))) (Ix (by have n:=j.o.2.2.2;have h2:=b.o.1.2;omega));have c:=Hid.o (p:=B ((q-1)*d1+(r+d1)=V/\(V*4294967296+u0)/(d1*4294967296+d0)<=q-1/\q-1<=4294967296)) ⟨G,H,I⟩;have M:=Z (show q-1<q by omega);clear g F G H I u N;go_upto_region 26 with fail
      rw[R.o];go_upto_region 27 with fail
      rw[S.o];generalize q-1=z at *;generalize r+d1=f at *;by_cases l:4294967296<=f
      . have W:decide ((4294967296:Int)<=f)=true:=BI O;have e:=Ic c.o.1 c.o.2.1 c.o.2.2 b.o.2.1.1 (by have:=b.o.1.1;omega) l;have o:=Hid.o (p:=B (z=(V*4294967296+u0)/(d1*4294967296+d0))) e;clear l e;go_wp2;go_meet
        case rel=>exact⟨by rw[<-o.o],J⟩
      . have W:decide ((4294967296:Int)<=f)=false:=BF O;have T:=Z (show f<4294967296 by omega);clear l;go_wp2;go_round
        case rel=>exact⟨z,f,J,J,c.o.1,c.o.2.1,by have h9:=c.o.2.2;omega,T.o⟩
        case measure=>(simp[intOf];exact M.o)
    . have Qi:decide ((4294967296:Int)<=q)=false:=BF O;have K:=b.o.2.1.1;have Qe:=j.o.2.2.2;have hm:q*d0<18446744073709551616:=by
       have n:=Ff (show q<=4294967295 by omega) (show d0<=4294967295 by omega);omega
      have E3:D.wrap ((q:Int)*d0)=((q*d0:Nat):Int):=by rw[Bz,DF _ hm]
      have E4:D.wrap (4294967296*(r:Int))=((4294967296*r:Nat):Int):=by rw[BU];omega
      have L:D.wrap (((4294967296*r:Nat):Int)+u0)=((4294967296*r+u0:Nat):Int):=by rw[BU];have:=b.o.2.1.2.2;omega
      by_cases x:4294967296*r+u0<q*d0
      . obtain⟨F,G,H,I⟩:=u.o (Ax x);have v:=x;have R:=Hid.o (p:=B (D.wrap ((q:Int)-1)=((q-1:Nat):Int))) (Iw F O);have S:=Hid.o (p:=B (D.wrap ((r:Int)+d1)=((r+d1:Nat):Int))) (Ix (by have n:=j.o.2.2.2;have h2:=b.o.1.2;omega));have c:=Hid.o (p:=B ((q-1)*d1+(r+d1)=V/\(V*4294967296+u0)/(d1*4294967296+d0)<=q-1/\q-1<=4294967296)) ⟨G,H,I⟩;have M:=Z (show q-1<q by omega);clear g x F G H I u N hm K Qe;generalize q*d0=m at E3 v;generalize 4294967296*r+u0=t at L v;generalize 4294967296*r=rr at E4 L;go_upto_region 26 with fail
        rw[R.o];go_upto_region 27 with fail
        rw[S.o];generalize q-1=z at *;generalize r+d1=f at *;by_cases l:4294967296<=f
        . have W:decide ((4294967296:Int)<=f)=true:=BI O;have e:=Ic c.o.1 c.o.2.1 c.o.2.2 b.o.2.1.1 (by have:=b.o.1.1;omega) l;have o:=Hid.o (p:=B (z=(V*4294967296+u0)/(d1*4294967296+d0))) e;clear l e;go_wp2;go_meet
          case rel=>exact⟨by rw[<-o.o],J⟩
        . have W:decide ((4294967296:Int)<=f)=false:=BF O;have T:=Z (show f<4294967296 by omega);clear l;go_wp2;go_round
          case rel=>exact⟨z,f,J,J,c.o.1,c.o.2.1,by have h9:=c.o.2.2;omega,T.o⟩
          case measure=>(simp[intOf];exact M.o)
      . have o:=Hid.o (p:=B (q=(V*4294967296+u0)/(d1*4294967296+d0))) (N.o O);have v:=x;clear g x u N hm K Qe;generalize q*d0=m at E3 v;generalize 4294967296*r+u0=t at L v;generalize 4294967296*r=rr at E4 L;go_wp2;go_meet
        case rel=>exact⟨by rw[<-o.o],J⟩
  case rest=>
   obtain⟨rfl,rfl⟩:=hcut;obtain⟨Q0,ae⟩:∃Q0,Q0=(V*4294967296+u0)/(d1*4294967296+d0):=⟨_,J⟩;rw[<-ae];have Qg:0<d1*4294967296+d0:=O
   have hN:=HN.o;have hh:=Mu (t:=U*4294967296+u1) (k:=4294967296) (un0:=u0) Qg;rw[<-M.o,<-Ql.o,<-ae,hN,<-ad.o,ay.o]at hh;have Qh:=QL (a:=i*Y+lo) (y:=y) (s:=s);rw[Qh.1,Qh.2,<-ay.o,ad.o]at hh;have Qk:(i*Y+lo)/y<18446744073709551616:=by
    rw[AC O];have n:(i+1)*Y<=y*Y:=Ae _ ah;have h2:=az;unfold Y at n ⊢;omega
   have E6:D.wrap (D.wrap (D.wrap ((V:Int)*4294967296)+u0)-D.wrap ((Q0:Int)*X))=(((i*Y+lo)%y*2^s:Nat):Int):=by
    rw[Bz];refine NX ?_ ?_
    . rw[<-hh.2,ae,ad.o,AO];exact AZ _ _
    . rw[<-hh.2];have n:=AV (V*4294967296+u0) Qg;have h3:=b.o.2.1.1;omega
   have E7:D.wrap (D.wrap ((Q1:Int)*4294967296)+Q0)=(((i*Y+lo)/y:Nat):Int):=by
    rw[<-hh.1];rw[<-hh.1]at Qk;simp only[BU];omega
   have E8:((((i*Y+lo)%y*2^s:Nat):Int)/2^s)=(((i*Y+lo)%y:Nat):Int):=by
    rw[show((2:Int)^s)=((2^s:Nat):Int)from by simp,<-C4,Nat.mul_div_cancel _ (A4 s)]
   clear hh Qh hN ae Qg Qk EV Qf Qm P Q ah az Qj;obtain⟨A,hA⟩:∃A,A=(i*Y+lo)/y:=⟨_,J⟩;obtain⟨Bm,ak⟩:∃Bm,Bm=(i*Y+lo)%y:=⟨_,J⟩;rw[<-hA]at E7;rw[<-ak]at E6 E8;have HA:=Z hA;have Qn:=Z ak;clear hA ak;generalize Bm*2^s=C at E6 E8;go_wp2;go_ret2
   refine⟨?_,J⟩;show Ending.returned (.tuple #[.int D (A:Nat),.int D (Bm:Nat)])=_;rw[HA.o,Qn.o]
theorem Ri{a b s:Nat}(h:b<2^s):(a*2^s) ||| b=a*2^s+b:=by
 grind[AO,CH]
def Rj(lo y:Nat)(b:lo<18446744073709551616)(a:0<y)(g:y<18446744073709551616)(w:World):
 Calls Tryz.prog 164 #[.int D 0,.int D (lo:Nat),.int D (y:Nat)] w λe c=>e=.returned (.tuple #[.int D ((lo/y:Nat):Int),.int D ((lo%y:Nat):Int)])/\Bl w c:=by
 have d:((y:Int)==0)=false:=BG.2 O;have f:¬(y:Int)<=0:=O
 clear a;go_enter Tryz.func164,Tryz.ntmps164
 go_wp2;go_quiet (fail)
 go_wp2;go_ret2
 refine⟨?_,below_drewN (BB _ _) _⟩;show Ending.returned (.tuple #[.int D (D.wrap ((lo:Int)/y)),.int D ((lo:Int)%y)])=_;rw[<-C4,DF _ (Cz (CN _ _) b),<-Int.natCast_emod]
