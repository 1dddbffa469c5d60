import Derived.Test.YtcahodpphikgnaaGreatDoorV09
set_option linter.all false
open Go.RowKit renaming Hid->B
open Go.IntKind renaming u64->D
set_option maxRecDepth 99999
set_option maxHeartbeats 0
namespace Go.Proofs.YtcahodpphikgnaaGreatDoor
open Go.RowKit Go.Shelf
theorem Bp:type_of% @Mul64.wrapN:=@Mul64.wrapN
def Bj:=@Mul64.mulN
def BK:=@IntKind.wrap_u64
def BF:=@decide_eq_true
def BE:=@decide_eq_false
variable{U d p r:Nat}
def Hc(h:U/d<=4294967297):D.wrap ((U:Int)/(d:Int))=((U/d:Nat):Int):=by
 rw[<-CI,Bp _ Y]
def Hd(h:p+r=U)(a:U<18446744073709551616):D.wrap ((U:Int)-D.wrap ((p:Nat):Int))=(r:Int):=by
 rw[Bp _ Y,BK];omega
def XX{q:Nat}(h:1<=q)(a:q<18446744073709551616):D.wrap ((q:Int)-1)=((q-1:Nat):Int):=by
 rw[BK];omega
def El(h:r+d<18446744073709551616):D.wrap ((r:Int)+d)=((r+d:Nat):Int):=by
 rw[BK];omega
def He{u v:Nat}(h:p+v=U*4294967296+u)(a:v<18446744073709551616):D.wrap (D.wrap (D.wrap ((U:Int)*4294967296)+u)-D.wrap ((p:Nat):Int))=(v:Int):=by
 simp only[BK];omega
def K9(i lo y s W d1 d0 U aj u1 u0:Nat)(ae:i<y)(aw:lo<18446744073709551616)(hy:y<18446744073709551616)(w:World)(h0:i≠0)(HS:B (D.wrap (64-(Lib.bitLen y:Int))=(s:Int)))(hs:s<=63)
(HY:B (D.wrap ((y:Int)*2^s)=(W:Int)))(H1:B ((W:Int)/4294967296=(d1:Int)))(H0:B (bits .and D (W:Int) 4294967295=(d0:Int)))
(HU:B (bits .or D (D.wrap ((i:Int)*2^s)) ((lo:Int)/2^(64-s))=(U:Int)))(HL:B (D.wrap ((lo:Int)*2^s)=(aj:Int)))(ap:B ((aj:Int)/4294967296=(u1:Int)))(an:B (bits .and D (aj:Int) 4294967295=(u0:Int)))
(N:2147483648<=d1)(P:d1<4294967296)(I:d0<4294967296)(ah:u1<4294967296)(am:u0<4294967296)(hU:U<d1*4294967296+d0)(aa:B (W=d1*4294967296+d0))(aq:B (W=y*2^s))(HN:B ((U*4294967296+u1)*4294967296+u0=(i*O+lo)*2^s)):
 Calls Tryz.prog 109 #[.int D (i:Nat),.int D (lo:Nat),.int D (y:Nat)] w λe w'=>e=.returned (.tuple #[.int D (((i*O+lo)/y:Nat):Int),.int D (((i*O+lo)%y:Nat):Int)])/\w'=w:=by
 have g1:((y:Int)==0)=false:=beq_eq_false_iff_ne.2 Y;have g2:((i:Int)==0)=false:=beq_eq_false_iff_ne.2 Y;go_enter Tryz.func109,Tryz.ntmps109
 go_upto_region 8 with(first
  |(go_at_call 113;refine(Tryz.bits_LeadingZeros64 _ _ Y Y).mono ?_;rintro e w' ⟨rfl,rfl⟩))
 rw[HS.o];go_upto_region 9 with fail
 rw[HY.o];go_upto_region 10 with fail
 rw[H1.o];go_upto_region 11 with fail
 rw[H0.o];go_upto_region 15 with fail
 rw[HU.o,HL.o,ap.o,an.o];have hG:=GT N P I ah hU;have b:=Hid.o (p:=B ((2147483648<=d1/\d1<4294967296)/\(d0<4294967296/\u1<4294967296/\u0<4294967296)/\U<d1*4294967296+d0)) ⟨⟨N,P⟩,⟨I,ah,am⟩,hU⟩;have j:=Hid.o (p:=B _) hG;clear hG I ah am hU hy h0 HS HY H1 H0 HU HL ap an g1 g2;go_upto_block 0 with fail
 go_cut [15,16] λA _ w1=>A=.int D ((U*4294967296+u1)/(d1*4294967296+d0):Nat)/\w1=w'
 case first=>
  go_wp2_with fail
  go_loop [15,16] (λA rv=>∃q r:Nat,A=.int D (q:Nat)/\rv=.int D (r:Nat)/\B (D7 U u1 d1 d0 q r)) λA _=>(intOf A).toNat
  case atStart=>
   clear N P;obtain⟨⟨N,P⟩,⟨I,ah,am⟩,hU⟩:=b.o;have e1:=Hc (U:=U) (d:=d1) j.o.2.2.1;refine⟨U/d1,U%d1,by rw[e1],?_,j⟩;rw[e1,Bj];have n:=j.o.1;rw[Hd n Y]
  case round=>
   obtain⟨q,r,rfl,rfl,j⟩:=hrel;clear N P ae hs;have u:B ((4294967296<=q\/4294967296*r+u1<q*d0)->1<=q/\(q-1)*d1+(r+d1)=U/\(U*4294967296+u1)/(d1*4294967296+d0)<=q-1/\q-1<=4294967296):=λg=>GV j.o b.o.1.1 b.o.2.1.2.1 b.o.2.2 g;have M:B (q*d0<=4294967296*r+u1->q=(U*4294967296+u1)/(d1*4294967296+d0)):=λg=>GU j.o (by have:=b.o.1.1;omega) g;by_cases g:4294967296<=q
   . obtain⟨E,F,G,H⟩:=u.o (Ar g);have Qi:decide ((4294967296:Int)<=q)=true:=BF Y;have Q:=Hid.o (p:=B (D.wrap ((q:Int)-1)=((q-1:Nat):Int))) (XX E Y);have R:=Hid.o (p:=B (D.wrap ((r:Int)+d1)=((r+d1:Nat):Int))) (El (by have n:=j.o.2.2.2;have h2:=b.o.1.2;omega));have c:=Hid.o (p:=B ((q-1)*d1+(r+d1)=U/\(U*4294967296+u1)/(d1*4294967296+d0)<=q-1/\q-1<=4294967296)) ⟨F,G,H⟩;have L:=Z (show q-1<q by omega);clear g E F G H u M;go_upto_region 19 with fail
     rw[Q.o];go_upto_region 20 with fail
     rw[R.o];generalize q-1=z at *;generalize r+d1=f at *;by_cases l:4294967296<=f
     . have T:decide ((4294967296:Int)<=f)=true:=BF Y;have e:=Y4 c.o.1 c.o.2.1 c.o.2.2 b.o.2.1.1 (by have:=b.o.1.1;omega) l;have o:=Hid.o (p:=B (z=(U*4294967296+u1)/(d1*4294967296+d0))) e;clear l e;go_wp2;go_meet
       case rel=>exact⟨by rw[<-o.o],J⟩
     . have T:decide ((4294967296:Int)<=f)=false:=BE Y;have S:=Z (show f<4294967296 by omega);clear l;go_wp2;go_round
       case rel=>exact⟨z,f,J,J,c.o.1,c.o.2.1,by have h9:=c.o.2.2;omega,S.o⟩
       case measure=>(simp[intOf];exact L.o)
   . have Qi:decide ((4294967296:Int)<=q)=false:=BE Y;have I:=b.o.2.1.1;have Qe:=j.o.2.2.2;have hm:q*d0<18446744073709551616:=by
      have n:=CX (show q<=4294967295 by omega) (show d0<=4294967295 by omega);omega
     have E3:D.wrap ((q:Int)*d0)=((q*d0:Nat):Int):=by rw[Bj,Bp _ hm]
     have E4:D.wrap (4294967296*(r:Int))=((4294967296*r:Nat):Int):=by rw[BK];omega
     have K:D.wrap (((4294967296*r:Nat):Int)+u1)=((4294967296*r+u1:Nat):Int):=by rw[BK];have:=b.o.2.1.2.1;omega
     by_cases x:4294967296*r+u1<q*d0
     . obtain⟨E,F,G,H⟩:=u.o (AL x);have v:=x;have Q:=Hid.o (p:=B (D.wrap ((q:Int)-1)=((q-1:Nat):Int))) (XX E Y);have R:=Hid.o (p:=B (D.wrap ((r:Int)+d1)=((r+d1:Nat):Int))) (El (by have n:=j.o.2.2.2;have h2:=b.o.1.2;omega));have c:=Hid.o (p:=B ((q-1)*d1+(r+d1)=U/\(U*4294967296+u1)/(d1*4294967296+d0)<=q-1/\q-1<=4294967296)) ⟨F,G,H⟩;have L:=Z (show q-1<q by omega);clear g x E F G H u M hm I Qe;generalize q*d0=m at E3 v;generalize 4294967296*r+u1=t at K v;generalize 4294967296*r=rr at E4 K;go_upto_region 19 with fail
       rw[Q.o];go_upto_region 20 with fail
       rw[R.o];generalize q-1=z at *;generalize r+d1=f at *;by_cases l:4294967296<=f
       . have T:decide ((4294967296:Int)<=f)=true:=BF Y;have e:=Y4 c.o.1 c.o.2.1 c.o.2.2 b.o.2.1.1 (by have:=b.o.1.1;omega) l;have o:=Hid.o (p:=B (z=(U*4294967296+u1)/(d1*4294967296+d0))) e;clear l e;go_wp2;go_meet
         case rel=>exact⟨by rw[<-o.o],J⟩
       . have T:decide ((4294967296:Int)<=f)=false:=BE Y;have S:=Z (show f<4294967296 by omega);clear l;go_wp2;go_round
         case rel=>exact⟨z,f,J,J,c.o.1,c.o.2.1,by have h9:=c.o.2.2;omega,S.o⟩
         case measure=>(simp[intOf];exact L.o)
     . have o:=Hid.o (p:=B (q=(U*4294967296+u1)/(d1*4294967296+d0))) (M.o Y);have v:=x;clear g x u M hm I Qe;generalize q*d0=m at E3 v;generalize 4294967296*r+u1=t at K v;generalize 4294967296*r=rr at E4 K;go_wp2;go_meet
       case rel=>exact⟨by rw[<-o.o],J⟩
 case rest=>
  obtain⟨rfl,rfl⟩:=hcut;obtain⟨V,hV⟩:∃V,V=(U*4294967296+u1)%(d1*4294967296+d0):=⟨_,J⟩;have Qk:=Z hV;have Qc:B (V<d1*4294967296+d0):=by
   show V < _;rw[hV];exact At _ Y
  clear hV;obtain⟨Q1,hQ⟩:∃Q1,Q1=(U*4294967296+u1)/(d1*4294967296+d0):=⟨_,J⟩;rw[<-hQ];have L:=Z hQ;have EV:B (D.wrap (D.wrap (D.wrap ((U:Int)*4294967296)+u1)-D.wrap ((Q1:Int)*W))=(V:Int)):=by
   show _=_;rw[Bj];refine He ?_ (by have n:=Qc.o;have h2:=b.o.1.2;have h3:=b.o.2.1.1;omega);rw[hQ,Qk.o,aa.o,Am];exact Ay _ _
  have Qf:=Z (GT N P b.o.2.1.1 b.o.2.1.2.2 Qc.o);clear hQ;go_upto_region 22 with fail
  rw[EV.o];go_upto_block 2 with fail
  go_cut [18,16] λA _ w1=>A=.int D ((V*4294967296+u0)/(d1*4294967296+d0):Nat)/\w1=wc
  case first=>
   go_wp2_with fail
   go_loop [18,16] (λA rv=>∃q r:Nat,A=.int D (q:Nat)/\rv=.int D (r:Nat)/\B (D7 V u0 d1 d0 q r)) λA _=>(intOf A).toNat
   case atStart=>
    have e1:=Hc (U:=V) (d:=d1) Qf.o.2.2.1;refine⟨V/d1,V%d1,by rw[e1],?_,Qf⟩;rw[e1,Bj];have n:=Qf.o.1;rw[Hd n (by have n:=Qc.o;have h2:=b.o.1.2;have h3:=b.o.2.1.1;omega)]
   case round=>
    obtain⟨q,r,rfl,rfl,j⟩:=hrel;clear N P ae hs;have u:B ((4294967296<=q\/4294967296*r+u0<q*d0)->1<=q/\(q-1)*d1+(r+d1)=V/\(V*4294967296+u0)/(d1*4294967296+d0)<=q-1/\q-1<=4294967296):=λg=>GV j.o b.o.1.1 b.o.2.1.2.2 Qc.o g;have M:B (q*d0<=4294967296*r+u0->q=(V*4294967296+u0)/(d1*4294967296+d0)):=λg=>GU j.o (by have:=b.o.1.1;omega) g;by_cases g:4294967296<=q
    . obtain⟨E,F,G,H⟩:=u.o (Ar g);have Qi:decide ((4294967296:Int)<=q)=true:=BF Y;have Q:=Hid.o (p:=B (D.wrap ((q:Int)-1)=((q-1:Nat):Int))) (XX E Y);have R:=Hid.o (p:=B (D.wrap ((r:Int)+d1)=((r+d1:Nat):Int))) (El (by have n:=j.o.2.2.2;have h2:=b.o.1.2;omega));have c:=Hid.o (p:=B ((q-1)*d1+(r+d1)=V/\(V*4294967296+u0)/(d1*4294967296+d0)<=q-1/\q-1<=4294967296)) ⟨F,G,H⟩;have L:=Z (show q-1<q by omega);clear g E F G H u M;go_upto_region 26 with fail
      rw[Q.o];go_upto_region 27 with fail
      rw[R.o];generalize q-1=z at *;generalize r+d1=f at *;by_cases l:4294967296<=f
      . have T:decide ((4294967296:Int)<=f)=true:=BF Y;have e:=Y4 c.o.1 c.o.2.1 c.o.2.2 b.o.2.1.1 (by have:=b.o.1.1;omega) l;have o:=Hid.o (p:=B (z=(V*4294967296+u0)/(d1*4294967296+d0))) e;clear l e;go_wp2;go_meet
        case rel=>exact⟨by rw[<-o.o],J⟩
      . have T:decide ((4294967296:Int)<=f)=false:=BE Y;have S:=Z (show f<4294967296 by omega);clear l;go_wp2;go_round
        case rel=>exact⟨z,f,J,J,c.o.1,c.o.2.1,by have h9:=c.o.2.2;omega,S.o⟩
        case measure=>(simp[intOf];exact L.o)
    . have Qi:decide ((4294967296:Int)<=q)=false:=BE Y;have I:=b.o.2.1.1;have Qe:=j.o.2.2.2;have hm:q*d0<18446744073709551616:=by
       have n:=CX (show q<=4294967295 by omega) (show d0<=4294967295 by omega);omega
      have E3:D.wrap ((q:Int)*d0)=((q*d0:Nat):Int):=by rw[Bj,Bp _ hm]
      have E4:D.wrap (4294967296*(r:Int))=((4294967296*r:Nat):Int):=by rw[BK];omega
      have K:D.wrap (((4294967296*r:Nat):Int)+u0)=((4294967296*r+u0:Nat):Int):=by rw[BK];have:=b.o.2.1.2.2;omega
      by_cases x:4294967296*r+u0<q*d0
      . obtain⟨E,F,G,H⟩:=u.o (AL x);have v:=x;have Q:=Hid.o (p:=B (D.wrap ((q:Int)-1)=((q-1:Nat):Int))) (XX E Y);have R:=Hid.o (p:=B (D.wrap ((r:Int)+d1)=((r+d1:Nat):Int))) (El (by have n:=j.o.2.2.2;have h2:=b.o.1.2;omega));have c:=Hid.o (p:=B ((q-1)*d1+(r+d1)=V/\(V*4294967296+u0)/(d1*4294967296+d0)<=q-1/\q-1<=4294967296)) ⟨F,G,H⟩;have L:=Z (show q-1<q by omega);clear g x E F G H u M hm I Qe;generalize q*d0=m at E3 v;generalize 4294967296*r+u0=t at K v;generalize 4294967296*r=rr at E4 K;go_upto_region 26 with fail
        rw[Q.o];go_upto_region 27 with fail
        rw[R.o];generalize q-1=z at *;generalize r+d1=f at *;by_cases l:4294967296<=f
        . have T:decide ((4294967296:Int)<=f)=true:=BF Y;have e:=Y4 c.o.1 c.o.2.1 c.o.2.2 b.o.2.1.1 (by have:=b.o.1.1;omega) l;have o:=Hid.o (p:=B (z=(V*4294967296+u0)/(d1*4294967296+d0))) e;clear l e;go_wp2;go_meet
          case rel=>exact⟨by rw[<-o.o],J⟩
        . have T:decide ((4294967296:Int)<=f)=false:=BE Y;have S:=Z (show f<4294967296 by omega);clear l;go_wp2;go_round
          case rel=>exact⟨z,f,J,J,c.o.1,c.o.2.1,by have h9:=c.o.2.2;omega,S.o⟩
          case measure=>(simp[intOf];exact L.o)
      . have o:=Hid.o (p:=B (q=(V*4294967296+u0)/(d1*4294967296+d0))) (M.o Y);have v:=x;clear g x u M hm I Qe;generalize q*d0=m at E3 v;generalize 4294967296*r+u0=t at K v;generalize 4294967296*r=rr at E4 K;go_wp2;go_meet
        case rel=>exact⟨by rw[<-o.o],J⟩
  case rest=>
   obtain⟨rfl,rfl⟩:=hcut;obtain⟨Q0,ad⟩:∃Q0,Q0=(V*4294967296+u0)/(d1*4294967296+d0):=⟨_,J⟩;rw[<-ad];have Qg:0<d1*4294967296+d0:=Y
   have hN:=HN.o;have X:=GW (t:=U*4294967296+u1) (k:=4294967296) (un0:=u0) Qg;rw[<-L.o,<-Qk.o,<-ad,hN,<-aa.o,aq.o]at X;have Qh:=KF (a:=i*O+lo) (y:=y) (s:=s);rw[Qh.1,Qh.2,<-aq.o,aa.o]at X;have Qj:(i*O+lo)/y<18446744073709551616:=by
    rw[Ah Y];have n:(i+1)*O<=y*O:=Ae _ ae;have h2:=aw;unfold O at n ⊢;omega
   have E6:D.wrap (D.wrap (D.wrap ((V:Int)*4294967296)+u0)-D.wrap ((Q0:Int)*W))=(((i*O+lo)%y*2^s:Nat):Int):=by
    rw[Bj];refine He ?_ ?_
    . rw[<-X.2,ad,aa.o,Am];exact Ay _ _
    . rw[<-X.2];have n:=At (V*4294967296+u0) Qg;have h3:=b.o.2.1.1;omega
   have E7:D.wrap (D.wrap ((Q1:Int)*4294967296)+Q0)=(((i*O+lo)/y:Nat):Int):=by
    rw[<-X.1];rw[<-X.1]at Qj;simp only[BK];omega
   have E8:((((i*O+lo)%y*2^s:Nat):Int)/2^s)=(((i*O+lo)%y:Nat):Int):=by
    rw[show((2:Int)^s)=((2^s:Nat):Int)from by simp,<-CI,Nat.mul_div_cancel _ (AG s)]
   clear X Qh hN ad Qg Qj EV Qf N P ae aw;obtain⟨ai,hA⟩:∃ai,ai=(i*O+lo)/y:=⟨_,J⟩;obtain⟨Bm,ak⟩:∃Bm,Bm=(i*O+lo)%y:=⟨_,J⟩;rw[<-hA]at E7;rw[<-ak]at E6 E8;have HA:=Z hA;have Ql:=Z ak;clear hA ak;generalize Bm*2^s=C at E6 E8;go_wp2;go_ret2
   refine⟨?_,J⟩;show Ending.returned (.tuple #[.int D (ai:Nat),.int D (Bm:Nat)])=_;rw[HA.o,Ql.o]
theorem LA{a b s:Nat}(h:b<2^s):(a*2^s) ||| b=a*2^s+b:=by
 grind[Am,Cq]
def LB(lo y:Nat)(b:lo<18446744073709551616)(a:0<y)(g:y<18446744073709551616)(w:World):
 Calls Tryz.prog 109 #[.int D 0,.int D (lo:Nat),.int D (y:Nat)] w λe c=>e=.returned (.tuple #[.int D ((lo/y:Nat):Int),.int D ((lo%y:Nat):Int)])/\Bl w c:=by
 have d:((y:Int)==0)=false:=beq_eq_false_iff_ne.2 Y;have f:¬(y:Int)<=0:=Y
 clear a;go_enter Tryz.func109,Tryz.ntmps109
 go_wp2;go_quiet (fail)
 go_wp2;go_ret2
 refine⟨?_,below_drewN (BC _ _) _⟩;show Ending.returned (.tuple #[.int D (D.wrap ((lo:Int)/y)),.int D ((lo:Int)%y)])=_;rw[<-CI,Bp _ (Nat.lt_of_le_of_lt (Cu _ _) b),<-Int.natCast_emod]
