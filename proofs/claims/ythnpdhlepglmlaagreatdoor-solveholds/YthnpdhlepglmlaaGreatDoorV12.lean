import Derived.Test.YthnpdhlepglmlaaGreatDoorV10
set_option linter.all false
set_option maxRecDepth 99999
set_option maxHeartbeats 0
namespace Go.Proofs.YthnpdhlepglmlaaGreatDoor
section
open Go.RowKit renaming Hid->B
open Go.IntKind renaming u64->D
open Go.RowKit Go.Shelf
theorem DE:type_of% @Mul64.wrapN:=@Mul64.wrapN
def Bv:=@Mul64.mulN
def BU:=@beq_eq_false_iff_ne
def BP:=@IntKind.wrap_u64
def BK:=@decide_eq_false
def BI:=@decide_eq_true
variable{U d p r:Nat}
def VG(h:U/d<=4294967297):D.wrap ((U:Int)/(d:Int))=((U/d:Nat):Int):=by
 rw[<-Fx,DE _ O]
def VH(h:p+r=U)(a:U<18446744073709551616):D.wrap ((U:Int)-D.wrap ((p:Nat):Int))=(r:Int):=by
 rw[DE _ O,BP];omega
def OT{q:Nat}(h:1<=q)(hq:q<18446744073709551616):D.wrap ((q:Int)-1)=((q-1:Nat):Int):=by
 rw[BP];omega
def OU(h:r+d<18446744073709551616):D.wrap ((r:Int)+d)=((r+d:Nat):Int):=by
 rw[BP];omega
def VI{u v:Nat}(h:p+v=U*4294967296+u)(hv:v<18446744073709551616):D.wrap (D.wrap (D.wrap ((U:Int)*4294967296)+u)-D.wrap ((p:Nat):Int))=(v:Int):=by
 simp only[BP];omega
def iI(hi lo y s X d1 d0 U L u1 u0:Nat)(ai:hi<y)(az:lo<18446744073709551616)(hy:y<18446744073709551616)(w:World)(h0:hi≠0)(HS:B (D.wrap (64-(Lib.bitLen y:Int))=(s:Int)))(hs:s<=63)
(HY:B (D.wrap ((y:Int)*2^s)=(X:Int)))(H1:B ((X:Int)/4294967296=(d1:Int)))(H0:B (bits .and D (X:Int) 4294967295=(d0:Int)))
(HU:B (bits .or D (D.wrap ((hi:Int)*2^s)) ((lo:Int)/2^(64-s))=(U:Int)))(HL:B (D.wrap ((lo:Int)*2^s)=(L:Int)))(aq:B ((L:Int)/4294967296=(u1:Int)))(ap:B (bits .and D (L:Int) 4294967295=(u0:Int)))
(P:2147483648<=d1)(Q:d1<4294967296)(I:d0<4294967296)(aj:u1<4294967296)(an:u0<4294967296)(hU:U<d1*4294967296+d0)(ae:B (X=d1*4294967296+d0))(ay:B (X=y*2^s))(HN:B ((U*4294967296+u1)*4294967296+u0=(hi*Y+lo)*2^s)):
 Calls Tryz.prog 279 #[.int D (hi:Nat),.int D (lo:Nat),.int D (y:Nat)] w λe w'=>e=.returned (.tuple #[.int D (((hi*Y+lo)/y:Nat):Int),.int D (((hi*Y+lo)%y:Nat):Int)])/\w'=w:=by
 have g1:((y:Int)==0)=false:=BU.2 O;have g2:((hi:Int)==0)=false:=BU.2 O;go_enter Tryz.func279,Tryz.ntmps279
 go_upto_region 8 with(first
  |(go_at_call 254;refine(Tryz.bits_LeadingZeros64 _ _ O O).mono ?_;rintro e w' ⟨rfl,rfl⟩))
 rw[HS.o];go_upto_region 9 with fail
 rw[HY.o];go_upto_region 10 with fail
 rw[H1.o];go_upto_region 11 with fail
 rw[H0.o];go_upto_region 15 with fail
 rw[HU.o,HL.o,aq.o,ap.o];have hG:=UE P Q I aj hU;have b:=Hid.o (p:=B ((2147483648<=d1/\d1<4294967296)/\(d0<4294967296/\u1<4294967296/\u0<4294967296)/\U<d1*4294967296+d0)) ⟨⟨P,Q⟩,⟨I,aj,an⟩,hU⟩;have i:=Hid.o (p:=B _) hG;clear hG I aj an hU hy h0 HS HY H1 H0 HU HL aq ap g1 g2;go_upto_block 0 with fail
 go_cut [15,16] λz _ w1=>z=.int D ((U*4294967296+u1)/(d1*4294967296+d0):Nat)/\w1=w'
 case first=>
  go_wp2_with fail
  go_loop [15,16] (λz rv=>∃q r:Nat,z=.int D (q:Nat)/\rv=.int D (r:Nat)/\B (Ma U u1 d1 d0 q r)) λz _=>(intOf z).toNat
  case atStart=>
   clear P Q;obtain⟨⟨P,Q⟩,⟨I,aj,an⟩,hU⟩:=b.o;have e1:=VG (U:=U) (d:=d1) i.o.2.2.1;refine⟨U/d1,U%d1,by rw[e1],?_,i⟩;rw[e1,Bv];have l:=i.o.1;rw[VH l O]
  case round=>
   obtain⟨q,r,rfl,rfl,i⟩:=hrel;clear P Q ai hs;have o:B ((4294967296<=q\/4294967296*r+u1<q*d0)->1<=q/\(q-1)*d1+(r+d1)=U/\(U*4294967296+u1)/(d1*4294967296+d0)<=q-1/\q-1<=4294967296):=λg=>UG i.o b.o.1.1 b.o.2.1.2.1 b.o.2.2 g;have N:B (q*d0<=4294967296*r+u1->q=(U*4294967296+u1)/(d1*4294967296+d0)):=λg=>UF i.o (by have:=b.o.1.1;omega) g;by_cases g:4294967296<=q
   . obtain⟨E,F,G,H⟩:=o.o (An g);have Qi:decide ((4294967296:Int)<=q)=true:=BI O;have R:=Hid.o (p:=B (D.wrap ((q:Int)-1)=((q-1:Nat):Int))) (OT E O);have S:=Hid.o (p:=B (D.wrap ((r:Int)+d1)=((r+d1:Nat):Int))) (OU (by have l:=i.o.2.2.2;have h2:=b.o.1.2;omega));have c:=Hid.o (p:=B ((q-1)*d1+(r+d1)=U/\(U*4294967296+u1)/(d1*4294967296+d0)<=q-1/\q-1<=4294967296)) ⟨F,G,H⟩;have M:=Z (show q-1<q by omega);clear g E F G H o N;go_upto_region 19 with fail
     rw[R.o];go_upto_region 20 with fail
     rw[S.o];generalize q-1=x at *;generalize r+d1=f at *;by_cases j:4294967296<=f
     . have W:decide ((4294967296:Int)<=f)=true:=BI O;have e:=OD c.o.1 c.o.2.1 c.o.2.2 b.o.2.1.1 (by have:=b.o.1.1;omega) j;have n:=Hid.o (p:=B (x=(U*4294967296+u1)/(d1*4294967296+d0))) e;clear j e;go_wp2;go_meet
       case rel=>exact⟨by rw[<-n.o],J⟩
     . have W:decide ((4294967296:Int)<=f)=false:=BK O;have T:=Z (show f<4294967296 by omega);clear j;go_wp2;go_round
       case rel=>exact⟨x,f,J,J,c.o.1,c.o.2.1,by have h9:=c.o.2.2;omega,T.o⟩
       case measure=>(simp[intOf];exact M.o)
   . have Qi:decide ((4294967296:Int)<=q)=false:=BK O;have I:=b.o.2.1.1;have Qe:=i.o.2.2.2;have hm:q*d0<18446744073709551616:=by
      have l:=CE (show q<=4294967295 by omega) (show d0<=4294967295 by omega);omega
     have E3:D.wrap ((q:Int)*d0)=((q*d0:Nat):Int):=by rw[Bv,DE _ hm]
     have E4:D.wrap (4294967296*(r:Int))=((4294967296*r:Nat):Int):=by rw[BP];omega
     have K:D.wrap (((4294967296*r:Nat):Int)+u1)=((4294967296*r+u1:Nat):Int):=by rw[BP];have:=b.o.2.1.2.1;omega
     by_cases v:4294967296*r+u1<q*d0
     . obtain⟨E,F,G,H⟩:=o.o (Ap v);have u:=v;have R:=Hid.o (p:=B (D.wrap ((q:Int)-1)=((q-1:Nat):Int))) (OT E O);have S:=Hid.o (p:=B (D.wrap ((r:Int)+d1)=((r+d1:Nat):Int))) (OU (by have l:=i.o.2.2.2;have h2:=b.o.1.2;omega));have c:=Hid.o (p:=B ((q-1)*d1+(r+d1)=U/\(U*4294967296+u1)/(d1*4294967296+d0)<=q-1/\q-1<=4294967296)) ⟨F,G,H⟩;have M:=Z (show q-1<q by omega);clear g v E F G H o N hm I Qe;generalize q*d0=m at E3 u;generalize 4294967296*r+u1=t at K u;generalize 4294967296*r=rr at E4 K;go_upto_region 19 with fail
       rw[R.o];go_upto_region 20 with fail
       rw[S.o];generalize q-1=x at *;generalize r+d1=f at *;by_cases j:4294967296<=f
       . have W:decide ((4294967296:Int)<=f)=true:=BI O;have e:=OD c.o.1 c.o.2.1 c.o.2.2 b.o.2.1.1 (by have:=b.o.1.1;omega) j;have n:=Hid.o (p:=B (x=(U*4294967296+u1)/(d1*4294967296+d0))) e;clear j e;go_wp2;go_meet
         case rel=>exact⟨by rw[<-n.o],J⟩
       . have W:decide ((4294967296:Int)<=f)=false:=BK O;have T:=Z (show f<4294967296 by omega);clear j;go_wp2;go_round
         case rel=>exact⟨x,f,J,J,c.o.1,c.o.2.1,by have h9:=c.o.2.2;omega,T.o⟩
         case measure=>(simp[intOf];exact M.o)
     . have n:=Hid.o (p:=B (q=(U*4294967296+u1)/(d1*4294967296+d0))) (N.o O);have u:=v;clear g v o N hm I Qe;generalize q*d0=m at E3 u;generalize 4294967296*r+u1=t at K u;generalize 4294967296*r=rr at E4 K;go_wp2;go_meet
       case rel=>exact⟨by rw[<-n.o],J⟩
 case rest=>
  obtain⟨rfl,rfl⟩:=hcut;obtain⟨V,hV⟩:∃V,V=(U*4294967296+u1)%(d1*4294967296+d0):=⟨_,J⟩;have Qk:=Z hV;have Qc:B (V<d1*4294967296+d0):=by
   show V < _;rw[hV];exact CC _ O
  clear hV;obtain⟨Q1,hQ⟩:∃Q1,Q1=(U*4294967296+u1)/(d1*4294967296+d0):=⟨_,J⟩;rw[<-hQ];have M:=Z hQ;have EV:B (D.wrap (D.wrap (D.wrap ((U:Int)*4294967296)+u1)-D.wrap ((Q1:Int)*X))=(V:Int)):=by
   show _=_;rw[Bv];refine VI ?_ (by have l:=Qc.o;have h2:=b.o.1.2;have h3:=b.o.2.1.1;omega);rw[hQ,Qk.o,ae.o,A4];exact Cv _ _
  have Qf:=Z (UE P Q b.o.2.1.1 b.o.2.1.2.2 Qc.o);clear hQ;go_upto_region 22 with fail
  rw[EV.o];go_upto_block 2 with fail
  go_cut [18,16] λz _ w1=>z=.int D ((V*4294967296+u0)/(d1*4294967296+d0):Nat)/\w1=wc
  case first=>
   go_wp2_with fail
   go_loop [18,16] (λz rv=>∃q r:Nat,z=.int D (q:Nat)/\rv=.int D (r:Nat)/\B (Ma V u0 d1 d0 q r)) λz _=>(intOf z).toNat
   case atStart=>
    have e1:=VG (U:=V) (d:=d1) Qf.o.2.2.1;refine⟨V/d1,V%d1,by rw[e1],?_,Qf⟩;rw[e1,Bv];have l:=Qf.o.1;rw[VH l (by have l:=Qc.o;have h2:=b.o.1.2;have h3:=b.o.2.1.1;omega)]
   case round=>
    obtain⟨q,r,rfl,rfl,i⟩:=hrel;clear P Q ai hs;have o:B ((4294967296<=q\/4294967296*r+u0<q*d0)->1<=q/\(q-1)*d1+(r+d1)=V/\(V*4294967296+u0)/(d1*4294967296+d0)<=q-1/\q-1<=4294967296):=λg=>UG i.o b.o.1.1 b.o.2.1.2.2 Qc.o g;have N:B (q*d0<=4294967296*r+u0->q=(V*4294967296+u0)/(d1*4294967296+d0)):=λg=>UF i.o (by have:=b.o.1.1;omega) g;by_cases g:4294967296<=q
    . obtain⟨E,F,G,H⟩:=o.o (An g);have Qi:decide ((4294967296:Int)<=q)=true:=BI O;have R:=Hid.o (p:=B (D.wrap ((q:Int)-1)=((q-1:Nat):Int))) (OT E O);have S:=Hid.o (p:=B (D.wrap ((r:Int)+d1)=((r+d1:Nat):Int))) (OU (by have l:=i.o.2.2.2;have h2:=b.o.1.2;omega));have c:=Hid.o (p:=B ((q-1)*d1+(r+d1)=V/\(V*4294967296+u0)/(d1*4294967296+d0)<=q-1/\q-1<=4294967296)) ⟨F,G,H⟩;have M:=Z (show q-1<q by omega);clear g E F G H o N;go_upto_region 26 with fail
      rw[R.o];go_upto_region 27 with fail
      rw[S.o];generalize q-1=x at *;generalize r+d1=f at *;by_cases j:4294967296<=f
      . have W:decide ((4294967296:Int)<=f)=true:=BI O;have e:=OD c.o.1 c.o.2.1 c.o.2.2 b.o.2.1.1 (by have:=b.o.1.1;omega) j;have n:=Hid.o (p:=B (x=(V*4294967296+u0)/(d1*4294967296+d0))) e;clear j e;go_wp2;go_meet
        case rel=>exact⟨by rw[<-n.o],J⟩
      . have W:decide ((4294967296:Int)<=f)=false:=BK O;have T:=Z (show f<4294967296 by omega);clear j;go_wp2;go_round
        case rel=>exact⟨x,f,J,J,c.o.1,c.o.2.1,by have h9:=c.o.2.2;omega,T.o⟩
        case measure=>(simp[intOf];exact M.o)
    . have Qi:decide ((4294967296:Int)<=q)=false:=BK O;have I:=b.o.2.1.1;have Qe:=i.o.2.2.2;have hm:q*d0<18446744073709551616:=by
       have l:=CE (show q<=4294967295 by omega) (show d0<=4294967295 by omega);omega
      have E3:D.wrap ((q:Int)*d0)=((q*d0:Nat):Int):=by rw[Bv,DE _ hm]
      have E4:D.wrap (4294967296*(r:Int))=((4294967296*r:Nat):Int):=by rw[BP];omega
      have K:D.wrap (((4294967296*r:Nat):Int)+u0)=((4294967296*r+u0:Nat):Int):=by rw[BP];have:=b.o.2.1.2.2;omega
      by_cases v:4294967296*r+u0<q*d0
      . obtain⟨E,F,G,H⟩:=o.o (Ap v);have u:=v;have R:=Hid.o (p:=B (D.wrap ((q:Int)-1)=((q-1:Nat):Int))) (OT E O);have S:=Hid.o (p:=B (D.wrap ((r:Int)+d1)=((r+d1:Nat):Int))) (OU (by have l:=i.o.2.2.2;have h2:=b.o.1.2;omega));have c:=Hid.o (p:=B ((q-1)*d1+(r+d1)=V/\(V*4294967296+u0)/(d1*4294967296+d0)<=q-1/\q-1<=4294967296)) ⟨F,G,H⟩;have M:=Z (show q-1<q by omega);clear g v E F G H o N hm I Qe;generalize q*d0=m at E3 u;generalize 4294967296*r+u0=t at K u;generalize 4294967296*r=rr at E4 K;go_upto_region 26 with fail
        rw[R.o];go_upto_region 27 with fail
        rw[S.o];generalize q-1=x at *;generalize r+d1=f at *;by_cases j:4294967296<=f
        . have W:decide ((4294967296:Int)<=f)=true:=BI O;have e:=OD c.o.1 c.o.2.1 c.o.2.2 b.o.2.1.1 (by have:=b.o.1.1;omega) j;have n:=Hid.o (p:=B (x=(V*4294967296+u0)/(d1*4294967296+d0))) e;clear j e;go_wp2;go_meet
          case rel=>exact⟨by rw[<-n.o],J⟩
        . have W:decide ((4294967296:Int)<=f)=false:=BK O;have T:=Z (show f<4294967296 by omega);clear j;go_wp2;go_round
          case rel=>exact⟨x,f,J,J,c.o.1,c.o.2.1,by have h9:=c.o.2.2;omega,T.o⟩
          case measure=>(simp[intOf];exact M.o)
      . have n:=Hid.o (p:=B (q=(V*4294967296+u0)/(d1*4294967296+d0))) (N.o O);have u:=v;clear g v o N hm I Qe;generalize q*d0=m at E3 u;generalize 4294967296*r+u0=t at K u;generalize 4294967296*r=rr at E4 K;go_wp2;go_meet
        case rel=>exact⟨by rw[<-n.o],J⟩
  case rest=>
   obtain⟨rfl,rfl⟩:=hcut;obtain⟨Q0,ah⟩:∃Q0,Q0=(V*4294967296+u0)/(d1*4294967296+d0):=⟨_,J⟩;rw[<-ah];have Qg:0<d1*4294967296+d0:=O
   have hN:=HN.o;have hh:=fT (t:=U*4294967296+u1) (k:=4294967296) (un0:=u0) Qg;rw[<-M.o,<-Qk.o,<-ah,hN,<-ae.o,ay.o]at hh;have Qh:=fU (a:=hi*Y+lo) (y:=y) (s:=s);rw[Qh.1,Qh.2,<-ay.o,ae.o]at hh;have Qj:(hi*Y+lo)/y<18446744073709551616:=by
    rw[Cb O];have l:(hi+1)*Y<=y*Y:=Af _ ai;have h2:=az;unfold Y at l ⊢;omega
   have E6:D.wrap (D.wrap (D.wrap ((V:Int)*4294967296)+u0)-D.wrap ((Q0:Int)*X))=(((hi*Y+lo)%y*2^s:Nat):Int):=by
    rw[Bv];refine VI ?_ ?_
    . rw[<-hh.2,ah,ae.o,A4];exact Cv _ _
    . rw[<-hh.2];have l:=CC (V*4294967296+u0) Qg;have h3:=b.o.2.1.1;omega
   have E7:D.wrap (D.wrap ((Q1:Int)*4294967296)+Q0)=(((hi*Y+lo)/y:Nat):Int):=by
    rw[<-hh.1];rw[<-hh.1]at Qj;simp only[BP];omega
   have E8:((((hi*Y+lo)%y*2^s:Nat):Int)/2^s)=(((hi*Y+lo)%y:Nat):Int):=by
    rw[show((2:Int)^s)=((2^s:Nat):Int)from by simp,<-Fx,Nat.mul_div_cancel _ (Cp s)]
   clear hh Qh hN ah Qg Qj EV Qf P Q ai az;obtain⟨A,hA⟩:∃A,A=(hi*Y+lo)/y:=⟨_,J⟩;obtain⟨Bm,am⟩:∃Bm,Bm=(hi*Y+lo)%y:=⟨_,J⟩;rw[<-hA]at E7;rw[<-am]at E6 E8;have HA:=Z hA;have Ql:=Z am;clear hA am;generalize Bm*2^s=C at E6 E8;go_wp2;go_ret2
   refine⟨?_,J⟩;show Ending.returned (.tuple #[.int D (A:Nat),.int D (Bm:Nat)])=_;rw[HA.o,Ql.o]
theorem iJ{a b s:Nat}(h:b<2^s):(a*2^s) ||| b=a*2^s+b:=by
 grind[A4,Fu]
def iK(lo y:Nat)(b:lo<18446744073709551616)(a:0<y)(f:y<18446744073709551616)(w:World):
 Calls Tryz.prog 279 #[.int D 0,.int D (lo:Nat),.int D (y:Nat)] w λe w'=>e=.returned (.tuple #[.int D ((lo/y:Nat):Int),.int D ((lo%y:Nat):Int)])/\Bl w w':=by
 have c:((y:Int)==0)=false:=BU.2 O;have d:¬(y:Int)<=0:=O
 clear a;go_enter Tryz.func279,Tryz.ntmps279
 go_wp2;go_quiet (fail)
 go_wp2;go_ret2
 refine⟨?_,below_drewN (BB _ _) _⟩;show Ending.returned (.tuple #[.int D (D.wrap ((lo:Int)/y)),.int D ((lo:Int)%y)])=_;rw[<-Fx,DE _ (CO (FB _ _) b),<-Int.natCast_emod]
end
open Go.RowKit Go.Shelf
def bitLen_spec(x:Nat)(a:x≠0)(d:x<2^64):1<=Lib.bitLen x/\2^(Lib.bitLen x-1)<=x/\x<2^Lib.bitLen x:=by
 induction x using Nat.strongRecOn with
 |ind x f=>
  have e:=Lib.bitLen_half x a d;by_cases b:x/2=0
  . have c:x=1:=O
    subst c;rw[e]
    have:Lib.bitLen (1/2)=0:=DK
    rw[this];decide
  . obtain⟨g,i,j⟩:=f (x/2) O b O;rw[e];refine⟨O,?_,?_⟩
    . rw[show 1+Lib.bitLen (x/2)-1=Lib.bitLen (x/2)-1+1 from by omega,Cy];omega
    grind
def iL{lo s:Nat}(hs:s<=63)(a:lo<2^64):lo/2^(64-s)<2^s:=by
 rw[Cb (Cp _),<-C9,show s+(64-s)=64 from by omega];exact a
def iM(U L:Nat):(U*4294967296+L/4294967296)*4294967296+L%4294967296=U*18446744073709551616+L:=by
 omega
def VJ(hi lo y:Nat)(j:hi<y)(d:lo<Y)(c:y<Y)(w:World):
 Calls Tryz.prog 279 #[.int .u64 (hi:Nat),.int .u64 (lo:Nat),.int .u64 (y:Nat)] w λe w'=>e=.returned (.tuple #[.int .u64 (((hi*Y+lo)/y:Nat):Int),.int .u64 (((hi*Y+lo)%y:Nat):Int)])/\Bl w w':=by
 have hb:Y=2^64:=by unfold Y;decide
 by_cases m:hi=0
 . subst m;rw[Nat.zero_mul,A7];unfold Y at d c;exact iK lo y d j c w
 . rw[hb]at d c;have r:y≠0:=O
   obtain⟨l1,l2,z⟩:=bitLen_spec y r c;have C:Lib.bitLen y<=64:=Lib.bitLen_le y 64 O c;obtain⟨s,hs⟩:∃s,s=64-Lib.bitLen y:=⟨_,J⟩;have k:s<=63:=O
   have hp:=Cp s;have y1:y*2^s<2^64:=by
    have b:y*2^s<2^Lib.bitLen y*2^s:=Nat.mul_lt_mul_of_pos_right z hp;rw[<-C9,show Lib.bitLen y+s=64 from by omega]at b;exact b
   have y2:2^63<=y*2^s:=by
    have b:2^(Lib.bitLen y-1)*2^s<=y*2^s:=Af _ l2;rw[<-C9,show Lib.bitLen y-1+s=63 from by omega]at b;exact b
   have hh:hi*2^s+2^s<=y*2^s:=by
    have b:(hi+1)*2^s<=y*2^s:=Af _ j;rw[Ck,FY]at b;exact b
   have x:=iL k d;have o:(2:Nat)^64=18446744073709551616:=DK
   obtain⟨a,i⟩:∃a,a=y*2^s:=⟨_,J⟩;obtain⟨U,g⟩:∃U,U=hi*2^s+lo/2^(64-s):=⟨_,J⟩;obtain⟨L,f⟩:∃L,L=lo*2^s%18446744073709551616:=⟨_,J⟩;have p:L<18446744073709551616:=by rw[f];exact CC _ DK
   have B:U<a:=by rw[g,i];omega
   rw[<-i]at y1 y2;have n:((2:Int)^s)=((2^s:Nat):Int):=DI
   have q:((2:Int)^(64-s))=((2^(64-s):Nat):Int):=DI
   have t:U*18446744073709551616+L=(hi*Y+lo)*2^s:=by
    have u:lo*2^s/18446744073709551616=lo/2^(64-s):=by
     rw[<-o,show(2:Nat)^64=2^(64-s)*2^s from by rw[<-C9];congr 1;omega];exact Nat.mul_div_mul_right _ _ hp
    have l:=Cv (lo*2^s) 18446744073709551616;rw[u,<-f]at l;rw[g,Ck,Ck,<-l];unfold Y;rw[Nat.mul_right_comm];generalize hi*18446744073709551616*2^s=A;omega
   have v:=iM U L;refine(iI hi lo y s a (a/4294967296) (a%4294967296) U L (L/4294967296) (L%4294967296) j O O w m ?_ k ?_ ?_ ?_ ?_ ?_ ?_ ?_ O O O O O O ?_ i ?_).mono ?_
   . show IntKind.u64.wrap _=_;rw[BP,hs];omega
   . show IntKind.u64.wrap _=_;grind[DE]
   . exact Mul64.divN a
   . exact Mul64.maskN a O
   . show bits .or .u64 _ _=_;rw[n,q,Bv,<-Fx,DE _ O,u64_or_nat _ _ O O,iJ x,g]
   . show IntKind.u64.wrap _=_;rw[n,Bv,Mul64.wrapM,f]
   . exact Mul64.divN L
   . exact Mul64.maskN L p
   . show a=_;omega
   . exact v.trans t
   . rintro e w' ⟨rfl,rfl⟩;exact⟨J,BB _ _⟩
