import Derived.Test.YtakpoihdghihmaaGreatDoorU10
import Derived.Deep.DeepCutAuto
import Derived.Deep.CutBlock
set_option linter.all false
open Go.RowKit renaming Hid->B
open Go.IntKind renaming u64->D
set_option maxRecDepth 99999
set_option maxHeartbeats 0
namespace Go.Proofs.YtakpoihdghihmaaGreatDoor
open Go.RowKit Go.Shelf
theorem DA:type_of% @Mul64.wrapN:=@Mul64.wrapN
def Bw:=@Mul64.mulN
def BT:=@IntKind.wrap_u64
def BI:=@beq_eq_false_iff_ne
def BH:=@decide_eq_true
variable{U d p r:Nat}
def Rx(h:U/d<=4294967297):D.wrap ((U:Int)/(d:Int))=((U/d:Nat):Int):=by
 rw[<-FB,DA _ O]
def Ry(h:p+r=U)(a:U<18446744073709551616):D.wrap ((U:Int)-D.wrap ((p:Nat):Int))=(r:Int):=by
 rw[DA _ O,BT];omega
def Mk{q:Nat}(h:1<=q)(hq:q<18446744073709551616):D.wrap ((q:Int)-1)=((q-1:Nat):Int):=by
 rw[BT];omega
def Ml(h:r+d<18446744073709551616):D.wrap ((r:Int)+d)=((r+d:Nat):Int):=by
 rw[BT];omega
def Rz{u v:Nat}(h:p+v=U*4294967296+u)(a:v<18446744073709551616):D.wrap (D.wrap (D.wrap ((U:Int)*4294967296)+u)-D.wrap ((p:Nat):Int))=(v:Int):=by
 simp only[BT];omega
def Zx(i lo y s ad d1 d0 U L u1 u0:Nat)(ai:i<y)(ay:lo<18446744073709551616)(hy:y<18446744073709551616)(w:World)(h0:i≠0)(HS:B (D.wrap (64-(Lib.bitLen y:Int))=(s:Int)))(hs:s<=63)
(HY:B (D.wrap ((y:Int)*2^s)=(ad:Int)))(H1:B ((ad:Int)/4294967296=(d1:Int)))(H0:B (bits .and D (ad:Int) 4294967295=(d0:Int)))
(HU:B (bits .or D (D.wrap ((i:Int)*2^s)) ((lo:Int)/2^(64-s))=(U:Int)))(HL:B (D.wrap ((lo:Int)*2^s)=(L:Int)))(ap:B ((L:Int)/4294967296=(u1:Int)))(an:B (bits .and D (L:Int) 4294967295=(u0:Int)))
(Q:2147483648<=d1)(R:d1<4294967296)(K:d0<4294967296)(aj:u1<4294967296)(am:u0<4294967296)(hU:U<d1*4294967296+d0)(ae:B (ad=d1*4294967296+d0))(aq:B (ad=y*2^s))(HN:B ((U*4294967296+u1)*4294967296+u0=(i*Z+lo)*2^s)):
 Calls Tryz.prog 219 #[.int D (i:Nat),.int D (lo:Nat),.int D (y:Nat)] w λe w'=>e=.returned (.tuple #[.int D (((i*Z+lo)/y:Nat):Int),.int D (((i*Z+lo)%y:Nat):Int)])/\w'=w:=by
 have g1:((y:Int)==0)=false:=BI.2 O;have g2:((i:Int)==0)=false:=BI.2 O;go_enter Tryz.func219,Tryz.ntmps219
 go_upto_region 8 with(first
  |(go_at_call 200;refine(Tryz.bits_LeadingZeros64 _ _ O O).mono ?_;rintro e w' ⟨rfl,rfl⟩))
 rw[HS.o];go_upto_region 9 with fail
 rw[HY.o];go_upto_region 10 with fail
 rw[H1.o];go_upto_region 11 with fail
 rw[H0.o];go_upto_region 15 with fail
 rw[HU.o,HL.o,ap.o,an.o];have hG:=RV Q R K aj hU;have Qj:((d1:Int)==0)=false:=BI.2 O;have b:=Hid.o (p:=B ((2147483648<=d1/\d1<4294967296)/\(d0<4294967296/\u1<4294967296/\u0<4294967296)/\U<d1*4294967296+d0)) ⟨⟨Q,R⟩,⟨K,aj,am⟩,hU⟩;have j:=Hid.o (p:=B _) hG;clear hG K aj am hU hy h0 HS HY H1 H0 HU HL ap an g1 g2;go_upto_block 0 with fail
 go_cut [15,16] λE _ w1=>E=.int D ((U*4294967296+u1)/(d1*4294967296+d0):Nat)/\w1=w'
 case first=>
  go_wp2_with fail
  go_loop [15,16] (λE rv=>∃q r:Nat,E=.int D (q:Nat)/\rv=.int D (r:Nat)/\B (LK U u1 d1 d0 q r)) λE _=>(intOf E).toNat
  case atStart=>
   clear Q R;obtain⟨⟨Q,R⟩,⟨K,aj,am⟩,hU⟩:=b.o;have e1:=Rx (U:=U) (d:=d1) j.o.2.2.1;refine⟨U/d1,U%d1,by rw[e1],?_,j⟩;rw[e1,Bw];have n:=j.o.1;rw[Ry n O]
  case round=>
   obtain⟨q,r,rfl,rfl,j⟩:=hrel;clear Q R ai hs Qj;have u:B ((4294967296<=q\/4294967296*r+u1<q*d0)->1<=q/\(q-1)*d1+(r+d1)=U/\(U*4294967296+u1)/(d1*4294967296+d0)<=q-1/\q-1<=4294967296):=λg=>RX j.o b.o.1.1 b.o.2.1.2.1 b.o.2.2 g;have P:B (q*d0<=4294967296*r+u1->q=(U*4294967296+u1)/(d1*4294967296+d0)):=λg=>RW j.o (by have:=b.o.1.1;omega) g;by_cases g:4294967296<=q
   . obtain⟨F,G,H,I⟩:=u.o (An g);have Qi:decide ((4294967296:Int)<=q)=true:=BH O;have S:=Hid.o (p:=B (D.wrap ((q:Int)-1)=((q-1:Nat):Int))) (Mk F O);have T:=Hid.o (p:=B (D.wrap ((r:Int)+d1)=((r+d1:Nat):Int))) (Ml (by have n:=j.o.2.2.2;have h2:=b.o.1.2;omega));have c:=Hid.o (p:=B ((q-1)*d1+(r+d1)=U/\(U*4294967296+u1)/(d1*4294967296+d0)<=q-1/\q-1<=4294967296)) ⟨G,H,I⟩;have N:=Y (show q-1<q by omega);clear g F G H I u P;go_upto_region 19 with fail
     rw[S.o];go_upto_region 20 with fail
     rw[T.o];generalize q-1=z at *;generalize r+d1=f at *;by_cases l:4294967296<=f
     . have X:decide ((4294967296:Int)<=f)=true:=BH O;have e:=MQ c.o.1 c.o.2.1 c.o.2.2 b.o.2.1.1 (by have:=b.o.1.1;omega) l;have o:=Hid.o (p:=B (z=(U*4294967296+u1)/(d1*4294967296+d0))) e;clear l e;go_wp2;go_meet
       case rel=>exact⟨by rw[<-o.o],J⟩
     . have X:decide ((4294967296:Int)<=f)=false:=BE O;have W:=Y (show f<4294967296 by omega);clear l;go_wp2;go_round
       case rel=>exact⟨z,f,J,J,c.o.1,c.o.2.1,by have h9:=c.o.2.2;omega,W.o⟩
       case measure=>(simp[intOf];exact N.o)
   . have Qi:decide ((4294967296:Int)<=q)=false:=BE O;have K:=b.o.2.1.1;have Qe:=j.o.2.2.2;have hm:q*d0<18446744073709551616:=by
      have n:=Ci (show q<=4294967295 by omega) (show d0<=4294967295 by omega);omega
     have E3:D.wrap ((q:Int)*d0)=((q*d0:Nat):Int):=by rw[Bw,DA _ hm]
     have E4:D.wrap (4294967296*(r:Int))=((4294967296*r:Nat):Int):=by rw[BT];omega
     have M:D.wrap (((4294967296*r:Nat):Int)+u1)=((4294967296*r+u1:Nat):Int):=by rw[BT];have:=b.o.2.1.2.1;omega
     by_cases x:4294967296*r+u1<q*d0
     . obtain⟨F,G,H,I⟩:=u.o (Au x);have v:=x;have S:=Hid.o (p:=B (D.wrap ((q:Int)-1)=((q-1:Nat):Int))) (Mk F O);have T:=Hid.o (p:=B (D.wrap ((r:Int)+d1)=((r+d1:Nat):Int))) (Ml (by have n:=j.o.2.2.2;have h2:=b.o.1.2;omega));have c:=Hid.o (p:=B ((q-1)*d1+(r+d1)=U/\(U*4294967296+u1)/(d1*4294967296+d0)<=q-1/\q-1<=4294967296)) ⟨G,H,I⟩;have N:=Y (show q-1<q by omega);clear g x F G H I u P hm K Qe;generalize q*d0=m at E3 v;generalize 4294967296*r+u1=t at M v;generalize 4294967296*r=rr at E4 M;go_upto_region 19 with fail
       rw[S.o];go_upto_region 20 with fail
       rw[T.o];generalize q-1=z at *;generalize r+d1=f at *;by_cases l:4294967296<=f
       . have X:decide ((4294967296:Int)<=f)=true:=BH O;have e:=MQ c.o.1 c.o.2.1 c.o.2.2 b.o.2.1.1 (by have:=b.o.1.1;omega) l;have o:=Hid.o (p:=B (z=(U*4294967296+u1)/(d1*4294967296+d0))) e;clear l e;go_wp2;go_meet
         case rel=>exact⟨by rw[<-o.o],J⟩
       . have X:decide ((4294967296:Int)<=f)=false:=BE O;have W:=Y (show f<4294967296 by omega);clear l;go_wp2;go_round
         case rel=>exact⟨z,f,J,J,c.o.1,c.o.2.1,by have h9:=c.o.2.2;omega,W.o⟩
         case measure=>(simp[intOf];exact N.o)
     . have o:=Hid.o (p:=B (q=(U*4294967296+u1)/(d1*4294967296+d0))) (P.o O);have v:=x;clear g x u P hm K Qe;generalize q*d0=m at E3 v;generalize 4294967296*r+u1=t at M v;generalize 4294967296*r=rr at E4 M;go_wp2;go_meet
       case rel=>exact⟨by rw[<-o.o],J⟩
 case rest=>
  obtain⟨rfl,rfl⟩:=hcut;have Qo:=Y (J:(U*4294967296+u1)/(d1*4294967296+d0)=(U*4294967296+u1)/(d1*4294967296+d0));obtain⟨V,hV⟩:∃V,V=(U*4294967296+u1)%(d1*4294967296+d0):=⟨_,J⟩;have Ql:=Y hV;have Qc:B (V<d1*4294967296+d0):=by
   show V < _;rw[hV];exact A9 _ O
  clear hV;obtain⟨Q1,hQ⟩:∃Q1,Q1=(U*4294967296+u1)/(d1*4294967296+d0):=⟨_,J⟩;rw[<-hQ];have N:=Y hQ;have EV:B (D.wrap (D.wrap (D.wrap ((U:Int)*4294967296)+u1)-D.wrap ((Q1:Int)*ad))=(V:Int)):=by
   show _=_;rw[Bw];refine Rz ?_ (by have n:=Qc.o;have h2:=b.o.1.2;have h3:=b.o.2.1.1;omega);rw[hQ,Ql.o,ae.o,AD];exact Ce _ _
  have Qf:=Y (RV Q R b.o.2.1.1 b.o.2.1.2.2 Qc.o);have Qm:=Y (show 2147483648<=d1/\d1<4294967296 from⟨Q,R⟩);clear hQ Qo;go_upto_region 22 with fail
  rw[EV.o];go_upto_block 2 with fail
  go_cut [18,16] λE _ w1=>E=.int D ((V*4294967296+u0)/(d1*4294967296+d0):Nat)/\w1=wc
  case first=>
   go_wp2_with fail
   go_loop [18,16] (λE rv=>∃q r:Nat,E=.int D (q:Nat)/\rv=.int D (r:Nat)/\B (LK V u0 d1 d0 q r)) λE _=>(intOf E).toNat
   case atStart=>
    have e1:=Rx (U:=V) (d:=d1) Qf.o.2.2.1;refine⟨V/d1,V%d1,by rw[e1],?_,Qf⟩;rw[e1,Bw];have n:=Qf.o.1;rw[Ry n (by have n:=Qc.o;have h2:=b.o.1.2;have h3:=b.o.2.1.1;omega)]
   case round=>
    obtain⟨q,r,rfl,rfl,j⟩:=hrel;clear Q R ai hs Qj;have u:B ((4294967296<=q\/4294967296*r+u0<q*d0)->1<=q/\(q-1)*d1+(r+d1)=V/\(V*4294967296+u0)/(d1*4294967296+d0)<=q-1/\q-1<=4294967296):=λg=>RX j.o b.o.1.1 b.o.2.1.2.2 Qc.o g;have P:B (q*d0<=4294967296*r+u0->q=(V*4294967296+u0)/(d1*4294967296+d0)):=λg=>RW j.o (by have:=b.o.1.1;omega) g;by_cases g:4294967296<=q
    . obtain⟨F,G,H,I⟩:=u.o (An g);have Qi:decide ((4294967296:Int)<=q)=true:=BH O;have S:=Hid.o (p:=B (D.wrap ((q:Int)-1)=((q-1:Nat):Int))) (Mk F O);have T:=Hid.o (p:=B (D.wrap ((r:Int)+d1)=((r+d1:Nat):Int))) (Ml (by have n:=j.o.2.2.2;have h2:=b.o.1.2;omega));have c:=Hid.o (p:=B ((q-1)*d1+(r+d1)=V/\(V*4294967296+u0)/(d1*4294967296+d0)<=q-1/\q-1<=4294967296)) ⟨G,H,I⟩;have N:=Y (show q-1<q by omega);clear g F G H I u P;go_upto_region 26 with fail
      rw[S.o];go_upto_region 27 with fail
      rw[T.o];generalize q-1=z at *;generalize r+d1=f at *;by_cases l:4294967296<=f
      . have X:decide ((4294967296:Int)<=f)=true:=BH O;have e:=MQ c.o.1 c.o.2.1 c.o.2.2 b.o.2.1.1 (by have:=b.o.1.1;omega) l;have o:=Hid.o (p:=B (z=(V*4294967296+u0)/(d1*4294967296+d0))) e;clear l e;go_wp2;go_meet
        case rel=>exact⟨by rw[<-o.o],J⟩
      . have X:decide ((4294967296:Int)<=f)=false:=BE O;have W:=Y (show f<4294967296 by omega);clear l;go_wp2;go_round
        case rel=>exact⟨z,f,J,J,c.o.1,c.o.2.1,by have h9:=c.o.2.2;omega,W.o⟩
        case measure=>(simp[intOf];exact N.o)
    . have Qi:decide ((4294967296:Int)<=q)=false:=BE O;have K:=b.o.2.1.1;have Qe:=j.o.2.2.2;have hm:q*d0<18446744073709551616:=by
       have n:=Ci (show q<=4294967295 by omega) (show d0<=4294967295 by omega);omega
      have E3:D.wrap ((q:Int)*d0)=((q*d0:Nat):Int):=by rw[Bw,DA _ hm]
      have E4:D.wrap (4294967296*(r:Int))=((4294967296*r:Nat):Int):=by rw[BT];omega
      have M:D.wrap (((4294967296*r:Nat):Int)+u0)=((4294967296*r+u0:Nat):Int):=by rw[BT];have:=b.o.2.1.2.2;omega
      by_cases x:4294967296*r+u0<q*d0
      . obtain⟨F,G,H,I⟩:=u.o (Au x);have v:=x;have S:=Hid.o (p:=B (D.wrap ((q:Int)-1)=((q-1:Nat):Int))) (Mk F O);have T:=Hid.o (p:=B (D.wrap ((r:Int)+d1)=((r+d1:Nat):Int))) (Ml (by have n:=j.o.2.2.2;have h2:=b.o.1.2;omega));have c:=Hid.o (p:=B ((q-1)*d1+(r+d1)=V/\(V*4294967296+u0)/(d1*4294967296+d0)<=q-1/\q-1<=4294967296)) ⟨G,H,I⟩;have N:=Y (show q-1<q by omega);clear g x F G H I u P hm K Qe;generalize q*d0=m at E3 v;generalize 4294967296*r+u0=t at M v;generalize 4294967296*r=rr at E4 M;go_upto_region 26 with fail
        rw[S.o];go_upto_region 27 with fail
        rw[T.o];generalize q-1=z at *;generalize r+d1=f at *;by_cases l:4294967296<=f
        . have X:decide ((4294967296:Int)<=f)=true:=BH O;have e:=MQ c.o.1 c.o.2.1 c.o.2.2 b.o.2.1.1 (by have:=b.o.1.1;omega) l;have o:=Hid.o (p:=B (z=(V*4294967296+u0)/(d1*4294967296+d0))) e;clear l e;go_wp2;go_meet
          case rel=>exact⟨by rw[<-o.o],J⟩
        . have X:decide ((4294967296:Int)<=f)=false:=BE O;have W:=Y (show f<4294967296 by omega);clear l;go_wp2;go_round
          case rel=>exact⟨z,f,J,J,c.o.1,c.o.2.1,by have h9:=c.o.2.2;omega,W.o⟩
          case measure=>(simp[intOf];exact N.o)
      . have o:=Hid.o (p:=B (q=(V*4294967296+u0)/(d1*4294967296+d0))) (P.o O);have v:=x;clear g x u P hm K Qe;generalize q*d0=m at E3 v;generalize 4294967296*r+u0=t at M v;generalize 4294967296*r=rr at E4 M;go_wp2;go_meet
        case rel=>exact⟨by rw[<-o.o],J⟩
  case rest=>
   obtain⟨rfl,rfl⟩:=hcut;obtain⟨Q0,ah⟩:∃Q0,Q0=(V*4294967296+u0)/(d1*4294967296+d0):=⟨_,J⟩;rw[<-ah];have Qg:0<d1*4294967296+d0:=O
   have hN:=HN.o;have hh:=RY (t:=U*4294967296+u1) (k:=4294967296) (un0:=u0) Qg;rw[<-N.o,<-Ql.o,<-ah,hN,<-ae.o,aq.o]at hh;have Qh:=Wf (a:=i*Z+lo) (y:=y) (s:=s);rw[Qh.1,Qh.2,<-aq.o,ae.o]at hh;have Qk:(i*Z+lo)/y<18446744073709551616:=by
    rw[AM O];have n:(i+1)*Z<=y*Z:=Ae _ ai;have h2:=ay;unfold Z at n ⊢;omega
   have E6:D.wrap (D.wrap (D.wrap ((V:Int)*4294967296)+u0)-D.wrap ((Q0:Int)*ad))=(((i*Z+lo)%y*2^s:Nat):Int):=by
    rw[Bw];refine Rz ?_ ?_
    . rw[<-hh.2,ah,ae.o,AD];exact Ce _ _
    . rw[<-hh.2];have n:=A9 (V*4294967296+u0) Qg;have h3:=b.o.2.1.1;omega
   have E7:D.wrap (D.wrap ((Q1:Int)*4294967296)+Q0)=(((i*Z+lo)/y:Nat):Int):=by
    rw[<-hh.1];rw[<-hh.1]at Qk;simp only[BT];omega
   have E8:((((i*Z+lo)%y*2^s:Nat):Int)/2^s)=(((i*Z+lo)%y:Nat):Int):=by
    rw[show((2:Int)^s)=((2^s:Nat):Int)from by simp,<-FB,Nat.mul_div_cancel _ (Cj s)]
   clear hh Qh hN ah Qg Qk EV Qf Qm Q R ai ay Qj;obtain⟨A,hA⟩:∃A,A=(i*Z+lo)/y:=⟨_,J⟩;obtain⟨Bm,ak⟩:∃Bm,Bm=(i*Z+lo)%y:=⟨_,J⟩;rw[<-hA]at E7;rw[<-ak]at E6 E8;have HA:=Y hA;have Qn:=Y ak;clear hA ak;generalize Bm*2^s=C at E6 E8;go_wp2;go_ret2
   refine⟨?_,J⟩;show Ending.returned (.tuple #[.int D (A:Nat),.int D (Bm:Nat)])=_;rw[HA.o,Qn.o]
theorem Zy{a b s:Nat}(h:b<2^s):(a*2^s) ||| b=a*2^s+b:=by
 grind[AD,Fl]
def Zz(lo y:Nat)(b:lo<18446744073709551616)(a:0<y)(g:y<18446744073709551616)(w:World):
 Calls Tryz.prog 219 #[.int D 0,.int D (lo:Nat),.int D (y:Nat)] w λe c=>e=.returned (.tuple #[.int D ((lo/y:Nat):Int),.int D ((lo%y:Nat):Int)])/\Bl w c:=by
 have d:((y:Int)==0)=false:=BI.2 O;have f:¬(y:Int)<=0:=O
 clear a;go_enter Tryz.func219,Tryz.ntmps219
 go_wp2;go_quiet (fail)
 go_wp2;go_ret2
 refine⟨?_,below_drewN (BA _ _) _⟩;show Ending.returned (.tuple #[.int D (D.wrap ((lo:Int)/y)),.int D ((lo:Int)%y)])=_;rw[<-FB,DA _ (Cx (Fw _ _) b),<-Int.natCast_emod]
