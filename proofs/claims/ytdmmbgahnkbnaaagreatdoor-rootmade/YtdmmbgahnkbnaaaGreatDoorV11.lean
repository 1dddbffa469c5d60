import Derived.Test.YtdmmbgahnkbnaaaGreatDoorV10
import Derived.Laws.BitsAllLaws
import Derived.Deep.DeepCutAuto
import Derived.Deep.CutBlock
set_option linter.all false
open Go.RowKit renaming Hid->B
open Go.IntKind renaming u64->D
set_option maxRecDepth 99999
set_option maxHeartbeats 0
namespace Go.Proofs.YtdmmbgahnkbnaaaGreatDoor
open Go.RowKit Go.Shelf
theorem DF:type_of% @Mul64.wrapN:=@Mul64.wrapN
def Bz:type_of% @Mul64.mulN:=@Mul64.mulN
def Bh:type_of% @beq_eq_false_iff_ne:=@beq_eq_false_iff_ne
def BP:type_of% @IntKind.wrap_u64:=@IntKind.wrap_u64
def BM:type_of% @decide_eq_false:=@decide_eq_false
def BJ:type_of% @decide_eq_true:=@decide_eq_true
variable{U d p r:Nat}
def Tp(h:U/d<=4294967297):IntKind.u64.wrap ((U:Int)/(d:Int))=((U/d:Nat):Int):=by
 rw[<-C6,DF _ O]
def Tq(h:p+r=U)(a:U<18446744073709551616):IntKind.u64.wrap ((U:Int)-IntKind.u64.wrap ((p:Nat):Int))=(r:Int):=by
 rw[DF _ O,BP];omega
def NY{q:Nat}(h:1<=q)(hq:q<18446744073709551616):IntKind.u64.wrap ((q:Int)-1)=((q-1:Nat):Int):=by
 rw[BP];omega
def NZ(h:r+d<18446744073709551616):IntKind.u64.wrap ((r:Int)+d)=((r+d:Nat):Int):=by
 rw[BP];omega
def Tr{u v:Nat}(h:p+v=U*4294967296+u)(hv:v<18446744073709551616):IntKind.u64.wrap (IntKind.u64.wrap (IntKind.u64.wrap ((U:Int)*4294967296)+u)-IntKind.u64.wrap ((p:Nat):Int))=(v:Int):=by
 simp only[BP];omega
def eZ(hi lo y s X d1 d0 U L u1 u0:Nat)(ai:hi<y)(az:lo<18446744073709551616)(hy:y<18446744073709551616)(w:World)(h0:hi≠0)(HS:B (IntKind.u64.wrap (64-(Lib.bitLen y:Int))=(s:Int)))(hs:s<=63)
(HY:B (IntKind.u64.wrap ((y:Int)*2^s)=(X:Int)))(H1:B ((X:Int)/4294967296=(d1:Int)))(H0:B (bits .and D (X:Int) 4294967295=(d0:Int)))
(HU:B (bits .or D (IntKind.u64.wrap ((hi:Int)*2^s)) ((lo:Int)/2^(64-s))=(U:Int)))(HL:B (IntKind.u64.wrap ((lo:Int)*2^s)=(L:Int)))(aq:B ((L:Int)/4294967296=(u1:Int)))(ap:B (bits .and D (L:Int) 4294967295=(u0:Int)))
(P:2147483648<=d1)(Q:d1<4294967296)(I:d0<4294967296)(aj:u1<4294967296)(an:u0<4294967296)(hU:U<d1*4294967296+d0)(ae:B (X=d1*4294967296+d0))(ay:B (X=y*2^s))(HN:B ((U*4294967296+u1)*4294967296+u0=(hi*Y+lo)*2^s)):
 Calls Tryz.prog 250 #[.int D (hi:Nat),.int D (lo:Nat),.int D (y:Nat)] w λe w'=>e=.returned (.tuple #[.int D (((hi*Y+lo)/y:Nat):Int),.int D (((hi*Y+lo)%y:Nat):Int)])/\w'=w:=by
 have g1:((y:Int)==0)=false:=Bh.2 O;have g2:((hi:Int)==0)=false:=Bh.2 O;go_enter Tryz.func250,Tryz.ntmps250
 go_upto_region 8 with(first
  |(go_at_call 259;refine(Tryz.bits_LeadingZeros64 _ _ O O).mono ?_;rintro e w' ⟨rfl,rfl⟩))
 rw[HS.o];go_upto_region 9 with fail
 rw[HY.o];go_upto_region 10 with fail
 rw[H1.o];go_upto_region 11 with fail
 rw[H0.o];go_upto_region 15 with fail
 rw[HU.o,HL.o,aq.o,ap.o];have hG:=TF P Q I aj hU;have b:=Hid.o (p:=B ((2147483648<=d1/\d1<4294967296)/\(d0<4294967296/\u1<4294967296/\u0<4294967296)/\U<d1*4294967296+d0)) ⟨⟨P,Q⟩,⟨I,aj,an⟩,hU⟩;have i:=Hid.o (p:=B _) hG;clear hG I aj an hU hy h0 HS HY H1 H0 HU HL aq ap g1 g2;go_upto_block 0 with fail
 go_cut [15,16] λz _ w1=>z=.int D ((U*4294967296+u1)/(d1*4294967296+d0):Nat)/\w1=w'
 case first=>
  go_wp2_with fail
  go_loop [15,16] (λz rv=>∃q r:Nat,z=.int D (q:Nat)/\rv=.int D (r:Nat)/\B (Lv U u1 d1 d0 q r)) λz _=>(intOf z).toNat
  case atStart=>
   clear P Q;obtain⟨⟨P,Q⟩,⟨I,aj,an⟩,hU⟩:=b.o;have e1:=Tp (U:=U) (d:=d1) i.o.2.2.1;refine⟨U/d1,U%d1,by rw[e1],?_,i⟩;rw[e1,Bz];have l:=i.o.1;rw[Tq l O]
  case round=>
   obtain⟨q,r,rfl,rfl,i⟩:=hrel;clear P Q ai hs;have o:B ((4294967296<=q\/4294967296*r+u1<q*d0)->1<=q/\(q-1)*d1+(r+d1)=U/\(U*4294967296+u1)/(d1*4294967296+d0)<=q-1/\q-1<=4294967296):=λg=>TH i.o b.o.1.1 b.o.2.1.2.1 b.o.2.2 g;have N:B (q*d0<=4294967296*r+u1->q=(U*4294967296+u1)/(d1*4294967296+d0)):=λg=>TG i.o (by have:=b.o.1.1;omega) g;by_cases g:4294967296<=q
   . obtain⟨E,F,G,H⟩:=o.o (Or.inl g);have Qi:decide ((4294967296:Int)<=q)=true:=BJ O;have R:=Hid.o (p:=B (IntKind.u64.wrap ((q:Int)-1)=((q-1:Nat):Int))) (NY E O);have S:=Hid.o (p:=B (IntKind.u64.wrap ((r:Int)+d1)=((r+d1:Nat):Int))) (NZ (by have l:=i.o.2.2.2;have h2:=b.o.1.2;omega));have c:=Hid.o (p:=B ((q-1)*d1+(r+d1)=U/\(U*4294967296+u1)/(d1*4294967296+d0)<=q-1/\q-1<=4294967296)) ⟨F,G,H⟩;have M:=Z (show q-1<q by omega);clear g E F G H o N;go_upto_region 19 with fail
     rw[R.o];go_upto_region 20 with fail
     rw[S.o];generalize q-1=x at *;generalize r+d1=f at *;by_cases j:4294967296<=f
     . have W:decide ((4294967296:Int)<=f)=true:=BJ O;have e:=NI c.o.1 c.o.2.1 c.o.2.2 b.o.2.1.1 (by have:=b.o.1.1;omega) j;have n:=Hid.o (p:=B (x=(U*4294967296+u1)/(d1*4294967296+d0))) e;clear j e;go_wp2;go_meet
       case rel=>exact⟨by rw[<-n.o],rfl⟩
     . have W:decide ((4294967296:Int)<=f)=false:=BM O;have T:=Z (show f<4294967296 by omega);clear j;go_wp2;go_round
       case rel=>exact⟨x,f,rfl,rfl,c.o.1,c.o.2.1,by have h9:=c.o.2.2;omega,T.o⟩
       case measure=>(simp[intOf];exact M.o)
   . have Qi:decide ((4294967296:Int)<=q)=false:=BM O;have I:=b.o.2.1.1;have Qe:=i.o.2.2.2;have hm:q*d0<18446744073709551616:=by
      have l:=Cw (show q<=4294967295 by omega) (show d0<=4294967295 by omega);omega
     have E3:IntKind.u64.wrap ((q:Int)*d0)=((q*d0:Nat):Int):=by rw[Bz,DF _ hm]
     have E4:IntKind.u64.wrap (4294967296*(r:Int))=((4294967296*r:Nat):Int):=by rw[BP];omega
     have K:IntKind.u64.wrap (((4294967296*r:Nat):Int)+u1)=((4294967296*r+u1:Nat):Int):=by rw[BP];have:=b.o.2.1.2.1;omega
     by_cases v:4294967296*r+u1<q*d0
     . obtain⟨E,F,G,H⟩:=o.o (Or.inr v);have u:=v;have R:=Hid.o (p:=B (IntKind.u64.wrap ((q:Int)-1)=((q-1:Nat):Int))) (NY E O);have S:=Hid.o (p:=B (IntKind.u64.wrap ((r:Int)+d1)=((r+d1:Nat):Int))) (NZ (by have l:=i.o.2.2.2;have h2:=b.o.1.2;omega));have c:=Hid.o (p:=B ((q-1)*d1+(r+d1)=U/\(U*4294967296+u1)/(d1*4294967296+d0)<=q-1/\q-1<=4294967296)) ⟨F,G,H⟩;have M:=Z (show q-1<q by omega);clear g v E F G H o N hm I Qe;generalize q*d0=m at E3 u;generalize 4294967296*r+u1=t at K u;generalize 4294967296*r=rr at E4 K;go_upto_region 19 with fail
       rw[R.o];go_upto_region 20 with fail
       rw[S.o];generalize q-1=x at *;generalize r+d1=f at *;by_cases j:4294967296<=f
       . have W:decide ((4294967296:Int)<=f)=true:=BJ O;have e:=NI c.o.1 c.o.2.1 c.o.2.2 b.o.2.1.1 (by have:=b.o.1.1;omega) j;have n:=Hid.o (p:=B (x=(U*4294967296+u1)/(d1*4294967296+d0))) e;clear j e;go_wp2;go_meet
         case rel=>exact⟨by rw[<-n.o],rfl⟩
       . have W:decide ((4294967296:Int)<=f)=false:=BM O;have T:=Z (show f<4294967296 by omega);clear j;go_wp2;go_round
         case rel=>exact⟨x,f,rfl,rfl,c.o.1,c.o.2.1,by have h9:=c.o.2.2;omega,T.o⟩
         case measure=>(simp[intOf];exact M.o)
     . have n:=Hid.o (p:=B (q=(U*4294967296+u1)/(d1*4294967296+d0))) (N.o O);have u:=v;clear g v o N hm I Qe;generalize q*d0=m at E3 u;generalize 4294967296*r+u1=t at K u;generalize 4294967296*r=rr at E4 K;go_wp2;go_meet
       case rel=>exact⟨by rw[<-n.o],rfl⟩
 case rest=>
  obtain⟨rfl,rfl⟩:=hcut;obtain⟨V,hV⟩:∃V,V=(U*4294967296+u1)%(d1*4294967296+d0):=⟨_,rfl⟩;have Qk:=Z hV;have Qc:B (V<d1*4294967296+d0):=by
   show V < _;rw[hV];exact Cl _ O
  clear hV;obtain⟨Q1,hQ⟩:∃Q1,Q1=(U*4294967296+u1)/(d1*4294967296+d0):=⟨_,rfl⟩;rw[<-hQ];have M:=Z hQ;have EV:B (IntKind.u64.wrap (IntKind.u64.wrap (IntKind.u64.wrap ((U:Int)*4294967296)+u1)-IntKind.u64.wrap ((Q1:Int)*X))=(V:Int)):=by
   show _=_;rw[Bz];refine Tr ?_ (by have l:=Qc.o;have h2:=b.o.1.2;have h3:=b.o.2.1.1;omega);rw[hQ,Qk.o,ae.o,AP];exact Ci _ _
  have Qf:=Z (TF P Q b.o.2.1.1 b.o.2.1.2.2 Qc.o);clear hQ;go_upto_region 22 with fail
  rw[EV.o];go_upto_block 2 with fail
  go_cut [18,16] λz _ w1=>z=.int D ((V*4294967296+u0)/(d1*4294967296+d0):Nat)/\w1=wc
  case first=>
   go_wp2_with fail
   go_loop [18,16] (λz rv=>∃q r:Nat,z=.int D (q:Nat)/\rv=.int D (r:Nat)/\B (Lv V u0 d1 d0 q r)) λz _=>(intOf z).toNat
   case atStart=>
    have e1:=Tp (U:=V) (d:=d1) Qf.o.2.2.1;refine⟨V/d1,V%d1,by rw[e1],?_,Qf⟩;rw[e1,Bz];have l:=Qf.o.1;rw[Tq l (by have l:=Qc.o;have h2:=b.o.1.2;have h3:=b.o.2.1.1;omega)]
   case round=>
    obtain⟨q,r,rfl,rfl,i⟩:=hrel;clear P Q ai hs;have o:B ((4294967296<=q\/4294967296*r+u0<q*d0)->1<=q/\(q-1)*d1+(r+d1)=V/\(V*4294967296+u0)/(d1*4294967296+d0)<=q-1/\q-1<=4294967296):=λg=>TH i.o b.o.1.1 b.o.2.1.2.2 Qc.o g;have N:B (q*d0<=4294967296*r+u0->q=(V*4294967296+u0)/(d1*4294967296+d0)):=λg=>TG i.o (by have:=b.o.1.1;omega) g;by_cases g:4294967296<=q
    . obtain⟨E,F,G,H⟩:=o.o (Or.inl g);have Qi:decide ((4294967296:Int)<=q)=true:=BJ O;have R:=Hid.o (p:=B (IntKind.u64.wrap ((q:Int)-1)=((q-1:Nat):Int))) (NY E O);have S:=Hid.o (p:=B (IntKind.u64.wrap ((r:Int)+d1)=((r+d1:Nat):Int))) (NZ (by have l:=i.o.2.2.2;have h2:=b.o.1.2;omega));have c:=Hid.o (p:=B ((q-1)*d1+(r+d1)=V/\(V*4294967296+u0)/(d1*4294967296+d0)<=q-1/\q-1<=4294967296)) ⟨F,G,H⟩;have M:=Z (show q-1<q by omega);clear g E F G H o N;go_upto_region 26 with fail
      rw[R.o];go_upto_region 27 with fail
      rw[S.o];generalize q-1=x at *;generalize r+d1=f at *;by_cases j:4294967296<=f
      . have W:decide ((4294967296:Int)<=f)=true:=BJ O;have e:=NI c.o.1 c.o.2.1 c.o.2.2 b.o.2.1.1 (by have:=b.o.1.1;omega) j;have n:=Hid.o (p:=B (x=(V*4294967296+u0)/(d1*4294967296+d0))) e;clear j e;go_wp2;go_meet
        case rel=>exact⟨by rw[<-n.o],rfl⟩
      . have W:decide ((4294967296:Int)<=f)=false:=BM O;have T:=Z (show f<4294967296 by omega);clear j;go_wp2;go_round
        case rel=>exact⟨x,f,rfl,rfl,c.o.1,c.o.2.1,by have h9:=c.o.2.2;omega,T.o⟩
        case measure=>(simp[intOf];exact M.o)
    . have Qi:decide ((4294967296:Int)<=q)=false:=BM O;have I:=b.o.2.1.1;have Qe:=i.o.2.2.2;have hm:q*d0<18446744073709551616:=by
       have l:=Cw (show q<=4294967295 by omega) (show d0<=4294967295 by omega);omega
      have E3:IntKind.u64.wrap ((q:Int)*d0)=((q*d0:Nat):Int):=by rw[Bz,DF _ hm]
      have E4:IntKind.u64.wrap (4294967296*(r:Int))=((4294967296*r:Nat):Int):=by rw[BP];omega
      have K:IntKind.u64.wrap (((4294967296*r:Nat):Int)+u0)=((4294967296*r+u0:Nat):Int):=by rw[BP];have:=b.o.2.1.2.2;omega
      by_cases v:4294967296*r+u0<q*d0
      . obtain⟨E,F,G,H⟩:=o.o (Or.inr v);have u:=v;have R:=Hid.o (p:=B (IntKind.u64.wrap ((q:Int)-1)=((q-1:Nat):Int))) (NY E O);have S:=Hid.o (p:=B (IntKind.u64.wrap ((r:Int)+d1)=((r+d1:Nat):Int))) (NZ (by have l:=i.o.2.2.2;have h2:=b.o.1.2;omega));have c:=Hid.o (p:=B ((q-1)*d1+(r+d1)=V/\(V*4294967296+u0)/(d1*4294967296+d0)<=q-1/\q-1<=4294967296)) ⟨F,G,H⟩;have M:=Z (show q-1<q by omega);clear g v E F G H o N hm I Qe;generalize q*d0=m at E3 u;generalize 4294967296*r+u0=t at K u;generalize 4294967296*r=rr at E4 K;go_upto_region 26 with fail
        rw[R.o];go_upto_region 27 with fail
        rw[S.o];generalize q-1=x at *;generalize r+d1=f at *;by_cases j:4294967296<=f
        . have W:decide ((4294967296:Int)<=f)=true:=BJ O;have e:=NI c.o.1 c.o.2.1 c.o.2.2 b.o.2.1.1 (by have:=b.o.1.1;omega) j;have n:=Hid.o (p:=B (x=(V*4294967296+u0)/(d1*4294967296+d0))) e;clear j e;go_wp2;go_meet
          case rel=>exact⟨by rw[<-n.o],rfl⟩
        . have W:decide ((4294967296:Int)<=f)=false:=BM O;have T:=Z (show f<4294967296 by omega);clear j;go_wp2;go_round
          case rel=>exact⟨x,f,rfl,rfl,c.o.1,c.o.2.1,by have h9:=c.o.2.2;omega,T.o⟩
          case measure=>(simp[intOf];exact M.o)
      . have n:=Hid.o (p:=B (q=(V*4294967296+u0)/(d1*4294967296+d0))) (N.o O);have u:=v;clear g v o N hm I Qe;generalize q*d0=m at E3 u;generalize 4294967296*r+u0=t at K u;generalize 4294967296*r=rr at E4 K;go_wp2;go_meet
        case rel=>exact⟨by rw[<-n.o],rfl⟩
  case rest=>
   obtain⟨rfl,rfl⟩:=hcut;obtain⟨Q0,ah⟩:∃Q0,Q0=(V*4294967296+u0)/(d1*4294967296+d0):=⟨_,rfl⟩;rw[<-ah];have Qg:0<d1*4294967296+d0:=O
   have hN:=HN.o;have hh:=dI (t:=U*4294967296+u1) (k:=4294967296) (un0:=u0) Qg;rw[<-M.o,<-Qk.o,<-ah,hN,<-ae.o,ay.o]at hh;have Qh:=dJ (a:=hi*Y+lo) (y:=y) (s:=s);rw[Qh.1,Qh.2,<-ay.o,ae.o]at hh;have Qj:(hi*Y+lo)/y<18446744073709551616:=by
    rw[AV O];have l:(hi+1)*Y<=y*Y:=Ad _ ai;have h2:=az;unfold Y at l ⊢;omega
   have E6:IntKind.u64.wrap (IntKind.u64.wrap (IntKind.u64.wrap ((V:Int)*4294967296)+u0)-IntKind.u64.wrap ((Q0:Int)*X))=(((hi*Y+lo)%y*2^s:Nat):Int):=by
    rw[Bz];refine Tr ?_ ?_
    . rw[<-hh.2,ah,ae.o,AP];exact Ci _ _
    . rw[<-hh.2];have l:=Cl (V*4294967296+u0) Qg;have h3:=b.o.2.1.1;omega
   have E7:IntKind.u64.wrap (IntKind.u64.wrap ((Q1:Int)*4294967296)+Q0)=(((hi*Y+lo)/y:Nat):Int):=by
    rw[<-hh.1];rw[<-hh.1]at Qj;simp only[BP];omega
   have E8:((((hi*Y+lo)%y*2^s:Nat):Int)/2^s)=(((hi*Y+lo)%y:Nat):Int):=by
    rw[show((2:Int)^s)=((2^s:Nat):Int)from by simp,<-C6,Nat.mul_div_cancel _ (Cc s)]
   clear hh Qh hN ah Qg Qj EV Qf P Q ai az;obtain⟨A,hA⟩:∃A,A=(hi*Y+lo)/y:=⟨_,rfl⟩;obtain⟨Bm,am⟩:∃Bm,Bm=(hi*Y+lo)%y:=⟨_,rfl⟩;rw[<-hA]at E7;rw[<-am]at E6 E8;have HA:=Z hA;have Ql:=Z am;clear hA am;generalize Bm*2^s=C at E6 E8;go_wp2;go_ret2
   refine⟨?_,rfl⟩;show Ending.returned (.tuple #[.int D (A:Nat),.int D (Bm:Nat)])=_;rw[HA.o,Ql.o]
theorem ec{a b s:Nat}(h:b<2^s):(a*2^s) ||| b=a*2^s+b:=by
 grind[AP,C3]
def ef(lo y:Nat)(b:lo<18446744073709551616)(a:0<y)(f:y<18446744073709551616)(w:World):
 Calls Tryz.prog 250 #[.int D 0,.int D (lo:Nat),.int D (y:Nat)] w λe w'=>e=.returned (.tuple #[.int D ((lo/y:Nat):Int),.int D ((lo%y:Nat):Int)])/\Bl w w':=by
 have c:((y:Int)==0)=false:=Bh.2 O;have d:¬(y:Int)<=0:=O
 clear a;go_enter Tryz.func250,Tryz.ntmps250
 go_wp2;go_quiet (fail)
 go_wp2;go_ret2
 refine⟨?_,below_drewN (BB _ _) _⟩;show Ending.returned (.tuple #[.int D (IntKind.u64.wrap ((lo:Int)/y)),.int D ((lo:Int)%y)])=_;rw[<-C6,DF _ (Cz (Fb _ _) b),<-Int.natCast_emod]
