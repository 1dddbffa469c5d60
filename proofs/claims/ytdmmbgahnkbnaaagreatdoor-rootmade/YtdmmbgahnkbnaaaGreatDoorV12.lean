import Derived.Test.YtdmmbgahnkbnaaaGreatDoorV11
import Derived.Lib.BitFns
set_option linter.all false
set_option maxRecDepth 99999
set_option maxHeartbeats 0
namespace Go.Proofs.YtdmmbgahnkbnaaaGreatDoor
open Go.RowKit Go.Shelf
def bitLen_spec(x:Nat)(a:x≠0)(d:x<2^64):1<=Lib.bitLen x/\2^(Lib.bitLen x-1)<=x/\x<2^Lib.bitLen x:=by
 induction x using Nat.strongRecOn with
 |ind x f=>
  have e:=Lib.bitLen_half x a d;by_cases b:x/2=0
  . have c:x=1:=O
    subst c;rw[e]
    have:Lib.bitLen (1/2)=0:=DK
    rw[this];decide
  . obtain⟨g,i,j⟩:=f (x/2) O b O;rw[e];refine⟨O,?_,?_⟩
    . rw[show 1+Lib.bitLen (x/2)-1=Lib.bitLen (x/2)-1+1 from by omega,Ck];omega
    grind
def eh{lo s:Nat}(hs:s<=63)(a:lo<2^64):lo/2^(64-s)<2^s:=by
 rw[AV (Cc _),<-CQ,show s+(64-s)=64 from by omega];exact a
def ej(U L:Nat):(U*4294967296+L/4294967296)*4294967296+L%4294967296=U*18446744073709551616+L:=by
 omega
def Ts(hi lo y:Nat)(j:hi<y)(d:lo<Y)(c:y<Y)(w:World):
 Calls Tryz.prog 250 #[.int .u64 (hi:Nat),.int .u64 (lo:Nat),.int .u64 (y:Nat)] w λe w'=>e=.returned (.tuple #[.int .u64 (((hi*Y+lo)/y:Nat):Int),.int .u64 (((hi*Y+lo)%y:Nat):Int)])/\Bl w w':=by
 have x:Y=2^64:=by unfold Y;decide
 by_cases m:hi=0
 . subst m;rw[Nat.zero_mul,A5];unfold Y at d c;exact ef lo y d j c w
 . rw[x]at d c;have r:y≠0:=O
   obtain⟨l1,l2,A⟩:=bitLen_spec y r c;have D:Lib.bitLen y<=64:=Lib.bitLen_le y 64 O c;obtain⟨s,hs⟩:∃s,s=64-Lib.bitLen y:=⟨_,rfl⟩;have k:s<=63:=O
   have hp:=Cc s;have y1:y*2^s<2^64:=by
    have b:y*2^s<2^Lib.bitLen y*2^s:=Nat.mul_lt_mul_of_pos_right A hp;rw[<-CQ,show Lib.bitLen y+s=64 from by omega]at b;exact b
   have y2:2^63<=y*2^s:=by
    have b:2^(Lib.bitLen y-1)*2^s<=y*2^s:=Ad _ l2;rw[<-CQ,show Lib.bitLen y-1+s=63 from by omega]at b;exact b
   have hh:hi*2^s+2^s<=y*2^s:=by
    have b:(hi+1)*2^s<=y*2^s:=Ad _ j;rw[Ca,Ft]at b;exact b
   have z:=eh k d;have o:(2:Nat)^64=18446744073709551616:=DK
   obtain⟨a,i⟩:∃a,a=y*2^s:=⟨_,rfl⟩;obtain⟨U,g⟩:∃U,U=hi*2^s+lo/2^(64-s):=⟨_,rfl⟩;obtain⟨L,f⟩:∃L,L=lo*2^s%18446744073709551616:=⟨_,rfl⟩;have p:L<18446744073709551616:=by rw[f];exact Cl _ DK
   have C:U<a:=by rw[g,i];omega
   rw[<-i]at y1 y2;have n:((2:Int)^s)=((2^s:Nat):Int):=DI
   have q:((2:Int)^(64-s))=((2^(64-s):Nat):Int):=DI
   have t:U*18446744073709551616+L=(hi*Y+lo)*2^s:=by
    have u:lo*2^s/18446744073709551616=lo/2^(64-s):=by
     rw[<-o,show(2:Nat)^64=2^(64-s)*2^s from by rw[<-CQ];congr 1;omega];exact Nat.mul_div_mul_right _ _ hp
    have l:=Ci (lo*2^s) 18446744073709551616;rw[u,<-f]at l;rw[g,Ca,Ca,<-l];unfold Y;rw[Nat.mul_right_comm];generalize hi*18446744073709551616*2^s=B;omega
   have v:=ej U L;refine(eZ hi lo y s a (a/4294967296) (a%4294967296) U L (L/4294967296) (L%4294967296) j O O w m ?_ k ?_ ?_ ?_ ?_ ?_ ?_ ?_ O O O O O O ?_ i ?_).mono ?_
   . show IntKind.u64.wrap _=_;rw[BP,hs];omega
   . show IntKind.u64.wrap _=_;grind[DF]
   . exact Mul64.divN a
   . exact Mul64.maskN a O
   . show bits .or .u64 _ _=_;rw[n,q,Bz,<-C6,DF _ O,u64_or_nat _ _ O O,ec z,g]
   . show IntKind.u64.wrap _=_;rw[n,Bz,Mul64.wrapM,f]
   . exact Mul64.divN L
   . exact Mul64.maskN L p
   . show a=_;omega
   . exact v.trans t
   . rintro e w' ⟨rfl,rfl⟩;exact⟨rfl,BB _ _⟩
