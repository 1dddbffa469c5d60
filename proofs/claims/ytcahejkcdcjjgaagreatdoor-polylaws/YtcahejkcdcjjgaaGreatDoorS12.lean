import Derived.Test.YtcahejkcdcjjgaaGreatDoorS11
set_option linter.all false
set_option maxRecDepth 99999
set_option maxHeartbeats 0
namespace Go.Proofs.YtcahejkcdcjjgaaGreatDoor
open Go.RowKit Go.Shelf
def bitLen_spec(x:Nat)(a:x≠0)(d:x<2^64):1<=Lib.bitLen x/\2^(Lib.bitLen x-1)<=x/\x<2^Lib.bitLen x:=by
 induction x using Nat.strongRecOn with
 |ind x f=>
  have e:=Lib.bitLen_half x a d;by_cases b:x/2=0
  . have c:x=1:=Z
    subst c;rw[e]
    have:Lib.bitLen (1/2)=0:=DV
    rw[this];decide
  . obtain⟨g,i,j⟩:=f (x/2) Z b Z;rw[e];refine⟨Z,?_,?_⟩
    . rw[show 1+Lib.bitLen (x/2)-1=Lib.bitLen (x/2)-1+1 from by omega,Ce];omega
    grind
def RJ{lo s:Nat}(hs:s<=63)(a:lo<2^64):lo/2^(64-s)<2^s:=by
 rw[AD (A2 _),<-Cu,show s+(64-s)=64 from by omega];exact a
def RK(U L:Nat):(U*4294967296+L/4294967296)*4294967296+L%4294967296=U*18446744073709551616+L:=by
 omega
def NI(a lo y:Nat)(j:a<y)(d:lo<O)(c:y<O)(w:World):
 Calls Tryz.prog 164 #[.int .u64 (a:Nat),.int .u64 (lo:Nat),.int .u64 (y:Nat)] w λe o=>e=.returned (.tuple #[.int .u64 (((a*O+lo)/y:Nat):Int),.int .u64 (((a*O+lo)%y:Nat):Int)])/\Bl w o:=by
 have z:O=2^64:=by unfold O;decide
 by_cases m:a=0
 . subst m;rw[Nat.zero_mul,Ch];unfold O at d c;exact RI lo y d j c w
 . rw[z]at d c;have t:y≠0:=Z
   obtain⟨K,B,C⟩:=bitLen_spec y t c;have M:Lib.bitLen y<=64:=Lib.bitLen_le y 64 Z c;obtain⟨s,hs⟩:∃s,s=64-Lib.bitLen y:=⟨_,J⟩;have k:s<=63:=Z
   have hp:=A2 s;have D:y*2^s<2^64:=by
    have b:y*2^s<2^Lib.bitLen y*2^s:=Nat.mul_lt_mul_of_pos_right C hp;rw[<-Cu,show Lib.bitLen y+s=64 from by omega]at b;exact b
   have E:2^63<=y*2^s:=by
    have b:2^(Lib.bitLen y-1)*2^s<=y*2^s:=Ac _ B;rw[<-Cu,show Lib.bitLen y-1+s=63 from by omega]at b;exact b
   have H:a*2^s+2^s<=y*2^s:=by
    have b:(a+1)*2^s<=y*2^s:=Ac _ j;rw[AL,C5]at b;exact b
   have A:=RJ k d;have p:(2:Nat)^64=18446744073709551616:=DV
   have I:(2:Nat)^63=9223372036854775808:=DV
   obtain⟨Y,i⟩:∃Y,Y=y*2^s:=⟨_,J⟩;obtain⟨U,g⟩:∃U,U=a*2^s+lo/2^(64-s):=⟨_,J⟩;obtain⟨L,f⟩:∃L,L=lo*2^s%18446744073709551616:=⟨_,J⟩;have q:L<18446744073709551616:=by rw[f];exact AY _ DV
   have G:U<Y:=by rw[g,i];omega
   rw[<-i]at D E;have n:((2:Int)^s)=((2^s:Nat):Int):=DQ
   have r:((2:Int)^(64-s))=((2^(64-s):Nat):Int):=DQ
   have u:U*18446744073709551616+L=(a*O+lo)*2^s:=by
    have v:lo*2^s/18446744073709551616=lo/2^(64-s):=by
     rw[<-p,show(2:Nat)^64=2^(64-s)*2^s from by rw[<-Cu];congr 1;omega];exact Nat.mul_div_mul_right _ _ hp
    have l:=A0 (lo*2^s) 18446744073709551616;rw[v,<-f]at l;rw[g,AL,AL,<-l];unfold O;rw[Nat.mul_right_comm];generalize a*18446744073709551616*2^s=F;omega
   have x:=RK U L;refine(RG a lo y s Y (Y/4294967296) (Y%4294967296) U L (L/4294967296) (L%4294967296) j Z Z w m ?_ k ?_ ?_ ?_ ?_ ?_ ?_ ?_ Z Z Z Z Z Z ?_ i ?_).mono ?_
   . show IntKind.u64.wrap _=_;rw[Bo,hs];omega
   . show IntKind.u64.wrap _=_;grind[DM]
   . exact Mul64.divN Y
   . exact Mul64.maskN Y Z
   . show bits .or .u64 _ _=_;rw[n,r,DH,<-C0,DM _ Z,u64_or_nat _ _ Z Z,RH A,g]
   . show IntKind.u64.wrap _=_;rw[n,DH,Mul64.wrapM,f]
   . exact Mul64.divN L
   . exact Mul64.maskN L q
   . show Y=_;omega
   . exact x.trans u
   . rintro e o ⟨rfl,rfl⟩;exact⟨J,BL _ _⟩
