import Derived.Test.YtcahejkcdcjjgaaGreatDoorW11
set_option linter.all false
set_option maxRecDepth 99999
set_option maxHeartbeats 0
namespace Go.Proofs.YtcahejkcdcjjgaaGreatDoor
open Go.RowKit Go.Shelf
def bitLen_spec(x:Nat)(a:x≠0)(d:x<2^64):1<=Lib.bitLen x/\2^(Lib.bitLen x-1)<=x/\x<2^Lib.bitLen x:=by
 induction x using Nat.strongRecOn with
 |ind x f=>
  have e:=Lib.bitLen_half x a d;by_cases b:x/2=0
  . have c:x=1:=O
    subst c;rw[e]
    have:Lib.bitLen (1/2)=0:=DP
    rw[this];decide
  . obtain⟨g,i,j⟩:=f (x/2) O b O;rw[e];refine⟨O,?_,?_⟩
    . rw[show 1+Lib.bitLen (x/2)-1=Lib.bitLen (x/2)-1+1 from by omega,Cc];omega
    grind
def Rk{lo s:Nat}(hs:s<=63)(a:lo<2^64):lo/2^(64-s)<2^s:=by
 rw[AC (A4 _),<-CC,show s+(64-s)=64 from by omega];exact a
def Rl(U a:Nat):(U*4294967296+a/4294967296)*4294967296+a%4294967296=U*18446744073709551616+a:=by
 omega
def NY(a lo y:Nat)(l:a<y)(g:lo<Y)(f:y<Y)(w:World):
 Calls Tryz.prog 164 #[.int .u64 (a:Nat),.int .u64 (lo:Nat),.int .u64 (y:Nat)] w λe q=>e=.returned (.tuple #[.int .u64 (((a*Y+lo)/y:Nat):Int),.int .u64 (((a*Y+lo)%y:Nat):Int)])/\Bl w q:=by
 have B:Y=2^64:=by unfold Y;decide
 by_cases o:a=0
 . subst o;rw[Nat.zero_mul,Cn];unfold Y at g f;exact Rj lo y g l f w
 . rw[B]at g f;have v:y≠0:=O
   obtain⟨M,D,E⟩:=bitLen_spec y v f;have N:Lib.bitLen y<=64:=Lib.bitLen_le y 64 O f;obtain⟨s,hs⟩:∃s,s=64-Lib.bitLen y:=⟨_,J⟩;have m:s<=63:=O
   have hp:=A4 s;have F:y*2^s<2^64:=by
    have d:y*2^s<2^Lib.bitLen y*2^s:=Nat.mul_lt_mul_of_pos_right E hp;rw[<-CC,show Lib.bitLen y+s=64 from by omega]at d;exact d
   have G:2^63<=y*2^s:=by
    have d:2^(Lib.bitLen y-1)*2^s<=y*2^s:=Ae _ D;rw[<-CC,show Lib.bitLen y-1+s=63 from by omega]at d;exact d
   have K:a*2^s+2^s<=y*2^s:=by
    have d:(a+1)*2^s<=y*2^s:=Ae _ l;rw[A9,Fa]at d;exact d
   have C:=Rk m g;have r:(2:Nat)^64=18446744073709551616:=DP
   have L:(2:Nat)^63=9223372036854775808:=DP
   obtain⟨c,k⟩:∃c,c=y*2^s:=⟨_,J⟩;obtain⟨U,j⟩:∃U,U=a*2^s+lo/2^(64-s):=⟨_,J⟩;obtain⟨b,i⟩:∃b,b=lo*2^s%18446744073709551616:=⟨_,J⟩;have t:b<18446744073709551616:=by rw[i];exact AV _ DP
   have I:U<c:=by rw[j,k];omega
   rw[<-k]at F G;have p:((2:Int)^s)=((2^s:Nat):Int):=DJ
   have u:((2:Int)^(64-s))=((2^(64-s):Nat):Int):=DJ
   have x:U*18446744073709551616+b=(a*Y+lo)*2^s:=by
    have z:lo*2^s/18446744073709551616=lo/2^(64-s):=by
     rw[<-r,show(2:Nat)^64=2^(64-s)*2^s from by rw[<-CC];congr 1;omega];exact Nat.mul_div_mul_right _ _ hp
    have n:=AZ (lo*2^s) 18446744073709551616;rw[z,<-i]at n;rw[j,A9,A9,<-n];unfold Y;rw[Nat.mul_right_comm];generalize a*18446744073709551616*2^s=H;omega
   have A:=Rl U b;refine(Rh a lo y s c (c/4294967296) (c%4294967296) U b (b/4294967296) (b%4294967296) l O O w o ?_ m ?_ ?_ ?_ ?_ ?_ ?_ ?_ O O O O O O ?_ k ?_).mono ?_
   . show IntKind.u64.wrap _=_;rw[BU,hs];omega
   . show IntKind.u64.wrap _=_;grind[DF]
   . exact Mul64.divN c
   . exact Mul64.maskN c O
   . show bits .or .u64 _ _=_;rw[p,u,Bz,<-C4,DF _ O,u64_or_nat _ _ O O,Ri C,j]
   . show IntKind.u64.wrap _=_;rw[p,Bz,Mul64.wrapM,i]
   . exact Mul64.divN b
   . exact Mul64.maskN b t
   . show c=_;omega
   . exact A.trans x
   . rintro e q ⟨rfl,rfl⟩;exact⟨J,BB _ _⟩
