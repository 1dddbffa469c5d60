import Derived.Test.YtcahejkcdcjjgaaGreatDoorQ11
set_option linter.all false
set_option maxRecDepth 99999
set_option maxHeartbeats 0
namespace Go.Proofs.YtcahejkcdcjjgaaGreatDoor
open Go.RowKit Go.Shelf
def bitLen_spec(x:Nat)(a:x≠0)(d:x<2^64):1<=Lib.bitLen x/\2^(Lib.bitLen x-1)<=x/\x<2^Lib.bitLen x:=by
 induction x using Nat.strongRecOn with
 |ind x f=>
  have e:=Lib.bitLen_half x a d;by_cases b:x/2=0
  . have c:x=1:=O
    subst c;rw[e]
    have:Lib.bitLen (1/2)=0:=DI
    rw[this];decide
  . obtain⟨g,i,j⟩:=f (x/2) O b O;rw[e];refine⟨O,?_,?_⟩
    . rw[show 1+Lib.bitLen (x/2)-1=Lib.bitLen (x/2)-1+1 from by omega,A9];omega
    grind
def OZ{lo s:Nat}(hs:s<=63)(a:lo<2^64):lo/2^(64-s)<2^s:=by
 rw[Aq (AW _),<-Cx,show s+(64-s)=64 from by omega];exact a
def Oa(U a:Nat):(U*4294967296+a/4294967296)*4294967296+a%4294967296=U*18446744073709551616+a:=by
 omega
def K6(a lo y:Nat)(l:a<y)(g:lo<Y)(f:y<Y)(w:World):
 Calls Tryz.prog 164 #[.int .u64 (a:Nat),.int .u64 (lo:Nat),.int .u64 (y:Nat)] w λe q=>e=.returned (.tuple #[.int .u64 (((a*Y+lo)/y:Nat):Int),.int .u64 (((a*Y+lo)%y:Nat):Int)])/\Bl w q:=by
 have B:Y=2^64:=by unfold Y;decide
 by_cases o:a=0
 . subst o;rw[Nat.zero_mul,Cd];unfold Y at g f;exact OY lo y g l f w
 . rw[B]at g f;have v:y≠0:=O
   obtain⟨M,D,E⟩:=bitLen_spec y v f;have N:Lib.bitLen y<=64:=Lib.bitLen_le y 64 O f;obtain⟨s,hs⟩:∃s,s=64-Lib.bitLen y:=⟨_,J⟩;have m:s<=63:=O
   have hp:=AW s;have F:y*2^s<2^64:=by
    have d:y*2^s<2^Lib.bitLen y*2^s:=Nat.mul_lt_mul_of_pos_right E hp;rw[<-Cx,show Lib.bitLen y+s=64 from by omega]at d;exact d
   have G:2^63<=y*2^s:=by
    have d:2^(Lib.bitLen y-1)*2^s<=y*2^s:=Af _ D;rw[<-Cx,show Lib.bitLen y-1+s=63 from by omega]at d;exact d
   have K:a*2^s+2^s<=y*2^s:=by
    have d:(a+1)*2^s<=y*2^s:=Af _ l;rw[Cm,C4]at d;exact d
   have C:=OZ m g;have r:(2:Nat)^64=18446744073709551616:=DI
   have L:(2:Nat)^63=9223372036854775808:=DI
   obtain⟨c,k⟩:∃c,c=y*2^s:=⟨_,J⟩;obtain⟨U,j⟩:∃U,U=a*2^s+lo/2^(64-s):=⟨_,J⟩;obtain⟨b,i⟩:∃b,b=lo*2^s%18446744073709551616:=⟨_,J⟩;have t:b<18446744073709551616:=by rw[i];exact AK _ DI
   have I:U<c:=by rw[j,k];omega
   rw[<-k]at F G;have p:((2:Int)^s)=((2^s:Nat):Int):=sp
   have u:((2:Int)^(64-s))=((2^(64-s):Nat):Int):=sp
   have x:U*18446744073709551616+b=(a*Y+lo)*2^s:=by
    have z:lo*2^s/18446744073709551616=lo/2^(64-s):=by
     rw[<-r,show(2:Nat)^64=2^(64-s)*2^s from by rw[<-Cx];congr 1;omega];exact Nat.mul_div_mul_right _ _ hp
    have n:=AO (lo*2^s) 18446744073709551616;rw[z,<-i]at n;rw[j,Cm,Cm,<-n];unfold Y;rw[Nat.mul_right_comm];generalize a*18446744073709551616*2^s=H;omega
   have A:=Oa U b;refine(OW a lo y s c (c/4294967296) (c%4294967296) U b (b/4294967296) (b%4294967296) l O O w o ?_ m ?_ ?_ ?_ ?_ ?_ ?_ ?_ O O O O O O ?_ k ?_).mono ?_
   . show IntKind.u64.wrap _=_;rw[BR,hs];omega
   . show IntKind.u64.wrap _=_;grind[B7]
   . exact Mul64.divN c
   . exact Mul64.maskN c O
   . show bits .or .u64 _ _=_;rw[p,u,Bs,<-CX,B7 _ O,u64_or_nat _ _ O O,OX C,j]
   . show IntKind.u64.wrap _=_;rw[p,Bs,Mul64.wrapM,i]
   . exact Mul64.divN b
   . exact Mul64.maskN b t
   . show c=_;omega
   . exact A.trans x
   . rintro e q ⟨rfl,rfl⟩;exact⟨J,BB _ _⟩
