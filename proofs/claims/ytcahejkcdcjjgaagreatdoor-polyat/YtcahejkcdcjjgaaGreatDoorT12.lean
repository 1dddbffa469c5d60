import Derived.Test.YtcahejkcdcjjgaaGreatDoorT11
import Derived.Lib.BitFns
set_option maxRecDepth 100000
set_option maxHeartbeats 16000000
namespace Go.Proofs.YtcahejkcdcjjgaaGreatDoor
open Go.RowKit Go.Shelf
theorem bitLen_spec(x:Nat)(a:x≠0)(c:x<2^64):1<=Lib.bitLen x/\2^(Lib.bitLen x-1)<=x/\x<2^Lib.bitLen x:=by
 induction x using Nat.strongRecOn with
 |ind x b=>
  have e:=Lib.bitLen_half x a c;by_cases d:x/2=0
  . have f:x=1:=om
    subst f;rw[e];have:Lib.bitLen (1/2)=0:=DR
    rw[this];decide
  . obtain⟨j,i,g⟩:=b (x/2) om d om;rw[e];refine⟨om,?_,?_⟩
    . rw[show 1+Lib.bitLen (x/2)-1=Lib.bitLen (x/2)-1+1 from by omega,AR];omega
    . rw[CW,AR];omega
theorem R4{lo s:Nat}(hs:s<=63)(a:lo<2^64):lo/2^(64-s)<2^s:=by
 rw[AO (Cc _),<-CH,show s+(64-s)=64 from by omega];exact a
theorem R5(U a:Nat):(U*4294967296+a/4294967296)*4294967296+a%4294967296=U*18446744073709551616+a:=by
 have h:=Cb a 4294967296;rw[AV,Aw,CJ,As (a/4294967296),h]
theorem Nw(a lo y:Nat)(m:a<y)(g:lo<DN)(f:y<DN)(w:World):
 Calls Tryz.prog 164 #[.int .u64 (a:Nat),.int .u64 (lo:Nat),.int .u64 (y:Nat)] w λe r=>e=.returned (.tuple #[.int .u64 (((a*DN+lo)/y:Nat):Int),.int .u64 (((a*DN+lo)%y:Nat):Int)])/\Bl w r:=by
 have x:DN=2^64:=by unfold DN;decide
 by_cases o:a=0
 . subst o;rw[Nat.zero_mul,Ck];unfold DN at g f;exact R3 lo y g m f w
 . rw[x]at g f;have A:y≠0:=om
   obtain⟨K,D,B⟩:=bitLen_spec y A f;have N:Lib.bitLen y<=64:=Lib.bitLen_le y 64 om f;obtain⟨s,hs⟩:∃s,s=64-Lib.bitLen y:=⟨_,rfl⟩;have p:s<=63:=om
   have q:=Cc s;have z:y*2^s<2^64:=by
    have d:y*2^s<2^Lib.bitLen y*2^s:=Nat.mul_lt_mul_of_pos_right B q;rw[<-CH,show Lib.bitLen y+s=64 from by omega]at d;exact d
   have G:2^63<=y*2^s:=by
    have d:2^(Lib.bitLen y-1)*2^s<=y*2^s:=Ao _ D;rw[<-CH,show Lib.bitLen y-1+s=63 from by omega]at d;exact d
   have I:a*2^s+2^s<=y*2^s:=by
    have d:(a+1)*2^s<=y*2^s:=Ao _ m;rw[AV,CN]at d;exact d
   have C:=R4 p g;have E:(2:Nat)^64=18446744073709551616:=DR
   have M:(2:Nat)^63=9223372036854775808:=DR
   obtain⟨c,i⟩:∃c,c=y*2^s:=⟨_,rfl⟩;obtain⟨U,l⟩:∃U,U=a*2^s+lo/2^(64-s):=⟨_,rfl⟩;obtain⟨b,k⟩:∃b,b=lo*2^s%18446744073709551616:=⟨_,rfl⟩;have u:b<18446744073709551616:=by rw[k];exact A9 _ DR
   have L:U<c:=by rw[l,i];omega
   rw[<-i]at z G;have j:((2:Int)^s)=((2^s:Nat):Int):=DO
   have F:((2:Int)^(64-s))=((2^(64-s):Nat):Int):=DO
   have t:U*18446744073709551616+b=(a*DN+lo)*2^s:=by
    have v:lo*2^s/18446744073709551616=lo/2^(64-s):=by
     rw[<-E,show(2:Nat)^64=2^(64-s)*2^s from by rw[<-CH];congr 1;omega];exact Nat.mul_div_mul_right _ _ q
    have n:=Cb (lo*2^s) 18446744073709551616;rw[v,<-k]at n;rw[l,AV,AV,<-n];unfold DN;rw[Nat.mul_right_comm];generalize a*18446744073709551616*2^s=J;omega
   have H:=R5 U b;refine(R1 a lo y s c (c/4294967296) (c%4294967296) U b (b/4294967296) (b%4294967296) m om om w o ?_ p ?_ ?_ ?_ ?_ ?_ ?_ ?_ om om om om om om ?_ i ?_).mono ?_
   . show IntKind.u64.wrap _=_;rw[BU,hs];omega
   . show IntKind.u64.wrap _=_;rw[j,B7,<-i,DJ _ om]
   . exact Mul64.divN c
   . exact Mul64.maskN c om
   . show bits .or .u64 _ _=_;rw[j,F,B7,<-Fb,DJ _ om,u64_or_nat _ _ om om,R2 C,l]
   . show IntKind.u64.wrap _=_;rw[j,B7,Mul64.wrapM,k]
   . exact Mul64.divN b
   . exact Mul64.maskN b u
   . show c=_;omega
   . exact H.trans t
   . rintro e r ⟨rfl,rfl⟩;exact⟨rfl,BB _ _⟩
