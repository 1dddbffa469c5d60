import Derived.Test.YtakpoihdghihmaaGreatDoorU11
set_option linter.all false
set_option maxRecDepth 99999
set_option maxHeartbeats 0
namespace Go.Proofs.YtakpoihdghihmaaGreatDoor
open Go.RowKit Go.Shelf
def bitLen_spec(x:Nat)(a:x≠0)(d:x<2^64):1<=Lib.bitLen x/\2^(Lib.bitLen x-1)<=x/\x<2^Lib.bitLen x:=by
 induction x using Nat.strongRecOn with
 |ind x f=>
  have e:=Lib.bitLen_half x a d;by_cases b:x/2=0
  . have c:x=1:=O
    subst c;rw[e]
    have:Lib.bitLen (1/2)=0:=DK
    rw[this];decide
  . obtain⟨g,i,j⟩:=f (x/2) O b O;rw[e];refine⟨O,?_,?_⟩
    . rw[show 1+Lib.bitLen (x/2)-1=Lib.bitLen (x/2)-1+1 from by omega,Cm];omega
    grind
def Z0{lo s:Nat}(b:s<=63)(a:lo<2^64):lo/2^(64-s)<2^s:=by
 rw[AM (Cj _),<-CV,show s+(64-s)=64 from by omega];exact a
def Z1(U L:Nat):(U*4294967296+L/4294967296)*4294967296+L%4294967296=U*18446744073709551616+L:=by
 omega
def R3(a lo y:Nat)(k:a<y)(f:lo<Z)(d:y<Z)(w:World):
 Calls Tryz.prog 219 #[.int .u64 (a:Nat),.int .u64 (lo:Nat),.int .u64 (y:Nat)] w λe p=>e=.returned (.tuple #[.int .u64 (((a*Z+lo)/y:Nat):Int),.int .u64 (((a*Z+lo)%y:Nat):Int)])/\Bl w p:=by
 have A:Z=2^64:=by unfold Z;decide
 by_cases n:a=0
 . subst n;rw[Nat.zero_mul,CA];unfold Z at f d;exact Zz lo y f k d w
 . rw[A]at f d;have u:y≠0:=O
   obtain⟨l1,l2,D⟩:=bitLen_spec y u d;have M:Lib.bitLen y<=64:=Lib.bitLen_le y 64 O d;obtain⟨s,C⟩:∃s,s=64-Lib.bitLen y:=⟨_,J⟩;have l:s<=63:=O
   have hp:=Cj s;have E:y*2^s<2^64:=by
    have c:y*2^s<2^Lib.bitLen y*2^s:=Nat.mul_lt_mul_of_pos_right D hp;rw[<-CV,show Lib.bitLen y+s=64 from by omega]at c;exact c
   have F:2^63<=y*2^s:=by
    have c:2^(Lib.bitLen y-1)*2^s<=y*2^s:=Ae _ l2;rw[<-CV,show Lib.bitLen y-1+s=63 from by omega]at c;exact c
   have I:a*2^s+2^s<=y*2^s:=by
    have c:(a+1)*2^s<=y*2^s:=Ae _ k;rw[AU,FD]at c;exact c
   have B:=Z0 l f;have q:(2:Nat)^64=18446744073709551616:=DK
   have K:(2:Nat)^63=9223372036854775808:=DK
   obtain⟨b,j⟩:∃b,b=y*2^s:=⟨_,J⟩;obtain⟨U,i⟩:∃U,U=a*2^s+lo/2^(64-s):=⟨_,J⟩;obtain⟨L,g⟩:∃L,L=lo*2^s%18446744073709551616:=⟨_,J⟩;have r:L<18446744073709551616:=by rw[g];exact A9 _ DK
   have H:U<b:=by rw[i,j];omega
   rw[<-j]at E F;have o:((2:Int)^s)=((2^s:Nat):Int):=DG
   have t:((2:Int)^(64-s))=((2^(64-s):Nat):Int):=DG
   have v:U*18446744073709551616+L=(a*Z+lo)*2^s:=by
    have x:lo*2^s/18446744073709551616=lo/2^(64-s):=by
     rw[<-q,show(2:Nat)^64=2^(64-s)*2^s from by rw[<-CV];congr 1;omega];exact Nat.mul_div_mul_right _ _ hp
    have m:=Ce (lo*2^s) 18446744073709551616;rw[x,<-g]at m;rw[i,AU,AU,<-m];unfold Z;rw[Nat.mul_right_comm];generalize a*18446744073709551616*2^s=G;omega
   have z:=Z1 U L;refine(Zx a lo y s b (b/4294967296) (b%4294967296) U L (L/4294967296) (L%4294967296) k O O w n ?_ l ?_ ?_ ?_ ?_ ?_ ?_ ?_ O O O O O O ?_ j ?_).mono ?_
   . show IntKind.u64.wrap _=_;rw[BT,C];omega
   . show IntKind.u64.wrap _=_;grind[DA]
   . exact Mul64.divN b
   . exact Mul64.maskN b O
   . show bits .or .u64 _ _=_;rw[o,t,Bw,<-FB,DA _ O,u64_or_nat _ _ O O,Zy B,i]
   . show IntKind.u64.wrap _=_;rw[o,Bw,Mul64.wrapM,g]
   . exact Mul64.divN L
   . exact Mul64.maskN L r
   . show b=_;omega
   . exact z.trans v
   . rintro e p ⟨rfl,rfl⟩;exact⟨J,BA _ _⟩
