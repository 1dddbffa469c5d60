import Derived.Test.YteldjhhjnchdeaaGreatDoorU11
import Derived.Lib.BitFns
set_option maxRecDepth 100000
set_option maxHeartbeats 16000000
namespace Go.Proofs.YteldjhhjnchdeaaGreatDoor
open Go.RowKit Go.Shelf
theorem bitLen_spec(x:Nat)(a:x≠0)(d:x<2^64):1<=Lib.bitLen x/\2^(Lib.bitLen x-1)<=x/\x<2^Lib.bitLen x:=by
 induction x using Nat.strongRecOn with
 |ind x f=>
  have e:=Lib.bitLen_half x a d;by_cases b:x/2=0
  . have c:x=1:=J
    subst c;rw[e]
    have:Lib.bitLen (1/2)=0:=DQ
    rw[this];decide
  . obtain⟨g,i,j⟩:=f (x/2) J b J;rw[e];refine⟨J,?_,?_⟩
    . rw[show 1+Lib.bitLen (x/2)-1=Lib.bitLen (x/2)-1+1 from by omega,AQ];omega
    . rw[C1,AQ];omega
theorem VW{lo s:Nat}(hs:s<=63)(a:lo<2^64):lo/2^(64-s)<2^s:=by
 rw[AX (Cc _),<-CI,show s+(64-s)=64 from by omega];exact a
theorem VX(U L:Nat):(U*4294967296+L/4294967296)*4294967296+L%4294967296=U*18446744073709551616+L:=by
 have h:=Cb L 4294967296;rw[Ay,Az,CO,As (L/4294967296),h]
theorem Pn(a lo y:Nat)(k:a<y)(g:lo<Z)(d:y<Z)(w:World):
 Calls Tryz.prog 175 #[.int .u64 (a:Nat),.int .u64 (lo:Nat),.int .u64 (y:Nat)] w λe p=>e=.returned (.tuple #[.int .u64 (((a*Z+lo)/y:Nat):Int),.int .u64 (((a*Z+lo)%y:Nat):Int)])/\Bl w p:=by
 have A:Z=2^64:=by unfold Z;decide
 by_cases o:a=0
 . subst o;rw[Nat.zero_mul,A8];unfold Z at g d;exact VV lo y g k d w
 . rw[A]at g d;have u:y≠0:=J
   obtain⟨l1,l2,C⟩:=bitLen_spec y u d;have I:Lib.bitLen y<=64:=Lib.bitLen_le y 64 J d;obtain⟨s,hs⟩:∃s,s=64-Lib.bitLen y:=⟨_,rfl⟩;have m:s<=63:=J
   have hp:=Cc s;have D:y*2^s<2^64:=by
    have c:y*2^s<2^Lib.bitLen y*2^s:=Nat.mul_lt_mul_of_pos_right C hp;rw[<-CI,show Lib.bitLen y+s=64 from by omega]at c;exact c
   have E:2^63<=y*2^s:=by
    have c:2^(Lib.bitLen y-1)*2^s<=y*2^s:=Ak _ l2;rw[<-CI,show Lib.bitLen y-1+s=63 from by omega]at c;exact c
   have H:a*2^s+2^s<=y*2^s:=by
    have c:(a+1)*2^s<=y*2^s:=Ak _ k;rw[Ay,Cw]at c;exact c
   have B:=VW m g;have q:(2:Nat)^64=18446744073709551616:=DQ
   obtain⟨b,f⟩:∃b,b=y*2^s:=⟨_,rfl⟩;obtain⟨U,j⟩:∃U,U=a*2^s+lo/2^(64-s):=⟨_,rfl⟩;obtain⟨L,i⟩:∃L,L=lo*2^s%18446744073709551616:=⟨_,rfl⟩;have r:L<18446744073709551616:=by rw[i];exact A7 _ DQ
   have G:U<b:=by rw[j,f];omega
   rw[<-f]at D E;have l:((2:Int)^s)=((2^s:Nat):Int):=Y
   have t:((2:Int)^(64-s))=((2^(64-s):Nat):Int):=Y
   have v:U*18446744073709551616+L=(a*Z+lo)*2^s:=by
    have x:lo*2^s/18446744073709551616=lo/2^(64-s):=by
     rw[<-q,show(2:Nat)^64=2^(64-s)*2^s from by rw[<-CI];congr 1;omega];exact Nat.mul_div_mul_right _ _ hp
    have n:=Cb (lo*2^s) 18446744073709551616;rw[x,<-i]at n;rw[j,Ay,Ay,<-n];unfold Z;rw[Nat.mul_right_comm];generalize a*18446744073709551616*2^s=F;omega
   have z:=VX U L;refine(VT a lo y s b (b/4294967296) (b%4294967296) U L (L/4294967296) (L%4294967296) k J J w o ?_ m ?_ ?_ ?_ ?_ ?_ ?_ ?_ J J J J J J ?_ f ?_).mono ?_
   . show IntKind.u64.wrap _=_;rw[BX,hs];omega
   . show IntKind.u64.wrap _=_;rw[l,DB,<-f,DM _ J]
   . exact Mul64.divN b
   . exact Mul64.maskN b J
   . show bits .or .u64 _ _=_;rw[l,t,DB,<-Fp,DM _ J,u64_or_nat _ _ J J,VU B,j]
   . show IntKind.u64.wrap _=_;rw[l,DB,Mul64.wrapM,i]
   . exact Mul64.divN L
   . exact Mul64.maskN L r
   . show b=_;omega
   . exact z.trans v
   . rintro e p ⟨rfl,rfl⟩;exact⟨rfl,BB _ _⟩
