import Derived.Test.YteldjhhjnchdeaaGreatDoorT11
import Derived.Lib.BitFns
set_option maxRecDepth 100000
set_option maxHeartbeats 16000000
namespace Go.Proofs.YteldjhhjnchdeaaGreatDoor
open Go.RowKit Go.Shelf
theorem bitLen_spec(x:Nat)(b:x≠0)(d:x<2^64):1<=Lib.bitLen x/\2^(Lib.bitLen x-1)<=x/\x<2^Lib.bitLen x:=by
 induction x using Nat.strongRecOn with
 |ind x f=>
  have e:=Lib.bitLen_half x b d;by_cases a:x/2=0
  . have c:x=1:=om
    subst c;rw[e];have:Lib.bitLen (1/2)=0:=DS
    rw[this];decide
  . obtain⟨g,i,j⟩:=f (x/2) om a om;rw[e];refine⟨om,?_,?_⟩
    . rw[show 1+Lib.bitLen (x/2)-1=Lib.bitLen (x/2)-1+1 from by omega,AP];omega
    . rw[CZ,AP];omega
theorem VM{lo s:Nat}(hs:s<=63)(a:lo<2^64):lo/2^(64-s)<2^s:=by
 rw[AX (Ce _),<-CG,show s+(64-s)=64 from by omega];exact a
theorem VN(U L:Nat):(U*4294967296+L/4294967296)*4294967296+L%4294967296=U*18446744073709551616+L:=by
 have h:=Cc L 4294967296;rw[AA,Ay,CO,Ar (L/4294967296),h]
theorem Pq(a lo y:Nat)(j:a<y)(f:lo<DR)(d:y<DR)(w:World):
 Calls Tryz.prog 175 #[.int .u64 (a:Nat),.int .u64 (lo:Nat),.int .u64 (y:Nat)] w λe o=>e=.returned (.tuple #[.int .u64 (((a*DR+lo)/y:Nat):Int),.int .u64 (((a*DR+lo)%y:Nat):Int)])/\Bl w o:=by
 have A:DR=2^64:=by unfold DR;decide
 by_cases m:a=0
 . subst m;rw[Nat.zero_mul,A8];unfold DR at f d;exact VL lo y f j d w
 . rw[A]at f d;have t:y≠0:=om
   obtain⟨l1,l2,u⟩:=bitLen_spec y t d;have H:Lib.bitLen y<=64:=Lib.bitLen_le y 64 om d;obtain⟨s,hs⟩:∃s,s=64-Lib.bitLen y:=⟨_,rfl⟩;have n:s<=63:=om
   have hp:=Ce s;have D:y*2^s<2^64:=by
    have c:y*2^s<2^Lib.bitLen y*2^s:=Nat.mul_lt_mul_of_pos_right u hp;rw[<-CG,show Lib.bitLen y+s=64 from by omega]at c;exact c
   have q:2^63<=y*2^s:=by
    have c:2^(Lib.bitLen y-1)*2^s<=y*2^s:=Ak _ l2;rw[<-CG,show Lib.bitLen y-1+s=63 from by omega]at c;exact c
   have I:a*2^s+2^s<=y*2^s:=by
    have c:(a+1)*2^s<=y*2^s:=Ak _ j;rw[AA,Cw]at c;exact c
   have r:=VM n f;have v:(2:Nat)^64=18446744073709551616:=DS
   obtain⟨b,g⟩:∃b,b=y*2^s:=⟨_,rfl⟩;obtain⟨U,k⟩:∃U,U=a*2^s+lo/2^(64-s):=⟨_,rfl⟩;obtain⟨L,l⟩:∃L,L=lo*2^s%18446744073709551616:=⟨_,rfl⟩;have B:L<18446744073709551616:=by rw[l];exact A7 _ DS
   have F:U<b:=by rw[k,g];omega
   rw[<-g]at D q;have i:((2:Int)^s)=((2^s:Nat):Int):=DQ
   have E:((2:Int)^(64-s))=((2^(64-s):Nat):Int):=DQ
   have z:U*18446744073709551616+L=(a*DR+lo)*2^s:=by
    have C:lo*2^s/18446744073709551616=lo/2^(64-s):=by
     rw[<-v,show(2:Nat)^64=2^(64-s)*2^s from by rw[<-CG];congr 1;omega];exact Nat.mul_div_mul_right _ _ hp
    have p:=Cc (lo*2^s) 18446744073709551616;rw[C,<-l]at p;rw[k,AA,AA,<-p];unfold DR;rw[Nat.mul_right_comm];generalize a*18446744073709551616*2^s=G;omega
   have x:=VN U L;refine(VJ a lo y s b (b/4294967296) (b%4294967296) U L (L/4294967296) (L%4294967296) j om om w m ?_ n ?_ ?_ ?_ ?_ ?_ ?_ ?_ om om om om om om ?_ g ?_).mono ?_
   . show IntKind.u64.wrap _=_;rw[BX,hs];omega
   . show IntKind.u64.wrap _=_;rw[i,DB,<-g,DM _ om]
   . exact Mul64.divN b
   . exact Mul64.maskN b om
   . show bits .or .u64 _ _=_;rw[i,E,DB,<-Fo,DM _ om,u64_or_nat _ _ om om,VK r,k]
   . show IntKind.u64.wrap _=_;rw[i,DB,Mul64.wrapM,l]
   . exact Mul64.divN L
   . exact Mul64.maskN L B
   . show b=_;omega
   . exact x.trans z
   . rintro e o ⟨rfl,rfl⟩;exact⟨rfl,BB _ _⟩
