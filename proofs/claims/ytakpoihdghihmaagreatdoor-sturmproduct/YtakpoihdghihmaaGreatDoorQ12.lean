import Derived.Test.YtakpoihdghihmaaGreatDoorQ11
import Derived.Lib.BitFns
set_option maxRecDepth 100000
set_option maxHeartbeats 16000000
namespace Go.Proofs.YtakpoihdghihmaaGreatDoor
open Go.RowKit Go.Shelf
theorem bitLen_spec(x:Nat)(a:x≠0)(d:x<2^64):1<=Lib.bitLen x/\2^(Lib.bitLen x-1)<=x/\x<2^Lib.bitLen x:=by
 induction x using Nat.strongRecOn with
 |ind x f=>
  have e:=Lib.bitLen_half x a d;by_cases b:x/2=0
  . have c:x=1:=Y
    subst c;rw[e]
    have:Lib.bitLen (1/2)=0:=DI
    rw[this];decide
  . obtain⟨g,i,j⟩:=f (x/2) Y b Y;rw[e];refine⟨Y,?_,?_⟩
    . rw[show 1+Lib.bitLen (x/2)-1=Lib.bitLen (x/2)-1+1 from by omega,A4];omega
    . rw[FB,A4];omega
theorem TR{lo s:Nat}(b:s<=63)(a:lo<2^64):lo/2^(64-s)<2^s:=by
 rw[A6 (Cc _),<-CQ,show s+(64-s)=64 from by omega];exact a
theorem TS(U L:Nat):(U*4294967296+L/4294967296)*4294967296+L%4294967296=U*18446744073709551616+L:=by
 have h:=Ci L 4294967296;rw[AD,AJ,Fx,As (L/4294967296),h]
theorem Om(a lo y:Nat)(k:a<y)(g:lo<O)(d:y<O)(w:World):
 Calls Tryz.prog 219 #[.int .u64 (a:Nat),.int .u64 (lo:Nat),.int .u64 (y:Nat)] w λe p=>e=.returned (.tuple #[.int .u64 (((a*O+lo)/y:Nat):Int),.int .u64 (((a*O+lo)%y:Nat):Int)])/\Bl w p:=by
 have A:O=2^64:=by unfold O;decide
 by_cases o:a=0
 . subst o;rw[Nat.zero_mul,Ce];unfold O at g d;exact TQ lo y g k d w
 . rw[A]at g d;have u:y≠0:=Y
   obtain⟨l1,l2,D⟩:=bitLen_spec y u d;have K:Lib.bitLen y<=64:=Lib.bitLen_le y 64 Y d;obtain⟨s,C⟩:∃s,s=64-Lib.bitLen y:=⟨_,rfl⟩;have m:s<=63:=Y
   have hp:=Cc s;have E:y*2^s<2^64:=by
    have c:y*2^s<2^Lib.bitLen y*2^s:=Nat.mul_lt_mul_of_pos_right D hp;rw[<-CQ,show Lib.bitLen y+s=64 from by omega]at c;exact c
   have F:2^63<=y*2^s:=by
    have c:2^(Lib.bitLen y-1)*2^s<=y*2^s:=Ah _ l2;rw[<-CQ,show Lib.bitLen y-1+s=63 from by omega]at c;exact c
   have I:a*2^s+2^s<=y*2^s:=by
    have c:(a+1)*2^s<=y*2^s:=Ah _ k;rw[AD,CA]at c;exact c
   have B:=TR m g;have q:(2:Nat)^64=18446744073709551616:=DI
   obtain⟨b,f⟩:∃b,b=y*2^s:=⟨_,rfl⟩;obtain⟨U,j⟩:∃U,U=a*2^s+lo/2^(64-s):=⟨_,rfl⟩;obtain⟨L,i⟩:∃L,L=lo*2^s%18446744073709551616:=⟨_,rfl⟩;have r:L<18446744073709551616:=by rw[i];exact Cp _ DI
   have H:U<b:=by rw[j,f];omega
   rw[<-f]at E F;have l:((2:Int)^s)=((2^s:Nat):Int):=Z
   have t:((2:Int)^(64-s))=((2^(64-s):Nat):Int):=Z
   have v:U*18446744073709551616+L=(a*O+lo)*2^s:=by
    have x:lo*2^s/18446744073709551616=lo/2^(64-s):=by
     rw[<-q,show(2:Nat)^64=2^(64-s)*2^s from by rw[<-CQ];congr 1;omega];exact Nat.mul_div_mul_right _ _ hp
    have n:=Ci (lo*2^s) 18446744073709551616;rw[x,<-i]at n;rw[j,AD,AD,<-n];unfold O;rw[Nat.mul_right_comm];generalize a*18446744073709551616*2^s=G;omega
   have z:=TS U L;refine(TO a lo y s b (b/4294967296) (b%4294967296) U L (L/4294967296) (L%4294967296) k Y Y w o ?_ m ?_ ?_ ?_ ?_ ?_ ?_ ?_ Y Y Y Y Y Y ?_ f ?_).mono ?_
   . show IntKind.u64.wrap _=_;rw[BW,C];omega
   . show IntKind.u64.wrap _=_;rw[l,Bw,<-f,DE _ Y]
   . exact Mul64.divN b
   . exact Mul64.maskN b Y
   . show bits .or .u64 _ _=_;rw[l,t,Bw,<-Fj,DE _ Y,u64_or_nat _ _ Y Y,TP B,j]
   . show IntKind.u64.wrap _=_;rw[l,Bw,Mul64.wrapM,i]
   . exact Mul64.divN L
   . exact Mul64.maskN L r
   . show b=_;omega
   . exact z.trans v
   . rintro e p ⟨rfl,rfl⟩;exact⟨rfl,BE _ _⟩
