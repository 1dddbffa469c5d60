import Derived.Test.YtakpoihdghihmaaGreatDoorR11
import Derived.Lib.BitFns
set_option maxRecDepth 100000
set_option maxHeartbeats 16000000
namespace Go.Proofs.YtakpoihdghihmaaGreatDoor
open Go.RowKit Go.Shelf
theorem bitLen_spec(x:Nat)(a:x≠0)(d:x<2^64):1<=Lib.bitLen x/\2^(Lib.bitLen x-1)<=x/\x<2^Lib.bitLen x:=by
 induction x using Nat.strongRecOn with
 |ind x f=>
  have e:=Lib.bitLen_half x a d;by_cases b:x/2=0
  . have c:x=1:=O
    subst c;rw[e]
    have:Lib.bitLen (1/2)=0:=DF
    rw[this];decide
  . obtain⟨g,i,j⟩:=f (x/2) O b O;rw[e];refine⟨O,?_,?_⟩
    . rw[show 1+Lib.bitLen (x/2)-1=Lib.bitLen (x/2)-1+1 from by omega,A4];omega
    . rw[Fs,A4];omega
theorem U5{lo s:Nat}(b:s<=63)(a:lo<2^64):lo/2^(64-s)<2^s:=by
 rw[A7 (Cb _),<-CO,show s+(64-s)=64 from by omega];exact a
theorem U6(U L:Nat):(U*4294967296+L/4294967296)*4294967296+L%4294967296=U*18446744073709551616+L:=by
 have h:=Ci L 4294967296;rw[AJ,AH,Fw,At (L/4294967296),h]
theorem Pe(a lo y:Nat)(k:a<y)(g:lo<Y)(d:y<Y)(w:World):
 Calls Tryz.prog 219 #[.int .u64 (a:Nat),.int .u64 (lo:Nat),.int .u64 (y:Nat)] w λe p=>e=.returned (.tuple #[.int .u64 (((a*Y+lo)/y:Nat):Int),.int .u64 (((a*Y+lo)%y:Nat):Int)])/\Bl w p:=by
 have A:Y=2^64:=by unfold Y;decide
 by_cases o:a=0
 . subst o;rw[Nat.zero_mul,AY];unfold Y at g d;exact U4 lo y g k d w
 . rw[A]at g d;have u:y≠0:=O
   obtain⟨l1,l2,D⟩:=bitLen_spec y u d;have K:Lib.bitLen y<=64:=Lib.bitLen_le y 64 O d;obtain⟨s,C⟩:∃s,s=64-Lib.bitLen y:=⟨_,rfl⟩;have m:s<=63:=O
   have hp:=Cb s;have E:y*2^s<2^64:=by
    have c:y*2^s<2^Lib.bitLen y*2^s:=Nat.mul_lt_mul_of_pos_right D hp;rw[<-CO,show Lib.bitLen y+s=64 from by omega]at c;exact c
   have F:2^63<=y*2^s:=by
    have c:2^(Lib.bitLen y-1)*2^s<=y*2^s:=Aj _ l2;rw[<-CO,show Lib.bitLen y-1+s=63 from by omega]at c;exact c
   have I:a*2^s+2^s<=y*2^s:=by
    have c:(a+1)*2^s<=y*2^s:=Aj _ k;rw[AJ,CF]at c;exact c
   have B:=U5 m g;have q:(2:Nat)^64=18446744073709551616:=DF
   obtain⟨b,f⟩:∃b,b=y*2^s:=⟨_,rfl⟩;obtain⟨U,j⟩:∃U,U=a*2^s+lo/2^(64-s):=⟨_,rfl⟩;obtain⟨L,i⟩:∃L,L=lo*2^s%18446744073709551616:=⟨_,rfl⟩;have r:L<18446744073709551616:=by rw[i];exact Cp _ DF
   have H:U<b:=by rw[j,f];omega
   rw[<-f]at E F;have l:((2:Int)^s)=((2^s:Nat):Int):=Z
   have t:((2:Int)^(64-s))=((2^(64-s):Nat):Int):=Z
   have v:U*18446744073709551616+L=(a*Y+lo)*2^s:=by
    have x:lo*2^s/18446744073709551616=lo/2^(64-s):=by
     rw[<-q,show(2:Nat)^64=2^(64-s)*2^s from by rw[<-CO];congr 1;omega];exact Nat.mul_div_mul_right _ _ hp
    have n:=Ci (lo*2^s) 18446744073709551616;rw[x,<-i]at n;rw[j,AJ,AJ,<-n];unfold Y;rw[Nat.mul_right_comm];generalize a*18446744073709551616*2^s=G;omega
   have z:=U6 U L;refine(UZ a lo y s b (b/4294967296) (b%4294967296) U L (L/4294967296) (L%4294967296) k O O w o ?_ m ?_ ?_ ?_ ?_ ?_ ?_ ?_ O O O O O O ?_ f ?_).mono ?_
   . show IntKind.u64.wrap _=_;rw[BT,C];omega
   . show IntKind.u64.wrap _=_;rw[l,Bu,<-f,DA _ O]
   . exact Mul64.divN b
   . exact Mul64.maskN b O
   . show bits .or .u64 _ _=_;rw[l,t,Bu,<-Fi,DA _ O,u64_or_nat _ _ O O,U0 B,j]
   . show IntKind.u64.wrap _=_;rw[l,Bu,Mul64.wrapM,i]
   . exact Mul64.divN L
   . exact Mul64.maskN L r
   . show b=_;omega
   . exact z.trans v
   . rintro e p ⟨rfl,rfl⟩;exact⟨rfl,BF _ _⟩
