import Derived.Test.YtcahodpphikgnaaGreatDoorW10
set_option linter.all false
set_option maxRecDepth 99999
set_option maxHeartbeats 0
namespace Go.Proofs.YtcahodpphikgnaaGreatDoor
open Go.RowKit Go.Shelf
def bitLen_spec(x:Nat)(h0:x≠0)(hx:x<2^64):1≤Lib.bitLen x∧2^(Lib.bitLen x-1)≤x∧x<2^Lib.bitLen x:=by
 induction x using Nat.strongRecOn with
 |ind x ih=>
  have e:=Lib.bitLen_half x h0 hx;by_cases h1:x/2=0
  · have h2:x=1:=by omega
    subst h2;rw[e]
    have:Lib.bitLen (1/2)=0:=by decide
    rw[this];decide
  · obtain⟨i1,i2,i3⟩:=ih (x/2) (by omega) h1 (by omega);rw[e];refine⟨by omega,?_,?_⟩
    · rw[show 1+Lib.bitLen (x/2)-1=Lib.bitLen (x/2)-1+1 from by omega,AW];omega
    grind
def Hy{lo s:Nat}(hs:s≤63)(hlo:lo<2^64):lo/2^(64-s)<2^s:=by
 rw[Al (Au _),←Cl,show s+(64-s)=64 from by omega];exact hlo
def Hz(U L:Nat):(U*4294967296+L/4294967296)*4294967296+L%4294967296=U*18446744073709551616+L:=by
 omega
def Fqq(hi lo y:Nat)(hhi:hi<y)(hlo:lo<O)(hy:y<O)(w:World):
 Calls Tryz.prog 109 #[.int .u64 (hi:Nat),.int .u64 (lo:Nat),.int .u64 (y:Nat)] w fun e w'=>e=.returned (.tuple #[.int .u64 (((hi*O+lo)/y:Nat):Int),.int .u64 (((hi*O+lo)%y:Nat):Int)])∧Bl w w':=by
 have hb:O=2^64:=by unfold O;decide
 by_cases h0:hi=0
 · subst h0;rw[Nat.zero_mul,A5];unfold O at hlo hy;exact Hx lo y hlo hhi hy w
 · rw[hb]at hlo hy;have Qe:y≠0:=by omega
   obtain⟨l1,l2,l3⟩:=bitLen_spec y Qe hy;have l4:Lib.bitLen y≤64:=Lib.bitLen_le y 64 (by omega) hy;obtain⟨s,hs⟩:∃s,s=64-Lib.bitLen y:=⟨_,J⟩;have Qa:s≤63:=by omega
   have hp:=Au s;have y1:y*2^s<2^64:=by
    have h1:y*2^s<2^Lib.bitLen y*2^s:=Nat.mul_lt_mul_of_pos_right l3 hp;rw[←Cl,show Lib.bitLen y+s=64 from by omega]at h1;exact h1
   have y2:2^63≤y*2^s:=by
    have h1:2^(Lib.bitLen y-1)*2^s≤y*2^s:=Ad _ l2;rw[←Cl,show Lib.bitLen y-1+s=63 from by omega]at h1;exact h1
   have hh:hi*2^s+2^s≤y*2^s:=by
    have h1:(hi+1)*2^s≤y*2^s:=Ad _ hhi;rw[A9,Nat.one_mul]at h1;exact h1
   have hd:=Hy Qa hlo;have Qb:(2:Nat)^64=18446744073709551616:=by decide
   obtain⟨Y,hY⟩:∃Y,Y=y*2^s:=⟨_,J⟩;obtain⟨U,hU⟩:∃U,U=hi*2^s+lo/2^(64-s):=⟨_,J⟩;obtain⟨L,hL⟩:∃L,L=lo*2^s%18446744073709551616:=⟨_,J⟩;have Qc:L<18446744073709551616:=by rw[hL];exact AH _ (by decide)
   have hUY:U<Y:=by rw[hU,hY];omega
   rw[←hY]at y1 y2;have pw:((2:Int)^s)=((2^s:Nat):Int):=by simp
   have Qd:((2:Int)^(64-s))=((2^(64-s):Nat):Int):=by simp
   have Qf:U*18446744073709551616+L=(hi*O+lo)*2^s:=by
    have e1:lo*2^s/18446744073709551616=lo/2^(64-s):=by
     rw[←Qb,show(2:Nat)^64=2^(64-s)*2^s from by rw[←Cl];congr 1;omega];exact Nat.mul_div_mul_right _ _ hp
    have e2:=AB (lo*2^s) 18446744073709551616;rw[e1,←hL]at e2;rw[hU,A9,A9,←e2];unfold O;rw[Nat.mul_right_comm];generalize hi*18446744073709551616*2^s=a1;omega
   have e3:=Hz U L;refine(Hv hi lo y s Y (Y/4294967296) (Y%4294967296) U L (L/4294967296) (L%4294967296) hhi (by omega) (by omega) w h0 ?_ Qa ?_ ?_ ?_ ?_ ?_ ?_ ?_ (by omega) (by omega) (by omega) (by omega) (by omega) (by omega) ?_ hY ?_).mono ?_
   · show IntKind.u64.wrap _=_;rw[BG,hs];omega
   · show IntKind.u64.wrap _=_;grind[Bh]
   · exact Mul64.divN Y
   · exact Mul64.maskN Y (by omega)
   · show bits .or .u64 _ _=_;rw[pw,Qd,Be,←Cq,Bh _ (by omega),u64_or_nat _ _ (by omega) (by omega),Hw hd,hU]
   · show IntKind.u64.wrap _=_;rw[pw,Be,Mul64.wrapM,hL]
   · exact Mul64.divN L
   · exact Mul64.maskN L Qc
   · show Y=_;omega
   · exact e3.trans Qf
   · rintro e w' ⟨rfl,rfl⟩;exact⟨J,BC _ _⟩
