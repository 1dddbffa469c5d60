import Derived.Test.YtcahejkcdcjjgaaGreatDoorK07
import Derived.Test.YtcahejkcdcjjgaaGreatDoorK18
set_option maxRecDepth 100000
set_option maxHeartbeats 16000000
namespace Go.Proofs.YtcahejkcdcjjgaaGreatDoor
open Go.RowKit Go.Shelf
theorem Jf0:∀ (ds:List Nat),ds.take (Jy ds).length=Jy ds
 | []=>rfl
 | d::ds=>by
  have ih:=Jf0 ds;rw [Jy];generalize Jy ds=l at ih ⊢;cases l with
  | nil=>by_cases h:d=0 <;> simp [h]
  | cons e es=>simpa using ih
theorem YT:2≤C19:=by unfold C19;omega
theorem Jpk:C19<B64:=by unfold C19 B64;omega
theorem X4.chunk {zs:List Nat} {l n rest:Nat} {q:List Nat} (h:X4 zs l C19 l rest q) (hz:zs.take l=Jd B64 n) :
 rest=n % C19∧Jy q=Jd B64 (n / C19):=by
 obtain ⟨h1,h2,h3,h4⟩:=h;have hB:2≤B64:=by unfold B64;omega
 rw [Nat.sub_self,List.drop_zero,hz,Jn hB] at h4;have hv:val B64 q=n / C19:=by
  rw [←h4,Nat.add_comm,Nat.add_mul_div_right _ _ (by have:=YT;omega),Nat.div_eq_of_lt h3,Nat.zero_add]
 refine ⟨?_,?_⟩
 · rw [←h4,Nat.add_comm,Nat.add_mul_mod_self_right,Nat.mod_eq_of_lt h3]
 · rw [←JQ hB h2,hv]
def X5 (n0:Nat) (cs:List Nat) (n:Nat):Prop:=cs++Jd C19 n=Jd C19 n0
theorem X5.start (n0:Nat):X5 n0 [] n0:=rfl
theorem X5.step {n0:Nat} {cs:List Nat} {n:Nat} (h:X5 n0 cs n) (hn:n≠0):X5 n0 (cs++[n % C19]) (n / C19):=by
 unfold X5 at h ⊢;rw [YZ YT hn] at h;rw [List.append_assoc];exact h
theorem X5.done {n0:Nat} {cs:List Nat} (h:X5 n0 cs 0):cs=Jd C19 n0:=by
 unfold X5 at h;rw [Jz,List.append_nil] at h;exact h
theorem X5.length {n0:Nat} {cs:List Nat} {n:Nat} (h:X5 n0 cs n):cs.length≤(Jd C19 n0).length:=by
 rw [←h,List.length_append];omega
theorem Jcv {n len:Nat} (h:(Jd B64 n).length≤len):(Jd C19 n).length≤2*len:=by
 refine JN YT ?_;have hB:2≤B64:=by unfold B64;omega
 have h1:n<B64 ^ (Jd B64 n).length:=by
  have:=J2 (Jq hB n);rwa [Jn hB] at this
 have h2:B64 ^ (Jd B64 n).length≤B64 ^ len:=Nat.pow_le_pow_right (by omega) h;have h3:B64 ^ len≤(C19 ^ 2) ^ len:=Nat.pow_le_pow_left (by unfold B64 C19;decide) len;rw [←Nat.pow_mul] at h3;omega
theorem Jjp {n:Nat} (h:n≠0):JB (Jd C19 n)=Xt n:=by
 have hv:=Jn YT n;rw [Jfp ?_ (Jq YT n) (Y0 YT n),hv];intro e;rw [e] at hv;exact h hv.symm
end Go.Proofs.YtcahejkcdcjjgaaGreatDoor
