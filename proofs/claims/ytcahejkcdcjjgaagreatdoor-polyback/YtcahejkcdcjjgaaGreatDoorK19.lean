import Derived.Test.YtcahejkcdcjjgaaGreatDoorK07
import Derived.Test.YtcahejkcdcjjgaaGreatDoorK18
set_option maxRecDepth 100000
set_option maxHeartbeats 16000000
namespace Go.Proofs.YtcahejkcdcjjgaaGreatDoor
open Go.RowKit Go.Shelf
theorem Jfd:∀ (ds:List Nat),ds.take (Ju ds).length=Ju ds
 | []=>rfl
 | d::ds=>by
  have ih:=Jfd ds;rw [Ju];generalize Ju ds=l at ih ⊢;cases l with
  | nil=>by_cases h:d=0 <;> simp [h]
  | cons e es=>simpa using ih
theorem YW:2≤C19:=by unfold C19;omega
theorem Joq:C19<B64:=by unfold C19 B64;omega
theorem X3.chunk {zs:List Nat} {l n rest:Nat} {q:List Nat} (h:X3 zs l C19 l rest q) (hz:zs.take l=Jb B64 n) :
 rest=n % C19∧Ju q=Jb B64 (n / C19):=by
 obtain ⟨h1,h2,h3,h4⟩:=h;have hB:2≤B64:=by unfold B64;omega
 rw [Nat.sub_self,List.drop_zero,hz,Jj hB] at h4;have hv:val B64 q=n / C19:=by
  rw [←h4,Nat.add_comm,Nat.add_mul_div_right _ _ (by have:=YW;omega),Nat.div_eq_of_lt h3,Nat.zero_add]
 refine ⟨?_,?_⟩
 · rw [←h4,Nat.add_comm,Nat.add_mul_mod_self_right,Nat.mod_eq_of_lt h3]
 · rw [←JU hB h2,hv]
def X4 (n0:Nat) (cs:List Nat) (n:Nat):Prop:=cs++Jb C19 n=Jb C19 n0
theorem X4.start (n0:Nat):X4 n0 [] n0:=rfl
theorem X4.step {n0:Nat} {cs:List Nat} {n:Nat} (h:X4 n0 cs n) (hn:n≠0):X4 n0 (cs++[n % C19]) (n / C19):=by
 unfold X4 at h ⊢;rw [Y3 YW hn] at h;rw [List.append_assoc];exact h
theorem X4.done {n0:Nat} {cs:List Nat} (h:X4 n0 cs 0):cs=Jb C19 n0:=by
 unfold X4 at h;rw [Jw,List.append_nil] at h;exact h
theorem X4.length {n0:Nat} {cs:List Nat} {n:Nat} (h:X4 n0 cs n):cs.length≤(Jb C19 n0).length:=by
 rw [←h,List.length_append];omega
theorem Jch {n len:Nat} (h:(Jb B64 n).length≤len):(Jb C19 n).length≤2*len:=by
 refine JL YW ?_;have hB:2≤B64:=by unfold B64;omega
 have h1:n<B64 ^ (Jb B64 n).length:=by
  have:=J2 (Jk hB n);rwa [Jj hB] at this
 have h2:B64 ^ (Jb B64 n).length≤B64 ^ len:=Nat.pow_le_pow_right (by omega) h;have h3:B64 ^ len≤(C19 ^ 2) ^ len:=Nat.pow_le_pow_left (by unfold B64 C19;decide) len;rw [←Nat.pow_mul] at h3;omega
theorem Jiv {n:Nat} (h:n≠0):JJ (Jb C19 n)=Yf n:=by
 have hv:=Jj YW n;rw [Je2 ?_ (Jk YW n) (J5 YW n),hv];intro e;rw [e] at hv;exact h hv.symm
end Go.Proofs.YtcahejkcdcjjgaaGreatDoor
