import Derived.Test.YtcahejkcdcjjgaaGreatDoorK07
import Derived.Test.YtcahejkcdcjjgaaGreatDoorK18
set_option maxRecDepth 100000
set_option maxHeartbeats 16000000
namespace Go.Proofs.YtcahejkcdcjjgaaGreatDoor
open Go.RowKit Go.Shelf
theorem Jfd:∀ (ds:List Nat),ds.take (Jt ds).length=Jt ds
 | []=>rfl
 | d::ds=>by
  have ih:=Jfd ds;rw [Jt];generalize Jt ds=l at ih ⊢;cases l with
  | nil=>by_cases h:d=0 <;> simp [h]
  | cons e es=>simpa using ih
theorem YQ:2≤C19:=by unfold C19;omega
theorem Joi:C19<B64:=by unfold C19 B64;omega
theorem X2.chunk {zs:List Nat} {l n rest:Nat} {q:List Nat} (h:X2 zs l C19 l rest q) (hz:zs.take l=Jb B64 n) :
 rest=n % C19∧Jt q=Jb B64 (n / C19):=by
 obtain ⟨h1,h2,h3,h4⟩:=h;have hB:2≤B64:=by unfold B64;omega
 rw [Nat.sub_self,List.drop_zero,hz,Jk hB] at h4;have hv:val B64 q=n / C19:=by
  rw [←h4,Nat.add_comm,Nat.add_mul_div_right _ _ (by have:=YQ;omega),Nat.div_eq_of_lt h3,Nat.zero_add]
 refine ⟨?_,?_⟩
 · rw [←h4,Nat.add_comm,Nat.add_mul_mod_self_right,Nat.mod_eq_of_lt h3]
 · rw [←JS hB h2,hv]
def X3 (n0:Nat) (cs:List Nat) (n:Nat):Prop:=cs++Jb C19 n=Jb C19 n0
theorem X3.start (n0:Nat):X3 n0 [] n0:=rfl
theorem X3.step {n0:Nat} {cs:List Nat} {n:Nat} (h:X3 n0 cs n) (hn:n≠0):X3 n0 (cs++[n % C19]) (n / C19):=by
 unfold X3 at h ⊢;rw [YV YQ hn] at h;rw [List.append_assoc];exact h
theorem X3.done {n0:Nat} {cs:List Nat} (h:X3 n0 cs 0):cs=Jb C19 n0:=by
 unfold X3 at h;rw [Jv,List.append_nil] at h;exact h
theorem X3.length {n0:Nat} {cs:List Nat} {n:Nat} (h:X3 n0 cs n):cs.length≤(Jb C19 n0).length:=by
 rw [←h,List.length_append];omega
theorem Jce {n len:Nat} (h:(Jb B64 n).length≤len):(Jb C19 n).length≤2*len:=by
 refine JE YQ ?_;have hB:2≤B64:=by unfold B64;omega
 have h1:n<B64 ^ (Jb B64 n).length:=by
  have:=J2 (Jl hB n);rwa [Jk hB] at this
 have h2:B64 ^ (Jb B64 n).length≤B64 ^ len:=Nat.pow_le_pow_right (by omega) h;have h3:B64 ^ len≤(C19 ^ 2) ^ len:=Nat.pow_le_pow_left (by unfold B64 C19;decide) len;rw [←Nat.pow_mul] at h3;omega
theorem Jin {n:Nat} (h:n≠0):JI (Jb C19 n)=YI n:=by
 have hv:=Jk YQ n;rw [Je2 ?_ (Jl YQ n) (J4 YQ n),hv];intro e;rw [e] at hv;exact h hv.symm
end Go.Proofs.YtcahejkcdcjjgaaGreatDoor
