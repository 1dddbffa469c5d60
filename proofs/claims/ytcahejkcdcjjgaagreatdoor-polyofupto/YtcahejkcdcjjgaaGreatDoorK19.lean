import Derived.Test.YtcahejkcdcjjgaaGreatDoorK07
import Derived.Test.YtcahejkcdcjjgaaGreatDoorK18
set_option maxRecDepth 100000
set_option maxHeartbeats 16000000
namespace Go.Proofs.YtcahejkcdcjjgaaGreatDoor
open Go.RowKit Go.Shelf
theorem Jez:∀ (ds:List Nat),ds.take (Jr ds).length=Jr ds
 | []=>rfl
 | d::ds=>by
  have ih:=Jez ds;rw [Jr];generalize Jr ds=l at ih ⊢;cases l with
  | nil=>by_cases h:d=0 <;> simp [h]
  | cons e es=>simpa using ih
theorem YN:2≤C19:=by unfold C19;omega
theorem Job:C19<B64:=by unfold C19 B64;omega
theorem XV.chunk {zs:List Nat} {l n rest:Nat} {q:List Nat} (h:XV zs l C19 l rest q) (hz:zs.take l=Jb B64 n) :
 rest=n % C19∧Jr q=Jb B64 (n / C19):=by
 obtain ⟨h1,h2,h3,h4⟩:=h;have hB:2≤B64:=by unfold B64;omega
 rw [Nat.sub_self,List.drop_zero,hz,Jj hB] at h4;have hv:val B64 q=n / C19:=by
  rw [←h4,Nat.add_comm,Nat.add_mul_div_right _ _ (by have:=YN;omega),Nat.div_eq_of_lt h3,Nat.zero_add]
 refine ⟨?_,?_⟩
 · rw [←h4,Nat.add_comm,Nat.add_mul_mod_self_right,Nat.mod_eq_of_lt h3]
 · rw [←JN hB h2,hv]
def XW (n0:Nat) (cs:List Nat) (n:Nat):Prop:=cs++Jb C19 n=Jb C19 n0
theorem XW.start (n0:Nat):XW n0 [] n0:=rfl
theorem XW.step {n0:Nat} {cs:List Nat} {n:Nat} (h:XW n0 cs n) (hn:n≠0):XW n0 (cs++[n % C19]) (n / C19):=by
 unfold XW at h ⊢;rw [YT YN hn] at h;rw [List.append_assoc];exact h
theorem XW.done {n0:Nat} {cs:List Nat} (h:XW n0 cs 0):cs=Jb C19 n0:=by
 unfold XW at h;rw [Jv,List.append_nil] at h;exact h
theorem XW.length {n0:Nat} {cs:List Nat} {n:Nat} (h:XW n0 cs n):cs.length≤(Jb C19 n0).length:=by
 rw [←h,List.length_append];omega
theorem Jbv {n len:Nat} (h:(Jb B64 n).length≤len):(Jb C19 n).length≤2*len:=by
 refine JA YN ?_;have hB:2≤B64:=by unfold B64;omega
 have h1:n<B64 ^ (Jb B64 n).length:=by
  have:=JV (Jk hB n);rwa [Jj hB] at this
 have h2:B64 ^ (Jb B64 n).length≤B64 ^ len:=Nat.pow_le_pow_right (by omega) h;have h3:B64 ^ len≤(C19 ^ 2) ^ len:=Nat.pow_le_pow_left (by unfold B64 C19;decide) len;rw [←Nat.pow_mul] at h3;omega
theorem Jh7 {n:Nat} (h:n≠0):JE (Jb C19 n)=YD n:=by
 have hv:=Jj YN n;rw [Jeo ?_ (Jk YN n) (JW YN n),hv];intro e;rw [e] at hv;exact h hv.symm
end Go.Proofs.YtcahejkcdcjjgaaGreatDoor
