import Derived.Test.YtcahejkcdcjjgaaGreatDoorK07
import Derived.Test.YtcahejkcdcjjgaaGreatDoorK18
set_option maxRecDepth 100000
set_option maxHeartbeats 16000000
namespace Go.Proofs.YtcahejkcdcjjgaaGreatDoor
open Go.RowKit Go.Shelf
theorem Jgy:∀(ds:List Nat),ds.take (Jv ds).length=Jv ds
 |[]=>rfl
 |d::ds=>by
  have ih:=Jgy ds;rw[Jv];generalize Jv ds=l at ih ⊢;cases l with
  |nil=>by_cases h:d=0<;>simp[h]
  |cons e es=>simpa using ih
theorem Y9:2≤C19:=by unfold C19;omega
theorem Jqm:C19<B64:=by unfold C19 B64;omega
theorem Jav.chunk{zs:List Nat}{l n rest:Nat}{q:List Nat}(h:Jav zs l C19 l rest q)(hz:zs.take l=Jc B64 n):
 rest=n%C19∧Jv q=Jc B64 (n/C19):=by
 obtain⟨h1,h2,h3,h4⟩:=h;have hB:2≤B64:=by unfold B64;omega
 rw[A0,Ax,hz,Jl hB]at h4;have hv:val B64 q=n/C19:=by
  rw[←h4,CQ,Nat.add_mul_div_right _ _ (by have:=Y9;omega),Ci h3,Cc]
 refine⟨?_,?_⟩
 · rw[←h4,CQ,Nat.add_mul_mod_self_right,Cn h3]
 · rw[←JW hB h2,hv]
def Jaw(n0:Nat)(cs:List Nat)(n:Nat):Prop:=cs++Jc C19 n=Jc C19 n0
theorem Jaw.start(n0:Nat):Jaw n0 [] n0:=rfl
theorem Jaw.step{n0:Nat}{cs:List Nat}{n:Nat}(h:Jaw n0 cs n)(hn:n≠0):Jaw n0 (cs++[n%C19]) (n/C19):=by
 unfold Jaw at h ⊢;rw[Xf Y9 hn]at h;rw[Cg];exact h
theorem Jaw.done{n0:Nat}{cs:List Nat}(h:Jaw n0 cs 0):cs=Jc C19 n0:=by
 unfold Jaw at h;rw[Jw,Cj]at h;exact h
theorem Jaw.length{n0:Nat}{cs:List Nat}{n:Nat}(h:Jaw n0 cs n):cs.length≤(Jc C19 n0).length:=by
 rw[←h,Ai];omega
theorem Jdk{n len:Nat}(h:(Jc B64 n).length≤len):(Jc C19 n).length≤2*len:=by
 refine JG Y9 ?_;have hB:2≤B64:=by unfold B64;omega
 have h1:n<B64^(Jc B64 n).length:=by
  have:=J7 (Jm hB n);rwa[Jl hB]at this
 have h2:B64^(Jc B64 n).length≤B64^len:=Ar (by omega) h;have h3:B64^len≤(C19^2)^len:=C8 (by unfold B64 C19;decide) len;rw[←Nat.pow_mul]at h3;omega
theorem Jkf{n:Nat}(h:n≠0):JK (Jc C19 n)=YY n:=by
 have hv:=Jl Y9 n;rw[Jgn ?_ (Jm Y9 n) (Ya Y9 n),hv];intro e;rw[e]at hv;exact h hv.symm
