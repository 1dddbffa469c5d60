import Derived.Test.YtcahejkcdcjjgaaGreatDoorK30
import Derived.Lib.AppendZeros
set_option maxRecDepth 100000
set_option maxHeartbeats 16000000
namespace Go.Proofs.YtcahejkcdcjjgaaGreatDoor
open Go.RowKit Go.Shelf
attribute [local go_sem] Oper.semAt_some
theorem Jga (ds:List Nat) (k:Nat) (h:k<ds.length):val 10000 (ds.drop k)=ds[k]?.getD 0+10000*val 10000 (ds.drop (k+1)):=by
 rw [List.drop_eq_getElem_cons h,JT,List.getElem?_eq_getElem h];rfl
def Jgb (ds:List Nat) (n k r:Nat) (Q:List Nat):Prop:=
 Q.length=ds.length∧Dig 10000 Q∧r=val 10000 (ds.drop k) % n∧val 10000 Q=10000 ^ k*(val 10000 (ds.drop k) / n)∧∀ j,j<k→Q[j]?.getD 0=0
theorem Jgb.start (ds:List Nat) (n:Nat):Jgb ds n ds.length 0 (List.replicate ds.length 0):=by
 refine ⟨List.length_replicate,fun x hx=>by rw [List.eq_of_mem_replicate hx];omega,?_,?_,fun j _=>?_⟩
 · rw [List.drop_length,Jdc,Nat.zero_mod]
 · rw [List.drop_length,Jdc,Nat.zero_div,Nat.mul_zero,Jhq]
 · by_cases hj:j<ds.length
   · rw [List.getElem?_replicate_of_lt hj];rfl
   · rw [List.getElem?_eq_none (by rw [List.length_replicate];omega)];rfl
theorem Jgb.step {ds Q:List Nat} {n k r d:Nat} (h:Jgb ds n (k+1) r Q) (hk:k<ds.length) (hd:d=ds[k]?.getD 0) (hn:0<n) (hdB:d<10000) :
 d+10000*r<n*10000∧Jgb ds n k ((d+10000*r) % n) (Q.set k ((d+10000*r) / n)):=by
 obtain ⟨h1,h2,h3,h4,h5⟩:=h;have hv:=Jga ds k hk;rw [←hd] at hv;have hr:r<n:=by rw [h3];exact Nat.mod_lt _ hn
 have hlt:d+10000*r<n*10000:=by omega
 have hh:=Joy (t:=val 10000 (ds.drop (k+1))) (k:=10000) (un0:=d) hn;have e1:val 10000 (ds.drop (k+1))*10000+d=val 10000 (ds.drop k):=by rw [hv,Nat.mul_comm,Nat.add_comm]
 have e2:val 10000 (ds.drop (k+1)) % n*10000+d=d+10000*r:=by rw [←h3,Nat.mul_comm,Nat.add_comm]
 rw [e1,e2] at hh;have hq:(d+10000*r) / n<10000:=by rw [Nat.div_lt_iff_lt_mul hn,Nat.mul_comm 10000 n];exact hlt
 refine ⟨hlt,by rw [List.length_set];exact h1,h2.set k hq,hh.2,?_,fun j hj=>?_⟩
 · have hs:=Jis 10000 Q k ((d+10000*r) / n) (by omega);rw [h5 k (by omega),Nat.mul_zero,Nat.add_zero] at hs;rw [hs,h4,←hh.1,Nat.pow_succ];generalize val 10000 (ds.drop (k+1)) / n=A;grind
 · rw [List.getElem?_set_ne (by omega)];exact h5 j (by omega)
theorem Jgb.fin {ds Q:List Nat} {n r m:Nat} (h:Jgb ds n 0 r Q) (hd:ds=Jd 10000 m):Jy Q=Jd 10000 (m / n)∧r=m % n:=by
 obtain ⟨h1,h2,h3,h4,h5⟩:=h;rw [List.drop_zero,hd,Jn (by omega)] at h3 h4;rw [Nat.pow_zero,Nat.one_mul] at h4;exact ⟨by rw [←JQ (by omega) h2,h4],h3⟩
end Go.Proofs.YtcahejkcdcjjgaaGreatDoor
