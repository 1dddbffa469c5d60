import Derived.Test.YtcahejkcdcjjgaaGreatDoorK02
import Derived.Lib.ItoaNum
set_option maxRecDepth 100000
set_option maxHeartbeats 16000000
namespace Go.Proofs.YtcahejkcdcjjgaaGreatDoor
def C19:Nat:=10000000000000000000
theorem Jmg:C19=10 ^ 19:=by decide
theorem Jmh {d:Nat} (h:d<10):isD (chr d)=true:=by
 have:=Xg h;simp [isD];omega
theorem Jab (u:Nat):(Lib.decDigits u).all isD=true∧num (Lib.decDigits u)=u:=by
 induction u using Nat.strongRecOn with
 | _ u ih=>
  rw [Lib.decDigits];by_cases h:u<10
  · rw [dif_pos h];refine ⟨by simpa [chr] using Jmh h,?_⟩;simp [num,dgs,val];omega
  · rw [dif_neg h];obtain ⟨h1,h2⟩:=ih (u / 10) (by omega);have hm:u % 10<10:=Nat.mod_lt _ (by omega);refine ⟨by rw [List.all_append,h1];simpa [chr] using Jmh hm,?_⟩;have:=Xg hm;rw [Jfd,h2,show UInt8.ofNat (48+u % 10)=chr (u % 10) from rfl,this];omega
theorem Jbu {u:Nat} (h0:u≠0):∃ c t,Lib.decDigits u=c::t∧c≠48:=by
 induction u using Nat.strongRecOn with
 | _ u ih=>
  rw [Lib.decDigits];by_cases h:u<10
  · rw [dif_pos h];refine ⟨_,_,rfl,fun e=>?_⟩;have:=Xg h;rw [show UInt8.ofNat (48+u)=chr u from rfl] at e;rw [e] at this;simp at this;omega
  · rw [dif_neg h];obtain ⟨c,t,e,hc⟩:=ih (u / 10) (by omega) (by omega);exact ⟨c,t++[UInt8.ofNat (48+u % 10)],by rw [e];rfl,hc⟩
theorem Jfn (u:Nat):Lib.decDigits u=Xt u:=by
 by_cases h0:u=0
 · subst h0;rw [Lib.decDigits,dif_pos (by omega)];rfl
 · obtain ⟨c,t,e,hc⟩:=Jbu h0;obtain ⟨h1,h2⟩:=Jab u;rw [e] at h1 h2 ⊢;rw [←h2];exact (Jfe h1 hc).1.symm
def Jbm (c:Nat):List UInt8:=List.replicate (19 - (Lib.decDigits c).length) 48++Lib.decDigits c
theorem Jng (n:Nat) (l:List UInt8):num (List.replicate n 48++l)=num l:=by
 have h:num (List.replicate n (48:UInt8))=0:=by
  induction n with
  | zero=>rfl
  | succ n ih=>rw [List.replicate_succ',Jfd,ih];rfl
 rw [Xh,h];omega
theorem Y6 {c:Nat} (h:c<C19):(Lib.decDigits c).length≤19:=by
 rw [Lib.decDigits_length];rcases Nat.lt_or_ge (Lib.nDigits c) 20 with h' | h'
 · omega
 · exfalso
   by_cases hc:c<10
   · rw [Lib.nDigits_small hc] at h';omega
   · have key:∀ (k u:Nat),u<10 ^ (k+1)→Lib.nDigits u≤k+1:=by
      intro k;induction k with
      | zero=>intro u hu;rw [Lib.nDigits_small (by simpa using hu)];omega
      | succ k ih=>
       intro u hu;by_cases h10:u<10
       · rw [Lib.nDigits_small h10];omega
       · rw [Lib.nDigits_big h10];have:=ih (u / 10) (by rw [Nat.div_lt_iff_lt_mul (by omega),←Nat.pow_succ];exact hu);omega
     have:=key 18 c (by rw [Jmg] at h;exact h);omega
theorem Jfo {c:Nat} (h:c<C19):(Jbm c).length=19∧(Jbm c).all isD=true∧num (Jbm c)=c:=by
 have hl:=Y6 h;obtain ⟨h1,h2⟩:=Jab c;refine ⟨?_,?_,?_⟩
 · rw [Jbm,List.length_append,List.length_replicate];omega
 · rw [Jbm,List.all_append,h1,Bool.and_true,List.all_eq_true];intro x hx;rw [(List.mem_replicate.1 hx).2];rfl
 · rw [Jbm,Jng,h2]
def JB:List Nat→List UInt8
 | []=>[]
 | [c]=>Lib.decDigits c
 | c::cs=>JB cs++Jbm c
theorem Jbv:∀ (cs:List Nat),cs≠[]→Dig C19 cs→(JB cs).all isD=true∧num (JB cs)=val C19 cs
 | [c],_,_=>by
  obtain ⟨h1,h2⟩:=Jab c;exact ⟨h1,by rw [JB,h2];simp [val]⟩
 | c::d::cs,_,hd=>by
  have hc:c<C19:=hd c List.mem_cons_self;obtain ⟨i1,i2⟩:=Jbv (d::cs) (by simp) (fun x hx=>hd x (List.mem_cons_of_mem _ hx));obtain ⟨p1,p2,p3⟩:=Jfo hc;have e:JB (c::d::cs)=JB (d::cs)++Jbm c:=by rw [JB];simp
  refine ⟨by rw [e,List.all_append,i1,p2];rfl,?_⟩;rw [e,Xh,p1,p3,i2,JT C19 c,←Jmg]
theorem Jbw:∀ (cs:List Nat),cs≠[]→Top cs→(∃ c t,JB cs=c::t∧c≠48)
 | [c],_,ht=>Jbu (by
  intro e;subst e;simp [Top,Jy] at ht)
 | c::d::cs,_,ht=>by
  have ht':Top (d::cs):=by
   unfold Top at ht ⊢;rw [Jy] at ht;generalize Jy (d::cs)=l at ht ⊢;cases l with
   | nil=>by_cases h:c=0 <;> simp [h] at ht
   | cons e es=>exact (List.cons.inj ht).2
  obtain ⟨x,t,e,hx⟩:=Jbw (d::cs) (by simp) ht';have e2:JB (c::d::cs)=JB (d::cs)++Jbm c:=by rw [JB];simp
  exact ⟨x,t++Jbm c,by rw [e2,e];rfl,hx⟩
theorem Jfp {cs:List Nat} (h0:cs≠[]) (hd:Dig C19 cs) (ht:Top cs):JB cs=Xt (val C19 cs):=by
 obtain ⟨h1,h2⟩:=Jbv cs h0 hd;obtain ⟨c,t,e,hc⟩:=Jbw cs h0 ht;rw [e] at h1 h2 ⊢;rw [←h2];exact (Jfe h1 hc).1.symm
end Go.Proofs.YtcahejkcdcjjgaaGreatDoor
