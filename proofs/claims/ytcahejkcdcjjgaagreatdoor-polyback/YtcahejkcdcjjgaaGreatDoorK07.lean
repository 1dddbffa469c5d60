import Derived.Test.YtcahejkcdcjjgaaGreatDoorK02
import Derived.Lib.ItoaNum
set_option maxRecDepth 100000
set_option maxHeartbeats 16000000
namespace Go.Proofs.YtcahejkcdcjjgaaGreatDoor
def C19:Nat:=10000000000000000000
theorem Jld:C19=10 ^ 19:=by decide
theorem Jle {d:Nat} (h:d<10):isD (chr d)=true:=by
 have:=Xl h;simp [isD];omega
theorem X7 (u:Nat):(Lib.decDigits u).all isD=true∧num (Lib.decDigits u)=u:=by
 induction u using Nat.strongRecOn with
 | _ u ih=>
  rw [Lib.decDigits];by_cases h:u<10
  · rw [dif_pos h];refine ⟨by simpa [chr] using Jle h,?_⟩;simp [num,dgs,val];omega
  · rw [dif_neg h];obtain ⟨h1,h2⟩:=ih (u / 10) (by omega);have hm:u % 10<10:=Nat.mod_lt _ (by omega);refine ⟨by rw [List.all_append,h1];simpa [chr] using Jle hm,?_⟩;have:=Xl hm;rw [Jer,h2,show UInt8.ofNat (48+u % 10)=chr (u % 10) from rfl,this];omega
theorem Jbi {u:Nat} (h0:u≠0):∃ c t,Lib.decDigits u=c::t∧c≠48:=by
 induction u using Nat.strongRecOn with
 | _ u ih=>
  rw [Lib.decDigits];by_cases h:u<10
  · rw [dif_pos h];refine ⟨_,_,rfl,fun e=>?_⟩;have:=Xl h;rw [show UInt8.ofNat (48+u)=chr u from rfl] at e;rw [e] at this;simp at this;omega
  · rw [dif_neg h];obtain ⟨c,t,e,hc⟩:=ih (u / 10) (by omega) (by omega);exact ⟨c,t++[UInt8.ofNat (48+u % 10)],by rw [e];rfl,hc⟩
theorem Je0 (u:Nat):Lib.decDigits u=Yf u:=by
 by_cases h0:u=0
 · subst h0;rw [Lib.decDigits,dif_pos (by omega)];rfl
 · obtain ⟨c,t,e,hc⟩:=Jbi h0;obtain ⟨h1,h2⟩:=X7 u;rw [e] at h1 h2 ⊢;rw [←h2];exact (Jes h1 hc).1.symm
def Jbd (c:Nat):List UInt8:=List.replicate (19 - (Lib.decDigits c).length) 48++Lib.decDigits c
theorem Jmg (n:Nat) (l:List UInt8):num (List.replicate n 48++l)=num l:=by
 have h:num (List.replicate n (48:UInt8))=0:=by
  induction n with
  | zero=>rfl
  | succ n ih=>rw [List.replicate_succ',Jer,ih];rfl
 rw [Xm,h];omega
theorem Xa {c:Nat} (h:c<C19):(Lib.decDigits c).length≤19:=by
 rw [Lib.decDigits_length];rcases Nat.lt_or_ge (Lib.nDigits c) 20 with h' | h'
 · omega
 · exfalso
   by_cases hc:c<10
   · rw [Lib.nDigits_small hc] at h';omega
   · have key:∀ (k u:Nat),u<10 ^ (k+1)→Lib.nDigits u≤k+1:=by
      intro k;induction k with
      | zero=>intro u hu;rw [Lib.nDigits_small (by simpa using hu)];omega
      | succ k ih=>
       intro u hu;by_cases h10:u<10
       · rw [Lib.nDigits_small h10];omega
       · rw [Lib.nDigits_big h10];have:=ih (u / 10) (by rw [Nat.div_lt_iff_lt_mul (by omega),←Nat.pow_succ];exact hu);omega
     have:=key 18 c (by rw [Jld] at h;exact h);omega
theorem Je1 {c:Nat} (h:c<C19):(Jbd c).length=19∧(Jbd c).all isD=true∧num (Jbd c)=c:=by
 have hl:=Xa h;obtain ⟨h1,h2⟩:=X7 c;refine ⟨?_,?_,?_⟩
 · rw [Jbd,List.length_append,List.length_replicate];omega
 · rw [Jbd,List.all_append,h1,Bool.and_true,List.all_eq_true];intro x hx;rw [(List.mem_replicate.1 hx).2];rfl
 · rw [Jbd,Jmg,h2]
def JJ:List Nat→List UInt8
 | []=>[]
 | [c]=>Lib.decDigits c
 | c::cs=>JJ cs++Jbd c
theorem Jbj:∀ (cs:List Nat),cs≠[]→Dig C19 cs→(JJ cs).all isD=true∧num (JJ cs)=val C19 cs
 | [c],_,_=>by
  obtain ⟨h1,h2⟩:=X7 c;exact ⟨h1,by rw [JJ,h2];simp [val]⟩
 | c::d::cs,_,hd=>by
  have hc:c<C19:=hd c List.mem_cons_self;obtain ⟨i1,i2⟩:=Jbj (d::cs) (by simp) (fun x hx=>hd x (List.mem_cons_of_mem _ hx));obtain ⟨p1,p2,p3⟩:=Je1 hc;have e:JJ (c::d::cs)=JJ (d::cs)++Jbd c:=by rw [JJ];simp
  refine ⟨by rw [e,List.all_append,i1,p2];rfl,?_⟩;rw [e,Xm,p1,p3,i2,JW C19 c,←Jld]
theorem Jbk:∀ (cs:List Nat),cs≠[]→Top cs→(∃ c t,JJ cs=c::t∧c≠48)
 | [c],_,ht=>Jbi (by
  intro e;subst e;simp [Top,Ju] at ht)
 | c::d::cs,_,ht=>by
  have ht':Top (d::cs):=by
   unfold Top at ht ⊢;rw [Ju] at ht;generalize Ju (d::cs)=l at ht ⊢;cases l with
   | nil=>by_cases h:c=0 <;> simp [h] at ht
   | cons e es=>exact (List.cons.inj ht).2
  obtain ⟨x,t,e,hx⟩:=Jbk (d::cs) (by simp) ht';have e2:JJ (c::d::cs)=JJ (d::cs)++Jbd c:=by rw [JJ];simp
  exact ⟨x,t++Jbd c,by rw [e2,e];rfl,hx⟩
theorem Je2 {cs:List Nat} (h0:cs≠[]) (hd:Dig C19 cs) (ht:Top cs):JJ cs=Yf (val C19 cs):=by
 obtain ⟨h1,h2⟩:=Jbj cs h0 hd;obtain ⟨c,t,e,hc⟩:=Jbk cs h0 ht;rw [e] at h1 h2 ⊢;rw [←h2];exact (Jes h1 hc).1.symm
end Go.Proofs.YtcahejkcdcjjgaaGreatDoor
