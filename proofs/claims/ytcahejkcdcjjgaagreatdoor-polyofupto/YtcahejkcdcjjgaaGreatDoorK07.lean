import Derived.Test.YtcahejkcdcjjgaaGreatDoorK02
import Derived.Lib.ItoaNum
set_option maxRecDepth 100000
set_option maxHeartbeats 16000000
namespace Go.Proofs.YtcahejkcdcjjgaaGreatDoor
def C19:Nat:=10000000000000000000
theorem Jkv:C19=10 ^ 19:=by decide
theorem Jkw {d:Nat} (h:d<10):isD (chr d)=true:=by
 have:=Xd h;simp [isD];omega
theorem XZ (u:Nat):(Lib.decDigits u).all isD=true∧num (Lib.decDigits u)=u:=by
 induction u using Nat.strongRecOn with
 | _ u ih=>
  rw [Lib.decDigits];by_cases h:u<10
  · rw [dif_pos h];refine ⟨by simpa [chr] using Jkw h,?_⟩;simp [num,dgs,val];omega
  · rw [dif_neg h];obtain ⟨h1,h2⟩:=ih (u / 10) (by omega);have hm:u % 10<10:=Nat.mod_lt _ (by omega);refine ⟨by rw [List.all_append,h1];simpa [chr] using Jkw hm,?_⟩;have:=Xd hm;rw [Jch,h2,show UInt8.ofNat (48+u % 10)=chr (u % 10) from rfl,this];omega
theorem Ja0 {u:Nat} (h0:u≠0):∃ c t,Lib.decDigits u=c::t∧c≠48:=by
 induction u using Nat.strongRecOn with
 | _ u ih=>
  rw [Lib.decDigits];by_cases h:u<10
  · rw [dif_pos h];refine ⟨_,_,rfl,fun e=>?_⟩;have:=Xd h;rw [show UInt8.ofNat (48+u)=chr u from rfl] at e;rw [e] at this;simp at this;omega
  · rw [dif_neg h];obtain ⟨c,t,e,hc⟩:=ih (u / 10) (by omega) (by omega);exact ⟨c,t++[UInt8.ofNat (48+u % 10)],by rw [e];rfl,hc⟩
theorem Jem (u:Nat):Lib.decDigits u=YD u:=by
 by_cases h0:u=0
 · subst h0;rw [Lib.decDigits,dif_pos (by omega)];rfl
 · obtain ⟨c,t,e,hc⟩:=Ja0 h0;obtain ⟨h1,h2⟩:=XZ u;rw [e] at h1 h2 ⊢;rw [←h2];exact (Jci h1 hc).1.symm
def Jat (c:Nat):List UInt8:=List.replicate (19 - (Lib.decDigits c).length) 48++Lib.decDigits c
theorem Jl4 (n:Nat) (l:List UInt8):num (List.replicate n 48++l)=num l:=by
 have h:num (List.replicate n (48:UInt8))=0:=by
  induction n with
  | zero=>rfl
  | succ n ih=>rw [List.replicate_succ',Jch,ih];rfl
 rw [Xe,h];omega
theorem Y3 {c:Nat} (h:c<C19):(Lib.decDigits c).length≤19:=by
 rw [Lib.decDigits_length];rcases Nat.lt_or_ge (Lib.nDigits c) 20 with h' | h'
 · omega
 · exfalso
   by_cases hc:c<10
   · rw [Lib.nDigits_small hc] at h';omega
   · have key:∀ (k u:Nat),u<10 ^ (k+1)→Lib.nDigits u≤k+1:=by
      intro k;induction k with
      | zero=>intro u hu;rw [Lib.nDigits_small (by simpa using hu)];omega
      | succ k ih=>
       intro u hu;by_cases h10:u<10
       · rw [Lib.nDigits_small h10];omega
       · rw [Lib.nDigits_big h10];have:=ih (u / 10) (by rw [Nat.div_lt_iff_lt_mul (by omega),←Nat.pow_succ];exact hu);omega
     have:=key 18 c (by rw [Jkv] at h;exact h);omega
theorem Jen {c:Nat} (h:c<C19):(Jat c).length=19∧(Jat c).all isD=true∧num (Jat c)=c:=by
 have hl:=Y3 h;obtain ⟨h1,h2⟩:=XZ c;refine ⟨?_,?_,?_⟩
 · rw [Jat,List.length_append,List.length_replicate];omega
 · rw [Jat,List.all_append,h1,Bool.and_true,List.all_eq_true];intro x hx;rw [(List.mem_replicate.1 hx).2];rfl
 · rw [Jat,Jl4,h2]
def JE:List Nat→List UInt8
 | []=>[]
 | [c]=>Lib.decDigits c
 | c::cs=>JE cs++Jat c
theorem Ja1:∀ (cs:List Nat),cs≠[]→Dig C19 cs→(JE cs).all isD=true∧num (JE cs)=val C19 cs
 | [c],_,_=>by
  obtain ⟨h1,h2⟩:=XZ c;exact ⟨h1,by rw [JE,h2];simp [val]⟩
 | c::d::cs,_,hd=>by
  have hc:c<C19:=hd c List.mem_cons_self;obtain ⟨i1,i2⟩:=Ja1 (d::cs) (by simp) (fun x hx=>hd x (List.mem_cons_of_mem _ hx));obtain ⟨p1,p2,p3⟩:=Jen hc;have e:JE (c::d::cs)=JE (d::cs)++Jat c:=by rw [JE];simp
  refine ⟨by rw [e,List.all_append,i1,p2];rfl,?_⟩;rw [e,Xe,p1,p3,i2,JO C19 c,←Jkv]
theorem Ja2:∀ (cs:List Nat),cs≠[]→Top cs→(∃ c t,JE cs=c::t∧c≠48)
 | [c],_,ht=>Ja0 (by
  intro e;subst e;simp [Top,Jr] at ht)
 | c::d::cs,_,ht=>by
  have ht':Top (d::cs):=by
   unfold Top at ht ⊢;rw [Jr] at ht;generalize Jr (d::cs)=l at ht ⊢;cases l with
   | nil=>by_cases h:c=0 <;> simp [h] at ht
   | cons e es=>exact (List.cons.inj ht).2
  obtain ⟨x,t,e,hx⟩:=Ja2 (d::cs) (by simp) ht';have e2:JE (c::d::cs)=JE (d::cs)++Jat c:=by rw [JE];simp
  exact ⟨x,t++Jat c,by rw [e2,e];rfl,hx⟩
theorem Jeo {cs:List Nat} (h0:cs≠[]) (hd:Dig C19 cs) (ht:Top cs):JE cs=YD (val C19 cs):=by
 obtain ⟨h1,h2⟩:=Ja1 cs h0 hd;obtain ⟨c,t,e,hc⟩:=Ja2 cs h0 ht;rw [e] at h1 h2 ⊢;rw [←h2];exact (Jci h1 hc).1.symm
end Go.Proofs.YtcahejkcdcjjgaaGreatDoor
