import Derived.Test.YtcahejkcdcjjgaaGreatDoorK02
import Derived.Lib.ItoaNum
set_option maxRecDepth 100000
set_option maxHeartbeats 16000000
namespace Go.Proofs.YtcahejkcdcjjgaaGreatDoor
def C19:Nat:=10000000000000000000
theorem Jm8:C19=10^19:=by decide
theorem Jm9{d:Nat}(h:d<10):isD (chr d)=true:=by
 have:=XE h;simp[isD];omega
theorem Ja0(u:Nat):(Lib.decDigits u).all isD=true∧num (Lib.decDigits u)=u:=by
 induction u using Nat.strongRecOn with
 |_ u ih=>
  rw[Lib.decDigits];by_cases h:u<10
  · rw[dif_pos h];refine⟨by simpa[chr]using Jm9 h,?_⟩;simp[num,dgs,val];omega
  · rw[dif_neg h];obtain⟨h1,h2⟩:=ih (u/10) (by omega);have hm:u%10<10:=A4 _ (by omega);refine⟨by rw[CV,h1];simpa[chr]using Jm9 hm,?_⟩;have:=XE hm;rw[Jgb,h2,show UInt8.ofNat (48+u%10)=chr (u%10)from rfl,this];omega
theorem Jcc{u:Nat}(h0:u≠0):∃c t,Lib.decDigits u=c::t∧c≠48:=by
 induction u using Nat.strongRecOn with
 |_ u ih=>
  rw[Lib.decDigits];by_cases h:u<10
  · rw[dif_pos h];refine⟨_,_,rfl,fun e=>?_⟩;have:=XE h;rw[show UInt8.ofNat (48+u)=chr u from rfl]at e;rw[e]at this;simp at this;omega
  · rw[dif_neg h];obtain⟨c,t,e,hc⟩:=ih (u/10) (by omega) (by omega);exact⟨c,t++[UInt8.ofNat (48+u%10)],by rw[e];rfl,hc⟩
theorem Jgl(u:Nat):Lib.decDigits u=YY u:=by
 by_cases h0:u=0
 · subst h0;rw[Lib.decDigits,dif_pos (by omega)];rfl
 · obtain⟨c,t,e,hc⟩:=Jcc h0;obtain⟨h1,h2⟩:=Ja0 u;rw[e]at h1 h2 ⊢;rw[←h2];exact(Jgc h1 hc).1.symm
def Jb6(c:Nat):List UInt8:=List.replicate (19-(Lib.decDigits c).length) 48++Lib.decDigits c
theorem Jod(n:Nat)(l:List UInt8):num (List.replicate n 48++l)=num l:=by
 have h:num (List.replicate n (48:UInt8))=0:=by
  induction n with
  |zero=>rfl
  |succ n ih=>rw[List.replicate_succ',Jgb,ih];rfl
 rw[XF,h];omega
theorem Xp{c:Nat}(h:c<C19):(Lib.decDigits c).length≤19:=by
 rw[Lib.decDigits_length];rcases AC (Lib.nDigits c) 20 with h'|h'
 · omega
 · exfalso
   by_cases hc:c<10
   · rw[Lib.nDigits_small hc]at h';omega
   · have key:∀(k u:Nat),u<10^(k+1)→Lib.nDigits u≤k+1:=by
      intro k;induction k with
      |zero=>intro u hu;rw[Lib.nDigits_small (by simpa using hu)];omega
      |succ k ih=>
       intro u hu;by_cases h10:u<10
       · rw[Lib.nDigits_small h10];omega
       · rw[Lib.nDigits_big h10];have:=ih (u/10) (by rw[AP (by omega),←AK];exact hu);omega
     have:=key 18 c (by rw[Jm8]at h;exact h);omega
theorem Jgm{c:Nat}(h:c<C19):(Jb6 c).length=19∧(Jb6 c).all isD=true∧num (Jb6 c)=c:=by
 have hl:=Xp h;obtain⟨h1,h2⟩:=Ja0 c;refine⟨?_,?_,?_⟩
 · rw[Jb6,Ai,At];omega
 · rw[Jb6,CV,h1,Bool.and_true,A3];intro x hx;rw[(List.mem_replicate.1 hx).2];rfl
 · rw[Jb6,Jod,h2]
def JK:List Nat→List UInt8
 |[]=>[]
 |[c]=>Lib.decDigits c
 |c::cs=>JK cs++Jb6 c
theorem Jcd:∀(cs:List Nat),cs≠[]→Dig C19 cs→(JK cs).all isD=true∧num (JK cs)=val C19 cs
 |[c],_,_=>by
  obtain⟨h1,h2⟩:=Ja0 c;exact⟨h1,by rw[JK,h2];simp[val]⟩
 |c::d::cs,_,hd=>by
  have hc:c<C19:=hd c CA;obtain⟨i1,i2⟩:=Jcd (d::cs) (by simp) (fun x hx=>hd x (List.mem_cons_of_mem _ hx));obtain⟨p1,p2,p3⟩:=Jgm hc;have e:JK (c::d::cs)=JK (d::cs)++Jb6 c:=by rw[JK];simp
  refine⟨by rw[e,CV,i1,p2];rfl,?_⟩;rw[e,XF,p1,p3,i2,JX C19 c,←Jm8]
theorem Jce:∀(cs:List Nat),cs≠[]→Top cs→(∃c t,JK cs=c::t∧c≠48)
 |[c],_,ht=>Jcc (by
  intro e;subst e;simp[Top,Jv]at ht)
 |c::d::cs,_,ht=>by
  have ht':Top (d::cs):=by
   unfold Top at ht ⊢;rw[Jv]at ht;generalize Jv (d::cs)=l at ht ⊢;cases l with
   |nil=>by_cases h:c=0<;>simp[h]at ht
   |cons e es=>exact(List.cons.inj ht).2
  obtain⟨x,t,e,hx⟩:=Jce (d::cs) (by simp) ht';have e2:JK (c::d::cs)=JK (d::cs)++Jb6 c:=by rw[JK];simp
  exact⟨x,t++Jb6 c,by rw[e2,e];rfl,hx⟩
theorem Jgn{cs:List Nat}(h0:cs≠[])(hd:Dig C19 cs)(ht:Top cs):JK cs=YY (val C19 cs):=by
 obtain⟨h1,h2⟩:=Jcd cs h0 hd;obtain⟨c,t,e,hc⟩:=Jce cs h0 ht;rw[e]at h1 h2 ⊢;rw[←h2];exact(Jgc h1 hc).1.symm
