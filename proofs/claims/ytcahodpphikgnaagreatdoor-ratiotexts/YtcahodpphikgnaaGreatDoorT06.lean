import Derived.Test.YtcahodpphikgnaaGreatDoorT01
import Derived.Lib.ItoaNum
set_option linter.all false
set_option maxRecDepth 99999
set_option maxHeartbeats 0
namespace Go.Proofs.YtcahodpphikgnaaGreatDoor
def C5:Nat:=10000000000000000000
variable{c:Nat}
theorem F8:C5=10^19:=Bz
def F9{d:Nat}(h:d<10):C2 (DJ d)=true:=by
 have:=YB h;simp[C2];omega
theorem X5(u:Nat):(Lib.decDigits u).all C2=true/\num (Lib.decDigits u)=u:=by
 induction u using Nat.strongRecOn with
 |_ u c=>
  rw[Lib.decDigits];by_cases h:u<10
  . rw[dif_pos h];refine⟨by simpa[DJ]using F9 h,?_⟩;simp[num,C9,val];omega
  . rw[dif_neg h];obtain⟨b,d⟩:=c (u/10) Y;have a:u%10<10:=Au _ Y;refine⟨by rw[CR,b];simpa[DJ]using F9 a,?_⟩;have:=YB a;grind[Er,DJ]
theorem Iq{u:Nat}(b:u≠0):∃c t,Lib.decDigits u=c::t/\c≠48:=by
 induction u using Nat.strongRecOn with
 |_ u a=>
  rw[Lib.decDigits];by_cases h:u<10
  . rw[dif_pos h];refine⟨_,_,J,λe=>?_⟩;have:=YB h;rw[show UInt8.ofNat (48+u)=DJ u from J]at e;rw[e]at this;simp at this;omega
  . rw[dif_neg h];obtain⟨c,t,e,d⟩:=a (u/10) Y Y;grind
def DY(c:Nat):List UInt8:=List.replicate (19-(Lib.decDigits c).length) 48++Lib.decDigits c
def Ir(n:Nat)(l:List UInt8):num (List.replicate n 48++l)=num l:=by
 have h:num (List.replicate n (48:UInt8))=0:=by
  induction n with
  |zero=>rfl
  |succ n a=>rw[List.replicate_succ',Er,a];rfl
 rw[YX,h];omega
theorem Yw(h:c<C5):(Lib.decDigits c).length<=19:=by
 rw[Lib.decDigits_length];rcases At (Lib.nDigits c) 20 with a|a
 . omega
 . exfalso
   by_cases d:c<10
   . rw[Lib.nDigits_small d]at a;omega
   . have e:∀(k u:Nat),u<10^(k+1)->Lib.nDigits u<=k+1:=by
      intro k;induction k with
      |zero=>intro u b;rw[Lib.nDigits_small (by simpa using b)];omega
      |succ k f=>
       intro u b;grind[Lib.nDigits_big]
     have:=e 18 c (by rw[F8]at h;exact h);omega
theorem GA(h:c<C5):(DY c).length=19/\(DY c).all C2=true/\num (DY c)=c:=by
 have hl:=Yw h;obtain⟨a,b⟩:=X5 c;refine⟨?_,?_,?_⟩
 . grind[DY]
 . rw[DY,CR,a,Bool.and_true,AZ];intro x d;rw[(List.mem_replicate.1 d).2];rfl
 . rw[DY,Ir,b]
def JC:Ja->List UInt8
 |[]=>[]
 |[c]=>Lib.decDigits c
 |c::cs=>JC cs++DY c
theorem XH:∀(cs:Ja),cs≠[]->Bs C5 cs->(JC cs).all C2=true/\num (JC cs)=val C5 cs
 |[c],_,_=>by
  grind[X5,JC,val]
 |c::d::cs,_,a=>by
  have e:c<C5:=a c CG;obtain⟨f,g⟩:=XH (d::cs) Br λx b=>a x (List.mem_cons_of_mem _ b);grind[GA,JC,YX,JG,F8]
theorem XI:∀(cs:Ja),cs≠[]->DI cs->(∃c t,JC cs=c::t/\c≠48)
 |[c],_,a=>Iq (by
  intro e;subst e;simp[DI,Jl]at a)
 |c::d::cs,_,a=>by
  have b:DI (d::cs):=by
   unfold DI at a ⊢;rw[Jl]at a;generalize Jl (d::cs)=l at a ⊢;cases l with
   |nil=>grind
   |cons e f=>grind
  obtain⟨x,t,e,g⟩:=XI (d::cs) Br b;grind[JC]
theorem Is{cs:Ja}(a:cs≠[])(b:Bs C5 cs)(c:DI cs):JC cs=J6 (val C5 cs):=by
 grind[XH,XI,Et]
