import Derived.Test.YtcahodpphikgnaaGreatDoorV01
import Derived.Lib.ItoaNum
set_option linter.all false
set_option maxRecDepth 99999
set_option maxHeartbeats 0
namespace Go.Proofs.YtcahodpphikgnaaGreatDoor
def C1:Nat:=10000000000000000000
variable{c:Nat}
theorem Gj:C1=10^19:=Bw
def Gk{d:Nat}(h:d<10):B6 (DG d)=true:=by
 have:=YG h;simp[B6];omega
theorem X2(u:Nat):(Lib.decDigits u).all B6=true/\num (Lib.decDigits u)=u:=by
 induction u using Nat.strongRecOn with
 |_ u c=>
  rw[Lib.decDigits];by_cases h:u<10
  . rw[dif_pos h];refine⟨by simpa[DG]using Gk h,?_⟩;simp[num,C5,val];omega
  . rw[dif_neg h];obtain⟨b,d⟩:=c (u/10) Y;have a:u%10<10:=At _ Y;refine⟨by rw[CN,b];simpa[DG]using Gk a,?_⟩;have:=YG a;grind[FJ,DG]
theorem Kg{u:Nat}(b:u≠0):∃c t,Lib.decDigits u=c::t/\c≠48:=by
 induction u using Nat.strongRecOn with
 |_ u a=>
  rw[Lib.decDigits];by_cases h:u<10
  . rw[dif_pos h];refine⟨_,_,J,λe=>?_⟩;have:=YG h;rw[show UInt8.ofNat (48+u)=DG u from J]at e;rw[e]at this;simp at this;omega
  . rw[dif_neg h];obtain⟨c,t,e,d⟩:=a (u/10) Y Y;grind
def Dd(c:Nat):List UInt8:=List.replicate (19-(Lib.decDigits c).length) 48++Lib.decDigits c
def Kh(n:Nat)(l:List UInt8):num (List.replicate n 48++l)=num l:=by
 have h:num (List.replicate n (48:UInt8))=0:=by
  induction n with
  |zero=>rfl
  |succ n a=>rw[List.replicate_succ',FJ,a];rfl
 rw[YY,h];omega
theorem YA(h:c<C1):(Lib.decDigits c).length<=19:=by
 rw[Lib.decDigits_length];rcases As (Lib.nDigits c) 20 with a|a
 . omega
 . exfalso
   by_cases d:c<10
   . rw[Lib.nDigits_small d]at a;omega
   . have e:∀(k u:Nat),u<10^(k+1)->Lib.nDigits u<=k+1:=by
      intro k;induction k with
      |zero=>intro u b;rw[Lib.nDigits_small (by simpa using b)];omega
      |succ k f=>
       intro u b;grind[Lib.nDigits_big]
     have:=e 18 c (by rw[Gj]at h;exact h);omega
theorem Gl(h:c<C1):(Dd c).length=19/\(Dd c).all B6=true/\num (Dd c)=c:=by
 have hl:=YA h;obtain⟨a,b⟩:=X2 c;refine⟨?_,?_,?_⟩
 . grind[Dd]
 . rw[Dd,CN,a,Bool.and_true,AX];intro x d;rw[(List.mem_replicate.1 d).2];rfl
 . rw[Dd,Kh,b]
def JA:Ja->List UInt8
 |[]=>[]
 |[c]=>Lib.decDigits c
 |c::cs=>JA cs++Dd c
theorem XI:∀(cs:Ja),cs≠[]->Bs C1 cs->(JA cs).all B6=true/\num (JA cs)=val C1 cs
 |[c],_,_=>by
  grind[X2,JA,val]
 |c::d::cs,_,a=>by
  have e:c<C1:=a c CD;obtain⟨f,g⟩:=XI (d::cs) Br λx b=>a x (List.mem_cons_of_mem _ b);grind[Gl,JA,YY,JF,Gj]
theorem XJ:∀(cs:Ja),cs≠[]->DF cs->(∃c t,JA cs=c::t/\c≠48)
 |[c],_,a=>Kg (by
  intro e;subst e;simp[DF,Jl]at a)
 |c::d::cs,_,a=>by
  have b:DF (d::cs):=by
   unfold DF at a ⊢;rw[Jl]at a;generalize Jl (d::cs)=l at a ⊢;cases l with
   |nil=>grind
   |cons e f=>grind
  obtain⟨x,t,e,g⟩:=XJ (d::cs) Br b;grind[JA]
theorem Ki{cs:Ja}(a:cs≠[])(b:Bs C1 cs)(c:DF cs):JA cs=XE (val C1 cs):=by
 grind[XI,XJ,FL]
