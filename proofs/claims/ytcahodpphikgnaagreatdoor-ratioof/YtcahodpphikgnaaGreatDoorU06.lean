import Derived.Test.YtcahodpphikgnaaGreatDoorU01
import Derived.Lib.ItoaNum
set_option linter.all false
set_option maxRecDepth 99999
set_option maxHeartbeats 0
namespace Go.Proofs.YtcahodpphikgnaaGreatDoor
def CU:Nat:=10000000000000000000
variable{c:Nat}
theorem FV:CU=10^19:=Bz
def FW{d:Nat}(h:d<10):B0 (C6 d)=true:=by
 have:=Yv h;simp[B0];omega
theorem XR(u:Nat):(Lib.decDigits u).all B0=true/\num (Lib.decDigits u)=u:=by
 induction u using Nat.strongRecOn with
 |_ u c=>
  rw[Lib.decDigits];by_cases h:u<10
  . rw[dif_pos h];refine⟨by simpa[C6]using FW h,?_⟩;simp[num,CX,val];omega
  . rw[dif_neg h];obtain⟨b,d⟩:=c (u/10) Y;have a:u%10<10:=Ar _ Y;refine⟨by rw[CK,b];simpa[C6]using FW a,?_⟩;have:=Yv a;grind[EL,C6]
theorem Hw{u:Nat}(b:u≠0):∃c t,Lib.decDigits u=c::t/\c≠48:=by
 induction u using Nat.strongRecOn with
 |_ u a=>
  rw[Lib.decDigits];by_cases h:u<10
  . rw[dif_pos h];refine⟨_,_,J,λe=>?_⟩;have:=Yv h;rw[show UInt8.ofNat (48+u)=C6 u from J]at e;rw[e]at this;simp at this;omega
  . rw[dif_neg h];obtain⟨c,t,e,d⟩:=a (u/10) Y Y;grind
def DI(c:Nat):List UInt8:=List.replicate (19-(Lib.decDigits c).length) 48++Lib.decDigits c
def Hx(n:Nat)(l:List UInt8):num (List.replicate n 48++l)=num l:=by
 have h:num (List.replicate n (48:UInt8))=0:=by
  induction n with
  |zero=>rfl
  |succ n a=>rw[List.replicate_succ',EL,a];rfl
 rw[YO,h];omega
theorem Yq(h:c<CU):(Lib.decDigits c).length<=19:=by
 rw[Lib.decDigits_length];rcases AG (Lib.nDigits c) 20 with a|a
 . omega
 . exfalso
   by_cases d:c<10
   . rw[Lib.nDigits_small d]at a;omega
   . have e:∀(k u:Nat),u<10^(k+1)->Lib.nDigits u<=k+1:=by
      intro k;induction k with
      |zero=>intro u b;rw[Lib.nDigits_small (by simpa using b)];omega
      |succ k f=>
       intro u b;grind[Lib.nDigits_big]
     have:=e 18 c (by rw[FV]at h;exact h);omega
theorem FX(h:c<CU):(DI c).length=19/\(DI c).all B0=true/\num (DI c)=c:=by
 have hl:=Yq h;obtain⟨a,b⟩:=XR c;refine⟨?_,?_,?_⟩
 . grind[DI]
 . rw[DI,CK,a,Bool.and_true,AW];intro x d;rw[(List.mem_replicate.1 d).2];rfl
 . rw[DI,Hx,b]
def Jw:Ja->List UInt8
 |[]=>[]
 |[c]=>Lib.decDigits c
 |c::cs=>Jw cs++DI c
theorem Xu:∀(cs:Ja),cs≠[]->Br CU cs->(Jw cs).all B0=true/\num (Jw cs)=val CU cs
 |[c],_,_=>by
  grind[XR,Jw,val]
 |c::d::cs,_,a=>by
  have e:c<CU:=a c CC;obtain⟨f,g⟩:=Xu (d::cs) Bq λx b=>a x (List.mem_cons_of_mem _ b);grind[FX,Jw,YO,JC,FV]
theorem Xv:∀(cs:Ja),cs≠[]->C5 cs->(∃c t,Jw cs=c::t/\c≠48)
 |[c],_,a=>Hw (by
  intro e;subst e;simp[C5,Ji]at a)
 |c::d::cs,_,a=>by
  have b:C5 (d::cs):=by
   unfold C5 at a ⊢;rw[Ji]at a;generalize Ji (d::cs)=l at a ⊢;cases l with
   |nil=>grind
   |cons e f=>grind
  obtain⟨x,t,e,g⟩:=Xv (d::cs) Bq b;grind[Jw]
theorem Hy{cs:Ja}(a:cs≠[])(b:Br CU cs)(c:C5 cs):Jw cs=Xq (val CU cs):=by
 grind[Xu,Xv,EN]
