import Derived.Test.YtcahejkcdcjjgaaGreatDoorS02
import Derived.Lib.ItoaNum
set_option linter.all false
set_option maxRecDepth 99999
set_option maxHeartbeats 0
namespace Go.Proofs.YtcahejkcdcjjgaaGreatDoor
def Dk:Nat:=10000000000000000000
variable{c:Nat}
theorem Ms:Dk=10^19:=DV
def Mt{d:Nat}(h:d<10):DZ (Ew d)=true:=by
 have:=Xb h;simp[DZ];omega
theorem X5(u:Nat):(Lib.decDigits u).all DZ=true/\num (Lib.decDigits u)=u:=by
 induction u using Nat.strongRecOn with
 |_ u c=>
  rw[Lib.decDigits];by_cases h:u<10
  . rw[dif_pos h];refine⟨by simpa[Ew]using Mt h,?_⟩;simp[num,Do,val];omega
  . rw[dif_neg h];obtain⟨b,d⟩:=c (u/10) Z;have a:u%10<10:=AY _ Z;refine⟨by rw[CR,b];simpa[Ew]using Mt a,?_⟩;have:=Xb a;grind[Ke,Ew]
theorem Mu{u:Nat}(b:u≠0):∃c t,Lib.decDigits u=c::t/\c≠48:=by
 induction u using Nat.strongRecOn with
 |_ u a=>
  rw[Lib.decDigits];by_cases h:u<10
  . rw[dif_pos h];refine⟨_,_,J,λe=>?_⟩;have:=Xb h;rw[show UInt8.ofNat (48+u)=Ew u from J]at e;rw[e]at this;simp at this;omega
  . rw[dif_neg h];obtain⟨c,t,e,d⟩:=a (u/10) Z Z;grind
theorem QN(u:Nat):Lib.decDigits u=Xw u:=by
 by_cases a:u=0
 . subst a;rw[Lib.decDigits,dif_pos Z];rfl
 . obtain⟨c,t,e,b⟩:=Mu a;grind[X5,Kf]
def FO(c:Nat):List UInt8:=List.replicate (19-(Lib.decDigits c).length) 48++Lib.decDigits c
def QO(n:Nat)(l:List UInt8):num (List.replicate n 48++l)=num l:=by
 have h:num (List.replicate n (48:UInt8))=0:=by
  induction n with
  |zero=>rfl
  |succ n a=>rw[List.replicate_succ',Ke,a];rfl
 rw[Xc,h];omega
theorem YZ(h:c<Dk):(Lib.decDigits c).length<=19:=by
 rw[Lib.decDigits_length];rcases AJ (Lib.nDigits c) 20 with a|a
 . omega
 . exfalso
   by_cases d:c<10
   . rw[Lib.nDigits_small d]at a;omega
   . have e:∀(k u:Nat),u<10^(k+1)->Lib.nDigits u<=k+1:=by
      intro k;induction k with
      |zero=>intro u b;rw[Lib.nDigits_small (by simpa using b)];omega
      |succ k f=>
       intro u b;grind[Lib.nDigits_big]
     have:=e 18 c (by rw[Ms]at h;exact h);omega
theorem Mv(h:c<Dk):(FO c).length=19/\(FO c).all DZ=true/\num (FO c)=c:=by
 have hl:=YZ h;obtain⟨a,b⟩:=X5 c;refine⟨?_,?_,?_⟩
 . grind[FO]
 . rw[FO,CR,a,Bool.and_true,AA];intro x d;rw[(List.mem_replicate.1 d).2];rfl
 . rw[FO,QO,b]
def JG:U->List UInt8
 |[]=>[]
 |[c]=>Lib.decDigits c
 |c::cs=>JG cs++FO c
theorem Mw:∀(cs:U),cs≠[]->DR Dk cs->(JG cs).all DZ=true/\num (JG cs)=val Dk cs
 |[c],_,_=>by
  grind[X5,JG,val]
 |c::d::cs,_,a=>by
  have e:c<Dk:=a c Cn;obtain⟨f,g⟩:=Mw (d::cs) DQ λx b=>a x (List.mem_cons_of_mem _ b);grind[Mv,JG,Xc,JR,Ms]
theorem Mx:∀(cs:U),cs≠[]->EF cs->(∃c t,JG cs=c::t/\c≠48)
 |[c],_,a=>Mu (by
  intro e;subst e;simp[EF,Jw]at a)
 |c::d::cs,_,a=>by
  have b:EF (d::cs):=by
   unfold EF at a ⊢;rw[Jw]at a;generalize Jw (d::cs)=l at a ⊢;cases l with
   |nil=>grind
   |cons e f=>grind
  obtain⟨x,t,e,g⟩:=Mx (d::cs) DQ b;grind[JG]
theorem QP{cs:U}(a:cs≠[])(b:DR Dk cs)(c:EF cs):JG cs=Xw (val Dk cs):=by
 grind[Mw,Mx,Kf]
