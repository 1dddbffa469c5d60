import Derived.Test.YtdmmbgahnkbnaaaGreatDoorT02
import Derived.Lib.ItoaNum
set_option linter.all false
set_option maxRecDepth 99999
set_option maxHeartbeats 0
namespace Go.Proofs.YtdmmbgahnkbnaaaGreatDoor
def Ds:Nat:=10000000000000000000
variable{c:Nat}
theorem TL:Ds=10^19:=DN
def TM{d:Nat}(h:d<10):Dc (Hd d)=true:=by
 have:=KQ h;simp[Dc];omega
theorem TN(u:Nat):(Lib.decDigits u).all Dc=true/\num (Lib.decDigits u)=u:=by
 induction u using Nat.strongRecOn with
 |_ u c=>
  rw[Lib.decDigits];by_cases h:u<10
  . rw[dif_pos h];refine⟨by simpa[Hd]using TM h,?_⟩;simp[num,D9,val];omega
  . rw[dif_neg h];obtain⟨b,d⟩:=c (u/10) O;have a:u%10<10:=Co _ O;refine⟨by rw[Fx,b];simpa[Hd]using TM a,?_⟩;have:=KQ a;grind[PJ,Hd]
def eJ{u:Nat}(b:u≠0):∃c t,Lib.decDigits u=c::t/\c≠48:=by
 induction u using Nat.strongRecOn with
 |_ u a=>
  rw[Lib.decDigits];by_cases h:u<10
  . rw[dif_pos h];refine⟨_,_,J,λe=>?_⟩;have:=KQ h;rw[show UInt8.ofNat (48+u)=Hd u from J]at e;rw[e]at this;simp at this;omega
  . rw[dif_neg h];obtain⟨c,t,e,d⟩:=a (u/10) O O;grind
def IU(c:Nat):List UInt8:=List.replicate (19-(Lib.decDigits c).length) 48++Lib.decDigits c
def eK(n:Nat)(l:List UInt8):num (List.replicate n 48++l)=num l:=by
 have h:num (List.replicate n (48:UInt8))=0:=by
  induction n with
  |zero=>rfl
  |succ n a=>rw[List.replicate_succ',PJ,a];rfl
 rw[Lp,h];omega
def NL(h:c<Ds):(Lib.decDigits c).length<=19:=by
 rw[Lib.decDigits_length];rcases Ch (Lib.nDigits c) 20 with a|a
 . omega
 . exfalso
   by_cases d:c<10
   . rw[Lib.nDigits_small d]at a;omega
   . have e:∀(k u:Nat),u<10^(k+1)->Lib.nDigits u<=k+1:=by
      intro k;induction k with
      |zero=>intro u b;rw[Lib.nDigits_small (by simpa using b)];omega
      |succ k f=>
       intro u b;grind[Lib.nDigits_big]
     have:=e 18 c (by rw[TL]at h;exact h);omega
theorem TO(h:c<Ds):(IU c).length=19/\(IU c).all Dc=true/\num (IU c)=c:=by
 have hl:=NL h;obtain⟨a,b⟩:=TN c;refine⟨?_,?_,?_⟩
 . grind[IU]
 . rw[IU,Fx,a,Bool.and_true,AN];intro x d;rw[(List.mem_replicate.1 d).2];rfl
 . rw[IU,eK,b]
def J7:List Nat->List UInt8
 |[]=>[]
 |[c]=>Lib.decDigits c
 |c::cs=>J7 cs++IU c
theorem TP:∀(cs:List Nat),cs≠[]->DR Ds cs->(J7 cs).all Dc=true/\num (J7 cs)=val Ds cs
 |[c],_,_=>by
  grind[TN,J7,val]
 |c::d::cs,_,a=>by
  have e:c<Ds:=a c AF;obtain⟨f,g⟩:=TP (d::cs) DL λx b=>a x (AR _ b);grind[TO,J7,Lp,Yv,TL]
theorem TQ:∀(cs:List Nat),cs≠[]->Gn cs->(∃c t,J7 cs=c::t/\c≠48)
 |[c],_,a=>eJ (by
  intro e;subst e;simp[Gn,J2]at a)
 |c::d::cs,_,a=>by
  have b:Gn (d::cs):=by
   unfold Gn at a ⊢;rw[J2]at a;generalize J2 (d::cs)=l at a ⊢;cases l with
   |nil=>grind
   |cons e es=>grind
  obtain⟨x,t,e,f⟩:=TQ (d::cs) DL b;grind[J7]
def eL{cs:List Nat}(a:cs≠[])(b:DR Ds cs)(c:Gn cs):J7 cs=X7 (val Ds cs):=by
 grind[TP,TQ,Su]
