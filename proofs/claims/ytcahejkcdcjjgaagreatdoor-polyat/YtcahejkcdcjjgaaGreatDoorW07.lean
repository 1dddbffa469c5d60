import Derived.Test.YtcahejkcdcjjgaaGreatDoorW02
import Derived.Lib.ItoaNum
set_option linter.all false
set_option maxRecDepth 99999
set_option maxHeartbeats 0
namespace Go.Proofs.YtcahejkcdcjjgaaGreatDoor
def Df:Nat:=10000000000000000000
variable{c:Nat}
theorem ND:Df=10^19:=DP
def NE{d:Nat}(h:d<10):DS (EH d)=true:=by
 have:=Xw h;simp[DS];omega
theorem LD(u:Nat):(Lib.decDigits u).all DS=true/\num (Lib.decDigits u)=u:=by
 induction u using Nat.strongRecOn with
 |_ u c=>
  rw[Lib.decDigits];by_cases h:u<10
  . rw[dif_pos h];refine⟨by simpa[EH]using NE h,?_⟩;simp[num,Dh,val];omega
  . rw[dif_neg h];obtain⟨b,d⟩:=c (u/10) O;have a:u%10<10:=AV _ O;refine⟨by rw[CZ,b];simpa[EH]using NE a,?_⟩;have:=Xw a;grind[IX,EH]
theorem NF{u:Nat}(b:u≠0):∃c t,Lib.decDigits u=c::t/\c≠48:=by
 induction u using Nat.strongRecOn with
 |_ u a=>
  rw[Lib.decDigits];by_cases h:u<10
  . rw[dif_pos h];refine⟨_,_,J,λe=>?_⟩;have:=Xw h;rw[show UInt8.ofNat (48+u)=EH u from J]at e;rw[e]at this;simp at this;omega
  . rw[dif_neg h];obtain⟨c,t,e,d⟩:=a (u/10) O O;grind
theorem RG(u:Nat):Lib.decDigits u=Y0 u:=by
 by_cases a:u=0
 . subst a;rw[Lib.decDigits,dif_pos O];rfl
 . obtain⟨c,t,e,b⟩:=NF a;grind[LD,IZ]
def FL(c:Nat):List UInt8:=List.replicate (19-(Lib.decDigits c).length) 48++Lib.decDigits c
def RH(n:Nat)(l:List UInt8):num (List.replicate n 48++l)=num l:=by
 have h:num (List.replicate n (48:UInt8))=0:=by
  induction n with
  |zero=>rfl
  |succ n a=>rw[List.replicate_succ',IX,a];rfl
 rw[Xx,h];omega
theorem Xm(h:c<Df):(Lib.decDigits c).length<=19:=by
 rw[Lib.decDigits_length];rcases AF (Lib.nDigits c) 20 with a|a
 . omega
 . exfalso
   by_cases d:c<10
   . rw[Lib.nDigits_small d]at a;omega
   . have e:∀(k u:Nat),u<10^(k+1)->Lib.nDigits u<=k+1:=by
      intro k;induction k with
      |zero=>intro u b;rw[Lib.nDigits_small (by simpa using b)];omega
      |succ k f=>
       intro u b;grind[Lib.nDigits_big]
     have:=e 18 c (by rw[ND]at h;exact h);omega
theorem NG(h:c<Df):(FL c).length=19/\(FL c).all DS=true/\num (FL c)=c:=by
 have hl:=Xm h;obtain⟨a,b⟩:=LD c;refine⟨?_,?_,?_⟩
 . grind[FL]
 . rw[FL,CZ,a,Bool.and_true,AH];intro x d;rw[(List.mem_replicate.1 d).2];rfl
 . rw[FL,RH,b]
def JL:Ja->List UInt8
 |[]=>[]
 |[c]=>Lib.decDigits c
 |c::cs=>JL cs++FL c
theorem NH:∀(cs:Ja),cs≠[]->DK Df cs->(JL cs).all DS=true/\num (JL cs)=val Df cs
 |[c],_,_=>by
  grind[LD,JL,val]
 |c::d::cs,_,a=>by
  have e:c<Df:=a c Ct;obtain⟨f,g⟩:=NH (d::cs) DJ λx b=>a x (List.mem_cons_of_mem _ b);grind[NG,JL,Xx,JT,ND]
theorem NI:∀(cs:Ja),cs≠[]->EG cs->(∃c t,JL cs=c::t/\c≠48)
 |[c],_,a=>NF (by
  intro e;subst e;simp[EG,Js]at a)
 |c::d::cs,_,a=>by
  have b:EG (d::cs):=by
   unfold EG at a ⊢;rw[Js]at a;generalize Js (d::cs)=l at a ⊢;cases l with
   |nil=>grind
   |cons e f=>grind
  obtain⟨x,t,e,g⟩:=NI (d::cs) DJ b;grind[JL]
theorem RI{cs:Ja}(a:cs≠[])(b:DK Df cs)(c:EG cs):JL cs=Y0 (val Df cs):=by
 grind[NH,NI,IZ]
