import Derived.Test.YtdmmbgahnkbnaaaGreatDoorV02
import Derived.Lib.ItoaNum
set_option linter.all false
set_option maxRecDepth 99999
set_option maxHeartbeats 0
namespace Go.Proofs.YtdmmbgahnkbnaaaGreatDoor
def Do:Nat:=10000000000000000000
variable{c:Nat}
theorem TV:Do=10^19:=DK
def TW{d:Nat}(h:d<10):DZ (Hc d)=true:=by
 have:=KW h;simp[DZ];omega
theorem TX(u:Nat):(Lib.decDigits u).all DZ=true/\num (Lib.decDigits u)=u:=by
 induction u using Nat.strongRecOn with
 |_ u c=>
  rw[Lib.decDigits];by_cases h:u<10
  . rw[dif_pos h];refine⟨by simpa[Hc]using TW h,?_⟩;simp[num,D5,val];omega
  . rw[dif_neg h];obtain⟨b,d⟩:=c (u/10) O;have a:u%10<10:=Cl _ O;refine⟨by rw[Fn,b];simpa[Hc]using TW a,?_⟩;have:=KW a;grind[PV,Hc]
theorem eB{u:Nat}(b:u≠0):∃c t,Lib.decDigits u=c::t/\c≠48:=by
 induction u using Nat.strongRecOn with
 |_ u a=>
  rw[Lib.decDigits];by_cases h:u<10
  . rw[dif_pos h];refine⟨_,_,rfl,λe=>?_⟩;have:=KW h;rw[show UInt8.ofNat (48+u)=Hc u from rfl]at e;rw[e]at this;simp at this;omega
  . rw[dif_neg h];obtain⟨c,t,e,d⟩:=a (u/10) O O;grind
def IU(c:Nat):List UInt8:=List.replicate (19-(Lib.decDigits c).length) 48++Lib.decDigits c
def eC(n:Nat)(l:List UInt8):num (List.replicate n 48++l)=num l:=by
 have h:num (List.replicate n (48:UInt8))=0:=by
  induction n with
  |zero=>rfl
  |succ n a=>rw[List.replicate_succ',PV,a];rfl
 rw[Lu,h];omega
theorem NR(h:c<Do):(Lib.decDigits c).length<=19:=by
 rw[Lib.decDigits_length];rcases A4 (Lib.nDigits c) 20 with a|a
 . omega
 . exfalso
   by_cases d:c<10
   . rw[Lib.nDigits_small d]at a;omega
   . have e:∀(k u:Nat),u<10^(k+1)->Lib.nDigits u<=k+1:=by
      intro k;induction k with
      |zero=>intro u b;rw[Lib.nDigits_small (by simpa using b)];omega
      |succ k f=>
       intro u b;grind[Lib.nDigits_big]
     have:=e 18 c (by rw[TV]at h;exact h);omega
theorem TY(h:c<Do):(IU c).length=19/\(IU c).all DZ=true/\num (IU c)=c:=by
 have hl:=NR h;obtain⟨a,b⟩:=TX c;refine⟨?_,?_,?_⟩
 . grind[IU]
 . rw[IU,Fn,a,Bool.and_true,AJ];intro x d;rw[(List.mem_replicate.1 d).2];rfl
 . rw[IU,eC,b]
def J7:List Nat->List UInt8
 |[]=>[]
 |[c]=>Lib.decDigits c
 |c::cs=>J7 cs++IU c
theorem TZ:∀(cs:List Nat),cs≠[]->DO Do cs->(J7 cs).all DZ=true/\num (J7 cs)=val Do cs
 |[c],_,_=>by
  grind[TX,J7,val]
 |c::d::cs,_,a=>by
  have e:c<Do:=a c Ao;obtain⟨f,g⟩:=TZ (d::cs) DI λx b=>a x (AB _ b);grind[TY,J7,Lu,Yw,TV]
theorem Ta:∀(cs:List Nat),cs≠[]->Gm cs->(∃c t,J7 cs=c::t/\c≠48)
 |[c],_,a=>eB (by
  intro e;subst e;simp[Gm,J3]at a)
 |c::d::cs,_,a=>by
  have b:Gm (d::cs):=by
   unfold Gm at a ⊢;rw[J3]at a;generalize J3 (d::cs)=l at a ⊢;cases l with
   |nil=>grind
   |cons e es=>grind
  obtain⟨x,t,e,f⟩:=Ta (d::cs) DI b;grind[J7]
theorem eD{cs:List Nat}(a:cs≠[])(b:DO Do cs)(c:Gm cs):J7 cs=YY (val Do cs):=by
 grind[TZ,Ta,TE]
