import Derived.Test.YtcahejkcdcjjgaaGreatDoorV02
import Derived.Lib.ItoaNum
set_option linter.all false
set_option maxRecDepth 99999
set_option maxHeartbeats 0
namespace Go.Proofs.YtcahejkcdcjjgaaGreatDoor
def Dd:Nat:=10000000000000000000
variable{c:Nat}
theorem MD:Dd=10^19:=DQ
def ME{d:Nat}(h:d<10):DS (Dz d)=true:=by
 have:=Xw h;simp[DS];omega
theorem KY(u:Nat):(Lib.decDigits u).all DS=true/\num (Lib.decDigits u)=u:=by
 induction u using Nat.strongRecOn with
 |_ u c=>
  rw[Lib.decDigits];by_cases h:u<10
  . rw[dif_pos h];refine⟨by simpa[Dz]using ME h,?_⟩;simp[num,Dg,val];omega
  . rw[dif_neg h];obtain⟨b,d⟩:=c (u/10) O;have a:u%10<10:=AN _ O;refine⟨by rw[CT,b];simpa[Dz]using ME a,?_⟩;have:=Xw a;grind[KC,Dz]
theorem MF{u:Nat}(b:u≠0):∃c t,Lib.decDigits u=c::t/\c≠48:=by
 induction u using Nat.strongRecOn with
 |_ u a=>
  rw[Lib.decDigits];by_cases h:u<10
  . rw[dif_pos h];refine⟨_,_,J,λe=>?_⟩;have:=Xw h;rw[show UInt8.ofNat (48+u)=Dz u from J]at e;rw[e]at this;simp at this;omega
  . rw[dif_neg h];obtain⟨c,t,e,d⟩:=a (u/10) O O;grind
theorem Pr(u:Nat):Lib.decDigits u=YP u:=by
 by_cases a:u=0
 . subst a;rw[Lib.decDigits,dif_pos O];rfl
 . obtain⟨c,t,e,b⟩:=MF a;grind[KY,KD]
def Ex(c:Nat):List UInt8:=List.replicate (19-(Lib.decDigits c).length) 48++Lib.decDigits c
def Ps(n:Nat)(l:List UInt8):num (List.replicate n 48++l)=num l:=by
 have h:num (List.replicate n (48:UInt8))=0:=by
  induction n with
  |zero=>rfl
  |succ n a=>rw[List.replicate_succ',KC,a];rfl
 rw[Xx,h];omega
theorem Xg(h:c<Dd):(Lib.decDigits c).length<=19:=by
 rw[Lib.decDigits_length];rcases AD (Lib.nDigits c) 20 with a|a
 . omega
 . exfalso
   by_cases d:c<10
   . rw[Lib.nDigits_small d]at a;omega
   . have e:∀(k u:Nat),u<10^(k+1)->Lib.nDigits u<=k+1:=by
      intro k;induction k with
      |zero=>intro u b;rw[Lib.nDigits_small (by simpa using b)];omega
      |succ k f=>
       intro u b;grind[Lib.nDigits_big]
     have:=e 18 c (by rw[MD]at h;exact h);omega
theorem MG(h:c<Dd):(Ex c).length=19/\(Ex c).all DS=true/\num (Ex c)=c:=by
 have hl:=Xg h;obtain⟨a,b⟩:=KY c;refine⟨?_,?_,?_⟩
 . grind[Ex]
 . rw[Ex,CT,a,Bool.and_true,Az];intro x d;rw[(List.mem_replicate.1 d).2];rfl
 . rw[Ex,Ps,b]
def JJ:Ja->List UInt8
 |[]=>[]
 |[c]=>Lib.decDigits c
 |c::cs=>JJ cs++Ex c
theorem MH:∀(cs:Ja),cs≠[]->DK Dd cs->(JJ cs).all DS=true/\num (JJ cs)=val Dd cs
 |[c],_,_=>by
  grind[KY,JJ,val]
 |c::d::cs,_,a=>by
  have e:c<Dd:=a c Cs;obtain⟨f,g⟩:=MH (d::cs) DJ λx b=>a x (List.mem_cons_of_mem _ b);grind[MG,JJ,Xx,JS,MD]
theorem MI:∀(cs:Ja),cs≠[]->Dy cs->(∃c t,JJ cs=c::t/\c≠48)
 |[c],_,a=>MF (by
  intro e;subst e;simp[Dy,Jr]at a)
 |c::d::cs,_,a=>by
  have b:Dy (d::cs):=by
   unfold Dy at a ⊢;rw[Jr]at a;generalize Jr (d::cs)=l at a ⊢;cases l with
   |nil=>grind
   |cons e f=>grind
  obtain⟨x,t,e,g⟩:=MI (d::cs) DJ b;grind[JJ]
theorem Pt{cs:Ja}(a:cs≠[])(b:DK Dd cs)(c:Dy cs):JJ cs=YP (val Dd cs):=by
 grind[MH,MI,KD]
