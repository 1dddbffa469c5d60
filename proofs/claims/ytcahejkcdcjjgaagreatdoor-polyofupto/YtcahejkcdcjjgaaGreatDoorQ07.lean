import Derived.Test.YtcahejkcdcjjgaaGreatDoorQ02
import Derived.Lib.ItoaNum
set_option linter.all false
set_option maxRecDepth 99999
set_option maxHeartbeats 0
namespace Go.Proofs.YtcahejkcdcjjgaaGreatDoor
def DV:Nat:=10000000000000000000
variable{c:Nat}
theorem Kh:DV=10^19:=DI
def Ki{d:Nat}(h:d<10):DK (Do d)=true:=by
 have:=Y5 h;simp[DK];omega
theorem XU(u:Nat):(Lib.decDigits u).all DK=true/\num (Lib.decDigits u)=u:=by
 induction u using Nat.strongRecOn with
 |_ u c=>
  rw[Lib.decDigits];by_cases h:u<10
  . rw[dif_pos h];refine⟨by simpa[Do]using Ki h,?_⟩;simp[num,Da,val];omega
  . rw[dif_neg h];obtain⟨b,d⟩:=c (u/10) O;have a:u%10<10:=AK _ O;refine⟨by rw[CR,b];simpa[Do]using Ki a,?_⟩;have:=Y5 a;grind[F1,Do]
theorem Kj{u:Nat}(b:u≠0):∃c t,Lib.decDigits u=c::t/\c≠48:=by
 induction u using Nat.strongRecOn with
 |_ u a=>
  rw[Lib.decDigits];by_cases h:u<10
  . rw[dif_pos h];refine⟨_,_,J,λe=>?_⟩;have:=Y5 h;rw[show UInt8.ofNat (48+u)=Do u from J]at e;rw[e]at this;simp at this;omega
  . rw[dif_neg h];obtain⟨c,t,e,d⟩:=a (u/10) O O;grind
theorem N6(u:Nat):Lib.decDigits u=Yv u:=by
 by_cases a:u=0
 . subst a;rw[Lib.decDigits,dif_pos O];rfl
 . obtain⟨c,t,e,b⟩:=Kj a;grind[XU,F3]
def EO(c:Nat):List UInt8:=List.replicate (19-(Lib.decDigits c).length) 48++Lib.decDigits c
def N7(n:Nat)(l:List UInt8):num (List.replicate n 48++l)=num l:=by
 have h:num (List.replicate n (48:UInt8))=0:=by
  induction n with
  |zero=>rfl
  |succ n a=>rw[List.replicate_succ',F1,a];rfl
 rw[Y6,h];omega
theorem YV(h:c<DV):(Lib.decDigits c).length<=19:=by
 rw[Lib.decDigits_length];rcases Az (Lib.nDigits c) 20 with a|a
 . omega
 . exfalso
   by_cases d:c<10
   . rw[Lib.nDigits_small d]at a;omega
   . have e:∀(k u:Nat),u<10^(k+1)->Lib.nDigits u<=k+1:=by
      intro k;induction k with
      |zero=>intro u b;rw[Lib.nDigits_small (by simpa using b)];omega
      |succ k f=>
       intro u b;grind[Lib.nDigits_big]
     have:=e 18 c (by rw[Kh]at h;exact h);omega
theorem Kk(h:c<DV):(EO c).length=19/\(EO c).all DK=true/\num (EO c)=c:=by
 have hl:=YV h;obtain⟨a,b⟩:=XU c;refine⟨?_,?_,?_⟩
 . grind[EO]
 . rw[EO,CR,a,Bool.and_true,Ay];intro x d;rw[(List.mem_replicate.1 d).2];rfl
 . rw[EO,N7,b]
def JH:Ja->List UInt8
 |[]=>[]
 |[c]=>Lib.decDigits c
 |c::cs=>JH cs++EO c
theorem Kl:∀(cs:Ja),cs≠[]->DE DV cs->(JH cs).all DK=true/\num (JH cs)=val DV cs
 |[c],_,_=>by
  grind[XU,JH,val]
 |c::d::cs,_,a=>by
  have e:c<DV:=a c Cq;obtain⟨f,g⟩:=Kl (d::cs) sp λx b=>a x (List.mem_cons_of_mem _ b);grind[Kk,JH,Y6,JO,Kh]
theorem Km:∀(cs:Ja),cs≠[]->Dn cs->(∃c t,JH cs=c::t/\c≠48)
 |[c],_,a=>Kj (by
  intro e;subst e;simp[Dn,Jp]at a)
 |c::d::cs,_,a=>by
  have b:Dn (d::cs):=by
   unfold Dn at a ⊢;rw[Jp]at a;generalize Jp (d::cs)=l at a ⊢;cases l with
   |nil=>grind
   |cons e f=>grind
  obtain⟨x,t,e,g⟩:=Km (d::cs) sp b;grind[JH]
theorem N8{cs:Ja}(a:cs≠[])(b:DE DV cs)(c:Dn cs):JH cs=Yv (val DV cs):=by
 grind[Kl,Km,F3]
