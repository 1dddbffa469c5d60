import Derived.Test.YteldjhhjnchdeaaGreatDoorT02
import Derived.Lib.ItoaNum
set_option linter.all false
set_option maxRecDepth 99999
set_option maxHeartbeats 0
namespace Go.Proofs.YteldjhhjnchdeaaGreatDoor
def Dl:Nat:=10000000000000000000
variable{c:Nat}
theorem P0:Dl=10^19:=DN
def P1{d:Nat}(h:d<10):DW (Ed d)=true:=by
 have:=IP h;simp[DW];omega
theorem Nh(u:Nat):(Lib.decDigits u).all DW=true/\num (Lib.decDigits u)=u:=by
 induction u using Nat.strongRecOn with
 |_ u c=>
  rw[Lib.decDigits];by_cases h:u<10
  . rw[dif_pos h];refine⟨by simpa[Ed]using P1 h,?_⟩;simp[num,Dq,val];omega
  . rw[dif_neg h];obtain⟨b,d⟩:=c (u/10) O;have a:u%10<10:=AZ _ O;refine⟨by rw[Fm,b];simpa[Ed]using P1 a,?_⟩;have:=IP a;grind[NH,Ed]
theorem P2{u:Nat}(b:u≠0):∃c t,Lib.decDigits u=c::t/\c≠48:=by
 induction u using Nat.strongRecOn with
 |_ u a=>
  rw[Lib.decDigits];by_cases h:u<10
  . rw[dif_pos h];refine⟨_,_,J,λe=>?_⟩;have:=IP h;rw[show UInt8.ofNat (48+u)=Ed u from J]at e;rw[e]at this;simp at this;omega
  . rw[dif_neg h];obtain⟨c,t,e,d⟩:=a (u/10) O O;grind
theorem Vs(u:Nat):Lib.decDigits u=Xz u:=by
 by_cases a:u=0
 . subst a;rw[Lib.decDigits,dif_pos O];rfl
 . obtain⟨c,t,e,b⟩:=P2 a;grind[Nh,NI]
def Gs(c:Nat):List UInt8:=List.replicate (19-(Lib.decDigits c).length) 48++Lib.decDigits c
def Vt(n:Nat)(l:List UInt8):num (List.replicate n 48++l)=num l:=by
 have h:num (List.replicate n (48:UInt8))=0:=by
  induction n with
  |zero=>rfl
  |succ n a=>rw[List.replicate_succ',NH,a];rfl
 rw[I1,h];omega
theorem X3(h:c<Dl):(Lib.decDigits c).length<=19:=by
 rw[Lib.decDigits_length];rcases AP (Lib.nDigits c) 20 with a|a
 . omega
 . exfalso
   by_cases d:c<10
   . rw[Lib.nDigits_small d]at a;omega
   . have e:∀(k u:Nat),u<10^(k+1)->Lib.nDigits u<=k+1:=by
      intro k;induction k with
      |zero=>intro u b;rw[Lib.nDigits_small (by simpa using b)];omega
      |succ k f=>
       intro u b;grind[Lib.nDigits_big]
     have:=e 18 c (by rw[P0]at h;exact h);omega
theorem P3(h:c<Dl):(Gs c).length=19/\(Gs c).all DW=true/\num (Gs c)=c:=by
 have hl:=X3 h;obtain⟨a,b⟩:=Nh c;refine⟨?_,?_,?_⟩
 . grind[Gs]
 . rw[Gs,Fm,a,Bool.and_true,AG];intro x d;rw[(List.mem_replicate.1 d).2];rfl
 . rw[Gs,Vt,b]
def JX:kQ->List UInt8
 |[]=>[]
 |[c]=>Lib.decDigits c
 |c::cs=>JX cs++Gs c
theorem P4:∀(cs:kQ),cs≠[]->DM Dl cs->(JX cs).all DW=true/\num (JX cs)=val Dl cs
 |[c],_,_=>by
  grind[Nh,JX,val]
 |c::d::cs,_,a=>by
  have e:c<Dl:=a c CI;obtain⟨f,g⟩:=P4 (d::cs) DK λx b=>a x (List.mem_cons_of_mem _ b);grind[P3,JX,I1,Yc,P0]
theorem P5:∀(cs:kQ),cs≠[]->Ec cs->(∃c t,JX cs=c::t/\c≠48)
 |[c],_,a=>P2 (by
  intro e;subst e;simp[Ec,Jz]at a)
 |c::d::cs,_,a=>by
  have b:Ec (d::cs):=by
   unfold Ec at a ⊢;rw[Jz]at a;generalize Jz (d::cs)=l at a ⊢;cases l with
   |nil=>grind
   |cons e f=>grind
  obtain⟨x,t,e,g⟩:=P5 (d::cs) DK b;grind[JX]
theorem Vu{cs:kQ}(a:cs≠[])(b:DM Dl cs)(c:Ec cs):JX cs=Xz (val Dl cs):=by
 grind[P4,P5,NI]
