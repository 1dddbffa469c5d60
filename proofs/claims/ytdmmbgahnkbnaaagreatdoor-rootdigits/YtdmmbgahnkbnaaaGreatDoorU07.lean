import Derived.Test.YtdmmbgahnkbnaaaGreatDoorU02
import Derived.Lib.ItoaNum
set_option linter.all false
set_option maxRecDepth 99999
set_option maxHeartbeats 0
namespace Go.Proofs.YtdmmbgahnkbnaaaGreatDoor
def Dm:Nat:=10000000000000000000
variable{c:Nat}
theorem Sk:Dm=10^19:=DJ
def Sl{d:Nat}(h:d<10):DW (G9 d)=true:=by
 have:=KN h;simp[DW];omega
theorem Sn(u:Nat):(Lib.decDigits u).all DW=true/\num (Lib.decDigits u)=u:=by
 induction u using Nat.strongRecOn with
 |_ u c=>
  rw[Lib.decDigits];by_cases h:u<10
  . rw[dif_pos h];refine⟨by simpa[G9]using Sl h,?_⟩;simp[num,Dw,val];omega
  . rw[dif_neg h];obtain⟨b,d⟩:=c (u/10) O;have a:u%10<10:=Co _ O;refine⟨by rw[Fp,b];simpa[G9]using Sl a,?_⟩;have:=KN a;grind[PC,G9]
theorem dN{u:Nat}(b:u≠0):∃c t,Lib.decDigits u=c::t/\c≠48:=by
 induction u using Nat.strongRecOn with
 |_ u a=>
  rw[Lib.decDigits];by_cases h:u<10
  . rw[dif_pos h];refine⟨_,_,rfl,λe=>?_⟩;have:=KN h;rw[show UInt8.ofNat (48+u)=G9 u from rfl]at e;rw[e]at this;simp at this;omega
  . rw[dif_neg h];obtain⟨c,t,e,d⟩:=a (u/10) O O;grind
def IK(c:Nat):List UInt8:=List.replicate (19-(Lib.decDigits c).length) 48++Lib.decDigits c
def dO(n:Nat)(l:List UInt8):num (List.replicate n 48++l)=num l:=by
 have h:num (List.replicate n (48:UInt8))=0:=by
  induction n with
  |zero=>rfl
  |succ n a=>rw[List.replicate_succ',PC,a];rfl
 rw[Lc,h];omega
theorem NH(h:c<Dm):(Lib.decDigits c).length<=19:=by
 rw[Lib.decDigits_length];rcases A6 (Lib.nDigits c) 20 with a|a
 . omega
 . exfalso
   by_cases d:c<10
   . rw[Lib.nDigits_small d]at a;omega
   . have e:∀(k u:Nat),u<10^(k+1)->Lib.nDigits u<=k+1:=by
      intro k;induction k with
      |zero=>intro u b;rw[Lib.nDigits_small (by simpa using b)];omega
      |succ k f=>
       intro u b;grind[Lib.nDigits_big]
     have:=e 18 c (by rw[Sk]at h;exact h);omega
theorem So(h:c<Dm):(IK c).length=19/\(IK c).all DW=true/\num (IK c)=c:=by
 have hl:=NH h;obtain⟨a,b⟩:=Sn c;refine⟨?_,?_,?_⟩
 . grind[IK]
 . rw[IK,Fp,a,Bool.and_true,AD];intro x d;rw[(List.mem_replicate.1 d).2];rfl
 . rw[IK,dO,b]
def J5:List Nat->List UInt8
 |[]=>[]
 |[c]=>Lib.decDigits c
 |c::cs=>J5 cs++IK c
theorem Sp:∀(cs:List Nat),cs≠[]->DN Dm cs->(J5 cs).all DW=true/\num (J5 cs)=val Dm cs
 |[c],_,_=>by
  grind[Sn,J5,val]
 |c::d::cs,_,a=>by
  have e:c<Dm:=a c AH;obtain⟨f,g⟩:=Sp (d::cs) DH λx b=>a x (A5 _ b);grind[So,J5,Lc,Yr,Sk]
theorem Sr:∀(cs:List Nat),cs≠[]->Gj cs->(∃c t,J5 cs=c::t/\c≠48)
 |[c],_,a=>dN (by
  intro e;subst e;simp[Gj,J1]at a)
 |c::d::cs,_,a=>by
  have b:Gj (d::cs):=by
   unfold Gj at a ⊢;rw[J1]at a;generalize J1 (d::cs)=l at a ⊢;cases l with
   |nil=>grind
   |cons e es=>grind
  obtain⟨x,t,e,f⟩:=Sr (d::cs) DH b;grind[J5]
theorem dP{cs:List Nat}(a:cs≠[])(b:DN Dm cs)(c:Gj cs):J5 cs=Yz (val Dm cs):=by
 grind[Sp,Sr,SU]
