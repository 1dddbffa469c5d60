import Derived.Test.YteldjhhjnchdeaaGreatDoorT02
import Derived.Lib.ItoaNum
set_option maxRecDepth 100000
set_option maxHeartbeats 16000000
namespace Go.Proofs.YteldjhhjnchdeaaGreatDoor
def Du:Nat:=10000000000000000000
variable{c:Nat}
theorem PW:Du=10^19:=DS
theorem PX{d:Nat}(h:d<10):Dc (Ez d)=true:=by
 have:=IZ h;simp[Dc];omega
theorem NZ(u:Nat):(Lib.decDigits u).all Dc=true/\num (Lib.decDigits u)=u:=by
 induction u using Nat.strongRecOn with
 |_ u c=>
  rw[Lib.decDigits];by_cases h:u<10
  . rw[dif_pos h];refine⟨by simpa[Ez]using PX h,?_⟩;simp[num,ED,val];omega
  . rw[dif_neg h];obtain⟨b,d⟩:=c (u/10) om;have a:u%10<10:=A7 _ om;refine⟨by rw[Fu,b];simpa[Ez]using PX a,?_⟩;have:=IZ a;rw[ND,d,show UInt8.ofNat (48+u%10)=Ez (u%10)from rfl,this];omega
theorem PY{u:Nat}(d:u≠0):∃c t,Lib.decDigits u=c::t/\c≠48:=by
 induction u using Nat.strongRecOn with
 |_ u a=>
  rw[Lib.decDigits];by_cases h:u<10
  . rw[dif_pos h];refine⟨_,_,rfl,λe=>?_⟩;have:=IZ h;rw[show UInt8.ofNat (48+u)=Ez u from rfl]at e;rw[e]at this;simp at this;omega
  . rw[dif_neg h];obtain⟨c,t,e,b⟩:=a (u/10) om om;exact⟨c,t++[UInt8.ofNat (48+u%10)],by rw[e];rfl,b⟩
theorem UW(u:Nat):Lib.decDigits u=Xm u:=by
 by_cases b:u=0
 . subst b;rw[Lib.decDigits,dif_pos om];rfl
 . obtain⟨c,t,e,f⟩:=PY b;obtain⟨a,d⟩:=NZ u;rw[e]at a d ⊢;rw[<-d];exact(NE a f).1.symm
def GV(c:Nat):List UInt8:=List.replicate (19-(Lib.decDigits c).length) 48++Lib.decDigits c
theorem UX(n:Nat)(l:List UInt8):num (List.replicate n 48++l)=num l:=by
 have h:num (List.replicate n (48:UInt8))=0:=by
  induction n with
  |zero=>rfl
  |succ n a=>rw[List.replicate_succ',ND,a];rfl
 rw[Kg,h];omega
theorem XW(h:c<Du):(Lib.decDigits c).length<=19:=by
 rw[Lib.decDigits_length];rcases AO (Lib.nDigits c) 20 with d|d
 . omega
 . exfalso
   by_cases f:c<10
   . rw[Lib.nDigits_small f]at d;omega
   . have e:∀(k u:Nat),u<10^(k+1)->Lib.nDigits u<=k+1:=by
      intro k;induction k with
      |zero=>intro u a;rw[Lib.nDigits_small (by simpa using a)];omega
      |succ k g=>
       intro u a;by_cases b:u<10
       . rw[Lib.nDigits_small b];omega
       . rw[Lib.nDigits_big b];have:=g (u/10) (by rw[AX om,<-AP];exact a);omega
     have:=e 18 c (by rw[PW]at h;exact h);omega
theorem PZ(h:c<Du):(GV c).length=19/\(GV c).all Dc=true/\num (GV c)=c:=by
 have hl:=XW h;obtain⟨a,d⟩:=NZ c;refine⟨?_,?_,?_⟩
 . rw[GV,Ai,Au];omega
 . rw[GV,Fu,a,Bool.and_true,A4];intro x b;rw[(List.mem_replicate.1 b).2];rfl
 . rw[GV,UX,d]
def JM:List Nat->List UInt8
 |[]=>[]
 |[c]=>Lib.decDigits c
 |c::cs=>JM cs++GV c
theorem Pa:∀(cs:List Nat),cs≠[]->DT Du cs->(JM cs).all Dc=true/\num (JM cs)=val Du cs
 |[c],_,_=>by
  obtain⟨b,j⟩:=NZ c;exact⟨b,by rw[JM,j];simp[val]⟩
 |c::d::cs,_,a=>by
  have i:c<Du:=a c CK;obtain⟨f,l⟩:=Pa (d::cs) DQ (λx n=>a x (List.mem_cons_of_mem _ n));obtain⟨m,g,k⟩:=PZ i;have e:JM (c::d::cs)=JM (d::cs)++GV c:=by rw[JM];simp
  refine⟨by rw[e,Fu,f,g];rfl,?_⟩;rw[e,Kg,m,k,l,J5 Du c,<-PW]
theorem Pb:∀(cs:List Nat),cs≠[]->Ey cs->(∃c t,JM cs=c::t/\c≠48)
 |[c],_,a=>PY (by
  intro e;subst e;simp[Ey,Jw]at a)
 |c::d::cs,_,a=>by
  have f:Ey (d::cs):=by
   unfold Ey at a ⊢;rw[Jw]at a;generalize Jw (d::cs)=l at a ⊢;cases l with
   |nil=>by_cases h:c=0<;>simp[h]at a
   |cons e i=>exact(List.cons.inj a).2
  obtain⟨x,t,e,g⟩:=Pb (d::cs) DQ f;have b:JM (c::d::cs)=JM (d::cs)++GV c:=by rw[JM];simp
  exact⟨x,t++GV c,by rw[b,e];rfl,g⟩
theorem UY{cs:List Nat}(d:cs≠[])(i:DT Du cs)(f:Ey cs):JM cs=Xm (val Du cs):=by
 obtain⟨a,b⟩:=Pa cs d i;obtain⟨c,t,e,g⟩:=Pb cs d f;rw[e]at a b ⊢;rw[<-b];exact(NE a g).1.symm
