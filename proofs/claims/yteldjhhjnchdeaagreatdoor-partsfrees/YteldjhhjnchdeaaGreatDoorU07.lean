import Derived.Test.YteldjhhjnchdeaaGreatDoorU02
import Derived.Lib.ItoaNum
set_option maxRecDepth 100000
set_option maxHeartbeats 16000000
namespace Go.Proofs.YteldjhhjnchdeaaGreatDoor
def Ds:Nat:=10000000000000000000
variable{c:Nat}
theorem PT:Ds=10^19:=DQ
theorem PU{d:Nat}(h:d<10):DY (Ew d)=true:=by
 have:=Ig h;simp[DY];omega
theorem NU(u:Nat):(Lib.decDigits u).all DY=true/\num (Lib.decDigits u)=u:=by
 induction u using Nat.strongRecOn with
 |_ u d=>
  rw[Lib.decDigits];by_cases h:u<10
  . rw[dif_pos h];refine⟨by simpa[Ew]using PU h,?_⟩;simp[num,D8,val];omega
  . rw[dif_neg h];obtain⟨b,c⟩:=d (u/10) J;have a:u%10<10:=A7 _ J;refine⟨by rw[Fv,b];simpa[Ew]using PU a,?_⟩;have:=Ig a;rw[Mz,c,show UInt8.ofNat (48+u%10)=Ew (u%10)from rfl,this];omega
theorem PV{u:Nat}(d:u≠0):∃c t,Lib.decDigits u=c::t/\c≠48:=by
 induction u using Nat.strongRecOn with
 |_ u b=>
  rw[Lib.decDigits];by_cases h:u<10
  . rw[dif_pos h];refine⟨_,_,rfl,λe=>?_⟩;have:=Ig h;rw[show UInt8.ofNat (48+u)=Ew u from rfl]at e;rw[e]at this;simp at this;omega
  . rw[dif_neg h];obtain⟨c,t,e,a⟩:=b (u/10) J J;exact⟨c,t++[UInt8.ofNat (48+u%10)],by rw[e];rfl,a⟩
theorem U5(u:Nat):Lib.decDigits u=Xu u:=by
 by_cases a:u=0
 . subst a;rw[Lib.decDigits,dif_pos J];rfl
 . obtain⟨c,t,e,f⟩:=PV a;obtain⟨b,d⟩:=NU u;rw[e]at b d ⊢;rw[<-d];exact(NA b f).1.symm
def GW(c:Nat):List UInt8:=List.replicate (19-(Lib.decDigits c).length) 48++Lib.decDigits c
theorem U6(n:Nat)(l:List UInt8):num (List.replicate n 48++l)=num l:=by
 have h:num (List.replicate n (48:UInt8))=0:=by
  induction n with
  |zero=>rfl
  |succ n a=>rw[List.replicate_succ',Mz,a];rfl
 rw[Kj,h];omega
theorem X2(h:c<Ds):(Lib.decDigits c).length<=19:=by
 rw[Lib.decDigits_length];rcases AO (Lib.nDigits c) 20 with b|b
 . omega
 . exfalso
   by_cases e:c<10
   . rw[Lib.nDigits_small e]at b;omega
   . have g:∀(k u:Nat),u<10^(k+1)->Lib.nDigits u<=k+1:=by
      intro k;induction k with
      |zero=>intro u a;rw[Lib.nDigits_small (by simpa using a)];omega
      |succ k f=>
       intro u a;by_cases d:u<10
       . rw[Lib.nDigits_small d];omega
       . rw[Lib.nDigits_big d];have:=f (u/10) (by rw[AX J,<-AQ];exact a);omega
     have:=g 18 c (by rw[PT]at h;exact h);omega
theorem PW(h:c<Ds):(GW c).length=19/\(GW c).all DY=true/\num (GW c)=c:=by
 have hl:=X2 h;obtain⟨a,b⟩:=NU c;refine⟨?_,?_,?_⟩
 . rw[GW,Ai,Au];omega
 . rw[GW,Fv,a,Bool.and_true,A4];intro x d;rw[(List.mem_replicate.1 d).2];rfl
 . rw[GW,U6,b]
def JO:List Nat->List UInt8
 |[]=>[]
 |[c]=>Lib.decDigits c
 |c::cs=>JO cs++GW c
theorem PX:∀(cs:List Nat),cs≠[]->DS Ds cs->(JO cs).all DY=true/\num (JO cs)=val Ds cs
 |[c],_,_=>by
  obtain⟨b,f⟩:=NU c;exact⟨b,by rw[JO,f];simp[val]⟩
 |c::d::cs,_,a=>by
  have g:c<Ds:=a c CL;obtain⟨j,k⟩:=PX (d::cs) Y λx i=>a x (List.mem_cons_of_mem _ i);obtain⟨l,m,n⟩:=PW g;have e:JO (c::d::cs)=JO (d::cs)++GW c:=by rw[JO];simp
  refine⟨by rw[e,Fv,j,m];rfl,?_⟩;rw[e,Kj,l,n,k,J5 Ds c,<-PT]
theorem PY:∀(cs:List Nat),cs≠[]->Ev cs->(∃c t,JO cs=c::t/\c≠48)
 |[c],_,a=>PV (by
  intro e;subst e;simp[Ev,Jy]at a)
 |c::d::cs,_,a=>by
  have f:Ev (d::cs):=by
   unfold Ev at a ⊢;rw[Jy]at a;generalize Jy (d::cs)=l at a ⊢;cases l with
   |nil=>by_cases h:c=0<;>simp[h]at a
   |cons e i=>exact(List.cons.inj a).2
  obtain⟨x,t,e,g⟩:=PY (d::cs) Y f;have b:JO (c::d::cs)=JO (d::cs)++GW c:=by rw[JO];simp
  exact⟨x,t++GW c,by rw[b,e];rfl,g⟩
theorem U7{cs:List Nat}(a:cs≠[])(g:DS Ds cs)(i:Ev cs):JO cs=Xu (val Ds cs):=by
 obtain⟨b,d⟩:=PX cs a g;obtain⟨c,t,e,f⟩:=PY cs a i;rw[e]at b d ⊢;rw[<-d];exact(NA b f).1.symm
