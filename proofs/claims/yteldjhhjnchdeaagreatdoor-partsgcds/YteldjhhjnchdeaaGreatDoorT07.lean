import Derived.Test.YteldjhhjnchdeaaGreatDoorT02
import Derived.Lib.ItoaNum
set_option maxRecDepth 100000
set_option maxHeartbeats 16000000
namespace Go.Proofs.YteldjhhjnchdeaaGreatDoor
def Dq:Nat:=10000000000000000000
variable{c:Nat}
theorem PU:Dq=10^19:=DQ
theorem PV{d:Nat}(h:d<10):DY (Ew d)=true:=by
 have:=Ic h;simp[DY];omega
theorem NZ(u:Nat):(Lib.decDigits u).all DY=true/\num (Lib.decDigits u)=u:=by
 induction u using Nat.strongRecOn with
 |_ u d=>
  rw[Lib.decDigits];by_cases h:u<10
  . rw[dif_pos h];refine⟨by simpa[Ew]using PV h,?_⟩;simp[num,Dz,val];omega
  . rw[dif_neg h];obtain⟨b,c⟩:=d (u/10) J;have a:u%10<10:=A7 _ J;refine⟨by rw[Fu,b];simpa[Ew]using PV a,?_⟩;have:=Ic a;rw[ND,c,show UInt8.ofNat (48+u%10)=Ew (u%10)from rfl,this];omega
theorem PW{u:Nat}(d:u≠0):∃c t,Lib.decDigits u=c::t/\c≠48:=by
 induction u using Nat.strongRecOn with
 |_ u b=>
  rw[Lib.decDigits];by_cases h:u<10
  . rw[dif_pos h];refine⟨_,_,rfl,λe=>?_⟩;have:=Ic h;rw[show UInt8.ofNat (48+u)=Ew u from rfl]at e;rw[e]at this;simp at this;omega
  . rw[dif_neg h];obtain⟨c,t,e,a⟩:=b (u/10) J J;exact⟨c,t++[UInt8.ofNat (48+u%10)],by rw[e];rfl,a⟩
theorem U6(u:Nat):Lib.decDigits u=Xt u:=by
 by_cases a:u=0
 . subst a;rw[Lib.decDigits,dif_pos J];rfl
 . obtain⟨c,t,e,f⟩:=PW a;obtain⟨b,d⟩:=NZ u;rw[e]at b d ⊢;rw[<-d];exact(NE b f).1.symm
def GS(c:Nat):List UInt8:=List.replicate (19-(Lib.decDigits c).length) 48++Lib.decDigits c
theorem U7(n:Nat)(l:List UInt8):num (List.replicate n 48++l)=num l:=by
 have h:num (List.replicate n (48:UInt8))=0:=by
  induction n with
  |zero=>rfl
  |succ n a=>rw[List.replicate_succ',ND,a];rfl
 rw[Ki,h];omega
theorem X1(h:c<Dq):(Lib.decDigits c).length<=19:=by
 rw[Lib.decDigits_length];rcases AO (Lib.nDigits c) 20 with b|b
 . omega
 . exfalso
   by_cases e:c<10
   . rw[Lib.nDigits_small e]at b;omega
   . have g:∀(k u:Nat),u<10^(k+1)->Lib.nDigits u<=k+1:=by
      intro k;induction k with
      |zero=>intro u a;rw[Lib.nDigits_small (by simpa using a)];omega
      |succ k f=>
       intro u a;by_cases d:u<10
       . rw[Lib.nDigits_small d];omega
       . rw[Lib.nDigits_big d];have:=f (u/10) (by rw[AX J,<-AP];exact a);omega
     have:=g 18 c (by rw[PU]at h;exact h);omega
theorem PX(h:c<Dq):(GS c).length=19/\(GS c).all DY=true/\num (GS c)=c:=by
 have hl:=X1 h;obtain⟨a,b⟩:=NZ c;refine⟨?_,?_,?_⟩
 . rw[GS,Ai,Au];omega
 . rw[GS,Fu,a,Bool.and_true,A4];intro x d;rw[(List.mem_replicate.1 d).2];rfl
 . rw[GS,U7,b]
def JN:List Nat->List UInt8
 |[]=>[]
 |[c]=>Lib.decDigits c
 |c::cs=>JN cs++GS c
theorem PY:∀(cs:List Nat),cs≠[]->DR Dq cs->(JN cs).all DY=true/\num (JN cs)=val Dq cs
 |[c],_,_=>by
  obtain⟨b,f⟩:=NZ c;exact⟨b,by rw[JN,f];simp[val]⟩
 |c::d::cs,_,a=>by
  have g:c<Dq:=a c CL;obtain⟨j,k⟩:=PY (d::cs) Y λx i=>a x (List.mem_cons_of_mem _ i);obtain⟨l,m,n⟩:=PX g;have e:JN (c::d::cs)=JN (d::cs)++GS c:=by rw[JN];simp
  refine⟨by rw[e,Fu,j,m];rfl,?_⟩;rw[e,Ki,l,n,k,J4 Dq c,<-PU]
theorem PZ:∀(cs:List Nat),cs≠[]->Ev cs->(∃c t,JN cs=c::t/\c≠48)
 |[c],_,a=>PW (by
  intro e;subst e;simp[Ev,Jy]at a)
 |c::d::cs,_,a=>by
  have f:Ev (d::cs):=by
   unfold Ev at a ⊢;rw[Jy]at a;generalize Jy (d::cs)=l at a ⊢;cases l with
   |nil=>by_cases h:c=0<;>simp[h]at a
   |cons e i=>exact(List.cons.inj a).2
  obtain⟨x,t,e,g⟩:=PZ (d::cs) Y f;have b:JN (c::d::cs)=JN (d::cs)++GS c:=by rw[JN];simp
  exact⟨x,t++GS c,by rw[b,e];rfl,g⟩
theorem U8{cs:List Nat}(a:cs≠[])(g:DR Dq cs)(i:Ev cs):JN cs=Xt (val Dq cs):=by
 obtain⟨b,d⟩:=PY cs a g;obtain⟨c,t,e,f⟩:=PZ cs a i;rw[e]at b d ⊢;rw[<-d];exact(NE b f).1.symm
