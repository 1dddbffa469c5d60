import Derived.Test.YteldjhhjnchdeaaGreatDoorV02
import Derived.Lib.ItoaNum
set_option maxRecDepth 100000
set_option maxHeartbeats 16000000
namespace Go.Proofs.YteldjhhjnchdeaaGreatDoor
def Dw:Nat:=10000000000000000000
variable{c:Nat}
theorem PS:Dw=10^19:=DQ
theorem PT{d:Nat}(h:d<10):Da (Ey d)=true:=by
 have:=IZ h;simp[Da];omega
theorem NX(u:Nat):(Lib.decDigits u).all Da=true/\num (Lib.decDigits u)=u:=by
 induction u using Nat.strongRecOn with
 |_ u d=>
  rw[Lib.decDigits];by_cases h:u<10
  . rw[dif_pos h];refine⟨by simpa[Ey]using PT h,?_⟩;simp[num,EF,val];omega
  . rw[dif_neg h];obtain⟨b,c⟩:=d (u/10) Y;have a:u%10<10:=A7 _ Y;refine⟨by rw[Fv,b];simpa[Ey]using PT a,?_⟩;have:=IZ a;rw[NB,c,show UInt8.ofNat (48+u%10)=Ey (u%10)from rfl,this];omega
theorem PU{u:Nat}(d:u≠0):∃c t,Lib.decDigits u=c::t/\c≠48:=by
 induction u using Nat.strongRecOn with
 |_ u b=>
  rw[Lib.decDigits];by_cases h:u<10
  . rw[dif_pos h];refine⟨_,_,rfl,λe=>?_⟩;have:=IZ h;rw[show UInt8.ofNat (48+u)=Ey u from rfl]at e;rw[e]at this;simp at this;omega
  . rw[dif_neg h];obtain⟨c,t,e,a⟩:=b (u/10) Y Y;exact⟨c,t++[UInt8.ofNat (48+u%10)],by rw[e];rfl,a⟩
theorem UX(u:Nat):Lib.decDigits u=Xp u:=by
 by_cases a:u=0
 . subst a;rw[Lib.decDigits,dif_pos Y];rfl
 . obtain⟨c,t,e,f⟩:=PU a;obtain⟨b,d⟩:=NX u;rw[e]at b d ⊢;rw[<-d];exact(NC b f).1.symm
def GW(c:Nat):List UInt8:=List.replicate (19-(Lib.decDigits c).length) 48++Lib.decDigits c
theorem UY(n:Nat)(l:List UInt8):num (List.replicate n 48++l)=num l:=by
 have h:num (List.replicate n (48:UInt8))=0:=by
  induction n with
  |zero=>rfl
  |succ n a=>rw[List.replicate_succ',NB,a];rfl
 rw[Ki,h];omega
theorem XV(h:c<Dw):(Lib.decDigits c).length<=19:=by
 rw[Lib.decDigits_length];rcases AO (Lib.nDigits c) 20 with b|b
 . omega
 . exfalso
   by_cases e:c<10
   . rw[Lib.nDigits_small e]at b;omega
   . have g:∀(k u:Nat),u<10^(k+1)->Lib.nDigits u<=k+1:=by
      intro k;induction k with
      |zero=>intro u a;rw[Lib.nDigits_small (by simpa using a)];omega
      |succ k f=>
       intro u a;by_cases d:u<10
       . rw[Lib.nDigits_small d];omega
       . rw[Lib.nDigits_big d];have:=f (u/10) (by rw[AX Y,<-AQ];exact a);omega
     have:=g 18 c (by rw[PS]at h;exact h);omega
theorem PV(h:c<Dw):(GW c).length=19/\(GW c).all Da=true/\num (GW c)=c:=by
 have hl:=XV h;obtain⟨a,b⟩:=NX c;refine⟨?_,?_,?_⟩
 . rw[GW,Ai,Au];omega
 . rw[GW,Fv,a,Bool.and_true,A4];intro x d;rw[(List.mem_replicate.1 d).2];rfl
 . rw[GW,UY,b]
def JN:List Nat->List UInt8
 |[]=>[]
 |[c]=>Lib.decDigits c
 |c::cs=>JN cs++GW c
theorem PW:∀(cs:List Nat),cs≠[]->DS Dw cs->(JN cs).all Da=true/\num (JN cs)=val Dw cs
 |[c],_,_=>by
  obtain⟨b,f⟩:=NX c;exact⟨b,by rw[JN,f];simp[val]⟩
 |c::d::cs,_,a=>by
  have g:c<Dw:=a c CL;obtain⟨j,k⟩:=PW (d::cs) O λx i=>a x (List.mem_cons_of_mem _ i);obtain⟨l,m,n⟩:=PV g;have e:JN (c::d::cs)=JN (d::cs)++GW c:=by rw[JN];simp
  refine⟨by rw[e,Fv,j,m];rfl,?_⟩;rw[e,Ki,l,n,k,J5 Dw c,<-PS]
theorem PX:∀(cs:List Nat),cs≠[]->Ex cs->(∃c t,JN cs=c::t/\c≠48)
 |[c],_,a=>PU (by
  intro e;subst e;simp[Ex,Jy]at a)
 |c::d::cs,_,a=>by
  have f:Ex (d::cs):=by
   unfold Ex at a ⊢;rw[Jy]at a;generalize Jy (d::cs)=l at a ⊢;cases l with
   |nil=>by_cases h:c=0<;>simp[h]at a
   |cons e i=>exact(List.cons.inj a).2
  obtain⟨x,t,e,g⟩:=PX (d::cs) O f;have b:JN (c::d::cs)=JN (d::cs)++GW c:=by rw[JN];simp
  exact⟨x,t++GW c,by rw[b,e];rfl,g⟩
theorem UZ{cs:List Nat}(a:cs≠[])(g:DS Dw cs)(i:Ex cs):JN cs=Xp (val Dw cs):=by
 obtain⟨b,d⟩:=PW cs a g;obtain⟨c,t,e,f⟩:=PX cs a i;rw[e]at b d ⊢;rw[<-d];exact(NC b f).1.symm
