import Derived.Test.YteldjhhjnchdeaaGreatDoorU02
import Derived.Lib.ItoaNum
set_option maxRecDepth 100000
set_option maxHeartbeats 16000000
namespace Go.Proofs.YteldjhhjnchdeaaGreatDoor
def Dw:Nat:=10000000000000000000
variable{c:Nat}
theorem QN:Dw=10^19:=DP
theorem QO{d:Nat}(h:d<10):Da (F3 d)=true:=by
 have:=KC h;simp[Da];omega
theorem OG(u:Nat):(Lib.decDigits u).all Da=true/\num (Lib.decDigits u)=u:=by
 induction u using Nat.strongRecOn with
 |_ u d=>
  rw[Lib.decDigits];by_cases h:u<10
  . rw[dif_pos h];refine⟨by simpa[F3]using QO h,?_⟩;simp[num,EG,val];omega
  . rw[dif_neg h];obtain⟨b,c⟩:=d (u/10) O;have a:u%10<10:=Ca _ O;refine⟨by rw[Fy,b];simpa[F3]using QO a,?_⟩;have:=KC a;rw[Nq,c,show UInt8.ofNat (48+u%10)=F3 (u%10)from rfl,this];omega
theorem QP{u:Nat}(d:u≠0):∃c t,Lib.decDigits u=c::t/\c≠48:=by
 induction u using Nat.strongRecOn with
 |_ u b=>
  rw[Lib.decDigits];by_cases h:u<10
  . rw[dif_pos h];refine⟨_,_,rfl,λe=>?_⟩;have:=KC h;rw[show UInt8.ofNat (48+u)=F3 u from rfl]at e;rw[e]at this;simp at this;omega
  . rw[dif_neg h];obtain⟨c,t,e,a⟩:=b (u/10) O O;exact⟨c,t++[UInt8.ofNat (48+u%10)],by rw[e];rfl,a⟩
theorem Vz(u:Nat):Lib.decDigits u=XG u:=by
 by_cases a:u=0
 . subst a;rw[Lib.decDigits,dif_pos O];rfl
 . obtain⟨c,t,e,f⟩:=QP a;obtain⟨b,d⟩:=OG u;rw[e]at b d ⊢;rw[<-d];exact(Nr b f).1.symm
def Gm(c:Nat):List UInt8:=List.replicate (19-(Lib.decDigits c).length) 48++Lib.decDigits c
theorem WA(n:Nat)(l:List UInt8):num (List.replicate n 48++l)=num l:=by
 have h:num (List.replicate n (48:UInt8))=0:=by
  induction n with
  |zero=>rfl
  |succ n a=>rw[List.replicate_succ',Nq,a];rfl
 rw[LI,h];omega
theorem MS(h:c<Dw):(Lib.decDigits c).length<=19:=by
 rw[Lib.decDigits_length];rcases AR (Lib.nDigits c) 20 with b|b
 . omega
 . exfalso
   by_cases e:c<10
   . rw[Lib.nDigits_small e]at b;omega
   . have g:∀(k u:Nat),u<10^(k+1)->Lib.nDigits u<=k+1:=by
      intro k;induction k with
      |zero=>intro u a;rw[Lib.nDigits_small (by simpa using a)];omega
      |succ k f=>
       intro u a;by_cases d:u<10
       . rw[Lib.nDigits_small d];omega
       . rw[Lib.nDigits_big d];have:=f (u/10) (by rw[AZ O,<-AO];exact a);omega
     have:=g 18 c (by rw[QN]at h;exact h);omega
theorem QQ(h:c<Dw):(Gm c).length=19/\(Gm c).all Da=true/\num (Gm c)=c:=by
 have hl:=MS h;obtain⟨a,b⟩:=OG c;refine⟨?_,?_,?_⟩
 . rw[Gm,Aj,Av];omega
 . rw[Gm,Fy,a,Bool.and_true,A7];intro x d;rw[(List.mem_replicate.1 d).2];rfl
 . rw[Gm,WA,b]
def JU:List Nat->List UInt8
 |[]=>[]
 |[c]=>Lib.decDigits c
 |c::cs=>JU cs++Gm c
theorem QR:∀(cs:List Nat),cs≠[]->DR Dw cs->(JU cs).all Da=true/\num (JU cs)=val Dw cs
 |[c],_,_=>by
  obtain⟨b,f⟩:=OG c;exact⟨b,by rw[JU,f];simp[val]⟩
 |c::d::cs,_,a=>by
  have g:c<Dw:=a c CS;obtain⟨j,k⟩:=QR (d::cs) Y λx i=>a x (List.mem_cons_of_mem _ i);obtain⟨l,m,n⟩:=QQ g;have e:JU (c::d::cs)=JU (d::cs)++Gm c:=by rw[JU];simp
  refine⟨by rw[e,Fy,j,m];rfl,?_⟩;rw[e,LI,l,n,k,Yc Dw c,<-QN]
theorem QS:∀(cs:List Nat),cs≠[]->E9 cs->(∃c t,JU cs=c::t/\c≠48)
 |[c],_,a=>QP (by
  intro e;subst e;simp[E9,JA]at a)
 |c::d::cs,_,a=>by
  have f:E9 (d::cs):=by
   unfold E9 at a ⊢;rw[JA]at a;generalize JA (d::cs)=l at a ⊢;cases l with
   |nil=>by_cases h:c=0<;>simp[h]at a
   |cons e i=>exact(List.cons.inj a).2
  obtain⟨x,t,e,g⟩:=QS (d::cs) Y f;have b:JU (c::d::cs)=JU (d::cs)++Gm c:=by rw[JU];simp
  exact⟨x,t++Gm c,by rw[b,e];rfl,g⟩
theorem WB{cs:List Nat}(a:cs≠[])(g:DR Dw cs)(i:E9 cs):JU cs=XG (val Dw cs):=by
 obtain⟨b,d⟩:=QR cs a g;obtain⟨c,t,e,f⟩:=QS cs a i;rw[e]at b d ⊢;rw[<-d];exact(Nr b f).1.symm
