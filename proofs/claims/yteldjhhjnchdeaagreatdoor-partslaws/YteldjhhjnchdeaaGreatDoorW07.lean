import Derived.Test.YteldjhhjnchdeaaGreatDoorW02
import Derived.Lib.ItoaNum
set_option maxRecDepth 100000
set_option maxHeartbeats 16000000
namespace Go.Proofs.YteldjhhjnchdeaaGreatDoor
def Dm:Nat:=10000000000000000000
variable{c:Nat}
theorem OD:Dm=10^19:=DL
theorem OE{d:Nat}(h:d<10):DU (FY d)=true:=by
 have:=XE h;simp[DU];omega
theorem L0(u:Nat):(Lib.decDigits u).all DU=true/\num (Lib.decDigits u)=u:=by
 induction u using Nat.strongRecOn with
 |_ u d=>
  rw[Lib.decDigits];by_cases h:u<10
  . rw[dif_pos h];refine⟨by simpa[FY]using OE h,?_⟩;simp[num,Dr,val];omega
  . rw[dif_neg h];obtain⟨b,c⟩:=d (u/10) Y;have a:u%10<10:=Ck _ Y;refine⟨by rw[Fk,b];simpa[FY]using OE a,?_⟩;have:=XE a;rw[Li,c,show UInt8.ofNat (48+u%10)=FY (u%10)from rfl,this];omega
theorem OG{u:Nat}(d:u≠0):∃c t,Lib.decDigits u=c::t/\c≠48:=by
 induction u using Nat.strongRecOn with
 |_ u b=>
  rw[Lib.decDigits];by_cases h:u<10
  . rw[dif_pos h];refine⟨_,_,rfl,λe=>?_⟩;have:=XE h;rw[show UInt8.ofNat (48+u)=FY u from rfl]at e;rw[e]at this;simp at this;omega
  . rw[dif_neg h];obtain⟨c,t,e,a⟩:=b (u/10) Y Y;exact⟨c,t++[UInt8.ofNat (48+u%10)],by rw[e];rfl,a⟩
theorem Sg(u:Nat):Lib.decDigits u=X0 u:=by
 by_cases a:u=0
 . subst a;rw[Lib.decDigits,dif_pos Y];rfl
 . obtain⟨c,t,e,f⟩:=OG a;obtain⟨b,d⟩:=L0 u;rw[e]at b d ⊢;rw[<-d];exact(Lj b f).1.symm
def E9(c:Nat):List UInt8:=List.replicate (19-(Lib.decDigits c).length) 48++Lib.decDigits c
theorem Sh(n:Nat)(l:List UInt8):num (List.replicate n 48++l)=num l:=by
 have h:num (List.replicate n (48:UInt8))=0:=by
  induction n with
  |zero=>rfl
  |succ n a=>rw[List.replicate_succ',Li,a];rfl
 rw[Ih,h];omega
theorem Xu(h:c<Dm):(Lib.decDigits c).length<=19:=by
 rw[Lib.decDigits_length];rcases AZ (Lib.nDigits c) 20 with b|b
 . omega
 . exfalso
   by_cases e:c<10
   . rw[Lib.nDigits_small e]at b;omega
   . have g:∀(k u:Nat),u<10^(k+1)->Lib.nDigits u<=k+1:=by
      intro k;induction k with
      |zero=>intro u a;rw[Lib.nDigits_small (by simpa using a)];omega
      |succ k f=>
       intro u a;by_cases d:u<10
       . rw[Lib.nDigits_small d];omega
       . rw[Lib.nDigits_big d];have:=f (u/10) (by rw[A0 Y,<-AY];exact a);omega
     have:=g 18 c (by rw[OD]at h;exact h);omega
theorem OH(h:c<Dm):(E9 c).length=19/\(E9 c).all DU=true/\num (E9 c)=c:=by
 have hl:=Xu h;obtain⟨a,b⟩:=L0 c;refine⟨?_,?_,?_⟩
 . rw[E9,Aq,Au];omega
 . rw[E9,Fk,a,Bool.and_true,A1];intro x d;rw[(List.mem_replicate.1 d).2];rfl
 . rw[E9,Sh,b]
def JH:List Nat->List UInt8
 |[]=>[]
 |[c]=>Lib.decDigits c
 |c::cs=>JH cs++E9 c
theorem OI:∀(cs:List Nat),cs≠[]->DM Dm cs->(JH cs).all DU=true/\num (JH cs)=val Dm cs
 |[c],_,_=>by
  obtain⟨b,f⟩:=L0 c;exact⟨b,by rw[JH,f];simp[val]⟩
 |c::d::cs,_,a=>by
  have g:c<Dm:=a c CH;obtain⟨j,k⟩:=OI (d::cs) O λx i=>a x (List.mem_cons_of_mem _ i);obtain⟨l,m,n⟩:=OH g;have e:JH (c::d::cs)=JH (d::cs)++E9 c:=by rw[JH];simp
  refine⟨by rw[e,Fk,j,m];rfl,?_⟩;rw[e,Ih,l,n,k,J3 Dm c,<-OD]
theorem OJ:∀(cs:List Nat),cs≠[]->Ez cs->(∃c t,JH cs=c::t/\c≠48)
 |[c],_,a=>OG (by
  intro e;subst e;simp[Ez,JI]at a)
 |c::d::cs,_,a=>by
  have f:Ez (d::cs):=by
   unfold Ez at a ⊢;rw[JI]at a;generalize JI (d::cs)=l at a ⊢;cases l with
   |nil=>by_cases h:c=0<;>simp[h]at a
   |cons e i=>exact(List.cons.inj a).2
  obtain⟨x,t,e,g⟩:=OJ (d::cs) O f;have b:JH (c::d::cs)=JH (d::cs)++E9 c:=by rw[JH];simp
  exact⟨x,t++E9 c,by rw[b,e];rfl,g⟩
theorem Si{cs:List Nat}(a:cs≠[])(g:DM Dm cs)(i:Ez cs):JH cs=X0 (val Dm cs):=by
 obtain⟨b,d⟩:=OI cs a g;obtain⟨c,t,e,f⟩:=OJ cs a i;rw[e]at b d ⊢;rw[<-d];exact(Lj b f).1.symm
