import Derived.Test.YteldjhhjnchdeaaGreatDoorW02
import Derived.Lib.ItoaNum
set_option maxRecDepth 100000
set_option maxHeartbeats 16000000
namespace Go.Proofs.YteldjhhjnchdeaaGreatDoor
def Do:Nat:=10000000000000000000
variable{c:Nat}
theorem OE:Do=10^19:=DL
theorem OG{d:Nat}(h:d<10):DW (F0 d)=true:=by
 have:=XF h;simp[DW];omega
theorem L6(u:Nat):(Lib.decDigits u).all DW=true/\num (Lib.decDigits u)=u:=by
 induction u using Nat.strongRecOn with
 |_ u d=>
  rw[Lib.decDigits];by_cases h:u<10
  . rw[dif_pos h];refine⟨by simpa[F0]using OG h,?_⟩;simp[num,Dx,val];omega
  . rw[dif_neg h];obtain⟨b,c⟩:=d (u/10) Z;have a:u%10<10:=Cl _ Z;refine⟨by rw[Fk,b];simpa[F0]using OG a,?_⟩;have:=XF a;rw[Lq,c,show UInt8.ofNat (48+u%10)=F0 (u%10)from rfl,this];omega
theorem OH{u:Nat}(d:u≠0):∃c t,Lib.decDigits u=c::t/\c≠48:=by
 induction u using Nat.strongRecOn with
 |_ u b=>
  rw[Lib.decDigits];by_cases h:u<10
  . rw[dif_pos h];refine⟨_,_,rfl,λe=>?_⟩;have:=XF h;rw[show UInt8.ofNat (48+u)=F0 u from rfl]at e;rw[e]at this;simp at this;omega
  . rw[dif_neg h];obtain⟨c,t,e,a⟩:=b (u/10) Z Z;exact⟨c,t++[UInt8.ofNat (48+u%10)],by rw[e];rfl,a⟩
theorem Sf(u:Nat):Lib.decDigits u=X2 u:=by
 by_cases a:u=0
 . subst a;rw[Lib.decDigits,dif_pos Z];rfl
 . obtain⟨c,t,e,f⟩:=OH a;obtain⟨b,d⟩:=L6 u;rw[e]at b d ⊢;rw[<-d];exact(Lr b f).1.symm
def FQ(c:Nat):List UInt8:=List.replicate (19-(Lib.decDigits c).length) 48++Lib.decDigits c
theorem Sg(n:Nat)(l:List UInt8):num (List.replicate n 48++l)=num l:=by
 have h:num (List.replicate n (48:UInt8))=0:=by
  induction n with
  |zero=>rfl
  |succ n a=>rw[List.replicate_succ',Lq,a];rfl
 rw[Ij,h];omega
theorem Xw(h:c<Do):(Lib.decDigits c).length<=19:=by
 rw[Lib.decDigits_length];rcases AZ (Lib.nDigits c) 20 with b|b
 . omega
 . exfalso
   by_cases e:c<10
   . rw[Lib.nDigits_small e]at b;omega
   . have g:∀(k u:Nat),u<10^(k+1)->Lib.nDigits u<=k+1:=by
      intro k;induction k with
      |zero=>intro u a;rw[Lib.nDigits_small (by simpa using a)];omega
      |succ k f=>
       intro u a;by_cases d:u<10
       . rw[Lib.nDigits_small d];omega
       . rw[Lib.nDigits_big d];have:=f (u/10) (by rw[A0 Z,<-AY];exact a);omega
     have:=g 18 c (by rw[OE]at h;exact h);omega
theorem OI(h:c<Do):(FQ c).length=19/\(FQ c).all DW=true/\num (FQ c)=c:=by
 have hl:=Xw h;obtain⟨a,b⟩:=L6 c;refine⟨?_,?_,?_⟩
 . rw[FQ,Aq,Au];omega
 . rw[FQ,Fk,a,Bool.and_true,A1];intro x d;rw[(List.mem_replicate.1 d).2];rfl
 . rw[FQ,Sg,b]
def JH:List Nat->List UInt8
 |[]=>[]
 |[c]=>Lib.decDigits c
 |c::cs=>JH cs++FQ c
theorem OJ:∀(cs:List Nat),cs≠[]->DN Do cs->(JH cs).all DW=true/\num (JH cs)=val Do cs
 |[c],_,_=>by
  obtain⟨b,f⟩:=L6 c;exact⟨b,by rw[JH,f];simp[val]⟩
 |c::d::cs,_,a=>by
  have g:c<Do:=a c CF;obtain⟨j,k⟩:=OJ (d::cs) J λx i=>a x (List.mem_cons_of_mem _ i);obtain⟨l,m,n⟩:=OI g;have e:JH (c::d::cs)=JH (d::cs)++FQ c:=by rw[JH];simp
  refine⟨by rw[e,Fk,j,m];rfl,?_⟩;rw[e,Ij,l,n,k,J2 Do c,<-OE]
theorem OK:∀(cs:List Nat),cs≠[]->FO cs->(∃c t,JH cs=c::t/\c≠48)
 |[c],_,a=>OH (by
  intro e;subst e;simp[FO,JI]at a)
 |c::d::cs,_,a=>by
  have f:FO (d::cs):=by
   unfold FO at a ⊢;rw[JI]at a;generalize JI (d::cs)=l at a ⊢;cases l with
   |nil=>by_cases h:c=0<;>simp[h]at a
   |cons e i=>exact(List.cons.inj a).2
  obtain⟨x,t,e,g⟩:=OK (d::cs) J f;have b:JH (c::d::cs)=JH (d::cs)++FQ c:=by rw[JH];simp
  exact⟨x,t++FQ c,by rw[b,e];rfl,g⟩
theorem Sh{cs:List Nat}(a:cs≠[])(g:DN Do cs)(i:FO cs):JH cs=X2 (val Do cs):=by
 obtain⟨b,d⟩:=OJ cs a g;obtain⟨c,t,e,f⟩:=OK cs a i;rw[e]at b d ⊢;rw[<-d];exact(Lr b f).1.symm
