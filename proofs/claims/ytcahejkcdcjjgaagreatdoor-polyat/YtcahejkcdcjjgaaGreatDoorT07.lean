import Derived.Test.YtcahejkcdcjjgaaGreatDoorT02
import Derived.Lib.ItoaNum
set_option maxRecDepth 100000
set_option maxHeartbeats 16000000
namespace Go.Proofs.YtcahejkcdcjjgaaGreatDoor
def Dl:Nat:=10000000000000000000
variable{c:Nat}
theorem Na:Dl=10^19:=DR
theorem Nb{d:Nat}(h:d<10):DY (Ea d)=true:=by
 have:=XI h;simp[DY];omega
theorem Lg(u:Nat):(Lib.decDigits u).all DY=true/\num (Lib.decDigits u)=u:=by
 induction u using Nat.strongRecOn with
 |_ u d=>
  rw[Lib.decDigits];by_cases h:u<10
  . rw[dif_pos h];refine⟨by simpa[Ea]using Nb h,?_⟩;simp[num,Dw,val];omega
  . rw[dif_neg h];obtain⟨b,c⟩:=d (u/10) om;have a:u%10<10:=A9 _ om;refine⟨by rw[CT,b];simpa[Ea]using Nb a,?_⟩;have:=XI a;rw[Jx,c,show UInt8.ofNat (48+u%10)=Ea (u%10)from rfl,this];omega
theorem Nc{u:Nat}(d:u≠0):∃c t,Lib.decDigits u=c::t/\c≠48:=by
 induction u using Nat.strongRecOn with
 |_ u b=>
  rw[Lib.decDigits];by_cases h:u<10
  . rw[dif_pos h];refine⟨_,_,rfl,λe=>?_⟩;have:=XI h;rw[show UInt8.ofNat (48+u)=Ea u from rfl]at e;rw[e]at this;simp at this;omega
  . rw[dif_neg h];obtain⟨c,t,e,a⟩:=b (u/10) om om;exact⟨c,t++[UInt8.ofNat (48+u%10)],by rw[e];rfl,a⟩
theorem Rb(u:Nat):Lib.decDigits u=Y5 u:=by
 by_cases b:u=0
 . subst b;rw[Lib.decDigits,dif_pos om];rfl
 . obtain⟨c,t,e,f⟩:=Nc b;obtain⟨a,d⟩:=Lg u;rw[e]at a d ⊢;rw[<-d];exact(KB a f).1.symm
def FG(c:Nat):List UInt8:=List.replicate (19-(Lib.decDigits c).length) 48++Lib.decDigits c
theorem Rc(n:Nat)(l:List UInt8):num (List.replicate n 48++l)=num l:=by
 have h:num (List.replicate n (48:UInt8))=0:=by
  induction n with
  |zero=>rfl
  |succ n a=>rw[List.replicate_succ',Jx,a];rfl
 rw[XJ,h];omega
theorem Xx(h:c<Dl):(Lib.decDigits c).length<=19:=by
 rw[Lib.decDigits_length];rcases AB (Lib.nDigits c) 20 with b|b
 . omega
 . exfalso
   by_cases f:c<10
   . rw[Lib.nDigits_small f]at b;omega
   . have e:∀(k u:Nat),u<10^(k+1)->Lib.nDigits u<=k+1:=by
      intro k;induction k with
      |zero=>intro u a;rw[Lib.nDigits_small (by simpa using a)];omega
      |succ k g=>
       intro u a;by_cases d:u<10
       . rw[Lib.nDigits_small d];omega
       . rw[Lib.nDigits_big d];have:=g (u/10) (by rw[AO om,<-AR];exact a);omega
     have:=e 18 c (by rw[Na]at h;exact h);omega
theorem Nd(h:c<Dl):(FG c).length=19/\(FG c).all DY=true/\num (FG c)=c:=by
 have hl:=Xx h;obtain⟨d,a⟩:=Lg c;refine⟨?_,?_,?_⟩
 . rw[FG,Al,Ar];omega
 . rw[FG,CT,d,Bool.and_true,A8];intro x b;rw[(List.mem_replicate.1 b).2];rfl
 . rw[FG,Rc,a]
def JK:List Nat->List UInt8
 |[]=>[]
 |[c]=>Lib.decDigits c
 |c::cs=>JK cs++FG c
theorem Nf:∀(cs:List Nat),cs≠[]->DP Dl cs->(JK cs).all DY=true/\num (JK cs)=val Dl cs
 |[c],_,_=>by
  obtain⟨k,n⟩:=Lg c;exact⟨k,by rw[JK,n];simp[val]⟩
 |c::d::cs,_,a=>by
  have g:c<Dl:=a c CB;obtain⟨m,j⟩:=Nf (d::cs) DO (λx l=>a x (List.mem_cons_of_mem _ l));obtain⟨f,b,i⟩:=Nd g;have e:JK (c::d::cs)=JK (d::cs)++FG c:=by rw[JK];simp
  refine⟨by rw[e,CT,m,b];rfl,?_⟩;rw[e,XJ,f,i,j,JX Dl c,<-Na]
theorem Ng:∀(cs:List Nat),cs≠[]->EZ cs->(∃c t,JK cs=c::t/\c≠48)
 |[c],_,a=>Nc (by
  intro e;subst e;simp[EZ,Jt]at a)
 |c::d::cs,_,a=>by
  have b:EZ (d::cs):=by
   unfold EZ at a ⊢;rw[Jt]at a;generalize Jt (d::cs)=l at a ⊢;cases l with
   |nil=>by_cases h:c=0<;>simp[h]at a
   |cons e i=>exact(List.cons.inj a).2
  obtain⟨x,t,e,f⟩:=Ng (d::cs) DO b;have g:JK (c::d::cs)=JK (d::cs)++FG c:=by rw[JK];simp
  exact⟨x,t++FG c,by rw[g,e];rfl,f⟩
theorem Re{cs:List Nat}(a:cs≠[])(f:DP Dl cs)(i:EZ cs):JK cs=Y5 (val Dl cs):=by
 obtain⟨b,d⟩:=Nf cs a f;obtain⟨c,t,e,g⟩:=Ng cs a i;rw[e]at b d ⊢;rw[<-d];exact(KB b g).1.symm
