import Derived.Test.YtcahejkcdcjjgaaGreatDoorU02
import Derived.Lib.ItoaNum
set_option linter.all false
set_option maxRecDepth 99999
set_option maxHeartbeats 0
namespace Go.Proofs.YtcahejkcdcjjgaaGreatDoor
def DN:Nat:=10000000000000000000
variable{c:Nat}
theorem K5:DN=10^19:=DB
def K6{d:Nat}(h:d<10):DC (D7 d)=true:=by
 have:=Xa h;simp[DC];omega
theorem XY(u:Nat):(Lib.decDigits u).all DC=true/\num (Lib.decDigits u)=u:=by
 induction u using Nat.strongRecOn with
 |_ u c=>
  rw[Lib.decDigits];by_cases h:u<10
  . rw[dif_pos h];refine⟨by simpa[D7]using K6 h,?_⟩;simp[num,DR,val];omega
  . rw[dif_neg h];obtain⟨b,d⟩:=c (u/10) Y;have a:u%10<10:=AJ _ Y;refine⟨by rw[CS,b];simpa[D7]using K6 a,?_⟩;have:=Xa a;grind[Hg,D7]
theorem K7{u:Nat}(b:u≠0):∃c t,Lib.decDigits u=c::t/\c≠48:=by
 induction u using Nat.strongRecOn with
 |_ u a=>
  rw[Lib.decDigits];by_cases h:u<10
  . rw[dif_pos h];refine⟨_,_,J,λe=>?_⟩;have:=Xa h;rw[show UInt8.ofNat (48+u)=D7 u from J]at e;rw[e]at this;simp at this;omega
  . rw[dif_neg h];obtain⟨c,t,e,d⟩:=a (u/10) Y Y;grind
theorem OT(u:Nat):Lib.decDigits u=J8 u:=by
 by_cases a:u=0
 . subst a;rw[Lib.decDigits,dif_pos Y];rfl
 . obtain⟨c,t,e,b⟩:=K7 a;grind[XY,Hh]
def ER(c:Nat):List UInt8:=List.replicate (19-(Lib.decDigits c).length) 48++Lib.decDigits c
def OU(n:Nat)(l:List UInt8):num (List.replicate n 48++l)=num l:=by
 have h:num (List.replicate n (48:UInt8))=0:=by
  induction n with
  |zero=>rfl
  |succ n a=>rw[List.replicate_succ',Hg,a];rfl
 rw[Xb,h];omega
theorem YY(h:c<DN):(Lib.decDigits c).length<=19:=by
 rw[Lib.decDigits_length];rcases AH (Lib.nDigits c) 20 with a|a
 . omega
 . exfalso
   by_cases d:c<10
   . rw[Lib.nDigits_small d]at a;omega
   . have e:∀(k u:Nat),u<10^(k+1)->Lib.nDigits u<=k+1:=by
      intro k;induction k with
      |zero=>intro u b;rw[Lib.nDigits_small (by simpa using b)];omega
      |succ k f=>
       intro u b;grind[Lib.nDigits_big]
     have:=e 18 c (by rw[K5]at h;exact h);omega
theorem K8(h:c<DN):(ER c).length=19/\(ER c).all DC=true/\num (ER c)=c:=by
 have hl:=YY h;obtain⟨a,b⟩:=XY c;refine⟨?_,?_,?_⟩
 . grind[ER]
 . rw[ER,CS,a,Bool.and_true,Am];intro x d;rw[(List.mem_replicate.1 d).2];rfl
 . rw[ER,OU,b]
def JH:Ta->List UInt8
 |[]=>[]
 |[c]=>Lib.decDigits c
 |c::cs=>JH cs++ER c
theorem K9:∀(cs:Ta),cs≠[]->B7 DN cs->(JH cs).all DC=true/\num (JH cs)=val DN cs
 |[c],_,_=>by
  grind[XY,JH,val]
 |c::d::cs,_,a=>by
  have e:c<DN:=a c A7;obtain⟨f,g⟩:=K9 (d::cs) B5 λx b=>a x (List.mem_cons_of_mem _ b);grind[K8,JH,Xb,JQ,K5]
theorem LA:∀(cs:Ta),cs≠[]->Dg cs->(∃c t,JH cs=c::t/\c≠48)
 |[c],_,a=>K7 (by
  intro e;subst e;simp[Dg,Jq]at a)
 |c::d::cs,_,a=>by
  have b:Dg (d::cs):=by
   unfold Dg at a ⊢;rw[Jq]at a;generalize Jq (d::cs)=l at a ⊢;cases l with
   |nil=>grind
   |cons e f=>grind
  obtain⟨x,t,e,g⟩:=LA (d::cs) B5 b;grind[JH]
theorem OV{cs:Ta}(a:cs≠[])(b:B7 DN cs)(c:Dg cs):JH cs=J8 (val DN cs):=by
 grind[K9,LA,Hh]
