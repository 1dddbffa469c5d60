import Derived.Test.YtcahejkcdcjjgaaGreatDoorT02
import Derived.Lib.ItoaNum
set_option linter.all false
set_option maxRecDepth 99999
set_option maxHeartbeats 0
namespace Go.Proofs.YtcahejkcdcjjgaaGreatDoor
def DS:Nat:=10000000000000000000
variable{c:Nat}
theorem Ks:DS=10^19:=DG
def Kt{d:Nat}(h:d<10):DI (Dm d)=true:=by
 have:=Y5 h;simp[DI];omega
theorem XU(u:Nat):(Lib.decDigits u).all DI=true/\num (Lib.decDigits u)=u:=by
 induction u using Nat.strongRecOn with
 |_ u c=>
  rw[Lib.decDigits];by_cases h:u<10
  . rw[dif_pos h];refine⟨by simpa[Dm]using Kt h,?_⟩;simp[num,DV,val];omega
  . rw[dif_neg h];obtain⟨b,d⟩:=c (u/10) Y;have a:u%10<10:=AJ _ Y;refine⟨by rw[CR,b];simpa[Dm]using Kt a,?_⟩;have:=Y5 a;grind[Gx,Dm]
theorem Ku{u:Nat}(b:u≠0):∃c t,Lib.decDigits u=c::t/\c≠48:=by
 induction u using Nat.strongRecOn with
 |_ u a=>
  rw[Lib.decDigits];by_cases h:u<10
  . rw[dif_pos h];refine⟨_,_,J,λe=>?_⟩;have:=Y5 h;rw[show UInt8.ofNat (48+u)=Dm u from J]at e;rw[e]at this;simp at this;omega
  . rw[dif_neg h];obtain⟨c,t,e,d⟩:=a (u/10) Y Y;grind
theorem OD(u:Nat):Lib.decDigits u=Yz u:=by
 by_cases a:u=0
 . subst a;rw[Lib.decDigits,dif_pos Y];rfl
 . obtain⟨c,t,e,b⟩:=Ku a;grind[XU,Gy]
def ES(c:Nat):List UInt8:=List.replicate (19-(Lib.decDigits c).length) 48++Lib.decDigits c
def OE(n:Nat)(l:List UInt8):num (List.replicate n 48++l)=num l:=by
 have h:num (List.replicate n (48:UInt8))=0:=by
  induction n with
  |zero=>rfl
  |succ n a=>rw[List.replicate_succ',Gx,a];rfl
 rw[Y6,h];omega
theorem YU(h:c<DS):(Lib.decDigits c).length<=19:=by
 rw[Lib.decDigits_length];rcases AH (Lib.nDigits c) 20 with a|a
 . omega
 . exfalso
   by_cases d:c<10
   . rw[Lib.nDigits_small d]at a;omega
   . have e:∀(k u:Nat),u<10^(k+1)->Lib.nDigits u<=k+1:=by
      intro k;induction k with
      |zero=>intro u b;rw[Lib.nDigits_small (by simpa using b)];omega
      |succ k f=>
       intro u b;grind[Lib.nDigits_big]
     have:=e 18 c (by rw[Ks]at h;exact h);omega
theorem Kv(h:c<DS):(ES c).length=19/\(ES c).all DI=true/\num (ES c)=c:=by
 have hl:=YU h;obtain⟨a,b⟩:=XU c;refine⟨?_,?_,?_⟩
 . grind[ES]
 . rw[ES,CR,a,Bool.and_true,Ay];intro x d;rw[(List.mem_replicate.1 d).2];rfl
 . rw[ES,OE,b]
def JG:Ja->List UInt8
 |[]=>[]
 |[c]=>Lib.decDigits c
 |c::cs=>JG cs++ES c
theorem Kw:∀(cs:Ja),cs≠[]->DA DS cs->(JG cs).all DI=true/\num (JG cs)=val DS cs
 |[c],_,_=>by
  grind[XU,JG,val]
 |c::d::cs,_,a=>by
  have e:c<DS:=a c Cr;obtain⟨f,g⟩:=Kw (d::cs) C9 λx b=>a x (List.mem_cons_of_mem _ b);grind[Kv,JG,Y6,JQ,Ks]
theorem Kx:∀(cs:Ja),cs≠[]->Dl cs->(∃c t,JG cs=c::t/\c≠48)
 |[c],_,a=>Ku (by
  intro e;subst e;simp[Dl,Jq]at a)
 |c::d::cs,_,a=>by
  have b:Dl (d::cs):=by
   unfold Dl at a ⊢;rw[Jq]at a;generalize Jq (d::cs)=l at a ⊢;cases l with
   |nil=>grind
   |cons e f=>grind
  obtain⟨x,t,e,g⟩:=Kx (d::cs) C9 b;grind[JG]
theorem OG{cs:Ja}(a:cs≠[])(b:DA DS cs)(c:Dl cs):JG cs=Yz (val DS cs):=by
 grind[Kw,Kx,Gy]
