import Derived.Test.YtcahodpphikgnaaGreatDoorW01
import Derived.Lib.ItoaNum
set_option linter.all false
set_option maxRecDepth 99999
set_option maxHeartbeats 0
namespace Go.Proofs.YtcahodpphikgnaaGreatDoor
def Br:Nat:=10000000000000000000
theorem Eu:Br=10^19:=by decide
def Ev{d:Nat}(h:d<10):Bu (CS d)=true:=by
 have:=Yj h;simp[Bu];omega
theorem XC(u:Nat):(Lib.decDigits u).all Bu=true∧num (Lib.decDigits u)=u:=by
 induction u using Nat.strongRecOn with
 |_ u ih=>
  rw[Lib.decDigits];by_cases h:u<10
  · rw[dif_pos h];refine⟨by simpa[CS]using Ev h,?_⟩;simp[num,B5,val];omega
  · rw[dif_neg h];obtain⟨h1,h2⟩:=ih (u/10) (by omega);have hm:u%10<10:=AH _ (by omega);refine⟨by rw[CC,h1];simpa[CS]using Ev hm,?_⟩;have:=Yj hm;grind[EZ,CS]
def Gw{u:Nat}(h0:u≠0):∃c t,Lib.decDigits u=c::t∧c≠48:=by
 induction u using Nat.strongRecOn with
 |_ u ih=>
  rw[Lib.decDigits];by_cases h:u<10
  · rw[dif_pos h];refine⟨_,_,J,fun e=>?_⟩;have:=Yj h;rw[show UInt8.ofNat (48+u)=CS u from J]at e;rw[e]at this;simp at this;omega
  · rw[dif_neg h];obtain⟨c,t,e,hc⟩:=ih (u/10) (by omega) (by omega);grind
def XN(c:Nat):List UInt8:=List.replicate (19-(Lib.decDigits c).length) 48++Lib.decDigits c
def Gx(n:Nat)(l:List UInt8):num (List.replicate n 48++l)=num l:=by
 have h:num (List.replicate n (48:UInt8))=0:=by
  induction n with
  |zero=>rfl
  |succ n ih=>rw[List.replicate_succ',EZ,ih];rfl
 rw[YZ,h];omega
def Yc{c:Nat}(h:c<Br):(Lib.decDigits c).length≤19:=by
 rw[Lib.decDigits_length];rcases AR (Lib.nDigits c) 20 with h'|h'
 · omega
 · exfalso
   by_cases hc:c<10
   · rw[Lib.nDigits_small hc]at h';omega
   · have key:∀(k u:Nat),u<10^(k+1)→Lib.nDigits u≤k+1:=by
      intro k;induction k with
      |zero=>intro u hu;rw[Lib.nDigits_small (by simpa using hu)];omega
      |succ k ih=>
       intro u hu;grind[Lib.nDigits_big]
     have:=key 18 c (by rw[Eu]at h;exact h);omega
theorem Ew{c:Nat}(h:c<Br):(XN c).length=19∧(XN c).all Bu=true∧num (XN c)=c:=by
 have hl:=Yc h;obtain⟨h1,h2⟩:=XC c;refine⟨?_,?_,?_⟩
 · grind[XN]
 · rw[XN,CC,h1,Bool.and_true,AJ];intro x hx;rw[(List.mem_replicate.1 hx).2];rfl
 · rw[XN,Gx,h2]
def Jt:Y→List UInt8
 |[]=>[]
 |[c]=>Lib.decDigits c
 |c::cs=>Jt cs++XN c
theorem Xf:∀(cs:Y),cs≠[]→Bn Br cs→(Jt cs).all Bu=true∧num (Jt cs)=val Br cs
 |[c],_,_=>by
  grind[XC,Jt,val]
 |c::d::cs,_,hd=>by
  have hc:c<Br:=hd c Cs;obtain⟨i1,i2⟩:=Xf (d::cs) (by simp) (fun x hx=>hd x (List.mem_cons_of_mem _ hx));grind[Ew,Jt,YZ,JB,Eu]
theorem Xg:∀(cs:Y),cs≠[]→CQ cs→(∃c t,Jt cs=c::t∧c≠48)
 |[c],_,ht=>Gw (by
  intro e;subst e;simp[CQ,Jr]at ht)
 |c::d::cs,_,ht=>by
  have ht':CQ (d::cs):=by
   unfold CQ at ht ⊢;rw[Jr]at ht;generalize Jr (d::cs)=l at ht ⊢;cases l with
   |nil=>grind
   |cons e es=>grind
  obtain⟨x,t,e,hx⟩:=Xg (d::cs) (by simp) ht';grind[Jt]
def Gy{cs:Y}(h0:cs≠[])(hd:Bn Br cs)(ht:CQ cs):Jt cs=JE (val Br cs):=by
 grind[Xf,Xg,Eb]
