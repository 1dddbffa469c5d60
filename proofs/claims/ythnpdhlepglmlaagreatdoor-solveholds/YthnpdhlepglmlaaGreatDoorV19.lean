import Derived.Test.YthnpdhlepglmlaaGreatDoorV18
set_option linter.all false
set_option maxRecDepth 99999
set_option maxHeartbeats 0
namespace Go.Proofs.YthnpdhlepglmlaaGreatDoor
section
def Dr:Nat:=10000000000000000000
variable{c:Nat}
theorem UT:Dr=10^19:=DK
def UU{d:Nat}(h:d<10):DX (IL d)=true:=by
 have:=K6 h;simp[DX];omega
theorem UV(u:Nat):(Lib.decDigits u).all DX=true/\num (Lib.decDigits u)=u:=by
 induction u using Nat.strongRecOn with
 |_ u c=>
  rw[Lib.decDigits];by_cases h:u<10
  . rw[dif_pos h];refine⟨by simpa[IL]using UU h,?_⟩;simp[num,D5,val];omega
  . rw[dif_neg h];obtain⟨b,d⟩:=c (u/10) O;have a:u%10<10:=CC _ O;refine⟨by rw[FN,b];simpa[IL]using UU a,?_⟩;have:=K6 a;grind[QM,IL]
theorem gP{u:Nat}(b:u≠0):∃c t,Lib.decDigits u=c::t/\c≠48:=by
 induction u using Nat.strongRecOn with
 |_ u a=>
  rw[Lib.decDigits];by_cases h:u<10
  . rw[dif_pos h];refine⟨_,_,J,λe=>?_⟩;have:=K6 h;rw[show UInt8.ofNat (48+u)=IL u from J]at e;rw[e]at this;simp at this;omega
  . rw[dif_neg h];obtain⟨c,t,e,d⟩:=a (u/10) O O;grind
def Jx(c:Nat):List UInt8:=List.replicate (19-(Lib.decDigits c).length) 48++Lib.decDigits c
def gS(n:Nat)(l:List UInt8):num (List.replicate n 48++l)=num l:=by
 have h:num (List.replicate n (48:UInt8))=0:=by
  induction n with
  |zero=>rfl
  |succ n a=>rw[List.replicate_succ',QM,a];rfl
 rw[MZ,h];omega
theorem OM(h:c<Dr):(Lib.decDigits c).length<=19:=by
 rw[Lib.decDigits_length];rcases Ca (Lib.nDigits c) 20 with a|a
 . omega
 . exfalso
   by_cases d:c<10
   . rw[Lib.nDigits_small d]at a;omega
   . have key:∀(k u:Nat),u<10^(k+1)->Lib.nDigits u<=k+1:=by
      intro k;induction k with
      |zero=>intro u b;rw[Lib.nDigits_small (by simpa using b)];omega
      |succ k e=>
       intro u b;grind[Lib.nDigits_big]
     have:=key 18 c (by rw[UT]at h;exact h);omega
theorem UW(h:c<Dr):(Jx c).length=19/\(Jx c).all DX=true/\num (Jx c)=c:=by
 have hl:=OM h;obtain⟨a,b⟩:=UV c;refine⟨?_,?_,?_⟩
 . grind[Jx]
 . rw[Jx,FN,a,Bool.and_true,AZ];intro x d;rw[(List.mem_replicate.1 d).2];rfl
 . rw[Jx,gS,b]
def J8:m0->List UInt8
 |[]=>[]
 |[c]=>Lib.decDigits c
 |c::cs=>J8 cs++Jx c
theorem UX:∀(cs:m0),cs≠[]->DO Dr cs->(J8 cs).all DX=true/\num (J8 cs)=val Dr cs
 |[c],_,_=>by
  grind[UV,J8,val]
 |c::d::cs,_,a=>by
  have e:c<Dr:=a c Au;obtain⟨f,g⟩:=UX (d::cs) DI λx b=>a x (AP _ b);grind[UW,J8,MZ,YB,UT]
theorem UY:∀(cs:m0),cs≠[]->Hq cs->(∃c t,J8 cs=c::t/\c≠48)
 |[c],_,a=>gP (by
  intro e;subst e;simp[Hq,J4]at a)
 |c::d::cs,_,a=>by
  have b:Hq (d::cs):=by
   unfold Hq at a ⊢;rw[J4]at a;generalize J4 (d::cs)=l at a ⊢;cases l with
   |nil=>grind
   |cons e es=>grind
  obtain⟨x,t,e,f⟩:=UY (d::cs) DI b;grind[J8]
theorem gT{cs:m0}(a:cs≠[])(b:DO Dr cs)(c:Hq cs):J8 cs=YJ (val Dr cs):=by
 grind[UX,UY,UD]
end
open Go.RowKit Go.Shelf
theorem VW:∀(ds:m0),ds.take (J4 ds).length=J4 ds
 |[]=>rfl
 |d::ds=>by
  have a:=VW ds;grind[J4]
variable{cs:m0}{n n0:Nat}
theorem IQ:2<=Dr:=by unfold Dr;omega
def VX:Dr<Y:=by unfold Dr Y;omega
theorem Gm.chunk{zs:m0}{l rest:Nat}{q:m0}(h:Gm zs l Dr l rest q)(e:zs.take l=Jh Y n):
 rest=n%Dr/\J4 q=Jh Y (n/Dr):=by
 obtain⟨a,b,c,d⟩:=h;grind[Y,Jz,Nat.add_mul_div_right,CB,Nat.add_mul_mod_self_right,CH,YN]
def Gn(n0:Nat)(cs:m0)(n:Nat):Prop:=cs++Jh Dr n=Jh Dr n0
def Gn.start(n0:Nat):Gn n0 [] n0:=rfl
theorem Gn.step(h:Gn n0 cs n)(hn:n≠0):Gn n0 (cs++[n%Dr]) (n/Dr):=by
 grind[Gn,Ka,IQ]
theorem Gn.done(h:Gn n0 cs 0):cs=Jh Dr n0:=by
 grind[Gn,JV]
def Gn.length{n0:Nat}{cs:m0}{n:Nat}(h:Gn n0 cs n):cs.length<=(Jh Dr n0).length:=by
 rw[<-h,AM];omega
def VY{len:Nat}(h:(Jh Y n).length<=len):(Jh Dr n).length<=2*len:=by
 refine Yh IQ ?_;have a:2<=Y:=by unfold Y;omega
 have c:n<Y^(Jh Y n).length:=by
  have:=YZ (JA a n);rwa[Jz a]at this
 have d:Y^(Jh Y n).length<=Y^len:=AB O h;have b:Y^len<=(Dr^2)^len:=CP (by unfold Y Dr;decide) len;rw[<-Fv]at b;omega
def kI(h:n≠0):J8 (Jh Dr n)=YJ n:=by
 have hv:=Jz IQ n;rw[gT ?_ (JA IQ n) (Kb IQ n),hv];intro e;rw[e]at hv;exact h hv.symm
