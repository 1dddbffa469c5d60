import Derived.Test.YthnpdhlepglmlaaGreatDoorW18
set_option linter.all false
set_option maxRecDepth 99999
set_option maxHeartbeats 0
namespace Go.Proofs.YthnpdhlepglmlaaGreatDoor
section
def Do:Nat:=10000000000000000000
variable{c:Nat}
theorem Te:Do=10^19:=DJ
def Tf{d:Nat}(h:d<10):DW (Hl d)=true:=by
 have:=Kd h;simp[DW];omega
theorem Tg(u:Nat):(Lib.decDigits u).all DW=true/\num (Lib.decDigits u)=u:=by
 induction u using Nat.strongRecOn with
 |_ u c=>
  rw[Lib.decDigits];by_cases h:u<10
  . rw[dif_pos h];refine⟨by simpa[Hl]using Tf h,?_⟩;simp[num,D9,val];omega
  . rw[dif_neg h];obtain⟨b,d⟩:=c (u/10) O;have a:u%10<10:=Cm _ O;refine⟨by rw[Fm,b];simpa[Hl]using Tf a,?_⟩;have:=Kd a;grind[Pb,Hl]
theorem ej{u:Nat}(b:u≠0):∃c t,Lib.decDigits u=c::t/\c≠48:=by
 induction u using Nat.strongRecOn with
 |_ u a=>
  rw[Lib.decDigits];by_cases h:u<10
  . rw[dif_pos h];refine⟨_,_,J,λe=>?_⟩;have:=Kd h;rw[show UInt8.ofNat (48+u)=Hl u from J]at e;rw[e]at this;simp at this;omega
  . rw[dif_neg h];obtain⟨c,t,e,d⟩:=a (u/10) O O;grind
def Id(c:Nat):List UInt8:=List.replicate (19-(Lib.decDigits c).length) 48++Lib.decDigits c
def eo(n:Nat)(l:List UInt8):num (List.replicate n 48++l)=num l:=by
 have h:num (List.replicate n (48:UInt8))=0:=by
  induction n with
  |zero=>rfl
  |succ n a=>rw[List.replicate_succ',Pb,a];rfl
 rw[L4,h];omega
theorem Nh(h:c<Do):(Lib.decDigits c).length<=19:=by
 rw[Lib.decDigits_length];rcases A5 (Lib.nDigits c) 20 with a|a
 . omega
 . exfalso
   by_cases d:c<10
   . rw[Lib.nDigits_small d]at a;omega
   . have key:∀(k u:Nat),u<10^(k+1)->Lib.nDigits u<=k+1:=by
      intro k;induction k with
      |zero=>intro u b;rw[Lib.nDigits_small (by simpa using b)];omega
      |succ k e=>
       intro u b;grind[Lib.nDigits_big]
     have:=key 18 c (by rw[Te]at h;exact h);omega
theorem Th(h:c<Do):(Id c).length=19/\(Id c).all DW=true/\num (Id c)=c:=by
 have hl:=Nh h;obtain⟨a,b⟩:=Tg c;refine⟨?_,?_,?_⟩
 . grind[Id]
 . rw[Id,Fm,a,Bool.and_true,AM];intro x d;rw[(List.mem_replicate.1 d).2];rfl
 . rw[Id,eo,b]
def J8:List Nat->List UInt8
 |[]=>[]
 |[c]=>Lib.decDigits c
 |c::cs=>J8 cs++Id c
theorem Ti:∀(cs:List Nat),cs≠[]->DN Do cs->(J8 cs).all DW=true/\num (J8 cs)=val Do cs
 |[c],_,_=>by
  grind[Tg,J8,val]
 |c::d::cs,_,a=>by
  have e:c<Do:=a c Ao;obtain⟨f,g⟩:=Ti (d::cs) DH λx b=>a x (AA _ b);grind[Th,J8,L4,YA,Te]
theorem Tj:∀(cs:List Nat),cs≠[]->Gu cs->(∃c t,J8 cs=c::t/\c≠48)
 |[c],_,a=>ej (by
  intro e;subst e;simp[Gu,J5]at a)
 |c::d::cs,_,a=>by
  have b:Gu (d::cs):=by
   unfold Gu at a ⊢;rw[J5]at a;generalize J5 (d::cs)=l at a ⊢;cases l with
   |nil=>grind
   |cons e es=>grind
  obtain⟨x,t,e,f⟩:=Tj (d::cs) DH b;grind[J8]
theorem ez{cs:List Nat}(a:cs≠[])(b:DN Do cs)(c:Gu cs):J8 cs=YW (val Do cs):=by
 grind[Ti,Tj,TP]
end
open Go.RowKit Go.Shelf
theorem UP:∀(ds:List Nat),ds.take (J5 ds).length=J5 ds
 |[]=>rfl
 |d::ds=>by
  have a:=UP ds;grind[J5]
variable{cs:List Nat}{a n:Nat}
theorem Hp:2<=Do:=by unfold Do;omega
def UQ:Do<Y:=by unfold Do Y;omega
theorem GL.chunk{zs:List Nat}{l rest:Nat}{q:List Nat}(h:GL zs l Do l rest q)(e:zs.take l=Jh Y n):
 rest=n%Do/\J5 q=Jh Y (n/Do):=by
 obtain⟨a,b,c,d⟩:=h;grind[Y,Jz,Nat.add_mul_div_right,Cl,Nat.add_mul_mod_self_right,Cr,YO]
def GM(a:Nat)(cs:List Nat)(n:Nat):Prop:=cs++Jh Do n=Jh Do a
def GM.start(a:Nat):GM a [] a:=rfl
theorem GM.step(h:GM a cs n)(hn:n≠0):GM a (cs++[n%Do]) (n/Do):=by
 grind[GM,I9,Hp]
theorem GM.done(h:GM a cs 0):cs=Jh Do a:=by
 grind[GM,JW]
def GM.length{a:Nat}{cs:List Nat}{n:Nat}(h:GM a cs n):cs.length<=(Jh Do a).length:=by
 rw[<-h,AD];omega
def UR{len:Nat}(h:(Jh Y n).length<=len):(Jh Do n).length<=2*len:=by
 refine Yi Hp ?_;have a:2<=Y:=by unfold Y;omega
 have c:n<Y^(Jh Y n).length:=by
  have:=YY (JA a n);rwa[Jz a]at this
 have d:Y^(Jh Y n).length<=Y^len:=Aq O h;have b:Y^len<=(Do^2)^len:=Cy (by unfold Y Do;decide) len;rw[<-C5]at b;omega
def iQ(h:n≠0):J8 (Jh Do n)=YW n:=by
 have hv:=Jz Hp n;rw[ez ?_ (JA Hp n) (Jx Hp n),hv];intro e;rw[e]at hv;exact h hv.symm
