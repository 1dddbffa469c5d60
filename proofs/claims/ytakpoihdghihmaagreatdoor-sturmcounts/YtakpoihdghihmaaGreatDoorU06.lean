import Derived.Test.YtakpoihdghihmaaGreatDoorU04
import Derived.Test.YtakpoihdghihmaaGreatDoorU05
set_option linter.all false
set_option maxRecDepth 99999
set_option maxHeartbeats 0
namespace Go.Proofs.YtakpoihdghihmaaGreatDoor
open Rat renaming divInt->nM
open Go.RowKit Go.Shelf
def Sm(k:Nat)(z:Int):Prop:=z.natAbs<Z^k
variable{d n x y z:Int}{k m:Nat}{p q:Rat}
theorem Hv:0<Z:=by unfold Z;omega
def Sm.mono(h:Sm k z)(a:k<=m):Sm m z:=Aw h (Ak Hv a)
def Sm.le(h:Sm k x)(a:z.natAbs<=x.natAbs):Sm k z:=Cx a h
def Sm.neg(h:Sm k z):Sm k (-z):=by unfold Sm at *;rwa[FM]
theorem Sm.mul(a:Sm k x)(b:Sm m y):Sm (k+m) (x*y):=by
 grind[Sm,Cu,Nat.mul_lt_mul_of_lt_of_le]
theorem Sm.add(a:Sm k x)(b:Sm k y):Sm (k+1) (x+y):=by
 grind[Sm,Z]
def Sm.div(a:Sm k x):Sm k (x/y):=a.le (Int.natAbs_ediv_le_natAbs x y)
def Sm.gcd{k:Nat}{x y:Int}(b:Sm k x)(c:Sm k y):Sm k ((Int.gcd x y:Nat):Int):=by
 by_cases a:x=0
 . refine c.le ?_;rw[a,AA,Int.gcd,Int.natAbs_zero,Nat.gcd_zero_left];exact Aa _
 . refine b.le ?_;rw[AA];exact Nat.gcd_le_left _ O
def Sm.words(h:Sm k z):(Jd Z z.natAbs).length<=k:=YK Jg h
def Sm.size(h:Sm k z):D3 z<=5*k:=by
 unfold D3;refine YK O (Aw h ?_);rw[Nat.pow_mul];exact CM (by unfold Z;decide) k
def Sm.of_words(h:(Jd Z z.natAbs).length<=k):Sm k z:=by
 have a:=Yw (Jr Jg z.natAbs);rw[Jq Jg]at a;exact Aw a (Ak Hv h)
theorem Sm.good{l:List UInt8}(h:good l=true):Sm 2000 (Xi l):=Sm.of_words (WZ h uo)
theorem Sm.one(k:Nat)(a:1<=k):Sm k 1:=by
 have:Sm 1 1:=by unfold Sm Z;decide
 exact this.mono a
theorem Sm.zero(k:Nat):Sm k 0:=CW Hv
structure Sok(z:Int):Prop where
 sm:Sm 10000000000 z
theorem Sok.of(h:Sm k z)(a:k<=10000000000):Sok z:=⟨h.mono a⟩
def Sok.words{z:Int}(h:Sok z):(Jd Z z.natAbs).length<=10000000000:=h.sm.words
def Sok.size{z:Int}(h:Sok z):D3 z<=50000000000:=by have:=h.sm.size;omega
def Sok.gcd{x y:Int}(a:Sok x)(b:Sok y):Sok ((Int.gcd x y:Nat):Int):=Sok.of (a.sm.gcd b.sm) (Aa _)
def Sok.neg{x:Int}(a:Sok x):Sok (-x):=Sok.of a.sm.neg (Aa _)
def Sok.div{x y:Int}(a:Sok x):Sok (x/y):=Sok.of a.sm.div (Aa _)
def Sok.le{x z:Int}(a:Sok x)(h:z.natAbs<=x.natAbs):Sok z:=Sok.of (a.sm.le h) (Aa _)
theorem Sok.zero:Sok 0:=Sok.of (Sm.zero 1) O
theorem Sok.one:Sok 1:=Sok.of (Sm.one 1 O) O
def DP(k:Nat)(q:Rat):Prop:=Sm k q.num/\Sm k q.den
def DP.mono{k m:Nat}{q:Rat}(h:DP k q)(a:k<=m):DP m q:=⟨h.1.mono a,h.2.mono a⟩
theorem ZT(n d:Int)(a:d≠0):(nM n d).num.natAbs<=n.natAbs/\(nM n d).den<=d.natAbs:=by
 rw[Rat.num_divInt,Rat.den_divInt,BD a];refine⟨?_,Fw _ _⟩;grind[Int.natAbs_ediv_le_natAbs]
theorem DP.divInt{k:Nat}{n d:Int}(a:d≠0)(c:Sm k n)(b:Sm k d):DP k (nM n d):=by
 have h:=ZT n d a;exact⟨c.le h.1,b.le O⟩
def denZ(q:Rat):Int:=if q.den=1 then 0 else q.den
def Mc:denZ q=0↔q.den=1:=by
 unfold denZ;have:=q.den_pos;split<;>omega
theorem ZU{a b:Int}(c:b≠0):b.sign*a/(Int.gcd b a:Nat)=a/(if b<0 then -((Int.gcd a b:Nat):Int)else((Int.gcd a b:Nat):Int)):=by
 grind[Int.gcd_comm,Int.ediv_neg,Int.neg_ediv_of_dvd,Int.gcd_dvd_left]
def Md(a:d≠0):(nM n d).num=n/(if d<0 then -((Int.gcd n d:Nat):Int)else((Int.gcd n d:Nat):Int)):=by
 rw[Rat.num_divInt,ZU a]
theorem Me(a:d≠0):((nM n d).den:Int)=d/(if d<0 then -((Int.gcd n d:Nat):Int)else((Int.gcd n d:Nat):Int)):=by
 grind[Rat.den_divInt,Int.gcd_comm,Int.ediv_neg,Int.neg_ediv_of_dvd,Int.gcd_dvd_right]
theorem ZV(p q:Rat)(g l r a b:Int)(hg:g=(Int.gcd p.den q.den:Nat))(hl:l=p.den/g)(n:r=q.den/g)(j:a=p.num*r+q.num*l)(k:b=(Int.gcd a g:Nat)):
 (p+q).num=a/b/\((p+q).den:Int)=l*(q.den/b):=by
 have i:Int.gcd p.den q.den=p.den.gcd q.den:=rfl;rw[i]at hg;have f:p.den.gcd q.den≠0:=Nat.gcd_ne_zero_left p.den_nz;have m:l=((p.den/p.den.gcd q.den:Nat):Int):=by rw[hl,hg];simp
 have o:r=((q.den/p.den.gcd q.den:Nat):Int):=by rw[n,hg];simp
 have c:=Rat.add.aux p q J J J;dsimp only at c;have e:a=p.num*((q.den/p.den.gcd q.den:Nat):Int)+q.num*((p.den/p.den.gcd q.den:Nat):Int):=by rw[j,m,o]
 rw[<-e]at c;have s:b=((a.natAbs.gcd (p.den/p.den.gcd q.den*q.den):Nat):Int):=by rw[k,<-c,hg];rfl
 have d:p.den/p.den.gcd q.den*q.den≠0:=Fqq (by have:=Nat.div_gcd_pos_of_pos_left q.den p.den_pos;omega) q.den_nz;have t:p+q=Rat.normalize a (p.den/p.den.gcd q.den*q.den) d:=by
  rw[Rat.add_def,<-Rat.normalize_mul_right d f];congr 1
  . rw[e];simp only[Int.add_mul,FQ,Int.ofNat_mul_ofNat,
     Nat.div_mul_cancel (Fo ..),Nat.div_mul_cancel (CY ..)]
  . grind[Nat.div_mul_cancel,Fo]
 grind[Nat.dvd_trans,CY,Rat.num_normalize,Rat.den_normalize,Nat.mul_div_assoc]
def ZW(p q:Rat)(a up:Int)(b:a=(Int.gcd p.num q.den:Nat))(c:up=(Int.gcd q.num p.den:Nat)):
 (p*q).num=p.num/a*(q.num/up)/\((p*q).den:Int)=p.den/up*(q.den/a):=by
 have h:p*q=Rat.mul p q:=rfl;rw[h];delta Rat.mul
 subst b c;refine⟨?_,?_⟩
 . show Int.divExact _ _ _*Int.divExact _ _ _=_;rw[Int.divExact_eq_ediv,Int.divExact_eq_ediv];rfl
 . show((Nat.divExact _ _ _*Nat.divExact _ _ _:Nat):Int)=_;rw[Nat.divExact_eq_div,Nat.divExact_eq_div];simp[Int.gcd]
theorem Oe(p q:Rat):nM (p.num*q.den) (p.den*q.num)=p/q:=by
 grind[Rat.inv_def,CT,CQ]
theorem Of(p q:Rat):nM (p.num*q.num) (p.den*q.den)=p*q:=by
 grind[CT,CQ]
def Og(p q:Rat):nM (p.num*q.den+q.num*p.den) (p.den*q.den)=p+q:=by
 conv=>rhs;rw[<-CT p,<-CT q]
 rw[FI _ _ (by have:=p.den_nz;omega) (by have:=q.den_nz;omega)]
def DP.add{k:Nat}{p q:Rat}(hp:DP k p)(hq:DP k q):DP (k+k+1) (p+q):=by
 rw[<-Og];refine DP.divInt ?_ ((hp.1.mul hq.2).add (hq.1.mul hp.2)) ((hp.2.mul hq.2).mono O);exact AV (by have:=p.den_nz;omega) (by have:=q.den_nz;omega)
def DP.mul{k:Nat}{p q:Rat}(hp:DP k p)(hq:DP k q):DP (k+k) (p*q):=by
 rw[<-Of];refine DP.divInt ?_ (hp.1.mul hq.1) (hp.2.mul hq.2);exact AV (by have:=p.den_nz;omega) (by have:=q.den_nz;omega)
def DP.over(hp:DP k p)(hq:DP k q)(a:q≠0):DP (k+k) (p/q):=by
 rw[<-Oe];refine DP.divInt ?_ (hp.1.mul hq.2) (hp.2.mul hq.1);exact AV (by have:=p.den_nz;omega) λh=>a (C4.1 h)
def DP.neg{k:Nat}{q:Rat}(h:DP k q):DP k (-q):=⟨h.1.neg,h.2⟩
def DP.denZ{k:Nat}{q:Rat}(h:DP k q):Sm k (denZ q):=by
 unfold Go.Proofs.YtakpoihdghihmaaGreatDoor.denZ;split
 . exact Sm.zero k
 . exact h.2
structure Sq(q:Rat):Prop where
 sm:DP 1000000000 q
theorem Sq.of(h:DP k q)(a:k<=1000000000):Sq q:=⟨h.mono a⟩
theorem Sq.num{q:Rat}(h:Sq q):Sok q.num:=Sok.of h.sm.1 O
def Sq.den{q:Rat}(h:Sq q):Sok (q.den:Int):=Sok.of h.sm.2 O
def Sq.neg{q:Rat}(h:Sq q):Sq (-q):=Sq.of h.sm.neg (Aa _)
def Sq.mulN(hp:Sq p)(hq:Sq q):Sok (p.num*q.num):=Sok.of (hp.sm.1.mul hq.sm.1) O
def Sq.mulD(hp:Sq p)(hq:Sq q):Sok ((p.den:Int)*q.den):=Sok.of (hp.sm.2.mul hq.sm.2) O
def Sq.cross(hp:Sq p)(hq:Sq q):Sok (p.num*q.den):=Sok.of (hp.sm.1.mul hq.sm.2) O
def Sq.cross2(hp:Sq p)(hq:Sq q):Sok ((p.den:Int)*q.num):=Sok.of (hp.sm.2.mul hq.sm.1) O
theorem Sq.sumN(hp:Sq p)(hq:Sq q):Sok (p.num*q.den+q.num*p.den):=Sok.of ((hp.sm.1.mul hq.sm.2).add (hq.sm.1.mul hp.sm.2)) O
