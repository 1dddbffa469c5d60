import Derived.Test.YtcahodpphikgnaaGreatDoorV03
import Derived.Test.YtcahodpphikgnaaGreatDoorV04
set_option linter.all false
set_option maxRecDepth 99999
set_option maxHeartbeats 0
namespace Go.Proofs.YtcahodpphikgnaaGreatDoor
open Rat renaming divInt->OB
open Go.RowKit Go.Shelf
def Sm(k:Nat)(z:Int):Prop:=z.natAbs<O^k
variable{d n x y z:Int}{k m:Nat}{p q:Rat}
def FU:0<O:=by unfold O;omega
def Sm.mono(h:Sm k z)(a:k<=m):Sm m z:=Ao h (Al FU a)
def Sm.le(h:Sm k x)(a:z.natAbs<=x.natAbs):Sm k z:=Nat.lt_of_le_of_lt a h
def Sm.neg(h:Sm k z):Sm k (-z):=by unfold Sm at *;rwa[CU]
theorem Sm.mul(a:Sm k x)(b:Sm m y):Sm (k+m) (x*y):=by
 grind[Sm,Int.natAbs_mul,Nat.mul_lt_mul_of_lt_of_le]
theorem Sm.add(a:Sm k x)(b:Sm k y):Sm (k+1) (x+y):=by
 grind[Sm,O]
def Sm.div(a:Sm k x):Sm k (x/y):=a.le (Int.natAbs_ediv_le_natAbs x y)
def Sm.gcd{k:Nat}{x y:Int}(b:Sm k x)(c:Sm k y):Sm k ((Int.gcd x y:Nat):Int):=by
 by_cases a:x=0
 . refine c.le ?_;rw[a,Cd,Int.gcd,Int.natAbs_zero,Nat.gcd_zero_left];exact Aa _
 . refine b.le ?_;rw[Cd];exact Nat.gcd_le_left _ Y
def Sm.words(h:Sm k z):(Jb O z.natAbs).length<=k:=JG Jc h
def Sm.size(h:Sm k z):C8 z<=5*k:=by
 unfold C8;refine JG Y (Ao h ?_);rw[Nat.pow_mul];exact CA (by unfold O;decide) k
def Sm.of_words(h:(Jb O z.natAbs).length<=k):Sm k z:=by
 have a:=JL (Jf Jc z.natAbs);rw[Je Jc]at a;exact Ao a (Al FU h)
theorem Sm.good{l:List UInt8}(h:good l=true):Sm 2000 (JW l):=Sm.of_words (KE h uo)
def Sm.one(k:Nat)(a:1<=k):Sm k 1:=by
 have:Sm 1 1:=by unfold Sm O;decide
 exact this.mono a
theorem Sm.zero(k:Nat):Sm k 0:=CT FU
structure Sok(z:Int):Prop where
 sm:Sm 10000000000 z
theorem Sok.of(h:Sm k z)(a:k<=10000000000):Sok z:=⟨h.mono a⟩
def Sok.words{z:Int}(h:Sok z):(Jb O z.natAbs).length<=10000000000:=h.sm.words
def Sok.size{z:Int}(h:Sok z):C8 z<=50000000000:=by have:=h.sm.size;omega
def Sok.gcd{x y:Int}(a:Sok x)(b:Sok y):Sok ((Int.gcd x y:Nat):Int):=Sok.of (a.sm.gcd b.sm) (Aa _)
def Sok.neg{x:Int}(a:Sok x):Sok (-x):=Sok.of a.sm.neg (Aa _)
def Sok.div{x y:Int}(a:Sok x):Sok (x/y):=Sok.of a.sm.div (Aa _)
theorem Sok.zero:Sok 0:=Sok.of (Sm.zero 1) Y
def C4(k:Nat)(q:Rat):Prop:=Sm k q.num/\Sm k q.den
def C4.mono{k m:Nat}{q:Rat}(h:C4 k q)(a:k<=m):C4 m q:=⟨h.1.mono a,h.2.mono a⟩
theorem Kc(n d:Int)(a:d≠0):(OB n d).num.natAbs<=n.natAbs/\(OB n d).den<=d.natAbs:=by
 rw[Rat.num_divInt,Rat.den_divInt,BZ a];refine⟨?_,Cu _ _⟩;grind[Int.natAbs_ediv_le_natAbs]
theorem C4.divInt{k:Nat}{n d:Int}(a:d≠0)(c:Sm k n)(b:Sm k d):C4 k (OB n d):=by
 have h:=Kc n d a;exact⟨c.le h.1,b.le Y⟩
def C2(q:Rat):Int:=if q.den=1 then 0 else q.den
def XV:C2 q=0↔q.den=1:=by
 unfold C2;have:=q.den_pos;split<;>omega
theorem Kd{a b:Int}(c:b≠0):b.sign*a/(Int.gcd b a:Nat)=a/(if b<0 then -((Int.gcd a b:Nat):Int)else((Int.gcd a b:Nat):Int)):=by
 grind[Int.gcd_comm,Int.ediv_neg,Int.neg_ediv_of_dvd,Int.gcd_dvd_left]
def Y5(a:d≠0):(OB n d).num=n/(if d<0 then -((Int.gcd n d:Nat):Int)else((Int.gcd n d:Nat):Int)):=by
 rw[Rat.num_divInt,Kd a]
theorem Y6(a:d≠0):((OB n d).den:Int)=d/(if d<0 then -((Int.gcd n d:Nat):Int)else((Int.gcd n d:Nat):Int)):=by
 grind[Rat.den_divInt,Int.gcd_comm,Int.ediv_neg,Int.neg_ediv_of_dvd,Int.gcd_dvd_right]
theorem Ke(p q:Rat)(g l r a b:Int)(c:g=(Int.gcd p.den q.den:Nat))(hl:l=p.den/g)(o:r=q.den/g)(k:a=p.num*r+q.num*l)(m:b=(Int.gcd a g:Nat)):
 (p+q).num=a/b/\((p+q).den:Int)=l*(q.den/b):=by
 have j:Int.gcd p.den q.den=p.den.gcd q.den:=rfl;rw[j]at c;have i:p.den.gcd q.den≠0:=Nat.gcd_ne_zero_left p.den_nz;have n:l=((p.den/p.den.gcd q.den:Nat):Int):=by rw[hl,c];simp
 have s:r=((q.den/p.den.gcd q.den:Nat):Int):=by rw[o,c];simp
 have d:=Rat.add.aux p q J J J;dsimp only at d;have f:a=p.num*((q.den/p.den.gcd q.den:Nat):Int)+q.num*((p.den/p.den.gcd q.den:Nat):Int):=by rw[k,n,s]
 rw[<-f]at d;have t:b=((a.natAbs.gcd (p.den/p.den.gcd q.den*q.den):Nat):Int):=by rw[m,<-d,c];rfl
 have e:p.den/p.den.gcd q.den*q.den≠0:=CQ (by have:=Nat.div_gcd_pos_of_pos_left q.den p.den_pos;omega) q.den_nz;have hs:p+q=Rat.normalize a (p.den/p.den.gcd q.den*q.den) e:=by
  rw[Rat.add_def,<-Rat.normalize_mul_right e i];congr 1
  . rw[f];simp only[Int.add_mul,Int.mul_assoc,Int.ofNat_mul_ofNat,
     Nat.div_mul_cancel (Nat.gcd_dvd_left ..),Nat.div_mul_cancel (Nat.gcd_dvd_right ..)]
  . grind[Nat.div_mul_cancel,Nat.gcd_dvd_left]
 grind[Nat.dvd_trans,Nat.gcd_dvd_right,Rat.num_normalize,Rat.den_normalize,Nat.mul_div_assoc]
def Kf(p q:Rat)(a b:Int)(c:a=(Int.gcd p.num q.den:Nat))(d:b=(Int.gcd q.num p.den:Nat)):
 (p*q).num=p.num/a*(q.num/b)/\((p*q).den:Int)=p.den/b*(q.den/a):=by
 have h:p*q=Rat.mul p q:=rfl;rw[h];delta Rat.mul
 subst c d;refine⟨?_,?_⟩
 . show Int.divExact _ _ _*Int.divExact _ _ _=_;rw[Int.divExact_eq_ediv,Int.divExact_eq_ediv];rfl
 . show((Nat.divExact _ _ _*Nat.divExact _ _ _:Nat):Int)=_;rw[Nat.divExact_eq_div,Nat.divExact_eq_div];simp[Int.gcd]
theorem FV(p q:Rat):OB (p.num*q.den) (p.den*q.num)=p/q:=by
 grind[Rat.inv_def,Rat.num_divInt_den,Rat.divInt_mul_divInt]
theorem FW(p q:Rat):OB (p.num*q.num) (p.den*q.den)=p*q:=by
 grind[Rat.num_divInt_den,Rat.divInt_mul_divInt]
def Gi(p q:Rat):OB (p.num*q.den+q.num*p.den) (p.den*q.den)=p+q:=by
 conv=>rhs;rw[<-Rat.num_divInt_den p,<-Rat.num_divInt_den q]
 rw[Rat.divInt_add_divInt _ _ (by have:=p.den_nz;omega) (by have:=q.den_nz;omega)]
def C4.add{k:Nat}{p q:Rat}(hp:C4 k p)(a:C4 k q):C4 (k+k+1) (p+q):=by
 rw[<-Gi];refine C4.divInt ?_ ((hp.1.mul a.2).add (a.1.mul hp.2)) ((hp.2.mul a.2).mono Y);exact CE (by have:=p.den_nz;omega) (by have:=q.den_nz;omega)
def C4.mul{k:Nat}{p q:Rat}(hp:C4 k p)(a:C4 k q):C4 (k+k) (p*q):=by
 rw[<-FW];refine C4.divInt ?_ (hp.1.mul a.1) (hp.2.mul a.2);exact CE (by have:=p.den_nz;omega) (by have:=q.den_nz;omega)
def C4.over(hp:C4 k p)(a:C4 k q)(b:q≠0):C4 (k+k) (p/q):=by
 rw[<-FV];refine C4.divInt ?_ (hp.1.mul a.2) (hp.2.mul a.1);exact CE (by have:=p.den_nz;omega) λh=>b (Rat.num_eq_zero.1 h)
def C4.neg{k:Nat}{q:Rat}(h:C4 k q):C4 k (-q):=⟨h.1.neg,h.2⟩
structure Sq(q:Rat):Prop where
 sm:C4 1000000000 q
theorem Sq.of(h:C4 k q)(a:k<=1000000000):Sq q:=⟨h.mono a⟩
theorem Sq.num{q:Rat}(h:Sq q):Sok q.num:=Sok.of h.sm.1 Y
def Sq.den{q:Rat}(h:Sq q):Sok (q.den:Int):=Sok.of h.sm.2 Y
def Sq.neg{q:Rat}(h:Sq q):Sq (-q):=Sq.of h.sm.neg (Aa _)
def Sq.mulN(hp:Sq p)(a:Sq q):Sok (p.num*q.num):=Sok.of (hp.sm.1.mul a.sm.1) Y
def Sq.mulD(hp:Sq p)(a:Sq q):Sok ((p.den:Int)*q.den):=Sok.of (hp.sm.2.mul a.sm.2) Y
def Sq.cross(hp:Sq p)(a:Sq q):Sok (p.num*q.den):=Sok.of (hp.sm.1.mul a.sm.2) Y
def Sq.cross2(hp:Sq p)(a:Sq q):Sok ((p.den:Int)*q.num):=Sok.of (hp.sm.2.mul a.sm.1) Y
def Sq.sumN(hp:Sq p)(a:Sq q):Sok (p.num*q.den+q.num*p.den):=Sok.of ((hp.sm.1.mul a.sm.2).add (a.sm.1.mul hp.sm.2)) Y
