import Derived.Test.YtcahejkcdcjjgaaGreatDoorU04
import Derived.Test.YtcahejkcdcjjgaaGreatDoorU05
set_option linter.all false
set_option maxRecDepth 99999
set_option maxHeartbeats 0
namespace Go.Proofs.YtcahejkcdcjjgaaGreatDoor
open Rat renaming divInt->Te
open Go.RowKit Go.Shelf
def Sm(k:Nat)(z:Int):Prop:=z.natAbs<O^k
variable{d n x y z:Int}{k m:Nat}{p q:Rat}
def Hy:0<O:=by unfold O;omega
def Sm.mono(h:Sm k z)(a:k<=m):Sm m z:=Ak h (Al Hy a)
def Sm.le(h:Sm k x)(a:z.natAbs<=x.natAbs):Sm k z:=CQ a h
def Sm.neg(h:Sm k z):Sm k (-z):=by unfold Sm at *;rwa[C4]
theorem Sm.mul(a:Sm k x)(b:Sm m y):Sm (k+m) (x*y):=by
 grind[Sm,Int.natAbs_mul,Nat.mul_lt_mul_of_lt_of_le]
theorem Sm.add(a:Sm k x)(b:Sm k y):Sm (k+1) (x+y):=by
 grind[Sm,O]
def Sm.div(a:Sm k x):Sm k (x/y):=a.le (Int.natAbs_ediv_le_natAbs x y)
def Sm.gcd{k:Nat}{x y:Int}(b:Sm k x)(c:Sm k y):Sm k ((Int.gcd x y:Nat):Int):=by
 by_cases a:x=0
 . refine c.le ?_;rw[a,Ci,Int.gcd,Int.natAbs_zero,Nat.gcd_zero_left];exact Aa _
 . refine b.le ?_;rw[Ci];exact Nat.gcd_le_left _ Y
def Sm.words(h:Sm k z):(Jb O z.natAbs).length<=k:=JE Jd h
def Sm.size(h:Sm k z):DY z<=5*k:=by
 unfold DY;refine JE Y (Ak h ?_);rw[Nat.pow_mul];exact CL (by unfold O;decide) k
def Sm.of_words(h:(Jb O z.natAbs).length<=k):Sm k z:=by
 have a:=JV (Ji Jd z.natAbs);rw[Jj Jd]at a;exact Ak a (Al Hy h)
theorem Sm.good{l:List UInt8}(h:good l=true):Sm 2000 (YA l):=Sm.of_words (Nx h uo)
theorem Sm.one(k:Nat)(a:1<=k):Sm k 1:=by
 have:Sm 1 1:=by unfold Sm O;decide
 exact this.mono a
theorem Sm.zero(k:Nat):Sm k 0:=C3 Hy
structure Sok(z:Int):Prop where
 sm:Sm 10000000000 z
theorem Sok.of(h:Sm k z)(a:k<=10000000000):Sok z:=⟨h.mono a⟩
def Sok.words{z:Int}(h:Sok z):(Jb O z.natAbs).length<=10000000000:=h.sm.words
def Sok.size{z:Int}(h:Sok z):DY z<=50000000000:=by have:=h.sm.size;omega
def Sok.gcd{x y:Int}(a:Sok x)(b:Sok y):Sok ((Int.gcd x y:Nat):Int):=Sok.of (a.sm.gcd b.sm) (Aa _)
def Sok.neg{x:Int}(a:Sok x):Sok (-x):=Sok.of a.sm.neg (Aa _)
def Sok.div{x y:Int}(a:Sok x):Sok (x/y):=Sok.of a.sm.div (Aa _)
def Sok.le{x z:Int}(a:Sok x)(h:z.natAbs<=x.natAbs):Sok z:=Sok.of (a.sm.le h) (Aa _)
theorem Sok.zero:Sok 0:=Sok.of (Sm.zero 1) Y
theorem Sok.one:Sok 1:=Sok.of (Sm.one 1 Y) Y
def DI(k:Nat)(q:Rat):Prop:=Sm k q.num/\Sm k q.den
def DI.mono{k m:Nat}{q:Rat}(h:DI k q)(a:k<=m):DI m q:=⟨h.1.mono a,h.2.mono a⟩
theorem OO(n d:Int)(a:d≠0):(Te n d).num.natAbs<=n.natAbs/\(Te n d).den<=d.natAbs:=by
 rw[Rat.num_divInt,Rat.den_divInt,BE a];refine⟨?_,CH _ _⟩;grind[Int.natAbs_ediv_le_natAbs]
def DI.divInt{k:Nat}{n d:Int}(a:d≠0)(c:Sm k n)(b:Sm k d):DI k (Te n d):=by
 have h:=OO n d a;exact⟨c.le h.1,b.le Y⟩
def denZ(q:Rat):Int:=if q.den=1 then 0 else q.den
def GV:denZ q=0↔q.den=1:=by
 unfold denZ;have:=q.den_pos;split<;>omega
theorem OP{a b:Int}(c:b≠0):b.sign*a/(Int.gcd b a:Nat)=a/(if b<0 then -((Int.gcd a b:Nat):Int)else((Int.gcd a b:Nat):Int)):=by
 grind[Int.gcd_comm,Int.ediv_neg,Int.neg_ediv_of_dvd,Int.gcd_dvd_left]
def XM(a:d≠0):(Te n d).num=n/(if d<0 then -((Int.gcd n d:Nat):Int)else((Int.gcd n d:Nat):Int)):=by
 rw[Rat.num_divInt,OP a]
theorem XN(a:d≠0):((Te n d).den:Int)=d/(if d<0 then -((Int.gcd n d:Nat):Int)else((Int.gcd n d:Nat):Int)):=by
 grind[Rat.den_divInt,Int.gcd_comm,Int.ediv_neg,Int.neg_ediv_of_dvd,Int.gcd_dvd_right]
theorem OQ(p q:Rat)(g l r a b:Int)(hg:g=(Int.gcd p.den q.den:Nat))(hl:l=p.den/g)(n:r=q.den/g)(j:a=p.num*r+q.num*l)(k:b=(Int.gcd a g:Nat)):
 (p+q).num=a/b/\((p+q).den:Int)=l*(q.den/b):=by
 have i:Int.gcd p.den q.den=p.den.gcd q.den:=rfl;rw[i]at hg;have f:p.den.gcd q.den≠0:=Nat.gcd_ne_zero_left p.den_nz;have m:l=((p.den/p.den.gcd q.den:Nat):Int):=by rw[hl,hg];simp
 have o:r=((q.den/p.den.gcd q.den:Nat):Int):=by rw[n,hg];simp
 have c:=Rat.add.aux p q J J J;dsimp only at c;have e:a=p.num*((q.den/p.den.gcd q.den:Nat):Int)+q.num*((p.den/p.den.gcd q.den:Nat):Int):=by rw[j,m,o]
 rw[<-e]at c;have s:b=((a.natAbs.gcd (p.den/p.den.gcd q.den*q.den):Nat):Int):=by rw[k,<-c,hg];rfl
 have d:p.den/p.den.gcd q.den*q.den≠0:=C1 (by have:=Nat.div_gcd_pos_of_pos_left q.den p.den_pos;omega) q.den_nz;have hs:p+q=Rat.normalize a (p.den/p.den.gcd q.den*q.den) d:=by
  rw[Rat.add_def,<-Rat.normalize_mul_right d f];congr 1
  . rw[e];simp only[Int.add_mul,Int.mul_assoc,Int.ofNat_mul_ofNat,
     Nat.div_mul_cancel (Nat.gcd_dvd_left ..),Nat.div_mul_cancel (Nat.gcd_dvd_right ..)]
  . grind[Nat.div_mul_cancel,Nat.gcd_dvd_left]
 grind[Nat.dvd_trans,Nat.gcd_dvd_right,Rat.num_normalize,Rat.den_normalize,Nat.mul_div_assoc]
def OR(p q:Rat)(a b:Int)(c:a=(Int.gcd p.num q.den:Nat))(d:b=(Int.gcd q.num p.den:Nat)):
 (p*q).num=p.num/a*(q.num/b)/\((p*q).den:Int)=p.den/b*(q.den/a):=by
 have h:p*q=Rat.mul p q:=rfl;rw[h];delta Rat.mul
 subst c d;refine⟨?_,?_⟩
 . show Int.divExact _ _ _*Int.divExact _ _ _=_;rw[Int.divExact_eq_ediv,Int.divExact_eq_ediv];rfl
 . show((Nat.divExact _ _ _*Nat.divExact _ _ _:Nat):Int)=_;rw[Nat.divExact_eq_div,Nat.divExact_eq_div];simp[Int.gcd]
theorem OS(p q:Rat):Te (p.num*q.den) (p.den*q.num)=p/q:=by
 grind[Rat.inv_def,Cq,Rat.divInt_mul_divInt]
theorem K4(p q:Rat):Te (p.num*q.num) (p.den*q.den)=p*q:=by
 grind[Cq,Rat.divInt_mul_divInt]
def Hz(p q:Rat):Te (p.num*q.den+q.num*p.den) (p.den*q.den)=p+q:=by
 conv=>rhs;rw[<-Cq p,<-Cq q]
 rw[Rat.divInt_add_divInt _ _ (by have:=p.den_nz;omega) (by have:=q.den_nz;omega)]
def DI.add{k:Nat}{p q:Rat}(hp:DI k p)(a:DI k q):DI (k+k+1) (p+q):=by
 rw[<-Hz];refine DI.divInt ?_ ((hp.1.mul a.2).add (a.1.mul hp.2)) ((hp.2.mul a.2).mono Y);exact CR (by have:=p.den_nz;omega) (by have:=q.den_nz;omega)
def DI.mul{k:Nat}{p q:Rat}(hp:DI k p)(a:DI k q):DI (k+k) (p*q):=by
 rw[<-K4];refine DI.divInt ?_ (hp.1.mul a.1) (hp.2.mul a.2);exact CR (by have:=p.den_nz;omega) (by have:=q.den_nz;omega)
def DI.over(hp:DI k p)(a:DI k q)(b:q≠0):DI (k+k) (p/q):=by
 rw[<-OS];refine DI.divInt ?_ (hp.1.mul a.2) (hp.2.mul a.1);exact CR (by have:=p.den_nz;omega) λh=>b (Rat.num_eq_zero.1 h)
def DI.neg{k:Nat}{q:Rat}(h:DI k q):DI k (-q):=⟨h.1.neg,h.2⟩
def DI.denZ{k:Nat}{q:Rat}(h:DI k q):Sm k (denZ q):=by
 unfold Go.Proofs.YtcahejkcdcjjgaaGreatDoor.denZ;split
 . exact Sm.zero k
 . exact h.2
structure Sq(q:Rat):Prop where
 sm:DI 1000000000 q
theorem Sq.of(h:DI k q)(a:k<=1000000000):Sq q:=⟨h.mono a⟩
theorem Sq.num{q:Rat}(h:Sq q):Sok q.num:=Sok.of h.sm.1 Y
def Sq.den{q:Rat}(h:Sq q):Sok (q.den:Int):=Sok.of h.sm.2 Y
def Sq.neg{q:Rat}(h:Sq q):Sq (-q):=Sq.of h.sm.neg (Aa _)
def Sq.mulN(hp:Sq p)(a:Sq q):Sok (p.num*q.num):=Sok.of (hp.sm.1.mul a.sm.1) Y
def Sq.mulD(hp:Sq p)(a:Sq q):Sok ((p.den:Int)*q.den):=Sok.of (hp.sm.2.mul a.sm.2) Y
def Sq.cross(hp:Sq p)(a:Sq q):Sok (p.num*q.den):=Sok.of (hp.sm.1.mul a.sm.2) Y
theorem Sq.sumN(hp:Sq p)(a:Sq q):Sok (p.num*q.den+q.num*p.den):=Sok.of ((hp.sm.1.mul a.sm.2).add (a.sm.1.mul hp.sm.2)) Y
