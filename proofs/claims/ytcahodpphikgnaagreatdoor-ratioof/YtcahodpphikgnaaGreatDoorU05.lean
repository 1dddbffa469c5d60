import Derived.Test.YtcahodpphikgnaaGreatDoorU03
import Derived.Test.YtcahodpphikgnaaGreatDoorU04
set_option linter.all false
set_option maxRecDepth 99999
set_option maxHeartbeats 0
namespace Go.Proofs.YtcahodpphikgnaaGreatDoor
open Rat renaming divInt->MG
open Go.RowKit Go.Shelf
def Sm(k:Nat)(z:Int):Prop:=z.natAbs<O^k
variable{d n x y z:Int}{k m:Nat}{q:Rat}
def EU:0<O:=by unfold O;omega
def Sm.mono(h:Sm k z)(a:k<=m):Sm m z:=An h (Ak EU a)
def Sm.le(h:Sm k x)(a:z.natAbs<=x.natAbs):Sm k z:=Nat.lt_of_le_of_lt a h
def Sm.neg(h:Sm k z):Sm k (-z):=by unfold Sm at *;rwa[CP]
theorem Sm.mul(a:Sm k x)(b:Sm m y):Sm (k+m) (x*y):=by
 grind[Sm,Int.natAbs_mul,Nat.mul_lt_mul_of_lt_of_le]
def Sm.div(a:Sm k x):Sm k (x/y):=a.le (Int.natAbs_ediv_le_natAbs x y)
def Sm.gcd{k:Nat}{x y:Int}(b:Sm k x)(c:Sm k y):Sm k ((Int.gcd x y:Nat):Int):=by
 by_cases a:x=0
 . refine c.le ?_;rw[a,A9,Int.gcd,Int.natAbs_zero,Nat.gcd_zero_left];exact Aa _
 . refine b.le ?_;rw[A9];exact Nat.gcd_le_left _ Y
def Sm.words(h:Sm k z):(Jb O z.natAbs).length<=k:=JD Jc h
def Sm.size(h:Sm k z):CZ z<=5*k:=by
 unfold CZ;refine JD Y (An h ?_);rw[Nat.pow_mul];exact Cz (by unfold O;decide) k
def Sm.of_words(h:(Jb O z.natAbs).length<=k):Sm k z:=by
 have a:=JI (Jf Jc z.natAbs);rw[Je Jc]at a;exact An a (Ak EU h)
theorem Sm.good{l:List UInt8}(h:good l=true):Sm 2000 (JX l):=Sm.of_words (G4 h uo)
def Sm.one(k:Nat)(a:1<=k):Sm k 1:=by
 have:Sm 1 1:=by unfold Sm O;decide
 exact this.mono a
theorem Sm.zero(k:Nat):Sm k 0:=CO EU
structure Sok(z:Int):Prop where
 sm:Sm 10000000000 z
theorem Sok.of(h:Sm k z)(a:k<=10000000000):Sok z:=⟨h.mono a⟩
def Sok.words{z:Int}(h:Sok z):(Jb O z.natAbs).length<=10000000000:=h.sm.words
def Sok.size{z:Int}(h:Sok z):CZ z<=50000000000:=by have:=h.sm.size;omega
def Sok.gcd{x y:Int}(a:Sok x)(b:Sok y):Sok ((Int.gcd x y:Nat):Int):=Sok.of (a.sm.gcd b.sm) (Aa _)
def Sok.neg{x:Int}(a:Sok x):Sok (-x):=Sok.of a.sm.neg (Aa _)
def Sok.div{x y:Int}(a:Sok x):Sok (x/y):=Sok.of a.sm.div (Aa _)
theorem Sok.zero:Sok 0:=Sok.of (Sm.zero 1) Y
def DK(k:Nat)(q:Rat):Prop:=Sm k q.num/\Sm k q.den
def DK.mono{k m:Nat}{q:Rat}(h:DK k q)(a:k<=m):DK m q:=⟨h.1.mono a,h.2.mono a⟩
theorem Hr(n d:Int)(a:d≠0):(MG n d).num.natAbs<=n.natAbs/\(MG n d).den<=d.natAbs:=by
 rw[Rat.num_divInt,Rat.den_divInt,Bd a];refine⟨?_,Ct _ _⟩;grind[Int.natAbs_ediv_le_natAbs]
def DK.divInt{k:Nat}{n d:Int}(a:d≠0)(c:Sm k n)(b:Sm k d):DK k (MG n d):=by
 have h:=Hr n d a;exact⟨c.le h.1,b.le Y⟩
def CV(q:Rat):Int:=if q.den=1 then 0 else q.den
def EW:CV q=0↔q.den=1:=by
 unfold CV;have:=q.den_pos;split<;>omega
theorem Ht{a b:Int}(c:b≠0):b.sign*a/(Int.gcd b a:Nat)=a/(if b<0 then -((Int.gcd a b:Nat):Int)else((Int.gcd a b:Nat):Int)):=by
 grind[Int.gcd_comm,Int.ediv_neg,Int.neg_ediv_of_dvd,Int.gcd_dvd_left]
def YU(a:d≠0):(MG n d).num=n/(if d<0 then -((Int.gcd n d:Nat):Int)else((Int.gcd n d:Nat):Int)):=by
 rw[Rat.num_divInt,Ht a]
theorem YV(a:d≠0):((MG n d).den:Int)=d/(if d<0 then -((Int.gcd n d:Nat):Int)else((Int.gcd n d:Nat):Int)):=by
 grind[Rat.den_divInt,Int.gcd_comm,Int.ediv_neg,Int.neg_ediv_of_dvd,Int.gcd_dvd_right]
def Hu(p q:Rat)(a b:Int)(c:a=(Int.gcd p.num q.den:Nat))(d:b=(Int.gcd q.num p.den:Nat)):
 (p*q).num=p.num/a*(q.num/b)/\((p*q).den:Int)=p.den/b*(q.den/a):=by
 have h:p*q=Rat.mul p q:=rfl;rw[h];delta Rat.mul
 subst c d;refine⟨?_,?_⟩
 . show Int.divExact _ _ _*Int.divExact _ _ _=_;rw[Int.divExact_eq_ediv,Int.divExact_eq_ediv];rfl
 . show((Nat.divExact _ _ _*Nat.divExact _ _ _:Nat):Int)=_;rw[Nat.divExact_eq_div,Nat.divExact_eq_div];simp[Int.gcd]
theorem Hv(p q:Rat):MG (p.num*q.num) (p.den*q.den)=p*q:=by
 grind[Rat.num_divInt_den,Rat.divInt_mul_divInt]
structure Sq(q:Rat):Prop where
 sm:DK 1000000000 q
theorem Sq.of(h:DK k q)(a:k<=1000000000):Sq q:=⟨h.mono a⟩
theorem Sq.num{q:Rat}(h:Sq q):Sok q.num:=Sok.of h.sm.1 Y
def Sq.den{q:Rat}(h:Sq q):Sok (q.den:Int):=Sok.of h.sm.2 Y
def Sq.mulN{p:Rat}(hp:Sq p)(a:Sq q):Sok (p.num*q.num):=Sok.of (hp.sm.1.mul a.sm.1) Y
