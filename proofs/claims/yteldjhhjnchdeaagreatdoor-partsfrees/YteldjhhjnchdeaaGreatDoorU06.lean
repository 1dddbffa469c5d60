import Derived.Test.YteldjhhjnchdeaaGreatDoorU04
import Derived.Test.YteldjhhjnchdeaaGreatDoorU05
set_option maxRecDepth 100000
set_option maxHeartbeats 16000000
namespace Go.Proofs.YteldjhhjnchdeaaGreatDoor
open Go.RowKit Go.Shelf
def Sm(k:Nat)(z:Int):Prop:=z.natAbs<Z^k
variable{d n x y z:Int}{k m:Nat}{p q:Rat}
theorem Ii:0<Z:=by unfold Z;omega
theorem Sm.mono(h:Sm k z)(a:k<=m):Sm m z:=AB h (Aw Ii a)
theorem Sm.le(h:Sm k x)(a:z.natAbs<=x.natAbs):Sm k z:=Cp a h
theorem Sm.neg(h:Sm k z):Sm k (-z):=by unfold Sm at *;rwa[Fq]
theorem Sm.mul(b:Sm k x)(a:Sm m y):Sm (k+m) (x*y):=by
 unfold Sm at *;rw[CY,CI];exact Nat.mul_lt_mul_of_lt_of_le b (FU a) (Cp (AK _) a)
theorem Sm.add(d:Sm k x)(e:Sm k y):Sm (k+1) (x+y):=by
 unfold Sm at *;have a:=Int.natAbs_add_le x y;have b:Z^(k+1)=Z^k*Z:=AQ ..;have c:Z^k*2<=Z^k*Z:=Av _ Je;omega
theorem Sm.div(a:Sm k x):Sm k (x/y):=a.le (Int.natAbs_ediv_le_natAbs x y)
theorem Sm.gcd{k:Nat}{x y:Int}(b:Sm k x)(c:Sm k y):Sm k ((Int.gcd x y:Nat):Int):=by
 by_cases a:x=0
 . refine c.le ?_;rw[a,AP,Int.gcd,Int.natAbs_zero,Nat.gcd_zero_left];exact Aa _
 . refine b.le ?_;rw[AP];exact Nat.gcd_le_left _ J
theorem Sm.words(h:Sm k z):(Jc Z z.natAbs).length<=k:=JK Je h
theorem Sm.size(h:Sm k z):EM z<=5*k:=by
 unfold EM;refine JK J (AB h ?_);rw[FJ];exact CS (by unfold Z;decide) k
theorem Sm.of_words(h:(Jc Z z.natAbs).length<=k):Sm k z:=by
 have a:=Yl (Jq Je z.natAbs);rw[Jp Je]at a;exact AB a (Aw Ii h)
theorem Sm.good{l:List UInt8}(h:good l=true):Sm 2000 (Y2 l):=Sm.of_words (T0 h uo)
theorem Sm.one(k:Nat)(a:1<=k):Sm k 1:=by
 have:Sm 1 1:=by unfold Sm Z;decide
 exact this.mono a
theorem Sm.zero(k:Nat):Sm k 0:=Fe Ii
structure Sok(z:Int):Prop where
 sm:Sm 10000000000 z
theorem Sok.of(h:Sm k z)(a:k<=10000000000):Sok z:=⟨h.mono a⟩
theorem Sok.words{z:Int}(h:Sok z):(Jc Z z.natAbs).length<=10000000000:=h.sm.words
theorem Sok.size{z:Int}(h:Sok z):EM z<=50000000000:=by have:=h.sm.size;omega
theorem Sok.gcd{x y:Int}(a:Sok x)(b:Sok y):Sok ((Int.gcd x y:Nat):Int):=Sok.of (a.sm.gcd b.sm) (Aa _)
theorem Sok.neg{x:Int}(a:Sok x):Sok (-x):=Sok.of a.sm.neg (Aa _)
theorem Sok.div{x y:Int}(a:Sok x):Sok (x/y):=Sok.of a.sm.div (Aa _)
theorem Sok.zero:Sok 0:=Sok.of (Sm.zero 1) J
theorem Sok.one:Sok 1:=Sok.of (Sm.one 1 J) J
def Da(k:Nat)(q:Rat):Prop:=Sm k q.num/\Sm k q.den
theorem Da.mono{k m:Nat}{q:Rat}(h:Da k q)(a:k<=m):Da m q:=⟨h.1.mono a,h.2.mono a⟩
theorem U1(n d:Int)(a:d≠0):(Rat.divInt n d).num.natAbs<=n.natAbs/\(Rat.divInt n d).den<=d.natAbs:=by
 rw[Rat.num_divInt,Rat.den_divInt,BE a];refine⟨?_,Fw _ _⟩;refine Ar (Int.natAbs_ediv_le_natAbs _ _) ?_;rw[CY];have h:=Int.natAbs_sign d;rw[BE a]at h;rw[h,Cw];exact Aa _
theorem Da.divInt{k:Nat}{n d:Int}(a:d≠0)(c:Sm k n)(b:Sm k d):Da k (Rat.divInt n d):=by
 have h:=U1 n d a;exact⟨c.le h.1,b.le (by rw[AP];exact h.2)⟩
def Dz(q:Rat):Int:=if q.den=1 then 0 else q.den
theorem Lf:Dz q=0↔q.den=1:=by
 unfold Dz;have:=q.den_pos;split<;>omega
theorem U2{a b:Int}(c:b≠0):b.sign*a/(Int.gcd b a:Nat)=a/(if b<0 then -((Int.gcd a b:Nat):Int)else((Int.gcd a b:Nat):Int)):=by
 rw[Int.gcd_comm b a];split
 . rename_i h;rw[Int.sign_eq_neg_one_of_neg h,Int.ediv_neg,Int.neg_mul,Int.one_mul,Int.neg_ediv_of_dvd (Int.gcd_dvd_left ..)]
 . rename_i h;rw[Int.sign_eq_one_of_pos J,Int.one_mul]
theorem Lg(a:d≠0):(Rat.divInt n d).num=n/(if d<0 then -((Int.gcd n d:Nat):Int)else((Int.gcd n d:Nat):Int)):=by
 rw[Rat.num_divInt,U2 a]
theorem Lh(a:d≠0):((Rat.divInt n d).den:Int)=d/(if d<0 then -((Int.gcd n d:Nat):Int)else((Int.gcd n d:Nat):Int)):=by
 rw[Rat.den_divInt,BE a,Int.gcd_comm d n];split
 . rename_i h;rw[Int.ediv_neg,<-Int.neg_ediv_of_dvd (Int.gcd_dvd_right ..)];have e:-d=(d.natAbs:Int):=J
   rw[e];simp
 . rename_i h;have e:d=(d.natAbs:Int):=J
   generalize Int.gcd n d=g;rw[e];simp
theorem U3(p q:Rat)(g l r a b:Int)(d:g=(Int.gcd p.den q.den:Nat))(hl:l=p.den/g)(t:r=q.den/g)(n:a=p.num*r+q.num*l)(o:b=(Int.gcd a g:Nat)):
 (p+q).num=a/b/\((p+q).den:Int)=l*(q.den/b):=by
 have m:Int.gcd p.den q.den=p.den.gcd q.den:=rfl;rw[m]at d;have k:p.den.gcd q.den≠0:=Nat.gcd_ne_zero_left p.den_nz;have i:l=((p.den/p.den.gcd q.den:Nat):Int):=by rw[hl,d];simp
 have u:r=((q.den/p.den.gcd q.den:Nat):Int):=by rw[t,d];simp
 have c:=Rat.add.aux p q rfl rfl rfl;dsimp only at c;have f:a=p.num*((q.den/p.den.gcd q.den:Nat):Int)+q.num*((p.den/p.den.gcd q.den:Nat):Int):=by rw[n,i,u]
 rw[<-f]at c;have s:b=((a.natAbs.gcd (p.den/p.den.gcd q.den*q.den):Nat):Int):=by rw[o,<-c,d];rfl
 have e:p.den/p.den.gcd q.den*q.den≠0:=FQ (by have:=Nat.div_gcd_pos_of_pos_left q.den p.den_pos;omega) q.den_nz;have hs:p+q=Rat.normalize a (p.den/p.den.gcd q.den*q.den) e:=by
  rw[Rat.add_def,<-Rat.normalize_mul_right e k];congr 1
  . rw[f];simp only[Int.add_mul,CP,Int.ofNat_mul_ofNat,
     Nat.div_mul_cancel (FO ..),Nat.div_mul_cancel (Fh ..)]
  . rw[Nat.mul_right_comm,Nat.div_mul_cancel (FO ..)]
 have j:a.natAbs.gcd (p.den/p.den.gcd q.den*q.den)∣q.den:=by
  rw[<-c];exact Nat.dvd_trans (Fh ..) (Fh ..)
 rw[hs,Rat.num_normalize,Rat.den_normalize,s,i];refine⟨rfl,?_⟩;rw[Nat.mul_div_assoc _ j];simp
theorem U4(p q:Rat)(a b:Int)(c:a=(Int.gcd p.num q.den:Nat))(d:b=(Int.gcd q.num p.den:Nat)):
 (p*q).num=p.num/a*(q.num/b)/\((p*q).den:Int)=p.den/b*(q.den/a):=by
 have h:p*q=Rat.mul p q:=rfl;rw[h];delta Rat.mul
 subst c d;refine⟨?_,?_⟩
 . show Int.divExact _ _ _*Int.divExact _ _ _=_;rw[Int.divExact_eq_ediv,Int.divExact_eq_ediv];rfl
 . show((Nat.divExact _ _ _*Nat.divExact _ _ _:Nat):Int)=_;rw[Nat.divExact_eq_div,Nat.divExact_eq_div];simp[Int.gcd]
theorem PQ(p q:Rat):Rat.divInt (p.num*q.den) (p.den*q.num)=p/q:=by
 rw[Fm,Rat.inv_def];conv=>rhs;rw[<-Fc p]
 rw[CW]
theorem PR(p q:Rat):Rat.divInt (p.num*q.num) (p.den*q.den)=p*q:=by
 conv=>rhs;rw[<-Fc p,<-Fc q]
 rw[CW]
theorem PS(p q:Rat):Rat.divInt (p.num*q.den+q.num*p.den) (p.den*q.den)=p+q:=by
 conv=>rhs;rw[<-Fc p,<-Fc q]
 rw[FH _ _ (by have:=p.den_nz;omega) (by have:=q.den_nz;omega)]
theorem Da.neg{k:Nat}{q:Rat}(h:Da k q):Da k (-q):=⟨h.1.neg,h.2⟩
structure Sq(q:Rat):Prop where
 sm:Da 1000000000 q
theorem Sq.of(h:Da k q)(a:k<=1000000000):Sq q:=⟨h.mono a⟩
theorem Sq.num{q:Rat}(h:Sq q):Sok q.num:=Sok.of h.sm.1 J
theorem Sq.den{q:Rat}(h:Sq q):Sok (q.den:Int):=Sok.of h.sm.2 J
theorem Sq.neg{q:Rat}(h:Sq q):Sq (-q):=Sq.of h.sm.neg (Aa _)
theorem Sq.mulN(hp:Sq p)(hq:Sq q):Sok (p.num*q.num):=Sok.of (hp.sm.1.mul hq.sm.1) J
theorem Sq.mulD(hp:Sq p)(hq:Sq q):Sok ((p.den:Int)*q.den):=Sok.of (hp.sm.2.mul hq.sm.2) J
theorem Sq.cross(hp:Sq p)(hq:Sq q):Sok (p.num*q.den):=Sok.of (hp.sm.1.mul hq.sm.2) J
theorem Sq.cross2(hp:Sq p)(hq:Sq q):Sok ((p.den:Int)*q.num):=Sok.of (hp.sm.2.mul hq.sm.1) J
theorem Sq.sumN(hp:Sq p)(hq:Sq q):Sok (p.num*q.den+q.num*p.den):=Sok.of ((hp.sm.1.mul hq.sm.2).add (hq.sm.1.mul hp.sm.2)) J
