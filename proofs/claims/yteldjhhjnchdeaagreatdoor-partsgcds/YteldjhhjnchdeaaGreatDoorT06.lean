import Derived.Test.YteldjhhjnchdeaaGreatDoorT04
import Derived.Test.YteldjhhjnchdeaaGreatDoorT05
set_option maxRecDepth 100000
set_option maxHeartbeats 16000000
namespace Go.Proofs.YteldjhhjnchdeaaGreatDoor
open Go.RowKit Go.Shelf
def Sm(k:Nat)(z:Int):Prop:=z.natAbs<DR^k
variable{d n x y z:Int}{k m:Nat}{p q:Rat}
theorem Kn:0<DR:=by unfold DR;omega
theorem Sm.mono(h:Sm k z)(a:k<=m):Sm m z:=AC h (Aw Kn a)
theorem Sm.le(h:Sm k x)(a:z.natAbs<=x.natAbs):Sm k z:=Cs a h
theorem Sm.neg(h:Sm k z):Sm k (-z):=by unfold Sm at *;rwa[Fp]
theorem Sm.mul(b:Sm k x)(a:Sm m y):Sm (k+m) (x*y):=by
 unfold Sm at *;rw[CW,CG];exact Nat.mul_lt_mul_of_lt_of_le b (FT a) (Cs (AK _) a)
theorem Sm.add(d:Sm k x)(b:Sm k y):Sm (k+1) (x+y):=by
 unfold Sm at *;have a:=Int.natAbs_add_le x y;have c:DR^(k+1)=DR^k*DR:=AP ..;have e:DR^k*2<=DR^k*DR:=Av _ Jf;omega
theorem Sm.div(a:Sm k x):Sm k (x/y):=a.le (Int.natAbs_ediv_le_natAbs x y)
theorem Sm.gcd{k:Nat}{x y:Int}(a:Sm k x)(b:Sm k y):Sm k ((Int.gcd x y:Nat):Int):=by
 by_cases c:x=0
 . refine b.le ?_;rw[c,AR,Int.gcd,Int.natAbs_zero,Nat.gcd_zero_left];exact Aa _
 . refine a.le ?_;rw[AR];exact Nat.gcd_le_left _ om
theorem Sm.words(h:Sm k z):(Jc DR z.natAbs).length<=k:=JJ Jf h
theorem Sm.size(h:Sm k z):ET z<=5*k:=by
 unfold ET;refine JJ om (AC h ?_);rw[FI];exact CS (by unfold DR;decide) k
theorem Sm.of_words(h:(Jc DR z.natAbs).length<=k):Sm k z:=by
 have a:=Yi (Jp Jf z.natAbs);rw[Jo Jf]at a;exact AC a (Aw Kn h)
theorem Sm.good{l:List UInt8}(h:good l=true):Sm 2000 (YV l):=Sm.of_words (Tr h uo)
theorem Sm.one(k:Nat)(a:1<=k):Sm k 1:=by
 have:Sm 1 1:=by unfold Sm DR;decide
 exact this.mono a
theorem Sm.zero(k:Nat):Sm k 0:=Fl Kn
@[irreducible] def Da(z:Int):Prop:=Sm 10000000 z
theorem Da.of(h:Sm k z)(a:k<=10000000):Da z:=by unfold Da;exact h.mono a
theorem Da.sm(h:Da z):Sm 10000000 z:=by unfold Da at h;exact h
theorem Da.words{z:Int}(h:Da z):(Jc DR z.natAbs).length<=10000000:=h.sm.words
theorem Da.size{z:Int}(h:Da z):ET z<=50000000:=by have:=h.sm.size;omega
theorem Da.gcd{x y:Int}(a:Da x)(b:Da y):Da ((Int.gcd x y:Nat):Int):=Da.of (a.sm.gcd b.sm) (Aa _)
theorem Da.neg{x:Int}(a:Da x):Da (-x):=Da.of a.sm.neg (Aa _)
theorem Da.div{x y:Int}(a:Da x):Da (x/y):=Da.of a.sm.div (Aa _)
theorem Da.zero:Da 0:=Da.of (Sm.zero 1) om
theorem Da.one:Da 1:=Da.of (Sm.one 1 om) om
def Df(k:Nat)(q:Rat):Prop:=Sm k q.num/\Sm k q.den
theorem Df.mono{k m:Nat}{q:Rat}(h:Df k q)(a:k<=m):Df m q:=⟨h.1.mono a,h.2.mono a⟩
theorem US(n d:Int)(a:d≠0):(Rat.divInt n d).num.natAbs<=n.natAbs/\(Rat.divInt n d).den<=d.natAbs:=by
 rw[Rat.num_divInt,Rat.den_divInt,BC a];refine⟨?_,Fv _ _⟩;refine As (Int.natAbs_ediv_le_natAbs _ _) ?_;rw[CW];have h:=Int.natAbs_sign d;rw[BC a]at h;rw[h,Cw];exact Aa _
theorem Df.divInt{k:Nat}{n d:Int}(b:d≠0)(a:Sm k n)(c:Sm k d):Df k (Rat.divInt n d):=by
 have h:=US n d b;exact⟨a.le h.1,c.le (by rw[AR];exact h.2)⟩
def EA(q:Rat):Int:=if q.den=1 then 0 else q.den
theorem Ll:EA q=0↔q.den=1:=by
 unfold EA;have:=q.den_pos;split<;>omega
theorem UT{a b:Int}(c:b≠0):b.sign*a/(Int.gcd b a:Nat)=a/(if b<0 then -((Int.gcd a b:Nat):Int)else((Int.gcd a b:Nat):Int)):=by
 rw[Int.gcd_comm b a];split
 . rename_i h;rw[Int.sign_eq_neg_one_of_neg h,Int.ediv_neg,Int.neg_mul,Int.one_mul,Int.neg_ediv_of_dvd (Int.gcd_dvd_left ..)]
 . rename_i h;rw[Int.sign_eq_one_of_pos om,Int.one_mul]
theorem Lm(a:d≠0):(Rat.divInt n d).num=n/(if d<0 then -((Int.gcd n d:Nat):Int)else((Int.gcd n d:Nat):Int)):=by
 rw[Rat.num_divInt,UT a]
theorem Lo(a:d≠0):((Rat.divInt n d).den:Int)=d/(if d<0 then -((Int.gcd n d:Nat):Int)else((Int.gcd n d:Nat):Int)):=by
 rw[Rat.den_divInt,BC a,Int.gcd_comm d n];split
 . rename_i h;rw[Int.ediv_neg,<-Int.neg_ediv_of_dvd (Int.gcd_dvd_right ..)];have e:-d=(d.natAbs:Int):=om
   rw[e];simp
 . rename_i h;have e:d=(d.natAbs:Int):=om
   generalize Int.gcd n d=g;rw[e];simp
theorem UU(p q:Rat)(g l r a c:Int)(d:g=(Int.gcd p.den q.den:Nat))(hl:l=p.den/g)(m:r=q.den/g)(o:a=p.num*r+q.num*l)(t:c=(Int.gcd a g:Nat)):
 (p+q).num=a/c/\((p+q).den:Int)=l*(q.den/c):=by
 have n:Int.gcd p.den q.den=p.den.gcd q.den:=rfl;rw[n]at d;have s:p.den.gcd q.den≠0:=Nat.gcd_ne_zero_left p.den_nz;have i:l=((p.den/p.den.gcd q.den:Nat):Int):=by rw[hl,d];simp
 have j:r=((q.den/p.den.gcd q.den:Nat):Int):=by rw[m,d];simp
 have b:=Rat.add.aux p q rfl rfl rfl;dsimp only at b;have f:a=p.num*((q.den/p.den.gcd q.den:Nat):Int)+q.num*((p.den/p.den.gcd q.den:Nat):Int):=by rw[o,i,j]
 rw[<-f]at b;have u:c=((a.natAbs.gcd (p.den/p.den.gcd q.den*q.den):Nat):Int):=by rw[t,<-b,d];rfl
 have e:p.den/p.den.gcd q.den*q.den≠0:=FP (by have:=Nat.div_gcd_pos_of_pos_left q.den p.den_pos;omega) q.den_nz;have hs:p+q=Rat.normalize a (p.den/p.den.gcd q.den*q.den) e:=by
  rw[Rat.add_def,<-Rat.normalize_mul_right e s];congr 1
  . rw[f];simp only[Int.add_mul,CP,Int.ofNat_mul_ofNat,
     Nat.div_mul_cancel (FN ..),Nat.div_mul_cancel (Ff ..)]
  . rw[Nat.mul_right_comm,Nat.div_mul_cancel (FN ..)]
 have k:a.natAbs.gcd (p.den/p.den.gcd q.den*q.den)∣q.den:=by
  rw[<-b];exact Nat.dvd_trans (Ff ..) (Ff ..)
 rw[hs,Rat.num_normalize,Rat.den_normalize,u,i];refine⟨rfl,?_⟩;rw[Nat.mul_div_assoc _ k];simp
theorem UV(p q:Rat)(b a:Int)(c:b=(Int.gcd p.num q.den:Nat))(d:a=(Int.gcd q.num p.den:Nat)):
 (p*q).num=p.num/b*(q.num/a)/\((p*q).den:Int)=p.den/a*(q.den/b):=by
 have h:p*q=Rat.mul p q:=rfl;rw[h];delta Rat.mul
 subst c d;refine⟨?_,?_⟩
 . show Int.divExact _ _ _*Int.divExact _ _ _=_;rw[Int.divExact_eq_ediv,Int.divExact_eq_ediv];rfl
 . show((Nat.divExact _ _ _*Nat.divExact _ _ _:Nat):Int)=_;rw[Nat.divExact_eq_div,Nat.divExact_eq_div];simp[Int.gcd]
theorem PT(p q:Rat):Rat.divInt (p.num*q.den) (p.den*q.num)=p/q:=by
 rw[Fz,Rat.inv_def];conv=>rhs;rw[<-Fb p]
 rw[CU]
theorem PU(p q:Rat):Rat.divInt (p.num*q.num) (p.den*q.den)=p*q:=by
 conv=>rhs;rw[<-Fb p,<-Fb q]
 rw[CU]
theorem PV(p q:Rat):Rat.divInt (p.num*q.den+q.num*p.den) (p.den*q.den)=p+q:=by
 conv=>rhs;rw[<-Fb p,<-Fb q]
 rw[FG _ _ (by have:=p.den_nz;omega) (by have:=q.den_nz;omega)]
theorem Df.neg{k:Nat}{q:Rat}(h:Df k q):Df k (-q):=⟨h.1.neg,h.2⟩
@[irreducible] def Sq(q:Rat):Prop:=Df 1000000 q
theorem Sq.of(h:Df k q)(a:k<=1000000):Sq q:=by unfold Sq;exact h.mono a
theorem Sq.sm(h:Sq q):Df 1000000 q:=by unfold Sq at h;exact h
theorem Sq.num{q:Rat}(h:Sq q):Da q.num:=Da.of h.sm.1 om
theorem Sq.den{q:Rat}(h:Sq q):Da (q.den:Int):=Da.of h.sm.2 om
theorem Sq.neg{q:Rat}(h:Sq q):Sq (-q):=Sq.of h.sm.neg (Aa _)
theorem Sq.mulN(hp:Sq p)(hq:Sq q):Da (p.num*q.num):=Da.of (hp.sm.1.mul hq.sm.1) om
theorem Sq.mulD(hp:Sq p)(hq:Sq q):Da ((p.den:Int)*q.den):=Da.of (hp.sm.2.mul hq.sm.2) om
theorem Sq.cross(hp:Sq p)(hq:Sq q):Da (p.num*q.den):=Da.of (hp.sm.1.mul hq.sm.2) om
theorem Sq.cross2(hp:Sq p)(hq:Sq q):Da ((p.den:Int)*q.num):=Da.of (hp.sm.2.mul hq.sm.1) om
theorem Sq.sumN(hp:Sq p)(hq:Sq q):Da (p.num*q.den+q.num*p.den):=Da.of ((hp.sm.1.mul hq.sm.2).add (hq.sm.1.mul hp.sm.2)) om
