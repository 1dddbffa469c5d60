import Derived.Test.YteldjhhjnchdeaaGreatDoorW04
import Derived.Test.YteldjhhjnchdeaaGreatDoorW05
set_option maxRecDepth 100000
set_option maxHeartbeats 16000000
namespace Go.Proofs.YteldjhhjnchdeaaGreatDoor
open Go.RowKit Go.Shelf
def Sm(k:Nat)(z:Int):Prop:=z.natAbs<Y^k
variable{d n x y z:Int}{k m:Nat}{p q:Rat}
theorem GQ:0<Y:=by unfold Y;omega
theorem Sm.mono(h:Sm k z)(a:k<=m):Sm m z:=AJ h (Az GQ a)
theorem Sm.le(h:Sm k x)(a:z.natAbs<=x.natAbs):Sm k z:=Cf a h
theorem Sm.neg(h:Sm k z):Sm k (-z):=by unfold Sm at *;rwa[FM]
theorem Sm.mul(b:Sm k x)(a:Sm m y):Sm (k+m) (x*y):=by
 unfold Sm at *;rw[Cr,CE];exact Nat.mul_lt_mul_of_lt_of_le b (Nat.le_of_lt a) (Cf (AK _) a)
theorem Sm.add(d:Sm k x)(e:Sm k y):Sm (k+1) (x+y):=by
 unfold Sm at *;have a:=FD x y;have b:Y^(k+1)=Y^k*Y:=AY ..;have c:Y^k*2<=Y^k*Y:=As _ Jf;omega
theorem Sm.div(a:Sm k x):Sm k (x/y):=a.le (Int.natAbs_ediv_le_natAbs x y)
theorem Sm.gcd{k:Nat}{x y:Int}(b:Sm k x)(c:Sm k y):Sm k ((Int.gcd x y:Nat):Int):=by
 by_cases a:x=0
 . refine c.le ?_;rw[a,AC,Int.gcd,Int.natAbs_zero,Nat.gcd_zero_left];exact Aa _
 . refine b.le ?_;rw[AC];exact Nat.gcd_le_left _ Z
theorem Sm.words(h:Sm k z):(Jg Y z.natAbs).length<=k:=JX Jf h
theorem Sm.size(h:Sm k z):L1 z<=5*k:=by
 unfold L1;refine JX Z (AJ h ?_);rw[FJ];exact CM (by unfold Y;decide) k
theorem Sm.of_words(h:(Jg Y z.natAbs).length<=k):Sm k z:=by
 have a:=Yv (Ju Jf z.natAbs);rw[Js Jf]at a;exact AJ a (Az GQ h)
theorem Sm.good{l:List UInt8}(h:good l=true):Sm 2000 (YX l):=Sm.of_words (SB h uo)
theorem Sm.one(k:Nat)(a:1<=k):Sm k 1:=by
 have:Sm 1 1:=by unfold Sm Y;decide
 exact this.mono a
theorem Sm.zero(k:Nat):Sm k 0:=CA GQ
@[irreducible] def DT(z:Int):Prop:=Sm 10000000 z
theorem DT.of(h:Sm k z)(a:k<=10000000):DT z:=by unfold DT;exact h.mono a
theorem DT.sm(h:DT z):Sm 10000000 z:=by unfold DT at h;exact h
theorem DT.words{z:Int}(h:DT z):(Jg Y z.natAbs).length<=10000000:=h.sm.words
theorem DT.size{z:Int}(h:DT z):L1 z<=50000000:=by have:=h.sm.size;omega
theorem DT.gcd{x y:Int}(a:DT x)(b:DT y):DT ((Int.gcd x y:Nat):Int):=DT.of (a.sm.gcd b.sm) (Aa _)
theorem DT.neg{x:Int}(a:DT x):DT (-x):=DT.of a.sm.neg (Aa _)
theorem DT.div{x y:Int}(a:DT x):DT (x/y):=DT.of a.sm.div (Aa _)
theorem DT.zero:DT 0:=DT.of (Sm.zero 1) Z
theorem DT.one:DT 1:=DT.of (Sm.one 1 Z) Z
def DX(k:Nat)(q:Rat):Prop:=Sm k q.num/\Sm k q.den
theorem DX.mono{k m:Nat}{q:Rat}(h:DX k q)(a:k<=m):DX m q:=⟨h.1.mono a,h.2.mono a⟩
theorem SY(n d:Int)(a:d≠0):(Rat.divInt n d).num.natAbs<=n.natAbs/\(Rat.divInt n d).den<=d.natAbs:=by
 rw[Rat.num_divInt,Rat.den_divInt,BH a];refine⟨?_,Fx _ _⟩;refine Aw (Int.natAbs_ediv_le_natAbs _ _) ?_;rw[Cr];have h:=Int.natAbs_sign d;rw[BH a]at h;rw[h,Ct];exact Aa _
theorem DX.divInt{k:Nat}{n d:Int}(a:d≠0)(c:Sm k n)(b:Sm k d):DX k (Rat.divInt n d):=by
 have h:=SY n d a;exact⟨c.le h.1,b.le (by rw[AC];exact h.2)⟩
def Ds(q:Rat):Int:=if q.den=1 then 0 else q.den
theorem Kb:Ds q=0↔q.den=1:=by
 unfold Ds;have:=q.den_pos;split<;>omega
theorem SZ{a b:Int}(c:b≠0):b.sign*a/(Int.gcd b a:Nat)=a/(if b<0 then -((Int.gcd a b:Nat):Int)else((Int.gcd a b:Nat):Int)):=by
 rw[Int.gcd_comm b a];split
 . rename_i h;rw[Int.sign_eq_neg_one_of_neg h,Int.ediv_neg,Int.neg_mul,Int.one_mul,Int.neg_ediv_of_dvd (Int.gcd_dvd_left ..)]
 . rename_i h;rw[Int.sign_eq_one_of_pos Z,Int.one_mul]
theorem OC(a:d≠0):(Rat.divInt n d).num=n/(if d<0 then -((Int.gcd n d:Nat):Int)else((Int.gcd n d:Nat):Int)):=by
 rw[Rat.num_divInt,SZ a]
theorem OD(a:d≠0):((Rat.divInt n d).den:Int)=d/(if d<0 then -((Int.gcd n d:Nat):Int)else((Int.gcd n d:Nat):Int)):=by
 rw[Rat.den_divInt,BH a,Int.gcd_comm d n];split
 . rename_i h;rw[Int.ediv_neg,<-Int.neg_ediv_of_dvd (Int.gcd_dvd_right ..)];have e:-d=(d.natAbs:Int):=Z
   rw[e];simp
 . rename_i h;have e:d=(d.natAbs:Int):=Z
   generalize Int.gcd n d=g;rw[e];simp
theorem Sa(p q:Rat)(g l r a b:Int)(d:g=(Int.gcd p.den q.den:Nat))(hl:l=p.den/g)(t:r=q.den/g)(n:a=p.num*r+q.num*l)(o:b=(Int.gcd a g:Nat)):
 (p+q).num=a/b/\((p+q).den:Int)=l*(q.den/b):=by
 have m:Int.gcd p.den q.den=p.den.gcd q.den:=rfl;rw[m]at d;have k:p.den.gcd q.den≠0:=Nat.gcd_ne_zero_left p.den_nz;have i:l=((p.den/p.den.gcd q.den:Nat):Int):=by rw[hl,d];simp
 have u:r=((q.den/p.den.gcd q.den:Nat):Int):=by rw[t,d];simp
 have c:=Rat.add.aux p q rfl rfl rfl;dsimp only at c;have f:a=p.num*((q.den/p.den.gcd q.den:Nat):Int)+q.num*((p.den/p.den.gcd q.den:Nat):Int):=by rw[n,i,u]
 rw[<-f]at c;have s:b=((a.natAbs.gcd (p.den/p.den.gcd q.den*q.den):Nat):Int):=by rw[o,<-c,d];rfl
 have e:p.den/p.den.gcd q.den*q.den≠0:=Nat.mul_ne_zero (by have:=Nat.div_gcd_pos_of_pos_left q.den p.den_pos;omega) q.den_nz;have hs:p+q=Rat.normalize a (p.den/p.den.gcd q.den*q.den) e:=by
  rw[Rat.add_def,<-Rat.normalize_mul_right e k];congr 1
  . rw[f];simp only[Int.add_mul,Fp,Int.ofNat_mul_ofNat,
     Nat.div_mul_cancel (Fg ..),Nat.div_mul_cancel (CR ..)]
  . rw[Nat.mul_right_comm,Nat.div_mul_cancel (Fg ..)]
 have j:a.natAbs.gcd (p.den/p.den.gcd q.den*q.den)∣q.den:=by
  rw[<-c];exact Nat.dvd_trans (CR ..) (CR ..)
 rw[hs,Rat.num_normalize,Rat.den_normalize,s,i];refine⟨rfl,?_⟩;rw[Nat.mul_div_assoc _ j];simp
theorem Sb(p q:Rat)(a b:Int)(c:a=(Int.gcd p.num q.den:Nat))(d:b=(Int.gcd q.num p.den:Nat)):
 (p*q).num=p.num/a*(q.num/b)/\((p*q).den:Int)=p.den/b*(q.den/a):=by
 have h:p*q=Rat.mul p q:=rfl;rw[h];delta Rat.mul
 subst c d;refine⟨?_,?_⟩
 . show Int.divExact _ _ _*Int.divExact _ _ _=_;rw[Int.divExact_eq_ediv,Int.divExact_eq_ediv];rfl
 . show((Nat.divExact _ _ _*Nat.divExact _ _ _:Nat):Int)=_;rw[Nat.divExact_eq_div,Nat.divExact_eq_div];simp[Int.gcd]
theorem Sc(p q:Rat):Rat.divInt (p.num*q.den) (p.den*q.num)=p/q:=by
 rw[Ft,Rat.inv_def];conv=>rhs;rw[<-C2 p]
 rw[Fi]
theorem Sd(p q:Rat):Rat.divInt (p.num*q.num) (p.den*q.den)=p*q:=by
 conv=>rhs;rw[<-C2 p,<-C2 q]
 rw[Fi]
theorem Se(p q:Rat):Rat.divInt (p.num*q.den+q.num*p.den) (p.den*q.den)=p+q:=by
 conv=>rhs;rw[<-C2 p,<-C2 q]
 rw[FA _ _ (by have:=p.den_nz;omega) (by have:=q.den_nz;omega)]
theorem DX.neg{k:Nat}{q:Rat}(h:DX k q):DX k (-q):=⟨h.1.neg,h.2⟩
@[irreducible] def Sq(q:Rat):Prop:=DX 1000000 q
theorem Sq.of(h:DX k q)(a:k<=1000000):Sq q:=by unfold Sq;exact h.mono a
theorem Sq.sm(h:Sq q):DX 1000000 q:=by unfold Sq at h;exact h
theorem Sq.num{q:Rat}(h:Sq q):DT q.num:=DT.of h.sm.1 Z
theorem Sq.den{q:Rat}(h:Sq q):DT (q.den:Int):=DT.of h.sm.2 Z
theorem Sq.neg{q:Rat}(h:Sq q):Sq (-q):=Sq.of h.sm.neg (Aa _)
theorem Sq.mulN(hp:Sq p)(hq:Sq q):DT (p.num*q.num):=DT.of (hp.sm.1.mul hq.sm.1) Z
theorem Sq.cross(hp:Sq p)(hq:Sq q):DT (p.num*q.den):=DT.of (hp.sm.1.mul hq.sm.2) Z
theorem Sq.cross2(hp:Sq p)(hq:Sq q):DT ((p.den:Int)*q.num):=DT.of (hp.sm.2.mul hq.sm.1) Z
