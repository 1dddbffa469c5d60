import Derived.Test.YtakpoihdghihmaaGreatDoorC04
import Derived.Test.YtakpoihdghihmaaGreatDoorC05
set_option maxRecDepth 100000
set_option maxHeartbeats 16000000
namespace Go.Proofs.YtakpoihdghihmaaGreatDoor
open Go.RowKit Go.Shelf
def Sm(k:Nat)(z:Int):Prop:=z.natAbs<DN^k
variable{d n x y z:Int}{k m:Nat}{p q:Rat}
theorem KK:0<DN:=by unfold DN;omega
theorem Sm.mono(h:Sm k z)(a:k<=m):Sm m z:=AP h (Aw KK a)
theorem Sm.le(h:Sm k x)(a:z.natAbs<=x.natAbs):Sm k z:=Cr a h
theorem Sm.neg(h:Sm k z):Sm k (-z):=by unfold Sm at *;rwa[FM]
theorem Sm.mul(b:Sm k x)(a:Sm m y):Sm (k+m) (x*y):=by
 unfold Sm at *;rw[CK,CV];exact Nat.mul_lt_mul_of_lt_of_le b (F6 a) (Cr (Az _) a)
theorem Sm.add(d:Sm k x)(e:Sm k y):Sm (k+1) (x+y):=by
 unfold Sm at *;have a:=FW x y;have b:DN^(k+1)=DN^k*DN:=AZ ..;have c:DN^k*2<=DN^k*DN:=Ap _ Jg;omega
theorem Sm.div(a:Sm k x):Sm k (x/y):=a.le (Int.natAbs_ediv_le_natAbs x y)
theorem Sm.gcd{k:Nat}{x y:Int}(b:Sm k x)(c:Sm k y):Sm k ((Int.gcd x y:Nat):Int):=by
 by_cases a:x=0
 . refine c.le ?_;rw[a,AK,Int.gcd,Int.natAbs_zero,Nat.gcd_zero_left];exact Aa _
 . refine b.le ?_;rw[AK];exact Nat.gcd_le_left _ O
theorem Sm.words(h:Sm k z):(Je DN z.natAbs).length<=k:=YL Jg h
theorem Sm.size(h:Sm k z):EP z<=5*k:=by
 unfold EP;refine YL O (AP h ?_);rw[Nat.pow_mul];exact Fw (by unfold DN;decide) k
theorem Sm.of_words(h:(Je DN z.natAbs).length<=k):Sm k z:=by
 have a:=YB (Ju Jg z.natAbs);rw[Jq Jg]at a;exact AP a (Aw KK h)
theorem Sm.good{l:List UInt8}(h:good l=true):Sm 2000 (Xe l):=Sm.of_words (WN h uo)
theorem Sm.one(k:Nat)(a:1<=k):Sm k 1:=by
 have:Sm 1 1:=by unfold Sm DN;decide
 exact this.mono a
theorem Sm.zero(k:Nat):Sm k 0:=C6 KK
@[irreducible] def DY(z:Int):Prop:=Sm 10000000 z
theorem DY.of(h:Sm k z)(a:k<=10000000):DY z:=by unfold DY;exact h.mono a
theorem DY.sm(h:DY z):Sm 10000000 z:=by unfold DY at h;exact h
theorem DY.words{z:Int}(h:DY z):(Je DN z.natAbs).length<=10000000:=h.sm.words
theorem DY.size{z:Int}(h:DY z):EP z<=50000000:=by have:=h.sm.size;omega
theorem DY.gcd{x y:Int}(a:DY x)(b:DY y):DY ((Int.gcd x y:Nat):Int):=DY.of (a.sm.gcd b.sm) (Aa _)
theorem DY.neg{x:Int}(a:DY x):DY (-x):=DY.of a.sm.neg (Aa _)
theorem DY.div{x y:Int}(a:DY x):DY (x/y):=DY.of a.sm.div (Aa _)
theorem DY.zero:DY 0:=DY.of (Sm.zero 1) O
theorem DY.one:DY 1:=DY.of (Sm.one 1 O) O
def Db(k:Nat)(q:Rat):Prop:=Sm k q.num/\Sm k q.den
theorem Db.mono{k m:Nat}{q:Rat}(h:Db k q)(a:k<=m):Db m q:=⟨h.1.mono a,h.2.mono a⟩
theorem ZH(n d:Int)(a:d≠0):(Rat.divInt n d).num.natAbs<=n.natAbs/\(Rat.divInt n d).den<=d.natAbs:=by
 rw[Rat.num_divInt,Rat.den_divInt,BB a];refine⟨?_,FJ _ _⟩;refine Am (Int.natAbs_ediv_le_natAbs _ _) ?_;rw[CK];have h:=Int.natAbs_sign d;rw[BB a]at h;rw[h,CG];exact Aa _
theorem Db.divInt{k:Nat}{n d:Int}(a:d≠0)(c:Sm k n)(b:Sm k d):Db k (Rat.divInt n d):=by
 have h:=ZH n d a;exact⟨c.le h.1,b.le (by rw[AK];exact h.2)⟩
def EI(q:Rat):Int:=if q.den=1 then 0 else q.den
theorem Mi:EI q=0↔q.den=1:=by
 unfold EI;have:=q.den_pos;split<;>omega
theorem ZI{a b:Int}(c:b≠0):b.sign*a/(Int.gcd b a:Nat)=a/(if b<0 then -((Int.gcd a b:Nat):Int)else((Int.gcd a b:Nat):Int)):=by
 rw[Int.gcd_comm b a];split
 . rename_i h;rw[C1 h,Int.ediv_neg,Int.neg_mul,Int.one_mul,Int.neg_ediv_of_dvd (Int.gcd_dvd_left ..)]
 . rename_i h;rw[FB O,Int.one_mul]
theorem Mj(a:d≠0):(Rat.divInt n d).num=n/(if d<0 then -((Int.gcd n d:Nat):Int)else((Int.gcd n d:Nat):Int)):=by
 rw[Rat.num_divInt,ZI a]
theorem Mk(a:d≠0):((Rat.divInt n d).den:Int)=d/(if d<0 then -((Int.gcd n d:Nat):Int)else((Int.gcd n d:Nat):Int)):=by
 rw[Rat.den_divInt,BB a,Int.gcd_comm d n];split
 . rename_i h;rw[Int.ediv_neg,<-Int.neg_ediv_of_dvd (Int.gcd_dvd_right ..)];have e:-d=(d.natAbs:Int):=O
   rw[e];simp
 . rename_i h;have e:d=(d.natAbs:Int):=O
   generalize Int.gcd n d=g;rw[e];simp
theorem ZJ(p q:Rat)(g l r a b:Int)(d:g=(Int.gcd p.den q.den:Nat))(hl:l=p.den/g)(t:r=q.den/g)(n:a=p.num*r+q.num*l)(o:b=(Int.gcd a g:Nat)):
 (p+q).num=a/b/\((p+q).den:Int)=l*(q.den/b):=by
 have m:Int.gcd p.den q.den=p.den.gcd q.den:=rfl;rw[m]at d;have k:p.den.gcd q.den≠0:=Nat.gcd_ne_zero_left p.den_nz;have i:l=((p.den/p.den.gcd q.den:Nat):Int):=by rw[hl,d];simp
 have u:r=((q.den/p.den.gcd q.den:Nat):Int):=by rw[t,d];simp
 have c:=Rat.add.aux p q rfl rfl rfl;dsimp only at c;have f:a=p.num*((q.den/p.den.gcd q.den:Nat):Int)+q.num*((p.den/p.den.gcd q.den:Nat):Int):=by rw[n,i,u]
 rw[<-f]at c;have s:b=((a.natAbs.gcd (p.den/p.den.gcd q.den*q.den):Nat):Int):=by rw[o,<-c,d];rfl
 have e:p.den/p.den.gcd q.den*q.den≠0:=F4 (by have:=Nat.div_gcd_pos_of_pos_left q.den p.den_pos;omega) q.den_nz;have v:p+q=Rat.normalize a (p.den/p.den.gcd q.den*q.den) e:=by
  rw[Rat.add_def,<-Rat.normalize_mul_right e k];congr 1
  . rw[f];simp only[Int.add_mul,CT,Int.ofNat_mul_ofNat,
     Nat.div_mul_cancel (FE ..),Nat.div_mul_cancel (C8 ..)]
  . rw[Nat.mul_right_comm,Nat.div_mul_cancel (FE ..)]
 have j:a.natAbs.gcd (p.den/p.den.gcd q.den*q.den)∣q.den:=by
  rw[<-c];exact Nat.dvd_trans (C8 ..) (C8 ..)
 rw[v,Rat.num_normalize,Rat.den_normalize,s,i];refine⟨rfl,?_⟩;rw[Nat.mul_div_assoc _ j];simp
theorem ZK(p q:Rat)(a b:Int)(c:a=(Int.gcd p.num q.den:Nat))(d:b=(Int.gcd q.num p.den:Nat)):
 (p*q).num=p.num/a*(q.num/b)/\((p*q).den:Int)=p.den/b*(q.den/a):=by
 have h:p*q=Rat.mul p q:=rfl;rw[h];delta Rat.mul
 subst c d;refine⟨?_,?_⟩
 . show Int.divExact _ _ _*Int.divExact _ _ _=_;rw[Int.divExact_eq_ediv,Int.divExact_eq_ediv];rfl
 . show((Nat.divExact _ _ _*Nat.divExact _ _ _:Nat):Int)=_;rw[Nat.divExact_eq_div,Nat.divExact_eq_div];simp[Int.gcd]
theorem Rf(p q:Rat):Rat.divInt (p.num*q.den) (p.den*q.num)=p/q:=by
 rw[F0,Rat.inv_def];conv=>rhs;rw[<-Fd p]
 rw[Fb]
theorem Rg(p q:Rat):Rat.divInt (p.num*q.num) (p.den*q.den)=p*q:=by
 conv=>rhs;rw[<-Fd p,<-Fd q]
 rw[Fb]
theorem Rh(p q:Rat):Rat.divInt (p.num*q.den+q.num*p.den) (p.den*q.den)=p+q:=by
 conv=>rhs;rw[<-Fd p,<-Fd q]
 rw[FU _ _ (by have:=p.den_nz;omega) (by have:=q.den_nz;omega)]
theorem Db.neg{k:Nat}{q:Rat}(h:Db k q):Db k (-q):=⟨h.1.neg,h.2⟩
@[irreducible] def Sq(q:Rat):Prop:=Db 1000000 q
theorem Sq.of(h:Db k q)(a:k<=1000000):Sq q:=by unfold Sq;exact h.mono a
theorem Sq.sm(h:Sq q):Db 1000000 q:=by unfold Sq at h;exact h
theorem Sq.num{q:Rat}(h:Sq q):DY q.num:=DY.of h.sm.1 O
theorem Sq.den{q:Rat}(h:Sq q):DY (q.den:Int):=DY.of h.sm.2 O
theorem Sq.neg{q:Rat}(h:Sq q):Sq (-q):=Sq.of h.sm.neg (Aa _)
theorem Sq.mulN(hp:Sq p)(hq:Sq q):DY (p.num*q.num):=DY.of (hp.sm.1.mul hq.sm.1) O
theorem Sq.mulD(hp:Sq p)(hq:Sq q):DY ((p.den:Int)*q.den):=DY.of (hp.sm.2.mul hq.sm.2) O
theorem Sq.cross(hp:Sq p)(hq:Sq q):DY (p.num*q.den):=DY.of (hp.sm.1.mul hq.sm.2) O
theorem Sq.cross2(hp:Sq p)(hq:Sq q):DY ((p.den:Int)*q.num):=DY.of (hp.sm.2.mul hq.sm.1) O
theorem Sq.sumN(hp:Sq p)(hq:Sq q):DY (p.num*q.den+q.num*p.den):=DY.of ((hp.sm.1.mul hq.sm.2).add (hq.sm.1.mul hp.sm.2)) O
