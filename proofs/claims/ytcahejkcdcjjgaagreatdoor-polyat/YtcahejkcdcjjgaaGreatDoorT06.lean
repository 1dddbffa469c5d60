import Derived.Test.YtcahejkcdcjjgaaGreatDoorT04
import Derived.Test.YtcahejkcdcjjgaaGreatDoorT05
set_option maxRecDepth 100000
set_option maxHeartbeats 16000000
namespace Go.Proofs.YtcahejkcdcjjgaaGreatDoor
open Go.RowKit Go.Shelf
def Sm(k:Nat)(z:Int):Prop:=z.natAbs<DN^k
variable{d n x y z:Int}{k m:Nat}{p q:Rat}
theorem Ld:0<DN:=by unfold DN;omega
theorem Sm.mono(h:Sm k z)(a:k<=m):Sm m z:=AC h (AD Ld a)
theorem Sm.le(h:Sm k x)(a:z.natAbs<=x.natAbs):Sm k z:=CM a h
theorem Sm.neg(h:Sm k z):Sm k (-z):=by unfold Sm at *;rwa[Fa]
theorem Sm.mul(b:Sm k x)(a:Sm m y):Sm (k+m) (x*y):=by
 unfold Sm at *;rw[Int.natAbs_mul,CH];exact Nat.mul_lt_mul_of_lt_of_le b (Fw a) (CM (AX _) a)
theorem Sm.add(a:Sm k x)(d:Sm k y):Sm (k+1) (x+y):=by
 unfold Sm at *;have b:=Int.natAbs_add_le x y;have e:DN^(k+1)=DN^k*DN:=AR ..;have c:DN^k*2<=DN^k*DN:=Az _ Je;omega
theorem Sm.div(a:Sm k x):Sm k (x/y):=a.le (Int.natAbs_ediv_le_natAbs x y)
theorem Sm.gcd{k:Nat}{x y:Int}(c:Sm k x)(b:Sm k y):Sm k ((Int.gcd x y:Nat):Int):=by
 by_cases a:x=0
 . refine b.le ?_;rw[a,Ci,Int.gcd,Int.natAbs_zero,Nat.gcd_zero_left];exact Aa _
 . refine c.le ?_;rw[Ci];exact Nat.gcd_le_left _ om
theorem Sm.words(h:Sm k z):(Jc DN z.natAbs).length<=k:=JI Je h
theorem Sm.size(h:Sm k z):EA z<=5*k:=by
 unfold EA;refine JI om (AC h ?_);rw[Nat.pow_mul];exact C9 (by unfold DN;decide) k
theorem Sm.of_words(h:(Jc DN z.natAbs).length<=k):Sm k z:=by
 have a:=Yd (Jo Je z.natAbs);rw[Jm Je]at a;exact AC a (AD Ld h)
theorem Sm.good{l:List UInt8}(h:good l=true):Sm 2000 (Ym l):=Sm.of_words (Q4 h uo)
theorem Sm.one(k:Nat)(a:1<=k):Sm k 1:=by
 have:Sm 1 1:=by unfold Sm DN;decide
 exact this.mono a
theorem Sm.zero(k:Nat):Sm k 0:=Fv Ld
@[irreducible] def DZ(z:Int):Prop:=Sm 10000000 z
theorem DZ.of(h:Sm k z)(a:k<=10000000):DZ z:=by unfold DZ;exact h.mono a
theorem DZ.sm(h:DZ z):Sm 10000000 z:=by unfold DZ at h;exact h
theorem DZ.words{z:Int}(h:DZ z):(Jc DN z.natAbs).length<=10000000:=h.sm.words
theorem DZ.size{z:Int}(h:DZ z):EA z<=50000000:=by have:=h.sm.size;omega
theorem DZ.gcd{x y:Int}(b:DZ x)(a:DZ y):DZ ((Int.gcd x y:Nat):Int):=DZ.of (b.sm.gcd a.sm) (Aa _)
theorem DZ.neg{x:Int}(a:DZ x):DZ (-x):=DZ.of a.sm.neg (Aa _)
theorem DZ.div{x y:Int}(a:DZ x):DZ (x/y):=DZ.of a.sm.div (Aa _)
theorem DZ.le{x z:Int}(a:DZ x)(h:z.natAbs<=x.natAbs):DZ z:=DZ.of (a.sm.le h) (Aa _)
theorem DZ.zero:DZ 0:=DZ.of (Sm.zero 1) om
theorem DZ.one:DZ 1:=DZ.of (Sm.one 1 om) om
def DX(k:Nat)(q:Rat):Prop:=Sm k q.num/\Sm k q.den
theorem DX.mono{k m:Nat}{q:Rat}(h:DX k q)(a:k<=m):DX m q:=⟨h.1.mono a,h.2.mono a⟩
theorem RW(n d:Int)(a:d≠0):(Rat.divInt n d).num.natAbs<=n.natAbs/\(Rat.divInt n d).den<=d.natAbs:=by
 rw[Rat.num_divInt,Rat.den_divInt,BE a];refine⟨?_,C6 _ _⟩;refine AE (Int.natAbs_ediv_le_natAbs _ _) ?_;rw[Int.natAbs_mul];have h:=Int.natAbs_sign d;rw[BE a]at h;rw[h,CN];exact Aa _
theorem DX.divInt{k:Nat}{n d:Int}(c:d≠0)(a:Sm k n)(b:Sm k d):DX k (Rat.divInt n d):=by
 have h:=RW n d c;exact⟨a.le h.1,b.le (by rw[Ci];exact h.2)⟩
def denZ(q:Rat):Int:=if q.den=1 then 0 else q.den
theorem KO:denZ q=0↔q.den=1:=by
 unfold denZ;have:=q.den_pos;split<;>omega
theorem RX{a b:Int}(c:b≠0):b.sign*a/(Int.gcd b a:Nat)=a/(if b<0 then -((Int.gcd a b:Nat):Int)else((Int.gcd a b:Nat):Int)):=by
 rw[Int.gcd_comm b a];split
 . rename_i h;rw[Int.sign_eq_neg_one_of_neg h,Int.ediv_neg,Int.neg_mul,Int.one_mul,Int.neg_ediv_of_dvd (Int.gcd_dvd_left ..)]
 . rename_i h;rw[Int.sign_eq_one_of_pos om,Int.one_mul]
theorem KP(a:d≠0):(Rat.divInt n d).num=n/(if d<0 then -((Int.gcd n d:Nat):Int)else((Int.gcd n d:Nat):Int)):=by
 rw[Rat.num_divInt,RX a]
theorem KQ(a:d≠0):((Rat.divInt n d).den:Int)=d/(if d<0 then -((Int.gcd n d:Nat):Int)else((Int.gcd n d:Nat):Int)):=by
 rw[Rat.den_divInt,BE a,Int.gcd_comm d n];split
 . rename_i h;rw[Int.ediv_neg,<-Int.neg_ediv_of_dvd (Int.gcd_dvd_right ..)];have e:-d=(d.natAbs:Int):=om
   rw[e];simp
 . rename_i h;have e:d=(d.natAbs:Int):=om
   generalize Int.gcd n d=g;rw[e];simp
theorem RY(p q:Rat)(g l r a c:Int)(b:g=(Int.gcd p.den q.den:Nat))(hl:l=p.den/g)(t:r=q.den/g)(j:a=p.num*r+q.num*l)(o:c=(Int.gcd a g:Nat)):
 (p+q).num=a/c/\((p+q).den:Int)=l*(q.den/c):=by
 have m:Int.gcd p.den q.den=p.den.gcd q.den:=rfl;rw[m]at b;have n:p.den.gcd q.den≠0:=Nat.gcd_ne_zero_left p.den_nz;have i:l=((p.den/p.den.gcd q.den:Nat):Int):=by rw[hl,b];simp
 have s:r=((q.den/p.den.gcd q.den:Nat):Int):=by rw[t,b];simp
 have d:=Rat.add.aux p q rfl rfl rfl;dsimp only at d;have f:a=p.num*((q.den/p.den.gcd q.den:Nat):Int)+q.num*((p.den/p.den.gcd q.den:Nat):Int):=by rw[j,i,s]
 rw[<-f]at d;have u:c=((a.natAbs.gcd (p.den/p.den.gcd q.den*q.den):Nat):Int):=by rw[o,<-d,b];rfl
 have e:p.den/p.den.gcd q.den*q.den≠0:=Ft (by have:=Nat.div_gcd_pos_of_pos_left q.den p.den_pos;omega) q.den_nz;have hs:p+q=Rat.normalize a (p.den/p.den.gcd q.den*q.den) e:=by
  rw[Rat.add_def,<-Rat.normalize_mul_right e n];congr 1
  . rw[f];simp only[Int.add_mul,Int.mul_assoc,Int.ofNat_mul_ofNat,
     Nat.div_mul_cancel (Nat.gcd_dvd_left ..),Nat.div_mul_cancel (Fi ..)]
  . rw[Nat.mul_right_comm,Nat.div_mul_cancel (Nat.gcd_dvd_left ..)]
 have k:a.natAbs.gcd (p.den/p.den.gcd q.den*q.den)∣q.den:=by
  rw[<-d];exact Nat.dvd_trans (Fi ..) (Fi ..)
 rw[hs,Rat.num_normalize,Rat.den_normalize,u,i];refine⟨rfl,?_⟩;rw[Nat.mul_div_assoc _ k];simp
theorem RZ(p q:Rat)(a b:Int)(c:a=(Int.gcd p.num q.den:Nat))(d:b=(Int.gcd q.num p.den:Nat)):
 (p*q).num=p.num/a*(q.num/b)/\((p*q).den:Int)=p.den/b*(q.den/a):=by
 have h:p*q=Rat.mul p q:=rfl;rw[h];delta Rat.mul
 subst c d;refine⟨?_,?_⟩
 . show Int.divExact _ _ _*Int.divExact _ _ _=_;rw[Int.divExact_eq_ediv,Int.divExact_eq_ediv];rfl
 . show((Nat.divExact _ _ _*Nat.divExact _ _ _:Nat):Int)=_;rw[Nat.divExact_eq_div,Nat.divExact_eq_div];simp[Int.gcd]
theorem Ra(p q:Rat):Rat.divInt (p.num*q.den) (p.den*q.num)=p/q:=by
 rw[Rat.div_def,Rat.inv_def];conv=>rhs;rw[<-CU p]
 rw[Rat.divInt_mul_divInt]
theorem Le(p q:Rat):Rat.divInt (p.num*q.num) (p.den*q.den)=p*q:=by
 conv=>rhs;rw[<-CU p,<-CU q]
 rw[Rat.divInt_mul_divInt]
theorem Lf(p q:Rat):Rat.divInt (p.num*q.den+q.num*p.den) (p.den*q.den)=p+q:=by
 conv=>rhs;rw[<-CU p,<-CU q]
 rw[Rat.divInt_add_divInt _ _ (by have:=p.den_nz;omega) (by have:=q.den_nz;omega)]
theorem DX.add{k:Nat}{p q:Rat}(b:DX k p)(a:DX k q):DX (k+k+1) (p+q):=by
 rw[<-Lf];refine DX.divInt ?_ ((b.1.mul a.2).add (a.1.mul b.2)) ((b.2.mul a.2).mono om);exact Cs (by have:=p.den_nz;omega) (by have:=q.den_nz;omega)
theorem DX.mul{k:Nat}{p q:Rat}(b:DX k p)(a:DX k q):DX (k+k) (p*q):=by
 rw[<-Le];refine DX.divInt ?_ (b.1.mul a.1) (b.2.mul a.2);exact Cs (by have:=p.den_nz;omega) (by have:=q.den_nz;omega)
theorem DX.over(b:DX k p)(a:DX k q)(c:q≠0):DX (k+k) (p/q):=by
 rw[<-Ra];refine DX.divInt ?_ (b.1.mul a.2) (b.2.mul a.1);exact Cs (by have:=p.den_nz;omega) (λh=>c (Rat.num_eq_zero.1 h))
theorem DX.neg{k:Nat}{q:Rat}(h:DX k q):DX k (-q):=⟨h.1.neg,h.2⟩
theorem DX.denZ{k:Nat}{q:Rat}(h:DX k q):Sm k (denZ q):=by
 unfold Go.Proofs.YtcahejkcdcjjgaaGreatDoor.denZ;split
 . exact Sm.zero k
 . exact h.2
@[irreducible] def Sq(q:Rat):Prop:=DX 1000000 q
theorem Sq.of(h:DX k q)(a:k<=1000000):Sq q:=by unfold Sq;exact h.mono a
theorem Sq.sm(h:Sq q):DX 1000000 q:=by unfold Sq at h;exact h
theorem Sq.num{q:Rat}(h:Sq q):DZ q.num:=DZ.of h.sm.1 om
theorem Sq.den{q:Rat}(h:Sq q):DZ (q.den:Int):=DZ.of h.sm.2 om
theorem Sq.neg{q:Rat}(h:Sq q):Sq (-q):=Sq.of h.sm.neg (Aa _)
theorem Sq.mulN(b:Sq p)(a:Sq q):DZ (p.num*q.num):=DZ.of (b.sm.1.mul a.sm.1) om
theorem Sq.mulD(b:Sq p)(a:Sq q):DZ ((p.den:Int)*q.den):=DZ.of (b.sm.2.mul a.sm.2) om
theorem Sq.cross(b:Sq p)(a:Sq q):DZ (p.num*q.den):=DZ.of (b.sm.1.mul a.sm.2) om
theorem Sq.sumN(b:Sq p)(a:Sq q):DZ (p.num*q.den+q.num*p.den):=DZ.of ((b.sm.1.mul a.sm.2).add (a.sm.1.mul b.sm.2)) om
