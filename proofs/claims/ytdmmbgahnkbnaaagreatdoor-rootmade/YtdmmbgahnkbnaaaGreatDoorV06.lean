import Derived.Test.YtdmmbgahnkbnaaaGreatDoorV04
import Derived.Test.YtdmmbgahnkbnaaaGreatDoorV05
set_option linter.all false
set_option maxRecDepth 99999
set_option maxHeartbeats 0
namespace Go.Proofs.YtdmmbgahnkbnaaaGreatDoor
open Go.RowKit Go.Shelf
def Sm(k:Nat)(z:Int):Prop:=z.natAbs<Y^k
variable{d n x y z:Int}{k m:Nat}{p q:Rat}
theorem Hf:0<Y:=by unfold Y;omega
def Sm.mono(h:Sm k z)(hk:k<=m):Sm m z:=An h (AE Hf hk)
def Sm.le(h:Sm k x)(a:z.natAbs<=x.natAbs):Sm k z:=Cz a h
def Sm.neg(h:Sm k z):Sm k (-z):=by unfold Sm at *;rwa[FJ]
theorem Sm.mul(a:Sm k x)(b:Sm m y):Sm (k+m) (x*y):=by
 grind[Sm,Cx,Nat.mul_lt_mul_of_lt_of_le]
theorem Sm.add(a:Sm k x)(b:Sm k y):Sm (k+1) (x+y):=by
 grind[Sm,Y]
def Sm.div(a:Sm k x):Sm k (x/y):=a.le (Int.natAbs_ediv_le_natAbs x y)
def Sm.gcd{k:Nat}{x y:Int}(b:Sm k x)(c:Sm k y):Sm k ((Int.gcd x y:Nat):Int):=by
 by_cases a:x=0
 . refine c.le ?_;rw[a,Az,Int.gcd,Int.natAbs_zero,Nat.gcd_zero_left];exact Aa _
 . refine b.le ?_;rw[Az];exact Nat.gcd_le_left _ O
def Sm.words(h:Sm k z):(Jh Y z.natAbs).length<=k:=Yr Jg h
def Sm.size(h:Sm k z):Pe z<=5*k:=by
 unfold Pe;refine Yr O (An h ?_);rw[Fu];exact CG (by unfold Y;decide) k
def Sm.of_words(h:(Jh Y z.natAbs).length<=k):Sm k z:=by
 have a:=Y4 (JA Jg z.natAbs);rw[Jz Jg]at a;exact An a (AE Hf h)
theorem Sm.good{l:List UInt8}(h:good l=true):Sm 2000 (Dz l):=Sm.of_words (dH h uo)
theorem Sm.one(k:Nat)(hk:1<=k):Sm k 1:=by
 have:Sm 1 1:=by unfold Sm Y;decide
 exact this.mono hk
theorem Sm.zero(k:Nat):Sm k 0:=Cy Hf
structure Sok(z:Int):Prop where
 sm:Sm 10000000000 z
theorem Sok.of(h:Sm k z)(hk:k<=10000000000):Sok z:=⟨h.mono hk⟩
def Sok.words{z:Int}(h:Sok z):(Jh Y z.natAbs).length<=10000000000:=h.sm.words
def Sok.size{z:Int}(h:Sok z):Pe z<=50000000000:=by have:=h.sm.size;omega
def Sok.gcd{x y:Int}(a:Sok x)(b:Sok y):Sok ((Int.gcd x y:Nat):Int):=Sok.of (a.sm.gcd b.sm) (Aa _)
def Sok.neg{x:Int}(a:Sok x):Sok (-x):=Sok.of a.sm.neg (Aa _)
def Sok.div{x y:Int}(a:Sok x):Sok (x/y):=Sok.of a.sm.div (Aa _)
theorem Sok.zero:Sok 0:=Sok.of (Sm.zero 1) O
theorem Sok.one:Sok 1:=Sok.of (Sm.one 1 O) O
def DQ(k:Nat)(q:Rat):Prop:=Sm k q.num/\Sm k q.den
def DQ.mono{k m:Nat}{q:Rat}(h:DQ k q)(hk:k<=m):DQ m q:=⟨h.1.mono hk,h.2.mono hk⟩
theorem dl(n d:Int)(a:d≠0):(Rat.divInt n d).num.natAbs<=n.natAbs/\(Rat.divInt n d).den<=d.natAbs:=by
 rw[Rat.num_divInt,Rat.den_divInt,BE a];refine⟨?_,Fb _ _⟩;grind[Int.natAbs_ediv_le_natAbs]
theorem DQ.divInt{k:Nat}{n d:Int}(a:d≠0)(hn:Sm k n)(hk:Sm k d):DQ k (Rat.divInt n d):=by
 have h:=dl n d a;exact⟨hn.le h.1,hk.le O⟩
def D7(q:Rat):Int:=if q.den=1 then 0 else q.den
def NQ:D7 q=0↔q.den=1:=by
 unfold D7;have:=q.den_pos;split<;>omega
theorem dm{a b:Int}(c:b≠0):b.sign*a/(Int.gcd b a:Nat)=a/(if b<0 then -((Int.gcd a b:Nat):Int)else((Int.gcd a b:Nat):Int)):=by
 grind[Int.gcd_comm,Int.ediv_neg,Int.neg_ediv_of_dvd,Int.gcd_dvd_left]
def TS(a:d≠0):(Rat.divInt n d).num=n/(if d<0 then -((Int.gcd n d:Nat):Int)else((Int.gcd n d:Nat):Int)):=by
 rw[Rat.num_divInt,dm a]
theorem TT(a:d≠0):((Rat.divInt n d).den:Int)=d/(if d<0 then -((Int.gcd n d:Nat):Int)else((Int.gcd n d:Nat):Int)):=by
 grind[Rat.den_divInt,Int.gcd_comm,Int.ediv_neg,Int.neg_ediv_of_dvd,Int.gcd_dvd_right]
theorem dn(p q:Rat)(g l r ab a:Int)(hg:g=(Int.gcd p.den q.den:Nat))(hl:l=p.den/g)(m:r=q.den/g)(i:ab=p.num*r+q.num*l)(j:a=(Int.gcd ab g:Nat)):
 (p+q).num=ab/a/\((p+q).den:Int)=l*(q.den/a):=by
 have f:Int.gcd p.den q.den=p.den.gcd q.den:=rfl;rw[f]at hg;have e:p.den.gcd q.den≠0:=Nat.gcd_ne_zero_left p.den_nz;have k:l=((p.den/p.den.gcd q.den:Nat):Int):=by rw[hl,hg];simp
 have n:r=((q.den/p.den.gcd q.den:Nat):Int):=by rw[m,hg];simp
 have b:=Rat.add.aux p q rfl rfl rfl;dsimp only at b;have d:ab=p.num*((q.den/p.den.gcd q.den:Nat):Int)+q.num*((p.den/p.den.gcd q.den:Nat):Int):=by rw[i,k,n]
 rw[<-d]at b;have o:a=((ab.natAbs.gcd (p.den/p.den.gcd q.den*q.den):Nat):Int):=by rw[j,<-b,hg];rfl
 have c:p.den/p.den.gcd q.den*q.den≠0:=Nat.mul_ne_zero (by have:=Nat.div_gcd_pos_of_pos_left q.den p.den_pos;omega) q.den_nz;have hs:p+q=Rat.normalize ab (p.den/p.den.gcd q.den*q.den) c:=by
  rw[Rat.add_def,<-Rat.normalize_mul_right c e];congr 1
  . rw[d];simp only[Int.add_mul,Int.mul_assoc,Int.ofNat_mul_ofNat,
     Nat.div_mul_cancel (C7 ..),Nat.div_mul_cancel (CO ..)]
  . grind[Nat.div_mul_cancel,C7]
 grind[Nat.dvd_trans,CO,Rat.num_normalize,Rat.den_normalize,Nat.mul_div_assoc]
def du(p q:Rat)(a up:Int)(b:a=(Int.gcd p.num q.den:Nat))(c:up=(Int.gcd q.num p.den:Nat)):
 (p*q).num=p.num/a*(q.num/up)/\((p*q).den:Int)=p.den/up*(q.den/a):=by
 have h:p*q=Rat.mul p q:=rfl;rw[h];delta Rat.mul
 subst b c;refine⟨?_,?_⟩
 . show Int.divExact _ _ _*Int.divExact _ _ _=_;rw[Int.divExact_eq_ediv,Int.divExact_eq_ediv];rfl
 . show((Nat.divExact _ _ _*Nat.divExact _ _ _:Nat):Int)=_;rw[Nat.divExact_eq_div,Nat.divExact_eq_div];simp[Int.gcd]
theorem eA(p q:Rat):Rat.divInt (p.num*q.den) (p.den*q.num)=p/q:=by
 grind[Rat.inv_def,Cj,Fa]
theorem Pj(p q:Rat):Rat.divInt (p.num*q.num) (p.den*q.den)=p*q:=by
 grind[Cj,Fa]
def TU(p q:Rat):Rat.divInt (p.num*q.den+q.num*p.den) (p.den*q.den)=p+q:=by
 conv=>rhs;rw[<-Cj p,<-Cj q]
 rw[Rat.divInt_add_divInt _ _ (by have:=p.den_nz;omega) (by have:=q.den_nz;omega)]
def DQ.add{k:Nat}{p q:Rat}(hp:DQ k p)(hq:DQ k q):DQ (k+k+1) (p+q):=by
 rw[<-TU];refine DQ.divInt ?_ ((hp.1.mul hq.2).add (hq.1.mul hp.2)) ((hp.2.mul hq.2).mono O);exact Cv (by have:=p.den_nz;omega) (by have:=q.den_nz;omega)
def DQ.neg{k:Nat}{q:Rat}(h:DQ k q):DQ k (-q):=⟨h.1.neg,h.2⟩
structure Sq(q:Rat):Prop where
 sm:DQ 1000000000 q
theorem Sq.of(h:DQ k q)(hk:k<=1000000000):Sq q:=⟨h.mono hk⟩
theorem Sq.num{q:Rat}(h:Sq q):Sok q.num:=Sok.of h.sm.1 O
def Sq.den{q:Rat}(h:Sq q):Sok (q.den:Int):=Sok.of h.sm.2 O
def Sq.neg{q:Rat}(h:Sq q):Sq (-q):=Sq.of h.sm.neg (Aa _)
def Sq.mulN(hp:Sq p)(hq:Sq q):Sok (p.num*q.num):=Sok.of (hp.sm.1.mul hq.sm.1) O
def Sq.cross(hp:Sq p)(hq:Sq q):Sok (p.num*q.den):=Sok.of (hp.sm.1.mul hq.sm.2) O
def Sq.cross2(hp:Sq p)(hq:Sq q):Sok ((p.den:Int)*q.num):=Sok.of (hp.sm.2.mul hq.sm.1) O
