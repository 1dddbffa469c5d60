import Derived.Test.YtdmmbgahnkbnaaaGreatDoorT04
import Derived.Test.YtdmmbgahnkbnaaaGreatDoorT05
set_option linter.all false
set_option maxRecDepth 99999
set_option maxHeartbeats 0
namespace Go.Proofs.YtdmmbgahnkbnaaaGreatDoor
open Go.RowKit Go.Shelf
def Sm(k:Nat)(z:Int):Prop:=z.natAbs<Y^k
variable{d n x y z:Int}{k m:Nat}{p q:Rat}
theorem Hf:0<Y:=by unfold Y;omega
def Sm.mono(h:Sm k z)(hk:k<=m):Sm m z:=AJ h (AC Hf hk)
def Sm.le(h:Sm k x)(a:z.natAbs<=x.natAbs):Sm k z:=CB a h
def Sm.neg(h:Sm k z):Sm k (-z):=by unfold Sm at *;rwa[FD]
def Sm.mul(a:Sm k x)(b:Sm m y):Sm (k+m) (x*y):=by
 grind[Sm,Cv,Nat.mul_lt_mul_of_lt_of_le]
def Sm.add(a:Sm k x)(b:Sm k y):Sm (k+1) (x+y):=by
 grind[Sm,Y]
def Sm.div(a:Sm k x):Sm k (x/y):=a.le (Int.natAbs_ediv_le_natAbs x y)
def Sm.gcd{k:Nat}{x y:Int}(b:Sm k x)(c:Sm k y):Sm k ((Int.gcd x y:Nat):Int):=by
 by_cases a:x=0
 . refine c.le ?_;rw[a,Ay,Int.gcd,Int.natAbs_zero,Nat.gcd_zero_left];exact Aa _
 . refine b.le ?_;rw[Ay];exact Nat.gcd_le_left _ O
def Sm.words(h:Sm k z):(Jh Y z.natAbs).length<=k:=Yq Jf h
def Sm.size(h:Sm k z):PU z<=5*k:=by
 unfold PU;refine Yq O (AJ h ?_);rw[Fg];exact CG (by unfold Y;decide) k
def Sm.of_words(h:(Jh Y z.natAbs).length<=k):Sm k z:=by
 have a:=YS (Jy Jf z.natAbs);rw[JA Jf]at a;exact AJ a (AC Hf h)
theorem Sm.good{l:List UInt8}(h:good l=true):Sm 2000 (D5 l):=Sm.of_words (dN h uo)
theorem Sm.one(k:Nat)(hk:1<=k):Sm k 1:=by
 have:Sm 1 1:=by unfold Sm Y;decide
 exact this.mono hk
theorem Sm.zero(k:Nat):Sm k 0:=CE Hf
structure Sok(z:Int):Prop where
 sm:Sm 10000000000 z
theorem Sok.of(h:Sm k z)(hk:k<=10000000000):Sok z:=⟨h.mono hk⟩
def Sok.words{z:Int}(h:Sok z):(Jh Y z.natAbs).length<=10000000000:=h.sm.words
def Sok.size{z:Int}(h:Sok z):PU z<=50000000000:=by have:=h.sm.size;omega
def Sok.gcd{x y:Int}(a:Sok x)(b:Sok y):Sok ((Int.gcd x y:Nat):Int):=Sok.of (a.sm.gcd b.sm) (Aa _)
def Sok.neg{x:Int}(a:Sok x):Sok (-x):=Sok.of a.sm.neg (Aa _)
def Sok.div{x y:Int}(a:Sok x):Sok (x/y):=Sok.of a.sm.div (Aa _)
theorem Sok.zero:Sok 0:=Sok.of (Sm.zero 1) O
theorem Sok.one:Sok 1:=Sok.of (Sm.one 1 O) O
def DV(k:Nat)(q:Rat):Prop:=Sm k q.num/\Sm k q.den
def DV.mono{k m:Nat}{q:Rat}(h:DV k q)(hk:k<=m):DV m q:=⟨h.1.mono hk,h.2.mono hk⟩
def eC(n d:Int)(a:d≠0):(Rat.divInt n d).num.natAbs<=n.natAbs/\(Rat.divInt n d).den<=d.natAbs:=by
 rw[Rat.num_divInt,Rat.den_divInt,BE a];refine⟨?_,Fo _ _⟩;grind[Int.natAbs_ediv_le_natAbs]
def DV.divInt{k:Nat}{n d:Int}(a:d≠0)(hn:Sm k n)(hk:Sm k d):DV k (Rat.divInt n d):=by
 have h:=eC n d a;exact⟨hn.le h.1,hk.le O⟩
def EB(q:Rat):Int:=if q.den=1 then 0 else q.den
def NK:EB q=0↔q.den=1:=by
 unfold EB;have:=q.den_pos;split<;>omega
def eD{a b:Int}(c:b≠0):b.sign*a/(Int.gcd b a:Nat)=a/(if b<0 then -((Int.gcd a b:Nat):Int)else((Int.gcd a b:Nat):Int)):=by
 grind[Int.gcd_comm,Int.ediv_neg,Int.neg_ediv_of_dvd,Int.gcd_dvd_left]
def TI(a:d≠0):(Rat.divInt n d).num=n/(if d<0 then -((Int.gcd n d:Nat):Int)else((Int.gcd n d:Nat):Int)):=by
 rw[Rat.num_divInt,eD a]
def TJ(a:d≠0):((Rat.divInt n d).den:Int)=d/(if d<0 then -((Int.gcd n d:Nat):Int)else((Int.gcd n d:Nat):Int)):=by
 grind[Rat.den_divInt,Int.gcd_comm,Int.ediv_neg,Int.neg_ediv_of_dvd,Int.gcd_dvd_right]
def eE(p q:Rat)(g l r ab a:Int)(hg:g=(Int.gcd p.den q.den:Nat))(hl:l=p.den/g)(m:r=q.den/g)(i:ab=p.num*r+q.num*l)(j:a=(Int.gcd ab g:Nat)):
 (p+q).num=ab/a/\((p+q).den:Int)=l*(q.den/a):=by
 have f:Int.gcd p.den q.den=p.den.gcd q.den:=rfl;rw[f]at hg;have e:p.den.gcd q.den≠0:=Nat.gcd_ne_zero_left p.den_nz;have k:l=((p.den/p.den.gcd q.den:Nat):Int):=by rw[hl,hg];simp
 have n:r=((q.den/p.den.gcd q.den:Nat):Int):=by rw[m,hg];simp
 have b:=Rat.add.aux p q J J J;dsimp only at b;have d:ab=p.num*((q.den/p.den.gcd q.den:Nat):Int)+q.num*((p.den/p.den.gcd q.den:Nat):Int):=by rw[i,k,n]
 rw[<-d]at b;have o:a=((ab.natAbs.gcd (p.den/p.den.gcd q.den*q.den):Nat):Int):=by rw[j,<-b,hg];rfl
 have c:p.den/p.den.gcd q.den*q.den≠0:=Nat.mul_ne_zero (by have:=Nat.div_gcd_pos_of_pos_left q.den p.den_pos;omega) q.den_nz;have hs:p+q=Rat.normalize ab (p.den/p.den.gcd q.den*q.den) c:=by
  rw[Rat.add_def,<-Rat.normalize_mul_right c e];congr 1
  . rw[d];simp only[Int.add_mul,Int.mul_assoc,Int.ofNat_mul_ofNat,
     Nat.div_mul_cancel (Fj ..),Nat.div_mul_cancel (CX ..)]
  . grind[Nat.div_mul_cancel,Fj]
 grind[Nat.dvd_trans,CX,Rat.num_normalize,Rat.den_normalize,Nat.mul_div_assoc]
def eF(p q:Rat)(a up:Int)(b:a=(Int.gcd p.num q.den:Nat))(c:up=(Int.gcd q.num p.den:Nat)):
 (p*q).num=p.num/a*(q.num/up)/\((p*q).den:Int)=p.den/up*(q.den/a):=by
 have h:p*q=Rat.mul p q:=rfl;rw[h];delta Rat.mul
 subst b c;refine⟨?_,?_⟩
 . show Int.divExact _ _ _*Int.divExact _ _ _=_;rw[Int.divExact_eq_ediv,Int.divExact_eq_ediv];rfl
 . show((Nat.divExact _ _ _*Nat.divExact _ _ _:Nat):Int)=_;rw[Nat.divExact_eq_div,Nat.divExact_eq_div];simp[Int.gcd]
def eH(p q:Rat):Rat.divInt (p.num*q.den) (p.den*q.num)=p/q:=by
 grind[Rat.inv_def,CC,Fl]
def eI(p q:Rat):Rat.divInt (p.num*q.num) (p.den*q.den)=p*q:=by
 grind[CC,Fl]
def TK(p q:Rat):Rat.divInt (p.num*q.den+q.num*p.den) (p.den*q.den)=p+q:=by
 conv=>rhs;rw[<-CC p,<-CC q]
 rw[FA _ _ (by have:=p.den_nz;omega) (by have:=q.den_nz;omega)]
def DV.add{k:Nat}{p q:Rat}(hp:DV k p)(hq:DV k q):DV (k+k+1) (p+q):=by
 rw[<-TK];refine DV.divInt ?_ ((hp.1.mul hq.2).add (hq.1.mul hp.2)) ((hp.2.mul hq.2).mono O);exact Cw (by have:=p.den_nz;omega) (by have:=q.den_nz;omega)
def DV.neg{k:Nat}{q:Rat}(h:DV k q):DV k (-q):=⟨h.1.neg,h.2⟩
structure Sq(q:Rat):Prop where
 sm:DV 1000000000 q
theorem Sq.of(h:DV k q)(hk:k<=1000000000):Sq q:=⟨h.mono hk⟩
theorem Sq.num{q:Rat}(h:Sq q):Sok q.num:=Sok.of h.sm.1 O
def Sq.den{q:Rat}(h:Sq q):Sok (q.den:Int):=Sok.of h.sm.2 O
def Sq.neg{q:Rat}(h:Sq q):Sq (-q):=Sq.of h.sm.neg (Aa _)
def Sq.mulN(hp:Sq p)(hq:Sq q):Sok (p.num*q.num):=Sok.of (hp.sm.1.mul hq.sm.1) O
def Sq.cross(hp:Sq p)(hq:Sq q):Sok (p.num*q.den):=Sok.of (hp.sm.1.mul hq.sm.2) O
def Sq.cross2(hp:Sq p)(hq:Sq q):Sok ((p.den:Int)*q.num):=Sok.of (hp.sm.2.mul hq.sm.1) O
