import Derived.Test.YtcahodpphikgnaaGreatDoorW03
import Derived.Test.YtcahodpphikgnaaGreatDoorW04
set_option linter.all false
set_option maxRecDepth 99999
set_option maxHeartbeats 0
namespace Go.Proofs.YtcahodpphikgnaaGreatDoor
open Rat renaming divInt->L1
open Go.RowKit Go.Shelf
def Sm(k:Nat)(z:Int):Prop:=z.natAbs<O^k
def Dq:0<O:=by unfold O;omega
def Sm.mono{k m:Nat}{z:Int}(h:Sm k z)(hk:k≤m):Sm m z:=As h (Ap Dq hk)
def Sm.le{k:Nat}{x z:Int}(h:Sm k x)(hz:z.natAbs≤x.natAbs):Sm k z:=Nat.lt_of_le_of_lt hz h
def Sm.neg{k:Nat}{z:Int}(h:Sm k z):Sm k (-z):=by unfold Sm at *;rwa[Int.natAbs_neg]
def Sm.mul{k m:Nat}{x y:Int}(hx:Sm k x)(hy:Sm m y):Sm (k+m) (x*y):=by
 grind[Sm,Int.natAbs_mul,Nat.mul_lt_mul_of_lt_of_le]
def Sm.add{k:Nat}{x y:Int}(hx:Sm k x)(hy:Sm k y):Sm (k+1) (x+y):=by
 grind[Sm,O]
def Sm.div{k:Nat}{x y:Int}(hx:Sm k x):Sm k (x/y):=hx.le (Int.natAbs_ediv_le_natAbs x y)
def Sm.gcd{k:Nat}{x y:Int}(hx:Sm k x)(hy:Sm k y):Sm k ((Int.gcd x y:Nat):Int):=by
 by_cases h0:x=0
 · refine hy.le ?_;rw[h0,Int.natAbs_natCast,Int.gcd,Int.natAbs_zero,Nat.gcd_zero_left];exact Aa _
 · refine hx.le ?_;rw[Int.natAbs_natCast];exact Nat.gcd_le_left _ (by omega)
def Sm.words{k:Nat}{z:Int}(h:Sm k z):(Jc O z.natAbs).length≤k:=JA Jb h
def Sm.of_words{k:Nat}{z:Int}(h:(Jc O z.natAbs).length≤k):Sm k z:=by
 have h1:=JN (Jh Jb z.natAbs);rw[Jg Jb]at h1;exact As h1 (Ap Dq h)
theorem Sm.good{l:List UInt8}(h:good l=true):Sm 2000 (JT l):=Sm.of_words (GY h (by unfold O;omega))
def Sm.one(k:Nat)(hk:1≤k):Sm k 1:=by
 have:Sm 1 1:=by unfold Sm O;decide
 exact this.mono hk
theorem Sm.zero(k:Nat):Sm k 0:=CG Dq
structure Sok(z:Int):Prop where
 sm:Sm 10000000000 z
theorem Sok.of{k:Nat}{z:Int}(h:Sm k z)(hk:k≤10000000000):Sok z:=⟨h.mono hk⟩
def Sok.words{z:Int}(h:Sok z):(Jc O z.natAbs).length≤10000000000:=h.sm.words
def Sok.gcd{x y:Int}(hx:Sok x)(hy:Sok y):Sok ((Int.gcd x y:Nat):Int):=Sok.of (hx.sm.gcd hy.sm) (Aa _)
def Sok.neg{x:Int}(hx:Sok x):Sok (-x):=Sok.of hx.sm.neg (Aa _)
def Sok.div{x y:Int}(hx:Sok x):Sok (x/y):=Sok.of hx.sm.div (Aa _)
theorem Sok.zero:Sok 0:=Sok.of (Sm.zero 1) (by omega)
def Sok.one:Sok 1:=Sok.of (Sm.one 1 (by omega)) (by omega)
def Bw(k:Nat)(q:Rat):Prop:=Sm k q.num∧Sm k q.den
def Bw.mono{k m:Nat}{q:Rat}(h:Bw k q)(hk:k≤m):Bw m q:=⟨h.1.mono hk,h.2.mono hk⟩
def Gr(n d:Int)(hd:d≠0):(L1 n d).num.natAbs≤n.natAbs∧(L1 n d).den≤d.natAbs:=by
 rw[Rat.num_divInt,Rat.den_divInt,BU hd];refine⟨?_,Co _ _⟩;grind[Int.natAbs_ediv_le_natAbs]
theorem Bw.divInt{k:Nat}{n d:Int}(hd:d≠0)(hn:Sm k n)(hk:Sm k d):Bw k (L1 n d):=by
 have h:=Gr n d hd;exact⟨hn.le h.1,hk.le (by omega)⟩
def Bv(q:Rat):Int:=if q.den=1 then 0 else q.den
def Xu{q:Rat}:Bv q=0↔q.den=1:=by
 unfold Bv;have:=q.den_pos;split<;>omega
def Gs{a b:Int}(hb:b≠0):b.sign*a/(Int.gcd b a:Nat)=a/(if b<0 then -((Int.gcd a b:Nat):Int)else((Int.gcd a b:Nat):Int)):=by
 grind[Int.gcd_comm,Int.ediv_neg,Int.neg_ediv_of_dvd,Int.gcd_dvd_left]
def Er{n d:Int}(hd:d≠0):(L1 n d).num=n/(if d<0 then -((Int.gcd n d:Nat):Int)else((Int.gcd n d:Nat):Int)):=by
 rw[Rat.num_divInt,Gs hd]
def Es{n d:Int}(hd:d≠0):((L1 n d).den:Int)=d/(if d<0 then -((Int.gcd n d:Nat):Int)else((Int.gcd n d:Nat):Int)):=by
 grind[Rat.den_divInt,Int.gcd_comm,Int.ediv_neg,Int.neg_ediv_of_dvd,Int.gcd_dvd_right]
def Gt(p q:Rat)(g l r ab ag:Int)(hg:g=(Int.gcd p.den q.den:Nat))(hl:l=p.den/g)(hr:r=q.den/g)(hab:ab=p.num*r+q.num*l)(hag:ag=(Int.gcd ab g:Nat)):
 (p+q).num=ab/ag∧((p+q).den:Int)=l*(q.den/ag):=by
 have e1:Int.gcd p.den q.den=p.den.gcd q.den:=rfl;rw[e1]at hg;have Qb:p.den.gcd q.den≠0:=Nat.gcd_ne_zero_left p.den_nz;have hl':l=((p.den/p.den.gcd q.den:Nat):Int):=by rw[hl,hg];simp
 have hr':r=((q.den/p.den.gcd q.den:Nat):Int):=by rw[hr,hg];simp
 have aux:=Rat.add.aux p q J J J;dsimp only at aux;have hab':ab=p.num*((q.den/p.den.gcd q.den:Nat):Int)+q.num*((p.den/p.den.gcd q.den:Nat):Int):=by rw[hab,hl',hr']
 rw[←hab']at aux;have hag':ag=((ab.natAbs.gcd (p.den/p.den.gcd q.den*q.den):Nat):Int):=by rw[hag,←aux,hg];rfl
 have Qa:p.den/p.den.gcd q.den*q.den≠0:=Nat.mul_ne_zero (by have:=Nat.div_gcd_pos_of_pos_left q.den p.den_pos;omega) q.den_nz;have hs:p+q=Rat.normalize ab (p.den/p.den.gcd q.den*q.den) Qa:=by
  rw[Rat.add_def,←Rat.normalize_mul_right Qa Qb];congr 1
  · rw[hab'];simp only[Int.add_mul,Int.mul_assoc,Int.ofNat_mul_ofNat,
     Nat.div_mul_cancel (Nat.gcd_dvd_left ..),Nat.div_mul_cancel (Nat.gcd_dvd_right ..)]
  · grind[Nat.div_mul_cancel,Nat.gcd_dvd_left]
 grind[Nat.dvd_trans,Nat.gcd_dvd_right,Rat.num_normalize,Rat.den_normalize,Nat.mul_div_assoc]
def Gu(p q:Rat)(dn up:Int)(hd:dn=(Int.gcd p.num q.den:Nat))(hu:up=(Int.gcd q.num p.den:Nat)):
 (p*q).num=p.num/dn*(q.num/up)∧((p*q).den:Int)=p.den/up*(q.den/dn):=by
 have h:p*q=Rat.mul p q:=rfl;rw[h];delta Rat.mul
 subst hd hu;refine⟨?_,?_⟩
 · show Int.divExact _ _ _*Int.divExact _ _ _=_;rw[Int.divExact_eq_ediv,Int.divExact_eq_ediv];rfl
 · show((Nat.divExact _ _ _*Nat.divExact _ _ _:Nat):Int)=_;rw[Nat.divExact_eq_div,Nat.divExact_eq_div];simp[Int.gcd]
def Et(p q:Rat):L1 (p.num*q.den) (p.den*q.num)=p/q:=by
 grind[Rat.inv_def,Rat.num_divInt_den,Rat.divInt_mul_divInt]
def DV(p q:Rat):L1 (p.num*q.num) (p.den*q.den)=p*q:=by
 grind[Rat.num_divInt_den,Rat.divInt_mul_divInt]
def Gv(p q:Rat):L1 (p.num*q.den+q.num*p.den) (p.den*q.den)=p+q:=by
 conv=>rhs;rw[←Rat.num_divInt_den p,←Rat.num_divInt_den q]
 rw[Rat.divInt_add_divInt _ _ (by have:=p.den_nz;omega) (by have:=q.den_nz;omega)]
def Bw.add{k:Nat}{p q:Rat}(hp:Bw k p)(hq:Bw k q):Bw (k+k+1) (p+q):=by
 rw[←Gv];refine Bw.divInt ?_ ((hp.1.mul hq.2).add (hq.1.mul hp.2)) ((hp.2.mul hq.2).mono (by omega));exact Int.mul_ne_zero (by have:=p.den_nz;omega) (by have:=q.den_nz;omega)
def Bw.mul{k:Nat}{p q:Rat}(hp:Bw k p)(hq:Bw k q):Bw (k+k) (p*q):=by
 rw[←DV];refine Bw.divInt ?_ (hp.1.mul hq.1) (hp.2.mul hq.2);exact Int.mul_ne_zero (by have:=p.den_nz;omega) (by have:=q.den_nz;omega)
def Bw.over{k:Nat}{p q:Rat}(hp:Bw k p)(hq:Bw k q)(h0:q≠0):Bw (k+k) (p/q):=by
 rw[←Et];refine Bw.divInt ?_ (hp.1.mul hq.2) (hp.2.mul hq.1);exact Int.mul_ne_zero (by have:=p.den_nz;omega) (fun h=>h0 (Rat.num_eq_zero.1 h))
structure Sq(q:Rat):Prop where
 sm:Bw 1000000000 q
theorem Sq.of{k:Nat}{q:Rat}(h:Bw k q)(hk:k≤1000000000):Sq q:=⟨h.mono hk⟩
theorem Sq.num{q:Rat}(h:Sq q):Sok q.num:=Sok.of h.sm.1 (by omega)
def Sq.den{q:Rat}(h:Sq q):Sok (q.den:Int):=Sok.of h.sm.2 (by omega)
def Sq.mulN{p q:Rat}(hp:Sq p)(hq:Sq q):Sok (p.num*q.num):=Sok.of (hp.sm.1.mul hq.sm.1) (by omega)
def Sq.cross{p q:Rat}(hp:Sq p)(hq:Sq q):Sok (p.num*q.den):=Sok.of (hp.sm.1.mul hq.sm.2) (by omega)
def Sq.cross2{p q:Rat}(hp:Sq p)(hq:Sq q):Sok ((p.den:Int)*q.num):=Sok.of (hp.sm.2.mul hq.sm.1) (by omega)
