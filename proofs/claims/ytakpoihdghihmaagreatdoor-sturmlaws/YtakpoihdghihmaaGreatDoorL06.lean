import Derived.Test.YtakpoihdghihmaaGreatDoorL04
import Derived.Test.YtakpoihdghihmaaGreatDoorL05
set_option maxRecDepth 100000
set_option maxHeartbeats 16000000
namespace Go.Proofs.YtakpoihdghihmaaGreatDoor
open Go.RowKit Go.Shelf
def Sm(k:Nat)(z:Int):Prop:=z.natAbs<O^k
theorem KF:0<O:=by unfold O;omega
theorem Sm.mono{k m:Nat}{z:Int}(h:Sm k z)(hk:k≤m):Sm m z:=AP h (AJ KF hk)
theorem Sm.le{k:Nat}{x z:Int}(h:Sm k x)(hz:z.natAbs≤x.natAbs):Sm k z:=Cv hz h
theorem Sm.neg{k:Nat}{z:Int}(h:Sm k z):Sm k (-z):=by unfold Sm at *;rwa[Int.natAbs_neg]
theorem Sm.mul{k m:Nat}{x y:Int}(hx:Sm k x)(hy:Sm m y):Sm (k+m) (x*y):=by
 unfold Sm at *;rw[CT,CR];exact Nat.mul_lt_mul_of_lt_of_le hx (Nat.le_of_lt hy) (Cv (AH _) hy)
theorem Sm.add{k:Nat}{x y:Int}(hx:Sm k x)(hy:Sm k y):Sm (k+1) (x+y):=by
 unfold Sm at *;have h1:=Int.natAbs_add_le x y;have h2:O^(k+1)=O^k*O:=A2 ..;have h3:O^k*2≤O^k*O:=Ar _ Jf;omega
theorem Sm.div{k:Nat}{x y:Int}(hx:Sm k x):Sm k (x/y):=hx.le (Int.natAbs_ediv_le_natAbs x y)
theorem Sm.gcd{k:Nat}{x y:Int}(hx:Sm k x)(hy:Sm k y):Sm k ((Int.gcd x y:Nat):Int):=by
 by_cases h0:x=0
 · refine hy.le ?_;rw[h0,Cc,Int.gcd,Int.natAbs_zero,Nat.gcd_zero_left];exact Aa _
 · refine hx.le ?_;rw[Cc];exact Nat.gcd_le_left _ (by omega)
theorem Sm.words{k:Nat}{z:Int}(h:Sm k z):(Ji O z.natAbs).length≤k:=YW Jf h
theorem Sm.size{k:Nat}{z:Int}(h:Sm k z):MQ z≤5*k:=by
 unfold MQ;refine YW (by omega) (AP h ?_);rw[Nat.pow_mul];exact C5 (by unfold O;decide) k
theorem Sm.of_words{k:Nat}{z:Int}(h:(Ji O z.natAbs).length≤k):Sm k z:=by
 have h1:=YI (Jy Jf z.natAbs);rw[Jw Jf]at h1;exact AP h1 (AJ KF h)
theorem Sm.good{l:List UInt8}(h:good l=true):Sm 2000 (Y9 l):=Sm.of_words (Ss h (by unfold O;omega))
theorem Sm.one(k:Nat)(hk:1≤k):Sm k 1:=by
 have:Sm 1 1:=by unfold Sm O;decide
 exact this.mono hk
theorem Sm.zero(k:Nat):Sm k 0:=Fa KF
structure Sok(z:Int):Prop where
 sm:Sm 10000000000 z
theorem Sok.of{k:Nat}{z:Int}(h:Sm k z)(hk:k≤10000000000):Sok z:=⟨h.mono hk⟩
theorem Sok.words{z:Int}(h:Sok z):(Ji O z.natAbs).length≤10000000000:=h.sm.words
theorem Sok.size{z:Int}(h:Sok z):MQ z≤50000000000:=by have:=h.sm.size;omega
theorem Sok.gcd{x y:Int}(hx:Sok x)(hy:Sok y):Sok ((Int.gcd x y:Nat):Int):=Sok.of (hx.sm.gcd hy.sm) (Aa _)
theorem Sok.neg{x:Int}(hx:Sok x):Sok (-x):=Sok.of hx.sm.neg (Aa _)
theorem Sok.div{x y:Int}(hx:Sok x):Sok (x/y):=Sok.of hx.sm.div (Aa _)
theorem Sok.zero:Sok 0:=Sok.of (Sm.zero 1) (by omega)
theorem Sok.one:Sok 1:=Sok.of (Sm.one 1 (by omega)) (by omega)
def DV(k:Nat)(q:Rat):Prop:=Sm k q.num∧Sm k q.den
theorem DV.mono{k m:Nat}{q:Rat}(h:DV k q)(hk:k≤m):DV m q:=⟨h.1.mono hk,h.2.mono hk⟩
theorem TI(n d:Int)(hd:d≠0):(Rat.divInt n d).num.natAbs≤n.natAbs∧(Rat.divInt n d).den≤d.natAbs:=by
 rw[Rat.num_divInt,Rat.den_divInt,BE hd];refine⟨?_,Fy _ _⟩;refine An (Int.natAbs_ediv_le_natAbs _ _) ?_;rw[CT];have h:=Int.natAbs_sign d;rw[BE hd]at h;rw[h,CC];exact Aa _
theorem DV.divInt{k:Nat}{n d:Int}(hd:d≠0)(hn:Sm k n)(hk:Sm k d):DV k (Rat.divInt n d):=by
 have h:=TI n d hd;exact⟨hn.le h.1,hk.le (by rw[Cc];exact h.2)⟩
def Dr(q:Rat):Int:=if q.den=1 then 0 else q.den
theorem Ks{q:Rat}:Dr q=0↔q.den=1:=by
 unfold Dr;have:=q.den_pos;split<;>omega
theorem TJ{a b:Int}(hb:b≠0):b.sign*a/(Int.gcd b a:Nat)=a/(if b<0 then -((Int.gcd a b:Nat):Int)else((Int.gcd a b:Nat):Int)):=by
 rw[Int.gcd_comm b a];split
 · rename_i h;rw[Int.sign_eq_neg_one_of_neg h,Int.ediv_neg,Int.neg_mul,Int.one_mul,Int.neg_ediv_of_dvd (Int.gcd_dvd_left ..)]
 · rename_i h;rw[Int.sign_eq_one_of_pos (by omega),Int.one_mul]
theorem Ov{n d:Int}(hd:d≠0):(Rat.divInt n d).num=n/(if d<0 then -((Int.gcd n d:Nat):Int)else((Int.gcd n d:Nat):Int)):=by
 rw[Rat.num_divInt,TJ hd]
theorem Ow{n d:Int}(hd:d≠0):((Rat.divInt n d).den:Int)=d/(if d<0 then -((Int.gcd n d:Nat):Int)else((Int.gcd n d:Nat):Int)):=by
 rw[Rat.den_divInt,BE hd,Int.gcd_comm d n];split
 · rename_i h;rw[Int.ediv_neg,←Int.neg_ediv_of_dvd (Int.gcd_dvd_right ..)];have e:-d=(d.natAbs:Int):=by omega
   rw[e];simp
 · rename_i h;have e:d=(d.natAbs:Int):=by omega
   generalize Int.gcd n d=g;rw[e];simp
theorem TK(p q:Rat)(g l r ab ag:Int)(hg:g=(Int.gcd p.den q.den:Nat))(hl:l=p.den/g)(hr:r=q.den/g)(hab:ab=p.num*r+q.num*l)(hag:ag=(Int.gcd ab g:Nat)):
 (p+q).num=ab/ag∧((p+q).den:Int)=l*(q.den/ag):=by
 have e1:Int.gcd p.den q.den=p.den.gcd q.den:=rfl;rw[e1]at hg;have Qc:p.den.gcd q.den≠0:=Nat.gcd_ne_zero_left p.den_nz;have hl':l=((p.den/p.den.gcd q.den:Nat):Int):=by rw[hl,hg];simp
 have hr':r=((q.den/p.den.gcd q.den:Nat):Int):=by rw[hr,hg];simp
 have aux:=Rat.add.aux p q rfl rfl rfl;dsimp only at aux;have hab':ab=p.num*((q.den/p.den.gcd q.den:Nat):Int)+q.num*((p.den/p.den.gcd q.den:Nat):Int):=by rw[hab,hl',hr']
 rw[←hab']at aux;have hag':ag=((ab.natAbs.gcd (p.den/p.den.gcd q.den*q.den):Nat):Int):=by rw[hag,←aux,hg];rfl
 have Qa:p.den/p.den.gcd q.den*q.den≠0:=Nat.mul_ne_zero (by have:=Nat.div_gcd_pos_of_pos_left q.den p.den_pos;omega) q.den_nz;have hs:p+q=Rat.normalize ab (p.den/p.den.gcd q.den*q.den) Qa:=by
  rw[Rat.add_def,←Rat.normalize_mul_right Qa Qc];congr 1
  · rw[hab'];simp only[Int.add_mul,Fs,Int.ofNat_mul_ofNat,
     Nat.div_mul_cancel (FF ..),Nat.div_mul_cancel (CZ ..)]
  · rw[Nat.mul_right_comm,Nat.div_mul_cancel (FF ..)]
 have Qb:ab.natAbs.gcd (p.den/p.den.gcd q.den*q.den)∣q.den:=by
  rw[←aux];exact Nat.dvd_trans (CZ ..) (CZ ..)
 rw[hs,Rat.num_normalize,Rat.den_normalize,hag',hl'];refine⟨rfl,?_⟩;rw[Nat.mul_div_assoc _ Qb];simp
theorem TL(p q:Rat)(dn up:Int)(hd:dn=(Int.gcd p.num q.den:Nat))(hu:up=(Int.gcd q.num p.den:Nat)):
 (p*q).num=p.num/dn*(q.num/up)∧((p*q).den:Int)=p.den/up*(q.den/dn):=by
 have h:p*q=Rat.mul p q:=rfl;rw[h];delta Rat.mul
 subst hd hu;refine⟨?_,?_⟩
 · show Int.divExact _ _ _*Int.divExact _ _ _=_;rw[Int.divExact_eq_ediv,Int.divExact_eq_ediv];rfl
 · show((Nat.divExact _ _ _*Nat.divExact _ _ _:Nat):Int)=_;rw[Nat.divExact_eq_div,Nat.divExact_eq_div];simp[Int.gcd]
theorem TM(p q:Rat):Rat.divInt (p.num*q.den) (p.den*q.num)=p/q:=by
 rw[Rat.div_def,Rat.inv_def];conv=>rhs;rw[←CI p]
 rw[Fg]
theorem TN(p q:Rat):Rat.divInt (p.num*q.num) (p.den*q.den)=p*q:=by
 conv=>rhs;rw[←CI p,←CI q]
 rw[Fg]
theorem TO(p q:Rat):Rat.divInt (p.num*q.den+q.num*p.den) (p.den*q.den)=p+q:=by
 conv=>rhs;rw[←CI p,←CI q]
 rw[FA _ _ (by have:=p.den_nz;omega) (by have:=q.den_nz;omega)]
theorem DV.neg{k:Nat}{q:Rat}(h:DV k q):DV k (-q):=⟨h.1.neg,h.2⟩
structure Sq(q:Rat):Prop where
 sm:DV 1000000000 q
theorem Sq.of{k:Nat}{q:Rat}(h:DV k q)(hk:k≤1000000000):Sq q:=⟨h.mono hk⟩
theorem Sq.num{q:Rat}(h:Sq q):Sok q.num:=Sok.of h.sm.1 (by omega)
theorem Sq.den{q:Rat}(h:Sq q):Sok (q.den:Int):=Sok.of h.sm.2 (by omega)
theorem Sq.neg{q:Rat}(h:Sq q):Sq (-q):=Sq.of h.sm.neg (Aa _)
theorem Sq.mulN{p q:Rat}(hp:Sq p)(hq:Sq q):Sok (p.num*q.num):=Sok.of (hp.sm.1.mul hq.sm.1) (by omega)
theorem Sq.cross{p q:Rat}(hp:Sq p)(hq:Sq q):Sok (p.num*q.den):=Sok.of (hp.sm.1.mul hq.sm.2) (by omega)
theorem Sq.cross2{p q:Rat}(hp:Sq p)(hq:Sq q):Sok ((p.den:Int)*q.num):=Sok.of (hp.sm.2.mul hq.sm.1) (by omega)
