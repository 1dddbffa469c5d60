import Derived.Test.YtcahejkcdcjjgaaGreatDoorK04
import Derived.Test.YtcahejkcdcjjgaaGreatDoorK05
import Derived.Test.YtcahejkcdcjjgaaGreatDoorK02
set_option maxRecDepth 100000
set_option maxHeartbeats 16000000
namespace Go.Proofs.YtcahejkcdcjjgaaGreatDoor
open Go.RowKit Go.Shelf
def Sm (k:Nat) (z:Int):Prop:=z.natAbs<B64 ^ k
theorem Jih:0<B64:=by unfold B64;omega
theorem Sm.mono {k m:Nat} {z:Int} (h:Sm k z) (hk:k≤m):Sm m z:=Nat.lt_of_lt_of_le h (Nat.pow_le_pow_right Jih hk)
theorem Sm.le {k:Nat} {x z:Int} (h:Sm k x) (hz:z.natAbs≤x.natAbs):Sm k z:=Nat.lt_of_le_of_lt hz h
theorem Sm.neg {k:Nat} {z:Int} (h:Sm k z):Sm k (-z):=by unfold Sm at *;rwa [Int.natAbs_neg]
theorem Sm.mul {k m:Nat} {x y:Int} (hx:Sm k x) (hy:Sm m y):Sm (k+m) (x*y):=by
 unfold Sm at *;rw [Int.natAbs_mul,Nat.pow_add];exact Nat.mul_lt_mul_of_lt_of_le hx (Nat.le_of_lt hy) (Nat.lt_of_le_of_lt (Nat.zero_le _) hy)
theorem Sm.add {k:Nat} {x y:Int} (hx:Sm k x) (hy:Sm k y):Sm (k+1) (x+y):=by
 unfold Sm at *;have h1:=Int.natAbs_add_le x y;have h2:B64 ^ (k+1)=B64 ^ k*B64:=Nat.pow_succ ..;have h3:B64 ^ k*2≤B64 ^ k*B64:=Nat.mul_le_mul_left _ Jc;omega
theorem Sm.div {k:Nat} {x y:Int} (hx:Sm k x):Sm k (x / y):=hx.le (Int.natAbs_ediv_le_natAbs x y)
theorem Sm.gcd {k:Nat} {x y:Int} (hx:Sm k x) (hy:Sm k y):Sm k ((Int.gcd x y:Nat):Int):=by
 by_cases h0:x=0
 · refine hy.le ?_;rw [h0,Int.natAbs_natCast,Int.gcd,Int.natAbs_zero,Nat.gcd_zero_left];exact Nat.le_refl _
 · refine hx.le ?_;rw [Int.natAbs_natCast];exact Nat.gcd_le_left _ (by omega)
theorem Sm.words {k:Nat} {z:Int} (h:Sm k z):(Jd B64 z.natAbs).length≤k:=JN Jc h
theorem Sm.size {k:Nat} {z:Int} (h:Sm k z):szB z≤5*k:=by
 unfold szB;refine JN (by omega) (Nat.lt_of_lt_of_le h ?_);rw [Nat.pow_mul];exact Nat.pow_le_pow_left (by unfold B64;decide) k
theorem Sm.of_words {k:Nat} {z:Int} (h:(Jd B64 z.natAbs).length≤k):Sm k z:=by
 have h1:=J2 (Jq Jc z.natAbs);rw [Jn Jc] at h1;exact Nat.lt_of_lt_of_le h1 (Nat.pow_le_pow_right Jih h)
theorem Sm.good {l:List UInt8} (h:good l=true):Sm 2000 (YA l):=Sm.of_words (Jm8 h (by unfold B64;omega))
theorem Sm.one (k:Nat) (hk:1≤k):Sm k 1:=by
 have:Sm 1 1:=by unfold Sm B64;decide
 exact this.mono hk
theorem Sm.zero (k:Nat):Sm k 0:=Nat.pow_pos Jih
@[irreducible] def Sok (z:Int):Prop:=Sm 10000000 z
theorem Sok.of {k:Nat} {z:Int} (h:Sm k z) (hk:k≤10000000):Sok z:=by unfold Sok;exact h.mono hk
theorem Sok.sm {z:Int} (h:Sok z):Sm 10000000 z:=by unfold Sok at h;exact h
theorem Sok.words {z:Int} (h:Sok z):(Jd B64 z.natAbs).length≤10000000:=h.sm.words
theorem Sok.size {z:Int} (h:Sok z):szB z≤50000000:=by have:=h.sm.size;omega
theorem Sok.gcd {x y:Int} (hx:Sok x) (hy:Sok y):Sok ((Int.gcd x y:Nat):Int):=Sok.of (hx.sm.gcd hy.sm) (Nat.le_refl _)
theorem Sok.neg {x:Int} (hx:Sok x):Sok (-x):=Sok.of hx.sm.neg (Nat.le_refl _)
theorem Sok.div {x y:Int} (hx:Sok x):Sok (x / y):=Sok.of hx.sm.div (Nat.le_refl _)
theorem Sok.le {x z:Int} (hx:Sok x) (h:z.natAbs≤x.natAbs):Sok z:=Sok.of (hx.sm.le h) (Nat.le_refl _)
theorem Sok.zero:Sok 0:=Sok.of (Sm.zero 1) (by omega)
theorem Sok.one:Sok 1:=Sok.of (Sm.one 1 (by omega)) (by omega)
def SmQ (k:Nat) (q:Rat):Prop:=Sm k q.num∧Sm k q.den
theorem SmQ.mono {k m:Nat} {q:Rat} (h:SmQ k q) (hk:k≤m):SmQ m q:=⟨h.1.mono hk,h.2.mono hk⟩
theorem Jnd (n d:Int) (hd:d≠0):(Rat.divInt n d).num.natAbs≤n.natAbs∧(Rat.divInt n d).den≤d.natAbs:=by
 rw [Rat.num_divInt,Rat.den_divInt,if_neg hd];refine ⟨?_,Nat.div_le_self _ _⟩;refine Nat.le_trans (Int.natAbs_ediv_le_natAbs _ _) ?_;rw [Int.natAbs_mul];have h:=Int.natAbs_sign d;rw [if_neg hd] at h;rw [h,Nat.one_mul];exact Nat.le_refl _
theorem SmQ.divInt {k:Nat} {n d:Int} (hd:d≠0) (hn:Sm k n) (hk:Sm k d):SmQ k (Rat.divInt n d):=by
 have h:=Jnd n d hd;exact ⟨hn.le h.1,hk.le (by rw [Int.natAbs_natCast];exact h.2)⟩
def denZ (q:Rat):Int:=if q.den=1 then 0 else q.den
theorem Jck {q:Rat}:denZ q=0↔q.den=1:=by
 unfold denZ;have:=q.den_pos;split <;> omega
theorem Jii {a b:Int} (hb:b≠0):b.sign*a / (Int.gcd b a:Nat)=a / (if b<0 then -((Int.gcd a b:Nat):Int) else ((Int.gcd a b:Nat):Int)):=by
 rw [Int.gcd_comm b a];split
 · rename_i h;rw [Int.sign_eq_neg_one_of_neg h,Int.ediv_neg,Int.neg_mul,Int.one_mul,Int.neg_ediv_of_dvd (Int.gcd_dvd_left ..)]
 · rename_i h;rw [Int.sign_eq_one_of_pos (by omega),Int.one_mul]
theorem Jej {n d:Int} (hd:d≠0):(Rat.divInt n d).num=n / (if d<0 then -((Int.gcd n d:Nat):Int) else ((Int.gcd n d:Nat):Int)):=by
 rw [Rat.num_divInt,Jii hd]
theorem Jek {n d:Int} (hd:d≠0):((Rat.divInt n d).den:Int)=d / (if d<0 then -((Int.gcd n d:Nat):Int) else ((Int.gcd n d:Nat):Int)):=by
 rw [Rat.den_divInt,if_neg hd,Int.gcd_comm d n];split
 · rename_i h;rw [Int.ediv_neg,←Int.neg_ediv_of_dvd (Int.gcd_dvd_right ..)];have e:-d=(d.natAbs:Int):=by omega
   rw [e];simp
 · rename_i h;have e:d=(d.natAbs:Int):=by omega
   generalize Int.gcd n d=g;rw [e];simp
theorem Jne (p q:Rat) (g l r ab ag:Int) (hg:g=(Int.gcd p.den q.den:Nat)) (hl:l=p.den / g) (hr:r=q.den / g) (hab:ab=p.num*r+q.num*l) (hag:ag=(Int.gcd ab g:Nat)) :
 (p+q).num=ab / ag∧((p+q).den:Int)=l*(q.den / ag):=by
 have e1:Int.gcd p.den q.den=p.den.gcd q.den:=rfl;rw [e1] at hg;have hg0:p.den.gcd q.den≠0:=Nat.gcd_ne_zero_left p.den_nz;have hl':l=((p.den / p.den.gcd q.den:Nat):Int):=by rw [hl,hg];simp
 have hr':r=((q.den / p.den.gcd q.den:Nat):Int):=by rw [hr,hg];simp
 have aux:=Rat.add.aux p q rfl rfl rfl;dsimp only at aux;have hab':ab=p.num*((q.den / p.den.gcd q.den:Nat):Int)+q.num*((p.den / p.den.gcd q.den:Nat):Int):=by rw [hab,hl',hr']
 rw [←hab'] at aux;have hag':ag=((ab.natAbs.gcd (p.den / p.den.gcd q.den*q.den):Nat):Int):=by rw [hag,←aux,hg];rfl
 have hdn:p.den / p.den.gcd q.den*q.den≠0:=Nat.mul_ne_zero (by have:=Nat.div_gcd_pos_of_pos_left q.den p.den_pos;omega) q.den_nz;have hs:p+q=Rat.normalize ab (p.den / p.den.gcd q.den*q.den) hdn:=by
  rw [Rat.add_def,←Rat.normalize_mul_right hdn hg0];congr 1
  · rw [hab'];simp only [Int.add_mul,Int.mul_assoc,Int.ofNat_mul_ofNat,
     Nat.div_mul_cancel (Nat.gcd_dvd_left ..),Nat.div_mul_cancel (Nat.gcd_dvd_right ..)]
  · rw [Nat.mul_right_comm,Nat.div_mul_cancel (Nat.gcd_dvd_left ..)]
 have hdv:ab.natAbs.gcd (p.den / p.den.gcd q.den*q.den)∣q.den:=by
  rw [←aux];exact Nat.dvd_trans (Nat.gcd_dvd_right ..) (Nat.gcd_dvd_right ..)
 rw [hs,Rat.num_normalize,Rat.den_normalize,hag',hl'];refine ⟨rfl,?_⟩;rw [Nat.mul_div_assoc _ hdv];simp
theorem Jnf (p q:Rat) (dn up:Int) (hd:dn=(Int.gcd p.num q.den:Nat)) (hu:up=(Int.gcd q.num p.den:Nat)) :
 (p*q).num=p.num / dn*(q.num / up)∧((p*q).den:Int)=p.den / up*(q.den / dn):=by
 have h:p*q=Rat.mul p q:=rfl;rw [h];delta Rat.mul
 subst hd hu;refine ⟨?_,?_⟩
 · show Int.divExact _ _ _*Int.divExact _ _ _=_;rw [Int.divExact_eq_ediv,Int.divExact_eq_ediv];rfl
 · show ((Nat.divExact _ _ _*Nat.divExact _ _ _:Nat):Int)=_;rw [Nat.divExact_eq_div,Nat.divExact_eq_div];simp [Int.gcd]
theorem Jmf (p q:Rat):Rat.divInt (p.num*q.den) (p.den*q.num)=p / q:=by
 rw [Rat.div_def,Rat.inv_def];conv=>rhs;rw [←Rat.num_divInt_den p]
 rw [Rat.divInt_mul_divInt]
theorem Jo4 (p q:Rat):Rat.divInt (p.num*q.num) (p.den*q.den)=p*q:=by
 conv=>rhs;rw [←Rat.num_divInt_den p,←Rat.num_divInt_den q]
 rw [Rat.divInt_mul_divInt]
theorem Jo5 (p q:Rat):Rat.divInt (p.num*q.den+q.num*p.den) (p.den*q.den)=p+q:=by
 conv=>rhs;rw [←Rat.num_divInt_den p,←Rat.num_divInt_den q]
 rw [Rat.divInt_add_divInt _ _ (by have:=p.den_nz;omega) (by have:=q.den_nz;omega)]
theorem SmQ.add {k:Nat} {p q:Rat} (hp:SmQ k p) (hq:SmQ k q):SmQ (k+k+1) (p+q):=by
 rw [←Jo5];refine SmQ.divInt ?_ ((hp.1.mul hq.2).add (hq.1.mul hp.2)) ((hp.2.mul hq.2).mono (by omega));exact Int.mul_ne_zero (by have:=p.den_nz;omega) (by have:=q.den_nz;omega)
theorem SmQ.mul {k:Nat} {p q:Rat} (hp:SmQ k p) (hq:SmQ k q):SmQ (k+k) (p*q):=by
 rw [←Jo4];refine SmQ.divInt ?_ (hp.1.mul hq.1) (hp.2.mul hq.2);exact Int.mul_ne_zero (by have:=p.den_nz;omega) (by have:=q.den_nz;omega)
theorem SmQ.over {k:Nat} {p q:Rat} (hp:SmQ k p) (hq:SmQ k q) (h0:q≠0):SmQ (k+k) (p / q):=by
 rw [←Jmf];refine SmQ.divInt ?_ (hp.1.mul hq.2) (hp.2.mul hq.1);exact Int.mul_ne_zero (by have:=p.den_nz;omega) (fun h=>h0 (Rat.num_eq_zero.1 h))
theorem SmQ.neg {k:Nat} {q:Rat} (h:SmQ k q):SmQ k (-q):=⟨h.1.neg,h.2⟩
theorem SmQ.denZ {k:Nat} {q:Rat} (h:SmQ k q):Sm k (denZ q):=by
 unfold Go.Proofs.YtcahejkcdcjjgaaGreatDoor.denZ;split
 · exact Sm.zero k
 · exact h.2
@[irreducible] def Sq (q:Rat):Prop:=SmQ 1000000 q
theorem Sq.of {k:Nat} {q:Rat} (h:SmQ k q) (hk:k≤1000000):Sq q:=by unfold Sq;exact h.mono hk
theorem Sq.sm {q:Rat} (h:Sq q):SmQ 1000000 q:=by unfold Sq at h;exact h
theorem Sq.num {q:Rat} (h:Sq q):Sok q.num:=Sok.of h.sm.1 (by omega)
theorem Sq.den {q:Rat} (h:Sq q):Sok (q.den:Int):=Sok.of h.sm.2 (by omega)
theorem Sq.neg {q:Rat} (h:Sq q):Sq (-q):=Sq.of h.sm.neg (Nat.le_refl _)
theorem Sq.mulN {p q:Rat} (hp:Sq p) (hq:Sq q):Sok (p.num*q.num):=Sok.of (hp.sm.1.mul hq.sm.1) (by omega)
theorem Sq.cross {p q:Rat} (hp:Sq p) (hq:Sq q):Sok (p.num*q.den):=Sok.of (hp.sm.1.mul hq.sm.2) (by omega)
theorem Sq.cross2 {p q:Rat} (hp:Sq p) (hq:Sq q):Sok ((p.den:Int)*q.num):=Sok.of (hp.sm.2.mul hq.sm.1) (by omega)
theorem Sq.sumN {p q:Rat} (hp:Sq p) (hq:Sq q):Sok (p.num*q.den+q.num*p.den):=Sok.of ((hp.sm.1.mul hq.sm.2).add (hq.sm.1.mul hp.sm.2)) (by omega)
end Go.Proofs.YtcahejkcdcjjgaaGreatDoor
