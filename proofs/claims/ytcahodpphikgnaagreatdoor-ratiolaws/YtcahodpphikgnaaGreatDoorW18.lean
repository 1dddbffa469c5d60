import Derived.Test.YtcahodpphikgnaaGreatDoorW09
import Derived.Test.YtcahodpphikgnaaGreatDoorW08
set_option linter.all false
set_option maxRecDepth 99999
set_option maxHeartbeats 0
namespace Go.Proofs.YtcahodpphikgnaaGreatDoor
open List renaming replicate->L0
open Proofs.Tryz
open Go.RowKit Go.Shelf
def Ii{zs:Y}{o v:Nat}(h:o<zs.length):(zs.set o v).take (o+1)=zs.take o++[v]:=by
 grind[AM,List.take_set,Ah]
def XS{b:Nat}:∀(vs:Y) (o:Nat) (W:World) (zs:Y),Bo W b zs→o+vs.length≤zs.length→Bo (W.setCells b o (cellsOf .u64 vs)) b (zs.take o++(vs++zs.drop (o+vs.length)))
 |[],o,W,zs,h,_=>by
  have e:zs.take o++([]++zs.drop (o+([]:Y).length))=zs:=by simp
  rw[e];exact h
 |v::r,o,W,zs,h,hl=>by
  rw[Aj]at hl;have ih:=XS r (o+1) (W.setCell ⟨b,o,none⟩ (.int .u64 (v:Nat))) (zs.set o v) (h.set o v) (by grind);rw[Ii (by omega),List.drop_set_of_lt (by omega),Cw]at ih;have e:o+1+r.length=o+(v::r).length:=by rw[Aj];omega
  rw[e]at ih;exact ih
theorem Xk{b:Nat}:∀(vs:List Value) (o:Nat) (W:World),W.grownBy (W.setCells b o vs) (some b)
 |[],_,W=>J2 W _
 |v::r,o,W=>Jo (JC W b o v) (Xk r (o+1) _)
def FV(ty:TypeId)(g n c:Nat)(zs:Y)(W:World)(h:Bo W g zs)(hn:n≤zs.length):
 ∃W',(Builtin.clear_ #[23] ty #[.slice (some ⟨g,0,none⟩) n c]).run Tryz.prog W=.ok (.tuple #[]) W'∧Bo W' g (L0 n 0++zs.drop n)∧W.grownBy W' (some g):=by
 rcases Am n with h0|h0
 · subst h0;refine⟨W,?_,?_,J2 W _⟩
   · simp[Builtin.clear_,run_underlying underlying23]
   grind
 · have h1:=Lib.run_clear_slice (P:=Tryz.prog) W 23 94 ty (.int .u64 0) underlying23 (fun w=>by kernel_rfl) J J g 0 n c h0
    (fun j hj=>by rw[A5,h.cell (by omega)];rfl) (fun j _=>h.frozen _)
   have e:(L0 n (Value.int .u64 0))=cellsOf .u64 (L0 n 0):=by simp[cellsOf]
   rw[e]at h1;have h2:=XS (L0 n 0) 0 W zs h (by grind);grind[Xk]
def D6(B:Nat):∀(D:Y) (j d:Nat),j<D.length→val B (D.set j d)+B^j*D[j]?.getD 0=val B D+B^j*d
 |[],_,_,h=>by cases h
 |x::D,0,d,_=>by simp[val];omega
 |x::D,j+1,d,h=>by
  have ih:=D6 B D j d (by simpa using h);grind[val]
def FW(B n:Nat):val B (L0 n 0)=0:=by
 induction n with
 |zero=>rfl
 |succ n ih=>rw[A8,val,ih];simp
def XJ(us bs:Y)(i:Nat)(D:Y):Prop:=
 D.length=us.length+bs.length∧Bn O D∧val O D=val O (us.take i)*val O bs
def XJ.start(us bs:Y):XJ us bs 0 (L0 (us.length+bs.length) 0):=
 ⟨AN,fun x hx=>by grind[O],by rw[FW];simp[val]⟩
def XT{B:Nat}(hB:0<B):∀ {D:Y},val B D=0→∀j:Nat,D[j]?.getD 0=0
 |[],_,j=>by simp
 |d::D,h,0=>by
  rw[JB]at h;show d=0;omega
 |d::D,h,j+1=>by
  rw[JB]at h;have h1:B*val B D=0:=by omega
  have h2:val B D=0:=by
   rcases Nat.mul_eq_zero.1 h1 with h|h
   · omega
   · exact h
  rw[Az];exact XT hB h2 j
def YR{B k:Nat}{D:Y}(hk:k≤D.length)(h:val B D<B^k):val B (D.drop k)=0:=by
 have e:val B D=val B (D.take k)+B^k*val B (D.drop k):=by
  have h1:=val_append B (D.take k) (D.drop k);rw[AA,Ah,Cg hk]at h1;exact h1
 rcases Am (val B (D.drop k))with h2|h2
 · exact h2
 · have:=Ai (B^k) h2;omega
def XJ.step{us bs D q:Y}{i wd over:Nat}(h:XJ us bs i D)(hu:Bn O us)(hb:Bn O bs)(hi:i<us.length)(hw:wd=us[i]?.getD 0)(hq:J3 D bs i wd bs.length over q):
 XJ us bs (i+1) ((Bq D i bs.length q).set (i+bs.length) over):=by
 obtain⟨h1,h2,h3⟩:=h;obtain⟨q1,q2,q3,q4⟩:=hq;have Qb:val O D<O^(i+bs.length):=by
  rw[h3,Cl];have e1:=JN (hu.take i);rw[Ah,Cg (by omega)]at e1;have e2:=JN hb;rcases Am (val O bs)with h0|h0
  · rw[h0,A4];exact Bj (CG (by unfold O;omega)) (CG (by unfold O;omega))
  · exact Nat.mul_lt_mul'' e1 e2
 have hz:=YR (by omega) Qb;have Qa:(Bq D i bs.length q).length=D.length:=Jy q1 (by omega);refine⟨by grind,?_,?_⟩
 · intro x hx;rcases List.mem_or_eq_of_mem_set hx with hx|hx
   · rw[Bq]at hx;rcases Cf.1 hx with hx|hx
     · exact(h2.take i) x hx
     · rcases Cf.1 hx with hx|hx
       · exact q2 x hx
       · exact(h2.drop _) x hx
   · rw[hx];exact q3
 · have e1:=D6 O (Bq D i bs.length q) (i+bs.length) over (by rw[Qa];omega);have e2:(Bq D i bs.length q)[i+bs.length]?.getD 0=0:=by
    rw[YH q1 (by omega)];have:=XT (by unfold O;omega) hz 0;rw[List.getElem?_drop,AQ]at this;exact this
   rw[e2,A4,AQ]at e1;rw[e1];have e3:val O (Bq D i bs.length q)=val O (D.take i)+O^i*val O q:=by
    rw[Bq,val_append,val_append,Ah,Cg (by omega),hz];simp
   have e4:val O D=val O (D.take i)+O^i*val O ((D.drop i).take bs.length):=by
    have a1:=val_append O (D.take i) (D.drop i);rw[AA,Ah,Cg (by omega)]at a1;have a2:=val_append O ((D.drop i).take bs.length) ((D.drop i).drop bs.length);rw[AA,CH,hz,A4,AQ]at a2;rw[a1,a2]
   grind[Jl]
def XJ.fin{us bs D:Y}{m n:Nat}(h:XJ us bs us.length D)(ha:us=Jc O m)(hb:bs=Jc O n):Jr D=Jc O (m*n):=by
 obtain⟨_,h2,h3⟩:=h;grind[JF,Jb,Jg]
def J3.tail{D tl bs q:Y}{i wd len over:Nat}(h:J3 (D++tl) bs i wd len over q)(hi:i+len≤D.length):J3 D bs i wd len over q:=by
 obtain⟨h1,h2,h3,h4⟩:=h;refine⟨h1,h2,h3,?_⟩;grind
def FX{D tl q:Y}{i len:Nat}(hi:i+len≤D.length):Bq (D++tl) i len q=Bq D i len q++tl:=by
 grind[Bq]
def X6(g rl rc:Nat)(zs:Y)(a:N)(la ca:Nat)(b:N)(lb cb m n:Nat)(w:World)
(hA:Bo w g zs)(hzs:Bn O zs)(hz:la+lb≤zs.length)(hcap:la+lb≤rc)(hrc:rc≤9223372036854775807)(hlen:la+lb≤1099511627776)
(ra:Row .u64 w (.slice a la ca) (Jc O m))(rb:Row .u64 w (.slice b lb cb) (Jc O n))(hna:∀p,a=some p→0<la→p.block≠g)(hnb:∀p,b=some p→0<lb→p.block≠g):
 Calls Tryz.prog 105 #[.slice (some ⟨g,0,none⟩) rl rc,.slice a la ca,.slice b lb cb] w fun e w'=>∃u,e=.returned u∧(UN w' u (m*n)∧w.grownBy w' (some g))∧(u=.slice none 0 0∨∃l,u=.slice (some ⟨g,0,none⟩) l rc)∧∃zs',Bo w' g zs'∧Bn O zs'∧zs'.length=zs.length:=by
 obtain⟨hl1,hc1,hm1,hk1,hf1⟩:=Jk ra;have Qb:=(Jk rb).1;have xa:=Jh Jb m;have xb:=Jh Jb n;have HF:=Ja (fun D (h:XJ (Jc O m) (Jc O n) (Jc O m).length D)=>h.fin (m:=m) (n:=n) J J);have HB:=Ja rb;generalize Jc O m=us at *;generalize Jc O n=vs at *;obtain⟨W1,hcl,hA1,hG1⟩:=FV 0 g (la+lb) rc zs w hA hz;have HS:=Ja (XJ.start us vs);rw[←hl1,←Qb]at HS;have Qi:Bn O (zs.drop (la+lb)):=hzs.drop _;have Qn:(zs.drop (la+lb)).length=zs.length-(la+lb):=Cm;obtain⟨Z,hZ⟩:∃Z,Z=zs.length:=⟨_,J⟩;rw[←hZ]at Qn hz ⊢;generalize zs.drop (la+lb)=tl at *;obtain⟨H1,Qe,Qf,Qh,Qa⟩:=C6 hf1 hl1 Qb hna hnb;clear hf1 hl1 Qb ra rb hZ hA hna hnb;go_enter func105,ntmps105
 go_wp2;go_loopw [19] (fun iv wr=>∃(i:Nat) (D:Y),iv=.int .i64 i∧i≤la∧Hid (XJ us vs i D)∧Bo wr g (D++tl)∧w.grownBy wr (some g))
  (fun iv _=>la-(intOf iv).toNat)
 case atStart=>exact⟨0,_,J,AP _,HS.o,hA1,hG1⟩
 case round=>
  clear HS hA1 hG1 hcl;obtain⟨i,D,rfl,hi,HD,hA,hG⟩:=hrel;have Ql:=HD.o.1;rw[←Qe.o,←Qf.o]at Ql;by_cases hlt:i<la
  · obtain⟨ab,ao,rfl,hab,hca⟩:=H1.o i hlt;have hcx:=(BN (w:=w) (hG.block ab hab (fun e=>Qh.o _ J (by omega) (by cases e;rfl)))).trans hca;have hw:=xa.getD (by unfold O;omega) i;have Qk:=Ja (fun over q (h:J3 D vs i (us[i]?.getD 0) vs.length over q)=>HD.o.step xa xb (by rw[←Qe.o];exact hlt) J h);have Qo:=Row.grown HB.o hG Qa.o;have Qd:=HD.o.2.1.append Qi;rw[←Qf.o]at Qk;generalize us[i]?.getD 0=wd at *;clear hca;go_wp2_with(go_at_call 97;refine(XI g i lb _ (D++tl) b cb vs wd _ hA Qd (by rw[Ar];omega) (by omega) Qo xb Qa.o hw).mono ?_;rintro e w5 ⟨over,q,rfl,hq,hA5,hg5⟩;have Qj:=Jy hq.1 (xs:=D++tl) (ro:=i) (by rw[Ar];omega);have hc5:=hA5.cell (j:=i+lb) (by rw[Qj,Ar];omega);have hf5:=hA5.frozen (i+lb);have HQ:=Ja hq;clear hq Qj)
    have Qg:=hA5.set (i+lb) over;rw[FX (by omega),List.set_append_left _ _ (by rw[Jy HQ.o.1 (by omega)];omega)]at Qg;exact⟨⟨i+1,(Bq D i lb q).set (i+lb) over,by simp,by omega,Qk.o over q (HQ.o.tail (by omega)),Qg,Jo (Jo hG hg5) (JC _ _ _ _)⟩,by simp[intOf];omega⟩
  · obtain rfl:i=la:=by omega
    have Qc:Row .u64 wr (.slice (some ⟨g,0,none⟩) (i+lb) rc) D:=by
     have h1:=hA.row 0 (i+lb) rc (by grind) hcap hrc hlen;rwa[Ay,AG (by omega),Ab (by omega)]at h1
    have Qm:=Ja (HF.o D (by rw[←Qe.o];exact HD.o));have Qd:=HD.o.2.1.append Qi;clear HD HF H1 HB Qh Qa;go_wp2_with(go_at_call 73;refine(Xt _ _ _ D _ Qc).mono ?_;rintro e w5 ⟨u,rfl,⟨hu,hb5⟩,hform⟩;rw[Qm.o]at hu hform;obtain⟨ua,uc,rfl⟩:=UN.form hu)
    go_ret;refine⟨_,J,⟨hu,Jo hG (JV hb5 _)⟩,?_,D++tl,hA.below hb5,Qd,by grind⟩;rcases hform with⟨e,_⟩|e
    · exact AE e
    · exact A6 ⟨_,e⟩
def XJ.fing{us bs D:Y}(h:XJ us bs us.length D):Jr D=Jc O (val O us*val O bs):=by
 obtain⟨_,h2,h3⟩:=h;grind[JF,Jb]
def Ij(g rl rc:Nat)(zs:Y)(a:N)(la ca:Nat)(b:N)(lb cb:Nat)(us vs:Y)(w:World)(xa:Bn O us)(xb:Bn O vs)
(hA:Bo w g zs)(hzs:Bn O zs)(hz:la+lb≤zs.length)(hcap:la+lb≤rc)(hrc:rc≤9223372036854775807)(hlen:la+lb≤1099511627776)
(ra:Row .u64 w (.slice a la ca) us)(rb:Row .u64 w (.slice b lb cb) vs)(hna:∀p,a=some p→0<la→p.block≠g)(hnb:∀p,b=some p→0<lb→p.block≠g):
 Calls Tryz.prog 105 #[.slice (some ⟨g,0,none⟩) rl rc,.slice a la ca,.slice b lb cb] w fun e w'=>∃u,e=.returned u∧(UN w' u (val O us*val O vs)∧w.grownBy w' (some g))∧(u=.slice none 0 0∨∃l,u=.slice (some ⟨g,0,none⟩) l rc)∧∃zs',Bo w' g zs'∧Bn O zs'∧zs'.length=zs.length:=by
 obtain⟨hl1,hc1,hm1,hk1,hf1⟩:=Jk ra;have Qb:=(Jk rb).1;have HF:=Ja (fun D (h:XJ us vs us.length D)=>h.fing);have HB:=Ja rb;obtain⟨W1,hcl,hA1,hG1⟩:=FV 0 g (la+lb) rc zs w hA hz;have HS:=Ja (XJ.start us vs);rw[←hl1,←Qb]at HS;have Qi:Bn O (zs.drop (la+lb)):=hzs.drop _;have Qn:(zs.drop (la+lb)).length=zs.length-(la+lb):=Cm;obtain⟨Z,hZ⟩:∃Z,Z=zs.length:=⟨_,J⟩;rw[←hZ]at Qn hz ⊢;generalize zs.drop (la+lb)=tl at *;obtain⟨H1,Qe,Qf,Qh,Qa⟩:=C6 hf1 hl1 Qb hna hnb;clear hf1 hl1 Qb ra rb hZ hA hna hnb;go_enter func105,ntmps105
 go_wp2;go_loopw [19] (fun iv wr=>∃(i:Nat) (D:Y),iv=.int .i64 i∧i≤la∧Hid (XJ us vs i D)∧Bo wr g (D++tl)∧w.grownBy wr (some g))
  (fun iv _=>la-(intOf iv).toNat)
 case atStart=>exact⟨0,_,J,AP _,HS.o,hA1,hG1⟩
 case round=>
  clear HS hA1 hG1 hcl;obtain⟨i,D,rfl,hi,HD,hA,hG⟩:=hrel;have Ql:=HD.o.1;rw[←Qe.o,←Qf.o]at Ql;by_cases hlt:i<la
  · obtain⟨ab,ao,rfl,hab,hca⟩:=H1.o i hlt;have hcx:=(BN (w:=w) (hG.block ab hab (fun e=>Qh.o _ J (by omega) (by cases e;rfl)))).trans hca;have hw:=xa.getD (by unfold O;omega) i;have Qk:=Ja (fun over q (h:J3 D vs i (us[i]?.getD 0) vs.length over q)=>HD.o.step xa xb (by rw[←Qe.o];exact hlt) J h);have Qo:=Row.grown HB.o hG Qa.o;have Qd:=HD.o.2.1.append Qi;rw[←Qf.o]at Qk;generalize us[i]?.getD 0=wd at *;clear hca;go_wp2_with(go_at_call 97;refine(XI g i lb _ (D++tl) b cb vs wd _ hA Qd (by rw[Ar];omega) (by omega) Qo xb Qa.o hw).mono ?_;rintro e w5 ⟨over,q,rfl,hq,hA5,hg5⟩;have Qj:=Jy hq.1 (xs:=D++tl) (ro:=i) (by rw[Ar];omega);have hc5:=hA5.cell (j:=i+lb) (by rw[Qj,Ar];omega);have hf5:=hA5.frozen (i+lb);have HQ:=Ja hq;clear hq Qj)
    have Qg:=hA5.set (i+lb) over;rw[FX (by omega),List.set_append_left _ _ (by rw[Jy HQ.o.1 (by omega)];omega)]at Qg;exact⟨⟨i+1,(Bq D i lb q).set (i+lb) over,by simp,by omega,Qk.o over q (HQ.o.tail (by omega)),Qg,Jo (Jo hG hg5) (JC _ _ _ _)⟩,by simp[intOf];omega⟩
  · obtain rfl:i=la:=by omega
    have Qc:Row .u64 wr (.slice (some ⟨g,0,none⟩) (i+lb) rc) D:=by
     have h1:=hA.row 0 (i+lb) rc (by grind) hcap hrc hlen;rwa[Ay,AG (by omega),Ab (by omega)]at h1
    have Qm:=Ja (HF.o D (by rw[←Qe.o];exact HD.o));have Qd:=HD.o.2.1.append Qi;clear HD HF H1 HB Qh Qa;go_wp2_with(go_at_call 73;refine(Xt _ _ _ D _ Qc).mono ?_;rintro e w5 ⟨u,rfl,⟨hu,hb5⟩,hform⟩;rw[Qm.o]at hu hform;obtain⟨ua,uc,rfl⟩:=UN.form hu)
    go_ret;refine⟨_,J,⟨hu,Jo hG (JV hb5 _)⟩,?_,D++tl,hA.below hb5,Qd,by grind⟩;rcases hform with⟨e,_⟩|e
    · exact AE e
    · exact A6 ⟨_,e⟩
def Y3:O=2^64:=by unfold O;rfl
def XU(xs bs:Y)(ro wd i over c:Nat)(q:Y):Prop:=
 q.length=i∧Bn O q∧over<O∧c≤1∧val O q+val O (bs.take i)*wd=val O ((xs.drop ro).take i)+O^i*(over+c)
def XU.start(xs bs:Y)(ro wd:Nat):XU xs bs ro wd 0 0 0 []:=⟨J,Bn.nil _,by unfold O;omega,by omega,by simp[val]⟩
def XU.step{xs bs:Y}{ro wd i over c:Nat}{q:Y}(h:XU xs bs ro wd i over c q)(d over' c':Nat)(hd:d<O)(ho:over'<O)(hc:c'≤1)(he:d+bs[i]?.getD 0*wd+over+c=xs[ro+i]?.getD 0+O*(over'+c')):XU xs bs ro wd (i+1) over' c' (q++[d]):=by
 obtain⟨h1,h2,h3,h4,h5⟩:=h;refine⟨by simp;omega,h2.append (Bn.cons hd (Bn.nil _)),ho,hc,?_⟩;grind[Yb,Jl]
def Ik{x y r over c:Nat}(hx:x<O)(hy:y<O)(hr:r<O)(ho:over<O)(hc:c≤1):
 J8 x y+JS (JG x y) over 0<O∧Xh r (JJ (JG x y) over 0) c<O∧Y9 r (JJ (JG x y) over 0) c≤1∧JJ (JG x y) over 0<O∧
 Xh r (JJ (JG x y) over 0) c+x*y+over+c=r+O*(J8 x y+JS (JG x y) over 0+Y9 r (JJ (JG x y) over 0) c):=by
 have hp:=FO hx hy;grind[J8,JG,JS,JJ,Xh,Y9,O]
def XU.last{xs bs:Y}{ro wd n over c d c':Nat}{q:Y}(h:XU xs bs ro wd n over c q)(hn:bs.length=n)(hd:d<O)(he:d+over+c=xs[ro+n]?.getD 0+O*c'):
 (q++[d]).length=n+1∧Bn O (q++[d])∧val O (q++[d])+val O bs*wd=val O ((xs.drop ro).take (n+1))+O^(n+1)*c':=by
 obtain⟨h1,h2,h3,h4,h5⟩:=h;refine⟨by simp;omega,h2.append (Bn.cons hd (Bn.nil _)),?_⟩;grind[Yb,Jl]
def B7(x s:Nat):Nat:=x*2^s%O
def Bz(x s:Nat):Nat:=x/2^s
theorem YV{s:Nat}(hs:s≤64):2^s*2^(64-s)=O:=by rw[←Cl,show s+(64-s)=64 from by omega];rfl
def DL{x s:Nat}(hs:s≤64):B7 x s=x%2^(64-s)*2^s:=by
 grind[B7,YV,Nat.mul_mod_mul_right]
def Il{x c s:Nat}(hs:s≤63)(hx:x<O)(hc:c<2^s):c ||| B7 x s=c+B7 x s∧c+B7 x s<O∧Bz x (64-s)<2^s∧c+B7 x s+O*Bz x (64-s)=c+x*2^s:=by
 rw[DL (by omega)];have hp:=YV (s:=s) (by omega);have hm:=AB x (2^(64-s));have Qa:=AH x (Au (64-s));unfold Bz;have h1:c ||| x%2^(64-s)*2^s=c+x%2^(64-s)*2^s:=by
  rw[Nat.or_comm,Ax,←Ck hc,Nat.add_comm]
 refine⟨h1,?_,?_,?_⟩
 · have h2:(x%2^(64-s)+1)*2^s≤2^(64-s)*2^s:=Ad _ Qa;grind
 · rw[Al (Au _),hp];exact hx
 grind
def C2(us:Y)(s i:Nat)(q:Y)(c:Nat):Prop:=
 q.length=i∧Bn O q∧c<2^s∧val O q+O^i*c=val O (us.take i)*2^s
def C2.start(us:Y)(s:Nat):C2 us s 0 [] 0:=⟨J,Bn.nil _,Au s,by simp[val]⟩
def C2.step{us q:Y}{s i c d c':Nat}(h:C2 us s i q c)(hd:d<O)(hc:c'<2^s)(he:d+O*c'=c+us[i]?.getD 0*2^s):C2 us s (i+1) (q++[d]) c':=by
 obtain⟨h1,h2,h3,h4⟩:=h;refine⟨by simp;omega,h2.append (Bn.cons hd (Bn.nil _)),hc,?_⟩;grind[Yb,Jl]
def Im{x s:Nat}{P:Nat}(hs:s≤63)(hx:x<O):
 B7 (P%2^s) (64-s) ||| Bz x s=B7 (P%2^s) (64-s)+Bz x s∧B7 (P%2^s) (64-s)+Bz x s<O∧B7 x (64-s)=B7 ((x+O*P)%2^s) (64-s)∧
 (x+O*P)/2^s=B7 (P%2^s) (64-s)+Bz x s+O*(P/2^s):=by
 have hp:=YV (s:=s) (by omega);rw[DL (by omega),DL (by omega),DL (by omega),show 64-(64-s)=s from by omega,Nat.mod_mod];have hsr:Bz x s<2^(64-s):=by
  unfold Bz;rw[Al (Au _),Ax,hp];exact hx
 have Qa:=AH P (Au s);have hm:=AB P (2^s);refine⟨?_,?_,?_,?_⟩
 · grind[Ax,Ck]
 · have h2:(P%2^s+1)*2^(64-s)≤2^s*2^(64-s):=Ad _ Qa;grind
 · grind[A0,A2,Nat.mod_mod]
 · unfold Bz;have e:x+O*P=x+2^s*(P%2^s*2^(64-s)+O*(P/2^s)):=by
    rw[←hp];generalize P/2^s=a at *;generalize P%2^s=b at *;generalize 2^(64-s)=E at *;generalize 2^s=F at *;rw[←hm];grind
   grind[Cd]
def Io(B:Nat)(ds:Y)(k:Nat)(h:k<ds.length):val B (ds.drop k)=ds[k]?.getD 0+B*val B (ds.drop (k+1)):=by
 grind[AC,JB]
def Yv(R0 V n K k:Nat)(D Q:Y):Prop:=
 D.length=K+n∧Bn O D∧Q.length=K∧Bn O Q∧val O D<V*O^k∧R0=val O D+V*val O Q∧∀j,j<k→Q[j]?.getD 0=0
def Yv.win{R0 V n K k:Nat}{D Q:Y}(h:Yv R0 V n K (k+1) D Q)(hk:k<K)(hV:V<O^n):
 val O ((D.drop k).take (n+1))<V*O∧val O D=val O (D.take k)+O^k*val O ((D.drop k).take (n+1))∧val O (D.drop (k+(n+1)))=0:=by
 obtain⟨h1,h2,h3,h4,h5,h6,h7⟩:=h;have Qa:val O D<O^(k+(n+1)):=by
  have e:O^(k+(n+1))=O^n*O^(k+1):=by rw[←Cl];congr 1;omega
  rw[e];exact As h5 (Ad _ (by omega))
 have hz:=YR (by omega) Qa;have a1:=val_append O (D.take k) (D.drop k);rw[AA,Ah,Cg (by omega)]at a1;have a2:=val_append O ((D.drop k).take (n+1)) ((D.drop k).drop (n+1));rw[AA,CH,hz,A4,AQ]at a2;rw[a2]at a1;refine⟨?_,a1,hz⟩;rcases AR (val O ((D.drop k).take (n+1))) (V*O)with h|h
 · exact h
 · exfalso
   have:=Ai (O^k) h;have e:O^k*(V*O)=V*O^(k+1):=by rw[AW];grind
   omega
def Yv.step{R0 V n K k:Nat}{D Q q:Y}(h:Yv R0 V n K (k+1) D Q)(hk:k<K)(hV:V<O^n)(hql:q.length=n+1)(hq:Bn O q)
(hr:val O q=val O ((D.drop k).take (n+1))%V)(hV0:0<V):
 Yv R0 V n K k (Bq D k (n+1) q) (Q.set k (val O ((D.drop k).take (n+1))/V)):=by
 obtain⟨w1,w2,w3⟩:=h.win hk hV;obtain⟨h1,h2,h3,h4,h5,h6,h7⟩:=h;generalize hW:val O ((D.drop k).take (n+1))=W at *;have hd:=AB W V;have Qb:=AH W hV0;have Qa:W/V<O:=by rw[Al hV0,Ax];exact w1
 have e3:val O (Bq D k (n+1) q)=val O (D.take k)+O^k*val O q:=by
  rw[Bq,val_append,val_append,Ah,Cg (by omega),w3];simp
 have e4:=D6 O Q k (W/V) (by omega);rw[h7 k (by omega),A4,AQ]at e4;have htk:val O (D.take k)<O^k:=by
  have:=JN (h2.take k);rwa[Ah,Cg (by omega)]at this
 refine⟨by rw[Jy hql (by omega)];exact h1,?_,by grind,?_,?_,?_,?_⟩
 · intro x hx;rw[Bq]at hx;rcases Cf.1 hx with hx|hx
   · exact(h2.take k) x hx
   · rcases Cf.1 hx with hx|hx
     · exact hq x hx
     · exact(h2.drop _) x hx
 · intro x hx;rcases List.mem_or_eq_of_mem_set hx with hx|hx
   · exact h4 x hx
   · rw[hx];exact Qa
 · rw[e3,hr];have:=Ai (O^k) (show W%V+1≤V from Qb);grind
 · grind
 · intro j hj;grind
def Yv.start{R0 V n K:Nat}{D:Y}(h1:D.length=K+n)(h2:Bn O D)(h3:val O D=R0)(h4:R0<V*O^K):Yv R0 V n K K D (L0 K 0):=
 ⟨h1,h2,AN,fun x hx=>by grind[O],by rw[h3];exact h4,by rw[FW,A4,h3,AQ],fun j _=>by
  grind⟩
def Yv.fin{R0 V n K m b s:Nat}{D Q:Y}(h:Yv R0 V n K 0 D Q)(hR:R0=m*2^s)(hV:V=b*2^s):Jr Q=Jc O (m/b)∧val O D=m%b*2^s:=by
 obtain⟨h1,h2,h3,h4,h5,h6,h7⟩:=h;grind[Cd,AL,A2,AU,Nat.mul_div_mul_right,Nat.mul_mod_mul_right,JF,Jb]
def Ip(br ro len cap:Nat)(xs:Y)(a:N)(cb:Nat)(bs:Y)(wd:Nat)(w:World)
(hA:Bo w br xs)(hx:Bn O xs)(hro:ro+(len+1)≤xs.length)(hlc:len+1≤cap)(hb:Row .u64 w (.slice a len cb) bs)(hbs:Bn O bs)(hne:∀p,a=some p→0<len→p.block≠br)(hw:wd<O):
 Calls Tryz.prog 140 #[.slice (some ⟨br,ro,none⟩) (len+1) cap,.slice a len cb,.int .u64 (wd:Nat)] w fun e w'=>
  ∃c q,e=.returned (.int .u64 (c:Nat))∧(c≤1∧q.length=len+1∧Bn O q∧val O q+val O bs*wd=val O ((xs.drop ro).take (len+1))+O^(len+1)*c)∧Bo w' br (Bq xs ro (len+1) q)∧w.grownBy w' (some br):=by
 obtain⟨hl,hlc2,hcm,hlm,hc⟩:=Jk hb;obtain⟨HL,HC,HN⟩:=CK hl hc hne;clear hc hl hne hb;go_enter func140,ntmps140
 go_wp2;go_loopw [7,8,16] (fun ov cv iv wr=>∃(i over c:Nat) (q:Y),iv=.int .i64 i∧ov=.int .u64 (over:Nat)∧cv=.int .u64 (c:Nat)∧i≤len∧over<O∧c≤1∧Hid (XU xs bs ro wd i over c q)∧Bo wr br (Bq xs ro i q)∧w.grownBy wr (some br))
  (fun _ _ iv _=>len-(intOf iv).toNat)
 case atStart=>exact⟨0,0,0,[],J,J,J,AP _,by unfold O;omega,by omega,XU.start _ _ _ _,by rw[mid_zero];exact hA,J2 _ _⟩
 case round=>
  obtain⟨i,over,c,q,rfl,rfl,rfl,hi,ho,hcc,HP,hM,hg⟩:=hrel;by_cases hlt:i<len
  · obtain⟨b,off,rfl,hbb,hc⟩:=HC.o i hlt;have Qf:=HN.o _ J (by omega);have hq:=HP.o.1;have hcb:=(BN (w:=w) (hg.block b hbb (fun e=>Qf (by cases e;rfl)))).trans hc;have Qd:wr.cell? ⟨br,ro+i,none⟩=some (.int .u64 (xs[ro+i]?.getD 0:Nat)):=by rw[←YH hq (by omega)];exact hM.cell (by rw[Jy hq (by omega)];omega)
    have Qe:=hM.frozen (ro+i);have Qc:=hbs.getD (by unfold O;omega) i;have Qb:=hx.getD (by unfold O;omega) (ro+i);obtain⟨s1,s2,s3,s4,s5⟩:=Ik Qc hw Qb ho hcc;have HS:=Ja (HP.o.step _ _ _ s2 s1 s3 s5);have Qa:=Ja (show ∀d,(Bq xs ro i q).set (ro+i) d=Bq xs ro (i+1) (q++[d])from fun d=>Y2 hq (by omega) d);clear hc hq s5;generalize bs[i]?.getD 0=x at *;generalize xs[ro+i]?.getD 0=r at *;have a1:=DW (JG x wd) over;have a2:=DX r (JJ (JG x wd) over 0) c hcc;unfold O at s1;go_wp2_with(first
     |(go_at_call 119;refine(YJ _ _ Qc hw _).mono ?_;rintro e w' ⟨rfl,rfl⟩))
    exact⟨⟨i+1,J8 x wd+JS (JG x wd) over 0,Y9 r (JJ (JG x wd) over 0) c,q++[Xh r (JJ (JG x wd) over 0) c],by simp,by simp,J,by omega,HS.o.2.2.1,HS.o.2.2.2.1,HS,by rw[←Qa.o];exact hM.set _ _,Jo hg (JC _ _ _ _)⟩,by simp[intOf];omega⟩
  · obtain rfl:i=len:=by omega
    have hq:=HP.o.1;have Qd:wr.cell? ⟨br,ro+i,none⟩=some (.int .u64 (xs[ro+i]?.getD 0:Nat)):=by rw[←YH hq (by omega)];exact hM.cell (by rw[Jy hq (by omega)];omega)
    have Qe:=hM.frozen (ro+i);have Qb:=hx.getD (by unfold O;omega) (ro+i);obtain⟨s1,s2,s3⟩:=Dv Qb ho hcc;have HS:=Ja (HP.o.last HL.o.symm s1 s3);have Qa:=Ja (show ∀d,(Bq xs ro i q).set (ro+i) d=Bq xs ro (i+1) (q++[d])from fun d=>Y2 hq (by omega) d);clear hq s3;generalize xs[ro+i]?.getD 0=r at *;have a2:=DX r over c hcc;go_wp2;go_ret;exact⟨Y9 r over c,_,J,⟨s2,HS.o⟩,by rw[←Qa.o];exact hM.set _ _,Jo hg (JC _ _ _ _)⟩
