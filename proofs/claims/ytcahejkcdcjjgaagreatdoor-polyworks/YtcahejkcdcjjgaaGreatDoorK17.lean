import Derived.Test.YtcahejkcdcjjgaaGreatDoorK10
import Derived.Test.YtcahejkcdcjjgaaGreatDoorK09
set_option maxRecDepth 100000
set_option maxHeartbeats 16000000
namespace Go.Proofs.YtcahejkcdcjjgaaGreatDoor
open Go.RowKit Go.Shelf
theorem Jht{zs:List Nat}{o v:Nat}(h:o<zs.length):(zs.set o v).take (o+1)=zs.take o++[v]:=by
 rw[Ca (by rw[Cs];exact h),List.getElem_set_self,List.take_set,CI (by rw[Ag];omega)]
theorem Jeg{b:Nat}:∀(vs:List Nat) (o:Nat) (W:World) (zs:List Nat),Arr W b zs→o+vs.length≤zs.length→Arr (W.setCells b o (cellsOf .u64 vs)) b (zs.take o++(vs++zs.drop (o+vs.length)))
 |[],o,W,zs,h,_=>by
  have e:zs.take o++([]++zs.drop (o+([]:List Nat).length))=zs:=by simp
  rw[e];exact h
 |v::r,o,W,zs,h,hl=>by
  rw[Al]at hl;have ih:=Jeg r (o+1) (W.setCell ⟨b,o,none⟩ (.int .u64 (v:Nat))) (zs.set o v) (h.set o v) (by rw[Cs];omega);rw[Jht (by omega),List.drop_set_of_lt (by omega),Cg]at ih;have e:o+1+r.length=o+(v::r).length:=by rw[Al];omega
  rw[e]at ih;exact ih
theorem Jci{b:Nat}:∀(vs:List Value) (o:Nat) (W:World),W.grownBy (W.setCells b o vs) (some b)
 |[],_,W=>Yr W _
 |v::r,o,W=>Jf (JE W b o v) (Jci r (o+1) _)
theorem Jib(ty:TypeId)(g n c:Nat)(zs:List Nat)(W:World)(h:Arr W g zs)(hn:n≤zs.length):
 ∃W',(Builtin.clear_ #[34] ty #[.slice (some ⟨g,0,none⟩) n c]).run Tryz.prog W=.ok (.tuple #[]) W'∧Arr W' g (List.replicate n 0++zs.drop n)∧W.grownBy W' (some g):=by
 rcases AQ n with h0|h0
 · subst h0;refine⟨W,?_,?_,Yr W _⟩
   · simp[Builtin.clear_,run_underlying Tryz.underlying34]
   · rw[List.replicate_zero,Ap,Ax];exact h
 · have h1:=Lib.run_clear_slice (P:=Tryz.prog) W 34 163 ty (.int .u64 0) Tryz.underlying34 (fun w=>by kernel_rfl) rfl rfl g 0 n c h0
    (fun j hj=>by rw[Cc,h.cell (by omega)];rfl) (fun j _=>h.frozen _)
   have e:(List.replicate n (Value.int .u64 0))=cellsOf .u64 (List.replicate n 0):=by simp[cellsOf]
   rw[e]at h1;have h2:=Jeg (List.replicate n 0) 0 W zs h (by rw[At];omega);rw[CH,Ap,At,Cc]at h2;exact⟨_,h1,h2,Jci _ _ _⟩
theorem Jgt(B:Nat):∀(D:List Nat) (j d:Nat),j<D.length→val B (D.set j d)+B^j*D[j]?.getD 0=val B D+B^j*d
 |[],_,_,h=>by cases h
 |x::D,0,d,_=>by simp[val];omega
 |x::D,j+1,d,h=>by
  have ih:=Jgt B D j d (by simpa using h);simp only[List.set_cons_succ,val,Ah,AK];have e:B*val B (D.set j d)+B*(B^j*D[j]?.getD 0)=B*val B D+B*(B^j*d):=by rw[←Av,ih,Av]
  have e1:B^j*B*D[j]?.getD 0=B*(B^j*D[j]?.getD 0):=by rw[As (B^j) B,Au]
  have e2:B^j*B*d=B*(B^j*d):=by rw[As (B^j) B,Au]
  omega
theorem Jgu(B n:Nat):val B (List.replicate n 0)=0:=by
 induction n with
 |zero=>rfl
 |succ n ih=>rw[CN,val,ih];simp
def Jdw(us bs:List Nat)(i:Nat)(D:List Nat):Prop:=
 D.length=us.length+bs.length∧Dig B64 D∧val B64 D=val B64 (us.take i)*val B64 bs
theorem Jdw.start(us bs:List Nat):Jdw us bs 0 (List.replicate (us.length+bs.length) 0):=
 ⟨At,fun x hx=>by rw[Cw hx];unfold B64;omega,by rw[Jgu];simp[val]⟩
theorem Jeh{B:Nat}(hB:0<B):∀ {D:List Nat},val B D=0→∀j:Nat,D[j]?.getD 0=0
 |[],_,j=>by simp
 |d::D,h,0=>by
  rw[JX]at h;show d=0;omega
 |d::D,h,j+1=>by
  rw[JX]at h;have h1:B*val B D=0:=by omega
  have h2:val B D=0:=by
   rcases Nat.mul_eq_zero.1 h1 with h|h
   · omega
   · exact h
  rw[Ah];exact Jeh hB h2 j
theorem Ja1{B k:Nat}{D:List Nat}(hk:k≤D.length)(h:val B D<B^k):val B (D.drop k)=0:=by
 have e:val B D=val B (D.take k)+B^k*val B (D.drop k):=by
  have h1:=val_append B (D.take k) (D.drop k);rw[Cf,Ag,Cv hk]at h1;exact h1
 rcases AQ (val B (D.drop k))with h2|h2
 · exact h2
 · have:=Ay (B^k) h2;omega
theorem Jdw.step{us bs D q:List Nat}{i wd over:Nat}(h:Jdw us bs i D)(hu:Dig B64 us)(hb:Dig B64 bs)(hi:i<us.length)(hw:wd=us[i]?.getD 0)(hq:Xb D bs i wd bs.length over q):
 Jdw us bs (i+1) ((mid D i bs.length q).set (i+bs.length) over):=by
 obtain⟨h1,h2,h3⟩:=h;obtain⟨q1,q2,q3,q4⟩:=hq;have Qb:val B64 D<B64^(i+bs.length):=by
  rw[h3,CF];have e1:=J7 (hu.take i);rw[Ag,Cv (by omega)]at e1;have e2:=J7 hb;rcases AQ (val B64 bs)with h0|h0
  · rw[h0,Co];exact Nat.mul_pos (Fs (by unfold B64;omega)) (Fs (by unfold B64;omega))
  · exact Nat.mul_lt_mul'' e1 e2
 have hz:=Ja1 (by omega) Qb;have Qa:(mid D i bs.length q).length=D.length:=JO q1 (by omega);refine⟨by rw[Cs,Qa];exact h1,?_,?_⟩
 · intro x hx;rcases List.mem_or_eq_of_mem_set hx with hx|hx
   · rw[mid]at hx;rcases CD.1 hx with hx|hx
     · exact(h2.take i) x hx
     · rcases CD.1 hx with hx|hx
       · exact q2 x hx
       · exact(h2.drop _) x hx
   · rw[hx];exact q3
 · have e1:=Jgt B64 (mid D i bs.length q) (i+bs.length) over (by rw[Qa];omega);have e2:(mid D i bs.length q)[i+bs.length]?.getD 0=0:=by
    rw[Jar q1 (by omega)];have:=Jeh (by unfold B64;omega) hz 0;rw[CB,Cd]at this;exact this
   rw[e2,Co,Cd]at e1;rw[e1];have e3:val B64 (mid D i bs.length q)=val B64 (D.take i)+B64^i*val B64 q:=by
    rw[mid,val_append,val_append,Ag,Cv (by omega),hz];simp
   have e4:val B64 D=val B64 (D.take i)+B64^i*val B64 ((D.drop i).take bs.length):=by
    have a1:=val_append B64 (D.take i) (D.drop i);rw[Cf,Ag,Cv (by omega)]at a1;have a2:=val_append B64 ((D.drop i).take bs.length) ((D.drop i).drop bs.length);rw[Cf,Fj,hz,Co,Cd]at a2;rw[a1,a2]
   rw[Ab (Aa _)]at q4;rw[e3,CF,Au,CG,←Av,q4,Av,←CG,←e4,h3,Jn,AZ,hw,Au,As (us[i]?.getD 0)]
theorem Jdw.fin{us bs D:List Nat}{m n:Nat}(h:Jdw us bs us.length D)(ha:us=Jc B64 m)(hb:bs=Jc B64 n):Jv D=Jc B64 (m*n):=by
 obtain⟨_,h2,h3⟩:=h;rw[Ab (Aa _)]at h3;rw[←JW Je h2,h3,ha,hb,Jl Je,Jl Je]
theorem Xb.tail{D tl bs q:List Nat}{i wd len over:Nat}(h:Xb (D++tl) bs i wd len over q)(hi:i+len≤D.length):Xb D bs i wd len over q:=by
 obtain⟨h1,h2,h3,h4⟩:=h;refine⟨h1,h2,h3,?_⟩;rw[CS (by omega),AJ (by rw[AF];omega)]at h4;exact h4
theorem Jke{D tl q:List Nat}{i len:Nat}(hi:i+len≤D.length):mid (D++tl) i len q=mid D i len q++tl:=by
 rw[mid,mid,AJ (by omega),CS hi];simp
theorem Jom(g rl rc:Nat)(zs:List Nat)(a:Option Addr)(la ca:Nat)(b:Option Addr)(lb cb m n:Nat)(w:World)
(hA:Arr w g zs)(hzs:Dig B64 zs)(hz:la+lb≤zs.length)(hcap:la+lb≤rc)(hrc:rc≤9223372036854775807)(hlen:la+lb≤1099511627776)
(ra:Row .u64 w (.slice a la ca) (Jc B64 m))(rb:Row .u64 w (.slice b lb cb) (Jc B64 n))(hna:∀p,a=some p→0<la→p.block≠g)(hnb:∀p,b=some p→0<lb→p.block≠g):
 Calls Tryz.prog 153 #[.slice (some ⟨g,0,none⟩) rl rc,.slice a la ca,.slice b lb cb] w fun e w'=>∃u,e=.returned u∧(UN w' u (m*n)∧w.grownBy w' (some g))∧(u=.slice none 0 0∨∃l,u=.slice (some ⟨g,0,none⟩) l rc)∧∃zs',Arr w' g zs'∧Dig B64 zs'∧zs'.length=zs.length:=by
 obtain⟨hl1,hc1,hm1,hk1,hf1⟩:=Jp ra;have Qc:=(Jp rb).1;have hc2:=(Jp rb).2.1;have hm2:=(Jp rb).2.2.1;have xa:=Jm Je m;have xb:=Jm Je n;have HF:=Ja (fun D (h:Jdw (Jc B64 m) (Jc B64 n) (Jc B64 m).length D)=>h.fin (m:=m) (n:=n) rfl rfl);have HB:=Ja rb;generalize Jc B64 m=us at *;generalize Jc B64 n=vs at *;obtain⟨W1,hcl,hA1,hG1⟩:=Jib 0 g (la+lb) rc zs w hA hz;have HS:=Ja (Jdw.start us vs);rw[←hl1,←Qc]at HS;have Qi:Dig B64 (zs.drop (la+lb)):=hzs.drop _;have Ql:(zs.drop (la+lb)).length=zs.length-(la+lb):=AF;obtain⟨Z,hZ⟩:∃Z,Z=zs.length:=⟨_,rfl⟩;rw[←hZ]at Ql hz ⊢;generalize zs.drop (la+lb)=tl at *;have H1:=Ja hf1;have Qd:=Ja hl1;have Qk:=Ja Qc;have Qh:=Ja hna;have Qe:=Ja hnb;clear hf1 hl1 Qc ra rb hZ hA hna hnb;go_enter Tryz.func153,Tryz.ntmps153
 go_wp2;go_loopw [19] (fun iv wr=>∃(i:Nat) (D:List Nat),iv=.int .i64 i∧i≤la∧Hid (Jdw us vs i D)∧Arr wr g (D++tl)∧w.grownBy wr (some g))
  (fun iv _=>la-(intOf iv).toNat)
 case atStart=>exact⟨0,_,rfl,AW _,HS.o,hA1,hG1⟩
 case round=>
  clear HS hA1 hG1 hcl;obtain⟨i,D,rfl,hi,HD,hA,hG⟩:=hrel;have Qm:=HD.o.1;rw[←Qd.o,←Qk.o]at Qm;by_cases hlt:i<la
  · obtain⟨ab,ao,rfl,hab,hca⟩:=H1.o i hlt;have hcx:wr.cell? ⟨ab,ao+i,none⟩=some (.int .u64 (us[i]?.getD 0:Nat)):=(World.cell?_of_block (w:=w) (hG.block ab hab (fun e=>Qh.o _ rfl (by omega) (by cases e;rfl)))).trans hca;have hw:=xa.getD (by unfold B64;omega) i;have Qg:=Ja (fun over q (h:Xb D vs i (us[i]?.getD 0) vs.length over q)=>HD.o.step xa xb (by rw[←Qd.o];exact hlt) rfl h);have Qo:Row .u64 wr (.slice b lb cb) vs:=Row.grown HB.o hG Qe.o;have Qb:Dig B64 (D++tl):=HD.o.2.1.append Qi;rw[←Qk.o]at Qg;generalize us[i]?.getD 0=wd at *;clear hca;go_wp2_with(go_at_call 172;refine(Jdv g i lb _ (D++tl) b cb vs wd _ hA Qb (by rw[Ai];omega) (by omega) Qo xb Qe.o hw).mono ?_;rintro e w5 ⟨over,q,rfl,hq,hA5,hg5⟩;have Qf:=JO hq.1 (xs:=D++tl) (ro:=i) (by rw[Ai];omega);have hc5:=hA5.cell (j:=i+lb) (by rw[Qf,Ai];omega);have hf5:=hA5.frozen (i+lb);have HQ:=Ja hq;clear hq Qf)
    have Qj:=hA5.set (i+lb) over;rw[Jke (by omega),Fl _ _ (by rw[JO HQ.o.1 (by omega)];omega)]at Qj;exact⟨⟨i+1,(mid D i lb q).set (i+lb) over,by simp,by omega,Qg.o over q (HQ.o.tail (by omega)),Qj,Jf (Jf hG hg5) (JE _ _ _ _)⟩,by simp[intOf];omega⟩
  · obtain rfl:i=la:=by omega
    have Qa:Row .u64 wr (.slice (some ⟨g,0,none⟩) (i+lb) rc) D:=by
     have h1:=hA.row 0 (i+lb) rc (by rw[Ai];omega) hcap hrc hlen;rwa[Ax,AJ (by omega),Ab (by omega)]at h1
    have Qn:=Ja (HF.o D (by rw[←Qd.o];exact HD.o));have Qb:Dig B64 (D++tl):=HD.o.2.1.append Qi;clear HD HF H1 HB Qh Qe;go_wp2_with(go_at_call 132;refine(Jc4 _ _ _ D _ Qa).mono ?_;rintro e w5 ⟨u,rfl,⟨hu,hb5⟩,hform⟩;rw[Qn.o]at hu hform;obtain⟨ua,uc,rfl⟩:=UN.form hu)
    go_ret;refine⟨_,rfl,⟨hu,Jf hG (JU hb5 _)⟩,?_,D++tl,hA.below hb5,Qb,by rw[Ai];omega⟩;rcases hform with⟨e,_⟩|e
    · exact Or.inl e
    · exact Or.inr ⟨_,e⟩
theorem Jdw.fing{us bs D:List Nat}(h:Jdw us bs us.length D):Jv D=Jc B64 (val B64 us*val B64 bs):=by
 obtain⟨_,h2,h3⟩:=h;rw[Ab (Aa _)]at h3;rw[←JW Je h2,h3]
theorem Jon(g rl rc:Nat)(zs:List Nat)(a:Option Addr)(la ca:Nat)(b:Option Addr)(lb cb:Nat)(us vs:List Nat)(w:World)(xa:Dig B64 us)(xb:Dig B64 vs)
(hA:Arr w g zs)(hzs:Dig B64 zs)(hz:la+lb≤zs.length)(hcap:la+lb≤rc)(hrc:rc≤9223372036854775807)(hlen:la+lb≤1099511627776)
(ra:Row .u64 w (.slice a la ca) us)(rb:Row .u64 w (.slice b lb cb) vs)(hna:∀p,a=some p→0<la→p.block≠g)(hnb:∀p,b=some p→0<lb→p.block≠g):
 Calls Tryz.prog 153 #[.slice (some ⟨g,0,none⟩) rl rc,.slice a la ca,.slice b lb cb] w fun e w'=>∃u,e=.returned u∧(UN w' u (val B64 us*val B64 vs)∧w.grownBy w' (some g))∧(u=.slice none 0 0∨∃l,u=.slice (some ⟨g,0,none⟩) l rc)∧∃zs',Arr w' g zs'∧Dig B64 zs'∧zs'.length=zs.length:=by
 obtain⟨hl1,hc1,hm1,hk1,hf1⟩:=Jp ra;have Qc:=(Jp rb).1;have hc2:=(Jp rb).2.1;have hm2:=(Jp rb).2.2.1;have HF:=Ja (fun D (h:Jdw us vs us.length D)=>h.fing);have HB:=Ja rb;obtain⟨W1,hcl,hA1,hG1⟩:=Jib 0 g (la+lb) rc zs w hA hz;have HS:=Ja (Jdw.start us vs);rw[←hl1,←Qc]at HS;have Qi:Dig B64 (zs.drop (la+lb)):=hzs.drop _;have Ql:(zs.drop (la+lb)).length=zs.length-(la+lb):=AF;obtain⟨Z,hZ⟩:∃Z,Z=zs.length:=⟨_,rfl⟩;rw[←hZ]at Ql hz ⊢;generalize zs.drop (la+lb)=tl at *;have H1:=Ja hf1;have Qd:=Ja hl1;have Qk:=Ja Qc;have Qh:=Ja hna;have Qe:=Ja hnb;clear hf1 hl1 Qc ra rb hZ hA hna hnb;go_enter Tryz.func153,Tryz.ntmps153
 go_wp2;go_loopw [19] (fun iv wr=>∃(i:Nat) (D:List Nat),iv=.int .i64 i∧i≤la∧Hid (Jdw us vs i D)∧Arr wr g (D++tl)∧w.grownBy wr (some g))
  (fun iv _=>la-(intOf iv).toNat)
 case atStart=>exact⟨0,_,rfl,AW _,HS.o,hA1,hG1⟩
 case round=>
  clear HS hA1 hG1 hcl;obtain⟨i,D,rfl,hi,HD,hA,hG⟩:=hrel;have Qm:=HD.o.1;rw[←Qd.o,←Qk.o]at Qm;by_cases hlt:i<la
  · obtain⟨ab,ao,rfl,hab,hca⟩:=H1.o i hlt;have hcx:wr.cell? ⟨ab,ao+i,none⟩=some (.int .u64 (us[i]?.getD 0:Nat)):=(World.cell?_of_block (w:=w) (hG.block ab hab (fun e=>Qh.o _ rfl (by omega) (by cases e;rfl)))).trans hca;have hw:=xa.getD (by unfold B64;omega) i;have Qg:=Ja (fun over q (h:Xb D vs i (us[i]?.getD 0) vs.length over q)=>HD.o.step xa xb (by rw[←Qd.o];exact hlt) rfl h);have Qo:Row .u64 wr (.slice b lb cb) vs:=Row.grown HB.o hG Qe.o;have Qb:Dig B64 (D++tl):=HD.o.2.1.append Qi;rw[←Qk.o]at Qg;generalize us[i]?.getD 0=wd at *;clear hca;go_wp2_with(go_at_call 172;refine(Jdv g i lb _ (D++tl) b cb vs wd _ hA Qb (by rw[Ai];omega) (by omega) Qo xb Qe.o hw).mono ?_;rintro e w5 ⟨over,q,rfl,hq,hA5,hg5⟩;have Qf:=JO hq.1 (xs:=D++tl) (ro:=i) (by rw[Ai];omega);have hc5:=hA5.cell (j:=i+lb) (by rw[Qf,Ai];omega);have hf5:=hA5.frozen (i+lb);have HQ:=Ja hq;clear hq Qf)
    have Qj:=hA5.set (i+lb) over;rw[Jke (by omega),Fl _ _ (by rw[JO HQ.o.1 (by omega)];omega)]at Qj;exact⟨⟨i+1,(mid D i lb q).set (i+lb) over,by simp,by omega,Qg.o over q (HQ.o.tail (by omega)),Qj,Jf (Jf hG hg5) (JE _ _ _ _)⟩,by simp[intOf];omega⟩
  · obtain rfl:i=la:=by omega
    have Qa:Row .u64 wr (.slice (some ⟨g,0,none⟩) (i+lb) rc) D:=by
     have h1:=hA.row 0 (i+lb) rc (by rw[Ai];omega) hcap hrc hlen;rwa[Ax,AJ (by omega),Ab (by omega)]at h1
    have Qn:=Ja (HF.o D (by rw[←Qd.o];exact HD.o));have Qb:Dig B64 (D++tl):=HD.o.2.1.append Qi;clear HD HF H1 HB Qh Qe;go_wp2_with(go_at_call 132;refine(Jc4 _ _ _ D _ Qa).mono ?_;rintro e w5 ⟨u,rfl,⟨hu,hb5⟩,hform⟩;rw[Qn.o]at hu hform;obtain⟨ua,uc,rfl⟩:=UN.form hu)
    go_ret;refine⟨_,rfl,⟨hu,Jf hG (JU hb5 _)⟩,?_,D++tl,hA.below hb5,Qb,by rw[Ai];omega⟩;rcases hform with⟨e,_⟩|e
    · exact Or.inl e
    · exact Or.inr ⟨_,e⟩
theorem Jau:B64=2^64:=by unfold B64;rfl
def Jei(xs bs:List Nat)(ro wd i over c:Nat)(q:List Nat):Prop:=
 q.length=i∧Dig B64 q∧over<B64∧c≤1∧val B64 q+val B64 (bs.take i)*wd=val B64 ((xs.drop ro).take i)+B64^i*(over+c)
theorem Jei.start(xs bs:List Nat)(ro wd:Nat):Jei xs bs ro wd 0 0 0 []:=⟨rfl,Dig.nil _,by unfold B64;omega,by omega,by simp[val]⟩
theorem Jei.step{xs bs:List Nat}{ro wd i over c:Nat}{q:List Nat}(h:Jei xs bs ro wd i over c q)(d over' c':Nat)(hd:d<B64)(ho:over'<B64)(hc:c'≤1)(he:d+bs[i]?.getD 0*wd+over+c=xs[ro+i]?.getD 0+B64*(over'+c')):Jei xs bs ro wd (i+1) over' c' (q++[d]):=by
 obtain⟨h1,h2,h3,h4,h5⟩:=h;refine⟨by simp;omega,h2.append (Dig.cons hd (Dig.nil _)),ho,hc,?_⟩;rw[Yg,h1,Jn,Jn,CB,AZ,AK,Au,Au];have e2:B64^i*d+B64^i*(bs[i]?.getD 0*wd)+B64^i*(over+c)=B64^i*(xs[ro+i]?.getD 0)+B64^i*(B64*(over'+c')):=by
  rw[←Av,←Av,←CG,he,Av]
 omega
theorem Jqj{x y r over c:Nat}(hx:x<B64)(hy:y<B64)(hr:r<B64)(ho:over<B64)(hc:c≤1):
 Xg x y+YM (Ye x y) over 0<B64∧Jcf r (Yn (Ye x y) over 0) c<B64∧Jb7 r (Yn (Ye x y) over 0) c≤1∧Yn (Ye x y) over 0<B64∧
 Jcf r (Yn (Ye x y) over 0) c+x*y+over+c=r+B64*(Xg x y+YM (Ye x y) over 0+Jb7 r (Yn (Ye x y) over 0) c):=by
 have hp:=Jnd hx hy;unfold Xg Ye YM Yn Jcf Jb7;generalize x*y=p at *;unfold B64 at *;split<;>omega
theorem Jei.last{xs bs:List Nat}{ro wd n over c d c':Nat}{q:List Nat}(h:Jei xs bs ro wd n over c q)(hn:bs.length=n)(hd:d<B64)(he:d+over+c=xs[ro+n]?.getD 0+B64*c'):
 (q++[d]).length=n+1∧Dig B64 (q++[d])∧val B64 (q++[d])+val B64 bs*wd=val B64 ((xs.drop ro).take (n+1))+B64^(n+1)*c':=by
 obtain⟨h1,h2,h3,h4,h5⟩:=h;refine⟨by simp;omega,h2.append (Dig.cons hd (Dig.nil _)),?_⟩;rw[Ab (by omega)]at h5;rw[Yg,h1,Jn,CB,AK,Au];have e2:B64^n*d+B64^n*(over+c)=B64^n*(xs[ro+n]?.getD 0)+B64^n*(B64*c'):=by
  rw[←Av,←CG,he,Av]
 omega
def shl(x s:Nat):Nat:=x*2^s%B64
def shr(x s:Nat):Nat:=x/2^s
theorem Jbc{s:Nat}(hs:s≤64):2^s*2^(64-s)=B64:=by rw[←CF,show s+(64-s)=64 from by omega];rfl
theorem Jgv{x s:Nat}(hs:s≤64):shl x s=x%2^(64-s)*2^s:=by
 unfold shl;rw[←Jbc hs,As (2^s),Nat.mul_mod_mul_right]
theorem Jsu{x c s:Nat}(hs:s≤63)(hx:x<B64)(hc:c<2^s):c ||| shl x s=c+shl x s∧c+shl x s<B64∧shr x (64-s)<2^s∧c+shl x s+B64*shr x (64-s)=c+x*2^s:=by
 rw[Jgv (by omega)];have hp:=Jbc (s:=s) (by omega);have hm:=A8 x (2^(64-s));have Qa:=A4 x (A9 (64-s));unfold shr;have h1:c ||| x%2^(64-s)*2^s=c+x%2^(64-s)*2^s:=by
  rw[Nat.or_comm,As,←CZ hc,CQ]
 refine⟨h1,?_,?_,?_⟩
 · have h2:(x%2^(64-s)+1)*2^s≤2^(64-s)*2^s:=Am _ Qa;rw[AZ,CK,As (2^(64-s)),hp]at h2;omega
 · rw[AP (A9 _),hp];exact hx
 · rw[←hp];generalize x/2^(64-s)=a at *;generalize x%2^(64-s)=b at *;generalize 2^(64-s)=E at *;generalize 2^s=F at *;rw[←hm];grind
def Jma(us:List Nat)(s i:Nat)(q:List Nat)(c:Nat):Prop:=
 q.length=i∧Dig B64 q∧c<2^s∧val B64 q+B64^i*c=val B64 (us.take i)*2^s
theorem Jma.start(us:List Nat)(s:Nat):Jma us s 0 [] 0:=⟨rfl,Dig.nil _,A9 s,by simp[val]⟩
theorem Jma.step{us q:List Nat}{s i c d c':Nat}(h:Jma us s i q c)(hd:d<B64)(hc:c'<2^s)(he:d+B64*c'=c+us[i]?.getD 0*2^s):Jma us s (i+1) (q++[d]) c':=by
 obtain⟨h1,h2,h3,h4⟩:=h;refine⟨by simp;omega,h2.append (Dig.cons hd (Dig.nil _)),hc,?_⟩;rw[Yg,h1,Jn,AZ,AK,Au,Au];have e2:B64^i*d+B64^i*(B64*c')=B64^i*c+B64^i*(us[i]?.getD 0*2^s):=by
  rw[←Av,he,Av]
 omega
theorem Joo{x s:Nat}{P:Nat}(hs:s≤63)(hx:x<B64):
 shl (P%2^s) (64-s) ||| shr x s=shl (P%2^s) (64-s)+shr x s∧shl (P%2^s) (64-s)+shr x s<B64∧shl x (64-s)=shl ((x+B64*P)%2^s) (64-s)∧
 (x+B64*P)/2^s=shl (P%2^s) (64-s)+shr x s+B64*(P/2^s):=by
 have hp:=Jbc (s:=s) (by omega);rw[Jgv (by omega),Jgv (by omega),Jgv (by omega),show 64-(64-s)=s from by omega,Nat.mod_mod];have Qb:shr x s<2^(64-s):=by
  unfold shr;rw[AP (A9 _),As,hp];exact hx
 have Qa:=A4 P (A9 s);have hm:=A8 P (2^s);refine⟨?_,?_,?_,?_⟩
 · rw[As,←CZ Qb]
 · have h2:(P%2^s+1)*2^(64-s)≤2^s*2^(64-s):=Am _ Qa;rw[AZ,CK,hp]at h2;omega
 · congr 1;rw[←hp,Au,CE,Nat.mod_mod]
 · unfold shr;have e:x+B64*P=x+2^s*(P%2^s*2^(64-s)+B64*(P/2^s)):=by
    rw[←hp];generalize P/2^s=a at *;generalize P%2^s=b at *;generalize 2^(64-s)=E at *;generalize 2^s=F at *;rw[←hm];grind
   rw[e,CR _ _ (A9 _)];omega
theorem Jhu(B:Nat)(ds:List Nat)(k:Nat)(h:k<ds.length):val B (ds.drop k)=ds[k]?.getD 0+B*val B (ds.drop (k+1)):=by
 rw[AV h,JX,Ae h];rfl
def XW(R0 V n K k:Nat)(D Q:List Nat):Prop:=
 D.length=K+n∧Dig B64 D∧Q.length=K∧Dig B64 Q∧val B64 D<V*B64^k∧R0=val B64 D+V*val B64 Q∧∀j,j<k→Q[j]?.getD 0=0
theorem XW.win{R0 V n K k:Nat}{D Q:List Nat}(h:XW R0 V n K (k+1) D Q)(hk:k<K)(hV:V<B64^n):
 val B64 ((D.drop k).take (n+1))<V*B64∧val B64 D=val B64 (D.take k)+B64^k*val B64 ((D.drop k).take (n+1))∧val B64 (D.drop (k+(n+1)))=0:=by
 obtain⟨h1,h2,h3,h4,h5,h6,h7⟩:=h;have hB:0<B64:=by unfold B64;omega
 have Qa:val B64 D<B64^(k+(n+1)):=by
  have e:B64^(k+(n+1))=B64^n*B64^(k+1):=by rw[←CF];congr 1;omega
  rw[e];exact AA h5 (Am _ (by omega))
 have hz:=Ja1 (by omega) Qa;have a1:=val_append B64 (D.take k) (D.drop k);rw[Cf,Ag,Cv (by omega)]at a1;have a2:=val_append B64 ((D.drop k).take (n+1)) ((D.drop k).drop (n+1));rw[Cf,Fj,hz,Co,Cd]at a2;rw[a2]at a1;refine⟨?_,a1,hz⟩;rcases AC (val B64 ((D.drop k).take (n+1))) (V*B64)with h|h
 · exact h
 · exfalso
   have:=Ay (B64^k) h;have e:B64^k*(V*B64)=V*B64^(k+1):=by rw[AK];grind
   omega
theorem XW.step{R0 V n K k:Nat}{D Q q:List Nat}(h:XW R0 V n K (k+1) D Q)(hk:k<K)(hV:V<B64^n)(hql:q.length=n+1)(hq:Dig B64 q)
(hr:val B64 q=val B64 ((D.drop k).take (n+1))%V)(hV0:0<V):
 XW R0 V n K k (mid D k (n+1) q) (Q.set k (val B64 ((D.drop k).take (n+1))/V)):=by
 obtain⟨w1,w2,w3⟩:=h.win hk hV;obtain⟨h1,h2,h3,h4,h5,h6,h7⟩:=h;have hB:0<B64:=by unfold B64;omega
 generalize hW:val B64 ((D.drop k).take (n+1))=W at *;have hd:=A8 W V;have Qb:=A4 W hV0;have Qa:W/V<B64:=by rw[AP hV0,As];exact w1
 have e3:val B64 (mid D k (n+1) q)=val B64 (D.take k)+B64^k*val B64 q:=by
  rw[mid,val_append,val_append,Ag,Cv (by omega),w3];simp
 have e4:=Jgt B64 Q k (W/V) (by omega);rw[h7 k (by omega),Co,Cd]at e4;have htk:val B64 (D.take k)<B64^k:=by
  have:=J7 (h2.take k);rwa[Ag,Cv (by omega)]at this
 refine⟨by rw[JO hql (by omega)];exact h1,?_,by rw[Cs];exact h3,?_,?_,?_,?_⟩
 · intro x hx;rw[mid]at hx;rcases CD.1 hx with hx|hx
   · exact(h2.take k) x hx
   · rcases CD.1 hx with hx|hx
     · exact hq x hx
     · exact(h2.drop _) x hx
 · intro x hx;rcases List.mem_or_eq_of_mem_set hx with hx|hx
   · exact h4 x hx
   · rw[hx];exact Qa
 · rw[e3,hr];have:=Ay (B64^k) (show W%V+1≤V from Qb);rw[Av,Fi,As _ V]at this;omega
 · rw[e3,e4,hr,h6,w2,Av];have:B64^k*W=B64^k*(W%V)+V*(B64^k*(W/V)):=by
    conv=>lhs;rw[←hd]
    grind
   omega
 · intro j hj;rw[AO (by omega)];exact h7 j (by omega)
theorem XW.start{R0 V n K:Nat}{D:List Nat}(h1:D.length=K+n)(h2:Dig B64 D)(h3:val B64 D=R0)(h4:R0<V*B64^K):XW R0 V n K K D (List.replicate K 0):=
 ⟨h1,h2,At,fun x hx=>by rw[Cw hx];unfold B64;omega,by rw[h3];exact h4,by rw[Jgu,Co,h3,Cd],fun j _=>by
  by_cases hj:j<K
  · rw[List.getElem?_replicate_of_lt hj];rfl
  · rw[Aq (by rw[At];omega)];rfl⟩
theorem XW.fin{R0 V n K m b s:Nat}{D Q:List Nat}(h:XW R0 V n K 0 D Q)(hR:R0=m*2^s)(hV:V=b*2^s):Jv Q=Jc B64 (m/b)∧val B64 D=m%b*2^s:=by
 obtain⟨h1,h2,h3,h4,h5,h6,h7⟩:=h;rw[Nat.pow_zero,Fi]at h5;have e1:R0/V=val B64 Q:=by rw[h6,CR _ _ (by omega),Ci h5,Cc]
 have e2:R0%V=val B64 D:=by rw[h6,CE,Cn h5]
 rw[hR,hV,Nat.mul_div_mul_right _ _ (A9 s)]at e1;rw[hR,hV,Nat.mul_mod_mul_right]at e2;exact⟨by rw[←JW Je h4,←e1],e2.symm⟩
theorem Jgw(br ro len cap:Nat)(xs:List Nat)(a:Option Addr)(cb:Nat)(bs:List Nat)(wd:Nat)(w:World)
(hA:Arr w br xs)(hx:Dig B64 xs)(hro:ro+(len+1)≤xs.length)(hlc:len+1≤cap)(hb:Row .u64 w (.slice a len cb) bs)(hbs:Dig B64 bs)(hne:∀p,a=some p→0<len→p.block≠br)(hw:wd<B64):
 Calls Tryz.prog 199 #[.slice (some ⟨br,ro,none⟩) (len+1) cap,.slice a len cb,.int .u64 (wd:Nat)] w fun e w'=>
  ∃c q,e=.returned (.int .u64 (c:Nat))∧(c≤1∧q.length=len+1∧Dig B64 q∧val B64 q+val B64 bs*wd=val B64 ((xs.drop ro).take (len+1))+B64^(len+1)*c)∧Arr w' br (mid xs ro (len+1) q)∧w.grownBy w' (some br):=by
 obtain⟨hl,hlc2,hcm,hlm,hc⟩:=Jp hb;have HL:=Ja hl;have HC:=Ja hc;have HN:=Ja hne;clear hc hl hne hb;go_enter Tryz.func199,Tryz.ntmps199
 go_wp2;go_loopw [7,8,16] (fun ov cv iv wr=>∃(i over c:Nat) (q:List Nat),iv=.int .i64 i∧ov=.int .u64 (over:Nat)∧cv=.int .u64 (c:Nat)∧i≤len∧over<B64∧c≤1∧Hid (Jei xs bs ro wd i over c q)∧Arr wr br (mid xs ro i q)∧w.grownBy wr (some br))
  (fun _ _ iv _=>len-(intOf iv).toNat)
 case atStart=>exact⟨0,0,0,[],rfl,rfl,rfl,AW _,by unfold B64;omega,by omega,Jei.start _ _ _ _,by rw[mid_zero];exact hA,Yr _ _⟩
 case round=>
  obtain⟨i,over,c,q,rfl,rfl,rfl,hi,ho,hcc,HP,hM,hg⟩:=hrel;by_cases hlt:i<len
  · obtain⟨b,off,rfl,hbb,hc⟩:=HC.o i hlt;have Qf:=HN.o _ rfl (by omega);have hq:=HP.o.1;have hcb:wr.cell? ⟨b,off+i,none⟩=some (.int .u64 (bs[i]?.getD 0:Nat)):=(World.cell?_of_block (w:=w) (hg.block b hbb (fun e=>Qf (by cases e;rfl)))).trans hc;have Qe:wr.cell? ⟨br,ro+i,none⟩=some (.int .u64 (xs[ro+i]?.getD 0:Nat)):=by rw[←Jar hq (by omega)];exact hM.cell (by rw[JO hq (by omega)];omega)
    have Qd:=hM.frozen (ro+i);have Qc:=hbs.getD (by unfold B64;omega) i;have Qb:=hx.getD (by unfold B64;omega) (ro+i);obtain⟨s1,s2,s3,s4,s5⟩:=Jqj Qc hw Qb ho hcc;have HS:=Ja (HP.o.step _ _ _ s2 s1 s3 s5);have Qa:=Ja (show ∀d,(mid xs ro i q).set (ro+i) d=mid xs ro (i+1) (q++[d])from fun d=>Jbx hq (by omega) d);clear hc hq s5;generalize bs[i]?.getD 0=x at *;generalize xs[ro+i]?.getD 0=r at *;have a1:=Jfu (Ye x wd) over;have a2:=Jfv r (Yn (Ye x wd) over 0) c hcc;unfold B64 at s1;go_wp2_with(first
     |(go_at_call 190;refine(Jat _ _ Qc hw _).mono ?_;rintro e w' ⟨rfl,rfl⟩))
    exact⟨⟨i+1,Xg x wd+YM (Ye x wd) over 0,Jb7 r (Yn (Ye x wd) over 0) c,q++[Jcf r (Yn (Ye x wd) over 0) c],by simp,by simp,rfl,by omega,HS.o.2.2.1,HS.o.2.2.2.1,HS,by rw[←Qa.o];exact hM.set _ _,Jf hg (JE _ _ _ _)⟩,by simp[intOf];omega⟩
  · obtain rfl:i=len:=by omega
    have hq:=HP.o.1;have Qe:wr.cell? ⟨br,ro+i,none⟩=some (.int .u64 (xs[ro+i]?.getD 0:Nat)):=by rw[←Jar hq (by omega)];exact hM.cell (by rw[JO hq (by omega)];omega)
    have Qd:=hM.frozen (ro+i);have Qb:=hx.getD (by unfold B64;omega) (ro+i);obtain⟨s1,s2,s3⟩:=Jgo Qb ho hcc;have HS:=Ja (HP.o.last HL.o.symm s1 s3);have Qa:=Ja (show ∀d,(mid xs ro i q).set (ro+i) d=mid xs ro (i+1) (q++[d])from fun d=>Jbx hq (by omega) d);clear hq s3;generalize xs[ro+i]?.getD 0=r at *;have a2:=Jfv r over c hcc;go_wp2;go_ret;exact⟨Jb7 r over c,_,rfl,⟨s2,HS.o⟩,by rw[←Qa.o];exact hM.set _ _,Jf hg (JE _ _ _ _)⟩
