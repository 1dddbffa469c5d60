import Derived.Test.YtakpoihdghihmaaGreatDoorL10
import Derived.Test.YtakpoihdghihmaaGreatDoorL09
set_option maxRecDepth 100000
set_option maxHeartbeats 16000000
namespace Go.Proofs.YtakpoihdghihmaaGreatDoor
open Go.RowKit Go.Shelf
theorem UO{zs:List Nat}{o v:Nat}(h:o<zs.length):(zs.set o v).take (o+1)=zs.take o++[v]:=by
 rw[Ct (by rw[Cz];exact h),List.getElem_set_self,List.take_set,CW (by rw[Al];omega)]
theorem PF{b:Nat}:∀(vs:List Nat) (o:Nat) (W:World) (zs:List Nat),DQ W b zs→o+vs.length≤zs.length→DQ (W.setCells b o (cellsOf .u64 vs)) b (zs.take o++(vs++zs.drop (o+vs.length)))
 |[],o,W,zs,h,_=>by
  have e:zs.take o++([]++zs.drop (o+([]:List Nat).length))=zs:=by simp
  rw[e];exact h
 |v::r,o,W,zs,h,hl=>by
  rw[Ad]at hl;have ih:=PF r (o+1) (W.setCell ⟨b,o,none⟩ (.int .u64 (v:Nat))) (zs.set o v) (h.set o v) (by rw[Cz];omega);rw[UO (by omega),List.drop_set_of_lt (by omega),CS]at ih;have e:o+1+r.length=o+(v::r).length:=by rw[Ad];omega
  rw[e]at ih;exact ih
theorem PG{b:Nat}:∀(vs:List Value) (o:Nat) (W:World),W.grownBy (W.setCells b o vs) (some b)
 |[],_,W=>Xc W _
 |v::r,o,W=>Jl (JQ W b o v) (PG r (o+1) _)
theorem PH(ty:TypeId)(g n c:Nat)(zs:List Nat)(W:World)(h:DQ W g zs)(hn:n≤zs.length):
 ∃W',(Builtin.clear_ #[33] ty #[.slice (some ⟨g,0,none⟩) n c]).run Tryz.prog W=.ok (.tuple #[]) W'∧DQ W' g (List.replicate n 0++zs.drop n)∧W.grownBy W' (some g):=by
 rcases Cb n with h0|h0
 · subst h0;refine⟨W,?_,?_,Xc W _⟩
   · simp[Builtin.clear_,run_underlying Tryz.underlying33]
   · rw[List.replicate_zero,Ao,AQ];exact h
 · have h1:=Lib.run_clear_slice (P:=Tryz.prog) W 33 115 ty (.int .u64 0) Tryz.underlying33 (fun w=>by kernel_rfl) rfl rfl g 0 n c h0
    (fun j hj=>by rw[A8,h.cell (by omega)];rfl) (fun j _=>h.frozen _)
   have e:(List.replicate n (Value.int .u64 0))=cellsOf .u64 (List.replicate n 0):=by simp[cellsOf]
   rw[e]at h1;have h2:=PF (List.replicate n 0) 0 W zs h (by rw[Az];omega);rw[Fd,Ao,Az,A8]at h2;exact⟨_,h1,h2,PG _ _ _⟩
theorem Ml(B:Nat):∀(D:List Nat) (j d:Nat),j<D.length→val B (D.set j d)+B^j*D[j]?.getD 0=val B D+B^j*d
 |[],_,_,h=>by cases h
 |x::D,0,d,_=>by simp[val];omega
 |x::D,j+1,d,h=>by
  have ih:=Ml B D j d (by simpa using h);simp only[List.set_cons_succ,val,Ag,A2];have e:B*val B (D.set j d)+B*(B^j*D[j]?.getD 0)=B*val B D+B*(B^j*d):=by rw[←AG,ih,AG]
  have e1:B^j*B*D[j]?.getD 0=B*(B^j*D[j]?.getD 0):=by rw[Av (B^j) B,AF]
  have e2:B^j*B*d=B*(B^j*d):=by rw[Av (B^j) B,AF]
  omega
theorem PI(B n:Nat):val B (List.replicate n 0)=0:=by
 induction n with
 |zero=>rfl
 |succ n ih=>rw[Ft,val,ih];simp
def Ep(us bs:List Nat)(i:Nat)(D:List Nat):Prop:=
 D.length=us.length+bs.length∧DO O D∧val O D=val O (us.take i)*val O bs
theorem Ep.start(us bs:List Nat):Ep us bs 0 (List.replicate (us.length+bs.length) 0):=
 ⟨Az,fun x hx=>by rw[CV hx];unfold O;omega,by rw[PI];simp[val]⟩
theorem PJ{B:Nat}(hB:0<B):∀ {D:List Nat},val B D=0→∀j:Nat,D[j]?.getD 0=0
 |[],_,j=>by simp
 |d::D,h,0=>by
  rw[Yc]at h;show d=0;omega
 |d::D,h,j+1=>by
  rw[Yc]at h;have h1:B*val B D=0:=by omega
  have h2:val B D=0:=by
   rcases Nat.mul_eq_zero.1 h1 with h|h
   · omega
   · exact h
  rw[Ag];exact PJ hB h2 j
theorem Mm{B k:Nat}{D:List Nat}(hk:k≤D.length)(h:val B D<B^k):val B (D.drop k)=0:=by
 have e:val B D=val B (D.take k)+B^k*val B (D.drop k):=by
  have h1:=val_append B (D.take k) (D.drop k);rw[Cl,Al,CJ hk]at h1;exact h1
 rcases Cb (val B (D.drop k))with h2|h2
 · exact h2
 · have:=Ar (B^k) h2;omega
theorem Ep.step{us bs D q:List Nat}{i wd over:Nat}(h:Ep us bs i D)(hu:DO O us)(hb:DO O bs)(hi:i<us.length)(hw:wd=us[i]?.getD 0)(hq:Xw D bs i wd bs.length over q):
 Ep us bs (i+1) ((DX D i bs.length q).set (i+bs.length) over):=by
 obtain⟨h1,h2,h3⟩:=h;obtain⟨q1,q2,q3,q4⟩:=hq;have Qb:val O D<O^(i+bs.length):=by
  rw[h3,CR];have e1:=YI (hu.take i);rw[Al,CJ (by omega)]at e1;have e2:=YI hb;rcases Cb (val O bs)with h0|h0
  · rw[h0,CK];exact DN (Fa (by unfold O;omega)) (Fa (by unfold O;omega))
  · exact Nat.mul_lt_mul'' e1 e2
 have hz:=Mm (by omega) Qb;have Qa:(DX D i bs.length q).length=D.length:=JV q1 (by omega);refine⟨by rw[Cz,Qa];exact h1,?_,?_⟩
 · intro x hx;rcases List.mem_or_eq_of_mem_set hx with hx|hx
   · rw[DX]at hx;rcases Fh.1 hx with hx|hx
     · exact(h2.take i) x hx
     · rcases Fh.1 hx with hx|hx
       · exact q2 x hx
       · exact(h2.drop _) x hx
   · rw[hx];exact q3
 · have e1:=Ml O (DX D i bs.length q) (i+bs.length) over (by rw[Qa];omega);have e2:(DX D i bs.length q)[i+bs.length]?.getD 0=0:=by
    rw[Gg q1 (by omega)];have:=PJ (by unfold O;omega) hz 0;rw[CQ,Ck]at this;exact this
   rw[e2,CK,Ck]at e1;rw[e1];have e3:val O (DX D i bs.length q)=val O (D.take i)+O^i*val O q:=by
    rw[DX,val_append,val_append,Al,CJ (by omega),hz];simp
   have e4:val O D=val O (D.take i)+O^i*val O ((D.drop i).take bs.length):=by
    have a1:=val_append O (D.take i) (D.drop i);rw[Cl,Al,CJ (by omega)]at a1;have a2:=val_append O ((D.drop i).take bs.length) ((D.drop i).drop bs.length);rw[Cl,FD,hz,CK,Ck]at a2;rw[a1,a2]
   rw[Ac (Aa _)]at q4;rw[e3,CR,AF,Fq,←AG,q4,AG,←Fq,←e4,h3,Jt,AD,hw,AF,Av (us[i]?.getD 0)]
theorem Ep.fin{us bs D:List Nat}{m n:Nat}(h:Ep us bs us.length D)(ha:us=Ji O m)(hb:bs=Ji O n):J5 D=Ji O (m*n):=by
 obtain⟨_,h2,h3⟩:=h;rw[Ac (Aa _)]at h3;rw[←Yz Jf h2,h3,ha,hb,Jw Jf,Jw Jf]
theorem Xw.tail{D tl bs q:List Nat}{i wd len over:Nat}(h:Xw (D++tl) bs i wd len over q)(hi:i+len≤D.length):Xw D bs i wd len over q:=by
 obtain⟨h1,h2,h3,h4⟩:=h;refine⟨h1,h2,h3,?_⟩;rw[List.drop_append_of_le_length (by omega),AU (by rw[AK];omega)]at h4;exact h4
theorem PK{D tl q:List Nat}{i len:Nat}(hi:i+len≤D.length):DX (D++tl) i len q=DX D i len q++tl:=by
 rw[DX,DX,AU (by omega),List.drop_append_of_le_length hi];simp
theorem UP(g rl rc:Nat)(zs:List Nat)(a:Option Addr)(la ca:Nat)(b:Option Addr)(lb cb m n:Nat)(w:World)
(hA:DQ w g zs)(hzs:DO O zs)(hz:la+lb≤zs.length)(hcap:la+lb≤rc)(hrc:rc≤9223372036854775807)(hlen:la+lb≤1099511627776)
(ra:Row .u64 w (.slice a la ca) (Ji O m))(rb:Row .u64 w (.slice b lb cb) (Ji O n))(hna:∀p,a=some p→0<la→p.block≠g)(hnb:∀p,b=some p→0<lb→p.block≠g):
 Calls Tryz.prog 168 #[.slice (some ⟨g,0,none⟩) rl rc,.slice a la ca,.slice b lb cb] w fun e w'=>∃u,e=.returned u∧(UN w' u (m*n)∧w.grownBy w' (some g))∧(u=.slice none 0 0∨∃l,u=.slice (some ⟨g,0,none⟩) l rc)∧∃zs',DQ w' g zs'∧DO O zs'∧zs'.length=zs.length:=by
 obtain⟨hl1,hc1,hm1,hk1,hf1⟩:=JB ra;have Qb:=(JB rb).1;have xa:=Jy Jf m;have xb:=Jy Jf n;have HF:=Ja (fun D (h:Ep (Ji O m) (Ji O n) (Ji O m).length D)=>h.fin (m:=m) (n:=n) rfl rfl);have HB:=Ja rb;generalize Ji O m=us at *;generalize Ji O n=vs at *;obtain⟨W1,hcl,hA1,hG1⟩:=PH 0 g (la+lb) rc zs w hA hz;have HS:=Ja (Ep.start us vs);rw[←hl1,←Qb]at HS;have Qi:DO O (zs.drop (la+lb)):=hzs.drop _;have Qn:(zs.drop (la+lb)).length=zs.length-(la+lb):=AK;obtain⟨Z,hZ⟩:∃Z,Z=zs.length:=⟨_,rfl⟩;rw[←hZ]at Qn hz ⊢;generalize zs.drop (la+lb)=tl at *;obtain⟨H1,Qe,Qf,Qh,Qa⟩:=GT hf1 hl1 Qb hna hnb;clear hf1 hl1 Qb ra rb hZ hA hna hnb;go_enter Tryz.func168,Tryz.ntmps168
 go_wp2;go_loopw [19] (fun iv wr=>∃(i:Nat) (D:List Nat),iv=.int .i64 i∧i≤la∧Hid (Ep us vs i D)∧DQ wr g (D++tl)∧w.grownBy wr (some g))
  (fun iv _=>la-(intOf iv).toNat)
 case atStart=>exact⟨0,_,rfl,AH _,HS.o,hA1,hG1⟩
 case round=>
  clear HS hA1 hG1 hcl;obtain⟨i,D,rfl,hi,HD,hA,hG⟩:=hrel;have Ql:=HD.o.1;rw[←Qe.o,←Qf.o]at Ql;by_cases hlt:i<la
  · obtain⟨ab,ao,rfl,hab,hca⟩:=H1.o i hlt;have hcx:wr.cell? ⟨ab,ao+i,none⟩=some (.int .u64 (us[i]?.getD 0:Nat)):=(BW (w:=w) (hG.block ab hab (fun e=>Qh.o _ rfl (by omega) (by cases e;rfl)))).trans hca;have hw:=xa.getD (by unfold O;omega) i;have Qk:=Ja (fun over q (h:Xw D vs i (us[i]?.getD 0) vs.length over q)=>HD.o.step xa xb (by rw[←Qe.o];exact hlt) rfl h);have Qo:Row .u64 wr (.slice b lb cb) vs:=Row.grown HB.o hG Qa.o;have Qd:DO O (D++tl):=HD.o.2.1.append Qi;rw[←Qf.o]at Qk;generalize us[i]?.getD 0=wd at *;clear hca;go_wp2_with(go_at_call 167;refine(Mf g i lb _ (D++tl) b cb vs wd _ hA Qd (by rw[Ay];omega) (by omega) Qo xb Qa.o hw).mono ?_;rintro e w5 ⟨over,q,rfl,hq,hA5,hg5⟩;have Qj:=JV hq.1 (xs:=D++tl) (ro:=i) (by rw[Ay];omega);have hc5:=hA5.cell (j:=i+lb) (by rw[Qj,Ay];omega);have hf5:=hA5.frozen (i+lb);have HQ:=Ja hq;clear hq Qj)
    have Qg:=hA5.set (i+lb) over;rw[PK (by omega),List.set_append_left _ _ (by rw[JV HQ.o.1 (by omega)];omega)]at Qg;exact⟨⟨i+1,(DX D i lb q).set (i+lb) over,by simp,by omega,Qk.o over q (HQ.o.tail (by omega)),Qg,Jl (Jl hG hg5) (JQ _ _ _ _)⟩,by simp[intOf];omega⟩
  · obtain rfl:i=la:=by omega
    have Qc:Row .u64 wr (.slice (some ⟨g,0,none⟩) (i+lb) rc) D:=by
     have h1:=hA.row 0 (i+lb) rc (by rw[Ay];omega) hcap hrc hlen;rwa[AQ,AU (by omega),Ac (by omega)]at h1
    have Qm:=Ja (HF.o D (by rw[←Qe.o];exact HD.o));have Qd:DO O (D++tl):=HD.o.2.1.append Qi;clear HD HF H1 HB Qh Qa;go_wp2_with(go_at_call 73;refine(MO _ _ _ D _ Qc).mono ?_;rintro e w5 ⟨u,rfl,⟨hu,hb5⟩,hform⟩;rw[Qm.o]at hu hform;obtain⟨ua,uc,rfl⟩:=UN.form hu)
    go_ret;refine⟨_,rfl,⟨hu,Jl hG (Yk hb5 _)⟩,?_,D++tl,hA.below hb5,Qd,by rw[Ay];omega⟩;rcases hform with⟨e,_⟩|e
    · exact Or.inl e
    · exact Or.inr ⟨_,e⟩
theorem Ep.fing{us bs D:List Nat}(h:Ep us bs us.length D):J5 D=Ji O (val O us*val O bs):=by
 obtain⟨_,h2,h3⟩:=h;rw[Ac (Aa _)]at h3;rw[←Yz Jf h2,h3]
theorem UQ(g rl rc:Nat)(zs:List Nat)(a:Option Addr)(la ca:Nat)(b:Option Addr)(lb cb:Nat)(us vs:List Nat)(w:World)(xa:DO O us)(xb:DO O vs)
(hA:DQ w g zs)(hzs:DO O zs)(hz:la+lb≤zs.length)(hcap:la+lb≤rc)(hrc:rc≤9223372036854775807)(hlen:la+lb≤1099511627776)
(ra:Row .u64 w (.slice a la ca) us)(rb:Row .u64 w (.slice b lb cb) vs)(hna:∀p,a=some p→0<la→p.block≠g)(hnb:∀p,b=some p→0<lb→p.block≠g):
 Calls Tryz.prog 168 #[.slice (some ⟨g,0,none⟩) rl rc,.slice a la ca,.slice b lb cb] w fun e w'=>∃u,e=.returned u∧(UN w' u (val O us*val O vs)∧w.grownBy w' (some g))∧(u=.slice none 0 0∨∃l,u=.slice (some ⟨g,0,none⟩) l rc)∧∃zs',DQ w' g zs'∧DO O zs'∧zs'.length=zs.length:=by
 obtain⟨hl1,hc1,hm1,hk1,hf1⟩:=JB ra;have Qb:=(JB rb).1;have HF:=Ja (fun D (h:Ep us vs us.length D)=>h.fing);have HB:=Ja rb;obtain⟨W1,hcl,hA1,hG1⟩:=PH 0 g (la+lb) rc zs w hA hz;have HS:=Ja (Ep.start us vs);rw[←hl1,←Qb]at HS;have Qi:DO O (zs.drop (la+lb)):=hzs.drop _;have Qn:(zs.drop (la+lb)).length=zs.length-(la+lb):=AK;obtain⟨Z,hZ⟩:∃Z,Z=zs.length:=⟨_,rfl⟩;rw[←hZ]at Qn hz ⊢;generalize zs.drop (la+lb)=tl at *;obtain⟨H1,Qe,Qf,Qh,Qa⟩:=GT hf1 hl1 Qb hna hnb;clear hf1 hl1 Qb ra rb hZ hA hna hnb;go_enter Tryz.func168,Tryz.ntmps168
 go_wp2;go_loopw [19] (fun iv wr=>∃(i:Nat) (D:List Nat),iv=.int .i64 i∧i≤la∧Hid (Ep us vs i D)∧DQ wr g (D++tl)∧w.grownBy wr (some g))
  (fun iv _=>la-(intOf iv).toNat)
 case atStart=>exact⟨0,_,rfl,AH _,HS.o,hA1,hG1⟩
 case round=>
  clear HS hA1 hG1 hcl;obtain⟨i,D,rfl,hi,HD,hA,hG⟩:=hrel;have Ql:=HD.o.1;rw[←Qe.o,←Qf.o]at Ql;by_cases hlt:i<la
  · obtain⟨ab,ao,rfl,hab,hca⟩:=H1.o i hlt;have hcx:wr.cell? ⟨ab,ao+i,none⟩=some (.int .u64 (us[i]?.getD 0:Nat)):=(BW (w:=w) (hG.block ab hab (fun e=>Qh.o _ rfl (by omega) (by cases e;rfl)))).trans hca;have hw:=xa.getD (by unfold O;omega) i;have Qk:=Ja (fun over q (h:Xw D vs i (us[i]?.getD 0) vs.length over q)=>HD.o.step xa xb (by rw[←Qe.o];exact hlt) rfl h);have Qo:Row .u64 wr (.slice b lb cb) vs:=Row.grown HB.o hG Qa.o;have Qd:DO O (D++tl):=HD.o.2.1.append Qi;rw[←Qf.o]at Qk;generalize us[i]?.getD 0=wd at *;clear hca;go_wp2_with(go_at_call 167;refine(Mf g i lb _ (D++tl) b cb vs wd _ hA Qd (by rw[Ay];omega) (by omega) Qo xb Qa.o hw).mono ?_;rintro e w5 ⟨over,q,rfl,hq,hA5,hg5⟩;have Qj:=JV hq.1 (xs:=D++tl) (ro:=i) (by rw[Ay];omega);have hc5:=hA5.cell (j:=i+lb) (by rw[Qj,Ay];omega);have hf5:=hA5.frozen (i+lb);have HQ:=Ja hq;clear hq Qj)
    have Qg:=hA5.set (i+lb) over;rw[PK (by omega),List.set_append_left _ _ (by rw[JV HQ.o.1 (by omega)];omega)]at Qg;exact⟨⟨i+1,(DX D i lb q).set (i+lb) over,by simp,by omega,Qk.o over q (HQ.o.tail (by omega)),Qg,Jl (Jl hG hg5) (JQ _ _ _ _)⟩,by simp[intOf];omega⟩
  · obtain rfl:i=la:=by omega
    have Qc:Row .u64 wr (.slice (some ⟨g,0,none⟩) (i+lb) rc) D:=by
     have h1:=hA.row 0 (i+lb) rc (by rw[Ay];omega) hcap hrc hlen;rwa[AQ,AU (by omega),Ac (by omega)]at h1
    have Qm:=Ja (HF.o D (by rw[←Qe.o];exact HD.o));have Qd:DO O (D++tl):=HD.o.2.1.append Qi;clear HD HF H1 HB Qh Qa;go_wp2_with(go_at_call 73;refine(MO _ _ _ D _ Qc).mono ?_;rintro e w5 ⟨u,rfl,⟨hu,hb5⟩,hform⟩;rw[Qm.o]at hu hform;obtain⟨ua,uc,rfl⟩:=UN.form hu)
    go_ret;refine⟨_,rfl,⟨hu,Jl hG (Yk hb5 _)⟩,?_,D++tl,hA.below hb5,Qd,by rw[Ay];omega⟩;rcases hform with⟨e,_⟩|e
    · exact Or.inl e
    · exact Or.inr ⟨_,e⟩
theorem Gj:O=2^64:=by unfold O;rfl
def GV(xs bs:List Nat)(ro wd i over c:Nat)(q:List Nat):Prop:=
 q.length=i∧DO O q∧over<O∧c≤1∧val O q+val O (bs.take i)*wd=val O ((xs.drop ro).take i)+O^i*(over+c)
theorem GV.start(xs bs:List Nat)(ro wd:Nat):GV xs bs ro wd 0 0 0 []:=⟨rfl,DO.nil _,by unfold O;omega,by omega,by simp[val]⟩
theorem GV.step{xs bs:List Nat}{ro wd i over c:Nat}{q:List Nat}(h:GV xs bs ro wd i over c q)(d over' c':Nat)(hd:d<O)(ho:over'<O)(hc:c'≤1)(he:d+bs[i]?.getD 0*wd+over+c=xs[ro+i]?.getD 0+O*(over'+c')):GV xs bs ro wd (i+1) over' c' (q++[d]):=by
 obtain⟨h1,h2,h3,h4,h5⟩:=h;refine⟨by simp;omega,h2.append (DO.cons hd (DO.nil _)),ho,hc,?_⟩;rw[XL,h1,Jt,Jt,CQ,AD,A2,AF,AF];have e2:O^i*d+O^i*(bs[i]?.getD 0*wd)+O^i*(over+c)=O^i*(xs[ro+i]?.getD 0)+O^i*(O*(over'+c')):=by
  rw[←AG,←AG,←Fq,he,AG]
 omega
theorem UR{x y r over c:Nat}(hx:x<O)(hy:y<O)(hr:r<O)(ho:over<O)(hc:c≤1):
 XC x y+YX (Yo x y) over 0<O∧F4 r (Yx (Yo x y) over 0) c<O∧FX r (Yx (Yo x y) over 0) c≤1∧Yx (Yo x y) over 0<O∧
 F4 r (Yx (Yo x y) over 0) c+x*y+over+c=r+O*(XC x y+YX (Yo x y) over 0+FX r (Yx (Yo x y) over 0) c):=by
 have hp:=O9 hx hy;unfold XC Yo YX Yx F4 FX;generalize x*y=p at *;unfold O at *;split<;>omega
theorem GV.last{xs bs:List Nat}{ro wd n over c d c':Nat}{q:List Nat}(h:GV xs bs ro wd n over c q)(hn:bs.length=n)(hd:d<O)(he:d+over+c=xs[ro+n]?.getD 0+O*c'):
 (q++[d]).length=n+1∧DO O (q++[d])∧val O (q++[d])+val O bs*wd=val O ((xs.drop ro).take (n+1))+O^(n+1)*c':=by
 obtain⟨h1,h2,h3,h4,h5⟩:=h;refine⟨by simp;omega,h2.append (DO.cons hd (DO.nil _)),?_⟩;rw[Ac (by omega)]at h5;rw[XL,h1,Jt,CQ,A2,AF];have e2:O^n*d+O^n*(over+c)=O^n*(xs[ro+n]?.getD 0)+O^n*(O*c'):=by
  rw[←AG,←Fq,he,AG]
 omega
def D8(x s:Nat):Nat:=x*2^s%O
def Dw(x s:Nat):Nat:=x/2^s
theorem KH{s:Nat}(hs:s≤64):2^s*2^(64-s)=O:=by rw[←CR,show s+(64-s)=64 from by omega];rfl
theorem KI{x s:Nat}(hs:s≤64):D8 x s=x%2^(64-s)*2^s:=by
 unfold D8;rw[←KH hs,Av (2^s),Nat.mul_mod_mul_right]
theorem US{x c s:Nat}(hs:s≤63)(hx:x<O)(hc:c<2^s):c ||| D8 x s=c+D8 x s∧c+D8 x s<O∧Dw x (64-s)<2^s∧c+D8 x s+O*Dw x (64-s)=c+x*2^s:=by
 rw[KI (by omega)];have hp:=KH (s:=s) (by omega);have hm:=Ce x (2^(64-s));have Qa:=Ci x (A6 (64-s));unfold Dw;have h1:c ||| x%2^(64-s)*2^s=c+x%2^(64-s)*2^s:=by
  rw[Nat.or_comm,Av,←C8 hc,Fv]
 refine⟨h1,?_,?_,?_⟩
 · have h2:(x%2^(64-s)+1)*2^s≤2^(64-s)*2^s:=Aj _ Qa;rw[AD,CC,Av (2^(64-s)),hp]at h2;omega
 · rw[AX (A6 _),hp];exact hx
 · rw[←hp];generalize x/2^(64-s)=a at *;generalize x%2^(64-s)=b at *;generalize 2^(64-s)=E at *;generalize 2^s=F at *;rw[←hm];grind
def Hq(us:List Nat)(s i:Nat)(q:List Nat)(c:Nat):Prop:=
 q.length=i∧DO O q∧c<2^s∧val O q+O^i*c=val O (us.take i)*2^s
theorem Hq.start(us:List Nat)(s:Nat):Hq us s 0 [] 0:=⟨rfl,DO.nil _,A6 s,by simp[val]⟩
theorem Hq.step{us q:List Nat}{s i c d c':Nat}(h:Hq us s i q c)(hd:d<O)(hc:c'<2^s)(he:d+O*c'=c+us[i]?.getD 0*2^s):Hq us s (i+1) (q++[d]) c':=by
 obtain⟨h1,h2,h3,h4⟩:=h;refine⟨by simp;omega,h2.append (DO.cons hd (DO.nil _)),hc,?_⟩;rw[XL,h1,Jt,AD,A2,AF,AF];have e2:O^i*d+O^i*(O*c')=O^i*c+O^i*(us[i]?.getD 0*2^s):=by
  rw[←AG,he,AG]
 omega
theorem UT{x s:Nat}{P:Nat}(hs:s≤63)(hx:x<O):
 D8 (P%2^s) (64-s) ||| Dw x s=D8 (P%2^s) (64-s)+Dw x s∧D8 (P%2^s) (64-s)+Dw x s<O∧D8 x (64-s)=D8 ((x+O*P)%2^s) (64-s)∧
 (x+O*P)/2^s=D8 (P%2^s) (64-s)+Dw x s+O*(P/2^s):=by
 have hp:=KH (s:=s) (by omega);rw[KI (by omega),KI (by omega),KI (by omega),show 64-(64-s)=s from by omega,Nat.mod_mod];have Qa:Dw x s<2^(64-s):=by
  unfold Dw;rw[AX (A6 _),Av,hp];exact hx
 have Qb:=Ci P (A6 s);have hm:=Ce P (2^s);refine⟨?_,?_,?_,?_⟩
 · rw[Av,←C8 Qa]
 · have h2:(P%2^s+1)*2^(64-s)≤2^s*2^(64-s):=Aj _ Qb;rw[AD,CC,hp]at h2;omega
 · congr 1;rw[←hp,AF,CL,Nat.mod_mod]
 · unfold Dw;have e:x+O*P=x+2^s*(P%2^s*2^(64-s)+O*(P/2^s)):=by
    rw[←hp];generalize P/2^s=a at *;generalize P%2^s=b at *;generalize 2^(64-s)=E at *;generalize 2^s=F at *;rw[←hm];grind
   rw[e,CX _ _ (A6 _)];omega
theorem UU(B:Nat)(ds:List Nat)(k:Nat)(h:k<ds.length):val B (ds.drop k)=ds[k]?.getD 0+B*val B (ds.drop (k+1)):=by
 rw[A9 h,Yc,Am h];rfl
def FY(R0 V n K k:Nat)(D Q:List Nat):Prop:=
 D.length=K+n∧DO O D∧Q.length=K∧DO O Q∧val O D<V*O^k∧R0=val O D+V*val O Q∧∀j,j<k→Q[j]?.getD 0=0
theorem FY.win{R0 V n K k:Nat}{D Q:List Nat}(h:FY R0 V n K (k+1) D Q)(hk:k<K)(hV:V<O^n):
 val O ((D.drop k).take (n+1))<V*O∧val O D=val O (D.take k)+O^k*val O ((D.drop k).take (n+1))∧val O (D.drop (k+(n+1)))=0:=by
 obtain⟨h1,h2,h3,h4,h5,h6,h7⟩:=h;have Qa:val O D<O^(k+(n+1)):=by
  have e:O^(k+(n+1))=O^n*O^(k+1):=by rw[←CR];congr 1;omega
  rw[e];exact AP h5 (Aj _ (by omega))
 have hz:=Mm (by omega) Qa;have a1:=val_append O (D.take k) (D.drop k);rw[Cl,Al,CJ (by omega)]at a1;have a2:=val_append O ((D.drop k).take (n+1)) ((D.drop k).drop (n+1));rw[Cl,FD,hz,CK,Ck]at a2;rw[a2]at a1;refine⟨?_,a1,hz⟩;rcases AV (val O ((D.drop k).take (n+1))) (V*O)with h|h
 · exact h
 · exfalso
   have:=Ar (O^k) h;have e:O^k*(V*O)=V*O^(k+1):=by rw[A2];grind
   omega
theorem FY.step{R0 V n K k:Nat}{D Q q:List Nat}(h:FY R0 V n K (k+1) D Q)(hk:k<K)(hV:V<O^n)(hql:q.length=n+1)(hq:DO O q)
(hr:val O q=val O ((D.drop k).take (n+1))%V)(hV0:0<V):
 FY R0 V n K k (DX D k (n+1) q) (Q.set k (val O ((D.drop k).take (n+1))/V)):=by
 obtain⟨w1,w2,w3⟩:=h.win hk hV;obtain⟨h1,h2,h3,h4,h5,h6,h7⟩:=h;generalize hW:val O ((D.drop k).take (n+1))=W at *;have hd:=Ce W V;have Qb:=Ci W hV0;have Qa:W/V<O:=by rw[AX hV0,Av];exact w1
 have e3:val O (DX D k (n+1) q)=val O (D.take k)+O^k*val O q:=by
  rw[DX,val_append,val_append,Al,CJ (by omega),w3];simp
 have e4:=Ml O Q k (W/V) (by omega);rw[h7 k (by omega),CK,Ck]at e4;have htk:val O (D.take k)<O^k:=by
  have:=YI (h2.take k);rwa[Al,CJ (by omega)]at this
 refine⟨by rw[JV hql (by omega)];exact h1,?_,by rw[Cz];exact h3,?_,?_,?_,?_⟩
 · intro x hx;rw[DX]at hx;rcases Fh.1 hx with hx|hx
   · exact(h2.take k) x hx
   · rcases Fh.1 hx with hx|hx
     · exact hq x hx
     · exact(h2.drop _) x hx
 · intro x hx;rcases List.mem_or_eq_of_mem_set hx with hx|hx
   · exact h4 x hx
   · rw[hx];exact Qa
 · rw[e3,hr];have:=Ar (O^k) (show W%V+1≤V from Qb);rw[AG,Fl,Av _ V]at this;omega
 · rw[e3,e4,hr,h6,w2,AG]
   have:O^k*W=O^k*(W%V)+V*(O^k*(W/V)):=by
    conv=>lhs;rw[←hd]
    grind
   omega
 · intro j hj;rw[AN (by omega)];exact h7 j (by omega)
theorem FY.start{R0 V n K:Nat}{D:List Nat}(h1:D.length=K+n)(h2:DO O D)(h3:val O D=R0)(h4:R0<V*O^K):FY R0 V n K K D (List.replicate K 0):=
 ⟨h1,h2,Az,fun x hx=>by rw[CV hx];unfold O;omega,by rw[h3];exact h4,by rw[PI,CK,h3,Ck],fun j _=>by
  by_cases hj:j<K
  · rw[List.getElem?_replicate_of_lt hj];rfl
  · rw[AO (by rw[Az];omega)];rfl⟩
theorem FY.fin{R0 V n K m b s:Nat}{D Q:List Nat}(h:FY R0 V n K 0 D Q)(hR:R0=m*2^s)(hV:V=b*2^s):J5 Q=Ji O (m/b)∧val O D=m%b*2^s:=by
 obtain⟨h1,h2,h3,h4,h5,h6,h7⟩:=h;rw[Nat.pow_zero,Fl]at h5;have e1:R0/V=val O Q:=by rw[h6,CX _ _ (by omega),Cg h5,A8]
 have e2:R0%V=val O D:=by rw[h6,CL,Cq h5]
 rw[hR,hV,Nat.mul_div_mul_right _ _ (A6 s)]at e1;rw[hR,hV,Nat.mul_mod_mul_right]at e2;exact⟨by rw[←Yz Jf h4,←e1],e2.symm⟩
theorem UV(br ro len cap:Nat)(xs:List Nat)(a:Option Addr)(cb:Nat)(bs:List Nat)(wd:Nat)(w:World)
(hA:DQ w br xs)(hx:DO O xs)(hro:ro+(len+1)≤xs.length)(hlc:len+1≤cap)(hb:Row .u64 w (.slice a len cb) bs)(hbs:DO O bs)(hne:∀p,a=some p→0<len→p.block≠br)(hw:wd<O):
 Calls Tryz.prog 221 #[.slice (some ⟨br,ro,none⟩) (len+1) cap,.slice a len cb,.int .u64 (wd:Nat)] w fun e w'=>
  ∃c q,e=.returned (.int .u64 (c:Nat))∧(c≤1∧q.length=len+1∧DO O q∧val O q+val O bs*wd=val O ((xs.drop ro).take (len+1))+O^(len+1)*c)∧DQ w' br (DX xs ro (len+1) q)∧w.grownBy w' (some br):=by
 obtain⟨hl,hlc2,hcm,hlm,hc⟩:=JB hb;obtain⟨HL,HC,HN⟩:=Dg hl hc hne;clear hc hl hne hb;go_enter Tryz.func221,Tryz.ntmps221
 go_wp2;go_loopw [7,8,16] (fun ov cv iv wr=>∃(i over c:Nat) (q:List Nat),iv=.int .i64 i∧ov=.int .u64 (over:Nat)∧cv=.int .u64 (c:Nat)∧i≤len∧over<O∧c≤1∧Hid (GV xs bs ro wd i over c q)∧DQ wr br (DX xs ro i q)∧w.grownBy wr (some br))
  (fun _ _ iv _=>len-(intOf iv).toNat)
 case atStart=>exact⟨0,0,0,[],rfl,rfl,rfl,AH _,by unfold O;omega,by omega,GV.start _ _ _ _,by rw[mid_zero];exact hA,Xc _ _⟩
 case round=>
  obtain⟨i,over,c,q,rfl,rfl,rfl,hi,ho,hcc,HP,hM,hg⟩:=hrel;by_cases hlt:i<len
  · obtain⟨b,off,rfl,hbb,hc⟩:=HC.o i hlt;have Qf:=HN.o _ rfl (by omega);have hq:=HP.o.1;have hcb:wr.cell? ⟨b,off+i,none⟩=some (.int .u64 (bs[i]?.getD 0:Nat)):=(BW (w:=w) (hg.block b hbb (fun e=>Qf (by cases e;rfl)))).trans hc;have Qd:wr.cell? ⟨br,ro+i,none⟩=some (.int .u64 (xs[ro+i]?.getD 0:Nat)):=by rw[←Gg hq (by omega)];exact hM.cell (by rw[JV hq (by omega)];omega)
    have Qe:=hM.frozen (ro+i);have Qc:=hbs.getD (by unfold O;omega) i;have Qb:=hx.getD (by unfold O;omega) (ro+i);obtain⟨s1,s2,s3,s4,s5⟩:=UR Qc hw Qb ho hcc;have HS:=Ja (HP.o.step _ _ _ s2 s1 s3 s5);have Qa:=Ja (show ∀d,(DX xs ro i q).set (ro+i) d=DX xs ro (i+1) (q++[d])from fun d=>Hm hq (by omega) d);clear hc hq s5;generalize bs[i]?.getD 0=x at *;generalize xs[ro+i]?.getD 0=r at *;have a1:=Kt (Yo x wd) over;have a2:=Ku r (Yx (Yo x wd) over 0) c hcc;unfold O at s1;go_wp2_with(first
     |(go_at_call 197;refine(Gh _ _ Qc hw _).mono ?_;rintro e w' ⟨rfl,rfl⟩))
    exact⟨⟨i+1,XC x wd+YX (Yo x wd) over 0,FX r (Yx (Yo x wd) over 0) c,q++[F4 r (Yx (Yo x wd) over 0) c],by simp,by simp,rfl,by omega,HS.o.2.2.1,HS.o.2.2.2.1,HS,by rw[←Qa.o];exact hM.set _ _,Jl hg (JQ _ _ _ _)⟩,by simp[intOf];omega⟩
  · obtain rfl:i=len:=by omega
    have hq:=HP.o.1;have Qd:wr.cell? ⟨br,ro+i,none⟩=some (.int .u64 (xs[ro+i]?.getD 0:Nat)):=by rw[←Gg hq (by omega)];exact hM.cell (by rw[JV hq (by omega)];omega)
    have Qe:=hM.frozen (ro+i);have Qb:=hx.getD (by unfold O;omega) (ro+i);obtain⟨s1,s2,s3⟩:=Ma Qb ho hcc;have HS:=Ja (HP.o.last HL.o.symm s1 s3);have Qa:=Ja (show ∀d,(DX xs ro i q).set (ro+i) d=DX xs ro (i+1) (q++[d])from fun d=>Hm hq (by omega) d);clear hq s3;generalize xs[ro+i]?.getD 0=r at *;have a2:=Ku r over c hcc;go_wp2;go_ret;exact⟨FX r over c,_,rfl,⟨s2,HS.o⟩,by rw[←Qa.o];exact hM.set _ _,Jl hg (JQ _ _ _ _)⟩
