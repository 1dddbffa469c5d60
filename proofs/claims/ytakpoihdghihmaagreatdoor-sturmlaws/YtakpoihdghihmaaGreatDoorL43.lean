import Derived.Test.YtakpoihdghihmaaGreatDoorL42
set_option maxRecDepth 100000
set_option maxHeartbeats 16000000
namespace Go.Proofs.YtakpoihdghihmaaGreatDoor
section
open Go.RowKit Go.Shelf
attribute [local go_sem] Oper.semAt_some
structure DivS(A la:Nat)(S:Nat→List Rat→List Rat→Prop)(qs:List Rat):Prop where
 next:∀(k:Nat) (R Q:List Rat) (n:Nat) (a:Rat),S k R Q→(∀i,i+qs.length≤R.length→cf Q i=0)→qs.length≤R.length→n=R.length-qs.length→a=cf R (R.length-1)/cf qs (qs.length-1)→
  (∀i,cf (Ym R (Jn (Jc (FL n [a])) qs)) i=cf R i-(if n≤i then a*cf qs (i-n)else 0))→(∀i,cf (Y8 Q (Jc (FL n [a]))) i=if i=n then a else cf Q i)→S (k+1) (Ym R (Jn (Jc (FL n [a])) qs)) (Y8 Q (Jc (FL n [a])))
 size:∀(k:Nat) (R Q:List Rat),k≤la→S k R Q→Sqs R∧Sqs Q∧∃z,z+(2*A+1)≤1000000000∧∀i,DV z (cf R i)
end
section
open Go.RowKit Go.Shelf
section
variable {D E l:Int} {K A:Nat} {ps qs:List Rat}
structure Dvn(D E l:Int)(K A:Nat)(ps qs:List Rat):Prop where
 hD:D≠0
 sD:Sm K D
 hp:Dz D K ps
 hE:E≠0
 sE:Sm A E
 hq:Dz E A qs
 hl:l≠0
 sl:Sm A l
 lead:cf qs (qs.length-1)=Rat.divInt l E
theorem Dvn.lne(h:Dvn D E l K A ps qs):cf qs (qs.length-1)≠0:=by
 rw[h.lead];intro e;have hE:(E:Rat)≠0:=by exact_mod_cast h.hE
 have h1:(l:Rat)/(E:Rat)*(E:Rat)=l:=Aq hE;rw[←CO,e,Cy]at h1;exact h.hl (by exact_mod_cast h1.symm)
theorem Dvn.den(h:Dvn D E l K A ps qs)(k:Nat):D*l^k≠0∧Sm (K+k*(A+1)+1) (D*l^k):=by
 refine⟨A7 h.hD (Fj h.hl),(h.sD.mul (h.sl.powZ k)).mono ?_⟩;rw[AG];omega
theorem Dvn.at{m:Nat}(h:Dvn D E l K A ps qs)(k:Nat):(∀i,DV (K+k*(A+1)+1) (cf (Jz ps qs (qs.length-1) m k).2 i))∧∀i,DV (K+k*(A+1)+1) (cf (Jz ps qs (qs.length-1) m k).1 i):=by
 have h1:=QW (m:=m) h.hD h.hp h.hE h.sE h.hq h.hl h.sl h.lead h.lne k;have h2:=h.den k;exact⟨fun i=>((h1.1 i).mono (by omega)).smq h2.1 h2.2,fun i=>((h1.2 i).mono (by omega)).smq h2.1 h2.2⟩
theorem Dvn.sizes{m:Nat}(h:Dvn D E l K A ps qs)(hb:2*(K+m*(A+1)+1)+2*(2*A+1)≤1000000000):∀k,k≤m→∃z,z+(2*A+1)≤1000000000∧(k<m→2*z+2*(2*A+1)≤1000000000)∧(∀i,DV z (cf (Jz ps qs (qs.length-1) m k).2 i))∧∀i,DV (z+A) (cf (Jz ps qs (qs.length-1) m k).1 i):=by
 intro k hk;have h1:k*(A+1)≤m*(A+1):=Aj _ hk;exact⟨K+k*(A+1)+1,by omega,fun _=>by omega,(h.at k).1,fun i=>((h.at k).2 i).mono (by omega)⟩
theorem Dvn.rem(h:Dvn D E l K A ps qs){m:Nat}(hm:ps.length-(qs.length-1)=m):Dz (D*l^m) (K+m*(A+1)) (JE ps qs)∧Dz (D*l^m) (K+m*(A+1)) (Jv ps qs):=by
 have h1:=QW (m:=m) h.hD h.hp h.hE h.sE h.hq h.hl h.sl h.lead h.lne m;refine⟨fun i=>?_,fun i=>?_⟩
 · unfold JE;rw[J0,hm];exact h1.1 i
 · unfold Jv;rw[J0,hm];exact h1.2 i
end
def EN(A:Nat)(p:List Rat):Prop:=∀i,∃z:Int,Sm A z∧cf p i=(z:Rat)
theorem EN.cdl{A:Nat}{p:List Rat}(h:EN A p):Dz 1 A p:=fun i=>by
 obtain⟨z,h1,h2⟩:=h i;exact Ng (by decide) h1 (by rw[h2];grind)
theorem EN.mono{A B:Nat}{p:List Rat}(h:EN A p)(hb:A≤B):EN B p:=fun i=>by
 obtain⟨z,h1,h2⟩:=h i;exact⟨z,h1.mono hb,h2⟩
theorem EN.ln{A:Nat}{p:List Rat}(h:EN A p):Ln A p:=h.cdl.ln (by decide)
theorem EN.smq{A:Nat}{p:List Rat}(h:EN A p)(hA:1≤A)(i:Nat):DV A (cf p i):=(h.cdl i).smq (by decide) (Sm.one A hA)
end
theorem bV(c:Rat):Yl c=c∨Yl c=-c:=by
 unfold Yl;split
 · exact Or.inr rfl
 · exact Or.inl rfl
theorem bW{c:Rat}(h:c≠0):Yl c≠0:=by
 rcases bV c with e|e
 · rw[e];exact h
 · rw[e];intro e2;exact h (by rw[←Rat.neg_neg c,e2];rfl)
theorem bX{c:Rat}(h:c≠0):∀n:Nat,c^n≠0:=by
 intro n;induction n with
 |zero=>rw[Rat.pow_zero];decide
 |succ n ih=>rw[Rat.pow_succ];exact Gu ih h
def EH(p q:List Rat):Rat:=Yl (cf q (q.length-1))^(p.length+1-q.length)
def YJ(p q:List Rat):List Rat:=DU (EH p q) p
def YN(p q:List Rat):List Rat:=Ym [] (JL (JE (YJ p q) q))
theorem bY:JL []=[]:=rfl
theorem Yq(p:List Rat):Jc (JL p)=JL p:=JP _ _
theorem IC{p:List Rat}(hp:Jc p=p):∃c:Rat,0<c∧JL p=DU c p:=by
 by_cases h0:p=[]
 · subst h0;exact⟨1,by decide,rfl⟩
 · exact⟨_,bU hp h0,rfl⟩
theorem KZ{p:List Rat}(hp:Jc p=p){K:Nat}(h:Ln K p):EN K (JL p):=by
 by_cases h0:p=[]
 · subst h0;exact fun i=>⟨0,Sm.zero K,by rw[bY,YD];rfl⟩
 · exact RG hp h0 h
theorem Nh{p q:List Rat}(hq:Jc q=q)(h0:q≠[]):EH p q≠0:=bX (bW (Jq hq h0)) _
theorem Gv(p q:List Rat):Jc (YN p q)=YN p q:=XA _ _
theorem Ni{p q:List Rat}(hq:Jc q=q)(h0:q≠[]):∃c:Rat,c≠0∧YN p q=DU c (JE p q)∧YN p q=DU (-1) (JL (JE (YJ p q) q)):=by
 have e1:YN p q=DU (-1) (JL (JE (YJ p q) q)):=XH (Gv _ _) (JP _ _) fun x=>by
  unfold YN;rw[Y3,JH];simp[ev];grind
 have h1:=(LY (c:=EH p q) (d:=1) (by decide) p q hq h0).2;rw[IB hq]at h1;obtain⟨c,hc,e2⟩:=IC (Xh (YJ p q) q);have Qa:c≠0:=fun e=>by rw[e]at hc;exact absurd hc (by decide)
 refine⟨EH p q*c*-1,Gu (Gu (Nh hq h0) Qa) (by decide),?_,e1⟩;rw[e1,e2];unfold YJ;rw[h1,KU,KU,Rat.mul_assoc]
theorem RH{p q:List Rat}(hq:Jc q=q)(h0:q≠[]){A:Nat}(h:Ln A (JE p q)):EN A (JL (JE (YJ p q) q))∧EN A (YN p q):=by
 have h1:=(LY (c:=EH p q) (d:=1) (by decide) p q hq h0).2;rw[IB hq]at h1;have h2:EN A (JL (JE (YJ p q) q)):=KZ (Xh _ _) (by unfold YJ;rw[h1];exact h.sc (Nh hq h0));refine⟨h2,fun i=>?_⟩;obtain⟨z,h3,h4⟩:=h2 i;obtain⟨_,_,_,e⟩:=Ni (p:=p) hq h0;exact⟨-z,h3.neg,by rw[e,XP,h4,Rat.intCast_neg];grind⟩
structure Chn(p q:List Rat)(A:Nat)(a b:List Rat):Prop where
 ta:Jc a=a
 tb:Jc b=b
 wa:EN A a
 wb:EN A b
 gc:JK a b=JK p q
 la:a.length≤max p.length q.length
 lb:b.length≤q.length
 nx:b≠[]→Ln A (JE a b)
 eu:Eu (JL p) (JL q) a b
def Df(K:Nat)(p q:List Rat):Nat:=(K+1)*(p.length+q.length+1)
theorem Nj(K:Nat)(p q:List Rat):K+1≤Df K p q:=by
 unfold Df
 have:(K+1)*1≤(K+1)*(p.length+q.length+1):=Ar _ (by omega)
 omega
theorem bZ(K:Nat)(p q:List Rat):(K+1)*(p.length+q.length)≤Df K p q:=Ar _ (by omega)
theorem J2{p:List Rat}(hp:Jc p=p):(JL p).length=p.length:=by
 obtain⟨c,hc,e⟩:=IC hp;rw[e];exact Yg (fun e2=>by rw[e2]at hc;exact absurd hc (by decide)) hp
theorem RI{p q:List Rat}(hp:Jc p=p)(hq:Jc q=q):JK (JL p) (JL q)=JK p q:=by
 obtain⟨c,hc,e⟩:=IC hp;obtain⟨d,hd,e2⟩:=IC hq;rw[e,e2];exact Q9 (fun e3=>by rw[e3]at hc;exact absurd hc (by decide)) (fun e3=>by rw[e3]at hd;exact absurd hd (by decide)) hp hq
section
variable {K:Nat} {p q a b:List Rat}
theorem Chn.ln_rem(hp:Jc p=p)(hq:Jc q=q)(h1:Ln K p)(h2:Ln K q)(hl:p.length+q.length≤1000000000)(h:Eu (JL p) (JL q) a b)(hb:b≠[]):Ln (Df K p q) (JE a b):=by
 have h3:=bJ (Yq p) (Yq q) (KZ hp h1).ln (KZ hq h2).ln (by rw[J2 hp,J2 hq];exact hl) h hb;rw[J2 hp,J2 hq]at h3;exact h3.mono (bZ _ _ _)
theorem Chn.start(hp:Jc p=p)(hq:Jc q=q)(h1:Ln K p)(h2:Ln K q)(hl:p.length+q.length≤1000000000):Chn p q (Df K p q) (JL p) (JL q) where
 ta:=Yq p
 tb:=Yq q
 wa:=(KZ hp h1).mono (by have:=Nj K p q;omega)
 wb:=(KZ hq h2).mono (by have:=Nj K p q;omega)
 gc:=RI hp hq
 la:=by rw[J2 hp];exact Nat.le_max_left _ _
 lb:=by rw[J2 hq];exact Aa _
 nx:=Chn.ln_rem hp hq h1 h2 hl (.base _ _)
 eu:=.base _ _
theorem Chn.next(hp:Jc p=p)(hq:Jc q=q)(h1:Ln K p)(h2:Ln K q)(hl:p.length+q.length≤1000000000)(h:Chn p q (Df K p q) a b)(hb:b≠[]):Chn p q (Df K p q) b (YN a b):=by
 obtain⟨c,hc,e,_⟩:=Ni (p:=a) h.tb hb;have Qa:Eu (JL p) (JL q) b (YN a b):=by rw[e];exact h.eu.tail hb hc
 have hlen:(YN a b).length<b.length:=by
  rw[e,Yg hc (Xh _ _)];exact(YL a b h.tb hb).2.1
 have hlb:=h.lb;exact⟨h.tb,Gv _ _,h.wb,(RH h.tb hb (h.nx hb)).2,by rw[←Qa.gcd (Yq p) (Yq q)];exact RI hp hq,by omega,by omega,Chn.ln_rem hp hq h1 h2 hl Qa,Qa⟩
end
theorem Xi{a b:List Rat}(hb:Jc b=b)(h0:b≠[]):(YN a b).length<b.length:=by
 obtain⟨c,hc,e,_⟩:=Ni (p:=a) hb h0;rw[e,Yg hc (Xh _ _)];exact(YL a b hb h0).2.1
structure Rhn(p q:List Rat)(A:Nat)(a b:List Rat):Prop where
 ta:Jc a=a
 tb:Jc b=b
 ca:∃D:Int,D≠0∧Sm A D∧Dz D A a
 cb:∃E:Int,E≠0∧Sm A E∧Dz E A b
 mb:b≠[]→cf b (b.length-1)=1
 ma:JS a=a
 gc:JK a b=JK p q
 la:a.length≤max p.length q.length
 lb:b.length≤q.length
 nx:b≠[]→Ln A (JE a b)
 eu:Eu (JS p) (JS q) a b
section
variable {K:Nat} {p q a b:List Rat}
end
section
open Go.RowKit Go.Shelf
theorem Lc(q:Rat):D5 q 0<0↔q<0:=by
 rw[Rat.lt_iff];unfold D5 XR;split<;>(try split)<;>omega
theorem ba(a b:Nat):(a:Int)*((b:Int)/((Int.gcd a b:Nat):Int))=((Nat.lcm a b:Nat):Int):=by
 show(a:Int)*((b:Int)/((Nat.gcd a b:Nat):Int))=_;rw[←Fc,←Int.natCast_mul];congr 1;rw[Nat.lcm,Nat.mul_div_assoc _ (CZ a b)]
theorem Iq(ps:List Rat)(i:Nat):(if((i:Nat):Int)<0 then(0:Rat)else cf ps ((i:Nat):Int).toNat)=cf ps i:=by
 rw[BE (by omega),Cs]
theorem RJ(A:Nat)(va vb:Value)(ps qs:List Rat)(w:World)(ha:Je w va ps)(hb:Je w vb qs)(hs:Sqs ps)(hq:∀i,DV A (cf qs i))(htp:Jc ps=ps)(htq:Jc qs=qs)(h0:qs≠[])
(hL:∀k,k≤ps.length-(qs.length-1)→∃z,z+(2*A+1)≤1000000000∧(k<ps.length-(qs.length-1)→2*z+2*(2*A+1)≤1000000000)∧(∀i,DV z (cf (Jz ps qs (qs.length-1) (ps.length-(qs.length-1)) k).2 i))∧∀i,DV (z+A) (cf (Jz ps qs (qs.length-1) (ps.length-(qs.length-1)) k).1 i)):
 Calls Tryz.prog 139 #[va,vb] w fun e w'=>∃u v,e=.returned (.tuple #[u,v,.bool true])∧Je w' u (Jv ps qs)∧Je w' v (JE ps qs)∧Bl w w':=by
 have h:=M3.am A va vb ps qs w ha hb hs hq htp htq (fun _=>hL);rw[BL h0,BE h0,BE h0]at h;exact h
end
namespace M3
open Go.RowKit Go.Shelf
theorem bc(n:Nat)(h:n≤2199023255552)(w:World):(Instr.makeSlice 22 (.int .i64 (n:Int)) (.int .i64 (n:Int))).run Tryz.prog w=.ok (.slice (some ⟨w.heap.size,0,none⟩) n n) (w.alloc (.cells (Ya n) 37)):=by
 obtain⟨i,hi,hzz⟩:=Fw.1 Tryz.infoRat;simp only[Prod.mk.injEq]at hzz;obtain⟨hz,hs,hb⟩:=hzz;have hr:=run_make (P:=Tryz.prog) w 22 37 i _ Tryz.underlying22 hi hz .i64 .i64 n n (by omega) (Int.le_refl _) (by rw[hb];omega) (by omega);simp only[Cs,hs]at hr;exact hr
theorem Ld(V:World):Has V (.agg #[.slice Option.none 0 0]) (.poly []):=⟨_,rfl,row_zero V Option.none⟩
theorem RK(V:World):Je V (.agg #[.slice Option.none 0 0]) []:=⟨_,rfl,row_zero V Option.none⟩
theorem Mem.poly2{w V:World}{bs:List (Option (Nat × Dat))}(M:Mem w V bs){i B:Nat}{ps:List Rat}(h:bs[i]?=some (some (B,.poly ps))):∃a l c,Boxed V B 25 (.slice a l c)∧Je V (.agg #[.slice a l c]) ps:=by
 obtain⟨a,l,c,h1,h2⟩:=M.poly h;exact⟨a,l,c,h1,_,rfl,h2⟩
theorem Le{W:World}{B:Nat}{a:Option Addr}{l c:Nat}(b:Boxed W B 25 (.slice a l c)){x v:Value}{qs:List Rat}(h:Je W v qs):Je (W.setCell ⟨B,0,Option.none⟩ x) v qs:=by
 obtain⟨u,e,h⟩:=h;exact⟨u,e,EX b x h⟩
theorem Has.set1{V:World}{v:Value}{d:Dat}(h:Has V v d){B:Nat}{a:Option Addr}{l c:Nat}(q:Boxed V B 25 (.slice a l c))(n0:JC (.slice a l c)=true)(x':Value):Has (V.setCell ⟨B,0,Option.none⟩ x') v d:=
 h.keep (Mx q n0 x') (Or.inr fun _ _ g=>EX q x' g)
theorem Tup2.set1{V:World}{v:Value}{d1 d2:Dat}(h:Tup2 V v d1 d2){B:Nat}{a:Option Addr}{l c:Nat}(q:Boxed V B 25 (.slice a l c))(n0:JC (.slice a l c)=true)(x':Value):Tup2 (V.setCell ⟨B,0,Option.none⟩ x') v d1 d2:=by
 obtain⟨u1,u2,e,h1,h2⟩:=h;exact⟨u1,u2,e,h1.set1 q n0 x',h2.set1 q n0 x'⟩
attribute [local go_sem] Oper.semAt_some
theorem bf(va:Value)(q:Rat)(w:World)(ha:Jg w va q)(hsq:Sq q):
 Calls Tryz.prog 206 #[va] w fun e w'=>∃u,e=.returned u∧Jg w' u (Yl q)∧Bl w w':=by
 obtain⟨s900,a900,l900,c900,t900,b900,k900,d900,rfl⟩:=Jg.form ha;have M0:=(((Mem.nil w).push (.rat (q)) ha).push (.rat 0) (Xn _));simp only[BA]at M0;have M0:Mem w ((w.alloc (.cells #[.bool s900,.slice a900 l900 c900,.bool t900,.slice b900 k900 d900] 37)).alloc (.cells #[.bool false,.slice none 0 0,.bool false,.slice none 0 0] 37)) [some (w.heap.size,.rat (q)),some (w.heap.size+1,.rat (0))]:=M0;obtain⟨W0,hW0⟩:=ex ((w.alloc (.cells #[.bool s900,.slice a900 l900 c900,.bool t900,.slice b900 k900 d900] 37)).alloc (.cells #[.bool false,.slice none 0 0,.bool false,.slice none 0 0] 37));have Qq:=Ja hW0;rw[hW0]at M0;have M1:Hid (Mem w W0 [some (w.heap.size,.rat (q)),some (w.heap.size+1,.rat (0))]):=Ja M0;have Qm:=Ja hsq;clear M0 hW0 ha hsq;go_enter Tryz.func206,Tryz.ntmps206
 go_upto_region 1 with fail
 rw[Qq.o];clear Qq;obtain⟨s1,a1,l1,c1,t1,b1,k1,d1,n1,r1,i1,j1⟩:=M1.o.rat (i:=0) rfl;obtain⟨Ql,Qe,Qh,Qk⟩:=n1.cq;obtain⟨s2,a2,l2,c2,t2,b2,k2,d2,n2,r2,i2,j2⟩:=M1.o.rat (i:=1) rfl;obtain⟨Qa,Qb,Qd,Qc⟩:=n2.cq;obtain⟨Qg,Qf,Qj,Qi⟩:=n2.fq;obtain⟨H1,H2,HR⟩:=Dg (Gk _ _ q 0 W0 r1 (Xn _) Qm.o Ec) (fun(V:World) (h:Bl W0 V)=>Hv _ _ 0 q V (Xn _) (r1.below h) Ec Qm.o) r1;obtain⟨n,hn⟩:=ex (D5 q 0);rw[hn]at H1;have HN:=Ja hn;clear hn r1 i1 j1;by_cases hlt:n<0
 · have HA:=Ja (show 0-q=Yl q by
    have h1:=(Lc q).1 (by rw[HN.o];exact hlt);unfold Yl;rw[BH h1];grind)
   rw[HA.o]at H2;go_wp2_with(first
    |(go_at_call 27;refine H1.o.mono ?_;clear H1;rintro e w1 ⟨rfl,hq⟩;clear Ql Qe Qh Qk;obtain⟨Ql,Qe,Qh,Qk⟩:=(n1.below hq).cq;clear Qa Qb Qd Qc;obtain⟨Qa,Qb,Qd,Qc⟩:=(n2.below hq).cq;clear Qg Qf Qj Qi;obtain⟨Qg,Qf,Qj,Qi⟩:=(n2.below hq).fq)
    |(go_at_call 26;refine(H2.o _ hq).mono ?_;clear H2;rintro e w2 ⟨u2,rfl,Qn,hb2⟩;obtain⟨s91,a91,l91,c91,t91,b91,k91,d91,rfl⟩:=Jg.form Qn;have hq:=Bt hq hb2;clear Ql Qe Qh Qk;obtain⟨Ql,Qe,Qh,Qk⟩:=(n1.below hq).cq;clear Qa Qb Qd Qc;obtain⟨Qa,Qb,Qd,Qc⟩:=(n2.below hq).cq;clear Qg Qf Qj Qi;obtain⟨Qg,Qf,Qj,Qi⟩:=(n2.below hq).fq))
   have Qp:=Bt M1.o.2.2 hq;have Qo:=M1.o.ge 1 rfl;exact BB (v:=.agg #[.bool s91,.slice a91 l91 c91,.bool t91,.slice b91 k91 d91]) (by simp[results,Tryz.results206,go_sem,Qa,Qb,Qd,Qc]) rfl ⟨_,rfl,Qn.put4 (n2.below hq) rfl rfl rfl rfl _ _ _ _,Jr Qp Qo _ _ _ _⟩
 · have HA:=Ja (show Yl q=q by
    have h1:¬q<0:=fun h=>hlt (by rw[←HN.o];exact(Lc q).2 h);unfold Yl;rw[BE h1])
   go_wp2_with(go_at_call 27;refine H1.o.mono ?_;clear H1;rintro e w1 ⟨rfl,hq⟩;clear Ql Qe Qh Qk;obtain⟨Ql,Qe,Qh,Qk⟩:=(n1.below hq).cq;clear Qa Qb Qd Qc;obtain⟨Qa,Qb,Qd,Qc⟩:=(n2.below hq).cq;clear Qg Qf Qj Qi;obtain⟨Qg,Qf,Qj,Qi⟩:=(n2.below hq).fq)
   have Qn:=HR.o.below hq;rw[←HA.o]at Qn;have Qp:=Bt M1.o.2.2 hq;have Qo:=M1.o.ge 1 rfl;exact BB (v:=.agg #[.bool s1,.slice a1 l1 c1,.bool t1,.slice b1 k1 d1]) (by simp[results,Tryz.results206,go_sem,Qa,Qb,Qd,Qc]) rfl ⟨_,rfl,Qn.put4 (n2.below hq) rfl rfl rfl rfl _ _ _ _,Jr Qp Qo _ _ _ _⟩
theorem bg(va vb:Value)(x y:Nat)(w:World)(ha:Jk w va (x:Int))(hb:Jk w vb (y:Int))(hx:0<x)(hsx:Sok (x:Int))(hsy:Sok (y:Int)):
 Calls Tryz.prog 180 #[va,vb] w fun e w'=>∃u,e=.returned u∧Jk w' u ((Nat.lcm x y:Nat):Int)∧Bl w w':=by
 have Qj:Tryz.prog.follows .mixedOrders=true:=by kernel_rfl
 have HG:=Ja (show((Int.gcd x y:Nat):Int)≠0 by have:=Nat.gcd_pos_of_pos_left y hx;exact Int.natCast_ne_zero.2 (by show Nat.gcd x y≠0;omega));obtain⟨s900,a900,l900,c900,rfl⟩:=Jk.form2 ha;obtain⟨s901,a901,l901,c901,rfl⟩:=Jk.form2 hb;have M0:=((((Mem.nil w).push (.int ((x:Int))) ha).push (.int ((y:Int))) (Has.alloc (d:=.int ((y:Int))) hb _)).push (.int 0) (X2 _));simp only[BA]at M0;have M0:Mem w (((w.alloc (.cells #[.bool s900,.slice a900 l900 c900] 35)).alloc (.cells #[.bool s901,.slice a901 l901 c901] 35)).alloc (.cells #[.bool false,.slice none 0 0] 35)) [some (w.heap.size,.int ((x:Int))),some (w.heap.size+1,.int ((y:Int))),some (w.heap.size+1+1,.int (0))]:=M0;obtain⟨W0,hW0⟩:=ex (((w.alloc (.cells #[.bool s900,.slice a900 l900 c900] 35)).alloc (.cells #[.bool s901,.slice a901 l901 c901] 35)).alloc (.cells #[.bool false,.slice none 0 0] 35));have Qg:=Ja hW0;rw[hW0]at M0;have M1:Hid (Mem w W0 [some (w.heap.size,.int ((x:Int))),some (w.heap.size+1,.int ((y:Int))),some (w.heap.size+1+1,.int (0))]):=Ja M0;have Qc:=Ja hsx;have Qa:=Ja hsy;clear M0 hW0 ha hb hsx hsy;go_enter Tryz.func180,Tryz.ntmps180
 go_upto_region 1 with fail
 rw[Qg.o];clear Qg;clear hx;refine Jm Qj [[],[],[],[1,2],[0,3,3],[4],[5],[5],[5],[],[],[9,6,4,0,1,2,3,4,5,6,9,10],[10,7,11,0,1,2,3,4,5,6,7,9,10,11],[8,12,0,1,2,3,4,5,6,7,8,9,10,11,12]] (by kernel_rfl) (by decide)
  (fun D act V=>∃(tn ta tb tc td tm te tg ti tj tk tl:Value) (x9 x10:Option (Nat × Dat)),act={ tmps:=#[.agg #[.bool s900,.slice a900 l900 c900],.agg #[.bool s901,.slice a901 l901 c901],.pointer (some ⟨w.heap.size,0,none⟩),.pointer (some ⟨w.heap.size+1,0,none⟩),.pointer (some ⟨w.heap.size+1+1,0,none⟩),tj,tk,tl,tm,tn,ta,tb,tc,td,te,tg,ti,undef,undef,undef],defers:=[] }∧Hid ((D 0=true→Has V tn (.int ((y:Int))))∧(D 1=true→Has V ta (.int ((x:Int))))∧(D 2=true→Has V tb (.int ((y:Int))))∧(D 3=true→Has V tc (.int (((Int.gcd x y:Nat):Int))))∧(D 4=true→Tup2 V td (.int ((y:Int)/((Int.gcd x y:Nat):Int))) (.int ((y:Int)%((Int.gcd x y:Nat):Int))))∧(D 5=true→Tup2 V tm (.int ((y:Int)/((Int.gcd x y:Nat):Int))) (.int ((y:Int)%((Int.gcd x y:Nat):Int))))∧(D 6=true→Has V te (.int ((y:Int)/((Int.gcd x y:Nat):Int))))∧(D 7=true→Has V tg (.int ((y:Int)%((Int.gcd x y:Nat):Int))))∧(D 8=true→ti=.bool true)∧((D 9=false→x9=none)∧(D 9=true→D 11=false→∃B:Nat,tj=.pointer (some ⟨B,0,none⟩)∧x9=some (B,.int 0))∧(D 11=true→∃B:Nat,tj=.pointer (some ⟨B,0,none⟩)∧x9=some (B,.int ((y:Int)/((Int.gcd x y:Nat):Int)))))∧((D 10=false→x10=none)∧(D 10=true→D 12=false→∃B:Nat,tk=.pointer (some ⟨B,0,none⟩)∧x10=some (B,.int 0))∧(D 12=true→∃B:Nat,tk=.pointer (some ⟨B,0,none⟩)∧x10=some (B,.int ((y:Int)%((Int.gcd x y:Nat):Int)))))∧(D 13=true→tl=.bool true))∧Hid (Mem w V [some (w.heap.size,.int ((x:Int))),some (w.heap.size+1,.int ((y:Int))),some (w.heap.size+1+1,.int (0)),x9,x10]))
  ⟨_,_,_,_,_,_,_,_,_,_,_,_,none,none,rfl,Ja ⟨by simp,by simp,by simp,by simp,by simp,by simp,by simp,by simp,by simp,by simp,by simp,by simp⟩,Ja (((M1.o).none).none).drew⟩ ?step1 ?fin1
 case step1=>
  rintro D act V i ds hcl hi hds hDi ⟨tn,ta,tb,tc,td,tm,te,tg,ti,tj,tk,tl,x9,x10,rfl,GG,MM⟩;have hi6:i<14:=(Ae.1 hi).1;obtain rfl|rfl|rfl|rfl|rfl|rfl|rfl|rfl|rfl|rfl|rfl|rfl|rfl|rfl:=FK i (by omega)
  all_goals
   simp only[Ai,Ag,Ak]at hi;subst hi
  · clear hds;obtain⟨s,a,l,c,n,i⟩:=MM.o.int (i:=1) rfl;obtain⟨e0,e1⟩:=n.cp;refine Va ?_;exact⟨_,_,_,_,_,_,_,_,_,_,_,_,_,_,rfl,(Di GG fun _=>i),Ja (MM.o)⟩
  · clear hds;obtain⟨s,a,l,c,n,i⟩:=MM.o.int (i:=0) rfl;obtain⟨e0,e1⟩:=n.cp;refine Va ?_;exact⟨_,_,_,_,_,_,_,_,_,_,_,_,_,_,rfl,(Dm GG fun _=>i),Ja (MM.o)⟩
  · clear hds;obtain⟨s,a,l,c,n,i⟩:=MM.o.int (i:=1) rfl;obtain⟨e0,e1⟩:=n.cp;refine Va ?_;exact⟨_,_,_,_,_,_,_,_,_,_,_,_,_,_,rfl,(De GG fun _=>i),Ja (MM.o)⟩
  · have h0:=(GG.o.2.1 (hds 1 (by simp)));have h1:=(GG.o.2.2.1 (hds 2 (by simp)));have HC:=Ja (Ht _ _ (x:Int) (y:Int) V h0 h1 (by have:=Qc.o.words;omega) (by have:=Qa.o.words;omega));clear hds h0 h1;refine Jb rfl rfl fun K hK=>?_;go_simp;go_wp2_with(go_at_call 84;refine HC.o.mono ?_;rintro e w5 ⟨v5,rfl,hv5,hb5⟩)
    obtain⟨G0,G1,G2,_,G4,G5,G6,G7,G8⟩:=GG.o;exact⟨_,_,_,_,_,_,_,_,_,_,_,_,_,_,rfl,Ja ⟨fun h=>(G0 h).below hb5,fun h=>(G1 h).below hb5,fun h=>(G2 h).below hb5,fun _=>hv5,fun h=>(G4 h).below hb5,fun h=>(G5 h).below hb5,fun h=>(G6 h).below hb5,fun h=>(G7 h).below hb5,G8⟩,Ja (MM.o.below hb5)⟩
  · have h0:=(GG.o.1 (hds 0 (by simp)));have h1:=(GG.o.2.2.2.1 (hds 3 (by simp)));have HC:=Ja (Pg _ _ (y:Int) ((Int.gcd x y:Nat):Int) V h0 h1 HG.o (by have:=Qa.o.words;omega) (by have:=(Qc.o.gcd Qa.o).words;omega));clear hds h0 h1;refine Jb rfl rfl fun K hK=>?_;go_simp;go_wp2_with(go_at_call 135;refine HC.o.mono ?_;rintro e w5 ⟨v5,v6,rfl,hv5,hv6,hb5⟩)
    obtain⟨G0,G1,G2,G3,_,G5,G6,G7,G8⟩:=GG.o;exact⟨_,_,_,_,_,_,_,_,_,_,_,_,_,_,rfl,Ja ⟨fun h=>(G0 h).below hb5,fun h=>(G1 h).below hb5,fun h=>(G2 h).below hb5,fun h=>(G3 h).below hb5,fun _=>⟨v5,v6,rfl,hv5,hv6⟩,fun h=>(G5 h).below hb5,fun h=>(G6 h).below hb5,fun h=>(G7 h).below hb5,G8⟩,Ja (MM.o.below hb5)⟩
  · have h0:=(GG.o.2.2.2.2.1 (hds 4 (by simp)));clear hds;refine Va ?_;exact⟨_,_,_,_,_,_,_,_,_,_,_,_,_,_,rfl,(D4 GG fun _=>h0),Ja (MM.o)⟩
  · obtain⟨y1,y2,rfl,h1,h2⟩:=((Du GG) (hds 5 (by simp)));clear hds;refine Va ?_;exact⟨_,_,_,_,_,_,_,_,_,_,_,_,_,_,rfl,(ED GG fun _=>h1),Ja (MM.o)⟩
  · obtain⟨y1,y2,rfl,h1,h2⟩:=((Du GG) (hds 5 (by simp)));clear hds;refine Va ?_;exact⟨_,_,_,_,_,_,_,_,_,_,_,_,_,_,rfl,(EQ GG fun _=>h2),Ja (MM.o)⟩
  · obtain⟨y1,y2,rfl,h1,h2⟩:=((Du GG) (hds 5 (by simp)));clear hds;refine Va ?_;exact⟨_,_,_,_,_,_,_,_,_,_,_,_,_,_,rfl,(EK GG),Ja (MM.o)⟩
  · have hf:D 11=false:=DP hcl hDi;obtain rfl:=GG.o.2.2.2.2.2.2.2.2.2.1.1 hDi;clear hds;refine Va ?_;obtain⟨G0,G1,G2,G3,G4,G5,G6,G7,G8,_,G10⟩:=GG.o;exact⟨_,_,_,_,_,_,_,_,_,_,_,_,_,_,rfl,Ja ⟨fun h=>(G0 h).alloc _,fun h=>(G1 h).alloc _,fun h=>(G2 h).alloc _,fun h=>(G3 h).alloc _,fun h=>(G4 h).alloc _,fun h=>(G5 h).alloc _,fun h=>(G6 h).alloc _,fun h=>(G7 h).alloc _,G8,⟨fun h=>by simp at h,fun _ _=>⟨_,rfl,rfl⟩,fun h=>by simp[hf]at h⟩,G10⟩,Ja (MM.o.fill (i:=3) rfl (.int 0) (X2 _))⟩
  · have hf:D 12=false:=DP hcl hDi;obtain rfl:=GG.o.2.2.2.2.2.2.2.2.2.2.1.1 hDi;clear hds;refine Va ?_;obtain⟨G0,G1,G2,G3,G4,G5,G6,G7,G8,G9,_,G11⟩:=GG.o;exact⟨_,_,_,_,_,_,_,_,_,_,_,_,_,_,rfl,Ja ⟨fun h=>(G0 h).alloc _,fun h=>(G1 h).alloc _,fun h=>(G2 h).alloc _,fun h=>(G3 h).alloc _,fun h=>(G4 h).alloc _,fun h=>(G5 h).alloc _,fun h=>(G6 h).alloc _,fun h=>(G7 h).alloc _,G8,G9,⟨fun h=>by simp at h,fun _ _=>⟨_,rfl,rfl⟩,fun h=>by simp[hf]at h⟩,G11⟩,Ja (MM.o.fill (i:=4) rfl (.int 0) (X2 _))⟩
  · obtain⟨B,rfl,rfl⟩:=GG.o.2.2.2.2.2.2.2.2.2.1.2.1 (hds 9 (by simp)) hDi;have Qb:=hds 9 (by simp);have hv:=((EJ GG) (hds 6 (by simp)));obtain⟨s1,a1,l1,c1,rfl⟩:=Jk.form2 (show Jk V _ _ from hv);obtain⟨s,a,l,c,n,i⟩:=MM.o.int (i:=3) rfl;have e0:=n.c0;have f0:=n.f0;have e1:=n.c1;have f1:=n.f1;clear hds;refine Va ?_;obtain⟨G0,G1,G2,G3,G4,G5,G6,G7,G8,_,G10⟩:=GG.o;exact⟨_,_,_,_,_,_,_,_,_,_,_,_,_,_,rfl,Ja ⟨fun h=>(G0 h).set2 n rfl rfl _ _,fun h=>(G1 h).set2 n rfl rfl _ _,fun h=>(G2 h).set2 n rfl rfl _ _,fun h=>(G3 h).set2 n rfl rfl _ _,fun h=>(G4 h).set2 n rfl rfl _ _,fun h=>(G5 h).set2 n rfl rfl _ _,fun h=>(G6 h).set2 n rfl rfl _ _,fun h=>(G7 h).set2 n rfl rfl _ _,G8,⟨fun h=>by simp[Qb]at h,fun _ h=>by simp at h,fun _=>⟨B,rfl,rfl⟩⟩,G10⟩,Ja (MM.o.putInt (i:=3) rfl hv)⟩
  · obtain⟨B,rfl,rfl⟩:=GG.o.2.2.2.2.2.2.2.2.2.2.1.2.1 (hds 10 (by simp)) hDi;have Qb:=hds 10 (by simp);have hv:=((Ev GG) (hds 7 (by simp)));obtain⟨s1,a1,l1,c1,rfl⟩:=Jk.form2 (show Jk V _ _ from hv);obtain⟨s,a,l,c,n,i⟩:=MM.o.int (i:=4) rfl;have e0:=n.c0;have f0:=n.f0;have e1:=n.c1;have f1:=n.f1;clear hds;refine Va ?_;obtain⟨G0,G1,G2,G3,G4,G5,G6,G7,G8,G9,_,G11⟩:=GG.o;exact⟨_,_,_,_,_,_,_,_,_,_,_,_,_,_,rfl,Ja ⟨fun h=>(G0 h).set2 n rfl rfl _ _,fun h=>(G1 h).set2 n rfl rfl _ _,fun h=>(G2 h).set2 n rfl rfl _ _,fun h=>(G3 h).set2 n rfl rfl _ _,fun h=>(G4 h).set2 n rfl rfl _ _,fun h=>(G5 h).set2 n rfl rfl _ _,fun h=>(G6 h).set2 n rfl rfl _ _,fun h=>(G7 h).set2 n rfl rfl _ _,G8,G9,⟨fun h=>by simp[Qb]at h,fun _ h=>by simp at h,fun _=>⟨B,rfl,rfl⟩⟩,G11⟩,Ja (MM.o.putInt (i:=4) rfl hv)⟩
  · obtain rfl:=((Ee GG) (hds 8 (by simp)));clear hds;refine Va ?_;exact⟨_,_,_,_,_,_,_,_,_,_,_,_,_,_,rfl,(Hi (EK GG)),Ja (MM.o)⟩
 rintro D act V2 hDD ⟨tn,ta,tb,tc,td,tm,te,tg,ti,tj,tk,tl,x9,x10,rfl,GG,MM⟩;obtain⟨B3,rfl,rfl⟩:=GG.o.2.2.2.2.2.2.2.2.2.1.2.2 (hDD 11 (by decide));obtain⟨B4,rfl,rfl⟩:=GG.o.2.2.2.2.2.2.2.2.2.2.1.2.2 (hDD 12 (by decide));obtain rfl:=Ee GG (hDD 8 (by decide));obtain rfl:=GG.o.2.2.2.2.2.2.2.2.2.2.2 (hDD 13 (by decide));clear GG hDD M1;have M2:Hid (Mem w V2 [some (w.heap.size,.int ((x:Int))),some (w.heap.size+1,.int ((y:Int))),some (w.heap.size+1+1,.int (0)),some (B3,.int ((y:Int)/((Int.gcd x y:Nat):Int))),some (B4,.int ((y:Int)%((Int.gcd x y:Nat):Int)))]):=MM;clear MM;obtain⟨s5,a5,l5,c5,n5,i5⟩:=M2.o.int (i:=0) rfl;obtain⟨e5a,e5b⟩:=n5.cp;obtain⟨s6,a6,l6,c6,n6,i6⟩:=M2.o.int (i:=3) rfl;obtain⟨e6a,e6b⟩:=n6.cp;obtain⟨s7,a7,l7,c7,n7,i7⟩:=M2.o.int (i:=2) rfl;obtain⟨Qe,Qd⟩:=n7.cp;obtain⟨Qi,Qh⟩:=n7.fp;have H1:=Ja (Xf _ _ (x:Int) ((y:Int)/((Int.gcd x y:Nat):Int)) V2 i5 i6 (by have h1:=Qc.o.words;have h2:=(Qa.o.div (y:=((Int.gcd x y:Nat):Int))).words;omega));rw[ba]at H1;go_wp2_with(go_at_call 69;refine H1.o.mono ?_;clear H1;rintro e w2 ⟨u2,rfl,hu2,hq⟩;obtain⟨s91,a91,l91,c91,rfl⟩:=Jk.form2 hu2;clear Qe Qd;obtain⟨Qe,Qd⟩:=(n7.below hq).cp;clear Qi Qh;obtain⟨Qi,Qh⟩:=(n7.below hq).fp)
 have Qk:=Bt M2.o.2.2 hq;have Qf:=M2.o.ge 2 rfl;exact BB (v:=.agg #[.bool s91,.slice a91 l91 c91]) (by simp[results,Tryz.results180,go_sem,Qe,Qd]) rfl ⟨_,rfl,hu2.box (n7.below hq) rfl rfl,(Qk.setCell (p:=⟨_,0,none⟩) Qf _).setCell (p:=⟨_,1,none⟩) Qf _⟩
def Ir(F:Nat→Rat)(n i:Nat)(S:List Rat):Prop:=S.length=n∧∀j,cf S j=if j<i then F j else 0
theorem Ir.next{F:Nat→Rat}{n i:Nat}{S:List Rat}(h:Ir F n i S)(hi:i<n):Ir F n (i+1) (S.set i (F i)):=by
 refine⟨by rw[Cz];exact h.1,fun j=>?_⟩;rw[XG _ _ _ _ (by rw[h.1];exact hi),h.2 j];by_cases e:j=i
 · rw[BH e,BH (by omega),e]
 · rw[BE e];by_cases e2:j<i
   · rw[BH e2,BH (by omega)]
   · rw[BE e2,BE (by omega)]
theorem Ir.done{F:Nat→Rat}{n:Nat}{S T:List Rat}(h:Ir F n n S)(hT:Jc T=T)(hF:∀j,j<n→cf T j=F j)(h0:∀j,n≤j→cf T j=0):Jc S=T:=by
 rw[←hT];refine Gc fun j=>?_;rw[h.2 j];split
 · exact(hF j (by assumption)).symm
 · exact(h0 j (by omega)).symm
theorem RL(v vf:Value)(ps:List Rat)(f:Rat)(w:World)(h:Je w v ps)(hf:Jg w vf f)(hps:Sqs ps)(hsf:Sq f)(hsr:∀i,Sq (cf ps i*f)):
 Calls Tryz.prog 181 #[v,vf] w fun e w'=>∃u,e=.returned u∧Je w' u (DU f ps)∧Bl w w':=by
 have Qq:Tryz.prog.follows .mixedOrders=true:=by kernel_rfl
 obtain⟨pa,la,pc,rfl⟩:=h.form;obtain⟨s,a,l,c,t,b,k,d,rfl⟩:=Jg.form hf;obtain⟨hla,hca,hcma,hlma,_⟩:=h.row.forms;have M0:=((((Mem.nil w).push (.cell 25 (.slice pa la pc)) (cs:=#[.slice pa la pc]) ⟨rfl,rfl⟩).push (.rat f) (cs:=#[.bool s,.slice a l c,.bool t,.slice b k d]) (Has.alloc (d:=.rat f) hf _)).push (.cell 25 (.slice none 0 0)) (cs:=#[.slice none 0 0]) ⟨rfl,rfl⟩);simp only[BA]at M0;obtain⟨V0,hV0⟩:=ex (((w.alloc (.cells #[.slice pa la pc] 25)).alloc (.cells #[.bool s,.slice a l c,.bool t,.slice b k d] 37)).alloc (.cells #[.slice none 0 0] 25));have M1:Mem w V0 [some (w.heap.size,.cell 25 (.slice pa la pc)),some (w.heap.size+1,.rat f),some (w.heap.size+1+1,.cell 25 (.slice none 0 0))]:=by rw[←hV0];exact M0
 have Qh:=Ja M1;obtain⟨n,hn⟩:=ex (ps.length:Nat);obtain⟨e0,he0⟩:=ex ((n:Int)-1:Int);have Qg:=Ja (J4 (.agg #[.slice pa la pc]) ps V0 (h.below M1.2.2));rw[hn,he0]at Qg;have hd1:e0+1=(n:Int):=by omega
 have hdw:IntKind.i64.wrap (n:Int)=(n:Int):=by rw[Bi];omega
 have Qr:∀W:World,(Instr.makeSlice 22 (.int .i64 (n:Int)) (.int .i64 (n:Int))).run Tryz.prog W=.ok (.slice (some ⟨W.heap.size,0,none⟩) n n) (W.alloc (.cells (Ya n) 37)):=fun W=>bc n (by omega) W;obtain⟨HP,Ql,Qm,HN⟩:=Dt (fun(V:World) (hB:Bl w V)=>h.below hB) hps hsr (show ps.length=n from hn);have Qd:n≤1099511627776:=by omega
 have Qj:=Ja hV0;have Qo:=Ja hsf;clear h hps hsr hla hca hcma hn he0 M0 M1 hV0 hlma hf hsf;go_enter Tryz.func181,Tryz.ntmps181
 go_upto_region 1 with fail
 rw[Qj.o];have c0:=(Qh.o.cell (i:=0) rfl).1.cell;go_upto_region 2 with(go_at_call 30;refine Qg.o.mono ?_;clear Qg;rintro e w1 ⟨rfl,hb1⟩)
 have Qe:Mem w (w1.alloc (.cells (Ya n) 37)) [some (w.heap.size,.cell 25 (.slice pa la pc)),some (w.heap.size+1,.rat f),some (w.heap.size+1+1,.cell 25 (.slice none 0 0)),some (w1.heap.size,.rats (List.replicate n 0))]:=(Qh.o.below hb1).push (.rats (List.replicate n 0)) (LR _ n);obtain⟨V1,hV1⟩:=ex (w1.alloc (.cells (Ya n) 37));obtain⟨gS,hgS⟩:=ex (w1.heap.size);rw[hV1,hgS]at Qe;rw[hV1,hgS];have Qi:=Ja Qe;clear Qe hV1 hgS hb1 c0 Qh Qj Qr;go_wp2;go_loopw [13] (fun iv wr=>∃(i:Nat) (S:List Rat),i≤n∧iv=.int .i64 (i:Int)∧Hid (Ir (fun j=>cf ps j*f) n i S)∧Hid (Mem w wr [some (w.heap.size,.cell 25 (.slice pa la pc)),some (w.heap.size+1,.rat f),some (w.heap.size+1+1,.cell 25 (.slice none 0 0)),some (gS,.rats S)])) (fun iv _=>n-(intOf iv).toNat)
 case atStart=>exact⟨0,_,AH _,rfl,Ja ⟨Az,fun j=>by rw[JZ,BE (by omega)]⟩,Qi⟩
 case round=>
  obtain⟨i,S,hi,rfl,HS,HM⟩:=hrel;clear Qi;by_cases hlt:i<n
  · have hlt2:(i:Int)<(n:Int):=by omega
    have Qk:=Ja (show i<S.length by rw[HS.o.1];exact hlt);go_wp2_with fail
    have Qn:=HM.o.drew;refine Jm Qq [[],[],[],[],[2,3],[],[4,5,4],[0,1,0,1,2,3,4,5,6],[7,6,6,0,1,2,3,4,5,6]] (by kernel_rfl) (by decide)
     (fun D act V=>∃(ta tb tc td te tg ti tj:Value),act={ tmps:=#[.agg #[.slice pa la pc],.agg #[.bool s,.slice a l c,.bool t,.slice b k d],.pointer (some ⟨w.heap.size,0,none⟩),.pointer (some ⟨w.heap.size+1,0,none⟩),.pointer (some ⟨w.heap.size+1+1,0,none⟩),.slice (some ⟨gS,0,none⟩) n n,.int .i64 ↑i,.agg #[.slice pa la pc],.int .i64 e0,.int .i64 ↑n,.slice (some ⟨gS,0,none⟩) n n,.slice (some ⟨gS,0,none⟩) n n,.int .i64 ↑n,.int .i64 ↑i,.bool true,.int .i64 ↑i,ta,tb,tc,td,te,tg,ti,tj,u24,undef,undef],defers:=[] }∧Hid ((D 0=true→ta=.slice (some ⟨gS,0,none⟩) n n)∧(D 1=true→tb=.int .i64 (i:Int))∧(D 2=true→tc=.agg #[.slice pa la pc])∧(D 3=true→td=.int .i64 (i:Int))∧(D 4=true→D 8=false→Jg V te (cf ps i))∧(D 5=true→D 8=false→Jg V tg f)∧(D 6=true→D 8=false→Jg V ti (cf ps i*f))∧(D 7=true→tj=.pointer (some ⟨gS,i*4,none⟩)))∧Hid ((D 8=false→Mem w V [some (w.heap.size,.cell 25 (.slice pa la pc)),some (w.heap.size+1,.rat f),some (w.heap.size+1+1,.cell 25 (.slice none 0 0)),some (gS,.rats (S))])∧(D 8=true→Mem w V [some (w.heap.size,.cell 25 (.slice pa la pc)),some (w.heap.size+1,.rat f),some (w.heap.size+1+1,.cell 25 (.slice none 0 0)),some (gS,.rats (S.set i (cf ps i*f)))])))
     (E8 ⟨rfl,Ja (by simp),Ja ⟨fun _=>Qn,by simp⟩⟩) ?step1 ?fin1
    case step1=>
     rintro D act V i ds hcl hi hds hDi ⟨ta,tb,tc,td,te,tg,ti,tj,rfl,GG,SS0⟩;have hi6:i<9:=(Ae.1 hi).1;obtain rfl|rfl|rfl|rfl|rfl|rfl|rfl|rfl|rfl:=R5 i (by omega)
     all_goals
      simp only[Ai,Ag,Ak]at hi;subst hi
     · clear hds;refine DZ ?_;exact⟨(Di GG),SS0⟩
     · clear hds;refine DZ ?_;exact⟨(Dm GG),SS0⟩
     · have Qb:=SS0.o.1 (DP hcl hDi);have e0:=(Qb.cell (i:=0) rfl).1.cell;clear hds;refine DZ ?_;exact⟨(De GG),SS0⟩
     · clear hds;refine DZ ?_;exact⟨(Dj GG),SS0⟩
     · have Qb:=SS0.o.1 (DP hcl hDi);obtain rfl:=GG.o.2.2.1 (hds 2 (by simp));obtain rfl:=GG.o.2.2.2.1 (hds 3 (by simp));clear hds;have HC:=Ja (Gm _ ps (i:Int) V (HP.o V Qb.2.2));rw[Iq]at HC;refine Jb rfl rfl fun K hK=>?_;go_simp;go_wp2_with(go_at_call 74;refine HC.o.mono ?_;rintro e w5 ⟨v5,rfl,hv5,hb5⟩)
       obtain⟨G0,G1,_,_,_,G5,G6,G7⟩:=GG.o;exact E8 ⟨rfl,Ja ⟨G0,G1,fun _=>rfl,fun _=>rfl,fun _ _=>hv5,fun h h2=>(G5 h h2).below hb5,fun h h2=>(G6 h h2).below hb5,G7⟩,Ja ⟨fun h=>(SS0.o.1 h).below hb5,fun h=>(SS0.o.2 h).below hb5⟩⟩
     · have Qb:=SS0.o.1 (DP hcl hDi);obtain⟨x1,x2,x3,x4,x5,x6,x7,x8,n,r,_,_⟩:=Qb.rat (i:=1) rfl;obtain⟨e0,e1,e2,e3⟩:=n.cq;clear hds;refine DZ ?_;exact⟨(D4 GG fun _ _=>r),SS0⟩
     · have Qa:D 8=false:=DP hcl hDi;have h0:=GG.o.2.2.2.2.1 (hds 4 (by simp)) Qa;have h1:=Du GG (hds 5 (by simp)) Qa;clear hds;have HC:=Ja (Ia _ _ (cf ps i) f V h0 h1 (Ql.o.at i) Qo.o);clear h0 h1;refine Jb rfl rfl fun K hK=>?_;go_simp;go_wp2_with(go_at_call 91;refine HC.o.mono ?_;rintro e w5 ⟨v5,rfl,hv5,hb5⟩)
       obtain⟨G0,G1,G2,G3,G4,G5,_,G7⟩:=GG.o;exact E8 ⟨rfl,Ja ⟨G0,G1,G2,G3,fun h h2=>(G4 h h2).below hb5,fun h h2=>(G5 h h2).below hb5,fun _ _=>hv5,G7⟩,Ja ⟨fun h=>(SS0.o.1 h).below hb5,fun h=>(SS0.o.2 h).below hb5⟩⟩
     · obtain rfl:=GG.o.1 (hds 0 (by simp));obtain rfl:=GG.o.2.1 (hds 1 (by simp));clear hds;refine DZ ?_;exact⟨(Ox (Dm (Di GG))),SS0⟩
     · have Qb:=SS0.o.1 hDi;have h0:=EJ GG (hds 6 (by simp)) hDi;obtain rfl:=GG.o.2.2.2.2.2.2.2 (hds 7 (by simp));have hE:=Qb.rats (i:=3) rfl;obtain⟨xa,xb,xc,xd,e0,e1,e2,e3,_⟩:=hE.at Qk.o;have f0:=hE.frozen (i*4);have f1:=hE.frozen (i*4+1);have f2:=hE.frozen (i*4+2);have f3:=hE.frozen (i*4+3);obtain⟨s9,a9,l9,c9,t9,b9,k9,d9,rfl⟩:=Jg.form h0;clear hds;refine DZ ?_;exact⟨Ja ⟨GG.o.1,GG.o.2.1,GG.o.2.2.1,GG.o.2.2.2.1,fun _ h=>by simp at h,fun _ h=>by simp at h,fun _ h=>by simp at h,fun _=>rfl⟩,Ja ⟨fun h=>by simp at h,fun _=>Qb.putRats (i:=3) rfl Qk.o h0⟩⟩
    case fin1=>
     rintro D act V hDD ⟨ta,tb,tc,td,te,tg,ti,tj,rfl,GG,SS0⟩;have HO:=Ja (SS0.o.2 (hDD 8 (by decide)));clear GG SS0 hDD;go_wp2_with fail
     go_roundw
     case rel=>exact⟨i+1,_,by omega,by go_num,Ja (HS.o.next hlt),HO⟩
     case measure=>simp[intOf];omega
  · obtain rfl:i=n:=by omega
    have hE:=HM.o.rats (i:=3) rfl;have Qc:=hE.row (n:=i) (cap:=i) (by rw[HS.o.1];exact Aa _) (Aa _) (by omega) Qd;rw[Ac (by rw[HS.o.1];exact Aa _)]at Qc;have Qf:=Ja (Pq _ S wr Qc (Sqs.of fun j=>by
     rw[HS.o.2 j];split
     · exact Qm.o j
     · exact Ec))
    rw[HS.o.done (T:=DU f ps) (JP _ _) (fun j hj=>XP _ _ _) (fun j hj=>by rw[XP,J8 (by rw[HN.o];exact hj),Cy])]at Qf;clear hE Qc;go_wp2_with(go_at_call 25;refine Qf.o.mono ?_;clear Qf;rintro e w5 ⟨u5,rfl,hu5,_,hb5⟩;obtain⟨a7,l7,c7,rfl⟩:=hu5.form;have n5:=boxed_below (HM.o.cell (i:=2) rfl).1 hb5;have x0:=n5.cell;have x1:=n5.frozen;have Qs:=Ja (EX n5 (.slice a7 l7 c7) hu5.row);have Qp:=Ja ((Bt HM.o.2.2 hb5).setCell (p:=⟨w.heap.size+1+1,0,none⟩) (by show w.heap.size≤w.heap.size+1+1;omega) (.slice a7 l7 c7));clear hu5 hb5 n5)
    exact BB (v:=.agg #[.slice a7 l7 c7]) (by simp[results,Tryz.results181,go_sem,x0]) rfl ⟨_,rfl,⟨_,rfl,Qs.o⟩,Qp.o⟩
theorem bh(p:List Rat)(n:Nat):((Int.gcd ((YP p n:Nat):Int) (cf p n).num:Nat):Int)=((YP p (n+1):Nat):Int):=rfl
theorem bi(p:List Rat)(n:Nat):((Nat.lcm (Y7 p n) (cf p n).den:Nat):Int)=((Y7 p (n+1):Nat):Int):=rfl
theorem Nk(D:Int)(M:Nat)(v:Value)(ps:List Rat)(w:World)(h:Je w v ps)(htp:Jc ps=ps)(hD:D≠0)(hsD:Sm M D)(hcd:Dz D M ps)(hM:M≤1000000000):
 Calls Tryz.prog 137 #[v] w fun e w'=>∃u,e=.returned u∧Je w' u (JL ps)∧Bl w w':=by
 have Qe:Tryz.prog.follows .mixedOrders=true:=by kernel_rfl
 obtain⟨pa,la,pc,rfl⟩:=h.form;obtain⟨hla,hca,hcma,hlma,_⟩:=h.row.forms;have Qa:∀i,DV M (cf ps i):=fun i=>(hcd i).smq hD hsD;obtain⟨HG,HL,Qb⟩:=Dg (fun i=>Sok.of (RF (fun j=>(Qa j).1) i) (by omega):∀i,Sok ((YP ps i:Nat):Int)) (fun i=>Sok.of (RE hD hsD hcd i) (by omega):∀i,Sok ((Y7 ps i:Nat):Int)) (show Sqs ps from Sqs.of fun i=>Sq.of (Qa i) hM);have HF:=Ja (show ps≠[]→Sq ((Y7 ps ps.length:Rat)/(YP ps ps.length:Rat))∧∀i,Sq (cf ps i*((Y7 ps ps.length:Rat)/(YP ps ps.length:Rat)))from fun h0=>by
  have h1:=RG htp h0 (hcd.ln hD);refine⟨?_,fun i=>?_⟩
  · have h2:((Y7 ps ps.length:Rat)/(YP ps ps.length:Rat))=Rat.divInt ((Y7 ps ps.length:Nat):Int) ((YP ps ps.length:Nat):Int):=by rw[CO,Cm,Cm]
    rw[h2];exact Sq.of (DV.divInt (Int.natCast_ne_zero.2 (Lb htp h0)) (RE hD hsD hcd _) (RF (fun j=>(Qa j).1) _)) hM
  · obtain⟨z,h3,h4⟩:=h1 i;have h5:cf ps i*((Y7 ps ps.length:Rat)/(YP ps ps.length:Rat))=(z:Rat):=by rw[←h4];unfold JL;rw[XP]
    rw[h5];have h6:1≤M:=by
     by_cases h7:1≤M
     · exact h7
     · exfalso
       obtain rfl:M=0:=by omega
       unfold Sm at hsD
       have:D.natAbs≠0:=Int.natAbs_ne_zero.2 hD
       simp at hsD;omega
    exact Sq.of ((Ng (D:=1) (by decide) h3 (by rw[show((1:Int):Rat)=1 from rfl,Rat.mul_one])).smq (by decide) (Sm.one M h6)) hM)
 have Qm:=Ja (fun h0=>Lb htp h0:ps≠[]→YP ps ps.length≠0);have M0:=(((Mem.nil w).push (.cell 25 (.slice pa la pc)) (cs:=#[.slice pa la pc]) ⟨rfl,rfl⟩).push (.cell 25 (.slice none 0 0)) (cs:=#[.slice none 0 0]) ⟨rfl,rfl⟩).push (.int 0) (cs:=#[.bool false,.slice none 0 0]) (X2 _);simp only[BA]at M0;obtain⟨W0,hW0⟩:=ex (((w.alloc (.cells #[.slice pa la pc] 25)).alloc (.cells #[.slice none 0 0] 25)).alloc (.cells #[.bool false,.slice none 0 0] 35));have Qd:=Ja hW0;have M1:Hid (Mem w W0 [some (w.heap.size,.cell 25 (.slice pa la pc)),some (w.heap.size+1,.cell 25 (.slice none 0 0)),some (w.heap.size+1+1,.int (((YP ps 0:Nat):Int)))]):=Ja (by rw[←hW0];exact M0);obtain⟨n,hn⟩:=ex (ps.length:Nat);obtain⟨e0,he0⟩:=ex ((n:Int)-1:Int);have Qc:=Ja (fun(V:World) (hB:Bl w V)=>J4 (.agg #[.slice pa la pc]) ps V (h.below hB));rw[hn,he0]at Qc;have hd1:e0+1=(n:Int):=by omega
 have hdw:IntKind.i64.wrap (n:Int)=(n:Int):=by rw[Bi];omega
 have HP:=Ja (fun(V:World) (hB:Bl w V)=>h.below hB);have HN:=Ja (show ps.length=n from hn);have hnle:n≤1099511627776:=by omega
 have Qf:=Ja (fun(V:World)=>Ho 1 (by omega) (by omega) V);clear h hla hca hcma hn he0 M0 hW0 hlma htp hD hsD hcd hM Qa;go_enter Tryz.func137,Tryz.ntmps137
 go_upto_region 2 with fail
 rw[Qd.o];clear Qd;go_upto_region 3 with(go_at_call 29;refine(Qf.o _).mono ?_;clear Qf;rintro e w1 ⟨u1,rfl,hu1,hb1⟩;obtain⟨s1,a1,l1,c1,rfl⟩:=Jk.form2 hu1)
 obtain⟨V1,hV⟩:=ex (w1.alloc (.cells #[.bool s1,.slice a1 l1 c1] 35));obtain⟨B1,hBk⟩:=ex (w1.heap.size);have MM:Mem w (w1.alloc (.cells #[.bool s1,.slice a1 l1 c1] 35)) [some (w.heap.size,.cell 25 (.slice pa la pc)),some (w.heap.size+1,.cell 25 (.slice none 0 0)),some (w.heap.size+1+1,.int (((YP ps 0:Nat):Int))),some (w1.heap.size,.int (((Y7 ps 0:Nat):Int)))]:=Mem.push (M1.o.below hb1) (.int (((Y7 ps 0:Nat):Int))) hu1;rw[hV,hBk]at MM;rw[hV];rw[hBk];have M2:Hid (Mem w V1 [some (w.heap.size,.cell 25 (.slice pa la pc)),some (w.heap.size+1,.cell 25 (.slice none 0 0)),some (w.heap.size+1+1,.int (((YP ps 0:Nat):Int))),some (B1,.int (((Y7 ps 0:Nat):Int)))]):=Ja (MM);clear M1;clear MM hV hBk;clear hu1 hb1;have c0:=(M2.o.cell (i:=0) rfl).1.cell;go_upto_region 4 with(go_at_call 30;refine(Qc.o _ M2.o.2.2).mono ?_;clear Qc;rintro e w2 ⟨rfl,hb2⟩)
 have ML:Hid (Mem w w2 [some (w.heap.size,.cell 25 (.slice pa la pc)),some (w.heap.size+1,.cell 25 (.slice none 0 0)),some (w.heap.size+1+1,.int (((YP ps 0:Nat):Int))),some (B1,.int (((Y7 ps 0:Nat):Int)))]):=Ja (M2.o.below hb2);clear c0 hb2 M2;go_loopw [12] (fun iv wr=>∃i:Nat,i≤n∧iv=.int .i64 (i:Int)∧Hid (Mem w wr [some (w.heap.size,.cell 25 (.slice pa la pc)),some (w.heap.size+1,.cell 25 (.slice none 0 0)),some (w.heap.size+1+1,.int (((YP ps i:Nat):Int))),some (B1,.int (((Y7 ps i:Nat):Int)))])) (fun iv _=>n-(intOf iv).toNat)
 case atStart=>exact⟨0,AH _,rfl,ML⟩
 case round=>
  obtain⟨i,hi,rfl,M3⟩:=hrel;clear ML;by_cases hlt:i<n
  · have hlt2:(i:Int)<(n:Int):=by omega
    go_upto_region 6 with fail
    refine Jm Qe [[],[],[],[1,2],[3,3],[0,4,4],[5,5,0,1,2,3,4,5]] (by kernel_rfl) (by decide)
     (fun D act V=>∃(ta tb tc td te tg:Value) (y2:Option (Nat × Dat)),act={ tmps:=#[.agg #[.slice pa la pc],.pointer (some ⟨w.heap.size,0,none⟩),.pointer (some ⟨w.heap.size+1,0,none⟩),.pointer (some ⟨w.heap.size+1+1,0,none⟩),.pointer (some ⟨B1,0,none⟩),.int .i64 ↑i,undef,undef,.agg #[.bool s1,.slice a1 l1 c1],.agg #[.slice pa la pc],.int .i64 e0,.int .i64 ↑n,.int .i64 ↑i,.bool true,.int .i64 ↑i,ta,tb,tc,td,te,tg,u21,u22,u23,u24,u25,u26,u27,undef,undef,undef,undef,undef,undef,undef,undef,undef,undef,undef,undef],defers:=[] }∧Hid ((D 0=true→Has V ta (.int (((YP ps i:Nat):Int))))∧(D 1=true→tb=.agg #[.slice pa la pc])∧(D 2=true→tc=Value.int IntKind.i64 ↑i)∧(D 3=true→Has V td (.rat (cf ps i)))∧(D 4=true→Has V te (.int ((cf ps i).num)))∧(D 5=true→Has V tg (.int (((YP ps (i+1):Nat):Int))))∧((D 6=false→y2=some (w.heap.size+1+1,.int (((YP ps i:Nat):Int))))∧(D 6=true→y2=some (w.heap.size+1+1,.int (((YP ps (i+1):Nat):Int))))))∧Hid (Mem w V [some (w.heap.size,.cell 25 (.slice pa la pc)),some (w.heap.size+1,.cell 25 (.slice none 0 0)),y2,some (B1,.int (((Y7 ps i:Nat):Int)))]))
     ⟨_,_,_,_,_,_,_,rfl,Ja ⟨by simp,by simp,by simp,by simp,by simp,by simp,⟨fun _=>rfl,by simp⟩⟩,Ja (M3.o).drew⟩ ?step2 ?fin2
    case step2=>
     rintro D act V i ds hcl hi hds hDi ⟨ta,tb,tc,td,te,tg,y2,rfl,GG,MM⟩;have Qj:i<7:=(Ae.1 hi).1;obtain rfl|rfl|rfl|rfl|rfl|rfl|rfl:=Gw i (by omega)
     all_goals
      simp only[Ai,Ag,Ak]at hi;subst hi
     · have hf:D 6=false:=DP hcl hDi;obtain rfl:=EJ GG hf;clear hds;obtain⟨s,a,l,c,n,i⟩:=MM.o.int (i:=2) rfl;obtain⟨e0,e1⟩:=n.cp;refine Va ?_;exact⟨_,_,_,_,_,_,_,rfl,(Kv (Di GG (fun _=>i)) ⟨fun _=>rfl,fun h=>by simp[hf]at h⟩),Ja (MM.o)⟩
     · have e0:=(MM.o.cell (i:=0) rfl).1.cell;clear hds;refine Va ?_;exact⟨_,_,_,_,_,_,_,rfl,(Dm GG),Ja (MM.o)⟩
     · clear hds;refine Va ?_;exact⟨_,_,_,_,_,_,_,rfl,(De GG),Ja (MM.o)⟩
     · obtain rfl:=(GG.o.2.1 (hds 1 (by simp)));obtain rfl:=(GG.o.2.2.1 (hds 2 (by simp)));have HC:=Ja (Gm _ ps (i:Int) V (HP.o V MM.o.2.2));rw[Iq]at HC;clear hds;refine Jb rfl rfl fun K hK=>?_;go_simp;go_wp2_with(go_at_call 74;refine HC.o.mono ?_;rintro e w5 ⟨v5,rfl,hv5,hb5⟩)
       obtain⟨G0,_,_,_,G4,G5,G6⟩:=GG.o;exact⟨_,_,_,_,_,_,_,rfl,Ja ⟨fun h=>(G0 h).below hb5,fun _=>rfl,fun _=>rfl,fun _=>hv5,fun h=>(G4 h).below hb5,fun h=>(G5 h).below hb5,G6⟩,Ja (MM.o.below hb5)⟩
     · have h0:=(GG.o.2.2.2.1 (hds 3 (by simp)));have HC:=Ja (aT _ (cf ps i) V h0);clear hds h0;refine Jb rfl rfl fun K hK=>?_;go_simp;go_wp2_with(go_at_call 179;refine HC.o.mono ?_;rintro e w5 ⟨v5,rfl,hv5,hb5⟩)
       obtain⟨G0,G1,G2,G3,_,G5,G6⟩:=GG.o;exact⟨_,_,_,_,_,_,_,rfl,Ja ⟨fun h=>(G0 h).below hb5,G1,G2,fun h=>(G3 h).below hb5,fun _=>hv5,fun h=>(G5 h).below hb5,G6⟩,Ja (MM.o.below hb5)⟩
     · have h0:=(GG.o.1 (hds 0 (by simp)));have h1:=(GG.o.2.2.2.2.1 (hds 4 (by simp)));have HC:=Ja (Ht _ _ ((YP ps i:Nat):Int) (cf ps i).num V h0 h1 (by have:=(HG.o i).words;omega) (by have:=(Qb.o.at i).num.words;omega));rw[bh]at HC;clear hds h0 h1;refine Jb rfl rfl fun K hK=>?_;go_simp;go_wp2_with(go_at_call 84;refine HC.o.mono ?_;rintro e w5 ⟨v5,rfl,hv5,hb5⟩)
       obtain⟨G0,G1,G2,G3,G4,_,G6⟩:=GG.o;exact⟨_,_,_,_,_,_,_,rfl,Ja ⟨fun h=>(G0 h).below hb5,G1,G2,fun h=>(G3 h).below hb5,fun h=>(G4 h).below hb5,fun _=>hv5,G6⟩,Ja (MM.o.below hb5)⟩
     · obtain rfl:=EJ GG hDi;have hv:=((Du GG) (hds 5 (by simp)));obtain⟨s1,a1,l1,c1,rfl⟩:=Jk.form2 (show Jk V _ _ from hv);obtain⟨s,a,l,c,n,i⟩:=MM.o.int (i:=2) rfl;have e0:=n.c0;have f0:=n.f0;have e1:=n.c1;have f1:=n.f1;clear hds;refine Va ?_;obtain⟨G0,G1,G2,G3,G4,G5,_⟩:=GG.o;exact⟨_,_,_,_,_,_,_,rfl,Ja ⟨fun h=>(G0 h).set2 n rfl rfl _ _,G1,G2,fun h=>(G3 h).set2 n rfl rfl _ _,fun h=>(G4 h).set2 n rfl rfl _ _,fun h=>(G5 h).set2 n rfl rfl _ _,⟨fun h=>by simp at h,fun _=>rfl⟩⟩,Ja (MM.o.putInt (i:=2) rfl hv)⟩
    rintro D act V3 hDD ⟨ta,tb,tc,td,te,tg,y2,rfl,GG,MM⟩;obtain rfl:=GG.o.2.2.2.2.2.2.2 (hDD 6 (by decide));obtain rfl:=GG.o.2.1 (hDD 1 (by decide));obtain rfl:=GG.o.2.2.1 (hDD 2 (by decide));clear GG hDD M3;have M4:Hid (Mem w V3 [some (w.heap.size,.cell 25 (.slice pa la pc)),some (w.heap.size+1,.cell 25 (.slice none 0 0)),some (w.heap.size+1+1,.int (((YP ps (i+1):Nat):Int))),some (B1,.int (((Y7 ps i:Nat):Int)))]):=MM;clear MM;go_upto_region 7 with fail
    refine Jm Qe [[],[],[],[1,2],[3,3],[0,4,4],[5,5,0,1,2,3,4,5]] (by kernel_rfl) (by decide)
     (fun D act V=>∃(ti tj tk tl tm tn:Value) (y3:Option (Nat × Dat)),act={ tmps:=#[.agg #[.slice pa la pc],.pointer (some ⟨w.heap.size,0,none⟩),.pointer (some ⟨w.heap.size+1,0,none⟩),.pointer (some ⟨w.heap.size+1+1,0,none⟩),.pointer (some ⟨B1,0,none⟩),.int .i64 ↑i,undef,undef,.agg #[.bool s1,.slice a1 l1 c1],.agg #[.slice pa la pc],.int .i64 e0,.int .i64 ↑n,.int .i64 ↑i,.bool true,.int .i64 ↑i,ta,.agg #[.slice pa la pc],.int .i64 ↑i,td,te,tg,ti,tj,tk,tl,tm,tn,u27,undef,undef,undef,undef,undef,undef,undef,undef,undef,undef,undef,undef],defers:=[] }∧Hid ((D 0=true→Has V ti (.int (((Y7 ps i:Nat):Int))))∧(D 1=true→tj=.agg #[.slice pa la pc])∧(D 2=true→tk=Value.int IntKind.i64 ↑i)∧(D 3=true→Has V tl (.rat (cf ps i)))∧(D 4=true→Has V tm (.int (((cf ps i).den:Int))))∧(D 5=true→Has V tn (.int (((Y7 ps (i+1):Nat):Int))))∧((D 6=false→y3=some (B1,.int (((Y7 ps i:Nat):Int))))∧(D 6=true→y3=some (B1,.int (((Y7 ps (i+1):Nat):Int))))))∧Hid (Mem w V [some (w.heap.size,.cell 25 (.slice pa la pc)),some (w.heap.size+1,.cell 25 (.slice none 0 0)),some (w.heap.size+1+1,.int (((YP ps (i+1):Nat):Int))),y3]))
     ⟨_,_,_,_,_,_,_,rfl,Ja ⟨by simp,by simp,by simp,by simp,by simp,by simp,⟨fun _=>rfl,by simp⟩⟩,Ja (M4.o).drew⟩ ?step4 ?fin4
    case step4=>
     rintro D act V i ds hcl hi hds hDi ⟨ti,tj,tk,tl,tm,tn,y3,rfl,GG,MM⟩;have Qj:i<7:=(Ae.1 hi).1;obtain rfl|rfl|rfl|rfl|rfl|rfl|rfl:=Gw i (by omega)
     all_goals
      simp only[Ai,Ag,Ak]at hi;subst hi
     · have hf:D 6=false:=DP hcl hDi;obtain rfl:=EJ GG hf;clear hds;obtain⟨s,a,l,c,n,i⟩:=MM.o.int (i:=3) rfl;obtain⟨e0,e1⟩:=n.cp;refine Va ?_;exact⟨_,_,_,_,_,_,_,rfl,(Kv (Di GG (fun _=>i)) ⟨fun _=>rfl,fun h=>by simp[hf]at h⟩),Ja (MM.o)⟩
     · have e0:=(MM.o.cell (i:=0) rfl).1.cell;clear hds;refine Va ?_;exact⟨_,_,_,_,_,_,_,rfl,(Dm GG),Ja (MM.o)⟩
     · clear hds;refine Va ?_;exact⟨_,_,_,_,_,_,_,rfl,(De GG),Ja (MM.o)⟩
     · obtain rfl:=(GG.o.2.1 (hds 1 (by simp)));obtain rfl:=(GG.o.2.2.1 (hds 2 (by simp)));have HC:=Ja (Gm _ ps (i:Int) V (HP.o V MM.o.2.2));rw[Iq]at HC;clear hds;refine Jb rfl rfl fun K hK=>?_;go_simp;go_wp2_with(go_at_call 74;refine HC.o.mono ?_;rintro e w5 ⟨v5,rfl,hv5,hb5⟩)
       obtain⟨G0,_,_,_,G4,G5,G6⟩:=GG.o;exact⟨_,_,_,_,_,_,_,rfl,Ja ⟨fun h=>(G0 h).below hb5,fun _=>rfl,fun _=>rfl,fun _=>hv5,fun h=>(G4 h).below hb5,fun h=>(G5 h).below hb5,G6⟩,Ja (MM.o.below hb5)⟩
     · have h0:=(GG.o.2.2.2.1 (hds 3 (by simp)));have HC:=Ja (Ex _ (cf ps i) V h0);clear hds h0;refine Jb rfl rfl fun K hK=>?_;go_simp;go_wp2_with(go_at_call 70;refine HC.o.mono ?_;rintro e w5 ⟨v5,rfl,hv5,hb5⟩)
       obtain⟨G0,G1,G2,G3,_,G5,G6⟩:=GG.o;exact⟨_,_,_,_,_,_,_,rfl,Ja ⟨fun h=>(G0 h).below hb5,G1,G2,fun h=>(G3 h).below hb5,fun _=>hv5,fun h=>(G5 h).below hb5,G6⟩,Ja (MM.o.below hb5)⟩
     · have h0:=(GG.o.1 (hds 0 (by simp)));have h1:=(GG.o.2.2.2.2.1 (hds 4 (by simp)));have HC:=Ja (bg _ _ (Y7 ps i) (cf ps i).den V h0 h1 (RA ps i) (HL.o i) (Qb.o.at i).den);rw[bi]at HC;clear hds h0 h1;refine Jb rfl rfl fun K hK=>?_;go_simp;go_wp2_with(go_at_call 180;refine HC.o.mono ?_;rintro e w5 ⟨v5,rfl,hv5,hb5⟩)
       obtain⟨G0,G1,G2,G3,G4,_,G6⟩:=GG.o;exact⟨_,_,_,_,_,_,_,rfl,Ja ⟨fun h=>(G0 h).below hb5,G1,G2,fun h=>(G3 h).below hb5,fun h=>(G4 h).below hb5,fun _=>hv5,G6⟩,Ja (MM.o.below hb5)⟩
     · obtain rfl:=EJ GG hDi;have hv:=((Du GG) (hds 5 (by simp)));obtain⟨s1,a1,l1,c1,rfl⟩:=Jk.form2 (show Jk V _ _ from hv);obtain⟨s,a,l,c,n,i⟩:=MM.o.int (i:=3) rfl;have e0:=n.c0;have f0:=n.f0;have e1:=n.c1;have f1:=n.f1;clear hds;refine Va ?_;obtain⟨G0,G1,G2,G3,G4,G5,_⟩:=GG.o;exact⟨_,_,_,_,_,_,_,rfl,Ja ⟨fun h=>(G0 h).set2 n rfl rfl _ _,G1,G2,fun h=>(G3 h).set2 n rfl rfl _ _,fun h=>(G4 h).set2 n rfl rfl _ _,fun h=>(G5 h).set2 n rfl rfl _ _,⟨fun h=>by simp at h,fun _=>rfl⟩⟩,Ja (MM.o.putInt (i:=3) rfl hv)⟩
    rintro D act V5 hDD ⟨ti,tj,tk,tl,tm,tn,y3,rfl,GG,MM⟩;obtain rfl:=GG.o.2.2.2.2.2.2.2 (hDD 6 (by decide));obtain rfl:=GG.o.2.1 (hDD 1 (by decide));obtain rfl:=GG.o.2.2.1 (hDD 2 (by decide));clear GG hDD M4;have M5:Hid (Mem w V5 [some (w.heap.size,.cell 25 (.slice pa la pc)),some (w.heap.size+1,.cell 25 (.slice none 0 0)),some (w.heap.size+1+1,.int (((YP ps (i+1):Nat):Int))),some (B1,.int (((Y7 ps (i+1):Nat):Int)))]):=MM;clear MM;go_wp2_with fail
    go_roundw
    case rel=>exact⟨i+1,by omega,by go_num,M5⟩
    case measure=>simp[intOf];omega
  · obtain rfl:i=n:=by omega
    obtain⟨s6,a6,l6,c6,n6,i6⟩:=M3.o.int (i:=2) rfl;obtain⟨Ql,Qo⟩:=n6.cp;obtain⟨s7,a7,l7,c7,n7,i7⟩:=M3.o.int (i:=3) rfl;obtain⟨Qh,Qp⟩:=n7.cp;have H1:=Ja (KM _ _ ((Y7 ps i:Nat):Int) ((YP ps i:Nat):Int) wr i7 i6 (HL.o i) (HG.o i));have Qg:=(M3.o.cell (i:=1) rfl).1;obtain⟨r9,hr9⟩:=ex (Rat.divInt ((Y7 ps i:Nat):Int) ((YP ps i:Nat):Int));rw[hr9]at H1;have Qi:=Ja hr9;clear hr9;by_cases h0:ps=[]
    · have HB:=Ja (show decide (((YP ps i:Nat):Int)≠0)=false by rw[←HN.o,h0];decide);rw[HB.o]at H1;have HE:=Ja (show JL ps=[]by rw[h0];rfl);clear h0 HB;go_wp2_with(go_at_call 28;refine H1.o.mono ?_;clear H1;rintro e w4 ⟨u4,rfl,hu4,hb4⟩;obtain⟨s9,a9,l9,c9,t9,b9,k9,d9,rfl⟩:=Jg.form hu4;have n5:=boxed_below (boxed_below Qg hb4) (Ba w4 (.cells #[.bool s9,.slice a9 l9 c9,.bool t9,.slice b9 k9 d9] 37));have x0:=n5.cell;have x1:=n5.frozen)
      rw[HE.o];exact BB (v:=.agg #[.slice none 0 0]) (by simp[results,Tryz.results137,go_sem,x0]) rfl ⟨_,rfl,RK _,((Bt M3.o.2.2 hb4).alloc (by have:=M3.o.2.2.size;have:=hb4.size;omega) _).setCell (p:=⟨w.heap.size+1,0,none⟩) (by show w.heap.size≤w.heap.size+1;omega) _⟩
    · have HB:=Ja (show decide (((YP ps i:Nat):Int)≠0)=true by
       refine BL ?_;rw[←HN.o];exact Int.natCast_ne_zero.2 (Qm.o h0))
      rw[HB.o]at H1;have HE:=Ja (show r9=(Y7 ps ps.length:Rat)/(YP ps ps.length:Rat)by rw[←Qi.o,CO,Cm,Cm,HN.o]);have HT:=Ja (show DU r9 ps=JL ps by rw[HE.o];rfl);have HS:=Ja (show Sq r9∧∀j,Sq (cf ps j*r9)by rw[HE.o];exact HF.o h0);clear h0 HB;have H2:=Ja (fun(V:World) (hB:Bl w V) (x:Value) (hx:Jg V x r9)=>RL (.agg #[.slice pa la pc]) x ps r9 V (HP.o V hB) hx Qb.o HS.o.1 HS.o.2);rw[HT.o]at H2;go_upto_region 12 with(go_at_call 28;refine H1.o.mono ?_;clear H1;rintro e w4 ⟨u4,rfl,hu4,hb4⟩;obtain⟨s9,a9,l9,c9,t9,b9,k9,d9,rfl⟩:=Jg.form hu4)
      clear Ql Qo Qh Qp;obtain⟨V8,hV⟩:=ex (w4.alloc (.cells #[.bool s9,.slice a9 l9 c9,.bool t9,.slice b9 k9 d9] 37));obtain⟨B8,hBk⟩:=ex (w4.heap.size);have MM:Mem w (w4.alloc (.cells #[.bool s9,.slice a9 l9 c9,.bool t9,.slice b9 k9 d9] 37)) [some (w.heap.size,.cell 25 (.slice pa la pc)),some (w.heap.size+1,.cell 25 (.slice none 0 0)),some (w.heap.size+1+1,.int (((YP ps i:Nat):Int))),some (B1,.int (((Y7 ps i:Nat):Int))),some (w4.heap.size,.rat (r9))]:=Mem.push (M3.o.below hb4) (.rat (r9)) hu4;rw[hV,hBk]at MM;rw[hV];rw[hBk];have M4:Hid (Mem w V8 [some (w.heap.size,.cell 25 (.slice pa la pc)),some (w.heap.size+1,.cell 25 (.slice none 0 0)),some (w.heap.size+1+1,.int (((YP ps i:Nat):Int))),some (B1,.int (((Y7 ps i:Nat):Int))),some (B8,.rat (r9))]):=Ja (MM);clear M3;clear MM hV hBk;obtain⟨s9,a9,l9,c9,t9,b9,k9,d9,n9,r9,i9,j9⟩:=M4.o.rat (i:=4) rfl;obtain⟨e9a,e9b,e9c,e9d⟩:=n9.cq;have c0:=(M4.o.cell (i:=0) rfl).1.cell;have n1:=(M4.o.cell (i:=1) rfl).1;have HQ:=Ja M4.o.2.2;go_wp2_with(go_at_call 181;refine(H2.o _ HQ.o _ r9).mono ?_;clear H2;rintro e w5 ⟨u5,rfl,hu5,hb5⟩;obtain⟨a7,l7,c7,rfl⟩:=hu5.form;have n5:=boxed_below n1 hb5;have x0:=n5.cell;have x1:=n5.frozen;have Qn:=Ja (Le n5 (x:=.slice a7 l7 c7) hu5);have Qk:=Ja ((Bt HQ.o hb5).setCell (p:=⟨w.heap.size+1,0,none⟩) (by show w.heap.size≤w.heap.size+1;omega) (.slice a7 l7 c7));clear hu5 hb5 n5)
      exact BB (v:=.agg #[.slice a7 l7 c7]) (by simp[results,Tryz.results137,go_sem,x0]) rfl ⟨_,rfl,Qn.o,Qk.o⟩
