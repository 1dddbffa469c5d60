import Derived.Test.YtakpoihdghihmaaGreatDoorR44
open Go.Value renaming slice->C,bool->E,pointer->G
open Go.Obj renaming cells->F
set_option maxRecDepth 100000
set_option maxHeartbeats 16000000
namespace Go.Proofs.YtakpoihdghihmaaGreatDoor
section
open Go.RowKit Go.Shelf
attribute [local go_sem] Oper.semAt_some
structure DivS(A la:Nat)(S:Nat->List Rat->List Rat->Prop)(qs:List Rat):Prop where
 next:∀(k:Nat) (R Q:List Rat) (n:Nat) (a:Rat),S k R Q->(∀i,i+qs.length<=R.length->cf Q i=0)->qs.length<=R.length->n=R.length-qs.length->a=cf R (R.length-1)/cf qs (qs.length-1)->
  (∀i,cf (JD R (Js (Jd (FV n [a])) qs)) i=cf R i-(if n<=i then a*cf qs (i-n)else 0))->(∀i,cf (XM Q (Jd (FV n [a]))) i=if i=n then a else cf Q i)->S (k+1) (JD R (Js (Jd (FV n [a])) qs)) (XM Q (Jd (FV n [a])))
 size:∀(k:Nat) (R Q:List Rat),k<=la->S k R Q->DV R/\DV Q/\∃z,z+(2*A+1)<=1000000/\∀i,DT z (cf R i)
end
section
open Go.RowKit Go.Shelf
section
variable {D E l:Int} {K A:Nat} {ps qs:List Rat}
structure Dvn(D E l:Int)(K A:Nat)(ps qs:List Rat):Prop where
 hD:D≠0
 sD:Sm K D
 hp:EC D K ps
 hE:E≠0
 sE:Sm A E
 hq:EC E A qs
 hl:l≠0
 sl:Sm A l
 lead:cf qs (qs.length-1)=Rat.divInt l E
variable{m:Nat}
theorem Dvn.lne(h:Dvn D E l K A ps qs):cf qs (qs.length-1)≠0:=by
 rw[h.lead];intro e;have hE:(E:Rat)≠0:=by exact_mod_cast h.hE
 have a:(l:Rat)/(E:Rat)*(E:Rat)=l:=Ap hE;rw[<-CB,e,A2]at a;exact h.hl (by exact_mod_cast a.symm)
theorem Dvn.den(h:Dvn D E l K A ps qs)(k:Nat):D*l^k≠0/\Sm (K+k*(A+1)+1) (D*l^k):=by
 refine⟨CI h.hD (Int.pow_ne_zero h.hl),(h.sD.mul (h.sl.powZ k)).mono ?_⟩;rw[AN];omega
theorem Dvn.at(h:Dvn D E l K A ps qs)(k:Nat):(∀i,DT (K+k*(A+1)+1) (cf (JF ps qs (qs.length-1) m k).2 i))/\∀i,DT (K+k*(A+1)+1) (cf (JF ps qs (qs.length-1) m k).1 i):=by
 have b:=RP (m:=m) h.hD h.hp h.hE h.sE h.hq h.hl h.sl h.lead h.lne k;have a:=h.den k;exact⟨λi=>((b.1 i).mono Y).smq a.1 a.2,λi=>((b.2 i).mono Y).smq a.1 a.2⟩
theorem Dvn.sizes(h:Dvn D E l K A ps qs)(c:2*(K+m*(A+1)+1)+2*(2*A+1)<=1000000):∀k,k<=m->∃z,z+(2*A+1)<=1000000/\(k<m->2*z+2*(2*A+1)<=1000000)/\(∀i,DT z (cf (JF ps qs (qs.length-1) m k).2 i))/\∀i,DT (z+A) (cf (JF ps qs (qs.length-1) m k).1 i):=by
 intro k a;have b:k*(A+1)<=m*(A+1):=Ak _ a;exact⟨K+k*(A+1)+1,Y,λ_=>by omega,(h.at k).1,λi=>((h.at k).2 i).mono Y⟩
theorem Dvn.rem(h:Dvn D E l K A ps qs)(b:ps.length-(qs.length-1)=m):EC (D*l^m) (K+m*(A+1)) (JM ps qs)/\EC (D*l^m) (K+m*(A+1)) (Jp ps qs):=by
 have a:=RP (m:=m) h.hD h.hp h.hE h.sE h.hq h.hl h.sl h.lead h.lne m;refine⟨λi=>?_,λi=>?_⟩
 . unfold JM;rw[Yf,b];exact a.1 i
 . unfold Jp;rw[Yf,b];exact a.2 i
end
def EN(A:Nat)(p:List Rat):Prop:=∀i,∃z:Int,Sm A z/\cf p i=(z:Rat)
variable{p:List Rat}{A:Nat}
theorem EN.cdl(h:EN A p):EC 1 A p:=λi=>by
 obtain⟨z,a,b⟩:=h i;exact L4 DF a (by rw[b];grind)
theorem EN.mono{A B:Nat}{p:List Rat}(h:EN A p)(c:A<=B):EN B p:=λi=>by
 obtain⟨z,a,b⟩:=h i;exact⟨z,a.mono c,b⟩
theorem EN.ln{A:Nat}{p:List Rat}(h:EN A p):Ln A p:=h.cdl.ln DF
theorem EN.smq{A:Nat}{p:List Rat}(h:EN A p)(a:1<=A)(i:Nat):DT A (cf p i):=(h.cdl i).smq DF (Sm.one A a)
theorem OE(hp:Jd p=p)(d:p≠[])(h:Ln A p):∃E:Int,E≠0/\Sm A E/\EC E A (Jq p):=by
 obtain⟨c,k,b⟩:=h;have hl:=Jt hp d;obtain⟨E,f,a⟩:=b (p.length-1);have hE:E≠0:=λe=>by
  rw[e]at a;exact X2 hl k a
 refine⟨E,hE,f,λi=>?_⟩;obtain⟨z,g,j⟩:=b i;refine L4 hE g ?_;unfold Jq;rw[Yw,<-j,<-a];grind
theorem Ln.sqs(hp:Jd p=p)(h:Ln A p)(hA1:1<=A):∀i,DT A (cf (Jq p) i):=by
 by_cases a:p=[]
 . subst a;intro i;rw[bW,YI];exact DT.zero _ hA1
 . obtain⟨E,b,c,d⟩:=OE hp a h;exact λi=>(d i).smq b c
end
section
variable{p q:List Rat}{c:Rat}
theorem cD(c:Rat):Xw c=c\/Xw c=-c:=by
 unfold Xw;split
 . exact Or.inr rfl
 . exact Or.inl rfl
theorem cF(h:c≠0):Xw c≠0:=by
 rcases cD c with e|e
 . rw[e];exact h
 . rw[e];intro a;exact h (by rw[<-Rat.neg_neg c,a];rfl)
theorem cG(h:c≠0):∀n:Nat,c^n≠0:=by
 intro n;induction n with
 |zero=>rw[Rat.pow_zero];decide
 |succ n a=>rw[Rat.pow_succ];exact X2 a h
def EM(p q:List Rat):Rat:=Xw (cf q (q.length-1))^(p.length+1-q.length)
def YP(p q:List Rat):List Rat:=DP (EM p q) p
def YQ(p q:List Rat):List Rat:=JD [] (JI (JM (YP p q) q))
theorem cH:JI []=[]:=rfl
theorem Yk(p:List Rat):Jd (JI p)=JI p:=JP _ _
theorem GF(hp:Jd p=p):∃c:Rat,0<c/\JI p=DP c p:=by
 by_cases a:p=[]
 . subst a;exact⟨1,DF,rfl⟩
 . exact⟨_,cC hp a,rfl⟩
theorem KH(hp:Jd p=p){K:Nat}(h:Ln K p):EN K (JI p):=by
 by_cases a:p=[]
 . subst a;exact λi=>⟨0,Sm.zero K,by rw[cH,YI];rfl⟩
 . exact Rb hp a h
theorem OG(hq:Jd q=q)(a:q≠[]):EM p q≠0:=cG (cF (Jt hq a)) _
theorem Hz(p q:List Rat):Jd (YQ p q)=YQ p q:=Yi _ _
theorem OH(hq:Jd q=q)(b:q≠[]):∃c:Rat,c≠0/\YQ p q=DP c (JM p q)/\YQ p q=DP (-1) (JI (JM (YP p q) q)):=by
 have a:YQ p q=DP (-1) (JI (JM (YP p q) q)):=Xt (Hz _ _) (JP _ _) λx=>by
  unfold YQ;rw[Xa,JJ];simp[ev];grind
 have f:=(L0 (c:=EM p q) (d:=1) DF p q hq b).2;rw[Ii hq]at f;obtain⟨c,g,j⟩:=GF (Xj (YP p q) q);have i:c≠0:=λe=>by rw[e]at g;exact absurd g DF
 refine⟨EM p q*c*-1,X2 (X2 (OG hq b) i) DF,?_,a⟩;rw[a,j];unfold YP;rw[f,Kq,Kq,Rat.mul_assoc]
theorem Rc(hq:Jd q=q)(a:q≠[]){A:Nat}(h:Ln A (JM p q)):EN A (JI (JM (YP p q) q))/\EN A (YQ p q):=by
 have b:=(L0 (c:=EM p q) (d:=1) DF p q hq a).2;rw[Ii hq]at b;have f:EN A (JI (JM (YP p q) q)):=KH (Xj _ _) (by unfold YP;rw[b];exact h.sc (OG hq a));refine⟨f,λi=>?_⟩;obtain⟨z,g,j⟩:=f i;obtain⟨_,_,_,e⟩:=OH (p:=p) hq a;exact⟨-z,g.neg,by rw[e,Yw,j,Rat.intCast_neg];grind⟩
structure Chn(p q:List Rat)(A:Nat)(a b:List Rat):Prop where
 ta:Jd a=a
 tb:Jd b=b
 wa:EN A a
 wb:EN A b
 gc:Jz a b=Jz p q
 la:a.length<=max p.length q.length
 lb:b.length<=q.length
 nx:b≠[]->Ln A (JM a b)
 eu:Eu (JI p) (JI q) a b
def Da(K:Nat)(p q:List Rat):Nat:=(K+1)*(p.length+q.length+1)
theorem L5(K:Nat)(p q:List Rat):K+1<=Da K p q:=by
 unfold Da;have:(K+1)*1<=(K+1)*(p.length+q.length+1):=Aq _ Y;omega
theorem cI(K:Nat)(p q:List Rat):(K+1)*(p.length+q.length)<=Da K p q:=Aq _ Y
theorem J4(hp:Jd p=p):(JI p).length=p.length:=by
 obtain⟨c,a,e⟩:=GF hp;rw[e];exact Ym (λb=>by rw[b]at a;exact absurd a DF) hp
theorem Re(hp:Jd p=p)(hq:Jd q=q):Jz (JI p) (JI q)=Jz p q:=by
 obtain⟨c,b,e⟩:=GF hp;obtain⟨d,f,g⟩:=GF hq;rw[e,g];exact RV (λa=>by rw[a]at b;exact absurd b DF) (λa=>by rw[a]at f;exact absurd f DF) hp hq
section
variable {K:Nat} {p q a b:List Rat}
theorem Chn.ln_rem(hp:Jd p=p)(hq:Jd q=q)(d:Ln K p)(e:Ln K q)(hl:p.length+q.length<=1000000)(h:Eu (JI p) (JI q) a b)(f:b≠[]):Ln (Da K p q) (JM a b):=by
 have c:=bV (Yk p) (Yk q) (KH hp d).ln (KH hq e).ln (by rw[J4 hp,J4 hq];exact hl) h f;rw[J4 hp,J4 hq]at c;exact c.mono (cI _ _ _)
theorem Chn.start(hp:Jd p=p)(hq:Jd q=q)(a:Ln K p)(b:Ln K q)(hl:p.length+q.length<=1000000):Chn p q (Da K p q) (JI p) (JI q) where
 ta:=Yk p
 tb:=Yk q
 wa:=(KH hp a).mono (by have:=L5 K p q;omega)
 wb:=(KH hq b).mono (by have:=L5 K p q;omega)
 gc:=Re hp hq
 la:=by rw[J4 hp];exact Nat.le_max_left _ _
 lb:=by rw[J4 hq];exact Aa _
 nx:=Chn.ln_rem hp hq a b hl (.base _ _)
 eu:=.base _ _
theorem Chn.next(hp:Jd p=p)(hq:Jd q=q)(i:Ln K p)(j:Ln K q)(hl:p.length+q.length<=1000000)(h:Chn p q (Da K p q) a b)(d:b≠[]):Chn p q (Da K p q) b (YQ a b):=by
 obtain⟨c,g,e,_⟩:=OH (p:=a) h.tb d;have f:Eu (JI p) (JI q) b (YQ a b):=by rw[e];exact h.eu.tail d g
 have l:(YQ a b).length<b.length:=by
  rw[e,Ym g (Xj _ _)];exact(YU a b h.tb d).2.1
 have k:=h.lb;exact⟨h.tb,Hz _ _,h.wb,(Rc h.tb d (h.nx d)).2,by rw[<-f.gcd (Yk p) (Yk q)];exact Re hp hq,Y,Y,Chn.ln_rem hp hq i j hl f,f⟩
end
variable{A:Nat}
theorem Y0{a b:List Rat}(f:Jd b=b)(d:b≠[]):(YQ a b).length<b.length:=by
 obtain⟨c,g,e,_⟩:=OH (p:=a) f d;rw[e,Ym g (Xj _ _)];exact(YU a b f d).2.1
structure Rhn(p q:List Rat)(A:Nat)(a b:List Rat):Prop where
 ta:Jd a=a
 tb:Jd b=b
 ca:∃D:Int,D≠0/\Sm A D/\EC D A a
 cb:∃E:Int,E≠0/\Sm A E/\EC E A b
 mb:b≠[]->cf b (b.length-1)=1
 ma:Jq a=a
 gc:Jz a b=Jz p q
 la:a.length<=max p.length q.length
 lb:b.length<=q.length
 nx:b≠[]->Ln A (JM a b)
 eu:Eu (Jq p) (Jq q) a b
theorem Rf(a:1<=A):∃D:Int,D≠0/\Sm A D/\EC D A []:=⟨1,DF,Sm.one A a,λi=>by rw[YI];exact CD.zero _ _⟩
theorem L6{p:List Rat}(hp:Jd p=p)(h:Ln A p)(b:1<=A):∃E:Int,E≠0/\Sm A E/\EC E A (Jq p):=by
 by_cases a:p=[]
 . subst a;exact Rf b
 . exact OE hp a h
section
variable {K:Nat} {p q a b:List Rat}
end
end
section
open Go.RowKit Go.Shelf
theorem Rg(q:Rat):Ev q 0<0↔q<0:=by
 rw[Rat.lt_iff];unfold Ev EA;split<;>(try split)<;>omega
theorem cJ(a b:Nat):(a:Int)*((b:Int)/((Int.gcd a b:Nat):Int))=((Nat.lcm a b:Nat):Int):=by
 show(a:Int)*((b:Int)/((Nat.gcd a b:Nat):Int))=_;rw[<-Fi,<-FO];congr 1;rw[Nat.lcm,Nat.mul_div_assoc _ (CV a b)]
theorem KI(ps:List Rat)(i:Nat):(if((i:Nat):Int)<0 then(0:Rat)else cf ps ((i:Nat):Int).toNat)=cf ps i:=by
 rw[BB Y,CT]
theorem Rh(A:Nat)(b c:Value)(ps qs:List Rat)(w:World)(g:Je w b ps)(j:Je w c qs)(l:DV ps)(hq:∀i,DT A (cf qs i))(m:Jd ps=ps)(n:Jd qs=qs)(a:qs≠[])
(f:∀k,k<=ps.length-(qs.length-1)->∃z,z+(2*A+1)<=1000000/\(k<ps.length-(qs.length-1)->2*z+2*(2*A+1)<=1000000)/\(∀i,DT z (cf (JF ps qs (qs.length-1) (ps.length-(qs.length-1)) k).2 i))/\∀i,DT (z+A) (cf (JF ps qs (qs.length-1) (ps.length-(qs.length-1)) k).1 i)):
 Calls Tryz.prog 139 #[b,c] w λe d=>∃u v,e=.returned (.tuple #[u,v,E true])/\Je d u (Jp ps qs)/\Je d v (JM ps qs)/\Bl w d:=by
 have h:=M3.RM A b c ps qs w g j l hq m n λ_=>f;rw[BJ a,BB a,BB a]at h;exact h
end
namespace M3
open Go.RowKit Go.Shelf
variable{S:List Rat}{B c i l n:Nat}{a:Option Addr}{v:Value}{V:World}
theorem Ri(n:Nat)(h:n<=2199023255552)(w:World):(Instr.makeSlice 22 (.int .i64 (n:Int)) (.int .i64 (n:Int))).run Tryz.prog w=.ok (C (some ⟨w.heap.size,0,none⟩) n n) (w.alloc (F (Yb n) 37)):=by
 obtain⟨i,d,b⟩:=Option.map_eq_some_iff.1 Tryz.infoRat;simp only[Prod.mk.injEq]at b;obtain⟨f,e,c⟩:=b;have a:=run_make (P:=Tryz.prog) w 22 37 i _ Tryz.underlying22 d f .i64 .i64 n n Y (Int.le_refl _) (by rw[c];omega) Y;simp only[CT,e]at a;exact a
theorem H7(V:World):Has V (.agg #[C Option.none 0 0]) (.poly []):=⟨_,rfl,row_zero V Option.none⟩
theorem Rj(V:World):Je V (.agg #[C Option.none 0 0]) []:=⟨_,rfl,row_zero V Option.none⟩
theorem Mem.poly2{w:World}{bs:List (Option (Nat × Dat))}(M:Mem w V bs){ps:List Rat}(h:bs[i]?=some (some (B,.poly ps))):∃a l c,Boxed V B 25 (C a l c)/\Je V (.agg #[C a l c]) ps:=by
 obtain⟨a,l,c,b,d⟩:=M.poly h;exact⟨a,l,c,b,_,rfl,d⟩
theorem Ku{W:World}(b:Boxed W B 25 (C a l c)){x:Value}{qs:List Rat}(h:Je W v qs):Je (W.setCell ⟨B,0,Option.none⟩ x) v qs:=by
 obtain⟨u,e,h⟩:=h;exact⟨u,e,Ei b x h⟩
theorem Has.set1{d:Dat}(h:Has V v d)(q:Boxed V B 25 (C a l c))(e:JN (C a l c)=true)(b:Value):Has (V.setCell ⟨B,0,Option.none⟩ b) v d:=
 h.keep (P7 q e b) (Or.inr λ_ _ g=>Ei q b g)
theorem Tup2.set1{V:World}{v:Value}{d1 d:Dat}(h:Tup2 V v d1 d){B:Nat}{a:Option Addr}{l c:Nat}(q:Boxed V B 25 (C a l c))(f:JN (C a l c)=true)(b:Value):Tup2 (V.setCell ⟨B,0,Option.none⟩ b) v d1 d:=by
 obtain⟨u1,u2,e,g,i⟩:=h;exact⟨u1,u2,e,g.set1 q f b,i.set1 q f b⟩
attribute [local go_sem] Oper.semAt_some
theorem cK(va:Value)(q:Rat)(w:World)(L:Jh w va q)(X:Sq q):
 Calls Tryz.prog 206 #[va] w λe w'=>∃u,e=.returned u/\Jh w' u (Xw q)/\Bl w w':=by
 obtain⟨af,R,ae,T,ah,S,ad,U,rfl⟩:=Jh.form L;have g:=(((Mem.nil w).push (.rat q) L).push (.rat 0) (X0 _));simp only[Ax]at g;have g:Mem w ((w.alloc (F #[E af,C R ae T,E ah,C S ad U] 37)).alloc (F #[E false,C none 0 0,E false,C none 0 0] 37)) [some (w.heap.size,.rat q),some (w.heap.size+1,.rat 0)]:=g;obtain⟨W0,K⟩:=ex ((w.alloc (F #[E af,C R ae T,E ah,C S ad U] 37)).alloc (F #[E false,C none 0 0,E false,C none 0 0] 37));have Q:=Ja K;rw[K]at g;have j:Hid (Mem w W0 [some (w.heap.size,.rat q),some (w.heap.size+1,.rat 0)]):=Ja g;have P:=Ja X;clear g K L X;go_enter Tryz.func206,Tryz.ntmps206
 go_upto_region 1 with fail
 rw[Q.o];clear Q;obtain⟨s1,a1,l1,c1,t1,b1,k1,d1,z,r1,i1,j1⟩:=j.o.rat (i:=0) rfl;obtain⟨t,k,o,s⟩:=z.cq;obtain⟨s2,a2,l2,c2,t2,b2,k2,d2,a,r2,i2,j2⟩:=j.o.rat (i:=1) rfl;obtain⟨b,c,f,d⟩:=a.cq;obtain⟨m,l,r,p⟩:=a.fq;obtain⟨x,A,HR⟩:=Df (Lb _ _ q 0 W0 r1 (X0 _) P.o Hr) (λ(V:World) (h:Bl W0 V)=>Kg _ _ 0 q V (X0 _) (r1.below h) Hr P.o) r1;obtain⟨n,M⟩:=ex (Ev q 0);rw[M]at x;have N:=Ja M;clear M r1 i1 j1;by_cases W:n<0
 . have B:=Ja (show 0-q=Xw q by
    have I:=(Rg q).1 (by rw[N.o];exact W);unfold Xw;rw[BC I];grind)
   rw[B.o]at A;go_wp2_with(first
    |(go_at_call 27;refine x.o.mono ?_;clear x;rintro e w1 ⟨rfl,hq⟩;clear t k o s;obtain⟨t,k,o,s⟩:=(z.below hq).cq;clear b c f d;obtain⟨b,c,f,d⟩:=(a.below hq).cq;clear m l r p;obtain⟨m,l,r,p⟩:=(a.below hq).fq)
    |(go_at_call 26;refine(A.o _ hq).mono ?_;clear A;rintro e w2 ⟨u2,rfl,y,an⟩;obtain⟨aw,ai,aq,ak,ax,aj,ap,am,rfl⟩:=Jh.form y;have hq:=Bt hq an;clear t k o s;obtain⟨t,k,o,s⟩:=(z.below hq).cq;clear b c f d;obtain⟨b,c,f,d⟩:=(a.below hq).cq;clear m l r p;obtain⟨m,l,r,p⟩:=(a.below hq).fq))
   have H:=Bt j.o.2.2 hq;have D:=j.o.ge 1 rfl;exact BA (v:=.agg #[E aw,C ai aq ak,E ax,C aj ap am]) (by simp[results,Tryz.results206,go_sem,b,c,f,d]) rfl ⟨_,rfl,y.put4 (a.below hq) rfl rfl rfl rfl _ _ _ _,JB H D _ _ _ _⟩
 . have B:=Ja (show Xw q=q by
    have I:¬q<0:=λh=>W (by rw[<-N.o];exact(Rg q).2 h);unfold Xw;rw[BB I])
   go_wp2_with(go_at_call 27;refine x.o.mono ?_;clear x;rintro e w1 ⟨rfl,hq⟩;clear t k o s;obtain⟨t,k,o,s⟩:=(z.below hq).cq;clear b c f d;obtain⟨b,c,f,d⟩:=(a.below hq).cq;clear m l r p;obtain⟨m,l,r,p⟩:=(a.below hq).fq)
   have y:=HR.o.below hq;rw[<-B.o]at y;have H:=Bt j.o.2.2 hq;have D:=j.o.ge 1 rfl;exact BA (v:=.agg #[E s1,C a1 l1 c1,E t1,C b1 k1 d1]) (by simp[results,Tryz.results206,go_sem,b,c,f,d]) rfl ⟨_,rfl,y.put4 (a.below hq) rfl rfl rfl rfl _ _ _ _,JB H D _ _ _ _⟩
theorem cL(va vb:Value)(x y:Nat)(w:World)(ha:Jk w va (x:Int))(hb:Jk w vb (y:Int))(hx:0<x)(az:DQ (x:Int))(ba:DQ (y:Int)):
 Calls Tryz.prog 180 #[va,vb] w λe w'=>∃u,e=.returned u/\Jk w' u ((Nat.lcm x y:Nat):Int)/\Bl w w':=by
 have Qj:Tryz.prog.follows .mixedOrders=true:=by kernel_rfl
 have HG:=Ja (show((Int.gcd x y:Nat):Int)≠0 by have:=Nat.gcd_pos_of_pos_left y hx;exact Int.natCast_ne_zero.2 (by show Nat.gcd x y≠0;omega));obtain⟨aw,af,ap,aj,rfl⟩:=Jk.form2 ha;obtain⟨ax,ah,aq,ak,rfl⟩:=Jk.form2 hb;have M:=((((Mem.nil w).push (.int ((x:Int))) ha).push (.int ((y:Int))) (Has.alloc (d:=.int ((y:Int))) hb _)).push (.int 0) (XZ _));simp only[Ax]at M;have M:Mem w (((w.alloc (F #[E aw,C af ap aj] 35)).alloc (F #[E ax,C ah aq ak] 35)).alloc (F #[E false,C none 0 0] 35)) [some (w.heap.size,.int ((x:Int))),some (w.heap.size+1,.int ((y:Int))),some (w.heap.size+1+1,.int 0)]:=M;obtain⟨W0,am⟩:=ex (((w.alloc (F #[E aw,C af ap aj] 35)).alloc (F #[E ax,C ah aq ak] 35)).alloc (F #[E false,C none 0 0] 35));have Qg:=Ja am;rw[am]at M;have M1:Hid (Mem w W0 [some (w.heap.size,.int ((x:Int))),some (w.heap.size+1,.int ((y:Int))),some (w.heap.size+1+1,.int 0)]):=Ja M;have Qc:=Ja az;have Qa:=Ja ba;clear M am ha hb az ba;go_enter Tryz.func180,Tryz.ntmps180
 go_upto_region 1 with fail
 rw[Qg.o];clear Qg;clear hx;refine Jm Qj [[],[],[],[1,2],[0,3,3],[4],[5],[5],[5],[],[],[9,6,4,0,1,2,3,4,5,6,9,10],[10,7,11,0,1,2,3,4,5,6,7,9,10,11],[8,12,0,1,2,3,4,5,6,7,8,9,10,11,12]] (by kernel_rfl) DF
  (λD ai V=>∃(tn ta tb tc td tm te tg ti W X tl:Value) (Q P:Option (Nat × Dat)),ai={ tmps:=#[.agg #[E aw,C af ap aj],.agg #[E ax,C ah aq ak],G (some ⟨w.heap.size,0,none⟩),G (some ⟨w.heap.size+1,0,none⟩),G (some ⟨w.heap.size+1+1,0,none⟩),W,X,tl,tm,tn,ta,tb,tc,td,te,tg,ti,undef,undef,undef],defers:=[] }/\Hid ((D 0=true->Has V tn (.int ((y:Int))))/\(D 1=true->Has V ta (.int ((x:Int))))/\(D 2=true->Has V tb (.int ((y:Int))))/\(D 3=true->Has V tc (.int (((Int.gcd x y:Nat):Int))))/\(D 4=true->Tup2 V td (.int ((y:Int)/((Int.gcd x y:Nat):Int))) (.int ((y:Int)%((Int.gcd x y:Nat):Int))))/\(D 5=true->Tup2 V tm (.int ((y:Int)/((Int.gcd x y:Nat):Int))) (.int ((y:Int)%((Int.gcd x y:Nat):Int))))/\(D 6=true->Has V te (.int ((y:Int)/((Int.gcd x y:Nat):Int))))/\(D 7=true->Has V tg (.int ((y:Int)%((Int.gcd x y:Nat):Int))))/\(D 8=true->ti=E true)/\((D 9=false->Q=none)/\(D 9=true->D 11=false->∃B:Nat,W=G (some ⟨B,0,none⟩)/\Q=some (B,.int 0))/\(D 11=true->∃B:Nat,W=G (some ⟨B,0,none⟩)/\Q=some (B,.int ((y:Int)/((Int.gcd x y:Nat):Int)))))/\((D 10=false->P=none)/\(D 10=true->D 12=false->∃B:Nat,X=G (some ⟨B,0,none⟩)/\P=some (B,.int 0))/\(D 12=true->∃B:Nat,X=G (some ⟨B,0,none⟩)/\P=some (B,.int ((y:Int)%((Int.gcd x y:Nat):Int)))))/\(D 13=true->tl=E true))/\Hid (Mem w V [some (w.heap.size,.int ((x:Int))),some (w.heap.size+1,.int ((y:Int))),some (w.heap.size+1+1,.int 0),Q,P]))
  ⟨_,_,_,_,_,_,_,_,_,_,_,_,none,none,rfl,Ja ⟨O,O,O,O,O,O,O,O,O,O,O,O⟩,Ja (((M1.o).none).none).drew⟩ ?step1 ?fin1
 case step1=>
  rintro D ai V i ds ay hi f N ⟨tn,ta,tb,tc,td,tm,te,tg,ti,W,X,tl,Q,P,rfl,b,g⟩;have bt:i<14:=(Ac.1 hi).1;obtain rfl|rfl|rfl|rfl|rfl|rfl|rfl|rfl|rfl|rfl|rfl|rfl|rfl|rfl:=GK i Y
  all_goals
   simp only[Af,Ae,Ai]at hi;subst hi
  . clear f;obtain⟨s,a,l,c,n,i⟩:=g.o.int (i:=1) rfl;obtain⟨e0,e1⟩:=n.cp;refine Za ?_;exact⟨_,_,_,_,_,_,_,_,_,_,_,_,_,_,rfl,(Dc b λ_=>i),Ja (g.o)⟩
  . clear f;obtain⟨s,a,l,c,n,i⟩:=g.o.int (i:=0) rfl;obtain⟨e0,e1⟩:=n.cp;refine Za ?_;exact⟨_,_,_,_,_,_,_,_,_,_,_,_,_,_,rfl,(Di b λ_=>i),Ja (g.o)⟩
  . clear f;obtain⟨s,a,l,c,n,i⟩:=g.o.int (i:=1) rfl;obtain⟨e0,e1⟩:=n.cp;refine Za ?_;exact⟨_,_,_,_,_,_,_,_,_,_,_,_,_,_,rfl,(Db b λ_=>i),Ja (g.o)⟩
  . have L:=(b.o.2.1 (f 1 O));have A:=(b.o.2.2.1 (f 2 O));have HC:=Ja (Ie _ _ (x:Int) (y:Int) V L A (by have:=Qc.o.words;omega) (by have:=Qa.o.words;omega));clear f L A;refine Jc rfl rfl λK hK=>?_;go_simp;go_wp2_with(go_at_call 84;refine HC.o.mono ?_;rintro e w5 ⟨v5,rfl,an,j⟩)
    obtain⟨k,m,o,_,I,q,r,t,z⟩:=b.o;exact⟨_,_,_,_,_,_,_,_,_,_,_,_,_,_,rfl,Ja ⟨λh=>(k h).below j,λh=>(m h).below j,λh=>(o h).below j,λ_=>an,λh=>(I h).below j,λh=>(q h).below j,λh=>(r h).below j,λh=>(t h).below j,z⟩,Ja (g.o.below j)⟩
  . have L:=(b.o.1 (f 0 O));have A:=(b.o.2.2.2.1 (f 3 O));have HC:=Ja (QA _ _ (y:Int) ((Int.gcd x y:Nat):Int) V L A HG.o (by have:=Qa.o.words;omega) (by have:=(Qc.o.gcd Qa.o).words;omega));clear f L A;refine Jc rfl rfl λK hK=>?_;go_simp;go_wp2_with(go_at_call 135;refine HC.o.mono ?_;rintro e w5 ⟨v5,v6,rfl,an,bh,j⟩)
    obtain⟨k,m,o,H,_,q,r,t,z⟩:=b.o;exact⟨_,_,_,_,_,_,_,_,_,_,_,_,_,_,rfl,Ja ⟨λh=>(k h).below j,λh=>(m h).below j,λh=>(o h).below j,λh=>(H h).below j,λ_=>⟨v5,v6,rfl,an,bh⟩,λh=>(q h).below j,λh=>(r h).below j,λh=>(t h).below j,z⟩,Ja (g.o.below j)⟩
  . have L:=(b.o.2.2.2.2.1 (f 4 O));clear f;refine Za ?_;exact⟨_,_,_,_,_,_,_,_,_,_,_,_,_,_,rfl,(Dp b λ_=>L),Ja (g.o)⟩
  . obtain⟨y1,y2,rfl,A,h2⟩:=((Dq b) (f 5 O));clear f;refine Za ?_;exact⟨_,_,_,_,_,_,_,_,_,_,_,_,_,_,rfl,(Ds b λ_=>A),Ja (g.o)⟩
  . obtain⟨y1,y2,rfl,A,h2⟩:=((Dq b) (f 5 O));clear f;refine Za ?_;exact⟨_,_,_,_,_,_,_,_,_,_,_,_,_,_,rfl,(D5 b λ_=>h2),Ja (g.o)⟩
  . obtain⟨y1,y2,rfl,A,h2⟩:=((Dq b) (f 5 O));clear f;refine Za ?_;exact⟨_,_,_,_,_,_,_,_,_,_,_,_,_,_,rfl,(EJ b),Ja (g.o)⟩
  . have hf:D 11=false:=DG ay N;obtain rfl:=b.o.2.2.2.2.2.2.2.2.2.1.1 N;clear f;refine Za ?_;obtain⟨k,m,o,H,I,q,r,t,z,_,ad⟩:=b.o;exact⟨_,_,_,_,_,_,_,_,_,_,_,_,_,_,rfl,Ja ⟨λh=>(k h).alloc _,λh=>(m h).alloc _,λh=>(o h).alloc _,λh=>(H h).alloc _,λh=>(I h).alloc _,λh=>(q h).alloc _,λh=>(r h).alloc _,λh=>(t h).alloc _,z,⟨λh=>by simp at h,λ_ _=>⟨_,rfl,rfl⟩,λh=>by simp[hf]at h⟩,ad⟩,Ja (g.o.fill (i:=3) rfl (.int 0) (XZ _))⟩
  . have hf:D 12=false:=DG ay N;obtain rfl:=b.o.2.2.2.2.2.2.2.2.2.2.1.1 N;clear f;refine Za ?_;obtain⟨k,m,o,H,I,q,r,t,z,G9,_,ae⟩:=b.o;exact⟨_,_,_,_,_,_,_,_,_,_,_,_,_,_,rfl,Ja ⟨λh=>(k h).alloc _,λh=>(m h).alloc _,λh=>(o h).alloc _,λh=>(H h).alloc _,λh=>(I h).alloc _,λh=>(q h).alloc _,λh=>(r h).alloc _,λh=>(t h).alloc _,z,G9,⟨λh=>by simp at h,λ_ _=>⟨_,rfl,rfl⟩,λh=>by simp[hf]at h⟩,ae⟩,Ja (g.o.fill (i:=4) rfl (.int 0) (XZ _))⟩
  . obtain⟨B,rfl,rfl⟩:=b.o.2.2.2.2.2.2.2.2.2.1.2.1 (f 9 O) N;have Qb:=f 9 O;have T:=((D6 b) (f 6 O));obtain⟨s1,a1,l1,c1,rfl⟩:=Jk.form2 (show Jk V _ _ from T);obtain⟨s,a,l,c,n,i⟩:=g.o.int (i:=3) rfl;have e0:=n.c0;have f0:=n.f0;have e1:=n.c1;have f1:=n.f1;clear f;refine Za ?_;obtain⟨k,m,o,H,I,q,r,t,z,_,ad⟩:=b.o;exact⟨_,_,_,_,_,_,_,_,_,_,_,_,_,_,rfl,Ja ⟨λh=>(k h).set2 n rfl rfl _ _,λh=>(m h).set2 n rfl rfl _ _,λh=>(o h).set2 n rfl rfl _ _,λh=>(H h).set2 n rfl rfl _ _,λh=>(I h).set2 n rfl rfl _ _,λh=>(q h).set2 n rfl rfl _ _,λh=>(r h).set2 n rfl rfl _ _,λh=>(t h).set2 n rfl rfl _ _,z,⟨λh=>by simp[Qb]at h,λ_ h=>by simp at h,λ_=>⟨B,rfl,rfl⟩⟩,ad⟩,Ja (g.o.putInt (i:=3) rfl T)⟩
  . obtain⟨B,rfl,rfl⟩:=b.o.2.2.2.2.2.2.2.2.2.2.1.2.1 (f 10 O) N;have Qb:=f 10 O;have T:=((EQ b) (f 7 O));obtain⟨s1,a1,l1,c1,rfl⟩:=Jk.form2 (show Jk V _ _ from T);obtain⟨s,a,l,c,n,i⟩:=g.o.int (i:=4) rfl;have e0:=n.c0;have f0:=n.f0;have e1:=n.c1;have f1:=n.f1;clear f;refine Za ?_;obtain⟨k,m,o,H,I,q,r,t,z,G9,_,ae⟩:=b.o;exact⟨_,_,_,_,_,_,_,_,_,_,_,_,_,_,rfl,Ja ⟨λh=>(k h).set2 n rfl rfl _ _,λh=>(m h).set2 n rfl rfl _ _,λh=>(o h).set2 n rfl rfl _ _,λh=>(H h).set2 n rfl rfl _ _,λh=>(I h).set2 n rfl rfl _ _,λh=>(q h).set2 n rfl rfl _ _,λh=>(r h).set2 n rfl rfl _ _,λh=>(t h).set2 n rfl rfl _ _,z,G9,⟨λh=>by simp[Qb]at h,λ_ h=>by simp at h,λ_=>⟨B,rfl,rfl⟩⟩,ae⟩,Ja (g.o.putInt (i:=4) rfl T)⟩
  . obtain rfl:=((Ea b) (f 8 O));clear f;refine Za ?_;exact⟨_,_,_,_,_,_,_,_,_,_,_,_,_,_,rfl,(IR (EJ b)),Ja (g.o)⟩
 rintro D ai V2 S ⟨tn,ta,tb,tc,td,tm,te,tg,ti,W,X,tl,Q,P,rfl,b,g⟩;obtain⟨B3,rfl,rfl⟩:=b.o.2.2.2.2.2.2.2.2.2.1.2.2 (S 11 DF);obtain⟨B4,rfl,rfl⟩:=b.o.2.2.2.2.2.2.2.2.2.2.1.2.2 (S 12 DF);obtain rfl:=Ea b (S 8 DF);obtain rfl:=b.o.2.2.2.2.2.2.2.2.2.2.2 (S 13 DF);clear b S M1;have R:Hid (Mem w V2 [some (w.heap.size,.int ((x:Int))),some (w.heap.size+1,.int ((y:Int))),some (w.heap.size+1+1,.int 0),some (B3,.int ((y:Int)/((Int.gcd x y:Nat):Int))),some (B4,.int ((y:Int)%((Int.gcd x y:Nat):Int)))]):=g;clear g;obtain⟨s5,a5,l5,c5,n5,i5⟩:=R.o.int (i:=0) rfl;obtain⟨bk,bl⟩:=n5.cp;obtain⟨s6,a6,l6,c6,n6,i6⟩:=R.o.int (i:=3) rfl;obtain⟨bm,bn⟩:=n6.cp;obtain⟨s7,a7,l7,c7,U,i7⟩:=R.o.int (i:=2) rfl;obtain⟨Qe,Qd⟩:=U.cp;obtain⟨Qi,Qh⟩:=U.fp;have H1:=Ja (Xh _ _ (x:Int) ((y:Int)/((Int.gcd x y:Nat):Int)) V2 i5 i6 (by have A:=Qc.o.words;have h2:=(Qa.o.div (y:=((Int.gcd x y:Nat):Int))).words;omega));rw[cJ]at H1;go_wp2_with(go_at_call 69;refine H1.o.mono ?_;clear H1;rintro e w2 ⟨u2,rfl,bc,hq⟩;obtain⟨bj,bf,bi,bg,rfl⟩:=Jk.form2 bc;clear Qe Qd;obtain⟨Qe,Qd⟩:=(U.below hq).cp;clear Qi Qh;obtain⟨Qi,Qh⟩:=(U.below hq).fp)
 have Qk:=Bt R.o.2.2 hq;have Qf:=R.o.ge 2 rfl;exact BA (v:=.agg #[E bj,C bf bi bg]) (by simp[results,Tryz.results180,go_sem,Qe,Qd]) rfl ⟨_,rfl,bc.box (U.below hq) rfl rfl,(Qk.setCell (p:=⟨_,0,none⟩) Qf _).setCell (p:=⟨_,1,none⟩) Qf _⟩
def Ij(F:Nat->Rat)(n i:Nat)(S:List Rat):Prop:=S.length=n/\∀j,cf S j=if j<i then F j else 0
theorem Ij.next{F:Nat->Rat}(h:Ij F n i S)(b:i<n):Ij F n (i+1) (S.set i (F i)):=by
 refine⟨by rw[CJ];exact h.1,λj=>?_⟩;rw[XV _ _ _ _ (by rw[h.1];exact b),h.2 j];by_cases e:j=i
 . rw[BC e,BC Y,e]
 . rw[BB e];by_cases a:j<i
   . rw[BC a,BC Y]
   . rw[BB a,BB Y]
theorem Ij.done{F:Nat->Rat}{T:List Rat}(h:Ij F n n S)(b:Jd T=T)(hF:∀j,j<n->cf T j=F j)(a:∀j,n<=j->cf T j=0):Jd S=T:=by
 rw[<-b];refine IF λj=>?_;rw[h.2 j];split
 . exact(hF j (by assumption)).symm
 . exact(a j Y).symm
theorem Rk(v vf:Value)(ps:List Rat)(f:Rat)(w:World)(h:Je w v ps)(hf:Jh w vf f)(aq:DV ps)(aw:Sq f)(ax:∀i,Sq (cf ps i*f)):
 Calls Tryz.prog 181 #[v,vf] w λe w'=>∃u,e=.returned u/\Je w' u (DP f ps)/\Bl w w':=by
 have Qq:Tryz.prog.follows .mixedOrders=true:=by kernel_rfl
 obtain⟨x,la,y,rfl⟩:=h.form;obtain⟨s,a,l,c,t,b,k,d,rfl⟩:=Jh.form hf;obtain⟨ba,ay,az,bc,_⟩:=h.row.forms;have M0:=((((Mem.nil w).push (.cell 25 (C x la y)) (cs:=#[C x la y]) ⟨rfl,rfl⟩).push (.rat f) (cs:=#[E s,C a l c,E t,C b k d]) (Has.alloc (d:=.rat f) hf _)).push (.cell 25 (C none 0 0)) (cs:=#[C none 0 0]) ⟨rfl,rfl⟩);simp only[Ax]at M0;obtain⟨V0,ae⟩:=ex (((w.alloc (F #[C x la y] 25)).alloc (F #[E s,C a l c,E t,C b k d] 37)).alloc (F #[C none 0 0] 25));have M1:Mem w V0 [some (w.heap.size,.cell 25 (C x la y)),some (w.heap.size+1,.rat f),some (w.heap.size+1+1,.cell 25 (C none 0 0))]:=by rw[<-ae];exact M0
 have Qh:=Ja M1;obtain⟨n,hn⟩:=ex (ps.length:Nat);obtain⟨L,an⟩:=ex ((n:Int)-1:Int);have Qg:=Ja (JX (.agg #[C x la y]) ps V0 (h.below M1.2.2));rw[hn,an]at Qg;have bf:L+1=(n:Int):=Y
 have bg:IntKind.i64.wrap (n:Int)=(n:Int):=by rw[BO];omega
 have Qr:∀W:World,(Instr.makeSlice 22 (.int .i64 (n:Int)) (.int .i64 (n:Int))).run Tryz.prog W=.ok (C (some ⟨W.heap.size,0,none⟩) n n) (W.alloc (F (Yb n) 37)):=λW=>Ri n Y W;obtain⟨HP,Ql,Qm,HN⟩:=Dt (λ(V:World) (hB:Bl w V)=>h.below hB) aq ax (show ps.length=n from hn);have Qd:n<=1099511627776:=Y
 have Qj:=Ja ae;have Qo:=Ja aw;clear h aq ax ba ay az hn an M0 M1 ae bc hf aw;go_enter Tryz.func181,Tryz.ntmps181
 go_upto_region 1 with fail
 rw[Qj.o];have c0:=(Qh.o.cell (i:=0) rfl).1.cell;go_upto_region 2 with(go_at_call 30;refine Qg.o.mono ?_;clear Qg;rintro e w1 ⟨rfl,am⟩)
 have Qe:Mem w (w1.alloc (F (Yb n) 37)) [some (w.heap.size,.cell 25 (C x la y)),some (w.heap.size+1,.rat f),some (w.heap.size+1+1,.cell 25 (C none 0 0)),some (w1.heap.size,.rats (List.replicate n 0))]:=(Qh.o.below am).push (.rats (List.replicate n 0)) (Ko _ n);obtain⟨V1,af⟩:=ex (w1.alloc (F (Yb n) 37));obtain⟨A,ah⟩:=ex (w1.heap.size);rw[af,ah]at Qe;rw[af,ah];have Qi:=Ja Qe;clear Qe af ah am c0 Qh Qj Qr;go_wp2;go_loopw [13] (λiv wr=>∃(i:Nat) (S:List Rat),i<=n/\iv=.int .i64 (i:Int)/\Hid (Ij (λj=>cf ps j*f) n i S)/\Hid (Mem w wr [some (w.heap.size,.cell 25 (C x la y)),some (w.heap.size+1,.rat f),some (w.heap.size+1+1,.cell 25 (C none 0 0)),some (A,.rats S)])) λiv _=>n-(intOf iv).toNat
 case atStart=>exact⟨0,_,AO _,rfl,Ja ⟨AA,λj=>by rw[J0,BB Y]⟩,Qi⟩
 case round=>
  obtain⟨i,S,R,rfl,H,P⟩:=hrel;clear Qi;by_cases ap:i<n
  . have bi:(i:Int)<(n:Int):=Y
    have Qk:=Ja (show i<S.length by rw[H.o.1];exact ap);go_wp2_with fail
    have Qn:=P.o.drew;refine Jm Qq [[],[],[],[],[2,3],[],[4,5,4],[0,1,0,1,2,3,4,5,6],[7,6,6,0,1,2,3,4,5,6]] (by kernel_rfl) DF
     (λD ad V=>∃(ta tb X td te tg ti tj:Value),ad={ tmps:=#[.agg #[C x la y],.agg #[E s,C a l c,E t,C b k d],G (some ⟨w.heap.size,0,none⟩),G (some ⟨w.heap.size+1,0,none⟩),G (some ⟨w.heap.size+1+1,0,none⟩),C (some ⟨A,0,none⟩) n n,.int .i64 ↑i,.agg #[C x la y],.int .i64 L,.int .i64 ↑n,C (some ⟨A,0,none⟩) n n,C (some ⟨A,0,none⟩) n n,.int .i64 ↑n,.int .i64 ↑i,E true,.int .i64 ↑i,ta,tb,X,td,te,tg,ti,tj,u24,undef,undef],defers:=[] }/\Hid ((D 0=true->ta=C (some ⟨A,0,none⟩) n n)/\(D 1=true->tb=.int .i64 (i:Int))/\(D 2=true->X=.agg #[C x la y])/\(D 3=true->td=.int .i64 (i:Int))/\(D 4=true->D 8=false->Jh V te (cf ps i))/\(D 5=true->D 8=false->Jh V tg f)/\(D 6=true->D 8=false->Jh V ti (cf ps i*f))/\(D 7=true->tj=G (some ⟨A,i*4,none⟩)))/\Hid ((D 8=false->Mem w V [some (w.heap.size,.cell 25 (C x la y)),some (w.heap.size+1,.rat f),some (w.heap.size+1+1,.cell 25 (C none 0 0)),some (A,.rats S)])/\(D 8=true->Mem w V [some (w.heap.size,.cell 25 (C x la y)),some (w.heap.size+1,.rat f),some (w.heap.size+1+1,.cell 25 (C none 0 0)),some (A,.rats (S.set i (cf ps i*f)))])))
     (E8 ⟨rfl,Ja O,Ja ⟨λ_=>Qn,O⟩⟩) ?step1 ?fin1
    case step1=>
     rintro D ad V i ds Q R o I ⟨ta,tb,X,td,te,tg,ti,tj,rfl,g,m⟩;have bh:i<9:=(Ac.1 R).1;obtain rfl|rfl|rfl|rfl|rfl|rfl|rfl|rfl|rfl:=So i Y
     all_goals
      simp only[Af,Ae,Ai]at R;subst R
     . clear o;refine DL ?_;exact⟨(Dc g),m⟩
     . clear o;refine DL ?_;exact⟨(Di g),m⟩
     . have z:=m.o.1 (DG Q I);have L:=(z.cell (i:=0) rfl).1.cell;clear o;refine DL ?_;exact⟨(Db g),m⟩
     . clear o;refine DL ?_;exact⟨(De g),m⟩
     . have z:=m.o.1 (DG Q I);obtain rfl:=g.o.2.2.1 (o 2 O);obtain rfl:=g.o.2.2.2.1 (o 3 O);clear o;have N:=Ja (Hu _ ps (i:Int) V (HP.o V z.2.2));rw[KI]at N;refine Jc rfl rfl λK hK=>?_;go_simp;go_wp2_with(go_at_call 74;refine N.o.mono ?_;rintro e w5 ⟨v5,rfl,aj,q⟩)
       obtain⟨G0,G1,_,_,_,G5,G6,G7⟩:=g.o;exact E8 ⟨rfl,Ja ⟨G0,G1,λ_=>rfl,λ_=>rfl,λ_ _=>aj,λh B=>(G5 h B).below q,λh B=>(G6 h B).below q,G7⟩,Ja ⟨λh=>(m.o.1 h).below q,λh=>(m.o.2 h).below q⟩⟩
     . have z:=m.o.1 (DG Q I);obtain⟨x1,x2,x3,x4,x5,x6,x7,x8,n,r,_,_⟩:=z.rat (i:=1) rfl;obtain⟨L,e1,e2,e3⟩:=n.cq;clear o;refine DL ?_;exact⟨(Dp g λ_ _=>r),m⟩
     . have Qa:D 8=false:=DG Q I;have M:=g.o.2.2.2.2.1 (o 4 O) Qa;have h1:=Dq g (o 5 O) Qa;clear o;have N:=Ja (I2 _ _ (cf ps i) f V M h1 (Ql.o.at i) Qo.o);clear M h1;refine Jc rfl rfl λK hK=>?_;go_simp;go_wp2_with(go_at_call 91;refine N.o.mono ?_;rintro e w5 ⟨v5,rfl,aj,q⟩)
       obtain⟨G0,G1,G2,G3,G4,G5,_,G7⟩:=g.o;exact E8 ⟨rfl,Ja ⟨G0,G1,G2,G3,λh B=>(G4 h B).below q,λh B=>(G5 h B).below q,λ_ _=>aj,G7⟩,Ja ⟨λh=>(m.o.1 h).below q,λh=>(m.o.2 h).below q⟩⟩
     . obtain rfl:=g.o.1 (o 0 O);obtain rfl:=g.o.2.1 (o 1 O);clear o;refine DL ?_;exact⟨(LL (Di (Dc g))),m⟩
     . have z:=m.o.1 I;have M:=D6 g (o 6 O) I;obtain rfl:=g.o.2.2.2.2.2.2.2 (o 7 O);have hE:=z.rats (i:=3) rfl;obtain⟨xa,xb,xc,xd,L,e1,e2,e3,_⟩:=hE.at Qk.o;have f0:=hE.frozen (i*4);have f1:=hE.frozen (i*4+1);have f2:=hE.frozen (i*4+2);have f3:=hE.frozen (i*4+3);obtain⟨s9,a9,l9,c9,t9,b9,k9,d9,rfl⟩:=Jh.form M;clear o;refine DL ?_;exact⟨Ja ⟨g.o.1,g.o.2.1,g.o.2.2.1,g.o.2.2.2.1,λ_ h=>by simp at h,λ_ h=>by simp at h,λ_ h=>by simp at h,λ_=>rfl⟩,Ja ⟨λh=>by simp at h,λ_=>z.putRats (i:=3) rfl Qk.o M⟩⟩
    case fin1=>
     rintro D ad V ak ⟨ta,tb,X,td,te,tg,ti,tj,rfl,g,m⟩;have HO:=Ja (m.o.2 (ak 8 DF));clear g m ak;go_wp2_with fail
     go_roundw
     case rel=>exact⟨i+1,_,Y,by go_num,Ja (H.o.next ap),HO⟩
     case measure=>simp[intOf];omega
  . obtain rfl:i=n:=Y
    have hE:=P.o.rats (i:=3) rfl;have Qc:=hE.row (n:=i) (cap:=i) (by rw[H.o.1];exact Aa _) (Aa _) Y Qd;rw[Ad (by rw[H.o.1];exact Aa _)]at Qc;have Qf:=Ja (QN _ S wr Qc (DV.of λj=>by
     rw[H.o.2 j];split
     . exact Qm.o j
     . exact Hr))
    rw[H.o.done (T:=DP f ps) (JP _ _) (λj hj=>Yw _ _ _) λj hj=>by rw[Yw,Ye (by rw[HN.o];exact hj),A2]]at Qf;clear hE Qc;go_wp2_with(go_at_call 25;refine Qf.o.mono ?_;clear Qf;rintro e w5 ⟨u5,rfl,ai,_,q⟩;obtain⟨a7,l7,c7,rfl⟩:=ai.form;have U:=boxed_below (P.o.cell (i:=2) rfl).1 q;have x0:=U.cell;have x1:=U.frozen;have Qs:=Ja (Ei U (C a7 l7 c7) ai.row);have Qp:=Ja ((Bt P.o.2.2 q).setCell (p:=⟨w.heap.size+1+1,0,none⟩) (by show w.heap.size<=w.heap.size+1+1;omega) (C a7 l7 c7));clear ai q U)
    exact BA (v:=.agg #[C a7 l7 c7]) (by simp[results,Tryz.results181,go_sem,x0]) rfl ⟨_,rfl,⟨_,rfl,Qs.o⟩,Qp.o⟩
