import Derived.Test.YtakpoihdghihmaaGreatDoorP44
open Go.Value renaming slice->C,bool->E,pointer->G
open Go.Obj renaming cells->F
set_option maxRecDepth 100000
set_option maxHeartbeats 16000000
namespace Go.Proofs.YtakpoihdghihmaaGreatDoor
section
open Go.RowKit Go.Shelf
attribute [local go_sem] Oper.semAt_some
structure DivS(A la:Nat)(S:Nat->List Rat->List Rat->Prop)(qs:List Rat):Prop where
 next:∀(k:Nat) (R Q:List Rat) (n:Nat) (a:Rat),S k R Q->(∀i,i+qs.length<=R.length->cf Q i=0)->qs.length<=R.length->n=R.length-qs.length->a=cf R (R.length-1)/cf qs (qs.length-1)->
  (∀i,cf (Ym R (Jm (Jd (E2 n [a])) qs)) i=cf R i-(if n<=i then a*cf qs (i-n)else 0))->(∀i,cf (XA Q (Jd (E2 n [a]))) i=if i=n then a else cf Q i)->S (k+1) (Ym R (Jm (Jd (E2 n [a])) qs)) (XA Q (Jd (E2 n [a])))
 size:∀(k:Nat) (R Q:List Rat),k<=la->S k R Q->DX R/\DX Q/\∃z,z+(2*A+1)<=1000000/\∀i,DW z (cf R i)
end
section
open Go.RowKit Go.Shelf
section
variable {D E l:Int} {K A:Nat} {ps qs:List Rat}
structure Dvn(D E l:Int)(K A:Nat)(ps qs:List Rat):Prop where
 hD:D≠0
 sD:Sm K D
 hp:EE D K ps
 hE:E≠0
 sE:Sm A E
 hq:EE E A qs
 hl:l≠0
 sl:Sm A l
 lead:cf qs (qs.length-1)=Rat.divInt l E
variable{m:Nat}
theorem Dvn.lne(h:Dvn D E l K A ps qs):cf qs (qs.length-1)≠0:=by
 rw[h.lead];intro e;have hE:(E:Rat)≠0:=by exact_mod_cast h.hE
 have a:(l:Rat)/(E:Rat)*(E:Rat)=l:=Ap hE;rw[<-CW,e,CC]at a;exact h.hl (by exact_mod_cast a.symm)
theorem Dvn.den(h:Dvn D E l K A ps qs)(k:Nat):D*l^k≠0/\Sm (K+k*(A+1)+1) (D*l^k):=by
 refine⟨CJ h.hD (Int.pow_ne_zero h.hl),(h.sD.mul (h.sl.powZ k)).mono ?_⟩;rw[AN];omega
theorem Dvn.at(h:Dvn D E l K A ps qs)(k:Nat):(∀i,DW (K+k*(A+1)+1) (cf (JB ps qs (qs.length-1) m k).2 i))/\∀i,DW (K+k*(A+1)+1) (cf (JB ps qs (qs.length-1) m k).1 i):=by
 have b:=P3 (m:=m) h.hD h.hp h.hE h.sE h.hq h.hl h.sl h.lead h.lne k;have a:=h.den k;exact⟨λi=>((b.1 i).mono Y).smq a.1 a.2,λi=>((b.2 i).mono Y).smq a.1 a.2⟩
theorem Dvn.sizes(h:Dvn D E l K A ps qs)(c:2*(K+m*(A+1)+1)+2*(2*A+1)<=1000000):∀k,k<=m->∃z,z+(2*A+1)<=1000000/\(k<m->2*z+2*(2*A+1)<=1000000)/\(∀i,DW z (cf (JB ps qs (qs.length-1) m k).2 i))/\∀i,DW (z+A) (cf (JB ps qs (qs.length-1) m k).1 i):=by
 intro k a;have b:k*(A+1)<=m*(A+1):=Aj _ a;exact⟨K+k*(A+1)+1,Y,λ_=>by omega,(h.at k).1,λi=>((h.at k).2 i).mono Y⟩
theorem Dvn.rem(h:Dvn D E l K A ps qs)(b:ps.length-(qs.length-1)=m):EE (D*l^m) (K+m*(A+1)) (JH ps qs)/\EE (D*l^m) (K+m*(A+1)) (Js ps qs):=by
 have a:=P3 (m:=m) h.hD h.hp h.hE h.sE h.hq h.hl h.sl h.lead h.lne m;refine⟨λi=>?_,λi=>?_⟩
 . unfold JH;rw[Ye,b];exact a.1 i
 . unfold Js;rw[Ye,b];exact a.2 i
end
def EM(A:Nat)(p:List Rat):Prop:=∀i,∃z:Int,Sm A z/\cf p i=(z:Rat)
variable{p:List Rat}{A:Nat}
theorem EM.cdl(h:EM A p):EE 1 A p:=λi=>by
 obtain⟨z,a,b⟩:=h i;exact LX DI a (by rw[b];grind)
theorem EM.mono{A B:Nat}{p:List Rat}(h:EM A p)(c:A<=B):EM B p:=λi=>by
 obtain⟨z,a,b⟩:=h i;exact⟨z,a.mono c,b⟩
theorem EM.ln{A:Nat}{p:List Rat}(h:EM A p):Ln A p:=h.cdl.ln DI
theorem EM.smq{A:Nat}{p:List Rat}(h:EM A p)(a:1<=A)(i:Nat):DW A (cf p i):=(h.cdl i).smq DI (Sm.one A a)
theorem QE(hp:Jd p=p)(d:p≠[])(h:Ln A p):∃E:Int,E≠0/\Sm A E/\EE E A (Jz p):=by
 obtain⟨c,k,b⟩:=h;have hl:=Jt hp d;obtain⟨E,f,a⟩:=b (p.length-1);have hE:E≠0:=λe=>by
  rw[e]at a;exact GJ hl k a
 refine⟨E,hE,f,λi=>?_⟩;obtain⟨z,g,j⟩:=b i;refine LX hE g ?_;unfold Jz;rw[Yl,<-j,<-a];grind
theorem Ln.sqs(hp:Jd p=p)(h:Ln A p)(hA1:1<=A):∀i,DW A (cf (Jz p) i):=by
 by_cases a:p=[]
 . subst a;intro i;rw[Zw,YH];exact DW.zero _ hA1
 . obtain⟨E,b,c,d⟩:=QE hp a h;exact λi=>(d i).smq b c
end
section
variable{p q:List Rat}{c:Rat}
theorem Z6(c:Rat):Xk c=c\/Xk c=-c:=by
 unfold Xk;split
 . exact Or.inr rfl
 . exact Or.inl rfl
theorem Z7(h:c≠0):Xk c≠0:=by
 rcases Z6 c with e|e
 . rw[e];exact h
 . rw[e];intro a;exact h (by rw[<-Rat.neg_neg c,a];rfl)
theorem Z8(h:c≠0):∀n:Nat,c^n≠0:=by
 intro n;induction n with
 |zero=>rw[Rat.pow_zero];decide
 |succ n a=>rw[Rat.pow_succ];exact GJ a h
def EK(p q:List Rat):Rat:=Xk (cf q (q.length-1))^(p.length+1-q.length)
def YK(p q:List Rat):List Rat:=DR (EK p q) p
def YL(p q:List Rat):List Rat:=Ym [] (JE (JH (YK p q) q))
theorem Z9:JE []=[]:=rfl
theorem Yf(p:List Rat):Jd (JE p)=JE p:=JI _ _
theorem F6(hp:Jd p=p):∃c:Rat,0<c/\JE p=DR c p:=by
 by_cases a:p=[]
 . subst a;exact⟨1,DI,rfl⟩
 . exact⟨_,Z4 hp a,rfl⟩
theorem Il(hp:Jd p=p){K:Nat}(h:Ln K p):EM K (JE p):=by
 by_cases a:p=[]
 . subst a;exact λi=>⟨0,Sm.zero K,by rw[Z9,YH];rfl⟩
 . exact QD hp a h
theorem NS(hq:Jd q=q)(a:q≠[]):EK p q≠0:=Z8 (Z7 (Jt hq a)) _
theorem X9(p q:List Rat):Jd (YL p q)=YL p q:=Xu _ _
theorem NT(hq:Jd q=q)(b:q≠[]):∃c:Rat,c≠0/\YL p q=DR c (JH p q)/\YL p q=DR (-1) (JE (JH (YK p q) q)):=by
 have a:YL p q=DR (-1) (JE (JH (YK p q) q)):=XD (X9 _ _) (JI _ _) λx=>by
  unfold YL;rw[Y1,JJ];simp[ev];grind
 have f:=(KS (c:=EK p q) (d:=1) DI p q hq b).2;rw[Ha hq]at f;obtain⟨c,g,j⟩:=F6 (Xb (YK p q) q);have i:c≠0:=λe=>by rw[e]at g;exact absurd g DI
 refine⟨EK p q*c*-1,GJ (GJ (NS hq b) i) DI,?_,a⟩;rw[a,j];unfold YK;rw[f,KQ,KQ,Rat.mul_assoc]
theorem QF(hq:Jd q=q)(a:q≠[]){A:Nat}(h:Ln A (JH p q)):EM A (JE (JH (YK p q) q))/\EM A (YL p q):=by
 have b:=(KS (c:=EK p q) (d:=1) DI p q hq a).2;rw[Ha hq]at b;have f:EM A (JE (JH (YK p q) q)):=Il (Xb _ _) (by unfold YK;rw[b];exact h.sc (NS hq a));refine⟨f,λi=>?_⟩;obtain⟨z,g,j⟩:=f i;obtain⟨_,_,_,e⟩:=NT (p:=p) hq a;exact⟨-z,g.neg,by rw[e,Yl,j,Rat.intCast_neg];grind⟩
structure Chn(p q:List Rat)(A:Nat)(a b:List Rat):Prop where
 ta:Jd a=a
 tb:Jd b=b
 wa:EM A a
 wb:EM A b
 gc:Jr a b=Jr p q
 la:a.length<=max p.length q.length
 lb:b.length<=q.length
 nx:b≠[]->Ln A (JH a b)
 eu:Eu (JE p) (JE q) a b
def DZ(K:Nat)(p q:List Rat):Nat:=(K+1)*(p.length+q.length+1)
theorem LY(K:Nat)(p q:List Rat):K+1<=DZ K p q:=by
 unfold DZ;have:(K+1)*1<=(K+1)*(p.length+q.length+1):=Ao _ Y;omega
theorem aA(K:Nat)(p q:List Rat):(K+1)*(p.length+q.length)<=DZ K p q:=Ao _ Y
theorem J0(hp:Jd p=p):(JE p).length=p.length:=by
 obtain⟨c,a,e⟩:=F6 hp;rw[e];exact Yg (λb=>by rw[b]at a;exact absurd a DI) hp
theorem QG(hp:Jd p=p)(hq:Jd q=q):Jr (JE p) (JE q)=Jr p q:=by
 obtain⟨c,b,e⟩:=F6 hp;obtain⟨d,f,g⟩:=F6 hq;rw[e,g];exact NO (λa=>by rw[a]at b;exact absurd b DI) (λa=>by rw[a]at f;exact absurd f DI) hp hq
section
variable {K:Nat} {p q a b:List Rat}
theorem Chn.ln_rem(hp:Jd p=p)(hq:Jd q=q)(d:Ln K p)(e:Ln K q)(hl:p.length+q.length<=1000000)(h:Eu (JE p) (JE q) a b)(f:b≠[]):Ln (DZ K p q) (JH a b):=by
 have c:=Zv (Yf p) (Yf q) (Il hp d).ln (Il hq e).ln (by rw[J0 hp,J0 hq];exact hl) h f;rw[J0 hp,J0 hq]at c;exact c.mono (aA _ _ _)
theorem Chn.start(hp:Jd p=p)(hq:Jd q=q)(a:Ln K p)(b:Ln K q)(hl:p.length+q.length<=1000000):Chn p q (DZ K p q) (JE p) (JE q) where
 ta:=Yf p
 tb:=Yf q
 wa:=(Il hp a).mono (by have:=LY K p q;omega)
 wb:=(Il hq b).mono (by have:=LY K p q;omega)
 gc:=QG hp hq
 la:=by rw[J0 hp];exact Nat.le_max_left _ _
 lb:=by rw[J0 hq];exact Aa _
 nx:=Chn.ln_rem hp hq a b hl (.base _ _)
 eu:=.base _ _
theorem Chn.next(hp:Jd p=p)(hq:Jd q=q)(i:Ln K p)(j:Ln K q)(hl:p.length+q.length<=1000000)(h:Chn p q (DZ K p q) a b)(d:b≠[]):Chn p q (DZ K p q) b (YL a b):=by
 obtain⟨c,g,e,_⟩:=NT (p:=a) h.tb d;have f:Eu (JE p) (JE q) b (YL a b):=by rw[e];exact h.eu.tail d g
 have l:(YL a b).length<b.length:=by
  rw[e,Yg g (Xb _ _)];exact(YP a b h.tb d).2.1
 have k:=h.lb;exact⟨h.tb,X9 _ _,h.wb,(QF h.tb d (h.nx d)).2,by rw[<-f.gcd (Yf p) (Yf q)];exact QG hp hq,Y,Y,Chn.ln_rem hp hq i j hl f,f⟩
end
variable{A:Nat}
theorem YT{a b:List Rat}(f:Jd b=b)(d:b≠[]):(YL a b).length<b.length:=by
 obtain⟨c,g,e,_⟩:=NT (p:=a) f d;rw[e,Yg g (Xb _ _)];exact(YP a b f d).2.1
structure Rhn(p q:List Rat)(A:Nat)(a b:List Rat):Prop where
 ta:Jd a=a
 tb:Jd b=b
 ca:∃D:Int,D≠0/\Sm A D/\EE D A a
 cb:∃E:Int,E≠0/\Sm A E/\EE E A b
 mb:b≠[]->cf b (b.length-1)=1
 ma:Jz a=a
 gc:Jr a b=Jr p q
 la:a.length<=max p.length q.length
 lb:b.length<=q.length
 nx:b≠[]->Ln A (JH a b)
 eu:Eu (Jz p) (Jz q) a b
theorem QH(a:1<=A):∃D:Int,D≠0/\Sm A D/\EE D A []:=⟨1,DI,Sm.one A a,λi=>by rw[YH];exact CD.zero _ _⟩
theorem QI{p:List Rat}(hp:Jd p=p)(h:Ln A p)(b:1<=A):∃E:Int,E≠0/\Sm A E/\EE E A (Jz p):=by
 by_cases a:p=[]
 . subst a;exact QH b
 . exact QE hp a h
section
variable {K:Nat} {p q a b:List Rat}
end
end
section
open Go.RowKit Go.Shelf
theorem QJ(q:Rat):F2 q 0<0↔q<0:=by
 rw[Rat.lt_iff];unfold F2 EB;split<;>(try split)<;>omega
theorem aB(a b:Nat):(a:Int)*((b:Int)/((Int.gcd a b:Nat):Int))=((Nat.lcm a b:Nat):Int):=by
 show(a:Int)*((b:Int)/((Nat.gcd a b:Nat):Int))=_;rw[<-Fj,<-Int.natCast_mul];congr 1;rw[Nat.lcm,Nat.mul_div_assoc _ (CV a b)]
theorem Im(ps:List Rat)(i:Nat):(if((i:Nat):Int)<0 then(0:Rat)else cf ps ((i:Nat):Int).toNat)=cf ps i:=by
 rw[BB Y,CS]
theorem QK(A:Nat)(b c:Value)(ps qs:List Rat)(w:World)(g:Je w b ps)(j:Je w c qs)(l:DX ps)(hq:∀i,DW A (cf qs i))(m:Jd ps=ps)(n:Jd qs=qs)(a:qs≠[])
(f:∀k,k<=ps.length-(qs.length-1)->∃z,z+(2*A+1)<=1000000/\(k<ps.length-(qs.length-1)->2*z+2*(2*A+1)<=1000000)/\(∀i,DW z (cf (JB ps qs (qs.length-1) (ps.length-(qs.length-1)) k).2 i))/\∀i,DW (z+A) (cf (JB ps qs (qs.length-1) (ps.length-(qs.length-1)) k).1 i)):
 Calls Tryz.prog 139 #[b,c] w λe d=>∃u v,e=.returned (.tuple #[u,v,E true])/\Je d u (Js ps qs)/\Je d v (JH ps qs)/\Bl w d:=by
 have h:=M3.P0 A b c ps qs w g j l hq m n λ_=>f;rw[BL a,BB a,BB a]at h;exact h
end
namespace M3
open Go.RowKit Go.Shelf
variable{S:List Rat}{B c i l n:Nat}{a:Option Addr}{v:Value}{V:World}
theorem QL(n:Nat)(h:n<=2199023255552)(w:World):(Instr.makeSlice 22 (.int .i64 (n:Int)) (.int .i64 (n:Int))).run Tryz.prog w=.ok (C (some ⟨w.heap.size,0,none⟩) n n) (w.alloc (F (J8 n) 37)):=by
 obtain⟨i,d,b⟩:=Option.map_eq_some_iff.1 Tryz.infoRat;simp only[Prod.mk.injEq]at b;obtain⟨f,e,c⟩:=b;have a:=run_make (P:=Tryz.prog) w 22 37 i _ Tryz.underlying22 d f .i64 .i64 n n Y (Int.le_refl _) (by rw[c];omega) Y;simp only[CS,e]at a;exact a
theorem Io(V:World):Has V (.agg #[C Option.none 0 0]) (.poly []):=⟨_,rfl,row_zero V Option.none⟩
theorem QM(V:World):Je V (.agg #[C Option.none 0 0]) []:=⟨_,rfl,row_zero V Option.none⟩
theorem Mem.poly2{w:World}{bs:List (Option (Nat × Dat))}(M:Mem w V bs){ps:List Rat}(h:bs[i]?=some (some (B,.poly ps))):∃a l c,Boxed V B 25 (C a l c)/\Je V (.agg #[C a l c]) ps:=by
 obtain⟨a,l,c,b,d⟩:=M.poly h;exact⟨a,l,c,b,_,rfl,d⟩
theorem KV{W:World}(b:Boxed W B 25 (C a l c)){x:Value}{qs:List Rat}(h:Je W v qs):Je (W.setCell ⟨B,0,Option.none⟩ x) v qs:=by
 obtain⟨u,e,h⟩:=h;exact⟨u,e,El b x h⟩
theorem Has.set1{d:Dat}(h:Has V v d)(q:Boxed V B 25 (C a l c))(e:JK (C a l c)=true)(b:Value):Has (V.setCell ⟨B,0,Option.none⟩ b) v d:=
 h.keep (PG q e b) (Or.inr λ_ _ g=>El q b g)
theorem Tup2.set1{V:World}{v:Value}{d1 d:Dat}(h:Tup2 V v d1 d){B:Nat}{a:Option Addr}{l c:Nat}(q:Boxed V B 25 (C a l c))(f:JK (C a l c)=true)(b:Value):Tup2 (V.setCell ⟨B,0,Option.none⟩ b) v d1 d:=by
 obtain⟨u1,u2,e,g,i⟩:=h;exact⟨u1,u2,e,g.set1 q f b,i.set1 q f b⟩
attribute [local go_sem] Oper.semAt_some
theorem aC(va:Value)(q:Rat)(w:World)(L:Jg w va q)(X:Sq q):
 Calls Tryz.prog 206 #[va] w λe w'=>∃u,e=.returned u/\Jg w' u (Xk q)/\Bl w w':=by
 obtain⟨af,R,ae,T,ah,S,ad,U,rfl⟩:=Jg.form L;have g:=(((Mem.nil w).push (.rat q) L).push (.rat 0) (X4 _));simp only[Ax]at g;have g:Mem w ((w.alloc (F #[E af,C R ae T,E ah,C S ad U] 37)).alloc (F #[E false,C none 0 0,E false,C none 0 0] 37)) [some (w.heap.size,.rat q),some (w.heap.size+1,.rat 0)]:=g;obtain⟨W0,K⟩:=ex ((w.alloc (F #[E af,C R ae T,E ah,C S ad U] 37)).alloc (F #[E false,C none 0 0,E false,C none 0 0] 37));have Q:=Ja K;rw[K]at g;have j:Hid (Mem w W0 [some (w.heap.size,.rat q),some (w.heap.size+1,.rat 0)]):=Ja g;have P:=Ja X;clear g K L X;go_enter Tryz.func206,Tryz.ntmps206
 go_upto_region 1 with fail
 rw[Q.o];clear Q;obtain⟨s1,a1,l1,c1,t1,b1,k1,d1,z,r1,i1,j1⟩:=j.o.rat (i:=0) rfl;obtain⟨t,k,o,s⟩:=z.cq;obtain⟨s2,a2,l2,c2,t2,b2,k2,d2,a,r2,i2,j2⟩:=j.o.rat (i:=1) rfl;obtain⟨b,c,f,d⟩:=a.cq;obtain⟨m,l,r,p⟩:=a.fq;obtain⟨x,A,HR⟩:=Dh (Mq _ _ q 0 W0 r1 (X4 _) P.o Gu) (λ(V:World) (h:Bl W0 V)=>KE _ _ 0 q V (X4 _) (r1.below h) Gu P.o) r1;obtain⟨n,M⟩:=ex (F2 q 0);rw[M]at x;have N:=Ja M;clear M r1 i1 j1;by_cases W:n<0
 . have B:=Ja (show 0-q=Xk q by
    have I:=(QJ q).1 (by rw[N.o];exact W);unfold Xk;rw[BH I];grind)
   rw[B.o]at A;go_wp2_with(first
    |(go_at_call 27;refine x.o.mono ?_;clear x;rintro e w1 ⟨rfl,hq⟩;clear t k o s;obtain⟨t,k,o,s⟩:=(z.below hq).cq;clear b c f d;obtain⟨b,c,f,d⟩:=(a.below hq).cq;clear m l r p;obtain⟨m,l,r,p⟩:=(a.below hq).fq)
    |(go_at_call 26;refine(A.o _ hq).mono ?_;clear A;rintro e w2 ⟨u2,rfl,y,an⟩;obtain⟨aw,ai,aq,ak,ax,aj,ap,am,rfl⟩:=Jg.form y;have hq:=Bt hq an;clear t k o s;obtain⟨t,k,o,s⟩:=(z.below hq).cq;clear b c f d;obtain⟨b,c,f,d⟩:=(a.below hq).cq;clear m l r p;obtain⟨m,l,r,p⟩:=(a.below hq).fq))
   have H:=Bt j.o.2.2 hq;have D:=j.o.ge 1 rfl;exact BA (v:=.agg #[E aw,C ai aq ak,E ax,C aj ap am]) (by simp[results,Tryz.results206,go_sem,b,c,f,d]) rfl ⟨_,rfl,y.put4 (a.below hq) rfl rfl rfl rfl _ _ _ _,Jv H D _ _ _ _⟩
 . have B:=Ja (show Xk q=q by
    have I:¬q<0:=λh=>W (by rw[<-N.o];exact(QJ q).2 h);unfold Xk;rw[BB I])
   go_wp2_with(go_at_call 27;refine x.o.mono ?_;clear x;rintro e w1 ⟨rfl,hq⟩;clear t k o s;obtain⟨t,k,o,s⟩:=(z.below hq).cq;clear b c f d;obtain⟨b,c,f,d⟩:=(a.below hq).cq;clear m l r p;obtain⟨m,l,r,p⟩:=(a.below hq).fq)
   have y:=HR.o.below hq;rw[<-B.o]at y;have H:=Bt j.o.2.2 hq;have D:=j.o.ge 1 rfl;exact BA (v:=.agg #[E s1,C a1 l1 c1,E t1,C b1 k1 d1]) (by simp[results,Tryz.results206,go_sem,b,c,f,d]) rfl ⟨_,rfl,y.put4 (a.below hq) rfl rfl rfl rfl _ _ _ _,Jv H D _ _ _ _⟩
theorem aD(va vb:Value)(x y:Nat)(w:World)(ha:Jk w va (x:Int))(hb:Jk w vb (y:Int))(hx:0<x)(az:DS (x:Int))(ba:DS (y:Int)):
 Calls Tryz.prog 180 #[va,vb] w λe w'=>∃u,e=.returned u/\Jk w' u ((Nat.lcm x y:Nat):Int)/\Bl w w':=by
 have Qj:Tryz.prog.follows .mixedOrders=true:=by kernel_rfl
 have HG:=Ja (show((Int.gcd x y:Nat):Int)≠0 by have:=Nat.gcd_pos_of_pos_left y hx;exact Int.natCast_ne_zero.2 (by show Nat.gcd x y≠0;omega));obtain⟨aw,af,ap,aj,rfl⟩:=Jk.form2 ha;obtain⟨ax,ah,aq,ak,rfl⟩:=Jk.form2 hb;have M:=((((Mem.nil w).push (.int ((x:Int))) ha).push (.int ((y:Int))) (Has.alloc (d:=.int ((y:Int))) hb _)).push (.int 0) (XR _));simp only[Ax]at M;have M:Mem w (((w.alloc (F #[E aw,C af ap aj] 35)).alloc (F #[E ax,C ah aq ak] 35)).alloc (F #[E false,C none 0 0] 35)) [some (w.heap.size,.int ((x:Int))),some (w.heap.size+1,.int ((y:Int))),some (w.heap.size+1+1,.int 0)]:=M;obtain⟨W0,am⟩:=ex (((w.alloc (F #[E aw,C af ap aj] 35)).alloc (F #[E ax,C ah aq ak] 35)).alloc (F #[E false,C none 0 0] 35));have Qg:=Ja am;rw[am]at M;have M1:Hid (Mem w W0 [some (w.heap.size,.int ((x:Int))),some (w.heap.size+1,.int ((y:Int))),some (w.heap.size+1+1,.int 0)]):=Ja M;have Qc:=Ja az;have Qa:=Ja ba;clear M am ha hb az ba;go_enter Tryz.func180,Tryz.ntmps180
 go_upto_region 1 with fail
 rw[Qg.o];clear Qg;clear hx;refine Jo Qj [[],[],[],[1,2],[0,3,3],[4],[5],[5],[5],[],[],[9,6,4,0,1,2,3,4,5,6,9,10],[10,7,11,0,1,2,3,4,5,6,7,9,10,11],[8,12,0,1,2,3,4,5,6,7,8,9,10,11,12]] (by kernel_rfl) DI
  (λD ai V=>∃(tn ta tb tc td tm te tg ti W X tl:Value) (Q P:Option (Nat × Dat)),ai={ tmps:=#[.agg #[E aw,C af ap aj],.agg #[E ax,C ah aq ak],G (some ⟨w.heap.size,0,none⟩),G (some ⟨w.heap.size+1,0,none⟩),G (some ⟨w.heap.size+1+1,0,none⟩),W,X,tl,tm,tn,ta,tb,tc,td,te,tg,ti,undef,undef,undef],defers:=[] }/\Hid ((D 0=true->Has V tn (.int ((y:Int))))/\(D 1=true->Has V ta (.int ((x:Int))))/\(D 2=true->Has V tb (.int ((y:Int))))/\(D 3=true->Has V tc (.int (((Int.gcd x y:Nat):Int))))/\(D 4=true->Tup2 V td (.int ((y:Int)/((Int.gcd x y:Nat):Int))) (.int ((y:Int)%((Int.gcd x y:Nat):Int))))/\(D 5=true->Tup2 V tm (.int ((y:Int)/((Int.gcd x y:Nat):Int))) (.int ((y:Int)%((Int.gcd x y:Nat):Int))))/\(D 6=true->Has V te (.int ((y:Int)/((Int.gcd x y:Nat):Int))))/\(D 7=true->Has V tg (.int ((y:Int)%((Int.gcd x y:Nat):Int))))/\(D 8=true->ti=E true)/\((D 9=false->Q=none)/\(D 9=true->D 11=false->∃B:Nat,W=G (some ⟨B,0,none⟩)/\Q=some (B,.int 0))/\(D 11=true->∃B:Nat,W=G (some ⟨B,0,none⟩)/\Q=some (B,.int ((y:Int)/((Int.gcd x y:Nat):Int)))))/\((D 10=false->P=none)/\(D 10=true->D 12=false->∃B:Nat,X=G (some ⟨B,0,none⟩)/\P=some (B,.int 0))/\(D 12=true->∃B:Nat,X=G (some ⟨B,0,none⟩)/\P=some (B,.int ((y:Int)%((Int.gcd x y:Nat):Int)))))/\(D 13=true->tl=E true))/\Hid (Mem w V [some (w.heap.size,.int ((x:Int))),some (w.heap.size+1,.int ((y:Int))),some (w.heap.size+1+1,.int 0),Q,P]))
  ⟨_,_,_,_,_,_,_,_,_,_,_,_,none,none,rfl,Ja ⟨Z,Z,Z,Z,Z,Z,Z,Z,Z,Z,Z,Z⟩,Ja (((M1.o).none).none).drew⟩ ?step1 ?fin1
 case step1=>
  rintro D ai V i ds ay hi f N ⟨tn,ta,tb,tc,td,tm,te,tg,ti,W,X,tl,Q,P,rfl,b,g⟩;have bt:i<14:=(Ac.1 hi).1;obtain rfl|rfl|rfl|rfl|rfl|rfl|rfl|rfl|rfl|rfl|rfl|rfl|rfl|rfl:=F7 i Y
  all_goals
   simp only[Ag,Ae,Ak]at hi;subst hi
  . clear f;obtain⟨s,a,l,c,n,i⟩:=g.o.int (i:=1) rfl;obtain⟨e0,e1⟩:=n.cp;refine Za ?_;exact⟨_,_,_,_,_,_,_,_,_,_,_,_,_,_,rfl,(De b λ_=>i),Ja (g.o)⟩
  . clear f;obtain⟨s,a,l,c,n,i⟩:=g.o.int (i:=0) rfl;obtain⟨e0,e1⟩:=n.cp;refine Za ?_;exact⟨_,_,_,_,_,_,_,_,_,_,_,_,_,_,rfl,(Di b λ_=>i),Ja (g.o)⟩
  . clear f;obtain⟨s,a,l,c,n,i⟩:=g.o.int (i:=1) rfl;obtain⟨e0,e1⟩:=n.cp;refine Za ?_;exact⟨_,_,_,_,_,_,_,_,_,_,_,_,_,_,rfl,(Dc b λ_=>i),Ja (g.o)⟩
  . have L:=(b.o.2.1 (f 1 Z));have A:=(b.o.2.2.1 (f 2 Z));have HC:=Ja (Hx _ _ (x:Int) (y:Int) V L A (by have:=Qc.o.words;omega) (by have:=Qa.o.words;omega));clear f L A;refine Jb rfl rfl λK hK=>?_;go_simp;go_wp2_with(go_at_call 84;refine HC.o.mono ?_;rintro e w5 ⟨v5,rfl,an,j⟩)
    obtain⟨k,m,o,_,I,q,r,t,z⟩:=b.o;exact⟨_,_,_,_,_,_,_,_,_,_,_,_,_,_,rfl,Ja ⟨λh=>(k h).below j,λh=>(m h).below j,λh=>(o h).below j,λ_=>an,λh=>(I h).below j,λh=>(q h).below j,λh=>(r h).below j,λh=>(t h).below j,z⟩,Ja (g.o.below j)⟩
  . have L:=(b.o.1 (f 0 Z));have A:=(b.o.2.2.2.1 (f 3 Z));have HC:=Ja (PJ _ _ (y:Int) ((Int.gcd x y:Nat):Int) V L A HG.o (by have:=Qa.o.words;omega) (by have:=(Qc.o.gcd Qa.o).words;omega));clear f L A;refine Jb rfl rfl λK hK=>?_;go_simp;go_wp2_with(go_at_call 135;refine HC.o.mono ?_;rintro e w5 ⟨v5,v6,rfl,an,bh,j⟩)
    obtain⟨k,m,o,H,_,q,r,t,z⟩:=b.o;exact⟨_,_,_,_,_,_,_,_,_,_,_,_,_,_,rfl,Ja ⟨λh=>(k h).below j,λh=>(m h).below j,λh=>(o h).below j,λh=>(H h).below j,λ_=>⟨v5,v6,rfl,an,bh⟩,λh=>(q h).below j,λh=>(r h).below j,λh=>(t h).below j,z⟩,Ja (g.o.below j)⟩
  . have L:=(b.o.2.2.2.2.1 (f 4 Z));clear f;refine Za ?_;exact⟨_,_,_,_,_,_,_,_,_,_,_,_,_,_,rfl,(Dp b λ_=>L),Ja (g.o)⟩
  . obtain⟨y1,y2,rfl,A,h2⟩:=((Ds b) (f 5 Z));clear f;refine Za ?_;exact⟨_,_,_,_,_,_,_,_,_,_,_,_,_,_,rfl,(Dr b λ_=>A),Ja (g.o)⟩
  . obtain⟨y1,y2,rfl,A,h2⟩:=((Ds b) (f 5 Z));clear f;refine Za ?_;exact⟨_,_,_,_,_,_,_,_,_,_,_,_,_,_,rfl,(D3 b λ_=>h2),Ja (g.o)⟩
  . obtain⟨y1,y2,rfl,A,h2⟩:=((Ds b) (f 5 Z));clear f;refine Za ?_;exact⟨_,_,_,_,_,_,_,_,_,_,_,_,_,_,rfl,(EH b),Ja (g.o)⟩
  . have hf:D 11=false:=DK ay N;obtain rfl:=b.o.2.2.2.2.2.2.2.2.2.1.1 N;clear f;refine Za ?_;obtain⟨k,m,o,H,I,q,r,t,z,_,ad⟩:=b.o;exact⟨_,_,_,_,_,_,_,_,_,_,_,_,_,_,rfl,Ja ⟨λh=>(k h).alloc _,λh=>(m h).alloc _,λh=>(o h).alloc _,λh=>(H h).alloc _,λh=>(I h).alloc _,λh=>(q h).alloc _,λh=>(r h).alloc _,λh=>(t h).alloc _,z,⟨λh=>by simp at h,λ_ _=>⟨_,rfl,rfl⟩,λh=>by simp[hf]at h⟩,ad⟩,Ja (g.o.fill (i:=3) rfl (.int 0) (XR _))⟩
  . have hf:D 12=false:=DK ay N;obtain rfl:=b.o.2.2.2.2.2.2.2.2.2.2.1.1 N;clear f;refine Za ?_;obtain⟨k,m,o,H,I,q,r,t,z,G9,_,ae⟩:=b.o;exact⟨_,_,_,_,_,_,_,_,_,_,_,_,_,_,rfl,Ja ⟨λh=>(k h).alloc _,λh=>(m h).alloc _,λh=>(o h).alloc _,λh=>(H h).alloc _,λh=>(I h).alloc _,λh=>(q h).alloc _,λh=>(r h).alloc _,λh=>(t h).alloc _,z,G9,⟨λh=>by simp at h,λ_ _=>⟨_,rfl,rfl⟩,λh=>by simp[hf]at h⟩,ae⟩,Ja (g.o.fill (i:=4) rfl (.int 0) (XR _))⟩
  . obtain⟨B,rfl,rfl⟩:=b.o.2.2.2.2.2.2.2.2.2.1.2.1 (f 9 Z) N;have Qb:=f 9 Z;have T:=((D4 b) (f 6 Z));obtain⟨s1,a1,l1,c1,rfl⟩:=Jk.form2 (show Jk V _ _ from T);obtain⟨s,a,l,c,n,i⟩:=g.o.int (i:=3) rfl;have e0:=n.c0;have f0:=n.f0;have e1:=n.c1;have f1:=n.f1;clear f;refine Za ?_;obtain⟨k,m,o,H,I,q,r,t,z,_,ad⟩:=b.o;exact⟨_,_,_,_,_,_,_,_,_,_,_,_,_,_,rfl,Ja ⟨λh=>(k h).set2 n rfl rfl _ _,λh=>(m h).set2 n rfl rfl _ _,λh=>(o h).set2 n rfl rfl _ _,λh=>(H h).set2 n rfl rfl _ _,λh=>(I h).set2 n rfl rfl _ _,λh=>(q h).set2 n rfl rfl _ _,λh=>(r h).set2 n rfl rfl _ _,λh=>(t h).set2 n rfl rfl _ _,z,⟨λh=>by simp[Qb]at h,λ_ h=>by simp at h,λ_=>⟨B,rfl,rfl⟩⟩,ad⟩,Ja (g.o.putInt (i:=3) rfl T)⟩
  . obtain⟨B,rfl,rfl⟩:=b.o.2.2.2.2.2.2.2.2.2.2.1.2.1 (f 10 Z) N;have Qb:=f 10 Z;have T:=((EZ b) (f 7 Z));obtain⟨s1,a1,l1,c1,rfl⟩:=Jk.form2 (show Jk V _ _ from T);obtain⟨s,a,l,c,n,i⟩:=g.o.int (i:=4) rfl;have e0:=n.c0;have f0:=n.f0;have e1:=n.c1;have f1:=n.f1;clear f;refine Za ?_;obtain⟨k,m,o,H,I,q,r,t,z,G9,_,ae⟩:=b.o;exact⟨_,_,_,_,_,_,_,_,_,_,_,_,_,_,rfl,Ja ⟨λh=>(k h).set2 n rfl rfl _ _,λh=>(m h).set2 n rfl rfl _ _,λh=>(o h).set2 n rfl rfl _ _,λh=>(H h).set2 n rfl rfl _ _,λh=>(I h).set2 n rfl rfl _ _,λh=>(q h).set2 n rfl rfl _ _,λh=>(r h).set2 n rfl rfl _ _,λh=>(t h).set2 n rfl rfl _ _,z,G9,⟨λh=>by simp[Qb]at h,λ_ h=>by simp at h,λ_=>⟨B,rfl,rfl⟩⟩,ae⟩,Ja (g.o.putInt (i:=4) rfl T)⟩
  . obtain rfl:=((Ea b) (f 8 Z));clear f;refine Za ?_;exact⟨_,_,_,_,_,_,_,_,_,_,_,_,_,_,rfl,(Hn (EH b)),Ja (g.o)⟩
 rintro D ai V2 S ⟨tn,ta,tb,tc,td,tm,te,tg,ti,W,X,tl,Q,P,rfl,b,g⟩;obtain⟨B3,rfl,rfl⟩:=b.o.2.2.2.2.2.2.2.2.2.1.2.2 (S 11 DI);obtain⟨B4,rfl,rfl⟩:=b.o.2.2.2.2.2.2.2.2.2.2.1.2.2 (S 12 DI);obtain rfl:=Ea b (S 8 DI);obtain rfl:=b.o.2.2.2.2.2.2.2.2.2.2.2 (S 13 DI);clear b S M1;have R:Hid (Mem w V2 [some (w.heap.size,.int ((x:Int))),some (w.heap.size+1,.int ((y:Int))),some (w.heap.size+1+1,.int 0),some (B3,.int ((y:Int)/((Int.gcd x y:Nat):Int))),some (B4,.int ((y:Int)%((Int.gcd x y:Nat):Int)))]):=g;clear g;obtain⟨s5,a5,l5,c5,n5,i5⟩:=R.o.int (i:=0) rfl;obtain⟨bk,bl⟩:=n5.cp;obtain⟨s6,a6,l6,c6,n6,i6⟩:=R.o.int (i:=3) rfl;obtain⟨bm,bn⟩:=n6.cp;obtain⟨s7,a7,l7,c7,U,i7⟩:=R.o.int (i:=2) rfl;obtain⟨Qe,Qd⟩:=U.cp;obtain⟨Qi,Qh⟩:=U.fp;have H1:=Ja (Y9 _ _ (x:Int) ((y:Int)/((Int.gcd x y:Nat):Int)) V2 i5 i6 (by have A:=Qc.o.words;have h2:=(Qa.o.div (y:=((Int.gcd x y:Nat):Int))).words;omega));rw[aB]at H1;go_wp2_with(go_at_call 69;refine H1.o.mono ?_;clear H1;rintro e w2 ⟨u2,rfl,bc,hq⟩;obtain⟨bj,bf,bi,bg,rfl⟩:=Jk.form2 bc;clear Qe Qd;obtain⟨Qe,Qd⟩:=(U.below hq).cp;clear Qi Qh;obtain⟨Qi,Qh⟩:=(U.below hq).fp)
 have Qk:=Bt R.o.2.2 hq;have Qf:=R.o.ge 2 rfl;exact BA (v:=.agg #[E bj,C bf bi bg]) (by simp[results,Tryz.results180,go_sem,Qe,Qd]) rfl ⟨_,rfl,bc.box (U.below hq) rfl rfl,(Qk.setCell (p:=⟨_,0,none⟩) Qf _).setCell (p:=⟨_,1,none⟩) Qf _⟩
def H7(F:Nat->Rat)(n i:Nat)(S:List Rat):Prop:=S.length=n/\∀j,cf S j=if j<i then F j else 0
theorem H7.next{F:Nat->Rat}(h:H7 F n i S)(b:i<n):H7 F n (i+1) (S.set i (F i)):=by
 refine⟨by rw[CK];exact h.1,λj=>?_⟩;rw[XN _ _ _ _ (by rw[h.1];exact b),h.2 j];by_cases e:j=i
 . rw[BH e,BH Y,e]
 . rw[BB e];by_cases a:j<i
   . rw[BH a,BH Y]
   . rw[BB a,BB Y]
theorem H7.done{F:Nat->Rat}{T:List Rat}(h:H7 F n n S)(b:Jd T=T)(hF:∀j,j<n->cf T j=F j)(a:∀j,n<=j->cf T j=0):Jd S=T:=by
 rw[<-b];refine X3 λj=>?_;rw[h.2 j];split
 . exact(hF j (by assumption)).symm
 . exact(a j Y).symm
theorem QN(v vf:Value)(ps:List Rat)(f:Rat)(w:World)(h:Je w v ps)(hf:Jg w vf f)(aq:DX ps)(aw:Sq f)(ax:∀i,Sq (cf ps i*f)):
 Calls Tryz.prog 181 #[v,vf] w λe w'=>∃u,e=.returned u/\Je w' u (DR f ps)/\Bl w w':=by
 have Qq:Tryz.prog.follows .mixedOrders=true:=by kernel_rfl
 obtain⟨x,la,y,rfl⟩:=h.form;obtain⟨s,a,l,c,t,b,k,d,rfl⟩:=Jg.form hf;obtain⟨ba,ay,az,bc,_⟩:=h.row.forms;have M0:=((((Mem.nil w).push (.cell 25 (C x la y)) (cs:=#[C x la y]) ⟨rfl,rfl⟩).push (.rat f) (cs:=#[E s,C a l c,E t,C b k d]) (Has.alloc (d:=.rat f) hf _)).push (.cell 25 (C none 0 0)) (cs:=#[C none 0 0]) ⟨rfl,rfl⟩);simp only[Ax]at M0;obtain⟨V0,ae⟩:=ex (((w.alloc (F #[C x la y] 25)).alloc (F #[E s,C a l c,E t,C b k d] 37)).alloc (F #[C none 0 0] 25));have M1:Mem w V0 [some (w.heap.size,.cell 25 (C x la y)),some (w.heap.size+1,.rat f),some (w.heap.size+1+1,.cell 25 (C none 0 0))]:=by rw[<-ae];exact M0
 have Qh:=Ja M1;obtain⟨n,hn⟩:=ex (ps.length:Nat);obtain⟨L,an⟩:=ex ((n:Int)-1:Int);have Qg:=Ja (J2 (.agg #[C x la y]) ps V0 (h.below M1.2.2));rw[hn,an]at Qg;have bf:L+1=(n:Int):=Y
 have bg:IntKind.i64.wrap (n:Int)=(n:Int):=by rw[BU];omega
 have Qr:∀W:World,(Instr.makeSlice 22 (.int .i64 (n:Int)) (.int .i64 (n:Int))).run Tryz.prog W=.ok (C (some ⟨W.heap.size,0,none⟩) n n) (W.alloc (F (J8 n) 37)):=λW=>QL n Y W;obtain⟨HP,Ql,Qm,HN⟩:=Dx (λ(V:World) (hB:Bl w V)=>h.below hB) aq ax (show ps.length=n from hn);have Qd:n<=1099511627776:=Y
 have Qj:=Ja ae;have Qo:=Ja aw;clear h aq ax ba ay az hn an M0 M1 ae bc hf aw;go_enter Tryz.func181,Tryz.ntmps181
 go_upto_region 1 with fail
 rw[Qj.o];have c0:=(Qh.o.cell (i:=0) rfl).1.cell;go_upto_region 2 with(go_at_call 30;refine Qg.o.mono ?_;clear Qg;rintro e w1 ⟨rfl,am⟩)
 have Qe:Mem w (w1.alloc (F (J8 n) 37)) [some (w.heap.size,.cell 25 (C x la y)),some (w.heap.size+1,.rat f),some (w.heap.size+1+1,.cell 25 (C none 0 0)),some (w1.heap.size,.rats (List.replicate n 0))]:=(Qh.o.below am).push (.rats (List.replicate n 0)) (KO _ n);obtain⟨V1,af⟩:=ex (w1.alloc (F (J8 n) 37));obtain⟨A,ah⟩:=ex (w1.heap.size);rw[af,ah]at Qe;rw[af,ah];have Qi:=Ja Qe;clear Qe af ah am c0 Qh Qj Qr;go_wp2;go_loopw [13] (λiv wr=>∃(i:Nat) (S:List Rat),i<=n/\iv=.int .i64 (i:Int)/\Hid (H7 (λj=>cf ps j*f) n i S)/\Hid (Mem w wr [some (w.heap.size,.cell 25 (C x la y)),some (w.heap.size+1,.rat f),some (w.heap.size+1+1,.cell 25 (C none 0 0)),some (A,.rats S)])) λiv _=>n-(intOf iv).toNat
 case atStart=>exact⟨0,_,AV _,rfl,Ja ⟨Aw,λj=>by rw[JW,BB Y]⟩,Qi⟩
 case round=>
  obtain⟨i,S,R,rfl,H,P⟩:=hrel;clear Qi;by_cases ap:i<n
  . have bi:(i:Int)<(n:Int):=Y
    have Qk:=Ja (show i<S.length by rw[H.o.1];exact ap);go_wp2_with fail
    have Qn:=P.o.drew;refine Jo Qq [[],[],[],[],[2,3],[],[4,5,4],[0,1,0,1,2,3,4,5,6],[7,6,6,0,1,2,3,4,5,6]] (by kernel_rfl) DI
     (λD ad V=>∃(ta tb X td te tg ti tj:Value),ad={ tmps:=#[.agg #[C x la y],.agg #[E s,C a l c,E t,C b k d],G (some ⟨w.heap.size,0,none⟩),G (some ⟨w.heap.size+1,0,none⟩),G (some ⟨w.heap.size+1+1,0,none⟩),C (some ⟨A,0,none⟩) n n,.int .i64 ↑i,.agg #[C x la y],.int .i64 L,.int .i64 ↑n,C (some ⟨A,0,none⟩) n n,C (some ⟨A,0,none⟩) n n,.int .i64 ↑n,.int .i64 ↑i,E true,.int .i64 ↑i,ta,tb,X,td,te,tg,ti,tj,u24,undef,undef],defers:=[] }/\Hid ((D 0=true->ta=C (some ⟨A,0,none⟩) n n)/\(D 1=true->tb=.int .i64 (i:Int))/\(D 2=true->X=.agg #[C x la y])/\(D 3=true->td=.int .i64 (i:Int))/\(D 4=true->D 8=false->Jg V te (cf ps i))/\(D 5=true->D 8=false->Jg V tg f)/\(D 6=true->D 8=false->Jg V ti (cf ps i*f))/\(D 7=true->tj=G (some ⟨A,i*4,none⟩)))/\Hid ((D 8=false->Mem w V [some (w.heap.size,.cell 25 (C x la y)),some (w.heap.size+1,.rat f),some (w.heap.size+1+1,.cell 25 (C none 0 0)),some (A,.rats S)])/\(D 8=true->Mem w V [some (w.heap.size,.cell 25 (C x la y)),some (w.heap.size+1,.rat f),some (w.heap.size+1+1,.cell 25 (C none 0 0)),some (A,.rats (S.set i (cf ps i*f)))])))
     (E8 ⟨rfl,Ja Z,Ja ⟨λ_=>Qn,Z⟩⟩) ?step1 ?fin1
    case step1=>
     rintro D ad V i ds Q R o I ⟨ta,tb,X,td,te,tg,ti,tj,rfl,g,m⟩;have bh:i<9:=(Ac.1 R).1;obtain rfl|rfl|rfl|rfl|rfl|rfl|rfl|rfl|rfl:=Rc i Y
     all_goals
      simp only[Ag,Ae,Ak]at R;subst R
     . clear o;refine DN ?_;exact⟨(De g),m⟩
     . clear o;refine DN ?_;exact⟨(Di g),m⟩
     . have z:=m.o.1 (DK Q I);have L:=(z.cell (i:=0) rfl).1.cell;clear o;refine DN ?_;exact⟨(Dc g),m⟩
     . clear o;refine DN ?_;exact⟨(Df g),m⟩
     . have z:=m.o.1 (DK Q I);obtain rfl:=g.o.2.2.1 (o 2 Z);obtain rfl:=g.o.2.2.2.1 (o 3 Z);clear o;have N:=Ja (Gw _ ps (i:Int) V (HP.o V z.2.2));rw[Im]at N;refine Jb rfl rfl λK hK=>?_;go_simp;go_wp2_with(go_at_call 74;refine N.o.mono ?_;rintro e w5 ⟨v5,rfl,aj,q⟩)
       obtain⟨G0,G1,_,_,_,G5,G6,G7⟩:=g.o;exact E8 ⟨rfl,Ja ⟨G0,G1,λ_=>rfl,λ_=>rfl,λ_ _=>aj,λh B=>(G5 h B).below q,λh B=>(G6 h B).below q,G7⟩,Ja ⟨λh=>(m.o.1 h).below q,λh=>(m.o.2 h).below q⟩⟩
     . have z:=m.o.1 (DK Q I);obtain⟨x1,x2,x3,x4,x5,x6,x7,x8,n,r,_,_⟩:=z.rat (i:=1) rfl;obtain⟨L,e1,e2,e3⟩:=n.cq;clear o;refine DN ?_;exact⟨(Dp g λ_ _=>r),m⟩
     . have Qa:D 8=false:=DK Q I;have M:=g.o.2.2.2.2.1 (o 4 Z) Qa;have h1:=Ds g (o 5 Z) Qa;clear o;have N:=Ja (IR _ _ (cf ps i) f V M h1 (Ql.o.at i) Qo.o);clear M h1;refine Jb rfl rfl λK hK=>?_;go_simp;go_wp2_with(go_at_call 91;refine N.o.mono ?_;rintro e w5 ⟨v5,rfl,aj,q⟩)
       obtain⟨G0,G1,G2,G3,G4,G5,_,G7⟩:=g.o;exact E8 ⟨rfl,Ja ⟨G0,G1,G2,G3,λh B=>(G4 h B).below q,λh B=>(G5 h B).below q,λ_ _=>aj,G7⟩,Ja ⟨λh=>(m.o.1 h).below q,λh=>(m.o.2 h).below q⟩⟩
     . obtain rfl:=g.o.1 (o 0 Z);obtain rfl:=g.o.2.1 (o 1 Z);clear o;refine DN ?_;exact⟨(OW (Di (De g))),m⟩
     . have z:=m.o.1 I;have M:=D4 g (o 6 Z) I;obtain rfl:=g.o.2.2.2.2.2.2.2 (o 7 Z);have hE:=z.rats (i:=3) rfl;obtain⟨xa,xb,xc,xd,L,e1,e2,e3,_⟩:=hE.at Qk.o;have f0:=hE.frozen (i*4);have f1:=hE.frozen (i*4+1);have f2:=hE.frozen (i*4+2);have f3:=hE.frozen (i*4+3);obtain⟨s9,a9,l9,c9,t9,b9,k9,d9,rfl⟩:=Jg.form M;clear o;refine DN ?_;exact⟨Ja ⟨g.o.1,g.o.2.1,g.o.2.2.1,g.o.2.2.2.1,λ_ h=>by simp at h,λ_ h=>by simp at h,λ_ h=>by simp at h,λ_=>rfl⟩,Ja ⟨λh=>by simp at h,λ_=>z.putRats (i:=3) rfl Qk.o M⟩⟩
    case fin1=>
     rintro D ad V ak ⟨ta,tb,X,td,te,tg,ti,tj,rfl,g,m⟩;have HO:=Ja (m.o.2 (ak 8 DI));clear g m ak;go_wp2_with fail
     go_roundw
     case rel=>exact⟨i+1,_,Y,by go_num,Ja (H.o.next ap),HO⟩
     case measure=>simp[intOf];omega
  . obtain rfl:i=n:=Y
    have hE:=P.o.rats (i:=3) rfl;have Qc:=hE.row (n:=i) (cap:=i) (by rw[H.o.1];exact Aa _) (Aa _) Y Qd;rw[Ad (by rw[H.o.1];exact Aa _)]at Qc;have Qf:=Ja (PV _ S wr Qc (DX.of λj=>by
     rw[H.o.2 j];split
     . exact Qm.o j
     . exact Gu))
    rw[H.o.done (T:=DR f ps) (JI _ _) (λj hj=>Yl _ _ _) λj hj=>by rw[Yl,Yj (by rw[HN.o];exact hj),CC]]at Qf;clear hE Qc;go_wp2_with(go_at_call 25;refine Qf.o.mono ?_;clear Qf;rintro e w5 ⟨u5,rfl,ai,_,q⟩;obtain⟨a7,l7,c7,rfl⟩:=ai.form;have U:=boxed_below (P.o.cell (i:=2) rfl).1 q;have x0:=U.cell;have x1:=U.frozen;have Qs:=Ja (El U (C a7 l7 c7) ai.row);have Qp:=Ja ((Bt P.o.2.2 q).setCell (p:=⟨w.heap.size+1+1,0,none⟩) (by show w.heap.size<=w.heap.size+1+1;omega) (C a7 l7 c7));clear ai q U)
    exact BA (v:=.agg #[C a7 l7 c7]) (by simp[results,Tryz.results181,go_sem,x0]) rfl ⟨_,rfl,⟨_,rfl,Qs.o⟩,Qp.o⟩
