import Derived.Test.YtakpoihdghihmaaGreatDoorR42
open Go.Value renaming slice->C,bool->E,pointer->F,agg->I,int->B
open Go renaming undef->G,World->L
open Go.Obj renaming cells->H
set_option maxRecDepth 100000
set_option maxHeartbeats 16000000
namespace Go.Proofs.YtakpoihdghihmaaGreatDoor
section
open Go.RowKit Go.Shelf
attribute [local go_sem] Oper.semAt_some
structure DivS(A la:Nat)(S:Nat->List Rat->List Rat->Prop)(qs:List Rat):Prop where
 next:∀(k:Nat) (R Q:List Rat) (n:Nat) (a:Rat),S k R Q->(∀i,i+qs.length<=R.length->cf Q i=0)->qs.length<=R.length->n=R.length-qs.length->a=cf R (R.length-1)/cf qs (qs.length-1)->
  (∀i,cf (JD R (Jr (Jd (FR n [a])) qs)) i=cf R i-(if n<=i then a*cf qs (i-n)else 0))->(∀i,cf (XI Q (Jd (FR n [a]))) i=if i=n then a else cf Q i)->S (k+1) (JD R (Jr (Jd (FR n [a])) qs)) (XI Q (Jd (FR n [a])))
 size:∀(k:Nat) (R Q:List Rat),k<=la->S k R Q->Sqs R/\Sqs Q/\∃z,z+(2*A+1)<=1000000000/\∀i,DQ z (cf R i)
end
section
open Go.RowKit Go.Shelf
section
variable {D E l:Int} {K A:Nat} {ps qs:List Rat}
structure Dvn(D E l:Int)(K A:Nat)(ps qs:List Rat):Prop where
 hD:D≠0
 sD:Sm K D
 hp:D6 D K ps
 hE:E≠0
 sE:Sm A E
 hq:D6 E A qs
 hl:l≠0
 sl:Sm A l
 lead:cf qs (qs.length-1)=Rat.divInt l E
variable{m:Nat}
theorem Dvn.lne(h:Dvn D E l K A ps qs):cf qs (qs.length-1)≠0:=by
 rw[h.lead];intro e;have hE:(E:Rat)≠0:=by exact_mod_cast h.hE
 have a:(l:Rat)/(E:Rat)*(E:Rat)=l:=Ap hE;rw[<-CA,e,A2]at a;exact h.hl (by exact_mod_cast a.symm)
theorem Dvn.den(h:Dvn D E l K A ps qs)(k:Nat):D*l^k≠0/\Sm (K+k*(A+1)+1) (D*l^k):=by
 refine⟨CI h.hD (Int.pow_ne_zero h.hl),(h.sD.mul (h.sl.powZ k)).mono ?_⟩;rw[AN];omega
theorem Dvn.at(h:Dvn D E l K A ps qs)(k:Nat):(∀i,DQ (K+k*(A+1)+1) (cf (JF ps qs (qs.length-1) m k).2 i))/\∀i,DQ (K+k*(A+1)+1) (cf (JF ps qs (qs.length-1) m k).1 i):=by
 have b:=RP (m:=m) h.hD h.hp h.hE h.sE h.hq h.hl h.sl h.lead h.lne k;have a:=h.den k;exact⟨λi=>((b.1 i).mono O).smq a.1 a.2,λi=>((b.2 i).mono O).smq a.1 a.2⟩
theorem Dvn.sizes(h:Dvn D E l K A ps qs)(c:2*(K+m*(A+1)+1)+2*(2*A+1)<=1000000000):∀k,k<=m->∃z,z+(2*A+1)<=1000000000/\(k<m->2*z+2*(2*A+1)<=1000000000)/\(∀i,DQ z (cf (JF ps qs (qs.length-1) m k).2 i))/\∀i,DQ (z+A) (cf (JF ps qs (qs.length-1) m k).1 i):=by
 intro k a;have b:k*(A+1)<=m*(A+1):=Aj _ a;exact⟨K+k*(A+1)+1,O,λ_=>by omega,(h.at k).1,λi=>((h.at k).2 i).mono O⟩
theorem Dvn.rem(h:Dvn D E l K A ps qs)(b:ps.length-(qs.length-1)=m):D6 (D*l^m) (K+m*(A+1)) (JK ps qs)/\D6 (D*l^m) (K+m*(A+1)) (Jo ps qs):=by
 have a:=RP (m:=m) h.hD h.hp h.hE h.sE h.hq h.hl h.sl h.lead h.lne m;refine⟨λi=>?_,λi=>?_⟩
 . unfold JK;rw[Yf,b];exact a.1 i
 . unfold Jo;rw[Yf,b];exact a.2 i
end
def EG(A:Nat)(p:List Rat):Prop:=∀i,∃z:Int,Sm A z/\cf p i=(z:Rat)
variable{p:List Rat}{A:Nat}
theorem EG.cdl(h:EG A p):D6 1 A p:=λi=>by
 obtain⟨z,a,b⟩:=h i;exact Lw DF a (by rw[b];grind)
theorem EG.mono{A B:Nat}{p:List Rat}(h:EG A p)(c:A<=B):EG B p:=λi=>by
 obtain⟨z,a,b⟩:=h i;exact⟨z,a.mono c,b⟩
theorem EG.ln{A:Nat}{p:List Rat}(h:EG A p):Ln A p:=h.cdl.ln DF
theorem EG.smq{A:Nat}{p:List Rat}(h:EG A p)(a:1<=A)(i:Nat):DQ A (cf p i):=(h.cdl i).smq DF (Sm.one A a)
theorem OA(hp:Jd p=p)(d:p≠[])(h:Ln A p):∃E:Int,E≠0/\Sm A E/\D6 E A (Jp p):=by
 obtain⟨c,k,b⟩:=h;have hl:=Js hp d;obtain⟨E,f,a⟩:=b (p.length-1);have hE:E≠0:=λe=>by
  rw[e]at a;exact X1 hl k a
 refine⟨E,hE,f,λi=>?_⟩;obtain⟨z,g,j⟩:=b i;refine Lw hE g ?_;unfold Jp;rw[Yu,<-j,<-a];grind
theorem Ln.sqs(hp:Jd p=p)(h:Ln A p)(hA1:1<=A):∀i,DQ A (cf (Jp p) i):=by
 by_cases a:p=[]
 . subst a;intro i;rw[bp,YH];exact DQ.zero _ hA1
 . obtain⟨E,b,c,d⟩:=OA hp a h;exact λi=>(d i).smq b c
end
section
variable{p q:List Rat}{c:Rat}
theorem cG(c:Rat):Xu c=c\/Xu c=-c:=by
 unfold Xu;split
 . exact Or.inr rfl
 . exact Or.inl rfl
theorem cH(h:c≠0):Xu c≠0:=by
 rcases cG c with e|e
 . rw[e];exact h
 . rw[e];intro a;exact h (by rw[<-Rat.neg_neg c,a];rfl)
theorem cI(h:c≠0):∀n:Nat,c^n≠0:=by
 intro n;induction n with
 |zero=>rw[Rat.pow_zero];decide
 |succ n a=>rw[Rat.pow_succ];exact X1 a h
def EF(p q:List Rat):Rat:=Xu (cf q (q.length-1))^(p.length+1-q.length)
def YO(p q:List Rat):List Rat:=DN (EF p q) p
def YP(p q:List Rat):List Rat:=JD [] (JI (JK (YO p q) q))
theorem cJ:JI []=[]:=rfl
theorem Yj(p:List Rat):Jd (JI p)=JI p:=JP _ _
theorem F9(hp:Jd p=p):∃c:Rat,0<c/\JI p=DN c p:=by
 by_cases a:p=[]
 . subst a;exact⟨1,DF,rfl⟩
 . exact⟨_,cF hp a,rfl⟩
theorem KD(hp:Jd p=p){K:Nat}(h:Ln K p):EG K (JI p):=by
 by_cases a:p=[]
 . subst a;exact λi=>⟨0,Sm.zero K,by rw[cJ,YH];rfl⟩
 . exact Rc hp a h
theorem OB(hq:Jd q=q)(a:q≠[]):EF p q≠0:=cI (cH (Js hq a)) _
theorem Hs(p q:List Rat):Jd (YP p q)=YP p q:=Yh _ _
theorem OC(hq:Jd q=q)(b:q≠[]):∃c:Rat,c≠0/\YP p q=DN c (JK p q)/\YP p q=DN (-1) (JI (JK (YO p q) q)):=by
 have a:YP p q=DN (-1) (JI (JK (YO p q) q)):=Xr (Hs _ _) (JP _ _) λx=>by
  unfold YP;rw[Y9,JJ];simp[ev];grind
 have f:=(Ls (c:=EF p q) (d:=1) DF p q hq b).2;rw[Ic hq]at f;obtain⟨c,g,j⟩:=F9 (Xj (YO p q) q);have i:c≠0:=λe=>by rw[e]at g;exact absurd g DF
 refine⟨EF p q*c*-1,X1 (X1 (OB hq b) i) DF,?_,a⟩;rw[a,j];unfold YO;rw[f,Kk,Kk,Rat.mul_assoc]
theorem Re(hq:Jd q=q)(a:q≠[]){A:Nat}(h:Ln A (JK p q)):EG A (JI (JK (YO p q) q))/\EG A (YP p q):=by
 have b:=(Ls (c:=EF p q) (d:=1) DF p q hq a).2;rw[Ic hq]at b;have f:EG A (JI (JK (YO p q) q)):=KD (Xj _ _) (by unfold YO;rw[b];exact h.sc (OB hq a));refine⟨f,λi=>?_⟩;obtain⟨z,g,j⟩:=f i;obtain⟨_,_,_,e⟩:=OC (p:=p) hq a;exact⟨-z,g.neg,by rw[e,Yu,j,Rat.intCast_neg];grind⟩
structure Chn(p q:List Rat)(A:Nat)(a b:List Rat):Prop where
 ta:Jd a=a
 tb:Jd b=b
 wa:EG A a
 wb:EG A b
 gc:Jz a b=Jz p q
 la:a.length<=max p.length q.length
 lb:b.length<=q.length
 nx:b≠[]->Ln A (JK a b)
 eu:Eu (JI p) (JI q) a b
def DY(K:Nat)(p q:List Rat):Nat:=(K+1)*(p.length+q.length+1)
theorem Lx(K:Nat)(p q:List Rat):K+1<=DY K p q:=by
 unfold DY
 have:(K+1)*1<=(K+1)*(p.length+q.length+1):=Aq _ O
 omega
theorem cK(K:Nat)(p q:List Rat):(K+1)*(p.length+q.length)<=DY K p q:=Aq _ O
theorem J4(hp:Jd p=p):(JI p).length=p.length:=by
 obtain⟨c,a,e⟩:=F9 hp;rw[e];exact Yl (λb=>by rw[b]at a;exact absurd a DF) hp
theorem Rf(hp:Jd p=p)(hq:Jd q=q):Jz (JI p) (JI q)=Jz p q:=by
 obtain⟨c,b,e⟩:=F9 hp;obtain⟨d,f,g⟩:=F9 hq;rw[e,g];exact RW (λa=>by rw[a]at b;exact absurd b DF) (λa=>by rw[a]at f;exact absurd f DF) hp hq
section
variable {K:Nat} {p q a b:List Rat}
theorem Chn.ln_rem(hp:Jd p=p)(hq:Jd q=q)(d:Ln K p)(e:Ln K q)(hl:p.length+q.length<=1000000000)(h:Eu (JI p) (JI q) a b)(f:b≠[]):Ln (DY K p q) (JK a b):=by
 have c:=bZ (Yj p) (Yj q) (KD hp d).ln (KD hq e).ln (by rw[J4 hp,J4 hq];exact hl) h f;rw[J4 hp,J4 hq]at c;exact c.mono (cK _ _ _)
theorem Chn.start(hp:Jd p=p)(hq:Jd q=q)(a:Ln K p)(b:Ln K q)(hl:p.length+q.length<=1000000000):Chn p q (DY K p q) (JI p) (JI q) where
 ta:=Yj p
 tb:=Yj q
 wa:=(KD hp a).mono (by have:=Lx K p q;omega)
 wb:=(KD hq b).mono (by have:=Lx K p q;omega)
 gc:=Rf hp hq
 la:=by rw[J4 hp];exact Nat.le_max_left _ _
 lb:=by rw[J4 hq];exact Aa _
 nx:=Chn.ln_rem hp hq a b hl (.base _ _)
 eu:=.base _ _
theorem Chn.next(hp:Jd p=p)(hq:Jd q=q)(i:Ln K p)(j:Ln K q)(hl:p.length+q.length<=1000000000)(h:Chn p q (DY K p q) a b)(d:b≠[]):Chn p q (DY K p q) b (YP a b):=by
 obtain⟨c,g,e,_⟩:=OC (p:=a) h.tb d;have f:Eu (JI p) (JI q) b (YP a b):=by rw[e];exact h.eu.tail d g
 have l:(YP a b).length<b.length:=by
  rw[e,Yl g (Xj _ _)];exact(YT a b h.tb d).2.1
 have k:=h.lb;exact⟨h.tb,Hs _ _,h.wb,(Re h.tb d (h.nx d)).2,by rw[<-f.gcd (Yj p) (Yj q)];exact Rf hp hq,O,O,Chn.ln_rem hp hq i j hl f,f⟩
end
variable{A:Nat}
theorem YZ{a b:List Rat}(f:Jd b=b)(d:b≠[]):(YP a b).length<b.length:=by
 obtain⟨c,g,e,_⟩:=OC (p:=a) f d;rw[e,Yl g (Xj _ _)];exact(YT a b f d).2.1
structure Rhn(p q:List Rat)(A:Nat)(a b:List Rat):Prop where
 ta:Jd a=a
 tb:Jd b=b
 ca:∃D:Int,D≠0/\Sm A D/\D6 D A a
 cb:∃E:Int,E≠0/\Sm A E/\D6 E A b
 mb:b≠[]->cf b (b.length-1)=1
 ma:Jp a=a
 gc:Jz a b=Jz p q
 la:a.length<=max p.length q.length
 lb:b.length<=q.length
 nx:b≠[]->Ln A (JK a b)
 eu:Eu (Jp p) (Jp q) a b
theorem Rg(a:1<=A):∃D:Int,D≠0/\Sm A D/\D6 D A []:=⟨1,DF,Sm.one A a,λi=>by rw[YH];exact CD.zero _ _⟩
theorem Ly{p:List Rat}(hp:Jd p=p)(h:Ln A p)(b:1<=A):∃E:Int,E≠0/\Sm A E/\D6 E A (Jp p):=by
 by_cases a:p=[]
 . subst a;exact Rg b
 . exact OA hp a h
section
variable {K:Nat} {p q a b:List Rat}
end
end
section
open Go.RowKit Go.Shelf
theorem Rh(q:Rat):Em q 0<0↔q<0:=by
 rw[Rat.lt_iff];unfold Em D4;split<;>(try split)<;>omega
theorem cL(a b:Nat):(a:Int)*((b:Int)/((Int.gcd a b:Nat):Int))=((Nat.lcm a b:Nat):Int):=by
 show(a:Int)*((b:Int)/((Nat.gcd a b:Nat):Int))=_;rw[<-Fi,<-FO];congr 1;rw[Nat.lcm,Nat.mul_div_assoc _ (CV a b)]
theorem KE(ps:List Rat)(i:Nat):(if((i:Nat):Int)<0 then(0:Rat)else cf ps ((i:Nat):Int).toNat)=cf ps i:=by
 rw[BA O,CT]
theorem Ri(A:Nat)(b c:Value)(ps qs:List Rat)(w:L)(g:Je w b ps)(j:Je w c qs)(l:Sqs ps)(hq:∀i,DQ A (cf qs i))(m:Jd ps=ps)(n:Jd qs=qs)(a:qs≠[])
(f:∀k,k<=ps.length-(qs.length-1)->∃z,z+(2*A+1)<=1000000000/\(k<ps.length-(qs.length-1)->2*z+2*(2*A+1)<=1000000000)/\(∀i,DQ z (cf (JF ps qs (qs.length-1) (ps.length-(qs.length-1)) k).2 i))/\∀i,DQ (z+A) (cf (JF ps qs (qs.length-1) (ps.length-(qs.length-1)) k).1 i)):
 Calls Tryz.prog 139 #[b,c] w λe d=>∃u v,e=.returned (.tuple #[u,v,E true])/\Je d u (Jo ps qs)/\Je d v (JK ps qs)/\Bl w d:=by
 have h:=M3.RM A b c ps qs w g j l hq m n λ_=>f;rw[BJ a,BA a,BA a]at h;exact h
end
namespace M3
open Go.RowKit Go.Shelf
variable{S:List Rat}{c i l n:Nat}{a:Option Addr}{v:Value}{V:L}
theorem Rj(n:Nat)(h:n<=2199023255552)(w:L):(Instr.makeSlice 22 (B .i64 (n:Int)) (B .i64 (n:Int))).run Tryz.prog w=.ok (C (some ⟨w.heap.size,0,none⟩) n n) (w.alloc (H (Yb n) 37)):=by
 obtain⟨i,d,b⟩:=Option.map_eq_some_iff.1 Tryz.infoRat;simp only[Prod.mk.injEq]at b;obtain⟨f,e,c⟩:=b;have a:=run_make (P:=Tryz.prog) w 22 37 i _ Tryz.underlying22 d f .i64 .i64 n n O (Int.le_refl _) (by rw[c];omega) O;simp only[CT,e]at a;exact a
theorem Ht(V:L):Has V (I #[C Option.none 0 0]) (.poly []):=⟨_,rfl,row_zero V Option.none⟩
theorem Rk(V:L):Je V (I #[C Option.none 0 0]) []:=⟨_,rfl,row_zero V Option.none⟩
theorem Mem.poly2{w:L}{bs:List (Option (Nat × Dat))}(M:Mem w V bs){B:Nat}{ps:List Rat}(h:bs[i]?=some (some (B,.poly ps))):∃a l c,Boxed V B 25 (C a l c)/\Je V (I #[C a l c]) ps:=by
 obtain⟨a,l,c,b,d⟩:=M.poly h;exact⟨a,l,c,b,_,rfl,d⟩
theorem Ko{W:L}{B:Nat}(b:Boxed W B 25 (C a l c)){x:Value}{qs:List Rat}(h:Je W v qs):Je (W.setCell ⟨B,0,Option.none⟩ x) v qs:=by
 obtain⟨u,e,h⟩:=h;exact⟨u,e,Eo b x h⟩
theorem Has.set1{d:Dat}(h:Has V v d){B:Nat}(q:Boxed V B 25 (C a l c))(e:JN (C a l c)=true)(b:Value):Has (V.setCell ⟨B,0,Option.none⟩ b) v d:=
 h.keep (P6 q e b) (Or.inr λ_ _ g=>Eo q b g)
theorem Tup2.set1{V:L}{v:Value}{d1 d:Dat}(h:Tup2 V v d1 d){B:Nat}{a:Option Addr}{l c:Nat}(q:Boxed V B 25 (C a l c))(f:JN (C a l c)=true)(b:Value):Tup2 (V.setCell ⟨B,0,Option.none⟩ b) v d1 d:=by
 obtain⟨u1,u2,e,g,i⟩:=h;exact⟨u1,u2,e,g.set1 q f b,i.set1 q f b⟩
attribute [local go_sem] Oper.semAt_some
theorem cM(va:Value)(q:Rat)(w:L)(Q:Jh w va q)(ah:Sq q):
 Calls Tryz.prog 206 #[va] w λe w'=>∃u,e=.returned u/\Jh w' u (Xu q)/\Bl w w':=by
 obtain⟨ak,W,aj,ad,am,X,ai,ae,rfl⟩:=Jh.form Q;have g:=(((Mem.nil w).push (.rat q) Q).push (.rat 0) (XY _));simp only[Ax]at g;have g:Mem w ((w.alloc (H #[E ak,C W aj ad,E am,C X ai ae] 37)).alloc (H #[E false,C none 0 0,E false,C none 0 0] 37)) [some (w.heap.size,.rat q),some (w.heap.size+1,.rat 0)]:=g;obtain⟨W0,P⟩:=ex ((w.alloc (H #[E ak,C W aj ad,E am,C X ai ae] 37)).alloc (H #[E false,C none 0 0,E false,C none 0 0] 37));have U:=Ja P;rw[P]at g;have j:Hid (Mem w W0 [some (w.heap.size,.rat q),some (w.heap.size+1,.rat 0)]):=Ja g;have T:=Ja ah;clear g P Q ah;go_enter Tryz.func206,Tryz.ntmps206
 go_upto_region 1 with fail
 rw[U.o];clear U;obtain⟨s1,a1,l1,c1,t1,b1,k1,d1,z,r1,i1,j1⟩:=j.o.rat (i:=0) rfl;obtain⟨t,k,o,s⟩:=z.cq;obtain⟨s2,a2,l2,c2,t2,b2,k2,d2,a,r2,i2,j2⟩:=j.o.rat (i:=1) rfl;obtain⟨b,c,f,d⟩:=a.cq;obtain⟨m,l,r,p⟩:=a.fq;obtain⟨x,A,HR⟩:=Db (LV _ _ q 0 W0 r1 (XY _) T.o Hi) (λ(V:L) (h:Bl W0 V)=>LW _ _ 0 q V (XY _) (r1.below h) Hi T.o) r1;obtain⟨n,R⟩:=ex (Em q 0);rw[R]at x;have S:=Ja R;clear R r1 i1 j1;by_cases af:n<0
 . have D:=Ja (show 0-q=Xu q by
    have N:=(Rh q).1 (by rw[S.o];exact af);unfold Xu;rw[BC N];grind)
   rw[D.o]at A;go_wp2_with(first
    |(go_at_call 27;refine x.o.mono ?_;clear x;rintro e w1 ⟨rfl,hq⟩;clear t k o s;obtain⟨t,k,o,s⟩:=(z.below hq).cq;clear b c f d;obtain⟨b,c,f,d⟩:=(a.below hq).cq;clear m l r p;obtain⟨m,l,r,p⟩:=(a.below hq).fq)
    |(go_at_call 26;refine(A.o _ hq).mono ?_;clear A;rintro e w2 ⟨u2,rfl,y,ax⟩;obtain⟨ba,an,az,aq,bc,ap,ay,aw,rfl⟩:=Jh.form y;have hq:=Bt hq ax;clear t k o s;obtain⟨t,k,o,s⟩:=(z.below hq).cq;clear b c f d;obtain⟨b,c,f,d⟩:=(a.below hq).cq;clear m l r p;obtain⟨m,l,r,p⟩:=(a.below hq).fq))
   have M:=Bt j.o.2.2 hq;have K:=j.o.ge 1 rfl;exact BB (v:=I #[E ba,C an az aq,E bc,C ap ay aw]) (by simp[results,Tryz.results206,go_sem,b,c,f,d]) rfl ⟨_,rfl,y.put4 (a.below hq) rfl rfl rfl rfl _ _ _ _,JB M K _ _ _ _⟩
 . have D:=Ja (show Xu q=q by
    have N:¬q<0:=λh=>af (by rw[<-S.o];exact(Rh q).2 h);unfold Xu;rw[BA N])
   go_wp2_with(go_at_call 27;refine x.o.mono ?_;clear x;rintro e w1 ⟨rfl,hq⟩;clear t k o s;obtain⟨t,k,o,s⟩:=(z.below hq).cq;clear b c f d;obtain⟨b,c,f,d⟩:=(a.below hq).cq;clear m l r p;obtain⟨m,l,r,p⟩:=(a.below hq).fq)
   have y:=HR.o.below hq;rw[<-D.o]at y;have M:=Bt j.o.2.2 hq;have K:=j.o.ge 1 rfl;exact BB (v:=I #[E s1,C a1 l1 c1,E t1,C b1 k1 d1]) (by simp[results,Tryz.results206,go_sem,b,c,f,d]) rfl ⟨_,rfl,y.put4 (a.below hq) rfl rfl rfl rfl _ _ _ _,JB M K _ _ _ _⟩
theorem cN(va vb:Value)(x y:Nat)(w:L)(ha:Jk w va (x:Int))(hb:Jk w vb (y:Int))(hx:0<x)(az:Sok (x:Int))(ba:Sok (y:Int)):
 Calls Tryz.prog 180 #[va,vb] w λe w'=>∃u,e=.returned u/\Jk w' u ((Nat.lcm x y:Nat):Int)/\Bl w w':=by
 have Qj:Tryz.prog.follows .mixedOrders=true:=by kernel_rfl
 have HG:=Ja (show((Int.gcd x y:Nat):Int)≠0 by have:=Nat.gcd_pos_of_pos_left y hx;exact Int.natCast_ne_zero.2 (by show Nat.gcd x y≠0;omega));obtain⟨aw,af,ap,aj,rfl⟩:=Jk.form2 ha;obtain⟨ax,ah,aq,ak,rfl⟩:=Jk.form2 hb;have Q:=((((Mem.nil w).push (.int ((x:Int))) ha).push (.int ((y:Int))) (Has.alloc (d:=.int ((y:Int))) hb _)).push (.int 0) (XW _));simp only[Ax]at Q;have Q:Mem w (((w.alloc (H #[E aw,C af ap aj] 35)).alloc (H #[E ax,C ah aq ak] 35)).alloc (H #[E false,C none 0 0] 35)) [some (w.heap.size,.int ((x:Int))),some (w.heap.size+1,.int ((y:Int))),some (w.heap.size+1+1,.int 0)]:=Q;obtain⟨W0,am⟩:=ex (((w.alloc (H #[E aw,C af ap aj] 35)).alloc (H #[E ax,C ah aq ak] 35)).alloc (H #[E false,C none 0 0] 35));have Qg:=Ja am;rw[am]at Q;have M1:Hid (Mem w W0 [some (w.heap.size,.int ((x:Int))),some (w.heap.size+1,.int ((y:Int))),some (w.heap.size+1+1,.int 0)]):=Ja Q;have Qc:=Ja az;have Qa:=Ja ba;clear Q am ha hb az ba;go_enter Tryz.func180,Tryz.ntmps180
 go_upto_region 1 with fail
 rw[Qg.o];clear Qg;clear hx;refine Jn Qj [[],[],[],[1,2],[0,3,3],[4],[5],[5],[5],[],[],[9,6,4,0,1,2,3,4,5,6,9,10],[10,7,11,0,1,2,3,4,5,6,7,9,10,11],[8,12,0,1,2,3,4,5,6,7,8,9,10,11,12]] (by kernel_rfl) DF
  (λD ai V=>∃(tn ta tb tc td tm te tg ti tj tk tl:Value) (T S:Option (Nat × Dat)),ai={ tmps:=#[I #[E aw,C af ap aj],I #[E ax,C ah aq ak],F (some ⟨w.heap.size,0,none⟩),F (some ⟨w.heap.size+1,0,none⟩),F (some ⟨w.heap.size+1+1,0,none⟩),tj,tk,tl,tm,tn,ta,tb,tc,td,te,tg,ti,G,G,G],defers:=[] }/\Hid ((D 0=true->Has V tn (.int ((y:Int))))/\(D 1=true->Has V ta (.int ((x:Int))))/\(D 2=true->Has V tb (.int ((y:Int))))/\(D 3=true->Has V tc (.int (((Int.gcd x y:Nat):Int))))/\(D 4=true->Tup2 V td (.int ((y:Int)/((Int.gcd x y:Nat):Int))) (.int ((y:Int)%((Int.gcd x y:Nat):Int))))/\(D 5=true->Tup2 V tm (.int ((y:Int)/((Int.gcd x y:Nat):Int))) (.int ((y:Int)%((Int.gcd x y:Nat):Int))))/\(D 6=true->Has V te (.int ((y:Int)/((Int.gcd x y:Nat):Int))))/\(D 7=true->Has V tg (.int ((y:Int)%((Int.gcd x y:Nat):Int))))/\(D 8=true->ti=E true)/\((D 9=false->T=none)/\(D 9=true->D 11=false->∃B:Nat,tj=F (some ⟨B,0,none⟩)/\T=some (B,.int 0))/\(D 11=true->∃B:Nat,tj=F (some ⟨B,0,none⟩)/\T=some (B,.int ((y:Int)/((Int.gcd x y:Nat):Int)))))/\((D 10=false->S=none)/\(D 10=true->D 12=false->∃B:Nat,tk=F (some ⟨B,0,none⟩)/\S=some (B,.int 0))/\(D 12=true->∃B:Nat,tk=F (some ⟨B,0,none⟩)/\S=some (B,.int ((y:Int)%((Int.gcd x y:Nat):Int)))))/\(D 13=true->tl=E true))/\Hid (Mem w V [some (w.heap.size,.int ((x:Int))),some (w.heap.size+1,.int ((y:Int))),some (w.heap.size+1+1,.int 0),T,S]))
  ⟨_,_,_,_,_,_,_,_,_,_,_,_,none,none,rfl,Ja ⟨Z,Z,Z,Z,Z,Z,Z,Z,Z,Z,Z,Z⟩,Ja (((M1.o).none).none).drew⟩ ?step1 ?fin1
 case step1=>
  rintro D ai V i ds ay hi f R ⟨tn,ta,tb,tc,td,tm,te,tg,ti,tj,tk,tl,T,S,rfl,b,g⟩;have bt:i<14:=(Ac.1 hi).1;obtain rfl|rfl|rfl|rfl|rfl|rfl|rfl|rfl|rfl|rfl|rfl|rfl|rfl|rfl:=GF i O
  all_goals
   simp only[Ai,Ag,Ak]at hi;subst hi
  . clear f;obtain⟨s,a,l,c,n,i⟩:=g.o.int (i:=1) rfl;obtain⟨e0,e1⟩:=n.cp;refine Za ?_;exact⟨_,_,_,_,_,_,_,_,_,_,_,_,_,_,rfl,(De b λ_=>i),Ja (g.o)⟩
  . clear f;obtain⟨s,a,l,c,n,i⟩:=g.o.int (i:=0) rfl;obtain⟨e0,e1⟩:=n.cp;refine Za ?_;exact⟨_,_,_,_,_,_,_,_,_,_,_,_,_,_,rfl,(Dh b λ_=>i),Ja (g.o)⟩
  . clear f;obtain⟨s,a,l,c,n,i⟩:=g.o.int (i:=1) rfl;obtain⟨e0,e1⟩:=n.cp;refine Za ?_;exact⟨_,_,_,_,_,_,_,_,_,_,_,_,_,_,rfl,(DZ b λ_=>i),Ja (g.o)⟩
  . have P:=(b.o.2.1 (f 1 Z));have A:=(b.o.2.2.1 (f 2 Z));have HC:=Ja (IX _ _ (x:Int) (y:Int) V P A (by have:=Qc.o.words;omega) (by have:=Qa.o.words;omega));clear f P A;refine Jc rfl rfl λK hK=>?_;go_simp;go_wp2_with(go_at_call 84;refine HC.o.mono ?_;rintro e w5 ⟨v5,rfl,an,j⟩)
    obtain⟨k,m,o,_,N,q,r,t,z⟩:=b.o;exact⟨_,_,_,_,_,_,_,_,_,_,_,_,_,_,rfl,Ja ⟨λh=>(k h).below j,λh=>(m h).below j,λh=>(o h).below j,λ_=>an,λh=>(N h).below j,λh=>(q h).below j,λh=>(r h).below j,λh=>(t h).below j,z⟩,Ja (g.o.below j)⟩
  . have P:=(b.o.1 (f 0 Z));have A:=(b.o.2.2.2.1 (f 3 Z));have HC:=Ja (P9 _ _ (y:Int) ((Int.gcd x y:Nat):Int) V P A HG.o (by have:=Qa.o.words;omega) (by have:=(Qc.o.gcd Qa.o).words;omega));clear f P A;refine Jc rfl rfl λK hK=>?_;go_simp;go_wp2_with(go_at_call 135;refine HC.o.mono ?_;rintro e w5 ⟨v5,v6,rfl,an,bh,j⟩)
    obtain⟨k,m,o,M,_,q,r,t,z⟩:=b.o;exact⟨_,_,_,_,_,_,_,_,_,_,_,_,_,_,rfl,Ja ⟨λh=>(k h).below j,λh=>(m h).below j,λh=>(o h).below j,λh=>(M h).below j,λ_=>⟨v5,v6,rfl,an,bh⟩,λh=>(q h).below j,λh=>(r h).below j,λh=>(t h).below j,z⟩,Ja (g.o.below j)⟩
  . have P:=(b.o.2.2.2.2.1 (f 4 Z));clear f;refine Za ?_;exact⟨_,_,_,_,_,_,_,_,_,_,_,_,_,_,rfl,(Dw b λ_=>P),Ja (g.o)⟩
  . obtain⟨y1,y2,rfl,A,h2⟩:=((Dn b) (f 5 Z));clear f;refine Za ?_;exact⟨_,_,_,_,_,_,_,_,_,_,_,_,_,_,rfl,(Dz b λ_=>A),Ja (g.o)⟩
  . obtain⟨y1,y2,rfl,A,h2⟩:=((Dn b) (f 5 Z));clear f;refine Za ?_;exact⟨_,_,_,_,_,_,_,_,_,_,_,_,_,_,rfl,(EM b λ_=>h2),Ja (g.o)⟩
  . obtain⟨y1,y2,rfl,A,h2⟩:=((Dn b) (f 5 Z));clear f;refine Za ?_;exact⟨_,_,_,_,_,_,_,_,_,_,_,_,_,_,rfl,(EN b),Ja (g.o)⟩
  . have hf:D 11=false:=DI ay R;obtain rfl:=b.o.2.2.2.2.2.2.2.2.2.1.1 R;clear f;refine Za ?_;obtain⟨k,m,o,M,N,q,r,t,z,_,ad⟩:=b.o;exact⟨_,_,_,_,_,_,_,_,_,_,_,_,_,_,rfl,Ja ⟨λh=>(k h).alloc _,λh=>(m h).alloc _,λh=>(o h).alloc _,λh=>(M h).alloc _,λh=>(N h).alloc _,λh=>(q h).alloc _,λh=>(r h).alloc _,λh=>(t h).alloc _,z,⟨λh=>by simp at h,λ_ _=>⟨_,rfl,rfl⟩,λh=>by simp[hf]at h⟩,ad⟩,Ja (g.o.fill (i:=3) rfl (.int 0) (XW _))⟩
  . have hf:D 12=false:=DI ay R;obtain rfl:=b.o.2.2.2.2.2.2.2.2.2.2.1.1 R;clear f;refine Za ?_;obtain⟨k,m,o,M,N,q,r,t,z,G9,_,ae⟩:=b.o;exact⟨_,_,_,_,_,_,_,_,_,_,_,_,_,_,rfl,Ja ⟨λh=>(k h).alloc _,λh=>(m h).alloc _,λh=>(o h).alloc _,λh=>(M h).alloc _,λh=>(N h).alloc _,λh=>(q h).alloc _,λh=>(r h).alloc _,λh=>(t h).alloc _,z,G9,⟨λh=>by simp at h,λ_ _=>⟨_,rfl,rfl⟩,λh=>by simp[hf]at h⟩,ae⟩,Ja (g.o.fill (i:=4) rfl (.int 0) (XW _))⟩
  . obtain⟨B,rfl,rfl⟩:=b.o.2.2.2.2.2.2.2.2.2.1.2.1 (f 9 Z) R;have Qb:=f 9 Z;have X:=((ED b) (f 6 Z));obtain⟨s1,a1,l1,c1,rfl⟩:=Jk.form2 (show Jk V _ _ from X);obtain⟨s,a,l,c,n,i⟩:=g.o.int (i:=3) rfl;have e0:=n.c0;have f0:=n.f0;have e1:=n.c1;have f1:=n.f1;clear f;refine Za ?_;obtain⟨k,m,o,M,N,q,r,t,z,_,ad⟩:=b.o;exact⟨_,_,_,_,_,_,_,_,_,_,_,_,_,_,rfl,Ja ⟨λh=>(k h).set2 n rfl rfl _ _,λh=>(m h).set2 n rfl rfl _ _,λh=>(o h).set2 n rfl rfl _ _,λh=>(M h).set2 n rfl rfl _ _,λh=>(N h).set2 n rfl rfl _ _,λh=>(q h).set2 n rfl rfl _ _,λh=>(r h).set2 n rfl rfl _ _,λh=>(t h).set2 n rfl rfl _ _,z,⟨λh=>by simp[Qb]at h,λ_ h=>by simp at h,λ_=>⟨B,rfl,rfl⟩⟩,ad⟩,Ja (g.o.putInt (i:=3) rfl X)⟩
  . obtain⟨B,rfl,rfl⟩:=b.o.2.2.2.2.2.2.2.2.2.2.1.2.1 (f 10 Z) R;have Qb:=f 10 Z;have X:=((ET b) (f 7 Z));obtain⟨s1,a1,l1,c1,rfl⟩:=Jk.form2 (show Jk V _ _ from X);obtain⟨s,a,l,c,n,i⟩:=g.o.int (i:=4) rfl;have e0:=n.c0;have f0:=n.f0;have e1:=n.c1;have f1:=n.f1;clear f;refine Za ?_;obtain⟨k,m,o,M,N,q,r,t,z,G9,_,ae⟩:=b.o;exact⟨_,_,_,_,_,_,_,_,_,_,_,_,_,_,rfl,Ja ⟨λh=>(k h).set2 n rfl rfl _ _,λh=>(m h).set2 n rfl rfl _ _,λh=>(o h).set2 n rfl rfl _ _,λh=>(M h).set2 n rfl rfl _ _,λh=>(N h).set2 n rfl rfl _ _,λh=>(q h).set2 n rfl rfl _ _,λh=>(r h).set2 n rfl rfl _ _,λh=>(t h).set2 n rfl rfl _ _,z,G9,⟨λh=>by simp[Qb]at h,λ_ h=>by simp at h,λ_=>⟨B,rfl,rfl⟩⟩,ae⟩,Ja (g.o.putInt (i:=4) rfl X)⟩
  . obtain rfl:=((Ed b) (f 8 Z));clear f;refine Za ?_;exact⟨_,_,_,_,_,_,_,_,_,_,_,_,_,_,rfl,(II (EN b)),Ja (g.o)⟩
 rintro D ai V2 W ⟨tn,ta,tb,tc,td,tm,te,tg,ti,tj,tk,tl,T,S,rfl,b,g⟩;obtain⟨B3,rfl,rfl⟩:=b.o.2.2.2.2.2.2.2.2.2.1.2.2 (W 11 DF);obtain⟨B4,rfl,rfl⟩:=b.o.2.2.2.2.2.2.2.2.2.2.1.2.2 (W 12 DF);obtain rfl:=Ed b (W 8 DF);obtain rfl:=b.o.2.2.2.2.2.2.2.2.2.2.2 (W 13 DF);clear b W M1;have U:Hid (Mem w V2 [some (w.heap.size,.int ((x:Int))),some (w.heap.size+1,.int ((y:Int))),some (w.heap.size+1+1,.int 0),some (B3,.int ((y:Int)/((Int.gcd x y:Nat):Int))),some (B4,.int ((y:Int)%((Int.gcd x y:Nat):Int)))]):=g;clear g;obtain⟨s5,a5,l5,c5,n5,i5⟩:=U.o.int (i:=0) rfl;obtain⟨bk,bl⟩:=n5.cp;obtain⟨s6,a6,l6,c6,n6,i6⟩:=U.o.int (i:=3) rfl;obtain⟨bm,bn⟩:=n6.cp;obtain⟨s7,a7,l7,c7,n7,i7⟩:=U.o.int (i:=2) rfl;obtain⟨Qe,Qd⟩:=n7.cp;obtain⟨Qi,Qh⟩:=n7.fp;have H1:=Ja (Xh _ _ (x:Int) ((y:Int)/((Int.gcd x y:Nat):Int)) V2 i5 i6 (by have A:=Qc.o.words;have h2:=(Qa.o.div (y:=((Int.gcd x y:Nat):Int))).words;omega));rw[cL]at H1;go_wp2_with(go_at_call 69;refine H1.o.mono ?_;clear H1;rintro e w2 ⟨u2,rfl,bc,hq⟩;obtain⟨bj,bf,bi,bg,rfl⟩:=Jk.form2 bc;clear Qe Qd;obtain⟨Qe,Qd⟩:=(n7.below hq).cp;clear Qi Qh;obtain⟨Qi,Qh⟩:=(n7.below hq).fp)
 have Qk:=Bt U.o.2.2 hq;have Qf:=U.o.ge 2 rfl;exact BB (v:=I #[E bj,C bf bi bg]) (by simp[results,Tryz.results180,go_sem,Qe,Qd]) rfl ⟨_,rfl,bc.box (n7.below hq) rfl rfl,(Qk.setCell (p:=⟨_,0,none⟩) Qf _).setCell (p:=⟨_,1,none⟩) Qf _⟩
def Id(F:Nat->Rat)(n i:Nat)(S:List Rat):Prop:=S.length=n/\∀j,cf S j=if j<i then F j else 0
theorem Id.next{F:Nat->Rat}(h:Id F n i S)(b:i<n):Id F n (i+1) (S.set i (F i)):=by
 refine⟨by rw[CJ];exact h.1,λj=>?_⟩;rw[XS _ _ _ _ (by rw[h.1];exact b),h.2 j];by_cases e:j=i
 . rw[BC e,BC O,e]
 . rw[BA e];by_cases a:j<i
   . rw[BC a,BC O]
   . rw[BA a,BA O]
theorem Id.done{F:Nat->Rat}{T:List Rat}(h:Id F n n S)(b:Jd T=T)(hF:∀j,j<n->cf T j=F j)(a:∀j,n<=j->cf T j=0):Jd S=T:=by
 rw[<-b];refine Hz λj=>?_;rw[h.2 j];split
 . exact(hF j (by assumption)).symm
 . exact(a j O).symm
theorem Rl(v vf:Value)(ps:List Rat)(f:Rat)(w:L)(h:Je w v ps)(hf:Jh w vf f)(aw:Sqs ps)(ax:Sq f)(ay:∀i,Sq (cf ps i*f)):
 Calls Tryz.prog 181 #[v,vf] w λe w'=>∃u,e=.returned u/\Je w' u (DN f ps)/\Bl w w':=by
 have Qq:Tryz.prog.follows .mixedOrders=true:=by kernel_rfl
 obtain⟨x,la,y,rfl⟩:=h.form;obtain⟨s,a,l,c,t,b,k,d,rfl⟩:=Jh.form hf;obtain⟨bc,az,ba,bf,_⟩:=h.row.forms;have M0:=((((Mem.nil w).push (.cell 25 (C x la y)) (cs:=#[C x la y]) ⟨rfl,rfl⟩).push (.rat f) (cs:=#[E s,C a l c,E t,C b k d]) (Has.alloc (d:=.rat f) hf _)).push (.cell 25 (C none 0 0)) (cs:=#[C none 0 0]) ⟨rfl,rfl⟩);simp only[Ax]at M0;obtain⟨V0,af⟩:=ex (((w.alloc (H #[C x la y] 25)).alloc (H #[E s,C a l c,E t,C b k d] 37)).alloc (H #[C none 0 0] 25));have M1:Mem w V0 [some (w.heap.size,.cell 25 (C x la y)),some (w.heap.size+1,.rat f),some (w.heap.size+1+1,.cell 25 (C none 0 0))]:=by rw[<-af];exact M0
 have Qh:=Ja M1;obtain⟨n,hn⟩:=ex (ps.length:Nat);obtain⟨Q,ap⟩:=ex ((n:Int)-1:Int);have Qg:=Ja (JX (I #[C x la y]) ps V0 (h.below M1.2.2));rw[hn,ap]at Qg;have bg:Q+1=(n:Int):=O
 have bh:IntKind.i64.wrap (n:Int)=(n:Int):=by rw[BO];omega
 have Qr:∀W:L,(Instr.makeSlice 22 (B .i64 (n:Int)) (B .i64 (n:Int))).run Tryz.prog W=.ok (C (some ⟨W.heap.size,0,none⟩) n n) (W.alloc (H (Yb n) 37)):=λW=>Rj n O W;obtain⟨HP,Ql,Qm,HN⟩:=Dr (λ(V:L) (hB:Bl w V)=>h.below hB) aw ay (show ps.length=n from hn);have Qd:n<=1099511627776:=O
 have Qj:=Ja af;have Qo:=Ja ax;clear h aw ay bc az ba hn ap M0 M1 af bf hf ax;go_enter Tryz.func181,Tryz.ntmps181
 go_upto_region 1 with fail
 rw[Qj.o];have c0:=(Qh.o.cell (i:=0) rfl).1.cell;go_upto_region 2 with(go_at_call 30;refine Qg.o.mono ?_;clear Qg;rintro e w1 ⟨rfl,an⟩)
 have Qe:Mem w (w1.alloc (H (Yb n) 37)) [some (w.heap.size,.cell 25 (C x la y)),some (w.heap.size+1,.rat f),some (w.heap.size+1+1,.cell 25 (C none 0 0)),some (w1.heap.size,.rats (List.replicate n 0))]:=(Qh.o.below an).push (.rats (List.replicate n 0)) (Ki _ n);obtain⟨V1,ah⟩:=ex (w1.alloc (H (Yb n) 37));obtain⟨A,ai⟩:=ex (w1.heap.size);rw[ah,ai]at Qe;rw[ah,ai];have Qi:=Ja Qe;clear Qe ah ai an c0 Qh Qj Qr;go_wp2;go_loopw [13] (λiv wr=>∃(i:Nat) (S:List Rat),i<=n/\iv=B .i64 (i:Int)/\Hid (Id (λj=>cf ps j*f) n i S)/\Hid (Mem w wr [some (w.heap.size,.cell 25 (C x la y)),some (w.heap.size+1,.rat f),some (w.heap.size+1+1,.cell 25 (C none 0 0)),some (A,.rats S)])) λiv _=>n-(intOf iv).toNat
 case atStart=>exact⟨0,_,AO _,rfl,Ja ⟨AA,λj=>by rw[J0,BA O]⟩,Qi⟩
 case round=>
  obtain⟨i,S,hi,rfl,N,X⟩:=hrel;clear Qi;by_cases aq:i<n
  . have bj:(i:Int)<(n:Int):=O
    have Qk:=Ja (show i<S.length by rw[N.o.1];exact aq);go_wp2_with fail
    have Qn:=X.o.drew;refine Jn Qq [[],[],[],[],[2,3],[],[4,5,4],[0,1,0,1,2,3,4,5,6],[7,6,6,0,1,2,3,4,5,6]] (by kernel_rfl) DF
     (λD ae V=>∃(ta tb tc td te tg ti tj:Value),ae={ tmps:=#[I #[C x la y],I #[E s,C a l c,E t,C b k d],F (some ⟨w.heap.size,0,none⟩),F (some ⟨w.heap.size+1,0,none⟩),F (some ⟨w.heap.size+1+1,0,none⟩),C (some ⟨A,0,none⟩) n n,B .i64 ↑i,I #[C x la y],B .i64 Q,B .i64 ↑n,C (some ⟨A,0,none⟩) n n,C (some ⟨A,0,none⟩) n n,B .i64 ↑n,B .i64 ↑i,E true,B .i64 ↑i,ta,tb,tc,td,te,tg,ti,tj,u24,G,G],defers:=[] }/\Hid ((D 0=true->ta=C (some ⟨A,0,none⟩) n n)/\(D 1=true->tb=B .i64 (i:Int))/\(D 2=true->tc=I #[C x la y])/\(D 3=true->td=B .i64 (i:Int))/\(D 4=true->D 8=false->Jh V te (cf ps i))/\(D 5=true->D 8=false->Jh V tg f)/\(D 6=true->D 8=false->Jh V ti (cf ps i*f))/\(D 7=true->tj=F (some ⟨A,i*4,none⟩)))/\Hid ((D 8=false->Mem w V [some (w.heap.size,.cell 25 (C x la y)),some (w.heap.size+1,.rat f),some (w.heap.size+1+1,.cell 25 (C none 0 0)),some (A,.rats S)])/\(D 8=true->Mem w V [some (w.heap.size,.cell 25 (C x la y)),some (w.heap.size+1,.rat f),some (w.heap.size+1+1,.cell 25 (C none 0 0)),some (A,.rats (S.set i (cf ps i*f)))])))
     (E8 ⟨rfl,Ja Z,Ja ⟨λ_=>Qn,Z⟩⟩) ?step1 ?fin1
    case step1=>
     rintro D ae V i ds ad hi o P ⟨ta,tb,tc,td,te,tg,ti,tj,rfl,g,m⟩;have bi:i<9:=(Ac.1 hi).1;obtain rfl|rfl|rfl|rfl|rfl|rfl|rfl|rfl|rfl:=Sp i O
     all_goals
      simp only[Ai,Ag,Ak]at hi;subst hi
     . clear o;refine DS ?_;exact⟨(De g),m⟩
     . clear o;refine DS ?_;exact⟨(Dh g),m⟩
     . have z:=m.o.1 (DI ad P);have Q:=(z.cell (i:=0) rfl).1.cell;clear o;refine DS ?_;exact⟨(DZ g),m⟩
     . clear o;refine DS ?_;exact⟨(Df g),m⟩
     . have z:=m.o.1 (DI ad P);obtain rfl:=g.o.2.2.1 (o 2 Z);obtain rfl:=g.o.2.2.2.1 (o 3 Z);clear o;have U:=Ja (Hl _ ps (i:Int) V (HP.o V z.2.2));rw[KE]at U;refine Jc rfl rfl λK hK=>?_;go_simp;go_wp2_with(go_at_call 74;refine U.o.mono ?_;rintro e w5 ⟨v5,rfl,ak,q⟩)
       obtain⟨G0,G1,_,_,_,G5,G6,G7⟩:=g.o;exact E8 ⟨rfl,Ja ⟨G0,G1,λ_=>rfl,λ_=>rfl,λ_ _=>ak,λh M=>(G5 h M).below q,λh M=>(G6 h M).below q,G7⟩,Ja ⟨λh=>(m.o.1 h).below q,λh=>(m.o.2 h).below q⟩⟩
     . have z:=m.o.1 (DI ad P);obtain⟨x1,x2,x3,x4,x5,x6,x7,x8,n,r,_,_⟩:=z.rat (i:=1) rfl;obtain⟨Q,e1,e2,e3⟩:=n.cq;clear o;refine DS ?_;exact⟨(Dw g λ_ _=>r),m⟩
     . have Qa:D 8=false:=DI ad P;have R:=g.o.2.2.2.2.1 (o 4 Z) Qa;have h1:=Dn g (o 5 Z) Qa;clear o;have U:=Ja (Iy _ _ (cf ps i) f V R h1 (Ql.o.at i) Qo.o);clear R h1;refine Jc rfl rfl λK hK=>?_;go_simp;go_wp2_with(go_at_call 91;refine U.o.mono ?_;rintro e w5 ⟨v5,rfl,ak,q⟩)
       obtain⟨G0,G1,G2,G3,G4,G5,_,G7⟩:=g.o;exact E8 ⟨rfl,Ja ⟨G0,G1,G2,G3,λh M=>(G4 h M).below q,λh M=>(G5 h M).below q,λ_ _=>ak,G7⟩,Ja ⟨λh=>(m.o.1 h).below q,λh=>(m.o.2 h).below q⟩⟩
     . obtain rfl:=g.o.1 (o 0 Z);obtain rfl:=g.o.2.1 (o 1 Z);clear o;refine DS ?_;exact⟨(LE (Dh (De g))),m⟩
     . have z:=m.o.1 P;have R:=ED g (o 6 Z) P;obtain rfl:=g.o.2.2.2.2.2.2.2 (o 7 Z);have hE:=z.rats (i:=3) rfl;obtain⟨xa,xb,xc,xd,Q,e1,e2,e3,_⟩:=hE.at Qk.o;have f0:=hE.frozen (i*4);have f1:=hE.frozen (i*4+1);have f2:=hE.frozen (i*4+2);have f3:=hE.frozen (i*4+3);obtain⟨s9,a9,l9,c9,t9,b9,k9,d9,rfl⟩:=Jh.form R;clear o;refine DS ?_;exact⟨Ja ⟨g.o.1,g.o.2.1,g.o.2.2.1,g.o.2.2.2.1,λ_ h=>by simp at h,λ_ h=>by simp at h,λ_ h=>by simp at h,λ_=>rfl⟩,Ja ⟨λh=>by simp at h,λ_=>z.putRats (i:=3) rfl Qk.o R⟩⟩
    case fin1=>
     rintro D ae V am ⟨ta,tb,tc,td,te,tg,ti,tj,rfl,g,m⟩;have HO:=Ja (m.o.2 (am 8 DF));clear g m am;go_wp2_with fail
     go_roundw
     case rel=>exact⟨i+1,_,O,by go_num,Ja (N.o.next aq),HO⟩
     case measure=>simp[intOf];omega
  . obtain rfl:i=n:=O
    have hE:=X.o.rats (i:=3) rfl;have Qc:=hE.row (n:=i) (cap:=i) (by rw[N.o.1];exact Aa _) (Aa _) O Qd;rw[Ad (by rw[N.o.1];exact Aa _)]at Qc;have Qf:=Ja (QM _ S wr Qc (Sqs.of λj=>by
     rw[N.o.2 j];split
     . exact Qm.o j
     . exact Hi))
    rw[N.o.done (T:=DN f ps) (JP _ _) (λj hj=>Yu _ _ _) λj hj=>by rw[Yu,Ye (by rw[HN.o];exact hj),A2]]at Qf;clear hE Qc;go_wp2_with(go_at_call 25;refine Qf.o.mono ?_;clear Qf;rintro e w5 ⟨u5,rfl,aj,_,q⟩;obtain⟨a7,l7,c7,rfl⟩:=aj.form;have n5:=boxed_below (X.o.cell (i:=2) rfl).1 q;have x0:=n5.cell;have x1:=n5.frozen;have Qs:=Ja (Eo n5 (C a7 l7 c7) aj.row);have Qp:=Ja ((Bt X.o.2.2 q).setCell (p:=⟨w.heap.size+1+1,0,none⟩) (by show w.heap.size<=w.heap.size+1+1;omega) (C a7 l7 c7));clear aj q n5)
    exact BB (v:=I #[C a7 l7 c7]) (by simp[results,Tryz.results181,go_sem,x0]) rfl ⟨_,rfl,⟨_,rfl,Qs.o⟩,Qp.o⟩
theorem cO(p:List Rat)(n:Nat):((Int.gcd ((YN p n:Nat):Int) (cf p n).num:Nat):Int)=((YN p (n+1):Nat):Int):=rfl
theorem cR(p:List Rat)(n:Nat):((Nat.lcm (Y3 p n) (cf p n).den:Nat):Int)=((Y3 p (n+1):Nat):Int):=rfl
theorem OD(D:Int)(M:Nat)(v:Value)(ps:List Rat)(w:L)(h:Je w v ps)(ak:Jd ps=ps)(hD:D≠0)(af:Sm M D)(aj:D6 D M ps)(hM:M<=1000000000):
 Calls Tryz.prog 137 #[v] w λe w'=>∃u,e=.returned u/\Je w' u (JI ps)/\Bl w w':=by
 have Qe:Tryz.prog.follows .mixedOrders=true:=by kernel_rfl
 obtain⟨m,la,o,rfl⟩:=h.form;obtain⟨bg,bc,bf,bh,_⟩:=h.row.forms;have Qa:∀i,DQ M (cf ps i):=λi=>(aj i).smq hD af;obtain⟨HG,HL,Qb⟩:=Db (λi=>Sok.of (Rb (λj=>(Qa j).1) i) O:∀i,Sok ((YN ps i:Nat):Int)) (λi=>Sok.of (Ra hD af aj i) O:∀i,Sok ((Y3 ps i:Nat):Int)) (show Sqs ps from Sqs.of λi=>Sq.of (Qa i) hM);have HF:=Ja (show ps≠[]->Sq ((Y3 ps ps.length:Rat)/(YN ps ps.length:Rat))/\∀i,Sq (cf ps i*((Y3 ps ps.length:Rat)/(YN ps ps.length:Rat)))from λk=>by
  have h1:=Rc ak k (aj.ln hD);refine⟨?_,λi=>?_⟩
  . have h2:((Y3 ps ps.length:Rat)/(YN ps ps.length:Rat))=Rat.divInt ((Y3 ps ps.length:Nat):Int) ((YN ps ps.length:Nat):Int):=by rw[CA,AP,AP]
    rw[h2];exact Sq.of (DQ.divInt (Int.natCast_ne_zero.2 (Kn ak k)) (Ra hD af aj _) (Rb (λj=>(Qa j).1) _)) hM
  . obtain⟨z,h3,h4⟩:=h1 i;have h5:cf ps i*((Y3 ps ps.length:Rat)/(YN ps ps.length:Rat))=(z:Rat):=by rw[<-h4];unfold JI;rw[Yu]
    rw[h5];have h6:1<=M:=by
     by_cases h7:1<=M
     . exact h7
     . exfalso
       obtain rfl:M=0:=O
       unfold Sm at af
       have:D.natAbs≠0:=Int.natAbs_ne_zero.2 hD
       simp at af;omega
    exact Sq.of ((Lw (D:=1) DF h3 (by rw[show((1:Int):Rat)=1 from rfl,Rat.mul_one])).smq DF (Sm.one M h6)) hM)
 have Qm:=Ja (λk=>Kn ak k:ps≠[]->YN ps ps.length≠0);have M0:=(((Mem.nil w).push (.cell 25 (C m la o)) (cs:=#[C m la o]) ⟨rfl,rfl⟩).push (.cell 25 (C none 0 0)) (cs:=#[C none 0 0]) ⟨rfl,rfl⟩).push (.int 0) (cs:=#[E false,C none 0 0]) (XW _);simp only[Ax]at M0;obtain⟨W0,an⟩:=ex (((w.alloc (H #[C m la o] 25)).alloc (H #[C none 0 0] 25)).alloc (H #[E false,C none 0 0] 35));have Qd:=Ja an;have M1:Hid (Mem w W0 [some (w.heap.size,.cell 25 (C m la o)),some (w.heap.size+1,.cell 25 (C none 0 0)),some (w.heap.size+1+1,.int (((YN ps 0:Nat):Int)))]):=Ja (by rw[<-an];exact M0);obtain⟨n,hn⟩:=ex (ps.length:Nat);obtain⟨T,ba⟩:=ex ((n:Int)-1:Int);have Qc:=Ja λ(V:L) (hB:Bl w V)=>JX (I #[C m la o]) ps V (h.below hB);rw[hn,ba]at Qc;have bm:T+1=(n:Int):=O
 have bn:IntKind.i64.wrap (n:Int)=(n:Int):=by rw[BO];omega
 have HP:=Ja λ(V:L) (hB:Bl w V)=>h.below hB;have HN:=Ja (show ps.length=n from hn);have bz:n<=1099511627776:=O
 have Qf:=Ja λ(V:L)=>Iu 1 O O V;clear h bg bc bf hn ba M0 an bh ak hD af aj hM Qa;go_enter Tryz.func137,Tryz.ntmps137
 go_upto_region 2 with fail
 rw[Qd.o];clear Qd;go_upto_region 3 with(go_at_call 29;refine(Qf.o _).mono ?_;clear Qf;rintro e w1 ⟨u1,rfl,aw,ay⟩;obtain⟨s1,a1,l1,c1,rfl⟩:=Jk.form2 aw)
 obtain⟨V1,hV⟩:=ex (w1.alloc (H #[E s1,C a1 l1 c1] 35));obtain⟨t,ae⟩:=ex (w1.heap.size);have d:Mem w (w1.alloc (H #[E s1,C a1 l1 c1] 35)) [some (w.heap.size,.cell 25 (C m la o)),some (w.heap.size+1,.cell 25 (C none 0 0)),some (w.heap.size+1+1,.int (((YN ps 0:Nat):Int))),some (w1.heap.size,.int (((Y3 ps 0:Nat):Int)))]:=Mem.push (M1.o.below ay) (.int (((Y3 ps 0:Nat):Int))) aw;rw[hV,ae]at d;rw[hV];rw[ae];have M2:Hid (Mem w V1 [some (w.heap.size,.cell 25 (C m la o)),some (w.heap.size+1,.cell 25 (C none 0 0)),some (w.heap.size+1+1,.int (((YN ps 0:Nat):Int))),some (t,.int (((Y3 ps 0:Nat):Int)))]):=Ja (d);clear M1;clear d hV ae;clear aw ay;have c0:=(M2.o.cell (i:=0) rfl).1.cell;go_upto_region 4 with(go_at_call 30;refine(Qc.o _ M2.o.2.2).mono ?_;clear Qc;rintro e w2 ⟨rfl,az⟩)
 have ML:Hid (Mem w w2 [some (w.heap.size,.cell 25 (C m la o)),some (w.heap.size+1,.cell 25 (C none 0 0)),some (w.heap.size+1+1,.int (((YN ps 0:Nat):Int))),some (t,.int (((Y3 ps 0:Nat):Int)))]):=Ja (M2.o.below az);clear c0 az M2;go_loopw [12] (λiv wr=>∃i:Nat,i<=n/\iv=B .i64 (i:Int)/\Hid (Mem w wr [some (w.heap.size,.cell 25 (C m la o)),some (w.heap.size+1,.cell 25 (C none 0 0)),some (w.heap.size+1+1,.int (((YN ps i:Nat):Int))),some (t,.int (((Y3 ps i:Nat):Int)))])) λiv _=>n-(intOf iv).toNat
 case atStart=>exact⟨0,AO _,rfl,ML⟩
 case round=>
  obtain⟨i,W,rfl,M3⟩:=hrel;clear ML;by_cases bt:i<n
  . have bu:(i:Int)<(n:Int):=O
    go_upto_region 6 with fail
    refine Jn Qe [[],[],[],[1,2],[3,3],[0,4,4],[5,5,0,1,2,3,4,5]] (by kernel_rfl) DF
     (λD ad V=>∃(ta tb tc td te tg:Value) (y2:Option (Nat × Dat)),ad={ tmps:=#[I #[C m la o],F (some ⟨w.heap.size,0,none⟩),F (some ⟨w.heap.size+1,0,none⟩),F (some ⟨w.heap.size+1+1,0,none⟩),F (some ⟨t,0,none⟩),B .i64 ↑i,G,G,I #[E s1,C a1 l1 c1],I #[C m la o],B .i64 T,B .i64 ↑n,B .i64 ↑i,E true,B .i64 ↑i,ta,tb,tc,td,te,tg,u21,u22,u23,u24,u25,u26,u27,G,G,G,G,G,G,G,G,G,G,G,G],defers:=[] }/\Hid ((D 0=true->Has V ta (.int (((YN ps i:Nat):Int))))/\(D 1=true->tb=I #[C m la o])/\(D 2=true->tc=Value.int IntKind.i64 ↑i)/\(D 3=true->Has V td (.rat (cf ps i)))/\(D 4=true->Has V te (.int ((cf ps i).num)))/\(D 5=true->Has V tg (.int (((YN ps (i+1):Nat):Int))))/\((D 6=false->y2=some (w.heap.size+1+1,.int (((YN ps i:Nat):Int))))/\(D 6=true->y2=some (w.heap.size+1+1,.int (((YN ps (i+1):Nat):Int))))))/\Hid (Mem w V [some (w.heap.size,.cell 25 (C m la o)),some (w.heap.size+1,.cell 25 (C none 0 0)),y2,some (t,.int (((Y3 ps i:Nat):Int)))]))
     ⟨_,_,_,_,_,_,_,rfl,Ja ⟨Z,Z,Z,Z,Z,Z,⟨λ_=>rfl,Z⟩⟩,Ja (M3.o).drew⟩ ?step2 ?fin2
    case step2=>
     rintro D ad V i ds ap W g ah ⟨ta,tb,tc,td,te,tg,y2,rfl,b,d⟩;have Qj:i<7:=(Ac.1 W).1;obtain rfl|rfl|rfl|rfl|rfl|rfl|rfl:=Hv i O
     all_goals
      simp only[Ai,Ag,Ak]at W;subst W
     . have hf:D 6=false:=DI ap ah;obtain rfl:=ED b hf;clear g;obtain⟨s,a,l,c,n,i⟩:=d.o.int (i:=2) rfl;obtain⟨T,e1⟩:=n.cp;refine Za ?_;exact⟨_,_,_,_,_,_,_,rfl,(LD (De b λ_=>i) ⟨λ_=>rfl,λh=>by simp[hf]at h⟩),Ja (d.o)⟩
     . have T:=(d.o.cell (i:=0) rfl).1.cell;clear g;refine Za ?_;exact⟨_,_,_,_,_,_,_,rfl,(Dh b),Ja (d.o)⟩
     . clear g;refine Za ?_;exact⟨_,_,_,_,_,_,_,rfl,(DZ b),Ja (d.o)⟩
     . obtain rfl:=(b.o.2.1 (g 1 Z));obtain rfl:=(b.o.2.2.1 (g 2 Z));have r:=Ja (Hl _ ps (i:Int) V (HP.o V d.o.2.2));rw[KE]at r;clear g;refine Jc rfl rfl λK hK=>?_;go_simp;go_wp2_with(go_at_call 74;refine r.o.mono ?_;rintro e w5 ⟨v5,rfl,S,f⟩)
       obtain⟨q,_,_,_,P,Q,R⟩:=b.o;exact⟨_,_,_,_,_,_,_,rfl,Ja ⟨λh=>(q h).below f,λ_=>rfl,λ_=>rfl,λ_=>S,λh=>(P h).below f,λh=>(Q h).below f,R⟩,Ja (d.o.below f)⟩
     . have k:=(b.o.2.2.2.1 (g 3 Z));have r:=Ja (aR _ (cf ps i) V k);clear g k;refine Jc rfl rfl λK hK=>?_;go_simp;go_wp2_with(go_at_call 179;refine r.o.mono ?_;rintro e w5 ⟨v5,rfl,S,f⟩)
       obtain⟨q,y,A,N,_,Q,R⟩:=b.o;exact⟨_,_,_,_,_,_,_,rfl,Ja ⟨λh=>(q h).below f,y,A,λh=>(N h).below f,λ_=>S,λh=>(Q h).below f,R⟩,Ja (d.o.below f)⟩
     . have k:=(b.o.1 (g 0 Z));have h1:=(b.o.2.2.2.2.1 (g 4 Z));have r:=Ja (IX _ _ ((YN ps i:Nat):Int) (cf ps i).num V k h1 (by have:=(HG.o i).words;omega) (by have:=(Qb.o.at i).num.words;omega));rw[cO]at r;clear g k h1;refine Jc rfl rfl λK hK=>?_;go_simp;go_wp2_with(go_at_call 84;refine r.o.mono ?_;rintro e w5 ⟨v5,rfl,S,f⟩)
       obtain⟨q,y,A,N,P,_,R⟩:=b.o;exact⟨_,_,_,_,_,_,_,rfl,Ja ⟨λh=>(q h).below f,y,A,λh=>(N h).below f,λh=>(P h).below f,λ_=>S,R⟩,Ja (d.o.below f)⟩
     . obtain rfl:=ED b ah;have hv:=((Dn b) (g 5 Z));obtain⟨s1,a1,l1,c1,rfl⟩:=Jk.form2 (show Jk V _ _ from hv);obtain⟨s,a,l,c,n,i⟩:=d.o.int (i:=2) rfl;have T:=n.c0;have f0:=n.f0;have e1:=n.c1;have f1:=n.f1;clear g;refine Za ?_;obtain⟨q,y,A,N,P,Q,_⟩:=b.o;exact⟨_,_,_,_,_,_,_,rfl,Ja ⟨λh=>(q h).set2 n rfl rfl _ _,y,A,λh=>(N h).set2 n rfl rfl _ _,λh=>(P h).set2 n rfl rfl _ _,λh=>(Q h).set2 n rfl rfl _ _,⟨λh=>by simp at h,λ_=>rfl⟩⟩,Ja (d.o.putInt (i:=2) rfl hv)⟩
    rintro D ad V3 U ⟨ta,tb,tc,td,te,tg,y2,rfl,b,d⟩;obtain rfl:=b.o.2.2.2.2.2.2.2 (U 6 DF);obtain rfl:=b.o.2.1 (U 1 DF);obtain rfl:=b.o.2.2.1 (U 2 DF);clear b U M3;have M4:Hid (Mem w V3 [some (w.heap.size,.cell 25 (C m la o)),some (w.heap.size+1,.cell 25 (C none 0 0)),some (w.heap.size+1+1,.int (((YN ps (i+1):Nat):Int))),some (t,.int (((Y3 ps i:Nat):Int)))]):=d;clear d;go_upto_region 7 with fail
    refine Jn Qe [[],[],[],[1,2],[3,3],[0,4,4],[5,5,0,1,2,3,4,5]] (by kernel_rfl) DF
     (λD ad V=>∃(ti tj tk tl tm tn:Value) (y3:Option (Nat × Dat)),ad={ tmps:=#[I #[C m la o],F (some ⟨w.heap.size,0,none⟩),F (some ⟨w.heap.size+1,0,none⟩),F (some ⟨w.heap.size+1+1,0,none⟩),F (some ⟨t,0,none⟩),B .i64 ↑i,G,G,I #[E s1,C a1 l1 c1],I #[C m la o],B .i64 T,B .i64 ↑n,B .i64 ↑i,E true,B .i64 ↑i,ta,I #[C m la o],B .i64 ↑i,td,te,tg,ti,tj,tk,tl,tm,tn,u27,G,G,G,G,G,G,G,G,G,G,G,G],defers:=[] }/\Hid ((D 0=true->Has V ti (.int (((Y3 ps i:Nat):Int))))/\(D 1=true->tj=I #[C m la o])/\(D 2=true->tk=Value.int IntKind.i64 ↑i)/\(D 3=true->Has V tl (.rat (cf ps i)))/\(D 4=true->Has V tm (.int (((cf ps i).den:Int))))/\(D 5=true->Has V tn (.int (((Y3 ps (i+1):Nat):Int))))/\((D 6=false->y3=some (t,.int (((Y3 ps i:Nat):Int))))/\(D 6=true->y3=some (t,.int (((Y3 ps (i+1):Nat):Int))))))/\Hid (Mem w V [some (w.heap.size,.cell 25 (C m la o)),some (w.heap.size+1,.cell 25 (C none 0 0)),some (w.heap.size+1+1,.int (((YN ps (i+1):Nat):Int))),y3]))
     ⟨_,_,_,_,_,_,_,rfl,Ja ⟨Z,Z,Z,Z,Z,Z,⟨λ_=>rfl,Z⟩⟩,Ja (M4.o).drew⟩ ?step4 ?fin4
    case step4=>
     rintro D ad V i ds ap W g ah ⟨ti,tj,tk,tl,tm,tn,y3,rfl,b,d⟩;have Qj:i<7:=(Ac.1 W).1;obtain rfl|rfl|rfl|rfl|rfl|rfl|rfl:=Hv i O
     all_goals
      simp only[Ai,Ag,Ak]at W;subst W
     . have hf:D 6=false:=DI ap ah;obtain rfl:=ED b hf;clear g;obtain⟨s,a,l,c,n,i⟩:=d.o.int (i:=3) rfl;obtain⟨T,e1⟩:=n.cp;refine Za ?_;exact⟨_,_,_,_,_,_,_,rfl,(LD (De b λ_=>i) ⟨λ_=>rfl,λh=>by simp[hf]at h⟩),Ja (d.o)⟩
     . have T:=(d.o.cell (i:=0) rfl).1.cell;clear g;refine Za ?_;exact⟨_,_,_,_,_,_,_,rfl,(Dh b),Ja (d.o)⟩
     . clear g;refine Za ?_;exact⟨_,_,_,_,_,_,_,rfl,(DZ b),Ja (d.o)⟩
     . obtain rfl:=(b.o.2.1 (g 1 Z));obtain rfl:=(b.o.2.2.1 (g 2 Z));have r:=Ja (Hl _ ps (i:Int) V (HP.o V d.o.2.2));rw[KE]at r;clear g;refine Jc rfl rfl λK hK=>?_;go_simp;go_wp2_with(go_at_call 74;refine r.o.mono ?_;rintro e w5 ⟨v5,rfl,S,f⟩)
       obtain⟨q,_,_,_,P,Q,R⟩:=b.o;exact⟨_,_,_,_,_,_,_,rfl,Ja ⟨λh=>(q h).below f,λ_=>rfl,λ_=>rfl,λ_=>S,λh=>(P h).below f,λh=>(Q h).below f,R⟩,Ja (d.o.below f)⟩
     . have k:=(b.o.2.2.2.1 (g 3 Z));have r:=Ja (Ew _ (cf ps i) V k);clear g k;refine Jc rfl rfl λK hK=>?_;go_simp;go_wp2_with(go_at_call 70;refine r.o.mono ?_;rintro e w5 ⟨v5,rfl,S,f⟩)
       obtain⟨q,y,A,N,_,Q,R⟩:=b.o;exact⟨_,_,_,_,_,_,_,rfl,Ja ⟨λh=>(q h).below f,y,A,λh=>(N h).below f,λ_=>S,λh=>(Q h).below f,R⟩,Ja (d.o.below f)⟩
     . have k:=(b.o.1 (g 0 Z));have h1:=(b.o.2.2.2.2.1 (g 4 Z));have r:=Ja (cN _ _ (Y3 ps i) (cf ps i).den V k h1 (RX ps i) (HL.o i) (Qb.o.at i).den);rw[cR]at r;clear g k h1;refine Jc rfl rfl λK hK=>?_;go_simp;go_wp2_with(go_at_call 180;refine r.o.mono ?_;rintro e w5 ⟨v5,rfl,S,f⟩)
       obtain⟨q,y,A,N,P,_,R⟩:=b.o;exact⟨_,_,_,_,_,_,_,rfl,Ja ⟨λh=>(q h).below f,y,A,λh=>(N h).below f,λh=>(P h).below f,λ_=>S,R⟩,Ja (d.o.below f)⟩
     . obtain rfl:=ED b ah;have hv:=((Dn b) (g 5 Z));obtain⟨s1,a1,l1,c1,rfl⟩:=Jk.form2 (show Jk V _ _ from hv);obtain⟨s,a,l,c,n,i⟩:=d.o.int (i:=3) rfl;have T:=n.c0;have f0:=n.f0;have e1:=n.c1;have f1:=n.f1;clear g;refine Za ?_;obtain⟨q,y,A,N,P,Q,_⟩:=b.o;exact⟨_,_,_,_,_,_,_,rfl,Ja ⟨λh=>(q h).set2 n rfl rfl _ _,y,A,λh=>(N h).set2 n rfl rfl _ _,λh=>(P h).set2 n rfl rfl _ _,λh=>(Q h).set2 n rfl rfl _ _,⟨λh=>by simp at h,λ_=>rfl⟩⟩,Ja (d.o.putInt (i:=3) rfl hv)⟩
    rintro D ad V5 U ⟨ti,tj,tk,tl,tm,tn,y3,rfl,b,d⟩;obtain rfl:=b.o.2.2.2.2.2.2.2 (U 6 DF);obtain rfl:=b.o.2.1 (U 1 DF);obtain rfl:=b.o.2.2.1 (U 2 DF);clear b U M4;have M5:Hid (Mem w V5 [some (w.heap.size,.cell 25 (C m la o)),some (w.heap.size+1,.cell 25 (C none 0 0)),some (w.heap.size+1+1,.int (((YN ps (i+1):Nat):Int))),some (t,.int (((Y3 ps (i+1):Nat):Int)))]):=d;clear d;go_wp2_with fail
    go_roundw
    case rel=>exact⟨i+1,O,by go_num,M5⟩
    case measure=>simp[intOf];omega
  . obtain rfl:i=n:=O
    obtain⟨s6,a6,l6,c6,n6,i6⟩:=M3.o.int (i:=2) rfl;obtain⟨Ql,Qo⟩:=n6.cp;obtain⟨s7,a7,l7,c7,n7,i7⟩:=M3.o.int (i:=3) rfl;obtain⟨Qh,Qp⟩:=n7.cp;have X:=Ja (LU _ _ ((Y3 ps i:Nat):Int) ((YN ps i:Nat):Int) wr i7 i6 (HL.o i) (HG.o i));have Qg:=(M3.o.cell (i:=1) rfl).1;obtain⟨r9,aq⟩:=ex (Rat.divInt ((Y3 ps i:Nat):Int) ((YN ps i:Nat):Int));rw[aq]at X;have Qi:=Ja aq;clear aq;by_cases k:ps=[]
    . have HB:=Ja (show decide (((YN ps i:Nat):Int)≠0)=false by rw[<-HN.o,k];decide);rw[HB.o]at X;have HE:=Ja (show JI ps=[]by rw[k];rfl);clear k HB;go_wp2_with(go_at_call 28;refine X.o.mono ?_;clear X;rintro e w4 ⟨u4,rfl,am,ai⟩;obtain⟨s9,a9,l9,c9,t9,b9,k9,d9,rfl⟩:=Jh.form am;have n5:=boxed_below (boxed_below Qg ai) (Ba w4 (H #[E s9,C a9 l9 c9,E t9,C b9 k9 d9] 37));have x0:=n5.cell;have x1:=n5.frozen)
      rw[HE.o];exact BB (v:=I #[C none 0 0]) (by simp[results,Tryz.results137,go_sem,x0]) rfl ⟨_,rfl,Rk _,((Bt M3.o.2.2 ai).alloc (by have:=M3.o.2.2.size;have:=ai.size;omega) _).setCell (p:=⟨w.heap.size+1,0,none⟩) (by show w.heap.size<=w.heap.size+1;omega) _⟩
    . have HB:=Ja (show decide (((YN ps i:Nat):Int)≠0)=true by
       refine BJ ?_;rw[<-HN.o];exact Int.natCast_ne_zero.2 (Qm.o k))
      rw[HB.o]at X;have HE:=Ja (show r9=(Y3 ps ps.length:Rat)/(YN ps ps.length:Rat)by rw[<-Qi.o,CA,AP,AP,HN.o]);have HT:=Ja (show DN r9 ps=JI ps by rw[HE.o];rfl);have HS:=Ja (show Sq r9/\∀j,Sq (cf ps j*r9)by rw[HE.o];exact HF.o k);clear k HB;have H2:=Ja λ(V:L) (hB:Bl w V) (x:Value) (hx:Jh V x r9)=>Rl (I #[C m la o]) x ps r9 V (HP.o V hB) hx Qb.o HS.o.1 HS.o.2;rw[HT.o]at H2;go_upto_region 12 with(go_at_call 28;refine X.o.mono ?_;clear X;rintro e w4 ⟨u4,rfl,am,ai⟩;obtain⟨s9,a9,l9,c9,t9,b9,k9,d9,rfl⟩:=Jh.form am)
      clear Ql Qo Qh Qp;obtain⟨V8,hV⟩:=ex (w4.alloc (H #[E s9,C a9 l9 c9,E t9,C b9 k9 d9] 37));obtain⟨B8,ae⟩:=ex (w4.heap.size);have d:Mem w (w4.alloc (H #[E s9,C a9 l9 c9,E t9,C b9 k9 d9] 37)) [some (w.heap.size,.cell 25 (C m la o)),some (w.heap.size+1,.cell 25 (C none 0 0)),some (w.heap.size+1+1,.int (((YN ps i:Nat):Int))),some (t,.int (((Y3 ps i:Nat):Int))),some (w4.heap.size,.rat r9)]:=Mem.push (M3.o.below ai) (.rat r9) am;rw[hV,ae]at d;rw[hV];rw[ae];have M4:Hid (Mem w V8 [some (w.heap.size,.cell 25 (C m la o)),some (w.heap.size+1,.cell 25 (C none 0 0)),some (w.heap.size+1+1,.int (((YN ps i:Nat):Int))),some (t,.int (((Y3 ps i:Nat):Int))),some (B8,.rat r9)]):=Ja (d);clear M3;clear d hV ae;obtain⟨s9,a9,l9,c9,t9,b9,k9,d9,n9,r9,i9,j9⟩:=M4.o.rat (i:=4) rfl;obtain⟨bi,bj,bk,bl⟩:=n9.cq;have c0:=(M4.o.cell (i:=0) rfl).1.cell;have n1:=(M4.o.cell (i:=1) rfl).1;have HQ:=Ja M4.o.2.2;go_wp2_with(go_at_call 181;refine(H2.o _ HQ.o _ r9).mono ?_;clear H2;rintro e w5 ⟨u5,rfl,ax,f⟩;obtain⟨a7,l7,c7,rfl⟩:=ax.form;have n5:=boxed_below n1 f;have x0:=n5.cell;have x1:=n5.frozen;have Qn:=Ja (Ko n5 (x:=C a7 l7 c7) ax);have Qk:=Ja ((Bt HQ.o f).setCell (p:=⟨w.heap.size+1,0,none⟩) (by show w.heap.size<=w.heap.size+1;omega) (C a7 l7 c7));clear ax f n5)
      exact BB (v:=I #[C a7 l7 c7]) (by simp[results,Tryz.results137,go_sem,x0]) rfl ⟨_,rfl,Qn.o,Qk.o⟩
