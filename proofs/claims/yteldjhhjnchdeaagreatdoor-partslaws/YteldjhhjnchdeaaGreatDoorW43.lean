import Derived.Test.YteldjhhjnchdeaaGreatDoorW42
open Go.Value renaming slice->C,bool->E,pointer->F,agg->I,int->B
open Go renaming undef->G,World->L
open Go.Obj renaming cells->H
set_option maxRecDepth 100000
set_option maxHeartbeats 16000000
namespace Go.Proofs.YteldjhhjnchdeaaGreatDoor
section
open Go.RowKit Go.Shelf
attribute [local go_sem] Oper.semAt_some
structure DivS(A la:Nat)(S:Nat->List Rat->List Rat->Prop)(qs:List Rat):Prop where
 next:∀(k:Nat) (R Q:List Rat) (n:Nat) (a:Rat),S k R Q->(∀i,i+qs.length<=R.length->cf Q i=0)->qs.length<=R.length->n=R.length-qs.length->a=cf R (R.length-1)/cf qs (qs.length-1)->
  (∀i,cf (JE R (Jo (Jd (Ep n [a])) qs)) i=cf R i-(if n<=i then a*cf qs (i-n)else 0))->(∀i,cf (XD Q (Jd (Ep n [a]))) i=if i=n then a else cf Q i)->S (k+1) (JE R (Jo (Jd (Ep n [a])) qs)) (XD Q (Jd (Ep n [a])))
 size:∀(k:Nat) (R Q:List Rat),k<=la->S k R Q->Sqs R/\Sqs Q/\∃z,z+(2*A+1)<=1000000000/\∀i,DV z (cf R i)
end
section
open Go.RowKit Go.Shelf
section
variable {D E l:Int} {K A:Nat} {ps qs:List Rat}
structure Dvn(D E l:Int)(K A:Nat)(ps qs:List Rat):Prop where
 hD:D≠0
 sD:Sm K D
 hp:D6 D K ps
 hE:E≠0
 sE:Sm A E
 hq:D6 E A qs
 hl:l≠0
 sl:Sm A l
 lead:cf qs (qs.length-1)=Rat.divInt l E
variable{m:Nat}
theorem Dvn.lne(h:Dvn D E l K A ps qs):cf qs (qs.length-1)≠0:=by
 rw[h.lead];intro e;have hE:(E:Rat)≠0:=by exact_mod_cast h.hE
 have a:(l:Rat)/(E:Rat)*(E:Rat)=l:=A4 hE;rw[<-Cs,e,Cy]at a;exact h.hl (by exact_mod_cast a.symm)
theorem Dvn.den(h:Dvn D E l K A ps qs)(k:Nat):D*l^k≠0/\Sm (K+k*(A+1)+1) (D*l^k):=by
 refine⟨Cv h.hD (Int.pow_ne_zero h.hl),(h.sD.mul (h.sl.powZ k)).mono ?_⟩;rw[AO];omega
theorem Dvn.at(h:Dvn D E l K A ps qs)(k:Nat):(∀i,DV (K+k*(A+1)+1) (cf (Jz ps qs (qs.length-1) m k).2 i))/\∀i,DV (K+k*(A+1)+1) (cf (Jz ps qs (qs.length-1) m k).1 i):=by
 have b:=QB (m:=m) h.hD h.hp h.hE h.sE h.hq h.hl h.sl h.lead h.lne k;have a:=h.den k;exact⟨λi=>((b.1 i).mono Y).smq a.1 a.2,λi=>((b.2 i).mono Y).smq a.1 a.2⟩
theorem Dvn.sizes(h:Dvn D E l K A ps qs)(c:2*(K+m*(A+1)+1)+2*(2*A+1)<=1000000000):∀k,k<=m->∃z,z+(2*A+1)<=1000000000/\(k<m->2*z+2*(2*A+1)<=1000000000)/\(∀i,DV z (cf (Jz ps qs (qs.length-1) m k).2 i))/\∀i,DV (z+A) (cf (Jz ps qs (qs.length-1) m k).1 i):=by
 intro k a;have b:k*(A+1)<=m*(A+1):=Am _ a;exact⟨K+k*(A+1)+1,Y,λ_=>by omega,(h.at k).1,λi=>((h.at k).2 i).mono Y⟩
theorem Dvn.rem(h:Dvn D E l K A ps qs)(b:ps.length-(qs.length-1)=m):D6 (D*l^m) (K+m*(A+1)) (JZ ps qs)/\D6 (D*l^m) (K+m*(A+1)) (Jt ps qs):=by
 have a:=QB (m:=m) h.hD h.hp h.hE h.sE h.hq h.hl h.sl h.lead h.lne m;refine⟨λi=>?_,λi=>?_⟩
 . unfold JZ;rw[Yc,b];exact a.1 i
 . unfold Jt;rw[Yc,b];exact a.2 i
end
def EE(A:Nat)(p:List Rat):Prop:=∀i,∃z:Int,Sm A z/\cf p i=(z:Rat)
variable{p:List Rat}{A:Nat}
theorem EE.cdl(h:EE A p):D6 1 A p:=λi=>by
 obtain⟨z,a,b⟩:=h i;exact LD DL a (by rw[b];grind)
theorem EE.mono{A B:Nat}{p:List Rat}(h:EE A p)(c:A<=B):EE B p:=λi=>by
 obtain⟨z,a,b⟩:=h i;exact⟨z,a.mono c,b⟩
theorem EE.ln{A:Nat}{p:List Rat}(h:EE A p):Ln A p:=h.cdl.ln DL
theorem EE.smq{A:Nat}{p:List Rat}(h:EE A p)(a:1<=A)(i:Nat):DV A (cf p i):=(h.cdl i).smq DL (Sm.one A a)
theorem Mz(hp:Jd p=p)(d:p≠[])(h:Ln A p):∃E:Int,E≠0/\Sm A E/\D6 E A (Jp p):=by
 obtain⟨c,k,b⟩:=h;have hl:=Jw hp d;obtain⟨E,f,a⟩:=b (p.length-1);have hE:E≠0:=λe=>by
  rw[e]at a;exact XN hl k a
 refine⟨E,hE,f,λi=>?_⟩;obtain⟨z,g,j⟩:=b i;refine LD hE g ?_;unfold Jp;rw[Yh,<-j,<-a];grind
theorem Ln.sqs(hp:Jd p=p)(h:Ln A p)(hA1:1<=A):∀i,DV A (cf (Jp p) i):=by
 by_cases a:p=[]
 . subst a;intro i;rw[Z9,Yx];exact DV.zero _ hA1
 . obtain⟨E,b,c,d⟩:=Mz hp a h;exact λi=>(d i).smq b c
end
section
variable{p q:List Rat}{c:Rat}
theorem aH(c:Rat):Xb c=c\/Xb c=-c:=by
 unfold Xb;split
 . exact Or.inr rfl
 . exact Or.inl rfl
theorem aI(h:c≠0):Xb c≠0:=by
 rcases aH c with e|e
 . rw[e];exact h
 . rw[e];intro a;exact h (by rw[<-Rat.neg_neg c,a];rfl)
theorem aJ(h:c≠0):∀n:Nat,c^n≠0:=by
 intro n;induction n with
 |zero=>rw[Rat.pow_zero];decide
 |succ n a=>rw[Rat.pow_succ];exact XN a h
def F7(p q:List Rat):Rat:=Xb (cf q (q.length-1))^(p.length+1-q.length)
def YS(p q:List Rat):List Rat:=DX (F7 p q) p
def EJ(p q:List Rat):List Rat:=JE [] (J2 (JZ (YS p q) q))
theorem aK:J2 []=[]:=rfl
theorem XW(p:List Rat):Jd (J2 p)=J2 p:=JP _ _
theorem GY(hp:Jd p=p):∃c:Rat,0<c/\J2 p=DX c p:=by
 by_cases a:p=[]
 . subst a;exact⟨1,DL,rfl⟩
 . exact⟨_,aG hp a,rfl⟩
theorem IX(hp:Jd p=p){K:Nat}(h:Ln K p):EE K (J2 p):=by
 by_cases a:p=[]
 . subst a;exact λi=>⟨0,Sm.zero K,by rw[aK,Yx];rfl⟩
 . exact QO hp a h
theorem NA(hq:Jd q=q)(a:q≠[]):F7 p q≠0:=aJ (aI (Jw hq a)) _
theorem LE(p q:List Rat):Jd (EJ p q)=EJ p q:=Yi _ _
theorem NB(hq:Jd q=q)(b:q≠[]):∃c:Rat,c≠0/\EJ p q=DX c (JZ p q)/\EJ p q=DX (-1) (J2 (JZ (YS p q) q)):=by
 have a:EJ p q=DX (-1) (J2 (JZ (YS p q) q)):=YT (LE _ _) (JP _ _) λx=>by
  unfold EJ;rw[XP,Yq];simp[ev];grind
 have f:=(K8 (c:=F7 p q) (d:=1) DL p q hq b).2;rw[IU hq]at f;obtain⟨c,g,j⟩:=GY (Y2 (YS p q) q);have i:c≠0:=λe=>by rw[e]at g;exact absurd g DL
 refine⟨F7 p q*c*-1,XN (XN (NA hq b) i) DL,?_,a⟩;rw[a,j];unfold YS;rw[f,K5,K5,Rat.mul_assoc]
theorem QP(hq:Jd q=q)(a:q≠[]){A:Nat}(h:Ln A (JZ p q)):EE A (J2 (JZ (YS p q) q))/\EE A (EJ p q):=by
 have b:=(K8 (c:=F7 p q) (d:=1) DL p q hq a).2;rw[IU hq]at b;have f:EE A (J2 (JZ (YS p q) q)):=IX (Y2 _ _) (by unfold YS;rw[b];exact h.sc (NA hq a));refine⟨f,λi=>?_⟩;obtain⟨z,g,j⟩:=f i;obtain⟨_,_,_,e⟩:=NB (p:=p) hq a;exact⟨-z,g.neg,by rw[e,Yh,j,Rat.intCast_neg];grind⟩
structure Chn(p q:List Rat)(A:Nat)(a b:List Rat):Prop where
 ta:Jd a=a
 tb:Jd b=b
 wa:EE A a
 wb:EE A b
 gc:Jm a b=Jm p q
 la:a.length<=max p.length q.length
 lb:b.length<=q.length
 nx:b≠[]->Ln A (JZ a b)
 eu:Eu (J2 p) (J2 q) a b
def Di(K:Nat)(p q:List Rat):Nat:=(K+1)*(p.length+q.length+1)
theorem I8(K:Nat)(p q:List Rat):K+1<=Di K p q:=by
 unfold Di
 have:(K+1)*1<=(K+1)*(p.length+q.length+1):=As _ Y
 omega
theorem aL(K:Nat)(p q:List Rat):(K+1)*(p.length+q.length)<=Di K p q:=As _ Y
theorem Y3(hp:Jd p=p):(J2 p).length=p.length:=by
 obtain⟨c,a,e⟩:=GY hp;rw[e];exact Ye (λb=>by rw[b]at a;exact absurd a DL) hp
theorem QQ(hp:Jd p=p)(hq:Jd q=q):Jm (J2 p) (J2 q)=Jm p q:=by
 obtain⟨c,b,e⟩:=GY hp;obtain⟨d,f,g⟩:=GY hq;rw[e,g];exact QI (λa=>by rw[a]at b;exact absurd b DL) (λa=>by rw[a]at f;exact absurd f DL) hp hq
section
variable {K:Nat} {p q a b:List Rat}
theorem Chn.ln_rem(hp:Jd p=p)(hq:Jd q=q)(d:Ln K p)(e:Ln K q)(hl:p.length+q.length<=1000000000)(h:Eu (J2 p) (J2 q) a b)(f:b≠[]):Ln (Di K p q) (JZ a b):=by
 have c:=Z8 (XW p) (XW q) (IX hp d).ln (IX hq e).ln (by rw[Y3 hp,Y3 hq];exact hl) h f;rw[Y3 hp,Y3 hq]at c;exact c.mono (aL _ _ _)
theorem Chn.start(hp:Jd p=p)(hq:Jd q=q)(a:Ln K p)(b:Ln K q)(hl:p.length+q.length<=1000000000):Chn p q (Di K p q) (J2 p) (J2 q) where
 ta:=XW p
 tb:=XW q
 wa:=(IX hp a).mono (by have:=I8 K p q;omega)
 wb:=(IX hq b).mono (by have:=I8 K p q;omega)
 gc:=QQ hp hq
 la:=by rw[Y3 hp];exact Nat.le_max_left _ _
 lb:=by rw[Y3 hq];exact Aa _
 nx:=Chn.ln_rem hp hq a b hl (.base _ _)
 eu:=.base _ _
theorem Chn.next(hp:Jd p=p)(hq:Jd q=q)(i:Ln K p)(j:Ln K q)(hl:p.length+q.length<=1000000000)(h:Chn p q (Di K p q) a b)(d:b≠[]):Chn p q (Di K p q) b (EJ a b):=by
 obtain⟨c,g,e,_⟩:=NB (p:=a) h.tb d;have f:Eu (J2 p) (J2 q) b (EJ a b):=by rw[e];exact h.eu.tail d g
 have l:(EJ a b).length<b.length:=by
  rw[e,Ye g (Y2 _ _)];exact(YW a b h.tb d).2.1
 have k:=h.lb;exact⟨h.tb,LE _ _,h.wb,(QP h.tb d (h.nx d)).2,by rw[<-f.gcd (XW p) (XW q)];exact QQ hp hq,Y,Y,Chn.ln_rem hp hq i j hl f,f⟩
end
variable{A:Nat}
theorem LF{a b:List Rat}(f:Jd b=b)(d:b≠[]):(EJ a b).length<b.length:=by
 obtain⟨c,g,e,_⟩:=NB (p:=a) f d;rw[e,Ye g (Y2 _ _)];exact(YW a b f d).2.1
structure Rhn(p q:List Rat)(A:Nat)(a b:List Rat):Prop where
 ta:Jd a=a
 tb:Jd b=b
 ca:∃D:Int,D≠0/\Sm A D/\D6 D A a
 cb:∃E:Int,E≠0/\Sm A E/\D6 E A b
 mb:b≠[]->cf b (b.length-1)=1
 ma:Jp a=a
 gc:Jm a b=Jm p q
 la:a.length<=max p.length q.length
 lb:b.length<=q.length
 nx:b≠[]->Ln A (JZ a b)
 eu:Eu (Jp p) (Jp q) a b
theorem NC(a:1<=A):∃D:Int,D≠0/\Sm A D/\D6 D A []:=⟨1,DL,Sm.one A a,λi=>by rw[Yx];exact CD.zero _ _⟩
theorem I9{p:List Rat}(hp:Jd p=p)(h:Ln A p)(b:1<=A):∃E:Int,E≠0/\Sm A E/\D6 E A (Jp p):=by
 by_cases a:p=[]
 . subst a;exact NC b
 . exact Mz hp a h
section
variable {K:Nat} {p q a b:List Rat}
end
end
section
open Go.RowKit Go.Shelf
theorem QR(q:Rat):GO q 0<0↔q<0:=by
 rw[Rat.lt_iff];unfold GO EC;split<;>(try split)<;>omega
theorem aM(a b:Nat):(a:Int)*((b:Int)/((Int.gcd a b:Nat):Int))=((Nat.lcm a b:Nat):Int):=by
 show(a:Int)*((b:Int)/((Nat.gcd a b:Nat):Int))=_;rw[<-Ff,<-Int.natCast_mul];congr 1;rw[Nat.lcm,Nat.mul_div_assoc _ (CU a b)]
theorem IY(ps:List Rat)(i:Nat):(if((i:Nat):Int)<0 then(0:Rat)else cf ps ((i:Nat):Int).toNat)=cf ps i:=by
 rw[BH Y,CQ]
theorem QS(A:Nat)(b c:Value)(ps qs:List Rat)(w:L)(g:Jc w b ps)(j:Jc w c qs)(hs:Sqs ps)(hq:∀i,DV A (cf qs i))(l:Jd ps=ps)(m:Jd qs=qs)(a:qs≠[])
(f:∀k,k<=ps.length-(qs.length-1)->∃z,z+(2*A+1)<=1000000000/\(k<ps.length-(qs.length-1)->2*z+2*(2*A+1)<=1000000000)/\(∀i,DV z (cf (Jz ps qs (qs.length-1) (ps.length-(qs.length-1)) k).2 i))/\∀i,DV (z+A) (cf (Jz ps qs (qs.length-1) (ps.length-(qs.length-1)) k).1 i)):
 Calls Tryz.prog 22 #[b,c] w λe d=>∃u v,e=.returned (.tuple #[u,v,E true])/\Jc d u (Jt ps qs)/\Jc d v (JZ ps qs)/\Bl w d:=by
 have h:=M3.P8 A b c ps qs w g j hs hq l m λ_=>f;rw[BM a,BH a,BH a]at h;exact h
end
namespace M3
open Go.RowKit Go.Shelf
variable{S:List Rat}{c i l n:Nat}{a:Option Addr}{v:Value}{V:L}
theorem QT(n:Nat)(h:n<=2199023255552)(w:L):(Instr.makeSlice 22 (B .i64 (n:Int)) (B .i64 (n:Int))).run Tryz.prog w=.ok (C (some ⟨w.heap.size,0,none⟩) n n) (w.alloc (H (J4 n) 65)):=by
 obtain⟨i,d,b⟩:=Fv.1 Tryz.infoRat;simp only[Prod.mk.injEq]at b;obtain⟨e,hs,c⟩:=b;have a:=run_make (P:=Tryz.prog) w 22 65 i _ Tryz.underlying22 d e .i64 .i64 n n Y (Int.le_refl _) (by rw[c];omega) Y;simp only[CQ,hs]at a;exact a
theorem FT(V:L):Has V (I #[C Option.none 0 0]) (.poly []):=⟨_,rfl,row_zero V Option.none⟩
theorem QU(V:L):Jc V (I #[C Option.none 0 0]) []:=⟨_,rfl,row_zero V Option.none⟩
theorem Mem.poly2{w:L}{bs:List (Option (Nat × Dat))}(M:Mem w V bs){B:Nat}{ps:List Rat}(h:bs[i]?=some (some (B,.poly ps))):∃a l c,Boxed V B 25 (C a l c)/\Jc V (I #[C a l c]) ps:=by
 obtain⟨a,l,c,b,d⟩:=M.poly h;exact⟨a,l,c,b,_,rfl,d⟩
theorem Jx{W:L}{B:Nat}(b:Boxed W B 25 (C a l c)){x:Value}{qs:List Rat}(h:Jc W v qs):Jc (W.setCell ⟨B,0,Option.none⟩ x) v qs:=by
 obtain⟨u,e,h⟩:=h;exact⟨u,e,EY b x h⟩
theorem Has.set1{d:Dat}(h:Has V v d){B:Nat}(q:Boxed V B 25 (C a l c))(e:JG (C a l c)=true)(b:Value):Has (V.setCell ⟨B,0,Option.none⟩ b) v d:=
 h.keep (PF q e b) (Or.inr λ_ _ g=>EY q b g)
theorem Tup2.set1{V:L}{v:Value}{d1 d:Dat}(h:Tup2 V v d1 d){B:Nat}{a:Option Addr}{l c:Nat}(q:Boxed V B 25 (C a l c))(f:JG (C a l c)=true)(b:Value):Tup2 (V.setCell ⟨B,0,Option.none⟩ b) v d1 d:=by
 obtain⟨u1,u2,e,g,i⟩:=h;exact⟨u1,u2,e,g.set1 q f b,i.set1 q f b⟩
attribute [local go_sem] Oper.semAt_some
theorem aN(va:Value)(q:Rat)(w:L)(Q:Jj w va q)(ah:Sq q):
 Calls Tryz.prog 129 #[va] w λe w'=>∃u,e=.returned u/\Jj w' u (Xb q)/\Bl w w':=by
 obtain⟨am,W,ak,ad,an,X,ai,ae,rfl⟩:=Jj.form Q;have g:=(((Mem.nil w).push (.rat q) Q).push (.rat 0) (EH _));simp only[BA]at g;have g:Mem w ((w.alloc (H #[E am,C W ak ad,E an,C X ai ae] 65)).alloc (H #[E false,C none 0 0,E false,C none 0 0] 65)) [some (w.heap.size,.rat q),some (w.heap.size+1,.rat 0)]:=g;obtain⟨W0,P⟩:=ex ((w.alloc (H #[E am,C W ak ad,E an,C X ai ae] 65)).alloc (H #[E false,C none 0 0,E false,C none 0 0] 65));have U:=Z P;rw[P]at g;have j:Hid (Mem w W0 [some (w.heap.size,.rat q),some (w.heap.size+1,.rat 0)]):=Z g;have T:=Z ah;clear g P Q ah;go_enter Tryz.func129,Tryz.ntmps129
 go_upto_region 1 with fail
 rw[U.o];clear U;obtain⟨s1,a1,l1,c1,t1,b1,k1,d1,z,r1,i1,j1⟩:=j.o.rat (i:=0) rfl;obtain⟨t,k,o,s⟩:=z.cq;obtain⟨s2,a2,l2,c2,t2,b2,k2,d2,a,r2,i2,j2⟩:=j.o.rat (i:=1) rfl;obtain⟨b,c,f,d⟩:=a.cq;obtain⟨m,l,r,p⟩:=a.fq;obtain⟨x,A,HR⟩:=Dh (PN _ _ q 0 W0 r1 (EH _) T.o Hn) (λ(V:L) (h:Bl W0 V)=>Kp _ _ 0 q V (EH _) (r1.below h) Hn T.o) r1;obtain⟨n,R⟩:=ex (GO q 0);rw[R]at x;have S:=Z R;clear R r1 i1 j1;by_cases af:n<0
 . have D:=Z (show 0-q=Xb q by
    have N:=(QR q).1 (by rw[S.o];exact af);unfold Xb;rw[BJ N];grind)
   rw[D.o]at A;go_wp2_with(first
    |(go_at_call 68;refine x.o.mono ?_;clear x;rintro e w1 ⟨rfl,hq⟩;clear t k o s;obtain⟨t,k,o,s⟩:=(z.below hq).cq;clear b c f d;obtain⟨b,c,f,d⟩:=(a.below hq).cq;clear m l r p;obtain⟨m,l,r,p⟩:=(a.below hq).fq)
    |(go_at_call 51;refine(A.o _ hq).mono ?_;clear A;rintro e w2 ⟨u2,rfl,y,ay⟩;obtain⟨bc,ap,ba,av,bf,aq,az,aw,rfl⟩:=Jj.form y;have hq:=Bt hq ay;clear t k o s;obtain⟨t,k,o,s⟩:=(z.below hq).cq;clear b c f d;obtain⟨b,c,f,d⟩:=(a.below hq).cq;clear m l r p;obtain⟨m,l,r,p⟩:=(a.below hq).fq))
   have M:=Bt j.o.2.2 hq;have K:=j.o.ge 1 rfl;exact BB (v:=I #[E bc,C ap ba av,E bf,C aq az aw]) (by simp[results,Tryz.results129,go_sem,b,c,f,d]) rfl ⟨_,rfl,y.put4 (a.below hq) rfl rfl rfl rfl _ _ _ _,JC M K _ _ _ _⟩
 . have D:=Z (show Xb q=q by
    have N:¬q<0:=λh=>af (by rw[<-S.o];exact(QR q).2 h);unfold Xb;rw[BH N])
   go_wp2_with(go_at_call 68;refine x.o.mono ?_;clear x;rintro e w1 ⟨rfl,hq⟩;clear t k o s;obtain⟨t,k,o,s⟩:=(z.below hq).cq;clear b c f d;obtain⟨b,c,f,d⟩:=(a.below hq).cq;clear m l r p;obtain⟨m,l,r,p⟩:=(a.below hq).fq)
   have y:=HR.o.below hq;rw[<-D.o]at y;have M:=Bt j.o.2.2 hq;have K:=j.o.ge 1 rfl;exact BB (v:=I #[E s1,C a1 l1 c1,E t1,C b1 k1 d1]) (by simp[results,Tryz.results129,go_sem,b,c,f,d]) rfl ⟨_,rfl,y.put4 (a.below hq) rfl rfl rfl rfl _ _ _ _,JC M K _ _ _ _⟩
theorem aO(va vb:Value)(x y:Nat)(w:L)(ha:Jk w va (x:Int))(hb:Jk w vb (y:Int))(hx:0<x)(ba:Sok (x:Int))(bc:Sok (y:Int)):
 Calls Tryz.prog 97 #[va,vb] w λe w'=>∃u,e=.returned u/\Jk w' u ((Nat.lcm x y:Nat):Int)/\Bl w w':=by
 have Qj:Tryz.prog.follows .mixedOrders=true:=by kernel_rfl
 have HG:=Z (show((Int.gcd x y:Nat):Int)≠0 by have:=Nat.gcd_pos_of_pos_left y hx;exact Int.natCast_ne_zero.2 (by show Nat.gcd x y≠0;omega));obtain⟨aw,af,aq,ak,rfl⟩:=Jk.form2 ha;obtain⟨ay,ah,av,am,rfl⟩:=Jk.form2 hb;have Q:=((((Mem.nil w).push (.int ((x:Int))) ha).push (.int ((y:Int))) (Has.alloc (d:=.int ((y:Int))) hb _)).push (.int 0) (XI _));simp only[BA]at Q;have Q:Mem w (((w.alloc (H #[E aw,C af aq ak] 63)).alloc (H #[E ay,C ah av am] 63)).alloc (H #[E false,C none 0 0] 63)) [some (w.heap.size,.int ((x:Int))),some (w.heap.size+1,.int ((y:Int))),some (w.heap.size+1+1,.int 0)]:=Q;obtain⟨W0,an⟩:=ex (((w.alloc (H #[E aw,C af aq ak] 63)).alloc (H #[E ay,C ah av am] 63)).alloc (H #[E false,C none 0 0] 63));have Qg:=Z an;rw[an]at Q;have M1:Hid (Mem w W0 [some (w.heap.size,.int ((x:Int))),some (w.heap.size+1,.int ((y:Int))),some (w.heap.size+1+1,.int 0)]):=Z Q;have Qc:=Z ba;have Qa:=Z bc;clear Q an ha hb ba bc;go_enter Tryz.func97,Tryz.ntmps97
 go_upto_region 1 with fail
 rw[Qg.o];clear Qg;clear hx;refine Jn Qj [[],[],[],[1,2],[0,3,3],[4],[5],[5],[5],[],[],[9,6,4,0,1,2,3,4,5,6,9,10],[10,7,11,0,1,2,3,4,5,6,7,9,10,11],[8,12,0,1,2,3,4,5,6,7,8,9,10,11,12]] (by kernel_rfl) DL
  (λD ai V=>∃(tm ta tb tc td tl te tf tg ti tj tk:Value) (T S:Option (Nat × Dat)),ai={ tmps:=#[I #[E aw,C af aq ak],I #[E ay,C ah av am],F (some ⟨w.heap.size,0,none⟩),F (some ⟨w.heap.size+1,0,none⟩),F (some ⟨w.heap.size+1+1,0,none⟩),ti,tj,tk,tl,tm,ta,tb,tc,td,te,tf,tg,G,G,G],defers:=[] }/\Hid ((D 0=true->Has V tm (.int ((y:Int))))/\(D 1=true->Has V ta (.int ((x:Int))))/\(D 2=true->Has V tb (.int ((y:Int))))/\(D 3=true->Has V tc (.int (((Int.gcd x y:Nat):Int))))/\(D 4=true->Tup2 V td (.int ((y:Int)/((Int.gcd x y:Nat):Int))) (.int ((y:Int)%((Int.gcd x y:Nat):Int))))/\(D 5=true->Tup2 V tl (.int ((y:Int)/((Int.gcd x y:Nat):Int))) (.int ((y:Int)%((Int.gcd x y:Nat):Int))))/\(D 6=true->Has V te (.int ((y:Int)/((Int.gcd x y:Nat):Int))))/\(D 7=true->Has V tf (.int ((y:Int)%((Int.gcd x y:Nat):Int))))/\(D 8=true->tg=E true)/\((D 9=false->T=none)/\(D 9=true->D 11=false->∃B:Nat,ti=F (some ⟨B,0,none⟩)/\T=some (B,.int 0))/\(D 11=true->∃B:Nat,ti=F (some ⟨B,0,none⟩)/\T=some (B,.int ((y:Int)/((Int.gcd x y:Nat):Int)))))/\((D 10=false->S=none)/\(D 10=true->D 12=false->∃B:Nat,tj=F (some ⟨B,0,none⟩)/\S=some (B,.int 0))/\(D 12=true->∃B:Nat,tj=F (some ⟨B,0,none⟩)/\S=some (B,.int ((y:Int)%((Int.gcd x y:Nat):Int)))))/\(D 13=true->tk=E true))/\Hid (Mem w V [some (w.heap.size,.int ((x:Int))),some (w.heap.size+1,.int ((y:Int))),some (w.heap.size+1+1,.int 0),T,S]))
  ⟨_,_,_,_,_,_,_,_,_,_,_,_,none,none,rfl,Z ⟨O,O,O,O,O,O,O,O,O,O,O,O⟩,Z (((M1.o).none).none).drew⟩ ?step1 ?fin1
 case step1=>
  rintro D ai V i ds az hi f R ⟨tm,ta,tb,tc,td,tl,te,tf,tg,ti,tj,tk,T,S,rfl,b,g⟩;have ce:i<14:=(Af.1 hi).1;obtain rfl|rfl|rfl|rfl|rfl|rfl|rfl|rfl|rfl|rfl|rfl|rfl|rfl|rfl:=FW i Y
  all_goals
   simp only[Aj,Ah,Al]at hi;subst hi
  . clear f;obtain⟨s,a,l,c,n,i⟩:=g.o.int (i:=1) rfl;obtain⟨e0,e1⟩:=n.cp;refine Zt ?_;exact⟨_,_,_,_,_,_,_,_,_,_,_,_,_,_,rfl,(Dc b λ_=>i),Z (g.o)⟩
  . clear f;obtain⟨s,a,l,c,n,i⟩:=g.o.int (i:=0) rfl;obtain⟨e0,e1⟩:=n.cp;refine Zt ?_;exact⟨_,_,_,_,_,_,_,_,_,_,_,_,_,_,rfl,(Dg b λ_=>i),Z (g.o)⟩
  . clear f;obtain⟨s,a,l,c,n,i⟩:=g.o.int (i:=1) rfl;obtain⟨e0,e1⟩:=n.cp;refine Zt ?_;exact⟨_,_,_,_,_,_,_,_,_,_,_,_,_,_,rfl,(DZ b λ_=>i),Z (g.o)⟩
  . have P:=(b.o.2.1 (f 1 O));have A:=(b.o.2.2.1 (f 2 O));have HC:=Z (Hm _ _ (x:Int) (y:Int) V P A (by have:=Qc.o.words;omega) (by have:=Qa.o.words;omega));clear f P A;refine Jb rfl rfl λK hK=>?_;go_simp;go_wp2_with(go_at_call 90;refine HC.o.mono ?_;rintro e w5 ⟨v5,rfl,ap,j⟩)
    obtain⟨k,m,o,_,N,q,r,t,z⟩:=b.o;exact⟨_,_,_,_,_,_,_,_,_,_,_,_,_,_,rfl,Z ⟨λh=>(k h).below j,λh=>(m h).below j,λh=>(o h).below j,λ_=>ap,λh=>(N h).below j,λh=>(q h).below j,λh=>(r h).below j,λh=>(t h).below j,z⟩,Z (g.o.below j)⟩
  . have P:=(b.o.1 (f 0 O));have A:=(b.o.2.2.2.1 (f 3 O));have HC:=Z (PI _ _ (y:Int) ((Int.gcd x y:Nat):Int) V P A HG.o (by have:=Qa.o.words;omega) (by have:=(Qc.o.gcd Qa.o).words;omega));clear f P A;refine Jb rfl rfl λK hK=>?_;go_simp;go_wp2_with(go_at_call 123;refine HC.o.mono ?_;rintro e w5 ⟨v5,v6,rfl,ap,bi,j⟩)
    obtain⟨k,m,o,M,_,q,r,t,z⟩:=b.o;exact⟨_,_,_,_,_,_,_,_,_,_,_,_,_,_,rfl,Z ⟨λh=>(k h).below j,λh=>(m h).below j,λh=>(o h).below j,λh=>(M h).below j,λ_=>⟨v5,v6,rfl,ap,bi⟩,λh=>(q h).below j,λh=>(r h).below j,λh=>(t h).below j,z⟩,Z (g.o.below j)⟩
  . have P:=(b.o.2.2.2.2.1 (f 4 O));clear f;refine Zt ?_;exact⟨_,_,_,_,_,_,_,_,_,_,_,_,_,_,rfl,(Dx b λ_=>P),Z (g.o)⟩
  . obtain⟨y1,y2,rfl,A,h2⟩:=((Do b) (f 5 O));clear f;refine Zt ?_;exact⟨_,_,_,_,_,_,_,_,_,_,_,_,_,_,rfl,(D0 b λ_=>A),Z (g.o)⟩
  . obtain⟨y1,y2,rfl,A,h2⟩:=((Do b) (f 5 O));clear f;refine Zt ?_;exact⟨_,_,_,_,_,_,_,_,_,_,_,_,_,_,rfl,(EL b λ_=>h2),Z (g.o)⟩
  . obtain⟨y1,y2,rfl,A,h2⟩:=((Do b) (f 5 O));clear f;refine Zt ?_;exact⟨_,_,_,_,_,_,_,_,_,_,_,_,_,_,rfl,(EM b),Z (g.o)⟩
  . have hf:D 11=false:=DN az R;obtain rfl:=b.o.2.2.2.2.2.2.2.2.2.1.1 R;clear f;refine Zt ?_;obtain⟨k,m,o,M,N,q,r,t,z,_,ad⟩:=b.o;exact⟨_,_,_,_,_,_,_,_,_,_,_,_,_,_,rfl,Z ⟨λh=>(k h).alloc _,λh=>(m h).alloc _,λh=>(o h).alloc _,λh=>(M h).alloc _,λh=>(N h).alloc _,λh=>(q h).alloc _,λh=>(r h).alloc _,λh=>(t h).alloc _,z,⟨λh=>by simp at h,λ_ _=>⟨_,rfl,rfl⟩,λh=>by simp[hf]at h⟩,ad⟩,Z (g.o.fill (i:=3) rfl (.int 0) (XI _))⟩
  . have hf:D 12=false:=DN az R;obtain rfl:=b.o.2.2.2.2.2.2.2.2.2.2.1.1 R;clear f;refine Zt ?_;obtain⟨k,m,o,M,N,q,r,t,z,G9,_,ae⟩:=b.o;exact⟨_,_,_,_,_,_,_,_,_,_,_,_,_,_,rfl,Z ⟨λh=>(k h).alloc _,λh=>(m h).alloc _,λh=>(o h).alloc _,λh=>(M h).alloc _,λh=>(N h).alloc _,λh=>(q h).alloc _,λh=>(r h).alloc _,λh=>(t h).alloc _,z,G9,⟨λh=>by simp at h,λ_ _=>⟨_,rfl,rfl⟩,λh=>by simp[hf]at h⟩,ae⟩,Z (g.o.fill (i:=4) rfl (.int 0) (XI _))⟩
  . obtain⟨B,rfl,rfl⟩:=b.o.2.2.2.2.2.2.2.2.2.1.2.1 (f 9 O) R;have Qb:=f 9 O;have X:=((D3 b) (f 6 O));obtain⟨s1,a1,l1,c1,rfl⟩:=Jk.form2 (show Jk V _ _ from X);obtain⟨s,a,l,c,n,i⟩:=g.o.int (i:=3) rfl;have e0:=n.c0;have f0:=n.f0;have e1:=n.c1;have f1:=n.f1;clear f;refine Zt ?_;obtain⟨k,m,o,M,N,q,r,t,z,_,ad⟩:=b.o;exact⟨_,_,_,_,_,_,_,_,_,_,_,_,_,_,rfl,Z ⟨λh=>(k h).set2 n rfl rfl _ _,λh=>(m h).set2 n rfl rfl _ _,λh=>(o h).set2 n rfl rfl _ _,λh=>(M h).set2 n rfl rfl _ _,λh=>(N h).set2 n rfl rfl _ _,λh=>(q h).set2 n rfl rfl _ _,λh=>(r h).set2 n rfl rfl _ _,λh=>(t h).set2 n rfl rfl _ _,z,⟨λh=>by simp[Qb]at h,λ_ h=>by simp at h,λ_=>⟨B,rfl,rfl⟩⟩,ad⟩,Z (g.o.putInt (i:=3) rfl X)⟩
  . obtain⟨B,rfl,rfl⟩:=b.o.2.2.2.2.2.2.2.2.2.2.1.2.1 (f 10 O) R;have Qb:=f 10 O;have X:=((EF b) (f 7 O));obtain⟨s1,a1,l1,c1,rfl⟩:=Jk.form2 (show Jk V _ _ from X);obtain⟨s,a,l,c,n,i⟩:=g.o.int (i:=4) rfl;have e0:=n.c0;have f0:=n.f0;have e1:=n.c1;have f1:=n.f1;clear f;refine Zt ?_;obtain⟨k,m,o,M,N,q,r,t,z,G9,_,ae⟩:=b.o;exact⟨_,_,_,_,_,_,_,_,_,_,_,_,_,_,rfl,Z ⟨λh=>(k h).set2 n rfl rfl _ _,λh=>(m h).set2 n rfl rfl _ _,λh=>(o h).set2 n rfl rfl _ _,λh=>(M h).set2 n rfl rfl _ _,λh=>(N h).set2 n rfl rfl _ _,λh=>(q h).set2 n rfl rfl _ _,λh=>(r h).set2 n rfl rfl _ _,λh=>(t h).set2 n rfl rfl _ _,z,G9,⟨λh=>by simp[Qb]at h,λ_ h=>by simp at h,λ_=>⟨B,rfl,rfl⟩⟩,ae⟩,Z (g.o.putInt (i:=4) rfl X)⟩
  . obtain rfl:=((ER b) (f 8 O));clear f;refine Zt ?_;exact⟨_,_,_,_,_,_,_,_,_,_,_,_,_,_,rfl,(Hc (EM b)),Z (g.o)⟩
 rintro D ai V2 W ⟨tm,ta,tb,tc,td,tl,te,tf,tg,ti,tj,tk,T,S,rfl,b,g⟩;obtain⟨B3,rfl,rfl⟩:=b.o.2.2.2.2.2.2.2.2.2.1.2.2 (W 11 DL);obtain⟨B4,rfl,rfl⟩:=b.o.2.2.2.2.2.2.2.2.2.2.1.2.2 (W 12 DL);obtain rfl:=ER b (W 8 DL);obtain rfl:=b.o.2.2.2.2.2.2.2.2.2.2.2 (W 13 DL);clear b W M1;have U:Hid (Mem w V2 [some (w.heap.size,.int ((x:Int))),some (w.heap.size+1,.int ((y:Int))),some (w.heap.size+1+1,.int 0),some (B3,.int ((y:Int)/((Int.gcd x y:Nat):Int))),some (B4,.int ((y:Int)%((Int.gcd x y:Nat):Int)))]):=g;clear g;obtain⟨s5,a5,l5,c5,n5,i5⟩:=U.o.int (i:=0) rfl;obtain⟨bn,bt⟩:=n5.cp;obtain⟨s6,a6,l6,c6,n6,i6⟩:=U.o.int (i:=3) rfl;obtain⟨bu,bz⟩:=n6.cp;obtain⟨s7,a7,l7,c7,n7,i7⟩:=U.o.int (i:=2) rfl;obtain⟨Qe,Qd⟩:=n7.cp;obtain⟨Qi,Qh⟩:=n7.fp;have H1:=Z (Y1 _ _ (x:Int) ((y:Int)/((Int.gcd x y:Nat):Int)) V2 i5 i6 (by have A:=Qc.o.words;have h2:=(Qa.o.div (y:=((Int.gcd x y:Nat):Int))).words;omega));rw[aM]at H1;go_wp2_with(go_at_call 85;refine H1.o.mono ?_;clear H1;rintro e w2 ⟨u2,rfl,bf,hq⟩;obtain⟨bm,bg,bj,bh,rfl⟩:=Jk.form2 bf;clear Qe Qd;obtain⟨Qe,Qd⟩:=(n7.below hq).cp;clear Qi Qh;obtain⟨Qi,Qh⟩:=(n7.below hq).fp)
 have Qk:=Bt U.o.2.2 hq;have Qf:=U.o.ge 2 rfl;exact BB (v:=I #[E bm,C bg bj bh]) (by simp[results,Tryz.results97,go_sem,Qe,Qd]) rfl ⟨_,rfl,bf.box (n7.below hq) rfl rfl,(Qk.setCell (p:=⟨_,0,none⟩) Qf _).setCell (p:=⟨_,1,none⟩) Qf _⟩
def Hs(F:Nat->Rat)(n i:Nat)(S:List Rat):Prop:=S.length=n/\∀j,cf S j=if j<i then F j else 0
theorem Hs.next{F:Nat->Rat}(h:Hs F n i S)(b:i<n):Hs F n (i+1) (S.set i (F i)):=by
 refine⟨by rw[CA];exact h.1,λj=>?_⟩;rw[XC _ _ _ _ (by rw[h.1];exact b),h.2 j];by_cases e:j=i
 . rw[BJ e,BJ Y,e]
 . rw[BH e];by_cases a:j<i
   . rw[BJ a,BJ Y]
   . rw[BH a,BH Y]
theorem Hs.done{F:Nat->Rat}{T:List Rat}(h:Hs F n n S)(b:Jd T=T)(hF:∀j,j<n->cf T j=F j)(a:∀j,n<=j->cf T j=0):Jd S=T:=by
 rw[<-b];refine Gx λj=>?_;rw[h.2 j];split
 . exact(hF j (by assumption)).symm
 . exact(a j Y).symm
theorem QV(v vf:Value)(ps:List Rat)(f:Rat)(w:L)(h:Jc w v ps)(hf:Jj w vf f)(aw:Sqs ps)(ay:Sq f)(az:∀i,Sq (cf ps i*f)):
 Calls Tryz.prog 98 #[v,vf] w λe w'=>∃u,e=.returned u/\Jc w' u (DX f ps)/\Bl w w':=by
 have Qq:Tryz.prog.follows .mixedOrders=true:=by kernel_rfl
 obtain⟨x,la,y,rfl⟩:=h.form;obtain⟨s,a,l,c,t,b,k,d,rfl⟩:=Jj.form hf;obtain⟨bf,ba,bc,bg,_⟩:=h.row.forms;have M0:=((((Mem.nil w).push (.cell 25 (C x la y)) (cs:=#[C x la y]) ⟨rfl,rfl⟩).push (.rat f) (cs:=#[E s,C a l c,E t,C b k d]) (Has.alloc (d:=.rat f) hf _)).push (.cell 25 (C none 0 0)) (cs:=#[C none 0 0]) ⟨rfl,rfl⟩);simp only[BA]at M0;obtain⟨V0,af⟩:=ex (((w.alloc (H #[C x la y] 25)).alloc (H #[E s,C a l c,E t,C b k d] 65)).alloc (H #[C none 0 0] 25));have M1:Mem w V0 [some (w.heap.size,.cell 25 (C x la y)),some (w.heap.size+1,.rat f),some (w.heap.size+1+1,.cell 25 (C none 0 0))]:=by rw[<-af];exact M0
 have Qh:=Z M1;obtain⟨n,hn⟩:=ex (ps.length:Nat);obtain⟨Q,aq⟩:=ex ((n:Int)-1:Int);have Qg:=Z (Ya (I #[C x la y]) ps V0 (h.below M1.2.2));rw[hn,aq]at Qg;have bh:Q+1=(n:Int):=Y
 have bi:IntKind.i64.wrap (n:Int)=(n:Int):=by rw[BZ];omega
 have Qr:∀W:L,(Instr.makeSlice 22 (B .i64 (n:Int)) (B .i64 (n:Int))).run Tryz.prog W=.ok (C (some ⟨W.heap.size,0,none⟩) n n) (W.alloc (H (J4 n) 65)):=λW=>QT n Y W;obtain⟨HP,Ql,Qm,HN⟩:=EA (λ(V:L) (hB:Bl w V)=>h.below hB) aw az (show ps.length=n from hn);have Qd:n<=1099511627776:=Y
 have Qj:=Z af;have Qo:=Z ay;clear h aw az bf ba bc hn aq M0 M1 af bg hf ay;go_enter Tryz.func98,Tryz.ntmps98
 go_upto_region 1 with fail
 rw[Qj.o];have c0:=(Qh.o.cell (i:=0) rfl).1.cell;go_upto_region 2 with(go_at_call 20;refine Qg.o.mono ?_;clear Qg;rintro e w1 ⟨rfl,ap⟩)
 have Qe:Mem w (w1.alloc (H (J4 n) 65)) [some (w.heap.size,.cell 25 (C x la y)),some (w.heap.size+1,.rat f),some (w.heap.size+1+1,.cell 25 (C none 0 0)),some (w1.heap.size,.rats (List.replicate n 0))]:=(Qh.o.below ap).push (.rats (List.replicate n 0)) (I4 _ n);obtain⟨V1,ah⟩:=ex (w1.alloc (H (J4 n) 65));obtain⟨A,ai⟩:=ex (w1.heap.size);rw[ah,ai]at Qe;rw[ah,ai];have Qi:=Z Qe;clear Qe ah ai ap c0 Qh Qj Qr;go_wp2;go_loopw [13] (λiv wr=>∃(i:Nat) (S:List Rat),i<=n/\iv=B .i64 (i:Int)/\Hid (Hs (λj=>cf ps j*f) n i S)/\Hid (Mem w wr [some (w.heap.size,.cell 25 (C x la y)),some (w.heap.size+1,.rat f),some (w.heap.size+1+1,.cell 25 (C none 0 0)),some (A,.rats S)])) λiv _=>n-(intOf iv).toNat
 case atStart=>exact⟨0,_,AK _,rfl,Z ⟨Au,λj=>by rw[JS,BH Y]⟩,Qi⟩
 case round=>
  obtain⟨i,S,hi,rfl,N,X⟩:=hrel;clear Qi;by_cases av:i<n
  . have bm:(i:Int)<(n:Int):=Y
    have Qk:=Z (show i<S.length by rw[N.o.1];exact av);go_wp2_with fail
    have Qn:=X.o.drew;refine Jn Qq [[],[],[],[],[2,3],[],[4,5,4],[0,1,0,1,2,3,4,5,6],[7,6,6,0,1,2,3,4,5,6]] (by kernel_rfl) DL
     (λD ae V=>∃(ta tb tc td te tf tg ti:Value),ae={ tmps:=#[I #[C x la y],I #[E s,C a l c,E t,C b k d],F (some ⟨w.heap.size,0,none⟩),F (some ⟨w.heap.size+1,0,none⟩),F (some ⟨w.heap.size+1+1,0,none⟩),C (some ⟨A,0,none⟩) n n,B .i64 ↑i,I #[C x la y],B .i64 Q,B .i64 ↑n,C (some ⟨A,0,none⟩) n n,C (some ⟨A,0,none⟩) n n,B .i64 ↑n,B .i64 ↑i,E true,B .i64 ↑i,ta,tb,tc,td,te,tf,tg,ti,u24,G,G],defers:=[] }/\Hid ((D 0=true->ta=C (some ⟨A,0,none⟩) n n)/\(D 1=true->tb=B .i64 (i:Int))/\(D 2=true->tc=I #[C x la y])/\(D 3=true->td=B .i64 (i:Int))/\(D 4=true->D 8=false->Jj V te (cf ps i))/\(D 5=true->D 8=false->Jj V tf f)/\(D 6=true->D 8=false->Jj V tg (cf ps i*f))/\(D 7=true->ti=F (some ⟨A,i*4,none⟩)))/\Hid ((D 8=false->Mem w V [some (w.heap.size,.cell 25 (C x la y)),some (w.heap.size+1,.rat f),some (w.heap.size+1+1,.cell 25 (C none 0 0)),some (A,.rats S)])/\(D 8=true->Mem w V [some (w.heap.size,.cell 25 (C x la y)),some (w.heap.size+1,.rat f),some (w.heap.size+1+1,.cell 25 (C none 0 0)),some (A,.rats (S.set i (cf ps i*f)))])))
     (E8 ⟨rfl,Z O,Z ⟨λ_=>Qn,O⟩⟩) ?step1 ?fin1
    case step1=>
     rintro D ae V i ds ad hi o P ⟨ta,tb,tc,td,te,tf,tg,ti,rfl,g,m⟩;have bj:i<9:=(Af.1 hi).1;obtain rfl|rfl|rfl|rfl|rfl|rfl|rfl|rfl|rfl:=LO i Y
     all_goals
      simp only[Aj,Ah,Al]at hi;subst hi
     . clear o;refine DT ?_;exact⟨(Dc g),m⟩
     . clear o;refine DT ?_;exact⟨(Dg g),m⟩
     . have z:=m.o.1 (DN ad P);have Q:=(z.cell (i:=0) rfl).1.cell;clear o;refine DT ?_;exact⟨(DZ g),m⟩
     . clear o;refine DT ?_;exact⟨(Dd g),m⟩
     . have z:=m.o.1 (DN ad P);obtain rfl:=g.o.2.2.1 (o 2 O);obtain rfl:=g.o.2.2.2.1 (o 3 O);clear o;have U:=Z (II _ ps (i:Int) V (HP.o V z.2.2));rw[IY]at U;refine Jb rfl rfl λK hK=>?_;go_simp;go_wp2_with(go_at_call 58;refine U.o.mono ?_;rintro e w5 ⟨v5,rfl,am,q⟩)
       obtain⟨G0,G1,_,_,_,G5,G6,G7⟩:=g.o;exact E8 ⟨rfl,Z ⟨G0,G1,λ_=>rfl,λ_=>rfl,λ_ _=>am,λh M=>(G5 h M).below q,λh M=>(G6 h M).below q,G7⟩,Z ⟨λh=>(m.o.1 h).below q,λh=>(m.o.2 h).below q⟩⟩
     . have z:=m.o.1 (DN ad P);obtain⟨x1,x2,x3,x4,x5,x6,x7,x8,n,r,_,_⟩:=z.rat (i:=1) rfl;obtain⟨Q,e1,e2,e3⟩:=n.cq;clear o;refine DT ?_;exact⟨(Dx g λ_ _=>r),m⟩
     . have Qa:D 8=false:=DN ad P;have R:=g.o.2.2.2.2.1 (o 4 O) Qa;have h1:=Do g (o 5 O) Qa;clear o;have U:=Z (Iz _ _ (cf ps i) f V R h1 (Ql.o.at i) Qo.o);clear R h1;refine Jb rfl rfl λK hK=>?_;go_simp;go_wp2_with(go_at_call 52;refine U.o.mono ?_;rintro e w5 ⟨v5,rfl,am,q⟩)
       obtain⟨G0,G1,G2,G3,G4,G5,_,G7⟩:=g.o;exact E8 ⟨rfl,Z ⟨G0,G1,G2,G3,λh M=>(G4 h M).below q,λh M=>(G5 h M).below q,λ_ _=>am,G7⟩,Z ⟨λh=>(m.o.1 h).below q,λh=>(m.o.2 h).below q⟩⟩
     . obtain rfl:=g.o.1 (o 0 O);obtain rfl:=g.o.2.1 (o 1 O);clear o;refine DT ?_;exact⟨(Ka (Dg (Dc g))),m⟩
     . have z:=m.o.1 P;have R:=D3 g (o 6 O) P;obtain rfl:=g.o.2.2.2.2.2.2.2 (o 7 O);have hE:=z.rats (i:=3) rfl;obtain⟨xa,xb,xc,xd,Q,e1,e2,e3,_⟩:=hE.at Qk.o;have f0:=hE.frozen (i*4);have f1:=hE.frozen (i*4+1);have f2:=hE.frozen (i*4+2);have f3:=hE.frozen (i*4+3);obtain⟨s9,a9,l9,c9,t9,b9,k9,d9,rfl⟩:=Jj.form R;clear o;refine DT ?_;exact⟨Z ⟨g.o.1,g.o.2.1,g.o.2.2.1,g.o.2.2.2.1,λ_ h=>by simp at h,λ_ h=>by simp at h,λ_ h=>by simp at h,λ_=>rfl⟩,Z ⟨λh=>by simp at h,λ_=>z.putRats (i:=3) rfl Qk.o R⟩⟩
    case fin1=>
     rintro D ae V an ⟨ta,tb,tc,td,te,tf,tg,ti,rfl,g,m⟩;have HO:=Z (m.o.2 (an 8 DL));clear g m an;go_wp2_with fail
     go_roundw
     case rel=>exact⟨i+1,_,Y,by go_num,Z (N.o.next av),HO⟩
     case measure=>simp[intOf];omega
  . obtain rfl:i=n:=Y
    have hE:=X.o.rats (i:=3) rfl;have Qc:=hE.row (n:=i) (cap:=i) (by rw[N.o.1];exact Aa _) (Aa _) Y Qd;rw[Ag (by rw[N.o.1];exact Aa _)]at Qc;have Qf:=Z (Pe _ S wr Qc (Sqs.of λj=>by
     rw[N.o.2 j];split
     . exact Qm.o j
     . exact Hn))
    rw[N.o.done (T:=DX f ps) (JP _ _) (λj hj=>Yh _ _ _) λj hj=>by rw[Yh,J6 (by rw[HN.o];exact hj),Cy]]at Qf;clear hE Qc;go_wp2_with(go_at_call 59;refine Qf.o.mono ?_;clear Qf;rintro e w5 ⟨u5,rfl,ak,_,q⟩;obtain⟨a7,l7,c7,rfl⟩:=ak.form;have n5:=boxed_below (X.o.cell (i:=2) rfl).1 q;have x0:=n5.cell;have x1:=n5.frozen;have Qs:=Z (EY n5 (C a7 l7 c7) ak.row);have Qp:=Z ((Bt X.o.2.2 q).setCell (p:=⟨w.heap.size+1+1,0,none⟩) (by show w.heap.size<=w.heap.size+1+1;omega) (C a7 l7 c7));clear ak q n5)
    exact BB (v:=I #[C a7 l7 c7]) (by simp[results,Tryz.results98,go_sem,x0]) rfl ⟨_,rfl,⟨_,rfl,Qs.o⟩,Qp.o⟩
theorem aQ(p:List Rat)(n:Nat):((Int.gcd ((YC p n:Nat):Int) (cf p n).num:Nat):Int)=((YC p (n+1):Nat):Int):=rfl
theorem aR(p:List Rat)(n:Nat):((Nat.lcm (YL p n) (cf p n).den:Nat):Int)=((YL p (n+1):Nat):Int):=rfl
theorem ND(D:Int)(M:Nat)(v:Value)(ps:List Rat)(w:L)(h:Jc w v ps)(am:Jd ps=ps)(hD:D≠0)(af:Sm M D)(ak:D6 D M ps)(hM:M<=1000000000):
 Calls Tryz.prog 56 #[v] w λe w'=>∃u,e=.returned u/\Jc w' u (J2 ps)/\Bl w w':=by
 have Qe:Tryz.prog.follows .mixedOrders=true:=by kernel_rfl
 obtain⟨m,la,o,rfl⟩:=h.form;obtain⟨bh,bf,bg,bi,_⟩:=h.row.forms;have Qa:∀i,DV M (cf ps i):=λi=>(ak i).smq hD af;obtain⟨HG,HL,Qb⟩:=Dh (λi=>Sok.of (QN (λj=>(Qa j).1) i) Y:∀i,Sok ((YC ps i:Nat):Int)) (λi=>Sok.of (QM hD af ak i) Y:∀i,Sok ((YL ps i:Nat):Int)) (show Sqs ps from Sqs.of λi=>Sq.of (Qa i) hM);have HF:=Z (show ps≠[]->Sq ((YL ps ps.length:Rat)/(YC ps ps.length:Rat))/\∀i,Sq (cf ps i*((YL ps ps.length:Rat)/(YC ps ps.length:Rat)))from λk=>by
  have h1:=QO am k (ak.ln hD);refine⟨?_,λi=>?_⟩
  . have h2:((YL ps ps.length:Rat)/(YC ps ps.length:Rat))=Rat.divInt ((YL ps ps.length:Nat):Int) ((YC ps ps.length:Nat):Int):=by rw[Cs,AM,AM]
    rw[h2];exact Sq.of (DV.divInt (Int.natCast_ne_zero.2 (I7 am k)) (QM hD af ak _) (QN (λj=>(Qa j).1) _)) hM
  . obtain⟨z,h3,h4⟩:=h1 i;have h5:cf ps i*((YL ps ps.length:Rat)/(YC ps ps.length:Rat))=(z:Rat):=by rw[<-h4];unfold J2;rw[Yh]
    rw[h5];have h6:1<=M:=by
     by_cases h7:1<=M
     . exact h7
     . exfalso
       obtain rfl:M=0:=Y
       unfold Sm at af
       have:D.natAbs≠0:=Int.natAbs_ne_zero.2 hD
       simp at af;omega
    exact Sq.of ((LD (D:=1) DL h3 (by rw[show((1:Int):Rat)=1 from rfl,Rat.mul_one])).smq DL (Sm.one M h6)) hM)
 have Qm:=Z (λk=>I7 am k:ps≠[]->YC ps ps.length≠0);have M0:=(((Mem.nil w).push (.cell 25 (C m la o)) (cs:=#[C m la o]) ⟨rfl,rfl⟩).push (.cell 25 (C none 0 0)) (cs:=#[C none 0 0]) ⟨rfl,rfl⟩).push (.int 0) (cs:=#[E false,C none 0 0]) (XI _);simp only[BA]at M0;obtain⟨W0,ap⟩:=ex (((w.alloc (H #[C m la o] 25)).alloc (H #[C none 0 0] 25)).alloc (H #[E false,C none 0 0] 63));have Qd:=Z ap;have M1:Hid (Mem w W0 [some (w.heap.size,.cell 25 (C m la o)),some (w.heap.size+1,.cell 25 (C none 0 0)),some (w.heap.size+1+1,.int (((YC ps 0:Nat):Int)))]):=Z (by rw[<-ap];exact M0);obtain⟨n,hn⟩:=ex (ps.length:Nat);obtain⟨T,bc⟩:=ex ((n:Int)-1:Int);have Qc:=Z λ(V:L) (hB:Bl w V)=>Ya (I #[C m la o]) ps V (h.below hB);rw[hn,bc]at Qc;have bu:T+1=(n:Int):=Y
 have bz:IntKind.i64.wrap (n:Int)=(n:Int):=by rw[BZ];omega
 have HP:=Z λ(V:L) (hB:Bl w V)=>h.below hB;have HN:=Z (show ps.length=n from hn);have ck:n<=1099511627776:=Y
 have Qf:=Z λ(V:L)=>IB 1 Y Y V;clear h bh bf bg hn bc M0 ap bi am hD af ak hM Qa;go_enter Tryz.func56,Tryz.ntmps56
 go_upto_region 2 with fail
 rw[Qd.o];clear Qd;go_upto_region 3 with(go_at_call 95;refine(Qf.o _).mono ?_;clear Qf;rintro e w1 ⟨u1,rfl,aw,az⟩;obtain⟨s1,a1,l1,c1,rfl⟩:=Jk.form2 aw)
 obtain⟨V1,hV⟩:=ex (w1.alloc (H #[E s1,C a1 l1 c1] 63));obtain⟨t,ae⟩:=ex (w1.heap.size);have d:Mem w (w1.alloc (H #[E s1,C a1 l1 c1] 63)) [some (w.heap.size,.cell 25 (C m la o)),some (w.heap.size+1,.cell 25 (C none 0 0)),some (w.heap.size+1+1,.int (((YC ps 0:Nat):Int))),some (w1.heap.size,.int (((YL ps 0:Nat):Int)))]:=Mem.push (M1.o.below az) (.int (((YL ps 0:Nat):Int))) aw;rw[hV,ae]at d;rw[hV];rw[ae];have M2:Hid (Mem w V1 [some (w.heap.size,.cell 25 (C m la o)),some (w.heap.size+1,.cell 25 (C none 0 0)),some (w.heap.size+1+1,.int (((YC ps 0:Nat):Int))),some (t,.int (((YL ps 0:Nat):Int)))]):=Z (d);clear M1;clear d hV ae;clear aw az;have c0:=(M2.o.cell (i:=0) rfl).1.cell;go_upto_region 4 with(go_at_call 20;refine(Qc.o _ M2.o.2.2).mono ?_;clear Qc;rintro e w2 ⟨rfl,ba⟩)
 have ML:Hid (Mem w w2 [some (w.heap.size,.cell 25 (C m la o)),some (w.heap.size+1,.cell 25 (C none 0 0)),some (w.heap.size+1+1,.int (((YC ps 0:Nat):Int))),some (t,.int (((YL ps 0:Nat):Int)))]):=Z (M2.o.below ba);clear c0 ba M2;go_loopw [12] (λiv wr=>∃i:Nat,i<=n/\iv=B .i64 (i:Int)/\Hid (Mem w wr [some (w.heap.size,.cell 25 (C m la o)),some (w.heap.size+1,.cell 25 (C none 0 0)),some (w.heap.size+1+1,.int (((YC ps i:Nat):Int))),some (t,.int (((YL ps i:Nat):Int)))])) λiv _=>n-(intOf iv).toNat
 case atStart=>exact⟨0,AK _,rfl,ML⟩
 case round=>
  obtain⟨i,W,rfl,M3⟩:=hrel;clear ML;by_cases ce:i<n
  . have ci:(i:Int)<(n:Int):=Y
    go_upto_region 6 with fail
    refine Jn Qe [[],[],[],[1,2],[3,3],[0,4,4],[5,5,0,1,2,3,4,5]] (by kernel_rfl) DL
     (λD ad V=>∃(ta tb tc td te tf:Value) (y2:Option (Nat × Dat)),ad={ tmps:=#[I #[C m la o],F (some ⟨w.heap.size,0,none⟩),F (some ⟨w.heap.size+1,0,none⟩),F (some ⟨w.heap.size+1+1,0,none⟩),F (some ⟨t,0,none⟩),B .i64 ↑i,G,G,I #[E s1,C a1 l1 c1],I #[C m la o],B .i64 T,B .i64 ↑n,B .i64 ↑i,E true,B .i64 ↑i,ta,tb,tc,td,te,tf,u21,u22,u23,u24,u25,u26,u27,G,G,G,G,G,G,G,G,G,G,G,G],defers:=[] }/\Hid ((D 0=true->Has V ta (.int (((YC ps i:Nat):Int))))/\(D 1=true->tb=I #[C m la o])/\(D 2=true->tc=Value.int IntKind.i64 ↑i)/\(D 3=true->Has V td (.rat (cf ps i)))/\(D 4=true->Has V te (.int ((cf ps i).num)))/\(D 5=true->Has V tf (.int (((YC ps (i+1):Nat):Int))))/\((D 6=false->y2=some (w.heap.size+1+1,.int (((YC ps i:Nat):Int))))/\(D 6=true->y2=some (w.heap.size+1+1,.int (((YC ps (i+1):Nat):Int))))))/\Hid (Mem w V [some (w.heap.size,.cell 25 (C m la o)),some (w.heap.size+1,.cell 25 (C none 0 0)),y2,some (t,.int (((YL ps i:Nat):Int)))]))
     ⟨_,_,_,_,_,_,_,rfl,Z ⟨O,O,O,O,O,O,⟨λ_=>rfl,O⟩⟩,Z (M3.o).drew⟩ ?step2 ?fin2
    case step2=>
     rintro D ad V i ds aq W g ah ⟨ta,tb,tc,td,te,tf,y2,rfl,b,d⟩;have Qj:i<7:=(Af.1 W).1;obtain rfl|rfl|rfl|rfl|rfl|rfl|rfl:=Gt i Y
     all_goals
      simp only[Aj,Ah,Al]at W;subst W
     . have hf:D 6=false:=DN aq ah;obtain rfl:=D3 b hf;clear g;obtain⟨s,a,l,c,n,i⟩:=d.o.int (i:=2) rfl;obtain⟨T,e1⟩:=n.cp;refine Zt ?_;exact⟨_,_,_,_,_,_,_,rfl,(KZ (Dc b λ_=>i) ⟨λ_=>rfl,λh=>by simp[hf]at h⟩),Z (d.o)⟩
     . have T:=(d.o.cell (i:=0) rfl).1.cell;clear g;refine Zt ?_;exact⟨_,_,_,_,_,_,_,rfl,(Dg b),Z (d.o)⟩
     . clear g;refine Zt ?_;exact⟨_,_,_,_,_,_,_,rfl,(DZ b),Z (d.o)⟩
     . obtain rfl:=(b.o.2.1 (g 1 O));obtain rfl:=(b.o.2.2.1 (g 2 O));have r:=Z (II _ ps (i:Int) V (HP.o V d.o.2.2));rw[IY]at r;clear g;refine Jb rfl rfl λK hK=>?_;go_simp;go_wp2_with(go_at_call 58;refine r.o.mono ?_;rintro e w5 ⟨v5,rfl,S,f⟩)
       obtain⟨q,_,_,_,P,Q,R⟩:=b.o;exact⟨_,_,_,_,_,_,_,rfl,Z ⟨λh=>(q h).below f,λ_=>rfl,λ_=>rfl,λ_=>S,λh=>(P h).below f,λh=>(Q h).below f,R⟩,Z (d.o.below f)⟩
     . have k:=(b.o.2.2.2.1 (g 3 O));have r:=Z (ZF _ (cf ps i) V k);clear g k;refine Jb rfl rfl λK hK=>?_;go_simp;go_wp2_with(go_at_call 96;refine r.o.mono ?_;rintro e w5 ⟨v5,rfl,S,f⟩)
       obtain⟨q,y,A,N,_,Q,R⟩:=b.o;exact⟨_,_,_,_,_,_,_,rfl,Z ⟨λh=>(q h).below f,y,A,λh=>(N h).below f,λ_=>S,λh=>(Q h).below f,R⟩,Z (d.o.below f)⟩
     . have k:=(b.o.1 (g 0 O));have h1:=(b.o.2.2.2.2.1 (g 4 O));have r:=Z (Hm _ _ ((YC ps i:Nat):Int) (cf ps i).num V k h1 (by have:=(HG.o i).words;omega) (by have:=(Qb.o.at i).num.words;omega));rw[aQ]at r;clear g k h1;refine Jb rfl rfl λK hK=>?_;go_simp;go_wp2_with(go_at_call 90;refine r.o.mono ?_;rintro e w5 ⟨v5,rfl,S,f⟩)
       obtain⟨q,y,A,N,P,_,R⟩:=b.o;exact⟨_,_,_,_,_,_,_,rfl,Z ⟨λh=>(q h).below f,y,A,λh=>(N h).below f,λh=>(P h).below f,λ_=>S,R⟩,Z (d.o.below f)⟩
     . obtain rfl:=D3 b ah;have hv:=((Do b) (g 5 O));obtain⟨s1,a1,l1,c1,rfl⟩:=Jk.form2 (show Jk V _ _ from hv);obtain⟨s,a,l,c,n,i⟩:=d.o.int (i:=2) rfl;have T:=n.c0;have f0:=n.f0;have e1:=n.c1;have f1:=n.f1;clear g;refine Zt ?_;obtain⟨q,y,A,N,P,Q,_⟩:=b.o;exact⟨_,_,_,_,_,_,_,rfl,Z ⟨λh=>(q h).set2 n rfl rfl _ _,y,A,λh=>(N h).set2 n rfl rfl _ _,λh=>(P h).set2 n rfl rfl _ _,λh=>(Q h).set2 n rfl rfl _ _,⟨λh=>by simp at h,λ_=>rfl⟩⟩,Z (d.o.putInt (i:=2) rfl hv)⟩
    rintro D ad V3 U ⟨ta,tb,tc,td,te,tf,y2,rfl,b,d⟩;obtain rfl:=b.o.2.2.2.2.2.2.2 (U 6 DL);obtain rfl:=b.o.2.1 (U 1 DL);obtain rfl:=b.o.2.2.1 (U 2 DL);clear b U M3;have M4:Hid (Mem w V3 [some (w.heap.size,.cell 25 (C m la o)),some (w.heap.size+1,.cell 25 (C none 0 0)),some (w.heap.size+1+1,.int (((YC ps (i+1):Nat):Int))),some (t,.int (((YL ps i:Nat):Int)))]):=d;clear d;go_upto_region 7 with fail
    refine Jn Qe [[],[],[],[1,2],[3,3],[0,4,4],[5,5,0,1,2,3,4,5]] (by kernel_rfl) DL
     (λD ad V=>∃(tg ti tj tk tl tm:Value) (y3:Option (Nat × Dat)),ad={ tmps:=#[I #[C m la o],F (some ⟨w.heap.size,0,none⟩),F (some ⟨w.heap.size+1,0,none⟩),F (some ⟨w.heap.size+1+1,0,none⟩),F (some ⟨t,0,none⟩),B .i64 ↑i,G,G,I #[E s1,C a1 l1 c1],I #[C m la o],B .i64 T,B .i64 ↑n,B .i64 ↑i,E true,B .i64 ↑i,ta,I #[C m la o],B .i64 ↑i,td,te,tf,tg,ti,tj,tk,tl,tm,u27,G,G,G,G,G,G,G,G,G,G,G,G],defers:=[] }/\Hid ((D 0=true->Has V tg (.int (((YL ps i:Nat):Int))))/\(D 1=true->ti=I #[C m la o])/\(D 2=true->tj=Value.int IntKind.i64 ↑i)/\(D 3=true->Has V tk (.rat (cf ps i)))/\(D 4=true->Has V tl (.int (((cf ps i).den:Int))))/\(D 5=true->Has V tm (.int (((YL ps (i+1):Nat):Int))))/\((D 6=false->y3=some (t,.int (((YL ps i:Nat):Int))))/\(D 6=true->y3=some (t,.int (((YL ps (i+1):Nat):Int))))))/\Hid (Mem w V [some (w.heap.size,.cell 25 (C m la o)),some (w.heap.size+1,.cell 25 (C none 0 0)),some (w.heap.size+1+1,.int (((YC ps (i+1):Nat):Int))),y3]))
     ⟨_,_,_,_,_,_,_,rfl,Z ⟨O,O,O,O,O,O,⟨λ_=>rfl,O⟩⟩,Z (M4.o).drew⟩ ?step4 ?fin4
    case step4=>
     rintro D ad V i ds aq W g ah ⟨tg,ti,tj,tk,tl,tm,y3,rfl,b,d⟩;have Qj:i<7:=(Af.1 W).1;obtain rfl|rfl|rfl|rfl|rfl|rfl|rfl:=Gt i Y
     all_goals
      simp only[Aj,Ah,Al]at W;subst W
     . have hf:D 6=false:=DN aq ah;obtain rfl:=D3 b hf;clear g;obtain⟨s,a,l,c,n,i⟩:=d.o.int (i:=3) rfl;obtain⟨T,e1⟩:=n.cp;refine Zt ?_;exact⟨_,_,_,_,_,_,_,rfl,(KZ (Dc b λ_=>i) ⟨λ_=>rfl,λh=>by simp[hf]at h⟩),Z (d.o)⟩
     . have T:=(d.o.cell (i:=0) rfl).1.cell;clear g;refine Zt ?_;exact⟨_,_,_,_,_,_,_,rfl,(Dg b),Z (d.o)⟩
     . clear g;refine Zt ?_;exact⟨_,_,_,_,_,_,_,rfl,(DZ b),Z (d.o)⟩
     . obtain rfl:=(b.o.2.1 (g 1 O));obtain rfl:=(b.o.2.2.1 (g 2 O));have r:=Z (II _ ps (i:Int) V (HP.o V d.o.2.2));rw[IY]at r;clear g;refine Jb rfl rfl λK hK=>?_;go_simp;go_wp2_with(go_at_call 58;refine r.o.mono ?_;rintro e w5 ⟨v5,rfl,S,f⟩)
       obtain⟨q,_,_,_,P,Q,R⟩:=b.o;exact⟨_,_,_,_,_,_,_,rfl,Z ⟨λh=>(q h).below f,λ_=>rfl,λ_=>rfl,λ_=>S,λh=>(P h).below f,λh=>(Q h).below f,R⟩,Z (d.o.below f)⟩
     . have k:=(b.o.2.2.2.1 (g 3 O));have r:=Z (Ej _ (cf ps i) V k);clear g k;refine Jb rfl rfl λK hK=>?_;go_simp;go_wp2_with(go_at_call 86;refine r.o.mono ?_;rintro e w5 ⟨v5,rfl,S,f⟩)
       obtain⟨q,y,A,N,_,Q,R⟩:=b.o;exact⟨_,_,_,_,_,_,_,rfl,Z ⟨λh=>(q h).below f,y,A,λh=>(N h).below f,λ_=>S,λh=>(Q h).below f,R⟩,Z (d.o.below f)⟩
     . have k:=(b.o.1 (g 0 O));have h1:=(b.o.2.2.2.2.1 (g 4 O));have r:=Z (aO _ _ (YL ps i) (cf ps i).den V k h1 (QJ ps i) (HL.o i) (Qb.o.at i).den);rw[aR]at r;clear g k h1;refine Jb rfl rfl λK hK=>?_;go_simp;go_wp2_with(go_at_call 97;refine r.o.mono ?_;rintro e w5 ⟨v5,rfl,S,f⟩)
       obtain⟨q,y,A,N,P,_,R⟩:=b.o;exact⟨_,_,_,_,_,_,_,rfl,Z ⟨λh=>(q h).below f,y,A,λh=>(N h).below f,λh=>(P h).below f,λ_=>S,R⟩,Z (d.o.below f)⟩
     . obtain rfl:=D3 b ah;have hv:=((Do b) (g 5 O));obtain⟨s1,a1,l1,c1,rfl⟩:=Jk.form2 (show Jk V _ _ from hv);obtain⟨s,a,l,c,n,i⟩:=d.o.int (i:=3) rfl;have T:=n.c0;have f0:=n.f0;have e1:=n.c1;have f1:=n.f1;clear g;refine Zt ?_;obtain⟨q,y,A,N,P,Q,_⟩:=b.o;exact⟨_,_,_,_,_,_,_,rfl,Z ⟨λh=>(q h).set2 n rfl rfl _ _,y,A,λh=>(N h).set2 n rfl rfl _ _,λh=>(P h).set2 n rfl rfl _ _,λh=>(Q h).set2 n rfl rfl _ _,⟨λh=>by simp at h,λ_=>rfl⟩⟩,Z (d.o.putInt (i:=3) rfl hv)⟩
    rintro D ad V5 U ⟨tg,ti,tj,tk,tl,tm,y3,rfl,b,d⟩;obtain rfl:=b.o.2.2.2.2.2.2.2 (U 6 DL);obtain rfl:=b.o.2.1 (U 1 DL);obtain rfl:=b.o.2.2.1 (U 2 DL);clear b U M4;have M5:Hid (Mem w V5 [some (w.heap.size,.cell 25 (C m la o)),some (w.heap.size+1,.cell 25 (C none 0 0)),some (w.heap.size+1+1,.int (((YC ps (i+1):Nat):Int))),some (t,.int (((YL ps (i+1):Nat):Int)))]):=d;clear d;go_wp2_with fail
    go_roundw
    case rel=>exact⟨i+1,Y,by go_num,M5⟩
    case measure=>simp[intOf];omega
  . obtain rfl:i=n:=Y
    obtain⟨s6,a6,l6,c6,n6,i6⟩:=M3.o.int (i:=2) rfl;obtain⟨Ql,Qo⟩:=n6.cp;obtain⟨s7,a7,l7,c7,n7,i7⟩:=M3.o.int (i:=3) rfl;obtain⟨Qh,Qp⟩:=n7.cp;have X:=Z (Ko _ _ ((YL ps i:Nat):Int) ((YC ps i:Nat):Int) wr i7 i6 (HL.o i) (HG.o i));have Qg:=(M3.o.cell (i:=1) rfl).1;obtain⟨r9,av⟩:=ex (Rat.divInt ((YL ps i:Nat):Int) ((YC ps i:Nat):Int));rw[av]at X;have Qi:=Z av;clear av;by_cases k:ps=[]
    . have HB:=Z (show decide (((YC ps i:Nat):Int)≠0)=false by rw[<-HN.o,k];decide);rw[HB.o]at X;have HE:=Z (show J2 ps=[]by rw[k];rfl);clear k HB;go_wp2_with(go_at_call 84;refine X.o.mono ?_;clear X;rintro e w4 ⟨u4,rfl,an,ai⟩;obtain⟨s9,a9,l9,c9,t9,b9,k9,d9,rfl⟩:=Jj.form an;have n5:=boxed_below (boxed_below Qg ai) (Ba w4 (H #[E s9,C a9 l9 c9,E t9,C b9 k9 d9] 65));have x0:=n5.cell;have x1:=n5.frozen)
      rw[HE.o];exact BB (v:=I #[C none 0 0]) (by simp[results,Tryz.results56,go_sem,x0]) rfl ⟨_,rfl,QU _,((Bt M3.o.2.2 ai).alloc (by have:=M3.o.2.2.size;have:=ai.size;omega) _).setCell (p:=⟨w.heap.size+1,0,none⟩) (by show w.heap.size<=w.heap.size+1;omega) _⟩
    . have HB:=Z (show decide (((YC ps i:Nat):Int)≠0)=true by
       refine BM ?_;rw[<-HN.o];exact Int.natCast_ne_zero.2 (Qm.o k))
      rw[HB.o]at X;have HE:=Z (show r9=(YL ps ps.length:Rat)/(YC ps ps.length:Rat)by rw[<-Qi.o,Cs,AM,AM,HN.o]);have HT:=Z (show DX r9 ps=J2 ps by rw[HE.o];rfl);have HS:=Z (show Sq r9/\∀j,Sq (cf ps j*r9)by rw[HE.o];exact HF.o k);clear k HB;have H2:=Z λ(V:L) (hB:Bl w V) (x:Value) (hx:Jj V x r9)=>QV (I #[C m la o]) x ps r9 V (HP.o V hB) hx Qb.o HS.o.1 HS.o.2;rw[HT.o]at H2;go_upto_region 12 with(go_at_call 84;refine X.o.mono ?_;clear X;rintro e w4 ⟨u4,rfl,an,ai⟩;obtain⟨s9,a9,l9,c9,t9,b9,k9,d9,rfl⟩:=Jj.form an)
      clear Ql Qo Qh Qp;obtain⟨V8,hV⟩:=ex (w4.alloc (H #[E s9,C a9 l9 c9,E t9,C b9 k9 d9] 65));obtain⟨B8,ae⟩:=ex (w4.heap.size);have d:Mem w (w4.alloc (H #[E s9,C a9 l9 c9,E t9,C b9 k9 d9] 65)) [some (w.heap.size,.cell 25 (C m la o)),some (w.heap.size+1,.cell 25 (C none 0 0)),some (w.heap.size+1+1,.int (((YC ps i:Nat):Int))),some (t,.int (((YL ps i:Nat):Int))),some (w4.heap.size,.rat r9)]:=Mem.push (M3.o.below ai) (.rat r9) an;rw[hV,ae]at d;rw[hV];rw[ae];have M4:Hid (Mem w V8 [some (w.heap.size,.cell 25 (C m la o)),some (w.heap.size+1,.cell 25 (C none 0 0)),some (w.heap.size+1+1,.int (((YC ps i:Nat):Int))),some (t,.int (((YL ps i:Nat):Int))),some (B8,.rat r9)]):=Z (d);clear M3;clear d hV ae;obtain⟨s9,a9,l9,c9,t9,b9,k9,d9,n9,r9,i9,j9⟩:=M4.o.rat (i:=4) rfl;obtain⟨bj,bm,bn,bt⟩:=n9.cq;have c0:=(M4.o.cell (i:=0) rfl).1.cell;have n1:=(M4.o.cell (i:=1) rfl).1;have HQ:=Z M4.o.2.2;go_wp2_with(go_at_call 98;refine(H2.o _ HQ.o _ r9).mono ?_;clear H2;rintro e w5 ⟨u5,rfl,ay,f⟩;obtain⟨a7,l7,c7,rfl⟩:=ay.form;have n5:=boxed_below n1 f;have x0:=n5.cell;have x1:=n5.frozen;have Qn:=Z (Jx n5 (x:=C a7 l7 c7) ay);have Qk:=Z ((Bt HQ.o f).setCell (p:=⟨w.heap.size+1,0,none⟩) (by show w.heap.size<=w.heap.size+1;omega) (C a7 l7 c7));clear ay f n5)
      exact BB (v:=I #[C a7 l7 c7]) (by simp[results,Tryz.results56,go_sem,x0]) rfl ⟨_,rfl,Qn.o,Qk.o⟩
