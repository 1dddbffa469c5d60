import Derived.Test.YtakpoihdghihmaaGreatDoorM42
open Go.Value renaming slice->C,bool->E,pointer->F,agg->I,int->B
open Go renaming undef->G,World->L
open Go.Obj renaming cells->H
set_option maxRecDepth 100000
set_option maxHeartbeats 16000000
namespace Go.Proofs.YtakpoihdghihmaaGreatDoor
section
open Go.RowKit Go.Shelf
attribute [local go_sem] Oper.semAt_some
structure DivS(A la:Nat)(S:Nat->List Rat->List Rat->Prop)(qs:List Rat):Prop where
 next:∀(k:Nat) (R Q:List Rat) (n:Nat) (a:Rat),S k R Q->(∀i,i+qs.length<=R.length->cf Q i=0)->qs.length<=R.length->n=R.length-qs.length->a=cf R (R.length-1)/cf qs (qs.length-1)->
  (∀i,cf (Yi R (Jm (Jd (Em n [a])) qs)) i=cf R i-(if n<=i then a*cf qs (i-n)else 0))->(∀i,cf (Xv Q (Jd (Em n [a]))) i=if i=n then a else cf Q i)->S (k+1) (Yi R (Jm (Jd (Em n [a])) qs)) (Xv Q (Jd (Em n [a])))
 size:∀(k:Nat) (R Q:List Rat),k<=la->S k R Q->Sqs R/\Sqs Q/\∃z,z+(2*A+1)<=1000000000/\∀i,DM z (cf R i)
end
section
open Go.RowKit Go.Shelf
section
variable {D E l:Int} {K A:Nat} {ps qs:List Rat}
structure Dvn(D E l:Int)(K A:Nat)(ps qs:List Rat):Prop where
 hD:D≠0
 sD:Sm K D
 hp:EL D K ps
 hE:E≠0
 sE:Sm A E
 hq:EL E A qs
 hl:l≠0
 sl:Sm A l
 lead:cf qs (qs.length-1)=Rat.divInt l E
variable{m:Nat}
theorem Dvn.lne(h:Dvn D E l K A ps qs):cf qs (qs.length-1)≠0:=by
 rw[h.lead];intro e;have hE:(E:Rat)≠0:=by exact_mod_cast h.hE
 have a:(l:Rat)/(E:Rat)*(E:Rat)=l:=Aq hE;rw[<-CL,e,CG]at a;exact h.hl (by exact_mod_cast a.symm)
theorem Dvn.den(h:Dvn D E l K A ps qs)(k:Nat):D*l^k≠0/\Sm (K+k*(A+1)+1) (D*l^k):=by
 refine⟨CN h.hD (Int.pow_ne_zero h.hl),(h.sD.mul (h.sl.powZ k)).mono ?_⟩;rw[AJ];omega
theorem Dvn.at(h:Dvn D E l K A ps qs)(k:Nat):(∀i,DM (K+k*(A+1)+1) (cf (Jz ps qs (qs.length-1) m k).2 i))/\∀i,DM (K+k*(A+1)+1) (cf (Jz ps qs (qs.length-1) m k).1 i):=by
 have b:=Pl (m:=m) h.hD h.hp h.hE h.sE h.hq h.hl h.sl h.lead h.lne k;have a:=h.den k;exact⟨λi=>((b.1 i).mono Y).smq a.1 a.2,λi=>((b.2 i).mono Y).smq a.1 a.2⟩
theorem Dvn.sizes(h:Dvn D E l K A ps qs)(c:2*(K+m*(A+1)+1)+2*(2*A+1)<=1000000000):∀k,k<=m->∃z,z+(2*A+1)<=1000000000/\(k<m->2*z+2*(2*A+1)<=1000000000)/\(∀i,DM z (cf (Jz ps qs (qs.length-1) m k).2 i))/\∀i,DM (z+A) (cf (Jz ps qs (qs.length-1) m k).1 i):=by
 intro k a;have b:k*(A+1)<=m*(A+1):=Aj _ a;exact⟨K+k*(A+1)+1,Y,λ_=>by omega,(h.at k).1,λi=>((h.at k).2 i).mono Y⟩
theorem Dvn.rem(h:Dvn D E l K A ps qs)(b:ps.length-(qs.length-1)=m):EL (D*l^m) (K+m*(A+1)) (JF ps qs)/\EL (D*l^m) (K+m*(A+1)) (Js ps qs):=by
 have a:=Pl (m:=m) h.hD h.hp h.hE h.sE h.hq h.hl h.sl h.lead h.lne m;refine⟨λi=>?_,λi=>?_⟩
 . unfold JF;rw[Ym,b];exact a.1 i
 . unfold Js;rw[Ym,b];exact a.2 i
end
def D9(A:Nat)(p:List Rat):Prop:=∀i,∃z:Int,Sm A z/\cf p i=(z:Rat)
theorem D9.cdl{A:Nat}{p:List Rat}(h:D9 A p):EL 1 A p:=λi=>by
 obtain⟨z,a,b⟩:=h i;exact Mr DB a (by rw[b];grind)
theorem D9.mono{A B:Nat}{p:List Rat}(h:D9 A p)(c:A<=B):D9 B p:=λi=>by
 obtain⟨z,a,b⟩:=h i;exact⟨z,a.mono c,b⟩
theorem D9.ln{A:Nat}{p:List Rat}(h:D9 A p):Ln A p:=h.cdl.ln DB
theorem D9.smq{A:Nat}{p:List Rat}(h:D9 A p)(a:1<=A)(i:Nat):DM A (cf p i):=(h.cdl i).smq DB (Sm.one A a)
end
section
variable{p q:List Rat}{c:Rat}
theorem Zd(c:Rat):Xe c=c\/Xe c=-c:=by
 unfold Xe;split
 . exact Or.inr rfl
 . exact Or.inl rfl
theorem Ze(h:c≠0):Xe c≠0:=by
 rcases Zd c with e|e
 . rw[e];exact h
 . rw[e];intro a;exact h (by rw[<-Rat.neg_neg c,a];rfl)
theorem Zf(h:c≠0):∀n:Nat,c^n≠0:=by
 intro n;induction n with
 |zero=>rw[Rat.pow_zero];decide
 |succ n a=>rw[Rat.pow_succ];exact GV a h
def D3(p q:List Rat):Rat:=Xe (cf q (q.length-1))^(p.length+1-q.length)
def YD(p q:List Rat):List Rat:=DK (D3 p q) p
def YK(p q:List Rat):List Rat:=Yi [] (JK (JF (YD p q) q))
theorem Zg:JK []=[]:=rfl
theorem Yv(p:List Rat):Jd (JK p)=JK p:=JM _ _
theorem Hf(hp:Jd p=p):∃c:Rat,0<c/\JK p=DK c p:=by
 by_cases a:p=[]
 . subst a;exact⟨1,DB,rfl⟩
 . exact⟨_,ZZ hp a,rfl⟩
theorem I4(hp:Jd p=p){K:Nat}(h:Ln K p):D9 K (JK p):=by
 by_cases a:p=[]
 . subst a;exact λi=>⟨0,Sm.zero K,by rw[Zg,Xb];rfl⟩
 . exact P1 hp a h
theorem Ms(hq:Jd q=q)(a:q≠[]):D3 p q≠0:=Zf (Ze (Jw hq a)) _
theorem Hg(p q:List Rat):Jd (YK p q)=YK p q:=Xn _ _
theorem Mt(hq:Jd q=q)(b:q≠[]):∃c:Rat,c≠0/\YK p q=DK c (JF p q)/\YK p q=DK (-1) (JK (JF (YD p q) q)):=by
 have a:YK p q=DK (-1) (JK (JF (YD p q) q)):=Xo (Hg _ _) (JM _ _) λx=>by
  unfold YK;rw[YT,JG];simp[ev];grind
 have f:=(K0 (c:=D3 p q) (d:=1) DB p q hq b).2;rw[He hq]at f;obtain⟨c,g,j⟩:=Hf (Y5 (YD p q) q);have i:c≠0:=λe=>by rw[e]at g;exact absurd g DB
 refine⟨D3 p q*c*-1,GV (GV (Ms hq b) i) DB,?_,a⟩;rw[a,j];unfold YD;rw[f,I0,I0,Rat.mul_assoc]
theorem P2(hq:Jd q=q)(a:q≠[]){A:Nat}(h:Ln A (JF p q)):D9 A (JK (JF (YD p q) q))/\D9 A (YK p q):=by
 have b:=(K0 (c:=D3 p q) (d:=1) DB p q hq a).2;rw[He hq]at b;have f:D9 A (JK (JF (YD p q) q)):=I4 (Y5 _ _) (by unfold YD;rw[b];exact h.sc (Ms hq a));refine⟨f,λi=>?_⟩;obtain⟨z,g,j⟩:=f i;obtain⟨_,_,_,e⟩:=Mt (p:=p) hq a;exact⟨-z,g.neg,by rw[e,XH,j,Rat.intCast_neg];grind⟩
structure Chn(p q:List Rat)(A:Nat)(a b:List Rat):Prop where
 ta:Jd a=a
 tb:Jd b=b
 wa:D9 A a
 wb:D9 A b
 gc:JA a b=JA p q
 la:a.length<=max p.length q.length
 lb:b.length<=q.length
 nx:b≠[]->Ln A (JF a b)
 eu:Eu (JK p) (JK q) a b
def DV(K:Nat)(p q:List Rat):Nat:=(K+1)*(p.length+q.length+1)
theorem Mu(K:Nat)(p q:List Rat):K+1<=DV K p q:=by
 unfold DV
 have:(K+1)*1<=(K+1)*(p.length+q.length+1):=As _ Y
 omega
theorem Zh(K:Nat)(p q:List Rat):(K+1)*(p.length+q.length)<=DV K p q:=As _ Y
theorem J6(hp:Jd p=p):(JK p).length=p.length:=by
 obtain⟨c,a,e⟩:=Hf hp;rw[e];exact Ye (λb=>by rw[b]at a;exact absurd a DB) hp
theorem P3(hp:Jd p=p)(hq:Jd q=q):JA (JK p) (JK q)=JA p q:=by
 obtain⟨c,b,e⟩:=Hf hp;obtain⟨d,f,g⟩:=Hf hq;rw[e,g];exact Pt (λa=>by rw[a]at b;exact absurd b DB) (λa=>by rw[a]at f;exact absurd f DB) hp hq
section
variable {K:Nat} {p q a b:List Rat}
theorem Chn.ln_rem(hp:Jd p=p)(hq:Jd q=q)(d:Ln K p)(e:Ln K q)(hl:p.length+q.length<=1000000000)(h:Eu (JK p) (JK q) a b)(f:b≠[]):Ln (DV K p q) (JF a b):=by
 have c:=ZP (Yv p) (Yv q) (I4 hp d).ln (I4 hq e).ln (by rw[J6 hp,J6 hq];exact hl) h f;rw[J6 hp,J6 hq]at c;exact c.mono (Zh _ _ _)
theorem Chn.start(hp:Jd p=p)(hq:Jd q=q)(a:Ln K p)(b:Ln K q)(hl:p.length+q.length<=1000000000):Chn p q (DV K p q) (JK p) (JK q) where
 ta:=Yv p
 tb:=Yv q
 wa:=(I4 hp a).mono (by have:=Mu K p q;omega)
 wb:=(I4 hq b).mono (by have:=Mu K p q;omega)
 gc:=P3 hp hq
 la:=by rw[J6 hp];exact Nat.le_max_left _ _
 lb:=by rw[J6 hq];exact Aa _
 nx:=Chn.ln_rem hp hq a b hl (.base _ _)
 eu:=.base _ _
theorem Chn.next(hp:Jd p=p)(hq:Jd q=q)(i:Ln K p)(j:Ln K q)(hl:p.length+q.length<=1000000000)(h:Chn p q (DV K p q) a b)(d:b≠[]):Chn p q (DV K p q) b (YK a b):=by
 obtain⟨c,g,e,_⟩:=Mt (p:=a) h.tb d;have f:Eu (JK p) (JK q) b (YK a b):=by rw[e];exact h.eu.tail d g
 have l:(YK a b).length<b.length:=by
  rw[e,Ye g (Y5 _ _)];exact(YF a b h.tb d).2.1
 have k:=h.lb;exact⟨h.tb,Hg _ _,h.wb,(P2 h.tb d (h.nx d)).2,by rw[<-f.gcd (Yv p) (Yv q)];exact P3 hp hq,Y,Y,Chn.ln_rem hp hq i j hl f,f⟩
end
theorem Xt{a b:List Rat}(f:Jd b=b)(d:b≠[]):(YK a b).length<b.length:=by
 obtain⟨c,g,e,_⟩:=Mt (p:=a) f d;rw[e,Ye g (Y5 _ _)];exact(YF a b f d).2.1
structure Rhn(p q:List Rat)(A:Nat)(a b:List Rat):Prop where
 ta:Jd a=a
 tb:Jd b=b
 ca:∃D:Int,D≠0/\Sm A D/\EL D A a
 cb:∃E:Int,E≠0/\Sm A E/\EL E A b
 mb:b≠[]->cf b (b.length-1)=1
 ma:JJ a=a
 gc:JA a b=JA p q
 la:a.length<=max p.length q.length
 lb:b.length<=q.length
 nx:b≠[]->Ln A (JF a b)
 eu:Eu (JJ p) (JJ q) a b
section
variable {K:Nat} {p q a b:List Rat}
end
end
section
open Go.RowKit Go.Shelf
theorem P4(q:Rat):EJ q 0<0↔q<0:=by
 rw[Rat.lt_iff];unfold EJ XY;split<;>(try split)<;>omega
theorem Zi(a b:Nat):(a:Int)*((b:Int)/((Int.gcd a b:Nat):Int))=((Nat.lcm a b:Nat):Int):=by
 show(a:Int)*((b:Int)/((Nat.gcd a b:Nat):Int))=_;rw[<-C8,<-Int.natCast_mul];congr 1;rw[Nat.lcm,Nat.mul_div_assoc _ (CZ a b)]
theorem K6(ps:List Rat)(i:Nat):(if((i:Nat):Int)<0 then(0:Rat)else cf ps ((i:Nat):Int).toNat)=cf ps i:=by
 rw[BC Y,CJ]
theorem P5(A:Nat)(b c:Value)(ps qs:List Rat)(w:L)(g:Jf w b ps)(j:Jf w c qs)(l:Sqs ps)(hq:∀i,DM A (cf qs i))(m:Jd ps=ps)(n:Jd qs=qs)(a:qs≠[])
(f:∀k,k<=ps.length-(qs.length-1)->∃z,z+(2*A+1)<=1000000000/\(k<ps.length-(qs.length-1)->2*z+2*(2*A+1)<=1000000000)/\(∀i,DM z (cf (Jz ps qs (qs.length-1) (ps.length-(qs.length-1)) k).2 i))/\∀i,DM (z+A) (cf (Jz ps qs (qs.length-1) (ps.length-(qs.length-1)) k).1 i)):
 Calls Tryz.prog 139 #[b,c] w λe d=>∃u v,e=.returned (.tuple #[u,v,E true])/\Jf d u (Js ps qs)/\Jf d v (JF ps qs)/\Bl w d:=by
 have h:=M3.Y0 A b c ps qs w g j l hq m n λ_=>f;rw[BJ a,BC a,BC a]at h;exact h
end
namespace M3
open Go.RowKit Go.Shelf
variable{S:List Rat}{c i l n:Nat}{a:Option Addr}{v:Value}{V:L}
theorem Zj(n:Nat)(h:n<=2199023255552)(w:L):(Instr.makeSlice 22 (B .i64 (n:Int)) (B .i64 (n:Int))).run Tryz.prog w=.ok (C (some ⟨w.heap.size,0,none⟩) n n) (w.alloc (H (Yb n) 37)):=by
 obtain⟨i,d,b⟩:=Option.map_eq_some_iff.1 Tryz.infoRat;simp only[Fj]at b;obtain⟨f,e,c⟩:=b;have a:=run_make (P:=Tryz.prog) w 22 37 i _ Tryz.underlying22 d f .i64 .i64 n n Y (Int.le_refl _) (by rw[c];omega) Y;simp only[CJ,e]at a;exact a
theorem K7(V:L):Has V (I #[C Option.none 0 0]) (.poly []):=⟨_,rfl,row_zero V Option.none⟩
theorem P6(V:L):Jf V (I #[C Option.none 0 0]) []:=⟨_,rfl,row_zero V Option.none⟩
theorem Mem.poly2{w:L}{bs:List (Option (Nat × Dat))}(M:Mem w V bs){B:Nat}{ps:List Rat}(h:bs[i]?=some (some (B,.poly ps))):∃a l c,Boxed V B 25 (C a l c)/\Jf V (I #[C a l c]) ps:=by
 obtain⟨a,l,c,b,d⟩:=M.poly h;exact⟨a,l,c,b,_,rfl,d⟩
theorem K8{W:L}{B:Nat}(b:Boxed W B 25 (C a l c)){x:Value}{qs:List Rat}(h:Jf W v qs):Jf (W.setCell ⟨B,0,Option.none⟩ x) v qs:=by
 obtain⟨u,e,h⟩:=h;exact⟨u,e,E5 b x h⟩
theorem Has.set1{d:Dat}(h:Has V v d){B:Nat}(q:Boxed V B 25 (C a l c))(e:JD (C a l c)=true)(b:Value):Has (V.setCell ⟨B,0,Option.none⟩ b) v d:=
 h.keep (MP q e b) (Or.inr λ_ _ g=>E5 q b g)
theorem Tup2.set1{V:L}{v:Value}{d1 d:Dat}(h:Tup2 V v d1 d){B:Nat}{a:Option Addr}{l c:Nat}(q:Boxed V B 25 (C a l c))(f:JD (C a l c)=true)(b:Value):Tup2 (V.setCell ⟨B,0,Option.none⟩ b) v d1 d:=by
 obtain⟨u1,u2,e,g,i⟩:=h;exact⟨u1,u2,e,g.set1 q f b,i.set1 q f b⟩
attribute [local go_sem] Oper.semAt_some
theorem Zk(va:Value)(q:Rat)(w:L)(Q:Jg w va q)(ah:Sq q):
 Calls Tryz.prog 206 #[va] w λe w'=>∃u,e=.returned u/\Jg w' u (Xe q)/\Bl w w':=by
 obtain⟨ak,W,aj,ad,am,X,ai,ae,rfl⟩:=Jg.form Q;have g:=(((Mem.nil w).push (.rat q) Q).push (.rat 0) (XQ _));simp only[Ax]at g;have g:Mem w ((w.alloc (H #[E ak,C W aj ad,E am,C X ai ae] 37)).alloc (H #[E false,C none 0 0,E false,C none 0 0] 37)) [some (w.heap.size,.rat q),some (w.heap.size+1,.rat 0)]:=g;obtain⟨W0,P⟩:=ex ((w.alloc (H #[E ak,C W aj ad,E am,C X ai ae] 37)).alloc (H #[E false,C none 0 0,E false,C none 0 0] 37));have U:=Ja P;rw[P]at g;have j:Hid (Mem w W0 [some (w.heap.size,.rat q),some (w.heap.size+1,.rat 0)]):=Ja g;have T:=Ja ah;clear g P Q ah;go_enter Tryz.func206,Tryz.ntmps206
 go_upto_region 1 with fail
 rw[U.o];clear U;obtain⟨s1,a1,l1,c1,t1,b1,k1,d1,z,r1,i1,j1⟩:=j.o.rat (i:=0) rfl;obtain⟨t,k,o,s⟩:=z.cq;obtain⟨s2,a2,l2,c2,t2,b2,k2,d2,a,r2,i2,j2⟩:=j.o.rat (i:=1) rfl;obtain⟨b,c,f,d⟩:=a.cq;obtain⟨m,l,r,p⟩:=a.fq;obtain⟨x,A,HR⟩:=DX (Hw _ _ q 0 W0 r1 (XQ _) T.o F6) (λ(V:L) (h:Bl W0 V)=>Is _ _ 0 q V (XQ _) (r1.below h) F6 T.o) r1;obtain⟨n,R⟩:=ex (EJ q 0);rw[R]at x;have S:=Ja R;clear R r1 i1 j1;by_cases af:n<0
 . have D:=Ja (show 0-q=Xe q by
    have N:=(P4 q).1 (by rw[S.o];exact af);unfold Xe;rw[BE N];grind)
   rw[D.o]at A;go_wp2_with(first
    |(go_at_call 27;refine x.o.mono ?_;clear x;rintro e w1 ⟨rfl,hq⟩;clear t k o s;obtain⟨t,k,o,s⟩:=(z.below hq).cq;clear b c f d;obtain⟨b,c,f,d⟩:=(a.below hq).cq;clear m l r p;obtain⟨m,l,r,p⟩:=(a.below hq).fq)
    |(go_at_call 26;refine(A.o _ hq).mono ?_;clear A;rintro e w2 ⟨u2,rfl,y,ax⟩;obtain⟨ba,an,az,aq,bc,ap,ay,aw,rfl⟩:=Jg.form y;have hq:=Bt hq ax;clear t k o s;obtain⟨t,k,o,s⟩:=(z.below hq).cq;clear b c f d;obtain⟨b,c,f,d⟩:=(a.below hq).cq;clear m l r p;obtain⟨m,l,r,p⟩:=(a.below hq).fq))
   have M:=Bt j.o.2.2 hq;have K:=j.o.ge 1 rfl;exact BA (v:=I #[E ba,C an az aq,E bc,C ap ay aw]) (by simp[results,Tryz.results206,go_sem,b,c,f,d]) rfl ⟨_,rfl,y.put4 (a.below hq) rfl rfl rfl rfl _ _ _ _,Jt M K _ _ _ _⟩
 . have D:=Ja (show Xe q=q by
    have N:¬q<0:=λh=>af (by rw[<-S.o];exact(P4 q).2 h);unfold Xe;rw[BC N])
   go_wp2_with(go_at_call 27;refine x.o.mono ?_;clear x;rintro e w1 ⟨rfl,hq⟩;clear t k o s;obtain⟨t,k,o,s⟩:=(z.below hq).cq;clear b c f d;obtain⟨b,c,f,d⟩:=(a.below hq).cq;clear m l r p;obtain⟨m,l,r,p⟩:=(a.below hq).fq)
   have y:=HR.o.below hq;rw[<-D.o]at y;have M:=Bt j.o.2.2 hq;have K:=j.o.ge 1 rfl;exact BA (v:=I #[E s1,C a1 l1 c1,E t1,C b1 k1 d1]) (by simp[results,Tryz.results206,go_sem,b,c,f,d]) rfl ⟨_,rfl,y.put4 (a.below hq) rfl rfl rfl rfl _ _ _ _,Jt M K _ _ _ _⟩
theorem Zl(va vb:Value)(x y:Nat)(w:L)(ha:Jk w va (x:Int))(hb:Jk w vb (y:Int))(hx:0<x)(az:Sok (x:Int))(ba:Sok (y:Int)):
 Calls Tryz.prog 180 #[va,vb] w λe w'=>∃u,e=.returned u/\Jk w' u ((Nat.lcm x y:Nat):Int)/\Bl w w':=by
 have Qj:Tryz.prog.follows .mixedOrders=true:=by kernel_rfl
 have HG:=Ja (show((Int.gcd x y:Nat):Int)≠0 by have:=Nat.gcd_pos_of_pos_left y hx;exact Int.natCast_ne_zero.2 (by show Nat.gcd x y≠0;omega));obtain⟨aw,af,ap,aj,rfl⟩:=Jk.form2 ha;obtain⟨ax,ah,aq,ak,rfl⟩:=Jk.form2 hb;have Q:=((((Mem.nil w).push (.int ((x:Int))) ha).push (.int ((y:Int))) (Has.alloc (d:=.int ((y:Int))) hb _)).push (.int 0) (XP _));simp only[Ax]at Q;have Q:Mem w (((w.alloc (H #[E aw,C af ap aj] 35)).alloc (H #[E ax,C ah aq ak] 35)).alloc (H #[E false,C none 0 0] 35)) [some (w.heap.size,.int ((x:Int))),some (w.heap.size+1,.int ((y:Int))),some (w.heap.size+1+1,.int 0)]:=Q;obtain⟨W0,am⟩:=ex (((w.alloc (H #[E aw,C af ap aj] 35)).alloc (H #[E ax,C ah aq ak] 35)).alloc (H #[E false,C none 0 0] 35));have Qg:=Ja am;rw[am]at Q;have M1:Hid (Mem w W0 [some (w.heap.size,.int ((x:Int))),some (w.heap.size+1,.int ((y:Int))),some (w.heap.size+1+1,.int 0)]):=Ja Q;have Qc:=Ja az;have Qa:=Ja ba;clear Q am ha hb az ba;go_enter Tryz.func180,Tryz.ntmps180
 go_upto_region 1 with fail
 rw[Qg.o];clear Qg;clear hx;refine Jn Qj [[],[],[],[1,2],[0,3,3],[4],[5],[5],[5],[],[],[9,6,4,0,1,2,3,4,5,6,9,10],[10,7,11,0,1,2,3,4,5,6,7,9,10,11],[8,12,0,1,2,3,4,5,6,7,8,9,10,11,12]] (by kernel_rfl) DB
  (λD ai V=>∃(tn ta tb tc td tm te tg ti tj tk tl:Value) (T S:Option (Nat × Dat)),ai={ tmps:=#[I #[E aw,C af ap aj],I #[E ax,C ah aq ak],F (some ⟨w.heap.size,0,none⟩),F (some ⟨w.heap.size+1,0,none⟩),F (some ⟨w.heap.size+1+1,0,none⟩),tj,tk,tl,tm,tn,ta,tb,tc,td,te,tg,ti,G,G,G],defers:=[] }/\Hid ((D 0=true->Has V tn (.int ((y:Int))))/\(D 1=true->Has V ta (.int ((x:Int))))/\(D 2=true->Has V tb (.int ((y:Int))))/\(D 3=true->Has V tc (.int (((Int.gcd x y:Nat):Int))))/\(D 4=true->Tup2 V td (.int ((y:Int)/((Int.gcd x y:Nat):Int))) (.int ((y:Int)%((Int.gcd x y:Nat):Int))))/\(D 5=true->Tup2 V tm (.int ((y:Int)/((Int.gcd x y:Nat):Int))) (.int ((y:Int)%((Int.gcd x y:Nat):Int))))/\(D 6=true->Has V te (.int ((y:Int)/((Int.gcd x y:Nat):Int))))/\(D 7=true->Has V tg (.int ((y:Int)%((Int.gcd x y:Nat):Int))))/\(D 8=true->ti=E true)/\((D 9=false->T=none)/\(D 9=true->D 11=false->∃B:Nat,tj=F (some ⟨B,0,none⟩)/\T=some (B,.int 0))/\(D 11=true->∃B:Nat,tj=F (some ⟨B,0,none⟩)/\T=some (B,.int ((y:Int)/((Int.gcd x y:Nat):Int)))))/\((D 10=false->S=none)/\(D 10=true->D 12=false->∃B:Nat,tk=F (some ⟨B,0,none⟩)/\S=some (B,.int 0))/\(D 12=true->∃B:Nat,tk=F (some ⟨B,0,none⟩)/\S=some (B,.int ((y:Int)%((Int.gcd x y:Nat):Int)))))/\(D 13=true->tl=E true))/\Hid (Mem w V [some (w.heap.size,.int ((x:Int))),some (w.heap.size+1,.int ((y:Int))),some (w.heap.size+1+1,.int 0),T,S]))
  ⟨_,_,_,_,_,_,_,_,_,_,_,_,none,none,rfl,Ja ⟨Z,Z,Z,Z,Z,Z,Z,Z,Z,Z,Z,Z⟩,Ja (((M1.o).none).none).drew⟩ ?step1 ?fin1
 case step1=>
  rintro D ai V i ds ay hi f R ⟨tn,ta,tb,tc,td,tm,te,tg,ti,tj,tk,tl,T,S,rfl,b,g⟩;have bt:i<14:=(Ad.1 hi).1;obtain rfl|rfl|rfl|rfl|rfl|rfl|rfl|rfl|rfl|rfl|rfl|rfl|rfl|rfl:=FI i Y
  all_goals
   simp only[Ag,Af,Ak]at hi;subst hi
  . clear f;obtain⟨s,a,l,c,n,i⟩:=g.o.int (i:=1) rfl;obtain⟨e0,e1⟩:=n.cp;refine Za ?_;exact⟨_,_,_,_,_,_,_,_,_,_,_,_,_,_,rfl,(DZ b λ_=>i),Ja (g.o)⟩
  . clear f;obtain⟨s,a,l,c,n,i⟩:=g.o.int (i:=0) rfl;obtain⟨e0,e1⟩:=n.cp;refine Za ?_;exact⟨_,_,_,_,_,_,_,_,_,_,_,_,_,_,rfl,(Dg b λ_=>i),Ja (g.o)⟩
  . clear f;obtain⟨s,a,l,c,n,i⟩:=g.o.int (i:=1) rfl;obtain⟨e0,e1⟩:=n.cp;refine Za ?_;exact⟨_,_,_,_,_,_,_,_,_,_,_,_,_,_,rfl,(DU b λ_=>i),Ja (g.o)⟩
  . have P:=(b.o.2.1 (f 1 Z));have A:=(b.o.2.2.1 (f 2 Z));have HC:=Ja (Gy _ _ (x:Int) (y:Int) V P A (by have:=Qc.o.words;omega) (by have:=Qa.o.words;omega));clear f P A;refine Jb rfl rfl λK hK=>?_;go_simp;go_wp2_with(go_at_call 84;refine HC.o.mono ?_;rintro e w5 ⟨v5,rfl,an,j⟩)
    obtain⟨k,m,o,_,N,q,r,t,z⟩:=b.o;exact⟨_,_,_,_,_,_,_,_,_,_,_,_,_,_,rfl,Ja ⟨λh=>(k h).below j,λh=>(m h).below j,λh=>(o h).below j,λ_=>an,λh=>(N h).below j,λh=>(q h).below j,λh=>(r h).below j,λh=>(t h).below j,z⟩,Ja (g.o.below j)⟩
  . have P:=(b.o.1 (f 0 Z));have A:=(b.o.2.2.2.1 (f 3 Z));have HC:=Ja (O0 _ _ (y:Int) ((Int.gcd x y:Nat):Int) V P A HG.o (by have:=Qa.o.words;omega) (by have:=(Qc.o.gcd Qa.o).words;omega));clear f P A;refine Jb rfl rfl λK hK=>?_;go_simp;go_wp2_with(go_at_call 135;refine HC.o.mono ?_;rintro e w5 ⟨v5,v6,rfl,an,bh,j⟩)
    obtain⟨k,m,o,M,_,q,r,t,z⟩:=b.o;exact⟨_,_,_,_,_,_,_,_,_,_,_,_,_,_,rfl,Ja ⟨λh=>(k h).below j,λh=>(m h).below j,λh=>(o h).below j,λh=>(M h).below j,λ_=>⟨v5,v6,rfl,an,bh⟩,λh=>(q h).below j,λh=>(r h).below j,λh=>(t h).below j,z⟩,Ja (g.o.below j)⟩
  . have P:=(b.o.2.2.2.2.1 (f 4 Z));clear f;refine Za ?_;exact⟨_,_,_,_,_,_,_,_,_,_,_,_,_,_,rfl,(Ds b λ_=>P),Ja (g.o)⟩
  . obtain⟨y1,y2,rfl,A,h2⟩:=((Dl b) (f 5 Z));clear f;refine Za ?_;exact⟨_,_,_,_,_,_,_,_,_,_,_,_,_,_,rfl,(Dy b λ_=>A),Ja (g.o)⟩
  . obtain⟨y1,y2,rfl,A,h2⟩:=((Dl b) (f 5 Z));clear f;refine Za ?_;exact⟨_,_,_,_,_,_,_,_,_,_,_,_,_,_,rfl,(ED b λ_=>h2),Ja (g.o)⟩
  . obtain⟨y1,y2,rfl,A,h2⟩:=((Dl b) (f 5 Z));clear f;refine Za ?_;exact⟨_,_,_,_,_,_,_,_,_,_,_,_,_,_,rfl,(EE b),Ja (g.o)⟩
  . have hf:D 11=false:=DF ay R;obtain rfl:=b.o.2.2.2.2.2.2.2.2.2.1.1 R;clear f;refine Za ?_;obtain⟨k,m,o,M,N,q,r,t,z,_,ad⟩:=b.o;exact⟨_,_,_,_,_,_,_,_,_,_,_,_,_,_,rfl,Ja ⟨λh=>(k h).alloc _,λh=>(m h).alloc _,λh=>(o h).alloc _,λh=>(M h).alloc _,λh=>(N h).alloc _,λh=>(q h).alloc _,λh=>(r h).alloc _,λh=>(t h).alloc _,z,⟨λh=>by simp at h,λ_ _=>⟨_,rfl,rfl⟩,λh=>by simp[hf]at h⟩,ad⟩,Ja (g.o.fill (i:=3) rfl (.int 0) (XP _))⟩
  . have hf:D 12=false:=DF ay R;obtain rfl:=b.o.2.2.2.2.2.2.2.2.2.2.1.1 R;clear f;refine Za ?_;obtain⟨k,m,o,M,N,q,r,t,z,G9,_,ae⟩:=b.o;exact⟨_,_,_,_,_,_,_,_,_,_,_,_,_,_,rfl,Ja ⟨λh=>(k h).alloc _,λh=>(m h).alloc _,λh=>(o h).alloc _,λh=>(M h).alloc _,λh=>(N h).alloc _,λh=>(q h).alloc _,λh=>(r h).alloc _,λh=>(t h).alloc _,z,G9,⟨λh=>by simp at h,λ_ _=>⟨_,rfl,rfl⟩,λh=>by simp[hf]at h⟩,ae⟩,Ja (g.o.fill (i:=4) rfl (.int 0) (XP _))⟩
  . obtain⟨B,rfl,rfl⟩:=b.o.2.2.2.2.2.2.2.2.2.1.2.1 (f 9 Z) R;have Qb:=f 9 Z;have X:=((D5 b) (f 6 Z));obtain⟨s1,a1,l1,c1,rfl⟩:=Jk.form2 (show Jk V _ _ from X);obtain⟨s,a,l,c,n,i⟩:=g.o.int (i:=3) rfl;have e0:=n.c0;have f0:=n.f0;have e1:=n.c1;have f1:=n.f1;clear f;refine Za ?_;obtain⟨k,m,o,M,N,q,r,t,z,_,ad⟩:=b.o;exact⟨_,_,_,_,_,_,_,_,_,_,_,_,_,_,rfl,Ja ⟨λh=>(k h).set2 n rfl rfl _ _,λh=>(m h).set2 n rfl rfl _ _,λh=>(o h).set2 n rfl rfl _ _,λh=>(M h).set2 n rfl rfl _ _,λh=>(N h).set2 n rfl rfl _ _,λh=>(q h).set2 n rfl rfl _ _,λh=>(r h).set2 n rfl rfl _ _,λh=>(t h).set2 n rfl rfl _ _,z,⟨λh=>by simp[Qb]at h,λ_ h=>by simp at h,λ_=>⟨B,rfl,rfl⟩⟩,ad⟩,Ja (g.o.putInt (i:=3) rfl X)⟩
  . obtain⟨B,rfl,rfl⟩:=b.o.2.2.2.2.2.2.2.2.2.2.1.2.1 (f 10 Z) R;have Qb:=f 10 Z;have X:=((Er b) (f 7 Z));obtain⟨s1,a1,l1,c1,rfl⟩:=Jk.form2 (show Jk V _ _ from X);obtain⟨s,a,l,c,n,i⟩:=g.o.int (i:=4) rfl;have e0:=n.c0;have f0:=n.f0;have e1:=n.c1;have f1:=n.f1;clear f;refine Za ?_;obtain⟨k,m,o,M,N,q,r,t,z,G9,_,ae⟩:=b.o;exact⟨_,_,_,_,_,_,_,_,_,_,_,_,_,_,rfl,Ja ⟨λh=>(k h).set2 n rfl rfl _ _,λh=>(m h).set2 n rfl rfl _ _,λh=>(o h).set2 n rfl rfl _ _,λh=>(M h).set2 n rfl rfl _ _,λh=>(N h).set2 n rfl rfl _ _,λh=>(q h).set2 n rfl rfl _ _,λh=>(r h).set2 n rfl rfl _ _,λh=>(t h).set2 n rfl rfl _ _,z,G9,⟨λh=>by simp[Qb]at h,λ_ h=>by simp at h,λ_=>⟨B,rfl,rfl⟩⟩,ae⟩,Ja (g.o.putInt (i:=4) rfl X)⟩
  . obtain rfl:=((Ee b) (f 8 Z));clear f;refine Za ?_;exact⟨_,_,_,_,_,_,_,_,_,_,_,_,_,_,rfl,(Gn (EE b)),Ja (g.o)⟩
 rintro D ai V2 W ⟨tn,ta,tb,tc,td,tm,te,tg,ti,tj,tk,tl,T,S,rfl,b,g⟩;obtain⟨B3,rfl,rfl⟩:=b.o.2.2.2.2.2.2.2.2.2.1.2.2 (W 11 DB);obtain⟨B4,rfl,rfl⟩:=b.o.2.2.2.2.2.2.2.2.2.2.1.2.2 (W 12 DB);obtain rfl:=Ee b (W 8 DB);obtain rfl:=b.o.2.2.2.2.2.2.2.2.2.2.2 (W 13 DB);clear b W M1;have U:Hid (Mem w V2 [some (w.heap.size,.int ((x:Int))),some (w.heap.size+1,.int ((y:Int))),some (w.heap.size+1+1,.int 0),some (B3,.int ((y:Int)/((Int.gcd x y:Nat):Int))),some (B4,.int ((y:Int)%((Int.gcd x y:Nat):Int)))]):=g;clear g;obtain⟨s5,a5,l5,c5,n5,i5⟩:=U.o.int (i:=0) rfl;obtain⟨bk,bl⟩:=n5.cp;obtain⟨s6,a6,l6,c6,n6,i6⟩:=U.o.int (i:=3) rfl;obtain⟨bm,bn⟩:=n6.cp;obtain⟨s7,a7,l7,c7,n7,i7⟩:=U.o.int (i:=2) rfl;obtain⟨Qe,Qd⟩:=n7.cp;obtain⟨Qi,Qh⟩:=n7.fp;have H1:=Ja (Y3 _ _ (x:Int) ((y:Int)/((Int.gcd x y:Nat):Int)) V2 i5 i6 (by have A:=Qc.o.words;have h2:=(Qa.o.div (y:=((Int.gcd x y:Nat):Int))).words;omega));rw[Zi]at H1;go_wp2_with(go_at_call 69;refine H1.o.mono ?_;clear H1;rintro e w2 ⟨u2,rfl,bc,hq⟩;obtain⟨bj,bf,bi,bg,rfl⟩:=Jk.form2 bc;clear Qe Qd;obtain⟨Qe,Qd⟩:=(n7.below hq).cp;clear Qi Qh;obtain⟨Qi,Qh⟩:=(n7.below hq).fp)
 have Qk:=Bt U.o.2.2 hq;have Qf:=U.o.ge 2 rfl;exact BA (v:=I #[E bj,C bf bi bg]) (by simp[results,Tryz.results180,go_sem,Qe,Qd]) rfl ⟨_,rfl,bc.box (n7.below hq) rfl rfl,(Qk.setCell (p:=⟨_,0,none⟩) Qf _).setCell (p:=⟨_,1,none⟩) Qf _⟩
def IH(F:Nat->Rat)(n i:Nat)(S:List Rat):Prop:=S.length=n/\∀j,cf S j=if j<i then F j else 0
theorem IH.next{F:Nat->Rat}(h:IH F n i S)(b:i<n):IH F n (i+1) (S.set i (F i)):=by
 refine⟨by rw[CC];exact h.1,λj=>?_⟩;rw[X4 _ _ _ _ (by rw[h.1];exact b),h.2 j];by_cases e:j=i
 . rw[BE e,BE Y,e]
 . rw[BC e];by_cases a:j<i
   . rw[BE a,BE Y]
   . rw[BC a,BC Y]
theorem IH.done{F:Nat->Rat}{T:List Rat}(h:IH F n n S)(b:Jd T=T)(hF:∀j,j<n->cf T j=F j)(a:∀j,n<=j->cf T j=0):Jd S=T:=by
 rw[<-b];refine Gc λj=>?_;rw[h.2 j];split
 . exact(hF j (by assumption)).symm
 . exact(a j Y).symm
theorem P7(v vf:Value)(ps:List Rat)(f:Rat)(w:L)(h:Jf w v ps)(hf:Jg w vf f)(aw:Sqs ps)(ax:Sq f)(ay:∀i,Sq (cf ps i*f)):
 Calls Tryz.prog 181 #[v,vf] w λe w'=>∃u,e=.returned u/\Jf w' u (DK f ps)/\Bl w w':=by
 have Qq:Tryz.prog.follows .mixedOrders=true:=by kernel_rfl
 obtain⟨x,la,y,rfl⟩:=h.form;obtain⟨s,a,l,c,t,b,k,d,rfl⟩:=Jg.form hf;obtain⟨bc,az,ba,bf,_⟩:=h.row.forms;have M0:=((((Mem.nil w).push (.cell 25 (C x la y)) (cs:=#[C x la y]) ⟨rfl,rfl⟩).push (.rat f) (cs:=#[E s,C a l c,E t,C b k d]) (Has.alloc (d:=.rat f) hf _)).push (.cell 25 (C none 0 0)) (cs:=#[C none 0 0]) ⟨rfl,rfl⟩);simp only[Ax]at M0;obtain⟨V0,af⟩:=ex (((w.alloc (H #[C x la y] 25)).alloc (H #[E s,C a l c,E t,C b k d] 37)).alloc (H #[C none 0 0] 25));have M1:Mem w V0 [some (w.heap.size,.cell 25 (C x la y)),some (w.heap.size+1,.rat f),some (w.heap.size+1+1,.cell 25 (C none 0 0))]:=by rw[<-af];exact M0
 have Qh:=Ja M1;obtain⟨n,hn⟩:=ex (ps.length:Nat);obtain⟨Q,ap⟩:=ex ((n:Int)-1:Int);have Qg:=Ja (Yd (I #[C x la y]) ps V0 (h.below M1.2.2));rw[hn,ap]at Qg;have bg:Q+1=(n:Int):=Y
 have bh:IntKind.i64.wrap (n:Int)=(n:Int):=by rw[BQ];omega
 have Qr:∀W:L,(Instr.makeSlice 22 (B .i64 (n:Int)) (B .i64 (n:Int))).run Tryz.prog W=.ok (C (some ⟨W.heap.size,0,none⟩) n n) (W.alloc (H (Yb n) 37)):=λW=>Zj n Y W;obtain⟨HP,Ql,Qm,HN⟩:=Dw (λ(V:L) (hB:Bl w V)=>h.below hB) aw ay (show ps.length=n from hn);have Qd:n<=1099511627776:=Y
 have Qj:=Ja af;have Qo:=Ja ax;clear h aw ay bc az ba hn ap M0 M1 af bf hf ax;go_enter Tryz.func181,Tryz.ntmps181
 go_upto_region 1 with fail
 rw[Qj.o];have c0:=(Qh.o.cell (i:=0) rfl).1.cell;go_upto_region 2 with(go_at_call 30;refine Qg.o.mono ?_;clear Qg;rintro e w1 ⟨rfl,an⟩)
 have Qe:Mem w (w1.alloc (H (Yb n) 37)) [some (w.heap.size,.cell 25 (C x la y)),some (w.heap.size+1,.rat f),some (w.heap.size+1+1,.cell 25 (C none 0 0)),some (w1.heap.size,.rats (List.replicate n 0))]:=(Qh.o.below an).push (.rats (List.replicate n 0)) (Ku _ n);obtain⟨V1,ah⟩:=ex (w1.alloc (H (Yb n) 37));obtain⟨A,ai⟩:=ex (w1.heap.size);rw[ah,ai]at Qe;rw[ah,ai];have Qi:=Ja Qe;clear Qe ah ai an c0 Qh Qj Qr;go_wp2;go_loopw [13] (λiv wr=>∃(i:Nat) (S:List Rat),i<=n/\iv=B .i64 (i:Int)/\Hid (IH (λj=>cf ps j*f) n i S)/\Hid (Mem w wr [some (w.heap.size,.cell 25 (C x la y)),some (w.heap.size+1,.rat f),some (w.heap.size+1+1,.cell 25 (C none 0 0)),some (A,.rats S)])) λiv _=>n-(intOf iv).toNat
 case atStart=>exact⟨0,_,AK _,rfl,Ja ⟨Az,λj=>by rw[J2,BC Y]⟩,Qi⟩
 case round=>
  obtain⟨i,S,hi,rfl,N,X⟩:=hrel;clear Qi;by_cases aq:i<n
  . have bj:(i:Int)<(n:Int):=Y
    have Qk:=Ja (show i<S.length by rw[N.o.1];exact aq);go_wp2_with fail
    have Qn:=X.o.drew;refine Jn Qq [[],[],[],[],[2,3],[],[4,5,4],[0,1,0,1,2,3,4,5,6],[7,6,6,0,1,2,3,4,5,6]] (by kernel_rfl) DB
     (λD ae V=>∃(ta tb tc td te tg ti tj:Value),ae={ tmps:=#[I #[C x la y],I #[E s,C a l c,E t,C b k d],F (some ⟨w.heap.size,0,none⟩),F (some ⟨w.heap.size+1,0,none⟩),F (some ⟨w.heap.size+1+1,0,none⟩),C (some ⟨A,0,none⟩) n n,B .i64 ↑i,I #[C x la y],B .i64 Q,B .i64 ↑n,C (some ⟨A,0,none⟩) n n,C (some ⟨A,0,none⟩) n n,B .i64 ↑n,B .i64 ↑i,E true,B .i64 ↑i,ta,tb,tc,td,te,tg,ti,tj,u24,G,G],defers:=[] }/\Hid ((D 0=true->ta=C (some ⟨A,0,none⟩) n n)/\(D 1=true->tb=B .i64 (i:Int))/\(D 2=true->tc=I #[C x la y])/\(D 3=true->td=B .i64 (i:Int))/\(D 4=true->D 8=false->Jg V te (cf ps i))/\(D 5=true->D 8=false->Jg V tg f)/\(D 6=true->D 8=false->Jg V ti (cf ps i*f))/\(D 7=true->tj=F (some ⟨A,i*4,none⟩)))/\Hid ((D 8=false->Mem w V [some (w.heap.size,.cell 25 (C x la y)),some (w.heap.size+1,.rat f),some (w.heap.size+1+1,.cell 25 (C none 0 0)),some (A,.rats S)])/\(D 8=true->Mem w V [some (w.heap.size,.cell 25 (C x la y)),some (w.heap.size+1,.rat f),some (w.heap.size+1+1,.cell 25 (C none 0 0)),some (A,.rats (S.set i (cf ps i*f)))])))
     (E8 ⟨rfl,Ja Z,Ja ⟨λ_=>Qn,Z⟩⟩) ?step1 ?fin1
    case step1=>
     rintro D ae V i ds ad hi o P ⟨ta,tb,tc,td,te,tg,ti,tj,rfl,g,m⟩;have bi:i<9:=(Ad.1 hi).1;obtain rfl|rfl|rfl|rfl|rfl|rfl|rfl|rfl|rfl:=NR i Y
     all_goals
      simp only[Ag,Af,Ak]at hi;subst hi
     . clear o;refine DO ?_;exact⟨(DZ g),m⟩
     . clear o;refine DO ?_;exact⟨(Dg g),m⟩
     . have z:=m.o.1 (DF ad P);have Q:=(z.cell (i:=0) rfl).1.cell;clear o;refine DO ?_;exact⟨(DU g),m⟩
     . clear o;refine DO ?_;exact⟨(Da g),m⟩
     . have z:=m.o.1 (DF ad P);obtain rfl:=g.o.2.2.1 (o 2 Z);obtain rfl:=g.o.2.2.2.1 (o 3 Z);clear o;have U:=Ja (Hz _ ps (i:Int) V (HP.o V z.2.2));rw[K6]at U;refine Jb rfl rfl λK hK=>?_;go_simp;go_wp2_with(go_at_call 74;refine U.o.mono ?_;rintro e w5 ⟨v5,rfl,ak,q⟩)
       obtain⟨G0,G1,_,_,_,G5,G6,G7⟩:=g.o;exact E8 ⟨rfl,Ja ⟨G0,G1,λ_=>rfl,λ_=>rfl,λ_ _=>ak,λh M=>(G5 h M).below q,λh M=>(G6 h M).below q,G7⟩,Ja ⟨λh=>(m.o.1 h).below q,λh=>(m.o.2 h).below q⟩⟩
     . have z:=m.o.1 (DF ad P);obtain⟨x1,x2,x3,x4,x5,x6,x7,x8,n,r,_,_⟩:=z.rat (i:=1) rfl;obtain⟨Q,e1,e2,e3⟩:=n.cq;clear o;refine DO ?_;exact⟨(Ds g λ_ _=>r),m⟩
     . have Qa:D 8=false:=DF ad P;have R:=g.o.2.2.2.2.1 (o 4 Z) Qa;have h1:=Dl g (o 5 Z) Qa;clear o;have U:=Ja (Hv _ _ (cf ps i) f V R h1 (Ql.o.at i) Qo.o);clear R h1;refine Jb rfl rfl λK hK=>?_;go_simp;go_wp2_with(go_at_call 91;refine U.o.mono ?_;rintro e w5 ⟨v5,rfl,ak,q⟩)
       obtain⟨G0,G1,G2,G3,G4,G5,_,G7⟩:=g.o;exact E8 ⟨rfl,Ja ⟨G0,G1,G2,G3,λh M=>(G4 h M).below q,λh M=>(G5 h M).below q,λ_ _=>ak,G7⟩,Ja ⟨λh=>(m.o.1 h).below q,λh=>(m.o.2 h).below q⟩⟩
     . obtain rfl:=g.o.1 (o 0 Z);obtain rfl:=g.o.2.1 (o 1 Z);clear o;refine DO ?_;exact⟨(OC (Dg (DZ g))),m⟩
     . have z:=m.o.1 P;have R:=D5 g (o 6 Z) P;obtain rfl:=g.o.2.2.2.2.2.2.2 (o 7 Z);have hE:=z.rats (i:=3) rfl;obtain⟨xa,xb,xc,xd,Q,e1,e2,e3,_⟩:=hE.at Qk.o;have f0:=hE.frozen (i*4);have f1:=hE.frozen (i*4+1);have f2:=hE.frozen (i*4+2);have f3:=hE.frozen (i*4+3);obtain⟨s9,a9,l9,c9,t9,b9,k9,d9,rfl⟩:=Jg.form R;clear o;refine DO ?_;exact⟨Ja ⟨g.o.1,g.o.2.1,g.o.2.2.1,g.o.2.2.2.1,λ_ h=>by simp at h,λ_ h=>by simp at h,λ_ h=>by simp at h,λ_=>rfl⟩,Ja ⟨λh=>by simp at h,λ_=>z.putRats (i:=3) rfl Qk.o R⟩⟩
    case fin1=>
     rintro D ae V am ⟨ta,tb,tc,td,te,tg,ti,tj,rfl,g,m⟩;have HO:=Ja (m.o.2 (am 8 DB));clear g m am;go_wp2_with fail
     go_roundw
     case rel=>exact⟨i+1,_,Y,by go_num,Ja (N.o.next aq),HO⟩
     case measure=>simp[intOf];omega
  . obtain rfl:i=n:=Y
    have hE:=X.o.rats (i:=3) rfl;have Qc:=hE.row (n:=i) (cap:=i) (by rw[N.o.1];exact Aa _) (Aa _) Y Qd;rw[Ac (by rw[N.o.1];exact Aa _)]at Qc;have Qf:=Ja (Kl _ S wr Qc (Sqs.of λj=>by
     rw[N.o.2 j];split
     . exact Qm.o j
     . exact F6))
    rw[N.o.done (T:=DK f ps) (JM _ _) (λj hj=>XH _ _ _) λj hj=>by rw[XH,Yt (by rw[HN.o];exact hj),CG]]at Qf;clear hE Qc;go_wp2_with(go_at_call 25;refine Qf.o.mono ?_;clear Qf;rintro e w5 ⟨u5,rfl,aj,_,q⟩;obtain⟨a7,l7,c7,rfl⟩:=aj.form;have n5:=boxed_below (X.o.cell (i:=2) rfl).1 q;have x0:=n5.cell;have x1:=n5.frozen;have Qs:=Ja (E5 n5 (C a7 l7 c7) aj.row);have Qp:=Ja ((Bt X.o.2.2 q).setCell (p:=⟨w.heap.size+1+1,0,none⟩) (by show w.heap.size<=w.heap.size+1+1;omega) (C a7 l7 c7));clear aj q n5)
    exact BA (v:=I #[C a7 l7 c7]) (by simp[results,Tryz.results181,go_sem,x0]) rfl ⟨_,rfl,⟨_,rfl,Qs.o⟩,Qp.o⟩
theorem Zm(p:List Rat)(n:Nat):((Int.gcd ((YJ p n:Nat):Int) (cf p n).num:Nat):Int)=((YJ p (n+1):Nat):Int):=rfl
theorem Zn(p:List Rat)(n:Nat):((Nat.lcm (YV p n) (cf p n).den:Nat):Int)=((YV p (n+1):Nat):Int):=rfl
theorem Mv(D:Int)(M:Nat)(v:Value)(ps:List Rat)(w:L)(h:Jf w v ps)(ak:Jd ps=ps)(hD:D≠0)(af:Sm M D)(aj:EL D M ps)(hM:M<=1000000000):
 Calls Tryz.prog 137 #[v] w λe w'=>∃u,e=.returned u/\Jf w' u (JK ps)/\Bl w w':=by
 have Qe:Tryz.prog.follows .mixedOrders=true:=by kernel_rfl
 obtain⟨m,la,o,rfl⟩:=h.form;obtain⟨bg,bc,bf,bh,_⟩:=h.row.forms;have Qa:∀i,DM M (cf ps i):=λi=>(aj i).smq hD af;obtain⟨HG,HL,Qb⟩:=DX (λi=>Sok.of (P0 (λj=>(Qa j).1) i) Y:∀i,Sok ((YJ ps i:Nat):Int)) (λi=>Sok.of (Pz hD af aj i) Y:∀i,Sok ((YV ps i:Nat):Int)) (show Sqs ps from Sqs.of λi=>Sq.of (Qa i) hM);have HF:=Ja (show ps≠[]->Sq ((YV ps ps.length:Rat)/(YJ ps ps.length:Rat))/\∀i,Sq (cf ps i*((YV ps ps.length:Rat)/(YJ ps ps.length:Rat)))from λk=>by
  have h1:=P1 ak k (aj.ln hD);refine⟨?_,λi=>?_⟩
  . have h2:((YV ps ps.length:Rat)/(YJ ps ps.length:Rat))=Rat.divInt ((YV ps ps.length:Nat):Int) ((YJ ps ps.length:Nat):Int):=by rw[CL,Cj,Cj]
    rw[h2];exact Sq.of (DM.divInt (Int.natCast_ne_zero.2 (K5 ak k)) (Pz hD af aj _) (P0 (λj=>(Qa j).1) _)) hM
  . obtain⟨z,h3,h4⟩:=h1 i;have h5:cf ps i*((YV ps ps.length:Rat)/(YJ ps ps.length:Rat))=(z:Rat):=by rw[<-h4];unfold JK;rw[XH]
    rw[h5];have h6:1<=M:=by
     by_cases h7:1<=M
     . exact h7
     . exfalso
       obtain rfl:M=0:=Y
       unfold Sm at af
       have:D.natAbs≠0:=Int.natAbs_ne_zero.2 hD
       simp at af;omega
    exact Sq.of ((Mr (D:=1) DB h3 (by rw[show((1:Int):Rat)=1 from rfl,Rat.mul_one])).smq DB (Sm.one M h6)) hM)
 have Qm:=Ja (λk=>K5 ak k:ps≠[]->YJ ps ps.length≠0);have M0:=(((Mem.nil w).push (.cell 25 (C m la o)) (cs:=#[C m la o]) ⟨rfl,rfl⟩).push (.cell 25 (C none 0 0)) (cs:=#[C none 0 0]) ⟨rfl,rfl⟩).push (.int 0) (cs:=#[E false,C none 0 0]) (XP _);simp only[Ax]at M0;obtain⟨W0,an⟩:=ex (((w.alloc (H #[C m la o] 25)).alloc (H #[C none 0 0] 25)).alloc (H #[E false,C none 0 0] 35));have Qd:=Ja an;have M1:Hid (Mem w W0 [some (w.heap.size,.cell 25 (C m la o)),some (w.heap.size+1,.cell 25 (C none 0 0)),some (w.heap.size+1+1,.int (((YJ ps 0:Nat):Int)))]):=Ja (by rw[<-an];exact M0);obtain⟨n,hn⟩:=ex (ps.length:Nat);obtain⟨T,ba⟩:=ex ((n:Int)-1:Int);have Qc:=Ja λ(V:L) (hB:Bl w V)=>Yd (I #[C m la o]) ps V (h.below hB);rw[hn,ba]at Qc;have bm:T+1=(n:Int):=Y
 have bn:IntKind.i64.wrap (n:Int)=(n:Int):=by rw[BQ];omega
 have HP:=Ja λ(V:L) (hB:Bl w V)=>h.below hB;have HN:=Ja (show ps.length=n from hn);have bz:n<=1099511627776:=Y
 have Qf:=Ja λ(V:L)=>GL 1 Y Y V;clear h bg bc bf hn ba M0 an bh ak hD af aj hM Qa;go_enter Tryz.func137,Tryz.ntmps137
 go_upto_region 2 with fail
 rw[Qd.o];clear Qd;go_upto_region 3 with(go_at_call 29;refine(Qf.o _).mono ?_;clear Qf;rintro e w1 ⟨u1,rfl,aw,ay⟩;obtain⟨s1,a1,l1,c1,rfl⟩:=Jk.form2 aw)
 obtain⟨V1,hV⟩:=ex (w1.alloc (H #[E s1,C a1 l1 c1] 35));obtain⟨t,ae⟩:=ex (w1.heap.size);have d:Mem w (w1.alloc (H #[E s1,C a1 l1 c1] 35)) [some (w.heap.size,.cell 25 (C m la o)),some (w.heap.size+1,.cell 25 (C none 0 0)),some (w.heap.size+1+1,.int (((YJ ps 0:Nat):Int))),some (w1.heap.size,.int (((YV ps 0:Nat):Int)))]:=Mem.push (M1.o.below ay) (.int (((YV ps 0:Nat):Int))) aw;rw[hV,ae]at d;rw[hV];rw[ae];have M2:Hid (Mem w V1 [some (w.heap.size,.cell 25 (C m la o)),some (w.heap.size+1,.cell 25 (C none 0 0)),some (w.heap.size+1+1,.int (((YJ ps 0:Nat):Int))),some (t,.int (((YV ps 0:Nat):Int)))]):=Ja (d);clear M1;clear d hV ae;clear aw ay;have c0:=(M2.o.cell (i:=0) rfl).1.cell;go_upto_region 4 with(go_at_call 30;refine(Qc.o _ M2.o.2.2).mono ?_;clear Qc;rintro e w2 ⟨rfl,az⟩)
 have ML:Hid (Mem w w2 [some (w.heap.size,.cell 25 (C m la o)),some (w.heap.size+1,.cell 25 (C none 0 0)),some (w.heap.size+1+1,.int (((YJ ps 0:Nat):Int))),some (t,.int (((YV ps 0:Nat):Int)))]):=Ja (M2.o.below az);clear c0 az M2;go_loopw [12] (λiv wr=>∃i:Nat,i<=n/\iv=B .i64 (i:Int)/\Hid (Mem w wr [some (w.heap.size,.cell 25 (C m la o)),some (w.heap.size+1,.cell 25 (C none 0 0)),some (w.heap.size+1+1,.int (((YJ ps i:Nat):Int))),some (t,.int (((YV ps i:Nat):Int)))])) λiv _=>n-(intOf iv).toNat
 case atStart=>exact⟨0,AK _,rfl,ML⟩
 case round=>
  obtain⟨i,W,rfl,M3⟩:=hrel;clear ML;by_cases bt:i<n
  . have bu:(i:Int)<(n:Int):=Y
    go_upto_region 6 with fail
    refine Jn Qe [[],[],[],[1,2],[3,3],[0,4,4],[5,5,0,1,2,3,4,5]] (by kernel_rfl) DB
     (λD ad V=>∃(ta tb tc td te tg:Value) (y2:Option (Nat × Dat)),ad={ tmps:=#[I #[C m la o],F (some ⟨w.heap.size,0,none⟩),F (some ⟨w.heap.size+1,0,none⟩),F (some ⟨w.heap.size+1+1,0,none⟩),F (some ⟨t,0,none⟩),B .i64 ↑i,G,G,I #[E s1,C a1 l1 c1],I #[C m la o],B .i64 T,B .i64 ↑n,B .i64 ↑i,E true,B .i64 ↑i,ta,tb,tc,td,te,tg,u21,u22,u23,u24,u25,u26,u27,G,G,G,G,G,G,G,G,G,G,G,G],defers:=[] }/\Hid ((D 0=true->Has V ta (.int (((YJ ps i:Nat):Int))))/\(D 1=true->tb=I #[C m la o])/\(D 2=true->tc=Value.int IntKind.i64 ↑i)/\(D 3=true->Has V td (.rat (cf ps i)))/\(D 4=true->Has V te (.int ((cf ps i).num)))/\(D 5=true->Has V tg (.int (((YJ ps (i+1):Nat):Int))))/\((D 6=false->y2=some (w.heap.size+1+1,.int (((YJ ps i:Nat):Int))))/\(D 6=true->y2=some (w.heap.size+1+1,.int (((YJ ps (i+1):Nat):Int))))))/\Hid (Mem w V [some (w.heap.size,.cell 25 (C m la o)),some (w.heap.size+1,.cell 25 (C none 0 0)),y2,some (t,.int (((YV ps i:Nat):Int)))]))
     ⟨_,_,_,_,_,_,_,rfl,Ja ⟨Z,Z,Z,Z,Z,Z,⟨λ_=>rfl,Z⟩⟩,Ja (M3.o).drew⟩ ?step2 ?fin2
    case step2=>
     rintro D ad V i ds ap W g ah ⟨ta,tb,tc,td,te,tg,y2,rfl,b,d⟩;have Qj:i<7:=(Ad.1 W).1;obtain rfl|rfl|rfl|rfl|rfl|rfl|rfl:=GY i Y
     all_goals
      simp only[Ag,Af,Ak]at W;subst W
     . have hf:D 6=false:=DF ap ah;obtain rfl:=D5 b hf;clear g;obtain⟨s,a,l,c,n,i⟩:=d.o.int (i:=2) rfl;obtain⟨T,e1⟩:=n.cp;refine Za ?_;exact⟨_,_,_,_,_,_,_,rfl,(KS (DZ b λ_=>i) ⟨λ_=>rfl,λh=>by simp[hf]at h⟩),Ja (d.o)⟩
     . have T:=(d.o.cell (i:=0) rfl).1.cell;clear g;refine Za ?_;exact⟨_,_,_,_,_,_,_,rfl,(Dg b),Ja (d.o)⟩
     . clear g;refine Za ?_;exact⟨_,_,_,_,_,_,_,rfl,(DU b),Ja (d.o)⟩
     . obtain rfl:=(b.o.2.1 (g 1 Z));obtain rfl:=(b.o.2.2.1 (g 2 Z));have r:=Ja (Hz _ ps (i:Int) V (HP.o V d.o.2.2));rw[K6]at r;clear g;refine Jb rfl rfl λK hK=>?_;go_simp;go_wp2_with(go_at_call 74;refine r.o.mono ?_;rintro e w5 ⟨v5,rfl,S,f⟩)
       obtain⟨q,_,_,_,P,Q,R⟩:=b.o;exact⟨_,_,_,_,_,_,_,rfl,Ja ⟨λh=>(q h).below f,λ_=>rfl,λ_=>rfl,λ_=>S,λh=>(P h).below f,λh=>(Q h).below f,R⟩,Ja (d.o.below f)⟩
     . have k:=(b.o.2.2.2.1 (g 3 Z));have r:=Ja (WW _ (cf ps i) V k);clear g k;refine Jb rfl rfl λK hK=>?_;go_simp;go_wp2_with(go_at_call 179;refine r.o.mono ?_;rintro e w5 ⟨v5,rfl,S,f⟩)
       obtain⟨q,y,A,N,_,Q,R⟩:=b.o;exact⟨_,_,_,_,_,_,_,rfl,Ja ⟨λh=>(q h).below f,y,A,λh=>(N h).below f,λ_=>S,λh=>(Q h).below f,R⟩,Ja (d.o.below f)⟩
     . have k:=(b.o.1 (g 0 Z));have h1:=(b.o.2.2.2.2.1 (g 4 Z));have r:=Ja (Gy _ _ ((YJ ps i:Nat):Int) (cf ps i).num V k h1 (by have:=(HG.o i).words;omega) (by have:=(Qb.o.at i).num.words;omega));rw[Zm]at r;clear g k h1;refine Jb rfl rfl λK hK=>?_;go_simp;go_wp2_with(go_at_call 84;refine r.o.mono ?_;rintro e w5 ⟨v5,rfl,S,f⟩)
       obtain⟨q,y,A,N,P,_,R⟩:=b.o;exact⟨_,_,_,_,_,_,_,rfl,Ja ⟨λh=>(q h).below f,y,A,λh=>(N h).below f,λh=>(P h).below f,λ_=>S,R⟩,Ja (d.o.below f)⟩
     . obtain rfl:=D5 b ah;have hv:=((Dl b) (g 5 Z));obtain⟨s1,a1,l1,c1,rfl⟩:=Jk.form2 (show Jk V _ _ from hv);obtain⟨s,a,l,c,n,i⟩:=d.o.int (i:=2) rfl;have T:=n.c0;have f0:=n.f0;have e1:=n.c1;have f1:=n.f1;clear g;refine Za ?_;obtain⟨q,y,A,N,P,Q,_⟩:=b.o;exact⟨_,_,_,_,_,_,_,rfl,Ja ⟨λh=>(q h).set2 n rfl rfl _ _,y,A,λh=>(N h).set2 n rfl rfl _ _,λh=>(P h).set2 n rfl rfl _ _,λh=>(Q h).set2 n rfl rfl _ _,⟨λh=>by simp at h,λ_=>rfl⟩⟩,Ja (d.o.putInt (i:=2) rfl hv)⟩
    rintro D ad V3 U ⟨ta,tb,tc,td,te,tg,y2,rfl,b,d⟩;obtain rfl:=b.o.2.2.2.2.2.2.2 (U 6 DB);obtain rfl:=b.o.2.1 (U 1 DB);obtain rfl:=b.o.2.2.1 (U 2 DB);clear b U M3;have M4:Hid (Mem w V3 [some (w.heap.size,.cell 25 (C m la o)),some (w.heap.size+1,.cell 25 (C none 0 0)),some (w.heap.size+1+1,.int (((YJ ps (i+1):Nat):Int))),some (t,.int (((YV ps i:Nat):Int)))]):=d;clear d;go_upto_region 7 with fail
    refine Jn Qe [[],[],[],[1,2],[3,3],[0,4,4],[5,5,0,1,2,3,4,5]] (by kernel_rfl) DB
     (λD ad V=>∃(ti tj tk tl tm tn:Value) (y3:Option (Nat × Dat)),ad={ tmps:=#[I #[C m la o],F (some ⟨w.heap.size,0,none⟩),F (some ⟨w.heap.size+1,0,none⟩),F (some ⟨w.heap.size+1+1,0,none⟩),F (some ⟨t,0,none⟩),B .i64 ↑i,G,G,I #[E s1,C a1 l1 c1],I #[C m la o],B .i64 T,B .i64 ↑n,B .i64 ↑i,E true,B .i64 ↑i,ta,I #[C m la o],B .i64 ↑i,td,te,tg,ti,tj,tk,tl,tm,tn,u27,G,G,G,G,G,G,G,G,G,G,G,G],defers:=[] }/\Hid ((D 0=true->Has V ti (.int (((YV ps i:Nat):Int))))/\(D 1=true->tj=I #[C m la o])/\(D 2=true->tk=Value.int IntKind.i64 ↑i)/\(D 3=true->Has V tl (.rat (cf ps i)))/\(D 4=true->Has V tm (.int (((cf ps i).den:Int))))/\(D 5=true->Has V tn (.int (((YV ps (i+1):Nat):Int))))/\((D 6=false->y3=some (t,.int (((YV ps i:Nat):Int))))/\(D 6=true->y3=some (t,.int (((YV ps (i+1):Nat):Int))))))/\Hid (Mem w V [some (w.heap.size,.cell 25 (C m la o)),some (w.heap.size+1,.cell 25 (C none 0 0)),some (w.heap.size+1+1,.int (((YJ ps (i+1):Nat):Int))),y3]))
     ⟨_,_,_,_,_,_,_,rfl,Ja ⟨Z,Z,Z,Z,Z,Z,⟨λ_=>rfl,Z⟩⟩,Ja (M4.o).drew⟩ ?step4 ?fin4
    case step4=>
     rintro D ad V i ds ap W g ah ⟨ti,tj,tk,tl,tm,tn,y3,rfl,b,d⟩;have Qj:i<7:=(Ad.1 W).1;obtain rfl|rfl|rfl|rfl|rfl|rfl|rfl:=GY i Y
     all_goals
      simp only[Ag,Af,Ak]at W;subst W
     . have hf:D 6=false:=DF ap ah;obtain rfl:=D5 b hf;clear g;obtain⟨s,a,l,c,n,i⟩:=d.o.int (i:=3) rfl;obtain⟨T,e1⟩:=n.cp;refine Za ?_;exact⟨_,_,_,_,_,_,_,rfl,(KS (DZ b λ_=>i) ⟨λ_=>rfl,λh=>by simp[hf]at h⟩),Ja (d.o)⟩
     . have T:=(d.o.cell (i:=0) rfl).1.cell;clear g;refine Za ?_;exact⟨_,_,_,_,_,_,_,rfl,(Dg b),Ja (d.o)⟩
     . clear g;refine Za ?_;exact⟨_,_,_,_,_,_,_,rfl,(DU b),Ja (d.o)⟩
     . obtain rfl:=(b.o.2.1 (g 1 Z));obtain rfl:=(b.o.2.2.1 (g 2 Z));have r:=Ja (Hz _ ps (i:Int) V (HP.o V d.o.2.2));rw[K6]at r;clear g;refine Jb rfl rfl λK hK=>?_;go_simp;go_wp2_with(go_at_call 74;refine r.o.mono ?_;rintro e w5 ⟨v5,rfl,S,f⟩)
       obtain⟨q,_,_,_,P,Q,R⟩:=b.o;exact⟨_,_,_,_,_,_,_,rfl,Ja ⟨λh=>(q h).below f,λ_=>rfl,λ_=>rfl,λ_=>S,λh=>(P h).below f,λh=>(Q h).below f,R⟩,Ja (d.o.below f)⟩
     . have k:=(b.o.2.2.2.1 (g 3 Z));have r:=Ja (Eg _ (cf ps i) V k);clear g k;refine Jb rfl rfl λK hK=>?_;go_simp;go_wp2_with(go_at_call 70;refine r.o.mono ?_;rintro e w5 ⟨v5,rfl,S,f⟩)
       obtain⟨q,y,A,N,_,Q,R⟩:=b.o;exact⟨_,_,_,_,_,_,_,rfl,Ja ⟨λh=>(q h).below f,y,A,λh=>(N h).below f,λ_=>S,λh=>(Q h).below f,R⟩,Ja (d.o.below f)⟩
     . have k:=(b.o.1 (g 0 Z));have h1:=(b.o.2.2.2.2.1 (g 4 Z));have r:=Ja (Zl _ _ (YV ps i) (cf ps i).den V k h1 (Pv ps i) (HL.o i) (Qb.o.at i).den);rw[Zn]at r;clear g k h1;refine Jb rfl rfl λK hK=>?_;go_simp;go_wp2_with(go_at_call 180;refine r.o.mono ?_;rintro e w5 ⟨v5,rfl,S,f⟩)
       obtain⟨q,y,A,N,P,_,R⟩:=b.o;exact⟨_,_,_,_,_,_,_,rfl,Ja ⟨λh=>(q h).below f,y,A,λh=>(N h).below f,λh=>(P h).below f,λ_=>S,R⟩,Ja (d.o.below f)⟩
     . obtain rfl:=D5 b ah;have hv:=((Dl b) (g 5 Z));obtain⟨s1,a1,l1,c1,rfl⟩:=Jk.form2 (show Jk V _ _ from hv);obtain⟨s,a,l,c,n,i⟩:=d.o.int (i:=3) rfl;have T:=n.c0;have f0:=n.f0;have e1:=n.c1;have f1:=n.f1;clear g;refine Za ?_;obtain⟨q,y,A,N,P,Q,_⟩:=b.o;exact⟨_,_,_,_,_,_,_,rfl,Ja ⟨λh=>(q h).set2 n rfl rfl _ _,y,A,λh=>(N h).set2 n rfl rfl _ _,λh=>(P h).set2 n rfl rfl _ _,λh=>(Q h).set2 n rfl rfl _ _,⟨λh=>by simp at h,λ_=>rfl⟩⟩,Ja (d.o.putInt (i:=3) rfl hv)⟩
    rintro D ad V5 U ⟨ti,tj,tk,tl,tm,tn,y3,rfl,b,d⟩;obtain rfl:=b.o.2.2.2.2.2.2.2 (U 6 DB);obtain rfl:=b.o.2.1 (U 1 DB);obtain rfl:=b.o.2.2.1 (U 2 DB);clear b U M4;have M5:Hid (Mem w V5 [some (w.heap.size,.cell 25 (C m la o)),some (w.heap.size+1,.cell 25 (C none 0 0)),some (w.heap.size+1+1,.int (((YJ ps (i+1):Nat):Int))),some (t,.int (((YV ps (i+1):Nat):Int)))]):=d;clear d;go_wp2_with fail
    go_roundw
    case rel=>exact⟨i+1,Y,by go_num,M5⟩
    case measure=>simp[intOf];omega
  . obtain rfl:i=n:=Y
    obtain⟨s6,a6,l6,c6,n6,i6⟩:=M3.o.int (i:=2) rfl;obtain⟨Ql,Qo⟩:=n6.cp;obtain⟨s7,a7,l7,c7,n7,i7⟩:=M3.o.int (i:=3) rfl;obtain⟨Qh,Qp⟩:=n7.cp;have X:=Ja (Ir _ _ ((YV ps i:Nat):Int) ((YJ ps i:Nat):Int) wr i7 i6 (HL.o i) (HG.o i));have Qg:=(M3.o.cell (i:=1) rfl).1;obtain⟨r9,aq⟩:=ex (Rat.divInt ((YV ps i:Nat):Int) ((YJ ps i:Nat):Int));rw[aq]at X;have Qi:=Ja aq;clear aq;by_cases k:ps=[]
    . have HB:=Ja (show decide (((YJ ps i:Nat):Int)≠0)=false by rw[<-HN.o,k];decide);rw[HB.o]at X;have HE:=Ja (show JK ps=[]by rw[k];rfl);clear k HB;go_wp2_with(go_at_call 28;refine X.o.mono ?_;clear X;rintro e w4 ⟨u4,rfl,am,ai⟩;obtain⟨s9,a9,l9,c9,t9,b9,k9,d9,rfl⟩:=Jg.form am;have n5:=boxed_below (boxed_below Qg ai) (Ba w4 (H #[E s9,C a9 l9 c9,E t9,C b9 k9 d9] 37));have x0:=n5.cell;have x1:=n5.frozen)
      rw[HE.o];exact BA (v:=I #[C none 0 0]) (by simp[results,Tryz.results137,go_sem,x0]) rfl ⟨_,rfl,P6 _,((Bt M3.o.2.2 ai).alloc (by have:=M3.o.2.2.size;have:=ai.size;omega) _).setCell (p:=⟨w.heap.size+1,0,none⟩) (by show w.heap.size<=w.heap.size+1;omega) _⟩
    . have HB:=Ja (show decide (((YJ ps i:Nat):Int)≠0)=true by
       refine BJ ?_;rw[<-HN.o];exact Int.natCast_ne_zero.2 (Qm.o k))
      rw[HB.o]at X;have HE:=Ja (show r9=(YV ps ps.length:Rat)/(YJ ps ps.length:Rat)by rw[<-Qi.o,CL,Cj,Cj,HN.o]);have HT:=Ja (show DK r9 ps=JK ps by rw[HE.o];rfl);have HS:=Ja (show Sq r9/\∀j,Sq (cf ps j*r9)by rw[HE.o];exact HF.o k);clear k HB;have H2:=Ja λ(V:L) (hB:Bl w V) (x:Value) (hx:Jg V x r9)=>P7 (I #[C m la o]) x ps r9 V (HP.o V hB) hx Qb.o HS.o.1 HS.o.2;rw[HT.o]at H2;go_upto_region 12 with(go_at_call 28;refine X.o.mono ?_;clear X;rintro e w4 ⟨u4,rfl,am,ai⟩;obtain⟨s9,a9,l9,c9,t9,b9,k9,d9,rfl⟩:=Jg.form am)
      clear Ql Qo Qh Qp;obtain⟨V8,hV⟩:=ex (w4.alloc (H #[E s9,C a9 l9 c9,E t9,C b9 k9 d9] 37));obtain⟨B8,ae⟩:=ex (w4.heap.size);have d:Mem w (w4.alloc (H #[E s9,C a9 l9 c9,E t9,C b9 k9 d9] 37)) [some (w.heap.size,.cell 25 (C m la o)),some (w.heap.size+1,.cell 25 (C none 0 0)),some (w.heap.size+1+1,.int (((YJ ps i:Nat):Int))),some (t,.int (((YV ps i:Nat):Int))),some (w4.heap.size,.rat r9)]:=Mem.push (M3.o.below ai) (.rat r9) am;rw[hV,ae]at d;rw[hV];rw[ae];have M4:Hid (Mem w V8 [some (w.heap.size,.cell 25 (C m la o)),some (w.heap.size+1,.cell 25 (C none 0 0)),some (w.heap.size+1+1,.int (((YJ ps i:Nat):Int))),some (t,.int (((YV ps i:Nat):Int))),some (B8,.rat r9)]):=Ja (d);clear M3;clear d hV ae;obtain⟨s9,a9,l9,c9,t9,b9,k9,d9,n9,r9,i9,j9⟩:=M4.o.rat (i:=4) rfl;obtain⟨bi,bj,bk,bl⟩:=n9.cq;have c0:=(M4.o.cell (i:=0) rfl).1.cell;have n1:=(M4.o.cell (i:=1) rfl).1;have HQ:=Ja M4.o.2.2;go_wp2_with(go_at_call 181;refine(H2.o _ HQ.o _ r9).mono ?_;clear H2;rintro e w5 ⟨u5,rfl,ax,f⟩;obtain⟨a7,l7,c7,rfl⟩:=ax.form;have n5:=boxed_below n1 f;have x0:=n5.cell;have x1:=n5.frozen;have Qn:=Ja (K8 n5 (x:=C a7 l7 c7) ax);have Qk:=Ja ((Bt HQ.o f).setCell (p:=⟨w.heap.size+1,0,none⟩) (by show w.heap.size<=w.heap.size+1;omega) (C a7 l7 c7));clear ax f n5)
      exact BA (v:=I #[C a7 l7 c7]) (by simp[results,Tryz.results137,go_sem,x0]) rfl ⟨_,rfl,Qn.o,Qk.o⟩
