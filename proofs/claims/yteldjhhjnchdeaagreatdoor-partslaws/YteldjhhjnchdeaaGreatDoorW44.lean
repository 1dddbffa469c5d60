import Derived.Test.YteldjhhjnchdeaaGreatDoorW43
open Go.Value renaming slice->C,bool->E,pointer->G
open Go.Obj renaming cells->F
set_option maxRecDepth 100000
set_option maxHeartbeats 16000000
namespace Go.Proofs.YteldjhhjnchdeaaGreatDoor
section
open Go.RowKit Go.Shelf
attribute [local go_sem] Oper.semAt_some
structure DivS(A la:Nat)(S:Nat->List Rat->List Rat->Prop)(qs:List Rat):Prop where
 next:∀(k:Nat) (R Q:List Rat) (n:Nat) (a:Rat),S k R Q->(∀i,i+qs.length<=R.length->cf Q i=0)->qs.length<=R.length->n=R.length-qs.length->a=cf R (R.length-1)/cf qs (qs.length-1)->
  (∀i,cf (JE R (Jp (Jd (Ev n [a])) qs)) i=cf R i-(if n<=i then a*cf qs (i-n)else 0))->(∀i,cf (XZ Q (Jd (Ev n [a]))) i=if i=n then a else cf Q i)->S (k+1) (JE R (Jp (Jd (Ev n [a])) qs)) (XZ Q (Jd (Ev n [a])))
 size:∀(k:Nat) (R Q:List Rat),k<=la->S k R Q->DY R/\DY Q/\∃z,z+(2*A+1)<=1000000/\∀i,DX z (cf R i)
end
section
open Go.RowKit Go.Shelf
section
variable {D E l:Int} {K A:Nat} {ps qs:List Rat}
structure Dvn(D E l:Int)(K A:Nat)(ps qs:List Rat):Prop where
 hD:D≠0
 sD:Sm K D
 hp:D9 D K ps
 hE:E≠0
 sE:Sm A E
 hq:D9 E A qs
 hl:l≠0
 sl:Sm A l
 lead:cf qs (qs.length-1)=Rat.divInt l E
variable{m:Nat}
theorem Dvn.lne(h:Dvn D E l K A ps qs):cf qs (qs.length-1)≠0:=by
 rw[h.lead];intro e;have hE:(E:Rat)≠0:=by exact_mod_cast h.hE
 have a:(l:Rat)/(E:Rat)*(E:Rat)=l:=A4 hE;rw[<-Cs,e,Cx]at a;exact h.hl (by exact_mod_cast a.symm)
theorem Dvn.den(h:Dvn D E l K A ps qs)(k:Nat):D*l^k≠0/\Sm (K+k*(A+1)+1) (D*l^k):=by
 refine⟨Cv h.hD (Int.pow_ne_zero h.hl),(h.sD.mul (h.sl.powZ k)).mono ?_⟩;rw[AO];omega
theorem Dvn.at(h:Dvn D E l K A ps qs)(k:Nat):(∀i,DX (K+k*(A+1)+1) (cf (Jz ps qs (qs.length-1) m k).2 i))/\∀i,DX (K+k*(A+1)+1) (cf (Jz ps qs (qs.length-1) m k).1 i):=by
 have b:=QB (m:=m) h.hD h.hp h.hE h.sE h.hq h.hl h.sl h.lead h.lne k;have a:=h.den k;exact⟨λi=>((b.1 i).mono Z).smq a.1 a.2,λi=>((b.2 i).mono Z).smq a.1 a.2⟩
theorem Dvn.sizes(h:Dvn D E l K A ps qs)(c:2*(K+m*(A+1)+1)+2*(2*A+1)<=1000000):∀k,k<=m->∃z,z+(2*A+1)<=1000000/\(k<m->2*z+2*(2*A+1)<=1000000)/\(∀i,DX z (cf (Jz ps qs (qs.length-1) m k).2 i))/\∀i,DX (z+A) (cf (Jz ps qs (qs.length-1) m k).1 i):=by
 intro k a;have b:k*(A+1)<=m*(A+1):=Am _ a;exact⟨K+k*(A+1)+1,Z,λ_=>by omega,(h.at k).1,λi=>((h.at k).2 i).mono Z⟩
theorem Dvn.rem(h:Dvn D E l K A ps qs)(b:ps.length-(qs.length-1)=m):D9 (D*l^m) (K+m*(A+1)) (J5 ps qs)/\D9 (D*l^m) (K+m*(A+1)) (Jt ps qs):=by
 have a:=QB (m:=m) h.hD h.hp h.hE h.sE h.hq h.hl h.sl h.lead h.lne m;refine⟨λi=>?_,λi=>?_⟩
 . unfold J5;rw[Yd,b];exact a.1 i
 . unfold Jt;rw[Yd,b];exact a.2 i
end
def EL(A:Nat)(p:List Rat):Prop:=∀i,∃z:Int,Sm A z/\cf p i=(z:Rat)
variable{p:List Rat}{A:Nat}
theorem EL.cdl(h:EL A p):D9 1 A p:=λi=>by
 obtain⟨z,a,b⟩:=h i;exact LL DL a (by rw[b];grind)
theorem EL.mono{A B:Nat}{p:List Rat}(h:EL A p)(c:A<=B):EL B p:=λi=>by
 obtain⟨z,a,b⟩:=h i;exact⟨z,a.mono c,b⟩
theorem EL.ln{A:Nat}{p:List Rat}(h:EL A p):Ln A p:=h.cdl.ln DL
theorem EL.smq{A:Nat}{p:List Rat}(h:EL A p)(a:1<=A)(i:Nat):DX A (cf p i):=(h.cdl i).smq DL (Sm.one A a)
theorem NB(hp:Jd p=p)(d:p≠[])(h:Ln A p):∃E:Int,E≠0/\Sm A E/\D9 E A (Jq p):=by
 obtain⟨c,k,b⟩:=h;have hl:=Jw hp d;obtain⟨E,f,a⟩:=b (p.length-1);have hE:E≠0:=λe=>by
  rw[e]at a;exact XM hl k a
 refine⟨E,hE,f,λi=>?_⟩;obtain⟨z,g,j⟩:=b i;refine LL hE g ?_;unfold Jq;rw[Yi,<-j,<-a];grind
theorem Ln.sqs(hp:Jd p=p)(h:Ln A p)(hA1:1<=A):∀i,DX A (cf (Jq p) i):=by
 by_cases a:p=[]
 . subst a;intro i;rw[Z6,Yy];exact DX.zero _ hA1
 . obtain⟨E,b,c,d⟩:=NB hp a h;exact λi=>(d i).smq b c
end
section
variable{p q:List Rat}{c:Rat}
theorem aE(c:Rat):Xd c=c\/Xd c=-c:=by
 unfold Xd;split
 . exact Or.inr rfl
 . exact Or.inl rfl
theorem aF(h:c≠0):Xd c≠0:=by
 rcases aE c with e|e
 . rw[e];exact h
 . rw[e];intro a;exact h (by rw[<-Rat.neg_neg c,a];rfl)
theorem aG(h:c≠0):∀n:Nat,c^n≠0:=by
 intro n;induction n with
 |zero=>rw[Rat.pow_zero];decide
 |succ n a=>rw[Rat.pow_succ];exact XM a h
def GA(p q:List Rat):Rat:=Xd (cf q (q.length-1))^(p.length+1-q.length)
def YT(p q:List Rat):List Rat:=Da (GA p q) p
def ER(p q:List Rat):List Rat:=JE [] (J1 (J5 (YT p q) q))
theorem aH:J1 []=[]:=rfl
theorem XY(p:List Rat):Jd (J1 p)=J1 p:=JP _ _
theorem Gf(hp:Jd p=p):∃c:Rat,0<c/\J1 p=Da c p:=by
 by_cases a:p=[]
 . subst a;exact⟨1,DL,rfl⟩
 . exact⟨_,aD hp a,rfl⟩
theorem IX(hp:Jd p=p){K:Nat}(h:Ln K p):EL K (J1 p):=by
 by_cases a:p=[]
 . subst a;exact λi=>⟨0,Sm.zero K,by rw[aH,Yy];rfl⟩
 . exact QN hp a h
theorem NC(hq:Jd q=q)(a:q≠[]):GA p q≠0:=aG (aF (Jw hq a)) _
theorem LM(p q:List Rat):Jd (ER p q)=ER p q:=Yj _ _
theorem ND(hq:Jd q=q)(b:q≠[]):∃c:Rat,c≠0/\ER p q=Da c (J5 p q)/\ER p q=Da (-1) (J1 (J5 (YT p q) q)):=by
 have a:ER p q=Da (-1) (J1 (J5 (YT p q) q)):=YU (LM _ _) (JP _ _) λx=>by
  unfold ER;rw[XO,Yr];simp[ev];grind
 have f:=(LG (c:=GA p q) (d:=1) DL p q hq b).2;rw[IU hq]at f;obtain⟨c,g,j⟩:=Gf (Y2 (YT p q) q);have i:c≠0:=λe=>by rw[e]at g;exact absurd g DL
 refine⟨GA p q*c*-1,XM (XM (NC hq b) i) DL,?_,a⟩;rw[a,j];unfold YT;rw[f,LD,LD,Rat.mul_assoc]
theorem QO(hq:Jd q=q)(a:q≠[]){A:Nat}(h:Ln A (J5 p q)):EL A (J1 (J5 (YT p q) q))/\EL A (ER p q):=by
 have b:=(LG (c:=GA p q) (d:=1) DL p q hq a).2;rw[IU hq]at b;have f:EL A (J1 (J5 (YT p q) q)):=IX (Y2 _ _) (by unfold YT;rw[b];exact h.sc (NC hq a));refine⟨f,λi=>?_⟩;obtain⟨z,g,j⟩:=f i;obtain⟨_,_,_,e⟩:=ND (p:=p) hq a;exact⟨-z,g.neg,by rw[e,Yi,j,Rat.intCast_neg];grind⟩
structure Chn(p q:List Rat)(A:Nat)(a b:List Rat):Prop where
 ta:Jd a=a
 tb:Jd b=b
 wa:EL A a
 wb:EL A b
 gc:Jn a b=Jn p q
 la:a.length<=max p.length q.length
 lb:b.length<=q.length
 nx:b≠[]->Ln A (J5 a b)
 eu:Eu (J1 p) (J1 q) a b
def Dm(K:Nat)(p q:List Rat):Nat:=(K+1)*(p.length+q.length+1)
theorem KB(K:Nat)(p q:List Rat):K+1<=Dm K p q:=by
 unfold Dm;have:(K+1)*1<=(K+1)*(p.length+q.length+1):=As _ Z;omega
theorem aI(K:Nat)(p q:List Rat):(K+1)*(p.length+q.length)<=Dm K p q:=As _ Z
theorem Y3(hp:Jd p=p):(J1 p).length=p.length:=by
 obtain⟨c,a,e⟩:=Gf hp;rw[e];exact Yf (λb=>by rw[b]at a;exact absurd a DL) hp
theorem QP(hp:Jd p=p)(hq:Jd q=q):Jn (J1 p) (J1 q)=Jn p q:=by
 obtain⟨c,b,e⟩:=Gf hp;obtain⟨d,f,g⟩:=Gf hq;rw[e,g];exact QH (λa=>by rw[a]at b;exact absurd b DL) (λa=>by rw[a]at f;exact absurd f DL) hp hq
section
variable {K:Nat} {p q a b:List Rat}
theorem Chn.ln_rem(hp:Jd p=p)(hq:Jd q=q)(d:Ln K p)(e:Ln K q)(hl:p.length+q.length<=1000000)(h:Eu (J1 p) (J1 q) a b)(f:b≠[]):Ln (Dm K p q) (J5 a b):=by
 have c:=Z4 (XY p) (XY q) (IX hp d).ln (IX hq e).ln (by rw[Y3 hp,Y3 hq];exact hl) h f;rw[Y3 hp,Y3 hq]at c;exact c.mono (aI _ _ _)
theorem Chn.start(hp:Jd p=p)(hq:Jd q=q)(a:Ln K p)(b:Ln K q)(hl:p.length+q.length<=1000000):Chn p q (Dm K p q) (J1 p) (J1 q) where
 ta:=XY p
 tb:=XY q
 wa:=(IX hp a).mono (by have:=KB K p q;omega)
 wb:=(IX hq b).mono (by have:=KB K p q;omega)
 gc:=QP hp hq
 la:=by rw[Y3 hp];exact Nat.le_max_left _ _
 lb:=by rw[Y3 hq];exact Aa _
 nx:=Chn.ln_rem hp hq a b hl (.base _ _)
 eu:=.base _ _
theorem Chn.next(hp:Jd p=p)(hq:Jd q=q)(i:Ln K p)(j:Ln K q)(hl:p.length+q.length<=1000000)(h:Chn p q (Dm K p q) a b)(d:b≠[]):Chn p q (Dm K p q) b (ER a b):=by
 obtain⟨c,g,e,_⟩:=ND (p:=a) h.tb d;have f:Eu (J1 p) (J1 q) b (ER a b):=by rw[e];exact h.eu.tail d g
 have l:(ER a b).length<b.length:=by
  rw[e,Yf g (Y2 _ _)];exact(YW a b h.tb d).2.1
 have k:=h.lb;exact⟨h.tb,LM _ _,h.wb,(QO h.tb d (h.nx d)).2,by rw[<-f.gcd (XY p) (XY q)];exact QP hp hq,Z,Z,Chn.ln_rem hp hq i j hl f,f⟩
end
variable{A:Nat}
theorem LN{a b:List Rat}(f:Jd b=b)(d:b≠[]):(ER a b).length<b.length:=by
 obtain⟨c,g,e,_⟩:=ND (p:=a) f d;rw[e,Yf g (Y2 _ _)];exact(YW a b f d).2.1
structure Rhn(p q:List Rat)(A:Nat)(a b:List Rat):Prop where
 ta:Jd a=a
 tb:Jd b=b
 ca:∃D:Int,D≠0/\Sm A D/\D9 D A a
 cb:∃E:Int,E≠0/\Sm A E/\D9 E A b
 mb:b≠[]->cf b (b.length-1)=1
 ma:Jq a=a
 gc:Jn a b=Jn p q
 la:a.length<=max p.length q.length
 lb:b.length<=q.length
 nx:b≠[]->Ln A (J5 a b)
 eu:Eu (Jq p) (Jq q) a b
theorem NE(a:1<=A):∃D:Int,D≠0/\Sm A D/\D9 D A []:=⟨1,DL,Sm.one A a,λi=>by rw[Yy];exact CD.zero _ _⟩
theorem KC{p:List Rat}(hp:Jd p=p)(h:Ln A p)(b:1<=A):∃E:Int,E≠0/\Sm A E/\D9 E A (Jq p):=by
 by_cases a:p=[]
 . subst a;exact NE b
 . exact NB hp a h
section
variable {K:Nat} {p q a b:List Rat}
end
end
section
open Go.RowKit Go.Shelf
theorem QQ(q:Rat):GV q 0<0↔q<0:=by
 rw[Rat.lt_iff];unfold GV EJ;split<;>(try split)<;>omega
theorem aJ(a b:Nat):(a:Int)*((b:Int)/((Int.gcd a b:Nat):Int))=((Nat.lcm a b:Nat):Int):=by
 show(a:Int)*((b:Int)/((Nat.gcd a b:Nat):Int))=_;rw[<-Ff,<-Int.natCast_mul];congr 1;rw[Nat.lcm,Nat.mul_div_assoc _ (CR a b)]
theorem IY(ps:List Rat)(i:Nat):(if((i:Nat):Int)<0 then(0:Rat)else cf ps ((i:Nat):Int).toNat)=cf ps i:=by
 rw[BH Z,CP]
theorem QR(A:Nat)(b c:Value)(ps qs:List Rat)(w:World)(g:Jc w b ps)(j:Jc w c qs)(hs:DY ps)(hq:∀i,DX A (cf qs i))(l:Jd ps=ps)(m:Jd qs=qs)(a:qs≠[])
(f:∀k,k<=ps.length-(qs.length-1)->∃z,z+(2*A+1)<=1000000/\(k<ps.length-(qs.length-1)->2*z+2*(2*A+1)<=1000000)/\(∀i,DX z (cf (Jz ps qs (qs.length-1) (ps.length-(qs.length-1)) k).2 i))/\∀i,DX (z+A) (cf (Jz ps qs (qs.length-1) (ps.length-(qs.length-1)) k).1 i)):
 Calls Tryz.prog 22 #[b,c] w λe d=>∃u v,e=.returned (.tuple #[u,v,E true])/\Jc d u (Jt ps qs)/\Jc d v (J5 ps qs)/\Bl w d:=by
 have h:=M3.P8 A b c ps qs w g j hs hq l m λ_=>f;rw[BK a,BH a,BH a]at h;exact h
end
namespace M3
open Go.RowKit Go.Shelf
variable{S:List Rat}{B c i l n:Nat}{a:Option Addr}{v:Value}{V:World}
theorem QS(n:Nat)(h:n<=2199023255552)(w:World):(Instr.makeSlice 22 (.int .i64 (n:Int)) (.int .i64 (n:Int))).run Tryz.prog w=.ok (C (some ⟨w.heap.size,0,none⟩) n n) (w.alloc (F (J3 n) 65)):=by
 obtain⟨i,d,b⟩:=Fv.1 Tryz.infoRat;simp only[Prod.mk.injEq]at b;obtain⟨e,hs,c⟩:=b;have a:=run_make (P:=Tryz.prog) w 22 65 i _ Tryz.underlying22 d e .i64 .i64 n n Z (Int.le_refl _) (by rw[c];omega) Z;simp only[CP,hs]at a;exact a
theorem FW(V:World):Has V (.agg #[C Option.none 0 0]) (.poly []):=⟨_,rfl,row_zero V Option.none⟩
theorem QT(V:World):Jc V (.agg #[C Option.none 0 0]) []:=⟨_,rfl,row_zero V Option.none⟩
theorem Mem.poly2{w:World}{bs:List (Option (Nat × Dat))}(M:Mem w V bs){ps:List Rat}(h:bs[i]?=some (some (B,.poly ps))):∃a l c,Boxed V B 25 (C a l c)/\Jc V (.agg #[C a l c]) ps:=by
 obtain⟨a,l,c,b,d⟩:=M.poly h;exact⟨a,l,c,b,_,rfl,d⟩
theorem KD{W:World}(b:Boxed W B 25 (C a l c)){x:Value}{qs:List Rat}(h:Jc W v qs):Jc (W.setCell ⟨B,0,Option.none⟩ x) v qs:=by
 obtain⟨u,e,h⟩:=h;exact⟨u,e,Ea b x h⟩
theorem Has.set1{d:Dat}(h:Has V v d)(q:Boxed V B 25 (C a l c))(n0:JG (C a l c)=true)(b:Value):Has (V.setCell ⟨B,0,Option.none⟩ b) v d:=
 h.keep (PG q n0 b) (Or.inr λ_ _ g=>Ea q b g)
theorem Tup2.set1{V:World}{v:Value}{d1 d:Dat}(h:Tup2 V v d1 d){B:Nat}{a:Option Addr}{l c:Nat}(q:Boxed V B 25 (C a l c))(n0:JG (C a l c)=true)(b:Value):Tup2 (V.setCell ⟨B,0,Option.none⟩ b) v d1 d:=by
 obtain⟨u1,u2,e,f,g⟩:=h;exact⟨u1,u2,e,f.set1 q n0 b,g.set1 q n0 b⟩
attribute [local go_sem] Oper.semAt_some
theorem aK(va:Value)(q:Rat)(w:World)(L:Ji w va q)(X:Sq q):
 Calls Tryz.prog 129 #[va] w λe w'=>∃u,e=.returned u/\Ji w' u (Xd q)/\Bl w w':=by
 obtain⟨af,R,ae,T,ah,S,ad,U,rfl⟩:=Ji.form L;have g:=(((Mem.nil w).push (.rat q) L).push (.rat 0) (EP _));simp only[BA]at g;have g:Mem w ((w.alloc (F #[E af,C R ae T,E ah,C S ad U] 65)).alloc (F #[E false,C none 0 0,E false,C none 0 0] 65)) [some (w.heap.size,.rat q),some (w.heap.size+1,.rat 0)]:=g;obtain⟨W0,K⟩:=ex ((w.alloc (F #[E af,C R ae T,E ah,C S ad U] 65)).alloc (F #[E false,C none 0 0,E false,C none 0 0] 65));have Q:=O K;rw[K]at g;have j:Hid (Mem w W0 [some (w.heap.size,.rat q),some (w.heap.size+1,.rat 0)]):=O g;have P:=O X;clear g K L X;go_enter Tryz.func129,Tryz.ntmps129
 go_upto_region 1 with fail
 rw[Q.o];clear Q;obtain⟨s1,a1,l1,c1,t1,b1,k1,d1,z,r1,i1,j1⟩:=j.o.rat (i:=0) rfl;obtain⟨t,k,o,s⟩:=z.cq;obtain⟨s2,a2,l2,c2,t2,b2,k2,d2,a,r2,i2,j2⟩:=j.o.rat (i:=1) rfl;obtain⟨b,c,f,d⟩:=a.cq;obtain⟨m,l,r,p⟩:=a.fq;obtain⟨x,A,HR⟩:=Dh (PO _ _ q 0 W0 r1 (EP _) P.o Hq) (λ(V:World) (h:Bl W0 V)=>I1 _ _ 0 q V (EP _) (r1.below h) Hq P.o) r1;obtain⟨n,M⟩:=ex (GV q 0);rw[M]at x;have N:=O M;clear M r1 i1 j1;by_cases W:n<0
 . have B:=O (show 0-q=Xd q by
    have I:=(QQ q).1 (by rw[N.o];exact W);unfold Xd;rw[BJ I];grind)
   rw[B.o]at A;go_wp2_with(first
    |(go_at_call 68;refine x.o.mono ?_;clear x;rintro e w1 ⟨rfl,hq⟩;clear t k o s;obtain⟨t,k,o,s⟩:=(z.below hq).cq;clear b c f d;obtain⟨b,c,f,d⟩:=(a.below hq).cq;clear m l r p;obtain⟨m,l,r,p⟩:=(a.below hq).fq)
    |(go_at_call 51;refine(A.o _ hq).mono ?_;clear A;rintro e w2 ⟨u2,rfl,y,ap⟩;obtain⟨aw,ai,av,am,ay,ak,aq,an,rfl⟩:=Ji.form y;have hq:=Bt hq ap;clear t k o s;obtain⟨t,k,o,s⟩:=(z.below hq).cq;clear b c f d;obtain⟨b,c,f,d⟩:=(a.below hq).cq;clear m l r p;obtain⟨m,l,r,p⟩:=(a.below hq).fq))
   have H:=Bt j.o.2.2 hq;have D:=j.o.ge 1 rfl;exact BB (v:=.agg #[E aw,C ai av am,E ay,C ak aq an]) (by simp[results,Tryz.results129,go_sem,b,c,f,d]) rfl ⟨_,rfl,y.put4 (a.below hq) rfl rfl rfl rfl _ _ _ _,JC H D _ _ _ _⟩
 . have B:=O (show Xd q=q by
    have I:¬q<0:=λh=>W (by rw[<-N.o];exact(QQ q).2 h);unfold Xd;rw[BH I])
   go_wp2_with(go_at_call 68;refine x.o.mono ?_;clear x;rintro e w1 ⟨rfl,hq⟩;clear t k o s;obtain⟨t,k,o,s⟩:=(z.below hq).cq;clear b c f d;obtain⟨b,c,f,d⟩:=(a.below hq).cq;clear m l r p;obtain⟨m,l,r,p⟩:=(a.below hq).fq)
   have y:=HR.o.below hq;rw[<-B.o]at y;have H:=Bt j.o.2.2 hq;have D:=j.o.ge 1 rfl;exact BB (v:=.agg #[E s1,C a1 l1 c1,E t1,C b1 k1 d1]) (by simp[results,Tryz.results129,go_sem,b,c,f,d]) rfl ⟨_,rfl,y.put4 (a.below hq) rfl rfl rfl rfl _ _ _ _,JC H D _ _ _ _⟩
theorem aL(va vb:Value)(x y:Nat)(w:World)(ha:Jk w va (x:Int))(hb:Jk w vb (y:Int))(hx:0<x)(ba:DT (x:Int))(bc:DT (y:Int)):
 Calls Tryz.prog 97 #[va,vb] w λe w'=>∃u,e=.returned u/\Jk w' u ((Nat.lcm x y:Nat):Int)/\Bl w w':=by
 have Qj:Tryz.prog.follows .mixedOrders=true:=by kernel_rfl
 have HG:=O (show((Int.gcd x y:Nat):Int)≠0 by have:=Nat.gcd_pos_of_pos_left y hx;exact Int.natCast_ne_zero.2 (by show Nat.gcd x y≠0;omega));obtain⟨aw,af,aq,ak,rfl⟩:=Jk.form2 ha;obtain⟨ay,ah,av,am,rfl⟩:=Jk.form2 hb;have M:=((((Mem.nil w).push (.int ((x:Int))) ha).push (.int ((y:Int))) (Has.alloc (d:=.int ((y:Int))) hb _)).push (.int 0) (XI _));simp only[BA]at M;have M:Mem w (((w.alloc (F #[E aw,C af aq ak] 63)).alloc (F #[E ay,C ah av am] 63)).alloc (F #[E false,C none 0 0] 63)) [some (w.heap.size,.int ((x:Int))),some (w.heap.size+1,.int ((y:Int))),some (w.heap.size+1+1,.int 0)]:=M;obtain⟨W0,an⟩:=ex (((w.alloc (F #[E aw,C af aq ak] 63)).alloc (F #[E ay,C ah av am] 63)).alloc (F #[E false,C none 0 0] 63));have Qg:=O an;rw[an]at M;have M1:Hid (Mem w W0 [some (w.heap.size,.int ((x:Int))),some (w.heap.size+1,.int ((y:Int))),some (w.heap.size+1+1,.int 0)]):=O M;have Qc:=O ba;have Qa:=O bc;clear M an ha hb ba bc;go_enter Tryz.func97,Tryz.ntmps97
 go_upto_region 1 with fail
 rw[Qg.o];clear Qg;clear hx;refine Jm Qj [[],[],[],[1,2],[0,3,3],[4],[5],[5],[5],[],[],[9,6,4,0,1,2,3,4,5,6,9,10],[10,7,11,0,1,2,3,4,5,6,7,9,10,11],[8,12,0,1,2,3,4,5,6,7,8,9,10,11,12]] (by kernel_rfl) DL
  (λD ai V=>∃(tm ta tb tc td tl te tf tg W X tk:Value) (Q P:Option (Nat × Dat)),ai={ tmps:=#[.agg #[E aw,C af aq ak],.agg #[E ay,C ah av am],G (some ⟨w.heap.size,0,none⟩),G (some ⟨w.heap.size+1,0,none⟩),G (some ⟨w.heap.size+1+1,0,none⟩),W,X,tk,tl,tm,ta,tb,tc,td,te,tf,tg,undef,undef,undef],defers:=[] }/\Hid ((D 0=true->Has V tm (.int ((y:Int))))/\(D 1=true->Has V ta (.int ((x:Int))))/\(D 2=true->Has V tb (.int ((y:Int))))/\(D 3=true->Has V tc (.int (((Int.gcd x y:Nat):Int))))/\(D 4=true->Tup2 V td (.int ((y:Int)/((Int.gcd x y:Nat):Int))) (.int ((y:Int)%((Int.gcd x y:Nat):Int))))/\(D 5=true->Tup2 V tl (.int ((y:Int)/((Int.gcd x y:Nat):Int))) (.int ((y:Int)%((Int.gcd x y:Nat):Int))))/\(D 6=true->Has V te (.int ((y:Int)/((Int.gcd x y:Nat):Int))))/\(D 7=true->Has V tf (.int ((y:Int)%((Int.gcd x y:Nat):Int))))/\(D 8=true->tg=E true)/\((D 9=false->Q=none)/\(D 9=true->D 11=false->∃B:Nat,W=G (some ⟨B,0,none⟩)/\Q=some (B,.int 0))/\(D 11=true->∃B:Nat,W=G (some ⟨B,0,none⟩)/\Q=some (B,.int ((y:Int)/((Int.gcd x y:Nat):Int)))))/\((D 10=false->P=none)/\(D 10=true->D 12=false->∃B:Nat,X=G (some ⟨B,0,none⟩)/\P=some (B,.int 0))/\(D 12=true->∃B:Nat,X=G (some ⟨B,0,none⟩)/\P=some (B,.int ((y:Int)%((Int.gcd x y:Nat):Int)))))/\(D 13=true->tk=E true))/\Hid (Mem w V [some (w.heap.size,.int ((x:Int))),some (w.heap.size+1,.int ((y:Int))),some (w.heap.size+1+1,.int 0),Q,P]))
  ⟨_,_,_,_,_,_,_,_,_,_,_,_,none,none,rfl,O ⟨J,J,J,J,J,J,J,J,J,J,J,J⟩,O (((M1.o).none).none).drew⟩ ?step1 ?fin1
 case step1=>
  rintro D ai V i ds az hi f N ⟨tm,ta,tb,tc,td,tl,te,tf,tg,W,X,tk,Q,P,rfl,b,g⟩;have ce:i<14:=(Af.1 hi).1;obtain rfl|rfl|rfl|rfl|rfl|rfl|rfl|rfl|rfl|rfl|rfl|rfl|rfl|rfl:=FZ i Z
  all_goals
   simp only[Ai,Ah,Ak]at hi;subst hi
  . clear f;obtain⟨s,a,l,c,n,i⟩:=g.o.int (i:=1) rfl;obtain⟨e0,e1⟩:=n.cp;refine Zt ?_;exact⟨_,_,_,_,_,_,_,_,_,_,_,_,_,_,rfl,(Dc b λ_=>i),O (g.o)⟩
  . clear f;obtain⟨s,a,l,c,n,i⟩:=g.o.int (i:=0) rfl;obtain⟨e0,e1⟩:=n.cp;refine Zt ?_;exact⟨_,_,_,_,_,_,_,_,_,_,_,_,_,_,rfl,(Dg b λ_=>i),O (g.o)⟩
  . clear f;obtain⟨s,a,l,c,n,i⟩:=g.o.int (i:=1) rfl;obtain⟨e0,e1⟩:=n.cp;refine Zt ?_;exact⟨_,_,_,_,_,_,_,_,_,_,_,_,_,_,rfl,(Db b λ_=>i),O (g.o)⟩
  . have L:=(b.o.2.1 (f 1 J));have A:=(b.o.2.2.1 (f 2 J));have HC:=O (Hp _ _ (x:Int) (y:Int) V L A (by have:=Qc.o.words;omega) (by have:=Qa.o.words;omega));clear f L A;refine Jb rfl rfl λK hK=>?_;go_simp;go_wp2_with(go_at_call 90;refine HC.o.mono ?_;rintro e w5 ⟨v5,rfl,ap,j⟩)
    obtain⟨k,m,o,_,I,q,r,t,z⟩:=b.o;exact⟨_,_,_,_,_,_,_,_,_,_,_,_,_,_,rfl,O ⟨λh=>(k h).below j,λh=>(m h).below j,λh=>(o h).below j,λ_=>ap,λh=>(I h).below j,λh=>(q h).below j,λh=>(r h).below j,λh=>(t h).below j,z⟩,O (g.o.below j)⟩
  . have L:=(b.o.1 (f 0 J));have A:=(b.o.2.2.2.1 (f 3 J));have HC:=O (PJ _ _ (y:Int) ((Int.gcd x y:Nat):Int) V L A HG.o (by have:=Qa.o.words;omega) (by have:=(Qc.o.gcd Qa.o).words;omega));clear f L A;refine Jb rfl rfl λK hK=>?_;go_simp;go_wp2_with(go_at_call 123;refine HC.o.mono ?_;rintro e w5 ⟨v5,v6,rfl,ap,bi,j⟩)
    obtain⟨k,m,o,H,_,q,r,t,z⟩:=b.o;exact⟨_,_,_,_,_,_,_,_,_,_,_,_,_,_,rfl,O ⟨λh=>(k h).below j,λh=>(m h).below j,λh=>(o h).below j,λh=>(H h).below j,λ_=>⟨v5,v6,rfl,ap,bi⟩,λh=>(q h).below j,λh=>(r h).below j,λh=>(t h).below j,z⟩,O (g.o.below j)⟩
  . have L:=(b.o.2.2.2.2.1 (f 4 J));clear f;refine Zt ?_;exact⟨_,_,_,_,_,_,_,_,_,_,_,_,_,_,rfl,(Dt b λ_=>L),O (g.o)⟩
  . obtain⟨y1,y2,rfl,A,h2⟩:=((Dq b) (f 5 J));clear f;refine Zt ?_;exact⟨_,_,_,_,_,_,_,_,_,_,_,_,_,_,rfl,(Dw b λ_=>A),O (g.o)⟩
  . obtain⟨y1,y2,rfl,A,h2⟩:=((Dq b) (f 5 J));clear f;refine Zt ?_;exact⟨_,_,_,_,_,_,_,_,_,_,_,_,_,_,rfl,(D6 b λ_=>h2),O (g.o)⟩
  . obtain⟨y1,y2,rfl,A,h2⟩:=((Dq b) (f 5 J));clear f;refine Zt ?_;exact⟨_,_,_,_,_,_,_,_,_,_,_,_,_,_,rfl,(EG b),O (g.o)⟩
  . have hf:D 11=false:=DM az N;obtain rfl:=b.o.2.2.2.2.2.2.2.2.2.1.1 N;clear f;refine Zt ?_;obtain⟨k,m,o,H,I,q,r,t,z,_,ad⟩:=b.o;exact⟨_,_,_,_,_,_,_,_,_,_,_,_,_,_,rfl,O ⟨λh=>(k h).alloc _,λh=>(m h).alloc _,λh=>(o h).alloc _,λh=>(H h).alloc _,λh=>(I h).alloc _,λh=>(q h).alloc _,λh=>(r h).alloc _,λh=>(t h).alloc _,z,⟨λh=>by simp at h,λ_ _=>⟨_,rfl,rfl⟩,λh=>by simp[hf]at h⟩,ad⟩,O (g.o.fill (i:=3) rfl (.int 0) (XI _))⟩
  . have hf:D 12=false:=DM az N;obtain rfl:=b.o.2.2.2.2.2.2.2.2.2.2.1.1 N;clear f;refine Zt ?_;obtain⟨k,m,o,H,I,q,r,t,z,G9,_,ae⟩:=b.o;exact⟨_,_,_,_,_,_,_,_,_,_,_,_,_,_,rfl,O ⟨λh=>(k h).alloc _,λh=>(m h).alloc _,λh=>(o h).alloc _,λh=>(H h).alloc _,λh=>(I h).alloc _,λh=>(q h).alloc _,λh=>(r h).alloc _,λh=>(t h).alloc _,z,G9,⟨λh=>by simp at h,λ_ _=>⟨_,rfl,rfl⟩,λh=>by simp[hf]at h⟩,ae⟩,O (g.o.fill (i:=4) rfl (.int 0) (XI _))⟩
  . obtain⟨B,rfl,rfl⟩:=b.o.2.2.2.2.2.2.2.2.2.1.2.1 (f 9 J) N;have Qb:=f 9 J;have T:=((D0 b) (f 6 J));obtain⟨s1,a1,l1,c1,rfl⟩:=Jk.form2 (show Jk V _ _ from T);obtain⟨s,a,l,c,n,i⟩:=g.o.int (i:=3) rfl;have e0:=n.c0;have f0:=n.f0;have e1:=n.c1;have f1:=n.f1;clear f;refine Zt ?_;obtain⟨k,m,o,H,I,q,r,t,z,_,ad⟩:=b.o;exact⟨_,_,_,_,_,_,_,_,_,_,_,_,_,_,rfl,O ⟨λh=>(k h).set2 n rfl rfl _ _,λh=>(m h).set2 n rfl rfl _ _,λh=>(o h).set2 n rfl rfl _ _,λh=>(H h).set2 n rfl rfl _ _,λh=>(I h).set2 n rfl rfl _ _,λh=>(q h).set2 n rfl rfl _ _,λh=>(r h).set2 n rfl rfl _ _,λh=>(t h).set2 n rfl rfl _ _,z,⟨λh=>by simp[Qb]at h,λ_ h=>by simp at h,λ_=>⟨B,rfl,rfl⟩⟩,ad⟩,O (g.o.putInt (i:=3) rfl T)⟩
  . obtain⟨B,rfl,rfl⟩:=b.o.2.2.2.2.2.2.2.2.2.2.1.2.1 (f 10 J) N;have Qb:=f 10 J;have T:=((EE b) (f 7 J));obtain⟨s1,a1,l1,c1,rfl⟩:=Jk.form2 (show Jk V _ _ from T);obtain⟨s,a,l,c,n,i⟩:=g.o.int (i:=4) rfl;have e0:=n.c0;have f0:=n.f0;have e1:=n.c1;have f1:=n.f1;clear f;refine Zt ?_;obtain⟨k,m,o,H,I,q,r,t,z,G9,_,ae⟩:=b.o;exact⟨_,_,_,_,_,_,_,_,_,_,_,_,_,_,rfl,O ⟨λh=>(k h).set2 n rfl rfl _ _,λh=>(m h).set2 n rfl rfl _ _,λh=>(o h).set2 n rfl rfl _ _,λh=>(H h).set2 n rfl rfl _ _,λh=>(I h).set2 n rfl rfl _ _,λh=>(q h).set2 n rfl rfl _ _,λh=>(r h).set2 n rfl rfl _ _,λh=>(t h).set2 n rfl rfl _ _,z,G9,⟨λh=>by simp[Qb]at h,λ_ h=>by simp at h,λ_=>⟨B,rfl,rfl⟩⟩,ae⟩,O (g.o.putInt (i:=4) rfl T)⟩
  . obtain rfl:=((EN b) (f 8 J));clear f;refine Zt ?_;exact⟨_,_,_,_,_,_,_,_,_,_,_,_,_,_,rfl,(Hf (EG b)),O (g.o)⟩
 rintro D ai V2 S ⟨tm,ta,tb,tc,td,tl,te,tf,tg,W,X,tk,Q,P,rfl,b,g⟩;obtain⟨B3,rfl,rfl⟩:=b.o.2.2.2.2.2.2.2.2.2.1.2.2 (S 11 DL);obtain⟨B4,rfl,rfl⟩:=b.o.2.2.2.2.2.2.2.2.2.2.1.2.2 (S 12 DL);obtain rfl:=EN b (S 8 DL);obtain rfl:=b.o.2.2.2.2.2.2.2.2.2.2.2 (S 13 DL);clear b S M1;have R:Hid (Mem w V2 [some (w.heap.size,.int ((x:Int))),some (w.heap.size+1,.int ((y:Int))),some (w.heap.size+1+1,.int 0),some (B3,.int ((y:Int)/((Int.gcd x y:Nat):Int))),some (B4,.int ((y:Int)%((Int.gcd x y:Nat):Int)))]):=g;clear g;obtain⟨s5,a5,l5,c5,n5,i5⟩:=R.o.int (i:=0) rfl;obtain⟨bn,bt⟩:=n5.cp;obtain⟨s6,a6,l6,c6,n6,i6⟩:=R.o.int (i:=3) rfl;obtain⟨bu,bz⟩:=n6.cp;obtain⟨s7,a7,l7,c7,U,i7⟩:=R.o.int (i:=2) rfl;obtain⟨Qe,Qd⟩:=U.cp;obtain⟨Qi,Qh⟩:=U.fp;have H1:=O (Y1 _ _ (x:Int) ((y:Int)/((Int.gcd x y:Nat):Int)) V2 i5 i6 (by have A:=Qc.o.words;have h2:=(Qa.o.div (y:=((Int.gcd x y:Nat):Int))).words;omega));rw[aJ]at H1;go_wp2_with(go_at_call 85;refine H1.o.mono ?_;clear H1;rintro e w2 ⟨u2,rfl,bf,hq⟩;obtain⟨bm,bg,bj,bh,rfl⟩:=Jk.form2 bf;clear Qe Qd;obtain⟨Qe,Qd⟩:=(U.below hq).cp;clear Qi Qh;obtain⟨Qi,Qh⟩:=(U.below hq).fp)
 have Qk:=Bt R.o.2.2 hq;have Qf:=R.o.ge 2 rfl;exact BB (v:=.agg #[E bm,C bg bj bh]) (by simp[results,Tryz.results97,go_sem,Qe,Qd]) rfl ⟨_,rfl,bf.box (U.below hq) rfl rfl,(Qk.setCell (p:=⟨_,0,none⟩) Qf _).setCell (p:=⟨_,1,none⟩) Qf _⟩
def Ht(F:Nat->Rat)(n i:Nat)(S:List Rat):Prop:=S.length=n/\∀j,cf S j=if j<i then F j else 0
theorem Ht.next{F:Nat->Rat}(h:Ht F n i S)(b:i<n):Ht F n (i+1) (S.set i (F i)):=by
 refine⟨by rw[Cy];exact h.1,λj=>?_⟩;rw[XE _ _ _ _ (by rw[h.1];exact b),h.2 j];by_cases e:j=i
 . rw[BJ e,BJ Z,e]
 . rw[BH e];by_cases a:j<i
   . rw[BJ a,BJ Z]
   . rw[BH a,BH Z]
theorem Ht.done{F:Nat->Rat}{T:List Rat}(h:Ht F n n S)(b:Jd T=T)(hF:∀j,j<n->cf T j=F j)(a:∀j,n<=j->cf T j=0):Jd S=T:=by
 rw[<-b];refine Ha λj=>?_;rw[h.2 j];split
 . exact(hF j (by assumption)).symm
 . exact(a j Z).symm
theorem QU(v vf:Value)(ps:List Rat)(f:Rat)(w:World)(h:Jc w v ps)(hf:Ji w vf f)(av:DY ps)(aw:Sq f)(ay:∀i,Sq (cf ps i*f)):
 Calls Tryz.prog 98 #[v,vf] w λe w'=>∃u,e=.returned u/\Jc w' u (Da f ps)/\Bl w w':=by
 have Qq:Tryz.prog.follows .mixedOrders=true:=by kernel_rfl
 obtain⟨x,la,y,rfl⟩:=h.form;obtain⟨s,a,l,c,t,b,k,d,rfl⟩:=Ji.form hf;obtain⟨bc,az,ba,bf,_⟩:=h.row.forms;have M0:=((((Mem.nil w).push (.cell 25 (C x la y)) (cs:=#[C x la y]) ⟨rfl,rfl⟩).push (.rat f) (cs:=#[E s,C a l c,E t,C b k d]) (Has.alloc (d:=.rat f) hf _)).push (.cell 25 (C none 0 0)) (cs:=#[C none 0 0]) ⟨rfl,rfl⟩);simp only[BA]at M0;obtain⟨V0,ae⟩:=ex (((w.alloc (F #[C x la y] 25)).alloc (F #[E s,C a l c,E t,C b k d] 65)).alloc (F #[C none 0 0] 25));have M1:Mem w V0 [some (w.heap.size,.cell 25 (C x la y)),some (w.heap.size+1,.rat f),some (w.heap.size+1+1,.cell 25 (C none 0 0))]:=by rw[<-ae];exact M0
 have Qh:=O M1;obtain⟨n,hn⟩:=ex (ps.length:Nat);obtain⟨L,ap⟩:=ex ((n:Int)-1:Int);have Qg:=O (Yb (.agg #[C x la y]) ps V0 (h.below M1.2.2));rw[hn,ap]at Qg;have bg:L+1=(n:Int):=Z
 have bh:IntKind.i64.wrap (n:Int)=(n:Int):=by rw[BZ];omega
 have Qr:∀W:World,(Instr.makeSlice 22 (.int .i64 (n:Int)) (.int .i64 (n:Int))).run Tryz.prog W=.ok (C (some ⟨W.heap.size,0,none⟩) n n) (W.alloc (F (J3 n) 65)):=λW=>QS n Z W;obtain⟨HP,Ql,Qm,HN⟩:=ED (λ(V:World) (hB:Bl w V)=>h.below hB) av ay (show ps.length=n from hn);have Qd:n<=1099511627776:=Z
 have Qj:=O ae;have Qo:=O aw;clear h av ay bc az ba hn ap M0 M1 ae bf hf aw;go_enter Tryz.func98,Tryz.ntmps98
 go_upto_region 1 with fail
 rw[Qj.o];have c0:=(Qh.o.cell (i:=0) rfl).1.cell;go_upto_region 2 with(go_at_call 20;refine Qg.o.mono ?_;clear Qg;rintro e w1 ⟨rfl,an⟩)
 have Qe:Mem w (w1.alloc (F (J3 n) 65)) [some (w.heap.size,.cell 25 (C x la y)),some (w.heap.size+1,.rat f),some (w.heap.size+1+1,.cell 25 (C none 0 0)),some (w1.heap.size,.rats (List.replicate n 0))]:=(Qh.o.below an).push (.rats (List.replicate n 0)) (I8 _ n);obtain⟨V1,af⟩:=ex (w1.alloc (F (J3 n) 65));obtain⟨A,ah⟩:=ex (w1.heap.size);rw[af,ah]at Qe;rw[af,ah];have Qi:=O Qe;clear Qe af ah an c0 Qh Qj Qr;go_wp2;go_loopw [13] (λiv wr=>∃(i:Nat) (S:List Rat),i<=n/\iv=.int .i64 (i:Int)/\Hid (Ht (λj=>cf ps j*f) n i S)/\Hid (Mem w wr [some (w.heap.size,.cell 25 (C x la y)),some (w.heap.size+1,.rat f),some (w.heap.size+1+1,.cell 25 (C none 0 0)),some (A,.rats S)])) λiv _=>n-(intOf iv).toNat
 case atStart=>exact⟨0,_,AK _,rfl,O ⟨Au,λj=>by rw[JS,BH Z]⟩,Qi⟩
 case round=>
  obtain⟨i,S,R,rfl,H,P⟩:=hrel;clear Qi;by_cases aq:i<n
  . have bj:(i:Int)<(n:Int):=Z
    have Qk:=O (show i<S.length by rw[H.o.1];exact aq);go_wp2_with fail
    have Qn:=P.o.drew;refine Jm Qq [[],[],[],[],[2,3],[],[4,5,4],[0,1,0,1,2,3,4,5,6],[7,6,6,0,1,2,3,4,5,6]] (by kernel_rfl) DL
     (λD ad V=>∃(ta tb X td te tf tg ti:Value),ad={ tmps:=#[.agg #[C x la y],.agg #[E s,C a l c,E t,C b k d],G (some ⟨w.heap.size,0,none⟩),G (some ⟨w.heap.size+1,0,none⟩),G (some ⟨w.heap.size+1+1,0,none⟩),C (some ⟨A,0,none⟩) n n,.int .i64 ↑i,.agg #[C x la y],.int .i64 L,.int .i64 ↑n,C (some ⟨A,0,none⟩) n n,C (some ⟨A,0,none⟩) n n,.int .i64 ↑n,.int .i64 ↑i,E true,.int .i64 ↑i,ta,tb,X,td,te,tf,tg,ti,u24,undef,undef],defers:=[] }/\Hid ((D 0=true->ta=C (some ⟨A,0,none⟩) n n)/\(D 1=true->tb=.int .i64 (i:Int))/\(D 2=true->X=.agg #[C x la y])/\(D 3=true->td=.int .i64 (i:Int))/\(D 4=true->D 8=false->Ji V te (cf ps i))/\(D 5=true->D 8=false->Ji V tf f)/\(D 6=true->D 8=false->Ji V tg (cf ps i*f))/\(D 7=true->ti=G (some ⟨A,i*4,none⟩)))/\Hid ((D 8=false->Mem w V [some (w.heap.size,.cell 25 (C x la y)),some (w.heap.size+1,.rat f),some (w.heap.size+1+1,.cell 25 (C none 0 0)),some (A,.rats S)])/\(D 8=true->Mem w V [some (w.heap.size,.cell 25 (C x la y)),some (w.heap.size+1,.rat f),some (w.heap.size+1+1,.cell 25 (C none 0 0)),some (A,.rats (S.set i (cf ps i*f)))])))
     (E8 ⟨rfl,O J,O ⟨λ_=>Qn,J⟩⟩) ?step1 ?fin1
    case step1=>
     rintro D ad V i ds Q R o I ⟨ta,tb,X,td,te,tf,tg,ti,rfl,g,m⟩;have bi:i<9:=(Af.1 R).1;obtain rfl|rfl|rfl|rfl|rfl|rfl|rfl|rfl|rfl:=LV i Z
     all_goals
      simp only[Ai,Ah,Ak]at R;subst R
     . clear o;refine DQ ?_;exact⟨(Dc g),m⟩
     . clear o;refine DQ ?_;exact⟨(Dg g),m⟩
     . have z:=m.o.1 (DM Q I);have L:=(z.cell (i:=0) rfl).1.cell;clear o;refine DQ ?_;exact⟨(Db g),m⟩
     . clear o;refine DQ ?_;exact⟨(Dd g),m⟩
     . have z:=m.o.1 (DM Q I);obtain rfl:=g.o.2.2.1 (o 2 J);obtain rfl:=g.o.2.2.2.1 (o 3 J);clear o;have N:=O (II _ ps (i:Int) V (HP.o V z.2.2));rw[IY]at N;refine Jb rfl rfl λK hK=>?_;go_simp;go_wp2_with(go_at_call 58;refine N.o.mono ?_;rintro e w5 ⟨v5,rfl,ak,q⟩)
       obtain⟨G0,G1,_,_,_,G5,G6,G7⟩:=g.o;exact E8 ⟨rfl,O ⟨G0,G1,λ_=>rfl,λ_=>rfl,λ_ _=>ak,λh B=>(G5 h B).below q,λh B=>(G6 h B).below q,G7⟩,O ⟨λh=>(m.o.1 h).below q,λh=>(m.o.2 h).below q⟩⟩
     . have z:=m.o.1 (DM Q I);obtain⟨x1,x2,x3,x4,x5,x6,x7,x8,n,r,_,_⟩:=z.rat (i:=1) rfl;obtain⟨L,e1,e2,e3⟩:=n.cq;clear o;refine DQ ?_;exact⟨(Dt g λ_ _=>r),m⟩
     . have Qa:D 8=false:=DM Q I;have M:=g.o.2.2.2.2.1 (o 4 J) Qa;have h1:=Dq g (o 5 J) Qa;clear o;have N:=O (I0 _ _ (cf ps i) f V M h1 (Ql.o.at i) Qo.o);clear M h1;refine Jb rfl rfl λK hK=>?_;go_simp;go_wp2_with(go_at_call 52;refine N.o.mono ?_;rintro e w5 ⟨v5,rfl,ak,q⟩)
       obtain⟨G0,G1,G2,G3,G4,G5,_,G7⟩:=g.o;exact E8 ⟨rfl,O ⟨G0,G1,G2,G3,λh B=>(G4 h B).below q,λh B=>(G5 h B).below q,λ_ _=>ak,G7⟩,O ⟨λh=>(m.o.1 h).below q,λh=>(m.o.2 h).below q⟩⟩
     . obtain rfl:=g.o.1 (o 0 J);obtain rfl:=g.o.2.1 (o 1 J);clear o;refine DQ ?_;exact⟨(Kf (Dg (Dc g))),m⟩
     . have z:=m.o.1 I;have M:=D0 g (o 6 J) I;obtain rfl:=g.o.2.2.2.2.2.2.2 (o 7 J);have hE:=z.rats (i:=3) rfl;obtain⟨xa,xb,xc,xd,L,e1,e2,e3,_⟩:=hE.at Qk.o;have f0:=hE.frozen (i*4);have f1:=hE.frozen (i*4+1);have f2:=hE.frozen (i*4+2);have f3:=hE.frozen (i*4+3);obtain⟨s9,a9,l9,c9,t9,b9,k9,d9,rfl⟩:=Ji.form M;clear o;refine DQ ?_;exact⟨O ⟨g.o.1,g.o.2.1,g.o.2.2.1,g.o.2.2.2.1,λ_ h=>by simp at h,λ_ h=>by simp at h,λ_ h=>by simp at h,λ_=>rfl⟩,O ⟨λh=>by simp at h,λ_=>z.putRats (i:=3) rfl Qk.o M⟩⟩
    case fin1=>
     rintro D ad V am ⟨ta,tb,X,td,te,tf,tg,ti,rfl,g,m⟩;have HO:=O (m.o.2 (am 8 DL));clear g m am;go_wp2_with fail
     go_roundw
     case rel=>exact⟨i+1,_,Z,by go_num,O (H.o.next aq),HO⟩
     case measure=>simp[intOf];omega
  . obtain rfl:i=n:=Z
    have hE:=P.o.rats (i:=3) rfl;have Qc:=hE.row (n:=i) (cap:=i) (by rw[H.o.1];exact Aa _) (Aa _) Z Qd;rw[Ag (by rw[H.o.1];exact Aa _)]at Qc;have Qf:=O (Pf _ S wr Qc (DY.of λj=>by
     rw[H.o.2 j];split
     . exact Qm.o j
     . exact Hq))
    rw[H.o.done (T:=Da f ps) (JP _ _) (λj hj=>Yi _ _ _) λj hj=>by rw[Yi,J6 (by rw[HN.o];exact hj),Cx]]at Qf;clear hE Qc;go_wp2_with(go_at_call 59;refine Qf.o.mono ?_;clear Qf;rintro e w5 ⟨u5,rfl,ai,_,q⟩;obtain⟨a7,l7,c7,rfl⟩:=ai.form;have U:=boxed_below (P.o.cell (i:=2) rfl).1 q;have x0:=U.cell;have x1:=U.frozen;have Qs:=O (Ea U (C a7 l7 c7) ai.row);have Qp:=O ((Bt P.o.2.2 q).setCell (p:=⟨w.heap.size+1+1,0,none⟩) (by show w.heap.size<=w.heap.size+1+1;omega) (C a7 l7 c7));clear ai q U)
    exact BB (v:=.agg #[C a7 l7 c7]) (by simp[results,Tryz.results98,go_sem,x0]) rfl ⟨_,rfl,⟨_,rfl,Qs.o⟩,Qp.o⟩
