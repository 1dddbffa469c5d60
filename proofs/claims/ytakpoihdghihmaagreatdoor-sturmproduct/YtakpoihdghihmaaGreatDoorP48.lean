import Derived.Test.YtakpoihdghihmaaGreatDoorP47
open Go.Value renaming slice->B
set_option maxRecDepth 100000
set_option maxHeartbeats 16000000
namespace Go.Proofs.YtakpoihdghihmaaGreatDoor
section
open Go.RowKit Go.Shelf
def Cd(M:Nat)(p:List Rat):Prop:=∃D:Int,D≠0/\Sm M D/\EE D M p
section
variable {M N:Nat} {p q:List Rat}
theorem Cd.mono(h:Cd M p)(a:M<=N):Cd N p:=by
 obtain⟨D,d1,b,c⟩:=h;exact⟨D,d1,b.mono a,λi=>(c i).mono a⟩
theorem Cd.smq(h:Cd M p)(i:Nat):DW M (cf p i):=by
 obtain⟨D,d1,a,b⟩:=h;exact(b i).smq d1 a
theorem Cd.ln(h:Cd M p):Ln M p:=by
 obtain⟨D,d1,b,a⟩:=h;exact a.ln d1
theorem Cd.sqs(h:Cd M p)(a:M<=1000000):DX p:=DX.of λi=>Sq.of (h.smq i) a
theorem Cd.pos(h:Cd M p):1<=M:=by
 obtain⟨D,d1,a,_⟩:=h;by_cases b:1<=M
 . exact b
 . exfalso
   obtain rfl:M=0:=Y
   unfold Sm at a;have:D.natAbs≠0:=Int.natAbs_ne_zero.2 d1;simp at a;omega
theorem Cd.monS(h:Cd M p)(tp:Jd p=p)(b:M<=1000000)(i:Nat):Sq (cf p i/cf p (p.length-1)):=by
 have a:=Ln.sqs tp h.ln h.pos i;unfold Jz at a;rw[Yl,Fi,CG,<-Fi]at a;exact Sq.of a b
theorem Cd.dvn(h:Cd M p)(f:Cd M q)(g:cf q (q.length-1)=1):∃D E:Int,Dvn D E E M M p q:=by
 obtain⟨D,d1,c,d⟩:=h;obtain⟨E,a,b,e⟩:=f;exact⟨D,E,d1,c,d,a,b,e,a,b,by rw[g,Rat.divInt_self' a]⟩
theorem Cd.quo(h:Cd M p)(e:Cd M q)(b:cf q (q.length-1)=1):Cd ((p.length+1)*(M+1)) (Js p q)/\Cd ((p.length+1)*(M+1)) (JH p q):=by
 obtain⟨D,E,d⟩:=h.dvn e b;obtain⟨m,b⟩:=ex (p.length-(q.length-1));have a:=d.den m;have c:=d.rem b;have f:m*(M+1)<=p.length*(M+1):=Aj _ Y;have g:(p.length+1)*(M+1)=p.length*(M+1)+(M+1):=by rw[AD,CA]
 exact⟨⟨_,a.1,a.2.mono Y,λi=>(c.2 i).mono Y⟩,⟨_,a.1,a.2.mono Y,λi=>(c.1 i).mono Y⟩⟩
end
variable{q:List Rat}
theorem Kc(tq:Jd q=q)(q0:q≠[])(a:Jz q=q):cf q (q.length-1)=1:=by
 have:=NN tq q0;rwa[a]at this
def EG(p q:List Rat):List Rat:=if q=[]then []else Js p q
theorem bB(p q:List Rat):Jd (EG p q)=EG p q:=by
 unfold EG;split
 . rfl
 . exact Ys _ _
theorem Cd.ov{M:Nat}{p:List Rat}(h:Cd M p)(b:Cd M q)(tq:Jd q=q)(c:Jz q=q):Cd ((p.length+1)*(M+1)) (EG p q):=by
 unfold EG;split
 . refine(show Cd 1 []from QH Y).mono ?_;have:1*1<=(p.length+1)*(M+1):=Cr Y Y;omega
 . rename_i a;exact(h.quo b (Kc tq a c)).1
def Gj(p:List Rat):List Rat:=Jz (EG p (Jr p (Jc p)))
namespace M3
variable{p q:List Rat}{K:Nat}
theorem Chn.ends(d:ChOk K p q):∀(n:Nat) (a b:List Rat),b.length<=n->Chn p q (DZ K p q) a b->∃r,Chn p q (DZ K p q) r []:=by
 intro n;induction n with
 |zero=>
  intro a b hl h;have c:b=[]:=KR Y;subst c;exact⟨a,h⟩
 |succ n e=>
  intro a b hl h;by_cases c:b=[]
  . subst c;exact⟨a,h⟩
  . have f:=YT (a:=a) h.tb c;exact e b (YL a b) Y (Chn.next d.tp d.tq d.lp d.lq d.bd.2.2.1 h c)
theorem ChOk.gcd(a:ChOk K p q):Cd (DZ K p q) (Jr p q):=by
 obtain⟨r,b⟩:=Chn.ends a _ _ _ (Aa _) (Chn.start a.tp a.tq a.lp a.lq a.bd.2.2.1);rw[<-b.gc,P7];exact QI b.ta b.wa.ln a.bd.2.2.2
theorem bC(M:Nat)(v:Value)(p:List Rat)(w:World)(h:Je w v p)(tp:Jd p=p)(b:Cd M p)(a:M<=1000000):
 Calls Tryz.prog 88 #[v] w λe c=>∃u,e=.returned u/\Je c u (Jz p)/\Bl w c:=
 QO v p w h (b.sqs a) tp λi=>b.monS tp a i
theorem bD(M:Nat)(a b:Value)(p q:List Rat)(w:World)(d:Je w a p)(f:Je w b q)(hp:Cd M p)(hq:Cd M q)(tp:Jd p=p)(tq:Jd q=q)(j:Jz q=q)(n:2*((p.length+3)*(M+1))<=1000000):
 Calls Tryz.prog 139 #[a,b] w λe c=>∃u v,e=.returned (.tuple #[u,v,.bool (decide (q≠[]))])/\Je c u (if q=[]then []else Js p q)/\Je c v (if q=[]then []else JH p q)/\Bl w c:=by
 have k:(p.length+3)*(M+1)=p.length*(M+1)+3*(M+1):=AD _ _ _;refine P0 M a b p q w d f (hp.sqs Y) hq.smq tp tq λq0=>?_;obtain⟨D,E,g⟩:=hp.dvn hq (Kc tq q0 j);obtain⟨m,i⟩:=ex (p.length-(q.length-1));have l:m*(M+1)<=p.length*(M+1):=Aj _ Y;rw[i];exact g.sizes Y
attribute [local go_sem] Oper.semAt_some
theorem bE(M:Nat)(N P:Value)(p q:List Rat)(w:World)(y:Je w N p)(z:Je w P q)(hp:Cd M p)(hq:Cd M q)(tp:Jd p=p)(tq:Jd q=q)(L:Jz q=q)(G:2*((p.length+3)*(M+1))<=1000000):
 Calls Tryz.prog 89 #[N,P] w λe Q=>∃u,e=.returned u/\Je Q u (EG p q)/\Bl w Q:=by
 obtain⟨k,la,l,rfl⟩:=y.form;obtain⟨m,lb,n,rfl⟩:=z.form;have s:=(((Mem.nil w).push (.cell 25 (B k la l)) (cs:=#[B k la l]) ⟨rfl,rfl⟩).push (.cell 25 (B m lb n)) (cs:=#[B m lb n]) ⟨rfl,rfl⟩).push (.cell 25 (B none 0 0)) (cs:=#[B none 0 0]) ⟨rfl,rfl⟩;simp only[Ax]at s;obtain⟨W0,t⟩:=ex (((w.alloc (.cells #[B k la l] 25)).alloc (.cells #[B m lb n] 25)).alloc (.cells #[B none 0 0] 25));have D:=Ja t;have a:Hid (Mem w W0 [some (w.heap.size,.cell 25 (B k la l)),some (w.heap.size+1,.cell 25 (B m lb n)),some (w.heap.size+1+1,.cell 25 (B none 0 0))]):=Ja (by rw[<-t];exact s);have r:=Ja (bD M _ _ p q W0 (y.below a.o.2.2) (z.below a.o.2.2) hp hq tp tq L G);obtain⟨U,H⟩:=ex (decide (q≠[]));rw[H,show(if q=[]then []else Js p q)=EG p q from rfl]at r;have c0:=(a.o.cell (i:=0) rfl).1.cell;have c1:=(a.o.cell (i:=1) rfl).1.cell;have T:=(a.o.cell (i:=2) rfl).1;have C:=Ja a.o.2.2;clear s t y z hp hq tp tq L G H a;go_enter Tryz.func89,Tryz.ntmps89
 go_upto_region 1 with fail
 rw[D.o];clear D;go_upto_region 2 with(go_at_call 139;refine r.o.mono ?_;clear r;rintro e o ⟨u4,v4,rfl,A,I,g⟩;obtain⟨b,d,c,rfl⟩:=A.form;obtain⟨E,K,F,rfl⟩:=I.form)
 have f:Bl o ((o.alloc (.cells #[B b d c] 25)).alloc (.cells #[B E K F] 25)):=(Ba o _).alloc (by rw[Ax];omega) _;have nb:=(BI o 25 (B b d c)).alloc (.cells #[B E K F] 25);have V:=nb.cell;have j:=boxed_below (boxed_below T g) f;have x0:=j.cell;have x1:=j.frozen;have S:=Ja (KV j (x:=B b d c) (A.below f));have R:=Ja (((Bt C.o g).trans (f.mono (An C.o.size g.size))).setCell (p:=⟨w.heap.size+1+1,0,none⟩) (by show w.heap.size<=w.heap.size+1+1;omega) (B b d c));clear c0 c1 A I g nb j f;go_wp2_with fail
 exact BA (v:=.agg #[B b d c]) (by simp[results,Tryz.results89,go_sem,x0]) rfl ⟨_,rfl,S.o,R.o⟩
structure FrOk(K:Nat)(p:List Rat):Prop where
 ch:ChOk K p (Jc p)
 le:(p.length+3)*(DZ K p (Jc p)+1)*2<=1000000
theorem FrOk.cd(h:FrOk K p):Cd (DZ K p (Jc p)) p:=(show Cd K p from h.ch.cp).mono (by have:=LY K p (Jc p);omega)
theorem FrOk.sl(h:FrOk K p)(i:Nat):Sq (GS p i):=by
 have b:=(show Cd K (Jc p)from h.ch.cq).sqs h.ch.bd.2.1;have a:=b.at i;unfold Jc at a;rwa[Ye,IE]at a
theorem bF(K:Nat)(v:Value)(p:List Rat)(w:World)(h:Je w v p)(m:FrOk K p):
 Calls Tryz.prog 36 #[v] w λe w'=>∃u,e=.returned u/\Je w' u (Gj p)/\Bl w w':=by
 have Qi:Tryz.prog.follows .mixedOrders=true:=by kernel_rfl
 obtain⟨j,la,k,rfl⟩:=h.form;have T:=((Mem.nil w).push (.cell 25 (B j la k)) (cs:=#[B j la k]) ⟨rfl,rfl⟩).push (.poly []) (cs:=#[B none 0 0]) (Io _);simp only[Ax]at T;obtain⟨W0,ad⟩:=ex ((w.alloc (.cells #[B j la k] 25)).alloc (.cells #[B none 0 0] 25));have Qc:=Ja ad;have h9:=m.le;have h8:=m.ch.bd;have h7:(p.length+3)*(DZ K p (Jc p)+1)=(p.length+1)*(DZ K p (Jc p)+1)+2*(DZ K p (Jc p)+1):=by rw[<-AD]
 have U:=m.ch.gcd;have W:=XU m.ch.tp m.ch.tq;obtain⟨Qe,Qj,Qf,Qd⟩:=Dx (λ(V:World) (H:Bl w V)=>P1 (.agg #[B j la k]) p V (h.below H) (m.cd.sqs h8.1) m.sl) (λ(V:World) (H:Bl w V) (y:Value) (L:Je V y (Jc p))=>QS K (.agg #[B j la k]) y p (Jc p) V (h.below H) L m.ch) (λ(V:World) (H:Bl w V) (y:Value) (L:Je V y (Jr p (Jc p)))=>bE (DZ K p (Jc p)) (.agg #[B j la k]) y p (Jr p (Jc p)) V (h.below H) L m.cd U m.ch.tp (JO _ _) W Y) λ(V:World) (y:Value) (L:Je V y (EG p (Jr p (Jc p))))=>bC ((p.length+1)*(DZ K p (Jc p)+1)) y (EG p (Jr p (Jc p))) V L (bB _ _) (m.cd.ov U (JO _ _) W) Y;rw[show Jz (EG p (Jr p (Jc p)))=Gj p from rfl]at Qd;have M1:Hid (Mem w W0 [some (w.heap.size,.cell 25 (B j la k)),some (w.heap.size+1,.poly ([]))]):=Ja (by rw[<-ad];exact T);clear T ad h m h9 h8 h7 U W;go_enter Tryz.func36,Tryz.ntmps36
 go_upto_region 1 with fail
 rw[Qc.o];clear Qc;refine Jo Qi [[],[],[],[2],[1,3,3],[0,4,4],[5,5],[6,6,0,1,2,3,4,5,6]] (by kernel_rfl) DI
  (λD X V=>∃(ta tb N P Q R S:Value) (M:Option (Nat × Dat)),X={ tmps:=#[.agg #[B j la k],.pointer (some ⟨w.heap.size,0,none⟩),.pointer (some ⟨w.heap.size+1,0,none⟩),ta,tb,N,P,Q,R,S],defers:=[] }/\Hid ((D 0=true->ta=.agg #[B j la k])/\(D 1=true->tb=.agg #[B j la k])/\(D 2=true->N=.agg #[B j la k])/\(D 3=true->Has V P (.poly (Jc p)))/\(D 4=true->Has V Q (.poly (Jr p (Jc p))))/\(D 5=true->Has V R (.poly (EG p (Jr p (Jc p)))))/\(D 6=true->Has V S (.poly (Gj p)))/\((D 7=false->M=some (w.heap.size+1,.poly ([])))/\(D 7=true->M=some (w.heap.size+1,.poly (Gj p)))))/\Hid (Mem w V [some (w.heap.size,.cell 25 (B j la k)),M]))
  ⟨_,_,_,_,_,_,_,_,rfl,Ja ⟨Z,Z,Z,Z,Z,Z,Z,⟨λ_=>rfl,Z⟩⟩,Ja (M1.o).drew⟩ ?step1 ?fin1
 case step1=>
  rintro D X V i ds af hi g ae ⟨ta,tb,N,P,Q,R,S,M,rfl,b,f⟩;have ah:i<8:=(Ac.1 hi).1;obtain rfl|rfl|rfl|rfl|rfl|rfl|rfl|rfl:=Ll i Y
  all_goals
   simp only[Ag,Ae,Ak]at hi;subst hi
  . have e0:=(f.o.cell (i:=0) rfl).1.cell;clear g;refine Za ?_;exact⟨_,_,_,_,_,_,_,_,rfl,(De b),Ja (f.o)⟩
  . have e0:=(f.o.cell (i:=0) rfl).1.cell;clear g;refine Za ?_;exact⟨_,_,_,_,_,_,_,_,rfl,(Di b),Ja (f.o)⟩
  . have e0:=(f.o.cell (i:=0) rfl).1.cell;clear g;refine Za ?_;exact⟨_,_,_,_,_,_,_,_,rfl,(Dc b),Ja (f.o)⟩
  . obtain rfl:=(b.o.2.2.1 (g 2 Z));have E:=Ja (Qe.o V f.o.2.2);clear g;refine Jb rfl rfl λK hK=>?_;go_simp;go_wp2_with(go_at_call 38;refine E.o.mono ?_;rintro e w5 ⟨v5,rfl,F,d⟩)
    obtain⟨o,q,_,_,x,z,A,C⟩:=b.o;exact⟨_,_,_,_,_,_,_,_,rfl,Ja ⟨o,q,λ_=>rfl,λ_=>F,λh=>(x h).below d,λh=>(z h).below d,λh=>(A h).below d,C⟩,Ja (f.o.below d)⟩
  . obtain rfl:=(b.o.2.1 (g 1 Z));have G:=(b.o.2.2.2.1 (g 3 Z));have E:=Ja (Qj.o V f.o.2.2 _ G);clear g G;refine Jb rfl rfl λK hK=>?_;go_simp;go_wp2_with(go_at_call 35;refine E.o.mono ?_;rintro e w5 ⟨v5,rfl,F,d⟩)
    obtain⟨o,_,s,t,_,z,A,C⟩:=b.o;exact⟨_,_,_,_,_,_,_,_,rfl,Ja ⟨o,λ_=>rfl,s,λh=>(t h).below d,λ_=>F,λh=>(z h).below d,λh=>(A h).below d,C⟩,Ja (f.o.below d)⟩
  . obtain rfl:=(b.o.1 (g 0 Z));have G:=(b.o.2.2.2.2.1 (g 4 Z));have E:=Ja (Qf.o V f.o.2.2 _ G);clear g G;refine Jb rfl rfl λK hK=>?_;go_simp;go_wp2_with(go_at_call 89;refine E.o.mono ?_;rintro e w5 ⟨v5,rfl,F,d⟩)
    obtain⟨_,q,s,t,x,_,A,C⟩:=b.o;exact⟨_,_,_,_,_,_,_,_,rfl,Ja ⟨λ_=>rfl,q,s,λh=>(t h).below d,λh=>(x h).below d,λ_=>F,λh=>(A h).below d,C⟩,Ja (f.o.below d)⟩
  . have h0:=((Ds b) (g 5 Z));have E:=Ja (Qd.o V _ h0);clear g h0;refine Jb rfl rfl λK hK=>?_;go_simp;go_wp2_with(go_at_call 88;refine E.o.mono ?_;rintro e w5 ⟨v5,rfl,F,d⟩)
    obtain⟨o,q,s,t,x,z,_,C⟩:=b.o;exact⟨_,_,_,_,_,_,_,_,rfl,Ja ⟨o,q,s,λh=>(t h).below d,λh=>(x h).below d,λh=>(z h).below d,λ_=>F,C⟩,Ja (f.o.below d)⟩
  . obtain rfl:=EZ b ae;have hv:=((D4 b) (g 6 Z));obtain⟨a1,l1,c1,rfl⟩:=Je.form (show Je V _ _ from hv);obtain⟨a,l,c,n,r⟩:=f.o.poly2 (i:=1) rfl;have e0:=n.cell;have f0:=n.frozen;clear g;refine Za ?_;obtain⟨o,q,s,t,x,z,A,_⟩:=b.o;exact⟨_,_,_,_,_,_,_,_,rfl,Ja ⟨o,q,s,λh=>(t h).set1 n rfl _,λh=>(x h).set1 n rfl _,λh=>(z h).set1 n rfl _,λh=>(A h).set1 n rfl _,⟨λh=>by simp at h,λ_=>rfl⟩⟩,Ja (f.o.putPoly (i:=1) rfl hv)⟩
 rintro D X V2 I ⟨ta,tb,N,P,Q,R,S,M,rfl,b,f⟩;obtain rfl:=b.o.2.2.2.2.2.2.2.2 (I 7 DI);obtain rfl:=b.o.1 (I 0 DI);obtain rfl:=b.o.2.1 (I 1 DI);obtain rfl:=b.o.2.2.1 (I 2 DI);clear b I M1;have M2:Hid (Mem w V2 [some (w.heap.size,.cell 25 (B j la k)),some (w.heap.size+1,.poly (Gj p))]):=f;clear f;obtain⟨a3,l3,c3,n3,r3⟩:=M2.o.poly2 (i:=1) rfl;have Qh:=n3.cell;have Qg:=Ja M2.o.2.2;go_wp2_with fail
 exact BA (v:=.agg #[B a3 l3 c3]) (by simp[results,Tryz.results36,go_sem,Qh]) rfl ⟨_,rfl,r3,Qg.o⟩
end M3
end
section
open Go.RowKit Go.Shelf
attribute [local go_sem] Oper.semAt_some
theorem _root_.Go.Boxed.bel{W W':World}{B:Nat}{t:TypeId}{v:Value}(h:Boxed W B t v)(a:Bl W W'):Boxed W' B t v:=(a.block B h.lt).trans h
end
section
open Go.RowKit Go.Shelf
variable{p q:List Rat}{A K:Nat}
theorem Cd.dvnG(h:Cd K p)(i:Cd A q)(tq:Jd q=q)(q0:q≠[]):∃D E l:Int,Dvn D E l K A p q:=by
 obtain⟨D,d1,c,d⟩:=h;obtain⟨E,f,g,a⟩:=i;obtain⟨n,b,j⟩:=a (q.length-1);refine⟨D,E,n,d1,c,d,f,g,a,λe=>?_,j,b⟩;exact Jt tq q0 (by rw[b,e];simp)
theorem Cd.quoG(h:Cd K p)(c:Cd A q)(tq:Jd q=q)(q0:q≠[]):Cd (K+p.length*(A+1)+1) (Js p q):=by
 obtain⟨D,E,l,b⟩:=h.dvnG c tq q0;obtain⟨m,e⟩:=ex (p.length-(q.length-1));have a:=b.den m;have d:=b.rem e;have f:m*(A+1)<=p.length*(A+1):=Aj _ Y;exact⟨_,a.1,a.2.mono Y,λi=>(d.2 i).mono Y⟩
namespace M3
theorem bG(K A:Nat)(a b:Value)(p q:List Rat)(w:World)(d:Je w a p)(f:Je w b q)(hp:Cd K p)(hq:Cd A q)(tp:Jd p=p)(tq:Jd q=q)(q0:q≠[])(k:2*(K+p.length*(A+1)+1)+2*(2*A+1)<=1000000):
 Calls Tryz.prog 139 #[a,b] w λe c=>∃u v,e=.returned (.tuple #[u,v,.bool true])/\Je c u (Js p q)/\Je c v (JH p q)/\Bl w c:=by
 obtain⟨D,E,l,g⟩:=hp.dvnG hq tq q0;obtain⟨m,i⟩:=ex (p.length-(q.length-1));have j:m*(A+1)<=p.length*(A+1):=Aj _ Y;refine QK A a b p q w d f (hp.sqs Y) hq.smq tp tq q0 ?_;rw[i];exact g.sizes Y
attribute [local go_sem] Oper.semAt_some
end M3
end
section
theorem Le{a b:Rat}(c:0<a)(d:0<b):∃e,0<e/\e<=a/\e<=b:=by
 rcases Yv a b with h|h
 . exact⟨a,c,Rat.le_refl,h⟩
 . exact⟨b,d,h,Rat.le_refl⟩
theorem bH{w:List Rat}(tw:Jd w=w)(w0:w≠[])(hl:w.length<=1)(x y:Rat):Dl w x y:=by
 match w,w0,hl with
 |[c],_,_=>
  have c0:c≠0:=by
   have:=Jt tw Z;simpa[cf]using this
  exact Iz c0 (λx=>Jy c x) x y
theorem QU:∀(n:Nat) (R w y:List Rat),R.length<=n->Yun R w y->∀ {B:Rat},0<=B->∃k,0<k/\Sh B λx z=>¬Dl w x z->k<=ev y x*ev (Jc w) x/\k<=ev y z*ev (Jc w) z:=by
 intro n;induction n with
 |zero=>intro R w y hn h;exact absurd (AM.1 Y) h.R0
 |succ n ih=>
  intro R w y hn h B i;by_cases hl:w.length<=1
  . exact⟨1,DI,Sh.all λx z _ _ _ I=>absurd (bH h.tw h.w0 hl x z) I⟩
  . obtain⟨_,_,f,X,_,m⟩:=h.step;have S:=Xu y (Jc w);have T:∀x,ev (Ym y (Jc w)) x=ev y x-ev (Jc w) x:=λx=>Y1 _ _ _;obtain⟨z,hz⟩:=ex (Ym y (Jc w));rw[hz]at f m S T;obtain⟨g1,g2,_⟩:=YB h.tw S;have a0:=YN h.tw S (Or.inl h.w0);have G:=(JP (JO w z) a0 g2).2;obtain⟨a,ha⟩:=ex (Jr w z);rw[ha]at f m G;obtain⟨g,bk⟩:=ex (Js w a);rw[bk]at f m;obtain⟨E,bl⟩:=ex (Js z a);rw[bl]at f G;obtain⟨W,bh⟩:=ex (Js R w);rw[bh]at f X;have lR:W.length<=n:=by
     have:=JG h.tw f.tR h.w0 f.R0;rw[<-X]at this;omega
    obtain⟨L,bm,N⟩:=ih W g E lR f i;have s:∀x,ev w x=ev a x*ev g x:=λx=>by
     have:=Jh a g x;rwa[<-m]at this
    have fd:∀x,ev (Jc w) x=ev (Jc a) x*ev g x+ev a x*ev (Jc g) x:=λx=>by
     have:=Yd a g x;rwa[<-m]at this
    have fy:∀x,ev (Jc w) x=ev y x-ev a x*ev E x:=λx=>by
     have C:=T x;have f:=G x;grind
    obtain⟨u,v,ae⟩:=h.cop;obtain⟨U,pU,hU⟩:=XE u i;obtain⟨V,j,hV⟩:=XE v i;obtain⟨ce,pY,hY⟩:=XE y i;obtain⟨A,pA,hA⟩:=XE a i;obtain⟨A1,ai,hA1⟩:=XE (Jc a) i;obtain⟨W2,bu,bj⟩:=XE g i;obtain⟨o,cl,bi⟩:=XE (Jc g) i;obtain⟨F,bz,ad⟩:=XE E i;have c:∀ {a b:Rat},0<a->0<b->0<a*b:=λC f=>Rat.mul_pos C f;obtain⟨e1,am,an⟩:=small (Rat.le_of_lt (c pU bu)) (show(0:Rat)<1/4 by grind);obtain⟨e2,ap,aq⟩:=small (Rat.le_of_lt (c (c j j) (c pY bz))) (show(0:Rat)<1/16 by grind);obtain⟨e,e0,bf,bg⟩:=Le am ap;have l:0<V*(o+F):=c j (by grind);obtain⟨M,hM⟩:=ex (V*(o+F));obtain⟨e3,aw,ax⟩:=small (Rat.le_of_lt (c pU pA)) (show(0:Rat)<1/4 by grind);obtain⟨e4,ay,az⟩:=small (Rat.le_of_lt (c j ai)) (show(0:Rat)<1/4 by grind);obtain⟨e5,ba,bc⟩:=small (Rat.le_of_lt (c (c l l) (c ai (c pA (show 0<o+o+F by grind))))) (show(0:Rat)<L/8 by grind);obtain⟨d1,aj,ci,cj⟩:=Le aw ay;obtain⟨d,d0,ck,ak⟩:=Le aj ba;obtain⟨k,k0,bn,bt⟩:=Le (YF (show(0:Rat)<1/2 by grind) (c j j)) (YF (show(0:Rat)<L/8 by grind) (c l l));refine⟨k,k0,(((Gn a i e0).and (Gn g i d0)).and N).mono λx D hx af _ ⟨⟨ta,tw⟩,N⟩ I=>?_⟩;have ah:∀ {K r t:Rat},0<K->r<=K*t->k<=r/K->k<=t:=fun {K r t} hK C f=>by
     have h3:r/K*K=r:=Ap (by grind);rcases Yv k t with h4|h4
     . exact h4
     . have:=Rat.mul_nonneg (a:=K) (b:=k-t) (by grind) (by grind);have:=Rat.mul_nonneg (a:=r/K-k) (b:=K) (by grind) (by grind);rcases Yv t k with H|H
       . rcases Rat.le_iff_lt_or_eq.1 H with h6|h6
         . have:=Rat.mul_pos (a:=K) (b:=k-t) hK (by grind);grind
         . grind
       . exact H
    have ca:∀p,Wi B p->Wi e (ev a p)->k<=ev y p*ev (Jc w) p:=λp hp hq=>by
     have:=R5 (hU p hp) (hV p hp) (hY p hp) hq (bj p hp) (ad p hp) (ae p) (s p) (by have:=an e bf;grind) (by have:=aq e bg;grind);rw[<-fy p]at this;exact ah (c j j) this bn
    have cw:∀p,Wi B p->Wi d (ev g p)->L<=ev E p*ev (Jc g) p->k<=ev y p*ev (Jc w) p:=λp hp hq hk=>by
     have h9:=R6 (hU p hp) (hV p hp) (hA p hp) (hA1 p hp) hq (bi p hp) (ad p hp) (ae p) (s p) (by have C:=fy p;have h3:=fd p;grind) bm hk (by have:=ax d (by grind);grind) (by have:=az d (by grind);grind) (by have:=bc d ak;grind);rw[<-fd p]at h9;exact ah (c l l) h9 bt
    by_cases sa:Dl a x D
    . have sw:¬Dl g x D:=λq=>I (by
       unfold Dl at *;rw[s,s];have:=Rat.mul_pos sa q;grind)
      obtain⟨P,Q⟩:=tw sw;obtain⟨r1,r2⟩:=N sw;exact⟨cw x hx P r1,cw D af Q r2⟩
    . obtain⟨P,Q⟩:=ta sa;exact⟨ca x hx P,ca D af Q⟩
open Go.RowKit Go.Shelf
def zP:Array Value:=#[B none 0 0,.int .i64 0]
namespace M3
end M3
end
section
open Go.RowKit Go.Shelf
def bI(s:List Rat × List Rat):List Rat × List Rat:=(EG s.1 (Jr s.1 (Ym s.2 (Jc s.1))),EG (Ym s.2 (Jc s.1)) (Jr s.1 (Ym s.2 (Jc s.1))))
def D5(w y:List Rat):Nat->List Rat × List Rat
 |0=>(w,y)
 |n+1=>bI (D5 w y n)
def yP(s:List Rat × List Rat):List Rat:=Jr s.1 (Ym s.2 (Jc s.1))
structure StOk(K M:Nat)(w y:List Rat):Prop where
 ch:M3.ChOk K w (Ym y (Jc w))
 ty:Jd y=y
 cw:Cd M w
 cs:Cd M (Jc w)
 cy:Cd M y
 cz:Cd M (Ym y (Jc w))
 kM:DZ K w (Ym y (Jc w))<=M
 l1:2*((w.length+3)*(M+1))<=1000000
 l2:2*(((Ym y (Jc w)).length+3)*(M+1))<=1000000
structure PtOk(K M N:Nat)(p:List Rat):Prop where
 tp:Jd p=p
 cp:Cd M p
 ch:M3.ChOk K (Jz p) (Jc (Jz p))
 kM:DZ K (Jz p) (Jc (Jz p))<=M
 l1:2*((p.length+3)*(M+1))<=1000000
 gt:1<p.length
 nN:N<=1000000
 st:∀n,n<N->1<(D5 (EG (Jz p) (Jr (Jz p) (Jc (Jz p)))) (EG (Jc (Jz p)) (Jr (Jz p) (Jc (Jz p)))) n).1.length/\StOk K M (D5 (EG (Jz p) (Jr (Jz p) (Jc (Jz p)))) (EG (Jc (Jz p)) (Jr (Jz p) (Jc (Jz p)))) n).1 (D5 (EG (Jz p) (Jr (Jz p) (Jc (Jz p)))) (EG (Jc (Jz p)) (Jr (Jz p) (Jc (Jz p)))) n).2
 en:(D5 (EG (Jz p) (Jr (Jz p) (Jc (Jz p)))) (EG (Jc (Jz p)) (Jr (Jz p) (Jc (Jz p)))) N).1.length<=1
namespace M3
section
variable {base:Nat} {V V':World} {v:Value} {L:List (List Rat × Nat)}
end
attribute [local go_sem] Oper.semAt_some
end M3
end
variable{p:List Rat}{l:Nat}{r:Nat->Int}{c:Rat}
theorem bJ:∀D:Nat,1<D->∃l,1<l/\l∣D/\∀a:Nat,¬l∣a->Nat.gcd l a=1:=by
 intro D;induction D using Nat.strongRecOn with
 |ind D i=>
  intro hD;by_cases h:∀d,d∣D->d=1\/d=D
  . refine⟨D,hD,Nat.dvd_refl _,λa f=>?_⟩;rcases h _ (Fk D a)with e|e
    . exact e
    . exact absurd (e ▸ CV D a) f
  . obtain⟨d,g⟩:=Classical.not_forall.1 h;obtain⟨b,c⟩:=Classical.not_imp.1 g;have k:d≠1/\d≠D:=⟨λe=>c (Or.inl e),λe=>c (Or.inr e)⟩;have m:d<=D:=Nat.le_of_dvd Y b;have n:d≠0:=λe=>by subst e;have:=Nat.zero_dvd.1 b;omega
    obtain⟨l,l1,l2,j⟩:=i d Y Y;exact⟨l,l1,Nat.dvd_trans l2 b,j⟩
theorem QV{P:Nat->Prop}(h:∃a,P a):∃a,P a/\∀i,i<a->¬P i:=by
 obtain⟨a,d⟩:=h;induction a using Nat.strongRecOn with
 |ind a f=>
  by_cases h:∃i,i<a/\P i
  . obtain⟨i,b,c⟩:=h;exact f i b c
  . exact⟨a,d,λi e hp=>h ⟨i,e,hp⟩⟩
theorem bK{l:Int}{f:Nat->Int}{a:Nat}:∀n,a<n->(∀i,i<n->i≠a->l∣f i)->l∣Yr n f->l∣f a:=by
 have j:∀n,(∀i,i<n->l∣f i)->l∣Yr n f:=λn=>by
  induction n with
  |zero=>exact λ_=>Int.dvd_zero _
  |succ n d=>exact λh=>by rw[Yr];exact Int.dvd_add (d λi g=>h i Y) (h n Y)
 intro n;induction n with
 |zero=>intro h;omega
 |succ n d=>
  intro o h c;rw[Yr]at c;by_cases e:a=n
  . subst e;have m:=j a λi g=>h i Y Y;have b:=Int.dvd_sub c m;rwa[show Yr a f+f a-Yr a f=f a by omega]at b
  . refine d Y (λi g=>h i Y) ?_;have b:=Int.dvd_sub c (h n Y λk=>e k.symm);rwa[show Yr n f+f n-f n=Yr n f by omega]at b
theorem bL(hl:∀a:Nat,¬l∣a->Nat.gcd l a=1){s:Nat->Int}{n:Nat}(p:∀i,n<=i->r i=0)(h:∀k,(l:Int)∣Yr n λi=>if i<=k then r i*s (k-i)else 0)(o:∃a,¬(l:Int)∣r a)(q:∃b,¬(l:Int)∣s b):False:=by
 obtain⟨a,e,g⟩:=QV o;obtain⟨b,j,m⟩:=QV q;have f:a<n:=by
  by_cases c:a<n
  . exact c
  . exact absurd (by rw[p a Y];exact Int.dvd_zero _) e
 have c:=bK n f (λi t u=>by
  split
  . by_cases d:i<a
    . exact Int.dvd_trans (Classical.not_not.1 (g i d)) (Int.dvd_mul_right _ _)
    . exact Int.dvd_trans (Classical.not_not.1 (m (a+b-i) Y)) (Int.dvd_mul_left _ _)
  . exact Int.dvd_zero _) (h (a+b))
 rw[BH Y,show a+b-a=b by omega,CX]at c;exact j (dvd_one c (by rw[AY];exact hl _ λd=>e (CM.2 d)))
theorem bM{L G:Int}(N:∀i,((cf p i).den:Int)∣L)(P:∀u:Int,(∀i,((cf p i).den:Int)∣u)->L∣u)(K:∀i,G∣(cf p i).num)(M:∀v:Int,(∀i,v∣(cf p i).num)->v∣G)(I:G≠0)(R:∀i,∃z:Int,cf p i*c=(z:Rat)):
 ∃t:Int,∀i,∃r:Int,cf p i*((L:Rat)/(G:Rat))=(r:Rat)/\cf p i*c=((r*t:Int):Rat):=by
 have y:(c.den:Int)≠0:=by have:=c.den_nz;omega
 have j:∀i,∃z:Int,cf p i*c=(z:Rat)/\(cf p i).num*c.num=z*((cf p i).den*c.den):=λi=>by
  obtain⟨z,b⟩:=R i;refine⟨z,b,?_⟩;have C:c*(c.den:Rat)=(c.num:Rat):=Gh c;have a:cf p i*((cf p i).den:Rat)=((cf p i).num:Rat):=Gh _;have D:(((cf p i).num*c.num:Int):Rat)=((z*(((cf p i).den:Int)*(c.den:Int)):Int):Rat):=by
   rw[AC,AC,AC,AK,AK,<-C,<-a,<-b];grind
  exact Rat.intCast_inj.1 D
 have l:L∣c.num:=P _ λi=>by
  obtain⟨z,_,e⟩:=j i;have g:((cf p i).den:Int)∣(cf p i).num*c.num:=⟨z*c.den,by rw[e,Int.mul_left_comm]⟩;rw[CX]at g;refine dvd_one g ?_;rw[AY,C2];exact(cf p i).reduced
 have n:(c.den:Int)∣G:=M _ λi=>by
  obtain⟨z,_,e⟩:=j i;have g:(c.den:Int)∣(cf p i).num*c.num:=⟨z*(cf p i).den,by rw[e,<-Fy,CX]⟩;refine dvd_one g ?_;rw[AY,C2];exact c.reduced
 obtain⟨u,l⟩:=l;obtain⟨v,n⟩:=n;refine⟨u*v,λi=>?_⟩;obtain⟨e,s⟩:=N i;obtain⟨m,w⟩:=K i;obtain⟨z,E,b⟩:=j i;have Q:((cf p i).den:Int)≠0:=by have:=(cf p i).den_nz;omega
 have A:z=m*e*(u*v):=by
  have F:z*(((cf p i).den:Int)*c.den)=m*e*(u*v)*(((cf p i).den:Int)*c.den):=by
   rw[<-b,w,l,n,s];generalize ((cf p i).den:Int)=d;generalize (c.den:Int)=f;grind
  exact Int.eq_of_mul_eq_mul_right (CJ Q y) F
 refine⟨m*e,?_,by rw[E,A]⟩;have o:(G:Rat)≠0:=by exact_mod_cast I
 have a:cf p i*((cf p i).den:Rat)=((cf p i).num:Rat):=Gh _;rw[w,AC]at a;have x:(L:Rat)=((cf p i).den:Rat)*(e:Rat):=by rw[s,AC,AK]
 have k:(L:Rat)/(G:Rat)*(G:Rat)=L:=Ap o;have H:(cf p i*((L:Rat)/(G:Rat))-((m*e:Int):Rat))*(G:Rat)=0:=by
  rw[AC];generalize (L:Rat)/(G:Rat)=f at k ⊢;rw[x]at k;generalize ((cf p i).den:Rat)=d at a k;grind
 rcases Cj.1 H with q|q
 . grind
 . exact absurd q o
theorem QW(hp:Jd p=p)(e:p≠[])(l:∀i,∃z:Int,cf p i*c=(z:Rat)):∃t:Int,∀i,∃r:Int,cf (JE p) i=(r:Rat)/\cf p i*c=((r*t:Int):Rat):=by
 have b:∀i,p.length<=i->cf p i=0:=λi a=>Yj a;obtain⟨t,g⟩:=bM (p:=p) (L:=(YW p p.length:Int)) (G:=(YJ p p.length:Int)) (λi=>by
  by_cases a:i<p.length
  . exact Int.natCast_dvd_natCast.2 (NP p _ i a)
  . rw[b i Y];exact Int.one_dvd _) (λu j=>CM.2 (NQ p _ (λi=>CM.1 (j i)) _)) (λi=>by
  by_cases a:i<p.length
  . exact CM.2 (NR p _ i a)
  . rw[b i Y];exact Int.dvd_zero _) (λv k=>by
  have:v.natAbs∣YJ p p.length:=P9 p _ (λi=>FI.2 (k i)) _;exact Int.natAbs_dvd.1 (Int.natCast_dvd_natCast.2 this)) (by have:=KU hp e;omega) l
 refine⟨t,λi=>?_⟩;obtain⟨r,d,f⟩:=g i;refine⟨r,?_,f⟩;unfold JE;rw[Yl];rw[AK,AK]at d;exact d
theorem QX(hp:Jd p=p)(m:p≠[])(o:∀i,cf (JE p) i=(r i:Rat))(hl:1<l):∃i,¬(l:Int)∣r i:=by
 by_cases h:∃i,¬(l:Int)∣r i
 . exact h
 . exfalso
   have u:∀i,(l:Int)∣r i:=λi=>Classical.not_not.1 λb=>h ⟨i,b⟩;have d:(l:Rat)≠0:=by exact_mod_cast (show l≠0 by omega)
   obtain⟨c,n,e⟩:=F6 hp;have w:c≠0:=λg=>by rw[g]at n;exact absurd n DI
   have f:∀i,cf p i*c=(r i:Rat):=λi=>by rw[<-Yl,<-e,o]
   obtain⟨t,E⟩:=QW hp m (c:=c/(l:Rat)) (λi=>by
    obtain⟨q,hq⟩:=u i;refine⟨q,?_⟩;have b:c/(l:Rat)*(l:Rat)=c:=Ap d;have j:=f i;rw[hq,AC,AK]at j;have a:(cf p i*(c/(l:Rat))-(q:Rat))*(l:Rat)=0:=by grind
    rcases Cj.1 a with k|k
    . grind
    . exact absurd k d)
   obtain⟨F,b,j⟩:=E (p.length-1);have s:=Jt hp m;have x:F=r (p.length-1):=Rat.intCast_inj.1 (by rw[<-b,o]);have v:r (p.length-1)≠0:=λg=>by
    have a:=f (p.length-1);rw[g]at a;exact GJ s w a
   have a:=f (p.length-1);have k:c/(l:Rat)*(l:Rat)=c:=Ap d;have y:((r (p.length-1):Int):Rat)=(((r (p.length-1))*(t*(l:Int)):Int):Rat):=by
    rw[<-a,AC,AC,AK];rw[x,AC]at j;grind
   have z:=Rat.intCast_inj.1 y;have A:t*(l:Int)=1:=by
    have C:r (p.length-1)*1=r (p.length-1)*(t*(l:Int)):=by rw[Int.mul_one];exact z
    exact(Int.eq_of_mul_eq_mul_left v C).symm
   have D:(l:Int)∣1:=⟨t,by rw[CX];exact A.symm⟩;have G:=Int.le_of_dvd DI D;omega
theorem NY(hp:Jd p=p)(b:p≠[]):∀i,∃r:Int,cf (JE p) i=(r:Rat):=by
 obtain⟨t,k⟩:=QW hp b (c:=(YW p p.length:Rat)) (λi=>by
  have f:(cf p i).den∣YW p p.length:=by
   by_cases j:i<p.length
   . exact NP p _ i j
   . rw[Yj Y];exact Nat.one_dvd _
  obtain⟨e,g⟩:=f;refine⟨(cf p i).num*(e:Int),?_⟩;have a:cf p i*((cf p i).den:Rat)=((cf p i).num:Rat):=Gh _;rw[g,AC,<-a,AK,Rat.natCast_mul];grind)
 intro i;obtain⟨r,d,_⟩:=k i;exact⟨r,d⟩
theorem bN{P g:List Rat}(C:Jd P=P)(u:P≠[])(U:∀i,∃z:Int,cf P i=(z:Rat))(o:Jd g=g)(h:Dv g P):
 ∃H:List Rat,Jd H=H/\P=Jm (JE g) H/\∀i,∃z:Int,cf H i=(z:Rat):=by
 have y:g≠[]:=λe=>u (by
  obtain⟨c,j⟩:=h;exact YX C λx=>by rw[j,e];simp[ev])
 obtain⟨N,D,Q⟩:=F6 o;have G:N≠0:=λm=>by rw[m]at D;exact absurd D DI
 have S:Dv (JE g) P:=by rw[Q];exact h.of_sc G
 obtain⟨H,f,eP⟩:=S.some C;have t:H≠[]:=λe=>u (by rw[eP,e];exact Xc _);refine⟨H,f,eP,?_⟩;obtain⟨c,j,w⟩:=F6 f;have L:c≠0:=λm=>by rw[m]at j;exact absurd j DI
 obtain⟨r,p⟩:=Classical.axiomOfChoice (NY o y);obtain⟨s,q⟩:=Classical.axiomOfChoice (NY f t);obtain⟨z,V⟩:=Classical.axiomOfChoice U;have E:DR c P=Jm (JE g) (JE H):=by
  refine XD (JI _ _) (JY _ _) λx=>?_;have a:ev P x=ev (JE g) x*ev H x:=by rw[<-Jh,<-eP]
  rw[JJ,Jh,w,JJ,a];grind
 have K:∀k,(z k:Rat)*c=((Yr (JE g).length (λi=>if i<=k then r i*s (k-i)else 0):Int):Rat):=λk=>by
  rw[<-V k,<-Yl,E,NM _ _ (Aa _)];refine NL λi _=>?_;split
  . rw[p,q,AC]
  . rfl
 have v:c*(c.den:Rat)=(c.num:Rat):=Gh c;have F:∀k,z k*c.num=(c.den:Int)*Yr (JE g).length (λi=>if i<=k then r i*s (k-i)else 0):=λk=>by
  have a:((z k*c.num:Int):Rat)=(((c.den:Int)*Yr (JE g).length (λi=>if i<=k then r i*s (k-i)else 0):Int):Rat):=by
   rw[AC,AC,<-K k,AK,<-v];grind
  exact Rat.intCast_inj.1 a
 have M:c.num≠0:=λe=>L (FF.1 e);have I:c.num.natAbs=1:=by
  by_cases a:c.num.natAbs=1
  . exact a
  . exfalso
    have A:c.num.natAbs≠0:=Int.natAbs_ne_zero.2 M;obtain⟨l,l1,l2,W⟩:=bJ c.num.natAbs Y;refine bL W (r:=r) (s:=s) (n:=(JE g).length) (λi T=>?_) (λk=>?_) (QX o y p l1) (QX f t q l1)
    . have b:=p i;rw[Yj T]at b;exact(Rat.intCast_inj.1 (show((0:Int):Rat)=_ from b)).symm
    . have b:(l:Int)∣(c.den:Int)*Yr (JE g).length (λi=>if i<=k then r i*s (k-i)else 0):=by
       rw[<-F k];exact Int.dvd_trans (CM.2 l2) (Int.dvd_mul_left _ _)
      rw[CX]at b;refine dvd_one b ?_;rw[AY,AY];have d:Nat.gcd l c.den∣Nat.gcd c.num.natAbs c.den:=Nat.dvd_gcd (Nat.dvd_trans (Fk _ _) l2) (CV _ _);have R:Nat.gcd c.num.natAbs c.den=1:=c.reduced;rw[R]at d;exact Nat.dvd_one.1 d
 intro i;refine⟨s i*(c.den:Int)*c.num,?_⟩;have a:cf H i*c=(s i:Rat):=by rw[<-q,w,Yl]
 have A:(c.num:Rat)*(c.num:Rat)=1:=by
  rw[<-AC];have b:c.num*c.num=1:=by
   rcases Int.natAbs_eq c.num with e|e<;>(rw[I]at e;rw[e];rfl)
  rw[b];rfl
 rw[AC,AC,AK,<-a];have d:cf H i*c*(c.den:Rat)*(c.num:Rat)=cf H i*(c.num*c.num:Rat):=by rw[Rat.mul_assoc (cf H i),v,Rat.mul_assoc]
 rw[d,A,Rat.mul_one]

