import Derived.Test.YtdmmbgahnkbnaaaGreatDoorV40
set_option linter.all false
open Go.Value renaming slice->C,bool->D,int->E,agg->I,pointer->N
open Go renaming World->F,Value->G
open Go.IntKind renaming i64->H
set_option maxRecDepth 99999
set_option maxHeartbeats 0
namespace Go.Proofs.YtdmmbgahnkbnaaaGreatDoor
open Go.RowKit Go.Shelf
attribute [local go_sem] Oper.semAt_some
section
structure RtOk(J K X:Nat)(p:List Rat):Prop where
 rok:RwOk J K p
 fit:(DL p).length*(Dc K (DL p) (Jb (DL p))+1+X+1)+1+X<=1000000000
variable{J K:Nat}
def ri{p:List Rat}(h:RwOk J K p):∀(n:Nat) (a b:List Rat),b.length<=n->Shn (DL p) (Jb (DL p)) (Dc K (DL p) (Jb (DL p))) 500000000 a b->∀y∈Ee n a b,Cd (Dc K (DL p) (Jb (DL p))+1) y/\y.length<=(DL p).length:=by
 intro n;induction n with
 |zero=>
  intro a b _ hs y c
  have:y=a:=by simpa[Ee]using c
  subst this;exact⟨hs.ca,hs.la⟩
 |succ n d=>
  intro a b hn hs y c;by_cases b0:b=[]
  . rw[Ee,BF b0]at c
    have:y=a:=by simpa using c
    subst this;exact⟨hs.ca,hs.la⟩
  . rw[Ee,BE b0]at c;rcases Fh.1 c with rfl|c
    . exact⟨hs.ca,hs.la⟩
    . obtain⟨c0,cl⟩:=R6 hs.tb b0;have l2:=(Y3 a (J8 b) (My b) c0).2.1;have e:=R7 (-1) (JU a (J8 b));exact d _ _ O (h.next hs b0) y c
def RtOk.row{X:Nat}{p:List Rat}(h:RtOk J K X p):∀y∈Eb p,y≠[]/\∀x,DQ X x->Sqs y/\M3.LT y x:=by
 intro y b;obtain⟨a,c⟩:=ri h.rok _ _ _ (Aa _) h.rok.start y b;have f:=h.fit;have d:=Ae.2 h.rok.f0;have g:y.length*(Dc K (DL p) (Jb (DL p))+1+X+1)<=(DL p).length*(Dc K (DL p) (Jb (DL p))+1+X+1):=Ad _ c;have i:1*(Dc K (DL p) (Jb (DL p))+1+X+1)<=(DL p).length*(Dc K (DL p) (Jb (DL p))+1+X+1):=Ad _ d;exact⟨(pP h.rok.fr.ch.tp h.rok.p0 y b).2,λx e=>⟨a.sqs O,R5 e a.smq O⟩⟩
end
theorem rj(p:List Rat)(zs:List Int)(e:p=zs.map (λz:Int=>(z:Rat)))(h:zs.all (λz=>decide (z.natAbs<100))=true):Cd 1 p:=by
 refine⟨1,DK,Sm.one 1 O,Ec.cdl λi=>?_⟩;rw[e];by_cases hi:i<zs.length
 . refine⟨zs[i],?_,?_⟩
   . have a:=AJ.1 h zs[i] (Fz hi);have b:=BW a;unfold Sm Y;omega
   grind[cf]
 . exact⟨0,Sm.zero 1,by rw[Ys si];rfl⟩
def eP:List Rat:=[-2,0,1]
def rk:IR [120,94,50,45,50]=(eP,0,0):=EM
def Z3:Ex [49]=1/\(XW [49]).isSome=true:=EM
def rm:Jb eP=[0,2]:=EM
def Z4:Cd 1 eP:=rj eP [-2,0,1] EM DK
section
def Cd.mul{M N:Nat}{p q:List Rat}(h:Cd M p)(g:Cd N q):Cd (M+N+p.length) (Ji p q):=by
 obtain⟨D,d1,b,c⟩:=h;obtain⟨E,d,e,f⟩:=g;have a:D*E≠0:=Cv d1 d;exact⟨D*E,a,(b.mul e).mono O,λi=>nW a (λi j=>(c i).mul (f j)) i⟩
variable{M:Nat}
def Cd.times{N:Nat}{p q:List Rat}(h:Cd M p)(f:Cd N q)(hl:M+N+p.length+1<=1000000000):M3.KC p q:=by
 obtain⟨D,d1,a,b⟩:=h;obtain⟨E,c,d,e⟩:=f;exact nV (Cv d1 c) ((a.mul d).mono O) (λi j=>(b i).mul (e j)) hl
theorem Cd.slope{p:List Rat}(h:Cd M p)(hl:p.length<=1000000000):Cd (M+1) (Jb p):=by
 obtain⟨D,d1,a,b⟩:=h;refine⟨D,d1,a.mono O,λi=>?_⟩;rw[XK];by_cases hi:i+1<p.length
 . have c:=(b (i+1)).mul (E:=1) (M:=1) (d:=(((i+1:Nat):Int):Rat)) ⟨((i+1:Nat):Int),by rw[AD,show((1:Int):Rat)=1 from rfl];grind,by unfold Sm Y;rw[Az];omega⟩;rwa[FH]at c
 . rw[Ys O,AY];exact CD.zero _ _
namespace M3
def rn(a b:G)(ps qs:List Rat)(w:F)(g:Je w a ps)(i:Je w b qs)(l:Sqs ps)(m:Sqs qs)(k:KC ps qs)(j:ps.length+qs.length<=1099511627776):
 Calls Tryz.prog 9 #[a,b] w λe w'=>∃u,e=.returned u/\Je w' u (Ji ps qs)/\Bl w w':=by
 refine(QN a b ps qs w g i l m k j).mono ?_;rintro e w' ⟨u,c,d,_,f⟩;exact⟨u,c,d,f⟩
theorem ChOk.of{K:Nat}{p q:List Rat}(tp:Jc p=p)(tq:Jc q=q)(cp:Cd K p)(cq:Cd K q){n:Nat}(lp:p.length<=n)(lq:q.length<=n)(hle:4*((n+2)*((K+1)*(n+n+1)+1))<=1000000000)(hn:n<=1000):ChOk K p q:=by
 refine⟨tp,tq,cp,cq,?_,O⟩;have a:Dc K p q<=(K+1)*(n+n+1):=Ai _ O;have b:(max p.length q.length+2)*(Dc K p q+1)<=(n+2)*((K+1)*(n+n+1)+1):=Cw O O;omega
end M3
end
def Z6(l:List Rat):DM l<=l.length:=Ac (OV l) O
namespace M3
theorem Z7(A l X g cap:Nat)(v:G)(row:List (List Rat))(a b:Rat)(w:F)(hE:E5 w g row.length λj=>row.getD j [])(h:Yp w v a b)(f:RowOk A l row)(Q:DQ X a)(R:DQ X b)(M:A+l*(X+2)+X+A<=10000000000):
 Calls Tryz.prog 73 #[C (some ⟨g,0,none⟩) row.length cap,v] w λe w'=>e=.returned (E H (FQ row a b))/\Bl w w':=by
 obtain⟨r,s,t,u,x,y,z,B,rfl,T,S⟩:=h;obtain⟨W0,q⟩:=ex (w.alloc (.cells #[r,s,t,u,x,y,z,B] 44));have c:Bl w W0:=by rw[<-q];exact(Ba w _)
 have np:Bx W0 (w.heap.size) 44 #[r,s,t,u,x,y,z,B]:=by
  have h:=Bx.new w 44 #[r,s,t,u,x,y,z,B];rw[q]at h;exact h
 obtain⟨P,o,p⟩:=DX q (λ(V:F) (h:Bl W0 V)=>Z2 A l X g cap _ row a V ((hE.below c).below h) ((T.below c).below h) f Q M) λ(V:F) (h:Bl W0 V)=>Z2 A l X g cap _ row b V ((hE.below c).below h) ((S.below c).below h) f R M;obtain⟨m,L⟩:=ex (DM (JD row a));obtain⟨k,hk⟩:=ex (DM (JD row b));have Qd:(m:Int)<=1000000:=by have h1:=Z6 (JD row a);have h2:=f.n;grind[JD]
 have Qe:(k:Int)<=1000000:=by have h1:=Z6 (JD row b);have h2:=f.n;grind[JD]
 have U:=Z (show FQ row a b=(m:Int)-(k:Int)by unfold FQ;rw[L,hk]);rw[L]at o;rw[hk]at p;rw[U.o];obtain⟨n,hn⟩:=ex (row.length);rw[hn]at o p ⊢;have ai:IntKind.i64.wrap ((m:Int)-(k:Int))=(m:Int)-(k:Int):=by rw[BH];omega
 have K:=Z λ(V:F) (h:Bl W0 V)=>(np.below h).all;have W:=Z c;clear hE f Q R M T S np q c L hk hn Qd Qe;have hq:Bl W0 W0.drew:=(BB _ W0).drew;have d:=K.o _ (BB _ W0);go_enter Tryz.func73,Tryz.ntmps73
 go_upto_region 1 with fail
 rw[P.o];clear P;go_region_held3 (λw'=>∀i,w'.cell? ⟨w.heap.size,i,none⟩=#[r,s,t,u,x,y,z,B][i]?) (first|(with_reducible exact d)|(go_keep;done)|(refine⟨?_,?_,?_,?_,?_,?_,?_,?_⟩<;>((repeat rw[JR O]);first|assumption|(go_keep;done))))
  (first
   |(go_at_call 153;refine(o.o _ hq).mono ?_;clear o;rintro e w1 ⟨rfl,ae⟩;have hq:=Bt hq ae;clear d;have d:=K.o _ hq)
   |(go_at_call 153;refine(p.o _ hq).mono ?_;clear p;rintro e w2 ⟨rfl,ah⟩;have hq:=Bt hq ah;clear d;have d:=K.o _ hq))
 go_wp2_with fail
 go_ret;exact⟨rfl,Bt W.o hq⟩
structure SnOk(K A l X:Nat)(r:RtQ)(q:List Rat):Prop where
 sq:Sqs q
 atk:¬r.lo<r.hi->LT q r.lo/\Sq (ev q r.lo)
 sw:Sqs r.w
 sl:∀i,Sq (Gw r.w i)
 ss:Sqs (Jb r.w)
 tm:KC (Jb r.w) q
 ln:(Jb r.w).length+q.length<=1099511627776
 ch:ChOk K r.w (Ji (Jb r.w) q)
 row:RowOk A l (Xb r.w (Ji (Jb r.w) q))
 w0:r.w≠[]
 sz:A+l*(X+2)+X+A<=10000000000
def Z8(p q:List Rat):Xb p q≠[]:=by
 unfold Xb EW;cases(Jp q).length with
 |zero=>simp[GH]
 |succ n=>
  rw[GH];split<;>simp
theorem rp(K A l X J:Nat)(v vq:G)(r:RtQ)(q:List Rat)(w:F)(h:JL w v r)(hq:Je w vq q)(hz:RzOk J X r)(hs:SnOk K A l X r q):
 Calls Tryz.prog 22 #[v,vq] w λe w'=>e=.returned (E H (r.sign q))/\Bl w w':=by
 have h0:=h;have Qk:=hq;obtain⟨aj,am,an,ap,aq,ay,az,bf,x,B,z,rfl,bj,bi,pw⟩:=h;obtain⟨L,P,M,rfl⟩:=Je.form hq;obtain⟨W0,bg,np,nq,s⟩:=KO w 46 25 #[aj,am,an,ap,aq,ay,az,bf,C x B z,E H r.sg,E H (r.tm:Int)] #[C L P M];obtain⟨Qd,m,o,Qc⟩:=Dt bg (λ(V:F) (h:Bl W0 V)=>R4 J X _ r V ((h0.below s).below h) hz) (λ(V:F) (h:Bl W0 V)=>And.intro (np.below h).all ((nq.below h).all)) s;obtain⟨n,hn⟩:=ex (r.sign q);rw[hn];obtain⟨HN,Q,S,d⟩:=Dt hn (λ(V:F) (h:Bl W0 V)=>And.intro ((Qk.below s).below h) (And.intro ((pw.below s).below h) (show Yp V (I #[aj,am,an,ap,aq,ay,az,bf]) r.lo r.hi from⟨_,_,_,_,_,_,_,_,rfl,(bj.below s).below h,(bi.below s).below h⟩))) hz hs;clear hz hs bj bi pw h0 Qk np nq bg s hn;have hq:Bl W0 W0:=BB _ W0;obtain⟨a,b⟩:=o.o _ hq;by_cases k:r.lo<r.hi
 . have hd:decide (¬r.lo<r.hi)=false:=BM λh=>h k;rw[hd]at m;clear hd;go_enter Tryz.func22,Tryz.ntmps22
   go_upto_region 1 with fail
   rw[Qd.o];clear Qd;go_upto_region 2 with(go_at_call 14;refine(m.o _ hq).mono ?_;clear m;rintro e w1 ⟨u1,rfl,u,ae⟩;have hq:=Bt hq ae;obtain⟨s9,T,l9,U,t9,b9,k9,W,rfl⟩:=Jf.form u;clear a b;obtain⟨a,b⟩:=o.o _ hq)
   obtain⟨c,f⟩:=ex (w1.alloc (.cells #[D s9,C T l9 U,D t9,C b9 k9 W] 41));obtain⟨B5,t⟩:=ex (w1.heap.size);have p:Bl w1 c:=by rw[<-f];exact Ba w1 _
   have n5:JQ c B5 41 (D s9) (C T l9 U) (D t9) (C b9 k9 W):=by rw[<-f,<-t];exact JQ.new w1 _ _ _ _ _
   have r5:=u.below p;rw[f,t];have hq:=Bt hq p
   clear a b;obtain⟨a,b⟩:=o.o _ hq;clear f t n5 r5 u p;obtain⟨Qj,Ql,Qm,Qg⟩:=Dt (λ(V:F) (h:Bl c V)=>OC _ r.w V (Q.o V (Bt hq h)).2.1 d.o.sw d.o.sl) (λ(V:F) (h:Bl c V) (y:G) (hy:Je V y (Jb r.w))=>rn y _ (Jb r.w) q V hy (Q.o V (Bt hq h)).1 d.o.ss d.o.sq d.o.tm d.o.ln) (λ(V:F) (h:Bl c V) (y:G) (hy:Je V y (Ji (Jb r.w) q))=>Zw _ y r.w _ V (Q.o V (Bt hq h)).2.1 hy) λ(V:F) (Bp Bq:Nat) (x L:Option Addr) (B z P M:Nat) (h1:Dd V Bp x B z) (h2:Dd V Bq L P M) (h3:Je V (I #[C x B z]) r.w) (h4:Je V (I #[C L P M]) (Ji (Jb r.w) q))=>Zx K Bp Bq x L B z P M r.w (Ji (Jb r.w) q) V d.o.ch h1 h2 h3 h4;obtain⟨R,hR⟩:=ex (Xb r.w (Ji (Jb r.w) q));have Qp:=Z (show RowOk A l R by rw[<-hR];exact d.o.row);have Qq:=Z (show FQ R r.lo r.hi=n by rw[<-HN.o,<-hR];unfold RtQ.sign;rw[BF k]);rw[hR]at Qg;have Qn:=Z (show R≠[]by rw[<-hR];exact Z8 _ _);have Qh:=Z λ(V:F) (h:Bl c V) (g cap:Nat) (hE:E5 V g R.length λj=>R.getD j [])=>Z7 A l X g cap _ R r.lo r.hi V hE (Q.o V (Bt hq h)).2.2 Qp.o S.o.lo S.o.hi d.o.sz;rw[Qq.o]at Qh;have Qe:=Z λ(V:F) (h:Bl c V)=>o.o V (Bt hq h);have Qb:=Z (Bt Qc.o hq);clear hR HN S o hq k;go_upto_region 4 with fail
   have hq:Bl c c.drew:=(BB _ c).drew;go_region_held3 (λw'=>(∀i,w'.cell? ⟨w.heap.size,i,none⟩=#[aj,am,an,ap,aq,ay,az,bf,C x B z,E H r.sg,E H (r.tm:Int)][i]?)/\(∀i,w'.cell? ⟨w.heap.size+1,i,none⟩=#[C L P M][i]?)) (first|grind|(go_keep;done)|(refine⟨?_,?_,?_,?_,?_,?_,?_,?_,?_,?_,?_,?_⟩<;>((repeat rw[JR O]);first|assumption|(go_keep;done))))
    (first
     |(go_at_call 27;refine(Qj.o _ hq).mono ?_;clear Qj;rintro e w5 ⟨v5,rfl,g5,ah⟩;have hq:=Bt hq ah;clear a b;obtain⟨a,b⟩:=Qe.o _ hq)
     |(go_at_call 9;refine(Ql.o _ hq _ g5).mono ?_;clear Ql g5;rintro e w6 ⟨v6,rfl,g6,ai⟩;have hq:=Bt hq ai;clear a b;obtain⟨a,b⟩:=Qe.o _ hq)
     |(go_at_call 72;refine(Qm.o _ hq _ g6).mono ?_;clear Qm g6;rintro e w7 ⟨Bp,Bq,xa,xl,xc,ya,yl,yc,rfl,k1,k2,k3,k4,bm⟩;have hq:=Bt hq bm;clear a b;obtain⟨a,b⟩:=Qe.o _ hq)
     |(go_at_call 71;refine(Qg.o _ _ _ _ _ _ _ _ _ k1 k2 k3 k4).mono ?_;clear Qg k1 k2 k3 k4;rintro e w8 ⟨v8,cj,rfl,o8,p8,bn⟩;have hq:=Bt hq bn;obtain⟨g,cap,rfl,hg,bz,ce,hE⟩:=GT.els o8 p8 Qn.o;clear o8 p8;clear a b;obtain⟨a,b⟩:=Qe.o _ hq))
   have HE:=Z hE;clear hE hg bz ce;go_wp2_with(go_at_call 73;refine(Qh.o _ hq _ _ HE.o).mono ?_;clear Qh;rintro e w9 ⟨rfl,bu⟩;have hq:=Bt hq bu)
   go_ret;exact⟨rfl,Bt Qb.o hq⟩
 . have hd:=BJ k;rw[hd]at m;clear hd;have HV:=Z (show Gi r=r.lo by unfold Gi;rw[BE k]);rw[HV.o]at m;have Qo:=Z (show Xe (ev q r.lo) 0=n by rw[<-HN.o,N3];unfold RtQ.sign;rw[BE k]);go_enter Tryz.func22,Tryz.ntmps22
   go_upto_region 1 with fail
   rw[Qd.o];clear Qd;go_upto_region 2 with(go_at_call 14;refine(m.o _ hq).mono ?_;clear m;rintro e w1 ⟨u1,rfl,u,ae⟩;have hq:=Bt hq ae;obtain⟨s9,T,l9,U,t9,b9,k9,W,rfl⟩:=Jf.form u;clear a b;obtain⟨a,b⟩:=o.o _ hq)
   obtain⟨c,f⟩:=ex (w1.alloc (.cells #[D s9,C T l9 U,D t9,C b9 k9 W] 41));obtain⟨B5,t⟩:=ex (w1.heap.size);have p:Bl w1 c:=by rw[<-f];exact Ba w1 _
   have n5:JQ c B5 41 (D s9) (C T l9 U) (D t9) (C b9 k9 W):=by rw[<-f,<-t];exact JQ.new w1 _ _ _ _ _
   have r5:=u.below p;rw[f,t];have hq:=Bt hq p
   clear a b;obtain⟨a,b⟩:=o.o _ hq;obtain⟨ck,cn,co,de⟩:=n5.cq;have Qi:=Z (kr _ _ q r.lo c (Q.o c hq).1 r5 d.o.sq (Sq.of S.o.lo (by have:=S.o.x2;omega)) (d.o.atk k).1);have Qf:=Z λ(V:F) (y:G) (hy:Jf V y (ev q r.lo))=>XF y _ (ev q r.lo) 0 V hy (Xx _) (d.o.atk k).2 FO;rw[Qo.o]at Qf;have Qb:=Z (Bt Qc.o hq);clear f t n5 r5 u p hq k;go_wp2_with(first
    |(go_at_call 70;refine Qi.o.mono ?_;clear Qi;rintro e w5 ⟨v5,rfl,g5,ah⟩)
    |(go_at_call 32;refine(Qf.o _ _ g5).mono ?_;clear Qf g5;rintro e w6 ⟨rfl,ai⟩;have hq:=Bt ah ai))
   go_ret;exact⟨rfl,Bt Qb.o hq⟩
theorem Z9(K A l X J:Nat)(v vs:G)(r s:RtQ)(w:F)(h:JL w v r)(hv:JL w vs s)(hz:RzOk J X r)(hy:RzOk J X s)(hs:SnOk K A l X r s.w)(hg:-1<=s.sg/\s.sg<=1)(hb:-1000000<=r.sign s.w/\r.sign s.w<=1000000):
 Calls Tryz.prog 24 #[v,vs] w λe w'=>e=.returned (E H (r.ord s))/\Bl w w':=by
 have h0:=h;have Qe:=hv;obtain⟨ai,aj,am,an,ap,aq,ay,az,pa,pl,pc,rfl,co,cn,pw⟩:=h;obtain⟨bi,bj,bm,bn,bu,bz,ce,cj,qa,ql,qc,rfl,bg,bf,qw⟩:=hv;obtain⟨W0,ah,np,nq,L⟩:=KO w 46 46 #[ai,aj,am,an,ap,aq,ay,az,C pa pl pc,E H r.sg,E H (r.tm:Int)] #[bi,bj,bm,bn,bu,bz,ce,cj,C qa ql qc,E H s.sg,E H (s.tm:Int)];obtain⟨P,n,M,W,H4,H5,d,Qc⟩:=IX ah (λ(V:F) (h:Bl W0 V)=>R4 J X _ s V ((Qe.below L).below h) hy) (λ(V:F) (h:Bl W0 V)=>R3 J X _ _ r s.lo V ((h0.below L).below h) ((bg.below L).below h) hz hy.lo) (λ(V:F) (h:Bl W0 V)=>R3 J X _ _ r s.hi V ((h0.below L).below h) ((bf.below L).below h) hz hy.hi) (λ(V:F) (h:Bl W0 V)=>rp K A l X J _ _ r s.w V ((h0.below L).below h) ((qw.below L).below h) hz hs) (λ(V:F) (h:Bl W0 V) (y:G) (hx:Jf V y s.lo)=>R3 J X _ y r s.lo V ((h0.below L).below h) hx hz hy.lo) (λ(V:F) (h:Bl W0 V)=>And.intro (np.below h).all ((nq.below h).all)) L;obtain⟨o,k⟩:=ex (r.ord s);rw[k];unfold RtQ.ord at k;obtain⟨n1,e1⟩:=ex (r.side s.lo);obtain⟨n2,e2⟩:=ex (r.side s.hi);obtain⟨n3,e3⟩:=ex (r.sign s.w);rw[e1,e2,e3]at k;rw[e1]at M H5;rw[e2]at W;rw[e3]at H4 hb;clear hz hy hs co cn pw bg bf qw h0 Qe np nq ah L e1 e2 e3;have hq:Bl W0 W0:=BB _ W0;obtain⟨a,b⟩:=d.o _ hq;by_cases U:s.lo<s.hi
 . rw[BF U]at k;have hd:decide (¬s.lo<s.hi)=false:=BM λh=>h U;rw[hd]at n;clear hd U H5;by_cases c1:n1<=0
   . rw[BF c1]at k;subst k;go_enter Tryz.func24,Tryz.ntmps24
     go_upto_region 1 with fail
     rw[P.o];clear P;go_upto_region 2 with(go_at_call 14;refine(n.o _ hq).mono ?_;clear n;rintro e w1 ⟨u1,rfl,j,Q⟩;have hq:=Bt hq Q;obtain⟨z,p,x,q,B,b9,u,t,rfl⟩:=Jf.form j;clear a b;obtain⟨a,b⟩:=d.o _ hq)
     obtain⟨m,c⟩:=ex (w1.alloc (.cells #[D z,C p x q,D B,C b9 u t] 41));obtain⟨B5,g⟩:=ex (w1.heap.size);have f:Bl w1 m:=by rw[<-c];exact Ba w1 _
     have R:JQ m B5 41 (D z) (C p x q) (D B) (C b9 u t):=by rw[<-c,<-g];exact JQ.new w1 _ _ _ _ _
     have S:=j.below f;rw[c,g];have hq:=Bt hq f
     clear a b;obtain⟨a,b⟩:=d.o _ hq;clear c g R S j f;go_wp2_with(first
      |(go_at_call 76;refine(M.o _ hq).mono ?_;clear M;rintro e w2 ⟨rfl,T⟩;have hq:=Bt hq T;clear a b;obtain⟨a,b⟩:=d.o _ hq))
     go_ret;exact⟨rfl,Bt Qc.o hq⟩
   . rw[BE c1]at k;by_cases c2:0<=n2
     . rw[BF c2]at k;subst k;go_enter Tryz.func24,Tryz.ntmps24
       go_upto_region 1 with fail
       rw[P.o];clear P;go_upto_region 2 with(go_at_call 14;refine(n.o _ hq).mono ?_;clear n;rintro e w1 ⟨u1,rfl,j,Q⟩;have hq:=Bt hq Q;obtain⟨z,p,x,q,B,b9,u,t,rfl⟩:=Jf.form j;clear a b;obtain⟨a,b⟩:=d.o _ hq)
       obtain⟨m,c⟩:=ex (w1.alloc (.cells #[D z,C p x q,D B,C b9 u t] 41));obtain⟨B5,g⟩:=ex (w1.heap.size);have f:Bl w1 m:=by rw[<-c];exact Ba w1 _
       have R:JQ m B5 41 (D z) (C p x q) (D B) (C b9 u t):=by rw[<-c,<-g];exact JQ.new w1 _ _ _ _ _
       have S:=j.below f;rw[c,g];have hq:=Bt hq f
       clear a b;obtain⟨a,b⟩:=d.o _ hq;clear c g R S j f;go_wp2_with(first
        |(go_at_call 76;refine(M.o _ hq).mono ?_;clear M;rintro e w2 ⟨rfl,T⟩;have hq:=Bt hq T;clear a b;obtain⟨a,b⟩:=d.o _ hq)
        |(go_at_call 76;refine(W.o _ hq).mono ?_;clear W;rintro e w3 ⟨rfl,ae⟩;have hq:=Bt hq ae;clear a b;obtain⟨a,b⟩:=d.o _ hq))
       go_ret;exact⟨rfl,Bt Qc.o hq⟩
     . rw[BE c2]at k;have dj:IntKind.i64.wrap (n3*s.sg)=o:=by
        have Q:-1000000<=n3*s.sg/\n3*s.sg<=1000000:=by
         obtain⟨g1,g2⟩:=hg;rcases(show s.sg=-1\/s.sg=0\/s.sg=1 by omega)with e|e|e<;>rw[e]<;>omega
        rw[BH,<-k];omega
       clear k hb hg;go_enter Tryz.func24,Tryz.ntmps24
       go_upto_region 1 with fail
       rw[P.o];clear P;go_upto_region 2 with(go_at_call 14;refine(n.o _ hq).mono ?_;clear n;rintro e w1 ⟨u1,rfl,j,Q⟩;have hq:=Bt hq Q;obtain⟨z,p,x,q,B,b9,u,t,rfl⟩:=Jf.form j;clear a b;obtain⟨a,b⟩:=d.o _ hq)
       obtain⟨m,c⟩:=ex (w1.alloc (.cells #[D z,C p x q,D B,C b9 u t] 41));obtain⟨B5,g⟩:=ex (w1.heap.size);have f:Bl w1 m:=by rw[<-c];exact Ba w1 _
       have R:JQ m B5 41 (D z) (C p x q) (D B) (C b9 u t):=by rw[<-c,<-g];exact JQ.new w1 _ _ _ _ _
       have S:=j.below f;rw[c,g];have hq:=Bt hq f
       clear a b;obtain⟨a,b⟩:=d.o _ hq;clear c g R S j f;go_upto_region 8 with(first
        |(go_at_call 76;refine(M.o _ hq).mono ?_;clear M;rintro e w2 ⟨rfl,T⟩;have hq:=Bt hq T;clear a b;obtain⟨a,b⟩:=d.o _ hq)
        |(go_at_call 76;refine(W.o _ hq).mono ?_;clear W;rintro e w3 ⟨rfl,ae⟩;have hq:=Bt hq ae;clear a b;obtain⟨a,b⟩:=d.o _ hq))
       obtain⟨Qg,H4,Qf⟩:=DX (λ(V:F) (h:Bl w3 V)=>d.o V (Bt hq h)) (λ(V:F) (h:Bl w3 V)=>H4.o V (Bt hq h)) (Bt Qc.o hq);clear d hq;have hq:Bl w3 w3.drew:=(BB _ w3).drew;go_region_held3 (λw'=>(∀i,w'.cell? ⟨w.heap.size,i,none⟩=#[ai,aj,am,an,ap,aq,ay,az,C pa pl pc,E H r.sg,E H (r.tm:Int)][i]?)/\(∀i,w'.cell? ⟨w.heap.size+1,i,none⟩=#[bi,bj,bm,bn,bu,bz,ce,cj,C qa ql qc,E H s.sg,E H (s.tm:Int)][i]?)) (first|grind|(go_keep;done)|(refine⟨?_,?_,?_,?_,?_,?_,?_,?_,?_,?_,?_,?_,?_,?_,?_,?_,?_,?_,?_,?_,?_,?_⟩<;>((repeat rw[JR O]);first|assumption|(go_keep;done))))
        (first
         |(go_at_call 22;refine(H4.o _ hq).mono ?_;clear H4;rintro e w4 ⟨rfl,ck⟩;have hq:=Bt hq ck;clear a b;obtain⟨a,b⟩:=Qg.o _ hq))
       go_wp2_with fail
       go_ret;exact⟨rfl,Bt Qf.o hq⟩
 . rw[BE U]at k;have hd:=BJ U;rw[hd]at n;have HV:=Z (show Gi s=s.lo by unfold Gi;rw[BE U]);rw[HV.o]at n;clear hd U M W H4;subst k;go_enter Tryz.func24,Tryz.ntmps24
   go_upto_region 1 with fail
   rw[P.o];clear P;go_upto_region 2 with(go_at_call 14;refine(n.o _ hq).mono ?_;clear n;rintro e w1 ⟨u1,rfl,j,Q⟩;have hq:=Bt hq Q;obtain⟨z,p,x,q,B,b9,u,t,rfl⟩:=Jf.form j;clear a b;obtain⟨a,b⟩:=d.o _ hq)
   obtain⟨m,c⟩:=ex (w1.alloc (.cells #[D z,C p x q,D B,C b9 u t] 41));obtain⟨B5,g⟩:=ex (w1.heap.size);have f:Bl w1 m:=by rw[<-c];exact Ba w1 _
   have R:JQ m B5 41 (D z) (C p x q) (D B) (C b9 u t):=by rw[<-c,<-g];exact JQ.new w1 _ _ _ _ _
   have S:=j.below f;rw[c,g];have hq:=Bt hq f
   clear a b;obtain⟨a,b⟩:=d.o _ hq;obtain⟨de,df,dh,di⟩:=R.cq;have H6:=Z (H5.o m hq _ S);clear H5 c g R S j f;go_wp2_with(first
    |(go_at_call 76;refine H6.o.mono ?_;clear H6;rintro e w2 ⟨rfl,T⟩;have hq:=Bt hq T))
   go_ret;exact⟨rfl,Bt Qc.o hq⟩
end M3
section
def IJ(P:Nat->Prop)(m:Nat):Prop:=P m/\∀j,P j->m<=j
variable{m:Nat}{P:Nat->Prop}
theorem Oi{n:Nat}(h:P n):∃m,IJ P m/\m<=n:=by
 induction n using Nat.strongRecOn with
 |_ n c=>
  by_cases a:∃j,j<n/\P j
  . grind
  . exact⟨n,⟨h,λj b=>Nat.le_of_not_lt λhl=>a ⟨j,hl,b⟩⟩,Aa _⟩
def aA(h:IJ P m):Classical.epsilon (IJ P)=m:=by
 have a:=Classical.epsilon_spec (p:=IJ P) ⟨m,h⟩;exact Fp (a.2 m h.1) (h.2 _ a.1)
def R8{Q:Nat->Prop}(h:IJ P (m+1))(hq:Q m):Classical.epsilon (IJ Q)<Classical.epsilon (IJ P):=by
 obtain⟨k,a,b⟩:=Oi hq;rw[aA h,aA a];omega
namespace M3
def G8(V:F)(B:Nat)(r:RtQ):Prop:=∃cs,Bx V B 46 cs/\JL V (I cs) r
section
variable {V W:World} {B:Nat} {r:RtQ}
def G8.below(h:G8 V B r)(a:Bl V W):G8 W B r:=by
 obtain⟨cs,b,c⟩:=h;exact⟨cs,b.below a,c.below a⟩
variable{t:TypeId}
theorem G8.open(h:G8 V B r):∃f a al b at_ ab d c bs g bl j l i k bd m o n,Bx V B 46 #[D f,C a al b,D at_,C ab d c,D bs,C g bl j,D l,C i k bd,C m o n,E H r.sg,E H (r.tm:Int)]/\JL V (I #[D f,C a al b,D at_,C ab d c,D bs,C g bl j,D l,C i k bd,C m o n,E H r.sg,E H (r.tm:Int)]) r/\Yp V (I #[D f,C a al b,D at_,C ab d c,D bs,C g bl j,D l,C i k bd]) r.lo r.hi/\Jf V (I #[D f,C a al b,D at_,C ab d c]) r.lo/\Jf V (I #[D bs,C g bl j,D l,C i k bd]) r.hi/\Je V (I #[C m o n]) r.w:=by
 obtain⟨cs,t,p⟩:=h;have u:=p;obtain⟨f,a,al,b,at_,ab,d,c,bs,g,bl,j,l,i,k,bd,m,o,n,e,q,v⟩:=JL.form p;cases e;have s:=q;obtain⟨x0,x1,x2,x3,y0,y1,y2,y3,e,w,x⟩:=s;grind
def Bx.put11{x0 x1 x2 x3 y0 y1 y2 y3 p s u z0 a b c u0 u1 u2 u3 q t o:G}{y:TypeId}(h:Bx V B y #[z0,a,b,c,u0,u1,u2,u3,q,t,o]):Bx (Le V B x0 x1 x2 x3 y0 y1 y2 y3 p s u) B y #[x0,x1,x2,x3,y0,y1,y2,y3,p,s,u]:=by
 have h:=((((((((((h.set 0 x0).set 1 x1).set 2 x2).set 3 x3).set 4 y0).set 5 y1).set 6 y2).set 7 y3).set 8 p).set 9 s).set 10 u;simp only[List.setIfInBounds_toArray,List.set_cons_succ,List.set_cons_zero]at h;exact h
def G8.put{x0 x1 x2 x3 y0 y1 y2 y3 p s u:G}{b:RtQ}(h:G8 V B r)(c:JL V (I #[x0,x1,x2,x3,y0,y1,y2,y3,p,s,u]) b):G8 (Le V B x0 x1 x2 x3 y0 y1 y2 y3 p s u) B b:=by
 obtain⟨_,_,_,_,_,_,_,_,_,_,_,_,_,_,_,_,_,_,_,a,_⟩:=h.open;exact⟨_,a.put11,(Rz a ..).root c⟩
def Bx.far11{C:Nat}{cs:Array G}(h:Bx V C t cs)(a:C≠B)(x0 x1 x2 x3 y0 y1 y2 y3 p s u:G):Bx (Le V B x0 x1 x2 x3 y0 y1 y2 y3 p s u) C t cs:=(Ry.far C a).trans h
structure RtX(V:World)(B:Nat)(cs:Array Value)(r:RtQ):Prop where
 bx:Bx V B 46 cs
 is:JL V (.agg cs) r
variable {cs:Array Value}
def RtX.below(h:RtX V B cs r)(a:Bl V W):RtX W B cs r:=⟨h.bx.below a,h.is.below a⟩
def RtX.size(h:RtX V B cs r):cs.size=11:=by
 obtain⟨x0,x1,x2,x3,y0,y1,y2,y3,a,c,b,e,_⟩:=h.is;cases e;rfl
theorem RtX.set2(h:RtX V B cs r){C:Nat}{x y:G}(q:JC V C t x y)(_:JP x=true)(_:JP y=true)(a b:G)(d:∀k,He k≠t:=by intro k;cases k<;>decide)(f:Dn true≠t:=by decide):RtX ((V.setCell ⟨C,0,none⟩ a).setCell ⟨C,1,none⟩ b) B cs r:=by
 have hq:Bx V C t #[x,y]:=q;have c:B≠C:=λe=>by
  have g:=h.bx;rw[e,show Bx V C 46 cs=(V.heap[C]?=_)from rfl,show V.heap[C]?=_ from hq]at g;simp only[AR,DB]at g;have:=h.size;grind
 have i:=Oh hq d f 0 a;have j:=Oh (hq.set 0 a) d f 1 b;exact⟨(h.bx.far (p:=⟨C,0,none⟩) c a).far (p:=⟨C,1,none⟩) c b,(i.trans j).root h.is⟩
section
variable {x0 x1 x2 x3 y0 y1 y2 y3 p s u:Value}
def RtX.parts(h:RtX V B #[x0,x1,x2,x3,y0,y1,y2,y3,p,s,u] r):Jf V (I #[x0,x1,x2,x3]) r.lo/\Jf V (I #[y0,y1,y2,y3]) r.hi/\Je V (I #[p]) r.w/\Yp V (I #[x0,x1,x2,x3,y0,y1,y2,y3]) r.lo r.hi:=by
 obtain⟨a0,d,f,g,b0,i,j,k,l,n,m,e,a,b,c⟩:=h.is;cases e;exact⟨a,b,c,_,_,_,_,_,_,_,_,rfl,a,b⟩
def RtX.lo(h:RtX V B #[x0,x1,x2,x3,y0,y1,y2,y3,p,s,u] r):Jf V (I #[x0,x1,x2,x3]) r.lo:=h.parts.1
def RtX.hi(h:RtX V B #[x0,x1,x2,x3,y0,y1,y2,y3,p,s,u] r):Jf V (I #[y0,y1,y2,y3]) r.hi:=h.parts.2.1
def RtX.w(h:RtX V B #[x0,x1,x2,x3,y0,y1,y2,y3,p,s,u] r):Je V (I #[p]) r.w:=h.parts.2.2.1
end
theorem Je.put4{v:G}{p:List Rat}(h:Je V v p)(hl:2<=p.length){C:Nat}{t:TypeId}{x y z u:G}(q:JQ V C t x y z u)(r:JP x=true)(s:JP y=true)(w:JP z=true)(A:JP u=true)(L M P B:G):Je (Go.Proofs.YtdmmbgahnkbnaaaGreatDoor.put4 V C L M P B) v p:=by
 obtain⟨K,e,a,cap,i,m,n,o,d⟩:=h;refine⟨K,e,a,cap,i,m,n,o,?_⟩;rcases d with d|⟨b,j,f⟩
 . exact Or.inl d
 . refine Or.inr ⟨b,j,f.keep ?_ λ_ _ _ g=>Row.put4 g q r s w A _ _ _ _⟩;have c:b≠C:=λe=>by
    obtain⟨cs,k,l⟩:=f;obtain⟨x0,_,_,_,Q,_⟩:=l 1 O;rw[e,show V.heap[C]?=_ from q]at k;grind
   exact(BC _ _ _ b c).trans ((BC _ _ _ b c).trans ((BC _ _ _ b c).trans (BC _ _ _ b c)))
def JL.put4{v:G}(h:JL V v r)(hl:2<=r.w.length){C:Nat}{t:TypeId}{x y z u:G}(q:JQ V C t x y z u)(a:JP x=true)(b:JP y=true)(c:JP z=true)(d:JP u=true)(B K L A:G):JL (Go.Proofs.YtdmmbgahnkbnaaaGreatDoor.put4 V C B K L A) v r:=by
 obtain⟨a0,f,g,i,b0,j,k,l,p,w,s,e,m,n,o⟩:=h;exact⟨a0,f,g,i,b0,j,k,l,p,w,s,e,m.put4 q a b c d _ _ _ _,n.put4 q a b c d _ _ _ _,Je.put4 o hl q a b c d _ _ _ _⟩
def aB:∀(i:Nat) (r:RtQ),F2 (i+1) r=(F2 i r).hv:=by
 intro i;induction i with
 |zero=>intro r;rfl
 |succ i a=>intro r;exact a r.hv
theorem DJ.one{w V:F}{B:Nat}{cs:Array G}(d:Dat)(f:Bx V B d.ty cs)(g:Has V (I cs) d)(k:w.heap.size<=B)(a:Bl w V):DJ w V [some (B,d)]:=by
 refine⟨λi C e h=>?_,λi j C e b h c=>?_,a⟩
 . grind
 grind
end
end M3
end
namespace M3
structure SlOk(K X k:Nat)(r:RtQ):Prop where
 tw:Jc r.w=r.w
 w0:r.w≠[]
 lead:cf r.w (r.w.length-1)=(YP r.w:Rat)
 pos:0<YP r.w
 l2:2<=r.w.length
 smL:Sm X (YP r.w)
 it:∀i,i<=k->RzOk K X (F2 i r)/\DQ X (Da (F2 i r).lo (F2 i r).hi)
 stop:¬(1<J0 (Yj (YP r.w) k r).hi (YP r.w)-J0 (Yj (YP r.w) k r).lo (YP r.w)\/ev r.w (Yj (YP r.w) k r).lo=0)
 sz:K+r.w.length*(X+X+2)+X+X+K<=1000000000
structure TwX(V:World)(B1 B2:Nat)(cs:Array Value)(r:RtQ):Prop where
 x:RtX V B1 cs r
 z:Bx V B2 46 #[.bool false,.slice none 0 0,.bool false,.slice none 0 0,.bool false,.slice none 0 0,.bool false,.slice none 0 0,.slice none 0 0,.int .i64 0,.int .i64 0]
def TwX.below{V W:F}{B1 B2:Nat}{cs:Array G}{r:RtQ}(h:TwX V B1 B2 cs r)(a:Bl V W):TwX W B1 B2 cs r:=⟨h.x.below a,h.z.below a⟩
def TwX.alloc{V:F}{B1 B2:Nat}{cs:Array G}{r:RtQ}(h:TwX V B1 B2 cs r)(o:Obj):TwX (V.alloc o) B1 B2 cs r:=h.below (Ba V o)
theorem TwX.set2{V:F}{B1 B2:Nat}{cs:Array G}{r:RtQ}(h:TwX V B1 B2 cs r){C:Nat}{x y:G}(q:JC V C 39 x y)(f:JP x=true)(g:JP y=true)(a b:G):TwX ((V.setCell ⟨C,0,none⟩ a).setCell ⟨C,1,none⟩ b) B1 B2 cs r:=by
 have c:B2≠C:=λe=>by
  have d:=h.z;rw[e,show Bx V C 46 _=(V.heap[C]?=_)from rfl,show V.heap[C]?=_ from q]at d;grind
 exact⟨h.x.set2 q f g a b,(h.z.far (p:=⟨C,0,none⟩) c a).far (p:=⟨C,1,none⟩) c b⟩
theorem TwX.put4{V:F}{B1 B2:Nat}{cs:Array G}{r:RtQ}(h:TwX V B1 B2 cs r){C:Nat}{x y z u:G}(q:JQ V C 41 x y z u)(i:JP x=true)(j:JP y=true)(k:JP z=true)(l:JP u=true)(c d f b:G)(hl:2<=r.w.length:=by assumption):TwX (Go.Proofs.YtdmmbgahnkbnaaaGreatDoor.put4 V C c d f b) B1 B2 cs r:=by
 have far:∀ {B:Nat} {cs:Array G},Bx V B 46 cs->Bx (Go.Proofs.YtdmmbgahnkbnaaaGreatDoor.put4 V C c d f b) B 46 cs:=fun {B cs} g=>by
  have a:B≠C:=λe=>by
   rw[e,show Bx V C 46 _=(V.heap[C]?=_)from rfl,show V.heap[C]?=_ from q]at g;grind
  exact(((g.far (p:=⟨C,0,none⟩) a c).far (p:=⟨C,1,none⟩) a d).far (p:=⟨C,2,none⟩) a f).far (p:=⟨C,3,none⟩) a b
 exact⟨⟨far h.x.bx,JL.put4 h.x.is hl q i j k l c d f b⟩,far h.z⟩
def K6(w:F)(B1 B2 B3 K:Nat)(L:Int)(r:RtQ)(n:Nat)(V:F):Prop:=
 ∃b,G8 V B1 b/\Bx V B2 46 #[D false,C none 0 0,D false,C none 0 0,D false,C none 0 0,D false,C none 0 0,C none 0 0,.int H 0,.int H 0]/\(∃s a l c,Bx V B3 39 #[D s,C a l c]/\Jj V (I #[D s,C a l c]) L)/\Bl w V/\(∃i,b=F2 i r/\i+n=K)/\Yj L n b=Yj L K r
theorem ru(K X k:Nat)(v:G)(r:RtQ)(w:F)(h:JL w v r)(hs:SlOk K X k r):
 Calls Tryz.prog 122 #[v] w λe w'=>∃u,e=.returned u/\JL w' u (GJ k r)/\Bl w w':=by
 have h0:=h;obtain⟨am,aa,al,ac,at_,ab,ak,ad,bs,ba,bl,bc,bt,bb,bk,bd,pa,pl,pc,rfl,_,_⟩:=JL.form h;obtain⟨W0,bu,b1,n2,an⟩:=KO w 46 46 #[D am,C aa al ac,D at_,C ab ak ad,D bs,C ba bl bc,D bt,C bb bk bd,C pa pl pc,E H r.sg,E H (r.tm:Int)] #[D false,C none 0 0,D false,C none 0 0,D false,C none 0 0,D false,C none 0 0,C none 0 0,E H 0,E H 0];have n1:RtX W0 w.heap.size #[D am,C aa al ac,D at_,C ab ak ad,D bs,C ba bl bc,D bt,C bb bk bd,C pa pl pc,E H r.sg,E H (r.tm:Int)] r:=⟨b1,h0.below an⟩;have Qw:=Z bu;have Uc:=Ae.2 hs.w0;obtain⟨d,hd⟩:=ex (r.w.length-1:Nat);have Qo:(r.w.length:Int)-1=(d:Int):=O
 obtain⟨L,hL⟩:=ex (YP r.w);have Qs:=Z (show(cf r.w d).num=L by rw[<-hL,<-hd];rfl);have Qq:=Z λ(V:F) (y:G) (hy:Je V y r.w)=>Yv y r.w V hy;rw[Qo]at Qq;have Ql:=Z λ(V:F) (y:G) (hy:Je V y r.w)=>Hk y r.w (d:Int) V hy;rw[IH]at Ql;have HS:=Z hs;have M1:Hid (DJ w W0 []):=Z ⟨λi B z h=>by simp at h,λi j B z z' h=>by simp at h,an⟩;have q:=Z (And.intro n1 n2);have HL:=Z hL;clear h h0 hs bu an b1 n1 n2 Uc hd Qo hL;go_enter Tryz.func122,Tryz.ntmps122
 go_upto_region 1 with fail
 rw[Qw.o];refine Yx Dh [[],[0],[],[2],[3],[1,4,4],[5,5],[],[7,6,6,0,1,2,3,4,5,6,7]] [.eq (N (some ⟨w.heap.size,8,none⟩)),.eq (I #[C pa pl pc]),.eq (N (some ⟨w.heap.size,8,none⟩)),.eq (I #[C pa pl pc]),.eq (E H (d:Int)),.rat (cf r.w d),.int L,.ptr,.eq undef] [7,8] (λb v V=>DJ w V [nb b v 0 1 (.int 0) (.int L)]/\TwX V w.heap.size (w.heap.size+1) #[D am,C aa al ac,D at_,C ab ak ad,D bs,C ba bl bc,D bt,C bb bk bd,C pa pl pc,E H r.sg,E H (r.tm:Int)] r) ⟨(M1.o.none).drew,TwX.below ⟨q.o.1,q.o.2⟩ (BB _ W0).drew⟩ (SR (.vl rfl λ_ _=>⟨_,by refine DP ?_;go_simp,rfl⟩)<|SR (.vl rfl λh j=>⟨_,by have o:=j.2.x.bx.c (i:=8) rfl;refine DP ?_;rw[h.e 0];go_simp,rfl⟩)<|SR (.vl rfl λ_ _=>⟨_,by refine DP ?_;go_simp,rfl⟩)<|SR (.vl rfl λh j=>⟨_,by have o:=j.2.x.bx.c (i:=8) rfl;refine DP ?_;rw[h.e 2];go_simp,rfl⟩)<|SR (.cl λh j=>c1 (h.e 3) (rv (Qq.o _ _ j.2.x.w)))<|SR (.cl λh j=>c2 (h.e 1) (h.e 4) (Ql.o _ _ j.2.x.w))<|SR (.cl λh _=>Qs.o ▸ MT _ (cf r.w d) _ (h.g 5))<|SR (.wr rfl λ_ j=>GQ 0 j.1 (hT:=λm=>⟨m,j.2.alloc _⟩))<|SR (.wr rfl λh j=>FN 0 j.1 (h.g 6) (hp:=h.g 7) (hT:=λn m=>⟨m,j.2.set2 n rfl rfl _ _⟩)) Stp.end_)
  λf V2 hF M=>?_
 obtain⟨M,t⟩:=M;replace t:=Z t;refine DP ?_;rw[hF.e 0,hF.e 1,hF.e 2,hF.e 3,hF.e 4];obtain⟨B3,ap⟩:=hF.p 7;have M:=Dw M;simp only[ap]at M;rw[ap];have M2:=Z M;clear M hF ap;clear M1;have Qy:=Z (M2.o.ge 0 rfl);have ML:Hid (K6 w w.heap.size (w.heap.size+1) B3 k L r k V2):=Z ⟨r,⟨_,t.o.x.bx,t.o.x.is⟩,t.o.z,(by obtain⟨s,a,l,c,A,h2⟩:=M2.o.int (i:=0) rfl;exact⟨s,a,l,c,A,h2⟩),M2.o.2.2,⟨0,rfl,O⟩,rfl⟩;clear t M2;go_wp2;go_loopw [] (λwr=>∃n,K6 w w.heap.size (w.heap.size+1) B3 k L r n wr) λwr=>Classical.epsilon (IJ λn=>K6 w w.heap.size (w.heap.size+1) B3 k L r n wr)
 case atStart=>exact⟨k,ML.o⟩
 case round=>
  obtain⟨n0,cn⟩:=hrel;obtain⟨m,hm,_⟩:=Oi (P:=λn=>K6 w w.heap.size (w.heap.size+1) B3 k L r n wr) cn;obtain⟨g,bm,dh,⟨s3,a3,l3,c3,n3,i3⟩,hB,⟨i,hi,ce⟩,bz⟩:=hm.1;obtain⟨fs,fa,fl,fc,ft,fb,fk,fd,gs,ga,gl,gc,gt,gb,gk,gd,ha,hl,hc,bx,bn,de,cj,gn,co⟩:=bm.open;obtain⟨T,bi⟩:=HS.o.it i O;rw[<-hi]at T bi;have hw:g.w=r.w:=by rw[hi];exact(Of i r).1
  have Qp:Sm X L:=by rw[<-HL.o];exact HS.o.smL
  obtain⟨H1,H2,H3⟩:=DX (rH X _ _ g.lo g.hi L wr de i3 T.lo T.hi Qp (by have:=T.x2;omega)) (λ(V:F) (h:Bl wr V)=>Mw K X _ _ g.w g.lo V (co.below h) (cj.below h) T.wh T.lo (by have:=T.sz;omega)) λ(V:F) (h:Bl wr V)=>Zv K X _ g V (bn.below h) T bi;obtain⟨b1,ae⟩:=ex (decide (1<J0 g.hi L-J0 g.lo L));obtain⟨g1,bf⟩:=ex (DW (ev g.w g.lo));rw[ae]at H1;rw[bf]at H2;obtain⟨q,Qf,HM,HI,HQ,Ua,Qu,HW⟩:=IX (λ(V:F) (h:Bl wr V)=>And.intro (bx.below h) (And.intro (dh.below h) (And.intro (n3.below h) (i3.below h)))) hB hm (And.intro hi ce) bz bm bn hw;obtain⟨Qz,Ub,U⟩:=DX ae bf T;have R:=Z λ(V:F) (h:Bl wr V)=>And.intro (q.o V h).1.all (And.intro (q.o V h).2.2.1.all (q.o V h).1.f);have hq:Bl wr wr:=BB _ wr;obtain⟨o,p,fr⟩:=R.o _ hq;clear cn hm bm dh n3 i3 hB hi ce bz bx bn de cj gn co T bi hw Qp ae bf;have Qc:(1<J0 g.hi L-J0 g.lo L\/ev g.w g.lo=0)↔(b1=true\/b1=false/\g1=0):=by
   rw[<-Qz.o,<-Ub.o,XG,Bw,Bk];grind
  by_cases ah:1<J0 g.hi L-J0 g.lo L\/ev g.w g.lo=0
  . obtain⟨m',rfl⟩:∃m',m=m'+1:=by
     cases m with
     |succ m'=>exact⟨m',rfl⟩
     |zero=>
      have A:=HQ.o;rw[Yj]at A;have h2:=HS.o.stop;rw[HL.o,<-A,<-HW.o]at h2;exact absurd ah h2
    have Qx:=Z (show Yj L m' g.hv=Yj L k r by have A:=HQ.o;rw[Yj,BF ah]at A;exact A);replace Qc:=Qc.1 ah;clear ah;rcases Qc with rfl|⟨rfl,rfl⟩
    all_goals
     go_wp2_with(first
      |(go_at_call 198;refine H1.o.mono ?_;rintro e w1 ⟨rfl,ae⟩;have hq:=Bt hq ae;clear o p fr;obtain⟨o,p,fr⟩:=R.o _ hq)
      |(go_at_call 121;refine(H2.o _ hq).mono ?_;rintro e w2 ⟨rfl,ay⟩;have hq:=Bt hq ay;clear o p fr;obtain⟨o,p,fr⟩:=R.o _ hq)
      |(go_at_call 67;refine(H3.o _ hq).mono ?_;rintro e w3 ⟨u3,rfl,df,gj⟩;have hq:=Bt hq gj;obtain⟨ei,di,ed,dt,fg,dj,dz,dx,NC,fh,gh,fm,gi,fi,fx,fo,gq,gu,gr,rfl,_,_⟩:=JL.form df;clear o p fr;obtain⟨o,p,fr⟩:=R.o _ hq))
     obtain⟨q1,q2,q3,q4⟩:=q.o _ hq;have Qh:w.heap.size+1≠w.heap.size:=O
     have Qg:B3≠w.heap.size:=λe=>by rw[e,show Bx w3 w.heap.size 39 _=(w3.heap[w.heap.size]?=_)from rfl,show w3.heap[w.heap.size]?=_ from q1]at q3;simp only[AR,DB]at q3;exact absurd q3.2.1 DK
     have kk:=Rz q1 (D ei) (C di ed dt) (D fg) (C dj dz dx) (D NC) (C fh gh fm) (D gi) (C fi fx fo) (C gq gu gr) (E H g.hv.sg) (E H (g.hv.tm:Int));have Qk:=(show K6 w w.heap.size (w.heap.size+1) B3 k L r m' _ from⟨g.hv,G8.put (Ua.o.below hq) df,q2.far11 Qh _ _ _ _ _ _ _ _ _ _ _,⟨s3,a3,l3,c3,q3.far11 Qg _ _ _ _ _ _ _ _ _ _ _,kk.int q4⟩,R1 (Bt Qf.o hq) (Aa _) _ _ _ _ _ _ _ _ _ _ _,⟨i+1,by rw[aB,<-HI.o.1],by have:=HI.o.2;omega⟩,Qx.o⟩);go_roundw
     case rel=>exact⟨m',Qk⟩
     case measure=>exact R8 (P:=λn=>K6 w w.heap.size (w.heap.size+1) B3 k L r n wr) (Q:=λn=>K6 w w.heap.size (w.heap.size+1) B3 k L r n _) HM.o Qk
  . have Qc:b1=false/\¬g1=0:=by
     grind
    obtain⟨rfl,ai⟩:=Qc;have Qm:(g1==0)=false:=by simpa using ai
    have HE:=Z (show g=Yj L k r by
     have A:=HQ.o;cases m with
      |zero=>exact A
      |succ m=>rw[Yj,BE ah]at A;exact A)
    clear ai ah;go_upto_region 4 with(first
     |(go_at_call 198;refine H1.o.mono ?_;rintro e w1 ⟨rfl,ae⟩;have hq:=Bt hq ae;clear o p fr;obtain⟨o,p,fr⟩:=R.o _ hq)
     |(go_at_call 121;refine(H2.o _ hq).mono ?_;rintro e w2 ⟨rfl,ay⟩;have hq:=Bt hq ay;clear o p fr;obtain⟨o,p,fr⟩:=R.o _ hq))
    have gv:2<=g.w.length:=by rw[HW.o];exact HS.o.l2
    obtain⟨Qv,M9,Qt,Qd⟩:=Dt (show TwX w2 w.heap.size (w.heap.size+1) #[D fs,C fa fl fc,D ft,C fb fk fd,D gs,C ga gl gc,D gt,C gb gk gd,C ha hl hc,E H g.sg,E H (g.tm:Int)] g from⟨⟨(q.o _ hq).1,Qu.o.below hq⟩,(q.o _ hq).2.1⟩) (DJ.one (.int L) (q.o _ hq).2.2.1 (q.o _ hq).2.2.2 Qy.o (Bt Qf.o hq)) (show decide (L≠0)=true from BJ (by have:=HS.o.pos;rw[HL.o]at this;omega)) (show Sm X L by rw[<-HL.o];exact HS.o.smL);have Qr:=Z (show Sm (X+X) (J0 g.hi L)from Sm.div (U.o.hi.1.mul Qd.o));clear o p fr hq Qm;refine Yx Dh [[],[0],[1],[],[2,3],[],[4,5,4],[6],[7],[7],[],[10,8,6,0,1,2,3,4,5,6,7,8,10],[9,11,0,1,2,3,4,5,6,7,8,9,10,11]] [.eq (N (some ⟨w.heap.size,0,none⟩)),.eq (N (some ⟨w.heap.size,4,none⟩)),.eq (I #[D gs,C ga gl gc,D gt,C gb gk gd]),.int L,.int (J0 g.hi L),.int L,.tup1 (.rat (Rat.divInt (J0 g.hi L) L)),.tup1 (.rat (Rat.divInt (J0 g.hi L) L)),.rat (Rat.divInt (J0 g.hi L) L),.eq (D true),.ptr,.eq undef,.eq (D true)] [10,11] (λb v V=>DJ w V [some (B3,.int L),nb b v 0 1 (.rat 0) (.rat (Rat.divInt (J0 g.hi L) L))]/\TwX V w.heap.size (w.heap.size+1) #[D fs,C fa fl fc,D ft,C fb fk fd,D gs,C ga gl gc,D gt,C gb gk gd,C ha hl hc,E H g.sg,E H (g.tm:Int)] g) ⟨(M9.o.none).drew,Qv.o.below (BB _ w2).drew⟩ (SR (.vl rfl λ_ _=>⟨_,by refine DP ?_;go_simp,rfl⟩)<|SR (.vl rfl λh _=>⟨_,by refine DP ?_;rw[h.e 0];go_simp,rfl⟩)<|SR (.vl rfl λh j=>⟨_,by have o:=And.intro (j.2.x.bx.c (i:=4) rfl) (And.intro (j.2.x.bx.c (i:=5) rfl) (And.intro (j.2.x.bx.c (i:=6) rfl) (j.2.x.bx.c (i:=7) rfl)));refine DP ?_;rw[h.e 1];go_simp,rfl⟩)<|SR (.vl rfl λ_ j=>Fqq 0 j.1)<|SR (.cl λh j=>c2 (h.e 2) rfl (Ru X _ _ g.hi L _ j.2.x.hi (h.g 3) U.o.hi Qd.o (by have:=U.o.x2;omega)))<|SR (.vl rfl λ_ j=>Fqq 0 j.1)<|SR (.cl λh _=>Ni (Qt.o ▸ Ib _ _ (J0 g.hi L) L _ (h.g 4) (h.g 5) (Sok.of Qr.o (by have:=U.o.x2;omega)) (Sok.of Qd.o (by have:=U.o.x2;omega))))<|SR (.vl rfl λh _=>mw (h.g 6))<|SR (.vl rfl λh _=>Nq (h.g 7))<|SR (.vl rfl λh _=>Ns (h.g 7))<|SR (.wr rfl λ_ j=>Nl 1 j.1 (hT:=λm=>⟨m,j.2.alloc _⟩))<|SR (.wr rfl λh j=>LP 1 j.1 (h.g 8) (hp:=h.g 10) (hT:=λn m=>⟨m,j.2.put4 n rfl rfl rfl rfl _ _ _ _⟩))<|SR (.vl rfl λh _=>aw (h.g 9)) Stp.end_)
     λf W hF M=>?_
    obtain⟨M,t⟩:=M;replace t:=Z t;refine DP ?_;rw[hF.e 0,hF.e 1,hF.e 2,hF.e 9,hF.e 12];obtain⟨B6,aq⟩:=hF.p 10;have M:=Dw M;simp only[aq]at M;rw[aq];have Qe:=Z M;clear M hF aq;clear M9;obtain⟨x,hx⟩:=ex (Rat.divInt (J0 g.hi L) L);have HX:=Z hx;rw[hx]at Qe;have Qn:=Z (show DQ (X+X) x by rw[<-HX.o];exact DQ.divInt (by have:=HS.o.pos;rw[HL.o]at this;omega) Qr.o (Qd.o.mono O));obtain⟨s4,a4,l4,c4,t4,b4,k4,d4,n4,r4,_,_⟩:=Qe.o.rat (i:=1) rfl;have q:=Z λ(V:F) (h:Bl W V)=>And.intro (t.o.x.bx.below h) (And.intro (t.o.z.below h) (And.intro (n4.below h) (And.intro (t.o.x.below h).lo (And.intro (t.o.x.below h).hi (And.intro (t.o.x.below h).w (r4.below h))))));have HB:=Z Qe.o.2.2;have Qj:¬B6=w.heap.size:=λe=>by have A:=n4;rw[e]at A;have h2:=t.o.x.bx;rw[show Bx W w.heap.size 46 _=(W.heap[w.heap.size]?=_)from rfl,show W.heap[w.heap.size]?=_ from A]at h2;simp only[AR,DB]at h2;exact absurd h2.2.1 DK
    have gw:¬w.heap.size=B6:=λe=>Qj e.symm;have gy:¬w.heap.size+1=w.heap.size:=O
    have ia:¬w.heap.size=w.heap.size+1:=O
    have H1:=Z λ(V:F) (h:Bl W V)=>XF _ _ x g.lo V (r4.below h) (t.o.x.below h).lo (Sq.of Qn.o (by have:=U.o.x2;omega)) (Sq.of U.o.lo (by have:=U.o.x2;omega));have H2:=Z λ(V:F) (h:Bl W V)=>Mw K (X+X) _ _ g.w x V (t.o.x.below h).w (r4.below h) U.o.wh Qn.o (by have A:=HS.o.sz;rw[<-HW.o]at A;omega);obtain⟨n5,bj⟩:=ex (Xe x g.lo);obtain⟨g5,bg⟩:=ex (DW (ev g.w x));rw[bj]at H1;rw[bg]at H2;obtain⟨HO,HG,Qi,R⟩:=Dt (show 0<n5↔g.lo<x by rw[<-bj,<-KD];rw[X7];have:=(Zm x).three g.lo;omega) (show g5=0↔ev g.w x=0 by rw[<-bg];exact XG) (show GJ k r=Hv L g by unfold GJ;rw[HL.o,HE.o]) λ(V:F) (h:Bl W V)=>And.intro (q.o V h).1.all (And.intro (q.o V h).2.1.all (And.intro (Bx.all (q.o V h).2.2.1) (And.intro (q.o V h).1.f (q.o V h).2.1.f)));have hq:Bl W W:=BB _ _;obtain⟨o,p,S,f0,f1⟩:=R.o _ hq;clear t Qe n4 r4 hx bj bg;by_cases ck:0<n5
    . by_cases ai:g5=0
      . subst ai;have Qb:=Z (show Hv L g=⟨x,x,g.w,0,g.tm⟩by unfold Hv;rw[HX.o,BF ⟨HO.o.1 ck,HG.o.1 rfl⟩]);go_upto_region 6 with(first
         |(go_at_call 32;refine(H1.o _ hq).mono ?_;rintro e w5 ⟨rfl,aj⟩;have hq:=Bt hq aj;clear o p S f0 f1;obtain⟨o,p,S,f0,f1⟩:=R.o _ hq)
         |(go_at_call 121;refine(H2.o _ hq).mono ?_;rintro e w6 ⟨rfl,az⟩;have hq:=Bt hq az;clear o p S f0 f1;obtain⟨o,p,S,f0,f1⟩:=R.o _ hq))
        obtain⟨⟨t0,t1,t2,t3⟩,⟨t5,t6,t7,t8⟩,t9,o0,o1⟩:=(q.o _ hq).1.r11;obtain⟨o2,o3,o5,o6⟩:=Bx.r4 (q.o _ hq).2.2.1;clear o S;go_region
        go_wp2_with fail
        obtain⟨b0,k6,_,_,_,m3,m4⟩:=q.o _ hq;exact BA (v:=I #[D s4,C a4 l4 c4,D t4,C b4 k4 d4,D s4,C a4 l4 c4,D t4,C b4 k4 d4,C ha hl hc,E H 0,E H (g.tm:Int)]) (by simp[results,Tryz.results122,go_sem,p]) rfl (rL (by rw[Qi.o,Qb.o];exact K4 b0.ty k6.ty m4 m4 m3 (Bt HB.o hq) (Aa _) O))
      . have Qm:(g5==0)=false:=by simpa using ai
        have Qb:=Z (show Hv L g=g by unfold Hv;rw[HX.o,BE λh=>ai (HG.o.2 h.2)]);go_wp2_with(first
         |(go_at_call 32;refine(H1.o _ hq).mono ?_;rintro e w5 ⟨rfl,aj⟩;have hq:=Bt hq aj;clear o p S f0 f1;obtain⟨o,p,S,f0,f1⟩:=R.o _ hq)
         |(go_at_call 121;refine(H2.o _ hq).mono ?_;rintro e w6 ⟨rfl,az⟩;have hq:=Bt hq az;clear o p S f0 f1;obtain⟨o,p,S,f0,f1⟩:=R.o _ hq))
        obtain⟨b0,k6,_,m1,m2,m3,_⟩:=q.o _ hq;exact BA (v:=I #[D fs,C fa fl fc,D ft,C fb fk fd,D gs,C ga gl gc,D gt,C gb gk gd,C ha hl hc,E H g.sg,E H (g.tm:Int)]) (by simp[results,Tryz.results122,go_sem,p]) rfl (by rw[Qi.o,Qb.o];exact K4 b0.ty k6.ty m1 m2 m3 (Bt HB.o hq) (Aa _) O)
    . have Qb:=Z (show Hv L g=g by unfold Hv;rw[HX.o,BE λh=>ck (HO.o.2 h.1)]);go_wp2_with(go_at_call 32;refine(H1.o _ hq).mono ?_;rintro e w5 ⟨rfl,aj⟩;have hq:=Bt hq aj;clear o p S f0 f1;obtain⟨o,p,S,f0,f1⟩:=R.o _ hq)
      obtain⟨b0,k6,_,m1,m2,m3,_⟩:=q.o _ hq;exact BA (v:=I #[D fs,C fa fl fc,D ft,C fb fk fd,D gs,C ga gl gc,D gt,C gb gk gd,C ha hl hc,E H g.sg,E H (g.tm:Int)]) (by simp[results,Tryz.results122,go_sem,p]) rfl (by rw[Qi.o,Qb.o];exact K4 b0.ty k6.ty m1 m2 m3 (Bt HB.o hq) (Aa _) O)
def dT(m:Nat)(q:Rat):List UInt8:=XS (q.num*10^m/(q.den:Int)) m
def Xc(m:Nat):Nat->RtQ->RtQ
 |0,r=>r
 |k+1,r=>if dT m r.lo=dT m r.hi then r else Xc m k r.hv
structure DgOk(K X k m:Nat)(r:RtQ):Prop where
 it:∀i,i<=k->RzOk K X (F2 i r)/\DQ X (Da (F2 i r).lo (F2 i r).hi)
 stop:dT m (Xc m k r).lo=dT m (Xc m k r).hi
def K7(w:F)(B K m:Nat)(r:RtQ)(n:Nat)(V:F):Prop:=
 ∃a,G8 V B a/\Bl w V/\(∃i,a=F2 i r/\i+n=K)/\Xc m n a=Xc m K r
theorem R9(K X k m:Nat)(v:G)(r:RtQ)(n:Int)(w:F)(h:JL w v r)(hs:DgOk K X k m r)(hn:min (max n 0) 30=(m:Int))(aq:Lib.TabIs Tryz.prog w "internal/strconv.uint64pow10" .u64 Lib.pow10Tab):
 Calls Tryz.prog 19 #[v,E H n] w λe w'=>e=.returned (.string ⟨(dT m (Xc m k r).lo).toArray⟩)/\Bl w w':=by
 obtain⟨fs,fa,fl,fc,ft,fb,fk,fd,gs,ga,gl,gc,gt,gb,gk,gd,ha,hl,hc,rfl,_,_⟩:=JL.form h;obtain⟨W0,p⟩:=ex (w.alloc (.cells #[D fs,C fa fl fc,D ft,C fb fk fd,D gs,C ga gl gc,D gt,C gb gk gd,C ha hl hc,E H r.sg,E H (r.tm:Int)] 46));have z:Bl w W0:=by rw[<-p];exact Ba w _
 have ML:Hid (K7 w w.heap.size k m r k W0):=Z ⟨r,⟨_,by rw[<-p];exact Bx.new w _ _,h.below z⟩,z,⟨0,rfl,O⟩,rfl⟩;obtain⟨Qd,HT,HS⟩:=DX p aq hs;obtain⟨W,dx⟩:=ex (min n 30);have HM:=Z (show min (max W 0) 100=(m:Int)by omega);obtain⟨S,B⟩:=ex ((⟨(dT m (Xc m k r).lo).toArray⟩:ByteArray):ByteArray);rw[B];have Ql:=Z B;clear h hs aq p z hn B;go_enter Tryz.func19,Tryz.ntmps19
 go_upto_region 1 with fail
 rw[Qd.o];clear Qd;go_wp2;go_loopw [] (λwr=>∃q,K7 w w.heap.size k m r q wr) λwr=>Classical.epsilon (IJ λq=>K7 w w.heap.size k m r q wr)
 case atStart=>exact⟨k,ML.o⟩
 case round=>
  obtain⟨q0,an⟩:=hrel;obtain⟨q,R,_⟩:=Oi (P:=λq=>K7 w w.heap.size k m r q wr) an;obtain⟨a,U,o,⟨i,hi,aj⟩,ah⟩:=R.1;obtain⟨xs,xa,xl,xc,xt,xb,xk,xd,ys,ya,yl,yc,yt,yb,yk,yd,za,zl,zc,bx,ap,bi,am,ai,bg⟩:=U.open;obtain⟨d,T⟩:=HS.o.it i O;rw[<-hi]at d T;obtain⟨g,s,t⟩:=DX (λ(V:F) (h:Bl wr V)=>Q3 _ a.lo W m V (am.below h) (Sq.of d.lo (by have:=d.x2;omega)) HM.o (I6 HT.o (Bt o h))) (λ(V:F) (h:Bl wr V)=>Q3 _ a.hi W m V (ai.below h) (Sq.of d.hi (by have:=d.x2;omega)) HM.o (I6 HT.o (Bt o h))) λ(V:F) (h:Bl wr V)=>Zv K X _ a V (ap.below h) d T;obtain⟨A,L⟩:=ex ((⟨(dT m a.lo).toArray⟩:ByteArray):ByteArray);obtain⟨S2,ae⟩:=ex ((⟨(dT m a.hi).toArray⟩:ByteArray):ByteArray);rw[show(⟨(XS (a.lo.num*10^m/(a.lo.den:Int)) m).toArray⟩:ByteArray)=A from L]at g;rw[show(⟨(XS (a.hi.num*10^m/(a.hi.den:Int)) m).toArray⟩:ByteArray)=S2 from ae]at s;obtain⟨c9,dt⟩:=ex ((A.toList==S2.toList):Bool);have Qf:=Z (show c9=true↔dT m a.lo=dT m a.hi by grind[ByteArray.toList_mk]);have Qh:=Z L;have H5:=g;obtain⟨HN,Qa,Qk,HI,x,Qg⟩:=IV (λ(V:F) (h:Bl wr V)=>bx.below h) o R (And.intro hi aj) ah U;have j:=Z λ(V:F) (h:Bl wr V)=>(HN.o V h).all;have l:=Z (show ∀V:F,Bl wr V->∀i,V.frozen? ⟨w.heap.size,i,none⟩=false from λV h i=>(HN.o V h).f i);clear an R U o hi aj ah bx ap bi am ai bg d T L ae ML;have c:=j.o _ (BB _ wr);have fr:=l.o _ (BB _ wr);go_upto_region 2 with fail
  have hq:Bl wr wr.drew:=(BB _ wr).drew;go_region_held3 (λw'=>∀i,w'.cell? ⟨w.heap.size,i,none⟩=#[D xs,C xa xl xc,D xt,C xb xk xd,D ys,C ya yl yc,D yt,C yb yk yd,C za zl zc,E H a.sg,E H (a.tm:Int)][i]?) (first|(with_reducible exact c)|(go_keep;done))
   (first
    |(go_at_call 33;refine(g.o _ hq).mono ?_;clear g;rintro e w1 ⟨rfl,az⟩;have hq:=Bt hq az;clear c fr;have c:=j.o _ hq;have fr:=l.o _ hq)
    |(go_at_call 33;refine(s.o _ hq).mono ?_;clear s;rintro e w2 ⟨rfl,bf⟩;have hq:=Bt hq bf;clear c fr;have c:=j.o _ hq;have fr:=l.o _ hq))
  cases c9 with
  |false=>
   have y:¬dT m a.lo=dT m a.hi:=λh=>by have:=Qf.o.2 h;cases this
   obtain⟨f,rfl⟩:∃f,q=f+1:=by
    cases q with
    |succ f=>exact⟨f,rfl⟩
    |zero=>
     have b:=x.o;rw[Xc]at b;have h2:=HS.o.stop;rw[<-b]at h2;exact absurd h2 y
   have Qj:=Z (show Xc m f a.hv=Xc m k r by have b:=x.o;rw[Xc,BE y]at b;exact b);clear y;go_wp2_with(go_at_call 67;refine(t.o _ hq).mono ?_;clear t;rintro e w3 ⟨u3,rfl,ay,M⟩;have hq:=Bt hq M;obtain⟨cj,bj,ce,bn,ck,bm,bz,bu,NC,cn,di,de,dj,co,dh,df,dz,ei,ed,rfl,_,_⟩:=JL.form ay;clear c fr;have c:=j.o _ hq;have fr:=l.o _ hq)
   have Qe:=(show K7 w w.heap.size k m r f _ from⟨a.hv,G8.put (Qg.o.below hq) ay,R1 (Bt Qa.o hq) (Aa _) _ _ _ _ _ _ _ _ _ _ _,⟨i+1,by rw[aB,<-HI.o.1],by have:=HI.o.2;omega⟩,Qj.o⟩);go_roundw
   case rel=>exact⟨f,Qe⟩
   case measure=>exact R8 (P:=λq=>K7 w w.heap.size k m r q wr) (Q:=λq=>K7 w w.heap.size k m r q _) Qk.o Qe
  |true=>
   have HE:=Z (show a=Xc m k r by
    have b:=x.o;have he:=Qf.o.1 rfl;cases q with
     |zero=>exact b
     |succ q=>rw[Xc,BF he]at b;exact b)
   have Qi:=Z (show A=S by rw[<-Qh.o,<-Ql.o,HE.o]);have u:=Z λ(V:F) (h:Bl wr V)=>H5.o V h;rw[Qi.o]at u;clear t H5;go_wp2_with(go_at_call 33;refine(u.o _ hq).mono ?_;clear u;rintro e w3 ⟨rfl,M⟩;have hq:=Bt hq M)
   go_ret;exact⟨rfl,Bt Qa.o hq⟩
def rx(v:G)(ps:List Rat)(w:F)(h:Je w v ps)(tp:Jc ps=ps)(P:ps≠[])(aj:Sqs ps)(m:∀i,Sq (cf ps i/cf ps (ps.length-1))):
 Calls Tryz.prog 194 #[v] w λe w'=>∃u,e=.returned u/\Jf w' u (Yf ps)/\Bl w w':=by
 obtain⟨c,la,d,rfl⟩:=h.form;obtain⟨bf,ay,az,bg,_⟩:=h.row.forms;have s:=Jt tp P;obtain⟨n,hn⟩:=ex (ps.length-1:Nat);have Qh:(ps.length:Int)-1=(n:Int):=by have:=Ae.2 P;omega
 rw[hn]at s m;obtain⟨Qm,Qi,Qn,Qf,Qo,Qk⟩:=IV (show decide (cf ps n≠0)=true from BJ s) (show ∀i,Ir (EH ps i) (Yn (cf ps i/cf ps n))=EH ps (i+1)from λi=>by rw[EH,hn]) (show EH ps n+1=Yf ps by unfold Yf;rw[hn]) aj m (show ∀i,Sq (Yn (cf ps i/cf ps n))from λi=>mq (m i));have Qg:=Z (show ∀i,Sq (EH ps i)from λi=>by
  induction i with
   |zero=>exact FO
   |succ i ih=>rw[<-Qi.o];unfold Ir;split;exact Qk.o i;exact ih)
 have HP:=Z λ(V:F) (Q:Bl w V)=>h.below Q;have A:=Z λ(V:F) (Q:Bl w V)=>Yv (I #[C c la d]) ps V (h.below Q);rw[Qh]at A;obtain⟨W0,ae,k⟩:=IF 25 (.cell 25 (C c la d)) EO 41 (.rat 0) (Xx _) 41 (.rat (EH ps 0)) (Xx _) (w:=w);have bz:n<=1099511627776:=O
 clear h bf ay az bg hn Qh aj m s tp P;go_enter Tryz.func194,Tryz.ntmps194
 go_upto_region 2 with fail
 rw[ae.o];clear ae;have c0:=(k.o.cell (i:=0) rfl).1.cell;go_upto_region 3 with(go_at_call 26;refine(A.o _ k.o.2.2).mono ?_;rintro e w2 ⟨rfl,ah⟩)
 have ML:Hid (DJ w w2 [some (w.heap.size,.cell 25 (C c la d)),some (w.heap.size+1,.rat 0),some (w.heap.size+1+1,.rat (EH ps 0))]):=Z (k.o.below ah);clear c0 ah k;go_loopw [11] (λU wr=>∃i:Nat,i<=n/\U=E H (i:Int)/\Hid (DJ w wr [some (w.heap.size,.cell 25 (C c la d)),some (w.heap.size+1,.rat 0),some (w.heap.size+1+1,.rat (EH ps i))])) λU _=>n-(intOf U).toNat
 case atStart=>exact⟨0,As _,rfl,ML⟩
 case round=>
  obtain⟨i,hi,rfl,l⟩:=hrel;clear ML;by_cases bn:i<n
  . have bu:(i:Int)<(n:Int):=O
    go_upto_region 5 with fail
    refine Yx Dh [[],[],[0,1],[],[],[4,2],[3,5,5],[2,6,6],[7],[8],[8],[],[11,9,7,0,1,2,3,4,5,6,7,8,9,11],[10,12,0,1,2,3,4,5,6,7,8,9,10,11,12]] [.eq (I #[C c la d]),.eq (Value.int IntKind.i64 ↑i),.rat (cf ps i),.eq (I #[C c la d]),.eq (I #[C c la d]),.eq (E H (n:Int)),.rat (cf ps n),.tup1 (.rat (cf ps i/cf ps n)),.tup1 (.rat (cf ps i/cf ps n)),.rat (cf ps i/cf ps n),.eq (D true),.ptr,.eq undef,.eq (D true)] [11,12] (λb v V=>DJ w V [some (w.heap.size,.cell 25 (C c la d)),some (w.heap.size+1,.rat 0),some (w.heap.size+1+1,.rat (EH ps i)),nb b v 0 1 (.rat 0) (.rat (cf ps i/cf ps n))]) (l.o.none).drew (SR (.vl rfl λ_ j=>FT 0 j)<|SR (.vl rfl λ_ _=>mv)<|SR (.cl λh j=>c2 (h.e 0) (h.e 1) (by have q:=Hk _ ps (i:Int) _ (HP.o _ j.2.2);rw[IH]at q;exact q))<|SR (.vl rfl λ_ j=>FT 0 j)<|SR (.vl rfl λ_ j=>FT 0 j)<|SR (.cl λh j=>c1 (h.e 4) (rv (A.o _ j.2.2)))<|SR (.cl λh j=>c2 (h.e 3) (h.e 5) (by have q:=Hk _ ps (n:Int) _ (HP.o _ j.2.2);rw[IH]at q;exact q))<|SR (.cl λh _=>Ni (Qm.o ▸ QF _ _ (cf ps i) (cf ps n) _ (h.g 2) (h.g 6) (Qf.o.at i) (Qf.o.at n)))<|SR (.vl rfl λh _=>mw (h.g 7))<|SR (.vl rfl λh _=>Nq (h.g 8))<|SR (.vl rfl λh _=>Ns (h.g 8))<|SR (.wr rfl λ_ j=>Nl 3 j)<|SR (.wr rfl λh j=>LP 3 j (h.g 9) (hp:=h.g 11))<|SR (.vl rfl λh _=>aw (h.g 10)) Stp.end_)
     λf V2 hF a=>?_
    refine DP ?_;rw[hF.e 0,hF.e 1,hF.e 3,hF.e 4,hF.e 5,hF.e 10,hF.e 13];obtain⟨B3,R⟩:=hF.p 11;have a:=Dw a;simp only[R]at a;rw[R];have M3:=Z a;clear a hF R;clear l;go_upto_region 6 with fail
    refine Yx Dh [[],[],[1],[0,2,2],[3,3,0,1,2,3]] [.rat (EH ps i),.rat (cf ps i/cf ps n),.rat (Yn (cf ps i/cf ps n)),.rat (EH ps (i+1)),.eq undef] [4] (λb _ V=>DJ w V [some (w.heap.size,.cell 25 (C c la d)),some (w.heap.size+1,.rat 0),some (w.heap.size+1+1,if b.getD 0 false then .rat (EH ps (i+1))else .rat (EH ps i)),some (B3,.rat (cf ps i/cf ps n))]) M3.o.drew (SR (.vl rfl λ_ j=>EK 2 j)<|SR (.vl rfl λ_ j=>EK 3 j)<|SR (.cl λh _=>rE _ (cf ps i/cf ps n) _ (h.g 1) (Qo.o i))<|SR (.cl λh _=>by have q:=rF _ _ (EH ps i) (Yn (cf ps i/cf ps n)) _ (h.g 0) (h.g 2) (Qg.o i) (Qk.o i);rw[Qi.o]at q;exact q)<|SR (.wr rfl λh j=>LP 2 j (h.g 3)) Stp.end_)
     λf V5 hF a=>?_
    refine DP ?_;have a:=Dw a;have M4:=Z a;clear a hF;clear M3;go_wp2_with fail
    go_roundw
    case rel=>exact⟨i+1,O,by go_num,Z (M4.o.take 3)⟩
    case measure=>simp[intOf];omega
  . obtain rfl:i=n:=O
    have p:=Z λ(V:F)=>FM 1 O O V;have HB:=p;have r:=Z λ(V:F) (x y:G) (hx:Jj V x 1) (hy:Jj V y 1)=>Ib x y 1 1 V hx hy (Sok.of (Sm.one 1 O) O) (Sok.of (Sm.one 1 O) O);rw[show decide ((1:Int)≠0)=true from rfl,show Rat.divInt 1 1=1 from rfl]at r;go_upto_region 9 with(first
     |(go_at_call 35;refine(p.o _).mono ?_;clear p;rintro e w3 ⟨u3,rfl,t,ap⟩)
     |(go_at_call 35;refine(HB.o _).mono ?_;clear HB;rintro e w4 ⟨u4,rfl,bi,ai⟩;have t:=t.below ai)
     |(go_at_call 38;refine(r.o _ _ _ t bi).mono ?_;clear r;rintro e o ⟨u5,rfl,am,aq⟩;obtain⟨s9,K,X,L,t9,b9,W,M,rfl⟩:=Jf.form am))
    obtain⟨V6,T⟩:=ex (o.alloc (.cells #[D s9,C K X L,D t9,C b9 W M] 41));obtain⟨B6,S⟩:=ex (o.heap.size);have a:DJ w (o.alloc (.cells #[D s9,C K X L,D t9,C b9 W M] 41)) [some (w.heap.size,.cell 25 (C c la d)),some (w.heap.size+1,.rat 0),some (w.heap.size+1+1,.rat (EH ps i)),some (o.heap.size,.rat 1)]:=DJ.push (((l.o.below ap).below ai).below aq) (.rat 1) am;rw[T,S]at a;rw[T];rw[S];have M3:Hid (DJ w V6 [some (w.heap.size,.cell 25 (C c la d)),some (w.heap.size+1,.rat 0),some (w.heap.size+1+1,.rat (EH ps i)),some (B6,.rat 1)]):=Z (a);clear l;clear a T S;obtain⟨s7,a7,l7,c7,t7,b7,k7,d7,n7,r7,i7,j7⟩:=M3.o.rat (i:=2) rfl;have bj:=n7.kb;obtain⟨s8,a8,l8,c8,t8,b8,k8,d8,n8,r8,i8,j8⟩:=M3.o.rat (i:=3) rfl;have bm:=n8.kb;obtain⟨s9,K,X,L,t9,b9,W,M,g,r9,i9,j9⟩:=M3.o.rat (i:=1) rfl;have B:=g.kb;have Qj:=g.fb;have z:=Z (Kl _ _ (EH ps i) 1 V6 r7 r8 (Qg.o i) rD);rw[Qn.o]at z;go_wp2_with(go_at_call 104;refine z.o.mono ?_;clear z;rintro e w6 ⟨u6,rfl,an,hq⟩;obtain⟨s8,a8,l8,c8,t8,b8,k8,d8,rfl⟩:=Jf.form an;clear B;have B:=(g.below hq).kb;clear Qj;have Qj:=(g.below hq).fb)
    have Qp:=Bt M3.o.2.2 hq;have Ql:=M3.o.ge 1 rfl;exact BA (by simp[results,Tryz.results194,go_sem,B]) rfl ⟨_,rfl,an.put4 (g.below hq) rfl rfl rfl rfl _ _ _ _,Jv Qp Ql _ _ _ _⟩
def YB(B:Rat):Nat->Nat->Nat
 |0,i=>i
 |n+1,i=>if(2:Rat)^i<B then YB B n (i+1)else i
structure ArOk(X k:Nat)(p:List Rat):Prop where
 tp:Jc p=p
 p0:p≠[]
 sp:Sqs p
 sr:∀i,Sq (cf p i/cf p (p.length-1))
 sb:Sq (Yf p)
 sx:∀i,i<=k->DQ X ((2:Rat)^i)
 x2:X+X+2<=1000000000
 stop:¬(2:Rat)^(YB (Yf p) k 0)<Yf p
def ArI(w:F)(B2 B3 B4 k:Nat)(B:Rat)(n:Nat)(V:F):Prop:=
 ∃i,i+n=k/\YB B n i=YB B k 0/\Bx V B2 44 #[D false,C none 0 0,D false,C none 0 0,D false,C none 0 0,D false,C none 0 0]/\DJ w V [some (B3,.rat B),some (B4,.rat ((2:Rat)^i))]/\Bl w V
def ry{V:F}{B:Nat}{cs:Array G}(h:Bx V B 44 cs)(x0 x1 x2 x3 y0 y1 y2 y3:G):Kp V ((((((((V.setCell ⟨B,0,none⟩ x0).setCell ⟨B,1,none⟩ x1).setCell ⟨B,2,none⟩ x2).setCell ⟨B,3,none⟩ x3).setCell ⟨B,4,none⟩ y0).setCell ⟨B,5,none⟩ y1).setCell ⟨B,6,none⟩ y2).setCell ⟨B,7,none⟩ y3):=
 (((((((KP h 0 x0).trans (KP (h.set 0 x0) 1 x1)).trans (KP ((h.set 0 x0).set 1 x1) 2 x2)).trans (KP (((h.set 0 x0).set 1 x1).set 2 x2) 3 x3)).trans (KP ((((h.set 0 x0).set 1 x1).set 2 x2).set 3 x3) 4 y0)).trans (KP (((((h.set 0 x0).set 1 x1).set 2 x2).set 3 x3).set 4 y0) 5 y1)).trans (KP ((((((h.set 0 x0).set 1 x1).set 2 x2).set 3 x3).set 4 y0).set 5 y1) 6 y2)).trans (KP (((((((h.set 0 x0).set 1 x1).set 2 x2).set 3 x3).set 4 y0).set 5 y1).set 6 y2) 7 y3)
def sF{n B:Nat}{w V:F}(h:Below n w V)(a:n<=B)(x0 x1 x2 x3 y0 y1 y2 y3:G):Below n w ((((((((V.setCell ⟨B,0,none⟩ x0).setCell ⟨B,1,none⟩ x1).setCell ⟨B,2,none⟩ x2).setCell ⟨B,3,none⟩ x3).setCell ⟨B,4,none⟩ y0).setCell ⟨B,5,none⟩ y1).setCell ⟨B,6,none⟩ y2).setCell ⟨B,7,none⟩ y3):=
 (((((((h.setCell (p:=⟨B,0,none⟩) a _).setCell (p:=⟨B,1,none⟩) a _).setCell (p:=⟨B,2,none⟩) a _).setCell (p:=⟨B,3,none⟩) a _).setCell (p:=⟨B,4,none⟩) a _).setCell (p:=⟨B,5,none⟩) a _).setCell (p:=⟨B,6,none⟩) a _).setCell (p:=⟨B,7,none⟩) a _
def Bx.far4{V:F}{B C:Nat}{t:TypeId}{cs:Array G}(h:Bx V C t cs)(a:C≠B)(x0 x1 x2 x3:G):Bx (put4 V B x0 x1 x2 x3) C t cs:=
 (((h.far (p:=⟨B,0,none⟩) a _).far (p:=⟨B,1,none⟩) a _).far (p:=⟨B,2,none⟩) a _).far (p:=⟨B,3,none⟩) a _
theorem sG(X k:Nat)(v:G)(p:List Rat)(w:F)(h:Je w v p)(hs:ArOk X k p):
 Calls Tryz.prog 118 #[v] w λe w'=>∃u,e=.returned u/\Yp w' u (-((2:Rat)^YB (Yf p) k 0)) ((2:Rat)^YB (Yf p) k 0)/\Bl w w':=by
 obtain⟨pa,la,pc,rfl⟩:=h.form;obtain⟨W0,T⟩:=ex ((w.alloc (.cells #[C pa la pc] 25)).alloc (.cells #[D false,C none 0 0,D false,C none 0 0,D false,C none 0 0,D false,C none 0 0] 44));have Qe:Bl w W0:=by rw[<-T];exact(Ba w _).alloc (by simp only[Ax];omega) _
 have n1:Boxed W0 w.heap.size 25 (C pa la pc):=by rw[<-T];exact(BG w _ _).alloc _
 have W:Bx W0 (w.heap.size+1) 44 #[D false,C none 0 0,D false,C none 0 0,D false,C none 0 0,D false,C none 0 0]:=by
  have h:=Bx.new (w.alloc (.cells #[C pa la pc] 25)) 44 #[D false,C none 0 0,D false,C none 0 0,D false,C none 0 0,D false,C none 0 0];simp only[Ax]at h;rw[T]at h;exact h
 have Qj:=Z T;have b:=n1.cell;have y:=Z (rx _ p W0 (h.below Qe) hs.tp hs.p0 hs.sp hs.sr);obtain⟨B,A⟩:=ex (Yf p);obtain⟨H2,HS,Qg⟩:=DX (λ(V:F)=>Zo 1 O O V) hs A;rw[A]at y ⊢;have a:=Z (And.intro W Qe);clear h hs T Qe n1 W A;go_enter Tryz.func118,Tryz.ntmps118
 go_upto_region 1 with fail
 rw[Qj.o];go_upto_region 2 with(first
  |(go_at_call 194;refine y.o.mono ?_;rintro e w1 ⟨u1,rfl,R,aq⟩)
  |(go_at_call 195;refine(H2.o _).mono ?_;rintro e w2 ⟨u2,rfl,ap,ai⟩;have R:=R.below ai;have hq:=Bt aq ai;obtain⟨s1,a1,l1,c1,t1,b1,k1,d1,rfl⟩:=Jf.form R;obtain⟨s2,a2,l2,c2,t2,b2,k2,d2,rfl⟩:=Jf.form ap))
 have M0:DJ w w2 []:=⟨λi B z h=>by simp at h,λi j B z z' h=>by simp at h,Bt a.o.2 hq⟩;have M1:=DJ.push (DJ.push M0 (.rat B) R) (.rat ((2:Rat)^0)) (Has.alloc (d:=.rat ((2:Rat)^0)) (show Jf _ _ ((2:Rat)^0)by rw[Rat.pow_zero];exact ap) _);simp only[Ax]at M1;obtain⟨V2,ah⟩:=ex ((w2.alloc (.cells #[D s1,C a1 l1 c1,D t1,C b1 k1 d1] 41)).alloc (.cells #[D s2,C a2 l2 c2,D t2,C b2 k2 d2] 41));obtain⟨B3,ae⟩:=ex (w2.heap.size);have M2:DJ w V2 [some (B3,.rat B),some (B3+1,.rat ((2:Rat)^0))]:=by rw[<-ah,<-ae];exact M1
 have bg:w.heap.size+1<B3:=by rw[<-ae];have:=hq.size;have:=a.o.1.lt;omega
 have ML:Hid (ArI w (w.heap.size+1) B3 (B3+1) k B k V2):=Z ⟨0,O,rfl,by rw[<-ah];exact((a.o.1.below hq).alloc _).alloc _,M2,M2.2.2⟩;rw[ah,ae];clear M0 M1 M2 ah ae R ap hq aq ai b;go_loopw [] (λwr=>∃n,ArI w (w.heap.size+1) B3 (B3+1) k B n wr) λwr=>Classical.epsilon (IJ λn=>ArI w (w.heap.size+1) B3 (B3+1) k B n wr)
 case atStart=>exact⟨k,ML.o⟩
 case round=>
  obtain⟨n0,bf⟩:=hrel;obtain⟨m,hm,_⟩:=Oi (P:=λn=>ArI w (w.heap.size+1) B3 (B3+1) k B n wr) bf;obtain⟨i,az,ay,W,M,A⟩:=hm.1;have sx:=HS.o.sx i O;have S:=Sq.of sx (by have:=HS.o.x2;omega);have Qh:Sq B:=by rw[<-Qg.o];exact HS.o.sb
  obtain⟨s3,a3,l3,c3,t3,b3,k3,d3,K,r3,_,_⟩:=M.rat (i:=0) rfl;obtain⟨s4,a4,l4,c4,t4,b4,k4,d4,c,r4,_,_⟩:=M.rat (i:=1) rfl;obtain⟨y,H2,H3⟩:=DX (XF _ _ ((2:Rat)^i) B wr r4 r3 S Qh) (λ(V:F) (h:Bl wr V)=>Kl _ _ ((2:Rat)^i) ((2:Rat)^i) V (r4.below h) (r4.below h) S S) λ(V:F) (h:Bl wr V)=>KA _ _ 0 ((2:Rat)^i) V (Xx _) (r4.below h) FO S;rw[show(2:Rat)^i+(2:Rat)^i=(2:Rat)^(i+1)by rw[Rat.pow_succ];grind]at H2;rw[show(0:Rat)-(2:Rat)^i=-((2:Rat)^i)by grind]at H3;obtain⟨z,hz⟩:=ex (Xe ((2:Rat)^i) B);rw[hz]at y;obtain⟨HZ,HN,HM,HQ,Qd,L,HF⟩:=IW (show z<0↔(2:Rat)^i<B by rw[<-hz];exact Id) (λ(V:F) (h:Bl wr V)=>And.intro (W.below h) (And.intro (K.below h) (And.intro (c.below h) (And.intro (M.below h) (r4.below h))))) hm (And.intro az ay) A (show ∀V:F,Bl wr V->V.cell? ⟨B3,0,none⟩=some (D s3)/\V.cell? ⟨B3,1,none⟩=some (C a3 l3 c3)/\V.cell? ⟨B3,2,none⟩=some (D t3)/\V.cell? ⟨B3,3,none⟩=some (C b3 k3 d3)/\V.cell? ⟨B3+1,0,none⟩=some (D s4)/\V.cell? ⟨B3+1,1,none⟩=some (C a4 l4 c4)/\V.cell? ⟨B3+1,2,none⟩=some (D t4)/\V.cell? ⟨B3+1,3,none⟩=some (C b4 k4 d4)from λV h=>⟨(K.below h).c0,(K.below h).c1,(K.below h).c2,(K.below h).c3,(c.below h).c0,(c.below h).c1,(c.below h).c2,(c.below h).c3⟩) (show ∀V:F,Bl wr V->(V.frozen? ⟨B3+1,0,none⟩=false/\V.frozen? ⟨B3+1,1,none⟩=false/\V.frozen? ⟨B3+1,2,none⟩=false/\V.frozen? ⟨B3+1,3,none⟩=false)from λV h=>⟨(c.below h).f0,(c.below h).f1,(c.below h).f2,(c.below h).f3⟩);clear bf hm az ay W M A sx S Qh K r3 c r4 hz ML;have hq:Bl wr wr:=BB _ wr;obtain⟨l,b,o,q,g0,r,s,t⟩:=L.o _ hq;obtain⟨f0,f1,f2,f3⟩:=HF.o _ hq;by_cases an:z<0
  . have hl:=HZ.o.1 an;obtain⟨x,rfl⟩:∃x,m=x+1:=by
     cases m with
     |succ x=>exact⟨x,rfl⟩
     |zero=>
      have f:=HQ.o.2;rw[YB]at f;have h2:=HS.o.stop;rw[Qg.o,<-f]at h2;exact absurd hl h2
    have Qk:=Z (show YB B x (i+1)=YB B k 0 by have f:=HQ.o.2;rw[YB,BF hl]at f;exact f);clear hl;go_wp2_with(first
     |(go_at_call 32;refine y.o.mono ?_;rintro e g ⟨rfl,aj⟩;have hq:=Bt hq aj;clear l b o q g0 r s t f0 f1 f2 f3;obtain⟨l,b,o,q,g0,r,s,t⟩:=L.o _ hq;obtain⟨f0,f1,f2,f3⟩:=HF.o _ hq)
     |(go_at_call 104;refine(H2.o _ hq).mono ?_;rintro e w4 ⟨u4,rfl,U,am⟩;obtain⟨s5,a5,l5,c5,t5,b5,k5,d5,rfl⟩:=Jf.form U;have hq:=Bt hq am;clear l b o q g0 r s t f0 f1 f2 f3;obtain⟨l,b,o,q,g0,r,s,t⟩:=L.o _ hq;obtain⟨f0,f1,f2,f3⟩:=HF.o _ hq))
    obtain⟨q1,q2,q3,q4,q5⟩:=HN.o _ hq;have Qf:=(show ArI w (w.heap.size+1) B3 (B3+1) k B x _ from⟨i+1,by have:=HQ.o.1;omega,Qk.o,q1.far4 (B:=B3+1) O _ _ _ _,q4.putRat (i:=1) rfl U,Jv (Bt Qd.o hq) O _ _ _ _⟩);go_roundw
    case rel=>exact⟨x,Qf⟩
    case measure=>exact R8 (P:=λn=>ArI w (w.heap.size+1) B3 (B3+1) k B n wr) (Q:=λn=>ArI w (w.heap.size+1) B3 (B3+1) k B n _) HM.o Qf
  . have HE:=Z (show i=YB B k 0 by
     have f:=HQ.o.2;cases m with
      |zero=>exact f
      |succ m=>rw[YB,BE λh=>an (HZ.o.2 h)]at f;exact f)
    obtain⟨E,hE⟩:=ex ((2:Rat)^YB B k 0);go_upto_region 4 with(go_at_call 32;refine y.o.mono ?_;rintro e g ⟨rfl,aj⟩;have hq:=Bt hq aj;clear l b o q g0 r s t f0 f1 f2 f3;obtain⟨l,b,o,q,g0,r,s,t⟩:=L.o _ hq;obtain⟨f0,f1,f2,f3⟩:=HF.o _ hq)
    obtain⟨Ql,a,H4⟩:=DX (λ(V:F) (h:Bl g V)=>L.o V (Bt hq h)) (λ(V:F) (h:Bl g V)=>HN.o V (Bt hq h)) λ(V:F) (h:Bl g V)=>H3.o V (Bt hq h);have HJ:=Z (show ∀V:F,Bl g V->V.cell? ⟨w.heap.size+1,0,none⟩=some (D false)/\V.cell? ⟨w.heap.size+1,1,none⟩=some (C none 0 0)/\V.cell? ⟨w.heap.size+1,2,none⟩=some (D false)/\V.cell? ⟨w.heap.size+1,3,none⟩=some (C none 0 0)/\V.cell? ⟨w.heap.size+1,4,none⟩=some (D false)/\V.cell? ⟨w.heap.size+1,5,none⟩=some (C none 0 0)/\V.cell? ⟨w.heap.size+1,6,none⟩=some (D false)/\V.cell? ⟨w.heap.size+1,7,none⟩=some (C none 0 0)/\∀i,V.frozen? ⟨w.heap.size+1,i,none⟩=false from λV h=>⟨(a.o V h).1.c rfl,(a.o V h).1.c rfl,(a.o V h).1.c rfl,(a.o V h).1.c rfl,(a.o V h).1.c rfl,(a.o V h).1.c rfl,(a.o V h).1.c rfl,(a.o V h).1.c rfl,λi=>(a.o V h).1.f i⟩);have Qi:=Z (Bt Qd.o hq);have bi:¬B3+1=w.heap.size+1:=O
    clear hq f0 f1 f2 f3 hE an;obtain⟨j0,j1,j2,j3,j4,j5,j6,j7,fj⟩:=HJ.o _ (BB _ g);have hq:Bl g g.drew:=(BB _ g).drew;go_region_held3 (λw'=>w'.cell? ⟨B3+1,0,none⟩=some (D s4)/\w'.cell? ⟨B3+1,1,none⟩=some (C a4 l4 c4)/\w'.cell? ⟨B3+1,2,none⟩=some (D t4)/\w'.cell? ⟨B3+1,3,none⟩=some (C b4 k4 d4)) (first|grind|(go_keep;done)|(refine⟨?_,?_,?_,?_⟩<;>((repeat rw[JR O]);omega)))
     (first
      |(go_at_call 41;refine(H4.o _ hq).mono ?_;rintro e w4 ⟨u4,rfl,U,am⟩;obtain⟨s5,a5,l5,c5,t5,b5,k5,d5,rfl⟩:=Jf.form U;have hq:=Bt hq am;clear l b o q g0 r s t j0 j1 j2 j3 j4 j5 j6 j7 fj;obtain⟨l,b,o,q,g0,r,s,t⟩:=Ql.o _ hq;obtain⟨j0,j1,j2,j3,j4,j5,j6,j7,fj⟩:=HJ.o _ hq))
    go_wp2_with fail
    obtain⟨q1,q2,q3,q4,q5⟩:=a.o _ hq;have kk:=ry q1 (D s5) (C a5 l5 c5) (D t5) (C b5 k5 d5) (D s4) (C a4 l4 c4) (D t4) (C b4 k4 d4);exact BA (v:=I #[D s5,C a5 l5 c5,D t5,C b5 k5 d5,D s4,C a4 l4 c4,D t4,C b4 k4 d4]) (by simp[results,Tryz.results118,go_sem,j0,j1,j2,j3,j4,j5,j6,j7]) rfl ⟨_,rfl,by rw[<-HE.o];exact⟨_,_,_,_,_,_,_,_,rfl,kk.rat U,kk.rat q5⟩,sF (Bt Qi.o hq) O _ _ _ _ _ _ _ _⟩
def Dat.span(a b:Rat):Dat where
 ty:=44
 has V v:=Yp V v a b
 noPoly:=true
 below h hb:=h.below hb
 keep h hk _:=by
  obtain⟨x0,x1,x2,x3,y0,y1,y2,y3,e,c,d⟩:=h;exact⟨x0,x1,x2,x3,y0,y1,y2,y3,e,Xq.keep c hk,Xq.keep d hk⟩
section
variable {w V V':World} {bs:List (Option (Nat × Dat))} {i B:Nat} {ρ:Operand->Value} {x y:Operand} {dst:Option Tmp} {ty:TypeId} {ps:String} {af:Array Edge} {gd:Option (Nat × Bool)} {a b a0 b0 q:Rat} {v p1 u1:Value} {ds:List Dat} {T:World->Value->Prop} {d:Dat}
def DJ.stb(t:TypeId)(M:DJ w V bs)(h:bs[i]?=some (some (B,d))){cs:Array G}(a:Dat)(e:Bx V' B a.ty cs)(f:Has V (I cs) a)(S:Stb B V V':=by(repeat with_reducible apply Stb.s);exact Stb.r)(l:d.ty=t:=by rfl)(b:∀k,He k≠t:=by intro k;cases k<;>decide)(c:Dn true≠t:=by decide):DJ w V' (bs.set i (some (B,a)))/\∀v d,Has V v d->Has V' v d:=by
 obtain⟨⟨o,n,_⟩,m⟩:=M.1 i B d h;rw[l]at n;have k:=Rx n.ty S.far b c;exact⟨M.repl h a e f k.row (λB' t cs j g=>(S.far B' j).trans g) (S.bw _ _ m M.2.2) (Or.inr k.rowK) (Or.inr k.rowK),λv d g=>g.keep k.row (Or.inr k.rowK)⟩
def DJ.span(M:DJ w V bs)(h:bs[i]?=some (some (B,.span a b))):∃x0 x1 x2 x3 y0 y1 y2 y3,Bx V B 44 #[x0,x1,x2,x3,y0,y1,y2,y3]/\Jf V (I #[x0,x1,x2,x3]) a/\Jf V (I #[y0,y1,y2,y3]) b:=by
 obtain⟨⟨cs,n,x0,x1,x2,x3,y0,y1,y2,y3,e,c,d⟩,_⟩:=M.1 i B _ h;cases e;exact⟨_,_,_,_,_,_,_,_,n,c,d⟩
def Lf(i:Nat)(M:DJ w V bs)(h:bs[i]?=some (some (B,.span a b)):=by rfl)(hp:p1=N (some ⟨B,0,none⟩):=by rfl)(e:ρ x=p1:=by kernel_rfl):∃u,(execOp ρ { dst:=dst,op:=.load 44 x,type:=ty,pos:=ps,after:=af,guard:=gd }).run Tryz.prog V=.ok (.value u) V/\Has V u (.span a b):=by
 rw[hp]at e;obtain⟨x0,x1,x2,x3,y0,y1,y2,y3,n,c,d⟩:=M.span h;have f:=n.all;exact⟨_,by go_simp,⟨_,_,_,_,_,_,_,_,rfl,c,d⟩⟩
def Oj(i:Nat)(M:DJ w V bs)(hv:Has V u1 (.span a b))(h:bs[i]?=some (some (B,.span a0 b0)):=by rfl)(hp:p1=N (some ⟨B,0,none⟩):=by rfl)(j:ρ x=p1:=by kernel_rfl)(r:ρ y=u1:=by kernel_rfl)(hT:∀ {W},DJ w W (bs.set i (some (B,.span a b)))->T W undef:=by exact λm=>m):Wr ρ { dst:=none,op:=.store 44 x y,type:=ty,pos:=ps,after:=af,guard:=gd } V ds (.eq undef) T:=by
 rw[hp]at j;obtain⟨_,_,_,_,_,_,_,_,n,_,_⟩:=M.span h;have q:=n.all;have f0:=n.f;obtain⟨_,_,_,_,_,_,_,_,rfl,c,f⟩:=hv;obtain⟨x0,x1,l1,c1,x2,x3,l,c3,e⟩:=Jf.form c;cases e;obtain⟨y0,y1,o,d1,y2,y3,p,g,e⟩:=Jf.form f;cases e;have m:=DJ.stb 44 M h (.span a b) ((((((((n.set 0 (D x0)).set 1 (C x1 l1 c1)).set 2 (D x2)).set 3 (C x3 l c3)).set 4 (D y0)).set 5 (C y1 o d1)).set 6 (D y2)).set 7 (C y3 p g)) ⟨_,_,_,_,_,_,_,_,rfl,c,f⟩;exact⟨.skip,undef,_,by go_simp,Or.inr ⟨rfl,rfl⟩,rfl,λd v _ k=>m.2 v d k,hT m.1⟩
def aC(i:Nat)(M:DJ w V bs)(h:bs[i]?=some none:=by rfl)(hT:∀ {o},DJ w (V.alloc o) (bs.set i (some (V.heap.size,.span 0 0)))->T (V.alloc o) (N (some ⟨V.heap.size,0,none⟩)):=by exact λm=>m):Wr ρ { dst:=dst,op:=.alloc 44,type:=ty,pos:=ps,after:=af,guard:=gd } V ds .ptr T:=
 ⟨_,N (some ⟨V.heap.size,0,none⟩),_,by go_simp;exact rfl,Or.inl rfl,rfl,λ_ _ _ k=>k.alloc _,hT (M.fill h (.span 0 0) ⟨_,_,_,_,_,_,_,_,rfl,Xx V,Xx V⟩)⟩
def sH(i:Nat)(M:DJ w V bs)(hv:Has V u1 (.rat q))(hp:p1=N (some ⟨B,0,none⟩))(h:bs[i]?=some (some (B,.span a b)):=by rfl)(o:ρ x=p1:=by kernel_rfl)(p:ρ y=u1:=by kernel_rfl)(hT:∀ {W},DJ w W (bs.set i (some (B,.span q b)))->T W undef:=by exact λm=>m):Wr ρ { dst:=none,op:=.store 41 x y,type:=ty,pos:=ps,after:=af,guard:=gd } V ds (.eq undef) T:=by
 rw[hp]at o;obtain⟨x0,x1,x2,x3,y0,y1,y2,y3,n,_,j⟩:=M.span h;have r:=n.all;have f0:=n.f;obtain⟨s,f,l,c,t,g,k,d,e⟩:=Jf.form (show Jf V _ _ from hv);rw[e]at hv p;have m:=DJ.stb 44 M h (.span q b) ((((n.set 0 (D s)).set 1 (C f l c)).set 2 (D t)).set 3 (C g k d)) ⟨_,_,_,_,_,_,_,_,rfl,hv,j⟩;exact⟨.skip,undef,_,by go_simp,Or.inr ⟨rfl,rfl⟩,rfl,λd v _ k=>m.2 v d k,hT m.1⟩
def sI(i:Nat)(M:DJ w V bs)(hv:Has V u1 (.rat q))(hp:p1=N (some ⟨B,4,none⟩))(h:bs[i]?=some (some (B,.span a b)):=by rfl)(o:ρ x=p1:=by kernel_rfl)(p:ρ y=u1:=by kernel_rfl)(hT:∀ {W},DJ w W (bs.set i (some (B,.span a q)))->T W undef:=by exact λm=>m):Wr ρ { dst:=none,op:=.store 41 x y,type:=ty,pos:=ps,after:=af,guard:=gd } V ds (.eq undef) T:=by
 rw[hp]at o;obtain⟨x0,x1,x2,x3,y0,y1,y2,y3,n,j,_⟩:=M.span h;have r:=n.all;have f0:=n.f;obtain⟨s,f,l,c,t,g,k,d,e⟩:=Jf.form (show Jf V _ _ from hv);rw[e]at hv p;have m:=DJ.stb 44 M h (.span a q) ((((n.set 4 (D s)).set 5 (C f l c)).set 6 (D t)).set 7 (C g k d)) ⟨_,_,_,_,_,_,_,_,rfl,j,hv⟩;exact⟨.skip,undef,_,by go_simp,Or.inr ⟨rfl,rfl⟩,rfl,λd v _ k=>m.2 v d k,hT m.1⟩
end
def sJ(v:G)(a b:Rat)(w:F)(h:Yp w v a b)(n:Sq a)(o:Sq b)(hs:Sq (a+b)):
 Calls Tryz.prog 196 #[v] w λe w'=>∃u1 u2,e=.returned (.tuple #[u1,u2])/\Yp w' u1 a (Da a b)/\Yp w' u2 (Da a b) b/\Bl w w':=by
 obtain⟨x0,x1,x2,x3,y0,y1,y2,y3,rfl,q,p⟩:=h;obtain⟨W0,l,np,nq,z,u⟩:=Zn w 44 44 44 #[x0,x1,x2,x3,y0,y1,y2,y3] #[D false,C none 0 0,D false,C none 0 0,D false,C none 0 0,D false,C none 0 0] #[D false,C none 0 0,D false,C none 0 0,D false,C none 0 0,D false,C none 0 0];have d:Hid (DJ w W0 [some (w.heap.size,.span a b),some (w.heap.size+1,.span 0 0),some (w.heap.size+1+1,.span 0 0)]):=Z (by
  have h:=(((DJ.nil w).push (.span a b) (cs:=#[x0,x1,x2,x3,y0,y1,y2,y3]) ⟨_,_,_,_,_,_,_,_,rfl,q,p⟩).push (.span 0 0) ⟨_,_,_,_,_,_,_,_,rfl,Xx _,Xx _⟩).push (.span 0 0) ⟨_,_,_,_,_,_,_,_,rfl,Xx _,Xx _⟩;simp only[Ax]at h;rw[<-l];exact h)
 have m:=Z l;clear q p np nq z u l;go_enter Tryz.func196,Tryz.ntmps196
 go_upto_region 1 with fail
 rw[m.o];refine Yx Dh [[],[],[],[],[2,0,0,2,3],[3,1,4,0,1,2,3,4]]
  [.span a b,.span a b,.ptr,.ptr,.eq undef,.eq undef] [2,3,4,5] (λs v V=>DJ w V [some (w.heap.size,.span a b),some (w.heap.size+1,.span 0 0),some (w.heap.size+1+1,.span 0 0),nb s v 0 2 (.span 0 0) (.span a b),nb s v 1 3 (.span 0 0) (.span a b)]) d.o.none.none.drew (SR (.vl rfl λ_ j=>Lf 0 j)<|SR (.vl rfl λ_ j=>Lf 0 j)<|SR (.wr rfl λ_ j=>aC 3 j)<|SR (.wr rfl λ_ j=>aC 4 j)<|SR (.wr rfl λh j=>Oj 3 j (h.g 0) (hp:=h.g 2))<|SR (.wr rfl λh j=>Oj 4 j (h.g 1) (hp:=h.g 3)) Stp.end_)
  λf V hF c=>?_
 refine DP ?_;obtain⟨B4,g⟩:=hF.p 2;obtain⟨B5,k⟩:=hF.p 3;have c:=Dw c;rw[g,k];simp only[g,k]at c;have d:=Z c;clear hF c m g k;go_upto_region 2 with fail
 refine Yx Dh [[],[0],[],[2,1],[0,1],[4,1,3,0,1],[0,1,2,3,4,5],[6,3,5,0,1,2,3,4,5]]
  [.span a b,.rat (Da a b),.span a b,.rat (Da a b),.eq (N (some ⟨B4,4,none⟩)),.eq undef,.eq (N (some ⟨B5,0,none⟩)),.eq undef] [5,7] (λs _ V=>DJ w V [some (w.heap.size,.span a b),some (w.heap.size+1,.span 0 0),some (w.heap.size+1+1,.span 0 0),some (B4,.span a (if s.getD 0 false then Da a b else b)),some (B5,.span (if s.getD 1 false then Da a b else a) b)]) d.o.drew (SR (.vl rfl λ_ j=>Lf 0 j)<|SR (.cl λh _=>Od _ a b _ (h.g 0) n o hs)<|SR (.vl rfl λ_ j=>Lf 0 j)<|SR (.cl λh _=>Od _ a b _ (h.g 2) n o hs)<|SR (.vl rfl λ_ _=>⟨_,by refine DP ?_;go_simp,rfl⟩)<|SR (.wr rfl λh j=>sI 3 j (h.g 1) (h.e 4))<|SR (.vl rfl λ_ _=>⟨_,by refine DP ?_;go_simp,rfl⟩)<|SR (.wr rfl λh j=>sH 4 j (h.g 3) (h.e 6)) Stp.end_)
  λf V hF c=>?_
 refine DP ?_;have c:=Dw c;rw[hF.e 4,hF.e 6];have d:=Z c;clear hF c;go_upto_region 3 with fail
 refine Yx Dh [[],[],[0,0],[1,2,0,1,2]]
  [.span a (Da a b),.span (Da a b) b,.eq undef,.eq undef] [2,3] (λs _ V=>DJ w V [some (w.heap.size,.span a b),some (w.heap.size+1,if s.getD 0 false then .span a (Da a b)else .span 0 0),some (w.heap.size+1+1,if s.getD 1 false then .span (Da a b) b else .span 0 0),some (B4,.span a (Da a b)),some (B5,.span (Da a b) b)]) d.o.drew (SR (.vl rfl λ_ j=>Lf 3 j)<|SR (.vl rfl λ_ j=>Lf 4 j)<|SR (.wr rfl λh j=>Oj 1 j (h.g 0))<|SR (.wr rfl λh j=>Oj 2 j (h.g 1)) Stp.end_)
  λf V hF c=>?_
 have c:=Dw c;refine DP ?_;obtain⟨_,_,_,_,_,_,_,_,x,p1,A⟩:=c.span (i:=1) rfl;obtain⟨_,_,_,_,_,_,_,_,y,B,K⟩:=c.span (i:=2) rfl;have r:=x.all;have t:=y.all;go_wp2_with fail
 exact BA (by simp[results,Tryz.results196,go_sem,r,t]) rfl ⟨_,_,rfl,⟨_,_,_,_,_,_,_,_,rfl,p1,A⟩,⟨_,_,_,_,_,_,_,_,rfl,B,K⟩,c.2.2⟩
