import Derived.Test.YtcahejkcdcjjgaaGreatDoorQ25
set_option linter.all false
open Go.Value renaming slice->E,bool->F,pointer->C,string->L
open Go renaming World->G,Value->H
open Go.Obj renaming cells->B
open Go.Proofs.Tryz renaming prog->I
set_option maxRecDepth 99999
set_option maxHeartbeats 0
namespace Go.Proofs.YtcahejkcdcjjgaaGreatDoor
open Proofs.Tryz
open Go.RowKit Go.Shelf
attribute [local go_sem] Oper.semAt_some
def RR(n c:Nat)(w:G):Calls I 66 #[E none n c] w λe d=>e=.returned (E none 0 0)/\d=w:=by
 have f:∀(w:G) (a:TR) (n c b c':Nat),(binOp .eql 22 (E a n c) (E none b c')).run I w=.ok (F a.isNone) w:=λw a n c b c'=>Bq w _ _ a n c b c' underlying22;go_enter func66,ntmps66
 go_wp2;go_ret;exact⟨J,J⟩
def RS(p:Addr)(n c:Nat)(xs:List H)(w:G)(y:n<=1099511627776)(hl:xs.length=n*4)(g:∀j u,xs[j]?=some u->w.cell? (p.add j)=some u)(f:∀u∈xs,u.oneCell'=true):
 Calls I 66 #[E (some p) n c] w λe i=>∃b,e=.returned b/\i.ownsRow w.heap.size 38 4 b n xs/\Bl w i:=by
 obtain⟨x,m,s,t,v⟩:=Bg Tryz.infoRat;have D:∀(w:G) (a:TR) (n c d c':Nat),(binOp .eql 22 (E a n c) (E none d c')).run I w=.ok (F a.isNone) w:=λw a n c d c'=>Bq w _ _ a n c d c' underlying22;obtain⟨A,B,C⟩:=DY g f hl;clear g f hl;go_enter func66,ntmps66
 go_wp2_with(at_builtin;refine BN _ J _ _ 22 J w.heap.size 38 x (.agg #[F false,E none 0 0,F false,E none 0 0]) 4 64 underlying22 m s t v J DI _ _ _ J (World.ownsRow_made w #[] 0 (Aa _) (AH _) J) p n c xs J ?qc1 ?qc2 ?qc3 ?qc4 ?qc5 ?qc6 ?_)
 case qc1=>exact C.o
 case qc2=>intro j u o;exact Lib.cell?_alloc_some _ (A.o j u o)
 case qc3=>exact B.o
 case qc4=>unfold maxLen;omega
 case qc5=>omega
 case qc6=>simp
 intro b K r l z;go_wp2;go_ret;refine⟨b,J,by simpa using r,?_⟩;exact(Ba w _).grown l sp (by intro k q;simp[Value.ownBlock]at q;omega)
def RT(v:H)(qs:X)(w:G)(h:RowK true w v qs):Calls I 66 #[v] w λe f=>∃u,e=.returned u/\RowK true f u qs/\Io w.heap.size u/\Bl w f/\(u=E none 0 0\/∃g cap,u=E (some ⟨g,0,none⟩) qs.length cap/\w.heap.size<=g/\DR true f g qs):=by
 obtain⟨a,cap,rfl,D,K,m,i⟩:=h;rcases a with _|p
 . refine(RR _ _ w).mono ?_;rintro e f ⟨rfl,rfl⟩;have z:qs=[]:=by
    grind
   subst z;exact⟨_,J,RowK.nil _ _,λa l c e=>(by cases e),BB _ _,Al J⟩
 . have o:∃cs,Yg true w cs qs/\∀j u,cs[j]?=some u->w.cell? (p.add j)=some u:=by
    rcases i with i|⟨b,q,x⟩
    . rw[i];exact⟨[],Yg.nil _ _,λj u e=>by simp at e⟩
    . cases q;obtain⟨cs,d,k⟩:=x.cells;refine⟨cs,d,λj u e=>?_⟩;rw[Yj,Cd];exact k j u e
   obtain⟨cs,d,k⟩:=o;refine(RS p qs.length cap cs w m d.1 k d.one).mono ?_;rintro e f ⟨A,rfl,y,n⟩;obtain⟨s,_,t⟩:=RowK.owns (r:=true) y (d.below n) m;refine⟨A,J,s,λa l c e=>?_,n,t⟩;grind
def RU(v:H)(qs:X)(w:G)(h:RowK true w v qs)(hs:Sqs qs):
 Calls I 22 #[v] w λe n=>∃u,e=.returned u/\Yf n u (JE qs)/\Gf w.heap.size u/\Bl w n:=by
 obtain⟨a,l,c,rfl⟩:=h.form;have b0:=BI w 25 (E none 0 0);have b:Bl w (w.alloc (B #[E none 0 0] 25)):=Ba w _;obtain⟨W0,f⟩:=ex (w.alloc (B #[E none 0 0] 25));rw[f]at b0 b;obtain⟨o,i,g⟩:=DY f (RT _ qs W0 (h.below b)) λ(V:G) (v:H) (h:RowK true V v qs)=>Ip v qs V h hs;have m:=b0.cell;have f0:=b0.frozen;clear f h hs;go_enter func22,ntmps22
 go_upto_region 1 with fail
 rw[o.o];go_wp2_with(first
  |(go_at_call 66;refine i.o.mono ?_;clear i;rintro e N ⟨u,rfl,y,t,r,_⟩)
  |(go_at_call 65;refine(g.o _ _ y).mono ?_;clear g;rintro e P ⟨u2,rfl,k,x,s⟩;obtain⟨A,K,D,rfl⟩:=k.form;have j:=Bt r s;have d:=Jk b0 j;have m:=d.cell;have f0:=d.frozen))
 refine BA (v:=.agg #[E A K D]) (by simp[results,results22,go_sem,m]) J ⟨_,J,⟨_,J,FJ d _ k.row⟩,?_,(Bt b j).setCell (p:=⟨w.heap.size,0,none⟩) (Aa _) _⟩;intro q z c' e;have:=x W0.heap.size t q z c' e;have M:=b.size;omega
def RV{W:G}{B:Nat}(q:JA W B 38 (F false) (E none 0 0) (F false) (E none 0 0)){v:H}{p:Rat}(h:Jj W v p)(x y z u:H):Jj (put4 W B x y z u) v p:=h.put4 q J J J J _ _ _ _
def RW(v:H)(ps:X)(i:Int)(w:G)(h:Yf w v ps):
 Calls I 11 #[v,.int .i64 i] w λe o=>∃u,e=.returned u/\Jj o u (if i<0 then 0 else cf ps i.toNat)/\Bl w o:=by
 obtain⟨u,rfl,g⟩:=h;obtain⟨a,l,c,rfl⟩:=g.form;obtain⟨W0,b⟩:=ex ((w.alloc (B #[E a l c] 25)).alloc (B #[F false,E none 0 0,F false,E none 0 0] 38));have b0:Boxed W0 w.heap.size 25 (E a l c):=by rw[<-b];exact(BI w _ _).alloc _
 have s:JA W0 (w.heap.size+1) 38 (F false) (E none 0 0) (F false) (E none 0 0):=by rw[<-b];have:=JA.new (w.alloc (B #[E a l c] 25)) 38 (F false) (E none 0 0) (F false) (E none 0 0);simpa using this
 have j:Bl w W0:=by rw[<-b];exact(Ba w _).alloc sp _
 have d:=Z (RI _ ps i W0 (g.below j));obtain⟨q,m⟩:=ex ((if i<0 then 0 else cf ps i.toNat));rw[m]at d ⊢;have p:=Z b;have R:=b0.cell;clear b m g;go_enter func11,ntmps11
 go_upto_region 1 with fail
 rw[p.o];go_wp2_with(go_at_call 49;refine d.o.mono ?_;clear d;rintro e S ⟨u,rfl,n,k⟩;have f:=s.below k;obtain⟨z,A,D,K⟩:=f.cq;obtain⟨f0,f1,f2,f3⟩:=f.fq;obtain⟨P,r,N,x,Q,t,M,y,rfl⟩:=Jj.form n)
 exact BA (v:=.agg #[F P,E r N x,F Q,E t M y]) (by simp[results,results11,go_sem,z,A,D,K]) J ⟨_,J,RV f n _ _ _ _,Jo (Bt j k) O _ _ _ _⟩
namespace M3
def It(V:G)(t:H)(q:Rat):Prop:=∃v,t=.iface 38 v/\Jj V v q
def It.below{V V':G}{t:H}{q:Rat}(h:It V t q)(b:Bl V V'):It V' t q:=by
 obtain⟨v,e,a⟩:=h;exact⟨v,e,a.below b⟩
def RX(v:H)(V:G):(method 371 38 v "Times").run I V=.ok (41,v) V:=by kernel_rfl
def RY(v:H)(V:G):(method 371 38 v "Plus").run I V=.ok (40,v) V:=by kernel_rfl
def Iu(ps qs:X):Prop:=(∀i a,Sq (cf ps i*cf qs a))/\∀n i a k,Sq (cf (Y3 (Y4 ps qs n i) i (cf ps i) qs a) k)
def RZ(a b:TR)(o ca lb cb:Nat)(ps qs:List Rat)(w:G)(ha:RowK true w (E a o ca) ps)(hb:RowK true w (E b lb cb) qs)(aq:Sqs ps)(ay:Sqs qs)(an:Iu ps qs)(bn:ps.length+qs.length<=1099511627776):
 Calls I 68 #[E a o ca,E b lb cb] w λe w'=>∃v g,e=.returned v/\RowK true w' v g/\(∀c,cf g c=cf (E1 ps qs) c)/\Sqs g/\Io w.heap.size v/\Bl w w':=by
 obtain⟨ak,bh,bj,cj,s,t,aa,bb,ll,cc,kk,dd,hc⟩:=ha.forms;obtain⟨am,bi,bk,ck,s',t',bc,bd,bz,bf,bu,bg,aj⟩:=hb.forms;obtain⟨n,hn⟩:∃n:Nat,max (0:Int) ((o:Int)+(lb:Int)-1)=(n:Int):=⟨(max (0:Int) ((o:Int)+(lb:Int)-1)).toNat,O⟩;have cz:n<=1099511627776:=O
 obtain⟨HN,ce,HC,az,HP,HQ,HK,Qg⟩:=GL (show o+lb<=n+1 from by omega) (show o+lb=0\/n+1=o+lb from by omega) hc aj aq ay an ak;have Qh:=Z am;have Qs:=L5 n O w;have M0:DF w (w.alloc (B (XD n) 38)) [some (w.heap.size,.rats (List.replicate n 0))]:=M3.DF.push (M3.DF.nil w) (.rats (List.replicate n 0)) (by
  obtain⟨cs,r,h2⟩:=L6 n w;refine⟨XD n,J,λc hj=>?_⟩;rw[AZ]at hj;obtain⟨h0,r,h2,h3⟩:=L4 hj;exact⟨_,_,_,_,h0,r,h2,h3,by rw[YN];exact Dp _⟩)
 obtain⟨W0,ai⟩:=ex (w.alloc (B (XD n) 38));rw[ai]at M0 Qs;have Qq:=Z M0;clear M0 ai ha hb aq ay ak am bh bj bi bk an hc aj bn;go_enter func68,ntmps68
 go_wp2;go_loopw [20] (λi wr=>∃(k:Nat),k<=o/\i=.int .i64 (k:Int)/\Hid (DF w wr [some (w.heap.size,.rats (Y4 ps qs n k))])) λi _=>o-(intOf i).toNat
 case atStart=>exact⟨0,AH _,J,Qq⟩
 case round=>
  obtain⟨k,hk,rfl,q⟩:=hrel;by_cases bt:k<o
  . have cn:(k:Int)<(o:Int):=O
    obtain⟨W,bx,rfl,ae,u,x,y,z⟩:=HC.o k bt;have d:=q.o.2.2;have A:=Z (W.below d);replace u:=(d.cell (p:=⟨bx,_,none⟩) ae).trans u;replace x:=(d.cell (p:=⟨bx,_,none⟩) ae).trans x;replace y:=(d.cell (p:=⟨bx,_,none⟩) ae).trans y;replace z:=(d.cell (p:=⟨bx,_,none⟩) ae).trans z;clear W d;obtain⟨s1,T⟩:=ex (s k);obtain⟨t1,U⟩:=ex (t k);obtain⟨a1,M⟩:=ex (aa k);obtain⟨b1,N⟩:=ex (bb k);obtain⟨l1,R⟩:=ex (ll k);obtain⟨c1,P⟩:=ex (cc k);obtain⟨m1,S⟩:=ex (kk k);obtain⟨d1,Q⟩:=ex (dd k);rw[T,U,M,N,R,P,S,Q]at A;rw[T]at u;rw[M,R,P]at x;rw[U]at y;rw[N,S,Q]at z;clear T U M N R P S Q;go_upto_region 5 with fail
    have l:DF w (wr.alloc (B #[F s1,E a1 l1 c1,F t1,E b1 m1 d1] 38)) [some (w.heap.size,.rats (Y4 ps qs n k)),some (wr.heap.size,.rat (cf ps k))]:=M3.DF.push q.o (.rat (cf ps k)) A.o;obtain⟨V1,K⟩:=ex (wr.alloc (B #[F s1,E a1 l1 c1,F t1,E b1 m1 d1] 38));obtain⟨B1,D⟩:=ex (wr.heap.size);rw[K,D]at l;rw[K];rw[D];have Qt:=Z l;clear l K D q A u x y z;go_wp2_with fail
    go_loopw [27] (λi wr=>∃(c:Nat),c<=lb/\i=.int .i64 (c:Int)/\Hid (DF w wr [some (w.heap.size,.rats (Y3 (Y4 ps qs n k) k (cf ps k) qs c)),some (B1,.rat (cf ps k))])) λi _=>lb-(intOf i).toNat
    case atStart=>exact⟨0,AH _,J,Qt⟩
    case round=>
     obtain⟨c,hj,rfl,q⟩:=hrel;by_cases bm:c<lb
     . have cg:(c:Int)<(lb:Int):=O
       obtain⟨W,ad,rfl,ah,u,x,y,z⟩:=az.o c bm;have d:=q.o.2.2;have A:=Z (W.below d);replace u:=(d.cell (p:=⟨ad,_,none⟩) ah).trans u;replace x:=(d.cell (p:=⟨ad,_,none⟩) ah).trans x;replace y:=(d.cell (p:=⟨ad,_,none⟩) ah).trans y;replace z:=(d.cell (p:=⟨ad,_,none⟩) ah).trans z;clear W d;obtain⟨s2,T⟩:=ex (s' c);obtain⟨t2,U⟩:=ex (t' c);obtain⟨a2,M⟩:=ex (bc c);obtain⟨b2,N⟩:=ex (bd c);obtain⟨l2,R⟩:=ex (bz c);obtain⟨c2,P⟩:=ex (bf c);obtain⟨m2,S⟩:=ex (bu c);obtain⟨d2,Q⟩:=ex (bg c);rw[T,U,M,N,R,P,S,Q]at A;rw[T]at u;rw[M,R,P]at x;rw[U]at y;rw[N,S,Q]at z;clear T U M N R P S Q;go_upto_region 8 with fail
       have l:DF w (wr.alloc (B #[F s2,E a2 l2 c2,F t2,E b2 m2 d2] 38)) [some (w.heap.size,.rats (Y3 (Y4 ps qs n k) k (cf ps k) qs c)),some (B1,.rat (cf ps k)),some (wr.heap.size,.rat (cf qs c))]:=M3.DF.push q.o (.rat (cf qs c)) A.o;obtain⟨V2,K⟩:=ex (wr.alloc (B #[F s2,E a2 l2 c2,F t2,E b2 m2 d2] 38));obtain⟨B2,D⟩:=ex (wr.heap.size);rw[K,D]at l;rw[K];rw[D];have Qc:=Z l;clear l K D q A u x y z;have Qk:(k:Int)+(c:Int)<(n:Int):=by have:=HN.o;omega
       have Qe:(0:Int)<=(k:Int)+(c:Int):=O
       have Qd:=Z (show k+c<n by omega);have Qa:(k:Int)+(c:Int)=((k+c:Nat):Int):=O
       obtain⟨m,hm⟩:=ex (k+c);rw[hm]at Qd Qa;have HM:=Z hm;have cy:(m:Int)<(n:Int):=by have:=Qd.o;omega
       have de:IntKind.i64.wrap (m:Int)=(m:Int):=by rw[Bk];omega
       obtain⟨g,X⟩:=ex (Y3 (Y4 ps qs n k) k (cf ps k) qs c);rw[X]at Qc;obtain⟨Qf,Qm,Qr,Qp⟩:=Dl (show m<g.length by rw[<-X,X6,X7];exact Qd.o) X (show Sq (cf g m)by rw[<-X];exact HK.o.2 n k c m) (HK.o.1 k c);have Qj:=Qc.o.drew;clear hm X Qc Qk Qe;refine ED Dj [[],[],[],[1,2],[],[],[],[5,6],[4,7],[8],[9],[],[11],[],[12,13],[10,14,14],[0,3,0,1,2,3,4,5,6,7,8,9,10,11,12,13,14,15],[16,15,15,0,1,2,3,4,5,6,7,8,9,10,11,12,13,14,15]] [.eq (E (some ⟨w.heap.size,0,none⟩) n n),.eq (.int .i64 (k:Int)),.eq (.int .i64 (c:Int)),.eq (.int .i64 (m:Int)),.eq (E (some ⟨w.heap.size,0,none⟩) n n),.eq (.int .i64 (k:Int)),.eq (.int .i64 (c:Int)),.eq (.int .i64 (m:Int)),.eq (C (some ⟨w.heap.size,m*4,none⟩)),.rat (cf g m),.ifq (cf g m),.rat (cf ps k),.ifq (cf ps k),.rat (cf qs c),.rat (cf ps k*cf qs c),.rat (cf g m+cf ps k*cf qs c),.eq (C (some ⟨w.heap.size,m*4,none⟩)),.eq undef] [17] (λb _ V=>DF w V [some (w.heap.size,if b.getD 0 false then .rats (g.set m (cf g m+cf ps k*cf qs c))else .rats g),some (B1,.rat (cf ps k)),some (B2,.rat (cf qs c))]) Qj (WB (.vl J λ_ _=>mv)<|WB (.vl J λ_ _=>mv)<|WB (.vl J λ_ _=>mv)<|WB (.vl J λh _=>⟨_,by refine DP ?_;rw[h.e 1,h.e 2];go_simp,J⟩)<|WB (.vl J λ_ _=>mv)<|WB (.vl J λ_ _=>mv)<|WB (.vl J λ_ _=>mv)<|WB (.vl J λh _=>⟨_,by refine DP ?_;rw[h.e 5,h.e 6];go_simp,J⟩)<|WB (.vl J λh _=>⟨_,by refine DP ?_;rw[h.e 4,h.e 7];go_simp,J⟩)<|WB (.vl J λh j=>QL 0 j Qf.o (h.e 8))<|WB (.vl J λh _=>mi (h.g 9))<|WB (.vl J λ_ j=>Ea 1 j)<|WB (.vl J λh _=>mi (h.g 11))<|WB (.vl J λ_ j=>Ea 2 j)<|WB (.ci J fun {_ V _} h j=>by obtain⟨y0,e,g0⟩:=h.g 12;have Qo:=RX y0 V;exact⟨_,by refine DP ?_;rw[e];go_simp,Q8 _ _ (cf ps k) (cf qs c) V g0 (h.g 13) (HP.o.at k) (HQ.o.at c)⟩)<|WB (.ci J fun {_ V _} h j=>by obtain⟨y0,e,g0⟩:=h.g 10;have Qo:=RY y0 V;exact⟨_,by refine DP ?_;rw[e];go_simp,Im _ _ (cf g m) (cf ps k*cf qs c) V g0 (h.g 14) Qr.o Qp.o⟩)<|WB (.vl J λh _=>⟨_,by refine DP ?_;rw[h.e 0,h.e 3];go_simp,J⟩)<|WB (.wr J λh j=>QM 0 j Qf.o (h.g 15) (h.e 16)) Stp.end_)
        λf V hF l=>?_
       refine DP ?_;rw[hF.e 0,hF.e 1,hF.e 2,hF.e 3,hF.e 4,hF.e 5,hF.e 6,hF.e 7,hF.e 8,hF.e 16];have l:=FG l;have Qn:=Z l;clear l hF;go_wp2_with fail
       go_roundw
       case rel=>
        refine⟨c+1,O,by go_num,Z ?_⟩;have r:=Qn.o.take 2;rw[<-HM.o,<-Qm.o]at r;exact r
       case measure=>simp[intOf];omega
     . have Ql:c=lb:=O
       subst Ql;go_wp2_with fail
       go_roundw
       case rel=>
        refine⟨k+1,O,by go_num,Z ?_⟩;have r:=q.o.take 1;rw[Qh.o]at r;exact r
       case measure=>simp[intOf];omega
  . have Qi:k=o:=O
    subst Qi;go_wp2;go_ret;have hE:=q.o.rats (i:=0) J;have co:=X7 ps qs n k;have Qb:=hE.row (n:=n) (cap:=n) O (Aa _) O O;rw[Ac O]at Qb;refine⟨_,_,J,Qb,λc=>?_,Sqs.of λi=>?_,λa' l' c' e=>(by cases e;exact Aa _),q.o.2.2⟩
    . rw[Qg.o,KD _ _ _ _ _ (Au (by have:=HN.o;have h2:=Qh.o;have r:=Qg.o;omega)),KB]
    . exact HK.o.2 n k 0 i
def Ra(D K:H)(ps qs:List Rat)(w:G)(i:Yf w D ps)(k:Yf w K qs)(x:Sqs ps)(z:Sqs qs)(t:Iu ps qs)(s:ps.length+qs.length<=1099511627776):
 Calls I 28 #[D,K] w λe M=>∃u,e=.returned u/\Yf M u (FU ps qs)/\Gf w.heap.size u/\Bl w M:=by
 obtain⟨u,rfl,i⟩:=i;obtain⟨v,rfl,k⟩:=k;obtain⟨a,l,f,rfl⟩:=i.form;obtain⟨b,lb,g,rfl⟩:=k.form;obtain⟨W0,c⟩:=ex (((w.alloc (B #[E a l f] 25)).alloc (B #[E b lb g] 25)).alloc (B #[E none 0 0] 25));have b0:Boxed W0 w.heap.size 25 (E a l f):=by rw[<-c];exact((BI w _ _).alloc _).alloc _
 have R:Boxed W0 (w.heap.size+1) 25 (E b lb g):=by rw[<-c];have:=(BI (w.alloc (B #[E a l f] 25)) 25 (E b lb g)).alloc (B #[E none 0 0] 25);simpa using this
 have S:Boxed W0 (w.heap.size+1+1) 25 (E none 0 0):=by rw[<-c];have:=BI ((w.alloc (B #[E a l f] 25)).alloc (B #[E b lb g] 25)) 25 (E none 0 0);simpa using this
 have m:Bl w W0:=by rw[<-c];exact((Ba w _).alloc sp _).alloc si _
 obtain⟨q,r,P⟩:=DY (RZ a b l f lb g ps qs W0 (i.below m) (k.below m) x z t s) (λ(V:G) (v:H) (d:List Rat) (h:RowK true V v d) (hs:Sqs d)=>Ip v d V h hs) c;have k0:=b0.cell;have k1:=R.cell;clear c i k x z t s;go_enter func28,ntmps28
 go_upto_region 1 with fail
 rw[P.o];go_wp2_with(first
  |(go_at_call 68;refine q.o.mono ?_;clear q;rintro e w1 ⟨v1,d,rfl,ae,A,ah,X,U⟩;have N:=Z A;clear A)
  |(go_at_call 65;refine(r.o _ _ d ae ah).mono ?_;clear r;rintro e w2 ⟨u2,rfl,o,ad,W⟩;obtain⟨a9,l9,c9,rfl⟩:=o.form;have y:=Bt U W;have n:=Jk S y;have k2:=n.cell;have f2:=n.frozen))
 have T:JE d=FU ps qs:=Gv λj=>N.o j;rw[T]at o;refine BA (by simp[results,results28,go_sem,k2]) J ⟨_,J,⟨_,J,FJ n _ o.row⟩,?_,(Bt m y).setCell (p:=⟨w.heap.size+1+1,0,none⟩) si _⟩;intro Q l' c' e;have:=ad W0.heap.size X Q l' c' e;have h2:=m.size;omega
def Rb(n:Int)(y:-9223372036854775808<=n)(z:n<=9223372036854775807)(w:G):
 Calls I 77 #[.int .i64 n] w λe o=>∃u,e=.returned u/\Jj o u (n:Rat)/\Bl w o:=by
 have c:Bl w (w.alloc (B #[F false,E none 0 0,F false,E none 0 0] 38)):=Ba w _;have b0:=JA.new w 38 (F false) (E none 0 0) (F false) (E none 0 0);obtain⟨W0,f⟩:=ex (w.alloc (B #[F false,E none 0 0,F false,E none 0 0] 38));rw[f]at c b0;obtain⟨p,i,j,q⟩:=Dl f (GQ n y z W0) (λ(V:G)=>GQ 1 O O V) (show Sok n from Sok.of (k:=2) (by unfold Sm Y;omega) O);have b:=Z λ(V:G) (u v:H) (K:Jg V u n) (N:Jg V v 1)=>Q9 u v n 1 V K N q.o Sok.one;rw[show decide ((1:Int)≠0)=true from J,show Rat.divInt n 1=(n:Rat)from by rw[Rat.divInt_eq_div];grind]at b;clear f;go_enter func77,ntmps77
 go_upto_region 1 with fail
 rw[p.o];go_wp2_with(first
  |(go_at_call 110;refine i.o.mono ?_;clear i;rintro e w1 ⟨u1,rfl,d,A⟩)
  |(go_at_call 110;refine(j.o _).mono ?_;clear j;rintro e w2 ⟨u2,rfl,M,l⟩;have d:=d.below l)
  |(go_at_call 107;refine(b.o _ _ _ d M).mono ?_;clear b;rintro e w3 ⟨u3,rfl,m,D⟩;have a:=Bt (Bt A l) D;have n2:=(b0.below a).alloc (B #[F false,E none 0 0,F false,E none 0 0] 38);obtain⟨W,r,U,t,X,s,T,x,rfl⟩:=Jj.form m;have g:=(b0.below a).alloc (B #[F W,E r U t,F X,E s T x] 38);obtain⟨P,Q,R,S⟩:=g.cq;obtain⟨f0,f1,f2,f3⟩:=g.fq))
 exact BA (by simp[results,results77,go_sem,P,Q,R,S]) J ⟨_,J,(m.below (Ba _ _)).put4 g J J J J _ _ _ _,Jo ((Bt c a).alloc (by have:=c.size;have:=a.size;omega) _) (Aa _) _ _ _ _⟩
end M3
abbrev Ev(w:G):Prop:=Lib.TabIs I w "internal/strconv.uint64pow10" .u64 Lib.pow10Tab
def Iv(n:Nat)(d:n<=9223372036854775807)(w:G)(b:Ev w):Calls I 58 #[.int .i64 (n:Int)] w λe a=>e=.returned (L ⟨(Yv n).toArray⟩)/\Bl w a:=by
 refine(Tryz.strconv_Itoa n O O w b).mono ?_;rintro e a ⟨rfl,k,c,rfl⟩;refine⟨?_,K7 w k c⟩;unfold Lib.itoa;rw[BJ O,CG,N6]
def Rc(s:ByteArray)(w:G):Calls I 96 #[L s,L ⟨#[45]⟩] w λe a=>e=.returned (.tuple #[L ⟨(Jz (Jd s)).toArray⟩,F (decide ((Jd s).head?=some 45))])/\Bl w a:=by
 refine(Fj s w).mono ?_;rintro e a ⟨rfl,rfl⟩;exact⟨J,BB _ _⟩
def Xs(a b:List UInt8):(⟨a.toArray⟩:ByteArray)++⟨b.toArray⟩=⟨(a++b).toArray⟩:=by
 apply CT;simp
def Re(i:Nat)(o:i<=1099511627776)(w:G)(f:Ev w):
 Calls I 97 #[.int .i64 (i:Int)] w λe k=>e=.returned (L ⟨(XF i).toArray⟩)/\Bl w k:=by
 by_cases a:i=0
 . subst a;go_enter func97,ntmps97
   go_wp2;go_ret;exact⟨J,BB _ _⟩
 . by_cases b:i=1
   . subst b;go_enter func97,ntmps97
     go_wp2;go_ret;exact⟨J,BB _ _⟩
   . have H:=Z (Iv i O w f);have l:((i:Int)==0)=false:=by rw[BH];omega
     have m:((i:Int)==1)=false:=by rw[BH];omega
     have c:=Z (show(⟨#[120,94]⟩:ByteArray)++⟨(Yv i).toArray⟩=⟨(XF i).toArray⟩by
      unfold XF;rw[BJ a,BJ b];exact Xs [120,94] (Yv i))
     have j:(⟨(Yv i).toArray⟩:ByteArray).size<=1000:=by
      show(Yv i).toArray.size<=_;rw[Aj];have:=XC i;have n:(Jb Y i).length<=1:=Jw Jc uo;omega
     obtain⟨S,d⟩:∃S:ByteArray,⟨(Yv i).toArray⟩=S:=⟨_,J⟩;rw[d]at H c j;clear a b f d;go_enter func97,ntmps97
     go_wp2_with(go_at_call 58;refine H.o.mono ?_;clear H;rintro e p ⟨rfl,g⟩)
     go_ret;exact⟨by rw[<-c.o];rfl,g⟩
def MI(q:Rat):Jz (JL q)=JL (Yx q)/\decide ((JL q).head?=some 45)=decide (q<0):=by
 by_cases h:q<0
 . rw[MD h,RM h];refine⟨J,?_⟩;rw[BG h];rfl
 . rw[ME h];have a:=RO h;refine⟨by unfold Jz;rw[BJ a],by rw[BE a,BE h]⟩
def MJ(a b c:List UInt8):(⟨a.toArray⟩:ByteArray)++⟨b.toArray⟩++⟨c.toArray⟩=⟨(a++b++c).toArray⟩:=by rw[Xs,Xs]
def Xw{X a:ByteArray}(h:X=a):Ending.returned (L X)=.returned (L a):=by rw[h]
def Rf(va:H)(q:Rat)(i:Nat)(first:Bool)(w:G)(U:Jj w va q)(hs:Sq q)(hi:i<=1099511627776)(ad:Ev w):
 Calls I 53 #[va,.int .i64 (i:Int),F first] w λe w'=>e=.returned (L ⟨(YZ q i first).toArray⟩)/\Bl w w':=by
 obtain⟨s,a,l,c,t,b,k,d,rfl⟩:=U.form;have b0:=JA.new w 38 (F s) (E a l c) (F t) (E b k d);have r:Bl w (w.alloc (B #[F s,E a l c,F t,E b k d] 38)):=Ba w _;obtain⟨W0,T⟩:=ex (w.alloc (B #[F s,E a l c,F t,E b k d] 38));rw[T]at b0 r;obtain⟨y,j,g⟩:=DY T (Ir _ q W0 (U.below r) hs (JV ad r)) λ(V:G)=>Rc ⟨(JL q).toArray⟩ V;rw[show Jd ⟨(JL q).toArray⟩=JL q from by simp[Jd],(MI q).1,(MI q).2]at g;have m:=Z λ(V:G) (h:Bl W0 V)=>Re i hi V (JV (JV ad r) h);obtain⟨k0,k1,k2,k3⟩:=b0.cq;have R:(⟨(JL (Yx q)).toArray⟩:ByteArray).size<=2000000000000:=by
  show(JL (Yx q)).toArray.size<=_;rw[Aj];obtain⟨e1,e2⟩:=Fs q;unfold JL;have h1:=XE (Yx q).num;have M:=XE ((Yx q).den:Int);have h3:=hs.num.words;have h4:=hs.den.words;rw[e1,A6]at h1;rw[e2]at M;rw[e1,e2];split
  . omega
  . rw[AE,Ai];omega
 have Qm:(⟨(XF i).toArray⟩:ByteArray).size<=2000:=by
  show(XF i).toArray.size<=_;rw[Aj];have h3:(Jb Y i).length<=1:=Jw Jc uo;have:=XC i;unfold XF;split
  . simp
  . split
    . simp
    . simp only[Ai];omega
 obtain⟨ST,ah⟩:∃S:ByteArray,⟨(JL q).toArray⟩=S:=⟨_,J⟩;obtain⟨v,ae⟩:∃S:ByteArray,⟨(XF i).toArray⟩=S:=⟨_,J⟩;obtain⟨bl,W⟩:=ex (decide (q<0));rw[ah]at j g;rw[W]at g;rw[ae]at m Qm;have Qj:=Z W;have Ql:=Z ae;clear T U hs ad ah W;obtain⟨P,z⟩:∃S:ByteArray,⟨(JL (Yx q)).toArray⟩=S:=⟨_,J⟩;have Qi:=Z z;have u:=Z (show(bl=true->(⟨#[45]⟩:ByteArray)++⟨(Yl q i).toArray⟩++v=⟨(YZ q i first).toArray⟩)/\(bl=false->first=true->(⟨(Yl q i).toArray⟩:ByteArray)++v=⟨(YZ q i first).toArray⟩)/\(bl=false->first=false->(⟨#[43]⟩:ByteArray)++⟨(Yl q i).toArray⟩++v=⟨(YZ q i first).toArray⟩)by
  rw[<-Ql.o];have N:=Qj.o;refine⟨λh=>?_,λh M=>?_,λh M=>?_⟩
  . rw[h]at N;unfold YZ Xo;rw[BM (BX N)];exact MJ [45] _ _
  . rw[h]at N;unfold YZ Xo;rw[BJ (of_decide_eq_false N),M];exact(Xs _ _)
  . rw[h]at N;unfold YZ Xo;rw[BJ (of_decide_eq_false N),M];exact MJ [43] _ _)
 by_cases x:JL (Yx q)=[49]
 . by_cases Q:0<i
   . have Qk:(0:Int)<(i:Int):=O
     rw[show Yl q i=[]from by unfold Yl;rw[BM ⟨x,Q⟩]]at u;rw[x]at g R;clear x Q z Qi;cases bl
     . cases first
       . go_enter func53,ntmps53
         go_upto_region 1 with fail
         rw[y.o];go_wp2_with(first
          |(go_at_call 16;refine j.o.mono ?_;clear j;rintro e A ⟨rfl,n⟩)
          |(go_at_call 96;refine(g.o _).mono ?_;clear g;rintro e D ⟨rfl,o⟩;have f:=Bt n o)
          |(go_at_call 97;refine(m.o _ f).mono ?_;clear m;rintro e K ⟨rfl,p⟩))
         go_ret;refine⟨?_,Bt r (Bt f p)⟩;exact Xw (X:=(⟨#[43]⟩:ByteArray)++⟨#[]⟩++v) (u.o.2.2 (by first|rfl|trivial) (by first|rfl|trivial))
       . go_enter func53,ntmps53
         go_upto_region 1 with fail
         rw[y.o];go_wp2_with(first
          |(go_at_call 16;refine j.o.mono ?_;clear j;rintro e A ⟨rfl,n⟩)
          |(go_at_call 96;refine(g.o _).mono ?_;clear g;rintro e D ⟨rfl,o⟩;have f:=Bt n o)
          |(go_at_call 97;refine(m.o _ f).mono ?_;clear m;rintro e K ⟨rfl,p⟩))
         go_ret;refine⟨?_,Bt r (Bt f p)⟩;exact Xw (X:=(⟨#[]⟩:ByteArray)++v) (u.o.2.1 (by first|rfl|trivial) (by first|rfl|trivial))
     . go_enter func53,ntmps53
       go_upto_region 1 with fail
       rw[y.o];go_wp2_with(first
        |(go_at_call 16;refine j.o.mono ?_;clear j;rintro e A ⟨rfl,n⟩)
        |(go_at_call 96;refine(g.o _).mono ?_;clear g;rintro e D ⟨rfl,o⟩;have f:=Bt n o)
        |(go_at_call 97;refine(m.o _ f).mono ?_;clear m;rintro e K ⟨rfl,p⟩))
       go_ret;refine⟨?_,Bt r (Bt f p)⟩;exact Xw (X:=(⟨#[45]⟩:ByteArray)++⟨#[]⟩++v) (u.o.1 (by first|rfl|trivial))
   . have Qk:¬(0:Int)<(i:Int):=O
     rw[show Yl q i=[49]from by unfold Yl;rw[BJ λh=>Q h.2,x]]at u;rw[x]at g R;clear x Q z Qi;cases bl
     . cases first
       . go_enter func53,ntmps53
         go_upto_region 1 with fail
         rw[y.o];go_wp2_with(first
          |(go_at_call 16;refine j.o.mono ?_;clear j;rintro e A ⟨rfl,n⟩)
          |(go_at_call 96;refine(g.o _).mono ?_;clear g;rintro e D ⟨rfl,o⟩;have f:=Bt n o)
          |(go_at_call 97;refine(m.o _ f).mono ?_;clear m;rintro e K ⟨rfl,p⟩))
         go_ret;refine⟨?_,Bt r (Bt f p)⟩;exact Xw (X:=(⟨#[43]⟩:ByteArray)++⟨#[49]⟩++v) (u.o.2.2 (by first|rfl|trivial) (by first|rfl|trivial))
       . go_enter func53,ntmps53
         go_upto_region 1 with fail
         rw[y.o];go_wp2_with(first
          |(go_at_call 16;refine j.o.mono ?_;clear j;rintro e A ⟨rfl,n⟩)
          |(go_at_call 96;refine(g.o _).mono ?_;clear g;rintro e D ⟨rfl,o⟩;have f:=Bt n o)
          |(go_at_call 97;refine(m.o _ f).mono ?_;clear m;rintro e K ⟨rfl,p⟩))
         go_ret;refine⟨?_,Bt r (Bt f p)⟩;exact Xw (X:=(⟨#[49]⟩:ByteArray)++v) (u.o.2.1 (by first|rfl|trivial) (by first|rfl|trivial))
     . go_enter func53,ntmps53
       go_upto_region 1 with fail
       rw[y.o];go_wp2_with(first
        |(go_at_call 16;refine j.o.mono ?_;clear j;rintro e A ⟨rfl,n⟩)
        |(go_at_call 96;refine(g.o _).mono ?_;clear g;rintro e D ⟨rfl,o⟩;have f:=Bt n o)
        |(go_at_call 97;refine(m.o _ f).mono ?_;clear m;rintro e K ⟨rfl,p⟩))
       go_ret;refine⟨?_,Bt r (Bt f p)⟩;exact Xw (X:=(⟨#[45]⟩:ByteArray)++⟨#[49]⟩++v) (u.o.1 (by first|rfl|trivial))
 . have Qh:¬P=(⟨#[49]⟩:ByteArray):=by
    intro h;apply x;rw[<-z]at h;have M:=Bz (λb:ByteArray=>b.data.toList) h;simpa using M
   have ai:¬P.toList=[49]:=by
    rw[YM,<-z];simpa using x
   clear Qh;rw[show Yl q i=JL (Yx q)from by unfold Yl;rw[BJ λh=>x h.1],z]at u;rw[z]at g R;clear x z;cases bl
   . cases first
     . go_enter func53,ntmps53
       go_upto_region 1 with fail
       rw[y.o];go_wp2_with(first
        |(go_at_call 16;refine j.o.mono ?_;clear j;rintro e A ⟨rfl,n⟩)
        |(go_at_call 96;refine(g.o _).mono ?_;clear g;rintro e D ⟨rfl,o⟩;have f:=Bt n o)
        |(go_at_call 97;refine(m.o _ f).mono ?_;clear m;rintro e K ⟨rfl,p⟩))
       go_ret;refine⟨?_,Bt r (Bt f p)⟩;exact Xw (X:=(⟨#[43]⟩:ByteArray)++P++v) (u.o.2.2 (by first|rfl|trivial) (by first|rfl|trivial))
     . go_enter func53,ntmps53
       go_upto_region 1 with fail
       rw[y.o];go_wp2_with(first
        |(go_at_call 16;refine j.o.mono ?_;clear j;rintro e A ⟨rfl,n⟩)
        |(go_at_call 96;refine(g.o _).mono ?_;clear g;rintro e D ⟨rfl,o⟩;have f:=Bt n o)
        |(go_at_call 97;refine(m.o _ f).mono ?_;clear m;rintro e K ⟨rfl,p⟩))
       go_ret;refine⟨?_,Bt r (Bt f p)⟩;exact Xw (X:=(P:ByteArray)++v) (u.o.2.1 (by first|rfl|trivial) (by first|rfl|trivial))
   . go_enter func53,ntmps53
     go_upto_region 1 with fail
     rw[y.o];go_wp2_with(first
      |(go_at_call 16;refine j.o.mono ?_;clear j;rintro e A ⟨rfl,n⟩)
      |(go_at_call 96;refine(g.o _).mono ?_;clear g;rintro e D ⟨rfl,o⟩;have f:=Bt n o)
      |(go_at_call 97;refine(m.o _ f).mono ?_;clear m;rintro e K ⟨rfl,p⟩))
     go_ret;refine⟨?_,Bt r (Bt f p)⟩;exact Xw (X:=(⟨#[45]⟩:ByteArray)++P++v) (u.o.1 (by first|rfl|trivial))
def MK(B b:Nat)(l:List UInt8)(w:G)(h:Lib.IsBuilder 89 5 B b (Lib.byteCells l) w):Calls I 54 #[C (some ⟨b,0,none⟩)] w λe a=>e=.returned (.int .i64 (l.length:Int))/\Bl w a:=by
 refine(Tryz.Builder_Len B b _ w h).mono ?_;rintro e a ⟨rfl,rfl⟩;grind[Bv,BB]
def ML(w:G)(b:Nat)(a:TR)(len cap:Nat)(qs:X)(k:Nat)(W:G):Prop:=
 (Boxed W (b+1) 23 (E a len cap)/\Bl w W)/\Lib.IsBuilder 89 5 b b (Lib.byteCells (JM (qs.drop (len-k)) (len-k))) W
def Rg(w:G)(b:Nat)(a:TR)(len cap:Nat)(qs:X)(d:w.heap.size<=b):OwnFrom (b+1+1) (ML w b a len cap qs):=
 BL (BL (Bf (boxed_own _ _ λ_=>E a len cap) _) (Bo (Aa _) O)) λ_ _ _ _ h hg c=>IX h hg c
def ER(w W:G)(c b:Nat)(a:TR)(len cap:Nat)(x y z u:H)(T:List UInt8)(V:G):Prop:=
 ((Boxed V (c+1) 23 (E a len cap)/\Bl w V)/\Lib.IsBuilder 89 5 c c (Lib.byteCells T) V)/\KeepsOthers W V/\JA V b 38 x y z u/\c+1<V.heap.size
def ER.below{w W:G}{d b:Nat}{a:TR}{len cap:Nat}{x y z u:H}{T:List UInt8}{V V':G}(h:ER w W d b a len cap x y z u T V)(c:Bl V V'):ER w W d b a len cap x y z u T V':=
 ⟨⟨⟨Jk h.1.1.1 c,Bt h.1.1.2 c⟩,YB h.1.2 c⟩,h.2.1.trans (J5 c),h.2.2.1.below c,Ao h.2.2.2 c.size⟩
def ER.write{w W:G}{c b:Nat}{a:TR}{len cap:Nat}{x y z u:H}{T n:List UInt8}{V V':G}(h:ER w W c b a len cap x y z u T V)(s:w.heap.size<=c)(q:b≠c){bs:List H}
(r:Lib.BuilderAt 89 5 c c (C (some ⟨c,0,none⟩)) bs V')(l:Below c V V')(m:∀k o,V.heap[k]?=some o->k≠c->(∀f z,o≠B f 5 z)->V'.heap[k]?=some o)(e:bs=Lib.byteCells n):ER w W c b a len cap x y z u n V':=by
 refine⟨⟨⟨m _ _ h.1.1.1 O (λf z e=>by cases e),h.1.1.2.trans (l.mono s)⟩,Au (by rw[<-e];exact r)⟩,h.2.1.trans ⟨l.size,λk o d g=>?_⟩,m _ _ h.2.2.1 q (λf z e=>by cases e),Ao h.2.2.2 l.size⟩;by_cases p:k=c
 . subst p;rcases h.1.2 with i|i
   . obtain⟨_,v,j,_⟩:=i;rw[j]at d;cases d;cases g
   . obtain⟨_,v,j,_⟩:=i;rw[j]at d;cases d;cases g
 . exact m k o d p (λf z e=>by rw[e]at g;cases g)
def FL(w W:G)(c b:Nat)(a:TR)(len cap:Nat)(x y z u:H)(T:List UInt8)(q:Rat)(V:G):Prop:=ER w W c b a len cap x y z u T V/\Jj V (.agg #[x,y,z,u]) q
def FL.below{w W:G}{c b:Nat}{a:TR}{len cap:Nat}{x y z u:H}{T:List UInt8}{q:Rat}{V V':G}(h:FL w W c b a len cap x y z u T q V)(d:Bl V V'):FL w W c b a len cap x y z u T q V':=⟨h.1.below d,h.2.below d⟩
def MN(v:H)(qs:List Rat)(w:G)(hp:Yf w v qs)(hs:Sqs qs)(hT:∀m,(JM (qs.drop m) m).length<=140737488355328)(bz:Ev w):
 Calls I 13 #[v] w λe w'=>e=.returned (L ⟨(D8 qs).toArray⟩)/\Bl w w':=by
 obtain⟨u0,rfl,h⟩:=hp;obtain⟨a,len,cap,rfl⟩:=h.form;obtain⟨hl,dh,di,cz,s,t,aa,bb,ll,cc,kk,dd,hc⟩:=h.forms;obtain⟨HL,M,HS,Ub,Qp⟩:=Ej hl hc hs hT bz;clear hc hl hs h hT bz;obtain⟨W0,ah⟩:=ex (((w.alloc (B #[E a len cap] 25)).alloc (B #[C none,E none 0 0] 89)).alloc (B #[E a len cap] 23));obtain⟨d,aj⟩:=ex (w.heap.size+1);have hN:W0.heap.size=d+1+1:=by rw[<-ah,<-aj];simp
 have x2:Boxed W0 (d+1) 23 (E a len cap):=by
  have R:=BI ((w.alloc (B #[E a len cap] 25)).alloc (B #[C none,E none 0 0] 89)) 23 (E a len cap);rw[ah]at R;simpa[aj]using R
 have x3:Bl w W0:=by rw[<-ah];exact((Ba w _).alloc sp _).alloc si _
 have x5:Lib.IsBuilder 89 5 d d (Lib.byteCells (JM (qs.drop (len-0)) (len-0))) W0:=by
  refine Al ⟨Aa _,E none 0 0,?_,?_,by simp[Value.ownBlock]⟩
  . rw[<-ah,<-aj];have R:=BD (w.alloc (B #[E a len cap] 25)) (B #[C none,E none 0 0] 89);rw[A1]at R;exact(Bn _ _ _ sp).trans R
  . rw[At (by have:=HL.o;omega)];exact⟨J,Al ⟨J,J⟩⟩
 have Qr:=Z ah;have Qk:=Z aj;have Qj:w.heap.size<=d:=O
 clear ah;refine(BK (n:=3)).1 ?_;refine BV func13 J trivial ?_ J;simp only[ntmps13,Aj,Ai,AN,Nat.reduceAdd,Nat.reduceSub,Aw,Ax,AL,AA,Ah,Am];gi_wp2_with(refine⟨trivial,?_⟩;gi_at_call 50;refine(L0 Fence.wide _ trivial J _ _ _ _).mono ?_;rintro e w' ⟨rfl,rfl⟩)
 rw[Qr.o];try simp only[Qk.o]
 clear aj;refine KY J O (gf:=94) (lb:=#[C (some ⟨d+1,0,none⟩)]) J trivial (DB func94 TS J)
  (Lz Fence.wide _ trivial J O (d+1) a len cap (λj=>F (s j)) (λj=>E (aa j) (ll j) (cc j)) (λj=>F (t j)) (λj=>E (bb j) (kk j) (dd j)) cz) (λ_=>rfl)
  (ML w d a len cap qs) (λ_ _ _=>False) (by rw[hN];exact Rg w d a len cap qs Qj) (λc s W W' row h=>h.elim) ⟨⟨x2,x3⟩,x5⟩ ?rd
  (λk b=>{ tmps:=#[.agg #[E a len cap],C (some ⟨w.heap.size,0,none⟩),L ⟨#[]⟩,C (some ⟨d,0,none⟩),.int .i64 ((len:Int)-1-k),C (some ⟨b,0,none⟩),C (some ⟨w.heap.size,0,none⟩),E a len cap,.func (.func 94) #[] #[C (some ⟨d+1,0,none⟩)],.int .i64 ((len:Int)-1-k),.agg #[F (s (len-1-k)),E (aa (len-1-k)) (ll (len-1-k)) (cc (len-1-k)),F (t (len-1-k)),E (bb (len-1-k)) (kk (len-1-k)) (dd (len-1-k))],undef,undef,undef,undef,undef,undef,undef,undef,undef,undef,undef,undef],defers:=[] })
  (λk=>B #[F (s (len-1-k)),E (aa (len-1-k)) (ll (len-1-k)) (cc (len-1-k)),F (t (len-1-k)),E (bb (len-1-k)) (kk (len-1-k)) (dd (len-1-k))] 38 (0,0)) ?assign ?body ?done ?stop
 case stop=>intro D c k W _ _ h;exact h.elim
 case rd=>
  intro k W bc;have hB:=bc.1.2;refine⟨bc.1.1.cell,λhk=>?_⟩;obtain⟨_,b,ea,hb,R,N,h3,h4⟩:=M.o (len-1-k) O;exact⟨b,ea,(hB.cell (p:=⟨b,_,none⟩) hb).trans R,(hB.cell (p:=⟨b,_,none⟩) hb).trans N,(hB.cell (p:=⟨b,_,none⟩) hb).trans h3,(hB.cell (p:=⟨b,_,none⟩) hb).trans h4⟩
 case assign=>
  intro l k W K U;unfold Gb;gi_wp2;exact U
 case done=>
  rintro D W hD ⟨⟨y1,y2⟩,A⟩ U;rw[show qs.drop (len-len)=qs from by rw[A0];rfl,A0]at A;have Qf:d<=W.heap.size:=by have:=y1.lt;omega
  have HY:=Z A;have Qd:=Z (MK d d _ W A);clear A;by_cases am:JM qs 0=[]
  . have Qe:=Z (show D8 qs=[48]by unfold D8;rw[BM am]);rw[am]at Qd;gi_wp2_with(refine⟨trivial,?_⟩;gi_at_call 54;refine((BK (n:=_)).2 Qd.o).mono ?_;rintro e w6 ⟨rfl,ai⟩)
    have Qh:w6.heap[D]?=some (.deferred (some [])):=(J5 ai).same D _ U J;refine⟨sp,.inl ⟨_,_,J,Bc Qh,?_⟩⟩;refine⟨L ⟨#[48]⟩,by simp[results,results13,go_sem],by rw[Qe.o],?_⟩;exact below_grown (Bt y2 ai) (BW _ D (.deferred none)) O
  . have Qe:=Z (show D8 qs=JM qs 0 by unfold D8;rw[BJ am]);have Qn:((JM qs 0).length:Int)≠0:=by
     have:0<(JM qs 0).length:=Cg.2 am
     omega
    have Qz:(((JM qs 0).length:Int)==0)=false:=by rw[BH];exact Qn
    have Ql:=Z λ(V:G) (h:Bl W V)=>Tryz.Builder_String_any_k d d (JM qs 0) V (Lib.IsBuilderF.of (YB HY.o h)) (AM Qf h.size);obtain⟨n,hn⟩:=ex ((JM qs 0).length);rw[hn]at Qd Qz Qn;obtain⟨ST,ay⟩:∃S:ByteArray,⟨(JM qs 0).toArray⟩=S:=⟨_,J⟩;rw[ay]at Ql;have Qt:=Z (show⟨(D8 qs).toArray⟩=ST by rw[Qe.o];exact ay);clear am hn ay HY;gi_wp2_with(first
     |(refine⟨trivial,?_⟩;gi_at_call 54;refine((BK (n:=_)).2 Qd.o).mono ?_;clear Qd;rintro e w6 ⟨rfl,ai⟩)
     |(refine⟨trivial,?_⟩;gi_at_call 55;refine((BK (n:=_)).2 (Ql.o _ ai)).mono ?_;clear Ql;rintro e w7 ⟨rfl,_,cj,cy⟩))
    have Qh:w6.heap[D]?=some (.deferred (some [])):=(J5 ai).same D _ U J;have Qs:=cy D _ Qh (λe=>by cases e;omega) (λc fz e=>by cases e);refine⟨sp,.inl ⟨_,_,J,Bc Qs,?_⟩⟩;refine⟨L ST,by simp[results,results13,go_sem],by rw[Qt.o],?_⟩;exact below_grown ((Bt y2 ai).trans (cj.mono Qj)) (BW _ D (.deferred none)) O
 case body=>
  rintro l k b W ⟨⟨y1,y2⟩,A⟩ hk de cn az;have hm:len-1-k<len:=O
  obtain⟨hi,_⟩:=M.o (len-1-k) hm;have HI:=Z (Jj.below hi y2);have e1:((len:Int)-1-k)=((len-1-k:Nat):Int):=O
  have ek:len-k=len-1-k+1:=O
  rw[e1];rw[ek]at A;have Qi:=Z (show len-(k+1)=len-1-k by omega);clear e1 hi ek;obtain⟨m,bm⟩:=ex (len-1-k);rw[bm]at az HI hm A Qi ⊢;have HM:=Z (show m<qs.length by have:=HL.o;omega);obtain⟨Qc,Qw,Qg⟩:=DY (Xb qs HM.o) (Ub.o m) (HS.o.at m);have Qu:m<=1099511627776:=O
  clear bm;have q0:JA W b 38 (F (s m)) (E (aa m) (ll m) (cc m)) (F (t m)) (E (bb m) (kk m) (dd m)):=az;obtain⟨s1,bt⟩:=ex (s m);obtain⟨t1,bu⟩:=ex (t m);obtain⟨a1,bf⟩:=ex (aa m);obtain⟨b1,bg⟩:=ex (bb m);obtain⟨l1,bk⟩:=ex (ll m);obtain⟨c1,bh⟩:=ex (cc m);obtain⟨m1,bn⟩:=ex (kk m);obtain⟨d1,bj⟩:=ex (dd m);rw[bt,bu,bf,bg,bk,bh,bn,bj]at q0 HI ⊢;obtain⟨T,bd⟩:=ex (JM (qs.drop (m+1)) (m+1));rw[bd]at A Qc;obtain⟨q,bi⟩:∃y,cf qs m=y:=⟨_,J⟩;rw[bi]at HI Qc Qg;have hS:ER w W d b a len cap (F s1) (E a1 l1 c1) (F t1) (E b1 m1 d1) T W:=⟨⟨⟨y1,y2⟩,A⟩,KeepsOthers.refl W,q0,by have:=y1.lt;omega⟩;have Qy:b≠d:=O
  clear bt bu bf bg bk bh bn bj bd bi y1 y2 A az de cn;obtain⟨k0,k1,k2,k3⟩:=q0.cq;have HZ:=Z λ(X:Nat)=>Bb l ((BK (n:=X)).2 (Ly _ q W HI.o Qg.o));by_cases hx:q=0
  . rw[show decide (q=0)=true from BG hx]at HZ;have HX:=Z hx;clear hx;gi_wp2_with(refine⟨trivial,?_⟩;gi_at_call 51;refine(HZ.o _).mono ?_;rintro e w' ⟨rfl,an⟩)
    have ae:=hS.below an;refine⟨ae.2.1.from _,ae.1.1,?_⟩;rw[Qi.o,Qc.o,BM HX.o];exact ae.1.2
  . rw[show decide (q=0)=false from BE hx]at HZ;have HX:=Z hx;clear hx;gi_wp2_with(refine⟨trivial,?_⟩;gi_at_call 51;refine(HZ.o _).mono ?_;clear HZ;rintro e w' ⟨rfl,an⟩)
    have ae:=hS.below an;have ce:=Z (HI.o.below an);clear hS k0 k1 k2 k3 q0 HI;obtain⟨n,hn⟩:=ex (T.length);obtain⟨f,hf⟩:=ex (T.isEmpty);have dt:((n:Int)==0)=f:=by
     rw[<-hf,<-hn,Ce,beq_iff_eq,List.isEmpty_iff_length_eq_zero];omega
    rw[BJ HX.o,hf]at Qc;have HN:=Z hn;have Qm:=Z (show T.length+(YZ q m f).length<=140737488355328 by
     have:=Qw.o;rw[Qc.o,AE]at this;exact this)
    have Qq:FL w W d b a len cap (F s1) (E a1 l1 c1) (F t1) (E b1 m1 d1) T q w'.drew:=FL.below ⟨ae,ce.o⟩ ((BB _ w').drew);have Qv:=Z λ(V:G) (h:Bl w V)=>JV Qp.o h;obtain⟨TX,ak⟩:∃S:ByteArray,⟨(YZ q m f).toArray⟩=S:=⟨_,J⟩;obtain⟨Qe,Ua,Qx,Qo⟩:=Dl ak (show T.length+TX.size<=140737488355328 by rw[<-ak];show _+(YZ q m f).toArray.size<=_;rw[Aj];exact Qm.o) (show Lib.byteCells T++Lib.strCells TX=Lib.byteCells (T++YZ q m f)by rw[<-ak];simp[Lib.byteCells,Lib.strCells]) λ(V:G) (u:H) (hu:Jj V u q) (h:Bl w V)=>Rf u q m f V hu Qg.o Qu (Qv.o V h);rw[ak]at Qo;clear ae hn hf ak;refine Xp Dj [[],[],[],[2],[0,1,3,2],[4,4]] TS DI
     (λD aq V=>∃(ta tb tc td te tf:H),aq={ tmps:=#[.agg #[E a len cap],C (some ⟨w.heap.size,0,none⟩),L { data:=#[] },C (some ⟨d,0,none⟩),.int .i64 ↑m,C (some ⟨b,0,none⟩),C (some ⟨w.heap.size,0,none⟩),E a len cap,.func (.func 94) #[] #[C (some ⟨d+1,0,none⟩)],.int .i64 ↑m,.agg #[F s1,E a1 l1 c1,F t1,E b1 m1 d1],.agg #[F s1,E a1 l1 c1,F t1,E b1 m1 d1],F false,F true,ta,tb,tc,td,te,tf,undef,undef,undef],defers:=[] }/\Hid ((D 0=true->D 5=false->Jj V ta q)/\(D 1=true->tb=.int .i64 (m:Int))/\(D 2=true->tc=.int .i64 (n:Int))/\(D 3=true->td=F f)/\(D 4=true->te=L TX)/\(D 5=true->True))/\Hid ((D 5=false->FL w W d b a len cap (F s1) (E a1 l1 c1) (F t1) (E b1 m1 d1) (T) q V)/\(D 5=true->ER w W d b a len cap (F s1) (E a1 l1 c1) (F t1) (E b1 m1 d1) (T++YZ q m f) V)))
     ⟨_,_,_,_,_,_,J,Z sp,Z ⟨λ_=>Qq,sp⟩⟩ ?step1 ?fin1
    case step1=>
     rintro D aq V i ds Q hi x ad ⟨ta,tb,tc,td,te,tf,rfl,g,o⟩;have dj:i<6:=(As.1 hi).1;obtain rfl|rfl|rfl|rfl|rfl|rfl:=I9 i O
     all_goals
      simp only[AY,AQ,AU]at hi;subst hi
     . have z:D 5=false:=DZ Q (DZ (a:=4) Q ad);have r:=o.o.1 z;obtain⟨e0,e1,e2,e3⟩:=r.1.2.2.1.cq;clear x;refine Dz ?_;exact⟨(Hr (Eg g λ_ _=>r.2) λ_=>trivial),o⟩
     . have z:D 5=false:=DZ Q (DZ (a:=4) Q ad);have r:=o.o.1 z;clear x;refine Dz ?_;exact⟨(Hr (Eh g) λ_=>trivial),o⟩
     . have z:D 5=false:=DZ Q (DZ (a:=4) Q ad);have r:=o.o.1 z;clear x;have M:=Z λ(X:Nat)=>Bb l ((BK (n:=X)).2 (MK d d T V r.1.1.2));rw[HN.o]at M;refine BZ J λK U=>?_;go_simp;gi_wp2_with(refine⟨trivial,?_⟩;gi_at_call 54;refine(M.o _).mono ?_;rintro e w5 ⟨rfl,P⟩)
       exact⟨_,_,_,_,_,_,J,Z ⟨λh N=>(g.o.1 h N).below P,g.o.2.1,λ_=>rfl,g.o.2.2.2.1,g.o.2.2.2.2.1,λ_=>trivial⟩,Z ⟨λh=>(o.o.1 h).below P,λh=>(o.o.2 h).below P⟩⟩
     . have z:D 5=false:=DZ Q (DZ (a:=4) Q ad);have r:=o.o.1 z;obtain rfl:=g.o.2.2.1 (x 2 sp);clear x;refine Dz ?_;exact⟨Z ⟨g.o.1,g.o.2.1,λ_=>rfl,λ_=>rfl,g.o.2.2.2.2.1,λ_=>trivial⟩,o⟩
     . have z:D 5=false:=DZ Q ad;have r:=o.o.1 z;have h0:=g.o.1 (x 0 sp) z;obtain rfl:=g.o.2.1 (x 1 sp);obtain rfl:=g.o.2.2.2.1 (x 3 sp);clear x;have M:=Z λ(X:Nat)=>Bb l ((BK (n:=X)).2 (Qo.o V _ h0 r.1.1.1.2));clear h0;refine BZ J λK U=>?_;go_simp;gi_wp2_with(refine⟨trivial,?_⟩;gi_at_call 53;refine(M.o _).mono ?_;rintro e w5 ⟨rfl,P⟩)
       exact⟨_,_,_,_,_,_,J,Z ⟨λh N=>(g.o.1 h N).below P,λ_=>rfl,g.o.2.2.1,λ_=>rfl,λ_=>rfl,λ_=>trivial⟩,Z ⟨λh=>(o.o.1 h).below P,λh=>(o.o.2 h).below P⟩⟩
     . have r:=o.o.1 ad;obtain rfl:=g.o.2.2.2.2.1 (x 4 sp);clear x;have M:=Z λ(X:Nat)=>Bb l ((BK (n:=X)).2 (Xi d d _ TX V r.1.1.2 (by rw[Bv];exact Ua.o) (by have:=r.1.2.2.2;omega)));refine BZ J λK U=>?_;go_simp;gi_wp2_with(refine⟨trivial,?_⟩;gi_at_call 52;refine(M.o _).mono ?_;rintro e w5 ⟨⟨v5,rfl⟩,⟨ck,P⟩,co⟩)
       exact⟨_,_,_,_,_,_,J,Z ⟨λ_ h=>by simp at h,g.o.2.1,g.o.2.2.1,g.o.2.2.2.1,λ_=>rfl,λ_=>trivial⟩,Z ⟨λh=>by simp at h,λ_=>r.1.write Qj Qy ck P co Qx.o⟩⟩
    case fin1=>
     rintro D aq V cg ⟨ta,tb,tc,td,te,tf,rfl,g,o⟩;have N:=o.o.2 (cg 5 DI);refine⟨N.2.1.from _,N.1.1,?_⟩;rw[Qi.o,Qc.o];exact N.1.2
open M3

