import Derived.Test.YteldjhhjnchdeaaGreatDoorT25
set_option linter.all false
open Go.Value renaming slice->E,bool->F,pointer->C,string->L
open Go renaming World->G,Value->H
open Go.Proofs.Tryz renaming prog->I
open Go.Obj renaming cells->B
set_option maxRecDepth 99999
set_option maxHeartbeats 0
namespace Go.Proofs.YteldjhhjnchdeaaGreatDoor
open Proofs.Tryz
open Go.RowKit Go.Shelf
attribute [local go_sem] Oper.semAt_some
def bV(n c:Nat)(w:G):Calls I 101 #[E none n c] w λe d=>e=.returned (E none 0 0)/\d=w:=by
 have f:∀(w:G) (a:kR) (n c b c':Nat),(binOp .eql 22 (E a n c) (E none b c')).run I w=.ok (F a.isNone) w:=λw a n c b c'=>Bk w _ _ a n c b c' underlying22;go_enter func101,ntmps101
 go_wp2;go_ret;exact⟨J,J⟩
def bW(p:Addr)(n c:Nat)(xs:List H)(w:G)(y:n<=1099511627776)(hl:xs.length=n*4)(g:∀j u,xs[j]?=some u->w.cell? (p.add j)=some u)(f:∀u∈xs,u.oneCell'=true):
 Calls I 101 #[E (some p) n c] w λe i=>∃b,e=.returned b/\i.ownsRow w.heap.size 65 4 b n xs/\Bl w i:=by
 obtain⟨x,m,s,t,v⟩:=Bn Tryz.infoRat;have D:∀(w:G) (a:kR) (n c d c':Nat),(binOp .eql 22 (E a n c) (E none d c')).run I w=.ok (F a.isNone) w:=λw a n c d c'=>Bk w _ _ a n c d c' underlying22;obtain⟨A,B,C⟩:=Dc g f hl;clear g f hl;go_enter func101,ntmps101
 go_wp2_with(at_builtin;refine BW _ J _ _ 22 J w.heap.size 65 x (.agg #[F false,E none 0 0,F false,E none 0 0]) 4 64 underlying22 m s t v J DN _ _ _ J (World.ownsRow_made w #[] 0 (Aa _) (As _) J) p n c xs J ?qc1 ?qc2 ?qc3 ?qc4 ?qc5 ?qc6 ?_)
 case qc1=>exact C.o
 case qc2=>intro j u o;exact Lib.cell?_alloc_some _ (A.o j u o)
 case qc3=>exact B.o
 case qc4=>unfold maxLen;omega
 case qc5=>omega
 case qc6=>simp
 intro b K r l z;go_wp2;go_ret;refine⟨b,J,by simpa using r,?_⟩;exact(Ba w _).grown l DK (by intro k q;simp[Value.ownBlock]at q;omega)
def bX(v:H)(qs:Ja)(w:G)(h:RowK true w v qs):Calls I 101 #[v] w λe f=>∃u,e=.returned u/\RowK true f u qs/\K1 w.heap.size u/\Bl w f/\(u=E none 0 0\/∃g cap,u=E (some ⟨g,0,none⟩) qs.length cap/\w.heap.size<=g/\Dj true f g qs):=by
 obtain⟨a,cap,rfl,y,z,m,i⟩:=h;rcases a with _|p
 . refine(bV _ _ w).mono ?_;rintro e f ⟨rfl,rfl⟩;have hq:qs=[]:=by
    grind
   subst hq;exact⟨_,J,RowK.nil _ _,λa l c e=>(by cases e),BB _ _,Am J⟩
 . have o:∃cs,YQ true w cs qs/\∀j u,cs[j]?=some u->w.cell? (p.add j)=some u:=by
    rcases i with i|⟨b,q,hE⟩
    . rw[i];exact⟨[],YQ.nil _ _,λj u e=>by simp at e⟩
    . cases q;obtain⟨cs,d,k⟩:=hE.cells;refine⟨cs,d,λj u e=>?_⟩;rw[Y6,Ct];exact k j u e
   obtain⟨cs,d,k⟩:=o;refine(bW p qs.length cap cs w m d.1 k d.one).mono ?_;rintro e f ⟨x,rfl,t,n⟩;obtain⟨g1,_,s⟩:=RowK.owns (r:=true) t (d.below n) m;refine⟨x,J,g1,λa l c e=>?_,n,s⟩;grind
def bY(n c:Nat)(w:G):Calls I 49 #[E none n c] w λe d=>e=.returned (E none 0 0)/\d=w:=by
 have f:∀(w:G) (a:kR) (n c b c':Nat),(binOp .eql 23 (E a n c) (E none b c')).run I w=.ok (F a.isNone) w:=λw a n c b c'=>Bk w _ _ a n c b c' underlying23;go_enter func49,ntmps49
 go_wp2;go_ret;exact⟨J,J⟩
def bZ(p:Addr)(n c:Nat)(xs:List H)(w:G)(y:n<=1099511627776)(hl:xs.length=n*4)(g:∀j u,xs[j]?=some u->w.cell? (p.add j)=some u)(f:∀u∈xs,u.oneCell'=true):
 Calls I 49 #[E (some p) n c] w λe i=>∃b,e=.returned b/\i.ownsRow w.heap.size 65 4 b n xs/\Bl w i:=by
 obtain⟨x,m,s,t,v⟩:=Bn Tryz.infoRat;have D:∀(w:G) (a:kR) (n c d c':Nat),(binOp .eql 23 (E a n c) (E none d c')).run I w=.ok (F a.isNone) w:=λw a n c d c'=>Bk w _ _ a n c d c' underlying23;obtain⟨A,B,C⟩:=Dc g f hl;clear g f hl;go_enter func49,ntmps49
 go_wp2_with(at_builtin;refine BW _ J _ _ 23 J w.heap.size 65 x (.agg #[F false,E none 0 0,F false,E none 0 0]) 4 64 underlying23 m s t v J DN _ _ _ J (World.ownsRow_made w #[] 0 (Aa _) (As _) J) p n c xs J ?qc1 ?qc2 ?qc3 ?qc4 ?qc5 ?qc6 ?_)
 case qc1=>exact C.o
 case qc2=>intro j u o;exact Lib.cell?_alloc_some _ (A.o j u o)
 case qc3=>exact B.o
 case qc4=>unfold maxLen;omega
 case qc5=>omega
 case qc6=>simp
 intro b K r l z;go_wp2;go_ret;refine⟨b,J,by simpa using r,?_⟩;exact(Ba w _).grown l DK (by intro k q;simp[Value.ownBlock]at q;omega)
def bp(v:H)(qs:Ja)(w:G)(h:RowK true w v qs):Calls I 49 #[v] w λe f=>∃u,e=.returned u/\RowK true f u qs/\K1 w.heap.size u/\Bl w f/\(u=E none 0 0\/∃g cap,u=E (some ⟨g,0,none⟩) qs.length cap/\w.heap.size<=g/\Dj true f g qs):=by
 obtain⟨a,cap,rfl,y,z,m,i⟩:=h;rcases a with _|p
 . refine(bY _ _ w).mono ?_;rintro e f ⟨rfl,rfl⟩;have hq:qs=[]:=by
    grind
   subst hq;exact⟨_,J,RowK.nil _ _,λa l c e=>(by cases e),BB _ _,Am J⟩
 . have o:∃cs,YQ true w cs qs/\∀j u,cs[j]?=some u->w.cell? (p.add j)=some u:=by
    rcases i with i|⟨b,q,hE⟩
    . rw[i];exact⟨[],YQ.nil _ _,λj u e=>by simp at e⟩
    . cases q;obtain⟨cs,d,k⟩:=hE.cells;refine⟨cs,d,λj u e=>?_⟩;rw[Y6,Ct];exact k j u e
   obtain⟨cs,d,k⟩:=o;refine(bZ p qs.length cap cs w m d.1 k d.one).mono ?_;rintro e f ⟨x,rfl,t,n⟩;obtain⟨g1,_,s⟩:=RowK.owns (r:=true) t (d.below n) m;refine⟨x,J,g1,λa l c e=>?_,n,s⟩;grind
def R8(v:H)(qs:Ja)(w:G)(h:RowK true w v qs)(hs:Sqs qs):
 Calls I 59 #[v] w λe m=>∃u,e=.returned u/\Jh m u (Jb qs)/\MO w.heap.size u/\Bl w m:=by
 obtain⟨a,l,c,rfl⟩:=h.form;have b0:=BK w 25 (E none 0 0);have b:Bl w (w.alloc (B #[E none 0 0] 25)):=Ba w _;obtain⟨W0,f⟩:=ex (w.alloc (B #[E none 0 0] 25));rw[f]at b0 b;obtain⟨n,i,g⟩:=Dc f (bX _ qs W0 (h.below b)) λ(V:G) (v:H) (h:RowK true V v qs)=>Ik v qs V h hs;have k:=b0.cell;have f0:=b0.frozen;clear f h hs;go_enter func59,ntmps59
 go_upto_region 1 with fail
 rw[n.o];go_wp2_with(first
  |(go_at_call 101;refine i.o.mono ?_;clear i;rintro e D ⟨u,rfl,t,r,o,_⟩)
  |(go_at_call 27;refine(g.o _ _ t).mono ?_;clear g;rintro e K ⟨u2,rfl,j,s,q⟩;obtain⟨x,z,y,rfl⟩:=j.form;have hq:=Bt o q;have d:=boxed_below b0 hq;have k:=d.cell;have f0:=d.frozen))
 refine BA (v:=.agg #[E x z y]) (by simp[results,results59,go_sem,k]) J ⟨_,J,⟨_,J,Ej d _ j.row⟩,?_,(Bt b hq).setCell (p:=⟨w.heap.size,0,none⟩) (Aa _) _⟩;intro a' l' c' e;have:=s W0.heap.size r a' l' c' e;have A:=b.size;omega
def br{W:G}{B:Nat}(q:JN W B 65 (F false) (E none 0 0) (F false) (E none 0 0)){v:H}{p:Rat}(h:Jl W v p)(x y z u:H):Jl (put4 W B x y z u) v p:=h.put4 q J J J J _ _ _ _
def KH(v:H)(ps:Ja)(i:Int)(w:G)(h:Jh w v ps):
 Calls I 58 #[v,.int .i64 i] w λe n=>∃u,e=.returned u/\Jl n u (if i<0 then 0 else cf ps i.toNat)/\Bl w n:=by
 obtain⟨u,rfl,g⟩:=h;obtain⟨a,l,c,rfl⟩:=g.form;obtain⟨W0,b⟩:=ex ((w.alloc (B #[E a l c] 25)).alloc (B #[F false,E none 0 0,F false,E none 0 0] 65));have b0:Boxed W0 w.heap.size 25 (E a l c):=by rw[<-b];exact(BK w _ _).alloc _
 have r:JN W0 (w.heap.size+1) 65 (F false) (E none 0 0) (F false) (E none 0 0):=by rw[<-b];have:=JN.new (w.alloc (B #[E a l c] 25)) 65 (F false) (E none 0 0) (F false) (E none 0 0);simpa using this
 have j:Bl w W0:=by rw[<-b];exact(Ba w _).alloc DK _
 have d:=Y (OT _ ps i W0 (g.below j));obtain⟨q,hq⟩:=ex ((if i<0 then 0 else cf ps i.toNat));rw[hq]at d ⊢;have o:=Y b;have Q:=b0.cell;clear b hq g;go_enter func58,ntmps58
 go_upto_region 1 with fail
 rw[o.o];go_wp2_with(go_at_call 100;refine d.o.mono ?_;clear d;rintro e R ⟨u,rfl,m,k⟩;have f:=r.below k;obtain⟨y,z,A,D⟩:=f.cq;obtain⟨f0,f1,f2,f3⟩:=f.fq;obtain⟨N,p,M,t,P,s,K,x,rfl⟩:=Jl.form m)
 exact BA (v:=.agg #[F N,E p M t,F P,E s K x]) (by simp[results,results58,go_sem,y,z,A,D]) J ⟨_,J,br f m _ _ _ _,Jw (Bt j k) O _ _ _ _⟩
namespace M3
def OW(V:G)(t:H)(q:Rat):Prop:=∃v,t=.iface 65 v/\Jl V v q
def OW.below{V V':G}{t:H}{q:Rat}(h:OW V t q)(b:Bl V V'):OW V' t q:=by
 obtain⟨v,e,a⟩:=h;exact⟨v,e,a.below b⟩
def bw(v:H)(V:G):(method 363 65 v "Times").run I V=.ok (52,v) V:=by kernel_rfl
def cA(v:H)(V:G):(method 363 65 v "Plus").run I V=.ok (87,v) V:=by kernel_rfl
def GS(ps qs:Ja):Prop:=(∀i a,Sq (cf ps i*cf qs a))/\∀n i a k,Sq (cf (YP (Xj ps qs n i) i (cf ps i) qs a) k)
def cC(a b:kR)(la ca lb cb:Nat)(ps qs:Ja)(w:G)(ha:RowK true w (E a la ca) ps)(hb:RowK true w (E b lb cb) qs)(ap:Sqs ps)(aq:Sqs qs)(an:GS ps qs)(bn:ps.length+qs.length<=1099511627776):
 Calls I 28 #[E a la ca,E b lb cb] w λe w'=>∃v g,e=.returned v/\RowK true w' v g/\(∀c,cf g c=cf (ET ps qs) c)/\Sqs g/\K1 w.heap.size v/\Bl w w':=by
 obtain⟨ak,bh,bj,cn,s,t,aa,bb,ll,cc,kk,dd,hc⟩:=ha.forms;obtain⟨am,bi,bk,co,s',t',az,bc,ce,bf,bu,bg,aj⟩:=hb.forms;obtain⟨n,hn⟩:∃n:Nat,max (0:Int) ((la:Int)+(lb:Int)-1)=(n:Int):=⟨(max (0:Int) ((la:Int)+(lb:Int)-1)).toNat,O⟩;have dj:n<=1099511627776:=O
 obtain⟨HN,cj,HC,ay,HP,HQ,HK,Qg⟩:=Gw (show la+lb<=n+1 from by omega) (show la+lb=0\/n+1=la+lb from by omega) hc aj ap aq an ak;have Qh:=Y am;have Qs:=K4 n O w;have M0:DL w (w.alloc (B (YB n) 65)) [some (w.heap.size,.rats (List.replicate n 0))]:=M3.DL.push (M3.DL.nil w) (.rats (List.replicate n 0)) (by
  obtain⟨cs,q,h2⟩:=OU n w;refine⟨YB n,J,λc hj=>?_⟩;rw[AE]at hj;obtain⟨h0,q,h2,h3⟩:=MQ hj;exact⟨_,_,_,_,h0,q,h2,h3,by rw[JT];exact ER _⟩)
 obtain⟨W0,ai⟩:=ex (w.alloc (B (YB n) 65));rw[ai]at M0 Qs;have Qq:=Y M0;clear M0 ai ha hb ap aq ak am bh bj bi bk an hc aj bn;go_enter func28,ntmps28
 go_wp2;go_loopw [20] (λi wr=>∃(k:Nat),k<=la/\i=.int .i64 (k:Int)/\Hid (DL w wr [some (w.heap.size,.rats (Xj ps qs n k))])) λi _=>la-(intOf i).toNat
 case atStart=>exact⟨0,As _,J,Qq⟩
 case round=>
  obtain⟨k,hk,rfl,o⟩:=hrel;by_cases bt:k<la
  . have de:(k:Int)<(la:Int):=O
    obtain⟨U,X,rfl,ae,r,u,x,y⟩:=HC.o k bt;have d:=o.o.2.2;have z:=Y (U.below d);replace r:=(d.cell (p:=⟨X,_,none⟩) ae).trans r;replace u:=(d.cell (p:=⟨X,_,none⟩) ae).trans u;replace x:=(d.cell (p:=⟨X,_,none⟩) ae).trans x;replace y:=(d.cell (p:=⟨X,_,none⟩) ae).trans y;clear U d;obtain⟨s1,S⟩:=ex (s k);obtain⟨t1,T⟩:=ex (t k);obtain⟨a1,K⟩:=ex (aa k);obtain⟨b1,M⟩:=ex (bb k);obtain⟨l1,Q⟩:=ex (ll k);obtain⟨c1,N⟩:=ex (cc k);obtain⟨m1,R⟩:=ex (kk k);obtain⟨d1,P⟩:=ex (dd k);rw[S,T,K,M,Q,N,R,P]at z;rw[S]at r;rw[K,Q,N]at u;rw[T]at x;rw[M,R,P]at y;clear S T K M Q N R P;go_upto_region 5 with fail
    have l:DL w (wr.alloc (B #[F s1,E a1 l1 c1,F t1,E b1 m1 d1] 65)) [some (w.heap.size,.rats (Xj ps qs n k)),some (wr.heap.size,.rat (cf ps k))]:=M3.DL.push o.o (.rat (cf ps k)) z.o;obtain⟨V1,D⟩:=ex (wr.alloc (B #[F s1,E a1 l1 c1,F t1,E b1 m1 d1] 65));obtain⟨B1,A⟩:=ex (wr.heap.size);rw[D,A]at l;rw[D];rw[A];have Qt:=Y l;clear l D A o z r u x y;go_wp2_with fail
    go_loopw [27] (λi wr=>∃(c:Nat),c<=lb/\i=.int .i64 (c:Int)/\Hid (DL w wr [some (w.heap.size,.rats (YP (Xj ps qs n k) k (cf ps k) qs c)),some (B1,.rat (cf ps k))])) λi _=>lb-(intOf i).toNat
    case atStart=>exact⟨0,As _,J,Qt⟩
    case round=>
     obtain⟨c,hj,rfl,o⟩:=hrel;by_cases bm:c<lb
     . have ck:(c:Int)<(lb:Int):=O
       obtain⟨U,ad,rfl,ah,r,u,x,y⟩:=ay.o c bm;have d:=o.o.2.2;have z:=Y (U.below d);replace r:=(d.cell (p:=⟨ad,_,none⟩) ah).trans r;replace u:=(d.cell (p:=⟨ad,_,none⟩) ah).trans u;replace x:=(d.cell (p:=⟨ad,_,none⟩) ah).trans x;replace y:=(d.cell (p:=⟨ad,_,none⟩) ah).trans y;clear U d;obtain⟨s2,S⟩:=ex (s' c);obtain⟨t2,T⟩:=ex (t' c);obtain⟨a2,K⟩:=ex (az c);obtain⟨b2,M⟩:=ex (bc c);obtain⟨l2,Q⟩:=ex (ce c);obtain⟨c2,N⟩:=ex (bf c);obtain⟨m2,R⟩:=ex (bu c);obtain⟨d2,P⟩:=ex (bg c);rw[S,T,K,M,Q,N,R,P]at z;rw[S]at r;rw[K,Q,N]at u;rw[T]at x;rw[M,R,P]at y;clear S T K M Q N R P;go_upto_region 8 with fail
       have l:DL w (wr.alloc (B #[F s2,E a2 l2 c2,F t2,E b2 m2 d2] 65)) [some (w.heap.size,.rats (YP (Xj ps qs n k) k (cf ps k) qs c)),some (B1,.rat (cf ps k)),some (wr.heap.size,.rat (cf qs c))]:=M3.DL.push o.o (.rat (cf qs c)) z.o;obtain⟨V2,D⟩:=ex (wr.alloc (B #[F s2,E a2 l2 c2,F t2,E b2 m2 d2] 65));obtain⟨B2,A⟩:=ex (wr.heap.size);rw[D,A]at l;rw[D];rw[A];have Qc:=Y l;clear l D A o z r u x y;have Qk:(k:Int)+(c:Int)<(n:Int):=by have:=HN.o;omega
       have Qe:(0:Int)<=(k:Int)+(c:Int):=O
       have Qd:=Y (show k+c<n by omega);have Qa:(k:Int)+(c:Int)=((k+c:Nat):Int):=O
       obtain⟨m,hm⟩:=ex (k+c);rw[hm]at Qd Qa;have HM:=Y hm;have di:(m:Int)<(n:Int):=by have:=Qd.o;omega
       have dt:IntKind.i64.wrap (m:Int)=(m:Int):=by rw[BQ];omega
       obtain⟨g,W⟩:=ex (YP (Xj ps qs n k) k (cf ps k) qs c);rw[W]at Qc;obtain⟨Qf,Qm,Qr,Qp⟩:=Do (show m<g.length by rw[<-W,XV,Mz];exact Qd.o) W (show Sq (cf g m)by rw[<-W];exact HK.o.2 n k c m) (HK.o.1 k c);have Qj:=Qc.o.drew;clear hm W Qc Qk Qe;refine Xa Di [[],[],[],[1,2],[],[],[],[5,6],[4,7],[8],[9],[],[11],[],[12,13],[10,14,14],[0,3,0,1,2,3,4,5,6,7,8,9,10,11,12,13,14,15],[16,15,15,0,1,2,3,4,5,6,7,8,9,10,11,12,13,14,15]] [.eq (E (some ⟨w.heap.size,0,none⟩) n n),.eq (.int .i64 (k:Int)),.eq (.int .i64 (c:Int)),.eq (.int .i64 (m:Int)),.eq (E (some ⟨w.heap.size,0,none⟩) n n),.eq (.int .i64 (k:Int)),.eq (.int .i64 (c:Int)),.eq (.int .i64 (m:Int)),.eq (C (some ⟨w.heap.size,m*4,none⟩)),.rat (cf g m),.ifq (cf g m),.rat (cf ps k),.ifq (cf ps k),.rat (cf qs c),.rat (cf ps k*cf qs c),.rat (cf g m+cf ps k*cf qs c),.eq (C (some ⟨w.heap.size,m*4,none⟩)),.eq undef] [17] (λb _ V=>DL w V [some (w.heap.size,if b.getD 0 false then .rats (g.set m (cf g m+cf ps k*cf qs c))else .rats g),some (B1,.rat (cf ps k)),some (B2,.rat (cf qs c))]) Qj (No (.vl J λ_ _=>mv)<|No (.vl J λ_ _=>mv)<|No (.vl J λ_ _=>mv)<|No (.vl J λh _=>⟨_,by refine DU ?_;rw[h.e 1,h.e 2];go_simp,J⟩)<|No (.vl J λ_ _=>mv)<|No (.vl J λ_ _=>mv)<|No (.vl J λ_ _=>mv)<|No (.vl J λh _=>⟨_,by refine DU ?_;rw[h.e 5,h.e 6];go_simp,J⟩)<|No (.vl J λh _=>⟨_,by refine DU ?_;rw[h.e 4,h.e 7];go_simp,J⟩)<|No (.vl J λh j=>OM 0 j Qf.o (h.e 8))<|No (.vl J λh _=>mi (h.g 9))<|No (.vl J λ_ j=>GO 1 j)<|No (.vl J λh _=>mi (h.g 11))<|No (.vl J λ_ j=>GO 2 j)<|No (.ci J fun {_ V _} h j=>by obtain⟨y0,e,g0⟩:=h.g 12;have Qo:=bw y0 V;exact⟨_,by refine DU ?_;rw[e];go_simp,Kz _ _ (cf ps k) (cf qs c) V g0 (h.g 13) (HP.o.at k) (HQ.o.at c)⟩)<|No (.ci J fun {_ V _} h j=>by obtain⟨y0,e,g0⟩:=h.g 10;have Qo:=cA y0 V;exact⟨_,by refine DU ?_;rw[e];go_simp,OQ _ _ (cf g m) (cf ps k*cf qs c) V g0 (h.g 14) Qr.o Qp.o⟩)<|No (.vl J λh _=>⟨_,by refine DU ?_;rw[h.e 0,h.e 3];go_simp,J⟩)<|No (.wr J λh j=>Ky 0 j Qf.o (h.g 15) (h.e 16)) Stp.end_)
        λf V hF l=>?_
       refine DU ?_;rw[hF.e 0,hF.e 1,hF.e 2,hF.e 3,hF.e 4,hF.e 5,hF.e 6,hF.e 7,hF.e 8,hF.e 16];have l:=ED l;have Qn:=Y l;clear l hF;go_wp2_with fail
       go_roundw
       case rel=>
        refine⟨c+1,O,by go_num,Y ?_⟩;have q:=Qn.o.take 2;rw[<-HM.o,<-Qm.o]at q;exact q
       case measure=>simp[intOf];omega
     . have Ql:c=lb:=O
       subst Ql;go_wp2_with fail
       go_roundw
       case rel=>
        refine⟨k+1,O,by go_num,Y ?_⟩;have q:=o.o.take 1;rw[Qh.o]at q;exact q
       case measure=>simp[intOf];omega
  . have Qi:k=la:=O
    subst Qi;go_wp2;go_ret;have hE:=o.o.rats (i:=0) J;have dh:=Mz ps qs n k;have Qb:=hE.row (n:=n) (cap:=n) O (Aa _) O O;rw[Ad O]at Qb;refine⟨_,_,J,Qb,λc=>?_,Sqs.of λi=>?_,λa' l' c' e=>(by cases e;exact Aa _),o.o.2.2⟩
    . rw[Qg.o,NA _ _ _ _ _ (Ax (by have:=HN.o;have h2:=Qh.o;have q:=Qg.o;omega)),IJ]
    . exact HK.o.2 n k 0 i
def cD(x y:H)(ps qs:Ja)(w:G)(f:Jh w x ps)(g:Jh w y qs)(r:Sqs ps)(s:Sqs qs)(q:GS ps qs)(o:ps.length+qs.length<=1099511627776):
 Calls I 9 #[x,y] w λe z=>∃u,e=.returned u/\Jh z u (Jy ps qs)/\MO w.heap.size u/\Bl w z:=by
 obtain⟨u,rfl,f⟩:=f;obtain⟨v,rfl,g⟩:=g;obtain⟨a,la,ca,rfl⟩:=f.form;obtain⟨b,lb,cb,rfl⟩:=g.form;obtain⟨W0,c⟩:=ex (((w.alloc (B #[E a la ca] 25)).alloc (B #[E b lb cb] 25)).alloc (B #[E none 0 0] 25));have b0:Boxed W0 w.heap.size 25 (E a la ca):=by rw[<-c];exact((BK w _ _).alloc _).alloc _
 have K:Boxed W0 (w.heap.size+1) 25 (E b lb cb):=by rw[<-c];have:=(BK (w.alloc (B #[E a la ca] 25)) 25 (E b lb cb)).alloc (B #[E none 0 0] 25);simpa using this
 have M:Boxed W0 (w.heap.size+1+1) 25 (E none 0 0):=by rw[<-c];have:=BK ((w.alloc (B #[E a la ca] 25)).alloc (B #[E b lb cb] 25)) 25 (E none 0 0);simpa using this
 have i:Bl w W0:=by rw[<-c];exact((Ba w _).alloc DK _).alloc si _
 obtain⟨m,n,D⟩:=Dc (cC a b la ca lb cb ps qs W0 (f.below i) (g.below i) r s q o) (λ(V:G) (v:H) (d:Ja) (h:RowK true V v d) (hs:Sqs d)=>Ik v d V h hs) c;have k0:=b0.cell;have k1:=K.cell;clear c f g r s q o;go_enter func9,ntmps9
 go_upto_region 1 with fail
 rw[D.o];go_wp2_with(first
  |(go_at_call 28;refine m.o.mono ?_;clear m;rintro e w1 ⟨v1,d,rfl,T,t,U,R,P⟩;have A:=Y t;clear t)
  |(go_at_call 27;refine(n.o _ _ d T U).mono ?_;clear n;rintro e w2 ⟨u2,rfl,l,S,Q⟩;obtain⟨X,l9,c9,rfl⟩:=l.form;have hq:=Bt P Q;have k:=boxed_below M hq;have W:=k.cell;have f2:=k.frozen))
 have N:Jb d=Jy ps qs:=Yy λj=>A.o j;rw[N]at l;refine BA (by simp[results,results9,go_sem,W]) J ⟨_,J,⟨_,J,Ej k _ l.row⟩,?_,(Bt i hq).setCell (p:=⟨w.heap.size+1+1,0,none⟩) si _⟩;intro a' l' c' e;have:=S W0.heap.size R a' l' c' e;have h2:=i.size;omega
def R9(n:Int)(x:-9223372036854775808<=n)(y:n<=9223372036854775807)(w:G):
 Calls I 54 #[.int .i64 n] w λe m=>∃u,e=.returned u/\Jl m u (n:Rat)/\Bl w m:=by
 have b:Bl w (w.alloc (B #[F false,E none 0 0,F false,E none 0 0] 65)):=Ba w _;have b0:=JN.new w 65 (F false) (E none 0 0) (F false) (E none 0 0);obtain⟨W0,d⟩:=ex (w.alloc (B #[F false,E none 0 0,F false,E none 0 0] 65));rw[d]at b b0;obtain⟨o,g,i,p⟩:=Do d (Jx n x y W0) (λ(V:G)=>Jx 1 O O V) (show Sok n from Sok.of (k:=2) (by unfold Sm Z;omega) O);have a:=Y λ(V:G) (u v:H) (D:Jk V u n) (M:Jk V v 1)=>MH u v n 1 V D M p.o Sok.one;rw[show decide ((1:Int)≠0)=true from J,show Rat.divInt n 1=(n:Rat)from by rw[Ck];grind]at a;clear d;go_enter func54,ntmps54
 go_upto_region 1 with fail
 rw[o.o];go_wp2_with(first
  |(go_at_call 95;refine g.o.mono ?_;clear g;rintro e w1 ⟨u1,rfl,c,z⟩)
  |(go_at_call 95;refine(i.o _).mono ?_;clear i;rintro e w2 ⟨u2,rfl,K,j⟩;have c:=c.below j)
  |(go_at_call 84;refine(a.o _ _ _ c K).mono ?_;clear a;rintro e w3 ⟨u3,rfl,l,A⟩;have hq:=Bt (Bt z j) A;have X:=(b0.below hq).alloc (B #[F false,E none 0 0,F false,E none 0 0] 65);obtain⟨U,q,T,s,W,r,S,t,rfl⟩:=Jl.form l;have f:=(b0.below hq).alloc (B #[F U,E q T s,F W,E r S t] 65);obtain⟨N,P,Q,R⟩:=f.cq;obtain⟨f0,f1,f2,f3⟩:=f.fq))
 exact BA (by simp[results,results54,go_sem,N,P,Q,R]) J ⟨_,J,(l.below (Ba _ _)).put4 f J J J J _ _ _ _,Jw ((Bt b hq).alloc (by have:=b.size;have:=hq.size;omega) _) (Aa _) _ _ _ _⟩
end M3
abbrev Gh(w:G):Prop:=Lib.TabIs I w "internal/strconv.uint64pow10" .u64 Lib.pow10Tab
def OX(n:Nat)(c:n<=9223372036854775807)(w:G)(b:Gh w):Calls I 39 #[.int .i64 (n:Int)] w λe a=>e=.returned (L ⟨(Xz n).toArray⟩)/\Bl w a:=by
 refine(Tryz.strconv_Itoa n O O w b).mono ?_;rintro e a ⟨rfl,k,os,rfl⟩;refine⟨?_,QL w k os⟩;unfold Lib.itoa;rw[BH O,Cv,Vs]
def cE(s:ByteArray)(w:G):Calls I 70 #[L s,L ⟨#[45]⟩] w λe a=>e=.returned (.tuple #[L ⟨(JU (Jf s)).toArray⟩,F (decide ((Jf s).head?=some 45))])/\Bl w a:=by
 refine(Km s w).mono ?_;rintro e a ⟨rfl,rfl⟩;exact⟨J,BB _ _⟩
def GA(a b:List UInt8):(⟨a.toArray⟩:ByteArray)++⟨b.toArray⟩=⟨(a++b).toArray⟩:=by
 apply ByteArray.ext;simp
def cF(i:Nat)(o:i<=1099511627776)(w:G)(f:Gh w):
 Calls I 72 #[.int .i64 (i:Int)] w λe k=>e=.returned (L ⟨(EE i).toArray⟩)/\Bl w k:=by
 by_cases a:i=0
 . subst a;go_enter func72,ntmps72
   go_wp2;go_ret;exact⟨J,BB _ _⟩
 . by_cases b:i=1
   . subst b;go_enter func72,ntmps72
     go_wp2;go_ret;exact⟨J,BB _ _⟩
   . have H:=Y (OX i O w f);have l:((i:Int)==0)=false:=by rw[BG];omega
     have m:((i:Int)==1)=false:=by rw[BG];omega
     have c:=Y (show(⟨#[120,94]⟩:ByteArray)++⟨(Xz i).toArray⟩=⟨(EE i).toArray⟩by
      unfold EE;rw[BH a,BH b];exact GA [120,94] (Xz i))
     have j:(⟨(Xz i).toArray⟩:ByteArray).size<=1000:=by
      show(Xz i).toArray.size<=_;rw[An];have:=Ih i;have n:(Jc Z i).length<=1:=JO Je uo;omega
     obtain⟨S,d⟩:∃S:ByteArray,⟨(Xz i).toArray⟩=S:=⟨_,J⟩;rw[d]at H c j;clear a b f d;go_enter func72,ntmps72
     go_wp2_with(go_at_call 39;refine H.o.mono ?_;clear H;rintro e p ⟨rfl,g⟩)
     go_ret;exact⟨by rw[<-c.o];rfl,g⟩
def SA(q:Rat):JU (J8 q)=J8 (YE q)/\decide ((J8 q).head?=some 45)=decide (q<0):=by
 by_cases h:q<0
 . rw[R3 h,bQ h];refine⟨J,?_⟩;rw[BI h];rfl
 . rw[R4 h];have a:=bS h;refine⟨by unfold JU;rw[BH a],by rw[BE a,BE h]⟩
def SB(a b c:List UInt8):(⟨a.toArray⟩:ByteArray)++⟨b.toArray⟩++⟨c.toArray⟩=⟨(a++b++c).toArray⟩:=by rw[GA,GA]
def Hb{X a:ByteArray}(h:X=a):Ending.returned (L X)=.returned (L a):=by rw[h]
def cG(va:H)(q:Rat)(i:Nat)(first:Bool)(w:G)(U:Jl w va q)(hs:Sq q)(hi:i<=1099511627776)(ad:Gh w):
 Calls I 33 #[va,.int .i64 (i:Int),F first] w λe w'=>e=.returned (L ⟨(EZ q i first).toArray⟩)/\Bl w w':=by
 obtain⟨s,a,l,c,t,b,k,d,rfl⟩:=U.form;have b0:=JN.new w 65 (F s) (E a l c) (F t) (E b k d);have r:Bl w (w.alloc (B #[F s,E a l c,F t,E b k d] 65)):=Ba w _;obtain⟨W0,T⟩:=ex (w.alloc (B #[F s,E a l c,F t,E b k d] 65));rw[T]at b0 r;obtain⟨y,j,g⟩:=Dc T (bN _ q W0 (U.below r) hs (Yb ad r)) λ(V:G)=>cE ⟨(J8 q).toArray⟩ V;rw[show Jf ⟨(J8 q).toArray⟩=J8 q from by simp[Jf],(SA q).1,(SA q).2]at g;have m:=Y λ(V:G) (h:Bl W0 V)=>cF i hi V (Yb (Yb ad r) h);obtain⟨k0,k1,k2,k3⟩:=b0.cq;have R:(⟨(J8 (YE q)).toArray⟩:ByteArray).size<=2000000000000:=by
  show(J8 (YE q)).toArray.size<=_;rw[An];obtain⟨e1,e2⟩:=K5 q;unfold J8;have h1:=Im (YE q).num;have M:=Im ((YE q).den:Int);have h3:=hs.num.words;have h4:=hs.den.words;rw[e1,Aw]at h1;rw[e2]at M;rw[e1,e2];split
  . omega
  . rw[At,Ak];omega
 have Qm:(⟨(EE i).toArray⟩:ByteArray).size<=2000:=by
  show(EE i).toArray.size<=_;rw[An];have h3:(Jc Z i).length<=1:=JO Je uo;have:=Ih i;unfold EE;split
  . simp
  . split
    . simp
    . simp only[Ak];omega
 obtain⟨ST,ah⟩:∃S:ByteArray,⟨(J8 q).toArray⟩=S:=⟨_,J⟩;obtain⟨v,ae⟩:∃S:ByteArray,⟨(EE i).toArray⟩=S:=⟨_,J⟩;obtain⟨bl,W⟩:=ex (decide (q<0));rw[ah]at j g;rw[W]at g;rw[ae]at m Qm;have Qj:=Y W;have Ql:=Y ae;clear T U hs ad ah W;obtain⟨P,z⟩:∃S:ByteArray,⟨(J8 (YE q)).toArray⟩=S:=⟨_,J⟩;have Qi:=Y z;have u:=Y (show(bl=true->(⟨#[45]⟩:ByteArray)++⟨(Xb q i).toArray⟩++v=⟨(EZ q i first).toArray⟩)/\(bl=false->first=true->(⟨(Xb q i).toArray⟩:ByteArray)++v=⟨(EZ q i first).toArray⟩)/\(bl=false->first=false->(⟨#[43]⟩:ByteArray)++⟨(Xb q i).toArray⟩++v=⟨(EZ q i first).toArray⟩)by
  rw[<-Ql.o];have N:=Qj.o;refine⟨λh=>?_,λh M=>?_,λh M=>?_⟩
  . rw[h]at N;unfold EZ Ee;rw[BL (Bf N)];exact SB [45] _ _
  . rw[h]at N;unfold EZ Ee;rw[BH (of_decide_eq_false N),M];exact(GA _ _)
  . rw[h]at N;unfold EZ Ee;rw[BH (of_decide_eq_false N),M];exact SB [43] _ _)
 by_cases x:J8 (YE q)=[49]
 . by_cases Q:0<i
   . have Qk:(0:Int)<(i:Int):=O
     rw[show Xb q i=[]from by unfold Xb;rw[BL ⟨x,Q⟩]]at u;rw[x]at g R;clear x Q z Qi;cases bl
     . cases first
       . go_enter func33,ntmps33
         go_upto_region 1 with fail
         rw[y.o];go_wp2_with(first
          |(go_at_call 71;refine j.o.mono ?_;clear j;rintro e A ⟨rfl,n⟩)
          |(go_at_call 70;refine(g.o _).mono ?_;clear g;rintro e D ⟨rfl,o⟩;have f:=Bt n o)
          |(go_at_call 72;refine(m.o _ f).mono ?_;clear m;rintro e K ⟨rfl,p⟩))
         go_ret;refine⟨?_,Bt r (Bt f p)⟩;exact Hb (X:=(⟨#[43]⟩:ByteArray)++⟨#[]⟩++v) (u.o.2.2 (by first|rfl|trivial) (by first|rfl|trivial))
       . go_enter func33,ntmps33
         go_upto_region 1 with fail
         rw[y.o];go_wp2_with(first
          |(go_at_call 71;refine j.o.mono ?_;clear j;rintro e A ⟨rfl,n⟩)
          |(go_at_call 70;refine(g.o _).mono ?_;clear g;rintro e D ⟨rfl,o⟩;have f:=Bt n o)
          |(go_at_call 72;refine(m.o _ f).mono ?_;clear m;rintro e K ⟨rfl,p⟩))
         go_ret;refine⟨?_,Bt r (Bt f p)⟩;exact Hb (X:=(⟨#[]⟩:ByteArray)++v) (u.o.2.1 (by first|rfl|trivial) (by first|rfl|trivial))
     . go_enter func33,ntmps33
       go_upto_region 1 with fail
       rw[y.o];go_wp2_with(first
        |(go_at_call 71;refine j.o.mono ?_;clear j;rintro e A ⟨rfl,n⟩)
        |(go_at_call 70;refine(g.o _).mono ?_;clear g;rintro e D ⟨rfl,o⟩;have f:=Bt n o)
        |(go_at_call 72;refine(m.o _ f).mono ?_;clear m;rintro e K ⟨rfl,p⟩))
       go_ret;refine⟨?_,Bt r (Bt f p)⟩;exact Hb (X:=(⟨#[45]⟩:ByteArray)++⟨#[]⟩++v) (u.o.1 (by first|rfl|trivial))
   . have Qk:¬(0:Int)<(i:Int):=O
     rw[show Xb q i=[49]from by unfold Xb;rw[BH λh=>Q h.2,x]]at u;rw[x]at g R;clear x Q z Qi;cases bl
     . cases first
       . go_enter func33,ntmps33
         go_upto_region 1 with fail
         rw[y.o];go_wp2_with(first
          |(go_at_call 71;refine j.o.mono ?_;clear j;rintro e A ⟨rfl,n⟩)
          |(go_at_call 70;refine(g.o _).mono ?_;clear g;rintro e D ⟨rfl,o⟩;have f:=Bt n o)
          |(go_at_call 72;refine(m.o _ f).mono ?_;clear m;rintro e K ⟨rfl,p⟩))
         go_ret;refine⟨?_,Bt r (Bt f p)⟩;exact Hb (X:=(⟨#[43]⟩:ByteArray)++⟨#[49]⟩++v) (u.o.2.2 (by first|rfl|trivial) (by first|rfl|trivial))
       . go_enter func33,ntmps33
         go_upto_region 1 with fail
         rw[y.o];go_wp2_with(first
          |(go_at_call 71;refine j.o.mono ?_;clear j;rintro e A ⟨rfl,n⟩)
          |(go_at_call 70;refine(g.o _).mono ?_;clear g;rintro e D ⟨rfl,o⟩;have f:=Bt n o)
          |(go_at_call 72;refine(m.o _ f).mono ?_;clear m;rintro e K ⟨rfl,p⟩))
         go_ret;refine⟨?_,Bt r (Bt f p)⟩;exact Hb (X:=(⟨#[49]⟩:ByteArray)++v) (u.o.2.1 (by first|rfl|trivial) (by first|rfl|trivial))
     . go_enter func33,ntmps33
       go_upto_region 1 with fail
       rw[y.o];go_wp2_with(first
        |(go_at_call 71;refine j.o.mono ?_;clear j;rintro e A ⟨rfl,n⟩)
        |(go_at_call 70;refine(g.o _).mono ?_;clear g;rintro e D ⟨rfl,o⟩;have f:=Bt n o)
        |(go_at_call 72;refine(m.o _ f).mono ?_;clear m;rintro e K ⟨rfl,p⟩))
       go_ret;refine⟨?_,Bt r (Bt f p)⟩;exact Hb (X:=(⟨#[45]⟩:ByteArray)++⟨#[49]⟩++v) (u.o.1 (by first|rfl|trivial))
 . have Qh:¬P=(⟨#[49]⟩:ByteArray):=by
    intro h;apply x;rw[<-z]at h;have M:=Bw (λb:ByteArray=>b.data.toList) h;simpa using M
   have ai:¬P.toList=[49]:=by
    rw[XS,<-z];simpa using x
   clear Qh;rw[show Xb q i=J8 (YE q)from by unfold Xb;rw[BH λh=>x h.1],z]at u;rw[z]at g R;clear x z;cases bl
   . cases first
     . go_enter func33,ntmps33
       go_upto_region 1 with fail
       rw[y.o];go_wp2_with(first
        |(go_at_call 71;refine j.o.mono ?_;clear j;rintro e A ⟨rfl,n⟩)
        |(go_at_call 70;refine(g.o _).mono ?_;clear g;rintro e D ⟨rfl,o⟩;have f:=Bt n o)
        |(go_at_call 72;refine(m.o _ f).mono ?_;clear m;rintro e K ⟨rfl,p⟩))
       go_ret;refine⟨?_,Bt r (Bt f p)⟩;exact Hb (X:=(⟨#[43]⟩:ByteArray)++P++v) (u.o.2.2 (by first|rfl|trivial) (by first|rfl|trivial))
     . go_enter func33,ntmps33
       go_upto_region 1 with fail
       rw[y.o];go_wp2_with(first
        |(go_at_call 71;refine j.o.mono ?_;clear j;rintro e A ⟨rfl,n⟩)
        |(go_at_call 70;refine(g.o _).mono ?_;clear g;rintro e D ⟨rfl,o⟩;have f:=Bt n o)
        |(go_at_call 72;refine(m.o _ f).mono ?_;clear m;rintro e K ⟨rfl,p⟩))
       go_ret;refine⟨?_,Bt r (Bt f p)⟩;exact Hb (X:=(P:ByteArray)++v) (u.o.2.1 (by first|rfl|trivial) (by first|rfl|trivial))
   . go_enter func33,ntmps33
     go_upto_region 1 with fail
     rw[y.o];go_wp2_with(first
      |(go_at_call 71;refine j.o.mono ?_;clear j;rintro e A ⟨rfl,n⟩)
      |(go_at_call 70;refine(g.o _).mono ?_;clear g;rintro e D ⟨rfl,o⟩;have f:=Bt n o)
      |(go_at_call 72;refine(m.o _ f).mono ?_;clear m;rintro e K ⟨rfl,p⟩))
     go_ret;refine⟨?_,Bt r (Bt f p)⟩;exact Hb (X:=(⟨#[45]⟩:ByteArray)++P++v) (u.o.1 (by first|rfl|trivial))
def SC(B b:Nat)(l:List UInt8)(w:G)(h:Lib.IsBuilder 71 5 B b (Lib.byteCells l) w):Calls I 34 #[C (some ⟨b,0,none⟩)] w λe a=>e=.returned (.int .i64 (l.length:Int))/\Bl w a:=by
 refine(Tryz.Builder_Len B b _ w h).mono ?_;rintro e a ⟨rfl,rfl⟩;grind[DA,BB]
def SF(w:G)(b:Nat)(a:kR)(len cap:Nat)(qs:Ja)(k:Nat)(W:G):Prop:=
 (Boxed W (b+1) 23 (E a len cap)/\Bl w W)/\Lib.IsBuilder 71 5 b b (Lib.byteCells (J9 (qs.drop (len-k)) (len-k))) W
def cH(w:G)(b:Nat)(a:kR)(len cap:Nat)(qs:Ja)(d:w.heap.size<=b):OwnFrom (b+1+1) (SF w b a len cap qs):=
 BN (BN (Bi (boxed_own _ _ λ_=>E a len cap) _) (Bu (Aa _) O)) λ_ _ _ _ h hg c=>OE h hg c
def Hc(w W:G)(c b:Nat)(a:kR)(len cap:Nat)(x y z u:H)(T:List UInt8)(V:G):Prop:=
 ((Boxed V (c+1) 23 (E a len cap)/\Bl w V)/\Lib.IsBuilder 71 5 c c (Lib.byteCells T) V)/\KeepsOthers W V/\JN V b 65 x y z u/\c+1<V.heap.size
def Hc.below{w W:G}{d b:Nat}{a:kR}{len cap:Nat}{x y z u:H}{T:List UInt8}{V V':G}(h:Hc w W d b a len cap x y z u T V)(c:Bl V V'):Hc w W d b a len cap x y z u T V':=
 ⟨⟨⟨boxed_below h.1.1.1 c,Bt h.1.1.2 c⟩,XD h.1.2 c⟩,h.2.1.trans (Yn c),h.2.2.1.below c,Ap h.2.2.2 c.size⟩
def Hc.write{w W:G}{c b:Nat}{a:kR}{len cap:Nat}{x y z u:H}{T n:List UInt8}{V V':G}(h:Hc w W c b a len cap x y z u T V)(s:w.heap.size<=c)(q:b≠c){bs:List H}
(r:Lib.BuilderAt 71 5 c c (C (some ⟨c,0,none⟩)) bs V')(l:Below c V V')(m:∀k o,V.heap[k]?=some o->k≠c->(∀f z,o≠B f 5 z)->V'.heap[k]?=some o)(e:bs=Lib.byteCells n):Hc w W c b a len cap x y z u n V':=by
 refine⟨⟨⟨m _ _ h.1.1.1 O (λf z e=>by cases e),h.1.1.2.trans (l.mono s)⟩,Ax (by rw[<-e];exact r)⟩,h.2.1.trans ⟨l.size,λk o d g=>?_⟩,m _ _ h.2.2.1 q (λf z e=>by cases e),Ap h.2.2.2 l.size⟩;by_cases p:k=c
 . subst p;rcases h.1.2 with i|i
   . obtain⟨_,v,j,_⟩:=i;rw[j]at d;cases d;cases g
   . obtain⟨_,v,j,_⟩:=i;rw[j]at d;cases d;cases g
 . exact m k o d p (λf z e=>by rw[e]at g;cases g)
def KI(w W:G)(c b:Nat)(a:kR)(len cap:Nat)(x y z u:H)(T:List UInt8)(q:Rat)(V:G):Prop:=Hc w W c b a len cap x y z u T V/\Jl V (.agg #[x,y,z,u]) q
def KI.below{w W:G}{c b:Nat}{a:kR}{len cap:Nat}{x y z u:H}{T:List UInt8}{q:Rat}{V V':G}(h:KI w W c b a len cap x y z u T q V)(d:Bl V V'):KI w W c b a len cap x y z u T q V':=⟨h.1.below d,h.2.below d⟩
def OY(v:H)(qs:Ja)(w:G)(hp:Jh w v qs)(hs:Sqs qs)(hT:∀m,(J9 (qs.drop m) m).length<=140737488355328)(bu:Gh w):
 Calls I 11 #[v] w λe w'=>e=.returned (L ⟨(FZ qs).toArray⟩)/\Bl w w':=by
 obtain⟨u0,rfl,h⟩:=hp;obtain⟨a,len,cap,rfl⟩:=h.form;obtain⟨hl,dt,du,di,s,t,aa,bb,ll,cc,kk,dd,hc⟩:=h.forms;obtain⟨HL,N,HS,Ub,Qp⟩:=GL hl hc hs hT bu;clear hc hl hs h hT bu;obtain⟨W0,ah⟩:=ex (((w.alloc (B #[E a len cap] 25)).alloc (B #[C none,E none 0 0] 71)).alloc (B #[E a len cap] 23));obtain⟨d,aj⟩:=ex (w.heap.size+1);have hN:W0.heap.size=d+1+1:=by rw[<-ah,<-aj];simp
 have x2:Boxed W0 (d+1) 23 (E a len cap):=by
  have U:=BK ((w.alloc (B #[E a len cap] 25)).alloc (B #[C none,E none 0 0] 71)) 23 (E a len cap);rw[ah]at U;simpa[aj]using U
 have x3:Bl w W0:=by rw[<-ah];exact((Ba w _).alloc DK _).alloc si _
 have x5:Lib.IsBuilder 71 5 d d (Lib.byteCells (J9 (qs.drop (len-0)) (len-0))) W0:=by
  refine Am ⟨Aa _,E none 0 0,?_,?_,by simp[Value.ownBlock]⟩
  . rw[<-ah,<-aj];have U:=BC (w.alloc (B #[E a len cap] 25)) (B #[C none,E none 0 0] 71);rw[A1]at U;exact(Bh _ _ _ DK).trans U
  . rw[AN (by have:=HL.o;omega)];exact⟨J,Am ⟨J,J⟩⟩
 have Qr:=Y ah;have Qk:=Y aj;have Qj:w.heap.size<=d:=O
 clear ah;refine(BJ (n:=3)).1 ?_;refine BU func11 J trivial ?_ J;simp only[ntmps11,An,Ak,AK,Nat.reduceAdd,Nat.reduceSub,Ay,Az,AJ,AA,Aj,Au];gi_wp2_with(refine⟨trivial,?_⟩;gi_at_call 30;refine(OS Fence.wide _ trivial J _ _ _ _).mono ?_;rintro e w' ⟨rfl,rfl⟩)
 rw[Qr.o];try simp only[Qk.o]
 clear aj;refine Ps J O (gf:=67) (lb:=#[C (some ⟨d+1,0,none⟩)]) J trivial (DB func67 kS J)
  (OR Fence.wide _ trivial J O (d+1) a len cap (λj=>F (s j)) (λj=>E (aa j) (ll j) (cc j)) (λj=>F (t j)) (λj=>E (bb j) (kk j) (dd j)) di) (λ_=>rfl)
  (SF w d a len cap qs) (λ_ _ _=>False) (by rw[hN];exact cH w d a len cap qs Qj) (λc s W W' row h=>h.elim) ⟨⟨x2,x3⟩,x5⟩ ?rd
  (λk b=>{ tmps:=#[.agg #[E a len cap],C (some ⟨w.heap.size,0,none⟩),L ⟨#[]⟩,C (some ⟨d,0,none⟩),.int .i64 ((len:Int)-1-k),C (some ⟨b,0,none⟩),C (some ⟨w.heap.size,0,none⟩),E a len cap,.func (.func 67) #[] #[C (some ⟨d+1,0,none⟩)],.int .i64 ((len:Int)-1-k),.agg #[F (s (len-1-k)),E (aa (len-1-k)) (ll (len-1-k)) (cc (len-1-k)),F (t (len-1-k)),E (bb (len-1-k)) (kk (len-1-k)) (dd (len-1-k))],undef,undef,undef,undef,undef,undef,undef,undef,undef,undef,undef,undef],defers:=[] })
  (λk=>B #[F (s (len-1-k)),E (aa (len-1-k)) (ll (len-1-k)) (cc (len-1-k)),F (t (len-1-k)),E (bb (len-1-k)) (kk (len-1-k)) (dd (len-1-k))] 65 (0,0)) ?assign ?body ?done ?stop
 case stop=>intro D c k W _ _ h;exact h.elim
 case rd=>
  intro k W M;have hB:=M.1.2;refine⟨M.1.1.cell,λhk=>?_⟩;obtain⟨_,b,ea,hb,U,P,h3,h4⟩:=N.o (len-1-k) O;exact⟨b,ea,(hB.cell (p:=⟨b,_,none⟩) hb).trans U,(hB.cell (p:=⟨b,_,none⟩) hb).trans P,(hB.cell (p:=⟨b,_,none⟩) hb).trans h3,(hB.cell (p:=⟨b,_,none⟩) hb).trans h4⟩
 case assign=>
  intro l k W K X;unfold K0;gi_wp2;exact X
 case done=>
  rintro D W hD ⟨⟨y1,y2⟩,A⟩ X;rw[show qs.drop (len-len)=qs from by rw[A7];rfl,A7]at A;have Qf:d<=W.heap.size:=by have:=y1.lt;omega
  have HY:=Y A;have Qd:=Y (SC d d _ W A);clear A;by_cases am:J9 qs 0=[]
  . have Qe:=Y (show FZ qs=[48]by unfold FZ;rw[BL am]);rw[am]at Qd;gi_wp2_with(refine⟨trivial,?_⟩;gi_at_call 34;refine((BJ (n:=_)).2 Qd.o).mono ?_;rintro e w6 ⟨rfl,ai⟩)
    have Qh:w6.heap[D]?=some (.deferred (some [])):=(Yn ai).same D _ X J;refine⟨DK,.inl ⟨_,_,J,BX Qh,?_⟩⟩;refine⟨L ⟨#[48]⟩,by simp[results,results11,go_sem],by rw[Qe.o],?_⟩;exact below_grown (Bt y2 ai) (BV _ D (.deferred none)) O
  . have Qe:=Y (show FZ qs=J9 qs 0 by unfold FZ;rw[BH am]);have Qn:((J9 qs 0).length:Int)≠0:=by
     have:0<(J9 qs 0).length:=Ac.2 am
     omega
    have Qz:(((J9 qs 0).length:Int)==0)=false:=by rw[BG];exact Qn
    have Ql:=Y λ(V:G) (h:Bl W V)=>Tryz.Builder_String_any_k d d (J9 qs 0) V (Lib.IsBuilderF.of (XD HY.o h)) (Al Qf h.size);obtain⟨n,hn⟩:=ex ((J9 qs 0).length);rw[hn]at Qd Qz Qn;obtain⟨ST,aq⟩:∃S:ByteArray,⟨(J9 qs 0).toArray⟩=S:=⟨_,J⟩;rw[aq]at Ql;have Qt:=Y (show⟨(FZ qs).toArray⟩=ST by rw[Qe.o];exact aq);clear am hn aq HY;gi_wp2_with(first
     |(refine⟨trivial,?_⟩;gi_at_call 34;refine((BJ (n:=_)).2 Qd.o).mono ?_;clear Qd;rintro e w6 ⟨rfl,ai⟩)
     |(refine⟨trivial,?_⟩;gi_at_call 35;refine((BJ (n:=_)).2 (Ql.o _ ai)).mono ?_;clear Ql;rintro e w7 ⟨rfl,_,ck,dh⟩))
    have Qh:w6.heap[D]?=some (.deferred (some [])):=(Yn ai).same D _ X J;have Qs:=dh D _ Qh (λe=>by cases e;omega) (λc fz e=>by cases e);refine⟨DK,.inl ⟨_,_,J,BX Qs,?_⟩⟩;refine⟨L ST,by simp[results,results11,go_sem],by rw[Qt.o],?_⟩;exact below_grown ((Bt y2 ai).trans (ck.mono Qj)) (BV _ D (.deferred none)) O
 case body=>
  rintro l k b W ⟨⟨y1,y2⟩,A⟩ hk dj co ay;have hm:len-1-k<len:=O
  obtain⟨hi,_⟩:=N.o (len-1-k) hm;have HI:=Y (Jl.below hi y2);have e1:((len:Int)-1-k)=((len-1-k:Nat):Int):=O
  have ek:len-k=len-1-k+1:=O
  rw[e1];rw[ek]at A;have Qi:=Y (show len-(k+1)=len-1-k by omega);clear e1 hi ek;obtain⟨m,bk⟩:=ex (len-1-k);rw[bk]at ay HI hm A Qi ⊢;have HM:=Y (show m<qs.length by have:=HL.o;omega);obtain⟨Qc,Qw,Qg⟩:=Dc (KF qs HM.o) (Ub.o m) (HS.o.at m);have Qu:m<=1099511627776:=O
  clear bk;have q0:JN W b 65 (F (s m)) (E (aa m) (ll m) (cc m)) (F (t m)) (E (bb m) (kk m) (dd m)):=ay;obtain⟨s1,bn⟩:=ex (s m);obtain⟨t1,bt⟩:=ex (t m);obtain⟨a1,bc⟩:=ex (aa m);obtain⟨b1,bf⟩:=ex (bb m);obtain⟨l1,bj⟩:=ex (ll m);obtain⟨c1,bg⟩:=ex (cc m);obtain⟨m1,bm⟩:=ex (kk m);obtain⟨d1,bi⟩:=ex (dd m);rw[bn,bt,bc,bf,bj,bg,bm,bi]at q0 HI ⊢;obtain⟨T,az⟩:=ex (J9 (qs.drop (m+1)) (m+1));rw[az]at A Qc;obtain⟨q,bh⟩:∃y,cf qs m=y:=⟨_,J⟩;rw[bh]at HI Qc Qg;have hS:Hc w W d b a len cap (F s1) (E a1 l1 c1) (F t1) (E b1 m1 d1) T W:=⟨⟨⟨y1,y2⟩,A⟩,KeepsOthers.refl W,q0,by have:=y1.lt;omega⟩;have Qy:b≠d:=O
  clear bn bt bc bf bj bg bm bi az bh y1 y2 A ay dj co;obtain⟨k0,k1,k2,k3⟩:=q0.cq;have HZ:=Y λ(n9:Nat)=>Be l ((BJ (n:=n9)).2 (Ru _ q W HI.o Qg.o));by_cases hx:q=0
  . rw[show decide (q=0)=true from BI hx]at HZ;have HX:=Y hx;clear hx;gi_wp2_with(refine⟨trivial,?_⟩;gi_at_call 31;refine(HZ.o _).mono ?_;rintro e w' ⟨rfl,an⟩)
    have ae:=hS.below an;refine⟨ae.2.1.from _,ae.1.1,?_⟩;rw[Qi.o,Qc.o,BL HX.o];exact ae.1.2
  . rw[show decide (q=0)=false from BE hx]at HZ;have HX:=Y hx;clear hx;gi_wp2_with(refine⟨trivial,?_⟩;gi_at_call 31;refine(HZ.o _).mono ?_;clear HZ;rintro e w' ⟨rfl,an⟩)
    have ae:=hS.below an;have ce:=Y (HI.o.below an);clear hS k0 k1 k2 k3 q0 HI;obtain⟨n,hn⟩:=ex (T.length);obtain⟨f,hf⟩:=ex (T.isEmpty);have dz:((n:Int)==0)=f:=by
     rw[<-hf,<-hn,Cu,beq_iff_eq,List.isEmpty_iff_length_eq_zero];omega
    rw[BH HX.o,hf]at Qc;have HN:=Y hn;have Qm:=Y (show T.length+(EZ q m f).length<=140737488355328 by
     have:=Qw.o;rw[Qc.o,At]at this;exact this)
    have Qq:KI w W d b a len cap (F s1) (E a1 l1 c1) (F t1) (E b1 m1 d1) T q w'.drew:=KI.below ⟨ae,ce.o⟩ ((BB _ w').drew);have Qv:=Y λ(V:G) (h:Bl w V)=>Yb Qp.o h;obtain⟨TX,ak⟩:∃S:ByteArray,⟨(EZ q m f).toArray⟩=S:=⟨_,J⟩;obtain⟨Qe,Ua,Qx,Qo⟩:=Do ak (show T.length+TX.size<=140737488355328 by rw[<-ak];show _+(EZ q m f).toArray.size<=_;rw[An];exact Qm.o) (show Lib.byteCells T++Lib.strCells TX=Lib.byteCells (T++EZ q m f)by rw[<-ak];simp[Lib.byteCells,Lib.strCells]) λ(V:G) (u:H) (hu:Jl V u q) (h:Bl w V)=>cG u q m f V hu Qg.o Qu (Qv.o V h);rw[ak]at Qo;clear ae hn hf ak;refine XH Di [[],[],[],[2],[0,1,3,2],[4,4]] kS DN
     (λD ap V=>∃(ta tb tc td te tf:H),ap={ tmps:=#[.agg #[E a len cap],C (some ⟨w.heap.size,0,none⟩),L { data:=#[] },C (some ⟨d,0,none⟩),.int .i64 ↑m,C (some ⟨b,0,none⟩),C (some ⟨w.heap.size,0,none⟩),E a len cap,.func (.func 67) #[] #[C (some ⟨d+1,0,none⟩)],.int .i64 ↑m,.agg #[F s1,E a1 l1 c1,F t1,E b1 m1 d1],.agg #[F s1,E a1 l1 c1,F t1,E b1 m1 d1],F false,F true,ta,tb,tc,td,te,tf,undef,undef,undef],defers:=[] }/\Hid ((D 0=true->D 5=false->Jl V ta q)/\(D 1=true->tb=.int .i64 (m:Int))/\(D 2=true->tc=.int .i64 (n:Int))/\(D 3=true->td=F f)/\(D 4=true->te=L TX)/\(D 5=true->True))/\Hid ((D 5=false->KI w W d b a len cap (F s1) (E a1 l1 c1) (F t1) (E b1 m1 d1) (T) q V)/\(D 5=true->Hc w W d b a len cap (F s1) (E a1 l1 c1) (F t1) (E b1 m1 d1) (T++EZ q m f) V)))
     ⟨_,_,_,_,_,_,J,Y DK,Y ⟨λ_=>Qq,DK⟩⟩ ?step1 ?fin1
    case step1=>
     rintro D ap V i ds R hi x ad ⟨ta,tb,tc,td,te,tf,rfl,g,o⟩;have dx:i<6:=(Ar.1 hi).1;obtain rfl|rfl|rfl|rfl|rfl|rfl:=PU i O
     all_goals
      simp only[AH,AD,AO]at hi;subst hi
     . have z:D 5=false:=DQ R (DQ (a:=4) R ad);have r:=o.o.1 z;obtain⟨e0,e1,e2,e3⟩:=r.1.2.2.1.cq;clear x;refine Ew ?_;exact⟨(Nk (Gf g λ_ _=>r.2) λ_=>trivial),o⟩
     . have z:D 5=false:=DQ R (DQ (a:=4) R ad);have r:=o.o.1 z;clear x;refine Ew ?_;exact⟨(Nk (Gt g) λ_=>trivial),o⟩
     . have z:D 5=false:=DQ R (DQ (a:=4) R ad);have r:=o.o.1 z;clear x;have N:=Y λ(n9:Nat)=>Be l ((BJ (n:=n9)).2 (SC d d T V r.1.1.2));rw[HN.o]at N;refine Bb J λK X=>?_;go_simp;gi_wp2_with(refine⟨trivial,?_⟩;gi_at_call 34;refine(N.o _).mono ?_;rintro e w5 ⟨rfl,Q⟩)
       exact⟨_,_,_,_,_,_,J,Y ⟨λh P=>(g.o.1 h P).below Q,g.o.2.1,λ_=>rfl,g.o.2.2.2.1,g.o.2.2.2.2.1,λ_=>trivial⟩,Y ⟨λh=>(o.o.1 h).below Q,λh=>(o.o.2 h).below Q⟩⟩
     . have z:D 5=false:=DQ R (DQ (a:=4) R ad);have r:=o.o.1 z;obtain rfl:=g.o.2.2.1 (x 2 DK);clear x;refine Ew ?_;exact⟨Y ⟨g.o.1,g.o.2.1,λ_=>rfl,λ_=>rfl,g.o.2.2.2.2.1,λ_=>trivial⟩,o⟩
     . have z:D 5=false:=DQ R ad;have r:=o.o.1 z;have h0:=g.o.1 (x 0 DK) z;obtain rfl:=g.o.2.1 (x 1 DK);obtain rfl:=g.o.2.2.2.1 (x 3 DK);clear x;have N:=Y λ(n9:Nat)=>Be l ((BJ (n:=n9)).2 (Qo.o V _ h0 r.1.1.1.2));clear h0;refine Bb J λK X=>?_;go_simp;gi_wp2_with(refine⟨trivial,?_⟩;gi_at_call 33;refine(N.o _).mono ?_;rintro e w5 ⟨rfl,Q⟩)
       exact⟨_,_,_,_,_,_,J,Y ⟨λh P=>(g.o.1 h P).below Q,λ_=>rfl,g.o.2.2.1,λ_=>rfl,λ_=>rfl,λ_=>trivial⟩,Y ⟨λh=>(o.o.1 h).below Q,λh=>(o.o.2 h).below Q⟩⟩
     . have r:=o.o.1 ad;obtain rfl:=g.o.2.2.2.2.1 (x 4 DK);clear x;have N:=Y λ(n9:Nat)=>Be l ((BJ (n:=n9)).2 (L1 d d _ TX V r.1.1.2 (by rw[DA];exact Ua.o) (by have:=r.1.2.2.2;omega)));refine Bb J λK X=>?_;go_simp;gi_wp2_with(refine⟨trivial,?_⟩;gi_at_call 32;refine(N.o _).mono ?_;rintro e w5 ⟨⟨v5,rfl⟩,⟨cn,Q⟩,de⟩)
       exact⟨_,_,_,_,_,_,J,Y ⟨λ_ h=>by simp at h,g.o.2.1,g.o.2.2.1,g.o.2.2.2.1,λ_=>rfl,λ_=>trivial⟩,Y ⟨λh=>by simp at h,λ_=>r.1.write Qj Qy cn Q de Qx.o⟩⟩
    case fin1=>
     rintro D ap V cj ⟨ta,tb,tc,td,te,tf,rfl,g,o⟩;have P:=o.o.2 (cj 5 DN);refine⟨P.2.1.from _,P.1.1,?_⟩;rw[Qi.o,Qc.o];exact P.1.2
open M3

