import Derived.Test.YtdmmbgahnkbnaaaGreatDoorT26
import Derived.RangeFuncNested
import Derived.RangeFuncLeaves
import Derived.RangeFuncBound
import Derived.LoopIn
set_option linter.all false
open Go.Value renaming slice->E,bool->N,pointer->I,int->Q
open Go renaming World->F,Value->S,undef->P
open Go.Proofs.Tryz renaming prog->L
open Go.Obj renaming cells->C
open Go.IntKind renaming i64->R
set_option maxRecDepth 99999
set_option maxHeartbeats 0
namespace Go.Proofs.YtdmmbgahnkbnaaaGreatDoor
open Go.RowKit Go.Shelf
attribute [local go_sem] Oper.semAt_some
def kX(n c:Nat)(w:F):Calls L 103 #[E none n c] w λe w'=>e=.returned (E none 0 0)/\w'=w:=by
 have d:∀(w:F) (a:Option Addr) (n c b c':Nat),(binOp .eql 22 (E a n c) (E none b c')).run L w=.ok (N a.isNone) w:=λw a n c b c'=>Bo w _ _ a n c b c' Tryz.underlying22;go_enter Tryz.func103,Tryz.ntmps103
 go_wp2;go_ret;exact⟨rfl,rfl⟩
theorem kY(p:Addr)(n c:Nat)(xs:List S)(w:F)(hn:n<=1099511627776)(hl:xs.length=n*4)(g:∀j u,xs[j]?=some u->w.cell? (p.add j)=some u)(f:∀u∈xs,u.oneCell'=true):
 Calls L 103 #[E (some p) n c] w λe w'=>∃b,e=.returned b/\w'.ownsRow w.heap.size 41 4 b n xs/\Bl w w':=by
 obtain⟨s,hi,o,q,r⟩:=DA Tryz.infoRat;have v:∀(w:F) (a:Option Addr) (n c d c':Nat),(binOp .eql 22 (E a n c) (E none d c')).run L w=.ok (N a.isNone) w:=λw a n c d c'=>Bo w _ _ a n c d c' Tryz.underlying22;obtain⟨A,B,C⟩:=Db g f hl;clear g f hl;go_enter Tryz.func103,Tryz.ntmps103
 go_wp2_with(at_builtin;refine wpList_append_own _ rfl _ _ 22 rfl w.heap.size 41 s (.agg #[N false,E none 0 0,N false,E none 0 0]) 4 64 Tryz.underlying22 hi o q r rfl DN _ _ _ rfl (World.ownsRow_made w #[] 0 (Aa _) (As _) rfl) p n c xs rfl ?qc1 ?qc2 ?qc3 ?qc4 ?qc5 ?qc6 ?_)
 case qc1=>exact C.o
 case qc2=>intro j u l;exact Lib.cell?_alloc_some _ (A.o j u l)
 case qc3=>exact B.o
 case qc4=>unfold maxLen;omega
 case qc5=>omega
 case qc6=>simp
 intro b w1 m i t;go_wp2;go_ret;refine⟨b,rfl,by simpa using m,?_⟩;exact(Ba w _).grown i DL (by intro k hk;simp[Value.ownBlock]at hk;omega)
theorem kZ(v:S)(qs:List Rat)(w:F)(h:RowK true w v qs):Calls L 103 #[v] w λe w'=>∃u,e=.returned u/\RowK true w' u qs/\MB w.heap.size u/\Bl w w'/\(u=E none 0 0\/∃g cap,u=E (some ⟨g,0,none⟩) qs.length cap/\w.heap.size<=g/\Dp true w' g qs):=by
 obtain⟨a,cap,rfl,y,z,k,f⟩:=h;rcases a with _|p
 . refine(kX _ _ w).mono ?_;rintro e w' ⟨rfl,rfl⟩;have hq:qs=[]:=by
    grind
   subst hq;exact⟨_,J,RowK.nil _ _,λa l c e=>(by cases e),BB _ _,Or.inl J⟩
 . have n:∃cs,GQ true w cs qs/\∀j u,cs[j]?=some u->w.cell? (p.add j)=some u:=by
    rcases f with f|⟨b,o,hE⟩
    . rw[f];exact⟨[],GQ.nil _ _,λj u e=>by simp at e⟩
    . cases o;obtain⟨cs,d,i⟩:=hE.cells;refine⟨cs,d,λj u e=>?_⟩;rw[Y5,AW];exact i j u e
   obtain⟨cs,d,i⟩:=n;refine(kY p qs.length cap cs w k d.1 i d.one).mono ?_;rintro e w' ⟨x,rfl,t,m⟩;obtain⟨q,_,s⟩:=RowK.owns (r:=true) t (d.below m) k;refine⟨x,J,q,λa l c e=>?_,m,s⟩;grind
def kl(n c:Nat)(w:F):Calls L 241 #[E none n c] w λe w'=>e=.returned (E none 0 0)/\w'=w:=by
 have d:∀(w:F) (a:Option Addr) (n c b c':Nat),(binOp .eql 23 (E a n c) (E none b c')).run L w=.ok (N a.isNone) w:=λw a n c b c'=>Bo w _ _ a n c b c' Tryz.underlying23;go_enter Tryz.func241,Tryz.ntmps241
 go_wp2;go_ret;exact⟨rfl,rfl⟩
theorem ko(p:Addr)(n c:Nat)(xs:List S)(w:F)(hn:n<=1099511627776)(hl:xs.length=n*4)(g:∀j u,xs[j]?=some u->w.cell? (p.add j)=some u)(f:∀u∈xs,u.oneCell'=true):
 Calls L 241 #[E (some p) n c] w λe w'=>∃b,e=.returned b/\w'.ownsRow w.heap.size 41 4 b n xs/\Bl w w':=by
 obtain⟨s,hi,o,q,r⟩:=DA Tryz.infoRat;have v:∀(w:F) (a:Option Addr) (n c d c':Nat),(binOp .eql 23 (E a n c) (E none d c')).run L w=.ok (N a.isNone) w:=λw a n c d c'=>Bo w _ _ a n c d c' Tryz.underlying23;obtain⟨A,B,C⟩:=Db g f hl;clear g f hl;go_enter Tryz.func241,Tryz.ntmps241
 go_wp2_with(at_builtin;refine wpList_append_own _ rfl _ _ 23 rfl w.heap.size 41 s (.agg #[N false,E none 0 0,N false,E none 0 0]) 4 64 Tryz.underlying23 hi o q r rfl DN _ _ _ rfl (World.ownsRow_made w #[] 0 (Aa _) (As _) rfl) p n c xs rfl ?qc1 ?qc2 ?qc3 ?qc4 ?qc5 ?qc6 ?_)
 case qc1=>exact C.o
 case qc2=>intro j u l;exact Lib.cell?_alloc_some _ (A.o j u l)
 case qc3=>exact B.o
 case qc4=>unfold maxLen;omega
 case qc5=>omega
 case qc6=>simp
 intro b w1 m i t;go_wp2;go_ret;refine⟨b,rfl,by simpa using m,?_⟩;exact(Ba w _).grown i DL (by intro k hk;simp[Value.ownBlock]at hk;omega)
theorem kr(v:S)(qs:List Rat)(w:F)(h:RowK true w v qs):Calls L 241 #[v] w λe w'=>∃u,e=.returned u/\RowK true w' u qs/\MB w.heap.size u/\Bl w w'/\(u=E none 0 0\/∃g cap,u=E (some ⟨g,0,none⟩) qs.length cap/\w.heap.size<=g/\Dp true w' g qs):=by
 obtain⟨a,cap,rfl,y,z,k,f⟩:=h;rcases a with _|p
 . refine(kl _ _ w).mono ?_;rintro e w' ⟨rfl,rfl⟩;have hq:qs=[]:=by
    grind
   subst hq;exact⟨_,J,RowK.nil _ _,λa l c e=>(by cases e),BB _ _,Or.inl J⟩
 . have n:∃cs,GQ true w cs qs/\∀j u,cs[j]?=some u->w.cell? (p.add j)=some u:=by
    rcases f with f|⟨b,o,hE⟩
    . rw[f];exact⟨[],GQ.nil _ _,λj u e=>by simp at e⟩
    . cases o;obtain⟨cs,d,i⟩:=hE.cells;refine⟨cs,d,λj u e=>?_⟩;rw[Y5,AW];exact i j u e
   obtain⟨cs,d,i⟩:=n;refine(ko p qs.length cap cs w k d.1 i d.one).mono ?_;rintro e w' ⟨x,rfl,t,m⟩;obtain⟨q,_,s⟩:=RowK.owns (r:=true) t (d.below m) k;refine⟨x,J,q,λa l c e=>?_,m,s⟩;grind
theorem QE(v:S)(qs:List Rat)(w:F)(h:RowK true w v qs)(hs:Sqs qs):
 Calls L 40 #[v] w λe w'=>∃u,e=.returned u/\Jd w' u (Jc qs)/\Nq w.heap.size u/\Bl w w':=by
 obtain⟨a,l,c,rfl⟩:=h.form;have b0:=BH w 25 (E none 0 0);have b:Bl w (w.alloc (C #[E none 0 0] 25)):=Ba w _;obtain⟨W0,f⟩:=ex (w.alloc (C #[E none 0 0] 25));rw[f]at b0 b;obtain⟨m,i,g⟩:=Db f (kZ _ qs W0 (h.below b)) λ(V:F) (v:S) (h:RowK true V v qs)=>Kh v qs V h hs;have k:=b0.cell;have f0:=b0.frozen;clear f h hs;go_enter Tryz.func40,Tryz.ntmps40
 go_upto_region 1 with fail
 rw[m.o];go_wp2_with(first
  |(go_at_call 103;refine i.o.mono ?_;clear i;rintro e w1 ⟨u,rfl,s,q,n,_⟩)
  |(go_at_call 43;refine(g.o _ _ s).mono ?_;clear g;rintro e w2 ⟨u2,rfl,j,r,o⟩;obtain⟨t,y,x,rfl⟩:=j.form;have hq:=Bt n o;have d:=boxed_below b0 hq;have k:=d.cell;have f0:=d.frozen))
 refine BA (v:=.agg #[E t y x]) (by simp[results,Tryz.results40,go_sem,k]) rfl ⟨_,rfl,⟨_,rfl,FV d _ j.row⟩,?_,(Bt b hq).setCell (p:=⟨w.heap.size,0,none⟩) (Aa _) _⟩;intro a' l' c' e;have:=r W0.heap.size q a' l' c' e;have z:=b.size;omega
def ks{W:F}{B:Nat}(q:JP W B 41 (N false) (E none 0 0) (N false) (E none 0 0)){v:S}{p:Rat}(h:Jg W v p)(x y z u:S):Jg (put4 W B x y z u) v p:=h.put4 q J J J J _ _ _ _
def X9(v:S)(ps:List Rat)(i:Int)(w:F)(h:Jd w v ps):
 Calls L 163 #[v,Q R i] w λe w'=>∃u,e=.returned u/\Jg w' u (if i<0 then 0 else cf ps i.toNat)/\Bl w w':=by
 obtain⟨u,rfl,g⟩:=h;obtain⟨a,l,c,rfl⟩:=g.form;obtain⟨W0,b⟩:=ex ((w.alloc (C #[E a l c] 25)).alloc (C #[N false,E none 0 0,N false,E none 0 0] 41));have b0:Boxed W0 w.heap.size 25 (E a l c):=by rw[<-b];exact(BH w _ _).alloc _
 have p:JP W0 (w.heap.size+1) 41 (N false) (E none 0 0) (N false) (E none 0 0):=by rw[<-b];have:=JP.new (w.alloc (C #[E a l c] 25)) 41 (N false) (E none 0 0) (N false) (E none 0 0);simpa using this
 have j:Bl w W0:=by rw[<-b];exact(Ba w _).alloc DL _
 have d:=Z (QA _ ps i W0 (g.below j));obtain⟨q,hq⟩:=ex ((if i<0 then 0 else cf ps i.toNat));rw[hq]at d ⊢;have n:=Z b;have K:=b0.cell;clear b hq g;go_enter Tryz.func163,Tryz.ntmps163
 go_upto_region 1 with fail
 rw[n.o];go_wp2_with(go_at_call 165;refine d.o.mono ?_;clear d;rintro e w1 ⟨u,rfl,m,k⟩;have f:=p.below k;obtain⟨x,y,z,A⟩:=f.cq;obtain⟨f0,f1,f2,f3⟩:=f.fq;obtain⟨G,o,D,s,H,r,B,t,rfl⟩:=Jg.form m)
 exact BA (v:=.agg #[N G,E o D s,N H,E r B t]) (by simp[results,Tryz.results163,go_sem,x,y,z,A]) rfl ⟨_,rfl,ks f m _ _ _ _,Jw (Bt j k) O _ _ _ _⟩
namespace M3
def VH(v:S)(V:F):(method 448 41 v "Times").run L V=.ok (78,v) V:=by kernel_rfl
def VI(v:S)(V:F):(method 448 41 v "Plus").run L V=.ok (104,v) V:=by kernel_rfl
def Kj(ps qs:List Rat):Prop:=(∀i a,Sq (cf ps i*cf qs a))/\∀n i a k,Sq (cf (Xd (Ev ps qs n i) i (cf ps i) qs a) k)
theorem ku(a b:Option Addr)(la ca lb cb:Nat)(ps qs:List Rat)(w:F)(ha:RowK true w (E a la ca) ps)(hb:RowK true w (E b lb cb) qs)(aq:Sqs ps)(ay:Sqs qs)(ap:Kj ps qs)(cj:ps.length+qs.length<=1099511627776):
 Calls L 44 #[E a la ca,E b lb cb] w λe w'=>∃v zs,e=.returned v/\RowK true w' v zs/\(∀c,cf zs c=cf (Eo ps qs) c)/\Sqs zs/\MB w.heap.size v/\Bl w w':=by
 obtain⟨am,bm,bu,dh,s,t,aa,bb,ll,cc,kk,dd,hc⟩:=ha.forms;obtain⟨an,bn,bz,di,s',t',bf,bg,co,bi,cn,bj,aj⟩:=hb.forms;obtain⟨n,hn⟩:∃n:Nat,max (0:Int) ((la:Int)+(lb:Int)-1)=(n:Int):=⟨(max (0:Int) ((la:Int)+(lb:Int)-1)).toNat,O⟩;have dz:n<=1099511627776:=O
 obtain⟨HN,de,HC,az,HP,HQ,HK,Qg⟩:=ID (show la+lb<=n+1 from by omega) (show la+lb=0\/n+1=la+lb from by omega) hc aj aq ay ap am;have Qh:=Z an;have Qs:=MD n O w;have M0:DM w (w.alloc (C (YF n) 41)) [some (w.heap.size,.rats (List.replicate n 0))]:=M3.DM.push (M3.DM.nil w) (.rats (List.replicate n 0)) (by
  obtain⟨cs,o,h2⟩:=QB n w;refine⟨YF n,rfl,λc hj=>?_⟩;rw[AO]at hj;obtain⟨h0,o,h2,h3⟩:=Nt hj;exact⟨_,_,_,_,h0,o,h2,h3,by rw[J9];exact XE _⟩)
 obtain⟨W0,ai⟩:=ex (w.alloc (C (YF n) 41));rw[ai]at M0 Qs;have Qq:=Z M0;clear M0 ai ha hb aq ay am an bm bu bn bz ap hc aj cj;go_enter Tryz.func44,Tryz.ntmps44
 go_wp2;go_loopw [20] (λi wr=>∃(k:Nat),k<=la/\i=Q R (k:Int)/\Hid (DM w wr [some (w.heap.size,.rats (Ev ps qs n k))])) λi _=>la-(intOf i).toNat
 case atStart=>exact⟨0,As _,rfl,Qq⟩
 case round=>
  obtain⟨k,hk,rfl,l⟩:=hrel;by_cases ck:k<la
  . have dj:(k:Int)<(la:Int):=O
    obtain⟨hi,bx,rfl,ae,q,r,u,x⟩:=HC.o k ck;have d:=l.o.2.2;have y:=Z (hi.below d);replace q:=(d.cell (p:=⟨bx,_,none⟩) ae).trans q;replace r:=(d.cell (p:=⟨bx,_,none⟩) ae).trans r;replace u:=(d.cell (p:=⟨bx,_,none⟩) ae).trans u;replace x:=(d.cell (p:=⟨bx,_,none⟩) ae).trans x;clear hi d;obtain⟨s1,T⟩:=ex (s k);obtain⟨t1,U⟩:=ex (t k);obtain⟨a1,B⟩:=ex (aa k);obtain⟨b1,D⟩:=ex (bb k);obtain⟨l1,K⟩:=ex (ll k);obtain⟨c1,G⟩:=ex (cc k);obtain⟨m1,M⟩:=ex (kk k);obtain⟨d1,H⟩:=ex (dd k);rw[T,U,B,D,K,G,M,H]at y;rw[T]at q;rw[B,K,G]at r;rw[U]at u;rw[D,M,H]at x;clear T U B D K G M H;go_upto_region 5 with fail
    have g:DM w (wr.alloc (C #[N s1,E a1 l1 c1,N t1,E b1 m1 d1] 41)) [some (w.heap.size,.rats (Ev ps qs n k)),some (wr.heap.size,.rat (cf ps k))]:=M3.DM.push l.o (.rat (cf ps k)) y.o;obtain⟨V1,A⟩:=ex (wr.alloc (C #[N s1,E a1 l1 c1,N t1,E b1 m1 d1] 41));obtain⟨B1,z⟩:=ex (wr.heap.size);rw[A,z]at g;rw[A];rw[z];have Qt:=Z g;clear g A z l y q r u x;go_wp2_with fail
    go_loopw [27] (λi wr=>∃(c:Nat),c<=lb/\i=Q R (c:Int)/\Hid (DM w wr [some (w.heap.size,.rats (Xd (Ev ps qs n k) k (cf ps k) qs c)),some (B1,.rat (cf ps k))])) λi _=>lb-(intOf i).toNat
    case atStart=>exact⟨0,As _,rfl,Qt⟩
    case round=>
     obtain⟨c,hj,rfl,l⟩:=hrel;by_cases ce:c<lb
     . have df:(c:Int)<(lb:Int):=O
       obtain⟨hi,X,rfl,ah,q,r,u,x⟩:=az.o c ce;have d:=l.o.2.2;have y:=Z (hi.below d);replace q:=(d.cell (p:=⟨X,_,none⟩) ah).trans q;replace r:=(d.cell (p:=⟨X,_,none⟩) ah).trans r;replace u:=(d.cell (p:=⟨X,_,none⟩) ah).trans u;replace x:=(d.cell (p:=⟨X,_,none⟩) ah).trans x;clear hi d;obtain⟨s2,T⟩:=ex (s' c);obtain⟨t2,U⟩:=ex (t' c);obtain⟨a2,B⟩:=ex (bf c);obtain⟨b2,D⟩:=ex (bg c);obtain⟨l2,K⟩:=ex (co c);obtain⟨c2,G⟩:=ex (bi c);obtain⟨m2,M⟩:=ex (cn c);obtain⟨d2,H⟩:=ex (bj c);rw[T,U,B,D,K,G,M,H]at y;rw[T]at q;rw[B,K,G]at r;rw[U]at u;rw[D,M,H]at x;clear T U B D K G M H;go_upto_region 8 with fail
       have g:DM w (wr.alloc (C #[N s2,E a2 l2 c2,N t2,E b2 m2 d2] 41)) [some (w.heap.size,.rats (Xd (Ev ps qs n k) k (cf ps k) qs c)),some (B1,.rat (cf ps k)),some (wr.heap.size,.rat (cf qs c))]:=M3.DM.push l.o (.rat (cf qs c)) y.o;obtain⟨V2,A⟩:=ex (wr.alloc (C #[N s2,E a2 l2 c2,N t2,E b2 m2 d2] 41));obtain⟨B2,z⟩:=ex (wr.heap.size);rw[A,z]at g;rw[A];rw[z];have Qc:=Z g;clear g A z l y q r u x;have Qk:(k:Int)+(c:Int)<(n:Int):=by have:=HN.o;omega
       have Qe:(0:Int)<=(k:Int)+(c:Int):=O
       have Qd:=Z (show k+c<n by omega);have Qa:(k:Int)+(c:Int)=((k+c:Nat):Int):=O
       obtain⟨m,hm⟩:=ex (k+c);rw[hm]at Qd Qa;have HM:=Z hm;have dx:(m:Int)<(n:Int):=by have:=Qd.o;omega
       have ed:IntKind.i64.wrap (m:Int)=(m:Int):=by rw[BJ];omega
       obtain⟨zs,W⟩:=ex (Xd (Ev ps qs n k) k (cf ps k) qs c);rw[W]at Qc;obtain⟨Qf,Qm,Qr,Qp⟩:=Dr (show m<zs.length by rw[<-W,Ll,O6];exact Qd.o) W (show Sq (cf zs m)by rw[<-W];exact HK.o.2 n k c m) (HK.o.1 k c);have Qj:=Qc.o.drew;clear hm W Qc Qk Qe;refine YB Dj [[],[],[],[1,2],[],[],[],[5,6],[4,7],[8],[9],[],[11],[],[12,13],[10,14,14],[0,3,0,1,2,3,4,5,6,7,8,9,10,11,12,13,14,15],[16,15,15,0,1,2,3,4,5,6,7,8,9,10,11,12,13,14,15]] [.eq (E (some ⟨w.heap.size,0,none⟩) n n),.eq (Q R (k:Int)),.eq (Q R (c:Int)),.eq (Q R (m:Int)),.eq (E (some ⟨w.heap.size,0,none⟩) n n),.eq (Q R (k:Int)),.eq (Q R (c:Int)),.eq (Q R (m:Int)),.eq (I (some ⟨w.heap.size,m*4,none⟩)),.rat (cf zs m),.ifq (cf zs m),.rat (cf ps k),.ifq (cf ps k),.rat (cf qs c),.rat (cf ps k*cf qs c),.rat (cf zs m+cf ps k*cf qs c),.eq (I (some ⟨w.heap.size,m*4,none⟩)),.eq P] [17] (λb _ V=>DM w V [some (w.heap.size,if b.getD 0 false then .rats (zs.set m (cf zs m+cf ps k*cf qs c))else .rats zs),some (B1,.rat (cf ps k)),some (B2,.rat (cf qs c))]) Qj (Pu (.vl rfl λ_ _=>mv)<|Pu (.vl rfl λ_ _=>mv)<|Pu (.vl rfl λ_ _=>mv)<|Pu (.vl rfl λh _=>⟨_,by refine DS ?_;rw[h.e 1,h.e 2];go_simp,rfl⟩)<|Pu (.vl rfl λ_ _=>mv)<|Pu (.vl rfl λ_ _=>mv)<|Pu (.vl rfl λ_ _=>mv)<|Pu (.vl rfl λh _=>⟨_,by refine DS ?_;rw[h.e 5,h.e 6];go_simp,rfl⟩)<|Pu (.vl rfl λh _=>⟨_,by refine DS ?_;rw[h.e 4,h.e 7];go_simp,rfl⟩)<|Pu (.vl rfl λh j=>P2 0 j Qf.o (h.e 8))<|Pu (.vl rfl λh _=>mi (h.g 9))<|Pu (.vl rfl λ_ j=>Ek 1 j)<|Pu (.vl rfl λh _=>mi (h.g 11))<|Pu (.vl rfl λ_ j=>Ek 2 j)<|Pu (.ci rfl fun {_ V _} h j=>by obtain⟨y0,e,g0⟩:=h.g 12;have Qo:=VH y0 V;exact⟨_,by refine DS ?_;rw[e];go_simp,Kg _ _ (cf ps k) (cf qs c) V g0 (h.g 13) (HP.o.at k) (HQ.o.at c)⟩)<|Pu (.ci rfl fun {_ V _} h j=>by obtain⟨y0,e,g0⟩:=h.g 10;have Qo:=VI y0 V;exact⟨_,by refine DS ?_;rw[e];go_simp,Kf _ _ (cf zs m) (cf ps k*cf qs c) V g0 (h.g 14) Qr.o Qp.o⟩)<|Pu (.vl rfl λh _=>⟨_,by refine DS ?_;rw[h.e 0,h.e 3];go_simp,rfl⟩)<|Pu (.wr rfl λh j=>L9 0 j Qf.o (h.g 15) (h.e 16)) Stp.end_)
        λf V hF g=>?_
       refine DS ?_;rw[hF.e 0,hF.e 1,hF.e 2,hF.e 3,hF.e 4,hF.e 5,hF.e 6,hF.e 7,hF.e 8,hF.e 16];have g:=Dz g;have Qn:=Z g;clear g hF;go_wp2_with fail
       go_roundw
       case rel=>
        refine⟨c+1,O,by go_num,Z ?_⟩;have o:=Qn.o.take 2;rw[<-HM.o,<-Qm.o]at o;exact o
       case measure=>simp[intOf];omega
     . have Ql:c=lb:=O
       subst Ql;go_wp2_with fail
       go_roundw
       case rel=>
        refine⟨k+1,O,by go_num,Z ?_⟩;have o:=l.o.take 1;rw[Qh.o]at o;exact o
       case measure=>simp[intOf];omega
  . have Qi:k=la:=O
    subst Qi;go_wp2;go_ret;have hE:=l.o.rats (i:=0) rfl;have dt:=O6 ps qs n k;have Qb:=hE.row (n:=n) (cap:=n) O (Aa _) O O;rw[Af O]at Qb;refine⟨_,_,rfl,Qb,λc=>?_,Sqs.of λi=>?_,λa' l' c' e=>(by cases e;exact Aa _),l.o.2.2⟩
    . rw[Qg.o,SY _ _ _ _ _ (Or.inr (by have:=HN.o;have h2:=Qh.o;have o:=Qg.o;omega)),K7]
    . exact HK.o.2 n k 0 i
def LK(qs:List Rat)(x:Rat):Prop:=∀n,Sq (ev (qs.drop n) x)/\Sq (ev (qs.drop n) x*x)
theorem kv(qs:List Rat)(x:Rat){m:Nat}(h:m<qs.length):ev (qs.drop (m+1)) x*x+cf qs m=ev (qs.drop m) x:=by
 rw[AY h,ev,bW h];grind
def MF(w:F)(a:Option Addr)(len cap:Nat)(qs:List Rat)(x:Rat)(k:Nat):List (Option (Nat × Dat)):=
 [some (w.heap.size,.rat x),some (w.heap.size+1,.rat 0),some (w.heap.size+1+1,.rat (ev (qs.drop (len-k)) x)),some (w.heap.size+1+1+1,.cell 23 (E a len cap))]
def kw(w:F)(a:Option Addr)(len cap:Nat)(qs:List Rat)(x:Rat)(k:Nat)(W:F):Prop:=DM w W (MF w a len cap qs x k)
theorem kx(a:Option Addr)(len cap:Nat)(qs:List Rat)(vx:S)(x:Rat)(w:F)(h:RowK true w (E a len cap) qs)(hx:Jg w vx x)(hs:Sqs qs)(an:Sq x)(aj:LK qs x):
 Calls L 148 #[E a len cap,vx] w λe w'=>∃u,e=.returned u/\Jg w' u (ev qs x)/\Bl w w':=by
 obtain⟨xs,xa,xl,xc,xt,xb,xk,xd,rfl⟩:=hx.form;obtain⟨hl,co,de,aq,s,t,aa,bb,ll,cc,kk,dd,hc⟩:=h.forms;obtain⟨HL,HC,HS,Qi,HK,HX⟩:=IC hl hc hs an aj hx;clear hc hl hs an aj hx h;refine(BI (n:=3)).1 ?_;refine BP Tryz.func148 rfl trivial ?_ rfl;simp only[Tryz.ntmps148,An,Ah,AE,Nat.reduceAdd,Nat.reduceSub,Ao,Ap,AD,Au,Am,AB];gi_wp2_with(refine⟨trivial,?_⟩;gi_at_call 186;refine(P9 Fence.wide _ trivial rfl _ _ _ _).mono ?_;rintro e w' ⟨rfl,rfl⟩)
 have M0:DM w _ _:=((((DM.nil w).push (.rat x) HX.o).push (.rat 0) (XE _)).push (.rat 0) (XE _)).push (.cell 23 (E a len cap)) (cs:=#[E a len cap]) ⟨rfl,rfl⟩;simp only[Ax]at M0;obtain⟨W0,T⟩:=ex ((((w.alloc (C #[N xs,E xa xl xc,N xt,E xb xk xd] 41)).alloc (C #[N false,E none 0 0,N false,E none 0 0] 41)).alloc (C #[N false,E none 0 0,N false,E none 0 0] 41)).alloc (C #[E a len cap] 23));have hN:W0.heap.size=w.heap.size+1+1+1+1:=by rw[<-T];simp
 have M1:DM w W0 (MF w a len cap qs x 0):=by
  rw[<-T];unfold MF;rw[show ev (qs.drop (len-0)) x=0 from by rw[A5 (by have:=HL.o;omega)];rfl];exact M0
 have az:=Z T;rw[T];clear M0 T;refine TD rfl O (gf:=239) (lb:=#[I (some ⟨w.heap.size+1+1+1,0,none⟩)]) rfl trivial (Bk Tryz.func239 (by kernel_rfl) rfl)
  (P8 Fence.wide _ trivial rfl O (w.heap.size+1+1+1) a len cap (λj=>N (s j)) (λj=>E (aa j) (ll j) (cc j)) (λj=>N (t j)) (λj=>E (bb j) (kk j) (dd j)) aq) (λ_=>rfl)
  (kw w a len cap qs x) (λ_ _ _=>False) (kW O _) (λc s W W' row h=>h.elim) M1 ?rd
  (λk b=>{ tmps:=#[E a len cap,.agg #[N xs,E xa xl xc,N xt,E xb xk xd],P,I (some ⟨w.heap.size,0,none⟩),I (some ⟨w.heap.size+1,0,none⟩),I (some ⟨w.heap.size+1+1,0,none⟩),P,I (some ⟨b,0,none⟩),E a len cap,.func (.func 239) #[] #[I (some ⟨w.heap.size+1+1+1,0,none⟩)],Q R ((len:Int)-1-k),.agg #[N (s (len-1-k)),E (aa (len-1-k)) (ll (len-1-k)) (cc (len-1-k)),N (t (len-1-k)),E (bb (len-1-k)) (kk (len-1-k)) (dd (len-1-k))],P,P,P,P,P,P,P,P],defers:=[] })
  (λk=>C #[N (s (len-1-k)),E (aa (len-1-k)) (ll (len-1-k)) (cc (len-1-k)),N (t (len-1-k)),E (bb (len-1-k)) (kk (len-1-k)) (dd (len-1-k))] 41 (0,0)) ?assign ?body ?done ?stop
 case stop=>intro D c k W _ _ h;exact h.elim
 case rd=>
  intro k W M;have hB:=M.2.2;refine⟨(DM.cell M (i:=3) rfl).1.cell,λhk=>?_⟩;obtain⟨_,b,ea,hb,h1,U,X,h4⟩:=HC.o (len-1-k) O;exact⟨b,ea,(hB.cell (p:=⟨b,_,none⟩) hb).trans h1,(hB.cell (p:=⟨b,_,none⟩) hb).trans U,(hB.cell (p:=⟨b,_,none⟩) hb).trans X,(hB.cell (p:=⟨b,_,none⟩) hb).trans h4⟩
 case assign=>
  intro l k W K hK;unfold MA;gi_wp2;exact hK
 case body=>
  intro l k b W M hk ay ap ae;have hm:len-1-k<len:=O
  obtain⟨hi,_⟩:=HC.o (len-1-k) hm;have d:=DM.with M (.rat (cf qs (len-1-k))) ae (hi.below M.2.2) O (λi B d' e=>by
   grind[MF])
  have ek:len-k=len-1-k+1:=O
  unfold MF at d;rw[ek]at d;have Qe:=Z (show len-(k+1)=len-1-k by omega);clear hi ae M ay ap ek;obtain⟨m,ai⟩:=ex (len-1-k);rw[ai]at d hm Qe ⊢;have HM:=Z (show m<qs.length by have:=HL.o;omega);have d:DM w W [some (w.heap.size,.rat x),some (w.heap.size+1,.rat 0),some (w.heap.size+1+1,.rat (ev (qs.drop (m+1)) x)),some (w.heap.size+1+1+1,.cell 23 (E a len cap)),some (b,.rat (cf qs m))]:=d;obtain⟨Qd,Qf,Qc⟩:=Db (show Sq (ev (qs.drop (m+1)) x)/\Sq (ev (qs.drop (m+1)) x*x)from HK.o (m+1)) (HS.o.at m) (kv qs x HM.o);obtain⟨sm,am⟩:=ex (ev (qs.drop (m+1)) x);rw[am]at d Qd Qc;obtain⟨z,ah⟩:∃y,cf qs m=y:=⟨_,rfl⟩;rw[ah]at d Qf Qc;have Qh:IZ w W W.drew [some (w.heap.size,.rat x),some (w.heap.size+1,.rat 0),some (w.heap.size+1+1,.rat sm),some (w.heap.size+1+1+1,.cell 23 (E a len cap)),some (b,.rat z)]:=IZ.drew ⟨d,KeepsOthers.refl W⟩;clear d am ah ai;gi_wp2_with fail
  refine LE (Or.inr ⟨l,rfl⟩) Dj [[],[0],[],[1,2],[3],[],[4,5],List.range 7] [.rat sm,.ifq sm,.rat x,.rat (sm*x),.ifq (sm*x),.rat z,.rat (sm*x+z),.eq P] [7] (λo _ V=>IZ w W V [some (w.heap.size,.rat x),some (w.heap.size+1,.rat 0),some (w.heap.size+1+1,.rat (if o.getD 0 false then sm*x+z else sm)),some (w.heap.size+1+1+1,.cell 23 (E a len cap)),some (b,.rat z)]) Qh (Pu (.vl rfl λ_ j=>Ek 2 j.1)<|Pu (.vl rfl λh _=>mi (h.g 0))<|Pu (.vl rfl λ_ j=>Ek 0 j.1)<|Pu (.ci rfl fun {_ V _} h _=>by obtain⟨y0,e,g0⟩:=h.g 1;have Qj:=VH y0 V;exact⟨_,by refine DS ?_;rw[e];go_simp,Kg _ _ sm x _ g0 (h.g 2) Qd.o.1 Qi.o⟩)<|Pu (.vl rfl λh _=>mi (h.g 3))<|Pu (.vl rfl λ_ j=>Ek 4 j.1)<|Pu (.ci rfl fun {_ V _} h _=>by obtain⟨y0,e,g0⟩:=h.g 4;have Qj:=VI y0 V;exact⟨_,by refine DS ?_;rw[e];go_simp,Kf _ _ (sm*x) z _ g0 (h.g 5) Qd.o.2 Qf.o⟩)<|Pu (.wr rfl λh j=>LG 2 j.1 (h.g 6) (hT:=λ_ m=>⟨m,j.2.trans (QD _ _ _ _ _ _)⟩)) Stp.end_)
   λf V hF U=>?_
  refine⟨U.2.from _,?_⟩;have X:=U.1.take 4;rw[Qc.o,<-Qe.o]at X;exact X
 case done=>
  intro D W hD M hK;have M:DM w W [some (w.heap.size,.rat x),some (w.heap.size+1,.rat 0),some (w.heap.size+1+1,.rat (ev (qs.drop (len-len)) x)),some (w.heap.size+1+1+1,.cell 23 (E a len cap))]:=M;rw[show qs.drop (len-len)=qs from by rw[Cr];rfl]at M;obtain⟨G,g,l1,c1,H,v,A,d1,n1,r1,i1,j1⟩:=M.rat (i:=2) rfl;obtain⟨s2,a2,l2,c2,t2,b2,k2,d2,n2,r2,i2,j2⟩:=M.rat (i:=1) rfl;obtain⟨bf,bg,bi,bj⟩:=n1.cq;obtain⟨bm,bn,bu,bz⟩:=n2.cq;obtain⟨ce,cj,ck,cn⟩:=n2.fq;have HR:=Z r1;have HB:=Z M.2.2;clear r1 i1 j1 r2 i2 j2 M;gi_wp2;have Qb:(put4 W (w.heap.size+1) (N G) (E g l1 c1) (N H) (E v A d1)).heap[D]?=some (.deferred (some [])):=(QD W (w.heap.size+1) _ _ _ _).same D _ hK rfl;refine⟨DL,.inl ⟨_,_,rfl,BU Qb,?_⟩⟩;have q:=n2.put (N G) (E g l1 c1) (N H) (E v A d1);have hg:=BW (put4 W (w.heap.size+1) (N G) (E g l1 c1) (N H) (E v A d1)) D (.deferred none);have Qg:∀r,some D=some r->∃o:Obj,(put4 W (w.heap.size+1) (N G) (E g l1 c1) (N H) (E v A d1)).heap[r]?=some o/\o.isCells=false:=λr e=>by cases e;exact⟨_,Qb,rfl⟩
  have q2:JP _ (w.heap.size+1) 41 (N G) (E g l1 c1) (N H) (E v A d1):=YD hg Qg q;obtain⟨g0,g1,g2,g3⟩:=q2.cq;unfold put4 at g0 g1 g2 g3;refine⟨.agg #[N G,E g l1 c1,N H,E v A d1],by simp[results,Tryz.results148,go_sem,g0,g1,g2,g3],_,rfl,?_,?_⟩
  . exact EM.keep (r:=true) (Jg.put4 HR.o n2 rfl rfl rfl rfl _ _ _ _) λ_ _ _ h=>Nx hg Qg h
  . exact(Jw HB.o O _ _ _ _).trans (DH (w:=w) (Aa _) _ D _ _ O Qb rfl rfl)
theorem ky(t x:S)(ps qs:List Rat)(w:F)(d:Jd w t ps)(f:Jd w x qs)(q:Sqs ps)(r:Sqs qs)(o:Kj ps qs)(n:ps.length+qs.length<=1099511627776):
 Calls L 9 #[t,x] w λe w'=>∃u,e=.returned u/\Jd w' u (Ji ps qs)/\Nq w.heap.size u/\Bl w w':=by
 obtain⟨u,rfl,d⟩:=d;obtain⟨v,rfl,f⟩:=f;obtain⟨a,la,ca,rfl⟩:=d.form;obtain⟨b,lb,cb,rfl⟩:=f.form;obtain⟨W0,c⟩:=ex (((w.alloc (C #[E a la ca] 25)).alloc (C #[E b lb cb] 25)).alloc (C #[E none 0 0] 25));have b0:Boxed W0 w.heap.size 25 (E a la ca):=by rw[<-c];exact((BH w _ _).alloc _).alloc _
 have A:Boxed W0 (w.heap.size+1) 25 (E b lb cb):=by rw[<-c];have:=(BH (w.alloc (C #[E a la ca] 25)) 25 (E b lb cb)).alloc (C #[E none 0 0] 25);simpa using this
 have B:Boxed W0 (w.heap.size+1+1) 25 (E none 0 0):=by rw[<-c];have:=BH ((w.alloc (C #[E a la ca] 25)).alloc (C #[E b lb cb] 25)) 25 (E none 0 0);simpa using this
 have g:Bl w W0:=by rw[<-c];exact((Ba w _).alloc DL _).alloc si _
 obtain⟨l,m,z⟩:=Db (ku a b la ca lb cb ps qs W0 (d.below g) (f.below g) q r o n) (λ(V:F) (v:S) (zs:List Rat) (h:RowK true V v zs) (hs:Sqs zs)=>Kh v zs V h hs) c;have k0:=b0.cell;have k1:=A.cell;clear c d f q r o n;go_enter Tryz.func9,Tryz.ntmps9
 go_upto_region 1 with fail
 rw[z.o];go_wp2_with(first
  |(go_at_call 44;refine l.o.mono ?_;clear l;rintro e w1 ⟨v1,zs,rfl,T,s,U,K,G⟩;have y:=Z s;clear s)
  |(go_at_call 43;refine(m.o _ _ zs T U).mono ?_;clear m;rintro e w2 ⟨u2,rfl,k,M,H⟩;obtain⟨X,l9,c9,rfl⟩:=k.form;have hq:=Bt G H;have i:=boxed_below B hq;have W:=i.cell;have f2:=i.frozen))
 have D:Jc zs=Ji ps qs:=Is λj=>y.o j;rw[D]at k;refine BA (by simp[results,Tryz.results9,go_sem,W]) rfl ⟨_,rfl,⟨_,rfl,FV i _ k.row⟩,?_,(Bt g hq).setCell (p:=⟨w.heap.size+1+1,0,none⟩) si _⟩;intro a' l' c' e;have:=M W0.heap.size K a' l' c' e;have h2:=g.size;omega
def kz(v r:S)(ps:List Rat)(x:Rat)(w:F)(h:Jd w v ps)(f:Jg w r x)(hs:Sqs ps)(p:Sq x)(o:LK ps x):
 Calls L 70 #[v,r] w λe w'=>∃u,e=.returned u/\Jg w' u (ev ps x)/\Bl w w':=by
 obtain⟨u,rfl,d⟩:=h;obtain⟨a,l,c,rfl⟩:=d.form;obtain⟨s8,U,l8,c8,t8,b8,k8,d8,rfl⟩:=f.form;obtain⟨W0,t,s⟩:=IE 25 (.cell 25 (E a l c)) EN 41 (.rat x) f 41 (.rat 0) (XE _);have b:=s.o;obtain⟨s1,M,l1,c1,t1,W,k1,d1,G,r1,z,g⟩:=b.rat (i:=1) rfl;obtain⟨s2,T,l2,c2,t2,X,k2,d2,H,K,A,j⟩:=b.rat (i:=2) rfl;have b0:=(b.cell (i:=0) rfl).1;have m:=Z (kx a l c ps _ x W0 (d.below b.2.2) r1 hs p o);have y:=b.2.2;have k0:=b0.cell;obtain⟨e0,e1,e2,e3⟩:=G.cq;clear d hs p o f b r1 z g K A j;go_enter Tryz.func70,Tryz.ntmps70
 go_upto_region 1 with fail
 rw[t.o];go_wp2_with(go_at_call 148;refine m.o.mono ?_;clear m;rintro e w1 ⟨u,rfl,q,n⟩;have k:=H.below n;obtain⟨B,g,j,D⟩:=k.cq;obtain⟨f0,f1,f2,f3⟩:=k.fq;obtain⟨an,V,am,ah,ap,ae,aj,ai,rfl⟩:=Jg.form q)
 exact BA (by simp[results,Tryz.results70,go_sem,B,g,j,D]) rfl ⟨_,rfl,q.put4 k rfl rfl rfl rfl _ _ _ _,Jw (Bt y n) O _ _ _ _⟩
theorem VJ(n:Int)(t:-9223372036854775808<=n)(x:n<=9223372036854775807)(w:F):
 Calls L 79 #[Q R n] w λe w'=>∃u,e=.returned u/\Jg w' u (n:Rat)/\Bl w w':=by
 have b:Bl w (w.alloc (C #[N false,E none 0 0,N false,E none 0 0] 41)):=Ba w _;have b0:=JP.new w 41 (N false) (E none 0 0) (N false) (E none 0 0);obtain⟨W0,d⟩:=ex (w.alloc (C #[N false,E none 0 0,N false,E none 0 0] 41));rw[d]at b b0;obtain⟨m,g,i,o⟩:=Dr d (F6 n t x W0) (λ(V:F)=>F6 1 O O V) (show Sok n from Sok.of (k:=2) (by unfold Sm Y;omega) O);have a:=Z λ(V:F) (u v:S) (A:Jk V u n) (hv:Jk V v 1)=>I6 u v n 1 V A hv o.o Sok.one;rw[show decide ((1:Int)≠0)=true from rfl,show Rat.divInt n 1=(n:Rat)from by rw[AP];grind]at a;clear d;go_enter Tryz.func79,Tryz.ntmps79
 go_upto_region 1 with fail
 rw[m.o];go_wp2_with(first
  |(go_at_call 35;refine g.o.mono ?_;clear g;rintro e w1 ⟨u1,rfl,c,y⟩)
  |(go_at_call 35;refine(i.o _).mono ?_;clear i;rintro e w2 ⟨u2,rfl,B,j⟩;have c:=c.below j)
  |(go_at_call 38;refine(a.o _ _ _ c B).mono ?_;clear a;rintro e X ⟨u3,rfl,l,z⟩;have hq:=Bt (Bt y j) z;obtain⟨U,p,T,r,W,q,M,s,rfl⟩:=Jg.form l;have f:=(b0.below hq).alloc (C #[N U,E p T r,N W,E q M s] 41);obtain⟨D,G,H,K⟩:=f.cq;obtain⟨f0,f1,f2,f3⟩:=f.fq))
 exact BA (by simp[results,Tryz.results79,go_sem,D,G,H,K]) rfl ⟨_,rfl,(l.below (Ba _ _)).put4 f rfl rfl rfl rfl _ _ _ _,Jw ((Bt b hq).alloc (by have:=b.size;have:=hq.size;omega) _) (Aa _) _ _ _ _⟩
end M3
section
open M3
theorem lA(y:Int):dd y≠0:=by unfold dd;split<;>omega
theorem lB(s:S)(x y:Int)(w:F)(k:Xm w s x y)(q:Sok x)(r:Sok (dd y)):
 Calls L 90 #[s] w λe w'=>∃u,e=.returned u/\Jk w' u (x/dd y)/\Bl w w':=by
 obtain⟨ay,U,aq,ae,az,W,ap,ah,rfl⟩:=Xm.form k;obtain⟨W0,m,n⟩:=LC 41 (.pair (x) y) k 39 (.int 0) (ES _);have z:=Z q;have t:=Z r;clear k q r;go_enter Tryz.func90,Tryz.ntmps90
 go_upto_region 1 with fail
 rw[m.o];clear m;refine YB Dj [[],[0],[],[2],[1,3,3],[4],[5],[5],[5],[],[],[9,6,4,0,1,2,3,4,5,6,9,10],[10,7,11,0,1,2,3,4,5,6,7,9,10,11],[8,12,0,1,2,3,4,5,6,7,8,9,10,11,12]] [.eq (I (some ⟨w.heap.size,0,none⟩)),.int x,.pair (x) (y),.int (dd y),.tup2 (.int (x/dd y)) (.int (x%dd y)),.tup2 (.int (x/dd y)) (.int (x%dd y)),.int (x/dd y),.int (x%dd y),.eq (N true),.ptr,.ptr,.eq P,.eq P,.eq (N true)] [9,10,11,12] (λb v V=>DM w V [some (w.heap.size,.pair (x) (y)),some (w.heap.size+1,.int 0),nb b v 0 2 (.int 0) (.int (x/dd y)),nb b v 1 3 (.int 0) (.int (x%dd y))]) ((n.o.none).none).drew (Pu (.vl rfl λ_ _=>⟨_,by refine DS ?_;go_simp,rfl⟩)<|Pu (.vl rfl λh j=>jN 0 j (hp:=h.e 0))<|Pu (.vl rfl λ_ j=>jO 0 j)<|Pu (.cl λh _=>U6 _ x y _ (h.g 2))<|Pu (.cl λh _=>Na (Nl _ _ x (dd y) _ (h.g 1) (h.g 3) (lA y) (by have:=z.o.words;omega) (by have:=t.o.words;omega)))<|Pu (.vl rfl λh _=>mw (h.g 4))<|Pu (.vl rfl λh _=>Ng (h.g 5))<|Pu (.vl rfl λh _=>Nh (h.g 5))<|Pu (.vl rfl λh _=>Ni (h.g 5))<|Pu (.wr rfl λ_ j=>GP 2 j)<|Pu (.wr rfl λ_ j=>GP 3 j)<|Pu (.wr rfl λh j=>Ew 2 j (h.g 6) (hp:=h.g 9))<|Pu (.wr rfl λh j=>Ew 3 j (h.g 7) (hp:=h.g 10))<|Pu (.vl rfl λh _=>aw (h.g 8)) Stp.end_)
  λf K hF a=>?_
 refine DS ?_;rw[hF.e 0,hF.e 8,hF.e 13];obtain⟨B3,d⟩:=hF.p 9;obtain⟨B4,g⟩:=hF.p 10;have a:=Dz a;simp only[d,g]at a;rw[d,g];have c:=Z a;clear a hF d g;clear n;go_upto_region 2 with fail
 obtain⟨s5,M,l5,c5,H,G⟩:=c.o.int (i:=2) rfl;obtain⟨ai,aj⟩:=H.cp;obtain⟨s6,T,l6,X,l,i6⟩:=c.o.int (i:=1) rfl;obtain⟨A,B⟩:=l.cp;obtain⟨am,an⟩:=l.fp;have o:=c.o.ge 1 rfl;have D:=c.o.2.2;go_wp2_with fail
 exact BA (by simp[results,Tryz.results90,go_sem,A,B]) rfl ⟨_,rfl,G.box l rfl rfl,(D.setCell (p:=⟨_,0,none⟩) o _).setCell (p:=⟨_,1,none⟩) o _⟩
end
section
def D6(s:Nat × Int)(a:Int):Nat × Int:=if a=0 then s else(if a=-s.2 then s.1+1 else s.1,a)
def Hk(l:List Int):Nat:=(l.foldl D6 (0,0)).1
def DY(q:Rat):Int:=q.num.sign
variable{p q:Rat}
def XV:DY q=0↔q=0:=by
 unfold DY;rw[Int.sign_eq_zero_iff_zero];exact Fy
def Ny:DY q=1↔0<q:=by
 unfold DY;rw[Int.sign_eq_one_iff_pos,Rat.lt_iff];simp
def VK:DY q=-1↔q<0:=by
 unfold DY;rw[Int.sign_eq_neg_one_iff_neg,Rat.lt_iff];simp
theorem Kk(q:Rat):-1<=DY q/\DY q<=1:=by
 unfold DY;rcases Int.lt_trichotomy q.num 0 with h|h|h
 . rw[Int.sign_eq_neg_one_of_neg h];omega
 . rw[h];decide
 . rw[Int.sign_eq_one_of_pos h];omega
theorem Yy(q:Rat):(q<0/\DY q=-1)\/(q=0/\DY q=0)\/(0<q/\DY q=1):=by
 rcases(show q<0\/q=0\/0<q by grind)with h|h|h
 . exact Or.inl ⟨h,VK.2 h⟩
 . exact Or.inr (Or.inl ⟨h,XV.2 h⟩)
 . exact Or.inr (Or.inr ⟨h,Ny.2 h⟩)
theorem VL:∀(l:List Int) (s:Nat × Int),(∀a∈l,-1<=a/\a<=1)->(-1<=s.2/\s.2<=1)->(-1<=(l.foldl D6 s).2/\(l.foldl D6 s).2<=1)/\(l.foldl D6 s).1<=s.1+l.length:=by
 intro l;induction l with
 |nil=>intro s _ h;exact⟨h,Aa _⟩
 |cons a l g=>
  intro s hl hs;have e:=hl a AF;have c:-1<=(D6 s a).2/\(D6 s a).2<=1:=by
   unfold D6;split
   . exact hs
   . exact e
  have i:(D6 s a).1<=s.1+1:=by
   unfold D6;split
   . omega
   . show(if a=-s.2 then s.1+1 else s.1)<=s.1+1;split<;>omega
  obtain⟨d,j⟩:=g (D6 s a) (λb f=>hl b (AR _ f)) c;refine⟨d,?_⟩;simp only[List.foldl_cons,Ah];omega
theorem VN{a b:Rat}(g:b≠0):(a*b<0↔DY b=-DY a):=by
 rcases Yy a with⟨d,e⟩|⟨d,e⟩|⟨d,e⟩<;>rcases Yy b with⟨c,f⟩|⟨c,f⟩|⟨c,f⟩<;>rw[e,f]
 . have:=Rat.mul_pos (a:=-a) (b:=-b) DK DK;constructor
   . intro h;grind
   . intro h;omega
 . exact absurd c g
 . have:=Rat.mul_pos (a:=-a) (b:=b) DK c;constructor
   . intro _;rfl
   . intro _;grind
 . rw[d];constructor
   . intro h;grind
   . intro h;omega
 . exact absurd c g
 . rw[d];constructor
   . intro h;grind
   . intro h;omega
 . have:=Rat.mul_pos (a:=a) (b:=-b) d DK;constructor
   . intro _;rfl
   . intro _;grind
 . exact absurd c g
 . have:=Rat.mul_pos d c;constructor
   . intro h;grind
   . intro h;omega
theorem lC:∀(l:List Rat) (n:Nat) (a:Rat),((l.map DY).foldl D6 (n,DY a)).1=n+Xf a l:=by
 intro l;induction l with
 |nil=>intro n a;rfl
 |cons b l d=>
  intro n a;rw[List.map_cons,List.foldl_cons];by_cases c:b=0
  . have e:D6 (n,DY a) (DY b)=(n,DY a):=by unfold D6;rw[BF (XV.2 c)]
    rw[e,d,Xf,BF c]
  . have e:D6 (n,DY a) (DY b)=(if a*b<0 then n+1 else n,DY b):=by
     unfold D6;rw[BE λe=>c (XV.1 e)];by_cases h:a*b<0
     . rw[BF h,BF ((VN c).1 h)]
     . rw[BE h,BE λe=>h ((VN c).2 e)]
    rw[e,d,XZ c];split<;>omega
def MG(l:List Rat):Hk (l.map DY)=DP l:=by
 have:=lC l 0 0;rw[AW]at this;exact this
def lD(l:List Int)(a:Int):(l++[a]).foldl D6 (0,0)=D6 (l.foldl D6 (0,0)) a:=by rw[List.foldl_append];rfl
def Nz(q:Rat):Xt q 0=DY q:=by
 have e:Xt q 0=if q.num<0 then -1 else if 0<q.num then 1 else 0:=by
  unfold Xt XT;simp
 rw[e];unfold DY;rcases Int.lt_trichotomy q.num 0 with h|h|h
 . rw[BF h,Int.sign_eq_neg_one_of_neg h]
 . rw[h];rfl
 . rw[BE O,BF h,Int.sign_eq_one_of_pos h]
def FW(p:List Rat):Int:=DY (cf p (p.length-1))
def Ia(p:List Rat):Int:=if p.length%2=0 then -FW p else FW p
def VO(q:Rat):DY (-q)=-DY q:=by
 unfold DY;rw[Rat.neg_num,Int.sign_neg]
theorem lE:Xt p q<=0↔p<=q:=by
 rw[Rat.le_iff];unfold Xt XT;split<;>(try split)<;>omega
theorem I7:Xt p q<0↔p<q:=by
 rw[Rat.lt_iff];unfold Xt XT;split<;>(try split)<;>omega
theorem N0:Xt p q=0↔p=q:=by
 rw[Rat.eq_iff_mul_eq_mul];unfold Xt XT;split<;>(try split)<;>omega
theorem LL:Xt p q=1↔q<p:=by
 rw[Rat.lt_iff];unfold Xt XT;split<;>(try split)<;>omega
end
namespace M3
def QF(v:S)(q:Rat)(w:F)(h:Jg w v q)(hs:Sq q):
 Calls L 162 #[v] w λe w'=>e=.returned (Q R (DY q))/\Bl w w':=by
 obtain⟨s,a,l,c,t,b,k,d,rfl⟩:=Jg.form h;have hA:Bl w (w.alloc (C #[N s,E a l c,N t,E b k d] 41)):=Ba w _;have f:=Z (XU _ _ q 0 _ (h.below hA) (XE _) hs GS);rw[Nz]at f;obtain⟨n,hn⟩:=ex (DY q);rw[hn]at f ⊢;have g:=Z hA;clear h hs hA hn;go_enter Tryz.func162,Tryz.ntmps162
 go_wp2_with(go_at_call 32;refine f.o.mono ?_;clear f;rintro e w1 ⟨rfl,hq⟩)
 go_ret;exact⟨rfl,Bt g.o hq⟩
theorem VP(v:S)(p:List Rat)(w:F)(h:Jd w v p)(hs:Sqs p)(p0:p≠[]):
 Calls L 82 #[v] w λe w'=>e=.returned (Q R (FW p))/\Bl w w':=by
 obtain⟨b,la,c,rfl⟩:=h.form;have hA:Bl w (w.alloc (C #[E b la c] 25)):=Ba w _;obtain⟨W0,d⟩:=ex (w.alloc (C #[E b la c] 25));have k:Boxed W0 w.heap.size 25 (E b la c):=by rw[<-d];exact BH w _ _
 rw[d]at hA;have q:=Z d;have i:=Z k;have a:=k.cell;have y:=Z hA;obtain⟨m,t⟩:=ex (p.length-1:Nat);have o:(p.length:Int)-1=(m:Int):=by have:=Ac.2 p0;omega
 have f:=Z λ(V:F) (j:Bl W0 V)=>JY _ p V ((h.below hA).below j);rw[o]at f;have l:=Z (λ(V:F) (j:Bl W0 V)=>show Calls L 163 #[.agg #[E b la c],Q R (m:Int)] V λe w'=>∃u,e=.returned u/\Jg w' u (cf p m)/\Bl V w' by
  have:=X9 _ p (m:Int) V ((h.below hA).below j);rw[BE O,CV]at this;exact this)
 have g:=Z λ(V:F) (x:S) (D:Jg V x (cf p m))=>QF x (cf p m) V D (hs.at m);have r:FW p=DY (cf p m):=by unfold FW;rw[t]
 rw[r];obtain⟨n,hn⟩:=ex (DY (cf p m));rw[hn]at g ⊢;clear h hs p0 hA d k o t r hn;go_enter Tryz.func82,Tryz.ntmps82
 go_upto_region 1 with fail
 rw[q.o];clear q;have hq:Bl W0 W0.drew:=(BB _ W0).drew;go_region_held3 (λw'=>w'.cell? ⟨w.heap.size,0,none⟩=some (E b la c)) (first|(with_reducible exact a)|(go_keep;done))
  (first
   |(go_at_call 26;refine(f.o _ hq).mono ?_;clear f;rintro e H ⟨rfl,z⟩;have hq:=Bt hq z;clear a;have a:=(boxed_below i.o hq).cell)
   |(go_at_call 163;refine(l.o _ hq).mono ?_;clear l;rintro e K ⟨G,rfl,s,A⟩;have hq:=Bt hq A;clear a;have a:=(boxed_below i.o hq).cell)
   |(go_at_call 162;refine(g.o _ _ s).mono ?_;clear g s;rintro e M ⟨rfl,B⟩;have hq:=Bt hq B;clear a;have a:=(boxed_below i.o hq).cell))
 go_wp2_with fail
 go_ret;exact⟨rfl,Bt y.o hq⟩
theorem lF(v:S)(p:List Rat)(w:F)(h:Jd w v p)(hs:Sqs p)(p0:p≠[])(hl:p.length<=1000000000):
 Calls L 81 #[v] w λe w'=>e=.returned (Q R (Ia p))/\Bl w w':=by
 obtain⟨r,la,s,rfl⟩:=h.form;have hA:Bl w (w.alloc (C #[E r la s] 25)):=Ba w _;obtain⟨W0,i⟩:=ex (w.alloc (C #[E r la s] 25));have q:Boxed W0 w.heap.size 25 (E r la s):=by rw[<-i];exact BH w _ _
 rw[i]at hA;have d:=Z i;have f:=Z q;have a:=q.cell;have t:=Z hA;obtain⟨m,y⟩:=ex (p.length-1:Nat);have z:=Ac.2 p0;have u:(p.length:Int)-1=(m:Int):=O
 have b:=Z λ(V:F) (k:Bl W0 V)=>JY _ p V ((h.below hA).below k);rw[u]at b;have c:=Z λ(V:F) (k:Bl W0 V)=>VP _ p V ((h.below hA).below k) hs p0;have j:=Kk (cf p (p.length-1));have j:-1<=FW p/\FW p<=1:=j;have x:Ia p=if m%2=0 then FW p else -FW p:=by
  grind[Ia]
 rw[x];obtain⟨n,hn⟩:=ex (FW p);rw[hn]at c j ⊢;clear h hs p0 hA i q u x hn z;by_cases g:m%2=0
 . rw[BF g];have B:(m:Int)%2=0:=O
   have A:m<=1000000000:=O
   clear y hl g;go_enter Tryz.func81,Tryz.ntmps81
   go_upto_region 1 with fail
   rw[d.o];clear d;have hq:=BB W0.heap.size W0;go_wp2_with(first
    |(go_at_call 26;refine(b.o _ hq).mono ?_;clear b;rintro e D ⟨rfl,l⟩;have hq:=Bt hq l;clear a;have a:=(boxed_below f.o hq).cell)
    |(go_at_call 82;refine(c.o _ hq).mono ?_;clear c;rintro e G ⟨rfl,o⟩;have hq:=Bt hq o;clear a;have a:=(boxed_below f.o hq).cell))
   go_ret;exact⟨rfl,Bt t.o hq⟩
 . rw[BE g];have B:(m:Int)%2=1:=O
   have A:m<=1000000000:=O
   clear y hl g;go_enter Tryz.func81,Tryz.ntmps81
   go_upto_region 1 with fail
   rw[d.o];clear d;have hq:=BB W0.heap.size W0;go_wp2_with(first
    |(go_at_call 26;refine(b.o _ hq).mono ?_;clear b;rintro e D ⟨rfl,l⟩;have hq:=Bt hq l;clear a;have a:=(boxed_below f.o hq).cell)
    |(go_at_call 82;refine(c.o _ hq).mono ?_;clear c;rintro e G ⟨rfl,o⟩;have hq:=Bt hq o;clear a;have a:=(boxed_below f.o hq).cell))
   go_ret;exact⟨rfl,Bt t.o hq⟩
end M3
section
structure ElT(ts ty:TypeId):Prop where
 under:Tryz.prog.underlying ts=some (.slice ty)
 info:∃i z z0,Tryz.prog.info? ty=some i/\i.zero=some z/\z.cells=#[z0]/\i.size=1/\i.bytes<=32
def FQ:S->Option Nat
 |E (some a) _ _=>some a.block
 |_=>none
def EF(ty:TypeId)(base:Nat)(W:F)(v:S)(cs:List S):Prop:=
 (v=E none 0 0/\cs=[])\/∃g cap cur,v=E (some ⟨g,0,none⟩) cs.length cap/\base<=g/\W.heap[g]?=some (C cur ty (0,0))/\cs.length<=cap/\cap<=maxLen/\cur.size=cap/\cur.toList.take cs.length=cs
theorem EF.nil(ty:TypeId)(base:Nat)(W:F):EF ty base W (E none 0 0) []:=Or.inl ⟨J,J⟩
section
variable {ty:TypeId} {base:Nat} {W W':World} {v:Value} {cs:List Value}
def EF.keep(h:EF ty base W v cs)(hk:∀g,FQ v=some g->base<=g->(∃cur,W.heap[g]?=some (C cur ty (0,0)))->W'.heap[g]?=W.heap[g]?):EF ty base W' v cs:=by
 rcases h with h|⟨g,cap,cur,rfl,a,b,c⟩
 . exact Or.inl h
 . exact Or.inr ⟨g,cap,cur,J,a,(hk g J a ⟨cur,b⟩).trans b,c⟩
def EF.below(h:EF ty base W v cs)(b:Bl W W'):EF ty base W' v cs:=h.keep λg _ _ ⟨_,a⟩=>b.block g (Ab.1 a).1
def EF.lt(h:EF ty base W v cs){g:Nat}(e:FQ v=some g):g<W.heap.size/\base<=g:=by
 rcases h with⟨rfl,_⟩|⟨c,cap,cur,rfl,a,b,d⟩
 . cases e
 . cases e;exact⟨(Ab.1 b).1,a⟩
def EF.own(h:EF ty base W v cs){row:Option Nat}(hg:W.grownBy W' row)(b:∀r,row=some r->∃o:Obj,W.heap[r]?=some o/\o.isCells=false):EF ty base W' v cs:=h.keep λg _ _ ⟨cur,a⟩=>by
 rw[a];exact M3.YD hg b a
theorem EF.form(h:EF ty base W v cs):∃a c,v=E a cs.length c/\cs.length<=c/\c<=maxLen:=by
 rcases h with⟨rfl,rfl⟩|⟨g,cap,cur,rfl,_,_,b,d,_⟩
 . exact⟨none,0,J,DL,by unfold maxLen;omega⟩
 . exact⟨_,cap,J,b,d⟩
end
variable{ts:TypeId}{x:S}
theorem lH{ty:TypeId}(T:ElT ts ty)(base:Nat)(W:F)(v:S)(cs:List S)(h:EF ty base W v cs)(ai:x.oneCell'=true)(hl:cs.length+1<=1099511627776)(w:base<=W.heap.size):
 ∃p w',(Builtin.append_ #[ts,ts] ts #[v,E (some ⟨W.heap.size,0,none⟩) 1 1]).run L (W.alloc (C #[x] ty))=.ok p w'/\EF ty base w' p (cs++[x])/\(∀B,B<W.heap.size->FQ v≠some B->w'.heap[B]?=W.heap[B]?)/\(∀n w0,n<=base->Below n w0 W->Below n w0 w')/\W.heap.size<=w'.heap.size/\(FQ p=FQ v\/∃g,FQ p=some g/\W.heap.size<=g):=by
 have A:=T.under;obtain⟨i,z,z0,hi,U,V,k,ae⟩:=T.info;have b:Bl W (W.alloc (C #[x] ty)):=Ba W _;obtain⟨a,K⟩:=ex (W.alloc (C #[x] ty));have Qf:a.heap[W.heap.size]?=some (C #[x] ty (0,0)):=by rw[<-K];exact BD W _
 rw[K]at b ⊢;have q:∀j c',[x][j]?=some c'->a.cell? ((⟨W.heap.size,0,none⟩:Addr).add j)=some c':=λj c' c=>by
  rw[Y5,AW];exact cell_of Qf (by simpa using c)
 have Qd:∀c'∈[x],c'.oneCell'=true:=λc' c=>by
  simp at c;rw[c];exact ai
 have grown:∀(l:Nat) (m:Nat),m=cs.length+1->
  EF ty base (a.drew.alloc (C (cs.toArray++[x].toArray++Builtin.zeroCells #[z0] (grownCap a m l ty-m)) ty)) (E (some ⟨a.heap.size,0,none⟩) m (grownCap a m l ty)) (cs++[x]):=by
  intro l m hm;subst hm;have Qg:=grownCap_ge a (cs.length+1) l ty;have Qh:=grownCap_le_maxLen a (cs.length+1) l ty (by unfold maxLen;omega);refine Or.inr ⟨a.heap.size,_,_,by rw[Aw];rfl,Ad w b.size,BD a.drew _,by rw[Aw];exact Qg,Qh,?_,?_⟩
  . simp only[Array.size_append,An,size_zeroCells,Ah,AE];show cs.length+1+(grownCap a (cs.length+1) l ty-(cs.length+1))*1=_;omega
  . simp only[Array.toList_append];exact List.take_left
 have fin:∀o,(∀B,B<W.heap.size->FQ v≠some B->(a.drew.alloc o).heap[B]?=W.heap[B]?)/\(∀n w0,n<=base->Below n w0 W->Below n w0 (a.drew.alloc o))/\W.heap.size<=(a.drew.alloc o).heap.size:=λo=>by
  have r:Bl W (a.drew.alloc o):=(b.drew).alloc (by exact b.size) _;exact⟨λB t _=>r.block B t,λn w0 hn u=>u.trans (r.mono (Ad hn w)),r.size⟩
 rcases h with⟨rfl,rfl⟩|⟨g,cap,cur,rfl,D,G,h4,h5,h6,H⟩
 . have d:=run_append_nil (P:=L) a ts ts ty i _ A hi U ⟨W.heap.size,0,none⟩ 1 1 [x] (by rw[k];rfl) q O O O;rw[V]at d;have:=grown 0 1 J;exact⟨_,_,d,by simpa using this,(fin _).1,(fin _).2.1,(fin _).2.2,Or.inr ⟨_,J,b.size⟩⟩
 . have s:a.heap[g]?=some (C cur ty (0,0)):=(b.block g (Ab.1 G).1).trans G;have h0:cur.toList.length=cur.size:=Array.length_toList;have aj:(cur.toList.take cs.length).length=cs.length:=by rw[AA];omega
   by_cases M:cs.length+1<=cap
   . have d:=run_append_room (P:=L) a ts ts ty i A hi g cs.length cap cur s ⟨W.heap.size,0,none⟩ 1 1 [x] (by rw[k];rfl) q Qd M (by rw[k];simp;omega);rw[k,Nat.mul_one,H]at d;obtain⟨f,y⟩:=ex ((cs++[x]++cur.toList.drop (cs.length+[x].length)).toArray);rw[y]at d;have Qi:=setRow_heap a g cur f ty (0,0) s;have X:a.heap.size<=(a.setRow g f).heap.size:=(below_setRow (B:=0) (BB _ a) (As _) f).size;refine⟨_,_,d,?_,λB t hn=>?_,λn w0 hn u=>below_setRow (u.trans (b.mono (Ad hn w))) (Ad hn D) f,Ad b.size X,Or.inl J⟩
     . refine Or.inr ⟨g,cap,f,by rw[Aw];rfl,D,Qi,by rw[Aw];exact M,h5,?_,?_⟩
       . rw[<-y];simp only[An,Aw,Ca,Ah,AE];omega
       . rw[<-y];exact List.take_left
     . exact(setRow_other a g B f λe=>hn (by rw[e];rfl)).trans (b.block B t)
   . have ah:∀j c',cs[j]?=some c'->a.cell? ((⟨g,0,none⟩:Addr).add j)=some c':=λj c' c=>by
      rw[Y5,AW];rw[<-H,List.getElem?_take]at c;split at c
      . rw[C3]at c;exact cell_of s c
      . cases c
     have d:=run_append_grow (P:=L) a ts ts ty i _ A hi U ⟨g,0,none⟩ cs.length cap cs (by rw[k];omega) ah ⟨W.heap.size,0,none⟩ 1 1 [x] (by rw[k];rfl) q O O (Ad (Ai _ ae) (growslice_fits O O));rw[V]at d;exact⟨_,_,d,grown cap _ J,(fin _).1,(fin _).2.1,(fin _).2.2,Or.inr ⟨_,J,b.size⟩⟩
def Tryz.infoPolyC:(Tryz.prog.info? 25).map (λi=>(i.zero,i.size,i.bytes))=some (some (.agg #[E none 0 0]),1,24):=by kernel_rfl
def lI{ty:TypeId}{z z0:S}{b:Nat}(c:Tryz.prog.underlying ts=some (.slice ty))(d:(Tryz.prog.info? ty).map (λi=>(i.zero,i.size,i.bytes))=some (some z,1,b))(e:z.cells=#[z0])(f:b<=32):ElT ts ty:=by
 obtain⟨i,hi,a⟩:=CY.1 d;simp only[Prod.mk.injEq]at a;exact⟨c,i,z,z0,hi,a.1,e,a.2.1,by rw[a.2.2];exact f⟩
def I8(Q:S->List Rat->Prop)(cs:List S)(L:List (List Rat)):Prop:=cs.length=L.length/\∀(j:Nat) p,L[j]?=some p->∃x,cs[j]?=some x/\Q x p
def I8.keep{Q Q':S->List Rat->Prop}{cs:List S}{L:List (List Rat)}(h:I8 Q cs L)(hk:∀x p,Q x p->Q' x p):I8 Q' cs L:=⟨h.1,λj p e=>by obtain⟨x,a,b⟩:=h.2 j p e;exact⟨x,a,hk _ _ b⟩⟩
theorem I8.snoc{Q:S->List Rat->Prop}{cs:List S}{L:List (List Rat)}(h:I8 Q cs L){p:List Rat}(g:Q x p):I8 Q (cs++[x]) (L++[p]):=by
 refine⟨by simp[h.1],λj q e=>?_⟩;by_cases f:j<L.length
 . rw[CF f]at e;obtain⟨y,a,b⟩:=h.2 j q e;exact⟨y,by rw[CF (by have:=h.1;omega)];exact a,b⟩
 . rw[A9 O]at e;obtain⟨d,c⟩:=ex (j-L.length);rw[c]at e;cases d with
   |succ d=>simp at e
   |zero=>
    simp at e;subst e;exact⟨x,by rw[A9 (by have:=h.1;omega),show j-cs.length=0 by have:=h.1;omega];rfl,g⟩
abbrev F9(W:F)(cs:List S)(L:List (List Rat)):Prop:=I8 (λx p=>Jd W (.agg #[x]) p) cs L
def lJ:ElT 119 25:=lI Tryz.underlying119 Tryz.infoPolyC rfl O
end
namespace M3
def MH{α:Type}(G:List α->F->Prop):Prop:=∀H W W',G H W->Bl W W'->G H W'
variable{lb pb:Array S}{G:List Int->F->Prop}{B B' gf l pf:Nat}{g:Nat->S->Act}{row:Option Nat}{W0 w:F}
def lK{n m:Nat}{P:Program}{args:Array S}{W:F}{R:Ending->F->Prop}(h:YieldAt Fence.wide n P l args W R):YieldAt Fence.wide m P l args W R:=by
 obtain⟨fn,t,a,b,e,d⟩:=h;exact⟨fn,t,a,b,e,d.1,λc cs _=>d.2 c cs (room_wide _)⟩
def lL{α:Type}(l b:Nat)(xs:List α)(a:F->S->α->Prop)(G:List α->F->Prop):Prop:=
 ∀n H x v W,G H W->a W v x->H++[x] <+: xs->b<=W.heap.size->YieldAt Fence.wide n L l #[v] W λe W'=>e=.returned (N true)/\G (H++[x]) W'/\W.heap.size<=W'.heap.size/\∀(k:Nat) (o:Obj),b<=k->W.heap[k]?=some o->W'.heap[k]?=some o
def I9{α:Type}(gf:Nat)(lb:Array S)(w0:F)(xs:List α)(a:F->S->α->Prop):Prop:=
 ∀(n l:Nat) (G:List α->F->Prop) (W0:F),Bl w0 W0->MH G->OwnFrom W0.heap.size G->(∀H W,G H W->Bl w0 W)->lL l W0.heap.size xs a G->G [] W0->
  CallsIn Fence.wide n L gf (#[.func (.yield l) #[] #[]]++lb) W0 λe W'=>(∃v,e=.returned v)/\G xs W'
def LM{α:Type}(b:Nat)(I:List α->F->Prop)(H:List α)(W:F):Exit->Act->F->Prop
 |.normal,_,W'=>I H W'/\W.heap.size<=W'.heap.size/\∀(k:Nat) (o:Obj),b<=k->W.heap[k]?=some o->W'.heap[k]?=some o
 |_,_,_=>False
theorem QG{α:Type}{g:Operand}{ps:Array Tmp}{assign body:Code}{Q:Exit->Act->F->Prop}{a:Act}{w:F}{n:Nat}
{gf:Nat}{lb:Array S}{w0:F}{xs:List α}{T:F->S->α->Prop}(bj:I9 gf lb w0 xs T)(ap:Bl w0 w)
(hg:a.eval g=.func (.func gf) #[] lb)(eg:∀args w,(callFunc gf args).run L w=.ok (.enter gf args) w)(bi:ps.size=1)
(I:List α->F->Prop)(j:OwnFrom w.heap.size I)(ae:MH I)(ah:∀H W,I H W->Bl w0 W)(h0:I [] w)(y:α->Act->F->Prop)(aj:∀x a',OwnFrom w.heap.size λ(_:Unit) W=>y x a' W)
(am:∀(l:Nat) (v:S) (x:α) (W:F) (K:Act->F->Prop),T W v x->Bl w0 W->(∀a' W',Bl W W'->y x a' W'->K a' W')->
  assign.wpIn (Fence.wide.inRound l) (n-1-1) L (Exit.then K λ_ _ _=>False) { tmps:=(ps.zip #[v]).foldl (λt (p,v)=>t.setIfInBounds p v) a.tmps,defers:=[] } W)
(aq:∀(l:Nat) (a':Act) (x:α) (H:List α) (W:F),I H W->y x a' W->H++[x] <+: xs->w.heap.size+1<W.heap.size->
  body.wpIn (Fence.wide.inRound l) (n-1-1) L (LM w.heap.size I (H++[x]) W) a' W)
(ay:∀(D:Nat) (W:F),w.heap.size<=D->I xs W->W.heap[D]?=some (.deferred (some []))->Q .normal { a with defers:={ target:=.collected D,args:=#[] }::a.defers } W):
 (Code.rangeFunc g ps assign body).wpIn Fence.wide n L Q a w:=by
 refine wpIn_rangeFunc λfn az=>?_;rw[show Fence.wide.round=none from J];obtain⟨rc,f⟩:∃rc:LoopState->Option Code->Loop,rc=λst pe=>{ state:=st,pending:=pe,fn,tmps:=a.tmps,params:=ps,assign,body,defers:=w.heap.size }:=⟨_,J⟩;obtain⟨V,q⟩:=ex ((w.alloc (.deferred (some []))).alloc (.loop (rc .ready none)));have vL:V.heap[w.heap.size+1]?=some (.loop (rc .ready none)):=by
  rw[<-q];have:=BD (w.alloc (.deferred (some []))) (.loop (rc .ready none));rwa[Ax]at this
 have vD:V.heap[w.heap.size]?=some (.deferred (some [])):=by
  rw[<-q];exact(Bi _ _ _ DL).trans (BD w _)
 have vI:I [] V:=by rw[<-q];exact j.alloc _ (j.alloc _ h0)
 have Qo:Bl w V:=by rw[<-q];exact(Ba w _).alloc (by rw[Ax];omega) _
 have bm:V.heap.size=w.heap.size+2:=by rw[<-q];simp
 refine⟨w.heap.size+1,[{ target:=.collected w.heap.size,args:=#[] }],V,{ target:=.fn (.func gf) lb,args:=#[.func (.yield (w.heap.size+1)) #[] #[]] },V,gf,
  #[.func (.yield (w.heap.size+1)) #[] #[]]++lb,V,?_,?_,?_,?_,λh=>by simp[Fence.wide]at h,?_⟩
 . rw[<-q,f];exact run_enterLoop_outer _ _ _ _ _
 . simp only[resolve,hg];simp[go_sem]
 . intro f' ai;simp[Target.leads]at ai;subst ai;exact trivial
 . simp[invoke,go_sem,eg]
 refine(bj (n-1) (w.heap.size+1)
  (λH W=>I H W/\W.heap[w.heap.size+1]?=some (.loop (rc .ready none))/\W.heap[w.heap.size]?=some (.deferred (some [])))
  V (Bt ap Qo) ?_ ?_ (λH W h=>ah H W h.1) ?_ ⟨vI,vL,vD⟩).mono ?_
 . rintro H W W' ⟨hi,hl,hk⟩ B;exact⟨ae _ _ _ hi B,(B.block _ (Ab.1 hl).1).trans hl,(B.block _ (Ab.1 hk).1).trans hk⟩
 . rintro H W W' row ⟨hi,hl,hk⟩ M d;exact⟨j H W W' row hi M λr e=>⟨by have:=(d r e).1;omega,(d r e).2⟩,(M.block _ (Ab.1 hl).1 λe=>by have:=(d _ e.symm).1;omega).trans hl,(M.block _ (Ab.1 hk).1 λe=>by have:=(d _ e.symm).1;omega).trans hk⟩
 . rintro m H x v W ⟨hi,hl,hk⟩ hx bg bz;have Qc:w.heap.size+1<W.heap.size:=(Ab.1 hl).1;have hy:=run_yield (P:=L) (args:=#[v]) hl (by rw[f];exact bi.symm);rw[f]at hy;refine lK (n:=n-1-1) ⟨fn,_,assign,body,hy,roundIn_of_wpIn az (am _ _ x W _ hx (ah _ _ hi) λa' c hA an=>?_)⟩;have z:c.heap[w.heap.size+1]?=some (.loop (rc .ready none)):=(hA.block _ Qc).trans hl;have Qk:c.heap[w.heap.size]?=some (.deferred (some [])):=(hA.block _ O).trans hk;have Qh:I H c:=ae _ _ _ hi hA;refine⟨_,run_beginRound z (by rw[f]),?_⟩;have Qd:w.heap.size+1<c.heap.size:=(Ab.1 z).1;obtain⟨b,u⟩:=ex (c.putObj (w.heap.size+1) (.loop { rc .ready none with state:=.busy }));rw[u];have Qi:b.heap[w.heap.size+1]?=some (.loop { rc .ready none with state:=.busy }):=by rw[<-u];exact Bg Qd
   have X:∀k,k≠w.heap.size+1->b.heap[k]?=c.heap[k]?:=λk hk=>by rw[<-u];exact BO O
   have Qj:b.heap[w.heap.size]?=some (.deferred (some [])):=(X _ O).trans Qk;have Ql:I H b:=by rw[<-u];exact j.putObj _ Qh O z J
   have Qf:y x a' b:=by rw[<-u];exact(aj x a').putObj (s:=()) _ an O z J
   have bn:c.heap.size=b.heap.size:=by rw[<-u];simp[World.putObj]
   refine wpIn_mono (aq _ a' x H b Ql Qf bg O) λe a3 i hp=>?_;cases e with
   |normal=>
    obtain⟨bf,bu,G⟩:=hp;have A:=G _ _ O Qi;have d:=run_endRound (P:=L) none A;have U:∀k,k≠w.heap.size+1->(i.putObj (w.heap.size+1) (.loop (rc .ready none))).heap[k]?=i.heap[k]?:=λk hk=>BO O;have Qm:(Instr.endRound (w.heap.size+1) none).run L i=.ok (N true) (i.putObj (w.heap.size+1) (.loop (rc .ready none))):=by
     rw[f]at d ⊢;exact d
    refine⟨_,_,Qm,J,⟨j.putObj _ bf O A J,Bg (Ab.1 A).1,(U _ O).trans (G _ _ (Aa _) Qj)⟩,?_,λk o hk ho=>?_⟩
    . have h5:=hA.size;have h6:(i.putObj (w.heap.size+1) (.loop (rc .ready none))).heap.size=i.heap.size:=by simp[World.putObj]
      omega
    . have Qn:k<W.heap.size:=(Ab.1 ho).1;exact(U k O).trans (G k o O ((X k O).trans ((hA.block k Qn).trans ho)))
   |ret=>exact hp.elim
   |exit id=>exact hp.elim
   |goto t=>exact hp.elim
   |panic ch=>exact hp.elim
   |outgrown=>exact hp.elim
 . rintro e b ⟨⟨v,rfl⟩,hi,hl,hk⟩;exact⟨none,_,by have:=run_endLoop (P:=L) hl (by rw[f];simp);rw[f]at this;exact this,ay _ _ (Aa _) (j.putObj _ hi O hl J) ((BO O).trans hk)⟩
def QH(_:F)(v:S)(s:Int):Prop:=v=.int R s
def GT(w:F)(H:List Int)(W:F):Prop:=
 Boxed W w.heap.size 3 (.int R ((H.foldl D6 (0,0)).1:Int))/\Boxed W (w.heap.size+1) 3 (.int R (H.foldl D6 (0,0)).2)/\Bl w W
def GT.bel{H:List Int}{W W':F}(h:GT w H W)(a:Bl W W'):GT w H W':=⟨boxed_below h.1 a,boxed_below h.2.1 a,Bt h.2.2 a⟩
def GT.own(b:w.heap.size<=B):OwnFrom B (GT w):=λ_ _ _ _ h hg a=>
 ⟨YD hg (λr e=>(a r e).2) h.1,YD hg (λr e=>(a r e).2) h.2.1,h.2.2.grown hg h.2.2.size λk e=>Ad b (a k e).1⟩
theorem VR(w:F)(xs:List Int)(ae:I9 gf lb w xs QH)(eg:∀args w,(callFunc gf args).run L w=.ok (.enter gf args) w)(hx:∀s∈xs,-1<=s/\s<=1)(hl:xs.length<=1000000000):
 Calls L 160 #[.func (.func gf) #[] lb] w λe w'=>e=.returned (Q R (Hk xs:Int))/\Bl w w':=by
 obtain⟨B,t,z⟩:=Db ae hx hl;obtain⟨d,i⟩:=ex ((w.alloc (C #[Q R 0] 3)).alloc (C #[Q R 0] 3));have G:Bl w d:=by rw[<-i];exact(Ba w _).alloc (by rw[Ax];omega) _
 have Ql:GT w [] d:=by
  rw[<-i];refine⟨(BH w 3 (Q R 0)).alloc _,?_,by rw[i];exact G⟩;have:=BH (w.alloc (C #[Q R 0] 3)) 3 (Q R 0);rwa[Ax]at this
 have X:d.heap.size=w.heap.size+2:=by rw[<-i];simp
 obtain⟨T,U,u,Qk⟩:=Dr Ql G X i;clear ae hx hl G Ql X i;refine(BI (n:=3)).1 ?_;refine BP Tryz.func160 rfl trivial ?_ rfl;simp only[Tryz.ntmps160,An,Ah,AE,Nat.reduceAdd,Nat.reduceSub,Ao,Ap,AD,Au,Am,AB];gi_wp2_with fail
 rw[Qk.o];clear Qk;refine QG B.o U.o rfl eg rfl (GT w) (GT.own (by have:=u.o;omega)) (λ_ _ _ h hb=>h.bel hb) (λ_ _ h=>h.2.2) T.o (λs a _=>a={ tmps:=#[.func (.func gf) #[] lb,P,Q R 0,I (some ⟨w.heap.size,0,none⟩),I (some ⟨w.heap.size+1,0,none⟩),Q R s,.func (.func gf) #[] lb,Q R s,P,P,P,P,P,P,P,P,P,P],defers:=[] }) (λ_ _ _ _ _ _ h _ _=>h) ?assign ?body ?done
 case assign=>
  intro l v s W K he hB q;obtain rfl:v=Q R s:=he;have r:=Z (q _ W (BB _ W) rfl);clear q hB;gi_wp2;exact r.o
 case body=>
  intro l a' s H W m ah y aj;subst ah;have hs:=t.o s (y.subset DL);have A:=VL H (0,0) (λa ha=>t.o a (y.subset (by simp[ha]))) DN;have Qm:H.length<=1000000000:=by
   have c:=y.length_le;have f:=z.o;grind
  obtain⟨c,f,h3⟩:=m;obtain⟨st,V⟩:=ex (H.foldl D6 (0,0));have Qi:(H++[s]).foldl D6 (0,0)=D6 st s:=by rw[lD,V]
  rw[V]at c f A;obtain⟨n,l2⟩:=st;simp only at c f A;obtain⟨⟨am,an⟩,ai⟩:=A;have hn:n<=1000000000:=O
  have e3:=c.cell;have e4:=f.cell;have f3:=c.frozen;have f4:=f.frozen;obtain⟨b,Qj,M⟩:=Db (And.intro c (And.intro f h3)) (show w.heap.size+2<=d.heap.size by rw[u.o];exact Aa _) Qi;clear c f h3 y aj ai Qm V Qi t z T U u B;by_cases x:s=0
  . have g:=Z (show ∀j,LM d.heap.size (GT w) (H++[s]) W .normal j W from λ_=>⟨by
     have e:D6 (n,l2) s=(n,l2):=by unfold D6;rw[BF x]
     unfold GT;rw[M.o,e];exact b.o,Aa _,λ_ _ _ h=>h⟩)
    subst x;gi_wp2;exact g.o _
  . by_cases c:s=-l2
    . subst c;have g:=Z (show ∀j,LM d.heap.size (GT w) (H++[-l2]) W .normal j ((W.setCell ⟨w.heap.size,0,none⟩ (Q R ((n+1:Nat):Int))).setCell ⟨w.heap.size+1,0,none⟩ (Q R (-l2)))from λ_=>⟨by
       have e:D6 (n,l2) (-l2)=(n+1,-l2):=by unfold D6;rw[BE x,BF rfl]
       unfold GT;rw[M.o,e];exact⟨Boxed.other (b.o.1.set _) O _,(Boxed.other b.o.2.1 O _).set _,(b.o.2.2.setCell (p:=⟨w.heap.size,0,none⟩) (Aa _) _).setCell (p:=⟨w.heap.size+1,0,none⟩) DK _⟩,by grind[World.size_setCell],λk o hk h=>by
       have:=Qj.o;grind[BC]⟩)
      have Qn:=(Boxed.other b.o.2.1 (show w.heap.size+1≠w.heap.size by omega) (Q R ((n+1:Nat):Int))).frozen;have Qo:=(Boxed.other b.o.2.1 (show w.heap.size+1≠w.heap.size by omega) (Q R ((n+1:Nat):Int))).cell;push_cast at g Qn Qo
      gi_wp2;exact g.o _
    . have g:=Z (show ∀j,LM d.heap.size (GT w) (H++[s]) W .normal j (W.setCell ⟨w.heap.size+1,0,none⟩ (Q R s))from λ_=>⟨by
       have e:D6 (n,l2) s=(n,s):=by unfold D6;rw[BE x,BE c]
       unfold GT;rw[M.o,e];exact⟨Boxed.other b.o.1 O _,b.o.2.1.set _,b.o.2.2.setCell (p:=⟨w.heap.size+1,0,none⟩) DK _⟩,by rw[World.size_setCell];exact Aa _,λk o hk h=>by
       have:=Qj.o;grind[BC]⟩)
      gi_wp2;exact g.o _
 case done=>
  intro D W hD m q;have e3:=m.1.cell;obtain⟨r,b,HD⟩:=Db q m.2.2 (show w.heap.size<=D by have:=u.o;omega);clear m hD q B t z T U;gi_wp2_with fail
  refine⟨DL,.inl ⟨_,_,rfl,BU r.o,?_⟩⟩;exact⟨Q R (Hk xs:Int),by simp[results,Tryz.results160,go_sem];rfl,rfl,b.o.trans (DH (w:=w) (Aa _) _ D _ _ HD.o r.o rfl rfl)⟩
def N2(W:F)(v:S)(p:List Rat):Prop:=Jd W v p
def QI(W:F)(v:S)(q:Rat):Prop:=Jg W v q
def LN{α:Type}(pf:Nat)(pb:Array S)(w0:F)(xs:List α)(a:F->S->α->Prop)(f:α->Int):Prop:=
 ∀W v x,Bl w0 W->a W v x->x∈xs->Calls L pf (#[v]++pb) W λe W'=>e=.returned (.int R (f x))/\Bl W W'
def FX{α:Type}(W0:F)(l:Nat)(f:α->Int)(G:List Int->F->Prop)(ty:TypeId)(H:List α)(W:F):Prop:=G (H.map f) W/\Boxed W W0.heap.size ty (.func (.yield l) #[] #[])
def FX.own{α:Type}{f:α->Int}{ty:TypeId}(c:OwnFrom W0.heap.size G)(b:W0.heap.size<=B):OwnFrom B (FX W0 l f G ty):=λ_ W W' row h hg a=>
 ⟨c _ W W' row h.1 hg λr e=>⟨Ad b (a r e).1,(a r e).2⟩,YD hg (λr e=>(a r e).2) h.2⟩
def FX.bel{α:Type}{f:α->Int}{ty:TypeId}(b:MH G):MH (FX W0 l f G ty):=λ_ _ _ h a=>⟨b _ _ _ h.1 a,boxed_below h.2 a⟩
def Kl{α:Type}(W0 W:F)(l:Nat)(f:α->Int)(G:List Int->F->Prop)(ty:TypeId)(H:List α)(V:F):Prop:=FX W0 l f G ty H V/\W.heap.size<=V.heap.size/\∀(k:Nat) (o:Obj),W0.heap.size<=k->W.heap[k]?=some o->V.heap[k]?=some o
def Kl.bel{α:Type}{W0 W:F}{l:Nat}{f:α->Int}{G:List Int->F->Prop}{ty:TypeId}{H:List α}{V V':F}(b:MH G)(h:Kl W0 W l f G ty H V)(a:Bl V V'):Kl W0 W l f G ty H V':=
 ⟨FX.bel b _ _ _ h.1 a,Ad h.2.1 a.size,λk o hk c=>by have:=h.2.2 k o hk c;exact(a.block k (Ab.1 this).1).trans this⟩
def lN{W W':F}(hg:W.grownBy W' row)(a:∀r,row=some r->∃o:Obj,W.heap[r]?=some o/\o.isCells=false){v:S}{ps:List Rat}(h:Jd W v ps):Jd W' v ps:=by
 obtain⟨u,e,h⟩:=h;exact⟨u,e,ME hg a h⟩
def N3(e:Nat->S->Act)(B:Nat)(x:List Rat)(a:Act)(W:F):Prop:=∃b c l d,B<=b/\Boxed W b 25 (E c l d)/\Jd W (.agg #[E c l d]) x/\a=e b (E c l d)
def N3.own(x:List Rat)(a:Act):OwnFrom B' (λ(_:Unit) W=>N3 g B x a W):=λ_ _ _ _ h hg f=>by
 obtain⟨b,c,l,d,i,j,k,m⟩:=h;exact⟨b,c,l,d,i,YD hg (λr e=>(f r e).2) j,lN hg (λr e=>(f r e).2) k,m⟩
theorem lO(w0:F)(xs:List (List Rat))(f:List Rat->Int)(A z:Nat)(bf:I9 gf lb w0 xs N2)(eg:∀args w,(callFunc gf args).run L w=.ok (.enter gf args) w)(ep:∀args w,(callFunc pf args).run L w=.ok (.enter pf args) w)
(ay:Boxed w0 A 122 (.func (.func gf) #[] lb))(aq:Boxed w0 z 64 (.func (.func pf) #[] pb))(hp:LN pf pb w0 xs N2 f):
 I9 222 #[I (some ⟨A,0,none⟩),I (some ⟨z,0,none⟩)] w0 (xs.map f) QH:=by
 intro n l G W0 ap ah am an hY aj;obtain⟨u,s⟩:=ex (W0.alloc (C #[.func (.yield l) #[] #[]] 255));have Qe:Bl W0 u:=by rw[<-s];exact Ba W0 _
 have Qj:u.heap.size=W0.heap.size+1:=by rw[<-s];simp
 have Qh:FX W0 l f G 255 [] u:=⟨ah _ _ _ aj Qe,by rw[<-s];exact BH W0 _ _⟩;have Qd:=Bt ap Qe;obtain⟨Qo,HP,Qn,Qc,Qf,Qi,Qm,Qk⟩:=ID bf hp ah am an hY Qh Qd;obtain⟨t,Ql,Qg⟩:=Db Qj s aq;have c1:=(boxed_below ay (Qd.mono (by exact Aa _))).cell;rw[<-s]at c1;clear bf hp ah am an hY Qh Qd Qj s Qe ap aj ay aq;refine BP Tryz.func222 rfl trivial ?_ rfl;simp only[Tryz.ntmps222,An,Ah,AE,Nat.reduceAdd,Nat.reduceSub,Ao,Ap,AD,Au,Am,AB];gi_wp2_with fail
 rw[Ql.o];clear Ql c1;refine QG Qo.o Qk.o rfl eg rfl (FX W0 l f G 255) (FX.own Qc.o (by have:=t.o;omega)) (FX.bel Qn.o) (λ_ _ h=>Qf.o _ _ h.1) Qm.o
  (N3 (λb v=>{ tmps:=#[.func (.yield l) #[] #[],I (some ⟨A,0,none⟩),I (some ⟨z,0,none⟩),I (some ⟨W0.heap.size,0,none⟩),I (some ⟨b,0,none⟩),.func (.func gf) #[] lb,.agg #[v],P,P,P,P,P,P],defers:=[] }) w0.heap.size) (λx a=>N3.own x a) ?assign ?body ?done
 case assign=>
  intro l1 v x W K he d p;obtain⟨a,l2,c,rfl⟩:=Jd.form (show Jd W v x from he);have hA:Bl W (W.alloc (C #[E a l2 c] 25)):=Ba W _;have B:=Z (p _ (W.alloc (C #[E a l2 c] 25)) hA ⟨W.heap.size,a,l2,c,d.size,BH W _ _,Jd.below he hA,rfl⟩);clear p d he hA;gi_wp2;exact B.o
 case body=>
  rintro l1 a' x H W r ⟨b,a,l2,c,bm,az,hx,rfl⟩ ai bn;have hW:=Qf.o _ _ r.1;obtain⟨Qr,Qv,Qp,Qq,Qs,HN,Qt⟩:=IV (λ(V:F) (d:Bl W V)=>(boxed_below r.2 d).cell) (λ(V:F) (d:Bl W V)=>(boxed_below (boxed_below Qg.o hW) d).cell) (λ(V:F) (d:Bl W V)=>(boxed_below az d).cell) (λ(V:F) (d:Bl W V)=>HP.o V _ x (Bt hW d) (hx.below d) (ai.subset DL)) (λ(n9:Nat) (V:F) (d:Bl W V)=>Qi.o n9 (H.map f) (f x) (Q R (f x)) V (Qn.o _ _ _ r.1 d) rfl (by have:=ai.map f;rwa[List.map_append]at this) (Ad (by have:=t.o;omega) d.size)) (λ(V V':F) (d:Bl W V) (h:G (H.map f++[f x]) V'/\V.heap.size<=V'.heap.size/\∀(k:Nat) (o:Obj),W0.heap.size<=k->V.heap[k]?=some o->V'.heap[k]?=some o)=>show Kl W0 W l f G 255 (H++[x]) V' from⟨⟨by rw[List.map_append];exact h.1,h.2.2 _ _ (Aa _) (boxed_below r.2 d)⟩,Ad d.size h.2.1,λk o hk T=>h.2.2 k o hk ((d.block k (Ab.1 T).1).trans T)⟩) (show W0.heap.size<=u.heap.size by have:=t.o;omega);clear r bm az hx ai bn hW Qo HP Qc Qf Qi Qm Qk t Qg;dsimp only;gi_wp2_with fail
  refine XD Dj [[],[],[],[1,2],[0,3,3],[4]] (by kernel_rfl) DN
   (λD y V=>∃(X te tg ta tb U:S),y={ tmps:=#[.func (.yield l) #[] #[],I (some ⟨A,0,none⟩),I (some ⟨z,0,none⟩),I (some ⟨W0.heap.size,0,none⟩),I (some ⟨b,0,none⟩),.func (.func gf) #[] lb,.agg #[E a l2 c],X,te,tg,ta,tb,U],defers:=[] }/\Hid ((D 0=true->X=.func (.yield l) #[] #[])/\(D 1=true->te=.func (.func pf) #[] pb)/\(D 2=true->tg=.agg #[E a l2 c])/\(D 3=true->ta=Q R (f x))/\(D 4=true->tb=N true)/\(D 5=true->U=N false))/\Hid ((D 4=false->Bl W V)/\(D 4=true->Kl W0 W l f G 255 (H++[x]) V)))
   ⟨_,_,_,_,_,_,rfl,Z DL,Z ⟨λ_=>(BB _ W).drew,DL⟩⟩ ?step ?fin
  case step=>
   rintro D y V i ds M hi m bg ⟨X,te,tg,ta,tb,U,rfl,g,j⟩;have bz:i<6:=(Aq.1 hi).1;have q:i<5->D 4=false:=λce=>by
    cases h:D 4 with
    |false=>rfl
    |true=>
     exfalso
     have h3:=M 4 _ rfl h 3 DL;have h0:=M 4 _ rfl h 0 DL;have h1:=M 3 _ rfl h3 1 DL;have h2:=M 3 _ rfl h3 2 DL;obtain rfl|rfl|rfl|rfl|rfl:=Oq i O
     all_goals simp_all
   obtain rfl|rfl|rfl|rfl|rfl|rfl:=Ot i O
   all_goals
    simp only[Cn,Ce,AU]at hi;subst hi
   . have d:=j.o.1 (q O);have e0:=Qr.o V d;clear m;refine Ep ?_;exact⟨(Pb g),Z ⟨λh=>j.o.1 (by simpa using h),λh=>j.o.2 (by simpa using h)⟩⟩
   . have d:=j.o.1 (q O);have e0:=Qv.o V d;clear m;refine Ep ?_;exact⟨(Pc g),Z ⟨λh=>j.o.1 (by simpa using h),λh=>j.o.2 (by simpa using h)⟩⟩
   . have d:=j.o.1 (q O);have e0:=Qp.o V d;clear m;refine Ep ?_;exact⟨(TR g),Z ⟨λh=>j.o.1 (by simpa using h),λh=>j.o.2 (by simpa using h)⟩⟩
   . have d:=j.o.1 (q O);have Qu:=q O;obtain rfl:=g.o.2.1 (m 1 DL);obtain rfl:=g.o.2.2.1 (m 2 DL);clear m q;refine Bb rfl λK p=>?_;go_simp;refine⟨trivial,λh=>by simp[Fence.wide]at h,(Bh l1 ((BI (n:=_)).2 (Qq.o V d))).mono ?_⟩;rintro e w5 ⟨rfl,bj⟩;exact p _ _ ⟨_,_,_,_,_,_,rfl,Z ⟨g.o.1,λ_=>rfl,λ_=>rfl,λ_=>rfl,g.o.2.2.2.2.1,g.o.2.2.2.2.2⟩,Z ⟨λ_=>Bt d bj,λh=>by simp[Qu]at h⟩⟩
   . have d:=j.o.1 bg;obtain rfl:=g.o.1 (m 0 DL);obtain rfl:=g.o.2.2.2.1 (m 3 DL);clear m q;obtain⟨fn,tm,bu,bd,hy,bi⟩:=Qs.o (n-1-1-1) V d;refine Bb rfl λK p=>?_;go_simp;refine⟨λh=>by simp[Fence.wide]at h,RoundIn.mono bi ?_⟩;rintro e w5 ⟨rfl,h5⟩;exact p _ _ ⟨_,_,_,_,_,_,rfl,Z ⟨λ_=>rfl,g.o.2.1,g.o.2.2.1,λ_=>rfl,λ_=>rfl,g.o.2.2.2.2.2⟩,Z ⟨λh=>by simp at h,λ_=>HN.o V w5 d h5⟩⟩
   . obtain rfl:=g.o.2.2.2.2.1 (m 4 DL);clear m q;refine Ep ?_;exact⟨Z ⟨g.o.1,g.o.2.1,g.o.2.2.1,g.o.2.2.2.1,λ_=>rfl,λ_=>rfl⟩,Z ⟨λh=>j.o.1 (by simpa using h),λh=>j.o.2 (by simpa using h)⟩⟩
  case fin=>
   rintro D y V ae ⟨X,te,tg,ta,tb,U,rfl,g,j⟩;obtain rfl:=g.o.2.2.2.2.2 (ae 5 DN);have HE:=Z (show ∀y,LM u.heap.size (FX W0 l f G 255) (H++[x]) W .normal y V from λ_=>by
    have h:=j.o.2 (ae 4 DN);exact⟨h.1,h.2.1,λk o hk T=>h.2.2 k o (Ad Qt.o hk) T⟩)
   clear g j ae;gi_wp2;exact HE.o _
 case done=>
  intro D W hD r p;obtain⟨B,HI,HD⟩:=Db p r (show W0.heap.size<=D by have:=t.o;omega);clear r hD p;gi_wp2_with fail
  refine⟨DL,.inl ⟨_,_,rfl,BU B.o,?_⟩⟩;refine⟨_,results_none rfl _ _ _,⟨_,rfl⟩,?_⟩;exact Qc.o.putObj _ HI.o.1 HD.o B.o rfl
def lU{W W':F}(hg:W.grownBy W' row)(a:∀r,row=some r->∃o:Obj,W.heap[r]?=some o/\o.isCells=false){v:S}{q:Rat}(h:Jg W v q):Jg W' v q:=EM.keep (r:=true) h λ_ _ _ h=>Nx hg a h
def N8(g:Nat->S->Act)(B:Nat)(x:Rat)(a:Act)(W:F):Prop:=∃b e f c d l1 c1 l2 c2,B<=b/\JP W b 41 (N e) (E c l1 c1) (N f) (E d l2 c2)/\Jg W (.agg #[N e,E c l1 c1,N f,E d l2 c2]) x/\a=g b (.agg #[N e,E c l1 c1,N f,E d l2 c2])
def N8.own(x:Rat)(a:Act):OwnFrom B' (λ(_:Unit) W=>N8 g B x a W):=λ_ _ _ _ h hg c=>by
 obtain⟨b,k,l,x1,x2,l1,c1,l2,c2,d,f,i,j⟩:=h;exact⟨b,k,l,x1,x2,l1,c1,l2,c2,d,YD hg (λr e=>(c r e).2) f,lU hg (λr e=>(c r e).2) i,j⟩
theorem lV(w0:F)(xs:List Rat)(f:Rat->Int)(X U:Nat)(bg:I9 gf lb w0 xs QI)(eg:∀args w,(callFunc gf args).run L w=.ok (.enter gf args) w)(ep:∀args w,(callFunc pf args).run L w=.ok (.enter pf args) w)
(az:Boxed w0 X 280 (.func (.func gf) #[] lb))(ay:Boxed w0 U 74 (.func (.func pf) #[] pb))(hp:LN pf pb w0 xs QI f):
 I9 283 #[I (some ⟨X,0,none⟩),I (some ⟨U,0,none⟩)] w0 (xs.map f) QH:=by
 intro n l G W0 aq ai an ap hY am;obtain⟨M,u⟩:=ex (W0.alloc (C #[.func (.yield l) #[] #[]] 255));have Qe:Bl W0 M:=by rw[<-u];exact Ba W0 _
 have Qj:M.heap.size=W0.heap.size+1:=by rw[<-u];simp
 have Qh:FX W0 l f G 255 [] M:=⟨ai _ _ _ am Qe,by rw[<-u];exact BH W0 _ _⟩;have Qd:=Bt aq Qe;obtain⟨Qo,HP,Qn,Qc,Qf,Qi,Qm,Qk⟩:=ID bg hp ai an ap hY Qh Qd;obtain⟨B,Ql,Qg⟩:=Db Qj u ay;have c1:=(boxed_below az (Qd.mono (by exact Aa _))).cell;rw[<-u]at c1;clear bg hp ai an ap hY Qh Qd Qj u Qe aq am az ay;refine BP Tryz.func283 rfl trivial ?_ rfl;simp only[Tryz.ntmps283,An,Ah,AE,Nat.reduceAdd,Nat.reduceSub,Ao,Ap,AD,Au,Am,AB];gi_wp2_with fail
 rw[Ql.o];clear Ql c1;refine QG Qo.o Qk.o rfl eg rfl (FX W0 l f G 255) (FX.own Qc.o (by have:=B.o;omega)) (FX.bel Qn.o) (λ_ _ h=>Qf.o _ _ h.1) Qm.o
  (N8 (λb v=>{ tmps:=#[.func (.yield l) #[] #[],I (some ⟨X,0,none⟩),I (some ⟨U,0,none⟩),I (some ⟨W0.heap.size,0,none⟩),I (some ⟨b,0,none⟩),.func (.func gf) #[] lb,v,P,P,P,P,P,P],defers:=[] }) w0.heap.size) (λx a=>N8.own x a) ?assign ?body ?done
 case assign=>
  intro l1 v x W K he d p;obtain⟨z,a,l2,c,A,s,y,t,rfl⟩:=Jg.form (show Jg W v x from he);have hA:Bl W (W.alloc (C #[N z,E a l2 c,N A,E s y t] 41)):=Ba W _;have HK:=Z (p _ (W.alloc (C #[N z,E a l2 c,N A,E s y t] 41)) hA ⟨W.heap.size,z,A,a,s,l2,c,y,t,d.size,JP.new W _ _ _ _ _,Jg.below he hA,rfl⟩);clear p d he hA;gi_wp2;exact HK.o
 case body=>
  rintro l1 a' x H W r ⟨b,z,A,a,s,l2,c,y,t,bn,bf,hx,rfl⟩ aj bu;have hW:=Qf.o _ _ r.1;obtain⟨Qr,Qv,Qp,Qq,Qs,HN,Qt⟩:=IV (λ(V:F) (d:Bl W V)=>(boxed_below r.2 d).cell) (λ(V:F) (d:Bl W V)=>(boxed_below (boxed_below Qg.o hW) d).cell) (λ(V:F) (d:Bl W V)=>bf.below d) (λ(V:F) (d:Bl W V)=>HP.o V _ x (Bt hW d) (hx.below d) (aj.subset DL)) (λ(n9:Nat) (V:F) (d:Bl W V)=>Qi.o n9 (H.map f) (f x) (Q R (f x)) V (Qn.o _ _ _ r.1 d) rfl (by have:=aj.map f;rwa[List.map_append]at this) (Ad (by have:=B.o;omega) d.size)) (λ(V V':F) (d:Bl W V) (h:G (H.map f++[f x]) V'/\V.heap.size<=V'.heap.size/\∀(k:Nat) (o:Obj),W0.heap.size<=k->V.heap[k]?=some o->V'.heap[k]?=some o)=>show Kl W0 W l f G 255 (H++[x]) V' from⟨⟨by rw[List.map_append];exact h.1,h.2.2 _ _ (Aa _) (boxed_below r.2 d)⟩,Ad d.size h.2.1,λk o hk ho=>h.2.2 k o hk ((d.block k (Ab.1 ho).1).trans ho)⟩) (show W0.heap.size<=M.heap.size by have:=B.o;omega);clear r bn bf hx aj bu hW Qo HP Qc Qf Qi Qm Qk B Qg;dsimp only;gi_wp2_with fail
  refine XD Dj [[],[],[],[1,2],[0,3,3],[4]] (by kernel_rfl) DN
   (λD T V=>∃(td te tg ta tb tc:S),T={ tmps:=#[.func (.yield l) #[] #[],I (some ⟨X,0,none⟩),I (some ⟨U,0,none⟩),I (some ⟨W0.heap.size,0,none⟩),I (some ⟨b,0,none⟩),.func (.func gf) #[] lb,.agg #[N z,E a l2 c,N A,E s y t],td,te,tg,ta,tb,tc],defers:=[] }/\Hid ((D 0=true->td=.func (.yield l) #[] #[])/\(D 1=true->te=.func (.func pf) #[] pb)/\(D 2=true->tg=.agg #[N z,E a l2 c,N A,E s y t])/\(D 3=true->ta=Q R (f x))/\(D 4=true->tb=N true)/\(D 5=true->tc=N false))/\Hid ((D 4=false->Bl W V)/\(D 4=true->Kl W0 W l f G 255 (H++[x]) V)))
   ⟨_,_,_,_,_,_,rfl,Z DL,Z ⟨λ_=>(BB _ W).drew,DL⟩⟩ ?step ?fin
  case step=>
   rintro D T V i ds ae hi m bi ⟨td,te,tg,ta,tb,tc,rfl,g,j⟩;have ce:i<6:=(Aq.1 hi).1;have q:i<5->D 4=false:=λcj=>by
    cases h:D 4 with
    |false=>rfl
    |true=>
     exfalso
     have h3:=ae 4 _ rfl h 3 DL;have h0:=ae 4 _ rfl h 0 DL;have h1:=ae 3 _ rfl h3 1 DL;have h2:=ae 3 _ rfl h3 2 DL;obtain rfl|rfl|rfl|rfl|rfl:=Oq i O
     all_goals simp_all
   obtain rfl|rfl|rfl|rfl|rfl|rfl:=Ot i O
   all_goals
    simp only[Cn,Ce,AU]at hi;subst hi
   . have d:=j.o.1 (q O);have e0:=Qr.o V d;clear m;refine Ep ?_;exact⟨(Pb g),Z ⟨λh=>j.o.1 (by simpa using h),λh=>j.o.2 (by simpa using h)⟩⟩
   . have d:=j.o.1 (q O);have e0:=Qv.o V d;clear m;refine Ep ?_;exact⟨(Pc g),Z ⟨λh=>j.o.1 (by simpa using h),λh=>j.o.2 (by simpa using h)⟩⟩
   . have d:=j.o.1 (q O);have n0:=Qp.o V d;obtain⟨e0,e1,e2,e3⟩:=n0.cq;clear n0;clear m;refine Ep ?_;exact⟨(TR g),Z ⟨λh=>j.o.1 (by simpa using h),λh=>j.o.2 (by simpa using h)⟩⟩
   . have d:=j.o.1 (q O);have Qu:=q O;obtain rfl:=g.o.2.1 (m 1 DL);obtain rfl:=g.o.2.2.1 (m 2 DL);clear m q;refine Bb rfl λK p=>?_;go_simp;refine⟨trivial,λh=>by simp[Fence.wide]at h,(Bh l1 ((BI (n:=_)).2 (Qq.o V d))).mono ?_⟩;rintro e w5 ⟨rfl,bm⟩;exact p _ _ ⟨_,_,_,_,_,_,rfl,Z ⟨g.o.1,λ_=>rfl,λ_=>rfl,λ_=>rfl,g.o.2.2.2.2.1,g.o.2.2.2.2.2⟩,Z ⟨λ_=>Bt d bm,λh=>by simp[Qu]at h⟩⟩
   . have d:=j.o.1 bi;obtain rfl:=g.o.1 (m 0 DL);obtain rfl:=g.o.2.2.2.1 (m 3 DL);clear m q;obtain⟨fn,tm,bz,bd,hy,bj⟩:=Qs.o (n-1-1-1) V d;refine Bb rfl λK p=>?_;go_simp;refine⟨λh=>by simp[Fence.wide]at h,RoundIn.mono bj ?_⟩;rintro e w5 ⟨rfl,h5⟩;exact p _ _ ⟨_,_,_,_,_,_,rfl,Z ⟨λ_=>rfl,g.o.2.1,g.o.2.2.1,λ_=>rfl,λ_=>rfl,g.o.2.2.2.2.2⟩,Z ⟨λh=>by simp at h,λ_=>HN.o V w5 d h5⟩⟩
   . obtain rfl:=g.o.2.2.2.2.1 (m 4 DL);clear m q;refine Ep ?_;exact⟨Z ⟨g.o.1,g.o.2.1,g.o.2.2.1,g.o.2.2.2.1,λ_=>rfl,λ_=>rfl⟩,Z ⟨λh=>j.o.1 (by simpa using h),λh=>j.o.2 (by simpa using h)⟩⟩
  case fin=>
   rintro D T V ah ⟨td,te,tg,ta,tb,tc,rfl,g,j⟩;obtain rfl:=g.o.2.2.2.2.2 (ah 5 DN);have HE:=Z (show ∀T,LM M.heap.size (FX W0 l f G 255) (H++[x]) W .normal T V from λ_=>by
    have h:=j.o.2 (ah 4 DN);exact⟨h.1,h.2.1,λk o hk ho=>h.2.2 k o (Ad Qt.o hk) ho⟩)
   clear g j ah;gi_wp2;exact HE.o _
 case done=>
  intro D W hD r p;obtain⟨HK,HI,HD⟩:=Db p r (show W0.heap.size<=D by have:=B.o;omega);clear r hD p;gi_wp2_with fail
  refine⟨DL,.inl ⟨_,_,rfl,BU HK.o,?_⟩⟩;refine⟨_,results_none rfl _ _ _,⟨_,rfl⟩,?_⟩;exact Qc.o.putObj _ HI.o.1 HD.o HK.o rfl
