import Derived.Test.YthnpdhlepglmlaaGreatDoorV26
set_option linter.all false
open Go.Value renaming slice->E,bool->L,pointer->I,int->Q
open Go renaming World->F,Value->S,undef->P
open Go.Proofs.Tryz renaming prog->N
open Go.Obj renaming cells->C
set_option maxRecDepth 99999
set_option maxHeartbeats 0
namespace Go.Proofs.YthnpdhlepglmlaaGreatDoor
open Proofs.Tryz
open Go.RowKit Go.Shelf
attribute [local go_sem] Oper.semAt_some
def mV(n c:Nat)(w:F):Calls N 233 #[E none n c] w λe w'=>e=.returned (E none 0 0)/\w'=w:=by
 have b:∀(w:F) (a:om) (n c n' c':Nat),(binOp .eql 22 (E a n c) (E none n' c')).run N w=.ok (L a.isNone) w:=λw a n c n' c'=>Bi w _ _ a n c n' c' underlying22;go_enter func233,ntmps233
 go_wp2;go_ret;exact⟨J,J⟩
def mW(p:Addr)(n c:Nat)(xs:List S)(w:F)(hn:n<=1099511627776)(hl:xs.length=n*4)(f:∀j u,xs[j]?=some u->w.cell? (p.add j)=some u)(d:∀u∈xs,u.oneCell'=true):
 Calls N 233 #[E (some p) n c] w λe w'=>∃b,e=.returned b/\w'.ownsRow w.heap.size 50 4 b n xs/\Bl w w':=by
 obtain⟨r,hi,m,o,q⟩:=Bo Tryz.infoRat;have t:∀(w:F) (a:om) (n c n' c':Nat),(binOp .eql 22 (E a n c) (E none n' c')).run N w=.ok (L a.isNone) w:=λw a n c n' c'=>Bi w _ _ a n c n' c' underlying22;obtain⟨A,B,C⟩:=DZ f d hl;clear f d hl;go_enter func233,ntmps233
 go_wp2_with(at_builtin;refine wpList_append_own _ J _ _ 22 J w.heap.size 50 r (.agg #[L false,E none 0 0,L false,E none 0 0]) 4 64 underlying22 hi m o q J DK _ _ _ J (World.ownsRow_made w #[] 0 (Aa _) (Ay _) J) p n c xs J ?qc1 ?qc2 ?qc3 ?qc4 ?qc5 ?qc6 ?_)
 case qc1=>exact C.o
 case qc2=>intro j u i;exact Lib.cell?_alloc_some _ (A.o j u i)
 case qc3=>exact B.o
 case qc4=>unfold maxLen;omega
 case qc5=>omega
 case qc6=>simp
 intro b w1 l g s;go_wp2;go_ret;refine⟨b,J,by simpa using l,?_⟩;exact(Ba w _).grown g DI (by intro k hk;simp[Value.ownBlock]at hk;omega)
theorem mX(v:S)(qs:Ja)(w:F)(h:RowK true w v qs):Calls N 233 #[v] w λe w'=>∃u,e=.returned u/\RowK true w' u qs/\Mu w.heap.size u/\Bl w w'/\(u=E none 0 0\/∃g cap,u=E (some ⟨g,0,none⟩) qs.length cap/\w.heap.size<=g/\Dp true w' g qs):=by
 obtain⟨a,cap,rfl,x,y,k,f⟩:=h;rcases a with _|p
 . refine(mV _ _ w).mono ?_;rintro e w' ⟨rfl,rfl⟩;have hq:qs=[]:=by
    grind
   subst hq;exact⟨_,J,RowK.nil _ _,λa l c e=>(by cases e),BB _ _,An J⟩
 . have m:∃cs,Gr true w cs qs/\∀j u,cs[j]?=some u->w.cell? (p.add j)=some u:=by
    rcases f with f|⟨b,n,hE⟩
    . rw[f];exact⟨[],Gr.nil _ _,λj u e=>by simp at e⟩
    . cases n;obtain⟨cs,d,i⟩:=hE.cells;refine⟨cs,d,λj u e=>?_⟩;rw[YG,A7];exact i j u e
   obtain⟨cs,d,i⟩:=m;refine(mW p qs.length cap cs w k d.1 i d.one).mono ?_;rintro e w' ⟨t,rfl,s,hb⟩;obtain⟨o,_,q⟩:=RowK.owns (r:=true) s (d.below hb) k;refine⟨t,J,o,λa l c e=>?_,hb,q⟩;grind
def mY(n c:Nat)(w:F):Calls N 234 #[E none n c] w λe w'=>e=.returned (E none 0 0)/\w'=w:=by
 have b:∀(w:F) (a:om) (n c n' c':Nat),(binOp .eql 23 (E a n c) (E none n' c')).run N w=.ok (L a.isNone) w:=λw a n c n' c'=>Bi w _ _ a n c n' c' underlying23;go_enter func234,ntmps234
 go_wp2;go_ret;exact⟨J,J⟩
def mZ(p:Addr)(n c:Nat)(xs:List S)(w:F)(hn:n<=1099511627776)(hl:xs.length=n*4)(f:∀j u,xs[j]?=some u->w.cell? (p.add j)=some u)(d:∀u∈xs,u.oneCell'=true):
 Calls N 234 #[E (some p) n c] w λe w'=>∃b,e=.returned b/\w'.ownsRow w.heap.size 50 4 b n xs/\Bl w w':=by
 obtain⟨r,hi,m,o,q⟩:=Bo Tryz.infoRat;have t:∀(w:F) (a:om) (n c n' c':Nat),(binOp .eql 23 (E a n c) (E none n' c')).run N w=.ok (L a.isNone) w:=λw a n c n' c'=>Bi w _ _ a n c n' c' underlying23;obtain⟨A,B,C⟩:=DZ f d hl;clear f d hl;go_enter func234,ntmps234
 go_wp2_with(at_builtin;refine wpList_append_own _ J _ _ 23 J w.heap.size 50 r (.agg #[L false,E none 0 0,L false,E none 0 0]) 4 64 underlying23 hi m o q J DK _ _ _ J (World.ownsRow_made w #[] 0 (Aa _) (Ay _) J) p n c xs J ?qc1 ?qc2 ?qc3 ?qc4 ?qc5 ?qc6 ?_)
 case qc1=>exact C.o
 case qc2=>intro j u i;exact Lib.cell?_alloc_some _ (A.o j u i)
 case qc3=>exact B.o
 case qc4=>unfold maxLen;omega
 case qc5=>omega
 case qc6=>simp
 intro b w1 l g s;go_wp2;go_ret;refine⟨b,J,by simpa using l,?_⟩;exact(Ba w _).grown g DI (by intro k hk;simp[Value.ownBlock]at hk;omega)
theorem md(v:S)(qs:Ja)(w:F)(h:RowK true w v qs):Calls N 234 #[v] w λe w'=>∃u,e=.returned u/\RowK true w' u qs/\Mu w.heap.size u/\Bl w w'/\(u=E none 0 0\/∃g cap,u=E (some ⟨g,0,none⟩) qs.length cap/\w.heap.size<=g/\Dp true w' g qs):=by
 obtain⟨a,cap,rfl,x,y,k,f⟩:=h;rcases a with _|p
 . refine(mY _ _ w).mono ?_;rintro e w' ⟨rfl,rfl⟩;have hq:qs=[]:=by
    grind
   subst hq;exact⟨_,J,RowK.nil _ _,λa l c e=>(by cases e),BB _ _,An J⟩
 . have m:∃cs,Gr true w cs qs/\∀j u,cs[j]?=some u->w.cell? (p.add j)=some u:=by
    rcases f with f|⟨b,n,hE⟩
    . rw[f];exact⟨[],Gr.nil _ _,λj u e=>by simp at e⟩
    . cases n;obtain⟨cs,d,i⟩:=hE.cells;refine⟨cs,d,λj u e=>?_⟩;rw[YG,A7];exact i j u e
   obtain⟨cs,d,i⟩:=m;refine(mZ p qs.length cap cs w k d.1 i d.one).mono ?_;rintro e w' ⟨t,rfl,s,hb⟩;obtain⟨o,_,q⟩:=RowK.owns (r:=true) s (d.below hb) k;refine⟨t,J,o,λa l c e=>?_,hb,q⟩;grind
def Rn(v:S)(qs:Ja)(w:F)(h:RowK true w v qs)(hs:Sqs qs):
 Calls N 178 #[v] w λe w'=>∃u,e=.returned u/\Je w' u (Jc qs)/\Ou w.heap.size u/\Bl w w':=by
 obtain⟨a,l,c,rfl⟩:=h.form;have b0:=BH w 25 (E none 0 0);have b:Bl w (w.alloc (C #[E none 0 0] 25)):=Ba w _;obtain⟨W0,f⟩:=ex (w.alloc (C #[E none 0 0] 25));rw[f]at b0 b;obtain⟨m,i,g⟩:=DZ f (mX _ qs W0 (h.below b)) λ(V:F) (v:S) (h:RowK true V v qs)=>LM v qs V h hs;have k:=b0.cell;have f0:=b0.frozen;clear f h hs;go_enter func178,ntmps178
 go_upto_region 1 with fail
 rw[m.o];go_wp2_with(first
  |(go_at_call 233;refine i.o.mono ?_;clear i;rintro e w1 ⟨u,rfl,s,q,n,_⟩)
  |(go_at_call 25;refine(g.o _ _ s).mono ?_;clear g;rintro e w2 ⟨u2,rfl,j,r,o⟩;obtain⟨t,y,x,rfl⟩:=j.form;have hq:=Bt n o;have d:=boxed_below b0 hq;have k:=d.cell;have f0:=d.frozen))
 refine BA (v:=.agg #[E t y x]) (by simp[results,results178,go_sem,k]) J ⟨_,J,⟨_,J,GM d _ j.row⟩,?_,(Bt b hq).setCell (p:=⟨w.heap.size,0,none⟩) (Aa _) _⟩;intro a' l' c' e;have:=r W0.heap.size q a' l' c' e;have z:=b.size;omega
def me{W:F}{B:Nat}(q:JQ W B 50 (L false) (E none 0 0) (L false) (E none 0 0)){v:S}{p:Rat}(h:Jf W v p)(x y z u:S):Jf (put4 W B x y z u) v p:=h.put4 q J J J J _ _ _ _
def IA(v:S)(ps:Ja)(i:Int)(w:F)(h:Je w v ps):
 Calls N 74 #[v,Q .i64 i] w λe w'=>∃u,e=.returned u/\Jf w' u (if i<0 then 0 else cf ps i.toNat)/\Bl w w':=by
 obtain⟨u,rfl,g⟩:=h;obtain⟨a,l,c,rfl⟩:=g.form;obtain⟨W0,b⟩:=ex ((w.alloc (C #[E a l c] 25)).alloc (C #[L false,E none 0 0,L false,E none 0 0] 50));have b0:Boxed W0 w.heap.size 25 (E a l c):=by rw[<-b];exact(BH w _ _).alloc _
 have p:JQ W0 (w.heap.size+1) 50 (L false) (E none 0 0) (L false) (E none 0 0):=by rw[<-b];have:=JQ.new (w.alloc (C #[E a l c] 25)) 50 (L false) (E none 0 0) (L false) (E none 0 0);simpa using this
 have j:Bl w W0:=by rw[<-b];exact(Ba w _).alloc DI _
 have d:=Z (Rh _ ps i W0 (g.below j));obtain⟨q,hq⟩:=ex ((if i<0 then 0 else cf ps i.toNat));rw[hq]at d ⊢;have n:=Z b;have K:=b0.cell;clear b hq g;go_enter func74,ntmps74
 go_upto_region 1 with fail
 rw[n.o];go_wp2_with(go_at_call 92;refine d.o.mono ?_;clear d;rintro e w1 ⟨u,rfl,m,k⟩;have f:=p.below k;obtain⟨x,y,z,A⟩:=f.cq;obtain⟨f0,f1,f2,f3⟩:=f.fq;obtain⟨G,o,D,s,H,r,B,t,rfl⟩:=Jf.form m)
 exact BA (v:=.agg #[L G,E o D s,L H,E r B t]) (by simp[results,results74,go_sem,x,y,z,A]) J ⟨_,J,me f m _ _ _ _,Jw (Bt j k) O _ _ _ _⟩
namespace M3
def WS(v:S)(V:F):(method 458 50 v "Times").run N V=.ok (179,v) V:=by kernel_rfl
def WT(v:S)(V:F):(method 458 50 v "Plus").run N V=.ok (43,v) V:=by kernel_rfl
def LP(ps qs:Ja):Prop:=(∀i a,Sq (cf ps i*cf qs a))/\∀n i a k,Sq (cf (Xp (Ez ps qs n i) i (cf ps i) qs a) k)
def mg(a b:om)(la ca lb cb:Nat)(ps qs:Ja)(w:F)(ha:RowK true w (E a la ca) ps)(hb:RowK true w (E b lb cb) qs)(ap:Sqs ps)(aq:Sqs qs)(an:LP ps qs)(cn:ps.length+qs.length<=1099511627776):
 Calls N 26 #[E a la ca,E b lb cb] w λe w'=>∃v zs,e=.returned v/\RowK true w' v zs/\(∀c,cf zs c=cf (Es ps qs) c)/\Sqs zs/\Mu w.heap.size v/\Bl w w':=by
 obtain⟨aj,bm,bu,dj,s,t,aa,bb,ll,cc,kk,dd,hc⟩:=ha.forms;obtain⟨am,bn,bz,dt,s',t',az,bg,df,bi,de,bj,ai⟩:=hb.forms;obtain⟨n,hn⟩:∃n:Nat,max (0:Int) ((la:Int)+(lb:Int)-1)=(n:Int):=⟨(max (0:Int) ((la:Int)+(lb:Int)-1)).toNat,O⟩;have ei:n<=1099511627776:=O
 obtain⟨HN,dh,HC,ay,HP,HQ,HK,Qg⟩:=Iv (show la+lb<=n+1 from by omega) (show la+lb=0\/n+1=la+lb from by omega) hc ai ap aq an aj;have Qh:=Z am;have Qs:=Mw n O w;have M0:DJ w (w.alloc (C (YH n) 50)) [some (w.heap.size,.rats (List.replicate n 0))]:=M3.DJ.push (M3.DJ.nil w) (.rats (List.replicate n 0)) (by
  obtain⟨cs,o,h2⟩:=Rj n w;refine⟨YH n,J,λc hj=>?_⟩;rw[A2]at hj;obtain⟨h0,o,h2,h3⟩:=Ov hj;exact⟨_,_,_,_,h0,o,h2,h3,by rw[Ya];exact XF _⟩)
 obtain⟨W0,ah⟩:=ex (w.alloc (C (YH n) 50));rw[ah]at M0 Qs;have Qq:=Z M0;clear M0 ah ha hb ap aq aj am bm bu bn bz an hc ai cn;go_enter func26,ntmps26
 go_wp2;go_loopw [20] (λi wr=>∃(k:Nat),k<=la/\i=Q .i64 (k:Int)/\Hid (DJ w wr [some (w.heap.size,.rats (Ez ps qs n k))])) λi _=>la-(intOf i).toNat
 case atStart=>exact⟨0,Ay _,J,Qq⟩
 case round=>
  obtain⟨k,hk,rfl,l⟩:=hrel;by_cases co:k<la
  . have dx:(k:Int)<(la:Int):=O
    obtain⟨hi,bx,rfl,X,q,r,u,x⟩:=HC.o k co;have d:=l.o.2.2;have y:=Z (hi.below d);replace q:=(d.cell (p:=⟨bx,_,none⟩) X).trans q;replace r:=(d.cell (p:=⟨bx,_,none⟩) X).trans r;replace u:=(d.cell (p:=⟨bx,_,none⟩) X).trans u;replace x:=(d.cell (p:=⟨bx,_,none⟩) X).trans x;clear hi d;obtain⟨s1,R⟩:=ex (s k);obtain⟨t1,T⟩:=ex (t k);obtain⟨a1,B⟩:=ex (aa k);obtain⟨b1,D⟩:=ex (bb k);obtain⟨l1,K⟩:=ex (ll k);obtain⟨c1,G⟩:=ex (cc k);obtain⟨m1,M⟩:=ex (kk k);obtain⟨d1,H⟩:=ex (dd k);rw[R,T,B,D,K,G,M,H]at y;rw[R]at q;rw[B,K,G]at r;rw[T]at u;rw[D,M,H]at x;clear R T B D K G M H;go_upto_region 5 with fail
    have g:DJ w (wr.alloc (C #[L s1,E a1 l1 c1,L t1,E b1 m1 d1] 50)) [some (w.heap.size,.rats (Ez ps qs n k)),some (wr.heap.size,.rat (cf ps k))]:=M3.DJ.push l.o (.rat (cf ps k)) y.o;obtain⟨V1,A⟩:=ex (wr.alloc (C #[L s1,E a1 l1 c1,L t1,E b1 m1 d1] 50));obtain⟨B1,z⟩:=ex (wr.heap.size);rw[A,z]at g;rw[A];rw[z];have Qt:=Z g;clear g A z l y q r u x;go_wp2_with fail
    go_loopw [27] (λi wr=>∃(c:Nat),c<=lb/\i=Q .i64 (c:Int)/\Hid (DJ w wr [some (w.heap.size,.rats (Xp (Ez ps qs n k) k (cf ps k) qs c)),some (B1,.rat (cf ps k))])) λi _=>lb-(intOf i).toNat
    case atStart=>exact⟨0,Ay _,J,Qt⟩
    case round=>
     obtain⟨c,hj,rfl,l⟩:=hrel;by_cases cj:c<lb
     . have di:(c:Int)<(lb:Int):=O
       obtain⟨hi,W,rfl,ae,q,r,u,x⟩:=ay.o c cj;have d:=l.o.2.2;have y:=Z (hi.below d);replace q:=(d.cell (p:=⟨W,_,none⟩) ae).trans q;replace r:=(d.cell (p:=⟨W,_,none⟩) ae).trans r;replace u:=(d.cell (p:=⟨W,_,none⟩) ae).trans u;replace x:=(d.cell (p:=⟨W,_,none⟩) ae).trans x;clear hi d;obtain⟨s2,R⟩:=ex (s' c);obtain⟨t2,T⟩:=ex (t' c);obtain⟨a2,B⟩:=ex (az c);obtain⟨b2,D⟩:=ex (bg c);obtain⟨l2,K⟩:=ex (df c);obtain⟨c2,G⟩:=ex (bi c);obtain⟨m2,M⟩:=ex (de c);obtain⟨d2,H⟩:=ex (bj c);rw[R,T,B,D,K,G,M,H]at y;rw[R]at q;rw[B,K,G]at r;rw[T]at u;rw[D,M,H]at x;clear R T B D K G M H;go_upto_region 8 with fail
       have g:DJ w (wr.alloc (C #[L s2,E a2 l2 c2,L t2,E b2 m2 d2] 50)) [some (w.heap.size,.rats (Xp (Ez ps qs n k) k (cf ps k) qs c)),some (B1,.rat (cf ps k)),some (wr.heap.size,.rat (cf qs c))]:=M3.DJ.push l.o (.rat (cf qs c)) y.o;obtain⟨V2,A⟩:=ex (wr.alloc (C #[L s2,E a2 l2 c2,L t2,E b2 m2 d2] 50));obtain⟨B2,z⟩:=ex (wr.heap.size);rw[A,z]at g;rw[A];rw[z];have Qc:=Z g;clear g A z l y q r u x;have Qk:(k:Int)+(c:Int)<(n:Int):=by have:=HN.o;omega
       have Qe:(0:Int)<=(k:Int)+(c:Int):=O
       have Qd:=Z (show k+c<n by omega);have Qa:(k:Int)+(c:Int)=((k+c:Nat):Int):=O
       obtain⟨m,hm⟩:=ex (k+c);rw[hm]at Qd Qa;have HM:=Z hm;have ed:(m:Int)<(n:Int):=by have:=Qd.o;omega
       have f9:IntKind.i64.wrap (m:Int)=(m:Int):=by rw[BG];omega
       obtain⟨zs,U⟩:=ex (Xp (Ez ps qs n k) k (cf ps k) qs c);rw[U]at Qc;obtain⟨Qf,Qm,Qr,Qp⟩:=Dx (show m<zs.length by rw[<-U,MW,P7];exact Qd.o) U (show Sq (cf zs m)by rw[<-U];exact HK.o.2 n k c m) (HK.o.1 k c);have Qj:=Qc.o.drew;clear hm U Qc Qk Qe;refine YD Di [[],[],[],[1,2],[],[],[],[5,6],[4,7],[8],[9],[],[11],[],[12,13],[10,14,14],[0,3,0,1,2,3,4,5,6,7,8,9,10,11,12,13,14,15],[16,15,15,0,1,2,3,4,5,6,7,8,9,10,11,12,13,14,15]] [.eq (E (some ⟨w.heap.size,0,none⟩) n n),.eq (Q .i64 (k:Int)),.eq (Q .i64 (c:Int)),.eq (Q .i64 (m:Int)),.eq (E (some ⟨w.heap.size,0,none⟩) n n),.eq (Q .i64 (k:Int)),.eq (Q .i64 (c:Int)),.eq (Q .i64 (m:Int)),.eq (I (some ⟨w.heap.size,m*4,none⟩)),.rat (cf zs m),.ifq (cf zs m),.rat (cf ps k),.ifq (cf ps k),.rat (cf qs c),.rat (cf ps k*cf qs c),.rat (cf zs m+cf ps k*cf qs c),.eq (I (some ⟨w.heap.size,m*4,none⟩)),.eq P] [17] (λb _ V=>DJ w V [some (w.heap.size,if b.getD 0 false then .rats (zs.set m (cf zs m+cf ps k*cf qs c))else .rats zs),some (B1,.rat (cf ps k)),some (B2,.rat (cf qs c))]) Qj (SR (.vl J λ_ _=>mv)<|SR (.vl J λ_ _=>mv)<|SR (.vl J λ_ _=>mv)<|SR (.vl J λh _=>⟨_,by refine DP ?_;rw[h.e 1,h.e 2];go_simp,J⟩)<|SR (.vl J λ_ _=>mv)<|SR (.vl J λ_ _=>mv)<|SR (.vl J λ_ _=>mv)<|SR (.vl J λh _=>⟨_,by refine DP ?_;rw[h.e 5,h.e 6];go_simp,J⟩)<|SR (.vl J λh _=>⟨_,by refine DP ?_;rw[h.e 4,h.e 7];go_simp,J⟩)<|SR (.vl J λh j=>RY 0 j Qf.o (h.e 8))<|SR (.vl J λh _=>mi (h.g 9))<|SR (.vl J λ_ j=>Ej 1 j)<|SR (.vl J λh _=>mi (h.g 11))<|SR (.vl J λ_ j=>Ej 2 j)<|SR (.ci J fun {_ V _} h j=>by obtain⟨y0,e,g0⟩:=h.g 12;have Qo:=WS y0 V;exact⟨_,by refine DP ?_;rw[e];go_simp,LL _ _ (cf ps k) (cf qs c) V g0 (h.g 13) (HP.o.at k) (HQ.o.at c)⟩)<|SR (.ci J fun {_ V _} h j=>by obtain⟨y0,e,g0⟩:=h.g 10;have Qo:=WT y0 V;exact⟨_,by refine DP ?_;rw[e];go_simp,LK _ _ (cf zs m) (cf ps k*cf qs c) V g0 (h.g 14) Qr.o Qp.o⟩)<|SR (.vl J λh _=>⟨_,by refine DP ?_;rw[h.e 0,h.e 3];go_simp,J⟩)<|SR (.wr J λh j=>Ms 0 j Qf.o (h.g 15) (h.e 16)) Stp.end_)
        λf V hF g=>?_
       refine DP ?_;rw[hF.e 0,hF.e 1,hF.e 2,hF.e 3,hF.e 4,hF.e 5,hF.e 6,hF.e 7,hF.e 8,hF.e 16];have g:=Dw g;have Qn:=Z g;clear g hF;go_wp2_with fail
       go_roundw
       case rel=>
        refine⟨c+1,O,by go_num,Z ?_⟩;have o:=Qn.o.take 2;rw[<-HM.o,<-Qm.o]at o;exact o
       case measure=>simp[intOf];omega
     . have Ql:c=lb:=O
       subst Ql;go_wp2_with fail
       go_roundw
       case rel=>
        refine⟨k+1,O,by go_num,Z ?_⟩;have o:=l.o.take 1;rw[Qh.o]at o;exact o
       case measure=>simp[intOf];omega
  . have Qi:k=la:=O
    subst Qi;go_wp2;go_ret;have hE:=l.o.rats (i:=0) J;have dz:=P7 ps qs n k;have Qb:=hE.row (n:=n) (cap:=n) O (Aa _) O O;rw[Ai O]at Qb;refine⟨_,_,J,Qb,λc=>?_,Sqs.of λi=>?_,λa' l' c' e=>(by cases e;exact Aa _),l.o.2.2⟩
    . rw[Qg.o,Tn _ _ _ _ _ (Ap (by have:=HN.o;have h2:=Qh.o;have o:=Qg.o;omega)),Lp]
    . exact HK.o.2 n k 0 i
def LQ(qs:Ja)(x:Rat):Prop:=∀n,Sq (ev (qs.drop n) x)/\Sq (ev (qs.drop n) x*x)
theorem mh(qs:Ja)(x:Rat){m:Nat}(h:m<qs.length):ev (qs.drop (m+1)) x*x+cf qs m=ev (qs.drop m) x:=by
 rw[A9 h,ev,eH h];grind
def Mx(w:F)(a:om)(len cap:Nat)(qs:Ja)(x:Rat)(k:Nat):List (Option (Nat × Dat)):=
 [some (w.heap.size,.rat x),some (w.heap.size+1,.rat 0),some (w.heap.size+1+1,.rat (ev (qs.drop (len-k)) x)),some (w.heap.size+1+1+1,.cell 23 (E a len cap))]
def mj(w:F)(a:om)(len cap:Nat)(qs:Ja)(x:Rat)(k:Nat)(W:F):Prop:=DJ w W (Mx w a len cap qs x k)
theorem ml(a:om)(len cap:Nat)(qs:Ja)(vx:S)(x:Rat)(w:F)(h:RowK true w (E a len cap) qs)(hx:Jf w vx x)(hs:Sqs qs)(an:Sq x)(aj:LQ qs x):
 Calls N 45 #[E a len cap,vx] w λe w'=>∃u,e=.returned u/\Jf w' u (ev qs x)/\Bl w w':=by
 obtain⟨xs,xa,xl,xc,xt,xb,xk,xd,rfl⟩:=hx.form;obtain⟨hl,df,dh,aq,s,t,aa,bb,ll,cc,kk,dd,hc⟩:=h.forms;obtain⟨HL,HC,HS,Qi,HK,HX⟩:=KA hl hc hs an aj hx;clear hc hl hs an aj hx h;refine(BJ (n:=3)).1 ?_;refine BO func45 J trivial ?_ J;simp only[ntmps45,Aw,Al,AX,Nat.reduceAdd,Nat.reduceSub,Az,AA,AU,AJ,As,AK];gi_wp2_with(refine⟨trivial,?_⟩;gi_at_call 101;refine(Rg Fence.wide _ trivial J _ _ _ _).mono ?_;rintro e w' ⟨rfl,rfl⟩)
 have M0:DJ w _ _:=((((DJ.nil w).push (.rat x) HX.o).push (.rat 0) (XF _)).push (.rat 0) (XF _)).push (.cell 23 (E a len cap)) (cs:=#[E a len cap]) ⟨J,J⟩;simp only[Ax]at M0;obtain⟨W0,X⟩:=ex ((((w.alloc (C #[L xs,E xa xl xc,L xt,E xb xk xd] 50)).alloc (C #[L false,E none 0 0,L false,E none 0 0] 50)).alloc (C #[L false,E none 0 0,L false,E none 0 0] 50)).alloc (C #[E a len cap] 23));have hN:W0.heap.size=w.heap.size+1+1+1+1:=by rw[<-X];simp
 have M1:DJ w W0 (Mx w a len cap qs x 0):=by
  rw[<-X];unfold Mx;rw[show ev (qs.drop (len-0)) x=0 from by rw[Cc (by have:=HL.o;omega)];rfl];exact M0
 rw[X];clear M0 X;refine UO J O (gf:=173) (lb:=#[I (some ⟨w.heap.size+1+1+1,0,none⟩)]) J trivial (Be func173 v0 J)
  (Rf Fence.wide _ trivial J O (w.heap.size+1+1+1) a len cap (λj=>L (s j)) (λj=>E (aa j) (ll j) (cc j)) (λj=>L (t j)) (λj=>E (bb j) (kk j) (dd j)) aq) (λ_=>rfl)
  (mj w a len cap qs x) (λ_ _ _=>False) (mU O _) (λc s W W' row h=>h.elim) M1 ?rd
  (λk b=>{ tmps:=#[E a len cap,.agg #[L xs,E xa xl xc,L xt,E xb xk xd],P,I (some ⟨w.heap.size,0,none⟩),I (some ⟨w.heap.size+1,0,none⟩),I (some ⟨w.heap.size+1+1,0,none⟩),P,I (some ⟨b,0,none⟩),E a len cap,.func (.func 173) #[] #[I (some ⟨w.heap.size+1+1+1,0,none⟩)],Q .i64 ((len:Int)-1-k),.agg #[L (s (len-1-k)),E (aa (len-1-k)) (ll (len-1-k)) (cc (len-1-k)),L (t (len-1-k)),E (bb (len-1-k)) (kk (len-1-k)) (dd (len-1-k))],P,P,P,P,P,P,P,P],defers:=[] })
  (λk=>C #[L (s (len-1-k)),E (aa (len-1-k)) (ll (len-1-k)) (cc (len-1-k)),L (t (len-1-k)),E (bb (len-1-k)) (kk (len-1-k)) (dd (len-1-k))] 50 (0,0)) ?assign ?body ?done ?stop
 case stop=>intro D c k W _ _ h;exact h.elim
 case rd=>
  intro k W M;have U:=M.2.2;refine⟨(DJ.cell M (i:=3) J).1.cell,λhk=>?_⟩;obtain⟨_,b,ea,hb,h1,R,T,h4⟩:=HC.o (len-1-k) O;exact⟨b,ea,(U.cell (p:=⟨b,_,none⟩) hb).trans h1,(U.cell (p:=⟨b,_,none⟩) hb).trans R,(U.cell (p:=⟨b,_,none⟩) hb).trans T,(U.cell (p:=⟨b,_,none⟩) hb).trans h4⟩
 case assign=>
  intro l k W K hK;unfold Mt;gi_wp2;exact hK
 case body=>
  intro l k b W M hk ay ap ae;have hm:len-1-k<len:=O
  obtain⟨hi,_⟩:=HC.o (len-1-k) hm;have d:=DJ.with M (.rat (cf qs (len-1-k))) ae (hi.below M.2.2) O (λi B d' e=>by
   grind[Mx])
  have ek:len-k=len-1-k+1:=O
  unfold Mx at d;rw[ek]at d;have Qe:=Z (show len-(k+1)=len-1-k by omega);clear hi ae M ay ap ek;obtain⟨m,ai⟩:=ex (len-1-k);rw[ai]at d hm Qe ⊢;have HM:=Z (show m<qs.length by have:=HL.o;omega);have d:DJ w W [some (w.heap.size,.rat x),some (w.heap.size+1,.rat 0),some (w.heap.size+1+1,.rat (ev (qs.drop (m+1)) x)),some (w.heap.size+1+1+1,.cell 23 (E a len cap)),some (b,.rat (cf qs m))]:=d;obtain⟨Qd,Qf,Qc⟩:=DZ (show Sq (ev (qs.drop (m+1)) x)/\Sq (ev (qs.drop (m+1)) x*x)from HK.o (m+1)) (HS.o.at m) (mh qs x HM.o);obtain⟨sm,am⟩:=ex (ev (qs.drop (m+1)) x);rw[am]at d Qd Qc;obtain⟨z,ah⟩:∃y,cf qs m=y:=⟨_,J⟩;rw[ah]at d Qf Qc;have Qh:KF w W W.drew [some (w.heap.size,.rat x),some (w.heap.size+1,.rat 0),some (w.heap.size+1+1,.rat sm),some (w.heap.size+1+1+1,.cell 23 (E a len cap)),some (b,.rat z)]:=KF.drew ⟨d,KeepsOthers.refl W⟩;clear d am ah ai;gi_wp2_with fail
  refine Lz (Ap ⟨l,J⟩) Di [[],[0],[],[1,2],[3],[],[4,5],List.range 7] [.rat sm,.ifq sm,.rat x,.rat (sm*x),.ifq (sm*x),.rat z,.rat (sm*x+z),.eq P] [7] (λo _ V=>KF w W V [some (w.heap.size,.rat x),some (w.heap.size+1,.rat 0),some (w.heap.size+1+1,.rat (if o.getD 0 false then sm*x+z else sm)),some (w.heap.size+1+1+1,.cell 23 (E a len cap)),some (b,.rat z)]) Qh (SR (.vl J λ_ j=>Ej 2 j.1)<|SR (.vl J λh _=>mi (h.g 0))<|SR (.vl J λ_ j=>Ej 0 j.1)<|SR (.ci J fun {_ V _} h _=>by obtain⟨y0,e,g0⟩:=h.g 1;have Qj:=WS y0 V;exact⟨_,by refine DP ?_;rw[e];go_simp,LL _ _ sm x _ g0 (h.g 2) Qd.o.1 Qi.o⟩)<|SR (.vl J λh _=>mi (h.g 3))<|SR (.vl J λ_ j=>Ej 4 j.1)<|SR (.ci J fun {_ V _} h _=>by obtain⟨y0,e,g0⟩:=h.g 4;have Qj:=WT y0 V;exact⟨_,by refine DP ?_;rw[e];go_simp,LK _ _ (sm*x) z _ g0 (h.g 5) Qd.o.2 Qf.o⟩)<|SR (.wr J λh j=>L1 2 j.1 (h.g 6) (hT:=λ_ m=>⟨m,j.2.trans (Rm _ _ _ _ _ _)⟩)) Stp.end_)
   λf V hF R=>?_
  refine⟨R.2.from _,?_⟩;have T:=R.1.take 4;rw[Qc.o,<-Qe.o]at T;exact T
 case done=>
  intro D W hD M hK;have M:DJ w W [some (w.heap.size,.rat x),some (w.heap.size+1,.rat 0),some (w.heap.size+1+1,.rat (ev (qs.drop (len-len)) x)),some (w.heap.size+1+1+1,.cell 23 (E a len cap))]:=M;rw[show qs.drop (len-len)=qs from by rw[Cz];rfl]at M;obtain⟨G,g,l1,c1,H,v,A,d1,n1,r1,i1,j1⟩:=M.rat (i:=2) J;obtain⟨s2,a2,l2,c2,t2,b2,k2,d2,n2,r2,i2,j2⟩:=M.rat (i:=1) J;obtain⟨az,bg,bi,bj⟩:=n1.cq;obtain⟨bm,bn,bu,bz⟩:=n2.cq;obtain⟨cj,cn,co,de⟩:=n2.fq;have HR:=Z r1;have HB:=Z M.2.2;clear r1 i1 j1 r2 i2 j2 M;gi_wp2;have Qb:(put4 W (w.heap.size+1) (L G) (E g l1 c1) (L H) (E v A d1)).heap[D]?=some (.deferred (some [])):=(Rm W (w.heap.size+1) _ _ _ _).same D _ hK J;refine⟨DI,.inl ⟨_,_,J,BQ Qb,?_⟩⟩;have q:=n2.put (L G) (E g l1 c1) (L H) (E v A d1);have hg:=BR (put4 W (w.heap.size+1) (L G) (E g l1 c1) (L H) (E v A d1)) D (.deferred none);have Qg:∀r,some D=some r->∃o:Obj,(put4 W (w.heap.size+1) (L G) (E g l1 c1) (L H) (E v A d1)).heap[r]?=some o/\o.isCells=false:=λr e=>by cases e;exact⟨_,Qb,J⟩
  have q2:JQ _ (w.heap.size+1) 50 (L G) (E g l1 c1) (L H) (E v A d1):=YP hg Qg q;obtain⟨g0,g1,g2,g3⟩:=q2.cq;unfold put4 at g0 g1 g2 g3;refine⟨.agg #[L G,E g l1 c1,L H,E v A d1],by simp[results,results45,go_sem,g0,g1,g2,g3],_,J,?_,?_⟩
  . exact EN.keep (r:=true) (Jf.put4 HR.o n2 J J J J _ _ _ _) λ_ _ _ h=>Oy hg Qg h
  . exact(Jw HB.o O _ _ _ _).trans (B0 (w:=w) (Aa _) _ D _ _ O Qb J J)
def mm(s t:S)(ps qs:Ja)(w:F)(d:Je w s ps)(hb:Je w t qs)(o:Sqs ps)(q:Sqs qs)(n:LP ps qs)(m:ps.length+qs.length<=1099511627776):
 Calls N 7 #[s,t] w λe w'=>∃u,e=.returned u/\Je w' u (Ji ps qs)/\Ou w.heap.size u/\Bl w w':=by
 obtain⟨u,rfl,d⟩:=d;obtain⟨v,rfl,hb⟩:=hb;obtain⟨a,la,ca,rfl⟩:=d.form;obtain⟨b,lb,cb,rfl⟩:=hb.form;obtain⟨W0,c⟩:=ex (((w.alloc (C #[E a la ca] 25)).alloc (C #[E b lb cb] 25)).alloc (C #[E none 0 0] 25));have b0:Boxed W0 w.heap.size 25 (E a la ca):=by rw[<-c];exact((BH w _ _).alloc _).alloc _
 have z:Boxed W0 (w.heap.size+1) 25 (E b lb cb):=by rw[<-c];have:=(BH (w.alloc (C #[E a la ca] 25)) 25 (E b lb cb)).alloc (C #[E none 0 0] 25);simpa using this
 have A:Boxed W0 (w.heap.size+1+1) 25 (E none 0 0):=by rw[<-c];have:=BH ((w.alloc (C #[E a la ca] 25)).alloc (C #[E b lb cb] 25)) 25 (E none 0 0);simpa using this
 have f:Bl w W0:=by rw[<-c];exact((Ba w _).alloc DI _).alloc si _
 obtain⟨k,l,y⟩:=DZ (mg a b la ca lb cb ps qs W0 (d.below f) (hb.below f) o q n m) (λ(V:F) (v:S) (zs:Ja) (h:RowK true V v zs) (hs:Sqs zs)=>LM v zs V h hs) c;have k0:=b0.cell;have k1:=z.cell;clear c d hb o q n m;go_enter func7,ntmps7
 go_upto_region 1 with fail
 rw[y.o];go_wp2_with(first
  |(go_at_call 26;refine k.o.mono ?_;clear k;rintro e w1 ⟨v1,zs,rfl,M,r,R,H,D⟩;have x:=Z r;clear r)
  |(go_at_call 25;refine(l.o _ _ zs M R).mono ?_;clear l;rintro e w2 ⟨u2,rfl,i,K,G⟩;obtain⟨U,l9,W,rfl⟩:=i.form;have hq:=Bt D G;have g:=boxed_below A hq;have T:=g.cell;have f2:=g.frozen))
 have B:Jc zs=Ji ps qs:=KW λj=>x.o j;rw[B]at i;refine BA (by simp[results,results7,go_sem,T]) J ⟨_,J,⟨_,J,GM g _ i.row⟩,?_,(Bt f hq).setCell (p:=⟨w.heap.size+1+1,0,none⟩) si _⟩;intro a' l' c' e;have:=K W0.heap.size H a' l' c' e;have X:=f.size;omega
def WU(v r:S)(ps:Ja)(x:Rat)(w:F)(h:Je w v ps)(f:Jf w r x)(hs:Sqs ps)(p:Sq x)(o:LQ ps x):
 Calls N 20 #[v,r] w λe w'=>∃u,e=.returned u/\Jf w' u (ev ps x)/\Bl w w':=by
 obtain⟨u,rfl,d⟩:=h;obtain⟨a,l,c,rfl⟩:=d.form;obtain⟨s8,T,l8,c8,t8,X,k8,d8,rfl⟩:=f.form;obtain⟨W0,t,s⟩:=Ix 25 (.cell 25 (E a l c)) EO 50 (.rat x) f 50 (.rat 0) (XF _);have b:=s.o;obtain⟨s1,M,l1,c1,t1,V,k1,d1,G,r1,z,g⟩:=b.rat (i:=1) J;obtain⟨s2,R,l2,c2,t2,W,k2,d2,H,K,A,j⟩:=b.rat (i:=2) J;have b0:=(b.cell (i:=0) J).1;have m:=Z (ml a l c ps _ x W0 (d.below b.2.2) r1 hs p o);have y:=b.2.2;have k0:=b0.cell;obtain⟨e0,e1,e2,e3⟩:=G.cq;clear d hs p o f b r1 z g K A j;go_enter func20,ntmps20
 go_upto_region 1 with fail
 rw[t.o];go_wp2_with(go_at_call 45;refine m.o.mono ?_;clear m;rintro e w1 ⟨u,rfl,q,n⟩;have k:=H.below n;obtain⟨B,g,j,D⟩:=k.cq;obtain⟨f0,f1,f2,f3⟩:=k.fq;obtain⟨an,U,am,ah,ap,ae,aj,ai,rfl⟩:=Jf.form q)
 exact BA (by simp[results,results20,go_sem,B,g,j,D]) J ⟨_,J,q.put4 k J J J J _ _ _ _,Jw (Bt y n) O _ _ _ _⟩
theorem WV(n:Int)(t:-9223372036854775808<=n)(x:n<=9223372036854775807)(w:F):
 Calls N 180 #[Q .i64 n] w λe w'=>∃u,e=.returned u/\Jf w' u (n:Rat)/\Bl w w':=by
 have b:Bl w (w.alloc (C #[L false,E none 0 0,L false,E none 0 0] 50)):=Ba w _;have b0:=JQ.new w 50 (L false) (E none 0 0) (L false) (E none 0 0);obtain⟨W0,d⟩:=ex (w.alloc (C #[L false,E none 0 0,L false,E none 0 0] 50));rw[d]at b b0;obtain⟨m,g,i,o⟩:=Dx d (GW n t x W0) (λ(V:F)=>GW 1 O O V) (show Sok n from Sok.of (k:=2) (by unfold Sm Y;omega) O);have a:=Z λ(V:F) (u v:S) (A:Jk V u n) (hv:Jk V v 1)=>Kk u v n 1 V A hv o.o Sok.one;rw[show decide ((1:Int)≠0)=true from J,show Rat.divInt n 1=(n:Rat)from by rw[AC];grind]at a;clear d;go_enter func180,ntmps180
 go_upto_region 1 with fail
 rw[m.o];go_wp2_with(first
  |(go_at_call 107;refine g.o.mono ?_;clear g;rintro e w1 ⟨u1,rfl,c,y⟩)
  |(go_at_call 107;refine(i.o _).mono ?_;clear i;rintro e w2 ⟨u2,rfl,B,j⟩;have c:=c.below j)
  |(go_at_call 193;refine(a.o _ _ _ c B).mono ?_;clear a;rintro e W ⟨u3,rfl,l,z⟩;have hq:=Bt (Bt y j) z;obtain⟨T,p,R,r,U,q,M,s,rfl⟩:=Jf.form l;have f:=(b0.below hq).alloc (C #[L T,E p R r,L U,E q M s] 50);obtain⟨D,G,H,K⟩:=f.cq;obtain⟨f0,f1,f2,f3⟩:=f.fq))
 exact BA (by simp[results,results180,go_sem,D,G,H,K]) J ⟨_,J,(l.below (Ba _ _)).put4 f J J J J _ _ _ _,Jw ((Bt b hq).alloc (by have:=b.size;have:=hq.size;omega) _) (Aa _) _ _ _ _⟩
end M3
section
open M3
def mn(y:Int):dd y≠0:=by unfold dd;split<;>omega
def mo(s:S)(x y:Int)(w:F)(k:XA w s x y)(q:Sok x)(r:Sok (dd y)):
 Calls N 276 #[s] w λe w'=>∃u,e=.returned u/\Jk w' u (x/dd y)/\Bl w w':=by
 obtain⟨aq,T,ap,X,ay,U,an,ae,rfl⟩:=XA.form k;obtain⟨W0,m,n⟩:=Lx 50 (.pair (x) y) k 48 (.int 0) (EX _);have z:=Z q;have t:=Z r;clear k q r;go_enter func276,ntmps276
 go_upto_region 1 with fail
 rw[m.o];clear m;refine YD Di [[],[0],[],[2],[1,3,3],[4],[5],[5],[5],[],[],[9,6,4,0,1,2,3,4,5,6,9,10],[10,7,11,0,1,2,3,4,5,6,7,9,10,11],[8,12,0,1,2,3,4,5,6,7,8,9,10,11,12]] [.eq (I (some ⟨w.heap.size,0,none⟩)),.int x,.pair (x) (y),.int (dd y),.tup2 (.int (x/dd y)) (.int (x%dd y)),.tup2 (.int (x/dd y)) (.int (x%dd y)),.int (x/dd y),.int (x%dd y),.eq (L true),.ptr,.ptr,.eq P,.eq P,.eq (L true)] [9,10,11,12] (λb v V=>DJ w V [some (w.heap.size,.pair (x) (y)),some (w.heap.size+1,.int 0),nb b v 0 2 (.int 0) (.int (x/dd y)),nb b v 1 3 (.int 0) (.int (x%dd y))]) ((n.o.none).none).drew (SR (.vl J λ_ _=>⟨_,by refine DP ?_;go_simp,J⟩)<|SR (.vl J λh j=>lT 0 j (hp:=h.e 0))<|SR (.vl J λ_ j=>lU 0 j)<|SR (.cl λh _=>WF _ x y _ (h.g 2))<|SR (.cl λh _=>Oc (On _ _ x (dd y) _ (h.g 1) (h.g 3) (mn y) (by have:=z.o.words;omega) (by have:=t.o.words;omega)))<|SR (.vl J λh _=>mw (h.g 4))<|SR (.vl J λh _=>Oh (h.g 5))<|SR (.vl J λh _=>Oi (h.g 5))<|SR (.vl J λh _=>Oj (h.g 5))<|SR (.wr J λ_ j=>Gp 2 j)<|SR (.wr J λ_ j=>Gp 3 j)<|SR (.wr J λh j=>E0 2 j (h.g 6) (hp:=h.g 9))<|SR (.wr J λh j=>E0 3 j (h.g 7) (hp:=h.g 10))<|SR (.vl J λh _=>aw (h.g 8)) Stp.end_)
  λf K hF a=>?_
 refine DP ?_;rw[hF.e 0,hF.e 8,hF.e 13];obtain⟨B3,d⟩:=hF.p 9;obtain⟨B4,g⟩:=hF.p 10;have a:=Dw a;simp only[d,g]at a;rw[d,g];have c:=Z a;clear a hF d g;clear n;go_upto_region 2 with fail
 obtain⟨s5,M,l5,c5,H,G⟩:=c.o.int (i:=2) J;obtain⟨ah,ai⟩:=H.cp;obtain⟨s6,R,l6,W,l,i6⟩:=c.o.int (i:=1) J;obtain⟨A,B⟩:=l.cp;obtain⟨aj,am⟩:=l.fp;have o:=c.o.ge 1 J;have D:=c.o.2.2;go_wp2_with fail
 exact BA (by simp[results,results276,go_sem,A,B]) J ⟨_,J,G.box l J J,(D.setCell (p:=⟨_,0,none⟩) o _).setCell (p:=⟨_,1,none⟩) o _⟩
end
section
def EK(s:Nat × Int)(a:Int):Nat × Int:=if a=0 then s else(if a=-s.2 then s.1+1 else s.1,a)
def Ro(l:List Int):Nat:=(l.foldl EK (0,0)).1
def DW(q:Rat):Int:=q.num.sign
variable{p q:Rat}
theorem Xt:DW q=0↔q=0:=by
 unfold DW;rw[Int.sign_eq_zero_iff_zero];exact FQ
theorem Rp:DW q=1↔0<q:=by
 unfold DW;rw[Int.sign_eq_one_iff_pos,Rat.lt_iff];simp
theorem Rq:DW q=-1↔q<0:=by
 unfold DW;rw[Int.sign_eq_neg_one_iff_neg,Rat.lt_iff];simp
theorem O0(q:Rat):-1<=DW q/\DW q<=1:=by
 grind[DW]
theorem Yd(q:Rat):(q<0/\DW q=-1)\/(q=0/\DW q=0)\/(0<q/\DW q=1):=by
 grind[Rq,Xt,Rp]
theorem mp:∀(l:List Int) (s:Nat × Int),(∀a∈l,-1<=a/\a<=1)->(-1<=s.2/\s.2<=1)->(-1<=(l.foldl EK s).2/\(l.foldl EK s).2<=1)/\(l.foldl EK s).1<=s.1+l.length:=by
 intro l;induction l with
 |nil=>intro s _ h;exact⟨h,Aa _⟩
 |cons a l e=>
  intro s hl hs;have d:=hl a Au;have c:-1<=(EK s a).2/\(EK s a).2<=1:=by
   unfold EK;split
   . exact hs
   . exact d
  have f:(EK s a).1<=s.1+1:=by
   unfold EK;split
   . omega
   . grind
  obtain⟨g,i⟩:=e (EK s a) (λb hb=>hl b (AP _ hb)) c;grind
theorem mq{a b:Rat}(hb:b≠0):(a*b<0↔DW b=-DW a):=by
 rcases Yd a with⟨d,e⟩|⟨d,e⟩|⟨d,e⟩<;>rcases Yd b with⟨c,f⟩|⟨c,f⟩|⟨c,f⟩<;>rw[e,f]
 . have:=Ac (a:=-a) (b:=-b) DH DH;grind
 . exact absurd c hb
 . have:=Ac (a:=-a) (b:=b) DH c;grind
 . rw[d];grind
 . exact absurd c hb
 . rw[d];grind
 . have:=Ac (a:=a) (b:=-b) d DH;grind
 . exact absurd c hb
 . have:=Ac d c;grind
theorem mr:∀(l:Ja) (n:Nat) (a:Rat),((l.map DW).foldl EK (n,DW a)).1=n+Xx a l:=by
 intro l;induction l with
 |nil=>intro n a;rfl
 |cons b l c=>
  intro n a;grind[EK,Xt,Xx,mq]
def Rr(l:Ja):Ro (l.map DW)=DM l:=by
 have:=mr l 0 0;rw[A7]at this;exact this
def ms(l:List Int)(a:Int):(l++[a]).foldl EK (0,0)=EK (l.foldl EK (0,0)) a:=by rw[List.foldl_append];rfl
theorem L4(q:Rat):Yw q 0=DW q:=by
 have e:Yw q 0=if q.num<0 then -1 else if 0<q.num then 1 else 0:=by
  unfold Yw XU;simp
 grind[DW]
def mu:Yw p q<=0↔p<=q:=by
 rw[Rat.le_iff];unfold Yw XU;omega
def KG:Yw p q<0↔p<q:=by
 rw[Rat.lt_iff];unfold Yw XU;omega
theorem LR:Yw p q=0↔p=q:=by
 grind[Rat.eq_iff_mul_eq_mul,Yw,XU]
theorem Kl:Yw p q=1↔q<p:=by
 rw[Rat.lt_iff];unfold Yw XU;omega
end
namespace M3
def WW(v:S)(q:Rat)(w:F)(h:Jf w v q)(hs:Sq q):
 Calls N 272 #[v] w λe w'=>e=.returned (Q .i64 (DW q))/\Bl w w':=by
 obtain⟨s,a,l,c,t,b,k,d,rfl⟩:=Jf.form h;have hA:Bl w (w.alloc (C #[L s,E a l c,L t,E b k d] 50)):=Ba w _;have f:=Z (Xd _ _ q 0 _ (h.below hA) (XF _) hs GF);rw[L4]at f;obtain⟨n,hn⟩:=ex (DW q);rw[hn]at f ⊢;have g:=Z hA;clear h hs hA hn;go_enter func272,ntmps272
 go_wp2_with(go_at_call 21;refine f.o.mono ?_;clear f;rintro e w1 ⟨rfl,hq⟩)
 go_ret;exact⟨J,Bt g.o hq⟩
end M3
section
structure ElT(ts ty:TypeId):Prop where
 under:Tryz.prog.underlying ts=some (.slice ty)
 info:∃i z z0,Tryz.prog.info? ty=some i/\i.zero=some z/\z.cells=#[z0]/\i.size=1/\i.bytes<=32
def GH:S->Option Nat
 |E (some a) _ _=>some a.block
 |_=>none
def D6(ty:TypeId)(base:Nat)(W:F)(v:S)(cs:List S):Prop:=
 (v=E none 0 0/\cs=[])\/∃g cap cur,v=E (some ⟨g,0,none⟩) cs.length cap/\base<=g/\W.heap[g]?=some (C cur ty (0,0))/\cs.length<=cap/\cap<=maxLen/\cur.size=cap/\cur.toList.take cs.length=cs
theorem D6.nil(ty:TypeId)(base:Nat)(W:F):D6 ty base W (E none 0 0) []:=An ⟨J,J⟩
section
variable {ty:TypeId} {base:Nat} {W W':World} {v:Value} {cs:List Value}
def D6.keep(h:D6 ty base W v cs)(hk:∀g,GH v=some g->base<=g->(∃cur,W.heap[g]?=some (C cur ty (0,0)))->W'.heap[g]?=W.heap[g]?):D6 ty base W' v cs:=by
 rcases h with h|⟨g,cap,cur,rfl,a,b,c⟩
 . exact An h
 . exact Ap ⟨g,cap,cur,J,a,(hk g J a ⟨cur,b⟩).trans b,c⟩
def D6.below(h:D6 ty base W v cs)(hb:Bl W W'):D6 ty base W' v cs:=h.keep λg _ _ ⟨_,a⟩=>hb.block g (Ab.1 a).1
theorem D6.lt(h:D6 ty base W v cs){g:Nat}(e:GH v=some g):g<W.heap.size/\base<=g:=by
 rcases h with⟨rfl,_⟩|⟨a,cap,cur,rfl,b,c,d⟩
 . cases e
 . cases e;grind
def D6.own(h:D6 ty base W v cs){row:Option Nat}(hg:W.grownBy W' row)(b:∀r,row=some r->∃o:Obj,W.heap[r]?=some o/\o.isCells=false):D6 ty base W' v cs:=h.keep λg _ _ ⟨cur,a⟩=>by
 rw[a];exact M3.YP hg b a
theorem D6.form(h:D6 ty base W v cs):∃a c,v=E a cs.length c/\cs.length<=c/\c<=maxLen:=by
 rcases h with⟨rfl,rfl⟩|⟨g,cap,cur,rfl,_,_,b,d,_⟩
 . exact⟨none,0,J,DI,by unfold maxLen;omega⟩
 grind
theorem D6.cell(h:D6 ty base W v cs){j:Nat}(a:j<cs.length):∃g cap,v=E (some ⟨g,0,none⟩) cs.length cap/\base<=g/\g<W.heap.size/\W.cell? ⟨g,j,none⟩=some cs[j]:=by
 rcases h with⟨rfl,rfl⟩|⟨g,cap,cur,rfl,b,c,d,e,f,i⟩
 . simp at a
 grind[cell_of]
end
variable{ts:TypeId}{x:S}
theorem mx{ty:TypeId}(G:ElT ts ty)(base:Nat)(W:F)(v:S)(cs:List S)(h:D6 ty base W v cs)(aq:x.oneCell'=true)(hl:cs.length+1<=1099511627776)(s:base<=W.heap.size):
 ∃l w',(Builtin.append_ #[ts,ts] ts #[v,E (some ⟨W.heap.size,0,none⟩) 1 1]).run N (W.alloc (C #[x] ty))=.ok l w'/\D6 ty base w' l (cs++[x])/\(∀B,B<W.heap.size->GH v≠some B->w'.heap[B]?=W.heap[B]?)/\(∀n w0,n<=base->Below n w0 W->Below n w0 w')/\W.heap.size<=w'.heap.size/\(GH l=GH v\/∃g,GH l=some g/\W.heap.size<=g):=by
 have t:=G.under;obtain⟨i,z,z0,hi,H,K,f,ae⟩:=G.info;have b:Bl W (W.alloc (C #[x] ty)):=Ba W _;obtain⟨a,A⟩:=ex (W.alloc (C #[x] ty));have ap:a.heap[W.heap.size]?=some (C #[x] ty (0,0)):=by rw[<-A];exact BD W _
 rw[A]at b ⊢;have p:∀j c',[x][j]?=some c'->a.cell? ((⟨W.heap.size,0,none⟩:Addr).add j)=some c':=λj c' D=>by
  grind[YG,cell_of]
 have R:∀c'∈[x],c'.oneCell'=true:=λc' D=>by
  grind
 have grown:∀(k:Nat) (m:Nat),m=cs.length+1->
  D6 ty base (a.drew.alloc (C (cs.toArray++[x].toArray++Builtin.zeroCells #[z0] (grownCap a m k ty-m)) ty)) (E (some ⟨a.heap.size,0,none⟩) m (grownCap a m k ty)) (cs++[x]):=by
  intro k m hm;subst hm;have am:=grownCap_ge a (cs.length+1) k ty;have T:=grownCap_le_maxLen a (cs.length+1) k ty (by unfold maxLen;omega);refine Ap ⟨a.heap.size,_,_,DH,Ae s b.size,BD a.drew _,DH,T,?_,?_⟩
  . grind[size_zeroCells]
  . grind
 have fin:∀o,(∀B,B<W.heap.size->GH v≠some B->(a.drew.alloc o).heap[B]?=W.heap[B]?)/\(∀n w0,n<=base->Below n w0 W->Below n w0 (a.drew.alloc o))/\W.heap.size<=(a.drew.alloc o).heap.size:=λo=>by
  have q:Bl W (a.drew.alloc o):=(b.drew).alloc (by exact b.size) _;exact⟨λB r _=>q.block B r,λn w0 hn hb=>hb.trans (q.mono (Ae hn s)),q.size⟩
 rcases h with⟨rfl,rfl⟩|⟨g,cap,cur,rfl,u,w,h4,V,h6,X⟩
 . have c:=run_append_nil (P:=N) a ts ts ty i _ t hi H ⟨W.heap.size,0,none⟩ 1 1 [x] (by rw[f];rfl) p O O O;rw[K]at c;have:=grown 0 1 J;exact⟨_,_,c,by simpa using this,(fin _).1,(fin _).2.1,(fin _).2.2,Ap ⟨_,J,b.size⟩⟩
 . have y:a.heap[g]?=some (C cur ty (0,0)):=(b.block g (Ab.1 w).1).trans w;have h0:cur.toList.length=cur.size:=Array.length_toList;have an:(cur.toList.take cs.length).length=cs.length:=by rw[AG];omega
   by_cases aj:cs.length+1<=cap
   . have c:=run_append_room (P:=N) a ts ts ty i t hi g cs.length cap cur y ⟨W.heap.size,0,none⟩ 1 1 [x] (by rw[f];rfl) p R aj (by rw[f];simp;omega);rw[f,Nat.mul_one,X]at c;obtain⟨d,ah⟩:=ex ((cs++[x]++cur.toList.drop (cs.length+[x].length)).toArray);rw[ah]at c;have U:=setRow_heap a g cur d ty (0,0) y;have M:a.heap.size<=(a.setRow g d).heap.size:=(below_setRow (B:=0) (BB _ a) (Ay _) d).size;refine⟨_,_,c,?_,λB r hn=>?_,λn w0 hn hb=>below_setRow (hb.trans (b.mono (Ae hn s))) (Ae hn u) d,Ae b.size M,An J⟩
     . refine Ap ⟨g,cap,d,DH,u,U,DH,V,?_,?_⟩
       . grind
       grind
     . exact(setRow_other a g B d λe=>hn (by rw[e];rfl)).trans (b.block B r)
   . have ai:∀j c',cs[j]?=some c'->a.cell? ((⟨g,0,none⟩:Addr).add j)=some c':=λj c' D=>by
      grind[YG,cell_of]
     have c:=run_append_grow (P:=N) a ts ts ty i _ t hi H ⟨g,0,none⟩ cs.length cap cs (by rw[f];omega) ai ⟨W.heap.size,0,none⟩ 1 1 [x] (by rw[f];rfl) p O O (Ae (Am _ ae) (growslice_fits O O));rw[K]at c;exact⟨_,_,c,grown cap _ J,(fin _).1,(fin _).2.1,(fin _).2.2,Ap ⟨_,J,b.size⟩⟩
def Tryz.infoPolyC:(Tryz.prog.info? 25).map (λi=>(i.zero,i.size,i.bytes))=some (some (.agg #[E none 0 0]),1,24):=by kernel_rfl
def my{ty:TypeId}{z z0:S}{b:Nat}(c:Tryz.prog.underlying ts=some (.slice ty))(d:(Tryz.prog.info? ty).map (λi=>(i.zero,i.size,i.bytes))=some (some z,1,b))(e:z.cells=#[z0])(f:b<=32):ElT ts ty:=by
 obtain⟨i,hi,a⟩:=Fc.1 d;simp only[Prod.mk.injEq]at a;exact⟨c,i,z,z0,hi,a.1,e,a.2.1,by rw[a.2.2];exact f⟩
def Km(Q:S->Ja->Prop)(cs:List S)(L:List Ja):Prop:=cs.length=L.length/\∀(j:Nat) p,L[j]?=some p->∃x,cs[j]?=some x/\Q x p
theorem Km.keep{Q Q':S->Ja->Prop}{cs:List S}{L:List Ja}(h:Km Q cs L)(hk:∀x p,Q x p->Q' x p):Km Q' cs L:=⟨h.1,λj p e=>by obtain⟨x,a,b⟩:=h.2 j p e;grind⟩
theorem Km.snoc{Q:S->Ja->Prop}{cs:List S}{L:List Ja}(h:Km Q cs L){p:Ja}(c:Q x p):Km Q (cs++[x]) (L++[p]):=by
 refine⟨by simp[h.1],λj q e=>?_⟩;by_cases b:j<L.length
 . rw[CY b]at e;obtain⟨y,f,g⟩:=h.2 j q e;grind
 . rw[Cg O]at e;obtain⟨d,a⟩:=ex (j-L.length);rw[a]at e;cases d with
   |succ d=>simp at e
   |zero=>
    simp at e;subst e;exact⟨x,by rw[Cg (by have:=h.1;omega),show j-cs.length=0 by have:=h.1;omega];rfl,c⟩
abbrev Gs(W:F)(cs:List S)(L:List Ja):Prop:=Km (λx p=>Je W (.agg #[x]) p) cs L
def mz:ElT 170 25:=my underlying170 Tryz.infoPolyC J O
end
namespace M3
def My{α:Type}(G:List α->F->Prop):Prop:=∀H W W',G H W->Bl W W'->G H W'
variable{lb:Array S}{G:List Int->F->Prop}{B gf l:Nat}{W0 w:F}
def m7{n m:Nat}{P:Program}{args:Array S}{W:F}{R:Ending->F->Prop}(h:YieldAt Fence.wide n P l args W R):YieldAt Fence.wide m P l args W R:=by
 obtain⟨fn,t,a,b,e,d⟩:=h;exact⟨fn,t,a,b,e,d.1,λc cs _=>d.2 c cs (room_wide _)⟩
def m8{α:Type}(l b:Nat)(xs:List α)(a:F->S->α->Prop)(G:List α->F->Prop):Prop:=
 ∀n H x v W,G H W->a W v x->H++[x] <+: xs->b<=W.heap.size->YieldAt Fence.wide n N l #[v] W λe W'=>e=.returned (L true)/\G (H++[x]) W'/\W.heap.size<=W'.heap.size/\∀(k:Nat) (o:Obj),b<=k->W.heap[k]?=some o->W'.heap[k]?=some o
def Mz{α:Type}(gf:Nat)(lb:Array S)(w0:F)(xs:List α)(a:F->S->α->Prop):Prop:=
 ∀(n l:Nat) (G:List α->F->Prop) (W0:F),Bl w0 W0->My G->OwnFrom W0.heap.size G->(∀H W,G H W->Bl w0 W)->m8 l W0.heap.size xs a G->G [] W0->
  CallsIn Fence.wide n N gf (#[.func (.yield l) #[] #[]]++lb) W0 λe W'=>(∃v,e=.returned v)/\G xs W'
def NA{α:Type}(b:Nat)(I:List α->F->Prop)(H:List α)(W:F):Exit->Act->F->Prop
 |.normal,_,W'=>I H W'/\W.heap.size<=W'.heap.size/\∀(k:Nat) (o:Obj),b<=k->W.heap[k]?=some o->W'.heap[k]?=some o
 |_,_,_=>False
theorem WX{α:Type}{g:Operand}{ps:Array Tmp}{assign body:Code}{Q:Exit->Act->F->Prop}{a:Act}{w:F}{n:Nat}
{gf:Nat}{lb:Array S}{w0:F}{xs:List α}{M:F->S->α->Prop}(bi:Mz gf lb w0 xs M)(am:Bl w0 w)
(hg:a.eval g=.func (.func gf) #[] lb)(eg:∀args w,(callFunc gf args).run N w=.ok (.enter gf args) w)(bg:ps.size=1)
(I:List α->F->Prop)(d:OwnFrom w.heap.size I)(U:My I)(X:∀H W,I H W->Bl w0 W)(h0:I [] w)(q:α->Act->F->Prop)(ah:∀x a',OwnFrom w.heap.size λ(_:Unit) W=>q x a' W)
(ai:∀(l:Nat) (v:S) (x:α) (W:F) (K:Act->F->Prop),M W v x->Bl w0 W->(∀a' W',Bl W W'->q x a' W'->K a' W')->
  assign.wpIn (Fence.wide.inRound l) (n-1-1) N (Exit.then K λ_ _ _=>False) { tmps:=(ps.zip #[v]).foldl (λt (p,v)=>t.setIfInBounds p v) a.tmps,defers:=[] } W)
(an:∀(l:Nat) (a':Act) (x:α) (H:List α) (W:F),I H W->q x a' W->H++[x] <+: xs->w.heap.size+1<W.heap.size->
  body.wpIn (Fence.wide.inRound l) (n-1-1) N (NA w.heap.size I (H++[x]) W) a' W)
(ap:∀(D:Nat) (W:F),w.heap.size<=D->I xs W->W.heap[D]?=some (.deferred (some []))->Q .normal { a with defers:={ target:=.collected D,args:=#[] }::a.defers } W):
 (Code.rangeFunc g ps assign body).wpIn Fence.wide n N Q a w:=by
 refine wpIn_rangeFunc λfn aq=>?_;rw[show Fence.wide.round=none from J];obtain⟨rc,f⟩:∃rc:LoopState->Option Code->Loop,rc=λst pe=>{ state:=st,pending:=pe,fn,tmps:=a.tmps,params:=ps,assign,body,defers:=w.heap.size }:=⟨_,J⟩;obtain⟨V,i⟩:=ex ((w.alloc (.deferred (some []))).alloc (.loop (rc .ready none)));have vL:V.heap[w.heap.size+1]?=some (.loop (rc .ready none)):=by
  rw[<-i];have:=BD (w.alloc (.deferred (some []))) (.loop (rc .ready none));rwa[Ax]at this
 have vD:V.heap[w.heap.size]?=some (.deferred (some [])):=by
  rw[<-i];exact(Bf _ _ _ DI).trans (BD w _)
 have vI:I [] V:=by rw[<-i];exact d.alloc _ (d.alloc _ h0)
 have Qo:Bl w V:=by rw[<-i];exact(Ba w _).alloc (by rw[Ax];omega) _
 have bj:V.heap.size=w.heap.size+2:=by rw[<-i];simp
 refine⟨w.heap.size+1,[{ target:=.collected w.heap.size,args:=#[] }],V,{ target:=.fn (.func gf) lb,args:=#[.func (.yield (w.heap.size+1)) #[] #[]] },V,gf,
  #[.func (.yield (w.heap.size+1)) #[] #[]]++lb,V,?_,?_,?_,?_,λh=>by simp[Fence.wide]at h,?_⟩
 . grind[run_enterLoop_outer]
 . simp only[resolve,hg];simp[go_sem]
 . intro f' ae;simp[Target.leads]at ae;subst ae;exact trivial
 . simp[invoke,go_sem,eg]
 refine(bi (n-1) (w.heap.size+1)
  (λH W=>I H W/\W.heap[w.heap.size+1]?=some (.loop (rc .ready none))/\W.heap[w.heap.size]?=some (.deferred (some [])))
  V (Bt am Qo) ?_ ?_ (λH W h=>X H W h.1) ?_ ⟨vI,vL,vD⟩).mono ?_
 . rintro H W W' ⟨hi,hl,hk⟩ hb;exact⟨U _ _ _ hi hb,(hb.block _ (Ab.1 hl).1).trans hl,(hb.block _ (Ab.1 hk).1).trans hk⟩
 . rintro H W W' row ⟨hi,hl,hk⟩ G z;exact⟨d H W W' row hi G λr e=>⟨DH,(z r e).2⟩,(G.block _ (Ab.1 hl).1 λe=>by grind).trans hl,(G.block _ (Ab.1 hk).1 λe=>by grind).trans hk⟩
 . rintro m H x v W ⟨hi,hl,hk⟩ hx az bu;have Qc:w.heap.size+1<W.heap.size:=(Ab.1 hl).1;have hy:=run_yield (P:=N) (args:=#[v]) hl (by rw[f];exact bg.symm);rw[f]at hy;refine m7 (n:=n-1-1) ⟨fn,_,assign,body,hy,roundIn_of_wpIn aq (ai _ _ x W _ hx (X _ _ hi) λa' c hA aj=>?_)⟩;have u:c.heap[w.heap.size+1]?=some (.loop (rc .ready none)):=(hA.block _ Qc).trans hl;have Qk:c.heap[w.heap.size]?=some (.deferred (some [])):=(hA.block _ O).trans hk;have Qh:I H c:=U _ _ _ hi hA;refine⟨_,run_beginRound u (by rw[f]),?_⟩;have Qd:w.heap.size+1<c.heap.size:=(Ab.1 u).1;obtain⟨b,j⟩:=ex (c.putObj (w.heap.size+1) (.loop { rc .ready none with state:=.busy }));rw[j];have Qi:b.heap[w.heap.size+1]?=some (.loop { rc .ready none with state:=.busy }):=by rw[<-j];exact Bb Qd
   have T:∀k,k≠w.heap.size+1->b.heap[k]?=c.heap[k]?:=λk hk=>by grind[BM]
   have Qj:b.heap[w.heap.size]?=some (.deferred (some [])):=(T _ O).trans Qk;have Ql:I H b:=by rw[<-j];exact d.putObj _ Qh O u J
   have Qf:q x a' b:=by rw[<-j];exact(ah x a').putObj (s:=()) _ aj O u J
   have bm:c.heap.size=b.heap.size:=by rw[<-j];simp[World.putObj]
   refine wpIn_mono (an _ a' x H b Ql Qf az O) λe a3 y hp=>?_;cases e with
   |normal=>
    obtain⟨ay,bn,B⟩:=hp;have A:=B _ _ O Qi;have z:=run_endRound (P:=N) none A;have R:∀k,k≠w.heap.size+1->(y.putObj (w.heap.size+1) (.loop (rc .ready none))).heap[k]?=y.heap[k]?:=λk hk=>BM O;have Qm:(Instr.endRound (w.heap.size+1) none).run N y=.ok (L true) (y.putObj (w.heap.size+1) (.loop (rc .ready none))):=by
     rw[f]at z ⊢;exact z
    refine⟨_,_,Qm,J,⟨d.putObj _ ay O A J,Bb (Ab.1 A).1,(R _ O).trans (B _ _ (Aa _) Qj)⟩,?_,λk o hk ho=>?_⟩
    . have h5:=hA.size;grind[World.putObj]
    . have Qn:k<W.heap.size:=(Ab.1 ho).1;exact(R k O).trans (B k o O ((T k O).trans ((hA.block k Qn).trans ho)))
   |ret=>exact hp.elim
   |exit id=>exact hp.elim
   |goto t=>exact hp.elim
   |panic ch=>exact hp.elim
   |outgrown=>exact hp.elim
 . rintro e b ⟨⟨v,rfl⟩,hi,hl,hk⟩;exact⟨none,_,by have:=run_endLoop (P:=N) hl (by rw[f];simp);rw[f]at this;exact this,ap _ _ (Aa _) (d.putObj _ hi O hl J) ((BM O).trans hk)⟩
def WY(_:F)(v:S)(s:Int):Prop:=v=.int .i64 s
def Gt(w:F)(H:List Int)(W:F):Prop:=
 Boxed W w.heap.size 3 (.int .i64 ((H.foldl EK (0,0)).1:Int))/\Boxed W (w.heap.size+1) 3 (.int .i64 (H.foldl EK (0,0)).2)/\Bl w W
def Gt.bel{H:List Int}{W W':F}(h:Gt w H W)(hb:Bl W W'):Gt w H W':=⟨boxed_below h.1 hb,boxed_below h.2.1 hb,Bt h.2.2 hb⟩
def Gt.own(b:w.heap.size<=B):OwnFrom B (Gt w):=λ_ _ _ _ h hg a=>
 ⟨YP hg (λr e=>(a r e).2) h.1,YP hg (λr e=>(a r e).2) h.2.1,h.2.2.grown hg h.2.2.size λk e=>Ae b (a k e).1⟩
theorem m9(w:F)(xs:List Int)(ae:Mz gf lb w xs WY)(eg:∀args w,(callFunc gf args).run N w=.ok (.enter gf args) w)(hx:∀s∈xs,-1<=s/\s<=1)(hl:xs.length<=1000000000):
 Calls N 269 #[.func (.func gf) #[] lb] w λe w'=>e=.returned (Q .i64 (Ro xs:Int))/\Bl w w':=by
 obtain⟨B,t,z⟩:=DZ ae hx hl;obtain⟨d,i⟩:=ex ((w.alloc (C #[Q .i64 0] 3)).alloc (C #[Q .i64 0] 3));have G:Bl w d:=by rw[<-i];exact(Ba w _).alloc (by rw[Ax];omega) _
 have Ql:Gt w [] d:=by
  rw[<-i];refine⟨(BH w 3 (Q .i64 0)).alloc _,?_,by rw[i];exact G⟩;have:=BH (w.alloc (C #[Q .i64 0] 3)) 3 (Q .i64 0);rwa[Ax]at this
 have V:d.heap.size=w.heap.size+2:=by rw[<-i];simp
 obtain⟨R,T,u,Qk⟩:=Dx Ql G V i;clear ae hx hl G Ql V i;refine(BJ (n:=3)).1 ?_;refine BO func269 J trivial ?_ J;simp only[ntmps269,Aw,Al,AX,Nat.reduceAdd,Nat.reduceSub,Az,AA,AU,AJ,As,AK];gi_wp2_with fail
 rw[Qk.o];clear Qk;refine WX B.o T.o J eg J (Gt w) (Gt.own (by have:=u.o;omega)) (λ_ _ _ h hb=>h.bel hb) (λ_ _ h=>h.2.2) R.o (λs a _=>a={ tmps:=#[.func (.func gf) #[] lb,P,Q .i64 0,I (some ⟨w.heap.size,0,none⟩),I (some ⟨w.heap.size+1,0,none⟩),Q .i64 s,.func (.func gf) #[] lb,Q .i64 s,P,P,P,P,P,P,P,P,P,P],defers:=[] }) (λ_ _ _ _ _ _ h _ _=>h) ?assign ?body ?done
 case assign=>
  intro l v s W K he hB q;obtain rfl:v=Q .i64 s:=he;have r:=Z (q _ W (BB _ W) J);clear q hB;gi_wp2;exact r.o
 case body=>
  intro l a' s H W m ah y aj;subst ah;have hs:=t.o s (y.subset DI);have A:=mp H (0,0) (λa ha=>t.o a (y.subset (by simp[ha]))) DK;have Qm:H.length<=1000000000:=by
   have c:=y.length_le;have f:=z.o;grind
  obtain⟨c,f,h3⟩:=m;obtain⟨st,U⟩:=ex (H.foldl EK (0,0));have X:(H++[s]).foldl EK (0,0)=EK st s:=by rw[ms,U]
  rw[U]at c f A;obtain⟨n,l2⟩:=st;simp only at c f A;obtain⟨⟨am,an⟩,ai⟩:=A;have hn:n<=1000000000:=O
  have e3:=c.cell;have e4:=f.cell;have f3:=c.frozen;have f4:=f.frozen;obtain⟨b,Qj,M⟩:=DZ (Ao c (Ao f h3)) (show w.heap.size+2<=d.heap.size by rw[u.o];exact Aa _) X;clear c f h3 y aj ai Qm U X t z R T u B;by_cases x:s=0
  . have g:=Z (show ∀j,NA d.heap.size (Gt w) (H++[s]) W .normal j W from λ_=>⟨by
     have e:EK (n,l2) s=(n,l2):=by unfold EK;rw[BF x]
     unfold Gt;rw[M.o,e];exact b.o,Aa _,λ_ _ _ h=>h⟩)
    subst x;gi_wp2;exact g.o _
  . by_cases c:s=-l2
    . subst c;have g:=Z (show ∀j,NA d.heap.size (Gt w) (H++[-l2]) W .normal j ((W.setCell ⟨w.heap.size,0,none⟩ (Q .i64 ((n+1:Nat):Int))).setCell ⟨w.heap.size+1,0,none⟩ (Q .i64 (-l2)))from λ_=>⟨by
       have e:EK (n,l2) (-l2)=(n+1,-l2):=by unfold EK;rw[BE x,BF J]
       unfold Gt;rw[M.o,e];exact⟨Boxed.other (b.o.1.set _) O _,(Boxed.other b.o.2.1 O _).set _,(b.o.2.2.setCell (p:=⟨w.heap.size,0,none⟩) (Aa _) _).setCell (p:=⟨w.heap.size+1,0,none⟩) DH _⟩,by grind[World.size_setCell],λk o hk h=>by
       have:=Qj.o;grind[BC]⟩)
      have Qn:=(Boxed.other b.o.2.1 (show w.heap.size+1≠w.heap.size by omega) (Q .i64 ((n+1:Nat):Int))).frozen;have Qo:=(Boxed.other b.o.2.1 (show w.heap.size+1≠w.heap.size by omega) (Q .i64 ((n+1:Nat):Int))).cell;push_cast at g Qn Qo
      gi_wp2;exact g.o _
    . have g:=Z (show ∀j,NA d.heap.size (Gt w) (H++[s]) W .normal j (W.setCell ⟨w.heap.size+1,0,none⟩ (Q .i64 s))from λ_=>⟨by
       have e:EK (n,l2) s=(n,s):=by unfold EK;rw[BE x,BE c]
       unfold Gt;rw[M.o,e];exact⟨Boxed.other b.o.1 O _,b.o.2.1.set _,b.o.2.2.setCell (p:=⟨w.heap.size+1,0,none⟩) DH _⟩,by rw[World.size_setCell];exact Aa _,λk o hk h=>by
       have:=Qj.o;grind[BC]⟩)
      gi_wp2;exact g.o _
 case done=>
  intro D W hD m q;have e3:=m.1.cell;obtain⟨r,b,HD⟩:=DZ q m.2.2 (show w.heap.size<=D by have:=u.o;omega);clear m hD q B t z R T;gi_wp2_with fail
  refine⟨DI,.inl ⟨_,_,J,BQ r.o,?_⟩⟩;exact⟨Q .i64 (Ro xs:Int),by simp[results,results269,go_sem];rfl,J,b.o.trans (B0 (w:=w) (Aa _) _ D _ _ HD.o r.o J J)⟩
def nC(W:F)(v:S)(p:Ja):Prop:=Je W v p
def Rs(W:F)(v:S)(q:Rat):Prop:=Jf W v q
def WZ{α:Type}(pf:Nat)(pb:Array S)(w0:F)(xs:List α)(a:F->S->α->Prop)(f:α->Int):Prop:=
 ∀W v x,Bl w0 W->a W v x->x∈xs->Calls N pf (#[v]++pb) W λe W'=>e=.returned (.int .i64 (f x))/\Bl W W'
def IV{α:Type}(W0:F)(l:Nat)(f:α->Int)(G:List Int->F->Prop)(ty:TypeId)(H:List α)(W:F):Prop:=G (H.map f) W/\Boxed W W0.heap.size ty (.func (.yield l) #[] #[])
def IV.own{α:Type}{f:α->Int}{ty:TypeId}(c:OwnFrom W0.heap.size G)(b:W0.heap.size<=B):OwnFrom B (IV W0 l f G ty):=λ_ W W' row h hg a=>
 ⟨c _ W W' row h.1 hg λr e=>⟨Ae b (a r e).1,(a r e).2⟩,YP hg (λr e=>(a r e).2) h.2⟩
def IV.bel{α:Type}{f:α->Int}{ty:TypeId}(a:My G):My (IV W0 l f G ty):=λ_ _ _ h hb=>⟨a _ _ _ h.1 hb,boxed_below h.2 hb⟩
def NB{α:Type}(W0 W:F)(l:Nat)(f:α->Int)(G:List Int->F->Prop)(ty:TypeId)(H:List α)(V:F):Prop:=IV W0 l f G ty H V/\W.heap.size<=V.heap.size/\∀(k:Nat) (o:Obj),W0.heap.size<=k->W.heap[k]?=some o->V.heap[k]?=some o
def NB.bel{α:Type}{W0 W:F}{l:Nat}{f:α->Int}{G:List Int->F->Prop}{ty:TypeId}{H:List α}{V V':F}(a:My G)(h:NB W0 W l f G ty H V)(hb:Bl V V'):NB W0 W l f G ty H V':=
 ⟨IV.bel a _ _ _ h.1 hb,Ae h.2.1 hb.size,λk o hk b=>by have:=h.2.2 k o hk b;exact(hb.block k (Ab.1 this).1).trans this⟩
def nD{W W':F}{row:Option Nat}(hg:W.grownBy W' row)(a:∀r,row=some r->∃o:Obj,W.heap[r]?=some o/\o.isCells=false){v:S}{q:Rat}(h:Jf W v q):Jf W' v q:=EN.keep (r:=true) h λ_ _ _ h=>Oy hg a h
def O1(g:Nat->S->Act)(B:Nat)(x:Rat)(a:Act)(W:F):Prop:=∃b e f c d l1 c1 l2 c2,B<=b/\JQ W b 50 (L e) (E c l1 c1) (L f) (E d l2 c2)/\Jf W (.agg #[L e,E c l1 c1,L f,E d l2 c2]) x/\a=g b (.agg #[L e,E c l1 c1,L f,E d l2 c2])
def O1.own{d:Nat->S->Act}{B':Nat}(x:Rat)(a:Act):OwnFrom B' (λ(_:Unit) W=>O1 d B x a W):=λ_ _ _ _ h hg c=>by
 obtain⟨b,k,l,x1,x2,l1,c1,l2,c2,f,g,i,j⟩:=h;exact⟨b,k,l,x1,x2,l1,c1,l2,c2,f,YP hg (λr e=>(c r e).2) g,nD hg (λr e=>(c r e).2) i,j⟩
def nE{pf:Nat}{pb:Array S}(w0:F)(xs:Ja)(f:Rat->Int)(U T:Nat)(bi:Mz gf lb w0 xs Rs)(eg:∀args w,(callFunc gf args).run N w=.ok (.enter gf args) w)(ep:∀args w,(callFunc pf args).run N w=.ok (.enter pf args) w)
(ay:Boxed w0 U 296 (.func (.func gf) #[] lb))(aq:Boxed w0 T 53 (.func (.func pf) #[] pb))(hp:WZ pf pb w0 xs Rs f):
 Mz 290 #[I (some ⟨U,0,none⟩),I (some ⟨T,0,none⟩)] w0 (xs.map f) WY:=by
 intro n l G W0 ap ai am an hY aj;obtain⟨M,u⟩:=ex (W0.alloc (C #[.func (.yield l) #[] #[]] 76));have Qe:Bl W0 M:=by rw[<-u];exact Ba W0 _
 have Qj:M.heap.size=W0.heap.size+1:=by rw[<-u];simp
 have Qh:IV W0 l f G 76 [] M:=⟨ai _ _ _ aj Qe,by rw[<-u];exact BH W0 _ _⟩;have Qd:=Bt ap Qe;obtain⟨Qo,HP,Qn,Qc,Qf,Qi,Qm,Qk⟩:=Iv bi hp ai am an hY Qh Qd;obtain⟨B,Ql,Qg⟩:=DZ Qj u aq;have c1:=(boxed_below ay (Qd.mono (by exact Aa _))).cell;rw[<-u]at c1;clear bi hp ai am an hY Qh Qd Qj u Qe ap aj ay aq;refine BO func290 J trivial ?_ J;simp only[ntmps290,Aw,Al,AX,Nat.reduceAdd,Nat.reduceSub,Az,AA,AU,AJ,As,AK];gi_wp2_with fail
 rw[Ql.o];clear Ql c1;refine WX Qo.o Qk.o J eg J (IV W0 l f G 76) (IV.own Qc.o (by have:=B.o;omega)) (IV.bel Qn.o) (λ_ _ h=>Qf.o _ _ h.1) Qm.o
  (O1 (λb v=>{ tmps:=#[.func (.yield l) #[] #[],I (some ⟨U,0,none⟩),I (some ⟨T,0,none⟩),I (some ⟨W0.heap.size,0,none⟩),I (some ⟨b,0,none⟩),.func (.func gf) #[] lb,v,P,P,P,P,P,P],defers:=[] }) w0.heap.size) (λx a=>O1.own x a) ?assign ?body ?done
 case assign=>
  intro l1 v x W K he d p;obtain⟨z,a,l2,c,A,s,y,t,rfl⟩:=Jf.form (show Jf W v x from he);have hA:Bl W (W.alloc (C #[L z,E a l2 c,L A,E s y t] 50)):=Ba W _;have X:=Z (p _ (W.alloc (C #[L z,E a l2 c,L A,E s y t] 50)) hA ⟨W.heap.size,z,A,a,s,l2,c,y,t,d.size,JQ.new W _ _ _ _ _,Jf.below he hA,J⟩);clear p d he hA;gi_wp2;exact X.o
 case body=>
  rintro l1 a' x H W r ⟨b,z,A,a,s,l2,c,y,t,bu,az,hx,rfl⟩ bg bz;have hW:=Qf.o _ _ r.1;obtain⟨Qr,Qv,Qp,Qq,Qs,HN,Qt⟩:=KB (λ(V:F) (d:Bl W V)=>(boxed_below r.2 d).cell) (λ(V:F) (d:Bl W V)=>(boxed_below (boxed_below Qg.o hW) d).cell) (λ(V:F) (d:Bl W V)=>az.below d) (λ(V:F) (d:Bl W V)=>HP.o V _ x (Bt hW d) (hx.below d) (bg.subset DI)) (λ(n9:Nat) (V:F) (d:Bl W V)=>Qi.o n9 (H.map f) (f x) (Q .i64 (f x)) V (Qn.o _ _ _ r.1 d) J DH (Ae (by have:=B.o;omega) d.size)) (λ(V V':F) (d:Bl W V) (h:G (H.map f++[f x]) V'/\V.heap.size<=V'.heap.size/\∀(k:Nat) (o:Obj),W0.heap.size<=k->V.heap[k]?=some o->V'.heap[k]?=some o)=>show NB W0 W l f G 76 (H++[x]) V' from⟨⟨by rw[FP];exact h.1,h.2.2 _ _ (Aa _) (boxed_below r.2 d)⟩,Ae d.size h.2.1,λk o hk ho=>h.2.2 k o hk ((d.block k (Ab.1 ho).1).trans ho)⟩) (show W0.heap.size<=M.heap.size by have:=B.o;omega);clear r bu az hx bg bz hW Qo HP Qc Qf Qi Qm Qk B Qg;dsimp only;gi_wp2_with fail
  refine OS Di [[],[],[],[1,2],[0,3,3],[4]] v0 DK
   (λD R V=>∃(td te tg ta tb tc:S),R={ tmps:=#[.func (.yield l) #[] #[],I (some ⟨U,0,none⟩),I (some ⟨T,0,none⟩),I (some ⟨W0.heap.size,0,none⟩),I (some ⟨b,0,none⟩),.func (.func gf) #[] lb,.agg #[L z,E a l2 c,L A,E s y t],td,te,tg,ta,tb,tc],defers:=[] }/\Hid ((D 0=true->td=.func (.yield l) #[] #[])/\(D 1=true->te=.func (.func pf) #[] pb)/\(D 2=true->tg=.agg #[L z,E a l2 c,L A,E s y t])/\(D 3=true->ta=Q .i64 (f x))/\(D 4=true->tb=L true)/\(D 5=true->tc=L false))/\Hid ((D 4=false->Bl W V)/\(D 4=true->NB W0 W l f G 76 (H++[x]) V)))
   ⟨_,_,_,_,_,_,J,Z DI,Z ⟨λ_=>(BB _ W).drew,DI⟩⟩ ?step ?fin
  case step=>
   rintro D R V i ds ae hi m bj ⟨td,te,tg,ta,tb,tc,rfl,g,j⟩;have cn:i<6:=(AF.1 hi).1;have q:i<5->D 4=false:=λco=>by
    cases h:D 4 with
    |false=>rfl
    |true=>
     exfalso
     have h3:=ae 4 _ J h 3 DI;have h0:=ae 4 _ J h 0 DI;have h1:=ae 3 _ J h3 1 DI;have h2:=ae 3 _ J h3 2 DI;obtain rfl|rfl|rfl|rfl|rfl:=Tg i O
     all_goals simp_all
   obtain rfl|rfl|rfl|rfl|rfl|rfl:=Th i O
   all_goals
    simp only[CF,Ct,Cn]at hi;subst hi
   . have d:=j.o.1 (q O);have e0:=Qr.o V d;clear m;refine GY ?_;exact⟨(UZ g),Z ⟨λh=>j.o.1 (by simpa using h),λh=>j.o.2 (by simpa using h)⟩⟩
   . have d:=j.o.1 (q O);have e0:=Qv.o V d;clear m;refine GY ?_;exact⟨(U0 g),Z ⟨λh=>j.o.1 (by simpa using h),λh=>j.o.2 (by simpa using h)⟩⟩
   . have d:=j.o.1 (q O);have n0:=Qp.o V d;obtain⟨e0,e1,e2,e3⟩:=n0.cq;clear n0;clear m;refine GY ?_;exact⟨(gU g),Z ⟨λh=>j.o.1 (by simpa using h),λh=>j.o.2 (by simpa using h)⟩⟩
   . have d:=j.o.1 (q O);have Qu:=q O;obtain rfl:=g.o.2.1 (m 1 DI);obtain rfl:=g.o.2.2.1 (m 2 DI);clear m q;refine BZ J λK p=>?_;go_simp;refine⟨trivial,λh=>by simp[Fence.wide]at h,(Bg l1 ((BJ (n:=_)).2 (Qq.o V d))).mono ?_⟩;rintro e w5 ⟨rfl,bn⟩;exact p _ _ ⟨_,_,_,_,_,_,J,Z ⟨g.o.1,λ_=>rfl,λ_=>rfl,λ_=>rfl,g.o.2.2.2.2.1,g.o.2.2.2.2.2⟩,Z ⟨λ_=>Bt d bn,λh=>by simp[Qu]at h⟩⟩
   . have d:=j.o.1 bj;obtain rfl:=g.o.1 (m 0 DI);obtain rfl:=g.o.2.2.2.1 (m 3 DI);clear m q;obtain⟨fn,tm,cj,bd,hy,bm⟩:=Qs.o (n-1-1-1) V d;refine BZ J λK p=>?_;go_simp;refine⟨λh=>by simp[Fence.wide]at h,RoundIn.mono bm ?_⟩;rintro e w5 ⟨rfl,h5⟩;exact p _ _ ⟨_,_,_,_,_,_,J,Z ⟨λ_=>rfl,g.o.2.1,g.o.2.2.1,λ_=>rfl,λ_=>rfl,g.o.2.2.2.2.2⟩,Z ⟨λh=>by simp at h,λ_=>HN.o V w5 d h5⟩⟩
   . obtain rfl:=g.o.2.2.2.2.1 (m 4 DI);clear m q;refine GY ?_;exact⟨Z ⟨g.o.1,g.o.2.1,g.o.2.2.1,g.o.2.2.2.1,λ_=>rfl,λ_=>rfl⟩,Z ⟨λh=>j.o.1 (by simpa using h),λh=>j.o.2 (by simpa using h)⟩⟩
  case fin=>
   rintro D R V ah ⟨td,te,tg,ta,tb,tc,rfl,g,j⟩;obtain rfl:=g.o.2.2.2.2.2 (ah 5 DK);have HE:=Z (show ∀R,NA M.heap.size (IV W0 l f G 76) (H++[x]) W .normal R V from λ_=>by
    have h:=j.o.2 (ah 4 DK);exact⟨h.1,h.2.1,λk o hk ho=>h.2.2 k o (Ae Qt.o hk) ho⟩)
   clear g j ah;gi_wp2;exact HE.o _
 case done=>
  intro D W hD r p;obtain⟨X,HI,HD⟩:=DZ p r (show W0.heap.size<=D by have:=B.o;omega);clear r hD p;gi_wp2_with fail
  refine⟨DI,.inl ⟨_,_,J,BQ X.o,?_⟩⟩;refine⟨_,results_none J _ _ _,⟨_,J⟩,?_⟩;exact Qc.o.putObj _ HI.o.1 HD.o X.o J
