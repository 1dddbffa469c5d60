import Derived.Test.YtcahejkcdcjjgaaGreatDoorS25
set_option linter.all false
open Go.Value renaming slice->E,bool->F,pointer->H,string->P
open Go renaming World->G,undef->L,Value->N
open Go.Obj renaming cells->C
open Go.Proofs.Tryz renaming prog->I
set_option maxRecDepth 99999
set_option maxHeartbeats 0
namespace Go.Proofs.YtcahejkcdcjjgaaGreatDoor
open Proofs.Tryz
open Go.RowKit Go.Shelf
attribute [local go_sem] Oper.semAt_some
def Tk(n c:Nat)(w:G):Calls I 69 #[E none n c] w λe d=>e=.returned (E none 0 0)/\d=w:=by
 have f:∀(w:G) (a:WO) (n c b c':Nat),(binOp .eql 23 (E a n c) (E none b c')).run I w=.ok (F a.isNone) w:=λw a n c b c'=>DG w _ _ a n c b c' underlying23;go_enter func69,ntmps69
 go_wp2;go_ret;exact⟨J,J⟩
def Tl(p:Addr)(n c:Nat)(xs:List N)(w:G)(y:n<=1099511627776)(hl:xs.length=n*4)(g:∀j u,xs[j]?=some u->w.cell? (p.add j)=some u)(f:∀u∈xs,u.oneCell'=true):
 Calls I 69 #[E (some p) n c] w λe i=>∃b,e=.returned b/\i.ownsRow w.heap.size 38 4 b n xs/\Bl w i:=by
 obtain⟨x,m,s,t,v⟩:=info_parts Tryz.infoRat;have D:∀(w:G) (a:WO) (n c d c':Nat),(binOp .eql 23 (E a n c) (E none d c')).run I w=.ok (F a.isNone) w:=λw a n c d c'=>DG w _ _ a n c d c' underlying23;obtain⟨A,B,C⟩:=Dm g f hl;clear g f hl;go_enter func69,ntmps69
 go_wp2_with(at_builtin;refine wpList_append_own _ J _ _ 23 J w.heap.size 38 x (.agg #[F false,E none 0 0,F false,E none 0 0]) 4 64 underlying23 m s t v J DV _ _ _ J (World.ownsRow_made w #[] 0 (Aa _) (AN _) J) p n c xs J ?qc1 ?qc2 ?qc3 ?qc4 ?qc5 ?qc6 ?_)
 case qc1=>exact C.o
 case qc2=>intro j u o;exact Lib.cell?_alloc_some _ (A.o j u o)
 case qc3=>exact B.o
 case qc4=>unfold maxLen;omega
 case qc5=>omega
 case qc6=>simp
 intro b K r l z;go_wp2;go_ret;refine⟨b,J,by simpa using r,?_⟩;exact(Ba w _).grown l DQ (by intro k q;simp[Value.ownBlock]at q;omega)
theorem Tm(v:N)(qs:Y)(w:G)(h:RowK true w v qs):Calls I 69 #[v] w λe f=>∃u,e=.returned u/\RowK true f u qs/\I3 w.heap.size u/\Bl w f/\(u=E none 0 0\/∃g cap,u=E (some ⟨g,0,none⟩) qs.length cap/\w.heap.size<=g/\Dg true f g qs):=by
 obtain⟨a,cap,rfl,B,D,m,i⟩:=h;rcases a with _|p
 . refine(Tk _ _ w).mono ?_;rintro e f ⟨rfl,rfl⟩;have z:qs=[]:=by
    grind
   subst z;exact⟨_,J,RowK.nil _ _,λa l c e=>(by cases e),BL _ _,Az J⟩
 . have o:∃cs,YN true w cs qs/\∀j u,cs[j]?=some u->w.cell? (p.add j)=some u:=by
    rcases i with i|⟨b,q,x⟩
    . rw[i];exact⟨[],YN.nil _ _,λj u e=>by simp at e⟩
    . cases q;obtain⟨cs,d,k⟩:=x.cells;refine⟨cs,d,λj u e=>?_⟩;rw[LC,Ch];exact k j u e
   obtain⟨cs,d,k⟩:=o;refine(Tl p qs.length cap cs w m d.1 k d.one).mono ?_;rintro e f ⟨A,rfl,y,n⟩;obtain⟨s,_,t⟩:=RowK.owns (r:=true) y (d.below n) m;refine⟨A,J,s,λa l c e=>?_,n,t⟩;grind
def OQ{W:G}{B:Nat}(q:Jr W B 38 (F false) (E none 0 0) (F false) (E none 0 0)){v:N}{p:Rat}(h:Jg W v p)(x y z u:N):Jg (put4 W B x y z u) v p:=h.put4 q J J J J _ _ _ _
def Tn(v:N)(q:Rat)(w:G)(h:Jg w v q)(g:Sq q):
 Calls I 79 #[v] w λe K=>∃u,e=.returned u/\Jj K u (Jh [q])/\I4 w.heap.size u/\Bl w K:=by
 obtain⟨s,a,l,c,t,b,k,d,rfl⟩:=h.form;obtain⟨W0,f⟩:=ex ((w.alloc (C #[F s,E a l c,F t,E b k d] 38)).alloc (C #[E none 0 0] 25));have b0:Jr W0 w.heap.size 38 (F s) (E a l c) (F t) (E b k d):=by rw[<-f];exact(Jr.new w _ _ _ _ _).alloc _
 have T:Boxed W0 (w.heap.size+1) 25 (E none 0 0):=by rw[<-f];have:=Bb (w.alloc (C #[F s,E a l c,F t,E b k d] 38)) 25 (E none 0 0);simpa using this
 have r:Bl w W0:=by rw[<-f];exact(Ba w _).alloc DQ _
 obtain⟨m,o⟩:=ex (W0.alloc (C #[F s,E a l c,F t,E b k d] 38));have A:Bl W0 m:=by rw[<-o];exact Ba W0 _
 have B:Dg true m W0.heap.size [q]:=by
  refine⟨#[F s,E a l c,F t,E b k d],by rw[<-o];exact BV W0 _,λj W=>?_⟩;have M:j=0:=by simpa using W
  subst M;exact⟨_,_,_,_,J,J,J,J,by rw[J5];exact(h.below r).below A⟩
 have z:RowK true m (E (some ⟨W0.heap.size,0,none⟩) 1 1) [q]:=by
  have:=B.row (n:=1) (cap:=1) DQ (Aa _) Z Z;simpa using this
 have y:=Ja (X0 _ [q] m z (Sqs.of λi=>by
  cases i with
   |zero=>rw[J5];exact g
   |succ i=>rw[JN,Yq];exact FW))
 have Q:=Ja f;have R:=Ja o;obtain⟨k0,k1,k2,k3⟩:=b0.cq;clear f o h g B z;go_enter func79,ntmps79
 go_upto_region 1 with fail
 rw[Q.o];go_wp2_with(go_at_call 65;rw[R.o];refine y.o.mono ?_;clear y;rintro e w2 ⟨u2,rfl,D,V,U⟩;obtain⟨ua,ul,uc,rfl⟩:=D.form;have g:=Bt A U;have x:=boxed_below T g;have X:=x.cell;have f9:=x.frozen)
 refine BM (v:=.agg #[E ua ul uc]) (by simp[results,results79,go_sem,X]) J ⟨_,J,⟨_,J,X7 x _ D.row⟩,?_,(Bt r g).setCell (p:=⟨w.heap.size+1,0,none⟩) DQ _⟩;intro S l' c' e;have:=V W0.heap.size (λa l c e=>by cases e;exact Aa _) S l' c' e;have h2:=r.size;omega
namespace M3
def Lm(V:G)(t:N)(q:Rat):Prop:=∃v,t=.iface 38 v/\Jg V v q
def Lm.below{V V':G}{t:N}{q:Rat}(h:Lm V t q)(b:Bl V V'):Lm V' t q:=by
 obtain⟨v,e,a⟩:=h;exact⟨v,e,a.below b⟩
def OR(v:N)(V:G):(method 371 38 v "Times").run I V=.ok (41,v) V:=by kernel_rfl
def OS(v:N)(V:G):(method 371 38 v "Plus").run I V=.ok (40,v) V:=by kernel_rfl
def Xy(ps qs:Y):Prop:=(∀i a,Sq (cf ps i*cf qs a))/\∀n i a k,Sq (cf (Yb (Yr ps qs n i) i (cf ps i) qs a) k)
def To(a b:WO)(la ca lb cb:Nat)(ps qs:Y)(w:G)(ha:RowK true w (E a la ca) ps)(hb:RowK true w (E b lb cb) qs)(ap:Sqs ps)(aq:Sqs qs)(an:Xy ps qs)(bk:ps.length+qs.length<=1099511627776):
 Calls I 68 #[E a la ca,E b lb cb] w λe w'=>∃v g,e=.returned v/\RowK true w' v g/\(∀c,cf g c=cf (D0 ps qs) c)/\Sqs g/\I3 w.heap.size v/\Bl w w':=by
 obtain⟨ak,bf,bh,ce,s,t,aa,bb,ll,cc,kk,dd,hc⟩:=ha.forms;obtain⟨am,bg,bi,cg,s',t',az,ba,bt,bc,bn,bd,aj⟩:=hb.forms;obtain⟨n,hn⟩:∃n:Nat,max (0:Int) ((la:Int)+(lb:Int)-1)=(n:Int):=⟨(max (0:Int) ((la:Int)+(lb:Int)-1)).toNat,Z⟩;have co:n<=1099511627776:=Z
 obtain⟨HN,bu,HC,ay,HP,HQ,HK,Qg⟩:=Gw (show la+lb<=n+1 from by omega) (show la+lb=0\/n+1=la+lb from by omega) hc aj ap aq an ak;have Qh:=Ja am;have Qs:=Hu n Z w;have M0:DS w (w.alloc (C (Yh n) 38)) [some (w.heap.size,.rats (List.replicate n 0))]:=M3.DS.push (M3.DS.nil w) (.rats (List.replicate n 0)) (by
  obtain⟨cs,q,h2⟩:=Lj n w;refine⟨Yh n,J,λc hj=>?_⟩;rw[AC]at hj;obtain⟨h0,q,h2,h3⟩:=I5 hj;exact⟨_,_,_,_,h0,q,h2,h3,by rw[JQ];exact XK _⟩)
 obtain⟨W0,ai⟩:=ex (w.alloc (C (Yh n) 38));rw[ai]at M0 Qs;have Qq:=Ja M0;clear M0 ai ha hb ap aq ak am bf bh bg bi an hc aj bk;go_enter func68,ntmps68
 go_wp2;go_loopw [20] (λi wr=>∃(k:Nat),k<=la/\i=.int .i64 (k:Int)/\Hid (DS w wr [some (w.heap.size,.rats (Yr ps qs n k))])) λi _=>la-(intOf i).toNat
 case atStart=>exact⟨0,AN _,J,Qq⟩
 case round=>
  obtain⟨k,hk,rfl,o⟩:=hrel;by_cases bm:k<la
  . have cj:(k:Int)<(la:Int):=Z
    obtain⟨W,bx,rfl,ae,r,u,x,y⟩:=HC.o k bm;have d:=o.o.2.2;have z:=Ja (W.below d);replace r:=(d.cell (p:=⟨bx,_,none⟩) ae).trans r;replace u:=(d.cell (p:=⟨bx,_,none⟩) ae).trans u;replace x:=(d.cell (p:=⟨bx,_,none⟩) ae).trans x;replace y:=(d.cell (p:=⟨bx,_,none⟩) ae).trans y;clear W d;obtain⟨s1,T⟩:=ex (s k);obtain⟨t1,U⟩:=ex (t k);obtain⟨a1,D⟩:=ex (aa k);obtain⟨b1,K⟩:=ex (bb k);obtain⟨l1,R⟩:=ex (ll k);obtain⟨c1,M⟩:=ex (cc k);obtain⟨m1,S⟩:=ex (kk k);obtain⟨d1,Q⟩:=ex (dd k);rw[T,U,D,K,R,M,S,Q]at z;rw[T]at r;rw[D,R,M]at u;rw[U]at x;rw[K,S,Q]at y;clear T U D K R M S Q;go_upto_region 5 with fail
    have l:DS w (wr.alloc (C #[F s1,E a1 l1 c1,F t1,E b1 m1 d1] 38)) [some (w.heap.size,.rats (Yr ps qs n k)),some (wr.heap.size,.rat (cf ps k))]:=M3.DS.push o.o (.rat (cf ps k)) z.o;obtain⟨V1,B⟩:=ex (wr.alloc (C #[F s1,E a1 l1 c1,F t1,E b1 m1 d1] 38));obtain⟨B1,A⟩:=ex (wr.heap.size);rw[B,A]at l;rw[B];rw[A];have Qt:=Ja l;clear l B A o z r u x y;go_wp2_with fail
    go_loopw [27] (λi wr=>∃(c:Nat),c<=lb/\i=.int .i64 (c:Int)/\Hid (DS w wr [some (w.heap.size,.rats (Yb (Yr ps qs n k) k (cf ps k) qs c)),some (B1,.rat (cf ps k))])) λi _=>lb-(intOf i).toNat
    case atStart=>exact⟨0,AN _,J,Qt⟩
    case round=>
     obtain⟨c,hj,rfl,o⟩:=hrel;by_cases bj:c<lb
     . have bz:(c:Int)<(lb:Int):=Z
       obtain⟨W,ad,rfl,ah,r,u,x,y⟩:=ay.o c bj;have d:=o.o.2.2;have z:=Ja (W.below d);replace r:=(d.cell (p:=⟨ad,_,none⟩) ah).trans r;replace u:=(d.cell (p:=⟨ad,_,none⟩) ah).trans u;replace x:=(d.cell (p:=⟨ad,_,none⟩) ah).trans x;replace y:=(d.cell (p:=⟨ad,_,none⟩) ah).trans y;clear W d;obtain⟨s2,T⟩:=ex (s' c);obtain⟨t2,U⟩:=ex (t' c);obtain⟨a2,D⟩:=ex (az c);obtain⟨b2,K⟩:=ex (ba c);obtain⟨l2,R⟩:=ex (bt c);obtain⟨c2,M⟩:=ex (bc c);obtain⟨m2,S⟩:=ex (bn c);obtain⟨d2,Q⟩:=ex (bd c);rw[T,U,D,K,R,M,S,Q]at z;rw[T]at r;rw[D,R,M]at u;rw[U]at x;rw[K,S,Q]at y;clear T U D K R M S Q;go_upto_region 8 with fail
       have l:DS w (wr.alloc (C #[F s2,E a2 l2 c2,F t2,E b2 m2 d2] 38)) [some (w.heap.size,.rats (Yb (Yr ps qs n k) k (cf ps k) qs c)),some (B1,.rat (cf ps k)),some (wr.heap.size,.rat (cf qs c))]:=M3.DS.push o.o (.rat (cf qs c)) z.o;obtain⟨V2,B⟩:=ex (wr.alloc (C #[F s2,E a2 l2 c2,F t2,E b2 m2 d2] 38));obtain⟨B2,A⟩:=ex (wr.heap.size);rw[B,A]at l;rw[B];rw[A];have Qc:=Ja l;clear l B A o z r u x y;have Qk:(k:Int)+(c:Int)<(n:Int):=by have:=HN.o;omega
       have Qe:(0:Int)<=(k:Int)+(c:Int):=Z
       have Qd:=Ja (show k+c<n by omega);have Qa:(k:Int)+(c:Int)=((k+c:Nat):Int):=Z
       obtain⟨m,hm⟩:=ex (k+c);rw[hm]at Qd Qa;have HM:=Ja hm;have cn:(m:Int)<(n:Int):=by have:=Qd.o;omega
       have cr:IntKind.i64.wrap (m:Int)=(m:Int):=by rw[C9];omega
       obtain⟨g,X⟩:=ex (Yb (Yr ps qs n k) k (cf ps k) qs c);rw[X]at Qc;obtain⟨Qf,Qm,Qr,Qp⟩:=Dw (show m<g.length by rw[<-X,YU,KV];exact Qd.o) X (show Sq (cf g m)by rw[<-X];exact HK.o.2 n k c m) (HK.o.1 k c);have Qj:=Qc.o.drew;clear hm X Qc Qk Qe;refine Et Dl [[],[],[],[1,2],[],[],[],[5,6],[4,7],[8],[9],[],[11],[],[12,13],[10,14,14],[0,3,0,1,2,3,4,5,6,7,8,9,10,11,12,13,14,15],[16,15,15,0,1,2,3,4,5,6,7,8,9,10,11,12,13,14,15]] [.eq (E (some ⟨w.heap.size,0,none⟩) n n),.eq (.int .i64 (k:Int)),.eq (.int .i64 (c:Int)),.eq (.int .i64 (m:Int)),.eq (E (some ⟨w.heap.size,0,none⟩) n n),.eq (.int .i64 (k:Int)),.eq (.int .i64 (c:Int)),.eq (.int .i64 (m:Int)),.eq (H (some ⟨w.heap.size,m*4,none⟩)),.rat (cf g m),.ifq (cf g m),.rat (cf ps k),.ifq (cf ps k),.rat (cf qs c),.rat (cf ps k*cf qs c),.rat (cf g m+cf ps k*cf qs c),.eq (H (some ⟨w.heap.size,m*4,none⟩)),.eq L] [17] (λb _ V=>DS w V [some (w.heap.size,if b.getD 0 false then .rats (g.set m (cf g m+cf ps k*cf qs c))else .rats g),some (B1,.rat (cf ps k)),some (B2,.rat (cf qs c))]) Qj (WR (.vl J λ_ _=>mv)<|WR (.vl J λ_ _=>mv)<|WR (.vl J λ_ _=>mv)<|WR (.vl J λh _=>⟨_,by refine Db ?_;rw[h.e 1,h.e 2];go_simp,J⟩)<|WR (.vl J λ_ _=>mv)<|WR (.vl J λ_ _=>mv)<|WR (.vl J λ_ _=>mv)<|WR (.vl J λh _=>⟨_,by refine Db ?_;rw[h.e 5,h.e 6];go_simp,J⟩)<|WR (.vl J λh _=>⟨_,by refine Db ?_;rw[h.e 4,h.e 7];go_simp,J⟩)<|WR (.vl J λh j=>Lf 0 j Qf.o (h.e 8))<|WR (.vl J λh _=>mi (h.g 9))<|WR (.vl J λ_ j=>Eg 1 j)<|WR (.vl J λh _=>mi (h.g 11))<|WR (.vl J λ_ j=>Eg 2 j)<|WR (.ci J fun {_ V _} h j=>by obtain⟨y0,e,g0⟩:=h.g 12;have Qo:=OR y0 V;exact⟨_,by refine Db ?_;rw[e];go_simp,Ga _ _ (cf ps k) (cf qs c) V g0 (h.g 13) (HP.o.at k) (HQ.o.at c)⟩)<|WR (.ci J fun {_ V _} h j=>by obtain⟨y0,e,g0⟩:=h.g 10;have Qo:=OS y0 V;exact⟨_,by refine Db ?_;rw[e];go_simp,Xx _ _ (cf g m) (cf ps k*cf qs c) V g0 (h.g 14) Qr.o Qp.o⟩)<|WR (.vl J λh _=>⟨_,by refine Db ?_;rw[h.e 0,h.e 3];go_simp,J⟩)<|WR (.wr J λh j=>Lg 0 j Qf.o (h.g 15) (h.e 16)) Stp.end_)
        λf V hF l=>?_
       refine Db ?_;rw[hF.e 0,hF.e 1,hF.e 2,hF.e 3,hF.e 4,hF.e 5,hF.e 6,hF.e 7,hF.e 8,hF.e 16];have l:=FI l;have Qn:=Ja l;clear l hF;go_wp2_with fail
       go_roundw
       case rel=>
        refine⟨c+1,Z,by go_num,Ja ?_⟩;have q:=Qn.o.take 2;rw[<-HM.o,<-Qm.o]at q;exact q
       case measure=>simp[intOf];omega
     . have Ql:c=lb:=Z
       subst Ql;go_wp2_with fail
       go_roundw
       case rel=>
        refine⟨k+1,Z,by go_num,Ja ?_⟩;have q:=o.o.take 1;rw[Qh.o]at q;exact q
       case measure=>simp[intOf];omega
  . have Qi:k=la:=Z
    subst Qi;go_wp2;go_ret;have hE:=o.o.rats (i:=0) J;have ck:=KV ps qs n k;have Qb:=hE.row (n:=n) (cap:=n) Z (Aa _) Z Z;rw[Ad Z]at Qb;refine⟨_,_,J,Qb,λc=>?_,Sqs.of λi=>?_,λa' l' c' e=>(by cases e;exact Aa _),o.o.2.2⟩
    . rw[Qg.o,KW _ _ _ _ _ (AE (by have:=HN.o;have h2:=Qh.o;have q:=Qg.o;omega)),Fs]
    . exact HK.o.2 n k 0 i
def EC(qs:Y)(x:Rat):Prop:=∀n,Sq (ev (qs.drop n) x)/\Sq (ev (qs.drop n) x*x)
theorem Tp(qs:Y)(x:Rat){m:Nat}(h:m<qs.length):ev (qs.drop (m+1)) x*x+cf qs m=ev (qs.drop m) x:=by
 rw[Ay h,ev,KO h];grind
def Hy(w:G)(a:WO)(len cap:Nat)(qs:Y)(x:Rat)(k:Nat):List (Option (Nat × Dat)):=
 [some (w.heap.size,.rat x),some (w.heap.size+1,.rat 0),some (w.heap.size+1+1,.rat (ev (qs.drop (len-k)) x)),some (w.heap.size+1+1+1,.cell 23 (E a len cap))]
def Tq(w:G)(a:WO)(len cap:Nat)(qs:Y)(x:Rat)(k:Nat)(W:G):Prop:=DS w W (Hy w a len cap qs x k)
theorem Tr(a:WO)(len cap:Nat)(qs:Y)(vx:N)(x:Rat)(w:G)(h:RowK true w (E a len cap) qs)(hx:Jg w vx x)(hs:Sqs qs)(ak:Sq x)(ai:EC qs x):
 Calls I 76 #[E a len cap,vx] w λe w'=>∃u,e=.returned u/\Jg w' u (ev qs x)/\Bl w w':=by
 obtain⟨xs,xa,xl,xc,xt,xb,xk,xd,rfl⟩:=hx.form;obtain⟨hl,bn,bt,an,s,t,aa,bb,ll,cc,kk,dd,hc⟩:=h.forms;obtain⟨HL,HC,HS,Qi,HK,HX⟩:=Ik hl hc hs ak ai hx;clear hc hl hs ak ai hx h;refine(Be (n:=3)).1 ?_;refine Bn func76 J trivial ?_ J;simp only[ntmps76,Ak,Ag,AB,Nat.reduceAdd,Nat.reduceSub,An,Ao,Ax,Ap,Al,Aw];gi_wp2_with(refine⟨trivial,?_⟩;gi_at_call 50;refine(I2 Fence.wide _ trivial J _ _ _ _).mono ?_;rintro e w' ⟨rfl,rfl⟩)
 have M0:DS w _ _:=((((DS.nil w).push (.rat x) HX.o).push (.rat 0) (XK _)).push (.rat 0) (XK _)).push (.cell 23 (E a len cap)) (cs:=#[E a len cap]) ⟨J,J⟩;simp only[A1]at M0;obtain⟨W0,U⟩:=ex ((((w.alloc (C #[F xs,E xa xl xc,F xt,E xb xk xd] 38)).alloc (C #[F false,E none 0 0,F false,E none 0 0] 38)).alloc (C #[F false,E none 0 0,F false,E none 0 0] 38)).alloc (C #[E a len cap] 23));have hN:W0.heap.size=w.heap.size+1+1+1+1:=by rw[<-U];simp
 have M1:DS w W0 (Hy w a len cap qs x 0):=by
  rw[<-U];unfold Hy;rw[show ev (qs.drop (len-0)) x=0 from by rw[AF (by have:=HL.o;omega)];rfl];exact M0
 have aq:=Ja U;rw[U];clear M0 U;refine XS J Z (gf:=94) (lb:=#[H (some ⟨w.heap.size+1+1+1,0,none⟩)]) J trivial (DF func94 WS J)
  (I1 Fence.wide _ trivial J Z (w.heap.size+1+1+1) a len cap (λj=>F (s j)) (λj=>E (aa j) (ll j) (cc j)) (λj=>F (t j)) (λj=>E (bb j) (kk j) (dd j)) an) (λ_=>rfl)
  (Tq w a len cap qs x) (λ_ _ _=>False) (Tj Z _) (λc s W W' row h=>h.elim) M1 ?rd
  (λk b=>{ tmps:=#[E a len cap,.agg #[F xs,E xa xl xc,F xt,E xb xk xd],L,H (some ⟨w.heap.size,0,none⟩),H (some ⟨w.heap.size+1,0,none⟩),H (some ⟨w.heap.size+1+1,0,none⟩),L,H (some ⟨b,0,none⟩),E a len cap,.func (.func 94) #[] #[H (some ⟨w.heap.size+1+1+1,0,none⟩)],.int .i64 ((len:Int)-1-k),.agg #[F (s (len-1-k)),E (aa (len-1-k)) (ll (len-1-k)) (cc (len-1-k)),F (t (len-1-k)),E (bb (len-1-k)) (kk (len-1-k)) (dd (len-1-k))],L,L,L,L,L,L,L,L],defers:=[] })
  (λk=>C #[F (s (len-1-k)),E (aa (len-1-k)) (ll (len-1-k)) (cc (len-1-k)),F (t (len-1-k)),E (bb (len-1-k)) (kk (len-1-k)) (dd (len-1-k))] 38 (0,0)) ?assign ?body ?done ?stop
 case stop=>intro D c k W _ _ h;exact h.elim
 case rd=>
  intro k W M;have hB:=M.2.2;refine⟨(DS.cell M (i:=3) J).1.cell,λhk=>?_⟩;obtain⟨_,b,ea,hb,h1,X,h3,h4⟩:=HC.o (len-1-k) Z;exact⟨b,ea,(hB.cell (p:=⟨b,_,none⟩) hb).trans h1,(hB.cell (p:=⟨b,_,none⟩) hb).trans X,(hB.cell (p:=⟨b,_,none⟩) hb).trans h3,(hB.cell (p:=⟨b,_,none⟩) hb).trans h4⟩
 case assign=>
  intro l k W K hK;unfold Gb;gi_wp2;exact hK
 case body=>
  intro l k b W M hk ap am ad;have hm:len-1-k<len:=Z
  obtain⟨hi,_⟩:=HC.o (len-1-k) hm;have d:=DS.with M (.rat (cf qs (len-1-k))) ad (hi.below M.2.2) Z (λi B d' e=>by
   grind[Hy])
  have ek:len-k=len-1-k+1:=Z
  unfold Hy at d;rw[ek]at d;have Qe:=Ja (show len-(k+1)=len-1-k by omega);clear hi ad M ap am ek;obtain⟨m,ah⟩:=ex (len-1-k);rw[ah]at d hm Qe ⊢;have HM:=Ja (show m<qs.length by have:=HL.o;omega);have d:DS w W [some (w.heap.size,.rat x),some (w.heap.size+1,.rat 0),some (w.heap.size+1+1,.rat (ev (qs.drop (m+1)) x)),some (w.heap.size+1+1+1,.cell 23 (E a len cap)),some (b,.rat (cf qs m))]:=d;obtain⟨Qd,Qf,Qc⟩:=Dm (show Sq (ev (qs.drop (m+1)) x)/\Sq (ev (qs.drop (m+1)) x*x)from HK.o (m+1)) (HS.o.at m) (Tp qs x HM.o);obtain⟨sm,aj⟩:=ex (ev (qs.drop (m+1)) x);rw[aj]at d Qd Qc;obtain⟨z,ae⟩:∃y,cf qs m=y:=⟨_,J⟩;rw[ae]at d Qf Qc;have Qh:FY w W W.drew [some (w.heap.size,.rat x),some (w.heap.size+1,.rat 0),some (w.heap.size+1+1,.rat sm),some (w.heap.size+1+1+1,.cell 23 (E a len cap)),some (b,.rat z)]:=FY.drew ⟨d,DL W⟩;clear d aj ae ah;gi_wp2_with fail
  refine Iw (AE ⟨l,J⟩) Dl [[],[0],[],[1,2],[3],[],[4,5],List.range 7] [.rat sm,.ifq sm,.rat x,.rat (sm*x),.ifq (sm*x),.rat z,.rat (sm*x+z),.eq L] [7] (λo _ V=>FY w W V [some (w.heap.size,.rat x),some (w.heap.size+1,.rat 0),some (w.heap.size+1+1,.rat (if o.getD 0 false then sm*x+z else sm)),some (w.heap.size+1+1+1,.cell 23 (E a len cap)),some (b,.rat z)]) Qh (WR (.vl J λ_ j=>Eg 2 j.1)<|WR (.vl J λh _=>mi (h.g 0))<|WR (.vl J λ_ j=>Eg 0 j.1)<|WR (.ci J fun {_ V _} h _=>by obtain⟨y0,e,A⟩:=h.g 1;have Qj:=OR y0 V;exact⟨_,by refine Db ?_;rw[e];go_simp,Ga _ _ sm x _ A (h.g 2) Qd.o.1 Qi.o⟩)<|WR (.vl J λh _=>mi (h.g 3))<|WR (.vl J λ_ j=>Eg 4 j.1)<|WR (.ci J fun {_ V _} h _=>by obtain⟨y0,e,A⟩:=h.g 4;have Qj:=OS y0 V;exact⟨_,by refine Db ?_;rw[e];go_simp,Xx _ _ (sm*x) z _ A (h.g 5) Qd.o.2 Qf.o⟩)<|WR (.wr J λh j=>N4 2 j.1 (h.g 6) (hT:=λ_ m=>⟨m,j.2.trans (Ll _ _ _ _ _ _)⟩)) Stp.end_)
   λf V hF X=>?_
  refine⟨X.2.from _,?_⟩;have h3:=X.1.take 4;rw[Qc.o,<-Qe.o]at h3;exact h3
 case done=>
  intro D W hD M hK;have M:DS w W [some (w.heap.size,.rat x),some (w.heap.size+1,.rat 0),some (w.heap.size+1+1,.rat (ev (qs.drop (len-len)) x)),some (w.heap.size+1+1+1,.cell 23 (E a len cap))]:=M;rw[show qs.drop (len-len)=qs from by rw[A3];rfl]at M;obtain⟨S,g,R,c1,T,v,Q,d1,n1,r1,i1,j1⟩:=M.rat (i:=2) J;obtain⟨s2,a2,l2,c2,t2,b2,k2,d2,n2,r2,i2,j2⟩:=M.rat (i:=1) J;obtain⟨ay,az,ba,bc⟩:=n1.cq;obtain⟨bd,bf,bg,bh⟩:=n2.cq;obtain⟨bi,bj,bk,bm⟩:=n2.fq;have HR:=Ja r1;have HB:=Ja M.2.2;clear r1 i1 j1 r2 i2 j2 M;gi_wp2;have Qb:(put4 W (w.heap.size+1) (F S) (E g R c1) (F T) (E v Q d1)).heap[D]?=some (.deferred (some [])):=(Ll W (w.heap.size+1) _ _ _ _).same D _ hK J;refine⟨DQ,.inl ⟨_,_,J,Bq Qb,?_⟩⟩;have q:=n2.put (F S) (E g R c1) (F T) (E v Q d1);have hg:=Bp (put4 W (w.heap.size+1) (F S) (E g R c1) (F T) (E v Q d1)) D (.deferred none);have Qg:∀r,some D=some r->∃o:Obj,(put4 W (w.heap.size+1) (F S) (E g R c1) (F T) (E v Q d1)).heap[r]?=some o/\o.isCells=false:=λr e=>by cases e;exact⟨_,Qb,J⟩
  have q2:Jr _ (w.heap.size+1) 38 (F S) (E g R c1) (F T) (E v Q d1):=Xg hg Qg q;obtain⟨A,g1,g2,g3⟩:=q2.cq;unfold put4 at A g1 g2 g3;refine⟨.agg #[F S,E g R c1,F T,E v Q d1],by simp[results,results76,go_sem,A,g1,g2,g3],_,J,?_,?_⟩
  . exact Dr.keep (r:=true) (Jg.put4 HR.o n2 J J J J _ _ _ _) λ_ _ _ h=>Lk hg Qg h
  . exact(Js HB.o Z _ _ _ _).trans (DP (w:=w) (Aa _) _ D _ _ Z Qb J J)
def Y3(A B:N)(ps qs:Y)(w:G)(i:Jj w A ps)(k:Jj w B qs)(t:Sqs ps)(y:Sqs qs)(s:Xy ps qs)(r:ps.length+qs.length<=1099511627776):
 Calls I 28 #[A,B] w λe D=>∃u,e=.returned u/\Jj D u (JM ps qs)/\I4 w.heap.size u/\Bl w D:=by
 obtain⟨u,rfl,i⟩:=i;obtain⟨v,rfl,k⟩:=k;obtain⟨a,la,f,rfl⟩:=i.form;obtain⟨b,lb,g,rfl⟩:=k.form;obtain⟨W0,c⟩:=ex (((w.alloc (C #[E a la f] 25)).alloc (C #[E b lb g] 25)).alloc (C #[E none 0 0] 25));have b0:Boxed W0 w.heap.size 25 (E a la f):=by rw[<-c];exact((Bb w _ _).alloc _).alloc _
 have R:Boxed W0 (w.heap.size+1) 25 (E b lb g):=by rw[<-c];have:=(Bb (w.alloc (C #[E a la f] 25)) 25 (E b lb g)).alloc (C #[E none 0 0] 25);simpa using this
 have S:Boxed W0 (w.heap.size+1+1) 25 (E none 0 0):=by rw[<-c];have:=Bb ((w.alloc (C #[E a la f] 25)).alloc (C #[E b lb g] 25)) 25 (E none 0 0);simpa using this
 have l:Bl w W0:=by rw[<-c];exact((Ba w _).alloc DQ _).alloc si _
 obtain⟨o,q,M⟩:=Dm (To a b la f lb g ps qs W0 (i.below l) (k.below l) t y s r) (λ(V:G) (v:N) (d:Y) (h:RowK true V v d) (hs:Sqs d)=>X0 v d V h hs) c;have k0:=b0.cell;have k1:=R.cell;clear c i k t y s r;go_enter func28,ntmps28
 go_upto_region 1 with fail
 rw[M.o];go_wp2_with(first
  |(go_at_call 68;refine o.o.mono ?_;clear o;rintro e w1 ⟨v1,d,rfl,ae,z,ah,X,U⟩;have K:=Ja z;clear z)
  |(go_at_call 65;refine(q.o _ _ d ae ah).mono ?_;clear q;rintro e w2 ⟨u2,rfl,n,ad,W⟩;obtain⟨a9,l9,c9,rfl⟩:=n.form;have x:=Bt U W;have m:=boxed_below S x;have k2:=m.cell;have f2:=m.frozen))
 have T:Jh d=JM ps qs:=X8 λj=>K.o j;rw[T]at n;refine BM (by simp[results,results28,go_sem,k2]) J ⟨_,J,⟨_,J,X7 m _ n.row⟩,?_,(Bt l x).setCell (p:=⟨w.heap.size+1+1,0,none⟩) si _⟩;intro Q l' c' e;have:=ad W0.heap.size X Q l' c' e;have h2:=l.size;omega
def Eu(v s:N)(ps:Y)(x:Rat)(w:G)(h:Jj w v ps)(f:Jg w s x)(hs:Sqs ps)(p:Sq x)(o:EC ps x):
 Calls I 34 #[v,s] w λe t=>∃u,e=.returned u/\Jg t u (ev ps x)/\Bl w t:=by
 obtain⟨u,rfl,d⟩:=h;obtain⟨a,l,c,rfl⟩:=d.form;obtain⟨s8,V,l8,c8,t8,b8,k8,d8,rfl⟩:=f.form;obtain⟨W0,z,y⟩:=Su 25 (.cell 25 (E a l c)) FB 38 (.rat x) f 38 (.rat 0) (XK _);have b:=y.o;obtain⟨s1,T,l1,c1,t1,X,k1,d1,Q,r,B,g⟩:=b.rat (i:=1) J;obtain⟨s2,U,l2,c2,t2,b2,k2,d2,R,S,D,j⟩:=b.rat (i:=2) J;have b0:=(b.cell (i:=0) J).1;have m:=Ja (Tr a l c ps _ x W0 (d.below b.2.2) r hs p o);have A:=b.2.2;have k0:=b0.cell;obtain⟨e0,e1,e2,e3⟩:=Q.cq;clear d hs p o f b r B g S D j;go_enter func34,ntmps34
 go_upto_region 1 with fail
 rw[z.o];go_wp2_with(go_at_call 76;refine m.o.mono ?_;clear m;rintro e w1 ⟨u,rfl,q,n⟩;have k:=R.below n;obtain⟨K,g,j,M⟩:=k.cq;obtain⟨f0,f1,f2,f3⟩:=k.fq;obtain⟨ak,W,aj,ae,am,ad,ai,ah,rfl⟩:=Jg.form q)
 exact BM (by simp[results,results34,go_sem,K,g,j,M]) J ⟨_,J,q.put4 k J J J J _ _ _ _,Js (Bt A n) Z _ _ _ _⟩
theorem Ln(n:Int)(y:-9223372036854775808<=n)(z:n<=9223372036854775807)(w:G):
 Calls I 77 #[.int .i64 n] w λe o=>∃u,e=.returned u/\Jg o u (n:Rat)/\Bl w o:=by
 have c:Bl w (w.alloc (C #[F false,E none 0 0,F false,E none 0 0] 38)):=Ba w _;have b0:=Jr.new w 38 (F false) (E none 0 0) (F false) (E none 0 0);obtain⟨W0,f⟩:=ex (w.alloc (C #[F false,E none 0 0,F false,E none 0 0] 38));rw[f]at c b0;obtain⟨p,i,j,q⟩:=Dw f (Iq n y z W0) (λ(V:G)=>Iq 1 Z Z V) (show Sok n from Sok.of (k:=2) (by unfold Sm O;omega) Z);have b:=Ja λ(V:G) (u v:N) (D:Ji V u n) (M:Ji V v 1)=>OB u v n 1 V D M q.o Sok.one;rw[show decide ((1:Int)≠0)=true from J,show Rat.divInt n 1=(n:Rat)from by rw[Rat.divInt_eq_div];grind]at b;clear f;go_enter func77,ntmps77
 go_upto_region 1 with fail
 rw[p.o];go_wp2_with(first
  |(go_at_call 110;refine i.o.mono ?_;clear i;rintro e w1 ⟨u1,rfl,d,A⟩)
  |(go_at_call 110;refine(j.o _).mono ?_;clear j;rintro e w2 ⟨u2,rfl,K,l⟩;have d:=d.below l)
  |(go_at_call 107;refine(b.o _ _ _ d K).mono ?_;clear b;rintro e w3 ⟨u3,rfl,m,B⟩;have a:=Bt (Bt A l) B;have n2:=(b0.below a).alloc (C #[F false,E none 0 0,F false,E none 0 0] 38);obtain⟨X,r,W,t,ad,s,U,x,rfl⟩:=Jg.form m;have g:=(b0.below a).alloc (C #[F X,E r W t,F ad,E s U x] 38);obtain⟨Q,R,S,T⟩:=g.cq;obtain⟨f0,f1,f2,f3⟩:=g.fq))
 exact BM (by simp[results,results77,go_sem,Q,R,S,T]) J ⟨_,J,(m.below (Ba _ _)).put4 g J J J J _ _ _ _,Js ((Bt c a).alloc (by have:=c.size;have:=a.size;omega) _) (Aa _) _ _ _ _⟩
end M3
abbrev Fl(w:G):Prop:=Lib.TabIs I w "internal/strconv.uint64pow10" .u64 Lib.pow10Tab
def Ts(n:Nat)(c:n<=9223372036854775807)(w:G)(b:Fl w):Calls I 58 #[.int .i64 (n:Int)] w λe a=>e=.returned (P ⟨(Xw n).toArray⟩)/\Bl w a:=by
 refine(Tryz.strconv_Itoa n Z Z w b).mono ?_;rintro e a ⟨rfl,k,os,rfl⟩;refine⟨?_,NJ w k os⟩;unfold Lib.itoa;rw[Bk Z,Cw,QN]
def Tt(s:ByteArray)(w:G):Calls I 96 #[P s,P ⟨#[45]⟩] w λe a=>e=.returned (.tuple #[P ⟨(JI (Jd s)).toArray⟩,F (decide ((Jd s).head?=some 45))])/\Bl w a:=by
 refine(Hc s w).mono ?_;rintro e a ⟨rfl,rfl⟩;exact⟨J,BL _ _⟩
def I7(a b:List UInt8):(⟨a.toArray⟩:ByteArray)++⟨b.toArray⟩=⟨(a++b).toArray⟩:=by
 apply ByteArray.ext;simp
def Tu(i:Nat)(p:i<=1099511627776)(w:G)(g:Fl w):
 Calls I 97 #[.int .i64 (i:Int)] w λe l=>e=.returned (P ⟨(FX i).toArray⟩)/\Bl w l:=by
 by_cases b:i=0
 . subst b;go_enter func97,ntmps97
   go_wp2;go_ret;exact⟨J,BL _ _⟩
 . by_cases c:i=1
   . subst c;go_enter func97,ntmps97
     go_wp2;go_ret;exact⟨J,BL _ _⟩
   . have a:=Ja (Ts i Z w g);have m:((i:Int)==0)=false:=by rw[Bz];omega
     have n:((i:Int)==1)=false:=by rw[Bz];omega
     have d:=Ja (show(⟨#[120,94]⟩:ByteArray)++⟨(Xw i).toArray⟩=⟨(FX i).toArray⟩by
      unfold FX;rw[Bk b,Bk c];exact I7 [120,94] (Xw i))
     have k:(⟨(Xw i).toArray⟩:ByteArray).size<=1000:=by
      show(Xw i).toArray.size<=_;rw[Ak];have:=Hi i;have o:(Jc O i).length<=1:=JL Jb uo;omega
     obtain⟨S,f⟩:∃S:ByteArray,⟨(Xw i).toArray⟩=S:=⟨_,J⟩;rw[f]at a d k;clear b c g f;go_enter func97,ntmps97
     go_wp2_with(go_at_call 58;refine a.o.mono ?_;clear a;rintro e q ⟨rfl,j⟩)
     go_ret;exact⟨by rw[<-d.o];rfl,j⟩
def OT(q:Rat):JI (Yf q)=Yf (D7 q)/\decide ((Yf q).head?=some 45)=decide (q<0):=by
 by_cases h:q<0
 . rw[OL h,Th h];refine⟨J,?_⟩;rw[Bi h];rfl
 . rw[OM h];have a:=Ti h;refine⟨by unfold JI;rw[Bk a],by rw[Bh a,Bh h]⟩
def OU(a b c:List UInt8):(⟨a.toArray⟩:ByteArray)++⟨b.toArray⟩++⟨c.toArray⟩=⟨(a++b++c).toArray⟩:=by rw[I7,I7]
def Xz{X Y:ByteArray}(h:X=Y):Ending.returned (P X)=.returned (P Y):=by rw[h]
def Tv(va:N)(q:Rat)(i:Nat)(first:Bool)(w:G)(W:Jg w va q)(hs:Sq q)(hi:i<=1099511627776)(ae:Fl w):
 Calls I 53 #[va,.int .i64 (i:Int),F first] w λe w'=>e=.returned (P ⟨(Xs q i first).toArray⟩)/\Bl w w':=by
 obtain⟨s,a,l,c,t,b,k,d,rfl⟩:=W.form;have b0:=Jr.new w 38 (F s) (E a l c) (F t) (E b k d);have r:Bl w (w.alloc (C #[F s,E a l c,F t,E b k d] 38)):=Ba w _;obtain⟨W0,U⟩:=ex (w.alloc (C #[F s,E a l c,F t,E b k d] 38));rw[U]at b0 r;obtain⟨y,j,g⟩:=Dm U (Tf _ q W0 (W.below r) hs (JB ae r)) λ(V:G)=>Tt ⟨(Yf q).toArray⟩ V;rw[show Jd ⟨(Yf q).toArray⟩=Yf q from by simp[Jd],(OT q).1,(OT q).2]at g;have m:=Ja λ(V:G) (h:Bl W0 V)=>Tu i hi V (JB (JB ae r) h);obtain⟨k0,k1,k2,k3⟩:=b0.cq;have T:(⟨(Yf (D7 q)).toArray⟩:ByteArray).size<=2000000000000:=by
  show(Yf (D7 q)).toArray.size<=_;rw[Ak];obtain⟨e1,e2⟩:=ON q;unfold Yf;have h1:=Hv (D7 q).num;have K:=Hv ((D7 q).den:Int);have h3:=hs.num.words;have h4:=hs.den.words;rw[e1,Int.natAbs_natCast]at h1;rw[e2]at K;rw[e1,e2];split
  . omega
  . rw[AV,Ag];omega
 have Qm:(⟨(FX i).toArray⟩:ByteArray).size<=2000:=by
  show(FX i).toArray.size<=_;rw[Ak];have h3:(Jc O i).length<=1:=JL Jb uo;have:=Hi i;unfold FX;split
  . simp
  . split
    . simp
    . simp only[Ag];omega
 obtain⟨ST,ai⟩:∃S:ByteArray,⟨(Yf q).toArray⟩=S:=⟨_,J⟩;obtain⟨v,ah⟩:∃S:ByteArray,⟨(FX i).toArray⟩=S:=⟨_,J⟩;obtain⟨bl,ad⟩:=ex (decide (q<0));rw[ai]at j g;rw[ad]at g;rw[ah]at m Qm;have Qj:=Ja ad;have Ql:=Ja ah;clear U W hs ae ai ad;obtain⟨Q,z⟩:∃S:ByteArray,⟨(Yf (D7 q)).toArray⟩=S:=⟨_,J⟩;have Qi:=Ja z;have u:=Ja (show(bl=true->(⟨#[45]⟩:ByteArray)++⟨(FC q i).toArray⟩++v=⟨(Xs q i first).toArray⟩)/\(bl=false->first=true->(⟨(FC q i).toArray⟩:ByteArray)++v=⟨(Xs q i first).toArray⟩)/\(bl=false->first=false->(⟨#[43]⟩:ByteArray)++⟨(FC q i).toArray⟩++v=⟨(Xs q i first).toArray⟩)by
  rw[<-Ql.o];have M:=Qj.o;refine⟨λh=>?_,λh K=>?_,λh K=>?_⟩
  . rw[h]at M;unfold Xs Hw;rw[Br (B3 M)];exact OU [45] _ _
  . rw[h]at M;unfold Xs Hw;rw[Bk (of_decide_eq_false M),K];exact(I7 _ _)
  . rw[h]at M;unfold Xs Hw;rw[Bk (of_decide_eq_false M),K];exact OU [43] _ _)
 by_cases x:Yf (D7 q)=[49]
 . by_cases R:0<i
   . have Qk:(0:Int)<(i:Int):=Z
     rw[show FC q i=[]from by unfold FC;rw[Br ⟨x,R⟩]]at u;rw[x]at g T;clear x R z Qi;cases bl
     . cases first
       . go_enter func53,ntmps53
         go_upto_region 1 with fail
         rw[y.o];go_wp2_with(first
          |(go_at_call 16;refine j.o.mono ?_;clear j;rintro e A ⟨rfl,n⟩)
          |(go_at_call 96;refine(g.o _).mono ?_;clear g;rintro e B ⟨rfl,o⟩;have f:=Bt n o)
          |(go_at_call 97;refine(m.o _ f).mono ?_;clear m;rintro e D ⟨rfl,p⟩))
         go_ret;refine⟨?_,Bt r (Bt f p)⟩;exact Xz (X:=(⟨#[43]⟩:ByteArray)++⟨#[]⟩++v) (u.o.2.2 (by first|rfl|trivial) (by first|rfl|trivial))
       . go_enter func53,ntmps53
         go_upto_region 1 with fail
         rw[y.o];go_wp2_with(first
          |(go_at_call 16;refine j.o.mono ?_;clear j;rintro e A ⟨rfl,n⟩)
          |(go_at_call 96;refine(g.o _).mono ?_;clear g;rintro e B ⟨rfl,o⟩;have f:=Bt n o)
          |(go_at_call 97;refine(m.o _ f).mono ?_;clear m;rintro e D ⟨rfl,p⟩))
         go_ret;refine⟨?_,Bt r (Bt f p)⟩;exact Xz (X:=(⟨#[]⟩:ByteArray)++v) (u.o.2.1 (by first|rfl|trivial) (by first|rfl|trivial))
     . go_enter func53,ntmps53
       go_upto_region 1 with fail
       rw[y.o];go_wp2_with(first
        |(go_at_call 16;refine j.o.mono ?_;clear j;rintro e A ⟨rfl,n⟩)
        |(go_at_call 96;refine(g.o _).mono ?_;clear g;rintro e B ⟨rfl,o⟩;have f:=Bt n o)
        |(go_at_call 97;refine(m.o _ f).mono ?_;clear m;rintro e D ⟨rfl,p⟩))
       go_ret;refine⟨?_,Bt r (Bt f p)⟩;exact Xz (X:=(⟨#[45]⟩:ByteArray)++⟨#[]⟩++v) (u.o.1 (by first|rfl|trivial))
   . have Qk:¬(0:Int)<(i:Int):=Z
     rw[show FC q i=[49]from by unfold FC;rw[Bk λh=>R h.2,x]]at u;rw[x]at g T;clear x R z Qi;cases bl
     . cases first
       . go_enter func53,ntmps53
         go_upto_region 1 with fail
         rw[y.o];go_wp2_with(first
          |(go_at_call 16;refine j.o.mono ?_;clear j;rintro e A ⟨rfl,n⟩)
          |(go_at_call 96;refine(g.o _).mono ?_;clear g;rintro e B ⟨rfl,o⟩;have f:=Bt n o)
          |(go_at_call 97;refine(m.o _ f).mono ?_;clear m;rintro e D ⟨rfl,p⟩))
         go_ret;refine⟨?_,Bt r (Bt f p)⟩;exact Xz (X:=(⟨#[43]⟩:ByteArray)++⟨#[49]⟩++v) (u.o.2.2 (by first|rfl|trivial) (by first|rfl|trivial))
       . go_enter func53,ntmps53
         go_upto_region 1 with fail
         rw[y.o];go_wp2_with(first
          |(go_at_call 16;refine j.o.mono ?_;clear j;rintro e A ⟨rfl,n⟩)
          |(go_at_call 96;refine(g.o _).mono ?_;clear g;rintro e B ⟨rfl,o⟩;have f:=Bt n o)
          |(go_at_call 97;refine(m.o _ f).mono ?_;clear m;rintro e D ⟨rfl,p⟩))
         go_ret;refine⟨?_,Bt r (Bt f p)⟩;exact Xz (X:=(⟨#[49]⟩:ByteArray)++v) (u.o.2.1 (by first|rfl|trivial) (by first|rfl|trivial))
     . go_enter func53,ntmps53
       go_upto_region 1 with fail
       rw[y.o];go_wp2_with(first
        |(go_at_call 16;refine j.o.mono ?_;clear j;rintro e A ⟨rfl,n⟩)
        |(go_at_call 96;refine(g.o _).mono ?_;clear g;rintro e B ⟨rfl,o⟩;have f:=Bt n o)
        |(go_at_call 97;refine(m.o _ f).mono ?_;clear m;rintro e D ⟨rfl,p⟩))
       go_ret;refine⟨?_,Bt r (Bt f p)⟩;exact Xz (X:=(⟨#[45]⟩:ByteArray)++⟨#[49]⟩++v) (u.o.1 (by first|rfl|trivial))
 . have Qh:¬Q=(⟨#[49]⟩:ByteArray):=by
    intro h;apply x;rw[<-z]at h;have K:=congrArg (λb:ByteArray=>b.data.toList) h;simpa using K
   have aj:¬Q.toList=[49]:=by
    rw[I6,<-z];simpa using x
   clear Qh;rw[show FC q i=Yf (D7 q)from by unfold FC;rw[Bk λh=>x h.1],z]at u;rw[z]at g T;clear x z;cases bl
   . cases first
     . go_enter func53,ntmps53
       go_upto_region 1 with fail
       rw[y.o];go_wp2_with(first
        |(go_at_call 16;refine j.o.mono ?_;clear j;rintro e A ⟨rfl,n⟩)
        |(go_at_call 96;refine(g.o _).mono ?_;clear g;rintro e B ⟨rfl,o⟩;have f:=Bt n o)
        |(go_at_call 97;refine(m.o _ f).mono ?_;clear m;rintro e D ⟨rfl,p⟩))
       go_ret;refine⟨?_,Bt r (Bt f p)⟩;exact Xz (X:=(⟨#[43]⟩:ByteArray)++Q++v) (u.o.2.2 (by first|rfl|trivial) (by first|rfl|trivial))
     . go_enter func53,ntmps53
       go_upto_region 1 with fail
       rw[y.o];go_wp2_with(first
        |(go_at_call 16;refine j.o.mono ?_;clear j;rintro e A ⟨rfl,n⟩)
        |(go_at_call 96;refine(g.o _).mono ?_;clear g;rintro e B ⟨rfl,o⟩;have f:=Bt n o)
        |(go_at_call 97;refine(m.o _ f).mono ?_;clear m;rintro e D ⟨rfl,p⟩))
       go_ret;refine⟨?_,Bt r (Bt f p)⟩;exact Xz (X:=(Q:ByteArray)++v) (u.o.2.1 (by first|rfl|trivial) (by first|rfl|trivial))
   . go_enter func53,ntmps53
     go_upto_region 1 with fail
     rw[y.o];go_wp2_with(first
      |(go_at_call 16;refine j.o.mono ?_;clear j;rintro e A ⟨rfl,n⟩)
      |(go_at_call 96;refine(g.o _).mono ?_;clear g;rintro e B ⟨rfl,o⟩;have f:=Bt n o)
      |(go_at_call 97;refine(m.o _ f).mono ?_;clear m;rintro e D ⟨rfl,p⟩))
     go_ret;refine⟨?_,Bt r (Bt f p)⟩;exact Xz (X:=(⟨#[45]⟩:ByteArray)++Q++v) (u.o.1 (by first|rfl|trivial))
theorem OV(B b:Nat)(l:List UInt8)(w:G)(h:Lib.IsBuilder 89 5 B b (Lib.byteCells l) w):Calls I 54 #[H (some ⟨b,0,none⟩)] w λe a=>e=.returned (.int .i64 (l.length:Int))/\Bl w a:=by
 refine(Tryz.Builder_Len B b _ w h).mono ?_;rintro e a ⟨rfl,rfl⟩;grind[DI,BL]
def OW(w:G)(b:Nat)(a:WO)(len cap:Nat)(qs:Y)(k:Nat)(W:G):Prop:=
 (Boxed W (b+1) 23 (E a len cap)/\Bl w W)/\Lib.IsBuilder 89 5 b b (Lib.byteCells (Yi (qs.drop (len-k)) (len-k))) W
def Tw(w:G)(b:Nat)(a:WO)(len cap:Nat)(qs:Y)(d:w.heap.size<=b):OwnFrom (b+1+1) (OW w b a len cap qs):=
 Bj (Bj (B5 (boxed_own _ _ λ_=>E a len cap) _) (DA (Aa _) Z)) λ_ _ _ _ h hg c=>LX h hg c
def FZ(w W:G)(c b:Nat)(a:WO)(len cap:Nat)(x y z u:N)(T:List UInt8)(V:G):Prop:=
 ((Boxed V (c+1) 23 (E a len cap)/\Bl w V)/\Lib.IsBuilder 89 5 c c (Lib.byteCells T) V)/\KeepsOthers W V/\Jr V b 38 x y z u/\c+1<V.heap.size
def FZ.below{w W:G}{d b:Nat}{a:WO}{len cap:Nat}{x y z u:N}{T:List UInt8}{V V':G}(h:FZ w W d b a len cap x y z u T V)(c:Bl V V'):FZ w W d b a len cap x y z u T V':=
 ⟨⟨⟨boxed_below h.1.1.1 c,Bt h.1.1.2 c⟩,YG h.1.2 c⟩,h.2.1.trans (JS c),h.2.2.1.below c,Ar h.2.2.2 c.size⟩
def FZ.write{w W:G}{c b:Nat}{a:WO}{len cap:Nat}{x y z u:N}{T n:List UInt8}{V V':G}(h:FZ w W c b a len cap x y z u T V)(s:w.heap.size<=c)(q:b≠c){bs:List N}
(r:Lib.BuilderAt 89 5 c c (H (some ⟨c,0,none⟩)) bs V')(l:Below c V V')(m:∀k o,V.heap[k]?=some o->k≠c->(∀f z,o≠C f 5 z)->V'.heap[k]?=some o)(e:bs=Lib.byteCells n):FZ w W c b a len cap x y z u n V':=by
 refine⟨⟨⟨m _ _ h.1.1.1 Z (λf z e=>by cases e),h.1.1.2.trans (l.mono s)⟩,AE (by rw[<-e];exact r)⟩,h.2.1.trans ⟨l.size,λk o d g=>?_⟩,m _ _ h.2.2.1 q (λf z e=>by cases e),Ar h.2.2.2 l.size⟩;by_cases p:k=c
 . subst p;rcases h.1.2 with i|i
   . obtain⟨_,v,j,_⟩:=i;rw[j]at d;cases d;cases g
   . obtain⟨_,v,j,_⟩:=i;rw[j]at d;cases d;cases g
 . exact m k o d p (λf z e=>by rw[e]at g;cases g)
def Gd(w W:G)(c b:Nat)(a:WO)(len cap:Nat)(x y z u:N)(T:List UInt8)(q:Rat)(V:G):Prop:=FZ w W c b a len cap x y z u T V/\Jg V (.agg #[x,y,z,u]) q
def Gd.below{w W:G}{c b:Nat}{a:WO}{len cap:Nat}{x y z u:N}{T:List UInt8}{q:Rat}{V V':G}(h:Gd w W c b a len cap x y z u T q V)(d:Bl V V'):Gd w W c b a len cap x y z u T q V':=⟨h.1.below d,h.2.below d⟩
def Y4(v:N)(qs:Y)(w:G)(hp:Jj w v qs)(hs:Sqs qs)(hT:∀m,(Yi (qs.drop m) m).length<=140737488355328)(bn:Fl w):
 Calls I 13 #[v] w λe w'=>e=.returned (P ⟨(FD qs).toArray⟩)/\Bl w w':=by
 obtain⟨u0,rfl,h⟩:=hp;obtain⟨a,len,cap,rfl⟩:=h.form;obtain⟨hl,cr,cy,cn,s,t,aa,bb,ll,cc,kk,dd,hc⟩:=h.forms;obtain⟨HL,B,HS,Ub,Qp⟩:=Fg hl hc hs hT bn;clear hc hl hs h hT bn;obtain⟨W0,ah⟩:=ex (((w.alloc (C #[E a len cap] 25)).alloc (C #[H none,E none 0 0] 89)).alloc (C #[E a len cap] 23));obtain⟨d,aj⟩:=ex (w.heap.size+1);have hN:W0.heap.size=d+1+1:=by rw[<-ah,<-aj];simp
 have x2:Boxed W0 (d+1) 23 (E a len cap):=by
  have X:=Bb ((w.alloc (C #[E a len cap] 25)).alloc (C #[H none,E none 0 0] 89)) 23 (E a len cap);rw[ah]at X;simpa[aj]using X
 have x3:Bl w W0:=by rw[<-ah];exact((Ba w _).alloc DQ _).alloc si _
 have x5:Lib.IsBuilder 89 5 d d (Lib.byteCells (Yi (qs.drop (len-0)) (len-0))) W0:=by
  refine Az ⟨Aa _,E none 0 0,?_,?_,by simp[Value.ownBlock]⟩
  . rw[<-ah,<-aj];have X:=BV (w.alloc (C #[E a len cap] 25)) (C #[H none,E none 0 0] 89);rw[A1]at X;exact(B7 _ _ _ DQ).trans X
  . rw[AF (by have:=HL.o;omega)];exact⟨J,Az ⟨J,J⟩⟩
 have Qr:=Ja ah;have Qk:=Ja aj;have Qj:w.heap.size<=d:=Z
 clear ah;refine(Be (n:=3)).1 ?_;refine Bn func13 J trivial ?_ J;simp only[ntmps13,Ak,Ag,AB,Nat.reduceAdd,Nat.reduceSub,An,Ao,Ax,Ap,Al,Aw];gi_wp2_with(refine⟨trivial,?_⟩;gi_at_call 50;refine(I2 Fence.wide _ trivial J _ _ _ _).mono ?_;rintro e w' ⟨rfl,rfl⟩)
 rw[Qr.o];try simp only[Qk.o]
 clear aj;refine XS J Z (gf:=94) (lb:=#[H (some ⟨d+1,0,none⟩)]) J trivial (DF func94 WS J)
  (I1 Fence.wide _ trivial J Z (d+1) a len cap (λj=>F (s j)) (λj=>E (aa j) (ll j) (cc j)) (λj=>F (t j)) (λj=>E (bb j) (kk j) (dd j)) cn) (λ_=>rfl)
  (OW w d a len cap qs) (λ_ _ _=>False) (by rw[hN];exact Tw w d a len cap qs Qj) (λc s W W' row h=>h.elim) ⟨⟨x2,x3⟩,x5⟩ ?rd
  (λk b=>{ tmps:=#[.agg #[E a len cap],H (some ⟨w.heap.size,0,none⟩),P ⟨#[]⟩,H (some ⟨d,0,none⟩),.int .i64 ((len:Int)-1-k),H (some ⟨b,0,none⟩),H (some ⟨w.heap.size,0,none⟩),E a len cap,.func (.func 94) #[] #[H (some ⟨d+1,0,none⟩)],.int .i64 ((len:Int)-1-k),.agg #[F (s (len-1-k)),E (aa (len-1-k)) (ll (len-1-k)) (cc (len-1-k)),F (t (len-1-k)),E (bb (len-1-k)) (kk (len-1-k)) (dd (len-1-k))],L,L,L,L,L,L,L,L,L,L,L,L],defers:=[] })
  (λk=>C #[F (s (len-1-k)),E (aa (len-1-k)) (ll (len-1-k)) (cc (len-1-k)),F (t (len-1-k)),E (bb (len-1-k)) (kk (len-1-k)) (dd (len-1-k))] 38 (0,0)) ?assign ?body ?done ?stop
 case stop=>intro D c k W _ _ h;exact h.elim
 case rd=>
  intro k W M;have hB:=M.1.2;refine⟨M.1.1.cell,λhk=>?_⟩;obtain⟨_,b,ea,hb,X,Q,h3,h4⟩:=B.o (len-1-k) Z;exact⟨b,ea,(hB.cell (p:=⟨b,_,none⟩) hb).trans X,(hB.cell (p:=⟨b,_,none⟩) hb).trans Q,(hB.cell (p:=⟨b,_,none⟩) hb).trans h3,(hB.cell (p:=⟨b,_,none⟩) hb).trans h4⟩
 case assign=>
  intro l k W K hK;unfold Gb;gi_wp2;exact hK
 case done=>
  rintro D W hD ⟨⟨y1,y2⟩,A⟩ hK;rw[show qs.drop (len-len)=qs from by rw[A3];rfl,A3]at A;have Qf:d<=W.heap.size:=by have:=y1.lt;omega
  have HY:=Ja A;have Qd:=Ja (OV d d _ W A);clear A;by_cases am:Yi qs 0=[]
  . have Qe:=Ja (show FD qs=[48]by unfold FD;rw[Br am]);rw[am]at Qd;gi_wp2_with(refine⟨trivial,?_⟩;gi_at_call 54;refine((Be (n:=_)).2 Qd.o).mono ?_;rintro e w6 ⟨rfl,ai⟩)
    have Qh:w6.heap[D]?=some (.deferred (some [])):=(JS ai).same D _ hK J;refine⟨DQ,.inl ⟨_,_,J,Bq Qh,?_⟩⟩;refine⟨P ⟨#[48]⟩,by simp[results,results13,go_sem],by rw[Qe.o],?_⟩;exact below_grown (Bt y2 ai) (Bp _ D (.deferred none)) Z
  . have Qe:=Ja (show FD qs=Yi qs 0 by unfold FD;rw[Bk am]);have Qn:((Yi qs 0).length:Int)≠0:=by
     have:0<(Yi qs 0).length:=AG.2 am
     omega
    have Qz:(((Yi qs 0).length:Int)==0)=false:=by rw[Bz];exact Qn
    have Ql:=Ja λ(V:G) (h:Bl W V)=>Tryz.Builder_String_any_k d d (Yi qs 0) V (Lib.IsBuilderF.of (YG HY.o h)) (At Qf h.size);obtain⟨n,hn⟩:=ex ((Yi qs 0).length);rw[hn]at Qd Qz Qn;obtain⟨ST,aq⟩:∃S:ByteArray,⟨(Yi qs 0).toArray⟩=S:=⟨_,J⟩;rw[aq]at Ql;have Qt:=Ja (show⟨(FD qs).toArray⟩=ST by rw[Qe.o];exact aq);clear am hn aq HY;gi_wp2_with(first
     |(refine⟨trivial,?_⟩;gi_at_call 54;refine((Be (n:=_)).2 Qd.o).mono ?_;clear Qd;rintro e w6 ⟨rfl,ai⟩)
     |(refine⟨trivial,?_⟩;gi_at_call 55;refine((Be (n:=_)).2 (Ql.o _ ai)).mono ?_;clear Ql;rintro e w7 ⟨rfl,_,bz,ck⟩))
    have Qh:w6.heap[D]?=some (.deferred (some [])):=(JS ai).same D _ hK J;have Qs:=ck D _ Qh (λe=>by cases e;omega) (λc fz e=>by cases e);refine⟨DQ,.inl ⟨_,_,J,Bq Qs,?_⟩⟩;refine⟨P ST,by simp[results,results13,go_sem],by rw[Qt.o],?_⟩;exact below_grown ((Bt y2 ai).trans (bz.mono Qj)) (Bp _ D (.deferred none)) Z
 case body=>
  rintro l k b W ⟨⟨y1,y2⟩,A⟩ hk co cg ay;have hm:len-1-k<len:=Z
  obtain⟨hi,_⟩:=B.o (len-1-k) hm;have HI:=Ja (Jg.below hi y2);have e1:((len:Int)-1-k)=((len-1-k:Nat):Int):=Z
  have ek:len-k=len-1-k+1:=Z
  rw[e1];rw[ek]at A;have Qi:=Ja (show len-(k+1)=len-1-k by omega);clear e1 hi ek;obtain⟨m,bi⟩:=ex (len-1-k);rw[bi]at ay HI hm A Qi ⊢;have HM:=Ja (show m<qs.length by have:=HL.o;omega);obtain⟨Qc,Qw,Qg⟩:=Dm (OO qs HM.o) (Ub.o m) (HS.o.at m);have Qu:m<=1099511627776:=Z
  clear bi;have q0:Jr W b 38 (F (s m)) (E (aa m) (ll m) (cc m)) (F (t m)) (E (bb m) (kk m) (dd m)):=ay;obtain⟨s1,bk⟩:=ex (s m);obtain⟨t1,bm⟩:=ex (t m);obtain⟨a1,ba⟩:=ex (aa m);obtain⟨b1,bc⟩:=ex (bb m);obtain⟨l1,bh⟩:=ex (ll m);obtain⟨c1,bd⟩:=ex (cc m);obtain⟨m1,bj⟩:=ex (kk m);obtain⟨d1,bg⟩:=ex (dd m);rw[bk,bm,ba,bc,bh,bd,bj,bg]at q0 HI ⊢;obtain⟨T,az⟩:=ex (Yi (qs.drop (m+1)) (m+1));rw[az]at A Qc;obtain⟨q,bf⟩:∃y,cf qs m=y:=⟨_,J⟩;rw[bf]at HI Qc Qg;have hS:FZ w W d b a len cap (F s1) (E a1 l1 c1) (F t1) (E b1 m1 d1) T W:=⟨⟨⟨y1,y2⟩,A⟩,DL W,q0,by have:=y1.lt;omega⟩;have Qy:b≠d:=Z
  clear bk bm ba bc bh bd bj bg az bf y1 y2 A ay co cg;obtain⟨k0,k1,k2,k3⟩:=q0.cq;have HZ:=Ja λ(n9:Nat)=>Bu l ((Be (n:=n9)).2 (OC _ q W HI.o Qg.o));by_cases hx:q=0
  . rw[show decide (q=0)=true from Bi hx]at HZ;have HX:=Ja hx;clear hx;gi_wp2_with(refine⟨trivial,?_⟩;gi_at_call 51;refine(HZ.o _).mono ?_;rintro e w' ⟨rfl,an⟩)
    have ae:=hS.below an;refine⟨ae.2.1.from _,ae.1.1,?_⟩;rw[Qi.o,Qc.o,Br HX.o];exact ae.1.2
  . rw[show decide (q=0)=false from Bh hx]at HZ;have HX:=Ja hx;clear hx;gi_wp2_with(refine⟨trivial,?_⟩;gi_at_call 51;refine(HZ.o _).mono ?_;clear HZ;rintro e w' ⟨rfl,an⟩)
    have ae:=hS.below an;have bt:=Ja (HI.o.below an);clear hS k0 k1 k2 k3 q0 HI;obtain⟨n,hn⟩:=ex (T.length);obtain⟨f,hf⟩:=ex (T.isEmpty);have de:((n:Int)==0)=f:=by
     rw[<-hf,<-hn,CQ,beq_iff_eq,List.isEmpty_iff_length_eq_zero];omega
    rw[Bk HX.o,hf]at Qc;have HN:=Ja hn;have Qm:=Ja (show T.length+(Xs q m f).length<=140737488355328 by
     have:=Qw.o;rw[Qc.o,AV]at this;exact this)
    have Qq:Gd w W d b a len cap (F s1) (E a1 l1 c1) (F t1) (E b1 m1 d1) T q w'.drew:=Gd.below ⟨ae,bt.o⟩ ((BL _ w').drew);have Qv:=Ja λ(V:G) (h:Bl w V)=>JB Qp.o h;obtain⟨TX,ak⟩:∃S:ByteArray,⟨(Xs q m f).toArray⟩=S:=⟨_,J⟩;obtain⟨Qe,Ua,Qx,Qo⟩:=Dw ak (show T.length+TX.size<=140737488355328 by rw[<-ak];show _+(Xs q m f).toArray.size<=_;rw[Ak];exact Qm.o) (show Lib.byteCells T++Lib.strCells TX=Lib.byteCells (T++Xs q m f)by rw[<-ak];simp[Lib.byteCells,Lib.strCells]) λ(V:G) (u:N) (hu:Jg V u q) (h:Bl w V)=>Tv u q m f V hu Qg.o Qu (Qv.o V h);rw[ak]at Qo;clear ae hn hf ak;refine Ym Dl [[],[],[],[2],[0,1,3,2],[4,4]] WS DV
     (λD ap V=>∃(ta tb tc td te tf:N),ap={ tmps:=#[.agg #[E a len cap],H (some ⟨w.heap.size,0,none⟩),P { data:=#[] },H (some ⟨d,0,none⟩),.int .i64 ↑m,H (some ⟨b,0,none⟩),H (some ⟨w.heap.size,0,none⟩),E a len cap,.func (.func 94) #[] #[H (some ⟨d+1,0,none⟩)],.int .i64 ↑m,.agg #[F s1,E a1 l1 c1,F t1,E b1 m1 d1],.agg #[F s1,E a1 l1 c1,F t1,E b1 m1 d1],F false,F true,ta,tb,tc,td,te,tf,L,L,L],defers:=[] }/\Hid ((D 0=true->D 5=false->Jg V ta q)/\(D 1=true->tb=.int .i64 (m:Int))/\(D 2=true->tc=.int .i64 (n:Int))/\(D 3=true->td=F f)/\(D 4=true->te=P TX)/\(D 5=true->True))/\Hid ((D 5=false->Gd w W d b a len cap (F s1) (E a1 l1 c1) (F t1) (E b1 m1 d1) (T) q V)/\(D 5=true->FZ w W d b a len cap (F s1) (E a1 l1 c1) (F t1) (E b1 m1 d1) (T++Xs q m f) V)))
     ⟨_,_,_,_,_,_,J,Ja DQ,Ja ⟨λ_=>Qq,DQ⟩⟩ ?step1 ?fin1
    case step1=>
     rintro D ap V i ds U hi x ad ⟨ta,tb,tc,td,te,tf,rfl,g,o⟩;have cz:i<6:=(Af.1 hi).1;obtain rfl|rfl|rfl|rfl|rfl|rfl:=GN i Z
     all_goals
      simp only[Ai,Ah,Aq]at hi;subst hi
     . have z:D 5=false:=DY U (DY (a:=4) U ad);have r:=o.o.1 z;obtain⟨e0,e1,e2,e3⟩:=r.1.2.2.1.cq;clear x;refine Dz ?_;exact⟨(Kt (D3 g λ_ _=>r.2) λ_=>trivial),o⟩
     . have z:D 5=false:=DY U (DY (a:=4) U ad);have r:=o.o.1 z;clear x;refine Dz ?_;exact⟨(Kt (EH g) λ_=>trivial),o⟩
     . have z:D 5=false:=DY U (DY (a:=4) U ad);have r:=o.o.1 z;clear x;have B:=Ja λ(n9:Nat)=>Bu l ((Be (n:=n9)).2 (OV d d T V r.1.1.2));rw[HN.o]at B;refine Bv J λK hK=>?_;go_simp;gi_wp2_with(refine⟨trivial,?_⟩;gi_at_call 54;refine(B.o _).mono ?_;rintro e w5 ⟨rfl,R⟩)
       exact⟨_,_,_,_,_,_,J,Ja ⟨λh Q=>(g.o.1 h Q).below R,g.o.2.1,λ_=>rfl,g.o.2.2.2.1,g.o.2.2.2.2.1,λ_=>trivial⟩,Ja ⟨λh=>(o.o.1 h).below R,λh=>(o.o.2 h).below R⟩⟩
     . have z:D 5=false:=DY U (DY (a:=4) U ad);have r:=o.o.1 z;obtain rfl:=g.o.2.2.1 (x 2 DQ);clear x;refine Dz ?_;exact⟨Ja ⟨g.o.1,g.o.2.1,λ_=>rfl,λ_=>rfl,g.o.2.2.2.2.1,λ_=>trivial⟩,o⟩
     . have z:D 5=false:=DY U ad;have r:=o.o.1 z;have h0:=g.o.1 (x 0 DQ) z;obtain rfl:=g.o.2.1 (x 1 DQ);obtain rfl:=g.o.2.2.2.1 (x 3 DQ);clear x;have B:=Ja λ(n9:Nat)=>Bu l ((Be (n:=n9)).2 (Qo.o V _ h0 r.1.1.1.2));clear h0;refine Bv J λK hK=>?_;go_simp;gi_wp2_with(refine⟨trivial,?_⟩;gi_at_call 53;refine(B.o _).mono ?_;rintro e w5 ⟨rfl,R⟩)
       exact⟨_,_,_,_,_,_,J,Ja ⟨λh Q=>(g.o.1 h Q).below R,λ_=>rfl,g.o.2.2.1,λ_=>rfl,λ_=>rfl,λ_=>trivial⟩,Ja ⟨λh=>(o.o.1 h).below R,λh=>(o.o.2 h).below R⟩⟩
     . have r:=o.o.1 ad;obtain rfl:=g.o.2.2.2.2.1 (x 4 DQ);clear x;have B:=Ja λ(n9:Nat)=>Bu l ((Be (n:=n9)).2 (Xm d d _ TX V r.1.1.2 (by rw[DI];exact Ua.o) (by have:=r.1.2.2.2;omega)));refine Bv J λK hK=>?_;go_simp;gi_wp2_with(refine⟨trivial,?_⟩;gi_at_call 52;refine(B.o _).mono ?_;rintro e w5 ⟨⟨v5,rfl⟩,⟨ce,R⟩,cj⟩)
       exact⟨_,_,_,_,_,_,J,Ja ⟨λ_ h=>by simp at h,g.o.2.1,g.o.2.2.1,g.o.2.2.2.1,λ_=>rfl,λ_=>trivial⟩,Ja ⟨λh=>by simp at h,λ_=>r.1.write Qj Qy ce R cj Qx.o⟩⟩
    case fin1=>
     rintro D ap V bu ⟨ta,tb,tc,td,te,tf,rfl,g,o⟩;have Q:=o.o.2 (bu 5 DV);refine⟨Q.2.1.from _,Q.1.1,?_⟩;rw[Qi.o,Qc.o];exact Q.1.2
section
open M3
end
namespace M3
def row_zero(V:G)(a:WO):RowK true V (E a 0 0) []:=⟨a,0,J,Aa _,Z,DQ,Az J⟩
def Tx(V:G):Has V (.agg #[E Option.none 0 0]) (.poly []):=⟨_,J,row_zero V Option.none⟩
def DS.poly2{w V:G}{bs:List (Option (Nat × Dat))}(M:DS w V bs){i B:Nat}{ps:Y}(h:bs[i]?=some (some (B,.poly ps))):∃a l c,Boxed V B 25 (E a l c)/\Jj V (.agg #[E a l c]) ps:=by
 obtain⟨a,l,c,b,d⟩:=M.poly h;exact⟨a,l,c,b,_,J,d⟩
def Has.set1{V:G}{v:N}{d:Dat}(h:Has V v d){B:Nat}{a:WO}{l c:Nat}(q:Boxed V B 25 (E a l c))(e:Jv (E a l c)=true)(b:N):Has (V.setCell ⟨B,0,Option.none⟩ b) v d:=
 h.keep (Ld q e b) (AE λ_ _ g=>X7 q b g)
def Es.set1{V:G}{v:N}{d1 d:Dat}(h:Es V v d1 d){B:Nat}{a:WO}{l c:Nat}(q:Boxed V B 25 (E a l c))(f:Jv (E a l c)=true)(b:N):Es (V.setCell ⟨B,0,Option.none⟩ b) v d1 d:=by
 obtain⟨u1,u2,e,g,i⟩:=h;exact⟨u1,u2,e,g.set1 q f b,i.set1 q f b⟩
section
variable {w V:World} {bs:List (Option (Nat × Dat))} {B:Nat} {ρ:Operand->Value} {x y:Operand} {dst:Option Tmp} {ty:TypeId} {ps:String} {af:Array Edge} {gd:Option (Nat × Bool)} {q q0:Rat} {z z0:Int} {p p0:Y} {v p1 u1:Value} {ds:List Dat} {T:World->Value->Prop}
def OX(i:Nat)(M:DS w V bs)(b:Has V u1 (.poly p))(h:bs[i]?=some (some (B,.poly p0)):=by rfl)(hp:p1=H (some ⟨B,0,none⟩):=by rfl)(f:ρ x=p1:=by kernel_rfl)(g:ρ y=u1:=by kernel_rfl)(hT:∀ {a l c x},Boxed V B 25 (E a l c)->DS w (V.setCell ⟨B,0,none⟩ x) (bs.set i (some (B,.poly p)))->T (V.setCell ⟨B,0,none⟩ x) L:=by exact λ_ m=>m):Wr ρ { dst:=none,op:=.store 25 x y,type:=ty,pos:=ps,after:=af,guard:=gd } V ds (.eq L) T:=by
 rw[hp]at f;obtain⟨a,l,c,n,r⟩:=M.poly2 h;have o:=n.cell;have f0:=n.frozen;obtain⟨j,q,c1,e⟩:=Jj.form (show Jj V _ _ from b);rw[e]at b;rw[e]at g;exact⟨.skip,L,_,by go_simp,AE ⟨J,J⟩,J,λd v _ k=>k.set1 n J _,hT n (M.putPoly h b)⟩
end
