import Derived.Test.YtcahejkcdcjjgaaGreatDoorV25
set_option linter.all false
open Go.Value renaming slice->E,bool->F,pointer->I,string->M
open Go renaming World->G,Value->L
open Go.Obj renaming cells->C
open Go.Proofs.Tryz renaming prog->H
set_option maxRecDepth 99999
set_option maxHeartbeats 0
namespace Go.Proofs.YtcahejkcdcjjgaaGreatDoor
open Proofs.Tryz
open Go.RowKit Go.Shelf
attribute [local go_sem] Oper.semAt_some
def TT(n c:Nat)(w:G):Calls H 69 #[E none n c] w λe d=>e=.returned (E none 0 0)/\d=w:=by
 have f:∀(w:G) (a:V8) (n c b c':Nat),(binOp .eql 23 (E a n c) (E none b c')).run H w=.ok (F a.isNone) w:=λw a n c b c'=>Bw w _ _ a n c b c' underlying23;go_enter func69,ntmps69
 go_wp2;go_ret;exact⟨J,J⟩
def TU(p:Addr)(n c:Nat)(xs:List L)(w:G)(y:n<=1099511627776)(hl:xs.length=n*4)(g:∀j u,xs[j]?=some u->w.cell? (p.add j)=some u)(f:∀u∈xs,u.oneCell'=true):
 Calls H 69 #[E (some p) n c] w λe i=>∃b,e=.returned b/\i.ownsRow w.heap.size 38 4 b n xs/\Bl w i:=by
 obtain⟨x,m,s,t,v⟩:=Bs Tryz.infoRat;have D:∀(w:G) (a:V8) (n c d c':Nat),(binOp .eql 23 (E a n c) (E none d c')).run H w=.ok (F a.isNone) w:=λw a n c d c'=>Bw w _ _ a n c d c' underlying23;obtain⟨A,B,C⟩:=DY g f hl;clear g f hl;go_enter func69,ntmps69
 go_wp2_with(at_builtin;refine BZ _ J _ _ 23 J w.heap.size 38 x (.agg #[F false,E none 0 0,F false,E none 0 0]) 4 64 underlying23 m s t v J DQ _ _ _ J (World.ownsRow_made w #[] 0 (Aa _) (AB _) J) p n c xs J ?qc1 ?qc2 ?qc3 ?qc4 ?qc5 ?qc6 ?_)
 case qc1=>exact C.o
 case qc2=>intro j u o;exact Lib.cell?_alloc_some _ (A.o j u o)
 case qc3=>exact B.o
 case qc4=>unfold maxLen;omega
 case qc5=>omega
 case qc6=>simp
 intro b K r l z;go_wp2;go_ret;refine⟨b,J,by simpa using r,?_⟩;exact(Ba w _).grown l DJ (by intro k q;simp[Value.ownBlock]at q;omega)
theorem TV(v:L)(qs:U)(w:G)(h:RowK true w v qs):Calls H 69 #[v] w λe f=>∃u,e=.returned u/\RowK true f u qs/\Gl w.heap.size u/\Bl w f/\(u=E none 0 0\/∃g cap,u=E (some ⟨g,0,none⟩) qs.length cap/\w.heap.size<=g/\Db true f g qs):=by
 obtain⟨a,cap,rfl,B,D,m,i⟩:=h;rcases a with _|p
 . refine(TT _ _ w).mono ?_;rintro e f ⟨rfl,rfl⟩;have z:qs=[]:=by
    grind
   subst z;exact⟨_,J,RowK.nil _ _,λa l c e=>(by cases e),BF _ _,An J⟩
 . have o:∃cs,Yr true w cs qs/\∀j u,cs[j]?=some u->w.cell? (p.add j)=some u:=by
    rcases i with i|⟨b,q,x⟩
    . rw[i];exact⟨[],Yr.nil _ _,λj u e=>by simp at e⟩
    . cases q;obtain⟨cs,d,k⟩:=x.cells;refine⟨cs,d,λj u e=>?_⟩;rw[Xy,Cj];exact k j u e
   obtain⟨cs,d,k⟩:=o;refine(TU p qs.length cap cs w m d.1 k d.one).mono ?_;rintro e f ⟨A,rfl,y,n⟩;obtain⟨s,_,t⟩:=RowK.owns (r:=true) y (d.below n) m;refine⟨A,J,s,λa l c e=>?_,n,t⟩;grind
namespace M3
def LK(V:G)(t:L)(q:Rat):Prop:=∃v,t=.iface 38 v/\Jl V v q
def LK.below{V V':G}{t:L}{q:Rat}(h:LK V t q)(b:Bl V V'):LK V' t q:=by
 obtain⟨v,e,a⟩:=h;exact⟨v,e,a.below b⟩
def TW(v:L)(V:G):(method 371 38 v "Times").run H V=.ok (41,v) V:=by kernel_rfl
def TY(v:L)(V:G):(method 371 38 v "Plus").run H V=.ok (40,v) V:=by kernel_rfl
def Fqq(ps qs:U):Prop:=(∀i a,Sq (cf ps i*cf qs a))/\∀n i a k,Sq (cf (Yg (YC ps qs n i) i (cf ps i) qs a) k)
def TZ(a b:V8)(la ca lb cb:Nat)(ps qs:List Rat)(w:G)(ha:RowK true w (E a la ca) ps)(hb:RowK true w (E b lb cb) qs)(ap:Sqs ps)(aq:Sqs qs)(an:Fqq ps qs)(bn:ps.length+qs.length<=1099511627776):
 Calls H 68 #[E a la ca,E b lb cb] w λe w'=>∃v g,e=.returned v/\RowK true w' v g/\(∀c,cf g c=cf (D4 ps qs) c)/\Sqs g/\Gl w.heap.size v/\Bl w w':=by
 obtain⟨ak,bh,bj,cj,s,t,aa,bb,ll,cc,kk,dd,hc⟩:=ha.forms;obtain⟨am,bi,bk,ck,s',t',bc,bd,bz,bf,bu,bg,aj⟩:=hb.forms;obtain⟨n,hn⟩:∃n:Nat,max (0:Int) ((la:Int)+(lb:Int)-1)=(n:Int):=⟨(max (0:Int) ((la:Int)+(lb:Int)-1)).toNat,O⟩;have de:n<=1099511627776:=O
 obtain⟨HN,ce,HC,az,HP,HQ,HK,Qg⟩:=Ep (show la+lb<=n+1 from by omega) (show la+lb=0\/n+1=la+lb from by omega) hc aj ap aq an ak;have Qh:=Z am;have Qs:=Gm n O w;have M0:DM w (w.alloc (C (Yw n) 38)) [some (w.heap.size,.rats (List.replicate n 0))]:=M3.DM.push (M3.DM.nil w) (.rats (List.replicate n 0)) (by
  obtain⟨cs,q,h2⟩:=Ih n w;refine⟨Yw n,J,λc hj=>?_⟩;rw[AG]at hj;obtain⟨h0,q,h2,h3⟩:=Ig hj;exact⟨_,_,_,_,h0,q,h2,h3,by rw[JX];exact D0 _⟩)
 obtain⟨W0,ai⟩:=ex (w.alloc (C (Yw n) 38));rw[ai]at M0 Qs;have Qq:=Z M0;clear M0 ai ha hb ap aq ak am bh bj bi bk an hc aj bn;go_enter func68,ntmps68
 go_wp2;go_loopw [20] (λi wr=>∃(k:Nat),k<=la/\i=.int .i64 (k:Int)/\Hid (DM w wr [some (w.heap.size,.rats (YC ps qs n k))])) λi _=>la-(intOf i).toNat
 case atStart=>exact⟨0,AB _,J,Qq⟩
 case round=>
  obtain⟨k,hk,rfl,o⟩:=hrel;by_cases bt:k<la
  . have cn:(k:Int)<(la:Int):=O
    obtain⟨U,X,rfl,ae,r,u,x,y⟩:=HC.o k bt;have d:=o.o.2.2;have z:=Z (U.below d);replace r:=(d.cell (p:=⟨X,_,none⟩) ae).trans r;replace u:=(d.cell (p:=⟨X,_,none⟩) ae).trans u;replace x:=(d.cell (p:=⟨X,_,none⟩) ae).trans x;replace y:=(d.cell (p:=⟨X,_,none⟩) ae).trans y;clear U d;obtain⟨s1,S⟩:=ex (s k);obtain⟨t1,T⟩:=ex (t k);obtain⟨a1,D⟩:=ex (aa k);obtain⟨b1,K⟩:=ex (bb k);obtain⟨l1,Q⟩:=ex (ll k);obtain⟨c1,N⟩:=ex (cc k);obtain⟨m1,R⟩:=ex (kk k);obtain⟨d1,P⟩:=ex (dd k);rw[S,T,D,K,Q,N,R,P]at z;rw[S]at r;rw[D,Q,N]at u;rw[T]at x;rw[K,R,P]at y;clear S T D K Q N R P;go_upto_region 5 with fail
    have l:DM w (wr.alloc (C #[F s1,E a1 l1 c1,F t1,E b1 m1 d1] 38)) [some (w.heap.size,.rats (YC ps qs n k)),some (wr.heap.size,.rat (cf ps k))]:=M3.DM.push o.o (.rat (cf ps k)) z.o;obtain⟨V1,B⟩:=ex (wr.alloc (C #[F s1,E a1 l1 c1,F t1,E b1 m1 d1] 38));obtain⟨B1,A⟩:=ex (wr.heap.size);rw[B,A]at l;rw[B];rw[A];have Qt:=Z l;clear l B A o z r u x y;go_wp2_with fail
    go_loopw [27] (λi wr=>∃(c:Nat),c<=lb/\i=.int .i64 (c:Int)/\Hid (DM w wr [some (w.heap.size,.rats (Yg (YC ps qs n k) k (cf ps k) qs c)),some (B1,.rat (cf ps k))])) λi _=>lb-(intOf i).toNat
    case atStart=>exact⟨0,AB _,J,Qt⟩
    case round=>
     obtain⟨c,hj,rfl,o⟩:=hrel;by_cases bm:c<lb
     . have cg:(c:Int)<(lb:Int):=O
       obtain⟨U,ad,rfl,ah,r,u,x,y⟩:=az.o c bm;have d:=o.o.2.2;have z:=Z (U.below d);replace r:=(d.cell (p:=⟨ad,_,none⟩) ah).trans r;replace u:=(d.cell (p:=⟨ad,_,none⟩) ah).trans u;replace x:=(d.cell (p:=⟨ad,_,none⟩) ah).trans x;replace y:=(d.cell (p:=⟨ad,_,none⟩) ah).trans y;clear U d;obtain⟨s2,S⟩:=ex (s' c);obtain⟨t2,T⟩:=ex (t' c);obtain⟨a2,D⟩:=ex (bc c);obtain⟨b2,K⟩:=ex (bd c);obtain⟨l2,Q⟩:=ex (bz c);obtain⟨c2,N⟩:=ex (bf c);obtain⟨m2,R⟩:=ex (bu c);obtain⟨d2,P⟩:=ex (bg c);rw[S,T,D,K,Q,N,R,P]at z;rw[S]at r;rw[D,Q,N]at u;rw[T]at x;rw[K,R,P]at y;clear S T D K Q N R P;go_upto_region 8 with fail
       have l:DM w (wr.alloc (C #[F s2,E a2 l2 c2,F t2,E b2 m2 d2] 38)) [some (w.heap.size,.rats (Yg (YC ps qs n k) k (cf ps k) qs c)),some (B1,.rat (cf ps k)),some (wr.heap.size,.rat (cf qs c))]:=M3.DM.push o.o (.rat (cf qs c)) z.o;obtain⟨V2,B⟩:=ex (wr.alloc (C #[F s2,E a2 l2 c2,F t2,E b2 m2 d2] 38));obtain⟨B2,A⟩:=ex (wr.heap.size);rw[B,A]at l;rw[B];rw[A];have Qc:=Z l;clear l B A o z r u x y;have Qk:(k:Int)+(c:Int)<(n:Int):=by have:=HN.o;omega
       have Qe:(0:Int)<=(k:Int)+(c:Int):=O
       have Qd:=Z (show k+c<n by omega);have Qa:(k:Int)+(c:Int)=((k+c:Nat):Int):=O
       obtain⟨m,hm⟩:=ex (k+c);rw[hm]at Qd Qa;have HM:=Z hm;have cz:(m:Int)<(n:Int):=by have:=Qd.o;omega
       have dh:IntKind.i64.wrap (m:Int)=(m:Int):=by rw[Bi];omega
       obtain⟨g,W⟩:=ex (Yg (YC ps qs n k) k (cf ps k) qs c);rw[W]at Qc;obtain⟨Qf,Qm,Qr,Qp⟩:=Dr (show m<g.length by rw[<-W,Xa,I1];exact Qd.o) W (show Sq (cf g m)by rw[<-W];exact HK.o.2 n k c m) (HK.o.1 k c);have Qj:=Qc.o.drew;clear hm W Qc Qk Qe;refine Eg Dm [[],[],[],[1,2],[],[],[],[5,6],[4,7],[8],[9],[],[11],[],[12,13],[10,14,14],[0,3,0,1,2,3,4,5,6,7,8,9,10,11,12,13,14,15],[16,15,15,0,1,2,3,4,5,6,7,8,9,10,11,12,13,14,15]] [.eq (E (some ⟨w.heap.size,0,none⟩) n n),.eq (.int .i64 (k:Int)),.eq (.int .i64 (c:Int)),.eq (.int .i64 (m:Int)),.eq (E (some ⟨w.heap.size,0,none⟩) n n),.eq (.int .i64 (k:Int)),.eq (.int .i64 (c:Int)),.eq (.int .i64 (m:Int)),.eq (I (some ⟨w.heap.size,m*4,none⟩)),.rat (cf g m),.ifq (cf g m),.rat (cf ps k),.ifq (cf ps k),.rat (cf qs c),.rat (cf ps k*cf qs c),.rat (cf g m+cf ps k*cf qs c),.eq (I (some ⟨w.heap.size,m*4,none⟩)),.eq undef] [17] (λb _ V=>DM w V [some (w.heap.size,if b.getD 0 false then .rats (g.set m (cf g m+cf ps k*cf qs c))else .rats g),some (B1,.rat (cf ps k)),some (B2,.rat (cf qs c))]) Qj (WB (.vl J λ_ _=>mv)<|WB (.vl J λ_ _=>mv)<|WB (.vl J λ_ _=>mv)<|WB (.vl J λh _=>⟨_,by refine DW ?_;rw[h.e 1,h.e 2];go_simp,J⟩)<|WB (.vl J λ_ _=>mv)<|WB (.vl J λ_ _=>mv)<|WB (.vl J λ_ _=>mv)<|WB (.vl J λh _=>⟨_,by refine DW ?_;rw[h.e 5,h.e 6];go_simp,J⟩)<|WB (.vl J λh _=>⟨_,by refine DW ?_;rw[h.e 4,h.e 7];go_simp,J⟩)<|WB (.vl J λh j=>LB 0 j Qf.o (h.e 8))<|WB (.vl J λh _=>mi (h.g 9))<|WB (.vl J λ_ j=>Er 1 j)<|WB (.vl J λh _=>mi (h.g 11))<|WB (.vl J λ_ j=>Er 2 j)<|WB (.ci J fun {_ V _} h j=>by obtain⟨y0,e,g0⟩:=h.g 12;have Qo:=TW y0 V;exact⟨_,by refine DW ?_;rw[e];go_simp,NY _ _ (cf ps k) (cf qs c) V g0 (h.g 13) (HP.o.at k) (HQ.o.at c)⟩)<|WB (.ci J fun {_ V _} h j=>by obtain⟨y0,e,g0⟩:=h.g 10;have Qo:=TY y0 V;exact⟨_,by refine DW ?_;rw[e];go_simp,IZ _ _ (cf g m) (cf ps k*cf qs c) V g0 (h.g 14) Qr.o Qp.o⟩)<|WB (.vl J λh _=>⟨_,by refine DW ?_;rw[h.e 0,h.e 3];go_simp,J⟩)<|WB (.wr J λh j=>NL 0 j Qf.o (h.g 15) (h.e 16)) Stp.end_)
        λf V hF l=>?_
       refine DW ?_;rw[hF.e 0,hF.e 1,hF.e 2,hF.e 3,hF.e 4,hF.e 5,hF.e 6,hF.e 7,hF.e 8,hF.e 16];have l:=FD l;have Qn:=Z l;clear l hF;go_wp2_with fail
       go_roundw
       case rel=>
        refine⟨c+1,O,by go_num,Z ?_⟩;have q:=Qn.o.take 2;rw[<-HM.o,<-Qm.o]at q;exact q
       case measure=>simp[intOf];omega
     . have Ql:c=lb:=O
       subst Ql;go_wp2_with fail
       go_roundw
       case rel=>
        refine⟨k+1,O,by go_num,Z ?_⟩;have q:=o.o.take 1;rw[Qh.o]at q;exact q
       case measure=>simp[intOf];omega
  . have Qi:k=la:=O
    subst Qi;go_wp2;go_ret;have hE:=o.o.rats (i:=0) J;have co:=I1 ps qs n k;have Qb:=hE.row (n:=n) (cap:=n) O (Aa _) O O;rw[Ac O]at Qb;refine⟨_,_,J,Qb,λc=>?_,Sqs.of λi=>?_,λa' l' c' e=>(by cases e;exact Aa _),o.o.2.2⟩
    . rw[Qg.o,I5 _ _ _ _ _ (Ar (by have:=HN.o;have h2:=Qh.o;have q:=Qg.o;omega)),Ft]
    . exact HK.o.2 n k 0 i
def LL(A B:L)(ps qs:List Rat)(w:G)(i:Jt w A ps)(k:Jt w B qs)(t:Sqs ps)(y:Sqs qs)(s:Fqq ps qs)(r:ps.length+qs.length<=1099511627776):
 Calls H 28 #[A,B] w λe D=>∃u,e=.returned u/\Jt D u (YM ps qs)/\Id w.heap.size u/\Bl w D:=by
 obtain⟨u,rfl,i⟩:=i;obtain⟨v,rfl,k⟩:=k;obtain⟨a,la,f,rfl⟩:=i.form;obtain⟨b,lb,g,rfl⟩:=k.form;obtain⟨W0,c⟩:=ex (((w.alloc (C #[E a la f] 25)).alloc (C #[E b lb g] 25)).alloc (C #[E none 0 0] 25));have b0:Boxed W0 w.heap.size 25 (E a la f):=by rw[<-c];exact((BK w _ _).alloc _).alloc _
 have Q:Boxed W0 (w.heap.size+1) 25 (E b lb g):=by rw[<-c];have:=(BK (w.alloc (C #[E a la f] 25)) 25 (E b lb g)).alloc (C #[E none 0 0] 25);simpa using this
 have R:Boxed W0 (w.heap.size+1+1) 25 (E none 0 0):=by rw[<-c];have:=BK ((w.alloc (C #[E a la f] 25)).alloc (C #[E b lb g] 25)) 25 (E none 0 0);simpa using this
 have l:Bl w W0:=by rw[<-c];exact((Ba w _).alloc DJ _).alloc si _
 obtain⟨o,q,N⟩:=DY (TZ a b la f lb g ps qs W0 (i.below l) (k.below l) t y s r) (λ(V:G) (v:L) (d:List Rat) (h:RowK true V v d) (hs:Sqs d)=>F5 v d V h hs) c;have k0:=b0.cell;have k1:=Q.cell;clear c i k t y s r;go_enter func28,ntmps28
 go_upto_region 1 with fail
 rw[N.o];go_wp2_with(first
  |(go_at_call 68;refine o.o.mono ?_;clear o;rintro e w1 ⟨v1,d,rfl,ad,z,ae,W,T⟩;have K:=Z z;clear z)
  |(go_at_call 65;refine(q.o _ _ d ad ae).mono ?_;clear q;rintro e w2 ⟨u2,rfl,n,X,U⟩;obtain⟨a9,l9,c9,rfl⟩:=n.form;have x:=Bt T U;have m:=boxed_below R x;have k2:=m.cell;have f2:=m.frozen))
 have S:Jf d=YM ps qs:=Yo λj=>K.o j;rw[S]at n;refine BE (by simp[results,results28,go_sem,k2]) J ⟨_,J,⟨_,J,Ei m _ n.row⟩,?_,(Bt l x).setCell (p:=⟨w.heap.size+1+1,0,none⟩) si _⟩;intro P l' c' e;have:=X W0.heap.size W P l' c' e;have h2:=l.size;omega
theorem Ta(n:Int)(y:-9223372036854775808<=n)(z:n<=9223372036854775807)(w:G):
 Calls H 77 #[.int .i64 n] w λe o=>∃u,e=.returned u/\Jl o u (n:Rat)/\Bl w o:=by
 have c:Bl w (w.alloc (C #[F false,E none 0 0,F false,E none 0 0] 38)):=Ba w _;have b0:=JF.new w 38 (F false) (E none 0 0) (F false) (E none 0 0);obtain⟨W0,f⟩:=ex (w.alloc (C #[F false,E none 0 0,F false,E none 0 0] 38));rw[f]at c b0;obtain⟨p,i,j,q⟩:=Dr f (IG n y z W0) (λ(V:G)=>IG 1 O O V) (show Sok n from Sok.of (k:=2) (by unfold Sm Y;omega) O);have b:=Z λ(V:G) (u v:L) (D:Jh V u n) (N:Jh V v 1)=>NZ u v n 1 V D N q.o Sok.one;rw[show decide ((1:Int)≠0)=true from J,show Rat.divInt n 1=(n:Rat)from by rw[Rat.divInt_eq_div];grind]at b;clear f;go_enter func77,ntmps77
 go_upto_region 1 with fail
 rw[p.o];go_wp2_with(first
  |(go_at_call 110;refine i.o.mono ?_;clear i;rintro e w1 ⟨u1,rfl,d,A⟩)
  |(go_at_call 110;refine(j.o _).mono ?_;clear j;rintro e w2 ⟨u2,rfl,K,l⟩;have d:=d.below l)
  |(go_at_call 107;refine(b.o _ _ _ d K).mono ?_;clear b;rintro e w3 ⟨u3,rfl,m,B⟩;have a:=Bt (Bt A l) B;have n2:=(b0.below a).alloc (C #[F false,E none 0 0,F false,E none 0 0] 38);obtain⟨W,r,U,t,X,s,T,x,rfl⟩:=Jl.form m;have g:=(b0.below a).alloc (C #[F W,E r U t,F X,E s T x] 38);obtain⟨P,Q,R,S⟩:=g.cq;obtain⟨f0,f1,f2,f3⟩:=g.fq))
 exact BE (by simp[results,results77,go_sem,P,Q,R,S]) J ⟨_,J,(m.below (Ba _ _)).put4 g J J J J _ _ _ _,Jq ((Bt c a).alloc (by have:=c.size;have:=a.size;omega) _) (Aa _) _ _ _ _⟩
end M3
abbrev Fo(w:G):Prop:=Lib.TabIs H w "internal/strconv.uint64pow10" .u64 Lib.pow10Tab
def LM(n:Nat)(c:n<=9223372036854775807)(w:G)(b:Fo w):Calls H 58 #[.int .i64 (n:Int)] w λe a=>e=.returned (M ⟨(YP n).toArray⟩)/\Bl w a:=by
 refine(Tryz.strconv_Itoa n O O w b).mono ?_;rintro e a ⟨rfl,k,os,rfl⟩;refine⟨?_,MZ w k os⟩;unfold Lib.itoa;rw[BL O,Ci,Pr]
def Tb(s:ByteArray)(w:G):Calls H 96 #[M s,M ⟨#[45]⟩] w λe a=>e=.returned (.tuple #[M ⟨(JH (Je s)).toArray⟩,F (decide ((Je s).head?=some 45))])/\Bl w a:=by
 refine(GZ s w).mono ?_;rintro e a ⟨rfl,rfl⟩;exact⟨J,BF _ _⟩
def XS(a b:List UInt8):(⟨a.toArray⟩:ByteArray)++⟨b.toArray⟩=⟨(a++b).toArray⟩:=by
 apply ByteArray.ext;simp
def Tc(i:Nat)(p:i<=1099511627776)(w:G)(g:Fo w):
 Calls H 97 #[.int .i64 (i:Int)] w λe l=>e=.returned (M ⟨(X6 i).toArray⟩)/\Bl w l:=by
 by_cases b:i=0
 . subst b;go_enter func97,ntmps97
   go_wp2;go_ret;exact⟨J,BF _ _⟩
 . by_cases c:i=1
   . subst c;go_enter func97,ntmps97
     go_wp2;go_ret;exact⟨J,BF _ _⟩
   . have a:=Z (LM i O w g);have m:((i:Int)==0)=false:=by rw[BJ];omega
     have n:((i:Int)==1)=false:=by rw[BJ];omega
     have d:=Z (show(⟨#[120,94]⟩:ByteArray)++⟨(YP i).toArray⟩=⟨(X6 i).toArray⟩by
      unfold X6;rw[BL b,BL c];exact XS [120,94] (YP i))
     have k:(⟨(YP i).toArray⟩:ByteArray).size<=1000:=by
      show(YP i).toArray.size<=_;rw[Aj];have:=X4 i;have o:(Jb Y i).length<=1:=JE Jc uo;omega
     obtain⟨S,f⟩:∃S:ByteArray,⟨(YP i).toArray⟩=S:=⟨_,J⟩;rw[f]at a d k;clear b c g f;go_enter func97,ntmps97
     go_wp2_with(go_at_call 58;refine a.o.mono ?_;clear a;rintro e q ⟨rfl,j⟩)
     go_ret;exact⟨by rw[<-d.o];rfl,j⟩
def Np(q:Rat):JH (JR q)=JR (YQ q)/\decide ((JR q).head?=some 45)=decide (q<0):=by
 by_cases h:q<0
 . rw[Nj h,TM h];refine⟨J,?_⟩;rw[BM h];rfl
 . rw[Nk h];have a:=TN h;refine⟨by unfold JH;rw[BL a],by rw[BI a,BI h]⟩
def Nq(a b c:List UInt8):(⟨a.toArray⟩:ByteArray)++⟨b.toArray⟩++⟨c.toArray⟩=⟨(a++b++c).toArray⟩:=by rw[XS,XS]
def XV{X a:ByteArray}(h:X=a):Ending.returned (M X)=.returned (M a):=by rw[h]
def Td(va:L)(q:Rat)(i:Nat)(first:Bool)(w:G)(U:Jl w va q)(hs:Sq q)(hi:i<=1099511627776)(ad:Fo w):
 Calls H 53 #[va,.int .i64 (i:Int),F first] w λe w'=>e=.returned (M ⟨(Xl q i first).toArray⟩)/\Bl w w':=by
 obtain⟨s,a,l,c,t,b,k,d,rfl⟩:=U.form;have b0:=JF.new w 38 (F s) (E a l c) (F t) (E b k d);have r:Bl w (w.alloc (C #[F s,E a l c,F t,E b k d] 38)):=Ba w _;obtain⟨W0,T⟩:=ex (w.alloc (C #[F s,E a l c,F t,E b k d] 38));rw[T]at b0 r;obtain⟨y,j,g⟩:=DY T (TJ _ q W0 (U.below r) hs (Js ad r)) λ(V:G)=>Tb ⟨(JR q).toArray⟩ V;rw[show Je ⟨(JR q).toArray⟩=JR q from by simp[Je],(Np q).1,(Np q).2]at g;have m:=Z λ(V:G) (h:Bl W0 V)=>Tc i hi V (Js (Js ad r) h);obtain⟨k0,k1,k2,k3⟩:=b0.cq;have R:(⟨(JR (YQ q)).toArray⟩:ByteArray).size<=2000000000000:=by
  show(JR (YQ q)).toArray.size<=_;rw[Aj];obtain⟨e1,e2⟩:=Gn q;unfold JR;have h1:=X5 (YQ q).num;have K:=X5 ((YQ q).den:Int);have h3:=hs.num.words;have h4:=hs.den.words;rw[e1,Cb]at h1;rw[e2]at K;rw[e1,e2];split
  . omega
  . rw[Ay,Ak];omega
 have Qm:(⟨(X6 i).toArray⟩:ByteArray).size<=2000:=by
  show(X6 i).toArray.size<=_;rw[Aj];have h3:(Jb Y i).length<=1:=JE Jc uo;have:=X4 i;unfold X6;split
  . simp
  . split
    . simp
    . simp only[Ak];omega
 obtain⟨ST,ah⟩:∃S:ByteArray,⟨(JR q).toArray⟩=S:=⟨_,J⟩;obtain⟨v,ae⟩:∃S:ByteArray,⟨(X6 i).toArray⟩=S:=⟨_,J⟩;obtain⟨bl,W⟩:=ex (decide (q<0));rw[ah]at j g;rw[W]at g;rw[ae]at m Qm;have Qj:=Z W;have Ql:=Z ae;clear T U hs ad ah W;obtain⟨P,z⟩:∃S:ByteArray,⟨(JR (YQ q)).toArray⟩=S:=⟨_,J⟩;have Qi:=Z z;have u:=Z (show(bl=true->(⟨#[45]⟩:ByteArray)++⟨(Yx q i).toArray⟩++v=⟨(Xl q i first).toArray⟩)/\(bl=false->first=true->(⟨(Yx q i).toArray⟩:ByteArray)++v=⟨(Xl q i first).toArray⟩)/\(bl=false->first=false->(⟨#[43]⟩:ByteArray)++⟨(Yx q i).toArray⟩++v=⟨(Xl q i first).toArray⟩)by
  rw[<-Ql.o];have N:=Qj.o;refine⟨λh=>?_,λh K=>?_,λh K=>?_⟩
  . rw[h]at N;unfold Xl XM;rw[BR (Bj N)];exact Nq [45] _ _
  . rw[h]at N;unfold Xl XM;rw[BL (of_decide_eq_false N),K];exact(XS _ _)
  . rw[h]at N;unfold Xl XM;rw[BL (of_decide_eq_false N),K];exact Nq [43] _ _)
 by_cases x:JR (YQ q)=[49]
 . by_cases Q:0<i
   . have Qk:(0:Int)<(i:Int):=O
     rw[show Yx q i=[]from by unfold Yx;rw[BR ⟨x,Q⟩]]at u;rw[x]at g R;clear x Q z Qi;cases bl
     . cases first
       . go_enter func53,ntmps53
         go_upto_region 1 with fail
         rw[y.o];go_wp2_with(first
          |(go_at_call 16;refine j.o.mono ?_;clear j;rintro e A ⟨rfl,n⟩)
          |(go_at_call 96;refine(g.o _).mono ?_;clear g;rintro e B ⟨rfl,o⟩;have f:=Bt n o)
          |(go_at_call 97;refine(m.o _ f).mono ?_;clear m;rintro e D ⟨rfl,p⟩))
         go_ret;refine⟨?_,Bt r (Bt f p)⟩;exact XV (X:=(⟨#[43]⟩:ByteArray)++⟨#[]⟩++v) (u.o.2.2 (by first|rfl|trivial) (by first|rfl|trivial))
       . go_enter func53,ntmps53
         go_upto_region 1 with fail
         rw[y.o];go_wp2_with(first
          |(go_at_call 16;refine j.o.mono ?_;clear j;rintro e A ⟨rfl,n⟩)
          |(go_at_call 96;refine(g.o _).mono ?_;clear g;rintro e B ⟨rfl,o⟩;have f:=Bt n o)
          |(go_at_call 97;refine(m.o _ f).mono ?_;clear m;rintro e D ⟨rfl,p⟩))
         go_ret;refine⟨?_,Bt r (Bt f p)⟩;exact XV (X:=(⟨#[]⟩:ByteArray)++v) (u.o.2.1 (by first|rfl|trivial) (by first|rfl|trivial))
     . go_enter func53,ntmps53
       go_upto_region 1 with fail
       rw[y.o];go_wp2_with(first
        |(go_at_call 16;refine j.o.mono ?_;clear j;rintro e A ⟨rfl,n⟩)
        |(go_at_call 96;refine(g.o _).mono ?_;clear g;rintro e B ⟨rfl,o⟩;have f:=Bt n o)
        |(go_at_call 97;refine(m.o _ f).mono ?_;clear m;rintro e D ⟨rfl,p⟩))
       go_ret;refine⟨?_,Bt r (Bt f p)⟩;exact XV (X:=(⟨#[45]⟩:ByteArray)++⟨#[]⟩++v) (u.o.1 (by first|rfl|trivial))
   . have Qk:¬(0:Int)<(i:Int):=O
     rw[show Yx q i=[49]from by unfold Yx;rw[BL λh=>Q h.2,x]]at u;rw[x]at g R;clear x Q z Qi;cases bl
     . cases first
       . go_enter func53,ntmps53
         go_upto_region 1 with fail
         rw[y.o];go_wp2_with(first
          |(go_at_call 16;refine j.o.mono ?_;clear j;rintro e A ⟨rfl,n⟩)
          |(go_at_call 96;refine(g.o _).mono ?_;clear g;rintro e B ⟨rfl,o⟩;have f:=Bt n o)
          |(go_at_call 97;refine(m.o _ f).mono ?_;clear m;rintro e D ⟨rfl,p⟩))
         go_ret;refine⟨?_,Bt r (Bt f p)⟩;exact XV (X:=(⟨#[43]⟩:ByteArray)++⟨#[49]⟩++v) (u.o.2.2 (by first|rfl|trivial) (by first|rfl|trivial))
       . go_enter func53,ntmps53
         go_upto_region 1 with fail
         rw[y.o];go_wp2_with(first
          |(go_at_call 16;refine j.o.mono ?_;clear j;rintro e A ⟨rfl,n⟩)
          |(go_at_call 96;refine(g.o _).mono ?_;clear g;rintro e B ⟨rfl,o⟩;have f:=Bt n o)
          |(go_at_call 97;refine(m.o _ f).mono ?_;clear m;rintro e D ⟨rfl,p⟩))
         go_ret;refine⟨?_,Bt r (Bt f p)⟩;exact XV (X:=(⟨#[49]⟩:ByteArray)++v) (u.o.2.1 (by first|rfl|trivial) (by first|rfl|trivial))
     . go_enter func53,ntmps53
       go_upto_region 1 with fail
       rw[y.o];go_wp2_with(first
        |(go_at_call 16;refine j.o.mono ?_;clear j;rintro e A ⟨rfl,n⟩)
        |(go_at_call 96;refine(g.o _).mono ?_;clear g;rintro e B ⟨rfl,o⟩;have f:=Bt n o)
        |(go_at_call 97;refine(m.o _ f).mono ?_;clear m;rintro e D ⟨rfl,p⟩))
       go_ret;refine⟨?_,Bt r (Bt f p)⟩;exact XV (X:=(⟨#[45]⟩:ByteArray)++⟨#[49]⟩++v) (u.o.1 (by first|rfl|trivial))
 . have Qh:¬P=(⟨#[49]⟩:ByteArray):=by
    intro h;apply x;rw[<-z]at h;have K:=DA (λb:ByteArray=>b.data.toList) h;simpa using K
   have ai:¬P.toList=[49]:=by
    rw[Y7,<-z];simpa using x
   clear Qh;rw[show Yx q i=JR (YQ q)from by unfold Yx;rw[BL λh=>x h.1],z]at u;rw[z]at g R;clear x z;cases bl
   . cases first
     . go_enter func53,ntmps53
       go_upto_region 1 with fail
       rw[y.o];go_wp2_with(first
        |(go_at_call 16;refine j.o.mono ?_;clear j;rintro e A ⟨rfl,n⟩)
        |(go_at_call 96;refine(g.o _).mono ?_;clear g;rintro e B ⟨rfl,o⟩;have f:=Bt n o)
        |(go_at_call 97;refine(m.o _ f).mono ?_;clear m;rintro e D ⟨rfl,p⟩))
       go_ret;refine⟨?_,Bt r (Bt f p)⟩;exact XV (X:=(⟨#[43]⟩:ByteArray)++P++v) (u.o.2.2 (by first|rfl|trivial) (by first|rfl|trivial))
     . go_enter func53,ntmps53
       go_upto_region 1 with fail
       rw[y.o];go_wp2_with(first
        |(go_at_call 16;refine j.o.mono ?_;clear j;rintro e A ⟨rfl,n⟩)
        |(go_at_call 96;refine(g.o _).mono ?_;clear g;rintro e B ⟨rfl,o⟩;have f:=Bt n o)
        |(go_at_call 97;refine(m.o _ f).mono ?_;clear m;rintro e D ⟨rfl,p⟩))
       go_ret;refine⟨?_,Bt r (Bt f p)⟩;exact XV (X:=(P:ByteArray)++v) (u.o.2.1 (by first|rfl|trivial) (by first|rfl|trivial))
   . go_enter func53,ntmps53
     go_upto_region 1 with fail
     rw[y.o];go_wp2_with(first
      |(go_at_call 16;refine j.o.mono ?_;clear j;rintro e A ⟨rfl,n⟩)
      |(go_at_call 96;refine(g.o _).mono ?_;clear g;rintro e B ⟨rfl,o⟩;have f:=Bt n o)
      |(go_at_call 97;refine(m.o _ f).mono ?_;clear m;rintro e D ⟨rfl,p⟩))
     go_ret;refine⟨?_,Bt r (Bt f p)⟩;exact XV (X:=(⟨#[45]⟩:ByteArray)++P++v) (u.o.1 (by first|rfl|trivial))
theorem Nr(B b:Nat)(l:List UInt8)(w:G)(h:Lib.IsBuilder 89 5 B b (Lib.byteCells l) w):Calls H 54 #[I (some ⟨b,0,none⟩)] w λe a=>e=.returned (.int .i64 (l.length:Int))/\Bl w a:=by
 refine(Tryz.Builder_Len B b _ w h).mono ?_;rintro e a ⟨rfl,rfl⟩;grind[B5,BF]
def Ns(w:G)(b:Nat)(a:V8)(len cap:Nat)(qs:U)(k:Nat)(W:G):Prop:=
 (Boxed W (b+1) 23 (E a len cap)/\Bl w W)/\Lib.IsBuilder 89 5 b b (Lib.byteCells (JO (qs.drop (len-k)) (len-k))) W
def Te(w:G)(b:Nat)(a:V8)(len cap:Nat)(qs:U)(d:w.heap.size<=b):OwnFrom (b+1+1) (Ns w b a len cap qs):=
 BS (BS (Bk (boxed_own _ _ λ_=>E a len cap) _) (Bu (Aa _) O)) λ_ _ _ _ h hg c=>K1 h hg c
def FE(w W:G)(c b:Nat)(a:V8)(len cap:Nat)(x y z u:L)(T:List UInt8)(V:G):Prop:=
 ((Boxed V (c+1) 23 (E a len cap)/\Bl w V)/\Lib.IsBuilder 89 5 c c (Lib.byteCells T) V)/\KeepsOthers W V/\JF V b 38 x y z u/\c+1<V.heap.size
def FE.below{w W:G}{d b:Nat}{a:V8}{len cap:Nat}{x y z u:L}{T:List UInt8}{V V':G}(h:FE w W d b a len cap x y z u T V)(c:Bl V V'):FE w W d b a len cap x y z u T V':=
 ⟨⟨⟨boxed_below h.1.1.1 c,Bt h.1.1.2 c⟩,YT h.1.2 c⟩,h.2.1.trans (J0 c),h.2.2.1.below c,Al h.2.2.2 c.size⟩
def FE.write{w W:G}{c b:Nat}{a:V8}{len cap:Nat}{x y z u:L}{T n:List UInt8}{V V':G}(h:FE w W c b a len cap x y z u T V)(s:w.heap.size<=c)(q:b≠c){bs:List L}
(r:Lib.BuilderAt 89 5 c c (I (some ⟨c,0,none⟩)) bs V')(l:Below c V V')(m:∀k o,V.heap[k]?=some o->k≠c->(∀f z,o≠C f 5 z)->V'.heap[k]?=some o)(e:bs=Lib.byteCells n):FE w W c b a len cap x y z u n V':=by
 refine⟨⟨⟨m _ _ h.1.1.1 O (λf z e=>by cases e),h.1.1.2.trans (l.mono s)⟩,Ar (by rw[<-e];exact r)⟩,h.2.1.trans ⟨l.size,λk o d g=>?_⟩,m _ _ h.2.2.1 q (λf z e=>by cases e),Al h.2.2.2 l.size⟩;by_cases p:k=c
 . subst p;rcases h.1.2 with i|i
   . obtain⟨_,v,j,_⟩:=i;rw[j]at d;cases d;cases g
   . obtain⟨_,v,j,_⟩:=i;rw[j]at d;cases d;cases g
 . exact m k o d p (λf z e=>by rw[e]at g;cases g)
def F7(w W:G)(c b:Nat)(a:V8)(len cap:Nat)(x y z u:L)(T:List UInt8)(q:Rat)(V:G):Prop:=FE w W c b a len cap x y z u T V/\Jl V (.agg #[x,y,z,u]) q
def F7.below{w W:G}{c b:Nat}{a:V8}{len cap:Nat}{x y z u:L}{T:List UInt8}{q:Rat}{V V':G}(h:F7 w W c b a len cap x y z u T q V)(d:Bl V V'):F7 w W c b a len cap x y z u T q V':=⟨h.1.below d,h.2.below d⟩
def Yt(v:L)(qs:List Rat)(w:G)(hp:Jt w v qs)(hs:Sqs qs)(hT:∀m,(JO (qs.drop m) m).length<=140737488355328)(bz:Fo w):
 Calls H 13 #[v] w λe w'=>e=.returned (M ⟨(Xm qs).toArray⟩)/\Bl w w':=by
 obtain⟨u0,rfl,h⟩:=hp;obtain⟨a,len,cap,rfl⟩:=h.form;obtain⟨hl,di,dj,de,s,t,aa,bb,ll,cc,kk,dd,hc⟩:=h.forms;obtain⟨HL,B,HS,Ub,Qp⟩:=Ez hl hc hs hT bz;clear hc hl hs h hT bz;obtain⟨W0,ah⟩:=ex (((w.alloc (C #[E a len cap] 25)).alloc (C #[I none,E none 0 0] 89)).alloc (C #[E a len cap] 23));obtain⟨d,aj⟩:=ex (w.heap.size+1);have hN:W0.heap.size=d+1+1:=by rw[<-ah,<-aj];simp
 have x2:Boxed W0 (d+1) 23 (E a len cap):=by
  have R:=BK ((w.alloc (C #[E a len cap] 25)).alloc (C #[I none,E none 0 0] 89)) 23 (E a len cap);rw[ah]at R;simpa[aj]using R
 have x3:Bl w W0:=by rw[<-ah];exact((Ba w _).alloc DJ _).alloc si _
 have x5:Lib.IsBuilder 89 5 d d (Lib.byteCells (JO (qs.drop (len-0)) (len-0))) W0:=by
  refine An ⟨Aa _,E none 0 0,?_,?_,by simp[Value.ownBlock]⟩
  . rw[<-ah,<-aj];have R:=BG (w.alloc (C #[E a len cap] 25)) (C #[I none,E none 0 0] 89);rw[A1]at R;exact(Bn _ _ _ DJ).trans R
  . rw[AC (by have:=HL.o;omega)];exact⟨J,An ⟨J,J⟩⟩
 have Qr:=Z ah;have Qk:=Z aj;have Qj:w.heap.size<=d:=O
 clear ah;refine(BN (n:=3)).1 ?_;refine BW func13 J trivial ?_ J;simp only[ntmps13,Aj,Ak,AO,Nat.reduceAdd,Nat.reduceSub,At,Au,AK,AA,Ai,Ao];gi_wp2_with(refine⟨trivial,?_⟩;gi_at_call 50;refine(LG Fence.wide _ trivial J _ _ _ _).mono ?_;rintro e w' ⟨rfl,rfl⟩)
 rw[Qr.o];try simp only[Qk.o]
 clear aj;refine L6 J O (gf:=94) (lb:=#[I (some ⟨d+1,0,none⟩)]) J trivial (DF func94 V9 J)
  (LF Fence.wide _ trivial J O (d+1) a len cap (λj=>F (s j)) (λj=>E (aa j) (ll j) (cc j)) (λj=>F (t j)) (λj=>E (bb j) (kk j) (dd j)) de) (λ_=>rfl)
  (Ns w d a len cap qs) (λ_ _ _=>False) (by rw[hN];exact Te w d a len cap qs Qj) (λc s W W' row h=>h.elim) ⟨⟨x2,x3⟩,x5⟩ ?rd
  (λk b=>{ tmps:=#[.agg #[E a len cap],I (some ⟨w.heap.size,0,none⟩),M ⟨#[]⟩,I (some ⟨d,0,none⟩),.int .i64 ((len:Int)-1-k),I (some ⟨b,0,none⟩),I (some ⟨w.heap.size,0,none⟩),E a len cap,.func (.func 94) #[] #[I (some ⟨d+1,0,none⟩)],.int .i64 ((len:Int)-1-k),.agg #[F (s (len-1-k)),E (aa (len-1-k)) (ll (len-1-k)) (cc (len-1-k)),F (t (len-1-k)),E (bb (len-1-k)) (kk (len-1-k)) (dd (len-1-k))],undef,undef,undef,undef,undef,undef,undef,undef,undef,undef,undef,undef],defers:=[] })
  (λk=>C #[F (s (len-1-k)),E (aa (len-1-k)) (ll (len-1-k)) (cc (len-1-k)),F (t (len-1-k)),E (bb (len-1-k)) (kk (len-1-k)) (dd (len-1-k))] 38 (0,0)) ?assign ?body ?done ?stop
 case stop=>intro D c k W _ _ h;exact h.elim
 case rd=>
  intro k W bc;have hB:=bc.1.2;refine⟨bc.1.1.cell,λhk=>?_⟩;obtain⟨_,b,ea,hb,R,N,h3,h4⟩:=B.o (len-1-k) O;exact⟨b,ea,(hB.cell (p:=⟨b,_,none⟩) hb).trans R,(hB.cell (p:=⟨b,_,none⟩) hb).trans N,(hB.cell (p:=⟨b,_,none⟩) hb).trans h3,(hB.cell (p:=⟨b,_,none⟩) hb).trans h4⟩
 case assign=>
  intro l k W K U;unfold Gk;gi_wp2;exact U
 case done=>
  rintro D W hD ⟨⟨y1,y2⟩,A⟩ U;rw[show qs.drop (len-len)=qs from by rw[AY];rfl,AY]at A;have Qf:d<=W.heap.size:=by have:=y1.lt;omega
  have HY:=Z A;have Qd:=Z (Nr d d _ W A);clear A;by_cases am:JO qs 0=[]
  . have Qe:=Z (show Xm qs=[48]by unfold Xm;rw[BR am]);rw[am]at Qd;gi_wp2_with(refine⟨trivial,?_⟩;gi_at_call 54;refine((BN (n:=_)).2 Qd.o).mono ?_;rintro e w6 ⟨rfl,ai⟩)
    have Qh:w6.heap[D]?=some (.deferred (some [])):=(J0 ai).same D _ U J;refine⟨DJ,.inl ⟨_,_,J,Be Qh,?_⟩⟩;refine⟨M ⟨#[48]⟩,by simp[results,results13,go_sem],by rw[Qe.o],?_⟩;exact below_grown (Bt y2 ai) (BX _ D (.deferred none)) O
  . have Qe:=Z (show Xm qs=JO qs 0 by unfold Xm;rw[BL am]);have Qn:((JO qs 0).length:Int)≠0:=by
     have:0<(JO qs 0).length:=Ap.2 am
     omega
    have Qz:(((JO qs 0).length:Int)==0)=false:=by rw[BJ];exact Qn
    have Ql:=Z λ(V:G) (h:Bl W V)=>Tryz.Builder_String_any_k d d (JO qs 0) V (Lib.IsBuilderF.of (YT HY.o h)) (As Qf h.size);obtain⟨n,hn⟩:=ex ((JO qs 0).length);rw[hn]at Qd Qz Qn;obtain⟨ST,aq⟩:∃S:ByteArray,⟨(JO qs 0).toArray⟩=S:=⟨_,J⟩;rw[aq]at Ql;have Qt:=Z (show⟨(Xm qs).toArray⟩=ST by rw[Qe.o];exact aq);clear am hn aq HY;gi_wp2_with(first
     |(refine⟨trivial,?_⟩;gi_at_call 54;refine((BN (n:=_)).2 Qd.o).mono ?_;clear Qd;rintro e w6 ⟨rfl,ai⟩)
     |(refine⟨trivial,?_⟩;gi_at_call 55;refine((BN (n:=_)).2 (Ql.o _ ai)).mono ?_;clear Ql;rintro e w7 ⟨rfl,_,cj,cz⟩))
    have Qh:w6.heap[D]?=some (.deferred (some [])):=(J0 ai).same D _ U J;have Qs:=cz D _ Qh (λe=>by cases e;omega) (λc fz e=>by cases e);refine⟨DJ,.inl ⟨_,_,J,Be Qs,?_⟩⟩;refine⟨M ST,by simp[results,results13,go_sem],by rw[Qt.o],?_⟩;exact below_grown ((Bt y2 ai).trans (cj.mono Qj)) (BX _ D (.deferred none)) O
 case body=>
  rintro l k b W ⟨⟨y1,y2⟩,A⟩ hk dh cn az;have hm:len-1-k<len:=O
  obtain⟨hi,_⟩:=B.o (len-1-k) hm;have HI:=Z (Jl.below hi y2);have e1:((len:Int)-1-k)=((len-1-k:Nat):Int):=O
  have ek:len-k=len-1-k+1:=O
  rw[e1];rw[ek]at A;have Qi:=Z (show len-(k+1)=len-1-k by omega);clear e1 hi ek;obtain⟨m,bm⟩:=ex (len-1-k);rw[bm]at az HI hm A Qi ⊢;have HM:=Z (show m<qs.length by have:=HL.o;omega);obtain⟨Qc,Qw,Qg⟩:=DY (XC qs HM.o) (Ub.o m) (HS.o.at m);have Qu:m<=1099511627776:=O
  clear bm;have q0:JF W b 38 (F (s m)) (E (aa m) (ll m) (cc m)) (F (t m)) (E (bb m) (kk m) (dd m)):=az;obtain⟨s1,bt⟩:=ex (s m);obtain⟨t1,bu⟩:=ex (t m);obtain⟨a1,bf⟩:=ex (aa m);obtain⟨b1,bg⟩:=ex (bb m);obtain⟨l1,bk⟩:=ex (ll m);obtain⟨c1,bh⟩:=ex (cc m);obtain⟨m1,bn⟩:=ex (kk m);obtain⟨d1,bj⟩:=ex (dd m);rw[bt,bu,bf,bg,bk,bh,bn,bj]at q0 HI ⊢;obtain⟨T,bd⟩:=ex (JO (qs.drop (m+1)) (m+1));rw[bd]at A Qc;obtain⟨q,bi⟩:∃y,cf qs m=y:=⟨_,J⟩;rw[bi]at HI Qc Qg;have hS:FE w W d b a len cap (F s1) (E a1 l1 c1) (F t1) (E b1 m1 d1) T W:=⟨⟨⟨y1,y2⟩,A⟩,KeepsOthers.refl W,q0,by have:=y1.lt;omega⟩;have Qy:b≠d:=O
  clear bt bu bf bg bk bh bn bj bd bi y1 y2 A az dh cn;obtain⟨k0,k1,k2,k3⟩:=q0.cq;have HZ:=Z λ(X:Nat)=>Bh l ((BN (n:=X)).2 (Na _ q W HI.o Qg.o));by_cases hx:q=0
  . rw[show decide (q=0)=true from BM hx]at HZ;have HX:=Z hx;clear hx;gi_wp2_with(refine⟨trivial,?_⟩;gi_at_call 51;refine(HZ.o _).mono ?_;rintro e w' ⟨rfl,an⟩)
    have ae:=hS.below an;refine⟨ae.2.1.from _,ae.1.1,?_⟩;rw[Qi.o,Qc.o,BR HX.o];exact ae.1.2
  . rw[show decide (q=0)=false from BI hx]at HZ;have HX:=Z hx;clear hx;gi_wp2_with(refine⟨trivial,?_⟩;gi_at_call 51;refine(HZ.o _).mono ?_;clear HZ;rintro e w' ⟨rfl,an⟩)
    have ae:=hS.below an;have ce:=Z (HI.o.below an);clear hS k0 k1 k2 k3 q0 HI;obtain⟨n,hn⟩:=ex (T.length);obtain⟨f,hf⟩:=ex (T.isEmpty);have du:((n:Int)==0)=f:=by
     rw[<-hf,<-hn,Cg,beq_iff_eq,List.isEmpty_iff_length_eq_zero];omega
    rw[BL HX.o,hf]at Qc;have HN:=Z hn;have Qm:=Z (show T.length+(Xl q m f).length<=140737488355328 by
     have:=Qw.o;rw[Qc.o,Ay]at this;exact this)
    have Qq:F7 w W d b a len cap (F s1) (E a1 l1 c1) (F t1) (E b1 m1 d1) T q w'.drew:=F7.below ⟨ae,ce.o⟩ ((BF _ w').drew);have Qv:=Z λ(V:G) (h:Bl w V)=>Js Qp.o h;obtain⟨TX,ak⟩:∃S:ByteArray,⟨(Xl q m f).toArray⟩=S:=⟨_,J⟩;obtain⟨Qe,Ua,Qx,Qo⟩:=Dr ak (show T.length+TX.size<=140737488355328 by rw[<-ak];show _+(Xl q m f).toArray.size<=_;rw[Aj];exact Qm.o) (show Lib.byteCells T++Lib.strCells TX=Lib.byteCells (T++Xl q m f)by rw[<-ak];simp[Lib.byteCells,Lib.strCells]) λ(V:G) (u:L) (hu:Jl V u q) (h:Bl w V)=>Td u q m f V hu Qg.o Qu (Qv.o V h);rw[ak]at Qo;clear ae hn hf ak;refine YY Dm [[],[],[],[2],[0,1,3,2],[4,4]] V9 DQ
     (λD ap V=>∃(ta tb tc td te tf:L),ap={ tmps:=#[.agg #[E a len cap],I (some ⟨w.heap.size,0,none⟩),M { data:=#[] },I (some ⟨d,0,none⟩),.int .i64 ↑m,I (some ⟨b,0,none⟩),I (some ⟨w.heap.size,0,none⟩),E a len cap,.func (.func 94) #[] #[I (some ⟨d+1,0,none⟩)],.int .i64 ↑m,.agg #[F s1,E a1 l1 c1,F t1,E b1 m1 d1],.agg #[F s1,E a1 l1 c1,F t1,E b1 m1 d1],F false,F true,ta,tb,tc,td,te,tf,undef,undef,undef],defers:=[] }/\Hid ((D 0=true->D 5=false->Jl V ta q)/\(D 1=true->tb=.int .i64 (m:Int))/\(D 2=true->tc=.int .i64 (n:Int))/\(D 3=true->td=F f)/\(D 4=true->te=M TX)/\(D 5=true->True))/\Hid ((D 5=false->F7 w W d b a len cap (F s1) (E a1 l1 c1) (F t1) (E b1 m1 d1) (T) q V)/\(D 5=true->FE w W d b a len cap (F s1) (E a1 l1 c1) (F t1) (E b1 m1 d1) (T++Xl q m f) V)))
     ⟨_,_,_,_,_,_,J,Z DJ,Z ⟨λ_=>Qq,DJ⟩⟩ ?step1 ?fin1
    case step1=>
     rintro D ap V i ds Q hi x ad ⟨ta,tb,tc,td,te,tf,rfl,g,o⟩;have dt:i<6:=(Ax.1 hi).1;obtain rfl|rfl|rfl|rfl|rfl|rfl:=Le i O
     all_goals
      simp only[AZ,AR,A0]at hi;subst hi
     . have z:D 5=false:=DU Q (DU (a:=4) Q ad);have r:=o.o.1 z;obtain⟨e0,e1,e2,e3⟩:=r.1.2.2.1.cq;clear x;refine ED ?_;exact⟨(Kc (Fc g λ_ _=>r.2) λ_=>trivial),o⟩
     . have z:D 5=false:=DU Q (DU (a:=4) Q ad);have r:=o.o.1 z;clear x;refine ED ?_;exact⟨(Kc (Fw g) λ_=>trivial),o⟩
     . have z:D 5=false:=DU Q (DU (a:=4) Q ad);have r:=o.o.1 z;clear x;have B:=Z λ(X:Nat)=>Bh l ((BN (n:=X)).2 (Nr d d T V r.1.1.2));rw[HN.o]at B;refine Bg J λK U=>?_;go_simp;gi_wp2_with(refine⟨trivial,?_⟩;gi_at_call 54;refine(B.o _).mono ?_;rintro e w5 ⟨rfl,P⟩)
       exact⟨_,_,_,_,_,_,J,Z ⟨λh N=>(g.o.1 h N).below P,g.o.2.1,λ_=>rfl,g.o.2.2.2.1,g.o.2.2.2.2.1,λ_=>trivial⟩,Z ⟨λh=>(o.o.1 h).below P,λh=>(o.o.2 h).below P⟩⟩
     . have z:D 5=false:=DU Q (DU (a:=4) Q ad);have r:=o.o.1 z;obtain rfl:=g.o.2.2.1 (x 2 DJ);clear x;refine ED ?_;exact⟨Z ⟨g.o.1,g.o.2.1,λ_=>rfl,λ_=>rfl,g.o.2.2.2.2.1,λ_=>trivial⟩,o⟩
     . have z:D 5=false:=DU Q ad;have r:=o.o.1 z;have h0:=g.o.1 (x 0 DJ) z;obtain rfl:=g.o.2.1 (x 1 DJ);obtain rfl:=g.o.2.2.2.1 (x 3 DJ);clear x;have B:=Z λ(X:Nat)=>Bh l ((BN (n:=X)).2 (Qo.o V _ h0 r.1.1.1.2));clear h0;refine Bg J λK U=>?_;go_simp;gi_wp2_with(refine⟨trivial,?_⟩;gi_at_call 53;refine(B.o _).mono ?_;rintro e w5 ⟨rfl,P⟩)
       exact⟨_,_,_,_,_,_,J,Z ⟨λh N=>(g.o.1 h N).below P,λ_=>rfl,g.o.2.2.1,λ_=>rfl,λ_=>rfl,λ_=>trivial⟩,Z ⟨λh=>(o.o.1 h).below P,λh=>(o.o.2 h).below P⟩⟩
     . have r:=o.o.1 ad;obtain rfl:=g.o.2.2.2.2.1 (x 4 DJ);clear x;have B:=Z λ(X:Nat)=>Bh l ((BN (n:=X)).2 (XJ d d _ TX V r.1.1.2 (by rw[B5];exact Ua.o) (by have:=r.1.2.2.2;omega)));refine Bg J λK U=>?_;go_simp;gi_wp2_with(refine⟨trivial,?_⟩;gi_at_call 52;refine(B.o _).mono ?_;rintro e w5 ⟨⟨v5,rfl⟩,⟨ck,P⟩,co⟩)
       exact⟨_,_,_,_,_,_,J,Z ⟨λ_ h=>by simp at h,g.o.2.1,g.o.2.2.1,g.o.2.2.2.1,λ_=>rfl,λ_=>trivial⟩,Z ⟨λh=>by simp at h,λ_=>r.1.write Qj Qy ck P co Qx.o⟩⟩
    case fin1=>
     rintro D ap V cg ⟨ta,tb,tc,td,te,tf,rfl,g,o⟩;have N:=o.o.2 (cg 5 DQ);refine⟨N.2.1.from _,N.1.1,?_⟩;rw[Qi.o,Qc.o];exact N.1.2
section
open M3
end
namespace M3
def row_zero(V:G)(a:V8):RowK true V (E a 0 0) []:=⟨a,0,J,Aa _,O,DJ,An J⟩
def Tf(V:G):Has V (.agg #[E Option.none 0 0]) (.poly []):=⟨_,J,row_zero V Option.none⟩
def DM.poly2{w V:G}{bs:List (Option (Nat × Dat))}(b:DM w V bs){i B:Nat}{ps:U}(h:bs[i]?=some (some (B,.poly ps))):∃a l c,Boxed V B 25 (E a l c)/\Jt V (.agg #[E a l c]) ps:=by
 obtain⟨a,l,c,d,e⟩:=b.poly h;exact⟨a,l,c,d,_,J,e⟩
def Has.set1{V:G}{v:L}{d:Dat}(h:Has V v d){B:Nat}{a:V8}{l c:Nat}(q:Boxed V B 25 (E a l c))(e:JA (E a l c)=true)(b:L):Has (V.setCell ⟨B,0,Option.none⟩ b) v d:=
 h.keep (NG q e b) (Ar λ_ _ g=>Ei q b g)
def EZ.set1{V:G}{v:L}{d1 d:Dat}(h:EZ V v d1 d){B:Nat}{a:V8}{l c:Nat}(q:Boxed V B 25 (E a l c))(f:JA (E a l c)=true)(b:L):EZ (V.setCell ⟨B,0,Option.none⟩ b) v d1 d:=by
 obtain⟨u1,u2,e,g,i⟩:=h;exact⟨u1,u2,e,g.set1 q f b,i.set1 q f b⟩
section
variable {w V:World} {bs:List (Option (Nat × Dat))} {B:Nat} {ρ:Operand->Value} {x y:Operand} {dst:Option Tmp} {ty:TypeId} {ps:String} {af:Array Edge} {gd:Option (Nat × Bool)} {q q0:Rat} {z z0:Int} {p p0:U} {v p1 u1:Value} {ds:List Dat} {T:World->Value->Prop}
def Nt(i:Nat)(f:DM w V bs)(b:Has V u1 (.poly p))(h:bs[i]?=some (some (B,.poly p0)):=by rfl)(hp:p1=I (some ⟨B,0,none⟩):=by rfl)(g:ρ x=p1:=by kernel_rfl)(j:ρ y=u1:=by kernel_rfl)(hT:∀ {a l c x},Boxed V B 25 (E a l c)->DM w (V.setCell ⟨B,0,none⟩ x) (bs.set i (some (B,.poly p)))->T (V.setCell ⟨B,0,none⟩ x) undef:=by exact λ_ m=>m):Wr ρ { dst:=none,op:=.store 25 x y,type:=ty,pos:=ps,after:=af,guard:=gd } V ds (.eq undef) T:=by
 rw[hp]at g;obtain⟨a,l,c,n,r⟩:=f.poly2 h;have q:=n.cell;have f0:=n.frozen;obtain⟨o,s,c1,e⟩:=Jt.form (show Jt V _ _ from b);rw[e]at b;rw[e]at j;exact⟨.skip,undef,_,by go_simp,Ar ⟨J,J⟩,J,λd v _ k=>k.set1 n J _,hT n (f.putPoly h b)⟩
end
