import Derived.Test.YtcahejkcdcjjgaaGreatDoorW25
set_option linter.all false
open Go.Value renaming slice->C,bool->E,pointer->H,string->P
open Go.Obj renaming cells->F
open Go renaming World->G,undef->L,Value->N
open Go.Proofs.Tryz renaming prog->I
set_option maxRecDepth 99999
set_option maxHeartbeats 0
namespace Go.Proofs.YtcahejkcdcjjgaaGreatDoor
open Proofs.Tryz
open Go.RowKit Go.Shelf
attribute [local go_sem] Oper.semAt_some
def UY{W:G}{B:Nat}(q:JA W B 38 (E false) (C none 0 0) (E false) (C none 0 0)){v:N}{p:Rat}(h:Jk W v p)(x y z u:N):Jk (put4 W B x y z u) v p:=h.put4 q J J J J _ _ _ _
def UZ(v:N)(q:Rat)(w:G)(h:Jk w v q)(g:Sq q):
 Calls I 79 #[v] w λe K=>∃u,e=.returned u/\JB K u (Jg [q])/\KF w.heap.size u/\Bl w K:=by
 obtain⟨s,a,l,c,t,b,k,d,rfl⟩:=h.form;obtain⟨W0,f⟩:=ex ((w.alloc (F #[E s,C a l c,E t,C b k d] 38)).alloc (F #[C none 0 0] 25));have b0:JA W0 w.heap.size 38 (E s) (C a l c) (E t) (C b k d):=by rw[<-f];exact(JA.new w _ _ _ _ _).alloc _
 have T:Boxed W0 (w.heap.size+1) 25 (C none 0 0):=by rw[<-f];have:=BJ (w.alloc (F #[E s,C a l c,E t,C b k d] 38)) 25 (C none 0 0);simpa using this
 have r:Bl w W0:=by rw[<-f];exact(Ba w _).alloc DJ _
 obtain⟨m,o⟩:=ex (W0.alloc (F #[E s,C a l c,E t,C b k d] 38));have A:Bl W0 m:=by rw[<-o];exact Ba W0 _
 have B:De true m W0.heap.size [q]:=by
  refine⟨#[E s,C a l c,E t,C b k d],by rw[<-o];exact BC W0 _,λj W=>?_⟩;have M:j=0:=by simpa using W
  subst M;exact⟨_,_,_,_,J,J,J,J,by rw[Yg];exact(h.below r).below A⟩
 have z:RowK true m (C (some ⟨W0.heap.size,0,none⟩) 1 1) [q]:=by
  have:=B.row (n:=1) (cap:=1) DJ (Aa _) O O;simpa using this
 have y:=Z (Gi _ [q] m z (Sqs.of λi=>by
  cases i with
   |zero=>rw[Yg];exact g
   |succ i=>rw[Yb,YZ];exact Fl))
 have Q:=Z f;have R:=Z o;obtain⟨k0,k1,k2,k3⟩:=b0.cq;clear f o h g B z;go_enter func79,ntmps79
 go_upto_region 1 with fail
 rw[Q.o];go_wp2_with(go_at_call 65;rw[R.o];refine y.o.mono ?_;clear y;rintro e w2 ⟨u2,rfl,D,V,U⟩;obtain⟨ua,ul,uc,rfl⟩:=D.form;have g:=Bt A U;have x:=boxed_below T g;have X:=x.cell;have f9:=x.frozen)
 refine BA (v:=.agg #[C ua ul uc]) (by simp[results,results79,go_sem,X]) J ⟨_,J,⟨_,J,EI x _ D.row⟩,?_,(Bt r g).setCell (p:=⟨w.heap.size+1,0,none⟩) DJ _⟩;intro S l' c' e;have:=V W0.heap.size (λa l c e=>by cases e;exact Aa _) S l' c' e;have h2:=r.size;omega
namespace M3
def L2(V:G)(t:N)(q:Rat):Prop:=∃v,t=.iface 38 v/\Jk V v q
def L2.below{V V':G}{t:N}{q:Rat}(h:L2 V t q)(b:Bl V V'):L2 V' t q:=by
 obtain⟨v,e,a⟩:=h;exact⟨v,e,a.below b⟩
def Ok(v:N)(V:G):(method 371 38 v "Times").run I V=.ok (41,v) V:=by kernel_rfl
def Ol(v:N)(V:G):(method 371 38 v "Plus").run I V=.ok (40,v) V:=by kernel_rfl
def GF(ps qs:K):Prop:=(∀i a,Sq (cf ps i*cf qs a))/\∀n i a k,Sq (cf (YW (YC ps qs n i) i (cf ps i) qs a) k)
def U0(a b:Zu)(la ca lb cb:Nat)(ps qs:List Rat)(w:G)(ha:RowK true w (C a la ca) ps)(hb:RowK true w (C b lb cb) qs)(aq:Sqs ps)(ay:Sqs qs)(ap:GF ps qs)(bn:ps.length+qs.length<=1099511627776):
 Calls I 68 #[C a la ca,C b lb cb] w λe w'=>∃v g,e=.returned v/\RowK true w' v g/\(∀c,cf g c=cf (EK ps qs) c)/\Sqs g/\Lw w.heap.size v/\Bl w w':=by
 obtain⟨ak,bh,bj,cj,s,t,aa,bb,ll,cc,kk,dd,hc⟩:=ha.forms;obtain⟨an,bi,bk,ck,s',t',bc,bd,bz,bf,bu,bg,aj⟩:=hb.forms;obtain⟨n,hn⟩:∃n:Nat,max (0:Int) ((la:Int)+(lb:Int)-1)=(n:Int):=⟨(max (0:Int) ((la:Int)+(lb:Int)-1)).toNat,O⟩;have cz:n<=1099511627776:=O
 obtain⟨HN,ce,HC,az,HP,HQ,HK,Qg⟩:=F1 (show la+lb<=n+1 from by omega) (show la+lb=0\/n+1=la+lb from by omega) hc aj aq ay ap ak;have Qh:=Z an;have Qs:=KG n O w;have M0:DL w (w.alloc (F (YY n) 38)) [some (w.heap.size,.rats (List.replicate n 0))]:=M3.DL.push (M3.DL.nil w) (.rats (List.replicate n 0)) (by
  obtain⟨cs,q,h2⟩:=Ly n w;refine⟨YY n,J,λc hj=>?_⟩;rw[AM]at hj;obtain⟨h0,q,h2,h3⟩:=Lx hj;exact⟨_,_,_,_,h0,q,h2,h3,by rw[J2];exact D9 _⟩)
 obtain⟨W0,ai⟩:=ex (w.alloc (F (YY n) 38));rw[ai]at M0 Qs;have Qq:=Z M0;clear M0 ai ha hb aq ay ak an bh bj bi bk ap hc aj bn;go_enter func68,ntmps68
 go_wp2;go_loopw [20] (λi wr=>∃(k:Nat),k<=la/\i=.int .i64 (k:Int)/\Hid (DL w wr [some (w.heap.size,.rats (YC ps qs n k))])) λi _=>la-(intOf i).toNat
 case atStart=>exact⟨0,AJ _,J,Qq⟩
 case round=>
  obtain⟨k,hk,rfl,o⟩:=hrel;by_cases bt:k<la
  . have cn:(k:Int)<(la:Int):=O
    obtain⟨W,bx,rfl,ae,r,u,x,y⟩:=HC.o k bt;have d:=o.o.2.2;have z:=Z (W.below d);replace r:=(d.cell (p:=⟨bx,_,none⟩) ae).trans r;replace u:=(d.cell (p:=⟨bx,_,none⟩) ae).trans u;replace x:=(d.cell (p:=⟨bx,_,none⟩) ae).trans x;replace y:=(d.cell (p:=⟨bx,_,none⟩) ae).trans y;clear W d;obtain⟨s1,T⟩:=ex (s k);obtain⟨t1,U⟩:=ex (t k);obtain⟨a1,D⟩:=ex (aa k);obtain⟨b1,K⟩:=ex (bb k);obtain⟨l1,R⟩:=ex (ll k);obtain⟨c1,M⟩:=ex (cc k);obtain⟨m1,S⟩:=ex (kk k);obtain⟨d1,Q⟩:=ex (dd k);rw[T,U,D,K,R,M,S,Q]at z;rw[T]at r;rw[D,R,M]at u;rw[U]at x;rw[K,S,Q]at y;clear T U D K R M S Q;go_upto_region 5 with fail
    have l:DL w (wr.alloc (F #[E s1,C a1 l1 c1,E t1,C b1 m1 d1] 38)) [some (w.heap.size,.rats (YC ps qs n k)),some (wr.heap.size,.rat (cf ps k))]:=M3.DL.push o.o (.rat (cf ps k)) z.o;obtain⟨V1,B⟩:=ex (wr.alloc (F #[E s1,C a1 l1 c1,E t1,C b1 m1 d1] 38));obtain⟨B1,A⟩:=ex (wr.heap.size);rw[B,A]at l;rw[B];rw[A];have Qt:=Z l;clear l B A o z r u x y;go_wp2_with fail
    go_loopw [27] (λi wr=>∃(c:Nat),c<=lb/\i=.int .i64 (c:Int)/\Hid (DL w wr [some (w.heap.size,.rats (YW (YC ps qs n k) k (cf ps k) qs c)),some (B1,.rat (cf ps k))])) λi _=>lb-(intOf i).toNat
    case atStart=>exact⟨0,AJ _,J,Qt⟩
    case round=>
     obtain⟨c,hj,rfl,o⟩:=hrel;by_cases bm:c<lb
     . have cg:(c:Int)<(lb:Int):=O
       obtain⟨W,ad,rfl,ah,r,u,x,y⟩:=az.o c bm;have d:=o.o.2.2;have z:=Z (W.below d);replace r:=(d.cell (p:=⟨ad,_,none⟩) ah).trans r;replace u:=(d.cell (p:=⟨ad,_,none⟩) ah).trans u;replace x:=(d.cell (p:=⟨ad,_,none⟩) ah).trans x;replace y:=(d.cell (p:=⟨ad,_,none⟩) ah).trans y;clear W d;obtain⟨s2,T⟩:=ex (s' c);obtain⟨t2,U⟩:=ex (t' c);obtain⟨a2,D⟩:=ex (bc c);obtain⟨b2,K⟩:=ex (bd c);obtain⟨l2,R⟩:=ex (bz c);obtain⟨c2,M⟩:=ex (bf c);obtain⟨m2,S⟩:=ex (bu c);obtain⟨d2,Q⟩:=ex (bg c);rw[T,U,D,K,R,M,S,Q]at z;rw[T]at r;rw[D,R,M]at u;rw[U]at x;rw[K,S,Q]at y;clear T U D K R M S Q;go_upto_region 8 with fail
       have l:DL w (wr.alloc (F #[E s2,C a2 l2 c2,E t2,C b2 m2 d2] 38)) [some (w.heap.size,.rats (YW (YC ps qs n k) k (cf ps k) qs c)),some (B1,.rat (cf ps k)),some (wr.heap.size,.rat (cf qs c))]:=M3.DL.push o.o (.rat (cf qs c)) z.o;obtain⟨V2,B⟩:=ex (wr.alloc (F #[E s2,C a2 l2 c2,E t2,C b2 m2 d2] 38));obtain⟨B2,A⟩:=ex (wr.heap.size);rw[B,A]at l;rw[B];rw[A];have Qc:=Z l;clear l B A o z r u x y;have Qk:(k:Int)+(c:Int)<(n:Int):=by have:=HN.o;omega
       have Qe:(0:Int)<=(k:Int)+(c:Int):=O
       have Qd:=Z (show k+c<n by omega);have Qa:(k:Int)+(c:Int)=((k+c:Nat):Int):=O
       obtain⟨m,hm⟩:=ex (k+c);rw[hm]at Qd Qa;have HM:=Z hm;have cy:(m:Int)<(n:Int):=by have:=Qd.o;omega
       have de:IntKind.i64.wrap (m:Int)=(m:Int):=by rw[Bg];omega
       obtain⟨g,X⟩:=ex (YW (YC ps qs n k) k (cf ps k) qs c);rw[X]at Qc;obtain⟨Qf,Qm,Qr,Qp⟩:=Dn (show m<g.length by rw[<-X,XX,Kn];exact Qd.o) X (show Sq (cf g m)by rw[<-X];exact HK.o.2 n k c m) (HK.o.1 k c);have Qj:=Qc.o.drew;clear hm X Qc Qk Qe;refine Es Di [[],[],[],[1,2],[],[],[],[5,6],[4,7],[8],[9],[],[11],[],[12,13],[10,14,14],[0,3,0,1,2,3,4,5,6,7,8,9,10,11,12,13,14,15],[16,15,15,0,1,2,3,4,5,6,7,8,9,10,11,12,13,14,15]] [.eq (C (some ⟨w.heap.size,0,none⟩) n n),.eq (.int .i64 (k:Int)),.eq (.int .i64 (c:Int)),.eq (.int .i64 (m:Int)),.eq (C (some ⟨w.heap.size,0,none⟩) n n),.eq (.int .i64 (k:Int)),.eq (.int .i64 (c:Int)),.eq (.int .i64 (m:Int)),.eq (H (some ⟨w.heap.size,m*4,none⟩)),.rat (cf g m),.ifq (cf g m),.rat (cf ps k),.ifq (cf ps k),.rat (cf qs c),.rat (cf ps k*cf qs c),.rat (cf g m+cf ps k*cf qs c),.eq (H (some ⟨w.heap.size,m*4,none⟩)),.eq L] [17] (λb _ V=>DL w V [some (w.heap.size,if b.getD 0 false then .rats (g.set m (cf g m+cf ps k*cf qs c))else .rats g),some (B1,.rat (cf ps k)),some (B2,.rat (cf qs c))]) Qj (No (.vl J λ_ _=>mv)<|No (.vl J λ_ _=>mv)<|No (.vl J λ_ _=>mv)<|No (.vl J λh _=>⟨_,by refine DX ?_;rw[h.e 1,h.e 2];go_simp,J⟩)<|No (.vl J λ_ _=>mv)<|No (.vl J λ_ _=>mv)<|No (.vl J λ_ _=>mv)<|No (.vl J λh _=>⟨_,by refine DX ?_;rw[h.e 5,h.e 6];go_simp,J⟩)<|No (.vl J λh _=>⟨_,by refine DX ?_;rw[h.e 4,h.e 7];go_simp,J⟩)<|No (.vl J λh j=>Tl 0 j Qf.o (h.e 8))<|No (.vl J λh _=>mi (h.g 9))<|No (.vl J λ_ j=>Ex 1 j)<|No (.vl J λh _=>mi (h.g 11))<|No (.vl J λ_ j=>Ex 2 j)<|No (.ci J fun {_ V _} h j=>by obtain⟨y0,e,g0⟩:=h.g 12;have Qo:=Ok y0 V;exact⟨_,by refine DX ?_;rw[e];go_simp,Lt _ _ (cf ps k) (cf qs c) V g0 (h.g 13) (HP.o.at k) (HQ.o.at c)⟩)<|No (.ci J fun {_ V _} h j=>by obtain⟨y0,e,g0⟩:=h.g 10;have Qo:=Ol y0 V;exact⟨_,by refine DX ?_;rw[e];go_simp,Hu _ _ (cf g m) (cf ps k*cf qs c) V g0 (h.g 14) Qr.o Qp.o⟩)<|No (.vl J λh _=>⟨_,by refine DX ?_;rw[h.e 0,h.e 3];go_simp,J⟩)<|No (.wr J λh j=>OK 0 j Qf.o (h.g 15) (h.e 16)) Stp.end_)
        λf V hF l=>?_
       refine DX ?_;rw[hF.e 0,hF.e 1,hF.e 2,hF.e 3,hF.e 4,hF.e 5,hF.e 6,hF.e 7,hF.e 8,hF.e 16];have l:=GA l;have Qn:=Z l;clear l hF;go_wp2_with fail
       go_roundw
       case rel=>
        refine⟨c+1,O,by go_num,Z ?_⟩;have q:=Qn.o.take 2;rw[<-HM.o,<-Qm.o]at q;exact q
       case measure=>simp[intOf];omega
     . have Ql:c=lb:=O
       subst Ql;go_wp2_with fail
       go_roundw
       case rel=>
        refine⟨k+1,O,by go_num,Z ?_⟩;have q:=o.o.take 1;rw[Qh.o]at q;exact q
       case measure=>simp[intOf];omega
  . have Qi:k=la:=O
    subst Qi;go_wp2;go_ret;have hE:=o.o.rats (i:=0) J;have co:=Kn ps qs n k;have Qb:=hE.row (n:=n) (cap:=n) O (Aa _) O O;rw[Ac O]at Qb;refine⟨_,_,J,Qb,λc=>?_,Sqs.of λi=>?_,λa' l' c' e=>(by cases e;exact Aa _),o.o.2.2⟩
    . rw[Qg.o,IU _ _ _ _ _ (Ax (by have:=HN.o;have h2:=Qh.o;have q:=Qg.o;omega)),Fs]
    . exact HK.o.2 n k 0 i
def Hy(qs:K)(x:Rat):Prop:=∀n,Sq (ev (qs.drop n) x)/\Sq (ev (qs.drop n) x*x)
theorem Om(qs:K)(x:Rat){m:Nat}(h:m<qs.length):ev (qs.drop (m+1)) x*x+cf qs m=ev (qs.drop m) x:=by
 rw[AD h,ev,Kf h];grind
def Hz(w:G)(a:Zu)(len cap:Nat)(qs:K)(x:Rat)(k:Nat):List (Option (Nat × Dat)):=
 [some (w.heap.size,.rat x),some (w.heap.size+1,.rat 0),some (w.heap.size+1+1,.rat (ev (qs.drop (len-k)) x)),some (w.heap.size+1+1+1,.cell 23 (C a len cap))]
def U1(w:G)(a:Zu)(len cap:Nat)(qs:K)(x:Rat)(k:Nat)(W:G):Prop:=DL w W (Hz w a len cap qs x k)
theorem U2(a:Zu)(len cap:Nat)(qs:List Rat)(vx:N)(x:Rat)(w:G)(h:RowK true w (C a len cap) qs)(hx:Jk w vx x)(hs:Sqs qs)(ak:Sq x)(ai:Hy qs x):
 Calls I 76 #[C a len cap,vx] w λe w'=>∃u,e=.returned u/\Jk w' u (ev qs x)/\Bl w w':=by
 obtain⟨xs,xa,xl,xc,xt,xb,xk,xd,rfl⟩:=hx.form;obtain⟨hl,bu,bz,ap,s,t,aa,bb,ll,cc,kk,dd,hc⟩:=h.forms;obtain⟨HL,HC,HS,Qi,HK,HX⟩:=GZ hl hc hs ak ai hx;clear hc hl hs ak ai hx h;refine(BK (n:=3)).1 ?_;refine BW func76 J trivial ?_ J;simp only[ntmps76,Ak,Af,AL,Nat.reduceAdd,Nat.reduceSub,As,At,AG,Aw,Ah,Am];gi_wp2_with(refine⟨trivial,?_⟩;gi_at_call 50;refine(Lv Fence.wide _ trivial J _ _ _ _).mono ?_;rintro e w' ⟨rfl,rfl⟩)
 have M0:DL w _ _:=((((DL.nil w).push (.rat x) HX.o).push (.rat 0) (D9 _)).push (.rat 0) (D9 _)).push (.cell 23 (C a len cap)) (cs:=#[C a len cap]) ⟨J,J⟩;simp only[A1]at M0;obtain⟨W0,U⟩:=ex ((((w.alloc (F #[E xs,C xa xl xc,E xt,C xb xk xd] 38)).alloc (F #[E false,C none 0 0,E false,C none 0 0] 38)).alloc (F #[E false,C none 0 0,E false,C none 0 0] 38)).alloc (F #[C a len cap] 23));have hN:W0.heap.size=w.heap.size+1+1+1+1:=by rw[<-U];simp
 have M1:DL w W0 (Hz w a len cap qs x 0):=by
  rw[<-U];unfold Hz;rw[show ev (qs.drop (len-0)) x=0 from by rw[An (by have:=HL.o;omega)];rfl];exact M0
 have ay:=Z U;rw[U];clear M0 U;refine Ih J O (gf:=94) (lb:=#[H (some ⟨w.heap.size+1+1+1,0,none⟩)]) J trivial (B7 func94 Zv J)
  (Lu Fence.wide _ trivial J O (w.heap.size+1+1+1) a len cap (λj=>E (s j)) (λj=>C (aa j) (ll j) (cc j)) (λj=>E (t j)) (λj=>C (bb j) (kk j) (dd j)) ap) (λ_=>rfl)
  (U1 w a len cap qs x) (λ_ _ _=>False) (UX O _) (λc s W W' row h=>h.elim) M1 ?rd
  (λk b=>{ tmps:=#[C a len cap,.agg #[E xs,C xa xl xc,E xt,C xb xk xd],L,H (some ⟨w.heap.size,0,none⟩),H (some ⟨w.heap.size+1,0,none⟩),H (some ⟨w.heap.size+1+1,0,none⟩),L,H (some ⟨b,0,none⟩),C a len cap,.func (.func 94) #[] #[H (some ⟨w.heap.size+1+1+1,0,none⟩)],.int .i64 ((len:Int)-1-k),.agg #[E (s (len-1-k)),C (aa (len-1-k)) (ll (len-1-k)) (cc (len-1-k)),E (t (len-1-k)),C (bb (len-1-k)) (kk (len-1-k)) (dd (len-1-k))],L,L,L,L,L,L,L,L],defers:=[] })
  (λk=>F #[E (s (len-1-k)),C (aa (len-1-k)) (ll (len-1-k)) (cc (len-1-k)),E (t (len-1-k)),C (bb (len-1-k)) (kk (len-1-k)) (dd (len-1-k))] 38 (0,0)) ?assign ?body ?done ?stop
 case stop=>intro D c k W _ _ h;exact h.elim
 case rd=>
  intro k W M;have hB:=M.2.2;refine⟨(DL.cell M (i:=3) J).1.cell,λhk=>?_⟩;obtain⟨_,b,ea,hb,h1,X,h3,h4⟩:=HC.o (len-1-k) O;exact⟨b,ea,(hB.cell (p:=⟨b,_,none⟩) hb).trans h1,(hB.cell (p:=⟨b,_,none⟩) hb).trans X,(hB.cell (p:=⟨b,_,none⟩) hb).trans h3,(hB.cell (p:=⟨b,_,none⟩) hb).trans h4⟩
 case assign=>
  intro l k W K hK;unfold Hv;gi_wp2;exact hK
 case body=>
  intro l k b W M hk aq an ad;have hm:len-1-k<len:=O
  obtain⟨hi,_⟩:=HC.o (len-1-k) hm;have d:=DL.with M (.rat (cf qs (len-1-k))) ad (hi.below M.2.2) O (λi B d' e=>by
   grind[Hz])
  have ek:len-k=len-1-k+1:=O
  unfold Hz at d;rw[ek]at d;have Qe:=Z (show len-(k+1)=len-1-k by omega);clear hi ad M aq an ek;obtain⟨m,ah⟩:=ex (len-1-k);rw[ah]at d hm Qe ⊢;have HM:=Z (show m<qs.length by have:=HL.o;omega);have d:DL w W [some (w.heap.size,.rat x),some (w.heap.size+1,.rat 0),some (w.heap.size+1+1,.rat (ev (qs.drop (m+1)) x)),some (w.heap.size+1+1+1,.cell 23 (C a len cap)),some (b,.rat (cf qs m))]:=d;obtain⟨Qd,Qf,Qc⟩:=Db (show Sq (ev (qs.drop (m+1)) x)/\Sq (ev (qs.drop (m+1)) x*x)from HK.o (m+1)) (HS.o.at m) (Om qs x HM.o);obtain⟨sm,aj⟩:=ex (ev (qs.drop (m+1)) x);rw[aj]at d Qd Qc;obtain⟨z,ae⟩:∃y,cf qs m=y:=⟨_,J⟩;rw[ae]at d Qf Qc;have Qh:FO w W W.drew [some (w.heap.size,.rat x),some (w.heap.size+1,.rat 0),some (w.heap.size+1+1,.rat sm),some (w.heap.size+1+1+1,.cell 23 (C a len cap)),some (b,.rat z)]:=FO.drew ⟨d,DB W⟩;clear d aj ae ah;gi_wp2_with fail
  refine Tk (Ax ⟨l,J⟩) Di [[],[0],[],[1,2],[3],[],[4,5],List.range 7] [.rat sm,.ifq sm,.rat x,.rat (sm*x),.ifq (sm*x),.rat z,.rat (sm*x+z),.eq L] [7] (λo _ V=>FO w W V [some (w.heap.size,.rat x),some (w.heap.size+1,.rat 0),some (w.heap.size+1+1,.rat (if o.getD 0 false then sm*x+z else sm)),some (w.heap.size+1+1+1,.cell 23 (C a len cap)),some (b,.rat z)]) Qh (No (.vl J λ_ j=>Ex 2 j.1)<|No (.vl J λh _=>mi (h.g 0))<|No (.vl J λ_ j=>Ex 0 j.1)<|No (.ci J fun {_ V _} h _=>by obtain⟨y0,e,A⟩:=h.g 1;have Qj:=Ok y0 V;exact⟨_,by refine DX ?_;rw[e];go_simp,Lt _ _ sm x _ A (h.g 2) Qd.o.1 Qi.o⟩)<|No (.vl J λh _=>mi (h.g 3))<|No (.vl J λ_ j=>Ex 4 j.1)<|No (.ci J fun {_ V _} h _=>by obtain⟨y0,e,A⟩:=h.g 4;have Qj:=Ol y0 V;exact⟨_,by refine DX ?_;rw[e];go_simp,Hu _ _ (sm*x) z _ A (h.g 5) Qd.o.2 Qf.o⟩)<|No (.wr J λh j=>Tm 2 j.1 (h.g 6) (hT:=λ_ m=>⟨m,j.2.trans (Oj _ _ _ _ _ _)⟩)) Stp.end_)
   λf V hF X=>?_
  refine⟨X.2.from _,?_⟩;have h3:=X.1.take 4;rw[Qc.o,<-Qe.o]at h3;exact h3
 case done=>
  intro D W hD M hK;have M:DL w W [some (w.heap.size,.rat x),some (w.heap.size+1,.rat 0),some (w.heap.size+1+1,.rat (ev (qs.drop (len-len)) x)),some (w.heap.size+1+1+1,.cell 23 (C a len cap))]:=M;rw[show qs.drop (len-len)=qs from by rw[AX];rfl]at M;obtain⟨S,g,R,c1,T,v,Q,d1,n1,r1,i1,j1⟩:=M.rat (i:=2) J;obtain⟨s2,a2,l2,c2,t2,b2,k2,d2,n2,r2,i2,j2⟩:=M.rat (i:=1) J;obtain⟨az,bc,bd,bf⟩:=n1.cq;obtain⟨bg,bh,bi,bj⟩:=n2.cq;obtain⟨bk,bm,bn,bt⟩:=n2.fq;have HR:=Z r1;have HB:=Z M.2.2;clear r1 i1 j1 r2 i2 j2 M;gi_wp2;have Qb:(put4 W (w.heap.size+1) (E S) (C g R c1) (E T) (C v Q d1)).heap[D]?=some (.deferred (some [])):=(Oj W (w.heap.size+1) _ _ _ _).same D _ hK J;refine⟨DJ,.inl ⟨_,_,J,BZ Qb,?_⟩⟩;have q:=n2.put (E S) (C g R c1) (E T) (C v Q d1);have hg:=BX (put4 W (w.heap.size+1) (E S) (C g R c1) (E T) (C v Q d1)) D (.deferred none);have Qg:∀r,some D=some r->∃o:Obj,(put4 W (w.heap.size+1) (E S) (C g R c1) (E T) (C v Q d1)).heap[r]?=some o/\o.isCells=false:=λr e=>by cases e;exact⟨_,Qb,J⟩
  have q2:JA _ (w.heap.size+1) 38 (E S) (C g R c1) (E T) (C v Q d1):=Hx hg Qg q;obtain⟨A,g1,g2,g3⟩:=q2.cq;unfold put4 at A g1 g2 g3;refine⟨.agg #[E S,C g R c1,E T,C v Q d1],by simp[results,results76,go_sem,A,g1,g2,g3],_,J,?_,?_⟩
  . exact Dk.keep (r:=true) (Jk.put4 HR.o n2 J J J J _ _ _ _) λ_ _ _ h=>L0 hg Qg h
  . exact(Jo HB.o O _ _ _ _).trans (DI (w:=w) (Aa _) _ D _ _ O Qb J J)
def On(A B:N)(ps qs:List Rat)(w:G)(i:JB w A ps)(k:JB w B qs)(t:Sqs ps)(y:Sqs qs)(s:GF ps qs)(r:ps.length+qs.length<=1099511627776):
 Calls I 28 #[A,B] w λe D=>∃u,e=.returned u/\JB D u (YV ps qs)/\KF w.heap.size u/\Bl w D:=by
 obtain⟨u,rfl,i⟩:=i;obtain⟨v,rfl,k⟩:=k;obtain⟨a,la,f,rfl⟩:=i.form;obtain⟨b,lb,g,rfl⟩:=k.form;obtain⟨W0,c⟩:=ex (((w.alloc (F #[C a la f] 25)).alloc (F #[C b lb g] 25)).alloc (F #[C none 0 0] 25));have b0:Boxed W0 w.heap.size 25 (C a la f):=by rw[<-c];exact((BJ w _ _).alloc _).alloc _
 have R:Boxed W0 (w.heap.size+1) 25 (C b lb g):=by rw[<-c];have:=(BJ (w.alloc (F #[C a la f] 25)) 25 (C b lb g)).alloc (F #[C none 0 0] 25);simpa using this
 have S:Boxed W0 (w.heap.size+1+1) 25 (C none 0 0):=by rw[<-c];have:=BJ ((w.alloc (F #[C a la f] 25)).alloc (F #[C b lb g] 25)) 25 (C none 0 0);simpa using this
 have l:Bl w W0:=by rw[<-c];exact((Ba w _).alloc DJ _).alloc si _
 obtain⟨o,q,M⟩:=Db (U0 a b la f lb g ps qs W0 (i.below l) (k.below l) t y s r) (λ(V:G) (v:N) (d:List Rat) (h:RowK true V v d) (hs:Sqs d)=>Gi v d V h hs) c;have k0:=b0.cell;have k1:=R.cell;clear c i k t y s r;go_enter func28,ntmps28
 go_upto_region 1 with fail
 rw[M.o];go_wp2_with(first
  |(go_at_call 68;refine o.o.mono ?_;clear o;rintro e w1 ⟨v1,d,rfl,ae,z,ah,X,U⟩;have K:=Z z;clear z)
  |(go_at_call 65;refine(q.o _ _ d ae ah).mono ?_;clear q;rintro e w2 ⟨u2,rfl,n,ad,W⟩;obtain⟨a9,l9,c9,rfl⟩:=n.form;have x:=Bt U W;have m:=boxed_below S x;have k2:=m.cell;have f2:=m.frozen))
 have T:Jg d=YV ps qs:=Yt λj=>K.o j;rw[T]at n;refine BA (by simp[results,results28,go_sem,k2]) J ⟨_,J,⟨_,J,EI m _ n.row⟩,?_,(Bt l x).setCell (p:=⟨w.heap.size+1+1,0,none⟩) si _⟩;intro Q l' c' e;have:=ad W0.heap.size X Q l' c' e;have h2:=l.size;omega
def U3(v s:N)(ps:List Rat)(x:Rat)(w:G)(h:JB w v ps)(f:Jk w s x)(hs:Sqs ps)(p:Sq x)(o:Hy ps x):
 Calls I 34 #[v,s] w λe t=>∃u,e=.returned u/\Jk t u (ev ps x)/\Bl w t:=by
 obtain⟨u,rfl,d⟩:=h;obtain⟨a,l,c,rfl⟩:=d.form;obtain⟨s8,V,l8,c8,t8,b8,k8,d8,rfl⟩:=f.form;obtain⟨W0,z,y⟩:=I7 25 (.cell 25 (C a l c)) Ll 38 (.rat x) f 38 (.rat 0) (D9 _);have b:=y.o;obtain⟨s1,T,l1,c1,t1,X,k1,d1,Q,r,B,g⟩:=b.rat (i:=1) J;obtain⟨s2,U,l2,c2,t2,b2,k2,d2,R,S,D,j⟩:=b.rat (i:=2) J;have b0:=(b.cell (i:=0) J).1;have m:=Z (U2 a l c ps _ x W0 (d.below b.2.2) r hs p o);have A:=b.2.2;have k0:=b0.cell;obtain⟨e0,e1,e2,e3⟩:=Q.cq;clear d hs p o f b r B g S D j;go_enter func34,ntmps34
 go_upto_region 1 with fail
 rw[z.o];go_wp2_with(go_at_call 76;refine m.o.mono ?_;clear m;rintro e w1 ⟨u,rfl,q,n⟩;have k:=R.below n;obtain⟨K,g,j,M⟩:=k.cq;obtain⟨f0,f1,f2,f3⟩:=k.fq;obtain⟨ak,W,aj,ae,an,ad,ai,ah,rfl⟩:=Jk.form q)
 exact BA (by simp[results,results34,go_sem,K,g,j,M]) J ⟨_,J,q.put4 k J J J J _ _ _ _,Jo (Bt A n) O _ _ _ _⟩
theorem L3(n:Int)(y:-9223372036854775808<=n)(z:n<=9223372036854775807)(w:G):
 Calls I 77 #[.int .i64 n] w λe o=>∃u,e=.returned u/\Jk o u (n:Rat)/\Bl w o:=by
 have c:Bl w (w.alloc (F #[E false,C none 0 0,E false,C none 0 0] 38)):=Ba w _;have b0:=JA.new w 38 (E false) (C none 0 0) (E false) (C none 0 0);obtain⟨W0,f⟩:=ex (w.alloc (F #[E false,C none 0 0,E false,C none 0 0] 38));rw[f]at c b0;obtain⟨p,i,j,q⟩:=Dn f (Iz n y z W0) (λ(V:G)=>Iz 1 O O V) (show Sok n from Sok.of (k:=2) (by unfold Sm Y;omega) O);have b:=Z λ(V:G) (u v:N) (D:Jl V u n) (M:Jl V v 1)=>UE u v n 1 V D M q.o Sok.one;rw[show decide ((1:Int)≠0)=true from J,show Rat.divInt n 1=(n:Rat)from by rw[Rat.divInt_eq_div];grind]at b;clear f;go_enter func77,ntmps77
 go_upto_region 1 with fail
 rw[p.o];go_wp2_with(first
  |(go_at_call 110;refine i.o.mono ?_;clear i;rintro e w1 ⟨u1,rfl,d,A⟩)
  |(go_at_call 110;refine(j.o _).mono ?_;clear j;rintro e w2 ⟨u2,rfl,K,l⟩;have d:=d.below l)
  |(go_at_call 107;refine(b.o _ _ _ d K).mono ?_;clear b;rintro e w3 ⟨u3,rfl,m,B⟩;have a:=Bt (Bt A l) B;have n2:=(b0.below a).alloc (F #[E false,C none 0 0,E false,C none 0 0] 38);obtain⟨X,r,W,t,ad,s,U,x,rfl⟩:=Jk.form m;have g:=(b0.below a).alloc (F #[E X,C r W t,E ad,C s U x] 38);obtain⟨Q,R,S,T⟩:=g.cq;obtain⟨f0,f1,f2,f3⟩:=g.fq))
 exact BA (by simp[results,results77,go_sem,Q,R,S,T]) J ⟨_,J,(m.below (Ba _ _)).put4 g J J J J _ _ _ _,Jo ((Bt c a).alloc (by have:=c.size;have:=a.size;omega) _) (Aa _) _ _ _ _⟩
end M3
abbrev GG(w:G):Prop:=Lib.TabIs I w "internal/strconv.uint64pow10" .u64 Lib.pow10Tab
def L4(n:Nat)(c:n<=9223372036854775807)(w:G)(b:GG w):Calls I 58 #[.int .i64 (n:Int)] w λe a=>e=.returned (P ⟨(Y0 n).toArray⟩)/\Bl w a:=by
 refine(Tryz.strconv_Itoa n O O w b).mono ?_;rintro e a ⟨rfl,k,os,rfl⟩;refine⟨?_,NZ w k os⟩;unfold Lib.itoa;rw[BH O,Ck,RG]
def U4(s:ByteArray)(w:G):Calls I 96 #[P s,P ⟨#[45]⟩] w λe a=>e=.returned (.tuple #[P ⟨(JG (Jc s)).toArray⟩,E (decide ((Jc s).head?=some 45))])/\Bl w a:=by
 refine(Hk s w).mono ?_;rintro e a ⟨rfl,rfl⟩;exact⟨J,BB _ _⟩
def XV(a b:List UInt8):(⟨a.toArray⟩:ByteArray)++⟨b.toArray⟩=⟨(a++b).toArray⟩:=by
 apply C0;simp
def U5(i:Nat)(p:i<=1099511627776)(w:G)(g:GG w):
 Calls I 97 #[.int .i64 (i:Int)] w λe l=>e=.returned (P ⟨(Dz i).toArray⟩)/\Bl w l:=by
 by_cases b:i=0
 . subst b;go_enter func97,ntmps97
   go_wp2;go_ret;exact⟨J,BB _ _⟩
 . by_cases c:i=1
   . subst c;go_enter func97,ntmps97
     go_wp2;go_ret;exact⟨J,BB _ _⟩
   . have a:=Z (L4 i O w g);have m:((i:Int)==0)=false:=by rw[BG];omega
     have n:((i:Int)==1)=false:=by rw[BG];omega
     have d:=Z (show(⟨#[120,94]⟩:ByteArray)++⟨(Y0 i).toArray⟩=⟨(Dz i).toArray⟩by
      unfold Dz;rw[BH b,BH c];exact XV [120,94] (Y0 i))
     have k:(⟨(Y0 i).toArray⟩:ByteArray).size<=1000:=by
      show(Y0 i).toArray.size<=_;rw[Ak];have:=X9 i;have o:(Jb Y i).length<=1:=JE Jd uo;omega
     obtain⟨S,f⟩:∃S:ByteArray,⟨(Y0 i).toArray⟩=S:=⟨_,J⟩;rw[f]at a d k;clear b c g f;go_enter func97,ntmps97
     go_wp2_with(go_at_call 58;refine a.o.mono ?_;clear a;rintro e q ⟨rfl,j⟩)
     go_ret;exact⟨by rw[<-d.o];rfl,j⟩
def Oo(q:Rat):JG (JP q)=JP (Y1 q)/\decide ((JP q).head?=some 45)=decide (q<0):=by
 by_cases h:q<0
 . rw[Og h,UU h];refine⟨J,?_⟩;rw[BI h];rfl
 . rw[Oh h];have a:=UV h;refine⟨by unfold JG;rw[BH a],by rw[BF a,BF h]⟩
def Op(a b c:List UInt8):(⟨a.toArray⟩:ByteArray)++⟨b.toArray⟩++⟨c.toArray⟩=⟨(a++b++c).toArray⟩:=by rw[XV,XV]
def X0{X a:ByteArray}(h:X=a):Ending.returned (P X)=.returned (P a):=by rw[h]
def U6(va:N)(q:Rat)(i:Nat)(first:Bool)(w:G)(W:Jk w va q)(hs:Sq q)(hi:i<=1099511627776)(ae:GG w):
 Calls I 53 #[va,.int .i64 (i:Int),E first] w λe w'=>e=.returned (P ⟨(Xq q i first).toArray⟩)/\Bl w w':=by
 obtain⟨s,a,l,c,t,b,k,d,rfl⟩:=W.form;have b0:=JA.new w 38 (E s) (C a l c) (E t) (C b k d);have r:Bl w (w.alloc (F #[E s,C a l c,E t,C b k d] 38)):=Ba w _;obtain⟨W0,U⟩:=ex (w.alloc (F #[E s,C a l c,E t,C b k d] 38));rw[U]at b0 r;obtain⟨y,j,g⟩:=Db U (Oe _ q W0 (W.below r) hs (JX ae r)) λ(V:G)=>U4 ⟨(JP q).toArray⟩ V;rw[show Jc ⟨(JP q).toArray⟩=JP q from by simp[Jc],(Oo q).1,(Oo q).2]at g;have m:=Z λ(V:G) (h:Bl W0 V)=>U5 i hi V (JX (JX ae r) h);obtain⟨k0,k1,k2,k3⟩:=b0.cq;have T:(⟨(JP (Y1 q)).toArray⟩:ByteArray).size<=2000000000000:=by
  show(JP (Y1 q)).toArray.size<=_;rw[Ak];obtain⟨e1,e2⟩:=Hw q;unfold JP;have h1:=GE (Y1 q).num;have K:=GE ((Y1 q).den:Int);have h3:=hs.num.words;have h4:=hs.den.words;rw[e1,Ca]at h1;rw[e2]at K;rw[e1,e2];split
  . omega
  . rw[AE,Af];omega
 have Qm:(⟨(Dz i).toArray⟩:ByteArray).size<=2000:=by
  show(Dz i).toArray.size<=_;rw[Ak];have h3:(Jb Y i).length<=1:=JE Jd uo;have:=X9 i;unfold Dz;split
  . simp
  . split
    . simp
    . simp only[Af];omega
 obtain⟨ST,ai⟩:∃S:ByteArray,⟨(JP q).toArray⟩=S:=⟨_,J⟩;obtain⟨v,ah⟩:∃S:ByteArray,⟨(Dz i).toArray⟩=S:=⟨_,J⟩;obtain⟨bl,ad⟩:=ex (decide (q<0));rw[ai]at j g;rw[ad]at g;rw[ah]at m Qm;have Qj:=Z ad;have Ql:=Z ah;clear U W hs ae ai ad;obtain⟨Q,z⟩:∃S:ByteArray,⟨(JP (Y1 q)).toArray⟩=S:=⟨_,J⟩;have Qi:=Z z;have u:=Z (show(bl=true->(⟨#[45]⟩:ByteArray)++⟨(YF q i).toArray⟩++v=⟨(Xq q i first).toArray⟩)/\(bl=false->first=true->(⟨(YF q i).toArray⟩:ByteArray)++v=⟨(Xq q i first).toArray⟩)/\(bl=false->first=false->(⟨#[43]⟩:ByteArray)++⟨(YF q i).toArray⟩++v=⟨(Xq q i first).toArray⟩)by
  rw[<-Ql.o];have M:=Qj.o;refine⟨λh=>?_,λh K=>?_,λh K=>?_⟩
  . rw[h]at M;unfold Xq XQ;rw[BL (Bh M)];exact Op [45] _ _
  . rw[h]at M;unfold Xq XQ;rw[BH (of_decide_eq_false M),K];exact(XV _ _)
  . rw[h]at M;unfold Xq XQ;rw[BH (of_decide_eq_false M),K];exact Op [43] _ _)
 by_cases x:JP (Y1 q)=[49]
 . by_cases R:0<i
   . have Qk:(0:Int)<(i:Int):=O
     rw[show YF q i=[]from by unfold YF;rw[BL ⟨x,R⟩]]at u;rw[x]at g T;clear x R z Qi;cases bl
     . cases first
       . go_enter func53,ntmps53
         go_upto_region 1 with fail
         rw[y.o];go_wp2_with(first
          |(go_at_call 16;refine j.o.mono ?_;clear j;rintro e A ⟨rfl,n⟩)
          |(go_at_call 96;refine(g.o _).mono ?_;clear g;rintro e B ⟨rfl,o⟩;have f:=Bt n o)
          |(go_at_call 97;refine(m.o _ f).mono ?_;clear m;rintro e D ⟨rfl,p⟩))
         go_ret;refine⟨?_,Bt r (Bt f p)⟩;exact X0 (X:=(⟨#[43]⟩:ByteArray)++⟨#[]⟩++v) (u.o.2.2 (by first|rfl|trivial) (by first|rfl|trivial))
       . go_enter func53,ntmps53
         go_upto_region 1 with fail
         rw[y.o];go_wp2_with(first
          |(go_at_call 16;refine j.o.mono ?_;clear j;rintro e A ⟨rfl,n⟩)
          |(go_at_call 96;refine(g.o _).mono ?_;clear g;rintro e B ⟨rfl,o⟩;have f:=Bt n o)
          |(go_at_call 97;refine(m.o _ f).mono ?_;clear m;rintro e D ⟨rfl,p⟩))
         go_ret;refine⟨?_,Bt r (Bt f p)⟩;exact X0 (X:=(⟨#[]⟩:ByteArray)++v) (u.o.2.1 (by first|rfl|trivial) (by first|rfl|trivial))
     . go_enter func53,ntmps53
       go_upto_region 1 with fail
       rw[y.o];go_wp2_with(first
        |(go_at_call 16;refine j.o.mono ?_;clear j;rintro e A ⟨rfl,n⟩)
        |(go_at_call 96;refine(g.o _).mono ?_;clear g;rintro e B ⟨rfl,o⟩;have f:=Bt n o)
        |(go_at_call 97;refine(m.o _ f).mono ?_;clear m;rintro e D ⟨rfl,p⟩))
       go_ret;refine⟨?_,Bt r (Bt f p)⟩;exact X0 (X:=(⟨#[45]⟩:ByteArray)++⟨#[]⟩++v) (u.o.1 (by first|rfl|trivial))
   . have Qk:¬(0:Int)<(i:Int):=O
     rw[show YF q i=[49]from by unfold YF;rw[BH λh=>R h.2,x]]at u;rw[x]at g T;clear x R z Qi;cases bl
     . cases first
       . go_enter func53,ntmps53
         go_upto_region 1 with fail
         rw[y.o];go_wp2_with(first
          |(go_at_call 16;refine j.o.mono ?_;clear j;rintro e A ⟨rfl,n⟩)
          |(go_at_call 96;refine(g.o _).mono ?_;clear g;rintro e B ⟨rfl,o⟩;have f:=Bt n o)
          |(go_at_call 97;refine(m.o _ f).mono ?_;clear m;rintro e D ⟨rfl,p⟩))
         go_ret;refine⟨?_,Bt r (Bt f p)⟩;exact X0 (X:=(⟨#[43]⟩:ByteArray)++⟨#[49]⟩++v) (u.o.2.2 (by first|rfl|trivial) (by first|rfl|trivial))
       . go_enter func53,ntmps53
         go_upto_region 1 with fail
         rw[y.o];go_wp2_with(first
          |(go_at_call 16;refine j.o.mono ?_;clear j;rintro e A ⟨rfl,n⟩)
          |(go_at_call 96;refine(g.o _).mono ?_;clear g;rintro e B ⟨rfl,o⟩;have f:=Bt n o)
          |(go_at_call 97;refine(m.o _ f).mono ?_;clear m;rintro e D ⟨rfl,p⟩))
         go_ret;refine⟨?_,Bt r (Bt f p)⟩;exact X0 (X:=(⟨#[49]⟩:ByteArray)++v) (u.o.2.1 (by first|rfl|trivial) (by first|rfl|trivial))
     . go_enter func53,ntmps53
       go_upto_region 1 with fail
       rw[y.o];go_wp2_with(first
        |(go_at_call 16;refine j.o.mono ?_;clear j;rintro e A ⟨rfl,n⟩)
        |(go_at_call 96;refine(g.o _).mono ?_;clear g;rintro e B ⟨rfl,o⟩;have f:=Bt n o)
        |(go_at_call 97;refine(m.o _ f).mono ?_;clear m;rintro e D ⟨rfl,p⟩))
       go_ret;refine⟨?_,Bt r (Bt f p)⟩;exact X0 (X:=(⟨#[45]⟩:ByteArray)++⟨#[49]⟩++v) (u.o.1 (by first|rfl|trivial))
 . have Qh:¬Q=(⟨#[49]⟩:ByteArray):=by
    intro h;apply x;rw[<-z]at h;have K:=DC (λb:ByteArray=>b.data.toList) h;simpa using K
   have aj:¬Q.toList=[49]:=by
    rw[Xh,<-z];simpa using x
   clear Qh;rw[show YF q i=JP (Y1 q)from by unfold YF;rw[BH λh=>x h.1],z]at u;rw[z]at g T;clear x z;cases bl
   . cases first
     . go_enter func53,ntmps53
       go_upto_region 1 with fail
       rw[y.o];go_wp2_with(first
        |(go_at_call 16;refine j.o.mono ?_;clear j;rintro e A ⟨rfl,n⟩)
        |(go_at_call 96;refine(g.o _).mono ?_;clear g;rintro e B ⟨rfl,o⟩;have f:=Bt n o)
        |(go_at_call 97;refine(m.o _ f).mono ?_;clear m;rintro e D ⟨rfl,p⟩))
       go_ret;refine⟨?_,Bt r (Bt f p)⟩;exact X0 (X:=(⟨#[43]⟩:ByteArray)++Q++v) (u.o.2.2 (by first|rfl|trivial) (by first|rfl|trivial))
     . go_enter func53,ntmps53
       go_upto_region 1 with fail
       rw[y.o];go_wp2_with(first
        |(go_at_call 16;refine j.o.mono ?_;clear j;rintro e A ⟨rfl,n⟩)
        |(go_at_call 96;refine(g.o _).mono ?_;clear g;rintro e B ⟨rfl,o⟩;have f:=Bt n o)
        |(go_at_call 97;refine(m.o _ f).mono ?_;clear m;rintro e D ⟨rfl,p⟩))
       go_ret;refine⟨?_,Bt r (Bt f p)⟩;exact X0 (X:=(Q:ByteArray)++v) (u.o.2.1 (by first|rfl|trivial) (by first|rfl|trivial))
   . go_enter func53,ntmps53
     go_upto_region 1 with fail
     rw[y.o];go_wp2_with(first
      |(go_at_call 16;refine j.o.mono ?_;clear j;rintro e A ⟨rfl,n⟩)
      |(go_at_call 96;refine(g.o _).mono ?_;clear g;rintro e B ⟨rfl,o⟩;have f:=Bt n o)
      |(go_at_call 97;refine(m.o _ f).mono ?_;clear m;rintro e D ⟨rfl,p⟩))
     go_ret;refine⟨?_,Bt r (Bt f p)⟩;exact X0 (X:=(⟨#[45]⟩:ByteArray)++Q++v) (u.o.1 (by first|rfl|trivial))
theorem Oq(B b:Nat)(l:List UInt8)(w:G)(h:Lib.IsBuilder 89 5 B b (Lib.byteCells l) w):Calls I 54 #[H (some ⟨b,0,none⟩)] w λe a=>e=.returned (.int .i64 (l.length:Int))/\Bl w a:=by
 refine(Tryz.Builder_Len B b _ w h).mono ?_;rintro e a ⟨rfl,rfl⟩;grind[B3,BB]
def Ot(w:G)(b:Nat)(a:Zu)(len cap:Nat)(qs:K)(k:Nat)(W:G):Prop:=
 (Boxed W (b+1) 23 (C a len cap)/\Bl w W)/\Lib.IsBuilder 89 5 b b (Lib.byteCells (JR (qs.drop (len-k)) (len-k))) W
def U7(w:G)(b:Nat)(a:Zu)(len cap:Nat)(qs:K)(d:w.heap.size<=b):OwnFrom (b+1+1) (Ot w b a len cap qs):=
 BO (BO (Bj (boxed_own _ _ λ_=>C a len cap) _) (Bs (Aa _) O)) λ_ _ _ _ h hg c=>Ld h hg c
def FP(w W:G)(c b:Nat)(a:Zu)(len cap:Nat)(x y z u:N)(T:List UInt8)(V:G):Prop:=
 ((Boxed V (c+1) 23 (C a len cap)/\Bl w V)/\Lib.IsBuilder 89 5 c c (Lib.byteCells T) V)/\KeepsOthers W V/\JA V b 38 x y z u/\c+1<V.heap.size
def FP.below{w W:G}{d b:Nat}{a:Zu}{len cap:Nat}{x y z u:N}{T:List UInt8}{V V':G}(h:FP w W d b a len cap x y z u T V)(c:Bl V V'):FP w W d b a len cap x y z u T V':=
 ⟨⟨⟨boxed_below h.1.1.1 c,Bt h.1.1.2 c⟩,Y4 h.1.2 c⟩,h.2.1.trans (J6 c),h.2.2.1.below c,Ao h.2.2.2 c.size⟩
def FP.write{w W:G}{c b:Nat}{a:Zu}{len cap:Nat}{x y z u:N}{T n:List UInt8}{V V':G}(h:FP w W c b a len cap x y z u T V)(s:w.heap.size<=c)(q:b≠c){bs:List N}
(r:Lib.BuilderAt 89 5 c c (H (some ⟨c,0,none⟩)) bs V')(l:Below c V V')(m:∀k o,V.heap[k]?=some o->k≠c->(∀f z,o≠F f 5 z)->V'.heap[k]?=some o)(e:bs=Lib.byteCells n):FP w W c b a len cap x y z u n V':=by
 refine⟨⟨⟨m _ _ h.1.1.1 O (λf z e=>by cases e),h.1.1.2.trans (l.mono s)⟩,Ax (by rw[<-e];exact r)⟩,h.2.1.trans ⟨l.size,λk o d g=>?_⟩,m _ _ h.2.2.1 q (λf z e=>by cases e),Ao h.2.2.2 l.size⟩;by_cases p:k=c
 . subst p;rcases h.1.2 with i|i
   . obtain⟨_,v,j,_⟩:=i;rw[j]at d;cases d;cases g
   . obtain⟨_,v,j,_⟩:=i;rw[j]at d;cases d;cases g
 . exact m k o d p (λf z e=>by rw[e]at g;cases g)
def Gj(w W:G)(c b:Nat)(a:Zu)(len cap:Nat)(x y z u:N)(T:List UInt8)(q:Rat)(V:G):Prop:=FP w W c b a len cap x y z u T V/\Jk V (.agg #[x,y,z,u]) q
def Gj.below{w W:G}{c b:Nat}{a:Zu}{len cap:Nat}{x y z u:N}{T:List UInt8}{q:Rat}{V V':G}(h:Gj w W c b a len cap x y z u T q V)(d:Bl V V'):Gj w W c b a len cap x y z u T q V':=⟨h.1.below d,h.2.below d⟩
def L5(v:N)(qs:List Rat)(w:G)(hp:JB w v qs)(hs:Sqs qs)(hT:∀m,(JR (qs.drop m) m).length<=140737488355328)(bu:GG w):
 Calls I 13 #[v] w λe w'=>e=.returned (P ⟨(Ei qs).toArray⟩)/\Bl w w':=by
 obtain⟨u0,rfl,h⟩:=hp;obtain⟨a,len,cap,rfl⟩:=h.form;obtain⟨hl,de,dh,cy,s,t,aa,bb,ll,cc,kk,dd,hc⟩:=h.forms;obtain⟨HL,B,HS,Ub,Qp⟩:=FX hl hc hs hT bu;clear hc hl hs h hT bu;obtain⟨W0,ah⟩:=ex (((w.alloc (F #[C a len cap] 25)).alloc (F #[H none,C none 0 0] 89)).alloc (F #[C a len cap] 23));obtain⟨d,aj⟩:=ex (w.heap.size+1);have hN:W0.heap.size=d+1+1:=by rw[<-ah,<-aj];simp
 have x2:Boxed W0 (d+1) 23 (C a len cap):=by
  have X:=BJ ((w.alloc (F #[C a len cap] 25)).alloc (F #[H none,C none 0 0] 89)) 23 (C a len cap);rw[ah]at X;simpa[aj]using X
 have x3:Bl w W0:=by rw[<-ah];exact((Ba w _).alloc DJ _).alloc si _
 have x5:Lib.IsBuilder 89 5 d d (Lib.byteCells (JR (qs.drop (len-0)) (len-0))) W0:=by
  refine Ar ⟨Aa _,C none 0 0,?_,?_,by simp[Value.ownBlock]⟩
  . rw[<-ah,<-aj];have X:=BC (w.alloc (F #[C a len cap] 25)) (F #[H none,C none 0 0] 89);rw[A1]at X;exact(Br _ _ _ DJ).trans X
  . rw[An (by have:=HL.o;omega)];exact⟨J,Ar ⟨J,J⟩⟩
 have Qr:=Z ah;have Qk:=Z aj;have Qj:w.heap.size<=d:=O
 clear ah;refine(BK (n:=3)).1 ?_;refine BW func13 J trivial ?_ J;simp only[ntmps13,Ak,Af,AL,Nat.reduceAdd,Nat.reduceSub,As,At,AG,Aw,Ah,Am];gi_wp2_with(refine⟨trivial,?_⟩;gi_at_call 50;refine(Lv Fence.wide _ trivial J _ _ _ _).mono ?_;rintro e w' ⟨rfl,rfl⟩)
 rw[Qr.o];try simp only[Qk.o]
 clear aj;refine Ih J O (gf:=94) (lb:=#[H (some ⟨d+1,0,none⟩)]) J trivial (B7 func94 Zv J)
  (Lu Fence.wide _ trivial J O (d+1) a len cap (λj=>E (s j)) (λj=>C (aa j) (ll j) (cc j)) (λj=>E (t j)) (λj=>C (bb j) (kk j) (dd j)) cy) (λ_=>rfl)
  (Ot w d a len cap qs) (λ_ _ _=>False) (by rw[hN];exact U7 w d a len cap qs Qj) (λc s W W' row h=>h.elim) ⟨⟨x2,x3⟩,x5⟩ ?rd
  (λk b=>{ tmps:=#[.agg #[C a len cap],H (some ⟨w.heap.size,0,none⟩),P ⟨#[]⟩,H (some ⟨d,0,none⟩),.int .i64 ((len:Int)-1-k),H (some ⟨b,0,none⟩),H (some ⟨w.heap.size,0,none⟩),C a len cap,.func (.func 94) #[] #[H (some ⟨d+1,0,none⟩)],.int .i64 ((len:Int)-1-k),.agg #[E (s (len-1-k)),C (aa (len-1-k)) (ll (len-1-k)) (cc (len-1-k)),E (t (len-1-k)),C (bb (len-1-k)) (kk (len-1-k)) (dd (len-1-k))],L,L,L,L,L,L,L,L,L,L,L,L],defers:=[] })
  (λk=>F #[E (s (len-1-k)),C (aa (len-1-k)) (ll (len-1-k)) (cc (len-1-k)),E (t (len-1-k)),C (bb (len-1-k)) (kk (len-1-k)) (dd (len-1-k))] 38 (0,0)) ?assign ?body ?done ?stop
 case stop=>intro D c k W _ _ h;exact h.elim
 case rd=>
  intro k W M;have hB:=M.1.2;refine⟨M.1.1.cell,λhk=>?_⟩;obtain⟨_,b,ea,hb,X,Q,h3,h4⟩:=B.o (len-1-k) O;exact⟨b,ea,(hB.cell (p:=⟨b,_,none⟩) hb).trans X,(hB.cell (p:=⟨b,_,none⟩) hb).trans Q,(hB.cell (p:=⟨b,_,none⟩) hb).trans h3,(hB.cell (p:=⟨b,_,none⟩) hb).trans h4⟩
 case assign=>
  intro l k W K hK;unfold Hv;gi_wp2;exact hK
 case done=>
  rintro D W hD ⟨⟨y1,y2⟩,A⟩ hK;rw[show qs.drop (len-len)=qs from by rw[AX];rfl,AX]at A;have Qf:d<=W.heap.size:=by have:=y1.lt;omega
  have HY:=Z A;have Qd:=Z (Oq d d _ W A);clear A;by_cases an:JR qs 0=[]
  . have Qe:=Z (show Ei qs=[48]by unfold Ei;rw[BL an]);rw[an]at Qd;gi_wp2_with(refine⟨trivial,?_⟩;gi_at_call 54;refine((BK (n:=_)).2 Qd.o).mono ?_;rintro e w6 ⟨rfl,ai⟩)
    have Qh:w6.heap[D]?=some (.deferred (some [])):=(J6 ai).same D _ hK J;refine⟨DJ,.inl ⟨_,_,J,BZ Qh,?_⟩⟩;refine⟨P ⟨#[48]⟩,by simp[results,results13,go_sem],by rw[Qe.o],?_⟩;exact below_grown (Bt y2 ai) (BX _ D (.deferred none)) O
  . have Qe:=Z (show Ei qs=JR qs 0 by unfold Ei;rw[BH an]);have Qn:((JR qs 0).length:Int)≠0:=by
     have:0<(JR qs 0).length:=AP.2 an
     omega
    have Qz:(((JR qs 0).length:Int)==0)=false:=by rw[BG];exact Qn
    have Ql:=Z λ(V:G) (h:Bl W V)=>Tryz.Builder_String_any_k d d (JR qs 0) V (Lib.IsBuilderF.of (Y4 HY.o h)) (AK Qf h.size);obtain⟨n,hn⟩:=ex ((JR qs 0).length);rw[hn]at Qd Qz Qn;obtain⟨ST,ay⟩:∃S:ByteArray,⟨(JR qs 0).toArray⟩=S:=⟨_,J⟩;rw[ay]at Ql;have Qt:=Z (show⟨(Ei qs).toArray⟩=ST by rw[Qe.o];exact ay);clear an hn ay HY;gi_wp2_with(first
     |(refine⟨trivial,?_⟩;gi_at_call 54;refine((BK (n:=_)).2 Qd.o).mono ?_;clear Qd;rintro e w6 ⟨rfl,ai⟩)
     |(refine⟨trivial,?_⟩;gi_at_call 55;refine((BK (n:=_)).2 (Ql.o _ ai)).mono ?_;clear Ql;rintro e w7 ⟨rfl,_,cg,co⟩))
    have Qh:w6.heap[D]?=some (.deferred (some [])):=(J6 ai).same D _ hK J;have Qs:=co D _ Qh (λe=>by cases e;omega) (λc fz e=>by cases e);refine⟨DJ,.inl ⟨_,_,J,BZ Qs,?_⟩⟩;refine⟨P ST,by simp[results,results13,go_sem],by rw[Qt.o],?_⟩;exact below_grown ((Bt y2 ai).trans (cg.mono Qj)) (BX _ D (.deferred none)) O
 case body=>
  rintro l k b W ⟨⟨y1,y2⟩,A⟩ hk cz ck az;have hm:len-1-k<len:=O
  obtain⟨hi,_⟩:=B.o (len-1-k) hm;have HI:=Z (Jk.below hi y2);have e1:((len:Int)-1-k)=((len-1-k:Nat):Int):=O
  have ek:len-k=len-1-k+1:=O
  rw[e1];rw[ek]at A;have Qi:=Z (show len-(k+1)=len-1-k by omega);clear e1 hi ek;obtain⟨m,bk⟩:=ex (len-1-k);rw[bk]at az HI hm A Qi ⊢;have HM:=Z (show m<qs.length by have:=HL.o;omega);obtain⟨Qc,Qw,Qg⟩:=Db (XC qs HM.o) (Ub.o m) (HS.o.at m);have Qu:m<=1099511627776:=O
  clear bk;have q0:JA W b 38 (E (s m)) (C (aa m) (ll m) (cc m)) (E (t m)) (C (bb m) (kk m) (dd m)):=az;obtain⟨s1,bn⟩:=ex (s m);obtain⟨t1,bt⟩:=ex (t m);obtain⟨a1,bd⟩:=ex (aa m);obtain⟨b1,bf⟩:=ex (bb m);obtain⟨l1,bj⟩:=ex (ll m);obtain⟨c1,bg⟩:=ex (cc m);obtain⟨m1,bm⟩:=ex (kk m);obtain⟨d1,bi⟩:=ex (dd m);rw[bn,bt,bd,bf,bj,bg,bm,bi]at q0 HI ⊢;obtain⟨T,bc⟩:=ex (JR (qs.drop (m+1)) (m+1));rw[bc]at A Qc;obtain⟨q,bh⟩:∃y,cf qs m=y:=⟨_,J⟩;rw[bh]at HI Qc Qg;have hS:FP w W d b a len cap (E s1) (C a1 l1 c1) (E t1) (C b1 m1 d1) T W:=⟨⟨⟨y1,y2⟩,A⟩,DB W,q0,by have:=y1.lt;omega⟩;have Qy:b≠d:=O
  clear bn bt bd bf bj bg bm bi bc bh y1 y2 A az cz ck;obtain⟨k0,k1,k2,k3⟩:=q0.cq;have HZ:=Z λ(n9:Nat)=>Bc l ((BK (n:=n9)).2 (OW _ q W HI.o Qg.o));by_cases hx:q=0
  . rw[show decide (q=0)=true from BI hx]at HZ;have HX:=Z hx;clear hx;gi_wp2_with(refine⟨trivial,?_⟩;gi_at_call 51;refine(HZ.o _).mono ?_;rintro e w' ⟨rfl,ap⟩)
    have ae:=hS.below ap;refine⟨ae.2.1.from _,ae.1.1,?_⟩;rw[Qi.o,Qc.o,BL HX.o];exact ae.1.2
  . rw[show decide (q=0)=false from BF hx]at HZ;have HX:=Z hx;clear hx;gi_wp2_with(refine⟨trivial,?_⟩;gi_at_call 51;refine(HZ.o _).mono ?_;clear HZ;rintro e w' ⟨rfl,ap⟩)
    have ae:=hS.below ap;have bz:=Z (HI.o.below ap);clear hS k0 k1 k2 k3 q0 HI;obtain⟨n,hn⟩:=ex (T.length);obtain⟨f,hf⟩:=ex (T.isEmpty);have dj:((n:Int)==0)=f:=by
     rw[<-hf,<-hn,Ci,beq_iff_eq,List.isEmpty_iff_length_eq_zero];omega
    rw[BH HX.o,hf]at Qc;have HN:=Z hn;have Qm:=Z (show T.length+(Xq q m f).length<=140737488355328 by
     have:=Qw.o;rw[Qc.o,AE]at this;exact this)
    have Qq:Gj w W d b a len cap (E s1) (C a1 l1 c1) (E t1) (C b1 m1 d1) T q w'.drew:=Gj.below ⟨ae,bz.o⟩ ((BB _ w').drew);have Qv:=Z λ(V:G) (h:Bl w V)=>JX Qp.o h;obtain⟨TX,ak⟩:∃S:ByteArray,⟨(Xq q m f).toArray⟩=S:=⟨_,J⟩;obtain⟨Qe,Ua,Qx,Qo⟩:=Dn ak (show T.length+TX.size<=140737488355328 by rw[<-ak];show _+(Xq q m f).toArray.size<=_;rw[Ak];exact Qm.o) (show Lib.byteCells T++Lib.strCells TX=Lib.byteCells (T++Xq q m f)by rw[<-ak];simp[Lib.byteCells,Lib.strCells]) λ(V:G) (u:N) (hu:Jk V u q) (h:Bl w V)=>U6 u q m f V hu Qg.o Qu (Qv.o V h);rw[ak]at Qo;clear ae hn hf ak;refine YE Di [[],[],[],[2],[0,1,3,2],[4,4]] Zv DP
     (λD aq V=>∃(ta tb tc td te tf:N),aq={ tmps:=#[.agg #[C a len cap],H (some ⟨w.heap.size,0,none⟩),P { data:=#[] },H (some ⟨d,0,none⟩),.int .i64 ↑m,H (some ⟨b,0,none⟩),H (some ⟨w.heap.size,0,none⟩),C a len cap,.func (.func 94) #[] #[H (some ⟨d+1,0,none⟩)],.int .i64 ↑m,.agg #[E s1,C a1 l1 c1,E t1,C b1 m1 d1],.agg #[E s1,C a1 l1 c1,E t1,C b1 m1 d1],E false,E true,ta,tb,tc,td,te,tf,L,L,L],defers:=[] }/\Hid ((D 0=true->D 5=false->Jk V ta q)/\(D 1=true->tb=.int .i64 (m:Int))/\(D 2=true->tc=.int .i64 (n:Int))/\(D 3=true->td=E f)/\(D 4=true->te=P TX)/\(D 5=true->True))/\Hid ((D 5=false->Gj w W d b a len cap (E s1) (C a1 l1 c1) (E t1) (C b1 m1 d1) (T) q V)/\(D 5=true->FP w W d b a len cap (E s1) (C a1 l1 c1) (E t1) (C b1 m1 d1) (T++Xq q m f) V)))
     ⟨_,_,_,_,_,_,J,Z DJ,Z ⟨λ_=>Qq,DJ⟩⟩ ?step1 ?fin1
    case step1=>
     rintro D aq V i ds U hi x ad ⟨ta,tb,tc,td,te,tf,rfl,g,o⟩;have di:i<6:=(Ag.1 hi).1;obtain rfl|rfl|rfl|rfl|rfl|rfl:=GP i O
     all_goals
      simp only[Ap,Al,Ay]at hi;subst hi
     . have z:D 5=false:=DN U (DN (a:=4) U ad);have r:=o.o.1 z;obtain⟨e0,e1,e2,e3⟩:=r.1.2.2.1.cq;clear x;refine D8 ?_;exact⟨(LG (EM g λ_ _=>r.2) λ_=>trivial),o⟩
     . have z:D 5=false:=DN U (DN (a:=4) U ad);have r:=o.o.1 z;clear x;refine D8 ?_;exact⟨(LG (FC g) λ_=>trivial),o⟩
     . have z:D 5=false:=DN U (DN (a:=4) U ad);have r:=o.o.1 z;clear x;have B:=Z λ(n9:Nat)=>Bc l ((BK (n:=n9)).2 (Oq d d T V r.1.1.2));rw[HN.o]at B;refine Bd J λK hK=>?_;go_simp;gi_wp2_with(refine⟨trivial,?_⟩;gi_at_call 54;refine(B.o _).mono ?_;rintro e w5 ⟨rfl,R⟩)
       exact⟨_,_,_,_,_,_,J,Z ⟨λh Q=>(g.o.1 h Q).below R,g.o.2.1,λ_=>rfl,g.o.2.2.2.1,g.o.2.2.2.2.1,λ_=>trivial⟩,Z ⟨λh=>(o.o.1 h).below R,λh=>(o.o.2 h).below R⟩⟩
     . have z:D 5=false:=DN U (DN (a:=4) U ad);have r:=o.o.1 z;obtain rfl:=g.o.2.2.1 (x 2 DJ);clear x;refine D8 ?_;exact⟨Z ⟨g.o.1,g.o.2.1,λ_=>rfl,λ_=>rfl,g.o.2.2.2.2.1,λ_=>trivial⟩,o⟩
     . have z:D 5=false:=DN U ad;have r:=o.o.1 z;have h0:=g.o.1 (x 0 DJ) z;obtain rfl:=g.o.2.1 (x 1 DJ);obtain rfl:=g.o.2.2.2.1 (x 3 DJ);clear x;have B:=Z λ(n9:Nat)=>Bc l ((BK (n:=n9)).2 (Qo.o V _ h0 r.1.1.1.2));clear h0;refine Bd J λK hK=>?_;go_simp;gi_wp2_with(refine⟨trivial,?_⟩;gi_at_call 53;refine(B.o _).mono ?_;rintro e w5 ⟨rfl,R⟩)
       exact⟨_,_,_,_,_,_,J,Z ⟨λh Q=>(g.o.1 h Q).below R,λ_=>rfl,g.o.2.2.1,λ_=>rfl,λ_=>rfl,λ_=>trivial⟩,Z ⟨λh=>(o.o.1 h).below R,λh=>(o.o.2 h).below R⟩⟩
     . have r:=o.o.1 ad;obtain rfl:=g.o.2.2.2.2.1 (x 4 DJ);clear x;have B:=Z λ(n9:Nat)=>Bc l ((BK (n:=n9)).2 (XJ d d _ TX V r.1.1.2 (by rw[B3];exact Ua.o) (by have:=r.1.2.2.2;omega)));refine Bd J λK hK=>?_;go_simp;gi_wp2_with(refine⟨trivial,?_⟩;gi_at_call 52;refine(B.o _).mono ?_;rintro e w5 ⟨⟨v5,rfl⟩,⟨cj,R⟩,cn⟩)
       exact⟨_,_,_,_,_,_,J,Z ⟨λ_ h=>by simp at h,g.o.2.1,g.o.2.2.1,g.o.2.2.2.1,λ_=>rfl,λ_=>trivial⟩,Z ⟨λh=>by simp at h,λ_=>r.1.write Qj Qy cj R cn Qx.o⟩⟩
    case fin1=>
     rintro D aq V ce ⟨ta,tb,tc,td,te,tf,rfl,g,o⟩;have Q:=o.o.2 (ce 5 DP);refine⟨Q.2.1.from _,Q.1.1,?_⟩;rw[Qi.o,Qc.o];exact Q.1.2
section
open M3
end
namespace M3
def Has.set1{V:G}{v:N}{d:Dat}(h:Has V v d){B:Nat}{a:Zu}{l c:Nat}(q:Boxed V B 25 (C a l c))(e:Jw (C a l c)=true)(b:N):Has (V.setCell ⟨B,0,Option.none⟩ b) v d:=
 h.keep (OE q e b) (Ax λ_ _ g=>EI q b g)
def Er.set1{V:G}{v:N}{d1 d:Dat}(h:Er V v d1 d){B:Nat}{a:Zu}{l c:Nat}(q:Boxed V B 25 (C a l c))(f:Jw (C a l c)=true)(b:N):Er (V.setCell ⟨B,0,Option.none⟩ b) v d1 d:=by
 obtain⟨u1,u2,e,g,i⟩:=h;exact⟨u1,u2,e,g.set1 q f b,i.set1 q f b⟩
section
variable {w V:World} {bs:List (Option (Nat × Dat))} {B:Nat} {ρ:Operand->Value} {x y:Operand} {dst:Option Tmp} {ty:TypeId} {ps:String} {af:Array Edge} {gd:Option (Nat × Bool)} {q q0:Rat} {z z0:Int} {p p0:K} {v p1 u1:Value} {ds:List Dat} {T:World->Value->Prop}
end
