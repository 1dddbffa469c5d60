import Derived.Test.YtcahejkcdcjjgaaGreatDoorS35
set_option linter.all false
open Go.Value renaming slice->C,pointer->I,bool->F
open Go renaming World->G,Value->H,undef->L
open Go.Obj renaming cells->B
set_option maxRecDepth 99999
set_option maxHeartbeats 0
namespace Go.Proofs.YtcahejkcdcjjgaaGreatDoor
open Proofs.Tryz
open Go.RowKit Go.Shelf
attribute [local go_sem] Oper.semAt_some
def PF(a:List UInt8):Prop:=a=[]\/∃t,a=43::t\/a=45::t
def PF.head{b:List UInt8}(h:PF b){c:UInt8}(a:b.head?=some c):DZ c=false/\c≠47/\c≠32/\c≠120/\c≠94:=by
 rcases h with rfl|⟨t,rfl|rfl⟩
 . cases a
 . cases a;decide
 . cases a;decide
def Dj(a V:G):Prop:=Bl a V
def Dj.below{a V V':G}(h:Dj a V)(b:Bl V V'):Dj a V':=Bt h b
def Dj.drew(V:G):Dj V V.drew:=(BL _ V).drew
section
def CD(D:Int)(K:Nat)(c:Rat):Prop:=∃n:Int,c=Rat.divInt n D/\Sm K n
section
variable {D E:Int} {K M:Nat} {c d:Rat}
def CD.mono(h:CD D K c)(a:K<=M):CD D M c:=by
 obtain⟨n,e,h⟩:=h;exact⟨n,e,h.mono a⟩
def CD.smq(h:CD D K c)(a:D≠0)(hs:Sm K D):DT K c:=by
 obtain⟨n,rfl,h⟩:=h;exact DT.divInt a h hs
theorem CD.zero(D:Int)(K:Nat):CD D K 0:=⟨0,by rw[Rat.zero_divInt],Sm.zero K⟩
def CD.add(h:CD D K c)(a:CD D M d)(b:D≠0):CD D (max K M+1) (c+d):=by
 obtain⟨n,rfl,h⟩:=h;obtain⟨m,rfl,a⟩:=a;refine⟨n+m,?_,?_⟩
 . rw[Rat.divInt_add_divInt _ _ b b,<-Int.add_mul,CZ b]
 . exact(h.mono (Nat.le_max_left ..)).add (a.mono (Nat.le_max_right ..))
def CD.mul(h:CD D K c)(a:CD E M d):CD (D*E) (K+M) (c*d):=by
 obtain⟨n,rfl,h⟩:=h;obtain⟨m,rfl,a⟩:=a;exact⟨n*m,by rw[CF],h.mul a⟩
def CD.wide(h:CD D K c)(b:Sm M E)(a:E≠0):CD (D*E) (K+M) c:=by
 obtain⟨n,rfl,h⟩:=h;exact⟨n*E,by rw[CZ a],h.mul b⟩
theorem CD.of(h:DT K c):CD (c.den:Int) K c:=⟨c.num,(CC c).symm,h.1⟩
end
def D5(D:Int)(K:Nat)(ps:Y):Prop:=∀i,CD D K (cf ps i)
variable{ps qs:Y}{A:Nat}{a:Rat}
theorem D5.some:∀ {ps:Y},(∀i,DT A (cf ps i))->∃D:Int,D≠0/\Sm (ps.length*A+1) D/\D5 D (ps.length*A+1) ps:=by
 intro ps;induction ps with
 |nil=>intro _;exact⟨1,DV,Sm.one _ Z,λi=>by rw[Yq];exact CD.zero _ _⟩
 |cons c t j=>
  intro h;obtain⟨D,b,d,g⟩:=j (λi=>by have:=h (i+1);rwa[JN]at this);have a:=h 0;rw[J5]at a;have f:(c.den:Int)≠0:=by have:=c.den_nz;omega
  have e:(c::t).length*A+1=t.length*A+1+A:=by rw[Ag,AL];omega
  rw[e];refine⟨D*c.den,AZ b f,d.mul a.2,λi=>?_⟩;cases i with
  |zero=>
   rw[J5];have:=(CD.of a).wide d b;grind
  |succ i=>rw[JN];exact(g i).wide a.2 f
theorem PG{D:Int}{K:Nat}(b:D≠0)(h:∀i j,CD D K (cf ps i*cf qs j))(n:Nat):∀(i k:Nat),CD D (K+min i ps.length) (cf (Yr ps qs n i) k):=by
 intro i;induction i with
 |zero=>intro k;rw[Yr,JQ];exact CD.zero _ _
 |succ i a=>
  intro k;rw[Yr];rcases Yx (Yr ps qs n i) i (cf ps i) qs qs.length k with e|e
  . rw[e];exact(a k).mono Z
  . rw[e];by_cases c:i<ps.length
    . exact((a k).add (h i (k-i)) b).mono Z
    grind[J2]
def PH{D:Int}{K:Nat}(a:D≠0)(hs:Sm 1000000000 D)(h:∀i j,CD D K (cf ps i*cf qs j))(g:K+ps.length+1<=1000000000):M3.Xy ps qs:=by
 have b:∀c,CD D (K+ps.length+1) c->Sq c:=λc f=>Sq.of ((f.mono g).smq a hs) (Aa _);refine⟨λi j=>b _ ((h i j).mono Z),λn i j k=>?_⟩;have d:=PG a h n i k;rcases Yx (Yr ps qs n i) i (cf ps i) qs j k with e|e
 . rw[e];exact b _ (d.mono Z)
 . rw[e];exact b _ ((d.add (h i (k-i)) a).mono Z)
theorem L8{D:Int}{K:Nat}(a:D≠0)(h:∀i j,CD D K (cf ps i*cf qs j)):D5 D (K+ps.length) (JM ps qs):=λk=>by
 unfold JM;rw[JU,Fs];have b:=PG a h (ps.length+qs.length) ps.length k;grind[KW]
theorem L9(a:Rat)(j:Nat):cf (J8 a) j=a\/cf (J8 a) j=1\/cf (J8 a) j=0:=by
 rcases j with _|_|j
 . exact Az J
 . exact AE (Az J)
 grind[J2,J8]
def PI(h:DT A a)(j:Nat):CD (a.den:Int) A (cf (J8 a) j):=by
 have b:(a.den:Int)≠0:=by have:=a.den_nz;omega
 rcases L9 a j with e|e|e
 . rw[e];exact CD.of h
 . rw[e];exact⟨a.den,by rw[Rat.divInt_self' b],h.2⟩
 . rw[e];exact CD.zero _ _
theorem Vu(p q:Y):(JM p q).length<=p.length+q.length:=IE (IR _ _) λi a=>by grind[JM,JU,Fs,Op]
theorem MA(a:Rat)(l:Y):(JZ a l).length<=2*l.length:=by
 induction l with
 |nil=>simp[JZ]
 |cons c t b=>
  grind[JZ,Ka,J8,Vu,JV]
def Sm.powZ{v:Int}(h:Sm A v):∀n,Sm (n*A+1) (v^n):=by
 intro n;induction n with
 |zero=>rw[Int.pow_zero];exact Sm.one _ Z
 |succ n a=>rw[Int.pow_succ,AL,show n*A+1*A+1=n*A+1+A by omega];exact a.mul h
theorem PJ{D:Int}{K L:Nat}(g:D≠0)(k:DT A a):∀l:Y,l.length<=L->D5 D K l->D5 (D*(a.den:Int)^l.length) (K+l.length*(A+2*L+3)) (JZ a l):=by
 have b:(a.den:Int)≠0:=by have:=a.den_nz;omega
 intro l;induction l with
 |nil=>intro _ _ i;rw[JZ,Yq];exact CD.zero _ _
 |cons c t d=>
  intro hl h;rw[Ag]at hl;have d:=d Z (λi=>by have:=h (i+1);rwa[JN]at this);have m:=h 0;rw[J5]at m;have s:=MA a t;have r:(a.den:Int)^t.length≠0:=CG b;have n:∀i j,CD (D*(a.den:Int)^t.length*a.den) (K+t.length*(A+2*L+3)+A) (cf (JZ a t) i*cf (J8 a) j):=λi j=>(d i).mul (PI k j);have f:=L8 (AZ (AZ g r) b) n;have e:D*(a.den:Int)^t.length*a.den=D*(a.den:Int)^(c::t).length:=by rw[Ag,Int.pow_succ,Int.mul_assoc]
  rw[e]at f;have q:D*(a.den:Int)^(c::t).length≠0:=AZ g (CG b);have o:CD (D*(a.den:Int)^(c::t).length) (K+((c::t).length*A+1)) c:=m.wide (k.2.powZ _) (CG b);intro i;rw[JZ,Fu,JU];have p:CD (D*(a.den:Int)^(c::t).length) (K+((c::t).length*A+1)) (cf [c] i):=by
   rcases i with _|i
   . exact o
   . rw[J2 DQ];exact CD.zero _ _
  refine((f i).add p q).mono ?_;grind[AL]
def GJ(a:Rat)(ps:Y):Prop:=∀k,Sqs (JZ a (ps.drop k))/\M3.Xy (JZ a (ps.drop k)) (J8 a)/\Sqs (JM (JZ a (ps.drop k)) (J8 a))
def PK{D:Int}{K L:Nat}(p:D≠0)(u:Sm K D)(hp:D5 D K ps)(b:DT A a)(hl:ps.length<=L)(t:K+(L+1)*(A+2*L+3)+2*L+2<=1000000000):GJ a ps:=λk=>by
 have r:(a.den:Int)≠0:=by have:=a.den_nz;omega
 obtain⟨l,f⟩:=ex (ps.drop k);have c:l.length<=L:=by rw[<-f,AW];omega
 have s:D5 D K l:=λi=>by
  have e:cf l i=cf ps (k+i):=by rw[<-f];simp[cf]
  rw[e];exact hp _
 rw[f];have n:=PJ p b l c s;have v:(a.den:Int)^l.length≠0:=CG r;have q:D*(a.den:Int)^l.length≠0:=AZ p v;have x:l.length*(A+2*L+3)<=L*(A+2*L+3):=Ac _ c;have y:l.length*A<=L*A:=Ac _ c;have z:L*A<=L*(A+2*L+3):=Au _ Z;rw[AL]at t;have m:Sm (K+(l.length*A+1)) (D*(a.den:Int)^l.length):=u.mul (b.2.powZ _);have g:Sm 1000000000 (D*(a.den:Int)^l.length*a.den):=(m.mul b.2).mono Z;have d:D*(a.den:Int)^l.length*a.den≠0:=AZ q r;have o:∀i j,CD (D*(a.den:Int)^l.length*a.den) (K+l.length*(A+2*L+3)+A) (cf (JZ a l) i*cf (J8 a) j):=λi j=>(n i).mul (PI b j);have w:=MA a l;refine⟨Sqs.of λi=>Sq.of (((n i).mono (by omega:_<=1000000000)).smq q (m.mono Z)) (Aa _),PH d g o Z,Sqs.of λi=>?_⟩;exact Sq.of (((L8 d o i).mono (by omega:_<=1000000000)).smq d g) (Aa _)
end
namespace M3
variable{S:Y}{g j l n:Nat}{f:Nat->Y}{a:WO}{s xs:H}{V V' w:G}
def Tryz.infoPoly:(Tryz.prog.info? 25).map (λi=>(i.zero,i.size,i.bytes))=some (some (.agg #[C none 0 0]),1,24):=by kernel_rfl
def GK(n:Nat):Array H:=madeCells #[C none 0 0] (n*1)
theorem Vv(a:j<n):(GK n)[j]?=some (C none 0 0):=by
 unfold GK madeCells;grind
def Vw(n:Nat)(h:n<=1099511627776)(w:G):(Instr.makeSlice 115 (.int .i64 (n:Int)) (.int .i64 (n:Int))).run Tryz.prog w=.ok (C (some ⟨w.heap.size,0,none⟩) n n) (w.alloc (B (GK n) 25)):=by
 obtain⟨i,d,b⟩:=CP.1 Tryz.infoPoly;simp only[Prod.mk.injEq]at b;obtain⟨e,hs,c⟩:=b;have a:=run_make (P:=Tryz.prog) w 115 25 i _ underlying115 d e .i64 .i64 n n Z (Int.le_refl _) (by rw[c];omega) Z;simp only[Cw,hs]at a;exact a
def XN(V:G)(g n:Nat)(f:Nat->Y):Prop:=∃cs:Array H,V.heap[g]?=some (B cs 25 (0,0))/\∀j,j<n->∃a l c,cs[j]?=some (C a l c)/\RowK true V (C a l c) (f j)
theorem XN.lt(h:XN V g n f):g<V.heap.size:=by obtain⟨cs,h,_⟩:=h;grind
def XN.below{V V':G}{g n:Nat}{f:Nat->Y}(h:XN V g n f)(b:Bl V V'):XN V' g n f:=by
 have hl:=h.lt;obtain⟨cs,d,i⟩:=h;refine⟨cs,(b.block g hl).trans d,λj m=>?_⟩;obtain⟨a,l,c,e,k⟩:=i j m;exact⟨a,l,c,e,k.below b⟩
def XN.new(V:G)(n:Nat):XN (V.alloc (B (GK n) 25)) V.heap.size n (λ_=>[]):=⟨GK n,BV V _,λ_ a=>⟨_,_,_,Vv a,RowK.nil _ _⟩⟩
def XN.cell{V:G}{g n:Nat}{f:Nat->Y}(h:XN V g n f){j:Nat}(k:j<n):∃a l c,V.cell? ⟨g,j,none⟩=some (C a l c)/\RowK true V (C a l c) (f j):=by
 obtain⟨cs,b,d⟩:=h;obtain⟨a,l,c,e,i⟩:=d j k;exact⟨a,l,c,cell_of b e,i⟩
def XN.frozen{V:G}{g n:Nat}{f:Nat->Y}(h:XN V g n f)(o:Nat):V.frozen? ⟨g,o,none⟩=false:=by obtain⟨cs,a,_⟩:=h;simp[World.frozen?,a]
theorem XN.set(h:XN V g n f)(r:j<n){c:Nat}{q:Y}(u:RowK true V (C a l c) q):XN (V.setCell ⟨g,j,none⟩ (C a l c)) g n (λk=>if k=j then q else f k):=by
 obtain⟨cs,d,i⟩:=h;obtain⟨x,A,c0,b,_⟩:=i j r;have m:∀v qs,RowK true V v qs->RowK true (V.setCell ⟨g,j,none⟩ (C a l c)) v qs:=λv qs t=>Hl d b J true DV _ v qs t;refine⟨cs.setIfInBounds j (C a l c),JD d _,λk s=>?_⟩;have z:=(Ab.1 b).1;by_cases e:k=j
 . subst e;refine⟨a,l,c,?_,?_⟩
   . grind
   . show RowK true _ _ (if k=k then q else f k);rw[Br J];exact m _ _ u
 . obtain⟨o,w,c1,y,p⟩:=i k s;refine⟨o,w,c1,?_,?_⟩
   . grind
   . show RowK true _ _ (if k=j then q else f k);rw[Bk e];exact m _ _ p
def XN.cong{f':Nat->Y}(h:XN V g n f)(e:∀j,j<n->f j=f' j):XN V g n f':=by
 obtain⟨cs,b,c⟩:=h;refine⟨cs,b,λj a=>?_⟩;rw[<-e j a];exact c j a
def Vx{q:Rat}(h:Sq q):Sqs (Jh [q]):=Sqs.of λi=>by
 rw[JU];rcases i with _|i
 . exact h
 . rw[J2 DQ];exact FW
def Vy(R:WO)(la S:Nat)(ps:Y)(w:G)(E:RowK true w (C R la S) ps)(N:Sqs ps):
 Calls Tryz.prog 78 #[C R la S,.func (.func 79) #[] #[]] w λe T=>∃g,e=.returned (C (some ⟨g,0,none⟩) la la)/\w.heap.size<=g/\XN T g la (λj=>Jh [cf ps j])/\Bl w T:=by
 obtain⟨ah,ad,ae,ai,s,t,aa,bb,ll,cc,kk,dd,K⟩:=E.forms;have n:=Vw la ai w;have k:=XN.new w la;have m:Bl w (w.alloc (B (GK la) 25)):=Ba w _;obtain⟨W0,D⟩:=ex (w.alloc (B (GK la) 25));rw[D]at k m n;obtain⟨l,A,W,X⟩:=Dw (k.cong (f':=λj=>if j<0 then Jh [cf ps j]else []) λj _=>rfl) m K N;obtain⟨g,hg⟩:=ex (w.heap.size);rw[hg]at l n;have y:=Ja hg;clear E N K ah ad ae k m D hg;go_enter func78,ntmps78
 go_wp2;clear n;go_loopw [13] (λv wr=>∃i:Nat,i<=la/\v=.int .i64 (i:Int)/\Hid (XN wr g la (λj=>if j<i then Jh [cf ps j]else [])/\Bl w wr)) λv _=>la-(intOf v).toNat
 case atStart=>exact⟨0,AN _,J,Ja ⟨l.o,A.o⟩⟩
 case round=>
  obtain⟨i,hi,rfl,a⟩:=hrel;clear l A;by_cases r:i<la
  . have aj:(i:Int)<(la:Int):=Z
    obtain⟨M,b,rfl,f,p0,p1,P,Q⟩:=W.o i r;have e0:=(a.o.2.cell (p:=⟨b,_,none⟩) f).trans p0;have e1:=(a.o.2.cell (p:=⟨b,_,none⟩) f).trans p1;have o:=(a.o.2.cell (p:=⟨b,_,none⟩) f).trans P;have e3:=(a.o.2.cell (p:=⟨b,_,none⟩) f).trans Q;have c:Bl wr (wr.alloc (B #[F (s i),C (aa i) (ll i) (cc i),F (t i),C (bb i) (kk i) (dd i)] 38)):=Ba wr _;have x:=Ja (Tn _ (cf ps i) _ ((M.below a.o.2).below c) (X.o.at i));have z:=Ja (show XN _ g la (λj=>if j<i then Jh [cf ps j]else [])/\Bl w _ from⟨a.o.1.below c,Bt a.o.2 c⟩);clear M p0 p1 P Q c;go_wp2_with(go_at_call 79;refine x.o.mono ?_;clear x;rintro e w5 ⟨u5,rfl,u,_,q⟩;obtain⟨a5,l5,c5,rfl⟩:=u.form;have d:=z.o.1.below q;obtain⟨a6,l6,c6,x0,_⟩:=d.cell r;have x1:=d.frozen i;have V:=Ja (d.set r u.row);have U:=Ja ((Bt z.o.2 q).setCell (p:=⟨g,i,none⟩) (by rw[y.o];exact Aa _) (C a5 l5 c5));clear d u q)
    go_roundw
    case rel=>exact⟨i+1,Z,by go_num,Ja ⟨V.o.cong (λj _=>by
     by_cases e:j=i
     . subst e;rw[Br J,Br Z]
     . rw[Bk e];by_cases o:j<i
       . rw[Br o,Br Z]
       . rw[Bk o,Bk Z]),U.o⟩⟩
    case measure=>simp[intOf];omega
  . obtain rfl:i=la:=Z
    go_wp2;go_ret;exact⟨g,J,by rw[y.o];exact Aa _,a.o.1.cong λj hj=>Br hj,a.o.2⟩
def Vz(c:Nat)(a:WO)(len cap:Nat)(x:Nat->H)(k:Nat)(W:G):Prop:=
 W.cell? ⟨c,0,none⟩=some (C a len cap)/\(k<len->∃b,a=some ⟨b,0,none⟩/\W.cell? ⟨b,len-1-k,none⟩=some (x (len-1-k)))
def MC(len:Nat)(x:Nat->H)(k:Nat):Array H:=#[.int .i64 ((len:Int)-1-k),.agg #[x (len-1-k)]]
def V4(F:Fence)(n:Nat)(y:F.fn 145)(z:F.round=none)(R:1<=n)(d:Nat)(a:WO)(len cap:Nat)(x:Nat->H)(Q:len<=1099511627776):
 GR F n Tryz.prog 145 #[I (some ⟨d,0,none⟩)] len (MC len x) (Vz d a len cap x):=λl J A W j v g=>by
 have M:=(j 0 W g).1;refine DB func145 rfl y ?_ z;simp only[ntmps145,Ak,Ag,AB,Nat.reduceAdd,Nat.reduceSub,An,Ao,Ax,Ap,Al,Aw];gi_wp2;gi_loopw [3] (λi wr=>∃k:Nat,k<=len/\i=.int .i64 ((len:Int)-1-k)/\J k wr) λi _=>(intOf i+1).toNat
 case atStart=>exact⟨0,AN _,DQ,g⟩
 case round=>
  obtain⟨k,P,rfl,hJ⟩:=hrel;obtain⟨K,w⟩:=j k wr hJ;by_cases c:k<len
  . obtain⟨b,rfl,N⟩:=w c;obtain⟨fn,tmps,assign,body,q,u⟩:=v k wr hJ c;have f:((len:Int)-1-k)=((len-1-k:Nat):Int):=Z
    have E:len-1-k<len:=Z
    dsimp only[MC]at q;rw[f]at q ⊢;generalize o:len-1-k=m at *;have r:=Hid.o (p:=Hid (len-1-k=m)) o;clear o f;gi_wp2;refine u.mono ?_;rintro e D (⟨rfl,s⟩|⟨rfl,t⟩)
    . gi_wp2;go_roundw
      case rel=>exact⟨k+1,Z,by(congr 1;have:=r.o;omega),s⟩
      case measure=>simp[intOf]
    . gi_wp2;refine BM (results_none rfl _ _ _) rfl ?_;exact⟨⟨_,rfl⟩,.inr ⟨k,c,t⟩⟩
  . obtain rfl:k=len:=Z
    gi_wp2;go_end0;exact⟨⟨_,rfl⟩,.inl hJ⟩
def V5(F:Fence)(n:Nat)(b:F.fn 111)(c:F.round=none)(a:WO)(len cap:Nat)(w:G):
 CallsIn F n Tryz.prog 111 #[C a len cap] w λe d=>e=.returned (.func (.func 145) #[] #[I (some ⟨w.heap.size,0,none⟩)])/\d=w.alloc (B #[C a len cap] 115):=by
 refine DB func111 J b ?_ c;simp only[ntmps111,Ak,Ag,AB,Nat.reduceAdd,Nat.reduceSub,An,Ao,Ax,Ap,Al,Aw];gi_wp2;go_ret;exact⟨J,J⟩
def lenV:H->Nat|C _ l _=>l|_=>0
def IG(V:G)(t:H)(ps:Y):Prop:=∃v,t=.iface 25 v/\Jj V v ps
def IG.below{V V':G}{t:H}{ps:Y}(h:IG V t ps)(b:Bl V V'):IG V' t ps:=by
 obtain⟨v,e,a⟩:=h;exact⟨v,e,a.below b⟩
def V6(v:H)(V:G):(method 371 25 v "Times").run Tryz.prog V=.ok (28,v) V:=by kernel_rfl
def V8(v:H)(V:G):(method 371 25 v "Plus").run Tryz.prog V=.ok (26,v) V:=by kernel_rfl
def Ek(w V:G)(xs b:H)(S:Y):Prop:=
 Boxed V w.heap.size 25 xs/\Boxed V (w.heap.size+1) 25 (C none 0 0)/\(∃a l c,Boxed V (w.heap.size+1+1) 25 (C a l c)/\RowK true V (C a l c) S)/\Boxed V (w.heap.size+1+1+1) 115 b/\Bl w V
def Ek.below{w V V':G}{xs d:H}{S:Y}(h:Ek w V xs d S)(b:Bl V V'):Ek w V' xs d S:=by
 obtain⟨e,f,⟨a,l,c,g,i⟩,j,k⟩:=h;exact⟨boxed_below e b,boxed_below f b,⟨a,l,c,boxed_below g b,i.below b⟩,boxed_below j b,Bt k b⟩
def Ek.own{row:Option Nat}(h:Ek w V xs s S)(hg:V.grownBy V' row)(f:∀x,row=some x->w.heap.size<=x/\∃o:Obj,V.heap[x]?=some o/\o.isCells=false):Ek w V' xs s S:=by
 have b:∀r,row=some r->∃o:Obj,V.heap[r]?=some o/\o.isCells=false:=λr e=>(f r e).2;obtain⟨g,i,⟨a,l,c,j,m⟩,n,d⟩:=h;exact⟨boxed_own hg b g,boxed_own hg b i,⟨a,l,c,boxed_own hg b j,Hx hg b m⟩,boxed_own hg b n,d.grown hg d.size λk e=>(f k e).1⟩
def Ek.put{b:Y}(h:Ek w V xs s S){c:Nat}(j:Jj V (.agg #[C a l c]) b):Ek w (V.setCell ⟨w.heap.size+1+1,0,none⟩ (C a l c)) xs s b:=by
 obtain⟨e,f,⟨k,n,c0,d,m⟩,g,i⟩:=h;exact⟨(BR V _ _ _ (by show w.heap.size≠w.heap.size+1+1;omega)).trans e,(BR V _ _ _ (by show w.heap.size+1≠w.heap.size+1+1;omega)).trans f,⟨a,l,c,d.set _,X7 d _ j.row⟩,(BR V _ _ _ (by show w.heap.size+1+1+1≠w.heap.size+1+1;omega)).trans g,i.setCell (p:=⟨w.heap.size+1+1,0,none⟩) (by show w.heap.size<=w.heap.size+1+1;omega) _⟩
def GL(w W V:G)(xs c:H)(S:Y)(b:Nat)(a:H):Prop:=Ek w V xs c S/\Boxed V b 25 a/\w.heap.size+1+1+1<b/\KeepsOthers W V
def GL.below{w W V V':G}{xs d:H}{S:Y}{b:Nat}{c:H}(h:GL w W V xs d S b c)(a:Bl V V'):GL w W V' xs d S b c:=⟨h.1.below a,boxed_below h.2.1 a,h.2.2.1,h.2.2.2.trans (JS a)⟩
def V9(a:Rat)(ps:Y){m:Nat}(h:m<ps.length):Xa (JM (JZ a (ps.drop (m+1))) (J8 a)) (Jh [cf ps m])=JZ a (ps.drop m):=by
 rw[Ay h,JZ,KO h]
def WA(f la A z:Nat)(y:WO)(ps:Y)(a:Rat)(w:G)(h:XN w f la λj=>Jh [cf ps j])(hl:la=ps.length)(bh:la<=1099511627)(hx:RowK true w (C y A z) (J8 a))(aj:Sq a)(az:Sqs ps)(ay:GJ a ps):
 Calls Tryz.prog 80 #[C (some ⟨f,0,none⟩) la la,.agg #[C y A z]] w λe w'=>∃u,e=.returned u/\Jj w' u (JZ a ps)/\Bl w w':=by
 have Qc:∃(M:Nat->WO) (P N:Nat->Nat),∀j,j<la->w.cell? ⟨f,j,none⟩=some (C (M j) (P j) (N j))/\RowK true w (C (M j) (P j) (N j)) (Jh [cf ps j]):=by
  refine⟨λj=>Hr ((w.cell? ⟨f,j,none⟩).getD .nilFunc),λj=>lenV ((w.cell? ⟨f,j,none⟩).getD .nilFunc),λj=>Ht ((w.cell? ⟨f,j,none⟩).getD .nilFunc),λj hj=>?_⟩;obtain⟨a,l,c,e,hr⟩:=h.cell hj;refine⟨?_,?_⟩
  . simp only[e,C3,Hr,lenV,Ht]
  . simp only[e,C3,Hr,lenV,Ht];exact hr
 obtain⟨M,P,N,ap⟩:=Qc;obtain⟨Qn,HL,HC,HS,bd,HK,HX⟩:=K5 h.lt hl ap az aj ay hx;have Qm:=Ja (show Sqs (J8 a)from Sqs.of λi=>by
  rcases L9 a i with e|e|e
  . rw[e];exact aj
  . rw[e];exact Sq.of (k:=1) ⟨Sm.one 1 Z,Sm.one 1 Z⟩ Z
  . rw[e];exact FW)
 have Qg:la<=1099511627776:=Z
 clear ap hl az aj ay hx h;refine(Be (n:=3)).1 ?_;refine Bn func80 J trivial ?_ J;simp only[ntmps80,Ak,Ag,AB,Nat.reduceAdd,Nat.reduceSub,An,Ao,Ax,Ap,Al,Aw];gi_wp2_with(refine⟨trivial,?_⟩;gi_at_call 111;refine(V5 Fence.wide _ trivial J _ _ _ _).mono ?_;rintro e w' ⟨rfl,rfl⟩)
 have M0:DS w _ _:=((((DS.nil w).push (.cell 25 (C y A z)) (cs:=#[C y A z]) ⟨J,J⟩).push (.cell 25 (C none 0 0)) (cs:=#[C none 0 0]) ⟨J,J⟩).push (.cell 25 (C none 0 0)) (cs:=#[C none 0 0]) ⟨J,J⟩).push (.cell 115 (C (some ⟨f,0,none⟩) la la)) (cs:=#[C (some ⟨f,0,none⟩) la la]) ⟨J,J⟩;simp only[A1]at M0;obtain⟨W0,ae⟩:=ex ((((w.alloc (B #[C y A z] 25)).alloc (B #[C none 0 0] 25)).alloc (B #[C none 0 0] 25)).alloc (B #[C (some ⟨f,0,none⟩) la la] 115));have M1:DS w W0 [some (w.heap.size,.cell 25 (C y A z)),some (w.heap.size+1,.cell 25 (C none 0 0)),some (w.heap.size+1+1,.cell 25 (C none 0 0)),some (w.heap.size+1+1+1,.cell 115 (C (some ⟨f,0,none⟩) la la))]:=by rw[<-ae];exact M0
 have hN:W0.heap.size=w.heap.size+1+1+1+1:=by rw[<-ae];simp
 have HU:=Ja (show Ek w W0 (C y A z) (C (some ⟨f,0,none⟩) la la) (JZ a (ps.drop (la-0)))from by
  rw[AF (by have:=HL.o;omega)];exact⟨(M1.cell (i:=0) J).1,(M1.cell (i:=1) J).1,⟨_,_,_,(M1.cell (i:=2) J).1,RowK.nil _ _⟩,(M1.cell (i:=3) J).1,M1.2.2⟩)
 have bf:=Ja ae;rw[ae];clear M0 M1 ae;have HN:=Ja hN;clear hN;refine XS J Z (gf:=145) (lb:=#[I (some ⟨w.heap.size+1+1+1,0,none⟩)]) J trivial (DF func145 WS J)
  (V4 Fence.wide _ trivial J Z (w.heap.size+1+1+1) (some ⟨f,0,none⟩) la la (λj=>C (M j) (P j) (N j)) Qg) (λ_=>rfl)
  (λk W=>Ek w W (C y A z) (C (some ⟨f,0,none⟩) la la) (JZ a (ps.drop (la-k)))) (λ_ _ _=>False)
  (λk W W' row h hg hr=>h.own hg λr e=>⟨by have:=(hr r e).1;rw[HN.o]at this;omega,(hr r e).2⟩) (λc s W W' row h=>h.elim) HU.o ?rd
  (λk b=>{ tmps:=#[C (some ⟨f,0,none⟩) la la,.agg #[C y A z],L,I (some ⟨w.heap.size,0,none⟩),I (some ⟨w.heap.size+1,0,none⟩),I (some ⟨w.heap.size+1+1,0,none⟩),L,I (some ⟨b,0,none⟩),C (some ⟨f,0,none⟩) la la,.func (.func 145) #[] #[I (some ⟨w.heap.size+1+1+1,0,none⟩)],.int .i64 ((la:Int)-1-k),.agg #[C (M (la-1-k)) (P (la-1-k)) (N (la-1-k))],L,L,L,L,L,L,L,L],defers:=[] })
  (λk=>B #[C (M (la-1-k)) (P (la-1-k)) (N (la-1-k))] 25 (0,0)) ?assign ?body ?done ?stop
 case stop=>intro D c k W _ _ h;exact h.elim
 case rd=>
  intro k W h;refine⟨h.2.2.2.1.cell,λhk=>⟨f,J,?_⟩⟩;exact(h.2.2.2.2.cell (p:=⟨f,_,none⟩) Qn.o).trans (HC.o (la-1-k) Z).1
 case assign=>
  intro l k W K hK;unfold MC;gi_wp2;exact hK
 case body=>
  intro l k b W E hk bc an ai;obtain⟨m,aq⟩:=ex (la-1-k);have hm:m<la:=Z
  rw[show la-k=m+1 by omega]at E;rw[aq]at ai ⊢;have Qo:=Ja (show la-(k+1)=m by omega);have Qj:=Ja (show m<ps.length by have:=HL.o;omega);have Qq:=Ja (HC.o m hm).2;have Qe:=Ja (V9 a ps Qj.o);have Qd:=Ja (HK.o (m+1));have Qt:=Ja (HK.o m).1;have Qh:=Ja (show(JZ a (ps.drop (m+1))).length+(J8 a).length<=1099511627776 by
   have h1:=MA a (ps.drop (m+1));rw[AW]at h1;have d:(J8 a).length=2:=rfl;have:=HL.o;omega)
  have Qs:=Ja (Vx (HS.o.at m));obtain⟨S,am⟩:∃S,JZ a (ps.drop (m+1))=S:=⟨_,J⟩;rw[am]at E Qe Qd Qh;have Ql:GL w W W.drew (C y A z) (C (some ⟨f,0,none⟩) la la) S b (C (M m) (P m) (N m)):=GL.below ⟨E,ai,by rw[HN.o]at an;omega,DL W⟩ ((BL _ W).drew);clear E ai bc an aq am HU;gi_wp2_with fail
  refine Ym Dl [[],[0],[],[1,2],[3],[],[4,5,3],[6,6,0,1,2,3,4,5,6]] WS DV
   (λD ah V=>∃(ta tb tc td te tf tg:H),ah={ tmps:=#[C (some ⟨f,0,none⟩) la la,.agg #[C y A z],L,I (some ⟨w.heap.size,0,none⟩),I (some ⟨w.heap.size+1,0,none⟩),I (some ⟨w.heap.size+1+1,0,none⟩),L,I (some ⟨b,0,none⟩),C (some ⟨f,0,none⟩) la la,.func (.func 145) #[] #[I (some ⟨w.heap.size+1+1+1,0,none⟩)],.int .i64 (↑la-1 - ↑k),.agg #[C (M m) (P m) (N m)],ta,tb,tc,td,te,tf,tg,L],defers:=[] }/\Hid ((D 0=true->D 7=false->Jj V ta S)/\(D 1=true->D 7=false->IG V tb S)/\(D 2=true->D 7=false->Jj V tc (J8 a))/\(D 3=true->D 7=false->Jj V td (JM S (J8 a)))/\(D 4=true->D 7=false->IG V te (JM S (J8 a)))/\(D 5=true->D 7=false->Jj V tf (Jh [cf ps m]))/\(D 6=true->D 7=false->Jj V tg (JZ a (ps.drop m))))/\Hid ((D 7=false->GL w W V (C y A z) (C (some ⟨f,0,none⟩) la la) (S) b (C (M m) (P m) (N m)))/\(D 7=true->GL w W V (C y A z) (C (some ⟨f,0,none⟩) la la) (JZ a (ps.drop m)) b (C (M m) (P m) (N m)))))
   ⟨_,_,_,_,_,_,_,J,Ja DQ,Ja ⟨λ_=>Ql,DQ⟩⟩ ?step1 ?fin1
  case step1=>
   rintro D ah V i ds ad hi v U ⟨ta,tb,tc,td,te,tf,tg,rfl,q,t⟩;have bg:i<8:=(Af.1 hi).1;obtain rfl|rfl|rfl|rfl|rfl|rfl|rfl|rfl:=PN i Z
   all_goals
    simp only[Ai,Ah,Aq]at hi;subst hi
   . have x:=t.o.1 (DY ad U);obtain⟨T,X,c5,n5,r5⟩:=x.1.2.2.1;have e0:=n5.cell;clear v;refine Dz ?_;exact⟨(D3 q λ_ _=>⟨_,J,r5⟩),t⟩
   . have R:D 7=false:=DY ad U;have Q:=q.o.1 (v 0 DQ) R;clear v;refine Dz ?_;exact⟨(EH q λ_ _=>⟨_,J,Q⟩),t⟩
   . have x:=t.o.1 (DY ad U);have e0:=x.1.1.cell;clear v;refine Dz ?_;exact⟨(Ep q λ_ _=>⟨_,J,HX.o.below x.1.2.2.2.2⟩),t⟩
   . have R:D 7=false:=DY ad U;have Q:=q.o.2.1 (v 1 DQ) R;have h1:=q.o.2.2.1 (v 2 DQ) R;obtain⟨y0,rfl,g0⟩:=Q;have Qr:=V6 y0 V;clear v;have HC:=Ja λ(n9:Nat)=>Bu l ((Be (n:=n9)).2 (Y3 _ _ S (J8 a) V g0 h1 Qd.o.1 Qm.o Qd.o.2.1 Qh.o));clear h1;refine Bv J λK hK=>?_;go_simp;gi_wp2_with(refine⟨trivial,?_⟩;gi_at_call 28;refine(HC.o _).mono ?_;rintro e w5 ⟨v5,rfl,ak,_,g⟩)
     obtain⟨G0,G1,G2,_,G4,G5,G6⟩:=q.o;exact⟨_,_,_,_,_,_,_,J,Ja ⟨λh d=>(G0 h d).below g,λh d=>(G1 h d).below g,λh d=>(G2 h d).below g,λ_ _=>ak,λh d=>(G4 h d).below g,λh d=>(G5 h d).below g,λh d=>(G6 h d).below g⟩,Ja ⟨λh=>(t.o.1 h).below g,λh=>(t.o.2 h).below g⟩⟩
   . have R:D 7=false:=DY ad U;have Q:=q.o.2.2.2.1 (v 3 DQ) R;clear v;refine Dz ?_;exact⟨(Ff q λ_ _=>⟨_,J,Q⟩),t⟩
   . have x:=t.o.1 (DY ad U);have e0:=x.2.1.cell;clear v;refine Dz ?_;exact⟨(Dx q λ_ _=>⟨_,J,Qq.o.below x.1.2.2.2.2⟩),t⟩
   . have R:D 7=false:=DY ad U;have Q:=q.o.2.2.2.2.1 (v 4 DQ) R;have h1:=D6 q (v 5 DQ) R;obtain⟨y0,rfl,g0⟩:=Q;have Qr:=V8 y0 V;clear v;have HC:=Ja λ(n9:Nat)=>Bu l ((Be (n:=n9)).2 (Gc _ _ (JM S (J8 a)) (Jh [cf ps m]) V g0 h1 Qd.o.2.2 Qs.o (by rw[Qe.o];exact Qt.o)));rw[Qe.o]at HC;clear h1;refine Bv J λK hK=>?_;go_simp;gi_wp2_with(refine⟨trivial,?_⟩;gi_at_call 26;refine(HC.o _).mono ?_;rintro e w5 ⟨v5,rfl,ak,_,g⟩)
     obtain⟨G0,G1,G2,G3,G4,G5,_⟩:=q.o;exact⟨_,_,_,_,_,_,_,J,Ja ⟨λh d=>(G0 h d).below g,λh d=>(G1 h d).below g,λh d=>(G2 h d).below g,λh d=>(G3 h d).below g,λh d=>(G4 h d).below g,λh d=>(G5 h d).below g,λ_ _=>ak⟩,Ja ⟨λh=>(t.o.1 h).below g,λh=>(t.o.2 h).below g⟩⟩
   . have x:=t.o.1 U;have Q:=q.o.2.2.2.2.2.2 (v 6 DQ) U;obtain⟨a9,l9,c9,rfl⟩:=Jj.form Q;obtain⟨T,X,c5,n5,r5⟩:=id x.1.2.2.1;have e0:=n5.cell;have f0:=n5.frozen;have Qk:b≠w.heap.size+1+1:=by have:=x.2.2.1;omega
     clear v;refine Dz ?_;exact⟨Ja ⟨λ_ h=>by simp at h,λ_ h=>by simp at h,λ_ h=>by simp at h,λ_ h=>by simp at h,λ_ h=>by simp at h,λ_ h=>by simp at h,λ_ h=>by simp at h⟩,Ja ⟨λh=>by simp at h,λ_=>⟨x.1.put Q,(BR V ⟨w.heap.size+1+1,0,none⟩ _ b Qk).trans x.2.1,x.2.2.1,x.2.2.2.trans (Bg _ _ _)⟩⟩⟩
  case fin1=>
   rintro D ah V ba ⟨ta,tb,tc,td,te,tf,tg,rfl,q,t⟩;have d:=t.o.2 (ba 7 DV);refine⟨d.2.2.2.from _,?_⟩;have h3:=d.1;rw[<-Qo.o]at h3;exact h3
 case done=>
  intro D W hD E hK;have E:Ek w W (C y A z) (C (some ⟨f,0,none⟩) la la) (JZ a (ps.drop (la-la))):=E;rw[show ps.drop (la-la)=ps from by rw[A3];rfl]at E;obtain⟨T,X,c5,n5,r5⟩:=E.2.2.1;have n6:=E.2.1;have e5:=n5.cell;have e6:=n6.cell;have f6:=n6.frozen;have HR:=Ja (X7 n6 (C T X c5) r5);have HB:=Ja (E.2.2.2.2.setCell (p:=⟨w.heap.size+1,0,none⟩) (by show w.heap.size<=w.heap.size+1;omega) (C T X c5));have g6:=n6.set (C T X c5);have Qf:(W.setCell ⟨w.heap.size+1,0,none⟩ (C T X c5)).heap[D]?=some (.deferred (some [])):=(Bg W ⟨w.heap.size+1,0,none⟩ _).same D _ hK J;have Qp:=Ja (show w.heap.size<=D by rw[HN.o]at hD;omega);clear n5 r5 n6 E;gi_wp2;refine⟨DQ,.inl ⟨_,_,J,Bq Qf,?_⟩⟩;have hg:=Bp (W.setCell ⟨w.heap.size+1,0,none⟩ (C T X c5)) D (.deferred none);have Qi:∀r,some D=some r->∃o:Obj,(W.setCell ⟨w.heap.size+1,0,none⟩ (C T X c5)).heap[r]?=some o/\o.isCells=false:=λr e=>by cases e;exact⟨_,Qf,J⟩
  have q2:=boxed_own hg Qi g6;have x2:=q2.cell;refine⟨.agg #[C T X c5],by simp[results,results80,go_sem,x2],_,J,⟨_,J,Hx hg Qi HR.o⟩,?_⟩;exact HB.o.trans (DP (w:=w) (Aa _) _ D _ _ Qp.o Qf J J)
def Fq(_:G):Prop:=True
def Fq.below(_:Fq V)(_:Bl V V'):Fq V':=trivial
def WB{x y z u d e c:H}{a b:Rat}(g:Jg V (.agg #[x,y,z,u]) a)(i:Jg V (.agg #[s,d,e,c]) b):RowK true (V.alloc (B #[x,y,z,u,s,d,e,c] 38)) (C (some ⟨V.heap.size,0,none⟩) 2 2) [a,b]:=by
 have f:Bl V (V.alloc (B #[x,y,z,u,s,d,e,c] 38)):=Ba V _;refine⟨_,2,J,Aa _,Z,DQ,AE ⟨V.heap.size,J,_,BV V _,λj k=>?_⟩⟩;have l:j<2:=k;rcases j with _|_|j
 . exact⟨x,y,z,u,J,J,J,J,g.below f⟩
 . exact⟨s,d,e,c,J,J,J,J,i.below f⟩
 . omega
def Fc(w V:G)(j:H)(a:Rat):Prop:=
 Boxed V w.heap.size 25 j/\(∃g b f c i b9 e d,Jr V (w.heap.size+1) 38 (F g) (C b f c) (F i) (C b9 e d)/\Jg V (.agg #[F g,C b f c,F i,C b9 e d]) a)/\Boxed V (w.heap.size+1+1) 25 (C none 0 0)/\Bl w V
def Fc.below{w V V':G}{c:H}{a:Rat}(h:Fc w V c a)(b:Bl V V'):Fc w V' c a:=by
 obtain⟨g,⟨o,d,n,e,p,b9,m,f,i,j⟩,k,l⟩:=h;exact⟨boxed_below g b,⟨o,d,n,e,p,b9,m,f,i.below b,j.below b⟩,boxed_below k b,Bt l b⟩
def FL(d:Bool)(w V:G)(c:H)(a:Rat)(t:H):Prop:=Fc w V c a/\(d=true->∃b,t=I (some ⟨b,0,none⟩)/\Boxed V b 25 (C none 0 0)/\w.heap.size+1+1<b)
def FL.below{d:Bool}{w V V':G}{c:H}{a:Rat}{t:H}(h:FL d w V c a t)(b:Bl V V'):FL d w V' c a t:=
 ⟨h.1.below b,λe=>by obtain⟨f,g,i,j⟩:=h.2 e;exact⟨f,g,boxed_below i b,j⟩⟩
def FL.alloc{w V:G}{b:H}{a:Rat}{t:H}(h:FL false w V b a t):FL true w (V.alloc (B #[C none 0 0] 25)) b a (I (some ⟨V.heap.size,0,none⟩)):=
 ⟨h.1.below (Ba V _),λ_=>⟨_,J,Bb _ _ _,h.1.2.2.1.lt⟩⟩
def IH(w V:G)(c:H)(a:Rat)(b:Nat):Prop:=Fc w V c a/\∃x y z,Boxed V b 25 (C x y z)/\RowK true V (C x y z) (J8 a)/\w.heap.size+1+1<b
def IH.below{w V V':G}{d:H}{a:Rat}{c:Nat}(h:IH w V d a c)(b:Bl V V'):IH w V' d a c:=by
 obtain⟨e,x,y,z,f,g,i⟩:=h;exact⟨e.below b,x,y,z,boxed_below f b,g.below b,i⟩
def KH(w V:G)(c:H)(a:Rat)(t:H):Prop:=∃b,t=I (some ⟨b,0,none⟩)/\IH w V c a b
def KH.below{w V V':G}{b:H}{a:Rat}{t:H}(h:KH w V b a t)(f:Bl V V'):KH w V' b a t:=by
 obtain⟨c,e,d⟩:=h;exact⟨c,e,d.below f⟩
def Fc.put{a:Rat}(h:Fc w V s a){b:Nat}{x:WO}{y z:Nat}(l:Boxed V b 25 (C x y z))(t:w.heap.size+1+1<b)(v:H):Fc w (V.setCell ⟨b,0,none⟩ v) s a:=by
 obtain⟨f,⟨o,c,n,d,q,b9,m,e,g,i⟩,j,k⟩:=h;refine⟨(BR V ⟨b,0,none⟩ v _ (by show w.heap.size≠b;omega)).trans f,⟨o,c,n,d,q,b9,m,e,(BR V ⟨b,0,none⟩ v _ (by show w.heap.size+1≠b;omega)).trans g,Dr.keep (r:=true) i (Ld l J v)⟩,(BR V ⟨b,0,none⟩ v _ (by show w.heap.size+1+1≠b;omega)).trans j,k.setCell (p:=⟨b,0,none⟩) (by show w.heap.size<=b;omega) _⟩
def KI(V:G)(t:H)(la:Nat)(ps:Y):Prop:=∃g,t=C (some ⟨g,0,none⟩) la la/\XN V g la λj=>Jh [cf ps j]
def KI.below{V V':G}{t:H}{la:Nat}{ps:Y}(h:KI V t la ps)(a:Bl V V'):KI V' t la ps:=by
 obtain⟨g,e,h⟩:=h;exact⟨g,e,h.below a⟩
def KJ(w V:G)(t:H)(P:Y):Prop:=∃x y z,t=.agg #[C x y z]/\Boxed V (w.heap.size+1+1) 25 (C x y z)/\Jj V t P/\Bl w V
def KJ.below{w V V':G}{t:H}{P:Y}(h:KJ w V t P)(a:Bl V V'):KJ w V' t P:=by
 obtain⟨x,y,z,e,b,c,d⟩:=h;exact⟨x,y,z,e,boxed_below b a,c.below a,Bt d a⟩
def KK(v vx:H)(ps:Y)(a:Rat)(w:G)(h:Jj w v ps)(hx:Jg w vx a)(an:Sqs ps)(ae:Sq a)(am:GJ a ps)(ay:ps.length<=1099511627):
 Calls Tryz.prog 36 #[v,vx] w λe w'=>∃u,e=.returned u/\Jj w' u (JZ a ps)/\Bl w w':=by
 obtain⟨n,la,o,rfl⟩:=h.form;obtain⟨s7,a7,l7,c7,t7,b7,k7,d7,rfl⟩:=hx.form;have ha:=h.row;obtain⟨ak,_⟩:=ha.forms;have M0:DS w _ _:=(((DS.nil w).push (.cell 25 (C n la o)) (cs:=#[C n la o]) ⟨J,J⟩).push (.rat a) (hx.below (Ba w _))).push (.cell 25 (C none 0 0)) (cs:=#[C none 0 0]) ⟨J,J⟩;simp only[A1]at M0;obtain⟨W,ad⟩:=ex (((w.alloc (B #[C n la o] 25)).alloc (B #[F s7,C a7 l7 c7,F t7,C b7 k7 d7] 38)).alloc (B #[C none 0 0] 25));have E:DS w W [some (w.heap.size,.cell 25 (C n la o)),some (w.heap.size+1,.rat a),some (w.heap.size+1+1,.cell 25 (C none 0 0))]:=by rw[<-ad];exact M0
 have Qf:Fc w W (C n la o) a:=by
  obtain⟨s1,a1,l1,c1,t1,b1,k1,d1,n1,r1,_,_⟩:=E.rat (i:=1) J;exact⟨(E.cell (i:=0) J).1,⟨s1,a1,l1,c1,t1,b1,k1,d1,n1,r1⟩,(E.cell (i:=2) J).1,E.2.2⟩
 obtain⟨HA,Qe,Qk,Qj,Qg,Ql,Qi⟩:=K5 ha an ae am (show la=ps.length/\la<=1099511627 from⟨ak,Z⟩) ad (show Jh [a,1]=J8 a from MK a);have Qh:=Ja (show Sqs [a,1]from Sqs.of λi=>by
  rcases L9 a i with e|e|e
  . rw[show cf [a,1] i=a from e];exact ae
  . rw[show cf [a,1] i=1 from e];exact Sq.of (k:=1) ⟨Sm.one 1 Z,Sm.one 1 Z⟩ Z
  . rw[show cf [a,1] i=0 from e];exact FW)
 have Qd:FL false w W.drew (C n la o) a L:=⟨Qf.below ((BL _ W).drew),λe=>by cases e⟩;clear h hx ha an ae am ay ak M0 E ad Qf;go_enter func36,ntmps36
 go_upto_region 1 with fail
 rw[Ql.o];refine Jt Dl [[],[],[0,1],[2,1],[],[4,3,3,0,1,2,3,4]] WS DV
  (λD x V=>∃(Q R S T P:H),x={ tmps:=#[.agg #[C n la o],.agg #[F s7,C a7 l7 c7,F t7,C b7 k7 d7],I (some ⟨w.heap.size,0,none⟩),I (some ⟨w.heap.size+1,0,none⟩),I (some ⟨w.heap.size+1+1,0,none⟩),P,Q,R,S,T,L,L,L,L,L],defers:=[] }/\Hid ((D 0=true->D 5=false->Jg V Q a)/\(D 1=true->D 5=false->Jg V R 1)/\(D 2=true->D 5=false->RowK true V S [a,1])/\(D 3=true->D 5=false->Jj V T (J8 a))/\(D 4=true->Fq V))/\Hid ((D 5=false->FL (D 4) w V (C n la o) a P)/\(D 5=true->KH w V (C n la o) a P)))
  ⟨_,_,_,_,_,J,Ja DQ,Ja ⟨λ_=>Qd,DQ⟩⟩ ?step1 ?fin1
 case step1=>
  rintro D x V i ds s y f m ⟨Q,R,S,T,P,rfl,b,d⟩;have Qm:i<6:=(Af.1 y).1;obtain rfl|rfl|rfl|rfl|rfl|rfl:=GN i Z
  all_goals
   simp only[Ai,Ah,Aq]at y;subst y
  . have j:=d.o.1 (DY s m);obtain⟨s5,a5,l5,c5,t5,b5,k5,d5,n5,r5⟩:=j.1.2.1;obtain⟨X,e1,e2,e3⟩:=n5.cq;clear f;refine Dc ?_;exact⟨(D3 b λ_ _=>r5),d⟩
  . clear f;have t:=Ja (Ln 1 Z Z V);refine Je J J λK hK=>?_;go_simp;go_wp2_with(go_at_call 77;refine t.o.mono ?_;rintro e w5 ⟨v5,rfl,A,g⟩)
    obtain⟨G0,_,G2,G3,G4⟩:=b.o;exact⟨_,_,_,_,_,J,Ja ⟨λh c=>(G0 h c).below g,λ_ _=>A,λh c=>(G2 h c).below g,λh c=>(G3 h c).below g,λh=>(G4 h).below g⟩,Ja ⟨λh=>(d.o.1 h).below g,λh=>(d.o.2 h).below g⟩⟩
  . have q:D 5=false:=DY s m;have l:=b.o.1 (f 0 DQ) q;have z:=b.o.2.1 (f 1 DQ) q;obtain⟨s5,a5,l5,c5,t5,b5,k5,d5,rfl⟩:=Jg.form l;obtain⟨s6,a6,l6,c6,t6,b6,k6,d6,rfl⟩:=Jg.form z;clear f;refine Dc ?_;exact⟨Ja ⟨λh c=>(b.o.1 h c).below (Ba V _),λh c=>(b.o.2.1 h c).below (Ba V _),λ_ _=>WB l z,λh c=>(b.o.2.2.2.1 h c).below (Ba V _),λh=>(b.o.2.2.2.2 h).below (Ba V _)⟩,Ja ⟨λh=>(d.o.1 h).below (Ba V _),λh=>(d.o.2 h).below (Ba V _)⟩⟩
  . have q:D 5=false:=DY s m;have l:=b.o.2.2.1 (f 2 DQ) q;obtain⟨a6,l6,c6,rfl⟩:=RowK.form l;clear f;have t:=Ja (X0 _ [a,1] V l Qh.o);rw[Qi.o]at t;clear l;refine Je J J λK hK=>?_;go_simp;go_wp2_with(go_at_call 65;refine t.o.mono ?_;rintro e w5 ⟨v5,rfl,A,_,g⟩)
    exact⟨_,_,_,_,_,J,Ja ⟨λh c=>(b.o.1 h c).below g,λh c=>(b.o.2.1 h c).below g,λh c=>(b.o.2.2.1 h c).below g,λ_ _=>A,λh=>(b.o.2.2.2.2 h).below g⟩,Ja ⟨λh=>(d.o.1 h).below g,λh=>(d.o.2 h).below g⟩⟩
  . have q:D 5=false:=DY s m;have j:=d.o.1 q;clear f;refine Dc ?_;exact⟨Ja ⟨λh c=>(b.o.1 h c).below (Ba V _),λh c=>(b.o.2.1 h c).below (Ba V _),λh c=>(b.o.2.2.1 h c).below (Ba V _),λh c=>(b.o.2.2.2.1 h c).below (Ba V _),λ_=>trivial⟩,Ja ⟨λ_=>(show FL true w _ (C n la o) a _ from FL.alloc (by rw[m]at j;exact j)),λh=>by simp[q]at h⟩⟩
  . have j:=d.o.1 m;have l:=b.o.2.2.2.1 (f 3 DQ) m;obtain⟨hB,aq⟩:=j;obtain⟨U,rfl,r,ah⟩:=aq (f 4 DQ);obtain⟨a9,l9,c9,rfl⟩:=Jj.form l;have X:=r.cell;have f0:=r.frozen;clear f;refine Dc ?_;exact⟨Ja ⟨λ_ h=>by simp at h,λ_ h=>by simp at h,λ_ h=>by simp at h,λ_ h=>by simp at h,λ_=>trivial⟩,Ja ⟨λh=>by simp at h,λ_=>⟨U,J,hB.put r ah _,_,_,_,r.set _,X7 r _ l.row,ah⟩⟩⟩
 case fin1=>
  rintro D x V M ⟨Q,R,S,T,P,rfl,b,d⟩;obtain⟨U,rfl,hG⟩:=d.o.2 (M 5 DV);have HG:=Ja hG;clear b d M hG;go_wp2_with fail
  have Qd:=HG.o.below ((BL _ V).drew);clear HG;refine Jt Dl [[],[0],[1],[],[2,3,2],[4,4,0,1,2,3,4]] WS DV
   (λD x V=>∃(ta tb tc td N:H),x={ tmps:=#[.agg #[C n la o],.agg #[F s7,C a7 l7 c7,F t7,C b7 k7 d7],I (some ⟨w.heap.size,0,none⟩),I (some ⟨w.heap.size+1,0,none⟩),I (some ⟨w.heap.size+1+1,0,none⟩),I (some ⟨U,0,none⟩),Q,R,S,T,ta,tb,tc,td,N],defers:=[] }/\Hid ((D 0=true->ta=I (some ⟨w.heap.size,0,none⟩))/\(D 1=true->tb=C n la o)/\(D 2=true->D 5=false->KI V tc la ps)/\(D 3=true->D 5=false->Jj V td (J8 a))/\(D 4=true->D 5=false->Jj V N (JZ a ps)))/\Hid ((D 5=false->IH w V (C n la o) a U)/\(D 5=true->KJ w V N (JZ a ps))))
   ⟨_,_,_,_,_,J,Ja DQ,Ja ⟨λ_=>Qd,DQ⟩⟩ ?step2 ?fin2
  case step2=>
   rintro D x V i ds s y f m ⟨ta,tb,tc,td,N,rfl,b,d⟩;have Qm:i<6:=(Af.1 y).1;obtain rfl|rfl|rfl|rfl|rfl|rfl:=GN i Z
   all_goals
    simp only[Ai,Ah,Aq]at y;subst y
   . clear f;refine Dc ?_;exact⟨(D3 b),d⟩
   . have j:=d.o.1 (DY s m);obtain rfl:=b.o.1 (f 0 DQ);have X:=j.1.1.cell;clear f;refine Dc ?_;exact⟨Ja ⟨λ_=>rfl,λ_=>rfl,b.o.2.2.1,b.o.2.2.2.1,b.o.2.2.2.2⟩,d⟩
   . have j:=d.o.1 (DY s m);obtain rfl:=b.o.2.1 (f 1 DQ);clear f;have t:=Ja (Vy n la o ps V (HA.o.below j.1.2.2.2) Qe.o);refine Je J J λK hK=>?_;go_simp;go_wp2_with(go_at_call 78;refine t.o.mono ?_;rintro e w5 ⟨v5,rfl,A,az,g⟩)
     exact⟨_,_,_,_,_,J,Ja ⟨b.o.1,λ_=>rfl,λ_ _=>⟨v5,J,az⟩,λh c=>(b.o.2.2.2.1 h c).below g,λh c=>(b.o.2.2.2.2 h c).below g⟩,Ja ⟨λh=>(d.o.1 h).below g,λh=>(d.o.2 h).below g⟩⟩
   . have j:=d.o.1 (DY s m);obtain⟨_,x5,y5,z5,n5,r5,_⟩:=id j;have X:=n5.cell;clear f;refine Dc ?_;exact⟨Ja ⟨b.o.1,b.o.2.1,b.o.2.2.1,λ_ _=>⟨_,J,r5⟩,b.o.2.2.2.2⟩,d⟩
   . have q:D 5=false:=DY s m;have j:=d.o.1 q;have l:=b.o.2.2.1 (f 2 DQ) q;have z:=b.o.2.2.2.1 (f 3 DQ) q;obtain⟨g0,rfl,p0⟩:=l;obtain⟨a9,l9,c9,rfl⟩:=Jj.form z;clear f;have t:=Ja (WA g0 la l9 c9 a9 ps a V p0 Qg.o.1 Qg.o.2 z.row Qk.o Qe.o Qj.o);clear z;refine Je J J λK hK=>?_;go_simp;go_wp2_with(go_at_call 80;refine t.o.mono ?_;rintro e w5 ⟨v5,rfl,A,g⟩)
     exact⟨_,_,_,_,_,J,Ja ⟨b.o.1,b.o.2.1,λh c=>(b.o.2.2.1 h c).below g,λh c=>(b.o.2.2.2.1 h c).below g,λ_ _=>A⟩,Ja ⟨λ_=>j.below g,λh=>by simp[q]at h⟩⟩
   . have j:=d.o.1 m;have l:=b.o.2.2.2.2 (f 4 DQ) m;obtain⟨a9,l9,c9,rfl⟩:=Jj.form l;have r:=j.1.2.2.1;have X:=r.cell;have f0:=r.frozen;clear f;refine Dc ?_;exact⟨Ja ⟨b.o.1,b.o.2.1,λ_ h=>by simp at h,λ_ h=>by simp at h,λ_ h=>by simp at h⟩,Ja ⟨λh=>by simp at h,λ_=>⟨_,_,_,J,r.set _,l.setP r _,j.1.2.2.2.setCell (p:=⟨w.heap.size+1+1,0,none⟩) (by show w.heap.size<=w.heap.size+1+1;omega) _⟩⟩⟩
  case fin2=>
   rintro D x V M ⟨ta,tb,tc,td,N,rfl,b,d⟩;obtain⟨x9,y9,z9,rfl,ai,aj,ap⟩:=d.o.2 (M 5 DV);have x0:=ai.cell;have HI:=Ja aj;have HW:=Ja ap;clear b d M ai aj ap;go_wp2_with fail
   exact BM (v:=.agg #[C x9 y9 z9]) (by simp[results,results36,go_sem,x0]) J ⟨_,J,HI.o,HW.o⟩
end M3
def MD(w V:G)(a:Rat):Prop:=(∃b f c g b9 e d i,Jr V w.heap.size 49 (C b f c) (F g) (C b9 e d) (F i)/\Ya V (.agg #[C b f c,F g,C b9 e d,F i]) a)/\Bl w V
def MD.below{w V V':G}{a:Rat}(h:MD w V a)(b:Bl V V'):MD w V' a:=by
 obtain⟨⟨c,k,d,l,b9,j,e,m,f,g⟩,i⟩:=h;exact⟨⟨c,k,d,l,b9,j,e,m,f.below b,g.below b⟩,Bt i b⟩
def ME(w V:G)(o l:H)(S L:Y):Prop:=RowK false V o S/\RowK false V l L/\Bl w V
def ME.below{w V V':G}{o l:H}{S L:Y}(h:ME w V o l S L)(a:Bl V V'):ME w V' o l S L:=⟨h.1.below a,h.2.1.below a,Bt h.2.2 a⟩
def EZ(d:Bool)(a V:G)(t:H):Prop:=Dj a V/\(d=true->∃B,t=I (some ⟨B,0,none⟩)/\Jr V B 38 (F false) (C none 0 0) (F false) (C none 0 0)/\a.heap.size<=B)
def EZ.below{d:Bool}{a V V':G}{t:H}(h:EZ d a V t)(b:Bl V V'):EZ d a V' t:=⟨h.1.below b,λe=>by obtain⟨B,c,f,g⟩:=h.2 e;exact⟨B,c,f.below b,g⟩⟩
def EZ.alloc{a V:G}{t:H}(h:EZ false a V t):EZ true a (V.alloc (B #[F false,C none 0 0,F false,C none 0 0] 38)) (I (some ⟨V.heap.size,0,none⟩)):=⟨h.1.below (Ba V _),λ_=>⟨_,J,Jr.new _ _ _ _ _ _,h.1.size⟩⟩
def II(f V:G)(t:H)(q:Rat):Prop:=∃B s a l c e b k d,t=I (some ⟨B,0,none⟩)/\Jr V B 38 (F s) (C a l c) (F e) (C b k d)/\Jg V (.agg #[F s,C a l c,F e,C b k d]) q/\Dj f V
def II.below{g V V':G}{t:H}{q:Rat}(h:II g V t q)(f:Bl V V'):II g V' t q:=by
 obtain⟨B,s,a,l,c,n,b,k,d,e,i,j,m⟩:=h;exact⟨B,s,a,l,c,n,b,k,d,e,i.below f,j.below f,m.below f⟩
def Ea(d:Bool)(a V:G)(t:H):Prop:=Dj a V/\(d=true->∃B,t=I (some ⟨B,0,none⟩)/\Boxed V B 25 (C none 0 0)/\a.heap.size<=B)
def Ea.below{d:Bool}{a V V':G}{t:H}(h:Ea d a V t)(b:Bl V V'):Ea d a V' t:=⟨h.1.below b,λe=>by obtain⟨B,c,f,g⟩:=h.2 e;exact⟨B,c,f.bel b,g⟩⟩
def Ea.alloc{a V:G}{t:H}(h:Ea false a V t):Ea true a (V.alloc (B #[C none 0 0] 25)) (I (some ⟨V.heap.size,0,none⟩)):=⟨h.1.below (Ba V _),λ_=>⟨_,J,Bb _ _ _,h.1.size⟩⟩
def IJ(b V:G)(t:H)(P:Y):Prop:=∃B a l c,t=I (some ⟨B,0,none⟩)/\Boxed V B 25 (C a l c)/\RowK true V (C a l c) P/\Dj b V
def IJ.below{d V V':G}{t:H}{P:Y}(h:IJ d V t P)(b:Bl V V'):IJ d V' t P:=by
 obtain⟨B,a,l,c,e,f,g,i⟩:=h;exact⟨B,a,l,c,e,f.bel b,g.below b,i.below b⟩
variable{ps qs:Y}{A:Nat}
def WC{D:Int}{K:Nat}{c:Rat}(h:CD D K c):CD D K (-c):=by
 obtain⟨n,rfl,h⟩:=h;exact⟨-n,by rw[<-Rat.neg_divInt],by unfold Sm at h ⊢;rwa[Int.natAbs_neg]⟩
theorem WD{D E l:Int}{K:Nat}{n m:Nat}(P:D≠0)(hp:D5 D K ps)(o:E≠0)(U:Sm A E)(T:D5 E A qs)(b:l≠0)(hl:Sm A l)(S:cf qs n=Rat.divInt l E)(N:cf qs n≠0):
 ∀k,D5 (D*l^k) (K+k*(A+1)) (Jq ps qs n m k).2/\D5 (D*l^k) (K+k*(A+1)) (Jq ps qs n m k).1:=by
 intro k;induction k with
 |zero=>
  rw[Int.pow_zero,Int.mul_one];exact⟨λi=>(hp i).mono Z,λi=>by rw[Jq,JQ];exact CD.zero _ _⟩
 |succ k W=>
  obtain⟨d,g⟩:=W;have y:D*l^k≠0:=AZ P (CG b);have e:D*l^(k+1)=D*l^k*l:=by rw[Int.pow_succ,Int.mul_assoc]
  rw[e];have w:D*l^k*l≠0:=AZ y b;obtain⟨R,q⟩:=ex ((Jq ps qs n m k).2);obtain⟨Q,p⟩:=ex ((Jq ps qs n m k).1);rw[q]at d;rw[p]at g;obtain⟨r,M,t⟩:=d (m-(k+1)+n);obtain⟨c,s⟩:=ex (cf R (m-(k+1)+n)/cf qs n);have f:c=Rat.divInt (r*E) (D*l^k*l):=by
   rw[<-s];have z:cf R (m-(k+1)+n)=Rat.divInt (r*E) (D*l^k*l)*cf qs n:=by
    rw[S,CF,M,show r*E*l=r*(E*l)from Int.mul_assoc _ _ _,show D*l^k*l*E=D*l^k*(E*l)by grind,CZ (AZ o b)]
   rw[z,Rat.mul_div_cancel N]
  have u:CD (D*l^k*l) (K+(k+1)*(A+1)) c:=⟨r*E,f,(t.mul U).mono (by rw[AL];omega)⟩;have v:∀j,CD (D*l^k*l) (K+k*(A+1)+A) (c*cf qs j):=λj=>by
   obtain⟨x,ex,V⟩:=T j;refine⟨r*x,?_,t.mul V⟩;rw[f,ex,CF,show r*E*x=r*x*E by grind,CZ o]
  rw[Jq,q,p];simp only[s];refine⟨λi=>?_,λi=>?_⟩
  . rcases Yx R (m-(k+1)) (-c) qs qs.length i with a|a
    . rw[a];exact((d i).wide hl b).mono (by rw[AL];omega)
    . rw[a,Rat.neg_mul];exact(((d i).wide hl b).add (WC (v _)) w).mono (by rw[AL];omega)
  . rcases M3.PB Q (m-(k+1)) c i with a|a
    . rw[a];exact u
    . rw[a];exact((g i).wide hl b).mono (by rw[AL];omega)
def WE(hp:∀i,DT A (cf ps i))(S:∀i,DT A (cf qs i))(t:Jh qs=qs)(d:qs≠[])(Q:ps.length<=9)(R:qs.length<=9)(V:A<=1000):M3.Xy (Y9 ps qs) qs/\Sqs (JM (Y9 ps qs) qs):=by
 obtain⟨D,d1,x,y⟩:=D5.some hp;obtain⟨E,k,M,N⟩:=D5.some S;have T:ps.length*A<=9*A:=Ac _ Q;have U:qs.length*A<=9*A:=Ac _ R;have z:Sm 9001 D:=x.mono Z;have K:D5 D 9001 ps:=λi=>(y i).mono Z;have o:Sm 9001 E:=M.mono Z;have c:D5 E 9001 qs:=λi=>(N i).mono Z;have ae:0<qs.length:=AG.2 d;obtain⟨l,q,r⟩:=c (qs.length-1);have g:l≠0:=by
  intro e;have:=JX t d;rw[q,e,Rat.zero_divInt]at this;exact this J
 obtain⟨m,s⟩:=ex (ps.length-(qs.length-1));have b:m<=9:=Z
 have P:=(WD (n:=qs.length-1) (m:=m) d1 K k o c g r q (JX t d) m).2;have w:D*l^m≠0:=AZ d1 (CG g);have ad:m*(9001+1)<=9*(9001+1):=Ac _ b;have X:m*9001<=9*9001:=Ac _ b;have v:D5 (D*l^m) 90019 (Y9 ps qs):=λi=>by
  unfold Y9;rw[JU,s];exact(P i).mono Z
 have u:Sm 90012 (D*l^m):=(z.mul (r.powZ m)).mono Z;have p:∀i j,CD (D*l^m*E) (90019+9001) (cf (Y9 ps qs) i*cf qs j):=λi j=>(v i).mul (c j);have a:D*l^m*E≠0:=AZ w k;have f:Sm 1000000000 (D*l^m*E):=(u.mul o).mono Z;have W:(Y9 ps qs).length<=9:=by
  unfold Y9;refine At (JV _) ?_;rw[s,(J7 ps qs (qs.length-1) m m).1];exact b
 exact⟨PH a f p Z,Sqs.of λi=>Sq.of (((L8 a p i).mono (by omega:_<=1000000000)).smq a f) (Aa _)⟩
def WF{X:Nat}{a:Rat}(hp:∀i,DT A (cf ps i))(b:DT X a)(n:Jh ps=ps)(hl:ps.length<=9)(r:A<=1000)(s:X<=4001):GJ a ps/\GJ (-a) (JZ a ps)/\∀i,DT 100000 (cf (JZ a ps) i):=by
 obtain⟨D,d1,j,k⟩:=D5.some hp;have o:ps.length*A<=9*A:=Ac _ hl;have d:Sm 9001 D:=j.mono Z;have e:D5 D 9001 ps:=λi=>(k i).mono Z;have m:(a.den:Int)≠0:=by have:=a.den_nz;omega
 have l:=PJ (L:=9) d1 b ps hl e;have p:ps.length*(X+2*9+3)<=9*(X+2*9+3):=Ac _ hl;have q:ps.length*X<=9*X:=Ac _ hl;have g:D*(a.den:Int)^ps.length≠0:=AZ d1 (CG m);have c:Sm 50000 (D*(a.den:Int)^ps.length):=(d.mul (b.2.powZ ps.length)).mono Z;have f:D5 (D*(a.den:Int)^ps.length) 50000 (JZ a ps):=λi=>(l i).mono Z;refine⟨PK d1 d e b hl Z,PK g c f b.neg (by rw[MO a ps n];exact hl) Z,λi=>((f i).smq g c).mono Z⟩

