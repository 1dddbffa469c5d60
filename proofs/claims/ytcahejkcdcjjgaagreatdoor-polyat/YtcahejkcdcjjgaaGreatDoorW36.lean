import Derived.Test.YtcahejkcdcjjgaaGreatDoorW35
set_option linter.all false
open Go.Value renaming slice->C,pointer->I,bool->F,agg->N
open Go renaming undef->B,World->G,Value->H
open Go.Obj renaming cells->L
set_option maxRecDepth 99999
set_option maxHeartbeats 0
namespace Go.Proofs.YtcahejkcdcjjgaaGreatDoor
open Proofs.Tryz
open Go.RowKit Go.Shelf
attribute [local go_sem] Oper.semAt_some
def Pc(a:List UInt8):Prop:=a=[]\/∃t,a=43::t\/a=45::t
def Pc.head{b:List UInt8}(h:Pc b){c:UInt8}(a:b.head?=some c):DS c=false/\c≠47/\c≠32/\c≠120/\c≠94:=by
 rcases h with rfl|⟨t,rfl|rfl⟩
 . cases a
 . cases a;decide
 . cases a;decide
def E1(a V:G):Prop:=Bl a V
def E1.below{a V V':G}(h:E1 a V)(b:Bl V V'):E1 a V':=Bt h b
def E1.drew(V:G):E1 V V.drew:=(BB _ V).drew
section
def CD(D:Int)(K:Nat)(c:Rat):Prop:=∃n:Int,c=Rat.divInt n D/\Sm K n
section
variable {D E:Int} {K M:Nat} {c d:Rat}
def CD.mono(h:CD D K c)(a:K<=M):CD D M c:=by
 obtain⟨n,e,h⟩:=h;exact⟨n,e,h.mono a⟩
def CD.smq(h:CD D K c)(a:D≠0)(hs:Sm K D):DR K c:=by
 obtain⟨n,rfl,h⟩:=h;exact DR.divInt a h hs
theorem CD.zero(D:Int)(K:Nat):CD D K 0:=⟨0,by rw[Rat.zero_divInt],Sm.zero K⟩
def CD.add(h:CD D K c)(a:CD D M d)(b:D≠0):CD D (max K M+1) (c+d):=by
 obtain⟨n,rfl,h⟩:=h;obtain⟨m,rfl,a⟩:=a;refine⟨n+m,?_,?_⟩
 . rw[Rat.divInt_add_divInt _ _ b b,<-Int.add_mul,Rat.divInt_mul_right b]
 . exact(h.mono (Nat.le_max_left ..)).add (a.mono (Nat.le_max_right ..))
def CD.mul(h:CD D K c)(a:CD E M d):CD (D*E) (K+M) (c*d):=by
 obtain⟨n,rfl,h⟩:=h;obtain⟨m,rfl,a⟩:=a;exact⟨n*m,by rw[Rat.divInt_mul_divInt],h.mul a⟩
def CD.wide(h:CD D K c)(b:Sm M E)(a:E≠0):CD (D*E) (K+M) c:=by
 obtain⟨n,rfl,h⟩:=h;exact⟨n*E,by rw[Rat.divInt_mul_right a],h.mul b⟩
theorem CD.of(h:DR K c):CD (c.den:Int) K c:=⟨c.num,(CJ c).symm,h.1⟩
end
def Fp(D:Int)(K:Nat)(ps:List Rat):Prop:=∀i,CD D K (cf ps i)
variable{ps qs:K}{A b:Nat}{a:Rat}
theorem Fp.some:∀ {ps:K},(∀i,DR A (cf ps i))->∃D:Int,D≠0/\Sm (ps.length*A+1) D/\Fp D (ps.length*A+1) ps:=by
 intro ps;induction ps with
 |nil=>intro _;exact⟨1,DP,Sm.one _ O,λi=>by rw[YZ];exact CD.zero _ _⟩
 |cons c t j=>
  intro h;obtain⟨D,b,d,g⟩:=j (λi=>by have:=h (i+1);rwa[Yb]at this);have a:=h 0;rw[Yg]at a;have f:(c.den:Int)≠0:=by have:=c.den_nz;omega
  have e:(c::t).length*A+1=t.length*A+1+A:=by rw[Af,A9];omega
  rw[e];refine⟨D*c.den,Cd b f,d.mul a.2,λi=>?_⟩;cases i with
  |zero=>
   rw[Yg];have:=(CD.of a).wide d b;grind
  |succ i=>rw[Yb];exact(g i).wide a.2 f
theorem Pd{D:Int}{K:Nat}(b:D≠0)(h:∀i j,CD D K (cf ps i*cf qs j))(n:Nat):∀(i k:Nat),CD D (K+min i ps.length) (cf (YC ps qs n i) k):=by
 intro i;induction i with
 |zero=>intro k;rw[YC,J2];exact CD.zero _ _
 |succ i a=>
  intro k;rw[YC];rcases KU (YC ps qs n i) i (cf ps i) qs qs.length k with e|e
  . rw[e];exact(a k).mono O
  . rw[e];by_cases c:i<ps.length
    . exact((a k).add (h i (k-i)) b).mono O
    grind[JV]
def ZW{D:Int}{K:Nat}(a:D≠0)(hs:Sm 1000000000 D)(h:∀i j,CD D K (cf ps i*cf qs j))(g:K+ps.length+1<=1000000000):M3.GF ps qs:=by
 have b:∀c,CD D (K+ps.length+1) c->Sq c:=λc f=>Sq.of ((f.mono g).smq a hs) (Aa _);refine⟨λi j=>b _ ((h i j).mono O),λn i j k=>?_⟩;have d:=Pd a h n i k;rcases KU (YC ps qs n i) i (cf ps i) qs j k with e|e
 . rw[e];exact b _ (d.mono O)
 . rw[e];exact b _ ((d.add (h i (k-i)) a).mono O)
theorem Pe{D:Int}{K:Nat}(a:D≠0)(h:∀i j,CD D K (cf ps i*cf qs j)):Fp D (K+ps.length) (YV ps qs):=λk=>by
 unfold YV;rw[J0,Fs];have b:=Pd a h (ps.length+qs.length) ps.length k;grind[IU]
theorem KX(a:Rat)(j:Nat):cf (JS a) j=a\/cf (JS a) j=1\/cf (JS a) j=0:=by
 rcases j with _|_|j
 . exact Ar J
 . exact Ax (Ar J)
 grind[JV,JS]
def Pf(h:DR A a)(j:Nat):CD (a.den:Int) A (cf (JS a) j):=by
 have b:(a.den:Int)≠0:=by have:=a.den_nz;omega
 rcases KX a j with e|e|e
 . rw[e];exact CD.of h
 . rw[e];exact⟨a.den,by rw[Rat.divInt_self' b],h.2⟩
 . rw[e];exact CD.zero _ _
theorem Pg(p q:K):(YV p q).length<=p.length+q.length:=KV (Md _ _) λi a=>by grind[YV,J0,Fs,PK]
theorem IH(a:Rat)(l:K):(Yx a l).length<=2*l.length:=by
 induction l with
 |nil=>simp[Yx]
 |cons c t b=>
  grind[Yx,P2,JS,Pg,J3]
def Sm.powZ{v:Int}(h:Sm A v):∀n,Sm (n*A+1) (v^n):=by
 intro n;induction n with
 |zero=>rw[Int.pow_zero];exact Sm.one _ O
 |succ n a=>rw[Int.pow_succ,A9,show n*A+1*A+1=n*A+1+A by omega];exact a.mul h
theorem ZX{D:Int}{K:Nat}(k:D≠0)(m:DR A a):∀l:List Rat,l.length<=b->Fp D K l->Fp (D*(a.den:Int)^l.length) (K+l.length*(A+2*b+3)) (Yx a l):=by
 have d:(a.den:Int)≠0:=by have:=a.den_nz;omega
 intro l;induction l with
 |nil=>intro _ _ i;rw[Yx,YZ];exact CD.zero _ _
 |cons c t f=>
  intro hl h;rw[Af]at hl;have f:=f O (λi=>by have:=h (i+1);rwa[Yb]at this);have n:=h 0;rw[Yg]at n;have u:=IH a t;have s:(a.den:Int)^t.length≠0:=Int.pow_ne_zero d;have o:∀i j,CD (D*(a.den:Int)^t.length*a.den) (K+t.length*(A+2*b+3)+A) (cf (Yx a t) i*cf (JS a) j):=λi j=>(f i).mul (Pf m j);have g:=Pe (Cd (Cd k s) d) o;have e:D*(a.den:Int)^t.length*a.den=D*(a.den:Int)^(c::t).length:=by rw[Af,Int.pow_succ,Int.mul_assoc]
  rw[e]at g;have r:D*(a.den:Int)^(c::t).length≠0:=Cd k (Int.pow_ne_zero d);have p:CD (D*(a.den:Int)^(c::t).length) (K+((c::t).length*A+1)) c:=n.wide (m.2.powZ _) (Int.pow_ne_zero d);intro i;rw[Yx,Gw,J0];have q:CD (D*(a.den:Int)^(c::t).length) (K+((c::t).length*A+1)) (cf [c] i):=by
   rcases i with _|i
   . exact p
   . rw[JV DJ];exact CD.zero _ _
  refine((g i).add q r).mono ?_;grind[A9]
def II(a:Rat)(ps:K):Prop:=∀k,Sqs (Yx a (ps.drop k))/\M3.GF (Yx a (ps.drop k)) (JS a)/\Sqs (YV (Yx a (ps.drop k)) (JS a))
def ZY{D:Int}{K:Nat}(q:D≠0)(v:Sm K D)(hp:Fp D K ps)(c:DR A a)(hl:ps.length<=b)(u:K+(b+1)*(A+2*b+3)+2*b+2<=1000000000):II a ps:=λk=>by
 have s:(a.den:Int)≠0:=by have:=a.den_nz;omega
 obtain⟨l,g⟩:=ex (ps.drop k);have d:l.length<=b:=by rw[<-g,AY];omega
 have t:Fp D K l:=λi=>by
  have e:cf l i=cf ps (k+i):=by rw[<-g];simp[cf]
  rw[e];exact hp _
 rw[g];have o:=ZX q c l d t;have w:(a.den:Int)^l.length≠0:=Int.pow_ne_zero s;have r:D*(a.den:Int)^l.length≠0:=Cd q w;have y:l.length*(A+2*b+3)<=b*(A+2*b+3):=Ae _ d;have z:l.length*A<=b*A:=Ae _ d;have E:b*A<=b*(A+2*b+3):=AA _ O;rw[A9]at u;have n:Sm (K+(l.length*A+1)) (D*(a.den:Int)^l.length):=v.mul (c.2.powZ _);have m:Sm 1000000000 (D*(a.den:Int)^l.length*a.den):=(n.mul c.2).mono O;have f:D*(a.den:Int)^l.length*a.den≠0:=Cd r s;have p:∀i j,CD (D*(a.den:Int)^l.length*a.den) (K+l.length*(A+2*b+3)+A) (cf (Yx a l) i*cf (JS a) j):=λi j=>(o i).mul (Pf c j);have x:=IH a l;refine⟨Sqs.of λi=>Sq.of (((o i).mono (by omega:_<=1000000000)).smq r (n.mono O)) (Aa _),ZW f m p O,Sqs.of λi=>?_⟩;exact Sq.of (((Pe f p i).mono (by omega:_<=1000000000)).smq f m) (Aa _)
end
namespace M3
variable{S:K}{g j l n:Nat}{f:Nat->K}{a:Zu}{s xs:H}{V V' w:G}
def Tryz.infoPoly:(Tryz.prog.info? 25).map (λi=>(i.zero,i.size,i.bytes))=some (some (N #[C none 0 0]),1,24):=by kernel_rfl
def GL(n:Nat):Array H:=madeCells #[C none 0 0] (n*1)
theorem ZZ(a:j<n):(GL n)[j]?=some (C none 0 0):=by
 unfold GL madeCells;grind
def Za(n:Nat)(h:n<=1099511627776)(w:G):(Instr.makeSlice 115 (.int .i64 (n:Int)) (.int .i64 (n:Int))).run Tryz.prog w=.ok (C (some ⟨w.heap.size,0,none⟩) n n) (w.alloc (L (GL n) 25)):=by
 obtain⟨i,d,b⟩:=CY.1 Tryz.infoPoly;simp only[Prod.mk.injEq]at b;obtain⟨e,hs,c⟩:=b;have a:=run_make (P:=Tryz.prog) w 115 25 i _ underlying115 d e .i64 .i64 n n O (Int.le_refl _) (by rw[c];omega) O;simp only[Ck,hs]at a;exact a
def D0(V:G)(g n:Nat)(f:Nat->K):Prop:=∃cs:Array H,V.heap[g]?=some (L cs 25 (0,0))/\∀j,j<n->∃a l c,cs[j]?=some (C a l c)/\RowK true V (C a l c) (f j)
theorem D0.lt(h:D0 V g n f):g<V.heap.size:=by obtain⟨cs,h,_⟩:=h;grind
def D0.below{V V':G}{g n:Nat}{f:Nat->K}(h:D0 V g n f)(b:Bl V V'):D0 V' g n f:=by
 have hl:=h.lt;obtain⟨cs,d,i⟩:=h;refine⟨cs,(b.block g hl).trans d,λj m=>?_⟩;obtain⟨a,l,c,e,k⟩:=i j m;exact⟨a,l,c,e,k.below b⟩
def D0.new(V:G)(n:Nat):D0 (V.alloc (L (GL n) 25)) V.heap.size n (λ_=>[]):=⟨GL n,BC V _,λ_ a=>⟨_,_,_,ZZ a,RowK.nil _ _⟩⟩
def D0.cell{V:G}{g n:Nat}{f:Nat->K}(h:D0 V g n f){j:Nat}(k:j<n):∃a l c,V.cell? ⟨g,j,none⟩=some (C a l c)/\RowK true V (C a l c) (f j):=by
 obtain⟨cs,b,d⟩:=h;obtain⟨a,l,c,e,i⟩:=d j k;exact⟨a,l,c,cell_of b e,i⟩
def D0.frozen{V:G}{g n:Nat}{f:Nat->K}(h:D0 V g n f)(o:Nat):V.frozen? ⟨g,o,none⟩=false:=by obtain⟨cs,a,_⟩:=h;simp[World.frozen?,a]
theorem D0.set(h:D0 V g n f)(r:j<n){c:Nat}{q:K}(u:RowK true V (C a l c) q):D0 (V.setCell ⟨g,j,none⟩ (C a l c)) g n (λk=>if k=j then q else f k):=by
 obtain⟨cs,d,i⟩:=h;obtain⟨x,A,c0,b,_⟩:=i j r;have m:∀v qs,RowK true V v qs->RowK true (V.setCell ⟨g,j,none⟩ (C a l c)) v qs:=λv qs t=>XO d b J true DP _ v qs t;refine⟨cs.setIfInBounds j (C a l c),JJ d _,λk s=>?_⟩;have z:=(Ab.1 b).1;by_cases e:k=j
 . subst e;refine⟨a,l,c,?_,?_⟩
   . grind
   . show RowK true _ _ (if k=k then q else f k);rw[BL J];exact m _ _ u
 . obtain⟨o,w,c1,y,p⟩:=i k s;refine⟨o,w,c1,?_,?_⟩
   . grind
   . show RowK true _ _ (if k=j then q else f k);rw[BH e];exact m _ _ p
def D0.cong{f':Nat->K}(h:D0 V g n f)(e:∀j,j<n->f j=f' j):D0 V g n f':=by
 obtain⟨cs,b,c⟩:=h;refine⟨cs,b,λj a=>?_⟩;rw[<-e j a];exact c j a
def Ph{q:Rat}(h:Sq q):Sqs (Jg [q]):=Sqs.of λi=>by
 rw[J0];rcases i with _|i
 . exact h
 . rw[JV DJ];exact Fl
def Zc(S:Zu)(la T:Nat)(ps:List Rat)(w:G)(E:RowK true w (C S la T) ps)(P:Sqs ps):
 Calls Tryz.prog 78 #[C S la T,.func (.func 79) #[] #[]] w λe U=>∃g,e=.returned (C (some ⟨g,0,none⟩) la la)/\w.heap.size<=g/\D0 U g la (λj=>Jg [cf ps j])/\Bl w U:=by
 obtain⟨ah,ad,ae,ai,s,t,aa,bb,ll,cc,kk,dd,K⟩:=E.forms;have n:=Za la ai w;have k:=D0.new w la;have m:Bl w (w.alloc (L (GL la) 25)):=Ba w _;obtain⟨W0,D⟩:=ex (w.alloc (L (GL la) 25));rw[D]at k m n;obtain⟨l,A,X,Qg⟩:=Dn (k.cong (f':=λj=>if j<0 then Jg [cf ps j]else []) λj _=>rfl) m K P;obtain⟨g,hg⟩:=ex (w.heap.size);rw[hg]at l n;have y:=Z hg;clear E P K ah ad ae k m D hg;go_enter func78,ntmps78
 go_wp2;clear n;go_loopw [13] (λv wr=>∃i:Nat,i<=la/\v=.int .i64 (i:Int)/\Hid (D0 wr g la (λj=>if j<i then Jg [cf ps j]else [])/\Bl w wr)) λv _=>la-(intOf v).toNat
 case atStart=>exact⟨0,AJ _,J,Z ⟨l.o,A.o⟩⟩
 case round=>
  obtain⟨i,hi,rfl,a⟩:=hrel;clear l A;by_cases r:i<la
  . have aj:(i:Int)<(la:Int):=O
    obtain⟨M,b,rfl,f,p0,p1,Q,R⟩:=X.o i r;have e0:=(a.o.2.cell (p:=⟨b,_,none⟩) f).trans p0;have e1:=(a.o.2.cell (p:=⟨b,_,none⟩) f).trans p1;have o:=(a.o.2.cell (p:=⟨b,_,none⟩) f).trans Q;have e3:=(a.o.2.cell (p:=⟨b,_,none⟩) f).trans R;have c:Bl wr (wr.alloc (L #[F (s i),C (aa i) (ll i) (cc i),F (t i),C (bb i) (kk i) (dd i)] 38)):=Ba wr _;have x:=Z (UZ _ (cf ps i) _ ((M.below a.o.2).below c) (Qg.o.at i));have z:=Z (show D0 _ g la (λj=>if j<i then Jg [cf ps j]else [])/\Bl w _ from⟨a.o.1.below c,Bt a.o.2 c⟩);clear M p0 p1 Q R c;go_wp2_with(go_at_call 79;refine x.o.mono ?_;clear x;rintro e w5 ⟨u5,rfl,u,_,q⟩;obtain⟨a5,l5,c5,rfl⟩:=u.form;have d:=z.o.1.below q;obtain⟨a6,l6,c6,x0,_⟩:=d.cell r;have x1:=d.frozen i;have W:=Z (d.set r u.row);have V:=Z ((Bt z.o.2 q).setCell (p:=⟨g,i,none⟩) (by rw[y.o];exact Aa _) (C a5 l5 c5));clear d u q)
    go_roundw
    case rel=>exact⟨i+1,O,by go_num,Z ⟨W.o.cong (λj _=>by
     by_cases e:j=i
     . subst e;rw[BL J,BL O]
     . rw[BH e];by_cases o:j<i
       . rw[BL o,BL O]
       . rw[BH o,BH O]),V.o⟩⟩
    case measure=>simp[intOf];omega
  . obtain rfl:i=la:=O
    go_wp2;go_ret;exact⟨g,J,by rw[y.o];exact Aa _,a.o.1.cong λj hj=>BL hj,a.o.2⟩
def Zd(c:Nat)(a:Zu)(len cap:Nat)(x:Nat->H)(k:Nat)(W:G):Prop:=
 W.cell? ⟨c,0,none⟩=some (C a len cap)/\(k<len->∃b,a=some ⟨b,0,none⟩/\W.cell? ⟨b,len-1-k,none⟩=some (x (len-1-k)))
def MT(len:Nat)(x:Nat->H)(k:Nat):Array H:=#[.int .i64 ((len:Int)-1-k),N #[x (len-1-k)]]
def Ze(F:Fence)(n:Nat)(y:F.fn 145)(z:F.round=none)(S:1<=n)(d:Nat)(a:Zu)(len cap:Nat)(x:Nat->H)(R:len<=1099511627776):
 GT F n Tryz.prog 145 #[I (some ⟨d,0,none⟩)] len (MT len x) (Zd d a len cap x):=λl J A W j v g=>by
 have M:=(j 0 W g).1;refine Bu func145 rfl y ?_ z;simp only[ntmps145,Ak,Af,AL,Nat.reduceAdd,Nat.reduceSub,As,At,AG,Aw,Ah,Am];gi_wp2;gi_loopw [3] (λi wr=>∃k:Nat,k<=len/\i=.int .i64 ((len:Int)-1-k)/\J k wr) λi _=>(intOf i+1).toNat
 case atStart=>exact⟨0,AJ _,DJ,g⟩
 case round=>
  obtain⟨k,Q,rfl,hJ⟩:=hrel;obtain⟨K,w⟩:=j k wr hJ;by_cases c:k<len
  . obtain⟨b,rfl,P⟩:=w c;obtain⟨fn,tmps,assign,body,q,u⟩:=v k wr hJ c;have f:((len:Int)-1-k)=((len-1-k:Nat):Int):=O
    have E:len-1-k<len:=O
    dsimp only[MT]at q;rw[f]at q ⊢;generalize o:len-1-k=m at *;have r:=Hid.o (p:=Hid (len-1-k=m)) o;clear o f;gi_wp2;refine u.mono ?_;rintro e D (⟨rfl,s⟩|⟨rfl,t⟩)
    . gi_wp2;go_roundw
      case rel=>exact⟨k+1,O,by(congr 1;have:=r.o;omega),s⟩
      case measure=>simp[intOf]
    . gi_wp2;refine BA (results_none rfl _ _ _) rfl ?_;exact⟨⟨_,rfl⟩,.inr ⟨k,c,t⟩⟩
  . obtain rfl:k=len:=O
    gi_wp2;go_end0;exact⟨⟨_,rfl⟩,.inl hJ⟩
def Zf(F:Fence)(n:Nat)(b:F.fn 111)(c:F.round=none)(a:Zu)(len cap:Nat)(w:G):
 CallsIn F n Tryz.prog 111 #[C a len cap] w λe d=>e=.returned (.func (.func 145) #[] #[I (some ⟨w.heap.size,0,none⟩)])/\d=w.alloc (L #[C a len cap] 115):=by
 refine Bu func111 J b ?_ c;simp only[ntmps111,Ak,Af,AL,Nat.reduceAdd,Nat.reduceSub,As,At,AG,Aw,Ah,Am];gi_wp2;go_ret;exact⟨J,J⟩
def lenV:H->Nat|C _ l _=>l|_=>0
def IJ(V:G)(t:H)(ps:K):Prop:=∃v,t=.iface 25 v/\JB V v ps
def IJ.below{V V':G}{t:H}{ps:K}(h:IJ V t ps)(b:Bl V V'):IJ V' t ps:=by
 obtain⟨v,e,a⟩:=h;exact⟨v,e,a.below b⟩
def Zg(v:H)(V:G):(method 371 25 v "Times").run Tryz.prog V=.ok (28,v) V:=by kernel_rfl
def Zh(v:H)(V:G):(method 371 25 v "Plus").run Tryz.prog V=.ok (26,v) V:=by kernel_rfl
def Ek(w V:G)(xs b:H)(S:K):Prop:=
 Boxed V w.heap.size 25 xs/\Boxed V (w.heap.size+1) 25 (C none 0 0)/\(∃a l c,Boxed V (w.heap.size+1+1) 25 (C a l c)/\RowK true V (C a l c) S)/\Boxed V (w.heap.size+1+1+1) 115 b/\Bl w V
def Ek.below{w V V':G}{xs d:H}{S:K}(h:Ek w V xs d S)(b:Bl V V'):Ek w V' xs d S:=by
 obtain⟨e,f,⟨a,l,c,g,i⟩,j,k⟩:=h;exact⟨boxed_below e b,boxed_below f b,⟨a,l,c,boxed_below g b,i.below b⟩,boxed_below j b,Bt k b⟩
def Ek.own{row:Option Nat}(h:Ek w V xs s S)(hg:V.grownBy V' row)(f:∀x,row=some x->w.heap.size<=x/\∃o:Obj,V.heap[x]?=some o/\o.isCells=false):Ek w V' xs s S:=by
 have b:∀r,row=some r->∃o:Obj,V.heap[r]?=some o/\o.isCells=false:=λr e=>(f r e).2;obtain⟨g,i,⟨a,l,c,j,m⟩,n,d⟩:=h;exact⟨boxed_own hg b g,boxed_own hg b i,⟨a,l,c,boxed_own hg b j,L1 hg b m⟩,boxed_own hg b n,d.grown hg d.size λk e=>(f k e).1⟩
def Ek.put{b:K}(h:Ek w V xs s S){c:Nat}(j:JB V (N #[C a l c]) b):Ek w (V.setCell ⟨w.heap.size+1+1,0,none⟩ (C a l c)) xs s b:=by
 obtain⟨e,f,⟨k,n,c0,d,m⟩,g,i⟩:=h;exact⟨(BE V _ _ _ (by show w.heap.size≠w.heap.size+1+1;omega)).trans e,(BE V _ _ _ (by show w.heap.size+1≠w.heap.size+1+1;omega)).trans f,⟨a,l,c,d.set _,EI d _ j.row⟩,(BE V _ _ _ (by show w.heap.size+1+1+1≠w.heap.size+1+1;omega)).trans g,i.setCell (p:=⟨w.heap.size+1+1,0,none⟩) (by show w.heap.size<=w.heap.size+1+1;omega) _⟩
def GM(w W V:G)(xs c:H)(S:K)(b:Nat)(a:H):Prop:=Ek w V xs c S/\Boxed V b 25 a/\w.heap.size+1+1+1<b/\KeepsOthers W V
def GM.below{w W V V':G}{xs d:H}{S:K}{b:Nat}{c:H}(h:GM w W V xs d S b c)(a:Bl V V'):GM w W V' xs d S b c:=⟨h.1.below a,boxed_below h.2.1 a,h.2.2.1,h.2.2.2.trans (J6 a)⟩
def Pi(a:Rat)(ps:K){m:Nat}(h:m<ps.length):XY (YV (Yx a (ps.drop (m+1))) (JS a)) (Jg [cf ps m])=Yx a (ps.drop m):=by
 rw[AD h,Yx,Kf h]
def Zi(f la A z:Nat)(y:Zu)(ps:List Rat)(a:Rat)(w:G)(h:D0 w f la λj=>Jg [cf ps j])(hl:la=ps.length)(bj:la<=1099511627)(hx:RowK true w (C y A z) (JS a))(aj:Sq a)(bc:Sqs ps)(az:II a ps):
 Calls Tryz.prog 80 #[C (some ⟨f,0,none⟩) la la,N #[C y A z]] w λe w'=>∃u,e=.returned u/\JB w' u (Yx a ps)/\Bl w w':=by
 have Qc:∃(M:Nat->Zu) (Q P:Nat->Nat),∀j,j<la->w.cell? ⟨f,j,none⟩=some (C (M j) (Q j) (P j))/\RowK true w (C (M j) (Q j) (P j)) (Jg [cf ps j]):=by
  refine⟨λj=>GC ((w.cell? ⟨f,j,none⟩).getD .nilFunc),λj=>lenV ((w.cell? ⟨f,j,none⟩).getD .nilFunc),λj=>GD ((w.cell? ⟨f,j,none⟩).getD .nilFunc),λj hj=>?_⟩;obtain⟨a,l,c,e,hr⟩:=h.cell hj;refine⟨?_,?_⟩
  . simp only[e,CT,GC,lenV,GD]
  . simp only[e,CT,GC,lenV,GD];exact hr
 obtain⟨M,Q,P,aq⟩:=Qc;obtain⟨Qn,HL,HC,HS,bg,HK,HX⟩:=Iu h.lt hl aq bc aj az hx;have Qm:=Z (show Sqs (JS a)from Sqs.of λi=>by
  rcases KX a i with e|e|e
  . rw[e];exact aj
  . rw[e];exact Sq.of (k:=1) ⟨Sm.one 1 O,Sm.one 1 O⟩ O
  . rw[e];exact Fl)
 have Qg:la<=1099511627776:=O
 clear aq hl bc aj az hx h;refine(BK (n:=3)).1 ?_;refine BW func80 J trivial ?_ J;simp only[ntmps80,Ak,Af,AL,Nat.reduceAdd,Nat.reduceSub,As,At,AG,Aw,Ah,Am];gi_wp2_with(refine⟨trivial,?_⟩;gi_at_call 111;refine(Zf Fence.wide _ trivial J _ _ _ _).mono ?_;rintro e w' ⟨rfl,rfl⟩)
 have M0:DL w _ _:=((((DL.nil w).push (.cell 25 (C y A z)) (cs:=#[C y A z]) ⟨J,J⟩).push (.cell 25 (C none 0 0)) (cs:=#[C none 0 0]) ⟨J,J⟩).push (.cell 25 (C none 0 0)) (cs:=#[C none 0 0]) ⟨J,J⟩).push (.cell 115 (C (some ⟨f,0,none⟩) la la)) (cs:=#[C (some ⟨f,0,none⟩) la la]) ⟨J,J⟩;simp only[A1]at M0;obtain⟨W0,ae⟩:=ex ((((w.alloc (L #[C y A z] 25)).alloc (L #[C none 0 0] 25)).alloc (L #[C none 0 0] 25)).alloc (L #[C (some ⟨f,0,none⟩) la la] 115));have M1:DL w W0 [some (w.heap.size,.cell 25 (C y A z)),some (w.heap.size+1,.cell 25 (C none 0 0)),some (w.heap.size+1+1,.cell 25 (C none 0 0)),some (w.heap.size+1+1+1,.cell 115 (C (some ⟨f,0,none⟩) la la))]:=by rw[<-ae];exact M0
 have hN:W0.heap.size=w.heap.size+1+1+1+1:=by rw[<-ae];simp
 have HU:=Z (show Ek w W0 (C y A z) (C (some ⟨f,0,none⟩) la la) (Yx a (ps.drop (la-0)))from by
  rw[An (by have:=HL.o;omega)];exact⟨(M1.cell (i:=0) J).1,(M1.cell (i:=1) J).1,⟨_,_,_,(M1.cell (i:=2) J).1,RowK.nil _ _⟩,(M1.cell (i:=3) J).1,M1.2.2⟩)
 have bh:=Z ae;rw[ae];clear M0 M1 ae;have HN:=Z hN;clear hN;refine Ih J O (gf:=145) (lb:=#[I (some ⟨w.heap.size+1+1+1,0,none⟩)]) J trivial (B7 func145 Zv J)
  (Ze Fence.wide _ trivial J O (w.heap.size+1+1+1) (some ⟨f,0,none⟩) la la (λj=>C (M j) (Q j) (P j)) Qg) (λ_=>rfl)
  (λk W=>Ek w W (C y A z) (C (some ⟨f,0,none⟩) la la) (Yx a (ps.drop (la-k)))) (λ_ _ _=>False)
  (λk W W' row h hg hr=>h.own hg λr e=>⟨by have:=(hr r e).1;rw[HN.o]at this;omega,(hr r e).2⟩) (λc s W W' row h=>h.elim) HU.o ?rd
  (λk b=>{ tmps:=#[C (some ⟨f,0,none⟩) la la,N #[C y A z],B,I (some ⟨w.heap.size,0,none⟩),I (some ⟨w.heap.size+1,0,none⟩),I (some ⟨w.heap.size+1+1,0,none⟩),B,I (some ⟨b,0,none⟩),C (some ⟨f,0,none⟩) la la,.func (.func 145) #[] #[I (some ⟨w.heap.size+1+1+1,0,none⟩)],.int .i64 ((la:Int)-1-k),N #[C (M (la-1-k)) (Q (la-1-k)) (P (la-1-k))],B,B,B,B,B,B,B,B],defers:=[] })
  (λk=>L #[C (M (la-1-k)) (Q (la-1-k)) (P (la-1-k))] 25 (0,0)) ?assign ?body ?done ?stop
 case stop=>intro D c k W _ _ h;exact h.elim
 case rd=>
  intro k W h;refine⟨h.2.2.2.1.cell,λhk=>⟨f,J,?_⟩⟩;exact(h.2.2.2.2.cell (p:=⟨f,_,none⟩) Qn.o).trans (HC.o (la-1-k) O).1
 case assign=>
  intro l k W K hK;unfold MT;gi_wp2;exact hK
 case body=>
  intro l k b W E hk bf ap ai;obtain⟨m,ay⟩:=ex (la-1-k);have hm:m<la:=O
  rw[show la-k=m+1 by omega]at E;rw[ay]at ai ⊢;have Qo:=Z (show la-(k+1)=m by omega);have Qj:=Z (show m<ps.length by have:=HL.o;omega);have Qq:=Z (HC.o m hm).2;have Qe:=Z (Pi a ps Qj.o);have Qd:=Z (HK.o (m+1));have Qt:=Z (HK.o m).1;have Qh:=Z (show(Yx a (ps.drop (m+1))).length+(JS a).length<=1099511627776 by
   have h1:=IH a (ps.drop (m+1));rw[AY]at h1;have d:(JS a).length=2:=rfl;have:=HL.o;omega)
  have Qs:=Z (Ph (HS.o.at m));obtain⟨S,an⟩:∃S,Yx a (ps.drop (m+1))=S:=⟨_,J⟩;rw[an]at E Qe Qd Qh;have Ql:GM w W W.drew (C y A z) (C (some ⟨f,0,none⟩) la la) S b (C (M m) (Q m) (P m)):=GM.below ⟨E,ai,by rw[HN.o]at ap;omega,DB W⟩ ((BB _ W).drew);clear E ai bf ap ay an HU;gi_wp2_with fail
  refine YE Di [[],[0],[],[1,2],[3],[],[4,5,3],[6,6,0,1,2,3,4,5,6]] Zv DP
   (λD ah V=>∃(ta tb tc td te tf tg:H),ah={ tmps:=#[C (some ⟨f,0,none⟩) la la,N #[C y A z],B,I (some ⟨w.heap.size,0,none⟩),I (some ⟨w.heap.size+1,0,none⟩),I (some ⟨w.heap.size+1+1,0,none⟩),B,I (some ⟨b,0,none⟩),C (some ⟨f,0,none⟩) la la,.func (.func 145) #[] #[I (some ⟨w.heap.size+1+1+1,0,none⟩)],.int .i64 (↑la-1 - ↑k),N #[C (M m) (Q m) (P m)],ta,tb,tc,td,te,tf,tg,B],defers:=[] }/\Hid ((D 0=true->D 7=false->JB V ta S)/\(D 1=true->D 7=false->IJ V tb S)/\(D 2=true->D 7=false->JB V tc (JS a))/\(D 3=true->D 7=false->JB V td (YV S (JS a)))/\(D 4=true->D 7=false->IJ V te (YV S (JS a)))/\(D 5=true->D 7=false->JB V tf (Jg [cf ps m]))/\(D 6=true->D 7=false->JB V tg (Yx a (ps.drop m))))/\Hid ((D 7=false->GM w W V (C y A z) (C (some ⟨f,0,none⟩) la la) (S) b (C (M m) (Q m) (P m)))/\(D 7=true->GM w W V (C y A z) (C (some ⟨f,0,none⟩) la la) (Yx a (ps.drop m)) b (C (M m) (Q m) (P m)))))
   ⟨_,_,_,_,_,_,_,J,Z DJ,Z ⟨λ_=>Ql,DJ⟩⟩ ?step1 ?fin1
  case step1=>
   rintro D ah V i ds ad hi v X ⟨ta,tb,tc,td,te,tf,tg,rfl,q,t⟩;have bi:i<8:=(Ag.1 hi).1;obtain rfl|rfl|rfl|rfl|rfl|rfl|rfl|rfl:=Pj i O
   all_goals
    simp only[Ap,Al,Ay]at hi;subst hi
   . have x:=t.o.1 (DN ad X);obtain⟨U,l5,c5,n5,r5⟩:=x.1.2.2.1;have e0:=n5.cell;clear v;refine D8 ?_;exact⟨(EM q λ_ _=>⟨_,J,r5⟩),t⟩
   . have T:D 7=false:=DN ad X;have R:=q.o.1 (v 0 DJ) T;clear v;refine D8 ?_;exact⟨(FC q λ_ _=>⟨_,J,R⟩),t⟩
   . have x:=t.o.1 (DN ad X);have e0:=x.1.1.cell;clear v;refine D8 ?_;exact⟨(GW q λ_ _=>⟨_,J,HX.o.below x.1.2.2.2.2⟩),t⟩
   . have T:D 7=false:=DN ad X;have R:=q.o.2.1 (v 1 DJ) T;have h1:=q.o.2.2.1 (v 2 DJ) T;obtain⟨y0,rfl,g0⟩:=R;have Qr:=Zg y0 V;clear v;have HC:=Z λ(n9:Nat)=>Bc l ((BK (n:=n9)).2 (On _ _ S (JS a) V g0 h1 Qd.o.1 Qm.o Qd.o.2.1 Qh.o));clear h1;refine Bd J λK hK=>?_;go_simp;gi_wp2_with(refine⟨trivial,?_⟩;gi_at_call 28;refine(HC.o _).mono ?_;rintro e w5 ⟨v5,rfl,ak,_,g⟩)
     obtain⟨G0,G1,G2,_,G4,G5,G6⟩:=q.o;exact⟨_,_,_,_,_,_,_,J,Z ⟨λh d=>(G0 h d).below g,λh d=>(G1 h d).below g,λh d=>(G2 h d).below g,λ_ _=>ak,λh d=>(G4 h d).below g,λh d=>(G5 h d).below g,λh d=>(G6 h d).below g⟩,Z ⟨λh=>(t.o.1 h).below g,λh=>(t.o.2 h).below g⟩⟩
   . have T:D 7=false:=DN ad X;have R:=q.o.2.2.2.1 (v 3 DJ) T;clear v;refine D8 ?_;exact⟨(Fy q λ_ _=>⟨_,J,R⟩),t⟩
   . have x:=t.o.1 (DN ad X);have e0:=x.2.1.cell;clear v;refine D8 ?_;exact⟨(GX q λ_ _=>⟨_,J,Qq.o.below x.1.2.2.2.2⟩),t⟩
   . have T:D 7=false:=DN ad X;have R:=q.o.2.2.2.2.1 (v 4 DJ) T;have h1:=Do q (v 5 DJ) T;obtain⟨y0,rfl,g0⟩:=R;have Qr:=Zh y0 V;clear v;have HC:=Z λ(n9:Nat)=>Bc l ((BK (n:=n9)).2 (UO _ _ (YV S (JS a)) (Jg [cf ps m]) V g0 h1 Qd.o.2.2 Qs.o (by rw[Qe.o];exact Qt.o)));rw[Qe.o]at HC;clear h1;refine Bd J λK hK=>?_;go_simp;gi_wp2_with(refine⟨trivial,?_⟩;gi_at_call 26;refine(HC.o _).mono ?_;rintro e w5 ⟨v5,rfl,ak,_,g⟩)
     obtain⟨G0,G1,G2,G3,G4,G5,_⟩:=q.o;exact⟨_,_,_,_,_,_,_,J,Z ⟨λh d=>(G0 h d).below g,λh d=>(G1 h d).below g,λh d=>(G2 h d).below g,λh d=>(G3 h d).below g,λh d=>(G4 h d).below g,λh d=>(G5 h d).below g,λ_ _=>ak⟩,Z ⟨λh=>(t.o.1 h).below g,λh=>(t.o.2 h).below g⟩⟩
   . have x:=t.o.1 X;have R:=q.o.2.2.2.2.2.2 (v 6 DJ) X;obtain⟨a9,l9,c9,rfl⟩:=JB.form R;obtain⟨U,l5,c5,n5,r5⟩:=id x.1.2.2.1;have e0:=n5.cell;have f0:=n5.frozen;have Qk:b≠w.heap.size+1+1:=by have:=x.2.2.1;omega
     clear v;refine D8 ?_;exact⟨Z ⟨λ_ h=>by simp at h,λ_ h=>by simp at h,λ_ h=>by simp at h,λ_ h=>by simp at h,λ_ h=>by simp at h,λ_ h=>by simp at h,λ_ h=>by simp at h⟩,Z ⟨λh=>by simp at h,λ_=>⟨x.1.put R,(BE V ⟨w.heap.size+1+1,0,none⟩ _ b Qk).trans x.2.1,x.2.2.1,x.2.2.2.trans (BN _ _ _)⟩⟩⟩
  case fin1=>
   rintro D ah V bd ⟨ta,tb,tc,td,te,tf,tg,rfl,q,t⟩;have d:=t.o.2 (bd 7 DP);refine⟨d.2.2.2.from _,?_⟩;have h3:=d.1;rw[<-Qo.o]at h3;exact h3
 case done=>
  intro D W hD E hK;have E:Ek w W (C y A z) (C (some ⟨f,0,none⟩) la la) (Yx a (ps.drop (la-la))):=E;rw[show ps.drop (la-la)=ps from by rw[AX];rfl]at E;obtain⟨U,l5,c5,n5,r5⟩:=E.2.2.1;have n6:=E.2.1;have e5:=n5.cell;have e6:=n6.cell;have f6:=n6.frozen;have HR:=Z (EI n6 (C U l5 c5) r5);have HB:=Z (E.2.2.2.2.setCell (p:=⟨w.heap.size+1,0,none⟩) (by show w.heap.size<=w.heap.size+1;omega) (C U l5 c5));have g6:=n6.set (C U l5 c5);have Qf:(W.setCell ⟨w.heap.size+1,0,none⟩ (C U l5 c5)).heap[D]?=some (.deferred (some [])):=(BN W ⟨w.heap.size+1,0,none⟩ _).same D _ hK J;have Qp:=Z (show w.heap.size<=D by rw[HN.o]at hD;omega);clear n5 r5 n6 E;gi_wp2;refine⟨DJ,.inl ⟨_,_,J,BZ Qf,?_⟩⟩;have hg:=BX (W.setCell ⟨w.heap.size+1,0,none⟩ (C U l5 c5)) D (.deferred none);have Qi:∀r,some D=some r->∃o:Obj,(W.setCell ⟨w.heap.size+1,0,none⟩ (C U l5 c5)).heap[r]?=some o/\o.isCells=false:=λr e=>by cases e;exact⟨_,Qf,J⟩
  have q2:=boxed_own hg Qi g6;have x2:=q2.cell;refine⟨N #[C U l5 c5],by simp[results,results80,go_sem,x2],_,J,⟨_,J,L1 hg Qi HR.o⟩,?_⟩;exact HB.o.trans (DI (w:=w) (Aa _) _ D _ _ Qp.o Qf J J)
def Gs(_:G):Prop:=True
def Gs.below(_:Gs V)(_:Bl V V'):Gs V':=trivial
def Zj{x y z u d e c:H}{a b:Rat}(g:Jk V (N #[x,y,z,u]) a)(i:Jk V (N #[s,d,e,c]) b):RowK true (V.alloc (L #[x,y,z,u,s,d,e,c] 38)) (C (some ⟨V.heap.size,0,none⟩) 2 2) [a,b]:=by
 have f:Bl V (V.alloc (L #[x,y,z,u,s,d,e,c] 38)):=Ba V _;refine⟨_,2,J,Aa _,O,DJ,Ax ⟨V.heap.size,J,_,BC V _,λj k=>?_⟩⟩;have l:j<2:=k;rcases j with _|_|j
 . exact⟨x,y,z,u,J,J,J,J,g.below f⟩
 . exact⟨s,d,e,c,J,J,J,J,i.below f⟩
 . omega
def FT(w V:G)(j:H)(a:Rat):Prop:=
 Boxed V w.heap.size 25 j/\(∃g b f c i b9 e d,JA V (w.heap.size+1) 38 (F g) (C b f c) (F i) (C b9 e d)/\Jk V (N #[F g,C b f c,F i,C b9 e d]) a)/\Boxed V (w.heap.size+1+1) 25 (C none 0 0)/\Bl w V
def FT.below{w V V':G}{c:H}{a:Rat}(h:FT w V c a)(b:Bl V V'):FT w V' c a:=by
 obtain⟨g,⟨o,d,n,e,p,b9,m,f,i,j⟩,k,l⟩:=h;exact⟨boxed_below g b,⟨o,d,n,e,p,b9,m,f,i.below b,j.below b⟩,boxed_below k b,Bt l b⟩
def FH(d:Bool)(w V:G)(c:H)(a:Rat)(t:H):Prop:=FT w V c a/\(d=true->∃b,t=I (some ⟨b,0,none⟩)/\Boxed V b 25 (C none 0 0)/\w.heap.size+1+1<b)
def FH.below{d:Bool}{w V V':G}{c:H}{a:Rat}{t:H}(h:FH d w V c a t)(b:Bl V V'):FH d w V' c a t:=
 ⟨h.1.below b,λe=>by obtain⟨f,g,i,j⟩:=h.2 e;exact⟨f,g,boxed_below i b,j⟩⟩
def FH.alloc{w V:G}{b:H}{a:Rat}{t:H}(h:FH false w V b a t):FH true w (V.alloc (L #[C none 0 0] 25)) b a (I (some ⟨V.heap.size,0,none⟩)):=
 ⟨h.1.below (Ba V _),λ_=>⟨_,J,BJ _ _ _,h.1.2.2.1.lt⟩⟩
def IK(w V:G)(c:H)(a:Rat)(b:Nat):Prop:=FT w V c a/\∃x y z,Boxed V b 25 (C x y z)/\RowK true V (C x y z) (JS a)/\w.heap.size+1+1<b
def IK.below{w V V':G}{d:H}{a:Rat}{c:Nat}(h:IK w V d a c)(b:Bl V V'):IK w V' d a c:=by
 obtain⟨e,x,y,z,f,g,i⟩:=h;exact⟨e.below b,x,y,z,boxed_below f b,g.below b,i⟩
def KY(w V:G)(c:H)(a:Rat)(t:H):Prop:=∃b,t=I (some ⟨b,0,none⟩)/\IK w V c a b
def KY.below{w V V':G}{b:H}{a:Rat}{t:H}(h:KY w V b a t)(f:Bl V V'):KY w V' b a t:=by
 obtain⟨c,e,d⟩:=h;exact⟨c,e,d.below f⟩
def FT.put{a:Rat}(h:FT w V s a){b:Nat}{x:Zu}{y z:Nat}(l:Boxed V b 25 (C x y z))(t:w.heap.size+1+1<b)(v:H):FT w (V.setCell ⟨b,0,none⟩ v) s a:=by
 obtain⟨f,⟨o,c,n,d,q,b9,m,e,g,i⟩,j,k⟩:=h;refine⟨(BE V ⟨b,0,none⟩ v _ (by show w.heap.size≠b;omega)).trans f,⟨o,c,n,d,q,b9,m,e,(BE V ⟨b,0,none⟩ v _ (by show w.heap.size+1≠b;omega)).trans g,Dk.keep (r:=true) i (OE l J v)⟩,(BE V ⟨b,0,none⟩ v _ (by show w.heap.size+1+1≠b;omega)).trans j,k.setCell (p:=⟨b,0,none⟩) (by show w.heap.size<=b;omega) _⟩
def KZ(V:G)(t:H)(la:Nat)(ps:K):Prop:=∃g,t=C (some ⟨g,0,none⟩) la la/\D0 V g la λj=>Jg [cf ps j]
def KZ.below{V V':G}{t:H}{la:Nat}{ps:K}(h:KZ V t la ps)(a:Bl V V'):KZ V' t la ps:=by
 obtain⟨g,e,h⟩:=h;exact⟨g,e,h.below a⟩
def Ka(w V:G)(t:H)(P:K):Prop:=∃x y z,t=N #[C x y z]/\Boxed V (w.heap.size+1+1) 25 (C x y z)/\JB V t P/\Bl w V
def Ka.below{w V V':G}{t:H}{P:K}(h:Ka w V t P)(a:Bl V V'):Ka w V' t P:=by
 obtain⟨x,y,z,e,b,c,d⟩:=h;exact⟨x,y,z,e,boxed_below b a,c.below a,Bt d a⟩
def Zk(v vx:H)(ps:K)(a:Rat)(w:G)(h:JB w v ps)(hx:Jk w vx a)(ap:Sqs ps)(ae:Sq a)(an:II a ps)(az:ps.length<=1099511627):
 Calls Tryz.prog 36 #[v,vx] w λe w'=>∃u,e=.returned u/\JB w' u (Yx a ps)/\Bl w w':=by
 obtain⟨n,la,o,rfl⟩:=h.form;obtain⟨s7,a7,l7,c7,t7,b7,k7,d7,rfl⟩:=hx.form;have ha:=h.row;obtain⟨ak,_⟩:=ha.forms;have M0:DL w _ _:=(((DL.nil w).push (.cell 25 (C n la o)) (cs:=#[C n la o]) ⟨J,J⟩).push (.rat a) (hx.below (Ba w _))).push (.cell 25 (C none 0 0)) (cs:=#[C none 0 0]) ⟨J,J⟩;simp only[A1]at M0;obtain⟨X,ad⟩:=ex (((w.alloc (L #[C n la o] 25)).alloc (L #[F s7,C a7 l7 c7,F t7,C b7 k7 d7] 38)).alloc (L #[C none 0 0] 25));have E:DL w X [some (w.heap.size,.cell 25 (C n la o)),some (w.heap.size+1,.rat a),some (w.heap.size+1+1,.cell 25 (C none 0 0))]:=by rw[<-ad];exact M0
 have Qf:FT w X (C n la o) a:=by
  obtain⟨s1,a1,l1,c1,t1,b1,k1,d1,n1,r1,_,_⟩:=E.rat (i:=1) J;exact⟨(E.cell (i:=0) J).1,⟨s1,a1,l1,c1,t1,b1,k1,d1,n1,r1⟩,(E.cell (i:=2) J).1,E.2.2⟩
 obtain⟨HA,Qe,Qk,Qj,Qg,Ql,Qi⟩:=Iu ha ap ae an (show la=ps.length/\la<=1099511627 from⟨ak,O⟩) ad (show Jg [a,1]=JS a from Mg a);have Qh:=Z (show Sqs [a,1]from Sqs.of λi=>by
  rcases KX a i with e|e|e
  . rw[show cf [a,1] i=a from e];exact ae
  . rw[show cf [a,1] i=1 from e];exact Sq.of (k:=1) ⟨Sm.one 1 O,Sm.one 1 O⟩ O
  . rw[show cf [a,1] i=0 from e];exact Fl)
 have Qd:FH false w X.drew (C n la o) a B:=⟨Qf.below ((BB _ X).drew),λe=>by cases e⟩;clear h hx ha ap ae an az ak M0 E ad Qf;go_enter func36,ntmps36
 go_upto_region 1 with fail
 rw[Ql.o];refine JF Di [[],[],[0,1],[2,1],[],[4,3,3,0,1,2,3,4]] Zv DP
  (λD x V=>∃(R S T U Q:H),x={ tmps:=#[N #[C n la o],N #[F s7,C a7 l7 c7,F t7,C b7 k7 d7],I (some ⟨w.heap.size,0,none⟩),I (some ⟨w.heap.size+1,0,none⟩),I (some ⟨w.heap.size+1+1,0,none⟩),Q,R,S,T,U,B,B,B,B,B],defers:=[] }/\Hid ((D 0=true->D 5=false->Jk V R a)/\(D 1=true->D 5=false->Jk V S 1)/\(D 2=true->D 5=false->RowK true V T [a,1])/\(D 3=true->D 5=false->JB V U (JS a))/\(D 4=true->Gs V))/\Hid ((D 5=false->FH (D 4) w V (C n la o) a Q)/\(D 5=true->KY w V (C n la o) a Q)))
  ⟨_,_,_,_,_,J,Z DJ,Z ⟨λ_=>Qd,DJ⟩⟩ ?step1 ?fin1
 case step1=>
  rintro D x V i ds s y f m ⟨R,S,T,U,Q,rfl,b,d⟩;have Qm:i<6:=(Ag.1 y).1;obtain rfl|rfl|rfl|rfl|rfl|rfl:=GP i O
  all_goals
   simp only[Ap,Al,Ay]at y;subst y
  . have j:=d.o.1 (DN s m);obtain⟨s5,a5,l5,c5,t5,b5,k5,d5,n5,r5⟩:=j.1.2.1;obtain⟨e0,e1,e2,e3⟩:=n5.cq;clear f;refine DV ?_;exact⟨(EM b λ_ _=>r5),d⟩
  . clear f;have t:=Z (L3 1 O O V);refine Jf J J λK hK=>?_;go_simp;go_wp2_with(go_at_call 77;refine t.o.mono ?_;rintro e w5 ⟨v5,rfl,A,g⟩)
    obtain⟨G0,_,G2,G3,G4⟩:=b.o;exact⟨_,_,_,_,_,J,Z ⟨λh c=>(G0 h c).below g,λ_ _=>A,λh c=>(G2 h c).below g,λh c=>(G3 h c).below g,λh=>(G4 h).below g⟩,Z ⟨λh=>(d.o.1 h).below g,λh=>(d.o.2 h).below g⟩⟩
  . have q:D 5=false:=DN s m;have l:=b.o.1 (f 0 DJ) q;have z:=b.o.2.1 (f 1 DJ) q;obtain⟨s5,a5,l5,c5,t5,b5,k5,d5,rfl⟩:=Jk.form l;obtain⟨s6,a6,l6,c6,t6,b6,k6,d6,rfl⟩:=Jk.form z;clear f;refine DV ?_;exact⟨Z ⟨λh c=>(b.o.1 h c).below (Ba V _),λh c=>(b.o.2.1 h c).below (Ba V _),λ_ _=>Zj l z,λh c=>(b.o.2.2.2.1 h c).below (Ba V _),λh=>(b.o.2.2.2.2 h).below (Ba V _)⟩,Z ⟨λh=>(d.o.1 h).below (Ba V _),λh=>(d.o.2 h).below (Ba V _)⟩⟩
  . have q:D 5=false:=DN s m;have l:=b.o.2.2.1 (f 2 DJ) q;obtain⟨a6,l6,c6,rfl⟩:=RowK.form l;clear f;have t:=Z (Gi _ [a,1] V l Qh.o);rw[Qi.o]at t;clear l;refine Jf J J λK hK=>?_;go_simp;go_wp2_with(go_at_call 65;refine t.o.mono ?_;rintro e w5 ⟨v5,rfl,A,_,g⟩)
    exact⟨_,_,_,_,_,J,Z ⟨λh c=>(b.o.1 h c).below g,λh c=>(b.o.2.1 h c).below g,λh c=>(b.o.2.2.1 h c).below g,λ_ _=>A,λh=>(b.o.2.2.2.2 h).below g⟩,Z ⟨λh=>(d.o.1 h).below g,λh=>(d.o.2 h).below g⟩⟩
  . have q:D 5=false:=DN s m;have j:=d.o.1 q;clear f;refine DV ?_;exact⟨Z ⟨λh c=>(b.o.1 h c).below (Ba V _),λh c=>(b.o.2.1 h c).below (Ba V _),λh c=>(b.o.2.2.1 h c).below (Ba V _),λh c=>(b.o.2.2.2.1 h c).below (Ba V _),λ_=>trivial⟩,Z ⟨λ_=>(show FH true w _ (C n la o) a _ from FH.alloc (by rw[m]at j;exact j)),λh=>by simp[q]at h⟩⟩
  . have j:=d.o.1 m;have l:=b.o.2.2.2.1 (f 3 DJ) m;obtain⟨hB,ay⟩:=j;obtain⟨W,rfl,r,ah⟩:=ay (f 4 DJ);obtain⟨a9,l9,c9,rfl⟩:=JB.form l;have e0:=r.cell;have f0:=r.frozen;clear f;refine DV ?_;exact⟨Z ⟨λ_ h=>by simp at h,λ_ h=>by simp at h,λ_ h=>by simp at h,λ_ h=>by simp at h,λ_=>trivial⟩,Z ⟨λh=>by simp at h,λ_=>⟨W,J,hB.put r ah _,_,_,_,r.set _,EI r _ l.row,ah⟩⟩⟩
 case fin1=>
  rintro D x V M ⟨R,S,T,U,Q,rfl,b,d⟩;obtain⟨W,rfl,hG⟩:=d.o.2 (M 5 DP);have HG:=Z hG;clear b d M hG;go_wp2_with fail
  have Qd:=HG.o.below ((BB _ V).drew);clear HG;refine JF Di [[],[0],[1],[],[2,3,2],[4,4,0,1,2,3,4]] Zv DP
   (λD x V=>∃(ta tb tc td P:H),x={ tmps:=#[N #[C n la o],N #[F s7,C a7 l7 c7,F t7,C b7 k7 d7],I (some ⟨w.heap.size,0,none⟩),I (some ⟨w.heap.size+1,0,none⟩),I (some ⟨w.heap.size+1+1,0,none⟩),I (some ⟨W,0,none⟩),R,S,T,U,ta,tb,tc,td,P],defers:=[] }/\Hid ((D 0=true->ta=I (some ⟨w.heap.size,0,none⟩))/\(D 1=true->tb=C n la o)/\(D 2=true->D 5=false->KZ V tc la ps)/\(D 3=true->D 5=false->JB V td (JS a))/\(D 4=true->D 5=false->JB V P (Yx a ps)))/\Hid ((D 5=false->IK w V (C n la o) a W)/\(D 5=true->Ka w V P (Yx a ps))))
   ⟨_,_,_,_,_,J,Z DJ,Z ⟨λ_=>Qd,DJ⟩⟩ ?step2 ?fin2
  case step2=>
   rintro D x V i ds s y f m ⟨ta,tb,tc,td,P,rfl,b,d⟩;have Qm:i<6:=(Ag.1 y).1;obtain rfl|rfl|rfl|rfl|rfl|rfl:=GP i O
   all_goals
    simp only[Ap,Al,Ay]at y;subst y
   . clear f;refine DV ?_;exact⟨(EM b),d⟩
   . have j:=d.o.1 (DN s m);obtain rfl:=b.o.1 (f 0 DJ);have e0:=j.1.1.cell;clear f;refine DV ?_;exact⟨Z ⟨λ_=>rfl,λ_=>rfl,b.o.2.2.1,b.o.2.2.2.1,b.o.2.2.2.2⟩,d⟩
   . have j:=d.o.1 (DN s m);obtain rfl:=b.o.2.1 (f 1 DJ);clear f;have t:=Z (Zc n la o ps V (HA.o.below j.1.2.2.2) Qe.o);refine Jf J J λK hK=>?_;go_simp;go_wp2_with(go_at_call 78;refine t.o.mono ?_;rintro e w5 ⟨v5,rfl,A,bc,g⟩)
     exact⟨_,_,_,_,_,J,Z ⟨b.o.1,λ_=>rfl,λ_ _=>⟨v5,J,bc⟩,λh c=>(b.o.2.2.2.1 h c).below g,λh c=>(b.o.2.2.2.2 h c).below g⟩,Z ⟨λh=>(d.o.1 h).below g,λh=>(d.o.2 h).below g⟩⟩
   . have j:=d.o.1 (DN s m);obtain⟨_,x5,y5,z5,n5,r5,_⟩:=id j;have e0:=n5.cell;clear f;refine DV ?_;exact⟨Z ⟨b.o.1,b.o.2.1,b.o.2.2.1,λ_ _=>⟨_,J,r5⟩,b.o.2.2.2.2⟩,d⟩
   . have q:D 5=false:=DN s m;have j:=d.o.1 q;have l:=b.o.2.2.1 (f 2 DJ) q;have z:=b.o.2.2.2.1 (f 3 DJ) q;obtain⟨g0,rfl,p0⟩:=l;obtain⟨a9,l9,c9,rfl⟩:=JB.form z;clear f;have t:=Z (Zi g0 la l9 c9 a9 ps a V p0 Qg.o.1 Qg.o.2 z.row Qk.o Qe.o Qj.o);clear z;refine Jf J J λK hK=>?_;go_simp;go_wp2_with(go_at_call 80;refine t.o.mono ?_;rintro e w5 ⟨v5,rfl,A,g⟩)
     exact⟨_,_,_,_,_,J,Z ⟨b.o.1,b.o.2.1,λh c=>(b.o.2.2.1 h c).below g,λh c=>(b.o.2.2.2.1 h c).below g,λ_ _=>A⟩,Z ⟨λ_=>j.below g,λh=>by simp[q]at h⟩⟩
   . have j:=d.o.1 m;have l:=b.o.2.2.2.2 (f 4 DJ) m;obtain⟨a9,l9,c9,rfl⟩:=JB.form l;have r:=j.1.2.2.1;have e0:=r.cell;have f0:=r.frozen;clear f;refine DV ?_;exact⟨Z ⟨b.o.1,b.o.2.1,λ_ h=>by simp at h,λ_ h=>by simp at h,λ_ h=>by simp at h⟩,Z ⟨λh=>by simp at h,λ_=>⟨_,_,_,J,r.set _,l.setP r _,j.1.2.2.2.setCell (p:=⟨w.heap.size+1+1,0,none⟩) (by show w.heap.size<=w.heap.size+1+1;omega) _⟩⟩⟩
  case fin2=>
   rintro D x V M ⟨ta,tb,tc,td,P,rfl,b,d⟩;obtain⟨x9,y9,z9,rfl,ai,aj,aq⟩:=d.o.2 (M 5 DP);have x0:=ai.cell;have HI:=Z aj;have HW:=Z aq;clear b d M ai aj aq;go_wp2_with fail
   exact BA (v:=N #[C x9 y9 z9]) (by simp[results,results36,go_sem,x0]) J ⟨_,J,HI.o,HW.o⟩
end M3
def Zl{V:G}{x y z u d e f c:H}{a b:Rat}(i:Jj V (N #[x,y,z,u]) a)(k:Jj V (N #[d,e,f,c]) b):RowK false (V.alloc (L #[x,y,z,u,d,e,f,c] 49)) (C (some ⟨V.heap.size,0,none⟩) 2 2) [a,b]:=by
 have g:Bl V (V.alloc (L #[x,y,z,u,d,e,f,c] 49)):=Ba V _;refine⟨_,2,J,Aa _,O,DJ,Ax ⟨V.heap.size,J,_,BC V _,λj l=>?_⟩⟩;have m:j<2:=l;rcases j with _|_|j
 . exact⟨x,y,z,u,J,J,J,J,i.below g⟩
 . exact⟨d,e,f,c,J,J,J,J,k.below g⟩
 . omega
def IL(w V:G)(a:Rat):Prop:=(∃b f c g b9 e d i,JA V w.heap.size 49 (C b f c) (F g) (C b9 e d) (F i)/\Jj V (N #[C b f c,F g,C b9 e d,F i]) a)/\Bl w V
def IL.below{w V V':G}{a:Rat}(h:IL w V a)(b:Bl V V'):IL w V' a:=by
 obtain⟨⟨c,k,d,l,b9,j,e,m,f,g⟩,i⟩:=h;exact⟨⟨c,k,d,l,b9,j,e,m,f.below b,g.below b⟩,Bt i b⟩
def GN(w V:G)(o l:H)(S a:K):Prop:=RowK false V o S/\RowK false V l a/\Bl w V
def GN.below{w V V':G}{o l:H}{S b:K}(h:GN w V o l S b)(a:Bl V V'):GN w V' o l S b:=⟨h.1.below a,h.2.1.below a,Bt h.2.2 a⟩
def Zm(va vx:H)(ps:K)(a:Rat)(w:G)(ha:RowK false w va ps)(hx:Jj w vx a)(an:Sqs ps)(ap:Sq a)(ak:II a ps)(az:ps.length<=1099511627):
 Calls Tryz.prog 39 #[va,vx] w λe w'=>∃u,e=.returned u/\RowK false w' u (Yx a ps)/\Bl w w':=by
 obtain⟨pa,la,pc,rfl⟩:=ha.form;obtain⟨xa,xl,xc,xs,xb,xk,xd,xt,rfl⟩:=Jj.form hx;obtain⟨aj,aq,ay,bd,s,t,aa,bb,ll,cc,kk,dd,hc⟩:=ha.formsF;have Qg:Bl w (w.alloc (L #[C xa xl xc,F xs,C xb xk xd,F xt] 49)):=Ba w _;have Qh:IL w (w.alloc (L #[C xa xl xc,F xs,C xb xk xd,F xt] 49)) a:=⟨⟨_,_,_,_,_,_,_,_,JA.new _ _ _ _ _ _,hx.below Qg⟩,Qg⟩;obtain⟨W0,ae⟩:=ex (w.alloc (L #[C xa xl xc,F xs,C xb xk xd,F xt] 49));rw[ae]at Qh;have Qf:=Qh.below ((BB _ W0).drew);obtain⟨Qr,o,HP,Qo,Qj,Qn⟩:=GZ ae hc an ak (show la=ps.length/\la<=1099511627 from⟨aj,O⟩) (show Jg [a,1]=JS a from Mg a);have Qq:=Z (show Sqs (JS a)from Sqs.of λi=>by
  rcases KX a i with e|e|e
  . rw[e];exact ap
  . rw[e];exact Sq.of (k:=1) ⟨Sm.one 1 O,Sm.one 1 O⟩ O
  . rw[e];exact Fl)
 have bf:IntKind.i64.wrap ((la:Int)-1)=(la:Int)-1:=by rw[Bg];omega
 clear ha hx an ap ak aj hc ae az aq ay Qg Qh;go_enter func39,ntmps39
 go_upto_region 2 with fail
 rw[Qr.o];refine JF Di [[],[],[0,1],[2,1],[3,3,0,1,2,3]] Zv DP
  (λD x V=>∃(tp tq U W tn:H),x={ tmps:=#[C pa la pc,N #[C xa xl xc,F xs,C xb xk xd,F xt],B,I (some ⟨w.heap.size,0,none⟩),C none 0 0,C none 0 0,tn,B,tp,tq,U,W,B,B,B,B,B,B,B,B,B,B,B,B,B,B,B,B,B],defers:=[] }/\Hid ((D 0=true->Jj V tp a)/\(D 1=true->Jj V tq 1)/\(D 2=true->RowK false V U [a,1])/\(D 3=true->RowK false V W (JS a))/\(D 4=true->RowK false V tn (JS a)))/\Hid (IL w V a))
  ⟨_,_,_,_,_,J,Z ⟨DJ,DJ,DJ,DJ,DJ⟩,Z Qf⟩ ?step1 ?fin1
 case step1=>
  rintro D x V i ds ah q f ad ⟨tp,tq,U,W,tn,rfl,c,d⟩;have Qp:i<5:=(Ag.1 q).1;obtain rfl|rfl|rfl|rfl|rfl:=MU i O
  all_goals
   simp only[Ap,Al,Ay]at q;subst q
  . have l:=d.o;obtain⟨a5,l5,c5,s5,b5,k5,d5,t5,n5,r5⟩:=l.1;obtain⟨e0,e1,e2,e3⟩:=n5.cq;clear f;refine DV ?_;exact⟨(EM c λ_=>r5),Z (d.o)⟩
  . have l:=d.o;clear f;have o:=Z (Yn 1 O O V);refine Jf J J λK hK=>?_;go_simp;go_wp2_with(go_at_call 62;refine o.o.mono ?_;rintro e w5 ⟨v5,rfl,r,g⟩)
    obtain⟨G0,_,G2,G3,G4⟩:=c.o;exact⟨_,_,_,_,_,J,Z ⟨λh=>(G0 h).below g,λ_=>r,λh=>(G2 h).below g,λh=>(G3 h).below g,λh=>(G4 h).below g⟩,Z (d.o.below g)⟩
  . have l:=d.o;have n:=c.o.1 (f 0 DJ);have v:=c.o.2.1 (f 1 DJ);obtain⟨a5,l5,c5,s5,b5,k5,d5,t5,rfl⟩:=Jj.form n;obtain⟨a6,l6,c6,s6,b6,k6,d6,t6,rfl⟩:=Jj.form v;clear f;refine DV ?_;exact⟨Z ⟨λh=>(c.o.1 h).below (Ba V _),λh=>(c.o.2.1 h).below (Ba V _),λ_=>Zl n v,λh=>(c.o.2.2.2.1 h).below (Ba V _),λh=>(c.o.2.2.2.2 h).below (Ba V _)⟩,Z (d.o.below (Ba V _))⟩
  . have l:=d.o;have n:=c.o.2.2.1 (f 2 DJ);clear f;have o:=Z (Gl _ [a,1] V n);rw[Qn.o]at o;clear n;refine Jf J J λK hK=>?_;go_simp;go_wp2_with(go_at_call 23;refine o.o.mono ?_;rintro e w5 ⟨v5,rfl,r,g⟩)
    exact⟨_,_,_,_,_,J,Z ⟨λh=>(c.o.1 h).below g,λh=>(c.o.2.1 h).below g,λh=>(c.o.2.2.1 h).below g,λ_=>r,λh=>(c.o.2.2.2.2 h).below g⟩,Z (d.o.below g)⟩
  . have l:=d.o;have n:=c.o.2.2.2.1 (f 3 DJ);clear f;refine DV ?_;exact⟨Z ⟨c.o.1,c.o.2.1,c.o.2.2.1,c.o.2.2.2.1,λ_=>n⟩,Z (d.o)⟩
 case fin1=>
  rintro D x V z ⟨tp,tq,U,W,tn,rfl,c,d⟩;have Qi:=c.o.2.2.2.2 (z 4 DP);obtain⟨A,M,E,rfl⟩:=Qi.form;have HX:=Z (show GN w V (C none 0 0) (C A M E) (Yx a (ps.drop la)) (JS a)from⟨by rw[An (by have:=Qj.o;omega)];exact RowK.nil _ _,Qi,d.o.2⟩);clear c d z Qi;go_wp2;go_loopw [5,7] (λov iv wr=>∃m:Nat,m<=la/\iv=.int .i64 ((m:Int)-1)/\(∃R ol T,ov=C R ol T)/\Hid (GN w wr ov (C A M E) (Yx a (ps.drop m)) (JS a))) λ_ iv _=>((intOf iv)+1).toNat
  case atStart=>exact⟨la,Aa _,J,⟨_,_,_,J⟩,HX⟩
  case round=>
   obtain⟨m,hm,rfl,⟨R,ol,T,rfl⟩,y⟩:=hrel;clear HX;by_cases n:m=0
   . subst n;have Qb:((((0:Nat):Int)-1))=-1:=O
     rw[Qb];clear Qb;rw[AB]at y;go_wp2_with fail
     go_ret;exact⟨_,J,y.o.1,y.o.2.2⟩
   . obtain⟨j,hj⟩:∃j:Nat,m=j+1:=⟨m-1,O⟩;have Ql:(m:Int)-1=(j:Int):=O
     rw[Ql];rw[hj]at y;have Qs:j<la:=O
     have bc:(j:Int)<(la:Int):=O
     obtain⟨q,b,rfl,Q,c0,c1,c2,c3⟩:=o.o j Qs;have Qv:=Z (show ∀V,Bl w V->(V.cell? ⟨b,j*4,none⟩=some (C (aa j) (ll j) (cc j))/\V.cell? ⟨b,j*4+1,none⟩=some (F (s j))/\V.cell? ⟨b,j*4+2,none⟩=some (C (bb j) (kk j) (dd j))/\V.cell? ⟨b,j*4+3,none⟩=some (F (t j)))/\Jj V (N #[C (aa j) (ll j) (cc j),F (s j),C (bb j) (kk j) (dd j),F (t j)]) (cf ps j)from λV P=>by
      exact⟨⟨(P.cell (p:=⟨b,_,none⟩) Q).trans c0,(P.cell (p:=⟨b,_,none⟩) Q).trans c1,(P.cell (p:=⟨b,_,none⟩) Q).trans c2,(P.cell (p:=⟨b,_,none⟩) Q).trans c3⟩,q.below P⟩)
     have Qt:=Z (show j<ps.length by have:=Qj.o;omega);have Qk:=Z (M3.Pi a ps Qt.o);have Qd:=Z (Qo.o (j+1));have Qe:=Z (show(Yx a (ps.drop (j+1))).length+(JS a).length<1099511627776 by
      have v:=IH a (ps.drop (j+1));rw[AY]at v;have h2:(JS a).length=2:=rfl;have:=Qj.o;omega)
     have Qm:=Z (show(YV (Yx a (ps.drop (j+1))) (JS a)).length<1099511627776/\(Jg (Da 0 [cf ps j])).length<1099511627776 by
      have v:=Pg (Yx a (ps.drop (j+1))) (JS a);have h2:=Qe.o;have h3:=ZJ 0 (cf ps j);omega)
     have Qu:=Z (show Sqs (Jg (Da 0 [cf ps j]))from M3.Ph (HP.o.at j));obtain⟨S,ai⟩:∃S,Yx a (ps.drop (j+1))=S:=⟨_,J⟩;rw[ai]at y Qk Qd Qe Qm;clear q c0 c1 c2 c3 Q hj Ql n hm ai;go_wp2_with fail
     have Qf:=y.o.below ((BB _ wr).drew);refine JF Di [[],[],[0,1],[],[],[3,4],[5],[6,2],[2,7,7],[8,8,0,1,2,3,4,5,6,7,8]] Zv DP
      (λD x V=>∃(tc td te tf tg ti tj tk X tm:H),x={ tmps:=#[C (some ⟨b,0,none⟩) la pc,N #[C xa xl xc,F xs,C xb xk xd,F xt],B,I (some ⟨w.heap.size,0,none⟩),C none 0 0,tm,C A M E,.int .i64 ↑j,tp,tq,U,W,C (some ⟨b,0,none⟩) la pc,.int .i64 ↑la,.int .i64 (↑la-1),.int .i64 ↑j,F true,u17,u18,tc,td,te,tf,tg,ti,tj,tk,X,B],defers:=[] }/\Hid ((D 0=true->tc=C R ol T)/\(D 1=true->td=C A M E)/\(D 2=true->RowK false V te (YV S (JS a)))/\(D 3=true->tf=C (some ⟨b,0,none⟩) la pc)/\(D 4=true->tg=.int .i64 (j:Int))/\(D 5=true->ti=I (some ⟨b,j*4,none⟩))/\(D 6=true->Jj V tj (cf ps j))/\(D 7=true->RowK false V tk (Jg (Da 0 [cf ps j])))/\(D 8=true->RowK false V X (XY (YV S (JS a)) (Jg (Da 0 [cf ps j]))))/\((D 9=false->tm=Value.slice R ol T)/\(D 9=true->tm=X)))/\Hid (GN w V (C R ol T) (C A M E) S (JS a)))
      (E8 ⟨_,_,J,Z ⟨DJ,DJ,DJ,DJ,DJ,DJ,DJ,DJ,DJ,⟨λ_=>rfl,DJ⟩⟩,Z Qf⟩) ?step2 ?fin2
     case step2=>
      rintro D x V i ds ah q f ad ⟨tc,td,te,tf,tg,ti,tj,tk,X,tm,rfl,c,d⟩;have Qp:i<10:=(Ag.1 q).1;obtain rfl|rfl|rfl|rfl|rfl|rfl|rfl|rfl|rfl|rfl:=Gu i O
      all_goals
       simp only[Ap,Al,Ay]at q;subst q
      . have l:=d.o;have Qc:D 9=false:=DN ah ad;obtain rfl:=Dl c Qc;clear f;refine DV ?_;exact⟨(Hf (EM c) ⟨λ_=>rfl,λh=>by simp[Qc]at h⟩),Z (d.o)⟩
      . have l:=d.o;clear f;refine DV ?_;exact⟨Z ⟨c.o.1,λ_=>rfl,c.o.2.2.1,c.o.2.2.2.1,c.o.2.2.2.2.1,(Do c),(Dq c),(Ds c),(Dt c),⟨λh=>(Dl c) (by simpa using h),λh=>c.o.2.2.2.2.2.2.2.2.2.2 (by simpa using h)⟩⟩,Z (d.o)⟩
      . have l:=d.o;obtain rfl:=c.o.1 (f 0 DJ);obtain rfl:=c.o.2.1 (f 1 DJ);clear f;have o:=Z (Vl _ _ S (JS a) V l.1 l.2.1 Qd.o.1 Qq.o Qd.o.2.1 Qe.o);refine Jf J J λK hK=>?_;go_simp;go_wp2_with(go_at_call 32;refine o.o.mono ?_;rintro e w5 ⟨v5,rfl,r,g⟩)
        exact E8 ⟨_,_,J,Z ⟨λ_=>rfl,λ_=>rfl,λ_=>r,c.o.2.2.2.1,c.o.2.2.2.2.1,(Do c),λh=>((Dq c) h).below g,λh=>((Ds c) h).below g,λh=>((Dt c) h).below g,⟨λh=>(Dl c) (by simpa using h),λh=>c.o.2.2.2.2.2.2.2.2.2.2 (by simpa using h)⟩⟩,Z (d.o.below g)⟩
      . have l:=d.o;clear f;refine DV ?_;exact⟨Z ⟨c.o.1,c.o.2.1,c.o.2.2.1,λ_=>rfl,c.o.2.2.2.2.1,(Do c),(Dq c),(Ds c),(Dt c),⟨λh=>(Dl c) (by simpa using h),λh=>c.o.2.2.2.2.2.2.2.2.2.2 (by simpa using h)⟩⟩,Z (d.o)⟩
      . have l:=d.o;clear f;refine DV ?_;exact⟨Z ⟨c.o.1,c.o.2.1,c.o.2.2.1,c.o.2.2.2.1,λ_=>rfl,(Do c),(Dq c),(Ds c),(Dt c),⟨λh=>(Dl c) (by simpa using h),λh=>c.o.2.2.2.2.2.2.2.2.2.2 (by simpa using h)⟩⟩,Z (d.o)⟩
      . have l:=d.o;obtain rfl:=c.o.2.2.2.1 (f 3 DJ);obtain rfl:=c.o.2.2.2.2.1 (f 4 DJ);clear f;refine DV ?_;exact⟨Z ⟨c.o.1,c.o.2.1,c.o.2.2.1,λ_=>rfl,λ_=>rfl,λ_=>rfl,(Dq c),(Ds c),(Dt c),⟨λh=>(Dl c) (by simpa using h),λh=>c.o.2.2.2.2.2.2.2.2.2.2 (by simpa using h)⟩⟩,Z (d.o)⟩
      . have l:=d.o;obtain rfl:=Do c (f 5 DJ);obtain⟨⟨e0,e1,e2,e3⟩,hr⟩:=Qv.o V l.2.2;clear f;refine DV ?_;exact⟨Z ⟨c.o.1,c.o.2.1,c.o.2.2.1,c.o.2.2.2.1,c.o.2.2.2.2.1,λ_=>rfl,λ_=>hr,(Ds c),(Dt c),⟨λh=>(Dl c) (by simpa using h),λh=>c.o.2.2.2.2.2.2.2.2.2.2 (by simpa using h)⟩⟩,Z (d.o)⟩
      . have l:=d.o;have n:=Dq c (f 6 DJ);clear f;have o:=Z (IB _ 0 (cf ps j) V n O);clear n;refine Jf J J λK hK=>?_;go_simp;go_wp2_with(go_at_call 74;refine o.o.mono ?_;rintro e w5 ⟨v5,rfl,r,g⟩)
        exact E8 ⟨_,_,J,Z ⟨c.o.1,c.o.2.1,λh=>(c.o.2.2.1 h).below g,c.o.2.2.2.1,c.o.2.2.2.2.1,(Do c),λh=>((Dq c) h).below g,λ_=>r,λh=>((Dt c) h).below g,⟨λh=>(Dl c) (by simpa using h),λh=>c.o.2.2.2.2.2.2.2.2.2.2 (by simpa using h)⟩⟩,Z (d.o.below g)⟩
      . have l:=d.o;have n:=c.o.2.2.1 (f 2 DJ);have v:=Ds c (f 7 DJ);have Qc:D 9=false:=DN ah ad;clear f;have o:=Z (L9 _ _ (YV S (JS a)) (Jg (Da 0 [cf ps j])) V n v Qd.o.2.2 Qu.o Qm.o);clear n v;refine Jf J J λK hK=>?_;go_simp;go_wp2_with(go_at_call 30;refine o.o.mono ?_;rintro e w5 ⟨v5,rfl,r,g⟩)
        exact E8 ⟨_,_,J,Z ⟨c.o.1,c.o.2.1,λh=>(c.o.2.2.1 h).below g,c.o.2.2.2.1,c.o.2.2.2.2.1,(Do c),λh=>((Dq c) h).below g,λh=>((Ds c) h).below g,λ_=>r,⟨λh=>(Dl c) (by simpa using h),λh=>by simp[Qc]at h⟩⟩,Z (d.o.below g)⟩
      . have l:=d.o;clear f;refine DV ?_;exact⟨(Hf c ⟨λh=>by simp at h,λ_=>rfl⟩),Z (d.o)⟩
     case fin2=>
      rintro D x V z ⟨tc,td,te,tf,tg,ti,tj,tk,X,tm,rfl,c,d⟩;have h9:=Dt c (z 8 DP);obtain rfl:=c.o.2.2.2.2.2.2.2.2.2.2 (z 9 DP);have h8:=d.o;clear c d z;rw[show Jg (Da 0 [cf ps j])=Jg [cf ps j]from J,Qk.o]at h9;obtain⟨a9,l9,c9,rfl⟩:=h9.form;have HO:=Z (show GN w V (C a9 l9 c9) (C A M E) (Yx a (ps.drop j)) (JS a)from⟨h9,h8.2.1,h8.2.2⟩);clear h9 h8;go_wp2_with fail
      go_roundw
      case rel=>exact⟨j,O,by go_num,⟨_,_,_,J⟩,HO⟩
      case measure=>simp[intOf]
def FI(d:Bool)(a V:G)(t:H):Prop:=E1 a V/\(d=true->∃B,t=I (some ⟨B,0,none⟩)/\JA V B 38 (F false) (C none 0 0) (F false) (C none 0 0)/\a.heap.size<=B)
def FI.below{d:Bool}{a V V':G}{t:H}(h:FI d a V t)(b:Bl V V'):FI d a V' t:=⟨h.1.below b,λe=>by obtain⟨B,c,f,g⟩:=h.2 e;exact⟨B,c,f.below b,g⟩⟩
def FI.alloc{a V:G}{t:H}(h:FI false a V t):FI true a (V.alloc (L #[F false,C none 0 0,F false,C none 0 0] 38)) (I (some ⟨V.heap.size,0,none⟩)):=⟨h.1.below (Ba V _),λ_=>⟨_,J,JA.new _ _ _ _ _ _,h.1.size⟩⟩
def Kb(f V:G)(t:H)(q:Rat):Prop:=∃B s a l c e b k d,t=I (some ⟨B,0,none⟩)/\JA V B 38 (F s) (C a l c) (F e) (C b k d)/\Jk V (N #[F s,C a l c,F e,C b k d]) q/\E1 f V
def Kb.below{g V V':G}{t:H}{q:Rat}(h:Kb g V t q)(f:Bl V V'):Kb g V' t q:=by
 obtain⟨B,s,a,l,c,n,b,k,d,e,i,j,m⟩:=h;exact⟨B,s,a,l,c,n,b,k,d,e,i.below f,j.below f,m.below f⟩
def FJ(d:Bool)(a V:G)(t:H):Prop:=E1 a V/\(d=true->∃B,t=I (some ⟨B,0,none⟩)/\Boxed V B 25 (C none 0 0)/\a.heap.size<=B)
def FJ.below{d:Bool}{a V V':G}{t:H}(h:FJ d a V t)(b:Bl V V'):FJ d a V' t:=⟨h.1.below b,λe=>by obtain⟨B,c,f,g⟩:=h.2 e;exact⟨B,c,f.bel b,g⟩⟩
def FJ.alloc{a V:G}{t:H}(h:FJ false a V t):FJ true a (V.alloc (L #[C none 0 0] 25)) (I (some ⟨V.heap.size,0,none⟩)):=⟨h.1.below (Ba V _),λ_=>⟨_,J,BJ _ _ _,h.1.size⟩⟩
def Kc(b V:G)(t:H)(P:K):Prop:=∃B a l c,t=I (some ⟨B,0,none⟩)/\Boxed V B 25 (C a l c)/\RowK true V (C a l c) P/\E1 b V
def Kc.below{d V V':G}{t:H}{P:K}(h:Kc d V t P)(b:Bl V V'):Kc d V' t P:=by
 obtain⟨B,a,l,c,e,f,g,i⟩:=h;exact⟨B,a,l,c,e,f.bel b,g.below b,i.below b⟩
def Zn(s t:ByteArray)(hs:s.size<=140737488351232)(ht:t.size<=140737488351232)(w:G)(bc:GG w):
 Calls Tryz.prog 6 #[.string s,.string t] w λr w'=>r=.returned (F true)/\Bl w w':=by
 have HT:=Z bc;have W:=W2 (Jc s);have Ud:=ZI (Jc s);have Qi:=Vs (Jc t);obtain⟨Qr,Qu,Qt,Qn⟩:=Dn (λ(V:G)=>ZN s hs V) (λ(V:G)=>ZO s V) (λ(V:G)=>WT t V) λ(V:G)=>WU t ht V;obtain⟨ps,az⟩:=ex ((J1 (Jc s)).1);obtain⟨x,hx⟩:=ex (EE (Jc t));rw[az]at Qr Qu W Ud;rw[hx]at Qt Qn Qi;have hP:Sqs ps:=Sqs.of λi=>Sq.of (W.2 i) O;have Un:ps.length*601<=9*601:=Ae _ W.1;have Uk:ps.length*(601+2000+1)<=9*(601+2000+1):=Ae _ W.1;have Qp:M3.Hy ps x:=ZS Qi W.2 O;have Ql:=ZT W.2 (by have:=W.1;omega) O;have Qs:II x ps:=by
  obtain⟨D,h1,E,h3⟩:=Fp.some W.2;exact ZY h1 E h3 Qi W.1 O
 have Qj:=(Qs 0).1;rw[AB]at Qj;have Um:=IH x ps;have Ul:=ZV ps;have Qq:=ZU Ql;obtain⟨HP,HX,Qw,Ui,Ua,Ub,Ue,Uf⟩:=F1 hP (show Sq x from Sq.of Qi O) Qp Ql Qq Qs Qj (show Sq (ev ps x)by have:=(Qp 0).1;rwa[AB]at this);obtain⟨Qv,Uc,Qk⟩:=Db (λm=>MQ Qq (by have:=W.1;omega) m) (λm=>MQ Qj (by have:=W.1;omega) m) (show ps.length<=9 from W.1);obtain⟨TV,ay⟩:∃S:ByteArray,⟨(JP (ev ps x)).toArray⟩=S:=⟨_,J⟩;obtain⟨TS,aq⟩:∃S:ByteArray,⟨(Ei (Xv ps)).toArray⟩=S:=⟨_,J⟩;obtain⟨TM,ap⟩:∃S:ByteArray,⟨(Ei (Yx x ps)).toArray⟩=S:=⟨_,J⟩;obtain⟨Qy,Ug,Qx,M⟩:=Dn ay aq ap (BB w.heap.size w);clear bc az W Ud Qi hx hP Un Uk Qp Ql Qs Qj Um Ul Qq ay aq ap hs ht;go_enter func6,ntmps6
 go_upto_region 2 with(go_at_call 25;refine(Qu.o _).mono ?_;clear Qu;rintro e w3 ⟨u,rfl,hu,b⟩;obtain⟨a3,l3,c3,rfl⟩:=hu.form)
 replace M:=Z (Bt M.o b);have q:Bl w3 (w3.alloc (L #[C a3 l3 c3] 25)):=Ba w3 _;have R:=BJ w3 25 (C a3 l3 c3);have T:=hu.row.below q;replace M:=Z (Bt M.o q);clear q;obtain⟨VP,hV⟩:=ex (w3.alloc (L #[C a3 l3 c3] 25));obtain⟨BP,hB⟩:=ex (w3.heap.size);rw[hV]at T M;rw[hV,hB]at R;rw[hV];rw[hB];clear hV hB;clear hu b;go_upto_region 3 with(go_at_call 24;refine(Qr.o _).mono ?_;clear Qr;rintro e w1 ⟨u,rfl,hu,b⟩;obtain⟨ax,lx,cx,rfl⟩:=hu.form)
 replace R:=R.bel b;replace T:=T.below b;replace M:=Z (Bt M.o b);clear b;have rX:=hu;clear hu;have Qm:FI false w1 w1.drew B:=⟨E1.drew w1,λe=>by cases e⟩;refine JF Di [[],[],[1],[0,2,2],[],[4,3,3,0,1,2,3,4]] Zv DP
  (λD ae V=>∃(ta tb tc td tj:H),ae={ tmps:=#[.string s,.string t,B,B,F false,I (some ⟨BP,0,none⟩),C ax lx cx,tj,B,B,.string s,N #[C a3 l3 c3],.string s,C ax lx cx,ta,tb,tc,td,B,B,B,B,B,B,B,B,B,B,B,B,B,B,B,B,B,B,B,B,B,B,B,B,B,B,B,B,B,B,B,B,B,B,B],defers:=[] }/\Hid ((D 0=true->ta=N #[C a3 l3 c3])/\(D 1=true->tb=.string t)/\(D 2=true->D 5=false->Jk V tc x)/\(D 3=true->D 5=false->Jk V td (ev ps x))/\(D 4=true->M3.Gs V))/\Hid ((D 5=false->FI (D 4) w1 V tj)/\(D 5=true->Kb w1 V tj (ev ps x))))
  ⟨_,_,_,_,_,J,Z DJ,Z ⟨λ_=>Qm,DJ⟩⟩ ?step1 ?fin1
 case step1=>
  rintro D ae V i ds ah hi o X ⟨ta,tb,tc,td,tj,rfl,c,d⟩;have Uj:i<6:=(Ag.1 hi).1;obtain rfl|rfl|rfl|rfl|rfl|rfl:=GP i O
  all_goals
   simp only[Ap,Al,Ay]at hi;subst hi
  . have A:=d.o.1 (DN ah X);have eP:=(R.bel A.1).cell;clear o;refine DV ?_;exact⟨(EM c),d⟩
  . clear o;refine DV ?_;exact⟨(FC c),d⟩
  . obtain rfl:=c.o.2.1 (o 1 DJ);clear o;have HC:=Z (Qt.o V);refine Jf J J λK hK=>?_;go_simp;go_wp2_with(go_at_call 20;refine HC.o.mono ?_;rintro e w5 ⟨v5,rfl,ai,z⟩)
    exact⟨_,_,_,_,_,J,Z ⟨c.o.1,λ_=>rfl,λ_ _=>ai,λh E=>(c.o.2.2.2.1 h E).below z,λh=>(c.o.2.2.2.2 h).below z⟩,Z ⟨λh=>(d.o.1 h).below z,λh=>(d.o.2 h).below z⟩⟩
  . have Qe:D 5=false:=DN ah X;have A:=d.o.1 Qe;have h0:=c.o.2.2.1 (o 2 DJ) Qe;obtain rfl:=c.o.1 (o 0 DJ);clear o;have HC:=Z (M3.U3 _ _ ps x V (T.below A.1).isPoly h0 HP.o HX.o Qw.o);clear h0;refine Jf J J λK hK=>?_;go_simp;go_wp2_with(go_at_call 34;refine HC.o.mono ?_;rintro e w5 ⟨v5,rfl,ai,z⟩)
    exact⟨_,_,_,_,_,J,Z ⟨λ_=>rfl,c.o.2.1,λh E=>(c.o.2.2.1 h E).below z,λ_ _=>ai,λh=>(c.o.2.2.2.2 h).below z⟩,Z ⟨λh=>(d.o.1 h).below z,λh=>(d.o.2 h).below z⟩⟩
  . have Qe:D 5=false:=DN ah X;have A:=d.o.1 Qe;clear o;refine DV ?_;exact⟨Z ⟨c.o.1,c.o.2.1,λh E=>(c.o.2.2.1 h E).below (Ba V _),λh E=>(c.o.2.2.2.1 h E).below (Ba V _),λ_=>trivial⟩,Z ⟨λ_=>(show FI true w1 _ _ from FI.alloc (by rw[X]at A;exact A)),λh=>by simp[Qe]at h⟩⟩
  . have A:=d.o.1 X;have h0:=c.o.2.2.2.1 (o 3 DJ) X;obtain⟨q,ak⟩:=A;obtain⟨Bf,rfl,ad,an⟩:=ak (o 4 DJ);obtain⟨s9,a9,l9,c9,t9,b9,k9,d9,rfl⟩:=Jk.form h0;obtain⟨e0,e1,e2,e3⟩:=ad.cq;obtain⟨f0,f1,f2,f3⟩:=ad.fq;clear o;refine DV ?_;exact⟨Z ⟨c.o.1,c.o.2.1,λ_ h=>by simp at h,λ_ h=>by simp at h,λ_=>trivial⟩,Z ⟨λh=>by simp at h,λ_=>⟨Bf,_,_,_,_,_,_,_,_,J,ad.put _ _ _ _,UY ad h0 _ _ _ _,Jo q an _ _ _ _⟩⟩⟩
 case fin1=>
  rintro D ae V5 aj ⟨ta,tb,tc,td,tj,rfl,c,d⟩;obtain⟨BV,s9,a9,l9,c9,t9,b9,k9,d9,rfl,y,rV,q⟩:=d.o.2 (aj 5 DP);clear c d aj;have b:Bl w1 V5:=q;clear q;replace R:=R.bel b;replace T:=T.below b;replace rX:=rX.below b;replace M:=Z (Bt M.o b);clear b;have H1:=Z λ(V:G) (h:Bl V5 V)=>M3.ZP _ ps V (T.below h).isPoly HP.o Ui.o;have a:Bl V5 V5:=BB _ _;have eP:=(R.bel a).cell;go_upto_region 5 with(go_at_call 35;refine(H1.o _ a).mono ?_;clear H1;rintro e w6 ⟨u,rfl,hu,b⟩;obtain⟨a6,l6,c6,rfl⟩:=hu.form)
  replace b:=Bt a b
  clear a eP;replace R:=R.bel b;replace T:=T.below b;replace rX:=rX.below b;replace y:=y.below b;replace rV:=rV.below b;replace M:=Z (Bt M.o b);clear b;have q:Bl w6 (w6.alloc (L #[C a6 l6 c6] 25)):=Ba w6 _;have Q:=BJ w6 25 (C a6 l6 c6);have rD:=hu.row.below q;replace R:=R.bel q;replace T:=T.below q;replace rX:=rX.below q;replace y:=y.below q;replace rV:=rV.below q;replace M:=Z (Bt M.o q);clear q;obtain⟨VD,hV⟩:=ex (w6.alloc (L #[C a6 l6 c6] 25));obtain⟨BD,hB⟩:=ex (w6.heap.size);rw[hV]at R T rX y rV rD M;rw[hV,hB]at Q;rw[hV];rw[hB];clear hV hB;clear hu;have Qm:FJ false VD VD.drew B:=⟨E1.drew VD,λe=>by cases e⟩;refine JF Di [[],[],[1],[0,2,2],[],[4,3,3,0,1,2,3,4]] Zv DP
   (λD ae V=>∃(te tf tg ti tk:H),ae={ tmps:=#[.string s,.string t,B,B,F false,I (some ⟨BP,0,none⟩),C ax lx cx,I (some ⟨BV,0,none⟩),I (some ⟨BD,0,none⟩),tk,.string s,N #[C a3 l3 c3],.string s,C ax lx cx,ta,tb,tc,td,N #[C a3 l3 c3],N #[C a6 l6 c6],te,tf,tg,ti,B,B,B,B,B,B,B,B,B,B,B,B,B,B,B,B,B,B,B,B,B,B,B,B,B,B,B,B,B],defers:=[] }/\Hid ((D 0=true->te=N #[C a3 l3 c3])/\(D 1=true->tf=.string t)/\(D 2=true->D 5=false->Jk V tg x)/\(D 3=true->D 5=false->JB V ti (Yx x ps))/\(D 4=true->M3.Gs V))/\Hid ((D 5=false->FJ (D 4) VD V tk)/\(D 5=true->Kc VD V tk (Yx x ps))))
   ⟨_,_,_,_,_,J,Z DJ,Z ⟨λ_=>Qm,DJ⟩⟩ ?step2 ?fin2
  case step2=>
   rintro D ae V i ds ah hi o X ⟨te,tf,tg,ti,tk,rfl,c,d⟩;have Uj:i<6:=(Ag.1 hi).1;obtain rfl|rfl|rfl|rfl|rfl|rfl:=GP i O
   all_goals
    simp only[Ap,Al,Ay]at hi;subst hi
   . have A:=d.o.1 (DN ah X);have eP:=(R.bel A.1).cell;clear o;refine DV ?_;exact⟨(EM c),d⟩
   . clear o;refine DV ?_;exact⟨(FC c),d⟩
   . obtain rfl:=c.o.2.1 (o 1 DJ);clear o;have HC:=Z (Qt.o V);refine Jf J J λK hK=>?_;go_simp;go_wp2_with(go_at_call 20;refine HC.o.mono ?_;rintro e w5 ⟨v5,rfl,ai,z⟩)
     exact⟨_,_,_,_,_,J,Z ⟨c.o.1,λ_=>rfl,λ_ _=>ai,λh E=>(c.o.2.2.2.1 h E).below z,λh=>(c.o.2.2.2.2 h).below z⟩,Z ⟨λh=>(d.o.1 h).below z,λh=>(d.o.2 h).below z⟩⟩
   . have Qe:D 5=false:=DN ah X;have A:=d.o.1 Qe;have h0:=c.o.2.2.1 (o 2 DJ) Qe;obtain rfl:=c.o.1 (o 0 DJ);clear o;have HC:=Z (M3.Zk _ _ ps x V (T.below A.1).isPoly h0 HP.o HX.o Ub.o (by have:=Qk.o;omega));clear h0;refine Jf J J λK hK=>?_;go_simp;go_wp2_with(go_at_call 36;refine HC.o.mono ?_;rintro e w5 ⟨v5,rfl,ai,z⟩)
     exact⟨_,_,_,_,_,J,Z ⟨λ_=>rfl,c.o.2.1,λh E=>(c.o.2.2.1 h E).below z,λ_ _=>ai,λh=>(c.o.2.2.2.2 h).below z⟩,Z ⟨λh=>(d.o.1 h).below z,λh=>(d.o.2 h).below z⟩⟩
   . have Qe:D 5=false:=DN ah X;have A:=d.o.1 Qe;clear o;refine DV ?_;exact⟨Z ⟨c.o.1,c.o.2.1,λh E=>(c.o.2.2.1 h E).below (Ba V _),λh E=>(c.o.2.2.2.1 h E).below (Ba V _),λ_=>trivial⟩,Z ⟨λ_=>(show FJ true VD _ _ from FJ.alloc (by rw[X]at A;exact A)),λh=>by simp[Qe]at h⟩⟩
   . have A:=d.o.1 X;have h0:=c.o.2.2.2.1 (o 3 DJ) X;obtain⟨q,ak⟩:=A;obtain⟨Bf,rfl,ad,an⟩:=ak (o 4 DJ);obtain⟨a9,l9,c9,rfl⟩:=JB.form h0;have e0:=ad.cell;have f0:=ad.frozen;clear o;refine DV ?_;exact⟨Z ⟨c.o.1,c.o.2.1,λ_ h=>by simp at h,λ_ h=>by simp at h,λ_=>trivial⟩,Z ⟨λh=>by simp at h,λ_=>⟨Bf,_,_,_,J,ad.set _,EI ad _ h0.row,Below.setCell q (p:=⟨Bf,0,none⟩) an _⟩⟩⟩
  case fin2=>
   rintro D ae P aj ⟨te,tf,tg,ti,tk,rfl,c,d⟩;obtain⟨BM,am,lm,cm,rfl,nM,rM,q⟩:=d.o.2 (aj 5 DP);clear c d aj;have b:Bl VD P:=q;clear q;replace R:=R.bel b;replace T:=T.below b;replace rX:=rX.below b;replace y:=y.below b;replace rV:=rV.below b;replace Q:=Q.bel b;replace rD:=rD.below b;replace M:=Z (Bt M.o b);clear b;have Qh:=Z λ(V:G) (h:Bl P V)=>JX HT.o (Bt M.o h);have H1:=Z λ(V:G) (h:Bl P V)=>Oe _ (ev ps x) V (rV.below h) Uf.o (JX HT.o (Bt M.o h));rw[Qy.o]at H1;obtain⟨H2,H3,H4⟩:=Db (λ(V:G) (_:Bl P V)=>Qn.o V) (λ(V:G) (h:Bl P V) (v:H) (hv:Jj V v x)=>M3.Vm _ v ps x V (rX.below h) hv HP.o HX.o Qw.o) λ(V:G) (_:Bl P V) (v:H) (hv:Jj V v (ev ps x))=>Of v (ev ps x) V hv Uf.o;rw[Qy.o]at H4;have H5:=Z λ(V:G) (h:Bl P V)=>L5 _ (Xv ps) V (rD.below h).isPoly Ua.o Qv.o (JX HT.o (Bt M.o h));rw[Ug.o]at H5;have H6:=Z λ(V:G) (h:Bl P V)=>Vh _ ps V (rX.below h) HP.o (by have:=Qk.o;omega);have H7:=Z λ(V:G) (h:Bl P V) (v:H) (hv:RowK false V v (Xv ps))=>PQ v (Xv ps) V hv Ua.o Qv.o (P0 _) (Qh.o V h);rw[Ug.o]at H7;have H8:=Z λ(V:G) (h:Bl P V)=>L5 _ (Yx x ps) V (rM.below h).isPoly Ue.o Uc.o (JX HT.o (Bt M.o h));rw[Qx.o]at H8;obtain⟨H9,Uh,Qo⟩:=Db (λ(V:G) (_:Bl P V)=>Qn.o V) (λ(V:G) (h:Bl P V) (v:H) (hv:Jj V v x)=>Zm _ v ps x V (rX.below h) hv HP.o HX.o Ub.o (by have:=Qk.o;omega)) λ(V:G) (h:Bl P V) (v:H) (hv:RowK false V v (Yx x ps))=>PQ v (Yx x ps) V hv Ue.o Uc.o (P3 _ _) (Qh.o V h);rw[Qx.o]at Qo;have Qz:=Z λ(V:G) (h:Bl P V)=>ZH V (JX HT.o (Bt M.o h));have a:Bl P P:=BB _ _;obtain⟨f,g,j,k⟩:=(y.below a).cq;have l:=(Q.bel a).cell;have n:=(nM.bel a).cell;go_wp2_with(first
    |(go_at_call 16;refine(H1.o _ a).mono ?_;clear H1;rintro e x3 ⟨rfl,b⟩;replace a:=Bt a b;clear b f g j k l n;obtain⟨f,g,j,k⟩:=(y.below a).cq;have l:=(Q.bel a).cell;have n:=(nM.bel a).cell)
    |(go_at_call 21;refine(H2.o _ a).mono ?_;clear H2;rintro e x4 ⟨v2,rfl,bf,b⟩;replace a:=Bt a b;clear b f g j k l n;obtain⟨f,g,j,k⟩:=(y.below a).cq;have l:=(Q.bel a).cell;have n:=(nM.bel a).cell;have U:=bf;clear bf)
    |(go_at_call 37;refine(H3.o _ a _ U).mono ?_;clear H3;rintro e x5 ⟨v3,rfl,bg,b⟩;replace a:=Bt a b;clear U;clear b f g j k l n;obtain⟨f,g,j,k⟩:=(y.below a).cq;have l:=(Q.bel a).cell;have n:=(nM.bel a).cell;have U:=bg;clear bg)
    |(go_at_call 17;refine(H4.o _ a _ U).mono ?_;clear H4;rintro e x6 ⟨rfl,b⟩;replace a:=Bt a b;clear b U f g j k l n;obtain⟨f,g,j,k⟩:=(y.below a).cq;have l:=(Q.bel a).cell;have n:=(nM.bel a).cell)
    |(go_at_call 13;refine(H5.o _ a).mono ?_;clear H5;rintro e x7 ⟨rfl,b⟩;replace a:=Bt a b;clear b f g j k l n;obtain⟨f,g,j,k⟩:=(y.below a).cq;have l:=(Q.bel a).cell;have n:=(nM.bel a).cell)
    |(go_at_call 38;refine(H6.o _ a).mono ?_;clear H6;rintro e x8 ⟨v6,rfl,bh,b⟩;replace a:=Bt a b;clear b f g j k l n;obtain⟨f,g,j,k⟩:=(y.below a).cq;have l:=(Q.bel a).cell;have n:=(nM.bel a).cell;have U:=bh;clear bh)
    |(go_at_call 14;refine(H7.o _ a _ U).mono ?_;clear H7;rintro e x9 ⟨rfl,b⟩;replace a:=Bt a b;clear b U f g j k l n;obtain⟨f,g,j,k⟩:=(y.below a).cq;have l:=(Q.bel a).cell;have n:=(nM.bel a).cell)
    |(go_at_call 13;refine(H8.o _ a).mono ?_;clear H8;rintro e bk ⟨rfl,b⟩;replace a:=Bt a b;clear b f g j k l n;obtain⟨f,g,j,k⟩:=(y.below a).cq;have l:=(Q.bel a).cell;have n:=(nM.bel a).cell)
    |(go_at_call 21;refine(H9.o _ a).mono ?_;clear H9;rintro e bm ⟨v9,rfl,bi,b⟩;replace a:=Bt a b;clear b f g j k l n;obtain⟨f,g,j,k⟩:=(y.below a).cq;have l:=(Q.bel a).cell;have n:=(nM.bel a).cell;have U:=bi;clear bi)
    |(go_at_call 39;refine(Uh.o _ a _ U).mono ?_;clear Uh;rintro e bn ⟨bj,rfl,bd,b⟩;replace a:=Bt a b;clear U;clear b f g j k l n;obtain⟨f,g,j,k⟩:=(y.below a).cq;have l:=(Q.bel a).cell;have n:=(nM.bel a).cell;have U:=bd;clear bd)
    |(go_at_call 14;refine(Qo.o _ a _ U).mono ?_;clear Qo;rintro e bt ⟨rfl,b⟩;replace a:=Bt a b;clear b U f g j k l n;obtain⟨f,g,j,k⟩:=(y.below a).cq;have l:=(Q.bel a).cell;have n:=(nM.bel a).cell)
    |(go_at_call 19;refine(Qz.o _ a).mono ?_;clear Qz;rintro e bu ⟨rfl,b⟩;replace a:=Bt a b;clear b f g j k l n;obtain⟨f,g,j,k⟩:=(y.below a).cq;have l:=(Q.bel a).cell;have n:=(nM.bel a).cell))
   go_ret;exact⟨J,Bt M.o a⟩

