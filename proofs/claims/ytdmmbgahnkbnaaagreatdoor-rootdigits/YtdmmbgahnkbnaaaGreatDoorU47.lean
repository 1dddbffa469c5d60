import Derived.Test.YtdmmbgahnkbnaaaGreatDoorU44
import Derived.Test.YtdmmbgahnkbnaaaGreatDoorU46
set_option linter.all false
open Go.Proofs.Tryz renaming prog->B
open Go.Value renaming slice->D,bool->G,int->N
open Go renaming World->H,Value->I,Calls->R
open Go.Obj renaming cells->K
set_option maxRecDepth 99999
set_option maxHeartbeats 0
namespace Go.Proofs.YtdmmbgahnkbnaaaGreatDoor
open Go.RowKit Go.Shelf
attribute [local go_sem] Oper.semAt_some
namespace M3
open Go.RowKit Go.Shelf Go.Lib Go.Sort
section
variable {w:World} {g n:Nat} {os:Array Obj} {cur:Array Value} {e:TypeId} {fr:Nat × Nat}
theorem ru(F:Array I)(a:w.heap[g]?=some (K cur e fr)):(grow (putRow id (Sort.ahead w n) g 0 F) os).heap[g]?=some (K (putCells id 0 F cur) e fr):=by
 grind[heap_grow_old,putRow,mapBlock,Sort.ahead,onCells]
theorem aF(F:Array I):w.grownBy (grow (putRow id (Sort.ahead w n) g 0 F) os) (some g):=by
 refine⟨rfl,rfl,rfl,DH,λk hk a=>?_⟩;grind[heap_grow_old,putRow,mapBlock,Sort.ahead]
theorem rx(cur F:Array I)(h:F.size<=cur.size):(putCells id 0 F cur).toList.take F.size=F.toList:=by
 apply List.ext_getElem?;intro j;grind[putCells]
end
def aG{α:Type}(d:Array α)(m:Nat)(h:d.size=m):d.extract 0 m=d:=by subst h;simp
theorem ry{α:Type}[Inhabited α](enc:α->List I)(hk:∀x,(enc x).length=11)(d:Array α)(j:Nat)(b:j<d.size):((flatK enc 11 d).toList.drop (j*11)).take 11=enc d[j]!:=by
 apply List.ext_getElem?;intro c;by_cases a:c<11
 . rw[CT a,Fm,Ft];grind[flatK]
 grind
theorem sC(base n:Nat)(V:H)(u:I)(cs:List I)(rs:List RtQ)(hn:rs.length=n)(h0:0<n)(U:V.ownsRow base 46 11 u n cs)(ap:Dx V cs rs)(p:base<=V.heap.size)(an:∀r∈rs,r.Ok)(ay:n<4611686018427387904)
(hO:∀r∈rs,∀s∈rs,∀(W:H) (X vs:I),JI W X r->JI W vs s->R B 24 #[X,vs] W λe w'=>e=.returned (N .i64 (r.ord s))/\RowKit.Below W.heap.size W w'):
 R B 52 #[u,.func (.func 24) #[] #[]] V λe w'=>e=.returned (.tuple #[])/\∃Q P,w'.ownsRow base 46 11 u n Q/\Dx w' Q P/\(P.Perm rs/\P.Pairwise λr s=>¬s.ord r<0)/\∀q w0,q<=base->RowKit.Below q w0 V->RowKit.Below q w0 w':=by
 rcases U.2 with⟨_,h⟩|⟨g,cap,cur,rfl,hg,S,ae,am,ah,az⟩
 . omega
 haveI:Inhabited (Fin n):=⟨⟨0,h0⟩⟩
 have Qh:g<V.heap.size:=(Ab.1 S).1;obtain⟨f,T⟩:∃f:Fin n->RtQ,f=λi=>rs[i.1]'(by have:=i.2;omega):=⟨_,rfl⟩;obtain⟨enc,he⟩:∃enc:Fin n->List I,enc=λi=>(cs.drop (i.1*11)).take 11:=⟨_,rfl⟩;have C:∀i,f i∈rs:=λi=>by grind
 have t:∀i,JI V (.agg (enc i).toArray) (f i):=λi=>by
  rw[he,T];exact ap.2 i.1 _ (AQ _)
 have hk:∀i,(enc i).length=11:=λi=>by grind
 have h1:∀i,∀v∈enc i,v.oneCell'=true:=λi v hv=>(JI.one (t i)).2 v (by simpa using hv);have kp:∀(m:Nat) (os:Array Obj) (l:Array (Fin n)),Kp V (sortWorldK enc 11 V g 0 m l os):=λm os l=>by
  have o:=aF (w:=V) (g:=g) (n:=m) (os:=os) (flatK enc 11 l);exact KeepR.kpo ⟨o.os,o.tape,o.output,o.size,λb p _ L=>o.block b p λe=>by
   grind⟩
 obtain⟨d,M⟩:∃d:Array (Fin n),d=Array.ofFn (λi:Fin n=>i):=⟨_,rfl⟩;have z:d.size=n:=by rw[M];simp
 have Qi:∀j (a:j<n),d[j]! = ⟨j,a⟩:=λj a=>by
  rw[getElem!_pos d j O];subst M;simp
 have hH:HoldsK enc 11 V g 0 d:=λj a=>by
  rw[size_flatK,z]at a;have Qj:j/11<n:=O
  have aq:j<cs.length:=by rw[U.1];omega
  rw[get_flatK enc 11 d j O,Qi _ Qj];grind[World.frozen?,World.cell?]
 have Qg:CmpLays B 24 #[] enc 11 (λi j=>(f i).ord (f j)) g 0 d.size V:=λm os l _ x y=>by
  refine(rp (hO _ (C x) _ (C y) (sortWorldK enc 11 V g 0 m l os) _ _ ((kp m os l).root (t x)) ((kp m os l).root (t y))) λw' h=>by cases h.1).mono ?_;rintro e w' ⟨⟨rfl,p⟩,ai⟩;exact⟨rfl,grown_of p ai⟩
 have eg:∀args w,(callFunc 24 args).run B w=.ok (.enter 24 args) w:=Bo Tryz.func24 (by kernel_rfl) rfl;have E:=AnyQ.slices_SortFunc Tryz.sortRt 11 (λw=>by kernel_rfl) (λw=>by kernel_rfl) enc hk h1 (λi j=>(f i).ord (f j)) (rL f λi=>an _ (C i)) 24 #[] g 0 cap d V eg Qg hH Qh O;rw[z]at E;change R B 52 _ _ _ at E
 refine E.mono ?_;rintro e w' ⟨rfl,c,m,os,hp,hs,rfl⟩;have F:c.size=n:=hp.1.trans z;refine⟨rfl,(flatK enc 11 c).toList,c.toList.map f,⟨by simp[F],Or.inr ⟨g,cap,_,rfl,hg,ru _ S,ae,am,by simp[putCells,ah],?_⟩⟩,⟨DH,λj r e=>?_⟩,⟨?_,?_⟩,λq w0 hq hw=>?_⟩
 . grind[rx,size_flatK]
 . rw[Fg]at e;obtain⟨x,A,rfl⟩:=CP.1 e;rw[Ft]at A;obtain⟨a,A⟩:=Ab.1 A;rw[ry enc hk c j a,getElem!_pos c j a,A];exact(kp m os c).root (t x)
 . have h:=hp.2.2;rw[aG c n F,aG d n z]at h;have L:=h.map f;have e:d.toList.map f=rs:=by
    subst M;refine List.ext_getElem (by simp[hn]) λi i1 i2=>?_;simp[T]
   rw[e]at L;exact L
 . rw[List.pairwise_map,List.pairwise_iff_getElem];intro i j hi a aj;have h:=hs i j (At _) aj (by rw[<-F];simpa using a);grind[ltOf]
 . exact hw.grown (aF _) (Ac hq p) λk hk=>by
    grind
end M3
namespace M3
open Go.RowKit Go.Shelf Go.Lib
def sF(p:Option Addr)(cap:Nat)(a:I)(w:H):
 R B 200 #[D p 0 cap,N .i64 0,N .i64 0,a] w λe w'=>e=.returned (.tuple #[])/\w'=w:=by
 go_enter Tryz.func200,Tryz.ntmps200
 go_wp2;refine wp_loop_rounds 1 ?_;rw[rounds_succ];go_wp2;go_end0;exact⟨rfl,rfl⟩
def sG(p:Option Addr)(cap:Nat)(b:Int)(a:I)(w:H):
 R B 123 #[D p 0 cap,N .i64 0,N .i64 0,N .i64 b,a] w λe w'=>e=.returned (.tuple #[])/\w'=w:=by
 have hi:=λW=>sF p cap a W;go_enter Tryz.func123,Tryz.ntmps123
 go_wp2;refine wp_loop_rounds 1 ?_;rw[rounds_succ];go_wp2_with(go_at_call 200;refine(hi _).mono ?_;rintro e w' ⟨rfl,rfl⟩)
 (try simp only[Exit.inBlock,Exit.then]);refine BC (results_none rfl _ _ _) rfl ?_
 exact⟨rfl,rfl⟩
def sH(p:Option Addr)(cap:Nat)(a:I)(w:H):
 R B 52 #[D p 0 cap,a] w λe w'=>e=.returned (.tuple #[])/\w'=w:=by
 have hp:=λb W=>sG p cap b a W;have L:=Tryz.sortRt;have hl:∀W,R B 124 #[N .u64 0] W λe w'=>e=.returned (N .i64 (Lib.bitLen 0:Nat))/\w'=W:=λW=>by
  have h:=Any.bits_Len (SlLaysF0.n15.bits (P:=B) (ρ:=Tryz.sortRt_ren) { L with }) 0 W O O;exact h
 clear L;go_enter Tryz.func52,Tryz.ntmps52
 go_wp2_with(first|(go_at_call 124;refine(hl _).mono ?_;rintro e w' ⟨rfl,rfl⟩)|(go_at_call 123;refine(hp _ _).mono ?_;rintro e w' ⟨rfl,rfl⟩))
 go_end0;exact⟨rfl,rfl⟩
end M3
namespace M3
structure OrOk(r s:RtQ):Prop where
 ex:∃K A l X J,RzOk J X r/\RzOk J X s/\SnOk K A l X r s.w
 sg:-1<=s.sg/\s.sg<=1
 sn:-1000000<=r.sign s.w/\r.sign s.w<=1000000
def EM(k ka:Nat)(a:List Rat × Nat):List RtQ:=(Dk a.1 k (-((2:Rat)^YE (Yh a.1) ka 0)) ((2:Rat)^YE (Yh a.1) ka 0)).map (KH k a.2 ((Y7 a.1 (Jb a.1)).getD 0 []))
theorem Rw(k ka:Nat)(v:I)(p:List Rat)(w:H)(h:Jd w v p)(L:List (List Rat × Nat))(M:∀(V:H) (x:I),Jd V x p->R B 50 #[x] V λe w'=>∃u,e=.returned u/\EF true V.heap.size w' u L/\Bl V w')
(Q:∀q t,(q,t)∈L->∃K A l X KK hh J i f,RoOk K A l X KK k hh J ka i f q t)
(hl:L.length<=1000000)(hF:(L.flatMap (EM k ka)).length<=1000000)
(E:∀r∈L.flatMap (EM k ka),r.Ok)(C:∀r∈L.flatMap (EM k ka),∀s∈L.flatMap (EM k ka),OrOk r s):
 R B 12 #[v] w λe w'=>∃u cs b,e=.returned u/\w'.ownsRow w.heap.size 46 11 u (L.flatMap (EM k ka)).length cs/\Dx w' cs b/\(b.Perm (L.flatMap (EM k ka))/\b.Pairwise λr s=>¬s.ord r<0)/\Bl w w'/\(L=[]->u=D none 0 0):=by
 refine rK v p w h L M (EM k ka) (λb=>b.Perm (L.flatMap (EM k ka))/\b.Pairwise λr s=>¬s.ord r<0) (λq t hq V pa pl pc hp=>?_) hl hF λbase V u cs j o F=>?_
 . obtain⟨K,A,l,X,KK,hh,J,i,f,h⟩:=Q q t hq;refine(rH K A l X KK k hh J ka t i f pa pl pc q V hp h).mono ?_;rintro e w' ⟨v,n,cs,d,m,h3,h4,h5⟩;grind[EM]
 . by_cases z:((L).flatMap (EM k ka)).length=0
   . have y:(L).flatMap (EM k ka)=[]:=Ak.1 z;have eu:∃a c,u=D a 0 c:=by
      rcases j.2 with⟨e,_⟩|⟨g,cap,cur,e,_⟩
      . exact⟨_,_,e⟩
      . grind
     obtain⟨a,c,rfl⟩:=eu;refine(sH a c _ V).mono ?_;rintro e w' ⟨d,rfl⟩;refine⟨d,cs,_,j,o,⟨List.Perm.refl _,?_⟩,λq w0 _ S=>S⟩;rw[y];exact List.Pairwise.nil
   . exact sC base _ V u cs _ rfl O j o F E O (λr P s hs W vr vs d m=>by
      obtain⟨⟨K,A,l,X,J,T,U,i3⟩,i4,i5⟩:=C r P s hs;exact Zk K A l X J vr vs r s W d m T U i3 i4 i5)
theorem Rx(i:Nat):(1:Rat)<=2^i:=by
 induction i with
 |zero=>grind
 |succ i a=>rw[Rat.pow_succ];grind
theorem aH{B:Rat}:∀(n i:Nat),B<=2^(i+n)->(¬(2:Rat)^YE B n i<B)/\i<=YE B n i/\YE B n i<=i+n:=by
 intro n;induction n with
 |zero=>
  intro i h;grind[YE]
 |succ n a=>
  intro i h;grind[YE]
theorem Ob{k:Nat}{x:Rat}(h:DQ k x):x<=2^(64*k):=by
 have p0:=YM (64*k);rcases JX x 0 with a|a
 . grind
 . have d:(1:Rat)<=(x.den:Rat):=by exact_mod_cast x.den_pos
   have e:=Hl x;have f:x<=(x.num:Rat):=by
    have:=Rat.mul_le_mul_of_nonneg_left d a;rw[Rat.mul_one,e]at this;exact this
   have b:x.num<=((2^(64*k):Nat):Int):=by
    have c:x.num.natAbs<Y^k:=h.1;rw[show Y=2^64 by decide,<-C5]at c;omega
   have g:(x.num:Rat)<=(((2^(64*k):Nat):Int):Rat):=by exact_mod_cast b
   grind
section
variable {p:List Rat} {M:Nat}
def sI(tp:Jc p=p)(p0:p≠[])(a:Cd M p)(i:Nat):DQ (M+M) (cf p i/cf p (p.length-1)):=(a.smq i).div2 (a.smq _) (Jq tp p0)
theorem sJ(tp:Jc p=p)(p0:p≠[])(a:Cd M p)(n:Nat):DQ (M+M) (EA p n):=by
 have hM:=a.pos;induction n with
 |zero=>exact DQ.zero _ O
 |succ n c=>
  have b:=(sI tp p0 a n).abs;grind[EA,Ij]
def aI(tp:Jc p=p)(p0:p≠[])(a:Cd M p):DQ (M+M+2) (Yh p):=by
 unfold Yh;exact((sJ tp p0 a _).add2 (show DQ 1 1 from⟨Sm.one 1 O,Sm.one 1 O⟩)).mono O
def sK(tp:Jc p=p)(p0:p≠[])(a:Cd M p){X:Nat}(hM:M<=100000000)(hX:M+M+3<=X)(hX2:X+X+2<=1000000000):ArOk X (64*(M+M+2)) p:=by
 have b:=aI tp p0 a;have hs:=aH (B:=Yh p) (64*(M+M+2)) 0 (by rw[AW];exact Ob b);exact⟨tp,p0,a.sqs O,a.monS tp O,Sq.of b O,λi hi=>(Dy.two (H:=64*(M+M+2)) hi).smq O,hX2,hs.1⟩
end
end M3
namespace M3
variable{KK hh:Nat}
theorem aJ{w:List Rat}:∀(k j:Nat) (a b:Rat),Dy hh j a->Dy hh j b->∀s∈Dk w k a b,Dy hh (j+k) s.1/\Dy hh (j+k) s.2:=by
 intro k;induction k with
 |zero=>
  intro j a b c d s hs;grind[Dk]
 |succ k f=>
  intro j a b c d s hs;rw[Dk]at hs;split at hs
  . cases hs
  . split at hs
    . rw[List.mem_singleton]at hs;subst hs;exact⟨c.le O,d.le O⟩
    . have e:=Dy.mid c d;rw[show j+(k+1)=j+1+k by omega];rcases CE.1 hs with h|h
      . exact f (j+1) a _ c.up e s h
      . exact f (j+1) _ b e d.up s h
def sL{X k J t:Nat}{w:List Rat}{a b:Rat}(h:SetOk k w a b)(e:Wh KK w)(l2:2<=w.length)(f:Dy hh J a)(g:Dy hh J b)(hX:hh+(J+k+1)<64*X)(j:Sm X (YN w))(sz:KK+w.length*(X+X+2)+X+X+KK<=1000000000)(hX2:X+X+2<=1000000000):SlOk KK X k ⟨a,b,w,DV (ev w b),t⟩:=by
 have hl:=ZJ e;have hs:=(RZ t h).2;refine⟨h.spn.tw,h.spn.w0,hl,?_,l2,j,λi hi=>?_,?_,sz⟩
 . have hp:=h.pos;rw[hl]at hp;show 0<YN w;exact_mod_cast hp
 . obtain⟨d1,d⟩:=OR i J ⟨a,b,w,DV (ev w b),t⟩ f g;have ew:=(OS i ⟨a,b,w,DV (ev w b),t⟩).1;have hle:w.length*(X+2)<=w.length*(X+X+2):=Ah _ O;exact⟨⟨by rw[ew];exact e,d1.smq O,d.smq O,DG,hX2⟩,(Dy.mid d1 d).smq O⟩
 . rintro(c|c)
   . exact absurd (Int.lt_of_lt_of_le c hs.one) (Int.lt_irrefl _)
   . exact hs.low c
theorem sM{K A l X k ka t:Nat}{p:List Rat}(hp:PrOk k ((2:Rat)^YE (Yh p) ka 0) p)(a:ArOk X ka p)(m:∀i,Sq (Gt p i))(f:ChOk K p (Jb p))(j:RowOk A l (Y7 p (Jb p)))(hk:YE (Yh p) ka 0<=hh)
(n:Wh KK (Jo p))(l2:2<=p.length)(e:Sm X (YN (Jo p)))(hX:hh+(k+k+1)<64*X)(g:cw p (-((2:Rat)^YE (Yh p) ka 0))-cw p ((2:Rat)^YE (Yh p) ka 0)<=1000000)
(sz:A+l*(X+2)+X+A<=10000000000)(sz2:KK+p.length*(X+X+2)+X+X+KK<=1000000000):∃G D,RoOk K A l X KK k hh (k+k+1) ka G D p t:=by
 obtain⟨G,D,hA,r,hD,d,o,q⟩:=hp.end_;have ll:(Jo p).length=p.length:=JJ hp.tw;refine⟨G,D,a.sp,m,f,j,sz,hX,a.x2,a,O,hk,rI hp.tw hp.w0 hp.sq,hA,Rat.le_of_lt d,?_,g,λs hs=>?_⟩
 . grind
 . rw[Zy];have c:Dy hh 0 ((2:Rat)^YE (Yh p) ka 0):=Dy.two hk;obtain⟨d1,b⟩:=aJ k 0 _ _ c.neg c s hs;rw[AW]at d1 b;exact sL (hp.span hs).2.2.2 n O d1 b O e (by rw[ll];exact sz2) a.x2
end M3
theorem sN{w:List Rat}{H D c:Rat}(tw:Jc w=w)(w0:w≠[])(g:c≠0):Eo (DM c w) H D↔Eo w H D:=by
 have f:∀x z:Rat,x<=z->(cw (DM c w) z+2<=cw (DM c w) x↔cw w z+2<=cw w x):=λx z a=>by
  grind[OM,JG,Hk,RK,cw]
 exact⟨λh x z b d a e=>h x z b d a ((f x z a).2 e),λh x z b d a e=>h x z b d a ((f x z a).1 e)⟩
theorem sO{w:List Rat}{H D:Rat}(tw:Jc w=w)(w0:w≠[]):Eo (Jo w) H D↔Eo w H D:=by
 grind[Xz,sN]
theorem sR{w:List Rat}{H D:Rat}(w0:w≠[])(hl:w.length<=2):Eo w H D:=λx z _ _ _ e=>by
 have a:cw w x<=(JD (Jw w) x).length-1:=OL _;grind[RJ,JD]
theorem sS{w:List Rat}(w0:w≠[])(x:Rat):cw w x<=w.length:=by
 have a:cw w x<=(JD (Jw w) x).length-1:=OL _;grind[RJ,JD]
namespace M3
variable{E a b ka:Nat}
theorem YI(a b:Nat):(2:Rat)^(a+b)=2^a*2^b:=by
 grind
theorem Oc{K g:Nat}:∀p:List Rat,(∀c∈p,Yg c<=2^K)->GT (2^g) p<=2^(K+(g+1)*p.length)
 |[],_=>Rat.le_of_lt (YM _)
 |c::p,h=>by
  have a:=Oc (g:=g) p λx b=>h x (A5 _ b);have d:=h c AH;have e:=Rat.mul_le_mul_of_nonneg_left a (Rat.le_of_lt (YM g));rw[GT,Ai,show K+(g+1)*(p.length+1)=g+(K+(g+1)*p.length)+1 by rw[CU];omega,Rat.pow_succ,YI g];have f:(2:Rat)^K<=2^g*2^(K+(g+1)*p.length):=by
   rw[<-YI,show g+(K+(g+1)*p.length)=K+(g+(g+1)*p.length)by omega,YI];have:=Rat.mul_le_mul_of_nonneg_left (Rx (g+(g+1)*p.length)) (Rat.le_of_lt (YM K));rw[Rat.mul_one]at this;exact this
  grind
theorem Od{K g:Nat}:∀p:List Rat,(∀c∈p,Yg c<=2^K)->Ei (2^g) p<=2^(K+(g+1)*p.length)
 |[],_=>Rat.le_of_lt (YM _)
 |c::p,h=>by
  have a:∀x∈p,Yg x<=2^K:=λx d=>h x (A5 _ d);have b:=Od (g:=g) p a;have e:=Oc (g:=g) p a;have f:=Rat.mul_le_mul_of_nonneg_left b (Rat.le_of_lt (YM g));rw[Ei,Ai,show K+(g+1)*(p.length+1)=g+(K+(g+1)*p.length)+1 by rw[CU];omega,Rat.pow_succ,YI g];have i:(2:Rat)^(K+(g+1)*p.length)<=2^g*2^(K+(g+1)*p.length):=by
   have:=Rat.mul_le_mul_of_nonneg_right (Rx g) (Rat.le_of_lt (YM (K+(g+1)*p.length)));rw[CM]at this;exact this
  grind
def Wh.abs{K:Nat}{p:List Rat}(h:Wh K p):∀c∈p,Yg c<=2^(64*(K+1)):=by
 obtain⟨zs,e,d⟩:=Wh.zs h;intro c a;rw[e]at a;obtain⟨z,b,rfl⟩:=Fh.1 a;refine Ob (DQ.abs ?_);have hk:=(d z b).mono (show K<=K+1 by omega);exact⟨by rw[C1];exact hk,by rw[FH];exact Sm.one _ O⟩
theorem Kv(h:a<=b):(2:Rat)^a<=2^b:=by
 obtain⟨c,rfl⟩:∃c,b=a+c:=⟨b-a,O⟩;rw[YI];have:=Rat.mul_le_mul_of_nonneg_left (Rx c) (Rat.le_of_lt (YM a));grind
theorem aK{x y:Rat}(b:0<=x)(c:x<=2^E)(a:y<=2^E):x*y<=2^(E+E):=by
 rw[YI];have d:=Rat.mul_le_mul_of_nonneg_left a b;grind[Rat.mul_le_mul_of_nonneg_right,Rat.le_trans]
theorem sT{K g:Nat}{w:List Rat}(tw:Jc w=w)(sw:Db w)(c:Wh K w)(hs:Wh K (Jb w))(hl:3<=w.length)(k:w.length<=100)(hE:64*((K+1)*(w.length+w.length)+1)+(g+1)*w.length<=E):∃D,Eo w (2^g) D/\0<=D/\D<=2^(E+E+1):=by
 have w0:w≠[]:=λe=>by rw[e]at hl;simp at hl
 have l1:=YU w0;have a:(0:Rat)<=2^g:=Rat.le_of_lt (YM g);obtain⟨u,v,l,hv,m,n,hA⟩:=pS tw sw c hs hl k a;have o:(K+1)*(w.length+(Jb w).length)<=(K+1)*(w.length+w.length):=Ah _ O;have p:(g+1)*u.length<=(g+1)*w.length:=Ah _ m;have q:(g+1)*v.length<=(g+1)*w.length:=Ah _ n;have r:(g+1)*(Jb w).length<=(g+1)*w.length:=Ah _ O;have s:K+1<=(K+1)*(w.length+w.length)+1:=by
  have:=Ah (K+1) (show 1<=w.length+w.length by omega);omega
 have d:=Rat.le_trans (Oc (g:=g) u (Wh.abs l)) (Kv (b:=E) O);have f:=Rat.le_trans (Oc (g:=g) v (Wh.abs hv)) (Kv (b:=E) O);have i:=Rat.le_trans (Od (g:=g) w (Wh.abs c)) (Kv (b:=E) O);have j:=Rat.le_trans (Od (g:=g) (Jb w) (Wh.abs hs)) (Kv (b:=E) O);have c1:=aK (Mi a u) d i;have c2:=aK (Mi a v) f j;have t:=Rat.mul_nonneg (Mi a u) (Mj a w);have x:=Rat.mul_nonneg (Mi a v) (Mj a (Jb w));refine⟨_,hA,DG,?_⟩;rw[Rat.pow_succ];grind
theorem Oe(h:a<b):(2:Rat)^a<2^b:=by
 have c:=Kv (show a+1<=b from h);have d:=YM a;rw[Rat.pow_succ]at c;grind
def Wh.le{K:Nat}{p:List Rat}(h:Wh K p)(i:Nat):cf p i<=2^(64*(K+1)):=by
 obtain⟨z,a,b⟩:=h i;rw[b];exact Ob ⟨by rw[C1];exact a.mono O,by rw[FH];exact Sm.one _ O⟩
theorem sU{K h k:Nat}{w:List Rat}(tw:Jc w=w)(w0:w≠[])(sq:Db w)(d:Wh K (Jo w))(hs:Wh K (Jb (Jo w)))(pos:0<cf w (w.length-1))(hl:w.length<=100)(bnd:Yh w<=2^h)(hE:64*((K+1)*(w.length+w.length)+1)+(h+2)*w.length<=E)(hk:E+E+h+2<k):PrOk k (2^h) w:=by
 have ll:(Jo w).length=w.length:=JJ tw;obtain⟨c,c0,g⟩:=Xz tw;have sl:Db (Jo w):=by rw[g];exact sq.scl (λe=>by grind)
 have i:Jo w≠[]:=λe=>w0 (Ak.1 (by rw[<-ll,e];rfl));have w1:0<w.length:=Ae.2 w0;have hD:∃D,Eo (Jo w) (2^(h+1)) D/\0<=D/\D<=2^(E+E+1):=by
  by_cases j:3<=w.length
  . grind[sT,J4]
  . exact⟨0,sR i O,Rat.le_refl,Rat.le_of_lt (YM _)⟩
 obtain⟨D,hA,d0,f⟩:=hD;have b:(2:Rat)^h+2^h=2^(h+1):=by rw[Rat.pow_succ];grind
 have l:K+1<=(K+1)*(w.length+w.length):=by
  have:=Ah (K+1) (show 1<=w.length+w.length by omega);omega
 refine⟨tw,w0,sq,⟨K,d⟩,pos,bnd,2^(h+1),D,(sO tw w0).1 hA,hA,d0,Oe O,?_,?_⟩
 . rw[b];have a:=Rat.mul_le_mul_of_nonneg_right f (Rat.le_of_lt (YM (h+1)));rw[<-YI]at a;exact Kn a (Oe O)
 . rw[b];have a:=Rat.mul_le_mul_of_nonneg_right (Wh.le d ((Jo w).length-1)) (Rat.le_of_lt (YM (h+1)));rw[<-YI]at a;exact Kn a (Oe O)
def aL(k ka:Nat)(w:List Rat)(t:Nat):EM k ka (w,t)=Mm k ((2:Rat)^YE (Yh w) ka 0) w t:=by
 unfold EM Mm;rw[Zy];rfl
def sV{k t:Nat}{w:List Rat}(h:PrOk k ((2:Rat)^YE (Yh w) ka 0) w):RtsP (Jo w) t (EM k ka (w,t)):=by
 rw[aL];exact h.rts t
def sW{k:Nat}{L:List (List Rat × Nat)}(h:∀a∈L,PrOk k ((2:Rat)^YE (Yh a.1) ka 0) a.1):∀r∈L.flatMap (EM k ka),r.Ok/\∃a∈L,r.w=Jo a.1/\r.tm=a.2:=λr b=>by
 obtain⟨a,d,b⟩:=List.mem_flatMap.1 b;have c:=(sV (t:=a.2) (h a d)).all r b;exact⟨c.1,a,d,c.2⟩
end M3
namespace M3
theorem rise_of{all rs:List RtQ}(a:∀r∈all,r.Ok)(c:all.Pairwise λr s=>¬ ∀x,r.S x=s.S x)(hp:rs.Perm all)(hs:rs.Pairwise λr s=>¬s.ord r<0):rs.Pairwise λr s=>EQ r.S s.S:=by
 have b:rs.Pairwise λr s=>¬ ∀x,r.S x=s.S x:=(hp.pairwise_iff fun {r s} h e=>h λx=>(e x).symm).2 c;have h:=hs.and b;refine List.Pairwise.imp_of_mem (fun {r s} d g f=>?_) h;have j:=a r (hp.mem_iff.1 d);have k:=a s (hp.mem_iff.1 g);rcases k.order j with⟨e,i⟩|⟨e,i⟩|⟨e,i⟩
 . exact absurd O f.1
 . exact i
 grind
theorem sX{k ka t:Nat}{w:List Rat}(h:PrOk k ((2:Rat)^YE (Yh w) ka 0) w):((EM k ka (w,t)).length:Int)=nA w:=by
 obtain⟨G,D,hA,_,hD,d,b,_⟩:=h.end_;have a:=ZK h.tw h.w0 h.sq h.tw h.w0 (Dv.refl w) h.bnd;have c:=YM (YE (Yh w) ka 0);unfold EM;rw[CR];show((Dk w k (-((2:Rat)^YE (Yh w) ka 0)) ((2:Rat)^YE (Yh w) ka 0)).length:Int)=nA w;generalize (2:Rat)^YE (Yh w) ka 0=H at *;have e:=JL h.tw h.w0 (show -H<=H by grind);rw[ZB h.tw h.w0 hA k (-H) H ⟨DG,DG⟩ ⟨DG,DG⟩ DG DG,<-a];omega
theorem aM{k ka:Nat}:∀ {L:List (List Rat × Nat)},(∀a∈L,PrOk k ((2:Rat)^YE (Yh a.1) ka 0) a.1)->((L.flatMap (EM k ka)).length:Int)=(L.map λa=>(nA a.1:Int)).sum
 |[],_=>rfl
 |a::L,h=>by
  have d:((EM k ka a).length:Int)=nA a.1:=sX (t:=a.2) (h a AH);have e:=aM (L:=L) λb c=>h b (A5 _ c);grind
end M3
section
open M3
structure PwOk(C n:Nat)(w:List Rat):Prop where
 tw:Jc w=w
 l2:2<=w.length
 ln:w.length<=n
 sq:Db w
 mon:Js w=w
 cd:Cd C w
def Dj(C:Nat):Nat:=64*(C+C+2)
def eO(C n:Nat):Nat:=64*((C+2)*(n+n)+1)+(Dj C+2)*n
def kO(C n:Nat):Nat:=eO C n+eO C n+Dj C+3
structure NmOk(C n X:Nat):Prop where
 hn:n<=100
 hC:C<=100000000
 hX:Dj C+(kO C n+kO C n+1)+kO C n+64*C+64<64*X
 x2:X+X+2<=1000000000
 ch:4*((n+2)*((C+2)*(n+n+1)+1))<=1000000000
 sz:(C+2)*(n+n+1)+n*(X+2)+X+(C+2)*(n+n+1)<=10000000000
 sz2:C+1+n*(X+X+2)+X+X+(C+1)<=1000000000
def Wh.mono{K L:Nat}{p:List Rat}(h:Wh K p)(hl:K<=L):Wh L p:=λi=>by
 obtain⟨z,a,b⟩:=h i;exact⟨z,a.mono hl,b⟩
theorem Wh.slope{K:Nat}{p:List Rat}(h:Wh K p)(hl:p.length<=1000000000):Wh (K+1) (Jb p):=λi=>by
 unfold Jb;rw[Yp,Kz];by_cases hi:p.length<=i+1
 . exact⟨0,Sm.zero _,by rw[Ym hi,A7];rfl⟩
 . obtain⟨z,a,b⟩:=h (i+1);refine⟨z*((i+1:Nat):Int),a.mul ?_,by rw[b,As,AE]⟩;grind[Sm,Y]
def Wh.cd{K:Nat}{p:List Rat}(h:Wh K p)(c:1<=K):Cd K p:=⟨1,DJ,Sm.one _ c,λi=>by
 obtain⟨z,a,b⟩:=h i;exact⟨z,by rw[b,<-Cj ((z:Int):Rat)];simp,a⟩⟩
def Cd.whl{C:Nat}{w:List Rat}(h:Cd C w)(tw:Jc w=w)(w0:w≠[]):Wh C (Jo w):=QT tw w0 h.ln
def aN{K:Nat}{p q:List Rat}(h:M3.ChOk K p q)(p0:p≠[]):RowOk (Da K p q) (max p.length q.length) (Y7 p q):=by
 have hs:=Chn.start h.tp h.tq h.lp h.lq h.bd.2.2.1;refine⟨M3.ZR h (λa b k _=>⟨k.wa,k.la⟩) _ (Jo p) (Jo q) (Aa _) hs λe=>p0 (Ak.1 ?_),?_⟩
 . rw[<-JJ h.tp,e];rfl
 . have c:=Wl _ (Jo p) (Jo q) (Aa _) (J4 q);rw[JJ h.tq]at c;have:=h.ln;show(EO (Jo p) (Jo q)).length<=_;omega
section
variable {C n X:Nat} {w:List Rat}
def PwOk.w0(h:PwOk C n w):w≠[]:=λe=>by have:=h.l2;rw[e]at this;simp at this
def PwOk.lead(h:PwOk C n w):cf w (w.length-1)=1:=MX h.tw h.w0 h.mon
def PwOk.wh(h:PwOk C n w):Wh C (Jo w):=h.cd.whl h.tw h.w0
theorem PwOk.arn(h:PwOk C n w):Yh w<=2^YE (Yh w) (Dj C) 0/\YE (Yh w) (Dj C) 0<=Dj C:=by
 have hs:=M3.aH (B:=Yh w) (Dj C) 0 (by rw[AW];exact M3.Ob (M3.aI h.tw h.w0 h.cd));grind
def PwOk.pr(h:PwOk C n w)(N:NmOk C n X):PrOk (kO C n) (2^YE (Yh w) (Dj C) 0) w:=by
 obtain⟨a,b⟩:=h.arn;have ll:(Jo w).length=w.length:=JJ h.tw;have hn:=N.hn;have hl:=h.ln;have c:(C+1+1)*(w.length+w.length)<=(C+2)*(n+n):=Ah _ O;have d:(YE (Yh w) (Dj C) 0+2)*w.length<=(Dj C+2)*n:=Cp O hl;refine M3.sU (K:=C+1) (E:=eO C n) h.tw h.w0 h.sq (h.wh.mono O) (h.wh.slope O) ?_ O a ?_ ?_
 . rw[h.lead];decide
 . unfold eO;omega
 . unfold kO;omega
def PwOk.ro(h:PwOk C n w)(N:NmOk C n X)(t:Nat):∃G D,M3.RoOk (C+1) (Da (C+1) w (Jb w)) (max w.length (Jb w).length) X (C+1) (kO C n) (Dj C) (kO C n+kO C n+1) (Dj C) G D w t:=by
 obtain⟨g,a⟩:=h.arn;have hC:=N.hC;have hX:=N.hX;have x2:=N.x2;have hn:=N.hn;have hl:=h.ln;have sl:=ZU w;have hk:Dj C=64*(C+C+2):=rfl;have ch:M3.ChOk (C+1) w (Jb w):=M3.ChOk.of h.tw (Jr _) (h.cd.mono O) (h.cd.slope O) (n:=n) hl O N.ch O;have d:Da (C+1) w (Jb w)<=(C+2)*(n+n+1):=Ah _ O;have e:max w.length (Jb w).length*(X+2)<=n*(X+2):=Ad _ O;have f:w.length*(X+X+2)<=n*(X+X+2):=Ad _ hl;have i:=N.sz;have j:=N.sz2;refine M3.sM (h.pr N) (M3.sK h.tw h.w0 h.cd hC O x2) (ZT h.cd.smq O O) ch (aN ch h.w0) a (h.wh.mono O) h.l2 ?_ O ?_ O O
 . obtain⟨z,b,c⟩:=h.wh ((Jo w).length-1);unfold YN;rw[c,C1];exact b.mono O
 . have:=sS h.w0 (-((2:Rat)^YE (Yh w) (Dj C) 0));omega
end
end
section
open M3
def sY(L:Int):∀(k:Nat) (r:RtQ),∃i,i<=k/\Yd L k r=FZ i r:=by
 intro k;induction k with
 |zero=>intro r;exact⟨0,Aa _,rfl⟩
 |succ k b=>
  intro r;rw[Yd];split
  . obtain⟨i,c,a⟩:=b r.hv;exact⟨i+1,O,a⟩
  . exact⟨0,At _,rfl⟩
def sZ{C h X:Nat}{w:List Rat}{x:Rat}(j:Wh C w)(tw:Jc w=w)(w0:w≠[])(e:ev w x=0)(p:-(2^h)<=x)(q:x<=2^h)(hX:h+64*C<64*X):DQ X x:=by
 obtain⟨zs,b⟩:=j.ints;have z0:zs≠[]:=λk=>w0 (by rw[b,k];rfl);have hl:cf w (w.length-1)=((zs.getLast z0:Int):Rat):=by
  rw[b];unfold cf;rw[CR,Fg,<-List.getLast?_eq_getElem?,List.getLast?_eq_some_getLast z0];rfl
 obtain⟨L,f,l⟩:=j (w.length-1);have m:zs.getLast z0=L:=by rw[l]at hl;exact_mod_cast hl.symm
 have r:=Jq tw w0;have s:L≠0:=λk=>r (by rw[l,k];rfl);have i:=ZA z0 (x:=x) (by rw[<-b];exact e);rw[m]at i;have t:x.den<=L.natAbs:=Nat.le_of_dvd O (by have:=Cv.2 i;rwa[Ar]at this);have f:L.natAbs<Y^C:=f;have a:∀k,Y^k=2^(64*k):=λk=>by rw[show Y=2^64 from rfl,<-C5]
 have A:2^h*2^(64*C)<2^(64*X):=by rw[<-CI];exact FA O hX
 have p1:=Cw (n:=h) (show 0<2 by omega);rw[a]at f;have o:=Hl x;have d0:(0:Rat)<=(x.den:Rat):=by exact_mod_cast At x.den
 have c:=Rat.mul_le_mul_of_nonneg_right q d0;have d:=Rat.mul_le_mul_of_nonneg_right p d0;rw[o]at c d;have g:(2:Rat)^h*(x.den:Rat)=(((2^h*x.den:Nat):Int):Rat):=by rw[AE,Rat.natCast_mul,Rat.natCast_pow];rfl
 rw[Rat.neg_mul,g,<-Rat.intCast_neg]at d;rw[g]at c;have u:x.num<=((2^h*x.den:Nat):Int):=by exact_mod_cast c
 have v:-((2^h*x.den:Nat):Int)<=x.num:=by exact_mod_cast d
 have y:2^h*x.den<=2^h*2^(64*C):=Ah _ O;have z:2^(64*C)<=2^h*2^(64*C):=Cc _ p1;refine⟨?_,?_⟩
 . unfold Sm;rw[a];omega
 . unfold Sm;rw[a,Ar];omega
def RtQ.Ok.sign3{r:RtQ}(h:r.Ok)(q:List Rat):r.sign q=-1\/r.sign q=0\/r.sign q=1:=by
 by_cases hl:r.lo<r.hi
 . rw[h.signI hl];rcases(h.irr hl).sg3 q with k|k|k
   . exact Or.inr (Or.inl k)
   . first|exact Or.inl k|exact Or.inr (Or.inr k)
   . first|exact Or.inl k|exact Or.inr (Or.inr k)
 . rw[RtQ.signR hl];rcases Yu (ev q r.lo)with⟨_,k⟩|⟨_,k⟩|⟨_,k⟩<;>simp[k]
structure TdOk(C n X:Nat)(w:List Rat)(t:Nat)(r:RtQ):Prop where
 ok:r.Ok
 ew:r.w=Jo w
 et:r.tm=t
 lo:DQ X r.lo
 hi:DQ X r.hi
 dy:r.lo<r.hi->Dy (Dj C) (kO C n+kO C n) r.lo/\Dy (Dj C) (kO C n+kO C n) r.hi
 bl:-(2^Dj C)<=r.lo
 bh:r.hi<=2^Dj C
theorem PwOk.told{C n X:Nat}{w:List Rat}(h:PwOk C n w)(N:NmOk C n X)(t:Nat):∀r∈EM (kO C n) (Dj C) (w,t),TdOk C n X w t r:=λr j=>by
 obtain⟨p,c⟩:=h.arn;have hp:=h.pr N;have hX:=N.hX;rw[M3.aL]at j;obtain⟨s,hs,rfl⟩:=Fh.1 j;obtain⟨_,q,u,k⟩:=hp.span hs;have a:=(RZ t k).1;have e:Dy (Dj C) 0 ((2:Rat)^YE (Yh w) (Dj C) 0):=Dy.two c;obtain⟨d1,d⟩:=M3.aJ (kO C n) 0 _ _ e.neg e s hs;rw[AW]at d1 d;have x:=M3.Kv c;have bl:-((2:Rat)^Dj C)<=(GD (kO C n) ⟨s.1,s.2,Jo w,DV (ev (Jo w) s.2),t⟩).lo:=by have:=a.lo;grind
 have bh:(GD (kO C n) ⟨s.1,s.2,Jo w,DV (ev (Jo w) s.2),t⟩).hi<=2^Dj C:=by have:=a.hi;grind
 have dy:∀r:RtQ,(r=GD (kO C n) ⟨s.1,s.2,Jo w,DV (ev (Jo w) s.2),t⟩)->r.lo<r.hi->Dy (Dj C) (kO C n+kO C n) r.lo/\Dy (Dj C) (kO C n+kO C n) r.hi:=λr b hl=>by
  subst b;unfold GD Ho at hl ⊢;obtain⟨i,v,o⟩:=sY (YN (Jo w)) (kO C n) ⟨s.1,s.2,Jo w,DV (ev (Jo w) s.2),t⟩;rw[o]at hl ⊢;split at hl
  . exact absurd hl Rat.lt_irrefl
  . rename_i m;rw[BG m];obtain⟨c1,c2⟩:=OR i (kO C n) ⟨s.1,s.2,Jo w,DV (ev (Jo w) s.2),t⟩ d1 d;exact⟨c1.le O,c2.le O⟩
 obtain⟨r,b⟩:=ex (GD (kO C n) ⟨s.1,s.2,Jo w,DV (ev (Jo w) s.2),t⟩);rw[b]at a bl bh ⊢;have dy:=dy r b.symm;by_cases hl:r.lo<r.hi
 . obtain⟨c1,c2⟩:=dy hl;exact⟨a.ok,a.ew,a.et,c1.smq O,c2.smq O,dy,bl,bh⟩
 . obtain⟨f,l⟩:=a.ok.rat hl;have g:=l;rw[a.ew]at g;have w0:=a.ok.w0;rw[a.ew]at w0;have sm:DQ X r.lo:=sZ (C:=C) (h:=Dj C) h.wh (J4 w) w0 g bl (by rw[f];exact bh) O;exact⟨a.ok,a.ew,a.et,sm,by rw[<-f];exact sm,dy,bl,bh⟩
structure SzOk(C n X M m:Nat):Prop where
 ch:4*((n+m+2)*((C+M+n+2)*(n+m+(n+m)+1)+1))<=1000000000
 ln:n+m<=1000
 sz:(C+M+n+2)*(n+m+(n+m)+1)+(n+m)*(X+2)+X+(C+M+n+2)*(n+m+(n+m)+1)<=10000000000
 at_:m*(M+X+1)+1+X<=1000000000
 hM:M<=100000000
section
variable {C n X M m:Nat} {w q:List Rat} {t:Nat} {r:RtQ}
def TdOk.rz(h:TdOk C n X w t r)(a:PwOk C n w)(N:NmOk C n X):RzOk (C+1) X r:=by
 have c:=N.sz2;have ll:r.w.length=w.length:=by rw[h.ew];exact JJ a.tw
 have hl:=a.ln;have b:r.w.length*(X+2)<=n*(X+X+2):=Cp O O;exact⟨by rw[h.ew];exact a.wh.mono O,h.lo,h.hi,O,N.x2⟩
def TdOk.sn(h:TdOk C n X w t r)(a:PwOk C n w)(N:NmOk C n X)(S:SzOk C n X M m)(tq:Jc q=q)(cq:Cd M q)(lq:q.length<=m):∃K A l,M3.SnOk K A l X r q:=by
 have hC:=N.hC;have hn:=N.hn;have e:=S.ln;have j:=S.at_;have hM:=S.hM;have ll:(Jo w).length=w.length:=JJ a.tw;have k:=a.ln;have sl:=ZU (Jo w);have cw:Cd (C+1) (Jo w):=(a.wh.mono O).cd O;have cs:Cd (C+1) (Jb (Jo w)):=(a.wh.slope O).cd O;have w0:=h.ok.w0;rw[h.ew]at w0;have c:(Jj (Jb (Jo w)) q).length<=n+m:=by
  by_cases d:Jb (Jo w)=[]
  . rw[d];exact At _
  . by_cases q0:q=[]
    . rw[q0,YH];exact At _
    . have:=JF (Jr (Jo w)) tq d q0;omega
 have b:Cd (C+M+n+1) (Jj (Jb (Jo w)) q):=(cs.mul cq).mono O;have ch:M3.ChOk (C+M+n+1) (Jo w) (Jj (Jb (Jo w)) q):=M3.ChOk.of (J4 w) (JA _ _) (cw.mono O) b (n:=n+m) O c S.ch e;have f:Da (C+M+n+1) (Jo w) (Jj (Jb (Jo w)) q)<=(C+M+n+2)*(n+m+(n+m)+1):=Ah _ O;have g:max (Jo w).length (Jj (Jb (Jo w)) q).length*(X+2)<=(n+m)*(X+2):=Ad _ O;have o:=S.sz;have i:q.length*(M+X+1)<=m*(M+X+1):=Ad _ lq;have hA:=Rg h.lo cq.smq O;have row:=aN ch w0;rw[<-h.ew]at cw cs w0 c b ch row f g sl ll;exact⟨_,_,_,cq.sqs O,λ_=>⟨hA,(hA 0).1⟩,cw.sqs O,ZT cw.smq O O,cs.sqs O,cs.times cq O,O,ch,row,w0,O⟩
def TdOk.or_{v:List Rat}{u:Nat}{s:RtQ}(h:TdOk C n X w t r)(a:PwOk C n w)(N:NmOk C n X)(S:SzOk C n X (C+1) n)(k:TdOk C n X v u s)(hv:PwOk C n v):M3.OrOk r s:=by
 have b:s.w.length<=n:=by rw[k.ew,JJ hv.tw];exact hv.ln
 obtain⟨K,A,l,hs⟩:=h.sn a N S (q:=s.w) k.ok.tw (by rw[k.ew];exact(hv.wh.mono O).cd O) b;refine⟨⟨K,A,l,X,C+1,h.rz a N,k.rz hv N,hs⟩,?_,?_⟩
 . rw[k.ok.sgh];rcases Yu (ev s.w s.hi)with⟨_,e⟩|⟨_,e⟩|⟨_,e⟩<;>rw[e]<;>decide
 . rcases h.ok.sign3 s.w with e|e|e<;>rw[e]<;>decide
end
end
section
open M3
section
variable {r:RtQ}
theorem RtQ.Ok.hv(h:r.Ok)(hl:r.lo<r.hi):r.hv.Ok/\r.hv.lo<r.hv.hi/\(r.hv.hi-r.hv.lo)*2=r.hi-r.lo/\r.lo<=r.hv.lo/\r.hv.hi<=r.hi/\r.hv.w=r.w/\∀q,r.hv.sign q=r.sign q:=by
 have k:=h.irr hl;obtain⟨n,o,_⟩:=Gf hl;obtain⟨f,g,w⟩:=RtQ.hv_cutP h.sgh hl;have ew:r.hv.w=r.w:=(r.cut_w r.mid).1;have v:=k.nz (DX r.lo r.hi) (Rat.le_of_lt n) (Rat.le_of_lt o);have en:=k.ends;have wd:DX r.lo r.hi*2=r.lo+r.hi:=by unfold DX;grind
 have z:∃c d,r.hv.lo=c/\r.hv.hi=d/\r.lo<=c/\c<d/\d<=r.hi/\(d-c)*2=r.hi-r.lo/\ev r.w c*ev r.w d<0:=by
  unfold Ep at f g;by_cases m:ev r.w (DX r.lo r.hi)=0\/0<ev r.w (DX r.lo r.hi)*ev r.w r.hi
  . rw[BH m]at f g;refine⟨_,_,f,g,Rat.le_refl,n,Rat.le_of_lt o,DG,?_⟩;have hp:=m.resolve_left v;have e:(ev r.w r.lo*ev r.w r.hi)*(ev r.w (DX r.lo r.hi)*ev r.w r.hi)=(ev r.w r.hi*ev r.w r.hi)*(ev r.w r.lo*ev r.w (DX r.lo r.hi)):=DG
    have E:=Rat.mul_pos (show 0 < -(ev r.w r.lo*ev r.w r.hi)by grind) hp;have nb:=k.nz r.hi (Rat.le_of_lt hl) Rat.le_refl;have sq:0<ev r.w r.hi*ev r.w r.hi:=by
     rcases Xj nb with i|i
     . have:=Rat.mul_pos (a:=-(ev r.w r.hi)) (b:=-(ev r.w r.hi)) DG DG;grind
     . exact Rat.mul_pos i i
    exact LM sq DG
  . rw[BG m]at f g;refine⟨_,_,f,g,Rat.le_of_lt n,o,Rat.le_refl,DG,?_⟩;have nb:=k.nz r.hi (Rat.le_of_lt hl) Rat.le_refl
    have:ev r.w (DX r.lo r.hi)*ev r.w r.hi≠0:=λe=>(AN.1 e).elim v nb
    grind
 obtain⟨c,d,j,l,s,t,u,x,y⟩:=z;obtain⟨A,C⟩:=k.sub s t u y;have ok:r.hv.Ok:=⟨by rw[ew];exact h.tw,by rw[ew];exact h.w0,by rw[ew];exact h.sq,w,Or.inr (by rw[ew,j,l];exact A)⟩;have p:r.hv.lo<r.hv.hi:=by rw[j,l];exact t
 refine⟨ok,p,by rw[j,l];exact x,by rw[j];exact s,by rw[l];exact u,ew,λq=>?_⟩;rw[ok.signI p,h.signI hl,ew,j,l,C]
def se(m:Nat):∀(k:Nat) (r:RtQ),r.Ok->r.lo<r.hi->(M3.Y8 m k r).Ok/\(M3.Y8 m k r).lo<(M3.Y8 m k r).hi/\r.lo<=(M3.Y8 m k r).lo/\(M3.Y8 m k r).hi<=r.hi/\∀q,(M3.Y8 m k r).sign q=r.sign q:=by
 intro k;induction k with
 |zero=>intro r h hl;exact⟨h,hl,Rat.le_refl,Rat.le_refl,λ_=>rfl⟩
 |succ k f=>
  intro r h hl;rw[M3.Y8];split
  . exact⟨h,hl,Rat.le_refl,Rat.le_refl,λ_=>rfl⟩
  . obtain⟨a,b,_,c,d,_,e⟩:=h.hv hl;obtain⟨g,i,j,l,n⟩:=f r.hv a b;exact⟨g,i,Rat.le_trans c j,Rat.le_trans l d,λq=>(n q).trans (e q)⟩
end
theorem sf{K:Nat}{w:List Rat}(s:Wh K w)(w0:w≠[]){m:Nat}{M:Int}(t:ev w (Rat.divInt M (10^m))≠0):1<=Yg (ev w (Rat.divInt M (10^m)))*(10^m:Rat)^(w.length-1):=by
 obtain⟨zs,g⟩:=s.ints;have z0:zs≠[]:=λk=>w0 (by rw[g,k];rfl);have a:=RS (Rat.divInt M (10^m)) zs z0;rw[<-g]at a;have o:zs.length=w.length:=by rw[g,CR]
 rw[o]at a;generalize hX:Rat.divInt M (10^m)=x at *;have d0:(0:Rat)<((x.den:Int):Rat):=by have:=x.den_pos;exact_mod_cast this
 have r:((x.den:Int):Rat)<=(10:Rat)^m:=by
  have c:(x.den:Int)∣10^m:=by
   have y:=Jx m;have c:Rat.divInt M (10^m)=Rat.divInt x.num (x.den:Int):=by rw[Cj];exact hX
   rw[Rat.divInt_eq_divInt_iff O (by have:=x.den_nz;omega)]at c;have d:x.den∣(x.num*10^m).natAbs:=by
    have:=Cv.2 (show(x.den:Int)∣x.num*10^m from⟨M,by rw[<-c,Int.mul_comm]⟩);rwa[Ar]at this
   rw[Cq]at d;exact Cv.1 (by rw[Ar];exact x.reduced.symm.dvd_of_dvd_mul_left d)
  have d:=Int.le_of_dvd (Jx m) c;have p:((x.den:Int):Rat)<=((10^m:Int):Rat):=Rat.intCast_le_intCast.2 d;rwa[Rat.intCast_pow]at p
 have v:∀n:Nat,0<((x.den:Int):Rat)^n/\((x.den:Int):Rat)^n<=((10:Rat)^m)^n:=λn=>by
  induction n with
  |zero=>rw[Rat.pow_zero,Rat.pow_zero];exact⟨DJ,Rat.le_refl⟩
  |succ n f=>
   rw[Rat.pow_succ,Rat.pow_succ];refine⟨Rat.mul_pos f.1 d0,?_⟩;have u:=Rat.mul_le_mul_of_nonneg_right f.2 (Rat.le_of_lt d0);have b:=Rat.mul_le_mul_of_nonneg_left r (Rat.le_trans (Rat.le_of_lt f.1) f.2);exact Rat.le_trans u b
 obtain⟨p0,p1⟩:=v (w.length-1);obtain⟨j,l⟩:=RO (ev w x);have q:1<=Yg (ev w x)*((x.den:Int):Rat)^(w.length-1):=by
  have z:hZ x.num (x.den:Int) zs≠0:=λe=>by
   rw[e]at a;rcases AN.1 a with k|k
   . rw[k]at p0;exact absurd p0 Rat.lt_irrefl
   . exact t k
  rcases(show hZ x.num (x.den:Int) zs<=-1\/1<=hZ x.num (x.den:Int) zs by omega)with i|i
  . have b:((hZ x.num (x.den:Int) zs:Int):Rat)<=((-1:Int):Rat):=Rat.intCast_le_intCast.2 i;rw[<-a]at b;have:=Rat.mul_le_mul_of_nonneg_right j.1 (Rat.le_of_lt p0);have e:((-1:Int):Rat)=-1:=rfl;grind
  . have b:((1:Int):Rat)<=((hZ x.num (x.den:Int) zs:Int):Rat):=Rat.intCast_le_intCast.2 i;rw[<-a]at b;have:=Rat.mul_le_mul_of_nonneg_right j.2 (Rat.le_of_lt p0);have e:((1:Int):Rat)=1:=rfl;grind
 exact Rat.le_trans q (Rat.mul_le_mul_of_nonneg_left p1 l)
theorem sj{K m:Nat}{H:Rat}(s:0<=H):∀(k:Nat) (r:RtQ),r.Ok->r.lo<r.hi->Wh K r.w->Wi H r.lo->Wi H r.hi->(r.hi-r.lo)*(Ei H r.w*(10^m:Rat)^(r.w.length-1))<2^k->M3.dT m (M3.Y8 m k r).lo=M3.dT m (M3.Y8 m k r).hi:=by
 intro k;induction k with
 |zero=>
  intro r h hl g c d hs;have k:=h.irr hl;rw[M3.Y8];show Y5 (Ed m r.lo) m=Y5 (Ed m r.hi) m;rw[qm (Rat.le_of_lt hl) λM e f=>?_];have nz:=k.nz _ (Rat.le_of_lt e) f;have A:=sf g h.w0 nz;generalize Rat.divInt M (10^m)=x at *;have n:Wi H x:=⟨by have:=c.1;grind,by have:=d.2;grind⟩;have l1:=RQ r.w c n (Rat.le_of_lt e);have l2:=RQ r.w n d f;have ln:=Mj s r.w;have w1:=Rat.mul_le_mul_of_nonneg_left (show x-r.lo<=r.hi-r.lo by grind) ln;have w2:=Rat.mul_le_mul_of_nonneg_left (show r.hi-x<=r.hi-r.lo by grind) ln;have en:=k.ends;have bd:Yg (ev r.w x)<=Ei H r.w*(r.hi-r.lo):=by
   obtain⟨v,w⟩:=l1;obtain⟨y,z⟩:=l2;have sg:(ev r.w r.lo<0/\0<ev r.w r.hi)\/(0<ev r.w r.lo/\ev r.w r.hi<0):=by
    have u:=k.nz r.lo Rat.le_refl (Rat.le_of_lt hl);have nb:=k.nz r.hi (Rat.le_of_lt hl) Rat.le_refl;rcases Xj u with i|i<;>rcases Xj nb with j|j
    . have:=Rat.mul_pos (a:=-(ev r.w r.lo)) (b:=-(ev r.w r.hi)) DG DG;grind
    . exact Or.inl ⟨i,j⟩
    . exact Or.inr ⟨i,j⟩
    . have:=Rat.mul_pos i j;grind
   unfold Yg;split<;>rcases sg with⟨i,j⟩|⟨i,j⟩<;>grind
  have tp:(0:Rat)<=(10^m:Rat)^(r.w.length-1):=Rat.le_of_lt (Rat.pow_pos (Rat.pow_pos DJ));have:=Rat.mul_le_mul_of_nonneg_right bd tp;rw[Rat.pow_zero]at hs;grind
 |succ k t=>
  intro r h hl g c d hs;rw[M3.Y8];split
  . assumption
  . obtain⟨e,f,o,p,q,l,_⟩:=h.hv hl;refine t r.hv e f (by rw[l];exact g) ⟨Rat.le_trans c.1 p,by have:=d.2;grind⟩ ⟨by have:=c.1;grind,Rat.le_trans q d.2⟩ ?_;rw[l];rw[Rat.pow_succ,<-o]at hs;grind
def RtQ.Ok.sign_line{r:RtQ}(h:r.Ok){q:List Rat}{c:Rat}(e:∀x,ev q x=x-c):r.sign q=r.S c:=by
 by_cases hl:r.lo<r.hi
 . rw[h.signI hl,RtQ.SI hl];exact(h.irr hl).ext λx=>by rw[e,Y6]
 . rw[RtQ.signR hl,RtQ.SR hl,e,<-Gx];rcases Yu (r.lo-c)with⟨i,k⟩|⟨i,k⟩|⟨i,k⟩
   . rw[k,Gx];unfold EG;rw[BH DG]
   . rw[k];exact(UY.2 DG).symm
   . rw[k];exact(I5.2 DG).symm
theorem TdOk.dg{C n X:Nat}{w:List Rat}{t:Nat}{r:RtQ}(h:TdOk C n X w t r)(a:PwOk C n w)(N:NmOk C n X){m:Nat}(P:m<=30):∃k,M3.DgOk (C+1) X k m r/\r.S (Rat.divInt (Ed m (M3.Y8 m k r).lo) (10^m))≥0/\r.S (Rat.divInt (Ed m (M3.Y8 m k r).lo+1) (10^m))<0∧-(2^Dj C)<=(M3.Y8 m k r).lo/\(M3.Y8 m k r).lo<=2^Dj C:=by
 have rz:=h.rz a N;have hX:=N.hX;by_cases hl:r.lo<r.hi
 . obtain⟨d1,F⟩:=h.dy hl;have ll:r.w.length=w.length:=by rw[h.ew];exact JJ a.tw
   have ae:=a.ln;have f:(0:Rat)<=2^Dj C:=Rat.le_of_lt (YM _);have o:Wh C r.w:=by rw[h.ew];exact a.wh
   have stop:M3.dT m (M3.Y8 m (kO C n) r).lo=M3.dT m (M3.Y8 m (kO C n) r).hi:=by
    refine sj (K:=C) f (kO C n) r h.ok hl o ⟨h.bl,by have:=h.bh;grind⟩ ⟨by have:=h.bl;grind,h.bh⟩ ?_;have l1:=M3.Od (g:=Dj C) r.w (M3.Wh.abs o);have l0:=Mj f r.w;have t1:(10^m:Rat)^(r.w.length-1)<=2^(100*n):=by
     have y:(10:Rat)^m<=2^100:=by
      have M:(10:Nat)^m<=2^100:=Ac (An O P) DJ;have p:(((10:Nat)^m:Nat):Rat)<=(((2:Nat)^100:Nat):Rat):=by exact_mod_cast M
      rw[Rat.natCast_pow,Rat.natCast_pow]at p;exact p
     have l:(0:Rat)<=10^m:=Rat.le_of_lt (Rat.pow_pos DJ);have W:∀j:Nat,(0:Rat)<=(10^m:Rat)^j/\(10^m:Rat)^j<=2^(100*j):=λj=>by
      induction j with
      |zero=>rw[Rat.pow_zero,CF,Rat.pow_zero];exact⟨DJ,Rat.le_refl⟩
      |succ j s=>
       rw[Rat.pow_succ,Nat.mul_succ,M3.YI];refine⟨Rat.mul_nonneg s.1 l,?_⟩;have Q:=Rat.mul_le_mul_of_nonneg_right s.2 l;have S:=Rat.mul_le_mul_of_nonneg_left y (Rat.le_of_lt (YM (100*j)));exact Rat.le_trans Q S
     exact Rat.le_trans (W (r.w.length-1)).2 (M3.Kv O)
    have v:(0:Rat)<=(10^m:Rat)^(r.w.length-1):=Rat.le_of_lt (Rat.pow_pos (Rat.pow_pos DJ));have w1:r.hi-r.lo<=2^(Dj C+1):=by
     rw[Rat.pow_succ];have:=h.bl;have:=h.bh;grind
    have z:Ei (2^Dj C) r.w*(10^m:Rat)^(r.w.length-1)<=2^(64*(C+1)+(Dj C+1)*r.w.length)*2^(100*n):=Rat.le_trans (Rat.mul_le_mul_of_nonneg_right l1 v) (Rat.mul_le_mul_of_nonneg_left t1 (Rat.le_of_lt (YM _)));have A:=Rat.mul_le_mul_of_nonneg_right w1 (Rat.mul_nonneg l0 v);have E:=Rat.mul_le_mul_of_nonneg_left z (Rat.le_of_lt (YM (Dj C+1)));refine Kn (Rat.le_trans A E) ?_;rw[<-M3.YI,<-M3.YI];refine M3.Oe ?_;have m1:(Dj C+1)*r.w.length<=(Dj C+2)*n:=Cp O O;have m2:C+2<=(C+2)*n:=AV _ (by have:=a.l2;omega);have m3:2*n<=(C+2)*n:=Ad _ O;have m4:(C+2)*(n+n)=(C+2)*n+(C+2)*n:=CU _ _ _;unfold kO eO;omega
   obtain⟨e,b,T,U,V⟩:=se m (kO C n) r h.ok hl;have L:Ed m (M3.Y8 m (kO C n) r).lo=Ed m (M3.Y8 m (kO C n) r).hi:=qj stop;have u:∀c,r.S c=(M3.Y8 m (kO C n) r).S c:=λc=>by
    rw[<-h.ok.sign_line (q:=[-c,1]) λx=>Y6 c x,<-e.sign_line (q:=[-c,1]) λx=>Y6 c x,V]
   refine⟨kO C n,⟨λi hi=>?_,stop⟩,?_,?_,Rat.le_trans h.bl T,Rat.le_trans (Rat.le_of_lt b) (Rat.le_trans U h.bh)⟩
   . obtain⟨c1,c2⟩:=OR i _ r d1 F;have ew:=(OS i r).1;exact⟨⟨by rw[ew];exact rz.wh,c1.smq O,c2.smq O,by rw[ew];exact rz.sz,rz.x2⟩,(Dy.mid c1 c2).smq O⟩
   . rw[u,RtQ.SI b,(e.irr b).low (Mo m _)];decide
   . rw[u,RtQ.SI b,L,(e.irr b).high (Rat.le_of_lt (Mp m _))];decide
 . obtain⟨d,_⟩:=h.ok.rat hl;refine⟨0,⟨λi hi=>?_,by rw[M3.Y8,d]⟩,?_,?_,h.bl,by rw[show M3.Y8 m 0 r=r from rfl,d];exact h.bh⟩
   . obtain rfl:i=0:=O
     refine⟨rz,?_⟩;show DQ X (DX r.lo r.hi);rw[<-d,show DX r.lo r.lo=r.lo by unfold DX;grind];exact h.lo
   . rw[RtQ.SR hl,<-Gx];have:=Mo m r.lo;rcases(show Rat.divInt (Ed m r.lo) (10^m)=r.lo\/Rat.divInt (Ed m r.lo) (10^m)<r.lo by grind)with i|i
     . rw[show M3.Y8 m 0 r=r from rfl,UY.2 i.symm];decide
     . rw[show M3.Y8 m 0 r=r from rfl,I5.2 i];decide
   . rw[RtQ.SR hl,<-Gx];exact IY.2 (Mp m r.lo)
end
section
open M3
theorem Ry(a b:Rat)(n:Nat):(a*b)^n=a^n*b^n:=by
 induction n with
 |zero=>rw[Rat.pow_zero,Rat.pow_zero,Rat.pow_zero,Rat.mul_one]
 |succ n c=>rw[Rat.pow_succ,Rat.pow_succ,Rat.pow_succ,c];grind
structure PsOk(C n:Nat)(z:List Rat)(L:List (List Rat × Nat)):Prop where
 ln:L.length<=25
 all:∀a∈L,PwOk C n a.1/\1<=a.2/\a.2<=25
 cop:L.Pairwise λa b=>DR a.1 b.1
 evs:∀x,ev (Js z) x=Dt L x
section
variable {C n X:Nat} {z q:List Rat} {L:List (List Rat × Nat)}
def PsOk.pts(h:PsOk C n z L):PtsOk L:=⟨λa d=>by
 obtain⟨b,c,_⟩:=h.all a d;exact⟨b.tw,b.w0,b.sq,c⟩,h.cop⟩
def PsOk.pr(h:PsOk C n z L)(N:NmOk C n X):∀a∈L,PrOk (kO C n) ((2:Rat)^YE (Yh a.1) (Dj C) 0) a.1:=λa b=>(h.all a b).1.pr N
def PsOk.len(h:PsOk C n z L)(N:NmOk C n X)(a:Jc z=z)(z0:z≠[]):((L.flatMap (EM (kO C n) (Dj C))).length:Int)=nA z:=by
 rw[M3.aM (h.pr N),(pm h.pts a z0 h.evs).1];rfl
def PsOk.told(h:PsOk C n z L)(N:NmOk C n X):∀r∈L.flatMap (EM (kO C n) (Dj C)),∃a∈L,TdOk C n X a.1 a.2 r:=λr b=>by
 obtain⟨a,c,b⟩:=List.mem_flatMap.1 b;exact⟨a,c,(h.all a c).1.told N a.2 r b⟩
theorem PsOk.split(h:PsOk C n z L)(F:Jc z=z)(z0:z≠[]){a:List Rat × Nat}(m:a∈L):∃c:List Rat,DR (Jo a.1) c/\∀x,ev z x=ev (Jo a.1) x*(ev (Jo a.1) x^(a.2-1)*ev c x):=by
 obtain⟨i,hi⟩:=List.getElem?_of_mem m;obtain⟨u,o⟩:=M3.q8 (L.take i++L.drop (i+1));obtain⟨hA,P,_⟩:=h.all a m;obtain⟨k,Q,j⟩:=Xz hA.tw;have f:k≠0:=λe=>by grind
 have q:=(Az.1 hi);obtain⟨E,A⟩:=q;have y:∀s∈L.take i++L.drop (i+1),DR s.1 a.1:=λs hs=>by
  have e:L=L.take i++a::L.drop (i+1):=by rw[<-A,<-AK E,AP]
  have hp:=h.cop;rw[e,List.pairwise_append]at hp;rcases CE.1 hs with hs|hs
  . exact hp.2.2 s hs a AH
  . exact((List.pairwise_cons.1 hp.2.1).1 s hs).symm
 have r:DR u a.1:=ZD _ a.1 y u o;obtain⟨p,l⟩:=Ma F z0;generalize cf z (z.length-1)=g at p l;refine⟨DM (g*(k⁻¹)^a.2) u,?_,λx=>?_⟩
 . obtain⟨s,t,e⟩:=r;have p0:g*(k⁻¹)^a.2≠0:=by
    refine λe=>?_;rcases AN.1 e with e|e
    . exact p e
    . have b:(k⁻¹)^a.2*k^a.2=1:=by rw[<-Ry,Rat.inv_mul_cancel _ f,OJ]
      rw[e,A7]at b;exact absurd b DJ
   generalize g*(k⁻¹)^a.2=d at p0;refine⟨DM k⁻¹ t,DM d⁻¹ s,λx=>?_⟩;rw[j,Jp,Jp,Jp,Jp];have b:=e x;have w:=Rat.mul_inv_cancel k f;have M:=Rat.mul_inv_cancel d p0;grind
 . have v:ev z x=ev (Js z) x*g:=by conv=>lhs;rw[l,Jp]
   rw[v,h.evs,M3.q7 (e:=a.1) (t:=a.2) hi x,Jp,o,OI,j,Jp];obtain⟨t,et⟩:∃t,a.2=t+1:=⟨a.2-1,O⟩;rw[et,Nat.add_sub_cancel,Ry,Rat.pow_succ,Rat.pow_succ];have w:k^t*k*((k⁻¹)^t*k⁻¹)=1:=by
    have b:(k⁻¹)^t*k^t=1:=by rw[<-Ry,Rat.inv_mul_cancel _ f,OJ]
    have:=Rat.mul_inv_cancel k f;grind
   grind
end
end
namespace M3
def sk(V:H)(g o:Nat)(x0 x1 x2 x3 y0 y1 y2 y3 p s t:I):Prop:=V.cell? ⟨g,o,none⟩=some x0/\V.cell? ⟨g,o+1,none⟩=some x1/\V.cell? ⟨g,o+2,none⟩=some x2/\V.cell? ⟨g,o+3,none⟩=some x3/\V.cell? ⟨g,o+4,none⟩=some y0/\V.cell? ⟨g,o+5,none⟩=some y1/\V.cell? ⟨g,o+6,none⟩=some y2/\V.cell? ⟨g,o+7,none⟩=some y3/\V.cell? ⟨g,o+8,none⟩=some p/\V.cell? ⟨g,o+9,none⟩=some s/\V.cell? ⟨g,o+10,none⟩=some t
def Of(V:H)(g j:Nat)(x0 x1 x2 x3 y0 y1 y2 y3 p s t:I)(r:RtQ):Prop:=g<V.heap.size/\sk V g (j*11) x0 x1 x2 x3 y0 y1 y2 y3 p s t/\JI V (.agg #[x0,x1,x2,x3,y0,y1,y2,y3,p,s,t]) r
def Of.below{V W:H}{g j:Nat}{x0 x1 x2 x3 y0 y1 y2 y3 p s t:I}{r:RtQ}(h:Of V g j x0 x1 x2 x3 y0 y1 y2 y3 p s t r)(a:Bl V W):Of W g j x0 x1 x2 x3 y0 y1 y2 y3 p s t r:=by
 obtain⟨b,⟨c0,c1,c2,c3,c4,c5,d,e,f,l,c⟩,m⟩:=h;have k:∀i,W.cell? ⟨g,i,none⟩=V.cell? ⟨g,i,none⟩:=λi=>a.cell (p:=⟨g,i,none⟩) b;exact⟨AB b a.size,⟨(k _).trans c0,(k _).trans c1,(k _).trans c2,(k _).trans c3,(k _).trans c4,(k _).trans c5,(k _).trans d,(k _).trans e,(k _).trans f,(k _).trans l,(k _).trans c⟩,m.below a⟩
def Og(V:H)(u:I)(rs:List RtQ):Prop:=∃a cap,u=D a rs.length cap/\∀j r,rs[j]?=some r->∃g x0 x1 x2 x3 y0 y1 y2 y3 p s t,a=some ⟨g,0,none⟩/\Of V g j x0 x1 x2 x3 y0 y1 y2 y3 p s t r
theorem aO{V:H}{base:Nat}{u:I}{cs:List I}{rs:List RtQ}(h:V.ownsRow base 46 11 u rs.length cs)(n:Dx V cs rs):Og V u rs:=by
 rcases h.2 with⟨e,k⟩|⟨g,cap,cur,e,v,m,w,x,z,A⟩
 . refine⟨none,0,by rw[e,k],λj r f=>?_⟩;grind
 . refine⟨_,cap,e,λj r f=>?_⟩;have C:j<rs.length:=(Az.1 f).1;obtain⟨x0,x1,x2,x3,y0,y1,y2,y3,b,d,c,l,o,p,q⟩:=n.2 j r f;have s:(cs.drop (j*11)).take 11=[x0,x1,x2,x3,y0,y1,y2,y3,D b d c,N .i64 r.sg,N .i64 (r.tm:Int)]:=by
    have:=BV Array.toList (Value.agg.inj l);simpa using this
   have a:∀i y,i<11->([x0,x1,x2,x3,y0,y1,y2,y3,D b d c,N .i64 r.sg,N .i64 (r.tm:Int)]:List I)[i]?=some y->V.cell? ⟨g,j*11+i,none⟩=some y:=λi y hi t=>by
    grind[World.cell?]
   exact⟨g,x0,x1,x2,x3,y0,y1,y2,y3,D b d c,N .i64 r.sg,N .i64 (r.tm:Int),rfl,(Ab.1 m).1,⟨a 0 _ O rfl,a 1 _ O rfl,a 2 _ O rfl,a 3 _ O rfl,a 4 _ O rfl,a 5 _ O rfl,a 6 _ O rfl,a 7 _ O rfl,a 8 _ O rfl,a 9 _ O rfl,a 10 _ O rfl⟩,x0,x1,x2,x3,y0,y1,y2,y3,b,d,c,rfl,o,p,q⟩
def so{W:H}{a:Option Addr}{l c:Nat}{p:List Rat}(h:Jd W (.agg #[D a l c]) p):∃V B,W.alloc (K #[D a l c] 25)=V/\W.heap.size=B/\Dc V B a l c/\Jd V (.agg #[D a l c]) p/\Bl W V:=by
 have hA:Bl W (W.alloc (K #[D a l c] 25)):=Ba W _;exact⟨_,_,rfl,rfl,BI W 25 (D a l c),h.below hA,hA⟩
end M3
section
open M3
structure RtAll(C n X:Nat)(z:List Rat)(rs:List RtQ):Prop where
 told:∀r∈rs,∃w t,PwOk C n w/\TdOk C n X w t r
 rise:rs.Pairwise λr s=>EQ r.S s.S
 len:(rs.length:Int)=nA z
 cnt:∀q,Jc q=q->q≠[]->(rs.map λr=>if r.sign q=0 then(1:Int)else 0).sum=nA (Ju z q)
 tms:∀r∈rs,r.sign z=0/\1<=r.tm/\r.tm<=25/\(r.sign (Jb z)=0↔1<r.tm)
 deg:∃k:Nat,(rs.map RtQ.tm).sum+2*k=z.length-1
section
variable {C n X:Nat} {z:List Rat} {L:List (List Rat × Nat)}
end
def sy(C n:Nat)(z:List Rat)(rs:List RtQ):Prop:=∃L,PsOk C n z L/\rs.Perm (L.flatMap (EM (kO C n) (Dj C)))/\rs.Pairwise λr s=>¬s.ord r<0
namespace M3
def s0{M n X:Nat}(hM:M<=80000)(hn:n<=25)(N:NmOk (M+5) n X)(S:SzOk (M+5) n X (M+5+1) n)(v:I)(z:List Rat)(w:H)(h:Jd w v z)(i:Jc z=z)(z0:z≠[])(V:z.length<=n)(cz:Cd M z):
 R B 12 #[v] w λe w'=>∃u rs,e=.returned u/\Og w' u rs/\sy (M+5) n z rs/\Bl w w':=by
 obtain⟨L,j,l,m,o,p⟩:=qy hM hn i z0 V cz;have c:PsOk (M+5) n z L:=⟨j,λa d=>by
  obtain⟨C,E,F,k4,P,Q,T,U⟩:=l a d;exact⟨⟨Q,C,E,P,T,U⟩,F,O⟩,m.imp λh=>h.2,o⟩
 have hk:=sW (c.pr N);have hl:=c.len N i z0;have hA:=Wm z0;have z1:=Ae.2 z0;refine(Rw (kO (M+5) n) (Dj (M+5)) v z w h L p (λq t hq=>?_) O (by unfold nA at hl;omega) (λr f=>(hk r f).1) λr f s hs=>?_).mono ?_
 . obtain⟨G,D,k⟩:=(c.all _ hq).1.ro N t;exact⟨_,_,_,_,_,_,_,_,_,k⟩
 . obtain⟨a,d,x⟩:=c.told N r f;obtain⟨b,A,y⟩:=c.told N s hs;exact x.or_ (c.all a d).1 N S y (c.all b A).1
 . rintro e w' ⟨u,cs,rs,rfl,W,o2,⟨g,o4⟩,o5,_⟩;exact⟨u,rs,rfl,aO (by rw[g.length_eq];exact W) o2,⟨L,c,g,o4⟩,o5⟩
def tA(v:I)(z:List Rat)(w:H)(h:Jd w v z)(c:z.length<=1):
 R B 12 #[v] w λe w'=>e=.returned (D none 0 0)/\Bl w w':=by
 refine(Rw 0 0 v z w h [] (λV x b=>(Zs x z V b c).mono ?_) DH DH DH DH DH).mono ?_
 . rintro e w' ⟨rfl,a⟩;exact⟨_,rfl,EF.nil _ _ _,a⟩
 . rintro e w' ⟨u,cs,rs,rfl,_,_,_,d,f⟩;exact⟨by rw[f rfl],d⟩
end M3
end
section
open M3
section
variable {r:RtQ} {q:List Rat}
end
section
variable {rs:List RtQ} {q:List Rat} {k:Nat} {r:RtQ}
end
section
variable {z:List Rat} {rs:List RtQ} {i j:Nat} {r s:RtQ}
end
def LS:NmOk 46 17 20000:=⟨DJ,DJ,DJ,DJ,DJ,DJ,DJ⟩
def tB:SzOk 46 17 20000 47 17:=⟨DJ,DJ,DJ,DJ,DJ⟩
namespace M3
section
variable {z:List Rat} {rs:List RtQ} {r s:RtQ}
end
end M3
end
section
open M3
def Rz{n d:Nat}(h:n<10^d)(b:1<=d):(Yz n).length<=d:=by
 by_cases a:n=0
 . rw[a,show Yz 0=[48]by decide];exact b
 . rw[Mx a,PB];exact Ya O h
def aP(b k:Nat):((b:Int))^k=((b^k:Nat):Int):=(FG b k).symm
def tC:2^Dj 46*10^30<10^1850:=EU
def tD{m k N:Nat}(s:2^k*10^30<N)(o:m<=30){x:Rat}(j:-(2^k)<=x)(n:x<=2^k):(Ed m x).natAbs<N:=by
 have hp:(0:Rat)<((10^m:Int):Rat):=Rat.intCast_pos.2 (Jx m);have c:((10^m:Int):Rat)≠0:=λe=>by rw[e]at hp;exact absurd hp Rat.lt_irrefl
 have l:=Mo m x;have u:=Mp m x;have g:((2:Rat)^k)=((2^k:Int):Rat):=by rw[Rat.intCast_pow];rfl
 have b:(Ed m x:Rat)<=(2^k:Rat)*((10^m:Int):Rat):=by
  have i:=Rat.mul_le_mul_of_nonneg_right (Rat.le_trans l n) (Rat.le_of_lt hp);rwa[AA,Aj c]at i
 have a:-((2^k:Rat)*((10^m:Int):Rat))<((Ed m x+1:Int):Rat):=by
  have i:=Rat.mul_lt_mul_of_pos_right (Kn j u) hp;rw[AA,Aj c,Rat.neg_mul]at i;exact i
 rw[g,<-As]at b a;rw[<-Rat.intCast_neg]at a;have d:=Rat.intCast_le_intCast.1 b;have f:=Rat.intCast_lt_intCast.1 a;have p:(10:Int)^m=((10^m:Nat):Int):=aP 10 m;have q:(10:Nat)^m<=10^30:=An O o;have r:(2:Int)^k=((2^k:Nat):Int):=aP 2 k;rw[p,r,<-Int.natCast_mul]at d f;have t:2^k*10^m<=2^k*10^30:=Ah _ q;generalize 2^k*10^m=A at *;generalize 2^k*10^30=B at *;omega
def tE{z:Int}(h:z.natAbs<10^1850):good (if z=0 then [48]else XP z)=true/\XW (if z=0 then [48]else XP z)=z:=by
 have b:=Rz h O;have a:(XP z).length<=2000:=by
  unfold XP;split
  . rw[Ai];omega
  . omega
 by_cases z0:z=0
 . rw[BH z0,z0];decide +kernel
 . rw[BG z0];exact cK a
def R1{z:Int}(h:z.natAbs<=10^1850):Sm 97 z:=by
 unfold Sm
 have:10^1850<Y^97:=by unfold Y;decide +kernel
 omega
def aQ{m:Nat}(a:m<=30):Sm 97 (10^m:Int):=by
 unfold Sm;rw[Int.natAbs_pow];have b:(10:Int).natAbs^m<=10^30:=An O a;have c:10^30<Y^97:=by unfold Y;decide +kernel
 omega
def aR{m:Nat}(a:m<=30){z:Int}(h:z.natAbs<=10^1850):DQ 97 (Rat.divInt z (10^m)):=DQ.divInt (by have:=Jx m;omega) (R1 h) (aQ a)
def tF:SzOk 46 17 20000 97 17:=⟨DJ,DJ,DJ,DJ,DJ⟩
theorem aS(c x:Rat):ev [0-c,1] x=x-c:=by simp only[ev];grind
def R3(rs:List RtQ):Prop:=∀r∈rs,∃p t,PwOk 46 17 p/\TdOk 46 17 20000 p t r
namespace M3
def tG(v:I)(z:List Rat)(w:H)(h:Jd w v z)(f:Jc z=z)(p:z.length<=17)(cz:Cd 41 z):
 R B 12 #[v] w λe w'=>∃u rs,e=.returned u/\Og w' u rs/\R3 rs/\rs.length<=17/\Bl w w':=by
 by_cases z0:z=[]
 . refine(tA v z w h (by rw[z0];simp)).mono ?_;rintro e w' ⟨rfl,m⟩;exact⟨_,[],rfl,⟨none,0,rfl,λj r o=>by simp at o⟩,λr c=>by simp at c,DH,m⟩
 . refine(s0 (M:=41) (n:=17) (X:=20000) O O LS tB v z w h f z0 p cz).mono ?_;rintro e w' ⟨u,rs,rfl,g,i,k⟩;obtain⟨L,b,hp,_⟩:=i;have hl:=b.len LS f z0;have d:=Wm z0;unfold nA at hl;exact⟨u,rs,rfl,g,λr c=>by
    obtain⟨a,d,l⟩:=b.told LS r (hp.mem_iff.1 c);exact⟨a.1,a.2,(b.all a d).1,l⟩,by rw[hp.length_eq];omega,k⟩
def tH{rs:List RtQ}(hT:R3 rs){r:RtQ}(j:r∈rs)(n:Int)(m:Nat)(i:min (max n 0) 30=(m:Int)):
 ∃F:Int,0<=r.sign [0-Rat.divInt F (10^m),1]/\r.sign [0-Rat.divInt (F+1) (10^m),1]<0/\F.natAbs<10^1850/\
 ∀(V:H) (v:I),JI V v r->Lib.TabIs B V "internal/strconv.uint64pow10" .u64 Lib.pow10Tab->R B 19 #[v,N .i64 n] V λe w'=>e=.returned (.string ⟨(Y5 F m).toArray⟩)/\Bl V w':=by
 obtain⟨p,t,hp,h⟩:=hT r j;have a:m<=30:=O
 obtain⟨k,b,c,d,f,g⟩:=h.dg hp LS a;refine⟨Ed m (Y8 m k r).lo,?_,?_,tD tC a f g,λV v hv l=>Rk _ _ k m v r n V hv b i l⟩
 . rw[h.ok.sign_line (aS _)];exact c
 . rw[h.ok.sign_line (aS _)];exact d
def aT{rs:List RtQ}(hT:R3 rs){r:RtQ}(d:r∈rs){c:Rat}(b:DQ 97 c)(V:H)(v a:I)(hv:JI V v r)(hq:Jd V a [0-c,1]):
 R B 22 #[v,a] V λe w'=>e=.returned (N .i64 (r.sign [0-c,1]))/\Bl V w':=by
 obtain⟨p,t,hp,h⟩:=hT r d;obtain⟨K,A,l,hs⟩:=h.sn hp LS tF (Zv c) (Zu b) DH;exact Zj K A l 20000 47 v a r _ V hv hq (h.rz hp LS) hs
end M3
end
section
open M3
def F3:RtQ:=⟨-2,-1,eP,-1,1⟩
def F4:RtQ:=⟨1,2,eP,1,1⟩
theorem KL:PwOk 6 3 eP:=⟨EU,DJ,DJ,⟨[-1/2],[0,1/4],λx=>by
 rw[qU];simp[ev,eP];grind⟩,EU,ZX.mono O⟩
def Oh:NmOk 6 3 100000:=⟨DJ,DJ,DJ,DJ,DJ,DJ,DJ⟩
def aU:SzOk 6 3 100000 7 3:=⟨DJ,DJ,DJ,DJ,DJ⟩
def tI:Kj eP 1=[(eP,1)]:=EU
def tJ:(EM (kO 6 3) (Dj 6) (eP,1)).map (λr=>(r.lo,r.hi,r.w,r.sg,r.tm))=[F3,F4].map λr=>(r.lo,r.hi,r.w,r.sg,r.tm):=EU
theorem aV:F3.ord F4=-1:=EU
def Oi:dT 3 (Y8 3 20 F3).lo=dT 3 (Y8 3 20 F3).hi/\dT 3 (Y8 3 20 F3).lo=[45,49,46,52,49,53]/\dT 3 (Y8 3 20 F4).lo=dT 3 (Y8 3 20 F4).hi/\dT 3 (Y8 3 20 F4).lo=[49,46,52,49,52]:=EU
def tK:Wh 6 eP:=by
 have h:=KL.wh;rwa[show Jo eP=eP by decide +kernel]at h
def aW{r:RtQ}(d:r.w=eP)(b:Dy 1 0 r.lo)(c:Dy 1 0 r.hi)(hs:dT 3 (Y8 3 20 r).lo=dT 3 (Y8 3 20 r).hi):M3.DgOk 6 10 20 3 r:=⟨λi hi=>by
 obtain⟨d1,a⟩:=OR i 0 r b c;have ew:=(OS i r).1;rw[d]at ew;exact⟨⟨by rw[ew];exact tK,d1.smq O,a.smq O,by rw[ew];decide,DJ⟩,(Dy.mid d1 a).smq O⟩,hs⟩
namespace M3
theorem LT:[(eP,1)].flatMap (EM (kO 6 3) (Dj 6))=[F3,F4]:=by
 rw[List.flatMap_cons,List.flatMap_nil,CC];refine(List.map_inj_right ?_).1 tJ;rintro⟨a,b,c,d,e⟩ ⟨a',f,c',g,i⟩ h;grind
theorem Ms:∀r∈[F3,F4],TdOk 6 3 100000 eP 1 r:=λr a=>KL.told Oh 1 r (by grind[LT])
def tL:OrOk F3 F4:=(Ms F3 DH).or_ KL Oh aU (Ms F4 DH) KL
theorem tM(v:I)(w:H)(h:Jd w v eP):R B 12 #[v] w λe w'=>∃u,e=.returned u/\Og w' u [F3,F4]/\Bl w w':=by
 obtain⟨N,d,_⟩:=nj KL.tw DJ DJ (ZX.mono O);have l:N=1:=by
  rcases(show N=0\/N=1\/1<N by omega)with e|e|e
  . subst e;exact absurd d.en EU
  . exact e
  . exact absurd (d.st 1 e).1 EU
 subst l;refine(Rw (kO 6 3) (Dj 6) v eP w h [(eP,1)] (λV x j=>by rw[<-tI];exact WH 174 8926 1 x eP V j d) (λq t hq=>?_) DJ (by rw[LT];decide) (λr f=>(Ms r (by rw[<-LT];exact f)).ok) λr f s hs=>(Ms r (by rw[<-LT];exact f)).or_ KL Oh aU (Ms s (by rw[<-LT];exact hs)) KL).mono ?_
 . obtain⟨rfl,rfl⟩:q=eP/\t=1:=by simpa using hq
   obtain⟨G,D,k⟩:=KL.ro Oh 1;exact⟨_,_,_,_,_,_,_,_,_,k⟩
 . rintro e w' ⟨u,cs,rs,rfl,g,m,⟨c,z⟩,n,_⟩;rw[LT]at g c;have i:rs=[F3,F4]:=by
    obtain⟨a,b,rfl⟩:∃a b,rs=[a,b]:=by
     have hl:=c.length_eq;match rs,hl with
     |[a,b],_=>exact⟨a,b,rfl⟩
    have o:F3≠F4:=λe=>absurd (BV RtQ.lo e) EU;have p:=c.mem_iff (a:=F3);have y:=c.mem_iff (a:=F4);grind[aV]
   subst i;exact⟨u,rfl,aO g m,n⟩
theorem tN(w:H)(aj:Lib.TabIs B w "internal/strconv.uint64pow10" .u64 Lib.pow10Tab):R B 21 #[] w λr w'=>r=.returned (G true)/\Bl w w':=by
 have HC:=Z (λ(V:H)=>show R B 42 #[.string ⟨#[120,94,50,45,50]⟩] V λr w'=>∃u,r=.returned (.tuple #[u,N .i64 0,N .i64 0])/\Jd w' u eP/\Bl V w' from
  (Vc ⟨#[120,94,50,45,50]⟩ V).mono (λr w' h=>by
   obtain⟨u,e,p,h1,h2,h3⟩:=h;rw[LD,show Jk ⟨#[120,94,50,45,50]⟩=[120,94,50,45,50]from rfl,qT]at h2;obtain⟨rfl,rfl,h4⟩:=h2;exact⟨u,h1,h4,h3⟩))
 have HT:=Z aj;clear aj;go_enter Tryz.func21,Tryz.ntmps21
 go_upto_region 2 with(go_at_call 42;refine(HC.o _).mono ?_;clear HC;rintro e w1 ⟨u1,rfl,g1,ah⟩;obtain⟨a1,l1,c1,rfl⟩:=g1.form)
 obtain⟨V1,B1,S,hB,n1,r1,hA⟩:=so g1;rw[S,hB];have Qa:=Bt ah hA;have HR:=Z (tM _ V1 r1);have e0:=n1.cell;clear S hB g1 ah hA n1 r1;go_upto_region 3 with(go_at_call 12;refine HR.o.mono ?_;clear HR;rintro e w2 ⟨u2,rfl,g2,ai⟩;obtain⟨a9,c9,rfl,ae⟩:=g2)
 obtain⟨g,x0,x1,x2,x3,y0,y1,y2,y3,p1,U,t1,rfl,P⟩:=ae 0 F3 rfl;obtain⟨g',z0,z1,z2,z3,v0,v1,v2,v3,T,W,t2,eg,A1⟩:=ae 1 F4 rfl;obtain rfl:g=g':=by simpa using eg
 have HQ:=Z (Bt Qa ai);have tab:∀V,Bl w2 V->Lib.TabIs B V "internal/strconv.uint64pow10" .u64 Lib.pow10Tab:=λV S=>I0 HT.o (Bt HQ.o S);have H1:=Z (λ(V:H) (h:Bl w2 V)=>show R B 19 #[.agg #[z0,z1,z2,z3,v0,v1,v2,v3,T,W,t2],N .i64 3] V λe w'=>e=.returned (.string ⟨#[49,46,52,49,52]⟩)/\Bl V w' from by
  have:=Rk 6 10 20 3 _ F4 3 V (A1.below h).2.2 (aW rfl ⟨1,EU,DJ⟩ ⟨2,EU,DJ⟩ Oi.2.2.1) DJ (tab V h);rw[Oi.2.2.2]at this;exact this)
 have H2:=Z (λ(V:H) (h:Bl w2 V)=>show R B 19 #[.agg #[x0,x1,x2,x3,y0,y1,y2,y3,p1,U,t1],N .i64 3] V λe w'=>e=.returned (.string ⟨#[45,49,46,52,49,53]⟩)/\Bl V w' from by
  have:=Rk 6 10 20 3 _ F3 3 V (P.below h).2.2 (aW rfl ⟨-2,EU,DJ⟩ ⟨-1,EU,DJ⟩ Oi.1) DJ (tab V h);rw[Oi.2.1]at this;exact this)
 have H3:=Z (λ(V:H) (h:Bl w2 V)=>show R B 24 #[.agg #[x0,x1,x2,x3,y0,y1,y2,y3,p1,U,t1],.agg #[z0,z1,z2,z3,v0,v1,v2,v3,T,W,t2]] V λe w'=>e=.returned (N .i64 (-1))/\Bl V w' from by
  obtain⟨⟨K,A,l,X,J,i1,i2,i3⟩,i4,i5⟩:=tL;have:=Zk K A l X J _ _ F3 F4 V (P.below h).2.2 (A1.below h).2.2 i1 i2 i3 i4 i5;rw[aV]at this;exact this)
 have Q:=Z (λ(V:H) (h:Bl w2 V)=>show V.cell? ⟨g,0,none⟩=some x0/\V.cell? ⟨g,1,none⟩=some x1/\V.cell? ⟨g,2,none⟩=some x2/\V.cell? ⟨g,3,none⟩=some x3/\V.cell? ⟨g,4,none⟩=some y0/\V.cell? ⟨g,5,none⟩=some y1/\V.cell? ⟨g,6,none⟩=some y2/\V.cell? ⟨g,7,none⟩=some y3/\V.cell? ⟨g,8,none⟩=some p1/\V.cell? ⟨g,9,none⟩=some U/\V.cell? ⟨g,10,none⟩=some t1/\V.cell? ⟨g,11,none⟩=some z0/\V.cell? ⟨g,12,none⟩=some z1/\V.cell? ⟨g,13,none⟩=some z2/\V.cell? ⟨g,14,none⟩=some z3/\V.cell? ⟨g,15,none⟩=some v0/\V.cell? ⟨g,16,none⟩=some v1/\V.cell? ⟨g,17,none⟩=some v2/\V.cell? ⟨g,18,none⟩=some v3/\V.cell? ⟨g,19,none⟩=some T/\V.cell? ⟨g,20,none⟩=some W/\V.cell? ⟨g,21,none⟩=some t2 from by
  obtain⟨_,⟨a0,a1,a2,a3,a4,a5,a6,a7,a8,a9,am⟩,_⟩:=P.below h;obtain⟨_,⟨b0,b1,b2,b3,b4,b5,b6,b7,b8,b9,b10⟩,_⟩:=A1.below h;grind)
 clear P A1 ae tab Qa ai eg e0;have hq:Bl w2 w2.drew:=(BD _ w2).drew;obtain⟨b,c,t,y,z,C,E,F,L,M,d,f,i,j,k,m,n,o,q,s,v,x⟩:=Q.o _ hq;go_region_held3 (λw'=>w'.cell? ⟨g,0,none⟩=some x0/\w'.cell? ⟨g,1,none⟩=some x1/\w'.cell? ⟨g,2,none⟩=some x2/\w'.cell? ⟨g,3,none⟩=some x3/\w'.cell? ⟨g,4,none⟩=some y0/\w'.cell? ⟨g,5,none⟩=some y1/\w'.cell? ⟨g,6,none⟩=some y2/\w'.cell? ⟨g,7,none⟩=some y3/\w'.cell? ⟨g,8,none⟩=some p1/\w'.cell? ⟨g,9,none⟩=some U/\w'.cell? ⟨g,10,none⟩=some t1/\w'.cell? ⟨g,11,none⟩=some z0/\w'.cell? ⟨g,12,none⟩=some z1/\w'.cell? ⟨g,13,none⟩=some z2/\w'.cell? ⟨g,14,none⟩=some z3/\w'.cell? ⟨g,15,none⟩=some v0/\w'.cell? ⟨g,16,none⟩=some v1/\w'.cell? ⟨g,17,none⟩=some v2/\w'.cell? ⟨g,18,none⟩=some v3/\w'.cell? ⟨g,19,none⟩=some T/\w'.cell? ⟨g,20,none⟩=some W/\w'.cell? ⟨g,21,none⟩=some t2) (first|grind|(go_keep;done))
  (first
   |(go_at_call 19;refine(H1.o _ hq).mono ?_;clear H1;rintro e v5 ⟨rfl,a⟩;replace hq:=Bt hq a;clear a b c t y z C E F L M d f i j k m n o q s v x;obtain⟨b,c,t,y,z,C,E,F,L,M,d,f,i,j,k,m,n,o,q,s,v,x⟩:=Q.o _ hq)
   |(go_at_call 19;refine(H2.o _ hq).mono ?_;clear H2;rintro e v6 ⟨rfl,a⟩;replace hq:=Bt hq a;clear a b c t y z C E F L M d f i j k m n o q s v x;obtain⟨b,c,t,y,z,C,E,F,L,M,d,f,i,j,k,m,n,o,q,s,v,x⟩:=Q.o _ hq)
   |(go_at_call 24;refine(H3.o _ hq).mono ?_;clear H3;rintro e v7 ⟨rfl,a⟩;replace hq:=Bt hq a;clear a b c t y z C E F L M d f i j k m n o q s v x;obtain⟨b,c,t,y,z,C,E,F,L,M,d,f,i,j,k,m,n,o,q,s,v,x⟩:=Q.o _ hq))
 go_wp2_with fail
 go_ret;exact⟨rfl,Bt HQ.o hq⟩
end M3
end
namespace M3
variable{F:Int}
def tO(b:I)(m:Nat)(w:H)(d:Ji w b 10)(g:m<=30):
 R B 36 #[b,N .i64 (m:Int)] w λe w'=>∃u,e=.returned (.tuple #[u,G true])/\Ji w' u (10^m)/\Bl w w':=by
 by_cases f:m=0
 . subst f;obtain⟨a,l,c,rfl⟩:=Ji.form d;exact UD _ a l c w
 . refine UE b 10 m w d O O ?_
   have:(Jh Y (10:Int).natAbs).length=1:=DJ
   rw[this];omega
def Dat.krow(qs:List Rat):Dat where
 ty:=41
 has V v:=RowK true V v qs
 noPoly:=false
 below h hb:=RowK.below h hb
 keep h _ hp:=by
  rcases hp with hp|hp
  . cases hp
  . exact hp _ _ h
def LU{w V:H}{bs:List (Option (Nat × Dat))}{ρ:Operand->I}{x y:Operand}{dst:Option Tmp}{ty:TypeId}{ps:String}{af:Array Edge}{gd:Option (Nat × Bool)}{ds:List Dat}{T:H->I->Prop}{a b:Rat}{u1 u2:I}
(M:DI w V bs)(c:Has V u1 (.rat a))(d:Has V u2 (.rat b))(hT:∀ {o u},DI w (V.alloc o) bs->T (V.alloc o) u:=by exact λm=>m)(l:ρ x=u1:=by kernel_rfl)(n:ρ y=u2:=by kernel_rfl):
 Wr ρ { dst:=dst,op:=.buildSlice 22 2 #[(0,x),(1,y)],type:=ty,pos:=ps,after:=af,guard:=gd } V ds (.krow [a,b]) T:=by
 obtain⟨r,e,l1,c1,t,g,p,d1,rfl⟩:=Jg.form (show Jg V _ _ from c);obtain⟨s,f,l2,c2,v,i,q,j,rfl⟩:=Jg.form (show Jg V _ _ from d);exact⟨_,D (some ⟨V.heap.size,0,none⟩) 2 2,_,by go_simp,Or.inl rfl,rA c d,λ_ _ _ k=>k.alloc _,hT (M.below (Ba V _))⟩
def tS{m:Nat}(h:F.natAbs<10^1850)(d:m<=30):(Y5 F m).length<=100000:=by
 have b:=Rz h O;have a:=VN m (Yz F.natAbs);have c:(Kg m (EE m (Yz F.natAbs))).length<=(EE m (Yz F.natAbs)).length+1:=by
  unfold Kg;split
  . rw[Aw,Ai,Aq,A3];omega
  . omega
 unfold Y5;split
 . rw[Ai];split at a<;>omega
 . split at a<;>omega
def tT{Q:ByteArray}(h:F.natAbs<10^1850)(a:(⟨(if F=0 then [48]else XP F).toArray⟩:ByteArray)=Q):Q.size<=140737488351232:=by
 have b:=Rz h O;rw[<-a];show(if F=0 then [48]else XP F).toArray.size<=_;rw[Am];split
 . simp
 . unfold XP;split
   . rw[Ai];omega
   . omega
def tU{D E P:ByteArray}{a:List UInt8}{i:Nat}{b:Bool}(hD:D=⟨a.toArray⟩)(h:i<D.size)(hE:D.extract i (i+1)=E)(hs:(a.take i).foldl Ec ([],true)=(P.data.toList,b)):
 (a.take (i+1)).foldl Ec ([],true)=Ec (P.data.toList,b) D[i]/\(P++E).data.toList=P.data.toList++[D[i]]:=by
 subst hD;have hl:i<a.length:=by
  have:(⟨a.toArray⟩:ByteArray).size=a.length:=by show a.toArray.size=_;rw[Am]
  omega
 have hg:(⟨a.toArray⟩:ByteArray)[i]=a[i]:=by rfl
 rw[hg,Ch hl,List.foldl_append,hs];refine⟨rfl,?_⟩;have c:E=⟨[a[i]].toArray⟩:=by
  rw[<-hE];apply Fs;rw[ByteArray.data_extract];apply Array.ext';simp[List.extract];rw[AK hl];rfl
 rw[c,ByteArray.data_append];simp
def tV(s t:ByteArray)(n:Int)(w:H)(dj:Lib.TabIs B w "internal/strconv.uint64pow10" .u64 Lib.pow10Tab):
 R B 7 #[.string s,.string t,N .i64 n] w λr w'=>r=.returned (G true)/\Bl w w':=by
 have cP:=Ze (Jk s);have cQ:=Ze (Jk t);have lP:=(Vb (Jk s)).1;have lQ:=(Vb (Jk t)).1;have tP:=Zc (Jk s);have tQ:=Zc (Jk t);have Qv:=Z λ(V:H)=>Zd s V;have Qr:=Z λ(V:H)=>Zd t V;obtain⟨p,hp⟩:=ex ((Xk (Jk s)).1);obtain⟨q,hq⟩:=ex ((Xk (Jk t)).1);rw[hp]at cP lP tP Qv;rw[hq]at cQ lQ tQ Qr;have Qq:Cd 41 (Jj p q):=(cP.mul cQ).mono O;have Qs:(Jj p q).length<=17:=by
  by_cases p0:p=[]
  . rw[p0];exact At _
  . by_cases q0:q=[]
    . rw[q0,YH];exact At _
    . have:=JF tP tQ p0 q0;omega
 have Ui:Ke p q:=cP.times cQ O;have sP:=cP.sqs O;have sQ:=cQ.sqs O;have C2:=Z λ(V:H) (x y:I) (hx:Jd V x p) (hy:Jd V y q)=>Zf x y p q V hx hy sP sQ Ui O;have Qt:=JA p q;obtain⟨z,hz⟩:=ex (Jj p q);rw[hz]at Qq Qs C2 Qt;have Ub:=Z λ(V:H) (x:I) (hx:Jd V x z)=>tG x z V hx Qt Qs Qq;have AL:=Z λ(V:H) (h:Bl w V)=>tN V (I0 dj h);have HO:=Z (λ(V:H)=>show R B 34 #[.string ⟨#[49]⟩] V λr w'=>∃u,r=.returned (.tuple #[u,G true])/\Jg w' u 1/\Bl V w' from
  (QJ ⟨#[49]⟩ V).mono (λr w' h=>by
   obtain⟨u,h1,h2,h3⟩:=h;rw[show Jk ⟨#[49]⟩=[49]from rfl]at h1 h2;rw[ZW.2]at h1;rw[ZW.1]at h2;exact⟨u,h1,h2,h3⟩))
 obtain⟨m,hm⟩:∃m:Nat,max 0 (min n 30)=(m:Int):=⟨(max 0 (min n 30)).toNat,O⟩;obtain⟨Uw,Qc,HI,Wa⟩:=Do (show min (max n 0) 30=(m:Int)by omega) (show m<=30 by omega) (λ(V:H)=>Ex 10 O O V) λ(V:H)=>Ex 1 O O V;obtain⟨Ud,Ut,Wc,Uy⟩:=Do (λ(V:H) (u:I) (h:Ji V u 10)=>tO u m V h Qc.o) dj (show((10:Int)^m)≠0 by have:=Jx m;omega) (aQ Qc.o);have Un:=Z (λ(x:Int) (hx:x.natAbs<=10^1850) (V:H) (u v:I) (l:Ji V u x) (hv:Ji V v (10^m))=>show R B 38 #[u,v] V λe w'=>∃u,e=.returned (.tuple #[u,G true])/\Jg w' u (Rat.divInt x (10^m))/\Bl V w' by
  have h:=IV u v x (10^m) V l hv (Sok.of (R1 hx) O) (Sok.of Uy.o O);rw[BK Wc.o]at h;exact h)
 have Qz:=Z (λ(c:Rat) (hc:DQ 97 c) (V:H) (u:I) (h:RowK true V u [0-c,1])=>show R B 40 #[u] V λe w'=>∃u,e=.returned u/\Jd w' u [0-c,1]/\Bl V w' by
  have h:=Np u [0-c,1] V h ((Zu hc).sqs O);rw[Zv]at h;exact h.mono λe w' ⟨u,h1,h2,_,h3⟩=>⟨u,h1,h2,h3⟩)
 have M1:Hid (DI w w []):=Z (DI.nil w);clear cP cQ lP lQ tP tQ hp hq Qq Qs Ui sP sQ Qt hz dj;go_enter Tryz.func7,Tryz.ntmps7
 go_upto_region 2 with(go_at_call 8;refine(Qv.o _).mono ?_;clear Qv;rintro e w1 ⟨u1,rfl,dt,gu⟩;obtain⟨fm,ic,gi,rfl⟩:=Jd.form dt)
 obtain⟨V1,o⟩:=ex (w1.alloc (K #[D fm ic gi] 25));obtain⟨B1,d⟩:=ex (w1.heap.size);have a:DI w (w1.alloc (K #[D fm ic gi] 25)) [some (w1.heap.size,.poly p)]:=DI.push (M1.o.below gu) (.poly p) dt;rw[o,d]at a;rw[o];rw[d];have M2:Hid (DI w V1 [some (B1,.poly p)]):=Z (a);clear M1;clear a o d;clear dt gu;refine Yn Dd [[],[],[1],[0,2,2],[3,3,0,1,2,3]] [.poly p,.eq (Value.string t),.poly q,.poly z,.eq undef] [4] (λb _ V=>DI w V [some (B1,if b.getD 0 false then .poly z else .poly p)]) M2.o.drew (SR (.vl rfl λ_ j=>Ez 0 j)<|SR (.vl rfl λ_ _=>mv)<|SR (.cl λh _=>c1 (h.e 1) (Qr.o _))<|SR (.cl λh _=>C2.o _ _ _ (h.g 0) (h.g 2))<|SR (.wr rfl λh j=>E0 0 j (h.g 3)) Stp.end_)
  λf V3 hF a=>?_
 refine DO ?_;rw[hF.e 1];have a:=Dn a;replace a:=Z a;clear hF;clear M2 C2 Qr;obtain⟨a1,l1,c1,n1,r1⟩:=a.o.poly2 (i:=0) rfl;have Qk:=Z a.o.2.2;have N1:=Z (And.intro n1 r1);clear a n1 r1;have hq:=BD V3.heap.size V3;have e0:=N1.o.1.cell;go_upto_region 4 with(go_at_call 12;refine(Ub.o _ _ (N1.o.2.below hq)).mono ?_;clear Ub;rintro e v2 ⟨u2,rs,rfl,gR,hT,hl,ay⟩;have hq:=Bt hq ay;clear ay e0;obtain⟨a9,c9,rfl,gR⟩:=gR)
 obtain⟨GR,HT,HL⟩:=DY gR hT hl;have M3:Hid (DI w v2 []):=Z ((DI.nil w).below (Bt Qk.o hq));clear gR hT hl hq N1 Qk;go_upto_region 5 with(go_at_call 34;refine(HO.o _).mono ?_;clear HO;rintro e am ⟨u902,rfl,l,C⟩;obtain⟨f9,bm,dz,ce,fh,bz,dx,cn,rfl⟩:=Jg.form l)
 have M:=Bt C (Ba am (K #[G f9,D bm dz ce,G fh,D bz dx cn] 41))
 obtain⟨V4,o⟩:=ex (am.alloc (K #[G f9,D bm dz ce,G fh,D bz dx cn] 41));obtain⟨B2,d⟩:=ex (am.heap.size);have a:DI w (am.alloc (K #[G f9,D bm dz ce,G fh,D bz dx cn] 41)) [some (am.heap.size,.rat 1)]:=DI.push (M3.o.below C) (.rat 1) l;rw[o,d]at a;rw[o]at M ⊢;rw[d];have M4:Hid (DI w V4 [some (B2,.rat 1)]):=Z (a);have Up:=Z M;clear M3 a o d l C M;go_upto_region 6 with fail
 have M:=Bt Up.o (Ba V4 (K #[G false,D none 0 0,G false,D none 0 0] 41))
 obtain⟨V5,o⟩:=ex (V4.alloc (K #[G false,D none 0 0,G false,D none 0 0] 41));obtain⟨B3,d⟩:=ex (V4.heap.size);have a:=M4.o.push (.rat 0) (Xx V4);rw[d]at a;replace a:DI w (V4.alloc (K #[G false,D none 0 0,G false,D none 0 0] 41)) [some (B2,.rat 1),some (B3,.rat 0)]:=a;rw[o]at a M ⊢;rw[d];have M5:Hid (DI w V5 [some (B2,.rat 1),some (B3,.rat 0)]):=Z a;have Uh:=Z M;clear M4 Up a o d M;go_upto_region 8 with(go_at_call 35;refine(HI.o _).mono ?_;clear HI;rintro e an ⟨u907,rfl,l,C⟩;obtain⟨bn,ed,cj,rfl⟩:=Ji.form l)
 rw[show decide ((10:Int)<0)=false from rfl]at l;have M:=Bt Uh.o (Bt C (Ba an (K #[G false,D bn ed cj] 39)))
 obtain⟨V7,o⟩:=ex (an.alloc (K #[G false,D bn ed cj] 39));obtain⟨B4,d⟩:=ex (an.heap.size);have a:DI w (an.alloc (K #[G false,D bn ed cj] 39)) [some (B2,.rat 1),some (B3,.rat 0),some (an.heap.size,.int 10)]:=DI.push (M5.o.below C) (.int 10) l;rw[o,d]at a;rw[o]at M ⊢;rw[d];have M7:Hid (DI w V7 [some (B2,.rat 1),some (B3,.rat 0),some (B4,.int 10)]):=Z a;have Uk:=Z M;clear M5 Uh a o d l C M;obtain⟨s4,a4,l4,c4,n4,i4⟩:=M7.o.int (i:=2) rfl;obtain⟨Wb,Uu⟩:=n4.cp;have U:=Z (Ud.o V7 _ i4);clear Ud;go_upto_region 9 with(go_at_call 36;refine U.o.mono ?_;clear U;rintro e ap ⟨u908,rfl,l,C⟩;obtain⟨fg,bu,ei,ck,rfl⟩:=Ji.form2 l)
 clear n4 i4 Wb Uu;have M:=Bt Uk.o (Bt C (Ba ap (K #[G fg,D bu ei ck] 39)))
 obtain⟨T,o⟩:=ex (ap.alloc (K #[G fg,D bu ei ck] 39));obtain⟨B5,d⟩:=ex (ap.heap.size);have a:DI w (ap.alloc (K #[G fg,D bu ei ck] 39)) [some (B2,.rat 1),some (B3,.rat 0),some (B4,.int 10),some (ap.heap.size,.int (10^m))]:=DI.push (M7.o.below C) (.int (10^m)) l;rw[o,d]at a;rw[o]at M ⊢;rw[d];have W:Hid (DI w T [some (B2,.rat 1),some (B3,.rat 0),some (B4,.int 10),some (B5,.int (10^m))]):=Z a;have Uv:=Z M;clear M7 Uk a o d l C M;obtain⟨NN,df⟩:=ex (rs.length);have Ur:=Z df;rw[df];clear df hm;go_upto_region 10 with fail
 go_loopw [16] (λiv wr=>∃k:Nat,k<=NN/\iv=N .i64 (k:Int)/\Hid (Bl T wr)) λiv _=>NN-(intOf iv).toNat
 case atStart=>exact⟨0,At _,rfl,Z (BD _ _)⟩
 case round=>
  obtain⟨k,hk,rfl,HB⟩:=hrel;have jf:(NN:Int)<=17:=by have:=HL.o;have:=Ur.o;omega
  by_cases jg:k<NN
  . obtain⟨r,er⟩:∃r,rs[k]?=some r:=⟨_,AQ (by have:=Ur.o;omega)⟩;obtain⟨g,x0,x1,x2,x3,x4,x5,x6,x7,x8,x9,jc,ea,A0⟩:=GR.o k r er;subst ea;have A8:=A0.below Uv.o;replace A0:=A8.below HB.o;have Qg:=List.mem_of_getElem? er;obtain⟨F,gy,ia,de,hD⟩:=tH HT.o Qg n m Uw.o;have Qe:=Z (And.intro gy (And.intro ia de));have HD:=Z λ(V:H) (h:Bl wr V)=>hD V _ (A0.below h).2.2 (I0 Ut.o (W.o.2.2.trans ((Bt HB.o h).mono W.o.2.2.size)));obtain⟨tl,bg⟩:=ex (Y5 F m);rw[bg]at HD;obtain⟨L,aq⟩:=ex ((⟨tl.toArray⟩:ByteArray):ByteArray);rw[aq]at HD;have Us:=Z bg;have Uj:=Z aq.symm;have Qp:=Z (show L.size=tl.length/\tl.length<=100000 by
     rw[<-aq,<-bg];exact⟨by show(Y5 F m).toArray.size=_;rw[Am],tS de Qc.o⟩)
    obtain⟨k0,k1,k2,k3,k4,k5,k6,k7,k8,k9,ai⟩:=A0.2.1;have Qu:=Z A8;have Uf:=Z Qg;have jh:¬((k:Int)<0):=O
    have Wg:(k:Int)<(NN:Int):=O
    clear A0 A8 Qg er gy ia de hD bg aq GR;go_upto_region 13 with(go_at_call 19;refine(HD.o _ (BD _ _)).mono ?_;clear HD;rintro e wd ⟨rfl,gv⟩)
    have Uc:=Z gv;clear gv k0 k1 k2 k3 k4 k5 k6 k7 k8 k9 ai;go_upto_region 16 with fail
    go_loop [18,19,20] (λpv lv jv=>∃(P:ByteArray) (b:Bool) (j:Nat),pv=.string P/\lv=G b/\jv=N .i64 (j:Int)/\j<=L.size/\P.size<=j/\Hid ((tl.take j).foldl Ec ([],true)=(P.data.toList,b))) λ_ _ jv=>L.size-(intOf jv).toNat
    case atStart=>exact⟨⟨#[]⟩,true,0,rfl,rfl,rfl,At _,Aa _,Z rfl⟩
    case round=>
     obtain⟨P,b,j,rfl,rfl,rfl,hj,iz,HS⟩:=hrel;rcases A6 j L.size with jb|ja
     . have Qw:(j:Int)<(L.size:Int):=O
       have jj:IntKind.i64.wrap ((j:Int)+1)=(j:Int)+1:=by rw[BP];have:=Qp.o;omega
       have i0:(0:Int)<=(j:Int):=O
       have i1:(j:Int)<=(j:Int)+1:=O
       have i2:(j:Int)+1<=(L.size:Int):=O
       obtain⟨E,hE⟩:=ex (L.extract j (j+1));have Qx:=Z (show E.size=1 by rw[<-hE,A2];omega);have Qf:=Z (tU Uj.o jb hE HS.o);have yE:¬9223372036854775807<P.size+E.size:=by have:=Qx.o;have:=Qp.o;omega
       by_cases ae:L[j]=46
       . have b1:((L[j].toNat:Int)==46)=true:=by rw[ae];rfl
         have S:=Z (show(tl.take (j+1)).foldl Ec ([],true)=(P.data.toList,b)by rw[Qf.o.1,ae,Ec,BH (Or.inl rfl)]);clear ae Qf;go_wp2_with fail
         go_round
         case rel=>exact⟨P,b,j+1,rfl,rfl,by first|rfl|simp,O,O,Z S.o⟩
         case measure=>simp[intOf];omega
       . have b0:¬(L[j].toNat:Int)=46:=λh=>ae (Bi.1 (by show L[j].toNat=46;omega));have b1:((L[j].toNat:Int)==46)=false:=by rw[BW];exact b0
         have Qh:=Z (show(P++E).size<=j+1 by rw[ByteArray.size_append,Qx.o];omega);clear b0;by_cases X:b=true/\L[j]=48
         . obtain⟨rfl,X⟩:=X;have b3:((L[j].toNat:Int)==48)=true:=by rw[X];rfl
           have S:=Z (show(tl.take (j+1)).foldl Ec ([],true)=(P.data.toList,true)by rw[Qf.o.1,X,Ec,BH (Or.inr ⟨rfl,rfl⟩)]);clear ae X Qf;go_wp2_with fail
           go_round
           case rel=>exact⟨P,true,j+1,rfl,rfl,by first|rfl|simp,O,O,Z S.o⟩
           case measure=>simp[intOf];omega
         . have S:=Z (show(tl.take (j+1)).foldl Ec ([],true)=((P++E).data.toList,b&&decide (L[j]=45))by rw[Qf.o.1,Qf.o.2,Ec,BG (by rintro(e|e);exact ae e;exact X e)]);have gr:b=false\/((L[j].toNat:Int)==48)=false:=by
            cases b with
            |false=>exact Or.inl rfl
            |true=>exact Or.inr (by rw[BW];exact λh=>X ⟨rfl,Bi.1 (by show L[j].toNat=48;omega)⟩)
           by_cases aj:L[j]=45
           . have b4:((L[j].toNat:Int) != 45)=false:=by rw[aj];rfl
             rw[BK aj,Bool.and_true]at S;clear ae X aj Qf;rcases gr with rfl|b3
             . go_wp2_with fail
               go_round
               case rel=>exact⟨P++E,false,j+1,rfl,rfl,by first|rfl|simp,O,Qh.o,Z S.o⟩
               case measure=>simp[intOf];omega
             . cases b
               . go_wp2_with fail
                 go_round
                 case rel=>exact⟨P++E,false,j+1,rfl,rfl,by first|rfl|simp,O,Qh.o,Z S.o⟩
                 case measure=>simp[intOf];omega
               . go_wp2_with fail
                 go_round
                 case rel=>exact⟨P++E,true,j+1,rfl,rfl,by first|rfl|simp,O,Qh.o,Z S.o⟩
                 case measure=>simp[intOf];omega
           . have b4:((L[j].toNat:Int) != 45)=true:=by rw[bne_iff_ne];exact λh=>aj (Bi.1 (by show L[j].toNat=45;omega))
             rw[BL aj,Bool.and_false]at S;clear ae X aj Qf;rcases gr with rfl|b3
             . go_wp2_with fail
               go_round
               case rel=>exact⟨P++E,false,j+1,rfl,rfl,by first|rfl|simp,O,Qh.o,Z S.o⟩
               case measure=>simp[intOf];omega
             . cases b
               . go_wp2_with fail
                 go_round
                 case rel=>exact⟨P++E,false,j+1,rfl,rfl,by first|rfl|simp,O,Qh.o,Z S.o⟩
                 case measure=>simp[intOf];omega
               . go_wp2_with fail
                 go_round
                 case rel=>exact⟨P++E,false,j+1,rfl,rfl,by first|rfl|simp,O,Qh.o,Z S.o⟩
                 case measure=>simp[intOf];omega
     . have Qw:¬(j:Int)<(L.size:Int):=O
       have HP:=Z (show P.data.toList=if F=0 then []else XP F by
        have h:=HS.o;rw[Af (by have:=Qp.o.1;omega)]at h;rw[<-Rn F m,Us.o];unfold Rl;rw[h])
       obtain⟨Q,hQ⟩:=ex ((⟨(if F=0 then [48]else XP F).toArray⟩:ByteArray):ByteArray);have HQ:=Z hQ;obtain⟨cz,gw⟩:=ex (decide (F=0):Bool);have Qj:=Z gw;have Ug:=Z (Bt HB.o Uc.o);have M9:=Z ((DI.nil T).below Ug.o);clear ja hj iz HS Us Uj hQ gw;go_upto_region 22 with fail
       go_cut [95] λcv w'=>cv=G cz/\w'=wd
       case first=>
        cases cz with
        |true=>
         have F0:=BZ Qj.o;obtain rfl:P=⟨#[]⟩:=by
          have h:=HP.o;rw[BH F0]at h;exact Fs (Array.ext' h)
         go_wp2_with fail
         go_meet
         case rel=>exact⟨rfl,rfl⟩
        |false=>
         have F0:=of_decide_eq_false Qj.o;have ji:P.toList.isEmpty=false:=by
          have h:=HP.o;rw[BG F0]at h;rw[show P=⟨P.data.toList.toArray⟩by simp,ByteArray.toList_mk,h];have:=Ro F;cases e:XP F with
          |nil=>exact absurd e this
          |cons _ _=>rfl
         clear F0;go_wp2_with fail
         go_meet
         case rel=>exact⟨rfl,rfl⟩
       case rest=>
        obtain⟨rfl,rfl⟩:=hcut;go_upto_if 95 with fail
        go_cut [18] λpv w'=>pv=.string Q/\w'=wc
        case first=>
         cases cz with
         |true=>
          have Qm:Q=⟨#[48]⟩:=by rw[<-HQ.o,BH (BZ Qj.o)]
          go_wp2_with fail
          go_meet
          case rel=>exact⟨by rw[Qm],rfl⟩
         |false=>
          have Qm:Q=P:=by
           have h:=HP.o;rw[BG (of_decide_eq_false Qj.o)]at h;rw[<-HQ.o,BG (of_decide_eq_false Qj.o),<-h]
          have Qk:=Z Qm;clear Qm;go_wp2_with fail
          go_meet
          case rel=>exact⟨by rw[Qk.o],rfl⟩
        case rest=>
         obtain⟨rfl,rfl⟩:=hcut;have Ua:=Z (λ(V:H)=>show R B 37 #[.string Q] V λe w'=>∃u,e=.returned (.tuple #[u,G true])/\Ji w' u F/\Bl V w' from
          (TM Q (tT Qe.o.2.2 HQ.o) V).mono λe w' h=>by
           have hg:=tE Qe.o.2.2;rw[show Jk Q=(if F=0 then [48]else XP F)by rw[<-HQ.o];unfold Jk;simp]at h;obtain⟨u,h1,h2⟩:=h.1 hg.1;rw[hg.2]at h2;exact⟨u,h1,h2,h.2.2⟩)
         clear HP HQ Qj Qp Uc Qw;clear Ug;go_upto_region 25 with(go_at_call 37;refine(Ua.o _).mono ?_;clear Ua;rintro e bi ⟨u924,rfl,l,C⟩;obtain⟨ir,fo,ie,gj,rfl⟩:=Ji.form2 l)
         obtain⟨fi,o⟩:=ex (bi.alloc (K #[G ir,D fo ie gj] 39));obtain⟨B6,d⟩:=ex (bi.heap.size);have a:DI T (bi.alloc (K #[G ir,D fo ie gj] 39)) [some (bi.heap.size,.int F)]:=DI.push (M9.o.below C) (.int F) l;rw[o,d]at a;rw[o];rw[d];have Qo:Hid (DI T fi [some (B6,.int F)]):=Z a;clear M9 a o d l C;obtain⟨s5,a5,l5,c5,n5,i5⟩:=(W.o.below Qo.o.2.2).int (i:=3) rfl;obtain⟨We,Ux⟩:=n5.cp;obtain⟨s6,a6,l6,c6,n6,i6⟩:=Qo.o.int (i:=0) rfl;obtain⟨Uz,Wd⟩:=n6.cp;have U:=Z (Un.o F (FO Qe.o.2.2) fi _ _ i6 i5);go_upto_region 26 with(go_at_call 38;refine U.o.mono ?_;clear U;rintro e bj ⟨u925,rfl,l,C⟩;obtain⟨iu,fx,ig,gn,iw,gh,ib,gq,rfl⟩:=Jg.form l)
         clear n5 i5 We Ux n6 i6 Uz Wd;obtain⟨lo,bf⟩:=ex (Rat.divInt F (10^m));rw[bf]at l;obtain⟨hi,az⟩:=ex (Rat.divInt (F+1) (10^m));have F1:(F+1).natAbs<=10^1850:=by
          have h:=Qe.o.2.2;generalize 10^1850=A at *;omega
         obtain⟨Uq,Qi,Ql,Um⟩:=Do (λ(V:H) (u v:I) (l:Ji V u (F+1)) (hv:Ji V v (10^m))=>az ▸ Un.o (F+1) F1 V u v l hv) (show DQ 97 lo/\DQ 97 hi from⟨bf ▸ aR Qc.o (FO Qe.o.2.2),az ▸ aR Qc.o F1⟩) (show 0<=r.sign [0-lo,1]/\r.sign [0-hi,1]<0 from⟨bf ▸ Qe.o.1,az ▸ Qe.o.2.1⟩) λ(V:H) (u v:I) (l:Ji V u F) (hv:Ji V v 1)=>Lk u v F 1 V l hv (by have:=(R1 (FO Qe.o.2.2)).words;omega) DJ;clear bf az F1;obtain⟨iy,o⟩:=ex (bj.alloc (K #[G iu,D fx ig gn,G iw,D gh ib gq] 41));obtain⟨B7,d⟩:=ex (bj.heap.size);have a:DI T (bj.alloc (K #[G iu,D fx ig gn,G iw,D gh ib gq] 41)) [some (B6,.int F),some (bj.heap.size,.rat lo)]:=DI.push (Qo.o.below C) (.rat lo) l;rw[o,d]at a;rw[o];rw[d];have Qy:Hid (DI T iy [some (B6,.int F),some (B7,.rat lo)]):=Z a;clear Qo a o d l C;refine Yn Dd [[],[],[0,1,1],[],[2,3,2],[4],[5],[5],[],[8,6,4,0,1,2,3,4,5,6,8],[7,9,0,1,2,3,4,5,6,7,8,9]] [.int F,.int 1,.int (F+1),.int (10^m),.tup1 (.rat hi),.tup1 (.rat hi),.rat hi,.eq (G true),.ptr,.eq undef,.eq (G true)] [8,9] (λb v V=>DI T V [some (B6,.int F),some (B7,.rat lo),nb b v 0 1 (.rat 0) (.rat hi)]) (Qy.o.none).drew (SR (.vl rfl λ_ j=>Ek 0 j)<|SR (.cl λ_ _=>Wa.o _)<|SR (.cl λh _=>Um.o _ _ _ (h.g 0) (h.g 1))<|SR (.vl rfl λ_ j=>Ek 3 (W.o.below j.2.2))<|SR (.cl λh _=>Lw (Uq.o _ _ _ (h.g 2) (h.g 3)))<|SR (.vl rfl λh _=>mw (h.g 4))<|SR (.vl rfl λh _=>L2 (h.g 5))<|SR (.vl rfl λh _=>L3 (h.g 5))<|SR (.wr rfl λ_ j=>L1 2 j)<|SR (.wr rfl λh j=>KZ 2 j (h.g 6) (hp:=h.g 8))<|SR (.vl rfl λh _=>aw (h.g 7)) Stp.end_)
          λf jd hF a=>?_
         refine DO ?_;rw[hF.e 7,hF.e 10];obtain⟨B8,co⟩:=hF.p 8;have a:=Dn a;simp only[co]at a;rw[co];have Ue:=Z a;clear a hF co Qy Uq Um;go_upto_region 27 with fail
         refine Yn Dd [[],[],[0,1],[],[2,3],[4,2],[],[6,5,5,0,1,2,3,4,5,6]] [.rat 0,.rat lo,.rat (0-lo),.rat 1,.krow [0-lo,1],.poly [0-lo,1],.ptr,.eq undef] [4,6,7] (λb v V=>DI T V [some (B6,.int F),some (B7,.rat lo),some (B8,.rat hi),nb b v 1 2 (.poly []) (.poly [0-lo,1])]) (Ue.o.none).drew (SR (.vl rfl λ_ j=>EC 1 (W.o.below j.2.2))<|SR (.vl rfl λ_ j=>EC 1 j)<|SR (.cl λh _=>I3 _ _ 0 lo _ (h.g 0) (h.g 1) FV (Sq.of Qi.o.1 O))<|SR (.vl rfl λ_ j=>EC 0 (W.o.below j.2.2))<|SR (.wr rfl λh j=>LU j (h.g 2) (h.g 3))<|SR (.cl λh _=>Qz.o lo Qi.o.1 _ _ (h.g 4))<|SR (.wr rfl λ_ j=>IW 3 j)<|SR (.wr rfl λh j=>E0 3 j (h.g 5) (hp:=h.g 6)) Stp.end_)
          λf je hF a=>?_
         refine DO ?_;obtain⟨BA,hB⟩:=hF.p 6;have a:=Dn a;simp only[hB]at a;rw[hB];have Uo:=Z a;clear a hF hB Ue;go_upto_region 28 with fail
         refine Yn Dd [[],[],[0,1],[],[2,3],[4,2],[],[6,5,5,0,1,2,3,4,5,6]] [.rat 0,.rat hi,.rat (0-hi),.rat 1,.krow [0-hi,1],.poly [0-hi,1],.ptr,.eq undef] [4,6,7] (λb v V=>DI T V [some (B6,.int F),some (B7,.rat lo),some (B8,.rat hi),some (BA,.poly [0-lo,1]),nb b v 1 2 (.poly []) (.poly [0-hi,1])]) (Uo.o.none).drew (SR (.vl rfl λ_ j=>EC 1 (W.o.below j.2.2))<|SR (.vl rfl λ_ j=>EC 2 j)<|SR (.cl λh _=>I3 _ _ 0 hi _ (h.g 0) (h.g 1) FV (Sq.of Qi.o.2 O))<|SR (.vl rfl λ_ j=>EC 0 (W.o.below j.2.2))<|SR (.wr rfl λh j=>LU j (h.g 2) (h.g 3))<|SR (.cl λh _=>Qz.o hi Qi.o.2 _ _ (h.g 4))<|SR (.wr rfl λ_ j=>IW 4 j)<|SR (.wr rfl λh j=>E0 4 j (h.g 5) (hp:=h.g 6)) Stp.end_)
          λf ah hF a=>?_
         refine DO ?_;obtain⟨BB,hB⟩:=hF.p 6;have a:=Dn a;simp only[hB]at a;rw[hB];have Qn:=Z a;clear a hF hB Uo;go_upto_region 29 with fail
         obtain⟨aA,lA,cA,ii,il⟩:=Qn.o.poly2 (i:=3) rfl;obtain⟨aB,lB,cB,ij,io⟩:=Qn.o.poly2 (i:=4) rfl;have Qd:=Z Qn.o.2.2;obtain⟨H1,H2,U⟩:=DY (λ(V:H) (h:Bl ah V)=>aT HT.o Uf.o Qi.o.1 V _ _ (Qu.o.below (Bt Qd.o h)).2.2 (il.below h)) (λ(V:H) (h:Bl ah V)=>aT HT.o Uf.o Qi.o.2 V _ _ (Qu.o.below (Bt Qd.o h)).2.2 (io.below h)) λ(V:H) (h:Bl ah V)=>And.intro (Qu.o.below (Bt Qd.o h)).2.1 (And.intro (boxed_below ii h).cell (boxed_below ij h).cell);obtain⟨sa,dh⟩:=ex (r.sign [0-lo,1]);obtain⟨sb,di⟩:=ex (r.sign [0-hi,1]);rw[dh]at H1;rw[di]at H2;have f0:0<=sa:=by have:=Ql.o.1;rw[dh]at this;omega
         have f1:decide (sa<0)=false:=BL O;clear f0;have f2:decide (0<=sb)=false:=BL (by have:=Ql.o.2;rw[di]at this;omega);clear dh di ii il ij io Qn;go_cut [146] λcv wx=>cv=G false/\Hid (Bl ah wx)
         case first=>
          have hq:Bl ah ah.drew:=(BD _ ah).drew;obtain⟨⟨k0,k1,k2,k3,k4,k5,k6,k7,k8,k9,ai⟩,ka,kb⟩:=U.o _ hq;go_region_held3 (λw'=>w'.cell? ⟨g,k*11,none⟩=some x0/\w'.cell? ⟨g,k*11+1,none⟩=some x1/\w'.cell? ⟨g,k*11+2,none⟩=some x2/\w'.cell? ⟨g,k*11+3,none⟩=some x3/\w'.cell? ⟨g,k*11+4,none⟩=some x4/\w'.cell? ⟨g,k*11+5,none⟩=some x5/\w'.cell? ⟨g,k*11+6,none⟩=some x6/\w'.cell? ⟨g,k*11+7,none⟩=some x7/\w'.cell? ⟨g,k*11+8,none⟩=some x8/\w'.cell? ⟨g,k*11+9,none⟩=some x9/\w'.cell? ⟨g,k*11+10,none⟩=some jc/\w'.cell? ⟨BA,0,none⟩=some (D aA lA cA)/\w'.cell? ⟨BB,0,none⟩=some (D aB lB cB)) (first|(with_reducible exact⟨k0,k1,k2,k3,k4,k5,k6,k7,k8,k9,ai,ka,kb⟩)|(go_keep;done))
          (first
           |(go_at_call 22;refine(H1.o _ hq).mono ?_;clear H1;rintro e jk ⟨rfl,C⟩;replace hq:=Bt hq C;clear C k0 k1 k2 k3 k4 k5 k6 k7 k8 k9 ai ka kb;obtain⟨⟨k0,k1,k2,k3,k4,k5,k6,k7,k8,k9,ai⟩,ka,kb⟩:=U.o _ hq)
           |(go_at_call 22;refine(H2.o _ hq).mono ?_;clear H2;rintro e jl ⟨rfl,C⟩;replace hq:=Bt hq C;clear C k0 k1 k2 k3 k4 k5 k6 k7 k8 k9 ai ka kb;obtain⟨⟨k0,k1,k2,k3,k4,k5,k6,k7,k8,k9,ai⟩,ka,kb⟩:=U.o _ hq))
          go_wp2_with fail
          go_meet
          exact⟨rfl,Z hq⟩
         case rest=>
          obtain⟨rfl,ix⟩:=hcut;go_wp2_with fail
          go_roundw
          case rel=>exact⟨k+1,O,by first|rfl|simp,Z (Bt Qd.o ix.o)⟩
          case measure=>simp[intOf];omega
  . have Wg:¬(k:Int)<(NN:Int):=O
    have Ul:=Z (Bt W.o.2.2 HB.o);go_wp2_with(go_at_call 21;refine(AL.o _ Ul.o).mono ?_;clear AL;rintro e v3 ⟨rfl,ay⟩)
    go_ret;exact⟨rfl,Bt Ul.o ay⟩
