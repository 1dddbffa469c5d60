import Derived.Test.YthnpdhlepglmlaaGreatDoorW44
import Derived.Test.YthnpdhlepglmlaaGreatDoorW46
set_option linter.all false
open Go.Value renaming slice->E,string->G,int->I
open Go.Proofs.Tryz renaming prog->F
open Go renaming World->H,Value->R,Calls->Q
open Go.IntKind renaming i64->B
set_option maxRecDepth 99999
set_option maxHeartbeats 0
namespace Go.Proofs.YthnpdhlepglmlaaGreatDoor
open Proofs.Tryz
open Go.RowKit Go.Shelf
attribute [local go_sem] Oper.semAt_some
namespace M3
open Go.RowKit Go.Shelf Go.Lib Go.Sort
section
variable {w:World} {g n:Nat} {os:Array Obj} {cur:Array Value} {e:TypeId} {fr:Nat × Nat}
theorem uJ(F:Array R)(hb:w.heap[g]?=some (.cells cur e fr)):(grow (putRow id (Sort.ahead w n) g 0 F) os).heap[g]?=some (.cells (putCells id 0 F cur) e fr):=by
 grind[heap_grow_old,putRow,mapBlock,Sort.ahead,onCells]
theorem bH(F:Array R):w.grownBy (grow (putRow id (Sort.ahead w n) g 0 F) os) (some g):=by
 refine⟨J,J,J,DH,λk hk a=>?_⟩;grind[heap_grow_old,putRow,mapBlock,Sort.ahead]
theorem uK(cur F:Array R)(h:F.size<=cur.size):(putCells id 0 F cur).toList.take F.size=F.toList:=by
 apply List.ext_getElem?;intro j;grind[putCells]
end
def bI{α:Type}(d:Array α)(m:Nat)(h:d.size=m):d.extract 0 m=d:=by subst h;simp
theorem uL{α:Type}[Inhabited α](enc:α->List R)(hk:∀x,(enc x).length=11)(d:Array α)(j:Nat)(a:j<d.size):((flatK enc 11 d).toList.drop (j*11)).take 11=enc d[j]!:=by
 apply List.ext_getElem?;intro c;grind[flatK]
theorem uM(base n:Nat)(V:H)(u:R)(cs:List R)(rs:List RtQ)(hn:rs.length=n)(h0:0<n)(ap:V.ownsRow base 60 11 u n cs)(aq:D6 V cs rs)(hb:base<=V.heap.size)(an:∀r∈rs,r.Ok)(bi:n<4611686018427387904)
(hO:∀r∈rs,∀s∈rs,∀(W:H) (P S:R),JJ W P r->JJ W S s->Q F 53 #[P,S] W λe w'=>e=.returned (I B (r.ord s))/\RowKit.Below W.heap.size W w'):
 Q F 52 #[u,.func (.func 53) #[] #[]] V λe w'=>e=.returned (.tuple #[])/\∃L rs',w'.ownsRow base 60 11 u n L/\D6 w' L rs'/\(rs'.Perm rs/\rs'.Pairwise λr s=>¬s.ord r<0)/\∀q w0,q<=base->RowKit.Below q w0 V->RowKit.Below q w0 w':=by
 rcases ap.2 with⟨_,h⟩|⟨g,cap,cur,rfl,hg,M,ae,am,ah,bj⟩
 . omega
 haveI:Inhabited (Fin n):=⟨⟨0,h0⟩⟩
 have U:g<V.heap.size:=(Ab.1 M).1;obtain⟨f,N⟩:∃f:Fin n->RtQ,f=λi=>rs[i.1]'(by have:=i.2;omega):=⟨_,J⟩;obtain⟨enc,he⟩:∃enc:Fin n->List R,enc=λi=>(cs.drop (i.1*11)).take 11:=⟨_,J⟩;have z:∀i,f i∈rs:=λi=>by grind
 have p:∀i,JJ V (.agg (enc i).toArray) (f i):=λi=>by
  rw[he,N];exact aq.2 i.1 _ (Au _)
 have hk:∀i,(enc i).length=11:=λi=>by grind
 have h1:∀i,∀v∈enc i,v.oneCell'=true:=λi v hv=>(JJ.one (p i)).2 v (by simpa using hv);have kp:∀(m:Nat) (os:Array Obj) (c:Array (Fin n)),Kp V (sortWorldK enc 11 V g 0 m c os):=λm os c=>by
  have o:=bH (w:=V) (g:=g) (n:=m) (os:=os) (flatK enc 11 c);exact KeepR.kpo ⟨o.os,o.tape,o.output,o.size,λb hb _ h2=>o.block b hb λe=>by
   grind⟩
 obtain⟨d,D⟩:∃d:Array (Fin n),d=Array.ofFn (λi:Fin n=>i):=⟨_,J⟩;have C:d.size=n:=by rw[D];simp
 have bg:∀j (l:j<n),d[j]! = ⟨j,l⟩:=λj l=>by
  rw[getElem!_pos d j O];subst D;simp
 have hH:HoldsK enc 11 V g 0 d:=λj l=>by
  grind[size_flatK,get_flatK,World.frozen?,World.cell?]
 have T:CmpLays F 53 #[] enc 11 (λi j=>(f i).ord (f j)) g 0 d.size V:=λm os c _ x y=>by
  refine(uI (hO _ (z x) _ (z y) (sortWorldK enc 11 V g 0 m c os) _ _ ((kp m os c).root (p x)) ((kp m os c).root (p y))) λw' h=>by cases h.1).mono ?_;rintro e w' ⟨⟨rfl,hb⟩,ai⟩;exact⟨J,grown_of hb ai⟩
 have X:∀args w,(callFunc 53 args).run F w=.ok (.enter 53 args) w:=BW func53 (by kernel_rfl) J;have A:=AnyQ.slices_SortFunc Tryz.sortRt 11 (λw=>by kernel_rfl) (λw=>by kernel_rfl) enc hk h1 (λi j=>(f i).ord (f j)) (tN f λi=>an _ (z i)) 53 #[] g 0 cap d V X T hH U O;rw[C]at A;change Q F 52 _ _ _ at A
 refine A.mono ?_;rintro e w' ⟨rfl,a,m,os,hp,hs,rfl⟩;have K:a.size=n:=hp.1.trans C;refine⟨J,(flatK enc 11 a).toList,a.toList.map f,⟨by simp[K],Or.inr ⟨g,cap,_,J,hg,uJ _ M,ae,am,by simp[putCells,ah],?_⟩⟩,⟨DH,λj r e=>?_⟩,⟨?_,?_⟩,λq w0 hq hw=>?_⟩
 . grind[uK,size_flatK]
 . rw[CW]at e;obtain⟨x,t,rfl⟩:=CP.1 e;rw[Array.getElem?_toList]at t;obtain⟨l,t⟩:=Ab.1 t;rw[uL enc hk a j l,getElem!_pos a j l,t];exact(kp m os a).root (p x)
 . have h:=hp.2.2;rw[bI a n K,bI d n C]at h;have h2:=h.map f;have e:d.toList.map f=rs:=by
    subst D;refine List.ext_getElem (by simp[hn]) λi i1 i2=>?_;simp[N]
   grind
 . rw[List.pairwise_map,List.pairwise_iff_getElem];intro i j hi l aj;have h:=hs i j (Ap _) aj DG;grind[ltOf]
 . exact hw.grown (bH _) (Ac hq hb) λk hk=>by
    grind
end M3
namespace M3
open Go.RowKit Go.Shelf Go.Lib
def uN(p:Option Addr)(cap:Nat)(a:R)(w:H):
 Q F 195 #[E p 0 cap,I B 0,I B 0,a] w λe w'=>e=.returned (.tuple #[])/\w'=w:=by
 go_enter func195,ntmps195
 go_wp2;refine wp_loop_rounds 1 ?_;rw[rounds_succ];go_wp2;go_end0;exact⟨J,J⟩
def uO(p:Option Addr)(cap:Nat)(b:Int)(a:R)(w:H):
 Q F 121 #[E p 0 cap,I B 0,I B 0,I B b,a] w λe w'=>e=.returned (.tuple #[])/\w'=w:=by
 have hi:=λW=>uN p cap a W;go_enter func121,ntmps121
 go_wp2;refine wp_loop_rounds 1 ?_;rw[rounds_succ];go_wp2_with(go_at_call 195;refine(hi _).mono ?_;rintro e w' ⟨rfl,rfl⟩)
 (try simp only[Exit.inBlock,Exit.then]);refine A0 (results_none J _ _ _) J ?_
 exact⟨J,J⟩
def uP(p:Option Addr)(cap:Nat)(a:R)(w:H):
 Q F 52 #[E p 0 cap,a] w λe w'=>e=.returned (.tuple #[])/\w'=w:=by
 have hp:=λb W=>uO p cap b a W;have L:=Tryz.sortRt;have hl:∀W,Q F 122 #[I .u64 0] W λe w'=>e=.returned (I B (Lib.bitLen 0:Nat))/\w'=W:=λW=>by
  have h:=Any.bits_Len (SlLaysF0.n15.bits (P:=F) (ρ:=Tryz.sortRt_ren) { L with }) 0 W O O;exact h
 clear L;go_enter func52,ntmps52
 go_wp2_with(first|(go_at_call 122;refine(hl _).mono ?_;rintro e w' ⟨rfl,rfl⟩)|(go_at_call 121;refine(hp _ _).mono ?_;rintro e w' ⟨rfl,rfl⟩))
 go_end0;exact⟨J,J⟩
end M3
namespace M3
structure OrOk(r s:RtQ):Prop where
 ex:∃K A l X J,RzOk J X r/\RzOk J X s/\SnOk K A l X r s.w
 sg:-1<=s.sg/\s.sg<=1
 sn:-1000000<=r.sign s.w/\r.sign s.w<=1000000
def Xk(k ka:Nat)(a:List Rat × Nat):List RtQ:=(Dl a.1 k (-((2:Rat)^Yy (J9 a.1) ka 0)) ((2:Rat)^Yy (J9 a.1) ka 0)).map (KX k a.2 ((Xh a.1 (Jb a.1)).getD 0 []))
theorem bJ(k ka:Nat)(v:R)(p:List Rat)(w:H)(h:Je w v p)(L:List (List Rat × Nat))(D:∀(V:H) (x:R),Je V x p->Q F 50 #[x] V λe w'=>∃u,e=.returned u/\EK true V.heap.size w' u L/\Bl V w')
(N:∀q t,(q,t)∈L->∃K A l X KK hh J f d,RoOk K A l X KK k hh J ka f d q t)
(hl:L.length<=1000000)(hF:(L.flatMap (Xk k ka)).length<=1000000)
(C:∀r∈L.flatMap (Xk k ka),r.Ok)(z:∀r∈L.flatMap (Xk k ka),∀s∈L.flatMap (Xk k ka),OrOk r s):
 Q F 22 #[v] w λe w'=>∃u cs rs',e=.returned u/\w'.ownsRow w.heap.size 60 11 u (L.flatMap (Xk k ka)).length cs/\D6 w' cs rs'/\(rs'.Perm (L.flatMap (Xk k ka))/\rs'.Pairwise λr s=>¬s.ord r<0)/\Bl w w'/\(L=[]->u=E none 0 0):=by
 refine tM v p w h L D (Xk k ka) (λrs'=>rs'.Perm (L.flatMap (Xk k ka))/\rs'.Pairwise λr s=>¬s.ord r<0) (λq t hq V pa pl pc hp=>?_) hl hF λbase V u cs i m hb=>?_
 . obtain⟨K,A,l,X,KK,hh,J,f,d,h⟩:=N q t hq;refine(tI K A l X KK k hh J ka t f d pa pl pc q V hp h).mono ?_;rintro e w' ⟨v,n,cs,b,j,h3,h4,h5⟩;grind[Xk]
 . by_cases y:((L).flatMap (Xk k ka)).length=0
   . have o:(L).flatMap (Xk k ka)=[]:=Aj.1 y;have eu:∃a c,u=E a 0 c:=by
      rcases i.2 with⟨e,_⟩|⟨g,cap,cur,e,_⟩
      . exact⟨_,_,e⟩
      . grind
     obtain⟨a,c,rfl⟩:=eu;refine(uP a c _ V).mono ?_;rintro e w' ⟨b,rfl⟩;refine⟨b,cs,_,i,m,⟨List.Perm.refl _,?_⟩,λq w0 _ P=>P⟩;rw[o];exact List.Pairwise.nil
   . exact uM base _ V u cs _ rfl O i m hb C O (λr M s hs W vr vs b j=>by
      obtain⟨⟨K,A,l,X,J,S,T,U⟩,i4,i5⟩:=z r M s hs;exact sH K A l X J vr vs r s W b j S T U i4 i5)
theorem SX(i:Nat):(1:Rat)<=2^i:=by
 induction i with
 |zero=>grind
 |succ i a=>rw[Rat.pow_succ];grind
theorem bK{B:Rat}:∀(n i:Nat),B<=2^(i+n)->(¬(2:Rat)^Yy B n i<B)/\i<=Yy B n i/\Yy B n i<=i+n:=by
 intro n;induction n with
 |zero=>
  intro i h;grind[Yy]
 |succ n a=>
  intro i h;grind[Yy]
theorem O4{k:Nat}{x:Rat}(h:DR k x):x<=2^(64*k):=by
 have p0:=Y3 (64*k);rcases JV x 0 with a|a
 . grind
 . have d:(1:Rat)<=(x.den:Rat):=by exact_mod_cast x.den_pos
   have e:=Hw x;have f:x<=(x.num:Rat):=by
    have:=Rat.mul_le_mul_of_nonneg_left d a;rw[Rat.mul_one,e]at this;exact this
   have b:x.num<=((2^(64*k):Nat):Int):=by
    have c:x.num.natAbs<Y^k:=h.1;rw[show Y=2^64 by decide,<-C5]at c;omega
   have g:(x.num:Rat)<=(((2^(64*k):Nat):Int):Rat):=by exact_mod_cast b
   grind
section
variable {p:List Rat} {M:Nat}
def uQ(tp:Jc p=p)(p0:p≠[])(a:Cd M p)(i:Nat):DR (M+M) (cf p i/cf p (p.length-1)):=(a.smq i).div2 (a.smq _) (Js tp p0)
theorem uR(tp:Jc p=p)(p0:p≠[])(a:Cd M p)(n:Nat):DR (M+M) (EG p n):=by
 have hM:=a.pos;induction n with
 |zero=>exact DR.zero _ O
 |succ n c=>
  have b:=(uQ tp p0 a n).abs;grind[EG,I1]
def bL(tp:Jc p=p)(p0:p≠[])(a:Cd M p):DR (M+M+2) (J9 p):=by
 unfold J9;exact((uR tp p0 a _).add2 (show DR 1 1 from⟨Sm.one 1 O,Sm.one 1 O⟩)).mono O
def uS(tp:Jc p=p)(p0:p≠[])(a:Cd M p){X:Nat}(hM:M<=100000000)(hX:M+M+3<=X)(hX2:X+X+2<=1000000000):ArOk X (64*(M+M+2)) p:=by
 have hb:=bL tp p0 a;have hs:=bK (B:=J9 p) (64*(M+M+2)) 0 (by rw[AQ];exact O4 hb);exact⟨tp,p0,a.sqs O,a.monS tp O,Sq.of hb O,λi hi=>(Dy.two (H:=64*(M+M+2)) hi).smq O,hX2,hs.1⟩
end
end M3
namespace M3
variable{KK hh:Nat}
theorem bM{w:List Rat}:∀(k j:Nat) (a b:Rat),Dy hh j a->Dy hh j b->∀s∈Dl w k a b,Dy hh (j+k) s.1/\Dy hh (j+k) s.2:=by
 intro k;induction k with
 |zero=>
  intro j a b c hb s hs;grind[Dl]
 |succ k e=>
  intro j a b c hb s hs;rw[Dl]at hs;split at hs
  . cases hs
  . split at hs
    . rw[List.mem_singleton]at hs;subst hs;exact⟨c.le O,hb.le O⟩
    . have d:=Dy.mid c hb;rw[show j+(k+1)=j+1+k by omega];rcases CC.1 hs with h|h
      . exact e (j+1) a _ c.up d s h
      . exact e (j+1) _ b d hb.up s h
def uT{X k J t:Nat}{w:List Rat}{a b:Rat}(h:SetOk k w a b)(e:Wh KK w)(l2:2<=w.length)(f:Dy hh J a)(g:Dy hh J b)(hX:hh+(J+k+1)<64*X)(j:Sm X (YU w))(sz:KK+w.length*(X+X+2)+X+X+KK<=1000000000)(hX2:X+X+2<=1000000000):SlOk KK X k ⟨a,b,w,DU (ev w b),t⟩:=by
 have hl:=Z2 e;have hs:=(Ou t h).2;refine⟨h.spn.tw,h.spn.w0,hl,?_,l2,j,λi hi=>?_,?_,sz⟩
 . have hp:=h.pos;rw[hl]at hp;show 0<YU w;exact_mod_cast hp
 . obtain⟨d1,d⟩:=R7 i J ⟨a,b,w,DU (ev w b),t⟩ f g;have ew:=(R8 i ⟨a,b,w,DU (ev w b),t⟩).1;have hle:w.length*(X+2)<=w.length*(X+X+2):=Ah _ O;exact⟨⟨by rw[ew];exact e,d1.smq O,d.smq O,by rw[ew];show KK+w.length*(X+2)+X+KK<=_;omega,hX2⟩,(Dy.mid d1 d).smq O⟩
 . rintro(c|c)
   . exact absurd (Int.lt_of_lt_of_le c hs.one) (Int.lt_irrefl _)
   . exact hs.low c
theorem uU{K A l X k ka t:Nat}{p:List Rat}(hp:PrOk k ((2:Rat)^Yy (J9 p) ka 0) p)(a:ArOk X ka p)(m:∀i,Sq (Hc p i))(f:ChOk K p (Jb p))(j:RowOk A l (Xh p (Jb p)))(hk:Yy (J9 p) ka 0<=hh)
(n:Wh KK (Jo p))(l2:2<=p.length)(e:Sm X (YU (Jo p)))(hX:hh+(k+k+1)<64*X)(g:cw p (-((2:Rat)^Yy (J9 p) ka 0))-cw p ((2:Rat)^Yy (J9 p) ka 0)<=1000000)
(sz:A+l*(X+2)+X+A<=10000000000)(sz2:KK+p.length*(X+X+2)+X+X+KK<=1000000000):∃G D,RoOk K A l X KK k hh (k+k+1) ka G D p t:=by
 obtain⟨G,D,hA,r,hD,d,o,q⟩:=hp.end_;have ll:(Jo p).length=p.length:=JL hp.tw;refine⟨G,D,a.sp,m,f,j,sz,hX,a.x2,a,O,hk,tJ hp.tw hp.w0 hp.sq,hA,Rat.le_of_lt d,?_,g,λs hs=>?_⟩
 . grind
 . rw[aW];have c:Dy hh 0 ((2:Rat)^Yy (J9 p) ka 0):=Dy.two hk;obtain⟨d1,b⟩:=bM k 0 _ _ c.neg c s hs;rw[AQ]at d1 b;exact uT (hp.span hs).2.2.2 n O d1 b O e (by rw[ll];exact sz2) a.x2
end M3
section
variable{D:Rat}
theorem uV{w:List Rat}{H c:Rat}(tw:Jc w=w)(w0:w≠[])(f:c≠0):Et (DM c w) H D↔Et w H D:=by
 have key:∀x z:Rat,x<=z->(cw (DM c w) z+2<=cw (DM c w) x↔cw w z+2<=cw w x):=λx z a=>by
  grind[Mx,JH,Gh,Lm,cw]
 exact⟨λh x z b d a e=>h x z b d a ((key x z a).2 e),λh x z b d a e=>h x z b d a ((key x z a).1 e)⟩
theorem uW{w:List Rat}{H:Rat}(tw:Jc w=w)(w0:w≠[]):Et (Jo w) H D↔Et w H D:=by
 grind[Xd,uV]
theorem uX{w:List Rat}{H:Rat}(w0:w≠[])(hl:w.length<=2):Et w H D:=λx z _ _ _ e=>by
 have a:cw w x<=(JF (Ju w) x).length-1:=On _;grind[Rq,JF]
theorem uY{w:List Rat}(w0:w≠[])(x:Rat):cw w x<=w.length:=by
 have a:cw w x<=(JF (Ju w) x).length-1:=On _;grind[Rq,JF]
end
namespace M3
variable{K ka:Nat}
theorem YN(a b:Nat):(2:Rat)^(a+b)=2^a*2^b:=by
 grind
theorem O5{K g:Nat}:∀p:List Rat,(∀c∈p,Yv c<=2^K)->GW (2^g) p<=2^(K+(g+1)*p.length)
 |[],_=>Rat.le_of_lt (Y3 _)
 |c::p,h=>by
  have a:=O5 (g:=g) p λx b=>h x (AA _ b);have d:=h c Ao;have e:=Rat.mul_le_mul_of_nonneg_left a (Rat.le_of_lt (Y3 g));rw[GW,Ai,show K+(g+1)*(p.length+1)=g+(K+(g+1)*p.length)+1 by rw[CS];omega,Rat.pow_succ,YN g];have f:(2:Rat)^K<=2^g*2^(K+(g+1)*p.length):=by
   rw[<-YN,show g+(K+(g+1)*p.length)=K+(g+(g+1)*p.length)by omega,YN];have:=Rat.mul_le_mul_of_nonneg_left (SX (g+(g+1)*p.length)) (Rat.le_of_lt (Y3 K));rw[Rat.mul_one]at this;exact this
  grind
theorem O6{K g:Nat}:∀p:List Rat,(∀c∈p,Yv c<=2^K)->Eo (2^g) p<=2^(K+(g+1)*p.length)
 |[],_=>Rat.le_of_lt (Y3 _)
 |c::p,h=>by
  have a:∀x∈p,Yv x<=2^K:=λx d=>h x (AA _ d);have b:=O6 (g:=g) p a;have e:=O5 (g:=g) p a;have f:=Rat.mul_le_mul_of_nonneg_left b (Rat.le_of_lt (Y3 g));rw[Eo,Ai,show K+(g+1)*(p.length+1)=g+(K+(g+1)*p.length)+1 by rw[CS];omega,Rat.pow_succ,YN g];have i:(2:Rat)^(K+(g+1)*p.length)<=2^g*2^(K+(g+1)*p.length):=by
   have:=Rat.mul_le_mul_of_nonneg_right (SX g) (Rat.le_of_lt (Y3 (K+(g+1)*p.length)));rw[Fg]at this;exact this
  grind
def Wh.abs{K:Nat}{p:List Rat}(h:Wh K p):∀c∈p,Yv c<=2^(64*(K+1)):=by
 obtain⟨zs,e,d⟩:=Wh.zs h;intro c a;rw[e]at a;obtain⟨z,b,rfl⟩:=C2.1 a;refine O4 (DR.abs ?_);have hk:=(d z b).mono (show K<=K+1 by omega);exact⟨by rw[CZ];exact hk,by rw[FD];exact Sm.one _ O⟩
theorem LB{a b:Nat}(h:a<=b):(2:Rat)^a<=2^b:=by
 obtain⟨c,rfl⟩:∃c,b=a+c:=⟨b-a,O⟩;rw[YN];have:=Rat.mul_le_mul_of_nonneg_left (SX c) (Rat.le_of_lt (Y3 a));grind
theorem bN{x y:Rat}{E:Nat}(b:0<=x)(c:x<=2^E)(a:y<=2^E):x*y<=2^(E+E):=by
 rw[YN];have d:=Rat.mul_le_mul_of_nonneg_left a b;grind[Rat.mul_le_mul_of_nonneg_right,Rat.le_trans]
theorem uZ{g E:Nat}{w:List Rat}(tw:Jc w=w)(sw:DX w)(c:Wh K w)(hs:Wh K (Jb w))(hl:3<=w.length)(k:w.length<=100)(hE:64*((K+1)*(w.length+w.length)+1)+(g+1)*w.length<=E):∃D,Et w (2^g) D/\0<=D/\D<=2^(E+E+1):=by
 have w0:w≠[]:=λe=>by rw[e]at hl;simp at hl
 have l1:=Y6 w0;have a:(0:Rat)<=2^g:=Rat.le_of_lt (Y3 g);obtain⟨u,v,l,hv,m,n,hA⟩:=qm tw sw c hs hl k a;have o:(K+1)*(w.length+(Jb w).length)<=(K+1)*(w.length+w.length):=Ah _ O;have p:(g+1)*u.length<=(g+1)*w.length:=Ah _ m;have q:(g+1)*v.length<=(g+1)*w.length:=Ah _ n;have r:(g+1)*(Jb w).length<=(g+1)*w.length:=Ah _ O;have s:K+1<=(K+1)*(w.length+w.length)+1:=by
  have:=Ah (K+1) (show 1<=w.length+w.length by omega);omega
 have d:=Rat.le_trans (O5 (g:=g) u (Wh.abs l)) (LB (b:=E) O);have f:=Rat.le_trans (O5 (g:=g) v (Wh.abs hv)) (LB (b:=E) O);have i:=Rat.le_trans (O6 (g:=g) w (Wh.abs c)) (LB (b:=E) O);have j:=Rat.le_trans (O6 (g:=g) (Jb w) (Wh.abs hs)) (LB (b:=E) O);have c1:=bN (NA a u) d i;have c2:=bN (NA a v) f j;have t:=Rat.mul_nonneg (NA a u) (NB a w);have x:=Rat.mul_nonneg (NA a v) (NB a (Jb w));refine⟨_,hA,DG,?_⟩;rw[Rat.pow_succ];grind
theorem O7{a b:Nat}(h:a<b):(2:Rat)^a<2^b:=by
 have c:=LB (show a+1<=b from h);have d:=Y3 a;rw[Rat.pow_succ]at c;grind
def Wh.le{p:List Rat}(h:Wh K p)(i:Nat):cf p i<=2^(64*(K+1)):=by
 obtain⟨z,a,b⟩:=h i;rw[b];exact O4 ⟨by rw[CZ];exact a.mono O,by rw[FD];exact Sm.one _ O⟩
theorem ub{h k E:Nat}{w:List Rat}(tw:Jc w=w)(w0:w≠[])(sq:DX w)(d:Wh K (Jo w))(hs:Wh K (Jb (Jo w)))(pos:0<cf w (w.length-1))(hl:w.length<=100)(bnd:J9 w<=2^h)(hE:64*((K+1)*(w.length+w.length)+1)+(h+2)*w.length<=E)(hk:E+E+h+2<k):PrOk k (2^h) w:=by
 have ll:(Jo w).length=w.length:=JL tw;obtain⟨c,c0,g⟩:=Xd tw;have sl:DX (Jo w):=by rw[g];exact sq.scl (λe=>by grind)
 have i:Jo w≠[]:=λe=>w0 (Aj.1 (by rw[<-ll,e];rfl));have w1:0<w.length:=Ae.2 w0;have hD:∃D,Et (Jo w) (2^(h+1)) D/\0<=D/\D<=2^(E+E+1):=by
  by_cases j:3<=w.length
  . grind[uZ,J1]
  . exact⟨0,uX i O,Rat.le_refl,Rat.le_of_lt (Y3 _)⟩
 obtain⟨D,hA,d0,f⟩:=hD;have b:(2:Rat)^h+2^h=2^(h+1):=by rw[Rat.pow_succ];grind
 have l:K+1<=(K+1)*(w.length+w.length):=by
  have:=Ah (K+1) (show 1<=w.length+w.length by omega);omega
 refine⟨tw,w0,sq,⟨K,d⟩,pos,bnd,2^(h+1),D,(uW tw w0).1 hA,hA,d0,O7 O,?_,?_⟩
 . rw[b];have a:=Rat.mul_le_mul_of_nonneg_right f (Rat.le_of_lt (Y3 (h+1)));rw[<-YN]at a;exact K4 a (O7 O)
 . rw[b];have a:=Rat.mul_le_mul_of_nonneg_right (Wh.le d ((Jo w).length-1)) (Rat.le_of_lt (Y3 (h+1)));rw[<-YN]at a;exact K4 a (O7 O)
theorem O8(k ka:Nat)(w:List Rat)(t:Nat):Xk k ka (w,t)=KV k ((2:Rat)^Yy (J9 w) ka 0) w t:=by
 unfold Xk KV;rw[aW];rfl
def NM{k t:Nat}{w:List Rat}(h:PrOk k ((2:Rat)^Yy (J9 w) ka 0) w):RtsP (Jo w) t (Xk k ka (w,t)):=by
 rw[O8];exact h.rts t
def SY{k:Nat}{L:List (List Rat × Nat)}(h:∀a∈L,PrOk k ((2:Rat)^Yy (J9 a.1) ka 0) a.1):∀r∈L.flatMap (Xk k ka),r.Ok/\∃a∈L,r.w=Jo a.1/\r.tm=a.2:=λr b=>by
 obtain⟨a,d,b⟩:=List.mem_flatMap.1 b;have c:=(NM (t:=a.2) (h a d)).all r b;exact⟨c.1,a,d,c.2⟩
theorem bO{k ka:Nat}{q:List Rat}(tq:Jc q=q):∀ {L:List (List Rat × Nat)},(∀a∈L,PrOk k ((2:Rat)^Yy (J9 a.1) ka 0) a.1)->((L.flatMap (Xk k ka)).map λr=>if r.sign q=0 then(1:Int)else 0).sum=(L.map λa=>(nA (Jt (Jo a.1) q):Int)).sum
 |[],_=>rfl
 |a::L,h=>by
  have c:=(NM (t:=a.2) (h a Ao)).cnt q tq;have d:=bO tq (L:=L) λb hb=>h b (AA _ hb);grind
end M3
theorem ud{u v:List Rat}(h:DP u v){x:Rat}(c:ev u x=0)(d:ev v x=0):False:=by
 obtain⟨a,b,e⟩:=h;grind
def RtQ.Ok.differ{r s:RtQ}(d:r.Ok)(hs:s.Ok)(f:DP r.w s.w):¬ ∀x,r.S x=s.S x:=λe=>by
 by_cases b:r.lo<r.hi
 . by_cases a:s.lo<s.hi
   . refine(d.irr b).differ (hs.irr a) f λx=>?_;have:=e x;rwa[RtQ.SI b,RtQ.SI a]at this
   . have:=e s.lo;rw[RtQ.SI b,RtQ.SR a]at this;have c:Dm s.lo s.lo=0:=by rw[<-FY];exact LZ.2 J
     rw[c]at this;rcases(d.irr b).sid_ne s.lo with h|h<;>(rw[h]at this;omega)
 . by_cases a:s.lo<s.hi
   . have:=e r.lo;rw[RtQ.SR b,RtQ.SI a]at this;have c:Dm r.lo r.lo=0:=by rw[<-FY];exact LZ.2 J
     rw[c]at this;rcases(hs.irr a).sid_ne r.lo with h|h<;>(rw[h]at this;omega)
   . have:=e s.lo;rw[RtQ.SR b,RtQ.SR a]at this;have c:Dm s.lo s.lo=0:=by rw[<-FY];exact LZ.2 J
     rw[c,<-FY]at this;have i:r.lo=s.lo:=LZ.1 this;have g:=(d.rat b).2;rw[i]at g;exact ud f g (hs.rat a).2
namespace M3
theorem rise_of{all rs:List RtQ}(a:∀r∈all,r.Ok)(c:all.Pairwise λr s=>¬ ∀x,r.S x=s.S x)(hp:rs.Perm all)(hs:rs.Pairwise λr s=>¬s.ord r<0):rs.Pairwise λr s=>Dx r.S s.S:=by
 have b:rs.Pairwise λr s=>¬ ∀x,r.S x=s.S x:=(hp.pairwise_iff fun {r s} h e=>h λx=>(e x).symm).2 c;have h:=hs.and b;refine List.Pairwise.imp_of_mem (fun {r s} d g f=>?_) h;have j:=a r (hp.mem_iff.1 d);have k:=a s (hp.mem_iff.1 g);rcases k.order j with⟨e,i⟩|⟨e,i⟩|⟨e,i⟩
 . exact absurd O f.1
 . exact i
 grind
def bP{k ka:Nat}:∀ {L:List (List Rat × Nat)},(∀a∈L,PrOk k ((2:Rat)^Yy (J9 a.1) ka 0) a.1)->(L.Pairwise λa b=>DP (Jo a.1) (Jo b.1))->(L.flatMap (Xk k ka)).Pairwise λr s=>¬ ∀x,r.S x=s.S x
 |[],_,_=>List.Pairwise.nil
 |a::L,h,j=>by
  obtain⟨c1,c2⟩:=List.pairwise_cons.1 j;have c:=NM (t:=a.2) (h a Ao);have d:=λb hb=>h b (AA a hb);rw[List.flatMap_cons,List.pairwise_append];refine⟨c.rise.imp fun {r s} i e=>?_,bP d c2,λr l s hs=>?_⟩
  . rw[show r.S=s.S from funext e]at i;exact Dx.irr i
  . obtain⟨m,f,_⟩:=c.all r l;obtain⟨n,b,hb,g,_⟩:=SY d s hs;exact m.differ n (by rw[f,g];exact c1 b hb)
theorem SZ{k ka t:Nat}{w:List Rat}(h:PrOk k ((2:Rat)^Yy (J9 w) ka 0) w):((Xk k ka (w,t)).length:Int)=nA w:=by
 obtain⟨G,D,hA,_,hD,d,b,_⟩:=h.end_;have a:=Z4 h.tw h.w0 h.sq h.tw h.w0 (Dv.refl w) h.bnd;have c:=Y3 (Yy (J9 w) ka 0);unfold Xk;rw[Cw];show((Dl w k (-((2:Rat)^Yy (J9 w) ka 0)) ((2:Rat)^Yy (J9 w) ka 0)).length:Int)=nA w;generalize (2:Rat)^Yy (J9 w) ka 0=H at *;have e:=Jy h.tw h.w0 (show -H<=H by grind);rw[Zp h.tw h.w0 hA k (-H) H ⟨DG,DG⟩ ⟨DG,DG⟩ DG DG,<-a];omega
theorem bQ{k ka:Nat}:∀ {L:List (List Rat × Nat)},(∀a∈L,PrOk k ((2:Rat)^Yy (J9 a.1) ka 0) a.1)->((L.flatMap (Xk k ka)).length:Int)=(L.map λa=>(nA a.1:Int)).sum
 |[],_=>rfl
 |a::L,h=>by
  have c:((Xk k ka a).length:Int)=nA a.1:=SZ (t:=a.2) (h a Ao);have d:=bQ (L:=L) λb hb=>h b (AA _ hb);grind
end M3
section
open M3
structure PwOk(C n:Nat)(w:List Rat):Prop where
 tw:Jc w=w
 l2:2<=w.length
 ln:w.length<=n
 sq:DX w
 mon:Jr w=w
 cd:Cd C w
def Dd(C:Nat):Nat:=64*(C+C+2)
def eO(C n:Nat):Nat:=64*((C+2)*(n+n)+1)+(Dd C+2)*n
def kO(C n:Nat):Nat:=eO C n+eO C n+Dd C+3
structure NmOk(C n X:Nat):Prop where
 hn:n<=100
 hC:C<=100000000
 hX:Dd C+(kO C n+kO C n+1)+kO C n+64*C+64<64*X
 x2:X+X+2<=1000000000
 ch:4*((n+2)*((C+2)*(n+n+1)+1))<=1000000000
 sz:(C+2)*(n+n+1)+n*(X+2)+X+(C+2)*(n+n+1)<=10000000000
 sz2:C+1+n*(X+X+2)+X+X+(C+1)<=1000000000
def Wh.mono{K L:Nat}{p:List Rat}(h:Wh K p)(hl:K<=L):Wh L p:=λi=>by
 obtain⟨z,a,b⟩:=h i;exact⟨z,a.mono hl,b⟩
variable{K:Nat}
theorem Wh.slope{p:List Rat}(h:Wh K p)(hl:p.length<=1000000000):Wh (K+1) (Jb p):=λi=>by
 unfold Jb;rw[Yw,LI];by_cases hi:p.length<=i+1
 . exact⟨0,Sm.zero _,by rw[Yn hi,AZ];rfl⟩
 . obtain⟨z,a,b⟩:=h (i+1);refine⟨z*((i+1:Nat):Int),a.mul ?_,by rw[b,At,AG]⟩;grind[Sm,Y]
def Wh.cd{p:List Rat}(h:Wh K p)(c:1<=K):Cd K p:=⟨1,DJ,Sm.one _ c,λi=>by
 obtain⟨z,a,b⟩:=h i;exact⟨z,by rw[b,<-Ci ((z:Int):Rat)];simp,a⟩⟩
def Cd.whl{C:Nat}{w:List Rat}(h:Cd C w)(tw:Jc w=w)(w0:w≠[]):Wh C (Jo w):=RO tw w0 h.ln
def bR{p q:List Rat}(h:M3.ChOk K p q)(p0:p≠[]):RowOk (Da K p q) (max p.length q.length) (Xh p q):=by
 have hs:=Chn.start h.tp h.tq h.lp h.lq h.bd.2.2.1;refine⟨M3.aA h (λa b k _=>⟨k.wa,k.la⟩) _ (Jo p) (Jo q) (Aa _) hs λe=>p0 (Aj.1 ?_),?_⟩
 . rw[<-JL h.tp,e];rfl
 . have c:=ZO _ (Jo p) (Jo q) (Aa _) (J1 q);rw[JL h.tq]at c;have:=h.ln;show(ES (Jo p) (Jo q)).length<=_;omega
section
variable {C n X:Nat} {w:List Rat}
theorem PwOk.w0(h:PwOk C n w):w≠[]:=λe=>by have:=h.l2;grind
def PwOk.lead(h:PwOk C n w):cf w (w.length-1)=1:=Lh h.tw h.w0 h.mon
def PwOk.wh(h:PwOk C n w):Wh C (Jo w):=h.cd.whl h.tw h.w0
theorem PwOk.arn(h:PwOk C n w):J9 w<=2^Yy (J9 w) (Dd C) 0/\Yy (J9 w) (Dd C) 0<=Dd C:=by
 have hs:=M3.bK (B:=J9 w) (Dd C) 0 (by rw[AQ];exact M3.O4 (M3.bL h.tw h.w0 h.cd));grind
def PwOk.pr(h:PwOk C n w)(N:NmOk C n X):PrOk (kO C n) (2^Yy (J9 w) (Dd C) 0) w:=by
 obtain⟨a,b⟩:=h.arn;have ll:(Jo w).length=w.length:=JL h.tw;have hn:=N.hn;have hl:=h.ln;have c:(C+1+1)*(w.length+w.length)<=(C+2)*(n+n):=Ah _ O;have d:(Yy (J9 w) (Dd C) 0+2)*w.length<=(Dd C+2)*n:=Cn O hl;refine M3.ub (K:=C+1) (E:=eO C n) h.tw h.w0 h.sq (h.wh.mono O) (h.wh.slope O) ?_ O a ?_ ?_
 . rw[h.lead];decide
 . unfold eO;omega
 . unfold kO;omega
def PwOk.ro(h:PwOk C n w)(N:NmOk C n X)(t:Nat):∃G D,M3.RoOk (C+1) (Da (C+1) w (Jb w)) (max w.length (Jb w).length) X (C+1) (kO C n) (Dd C) (kO C n+kO C n+1) (Dd C) G D w t:=by
 obtain⟨g,a⟩:=h.arn;have hC:=N.hC;have hX:=N.hX;have x2:=N.x2;have hn:=N.hn;have hl:=h.ln;have sl:=aD w;have hk:Dd C=64*(C+C+2):=rfl;have ch:M3.ChOk (C+1) w (Jb w):=M3.ChOk.of h.tw (Jv _) (h.cd.mono O) (h.cd.slope O) (n:=n) hl O N.ch O;have d:Da (C+1) w (Jb w)<=(C+2)*(n+n+1):=Ah _ O;have e:max w.length (Jb w).length*(X+2)<=n*(X+2):=Ad _ O;have f:w.length*(X+X+2)<=n*(X+X+2):=Ad _ hl;have i:=N.sz;have j:=N.sz2;refine M3.uU (h.pr N) (M3.uS h.tw h.w0 h.cd hC O x2) (aC h.cd.smq O O) ch (bR ch h.w0) a (h.wh.mono O) h.l2 ?_ O ?_ O O
 . obtain⟨z,b,c⟩:=h.wh ((Jo w).length-1);unfold YU;rw[c,CZ];exact b.mono O
 . have:=uY h.w0 (-((2:Rat)^Yy (J9 w) (Dd C) 0));omega
end
end
section
open M3
def ue(L:Int):∀(k:Nat) (r:RtQ),∃i,i<=k/\Ym L k r=FZ i r:=by
 intro k;induction k with
 |zero=>intro r;exact⟨0,Aa _,J⟩
 |succ k b=>
  intro r;rw[Ym];split
  . obtain⟨i,c,a⟩:=b r.hv;exact⟨i+1,O,a⟩
  . exact⟨0,Ap _,J⟩
theorem uf{C h X:Nat}{w:List Rat}{x:Rat}(i:Wh C w)(tw:Jc w=w)(w0:w≠[])(e:ev w x=0)(o:-(2^h)<=x)(p:x<=2^h)(hX:h+64*C<64*X):DR X x:=by
 obtain⟨zs,a⟩:=i.ints;have z0:zs≠[]:=λk=>w0 (by rw[a,k];rfl);have hl:cf w (w.length-1)=((zs.getLast z0:Int):Rat):=by
  rw[a];unfold cf;rw[Cw,CW,<-List.getLast?_eq_getElem?,List.getLast?_eq_some_getLast z0];rfl
 obtain⟨L,d,j⟩:=i (w.length-1);have l:zs.getLast z0=L:=by rw[j]at hl;exact_mod_cast hl.symm
 have r:=Js tw w0;have s:L≠0:=λk=>r (by rw[j,k];rfl);have q:=R1 z0 (x:=x) (by rw[<-a];exact e);rw[l]at q;have t:x.den<=L.natAbs:=Nat.le_of_dvd O (by grind[Cu,AF]);have d:L.natAbs<Y^C:=d;have f:∀k,Y^k=2^(64*k):=λk=>by rw[show Y=2^64 from J,<-C5]
 have A:2^h*2^(64*C)<2^(64*X):=by rw[<-CL];exact Fu O hX
 have p1:=Cz (n:=h) (show 0<2 by omega);rw[f]at d;have m:=Hw x;have d0:(0:Rat)<=(x.den:Rat):=by exact_mod_cast Ap x.den
 have b:=Rat.mul_le_mul_of_nonneg_right p d0;have c:=Rat.mul_le_mul_of_nonneg_right o d0;rw[m]at b c;have g:(2:Rat)^h*(x.den:Rat)=(((2^h*x.den:Nat):Int):Rat):=by rw[AG,Rat.natCast_mul,Rat.natCast_pow];rfl
 rw[Rat.neg_mul,g,<-Rat.intCast_neg]at c;rw[g]at b;have u:x.num<=((2^h*x.den:Nat):Int):=by exact_mod_cast b
 have v:-((2^h*x.den:Nat):Int)<=x.num:=by exact_mod_cast c
 have y:2^h*x.den<=2^h*2^(64*C):=Ah _ O;have z:2^(64*C)<=2^h*2^(64*C):=Cs _ p1;refine⟨?_,?_⟩
 . unfold Sm;rw[f];omega
 . unfold Sm;grind
def RtQ.Ok.sign3{r:RtQ}(h:r.Ok)(q:List Rat):r.sign q=-1\/r.sign q=0\/r.sign q=1:=by
 by_cases hl:r.lo<r.hi
 . rw[h.signI hl];rcases(h.irr hl).sg3 q with k|k|k
   . exact Or.inr (Or.inl k)
   . omega
   omega
 . rw[RtQ.signR hl];rcases JY (ev q r.lo)with⟨_,k⟩|⟨_,k⟩|⟨_,k⟩<;>simp[k]
structure TdOk(C n X:Nat)(w:List Rat)(t:Nat)(r:RtQ):Prop where
 ok:r.Ok
 ew:r.w=Jo w
 et:r.tm=t
 lo:DR X r.lo
 hi:DR X r.hi
 dy:r.lo<r.hi->Dy (Dd C) (kO C n+kO C n) r.lo/\Dy (Dd C) (kO C n+kO C n) r.hi
 bl:-(2^Dd C)<=r.lo
 bh:r.hi<=2^Dd C
theorem PwOk.told{C n X:Nat}{w:List Rat}(h:PwOk C n w)(N:NmOk C n X)(t:Nat):∀r∈Xk (kO C n) (Dd C) (w,t),TdOk C n X w t r:=λr j=>by
 obtain⟨p,c⟩:=h.arn;have hp:=h.pr N;have hX:=N.hX;rw[M3.O8]at j;obtain⟨s,hs,rfl⟩:=C2.1 j;obtain⟨_,q,u,k⟩:=hp.span hs;have a:=(Ou t k).1;have e:Dy (Dd C) 0 ((2:Rat)^Yy (J9 w) (Dd C) 0):=Dy.two c;obtain⟨d1,d⟩:=M3.bM (kO C n) 0 _ _ e.neg e s hs;rw[AQ]at d1 d;have x:=M3.LB c;have bl:-((2:Rat)^Dd C)<=(F0 (kO C n) ⟨s.1,s.2,Jo w,DU (ev (Jo w) s.2),t⟩).lo:=by have:=a.lo;grind
 have bh:(F0 (kO C n) ⟨s.1,s.2,Jo w,DU (ev (Jo w) s.2),t⟩).hi<=2^Dd C:=by have:=a.hi;grind
 have dy:∀r:RtQ,(r=F0 (kO C n) ⟨s.1,s.2,Jo w,DU (ev (Jo w) s.2),t⟩)->r.lo<r.hi->Dy (Dd C) (kO C n+kO C n) r.lo/\Dy (Dd C) (kO C n+kO C n) r.hi:=λr b hl=>by
  subst b;unfold F0 IC at hl ⊢;obtain⟨i,v,o⟩:=ue (YU (Jo w)) (kO C n) ⟨s.1,s.2,Jo w,DU (ev (Jo w) s.2),t⟩;rw[o]at hl ⊢;split at hl
  . grind
  . rename_i m;rw[BD m];obtain⟨c1,c2⟩:=R7 i (kO C n) ⟨s.1,s.2,Jo w,DU (ev (Jo w) s.2),t⟩ d1 d;exact⟨c1.le O,c2.le O⟩
 obtain⟨r,b⟩:=ex (F0 (kO C n) ⟨s.1,s.2,Jo w,DU (ev (Jo w) s.2),t⟩);rw[b]at a bl bh ⊢;have dy:=dy r b.symm;by_cases hl:r.lo<r.hi
 . obtain⟨c1,c2⟩:=dy hl;exact⟨a.ok,a.ew,a.et,c1.smq O,c2.smq O,dy,bl,bh⟩
 . obtain⟨f,l⟩:=a.ok.rat hl;have g:=l;rw[a.ew]at g;have w0:=a.ok.w0;rw[a.ew]at w0;have sm:DR X r.lo:=uf (C:=C) (h:=Dd C) h.wh (J1 w) w0 g bl (by rw[f];exact bh) O;exact⟨a.ok,a.ew,a.et,sm,by rw[<-f];exact sm,dy,bl,bh⟩
structure SzOk(C n X M m:Nat):Prop where
 ch:4*((n+m+2)*((C+M+n+2)*(n+m+(n+m)+1)+1))<=1000000000
 ln:n+m<=1000
 sz:(C+M+n+2)*(n+m+(n+m)+1)+(n+m)*(X+2)+X+(C+M+n+2)*(n+m+(n+m)+1)<=10000000000
 at_:m*(M+X+1)+1+X<=1000000000
 hM:M<=100000000
section
variable {C n X M m:Nat} {w q:List Rat} {t:Nat} {r:RtQ}
def TdOk.rz(h:TdOk C n X w t r)(a:PwOk C n w)(N:NmOk C n X):RzOk (C+1) X r:=by
 have c:=N.sz2;have ll:r.w.length=w.length:=by rw[h.ew];exact JL a.tw
 have hl:=a.ln;have b:r.w.length*(X+2)<=n*(X+X+2):=Cn O O;exact⟨by rw[h.ew];exact a.wh.mono O,h.lo,h.hi,O,N.x2⟩
theorem TdOk.sn(h:TdOk C n X w t r)(a:PwOk C n w)(N:NmOk C n X)(S:SzOk C n X M m)(tq:Jc q=q)(cq:Cd M q)(lq:q.length<=m):∃K A l,M3.SnOk K A l X r q:=by
 have hC:=N.hC;have hn:=N.hn;have d:=S.ln;have j:=S.at_;have hM:=S.hM;have ll:(Jo w).length=w.length:=JL a.tw;have k:=a.ln;have sl:=aD (Jo w);have cw:Cd (C+1) (Jo w):=(a.wh.mono O).cd O;have cs:Cd (C+1) (Jb (Jo w)):=(a.wh.slope O).cd O;have w0:=h.ok.w0;rw[h.ew]at w0;have c:(Ji (Jb (Jo w)) q).length<=n+m:=by
  by_cases g:Jb (Jo w)=[]
  . rw[g];exact Ap _
  . by_cases q0:q=[]
    . rw[q0,YM];exact Ap _
    grind[JC,Jv]
 have b:Cd (C+M+n+1) (Ji (Jb (Jo w)) q):=(cs.mul cq).mono O;have ch:M3.ChOk (C+M+n+1) (Jo w) (Ji (Jb (Jo w)) q):=M3.ChOk.of (J1 w) (Jn _ _) (cw.mono O) b (n:=n+m) O c S.ch d;have e:Da (C+M+n+1) (Jo w) (Ji (Jb (Jo w)) q)<=(C+M+n+2)*(n+m+(n+m)+1):=Ah _ O;have f:max (Jo w).length (Ji (Jb (Jo w)) q).length*(X+2)<=(n+m)*(X+2):=Ad _ O;have o:=S.sz;have i:q.length*(M+X+1)<=m*(M+X+1):=Ad _ lq;have hA:=SJ h.lo cq.smq O;have row:=bR ch w0;rw[<-h.ew]at cw cs w0 c b ch row e f sl ll;exact⟨_,_,_,cq.sqs O,λ_=>⟨hA,(hA 0).1⟩,cw.sqs O,aC cw.smq O O,cs.sqs O,cs.times cq O,O,ch,row,w0,O⟩
def TdOk.or_{v:List Rat}{u:Nat}{s:RtQ}(h:TdOk C n X w t r)(a:PwOk C n w)(N:NmOk C n X)(S:SzOk C n X (C+1) n)(k:TdOk C n X v u s)(hv:PwOk C n v):M3.OrOk r s:=by
 have b:s.w.length<=n:=by rw[k.ew,JL hv.tw];exact hv.ln
 obtain⟨K,A,l,hs⟩:=h.sn a N S (q:=s.w) k.ok.tw (by rw[k.ew];exact(hv.wh.mono O).cd O) b;refine⟨⟨K,A,l,X,C+1,h.rz a N,k.rz hv N,hs⟩,?_,?_⟩
 . rw[k.ok.sgh];rcases JY (ev s.w s.hi)with⟨_,e⟩|⟨_,e⟩|⟨_,e⟩<;>rw[e]<;>decide
 . rcases h.ok.sign3 s.w with e|e|e<;>rw[e]<;>decide
end
end
section
open M3
theorem Sa(a b:Rat)(n:Nat):(a*b)^n=a^n*b^n:=by
 induction n with
 |zero=>grind
 |succ n c=>grind
def O9(L:List (List Rat × Nat))(f:List Rat->Nat):Nat:=(L.map λa=>a.2*f a.1).sum
theorem bS{w:List Rat}(tw:Jc w=w)(w0:w≠[])(t:Nat):∃p:List Rat,Jc p=p/\p≠[]/\(∀x,ev p x=ev w x^t)/\p.length=t*(w.length-1)+1:=by
 induction t with
 |zero=>exact⟨[1],EB,DH,λx=>by rw[Rat.pow_zero,Jq],DH⟩
 |succ t d=>
  obtain⟨p,a,b,c,e⟩:=d;have:=Ae.2 w0;refine⟨Ji p w,Jn _ _,Yu a tw b w0,λx=>by rw[Jd,c,Rat.pow_succ],?_⟩;grind[JC]
theorem bT:∀L:List (List Rat × Nat),(∀a∈L,Jc a.1=a.1/\a.1≠[])->∃p:List Rat,Jc p=p/\p≠[]/\(∀x,ev p x=Dj L x)/\p.length=O9 L (λw=>w.length-1)+1
 |[],_=>⟨[1],EB,DH,λx=>by rw[Jq];rfl,J⟩
 |a::L,h=>by
  obtain⟨p,c,d,e,j⟩:=bT L λb hb=>h b (AA _ hb);obtain⟨ta,a0⟩:=h a Ao;obtain⟨q,f,g,i,k⟩:=bS ta a0 a.2;refine⟨Ji q p,Jn _ _,Yu f c g d,λx=>by rw[Jd,i,e,Dj],?_⟩;grind[JC,O9]
structure PsOk(C n:Nat)(z:List Rat)(L:List (List Rat × Nat)):Prop where
 ln:L.length<=25
 all:∀a∈L,PwOk C n a.1/\1<=a.2/\a.2<=25
 cop:L.Pairwise λa b=>DP a.1 b.1
 evs:∀x,ev (Jr z) x=Dj L x
section
variable {C n X:Nat} {z q:List Rat} {L:List (List Rat × Nat)}
def PsOk.pts(h:PsOk C n z L):PtsOk L:=⟨λa d=>by
 obtain⟨b,c,_⟩:=h.all a d;exact⟨b.tw,b.w0,b.sq,c⟩,h.cop⟩
def PsOk.pr(h:PsOk C n z L)(N:NmOk C n X):∀a∈L,PrOk (kO C n) ((2:Rat)^Yy (J9 a.1) (Dd C) 0) a.1:=λa b=>(h.all a b).1.pr N
theorem ug{w:List Rat}(tw:Jc w=w)(tq:Jc q=q):Jt (Jo w) q=Jt w q:=by
 obtain⟨c,c0,a⟩:=Xd tw;have h:=RJ (c:=c) (d:=1) (λe=>by grind) DJ tw tq;rw[KR tq]at h;rw[a];exact h
def uh{f g:List Rat->Int}(h:∀a∈L,f a.1=g a.1):Gk L f=Gk L g:=by
 unfold Gk;rw[A3 h]
def PsOk.cnt(h:PsOk C n z L)(N:NmOk C n X)(tz:Jc z=z)(z0:z≠[])(tq:Jc q=q)(q0:q≠[]):((L.flatMap (Xk (kO C n) (Dd C))).map λr=>if r.sign q=0 then(1:Int)else 0).sum=nA (Jt z q):=by
 rw[M3.bO tq (h.pr N),rD h.pts tz z0 h.evs tq q0];exact uh (f:=λw=>nA (Jt (Jo w) q)) λa b=>by rw[ug (h.all a b).1.tw tq]
def PsOk.len(h:PsOk C n z L)(N:NmOk C n X)(tz:Jc z=z)(z0:z≠[]):((L.flatMap (Xk (kO C n) (Dd C))).length:Int)=nA z:=by
 rw[M3.bQ (h.pr N),(R4 h.pts tz z0 h.evs).1];rfl
def PsOk.told(h:PsOk C n z L)(N:NmOk C n X):∀r∈L.flatMap (Xk (kO C n) (Dd C)),∃a∈L,TdOk C n X a.1 a.2 r:=λr b=>by
 obtain⟨a,c,b⟩:=List.mem_flatMap.1 b;exact⟨a,c,(h.all a c).1.told N a.2 r b⟩
theorem PsOk.split(h:PsOk C n z L)(tz:Jc z=z)(z0:z≠[]){a:List Rat × Nat}(j:a∈L):∃c:List Rat,DP (Jo a.1) c/\∀x,ev z x=ev (Jo a.1) x*(ev (Jo a.1) x^(a.2-1)*ev c x):=by
 obtain⟨i,hi⟩:=List.getElem?_of_mem j;obtain⟨u,l⟩:=M3.sZ (L.take i++L.drop (i+1));obtain⟨hA,K,_⟩:=h.all a j;obtain⟨k,M,r⟩:=Xd hA.tw;have f:k≠0:=λe=>by grind
 have o:=(Aw.1 hi);obtain⟨A,y⟩:=o;have w:∀s∈L.take i++L.drop (i+1),DP s.1 a.1:=λs hs=>by
  have e:L=L.take i++a::L.drop (i+1):=by rw[<-y,<-AR A,AP]
  have hp:=h.cop;rw[e,List.pairwise_append]at hp;rcases CC.1 hs with hs|hs
  . grind
  . exact((List.pairwise_cons.1 hp.2.1).1 s hs).symm
 have p:DP u a.1:=Zw _ a.1 w u l;obtain⟨m,g⟩:=Lk tz z0;generalize cf z (z.length-1)=b at m g;refine⟨DM (b*(k⁻¹)^a.2) u,?_,λx=>?_⟩
 . obtain⟨s,t,e⟩:=p;have p0:b*(k⁻¹)^a.2≠0:=by
    refine λe=>?_;rcases Cx.1 e with e|e
    . exact m e
    . have v:(k⁻¹)^a.2*k^a.2=1:=by rw[<-Sa,Rat.inv_mul_cancel _ f,Ol]
      grind
   generalize b*(k⁻¹)^a.2=d at p0;refine⟨DM k⁻¹ t,DM d⁻¹ s,λx=>?_⟩;grind[Jp]
 . have q:ev z x=ev (Jr z) x*b:=by conv=>lhs;rw[g,Jp]
   rw[q,h.evs,M3.sY (e:=a.1) (t:=a.2) hi x,Jp,l,Oj,r,Jp];obtain⟨t,et⟩:∃t,a.2=t+1:=⟨a.2-1,O⟩;rw[et,Nat.add_sub_cancel,Sa,Rat.pow_succ,Rat.pow_succ];have D:k^t*k*((k⁻¹)^t*k⁻¹)=1:=by
    have v:(k⁻¹)^t*k^t=1:=by rw[<-Sa,Rat.inv_mul_cancel _ f,Ol]
    have:=Rat.mul_inv_cancel k f;grind
   grind
end
end
namespace M3
def ui(V:H)(g o:Nat)(x0 x1 x2 x3 y0 y1 y2 y3 p s t:R):Prop:=V.cell? ⟨g,o,none⟩=some x0/\V.cell? ⟨g,o+1,none⟩=some x1/\V.cell? ⟨g,o+2,none⟩=some x2/\V.cell? ⟨g,o+3,none⟩=some x3/\V.cell? ⟨g,o+4,none⟩=some y0/\V.cell? ⟨g,o+5,none⟩=some y1/\V.cell? ⟨g,o+6,none⟩=some y2/\V.cell? ⟨g,o+7,none⟩=some y3/\V.cell? ⟨g,o+8,none⟩=some p/\V.cell? ⟨g,o+9,none⟩=some s/\V.cell? ⟨g,o+10,none⟩=some t
def PA(V:H)(g j:Nat)(x0 x1 x2 x3 y0 y1 y2 y3 p s t:R)(r:RtQ):Prop:=g<V.heap.size/\ui V g (j*11) x0 x1 x2 x3 y0 y1 y2 y3 p s t/\JJ V (.agg #[x0,x1,x2,x3,y0,y1,y2,y3,p,s,t]) r
def PA.below{V W:H}{g j:Nat}{x0 x1 x2 x3 y0 y1 y2 y3 p s t:R}{r:RtQ}(h:PA V g j x0 x1 x2 x3 y0 y1 y2 y3 p s t r)(hb:Bl V W):PA W g j x0 x1 x2 x3 y0 y1 y2 y3 p s t r:=by
 obtain⟨a,⟨c0,c1,c2,c3,c4,c5,c,d,e,f,b⟩,l⟩:=h;have k:∀i,W.cell? ⟨g,i,none⟩=V.cell? ⟨g,i,none⟩:=λi=>hb.cell (p:=⟨g,i,none⟩) a;exact⟨AB a hb.size,⟨(k _).trans c0,(k _).trans c1,(k _).trans c2,(k _).trans c3,(k _).trans c4,(k _).trans c5,(k _).trans c,(k _).trans d,(k _).trans e,(k _).trans f,(k _).trans b⟩,l.below hb⟩
def Hh(V:H)(u:R)(rs:List RtQ):Prop:=∃a cap,u=E a rs.length cap/\∀j r,rs[j]?=some r->∃g x0 x1 x2 x3 y0 y1 y2 y3 p s t,a=some ⟨g,0,none⟩/\PA V g j x0 x1 x2 x3 y0 y1 y2 y3 p s t r
def Hh.below{V W:H}{u:R}{rs:List RtQ}(h:Hh V u rs)(hb:Bl V W):Hh W u rs:=by
 obtain⟨a,cap,e,h⟩:=h;refine⟨a,cap,e,λj r b=>?_⟩;obtain⟨g,x0,x1,x2,x3,y0,y1,y2,y3,p,s,t,e,h⟩:=h j r b;exact⟨g,x0,x1,x2,x3,y0,y1,y2,y3,p,s,t,e,h.below hb⟩
theorem uj{V:H}{base:Nat}{u:R}{cs:List R}{rs:List RtQ}(h:V.ownsRow base 60 11 u rs.length cs)(m:D6 V cs rs):Hh V u rs:=by
 rcases h.2 with⟨e,k⟩|⟨g,cap,cur,e,t,l,v,w,x,z⟩
 . refine⟨none,0,by rw[e,k],λj r f=>?_⟩;grind
 . refine⟨_,cap,e,λj r f=>?_⟩;obtain⟨x0,x1,x2,x3,y0,y1,y2,y3,b,d,c,q,n,o,p⟩:=m.2 j r f;have a:∀i y,i<11->([x0,x1,x2,x3,y0,y1,y2,y3,E b d c,I B r.sg,I B (r.tm:Int)]:List R)[i]?=some y->V.cell? ⟨g,j*11+i,none⟩=some y:=λi y hi s=>by
    grind[World.cell?]
   exact⟨g,x0,x1,x2,x3,y0,y1,y2,y3,E b d c,I B r.sg,I B (r.tm:Int),J,(Ab.1 l).1,⟨a 0 _ O J,a 1 _ O J,a 2 _ O J,a 3 _ O J,a 4 _ O J,a 5 _ O J,a 6 _ O J,a 7 _ O J,a 8 _ O J,a 9 _ O J,a 10 _ O J⟩,x0,x1,x2,x3,y0,y1,y2,y3,b,d,c,J,n,o,p⟩
def uk{W:H}{a:Option Addr}{l c:Nat}{p:List Rat}(h:Je W (.agg #[E a l c]) p):∃V B,W.alloc (.cells #[E a l c] 25)=V/\W.heap.size=B/\Dc V B a l c/\Je V (.agg #[E a l c]) p/\Bl W V:=by
 have hA:Bl W (W.alloc (.cells #[E a l c] 25)):=Ba W _;exact⟨_,_,J,J,BF W 25 (E a l c),h.below hA,hA⟩
end M3
section
open M3
structure RtAll(C n X:Nat)(z:List Rat)(rs:List RtQ):Prop where
 told:∀r∈rs,∃w t,PwOk C n w/\TdOk C n X w t r
 rise:rs.Pairwise λr s=>Dx r.S s.S
 len:(rs.length:Int)=nA z
 cnt:∀q,Jc q=q->q≠[]->(rs.map λr=>if r.sign q=0 then(1:Int)else 0).sum=nA (Jt z q)
 tms:∀r∈rs,r.sign z=0/\1<=r.tm/\r.tm<=25/\(r.sign (Jb z)=0↔1<r.tm)
 deg:∃k:Nat,(rs.map RtQ.tm).sum+2*k=z.length-1
theorem bU{l m:List Int}(h:l.Perm m):l.sum=m.sum:=by
 induction h with
 |nil=>rfl
 |cons x _ c=>grind
 |swap x y l=>grind
 |trans _ _ a b=>exact a.trans b
section
variable {C n X:Nat} {z:List Rat} {L:List (List Rat × Nat)}
def PsOk.tms(h:PsOk C n z L)(N:NmOk C n X)(tz:Jc z=z)(z0:z≠[]):∀r∈L.flatMap (Xk (kO C n) (Dd C)),r.sign z=0/\1<=r.tm/\r.tm<=25/\(r.sign (Jb z)=0↔1<r.tm):=λr i=>by
 obtain⟨a,g,b⟩:=h.told N r i;obtain⟨_,k,l⟩:=h.all a g;obtain⟨c,f,d⟩:=h.split tz z0 g;rw[<-b.ew]at f d;rw[b.et];have key:r.sign z=0/\(r.sign (Jb z)=0↔1<=a.2-1):=by
  by_cases hl:r.lo<r.hi
  . have hi:=b.ok.irr hl;rw[b.ok.signI hl,b.ok.signI hl];obtain⟨u,j⟩:=bS (w:=r.w) b.ok.tw b.ok.w0 (a.2-1);exact⟨hi.dvd ⟨Ji u c,λx=>by rw[d,Jd,j.2.2.1]⟩,hi.times f d tz⟩
  . obtain⟨_,e⟩:=b.ok.rat hl;rw[RtQ.signR hl,RtQ.signR hl,YF,YF];exact⟨by rw[d,e,AZ],rE b.ok.sq e f d tz⟩
 omega
def um{k ka t:Nat}{w:List Rat}(h:PrOk k ((2:Rat)^Yy (J9 w) ka 0) w):((Xk k ka (w,t)).map RtQ.tm).sum=t*(Xk k ka (w,t)).length:=by
 have a:=(M3.NM (t:=t) h).all;generalize Xk k ka (w,t)=l at a;induction l with
 |nil=>rfl
 |cons r l b=>
  rw[List.map_cons,List.sum_cons,b λs hs=>a s (AA _ hs),(a r Ao).2.2,Ai,FJ];omega
theorem PsOk.deg(h:PsOk C n z L)(N:NmOk C n X)(tz:Jc z=z):∃k:Nat,((L.flatMap (Xk (kO C n) (Dd C))).map RtQ.tm).sum+2*k=z.length-1:=by
 obtain⟨p,tp,p0,f,lp⟩:=bT L λa c=>⟨(h.all a c).1.tw,(h.all a c).1.w0⟩;have e:Jr z=p:=YL (Yf z) tp λx=>by rw[h.evs,f]
 have lz:=X2 tz;rw[e,lp]at lz;have key:∀L:List (List Rat × Nat),(∀a∈L,PrOk (kO C n) ((2:Rat)^Yy (J9 a.1) (Dd C) 0) a.1)->∃k:Nat,((L.flatMap (Xk (kO C n) (Dd C))).map RtQ.tm).sum+2*k=O9 L (λw=>w.length-1):=by
  intro L;induction L with
  |nil=>intro _;exact⟨0,J⟩
  |cons a L i=>
   intro d;obtain⟨k,hk⟩:=i λb hb=>d b (AA _ hb);have c:=d a Ao;have l:((Xk (kO C n) (Dd C) a).map RtQ.tm).sum=a.2*(Xk (kO C n) (Dd C) a).length:=um (t:=a.2) c;have g:((Xk (kO C n) (Dd C) a).length:Int)=nA a.1:=M3.SZ (t:=a.2) c;obtain⟨p1,o⟩:=qu c.tw c.w0 c.sq;have q:=Rr c.w0;have w1:=Ae.2 c.w0;unfold nA at g;obtain⟨j,m⟩:∃j,(Xk (kO C n) (Dd C) a).length+2*j=a.1.length-1:=⟨(a.1.length-1-(Xk (kO C n) (Dd C) a).length)/2,O⟩;refine⟨k+a.2*j,?_⟩;grind[O9]
 obtain⟨k,hk⟩:=key L (h.pr N);exact⟨k,O⟩
theorem PsOk.rtAll(h:PsOk C n z L)(N:NmOk C n X)(tz:Jc z=z)(z0:z≠[]){rs:List RtQ}(hp:rs.Perm (L.flatMap (Xk (kO C n) (Dd C))))(hs:rs.Pairwise λr s=>¬s.ord r<0):RtAll C n X z rs:=by
 have hk:=M3.SY (h.pr N);refine⟨λr c=>?_,M3.rise_of (λr c=>(hk r c).1) (M3.bP (h.pr N) ?_) hp hs,?_,λq tq q0=>?_,λr c=>h.tms N tz z0 r (hp.mem_iff.1 c),?_⟩
 . obtain⟨a,d,f⟩:=h.told N r (hp.mem_iff.1 c);exact⟨a.1,a.2,(h.all a d).1,f⟩
 . refine List.Pairwise.imp_of_mem (fun {a b} d hb g=>?_) h.cop;obtain⟨ka,l,i⟩:=Xd (h.all a d).1.tw;obtain⟨kb,m,j⟩:=Xd (h.all b hb).1.tw;obtain⟨s,t,e⟩:=g;refine⟨DM ka⁻¹ s,DM kb⁻¹ t,λx=>?_⟩;grind[Jp]
 . rw[hp.length_eq];exact h.len N tz z0
 . rw[bU (hp.map _)];exact h.cnt N tz z0 tq q0
 . obtain⟨k,hk⟩:=h.deg N tz;grind
end
def Gp(C n:Nat)(z:List Rat)(rs:List RtQ):Prop:=∃L,PsOk C n z L/\rs.Perm (L.flatMap (Xk (kO C n) (Dd C)))/\rs.Pairwise λr s=>¬s.ord r<0
def Gp.all{C n X:Nat}{z:List Rat}{rs:List RtQ}(h:Gp C n z rs)(N:NmOk C n X)(tz:Jc z=z)(z0:z≠[]):RtAll C n X z rs:=by
 obtain⟨L,a,b,c⟩:=h;exact a.rtAll N tz z0 b c
namespace M3
theorem uq{M n X:Nat}(hM:M<=80000)(hn:n<=25)(N:NmOk (M+5) n X)(S:SzOk (M+5) n X (M+5+1) n)(v:R)(z:List Rat)(w:H)(h:Je w v z)(tz:Jc z=z)(z0:z≠[])(lz:z.length<=n)(cz:Cd M z):
 Q F 22 #[v] w λe w'=>∃u rs,e=.returned u/\Hh w' u rs/\Gp (M+5) n z rs/\Bl w w':=by
 obtain⟨L,i,j,l,m,o⟩:=sW hM hn tz z0 lz cz;have c:PsOk (M+5) n z L:=⟨i,λa d=>by
  obtain⟨y,A,C,k4,K,P,T,U⟩:=j a d;exact⟨⟨P,y,A,K,T,U⟩,C,O⟩,l.imp λh=>h.2,m⟩
 have hk:=SY (c.pr N);have hl:=c.len N tz z0;have hA:=Rr z0;have z1:=Ae.2 z0;refine(bJ (kO (M+5) n) (Dd (M+5)) v z w h L o (λq t hq=>?_) O (by unfold nA at hl;omega) (λr f=>(hk r f).1) λr f s hs=>?_).mono ?_
 . obtain⟨G,D,k⟩:=(c.all _ hq).1.ro N t;grind
 . obtain⟨a,d,p⟩:=c.told N r f;obtain⟨b,hb,x⟩:=c.told N s hs;exact p.or_ (c.all a d).1 N S x (c.all b hb).1
 . rintro e w' ⟨u,cs,rs,rfl,V,W,⟨g,o4⟩,o5,_⟩;exact⟨u,rs,J,uj (by rw[g.length_eq];exact V) W,⟨L,c,g,o4⟩,o5⟩
theorem ur(v:R)(z:List Rat)(w:H)(h:Je w v z)(lz:z.length<=1):
 Q F 22 #[v] w λe w'=>e=.returned (E none 0 0)/\Bl w w':=by
 refine(bJ 0 0 v z w h [] (λV x b=>(aP x z V b lz).mono ?_) DH DH DH DH DH).mono ?_
 . rintro e w' ⟨rfl,a⟩;exact⟨_,J,EK.nil _ _ _,a⟩
 . rintro e w' ⟨u,cs,rs,rfl,_,_,_,c,d⟩;grind
end M3
end
section
open M3
def Ka(a x:Rat):Rat:=if a<=x then a else x
section
variable {w:List Rat} {t:Nat} {a b x y:Rat} {r:RtQ}
theorem RtIn.at_(h:RtIn w t a b r)(hp:Spn w a b)(j:a<=y)(l:y<=b):(r.S y<=0/\cw w y=cw w b)\/(r.S y=1/\cw w y=cw w a):=by
 have one:=hp.one;have m:=Jy hp.tw hp.w0 j;have n:=Jy hp.tw hp.w0 l;by_cases hl:r.lo<r.hi
 . have hi:=h.ok.irr hl;obtain⟨f1,f2⟩:=h.fall hp (F:=cw w) (λ_ _ _ _ _ e=>e) hl;rw[RtQ.SI hl];rw[h.ew]at hi ⊢;rcases JV y r.lo with k|k
   . have:=Jy hp.tw hp.w0 k;exact Or.inr ⟨hi.low k,O⟩
   . rcases JV r.hi y with c|c
     . have:=Jy hp.tw hp.w0 c;exact Or.inl ⟨by rw[hi.high c];omega,O⟩
     . obtain⟨c1,c2⟩:=hi.cside k c;omega
 . obtain⟨i,d⟩:=h.ok.rat hl;have g:=h.in_;have f:=h.hi;rw[h.ew]at d;rw[<-i]at g f;rw[RtQ.SR hl];by_cases k:y<r.lo
   . have:cw w y≠cw w b:=λe=>IA hp.tw hp.w0 hp.sq e k f d
     exact Or.inr ⟨by grind[Dm],O⟩
   . have:cw w a≠cw w y:=λe=>IA hp.tw hp.w0 hp.sq e g (Rat.not_lt.1 k) d
     exact Or.inl ⟨by grind[Dm],O⟩
theorem RtIn.bel(h:RtIn w t a b r)(hp:Spn w a b)(x:Rat):(if r.S x<=0 then(1:Int)else 0)=(cw w (Ka a x):Int)-(cw w (Ka b x):Int):=by
 have one:=hp.one;have ab:=Rat.le_of_lt hp.ab;have ka:=h.at_ hp Rat.le_refl ab;have kb:=h.at_ hp ab Rat.le_refl;have f:=h.ok.sd.mono;unfold Ka;by_cases c:a<=x
 . rw[BE c];by_cases d:b<=x
   . grind
   . have e:=h.at_ hp c DG;grind
 grind
end
theorem Sb{p q:List Rat}(tp:Jc p=p)(p0:p≠[])(tq:Jc q=q)(q0:q≠[])(h:DK p=DK q)(x:Rat):nB p x=nB q x:=by
 grind[ZR,nB]
theorem us{w:List Rat}{H:Rat}(tw:Jc w=w)(w0:w≠[])(a:J9 w<=H):cw w (-H)=DL (D5 (Ju w))/\cw w H=DL (El (Ju w)):=by
 have b:cw w (J9 w)=DL (El (Ju w)):=ZZ tw w0;have hD:cw w (-(J9 w))=DL (D5 (Ju w)):=Zc tw w0;have c:=Jy tw w0 a;have d:=Jy tw w0 (show -H<=-(J9 w)by grind);grind[cw,Rn,Ro]
theorem PrOk.bel{k:Nat}{H:Rat}{w:List Rat}(h:PrOk k H w)(t:Nat)(x:Rat):((KV k H w t).map λr=>if r.S x<=0 then(1:Int)else 0).sum=nB w x:=by
 obtain⟨c,c0,f⟩:=Xd h.tw;have c1:c≠0:=λe=>by grind
 have m:0<H:=R9 (Lo w) h.bnd;have l:=J1 w;have j:Jo w≠[]:=by rw[f];exact Gh c1 h.tw h.w0
 have sm:∀a b,a<=b->cw (Jo w) a+cw w b=cw (Jo w) b+cw w a:=λa b d=>by
  have:=Mx l j h.tw h.w0 (by rw[f];exact Lm c1 h.tw) d;unfold cw;omega
 have key:∀s∈Dl w k (-H) H,RtIn (Jo w) t s.1 s.2 (F0 k ⟨s.1,s.2,Jo w,DU (ev (Jo w) s.2),t⟩):=λs hs=>(Ou t (h.span hs).2.2.2).1;have mono:∀a b,a<=b->cw w b<=cw w a:=λa b d=>Jy h.tw h.w0 d;have g:=Z3 (F:=λy=>cw (Jo w) (Ka y x)) h.tw h.w0 (λa z i e=>by
  grind[Ka]) k (-H) H DG
 have e:((KV k H w t).map λr=>if r.S x<=0 then(1:Int)else 0)=(Dl w k (-H) H).map λs=>((cw (Jo w) (Ka s.1 x):Nat):Int)-((cw (Jo w) (Ka s.2 x):Nat):Int):=by
  unfold KV;rw[Fl];refine A3 λs hs=>?_;exact(key s hs).bel (h.span hs).1 x
 rw[e];refine g.trans ?_;obtain⟨f1,f2⟩:=us h.tw h.w0 h.bnd;have sd:cw w x<=_:=Rn h.tw h.w0 x;have n:_<=cw w x:=Ro h.tw h.w0 x;grind[nB,cw,Ka]
def ut{L:List (List Rat × Nat)}(h:PtsOk L)(x:Rat):nB (EU L) x=Gk L (nB · x):=by
 induction L with
 |nil=>exact Mz.2 x
 |cons s L d=>
  obtain⟨a,e,_,_⟩:=h.all s (Ao ..);have b:DP s.1 (EU L):=(NE L s.1 λt c=>((List.pairwise_cons.1 h.cop).1 t c).symm).symm;rw[EU,Zf a e (IQ L) (h.tail.sqf).2,Oi a (IQ L) b,Mz.2,d h.tail];simp[Gk]
section
variable {C n X:Nat} {z:List Rat} {L:List (List Rat × Nat)} {rs:List RtQ} {x:Rat}
theorem PsOk.bel(h:PsOk C n z L)(N:NmOk C n X)(tz:Jc z=z)(z0:z≠[])(x:Rat):((L.flatMap (Xk (kO C n) (Dd C))).map λr=>if r.S x<=0 then(1:Int)else 0).sum=nB z x:=by
 have e:=(R4 h.pts tz z0 h.evs).2;rw[Sb tz z0 (IQ L) h.pts.sqf.2 e,ut h.pts];have key:∀M:List (List Rat × Nat),(∀a∈M,PrOk (kO C n) ((2:Rat)^Yy (J9 a.1) (Dd C) 0) a.1)->((M.flatMap (Xk (kO C n) (Dd C))).map λr=>if r.S x<=0 then(1:Int)else 0).sum=Gk M (nB · x):=λM=>by
  induction M with
  |nil=>intro _;rfl
  |cons a M c=>
   intro hM;have b:=(hM a Ao).bel a.2 x;grind[O8,Gk]
 exact key L (h.pr N)
def Gp.bel(h:Gp C n z rs)(N:NmOk C n X)(tz:Jc z=z)(z0:z≠[])(x:Rat):(rs.map λr=>if r.S x<=0 then(1:Int)else 0).sum=nB z x:=by
 obtain⟨L,a,b,_⟩:=h;rw[bU (b.map _)];exact a.bel N tz z0 x
end
theorem uu{k:Nat}{H:Rat}{w:List Rat}(h:PrOk k H w){x:Rat}(c:ev w x≠0){m:Nat}(i:(m:Int)=nA w-nB w x):(m%2=0->0<ev w x)/\(m%2=1->ev w x<0):=by
 obtain⟨B,b0,a⟩:=PQ h.tw h.w0;obtain⟨C,c0,hC,_⟩:=YJ (J4 h.tw h.w0);obtain⟨X,g,hX⟩:=JI x;have d:=a (B+C+X) DG;have b:cw w (B+C+X)=_:=hC (B+C+X) DG;have l:0<ev w (B+C+X):=YS h.pos d;have f:x<=B+C+X:=by have:=hX.2;grind
 have e:nA w-nB w x=(cw w x:Int)-(cw w (B+C+X):Int):=by rw[b];unfold nA nB cw;omega
 obtain⟨p1,j⟩:=Zs h.tw h.w0 h.sq m x (B+C+X) f c DG O;grind[YS,XO]
end
section
open M3
section
variable {C n X:Nat} {z:List Rat} {rs:List RtQ}
end
end
section
open M3
section
variable {r:RtQ} {q:List Rat}
def bV(a:Rat):DU (a*a)=DU a*DU a:=by
 rcases JY a with⟨h,e⟩|⟨h,e⟩|⟨h,e⟩
 . rw[e];have:=Rat.mul_pos (a:=-a) (b:=-a) DG DG;exact Im.2 DG
 . rw[h];decide +kernel
 . rw[e];exact Im.2 (Rat.mul_pos h h)
end
def sN(rs:List RtQ)(q:List Rat)(k:Nat):Int:=((rs.take k).map λr=>if r.sign q=0 then(1:Int)else 0).sum
section
variable {rs:List RtQ} {q:List Rat} {k:Nat} {r:RtQ}
end
section
variable {z:List Rat} {rs:List RtQ} {i j:Nat} {r s:RtQ}
end
theorem bW{M:Nat}{q:List Rat}(h:Cd M q):Cd M (JR [] q):=by
 obtain⟨D,d1,a,b⟩:=h;refine⟨D,d1,a,λi=>?_⟩;obtain⟨n,e,hn⟩:=b i;refine⟨-n,?_,by unfold Sm at *;rwa[FG]⟩;grind[NS,Xu,An]
theorem uv(q:List Rat):(JR [] q).length<=q.length:=by
 grind[WV]
def uw{q:List Rat}(tq:Jc q=q)(h:q.length<=9):(Ji q q).length<=17:=by
 by_cases q0:q=[]
 . rw[q0];exact Ap _
 . have:=JC tq tq q0 q0;omega
namespace M3
section
variable {z:List Rat} {rs:List RtQ} {r s:RtQ}
end
end M3
end
section
open M3
def bX:List Rat->Rat->Rat
 |[],_=>1
 |a::l,y=>(y-a)*bX l y
structure MdA(z all c:List Rat):Prop where
 tz:Jc z=z
 z0:z≠[]
 evs:∀y,ev z y=bX all y*ev c y
 nz:∀x,ev c x≠0
 ln:z.length=all.length+c.length
 c:c=[1]\/(c.length=3/\Jc c=c/\Jr c=c/\nA c=2)
section
variable {C n X:Nat} {z all c:List Rat} {rs:List RtQ} {r:RtQ}
theorem RtQ.Ok.sign_at(h:r.Ok)(a:Rat):r.sign [-a,1]=0↔¬r.lo<r.hi/\r.lo=a:=by
 by_cases hl:r.lo<r.hi
 . rw[h.signI hl];have:=(h.irr hl).sid_ne a;grind[Di]
 grind[RtQ.signR,YF,Xt]
end
end
section
open M3
structure Sgn(m:Nat)(v:Rat):Prop where
 ev_:m%2=0->0<v
 od:m%2=1->v<0
variable{v:Rat}
theorem Sgn.mul{u:Rat}{m n:Nat}(h:Sgn m u)(k:Sgn n v):Sgn (m+n) (u*v):=by
 obtain⟨a,b⟩:=h;obtain⟨c,d⟩:=k;rcases Nat.mod_two_eq_zero_or_one m with i|i<;>rcases Nat.mod_two_eq_zero_or_one n with j|j
 . exact⟨λ_=>Rat.mul_pos (a i) (c j),λ_=>by omega⟩
 . have:=Rat.mul_pos (a i) (show 0 < -v by have:=d j;grind);exact⟨λ_=>by omega,λ_=>by grind⟩
 . have:=Rat.mul_pos (show 0 < -u by have:=b i;grind) (c j);exact⟨λ_=>by omega,λ_=>by grind⟩
 . have:=Rat.mul_pos (show 0 < -u by have:=b i;grind) (show 0 < -v by have:=d j;grind);exact⟨λ_=>by grind,λ_=>by omega⟩
theorem Sgn.pow{m:Nat}(h:Sgn m v)(t:Nat):Sgn (t*m) (v^t):=by
 induction t with
 |zero=>exact⟨λ_=>by grind,λk=>by simp at k⟩
 |succ t a=>
  rw[Rat.pow_succ,FH];exact a.mul h
def GE(rs:List RtQ)(x:Rat):Nat:=(rs.map λr=>if r.S x<=0 then 0 else r.tm).sum
def E9(rs:List RtQ)(x:Rat):Int:=(rs.map λr=>if r.S x<=0 then(1:Int)else 0).sum
theorem ux{t:Nat}(x:Rat)(rs:List RtQ):(∀r∈rs,r.tm=t)->∃m:Nat,GE rs x=t*m/\(m:Int)=(rs.length:Int)-E9 rs x:=by
 induction rs with
 |nil=>intro _;exact⟨0,J,J⟩
 |cons r rs a=>
  intro h;obtain⟨m,b,c⟩:=a λs hs=>h s (AA _ hs);have d:=h r Ao;unfold GE E9 at *;by_cases k:r.S x<=0
  . grind
  . exact⟨m+1,DG,by simp[k];omega⟩
section
variable {C n X:Nat} {z:List Rat} {L:List (List Rat × Nat)} {rs:List RtQ} {x:Rat}
theorem PsOk.sgn(N:NmOk C n X)(x:Rat):∀M:List (List Rat × Nat),(∀a∈M,PrOk (kO C n) ((2:Rat)^Yy (J9 a.1) (Dd C) 0) a.1)->Dj M x≠0->Sgn (GE (M.flatMap (Xk (kO C n) (Dd C))) x) (Dj M x)
 |[],_,_=>⟨λ_=>by rw[Dj];decide,λk=>by simp[GE]at k⟩
 |a::M,h,e=>by
  rw[Dj]at e ⊢;have d:Dj M x≠0:=λk=>e (by rw[k,Fk]);have f:ev a.1 x^a.2≠0:=λk=>e (by rw[k,AZ]);have s:=PsOk.sgn N x M (λb hb=>h b (AA _ hb)) d;have c:=h a Ao;have o:=(NM (t:=a.2) c).all;have hl:=SZ (t:=a.2) c;have hb:=c.bel a.2 x;rw[<-O8]at hb;obtain⟨m,i,l⟩:=ux (t:=a.2) x _ λr p=>(o r p).2.2;rw[List.flatMap_cons];have g:GE (Xk (kO C n) (Dd C) a++M.flatMap (Xk (kO C n) (Dd C))) x=a.2*m+GE (M.flatMap (Xk (kO C n) (Dd C))) x:=by
   rw[<-i];unfold GE;rw[List.map_append,List.sum_append]
  rw[g];refine Sgn.mul ?_ s;by_cases u:a.2=0
  . rw[u,Nat.zero_mul,Rat.pow_zero];exact⟨λ_=>by decide,λk=>by simp at k⟩
  . have q:ev a.1 x≠0:=λk=>f (by rw[k];obtain⟨j,v⟩:∃j,a.2=j+1:=⟨a.2-1,O⟩;grind);have hs:=uu c q (m:=m) (by rw[l,hl];unfold E9;rw[hb]);exact Sgn.pow ⟨hs.1,hs.2⟩ a.2
theorem Gp.sgn(h:Gp C n z rs)(N:NmOk C n X)(tz:Jc z=z)(z0:z≠[]){x:Rat}(i:ev z x≠0):Sgn (GE rs x) (cf z (z.length-1)*ev z x):=by
 obtain⟨L,c,g,_⟩:=h;obtain⟨d,f⟩:=Lk tz z0;generalize cf z (z.length-1)=a at *;have b:ev z x=Dj L x*a:=by rw[<-c.evs];conv=>lhs;rw[f,Jp]
 have e:Dj L x≠0:=λk=>i (by rw[b,k,AZ]);have hs:=PsOk.sgn N x L (c.pr N) e;have eu:GE rs x=GE (L.flatMap (Xk (kO C n) (Dd C))) x:=by unfold GE;exact(g.map _).sum_nat
 rw[eu,b,show a*(Dj L x*a)=(a*a)*Dj L x by grind];have hl:0<a*a:=(YT (Xc d d)).resolve_left (by have:=Xi a;grind);exact⟨λk=>Rat.mul_pos hl (hs.ev_ k),λk=>by have:=Rat.mul_pos hl (show 0 < -(Dj L x)by have:=hs.od k;grind);grind⟩
theorem RtAll.zero(h:RtAll C n X z rs)(tz:Jc z=z)(e:ev z x=0):∃r∈rs,r.S x=0:=by
 have c:=h.cnt [-x,1] (Ru x).1 DH;rw[qR tz,BE e,(qQ x).1]at c;refine Classical.byContradiction λhn=>?_;have key:∀l:List RtQ,(∀r∈l,r∈rs)->(l.map λr=>if r.sign [-x,1]=0 then(1:Int)else 0).sum=0:=λl=>by
  induction l with
  |nil=>intro _;rfl
  |cons r l d=>
   intro hl;rw[List.map_cons,List.sum_cons,d λs hs=>hl s (AA _ hs)];have a:=hl r Ao;obtain⟨_,_,_,b⟩:=h.told r a;rw[BD λk=>hn ⟨r,a,?_⟩]
   . rfl
   . obtain⟨f,g⟩:=(b.ok.sign_at x).1 k;rw[RtQ.SR f];grind[Dm]
 grind
end
theorem Dx.le{S T:Rat->Int}{x:Rat}(a:SdOk S)(hT:SdOk T)(h:Dx S T)(c:T x<=0):S x=-1:=by
 obtain⟨y,b,d,e⟩:=h;rcases(show y<x\/y=x\/x<y by grind)with k|k|k
 . exact a.mono y x k b
 . subst k;have:=a.three y;omega
 . have:=hT.mono x y k c;omega
structure Rise(rs:List RtQ):Prop where
 ok:∀r∈rs,r.Ok
 rise:rs.Pairwise λr s=>Dx r.S s.S
section
variable {rs ss:List RtQ} {r s:RtQ} {x:Rat} {i j:Nat}
def Rise.tail(h:Rise (r::rs)):Rise rs:=⟨λs hs=>h.ok s (AA _ hs),(List.pairwise_cons.1 h.rise).2⟩
def Rise.lt(h:Rise rs)(hi:rs[i]?=some r)(f:rs[j]?=some s)(e:i<j):Dx r.S s.S:=by
 obtain⟨a,b⟩:=Aw.1 hi;obtain⟨c,d⟩:=Aw.1 f;have:=List.pairwise_iff_getElem.1 h.rise i j a c e;rwa[b,d]at this
theorem bY{x:Rat}:∀rs:List RtQ,(∀s∈rs,¬s.S x<=0)->E9 rs x=0
 |[],_=>rfl
 |s::rs,h=>by
  have b:=bY rs λt a=>h t (AA _ a);grind[E9]
theorem Rise.at_(x:Rat):∀ {rs:List RtQ},Rise rs->(0<=E9 rs x/\∀ {i:Nat} {r:RtQ},rs[i]?=some r->(r.S x<=0↔(i:Int)<E9 rs x))
 |[],_=>⟨by simp[E9],λh=>by simp at h⟩
 |q::rs,h=>by
  obtain⟨b,c⟩:=Rise.at_ x h.tail;have e:E9 (q::rs) x=(if q.S x<=0 then 1 else 0)+E9 rs x:=by simp[E9]
  rw[e];by_cases k:q.S x<=0
  . grind
  . rw[BD k];have d:∀s∈rs,¬s.S x<=0:=λs hs a=>by
     have:=Dx.le (h.ok q Ao).sd (h.tail.ok s hs).sd ((List.pairwise_cons.1 h.rise).1 s hs) a;omega
    grind[bY]
theorem RtQ.Ok.open_(h:r.Ok):(r.S x=-1->∃y,y<x/\r.S y=-1)/\(r.S x=1->∃y,x<y/\r.S y=1):=by
 by_cases hl:r.lo<r.hi
 . have k:=h.irr hl;rw[RtQ.SI hl];constructor
   . intro e;obtain⟨c,c0,a⟩:=k.minus.1 e;refine⟨x-c/2,DG,k.minus.2 ⟨c/2,DG,a.mono λs t _ _ _ _ i=>?_⟩⟩;grind[Jp,Xt]
   . intro e;obtain⟨c,c0,a⟩:=k.pos.1 e;refine⟨x+c/2,DG,k.pos.2 ⟨c/2,DG,a.mono λs t _ _ _ _ i=>?_⟩⟩;grind[Xt]
 . rw[RtQ.SR hl];unfold Dm;constructor
   . intro e;exact⟨(r.lo+x)/2,DG,DG⟩
   . intro e;exact⟨(r.lo+x)/2,DG,DG⟩
def Rise.same(h:Rise rs)(k:Rise ss)(e:∀x,E9 rs x=E9 ss x)(hi:rs[i]?=some r)(d:ss[i]?=some s):r.S=s.S:=by
 have b:=h.ok r (List.mem_of_getElem? hi);have hs:=k.ok s (List.mem_of_getElem? d);have key:∀x,r.S x<=0↔s.S x<=0:=λx=>by rw[(h.at_ x).2 hi,(k.at_ x).2 d,e]
 funext x
 have m:=b.sd.three x;have n:=hs.sd.three x;have o:=key x;have j:r.S x=-1->s.S x≠0:=λa f=>by
  obtain⟨y,c,g⟩:=(b.open_ (x:=x)).1 a;have:=hs.sd.mono y x c ((key y).1 O);omega
 have l:s.S x=-1->r.S x≠0:=λa f=>by
  obtain⟨y,c,g⟩:=(hs.open_ (x:=x)).1 a;have:=b.sd.mono y x c ((key y).2 O);omega
 omega
theorem Rise.cell(h:Rise rs)(hi:i<=rs.length):∃x,∀ {j:Nat} {r:RtQ},rs[j]?=some r->r.S x=if j<i then -1 else 1:=by
 have two:∀ {r s:RtQ},r.Ok->s.Ok->Dx r.S s.S->∃x,r.S x=-1/\s.S x=1:=fun {r s} d hs C=>by
  obtain⟨x,o,z,M⟩:=C;have a:=d.sd.three x;have b:=hs.sd.three x;by_cases t:r.S x=-1
  . by_cases K:s.S x=1
    . exact⟨x,t,K⟩
    . obtain⟨y,n,l⟩:=(d.open_ (x:=x)).1 t;refine⟨y,l,?_⟩;have:=hs.sd.three y;have:=λq=>hs.sd.mono y x n q;omega
  . obtain⟨y,n,l⟩:=(hs.open_ (x:=x)).2 O;exact⟨y,d.sd.mono x y n o,l⟩
 have w:∀ {r:RtQ},r.Ok->∃x,r.S x=1:=fun {r} d=>by
  by_cases hl:r.lo<r.hi
  . exact⟨r.lo,by rw[RtQ.SI hl];exact(d.irr hl).low Rat.le_refl⟩
  . exact⟨r.lo-1,by rw[RtQ.SR hl];grind[Dm]⟩
 have v:∀ {r:RtQ},r.Ok->∃x,r.S x=-1:=fun {r} d=>by
  by_cases hl:r.lo<r.hi
  . exact⟨r.hi,by rw[RtQ.SI hl];exact(d.irr hl).high Rat.le_refl⟩
  . exact⟨r.lo+1,by rw[RtQ.SR hl];grind[Dm]⟩
 have c:∀ {j:Nat} {r:RtQ},rs[j]?=some r->r.Ok:=λe=>h.ok _ (List.mem_of_getElem? e);have up:∀ {a b:Nat} {r s:RtQ} {x:Rat},rs[a]?=some r->rs[b]?=some s->a<=b->s.S x=-1->r.S x=-1:=fun {a b r s x} f hb m e=>by
  rcases Nat.lt_or_eq_of_le m with k|k
  . exact Dx.le (c f).sd (c hb).sd (h.lt f hb k) O
  grind
 have L:∀ {a b:Nat} {r s:RtQ} {x:Rat},rs[a]?=some r->rs[b]?=some s->a<=b->r.S x=1->s.S x=1:=fun {a b r s x} f hb m e=>by
  rcases Nat.lt_or_eq_of_le m with k|k
  . have:=(c hb).sd.three x;have:=λq=>Dx.le (x:=x) (c f).sd (c hb).sd (h.lt f hb k) q;omega
  grind
 have g:∀ {j:Nat},j<rs.length->∃r,rs[j]?=some r:=λA=>⟨_,Au A⟩;cases i with
 |zero=>
  rcases AN rs.length with u|u
  . exact⟨0,fun {j r} e=>by grind⟩
  . obtain⟨q,hq⟩:=g u;obtain⟨x,D⟩:=w (c hq);exact⟨x,fun {j r} e=>by grind⟩
 |succ i=>
  obtain⟨q,hq⟩:=g (show i<rs.length by omega);by_cases l1:i+1<rs.length
  . obtain⟨p,hp⟩:=g l1;obtain⟨x,o,z⟩:=two (c hq) (c hp) (h.lt hq hp O);refine⟨x,fun {j r} e=>?_⟩;grind
  . obtain⟨x,D⟩:=v (c hq);refine⟨x,fun {j r} e=>?_⟩;grind
end
end
section
open M3
section
variable {r:RtQ}
theorem RtQ.Ok.hv(h:r.Ok)(hl:r.lo<r.hi):r.hv.Ok/\r.hv.lo<r.hv.hi/\(r.hv.hi-r.hv.lo)*2=r.hi-r.lo/\r.lo<=r.hv.lo/\r.hv.hi<=r.hi/\r.hv.w=r.w/\∀q,r.hv.sign q=r.sign q:=by
 have k:=h.irr hl;obtain⟨s,t,_⟩:=Gj hl;obtain⟨g,j,u⟩:=RtQ.hv_cutP h.sgh hl;have ew:r.hv.w=r.w:=(r.cut_w r.mid).1;have x:=k.nz (Db r.lo r.hi) (Rat.le_of_lt s) (Rat.le_of_lt t);have en:=k.ends;have wd:Db r.lo r.hi*2=r.lo+r.hi:=by unfold Db;grind
 have key:∃c d,r.hv.lo=c/\r.hv.hi=d/\r.lo<=c/\c<d/\d<=r.hi/\(d-c)*2=r.hi-r.lo/\ev r.w c*ev r.w d<0:=by
  unfold Ez at g j;by_cases m:ev r.w (Db r.lo r.hi)=0\/0<ev r.w (Db r.lo r.hi)*ev r.w r.hi
  . rw[BE m]at g j;refine⟨_,_,g,j,Rat.le_refl,s,Rat.le_of_lt t,DG,?_⟩;have hp:=m.resolve_left x;have z:=Rat.mul_pos (show 0 < -(ev r.w r.lo*ev r.w r.hi)by grind) hp;have nb:=k.nz r.hi (Rat.le_of_lt hl) Rat.le_refl;have sq:0<ev r.w r.hi*ev r.w r.hi:=by
     rcases YT nb with i|i
     . have:=Rat.mul_pos (a:=-(ev r.w r.hi)) (b:=-(ev r.w r.hi)) DG DG;grind
     . exact Rat.mul_pos i i
    exact XO sq DG
  . grind
 obtain⟨c,d,e,f,n,o,p,v,w⟩:=key;obtain⟨A,y⟩:=k.sub n o p w;have ok:r.hv.Ok:=⟨by rw[ew];exact h.tw,by rw[ew];exact h.w0,by rw[ew];exact h.sq,u,Or.inr DG⟩;have l:r.hv.lo<r.hv.hi:=by rw[e,f];exact o
 refine⟨ok,l,by rw[e,f];exact v,by rw[e];exact n,by rw[f];exact p,ew,λq=>?_⟩;rw[ok.signI l,h.signI hl,ew,e,f,y]
theorem uy(m:Nat):∀(k:Nat) (r:RtQ),r.Ok->r.lo<r.hi->(M3.XT m k r).Ok/\(M3.XT m k r).lo<(M3.XT m k r).hi/\r.lo<=(M3.XT m k r).lo/\(M3.XT m k r).hi<=r.hi/\∀q,(M3.XT m k r).sign q=r.sign q:=by
 intro k;induction k with
 |zero=>intro r h hl;exact⟨h,hl,Rat.le_refl,Rat.le_refl,λ_=>rfl⟩
 |succ k f=>
  intro r h hl;rw[M3.XT];split
  . grind
  . obtain⟨a,b,_,c,d,_,e⟩:=h.hv hl;grind
end
variable{K:Nat}
theorem uz{w:List Rat}(p:Wh K w)(w0:w≠[]){m:Nat}{M:Int}(u:ev w (Rat.divInt M (10^m))≠0):1<=Yv (ev w (Rat.divInt M (10^m)))*(10^m:Rat)^(w.length-1):=by
 obtain⟨zs,c⟩:=p.ints;have z0:zs≠[]:=λk=>w0 (by rw[c,k];rfl);have a:=Rz (Rat.divInt M (10^m)) zs z0;rw[<-c]at a;have l:zs.length=w.length:=by rw[c,Cw]
 rw[l]at a;generalize hX:Rat.divInt M (10^m)=x at *;have d0:(0:Rat)<((x.den:Int):Rat):=by have:=x.den_pos;exact_mod_cast this
 have t:((x.den:Int):Rat)<=(10:Rat)^m:=by
  have d:(x.den:Int)∣10^m:=by
   have s:=Kv m;have d:Rat.divInt M (10^m)=Rat.divInt x.num (x.den:Int):=by rw[Ci];exact hX
   rw[Rat.divInt_eq_divInt_iff O (by have:=x.den_nz;omega)]at d;have b:x.den∣(x.num*10^m).natAbs:=by
    have:=Cu.2 (show(x.den:Int)∣x.num*10^m from⟨M,DG⟩);rwa[AF]at this
   rw[Co]at b;exact Cu.1 (by rw[AF];exact x.reduced.symm.dvd_of_dvd_mul_left b)
  have b:=Int.le_of_dvd (Kv m) d;have o:((x.den:Int):Rat)<=((10^m:Int):Rat):=Rat.intCast_le_intCast.2 b;rwa[Rat.intCast_pow]at o
 have q:∀n:Nat,0<((x.den:Int):Rat)^n/\((x.den:Int):Rat)^n<=((10:Rat)^m)^n:=λn=>by
  induction n with
  |zero=>grind
  |succ n j=>
   rw[Rat.pow_succ,Rat.pow_succ];refine⟨Rat.mul_pos j.1 d0,?_⟩;have v:=Rat.mul_le_mul_of_nonneg_right j.2 (Rat.le_of_lt d0);grind[Rat.mul_le_mul_of_nonneg_left,Rat.le_trans]
 obtain⟨p0,p1⟩:=q (w.length-1);obtain⟨g,r⟩:=Rv (ev w x);have hb:1<=Yv (ev w x)*((x.den:Int):Rat)^(w.length-1):=by
  have y:hZ x.num (x.den:Int) zs≠0:=λe=>by
   rw[e]at a;grind
  rcases(show hZ x.num (x.den:Int) zs<=-1\/1<=hZ x.num (x.den:Int) zs by omega)with i|i
  . have f:((hZ x.num (x.den:Int) zs:Int):Rat)<=((-1:Int):Rat):=Rat.intCast_le_intCast.2 i;rw[<-a]at f;have:=Rat.mul_le_mul_of_nonneg_right g.1 (Rat.le_of_lt p0);grind
  . have f:((1:Int):Rat)<=((hZ x.num (x.den:Int) zs:Int):Rat):=Rat.intCast_le_intCast.2 i;rw[<-a]at f;have:=Rat.mul_le_mul_of_nonneg_right g.2 (Rat.le_of_lt p0);grind
 grind[Rat.le_trans,Rat.mul_le_mul_of_nonneg_left]
theorem vA{m:Nat}{H:Rat}(q:0<=H):∀(k:Nat) (r:RtQ),r.Ok->r.lo<r.hi->Wh K r.w->Wi H r.lo->Wi H r.hi->(r.hi-r.lo)*(Eo H r.w*(10^m:Rat)^(r.w.length-1))<2^k->M3.dT m (M3.XT m k r).lo=M3.dT m (M3.XT m k r).hi:=by
 intro k;induction k with
 |zero=>
  intro r h hl f c hb hs;have k:=h.irr hl;rw[M3.XT];show Y1 (E5 m r.lo) m=Y1 (E5 m r.hi) m;rw[tB (Rat.le_of_lt hl) λM d e=>?_];have nz:=k.nz _ (Rat.le_of_lt d) e;have z:=uz f h.w0 nz;generalize Rat.divInt M (10^m)=x at *;have l:Wi H x:=⟨by have:=c.1;grind,by have:=hb.2;grind⟩;have l1:=Rx r.w c l (Rat.le_of_lt d);have l2:=Rx r.w l hb e;have ln:=NB q r.w;have w1:=Rat.mul_le_mul_of_nonneg_left (show x-r.lo<=r.hi-r.lo by grind) ln;have w2:=Rat.mul_le_mul_of_nonneg_left (show r.hi-x<=r.hi-r.lo by grind) ln;have en:=k.ends;have bd:Yv (ev r.w x)<=Eo H r.w*(r.hi-r.lo):=by
   obtain⟨u,v⟩:=l1;obtain⟨w,y⟩:=l2;have sg:(ev r.w r.lo<0/\0<ev r.w r.hi)\/(0<ev r.w r.lo/\ev r.w r.hi<0):=by
    have t:=k.nz r.lo Rat.le_refl (Rat.le_of_lt hl);have nb:=k.nz r.hi (Rat.le_of_lt hl) Rat.le_refl;rcases YT t with i|i<;>rcases YT nb with j|j
    . have:=Rat.mul_pos (a:=-(ev r.w r.lo)) (b:=-(ev r.w r.hi)) DG DG;grind
    . exact Or.inl ⟨i,j⟩
    . exact Or.inr ⟨i,j⟩
    . have:=Rat.mul_pos i j;grind
   unfold Yv;grind
  have tp:(0:Rat)<=(10^m:Rat)^(r.w.length-1):=Rat.le_of_lt (Rat.pow_pos (Rat.pow_pos DJ));have:=Rat.mul_le_mul_of_nonneg_right bd tp;grind
 |succ k s=>
  intro r h hl f c hb hs;rw[M3.XT];split
  . assumption
  . obtain⟨d,e,n,o,p,g,_⟩:=h.hv hl;refine s r.hv d e (by rw[g];exact f) ⟨Rat.le_trans c.1 o,by have:=hb.2;grind⟩ ⟨by have:=c.1;grind,Rat.le_trans p hb.2⟩ ?_;rw[g];rw[Rat.pow_succ,<-n]at hs;grind
theorem RtQ.Ok.sign_line{r:RtQ}(h:r.Ok){q:List Rat}{c:Rat}(e:∀x,ev q x=x-c):r.sign q=r.S c:=by
 by_cases hl:r.lo<r.hi
 . rw[h.signI hl,RtQ.SI hl];exact(h.irr hl).ext λx=>by rw[e,Xt]
 . rw[RtQ.signR hl,RtQ.SR hl,e,<-FY];rcases JY (r.lo-c)with⟨i,k⟩|⟨i,k⟩|⟨i,k⟩
   . grind[FY,Dm]
   . rw[k];exact(LZ.2 DG).symm
   . rw[k];exact(KM.2 DG).symm
theorem TdOk.dg{C n X:Nat}{w:List Rat}{t:Nat}{r:RtQ}(h:TdOk C n X w t r)(a:PwOk C n w)(N:NmOk C n X){m:Nat}(P:m<=30):∃k,M3.DgOk (C+1) X k m r/\r.S (Rat.divInt (E5 m (M3.XT m k r).lo) (10^m))≥0/\r.S (Rat.divInt (E5 m (M3.XT m k r).lo+1) (10^m))<0∧-(2^Dd C)<=(M3.XT m k r).lo/\(M3.XT m k r).lo<=2^Dd C:=by
 have rz:=h.rz a N;have hX:=N.hX;by_cases hl:r.lo<r.hi
 . obtain⟨d1,D⟩:=h.dy hl;have ll:r.w.length=w.length:=by rw[h.ew];exact JL a.tw
   have ah:=a.ln;have f:(0:Rat)<=2^Dd C:=Rat.le_of_lt (Y3 _);have o:Wh C r.w:=by rw[h.ew];exact a.wh
   have stop:M3.dT m (M3.XT m (kO C n) r).lo=M3.dT m (M3.XT m (kO C n) r).hi:=by
    refine vA (K:=C) f (kO C n) r h.ok hl o ⟨h.bl,by have:=h.bh;grind⟩ ⟨by have:=h.bl;grind,h.bh⟩ ?_;have l1:=M3.O6 (g:=Dd C) r.w (M3.Wh.abs o);have V:=NB f r.w;have W:(10^m:Rat)^(r.w.length-1)<=2^(100*n):=by
     have ae:(10:Rat)^m<=2^100:=by
      have M:(10:Nat)^m<=2^100:=Ac (Aq O P) DJ;have p:(((10:Nat)^m:Nat):Rat)<=(((2:Nat)^100:Nat):Rat):=by exact_mod_cast M
      rw[Rat.natCast_pow,Rat.natCast_pow]at p;exact p
     have l:(0:Rat)<=10^m:=Rat.le_of_lt (Rat.pow_pos DJ);have key:∀j:Nat,(0:Rat)<=(10^m:Rat)^j/\(10^m:Rat)^j<=2^(100*j):=λj=>by
      induction j with
      |zero=>grind
      |succ j s=>
       rw[Rat.pow_succ,FJ,M3.YN];refine⟨Rat.mul_nonneg s.1 l,?_⟩;have i1:=Rat.mul_le_mul_of_nonneg_right s.2 l;grind[Rat.mul_le_mul_of_nonneg_left,Rat.le_trans]
     exact Rat.le_trans (key (r.w.length-1)).2 (M3.LB O)
    have v:(0:Rat)<=(10^m:Rat)^(r.w.length-1):=Rat.le_of_lt (Rat.pow_pos (Rat.pow_pos DJ));have w1:r.hi-r.lo<=2^(Dd C+1):=by
     rw[Rat.pow_succ];have:=h.bl;have:=h.bh;grind
    have y:Eo (2^Dd C) r.w*(10^m:Rat)^(r.w.length-1)<=2^(64*(C+1)+(Dd C+1)*r.w.length)*2^(100*n):=Rat.le_trans (Rat.mul_le_mul_of_nonneg_right l1 v) (Rat.mul_le_mul_of_nonneg_left W (Rat.le_of_lt (Y3 _)));have z:=Rat.mul_le_mul_of_nonneg_right w1 (Rat.mul_nonneg V v);have A:=Rat.mul_le_mul_of_nonneg_left y (Rat.le_of_lt (Y3 (Dd C+1)));refine K4 (Rat.le_trans z A) ?_;rw[<-M3.YN,<-M3.YN];refine M3.O7 ?_;have m1:(Dd C+1)*r.w.length<=(Dd C+2)*n:=Cn O O;have m2:C+2<=(C+2)*n:=AW _ (by have:=a.l2;omega);have m3:2*n<=(C+2)*n:=Ad _ O;have m4:(C+2)*(n+n)=(C+2)*n+(C+2)*n:=CS _ _ _;unfold kO eO;omega
   obtain⟨e,b,S,T,U⟩:=uy m (kO C n) r h.ok hl;have L:E5 m (M3.XT m (kO C n) r).lo=E5 m (M3.XT m (kO C n) r).hi:=tA stop;have u:∀c,r.S c=(M3.XT m (kO C n) r).S c:=λc=>by
    rw[<-h.ok.sign_line (q:=[-c,1]) λx=>Xt c x,<-e.sign_line (q:=[-c,1]) λx=>Xt c x,U]
   refine⟨kO C n,⟨λi hi=>?_,stop⟩,?_,?_,Rat.le_trans h.bl S,Rat.le_trans (Rat.le_of_lt b) (Rat.le_trans T h.bh)⟩
   . obtain⟨c1,c2⟩:=R7 i _ r d1 D;have ew:=(R8 i r).1;exact⟨⟨by rw[ew];exact rz.wh,c1.smq O,c2.smq O,by rw[ew];exact rz.sz,rz.x2⟩,(Dy.mid c1 c2).smq O⟩
   . rw[u,RtQ.SI b,(e.irr b).low (NI m _)];decide
   . rw[u,RtQ.SI b,L,(e.irr b).high (Rat.le_of_lt (NJ m _))];decide
 . obtain⟨d,_⟩:=h.ok.rat hl;refine⟨0,⟨λi hi=>?_,by rw[M3.XT,d]⟩,?_,?_,h.bl,by rw[show M3.XT m 0 r=r from J,d];exact h.bh⟩
   . obtain rfl:i=0:=O
     refine⟨rz,?_⟩;show DR X (Db r.lo r.hi);rw[<-d,show Db r.lo r.lo=r.lo by unfold Db;grind];exact h.lo
   . rw[RtQ.SR hl,<-FY];grind[NI,M3.XT,LZ,KM]
   . rw[RtQ.SR hl,<-FY];exact Io.2 (NJ m r.lo)
end
section
open M3
def Fqq(s:Int):List Nat->List Int
 |[]=>[s]
 |t::ts=>s::0::Fqq (if t%2=0 then s else -s) ts
def GF(s:Int):List Nat->Int
 |[]=>s
 |t::ts=>GF (if t%2=0 then s else -s) ts
def F2(z:List Rat):Int:=if(z.length-1)%2=0 then DU (cf z (z.length-1))else -(DU (cf z (z.length-1)))
def bZ(t:Nat):∀(s:Int) (ts:List Nat),Fqq s (ts++[t])=Fqq s ts++[0,if t%2=0 then GF s ts else -(GF s ts)]/\GF s (ts++[t])=if t%2=0 then GF s ts else -(GF s ts)
 |s,[]=>⟨J,J⟩
 |s,u::ts=>by
  obtain⟨a,b⟩:=bZ t (if u%2=0 then s else -s) ts;refine⟨?_,b⟩;show s::0::Fqq _ (ts++[t])=_;rw[a];rfl
def Sc:∀(s:Int) (ts:List Nat),GF s ts=if ts.sum%2=0 then s else -s
 |s,[]=>rfl
 |s,t::ts=>by
  rw[GF,Sc,List.sum_cons];omega
theorem Sd:∀(s:Int) (ts:List Nat),(Fqq s ts).length=2*ts.length+1
 |s,[]=>rfl
 |s,t::ts=>by rw[Fqq,Ai,Ai,Sd,Ai];omega
def Se:∀(s:Int) (ts:List Nat) (i:Nat),(i<=ts.length->(Fqq s ts)[2*i]?=some (GF s (ts.take i)))/\(i<ts.length->(Fqq s ts)[2*i+1]?=some 0)
 |s,[],i=>⟨λh=>by obtain rfl:i=0:=(by simpa using h);rfl,λh=>by simp at h⟩
 |s,t::ts,0=>⟨λ_=>rfl,λ_=>rfl⟩
 |s,t::ts,i+1=>by
  obtain⟨a,b⟩:=Se (if t%2=0 then s else -s) ts i;rw[show 2*(i+1)=2*i+1+1 by omega,Fqq];exact⟨λh=>a (by simpa using h),λh=>b (by simpa using h)⟩
theorem vB(q p:Prop)[Decidable q][Decidable p](a:Int):(if q then(if p then a else -a)else -(if p then a else -a))=if(q↔p)then a else -a:=by
 grind
theorem vC{F G T:Int}(hT:0<T)(h:F<=G):Rat.divInt F T<=Rat.divInt G T:=by
 have a:(0:Rat)<(T:Rat):=Rat.intCast_pos.2 hT;have e:∀z:Int,Rat.divInt z T*(T:Rat)=(z:Rat):=λz=>by grind[An]
 have b:=e F;have c:=e G;have d:(F:Rat)<=(G:Rat):=Rat.intCast_le_intCast.2 h;refine Rat.not_lt.1 λk=>?_;have:=Rat.mul_pos (show 0<Rat.divInt F T-Rat.divInt G T by grind) a;grind
theorem Sf{x:Rat}:∀(rs:List RtQ) (i:Nat),(∀ {j:Nat} {r:RtQ},rs[j]?=some r->r.S x=if j<i then -1 else 1)->GE rs x=((rs.map RtQ.tm).drop i).sum
 |[],i,_=>by simp[GE]
 |r::rs,0,h=>by
  have a:=h (j:=0) (r:=r) J;have b:=Sf rs 0 fun {j s} hs=>by
   have:=h (j:=j+1) (r:=s) DG;simpa using this
  grind[GE]
 |r::rs,i+1,h=>by
  have a:=h (j:=0) (r:=r) J;have b:=Sf rs i fun {j s} hs=>by
   have:=h (j:=j+1) (r:=s) DG;simpa using this
  grind[GE]
section
variable {C n X:Nat} {z:List Rat} {rs:List RtQ} {x:Rat} {i:Nat}
def RtAll.rse(h:RtAll C n X z rs):Rise rs:=⟨λr b=>by obtain⟨_,_,_,a⟩:=h.told r b;exact a.ok,h.rise⟩
theorem Gp.cell(h:Gp C n z rs)(N:NmOk C n X)(tz:Jc z=z)(z0:z≠[])(c:∀ {j:Nat} {r:RtQ},rs[j]?=some r->r.S x=if j<i then -1 else 1):ev z x≠0/\GF (F2 z) ((rs.map RtQ.tm).take i)=DU (ev z x):=by
 have hA:=h.all N tz z0;have nz:ev z x≠0:=λe=>by
  obtain⟨r,l,k⟩:=hA.zero tz e;grind[List.getElem?_of_mem]
 refine⟨nz,?_⟩;have hs:=h.sgn N tz z0 nz;rw[Sf rs i c]at hs;obtain⟨k,hk⟩:=hA.deg;rw[<-AP i (rs.map RtQ.tm),List.sum_append]at hk;rw[Sc];unfold F2;generalize ((rs.map RtQ.tm).drop i).sum=d at *;generalize ((rs.map RtQ.tm).take i).sum=e at *;have f:=Js tz z0;generalize cf z (z.length-1)=g at *;rw[<-hk];rw[vB];have r:=JY g;have s:=JY (ev z x);rcases Nat.mod_two_eq_zero_or_one d with m|m
 . rw[BE O];have hp:=hs.ev_ m;grind[YS]
 . rw[BD O];have hp:=hs.od m;rcases YT f with s|s
   . have:0<ev z x:=YS (a:=-g) (b:=ev z x) DG DG
     grind
   . rw[Im.2 s,LY.2 (XO s hp)]
end
def Kb(m:Nat)(r:RtQ)(T:List UInt8):Prop:=(r.lo<r.hi/\∃F:Int,0<=r.S (Rat.divInt F (10^m))/\r.S (Rat.divInt (F+1) (10^m))<0/\T=126::Y1 F m)\/(¬r.lo<r.hi/\T=Ha r.lo)
theorem Kb.same{m:Nat}{r s:RtQ}{T U:List UInt8}(h:Kb m r T)(k:Kb m s U)(b:r.Ok)(hs:s.Ok)(e:r.S=s.S):T=U:=by
 have nn:∀ {r s:RtQ},r.Ok->r.lo<r.hi->¬s.lo<s.hi->r.S≠s.S:=fun {r s} b i j e=>by
  have a:=(b.irr i).sid_ne s.lo;rw[<-RtQ.SI i,e,RtQ.SR j]at a;grind[Dm]
 rcases h with⟨i,F,f1,f2,rfl⟩|⟨i,rfl⟩<;>rcases k with⟨j,G,c,d,rfl⟩|⟨j,rfl⟩
 . rw[e]at f1 f2;have key:∀F G:Int,s.S (Rat.divInt (F+1) (10^m))<0->0<=s.S (Rat.divInt G (10^m))->¬F<G:=λF G a f g=>by
    have le:Rat.divInt (F+1) (10^m)<=Rat.divInt G (10^m):=vC (Kv m) O;rcases Rat.le_iff_lt_or_eq.1 le with q|q
    . have:=hs.sd.mono _ _ q O;omega
    . rw[q]at a;omega
   grind
 . grind
 . grind
 . have a:r.S r.lo=0:=by rw[RtQ.SR i];grind[Dm]
   rw[e,RtQ.SR j]at a;rw[show r.lo=s.lo by grind[Dm]]
def IV(T:Nat->List UInt8)(f:Nat):List UInt8:=if f=0 then [45,105,110,102]else T ((f-1)/2)
def IW(T:Nat->List UInt8)(n l:Nat):List UInt8:=if l+1=n then [105,110,102]else T (l/2)
def F3(T:Nat->List UInt8)(n f l:Nat):List UInt8:=if f=l/\f%2=1 then 123::(T (f/2)++[125])else(if f%2=1 then 91 else 40)::(IV T f++44::(IW T n l++[if l%2=1 then 93 else 41]))
def Eg(c:Nat->Bool)(n:Nat):Nat->Nat->Nat
 |0,i=>i
 |k+1,i=>if i+1<n/\c (i+1)=true then Eg c n k (i+1)else i
def Dz(c:Nat->Bool)(n:Nat):Nat->Nat->List (Nat × Nat)
 |0,_=>[]
 |k+1,i=>if i<n then(if c i=true then(i,Eg c n n i)::Dz c n k (Eg c n n i+1)else Dz c n k (i+1))else []
def LC(T:Nat->List UInt8)(c:Nat->Bool)(n:Nat):List UInt8:=if Dz c n n 0=[]then [110,111,110,101]else [32].intercalate ((Dz c n n 0).map λp=>F3 T n p.1 p.2)
end
section
open M3
theorem bp{p:List Rat}(tp:Jc p=p)(p0:p≠[])(x:Rat):0<=nB p x/\nB p x<=nA p:=by
 grind[Rn,Ro,nB,nA]
def I4(C n:Nat)(z:List Rat)(rs:List RtQ):Prop:=(z=[]/\rs=[])\/(z≠[]/\Gp C n z rs)
def Ew(hold:Int->Bool)(z:List Rat)(rs:List RtQ)(i:Nat):Bool:=hold ((Fqq (F2 z) (rs.map RtQ.tm)).getD i 0)
def Gr(C n m:Nat)(hold:Int->Bool)(z:List Rat)(t:List UInt8):Prop:=
 ∃rs T,I4 C n z rs/\(∀ {i:Nat} {r:RtQ},rs[i]?=some r->Kb m r (T i))/\(∀i,rs.length<=i->T i=[])/\t=LC T (Ew hold z rs) (2*rs.length+1)
section
variable {C n X C' n' X' m:Nat} {z z':List Rat} {rs rs':List RtQ} {hold hold':Int->Bool}
def I4.rise(h:I4 C n z rs)(N:NmOk C n X)(tz:Jc z=z):Rise rs:=by
 rcases h with⟨_,rfl⟩|⟨z0,h⟩
 . exact⟨λr a=>(by cases a),List.Pairwise.nil⟩
 . exact(h.all N tz z0).rse
def PB(h:I4 C n z rs)(N:NmOk C n X)(tz:Jc z=z){x:Rat}{j:Nat}(a:j<=rs.length)(b:∀ {k:Nat} {r:RtQ},rs[k]?=some r->r.S x=if k<j then -1 else 1):Ew hold z rs (2*j)=hold (DU (ev z x)):=by
 have e:=(Se (F2 z) (rs.map RtQ.tm) j).1 (by simpa using a);unfold Ew;rw[List.getD_eq_getElem?_getD,e];rcases h with⟨rfl,rfl⟩|⟨z0,h⟩
 . obtain rfl:j=0:=by simpa using a
   rfl
 . rw[<-(h.cell N tz z0 b).2];rfl
theorem NN{j:Nat}(a:j<rs.length):Ew hold z rs (2*j+1)=hold 0:=by
 have e:=(Se (F2 z) (rs.map RtQ.tm) j).2 (by simpa using a);grind[Ew]
theorem br{i:Nat}(hi:2*rs.length+1<=i):Ew hold z rs i=hold 0:=by
 grind[Ew,Sd]
theorem Sg{t t':List UInt8}(h:Gr C n m hold z t)(K:Gr C' n' m hold' z' t')(N:NmOk C n X)(g:NmOk C' n' X')(tz:Jc z=z)(l:Jc z'=z')(W:hold 0=hold' 0)(hz:z=[]↔z'=[])
(hA:z≠[]->nA z=nA z'/\∀x,nB z x=nB z' x)(hs:∀x,hold (DU (ev z x))=hold' (DU (ev z' x))):t=t':=by
 obtain⟨rs,T,c,L,h3,rfl⟩:=h;obtain⟨rs',u,d,S,k3,rfl⟩:=K;have R:=c.rise N tz;have R':=d.rise g l;have key:rs.length=rs'.length/\∀x,E9 rs x=E9 rs' x:=by
  rcases c with⟨e,rfl⟩|⟨z0,c⟩<;>rcases d with⟨V,rfl⟩|⟨s,d⟩
  . grind
  . grind
  . grind
  . obtain⟨U,v⟩:=hA z0;have l1:=(c.all N tz z0).len;have l2:=(d.all g l s).len;refine⟨O,λx=>?_⟩;have w:E9 rs x=nB z x:=c.bel N tz z0 x;have y:E9 rs' x=nB z' x:=d.bel g l s x;rw[w,y,v]
 obtain⟨hl,M⟩:=key;have o:∀ {i:Nat},i<rs.length->∃r f,rs[i]?=some r/\rs'[i]?=some f:=λhi=>⟨_,_,Au hi,Au O⟩;have same:∀ {i:Nat} {r f:RtQ},rs[i]?=some r->rs'[i]?=some f->r.S=f.S:=λa b=>R.same R' M a b;have D:T=u:=funext λi=>by
  by_cases hi:i<rs.length
  . obtain⟨r,f,a,b⟩:=o hi;exact(L a).same (S b) (R.ok _ (List.mem_of_getElem? a)) (R'.ok _ (List.mem_of_getElem? b)) (same a b)
  grind
 have A:Ew hold z rs=Ew hold' z' rs':=funext λi=>by
  by_cases hi:i<2*rs.length+1
  . obtain⟨j,P⟩:∃j,i=2*j\/i=2*j+1:=⟨i/2,O⟩;rcases P with rfl|rfl
    . obtain⟨x,q⟩:=R.cell (i:=j) O;rw[PB c N tz O q,PB d g l (j:=j) (x:=x) O fun {k f} p=>by
       obtain⟨r,ae,a,b⟩:=o (show k<rs.length by grind);rw[p]at b;cases b;rw[<-same a p];exact q a]
      exact hs x
    grind[NN]
  grind[br]
 rw[D,A,hl]
def bv{b:Bool}(h:I4 C n z rs)(N:NmOk C n X)(tz:Jc z=z)(a:hold 0=b)(hs:∀x,hold (DU (ev z x))=b)(i:Nat):Ew hold z rs i=b:=by
 by_cases hi:i<2*rs.length+1
 . obtain⟨j,c⟩:∃j,i=2*j\/i=2*j+1:=⟨i/2,O⟩;rcases c with rfl|rfl
   . obtain⟨x,d⟩:=(h.rise N tz).cell (i:=j) O;rw[PB h N tz O d,hs]
   . rw[NN O,a]
 . rw[br O,a]
theorem vE(k:Nat):∀i n,i<n->n<=i+k+1->Eg (λ_=>true) n k i=n-1:=by
 induction k with
 |zero=>intro i n a b;rw[Eg];omega
 |succ k c=>
  intro i n a b;grind[Eg]
def cC(n:Nat):∀k i,Dz (λ_=>false) n k i=[]
 |0,_=>rfl
 |k+1,i=>by rw[Dz];simp[cC n k]
def vF{t:List UInt8}(h:Gr C n m hold z t)(N:NmOk C n X)(tz:Jc z=z)(a:hold 0=true)(hs:∀x,hold (DU (ev z x))=true):t=[40,45,105,110,102,44,105,110,102,41]:=by
 obtain⟨rs,T,d,f,g,rfl⟩:=h;have e:Ew hold z rs=λ_=>true:=funext (bv d N tz a hs);rw[e];have c:=vE (2*rs.length+1) 0 (2*rs.length+1) O O;have b:Dz (λ_=>true) (2*rs.length+1) (2*rs.length+1) 0=[(0,2*rs.length)]:=by
  rw[Dz,BE O,BE J,c];cases e:2*rs.length with
  |zero=>rfl
  |succ k=>rw[Dz,BD O];rfl
 unfold LC;rw[b]
 have:F3 T (2*rs.length+1) 0 (2*rs.length)=[40,45,105,110,102,44,105,110,102,41]:=by
  unfold F3;rw[BD O,BD O,BD O];unfold IV IW;rw[BE J,BE J];rfl
 simp[this]
def vG{t:List UInt8}(h:Gr C n m hold z t)(N:NmOk C n X)(tz:Jc z=z)(a:hold 0=false)(hs:∀x,hold (DU (ev z x))=false):t=[110,111,110,101]:=by
 obtain⟨rs,T,b,c,d,rfl⟩:=h;have e:Ew hold z rs=λ_=>false:=funext (bv b N tz a hs);unfold LC;rw[e,cC,BE J]
theorem cD(tz:Jc z=z)(z0:z≠[]):JR [] z≠[]/\nA z=nA (JR [] z)/\∀x,nB z x=nB (JR [] z) x:=by
 have e:JR [] z=DM (-1) z:=YL (Yj _ _) (JH _ _) λx=>by rw[XA,Jp];simp only[ev];grind
 grind[Gh,Lm,NF,Yj,Sb]
theorem cE(tz:Jc z=z)(z0:z≠[]):Ji z z≠[]/\nA z=nA (Ji z z)/\∀x,nB z x=nB (Ji z z) x:=by
 have a:=Yu tz tz z0 z0;have f:DK z=DK (Ji z z):=Zv tz z0 (Jn _ _) a λc=>⟨λh=>h.mul_left h,λh=>h.of_dv ((Dv.refl z).mul z)⟩;grind[NF,Jn,Sb]
theorem RtQ.Ok.sign_one{r:RtQ}(h:r.Ok){q:List Rat}(hq:∀x,1<=ev q x):r.sign q=1:=by
 by_cases hl:r.lo<r.hi
 . rw[h.signI hl];exact(h.irr hl).pos.2 ⟨1,DJ,1,DJ,λx z _ _ _ _ _=>⟨hq x,hq z⟩⟩
 grind[RtQ.signR,Im]
theorem RtQ.Ok.sign_mul{r:RtQ}(h:r.Ok)(p q:List Rat):r.sign (Ji p q)=r.sign p*r.sign q:=by
 by_cases hl:r.lo<r.hi
 . rw[h.signI hl,h.signI hl,h.signI hl,(h.irr hl).mul]
 . rw[RtQ.signR hl,RtQ.signR hl,RtQ.signR hl,Jd];rcases JY (ev p r.lo)with⟨i,e⟩|⟨i,e⟩|⟨i,e⟩<;>rcases JY (ev q r.lo)with⟨j,f⟩|⟨j,f⟩|⟨j,f⟩<;>rw[e,f]
   . exact Im.2 (by have:=Rat.mul_pos (show 0 < -(ev p r.lo)by grind) (show 0 < -(ev q r.lo)by grind);grind)
   . exact YF.2 (by rw[j,Fk])
   . exact LY.2 (by have:=Rat.mul_pos (show 0 < -(ev p r.lo)by grind) j;grind)
   . exact YF.2 (by rw[i,AZ])
   . exact YF.2 (by rw[i,AZ])
   . exact YF.2 (by rw[i,AZ])
   . exact LY.2 (by have:=Rat.mul_pos i (show 0 < -(ev q r.lo)by grind);grind)
   . exact YF.2 (by rw[j,Fk])
   . exact Im.2 (Rat.mul_pos i j)
theorem Si{b:Prop}[Decidable b]{q:List Rat}:∀ {rs:List RtQ},(∀r∈rs,(r.sign q=0↔b))->(rs.map λr=>if r.sign q=0 then(1:Int)else 0).sum=if b then(rs.length:Int)else 0
 |[],_=>by simp
 |r::rs,h=>by
  have a:=Si (rs:=rs) λs hs=>h s (AA _ hs);grind
theorem vH{q:List Rat}(hq:∀x,1<=ev q x)(tq:Jc q=q)(tz:Jc z=z)(z0:z≠[])(N:NmOk C n X)(i:NmOk C' n' X')(h:Gp C n z rs)(m:Gp C' n' (Ji z q) rs'):Ji z q≠[]/\nA z=nA (Ji z q)/\∀x,nB z x=nB (Ji z q) x:=by
 have q0:q≠[]:=λe=>by have:=hq 0;rw[e]at this;simp only[ev]at this;grind
 have g:=Yu tz tq z0 q0;have hA:=h.all N tz z0;have a:=m.all i (Jn z q) g;have g0:=Yd tz tq (Or.inl z0);have tg:=JE z q;have c1:=hA.cnt q tq q0;rw[Si (b:=False) λr c=>by rw[((hA.rse).ok r c).sign_one hq];simp]at c1;have c2:=a.cnt z tz z0;rw[Si (b:=True) λr c=>by
  have d:=(a.tms r c).1;have f:=(a.rse).ok r c;rw[f.sign_mul,f.sign_one hq,Fv]at d;simp[d],BE trivial,a.len]at c2
 have k:Jt (Ji z q) z=Jr z:=by
  obtain⟨d1,j⟩:=Om tz z0;refine Dv.eq (JE _ _) (Yf z) (YI (Jn _ _) tz) (It tz) ?_ ?_
  . exact((Yc (Jn z q) tz).2.1).trans j
  . exact Iv (Jn _ _) tz (d1.trans ((Dv.refl z).mul q)) d1
 have l:nA (Jr z)=nA z:=by
  refine NF (Yf z) (KS tz z0) tz z0 ?_
  have:Jr z=DM (1/cf z (z.length-1)) z:=by unfold Jr;rfl
  rw[this];exact Lm (Le (Js tz z0)) tz
 rw[k,l]at c2;have s:=Ze tz z0 tq q0;refine⟨g,O,λx=>?_⟩;have t:=Zf tz z0 tq q0 x;have o:=bp tg g0 x;have p:=bp tq q0 x;simp at c1;omega
end
end
section
open M3
def vJ{n d:Nat}(h:n<10^d)(b:1<=d):(YW n).length<=d:=by
 by_cases a:n=0
 . rw[a,show YW 0=[48]by decide];exact b
 . rw[NW a,Pa];exact Yi O h
def cF(b k:Nat):((b:Int))^k=((b^k:Nat):Int):=(FC b k).symm
theorem vK{m k N:Nat}(s:2^k*10^30<N)(o:m<=30){x:Rat}(j:-(2^k)<=x)(n:x<=2^k):(E5 m x).natAbs<N:=by
 have hp:(0:Rat)<((10^m:Int):Rat):=Rat.intCast_pos.2 (Kv m);have c:((10^m:Int):Rat)≠0:=λe=>by grind
 have l:=NI m x;have u:=NJ m x;have g:((2:Rat)^k)=((2^k:Int):Rat):=by rw[Rat.intCast_pow];rfl
 have b:(E5 m x:Rat)<=(2^k:Rat)*((10^m:Int):Rat):=by
  have i:=Rat.mul_le_mul_of_nonneg_right (Rat.le_trans l n) (Rat.le_of_lt hp);rwa[An,Ak c]at i
 have a:-((2^k:Rat)*((10^m:Int):Rat))<((E5 m x+1:Int):Rat):=by
  have i:=Rat.mul_lt_mul_of_pos_right (K4 j u) hp;rw[An,Ak c,Rat.neg_mul]at i;exact i
 rw[g,<-At]at b a;rw[<-Rat.intCast_neg]at a;have d:=Rat.intCast_le_intCast.1 b;have f:=Rat.intCast_lt_intCast.1 a;have p:(10:Int)^m=((10^m:Nat):Int):=cF 10 m;have q:(10:Nat)^m<=10^30:=Aq O o;have r:(2:Int)^k=((2^k:Nat):Int):=cF 2 k;rw[p,r,<-Int.natCast_mul]at d f;have t:2^k*10^m<=2^k*10^30:=Ah _ q;omega
end
namespace M3
variable{cs:List R}{K base:Nat}{v:R}{W W':H}
def vM{X:Nat}{r:RtQ}(h:RzOk K X r):Sq (Gl r):=by
 unfold Gl;split
 . exact FO
 . exact Sq.of h.lo (by have:=h.x2;omega)
structure NmC(K X:Nat)(n:Int)(r:RtQ)(T:List UInt8):Prop where
 rz:RzOk K X r
 ln:T.length<=4000000000
 qt:¬r.lo<r.hi->T=Ha r.lo
 dg:r.lo<r.hi->∃D:List UInt8,T=126::D/\∀(V:World) (v:Value),JJ V v r->Lib.TabIs Tryz.prog V "internal/strconv.uint64pow10" .u64 Lib.pow10Tab->Calls Tryz.prog 211 #[v,.int .i64 n] V λe w'=>e=.returned (.string ⟨D.toArray⟩)/\Bl V w'
theorem Sj{X:Nat}(a b:Option Addr)(N c m d:Nat)(n:Int)(i:Nat)(r:RtQ)(rs:List RtQ)(T:List UInt8)(w:H)(hR:Hh w (E a N c) rs)(hr:rs[i]?=some r)(hN:N<=1000)(hc:NmC K X n r T)(am:Lib.TabIs F w "internal/strconv.uint64pow10" .u64 Lib.pow10Tab):
 Q F 139 #[.agg #[E a N c,E b m d,I B n],I B (i:Int)] w λe w'=>e=.returned (G ⟨T.toArray⟩)/\Bl w w':=by
 obtain⟨a',cap,e,h⟩:=hR;cases e;have Qo:=(Aw.1 hr).1;obtain⟨g,x0,x1,x2,x3,x4,x5,x6,x7,x8,x9,aq,rfl,A⟩:=h i r hr;obtain⟨k,ai⟩:=ex (rs.length);rw[ai]at Qo hN ⊢;obtain⟨W0,z⟩:=ex (w.alloc (.cells #[E (some ⟨g,0,none⟩) k c,E b m d,I B n] 83));have t:Bl w W0:=by rw[<-z];exact Ba w _
 have n1:Bx W0 w.heap.size 83 #[E (some ⟨g,0,none⟩) k c,E b m d,I B n]:=by rw[<-z];exact Bx.new w _ _
 have s:=A.below t;have u:=Z (SH K X _ r W0 s.2.2 hc.rz);obtain⟨ok,ah⟩:=ex (decide (¬r.lo<r.hi):Bool);rw[ah]at u;obtain⟨x,hx⟩:=ex (Gl r);rw[hx]at u;obtain⟨Qi,HX,Qk,v,Qp,HC,Qm,Qj⟩:=Ho (JQ am t) hx ah hc s (λ(V:H) (h:Bl W0 V)=>And.intro (s.below h).2.1 (show V.cell? ⟨w.heap.size,0,none⟩=some (E (some ⟨g,0,none⟩) k c)/\V.cell? ⟨w.heap.size,2,none⟩=some (I B n)from⟨(n1.below h).c J,(n1.below h).c J⟩)) z t;have hq:=BA W0.heap.size W0;obtain⟨⟨C,L,P,U,W,k5,k6,k7,k8,q,M⟩,o,l⟩:=HC.o _ hq;have bi:¬((i:Int)<0):=O
 have bg:(i:Int)<(k:Int):=O
 clear n1 z t s A h hr ai hc am ah hx;go_enter func139,ntmps139
 go_upto_region 1 with fail
 rw[Qm.o];clear Qm;go_upto_region 2 with(go_at_call 23;refine u.o.mono ?_;clear u;rintro e w8 ⟨u8,rfl,hu,hb⟩;obtain⟨s8,a8,l8,c8,t8,b8,an,d8,rfl⟩:=Jg.form hu)
 obtain⟨p,hV⟩:=ex (w8.alloc (.cells #[.bool s8,E a8 l8 c8,.bool t8,E b8 an d8] 50));obtain⟨BX,ae⟩:=ex (w8.heap.size);have MM:DI W0 (w8.alloc (.cells #[.bool s8,E a8 l8 c8,.bool t8,E b8 an d8] 50)) [some (w8.heap.size,.rat x)]:=DI.push ((DI.nil W0).below hb) (.rat x) hu;rw[hV,ae]at MM;rw[hV,ae];have f:=Z MM;clear MM hV ae hu hb C L P U W k5 k6 k7 k8 q M o l hq;cases ok with
 |true=>
  have j:=Be Qk.o;have HT:=Z (show T=Ha x by rw[<-HX.o];unfold Gl;rw[BD j];exact v.o.qt j);have Qn:=Z (HX.o ▸ vM v.o.rz);clear j;obtain⟨s9,a9,l9,c9,t9,b9,q,d9,n9,r9,_,_⟩:=f.o.rat (i:=0) J;have Ql:=Z (kz _ x p r9 Qn.o (JQ Qi.o f.o.2.2));obtain⟨o,bj,l,bm⟩:=n9.cq;clear n9 r9;go_wp2_with(go_at_call 210;refine Ql.o.mono ?_;clear Ql;rintro e w9 ⟨rfl,ap⟩)
  go_ret;exact⟨by rw[HT.o];rfl,Bt Qj.o (Bt f.o.2.2 ap)⟩
 |false=>
  have j:r.lo<r.hi:=by have:=Qk.o;simpa using this
  obtain⟨D,hD,aj⟩:=v.o.dg j;have Qg:=Z λ(V:H) (h:Bl p V)=>aj V _ (Qp.o.below (Bt f.o.2.2 h)).2.2 (JQ Qi.o (Bt f.o.2.2 h));obtain⟨S,y⟩:=ex ((⟨D.toArray⟩:ByteArray):ByteArray);rw[y]at Qg;have Qq:=Z (show(⟨#[126]⟩:ByteArray)++S=⟨T.toArray⟩by rw[<-y,hD];exact Kt [126] D);have zS:¬9223372036854775807<1+S.size:=by
   have:=v.o.ln;rw[hD,Ai]at this;have e:S.size=D.length:=by rw[<-y];show D.toArray.size=_;rw[Am]
   omega
  have Qh:=Z f.o.2.2;clear j hD aj y f;go_upto_region 4 with fail
  have hq:Bl p p.drew:=(BA _ p).drew;obtain⟨⟨C,L,P,U,W,k5,k6,k7,k8,q,M⟩,o,l⟩:=HC.o _ (Bt Qh.o hq);go_region_held3 (λw'=>w'.cell? ⟨g,i*11,none⟩=some x0/\w'.cell? ⟨g,i*11+1,none⟩=some x1/\w'.cell? ⟨g,i*11+2,none⟩=some x2/\w'.cell? ⟨g,i*11+3,none⟩=some x3/\w'.cell? ⟨g,i*11+4,none⟩=some x4/\w'.cell? ⟨g,i*11+5,none⟩=some x5/\w'.cell? ⟨g,i*11+6,none⟩=some x6/\w'.cell? ⟨g,i*11+7,none⟩=some x7/\w'.cell? ⟨g,i*11+8,none⟩=some x8/\w'.cell? ⟨g,i*11+9,none⟩=some x9/\w'.cell? ⟨g,i*11+10,none⟩=some aq/\w'.cell? ⟨w.heap.size,0,none⟩=some (E (some ⟨g,0,none⟩) k c)/\w'.cell? ⟨w.heap.size,2,none⟩=some (I B n)) (first|grind|(go_keep;done))
   (first|(go_at_call 211;refine(Qg.o _ hq).mono ?_;clear Qg;rintro e bn ⟨rfl,hb⟩;replace hq:=Bt hq hb;clear hb C L P U W k5 k6 k7 k8 q M o l;obtain⟨⟨C,L,P,U,W,k5,k6,k7,k8,q,M⟩,o,l⟩:=HC.o _ (Bt Qh.o hq)))
  go_wp2_with fail
  go_ret;exact⟨by rw[<-Qq.o];rfl,Bt Qj.o (Bt Qh.o hq)⟩
theorem cG(c:Nat)(w:H)(a:c<=100000):Q F 138 #[I B (c:Int)] w λe w'=>e=.returned (.bool (decide (c%2=1)))/\w'=w:=by
 have e:((c:Int)%2==1)=decide (c%2=1):=by
  grind
 go_enter func138,ntmps138
 go_wp2_with fail
 go_ret;exact⟨DH,J⟩
structure LnC(K X:Nat)(n:Int)(rs:List RtQ)(T:Nat->List UInt8):Prop where
 ln:rs.length<=1000
 at_:∀i r,rs[i]?=some r->NmC K X n r (T i)
theorem vN{X:Nat}(a b:Option Addr)(N c m d:Nat)(n:Int)(f:Nat)(rs:List RtQ)(T:Nat->List UInt8)(w:H)(p:Hh w (E a N c) rs)(A:f<=2*rs.length)(x:N=rs.length)(j:LnC K X n rs T)(s:Lib.TabIs F w "internal/strconv.uint64pow10" .u64 Lib.pow10Tab):
 Q F 140 #[.agg #[E a N c,E b m d,I B n],I B (f:Int)] w λe w'=>e=.returned (G ⟨(IV T f).toArray⟩)/\Bl w w':=by
 subst x;obtain⟨W0,i⟩:=ex (w.alloc (.cells #[E a rs.length c,E b m d,I B n] 83));have g:Bl w W0:=by rw[<-i];exact Ba w _
 have k:Bx W0 w.heap.size 83 #[E a rs.length c,E b m d,I B n]:=by rw[<-i];exact Bx.new w _ _
 have D:W0.cell? ⟨w.heap.size,0,none⟩=_:=k.c J;have L:W0.cell? ⟨w.heap.size,1,none⟩=_:=k.c J;have M:W0.cell? ⟨w.heap.size,2,none⟩=_:=k.c J;have o:=p.below g;have C:=j.ln;have l:=Z i;have u:=Z g;by_cases v:f=0
 . subst v;clear k i g p o j s;unfold IV;rw[BE J];go_enter func140,ntmps140
   go_upto_region 1 with fail
   rw[l.o];go_wp2_with fail
   go_ret;exact⟨J,u.o⟩
 . obtain⟨r,q⟩:∃r,rs[(f-1)/2]?=some r:=⟨_,Au O⟩;have t:=Z (Sj a b rs.length c m d n ((f-1)/2) r rs (T ((f-1)/2)) W0 o q j.ln (j.at_ _ r q) (JQ s g));have f1:IntKind.i64.wrap ((f:Int)-1)=(f:Int)-1:=by rw[BI];omega
   have f2:IntKind.i64.wrap (((f:Int)-1).tdiv 2)=(((f-1)/2:Nat):Int):=by grind[BI]
   have z:¬(f:Int)=0:=O
   unfold IV;rw[BD v];clear k i g p o j s q;go_enter func140,ntmps140
   go_upto_region 1 with fail
   rw[l.o];clear l;go_wp2_with(go_at_call 139;refine t.o.mono ?_;clear t;rintro e P ⟨rfl,y⟩)
   go_ret;exact⟨J,Bt u.o y⟩
def vO{X:Nat}(a b:Option Addr)(N c m d:Nat)(n:Int)(l:Nat)(rs:List RtQ)(T:Nat->List UInt8)(w:H)(q:Hh w (E a N c) rs)(x:m=2*rs.length+1)(D:l<=2*rs.length)(A:N=rs.length)(i:LnC K X n rs T)(t:Lib.TabIs F w "internal/strconv.uint64pow10" .u64 Lib.pow10Tab):
 Q F 141 #[.agg #[E a N c,E b m d,I B n],I B (l:Int)] w λe w'=>e=.returned (G ⟨(IW T m l).toArray⟩)/\Bl w w':=by
 subst A;obtain⟨W0,g⟩:=ex (w.alloc (.cells #[E a rs.length c,E b m d,I B n] 83));have f:Bl w W0:=by rw[<-g];exact Ba w _
 have j:Bx W0 w.heap.size 83 #[E a rs.length c,E b m d,I B n]:=by rw[<-g];exact Bx.new w _ _
 have M:W0.cell? ⟨w.heap.size,0,none⟩=_:=j.c J;have P:W0.cell? ⟨w.heap.size,1,none⟩=_:=j.c J;have S:W0.cell? ⟨w.heap.size,2,none⟩=_:=j.c J;have p:=q.below f;have L:=i.ln;have o:=Z g;have v:=Z f;have f0:IntKind.i64.wrap ((m:Int)-1)=(m:Int)-1:=by rw[BI];omega
 have y:=Z x;clear x;by_cases k:l+1=m
 . have z:(l:Int)=(m:Int)-1:=O
   clear j g f q p i t;unfold IW;rw[BE k];clear k;go_enter func141,ntmps141
   go_upto_region 1 with fail
   rw[o.o];go_wp2_with fail
   go_ret;exact⟨J,v.o⟩
 . obtain⟨r,s⟩:∃r,rs[l/2]?=some r:=⟨_,Au (by have:=y.o;omega)⟩;have u:=Z (Sj a b rs.length c m d n (l/2) r rs (T (l/2)) W0 p s i.ln (i.at_ _ r s) (JQ t f));have z:¬(l:Int)=(m:Int)-1:=O
   unfold IW;rw[BD k];clear j g f q p i t s k;go_enter func141,ntmps141
   go_upto_region 1 with fail
   rw[o.o];clear o;go_wp2_with(go_at_call 139;refine u.o.mono ?_;clear u;rintro e U ⟨rfl,C⟩)
   go_ret;exact⟨J,Bt v.o C⟩
theorem cH{X:Nat}{n:Int}{rs:List RtQ}{T:Nat->List UInt8}(h:LnC K X n rs T){m l f:Nat}(b:m=2*rs.length+1)(hl:l<=2*rs.length)(a:f<=2*rs.length):(IW T m l).length<=4000000000/\(IV T f).length<=4000000000:=by
 have key:∀i,i<rs.length->(T i).length<=4000000000:=λi hi=>(h.at_ i _ (Au hi)).ln;grind[IW,IV]
theorem vP{X:Nat}(a b:Option Addr)(N c m d:Nat)(n:Int)(f l:Nat)(rs:List RtQ)(T:Nat->List UInt8)(w:H)(hR:Hh w (E a N c) rs)(L:m=2*rs.length+1)(bg:f<=l)(hl:l<=2*rs.length)(hN:N=rs.length)(i:LnC K X n rs T)(ai:Lib.TabIs F w "internal/strconv.uint64pow10" .u64 Lib.pow10Tab):
 Q F 77 #[.agg #[E a N c,E b m d,I B n],I B (f:Int),I B (l:Int)] w λe w'=>e=.returned (G ⟨(F3 T m f l).toArray⟩)/\Bl w w':=by
 subst hN;obtain⟨W0,x⟩:=ex (w.alloc (.cells #[E a rs.length c,E b m d,I B n] 83));have t:Bl w W0:=by rw[<-x];exact Ba w _
 have y:Bx W0 w.heap.size 83 #[E a rs.length c,E b m d,I B n]:=by rw[<-x];exact Bx.new w _ _
 have z:=Z λ(V:H) (h:Bl W0 V)=>show V.cell? ⟨w.heap.size,0,none⟩=some (E a rs.length c)/\V.cell? ⟨w.heap.size,1,none⟩=some (E b m d)/\V.cell? ⟨w.heap.size,2,none⟩=some (I B n)from⟨(y.below h).c J,(y.below h).c J,(y.below h).c J⟩;have u:=hR.below t;have bj:=i.ln;obtain⟨Qf,A,Qj,k,C⟩:=GZ (JQ ai t) x t (λ(V:H)=>cG f V O) λ(V:H)=>cG l V O;have hq:=BA W0.heap.size W0;obtain⟨p,q,s⟩:=z.o _ hq;by_cases hA:f=l/\f%2=1
 . obtain⟨rfl,h1⟩:=hA;obtain⟨r,M⟩:∃r,rs[f/2]?=some r:=⟨_,Au O⟩;have W:=Z (Sj a b rs.length c m d n (f/2) r rs (T (f/2)) W0 u M i.ln (i.at_ _ r M) Qf.o);rw[BG h1]at k;obtain⟨S,hS⟩:=ex ((⟨(T (f/2)).toArray⟩:ByteArray):ByteArray);rw[hS]at W;have U:=Z (show(⟨#[123]⟩:ByteArray)++S++⟨#[125]⟩=⟨(F3 T m f f).toArray⟩by
    grind[F3,Kt])
   have zS:S.size<=4000000000:=by
    have:=(i.at_ _ r M).ln;rw[<-hS];show(T (f/2)).toArray.size<=_;omega
   have q1:¬9223372036854775807<1+S.size:=O
   have q2:¬9223372036854775807<1+S.size+1:=O
   clear zS;clear y x t hR u i ai M hS h1 bg C L;go_enter func77,ntmps77
   go_upto_region 1 with fail
   rw[A.o];clear A;go_wp2_with(first|(go_at_call 138;refine(k.o _).mono ?_;clear k;rintro e P ⟨rfl,g⟩;replace g:=g.symm;subst g)|(go_at_call 139;refine W.o.mono ?_;clear W;rintro e P ⟨rfl,aq⟩))
   go_ret;exact⟨by rw[<-U.o];rfl,Bt Qj.o aq⟩
 . obtain⟨j,am⟩:=ex ((⟨[if f%2=1 then 91 else 40].toArray⟩:ByteArray):ByteArray);obtain⟨v,aj⟩:=ex ((⟨[if l%2=1 then 93 else 41].toArray⟩:ByteArray):ByteArray);obtain⟨o,ae⟩:=ex ((⟨(IV T f).toArray⟩:ByteArray):ByteArray);obtain⟨D,ah⟩:=ex ((⟨(IW T m l).toArray⟩:ByteArray):ByteArray);have U:=Z (show j++o++⟨#[44]⟩++D++v=⟨(F3 T m f l).toArray⟩by
    grind[F3,Kt])
   have hz:=cH i L hl (f:=f) O;have zL:o.size<=4000000000:=by rw[<-ae];show(IV T f).toArray.size<=_;grind
   have zU:D.size<=4000000000:=by rw[<-ah];show(IW T m l).toArray.size<=_;grind
   have zO:j.size=1:=by rw[<-am];rfl
   have zC:v.size=1:=by rw[<-aj];rfl
   have q1:¬9223372036854775807<j.size+o.size:=O
   have q2:¬9223372036854775807<j.size+o.size+1:=O
   have q3:¬9223372036854775807<j.size+o.size+1+D.size:=O
   have q4:¬9223372036854775807<j.size+o.size+1+D.size+v.size:=O
   have Qi:=Z λ(V:H) (h:Bl W0 V)=>vN a b rs.length c m d n f rs T V (u.below h) O J i (JQ Qf.o h);have Qh:=Z λ(V:H) (h:Bl W0 V)=>vO a b rs.length c m d n l rs T V (u.below h) L hl J i (JQ Qf.o h);rw[ae]at Qi;rw[ah]at Qh;obtain⟨bf,an⟩:=ex (decide (f%2=1):Bool);obtain⟨bl,ap⟩:=ex (decide (l%2=1):Bool);rw[an]at k;rw[ap]at C;have Ql:=Z (show j=if bf then⟨#[91]⟩else⟨#[40]⟩by grind);have Qk:=Z (show v=if bl then⟨#[93]⟩else⟨#[41]⟩by grind);have Qm:=Z (show f=l->bf=false from λe=>by
    grind)
   have Qg:=Z k.o;clear y x t hR u i ai am aj ae ah hz an ap hA L zL zU zO zC;go_enter func77,ntmps77
   go_upto_region 1 with fail
   rw[A.o];clear A;go_cut [15] λcv w'=>cv=.bool false/\w'=W0
   case first=>
    by_cases e:f=l
    . subst e;rw[Qm.o J]at Qg;go_wp2_with(go_at_call 138;refine(Qg.o _).mono ?_;clear Qg;rintro e P ⟨rfl,g⟩;replace g:=g.symm;subst g)
      go_meet
      grind
    . have e2:¬(f:Int)=(l:Int):=O
      go_wp2_with fail
      go_meet
      grind
   case rest=>
    obtain⟨rfl,g⟩:=hcut;replace g:=g.symm;subst g;go_upto_if 23 with(go_at_call 138;refine(k.o _).mono ?_;clear k;rintro e P ⟨rfl,g⟩;replace g:=g.symm;subst g)
    go_cut [7] λov w'=>ov=G j/\w'=W0
    case first=>
     cases bf;all_goals
      go_wp2_with fail
      go_meet
      case rel=>exact⟨by rw[Ql.o];rfl,J⟩
    case rest=>
     obtain⟨rfl,g⟩:=hcut;replace g:=g.symm;subst g;go_upto_if 25 with(go_at_call 138;refine(C.o _).mono ?_;clear C;rintro e P ⟨rfl,g⟩;replace g:=g.symm;subst g)
     go_cut [8] λcv w'=>cv=G v/\w'=W0
     case first=>
      cases bl;all_goals
       go_wp2_with fail
       go_meet
       case rel=>exact⟨by rw[Qk.o];rfl,J⟩
     case rest=>
     obtain⟨rfl,g⟩:=hcut;replace g:=g.symm;subst g;go_upto_region 8 with fail
     clear p q s hq;have hq:Bl W0 W0.drew:=(BA _ W0).drew;obtain⟨p,q,s⟩:=z.o _ hq;go_region_held3 (λw'=>w'.cell? ⟨w.heap.size,0,none⟩=some (E a rs.length c)/\w'.cell? ⟨w.heap.size,1,none⟩=some (E b m d)/\w'.cell? ⟨w.heap.size,2,none⟩=some (I B n)) (first|grind|(go_keep;done))
      (first
       |(go_at_call 140;refine(Qi.o _ hq).mono ?_;clear Qi;rintro e bi ⟨rfl,hb⟩;replace hq:=Bt hq hb;clear hb p q s;obtain⟨p,q,s⟩:=z.o _ hq)
       |(go_at_call 141;refine(Qh.o _ hq).mono ?_;clear Qh;rintro e bi ⟨rfl,hb⟩;replace hq:=Bt hq hb;clear hb p q s;obtain⟨p,q,s⟩:=z.o _ hq))
     go_wp2_with fail
     go_ret;exact⟨by rw[<-U.o];rfl,Bt Qj.o hq⟩
def own_below{w0:H}{n:Nat}{e:TypeId}{s:Nat}(h:W.ownsRow base e s v n cs)(hg:W.grownBy W' v.ownBlock)(hb:Bl w0 W)(hn:w0.heap.size<=base):Bl w0 W':=by
 refine hb.trans ⟨hg.os,hg.tape,hg.output,hg.size,λb a=>hg.block b (AB a hb.size) λk=>?_⟩;rcases h.2 with⟨rfl,_⟩|⟨g,cap,cur,rfl,c,_⟩
 . cases k
 . have:=Cg k;simp at this;omega
def PC{n:Nat}{e:TypeId}{s:Nat}(h:W.ownsRow base e s v n cs)(hb:Bl W W'):W'.ownsRow base e s v n cs:=by
 refine⟨h.1,?_⟩;rcases h.2 with k|⟨g,cap,cur,b,c,a,d⟩
 . exact Or.inl k
 . exact Or.inr ⟨g,cap,cur,b,c,(hb.block g (Ab.1 a).1).trans a,d⟩
def cI{b a n:Nat}{e:TypeId}{s:Nat}(h:W.ownsRow b e s v n cs)(hb:a<=b):W.ownsRow a e s v n cs:=by
 refine⟨h.1,?_⟩;rcases h.2 with k|⟨g,cap,cur,c,d,f⟩
 . exact Or.inl k
 . exact Or.inr ⟨g,cap,cur,c,Ac hb d,f⟩
def Tryz.infoInt7:(Tryz.prog.info? 3).map (λi=>(i.zero,i.size,i.bytes))=some (some (I B 0),1,8):=by kernel_rfl
def Tryz.infoStr7:(Tryz.prog.info? 9).map (λi=>(i.zero,i.size,i.bytes))=some (some (G ⟨#[]⟩),1,16):=by kernel_rfl
def vQ(base:Nat)(W:H)(v:R)(n:Nat)(cs:List R)(f:W.ownsRow base 3 1 v n cs)(B m c:Nat)(news:List R)(hl:news.length=m)(e:∀j u,news[j]?=some u->W.cell? ((⟨B,0,none⟩:Addr).add j)=some u)(b:∀u∈news,u.oneCell'=true)(hn:n+m<=1000000000)(hb:base<=W.heap.size):
 ∃a w',(Builtin.append_ #[66,66] 66 #[v,E (some ⟨B,0,none⟩) m c]).run F W=.ok a w'/\w'.ownsRow base 3 1 a (n+m) (cs++news)/\W.grownBy w' v.ownBlock/\(a=E none 0 0↔v=E none 0 0/\m=0):=by
 obtain⟨i,hi,k,g,d⟩:=Bn Tryz.infoInt7;exact run_append_own W base 66 66 3 i _ 1 8 underlying66 hi k g d J O v n cs f ⟨B,0,none⟩ m c news O e b (by unfold maxLen;omega) O hb
def vR(base:Nat)(W:H)(v:R)(n:Nat)(cs:List R)(f:W.ownsRow base 9 1 v n cs)(B m c:Nat)(news:List R)(hl:news.length=m)(e:∀j u,news[j]?=some u->W.cell? ((⟨B,0,none⟩:Addr).add j)=some u)(b:∀u∈news,u.oneCell'=true)(hn:n+m<=1000000000)(hb:base<=W.heap.size):
 ∃a w',(Builtin.append_ #[80,80] 80 #[v,E (some ⟨B,0,none⟩) m c]).run F W=.ok a w'/\w'.ownsRow base 9 1 a (n+m) (cs++news)/\W.grownBy w' v.ownBlock/\(a=E none 0 0↔v=E none 0 0/\m=0):=by
 obtain⟨i,hi,k,g,d⟩:=Bn Tryz.infoStr7;exact run_append_own W base 80 80 9 i _ 1 16 underlying80 hi k g d J O v n cs f ⟨B,0,none⟩ m c news O e b (by unfold maxLen;omega) O hb
theorem vS(z:List Rat):F2 z=if((z.length:Int)-1).tmod 2=0 then DU (cf z (z.length-1))else -(DU (cf z (z.length-1))):=by
 unfold F2;by_cases z0:z.length=0
 . have:z=[]:=Aj.1 z0
   subst this;rfl
 grind
def vT(z:List Rat)(ts:List Nat):GF (F2 z) ts=-1\/GF (F2 z) ts=0\/GF (F2 z) ts=1:=by
 rw[Sc];unfold F2;rcases JY (cf z (z.length-1))with⟨_,e⟩|⟨_,e⟩|⟨_,e⟩<;>rw[e]<;>split<;>split<;>simp
theorem vU(v:R)(z:List Rat)(a:Option Addr)(c:Nat)(rs:List RtQ)(w:H)(h:Je w v z)(hR:Hh w (E a rs.length c) rs)(hl:rs.length<=1000)(hs:Sq (cf z (z.length-1)))(zl:z.length<=1000)(S:∀r∈rs,r.tm<=25):
 Q F 33 #[v,E a rs.length c] w λe w'=>∃T,e=.returned T/\w'.ownsRow w.heap.size 3 1 T (2*rs.length+1) ((Fqq (F2 z) (rs.map RtQ.tm)).map (Value.int B))/\Bl w w':=by
 obtain⟨pa,la,pc,rfl⟩:=h.form;obtain⟨W0,P⟩:=ex (w.alloc (.cells #[E pa la pc] 25));have t:Bl w W0:=by rw[<-P];exact Ba w _
 have n0:Boxed W0 w.heap.size 25 (E pa la pc):=by rw[<-P];exact BF w _ _
 have C:=Z λ(V:H) (h:Bl W0 V)=>(boxed_below n0 h).cell;obtain⟨L,ah⟩:=ex (cf z (z.length-1));obtain⟨dg,bg⟩:=ex ((z.length:Int)-1:Int);have A:=Z λ(V:H) (hb:Bl W0 V)=>Yq _ z V ((h.below t).below hb);have Qh:=Z λ(V:H) (hb:Bl W0 V)=>Hb _ z dg V ((h.below t).below hb);rw[bg]at A;rw[show(if dg<0 then 0 else cf z dg.toNat)=L by
  by_cases k:dg<0
  . rw[BE k,<-ah]
    have:z=[]:=Aj.1 O
    rw[this];rfl
  grind]at Qh
 rw[ah]at hs;have X:=Z λ(V:H) (u:R) (l:Jg V u L)=>XI u _ L 0 V l (XE V) hs FO;obtain⟨m,aj⟩:=ex (DU L);rw[MV,aj]at X;have h3:m=-1\/m=0\/m=1:=by
  rw[<-aj];rcases JY L with⟨_,e⟩|⟨_,e⟩|⟨_,e⟩<;>rw[e]<;>simp
 obtain⟨b,ai⟩:=ex (F2 z);have Qp:=Z (show(dg.tmod 2=0->m=b)/\(¬dg.tmod 2=0->-m=b)by
  grind[vS])
 have Qv:=Z λts=>ai ▸ vT z ts;have f1:IntKind.i64.wrap (-m)=-m:=by rw[BI];omega
 obtain⟨Qm,Qn,Qt⟩:=DY (hR.below t) P t;have Qo:=t.size;have Qw:=Z Qo;rw[ai];clear h hR n0 P t ah bg hs aj ai S Qo h3;go_enter func33,ntmps33
 go_upto_region 1 with fail
 rw[Qn.o];clear Qn;go_cut [5] λo w'=>o=I B m/\Hid (Bl W0 w')
 case first=>
  have hq:Bl W0 W0.drew:=(BA _ W0).drew;have f:=C.o _ hq;go_region_held3 (λw'=>w'.cell? ⟨w.heap.size,0,none⟩=some (E pa la pc)) (first|(with_reducible exact f)|(go_keep;done))
   (first
    |(go_at_call 75;refine(A.o _ hq).mono ?_;clear A;rintro e am ⟨rfl,hb⟩;replace hq:=Bt hq hb;clear hb f;have f:=C.o _ hq)
    |(go_at_call 74;refine(Qh.o _ hq).mono ?_;clear Qh;rintro e am ⟨u,rfl,l,hb⟩;replace hq:=Bt hq hb;clear hb f;have f:=C.o _ hq)
    |(go_at_call 21;refine(X.o _ _ l).mono ?_;clear X l;rintro e am ⟨rfl,hb⟩;replace hq:=Bt hq hb;clear hb f;have f:=C.o _ hq))
  go_wp2_with fail
  go_meet
  case rel=>exact⟨J,Z hq⟩
 case rest=>
  obtain⟨rfl,U⟩:=hcut;have f:=C.o _ U.o;go_upto_if 18 with(go_at_call 75;refine(A.o _ U.o).mono ?_;clear A;rintro e am ⟨rfl,hb⟩)
  have df:=Z (Bt U.o hb);clear hb f;go_cut [5] λo w'=>o=I B b/\Hid (Bl W0 w')
  case first=>
   by_cases k:dg.tmod 2=0
   . have K:=Qp.o.1 k;subst K;go_wp2_with fail
     go_meet
     grind
   . have K:=Z (Qp.o.2 k);go_wp2_with fail
     go_meet
     case rel=>exact⟨by rw[<-K.o],Z df.o⟩
  case rest=>
   obtain⟨rfl,W⟩:=hcut;obtain⟨ts,bj⟩:=ex (rs.map RtQ.tm);obtain⟨d,ae⟩:=ex (rs.length);have Ua:=Z (show ts.length=d by grind);have Qu:=Z (show ∀(k:Nat) (r:RtQ),rs[k]?=some r->ts[k]?=some r.tm from λk r e=>by grind);obtain⟨a9,c9,e9,gR⟩:=Qm.o;cases e9;obtain⟨GR,Qs,Qy⟩:=DY gR ae bj;rw[ae];have dj:d<=1000:=O
   clear bj ae gR Qm hl;go_upto_region 6 with fail
   obtain⟨V1,i⟩:=ex (wc.alloc (.cells #[I B b] 3));have Qb:V1.ownsRow W0.heap.size 3 1 (E (some ⟨wc.heap.size,0,none⟩) 1 1) 1 [I B b]:=⟨J,Or.inr ⟨wc.heap.size,1,#[I B b],J,W.o.size,by rw[<-i];exact BC wc _,Aa _,by unfold maxLen;omega,J,J⟩⟩;have Qr:Bl W0 V1:=by rw[<-i];exact W.o.alloc W.o.size _
   rw[i];have H1:=Z (And.intro Qb Qr);clear i Qb Qr;go_loopw [5,6,25] (λo lv iv wr=>∃k:Nat,k<=d/\o=I B (GF b (ts.take k))/\iv=I B (k:Int)/\Hid (wr.ownsRow W0.heap.size 3 1 lv (2*k+1) ((Fqq b (ts.take k)).map (Value.int B))/\Bl W0 wr)) λ_ _ iv _=>d-(intOf iv).toNat
   case atStart=>exact⟨0,Ap _,J,J,Z H1.o⟩
   case round=>
    obtain⟨k,hk,rfl,rfl,s⟩:=hrel;by_cases dt:k<d
    . obtain⟨r,er⟩:∃r,rs[k]?=some r:=⟨_,Au (by have:=Qs.o;omega)⟩;obtain⟨g,x0,x1,x2,x3,x4,x5,x6,x7,x8,x9,dx,ea,A8⟩:=GR.o k r er;subst ea;have x:=A8.below s.o.2;obtain⟨y0,y1,y2,y3,y4,y5,y6,y7,y8,y9,bm,bn,bu,bz,ce,cj,cn,co,de,e,_,_⟩:=JJ.form x.2.2;cases e;obtain⟨tm,ap⟩:=ex (r.tm);have y:=Z (bZ tm b (ts.take k));rw[show ts.take k++[tm]=ts.take (k+1)by
       have h1:=Qu.o k r er;grind[Cf]]at y
      have an:=Qv.o (ts.take k);obtain⟨N,bi⟩:=ex (GF b (ts.take k));rw[bi]at y an ⊢;have f2:IntKind.i64.wrap (-N)=-N:=by rw[BI];omega
      have f4:IntKind.i64.wrap ((k:Int)+1)=(k:Int)+1:=by rw[BI];omega
      have Qj:=Z λ(V:H) (h:Bl wr V)=>tK _ r V (x.below h).2.2;rw[ap]at Qj x;obtain⟨k0,k1,K,k3,k4,k5,k6,k7,k8,k9,di⟩:=x.2.1;have Qz:(k:Int)<(d:Int):=O
      clear x A8 er ap bi an;go_upto_region 8 with fail
      obtain⟨V8,i⟩:=ex (wr.alloc (.cells #[.bool y0,E y1 y2 y3,.bool y4,E y5 y6 y7,.bool y8,E y9 bm bn,.bool bu,E bz ce cj,E cn co de,I B r.sg,I B (tm:Int)] 60));have Qq:Bl wr V8:=by rw[<-i];exact Ba wr _
      have n8:Bx V8 wr.heap.size 60 #[.bool y0,E y1 y2 y3,.bool y4,E y5 y6 y7,.bool y8,E y9 bm bn,.bool bu,E bz ce cj,E cn co de,I B r.sg,I B (tm:Int)]:=by rw[<-i];exact Bx.new wr _ _
      rw[i];have Ql:=Z Qq;have E8:=n8.all;clear i Qq n8 k0 k1 K k3 k4 k5 k6 k7 k8 k9 di;go_upto_if 32 with(go_at_call 76;refine(Qj.o _ Ql.o).mono ?_;clear Qj;rintro e q ⟨rfl,aq⟩)
      have Qi:=Z (Bt Ql.o aq);clear aq E8;obtain⟨D,n⟩:=ex ((if tm%2=0 then N else -N));rw[n]at y;go_cut [5] λo w'=>o=I B D/\w'=q
      case first=>
       by_cases p:tm%2=0
       . have p1:(tm:Int)%2=0:=O
         rw[BE p]at n;subst n;go_wp2_with fail
         go_meet
         grind
       . have p1:¬(tm:Int)%2=0:=O
         rw[BD p]at n;have Qx:=Z n;clear n;go_wp2_with fail
         go_meet
         case rel=>exact⟨by rw[Qx.o],J⟩
      case rest=>
       obtain⟨rfl,hw⟩:=hcut;replace hw:=hw.symm;subst hw;clear n;have M:Bl q (q.alloc (.cells #[I B 0,I B D] 3)):=Ba q _;have Qk:=Bt s.o.2 (Bt Qi.o M)
       obtain⟨T,w',dh,ho,hg,_⟩:=vQ W0.heap.size (q.alloc (.cells #[I B 0,I B D] 3)) u6 (2*k+1) _ (PC s.o.1 (Bt Qi.o M)) q.heap.size 2 2 [I B 0,I B D] J
        (λj u l=>by
         rw[YH,AQ];exact(Bx.new q 3 #[I B 0,I B D]).c (by simpa using l)) (λu l=>by simp at l;rcases l with rfl|rfl<;>rfl) O Qk.size
       have HN:=Z (show w'.ownsRow W0.heap.size 3 1 T (2*(k+1)+1) ((Fqq b (ts.take (k+1))).map (Value.int B))/\Bl W0 w' from⟨by
        rw[y.o.1,List.map_append];exact ho,own_below (PC s.o.1 (Bt Qi.o M)) hg Qk (Aa _)⟩)
       clear ho hg M Qk;go_wp2_with(at_builtin;refine Bs _ J _ _ 66 66 J _ _ J J _ _ dh ?_)
       go_roundw
       case rel=>exact⟨k+1,O,by rw[y.o.2],by go_num,Z HN.o⟩
       case measure=>simp[intOf];omega
    . have Qz:¬(k:Int)<(d:Int):=O
      have S:ts.take k=ts:=Af (by have:=Ua.o;omega);have HE:=Z (show wr.ownsRow w.heap.size 3 1 u6 (2*d+1) ((Fqq b ts).map (Value.int B))/\Bl w wr from⟨by
       have h:=s.o.1;rw[S,show k=d by omega]at h;exact cI h Qw.o,Bt Qt.o s.o.2⟩)
      clear S;go_wp2_with fail
      go_ret;exact⟨_,J,by rw[Qy.o,Qs.o];exact HE.o.1,HE.o.2⟩
structure HoldC(K:Nat)(hold:Int->Bool):Prop where
 run:∀(V:World) (s:Int),Calls Tryz.prog K #[.int .i64 s] V λe w'=>e=.returned (.bool (hold s))/\w'=V
 ent:∀args w,(callFunc K args).run Tryz.prog w=.ok (.enter K args) w
def cJ:HoldC 68 λs=>decide (s<0):=⟨λV s=>by
 go_enter func68,ntmps68
 go_wp2_with fail
 go_ret;exact⟨by first|rfl|simp,J⟩,BW func68 (by kernel_rfl) J⟩
def Sk:HoldC 69 λs=>decide (s<=0):=⟨λV s=>by
 go_enter func69,ntmps69
 go_wp2_with fail
 go_ret;exact⟨by first|rfl|simp,J⟩,BW func69 (by kernel_rfl) J⟩
def cK:HoldC 70 λs=>s==0:=⟨λV s=>by
 go_enter func70,ntmps70
 go_wp2_with fail
 go_ret;exact⟨by first|rfl|simp,J⟩,BW func70 (by kernel_rfl) J⟩
def vV:HoldC 71 λs=>!(s==0):=⟨λV s=>by
 go_enter func71,ntmps71
 go_wp2_with fail
 go_ret;exact⟨by first|rfl|simp,J⟩,BW func71 (by kernel_rfl) J⟩
def cL:HoldC 72 λs=>decide (0<=s):=⟨λV s=>by
 go_enter func72,ntmps72
 go_wp2_with fail
 go_ret;exact⟨by first|rfl|simp,J⟩,BW func72 (by kernel_rfl) J⟩
def vW:HoldC 73 λs=>decide (0<s):=⟨λV s=>by
 go_enter func73,ntmps73
 go_wp2_with fail
 go_ret;exact⟨by first|rfl|simp,J⟩,BW func73 (by kernel_rfl) J⟩
structure MpI(w:World)(B:Nat)(es:Array MapEntry)(V:World):Prop where
 at_:V.heap[B]?=some (.map es es.size)
 lo:w.heap.size<=B
 bel:Bl w V
theorem MpI.run{w V:H}{B:Nat}{es:Array MapEntry}(h:MpI w B es V)(s:ByteArray)(val:R)(c:Instr.findNow .string (G s) es.toList 0=some none):∃V',(Instr.mapUpdate 78 (.map (some B)) (G s) val).run F V=.ok () V'/\MpI w B (es.push { key:=G s,val:=val,born:=es.size }) V':=by
 have a:(Instr.checkKey false 10000 9 (G s)).run F V=.ok () V:=MapKept.run_checkKey (k:=G s) Tryz.underlying9 (by simp[MapKept.IsKey]) false 9999;have hs:=MapKept.heap_set (w:=V) (o':=.map (es.push { key:=G s,val:=val,born:=es.size }) (es.size+1)) h.at_;refine⟨{ V with heap:=V.heap.setIfInBounds B (.map (es.push { key:=G s,val:=val,born:=es.size }) (es.size+1)) },?_,?_,h.lo,?_⟩
 . simp[Instr.mapUpdate,run_underlying Tryz.underlying78,MapKept.run_getObj_map h.at_,a,MapKept.run_findKey Tryz.underlying9 c,MapKept.run_setObj_map _ h.at_,Result.andThen]
 . grind
 . exact h.bel.trans ⟨rfl,rfl,rfl,DH,λb hb=>hs.2 b (by have:=h.lo;omega)⟩
def vX{w V:H}{B:Nat}{es:Array MapEntry}{ops:Array Oper}{rest:List Oper}{o:Oper}{a:Act}{Q:Exit->Act->H->Prop}(hg:o.guard=none)(m x v:Operand)(f:o.op=Op.insert 78 m x v)
(h:MpI w B es V)(s:ByteArray)(val:R)(e:a.eval m=.map (some B))(i:a.eval x=G s)(hv:a.eval v=val)(d:Instr.findNow .string (G s) es.toList 0=some none)
(b:∀V',MpI w B (es.push { key:=G s,val:=val,born:=es.size }) V'->wpList F ops Q rest (a.put o.dst undef) V'):wpList F ops Q (o::rest) a V:=by
 refine wpList_plain hg λK' c=>?_;obtain⟨w',g,r1⟩:=h.run s val d;unfold Oper.wp;simp[execOp,f,e,i,hv,g,Result.andThen];exact c _ _ (b w' r1)
def LD:Array MapEntry:=#[⟨G ⟨#[60]⟩,.func (.func 68) #[] #[],0⟩,⟨G ⟨#[60,61]⟩,.func (.func 69) #[] #[],1⟩,⟨G ⟨#[61]⟩,.func (.func 70) #[] #[],2⟩,⟨G ⟨#[33,61]⟩,.func (.func 71) #[] #[],3⟩,⟨G ⟨#[62,61]⟩,.func (.func 72) #[] #[],4⟩,⟨G ⟨#[62]⟩,.func (.func 73) #[] #[],5⟩]
def cN(w:H):Q F 32 #[] w λe w'=>∃B,e=.returned (.map (some B))/\w'.heap[B]?=some (.map LD 6)/\Bl w w':=by
 have a:Hid (MpI w w.heap.size #[] (w.alloc (.map #[] 0))):=Z ⟨BC w _,Aa _,Ba w _⟩;have b:=@run_makeMap F;go_enter Tryz.func32,Tryz.ntmps32
 go_wp2_with(refine vX rfl _ _ _ rfl a.o _ _ rfl rfl rfl rfl ?_;clear a;intro V' a;replace a:=Z a)
 go_ret;exact⟨_,rfl,a.o.at_,a.o.bel⟩
def vY{w:H}{r:Nat}{es:Array MapEntry}{a i:Nat}{s:ByteArray}(hb:w.heap[r]?=some (.map es a))(c:Instr.findNow .string (G s) es.toList 0=some (some (i,v))):(Instr.lookup 78 (.map (some r)) (G s) true).run F w=.ok (.tuple #[v,.bool true]) w:=by
 have b:(Instr.checkKey es.isEmpty 10000 9 (G s)).run F w=.ok () w:=MapKept.run_checkKey (k:=G s) Tryz.underlying9 (by simp[MapKept.IsKey]) _ 9999;simp[Instr.lookup,run_underlying Tryz.underlying78,MapKept.run_getObj_map hb,b,MapKept.run_findKey Tryz.underlying9 c,Result.andThen]
def vZ{w:H}{r:Nat}{es:Array MapEntry}{a:Nat}{s:ByteArray}(hb:w.heap[r]?=some (.map es a))(c:Instr.findNow .string (G s) es.toList 0=some none):(Instr.lookup 78 (.map (some r)) (G s) true).run F w=.ok (.tuple #[.nilFunc,.bool false]) w:=by
 have b:(Instr.checkKey es.isEmpty 10000 9 (G s)).run F w=.ok () w:=MapKept.run_checkKey (k:=G s) Tryz.underlying9 (by simp[MapKept.IsKey]) _ 9999;have d:(zeroValue 76).run F w=.ok .nilFunc w:=by kernel_rfl
 simp[Instr.lookup,run_underlying Tryz.underlying78,MapKept.run_getObj_map hb,b,MapKept.run_findKey Tryz.underlying9 c,Result.andThen,d]
