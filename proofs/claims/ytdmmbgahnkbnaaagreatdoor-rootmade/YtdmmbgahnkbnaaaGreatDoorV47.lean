import Derived.Test.YtdmmbgahnkbnaaaGreatDoorV44
import Derived.Test.YtdmmbgahnkbnaaaGreatDoorV46
import Derived.Test.YtdmmbgahnkbnaaaGreatDoorV42
set_option linter.all false
open Go.Proofs.Tryz renaming prog->B
open Go renaming Value->E,World->F,Calls->H
open Go.Value renaming slice->D
set_option maxRecDepth 99999
set_option maxHeartbeats 0
namespace Go.Proofs.YtdmmbgahnkbnaaaGreatDoor
open Go.RowKit Go.Shelf
attribute [local go_sem] Oper.semAt_some
namespace M3
open Go.RowKit Go.Shelf Go.Lib Go.Sort
section
variable {w:World} {g n:Nat} {os:Array Obj} {cur:Array Value} {e:TypeId} {fr:Nat × Nat}
theorem uF(F:Array E)(a:w.heap[g]?=some (.cells cur e fr)):(grow (putRow id (Sort.ahead w n) g 0 F) os).heap[g]?=some (.cells (putCells id 0 F cur) e fr):=by
 grind[heap_grow_old,putRow,mapBlock,Sort.ahead,onCells]
theorem ag(F:Array E):w.grownBy (grow (putRow id (Sort.ahead w n) g 0 F) os) (some g):=by
 refine⟨rfl,rfl,rfl,DI,λk hk a=>?_⟩;grind[heap_grow_old,putRow,mapBlock,Sort.ahead]
theorem uG(cur F:Array E)(h:F.size<=cur.size):(putCells id 0 F cur).toList.take F.size=F.toList:=by
 apply List.ext_getElem?;intro j;grind[putCells]
end
def bA{α:Type}(d:Array α)(m:Nat)(h:d.size=m):d.extract 0 m=d:=by subst h;simp
theorem uH{α:Type}[Inhabited α](enc:α->List E)(hk:∀x,(enc x).length=11)(d:Array α)(j:Nat)(b:j<d.size):((flatK enc 11 d).toList.drop (j*11)).take 11=enc d[j]!:=by
 apply List.ext_getElem?;intro c;by_cases a:c<11
 . rw[CS a,Fk,Fq];grind[flatK]
 grind
theorem uI(base n:Nat)(V:F)(u:E)(cs:List E)(rs:List RtQ)(hn:rs.length=n)(h0:0<n)(ap:V.ownsRow base 46 11 u n cs)(aq:D3 V cs rs)(p:base<=V.heap.size)(an:∀r∈rs,r.Ok)(ay:n<4611686018427387904)
(hO:∀r∈rs,∀s∈rs,∀(W:F) (R S:E),JL W R r->JL W S s->H B 24 #[R,S] W λe w'=>e=.returned (.int .i64 (r.ord s))/\RowKit.Below W.heap.size W w'):
 H B 52 #[u,.func (.func 24) #[] #[]] V λe w'=>e=.returned (.tuple #[])/\∃N M,w'.ownsRow base 46 11 u n N/\D3 w' N M/\(M.Perm rs/\M.Pairwise λr s=>¬s.ord r<0)/\∀q w0,q<=base->RowKit.Below q w0 V->RowKit.Below q w0 w':=by
 rcases ap.2 with⟨_,h⟩|⟨g,cap,cur,rfl,hg,P,ae,am,ah,az⟩
 . omega
 haveI:Inhabited (Fin n):=⟨⟨0,h0⟩⟩
 have U:g<V.heap.size:=(Ab.1 P).1;obtain⟨f,Q⟩:∃f:Fin n->RtQ,f=λi=>rs[i.1]'(by have:=i.2;omega):=⟨_,rfl⟩;obtain⟨enc,he⟩:∃enc:Fin n->List E,enc=λi=>(cs.drop (i.1*11)).take 11:=⟨_,rfl⟩;have C:∀i,f i∈rs:=λi=>by grind
 have t:∀i,JL V (.agg (enc i).toArray) (f i):=λi=>by
  rw[he,Q];exact aq.2 i.1 _ (AO _)
 have hk:∀i,(enc i).length=11:=λi=>by grind
 have h1:∀i,∀v∈enc i,v.oneCell'=true:=λi v hv=>(JL.one (t i)).2 v (by simpa using hv);have kp:∀(m:Nat) (os:Array Obj) (l:Array (Fin n)),Kp V (sortWorldK enc 11 V g 0 m l os):=λm os l=>by
  have o:=ag (w:=V) (g:=g) (n:=m) (os:=os) (flatK enc 11 l);exact KeepR.kpo ⟨o.os,o.tape,o.output,o.size,λb p _ K=>o.block b p λe=>by
   grind⟩
 obtain⟨d,L⟩:∃d:Array (Fin n),d=Array.ofFn (λi:Fin n=>i):=⟨_,rfl⟩;have z:d.size=n:=by rw[L];simp
 have X:∀j (a:j<n),d[j]! = ⟨j,a⟩:=λj a=>by
  rw[getElem!_pos d j O];subst L;simp
 have hH:HoldsK enc 11 V g 0 d:=λj a=>by
  rw[size_flatK,z]at a;have Qj:j/11<n:=O
  rw[get_flatK enc 11 d j O,X _ Qj];grind[World.frozen?,World.cell?]
 have T:CmpLays B 24 #[] enc 11 (λi j=>(f i).ord (f j)) g 0 d.size V:=λm os l _ x y=>by
  refine(uE (hO _ (C x) _ (C y) (sortWorldK enc 11 V g 0 m l os) _ _ ((kp m os l).root (t x)) ((kp m os l).root (t y))) λw' h=>by cases h.1).mono ?_;rintro e w' ⟨⟨rfl,p⟩,ai⟩;exact⟨rfl,grown_of p ai⟩
 have eg:∀args w,(callFunc 24 args).run B w=.ok (.enter 24 args) w:=Bn Tryz.func24 (by kernel_rfl) rfl;have G:=AnyQ.slices_SortFunc Tryz.sortRt 11 (λw=>by kernel_rfl) (λw=>by kernel_rfl) enc hk h1 (λi j=>(f i).ord (f j)) (tI f λi=>an _ (C i)) 24 #[] g 0 cap d V eg T hH U O;rw[z]at G;change H B 52 _ _ _ at G
 refine G.mono ?_;rintro e w' ⟨rfl,c,m,os,hp,hs,rfl⟩;have I:c.size=n:=hp.1.trans z;refine⟨rfl,(flatK enc 11 c).toList,c.toList.map f,⟨by simp[I],Or.inr ⟨g,cap,_,rfl,hg,uF _ P,ae,am,by simp[putCells,ah],?_⟩⟩,⟨DI,λj r e=>?_⟩,⟨?_,?_⟩,λq w0 hq hw=>?_⟩
 . grind[uG,size_flatK]
 . rw[Fe]at e;obtain⟨x,A,rfl⟩:=CP.1 e;rw[Fq]at A;obtain⟨a,A⟩:=Ab.1 A;rw[uH enc hk c j a,getElem!_pos c j a,A];exact(kp m os c).root (t x)
 . have h:=hp.2.2;rw[bA c n I,bA d n z]at h;have K:=h.map f;have e:d.toList.map f=rs:=by
    subst L;refine List.ext_getElem (by simp[hn]) λi i1 i2=>?_;simp[Q]
   rw[e]at K;exact K
 . rw[List.pairwise_map,List.pairwise_iff_getElem];intro i j hi a aj;have h:=hs i j (As _) aj (by rw[<-I];simpa using a);grind[ltOf]
 . exact hw.grown (ag _) (Ac hq p) λk hk=>by
    grind
end M3
namespace M3
open Go.RowKit Go.Shelf Go.Lib
def uJ(p:Option Addr)(cap:Nat)(a:E)(w:F):
 H B 200 #[D p 0 cap,.int .i64 0,.int .i64 0,a] w λe w'=>e=.returned (.tuple #[])/\w'=w:=by
 go_enter Tryz.func200,Tryz.ntmps200
 go_wp2;refine wp_loop_rounds 1 ?_;rw[rounds_succ];go_wp2;go_end0;exact⟨rfl,rfl⟩
def uK(p:Option Addr)(cap:Nat)(b:Int)(a:E)(w:F):
 H B 123 #[D p 0 cap,.int .i64 0,.int .i64 0,.int .i64 b,a] w λe w'=>e=.returned (.tuple #[])/\w'=w:=by
 have hi:=λW=>uJ p cap a W;go_enter Tryz.func123,Tryz.ntmps123
 go_wp2;refine wp_loop_rounds 1 ?_;rw[rounds_succ];go_wp2_with(go_at_call 200;refine(hi _).mono ?_;rintro e w' ⟨rfl,rfl⟩)
 (try simp only[Exit.inBlock,Exit.then]);refine BA (results_none rfl _ _ _) rfl ?_
 exact⟨rfl,rfl⟩
def uL(p:Option Addr)(cap:Nat)(a:E)(w:F):
 H B 52 #[D p 0 cap,a] w λe w'=>e=.returned (.tuple #[])/\w'=w:=by
 have hp:=λb W=>uK p cap b a W;have L:=Tryz.sortRt;have hl:∀W,H B 124 #[.int .u64 0] W λe w'=>e=.returned (.int .i64 (Lib.bitLen 0:Nat))/\w'=W:=λW=>by
  have h:=Any.bits_Len (SlLaysF0.n15.bits (P:=B) (ρ:=Tryz.sortRt_ren) { L with }) 0 W O O;exact h
 clear L;go_enter Tryz.func52,Tryz.ntmps52
 go_wp2_with(first|(go_at_call 124;refine(hl _).mono ?_;rintro e w' ⟨rfl,rfl⟩)|(go_at_call 123;refine(hp _ _).mono ?_;rintro e w' ⟨rfl,rfl⟩))
 go_end0;exact⟨rfl,rfl⟩
end M3
namespace M3
structure OrOk(r s:RtQ):Prop where
 ex:∃K A l X J,RzOk J X r/\RzOk J X s/\SnOk K A l X r s.w
 sg:-1<=s.sg/\s.sg<=1
 sn:-1000000<=r.sign s.w/\r.sign s.w<=1000000
def Xz(k ka:Nat)(a:List Rat × Nat):List RtQ:=(Dl a.1 k (-((2:Rat)^YB (Yf a.1) ka 0)) ((2:Rat)^YB (Yf a.1) ka 0)).map (KQ k a.2 ((Xb a.1 (Jb a.1)).getD 0 []))
theorem bB(k ka:Nat)(v:E)(p:List Rat)(w:F)(h:Je w v p)(L:List (List Rat × Nat))(M:∀(V:F) (x:E),Je V x p->H B 50 #[x] V λe w'=>∃u,e=.returned u/\EP true V.heap.size w' u L/\Bl V w')
(P:∀q t,(q,t)∈L->∃K A l X KK hh J i f,RoOk K A l X KK k hh J ka i f q t)
(hl:L.length<=1000000)(hF:(L.flatMap (Xz k ka)).length<=1000000)
(G:∀r∈L.flatMap (Xz k ka),r.Ok)(C:∀r∈L.flatMap (Xz k ka),∀s∈L.flatMap (Xz k ka),OrOk r s):
 H B 12 #[v] w λe w'=>∃u cs b,e=.returned u/\w'.ownsRow w.heap.size 46 11 u (L.flatMap (Xz k ka)).length cs/\D3 w' cs b/\(b.Perm (L.flatMap (Xz k ka))/\b.Pairwise λr s=>¬s.ord r<0)/\Bl w w'/\(L=[]->u=D none 0 0):=by
 refine tH v p w h L M (Xz k ka) (λb=>b.Perm (L.flatMap (Xz k ka))/\b.Pairwise λr s=>¬s.ord r<0) (λq t hq V pa pl pc hp=>?_) hl hF λbase V u cs j o I=>?_
 . obtain⟨K,A,l,X,KK,hh,J,i,f,h⟩:=P q t hq;refine(tE K A l X KK k hh J ka t i f pa pl pc q V hp h).mono ?_;rintro e w' ⟨v,n,cs,d,m,h3,h4,h5⟩;grind[Xz]
 . by_cases z:((L).flatMap (Xz k ka)).length=0
   . have y:(L).flatMap (Xz k ka)=[]:=Ak.1 z;have eu:∃a c,u=D a 0 c:=by
      rcases j.2 with⟨e,_⟩|⟨g,cap,cur,e,_⟩
      . exact⟨_,_,e⟩
      . grind
     obtain⟨a,c,rfl⟩:=eu;refine(uL a c _ V).mono ?_;rintro e w' ⟨d,rfl⟩;refine⟨d,cs,_,j,o,⟨List.Perm.refl _,?_⟩,λq w0 _ Q=>Q⟩;rw[y];exact List.Pairwise.nil
   . exact uI base _ V u cs _ rfl O j o I G O (λr N s hs W vr vs d m=>by
      obtain⟨⟨K,A,l,X,J,R,S,T⟩,U,i5⟩:=C r N s hs;exact Z9 K A l X J vr vs r s W d m R S T U i5)
theorem SO(i:Nat):(1:Rat)<=2^i:=by
 induction i with
 |zero=>grind
 |succ i a=>rw[Rat.pow_succ];grind
theorem bC{B:Rat}:∀(n i:Nat),B<=2^(i+n)->(¬(2:Rat)^YB B n i<B)/\i<=YB B n i/\YB B n i<=i+n:=by
 intro n;induction n with
 |zero=>
  intro i h;grind[YB]
 |succ n a=>
  intro i h;grind[YB]
theorem Ov{k:Nat}{x:Rat}(h:DQ k x):x<=2^(64*k):=by
 have p0:=YT (64*k);rcases JV x 0 with a|a
 . grind
 . have d:(1:Rat)<=(x.den:Rat):=by exact_mod_cast x.den_pos
   have e:=Hp x;have f:x<=(x.num:Rat):=by
    have:=Rat.mul_le_mul_of_nonneg_left d a;rw[Rat.mul_one,e]at this;exact this
   have b:x.num<=((2^(64*k):Nat):Int):=by
    have c:x.num.natAbs<Y^k:=h.1;rw[show Y=2^64 by decide,<-Fu]at c;omega
   have g:(x.num:Rat)<=(((2^(64*k):Nat):Int):Rat):=by exact_mod_cast b
   grind
section
variable {p:List Rat} {M:Nat}
def uM(tp:Jc p=p)(p0:p≠[])(a:Cd M p)(i:Nat):DQ (M+M) (cf p i/cf p (p.length-1)):=(a.smq i).div2 (a.smq _) (Jt tp p0)
theorem uN(tp:Jc p=p)(p0:p≠[])(a:Cd M p)(n:Nat):DQ (M+M) (EH p n):=by
 have hM:=a.pos;induction n with
 |zero=>exact DQ.zero _ O
 |succ n c=>
  have b:=(uM tp p0 a n).abs;grind[EH,Ir]
def bD(tp:Jc p=p)(p0:p≠[])(a:Cd M p):DQ (M+M+2) (Yf p):=by
 unfold Yf;exact((uN tp p0 a _).add2 (show DQ 1 1 from⟨Sm.one 1 O,Sm.one 1 O⟩)).mono O
def uO(tp:Jc p=p)(p0:p≠[])(a:Cd M p){X:Nat}(hM:M<=100000000)(hX:M+M+3<=X)(hX2:X+X+2<=1000000000):ArOk X (64*(M+M+2)) p:=by
 have b:=bD tp p0 a;have hs:=bC (B:=Yf p) (64*(M+M+2)) 0 (by rw[A5];exact Ov b);exact⟨tp,p0,a.sqs O,a.monS tp O,Sq.of b O,λi hi=>(Dy.two (H:=64*(M+M+2)) hi).smq O,hX2,hs.1⟩
end
end M3
namespace M3
variable{KK hh:Nat}
theorem bE{w:List Rat}:∀(k j:Nat) (a b:Rat),Dy hh j a->Dy hh j b->∀s∈Dl w k a b,Dy hh (j+k) s.1/\Dy hh (j+k) s.2:=by
 intro k;induction k with
 |zero=>
  intro j a b c d s hs;grind[Dl]
 |succ k f=>
  intro j a b c d s hs;rw[Dl]at hs;split at hs
  . cases hs
  . split at hs
    . rw[List.mem_singleton]at hs;subst hs;exact⟨c.le O,d.le O⟩
    . have e:=Dy.mid c d;rw[show j+(k+1)=j+1+k by omega];rcases Cp.1 hs with h|h
      . exact f (j+1) a _ c.up e s h
      . exact f (j+1) _ b e d.up s h
theorem uP{X k J t:Nat}{w:List Rat}{a b:Rat}(h:SetOk k w a b)(e:Wh KK w)(l2:2<=w.length)(f:Dy hh J a)(g:Dy hh J b)(hX:hh+(J+k+1)<64*X)(j:Sm X (YP w))(sz:KK+w.length*(X+X+2)+X+X+KK<=1000000000)(hX2:X+X+2<=1000000000):SlOk KK X k ⟨a,b,w,DW (ev w b),t⟩:=by
 have hl:=Zs e;have hs:=(Rw t h).2;refine⟨h.spn.tw,h.spn.w0,hl,?_,l2,j,λi hi=>?_,?_,sz⟩
 . have hp:=h.pos;rw[hl]at hp;show 0<YP w;exact_mod_cast hp
 . obtain⟨d1,d⟩:=Oe i J ⟨a,b,w,DW (ev w b),t⟩ f g;have ew:=(Of i ⟨a,b,w,DW (ev w b),t⟩).1;have hle:w.length*(X+2)<=w.length*(X+X+2):=Nat.mul_le_mul_left _ O;exact⟨⟨by rw[ew];exact e,d1.smq O,d.smq O,by rw[ew];show KK+w.length*(X+2)+X+KK<=_;omega,hX2⟩,(Dy.mid d1 d).smq O⟩
 . rintro(c|c)
   . exact absurd (Int.lt_of_lt_of_le c hs.one) (Int.lt_irrefl _)
   . exact hs.low c
theorem uQ{K A l X k ka t:Nat}{p:List Rat}(hp:PrOk k ((2:Rat)^YB (Yf p) ka 0) p)(a:ArOk X ka p)(m:∀i,Sq (Gw p i))(f:ChOk K p (Jb p))(j:RowOk A l (Xb p (Jb p)))(hk:YB (Yf p) ka 0<=hh)
(n:Wh KK (Jp p))(l2:2<=p.length)(e:Sm X (YP (Jp p)))(hX:hh+(k+k+1)<64*X)(g:cw p (-((2:Rat)^YB (Yf p) ka 0))-cw p ((2:Rat)^YB (Yf p) ka 0)<=1000000)
(sz:A+l*(X+2)+X+A<=10000000000)(sz2:KK+p.length*(X+X+2)+X+X+KK<=1000000000):∃G D,RoOk K A l X KK k hh (k+k+1) ka G D p t:=by
 obtain⟨G,D,hA,r,hD,d,o,q⟩:=hp.end_;have ll:(Jp p).length=p.length:=JJ hp.tw;refine⟨G,D,a.sp,m,f,j,sz,hX,a.x2,a,O,hk,tF hp.tw hp.w0 hp.sq,hA,Rat.le_of_lt d,?_,g,λs hs=>?_⟩
 . grind
 . rw[aM];have c:Dy hh 0 ((2:Rat)^YB (Yf p) ka 0):=Dy.two hk;obtain⟨d1,b⟩:=bE k 0 _ _ c.neg c s hs;rw[A5]at d1 b;exact uP (hp.span hs).2.2.2 n O d1 b O e (by rw[ll];exact sz2) a.x2
end M3
theorem uR{w:List Rat}{H D c:Rat}(tw:Jc w=w)(w0:w≠[])(g:c≠0):Ez (DN c w) H D↔Ez w H D:=by
 have f:∀x z:Rat,x<=z->(cw (DN c w) z+2<=cw (DN c w) x↔cw w z+2<=cw w x):=λx z a=>by
  grind[OW,JH,Ho,Rh,cw]
 exact⟨λh x z b d a e=>h x z b d a ((f x z a).2 e),λh x z b d a e=>h x z b d a ((f x z a).1 e)⟩
theorem uS{w:List Rat}{H D:Rat}(tw:Jc w=w)(w0:w≠[]):Ez (Jp w) H D↔Ez w H D:=by
 grind[Xf,uR]
theorem uT{w:List Rat}{H D:Rat}(w0:w≠[])(hl:w.length<=2):Ez w H D:=λx z _ _ _ e=>by
 have a:cw w x<=(JD (Jw w) x).length-1:=OV _;grind[Rf,JD]
theorem uU{w:List Rat}(w0:w≠[])(x:Rat):cw w x<=w.length:=by
 have a:cw w x<=(JD (Jw w) x).length-1:=OV _;grind[Rf,JD]
namespace M3
variable{K a b ka:Nat}
theorem YJ(a b:Nat):(2:Rat)^(a+b)=2^a*2^b:=by
 grind
theorem Ow{K g:Nat}:∀p:List Rat,(∀c∈p,Yn c<=2^K)->GX (2^g) p<=2^(K+(g+1)*p.length)
 |[],_=>Rat.le_of_lt (YT _)
 |c::p,h=>by
  have a:=Ow (g:=g) p λx b=>h x (AB _ b);have d:=h c Ao;have e:=Rat.mul_le_mul_of_nonneg_left a (Rat.le_of_lt (YT g));rw[GX,Ah,show K+(g+1)*(p.length+1)=g+(K+(g+1)*p.length)+1 by rw[CL];omega,Rat.pow_succ,YJ g];have f:(2:Rat)^K<=2^g*2^(K+(g+1)*p.length):=by
   rw[<-YJ,show g+(K+(g+1)*p.length)=K+(g+(g+1)*p.length)by omega,YJ];have:=Rat.mul_le_mul_of_nonneg_left (SO (g+(g+1)*p.length)) (Rat.le_of_lt (YT K));rw[Rat.mul_one]at this;exact this
  grind
theorem Ox{K g:Nat}:∀p:List Rat,(∀c∈p,Yn c<=2^K)->Es (2^g) p<=2^(K+(g+1)*p.length)
 |[],_=>Rat.le_of_lt (YT _)
 |c::p,h=>by
  have a:∀x∈p,Yn x<=2^K:=λx d=>h x (AB _ d);have b:=Ox (g:=g) p a;have e:=Ow (g:=g) p a;have f:=Rat.mul_le_mul_of_nonneg_left b (Rat.le_of_lt (YT g));rw[Es,Ah,show K+(g+1)*(p.length+1)=g+(K+(g+1)*p.length)+1 by rw[CL];omega,Rat.pow_succ,YJ g];have i:(2:Rat)^(K+(g+1)*p.length)<=2^g*2^(K+(g+1)*p.length):=by
   have:=Rat.mul_le_mul_of_nonneg_right (SO g) (Rat.le_of_lt (YT (K+(g+1)*p.length)));rw[Cq]at this;exact this
  grind
def Wh.abs{K:Nat}{p:List Rat}(h:Wh K p):∀c∈p,Yn c<=2^(64*(K+1)):=by
 obtain⟨zs,e,d⟩:=Wh.zs h;intro c a;rw[e]at a;obtain⟨z,b,rfl⟩:=C2.1 a;refine Ov (DQ.abs ?_);have hk:=(d z b).mono (show K<=K+1 by omega);exact⟨by rw[CZ];exact hk,by rw[FE];exact Sm.one _ O⟩
theorem LB(h:a<=b):(2:Rat)^a<=2^b:=by
 obtain⟨c,rfl⟩:∃c,b=a+c:=⟨b-a,O⟩;rw[YJ];have:=Rat.mul_le_mul_of_nonneg_left (SO c) (Rat.le_of_lt (YT a));grind
theorem bF{x y:Rat}{E:Nat}(b:0<=x)(c:x<=2^E)(a:y<=2^E):x*y<=2^(E+E):=by
 rw[YJ];have d:=Rat.mul_le_mul_of_nonneg_left a b;grind[Rat.mul_le_mul_of_nonneg_right,Rat.le_trans]
theorem uV{g E:Nat}{w:List Rat}(tw:Jc w=w)(sw:DY w)(c:Wh K w)(hs:Wh K (Jb w))(hl:3<=w.length)(k:w.length<=100)(hE:64*((K+1)*(w.length+w.length)+1)+(g+1)*w.length<=E):∃D,Ez w (2^g) D/\0<=D/\D<=2^(E+E+1):=by
 have w0:w≠[]:=λe=>by rw[e]at hl;simp at hl
 have l1:=YW w0;have a:(0:Rat)<=2^g:=Rat.le_of_lt (YT g);obtain⟨u,v,l,hv,m,n,hA⟩:=qZ tw sw c hs hl k a;have o:(K+1)*(w.length+(Jb w).length)<=(K+1)*(w.length+w.length):=Ai _ O;have p:(g+1)*u.length<=(g+1)*w.length:=Ai _ m;have q:(g+1)*v.length<=(g+1)*w.length:=Ai _ n;have r:(g+1)*(Jb w).length<=(g+1)*w.length:=Ai _ O;have s:K+1<=(K+1)*(w.length+w.length)+1:=by
  have:=Ai (K+1) (show 1<=w.length+w.length by omega);omega
 have d:=Rat.le_trans (Ow (g:=g) u (Wh.abs l)) (LB (b:=E) O);have f:=Rat.le_trans (Ow (g:=g) v (Wh.abs hv)) (LB (b:=E) O);have i:=Rat.le_trans (Ox (g:=g) w (Wh.abs c)) (LB (b:=E) O);have j:=Rat.le_trans (Ox (g:=g) (Jb w) (Wh.abs hs)) (LB (b:=E) O);have c1:=bF (Ms a u) d i;have c2:=bF (Ms a v) f j;have t:=Rat.mul_nonneg (Ms a u) (Mt a w);have x:=Rat.mul_nonneg (Ms a v) (Mt a (Jb w));refine⟨_,hA,DH,?_⟩;rw[Rat.pow_succ];grind
theorem Oy(h:a<b):(2:Rat)^a<2^b:=by
 have c:=LB (show a+1<=b from h);have d:=YT a;rw[Rat.pow_succ]at c;grind
def Wh.le{p:List Rat}(h:Wh K p)(i:Nat):cf p i<=2^(64*(K+1)):=by
 obtain⟨z,a,b⟩:=h i;rw[b];exact Ov ⟨by rw[CZ];exact a.mono O,by rw[FE];exact Sm.one _ O⟩
theorem uW{h k E:Nat}{w:List Rat}(tw:Jc w=w)(w0:w≠[])(sq:DY w)(d:Wh K (Jp w))(hs:Wh K (Jb (Jp w)))(pos:0<cf w (w.length-1))(hl:w.length<=100)(bnd:Yf w<=2^h)(hE:64*((K+1)*(w.length+w.length)+1)+(h+2)*w.length<=E)(hk:E+E+h+2<k):PrOk k (2^h) w:=by
 have ll:(Jp w).length=w.length:=JJ tw;obtain⟨c,c0,g⟩:=Xf tw;have sl:DY (Jp w):=by rw[g];exact sq.scl (λe=>by grind)
 have i:Jp w≠[]:=λe=>w0 (Ak.1 (by rw[<-ll,e];rfl));have w1:0<w.length:=Ae.2 w0;have hD:∃D,Ez (Jp w) (2^(h+1)) D/\0<=D/\D<=2^(E+E+1):=by
  by_cases j:3<=w.length
  . grind[uV,J5]
  . exact⟨0,uT i O,Rat.le_refl,Rat.le_of_lt (YT _)⟩
 obtain⟨D,hA,d0,f⟩:=hD;have b:(2:Rat)^h+2^h=2^(h+1):=by rw[Rat.pow_succ];grind
 have l:K+1<=(K+1)*(w.length+w.length):=by
  have:=Ai (K+1) (show 1<=w.length+w.length by omega);omega
 refine⟨tw,w0,sq,⟨K,d⟩,pos,bnd,2^(h+1),D,(uS tw w0).1 hA,hA,d0,Oy O,?_,?_⟩
 . rw[b];have a:=Rat.mul_le_mul_of_nonneg_right f (Rat.le_of_lt (YT (h+1)));rw[<-YJ]at a;exact Ld a (Oy O)
 . rw[b];have a:=Rat.mul_le_mul_of_nonneg_right (Wh.le d ((Jp w).length-1)) (Rat.le_of_lt (YT (h+1)));rw[<-YJ]at a;exact Ld a (Oy O)
def bG(k ka:Nat)(w:List Rat)(t:Nat):Xz k ka (w,t)=Mx k ((2:Rat)^YB (Yf w) ka 0) w t:=by
 unfold Xz Mx;rw[aM];rfl
def Oz{k t:Nat}{w:List Rat}(h:PrOk k ((2:Rat)^YB (Yf w) ka 0) w):RtsP (Jp w) t (Xz k ka (w,t)):=by
 rw[bG];exact h.rts t
def SP{k:Nat}{L:List (List Rat × Nat)}(h:∀a∈L,PrOk k ((2:Rat)^YB (Yf a.1) ka 0) a.1):∀r∈L.flatMap (Xz k ka),r.Ok/\∃a∈L,r.w=Jp a.1/\r.tm=a.2:=λr b=>by
 obtain⟨a,d,b⟩:=List.mem_flatMap.1 b;have c:=(Oz (t:=a.2) (h a d)).all r b;exact⟨c.1,a,d,c.2⟩
theorem bH{k ka:Nat}{q:List Rat}(tq:Jc q=q):∀ {L:List (List Rat × Nat)},(∀a∈L,PrOk k ((2:Rat)^YB (Yf a.1) ka 0) a.1)->((L.flatMap (Xz k ka)).map λr=>if r.sign q=0 then(1:Int)else 0).sum=(L.map λa=>(nA (Js (Jp a.1) q):Int)).sum
 |[],_=>rfl
 |a::L,h=>by
  have d:=(Oz (t:=a.2) (h a Ao)).cnt q tq;have e:=bH tq (L:=L) λb c=>h b (AB _ c);grind
end M3
theorem uX{u v:List Rat}(h:DR u v){x:Rat}(c:ev u x=0)(d:ev v x=0):False:=by
 obtain⟨a,b,e⟩:=h;grind
def RtQ.Ok.differ{r s:RtQ}(d:r.Ok)(hs:s.Ok)(f:DR r.w s.w):¬ ∀x,r.S x=s.S x:=λe=>by
 by_cases b:r.lo<r.hi
 . by_cases a:s.lo<s.hi
   . refine(d.irr b).differ (hs.irr a) f λx=>?_;have:=e x;rwa[RtQ.SI b,RtQ.SI a]at this
   . have:=e s.lo;rw[RtQ.SI b,RtQ.SR a]at this;have c:D9 s.lo s.lo=0:=by rw[<-X7];exact Kq.2 rfl
     rw[c]at this;rcases(d.irr b).sid_ne s.lo with h|h<;>(rw[h]at this;omega)
 . by_cases a:s.lo<s.hi
   . have:=e r.lo;rw[RtQ.SR b,RtQ.SI a]at this;have c:D9 r.lo r.lo=0:=by rw[<-X7];exact Kq.2 rfl
     rw[c]at this;rcases(hs.irr a).sid_ne r.lo with h|h<;>(rw[h]at this;omega)
   . have:=e s.lo;rw[RtQ.SR b,RtQ.SR a]at this;have c:D9 s.lo s.lo=0:=by rw[<-X7];exact Kq.2 rfl
     rw[c,<-X7]at this;have i:r.lo=s.lo:=Kq.1 this;have g:=(d.rat b).2;rw[i]at g;exact uX f g (hs.rat a).2
namespace M3
theorem rise_of{all rs:List RtQ}(a:∀r∈all,r.Ok)(c:all.Pairwise λr s=>¬ ∀x,r.S x=s.S x)(hp:rs.Perm all)(hs:rs.Pairwise λr s=>¬s.ord r<0):rs.Pairwise λr s=>EQ r.S s.S:=by
 have b:rs.Pairwise λr s=>¬ ∀x,r.S x=s.S x:=(hp.pairwise_iff fun {r s} h e=>h λx=>(e x).symm).2 c;have h:=hs.and b;refine List.Pairwise.imp_of_mem (fun {r s} d g f=>?_) h;have j:=a r (hp.mem_iff.1 d);have k:=a s (hp.mem_iff.1 g);rcases k.order j with⟨e,i⟩|⟨e,i⟩|⟨e,i⟩
 . exact absurd O f.1
 . exact i
 grind
def bI{k ka:Nat}:∀ {L:List (List Rat × Nat)},(∀a∈L,PrOk k ((2:Rat)^YB (Yf a.1) ka 0) a.1)->(L.Pairwise λa b=>DR (Jp a.1) (Jp b.1))->(L.flatMap (Xz k ka)).Pairwise λr s=>¬ ∀x,r.S x=s.S x
 |[],_,_=>List.Pairwise.nil
 |a::L,h,l=>by
  obtain⟨c1,c2⟩:=List.pairwise_cons.1 l;have d:=Oz (t:=a.2) (h a Ao);have f:=λb c=>h b (AB a c);rw[List.flatMap_cons,List.pairwise_append];refine⟨d.rise.imp fun {r s} i e=>?_,bI f c2,λr m s hs=>?_⟩
  . rw[show r.S=s.S from funext e]at i;exact EQ.irr i
  . obtain⟨n,g,_⟩:=d.all r m;obtain⟨o,b,c,j,_⟩:=SP f s hs;exact n.differ o (by rw[g,j];exact c1 b c)
theorem bJ{k ka t:Nat}{w:List Rat}(h:PrOk k ((2:Rat)^YB (Yf w) ka 0) w):((Xz k ka (w,t)).length:Int)=nA w:=by
 obtain⟨G,D,hA,_,hD,d,b,_⟩:=h.end_;have a:=Zt h.tw h.w0 h.sq h.tw h.w0 (Dv.refl w) h.bnd;have c:=YT (YB (Yf w) ka 0);unfold Xz;rw[CK];show((Dl w k (-((2:Rat)^YB (Yf w) ka 0)) ((2:Rat)^YB (Yf w) ka 0)).length:Int)=nA w;generalize (2:Rat)^YB (Yf w) ka 0=H at *;have e:=JF h.tw h.w0 (show -H<=H by grind);rw[Zf h.tw h.w0 hA k (-H) H ⟨DH,DH⟩ ⟨DH,DH⟩ DH DH,<-a];omega
theorem bK{k ka:Nat}:∀ {L:List (List Rat × Nat)},(∀a∈L,PrOk k ((2:Rat)^YB (Yf a.1) ka 0) a.1)->((L.flatMap (Xz k ka)).length:Int)=(L.map λa=>(nA a.1:Int)).sum
 |[],_=>rfl
 |a::L,h=>by
  have d:((Xz k ka a).length:Int)=nA a.1:=bJ (t:=a.2) (h a Ao);have e:=bK (L:=L) λb c=>h b (AB _ c);grind
end M3
section
open M3
structure PwOk(C n:Nat)(w:List Rat):Prop where
 tw:Jc w=w
 l2:2<=w.length
 ln:w.length<=n
 sq:DY w
 mon:Jr w=w
 cd:Cd C w
def Df(C:Nat):Nat:=64*(C+C+2)
def eO(C n:Nat):Nat:=64*((C+2)*(n+n)+1)+(Df C+2)*n
def kO(C n:Nat):Nat:=eO C n+eO C n+Df C+3
structure NmOk(C n X:Nat):Prop where
 hn:n<=100
 hC:C<=100000000
 hX:Df C+(kO C n+kO C n+1)+kO C n+64*C+64<64*X
 x2:X+X+2<=1000000000
 ch:4*((n+2)*((C+2)*(n+n+1)+1))<=1000000000
 sz:(C+2)*(n+n+1)+n*(X+2)+X+(C+2)*(n+n+1)<=10000000000
 sz2:C+1+n*(X+X+2)+X+X+(C+1)<=1000000000
def Wh.mono{K L:Nat}{p:List Rat}(h:Wh K p)(hl:K<=L):Wh L p:=λi=>by
 obtain⟨z,a,b⟩:=h i;exact⟨z,a.mono hl,b⟩
variable{K:Nat}
theorem Wh.slope{p:List Rat}(h:Wh K p)(hl:p.length<=1000000000):Wh (K+1) (Jb p):=λi=>by
 unfold Jb;rw[YD,LG];by_cases hi:p.length<=i+1
 . exact⟨0,Sm.zero _,by rw[Ys hi,AY];rfl⟩
 . obtain⟨z,a,b⟩:=h (i+1);refine⟨z*((i+1:Nat):Int),a.mul ?_,by rw[b,Aq,AF]⟩;grind[Sm,Y]
def Wh.cd{p:List Rat}(h:Wh K p)(c:1<=K):Cd K p:=⟨1,DK,Sm.one _ c,λi=>by
 obtain⟨z,a,b⟩:=h i;exact⟨z,by rw[b,<-Cj ((z:Int):Rat)];simp,a⟩⟩
def Cd.whl{C:Nat}{w:List Rat}(h:Cd C w)(tw:Jc w=w)(w0:w≠[]):Wh C (Jp w):=RE tw w0 h.ln
def bL{p q:List Rat}(h:M3.ChOk K p q)(p0:p≠[]):RowOk (Dc K p q) (max p.length q.length) (Xb p q):=by
 have hs:=Chn.start h.tp h.tq h.lp h.lq h.bd.2.2.1;refine⟨M3.Zy h (λa b k _=>⟨k.wa,k.la⟩) _ (Jp p) (Jp q) (Aa _) hs λe=>p0 (Ak.1 ?_),?_⟩
 . rw[<-JJ h.tp,e];rfl
 . have c:=ZG _ (Jp p) (Jp q) (Aa _) (J5 q);rw[JJ h.tq]at c;have:=h.ln;show(EW (Jp p) (Jp q)).length<=_;omega
section
variable {C n X:Nat} {w:List Rat}
def PwOk.w0(h:PwOk C n w):w≠[]:=λe=>by have:=h.l2;rw[e]at this;simp at this
def PwOk.lead(h:PwOk C n w):cf w (w.length-1)=1:=LZ h.tw h.w0 h.mon
def PwOk.wh(h:PwOk C n w):Wh C (Jp w):=h.cd.whl h.tw h.w0
theorem PwOk.arn(h:PwOk C n w):Yf w<=2^YB (Yf w) (Df C) 0/\YB (Yf w) (Df C) 0<=Df C:=by
 have hs:=M3.bC (B:=Yf w) (Df C) 0 (by rw[A5];exact M3.Ov (M3.bD h.tw h.w0 h.cd));grind
def PwOk.pr(h:PwOk C n w)(N:NmOk C n X):PrOk (kO C n) (2^YB (Yf w) (Df C) 0) w:=by
 obtain⟨a,b⟩:=h.arn;have ll:(Jp w).length=w.length:=JJ h.tw;have hn:=N.hn;have hl:=h.ln;have c:(C+1+1)*(w.length+w.length)<=(C+2)*(n+n):=Ai _ O;have d:(YB (Yf w) (Df C) 0+2)*w.length<=(Df C+2)*n:=Cw O hl;refine M3.uW (K:=C+1) (E:=eO C n) h.tw h.w0 h.sq (h.wh.mono O) (h.wh.slope O) ?_ O a ?_ ?_
 . rw[h.lead];decide
 . unfold eO;omega
 . unfold kO;omega
def PwOk.ro(h:PwOk C n w)(N:NmOk C n X)(t:Nat):∃G D,M3.RoOk (C+1) (Dc (C+1) w (Jb w)) (max w.length (Jb w).length) X (C+1) (kO C n) (Df C) (kO C n+kO C n+1) (Df C) G D w t:=by
 obtain⟨g,a⟩:=h.arn;have hC:=N.hC;have hX:=N.hX;have x2:=N.x2;have hn:=N.hn;have hl:=h.ln;have sl:=Z1 w;have hk:Df C=64*(C+C+2):=rfl;have ch:M3.ChOk (C+1) w (Jb w):=M3.ChOk.of h.tw (Ju _) (h.cd.mono O) (h.cd.slope O) (n:=n) hl O N.ch O;have d:Dc (C+1) w (Jb w)<=(C+2)*(n+n+1):=Ai _ O;have e:max w.length (Jb w).length*(X+2)<=n*(X+2):=Ad _ O;have f:w.length*(X+X+2)<=n*(X+X+2):=Ad _ hl;have i:=N.sz;have j:=N.sz2;refine M3.uQ (h.pr N) (M3.uO h.tw h.w0 h.cd hC O x2) (Z0 h.cd.smq O O) ch (bL ch h.w0) a (h.wh.mono O) h.l2 ?_ O ?_ O O
 . obtain⟨z,b,c⟩:=h.wh ((Jp w).length-1);unfold YP;rw[c,CZ];exact b.mono O
 . have:=uU h.w0 (-((2:Rat)^YB (Yf w) (Df C) 0));omega
end
end
section
open M3
def uY(L:Int):∀(k:Nat) (r:RtQ),∃i,i<=k/\Yj L k r=F2 i r:=by
 intro k;induction k with
 |zero=>intro r;exact⟨0,Aa _,rfl⟩
 |succ k b=>
  intro r;rw[Yj];split
  . obtain⟨i,c,a⟩:=b r.hv;exact⟨i+1,O,a⟩
  . exact⟨0,As _,rfl⟩
def uZ{C h X:Nat}{w:List Rat}{x:Rat}(j:Wh C w)(tw:Jc w=w)(w0:w≠[])(e:ev w x=0)(p:-(2^h)<=x)(q:x<=2^h)(hX:h+64*C<64*X):DQ X x:=by
 obtain⟨zs,b⟩:=j.ints;have z0:zs≠[]:=λk=>w0 (by rw[b,k];rfl);have hl:cf w (w.length-1)=((zs.getLast z0:Int):Rat):=by
  rw[b];unfold cf;rw[CK,Fe,<-List.getLast?_eq_getElem?,List.getLast?_eq_some_getLast z0];rfl
 obtain⟨L,f,l⟩:=j (w.length-1);have m:zs.getLast z0=L:=by rw[l]at hl;exact_mod_cast hl.symm
 have r:=Jt tw w0;have s:L≠0:=λk=>r (by rw[l,k];rfl);have i:=Rr z0 (x:=x) (by rw[<-b];exact e);rw[m]at i;have t:x.den<=L.natAbs:=Nat.le_of_dvd O (by have:=Cu.2 i;rwa[Az]at this);have f:L.natAbs<Y^C:=f;have a:∀k,Y^k=2^(64*k):=λk=>by rw[show Y=2^64 from rfl,<-Fu]
 have A:2^h*2^(64*C)<2^(64*X):=by rw[<-CQ];exact Nat.pow_lt_pow_right O hX
 have p1:=Cy (n:=h) (show 0<2 by omega);rw[a]at f;have o:=Hp x;have d0:(0:Rat)<=(x.den:Rat):=by exact_mod_cast As x.den
 have c:=Rat.mul_le_mul_of_nonneg_right q d0;have d:=Rat.mul_le_mul_of_nonneg_right p d0;rw[o]at c d;have g:(2:Rat)^h*(x.den:Rat)=(((2^h*x.den:Nat):Int):Rat):=by rw[AF,Rat.natCast_mul,Rat.natCast_pow];rfl
 rw[Rat.neg_mul,g,<-Rat.intCast_neg]at d;rw[g]at c;have u:x.num<=((2^h*x.den:Nat):Int):=by exact_mod_cast c
 have v:-((2^h*x.den:Nat):Int)<=x.num:=by exact_mod_cast d
 have y:2^h*x.den<=2^h*2^(64*C):=Ai _ O;have z:2^(64*C)<=2^h*2^(64*C):=Cs _ p1;refine⟨?_,?_⟩
 . unfold Sm;rw[a];omega
 . unfold Sm;rw[a,Az];omega
def RtQ.Ok.sign3{r:RtQ}(h:r.Ok)(q:List Rat):r.sign q=-1\/r.sign q=0\/r.sign q=1:=by
 by_cases hl:r.lo<r.hi
 . rw[h.signI hl];rcases(h.irr hl).sg3 q with k|k|k
   . exact Or.inr (Or.inl k)
   . first|exact Or.inl k|exact Or.inr (Or.inr k)
   . first|exact Or.inl k|exact Or.inr (Or.inr k)
 . rw[RtQ.signR hl];rcases YA (ev q r.lo)with⟨_,k⟩|⟨_,k⟩|⟨_,k⟩<;>simp[k]
structure TdOk(C n X:Nat)(w:List Rat)(t:Nat)(r:RtQ):Prop where
 ok:r.Ok
 ew:r.w=Jp w
 et:r.tm=t
 lo:DQ X r.lo
 hi:DQ X r.hi
 dy:r.lo<r.hi->Dy (Df C) (kO C n+kO C n) r.lo/\Dy (Df C) (kO C n+kO C n) r.hi
 bl:-(2^Df C)<=r.lo
 bh:r.hi<=2^Df C
theorem PwOk.told{C n X:Nat}{w:List Rat}(h:PwOk C n w)(N:NmOk C n X)(t:Nat):∀r∈Xz (kO C n) (Df C) (w,t),TdOk C n X w t r:=λr j=>by
 obtain⟨p,c⟩:=h.arn;have hp:=h.pr N;have hX:=N.hX;rw[M3.bG]at j;obtain⟨s,hs,rfl⟩:=C2.1 j;obtain⟨_,q,u,k⟩:=hp.span hs;have a:=(Rw t k).1;have e:Dy (Df C) 0 ((2:Rat)^YB (Yf w) (Df C) 0):=Dy.two c;obtain⟨d1,d⟩:=M3.bE (kO C n) 0 _ _ e.neg e s hs;rw[A5]at d1 d;have x:=M3.LB c;have bl:-((2:Rat)^Df C)<=(GJ (kO C n) ⟨s.1,s.2,Jp w,DW (ev (Jp w) s.2),t⟩).lo:=by have:=a.lo;grind
 have bh:(GJ (kO C n) ⟨s.1,s.2,Jp w,DW (ev (Jp w) s.2),t⟩).hi<=2^Df C:=by have:=a.hi;grind
 have dy:∀r:RtQ,(r=GJ (kO C n) ⟨s.1,s.2,Jp w,DW (ev (Jp w) s.2),t⟩)->r.lo<r.hi->Dy (Df C) (kO C n+kO C n) r.lo/\Dy (Df C) (kO C n+kO C n) r.hi:=λr b hl=>by
  subst b;unfold GJ Hv at hl ⊢;obtain⟨i,v,o⟩:=uY (YP (Jp w)) (kO C n) ⟨s.1,s.2,Jp w,DW (ev (Jp w) s.2),t⟩;rw[o]at hl ⊢;split at hl
  . exact absurd hl Rat.lt_irrefl
  . rename_i m;rw[BE m];obtain⟨c1,c2⟩:=Oe i (kO C n) ⟨s.1,s.2,Jp w,DW (ev (Jp w) s.2),t⟩ d1 d;exact⟨c1.le O,c2.le O⟩
 obtain⟨r,b⟩:=ex (GJ (kO C n) ⟨s.1,s.2,Jp w,DW (ev (Jp w) s.2),t⟩);rw[b]at a bl bh ⊢;have dy:=dy r b.symm;by_cases hl:r.lo<r.hi
 . obtain⟨c1,c2⟩:=dy hl;exact⟨a.ok,a.ew,a.et,c1.smq O,c2.smq O,dy,bl,bh⟩
 . obtain⟨f,l⟩:=a.ok.rat hl;have g:=l;rw[a.ew]at g;have w0:=a.ok.w0;rw[a.ew]at w0;have sm:DQ X r.lo:=uZ (C:=C) (h:=Df C) h.wh (J5 w) w0 g bl (by rw[f];exact bh) O;exact⟨a.ok,a.ew,a.et,sm,by rw[<-f];exact sm,dy,bl,bh⟩
structure SzOk(C n X M m:Nat):Prop where
 ch:4*((n+m+2)*((C+M+n+2)*(n+m+(n+m)+1)+1))<=1000000000
 ln:n+m<=1000
 sz:(C+M+n+2)*(n+m+(n+m)+1)+(n+m)*(X+2)+X+(C+M+n+2)*(n+m+(n+m)+1)<=10000000000
 at_:m*(M+X+1)+1+X<=1000000000
 hM:M<=100000000
section
variable {C n X M m:Nat} {w q:List Rat} {t:Nat} {r:RtQ}
def TdOk.rz(h:TdOk C n X w t r)(a:PwOk C n w)(N:NmOk C n X):RzOk (C+1) X r:=by
 have c:=N.sz2;have ll:r.w.length=w.length:=by rw[h.ew];exact JJ a.tw
 have hl:=a.ln;have b:r.w.length*(X+2)<=n*(X+X+2):=Cw O O;exact⟨by rw[h.ew];exact a.wh.mono O,h.lo,h.hi,O,N.x2⟩
def TdOk.sn(h:TdOk C n X w t r)(a:PwOk C n w)(N:NmOk C n X)(S:SzOk C n X M m)(tq:Jc q=q)(cq:Cd M q)(lq:q.length<=m):∃K A l,M3.SnOk K A l X r q:=by
 have hC:=N.hC;have hn:=N.hn;have e:=S.ln;have j:=S.at_;have hM:=S.hM;have ll:(Jp w).length=w.length:=JJ a.tw;have k:=a.ln;have sl:=Z1 (Jp w);have cw:Cd (C+1) (Jp w):=(a.wh.mono O).cd O;have cs:Cd (C+1) (Jb (Jp w)):=(a.wh.slope O).cd O;have w0:=h.ok.w0;rw[h.ew]at w0;have c:(Ji (Jb (Jp w)) q).length<=n+m:=by
  by_cases d:Jb (Jp w)=[]
  . rw[d];exact As _
  . by_cases q0:q=[]
    . rw[q0,YS];exact As _
    . have:=JB (Ju (Jp w)) tq d q0;omega
 have b:Cd (C+M+n+1) (Ji (Jb (Jp w)) q):=(cs.mul cq).mono O;have ch:M3.ChOk (C+M+n+1) (Jp w) (Ji (Jb (Jp w)) q):=M3.ChOk.of (J5 w) (Jq _ _) (cw.mono O) b (n:=n+m) O c S.ch e;have f:Dc (C+M+n+1) (Jp w) (Ji (Jb (Jp w)) q)<=(C+M+n+2)*(n+m+(n+m)+1):=Ai _ O;have g:max (Jp w).length (Ji (Jb (Jp w)) q).length*(X+2)<=(n+m)*(X+2):=Ad _ O;have o:=S.sz;have i:q.length*(M+X+1)<=m*(M+X+1):=Ad _ lq;have hA:=R5 h.lo cq.smq O;have row:=bL ch w0;rw[<-h.ew]at cw cs w0 c b ch row f g sl ll;exact⟨_,_,_,cq.sqs O,λ_=>⟨hA,(hA 0).1⟩,cw.sqs O,Z0 cw.smq O O,cs.sqs O,cs.times cq O,O,ch,row,w0,O⟩
def TdOk.or_{v:List Rat}{u:Nat}{s:RtQ}(h:TdOk C n X w t r)(a:PwOk C n w)(N:NmOk C n X)(S:SzOk C n X (C+1) n)(k:TdOk C n X v u s)(hv:PwOk C n v):M3.OrOk r s:=by
 have b:s.w.length<=n:=by rw[k.ew,JJ hv.tw];exact hv.ln
 obtain⟨K,A,l,hs⟩:=h.sn a N S (q:=s.w) k.ok.tw (by rw[k.ew];exact(hv.wh.mono O).cd O) b;refine⟨⟨K,A,l,X,C+1,h.rz a N,k.rz hv N,hs⟩,?_,?_⟩
 . rw[k.ok.sgh];rcases YA (ev s.w s.hi)with⟨_,e⟩|⟨_,e⟩|⟨_,e⟩<;>rw[e]<;>decide
 . rcases h.ok.sign3 s.w with e|e|e<;>rw[e]<;>decide
end
end
section
open M3
theorem O0(a b:Rat)(n:Nat):(a*b)^n=a^n*b^n:=by
 induction n with
 |zero=>rw[Rat.pow_zero,Rat.pow_zero,Rat.pow_zero,Rat.mul_one]
 |succ n c=>rw[Rat.pow_succ,Rat.pow_succ,Rat.pow_succ,c];grind
def Lj(L:List (List Rat × Nat))(f:List Rat->Nat):Nat:=(L.map λa=>a.2*f a.1).sum
def bM{w:List Rat}(tw:Jc w=w)(w0:w≠[])(t:Nat):∃p:List Rat,Jc p=p/\p≠[]/\(∀x,ev p x=ev w x^t)/\p.length=t*(w.length-1)+1:=by
 induction t with
 |zero=>exact⟨[1],EM,DI,λx=>by rw[Rat.pow_zero,Jm],DI⟩
 |succ t e=>
  obtain⟨p,a,b,c,d⟩:=e;have:=Ae.2 w0;refine⟨Ji p w,Jq _ _,Yt a tw b w0,λx=>by rw[Jd,c,Rat.pow_succ],?_⟩;rw[JB a tw b w0,d,Nat.succ_mul];omega
def bN:∀L:List (List Rat × Nat),(∀a∈L,Jc a.1=a.1/\a.1≠[])->∃p:List Rat,Jc p=p/\p≠[]/\(∀x,ev p x=Dp L x)/\p.length=Lj L (λw=>w.length-1)+1
 |[],_=>⟨[1],EM,DI,λx=>by rw[Jm];rfl,rfl⟩
 |a::L,h=>by
  obtain⟨p,c,d,g,i⟩:=bN L λb j=>h b (AB _ j);obtain⟨ta,a0⟩:=h a Ao;obtain⟨q,e,f,k,l⟩:=bM ta a0 a.2;refine⟨Ji q p,Jq _ _,Yt e c f d,λx=>by rw[Jd,k,g,Dp],?_⟩;rw[JB e c f d,l,i];simp[Lj];omega
structure PsOk(C n:Nat)(z:List Rat)(L:List (List Rat × Nat)):Prop where
 ln:L.length<=25
 all:∀a∈L,PwOk C n a.1/\1<=a.2/\a.2<=25
 cop:L.Pairwise λa b=>DR a.1 b.1
 evs:∀x,ev (Jr z) x=Dp L x
section
variable {C n X:Nat} {z q:List Rat} {L:List (List Rat × Nat)}
def PsOk.pts(h:PsOk C n z L):PtsOk L:=⟨λa d=>by
 obtain⟨b,c,_⟩:=h.all a d;exact⟨b.tw,b.w0,b.sq,c⟩,h.cop⟩
def PsOk.pr(h:PsOk C n z L)(N:NmOk C n X):∀a∈L,PrOk (kO C n) ((2:Rat)^YB (Yf a.1) (Df C) 0) a.1:=λa b=>(h.all a b).1.pr N
theorem ub{w:List Rat}(tw:Jc w=w)(tq:Jc q=q):Js (Jp w) q=Js w q:=by
 obtain⟨c,c0,a⟩:=Xf tw;have h:=RA (c:=c) (d:=1) (λe=>by grind) DK tw tq;rw[Ii tq]at h;rw[a];exact h
def ud{f g:List Rat->Int}(h:∀a∈L,f a.1=g a.1):Iu L f=Iu L g:=by
 unfold Iu;rw[Ce h]
def PsOk.cnt(h:PsOk C n z L)(N:NmOk C n X)(tz:Jc z=z)(z0:z≠[])(tq:Jc q=q)(q0:q≠[]):((L.flatMap (Xz (kO C n) (Df C))).map λr=>if r.sign q=0 then(1:Int)else 0).sum=nA (Js z q):=by
 rw[M3.bH tq (h.pr N),q7 h.pts tz z0 h.evs tq q0];exact ud (f:=λw=>nA (Js (Jp w) q)) λa b=>by rw[ub (h.all a b).1.tw tq]
def PsOk.len(h:PsOk C n z L)(N:NmOk C n X)(tz:Jc z=z)(z0:z≠[]):((L.flatMap (Xz (kO C n) (Df C))).length:Int)=nA z:=by
 rw[M3.bK (h.pr N),(Zl h.pts tz z0 h.evs).1];rfl
def PsOk.told(h:PsOk C n z L)(N:NmOk C n X):∀r∈L.flatMap (Xz (kO C n) (Df C)),∃a∈L,TdOk C n X a.1 a.2 r:=λr b=>by
 obtain⟨a,c,b⟩:=List.mem_flatMap.1 b;exact⟨a,c,(h.all a c).1.told N a.2 r b⟩
theorem PsOk.split(h:PsOk C n z L)(tz:Jc z=z)(z0:z≠[]){a:List Rat × Nat}(m:a∈L):∃c:List Rat,DR (Jp a.1) c/\∀x,ev z x=ev (Jp a.1) x*(ev (Jp a.1) x^(a.2-1)*ev c x):=by
 obtain⟨i,hi⟩:=List.getElem?_of_mem m;obtain⟨u,o⟩:=M3.sO (L.take i++L.drop (i+1));obtain⟨hA,K,_⟩:=h.all a m;obtain⟨k,M,j⟩:=Xf hA.tw;have f:k≠0:=λe=>by grind
 have q:=(AA.1 hi);obtain⟨G,A⟩:=q;have y:∀s∈L.take i++L.drop (i+1),DR s.1 a.1:=λs hs=>by
  have e:L=L.take i++a::L.drop (i+1):=by rw[<-A,<-AQ G,AW]
  have hp:=h.cop;rw[e,List.pairwise_append]at hp;rcases Cp.1 hs with hs|hs
  . exact hp.2.2 s hs a Ao
  . exact((List.pairwise_cons.1 hp.2.1).1 s hs).symm
 have r:DR u a.1:=Zk _ a.1 y u o;obtain⟨p,l⟩:=Ml tz z0;generalize cf z (z.length-1)=g at p l;refine⟨DN (g*(k⁻¹)^a.2) u,?_,λx=>?_⟩
 . obtain⟨s,t,e⟩:=r;have p0:g*(k⁻¹)^a.2≠0:=by
    refine λe=>?_;rcases AM.1 e with e|e
    . exact p e
    . have b:(k⁻¹)^a.2*k^a.2=1:=by rw[<-O0,Rat.inv_mul_cancel _ f,OT]
      rw[e,AY]at b;exact absurd b DK
   generalize g*(k⁻¹)^a.2=d at p0;refine⟨DN k⁻¹ t,DN d⁻¹ s,λx=>?_⟩;rw[j,Jo,Jo,Jo,Jo];have b:=e x;have w:=Rat.mul_inv_cancel k f;have I:=Rat.mul_inv_cancel d p0;grind
 . have v:ev z x=ev (Jr z) x*g:=by conv=>lhs;rw[l,Jo]
   rw[v,h.evs,M3.sN (e:=a.1) (t:=a.2) hi x,Jo,o,OS,j,Jo];obtain⟨t,et⟩:∃t,a.2=t+1:=⟨a.2-1,O⟩;rw[et,Nat.add_sub_cancel,O0,Rat.pow_succ,Rat.pow_succ];have w:k^t*k*((k⁻¹)^t*k⁻¹)=1:=by
    have b:(k⁻¹)^t*k^t=1:=by rw[<-O0,Rat.inv_mul_cancel _ f,OT]
    have:=Rat.mul_inv_cancel k f;grind
   grind
end
end
namespace M3
def ue(V:F)(g o:Nat)(x0 x1 x2 x3 y0 y1 y2 y3 p s t:E):Prop:=V.cell? ⟨g,o,none⟩=some x0/\V.cell? ⟨g,o+1,none⟩=some x1/\V.cell? ⟨g,o+2,none⟩=some x2/\V.cell? ⟨g,o+3,none⟩=some x3/\V.cell? ⟨g,o+4,none⟩=some y0/\V.cell? ⟨g,o+5,none⟩=some y1/\V.cell? ⟨g,o+6,none⟩=some y2/\V.cell? ⟨g,o+7,none⟩=some y3/\V.cell? ⟨g,o+8,none⟩=some p/\V.cell? ⟨g,o+9,none⟩=some s/\V.cell? ⟨g,o+10,none⟩=some t
def O1(V:F)(g j:Nat)(x0 x1 x2 x3 y0 y1 y2 y3 p s t:E)(r:RtQ):Prop:=g<V.heap.size/\ue V g (j*11) x0 x1 x2 x3 y0 y1 y2 y3 p s t/\JL V (.agg #[x0,x1,x2,x3,y0,y1,y2,y3,p,s,t]) r
def O1.below{V W:F}{g j:Nat}{x0 x1 x2 x3 y0 y1 y2 y3 p s t:E}{r:RtQ}(h:O1 V g j x0 x1 x2 x3 y0 y1 y2 y3 p s t r)(a:Bl V W):O1 W g j x0 x1 x2 x3 y0 y1 y2 y3 p s t r:=by
 obtain⟨b,⟨c0,c1,c2,c3,c4,c5,d,e,f,l,c⟩,m⟩:=h;have k:∀i,W.cell? ⟨g,i,none⟩=V.cell? ⟨g,i,none⟩:=λi=>a.cell (p:=⟨g,i,none⟩) b;exact⟨An b a.size,⟨(k _).trans c0,(k _).trans c1,(k _).trans c2,(k _).trans c3,(k _).trans c4,(k _).trans c5,(k _).trans d,(k _).trans e,(k _).trans f,(k _).trans l,(k _).trans c⟩,m.below a⟩
def SQ(V:F)(u:E)(rs:List RtQ):Prop:=∃a cap,u=D a rs.length cap/\∀j r,rs[j]?=some r->∃g x0 x1 x2 x3 y0 y1 y2 y3 p s t,a=some ⟨g,0,none⟩/\O1 V g j x0 x1 x2 x3 y0 y1 y2 y3 p s t r
theorem bO{V:F}{base:Nat}{u:E}{cs:List E}{rs:List RtQ}(h:V.ownsRow base 46 11 u rs.length cs)(m:D3 V cs rs):SQ V u rs:=by
 rcases h.2 with⟨e,k⟩|⟨g,cap,cur,e,t,l,v,w,x,z⟩
 . refine⟨none,0,by rw[e,k],λj r f=>?_⟩;grind
 . refine⟨_,cap,e,λj r f=>?_⟩;obtain⟨x0,x1,x2,x3,y0,y1,y2,y3,b,d,c,q,n,o,p⟩:=m.2 j r f;have a:∀i y,i<11->([x0,x1,x2,x3,y0,y1,y2,y3,D b d c,.int .i64 r.sg,.int .i64 (r.tm:Int)]:List E)[i]?=some y->V.cell? ⟨g,j*11+i,none⟩=some y:=λi y hi s=>by
    grind[World.cell?]
   exact⟨g,x0,x1,x2,x3,y0,y1,y2,y3,D b d c,.int .i64 r.sg,.int .i64 (r.tm:Int),rfl,(Ab.1 l).1,⟨a 0 _ O rfl,a 1 _ O rfl,a 2 _ O rfl,a 3 _ O rfl,a 4 _ O rfl,a 5 _ O rfl,a 6 _ O rfl,a 7 _ O rfl,a 8 _ O rfl,a 9 _ O rfl,a 10 _ O rfl⟩,x0,x1,x2,x3,y0,y1,y2,y3,b,d,c,rfl,n,o,p⟩
def uf{W:F}{a:Option Addr}{l c:Nat}{p:List Rat}(h:Je W (.agg #[D a l c]) p):∃V B,W.alloc (.cells #[D a l c] 25)=V/\W.heap.size=B/\Dd V B a l c/\Je V (.agg #[D a l c]) p/\Bl W V:=by
 have hA:Bl W (W.alloc (.cells #[D a l c] 25)):=Ba W _;exact⟨_,_,rfl,rfl,BG W 25 (D a l c),h.below hA,hA⟩
end M3
section
open M3
structure RtAll(C n X:Nat)(z:List Rat)(rs:List RtQ):Prop where
 told:∀r∈rs,∃w t,PwOk C n w/\TdOk C n X w t r
 rise:rs.Pairwise λr s=>EQ r.S s.S
 len:(rs.length:Int)=nA z
 cnt:∀q,Jc q=q->q≠[]->(rs.map λr=>if r.sign q=0 then(1:Int)else 0).sum=nA (Js z q)
 tms:∀r∈rs,r.sign z=0/\1<=r.tm/\r.tm<=25/\(r.sign (Jb z)=0↔1<r.tm)
 deg:∃k:Nat,(rs.map RtQ.tm).sum+2*k=z.length-1
def ug{l m:List Int}(h:l.Perm m):l.sum=m.sum:=by
 induction h with
 |nil=>rfl
 |cons x _ c=>rw[List.sum_cons,List.sum_cons,c]
 |swap x y l=>rw[List.sum_cons,List.sum_cons,List.sum_cons,List.sum_cons];omega
 |trans _ _ a b=>exact a.trans b
section
variable {C n X:Nat} {z:List Rat} {L:List (List Rat × Nat)}
def PsOk.tms(h:PsOk C n z L)(N:NmOk C n X)(tz:Jc z=z)(z0:z≠[]):∀r∈L.flatMap (Xz (kO C n) (Df C)),r.sign z=0/\1<=r.tm/\r.tm<=25/\(r.sign (Jb z)=0↔1<r.tm):=λr j=>by
 obtain⟨a,g,b⟩:=h.told N r j;obtain⟨_,l,m⟩:=h.all a g;obtain⟨c,f,d⟩:=h.split tz z0 g;rw[<-b.ew]at f d;rw[b.et];have i:r.sign z=0/\(r.sign (Jb z)=0↔1<=a.2-1):=by
  by_cases hl:r.lo<r.hi
  . have hi:=b.ok.irr hl;rw[b.ok.signI hl,b.ok.signI hl];obtain⟨u,k⟩:=bM (w:=r.w) b.ok.tw b.ok.w0 (a.2-1);exact⟨hi.dvd ⟨Ji u c,λx=>by rw[d,Jd,k.2.2.1]⟩,hi.times f d tz⟩
  . obtain⟨_,e⟩:=b.ok.rat hl;rw[RtQ.signR hl,RtQ.signR hl,XG,XG];exact⟨by rw[d,e,AY],q8 b.ok.sq e f d tz⟩
 refine⟨i.1,l,m,?_⟩;rw[i.2];omega
def uh{k ka t:Nat}{w:List Rat}(h:PrOk k ((2:Rat)^YB (Yf w) ka 0) w):((Xz k ka (w,t)).map RtQ.tm).sum=t*(Xz k ka (w,t)).length:=by
 have a:=(M3.Oz (t:=t) h).all;generalize Xz k ka (w,t)=l at a;induction l with
 |nil=>rfl
 |cons r l b=>
  rw[List.map_cons,List.sum_cons,b λs hs=>a s (AB _ hs),(a r Ao).2.2,Ah,FL];omega
def PsOk.deg(h:PsOk C n z L)(N:NmOk C n X)(tz:Jc z=z):∃k:Nat,((L.flatMap (Xz (kO C n) (Df C))).map RtQ.tm).sum+2*k=z.length-1:=by
 obtain⟨p,tp,p0,g,lp⟩:=bN L λa c=>⟨(h.all a c).1.tw,(h.all a c).1.w0⟩;have e:Jr z=p:=YG (Yo z) tp λx=>by rw[h.evs,g]
 have s:=XY tz;rw[e,lp]at s;have r:∀L:List (List Rat × Nat),(∀a∈L,PrOk (kO C n) ((2:Rat)^YB (Yf a.1) (Df C) 0) a.1)->∃k:Nat,((L.flatMap (Xz (kO C n) (Df C))).map RtQ.tm).sum+2*k=Lj L (λw=>w.length-1):=by
  intro L;induction L with
  |nil=>intro _;exact⟨0,rfl⟩
  |cons a L q=>
   intro d;obtain⟨k,hk⟩:=q λb m=>d b (AB _ m);have c:=d a Ao;have i:((Xz (kO C n) (Df C) a).map RtQ.tm).sum=a.2*(Xz (kO C n) (Df C) a).length:=uh (t:=a.2) c;have l:((Xz (kO C n) (Df C) a).length:Int)=nA a.1:=M3.bJ (t:=a.2) c;obtain⟨p1,u⟩:=qm c.tw c.w0 c.sq;have v:=Rg c.w0;have w1:=Ae.2 c.w0;unfold nA at l;obtain⟨j,o⟩:∃j,(Xz (kO C n) (Df C) a).length+2*j=a.1.length-1:=⟨(a.1.length-1-(Xz (kO C n) (Df C) a).length)/2,O⟩;refine⟨k+a.2*j,?_⟩;rw[List.flatMap_cons,List.map_append,List.sum_append,i];have f:Lj (a::L) (λw=>w.length-1)=a.2*(a.1.length-1)+Lj L (λw=>w.length-1):=by simp[Lj]
   rw[f,<-hk,<-o,CL,CL]
   have:a.2*(2*j)=2*(a.2*j):=Nat.mul_left_comm _ _ _
   omega
 obtain⟨k,hk⟩:=r L (h.pr N);exact⟨k,O⟩
theorem PsOk.rtAll(h:PsOk C n z L)(N:NmOk C n X)(tz:Jc z=z)(z0:z≠[]){rs:List RtQ}(hp:rs.Perm (L.flatMap (Xz (kO C n) (Df C))))(hs:rs.Pairwise λr s=>¬s.ord r<0):RtAll C n X z rs:=by
 have hk:=M3.SP (h.pr N);refine⟨λr c=>?_,M3.rise_of (λr c=>(hk r c).1) (M3.bI (h.pr N) ?_) hp hs,?_,λq tq q0=>?_,λr c=>h.tms N tz z0 r (hp.mem_iff.1 c),?_⟩
 . obtain⟨a,d,i⟩:=h.told N r (hp.mem_iff.1 c);exact⟨a.1,a.2,(h.all a d).1,i⟩
 . refine List.Pairwise.imp_of_mem (fun {a b} d j l=>?_) h.cop;obtain⟨ka,u,f⟩:=Xf (h.all a d).1.tw;obtain⟨kb,v,g⟩:=Xf (h.all b j).1.tw;obtain⟨s,t,e⟩:=l;refine⟨DN ka⁻¹ s,DN kb⁻¹ t,λx=>?_⟩;rw[f,g,Jo,Jo,Jo,Jo];have m:=e x;have o:=Rat.mul_inv_cancel ka (λe=>by grind);have p:=Rat.mul_inv_cancel kb (λe=>by grind);grind
 . rw[hp.length_eq];exact h.len N tz z0
 . rw[ug (hp.map _)];exact h.cnt N tz z0 tq q0
 . obtain⟨k,hk⟩:=h.deg N tz;exact⟨k,by rw[<-hk,(hp.map RtQ.tm).sum_nat]⟩
end
def LC(C n:Nat)(z:List Rat)(rs:List RtQ):Prop:=∃L,PsOk C n z L/\rs.Perm (L.flatMap (Xz (kO C n) (Df C)))/\rs.Pairwise λr s=>¬s.ord r<0
def LC.all{C n X:Nat}{z:List Rat}{rs:List RtQ}(h:LC C n z rs)(N:NmOk C n X)(tz:Jc z=z)(z0:z≠[]):RtAll C n X z rs:=by
 obtain⟨L,a,b,c⟩:=h;exact a.rtAll N tz z0 b c
namespace M3
def ui{M n X:Nat}(hM:M<=80000)(hn:n<=25)(N:NmOk (M+5) n X)(S:SzOk (M+5) n X (M+5+1) n)(v:E)(z:List Rat)(w:F)(h:Je w v z)(tz:Jc z=z)(z0:z≠[])(T:z.length<=n)(cz:Cd M z):
 H B 12 #[v] w λe w'=>∃u rs,e=.returned u/\SQ w' u rs/\LC (M+5) n z rs/\Bl w w':=by
 obtain⟨L,i,j,l,m,o⟩:=sL hM hn tz z0 T cz;have c:PsOk (M+5) n z L:=⟨i,λa d=>by
  obtain⟨A,C,I,k4,K,P,Q,R⟩:=j a d;exact⟨⟨P,A,C,K,Q,R⟩,I,O⟩,l.imp λh=>h.2,m⟩
 have hk:=SP (c.pr N);have hl:=c.len N tz z0;have hA:=Rg z0;have z1:=Ae.2 z0;refine(bB (kO (M+5) n) (Df (M+5)) v z w h L o (λq t hq=>?_) O (by unfold nA at hl;omega) (λr f=>(hk r f).1) λr f s hs=>?_).mono ?_
 . obtain⟨G,D,k⟩:=(c.all _ hq).1.ro N t;exact⟨_,_,_,_,_,_,_,_,_,k⟩
 . obtain⟨a,d,p⟩:=c.told N r f;obtain⟨b,y,x⟩:=c.told N s hs;exact p.or_ (c.all a d).1 N S x (c.all b y).1
 . rintro e w' ⟨u,cs,rs,rfl,U,V,⟨g,W⟩,o5,_⟩;exact⟨u,rs,rfl,bO (by rw[g.length_eq];exact U) V,⟨L,c,g,W⟩,o5⟩
end M3
end
section
open M3
variable{a b:List Rat}{x:Rat}
def uj{w:List Rat}(tw:Jc w=w)(e:ev w x=0):Dv [-x,1] w:=by
 have h:=(J6 tw (Ky x).1).1;rwa[OX tw x,BF e]at h
theorem uk{a:Rat}(h:a≠0)(n:Nat):a^n≠0:=by
 induction n with
 |zero=>rw[Rat.pow_zero];decide
 |succ n b=>grind
def ST(v:List Rat)(n:Nat):∃c:List Rat,∀y,ev c y=ev v y^n:=by
 induction n with
 |zero=>exact⟨[1],λy=>by rw[Rat.pow_zero,Jm]⟩
 |succ n b=>
  obtain⟨c,a⟩:=b;exact⟨Ji c v,λy=>by rw[Jd,a,Rat.pow_succ]⟩
theorem um(h:∀y,(y-x)*ev a y=(y-x)*ev b y)(y:Rat):ev a y=ev b y:=by
 have e:Ji [-x,1] (JT a b)=[]:=YG (Jq _ _) DK λy=>by
  grind[Jd,Xt,ev]
 have q0:JT a b=[]:=Classical.byContradiction λc=>absurd e (Yt (Ky x).1 (Yz a b) DI c);have:=Xt a b y;rw[q0]at this;simp only[ev]at this;grind
theorem SU{x:Rat}{a b:List Rat}(e:ev a x≠0):∀ {t m:Nat},(∀y,(y-x)^t*ev a y=(y-x)^m*ev b y)->m<=t
 |_,0,_=>As _
 |0,m+1,h=>by
  grind
 |t+1,m+1,h=>by
  obtain⟨c,f⟩:=ST [-x,1] t;obtain⟨d,g⟩:=ST [-x,1] m;have k:=um (x:=x) (a:=Ji c a) (b:=Ji d b) λy=>by
   grind[Jd,Ym]
  have:=SU (t:=t) (m:=m) e λy=>by
   have:=k y;rwa[Jd,Jd,f,g,Ym]at this
  omega
def uq{t m:Nat}(c:ev a x≠0)(d:ev b x≠0)(h:∀y,(y-x)^t*ev a y=(y-x)^m*ev b y):t=m:=
 Fp (SU d λy=>(h y).symm) (SU c h)
theorem ur{w:List Rat}(tw:Jc w=w)(sq:DY w)(e:ev w x=0):∃v:List Rat,ev v x≠0/\∀y,ev w y=(y-x)*ev v y:=by
 obtain⟨v,hv⟩:=uj tw e;refine⟨v,?_,λy=>by rw[hv,Ym]⟩;have ew:w=Ji [-x,1] v:=YG tw (Jq _ _) λy=>by rw[Jd];exact hv y
 have n:=Oc sq e;grind[Yh,Ym]
section
variable {C n X:Nat} {z:List Rat} {rs:List RtQ}
theorem LC.mul(h:LC C n z rs)(N:NmOk C n X)(tz:Jc z=z)(z0:z≠[]){r:RtQ}(k:r∈rs)(hl:¬r.lo<r.hi):∃c:List Rat,ev c r.lo≠0/\∀y,ev z y=(y-r.lo)^r.tm*ev c y:=by
 obtain⟨L,d,i,_⟩:=h;obtain⟨a,f,b⟩:=d.told N r (i.mem_iff.1 k);obtain⟨_,o,_⟩:=d.all a f;obtain⟨c,j,g⟩:=d.split tz z0 f;rw[<-b.ew]at j g;obtain⟨_,e⟩:=b.ok.rat hl;obtain⟨v,p,m⟩:=ur b.ok.tw b.ok.sq e;obtain⟨u,l⟩:=ST v r.tm;refine⟨Ji u c,?_,λy=>?_⟩
 . grind[Jd,uk,Oc]
 . rw[g,Jd,l,m];obtain⟨t,et⟩:∃t,a.2=t+1:=⟨a.2-1,O⟩;rw[b.et,et,Nat.add_sub_cancel,O0,Rat.pow_succ,Rat.pow_succ];grind
end
end
section
open M3
section
variable {r:RtQ} {q:List Rat}
end
section
variable {rs:List RtQ} {q:List Rat} {k:Nat} {r:RtQ}
end
section
variable {z:List Rat} {rs:List RtQ} {i j:Nat} {r s:RtQ}
end
namespace M3
section
variable {z:List Rat} {rs:List RtQ} {r s:RtQ}
end
end M3
end
section
open M3
def FX:List Rat->Rat->Rat
 |[],_=>1
 |a::l,y=>(y-a)*FX l y
def ER(x:Rat):List Rat->Nat
 |[]=>0
 |a::l=>(if a=x then 1 else 0)+ER x l
def us(x:Rat)(l m:List Rat):ER x (l++m)=ER x l+ER x m:=by
 induction l with
 |nil=>simp[ER]
 |cons a l b=>rw[Ay,ER,ER,b];omega
def SV(l m:List Rat)(y:Rat):FX (l++m) y=FX l y*FX m y:=by
 induction l with
 |nil=>rw[Al,FX,Cq]
 |cons a l b=>rw[Ay,FX,FX,b,Rat.mul_assoc]
def SW(x:Rat)(l:List Rat):ER x l<=l.length:=by
 induction l with
 |nil=>exact Aa _
 |cons a l b=>rw[ER,Ah];split<;>omega
theorem ut(x:Rat)(l:List Rat):∃d:List Rat,ev d x≠0/\∀y,FX l y=(y-x)^ER x l*ev d y:=by
 induction l with
 |nil=>exact⟨[1],by rw[Jm];decide,λy=>by rw[FX,ER,Rat.pow_zero,Jm,Rat.mul_one]⟩
 |cons a l f=>
  obtain⟨d,c,e⟩:=f;by_cases b:a=x
  . refine⟨d,c,λy=>?_⟩;rw[FX,ER,BF b,e,Fy,Rat.pow_succ,b];grind
  . refine⟨Ji [-a,1] d,?_,λy=>?_⟩
    . grind[Jd,Ym]
    grind[FX,ER,Jd,Ym]
theorem uu{a:Rat}{l:List Rat}(h:a∈l):FX l a=0:=by
 induction l with
 |nil=>cases h
 |cons b l c=>
  grind[FX]
def uv(l:List Rat):∃d:List Rat,∀y,ev d y=FX l y:=by
 induction l with
 |nil=>exact⟨[1],λy=>by rw[Jm];rfl⟩
 |cons a l c=>
  obtain⟨d,b⟩:=c;exact⟨Ji [-a,1] d,λy=>by rw[Jd,Ym,b,FX]⟩
structure MdA(z all c:List Rat):Prop where
 tz:Jc z=z
 z0:z≠[]
 evs:∀y,ev z y=FX all y*ev c y
 nz:∀x,ev c x≠0
 ln:z.length=all.length+c.length
 c:c=[1]\/(c.length=3/\Jc c=c/\Jr c=c/\nA c=2)
section
variable {C n X:Nat} {z all c:List Rat} {rs:List RtQ} {r:RtQ}
def MdA.tm(h:MdA z all c)(k:LC C n z rs)(N:NmOk C n X)(l:r∈rs)(hl:¬r.lo<r.hi):r.tm=ER r.lo all:=by
 obtain⟨a,f,g⟩:=k.mul N h.tz h.z0 l hl;obtain⟨d,i,j⟩:=ut r.lo all;refine uq (a:=a) (b:=Ji d c) f ?_ λy=>?_
 . rw[Jd];exact λe=>(AM.1 e).elim i (h.nz _)
 . rw[<-g,h.evs,j,Jd,Rat.mul_assoc]
theorem RtQ.Ok.sign_at(h:r.Ok)(a:Rat):r.sign [-a,1]=0↔¬r.lo<r.hi/\r.lo=a:=by
 by_cases hl:r.lo<r.hi
 . rw[h.signI hl];have:=(h.irr hl).sid_ne a;grind[Dj]
 grind[RtQ.signR,XG,Ym]
def Hx(all:List Rat)(r:RtQ):Nat:=if r.lo<r.hi then 0 else ER r.lo all
def sC(all:List Rat)(rs:List RtQ):Nat:=(rs.map (Hx all)).sum
theorem bP(a:Rat)(all:List Rat):∀rs:List RtQ,(∀r∈rs,r.Ok)->(sC (a::all) rs:Int)=(rs.map λr=>if r.sign [-a,1]=0 then(1:Int)else 0).sum+(sC all rs:Int)
 |[],_=>rfl
 |r::rs,h=>by
  have b:=bP a all rs λs hs=>h s (AB _ hs);have hs:=(h r Ao).sign_at a;grind[sC,Hx,ER]
theorem MdA.told(h:MdA z all c)(hA:RtAll C n X z rs):∀l:List Rat,(∀a∈l,a∈all)->sC l rs=l.length
 |[],_=>by
  unfold sC
  have:∀rs:List RtQ,(rs.map (Hx [])).sum=0:=λrs=>by
   induction rs with
   |nil=>rfl
   |cons r rs d=>rw[List.map_cons,List.sum_cons,d];unfold Hx;split<;>rfl
  exact this rs
 |a::l,hl=>by
  have d:=MdA.told h hA l λb i=>hl b (AB _ i);have f:=bP a l rs λr j=>by obtain⟨_,_,_,g⟩:=hA.told r j;exact g.ok
  have e:ev z a=0:=by rw[h.evs,uu (hl a Ao),AY]
  rw[hA.cnt [-a,1] (Ky a).1 DI,OX h.tz,BF e,(ZS a).1]at f;grind
def F4(rs:List RtQ):Nat:=(rs.map λr=>if r.lo<r.hi then 1 else 0).sum
theorem MdA.irr(h:MdA z all c)(m:LC C n z rs)(N:NmOk C n X):F4 rs=c.length-1/\∀r∈rs,r.lo<r.hi->r.tm=1:=by
 have hA:=m.all N h.tz h.z0;obtain⟨k,hk⟩:=hA.deg;have G:=h.told hA all λa p=>p;rw[h.ln]at hk;have x:1<=c.length:=by rcases h.c with e|e;rw[e];simp;omega
 have split:∀l:List RtQ,(∀r∈l,r∈rs)->(l.map RtQ.tm).sum=sC all l+(l.map λr=>if r.lo<r.hi then r.tm else 0).sum:=λl=>by
  induction l with
  |nil=>intro _;rfl
  |cons r l f=>
   intro hl;have:=f λs hs=>hl s (AB _ hs);unfold sC at this ⊢;rw[List.map_cons,List.sum_cons,List.map_cons,List.sum_cons,List.map_cons,List.sum_cons,this];unfold Hx;by_cases i:r.lo<r.hi
   . rw[BF i,BF i];omega
   . rw[BE i,BE i,h.tm m N (hl r Ao) i];omega
 have v:=split rs λr b=>b;have lo:∀l:List RtQ,(∀r∈l,r∈rs)->F4 l<=(l.map λr=>if r.lo<r.hi then r.tm else 0).sum:=λl=>by
  induction l with
  |nil=>intro _;exact Aa _
  |cons r l f=>
   intro hl;have:=f λs hs=>hl s (AB _ hs);have u:=(hA.tms r (hl r Ao)).2.1;grind[F4]
 have one:∀l:List RtQ,(∀r∈l,r∈rs)->F4 l=(l.map λr=>if r.lo<r.hi then r.tm else 0).sum->∀r∈l,r.lo<r.hi->r.tm=1:=λl=>by
  induction l with
  |nil=>intro _ _ r b;cases b
  |cons s l f=>
   intro hl A r b hi;have o:=λq hq=>hl q (AB s hq);have w:=lo l o;have u:=(hA.tms s (hl s Ao)).2.1;grind[F4]
 have l1:=lo rs λr b=>b;have up:c.length-1<=F4 rs:=by
  rcases h.c with e|⟨c3,g,t,c2⟩
  . rw[e];exact As _
  . have c0:c≠[]:=λe=>by rw[e]at c3;simp at c3
    have j:Dv c z:=by
     obtain⟨d,j⟩:=uv all;exact⟨d,λy=>by rw[h.evs,j,AU]⟩
    have hg:Js z c=c:=Dv.eq (JE _ _) g (YF h.tz g) t (J6 h.tz g).2.1 (Ik h.tz g j (Dv.refl c));have hn:=hA.cnt c g c0;rw[hg,c2]at hn;have I:∀l:List RtQ,(∀r∈l,r∈rs)->(l.map λr=>if r.sign c=0 then(1:Int)else 0).sum<=(F4 l:Int):=λl=>by
     induction l with
     |nil=>intro _;exact Int.le_refl _
     |cons r l f=>
      intro hl;have:=f λs hs=>hl s (AB _ hs);unfold F4 at this ⊢;rw[List.map_cons,List.sum_cons,List.map_cons,List.sum_cons];by_cases i:r.lo<r.hi
      . rw[BF i];split<;>omega
      . rw[BE i,BE λe=>h.nz r.lo (XG.1 (by rw[<-RtQ.signR i];exact e))];omega
    grind
 grind
end
end
section
open M3
section
variable {r:RtQ}
theorem RtQ.Ok.hv(h:r.Ok)(hl:r.lo<r.hi):r.hv.Ok/\r.hv.lo<r.hv.hi/\(r.hv.hi-r.hv.lo)*2=r.hi-r.lo/\r.lo<=r.hv.lo/\r.hv.hi<=r.hi/\r.hv.w=r.w/\∀q,r.hv.sign q=r.sign q:=by
 have k:=h.irr hl;obtain⟨s,t,_⟩:=Gh hl;obtain⟨g,j,u⟩:=RtQ.hv_cutP h.sgh hl;have ew:r.hv.w=r.w:=(r.cut_w r.mid).1;have y:=k.nz (Da r.lo r.hi) (Rat.le_of_lt s) (Rat.le_of_lt t);have en:=k.ends;have wd:Da r.lo r.hi*2=r.lo+r.hi:=by unfold Da;grind
 have x:∃c d,r.hv.lo=c/\r.hv.hi=d/\r.lo<=c/\c<d/\d<=r.hi/\(d-c)*2=r.hi-r.lo/\ev r.w c*ev r.w d<0:=by
  unfold E0 at g j;by_cases m:ev r.w (Da r.lo r.hi)=0\/0<ev r.w (Da r.lo r.hi)*ev r.w r.hi
  . rw[BF m]at g j;refine⟨_,_,g,j,Rat.le_refl,s,Rat.le_of_lt t,DH,?_⟩;have hp:=m.resolve_left y;have C:=Rat.mul_pos (show 0 < -(ev r.w r.lo*ev r.w r.hi)by grind) hp;have nb:=k.nz r.hi (Rat.le_of_lt hl) Rat.le_refl;have sq:0<ev r.w r.hi*ev r.w r.hi:=by
     rcases YO nb with i|i
     . have:=Rat.mul_pos (a:=-(ev r.w r.hi)) (b:=-(ev r.w r.hi)) DH DH;grind
     . exact Rat.mul_pos i i
    exact KN sq DH
  . grind
 obtain⟨c,d,e,f,n,o,p,v,w⟩:=x;obtain⟨z,A⟩:=k.sub n o p w;have ok:r.hv.Ok:=⟨by rw[ew];exact h.tw,by rw[ew];exact h.w0,by rw[ew];exact h.sq,u,Or.inr (by rw[ew,e,f];exact z)⟩;have l:r.hv.lo<r.hv.hi:=by rw[e,f];exact o
 refine⟨ok,l,by rw[e,f];exact v,by rw[e];exact n,by rw[f];exact p,ew,λq=>?_⟩;rw[ok.signI l,h.signI hl,ew,e,f,A]
theorem uw(m:Nat):∀(k:Nat) (r:RtQ),r.Ok->r.lo<r.hi->(M3.Xc m k r).Ok/\(M3.Xc m k r).lo<(M3.Xc m k r).hi/\r.lo<=(M3.Xc m k r).lo/\(M3.Xc m k r).hi<=r.hi/\∀q,(M3.Xc m k r).sign q=r.sign q:=by
 intro k;induction k with
 |zero=>intro r h hl;exact⟨h,hl,Rat.le_refl,Rat.le_refl,λ_=>rfl⟩
 |succ k f=>
  intro r h hl;rw[M3.Xc];split
  . grind
  . obtain⟨a,b,_,c,d,_,e⟩:=h.hv hl;grind
end
variable{K:Nat}
theorem ux{w:List Rat}(r:Wh K w)(w0:w≠[]){m:Nat}{M:Int}(v:ev w (Rat.divInt M (10^m))≠0):1<=Yn (ev w (Rat.divInt M (10^m)))*(10^m:Rat)^(w.length-1):=by
 obtain⟨zs,d⟩:=r.ints;have z0:zs≠[]:=λk=>w0 (by rw[d,k];rfl);have a:=Rq (Rat.divInt M (10^m)) zs z0;rw[<-d]at a;have o:zs.length=w.length:=by rw[d,CK]
 rw[o]at a;generalize hX:Rat.divInt M (10^m)=x at *;have d0:(0:Rat)<((x.den:Int):Rat):=by have:=x.den_pos;exact_mod_cast this
 have u:((x.den:Int):Rat)<=(10:Rat)^m:=by
  have b:(x.den:Int)∣10^m:=by
   have t:=MU m;have b:Rat.divInt M (10^m)=Rat.divInt x.num (x.den:Int):=by rw[Cj];exact hX
   rw[Rat.divInt_eq_divInt_iff O (by have:=x.den_nz;omega)]at b;have c:x.den∣(x.num*10^m).natAbs:=by
    have:=Cu.2 (show(x.den:Int)∣x.num*10^m from⟨M,by rw[<-b,Int.mul_comm]⟩);rwa[Az]at this
   rw[Cx]at c;exact Cu.1 (by rw[Az];exact x.reduced.symm.dvd_of_dvd_mul_left c)
  have c:=Int.le_of_dvd (MU m) b;have p:((x.den:Int):Rat)<=((10^m:Int):Rat):=Rat.intCast_le_intCast.2 c;rwa[Rat.intCast_pow]at p
 have s:∀n:Nat,0<((x.den:Int):Rat)^n/\((x.den:Int):Rat)^n<=((10:Rat)^m)^n:=λn=>by
  induction n with
  |zero=>grind
  |succ n j=>
   rw[Rat.pow_succ,Rat.pow_succ];refine⟨Rat.mul_pos j.1 d0,?_⟩;have y:=Rat.mul_le_mul_of_nonneg_right j.2 (Rat.le_of_lt d0);grind[Rat.mul_le_mul_of_nonneg_left,Rat.le_trans]
 obtain⟨p0,p1⟩:=s (w.length-1);obtain⟨g,l⟩:=Rm (ev w x);have q:1<=Yn (ev w x)*((x.den:Int):Rat)^(w.length-1):=by
  have z:hZ x.num (x.den:Int) zs≠0:=λe=>by
   rw[e]at a;grind
  rcases(show hZ x.num (x.den:Int) zs<=-1\/1<=hZ x.num (x.den:Int) zs by omega)with i|i
  . have f:((hZ x.num (x.den:Int) zs:Int):Rat)<=((-1:Int):Rat):=Rat.intCast_le_intCast.2 i;rw[<-a]at f;have:=Rat.mul_le_mul_of_nonneg_right g.1 (Rat.le_of_lt p0);grind
  . have f:((1:Int):Rat)<=((hZ x.num (x.den:Int) zs:Int):Rat):=Rat.intCast_le_intCast.2 i;rw[<-a]at f;have:=Rat.mul_le_mul_of_nonneg_right g.2 (Rat.le_of_lt p0);grind
 exact Rat.le_trans q (Rat.mul_le_mul_of_nonneg_left p1 l)
theorem uy{m:Nat}{H:Rat}(s:0<=H):∀(k:Nat) (r:RtQ),r.Ok->r.lo<r.hi->Wh K r.w->Wi H r.lo->Wi H r.hi->(r.hi-r.lo)*(Es H r.w*(10^m:Rat)^(r.w.length-1))<2^k->M3.dT m (M3.Xc m k r).lo=M3.dT m (M3.Xc m k r).hi:=by
 intro k;induction k with
 |zero=>
  intro r h hl g c d hs;have k:=h.irr hl;rw[M3.Xc];show XS (GY m r.lo) m=XS (GY m r.hi) m;rw[so (Rat.le_of_lt hl) λM e f=>?_];have nz:=k.nz _ (Rat.le_of_lt e) f;have A:=ux g h.w0 nz;generalize Rat.divInt M (10^m)=x at *;have n:Wi H x:=⟨by have:=c.1;grind,by have:=d.2;grind⟩;have l1:=Ro r.w c n (Rat.le_of_lt e);have l2:=Ro r.w n d f;have ln:=Mt s r.w;have w1:=Rat.mul_le_mul_of_nonneg_left (show x-r.lo<=r.hi-r.lo by grind) ln;have w2:=Rat.mul_le_mul_of_nonneg_left (show r.hi-x<=r.hi-r.lo by grind) ln;have en:=k.ends;have bd:Yn (ev r.w x)<=Es H r.w*(r.hi-r.lo):=by
   obtain⟨v,w⟩:=l1;obtain⟨y,z⟩:=l2;have sg:(ev r.w r.lo<0/\0<ev r.w r.hi)\/(0<ev r.w r.lo/\ev r.w r.hi<0):=by
    have u:=k.nz r.lo Rat.le_refl (Rat.le_of_lt hl);have nb:=k.nz r.hi (Rat.le_of_lt hl) Rat.le_refl;rcases YO u with i|i<;>rcases YO nb with j|j
    . have:=Rat.mul_pos (a:=-(ev r.w r.lo)) (b:=-(ev r.w r.hi)) DH DH;grind
    . exact Or.inl ⟨i,j⟩
    . exact Or.inr ⟨i,j⟩
    . have:=Rat.mul_pos i j;grind
   unfold Yn;grind
  have tp:(0:Rat)<=(10^m:Rat)^(r.w.length-1):=Rat.le_of_lt (Rat.pow_pos (Rat.pow_pos DK));have:=Rat.mul_le_mul_of_nonneg_right bd tp;grind
 |succ k t=>
  intro r h hl g c d hs;rw[M3.Xc];split
  . assumption
  . obtain⟨e,f,o,p,q,l,_⟩:=h.hv hl;refine t r.hv e f (by rw[l];exact g) ⟨Rat.le_trans c.1 p,by have:=d.2;grind⟩ ⟨by have:=c.1;grind,Rat.le_trans q d.2⟩ ?_;rw[l];rw[Rat.pow_succ,<-o]at hs;grind
def RtQ.Ok.sign_line{r:RtQ}(h:r.Ok){q:List Rat}{c:Rat}(e:∀x,ev q x=x-c):r.sign q=r.S c:=by
 by_cases hl:r.lo<r.hi
 . rw[h.signI hl,RtQ.SI hl];exact(h.irr hl).ext λx=>by rw[e,Ym]
 . rw[RtQ.signR hl,RtQ.SR hl,e,<-X7];rcases YA (r.lo-c)with⟨i,k⟩|⟨i,k⟩|⟨i,k⟩
   . rw[k,X7];unfold D9;rw[BF DH]
   . rw[k];exact(Kq.2 DH).symm
   . rw[k];exact(KD.2 DH).symm
theorem TdOk.dg{C n X:Nat}{w:List Rat}{t:Nat}{r:RtQ}(h:TdOk C n X w t r)(a:PwOk C n w)(N:NmOk C n X){m:Nat}(M:m<=30):∃k,M3.DgOk (C+1) X k m r/\r.S (Rat.divInt (GY m (M3.Xc m k r).lo) (10^m))≥0/\r.S (Rat.divInt (GY m (M3.Xc m k r).lo+1) (10^m))<0∧-(2^Df C)<=(M3.Xc m k r).lo/\(M3.Xc m k r).lo<=2^Df C:=by
 have rz:=h.rz a N;have hX:=N.hX;by_cases hl:r.lo<r.hi
 . obtain⟨d1,G⟩:=h.dy hl;have ll:r.w.length=w.length:=by rw[h.ew];exact JJ a.tw
   have W:=a.ln;have f:(0:Rat)<=2^Df C:=Rat.le_of_lt (YT _);have o:Wh C r.w:=by rw[h.ew];exact a.wh
   have stop:M3.dT m (M3.Xc m (kO C n) r).lo=M3.dT m (M3.Xc m (kO C n) r).hi:=by
    refine uy (K:=C) f (kO C n) r h.ok hl o ⟨h.bl,by have:=h.bh;grind⟩ ⟨by have:=h.bl;grind,h.bh⟩ ?_;have l1:=M3.Ox (g:=Df C) r.w (M3.Wh.abs o);have T:=Mt f r.w;have U:(10^m:Rat)^(r.w.length-1)<=2^(100*n):=by
     have V:(10:Rat)^m<=2^100:=by
      have L:(10:Nat)^m<=2^100:=Ac (AE O M) DK;have p:(((10:Nat)^m:Nat):Rat)<=(((2:Nat)^100:Nat):Rat):=by exact_mod_cast L
      rw[Rat.natCast_pow,Rat.natCast_pow]at p;exact p
     have l:(0:Rat)<=10^m:=Rat.le_of_lt (Rat.pow_pos DK);have S:∀j:Nat,(0:Rat)<=(10^m:Rat)^j/\(10^m:Rat)^j<=2^(100*j):=λj=>by
      induction j with
      |zero=>grind
      |succ j s=>
       rw[Rat.pow_succ,FL,M3.YJ];refine⟨Rat.mul_nonneg s.1 l,?_⟩;have i1:=Rat.mul_le_mul_of_nonneg_right s.2 l;grind[Rat.mul_le_mul_of_nonneg_left,Rat.le_trans]
     exact Rat.le_trans (S (r.w.length-1)).2 (M3.LB O)
    have v:(0:Rat)<=(10^m:Rat)^(r.w.length-1):=Rat.le_of_lt (Rat.pow_pos (Rat.pow_pos DK));have w1:r.hi-r.lo<=2^(Df C+1):=by
     rw[Rat.pow_succ];have:=h.bl;have:=h.bh;grind
    have y:Es (2^Df C) r.w*(10^m:Rat)^(r.w.length-1)<=2^(64*(C+1)+(Df C+1)*r.w.length)*2^(100*n):=Rat.le_trans (Rat.mul_le_mul_of_nonneg_right l1 v) (Rat.mul_le_mul_of_nonneg_left U (Rat.le_of_lt (YT _)));have z:=Rat.mul_le_mul_of_nonneg_right w1 (Rat.mul_nonneg T v);have A:=Rat.mul_le_mul_of_nonneg_left y (Rat.le_of_lt (YT (Df C+1)));refine Ld (Rat.le_trans z A) ?_;rw[<-M3.YJ,<-M3.YJ];refine M3.Oy ?_;have m1:(Df C+1)*r.w.length<=(Df C+2)*n:=Cw O O;have m2:C+2<=(C+2)*n:=A3 _ (by have:=a.l2;omega);have m3:2*n<=(C+2)*n:=Ad _ O;have m4:(C+2)*(n+n)=(C+2)*n+(C+2)*n:=CL _ _ _;unfold kO eO;omega
   obtain⟨e,b,P,Q,R⟩:=uw m (kO C n) r h.ok hl;have I:GY m (M3.Xc m (kO C n) r).lo=GY m (M3.Xc m (kO C n) r).hi:=sk stop;have u:∀c,r.S c=(M3.Xc m (kO C n) r).S c:=λc=>by
    rw[<-h.ok.sign_line (q:=[-c,1]) λx=>Ym c x,<-e.sign_line (q:=[-c,1]) λx=>Ym c x,R]
   refine⟨kO C n,⟨λi hi=>?_,stop⟩,?_,?_,Rat.le_trans h.bl P,Rat.le_trans (Rat.le_of_lt b) (Rat.le_trans Q h.bh)⟩
   . obtain⟨c1,c2⟩:=Oe i _ r d1 G;have ew:=(Of i r).1;exact⟨⟨by rw[ew];exact rz.wh,c1.smq O,c2.smq O,by rw[ew];exact rz.sz,rz.x2⟩,(Dy.mid c1 c2).smq O⟩
   . rw[u,RtQ.SI b,(e.irr b).low (Om m _)];decide
   . rw[u,RtQ.SI b,I,(e.irr b).high (Rat.le_of_lt (On m _))];decide
 . obtain⟨d,_⟩:=h.ok.rat hl;refine⟨0,⟨λi hi=>?_,by rw[M3.Xc,d]⟩,?_,?_,h.bl,by rw[show M3.Xc m 0 r=r from rfl,d];exact h.bh⟩
   . obtain rfl:i=0:=O
     refine⟨rz,?_⟩;show DQ X (Da r.lo r.hi);rw[<-d,show Da r.lo r.lo=r.lo by unfold Da;grind];exact h.lo
   . rw[RtQ.SR hl,<-X7];grind[Om,M3.Xc,Kq,KD]
   . rw[RtQ.SR hl,<-X7];exact Id.2 (On m r.lo)
end
section
open M3
theorem uz(c x:Rat):ev [0-c,1] x=x-c:=by simp only[ev];grind
end
section
open M3
def F5:RtQ:=⟨-2,-1,eP,-1,1⟩
def F6:RtQ:=⟨1,2,eP,1,1⟩
theorem KT:PwOk 6 3 eP:=⟨EM,DK,DK,⟨[-1/2],[0,1/4],λx=>by
 rw[rm];simp[ev,eP];grind⟩,EM,Z4.mono O⟩
def O2:NmOk 6 3 100000:=⟨DK,DK,DK,DK,DK,DK,DK⟩
def bQ:SzOk 6 3 100000 7 3:=⟨DK,DK,DK,DK,DK⟩
def vA:Kv eP 1=[(eP,1)]:=EM
def vB:(Xz (kO 6 3) (Df 6) (eP,1)).map (λr=>(r.lo,r.hi,r.w,r.sg,r.tm))=[F5,F6].map λr=>(r.lo,r.hi,r.w,r.sg,r.tm):=EM
theorem bR:F5.ord F6=-1:=EM
def O3:dT 3 (Xc 3 20 F5).lo=dT 3 (Xc 3 20 F5).hi/\dT 3 (Xc 3 20 F5).lo=[45,49,46,52,49,53]/\dT 3 (Xc 3 20 F6).lo=dT 3 (Xc 3 20 F6).hi/\dT 3 (Xc 3 20 F6).lo=[49,46,52,49,52]:=EM
def vC:Wh 6 eP:=by
 have h:=KT.wh;rwa[show Jp eP=eP by decide +kernel]at h
def bS{r:RtQ}(d:r.w=eP)(b:Dy 1 0 r.lo)(c:Dy 1 0 r.hi)(hs:dT 3 (Xc 3 20 r).lo=dT 3 (Xc 3 20 r).hi):M3.DgOk 6 10 20 3 r:=⟨λi hi=>by
 obtain⟨d1,a⟩:=Oe i 0 r b c;have ew:=(Of i r).1;rw[d]at ew;exact⟨⟨by rw[ew];exact vC,d1.smq O,a.smq O,by rw[ew];decide,DK⟩,(Dy.mid d1 a).smq O⟩,hs⟩
namespace M3
theorem Lk:[(eP,1)].flatMap (Xz (kO 6 3) (Df 6))=[F5,F6]:=by
 rw[List.flatMap_cons,List.flatMap_nil,CC];refine(List.map_inj_right ?_).1 vB;rintro⟨a,b,c,d,e⟩ ⟨a',f,c',g,i⟩ h;grind
theorem NB:∀r∈[F5,F6],TdOk 6 3 100000 eP 1 r:=λr a=>KT.told O2 1 r (by grind[Lk])
def vE:OrOk F5 F6:=(NB F5 DI).or_ KT O2 bQ (NB F6 DI) KT
theorem vF(v:E)(w:F)(h:Je w v eP):H B 12 #[v] w λe w'=>∃u,e=.returned u/\SQ w' u [F5,F6]/\Bl w w':=by
 obtain⟨N,d,_⟩:=pD KT.tw DK DK (Z4.mono O);have l:N=1:=by
  rcases(show N=0\/N=1\/1<N by omega)with e|e|e
  . subst e;exact absurd d.en EM
  . exact e
  . exact absurd (d.st 1 e).1 EM
 subst l;refine(bB (kO 6 3) (Df 6) v eP w h [(eP,1)] (λV x j=>by rw[<-vA];exact Wt 174 8926 1 x eP V j d) (λq t hq=>?_) DK (by rw[Lk];decide) (λr f=>(NB r (by rw[<-Lk];exact f)).ok) λr f s hs=>(NB r (by rw[<-Lk];exact f)).or_ KT O2 bQ (NB s (by rw[<-Lk];exact hs)) KT).mono ?_
 . obtain⟨rfl,rfl⟩:q=eP/\t=1:=by simpa using hq
   obtain⟨G,D,k⟩:=KT.ro O2 1;exact⟨_,_,_,_,_,_,_,_,_,k⟩
 . rintro e w' ⟨u,cs,rs,rfl,g,m,⟨c,z⟩,n,_⟩;rw[Lk]at g c;have i:rs=[F5,F6]:=by
    obtain⟨a,b,rfl⟩:∃a b,rs=[a,b]:=by
     have hl:=c.length_eq;match rs,hl with
     |[a,b],_=>exact⟨a,b,rfl⟩
    have o:F5≠F6:=λe=>absurd (BU RtQ.lo e) EM;have p:=c.mem_iff (a:=F5);have y:=c.mem_iff (a:=F6);grind[bR]
   subst i;exact⟨u,rfl,bO g m,n⟩
theorem vG(w:F)(aj:Lib.TabIs B w "internal/strconv.uint64pow10" .u64 Lib.pow10Tab):H B 21 #[] w λr w'=>r=.returned (.bool true)/\Bl w w':=by
 have HC:=Z (λ(V:F)=>show H B 42 #[.string ⟨#[120,94,50,45,50]⟩] V λr w'=>∃u,r=.returned (.tuple #[u,.int .i64 0,.int .i64 0])/\Je w' u eP/\Bl V w' from
  (WF ⟨#[120,94,50,45,50]⟩ V).mono (λr w' h=>by
   obtain⟨u,e,p,h1,h2,h3⟩:=h;rw[Ks,show Jk ⟨#[120,94,50,45,50]⟩=[120,94,50,45,50]from rfl,rk]at h2;obtain⟨rfl,rfl,h4⟩:=h2;exact⟨u,h1,h4,h3⟩))
 have HT:=Z aj;clear aj;go_enter Tryz.func21,Tryz.ntmps21
 go_upto_region 2 with(go_at_call 42;refine(HC.o _).mono ?_;clear HC;rintro e w1 ⟨u1,rfl,g1,ah⟩;obtain⟨a1,l1,c1,rfl⟩:=g1.form)
 obtain⟨V1,B1,Q,hB,n1,r1,hA⟩:=uf g1;rw[Q,hB];have Qa:=Bt ah hA;have HR:=Z (vF _ V1 r1);have e0:=n1.cell;clear Q hB g1 ah hA n1 r1;go_upto_region 3 with(go_at_call 12;refine HR.o.mono ?_;clear HR;rintro e w2 ⟨u2,rfl,g2,ai⟩;obtain⟨a9,c9,rfl,ae⟩:=g2)
 obtain⟨g,x0,x1,x2,x3,y0,y1,y2,y3,p1,S,U,rfl,N⟩:=ae 0 F5 rfl;obtain⟨g',z0,z1,z2,z3,v0,v1,v2,v3,R,T,W,eg,A1⟩:=ae 1 F6 rfl;obtain rfl:g=g':=by simpa using eg
 have HQ:=Z (Bt Qa ai);have tab:∀V,Bl w2 V->Lib.TabIs B V "internal/strconv.uint64pow10" .u64 Lib.pow10Tab:=λV Q=>I6 HT.o (Bt HQ.o Q);have H1:=Z (λ(V:F) (h:Bl w2 V)=>show H B 19 #[.agg #[z0,z1,z2,z3,v0,v1,v2,v3,R,T,W],.int .i64 3] V λe w'=>e=.returned (.string ⟨#[49,46,52,49,52]⟩)/\Bl V w' from by
  have:=R9 6 10 20 3 _ F6 3 V (A1.below h).2.2 (bS rfl ⟨1,EM,DK⟩ ⟨2,EM,DK⟩ O3.2.2.1) DK (tab V h);rw[O3.2.2.2]at this;exact this)
 have H2:=Z (λ(V:F) (h:Bl w2 V)=>show H B 19 #[.agg #[x0,x1,x2,x3,y0,y1,y2,y3,p1,S,U],.int .i64 3] V λe w'=>e=.returned (.string ⟨#[45,49,46,52,49,53]⟩)/\Bl V w' from by
  have:=R9 6 10 20 3 _ F5 3 V (N.below h).2.2 (bS rfl ⟨-2,EM,DK⟩ ⟨-1,EM,DK⟩ O3.1) DK (tab V h);rw[O3.2.1]at this;exact this)
 have H3:=Z (λ(V:F) (h:Bl w2 V)=>show H B 24 #[.agg #[x0,x1,x2,x3,y0,y1,y2,y3,p1,S,U],.agg #[z0,z1,z2,z3,v0,v1,v2,v3,R,T,W]] V λe w'=>e=.returned (.int .i64 (-1))/\Bl V w' from by
  obtain⟨⟨K,A,l,X,J,i1,i2,i3⟩,i4,i5⟩:=vE;have:=Z9 K A l X J _ _ F5 F6 V (N.below h).2.2 (A1.below h).2.2 i1 i2 i3 i4 i5;rw[bR]at this;exact this)
 have P:=Z (λ(V:F) (h:Bl w2 V)=>show V.cell? ⟨g,0,none⟩=some x0/\V.cell? ⟨g,1,none⟩=some x1/\V.cell? ⟨g,2,none⟩=some x2/\V.cell? ⟨g,3,none⟩=some x3/\V.cell? ⟨g,4,none⟩=some y0/\V.cell? ⟨g,5,none⟩=some y1/\V.cell? ⟨g,6,none⟩=some y2/\V.cell? ⟨g,7,none⟩=some y3/\V.cell? ⟨g,8,none⟩=some p1/\V.cell? ⟨g,9,none⟩=some S/\V.cell? ⟨g,10,none⟩=some U/\V.cell? ⟨g,11,none⟩=some z0/\V.cell? ⟨g,12,none⟩=some z1/\V.cell? ⟨g,13,none⟩=some z2/\V.cell? ⟨g,14,none⟩=some z3/\V.cell? ⟨g,15,none⟩=some v0/\V.cell? ⟨g,16,none⟩=some v1/\V.cell? ⟨g,17,none⟩=some v2/\V.cell? ⟨g,18,none⟩=some v3/\V.cell? ⟨g,19,none⟩=some R/\V.cell? ⟨g,20,none⟩=some T/\V.cell? ⟨g,21,none⟩=some W from by
  obtain⟨_,⟨a0,a1,a2,a3,a4,a5,a6,a7,a8,a9,am⟩,_⟩:=N.below h;obtain⟨_,⟨b0,b1,b2,b3,b4,b5,b6,b7,b8,b9,b10⟩,_⟩:=A1.below h;grind)
 clear N A1 ae tab Qa ai eg e0;have hq:Bl w2 w2.drew:=(BB _ w2).drew;obtain⟨b,c,t,y,z,C,G,I,L,M,d,f,i,j,k,m,n,o,q,s,v,x⟩:=P.o _ hq;go_region_held3 (λw'=>w'.cell? ⟨g,0,none⟩=some x0/\w'.cell? ⟨g,1,none⟩=some x1/\w'.cell? ⟨g,2,none⟩=some x2/\w'.cell? ⟨g,3,none⟩=some x3/\w'.cell? ⟨g,4,none⟩=some y0/\w'.cell? ⟨g,5,none⟩=some y1/\w'.cell? ⟨g,6,none⟩=some y2/\w'.cell? ⟨g,7,none⟩=some y3/\w'.cell? ⟨g,8,none⟩=some p1/\w'.cell? ⟨g,9,none⟩=some S/\w'.cell? ⟨g,10,none⟩=some U/\w'.cell? ⟨g,11,none⟩=some z0/\w'.cell? ⟨g,12,none⟩=some z1/\w'.cell? ⟨g,13,none⟩=some z2/\w'.cell? ⟨g,14,none⟩=some z3/\w'.cell? ⟨g,15,none⟩=some v0/\w'.cell? ⟨g,16,none⟩=some v1/\w'.cell? ⟨g,17,none⟩=some v2/\w'.cell? ⟨g,18,none⟩=some v3/\w'.cell? ⟨g,19,none⟩=some R/\w'.cell? ⟨g,20,none⟩=some T/\w'.cell? ⟨g,21,none⟩=some W) (first|grind|(go_keep;done))
  (first
   |(go_at_call 19;refine(H1.o _ hq).mono ?_;clear H1;rintro e v5 ⟨rfl,a⟩;replace hq:=Bt hq a;clear a b c t y z C G I L M d f i j k m n o q s v x;obtain⟨b,c,t,y,z,C,G,I,L,M,d,f,i,j,k,m,n,o,q,s,v,x⟩:=P.o _ hq)
   |(go_at_call 19;refine(H2.o _ hq).mono ?_;clear H2;rintro e v6 ⟨rfl,a⟩;replace hq:=Bt hq a;clear a b c t y z C G I L M d f i j k m n o q s v x;obtain⟨b,c,t,y,z,C,G,I,L,M,d,f,i,j,k,m,n,o,q,s,v,x⟩:=P.o _ hq)
   |(go_at_call 24;refine(H3.o _ hq).mono ?_;clear H3;rintro e v7 ⟨rfl,a⟩;replace hq:=Bt hq a;clear a b c t y z C G I L M d f i j k m n o q s v x;obtain⟨b,c,t,y,z,C,G,I,L,M,d,f,i,j,k,m,n,o,q,s,v,x⟩:=P.o _ hq))
 go_wp2_with fail
 go_ret;exact⟨rfl,Bt HQ.o hq⟩
end M3
end
namespace M3
def Dat.krow(qs:List Rat):Dat where
 ty:=41
 has V v:=RowK true V v qs
 noPoly:=false
 below h hb:=RowK.below h hb
 keep h _ hp:=by
  rcases hp with hp|hp
  . cases hp
  . exact hp _ _ h
def NC{w V:F}{bs:List (Option (Nat × Dat))}{ρ:Operand->E}{x y:Operand}{dst:Option Tmp}{ty:TypeId}{ps:String}{af:Array Edge}{gd:Option (Nat × Bool)}{ds:List Dat}{T:F->E->Prop}{a b:Rat}{u1 u2:E}
(M:DJ w V bs)(c:Has V u1 (.rat a))(d:Has V u2 (.rat b))(hT:∀ {o u},DJ w (V.alloc o) bs->T (V.alloc o) u:=by exact λm=>m)(l:ρ x=u1:=by kernel_rfl)(n:ρ y=u2:=by kernel_rfl):
 Wr ρ { dst:=dst,op:=.buildSlice 22 2 #[(0,x),(1,y)],type:=ty,pos:=ps,after:=af,guard:=gd } V ds (.krow [a,b]) T:=by
 obtain⟨r,e,l1,c1,t,g,p,d1,rfl⟩:=Jf.form (show Jf V _ _ from c);obtain⟨s,f,l2,c2,v,i,q,j,rfl⟩:=Jf.form (show Jf V _ _ from d);exact⟨_,D (some ⟨V.heap.size,0,none⟩) 2 2,_,by go_simp,Or.inl rfl,sV c d,λ_ _ _ k=>k.alloc _,hT (M.below (Ba V _))⟩
