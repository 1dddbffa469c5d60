import Derived.Test.YtdmmbgahnkbnaaaGreatDoorT44
import Derived.Test.YtdmmbgahnkbnaaaGreatDoorT46
set_option linter.all false
open Go.Proofs.Tryz renaming prog->B
open Go renaming World->E,Value->H,Calls->F
open Go.Value renaming slice->D,int->G
set_option maxRecDepth 99999
set_option maxHeartbeats 0
namespace Go.Proofs.YtdmmbgahnkbnaaaGreatDoor
open Go.RowKit Go.Shelf
attribute [local go_sem] Oper.semAt_some
namespace M3
open Go.RowKit Go.Shelf Go.Lib Go.Sort
section
variable {w:World} {g n:Nat} {os:Array Obj} {cur:Array Value} {e:TypeId} {fr:Nat × Nat}
def uE(F:Array H)(a:w.heap[g]?=some (.cells cur e fr)):(grow (putRow id (Sort.ahead w n) g 0 F) os).heap[g]?=some (.cells (putCells id 0 F cur) e fr):=by
 have hg:g<w.heap.size:=(Ab.1 a).1;rw[heap_grow_old _ _ (by simpa using hg)];simp[putRow,mapBlock,Sort.ahead,Array.getElem?_modify,a,onCells]
def aY(F:Array H):w.grownBy (grow (putRow id (Sort.ahead w n) g 0 F) os) (some g):=by
 refine⟨J,J,J,DL,λk hk a=>?_⟩;rw[heap_grow_old _ _ (by simpa using hk)]
 have:g≠k:=λe=>a (by rw[e])
 simp[putRow,mapBlock,Sort.ahead,Array.getElem?_modify,this]
def uF(cur F:Array H)(h:F.size<=cur.size):(putCells id 0 F cur).toList.take F.size=F.toList:=by
 apply List.ext_getElem?;intro j;by_cases a:j<F.size
 . rw[Cj a,C3];simp[putCells,a,show j<cur.size by omega]
 . rw[List.getElem?_take_eq_none O,CN si]
end
def aZ{α:Type}(d:Array α)(m:Nat)(h:d.size=m):d.extract 0 m=d:=by subst h;simp
def uG{α:Type}[Inhabited α](enc:α->List H)(hk:∀x,(enc x).length=11)(d:Array α)(j:Nat)(f:j<d.size):((flatK enc 11 d).toList.drop (j*11)).take 11=enc d[j]!:=by
 apply List.ext_getElem?;intro c;by_cases b:c<11
 . rw[Cj b,C5,C3];have e:j*11+c<(flatK enc 11 d).size:=by rw[size_flatK];omega
   have a:=get_flatK enc 11 d (j*11+c) O;rw[show(j*11+c)/11=j by omega,show(j*11+c)%11=c by omega]at a;rw[Array.getElem?_eq_getElem e,AK (by rw[hk];exact b)];rw[getElem!_pos (flatK enc 11 d) (j*11+c) e]at a;rw[a,getElem!_pos (enc d[j]!) c (by rw[hk];exact b)]
 . rw[List.getElem?_take_eq_none O,CN (by rw[hk];omega)]
def uH(base n:Nat)(V:E)(u:H)(cs:List H)(rs:List RtQ)(hn:rs.length=n)(h0:0<n)(ah:V.ownsRow base 46 11 u n cs)(ap:D7 V cs rs)(z:base<=V.heap.size)(an:∀r∈rs,r.Ok)(ay:n<4611686018427387904)
(hO:∀r∈rs,∀s∈rs,∀(W:E) (vr vs:H),JG W vr r->JG W vs s->F B 24 #[vr,vs] W λe w'=>e=.returned (G .i64 (r.ord s))/\RowKit.Below W.heap.size W w'):
 F B 52 #[u,.func (.func 24) #[] #[]] V λe w'=>e=.returned (.tuple #[])/\∃T R,w'.ownsRow base 46 11 u n T/\D7 w' T R/\(R.Perm rs/\R.Pairwise λr s=>¬s.ord r<0)/\∀q w0,q<=base->RowKit.Below q w0 V->RowKit.Below q w0 w':=by
 rcases ah.2 with⟨_,h⟩|⟨g,cap,cur,rfl,hg,A,X,am,ae,aq⟩
 . omega
 haveI:Inhabited (Fin n):=⟨⟨0,h0⟩⟩
 have Qj:g<V.heap.size:=(Ab.1 A).1;obtain⟨f,Q⟩:∃f:Fin n->RtQ,f=λi=>rs[i.1]'(by have:=i.2;omega):=⟨_,rfl⟩;obtain⟨enc,he⟩:∃enc:Fin n->List H,enc=λi=>(cs.drop (i.1*11)).take 11:=⟨_,rfl⟩;have M:∀i,f i∈rs:=λi=>by rw[Q];exact Fi _
 have o:∀i,JG V (.agg (enc i).toArray) (f i):=λi=>by
  rw[he,Q];exact ap.2 i.1 _ (AK _)
 have hk:∀i,(enc i).length=11:=λi=>by have:=(JG.one (o i)).1;simpa using this
 have h1:∀i,∀v∈enc i,v.oneCell'=true:=λi v hv=>(JG.one (o i)).2 v (by simpa using hv);have kp:∀(m:Nat) (os:Array Obj) (l:Array (Fin n)),Kp V (sortWorldK enc 11 V g 0 m l os):=λm os l=>by
  have t:=aY (w:=V) (g:=g) (n:=m) (os:=os) (flatK enc 11 l);exact KeepR.kpo ⟨t.os,t.tape,t.output,t.size,λb z _ K=>t.block b z λe=>by
   have e:b=g:=by simpa using e
   exact K cur (0,0) (by rw[e];exact A)⟩
 obtain⟨d,P⟩:∃d:Array (Fin n),d=Array.ofFn (λi:Fin n=>i):=⟨_,rfl⟩;have I:d.size=n:=by rw[P];simp
 have Qk:∀j (a:j<n),d[j]! = ⟨j,a⟩:=λj a=>by
  rw[getElem!_pos d j O];subst P;simp
 have hH:HoldsK enc 11 V g 0 d:=λj a=>by
  rw[size_flatK,I]at a;have C:j/11<n:=O
  have S:j<cs.length:=by rw[ah.1];omega
  rw[get_flatK enc 11 d j O,Qk _ C];have e1:(enc ⟨j/11,C⟩)[j%11]! = cs[j]:=by
   rw[getElem!_pos (enc ⟨j/11,C⟩) (j%11) (by rw[hk];exact Co _ O)];have e2:(enc ⟨j/11,C⟩)[j%11]?=some cs[j]:=by
    rw[he];show((cs.drop (j/11*11)).take 11)[j%11]?=_;rw[Cj (Co _ O),C5,show j/11*11+j%11=j by omega,AK S]
   exact(Aq.1 e2).2
  rw[e1];have U:(cur.toList.take (n*11))[j]?=some cs[j]:=by rw[aq,AK S]
  rw[Cj a]at U;refine⟨?_,by simp[World.frozen?,A]⟩;rw[AW];simp only[World.cell?,A];simpa using U
 have Qh:CmpLays B 24 #[] enc 11 (λi j=>(f i).ord (f j)) g 0 d.size V:=λm os l _ x y=>by
  refine(uD (hO _ (M x) _ (M y) (sortWorldK enc 11 V g 0 m l os) _ _ ((kp m os l).root (o x)) ((kp m os l).root (o y))) λw' h=>by cases h.1).mono ?_;rintro e w' ⟨⟨rfl,z⟩,ai⟩;exact⟨rfl,grown_of z ai⟩
 have eg:∀args w,(callFunc 24 args).run B w=.ok (.enter 24 args) w:=Bk Tryz.func24 (by kernel_rfl) rfl;have N:=AnyQ.slices_SortFunc Tryz.sortRt 11 (λw=>by kernel_rfl) (λw=>by kernel_rfl) enc hk h1 (λi j=>(f i).ord (f j)) (tI f λi=>an _ (M i)) 24 #[] g 0 cap d V eg Qh hH Qj O;rw[I]at N;change F B 52 _ _ _ at N
 refine N.mono ?_;rintro e w' ⟨rfl,c,m,os,hp,hs,rfl⟩;have p:c.size=n:=hp.1.trans I;refine⟨rfl,(flatK enc 11 c).toList,c.toList.map f,⟨by simp[p],Or.inr ⟨g,cap,_,rfl,hg,uE _ A,X,am,by simp[putCells,ae],?_⟩⟩,⟨DL,λj r e=>?_⟩,⟨?_,?_⟩,λq w0 hq hw=>?_⟩
 . have h:=uF cur (flatK enc 11 c) (by rw[size_flatK,p,ae];exact Ae _ X);rw[size_flatK,p]at h;exact h
 . rw[Fq]at e;obtain⟨x,L,rfl⟩:=CY.1 e;rw[C3]at L;obtain⟨a,L⟩:=Ab.1 L;rw[uG enc hk c j a,getElem!_pos c j a,L];exact(kp m os c).root (o x)
 . have h:=hp.2.2;rw[aZ c n p,aZ d n I]at h;have K:=h.map f;have e:d.toList.map f=rs:=by
    subst P;refine List.ext_getElem (by simp[hn]) λi i1 i2=>?_;simp[Q]
   rw[e]at K;exact K
 . rw[List.pairwise_map,List.pairwise_iff_getElem];intro i j hi a aj;have h:=hs i j (As _) aj (by rw[<-p];simpa using a);rw[getElem!_pos c i (by simpa using hi),getElem!_pos c j (by simpa using a)]at h;unfold ltOf at h;simpa using h
 . exact hw.grown (aY _) (Ad hq z) λk hk=>by
    have e:g=k:=by simpa using hk
    omega
end M3
namespace M3
open Go.RowKit Go.Shelf Go.Lib
def uI(p:Option Addr)(cap:Nat)(a:H)(w:E):
 F B 200 #[D p 0 cap,G .i64 0,G .i64 0,a] w λe w'=>e=.returned (.tuple #[])/\w'=w:=by
 go_enter Tryz.func200,Tryz.ntmps200
 go_wp2;refine wp_loop_rounds 1 ?_;rw[rounds_succ];go_wp2;go_end0;exact⟨rfl,rfl⟩
def uJ(p:Option Addr)(cap:Nat)(b:Int)(a:H)(w:E):
 F B 123 #[D p 0 cap,G .i64 0,G .i64 0,G .i64 b,a] w λe w'=>e=.returned (.tuple #[])/\w'=w:=by
 have hi:=λW=>uI p cap a W;go_enter Tryz.func123,Tryz.ntmps123
 go_wp2;refine wp_loop_rounds 1 ?_;rw[rounds_succ];go_wp2_with(go_at_call 200;refine(hi _).mono ?_;rintro e w' ⟨rfl,rfl⟩)
 (try simp only[Exit.inBlock,Exit.then]);refine BA (results_none rfl _ _ _) rfl ?_
 exact⟨rfl,rfl⟩
def uK(p:Option Addr)(cap:Nat)(a:H)(w:E):
 F B 52 #[D p 0 cap,a] w λe w'=>e=.returned (.tuple #[])/\w'=w:=by
 have hp:=λb W=>uJ p cap b a W;have L:=Tryz.sortRt;have hl:∀W,F B 124 #[G .u64 0] W λe w'=>e=.returned (G .i64 (Lib.bitLen 0:Nat))/\w'=W:=λW=>by
  have h:=Any.bits_Len (SlLaysF0.n15.bits (P:=B) (ρ:=Tryz.sortRt_ren) { L with }) 0 W O O;exact h
 clear L;go_enter Tryz.func52,Tryz.ntmps52
 go_wp2_with(first|(go_at_call 124;refine(hl _).mono ?_;rintro e w' ⟨rfl,rfl⟩)|(go_at_call 123;refine(hp _ _).mono ?_;rintro e w' ⟨rfl,rfl⟩))
 go_end0;exact⟨rfl,rfl⟩
end M3
namespace M3
structure OrOk(r s:RtQ):Prop where
 ex:∃K A l X J',RzOk J' X r/\RzOk J' X s/\SnOk K A l X r s.w
 sg:-1<=s.sg/\s.sg<=1
 sn:-1000000<=r.sign s.w/\r.sign s.w<=1000000
def Xv(k ka:Nat)(a:List Rat × Nat):List RtQ:=(Do a.1 k (-((2:Rat)^Yz (Yh a.1) ka 0)) ((2:Rat)^Yz (Yh a.1) ka 0)).map (KJ k a.2 ((YQ a.1 (Jb a.1)).getD 0 []))
def SJ(k ka:Nat)(v:H)(p:List Rat)(w:E)(h:Jd w v p)(L:List (List Rat × Nat))(R:∀(V:E) (x:H),Jd V x p->F B 50 #[x] V λe w'=>∃u,e=.returned u/\EK true V.heap.size w' u L/\Bl V w')
(T:∀q t,(q,t)∈L->∃K A l X KK hh J' i f,RoOk K A l X KK k hh J' ka i f q t)
(hl:L.length<=1000000)(hF:(L.flatMap (Xv k ka)).length<=1000000)
(P:∀r∈L.flatMap (Xv k ka),r.Ok)(N:∀r∈L.flatMap (Xv k ka),∀s∈L.flatMap (Xv k ka),OrOk r s):
 F B 12 #[v] w λe w'=>∃u cs b,e=.returned u/\w'.ownsRow w.heap.size 46 11 u (L.flatMap (Xv k ka)).length cs/\D7 w' cs b/\(b.Perm (L.flatMap (Xv k ka))/\b.Pairwise λr s=>¬s.ord r<0)/\Bl w w'/\(L=[]->u=D none 0 0):=by
 refine tH v p w h L R (Xv k ka) (λb=>b.Perm (L.flatMap (Xv k ka))/\b.Pairwise λr s=>¬s.ord r<0) (λq t hq V pa pl pc hp=>?_) hl hF λbase V u cs m y Q=>?_
 . obtain⟨K,A,l,X,KK,hh,J',i,f,h⟩:=T q t hq;refine(tD K A l X KK k hh J' ka t i f pa pl pc q V hp h).mono ?_;rintro e w' ⟨v,n,cs,d,j,C,I,M⟩;exact⟨v,n,cs,d,j,C,by rw[I,Xv,Cy],M⟩
 . by_cases o:((L).flatMap (Xv k ka)).length=0
   . have z:(L).flatMap (Xv k ka)=[]:=Al.1 o;have eu:∃a c,u=D a 0 c:=by
      rcases m.2 with⟨e,_⟩|⟨g,cap,cur,e,_⟩
      . exact⟨_,_,e⟩
      . rw[o]at e;exact⟨_,_,e⟩
     obtain⟨a,c,rfl⟩:=eu;refine(uK a c _ V).mono ?_;rintro e w' ⟨d,rfl⟩;refine⟨d,cs,_,m,y,⟨List.Perm.refl _,?_⟩,λq w0 _ U=>U⟩;rw[z];exact List.Pairwise.nil
   . exact uH base _ V u cs _ rfl O m y Q P O (λr S s hs W vr vs d j=>by
      obtain⟨⟨K,A,l,X,J',i1,i2,i3⟩,i4,i5⟩:=N r S s hs;exact R7 K A l X J' vr vs r s W d j i1 i2 i3 i4 i5)
theorem SK(i:Nat):(1:Rat)<=2^i:=by
 induction i with
 |zero=>rw[Rat.pow_zero];exact Rat.le_refl
 |succ i a=>rw[Rat.pow_succ];grind
def ag{B:Rat}:∀(n i:Nat),B<=2^(i+n)->(¬(2:Rat)^Yz B n i<B)/\i<=Yz B n i/\Yz B n i<=i+n:=by
 intro n;induction n with
 |zero=>
  intro i h;rw[A8]at h;rw[Yz];exact⟨DK,O,O⟩
 |succ n d=>
  intro i h;rw[Yz];by_cases hl:(2:Rat)^i<B
  . rw[BF hl];obtain⟨a,b,c⟩:=d (i+1) (by rw[show i+1+n=i+(n+1)by omega];exact h);exact⟨a,O,O⟩
  . rw[BE hl];exact⟨hl,O,O⟩
theorem Oi{k:Nat}{x:Rat}(h:DV k x):x<=2^(64*k):=by
 have p0:=Xj (64*k);rcases JX x 0 with a|a
 . grind
 . have g:(1:Rat)<=(x.den:Rat):=by exact_mod_cast x.den_pos
   have e:=Ho x;have c:x<=(x.num:Rat):=by
    have:=Rat.mul_le_mul_of_nonneg_left g a;rw[Rat.mul_one,e]at this;exact this
   have d:x.num<=((2^(64*k):Nat):Int):=by
    have f:x.num.natAbs<Y^k:=h.1;rw[show Y=2^64 by decide,<-Fg]at f;omega
   have b:(x.num:Rat)<=(((2^(64*k):Nat):Int):Rat):=by exact_mod_cast d
   rw[AH,Rat.natCast_pow]at b;exact Rat.le_trans c b
section
variable {p:List Rat} {M:Nat}
def uL(tp:Jc p=p)(p0:p≠[])(a:Cd M p)(i:Nat):DV (M+M) (cf p i/cf p (p.length-1)):=(a.smq i).div2 (a.smq _) (Ju tp p0)
def uM(tp:Jc p=p)(p0:p≠[])(b:Cd M p)(n:Nat):DV (M+M) (EH p n):=by
 have hM:=b.pos;induction n with
 |zero=>exact DV.zero _ O
 |succ n c=>
  have a:=(uL tp p0 b n).abs;rw[EH];unfold Im;split
  . first|exact a|exact c
  . first|exact c|exact a
def bA(tp:Jc p=p)(p0:p≠[])(a:Cd M p):DV (M+M+2) (Yh p):=by
 unfold Yh;exact((uM tp p0 a _).add2 (show DV 1 1 from⟨Sm.one 1 O,Sm.one 1 O⟩)).mono O
def uN(tp:Jc p=p)(p0:p≠[])(a:Cd M p){X:Nat}(hM:M<=100000000)(hX:M+M+3<=X)(hX2:X+X+2<=1000000000):ArOk X (64*(M+M+2)) p:=by
 have b:=bA tp p0 a;have hs:=ag (B:=Yh p) (64*(M+M+2)) 0 (by rw[AW];exact Oi b);exact⟨tp,p0,a.sqs O,a.monS tp O,Sq.of b O,λi hi=>(Dy.two (H:=64*(M+M+2)) hi).smq O,hX2,hs.1⟩
end
end M3
namespace M3
variable{KK hh:Nat}
def bB{w:List Rat}:∀(k j:Nat) (a b:Rat),Dy hh j a->Dy hh j b->∀s∈Do w k a b,Dy hh (j+k) s.1/\Dy hh (j+k) s.2:=by
 intro k;induction k with
 |zero=>
  intro j a b c d s hs;rw[Do]at hs;split at hs
  . cases hs
  . rw[List.mem_singleton]at hs;subst hs;exact⟨c,d⟩
 |succ k f=>
  intro j a b c d s hs;rw[Do]at hs;split at hs
  . cases hs
  . split at hs
    . rw[List.mem_singleton]at hs;subst hs;exact⟨c.le O,d.le O⟩
    . have e:=Dy.mid c d;rw[show j+(k+1)=j+1+k by omega];rcases CK.1 hs with h|h
      . exact f (j+1) a _ c.up e s h
      . exact f (j+1) _ b e d.up s h
def uO{X k J' t:Nat}{w:List Rat}{a b:Rat}(h:SetOk k w a b)(e:Wh KK w)(l2:2<=w.length)(f:Dy hh J' a)(g:Dy hh J' b)(hX:hh+(J'+k+1)<64*X)(j:Sm X (YL w))(sz:KK+w.length*(X+X+2)+X+X+KK<=1000000000)(hX2:X+X+2<=1000000000):SlOk KK X k ⟨a,b,w,DY (ev w b),t⟩:=by
 have hl:=Zm e;have hs:=(Rp t h).2;refine⟨h.spn.tw,h.spn.w0,hl,?_,l2,j,λi hi=>?_,?_,sz⟩
 . have hp:=h.pos;rw[hl]at hp;show 0<YL w;exact_mod_cast hp
 . obtain⟨d1,d⟩:=Rn i J' ⟨a,b,w,DY (ev w b),t⟩ f g;have ew:=(Ro i ⟨a,b,w,DY (ev w b),t⟩).1;have hle:w.length*(X+2)<=w.length*(X+X+2):=Ai _ O;exact⟨⟨by rw[ew];exact e,d1.smq O,d.smq O,by rw[ew];show KK+w.length*(X+2)+X+KK<=1000000000;omega,hX2⟩,(Dy.mid d1 d).smq O⟩
 . rintro(c|c)
   . exact absurd (Int.lt_of_lt_of_le c hs.one) (Int.lt_irrefl _)
   . exact hs.low c
theorem uP{K A l X k ka t:Nat}{p:List Rat}(hp:PrOk k ((2:Rat)^Yz (Yh p) ka 0) p)(a:ArOk X ka p)(o:∀i,Sq (GD p i))(j:ChOk K p (Jb p))(n:RowOk A l (YQ p (Jb p)))(hk:Yz (Yh p) ka 0<=hh)
(q:Wh KK (Jp p))(l2:2<=p.length)(g:Sm X (YL (Jp p)))(hX:hh+(k+k+1)<64*X)(m:cw p (-((2:Rat)^Yz (Yh p) ka 0))-cw p ((2:Rat)^Yz (Yh p) ka 0)<=1000000)
(sz:A+l*(X+2)+X+A<=10000000000)(sz2:KK+p.length*(X+X+2)+X+X+KK<=1000000000):∃G D,RoOk K A l X KK k hh (k+k+1) ka G D p t:=by
 obtain⟨G,D,hA,u,hD,f,d,r⟩:=hp.end_;have ll:(Jp p).length=p.length:=JJ hp.tw;refine⟨G,D,a.sp,o,j,n,sz,hX,a.x2,a,O,hk,tE hp.tw hp.w0 hp.sq,hA,Rat.le_of_lt f,?_,m,λs hs=>?_⟩
 . have e:∀x:Rat,x - -x=x+x:=λx=>by grind
   rw[e];exact d
 . rw[aI];have c:Dy hh 0 ((2:Rat)^Yz (Yh p) ka 0):=Dy.two hk;obtain⟨d1,b⟩:=bB k 0 _ _ c.neg c s hs;rw[AW]at d1 b;exact uO (hp.span hs).2.2.2 q O d1 b O g (by rw[ll];exact sz2) a.x2
end M3
def uQ{w:List Rat}{H D c:Rat}(tw:Jc w=w)(w0:w≠[])(f:c≠0):Et (DQ c w) H D↔Et w H D:=by
 have g:∀x z:Rat,x<=z->(cw (DQ c w) z+2<=cw (DQ c w) x↔cw w z+2<=cw w x):=λx z a=>by
  have i:=OU (JK c w) (Hn f tw w0) tw w0 (Rb f tw) a;unfold cw;omega
 exact⟨λh x z b d a e=>h x z b d a ((g x z a).2 e),λh x z b d a e=>h x z b d a ((g x z a).1 e)⟩
theorem uR{w:List Rat}{H D:Rat}(tw:Jc w=w)(w0:w≠[]):Et (Jp w) H D↔Et w H D:=by
 obtain⟨c,c0,a⟩:=Xa tw;rw[a];exact uQ tw w0 (λe=>by grind)
def uT{w:List Rat}{H D:Rat}(w0:w≠[])(hl:w.length<=2):Et w H D:=λx z _ _ _ e=>by
 have a:cw w x<=(JF (Jq w) x).length-1:=OT _;have b:=RZ w0;unfold JF at a;rw[Cy]at a;omega
def uU{w:List Rat}(w0:w≠[])(x:Rat):cw w x<=w.length:=by
 have a:cw w x<=(JF (Jq w) x).length-1:=OT _;have b:=RZ w0;unfold JF at a;rw[Cy]at a;omega
namespace M3
variable{K a b ka:Nat}
def Xw(a b:Nat):(2:Rat)^(a+b)=2^a*2^b:=by
 induction b with
 |zero=>rw[A8,Rat.pow_zero,Rat.mul_one]
 |succ b c=>rw[<-Nat.add_assoc,Rat.pow_succ,c,Rat.pow_succ,Rat.mul_assoc]
theorem Oj{K g:Nat}:∀p:List Rat,(∀c∈p,Yt c<=2^K)->GX (2^g) p<=2^(K+(g+1)*p.length)
 |[],_=>Rat.le_of_lt (Xj _)
 |c::p,h=>by
  have a:=Oj (g:=g) p λx b=>h x (AR _ b);have d:=h c AF;have e:=Rat.mul_le_mul_of_nonneg_left a (Rat.le_of_lt (Xj g));rw[GX,Ah,show K+(g+1)*(p.length+1)=g+(K+(g+1)*p.length)+1 by rw[C1];omega,Rat.pow_succ,Xw g];have f:(2:Rat)^K<=2^g*2^(K+(g+1)*p.length):=by
   rw[<-Xw,show g+(K+(g+1)*p.length)=K+(g+(g+1)*p.length)by omega,Xw];have:=Rat.mul_le_mul_of_nonneg_left (SK (g+(g+1)*p.length)) (Rat.le_of_lt (Xj K));rw[Rat.mul_one]at this;exact this
  grind
theorem SL{K g:Nat}:∀p:List Rat,(∀c∈p,Yt c<=2^K)->Fqq (2^g) p<=2^(K+(g+1)*p.length)
 |[],_=>Rat.le_of_lt (Xj _)
 |c::p,h=>by
  have a:∀x∈p,Yt x<=2^K:=λx d=>h x (AR _ d);have b:=SL (g:=g) p a;have e:=Oj (g:=g) p a;have f:=Rat.mul_le_mul_of_nonneg_left b (Rat.le_of_lt (Xj g));rw[Fqq,Ah,show K+(g+1)*(p.length+1)=g+(K+(g+1)*p.length)+1 by rw[C1];omega,Rat.pow_succ,Xw g];have i:(2:Rat)^(K+(g+1)*p.length)<=2^g*2^(K+(g+1)*p.length):=by
   have:=Rat.mul_le_mul_of_nonneg_right (SK g) (Rat.le_of_lt (Xj (K+(g+1)*p.length)));rw[Cs]at this;exact this
  grind
def Wh.abs{K:Nat}{p:List Rat}(h:Wh K p):∀c∈p,Yt c<=2^(64*(K+1)):=by
 obtain⟨zs,e,d⟩:=Wh.zs h;intro c a;rw[e]at a;obtain⟨z,b,rfl⟩:=Fd.1 a;refine Oi (DV.abs ?_);have hk:=(d z b).mono (show K<=K+1 by omega);exact⟨by rw[Fb];exact hk,by rw[FK];exact Sm.one _ O⟩
def Le(h:a<=b):(2:Rat)^a<=2^b:=by
 obtain⟨c,rfl⟩:∃c,b=a+c:=⟨b-a,O⟩;rw[Xw];have:=Rat.mul_le_mul_of_nonneg_left (SK c) (Rat.le_of_lt (Xj a));rw[Rat.mul_one]at this;exact this
def bC{x y:Rat}{E:Nat}(c:0<=x)(a:x<=2^E)(b:y<=2^E):x*y<=2^(E+E):=by
 rw[Xw];have d:=Rat.mul_le_mul_of_nonneg_left b c;have e:=Rat.mul_le_mul_of_nonneg_right a (Rat.le_of_lt (Xj E));exact Rat.le_trans d e
theorem uV{g E:Nat}{w:List Rat}(tw:Jc w=w)(sw:Df w)(c:Wh K w)(hs:Wh K (Jb w))(hl:3<=w.length)(k:w.length<=100)(hE:64*((K+1)*(w.length+w.length)+1)+(g+1)*w.length<=E):∃D,Et w (2^g) D/\0<=D/\D<=2^(E+E+1):=by
 have w0:w≠[]:=λe=>by rw[e]at hl;simp at hl
 have l1:=YY w0;have a:(0:Rat)<=2^g:=Rat.le_of_lt (Xj g);obtain⟨u,v,l,hv,m,n,hA⟩:=qM tw sw c hs hl k a;have o:(K+1)*(w.length+(Jb w).length)<=(K+1)*(w.length+w.length):=Ai _ O;have p:(g+1)*u.length<=(g+1)*w.length:=Ai _ m;have q:(g+1)*v.length<=(g+1)*w.length:=Ai _ n;have r:(g+1)*(Jb w).length<=(g+1)*w.length:=Ai _ O;have s:K+1<=(K+1)*(w.length+w.length)+1:=by
  have:=Ai (K+1) (show 1<=w.length+w.length by omega);omega
 have d:=Rat.le_trans (Oj (g:=g) u (Wh.abs l)) (Le (b:=E) O);have f:=Rat.le_trans (Oj (g:=g) v (Wh.abs hv)) (Le (b:=E) O);have i:=Rat.le_trans (SL (g:=g) w (Wh.abs c)) (Le (b:=E) O);have j:=Rat.le_trans (SL (g:=g) (Jb w) (Wh.abs hs)) (Le (b:=E) O);have c1:=bC (Ml a u) d i;have c2:=bC (Ml a v) f j;have t:=Rat.mul_nonneg (Ml a u) (Rg a w);have x:=Rat.mul_nonneg (Ml a v) (Rg a (Jb w));refine⟨_,hA,DK,?_⟩;rw[Rat.pow_succ];grind
theorem SM(h:a<b):(2:Rat)^a<2^b:=by
 have c:=Le (show a+1<=b from h);have d:=Xj a;rw[Rat.pow_succ]at c;grind
def Wh.le{p:List Rat}(h:Wh K p)(i:Nat):cf p i<=2^(64*(K+1)):=by
 obtain⟨z,a,b⟩:=h i;rw[b];exact Oi ⟨by rw[Fb];exact a.mono O,by rw[FK];exact Sm.one _ O⟩
theorem uW{h k E:Nat}{w:List Rat}(tw:Jc w=w)(w0:w≠[])(sq:Df w)(b:Wh K (Jp w))(hs:Wh K (Jb (Jp w)))(pos:0<cf w (w.length-1))(hl:w.length<=100)(bnd:Yh w<=2^h)(hE:64*((K+1)*(w.length+w.length)+1)+(h+2)*w.length<=E)(hk:E+E+h+2<k):PrOk k (2^h) w:=by
 have ll:(Jp w).length=w.length:=JJ tw;obtain⟨c,c0,g⟩:=Xa tw;have sl:Df (Jp w):=by rw[g];exact sq.scl (λe=>by grind)
 have i:Jp w≠[]:=λe=>w0 (Al.1 (by rw[<-ll,e];rfl));have w1:0<w.length:=Ac.2 w0;have hD:∃D,Et (Jp w) (2^(h+1)) D/\0<=D/\D<=2^(E+E+1):=by
  by_cases j:3<=w.length
  . exact uV (J5 w) sl b hs O O (by rw[ll];exact hE)
  . exact⟨0,uT i O,Rat.le_refl,Rat.le_of_lt (Xj _)⟩
 obtain⟨D,hA,d0,f⟩:=hD;have d:(2:Rat)^h+2^h=2^(h+1):=by rw[Rat.pow_succ];grind
 have l:K+1<=(K+1)*(w.length+w.length):=by
  have:=Ai (K+1) (show 1<=w.length+w.length by omega);omega
 refine⟨tw,w0,sq,⟨K,b⟩,pos,bnd,2^(h+1),D,(uR tw w0).1 hA,hA,d0,SM O,?_,?_⟩
 . rw[d];have a:=Rat.mul_le_mul_of_nonneg_right f (Rat.le_of_lt (Xj (h+1)));rw[<-Xw]at a;exact Mp a (SM O)
 . rw[d];have a:=Rat.mul_le_mul_of_nonneg_right (Wh.le b ((Jp w).length-1)) (Rat.le_of_lt (Xj (h+1)));rw[<-Xw]at a;exact Mp a (SM O)
def bE(k ka:Nat)(w:List Rat)(t:Nat):Xv k ka (w,t)=Mq k ((2:Rat)^Yz (Yh w) ka 0) w t:=by
 unfold Xv Mq;rw[aI];rfl
def Ol{k t:Nat}{w:List Rat}(h:PrOk k ((2:Rat)^Yz (Yh w) ka 0) w):RtsP (Jp w) t (Xv k ka (w,t)):=by
 rw[bE];exact h.rts t
def SN{k:Nat}{L:List (List Rat × Nat)}(h:∀a∈L,PrOk k ((2:Rat)^Yz (Yh a.1) ka 0) a.1):∀r∈L.flatMap (Xv k ka),r.Ok/\∃a∈L,r.w=Jp a.1/\r.tm=a.2:=λr b=>by
 obtain⟨a,d,b⟩:=List.mem_flatMap.1 b;have c:=(Ol (t:=a.2) (h a d)).all r b;exact⟨c.1,a,d,c.2⟩
def bF{k ka:Nat}{q:List Rat}(tq:Jc q=q):∀ {L:List (List Rat × Nat)},(∀a∈L,PrOk k ((2:Rat)^Yz (Yh a.1) ka 0) a.1)->((L.flatMap (Xv k ka)).map λr=>if r.sign q=0 then(1:Int)else 0).sum=(L.map λa=>(nA (Jr (Jp a.1) q):Int)).sum
 |[],_=>rfl
 |a::L,h=>by
  have c:=(Ol (t:=a.2) (h a AF)).cnt q tq;have d:=bF tq (L:=L) λb e=>h b (AR _ e);rw[List.flatMap_cons,List.map_append,List.sum_append,List.map_cons,List.sum_cons,d,c]
end M3
theorem uX{u v:List Rat}(h:DT u v){x:Rat}(c:ev u x=0)(d:ev v x=0):False:=by
 obtain⟨a,b,e⟩:=h;have:=e x;rw[c,d]at this;grind
def RtQ.Ok.differ{r s:RtQ}(d:r.Ok)(hs:s.Ok)(f:DT r.w s.w):¬ ∀x,r.S x=s.S x:=λe=>by
 by_cases b:r.lo<r.hi
 . by_cases a:s.lo<s.hi
   . refine(d.irr b).differ (hs.irr a) f λx=>?_;have:=e x;rwa[RtQ.SI b,RtQ.SI a]at this
   . have:=e s.lo;rw[RtQ.SI b,RtQ.SR a]at this;have c:D4 s.lo s.lo=0:=by rw[<-G9];exact N0.2 J
     rw[c]at this;rcases(d.irr b).sid_ne s.lo with h|h<;>(rw[h]at this;omega)
 . by_cases a:s.lo<s.hi
   . have:=e r.lo;rw[RtQ.SR b,RtQ.SI a]at this;have c:D4 r.lo r.lo=0:=by rw[<-G9];exact N0.2 J
     rw[c]at this;rcases(hs.irr a).sid_ne r.lo with h|h<;>(rw[h]at this;omega)
   . have:=e s.lo;rw[RtQ.SR b,RtQ.SR a]at this;have c:D4 s.lo s.lo=0:=by rw[<-G9];exact N0.2 J
     rw[c,<-G9]at this;have i:r.lo=s.lo:=N0.1 this;have g:=(d.rat b).2;rw[i]at g;exact uX f g (hs.rat a).2
namespace M3
def rise_of{all rs:List RtQ}(a:∀r∈all,r.Ok)(d:all.Pairwise λr s=>¬ ∀x,r.S x=s.S x)(hp:rs.Perm all)(hs:rs.Pairwise λr s=>¬s.ord r<0):rs.Pairwise λr s=>D3 r.S s.S:=by
 have c:rs.Pairwise λr s=>¬ ∀x,r.S x=s.S x:=(hp.pairwise_iff fun {r s} h e=>h λx=>(e x).symm).2 d;have h:=hs.and c;refine List.Pairwise.imp_of_mem (fun {r s} f g b=>?_) h;have j:=a r (hp.mem_iff.1 f);have k:=a s (hp.mem_iff.1 g);rcases k.order j with⟨e,i⟩|⟨e,i⟩|⟨e,i⟩
 . exact absurd O b.1
 . exact i
 . exact absurd (λx=>(i x).symm) b.2
def bH{k ka:Nat}:∀ {L:List (List Rat × Nat)},(∀a∈L,PrOk k ((2:Rat)^Yz (Yh a.1) ka 0) a.1)->(L.Pairwise λa b=>DT (Jp a.1) (Jp b.1))->(L.flatMap (Xv k ka)).Pairwise λr s=>¬ ∀x,r.S x=s.S x
 |[],_,_=>List.Pairwise.nil
 |a::L,h,l=>by
  obtain⟨c1,c2⟩:=List.pairwise_cons.1 l;have d:=Ol (t:=a.2) (h a AF);have f:=λb c=>h b (AR a c);rw[List.flatMap_cons,List.pairwise_append];refine⟨d.rise.imp fun {r s} i e=>?_,bH f c2,λr m s hs=>?_⟩
  . rw[show r.S=s.S from funext e]at i;exact D3.irr i
  . obtain⟨n,g,_⟩:=d.all r m;obtain⟨o,b,c,j,_⟩:=SN f s hs;exact n.differ o (by rw[g,j];exact c1 b c)
theorem bI{k ka t:Nat}{w:List Rat}(h:PrOk k ((2:Rat)^Yz (Yh w) ka 0) w):((Xv k ka (w,t)).length:Int)=nA w:=by
 obtain⟨G,D,hA,_,hD,d,a,_⟩:=h.end_;have b:=Zn h.tw h.w0 h.sq h.tw h.w0 (Dv.refl w) h.bnd;have c:=Xj (Yz (Yh w) ka 0);unfold Xv;rw[Cy];show((Do w k (-((2:Rat)^Yz (Yh w) ka 0)) ((2:Rat)^Yz (Yh w) ka 0)).length:Int)=nA w;generalize (2:Rat)^Yz (Yh w) ka 0=H at *;have e:=JI h.tw h.w0 (show -H<=H by grind);rw[ZX h.tw h.w0 hA k (-H) H ⟨DK,DK⟩ ⟨DK,DK⟩ DK (by rw[show H - -H=H+H by grind];exact a),<-b];omega
def bJ{k ka:Nat}:∀ {L:List (List Rat × Nat)},(∀a∈L,PrOk k ((2:Rat)^Yz (Yh a.1) ka 0) a.1)->((L.flatMap (Xv k ka)).length:Int)=(L.map λa=>(nA a.1:Int)).sum
 |[],_=>rfl
 |a::L,h=>by
  have c:((Xv k ka a).length:Int)=nA a.1:=bI (t:=a.2) (h a AF);have d:=bJ (L:=L) λb e=>h b (AR _ e);rw[List.flatMap_cons,Aw,List.map_cons,List.sum_cons,<-d,<-c];omega
end M3
section
open M3
structure PwOk(C n:Nat)(w:List Rat):Prop where
 tw:Jc w=w
 l2:2<=w.length
 ln:w.length<=n
 sq:Df w
 mon:Js w=w
 cd:Cd C w
def Dn(C:Nat):Nat:=64*(C+C+2)
def eO(C n:Nat):Nat:=64*((C+2)*(n+n)+1)+(Dn C+2)*n
def kO(C n:Nat):Nat:=eO C n+eO C n+Dn C+3
structure NmOk(C n X:Nat):Prop where
 hn:n<=100
 hC:C<=100000000
 hX:Dn C+(kO C n+kO C n+1)+kO C n+64*C+64<64*X
 x2:X+X+2<=1000000000
 ch:4*((n+2)*((C+2)*(n+n+1)+1))<=1000000000
 sz:(C+2)*(n+n+1)+n*(X+2)+X+(C+2)*(n+n+1)<=10000000000
 sz2:C+1+n*(X+X+2)+X+X+(C+1)<=1000000000
def Wh.mono{K L:Nat}{p:List Rat}(h:Wh K p)(hl:K<=L):Wh L p:=λi=>by
 obtain⟨z,a,b⟩:=h i;exact⟨z,a.mono hl,b⟩
variable{K:Nat}
def Wh.slope{p:List Rat}(h:Wh K p)(hl:p.length<=1000000000):Wh (K+1) (Jb p):=λi=>by
 unfold Jb;rw[Yp,KO];by_cases hi:p.length<=i+1
 . exact⟨0,Sm.zero _,by rw[Ys hi,A6];rfl⟩
 . obtain⟨z,a,b⟩:=h (i+1);refine⟨z*((i+1:Nat):Int),a.mul ?_,by rw[b,Az,AH]⟩;unfold Sm;rw[Ay,show Y^1=18446744073709551616 by decide];omega
def Wh.cd{p:List Rat}(h:Wh K p)(c:1<=K):Cd K p:=⟨1,DN,Sm.one _ c,λi=>by
 obtain⟨z,a,b⟩:=h i;exact⟨z,by rw[b,<-CC ((z:Int):Rat)];simp,a⟩⟩
def Cd.whl{C:Nat}{w:List Rat}(h:Cd C w)(tw:Jc w=w)(w0:w≠[]):Wh C (Jp w):=Q8 tw w0 h.ln
def bK{p q:List Rat}(h:M3.ChOk K p q)(p0:p≠[]):RowOk (Da K p q) (max p.length q.length) (YQ p q):=by
 have hs:=Chn.start h.tp h.tq h.lp h.lq h.bd.2.2.1;refine⟨M3.Zs h (λa b k _=>⟨k.wa,k.la⟩) _ (Jp p) (Jp q) (Aa _) hs λe=>p0 (Al.1 ?_),?_⟩
 . rw[<-JJ h.tp,e];rfl
 . have c:=ZC _ (Jp p) (Jp q) (Aa _) (J5 q);rw[JJ h.tq]at c;have:=h.ln;show(EQ (Jp p) (Jp q)).length<=_;omega
section
variable {C n X:Nat} {w:List Rat}
def PwOk.w0(h:PwOk C n w):w≠[]:=λe=>by have:=h.l2;rw[e]at this;simp at this
def PwOk.lead(h:PwOk C n w):cf w (w.length-1)=1:=Kq h.tw h.w0 h.mon
def PwOk.wh(h:PwOk C n w):Wh C (Jp w):=h.cd.whl h.tw h.w0
def PwOk.arn(h:PwOk C n w):Yh w<=2^Yz (Yh w) (Dn C) 0/\Yz (Yh w) (Dn C) 0<=Dn C:=by
 have hs:=M3.ag (B:=Yh w) (Dn C) 0 (by rw[AW];exact M3.Oi (M3.bA h.tw h.w0 h.cd));exact⟨Rat.not_lt.1 hs.1,O⟩
def PwOk.pr(h:PwOk C n w)(N:NmOk C n X):PrOk (kO C n) (2^Yz (Yh w) (Dn C) 0) w:=by
 obtain⟨a,b⟩:=h.arn;have ll:(Jp w).length=w.length:=JJ h.tw;have hn:=N.hn;have hl:=h.ln;have c:(C+1+1)*(w.length+w.length)<=(C+2)*(n+n):=Ai _ O;have d:(Yz (Yh w) (Dn C) 0+2)*w.length<=(Dn C+2)*n:=Cq O hl;refine M3.uW (K:=C+1) (E:=eO C n) h.tw h.w0 h.sq (h.wh.mono O) (h.wh.slope O) ?_ O a ?_ ?_
 . rw[h.lead];decide
 . unfold eO;omega
 . unfold kO;omega
def PwOk.ro(h:PwOk C n w)(N:NmOk C n X)(t:Nat):∃G D,M3.RoOk (C+1) (Da (C+1) w (Jb w)) (max w.length (Jb w).length) X (C+1) (kO C n) (Dn C) (kO C n+kO C n+1) (Dn C) G D w t:=by
 obtain⟨g,a⟩:=h.arn;have hC:=N.hC;have hX:=N.hX;have x2:=N.x2;have hn:=N.hn;have hl:=h.ln;have sl:=Ry w;have hk:Dn C=64*(C+C+2):=rfl;have ch:M3.ChOk (C+1) w (Jb w):=M3.ChOk.of h.tw (Jt _) (h.cd.mono O) (h.cd.slope O) (n:=n) hl O N.ch O;have d:Da (C+1) w (Jb w)<=(C+2)*(n+n+1):=Ai _ O;have e:max w.length (Jb w).length*(X+2)<=n*(X+2):=Ae _ O;have f:w.length*(X+X+2)<=n*(X+X+2):=Ae _ hl;have i:=N.sz;have j:=N.sz2;refine M3.uP (h.pr N) (M3.uN h.tw h.w0 h.cd hC O x2) (Zu h.cd.smq O O) ch (bK ch h.w0) a (h.wh.mono O) h.l2 ?_ O ?_ O O
 . obtain⟨z,b,c⟩:=h.wh ((Jp w).length-1);unfold YL;rw[c,Fb];exact b.mono O
 . have:=uU h.w0 (-((2:Rat)^Yz (Yh w) (Dn C) 0));omega
end
end
section
open M3
def uY(L:Int):∀(k:Nat) (r:RtQ),∃i,i<=k/\Yj L k r=F0 i r:=by
 intro k;induction k with
 |zero=>intro r;exact⟨0,Aa _,J⟩
 |succ k b=>
  intro r;rw[Yj];split
  . obtain⟨i,c,a⟩:=b r.hv;exact⟨i+1,O,a⟩
  . exact⟨0,As _,J⟩
def uZ{C h X:Nat}{w:List Rat}{x:Rat}(j:Wh C w)(tw:Jc w=w)(w0:w≠[])(e:ev w x=0)(p:-(2^h)<=x)(q:x<=2^h)(hX:h+64*C<64*X):DV X x:=by
 obtain⟨zs,b⟩:=j.ints;have z0:zs≠[]:=λk=>w0 (by rw[b,k];rfl);have hl:cf w (w.length-1)=((zs.getLast z0:Int):Rat):=by
  rw[b];unfold cf;rw[Cy,Fq,<-List.getLast?_eq_getElem?,List.getLast?_eq_some_getLast z0];rfl
 obtain⟨L,f,l⟩:=j (w.length-1);have m:zs.getLast z0=L:=by rw[l]at hl;exact_mod_cast hl.symm
 have r:=Ju tw w0;have s:L≠0:=λk=>r (by rw[l,k];rfl);have i:=ZW z0 (x:=x) (by rw[<-b];exact e);rw[m]at i;have t:x.den<=L.natAbs:=Nat.le_of_dvd O (by have:=CP.2 i;rwa[Ay]at this);have f:L.natAbs<Y^C:=f;have a:∀k,Y^k=2^(64*k):=λk=>by rw[show Y=2^64 from J,<-Fg]
 have A:2^h*2^(64*C)<2^(64*X):=by rw[<-CM];exact FF O hX
 have p1:=CE (n:=h) (show 0<2 by omega);rw[a]at f;have o:=Ho x;have d0:(0:Rat)<=(x.den:Rat):=by exact_mod_cast As x.den
 have c:=Rat.mul_le_mul_of_nonneg_right q d0;have d:=Rat.mul_le_mul_of_nonneg_right p d0;rw[o]at c d;have g:(2:Rat)^h*(x.den:Rat)=(((2^h*x.den:Nat):Int):Rat):=by rw[AH,Rat.natCast_mul,Rat.natCast_pow];rfl
 rw[Rat.neg_mul,g,<-Rat.intCast_neg]at d;rw[g]at c;have u:x.num<=((2^h*x.den:Nat):Int):=by exact_mod_cast c
 have v:-((2^h*x.den:Nat):Int)<=x.num:=by exact_mod_cast d
 have y:2^h*x.den<=2^h*2^(64*C):=Ai _ O;have z:2^(64*C)<=2^h*2^(64*C):=Cl _ p1;refine⟨?_,?_⟩
 . unfold Sm;rw[a];omega
 . unfold Sm;rw[a,Ay];omega
def RtQ.Ok.sign3{r:RtQ}(h:r.Ok)(q:List Rat):r.sign q=-1\/r.sign q=0\/r.sign q=1:=by
 by_cases hl:r.lo<r.hi
 . rw[h.signI hl];rcases(h.irr hl).sg3 q with k|k|k
   . exact Or.inr (Or.inl k)
   . first|exact Or.inl k|exact Or.inr (Or.inr k)
   . first|exact Or.inl k|exact Or.inr (Or.inr k)
 . rw[RtQ.signR hl];rcases Yy (ev q r.lo)with⟨_,k⟩|⟨_,k⟩|⟨_,k⟩<;>simp[k]
structure TdOk(C n X:Nat)(w:List Rat)(t:Nat)(r:RtQ):Prop where
 ok:r.Ok
 ew:r.w=Jp w
 et:r.tm=t
 lo:DV X r.lo
 hi:DV X r.hi
 dy:r.lo<r.hi->Dy (Dn C) (kO C n+kO C n) r.lo/\Dy (Dn C) (kO C n+kO C n) r.hi
 bl:-(2^Dn C)<=r.lo
 bh:r.hi<=2^Dn C
theorem PwOk.told{C n X:Nat}{w:List Rat}(h:PwOk C n w)(N:NmOk C n X)(t:Nat):∀r∈Xv (kO C n) (Dn C) (w,t),TdOk C n X w t r:=λr j=>by
 obtain⟨p,c⟩:=h.arn;have hp:=h.pr N;have hX:=N.hX;rw[M3.bE]at j;obtain⟨s,hs,rfl⟩:=Fd.1 j;obtain⟨_,q,u,k⟩:=hp.span hs;have a:=(Rp t k).1;have e:Dy (Dn C) 0 ((2:Rat)^Yz (Yh w) (Dn C) 0):=Dy.two c;obtain⟨d1,d⟩:=M3.bB (kO C n) 0 _ _ e.neg e s hs;rw[AW]at d1 d;have x:=M3.Le c;have bl:-((2:Rat)^Dn C)<=(GI (kO C n) ⟨s.1,s.2,Jp w,DY (ev (Jp w) s.2),t⟩).lo:=by have:=a.lo;grind
 have bh:(GI (kO C n) ⟨s.1,s.2,Jp w,DY (ev (Jp w) s.2),t⟩).hi<=2^Dn C:=by have:=a.hi;grind
 have dy:∀r:RtQ,(r=GI (kO C n) ⟨s.1,s.2,Jp w,DY (ev (Jp w) s.2),t⟩)->r.lo<r.hi->Dy (Dn C) (kO C n+kO C n) r.lo/\Dy (Dn C) (kO C n+kO C n) r.hi:=λr b hl=>by
  subst b;unfold GI Ht at hl ⊢;obtain⟨i,v,o⟩:=uY (YL (Jp w)) (kO C n) ⟨s.1,s.2,Jp w,DY (ev (Jp w) s.2),t⟩;rw[o]at hl ⊢;split at hl
  . exact absurd hl Rat.lt_irrefl
  . rename_i m;rw[BE m];obtain⟨c1,c2⟩:=Rn i (kO C n) ⟨s.1,s.2,Jp w,DY (ev (Jp w) s.2),t⟩ d1 d;exact⟨c1.le O,c2.le O⟩
 obtain⟨r,b⟩:=ex (GI (kO C n) ⟨s.1,s.2,Jp w,DY (ev (Jp w) s.2),t⟩);rw[b]at a bl bh ⊢;have dy:=dy r b.symm;by_cases hl:r.lo<r.hi
 . obtain⟨c1,c2⟩:=dy hl;exact⟨a.ok,a.ew,a.et,c1.smq O,c2.smq O,dy,bl,bh⟩
 . obtain⟨f,l⟩:=a.ok.rat hl;have g:=l;rw[a.ew]at g;have w0:=a.ok.w0;rw[a.ew]at w0;have sm:DV X r.lo:=uZ (C:=C) (h:=Dn C) h.wh (J5 w) w0 g bl (by rw[f];exact bh) O;exact⟨a.ok,a.ew,a.et,sm,by rw[<-f];exact sm,dy,bl,bh⟩
structure SzOk(C n X M m:Nat):Prop where
 ch:4*((n+m+2)*((C+M+n+2)*(n+m+(n+m)+1)+1))<=1000000000
 ln:n+m<=1000
 sz:(C+M+n+2)*(n+m+(n+m)+1)+(n+m)*(X+2)+X+(C+M+n+2)*(n+m+(n+m)+1)<=10000000000
 at_:m*(M+X+1)+1+X<=1000000000
 hM:M<=100000000
section
variable {C n X M m:Nat} {w q:List Rat} {t:Nat} {r:RtQ}
def TdOk.rz(h:TdOk C n X w t r)(a:PwOk C n w)(N:NmOk C n X):RzOk (C+1) X r:=by
 have c:=N.sz2;have ll:r.w.length=w.length:=by rw[h.ew];exact JJ a.tw
 have hl:=a.ln;have b:r.w.length*(X+2)<=n*(X+X+2):=Cq O O;exact⟨by rw[h.ew];exact a.wh.mono O,h.lo,h.hi,O,N.x2⟩
def TdOk.sn(h:TdOk C n X w t r)(a:PwOk C n w)(N:NmOk C n X)(S:SzOk C n X M m)(tq:Jc q=q)(cq:Cd M q)(lq:q.length<=m):∃K A l,M3.SnOk K A l X r q:=by
 have hC:=N.hC;have hn:=N.hn;have e:=S.ln;have j:=S.at_;have hM:=S.hM;have ll:(Jp w).length=w.length:=JJ a.tw;have k:=a.ln;have sl:=Ry (Jp w);have cw:Cd (C+1) (Jp w):=(a.wh.mono O).cd O;have cs:Cd (C+1) (Jb (Jp w)):=(a.wh.slope O).cd O;have w0:=h.ok.w0;rw[h.ew]at w0;have c:(Ji (Jb (Jp w)) q).length<=n+m:=by
  by_cases d:Jb (Jp w)=[]
  . rw[d];exact As _
  . by_cases q0:q=[]
    . rw[q0,YI];exact As _
    . have:=JC (Jt (Jp w)) tq d q0;omega
 have b:Cd (C+M+n+1) (Ji (Jb (Jp w)) q):=(cs.mul cq).mono O;have ch:M3.ChOk (C+M+n+1) (Jp w) (Ji (Jb (Jp w)) q):=M3.ChOk.of (J5 w) (Jv _ _) (cw.mono O) b (n:=n+m) O c S.ch e;have f:Da (C+M+n+1) (Jp w) (Ji (Jb (Jp w)) q)<=(C+M+n+2)*(n+m+(n+m)+1):=Ai _ O;have g:max (Jp w).length (Ji (Jb (Jp w)) q).length*(X+2)<=(n+m)*(X+2):=Ae _ O;have o:=S.sz;have i:q.length*(M+X+1)<=m*(M+X+1):=Ae _ lq;have hA:=Rx h.lo cq.smq O;have row:=bK ch w0;rw[<-h.ew]at cw cs w0 c b ch row f g sl ll;exact⟨_,_,_,cq.sqs O,λ_=>⟨hA,(hA 0).1⟩,cw.sqs O,Zu cw.smq O O,cs.sqs O,cs.times cq O,O,ch,row,w0,O⟩
def TdOk.or_{v:List Rat}{u:Nat}{s:RtQ}(h:TdOk C n X w t r)(a:PwOk C n w)(N:NmOk C n X)(S:SzOk C n X (C+1) n)(k:TdOk C n X v u s)(hv:PwOk C n v):M3.OrOk r s:=by
 have b:s.w.length<=n:=by rw[k.ew,JJ hv.tw];exact hv.ln
 obtain⟨K,A,l,hs⟩:=h.sn a N S (q:=s.w) k.ok.tw (by rw[k.ew];exact(hv.wh.mono O).cd O) b;refine⟨⟨K,A,l,X,C+1,h.rz a N,k.rz hv N,hs⟩,?_,?_⟩
 . rw[k.ok.sgh];rcases Yy (ev s.w s.hi)with⟨_,e⟩|⟨_,e⟩|⟨_,e⟩<;>rw[e]<;>decide
 . rcases h.ok.sign3 s.w with e|e|e<;>rw[e]<;>decide
end
end
section
open M3
theorem SO(a b:Rat)(n:Nat):(a*b)^n=a^n*b^n:=by
 induction n with
 |zero=>rw[Rat.pow_zero,Rat.pow_zero,Rat.pow_zero,Rat.mul_one]
 |succ n c=>rw[Rat.pow_succ,Rat.pow_succ,Rat.pow_succ,c];grind
def Lf(L:List (List Rat × Nat))(f:List Rat->Nat):Nat:=(L.map λa=>a.2*f a.1).sum
def bL{w:List Rat}(tw:Jc w=w)(w0:w≠[])(t:Nat):∃p:List Rat,Jc p=p/\p≠[]/\(∀x,ev p x=ev w x^t)/\p.length=t*(w.length-1)+1:=by
 induction t with
 |zero=>exact⟨[1],EY,DL,λx=>by rw[Rat.pow_zero,Jo],DL⟩
 |succ t e=>
  obtain⟨p,a,b,c,d⟩:=e;have:=Ac.2 w0;refine⟨Ji p w,Jv _ _,YN a tw b w0,λx=>by rw[Je,c,Rat.pow_succ],?_⟩;rw[JC a tw b w0,d,Nat.succ_mul];omega
def bM:∀L:List (List Rat × Nat),(∀a∈L,Jc a.1=a.1/\a.1≠[])->∃p:List Rat,Jc p=p/\p≠[]/\(∀x,ev p x=Du L x)/\p.length=Lf L (λw=>w.length-1)+1
 |[],_=>⟨[1],EY,DL,λx=>by rw[Jo];rfl,J⟩
 |a::L,h=>by
  obtain⟨p,c,d,g,i⟩:=bM L λb j=>h b (AR _ j);obtain⟨ta,a0⟩:=h a AF;obtain⟨q,e,f,k,l⟩:=bL ta a0 a.2;refine⟨Ji q p,Jv _ _,YN e c f d,λx=>by rw[Je,k,g,Du],?_⟩;rw[JC e c f d,l,i];simp[Lf];omega
structure PsOk(C n:Nat)(z:List Rat)(L:List (List Rat × Nat)):Prop where
 ln:L.length<=25
 all:∀a∈L,PwOk C n a.1/\1<=a.2/\a.2<=25
 cop:L.Pairwise λa b=>DT a.1 b.1
 evs:∀x,ev (Js z) x=Du L x
section
variable {C n X:Nat} {z q:List Rat} {L:List (List Rat × Nat)}
def PsOk.pts(h:PsOk C n z L):PtsOk L:=⟨λa d=>by
 obtain⟨b,c,_⟩:=h.all a d;exact⟨b.tw,b.w0,b.sq,c⟩,h.cop⟩
def PsOk.pr(h:PsOk C n z L)(N:NmOk C n X):∀a∈L,PrOk (kO C n) ((2:Rat)^Yz (Yh a.1) (Dn C) 0) a.1:=λa b=>(h.all a b).1.pr N
theorem ub{w:List Rat}(tw:Jc w=w)(tq:Jc q=q):Jr (Jp w) q=Jr w q:=by
 obtain⟨c,c0,a⟩:=Xa tw;have h:=Q4 (c:=c) (d:=1) (λe=>by grind) DN tw tq;rw[KC tq]at h;rw[a];exact h
def ud{f g:List Rat->Int}(h:∀a∈L,f a.1=g a.1):Ip L f=Ip L g:=by
 unfold Ip;rw[Cb h]
def PsOk.cnt(h:PsOk C n z L)(N:NmOk C n X)(c:Jc z=z)(z0:z≠[])(tq:Jc q=q)(q0:q≠[]):((L.flatMap (Xv (kO C n) (Dn C))).map λr=>if r.sign q=0 then(1:Int)else 0).sum=nA (Jr z q):=by
 rw[M3.bF tq (h.pr N),qh h.pts c z0 h.evs tq q0];exact ud (f:=λw=>nA (Jr (Jp w) q)) λa b=>by rw[ub (h.all a b).1.tw tq]
def PsOk.len(h:PsOk C n z L)(N:NmOk C n X)(a:Jc z=z)(z0:z≠[]):((L.flatMap (Xv (kO C n) (Dn C))).length:Int)=nA z:=by
 rw[M3.bJ (h.pr N),(Zf h.pts a z0 h.evs).1];rfl
def PsOk.told(h:PsOk C n z L)(N:NmOk C n X):∀r∈L.flatMap (Xv (kO C n) (Dn C)),∃a∈L,TdOk C n X a.1 a.2 r:=λr b=>by
 obtain⟨a,c,b⟩:=List.mem_flatMap.1 b;exact⟨a,c,(h.all a c).1.told N a.2 r b⟩
theorem PsOk.split(h:PsOk C n z L)(K:Jc z=z)(z0:z≠[]){a:List Rat × Nat}(m:a∈L):∃c:List Rat,DT (Jp a.1) c/\∀x,ev z x=ev (Jp a.1) x*(ev (Jp a.1) x^(a.2-1)*ev c x):=by
 obtain⟨i,hi⟩:=List.getElem?_of_mem m;obtain⟨u,o⟩:=M3.sk (L.take i++L.drop (i+1));obtain⟨hA,N,_⟩:=h.all a m;obtain⟨k,P,j⟩:=Xa hA.tw;have f:k≠0:=λe=>by grind
 have q:=(Aq.1 hi);obtain⟨I,A⟩:=q;have y:∀s∈L.take i++L.drop (i+1),DT s.1 a.1:=λs hs=>by
  have e:L=L.take i++a::L.drop (i+1):=by rw[<-A,<-AY I,A4]
  have hp:=h.cop;rw[e,List.pairwise_append]at hp;rcases CK.1 hs with hs|hs
  . exact hp.2.2 s hs a AF
  . exact((List.pairwise_cons.1 hp.2.1).1 s hs).symm
 have r:DT u a.1:=Ze _ a.1 y u o;obtain⟨p,l⟩:=Me K z0;generalize cf z (z.length-1)=g at p l;refine⟨DQ (g*(k⁻¹)^a.2) u,?_,λx=>?_⟩
 . obtain⟨s,t,e⟩:=r;have p0:g*(k⁻¹)^a.2≠0:=by
    refine λe=>?_;rcases A2.1 e with e|e
    . exact p e
    . have b:(k⁻¹)^a.2*k^a.2=1:=by rw[<-SO,Rat.inv_mul_cancel _ f,OR]
      rw[e,A6]at b;exact absurd b DN
   generalize g*(k⁻¹)^a.2=d at p0;refine⟨DQ k⁻¹ t,DQ d⁻¹ s,λx=>?_⟩;rw[j,Jn,Jn,Jn,Jn];have b:=e x;have w:=Rat.mul_inv_cancel k f;have M:=Rat.mul_inv_cancel d p0;grind
 . have v:ev z x=ev (Js z) x*g:=by conv=>lhs;rw[l,Jn]
   rw[v,h.evs,M3.sj (e:=a.1) (t:=a.2) hi x,Jn,o,OQ,j,Jn];obtain⟨t,et⟩:∃t,a.2=t+1:=⟨a.2-1,O⟩;rw[et,Nat.add_sub_cancel,SO,Rat.pow_succ,Rat.pow_succ];have w:k^t*k*((k⁻¹)^t*k⁻¹)=1:=by
    have b:(k⁻¹)^t*k^t=1:=by rw[<-SO,Rat.inv_mul_cancel _ f,OR]
    have:=Rat.mul_inv_cancel k f;grind
   grind
end
end
namespace M3
def ue(V:E)(g o:Nat)(x0 x1 x2 x3 y0 y1 y2 y3 p s t:H):Prop:=V.cell? ⟨g,o,none⟩=some x0/\V.cell? ⟨g,o+1,none⟩=some x1/\V.cell? ⟨g,o+2,none⟩=some x2/\V.cell? ⟨g,o+3,none⟩=some x3/\V.cell? ⟨g,o+4,none⟩=some y0/\V.cell? ⟨g,o+5,none⟩=some y1/\V.cell? ⟨g,o+6,none⟩=some y2/\V.cell? ⟨g,o+7,none⟩=some y3/\V.cell? ⟨g,o+8,none⟩=some p/\V.cell? ⟨g,o+9,none⟩=some s/\V.cell? ⟨g,o+10,none⟩=some t
def Om(V:E)(g j:Nat)(x0 x1 x2 x3 y0 y1 y2 y3 p s t:H)(r:RtQ):Prop:=g<V.heap.size/\ue V g (j*11) x0 x1 x2 x3 y0 y1 y2 y3 p s t/\JG V (.agg #[x0,x1,x2,x3,y0,y1,y2,y3,p,s,t]) r
def Om.below{V W:E}{g j:Nat}{x0 x1 x2 x3 y0 y1 y2 y3 p s t:H}{r:RtQ}(h:Om V g j x0 x1 x2 x3 y0 y1 y2 y3 p s t r)(a:Bl V W):Om W g j x0 x1 x2 x3 y0 y1 y2 y3 p s t r:=by
 obtain⟨b,⟨c0,c1,c2,c3,c4,c5,d,e,f,l,c⟩,m⟩:=h;have k:∀i,W.cell? ⟨g,i,none⟩=V.cell? ⟨g,i,none⟩:=λi=>a.cell (p:=⟨g,i,none⟩) b;exact⟨AJ b a.size,⟨(k _).trans c0,(k _).trans c1,(k _).trans c2,(k _).trans c3,(k _).trans c4,(k _).trans c5,(k _).trans d,(k _).trans e,(k _).trans f,(k _).trans l,(k _).trans c⟩,m.below a⟩
def Ir(V:E)(u:H)(rs:List RtQ):Prop:=∃a cap,u=D a rs.length cap/\∀j r,rs[j]?=some r->∃g x0 x1 x2 x3 y0 y1 y2 y3 p s t,a=some ⟨g,0,none⟩/\Om V g j x0 x1 x2 x3 y0 y1 y2 y3 p s t r
def Ir.below{V W:E}{u:H}{rs:List RtQ}(h:Ir V u rs)(b:Bl V W):Ir W u rs:=by
 obtain⟨a,cap,e,h⟩:=h;refine⟨a,cap,e,λj r c=>?_⟩;obtain⟨g,x0,x1,x2,x3,y0,y1,y2,y3,p,s,t,e,h⟩:=h j r c;exact⟨g,x0,x1,x2,x3,y0,y1,y2,y3,p,s,t,e,h.below b⟩
def bN{V:E}{base:Nat}{u:H}{cs:List H}{rs:List RtQ}(h:V.ownsRow base 46 11 u rs.length cs)(q:D7 V cs rs):Ir V u rs:=by
 rcases h.2 with⟨e,k⟩|⟨g,cap,cur,e,w,m,x,z,A,p⟩
 . refine⟨none,0,by rw[e,k],λj r b=>?_⟩;rw[Al.1 k]at b;simp at b
 . refine⟨_,cap,e,λj r b=>?_⟩;have C:j<rs.length:=(Aq.1 b).1;obtain⟨x0,x1,x2,x3,y0,y1,y2,y3,c,f,d,n,s,t,v⟩:=q.2 j r b;have o:(cs.drop (j*11)).take 11=[x0,x1,x2,x3,y0,y1,y2,y3,D c f d,G .i64 r.sg,G .i64 (r.tm:Int)]:=by
    have:=BZ Array.toList (Value.agg.inj n);simpa using this
   have a:∀i y,i<11->([x0,x1,x2,x3,y0,y1,y2,y3,D c f d,G .i64 r.sg,G .i64 (r.tm:Int)]:List H)[i]?=some y->V.cell? ⟨g,j*11+i,none⟩=some y:=λi y hi l=>by
    rw[<-o,Cj hi,C5,<-p,Cj O]at l;simp only[World.cell?,m];simpa using l
   exact⟨g,x0,x1,x2,x3,y0,y1,y2,y3,D c f d,G .i64 r.sg,G .i64 (r.tm:Int),J,(Ab.1 m).1,⟨a 0 _ O J,a 1 _ O J,a 2 _ O J,a 3 _ O J,a 4 _ O J,a 5 _ O J,a 6 _ O J,a 7 _ O J,a 8 _ O J,a 9 _ O J,a 10 _ O J⟩,x0,x1,x2,x3,y0,y1,y2,y3,c,f,d,J,s,t,v⟩
def Mu{W:E}{a:Option Addr}{l c:Nat}{p:List Rat}(h:Jd W (.agg #[D a l c]) p):∃V B,W.alloc (.cells #[D a l c] 25)=V/\W.heap.size=B/\Dd V B a l c/\Jd V (.agg #[D a l c]) p/\Bl W V:=by
 have hA:Bl W (W.alloc (.cells #[D a l c] 25)):=Ba W _;exact⟨_,_,J,J,BH W 25 (D a l c),h.below hA,hA⟩
end M3
section
open M3
structure RtAll(C n X:Nat)(z:List Rat)(rs:List RtQ):Prop where
 told:∀r∈rs,∃w t,PwOk C n w/\TdOk C n X w t r
 rise:rs.Pairwise λr s=>D3 r.S s.S
 len:(rs.length:Int)=nA z
 cnt:∀q,Jc q=q->q≠[]->(rs.map λr=>if r.sign q=0 then(1:Int)else 0).sum=nA (Jr z q)
 tms:∀r∈rs,r.sign z=0/\1<=r.tm/\r.tm<=25/\(r.sign (Jb z)=0↔1<r.tm)
 deg:∃k:Nat,(rs.map RtQ.tm).sum+2*k=z.length-1
def uf{l m:List Int}(h:l.Perm m):l.sum=m.sum:=by
 induction h with
 |nil=>rfl
 |cons x _ c=>rw[List.sum_cons,List.sum_cons,c]
 |swap x y l=>rw[List.sum_cons,List.sum_cons,List.sum_cons,List.sum_cons];omega
 |trans _ _ a b=>exact a.trans b
section
variable {C n X:Nat} {z:List Rat} {L:List (List Rat × Nat)}
def PsOk.tms(h:PsOk C n z L)(N:NmOk C n X)(g:Jc z=z)(z0:z≠[]):∀r∈L.flatMap (Xv (kO C n) (Dn C)),r.sign z=0/\1<=r.tm/\r.tm<=25/\(r.sign (Jb z)=0↔1<r.tm):=λr k=>by
 obtain⟨a,i,b⟩:=h.told N r k;obtain⟨_,m,o⟩:=h.all a i;obtain⟨c,f,d⟩:=h.split g z0 i;rw[<-b.ew]at f d;rw[b.et];have j:r.sign z=0/\(r.sign (Jb z)=0↔1<=a.2-1):=by
  by_cases hl:r.lo<r.hi
  . have hi:=b.ok.irr hl;rw[b.ok.signI hl,b.ok.signI hl];obtain⟨u,l⟩:=bL (w:=r.w) b.ok.tw b.ok.w0 (a.2-1);exact⟨hi.dvd ⟨Ji u c,λx=>by rw[d,Je,l.2.2.1]⟩,hi.times f d g⟩
  . obtain⟨_,e⟩:=b.ok.rat hl;rw[RtQ.signR hl,RtQ.signR hl,XV,XV];exact⟨by rw[d,e,A6],qi b.ok.sq e f d g⟩
 refine⟨j.1,m,o,?_⟩;rw[j.2];omega
def ug{k ka t:Nat}{w:List Rat}(h:PrOk k ((2:Rat)^Yz (Yh w) ka 0) w):((Xv k ka (w,t)).map RtQ.tm).sum=t*(Xv k ka (w,t)).length:=by
 have a:=(M3.Ol (t:=t) h).all;generalize Xv k ka (w,t)=l at a;induction l with
 |nil=>rfl
 |cons r l b=>
  rw[List.map_cons,List.sum_cons,b λs hs=>a s (AR _ hs),(a r AF).2.2,Ah,Nat.mul_succ];omega
def PsOk.deg(h:PsOk C n z L)(N:NmOk C n X)(u:Jc z=z):∃k:Nat,((L.flatMap (Xv (kO C n) (Dn C))).map RtQ.tm).sum+2*k=z.length-1:=by
 obtain⟨p,tp,p0,g,lp⟩:=bM L λa c=>⟨(h.all a c).1.tw,(h.all a c).1.w0⟩;have e:Js z=p:=YO (Yu z) tp λx=>by rw[h.evs,g]
 have s:=XW u;rw[e,lp]at s;have r:∀L:List (List Rat × Nat),(∀a∈L,PrOk (kO C n) ((2:Rat)^Yz (Yh a.1) (Dn C) 0) a.1)->∃k:Nat,((L.flatMap (Xv (kO C n) (Dn C))).map RtQ.tm).sum+2*k=Lf L (λw=>w.length-1):=by
  intro L;induction L with
  |nil=>intro _;exact⟨0,J⟩
  |cons a L q=>
   intro d;obtain⟨k,hk⟩:=q λb m=>d b (AR _ m);have c:=d a AF;have i:((Xv (kO C n) (Dn C) a).map RtQ.tm).sum=a.2*(Xv (kO C n) (Dn C) a).length:=ug (t:=a.2) c;have l:((Xv (kO C n) (Dn C) a).length:Int)=nA a.1:=M3.bI (t:=a.2) c;obtain⟨p1,v⟩:=qT c.tw c.w0 c.sq;have y:=Ra c.w0;have w1:=Ac.2 c.w0;unfold nA at l;obtain⟨j,o⟩:∃j,(Xv (kO C n) (Dn C) a).length+2*j=a.1.length-1:=⟨(a.1.length-1-(Xv (kO C n) (Dn C) a).length)/2,O⟩;refine⟨k+a.2*j,?_⟩;rw[List.flatMap_cons,List.map_append,List.sum_append,i];have f:Lf (a::L) (λw=>w.length-1)=a.2*(a.1.length-1)+Lf L (λw=>w.length-1):=by simp[Lf]
   rw[f,<-hk,<-o,C1,C1]
   have:a.2*(2*j)=2*(a.2*j):=Nat.mul_left_comm _ _ _
   omega
 obtain⟨k,hk⟩:=r L (h.pr N);exact⟨k,O⟩
theorem PsOk.rtAll(h:PsOk C n z L)(N:NmOk C n X)(d:Jc z=z)(z0:z≠[]){rs:List RtQ}(hp:rs.Perm (L.flatMap (Xv (kO C n) (Dn C))))(hs:rs.Pairwise λr s=>¬s.ord r<0):RtAll C n X z rs:=by
 have hk:=M3.SN (h.pr N);refine⟨λr c=>?_,M3.rise_of (λr c=>(hk r c).1) (M3.bH (h.pr N) ?_) hp hs,?_,λq tq q0=>?_,λr c=>h.tms N d z0 r (hp.mem_iff.1 c),?_⟩
 . obtain⟨a,f,j⟩:=h.told N r (hp.mem_iff.1 c);exact⟨a.1,a.2,(h.all a f).1,j⟩
 . refine List.Pairwise.imp_of_mem (fun {a b} f l m=>?_) h.cop;obtain⟨ka,v,g⟩:=Xa (h.all a f).1.tw;obtain⟨kb,w,i⟩:=Xa (h.all b l).1.tw;obtain⟨s,t,e⟩:=m;refine⟨DQ ka⁻¹ s,DQ kb⁻¹ t,λx=>?_⟩;rw[g,i,Jn,Jn,Jn,Jn];have o:=e x;have p:=Rat.mul_inv_cancel ka (λe=>by grind);have u:=Rat.mul_inv_cancel kb (λe=>by grind);grind
 . rw[hp.length_eq];exact h.len N d z0
 . rw[uf (hp.map _)];exact h.cnt N d z0 tq q0
 . obtain⟨k,hk⟩:=h.deg N d;exact⟨k,by rw[<-hk,(hp.map RtQ.tm).sum_nat]⟩
end
def SP(C n:Nat)(z:List Rat)(rs:List RtQ):Prop:=∃L,PsOk C n z L/\rs.Perm (L.flatMap (Xv (kO C n) (Dn C)))/\rs.Pairwise λr s=>¬s.ord r<0
def SP.all{C n X:Nat}{z:List Rat}{rs:List RtQ}(h:SP C n z rs)(N:NmOk C n X)(d:Jc z=z)(z0:z≠[]):RtAll C n X z rs:=by
 obtain⟨L,a,b,c⟩:=h;exact a.rtAll N d z0 b c
namespace M3
def uh{M n X:Nat}(hM:M<=80000)(hn:n<=25)(N:NmOk (M+5) n X)(S:SzOk (M+5) n X (M+5+1) n)(v:H)(z:List Rat)(w:E)(h:Jd w v z)(i:Jc z=z)(z0:z≠[])(U:z.length<=n)(cz:Cd M z):
 F B 12 #[v] w λe w'=>∃u rs,e=.returned u/\Ir w' u rs/\SP (M+5) n z rs/\Bl w w':=by
 obtain⟨L,j,l,m,o,p⟩:=se hM hn i z0 U cz;have c:PsOk (M+5) n z L:=⟨j,λa d=>by
  obtain⟨C,I,K,k4,P,Q,R,T⟩:=l a d;exact⟨⟨Q,C,I,P,R,T⟩,K,O⟩,m.imp λh=>h.2,o⟩
 have hk:=SN (c.pr N);have hl:=c.len N i z0;have hA:=Ra z0;have z1:=Ac.2 z0;refine(SJ (kO (M+5) n) (Dn (M+5)) v z w h L p (λq t hq=>?_) O (by unfold nA at hl;omega) (λr f=>(hk r f).1) λr f s hs=>?_).mono ?_
 . obtain⟨G,D,k⟩:=(c.all _ hq).1.ro N t;exact⟨_,_,_,_,_,_,_,_,_,k⟩
 . obtain⟨a,d,x⟩:=c.told N r f;obtain⟨b,A,y⟩:=c.told N s hs;exact x.or_ (c.all a d).1 N S y (c.all b A).1
 . rintro e w' ⟨u,cs,rs,rfl,V,W,⟨g,o4⟩,o5,_⟩;exact⟨u,rs,J,bN (by rw[g.length_eq];exact V) W,⟨L,c,g,o4⟩,o5⟩
def ui(v:H)(z:List Rat)(w:E)(h:Jd w v z)(c:z.length<=1):
 F B 12 #[v] w λe w'=>e=.returned (D none 0 0)/\Bl w w':=by
 refine(SJ 0 0 v z w h [] (λV x b=>(aD x z V b c).mono ?_) DL DL DL DL DL).mono ?_
 . rintro e w' ⟨rfl,a⟩;exact⟨_,J,EK.nil _ _ _,a⟩
 . rintro e w' ⟨u,cs,rs,rfl,_,_,_,d,f⟩;exact⟨by rw[f J],d⟩
end M3
end
section
open M3
section
variable {r:RtQ} {q:List Rat}
def uj(a:Rat):DY (a*a)=DY a*DY a:=by
 rcases Yy a with⟨h,e⟩|⟨h,e⟩|⟨h,e⟩
 . rw[e];have:=Rat.mul_pos (a:=-a) (b:=-a) DK DK;exact Ny.2 DK
 . rw[h];decide +kernel
 . rw[e];exact Ny.2 (Rat.mul_pos h h)
theorem RtQ.Ok.sign_neg(h:r.Ok)(q:List Rat):r.sign (JR [] q)=-(r.sign q):=by
 have e:∀x,ev (JR [] q) x=-(ev q x):=λx=>by
  rw[Xy];simp only[ev];grind
 by_cases hl:r.lo<r.hi
 . rw[h.signI hl,h.signI hl,(h.irr hl).neg_sg e]
 . rw[RtQ.signR hl,RtQ.signR hl,e,VO]
def RtQ.Ok.sign_sq(h:r.Ok)(q:List Rat):r.sign (Ji q q)=r.sign q*r.sign q:=by
 by_cases hl:r.lo<r.hi
 . rw[h.signI hl,h.signI hl,(h.irr hl).mul]
 . rw[RtQ.signR hl,RtQ.signR hl,Je,uj]
end
def sT(rs:List RtQ)(k:Nat):Nat:=((rs.take k).map RtQ.tm).sum
def sN(rs:List RtQ)(q:List Rat)(k:Nat):Int:=((rs.take k).map λr=>if r.sign q=0 then(1:Int)else 0).sum
section
variable {rs:List RtQ} {q:List Rat} {k:Nat} {r:RtQ}
def uk(h:rs[k]?=some r):sT rs (k+1)=sT rs k+r.tm:=by
 unfold sT;rw[List.take_add_one,h,List.map_append,List.sum_append];simp
def um(rs:List RtQ)(k:Nat):sT rs k<=(rs.map RtQ.tm).sum:=by
 unfold sT;have h:=BZ (λl=>(l.map RtQ.tm).sum) (A4 k rs);simp only[List.map_append,List.sum_append]at h;omega
def bO(h:rs[k]?=some r):sN rs q (k+1)=sN rs q k+(if r.sign q=0 then 1 else 0):=by
 unfold sN;rw[List.take_add_one,h,List.map_append,List.sum_append];simp
def uq(rs:List RtQ)(q:List Rat)(k:Nat):0<=sN rs q k/\sN rs q k<=(k:Int):=by
 induction k with
 |zero=>exact⟨by simp[sN],by simp[sN]⟩
 |succ k a=>
  cases h:rs[k]? with
  |none=>
   have:sN rs q (k+1)=sN rs q k:=by unfold sN;rw[List.take_add_one,h];simp
   omega
  |some r=>
   rw[bO h];split<;>omega
end
section
variable {z:List Rat} {rs:List RtQ} {i j:Nat} {r s:RtQ}
def RtAll.at{C n X:Nat}(h:RtAll C n X z rs)(hi:rs[i]?=some r):r.Ok/\r.ord r=0:=by
 obtain⟨_,_,_,a⟩:=h.told r (List.mem_of_getElem? hi);exact⟨a.ok,a.ok.ord_self⟩
def RtAll.pair{C n X:Nat}(h:RtAll C n X z rs)(hi:rs[i]?=some r)(d:rs[i+1]?=some s):r.ord s=-1/\s.ord r=1:=by
 have b:=(h.at hi).1;have c:=(h.at d).1;have g:=Aq.1 hi;have f:=Aq.1 d;obtain⟨j,l⟩:=g;obtain⟨m,o⟩:=f;have a:D3 r.S s.S:=by
  have:=List.pairwise_iff_getElem.1 h.rise i (i+1) j m O;rwa[l,o]at this
 refine⟨?_,c.ord_gt b a⟩;rcases b.order c with⟨e,_⟩|⟨_,k⟩|⟨_,k⟩
 . exact e
 . exact absurd a (D3.asymm c.sd b.sd k)
 . rw[show r.S=s.S from funext k]at a;exact absurd a D3.irr
end
def ur{z:List Rat}{n:Nat}(h:(n:Int)=nA z)(z0:z≠[]):KI z=(n:Int):=by
 rw[h];unfold KI nA;rw[BE z0]
theorem us{M:Nat}{q:List Rat}(h:Cd M q):Cd M (JR [] q):=by
 obtain⟨D,d1,a,b⟩:=h;refine⟨D,d1,a,λi=>?_⟩;obtain⟨n,e,hn⟩:=b i;refine⟨-n,?_,by unfold Sm at *;rwa[FD]⟩;rw[Mz,Xk,e,AP,AP,Rat.intCast_neg];grind
def ut(q:List Rat):(JR [] q).length<=q.length:=by
 have:=WF [] q;simp at this;exact this
def uu{q:List Rat}(tq:Jc q=q)(h:q.length<=9):(Ji q q).length<=17:=by
 by_cases q0:q=[]
 . rw[q0];exact As _
 . have:=JC tq tq q0 q0;omega
def Mv:NmOk 46 17 20000:=⟨DN,DN,DN,DN,DN,DN,DN⟩
def bR:SzOk 46 17 20000 47 17:=⟨DN,DN,DN,DN,DN⟩
def uv:SzOk 46 17 20000 60 17:=⟨DN,DN,DN,DN,DN⟩
namespace M3
section
variable {z:List Rat} {rs:List RtQ} {r s:RtQ}
def Mw(h:RtAll 46 17 20000 z rs)(d:r∈rs){q:List Rat}(tq:Jc q=q)(cq:Cd 60 q)(lq:q.length<=17)(V:E)(v a:H)(hv:JG V v r)(hq:Jd V a q):
 F B 22 #[v,a] V λe w'=>e=.returned (G .i64 (r.sign q))/\Bl V w':=by
 obtain⟨w,t,c,b⟩:=h.told r d;obtain⟨K,A,l,hs⟩:=b.sn c Mv uv tq cq lq;exact Z8 K A l 20000 47 v a r q V hv hq (b.rz c Mv) hs
def SQ(h:RtAll 46 17 20000 z rs)(c:r∈rs)(hs:s∈rs)(V:E)(v u:H)(hv:JG V v r)(d:JG V u s):
 F B 24 #[v,u] V λe w'=>e=.returned (G .i64 (r.ord s))/\Bl V w':=by
 obtain⟨w,t,f,a⟩:=h.told r c;obtain⟨w',o,g,b⟩:=h.told s hs;obtain⟨⟨K,A,l,X,J',i,j,k⟩,m,n⟩:=a.or_ f Mv bR b g;exact R7 K A l X J' v u r s V hv d i j k m n
end
end M3
end
section
open M3
def F2:RtQ:=⟨-2,-1,eP,-1,1⟩
def F3:RtQ:=⟨1,2,eP,1,1⟩
def KN:PwOk 6 3 eP:=⟨EY,DN,DN,⟨[-1/2],[0,1/4],λx=>by
 rw[sG];simp[ev,eP];grind⟩,EY,Zy.mono O⟩
def On:NmOk 6 3 100000:=⟨DN,DN,DN,DN,DN,DN,DN⟩
def bS:SzOk 6 3 100000 7 3:=⟨DN,DN,DN,DN,DN⟩
def uw:Kr eP 1=[(eP,1)]:=EY
def ux:(Xv (kO 6 3) (Dn 6) (eP,1)).map (λr=>(r.lo,r.hi,r.w,r.sg,r.tm))=[F2,F3].map λr=>(r.lo,r.hi,r.w,r.sg,r.tm):=EY
theorem bT:F2.ord F3=-1:=EY
def Oo:dT 3 (Eh 3 20 F2).lo=dT 3 (Eh 3 20 F2).hi/\dT 3 (Eh 3 20 F2).lo=[45,49,46,52,49,53]/\dT 3 (Eh 3 20 F3).lo=dT 3 (Eh 3 20 F3).hi/\dT 3 (Eh 3 20 F3).lo=[49,46,52,49,52]:=EY
def uy:Wh 6 eP:=by
 have h:=KN.wh;rwa[show Jp eP=eP by decide +kernel]at h
def bU{r:RtQ}(d:r.w=eP)(b:Dy 1 0 r.lo)(c:Dy 1 0 r.hi)(hs:dT 3 (Eh 3 20 r).lo=dT 3 (Eh 3 20 r).hi):M3.DgOk 6 10 20 3 r:=⟨λi hi=>by
 obtain⟨d1,a⟩:=Rn i 0 r b c;have ew:=(Ro i r).1;rw[d]at ew;exact⟨⟨by rw[ew];exact uy,d1.smq O,a.smq O,by rw[ew];decide,DN⟩,(Dy.mid d1 a).smq O⟩,hs⟩
namespace M3
theorem Lg:[(eP,1)].flatMap (Xv (kO 6 3) (Dn 6))=[F2,F3]:=by
 rw[List.flatMap_cons,List.flatMap_nil,CR];refine(List.map_inj_right ?_).1 ux;rintro⟨a,b,c,d,e⟩ ⟨a',f,c',g,i⟩ h;grind
def Mx:∀r∈[F2,F3],TdOk 6 3 100000 eP 1 r:=λr a=>KN.told On 1 r (by grind[Lg])
def uz:OrOk F2 F3:=(Mx F2 DL).or_ KN On bS (Mx F3 DL) KN
theorem vA(v:H)(w:E)(h:Jd w v eP):F B 12 #[v] w λe w'=>∃u,e=.returned u/\Ir w' u [F2,F3]/\Bl w w':=by
 obtain⟨N,d,_⟩:=og KN.tw DN DN (Zy.mono O);have l:N=1:=by
  rcases(show N=0\/N=1\/1<N by omega)with e|e|e
  . subst e;exact absurd d.en EY
  . exact e
  . exact absurd (d.st 1 e).1 EY
 subst l;refine(SJ (kO 6 3) (Dn 6) v eP w h [(eP,1)] (λV x j=>by rw[<-uw];exact Wm 174 8926 1 x eP V j d) (λq t hq=>?_) DN (by rw[Lg];decide) (λr f=>(Mx r (by rw[<-Lg];exact f)).ok) λr f s hs=>(Mx r (by rw[<-Lg];exact f)).or_ KN On bS (Mx s (by rw[<-Lg];exact hs)) KN).mono ?_
 . obtain⟨rfl,rfl⟩:q=eP/\t=1:=by simpa using hq
   obtain⟨G,D,k⟩:=KN.ro On 1;exact⟨_,_,_,_,_,_,_,_,_,k⟩
 . rintro e w' ⟨u,cs,rs,rfl,g,m,⟨c,z⟩,n,_⟩;rw[Lg]at g c;have i:rs=[F2,F3]:=by
    obtain⟨a,b,rfl⟩:∃a b,rs=[a,b]:=by
     have hl:=c.length_eq;match rs,hl with
     |[a,b],_=>exact⟨a,b,J⟩
    have o:F2≠F3:=λe=>absurd (BZ RtQ.lo e) EY;have p:=c.mem_iff (a:=F2);have y:=c.mem_iff (a:=F3);grind[bT]
   subst i;exact⟨u,J,bN g m,n⟩
theorem vB(w:E)(aj:Lib.TabIs B w "internal/strconv.uint64pow10" .u64 Lib.pow10Tab):F B 21 #[] w λr w'=>r=.returned (.bool true)/\Bl w w':=by
 have HC:=Z (λ(V:E)=>show F B 42 #[.string ⟨#[120,94,50,45,50]⟩] V λr w'=>∃u,r=.returned (.tuple #[u,G .i64 0,G .i64 0])/\Jd w' u eP/\Bl V w' from
  (Vy ⟨#[120,94,50,45,50]⟩ V).mono (λr w' h=>by
   obtain⟨u,e,p,h1,h2,h3⟩:=h;rw[LQ,show Jj ⟨#[120,94,50,45,50]⟩=[120,94,50,45,50]from rfl,sF]at h2;obtain⟨rfl,rfl,h4⟩:=h2;exact⟨u,h1,h4,h3⟩))
 have HT:=Z aj;clear aj;go_enter Tryz.func21,Tryz.ntmps21
 go_upto_region 2 with(go_at_call 42;refine(HC.o _).mono ?_;clear HC;rintro e w1 ⟨u1,rfl,g1,ah⟩;obtain⟨a1,l1,c1,rfl⟩:=g1.form)
 obtain⟨V1,B1,R,hB,n1,r1,hA⟩:=Mu g1;rw[R,hB];have Qa:=Bt ah hA;have HR:=Z (vA _ V1 r1);have e0:=n1.cell;clear R hB g1 ah hA n1 r1;go_upto_region 3 with(go_at_call 12;refine HR.o.mono ?_;clear HR;rintro e w2 ⟨u2,rfl,g2,ai⟩;obtain⟨a9,c9,rfl,ae⟩:=g2)
 obtain⟨g,x0,x1,x2,x3,y0,y1,y2,y3,p1,T,W,rfl,P⟩:=ae 0 F2 rfl;obtain⟨g',z0,z1,z2,z3,v0,v1,v2,v3,S,U,t2,eg,A1⟩:=ae 1 F3 rfl;obtain rfl:g=g':=by simpa using eg
 have HQ:=Z (Bt Qa ai);have tab:∀V,Bl w2 V->Lib.TabIs B V "internal/strconv.uint64pow10" .u64 Lib.pow10Tab:=λV R=>Ka HT.o (Bt HQ.o R);have H1:=Z (λ(V:E) (h:Bl w2 V)=>show F B 19 #[.agg #[z0,z1,z2,z3,v0,v1,v2,v3,S,U,t2],G .i64 3] V λe w'=>e=.returned (.string ⟨#[49,46,52,49,52]⟩)/\Bl V w' from by
  have:=aB 6 10 20 3 _ F3 3 V (A1.below h).2.2 (bU rfl ⟨1,EY,DN⟩ ⟨2,EY,DN⟩ Oo.2.2.1) DN (tab V h);rw[Oo.2.2.2]at this;exact this)
 have H2:=Z (λ(V:E) (h:Bl w2 V)=>show F B 19 #[.agg #[x0,x1,x2,x3,y0,y1,y2,y3,p1,T,W],G .i64 3] V λe w'=>e=.returned (.string ⟨#[45,49,46,52,49,53]⟩)/\Bl V w' from by
  have:=aB 6 10 20 3 _ F2 3 V (P.below h).2.2 (bU rfl ⟨-2,EY,DN⟩ ⟨-1,EY,DN⟩ Oo.1) DN (tab V h);rw[Oo.2.1]at this;exact this)
 have H3:=Z (λ(V:E) (h:Bl w2 V)=>show F B 24 #[.agg #[x0,x1,x2,x3,y0,y1,y2,y3,p1,T,W],.agg #[z0,z1,z2,z3,v0,v1,v2,v3,S,U,t2]] V λe w'=>e=.returned (G .i64 (-1))/\Bl V w' from by
  obtain⟨⟨K,A,l,X,J',i1,i2,i3⟩,i4,i5⟩:=uz;have:=R7 K A l X J' _ _ F2 F3 V (P.below h).2.2 (A1.below h).2.2 i1 i2 i3 i4 i5;rw[bT]at this;exact this)
 have Q:=Z (λ(V:E) (h:Bl w2 V)=>show V.cell? ⟨g,0,none⟩=some x0/\V.cell? ⟨g,1,none⟩=some x1/\V.cell? ⟨g,2,none⟩=some x2/\V.cell? ⟨g,3,none⟩=some x3/\V.cell? ⟨g,4,none⟩=some y0/\V.cell? ⟨g,5,none⟩=some y1/\V.cell? ⟨g,6,none⟩=some y2/\V.cell? ⟨g,7,none⟩=some y3/\V.cell? ⟨g,8,none⟩=some p1/\V.cell? ⟨g,9,none⟩=some T/\V.cell? ⟨g,10,none⟩=some W/\V.cell? ⟨g,11,none⟩=some z0/\V.cell? ⟨g,12,none⟩=some z1/\V.cell? ⟨g,13,none⟩=some z2/\V.cell? ⟨g,14,none⟩=some z3/\V.cell? ⟨g,15,none⟩=some v0/\V.cell? ⟨g,16,none⟩=some v1/\V.cell? ⟨g,17,none⟩=some v2/\V.cell? ⟨g,18,none⟩=some v3/\V.cell? ⟨g,19,none⟩=some S/\V.cell? ⟨g,20,none⟩=some U/\V.cell? ⟨g,21,none⟩=some t2 from by
  obtain⟨_,⟨a0,a1,a2,a3,a4,a5,a6,a7,a8,a9,am⟩,_⟩:=P.below h;obtain⟨_,⟨b0,b1,b2,b3,b4,b5,b6,b7,b8,b9,b10⟩,_⟩:=A1.below h;grind)
 clear P A1 ae tab Qa ai eg e0;have hq:Bl w2 w2.drew:=(BB _ w2).drew;obtain⟨b,c,t,y,z,C,I,L,M,N,d,f,i,j,k,m,n,o,q,s,v,x⟩:=Q.o _ hq;go_region_held3 (λw'=>w'.cell? ⟨g,0,none⟩=some x0/\w'.cell? ⟨g,1,none⟩=some x1/\w'.cell? ⟨g,2,none⟩=some x2/\w'.cell? ⟨g,3,none⟩=some x3/\w'.cell? ⟨g,4,none⟩=some y0/\w'.cell? ⟨g,5,none⟩=some y1/\w'.cell? ⟨g,6,none⟩=some y2/\w'.cell? ⟨g,7,none⟩=some y3/\w'.cell? ⟨g,8,none⟩=some p1/\w'.cell? ⟨g,9,none⟩=some T/\w'.cell? ⟨g,10,none⟩=some W/\w'.cell? ⟨g,11,none⟩=some z0/\w'.cell? ⟨g,12,none⟩=some z1/\w'.cell? ⟨g,13,none⟩=some z2/\w'.cell? ⟨g,14,none⟩=some z3/\w'.cell? ⟨g,15,none⟩=some v0/\w'.cell? ⟨g,16,none⟩=some v1/\w'.cell? ⟨g,17,none⟩=some v2/\w'.cell? ⟨g,18,none⟩=some v3/\w'.cell? ⟨g,19,none⟩=some S/\w'.cell? ⟨g,20,none⟩=some U/\w'.cell? ⟨g,21,none⟩=some t2) (first|grind|(go_keep;done))
  (first
   |(go_at_call 19;refine(H1.o _ hq).mono ?_;clear H1;rintro e v5 ⟨rfl,a⟩;replace hq:=Bt hq a;clear a b c t y z C I L M N d f i j k m n o q s v x;obtain⟨b,c,t,y,z,C,I,L,M,N,d,f,i,j,k,m,n,o,q,s,v,x⟩:=Q.o _ hq)
   |(go_at_call 19;refine(H2.o _ hq).mono ?_;clear H2;rintro e v6 ⟨rfl,a⟩;replace hq:=Bt hq a;clear a b c t y z C I L M N d f i j k m n o q s v x;obtain⟨b,c,t,y,z,C,I,L,M,N,d,f,i,j,k,m,n,o,q,s,v,x⟩:=Q.o _ hq)
   |(go_at_call 24;refine(H3.o _ hq).mono ?_;clear H3;rintro e v7 ⟨rfl,a⟩;replace hq:=Bt hq a;clear a b c t y z C I L M N d f i j k m n o q s v x;obtain⟨b,c,t,y,z,C,I,L,M,N,d,f,i,j,k,m,n,o,q,s,v,x⟩:=Q.o _ hq))
 go_wp2_with fail
 go_ret;exact⟨rfl,Bt HQ.o hq⟩
end M3
end
namespace M3
def vC(d:Nat){t e:TypeId}(h:Tryz.prog.underlying t=some (.slice e))(w:E):(Op.equalIn (d+1) t (D none 0 0) (D none 0 0)).run B w=.ok true w:=by
 simp[Op.equalIn,run_underlying h]
def vE{t e:TypeId}(h:Tryz.prog.underlying t=some (.slice e))(w:E):(binOp .eql t (D none 0 0) (D none 0 0)).run B w=.ok (.bool true) w:=by
 have a:(Op.equal t (D none 0 0) (D none 0 0)).run B w=.ok true w:=vC 9999 h w;simp[binOp,a]
def vF(s t u:ByteArray)(w:E)(fg:Lib.TabIs B w "internal/strconv.uint64pow10" .u64 Lib.pow10Tab):
 F B 5 #[.string s,.string t,.string u] w λr w'=>r=.returned (.bool true)/\Bl w w':=by
 have cP:=R5 (Jj s);have cQ:=R5 (Jj t);have lP:=(QW (Jj s)).1;have lQ:=(QW (Jj t)).1;have tP:=R3 (Jj s);have tQ:=R3 (Jj t);obtain⟨Ua,Qv,Qq⟩:=Db (λ(V:E)=>R4 s V) (λ(V:E)=>R4 t V) λ(V:E)=>R4 u V;obtain⟨p,hp⟩:=ex ((Y4 (Jj s)).1);obtain⟨q,hq⟩:=ex ((Y4 (Jj t)).1);rw[hp]at cP lP tP Ua;rw[hq]at cQ lQ tQ Qv;have Qu:Cd 41 (Ji p q):=(cP.mul cQ).mono O;have Qw:(Ji p q).length<=17:=by
  by_cases p0:p=[]
  . rw[p0];exact As _
  . by_cases q0:q=[]
    . rw[q0,YI];exact As _
    . have:=JC tP tQ p0 q0;omega
 have Uk:Kj p q:=cP.times cQ O;have sP:=cP.sqs O;have sQ:=cQ.sqs O;have C2:=Z λ(V:E) (x y:H) (hx:Jd V x p) (hy:Jd V y q)=>R6 x y p q V hx hy sP sQ Uk O;have Qx:=Jv p q;obtain⟨z,hz⟩:=ex (Ji p q);rw[hz]at Qu Qw C2 Qx;obtain⟨HZ,Qg,AL⟩:=Db (show Cd 41 z/\z.length<=17/\Jc z=z from⟨Qu,Qw,Qx⟩) (λ(V:E) (x:H) (hx:Jd V x z)=>JY x z V hx) λ(V:E) (h:Bl w V)=>vB V (Ka fg h);have M1:Hid (DM w w []):=Z (DM.nil w);clear cP cQ lP lQ tP tQ hp hq Qu Qw Uk sP sQ Qx hz fg;go_enter Tryz.func5,Tryz.ntmps5
 go_upto_region 2 with(go_at_call 8;refine(Ua.o _).mono ?_;clear Ua;rintro e w1 ⟨u1,rfl,de,bi⟩;obtain⟨di,fi,dj,rfl⟩:=Jd.form de)
 obtain⟨V1,hV⟩:=ex (w1.alloc (.cells #[D di fi dj] 25));obtain⟨B1,ck⟩:=ex (w1.heap.size);have MM:DM w (w1.alloc (.cells #[D di fi dj] 25)) [some (w1.heap.size,.poly p)]:=DM.push (M1.o.below bi) (.poly p) de;rw[hV,ck]at MM;rw[hV];rw[ck];have M2:Hid (DM w V1 [some (B1,.poly p)]):=Z (MM);clear M1;clear MM hV ck;clear de bi;refine YB Dj [[],[],[1],[0,2,2],[3,3,0,1,2,3]] [.poly p,.eq (Value.string t),.poly q,.poly z,.eq undef] [4] (λb _ V=>DM w V [some (B1,if b.getD 0 false then .poly z else .poly p)]) M2.o.drew (Pu (.vl rfl λ_ j=>E9 0 j)<|Pu (.vl rfl λ_ _=>mv)<|Pu (.cl λh _=>c1 (h.e 1) (Qv.o _))<|Pu (.cl λh _=>C2.o _ _ _ (h.g 0) (h.g 2))<|Pu (.wr rfl λh j=>F8 0 j (h.g 3)) Stp.end_)
  λf V3 hF MM=>?_
 refine DS ?_;rw[hF.e 1];have MM:=Dz MM;replace MM:=Z MM;clear hF;clear M2 C2 Qv;obtain⟨a1,l1,c1,n1,r1⟩:=MM.o.poly2 (i:=0) rfl;have Qf:=Z MM.o.2.2;have N1:=Z (And.intro n1 r1);clear MM n1 r1;have hq:=BB V3.heap.size V3;have e0:=N1.o.1.cell;by_cases z0:z=[]
 . rw[z0,show(([]:List Rat).length:Int)-1=-1 from rfl]at Qg;rw[z0]at N1;have Uh:=Z λ(V:E) (x:H) (hx:Jd V x [])=>ui x [] V hx DL;clear z0 HZ Qq;have gu:=vE Tryz.underlying32;go_wp2_with(first
    |(go_at_call 26;refine(Qg.o _ _ (N1.o.2.below hq)).mono ?_;clear Qg;rintro e v1 ⟨rfl,ae⟩;have hq:=Bt hq ae;clear ae e0;have e0:=(boxed_below N1.o.1 hq).cell)
    |(go_at_call 12;refine(Uh.o _ _ (N1.o.2.below hq)).mono ?_;clear Uh;rintro e v2 ⟨rfl,ae⟩;have hq:=Bt hq ae;clear ae e0)
    |(go_at_call 21;refine(AL.o _ (Bt Qf.o hq)).mono ?_;clear AL;rintro e v3 ⟨rfl,ae⟩;have hq:=Bt hq ae;clear ae))
   go_ret;exact⟨rfl,Bt Qf.o hq⟩
 . have Ug:=Z λ(V:E) (x:H) (hx:Jd V x z)=>uh (M:=41) (n:=17) (X:=20000) O O Mv bR x z V hx HZ.o.2.2 z0 HZ.o.2.1 HZ.o.1;have cS:Cd 42 (Jb z):=HZ.o.1.slope (by have:=HZ.o.2.1;omega);have Ui:=Z λ(V:E) (u:H) (hu:Jd V u z)=>LS u z V hu (HZ.o.1.sqs O) (RJ cS O);obtain⟨m,hm⟩:=ex (z.length-1:Nat);have Un:(z.length:Int)-1=(m:Int):=by have:=Ac.2 z0;omega
   have gr:¬(m:Int)<0:=O
   rw[Un]at Qg;have HM:=Z (show z.length=m+1/\m<=16 by have:=Ac.2 z0;have:=HZ.o.2.1;omega);have Qh:=Z z0;have Qm:=Qg;clear hm Un z0 cS;go_upto_region 6 with(first
    |(go_at_call 26;refine(Qg.o _ _ (N1.o.2.below hq)).mono ?_;clear Qg;rintro e v1 ⟨rfl,ae⟩;have hq:=Bt hq ae;clear ae e0;have e0:=(boxed_below N1.o.1 hq).cell)
    |(go_at_call 12;refine(Ug.o _ _ (N1.o.2.below hq)).mono ?_;clear Ug;rintro e v2 ⟨u2,rs,rfl,gR,hP,ae⟩;have hq:=Bt hq ae;clear ae e0;have e0:=(boxed_below N1.o.1 hq).cell;obtain⟨a9,c9,rfl,gR⟩:=gR))
   have GR:=Z gR;have HP:=Z (hP.all Mv HZ.o.2.2 Qh.o);clear gR hP;have Qr:=BB v2.heap.size v2;go_upto_region 7 with(go_at_call 27;refine(Ui.o _ _ (N1.o.2.below hq)).mono ?_;clear Ui;rintro e wS ⟨uS,rfl,gS,cn⟩;replace hq:=Bt hq cn;obtain⟨aS,lS,cS,rfl⟩:=gS.form)
   obtain⟨VS,BS,hV,hB,nS,rS,cj⟩:=Mu gS;rw[hV,hB];replace hq:=Bt hq cj
   replace Qr:=Bt (Bt Qr cn) cj
   clear hV hB gS cn cj e0;have HN:=Z (show(Dd VS B1 a1 l1 c1/\Jd VS (.agg #[D a1 l1 c1]) z)/\(Dd VS BS aS lS cS/\Jd VS (.agg #[D aS lS cS]) (Jb z))/\Ir VS (D a9 rs.length c9) rs/\Bl w VS from⟨⟨boxed_below N1.o.1 hq,N1.o.2.below hq⟩,⟨nS,rS⟩,Ir.below ⟨a9,c9,rfl,GR.o⟩ Qr,Bt Qf.o hq⟩);have gv:(rs.length:Int)<=17:=by
    have h1:=HP.o.len;have h2:=Ra Qh.o;have h3:=HZ.o.2.1;unfold nA at h1;omega
   clear nS rS hq Qr GR N1 Qf;go_upto_region 9 with fail
   go_loopw [10,11] (λav iv wr=>∃k:Nat,k<=rs.length/\av=G .i64 (sT rs k:Int)/\iv=G .i64 (k:Int)/\Hid (Bl VS wr)) λ_ iv _=>rs.length-(intOf iv).toNat
   case atStart=>exact⟨0,As _,rfl,rfl,Z (BB _ _)⟩
   case round=>
    obtain⟨k,hk,rfl,rfl,HB⟩:=hrel;by_cases bm:k<rs.length
    . obtain⟨r,er⟩:∃r,rs[k]?=some r:=⟨_,AK bm⟩;obtain⟨_,_,ev,GR⟩:=HN.o.2.2.1;injection ev with bu bz ce
      subst bu ce;clear bz;obtain⟨g,x0,x1,x2,x3,x4,x5,x6,x7,x8,x9,aq,ea,A0⟩:=GR k r er;subst ea;replace A0:=A0.below HB.o;have rP:=HN.o.1.2.below HB.o;have bP:=boxed_below HN.o.1.1 HB.o;have rD:=HN.o.2.1.2.below HB.o;have bD:=boxed_below HN.o.2.1.1 HB.o;have Qa:=List.mem_of_getElem? er;obtain⟨ok,fm⟩:=HP.o.at er;obtain⟨z1,z2,z3,z4⟩:=HP.o.tms r Qa;have sl:=HZ.o.2.1;have cS:Cd 60 (Jb z):=(HZ.o.1.slope O).mono O;have lS:(Jb z).length<=17:=Ad (Ry z) sl;obtain⟨H1,H2,H5,H6⟩:=Dr (λ(V:E) (h:Bl wr V)=>Mw HP.o Qa HZ.o.2.2 (HZ.o.1.mono O) sl V _ _ (A0.below h).2.2 (rP.below h)) (λ(V:E) (h:Bl wr V)=>SQ HP.o Qa Qa V _ _ (A0.below h).2.2 (A0.below h).2.2) (λ(V:E) (h:Bl wr V)=>tF _ r V (A0.below h).2.2) λ(V:E) (h:Bl wr V)=>Mw HP.o Qa (Jt z) cS lS V _ _ (A0.below h).2.2 (rD.below h);rw[z1]at H1;rw[fm]at H2;have Qz:=H5;have Qs:=H5;have Uz:¬((k:Int)<0):=O
      have Wa:(k:Int)<(rs.length:Int):=O
      have HC:=Z λ(V:E) (h:Bl wr V)=>And.intro (A0.below h).2.1 (And.intro (boxed_below bP h).cell (boxed_below bD h).cell);have Ud:=Z (uk er);have Uw:=Z (show sT rs (k+1)<=16 by
       obtain⟨d,hd⟩:=HP.o.deg;have:=um rs (k+1);have:=HM.o;omega)
      obtain⟨sd,f9⟩:=ex (r.sign (Jb z));rw[f9]at H6 z4;obtain⟨tm,fh⟩:∃tm,r.tm=tm:=⟨_,rfl⟩;rw[fh]at H5 Qz Qs z2 z3 z4 Ud;obtain⟨Uf,Uj,Ut,Uy⟩:=Dr (show ∀j r',k=j+1->rs[j]?=some r'->r'.ord r=-1/\r.ord r'=1 from λj r' e1 e2=>by subst e1;exact HP.o.pair e2 er) Qa A0 GR;clear A0 rP bP rD bD Qa ok fm z1 sl cS lS f9 fh er GR;go_upto_region 11 with fail
      go_cut [91] λcv wx=>cv=.bool false/\Hid (Bl wr wx)
      case first=>
       have hq:Bl wr wr.drew:=(BB _ wr).drew;obtain⟨⟨l,C,L,N,P,Q,R,T,U,W,I⟩,kb,_⟩:=HC.o _ hq;by_cases gq:0<k
       . obtain⟨j,hj⟩:∃j,k=j+1:=⟨k-1,O⟩;obtain⟨r',ay⟩:∃r',rs[j]?=some r':=⟨_,AK O⟩;obtain⟨g',y0,y1,y2,y3,y4,y5,y6,y7,y8,y9,gh,ea,B0⟩:=Uy.o j r' ay;obtain rfl:g=g':=by simpa using ea
         replace B0:=B0.below HB.o;obtain⟨o1,o2⟩:=Uf.o j r' hj ay;have H3:=Z λ(V:E) (h:Bl wr V)=>SQ HP.o (List.mem_of_getElem? ay) Uj.o V _ _ (B0.below h).2.2 (Ut.o.below h).2.2;have H4:=Z λ(V:E) (h:Bl wr V)=>SQ HP.o Uj.o (List.mem_of_getElem? ay) V _ _ (Ut.o.below h).2.2 (B0.below h).2.2;rw[o1]at H3;rw[o2]at H4;have Qk:=Z λ(V:E) (h:Bl wr V)=>(B0.below h).2.1;have f1:IntKind.i64.wrap ((k:Int)-1)=(j:Int):=by rw[BJ];omega
         have f3:¬((j:Int)<0):=O
         have f4:(j:Int)<(rs.length:Int):=O
         obtain⟨j0,j1,j2,j3,j4,j5,j6,j7,j8,j9,aj⟩:=Qk.o _ hq;clear hj ea ay B0 o1 o2;go_region_held3 (λw'=>w'.cell? ⟨g,k*11,none⟩=some x0/\w'.cell? ⟨g,k*11+1,none⟩=some x1/\w'.cell? ⟨g,k*11+2,none⟩=some x2/\w'.cell? ⟨g,k*11+3,none⟩=some x3/\w'.cell? ⟨g,k*11+4,none⟩=some x4/\w'.cell? ⟨g,k*11+5,none⟩=some x5/\w'.cell? ⟨g,k*11+6,none⟩=some x6/\w'.cell? ⟨g,k*11+7,none⟩=some x7/\w'.cell? ⟨g,k*11+8,none⟩=some x8/\w'.cell? ⟨g,k*11+9,none⟩=some x9/\w'.cell? ⟨g,k*11+10,none⟩=some aq/\w'.cell? ⟨g,j*11,none⟩=some y0/\w'.cell? ⟨g,j*11+1,none⟩=some y1/\w'.cell? ⟨g,j*11+2,none⟩=some y2/\w'.cell? ⟨g,j*11+3,none⟩=some y3/\w'.cell? ⟨g,j*11+4,none⟩=some y4/\w'.cell? ⟨g,j*11+5,none⟩=some y5/\w'.cell? ⟨g,j*11+6,none⟩=some y6/\w'.cell? ⟨g,j*11+7,none⟩=some y7/\w'.cell? ⟨g,j*11+8,none⟩=some y8/\w'.cell? ⟨g,j*11+9,none⟩=some y9/\w'.cell? ⟨g,j*11+10,none⟩=some gh/\w'.cell? ⟨B1,0,none⟩=some (D a1 l1 c1)) (first|(with_reducible exact⟨l,C,L,N,P,Q,R,T,U,W,I,j0,j1,j2,j3,j4,j5,j6,j7,j8,j9,aj,kb⟩)|(go_keep;done))
         (first
          |(go_at_call 22;refine(H1.o _ hq).mono ?_;clear H1;rintro e df ⟨rfl,a⟩;replace hq:=Bt hq a;clear a;clear l C L N P Q R T U W I j0 j1 j2 j3 j4 j5 j6 j7 j8 j9 aj kb;obtain⟨⟨l,C,L,N,P,Q,R,T,U,W,I⟩,kb,_⟩:=HC.o _ hq;obtain⟨j0,j1,j2,j3,j4,j5,j6,j7,j8,j9,aj⟩:=Qk.o _ hq)
          |(go_at_call 24;refine(H2.o _ hq).mono ?_;clear H2;rintro e fx ⟨rfl,a⟩;replace hq:=Bt hq a;clear a;clear l C L N P Q R T U W I j0 j1 j2 j3 j4 j5 j6 j7 j8 j9 aj kb;obtain⟨⟨l,C,L,N,P,Q,R,T,U,W,I⟩,kb,_⟩:=HC.o _ hq;obtain⟨j0,j1,j2,j3,j4,j5,j6,j7,j8,j9,aj⟩:=Qk.o _ hq)
          |(go_at_call 24;refine(H3.o _ hq).mono ?_;clear H3;rintro e gw ⟨rfl,a⟩;replace hq:=Bt hq a;clear a;clear l C L N P Q R T U W I j0 j1 j2 j3 j4 j5 j6 j7 j8 j9 aj kb;obtain⟨⟨l,C,L,N,P,Q,R,T,U,W,I⟩,kb,_⟩:=HC.o _ hq;obtain⟨j0,j1,j2,j3,j4,j5,j6,j7,j8,j9,aj⟩:=Qk.o _ hq)
          |(go_at_call 24;refine(H4.o _ hq).mono ?_;clear H4;rintro e gy ⟨rfl,a⟩;replace hq:=Bt hq a;clear a;clear l C L N P Q R T U W I j0 j1 j2 j3 j4 j5 j6 j7 j8 j9 aj kb;obtain⟨⟨l,C,L,N,P,Q,R,T,U,W,I⟩,kb,_⟩:=HC.o _ hq;obtain⟨j0,j1,j2,j3,j4,j5,j6,j7,j8,j9,aj⟩:=Qk.o _ hq))
         go_wp2_with fail
         go_meet
         exact⟨rfl,Z hq⟩
       . refine wp_region_held_drew (S:=(λw'=>w'.cell? ⟨g,k*11,none⟩=some x0/\w'.cell? ⟨g,k*11+1,none⟩=some x1/\w'.cell? ⟨g,k*11+2,none⟩=some x2/\w'.cell? ⟨g,k*11+3,none⟩=some x3/\w'.cell? ⟨g,k*11+4,none⟩=some x4/\w'.cell? ⟨g,k*11+5,none⟩=some x5/\w'.cell? ⟨g,k*11+6,none⟩=some x6/\w'.cell? ⟨g,k*11+7,none⟩=some x7/\w'.cell? ⟨g,k*11+8,none⟩=some x8/\w'.cell? ⟨g,k*11+9,none⟩=some x9/\w'.cell? ⟨g,k*11+10,none⟩=some aq/\w'.cell? ⟨B1,0,none⟩=some (D a1 l1 c1))) (by kernel_rfl) ⟨l,C,L,N,P,Q,R,T,U,W,I,kb⟩ λbg=>?_;refine wpAnyH_take (i:=0) (oi:={ dst:=some 43,op:=Go.Op.move (Go.Operand.tmp 8),type:=32,pos:= "law.go:85",after:=#[],guard:=none }) (v:=?_) rfl (by kernel_rfl) (by kernel_rfl) (by kernel_rfl) (λ_ _ _ h=>h) (Or.inl ⟨by rfl,?_⟩) (by assumption) ?_;rotate_left
         . intro w9 c;(try dsimp only at c);go_simp;try with_reducible rfl
         try simp only[Act.put,Aj,Ar,At]
         refine wpAnyH_take (i:=1) (oi:={ dst:=some 44,op:=Go.Op.move (Go.Operand.tmp 11),type:=3,pos:= "law.go:85",after:=#[],guard:=none }) (v:=?_) rfl (by kernel_rfl) (by kernel_rfl) (by kernel_rfl) (λ_ _ _ h=>h) (Or.inl ⟨by rfl,?_⟩) (by assumption) ?_;rotate_left
         . intro w9 c;(try dsimp only at c);go_simp;try with_reducible rfl
         try simp only[Act.put,Aj,Ar,At]
         refine wpAnyH_take (i:=2) (oi:={ dst:=some 45,op:=Go.Op.indexAddr 32 (Go.Operand.tmp 43) (Go.Operand.tmp 44),type:=0,pos:= "law.go:85",after:=#[{ on:=0,ground:=Go.Ground.data },{ on:=1,ground:=Go.Ground.data }],guard:=none }) (v:=?_) rfl (by kernel_rfl) (by kernel_rfl) (by kernel_rfl) (λ_ _ _ h=>h) (Or.inl ⟨by rfl,?_⟩) (by assumption) ?_;rotate_left
         . intro w9 c;(try dsimp only at c);go_simp;try with_reducible rfl
         try simp only[Act.put,Aj,Ar,At]
         refine wpAnyH_take (i:=3) (oi:={ dst:=some 46,op:=Go.Op.load 46 (Go.Operand.tmp 45),type:=46,pos:= "law.go:85",after:=#[{ on:=2,ground:=Go.Ground.data }],guard:=none }) (v:=?_) rfl (by kernel_rfl) (by kernel_rfl) (by kernel_rfl) (λ_ _ _ h=>h) (Or.inl ⟨by rfl,?_⟩) (by assumption) ?_;rotate_left
         . intro w9 c;(try dsimp only at c);go_simp;try with_reducible rfl
         try simp only[Act.put,Aj,Ar,At]
         refine wpAnyH_take (i:=4) (oi:={ dst:=some 47,op:=Go.Op.load 25 (Go.Operand.tmp 7),type:=25,pos:= "law.go:85",after:=#[],guard:=none }) (v:=?_) rfl (by kernel_rfl) (by kernel_rfl) (by kernel_rfl) (λ_ _ _ h=>h) (Or.inl ⟨by rfl,?_⟩) (by assumption) ?_;rotate_left
         . intro w9 c;(try dsimp only at c);go_simp;try with_reducible rfl
         try simp only[Act.put,Aj,Ar,At]
         refine wpAnyH_ready (rs:=[5]) (by kernel_rfl) DL ?_;refine AllReadyH.cons (o:={ dst:=some 48,op:=Go.Op.call { callee:=Go.Callee.value (Go.Operand.func 22),args:=#[Go.Operand.tmp 46,Go.Operand.tmp 47],argTypes:=#[46,25] },type:=3,pos:= "law.go:85",after:=#[{ on:=3,ground:=Go.Ground.data },{ on:=4,ground:=Go.Ground.data }],guard:=none }) rfl (λK hK=>?_) AllReadyH.nil;clear bg;go_simp;go_at_call 22;refine(H1.o _ hq).mono ?_;clear H1;rintro e df ⟨rfl,a⟩;replace hq:=Bt hq a;clear a;clear l C L N P Q R T U W I kb;obtain⟨⟨l,C,L,N,P,Q,R,T,U,W,I⟩,kb,_⟩:=HC.o _ hq
         try go_wp2_with fail
         refine Shut.out hK _ _ ⟨l,C,L,N,P,Q,R,T,U,W,I,kb⟩ λbg=>?_;clear hK K;try simp only[Act.put,Aj,Ar,At]
         refine wpAnyH_take (i:=6) (oi:={ dst:=some 49,op:=Go.Op.binOp Go.BinOp.neq 3 (Go.Operand.tmp 48) (Go.Operand.const (Go.Value.int Go.IntKind.i64 0)) 3,type:=4,pos:= "law.go:85",after:=#[{ on:=5,ground:=Go.Ground.data }],guard:=none }) (v:=?_) rfl (by kernel_rfl) (by kernel_rfl) (by kernel_rfl) (λ_ _ _ h=>h) (Or.inl ⟨by rfl,?_⟩) (by assumption) ?_;rotate_left
         . intro w9 c;(try dsimp only at c);go_simp;try with_reducible rfl
         try simp only[Act.put,Aj,Ar,At]
         refine wpAnyH_take (i:=7) (oi:={ dst:=some 50,op:=Go.Op.move (Go.Operand.tmp 49),type:=4,pos:= "law.go:85",after:=#[{ on:=6,ground:=Go.Ground.data },{ on:=5,ground:=Go.Ground.chain }],guard:=none }) (v:=?_) rfl (by kernel_rfl) (by kernel_rfl) (by kernel_rfl) (λ_ _ _ h=>h) (Or.inl ⟨by rfl,?_⟩) (by assumption) ?_;rotate_left
         . intro w9 c;(try dsimp only at c);go_simp;try with_reducible rfl
         try simp only[Act.put,Aj,Ar,At]
         refine wpAnyH_take (i:=8) (oi:={ dst:=some 51,op:=Go.Op.move (Go.Operand.tmp 8),type:=32,pos:= "law.go:85",after:=#[{ on:=7,ground:=Go.Ground.guard }],guard:=some (7,false) }) (v:=?_) rfl (by kernel_rfl) (by kernel_rfl) (by kernel_rfl) (λ_ _ _ h=>h) (Or.inl ⟨by rfl,?_⟩) (by assumption) ?_;rotate_left
         . intro w9 c;(try dsimp only at c);go_simp;try with_reducible rfl
         try simp only[Act.put,Aj,Ar,At]
         refine wpAnyH_take (i:=9) (oi:={ dst:=some 52,op:=Go.Op.move (Go.Operand.tmp 11),type:=3,pos:= "law.go:85",after:=#[{ on:=7,ground:=Go.Ground.guard }],guard:=some (7,false) }) (v:=?_) rfl (by kernel_rfl) (by kernel_rfl) (by kernel_rfl) (λ_ _ _ h=>h) (Or.inl ⟨by rfl,?_⟩) (by assumption) ?_;rotate_left
         . intro w9 c;(try dsimp only at c);go_simp;try with_reducible rfl
         try simp only[Act.put,Aj,Ar,At]
         refine wpAnyH_take (i:=10) (oi:={ dst:=some 53,op:=Go.Op.indexAddr 32 (Go.Operand.tmp 51) (Go.Operand.tmp 52),type:=0,pos:= "law.go:85",after:=#[{ on:=8,ground:=Go.Ground.data },{ on:=9,ground:=Go.Ground.data },{ on:=7,ground:=Go.Ground.guard }],guard:=some (7,false) }) (v:=?_) rfl (by kernel_rfl) (by kernel_rfl) (by kernel_rfl) (λ_ _ _ h=>h) (Or.inl ⟨by rfl,?_⟩) (by assumption) ?_;rotate_left
         . intro w9 c;(try dsimp only at c);go_simp;try with_reducible rfl
         try simp only[Act.put,Aj,Ar,At]
         refine wpAnyH_take (i:=11) (oi:={ dst:=some 54,op:=Go.Op.load 46 (Go.Operand.tmp 53),type:=46,pos:= "law.go:85",after:=#[{ on:=10,ground:=Go.Ground.data },{ on:=7,ground:=Go.Ground.guard }],guard:=some (7,false) }) (v:=?_) rfl (by kernel_rfl) (by kernel_rfl) (by kernel_rfl) (λ_ _ _ h=>h) (Or.inl ⟨by rfl,?_⟩) (by assumption) ?_;rotate_left
         . intro w9 c;(try dsimp only at c);go_simp;try with_reducible rfl
         try simp only[Act.put,Aj,Ar,At]
         refine wpAnyH_take (i:=12) (oi:={ dst:=some 55,op:=Go.Op.move (Go.Operand.tmp 8),type:=32,pos:= "law.go:85",after:=#[{ on:=7,ground:=Go.Ground.guard }],guard:=some (7,false) }) (v:=?_) rfl (by kernel_rfl) (by kernel_rfl) (by kernel_rfl) (λ_ _ _ h=>h) (Or.inl ⟨by rfl,?_⟩) (by assumption) ?_;rotate_left
         . intro w9 c;(try dsimp only at c);go_simp;try with_reducible rfl
         try simp only[Act.put,Aj,Ar,At]
         refine wpAnyH_take (i:=13) (oi:={ dst:=some 56,op:=Go.Op.move (Go.Operand.tmp 11),type:=3,pos:= "law.go:85",after:=#[{ on:=7,ground:=Go.Ground.guard }],guard:=some (7,false) }) (v:=?_) rfl (by kernel_rfl) (by kernel_rfl) (by kernel_rfl) (λ_ _ _ h=>h) (Or.inl ⟨by rfl,?_⟩) (by assumption) ?_;rotate_left
         . intro w9 c;(try dsimp only at c);go_simp;try with_reducible rfl
         try simp only[Act.put,Aj,Ar,At]
         refine wpAnyH_take (i:=14) (oi:={ dst:=some 57,op:=Go.Op.indexAddr 32 (Go.Operand.tmp 55) (Go.Operand.tmp 56),type:=0,pos:= "law.go:85",after:=#[{ on:=12,ground:=Go.Ground.data },{ on:=13,ground:=Go.Ground.data },{ on:=7,ground:=Go.Ground.guard }],guard:=some (7,false) }) (v:=?_) rfl (by kernel_rfl) (by kernel_rfl) (by kernel_rfl) (λ_ _ _ h=>h) (Or.inl ⟨by rfl,?_⟩) (by assumption) ?_;rotate_left
         . intro w9 c;(try dsimp only at c);go_simp;try with_reducible rfl
         try simp only[Act.put,Aj,Ar,At]
         refine wpAnyH_take (i:=15) (oi:={ dst:=some 58,op:=Go.Op.load 46 (Go.Operand.tmp 57),type:=46,pos:= "law.go:85",after:=#[{ on:=14,ground:=Go.Ground.data },{ on:=7,ground:=Go.Ground.guard }],guard:=some (7,false) }) (v:=?_) rfl (by kernel_rfl) (by kernel_rfl) (by kernel_rfl) (λ_ _ _ h=>h) (Or.inl ⟨by rfl,?_⟩) (by assumption) ?_;rotate_left
         . intro w9 c;(try dsimp only at c);go_simp;try with_reducible rfl
         try simp only[Act.put,Aj,Ar,At]
         refine wpAnyH_ready (rs:=[16]) (by kernel_rfl) DL ?_;refine AllReadyH.cons (o:={ dst:=some 59,op:=Go.Op.call { callee:=Go.Callee.value (Go.Operand.func 24),args:=#[Go.Operand.tmp 54,Go.Operand.tmp 58],argTypes:=#[46,46] },type:=3,pos:= "law.go:85",after:=#[{ on:=11,ground:=Go.Ground.data },{ on:=15,ground:=Go.Ground.data },{ on:=7,ground:=Go.Ground.chain },{ on:=7,ground:=Go.Ground.guard }],guard:=some (7,false) }) rfl (λK hK=>?_) AllReadyH.nil;clear bg;go_simp;go_at_call 24;refine(H2.o _ hq).mono ?_;clear H2;rintro e fx ⟨rfl,a⟩;replace hq:=Bt hq a;clear a;clear l C L N P Q R T U W I kb;obtain⟨⟨l,C,L,N,P,Q,R,T,U,W,I⟩,kb,_⟩:=HC.o _ hq
         try go_wp2_with fail
         refine Shut.out hK _ _ ⟨l,C,L,N,P,Q,R,T,U,W,I,kb⟩ λbg=>?_;clear hK K;try simp only[Act.put,Aj,Ar,At]
         refine wpAnyH_take (i:=17) (oi:={ dst:=some 60,op:=Go.Op.binOp Go.BinOp.neq 3 (Go.Operand.tmp 59) (Go.Operand.const (Go.Value.int Go.IntKind.i64 0)) 3,type:=4,pos:= "law.go:85",after:=#[{ on:=16,ground:=Go.Ground.data },{ on:=7,ground:=Go.Ground.guard }],guard:=some (7,false) }) (v:=?_) rfl (by kernel_rfl) (by kernel_rfl) (by kernel_rfl) (λ_ _ _ h=>h) (Or.inl ⟨by rfl,?_⟩) (by assumption) ?_;rotate_left
         . intro w9 c;(try dsimp only at c);go_simp;try with_reducible rfl
         try simp only[Act.put,Aj,Ar,At]
         refine wpAnyH_take (i:=18) (oi:={ dst:=some 61,op:=Go.Op.pick (Go.Operand.tmp 50) (Go.Operand.const (Go.Value.bool true)) (Go.Operand.tmp 60),type:=4,pos:= "law.go:85",after:=#[{ on:=7,ground:=Go.Ground.data },{ on:=17,ground:=Go.Ground.data }],guard:=none }) (v:=?_) rfl (by kernel_rfl) (by kernel_rfl) (by kernel_rfl) (λ_ _ _ h=>h) (Or.inl ⟨by rfl,?_⟩) (by assumption) ?_;rotate_left
         . intro w9 c;(try dsimp only at c);go_simp;try with_reducible rfl
         try simp only[Act.put,Aj,Ar,At]
         refine wpAnyH_take (i:=19) (oi:={ dst:=some 62,op:=Go.Op.move (Go.Operand.tmp 61),type:=4,pos:= "law.go:85",after:=#[{ on:=18,ground:=Go.Ground.data },{ on:=16,ground:=Go.Ground.chain }],guard:=none }) (v:=?_) rfl (by kernel_rfl) (by kernel_rfl) (by kernel_rfl) (λ_ _ _ h=>h) (Or.inl ⟨by rfl,?_⟩) (by assumption) ?_;rotate_left
         . intro w9 c;(try dsimp only at c);go_simp;try with_reducible rfl
         try simp only[Act.put,Aj,Ar,At]
         refine wpAnyH_take (i:=20) (oi:={ dst:=some 63,op:=Go.Op.move (Go.Operand.tmp 11),type:=3,pos:= "law.go:85",after:=#[{ on:=19,ground:=Go.Ground.guard }],guard:=some (19,false) }) (v:=?_) rfl (by kernel_rfl) (by kernel_rfl) (by kernel_rfl) (λ_ _ _ h=>h) (Or.inl ⟨by rfl,?_⟩) (by assumption) ?_;rotate_left
         . intro w9 c;(try dsimp only at c);go_simp;try with_reducible rfl
         try simp only[Act.put,Aj,Ar,At]
         refine wpAnyH_take (i:=21) (oi:={ dst:=some 64,op:=Go.Op.binOp Go.BinOp.gtr 3 (Go.Operand.tmp 63) (Go.Operand.const (Go.Value.int Go.IntKind.i64 0)) 3,type:=4,pos:= "law.go:85",after:=#[{ on:=20,ground:=Go.Ground.data },{ on:=19,ground:=Go.Ground.guard }],guard:=some (19,false) }) (v:=?_) rfl (by kernel_rfl) (by kernel_rfl) (by kernel_rfl) (λ_ _ _ h=>h) (Or.inl ⟨by rfl,?_⟩) (by assumption) ?_;rotate_left
         . intro w9 c;(try dsimp only at c);go_simp;try with_reducible rfl
         try simp only[Act.put,Aj,Ar,At]
         refine wpAnyH_take (i:=22) (oi:={ dst:=some 65,op:=Go.Op.move (Go.Operand.tmp 64),type:=4,pos:= "law.go:85",after:=#[{ on:=21,ground:=Go.Ground.data },{ on:=19,ground:=Go.Ground.chain },{ on:=19,ground:=Go.Ground.guard }],guard:=some (19,false) }) (v:=?_) rfl (by kernel_rfl) (by kernel_rfl) (by kernel_rfl) (λ_ _ _ h=>h) (Or.inl ⟨by rfl,?_⟩) (by assumption) ?_;rotate_left
         . intro w9 c;(try dsimp only at c);go_simp;try with_reducible rfl
         try simp only[Act.put,Aj,Ar,At]
         refine TG (fuel:=2) (by kernel_rfl) (λ_ _ _ _ _ h=>h) (by assumption) [(23,some 66),(24,some 67),(25,some 68),(26,some 69),(27,some 70),(28,some 71),(29,some 72),(30,some 73),(31,some 74),(32,some 75),(33,some 76),(34,some 77),(35,some 78),(36,some 79),(37,some 80),(38,some 81),(39,some 82),(40,some 83),(41,some 84),(42,some 85),(43,some 86),(44,some 87),(45,some 88),(46,some 89)] (by kernel_rfl) ?_;simp only[TE,List.foldl,Act.put,Aj,Ar,At];refine wpAnyH_take (i:=47) (oi:={ dst:=some 90,op:=Go.Op.pick (Go.Operand.tmp 65) (Go.Operand.tmp 89) (Go.Operand.const (Go.Value.bool false)),type:=4,pos:= "law.go:85",after:=#[{ on:=22,ground:=Go.Ground.data },{ on:=46,ground:=Go.Ground.data },{ on:=19,ground:=Go.Ground.guard }],guard:=some (19,false) }) (v:=?_) rfl (by kernel_rfl) (by kernel_rfl) (by kernel_rfl) (λ_ _ _ h=>h) (Or.inl ⟨by rfl,?_⟩) (by assumption) ?_;rotate_left
         . intro w9 c;(try dsimp only at c);go_simp;try with_reducible rfl
         try simp only[Act.put,Aj,Ar,At]
         refine wpAnyH_take (i:=48) (oi:={ dst:=some 91,op:=Go.Op.pick (Go.Operand.tmp 62) (Go.Operand.const (Go.Value.bool true)) (Go.Operand.tmp 90),type:=4,pos:= "law.go:85",after:=#[{ on:=19,ground:=Go.Ground.data },{ on:=47,ground:=Go.Ground.data }],guard:=none }) (v:=?_) rfl (by kernel_rfl) (by kernel_rfl) (by kernel_rfl) (λ_ _ _ h=>h) (Or.inl ⟨by rfl,?_⟩) (by assumption) ?_;rotate_left
         . intro w9 c;(try dsimp only at c);go_simp;try with_reducible rfl
         try simp only[Act.put,Aj,Ar,At]
         refine wpAnyH_done (by kernel_rfl) ?_ _;go_wp2_with fail
         go_meet
         exact⟨rfl,Z hq⟩
      obtain⟨rfl,dh⟩:=hcut;go_upto_region 13 with fail
      have hq:Bl wr wc.drew:=dh.o.drew;obtain⟨⟨l,C,L,N,P,Q,R,T,U,W,I⟩,_,kd⟩:=HC.o _ hq;have f1:decide ((tm:Int)<1)=false:=BN O;obtain⟨b,bi⟩:=ex (decide (1<(tm:Int)));have gj:(sd==0)=b:=by
       rw[<-bi];by_cases h:1<tm
       . rw[z4.2 h,BK (show 1<(tm:Int)by omega)];rfl
       . rw[BN (show ¬1<(tm:Int)by omega),Be];exact λe=>h (z4.1 e)
      have f5:IntKind.i64.wrap ((sT rs k:Int)+(tm:Int))=(sT rs (k+1):Int):=by rw[BJ];have:=Ud.o;have:=Uw.o;omega
      have f6:IntKind.i64.wrap ((k:Int)+1)=(k:Int)+1:=by rw[BJ];omega
      clear z2 z3 z4 H1 H2 Uf dh;go_region_held3 (λw'=>w'.cell? ⟨g,k*11,none⟩=some x0/\w'.cell? ⟨g,k*11+1,none⟩=some x1/\w'.cell? ⟨g,k*11+2,none⟩=some x2/\w'.cell? ⟨g,k*11+3,none⟩=some x3/\w'.cell? ⟨g,k*11+4,none⟩=some x4/\w'.cell? ⟨g,k*11+5,none⟩=some x5/\w'.cell? ⟨g,k*11+6,none⟩=some x6/\w'.cell? ⟨g,k*11+7,none⟩=some x7/\w'.cell? ⟨g,k*11+8,none⟩=some x8/\w'.cell? ⟨g,k*11+9,none⟩=some x9/\w'.cell? ⟨g,k*11+10,none⟩=some aq/\w'.cell? ⟨BS,0,none⟩=some (D aS lS cS)) (first|(with_reducible exact⟨l,C,L,N,P,Q,R,T,U,W,I,kd⟩)|(go_keep;done))
      (first
       |(go_at_call 16;refine(H5.o _ hq).mono ?_;clear H5;rintro e ia ⟨rfl,a⟩;replace hq:=Bt hq a;clear a;clear l C L N P Q R T U W I kd;obtain⟨⟨l,C,L,N,P,Q,R,T,U,W,I⟩,_,kd⟩:=HC.o _ hq)
       |(go_at_call 22;refine(H6.o _ hq).mono ?_;clear H6;rintro e ie ⟨rfl,a⟩;replace hq:=Bt hq a;clear a;clear l C L N P Q R T U W I kd;obtain⟨⟨l,C,L,N,P,Q,R,T,U,W,I⟩,_,kd⟩:=HC.o _ hq)
       |(go_at_call 16;refine(Qz.o _ hq).mono ?_;clear Qz;rintro e ib ⟨rfl,a⟩;replace hq:=Bt hq a;clear a;clear l C L N P Q R T U W I kd;obtain⟨⟨l,C,L,N,P,Q,R,T,U,W,I⟩,_,kd⟩:=HC.o _ hq))
      go_wp2_with(go_at_call 16;refine(Qs.o _ hq).mono ?_;clear Qs;rintro e ic ⟨rfl,a⟩;replace hq:=Bt hq a;clear a;clear l C L N P Q R T U W I kd;obtain⟨⟨l,C,L,N,P,Q,R,T,U,W,I⟩,_,kd⟩:=HC.o _ hq)
      go_roundw
      case rel=>exact⟨k+1,O,rfl,by go_num,Z (Bt HB.o hq)⟩
      case measure=>simp[intOf];omega
    . obtain rfl:k=rs.length:=O
      have Ux:¬((rs.length:Int)<(rs.length:Int)):=O
      have cZ:=ur (HP.o.len) Qh.o;have Ur:CtOk 42 2000 z:=Z3 HZ.o.2.2 HZ.o.1 HZ.o.2.1 DN O DN;have AZ:=Z λ(V:E) (u:H) (hu:Jd V u z)=>Zw 42 2000 u z V hu Ur;rw[cZ]at AZ;obtain⟨d,hd⟩:=HP.o.deg;have eS:sT rs rs.length=(rs.map RtQ.tm).sum:=by unfold sT;rw[List.take_length]
      rw[<-eS]at hd;obtain⟨S,hS⟩:=ex (sT rs rs.length);rw[hS]at hd ⊢;have hM:=HM.o;have f1:¬m<S:=O
      have f3:IntKind.i64.wrap ((m:Int)-(S:Int))=2*(d:Int):=by rw[BJ];omega
      have f4:(2*(d:Int)).tmod 2=0:=Int.mul_tmod_right 2 _;obtain⟨d2,ed⟩:∃A:Int,2*(d:Int)=A:=⟨_,rfl⟩;rw[ed]at f3 f4;have cQ:=R5 (Jj u);have lQ:=(QW (Jj u)).1;have tQ:=R3 (Jj u);obtain⟨q9,ei⟩:=ex ((Y4 (Jj u)).1);rw[ei]at cQ lQ tQ Qq;have Ul:ChOk 41 z q9:=ChOk.of HZ.o.2.2 tQ HZ.o.1 (cQ.mono O) (n:=17) HZ.o.2.1 O DN O;have GC:=Z λ(V:E) (u v:H) (hu:Jd V u z) (hv:Jd V v q9)=>RI 41 u v z q9 V hu hv Ul;have Uq:=Z (And.intro cQ (And.intro lQ tQ));have n1:=boxed_below HN.o.1.1 HB.o;have r1:=HN.o.1.2.below HB.o;obtain⟨Qd,Ue,HW⟩:=Db (And.intro n1 r1) (HN.o.2.2.1.below HB.o) (Bt HN.o.2.2.2 HB.o);have e0:=n1.cell;have hq:=BB wr.heap.size wr;clear cZ Ur hd eS hS hM ed cQ lQ tQ ei Ul n1 r1 HN HB HM hk bm;go_upto_region 19 with(first
       |(go_at_call 28;refine(AZ.o _ _ (Qd.o.2.below hq)).mono ?_;clear AZ;rintro e v1 ⟨rfl,ae⟩;replace hq:=Bt hq ae;clear ae e0;have e0:=(boxed_below Qd.o.1 hq).cell)
       |(go_at_call 26;refine(Qm.o _ _ (Qd.o.2.below hq)).mono ?_;rintro e v2 ⟨rfl,ae⟩;replace hq:=Bt hq ae;clear ae e0;have e0:=(boxed_below Qd.o.1 hq).cell)
       |(go_at_call 8;refine(Qq.o _).mono ?_;clear Qq;rintro e w6 ⟨u6,rfl,g6,dz⟩;replace hq:=Bt hq dz;obtain⟨aQ,lQ,cQ,rfl⟩:=g6.form))
      obtain⟨VQ,BQ,hV,hB,nQ,rQ,dx⟩:=Mu g6;rw[hV,hB];replace hq:=Bt hq dx
      clear hV hB g6 dz dx e0 Qm;have e0:=(boxed_below Qd.o.1 hq).cell;have e1:=nQ.cell;go_upto_region 20 with(go_at_call 29;refine(GC.o _ _ _ (Qd.o.2.below hq) rQ).mono ?_;clear GC;rintro e w7 ⟨u7,rfl,g7,am⟩;obtain⟨aG,lG,cG,rfl⟩:=g7.form)
      obtain⟨VG,BG,hV,hB,nG,rG,dt⟩:=Mu g7;rw[hV,hB];have HN:=Z (show(Dd VG BQ aQ lQ cQ/\Jd VG (.agg #[D aQ lQ cQ]) q9)/\(Dd VG BG aG lG cG/\Jd VG (.agg #[D aG lG cG]) (Jr z q9))/\Ir VG (D a9 rs.length c9) rs/\Bl w VG from by
       have h1:=Bt am dt
       have h2:=Bt hq h1
       exact⟨⟨boxed_below nQ h1,rQ.below h1⟩,⟨nG,rG⟩,Ue.o.below h2,Bt HW.o h2⟩)
      clear hV hB g7 am dt nG rG nQ rQ hq e0 e1 Qd Ue HW;go_upto_region 22 with fail
      go_loopw [14,15] (λnv iv wr=>∃k:Nat,k<=rs.length/\nv=G .i64 (sN rs q9 k)/\iv=G .i64 (k:Int)/\Hid (Bl VG wr)) λ_ iv _=>rs.length-(intOf iv).toNat
      case atStart=>exact⟨0,As _,rfl,rfl,Z (BB _ _)⟩
      case round=>as_aux_lemma=>
       obtain⟨k,hk,rfl,rfl,HB⟩:=hrel;by_cases bm:k<rs.length
       . obtain⟨r,er⟩:∃r,rs[k]?=some r:=⟨_,AK bm⟩;obtain⟨_,_,ev,GR⟩:=HN.o.2.2.1;injection ev with bu bz ce
         subst bu ce;clear bz;obtain⟨g,x0,x1,x2,x3,x4,x5,x6,x7,x8,x9,aq,ea,A0⟩:=GR k r er;subst ea;replace A0:=A0.below HB.o;have rQ:=HN.o.1.2.below HB.o;have bQ:=boxed_below HN.o.1.1 HB.o;have Qa:=List.mem_of_getElem? er;obtain⟨ok,_⟩:=HP.o.at er;obtain⟨ah,az,ai⟩:=Uq.o;have cM:Cd 60 (JR [] q9):=(us ah).mono O;have lM:(JR [] q9).length<=17:=Ad (ut q9) O;have cT:Cd 60 (Ji q9 q9):=(ah.mul ah).mono O;have lT:(Ji q9 q9).length<=17:=uu ai az;have sQ:=ah.sqs O;obtain⟨H1,Qn,Ql,Us,Uu⟩:=IB (λ(V:E) (h:Bl wr V)=>Mw HP.o Qa ai (ah.mono O) O V _ _ (A0.below h).2.2 (rQ.below h)) (λ(V:E) (x:H) (h:Bl wr V) (hx:Jd V x (JR [] q9))=>Mw HP.o Qa (Yx [] q9) cM lM V _ _ (A0.below h).2.2 hx) (λ(V:E) (x:H) (h:Bl wr V) (hx:Jd V x (Ji q9 q9))=>Mw HP.o Qa (Jv q9 q9) cT lT V _ _ (A0.below h).2.2 hx) (λ(V:E) (x:H) (h:Bl wr V) (hx:Jd V x [])=>Wl x _ [] q9 V hx (rQ.below h) (Sqs.of λi=>Sq.of (k:=1) (by rw[Xk];exact DV.zero 1 O) O) sQ (cM.sqs O)) λ(V:E) (h:Bl wr V)=>R6 _ _ q9 q9 V (rQ.below h) (rQ.below h) sQ sQ (ah.times ah O) O;rw[ok.sign_neg]at Qn;rw[ok.sign_sq]at Ql;have Qp:=Z (bO (q:=q9) er);have Qt:=ok.sign3 q9;obtain⟨sq,fe⟩:=ex (r.sign q9);rw[fe]at H1 Qn Ql Qp Qt;have H2:=H1;have H3:=H1;have H4:=H1;obtain⟨n9,an⟩:=ex (sN rs q9 k);have Uv:=uq rs q9 k;rw[an]at Qp Uv ⊢;have Uz:¬((k:Int)<0):=O
         have Wa:(k:Int)<(rs.length:Int):=O
         have HC:=Z λ(V:E) (h:Bl wr V)=>And.intro (A0.below h).2.1 (boxed_below bQ h).cell;have hq:Bl wr wr.drew:=(BB _ wr).drew;obtain⟨⟨l,C,L,N,P,Q,R,T,U,W,I⟩,kq⟩:=HC.o _ hq;clear A0 rQ bQ Qa ok ah az ai cM lM cT lT sQ fe an er GR;go_upto_region 24 with fail
         go_region_held3 (λw'=>w'.cell? ⟨g,k*11,none⟩=some x0/\w'.cell? ⟨g,k*11+1,none⟩=some x1/\w'.cell? ⟨g,k*11+2,none⟩=some x2/\w'.cell? ⟨g,k*11+3,none⟩=some x3/\w'.cell? ⟨g,k*11+4,none⟩=some x4/\w'.cell? ⟨g,k*11+5,none⟩=some x5/\w'.cell? ⟨g,k*11+6,none⟩=some x6/\w'.cell? ⟨g,k*11+7,none⟩=some x7/\w'.cell? ⟨g,k*11+8,none⟩=some x8/\w'.cell? ⟨g,k*11+9,none⟩=some x9/\w'.cell? ⟨g,k*11+10,none⟩=some aq/\w'.cell? ⟨BQ,0,none⟩=some (D aQ lQ cQ)) (first|(with_reducible exact⟨l,C,L,N,P,Q,R,T,U,W,I,kq⟩)|(go_keep;done))
         (first
          |(go_at_call 22;refine(H1.o _ hq).mono ?_;clear H1;rintro e df ⟨rfl,a⟩;replace hq:=Bt hq a;clear a;clear l C L N P Q R T U W I kq;obtain⟨⟨l,C,L,N,P,Q,R,T,U,W,I⟩,kq⟩:=HC.o _ hq))
         have Qy:=Z hq;clear hq l C L N P Q R T U W I kq;obtain⟨n1,ap⟩:=ex ((if sq=0 then n9+1 else n9));have Qd:=Z (show sN rs q9 (k+1)=n1 by rw[Qp.o,<-ap];split<;>omega);go_upto_if 157 with fail
         go_cut [14] λnv wx=>nv=G .i64 n1/\wx=df
         case first=>
          by_cases h0:sq=0
          . have f0:(sq==0)=true:=by rw[h0];rfl
            have f1:IntKind.i64.wrap (n9+1)=n1:=by rw[<-ap,BF h0,BJ];omega
            clear ap h0;go_wp2_with fail
            go_meet
            exact⟨rfl,rfl⟩
          . have f0:(sq==0)=false:=by rw[Be];exact h0
            obtain rfl:n9=n1:=by rw[<-ap,BE h0]
            clear ap h0;go_wp2_with fail
            go_meet
            exact⟨rfl,rfl⟩
         obtain⟨rfl,rfl⟩:=hcut;have f3:IntKind.i64.wrap ((k:Int)+1)=(k:Int)+1:=by rw[BJ];omega
         clear ap Qp Uv;go_upto_region 27 with fail
         have MM:DM wc (wc.alloc (.cells #[D none 0 0] 25)) [some (wc.heap.size,.poly [])]:=DM.push (DM.nil wc) (.poly []) (Ns wc);obtain⟨VM,hV⟩:=ex (wc.alloc (.cells #[D none 0 0] 25));obtain⟨BM,hB⟩:=ex (wc.heap.size);rw[hV,hB]at MM;rw[hV,hB];clear hV hB;obtain⟨a5,l5,c5,n5,r5⟩:=MM.poly2 (i:=0) rfl;have hq:=Bt Qy.o MM.2.2
         have e0:=n5.cell;have f0:=n5.frozen;obtain⟨_,kq⟩:=HC.o _ hq;have Uo:=Z MM;have Qo:=Z (And.intro n5 (And.intro r5 hq));clear n5 r5 MM hq;go_upto_region 28 with(go_at_call 30;refine(Us.o _ _ Qo.o.2.2 Qo.o.2.1).mono ?_;clear Us;rintro e w8 ⟨u8,rfl,g8,bj⟩;obtain⟨aM,lM,cM,rfl⟩:=g8.form;clear e0 f0 kq;have e0:=(boxed_below Qo.o.1 bj).cell;have f0:=(boxed_below Qo.o.1 bj).frozen)
         have MM:=(Uo.o.below bj).putPoly (i:=0) rfl g8;obtain⟨gi,hV⟩:=ex (w8.setCell ⟨BM,0,none⟩ (D aM lM cM));rw[hV]at MM;rw[hV];clear hV g8 e0 f0 Uo Qo bj;obtain⟨a6,l6,c6,nM,rM⟩:=MM.poly2 (i:=0) rfl;have hq:=Bt Qy.o MM.2.2
         obtain⟨_,kq⟩:=HC.o _ hq;have Qi:=Z (Uu.o _ hq);clear MM Uu;go_upto_region 29 with(go_at_call 9;refine Qi.o.mono ?_;clear Qi;rintro e w7 ⟨u7,rfl,g7,am⟩;obtain⟨aT,lT,cT,rfl⟩:=g7.form)
         obtain⟨VT,BT,hV,hB,nT,rT,bf⟩:=Mu g7;rw[hV,hB];obtain⟨Qc,Qe,Qb⟩:=Db (Bt hq (Bt am bf)) (And.intro (boxed_below nM (Bt am bf)) (rM.below (Bt am bf))) (And.intro nT rT);obtain⟨n2,co⟩:∃x,-sq=x:=⟨_,rfl⟩;obtain⟨s2,bn⟩:=ex (sq*sq);have f4:IntKind.i64.wrap (-sq)=n2:=by rw[co,BJ];omega
         have f5:IntKind.i64.wrap (sq*sq)=s2:=by
          have:s2=0\/s2=1:=by rw[<-bn];rcases Qt with e|e|e<;>rw[e]<;>decide
          rw[bn,BJ];omega
         rw[co]at Qn;rw[bn]at Ql;clear hV hB g7 am bf nT rT nM rM hq kq co bn Qt Qy;have hq:Bl VT VT.drew:=(BB _ VT).drew;obtain⟨⟨l,C,L,N,P,Q,R,T,U,W,I⟩,kq⟩:=HC.o _ (Bt Qc.o hq);have km:=(boxed_below Qe.o.1 hq).cell;have kt:=(boxed_below Qb.o.1 hq).cell;go_region_held3 (λw'=>w'.cell? ⟨g,k*11,none⟩=some x0/\w'.cell? ⟨g,k*11+1,none⟩=some x1/\w'.cell? ⟨g,k*11+2,none⟩=some x2/\w'.cell? ⟨g,k*11+3,none⟩=some x3/\w'.cell? ⟨g,k*11+4,none⟩=some x4/\w'.cell? ⟨g,k*11+5,none⟩=some x5/\w'.cell? ⟨g,k*11+6,none⟩=some x6/\w'.cell? ⟨g,k*11+7,none⟩=some x7/\w'.cell? ⟨g,k*11+8,none⟩=some x8/\w'.cell? ⟨g,k*11+9,none⟩=some x9/\w'.cell? ⟨g,k*11+10,none⟩=some aq/\w'.cell? ⟨BQ,0,none⟩=some (D aQ lQ cQ)/\w'.cell? ⟨BM,0,none⟩=some (D a6 l6 c6)/\w'.cell? ⟨BT,0,none⟩=some (D aT lT cT)) (first|(with_reducible exact⟨l,C,L,N,P,Q,R,T,U,W,I,kq,km,kt⟩)|(go_keep;done))
         (first
          |(go_at_call 22;refine(Qn.o _ _ (Bt Qc.o hq) (Qe.o.2.below hq)).mono ?_;clear Qn;rintro e v9 ⟨rfl,a⟩;replace hq:=Bt hq a;clear a;clear l C L N P Q R T U W I kq km kt;obtain⟨⟨l,C,L,N,P,Q,R,T,U,W,I⟩,kq⟩:=HC.o _ (Bt Qc.o hq);have km:=(boxed_below Qe.o.1 hq).cell;have kt:=(boxed_below Qb.o.1 hq).cell)
          |(go_at_call 22;refine(H2.o _ (Bt Qc.o hq)).mono ?_;clear H2;rintro e v9 ⟨rfl,a⟩;replace hq:=Bt hq a;clear a;clear l C L N P Q R T U W I kq km kt;obtain⟨⟨l,C,L,N,P,Q,R,T,U,W,I⟩,kq⟩:=HC.o _ (Bt Qc.o hq);have km:=(boxed_below Qe.o.1 hq).cell;have kt:=(boxed_below Qb.o.1 hq).cell)
          |(go_at_call 22;refine(Ql.o _ _ (Bt Qc.o hq) (Qb.o.2.below hq)).mono ?_;clear Ql;rintro e v9 ⟨rfl,a⟩;replace hq:=Bt hq a;clear a;clear l C L N P Q R T U W I kq km kt;obtain⟨⟨l,C,L,N,P,Q,R,T,U,W,I⟩,kq⟩:=HC.o _ (Bt Qc.o hq);have km:=(boxed_below Qe.o.1 hq).cell;have kt:=(boxed_below Qb.o.1 hq).cell)
          |(go_at_call 22;refine(H3.o _ (Bt Qc.o hq)).mono ?_;clear H3;rintro e v9 ⟨rfl,a⟩;replace hq:=Bt hq a;clear a;clear l C L N P Q R T U W I kq km kt;obtain⟨⟨l,C,L,N,P,Q,R,T,U,W,I⟩,kq⟩:=HC.o _ (Bt Qc.o hq);have km:=(boxed_below Qe.o.1 hq).cell;have kt:=(boxed_below Qb.o.1 hq).cell)
          |(go_at_call 22;refine(H4.o _ (Bt Qc.o hq)).mono ?_;clear H4;rintro e v9 ⟨rfl,a⟩;replace hq:=Bt hq a;clear a;clear l C L N P Q R T U W I kq km kt;obtain⟨⟨l,C,L,N,P,Q,R,T,U,W,I⟩,kq⟩:=HC.o _ (Bt Qc.o hq);have km:=(boxed_below Qe.o.1 hq).cell;have kt:=(boxed_below Qb.o.1 hq).cell))
         go_wp2_with fail
         go_roundw
         case rel=>exact⟨k+1,O,by rw[Qd.o],by go_num,Z (HB.o.trans ((Bt Qc.o hq).mono HB.o.size))⟩
         case measure=>simp[intOf];omega
       . obtain rfl:k=rs.length:=O
         have Ux:¬((rs.length:Int)<(rs.length:Int)):=O
         obtain⟨ah,az,ai⟩:=Uq.o;have bQ:=boxed_below HN.o.1.1 HB.o;have rQ:=HN.o.1.2.below HB.o;have bG:=boxed_below HN.o.2.1.1 HB.o;have rG:=HN.o.2.1.2.below HB.o;obtain⟨HW,Ub,Um⟩:=Db (Bt HN.o.2.2.2 HB.o) (And.intro bQ rQ) (And.intro bG rG);have hq:=BB wr.heap.size wr;have e0:=bQ.cell;have e1:=bG.cell;have Qj:=Z λ(V:E) (x:H) (hx:Jd V x q9)=>JY x q9 V hx;obtain⟨n9,an⟩:=ex (sN rs q9 rs.length);rw[an];by_cases q0:q9=[]
         . have HD:=Qj;rw[q0,show(([]:List Rat).length:Int)-1=-1 from rfl]at HD;rw[q0]at Ub;clear ah az ai bQ rQ bG rG an Qj q0;go_wp2_with(first
            |(go_at_call 26;refine(HD.o _ _ (Ub.o.2.below hq)).mono ?_;clear HD;rintro e v1 ⟨rfl,ae⟩;replace hq:=Bt hq ae;clear ae e0 e1)
            |(go_at_call 21;refine(AL.o _ (Bt HW.o hq)).mono ?_;clear AL;rintro e v3 ⟨rfl,ae⟩;replace hq:=Bt hq ae;clear ae))
           go_ret;exact⟨rfl,Bt HW.o hq⟩
         . obtain⟨d9,fo⟩:=ex (q9.length-1:Nat);have Up:(q9.length:Int)-1=(d9:Int):=by have:=Ac.2 q0;omega
           have gn:¬(d9:Int)<0:=O
           rw[Up]at Qj;have tg:=JE z q9;have g0:=J6 HZ.o.2.2 ai (Or.inl Qh.o);have dv:=(Yf HZ.o.2.2 ai).1;have cg:Cd 46 (Jr z q9):=Ww HZ.o.2.2 Qh.o (by have:=HZ.o.2.1;omega) HZ.o.1 tg (YM HZ.o.2.2 ai) dv;have lg:(Jr z q9).length<=17:=Ad (dv.len tg HZ.o.2.2 Qh.o).1 HZ.o.2.1;have Uc:CtOk 47 2000 (Jr z q9):=Z3 tg cg lg DN O DN;have AG:=Z λ(V:E) (u:H) (hu:Jd V u (Jr z q9))=>Zw 47 2000 u (Jr z q9) V hu Uc;have eG:KI (Jr z q9)=n9:=by
            have h1:=HP.o.cnt q9 ai q0;rw[<-an];unfold sN KI;rw[List.take_length,h1,BE g0];rfl
           rw[eG]at AG;clear ah az ai bQ rQ bG rG an q0 fo Up tg g0 dv cg lg Uc eG;go_wp2_with(first
            |(go_at_call 26;refine(Qj.o _ _ (Ub.o.2.below hq)).mono ?_;clear Qj;rintro e v1 ⟨rfl,ae⟩;replace hq:=Bt hq ae;clear ae e0 e1;have e1:=(boxed_below Um.o.1 hq).cell)
            |(go_at_call 28;refine(AG.o _ _ (Um.o.2.below hq)).mono ?_;clear AG;rintro e v1 ⟨rfl,ae⟩;replace hq:=Bt hq ae;clear ae e1)
            |(go_at_call 21;refine(AL.o _ (Bt HW.o hq)).mono ?_;clear AL;rintro e v3 ⟨rfl,ae⟩;replace hq:=Bt hq ae;clear ae))
           go_ret;exact⟨rfl,Bt HW.o hq⟩
