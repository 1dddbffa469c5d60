import Derived.Test.YtcahejkcdcjjgaaGreatDoorT08
import Derived.Laws.CopyOwn
import Derived.Deep.OwnRows
import Derived.Lib.SliceRun
open Go.Value renaming slice->B,int->G
open Go renaming World->C,undef->J
open Go.Proofs.Tryz renaming prog->E
open Go.IntKind renaming u64->F,i64->I
open Go.Obj renaming cells->H
set_option maxRecDepth 100000
set_option maxHeartbeats 16000000
namespace Go.Proofs.YtcahejkcdcjjgaaGreatDoor
open Go.RowKit Go.Shelf
section
theorem BX:type_of% @CallsIn.inRound:=@CallsIn.inRound
variable{p:Addr}{g:Array Bool}{d:Array Oper}{Q:Exit->Act->C->Prop}{f:List (List Nat)}{bs ds q xs:List Nat}{c i l len m n:Nat}{a:Option Addr}{P:Program}{w:C}
theorem Ro(n:Nat):madeCells #[G F 0] n=(cellsOf F (List.replicate n 0)).toArray:=by
 apply Array.ext
 . simp[madeCells,cellsOf]
 . intro i b a;simp[madeCells,cellsOf,Nat.mod_one]
theorem Hg(n:Nat)(h:n<=2199023255552)(w:C):(Instr.makeSlice 34 (G I (n:Int)) (G I (n:Int))).run E w=.ok (B (some ⟨w.heap.size,0,none⟩) n n) (w.alloc (H (cellsOf F (List.replicate n 0)).toArray 163)):=by
 rw[<-Ro];exact run_make_row' 34 163 (G F 0) 8 Tryz.underlying34 Tryz.infoU64 rfl I I n om om w
theorem KU(l:Nat)(h:l<=2199023255551)(w:C):(Instr.makeSlice 34 (G I ((l:Int)+1)) (G I ((l:Int)+1))).run E w=.ok (B (some ⟨w.heap.size,0,none⟩) (l+1) (l+1)) (w.alloc (H (cellsOf F (List.replicate (l+1) 0)).toArray 163)):=
 Hg (l+1) om w
theorem IV(b o j:Nat):(⟨b,o,none⟩:Addr).add j=⟨b,o+j,none⟩:=by simp[Addr.add]
theorem YZ(h:n<=m):(Jc DN n).length<=(Jc DN m).length:=by
 rcases AB (Jc DN m).length (Jc DN n).length with a|a
 . have:=YC Je a;omega
 . exact a
theorem Rp{W:C}(h:Row F w (B a l c) ds)(m:Bl w W)(e:a=some p)(_h0:0<l)(j:Nat)(v:Value)(d:(cellsOf F ds)[j]?=some v):W.cell? (p.add j)=some v:=by
 obtain⟨hl,_,_,_,k⟩:=Js h;have g:j<ds.length:=by
  rcases AB j ds.length with f|f
  . exact f
  . rw[Aq (by simpa[cellsOf]using f)]at d;cases d
 obtain⟨b,off,n,o,i⟩:=k j om;rw[n]at e;cases e;rw[IV];rw[(m.cell (p:=⟨b,off+j,none⟩) o),i];simp only[cellsOf,CP,Af g,C1,Ak]at d;rw[<-d,Af g];rfl
theorem Gc(h:Row F w (B a l c) ds)(e:a=some p)(d:0<l):p.block<w.heap.size:=by
 obtain⟨b,off,f,g,_⟩:=(Js h).2.2.2.2 0 d;rw[f]at e;cases e;exact g
theorem Rq(h:Row F w (B a l c) ds)(d:0<l):∃p,a=some p:=by
 obtain⟨b,off,e,f,_⟩:=(Js h).2.2.2.2 0 d;exact⟨_,e⟩
theorem Nk(h:Ep xs bs 0 len c q)(i:xs=Jc DN m)(f:bs=Jc DN n)(hl:len=xs.length)(e:bs.length<=len)(l:n<=m):Jt q=Jc DN (m-n):=by
 obtain⟨j,b,o,g⟩:=h;rw[Au,Ab (show xs.length<=len by omega),Ab e,i,f,Jm Je,Jm Je]at g;have d:=Yd b;rw[j]at d;have k:c=0:=by
  rcases AB 0 c with a|a
  . have:=Az (DN^len) a;omega
  . omega
 subst k;rw[<-JU Je b];congr 1;omega
theorem Lo(g c i:Nat)(a:Option Addr)(b f:Nat)(xs:List Nat)(w d:C)(n:Row F w (B a b f) xs)(k:Bl w d)(u:w.heap.size<=g)(o:d.heap[g]?=some (H (cellsOf F (List.replicate c 0)).toArray 163 (0,0)))(hl:b<=c):
 ∃l,(Builtin.copy_ #[34,34] 3 #[B (some ⟨g,0,none⟩) c i,B a b f]).run E d=.ok (G I (b:Nat)) l/\DU l g (xs++List.replicate (c-b) 0)/\Bl w l:=by
 obtain⟨s,_⟩:=Js n;have q:(Tryz.prog.info? 163).map (·.size)=some 1:=by kernel_rfl
 have t:(cellsOf F xs)++(cellsOf F (List.replicate c 0)).drop b=cellsOf F (xs++List.replicate (c-b) 0):=by simp[cellsOf]
 by_cases x:b=0
 . subst x;refine⟨d,run_copy_none (P:=E) d 34 34 3 163 (some ⟨g,0,none⟩) a c i 0 f Tryz.underlying34 q (Nat.zero_min c),DU.made ?_,k⟩;obtain rfl:xs=[]:=Am s.symm;rw[Ap,CV];exact o
 . obtain⟨p,y⟩:=Rq n om;subst y;have m:(cellsOf F xs).length=b:=by simp[cellsOf,s]
   have r:=run_copy_row (P:=E) d 34 34 3 163 g 0 c i p b f _ 163 (cellsOf F xs) Tryz.underlying34 q o (by rw[m];exact(Cx hl).symm) (λj v e=>Rp n k rfl om j v e) (by rw[m];simp[cellsOf];exact hl) (λv e=>by
    rw[cellsOf,Fc]at e;obtain⟨_,_,rfl⟩:=e;rfl)
   rw[m,CK,Ap,Ck,t]at r;exact⟨_,r,DU.made (setRow_heap d g _ _ _ _ o),below_setRow k u _⟩
theorem Lp(a:Option Addr)(d s:Nat)(b:Option Addr)(lb r m n:Nat)(w:C)(l:Row F w (B a d s) (Jc DN m))(t:Row F w (B b lb r) (Jc DN n))(h:n<=m):
 Calls E 115 #[B a d s,B b lb r] w λe L=>∃u,e=.returned u/\UN L u (m-n)/\Bl w L:=by
 obtain⟨hl,ah,ae,T,Q⟩:=Js l;obtain⟨K,ai,aj,af,O⟩:=Js t;have N:lb<=d:=by rw[hl,K];exact YZ h
 have g:=Ja hl;have k:=Ja t;have P:=Hg d om w;obtain⟨f,i⟩:∃f,f=w.alloc (H (cellsOf F (List.replicate d 0)).toArray 163):=⟨_,rfl⟩;have A:Bl w f:=by rw[i];exact Ba w _
 have x:f.heap[w.heap.size]?=some (H (cellsOf F (List.replicate d 0)).toArray 163 (0,0)):=by rw[i];exact BC w _
 rw[<-i]at P;obtain⟨w2,Y,hA2,D⟩:=Lo w.heap.size d d a d s (Jc DN m) w f l A (Aa _) x (Aa _);rw[A0,List.replicate_zero,Cm]at hA2;have ad:=hA2.lt;clear Q hl O K l t i A x;go_enter Tryz.func115,Tryz.ntmps115
 go_wp2_with(go_at_call 148;refine(Nj w.heap.size 0 d d (Jc DN m) b lb r (Jc DN n) _ hA2 (Jo Je m) (by rw[Ck,<-g.o];exact Aa _) (Aa _) om N (Row.below k.o D) (Jo Je n) (λp e V=>by have:=Gc k.o e V;omega)).mono ?_)
 rintro e z ⟨c,q,rfl,j,hA3,y⟩;have W:=j.1;have X:Row F z (B (some ⟨w.heap.size,0,none⟩) d d) q:=by
  have S:=hA3.row 0 d d (by rw[JP W (by rw[<-g.o];omega),<-g.o];omega) (Aa _) om T;have M:((Da (Jc DN m) 0 d q).drop 0).take d=q:=by
   rw[Au,Da,CK,Ap,AL om,Ab om]
  rwa[M]at S
 have U:=Ja (Nk j rfl rfl g.o (by have:=Js k.o;omega) h);have v:Bl w z:=below_grown D y (Aa _);clear j hA3 y;go_wp2_with(go_at_call 132;refine(YK _ q _ X).mono ?_)
 rintro e w4 ⟨u,rfl,o,R⟩;rw[U.o]at o;obtain⟨ua,Z,rfl⟩:=UN.form o;go_wp2;go_ret;exact⟨_,rfl,o,v.trans (R.mono v.size)⟩
theorem Nl(h:FA (xs++[0]) bs 0 len c q)(d:xs=Jc DN m)(a:bs=Jc DN n)(hl:len=xs.length+1)(g:bs.length<=xs.length):Jt q=Jc DN (m+n):=by
 obtain⟨p,f,l,b⟩:=h;have o:m<DN^xs.length:=by
  have:=Yd (Jo Je m);rwa[Jm Je,<-d]at this
 have r:n<DN^xs.length:=by
  have:=Yd (Jo Je n);rw[Jm Je,<-a]at this;exact AC this (AD uo g)
 rw[Au,Ab (show(xs++[0]).length<=len by simp;omega),Ab (show bs.length<=len by omega),Yl,Cq,Cd,a,Jm Je]at b;have i:val DN xs=m:=by rw[d,Jm Je]
 rw[i]at b;have j:DN^len=DN^xs.length*DN:=by rw[hl,AR]
 have s:DN^xs.length*2<=DN^len:=by rw[j];exact Az _ Je
 have k:c=0:=by
  rcases AB 0 c with e|e
  . have:=Az (DN^len) e;omega
  . omega
 subst k;rw[<-JU Je f];congr 1
theorem Nm(a:Option Addr)(d L:Nat)(b:Option Addr)(lb K m n:Nat)(w:C)(l:Row F w (B a d L) (Jc DN m))(o:Row F w (B b lb K) (Jc DN n))(an:d<1099511627776)(ap:lb<1099511627776):
 Calls E 113 #[B a d L,B b lb K] w λe Y=>∃u,e=.returned u/\UN Y u (m+n)/\Bl w Y:=by
 by_cases ak:d<lb
 . obtain⟨hl,af,ad,ah,R⟩:=Js o;obtain⟨D,ai,aj,ae,O⟩:=Js l;obtain⟨s,y,Q⟩:=Dm hl l D;have P:=KU lb om w;obtain⟨f,g⟩:∃f,f=w.alloc (H (cellsOf F (List.replicate (lb+1) 0)).toArray 163):=⟨_,rfl⟩;have r:Bl w f:=by rw[g];exact Ba w _
   have z:f.heap[w.heap.size]?=some (H (cellsOf F (List.replicate (lb+1) 0)).toArray 163 (0,0)):=by rw[g];exact BC w _
   rw[<-g]at P;obtain⟨w2,Z,hA2,A⟩:=Lo w.heap.size (lb+1) (lb+1) b lb K (Jc DN n) w f o r (Aa _) z om;rw[show lb+1-lb=1 from by omega,List.replicate_one]at hA2;have Qi:=hA2.lt;have X:=Ja (show DP DN (Jc DN n++[0])from(Jo Je n).append (DP.cons uo (DP.nil _)));have k:=Ja (show(Jc DN n++[0]).length=lb+1 by rw[Al,<-hl];rfl);clear R hl O D l o g r z;go_enter Tryz.func113,Tryz.ntmps113
   go_wp2_with(go_at_call 146;refine(Ln w.heap.size 0 (lb+1) (lb+1) (Jc DN n++[0]) a d L (Jc DN m) _ hA2 X.o (by rw[Ck,k.o];exact Aa _) (Aa _) om om (Row.below y.o A) (Jo Je m) (λp e V=>by have:=Gc y.o e V;omega)).mono ?_)
   rintro e x ⟨c,q,rfl,i,hA3,t⟩;have W:=i.1;have M:Row F x (B (some ⟨w.heap.size,0,none⟩) (lb+1) (lb+1)) q:=by
    have T:=hA3.row 0 (lb+1) (lb+1) (by rw[JP W (by rw[k.o];omega),k.o];omega) (Aa _) om om;have N:((Da (Jc DN n++[0]) 0 (lb+1) q).drop 0).take (lb+1)=q:=by
     rw[Au,Da,CK,Ap,AL om,Ab om]
    rwa[N]at T
   have U:=Ja (Nl i rfl rfl (by rw[<-s.o]) (by rw[<-s.o,<-Q.o];omega));have v:Bl w x:=below_grown A t (Aa _);clear i hA3 t;go_wp2_with(go_at_call 132;refine(YK _ q _ M).mono ?_)
   rintro e w4 ⟨u,rfl,j,S⟩;rw[U.o]at j;obtain⟨ua,uc,rfl⟩:=UN.form j;go_wp2;go_ret;exact⟨_,rfl,by rw[CW m n];exact j,v.trans (S.mono v.size)⟩
 . obtain⟨hl,af,ad,ah,R⟩:=Js l;obtain⟨D,ai,aj,ae,O⟩:=Js o;obtain⟨s,y,Q⟩:=Dm hl o D;have P:=KU d om w;obtain⟨f,g⟩:∃f,f=w.alloc (H (cellsOf F (List.replicate (d+1) 0)).toArray 163):=⟨_,rfl⟩;have r:Bl w f:=by rw[g];exact Ba w _
   have z:f.heap[w.heap.size]?=some (H (cellsOf F (List.replicate (d+1) 0)).toArray 163 (0,0)):=by rw[g];exact BC w _
   rw[<-g]at P;obtain⟨w2,Z,hA2,A⟩:=Lo w.heap.size (d+1) (d+1) a d L (Jc DN m) w f l r (Aa _) z om;rw[show d+1-d=1 from by omega,List.replicate_one]at hA2;have Qi:=hA2.lt;have X:=Ja (show DP DN (Jc DN m++[0])from(Jo Je m).append (DP.cons uo (DP.nil _)));have k:=Ja (show(Jc DN m++[0]).length=d+1 by rw[Al,<-hl];rfl);clear R hl O D l o g r z;go_enter Tryz.func113,Tryz.ntmps113
   go_wp2_with(go_at_call 146;refine(Ln w.heap.size 0 (d+1) (d+1) (Jc DN m++[0]) b lb K (Jc DN n) _ hA2 X.o (by rw[Ck,k.o];exact Aa _) (Aa _) om om (Row.below y.o A) (Jo Je n) (λp e V=>by have:=Gc y.o e V;omega)).mono ?_)
   rintro e x ⟨c,q,rfl,i,hA3,t⟩;have W:=i.1;have M:Row F x (B (some ⟨w.heap.size,0,none⟩) (d+1) (d+1)) q:=by
    have T:=hA3.row 0 (d+1) (d+1) (by rw[JP W (by rw[k.o];omega),k.o];omega) (Aa _) om om;have N:((Da (Jc DN m++[0]) 0 (d+1) q).drop 0).take (d+1)=q:=by
     rw[Au,Da,CK,Ap,AL om,Ab om]
    rwa[N]at T
   have U:=Ja (Nl i rfl rfl (by rw[<-s.o]) (by rw[<-s.o,<-Q.o];omega));have v:Bl w x:=below_grown A t (Aa _);clear i hA3 t;go_wp2_with(go_at_call 132;refine(YK _ q _ M).mono ?_)
   rintro e w4 ⟨u,rfl,j,S⟩;rw[U.o]at j;obtain⟨ua,uc,rfl⟩:=UN.form j;go_wp2;go_ret;exact⟨_,rfl,j,v.trans (S.mono v.size)⟩
def XM(a:Array Bool):Nat:=a.toList.countP (λb=>!b)
theorem XR(a:i<g.size)(h:g.getD i true=false):XM (g.setIfInBounds i true)+1=XM g:=by
 obtain⟨l⟩:=g;simp only[An]at a;simp only[Array.getD,An,a,dif_pos,Array.getInternal_eq_getElem,List.getElem_toArray]at h;simp only[XM,List.setIfInBounds_toArray];induction l generalizing i with
 |nil=>simp at a
 |cons x l b=>
  cases i with
  |zero=>simp at h;subst h;simp
  |succ i=>
   simp only[Aj]at a;simp only[List.getElem_cons_succ]at h;have:=b om h;simp only[List.set_cons_succ,List.countP_cons];omega
theorem Rr{F:Fence}{c:Region.Mode}(I:Array Bool->Act->C->Prop)
(step:∀b a w i,b.size=d.size->I b a w->i∈Region.ready c d b->wpOpIn F n P d Q i (I (b.setIfInBounds i true)) a w)
(fin:∀b a w,b.size=d.size->I b a w->Region.ready c d b=[]->Q .normal a w):
 ∀(f:Nat) (b:Array Bool) (a:Act) (w:C),b.size=d.size->XM b<=f->I b a w->wpAnyIn F n P c d Q f b a w:=by
 intro f;have k:∀ {b:Array Bool} {i:Nat},i∈Region.ready c d b->i<d.size/\b.getD i true=false:=by
  intro b i e;simp only[Region.ready,Fu,List.mem_range,AA,Cl]at e;exact⟨e.1,e.2.1⟩
 induction f with
 |zero=>
  intro b a w hs q g;have m:Region.ready c d b=[]:=by
   cases s:Region.ready c d b with
   |nil=>rfl
   |cons i l=>
    obtain⟨r,j⟩:=k (show i∈Region.ready c d b by rw[s];exact CB);have:=XR (i:=i) om j;omega
  exact⟨m,fin _ _ _ hs g m⟩
 |succ f p=>
  intro b a w hs q g;refine⟨fin _ _ _ hs g,λi e=>?_⟩;obtain⟨r,j⟩:=k e;have:=XR (i:=i) om j;exact wpOpIn_mono (λo t h=>p _ o t (by simp[hs]) om h) (step b a w i hs g e)
theorem Rs{F:Fence}{id:Nat}{a:Act}(c:P.follows .mixedOrders=true)(I:Array Bool->Act->C->Prop)
(start:I (Array.replicate d.size false) a w.drew)
(step:∀b a w i,b.size=d.size->I b a w->i∈Region.ready .any d b->wpOpIn F n P d Q i (I (b.setIfInBounds i true)) a w)
(fin:∀b a w,b.size=d.size->I b a w->Region.ready .any d b=[]->Q .normal a w):
 (Code.region id d true).wpIn F n P Q a w:=
 wpIn_region_any c (Rr I step fin _ _ _ _ DO (by rw[XM];exact AE List.countP_le_length DO) start)
def KV(a:List (List Nat)):Bool:=a.zipIdx.all λp=>p.1.all (·<p.2)
theorem XS(h:KV f=true)(b:f[i]?=some ds){j:Nat}(a:j∈ds):j<i:=by
 simp only[KV,A8,BQ]at h;exact h (ds,i) (List.mk_mem_zipIdx_iff_getElem?.2 b) j a
theorem mem_ready{k:Region.Mode}(r:Region.tabAfter k d=f):
 i∈Region.ready k d g↔g.getD i true=false/\∃ds,f[i]?=some ds/\∀j∈ds,g.getD j false=true:=by
 subst r;simp only[Region.ready,Fu,List.mem_range,AA,Cl,Region.tabAfter,CP,Cf];constructor
 . rintro⟨m,p,b⟩;rw[AZ m]at b ⊢;simp only[C1,CO,Array.all_eq_true',CL,Cl]at b;refine⟨p,_,rfl,λj q=>?_⟩;simp only[Fc,Fu]at q;obtain⟨e,⟨n,l⟩,rfl⟩:=q;rcases b e (by simpa using n)with h|h
   . rw[l]at h;cases h
   . exact h
 . rintro⟨p,ds,a,b⟩;cases c:d[i]? with
   |none=>rw[c]at a;simp at a
   |some o=>
    rw[c]at a;simp only[C1,Ak]at a;subst a;have m:i<d.size:=by
     rcases AB i d.size with h|h
     . exact h
     . rw[Array.getElem?_eq_none h]at c;cases c
    refine⟨m,p,?_⟩;simp only[C1,CO,Array.all_eq_true',CL,Cl];intro e n;cases l:Region.binds k e with
    |false=>exact Or.inl rfl
    |true=>exact Or.inr (b e.on (by simp only[Fc,Fu];exact⟨e,⟨by simpa using n,l⟩,rfl⟩))
theorem YQ{F:Fence}{id:Nat}{a:Act}(A:P.follows .mixedOrders=true)
(c:List (List Nat))(s:Region.tabAfter .any d=c)(u:KV c=true)(I:(Nat->Bool)->Act->C->Prop)
(start:I (λ_=>false) a w.drew)
(step:∀(D:Nat->Bool) a w i ds,(∀i ds,c[i]?=some ds->D i=true->∀j∈ds,D j=true)->c[i]?=some ds->(∀j∈ds,D j=true)->D i=false->I D a w->wpOpIn F n P d Q i (I (λj=>j==i || D j)) a w)
(fin:∀(D:Nat->Bool) a w,(∀i,i<c.length->D i=true)->I D a w->Q .normal a w):
 (Code.region id d true).wpIn F n P Q a w:=by
 have x:c.length=d.size:=by rw[<-s];simp[Region.tabAfter]
 refine Rs A (λb a w=>(∀i ds,c[i]?=some ds->b.getD i false=true->∀j∈ds,b.getD j false=true)/\I (λj=>b.getD j false) a w) ⟨λi ds _ h=>?_,?_⟩ ?_ ?_
 . simp only[Array.getD,CE]at h;split at h<;>simp at h
 . have e:(λj=>(Array.replicate d.size false).getD j false)=λ_=>false:=by
    funext j;simp only[Array.getD,CE];split<;>simp
   rw[e];exact start
 . rintro b a w i hs ⟨p,r⟩ m;obtain⟨v,ds,g,t⟩:=(mem_ready s).1 m;have l:i<b.size:=by
    rw[hs,<-x];rcases AB i c.length with h|h
    . exact h
    . rw[Aq h]at g;cases g
   have L:b.getD i false=false:=by
    simp only[Array.getD,l,dif_pos]at v ⊢;exact v
   have e:∀j,(b.setIfInBounds i true).getD j false=(j==i || b.getD j false):=by
    intro j;rw[C3,C3,Array.getElem?_setIfInBounds];by_cases q:i=j
    . subst q;simp[l]
    . simp[q,Ne.symm q]
   refine wpOpIn_mono (λN O h=>⟨λy z o f j k=>?_,?_⟩) (step _ a w i ds p g t L r)
   . rw[e]at f ⊢;simp only[CL,beq_iff_eq]at f ⊢;rcases f with rfl|f
     . rw[g]at o;cases o;exact Or.inr (t j k)
     . exact Or.inr (p y z o f j k)
   . rw[show(λj=>(b.setIfInBounds i true).getD j false)=λj=>(j==i || b.getD j false)from funext e];exact h
 . rintro b a w hs ⟨p,r⟩ M;refine fin _ a w (λi=>?_) r;induction i using Nat.strongRecOn with
   |_ i K=>
    intro m;cases f:b.getD i false with
    |true=>rfl
    |false=>
     exfalso
     have g:c[i]?=some c[i]:=Af m;have:i∈Region.ready .any d b:=(mem_ready s).2 ⟨by
      have l:i<b.size:=om
      simp only[Array.getD,l,dif_pos]at f ⊢;exact f,_,g,λj k=>K j (XS u g k) (by have:=XS u g k;omega)⟩
     rw[M]at this;cases this
attribute [local go_sem] Oper.semAt_some
def Nn(w:C)(a:Option Addr)(len e:Nat)(b:Option Addr)(lb d:Nat)(xs c:List Nat)(k:Nat)(W:C):Prop:=
 (((Boxed W w.heap.size 34 (B b lb d)/\Boxed W (w.heap.size+1) 3 (G I 0))/\Boxed W (w.heap.size+1+1) 34 (B a len e))/\Bl w W)/\xs.drop (len-k)=c.drop (len-k)
def Np(w:C)(xs a:List Nat)(c:Code)(_k:Nat)(W:C):Prop:=
 (Boxed W (w.heap.size+1) 3 (G I (YT (val DN xs) (val DN a)))/\Bl w W)/\c=.ret
theorem Rt(w:C)(a:Option Addr)(len d:Nat)(b:Option Addr)(lb c:Nat)(xs e:List Nat):OwnFrom (w.heap.size+1+1+1) (Nn w a len d b lb c xs e):=
 BO (BO (BO (BO (Bj (boxed_own _ _ (λ_=>B b lb c)) _) (Bj (boxed_own _ _ (λ_=>G I 0)) _)) (Bj (boxed_own _ _ (λ_=>B a len d)) _)) (Bu (Aa _) om)) (DK _ _)
theorem Ru(w:C)(xs a:List Nat)(c:Code):OwnFrom (w.heap.size+1+1+1) (Np w xs a c):=
 BO (BO (Bj (boxed_own _ _ (λ_=>G I (YT (val DN xs) (val DN a)))) _) (Bu (Aa _) om)) (DK _ _)
theorem Rv{c:Bool}(h:m≠n)(a:c=decide (n<m)):(if c then 1 else -1:Int)=YT m n:=by
 subst a;rcases Nat.lt_or_gt_of_ne h with h|h
 . rw[Xu h,BE si]
 . rw[GT h,BI si]
theorem Rw(a:Option Addr)(c k:Nat)(b:Option Addr)(lb d:Nat)(w:C)(m n:Nat)(o:c≠lb)(l:c<lb↔m<n)(j:m≠n):
 Calls E 114 #[B a c k,B b lb d] w λe i=>e=.returned (G I (YT m n))/\Bl w i:=by
 have p:(((c:Nat):Int) != (lb:Int))=true:=by rw[DB];omega
 have g:=Ja (show(if decide ((lb:Int)<(c:Int))=true then 1 else -1:Int)=YT m n from Rv j (by congr 1;apply propext;omega));clear l j o;refine(BL (n:=3)).1 ?_;refine BW Tryz.func114 rfl trivial ?_ rfl;simp only[Tryz.ntmps114,An,Aj,AU,Nat.reduceAdd,Nat.reduceSub,AF,AG,AY,AK,Ap,Ax];gi_wp2_with(refine⟨trivial,?_⟩;gi_at_call 119;refine((BL (n:=_)).2 (La _ _)).mono ?_;rintro e i ⟨rfl,rfl⟩)
 . have f:YT m n=1:=by rw[<-g.o,BI si]
   have q:=(BK (w.alloc (H #[B b lb d] 34)) 3 (G I 1)).cell;simp only[A1]at q;refine⟨G I 1,by simp[results,Tryz.results114,go_sem,q],by rw[f],?_⟩;exact(Ba w _).alloc DO _
 . have f:YT m n=-1:=by rw[<-g.o,BE si]
   have q:=(BK (w.alloc (H #[B b lb d] 34)) 3 (G I (-1))).cell;simp only[A1]at q;refine⟨G I (-1),by simp[results,Tryz.results114,go_sem,q],by rw[f],?_⟩;exact(Ba w _).alloc DO _
theorem Rx(a:Option Addr)(len f:Nat)(b:Option Addr)(g:Nat)(xs d:List Nat)(w:C)(ha:Row F w (B a len f) xs)(Z:Row F w (B b len g) d)(xa:DP DN xs)(xb:DP DN d):
 Calls E 114 #[B a len f,B b len g] w λe V=>e=.returned (G I (YT (val DN xs) (val DN d)))/\Bl w V:=by
 obtain⟨hl,aw,ak,ah,L⟩:=Js ha;obtain⟨af,ai,aq,ap,ad⟩:=Js Z;obtain⟨t,Q,HC,Qf⟩:=D3 hl af L ad;clear L ad hl af ha Z;refine(BL (n:=3)).1 ?_;refine BW Tryz.func114 rfl trivial ?_ rfl;simp only[Tryz.ntmps114,An,Aj,AU,Nat.reduceAdd,Nat.reduceSub,AF,AG,AY,AK,Ap,Ax];gi_wp2_with(refine⟨trivial,?_⟩;gi_at_call 147;refine(IP Fence.wide _ trivial rfl _ _ _ _).mono ?_;rintro e V ⟨rfl,rfl⟩)
 obtain⟨W0,z⟩:=ex (((w.alloc (H #[B b len g] 34)).alloc (H #[G I 0] 3)).alloc (H #[B a len f] 34));have b0:=((BK w 34 (B b len g)).alloc (H #[G I 0] 3)).alloc (H #[B a len f] 34);have U:=(BK (w.alloc (H #[B b len g] 34)) 3 (G I 0)).alloc (H #[B a len f] 34);have P:=BK ((w.alloc (H #[B b len g] 34)).alloc (H #[G I 0] 3)) 34 (B a len f);simp only[A1]at U P;have hN:W0.heap.size=w.heap.size+1+1+1:=by rw[<-z];simp
 have Qe:Bl w W0:=by rw[<-z];exact((Ba w _).alloc DO _).alloc si _
 rw[z]at b0 U P ⊢;clear z;refine Xp rfl om (gf:=174) (lb:=#[.pointer (some ⟨w.heap.size+1+1,0,none⟩)]) rfl trivial (DF Tryz.func174 (by kernel_rfl) rfl)
  (IM Fence.wide _ trivial rfl om (w.heap.size+1+1) a len f (λj=>xs[j]?.getD 0) ah) (λ_=>rfl)
  (Nn w a len f b len g xs d) (Np w xs d) (by rw[hN];exact Rt w a len f b len g xs d) (λc=>by rw[hN];exact Ru w xs d c)
  ⟨⟨⟨⟨b0,U⟩,P⟩,Qe⟩,by rw[CV,At (by rw[t.o];exact Aa _),At (by rw[Q.o];exact Aa _)]⟩ ?rd
  (λk=>{ tmps:=#[B a len f,B b len g,J,.pointer (some ⟨w.heap.size,0,none⟩),.pointer (some ⟨w.heap.size+1,0,none⟩),G I ((len:Int)-1-k),G F (xs[len-1-k]?.getD 0:Nat),B a len f,G I (len:Nat),B b len g,G I (len:Nat),.bool false,J,J,J,J,J,J,B a len f,.func (.func 174) #[] #[.pointer (some ⟨w.heap.size+1+1,0,none⟩)],G I ((len:Int)-1-k),G F (xs[len-1-k]?.getD 0:Nat),J,J,J,J,J,J,J,J,J,J,J,J,J],defers:=[] }) ?assign ?body ?done ?stop
 case rd=>
  rintro k W ⟨⟨⟨_,c2⟩,i⟩,_⟩;refine⟨c2.cell,λhk=>?_⟩;obtain⟨O,off,ea,S,L⟩:=HC.o (len-1-k) om;exact⟨O,off,ea,(i.cell (p:=⟨O,off+(len-1-k),none⟩) S).trans L⟩
 case assign=>
  intro l k W K o;unfold XQ;gi_wp2;exact o
 case body=>
  rintro l k W ⟨⟨⟨⟨c0,c1⟩,c2⟩,i⟩,r⟩ hk aj;have d0:=c0.cell;have d1:=c1.cell;have f1:=c1.frozen;obtain⟨O,off,rfl,S,ae⟩:=Qf.o (len-1-k) om;have dy:=(i.cell (p:=⟨O,off+(len-1-k),none⟩) S).trans ae;clear ae;have Y:((len:Int)-1-k)=((len-1-k:Nat):Int):=om
  rw[Y];have v:len-1-k<len:=om
  have es:len-1-k+1=len-k:=om
  have M:xs.drop (len-1-k+1)=d.drop (len-1-k+1):=by rw[es];exact r
  have A:xs.length=d.length:=t.o.symm.trans Q.o;have N:=Ja (λ(h:xs[len-1-k]?.getD 0=d[len-1-k]?.getD 0)=>NE A (len-1-k) (by rw[<-t.o];exact v) M h);have u:=Ja (show xs[len-1-k]?.getD 0≠d[len-1-k]?.getD 0->YT (val DN xs) (val DN d)=YT (xs[len-1-k]?.getD 0) (d[len-1-k]?.getD 0)from λh=>by
   rcases Nat.lt_or_gt_of_ne h with h|h
   . rw[Xu h,Xu (I8 xa A (len-1-k) (by rw[<-t.o];exact v) M h)]
   . rw[GT h,GT (I8 xb A.symm (len-1-k) (by rw[<-Q.o];exact v) M.symm h)])
  have HK:=Ja (show len-(k+1)=len-1-k by omega);clear Y es M r A;generalize xs[len-1-k]?.getD 0=x at N u ⊢;generalize d[len-1-k]?.getD 0=y at N u dy;generalize len-1-k=m at N v HK dy ⊢;have av:len<=g:=ai;by_cases X:x=y
  . subst X;gi_wp2_with fail
    refine⟨KeepsFrom.refl _ _,⟨⟨⟨c0,c1⟩,c2⟩,i⟩,?_⟩;rw[HK.o];exact N.o DO
  . have an:(((x:Nat):Int) != (y:Int))=true:=by rw[DB];omega
    have R:=Ja X;clear X;gi_wp2_with(refine⟨trivial,?_⟩;gi_at_call 119;refine(BX l ((BL (n:=_)).2 (La _ _))).mono ?_;rintro e V ⟨rfl,rfl⟩)
    . refine⟨(BN _ _ _).from _,⟨?_,i.setCell (p:=⟨w.heap.size+1,0,none⟩) DO _⟩,rfl⟩;rw[u.o R.o,GT ‹y<x›];exact c1.set _
    . refine⟨(BN _ _ _).from _,⟨?_,i.setCell (p:=⟨w.heap.size+1,0,none⟩) DO _⟩,rfl⟩;rw[u.o R.o,Xu (by have:=R.o;omega)];exact c1.set _
 case done=>
  rintro D W hD ⟨⟨⟨⟨c0,c1⟩,c2⟩,i⟩,r⟩ o;have d1:=c1.cell;have f1:=c1.frozen;have HZ:=Ja r;clear r;gi_wp2;have s:(W.setCell ⟨w.heap.size+1,0,none⟩ (G I 0)).heap[D]?=some (.deferred (some [])):=(BN W ⟨w.heap.size+1,0,none⟩ (G I 0)).same D _ o rfl;refine⟨DO,.inl ⟨_,_,rfl,Bc s,?_⟩⟩;have T:=(c1.set (G I 0)).kept (BZ _ D (.deferred none)) (λe=>by cases e;rw[show(W.setCell ⟨w.heap.size+1,0,none⟩ (G I 0)).heap[w.heap.size+1]?=_ from c1.set (G I 0)]at s;cases s);have q:=T.cell;have hv:YT (val DN xs) (val DN d)=0:=by
   have:=HZ.o;rw[A0,Au,Au]at this;rw[this,LM]
  refine⟨G I 0,by simp[results,Tryz.results114,go_sem,q],by rw[hv],?_⟩;exact(i.setCell (p:=⟨w.heap.size+1,0,none⟩) DO _).trans (DM (w:=w) (Aa _) _ D _ _ om s rfl rfl)
 case stop=>
  rintro D c k W hD hk ⟨⟨c1,i⟩,rfl⟩ o;have d1:=c1.cell;gi_wp2;refine⟨DO,.inl ⟨_,_,rfl,Bc o,?_⟩⟩;have T:=c1.kept (BZ _ D (.deferred none)) (λe=>by cases e;rw[show W.heap[w.heap.size+1]?=_ from c1]at o;cases o);have q:=T.cell;refine⟨G I (YT (val DN xs) (val DN d)),by simp[results,Tryz.results114,go_sem,q],rfl,?_⟩;exact i.trans (DM (w:=w) (Aa _) _ D _ _ om o rfl rfl)
theorem Lq(q o:Value)(xs d:List Nat)(w:C)(n:Row F w q xs)(l:Row F w o d)(f:DP DN xs)(g:DP DN d)(k:EZ xs)(i:EZ d):
 Calls E 114 #[q,o] w λe r=>e=.returned (G I (YT (val DN xs) (val DN d)))/\Bl w r:=by
 obtain⟨a,p,rfl,s⟩:=id n;obtain⟨b,m,rfl,t⟩:=id l;have j:2<=DN:=by unfold DN;omega
 by_cases hl:xs.length=d.length
 . rw[<-hl]at l ⊢;exact Rx a xs.length p b m xs d w n l f g
 . refine Rw a _ p b _ m w _ _ hl ?_ ?_
   . constructor
     . exact λh=>Yu j f g k i h
     . intro h;rcases Nat.lt_or_gt_of_ne hl with c|c
       . exact c
       . have:=Yu j g f i k c;omega
   . rcases Nat.lt_or_gt_of_ne hl with c|c
     . have:=Yu j f g k i c;omega
     . have:=Yu j g f i k c;omega
end
variable{a:Act}{b:Array Oper}{Q:Exit->Act->C->Prop}{P:Program}{w:C}
theorem Ry(n c:Nat)(w:C):Calls E 131 #[B none n c] w λe d=>e=.returned (B none 0 0)/\d=w:=by
 have f:∀(w:C) (a:Option Addr) (n c b c':Nat),(binOp .eql 34 (B a n c) (B none b c')).run E w=.ok (.bool a.isNone) w:=λw a n c b c'=>Lib.run_eql_slice_nil w _ _ a n c b c' Tryz.underlying34;go_enter Tryz.func131,Tryz.ntmps131
 go_wp2;go_ret;exact⟨rfl,rfl⟩
theorem Lr(p:Addr)(c:Nat)(xs:List Nat)(w:C)(hl:xs.length<=1099511627776)(g:∀j,j<xs.length->w.cell? (p.add j)=some (G F (xs[j]?.getD 0:Nat))):
 Calls E 131 #[B (some p) xs.length c] w λe l=>∃b,e=.returned b/\l.ownsRow w.heap.size 163 1 b xs.length (cellsOf F xs)/\Bl w l:=by
 obtain⟨y,t,z,v,m⟩:=Bp Tryz.infoU64;have L:∀(w:C) (a:Option Addr) (n c f c':Nat),(binOp .eql 34 (B a n c) (B none f c')).run E w=.ok (.bool a.isNone) w:=λw a n c f c'=>Lib.run_eql_slice_nil w _ _ a n c f c' Tryz.underlying34;have A:=Ja g;clear g;go_enter Tryz.func131,Tryz.ntmps131
 go_wp2_with(at_builtin;refine BT _ rfl _ _ 34 rfl w.heap.size 163 y (G F 0) 1 8 Tryz.underlying34 t z v m rfl DR _ _ _ rfl (World.ownsRow_made w #[] 0 (Aa _) (AX _) rfl) p xs.length c (cellsOf F xs) rfl ?qc1 ?qc2 ?qc3 ?qc4 ?qc5 ?qc6 ?_)
 case qc1=>simp[cellsOf]
 case qc2=>
  intro j u d;have i:j<xs.length:=by
   have:=(Ad.1 d).1;simpa[cellsOf]using this
  refine Lib.cell?_alloc_some _ ?_;rw[A.o j i];simp only[cellsOf,CP,Af i,C1,CO]at d ⊢;exact d
 case qc3=>intro u o;obtain⟨x,_,rfl⟩:=Fc.1 o;rfl
 case qc4=>unfold maxLen;omega
 case qc5=>omega
 case qc6=>simp
 intro b D q r K;go_wp2;go_ret;refine⟨b,rfl,by simpa using q,?_⟩;exact(Ba w _).grown r DO (by intro k s;simp[Value.ownBlock]at s;omega)
theorem Rz{d:Region.Mode}(I:Array Bool->Act->C->Prop)
(step:∀c a w i,c.size=b.size->I c a w->i∈Region.ready d b c->wpOp P b Q i (I (c.setIfInBounds i true)) a w)
(fin:∀c a w,c.size=b.size->I c a w->Region.ready d b c=[]->Q .normal a w):
 ∀(f:Nat) (c:Array Bool) (a:Act) (w:C),c.size=b.size->XM c<=f->I c a w->wpAny P d b Q f c a w:=by
 intro f;have k:∀ {c:Array Bool} {i:Nat},i∈Region.ready d b c->i<b.size/\c.getD i true=false:=by
  intro c i e;simp only[Region.ready,Fu,List.mem_range,AA,Cl]at e;exact⟨e.1,e.2.1⟩
 induction f with
 |zero=>
  intro c a w hs p g;have m:Region.ready d b c=[]:=by
   cases r:Region.ready d b c with
   |nil=>rfl
   |cons i l=>
    obtain⟨q,j⟩:=k (show i∈Region.ready d b c by rw[r];exact CB);have:=XR (i:=i) om j;omega
  exact⟨m,fin _ _ _ hs g m⟩
 |succ f o=>
  intro c a w hs p g;refine⟨fin _ _ _ hs g,λi e=>?_⟩;obtain⟨q,j⟩:=k e;have:=XR (i:=i) om j;exact wpOp_mono (λn s h=>o _ n s (by simp[hs]) om h) (step c a w i hs g e)
theorem wp_region_held{id:Nat}(d:P.follows .mixedOrders=true)(I:Array Bool->Act->C->Prop)
(start:I (Array.replicate b.size false) a w.drew)
(step:∀c a w i,c.size=b.size->I c a w->i∈Region.ready .any b c->wpOp P b Q i (I (c.setIfInBounds i true)) a w)
(fin:∀c a w,c.size=b.size->I c a w->Region.ready .any b c=[]->Q .normal a w):
 (Code.region id b true).wp P Q a w:=
 wp_region_any d (Rz I step fin _ _ _ _ DO (by rw[XM];exact AE List.countP_le_length DO) start)
theorem Jn{id:Nat}(z:P.follows .mixedOrders=true)
(d:List (List Nat))(r:Region.tabAfter .any b=d)(t:KV d=true)(I:(Nat->Bool)->Act->C->Prop)
(start:I (λ_=>false) a w.drew)
(step:∀(D:Nat->Bool) a w i ds,(∀i ds,d[i]?=some ds->D i=true->∀j∈ds,D j=true)->d[i]?=some ds->(∀j∈ds,D j=true)->D i=false->I D a w->wpOp P b Q i (I (λj=>j==i || D j)) a w)
(fin:∀(D:Nat->Bool) a w,(∀i,i<d.length->D i=true)->I D a w->Q .normal a w):
 (Code.region id b true).wp P Q a w:=by
 have v:d.length=b.size:=by rw[<-r];simp[Region.tabAfter]
 refine wp_region_held z (λc a w=>(∀i ds,d[i]?=some ds->c.getD i false=true->∀j∈ds,c.getD j false=true)/\I (λj=>c.getD j false) a w) ⟨λi ds _ h=>?_,?_⟩ ?_ ?_
 . simp only[Array.getD,CE]at h;split at h<;>simp at h
 . have e:(λj=>(Array.replicate b.size false).getD j false)=λ_=>false:=by
    funext j;simp only[Array.getD,CE];split<;>simp
   rw[e];exact start
 . rintro c a w i hs ⟨o,q⟩ m;obtain⟨u,ds,g,s⟩:=(mem_ready r).1 m;have l:i<c.size:=by
    rw[hs,<-v];rcases AB i d.length with h|h
    . exact h
    . rw[Aq h]at g;cases g
   have K:c.getD i false=false:=by
    simp only[Array.getD,l,dif_pos]at u ⊢;exact u
   have e:∀j,(c.setIfInBounds i true).getD j false=(j==i || c.getD j false):=by
    intro j;rw[C3,C3,Array.getElem?_setIfInBounds];by_cases p:i=j
    . subst p;simp[l]
    . simp[p,Ne.symm p]
   refine wpOp_mono (λM N h=>⟨λx y n f j k=>?_,?_⟩) (step _ a w i ds o g s K q)
   . rw[e]at f ⊢;simp only[CL,beq_iff_eq]at f ⊢;rcases f with rfl|f
     . rw[g]at n;cases n;exact Or.inr (s j k)
     . exact Or.inr (o x y n f j k)
   . rw[show(λj=>(c.setIfInBounds i true).getD j false)=λj=>(j==i || c.getD j false)from funext e];exact h
 . rintro c a w hs ⟨o,q⟩ L;refine fin _ a w (λi=>?_) q;induction i using Nat.strongRecOn with
   |_ i A=>
    intro m;cases f:c.getD i false with
    |true=>rfl
    |false=>
     exfalso
     have g:d[i]?=some d[i]:=Af m;have:i∈Region.ready .any b c:=(mem_ready r).2 ⟨by
      have l:i<c.size:=om
      simp only[Array.getD,l,dif_pos]at f ⊢;exact f,_,g,λj k=>A j (XS t g k) (by have:=XS t g k;omega)⟩
     rw[L]at this;cases this
theorem DQ{T:List (List Nat)}{D:Nat->Bool}(c:∀i ds,T[i]?=some ds->D i=true->∀j∈ds,D j=true){a k:Nat}{ds:List Nat}(b:D k=false)(e:T[a]?=some ds:=by rfl)(d:k∈ds:=by simp):D a=false:=by
 cases h:D a with
 |false=>rfl
 |true=>rw[c a ds e h k d]at b;cases b
theorem Nq(a:Option Addr)(b c:Nat)(d:List Nat)(w:C)(t:Row F w (B a b c) d)(q:0<b):
 Calls E 131 #[B a b c] w λe f=>∃g i,e=.returned (B (some ⟨g,0,none⟩) b i)/\DU f g d/\w.heap.size<=g/\(b<=i/\i<=9223372036854775807)/\Bl w f:=by
 obtain⟨hl,z,O,D,m⟩:=Js t;obtain⟨r,u,rfl,_,_⟩:=m 0 q;have l:=Lr ⟨r,u,none⟩ c d w om (λj x=>by
  obtain⟨A,M,e,K,n⟩:=m j om;cases e;rw[IV];exact n)
 rw[<-hl]at l;refine l.mono ?_;rintro e f ⟨L,rfl,k,o⟩;rcases k.2 with⟨_,ev⟩|⟨g,cap,N,ev,v,y,p,s,_⟩
 . omega
 . subst ev;exact⟨_,cap,rfl,DU.owns k,v,⟨p,s⟩,o⟩
theorem Nr(a:Option Addr)(b c:Nat)(k:List Nat)(w:C)(o:Row F w (B a b c) k):
 Calls E 131 #[B a b c] w λe d=>∃m f,e=.returned (B m b f)/\Row F d (B m b f) k/\Bl w d:=by
 obtain⟨hl,y,K,t,L⟩:=Js o;rcases AQ b with l|l
 . subst l;obtain rfl:k=[]:=Am hl.symm;cases a with
   |none=>
    refine(Ry 0 c w).mono ?_;rintro e d ⟨rfl,rfl⟩;exact⟨none,0,rfl,⟨none,0,rfl,Aa _,om,om,Or.inl rfl⟩,BB _ _⟩
   |some p=>
    refine(Lr p c [] w DO (λj q=>by simp at q)).mono ?_;rintro e d ⟨A,rfl,r,i⟩;rcases r.2 with⟨ev,_⟩|⟨g,cap,D,ev,_,_,z,u,_⟩
    . subst ev;exact⟨none,0,rfl,⟨none,0,rfl,Aa _,om,om,Or.inl rfl⟩,i⟩
    . subst ev;exact⟨_,cap,rfl,⟨_,cap,rfl,AX _,u,DO,Or.inl rfl⟩,i⟩
 . refine(Nq a b c k w o l).mono ?_;rintro e d ⟨g,f,rfl,v,_,⟨s,x⟩,i⟩;have n:=v.row 0 b f om s x t;rw[Au,Ab om]at n;exact⟨_,f,rfl,n,i⟩

