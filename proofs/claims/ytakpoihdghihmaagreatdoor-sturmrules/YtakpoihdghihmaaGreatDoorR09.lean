import Derived.Test.YtakpoihdghihmaaGreatDoorR08
import Derived.Laws.CopyOwn
import Derived.Deep.OwnRows
import Derived.Lib.SliceRun
open Go.Value renaming slice->B,int->G
open Go renaming World->C,undef->L
open Go.Proofs.Tryz renaming prog->E
open Go.IntKind renaming u64->F,i64->I
open Go.Obj renaming cells->H
set_option maxRecDepth 100000
set_option maxHeartbeats 16000000
namespace Go.Proofs.YtakpoihdghihmaaGreatDoor
open Go.RowKit Go.Shelf
section
theorem Bj:type_of% @Lib.run_eql_slice_nil:=@Lib.run_eql_slice_nil
theorem Bf:type_of% @CallsIn.inRound:=@CallsIn.inRound
variable{p:Addr}{g:Array Bool}{d:Array Oper}{Q:Exit->Act->C->Prop}{f:List (List Nat)}{bs ds q xs:List Nat}{c i l len m n:Nat}{a:Option Addr}{P:Program}{w:C}
theorem UL(n:Nat):madeCells #[G F 0] n=(cellsOf F (List.replicate n 0)).toArray:=by
 apply Array.ext
 . simp[madeCells,cellsOf]
 . intro i a b;simp[madeCells,cellsOf,Nat.mod_one]
theorem It(n:Nat)(h:n<=2199023255552)(w:C):(Instr.makeSlice 33 (G I (n:Int)) (G I (n:Int))).run E w=.ok (B (some ⟨w.heap.size,0,none⟩) n n) (w.alloc (H (cellsOf F (List.replicate n 0)).toArray 115)):=by
 rw[<-UL];exact run_make_row' 33 115 (G F 0) 8 Tryz.underlying33 Tryz.infoU64 rfl I I n O O w
theorem LG(l:Nat)(h:l<=2199023255551)(w:C):(Instr.makeSlice 33 (G I ((l:Int)+1)) (G I ((l:Int)+1))).run E w=.ok (B (some ⟨w.heap.size,0,none⟩) (l+1) (l+1)) (w.alloc (H (cellsOf F (List.replicate (l+1) 0)).toArray 115)):=
 It (l+1) O w
theorem Xf(b o j:Nat):(⟨b,o,none⟩:Addr).add j=⟨b,o+j,none⟩:=by simp[Addr.add]
theorem Xg(h:n<=m):(Ji Y n).length<=(Ji Y m).length:=by
 rcases A6 (Ji Y m).length (Ji Y n).length with a|a
 . have:=Mf Jf a;omega
 . exact a
theorem UM{W:C}(h:Row F w (B a l c) ds)(k:Bl w W)(e:a=some p)(_h0:0<l)(j:Nat)(v:Value)(d:(cellsOf F ds)[j]?=some v):W.cell? (p.add j)=some v:=by
 obtain⟨hl,_,_,_,m⟩:=JH h;have g:j<ds.length:=by
  rcases A6 j ds.length with f|f
  . exact f
  . rw[AQ (by simpa[cellsOf]using f)]at d;cases d
 obtain⟨b,off,i,o,n⟩:=m j O;rw[i]at e;cases e;rw[Xf];rw[(k.cell (p:=⟨b,off+j,none⟩) o),n];simp only[cellsOf,Fa,Am g,FB,Ak]at d;rw[<-d,Am g];rfl
theorem IP(h:Row F w (B a l c) ds)(e:a=some p)(f:0<l):p.block<w.heap.size:=by
 obtain⟨b,off,d,g,_⟩:=(JH h).2.2.2.2 0 f;rw[d]at e;cases e;exact g
theorem UO(h:Row F w (B a l c) ds)(e:0<l):∃p,a=some p:=by
 obtain⟨b,off,d,f,_⟩:=(JH h).2.2.2.2 0 e;exact⟨_,d⟩
theorem PS(h:Ev xs bs 0 len c q)(k:xs=Ji Y m)(i:bs=Ji Y n)(hl:len=xs.length)(j:bs.length<=len)(o:n<=m):J6 q=Ji Y (m-n):=by
 obtain⟨d,b,l,e⟩:=h;rw[AX,Ad (show xs.length<=len by omega),Ad j,k,i,JC Jf,JC Jf]at e;have f:=YM b;rw[d]at f;have g:c=0:=by
  rcases A6 0 c with a|a
  . have:=Aq (Y^len) a;omega
  . omega
 subst g;rw[<-YD Jf b];congr 1;omega
theorem NE(g b i:Nat)(a:Option Addr)(la ca:Nat)(xs:List Nat)(w c:C)(m:Row F w (B a la ca) xs)(l:Bl w c)(t:w.heap.size<=g)(k:c.heap[g]?=some (H (cellsOf F (List.replicate b 0)).toArray 115 (0,0)))(hl:la<=b):
 ∃f,(Builtin.copy_ #[33,33] 3 #[B (some ⟨g,0,none⟩) b i,B a la ca]).run E c=.ok (G I (la:Nat)) f/\DJ f g (xs++List.replicate (b-la) 0)/\Bl w f:=by
 obtain⟨q,_⟩:=JH m;have n:(Tryz.prog.info? 115).map (·.size)=some 1:=by kernel_rfl
 have r:(cellsOf F xs)++(cellsOf F (List.replicate b 0)).drop la=cellsOf F (xs++List.replicate (b-la) 0):=by simp[cellsOf]
 by_cases s:la=0
 . subst s;refine⟨c,run_copy_none (P:=E) c 33 33 3 115 (some ⟨g,0,none⟩) a b i 0 ca Tryz.underlying33 n (Nat.zero_min b),DJ.made ?_,l⟩;obtain rfl:xs=[]:=AD q.symm;rw[Ar,Fq];exact k
 . obtain⟨p,hp⟩:=UO m O;subst hp;have e:(cellsOf F xs).length=la:=by simp[cellsOf,q]
   have o:=run_copy_row (P:=E) c 33 33 3 115 g 0 b i p la ca _ 115 (cellsOf F xs) Tryz.underlying33 n k (by rw[e];exact(CK hl).symm) (λj v d=>UM m l rfl O j v d) (by rw[e];simp[cellsOf];exact hl) (λv d=>by
    rw[cellsOf,C1]at d;obtain⟨_,_,rfl⟩:=d;rfl)
   rw[e,Fk,Ar,AY,r]at o;exact⟨_,o,DJ.made (setRow_heap c g _ _ _ _ k),below_setRow l t _⟩
theorem NF(a:Option Addr)(la ca:Nat)(b:Option Addr)(lb cb m n:Nat)(w:C)(j:Row F w (B a la ca) (Ji Y m))(k:Row F w (B b lb cb) (Ji Y n))(h:n<=m):
 Calls E 133 #[B a la ca,B b lb cb] w λe y=>∃u,e=.returned u/\UN y u (m-n)/\Bl w y:=by
 obtain⟨hl,ae,W,V,T⟩:=JH j;obtain⟨x,af,X,ah,U⟩:=JH k;have M:lb<=la:=by rw[hl,x];exact Xg h
 have f:=Ja hl;have i:=Ja k;have N:=It la O w;obtain⟨d,g⟩:∃d,d=w.alloc (H (cellsOf F (List.replicate la 0)).toArray 115):=⟨_,rfl⟩;have o:Bl w d:=by rw[g];exact Ba w _
 have r:d.heap[w.heap.size]?=some (H (cellsOf F (List.replicate la 0)).toArray 115 (0,0)):=by rw[g];exact BE w _
 rw[<-g]at N;obtain⟨w2,ad,hA2,t⟩:=NE w.heap.size la la a la ca (Ji Y m) w d j o (Aa _) r (Aa _);rw[Cq,List.replicate_zero,C4]at hA2;clear T hl U x j k g o r;go_enter Tryz.func133,Tryz.ntmps133
 go_wp2_with(go_at_call 173;refine(PR w.heap.size 0 la la (Ji Y m) b lb cb (Ji Y n) _ hA2 (JE Jf m) (by rw[AY,<-f.o];exact Aa _) (Aa _) O M (Row.below i.o t) (JE Jf n) λp e Q=>by have:=IP i.o e Q;omega).mono ?_)
 rintro e z ⟨c,q,rfl,hq,hA3,v⟩;have K:=hq.1;have D:Row F z (B (some ⟨w.heap.size,0,none⟩) la la) q:=by
  have R:=hA3.row 0 la la (by rw[JZ K (by rw[<-f.o];omega),<-f.o];omega) (Aa _) O V;have P:((DP (Ji Y m) 0 la q).drop 0).take la=q:=by
   rw[AX,DP,Fk,Ar,A3 O,Ad O]
  rwa[P]at R
 have A:=Ja (PS hq rfl rfl f.o (by have:=JH i.o;omega) h);have s:Bl w z:=below_grown t v (Aa _);clear hq hA3 v;go_wp2_with(go_at_call 73;refine(YU _ q _ D).mono ?_)
 rintro e w4 ⟨u,rfl,l,S⟩;rw[A.o]at l;obtain⟨ua,uc,rfl⟩:=UN.form l;go_wp2;go_ret;exact⟨_,rfl,l,s.trans (S.mono s.size)⟩
theorem PT(h:FU (xs++[0]) bs 0 len c q)(e:xs=Ji Y m)(d:bs=Ji Y n)(hl:len=xs.length+1)(k:bs.length<=xs.length):J6 q=Ji Y (m+n):=by
 obtain⟨l,f,o,b⟩:=h;have r:m<Y^xs.length:=by
  have:=YM (JE Jf m);rwa[JC Jf,<-e]at this
 have s:n<Y^xs.length:=by
  have:=YM (JE Jf n);rw[JC Jf,<-d]at this;exact AW this (AF uo k)
 rw[AX,Ad (show(xs++[0]).length<=len by simp;omega),Ad (show bs.length<=len by omega),XK,CG,Cj,d,JC Jf]at b;have i:val Y xs=m:=by rw[e,JC Jf]
 rw[i]at b;have j:Y^len=Y^xs.length*Y:=by rw[hl,A4]
 have p:Y^xs.length*2<=Y^len:=by rw[j];exact Aq _ Jf
 have g:c=0:=by
  rcases A6 0 c with a|a
  . have:=Aq (Y^len) a;omega
  . omega
 subst g;rw[<-YD Jf f];congr 1
theorem PU(a:Option Addr)(la ca:Nat)(b:Option Addr)(lb cb m n:Nat)(w:C)(j:Row F w (B a la ca) (Ji Y m))(k:Row F w (B b lb cb) (Ji Y n))(ak:la<1099511627776)(am:lb<1099511627776):
 Calls E 132 #[B a la ca,B b lb cb] w λe W=>∃u,e=.returned u/\UN W u (m+n)/\Bl w W:=by
 by_cases an:la<lb
 . obtain⟨hl,af,X,ai,U⟩:=JH k;obtain⟨y,ah,ad,aj,V⟩:=JH j;obtain⟨l,o,M⟩:=Db hl j y;have P:=LG lb O w;obtain⟨d,f⟩:∃d,d=w.alloc (H (cellsOf F (List.replicate (lb+1) 0)).toArray 115):=⟨_,rfl⟩;have r:Bl w d:=by rw[f];exact Ba w _
   have s:d.heap[w.heap.size]?=some (H (cellsOf F (List.replicate (lb+1) 0)).toArray 115 (0,0)):=by rw[f];exact BE w _
   rw[<-f]at P;obtain⟨w2,ae,hA2,v⟩:=NE w.heap.size (lb+1) (lb+1) b lb cb (Ji Y n) w d k r (Aa _) s O;rw[show lb+1-lb=1 from by omega,List.replicate_one]at hA2;have A:=Ja (show DG Y (Ji Y n++[0])from(JE Jf n).append (DG.cons uo (DG.nil _)));have g:=Ja (show(Ji Y n++[0]).length=lb+1 by rw[Ao,<-hl];rfl);clear U hl V y j k f r s;go_enter Tryz.func132,Tryz.ntmps132
   go_wp2_with(go_at_call 172;refine(ND w.heap.size 0 (lb+1) (lb+1) (Ji Y n++[0]) a la ca (Ji Y m) _ hA2 A.o (by rw[AY,g.o];exact Aa _) (Aa _) O O (Row.below o.o v) (JE Jf m) λp e R=>by have:=IP o.o e R;omega).mono ?_)
   rintro e z ⟨c,q,rfl,hq,hA3,x⟩;have N:=hq.1;have K:Row F z (B (some ⟨w.heap.size,0,none⟩) (lb+1) (lb+1)) q:=by
    have S:=hA3.row 0 (lb+1) (lb+1) (by rw[JZ N (by rw[g.o];omega),g.o];omega) (Aa _) O O;have Q:((DP (Ji Y n++[0]) 0 (lb+1) q).drop 0).take (lb+1)=q:=by
     rw[AX,DP,Fk,Ar,A3 O,Ad O]
    rwa[Q]at S
   have D:=Ja (PT hq rfl rfl (by rw[<-l.o]) (by rw[<-l.o,<-M.o];omega));have t:Bl w z:=below_grown v x (Aa _);clear hq hA3 x;go_wp2_with(go_at_call 73;refine(YU _ q _ K).mono ?_)
   rintro e w4 ⟨u,rfl,i,T⟩;rw[D.o]at i;obtain⟨ua,uc,rfl⟩:=UN.form i;go_wp2;go_ret;exact⟨_,rfl,by rw[Fs m n];exact i,t.trans (T.mono t.size)⟩
 . obtain⟨hl,af,X,ai,U⟩:=JH j;obtain⟨y,ah,ad,aj,V⟩:=JH k;obtain⟨l,o,M⟩:=Db hl k y;have P:=LG la O w;obtain⟨d,f⟩:∃d,d=w.alloc (H (cellsOf F (List.replicate (la+1) 0)).toArray 115):=⟨_,rfl⟩;have r:Bl w d:=by rw[f];exact Ba w _
   have s:d.heap[w.heap.size]?=some (H (cellsOf F (List.replicate (la+1) 0)).toArray 115 (0,0)):=by rw[f];exact BE w _
   rw[<-f]at P;obtain⟨w2,ae,hA2,v⟩:=NE w.heap.size (la+1) (la+1) a la ca (Ji Y m) w d j r (Aa _) s O;rw[show la+1-la=1 from by omega,List.replicate_one]at hA2;have A:=Ja (show DG Y (Ji Y m++[0])from(JE Jf m).append (DG.cons uo (DG.nil _)));have g:=Ja (show(Ji Y m++[0]).length=la+1 by rw[Ao,<-hl];rfl);clear U hl V y j k f r s;go_enter Tryz.func132,Tryz.ntmps132
   go_wp2_with(go_at_call 172;refine(ND w.heap.size 0 (la+1) (la+1) (Ji Y m++[0]) b lb cb (Ji Y n) _ hA2 A.o (by rw[AY,g.o];exact Aa _) (Aa _) O O (Row.below o.o v) (JE Jf n) λp e R=>by have:=IP o.o e R;omega).mono ?_)
   rintro e z ⟨c,q,rfl,hq,hA3,x⟩;have N:=hq.1;have K:Row F z (B (some ⟨w.heap.size,0,none⟩) (la+1) (la+1)) q:=by
    have S:=hA3.row 0 (la+1) (la+1) (by rw[JZ N (by rw[g.o];omega),g.o];omega) (Aa _) O O;have Q:((DP (Ji Y m++[0]) 0 (la+1) q).drop 0).take (la+1)=q:=by
     rw[AX,DP,Fk,Ar,A3 O,Ad O]
    rwa[Q]at S
   have D:=Ja (PT hq rfl rfl (by rw[<-l.o]) (by rw[<-l.o,<-M.o];omega));have t:Bl w z:=below_grown v x (Aa _);clear hq hA3 x;go_wp2_with(go_at_call 73;refine(YU _ q _ K).mono ?_)
   rintro e w4 ⟨u,rfl,i,T⟩;rw[D.o]at i;obtain⟨ua,uc,rfl⟩:=UN.form i;go_wp2;go_ret;exact⟨_,rfl,i,t.trans (T.mono t.size)⟩
def XV(a:Array Bool):Nat:=a.toList.countP λb=>!b
theorem LH(a:i<g.size)(h:g.getD i true=false):XV (g.setIfInBounds i true)+1=XV g:=by
 obtain⟨l⟩:=g;simp only[As]at a;simp only[Array.getD,As,a,dif_pos,Array.getInternal_eq_getElem,List.getElem_toArray]at h;simp only[XV,List.setIfInBounds_toArray];induction l generalizing i with
 |nil=>simp at a
 |cons x l b=>
  cases i with
  |zero=>simp at h;subst h;simp
  |succ i=>
   simp only[Af]at a;simp only[List.getElem_cons_succ]at h;have:=b O h;simp only[List.set_cons_succ,List.countP_cons];omega
theorem UP{F:Fence}{c:Region.Mode}(I:Array Bool->Act->C->Prop)
(step:∀b a w i,b.size=d.size->I b a w->i∈Region.ready c d b->wpOpIn F n P d Q i (I (b.setIfInBounds i true)) a w)
(fin:∀b a w,b.size=d.size->I b a w->Region.ready c d b=[]->Q .normal a w):
 ∀(f:Nat) (b:Array Bool) (a:Act) (w:C),b.size=d.size->XV b<=f->I b a w->wpAnyIn F n P c d Q f b a w:=by
 intro f;have m:∀ {b:Array Bool} {i:Nat},i∈Region.ready c d b->i<d.size/\b.getD i true=false:=by
  intro b i e;simp only[Region.ready,Fp,List.mem_range,Cu,CS]at e;exact⟨e.1,e.2.1⟩
 induction f with
 |zero=>
  intro b a w g q j;have o:Region.ready c d b=[]:=by
   cases r:Region.ready c d b with
   |nil=>rfl
   |cons i l=>
    obtain⟨p,k⟩:=m (show i∈Region.ready c d b by rw[r];exact Cc);have:=LH (i:=i) O k;omega
  exact⟨o,fin _ _ _ g j o⟩
 |succ f s=>
  intro b a w g q j;refine⟨fin _ _ _ g j,λi e=>?_⟩;obtain⟨p,k⟩:=m e;have:=LH (i:=i) O k;exact wpOpIn_mono (λa' t h=>s _ a' t (by simp[g]) O h) (step b a w i g j e)
theorem UQ{F:Fence}{id:Nat}{a:Act}(c:P.follows .mixedOrders=true)(I:Array Bool->Act->C->Prop)
(start:I (Array.replicate d.size false) a w.drew)
(step:∀b a w i,b.size=d.size->I b a w->i∈Region.ready .any d b->wpOpIn F n P d Q i (I (b.setIfInBounds i true)) a w)
(fin:∀b a w,b.size=d.size->I b a w->Region.ready .any d b=[]->Q .normal a w):
 (Code.region id d true).wpIn F n P Q a w:=
 wpIn_region_any c (UP I step fin _ _ _ _ Z (by rw[XV];exact An List.countP_le_length Z) start)
def LI(a:List (List Nat)):Bool:=a.zipIdx.all λp=>p.1.all (·<p.2)
theorem LJ(h:LI f=true)(a:f[i]?=some ds){j:Nat}(b:j∈ds):j<i:=by
 simp only[LI,Ca,Bn]at h;exact h (ds,i) (List.mk_mem_zipIdx_iff_getElem?.2 a) j b
theorem mem_ready{p:Region.Mode}(r:Region.tabAfter p d=f):
 i∈Region.ready p d g↔g.getD i true=false/\∃ds,f[i]?=some ds/\∀j∈ds,g.getD j false=true:=by
 subst r;simp only[Region.ready,Fp,List.mem_range,Cu,CS,Region.tabAfter,Fa,Cr];constructor
 . rintro⟨k,l,a⟩;rw[Cf k]at a ⊢;simp only[FB,FM,Array.all_eq_true',Fo,CS]at a;refine⟨l,_,rfl,λj q=>?_⟩;simp only[C1,Fp]at q;obtain⟨e,⟨n,m⟩,rfl⟩:=q;rcases a e (by simpa using n)with h|h
   . rw[m]at h;cases h
   . exact h
 . rintro⟨l,ds,b,a⟩;cases c:d[i]? with
   |none=>rw[c]at b;simp at b
   |some o=>
    rw[c]at b;simp only[FB,Ak]at b;subst b;have k:i<d.size:=by
     rcases A6 i d.size with h|h
     . exact h
     . rw[Array.getElem?_eq_none h]at c;cases c
    refine⟨k,l,?_⟩;simp only[FB,FM,Array.all_eq_true',Fo,CS];intro e n;cases m:Region.binds p e with
    |false=>exact Or.inl rfl
    |true=>exact Or.inr (a e.on (by simp only[C1,Fp];exact⟨e,⟨by simpa using n,m⟩,rfl⟩))
theorem JU{F:Fence}{id:Nat}{a:Act}(K:P.follows .mixedOrders=true)
(c:List (List Nat))(s:Region.tabAfter .any d=c)(v:LI c=true)(I:(Nat->Bool)->Act->C->Prop)
(start:I (λ_=>false) a w.drew)
(step:∀(D:Nat->Bool) a w i ds,(∀i ds,c[i]?=some ds->D i=true->∀j∈ds,D j=true)->c[i]?=some ds->(∀j∈ds,D j=true)->D i=false->I D a w->wpOpIn F n P d Q i (I λj=>j==i || D j) a w)
(fin:∀(D:Nat->Bool) a w,(∀i,i<c.length->D i=true)->I D a w->Q .normal a w):
 (Code.region id d true).wpIn F n P Q a w:=by
 have y:c.length=d.size:=by rw[<-s];simp[Region.tabAfter]
 refine UQ K (λb a w=>(∀i ds,c[i]?=some ds->b.getD i false=true->∀j∈ds,b.getD j false=true)/\I (λj=>b.getD j false) a w) ⟨λi ds _ h=>?_,?_⟩ ?_ ?_
 . simp only[Array.getD,FJ]at h;split at h<;>simp at h
 . have e:(λj=>(Array.replicate d.size false).getD j false)=λ_=>false:=by
    funext j;simp only[Array.getD,FJ];split<;>simp
   rw[e];exact start
 . rintro b a w i x ⟨o,m⟩ p;obtain⟨t,ds,f,u⟩:=(mem_ready s).1 p;have l:i<b.size:=by
    rw[x,<-y];rcases A6 i c.length with h|h
    . exact h
    . rw[AQ h]at f;cases f
   have A:b.getD i false=false:=by
    simp only[Array.getD,l,dif_pos]at t ⊢;exact t
   have e:∀j,(b.setIfInBounds i true).getD j false=(j==i || b.getD j false):=by
    intro j;rw[Fg,Fg,Array.getElem?_setIfInBounds];by_cases r:i=j
    . subst r;simp[l]
    . simp[r,Ne.symm r]
   refine wpOpIn_mono (λa' S h=>⟨λN z q g j k=>?_,?_⟩) (step _ a w i ds o f u A m)
   . rw[e]at g ⊢;simp only[Fo,beq_iff_eq]at g ⊢;rcases g with rfl|g
     . rw[f]at q;cases q;exact Or.inr (u j k)
     . exact Or.inr (o N z q g j k)
   . rw[show(λj=>(b.setIfInBounds i true).getD j false)=λj=>(j==i || b.getD j false)from funext e];exact h
 . rintro b a w x ⟨o,m⟩ M;refine fin _ a w (λi=>?_) m;induction i using Nat.strongRecOn with
   |_ i R=>
    intro p;cases g:b.getD i false with
    |true=>rfl
    |false=>
     exfalso
     have f:c[i]?=some c[i]:=Am p
     have:i∈Region.ready .any d b:=(mem_ready s).2 ⟨by
      have l:i<b.size:=O
      simp only[Array.getD,l,dif_pos]at g ⊢;exact g,_,f,λj k=>R j (LJ v f k) (by have:=LJ v f k;omega)⟩
     rw[M]at this;cases this
attribute [local go_sem] Oper.semAt_some
def PV(w:C)(a:Option Addr)(len ca:Nat)(b:Option Addr)(lb cb:Nat)(xs c:List Nat)(k:Nat)(W:C):Prop:=
 (((Boxed W w.heap.size 33 (B b lb cb)/\Boxed W (w.heap.size+1) 3 (.int I 0))/\Boxed W (w.heap.size+1+1) 33 (B a len ca))/\Bl w W)/\xs.drop (len-k)=c.drop (len-k)
def PW(w:C)(xs a:List Nat)(c:Code)(_k:Nat)(W:C):Prop:=
 (Boxed W (w.heap.size+1) 3 (.int I (XJ (val Y xs) (val Y a)))/\Bl w W)/\c=.ret
theorem UR(w:C)(a:Option Addr)(len ca:Nat)(b:Option Addr)(lb cb:Nat)(xs c:List Nat):OwnFrom (w.heap.size+1+1+1) (PV w a len ca b lb cb xs c):=
 BP (BP (BP (BP (Bi (boxed_own _ _ λ_=>B b lb cb) _) (Bi (boxed_own _ _ λ_=>G I 0) _)) (Bi (boxed_own _ _ λ_=>B a len ca) _)) (B7 (Aa _) O)) (DE _ _)
theorem US(w:C)(xs a:List Nat)(c:Code):OwnFrom (w.heap.size+1+1+1) (PW w xs a c):=
 BP (BP (Bi (boxed_own _ _ λ_=>G I (XJ (val Y xs) (val Y a))) _) (B7 (Aa _) O)) (DE _ _)
theorem UT{c:Bool}(h:m≠n)(a:c=decide (n<m)):(if c then 1 else -1:Int)=XJ m n:=by
 subst a;rcases Nat.lt_or_gt_of_ne h with h|h
 . rw[ID h,BA si]
 . rw[KO h,BC si]
theorem UU(a:Option Addr)(la ca:Nat)(b:Option Addr)(lb cb:Nat)(w:C)(m n:Nat)(j:la≠lb)(i:la<lb↔m<n)(f:m≠n):
 Calls E 126 #[B a la ca,B b lb cb] w λe g=>e=.returned (G I (XJ m n))/\Bl w g:=by
 have k:(((la:Nat):Int) != (lb:Int))=true:=by rw[bne_iff_ne];omega
 have d:=Ja (show(if decide ((lb:Int)<(la:Int))=true then 1 else -1:Int)=XJ m n from UT f (by congr 1;apply propext;omega));clear i f j;refine(BH (n:=3)).1 ?_;refine BN Tryz.func126 rfl trivial ?_ rfl;simp only[Tryz.ntmps126,As,Af,Ay,Nat.reduceAdd,Nat.reduceSub,Av,Aw,AG,AC,Ar,Au];gi_wp2_with(refine⟨trivial,?_⟩;gi_at_call 125;refine((BH (n:=_)).2 (Mu _ _)).mono ?_;rintro e g ⟨rfl,rfl⟩)
 . have c:XJ m n=1:=by rw[<-d.o,BC si]
   have q:=(BG (w.alloc (H #[B b lb cb] 33)) 3 (G I 1)).cell;simp only[Ax]at q;refine⟨G I 1,by simp[results,Tryz.results126,go_sem,q],by rw[c],?_⟩;exact(Ba w _).alloc Z _
 . have c:XJ m n=-1:=by rw[<-d.o,BA si]
   have q:=(BG (w.alloc (H #[B b lb cb] 33)) 3 (G I (-1))).cell;simp only[Ax]at q;refine⟨G I (-1),by simp[results,Tryz.results126,go_sem,q],by rw[c],?_⟩;exact(Ba w _).alloc Z _
theorem UV(a:Option Addr)(len ca:Nat)(b:Option Addr)(cb:Nat)(xs d:List Nat)(w:C)(ha:Row F w (B a len ca) xs)(hb:Row F w (B b len cb) d)(xa:DG Y xs)(xb:DG Y d):
 Calls E 126 #[B a len ca,B b len cb] w λe X=>e=.returned (G I (XJ (val Y xs) (val Y d)))/\Bl w X:=by
 obtain⟨hl,ai,ak,ah,M⟩:=JH ha;obtain⟨af,aj,am,an,ad⟩:=JH hb;obtain⟨s,Q,HC,Qe⟩:=Dr hl af M ad;clear M ad hl af ha hb;refine(BH (n:=3)).1 ?_;refine BN Tryz.func126 rfl trivial ?_ rfl;simp only[Tryz.ntmps126,As,Af,Ay,Nat.reduceAdd,Nat.reduceSub,Av,Aw,AG,AC,Ar,Au];gi_wp2_with(refine⟨trivial,?_⟩;gi_at_call 128;refine(KU Fence.wide _ trivial rfl _ _ _ _).mono ?_;rintro e X ⟨rfl,rfl⟩)
 obtain⟨W0,A⟩:=ex (((w.alloc (H #[B b len cb] 33)).alloc (H #[G I 0] 3)).alloc (H #[B a len ca] 33));have b0:=((BG w 33 (B b len cb)).alloc (H #[G I 0] 3)).alloc (H #[B a len ca] 33);have R:=(BG (w.alloc (H #[B b len cb] 33)) 3 (G I 0)).alloc (H #[B a len ca] 33);have T:=BG ((w.alloc (H #[B b len cb] 33)).alloc (H #[G I 0] 3)) 33 (B a len ca);simp only[Ax]at R T;have hN:W0.heap.size=w.heap.size+1+1+1:=by rw[<-A];simp
 have Qf:Bl w W0:=by rw[<-A];exact((Ba w _).alloc Z _).alloc si _
 rw[A]at b0 R T ⊢;clear A;refine Xd rfl O (gf:=169) (lb:=#[.pointer (some ⟨w.heap.size+1+1,0,none⟩)]) rfl trivial (Bg Tryz.func169 (by kernel_rfl) rfl)
  (KT Fence.wide _ trivial rfl O (w.heap.size+1+1) a len ca (λj=>xs[j]?.getD 0) ah) (λ_=>rfl)
  (PV w a len ca b len cb xs d) (PW w xs d) (by rw[hN];exact UR w a len ca b len cb xs d) (λc=>by rw[hN];exact US w xs d c)
  ⟨⟨⟨⟨b0,R⟩,T⟩,Qf⟩,by rw[Fq,A8 (by rw[s.o];exact Aa _),A8 (by rw[Q.o];exact Aa _)]⟩ ?rd
  (λk=>{ tmps:=#[B a len ca,B b len cb,L,.pointer (some ⟨w.heap.size,0,none⟩),.pointer (some ⟨w.heap.size+1,0,none⟩),G I ((len:Int)-1-k),G F (xs[len-1-k]?.getD 0:Nat),B a len ca,G I (len:Nat),B b len cb,G I (len:Nat),.bool false,L,L,L,L,L,L,B a len ca,.func (.func 169) #[] #[.pointer (some ⟨w.heap.size+1+1,0,none⟩)],G I ((len:Int)-1-k),G F (xs[len-1-k]?.getD 0:Nat),L,L,L,L,L,L,L,L,L,L,L,L,L],defers:=[] }) ?assign ?body ?done ?stop
 case rd=>
  rintro k W ⟨⟨⟨_,c2⟩,f⟩,_⟩;refine⟨c2.cell,λhk=>?_⟩;obtain⟨z,off,ea,U,M⟩:=HC.o (len-1-k) O;exact⟨z,off,ea,(f.cell (p:=⟨z,off+(len-1-k),none⟩) U).trans M⟩
 case assign=>
  intro l k W K g;unfold IF;gi_wp2;exact g
 case body=>
  rintro l k W ⟨⟨⟨⟨c0,c1⟩,c2⟩,f⟩,i⟩ hk ap;have d0:=c0.cell;have d1:=c1.cell;have f1:=c1.frozen;obtain⟨z,off,rfl,U,ae⟩:=Qe.o (len-1-k) O;have dy:=(f.cell (p:=⟨z,off+(len-1-k),none⟩) U).trans ae;clear ae;have e1:((len:Int)-1-k)=((len-1-k:Nat):Int):=O
  rw[e1];have N:len-1-k<len:=O
  have es:len-1-k+1=len-k:=O
  have u:xs.drop (len-1-k+1)=d.drop (len-1-k+1):=by rw[es];exact i
  have t:xs.length=d.length:=s.o.symm.trans Q.o;have o:=Ja λ(h:xs[len-1-k]?.getD 0=d[len-1-k]?.getD 0)=>TU t (len-1-k) (by rw[<-s.o];exact N) u h;have r:=Ja (show xs[len-1-k]?.getD 0≠d[len-1-k]?.getD 0->XJ (val Y xs) (val Y d)=XJ (xs[len-1-k]?.getD 0) (d[len-1-k]?.getD 0)from λh=>by
   rcases Nat.lt_or_gt_of_ne h with h|h
   . rw[ID h,ID (PA xa t (len-1-k) (by rw[<-s.o];exact N) u h)]
   . rw[KO h,KO (PA xb t.symm (len-1-k) (by rw[<-Q.o];exact N) u.symm h)])
  have HK:=Ja (show len-(k+1)=len-1-k by omega);clear e1 es u i t;generalize xs[len-1-k]?.getD 0=x at o r ⊢;generalize d[len-1-k]?.getD 0=y at o r dy;generalize len-1-k=m at o N HK dy ⊢;by_cases V:x=y
  . subst V;gi_wp2_with fail
    refine⟨KeepsFrom.refl _ _,⟨⟨⟨c0,c1⟩,c2⟩,f⟩,?_⟩;rw[HK.o];exact o.o Z
  . have aq:(((x:Nat):Int) != (y:Int))=true:=by rw[bne_iff_ne];omega
    have P:=Ja V;clear V;gi_wp2_with(refine⟨trivial,?_⟩;gi_at_call 125;refine(Bf l ((BH (n:=_)).2 (Mu _ _))).mono ?_;rintro e X ⟨rfl,rfl⟩)
    . refine⟨(BI _ _ _).from _,⟨?_,f.setCell (p:=⟨w.heap.size+1,0,none⟩) Z _⟩,rfl⟩;rw[r.o P.o,KO ‹y<x›];exact c1.set _
    . refine⟨(BI _ _ _).from _,⟨?_,f.setCell (p:=⟨w.heap.size+1,0,none⟩) Z _⟩,rfl⟩;rw[r.o P.o,ID (by have:=P.o;omega)];exact c1.set _
 case done=>
  rintro D W hD ⟨⟨⟨⟨c0,c1⟩,c2⟩,f⟩,i⟩ g;have d1:=c1.cell;have f1:=c1.frozen;have HZ:=Ja i;clear i;gi_wp2;have v:(W.setCell ⟨w.heap.size+1,0,none⟩ (G I 0)).heap[D]?=some (.deferred (some [])):=(BI W ⟨w.heap.size+1,0,none⟩ (G I 0)).same D _ g rfl;refine⟨Z,.inl ⟨_,_,rfl,BR v,?_⟩⟩;have S:=(c1.set (G I 0)).kept (BU _ D (.deferred none)) (λe=>by cases e;rw[show(W.setCell ⟨w.heap.size+1,0,none⟩ (G I 0)).heap[w.heap.size+1]?=_ from c1.set (G I 0)]at v;cases v);have q:=S.cell;have hv:XJ (val Y xs) (val Y d)=0:=by
   have:=HZ.o;rw[Cq,AX,AX]at this;rw[this,O8]
  refine⟨G I 0,by simp[results,Tryz.results126,go_sem,q],by rw[hv],?_⟩;exact(f.setCell (p:=⟨w.heap.size+1,0,none⟩) Z _).trans (Bz (w:=w) (Aa _) _ D _ _ O v rfl rfl)
 case stop=>
  rintro D c k W hD hk ⟨⟨c1,f⟩,rfl⟩ g;have d1:=c1.cell;gi_wp2;refine⟨Z,.inl ⟨_,_,rfl,BR g,?_⟩⟩;have S:=c1.kept (BU _ D (.deferred none)) (λe=>by cases e;rw[show W.heap[w.heap.size+1]?=_ from c1]at g;cases g);have q:=S.cell;refine⟨G I (XJ (val Y xs) (val Y d)),by simp[results,Tryz.results126,go_sem,q],rfl,?_⟩;exact f.trans (Bz (w:=w) (Aa _) _ D _ _ O g rfl rfl)
theorem NG(l m:Value)(xs d:List Nat)(w:C)(k:Row F w l xs)(j:Row F w m d)(f:DG Y xs)(g:DG Y d)(ta:IC xs)(tb:IC d):
 Calls E 126 #[l,m] w λe n=>e=.returned (G I (XJ (val Y xs) (val Y d)))/\Bl w n:=by
 obtain⟨a,ca,rfl,o⟩:=id k;obtain⟨b,cb,rfl,p⟩:=id j;have i:2<=Y:=by unfold Y;omega
 by_cases hl:xs.length=d.length
 . rw[<-hl]at j ⊢;exact UV a xs.length ca b cb xs d w k j f g
 . refine UU a _ ca b _ cb w _ _ hl ?_ ?_
   . constructor
     . exact λh=>Xl i f g ta tb h
     . intro h;rcases Nat.lt_or_gt_of_ne hl with c|c
       . exact c
       . have:=Xl i g f tb ta c;omega
   . rcases Nat.lt_or_gt_of_ne hl with c|c
     . have:=Xl i f g ta tb c;omega
     . have:=Xl i g f tb ta c;omega
end
variable{a:Act}{b:Array Oper}{Q:Exit->Act->C->Prop}{P:Program}{w:C}
theorem UW(n c:Nat)(w:C):Calls E 177 #[B none n c] w λe d=>e=.returned (B none 0 0)/\d=w:=by
 have f:∀(w:C) (a:Option Addr) (n c b c':Nat),(binOp .eql 33 (B a n c) (B none b c')).run E w=.ok (.bool a.isNone) w:=λw a n c b c'=>Bj w _ _ a n c b c' Tryz.underlying33;go_enter Tryz.func177,Tryz.ntmps177
 go_wp2;go_ret;exact⟨rfl,rfl⟩
theorem PX(p:Addr)(c:Nat)(xs:List Nat)(w:C)(hl:xs.length<=1099511627776)(i:∀j,j<xs.length->w.cell? (p.add j)=some (G F (xs[j]?.getD 0:Nat))):
 Calls E 177 #[B (some p) xs.length c] w λe l=>∃b,e=.returned b/\l.ownsRow w.heap.size 115 1 b xs.length (cellsOf F xs)/\Bl w l:=by
 obtain⟨z,o,t,v,y⟩:=info_parts Tryz.infoU64;have K:∀(w:C) (a:Option Addr) (n c f c':Nat),(binOp .eql 33 (B a n c) (B none f c')).run E w=.ok (.bool a.isNone) w:=λw a n c f c'=>Bj w _ _ a n c f c' Tryz.underlying33;have A:=Ja i;clear i;go_enter Tryz.func177,Tryz.ntmps177
 go_wp2_with(at_builtin;refine wpList_append_own _ rfl _ _ 33 rfl w.heap.size 115 z (G F 0) 1 8 Tryz.underlying33 o t v y rfl DF _ _ _ rfl (World.ownsRow_made w #[] 0 (Aa _) (AO _) rfl) p xs.length c (cellsOf F xs) rfl ?qc1 ?qc2 ?qc3 ?qc4 ?qc5 ?qc6 ?_)
 case qc1=>simp[cellsOf]
 case qc2=>
  intro j u d;have g:j<xs.length:=by
   have:=(Ac.1 d).1;simpa[cellsOf]using this
  refine Lib.cell?_alloc_some _ ?_;rw[A.o j g];simp only[cellsOf,Fa,Am g,FB,FM]at d ⊢;exact d
 case qc3=>intro u s;obtain⟨x,_,rfl⟩:=C1.1 s;rfl
 case qc4=>unfold maxLen;omega
 case qc5=>omega
 case qc6=>simp
 intro b M r m D;go_wp2;go_ret;refine⟨b,rfl,by simpa using r,?_⟩;exact(Ba w _).grown m Z (by intro k q;simp[Value.ownBlock]at q;omega)
theorem UX{d:Region.Mode}(I:Array Bool->Act->C->Prop)
(step:∀c a w i,c.size=b.size->I c a w->i∈Region.ready d b c->wpOp P b Q i (I (c.setIfInBounds i true)) a w)
(fin:∀c a w,c.size=b.size->I c a w->Region.ready d b c=[]->Q .normal a w):
 ∀(f:Nat) (c:Array Bool) (a:Act) (w:C),c.size=b.size->XV c<=f->I c a w->wpAny P d b Q f c a w:=by
 intro f;have m:∀ {c:Array Bool} {i:Nat},i∈Region.ready d b c->i<b.size/\c.getD i true=false:=by
  intro c i e;simp only[Region.ready,Fp,List.mem_range,Cu,CS]at e;exact⟨e.1,e.2.1⟩
 induction f with
 |zero=>
  intro c a w g p j;have n:Region.ready d b c=[]:=by
   cases q:Region.ready d b c with
   |nil=>rfl
   |cons i l=>
    obtain⟨o,k⟩:=m (show i∈Region.ready d b c by rw[q];exact Cc);have:=LH (i:=i) O k;omega
  exact⟨n,fin _ _ _ g j n⟩
 |succ f r=>
  intro c a w g p j;refine⟨fin _ _ _ g j,λi e=>?_⟩;obtain⟨o,k⟩:=m e;have:=LH (i:=i) O k;exact wpOp_mono (λa' s h=>r _ a' s (by simp[g]) O h) (step c a w i g j e)
theorem wp_region_held{id:Nat}(d:P.follows .mixedOrders=true)(I:Array Bool->Act->C->Prop)
(start:I (Array.replicate b.size false) a w.drew)
(step:∀c a w i,c.size=b.size->I c a w->i∈Region.ready .any b c->wpOp P b Q i (I (c.setIfInBounds i true)) a w)
(fin:∀c a w,c.size=b.size->I c a w->Region.ready .any b c=[]->Q .normal a w):
 (Code.region id b true).wp P Q a w:=
 wp_region_any d (UX I step fin _ _ _ _ Z (by rw[XV];exact An List.countP_le_length Z) start)
theorem Jn{id:Nat}(A:P.follows .mixedOrders=true)
(d:List (List Nat))(r:Region.tabAfter .any b=d)(u:LI d=true)(I:(Nat->Bool)->Act->C->Prop)
(start:I (λ_=>false) a w.drew)
(step:∀(D:Nat->Bool) a w i ds,(∀i ds,d[i]?=some ds->D i=true->∀j∈ds,D j=true)->d[i]?=some ds->(∀j∈ds,D j=true)->D i=false->I D a w->wpOp P b Q i (I λj=>j==i || D j) a w)
(fin:∀(D:Nat->Bool) a w,(∀i,i<d.length->D i=true)->I D a w->Q .normal a w):
 (Code.region id b true).wp P Q a w:=by
 have x:d.length=b.size:=by rw[<-r];simp[Region.tabAfter]
 refine wp_region_held A (λc a w=>(∀i ds,d[i]?=some ds->c.getD i false=true->∀j∈ds,c.getD j false=true)/\I (λj=>c.getD j false) a w) ⟨λi ds _ h=>?_,?_⟩ ?_ ?_
 . simp only[Array.getD,FJ]at h;split at h<;>simp at h
 . have e:(λj=>(Array.replicate b.size false).getD j false)=λ_=>false:=by
    funext j;simp only[Array.getD,FJ];split<;>simp
   rw[e];exact start
 . rintro c a w i v ⟨n,m⟩ o;obtain⟨s,ds,f,t⟩:=(mem_ready r).1 o;have l:i<c.size:=by
    rw[v,<-x];rcases A6 i d.length with h|h
    . exact h
    . rw[AQ h]at f;cases f
   have z:c.getD i false=false:=by
    simp only[Array.getD,l,dif_pos]at s ⊢;exact s
   have e:∀j,(c.setIfInBounds i true).getD j false=(j==i || c.getD j false):=by
    intro j;rw[Fg,Fg,Array.getElem?_setIfInBounds];by_cases q:i=j
    . subst q;simp[l]
    . simp[q,Ne.symm q]
   refine wpOp_mono (λa' R h=>⟨λM y p g j k=>?_,?_⟩) (step _ a w i ds n f t z m)
   . rw[e]at g ⊢;simp only[Fo,beq_iff_eq]at g ⊢;rcases g with rfl|g
     . rw[f]at p;cases p;exact Or.inr (t j k)
     . exact Or.inr (n M y p g j k)
   . rw[show(λj=>(c.setIfInBounds i true).getD j false)=λj=>(j==i || c.getD j false)from funext e];exact h
 . rintro c a w v ⟨n,m⟩ K;refine fin _ a w (λi=>?_) m;induction i using Nat.strongRecOn with
   |_ i N=>
    intro o;cases g:c.getD i false with
    |true=>rfl
    |false=>
     exfalso
     have f:d[i]?=some d[i]:=Am o
     have:i∈Region.ready .any b c:=(mem_ready r).2 ⟨by
      have l:i<c.size:=O
      simp only[Array.getD,l,dif_pos]at g ⊢;exact g,_,f,λj k=>N j (LJ u f k) (by have:=LJ u f k;omega)⟩
     rw[K]at this;cases this
theorem DI{T:List (List Nat)}{D:Nat->Bool}(c:∀i ds,T[i]?=some ds->D i=true->∀j∈ds,D j=true){a k:Nat}{ds:List Nat}(b:D k=false)(e:T[a]?=some ds:=by rfl)(d:k∈ds:=by simp):D a=false:=by
 cases h:D a with
 |false=>rfl
 |true=>rw[c a ds e h k d]at b;cases b
theorem PY(a:Option Addr)(la ca:Nat)(b:List Nat)(w:C)(t:Row F w (B a la ca) b)(n:0<la):
 Calls E 177 #[B a la ca] w λe c=>∃g d,e=.returned (B (some ⟨g,0,none⟩) la d)/\DJ c g b/\w.heap.size<=g/\(la<=d/\d<=9223372036854775807)/\Bl w c:=by
 obtain⟨hl,y,K,A,i⟩:=JH t;obtain⟨l,m,rfl,_,_⟩:=i 0 n;have f:=PX ⟨l,m,none⟩ ca b w O (λj z=>by
  obtain⟨u,M,e,D,s⟩:=i j O;cases e;rw[Xf];exact s)
 rw[<-hl]at f;refine f.mono ?_;rintro e c ⟨N,rfl,k,r⟩;rcases k.2 with⟨_,ev⟩|⟨g,cap,v,ev,o,x,p,q,_⟩
 . omega
 . subst ev;exact⟨_,cap,rfl,DJ.owns k,o,⟨p,q⟩,r⟩
theorem PZ(a:Option Addr)(la ca:Nat)(f:List Nat)(w:C)(l:Row F w (B a la ca) f):
 Calls E 177 #[B a la ca] w λe b=>∃m c,e=.returned (B m la c)/\Row F b (B m la c) f/\Bl w b:=by
 obtain⟨hl,y,A,t,z⟩:=JH l;rcases Cg la with i|i
 . subst i;obtain rfl:f=[]:=AD hl.symm;cases a with
   |none=>
    refine(UW 0 ca w).mono ?_;rintro e b ⟨rfl,rfl⟩;exact⟨none,0,rfl,⟨none,0,rfl,Aa _,O,O,Or.inl rfl⟩,BF _ _⟩
   |some p=>
    refine(PX p ca [] w Z λj s=>by simp at s).mono ?_;rintro e b ⟨D,rfl,u,d⟩;rcases u.2 with⟨ev,_⟩|⟨g,cap,v,ev,_,_,x,q,_⟩
    . subst ev;exact⟨none,0,rfl,⟨none,0,rfl,Aa _,O,O,Or.inl rfl⟩,d⟩
    . subst ev;exact⟨_,cap,rfl,⟨_,cap,rfl,AO _,q,Z,Or.inl rfl⟩,d⟩
 . refine(PY a la ca f w l i).mono ?_;rintro e b ⟨g,c,rfl,r,_,⟨n,o⟩,d⟩;have k:=r.row 0 la c O n o t;rw[AX,Ad O]at k;exact⟨_,c,rfl,k,d⟩

