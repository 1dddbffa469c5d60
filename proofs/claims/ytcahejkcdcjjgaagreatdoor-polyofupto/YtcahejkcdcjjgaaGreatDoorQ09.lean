import Derived.Test.YtcahejkcdcjjgaaGreatDoorQ08
import Derived.Laws.CopyOwn
import Derived.Deep.OwnRows
set_option linter.all false
open Go.Value renaming slice->B,int->G
open Go renaming World->C,undef->L
open Go.Proofs.Tryz renaming prog->E
open Go.IntKind renaming u64->F,i64->I
open Go.Obj renaming cells->H
set_option maxRecDepth 99999
set_option maxHeartbeats 0
namespace Go.Proofs.YtcahejkcdcjjgaaGreatDoor
open List renaming replicate->TT
open Proofs.Tryz
open Go.RowKit Go.Shelf
section
def Bq:=@Lib.run_eql_slice_nil
def Bb:=@CallsIn.inRound
variable{p:Addr}{d:Array Bool}{ops:Array Oper}{Q:Exit->Act->C->Prop}{tab:List Ja}{bs ds q xs:Ja}{c i l len m n:Nat}{a:TR}{P:Program}{w:C}
def OJ(n:Nat):madeCells #[G F 0] n=(cellsOf F (TT n 0)).toArray:=by
 apply Array.ext
 . simp[madeCells,cellsOf]
 . intro i a b;simp[madeCells,cellsOf,Nat.mod_one]
def XZ(n:Nat)(h:n<=2199023255552)(w:C):(Instr.makeSlice 34 (G I (n:Int)) (G I (n:Int))).run E w=.ok (B (some ⟨w.heap.size,0,none⟩) n n) (w.alloc (H (cellsOf F (TT n 0)).toArray 163)):=by
 rw[<-OJ];exact run_make_row' 34 163 (G F 0) 8 underlying34 Tryz.infoU64 J I I n O O w
def GM(l:Nat)(h:l<=2199023255551)(w:C):(Instr.makeSlice 34 (G I ((l:Int)+1)) (G I ((l:Int)+1))).run E w=.ok (B (some ⟨w.heap.size,0,none⟩) (l+1) (l+1)) (w.alloc (H (cellsOf F (TT (l+1) 0)).toArray 163)):=
 XZ (l+1) O w
theorem Yj(b o j:Nat):(⟨b,o,none⟩:Addr).add j=⟨b,o+j,none⟩:=by simp[Addr.add]
theorem Yr(h:n<=m):(Jb Y n).length<=(Jb Y m).length:=by
 rcases Az (Jb Y m).length (Jb Y n).length with a|a
 . have:=Ya Jc a;omega
 . exact a
theorem OK{W:C}(h:Row F w (B a l c) ds)(f:Bl w W)(e:a=some p)(_h0:0<l)(j:Nat)(v:Value)(o:(cellsOf F ds)[j]?=some v):W.cell? (p.add j)=some v:=by
 obtain⟨hl,_,_,_,g⟩:=Jm h;have n:j<ds.length:=by
  grind[cellsOf]
 obtain⟨b,m,d,k,i⟩:=g j O;rw[d]at e;cases e;rw[Yj];rw[(f.cell (p:=⟨b,m+j,none⟩) k),i];grind[cellsOf]
theorem El(h:Row F w (B a l c) ds)(e:a=some p)(d:0<l):p.block<w.heap.size:=by
 obtain⟨b,i,f,g,_⟩:=(Jm h).2.2.2.2 0 d;grind
def OL(h:Row F w (B a l c) ds)(e:0<l):∃p,a=some p:=by
 obtain⟨b,g,d,f,_⟩:=(Jm h).2.2.2.2 0 e;exact⟨_,d⟩
theorem Ku(h:XN xs bs 0 len c q)(i:xs=Jb Y m)(f:bs=Jb Y n)(hl:len=xs.length)(g:bs.length<=len)(l:n<=m):Jp q=Jb Y (m-n):=by
 obtain⟨a,b,j,d⟩:=h;rw[AB,Ac (show xs.length<=len by omega),Ac g,i,f,Ji Jc,Ji Jc]at d;have e:=JS b;rw[a]at e;have k:c=0:=by
  grind
 grind[JN,Jc]
theorem IC(g c l:Nat)(a:TR)(b e:Nat)(xs:Ja)(w d:C)(n:Row F w (B a b e) xs)(m:Bl w d)(hg:w.heap.size<=g)(r:d.heap[g]?=some (H (cellsOf F (TT c 0)).toArray 163 (0,0)))(hl:b<=c):
 ∃k,(Builtin.copy_ #[34,34] 3 #[B (some ⟨g,0,none⟩) c l,B a b e]).run E d=.ok (G I (b:Nat)) k/\DG k g (xs++TT (c-b) 0)/\Bl w k:=by
 obtain⟨u,_⟩:=Jm n;have o:(Tryz.prog.info? 163).map (·.size)=some 1:=by kernel_rfl
 have s:(cellsOf F xs)++(cellsOf F (TT c 0)).drop b=cellsOf F (xs++TT (c-b) 0):=by simp[cellsOf]
 by_cases t:b=0
 . subst t;refine⟨d,run_copy_none (P:=E) d 34 34 3 163 (some ⟨g,0,none⟩) a c l 0 e underlying34 o (Nat.zero_min c),DG.made ?_,m⟩;grind
 . obtain⟨p,hp⟩:=OL n O;subst hp;have i:(cellsOf F xs).length=b:=by simp[cellsOf,u]
   have q:=run_copy_row (P:=E) d 34 34 3 163 g 0 c l p b e _ 163 (cellsOf F xs) underlying34 o r (by rw[i];exact(Ct hl).symm) (λj v f=>OK n m J O j v f) (by rw[i];simp[cellsOf];exact hl) (λv f=>by
    rw[cellsOf,List.mem_map]at f;obtain⟨_,_,rfl⟩:=f;rfl)
   rw[i,C8,Ah,Cd,s]at q;exact⟨_,q,DG.made (setRow_heap d g _ _ _ _ r),below_setRow m hg _⟩
theorem ID(a:TR)(d k:Nat)(b:TR)(lb l m n:Nat)(w:C)(o:Row F w (B a d k) (Jb Y m))(r:Row F w (B b lb l) (Jb Y n))(h:n<=m):
 Calls E 115 #[B a d k,B b lb l] w λe K=>∃u,e=.returned u/\UN K u (m-n)/\Bl w K:=by
 obtain⟨hl,ak,ah,ad,W⟩:=Jm o;obtain⟨D,am,ai,an,X⟩:=Jm r;have Q:lb<=d:=by rw[hl,D];exact Yr h
 have g:=Z hl;have j:=Z r;have R:=XZ d O w;obtain⟨f,i⟩:∃f,f=w.alloc (H (cellsOf F (TT d 0)).toArray 163):=⟨_,J⟩;have v:Bl w f:=by rw[i];exact Ba w _
 have x:f.heap[w.heap.size]?=some (H (cellsOf F (TT d 0)).toArray 163 (0,0)):=by rw[i];exact BD w _
 rw[<-i]at R;obtain⟨w2,aj,hA2,z⟩:=IC w.heap.size d d a d k (Jb Y m) w f o v (Aa _) x (Aa _);rw[A0,List.replicate_zero,Ca]at hA2;have ae:=hA2.lt;clear W hl X D o r i v x;go_enter func115,ntmps115
 go_wp2_with(go_at_call 148;refine(Kt w.heap.size 0 d d (Jb Y m) b lb l (Jb Y n) _ hA2 (Jh Jc m) (by rw[Cd,<-g.o];exact Aa _) (Aa _) O Q (Row.below j.o z) (Jh Jc n) λp e T=>by have:=El j.o e T;omega).mono ?_)
 rintro e w3 ⟨c,q,rfl,s,hA3,A⟩;have P:=s.1;have N:Row F w3 (B (some ⟨w.heap.size,0,none⟩) d d) q:=by
  have U:=hA3.row 0 d d (by rw[JK P (by rw[<-g.o];omega),<-g.o];omega) (Aa _) O ad;have S:((DL (Jb Y m) 0 d q).drop 0).take d=q:=by
   grind[DL]
  rwa[S]at U
 have M:=Z (Ku s J J g.o (by have:=Jm j.o;omega) h);have y:=below_grown z A (Aa _);clear s hA3 A;go_wp2_with(go_at_call 132;refine(Ye _ q _ N).mono ?_)
 rintro e w4 ⟨u,rfl,t,V⟩;rw[M.o]at t;obtain⟨ua,uc,rfl⟩:=UN.form t;go_wp2;go_ret;exact⟨_,J,t,y.trans (V.mono y.size)⟩
theorem Kv(h:XY (xs++[0]) bs 0 len c q)(i:xs=Jb Y m)(g:bs=Jb Y n)(hl:len=xs.length+1)(o:bs.length<=xs.length):Jp q=Jb Y (m+n):=by
 obtain⟨j,b,k,a⟩:=h;have p:m<Y^xs.length:=by
  grind[JS,Jh,Jc,Ji]
 have r:n<Y^xs.length:=by
  have:=JS (Jh Jc n);grind[Ji,Ao,Ap,Y]
 rw[AB,Ac (show(xs++[0]).length<=len by simp;omega),Ac (show bs.length<=len by omega),J0,A8,AX,g,Ji Jc]at a;have e:val Y xs=m:=by rw[i,Ji Jc]
 rw[e]at a;have f:Y^len=Y^xs.length*Y:=by rw[hl,A9]
 have l:Y^xs.length*2<=Y^len:=by rw[f];exact Ar _ Jc
 have d:c=0:=by
  grind
 subst d;rw[<-JN Jc b];congr 1
theorem Kw(a:TR)(d D:Nat)(b:TR)(lb K m n:Nat)(w:C)(l:Row F w (B a d D) (Jb Y m))(o:Row F w (B b lb K) (Jb Y n))(aq:d<1099511627776)(ay:lb<1099511627776):
 Calls E 113 #[B a d D,B b lb K] w λe w'=>∃u,e=.returned u/\UN w' u (m+n)/\Bl w w':=by
 by_cases az:d<lb
 . obtain⟨hl,aj,ae,am,X⟩:=Jm o;obtain⟨A,ak,ah,an,ad⟩:=Jm l;obtain⟨r,s,Q⟩:=DY hl l A;have S:=GM lb O w;obtain⟨f,g⟩:∃f,f=w.alloc (H (cellsOf F (TT (lb+1) 0)).toArray 163):=⟨_,J⟩;have t:Bl w f:=by rw[g];exact Ba w _
   have v:f.heap[w.heap.size]?=some (H (cellsOf F (TT (lb+1) 0)).toArray 163 (0,0)):=by rw[g];exact BD w _
   rw[<-g]at S;obtain⟨w2,ai,hA2,y⟩:=IC w.heap.size (lb+1) (lb+1) b lb K (Jb Y n) w f o t (Aa _) v O;rw[show lb+1-lb=1 from by omega,List.replicate_one]at hA2;have Qi:=hA2.lt;have M:=Z (show DE Y (Jb Y n++[0])from(Jh Jc n).append (DE.cons uo (DE.nil _)));have i:=Z (show(Jb Y n++[0]).length=lb+1 by grind);clear X hl ad A l o g t v;go_enter func113,ntmps113
   go_wp2_with(go_at_call 146;refine(IB w.heap.size 0 (lb+1) (lb+1) (Jb Y n++[0]) a d D (Jb Y m) _ hA2 M.o (by rw[Cd,i.o];exact Aa _) (Aa _) O O (Row.below s.o y) (Jh Jc m) λp e U=>by have:=El s.o e U;omega).mono ?_)
   rintro e w3 ⟨c,q,rfl,j,hA3,z⟩;have R:=j.1;have P:Row F w3 (B (some ⟨w.heap.size,0,none⟩) (lb+1) (lb+1)) q:=by
    have V:=hA3.row 0 (lb+1) (lb+1) (by rw[JK R (by rw[i.o];omega),i.o];omega) (Aa _) O O;have T:((DL (Jb Y n++[0]) 0 (lb+1) q).drop 0).take (lb+1)=q:=by
     grind[DL]
    rwa[T]at V
   have N:=Z (Kv j J J (by rw[<-r.o]) (by rw[<-r.o,<-Q.o];omega));have x:=below_grown y z (Aa _);clear j hA3 z;go_wp2_with(go_at_call 132;refine(Ye _ q _ P).mono ?_)
   rintro e w4 ⟨u,rfl,k,W⟩;rw[N.o]at k;obtain⟨ua,uc,rfl⟩:=UN.form k;go_wp2;go_ret;exact⟨_,J,by rw[CO m n];exact k,x.trans (W.mono x.size)⟩
 . obtain⟨hl,aj,ae,am,X⟩:=Jm l;obtain⟨A,ak,ah,an,ad⟩:=Jm o;obtain⟨r,s,Q⟩:=DY hl o A;have S:=GM d O w;obtain⟨f,g⟩:∃f,f=w.alloc (H (cellsOf F (TT (d+1) 0)).toArray 163):=⟨_,J⟩;have t:Bl w f:=by rw[g];exact Ba w _
   have v:f.heap[w.heap.size]?=some (H (cellsOf F (TT (d+1) 0)).toArray 163 (0,0)):=by rw[g];exact BD w _
   rw[<-g]at S;obtain⟨w2,ai,hA2,y⟩:=IC w.heap.size (d+1) (d+1) a d D (Jb Y m) w f l t (Aa _) v O;rw[show d+1-d=1 from by omega,List.replicate_one]at hA2;have Qi:=hA2.lt;have M:=Z (show DE Y (Jb Y m++[0])from(Jh Jc m).append (DE.cons uo (DE.nil _)));have i:=Z (show(Jb Y m++[0]).length=d+1 by grind);clear X hl ad A l o g t v;go_enter func113,ntmps113
   go_wp2_with(go_at_call 146;refine(IB w.heap.size 0 (d+1) (d+1) (Jb Y m++[0]) b lb K (Jb Y n) _ hA2 M.o (by rw[Cd,i.o];exact Aa _) (Aa _) O O (Row.below s.o y) (Jh Jc n) λp e U=>by have:=El s.o e U;omega).mono ?_)
   rintro e w3 ⟨c,q,rfl,j,hA3,z⟩;have R:=j.1;have P:Row F w3 (B (some ⟨w.heap.size,0,none⟩) (d+1) (d+1)) q:=by
    have V:=hA3.row 0 (d+1) (d+1) (by rw[JK R (by rw[i.o];omega),i.o];omega) (Aa _) O O;have T:((DL (Jb Y m++[0]) 0 (d+1) q).drop 0).take (d+1)=q:=by
     grind[DL]
    rwa[T]at V
   have N:=Z (Kv j J J (by rw[<-r.o]) (by rw[<-r.o,<-Q.o];omega));have x:=below_grown y z (Aa _);clear j hA3 z;go_wp2_with(go_at_call 132;refine(Ye _ q _ P).mono ?_)
   rintro e w4 ⟨u,rfl,k,W⟩;rw[N.o]at k;obtain⟨ua,uc,rfl⟩:=UN.form k;go_wp2;go_ret;exact⟨_,J,k,x.trans (W.mono x.size)⟩
def Y9(a:Array Bool):Nat:=a.toList.countP λb=>!b
theorem Xg(a:i<d.size)(h:d.getD i true=false):Y9 (d.setIfInBounds i true)+1=Y9 d:=by
 grind[Array.getInternal_eq_getElem,Y9]
theorem OM{F:Fence}{c:Region.Mode}(I:Array Bool->Act->C->Prop)
(step:∀b a w i,b.size=ops.size->I b a w->i∈Region.ready c ops b->wpOpIn F n P ops Q i (I (b.setIfInBounds i true)) a w)
(fin:∀b a w,b.size=ops.size->I b a w->Region.ready c ops b=[]->Q .normal a w):
 ∀(d:Nat) (b:Array Bool) (a:Act) (w:C),b.size=ops.size->Y9 b<=d->I b a w->wpAnyIn F n P c ops Q d b a w:=by
 intro d;have k:∀ {b:Array Bool} {i:Nat},i∈Region.ready c ops b->i<ops.size/\b.getD i true=false:=by
  intro b i e;simp only[Region.ready,List.mem_filter,List.mem_range,A4,Cl]at e;exact⟨e.1,e.2.1⟩
 induction d with
 |zero=>
  intro b a w hs j f;have g:Region.ready c ops b=[]:=by
   cases m:Region.ready c ops b with
   |nil=>rfl
   |cons i l=>
    grind[Cq,Xg]
  exact⟨g,fin _ _ _ hs f g⟩
 |succ d o=>
  intro b a w hs j f;refine⟨fin _ _ _ hs f,λi e=>?_⟩;grind[Xg,wpOpIn_mono]
def Dj:Tryz.prog.follows .mixedOrders=true:=by kernel_rfl
theorem ON{F:Fence}{id:Nat}{a:Act}(c:P.follows .mixedOrders=true)(I:Array Bool->Act->C->Prop)
(start:I (Array.replicate ops.size false) a w.drew)
(step:∀b a w i,b.size=ops.size->I b a w->i∈Region.ready .any ops b->wpOpIn F n P ops Q i (I (b.setIfInBounds i true)) a w)
(fin:∀b a w,b.size=ops.size->I b a w->Region.ready .any ops b=[]->Q .normal a w):
 (Code.region id ops true).wpIn F n P Q a w:=
 wpIn_region_any c (OM I step fin _ _ _ _ sp (by grind[Y9]) start)
def XA(tab:List Ja):Bool:=tab.zipIdx.all λp=>p.1.all (·<p.2)
def Xh(h:XA tab=true)(a:tab[i]?=some ds){j:Nat}(b:j∈ds):j<i:=by
 simp only[XA,Ay,Bd]at h;exact h (ds,i) (List.mk_mem_zipIdx_iff_getElem?.2 a) j b
theorem mem_ready{c:Region.Mode}(f:Region.tabAfter c ops=tab):
 i∈Region.ready c ops d↔d.getD i true=false/\∃ds,tab[i]?=some ds/\∀j∈ds,d.getD j false=true:=by
 subst f;simp only[Region.ready,List.mem_filter,List.mem_range,A4,Cl,Region.tabAfter,List.getElem?_map,Cn];constructor
 . rintro⟨e,b,a⟩;rw[Cu e]at a ⊢;simp only[Option.map_some,CZ,Array.all_eq_true',Bool.or_eq_true,Cl]at a;refine⟨b,_,J,λj k=>?_⟩;grind
 . rintro⟨b,ds,g,a⟩;grind
theorem Xp{F:Fence}{id:Nat}{a:Act}(v:P.follows .mixedOrders=true)
(tab:List Ja)(l:Region.tabAfter .any ops=tab)(q:XA tab=true)(I:(Nat->Bool)->Act->C->Prop)
(start:I (λ_=>false) a w.drew)
(step:∀(D:Nat->Bool) a w i ds,(∀i ds,tab[i]?=some ds->D i=true->∀j∈ds,D j=true)->tab[i]?=some ds->(∀j∈ds,D j=true)->D i=false->I D a w->wpOpIn F n P ops Q i (I λj=>j==i || D j) a w)
(fin:∀(D:Nat->Bool) a w,(∀i,i<tab.length->D i=true)->I D a w->Q .normal a w):
 (Code.region id ops true).wpIn F n P Q a w:=by
 have r:tab.length=ops.size:=by rw[<-l];simp[Region.tabAfter]
 refine ON v (λb a w=>(∀i ds,tab[i]?=some ds->b.getD i false=true->∀j∈ds,b.getD j false=true)/\I (λj=>b.getD j false) a w) ⟨λi ds _ h=>?_,?_⟩ ?_ ?_
 . simp only[Array.getD,Ci]at h;split at h<;>simp at h
 . have e:(λj=>(Array.replicate ops.size false).getD j false)=λ_=>false:=by
    funext j;simp only[Array.getD,Ci];split<;>simp
   rw[e];exact start
 . rintro b a w i hs ⟨p,d⟩ f;obtain⟨o,ds,c,s⟩:=(mem_ready l).1 f;have m:i<b.size:=by
    rw[hs,<-r];rcases Az i tab.length with h|h
    . exact h
    . grind
   have u:b.getD i false=false:=by
    simp only[Array.getD,m,dif_pos]at o ⊢;exact o
   have e:∀j,(b.setIfInBounds i true).getD j false=(j==i || b.getD j false):=by
    intro j;rw[Cz,Cz,Array.getElem?_setIfInBounds];by_cases k:i=j
    . subst k;simp[m]
    . simp[k,Ne.symm k]
   refine wpOpIn_mono (λy N h=>⟨λM z A t j g=>?_,?_⟩) (step _ a w i ds p c s u d)
   . grind
   . rw[show(λj=>(b.setIfInBounds i true).getD j false)=λj=>(j==i || b.getD j false)from funext e];exact h
 . rintro b a w hs ⟨p,d⟩ K;refine fin _ a w (λi=>?_) d;induction i using Nat.strongRecOn with
   |_ i x=>
    intro f;cases t:b.getD i false with
    |true=>rfl
    |false=>
     exfalso
     have c:tab[i]?=some tab[i]:=Ak f
     have:i∈Region.ready .any ops b:=(mem_ready l).2 ⟨by
      grind,_,c,λj g=>x j (Xh q c g) (by have:=Xh q c g;omega)⟩
     grind
attribute [local go_sem] Oper.semAt_some
def Kx(w:C)(a:TR)(len c:Nat)(b:TR)(lb d:Nat)(xs e:Ja)(k:Nat)(W:C):Prop:=
 (((Boxed W w.heap.size 34 (B b lb d)/\Boxed W (w.heap.size+1) 3 (.int I 0))/\Boxed W (w.heap.size+1+1) 34 (B a len c))/\Bl w W)/\xs.drop (len-k)=e.drop (len-k)
def Ky(w:C)(xs a:Ja)(c:Code)(_k:Nat)(W:C):Prop:=
 (Boxed W (w.heap.size+1) 3 (.int I (Ym (val Y xs) (val Y a)))/\Bl w W)/\c=.ret
def OO(w:C)(a:TR)(len c:Nat)(b:TR)(lb d:Nat)(xs e:Ja):OwnFrom (w.heap.size+1+1+1) (Kx w a len c b lb d xs e):=
 BL (BL (BL (BL (Bf (boxed_own _ _ λ_=>B b lb d) _) (Bf (boxed_own _ _ λ_=>G I 0) _)) (Bf (boxed_own _ _ λ_=>B a len c) _)) (Bo (Aa _) O)) (DA _ _)
def OP(w:C)(xs a:Ja)(c:Code):OwnFrom (w.heap.size+1+1+1) (Ky w xs a c):=
 BL (BL (Bf (boxed_own _ _ λ_=>G I (Ym (val Y xs) (val Y a))) _) (Bo (Aa _) O)) (DA _ _)
theorem OQ{c:Bool}(h:m≠n)(a:c=decide (n<m)):(if c then 1 else -1:Int)=Ym m n:=by
 grind[Xe,E2]
def OR(a:TR)(c k:Nat)(b:TR)(lb d:Nat)(w:C)(m n:Nat)(o:c≠lb)(l:c<lb↔m<n)(i:m≠n):
 Calls E 114 #[B a c k,B b lb d] w λe j=>e=.returned (G I (Ym m n))/\Bl w j:=by
 have p:(((c:Nat):Int) != (lb:Int))=true:=by rw[Bu];omega
 have g:=Z (show(if decide ((lb:Int)<(c:Int))=true then 1 else -1:Int)=Ym m n from OQ i DO);clear l i o;refine(BK (n:=3)).1 ?_;refine BV func114 J trivial ?_ J;simp only[ntmps114,Aj,Ai,AN,Nat.reduceAdd,Nat.reduceSub,Aw,Ax,AL,AA,Ah,Am];gi_wp2_with(refine⟨trivial,?_⟩;gi_at_call 119;refine((BK (n:=_)).2 (Hl _ _)).mono ?_;rintro e j ⟨rfl,rfl⟩)
 . have f:Ym m n=1:=by rw[<-g.o,BM si]
   have q:=(BI (w.alloc (H #[B b lb d] 34)) 3 (G I 1)).cell;simp only[A1]at q;refine⟨G I 1,by simp[results,results114,go_sem,q],by rw[f],?_⟩;exact(Ba w _).alloc sp _
 . have f:Ym m n=-1:=by rw[<-g.o,BJ si]
   have q:=(BI (w.alloc (H #[B b lb d] 34)) 3 (G I (-1))).cell;simp only[A1]at q;refine⟨G I (-1),by simp[results,results114,go_sem,q],by rw[f],?_⟩;exact(Ba w _).alloc sp _
theorem OS(a:TR)(len f:Nat)(b:TR)(g:Nat)(xs d:Ja)(w:C)(ha:Row F w (B a len f) xs)(hb:Row F w (B b len g) d)(xa:DE Y xs)(xb:DE Y d):
 Calls E 114 #[B a len f,B b len g] w λe U=>e=.returned (G I (Ym (val Y xs) (val Y d)))/\Bl w U:=by
 obtain⟨hl,ak,an,aj,z⟩:=Jm ha;obtain⟨ah,ai,aq,ay,ad⟩:=Jm hb;obtain⟨M,X,HC,Qe⟩:=Dl hl ah z ad;clear z ad hl ah ha hb;refine(BK (n:=3)).1 ?_;refine BV func114 J trivial ?_ J;simp only[ntmps114,Aj,Ai,AN,Nat.reduceAdd,Nat.reduceSub,Aw,Ax,AL,AA,Ah,Am];gi_wp2_with(refine⟨trivial,?_⟩;gi_at_call 147;refine(Fb Fence.wide _ trivial J _ _ _ _).mono ?_;rintro e U ⟨rfl,rfl⟩)
 obtain⟨W0,v⟩:=ex (((w.alloc (H #[B b len g] 34)).alloc (H #[G I 0] 3)).alloc (H #[B a len f] 34));have b0:=((BI w 34 (B b len g)).alloc (H #[G I 0] 3)).alloc (H #[B a len f] 34);have P:=(BI (w.alloc (H #[B b len g] 34)) 3 (G I 0)).alloc (H #[B a len f] 34);have R:=BI ((w.alloc (H #[B b len g] 34)).alloc (H #[G I 0] 3)) 34 (B a len f);simp only[A1]at P R;have hN:W0.heap.size=w.heap.size+1+1+1:=by rw[<-v];simp
 have Qf:Bl w W0:=by rw[<-v];exact((Ba w _).alloc sp _).alloc si _
 rw[v]at b0 P R ⊢;clear v;refine YJ J O (gf:=174) (lb:=#[.pointer (some ⟨w.heap.size+1+1,0,none⟩)]) J trivial (DB func174 TS J)
  (Fa Fence.wide _ trivial J O (w.heap.size+1+1) a len f (λj=>xs[j]?.getD 0) aj) (λ_=>rfl)
  (Kx w a len f b len g xs d) (Ky w xs d) (by rw[hN];exact OO w a len f b len g xs d) (λc=>by rw[hN];exact OP w xs d c)
  ⟨⟨⟨⟨b0,P⟩,R⟩,Qf⟩,by rw[CP,At (by rw[M.o];exact Aa _),At (by rw[X.o];exact Aa _)]⟩ ?rd
  (λk=>{ tmps:=#[B a len f,B b len g,L,.pointer (some ⟨w.heap.size,0,none⟩),.pointer (some ⟨w.heap.size+1,0,none⟩),G I ((len:Int)-1-k),G F (xs[len-1-k]?.getD 0:Nat),B a len f,G I (len:Nat),B b len g,G I (len:Nat),.bool false,L,L,L,L,L,L,B a len f,.func (.func 174) #[] #[.pointer (some ⟨w.heap.size+1+1,0,none⟩)],G I ((len:Int)-1-k),G F (xs[len-1-k]?.getD 0:Nat),L,L,L,L,L,L,L,L,L,L,L,L,L],defers:=[] }) ?assign ?body ?done ?stop
 case rd=>
  rintro k W ⟨⟨⟨_,c2⟩,i⟩,_⟩;refine⟨c2.cell,λhk=>?_⟩;obtain⟨u,A,ea,S,z⟩:=HC.o (len-1-k) O;exact⟨u,A,ea,(i.cell (p:=⟨u,A+(len-1-k),none⟩) S).trans z⟩
 case assign=>
  intro l k W K o;unfold Xf;gi_wp2;exact o
 case body=>
  rintro l k W ⟨⟨⟨⟨c0,c1⟩,c2⟩,i⟩,r⟩ hk az;have d0:=c0.cell;have d1:=c1.cell;have f1:=c1.frozen;obtain⟨u,A,rfl,S,ae⟩:=Qe.o (len-1-k) O;have dy:=(i.cell (p:=⟨u,A+(len-1-k),none⟩) S).trans ae;clear ae;have e1:((len:Int)-1-k)=((len-1-k:Nat):Int):=O
  rw[e1];have hm:len-1-k<len:=O
  have es:len-1-k+1=len-k:=O
  have Qc:xs.drop (len-1-k+1)=d.drop (len-1-k+1):=by rw[es];exact r
  have Qb:=M.o.symm.trans X.o;have s:=Z λ(h:xs[len-1-k]?.getD 0=d[len-1-k]?.getD 0)=>KJ Qb (len-1-k) (by rw[<-M.o];exact hm) Qc h;have t:=Z (show xs[len-1-k]?.getD 0≠d[len-1-k]?.getD 0->Ym (val Y xs) (val Y d)=Ym (xs[len-1-k]?.getD 0) (d[len-1-k]?.getD 0)from λh=>by
   grind[Xe,Gz,E2])
  have V:=Z (show len-(k+1)=len-1-k by omega);clear e1 es Qc r Qb;generalize xs[len-1-k]?.getD 0=x at s t ⊢;generalize d[len-1-k]?.getD 0=y at s t dy;generalize len-1-k=m at s hm V dy ⊢;have am:=ai;by_cases T:x=y
  . subst T;gi_wp2_with fail
    refine⟨KeepsFrom.refl _ _,⟨⟨⟨c0,c1⟩,c2⟩,i⟩,?_⟩;rw[V.o];exact s.o sp
  . have bc:(((x:Nat):Int) != (y:Int))=true:=by rw[Bu];omega
    have N:=Z T;clear T;gi_wp2_with(refine⟨trivial,?_⟩;gi_at_call 119;refine(Bb l ((BK (n:=_)).2 (Hl _ _))).mono ?_;rintro e U ⟨rfl,rfl⟩)
    . refine⟨(BT _ _ _).from _,⟨?_,i.setCell (p:=⟨w.heap.size+1,0,none⟩) sp _⟩,J⟩;rw[t.o N.o,E2 ‹y<x›];exact c1.set _
    . refine⟨(BT _ _ _).from _,⟨?_,i.setCell (p:=⟨w.heap.size+1,0,none⟩) sp _⟩,J⟩;rw[t.o N.o,Xe (by have:=N.o;omega)];exact c1.set _
 case done=>
  rintro D W hD ⟨⟨⟨⟨c0,c1⟩,c2⟩,i⟩,r⟩ o;have d1:=c1.cell;have f1:=c1.frozen;have HZ:=Z r;clear r;gi_wp2;have Qd:=(BT W ⟨w.heap.size+1,0,none⟩ (G I 0)).same D _ o J;refine⟨sp,.inl ⟨_,_,J,Bc Qd,?_⟩⟩;have Q:=(c1.set (G I 0)).kept (BW _ D (.deferred none)) (λe=>by grind);have q:=Q.cell;have hv:Ym (val Y xs) (val Y d)=0:=by
   have:=HZ.o;grind[Gy]
  refine⟨G I 0,by simp[results,results114,go_sem,q],by rw[hv],?_⟩;exact(i.setCell (p:=⟨w.heap.size+1,0,none⟩) sp _).trans (belowK_b (w:=w) (Aa _) _ D _ _ O Qd J J)
 case stop=>
  rintro D c k W hD hk ⟨⟨c1,i⟩,rfl⟩ o;have d1:=c1.cell;gi_wp2;refine⟨sp,.inl ⟨_,_,J,Bc o,?_⟩⟩;have Q:=c1.kept (BW _ D (.deferred none)) (λe=>by grind);have q:=Q.cell;refine⟨G I (Ym (val Y xs) (val Y d)),by simp[results,results114,go_sem,q],J,?_⟩;exact i.trans (belowK_b (w:=w) (Aa _) _ D _ _ O o J J)
theorem IE(p q:Value)(xs c:Ja)(w:C)(o:Row F w p xs)(j:Row F w q c)(d:DE Y xs)(f:DE Y c)(k:Dn xs)(l:Dn c):
 Calls E 114 #[p,q] w λe r=>e=.returned (G I (Ym (val Y xs) (val Y c)))/\Bl w r:=by
 obtain⟨a,m,rfl,s⟩:=id o;obtain⟨b,n,rfl,t⟩:=id j;have i:2<=Y:=by unfold Y;omega
 by_cases hl:xs.length=c.length
 . rw[<-hl]at j ⊢;exact OS a xs.length m b n xs c w o j d f
 . refine OR a _ m b _ n w _ _ hl ?_ ?_
   . constructor
     . exact λh=>J6 i d f k l h
     . intro h;grind[Nat.lt_or_gt_of_ne,J6]
   . rcases Nat.lt_or_gt_of_ne hl with g|g
     . have:=J6 i d f k l g;omega
     . have:=J6 i f d l k g;omega
end
variable{a:Act}{ops:Array Oper}{Q:Exit->Act->C->Prop}{P:Program}{w:C}
def OT(n c:Nat)(w:C):Calls E 131 #[B none n c] w λe d=>e=.returned (B none 0 0)/\d=w:=by
 have f:∀(w:C) (a:TR) (n c b c':Nat),(binOp .eql 34 (B a n c) (B none b c')).run E w=.ok (.bool a.isNone) w:=λw a n c b c'=>Bq w _ _ a n c b c' underlying34;go_enter func131,ntmps131
 go_wp2;go_ret;exact⟨J,J⟩
theorem IF(p:Addr)(c:Nat)(xs:Ja)(w:C)(hl:xs.length<=1099511627776)(f:∀j,j<xs.length->w.cell? (p.add j)=some (G F (xs[j]?.getD 0:Nat))):
 Calls E 131 #[B (some p) xs.length c] w λe g=>∃b,e=.returned b/\g.ownsRow w.heap.size 163 1 b xs.length (cellsOf F xs)/\Bl w g:=by
 obtain⟨y,m,s,t,v⟩:=Bg Tryz.infoU64;have K:∀(w:C) (a:TR) (n c d c':Nat),(binOp .eql 34 (B a n c) (B none d c')).run E w=.ok (.bool a.isNone) w:=λw a n c d c'=>Bq w _ _ a n c d c' underlying34;have A:=Z f;clear f;go_enter func131,ntmps131
 go_wp2_with(at_builtin;refine BN _ J _ _ 34 J w.heap.size 163 y (G F 0) 1 8 underlying34 m s t v J DI _ _ _ J (World.ownsRow_made w #[] 0 (Aa _) (AH _) J) p xs.length c (cellsOf F xs) J ?qc1 ?qc2 ?qc3 ?qc4 ?qc5 ?qc6 ?_)
 case qc1=>simp[cellsOf]
 case qc2=>
  intro j u z;have i:j<xs.length:=by
   grind[cellsOf]
  refine Lib.cell?_alloc_some _ ?_;rw[A.o j i];grind[cellsOf]
 case qc3=>intro u r;obtain⟨x,_,rfl⟩:=List.mem_map.1 r;rfl
 case qc4=>unfold maxLen;omega
 case qc5=>omega
 case qc6=>simp
 intro b M q l D;go_wp2;go_ret;refine⟨b,J,by simpa using q,?_⟩;exact(Ba w _).grown l sp (by intro k o;simp[Value.ownBlock]at o;omega)
theorem OU{c:Region.Mode}(I:Array Bool->Act->C->Prop)
(step:∀b a w i,b.size=ops.size->I b a w->i∈Region.ready c ops b->wpOp P ops Q i (I (b.setIfInBounds i true)) a w)
(fin:∀b a w,b.size=ops.size->I b a w->Region.ready c ops b=[]->Q .normal a w):
 ∀(d:Nat) (b:Array Bool) (a:Act) (w:C),b.size=ops.size->Y9 b<=d->I b a w->wpAny P c ops Q d b a w:=by
 intro d;have k:∀ {b:Array Bool} {i:Nat},i∈Region.ready c ops b->i<ops.size/\b.getD i true=false:=by
  intro b i e;simp only[Region.ready,List.mem_filter,List.mem_range,A4,Cl]at e;exact⟨e.1,e.2.1⟩
 induction d with
 |zero=>
  intro b a w hs j f;have g:Region.ready c ops b=[]:=by
   cases m:Region.ready c ops b with
   |nil=>rfl
   |cons i l=>
    grind[Cq,Xg]
  exact⟨g,fin _ _ _ hs f g⟩
 |succ d n=>
  intro b a w hs j f;refine⟨fin _ _ _ hs f,λi e=>?_⟩;grind[Xg,wpOp_mono]
theorem wp_region_held{id:Nat}(c:P.follows .mixedOrders=true)(I:Array Bool->Act->C->Prop)
(start:I (Array.replicate ops.size false) a w.drew)
(step:∀b a w i,b.size=ops.size->I b a w->i∈Region.ready .any ops b->wpOp P ops Q i (I (b.setIfInBounds i true)) a w)
(fin:∀b a w,b.size=ops.size->I b a w->Region.ready .any ops b=[]->Q .normal a w):
 (Code.region id ops true).wp P Q a w:=
 wp_region_any c (OU I step fin _ _ _ _ sp (by grind[Y9]) start)
theorem J4{id:Nat}(u:P.follows .mixedOrders=true)
(tab:List Ja)(l:Region.tabAfter .any ops=tab)(p:XA tab=true)(I:(Nat->Bool)->Act->C->Prop)
(start:I (λ_=>false) a w.drew)
(step:∀(D:Nat->Bool) a w i ds,(∀i ds,tab[i]?=some ds->D i=true->∀j∈ds,D j=true)->tab[i]?=some ds->(∀j∈ds,D j=true)->D i=false->I D a w->wpOp P ops Q i (I λj=>j==i || D j) a w)
(fin:∀(D:Nat->Bool) a w,(∀i,i<tab.length->D i=true)->I D a w->Q .normal a w):
 (Code.region id ops true).wp P Q a w:=by
 have q:tab.length=ops.size:=by rw[<-l];simp[Region.tabAfter]
 refine wp_region_held u (λb a w=>(∀i ds,tab[i]?=some ds->b.getD i false=true->∀j∈ds,b.getD j false=true)/\I (λj=>b.getD j false) a w) ⟨λi ds _ h=>?_,?_⟩ ?_ ?_
 . simp only[Array.getD,Ci]at h;split at h<;>simp at h
 . have e:(λj=>(Array.replicate ops.size false).getD j false)=λ_=>false:=by
    funext j;simp only[Array.getD,Ci];split<;>simp
   rw[e];exact start
 . rintro b a w i hs ⟨o,d⟩ f;obtain⟨n,ds,c,r⟩:=(mem_ready l).1 f;have m:i<b.size:=by
    rw[hs,<-q];rcases Az i tab.length with h|h
    . exact h
    . grind
   have t:b.getD i false=false:=by
    simp only[Array.getD,m,dif_pos]at n ⊢;exact n
   have e:∀j,(b.setIfInBounds i true).getD j false=(j==i || b.getD j false):=by
    intro j;rw[Cz,Cz,Array.getElem?_setIfInBounds];by_cases k:i=j
    . subst k;simp[m]
    . simp[k,Ne.symm k]
   refine wpOp_mono (λx M h=>⟨λK y z s j g=>?_,?_⟩) (step _ a w i ds o c r t d)
   . grind
   . rw[show(λj=>(b.setIfInBounds i true).getD j false)=λj=>(j==i || b.getD j false)from funext e];exact h
 . rintro b a w hs ⟨o,d⟩ A;refine fin _ a w (λi=>?_) d;induction i using Nat.strongRecOn with
   |_ i v=>
    intro f;cases s:b.getD i false with
    |true=>rfl
    |false=>
     exfalso
     have c:tab[i]?=some tab[i]:=Ak f
     have:i∈Region.ready .any ops b:=(mem_ready l).2 ⟨by
      grind,_,c,λj g=>v j (Xh p c g) (by have:=Xh p c g;omega)⟩
     grind
def DZ{T:List Ja}{D:Nat->Bool}(c:∀i ds,T[i]?=some ds->D i=true->∀j∈ds,D j=true){a k:Nat}{ds:Ja}(b:D k=false)(e:T[a]?=some ds:=by rfl)(d:k∈ds:=by simp):D a=false:=by
 cases h:D a with
 |false=>rfl
 |true=>rw[c a ds e h k d]at b;cases b
theorem Kz(a:TR)(b c:Nat)(d:Ja)(w:C)(u:Row F w (B a b c) d)(o:0<b):
 Calls E 131 #[B a b c] w λe f=>∃g i,e=.returned (B (some ⟨g,0,none⟩) b i)/\DG f g d/\w.heap.size<=g/\(b<=i/\i<=9223372036854775807)/\Bl w f:=by
 obtain⟨hl,y,D,A,t⟩:=Jm u;obtain⟨m,n,rfl,_,_⟩:=t 0 o;have k:=IF ⟨m,n,none⟩ c d w O (λj z=>by
  grind[Yj])
 rw[<-hl]at k;refine k.mono ?_;rintro e f ⟨K,rfl,l,s⟩;rcases l.2 with⟨_,ev⟩|⟨g,cap,v,ev,p,x,q,r,_⟩
 . omega
 . subst ev;exact⟨_,cap,J,DG.owns l,p,⟨q,r⟩,s⟩
theorem K0(a:TR)(b c:Nat)(f:Ja)(w:C)(m:Row F w (B a b c) f):
 Calls E 131 #[B a b c] w λe d=>∃n i,e=.returned (B n b i)/\Row F d (B n b i) f/\Bl w d:=by
 obtain⟨hl,z,D,u,A⟩:=Jm m;rcases AF b with k|k
 . subst k;obtain rfl:f=[]:=Ag hl.symm;cases a with
   |none=>
    refine(OT 0 c w).mono ?_;rintro e d ⟨rfl,rfl⟩;exact⟨none,0,J,⟨none,0,J,Aa _,O,O,Al J⟩,BB _ _⟩
   |some p=>
    refine(IF p c [] w sp λj t=>by simp at t).mono ?_;rintro e d ⟨M,rfl,v,l⟩;rcases v.2 with⟨ev,_⟩|⟨g,cap,x,ev,_,_,y,r,_⟩
    . subst ev;exact⟨none,0,J,⟨none,0,J,Aa _,O,O,Al J⟩,l⟩
    . subst ev;exact⟨_,cap,J,⟨_,cap,J,AH _,r,sp,Al J⟩,l⟩
 . refine(Kz a b c f w m k).mono ?_;rintro e d ⟨g,i,rfl,s,_,⟨o,q⟩,l⟩;have K:=s.row 0 b i O o q u;grind

