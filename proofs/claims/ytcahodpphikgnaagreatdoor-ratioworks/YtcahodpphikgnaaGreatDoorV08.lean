import Derived.Test.YtcahodpphikgnaaGreatDoorV07
import Derived.Laws.CopyOwn
import Derived.Deep.OwnRows
set_option linter.all false
open Go.Value renaming slice->B,int->G
open Go renaming World->C,undef->L
open Go.Proofs.Tryz renaming prog->E
open Go.IntKind renaming u64->F,i64->I
open Go.Obj renaming cells->H
set_option maxRecDepth 99999
set_option maxHeartbeats 0
namespace Go.Proofs.YtcahodpphikgnaaGreatDoor
open List renaming replicate->OA
open Proofs.Tryz
open Go.RowKit Go.Shelf
section
def Be:=@CallsIn.inRound
variable{p:Addr}{d:Array Bool}{ops:Array Oper}{Q:Exit->Act->C->Prop}{tab:List Ja}{bs ds q xs:Ja}{c i l len m n:Nat}{a:N8}{P:Program}{w:C}
def Kv(n:Nat):madeCells #[G F 0] n=(cellsOf F (OA n 0)).toArray:=by
 apply Array.ext
 . simp[madeCells,cellsOf]
 . intro i a b;simp[madeCells,cellsOf,Nat.mod_one]
def Xl(n:Nat)(h:n<=2199023255552)(w:C):(Instr.makeSlice 23 (G I (n:Int)) (G I (n:Int))).run E w=.ok (B (some ⟨w.heap.size,0,none⟩) n n) (w.alloc (H (cellsOf F (OA n 0)).toArray 94)):=by
 rw[<-Kv];exact run_make_row' 23 94 (G F 0) 8 underlying23 Tryz.infoU64 J I I n Y Y w
def XW(l:Nat)(h:l<=2199023255551)(w:C):(Instr.makeSlice 23 (G I ((l:Int)+1)) (G I ((l:Int)+1))).run E w=.ok (B (some ⟨w.heap.size,0,none⟩) (l+1) (l+1)) (w.alloc (H (cellsOf F (OA (l+1) 0)).toArray 94)):=
 Xl (l+1) Y w
theorem Fr(b o j:Nat):(⟨b,o,none⟩:Addr).add j=⟨b,o+j,none⟩:=by simp[Addr.add]
theorem Yc(h:n<=m):(Jb O n).length<=(Jb O m).length:=by
 rcases As (Jb O m).length (Jb O n).length with a|a
 . have:=J0 Jc a;omega
 . exact a
theorem Kw{W:C}(h:Row F w (B a l c) ds)(f:Bl w W)(e:a=some p)(_h0:0<l)(j:Nat)(v:Value)(o:(cellsOf F ds)[j]?=some v):W.cell? (p.add j)=some v:=by
 obtain⟨hl,_,_,_,g⟩:=Jm h;have n:j<ds.length:=by
  grind[cellsOf]
 obtain⟨b,m,d,k,i⟩:=g j Y;rw[d]at e;cases e;rw[Fr];rw[(f.cell (p:=⟨b,m+j,none⟩) k),i];grind[cellsOf]
theorem Do(h:Row F w (B a l c) ds)(e:a=some p)(d:0<l):p.block<w.heap.size:=by
 obtain⟨b,i,f,g,_⟩:=(Jm h).2.2.2.2 0 d;grind
def Kx(h:Row F w (B a l c) ds)(e:0<l):∃p,a=some p:=by
 obtain⟨b,g,d,f,_⟩:=(Jm h).2.2.2.2 0 e;exact⟨_,d⟩
theorem Gv(h:Y8 xs bs 0 len c q)(i:xs=Jb O m)(f:bs=Jb O n)(hl:len=xs.length)(g:bs.length<=len)(l:n<=m):Jl q=Jb O (m-n):=by
 obtain⟨a,b,j,d⟩:=h;rw[Aq,Ab (show xs.length<=len by omega),Ab g,i,f,Je Jc,Je Jc]at d;have e:=JL b;rw[a]at e;have k:c=0:=by
  grind
 grind[JC,Jc]
theorem Fs(g c l:Nat)(a:N8)(b e:Nat)(xs:Ja)(w d:C)(n:Row F w (B a b e) xs)(m:Bl w d)(u:w.heap.size<=g)(r:d.heap[g]?=some (H (cellsOf F (OA c 0)).toArray 94 (0,0)))(hl:b<=c):
 ∃k,(Builtin.copy_ #[23,23] 3 #[B (some ⟨g,0,none⟩) c l,B a b e]).run E d=.ok (G I (b:Nat)) k/\Bv k g (xs++OA (c-b) 0)/\Bl w k:=by
 obtain⟨x,_⟩:=Jm n;have o:(Tryz.prog.info? 94).map (·.size)=some 1:=by kernel_rfl
 have s:(cellsOf F xs)++(cellsOf F (OA c 0)).drop b=cellsOf F (xs++OA (c-b) 0):=by simp[cellsOf]
 by_cases t:b=0
 . subst t;refine⟨d,run_copy_none (P:=E) d 23 23 3 94 (some ⟨g,0,none⟩) a c l 0 e underlying23 o (Nat.zero_min c),Bv.made ?_,m⟩;grind
 . obtain⟨p,hp⟩:=Kx n Y;subst hp;have i:(cellsOf F xs).length=b:=by simp[cellsOf,x]
   have q:=run_copy_row (P:=E) d 23 23 3 94 g 0 c l p b e _ 94 (cellsOf F xs) underlying23 o r (by rw[i];exact(Cj hl).symm) (λj v f=>Kw n m J Y j v f) (by rw[i];simp[cellsOf];exact hl) (λv f=>by
    rw[cellsOf,List.mem_map]at f;obtain⟨_,_,rfl⟩:=f;rfl)
   rw[i,CW,Ak,Cc,s]at q;exact⟨_,q,Bv.made (setRow_heap d g _ _ _ _ r),below_setRow m u _⟩
theorem Ft(a:N8)(d k:Nat)(b:N8)(lb l m n:Nat)(w:C)(o:Row F w (B a d k) (Jb O m))(r:Row F w (B b lb l) (Jb O n))(h:n<=m):
 Calls E 76 #[B a d k,B b lb l] w λe K=>∃u,e=.returned u/\UN K u (m-n)/\Bl w K:=by
 obtain⟨hl,ai,ad,aa,W⟩:=Jm o;obtain⟨D,aj,ae,ak,X⟩:=Jm r;have Q:lb<=d:=by rw[hl,D];exact Yc h
 have g:=Z hl;have j:=Z r;have R:=Xl d Y w;obtain⟨f,i⟩:∃f,f=w.alloc (H (cellsOf F (OA d 0)).toArray 94):=⟨_,J⟩;have v:Bl w f:=by rw[i];exact Ba w _
 have x:f.heap[w.heap.size]?=some (H (cellsOf F (OA d 0)).toArray 94 (0,0)):=by rw[i];exact BD w _
 rw[<-i]at R;obtain⟨w2,ah,hA2,z⟩:=Fs w.heap.size d d a d k (Jb O m) w f o v (Aa _) x (Aa _);rw[AW,List.replicate_zero,CO]at hA2;clear W hl X D o r i v x;go_enter func76,ntmps76
 go_wp2_with(go_at_call 107;refine(Gu w.heap.size 0 d d (Jb O m) b lb l (Jb O n) _ hA2 (Jf Jc m) (by rw[Cc,<-g.o];exact Aa _) (Aa _) Y Q (Row.below j.o z) (Jf Jc n) λp e T=>by have:=Do j.o e T;omega).mono ?_)
 rintro e w3 ⟨c,q,rfl,s,hA3,A⟩;have P:=s.1;have N:Row F w3 (B (some ⟨w.heap.size,0,none⟩) d d) q:=by
  have U:=hA3.row 0 d d (by rw[JB P (by rw[<-g.o];omega),<-g.o];omega) (Aa _) Y aa;have S:((B0 (Jb O m) 0 d q).drop 0).take d=q:=by
   grind[B0]
  rwa[S]at U
 have M:=Z (Gv s J J g.o (by have:=Jm j.o;omega) h);have y:=below_grown z A (Aa _);clear s hA3 A;go_wp2_with(go_at_call 73;refine(J2 _ q _ N).mono ?_)
 rintro e w4 ⟨u,rfl,t,V⟩;rw[M.o]at t;obtain⟨ua,uc,rfl⟩:=UN.form t;go_wp2;go_ret;exact⟨_,J,t,y.trans (V.mono y.size)⟩
theorem Gw(h:Xk (xs++[0]) bs 0 len c q)(i:xs=Jb O m)(g:bs=Jb O n)(hl:len=xs.length+1)(o:bs.length<=xs.length):Jl q=Jb O (m+n):=by
 obtain⟨j,b,k,a⟩:=h;have p:m<O^xs.length:=by
  grind[JL,Jf,Jc,Je]
 have r:n<O^xs.length:=by
  have:=JL (Jf Jc n);grind[Je,Ao,Al,O]
 rw[Aq,Ab (show(xs++[0]).length<=len by simp;omega),Ab (show bs.length<=len by omega),JP,AU,AK,g,Je Jc]at a;have e:val O xs=m:=by rw[i,Je Jc]
 rw[e]at a;have f:O^len=O^xs.length*O:=by rw[hl,AV]
 have l:O^xs.length*2<=O^len:=by rw[f];exact Ai _ Jc
 have d:c=0:=by
  grind
 subst d;rw[<-JC Jc b];congr 1
theorem Gx(a:N8)(d D:Nat)(b:N8)(lb K m n:Nat)(w:C)(l:Row F w (B a d D) (Jb O m))(o:Row F w (B b lb K) (Jb O n))(an:d<1099511627776)(ap:lb<1099511627776):
 Calls E 75 #[B a d D,B b lb K] w λe w'=>∃u,e=.returned u/\UN w' u (m+n)/\Bl w w':=by
 by_cases aq:d<lb
 . obtain⟨hl,ai,ad,ak,X⟩:=Jm o;obtain⟨A,aj,ae,am,aa⟩:=Jm l;obtain⟨r,s,Q⟩:=C6 hl l A;have S:=XW lb Y w;obtain⟨f,g⟩:∃f,f=w.alloc (H (cellsOf F (OA (lb+1) 0)).toArray 94):=⟨_,J⟩;have t:Bl w f:=by rw[g];exact Ba w _
   have v:f.heap[w.heap.size]?=some (H (cellsOf F (OA (lb+1) 0)).toArray 94 (0,0)):=by rw[g];exact BD w _
   rw[<-g]at S;obtain⟨w2,ah,hA2,y⟩:=Fs w.heap.size (lb+1) (lb+1) b lb K (Jb O n) w f o t (Aa _) v Y;rw[show lb+1-lb=1 from by omega,List.replicate_one]at hA2;have M:=Z (show Bs O (Jb O n++[0])from(Jf Jc n).append (Bs.cons uo (Bs.nil _)));have i:=Z (show(Jb O n++[0]).length=lb+1 by grind);clear X hl aa A l o g t v;go_enter func75,ntmps75
   go_wp2_with(go_at_call 106;refine(Fq w.heap.size 0 (lb+1) (lb+1) (Jb O n++[0]) a d D (Jb O m) _ hA2 M.o (by rw[Cc,i.o];exact Aa _) (Aa _) Y Y (Row.below s.o y) (Jf Jc m) λp e U=>by have:=Do s.o e U;omega).mono ?_)
   rintro e w3 ⟨c,q,rfl,j,hA3,z⟩;have R:=j.1;have P:Row F w3 (B (some ⟨w.heap.size,0,none⟩) (lb+1) (lb+1)) q:=by
    have V:=hA3.row 0 (lb+1) (lb+1) (by rw[JB R (by rw[i.o];omega),i.o];omega) (Aa _) Y Y;have T:((B0 (Jb O n++[0]) 0 (lb+1) q).drop 0).take (lb+1)=q:=by
     grind[B0]
    rwa[T]at V
   have N:=Z (Gw j J J (by rw[<-r.o]) (by rw[<-r.o,<-Q.o];omega));have x:=below_grown y z (Aa _);clear j hA3 z;go_wp2_with(go_at_call 73;refine(J2 _ q _ P).mono ?_)
   rintro e w4 ⟨u,rfl,k,W⟩;rw[N.o]at k;obtain⟨ua,uc,rfl⟩:=UN.form k;go_wp2;go_ret;exact⟨_,J,by rw[CK m n];exact k,x.trans (W.mono x.size)⟩
 . obtain⟨hl,ai,ad,ak,X⟩:=Jm l;obtain⟨A,aj,ae,am,aa⟩:=Jm o;obtain⟨r,s,Q⟩:=C6 hl o A;have S:=XW d Y w;obtain⟨f,g⟩:∃f,f=w.alloc (H (cellsOf F (OA (d+1) 0)).toArray 94):=⟨_,J⟩;have t:Bl w f:=by rw[g];exact Ba w _
   have v:f.heap[w.heap.size]?=some (H (cellsOf F (OA (d+1) 0)).toArray 94 (0,0)):=by rw[g];exact BD w _
   rw[<-g]at S;obtain⟨w2,ah,hA2,y⟩:=Fs w.heap.size (d+1) (d+1) a d D (Jb O m) w f l t (Aa _) v Y;rw[show d+1-d=1 from by omega,List.replicate_one]at hA2;have M:=Z (show Bs O (Jb O m++[0])from(Jf Jc m).append (Bs.cons uo (Bs.nil _)));have i:=Z (show(Jb O m++[0]).length=d+1 by grind);clear X hl aa A l o g t v;go_enter func75,ntmps75
   go_wp2_with(go_at_call 106;refine(Fq w.heap.size 0 (d+1) (d+1) (Jb O m++[0]) b lb K (Jb O n) _ hA2 M.o (by rw[Cc,i.o];exact Aa _) (Aa _) Y Y (Row.below s.o y) (Jf Jc n) λp e U=>by have:=Do s.o e U;omega).mono ?_)
   rintro e w3 ⟨c,q,rfl,j,hA3,z⟩;have R:=j.1;have P:Row F w3 (B (some ⟨w.heap.size,0,none⟩) (d+1) (d+1)) q:=by
    have V:=hA3.row 0 (d+1) (d+1) (by rw[JB R (by rw[i.o];omega),i.o];omega) (Aa _) Y Y;have T:((B0 (Jb O m++[0]) 0 (d+1) q).drop 0).take (d+1)=q:=by
     grind[B0]
    rwa[T]at V
   have N:=Z (Gw j J J (by rw[<-r.o]) (by rw[<-r.o,<-Q.o];omega));have x:=below_grown y z (Aa _);clear j hA3 z;go_wp2_with(go_at_call 73;refine(J2 _ q _ P).mono ?_)
   rintro e w4 ⟨u,rfl,k,W⟩;rw[N.o]at k;obtain⟨ua,uc,rfl⟩:=UN.form k;go_wp2;go_ret;exact⟨_,J,k,x.trans (W.mono x.size)⟩
def YI(a:Array Bool):Nat:=a.toList.countP λb=>!b
theorem YO(a:i<d.size)(h:d.getD i true=false):YI (d.setIfInBounds i true)+1=YI d:=by
 grind[Array.getInternal_eq_getElem,YI]
theorem Ky{F:Fence}{c:Region.Mode}(d:Array Bool->Act->C->Prop)
(step:∀b a w i,b.size=ops.size->d b a w->i∈Region.ready c ops b->wpOpIn F n P ops Q i (d (b.setIfInBounds i true)) a w)
(fin:∀b a w,b.size=ops.size->d b a w->Region.ready c ops b=[]->Q .normal a w):
 ∀(fuel:Nat) (b:Array Bool) (a:Act) (w:C),b.size=ops.size->YI b<=fuel->d b a w->wpAnyIn F n P c ops Q fuel b a w:=by
 intro fuel;have k:∀ {b:Array Bool} {i:Nat},i∈Region.ready c ops b->i<ops.size/\b.getD i true=false:=by
  intro b i e;simp only[Region.ready,List.mem_filter,List.mem_range,AP,A7]at e;exact⟨e.1,e.2.1⟩
 induction fuel with
 |zero=>
  intro b a w hs j f;have g:Region.ready c ops b=[]:=by
   cases m:Region.ready c ops b with
   |nil=>rfl
   |cons i l=>
    grind[CD,YO]
  exact⟨g,fin _ _ _ hs f g⟩
 |succ fuel o=>
  intro b a w hs j f;refine⟨fin _ _ _ hs f,λi e=>?_⟩;grind[YO,wpOpIn_mono]
def DN:Tryz.prog.follows .mixedOrders=true:=by kernel_rfl
theorem Kz{F:Fence}{id:Nat}{a:Act}(d:P.follows .mixedOrders=true)(c:Array Bool->Act->C->Prop)
(start:c (Array.replicate ops.size false) a w.drew)
(step:∀b a w i,b.size=ops.size->c b a w->i∈Region.ready .any ops b->wpOpIn F n P ops Q i (c (b.setIfInBounds i true)) a w)
(fin:∀b a w,b.size=ops.size->c b a w->Region.ready .any ops b=[]->Q .normal a w):
 (Code.region id ops true).wpIn F n P Q a w:=
 wpIn_region_any d (Ky c step fin _ _ _ _ Br (by grind[YI]) start)
def Y0(tab:List Ja):Bool:=tab.zipIdx.all λp=>p.1.all (·<p.2)
def YP(h:Y0 tab=true)(a:tab[i]?=some ds){j:Nat}(b:j∈ds):j<i:=by
 simp only[Y0,AX,BS]at h;exact h (ds,i) (List.mk_mem_zipIdx_iff_getElem?.2 a) j b
theorem mem_ready{c:Region.Mode}(f:Region.tabAfter c ops=tab):
 i∈Region.ready c ops d↔d.getD i true=false/\∃ds,tab[i]?=some ds/\∀j∈ds,d.getD j false=true:=by
 subst f;simp only[Region.ready,List.mem_filter,List.mem_range,AP,A7,Region.tabAfter,List.getElem?_map,CF];constructor
 . rintro⟨e,b,a⟩;rw[Ck e]at a ⊢;simp only[Option.map_some,Option.getD_some,Array.all_eq_true',Bool.or_eq_true,A7]at a;refine⟨b,_,J,λj k=>?_⟩;grind
 . rintro⟨b,ds,g,a⟩;grind
theorem XD{F:Fence}{id:Nat}{a:Act}(x:P.follows .mixedOrders=true)
(tab:List Ja)(m:Region.tabAfter .any ops=tab)(r:Y0 tab=true)(c:(Nat->Bool)->Act->C->Prop)
(start:c (λ_=>false) a w.drew)
(step:∀(D:Nat->Bool) a w i ds,(∀i ds,tab[i]?=some ds->D i=true->∀j∈ds,D j=true)->tab[i]?=some ds->(∀j∈ds,D j=true)->D i=false->c D a w->wpOpIn F n P ops Q i (c λj=>j==i || D j) a w)
(fin:∀(D:Nat->Bool) a w,(∀i,i<tab.length->D i=true)->c D a w->Q .normal a w):
 (Code.region id ops true).wpIn F n P Q a w:=by
 have s:tab.length=ops.size:=by rw[<-m];simp[Region.tabAfter]
 refine Kz x (λb a w=>(∀i ds,tab[i]?=some ds->b.getD i false=true->∀j∈ds,b.getD j false=true)/\c (λj=>b.getD j false) a w) ⟨λi ds _ h=>?_,?_⟩ ?_ ?_
 . simp only[Array.getD,A5]at h;split at h<;>simp at h
 . have e:(λj=>(Array.replicate ops.size false).getD j false)=λ_=>false:=by
    funext j;simp only[Array.getD,A5];split<;>simp
   rw[e];exact start
 . rintro b a w i hs ⟨q,f⟩ g;obtain⟨p,ds,d,t⟩:=(mem_ready m).1 g;have o:i<b.size:=by
    rw[hs,<-s];rcases As i tab.length with h|h
    . exact h
    . grind
   have v:b.getD i false=false:=by
    simp only[Array.getD,o,dif_pos]at p ⊢;exact p
   have e:∀j,(b.setIfInBounds i true).getD j false=(j==i || b.getD j false):=by
    intro j;rw[Co,Co,Array.getElem?_setIfInBounds];by_cases l:i=j
    . subst l;simp[o]
    . simp[l,Ne.symm l]
   refine wpOpIn_mono (λz R h=>⟨λN A K u j k=>?_,?_⟩) (step _ a w i ds q d t v f)
   . grind
   . rw[show(λj=>(b.setIfInBounds i true).getD j false)=λj=>(j==i || b.getD j false)from funext e];exact h
 . rintro b a w hs ⟨q,f⟩ M;refine fin _ a w (λi=>?_) f;induction i using Nat.strongRecOn with
   |_ i y=>
    intro g;cases u:b.getD i false with
    |true=>rfl
    |false=>
     exfalso
     have d:tab[i]?=some tab[i]:=Ag g
     have:i∈Region.ready .any ops b:=(mem_ready m).2 ⟨by
      grind,_,d,λj k=>y j (YP r d k) (by have:=YP r d k;omega)⟩
     grind
attribute [local go_sem] Oper.semAt_some
def Gy(w:C)(a:N8)(len c:Nat)(b:N8)(lb d:Nat)(xs e:Ja)(k:Nat)(W:C):Prop:=
 (((Boxed W w.heap.size 23 (B b lb d)/\Boxed W (w.heap.size+1) 3 (.int I 0))/\Boxed W (w.heap.size+1+1) 23 (B a len c))/\Bl w W)/\xs.drop (len-k)=e.drop (len-k)
def Gz(w:C)(xs a:Ja)(c:Code)(_k:Nat)(W:C):Prop:=
 (Boxed W (w.heap.size+1) 3 (.int I (J6 (val O xs) (val O a)))/\Bl w W)/\c=.ret
def K0(w:C)(a:N8)(len c:Nat)(b:N8)(lb d:Nat)(xs e:Ja):OwnFrom (w.heap.size+1+1+1) (Gy w a len c b lb d xs e):=
 BI (BI (BI (BI (Bf (boxed_own _ _ λ_=>B b lb d) _) (Bf (boxed_own _ _ λ_=>G I 0) _)) (Bf (boxed_own _ _ λ_=>B a len c) _)) (ownFrom_below (Aa _) Y)) (ownFrom_pure _ _)
def K1(w:C)(xs a:Ja)(c:Code):OwnFrom (w.heap.size+1+1+1) (Gz w xs a c):=
 BI (BI (Bf (boxed_own _ _ λ_=>G I (J6 (val O xs) (val O a))) _) (ownFrom_below (Aa _) Y)) (ownFrom_pure _ _)
theorem K3{c:Bool}(h:m≠n)(a:c=decide (n<m)):(if c then 1 else -1:Int)=J6 m n:=by
 grind[YM,XT]
def K4(a:N8)(c k:Nat)(b:N8)(lb d:Nat)(w:C)(m n:Nat)(o:c≠lb)(l:c<lb↔m<n)(i:m≠n):
 Calls E 72 #[B a c k,B b lb d] w λe j=>e=.returned (G I (J6 m n))/\Bl w j:=by
 have p:(((c:Nat):Int) != (lb:Int))=true:=by rw[Bi];omega
 have g:=Z (show(if decide ((lb:Int)<(c:Int))=true then 1 else -1:Int)=J6 m n from K3 i B7);clear l i o;refine(BL (n:=3)).1 ?_;refine BR func72 J trivial ?_ J;simp only[ntmps72,AD,Ap,AQ,Nat.reduceAdd,Nat.reduceSub,Aw,Ax,AM,AF,Ak,AJ];gi_wp2_with(refine⟨trivial,?_⟩;gi_at_call 71;refine((BL (n:=_)).2 (FR _ _)).mono ?_;rintro e j ⟨rfl,rfl⟩)
 . have f:J6 m n=1:=by rw[<-g.o,BW si]
   have q:=(BN (w.alloc (H #[B b lb d] 23)) 3 (G I 1)).cell;simp only[BA]at q;refine⟨G I 1,by simp[results,results72,go_sem,q],by rw[f],?_⟩;exact(Ba w _).alloc Br _
 . have f:J6 m n=-1:=by rw[<-g.o,BZ si]
   have q:=(BN (w.alloc (H #[B b lb d] 23)) 3 (G I (-1))).cell;simp only[BA]at q;refine⟨G I (-1),by simp[results,results72,go_sem,q],by rw[f],?_⟩;exact(Ba w _).alloc Br _
theorem K5(a:N8)(len f:Nat)(b:N8)(g:Nat)(xs d:Ja)(w:C)(ha:Row F w (B a len f) xs)(hb:Row F w (B b len g) d)(xa:Bs O xs)(xb:Bs O d):
 Calls E 72 #[B a len f,B b len g] w λe U=>e=.returned (G I (J6 (val O xs) (val O d)))/\Bl w U:=by
 obtain⟨hl,ai,ak,ah,z⟩:=Jm ha;obtain⟨ae,aj,am,an,aa⟩:=Jm hb;obtain⟨M,X,HC,Qe⟩:=Dh hl ae z aa;clear z aa hl ae ha hb;refine(BL (n:=3)).1 ?_;refine BR func72 J trivial ?_ J;simp only[ntmps72,AD,Ap,AQ,Nat.reduceAdd,Nat.reduceSub,Aw,Ax,AM,AF,Ak,AJ];gi_wp2_with(refine⟨trivial,?_⟩;gi_at_call 103;refine(D9 Fence.wide _ trivial J _ _ _ _).mono ?_;rintro e U ⟨rfl,rfl⟩)
 obtain⟨W0,v⟩:=ex (((w.alloc (H #[B b len g] 23)).alloc (H #[G I 0] 3)).alloc (H #[B a len f] 23));have b0:=((BN w 23 (B b len g)).alloc (H #[G I 0] 3)).alloc (H #[B a len f] 23);have P:=(BN (w.alloc (H #[B b len g] 23)) 3 (G I 0)).alloc (H #[B a len f] 23);have R:=BN ((w.alloc (H #[B b len g] 23)).alloc (H #[G I 0] 3)) 23 (B a len f);simp only[BA]at P R;have hN:W0.heap.size=w.heap.size+1+1+1:=by rw[<-v];simp
 have Qf:Bl w W0:=by rw[<-v];exact((Ba w _).alloc Br _).alloc si _
 rw[v]at b0 P R ⊢;clear v;refine Yt J Y (gf:=126) (lb:=#[.pointer (some ⟨w.heap.size+1+1,0,none⟩)]) J trivial (enters_of func126 N9 J)
  (XH Fence.wide _ trivial J Y (w.heap.size+1+1) a len f (λj=>xs[j]?.getD 0) ah) (λ_=>rfl)
  (Gy w a len f b len g xs d) (Gz w xs d) (by rw[hN];exact K0 w a len f b len g xs d) (λc=>by rw[hN];exact K1 w xs d c)
  ⟨⟨⟨⟨b0,P⟩,R⟩,Qf⟩,by rw[CY,AH (by rw[M.o];exact Aa _),AH (by rw[X.o];exact Aa _)]⟩ ?rd
  (λk=>{ tmps:=#[B a len f,B b len g,L,.pointer (some ⟨w.heap.size,0,none⟩),.pointer (some ⟨w.heap.size+1,0,none⟩),G I ((len:Int)-1-k),G F (xs[len-1-k]?.getD 0:Nat),B a len f,G I (len:Nat),B b len g,G I (len:Nat),.bool false,L,L,L,L,L,L,B a len f,.func (.func 126) #[] #[.pointer (some ⟨w.heap.size+1+1,0,none⟩)],G I ((len:Int)-1-k),G F (xs[len-1-k]?.getD 0:Nat),L,L,L,L,L,L,L,L,L,L,L,L,L],defers:=[] }) ?assign ?body ?done ?stop
 case rd=>
  rintro k W ⟨⟨⟨_,c2⟩,i⟩,_⟩;refine⟨c2.cell,λhk=>?_⟩;obtain⟨u,A,ea,S,z⟩:=HC.o (len-1-k) Y;exact⟨u,A,ea,(i.cell (p:=⟨u,A+(len-1-k),none⟩) S).trans z⟩
 case assign=>
  intro l k W K o;unfold YN;gi_wp2;exact o
 case body=>
  rintro l k W ⟨⟨⟨⟨c0,c1⟩,c2⟩,i⟩,r⟩ hk ap;have d0:=c0.cell;have d1:=c1.cell;have f1:=c1.frozen;obtain⟨u,A,rfl,S,ad⟩:=Qe.o (len-1-k) Y;have dy:=(i.cell (p:=⟨u,A+(len-1-k),none⟩) S).trans ad;clear ad;have e1:((len:Int)-1-k)=((len-1-k:Nat):Int):=Y
  rw[e1];have hm:len-1-k<len:=Y
  have es:len-1-k+1=len-k:=Y
  have Qc:xs.drop (len-1-k+1)=d.drop (len-1-k+1):=by rw[es];exact r
  have Qb:=M.o.symm.trans X.o;have s:=Z λ(h:xs[len-1-k]?.getD 0=d[len-1-k]?.getD 0)=>GR Qb (len-1-k) (by rw[<-M.o];exact hm) Qc h;have t:=Z (show xs[len-1-k]?.getD 0≠d[len-1-k]?.getD 0->J6 (val O xs) (val O d)=J6 (xs[len-1-k]?.getD 0) (d[len-1-k]?.getD 0)from λh=>by
   grind[YM,FG,XT])
  have V:=Z (show len-(k+1)=len-1-k by omega);clear e1 es Qc r Qb;generalize xs[len-1-k]?.getD 0=x at s t ⊢;generalize d[len-1-k]?.getD 0=y at s t dy;generalize len-1-k=m at s hm V dy ⊢;by_cases T:x=y
  . subst T;gi_wp2_with fail
    refine⟨KeepsFrom.refl _ _,⟨⟨⟨c0,c1⟩,c2⟩,i⟩,?_⟩;rw[V.o];exact s.o Br
  . have aq:(((x:Nat):Int) != (y:Int))=true:=by rw[Bi];omega
    have N:=Z T;clear T;gi_wp2_with(refine⟨trivial,?_⟩;gi_at_call 71;refine(Be l ((BL (n:=_)).2 (FR _ _))).mono ?_;rintro e U ⟨rfl,rfl⟩)
    . refine⟨(BO _ _ _).from _,⟨?_,i.setCell (p:=⟨w.heap.size+1,0,none⟩) Br _⟩,J⟩;rw[t.o N.o,XT ‹y<x›];exact c1.set _
    . refine⟨(BO _ _ _).from _,⟨?_,i.setCell (p:=⟨w.heap.size+1,0,none⟩) Br _⟩,J⟩;rw[t.o N.o,YM (by have:=N.o;omega)];exact c1.set _
 case done=>
  rintro D W hD ⟨⟨⟨⟨c0,c1⟩,c2⟩,i⟩,r⟩ o;have d1:=c1.cell;have f1:=c1.frozen;have HZ:=Z r;clear r;gi_wp2;have Qd:=(BO W ⟨w.heap.size+1,0,none⟩ (G I 0)).same D _ o J;refine⟨Br,.inl ⟨_,_,J,BX Qd,?_⟩⟩;have Q:=(c1.set (G I 0)).kept (BV _ D (.deferred none)) (λe=>by grind);have q:=Q.cell;have hv:J6 (val O xs) (val O d)=0:=by
   have:=HZ.o;grind[FF]
  refine⟨G I 0,by simp[results,results72,go_sem,q],by rw[hv],?_⟩;exact(i.setCell (p:=⟨w.heap.size+1,0,none⟩) Br _).trans (belowK_b (w:=w) (Aa _) _ D _ _ Y Qd J J)
 case stop=>
  rintro D c k W hD hk ⟨⟨c1,i⟩,rfl⟩ o;have d1:=c1.cell;gi_wp2;refine⟨Br,.inl ⟨_,_,J,BX o,?_⟩⟩;have Q:=c1.kept (BV _ D (.deferred none)) (λe=>by grind);have q:=Q.cell;refine⟨G I (J6 (val O xs) (val O d)),by simp[results,results72,go_sem,q],J,?_⟩;exact i.trans (belowK_b (w:=w) (Aa _) _ D _ _ Y o J J)
theorem Fu(p q:Value)(xs c:Ja)(w:C)(o:Row F w p xs)(j:Row F w q c)(d:Bs O xs)(f:Bs O c)(k:DF xs)(l:DF c):
 Calls E 72 #[p,q] w λe r=>e=.returned (G I (J6 (val O xs) (val O c)))/\Bl w r:=by
 obtain⟨a,m,rfl,s⟩:=id o;obtain⟨b,n,rfl,t⟩:=id j;have i:2<=O:=by unfold O;omega
 by_cases hl:xs.length=c.length
 . rw[<-hl]at j ⊢;exact K5 a xs.length m b n xs c w o j d f
 . refine K4 a _ m b _ n w _ _ hl ?_ ?_
   . constructor
     . exact λh=>JV i d f k l h
     . intro h;grind[Nat.lt_or_gt_of_ne,JV]
   . rcases Nat.lt_or_gt_of_ne hl with g|g
     . have:=JV i d f k l g;omega
     . have:=JV i f d l k g;omega
end
variable{a:Act}{ops:Array Oper}{Q:Exit->Act->C->Prop}{P:Program}{w:C}
def K6(n c:Nat)(w:C):Calls E 78 #[B none n c] w λe d=>e=.returned (B none 0 0)/\d=w:=by
 have f:∀(w:C) (a:N8) (n c b c':Nat),(binOp .eql 23 (B a n c) (B none b c')).run E w=.ok (.bool a.isNone) w:=λw a n c b c'=>Lib.run_eql_slice_nil w _ _ a n c b c' underlying23;go_enter func78,ntmps78
 go_wp2;go_ret;exact⟨J,J⟩
theorem Fv(p:Addr)(c:Nat)(xs:Ja)(w:C)(hl:xs.length<=1099511627776)(f:∀j,j<xs.length->w.cell? (p.add j)=some (G F (xs[j]?.getD 0:Nat))):
 Calls E 78 #[B (some p) xs.length c] w λe g=>∃b,e=.returned b/\g.ownsRow w.heap.size 94 1 b xs.length (cellsOf F xs)/\Bl w g:=by
 obtain⟨z,o,t,v,y⟩:=Bg Tryz.infoU64;have K:∀(w:C) (a:N8) (n c d c':Nat),(binOp .eql 23 (B a n c) (B none d c')).run E w=.ok (.bool a.isNone) w:=λw a n c d c'=>Lib.run_eql_slice_nil w _ _ a n c d c' underlying23;have i:=Z f;clear f;go_enter func78,ntmps78
 go_wp2_with(at_builtin;refine BJ _ J _ _ 23 J w.heap.size 94 z (G F 0) 1 8 underlying23 o t v y J Bw _ _ _ J (World.ownsRow_made w #[] 0 (Aa _) (AR _) J) p xs.length c (cellsOf F xs) J ?qc1 ?qc2 ?qc3 ?qc4 ?qc5 ?qc6 ?_)
 case qc1=>simp[cellsOf]
 case qc2=>
  intro j u A;have l:j<xs.length:=by
   grind[cellsOf]
  refine Lib.cell?_alloc_some _ ?_;rw[i.o j l];grind[cellsOf]
 case qc3=>intro u s;obtain⟨x,_,rfl⟩:=List.mem_map.1 s;rfl
 case qc4=>unfold maxLen;omega
 case qc5=>omega
 case qc6=>simp
 intro b M r m D;go_wp2;go_ret;refine⟨b,J,by simpa using r,?_⟩;exact(Ba w _).grown m Br (by intro k q;simp[Value.ownBlock]at q;omega)
theorem K7{c:Region.Mode}(d:Array Bool->Act->C->Prop)
(step:∀b a w i,b.size=ops.size->d b a w->i∈Region.ready c ops b->wpOp P ops Q i (d (b.setIfInBounds i true)) a w)
(fin:∀b a w,b.size=ops.size->d b a w->Region.ready c ops b=[]->Q .normal a w):
 ∀(fuel:Nat) (b:Array Bool) (a:Act) (w:C),b.size=ops.size->YI b<=fuel->d b a w->wpAny P c ops Q fuel b a w:=by
 intro fuel;have k:∀ {b:Array Bool} {i:Nat},i∈Region.ready c ops b->i<ops.size/\b.getD i true=false:=by
  intro b i e;simp only[Region.ready,List.mem_filter,List.mem_range,AP,A7]at e;exact⟨e.1,e.2.1⟩
 induction fuel with
 |zero=>
  intro b a w hs j f;have g:Region.ready c ops b=[]:=by
   cases m:Region.ready c ops b with
   |nil=>rfl
   |cons i l=>
    grind[CD,YO]
  exact⟨g,fin _ _ _ hs f g⟩
 |succ fuel n=>
  intro b a w hs j f;refine⟨fin _ _ _ hs f,λi e=>?_⟩;grind[YO,wpOp_mono]
theorem wp_region_held{id:Nat}(d:P.follows .mixedOrders=true)(c:Array Bool->Act->C->Prop)
(start:c (Array.replicate ops.size false) a w.drew)
(step:∀b a w i,b.size=ops.size->c b a w->i∈Region.ready .any ops b->wpOp P ops Q i (c (b.setIfInBounds i true)) a w)
(fin:∀b a w,b.size=ops.size->c b a w->Region.ready .any ops b=[]->Q .normal a w):
 (Code.region id ops true).wp P Q a w:=
 wp_region_any d (K7 c step fin _ _ _ _ Br (by grind[YI]) start)
theorem J5{id:Nat}(v:P.follows .mixedOrders=true)
(tab:List Ja)(m:Region.tabAfter .any ops=tab)(q:Y0 tab=true)(c:(Nat->Bool)->Act->C->Prop)
(start:c (λ_=>false) a w.drew)
(step:∀(D:Nat->Bool) a w i ds,(∀i ds,tab[i]?=some ds->D i=true->∀j∈ds,D j=true)->tab[i]?=some ds->(∀j∈ds,D j=true)->D i=false->c D a w->wpOp P ops Q i (c λj=>j==i || D j) a w)
(fin:∀(D:Nat->Bool) a w,(∀i,i<tab.length->D i=true)->c D a w->Q .normal a w):
 (Code.region id ops true).wp P Q a w:=by
 have r:tab.length=ops.size:=by rw[<-m];simp[Region.tabAfter]
 refine wp_region_held v (λb a w=>(∀i ds,tab[i]?=some ds->b.getD i false=true->∀j∈ds,b.getD j false=true)/\c (λj=>b.getD j false) a w) ⟨λi ds _ h=>?_,?_⟩ ?_ ?_
 . simp only[Array.getD,A5]at h;split at h<;>simp at h
 . have e:(λj=>(Array.replicate ops.size false).getD j false)=λ_=>false:=by
    funext j;simp only[Array.getD,A5];split<;>simp
   rw[e];exact start
 . rintro b a w i hs ⟨p,f⟩ g;obtain⟨o,ds,d,s⟩:=(mem_ready m).1 g;have n:i<b.size:=by
    rw[hs,<-r];rcases As i tab.length with h|h
    . exact h
    . grind
   have u:b.getD i false=false:=by
    simp only[Array.getD,n,dif_pos]at o ⊢;exact o
   have e:∀j,(b.setIfInBounds i true).getD j false=(j==i || b.getD j false):=by
    intro j;rw[Co,Co,Array.getElem?_setIfInBounds];by_cases l:i=j
    . subst l;simp[n]
    . simp[l,Ne.symm l]
   refine wpOp_mono (λy N h=>⟨λM z A t j k=>?_,?_⟩) (step _ a w i ds p d s u f)
   . grind
   . rw[show(λj=>(b.setIfInBounds i true).getD j false)=λj=>(j==i || b.getD j false)from funext e];exact h
 . rintro b a w hs ⟨p,f⟩ K;refine fin _ a w (λi=>?_) f;induction i using Nat.strongRecOn with
   |_ i x=>
    intro g;cases t:b.getD i false with
    |true=>rfl
    |false=>
     exfalso
     have d:tab[i]?=some tab[i]:=Ag g
     have:i∈Region.ready .any ops b:=(mem_ready m).2 ⟨by
      grind,_,d,λj k=>x j (YP q d k) (by have:=YP q d k;omega)⟩
     grind
def DE{T:List Ja}{D:Nat->Bool}(c:∀i ds,T[i]?=some ds->D i=true->∀j∈ds,D j=true){a k:Nat}{ds:Ja}(b:D k=false)(e:T[a]?=some ds:=by rfl)(d:k∈ds:=by simp):D a=false:=by
 cases h:D a with
 |false=>rfl
 |true=>rw[c a ds e h k d]at b;cases b
theorem HJ(a:N8)(b c:Nat)(d:Ja)(w:C)(u:Row F w (B a b c) d)(o:0<b):
 Calls E 78 #[B a b c] w λe f=>∃g i,e=.returned (B (some ⟨g,0,none⟩) b i)/\Bv f g d/\w.heap.size<=g/\(b<=i/\i<=9223372036854775807)/\Bl w f:=by
 obtain⟨hl,y,D,A,t⟩:=Jm u;obtain⟨m,n,rfl,_,_⟩:=t 0 o;have k:=Fv ⟨m,n,none⟩ c d w Y (λj z=>by
  grind[Fr])
 rw[<-hl]at k;refine k.mono ?_;rintro e f ⟨K,rfl,l,s⟩;rcases l.2 with⟨_,ev⟩|⟨g,cap,v,ev,p,x,q,r,_⟩
 . omega
 . subst ev;exact⟨_,cap,J,Bv.owns l,p,⟨q,r⟩,s⟩
theorem Ha(a:N8)(b c:Nat)(f:Ja)(w:C)(m:Row F w (B a b c) f):
 Calls E 78 #[B a b c] w λe d=>∃n i,e=.returned (B n b i)/\Row F d (B n b i) f/\Bl w d:=by
 obtain⟨hl,z,D,u,A⟩:=Jm m;rcases An b with k|k
 . subst k;obtain rfl:f=[]:=Ad hl.symm;cases a with
   |none=>
    refine(K6 0 c w).mono ?_;rintro e d ⟨rfl,rfl⟩;exact⟨none,0,J,⟨none,0,J,Aa _,Y,Y,Ar J⟩,BC _ _⟩
   |some p=>
    refine(Fv p c [] w Br λj t=>by simp at t).mono ?_;rintro e d ⟨M,rfl,v,l⟩;rcases v.2 with⟨ev,_⟩|⟨g,cap,x,ev,_,_,y,r,_⟩
    . subst ev;exact⟨none,0,J,⟨none,0,J,Aa _,Y,Y,Ar J⟩,l⟩
    . subst ev;exact⟨_,cap,J,⟨_,cap,J,AR _,r,Br,Ar J⟩,l⟩
 . refine(HJ a b c f w m k).mono ?_;rintro e d ⟨g,i,rfl,s,_,⟨o,q⟩,l⟩;have K:=s.row 0 b i Y o q u;grind

