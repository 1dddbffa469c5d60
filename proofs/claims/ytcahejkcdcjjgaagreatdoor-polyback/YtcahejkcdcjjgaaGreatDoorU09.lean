import Derived.Test.YtcahejkcdcjjgaaGreatDoorU08
import Derived.Laws.CopyOwn
import Derived.Deep.OwnRows
set_option linter.all false
open Go.Value renaming slice->B,int->G
open Go renaming World->C,undef->L
open Go.Proofs.Tryz renaming prog->E
open Go.IntKind renaming u64->F,i64->I
open Go.Obj renaming cells->H
set_option maxRecDepth 99999
set_option maxHeartbeats 0
namespace Go.Proofs.YtcahejkcdcjjgaaGreatDoor
open List renaming replicate->Td
open Proofs.Tryz
open Go.RowKit Go.Shelf
section
def BZ:=@CallsIn.inRound
variable{p:Addr}{d:Array Bool}{ops:Array Oper}{Q:Exit->Act->C->Prop}{tab:List Ta}{bs ds q xs:Ta}{c i l len m n:Nat}{a:Tb}{P:Program}{w:C}
def Of(n:Nat):madeCells #[G F 0] n=(cellsOf F (Td n 0)).toArray:=by
 apply Array.ext
 . simp[madeCells,cellsOf]
 . intro i a b;simp[madeCells,cellsOf,Nat.mod_one]
def X5(n:Nat)(h:n<=2199023255552)(w:C):(Instr.makeSlice 34 (G I (n:Int)) (G I (n:Int))).run E w=.ok (B (some ⟨w.heap.size,0,none⟩) n n) (w.alloc (H (cellsOf F (Td n 0)).toArray 163)):=by
 rw[<-Of];exact run_make_row' 34 163 (G F 0) 8 underlying34 Tryz.infoU64 J I I n Y Y w
def GY(l:Nat)(h:l<=2199023255551)(w:C):(Instr.makeSlice 34 (G I ((l:Int)+1)) (G I ((l:Int)+1))).run E w=.ok (B (some ⟨w.heap.size,0,none⟩) (l+1) (l+1)) (w.alloc (H (cellsOf F (Td (l+1) 0)).toArray 163)):=
 X5 (l+1) Y w
theorem Xz(b o j:Nat):(⟨b,o,none⟩:Addr).add j=⟨b,o+j,none⟩:=by simp[Addr.add]
theorem YC(h:n<=m):(Jb O n).length<=(Jb O m).length:=by
 rcases AH (Jb O m).length (Jb O n).length with a|a
 . have:=Ye Jd a;omega
 . exact a
theorem Og{W:C}(h:Row F w (B a l c) ds)(f:Bl w W)(e:a=some p)(_h0:0<l)(j:Nat)(v:Value)(o:(cellsOf F ds)[j]?=some v):W.cell? (p.add j)=some v:=by
 obtain⟨hl,_,_,_,g⟩:=Jm h;have n:j<ds.length:=by
  grind[cellsOf]
 obtain⟨b,m,d,k,i⟩:=g j Y;rw[d]at e;cases e;rw[Xz];rw[(f.cell (p:=⟨b,m+j,none⟩) k),i];grind[cellsOf]
theorem FB(h:Row F w (B a l c) ds)(e:a=some p)(d:0<l):p.block<w.heap.size:=by
 obtain⟨b,i,f,g,_⟩:=(Jm h).2.2.2.2 0 d;grind
def Oh(h:Row F w (B a l c) ds)(e:0<l):∃p,a=some p:=by
 obtain⟨b,g,d,f,_⟩:=(Jm h).2.2.2.2 0 e;exact⟨_,d⟩
theorem LG(h:XP xs bs 0 len c q)(i:xs=Jb O m)(f:bs=Jb O n)(hl:len=xs.length)(g:bs.length<=len)(l:n<=m):Jq q=Jb O (m-n):=by
 obtain⟨a,b,j,d⟩:=h;rw[At,Ac (show xs.length<=len by omega),Ac g,i,f,Jj Jd,Jj Jd]at d;have e:=JV b;rw[a]at e;have k:c=0:=by
  grind
 grind[JM,Jd]
theorem Ia(g c l:Nat)(a:Tb)(b e:Nat)(xs:Ta)(w d:C)(n:Row F w (B a b e) xs)(m:Bl w d)(hg:w.heap.size<=g)(r:d.heap[g]?=some (H (cellsOf F (Td c 0)).toArray 163 (0,0)))(hl:b<=c):
 ∃k,(Builtin.copy_ #[34,34] 3 #[B (some ⟨g,0,none⟩) c l,B a b e]).run E d=.ok (G I (b:Nat)) k/\C9 k g (xs++Td (c-b) 0)/\Bl w k:=by
 obtain⟨u,_⟩:=Jm n;have o:(Tryz.prog.info? 163).map (·.size)=some 1:=by kernel_rfl
 have s:(cellsOf F xs)++(cellsOf F (Td c 0)).drop b=cellsOf F (xs++Td (c-b) 0):=by simp[cellsOf]
 by_cases t:b=0
 . subst t;refine⟨d,run_copy_none (P:=E) d 34 34 3 163 (some ⟨g,0,none⟩) a c l 0 e underlying34 o (Nat.zero_min c),C9.made ?_,m⟩;grind
 . obtain⟨p,hp⟩:=Oh n Y;subst hp;have i:(cellsOf F xs).length=b:=by simp[cellsOf,u]
   have q:=run_copy_row (P:=E) d 34 34 3 163 g 0 c l p b e _ 163 (cellsOf F xs) underlying34 o r (by rw[i];exact(Cw hl).symm) (λj v f=>Og n m J Y j v f) (by rw[i];simp[cellsOf];exact hl) (λv f=>by
    rw[cellsOf,List.mem_map]at f;obtain⟨_,_,rfl⟩:=f;rfl)
   rw[i,C5,Ah,Cp,s]at q;exact⟨_,q,C9.made (setRow_heap d g _ _ _ _ r),below_setRow m hg _⟩
theorem Ib(a:Tb)(d k:Nat)(b:Tb)(lb l m n:Nat)(w:C)(o:Row F w (B a d k) (Jb O m))(r:Row F w (B b lb l) (Jb O n))(h:n<=m):
 Calls E 115 #[B a d k,B b lb l] w λe K=>∃u,e=.returned u/\UN K u (m-n)/\Bl w K:=by
 obtain⟨hl,ak,ah,ad,W⟩:=Jm o;obtain⟨D,am,ai,an,X⟩:=Jm r;have Q:lb<=d:=by rw[hl,D];exact YC h
 have g:=Ja hl;have j:=Ja r;have R:=X5 d Y w;obtain⟨f,i⟩:∃f,f=w.alloc (H (cellsOf F (Td d 0)).toArray 163):=⟨_,J⟩;have v:Bl w f:=by rw[i];exact Ba w _
 have x:f.heap[w.heap.size]?=some (H (cellsOf F (Td d 0)).toArray 163 (0,0)):=by rw[i];exact BC w _
 rw[<-i]at R;obtain⟨w2,aj,hA2,z⟩:=Ia w.heap.size d d a d k (Jb O m) w f o v (Aa _) x (Aa _);rw[AZ,List.replicate_zero,Cv]at hA2;have ae:=hA2.lt;clear W hl X D o r i v x;go_enter func115,ntmps115
 go_wp2_with(go_at_call 148;refine(LF w.heap.size 0 d d (Jb O m) b lb l (Jb O n) _ hA2 (Ji Jd m) (by rw[Cp,<-g.o];exact Aa _) (Aa _) Y Q (Row.below j.o z) (Ji Jd n) λp e T=>by have:=FB j.o e T;omega).mono ?_)
 rintro e w3 ⟨c,q,rfl,s,hA3,A⟩;have P:=s.1;have N:Row F w3 (B (some ⟨w.heap.size,0,none⟩) d d) q:=by
  have U:=hA3.row 0 d d (by rw[JL P (by rw[<-g.o];omega),<-g.o];omega) (Aa _) Y ad;have S:((DF (Jb O m) 0 d q).drop 0).take d=q:=by
   grind[DF]
  rwa[S]at U
 have M:=Ja (LG s J J g.o (by have:=Jm j.o;omega) h);have y:=below_grown z A (Aa _);clear s hA3 A;go_wp2_with(go_at_call 132;refine(Yl _ q _ N).mono ?_)
 rintro e w4 ⟨u,rfl,t,V⟩;rw[M.o]at t;obtain⟨ua,uc,rfl⟩:=UN.form t;go_wp2;go_ret;exact⟨_,J,t,y.trans (V.mono y.size)⟩
theorem LH(h:X4 (xs++[0]) bs 0 len c q)(i:xs=Jb O m)(g:bs=Jb O n)(hl:len=xs.length+1)(o:bs.length<=xs.length):Jq q=Jb O (m+n):=by
 obtain⟨j,b,k,a⟩:=h;have p:m<O^xs.length:=by
  grind[JV,Ji,Jd,Jj]
 have r:n<O^xs.length:=by
  have:=JV (Ji Jd n);grind[Jj,Ak,Al,O]
 rw[At,Ac (show(xs++[0]).length<=len by simp;omega),Ac (show bs.length<=len by omega),J1,A8,AV,g,Jj Jd]at a;have e:val O xs=m:=by rw[i,Jj Jd]
 rw[e]at a;have f:O^len=O^xs.length*O:=by rw[hl,A9]
 have l:O^xs.length*2<=O^len:=by rw[f];exact Aq _ Jd
 have d:c=0:=by
  grind
 subst d;rw[<-JM Jd b];congr 1
theorem LI(a:Tb)(d D:Nat)(b:Tb)(lb K m n:Nat)(w:C)(l:Row F w (B a d D) (Jb O m))(o:Row F w (B b lb K) (Jb O n))(ap:d<1099511627776)(aq:lb<1099511627776):
 Calls E 113 #[B a d D,B b lb K] w λe w'=>∃u,e=.returned u/\UN w' u (m+n)/\Bl w w':=by
 by_cases ay:d<lb
 . obtain⟨hl,aj,ae,am,X⟩:=Jm o;obtain⟨A,ak,ah,an,ad⟩:=Jm l;obtain⟨r,s,Q⟩:=DO hl l A;have S:=GY lb Y w;obtain⟨f,g⟩:∃f,f=w.alloc (H (cellsOf F (Td (lb+1) 0)).toArray 163):=⟨_,J⟩;have t:Bl w f:=by rw[g];exact Ba w _
   have v:f.heap[w.heap.size]?=some (H (cellsOf F (Td (lb+1) 0)).toArray 163 (0,0)):=by rw[g];exact BC w _
   rw[<-g]at S;obtain⟨w2,ai,hA2,y⟩:=Ia w.heap.size (lb+1) (lb+1) b lb K (Jb O n) w f o t (Aa _) v Y;rw[show lb+1-lb=1 from by omega,List.replicate_one]at hA2;have Qi:=hA2.lt;have M:=Ja (show B7 O (Jb O n++[0])from(Ji Jd n).append (B7.cons uo (B7.nil _)));have i:=Ja (show(Jb O n++[0]).length=lb+1 by grind);clear X hl ad A l o g t v;go_enter func113,ntmps113
   go_wp2_with(go_at_call 146;refine(IZ w.heap.size 0 (lb+1) (lb+1) (Jb O n++[0]) a d D (Jb O m) _ hA2 M.o (by rw[Cp,i.o];exact Aa _) (Aa _) Y Y (Row.below s.o y) (Ji Jd m) λp e U=>by have:=FB s.o e U;omega).mono ?_)
   rintro e w3 ⟨c,q,rfl,j,hA3,z⟩;have R:=j.1;have P:Row F w3 (B (some ⟨w.heap.size,0,none⟩) (lb+1) (lb+1)) q:=by
    have V:=hA3.row 0 (lb+1) (lb+1) (by rw[JL R (by rw[i.o];omega),i.o];omega) (Aa _) Y Y;have T:((DF (Jb O n++[0]) 0 (lb+1) q).drop 0).take (lb+1)=q:=by
     grind[DF]
    rwa[T]at V
   have N:=Ja (LH j J J (by rw[<-r.o]) (by rw[<-r.o,<-Q.o];omega));have x:=below_grown y z (Aa _);clear j hA3 z;go_wp2_with(go_at_call 132;refine(Yl _ q _ P).mono ?_)
   rintro e w4 ⟨u,rfl,k,W⟩;rw[N.o]at k;obtain⟨ua,uc,rfl⟩:=UN.form k;go_wp2;go_ret;exact⟨_,J,by rw[CP m n];exact k,x.trans (W.mono x.size)⟩
 . obtain⟨hl,aj,ae,am,X⟩:=Jm l;obtain⟨A,ak,ah,an,ad⟩:=Jm o;obtain⟨r,s,Q⟩:=DO hl o A;have S:=GY d Y w;obtain⟨f,g⟩:∃f,f=w.alloc (H (cellsOf F (Td (d+1) 0)).toArray 163):=⟨_,J⟩;have t:Bl w f:=by rw[g];exact Ba w _
   have v:f.heap[w.heap.size]?=some (H (cellsOf F (Td (d+1) 0)).toArray 163 (0,0)):=by rw[g];exact BC w _
   rw[<-g]at S;obtain⟨w2,ai,hA2,y⟩:=Ia w.heap.size (d+1) (d+1) a d D (Jb O m) w f l t (Aa _) v Y;rw[show d+1-d=1 from by omega,List.replicate_one]at hA2;have Qi:=hA2.lt;have M:=Ja (show B7 O (Jb O m++[0])from(Ji Jd m).append (B7.cons uo (B7.nil _)));have i:=Ja (show(Jb O m++[0]).length=d+1 by grind);clear X hl ad A l o g t v;go_enter func113,ntmps113
   go_wp2_with(go_at_call 146;refine(IZ w.heap.size 0 (d+1) (d+1) (Jb O m++[0]) b lb K (Jb O n) _ hA2 M.o (by rw[Cp,i.o];exact Aa _) (Aa _) Y Y (Row.below s.o y) (Ji Jd n) λp e U=>by have:=FB s.o e U;omega).mono ?_)
   rintro e w3 ⟨c,q,rfl,j,hA3,z⟩;have R:=j.1;have P:Row F w3 (B (some ⟨w.heap.size,0,none⟩) (d+1) (d+1)) q:=by
    have V:=hA3.row 0 (d+1) (d+1) (by rw[JL R (by rw[i.o];omega),i.o];omega) (Aa _) Y Y;have T:((DF (Jb O m++[0]) 0 (d+1) q).drop 0).take (d+1)=q:=by
     grind[DF]
    rwa[T]at V
   have N:=Ja (LH j J J (by rw[<-r.o]) (by rw[<-r.o,<-Q.o];omega));have x:=below_grown y z (Aa _);clear j hA3 z;go_wp2_with(go_at_call 132;refine(Yl _ q _ P).mono ?_)
   rintro e w4 ⟨u,rfl,k,W⟩;rw[N.o]at k;obtain⟨ua,uc,rfl⟩:=UN.form k;go_wp2;go_ret;exact⟨_,J,k,x.trans (W.mono x.size)⟩
def Xc(a:Array Bool):Nat:=a.toList.countP λb=>!b
theorem Xi(a:i<d.size)(h:d.getD i true=false):Xc (d.setIfInBounds i true)+1=Xc d:=by
 grind[Array.getInternal_eq_getElem,Xc]
theorem Oi{F:Fence}{c:Region.Mode}(I:Array Bool->Act->C->Prop)
(step:∀b a w i,b.size=ops.size->I b a w->i∈Region.ready c ops b->wpOpIn F n P ops Q i (I (b.setIfInBounds i true)) a w)
(fin:∀b a w,b.size=ops.size->I b a w->Region.ready c ops b=[]->Q .normal a w):
 ∀(d:Nat) (b:Array Bool) (a:Act) (w:C),b.size=ops.size->Xc b<=d->I b a w->wpAnyIn F n P c ops Q d b a w:=by
 intro d;have k:∀ {b:Array Bool} {i:Nat},i∈Region.ready c ops b->i<ops.size/\b.getD i true=false:=by
  intro b i e;simp only[Region.ready,List.mem_filter,List.mem_range,AF,Cl]at e;exact⟨e.1,e.2.1⟩
 induction d with
 |zero=>
  intro b a w hs j f;have g:Region.ready c ops b=[]:=by
   cases m:Region.ready c ops b with
   |nil=>rfl
   |cons i l=>
    grind[A7,Xi]
  exact⟨g,fin _ _ _ hs f g⟩
 |succ d o=>
  intro b a w hs j f;refine⟨fin _ _ _ hs f,λi e=>?_⟩;grind[Xi,wpOpIn_mono]
def Dc:Tryz.prog.follows .mixedOrders=true:=by kernel_rfl
theorem Oj{F:Fence}{id:Nat}{a:Act}(c:P.follows .mixedOrders=true)(I:Array Bool->Act->C->Prop)
(start:I (Array.replicate ops.size false) a w.drew)
(step:∀b a w i,b.size=ops.size->I b a w->i∈Region.ready .any ops b->wpOpIn F n P ops Q i (I (b.setIfInBounds i true)) a w)
(fin:∀b a w,b.size=ops.size->I b a w->Region.ready .any ops b=[]->Q .normal a w):
 (Code.region id ops true).wpIn F n P Q a w:=
 wpIn_region_any c (Oi I step fin _ _ _ _ B5 (by grind[Xc]) start)
def XA(tab:List Ta):Bool:=tab.zipIdx.all λp=>p.1.all (·<p.2)
def Xj(h:XA tab=true)(a:tab[i]?=some ds){j:Nat}(b:j∈ds):j<i:=by
 simp only[XA,Am,BV]at h;exact h (ds,i) (List.mk_mem_zipIdx_iff_getElem?.2 a) j b
theorem mem_ready{c:Region.Mode}(f:Region.tabAfter c ops=tab):
 i∈Region.ready c ops d↔d.getD i true=false/\∃ds,tab[i]?=some ds/\∀j∈ds,d.getD j false=true:=by
 subst f;simp only[Region.ready,List.mem_filter,List.mem_range,AF,Cl,Region.tabAfter,List.getElem?_map,Array.getElem?_toList];constructor
 . rintro⟨e,b,a⟩;rw[Array.getElem?_eq_getElem e]at a ⊢;simp only[Option.map_some,Option.getD_some,Array.all_eq_true',Bool.or_eq_true,Cl]at a;refine⟨b,_,J,λj k=>?_⟩;grind
 . rintro⟨b,ds,g,a⟩;grind
theorem Xo{F:Fence}{id:Nat}{a:Act}(v:P.follows .mixedOrders=true)
(tab:List Ta)(l:Region.tabAfter .any ops=tab)(q:XA tab=true)(I:(Nat->Bool)->Act->C->Prop)
(start:I (λ_=>false) a w.drew)
(step:∀(D:Nat->Bool) a w i ds,(∀i ds,tab[i]?=some ds->D i=true->∀j∈ds,D j=true)->tab[i]?=some ds->(∀j∈ds,D j=true)->D i=false->I D a w->wpOpIn F n P ops Q i (I λj=>j==i || D j) a w)
(fin:∀(D:Nat->Bool) a w,(∀i,i<tab.length->D i=true)->I D a w->Q .normal a w):
 (Code.region id ops true).wpIn F n P Q a w:=by
 have r:tab.length=ops.size:=by rw[<-l];simp[Region.tabAfter]
 refine Oj v (λb a w=>(∀i ds,tab[i]?=some ds->b.getD i false=true->∀j∈ds,b.getD j false=true)/\I (λj=>b.getD j false) a w) ⟨λi ds _ h=>?_,?_⟩ ?_ ?_
 . simp only[Array.getD,Ch]at h;split at h<;>simp at h
 . have e:(λj=>(Array.replicate ops.size false).getD j false)=λ_=>false:=by
    funext j;simp only[Array.getD,Ch];split<;>simp
   rw[e];exact start
 . rintro b a w i hs ⟨p,d⟩ f;obtain⟨o,ds,c,s⟩:=(mem_ready l).1 f;have m:i<b.size:=by
    rw[hs,<-r];rcases AH i tab.length with h|h
    . exact h
    . grind
   have u:b.getD i false=false:=by
    simp only[Array.getD,m,dif_pos]at o ⊢;exact o
   have e:∀j,(b.setIfInBounds i true).getD j false=(j==i || b.getD j false):=by
    intro j;rw[CB,CB,Array.getElem?_setIfInBounds];by_cases k:i=j
    . subst k;simp[m]
    . simp[k,Ne.symm k]
   refine wpOpIn_mono (λy N h=>⟨λM z A t j g=>?_,?_⟩) (step _ a w i ds p c s u d)
   . grind
   . rw[show(λj=>(b.setIfInBounds i true).getD j false)=λj=>(j==i || b.getD j false)from funext e];exact h
 . rintro b a w hs ⟨p,d⟩ K;refine fin _ a w (λi=>?_) d;induction i using Nat.strongRecOn with
   |_ i x=>
    intro f;cases t:b.getD i false with
    |true=>rfl
    |false=>
     exfalso
     have c:tab[i]?=some tab[i]:=Aj f
     have:i∈Region.ready .any ops b:=(mem_ready l).2 ⟨by
      grind,_,c,λj g=>x j (Xj q c g) (by have:=Xj q c g;omega)⟩
     grind
attribute [local go_sem] Oper.semAt_some
def LJ(w:C)(a:Tb)(len c:Nat)(b:Tb)(lb d:Nat)(xs e:Ta)(k:Nat)(W:C):Prop:=
 (((Boxed W w.heap.size 34 (B b lb d)/\Boxed W (w.heap.size+1) 3 (.int I 0))/\Boxed W (w.heap.size+1+1) 34 (B a len c))/\Bl w W)/\xs.drop (len-k)=e.drop (len-k)
def LK(w:C)(xs a:Ta)(c:Code)(_k:Nat)(W:C):Prop:=
 (Boxed W (w.heap.size+1) 3 (.int I (Yt (val O xs) (val O a)))/\Bl w W)/\c=.ret
def Ok(w:C)(a:Tb)(len c:Nat)(b:Tb)(lb d:Nat)(xs e:Ta):OwnFrom (w.heap.size+1+1+1) (LJ w a len c b lb d xs e):=
 BL (BL (BL (BL (Bd (boxed_own _ _ λ_=>B b lb d) _) (Bd (boxed_own _ _ λ_=>G I 0) _)) (Bd (boxed_own _ _ λ_=>B a len c) _)) (Bj (Aa _) Y)) (Bz _ _)
def Ol(w:C)(xs a:Ta)(c:Code):OwnFrom (w.heap.size+1+1+1) (LK w xs a c):=
 BL (BL (Bd (boxed_own _ _ λ_=>G I (Yt (val O xs) (val O a))) _) (Bj (Aa _) Y)) (Bz _ _)
theorem Om{c:Bool}(h:m≠n)(a:c=decide (n<m)):(if c then 1 else -1:Int)=Yt m n:=by
 grind[Xg,FQ]
def On(a:Tb)(c k:Nat)(b:Tb)(lb d:Nat)(w:C)(m n:Nat)(o:c≠lb)(l:c<lb↔m<n)(i:m≠n):
 Calls E 114 #[B a c k,B b lb d] w λe j=>e=.returned (G I (Yt m n))/\Bl w j:=by
 have p:(((c:Nat):Int) != (lb:Int))=true:=by rw[Br];omega
 have g:=Ja (show(if decide ((lb:Int)<(c:Int))=true then 1 else -1:Int)=Yt m n from Om i DJ);clear l i o;refine(BK (n:=3)).1 ?_;refine BT func114 J trivial ?_ J;simp only[ntmps114,An,Ag,AN,Nat.reduceAdd,Nat.reduceSub,Au,Aw,AK,Ay,Ah,Az];gi_wp2_with(refine⟨trivial,?_⟩;gi_at_call 119;refine((BK (n:=_)).2 (Hv _ _)).mono ?_;rintro e j ⟨rfl,rfl⟩)
 . have f:Yt m n=1:=by rw[<-g.o,BH si]
   have q:=(BJ (w.alloc (H #[B b lb d] 34)) 3 (G I 1)).cell;simp only[A1]at q;refine⟨G I 1,by simp[results,results114,go_sem,q],by rw[f],?_⟩;exact(Ba w _).alloc B5 _
 . have f:Yt m n=-1:=by rw[<-g.o,BE si]
   have q:=(BJ (w.alloc (H #[B b lb d] 34)) 3 (G I (-1))).cell;simp only[A1]at q;refine⟨G I (-1),by simp[results,results114,go_sem,q],by rw[f],?_⟩;exact(Ba w _).alloc B5 _
theorem Oo(a:Tb)(len f:Nat)(b:Tb)(g:Nat)(xs d:Ta)(w:C)(ha:Row F w (B a len f) xs)(hb:Row F w (B b len g) d)(xa:B7 O xs)(xb:B7 O d):
 Calls E 114 #[B a len f,B b len g] w λe U=>e=.returned (G I (Yt (val O xs) (val O d)))/\Bl w U:=by
 obtain⟨hl,ak,an,aj,z⟩:=Jm ha;obtain⟨ah,ai,ap,aq,ad⟩:=Jm hb;obtain⟨M,X,HC,Qe⟩:=Df hl ah z ad;clear z ad hl ah ha hb;refine(BK (n:=3)).1 ?_;refine BT func114 J trivial ?_ J;simp only[ntmps114,An,Ag,AN,Nat.reduceAdd,Nat.reduceSub,Au,Aw,AK,Ay,Ah,Az];gi_wp2_with(refine⟨trivial,?_⟩;gi_at_call 147;refine(Fr Fence.wide _ trivial J _ _ _ _).mono ?_;rintro e U ⟨rfl,rfl⟩)
 obtain⟨W0,v⟩:=ex (((w.alloc (H #[B b len g] 34)).alloc (H #[G I 0] 3)).alloc (H #[B a len f] 34));have b0:=((BJ w 34 (B b len g)).alloc (H #[G I 0] 3)).alloc (H #[B a len f] 34);have P:=(BJ (w.alloc (H #[B b len g] 34)) 3 (G I 0)).alloc (H #[B a len f] 34);have R:=BJ ((w.alloc (H #[B b len g] 34)).alloc (H #[G I 0] 3)) 34 (B a len f);simp only[A1]at P R;have hN:W0.heap.size=w.heap.size+1+1+1:=by rw[<-v];simp
 have Qf:Bl w W0:=by rw[<-v];exact((Ba w _).alloc B5 _).alloc si _
 rw[v]at b0 P R ⊢;clear v;refine YS J Y (gf:=174) (lb:=#[.pointer (some ⟨w.heap.size+1+1,0,none⟩)]) J trivial (B0 func174 Tc J)
  (Fq Fence.wide _ trivial J Y (w.heap.size+1+1) a len f (λj=>xs[j]?.getD 0) aj) (λ_=>rfl)
  (LJ w a len f b len g xs d) (LK w xs d) (by rw[hN];exact Ok w a len f b len g xs d) (λc=>by rw[hN];exact Ol w xs d c)
  ⟨⟨⟨⟨b0,P⟩,R⟩,Qf⟩,by rw[CY,AA (by rw[M.o];exact Aa _),AA (by rw[X.o];exact Aa _)]⟩ ?rd
  (λk=>{ tmps:=#[B a len f,B b len g,L,.pointer (some ⟨w.heap.size,0,none⟩),.pointer (some ⟨w.heap.size+1,0,none⟩),G I ((len:Int)-1-k),G F (xs[len-1-k]?.getD 0:Nat),B a len f,G I (len:Nat),B b len g,G I (len:Nat),.bool false,L,L,L,L,L,L,B a len f,.func (.func 174) #[] #[.pointer (some ⟨w.heap.size+1+1,0,none⟩)],G I ((len:Int)-1-k),G F (xs[len-1-k]?.getD 0:Nat),L,L,L,L,L,L,L,L,L,L,L,L,L],defers:=[] }) ?assign ?body ?done ?stop
 case rd=>
  rintro k W ⟨⟨⟨_,c2⟩,i⟩,_⟩;refine⟨c2.cell,λhk=>?_⟩;obtain⟨u,A,ea,S,z⟩:=HC.o (len-1-k) Y;exact⟨u,A,ea,(i.cell (p:=⟨u,A+(len-1-k),none⟩) S).trans z⟩
 case assign=>
  intro l k W K o;unfold Xh;gi_wp2;exact o
 case body=>
  rintro l k W ⟨⟨⟨⟨c0,c1⟩,c2⟩,i⟩,r⟩ hk ay;have d0:=c0.cell;have d1:=c1.cell;have f1:=c1.frozen;obtain⟨u,A,rfl,S,ae⟩:=Qe.o (len-1-k) Y;have dy:=(i.cell (p:=⟨u,A+(len-1-k),none⟩) S).trans ae;clear ae;have e1:((len:Int)-1-k)=((len-1-k:Nat):Int):=Y
  rw[e1];have hm:len-1-k<len:=Y
  have es:len-1-k+1=len-k:=Y
  have Qc:xs.drop (len-1-k+1)=d.drop (len-1-k+1):=by rw[es];exact r
  have Qb:=M.o.symm.trans X.o;have s:=Ja λ(h:xs[len-1-k]?.getD 0=d[len-1-k]?.getD 0)=>Kk Qb (len-1-k) (by rw[<-M.o];exact hm) Qc h;have t:=Ja (show xs[len-1-k]?.getD 0≠d[len-1-k]?.getD 0->Yt (val O xs) (val O d)=Yt (xs[len-1-k]?.getD 0) (d[len-1-k]?.getD 0)from λh=>by
   grind[Xg,Hc,FQ])
  have V:=Ja (show len-(k+1)=len-1-k by omega);clear e1 es Qc r Qb;generalize xs[len-1-k]?.getD 0=x at s t ⊢;generalize d[len-1-k]?.getD 0=y at s t dy;generalize len-1-k=m at s hm V dy ⊢;have am:=ai;by_cases T:x=y
  . subst T;gi_wp2_with fail
    refine⟨KeepsFrom.refl _ _,⟨⟨⟨c0,c1⟩,c2⟩,i⟩,?_⟩;rw[V.o];exact s.o B5
  . have az:(((x:Nat):Int) != (y:Int))=true:=by rw[Br];omega
    have N:=Ja T;clear T;gi_wp2_with(refine⟨trivial,?_⟩;gi_at_call 119;refine(BZ l ((BK (n:=_)).2 (Hv _ _))).mono ?_;rintro e U ⟨rfl,rfl⟩)
    . refine⟨(BR _ _ _).from _,⟨?_,i.setCell (p:=⟨w.heap.size+1,0,none⟩) B5 _⟩,J⟩;rw[t.o N.o,FQ ‹y<x›];exact c1.set _
    . refine⟨(BR _ _ _).from _,⟨?_,i.setCell (p:=⟨w.heap.size+1,0,none⟩) B5 _⟩,J⟩;rw[t.o N.o,Xg (by have:=N.o;omega)];exact c1.set _
 case done=>
  rintro D W hD ⟨⟨⟨⟨c0,c1⟩,c2⟩,i⟩,r⟩ o;have d1:=c1.cell;have f1:=c1.frozen;have HZ:=Ja r;clear r;gi_wp2;have Qd:=(BR W ⟨w.heap.size+1,0,none⟩ (G I 0)).same D _ o J;refine⟨B5,.inl ⟨_,_,J,Bb Qd,?_⟩⟩;have Q:=(c1.set (G I 0)).kept (BU _ D (.deferred none)) (λe=>by grind);have q:=Q.cell;have hv:Yt (val O xs) (val O d)=0:=by
   have:=HZ.o;grind[Hb]
  refine⟨G I 0,by simp[results,results114,go_sem,q],by rw[hv],?_⟩;exact(i.setCell (p:=⟨w.heap.size+1,0,none⟩) B5 _).trans (belowK_b (w:=w) (Aa _) _ D _ _ Y Qd J J)
 case stop=>
  rintro D c k W hD hk ⟨⟨c1,i⟩,rfl⟩ o;have d1:=c1.cell;gi_wp2;refine⟨B5,.inl ⟨_,_,J,Bb o,?_⟩⟩;have Q:=c1.kept (BU _ D (.deferred none)) (λe=>by grind);have q:=Q.cell;refine⟨G I (Yt (val O xs) (val O d)),by simp[results,results114,go_sem,q],J,?_⟩;exact i.trans (belowK_b (w:=w) (Aa _) _ D _ _ Y o J J)
theorem Ic(p q:Value)(xs c:Ta)(w:C)(o:Row F w p xs)(j:Row F w q c)(d:B7 O xs)(f:B7 O c)(k:Dg xs)(l:Dg c):
 Calls E 114 #[p,q] w λe r=>e=.returned (G I (Yt (val O xs) (val O c)))/\Bl w r:=by
 obtain⟨a,m,rfl,s⟩:=id o;obtain⟨b,n,rfl,t⟩:=id j;have i:2<=O:=by unfold O;omega
 by_cases hl:xs.length=c.length
 . rw[<-hl]at j ⊢;exact Oo a xs.length m b n xs c w o j d f
 . refine On a _ m b _ n w _ _ hl ?_ ?_
   . constructor
     . exact λh=>J5 i d f k l h
     . intro h;grind[Nat.lt_or_gt_of_ne,J5]
   . rcases Nat.lt_or_gt_of_ne hl with g|g
     . have:=J5 i d f k l g;omega
     . have:=J5 i f d l k g;omega
end
variable{a:Act}{ops:Array Oper}{Q:Exit->Act->C->Prop}{P:Program}{w:C}
def Op(n c:Nat)(w:C):Calls E 131 #[B none n c] w λe d=>e=.returned (B none 0 0)/\d=w:=by
 have f:∀(w:C) (a:Tb) (n c b c':Nat),(binOp .eql 34 (B a n c) (B none b c')).run E w=.ok (.bool a.isNone) w:=λw a n c b c'=>Lib.run_eql_slice_nil w _ _ a n c b c' underlying34;go_enter func131,ntmps131
 go_wp2;go_ret;exact⟨J,J⟩
theorem Id(p:Addr)(c:Nat)(xs:Ta)(w:C)(hl:xs.length<=1099511627776)(f:∀j,j<xs.length->w.cell? (p.add j)=some (G F (xs[j]?.getD 0:Nat))):
 Calls E 131 #[B (some p) xs.length c] w λe g=>∃b,e=.returned b/\g.ownsRow w.heap.size 163 1 b xs.length (cellsOf F xs)/\Bl w g:=by
 obtain⟨y,m,s,t,v⟩:=Bk Tryz.infoU64;have K:∀(w:C) (a:Tb) (n c d c':Nat),(binOp .eql 34 (B a n c) (B none d c')).run E w=.ok (.bool a.isNone) w:=λw a n c d c'=>Lib.run_eql_slice_nil w _ _ a n c d c' underlying34;have A:=Ja f;clear f;go_enter func131,ntmps131
 go_wp2_with(at_builtin;refine BW _ J _ _ 34 J w.heap.size 163 y (G F 0) 1 8 underlying34 m s t v J DB _ _ _ J (World.ownsRow_made w #[] 0 (Aa _) (AL _) J) p xs.length c (cellsOf F xs) J ?qc1 ?qc2 ?qc3 ?qc4 ?qc5 ?qc6 ?_)
 case qc1=>simp[cellsOf]
 case qc2=>
  intro j u z;have i:j<xs.length:=by
   grind[cellsOf]
  refine Lib.cell?_alloc_some _ ?_;rw[A.o j i];grind[cellsOf]
 case qc3=>intro u r;obtain⟨x,_,rfl⟩:=List.mem_map.1 r;rfl
 case qc4=>unfold maxLen;omega
 case qc5=>omega
 case qc6=>simp
 intro b M q l D;go_wp2;go_ret;refine⟨b,J,by simpa using q,?_⟩;exact(Ba w _).grown l B5 (by intro k o;simp[Value.ownBlock]at o;omega)
theorem Oq{c:Region.Mode}(I:Array Bool->Act->C->Prop)
(step:∀b a w i,b.size=ops.size->I b a w->i∈Region.ready c ops b->wpOp P ops Q i (I (b.setIfInBounds i true)) a w)
(fin:∀b a w,b.size=ops.size->I b a w->Region.ready c ops b=[]->Q .normal a w):
 ∀(d:Nat) (b:Array Bool) (a:Act) (w:C),b.size=ops.size->Xc b<=d->I b a w->wpAny P c ops Q d b a w:=by
 intro d;have k:∀ {b:Array Bool} {i:Nat},i∈Region.ready c ops b->i<ops.size/\b.getD i true=false:=by
  intro b i e;simp only[Region.ready,List.mem_filter,List.mem_range,AF,Cl]at e;exact⟨e.1,e.2.1⟩
 induction d with
 |zero=>
  intro b a w hs j f;have g:Region.ready c ops b=[]:=by
   cases m:Region.ready c ops b with
   |nil=>rfl
   |cons i l=>
    grind[A7,Xi]
  exact⟨g,fin _ _ _ hs f g⟩
 |succ d n=>
  intro b a w hs j f;refine⟨fin _ _ _ hs f,λi e=>?_⟩;grind[Xi,wpOp_mono]
theorem wp_region_held{id:Nat}(c:P.follows .mixedOrders=true)(I:Array Bool->Act->C->Prop)
(start:I (Array.replicate ops.size false) a w.drew)
(step:∀b a w i,b.size=ops.size->I b a w->i∈Region.ready .any ops b->wpOp P ops Q i (I (b.setIfInBounds i true)) a w)
(fin:∀b a w,b.size=ops.size->I b a w->Region.ready .any ops b=[]->Q .normal a w):
 (Code.region id ops true).wp P Q a w:=
 wp_region_any c (Oq I step fin _ _ _ _ B5 (by grind[Xc]) start)
theorem J3{id:Nat}(u:P.follows .mixedOrders=true)
(tab:List Ta)(l:Region.tabAfter .any ops=tab)(p:XA tab=true)(I:(Nat->Bool)->Act->C->Prop)
(start:I (λ_=>false) a w.drew)
(step:∀(D:Nat->Bool) a w i ds,(∀i ds,tab[i]?=some ds->D i=true->∀j∈ds,D j=true)->tab[i]?=some ds->(∀j∈ds,D j=true)->D i=false->I D a w->wpOp P ops Q i (I λj=>j==i || D j) a w)
(fin:∀(D:Nat->Bool) a w,(∀i,i<tab.length->D i=true)->I D a w->Q .normal a w):
 (Code.region id ops true).wp P Q a w:=by
 have q:tab.length=ops.size:=by rw[<-l];simp[Region.tabAfter]
 refine wp_region_held u (λb a w=>(∀i ds,tab[i]?=some ds->b.getD i false=true->∀j∈ds,b.getD j false=true)/\I (λj=>b.getD j false) a w) ⟨λi ds _ h=>?_,?_⟩ ?_ ?_
 . simp only[Array.getD,Ch]at h;split at h<;>simp at h
 . have e:(λj=>(Array.replicate ops.size false).getD j false)=λ_=>false:=by
    funext j;simp only[Array.getD,Ch];split<;>simp
   rw[e];exact start
 . rintro b a w i hs ⟨o,d⟩ f;obtain⟨n,ds,c,r⟩:=(mem_ready l).1 f;have m:i<b.size:=by
    rw[hs,<-q];rcases AH i tab.length with h|h
    . exact h
    . grind
   have t:b.getD i false=false:=by
    simp only[Array.getD,m,dif_pos]at n ⊢;exact n
   have e:∀j,(b.setIfInBounds i true).getD j false=(j==i || b.getD j false):=by
    intro j;rw[CB,CB,Array.getElem?_setIfInBounds];by_cases k:i=j
    . subst k;simp[m]
    . simp[k,Ne.symm k]
   refine wpOp_mono (λx M h=>⟨λK y z s j g=>?_,?_⟩) (step _ a w i ds o c r t d)
   . grind
   . rw[show(λj=>(b.setIfInBounds i true).getD j false)=λj=>(j==i || b.getD j false)from funext e];exact h
 . rintro b a w hs ⟨o,d⟩ A;refine fin _ a w (λi=>?_) d;induction i using Nat.strongRecOn with
   |_ i v=>
    intro f;cases s:b.getD i false with
    |true=>rfl
    |false=>
     exfalso
     have c:tab[i]?=some tab[i]:=Aj f
     have:i∈Region.ready .any ops b:=(mem_ready l).2 ⟨by
      grind,_,c,λj g=>v j (Xj p c g) (by have:=Xj p c g;omega)⟩
     grind
def DG{T:List Ta}{D:Nat->Bool}(c:∀i ds,T[i]?=some ds->D i=true->∀j∈ds,D j=true){a k:Nat}{ds:Ta}(b:D k=false)(e:T[a]?=some ds:=by rfl)(d:k∈ds:=by simp):D a=false:=by
 cases h:D a with
 |false=>rfl
 |true=>rw[c a ds e h k d]at b;cases b
theorem LL(a:Tb)(b c:Nat)(d:Ta)(w:C)(u:Row F w (B a b c) d)(o:0<b):
 Calls E 131 #[B a b c] w λe f=>∃g i,e=.returned (B (some ⟨g,0,none⟩) b i)/\C9 f g d/\w.heap.size<=g/\(b<=i/\i<=9223372036854775807)/\Bl w f:=by
 obtain⟨hl,y,D,A,t⟩:=Jm u;obtain⟨m,n,rfl,_,_⟩:=t 0 o;have k:=Id ⟨m,n,none⟩ c d w Y (λj z=>by
  grind[Xz])
 rw[<-hl]at k;refine k.mono ?_;rintro e f ⟨K,rfl,l,s⟩;rcases l.2 with⟨_,ev⟩|⟨g,cap,v,ev,p,x,q,r,_⟩
 . omega
 . subst ev;exact⟨_,cap,J,C9.owns l,p,⟨q,r⟩,s⟩
theorem LM(a:Tb)(b c:Nat)(f:Ta)(w:C)(m:Row F w (B a b c) f):
 Calls E 131 #[B a b c] w λe d=>∃n i,e=.returned (B n b i)/\Row F d (B n b i) f/\Bl w d:=by
 obtain⟨hl,z,D,u,A⟩:=Jm m;rcases AE b with k|k
 . subst k;obtain rfl:f=[]:=Ai hl.symm;cases a with
   |none=>
    refine(Op 0 c w).mono ?_;rintro e d ⟨rfl,rfl⟩;exact⟨none,0,J,⟨none,0,J,Aa _,Y,Y,Ao J⟩,BB _ _⟩
   |some p=>
    refine(Id p c [] w B5 λj t=>by simp at t).mono ?_;rintro e d ⟨M,rfl,v,l⟩;rcases v.2 with⟨ev,_⟩|⟨g,cap,x,ev,_,_,y,r,_⟩
    . subst ev;exact⟨none,0,J,⟨none,0,J,Aa _,Y,Y,Ao J⟩,l⟩
    . subst ev;exact⟨_,cap,J,⟨_,cap,J,AL _,r,B5,Ao J⟩,l⟩
 . refine(LL a b c f w m k).mono ?_;rintro e d ⟨g,i,rfl,s,_,⟨o,q⟩,l⟩;have K:=s.row 0 b i Y o q u;grind

