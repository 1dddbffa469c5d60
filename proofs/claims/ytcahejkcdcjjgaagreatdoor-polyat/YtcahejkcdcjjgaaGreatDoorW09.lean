import Derived.Test.YtcahejkcdcjjgaaGreatDoorW08
import Derived.Laws.CopyOwn
import Derived.Deep.OwnRows
set_option linter.all false
open Go.Value renaming slice->B,int->G
open Go renaming World->C,undef->L
open Go.Proofs.Tryz renaming prog->E
open Go.IntKind renaming u64->F,i64->I
open Go.Obj renaming cells->H
set_option maxRecDepth 99999
set_option maxHeartbeats 0
namespace Go.Proofs.YtcahejkcdcjjgaaGreatDoor
open List renaming replicate->Zw
open Proofs.Tryz
open Go.RowKit Go.Shelf
section
def Bc:=@CallsIn.inRound
variable{p:Addr}{d:Array Bool}{ops:Array Oper}{Q:Exit->Act->C->Prop}{tab:List Ja}{bs ds q xs:Ja}{c i l len m n:Nat}{a:Zu}{P:Program}{w:C}
def RT(n:Nat):madeCells #[G F 0] n=(cellsOf F (Zw n 0)).toArray:=by
 apply Array.ext
 . simp[madeCells,cellsOf]
 . intro i a b;simp[madeCells,cellsOf,Nat.mod_one]
def Ga(n:Nat)(h:n<=2199023255552)(w:C):(Instr.makeSlice 34 (G I (n:Int)) (G I (n:Int))).run E w=.ok (B (some ⟨w.heap.size,0,none⟩) n n) (w.alloc (H (cellsOf F (Zw n 0)).toArray 163)):=by
 rw[<-RT];exact run_make_row' 34 163 (G F 0) 8 underlying34 Tryz.infoU64 J I I n O O w
def Iv(l:Nat)(h:l<=2199023255551)(w:C):(Instr.makeSlice 34 (G I ((l:Int)+1)) (G I ((l:Int)+1))).run E w=.ok (B (some ⟨w.heap.size,0,none⟩) (l+1) (l+1)) (w.alloc (H (cellsOf F (Zw (l+1) 0)).toArray 163)):=
 Ga (l+1) O w
theorem X7(b o j:Nat):(⟨b,o,none⟩:Addr).add j=⟨b,o+j,none⟩:=by simp[Addr.add]
theorem YO(h:n<=m):(Jb Y n).length<=(Jb Y m).length:=by
 rcases AF (Jb Y m).length (Jb Y n).length with a|a
 . have:=Ys Jd a;omega
 . exact a
theorem RU{W:C}(h:Row F w (B a l c) ds)(f:Bl w W)(e:a=some p)(_h0:0<l)(j:Nat)(v:Value)(o:(cellsOf F ds)[j]?=some v):W.cell? (p.add j)=some v:=by
 obtain⟨hl,_,_,_,g⟩:=Jq h;have n:j<ds.length:=by
  grind[cellsOf]
 obtain⟨b,m,d,k,i⟩:=g j O;rw[d]at e;cases e;rw[X7];rw[(f.cell (p:=⟨b,m+j,none⟩) k),i];grind[cellsOf]
theorem F3(h:Row F w (B a l c) ds)(e:a=some p)(d:0<l):p.block<w.heap.size:=by
 obtain⟨b,i,f,g,_⟩:=(Jq h).2.2.2.2 0 d;grind
def RV(h:Row F w (B a l c) ds)(e:0<l):∃p,a=some p:=by
 obtain⟨b,g,d,f,_⟩:=(Jq h).2.2.2.2 0 e;exact⟨_,d⟩
theorem NM(h:ES xs bs 0 len c q)(i:xs=Jb Y m)(f:bs=Jb Y n)(hl:len=xs.length)(g:bs.length<=len)(l:n<=m):Js q=Jb Y (m-n):=by
 obtain⟨a,b,j,d⟩:=h;rw[AB,Ac (show xs.length<=len by omega),Ac g,i,f,Jn Jd,Jn Jd]at d;have e:=J7 b;rw[a]at e;have k:c=0:=by
  grind
 grind[JQ,Jd]
theorem LL(g b k:Nat)(a:Zu)(la d:Nat)(xs:Ja)(w c:C)(m:Row F w (B a la d) xs)(l:Bl w c)(hg:w.heap.size<=g)(q:c.heap[g]?=some (H (cellsOf F (Zw b 0)).toArray 163 (0,0)))(hl:la<=b):
 ∃i,(Builtin.copy_ #[34,34] 3 #[B (some ⟨g,0,none⟩) b k,B a la d]).run E c=.ok (G I (la:Nat)) i/\DO i g (xs++Zw (b-la) 0)/\Bl w i:=by
 obtain⟨t,_⟩:=Jq m;have n:(Tryz.prog.info? 163).map (·.size)=some 1:=by kernel_rfl
 have r:(cellsOf F xs)++(cellsOf F (Zw b 0)).drop la=cellsOf F (xs++Zw (b-la) 0):=by simp[cellsOf]
 by_cases s:la=0
 . subst s;refine⟨c,run_copy_none (P:=E) c 34 34 3 163 (some ⟨g,0,none⟩) a b k 0 d underlying34 n (Nat.zero_min b),DO.made ?_,l⟩;grind
 . obtain⟨p,hp⟩:=RV m O;subst hp;have f:(cellsOf F xs).length=la:=by simp[cellsOf,t]
   have o:=run_copy_row (P:=E) c 34 34 3 163 g 0 b k p la d _ 163 (cellsOf F xs) underlying34 n q (by rw[f];exact(Cw hl).symm) (λj v e=>RU m l J O j v e) (by rw[f];simp[cellsOf];exact hl) (λv e=>by
    rw[cellsOf,List.mem_map]at e;obtain⟨_,_,rfl⟩:=e;rfl)
   rw[f,Fe,Ah,Cn,r]at o;exact⟨_,o,DO.made (setRow_heap c g _ _ _ _ q),below_setRow l hg _⟩
theorem LM(a:Zu)(la j:Nat)(b:Zu)(lb k m n:Nat)(w:C)(l:Row F w (B a la j) (Jb Y m))(o:Row F w (B b lb k) (Jb Y n))(h:n<=m):
 Calls E 115 #[B a la j,B b lb k] w λe D=>∃u,e=.returned u/\UN D u (m-n)/\Bl w D:=by
 obtain⟨hl,aj,ae,X,V⟩:=Jq l;obtain⟨A,ak,ah,an,W⟩:=Jq o;have P:lb<=la:=by rw[hl,A];exact YO h
 have f:=Z hl;have i:=Z o;have Q:=Ga la O w;obtain⟨d,g⟩:∃d,d=w.alloc (H (cellsOf F (Zw la 0)).toArray 163):=⟨_,J⟩;have t:Bl w d:=by rw[g];exact Ba w _
 have v:d.heap[w.heap.size]?=some (H (cellsOf F (Zw la 0)).toArray 163 (0,0)):=by rw[g];exact BC w _
 rw[<-g]at Q;obtain⟨w2,ai,hA2,y⟩:=LL w.heap.size la la a la j (Jb Y m) w d l t (Aa _) v (Aa _);rw[AX,List.replicate_zero,Ce]at hA2;have ad:=hA2.lt;clear V hl W A l o g t v;go_enter func115,ntmps115
 go_wp2_with(go_at_call 148;refine(NL w.heap.size 0 la la (Jb Y m) b lb k (Jb Y n) _ hA2 (Jm Jd m) (by rw[Cn,<-f.o];exact Aa _) (Aa _) O P (Row.below i.o y) (Jm Jd n) λp e S=>by have:=F3 i.o e S;omega).mono ?_)
 rintro e w3 ⟨c,q,rfl,r,hA3,z⟩;have N:=r.1;have M:Row F w3 (B (some ⟨w.heap.size,0,none⟩) la la) q:=by
  have T:=hA3.row 0 la la (by rw[JO N (by rw[<-f.o];omega),<-f.o];omega) (Aa _) O X;have R:((DU (Jb Y m) 0 la q).drop 0).take la=q:=by
   grind[DU]
  rwa[R]at T
 have K:=Z (NM r J J f.o (by have:=Jq i.o;omega) h);have x:=below_grown y z (Aa _);clear r hA3 z;go_wp2_with(go_at_call 132;refine(Yz _ q _ M).mono ?_)
 rintro e w4 ⟨u,rfl,s,U⟩;rw[K.o]at s;obtain⟨ua,uc,rfl⟩:=UN.form s;go_wp2;go_ret;exact⟨_,J,s,x.trans (U.mono x.size)⟩
theorem NN(h:Ef (xs++[0]) bs 0 len c q)(i:xs=Jb Y m)(g:bs=Jb Y n)(hl:len=xs.length+1)(o:bs.length<=xs.length):Js q=Jb Y (m+n):=by
 obtain⟨j,b,k,a⟩:=h;have p:m<Y^xs.length:=by
  grind[J7,Jm,Jd,Jn]
 have r:n<Y^xs.length:=by
  have:=J7 (Jm Jd n);grind[Jn,Ao,Au,Y]
 rw[AB,Ac (show(xs++[0]).length<=len by simp;omega),Ac (show bs.length<=len by omega),Ye,Cb,A6,g,Jn Jd]at a;have e:val Y xs=m:=by rw[i,Jn Jd]
 rw[e]at a;have f:Y^len=Y^xs.length*Y:=by rw[hl,Cc]
 have l:Y^xs.length*2<=Y^len:=by rw[f];exact AA _ Jd
 have d:c=0:=by
  grind
 subst d;rw[<-JQ Jd b];congr 1
theorem NO(a:Zu)(la A:Nat)(b:Zu)(lb D m n:Nat)(w:C)(k:Row F w (B a la A) (Jb Y m))(l:Row F w (B b lb D) (Jb Y n))(ap:la<1099511627776)(aq:lb<1099511627776):
 Calls E 113 #[B a la A,B b lb D] w λe w'=>∃u,e=.returned u/\UN w' u (m+n)/\Bl w w':=by
 by_cases ay:la<lb
 . obtain⟨hl,ai,ad,ak,W⟩:=Jq l;obtain⟨z,aj,ae,an,X⟩:=Jq k;obtain⟨o,r,P⟩:=Db hl k z;have R:=Iv lb O w;obtain⟨d,f⟩:∃d,d=w.alloc (H (cellsOf F (Zw (lb+1) 0)).toArray 163):=⟨_,J⟩;have s:Bl w d:=by rw[f];exact Ba w _
   have t:d.heap[w.heap.size]?=some (H (cellsOf F (Zw (lb+1) 0)).toArray 163 (0,0)):=by rw[f];exact BC w _
   rw[<-f]at R;obtain⟨w2,ah,hA2,x⟩:=LL w.heap.size (lb+1) (lb+1) b lb D (Jb Y n) w d l s (Aa _) t O;rw[show lb+1-lb=1 from by omega,List.replicate_one]at hA2;have Qi:=hA2.lt;have K:=Z (show DK Y (Jb Y n++[0])from(Jm Jd n).append (DK.cons uo (DK.nil _)));have g:=Z (show(Jb Y n++[0]).length=lb+1 by grind);clear W hl X z k l f s t;go_enter func113,ntmps113
   go_wp2_with(go_at_call 146;refine(LK w.heap.size 0 (lb+1) (lb+1) (Jb Y n++[0]) a la A (Jb Y m) _ hA2 K.o (by rw[Cn,g.o];exact Aa _) (Aa _) O O (Row.below r.o x) (Jm Jd m) λp e T=>by have:=F3 r.o e T;omega).mono ?_)
   rintro e w3 ⟨c,q,rfl,i,hA3,y⟩;have Q:=i.1;have N:Row F w3 (B (some ⟨w.heap.size,0,none⟩) (lb+1) (lb+1)) q:=by
    have U:=hA3.row 0 (lb+1) (lb+1) (by rw[JO Q (by rw[g.o];omega),g.o];omega) (Aa _) O O;have S:((DU (Jb Y n++[0]) 0 (lb+1) q).drop 0).take (lb+1)=q:=by
     grind[DU]
    rwa[S]at U
   have M:=Z (NN i J J (by rw[<-o.o]) (by rw[<-o.o,<-P.o];omega));have v:=below_grown x y (Aa _);clear i hA3 y;go_wp2_with(go_at_call 132;refine(Yz _ q _ N).mono ?_)
   rintro e w4 ⟨u,rfl,j,V⟩;rw[M.o]at j;obtain⟨ua,uc,rfl⟩:=UN.form j;go_wp2;go_ret;exact⟨_,J,by rw[CW m n];exact j,v.trans (V.mono v.size)⟩
 . obtain⟨hl,ai,ad,ak,W⟩:=Jq k;obtain⟨z,aj,ae,an,X⟩:=Jq l;obtain⟨o,r,P⟩:=Db hl l z;have R:=Iv la O w;obtain⟨d,f⟩:∃d,d=w.alloc (H (cellsOf F (Zw (la+1) 0)).toArray 163):=⟨_,J⟩;have s:Bl w d:=by rw[f];exact Ba w _
   have t:d.heap[w.heap.size]?=some (H (cellsOf F (Zw (la+1) 0)).toArray 163 (0,0)):=by rw[f];exact BC w _
   rw[<-f]at R;obtain⟨w2,ah,hA2,x⟩:=LL w.heap.size (la+1) (la+1) a la A (Jb Y m) w d k s (Aa _) t O;rw[show la+1-la=1 from by omega,List.replicate_one]at hA2;have Qi:=hA2.lt;have K:=Z (show DK Y (Jb Y m++[0])from(Jm Jd m).append (DK.cons uo (DK.nil _)));have g:=Z (show(Jb Y m++[0]).length=la+1 by grind);clear W hl X z k l f s t;go_enter func113,ntmps113
   go_wp2_with(go_at_call 146;refine(LK w.heap.size 0 (la+1) (la+1) (Jb Y m++[0]) b lb D (Jb Y n) _ hA2 K.o (by rw[Cn,g.o];exact Aa _) (Aa _) O O (Row.below r.o x) (Jm Jd n) λp e T=>by have:=F3 r.o e T;omega).mono ?_)
   rintro e w3 ⟨c,q,rfl,i,hA3,y⟩;have Q:=i.1;have N:Row F w3 (B (some ⟨w.heap.size,0,none⟩) (la+1) (la+1)) q:=by
    have U:=hA3.row 0 (la+1) (la+1) (by rw[JO Q (by rw[g.o];omega),g.o];omega) (Aa _) O O;have S:((DU (Jb Y m++[0]) 0 (la+1) q).drop 0).take (la+1)=q:=by
     grind[DU]
    rwa[S]at U
   have M:=Z (NN i J J (by rw[<-o.o]) (by rw[<-o.o,<-P.o];omega));have v:=below_grown x y (Aa _);clear i hA3 y;go_wp2_with(go_at_call 132;refine(Yz _ q _ N).mono ?_)
   rintro e w4 ⟨u,rfl,j,V⟩;rw[M.o]at j;obtain⟨ua,uc,rfl⟩:=UN.form j;go_wp2;go_ret;exact⟨_,J,j,v.trans (V.mono v.size)⟩
def Xz(a:Array Bool):Nat:=a.toList.countP λb=>!b
theorem XH(a:i<d.size)(h:d.getD i true=false):Xz (d.setIfInBounds i true)+1=Xz d:=by
 grind[Array.getInternal_eq_getElem,Xz]
theorem RW{F:Fence}{c:Region.Mode}(I:Array Bool->Act->C->Prop)
(step:∀b a w i,b.size=ops.size->I b a w->i∈Region.ready c ops b->wpOpIn F n P ops Q i (I (b.setIfInBounds i true)) a w)
(fin:∀b a w,b.size=ops.size->I b a w->Region.ready c ops b=[]->Q .normal a w):
 ∀(d:Nat) (b:Array Bool) (a:Act) (w:C),b.size=ops.size->Xz b<=d->I b a w->wpAnyIn F n P c ops Q d b a w:=by
 intro d;have k:∀ {b:Array Bool} {i:Nat},i∈Region.ready c ops b->i<ops.size/\b.getD i true=false:=by
  intro b i e;simp only[Region.ready,List.mem_filter,List.mem_range,AN,Cq]at e;exact⟨e.1,e.2.1⟩
 induction d with
 |zero=>
  intro b a w hs j f;have g:Region.ready c ops b=[]:=by
   cases m:Region.ready c ops b with
   |nil=>rfl
   |cons i l=>
    grind[Ct,XH]
  exact⟨g,fin _ _ _ hs f g⟩
 |succ d o=>
  intro b a w hs j f;refine⟨fin _ _ _ hs f,λi e=>?_⟩;grind[XH,wpOpIn_mono]
def Di:Tryz.prog.follows .mixedOrders=true:=by kernel_rfl
theorem RX{F:Fence}{id:Nat}{a:Act}(c:P.follows .mixedOrders=true)(I:Array Bool->Act->C->Prop)
(start:I (Array.replicate ops.size false) a w.drew)
(step:∀b a w i,b.size=ops.size->I b a w->i∈Region.ready .any ops b->wpOpIn F n P ops Q i (I (b.setIfInBounds i true)) a w)
(fin:∀b a w,b.size=ops.size->I b a w->Region.ready .any ops b=[]->Q .normal a w):
 (Code.region id ops true).wpIn F n P Q a w:=
 wpIn_region_any c (RW I step fin _ _ _ _ DJ (by grind[Xz]) start)
def XA(tab:List Ja):Bool:=tab.zipIdx.all λp=>p.1.all (·<p.2)
def XI(h:XA tab=true)(a:tab[i]?=some ds){j:Nat}(b:j∈ds):j<i:=by
 simp only[XA,AH,Bb]at h;exact h (ds,i) (List.mk_mem_zipIdx_iff_getElem?.2 a) j b
theorem mem_ready{c:Region.Mode}(f:Region.tabAfter c ops=tab):
 i∈Region.ready c ops d↔d.getD i true=false/\∃ds,tab[i]?=some ds/\∀j∈ds,d.getD j false=true:=by
 subst f;simp only[Region.ready,List.mem_filter,List.mem_range,AN,Cq,Region.tabAfter,List.getElem?_map,CK];constructor
 . rintro⟨e,b,a⟩;rw[Cx e]at a ⊢;simp only[Option.map_some,CT,Array.all_eq_true',Bool.or_eq_true,Cq]at a;refine⟨b,_,J,λj k=>?_⟩;grind
 . rintro⟨b,ds,g,a⟩;grind
theorem YE{F:Fence}{id:Nat}{a:Act}(v:P.follows .mixedOrders=true)
(tab:List Ja)(l:Region.tabAfter .any ops=tab)(q:XA tab=true)(I:(Nat->Bool)->Act->C->Prop)
(start:I (λ_=>false) a w.drew)
(step:∀(D:Nat->Bool) a w i ds,(∀i ds,tab[i]?=some ds->D i=true->∀j∈ds,D j=true)->tab[i]?=some ds->(∀j∈ds,D j=true)->D i=false->I D a w->wpOpIn F n P ops Q i (I λj=>j==i || D j) a w)
(fin:∀(D:Nat->Bool) a w,(∀i,i<tab.length->D i=true)->I D a w->Q .normal a w):
 (Code.region id ops true).wpIn F n P Q a w:=by
 have r:tab.length=ops.size:=by rw[<-l];simp[Region.tabAfter]
 refine RX v (λb a w=>(∀i ds,tab[i]?=some ds->b.getD i false=true->∀j∈ds,b.getD j false=true)/\I (λj=>b.getD j false) a w) ⟨λi ds _ h=>?_,?_⟩ ?_ ?_
 . simp only[Array.getD,Cm]at h;split at h<;>simp at h
 . have e:(λj=>(Array.replicate ops.size false).getD j false)=λ_=>false:=by
    funext j;simp only[Array.getD,Cm];split<;>simp
   rw[e];exact start
 . rintro b a w i hs ⟨p,d⟩ f;obtain⟨o,ds,c,s⟩:=(mem_ready l).1 f;have m:i<b.size:=by
    rw[hs,<-r];rcases AF i tab.length with h|h
    . exact h
    . grind
   have u:b.getD i false=false:=by
    simp only[Array.getD,m,dif_pos]at o ⊢;exact o
   have e:∀j,(b.setIfInBounds i true).getD j false=(j==i || b.getD j false):=by
    intro j;rw[CG,CG,Array.getElem?_setIfInBounds];by_cases k:i=j
    . subst k;simp[m]
    . simp[k,Ne.symm k]
   refine wpOpIn_mono (λy N h=>⟨λM z A t j g=>?_,?_⟩) (step _ a w i ds p c s u d)
   . grind
   . rw[show(λj=>(b.setIfInBounds i true).getD j false)=λj=>(j==i || b.getD j false)from funext e];exact h
 . rintro b a w hs ⟨p,d⟩ K;refine fin _ a w (λi=>?_) d;induction i using Nat.strongRecOn with
   |_ i x=>
    intro f;cases t:b.getD i false with
    |true=>rfl
    |false=>
     exfalso
     have c:tab[i]?=some tab[i]:=Aq f
     have:i∈Region.ready .any ops b:=(mem_ready l).2 ⟨by
      grind,_,c,λj g=>x j (XI q c g) (by have:=XI q c g;omega)⟩
     grind
attribute [local go_sem] Oper.semAt_some
def NP(w:C)(a:Zu)(len c:Nat)(b:Zu)(lb d:Nat)(xs e:Ja)(k:Nat)(W:C):Prop:=
 (((Boxed W w.heap.size 34 (B b lb d)/\Boxed W (w.heap.size+1) 3 (.int I 0))/\Boxed W (w.heap.size+1+1) 34 (B a len c))/\Bl w W)/\xs.drop (len-k)=e.drop (len-k)
def NQ(w:C)(xs a:Ja)(c:Code)(_k:Nat)(W:C):Prop:=
 (Boxed W (w.heap.size+1) 3 (.int I (YG (val Y xs) (val Y a)))/\Bl w W)/\c=.ret
def RY(w:C)(a:Zu)(len c:Nat)(b:Zu)(lb d:Nat)(xs e:Ja):OwnFrom (w.heap.size+1+1+1) (NP w a len c b lb d xs e):=
 BO (BO (BO (BO (Bj (boxed_own _ _ λ_=>B b lb d) _) (Bj (boxed_own _ _ λ_=>G I 0) _)) (Bj (boxed_own _ _ λ_=>B a len c) _)) (Bs (Aa _) O)) (DG _ _)
def RZ(w:C)(xs a:Ja)(c:Code):OwnFrom (w.heap.size+1+1+1) (NQ w xs a c):=
 BO (BO (Bj (boxed_own _ _ λ_=>G I (YG (val Y xs) (val Y a))) _) (Bs (Aa _) O)) (DG _ _)
theorem Ra{c:Bool}(h:m≠n)(a:c=decide (n<m)):(if c then 1 else -1:Int)=YG m n:=by
 grind[XF,GR]
def Rb(a:Zu)(la j:Nat)(b:Zu)(lb c:Nat)(w:C)(m n:Nat)(l:la≠lb)(k:la<lb↔m<n)(g:m≠n):
 Calls E 114 #[B a la j,B b lb c] w λe i=>e=.returned (G I (YG m n))/\Bl w i:=by
 have o:(((la:Nat):Int) != (lb:Int))=true:=by rw[B0];omega
 have f:=Z (show(if decide ((lb:Int)<(la:Int))=true then 1 else -1:Int)=YG m n from Ra g DY);clear k g l;refine(BK (n:=3)).1 ?_;refine BW func114 J trivial ?_ J;simp only[ntmps114,Ak,Af,AL,Nat.reduceAdd,Nat.reduceSub,As,At,AG,Aw,Ah,Am];gi_wp2_with(refine⟨trivial,?_⟩;gi_at_call 119;refine((BK (n:=_)).2 (K7 _ _)).mono ?_;rintro e i ⟨rfl,rfl⟩)
 . have d:YG m n=1:=by rw[<-f.o,BL si]
   have q:=(BJ (w.alloc (H #[B b lb c] 34)) 3 (G I 1)).cell;simp only[A1]at q;refine⟨G I 1,by simp[results,results114,go_sem,q],by rw[d],?_⟩;exact(Ba w _).alloc DJ _
 . have d:YG m n=-1:=by rw[<-f.o,BH si]
   have q:=(BJ (w.alloc (H #[B b lb c] 34)) 3 (G I (-1))).cell;simp only[A1]at q;refine⟨G I (-1),by simp[results,results114,go_sem,q],by rw[d],?_⟩;exact(Ba w _).alloc DJ _
theorem Rc(a:Zu)(len f:Nat)(b:Zu)(g:Nat)(xs d:Ja)(w:C)(ha:Row F w (B a len f) xs)(hb:Row F w (B b len g) d)(xa:DK Y xs)(xb:DK Y d):
 Calls E 114 #[B a len f,B b len g] w λe U=>e=.returned (G I (YG (val Y xs) (val Y d)))/\Bl w U:=by
 obtain⟨hl,ak,ap,aj,z⟩:=Jq ha;obtain⟨ah,ai,aq,ay,ad⟩:=Jq hb;obtain⟨M,X,HC,Qe⟩:=Dn hl ah z ad;clear z ad hl ah ha hb;refine(BK (n:=3)).1 ?_;refine BW func114 J trivial ?_ J;simp only[ntmps114,Ak,Af,AL,Nat.reduceAdd,Nat.reduceSub,As,At,AG,Aw,Ah,Am];gi_wp2_with(refine⟨trivial,?_⟩;gi_at_call 147;refine(Hb Fence.wide _ trivial J _ _ _ _).mono ?_;rintro e U ⟨rfl,rfl⟩)
 obtain⟨W0,v⟩:=ex (((w.alloc (H #[B b len g] 34)).alloc (H #[G I 0] 3)).alloc (H #[B a len f] 34));have b0:=((BJ w 34 (B b len g)).alloc (H #[G I 0] 3)).alloc (H #[B a len f] 34);have P:=(BJ (w.alloc (H #[B b len g] 34)) 3 (G I 0)).alloc (H #[B a len f] 34);have R:=BJ ((w.alloc (H #[B b len g] 34)).alloc (H #[G I 0] 3)) 34 (B a len f);simp only[A1]at P R;have hN:W0.heap.size=w.heap.size+1+1+1:=by rw[<-v];simp
 have Qf:Bl w W0:=by rw[<-v];exact((Ba w _).alloc DJ _).alloc si _
 rw[v]at b0 P R ⊢;clear v;refine Xe J O (gf:=174) (lb:=#[.pointer (some ⟨w.heap.size+1+1,0,none⟩)]) J trivial (B7 func174 Zv J)
  (Ha Fence.wide _ trivial J O (w.heap.size+1+1) a len f (λj=>xs[j]?.getD 0) aj) (λ_=>rfl)
  (NP w a len f b len g xs d) (NQ w xs d) (by rw[hN];exact RY w a len f b len g xs d) (λc=>by rw[hN];exact RZ w xs d c)
  ⟨⟨⟨⟨b0,P⟩,R⟩,Qf⟩,by rw[CX,An (by rw[M.o];exact Aa _),An (by rw[X.o];exact Aa _)]⟩ ?rd
  (λk=>{ tmps:=#[B a len f,B b len g,L,.pointer (some ⟨w.heap.size,0,none⟩),.pointer (some ⟨w.heap.size+1,0,none⟩),G I ((len:Int)-1-k),G F (xs[len-1-k]?.getD 0:Nat),B a len f,G I (len:Nat),B b len g,G I (len:Nat),.bool false,L,L,L,L,L,L,B a len f,.func (.func 174) #[] #[.pointer (some ⟨w.heap.size+1+1,0,none⟩)],G I ((len:Int)-1-k),G F (xs[len-1-k]?.getD 0:Nat),L,L,L,L,L,L,L,L,L,L,L,L,L],defers:=[] }) ?assign ?body ?done ?stop
 case rd=>
  rintro k W ⟨⟨⟨_,c2⟩,i⟩,_⟩;refine⟨c2.cell,λhk=>?_⟩;obtain⟨u,A,ea,S,z⟩:=HC.o (len-1-k) O;exact⟨u,A,ea,(i.cell (p:=⟨u,A+(len-1-k),none⟩) S).trans z⟩
 case assign=>
  intro l k W K o;unfold XG;gi_wp2;exact o
 case body=>
  rintro l k W ⟨⟨⟨⟨c0,c1⟩,c2⟩,i⟩,r⟩ hk az;have d0:=c0.cell;have d1:=c1.cell;have f1:=c1.frozen;obtain⟨u,A,rfl,S,ae⟩:=Qe.o (len-1-k) O;have dy:=(i.cell (p:=⟨u,A+(len-1-k),none⟩) S).trans ae;clear ae;have e1:((len:Int)-1-k)=((len-1-k:Nat):Int):=O
  rw[e1];have hm:len-1-k<len:=O
  have es:len-1-k+1=len-k:=O
  have Qc:xs.drop (len-1-k+1)=d.drop (len-1-k+1):=by rw[es];exact r
  have Qb:=M.o.symm.trans X.o;have s:=Z λ(h:xs[len-1-k]?.getD 0=d[len-1-k]?.getD 0)=>Mm Qb (len-1-k) (by rw[<-M.o];exact hm) Qc h;have t:=Z (show xs[len-1-k]?.getD 0≠d[len-1-k]?.getD 0->YG (val Y xs) (val Y d)=YG (xs[len-1-k]?.getD 0) (d[len-1-k]?.getD 0)from λh=>by
   grind[XF,Ks,GR])
  have V:=Z (show len-(k+1)=len-1-k by omega);clear e1 es Qc r Qb;generalize xs[len-1-k]?.getD 0=x at s t ⊢;generalize d[len-1-k]?.getD 0=y at s t dy;generalize len-1-k=m at s hm V dy ⊢;have an:=ai;by_cases T:x=y
  . subst T;gi_wp2_with fail
    refine⟨KeepsFrom.refl _ _,⟨⟨⟨c0,c1⟩,c2⟩,i⟩,?_⟩;rw[V.o];exact s.o DJ
  . have bc:(((x:Nat):Int) != (y:Int))=true:=by rw[B0];omega
    have N:=Z T;clear T;gi_wp2_with(refine⟨trivial,?_⟩;gi_at_call 119;refine(Bc l ((BK (n:=_)).2 (K7 _ _))).mono ?_;rintro e U ⟨rfl,rfl⟩)
    . refine⟨(BN _ _ _).from _,⟨?_,i.setCell (p:=⟨w.heap.size+1,0,none⟩) DJ _⟩,J⟩;rw[t.o N.o,GR ‹y<x›];exact c1.set _
    . refine⟨(BN _ _ _).from _,⟨?_,i.setCell (p:=⟨w.heap.size+1,0,none⟩) DJ _⟩,J⟩;rw[t.o N.o,XF (by have:=N.o;omega)];exact c1.set _
 case done=>
  rintro D W hD ⟨⟨⟨⟨c0,c1⟩,c2⟩,i⟩,r⟩ o;have d1:=c1.cell;have f1:=c1.frozen;have HZ:=Z r;clear r;gi_wp2;have Qd:=(BN W ⟨w.heap.size+1,0,none⟩ (G I 0)).same D _ o J;refine⟨DJ,.inl ⟨_,_,J,BZ Qd,?_⟩⟩;have Q:=(c1.set (G I 0)).kept (BX _ D (.deferred none)) (λe=>by grind);have q:=Q.cell;have hv:YG (val Y xs) (val Y d)=0:=by
   have:=HZ.o;grind[Kr]
  refine⟨G I 0,by simp[results,results114,go_sem,q],by rw[hv],?_⟩;exact(i.setCell (p:=⟨w.heap.size+1,0,none⟩) DJ _).trans (DI (w:=w) (Aa _) _ D _ _ O Qd J J)
 case stop=>
  rintro D c k W hD hk ⟨⟨c1,i⟩,rfl⟩ o;have d1:=c1.cell;gi_wp2;refine⟨DJ,.inl ⟨_,_,J,BZ o,?_⟩⟩;have Q:=c1.kept (BX _ D (.deferred none)) (λe=>by grind);have q:=Q.cell;refine⟨G I (YG (val Y xs) (val Y d)),by simp[results,results114,go_sem,q],J,?_⟩;exact i.trans (DI (w:=w) (Aa _) _ D _ _ O o J J)
theorem LN(p q:Value)(xs c:Ja)(w:C)(o:Row F w p xs)(j:Row F w q c)(d:DK Y xs)(f:DK Y c)(k:EG xs)(l:EG c):
 Calls E 114 #[p,q] w λe r=>e=.returned (G I (YG (val Y xs) (val Y c)))/\Bl w r:=by
 obtain⟨a,m,rfl,s⟩:=id o;obtain⟨b,n,rfl,t⟩:=id j;have i:2<=Y:=by unfold Y;omega
 by_cases hl:xs.length=c.length
 . rw[<-hl]at j ⊢;exact Rc a xs.length m b n xs c w o j d f
 . refine Rb a _ m b _ n w _ _ hl ?_ ?_
   . constructor
     . exact λh=>Yk i d f k l h
     . intro h;grind[Nat.lt_or_gt_of_ne,Yk]
   . rcases Nat.lt_or_gt_of_ne hl with g|g
     . have:=Yk i d f k l g;omega
     . have:=Yk i f d l k g;omega
end
variable{a:Act}{ops:Array Oper}{Q:Exit->Act->C->Prop}{P:Program}{w:C}
def Re(n c:Nat)(w:C):Calls E 131 #[B none n c] w λe d=>e=.returned (B none 0 0)/\d=w:=by
 have f:∀(w:C) (a:Zu) (n c b c':Nat),(binOp .eql 34 (B a n c) (B none b c')).run E w=.ok (.bool a.isNone) w:=λw a n c b c'=>Lib.run_eql_slice_nil w _ _ a n c b c' underlying34;go_enter func131,ntmps131
 go_wp2;go_ret;exact⟨J,J⟩
theorem LO(p:Addr)(c:Nat)(xs:Ja)(w:C)(hl:xs.length<=1099511627776)(f:∀j,j<xs.length->w.cell? (p.add j)=some (G F (xs[j]?.getD 0:Nat))):
 Calls E 131 #[B (some p) xs.length c] w λe g=>∃b,e=.returned b/\g.ownsRow w.heap.size 163 1 b xs.length (cellsOf F xs)/\Bl w g:=by
 obtain⟨y,m,s,t,v⟩:=Bq Tryz.infoU64;have K:∀(w:C) (a:Zu) (n c d c':Nat),(binOp .eql 34 (B a n c) (B none d c')).run E w=.ok (.bool a.isNone) w:=λw a n c d c'=>Lib.run_eql_slice_nil w _ _ a n c d c' underlying34;have A:=Z f;clear f;go_enter func131,ntmps131
 go_wp2_with(at_builtin;refine BT _ J _ _ 34 J w.heap.size 163 y (G F 0) 1 8 underlying34 m s t v J DP _ _ _ J (World.ownsRow_made w #[] 0 (Aa _) (AJ _) J) p xs.length c (cellsOf F xs) J ?qc1 ?qc2 ?qc3 ?qc4 ?qc5 ?qc6 ?_)
 case qc1=>simp[cellsOf]
 case qc2=>
  intro j u z;have i:j<xs.length:=by
   grind[cellsOf]
  refine Lib.cell?_alloc_some _ ?_;rw[A.o j i];grind[cellsOf]
 case qc3=>intro u r;obtain⟨x,_,rfl⟩:=List.mem_map.1 r;rfl
 case qc4=>unfold maxLen;omega
 case qc5=>omega
 case qc6=>simp
 intro b M q l D;go_wp2;go_ret;refine⟨b,J,by simpa using q,?_⟩;exact(Ba w _).grown l DJ (by intro k o;simp[Value.ownBlock]at o;omega)
theorem Rf{c:Region.Mode}(I:Array Bool->Act->C->Prop)
(step:∀b a w i,b.size=ops.size->I b a w->i∈Region.ready c ops b->wpOp P ops Q i (I (b.setIfInBounds i true)) a w)
(fin:∀b a w,b.size=ops.size->I b a w->Region.ready c ops b=[]->Q .normal a w):
 ∀(d:Nat) (b:Array Bool) (a:Act) (w:C),b.size=ops.size->Xz b<=d->I b a w->wpAny P c ops Q d b a w:=by
 intro d;have k:∀ {b:Array Bool} {i:Nat},i∈Region.ready c ops b->i<ops.size/\b.getD i true=false:=by
  intro b i e;simp only[Region.ready,List.mem_filter,List.mem_range,AN,Cq]at e;exact⟨e.1,e.2.1⟩
 induction d with
 |zero=>
  intro b a w hs j f;have g:Region.ready c ops b=[]:=by
   cases m:Region.ready c ops b with
   |nil=>rfl
   |cons i l=>
    grind[Ct,XH]
  exact⟨g,fin _ _ _ hs f g⟩
 |succ d n=>
  intro b a w hs j f;refine⟨fin _ _ _ hs f,λi e=>?_⟩;grind[XH,wpOp_mono]
theorem wp_region_held{id:Nat}(c:P.follows .mixedOrders=true)(I:Array Bool->Act->C->Prop)
(start:I (Array.replicate ops.size false) a w.drew)
(step:∀b a w i,b.size=ops.size->I b a w->i∈Region.ready .any ops b->wpOp P ops Q i (I (b.setIfInBounds i true)) a w)
(fin:∀b a w,b.size=ops.size->I b a w->Region.ready .any ops b=[]->Q .normal a w):
 (Code.region id ops true).wp P Q a w:=
 wp_region_any c (Rf I step fin _ _ _ _ DJ (by grind[Xz]) start)
theorem JF{id:Nat}(u:P.follows .mixedOrders=true)
(tab:List Ja)(l:Region.tabAfter .any ops=tab)(p:XA tab=true)(I:(Nat->Bool)->Act->C->Prop)
(start:I (λ_=>false) a w.drew)
(step:∀(D:Nat->Bool) a w i ds,(∀i ds,tab[i]?=some ds->D i=true->∀j∈ds,D j=true)->tab[i]?=some ds->(∀j∈ds,D j=true)->D i=false->I D a w->wpOp P ops Q i (I λj=>j==i || D j) a w)
(fin:∀(D:Nat->Bool) a w,(∀i,i<tab.length->D i=true)->I D a w->Q .normal a w):
 (Code.region id ops true).wp P Q a w:=by
 have q:tab.length=ops.size:=by rw[<-l];simp[Region.tabAfter]
 refine wp_region_held u (λb a w=>(∀i ds,tab[i]?=some ds->b.getD i false=true->∀j∈ds,b.getD j false=true)/\I (λj=>b.getD j false) a w) ⟨λi ds _ h=>?_,?_⟩ ?_ ?_
 . simp only[Array.getD,Cm]at h;split at h<;>simp at h
 . have e:(λj=>(Array.replicate ops.size false).getD j false)=λ_=>false:=by
    funext j;simp only[Array.getD,Cm];split<;>simp
   rw[e];exact start
 . rintro b a w i hs ⟨o,d⟩ f;obtain⟨n,ds,c,r⟩:=(mem_ready l).1 f;have m:i<b.size:=by
    rw[hs,<-q];rcases AF i tab.length with h|h
    . exact h
    . grind
   have t:b.getD i false=false:=by
    simp only[Array.getD,m,dif_pos]at n ⊢;exact n
   have e:∀j,(b.setIfInBounds i true).getD j false=(j==i || b.getD j false):=by
    intro j;rw[CG,CG,Array.getElem?_setIfInBounds];by_cases k:i=j
    . subst k;simp[m]
    . simp[k,Ne.symm k]
   refine wpOp_mono (λx M h=>⟨λK y z s j g=>?_,?_⟩) (step _ a w i ds o c r t d)
   . grind
   . rw[show(λj=>(b.setIfInBounds i true).getD j false)=λj=>(j==i || b.getD j false)from funext e];exact h
 . rintro b a w hs ⟨o,d⟩ A;refine fin _ a w (λi=>?_) d;induction i using Nat.strongRecOn with
   |_ i v=>
    intro f;cases s:b.getD i false with
    |true=>rfl
    |false=>
     exfalso
     have c:tab[i]?=some tab[i]:=Aq f
     have:i∈Region.ready .any ops b:=(mem_ready l).2 ⟨by
      grind,_,c,λj g=>v j (XI p c g) (by have:=XI p c g;omega)⟩
     grind
def DN{T:List Ja}{D:Nat->Bool}(c:∀i ds,T[i]?=some ds->D i=true->∀j∈ds,D j=true){a k:Nat}{ds:Ja}(b:D k=false)(e:T[a]?=some ds:=by rfl)(d:k∈ds:=by simp):D a=false:=by
 cases h:D a with
 |false=>rfl
 |true=>rw[c a ds e h k d]at b;cases b
theorem NR(a:Zu)(la b:Nat)(c:Ja)(w:C)(t:Row F w (B a la b) c)(n:0<la):
 Calls E 131 #[B a la b] w λe d=>∃g f,e=.returned (B (some ⟨g,0,none⟩) la f)/\DO d g c/\w.heap.size<=g/\(la<=f/\f<=9223372036854775807)/\Bl w d:=by
 obtain⟨hl,x,A,z,s⟩:=Jq t;obtain⟨l,m,rfl,_,_⟩:=s 0 n;have i:=LO ⟨l,m,none⟩ b c w O (λj y=>by
  grind[X7])
 rw[<-hl]at i;refine i.mono ?_;rintro e d ⟨D,rfl,k,r⟩;rcases k.2 with⟨_,ev⟩|⟨g,cap,u,ev,o,v,p,q,_⟩
 . omega
 . subst ev;exact⟨_,cap,J,DO.owns k,o,⟨p,q⟩,r⟩
theorem NS(a:Zu)(la b:Nat)(d:Ja)(w:C)(l:Row F w (B a la b) d):
 Calls E 131 #[B a la b] w λe c=>∃m f,e=.returned (B m la f)/\Row F c (B m la f) d/\Bl w c:=by
 obtain⟨hl,y,A,t,z⟩:=Jq l;rcases AQ la with i|i
 . subst i;obtain rfl:d=[]:=Aj hl.symm;cases a with
   |none=>
    refine(Re 0 b w).mono ?_;rintro e c ⟨rfl,rfl⟩;exact⟨none,0,J,⟨none,0,J,Aa _,O,O,Ar J⟩,BB _ _⟩
   |some p=>
    refine(LO p b [] w DJ λj s=>by simp at s).mono ?_;rintro e c ⟨K,rfl,u,k⟩;rcases u.2 with⟨ev,_⟩|⟨g,cap,v,ev,_,_,x,q,_⟩
    . subst ev;exact⟨none,0,J,⟨none,0,J,Aa _,O,O,Ar J⟩,k⟩
    . subst ev;exact⟨_,cap,J,⟨_,cap,J,AJ _,q,DJ,Ar J⟩,k⟩
 . refine(NR a la b d w l i).mono ?_;rintro e c ⟨g,f,rfl,r,_,⟨n,o⟩,k⟩;have D:=r.row 0 la f O n o t;grind

