import Derived.Test.YteldjhhjnchdeaaGreatDoorT08
import Derived.Laws.CopyOwn
import Derived.Deep.OwnRows
set_option linter.all false
open Go.Value renaming slice->B,int->G
open Go renaming World->C,undef->L
open Go.Proofs.Tryz renaming prog->E
open Go.IntKind renaming u64->F,i64->I
open Go.Obj renaming cells->H
set_option maxRecDepth 99999
set_option maxHeartbeats 0
namespace Go.Proofs.YteldjhhjnchdeaaGreatDoor
open List renaming replicate->kT
open Proofs.Tryz
open Go.RowKit Go.Shelf
section
def Bk:=@Lib.run_eql_slice_nil
def Be:=@CallsIn.inRound
variable{p:Addr}{d:Array Bool}{ops:Array Oper}{Q:Exit->Act->C->Prop}{tab:List kQ}{bs ds q xs:kQ}{c i l len m n:Nat}{a:kR}{P:Program}{w:C}
def WE(n:Nat):madeCells #[G F 0] n=(cellsOf F (kT n 0)).toArray:=by
 apply Array.ext
 . simp[madeCells,cellsOf]
 . intro i a b;simp[madeCells,cellsOf,Nat.mod_one]
def I8(n:Nat)(h:n<=2199023255552)(w:C):(Instr.makeSlice 61 (G I (n:Int)) (G I (n:Int))).run E w=.ok (B (some ⟨w.heap.size,0,none⟩) n n) (w.alloc (H (cellsOf F (kT n 0)).toArray 156)):=by
 rw[<-WE];exact run_make_row' 61 156 (G F 0) 8 underlying61 Tryz.infoU64 J I I n O O w
def Lw(l:Nat)(h:l<=2199023255551)(w:C):(Instr.makeSlice 61 (G I ((l:Int)+1)) (G I ((l:Int)+1))).run E w=.ok (B (some ⟨w.heap.size,0,none⟩) (l+1) (l+1)) (w.alloc (H (cellsOf F (kT (l+1) 0)).toArray 156)):=
 I8 (l+1) O w
theorem Y6(b o j:Nat):(⟨b,o,none⟩:Addr).add j=⟨b,o+j,none⟩:=by simp[Addr.add]
theorem Xq(h:n<=m):(Jc Z n).length<=(Jc Z m).length:=by
 rcases AP (Jc Z m).length (Jc Z n).length with a|a
 . have:=YS Je a;omega
 . exact a
theorem WF{W:C}(h:Row F w (B a l c) ds)(f:Bl w W)(e:a=some p)(_h0:0<l)(j:Nat)(v:Value)(o:(cellsOf F ds)[j]?=some v):W.cell? (p.add j)=some v:=by
 obtain⟨hl,_,_,_,g⟩:=Js h;have n:j<ds.length:=by
  grind[cellsOf]
 obtain⟨b,m,d,k,i⟩:=g j O;rw[d]at e;cases e;rw[Y6];rw[(f.cell (p:=⟨b,m+j,none⟩) k),i];grind[cellsOf]
theorem IY(h:Row F w (B a l c) ds)(e:a=some p)(d:0<l):p.block<w.heap.size:=by
 obtain⟨b,i,f,g,_⟩:=(Js h).2.2.2.2 0 d;grind
def WG(h:Row F w (B a l c) ds)(e:0<l):∃p,a=some p:=by
 obtain⟨b,g,d,f,_⟩:=(Js h).2.2.2.2 0 e;exact⟨_,d⟩
theorem P9(h:Et xs bs 0 len c q)(i:xs=Jc Z m)(f:bs=Jc Z n)(hl:len=xs.length)(g:bs.length<=len)(l:n<=m):Jz q=Jc Z (m-n):=by
 obtain⟨a,b,j,d⟩:=h;rw[AQ,Ad (show xs.length<=len by omega),Ad g,i,f,Jp Je,Jp Je]at d;have e:=Yl b;rw[a]at e;have k:c=0:=by
  grind
 grind[J6,Je]
theorem Ns(g b i:Nat)(a:kR)(la ca:Nat)(xs:kQ)(w c:C)(l:Row F w (B a la ca) xs)(k:Bl w c)(hg:w.heap.size<=g)(o:c.heap[g]?=some (H (cellsOf F (kT b 0)).toArray 156 (0,0)))(hl:la<=b):
 ∃f,(Builtin.copy_ #[61,61] 3 #[B (some ⟨g,0,none⟩) b i,B a la ca]).run E c=.ok (G I (la:Nat)) f/\DP f g (xs++kT (b-la) 0)/\Bl w f:=by
 obtain⟨s,_⟩:=Js l;have m:(Tryz.prog.info? 156).map (·.size)=some 1:=by kernel_rfl
 have q:(cellsOf F xs)++(cellsOf F (kT b 0)).drop la=cellsOf F (xs++kT (b-la) 0):=by simp[cellsOf]
 by_cases r:la=0
 . subst r;refine⟨c,run_copy_none (P:=E) c 61 61 3 156 (some ⟨g,0,none⟩) a b i 0 ca underlying61 m (Nat.zero_min b),DP.made ?_,k⟩;grind
 . obtain⟨p,hp⟩:=WG l O;subst hp;have e:(cellsOf F xs).length=la:=by simp[cellsOf,s]
   have n:=run_copy_row (P:=E) c 61 61 3 156 g 0 b i p la ca _ 156 (cellsOf F xs) underlying61 m o (by rw[e];exact(CQ hl).symm) (λj v d=>WF l k J O j v d) (by rw[e];simp[cellsOf];exact hl) (λv d=>by
    rw[cellsOf,List.mem_map]at d;obtain⟨_,_,rfl⟩:=d;rfl)
   rw[e,FK,Aj,Ct,q]at n;exact⟨_,n,DP.made (setRow_heap c g _ _ _ _ o),below_setRow k hg _⟩
theorem Nt(a:kR)(la ca:Nat)(b:kR)(lb cb m n:Nat)(w:C)(j:Row F w (B a la ca) (Jc Z m))(k:Row F w (B b lb cb) (Jc Z n))(h:n<=m):
 Calls E 143 #[B a la ca,B b lb cb] w λe y=>∃u,e=.returned u/\UN y u (m-n)/\Bl w y:=by
 obtain⟨hl,ah,X,U,S⟩:=Js j;obtain⟨x,ai,ad,aj,T⟩:=Js k;have K:lb<=la:=by rw[hl,x];exact Xq h
 have f:=Y hl;have i:=Y k;have M:=I8 la O w;obtain⟨d,g⟩:∃d,d=w.alloc (H (cellsOf F (kT la 0)).toArray 156):=⟨_,J⟩;have o:Bl w d:=by rw[g];exact Ba w _
 have r:d.heap[w.heap.size]?=some (H (cellsOf F (kT la 0)).toArray 156 (0,0)):=by rw[g];exact BC w _
 rw[<-g]at M;obtain⟨w2,ae,hA2,t⟩:=Ns w.heap.size la la a la ca (Jc Z m) w d j o (Aa _) r (Aa _);rw[A7,List.replicate_zero,Cj]at hA2;have W:=hA2.lt;clear S hl T x j k g o r;go_enter func143,ntmps143
 go_wp2_with(go_at_call 165;refine(P8 w.heap.size 0 la la (Jc Z m) b lb cb (Jc Z n) _ hA2 (Jo Je m) (by rw[Ct,<-f.o];exact Aa _) (Aa _) O K (Row.below i.o t) (Jo Je n) λp e P=>by have:=IY i.o e P;omega).mono ?_)
 rintro e V ⟨c,q,rfl,hq,hA3,v⟩;have D:=hq.1;have A:Row F V (B (some ⟨w.heap.size,0,none⟩) la la) q:=by
  have Q:=hA3.row 0 la la (by rw[J5 D (by rw[<-f.o];omega),<-f.o];omega) (Aa _) O U;have N:((DY (Jc Z m) 0 la q).drop 0).take la=q:=by
   grind[DY]
  rwa[N]at Q
 have z:=Y (P9 hq J J f.o (by have:=Js i.o;omega) h);have s:=below_grown t v (Aa _);clear hq hA3 v;go_wp2_with(go_at_call 128;refine(Y1 _ q _ A).mono ?_)
 rintro e w4 ⟨u,rfl,l,R⟩;rw[z.o]at l;obtain⟨ua,uc,rfl⟩:=UN.form l;go_wp2;go_ret;exact⟨_,J,l,s.trans (R.mono s.size)⟩
theorem QA(h:FV (xs++[0]) bs 0 len c q)(i:xs=Jc Z m)(g:bs=Jc Z n)(hl:len=xs.length+1)(o:bs.length<=xs.length):Jz q=Jc Z (m+n):=by
 obtain⟨j,b,k,a⟩:=h;have p:m<Z^xs.length:=by
  grind[Yl,Jo,Je,Jp]
 have r:n<Z^xs.length:=by
  have:=Yl (Jo Je n);grind[Jp,Ap,Ag,Z]
 rw[AQ,Ad (show(xs++[0]).length<=len by simp;omega),Ad (show bs.length<=len by omega),YA,Cr,Cb,g,Jp Je]at a;have e:val Z xs=m:=by rw[i,Jp Je]
 rw[e]at a;have f:Z^len=Z^xs.length*Z:=by rw[hl,Cc]
 have l:Z^xs.length*2<=Z^len:=by rw[f];exact Ai _ Je
 have d:c=0:=by
  grind
 subst d;rw[<-J6 Je b];congr 1
theorem QB(a:kR)(la ca:Nat)(b:kR)(lb cb m n:Nat)(w:C)(j:Row F w (B a la ca) (Jc Z m))(k:Row F w (B b lb cb) (Jc Z n))(an:la<1099511627776)(ap:lb<1099511627776):
 Calls E 142 #[B a la ca,B b lb cb] w λe W=>∃u,e=.returned u/\UN W u (m+n)/\Bl w W:=by
 by_cases aq:la<lb
 . obtain⟨hl,ai,ad,ak,T⟩:=Js k;obtain⟨y,aj,ae,am,U⟩:=Js j;obtain⟨l,o,K⟩:=Dc hl j y;have N:=Lw lb O w;obtain⟨d,f⟩:∃d,d=w.alloc (H (cellsOf F (kT (lb+1) 0)).toArray 156):=⟨_,J⟩;have r:Bl w d:=by rw[f];exact Ba w _
   have s:d.heap[w.heap.size]?=some (H (cellsOf F (kT (lb+1) 0)).toArray 156 (0,0)):=by rw[f];exact BC w _
   rw[<-f]at N;obtain⟨w2,ah,hA2,v⟩:=Ns w.heap.size (lb+1) (lb+1) b lb cb (Jc Z n) w d k r (Aa _) s O;rw[show lb+1-lb=1 from by omega,List.replicate_one]at hA2;have X:=hA2.lt;have z:=Y (show DM Z (Jc Z n++[0])from(Jo Je n).append (DM.cons uo (DM.nil _)));have g:=Y (show(Jc Z n++[0]).length=lb+1 by grind);clear T hl U y j k f r s;go_enter func142,ntmps142
   go_wp2_with(go_at_call 164;refine(Nr w.heap.size 0 (lb+1) (lb+1) (Jc Z n++[0]) a la ca (Jc Z m) _ hA2 z.o (by rw[Ct,g.o];exact Aa _) (Aa _) O O (Row.below o.o v) (Jo Je m) λp e Q=>by have:=IY o.o e Q;omega).mono ?_)
   rintro e V ⟨c,q,rfl,hq,hA3,x⟩;have M:=hq.1;have D:Row F V (B (some ⟨w.heap.size,0,none⟩) (lb+1) (lb+1)) q:=by
    have R:=hA3.row 0 (lb+1) (lb+1) (by rw[J5 M (by rw[g.o];omega),g.o];omega) (Aa _) O O;have P:((DY (Jc Z n++[0]) 0 (lb+1) q).drop 0).take (lb+1)=q:=by
     grind[DY]
    rwa[P]at R
   have A:=Y (QA hq J J (by rw[<-l.o]) (by rw[<-l.o,<-K.o];omega));have t:=below_grown v x (Aa _);clear hq hA3 x;go_wp2_with(go_at_call 128;refine(Y1 _ q _ D).mono ?_)
   rintro e w4 ⟨u,rfl,i,S⟩;rw[A.o]at i;obtain⟨ua,uc,rfl⟩:=UN.form i;go_wp2;go_ret;exact⟨_,J,by rw[Fi m n];exact i,t.trans (S.mono t.size)⟩
 . obtain⟨hl,ai,ad,ak,T⟩:=Js j;obtain⟨y,aj,ae,am,U⟩:=Js k;obtain⟨l,o,K⟩:=Dc hl k y;have N:=Lw la O w;obtain⟨d,f⟩:∃d,d=w.alloc (H (cellsOf F (kT (la+1) 0)).toArray 156):=⟨_,J⟩;have r:Bl w d:=by rw[f];exact Ba w _
   have s:d.heap[w.heap.size]?=some (H (cellsOf F (kT (la+1) 0)).toArray 156 (0,0)):=by rw[f];exact BC w _
   rw[<-f]at N;obtain⟨w2,ah,hA2,v⟩:=Ns w.heap.size (la+1) (la+1) a la ca (Jc Z m) w d j r (Aa _) s O;rw[show la+1-la=1 from by omega,List.replicate_one]at hA2;have X:=hA2.lt;have z:=Y (show DM Z (Jc Z m++[0])from(Jo Je m).append (DM.cons uo (DM.nil _)));have g:=Y (show(Jc Z m++[0]).length=la+1 by grind);clear T hl U y j k f r s;go_enter func142,ntmps142
   go_wp2_with(go_at_call 164;refine(Nr w.heap.size 0 (la+1) (la+1) (Jc Z m++[0]) b lb cb (Jc Z n) _ hA2 z.o (by rw[Ct,g.o];exact Aa _) (Aa _) O O (Row.below o.o v) (Jo Je n) λp e Q=>by have:=IY o.o e Q;omega).mono ?_)
   rintro e V ⟨c,q,rfl,hq,hA3,x⟩;have M:=hq.1;have D:Row F V (B (some ⟨w.heap.size,0,none⟩) (la+1) (la+1)) q:=by
    have R:=hA3.row 0 (la+1) (la+1) (by rw[J5 M (by rw[g.o];omega),g.o];omega) (Aa _) O O;have P:((DY (Jc Z m++[0]) 0 (la+1) q).drop 0).take (la+1)=q:=by
     grind[DY]
    rwa[P]at R
   have A:=Y (QA hq J J (by rw[<-l.o]) (by rw[<-l.o,<-K.o];omega));have t:=below_grown v x (Aa _);clear hq hA3 x;go_wp2_with(go_at_call 128;refine(Y1 _ q _ D).mono ?_)
   rintro e w4 ⟨u,rfl,i,S⟩;rw[A.o]at i;obtain⟨ua,uc,rfl⟩:=UN.form i;go_wp2;go_ret;exact⟨_,J,i,t.trans (S.mono t.size)⟩
def IZ(a:Array Bool):Nat:=a.toList.countP λb=>!b
theorem Lx(a:i<d.size)(h:d.getD i true=false):IZ (d.setIfInBounds i true)+1=IZ d:=by
 grind[Array.getInternal_eq_getElem,IZ]
theorem WH{F:Fence}{c:Region.Mode}(I:Array Bool->Act->C->Prop)
(step:∀b a w i,b.size=ops.size->I b a w->i∈Region.ready c ops b->wpOpIn F n P ops Q i (I (b.setIfInBounds i true)) a w)
(fin:∀b a w,b.size=ops.size->I b a w->Region.ready c ops b=[]->Q .normal a w):
 ∀(d:Nat) (b:Array Bool) (a:Act) (w:C),b.size=ops.size->IZ b<=d->I b a w->wpAnyIn F n P c ops Q d b a w:=by
 intro d;have k:∀ {b:Array Bool} {i:Nat},i∈Region.ready c ops b->i<ops.size/\b.getD i true=false:=by
  intro b i e;simp only[Region.ready,List.mem_filter,List.mem_range,AX,CF]at e;exact⟨e.1,e.2.1⟩
 induction d with
 |zero=>
  intro b a w hs j f;have g:Region.ready c ops b=[]:=by
   cases m:Region.ready c ops b with
   |nil=>rfl
   |cons i l=>
    grind[CI,Lx]
  exact⟨g,fin _ _ _ hs f g⟩
 |succ d o=>
  intro b a w hs j f;refine⟨fin _ _ _ hs f,λi e=>?_⟩;grind[Lx,wpOpIn_mono]
def Di:Tryz.prog.follows .mixedOrders=true:=by kernel_rfl
theorem WI{F:Fence}{id:Nat}{a:Act}(c:P.follows .mixedOrders=true)(I:Array Bool->Act->C->Prop)
(start:I (Array.replicate ops.size false) a w.drew)
(step:∀b a w i,b.size=ops.size->I b a w->i∈Region.ready .any ops b->wpOpIn F n P ops Q i (I (b.setIfInBounds i true)) a w)
(fin:∀b a w,b.size=ops.size->I b a w->Region.ready .any ops b=[]->Q .normal a w):
 (Code.region id ops true).wpIn F n P Q a w:=
 wpIn_region_any c (WH I step fin _ _ _ _ DK (by grind[IZ]) start)
def I9(tab:List kQ):Bool:=tab.zipIdx.all λp=>p.1.all (·<p.2)
def Ly(h:I9 tab=true)(a:tab[i]?=some ds){j:Nat}(b:j∈ds):j<i:=by
 simp only[I9,AG,BZ]at h;exact h (ds,i) (List.mk_mem_zipIdx_iff_getElem?.2 a) j b
theorem mem_ready{c:Region.Mode}(f:Region.tabAfter c ops=tab):
 i∈Region.ready c ops d↔d.getD i true=false/\∃ds,tab[i]?=some ds/\∀j∈ds,d.getD j false=true:=by
 subst f;simp only[Region.ready,List.mem_filter,List.mem_range,AX,CF,Region.tabAfter,Fu,Fp];constructor
 . rintro⟨e,b,a⟩;rw[Array.getElem?_eq_getElem e]at a ⊢;simp only[Option.map_some,Option.getD_some,Array.all_eq_true',Bool.or_eq_true,CF]at a;refine⟨b,_,J,λj k=>?_⟩;grind
 . rintro⟨b,ds,g,a⟩;grind
theorem XH{F:Fence}{id:Nat}{a:Act}(v:P.follows .mixedOrders=true)
(tab:List kQ)(l:Region.tabAfter .any ops=tab)(q:I9 tab=true)(I:(Nat->Bool)->Act->C->Prop)
(start:I (λ_=>false) a w.drew)
(step:∀(D:Nat->Bool) a w i ds,(∀i ds,tab[i]?=some ds->D i=true->∀j∈ds,D j=true)->tab[i]?=some ds->(∀j∈ds,D j=true)->D i=false->I D a w->wpOpIn F n P ops Q i (I λj=>j==i || D j) a w)
(fin:∀(D:Nat->Bool) a w,(∀i,i<tab.length->D i=true)->I D a w->Q .normal a w):
 (Code.region id ops true).wpIn F n P Q a w:=by
 have r:tab.length=ops.size:=by rw[<-l];simp[Region.tabAfter]
 refine WI v (λb a w=>(∀i ds,tab[i]?=some ds->b.getD i false=true->∀j∈ds,b.getD j false=true)/\I (λj=>b.getD j false) a w) ⟨λi ds _ h=>?_,?_⟩ ?_ ?_
 . simp only[Array.getD,Cx]at h;split at h<;>simp at h
 . have e:(λj=>(Array.replicate ops.size false).getD j false)=λ_=>false:=by
    funext j;simp only[Array.getD,Cx];split<;>simp
   rw[e];exact start
 . rintro b a w i hs ⟨p,d⟩ f;obtain⟨o,ds,c,s⟩:=(mem_ready l).1 f;have m:i<b.size:=by
    rw[hs,<-r];rcases AP i tab.length with h|h
    . exact h
    . grind
   have u:b.getD i false=false:=by
    simp only[Array.getD,m,dif_pos]at o ⊢;exact o
   have e:∀j,(b.setIfInBounds i true).getD j false=(j==i || b.getD j false):=by
    intro j;rw[C5,C5,Array.getElem?_setIfInBounds];by_cases k:i=j
    . subst k;simp[m]
    . simp[k,Ne.symm k]
   refine wpOpIn_mono (λa' M h=>⟨λK y z t j g=>?_,?_⟩) (step _ a w i ds p c s u d)
   . grind
   . rw[show(λj=>(b.setIfInBounds i true).getD j false)=λj=>(j==i || b.getD j false)from funext e];exact h
 . rintro b a w hs ⟨p,d⟩ A;refine fin _ a w (λi=>?_) d;induction i using Nat.strongRecOn with
   |_ i x=>
    intro f;cases t:b.getD i false with
    |true=>rfl
    |false=>
     exfalso
     have c:tab[i]?=some tab[i]:=Aq f
     have:i∈Region.ready .any ops b:=(mem_ready l).2 ⟨by
      grind,_,c,λj g=>x j (Ly q c g) (by have:=Ly q c g;omega)⟩
     grind
attribute [local go_sem] Oper.semAt_some
def QC(w:C)(a:kR)(len ca:Nat)(b:kR)(lb cb:Nat)(xs c:kQ)(k:Nat)(W:C):Prop:=
 (((Boxed W w.heap.size 61 (B b lb cb)/\Boxed W (w.heap.size+1) 3 (.int I 0))/\Boxed W (w.heap.size+1+1) 61 (B a len ca))/\Bl w W)/\xs.drop (len-k)=c.drop (len-k)
def QD(w:C)(xs a:kQ)(c:Code)(_k:Nat)(W:C):Prop:=
 (Boxed W (w.heap.size+1) 3 (.int I (Xf (val Z xs) (val Z a)))/\Bl w W)/\c=.ret
def WJ(w:C)(a:kR)(len ca:Nat)(b:kR)(lb cb:Nat)(xs c:kQ):OwnFrom (w.heap.size+1+1+1) (QC w a len ca b lb cb xs c):=
 BN (BN (BN (BN (Bi (boxed_own _ _ λ_=>B b lb cb) _) (Bi (boxed_own _ _ λ_=>G I 0) _)) (Bi (boxed_own _ _ λ_=>B a len ca) _)) (Bu (Aa _) O)) (DH _ _)
def WK(w:C)(xs a:kQ)(c:Code):OwnFrom (w.heap.size+1+1+1) (QD w xs a c):=
 BN (BN (Bi (boxed_own _ _ λ_=>G I (Xf (val Z xs) (val Z a))) _) (Bu (Aa _) O)) (DH _ _)
theorem WL{c:Bool}(h:m≠n)(a:c=decide (n<m)):(if c then 1 else -1:Int)=Xf m n:=by
 grind[Gc,Iz]
def WM(a:kR)(la ca:Nat)(b:kR)(lb cb:Nat)(w:C)(m n:Nat)(j:la≠lb)(i:la<lb↔m<n)(f:m≠n):
 Calls E 132 #[B a la ca,B b lb cb] w λe g=>e=.returned (G I (Xf m n))/\Bl w g:=by
 have k:(((la:Nat):Int) != (lb:Int))=true:=by rw[B7];omega
 have d:=Y (show(if decide ((lb:Int)<(la:Int))=true then 1 else -1:Int)=Xf m n from WL f DX);clear i f j;refine(BJ (n:=3)).1 ?_;refine BU func132 J trivial ?_ J;simp only[ntmps132,An,Ak,AK,Nat.reduceAdd,Nat.reduceSub,Ay,Az,AJ,AA,Aj,Au];gi_wp2_with(refine⟨trivial,?_⟩;gi_at_call 131;refine((BJ (n:=_)).2 (Na _ _)).mono ?_;rintro e g ⟨rfl,rfl⟩)
 . have c:Xf m n=1:=by rw[<-d.o,BL si]
   have q:=(BK (w.alloc (H #[B b lb cb] 61)) 3 (G I 1)).cell;simp only[A1]at q;refine⟨G I 1,by simp[results,results132,go_sem,q],by rw[c],?_⟩;exact(Ba w _).alloc DK _
 . have c:Xf m n=-1:=by rw[<-d.o,BH si]
   have q:=(BK (w.alloc (H #[B b lb cb] 61)) 3 (G I (-1))).cell;simp only[A1]at q;refine⟨G I (-1),by simp[results,results132,go_sem,q],by rw[c],?_⟩;exact(Ba w _).alloc DK _
theorem WN(a:kR)(len ca:Nat)(b:kR)(cb:Nat)(xs d:kQ)(w:C)(ha:Row F w (B a len ca) xs)(hb:Row F w (B b len cb) d)(xa:DM Z xs)(xb:DM Z d):
 Calls E 132 #[B a len ca,B b len cb] w λe S=>e=.returned (G I (Xf (val Z xs) (val Z d)))/\Bl w S:=by
 obtain⟨hl,ak,an,aj,u⟩:=Js ha;obtain⟨ah,ai,ap,aq,ad⟩:=Js hb;obtain⟨z,U,HC,Qe⟩:=Do hl ah u ad;clear u ad hl ah ha hb;refine(BJ (n:=3)).1 ?_;refine BU func132 J trivial ?_ J;simp only[ntmps132,An,Ak,AK,Nat.reduceAdd,Nat.reduceSub,Ay,Az,AJ,AA,Aj,Au];gi_wp2_with(refine⟨trivial,?_⟩;gi_at_call 152;refine(Kd Fence.wide _ trivial J _ _ _ _).mono ?_;rintro e S ⟨rfl,rfl⟩)
 obtain⟨W0,t⟩:=ex (((w.alloc (H #[B b len cb] 61)).alloc (H #[G I 0] 3)).alloc (H #[B a len ca] 61));have b0:=((BK w 61 (B b len cb)).alloc (H #[G I 0] 3)).alloc (H #[B a len ca] 61);have M:=(BK (w.alloc (H #[B b len cb] 61)) 3 (G I 0)).alloc (H #[B a len ca] 61);have P:=BK ((w.alloc (H #[B b len cb] 61)).alloc (H #[G I 0] 3)) 61 (B a len ca);simp only[A1]at M P;have hN:W0.heap.size=w.heap.size+1+1+1:=by rw[<-t];simp
 have Qf:Bl w W0:=by rw[<-t];exact((Ba w _).alloc DK _).alloc si _
 rw[t]at b0 M P ⊢;clear t;refine Xp J O (gf:=174) (lb:=#[.pointer (some ⟨w.heap.size+1+1,0,none⟩)]) J trivial (DB func174 kS J)
  (Kc Fence.wide _ trivial J O (w.heap.size+1+1) a len ca (λj=>xs[j]?.getD 0) aj) (λ_=>rfl)
  (QC w a len ca b len cb xs d) (QD w xs d) (by rw[hN];exact WJ w a len ca b len cb xs d) (λc=>by rw[hN];exact WK w xs d c)
  ⟨⟨⟨⟨b0,M⟩,P⟩,Qf⟩,by rw[Fj,AN (by rw[z.o];exact Aa _),AN (by rw[U.o];exact Aa _)]⟩ ?rd
  (λk=>{ tmps:=#[B a len ca,B b len cb,L,.pointer (some ⟨w.heap.size,0,none⟩),.pointer (some ⟨w.heap.size+1,0,none⟩),G I ((len:Int)-1-k),G F (xs[len-1-k]?.getD 0:Nat),B a len ca,G I (len:Nat),B b len cb,G I (len:Nat),.bool false,L,L,L,L,L,L,B a len ca,.func (.func 174) #[] #[.pointer (some ⟨w.heap.size+1+1,0,none⟩)],G I ((len:Int)-1-k),G F (xs[len-1-k]?.getD 0:Nat),L,L,L,L,L,L,L,L,L,L,L,L,L],defers:=[] }) ?assign ?body ?done ?stop
 case rd=>
  rintro k W ⟨⟨⟨_,c2⟩,f⟩,_⟩;refine⟨c2.cell,λhk=>?_⟩;obtain⟨s,v,ea,Q,u⟩:=HC.o (len-1-k) O;exact⟨s,v,ea,(f.cell (p:=⟨s,v+(len-1-k),none⟩) Q).trans u⟩
 case assign=>
  intro l k W K g;unfold Ge;gi_wp2;exact g
 case body=>
  rintro l k W ⟨⟨⟨⟨c0,c1⟩,c2⟩,f⟩,i⟩ hk ay;have d0:=c0.cell;have d1:=c1.cell;have f1:=c1.frozen;obtain⟨s,v,rfl,Q,ae⟩:=Qe.o (len-1-k) O;have dy:=(f.cell (p:=⟨s,v+(len-1-k),none⟩) Q).trans ae;clear ae;have e1:((len:Int)-1-k)=((len-1-k:Nat):Int):=O
  rw[e1];have hm:len-1-k<len:=O
  have es:len-1-k+1=len-k:=O
  have X:xs.drop (len-1-k+1)=d.drop (len-1-k+1):=by rw[es];exact i
  have V:=z.o.symm.trans U.o;have o:=Y λ(h:xs[len-1-k]?.getD 0=d[len-1-k]?.getD 0)=>Pg V (len-1-k) (by rw[<-z.o];exact hm) X h;have r:=Y (show xs[len-1-k]?.getD 0≠d[len-1-k]?.getD 0->Xf (val Z xs) (val Z d)=Xf (xs[len-1-k]?.getD 0) (d[len-1-k]?.getD 0)from λh=>by
   grind[Gc,ND,Iz])
  have T:=Y (show len-(k+1)=len-1-k by omega);clear e1 es X i V;generalize xs[len-1-k]?.getD 0=x at o r ⊢;generalize d[len-1-k]?.getD 0=y at o r dy;generalize len-1-k=m at o hm T dy ⊢;have am:=ai;by_cases R:x=y
  . subst R;gi_wp2_with fail
    refine⟨KeepsFrom.refl _ _,⟨⟨⟨c0,c1⟩,c2⟩,f⟩,?_⟩;rw[T.o];exact o.o DK
  . have az:(((x:Nat):Int) != (y:Int))=true:=by rw[B7];omega
    have A:=Y R;clear R;gi_wp2_with(refine⟨trivial,?_⟩;gi_at_call 131;refine(Be l ((BJ (n:=_)).2 (Na _ _))).mono ?_;rintro e S ⟨rfl,rfl⟩)
    . refine⟨(BM _ _ _).from _,⟨?_,f.setCell (p:=⟨w.heap.size+1,0,none⟩) DK _⟩,J⟩;rw[r.o A.o,Iz ‹y<x›];exact c1.set _
    . refine⟨(BM _ _ _).from _,⟨?_,f.setCell (p:=⟨w.heap.size+1,0,none⟩) DK _⟩,J⟩;rw[r.o A.o,Gc (by have:=A.o;omega)];exact c1.set _
 case done=>
  rintro D W hD ⟨⟨⟨⟨c0,c1⟩,c2⟩,f⟩,i⟩ g;have d1:=c1.cell;have f1:=c1.frozen;have HZ:=Y i;clear i;gi_wp2;have Qd:=(BM W ⟨w.heap.size+1,0,none⟩ (G I 0)).same D _ g J;refine⟨DK,.inl ⟨_,_,J,BX Qd,?_⟩⟩;have N:=(c1.set (G I 0)).kept (BV _ D (.deferred none)) (λe=>by grind);have q:=N.cell;have hv:Xf (val Z xs) (val Z d)=0:=by
   have:=HZ.o;grind[NC]
  refine⟨G I 0,by simp[results,results132,go_sem,q],by rw[hv],?_⟩;exact(f.setCell (p:=⟨w.heap.size+1,0,none⟩) DK _).trans (DJ (w:=w) (Aa _) _ D _ _ O Qd J J)
 case stop=>
  rintro D c k W hD hk ⟨⟨c1,f⟩,rfl⟩ g;have d1:=c1.cell;gi_wp2;refine⟨DK,.inl ⟨_,_,J,BX g,?_⟩⟩;have N:=c1.kept (BV _ D (.deferred none)) (λe=>by grind);have q:=N.cell;refine⟨G I (Xf (val Z xs) (val Z d)),by simp[results,results132,go_sem,q],J,?_⟩;exact f.trans (DJ (w:=w) (Aa _) _ D _ _ O g J J)
theorem Nu(l m:Value)(xs c:kQ)(w:C)(k:Row F w l xs)(j:Row F w m c)(d:DM Z xs)(f:DM Z c)(ta:Ec xs)(tb:Ec c):
 Calls E 132 #[l,m] w λe n=>e=.returned (G I (Xf (val Z xs) (val Z c)))/\Bl w n:=by
 obtain⟨a,ca,rfl,o⟩:=id k;obtain⟨b,cb,rfl,p⟩:=id j;have i:2<=Z:=by unfold Z;omega
 by_cases hl:xs.length=c.length
 . rw[<-hl]at j ⊢;exact WN a xs.length ca b cb xs c w k j d f
 . refine WM a _ ca b _ cb w _ _ hl ?_ ?_
   . constructor
     . exact λh=>YI i d f ta tb h
     . intro h;grind[Nat.lt_or_gt_of_ne,YI]
   . rcases Nat.lt_or_gt_of_ne hl with g|g
     . have:=YI i d f ta tb g;omega
     . have:=YI i f d tb ta g;omega
end
variable{a:Act}{ops:Array Oper}{Q:Exit->Act->C->Prop}{P:Program}{w:C}
def WO(n c:Nat)(w:C):Calls E 147 #[B none n c] w λe d=>e=.returned (B none 0 0)/\d=w:=by
 have f:∀(w:C) (a:kR) (n c b c':Nat),(binOp .eql 61 (B a n c) (B none b c')).run E w=.ok (.bool a.isNone) w:=λw a n c b c'=>Bk w _ _ a n c b c' underlying61;go_enter func147,ntmps147
 go_wp2;go_ret;exact⟨J,J⟩
theorem Nv(p:Addr)(c:Nat)(xs:kQ)(w:C)(hl:xs.length<=1099511627776)(f:∀j,j<xs.length->w.cell? (p.add j)=some (G F (xs[j]?.getD 0:Nat))):
 Calls E 147 #[B (some p) xs.length c] w λe g=>∃b,e=.returned b/\g.ownsRow w.heap.size 156 1 b xs.length (cellsOf F xs)/\Bl w g:=by
 obtain⟨y,m,s,t,v⟩:=Bn Tryz.infoU64;have K:∀(w:C) (a:kR) (n c d c':Nat),(binOp .eql 61 (B a n c) (B none d c')).run E w=.ok (.bool a.isNone) w:=λw a n c d c'=>Bk w _ _ a n c d c' underlying61;have A:=Y f;clear f;go_enter func147,ntmps147
 go_wp2_with(at_builtin;refine BW _ J _ _ 61 J w.heap.size 156 y (G F 0) 1 8 underlying61 m s t v J DN _ _ _ J (World.ownsRow_made w #[] 0 (Aa _) (As _) J) p xs.length c (cellsOf F xs) J ?qc1 ?qc2 ?qc3 ?qc4 ?qc5 ?qc6 ?_)
 case qc1=>simp[cellsOf]
 case qc2=>
  intro j u z;have i:j<xs.length:=by
   grind[cellsOf]
  refine Lib.cell?_alloc_some _ ?_;rw[A.o j i];grind[cellsOf]
 case qc3=>intro u r;obtain⟨x,_,rfl⟩:=List.mem_map.1 r;rfl
 case qc4=>unfold maxLen;omega
 case qc5=>omega
 case qc6=>simp
 intro b M q l D;go_wp2;go_ret;refine⟨b,J,by simpa using q,?_⟩;exact(Ba w _).grown l DK (by intro k o;simp[Value.ownBlock]at o;omega)
theorem WP{c:Region.Mode}(I:Array Bool->Act->C->Prop)
(step:∀b a w i,b.size=ops.size->I b a w->i∈Region.ready c ops b->wpOp P ops Q i (I (b.setIfInBounds i true)) a w)
(fin:∀b a w,b.size=ops.size->I b a w->Region.ready c ops b=[]->Q .normal a w):
 ∀(d:Nat) (b:Array Bool) (a:Act) (w:C),b.size=ops.size->IZ b<=d->I b a w->wpAny P c ops Q d b a w:=by
 intro d;have k:∀ {b:Array Bool} {i:Nat},i∈Region.ready c ops b->i<ops.size/\b.getD i true=false:=by
  intro b i e;simp only[Region.ready,List.mem_filter,List.mem_range,AX,CF]at e;exact⟨e.1,e.2.1⟩
 induction d with
 |zero=>
  intro b a w hs j f;have g:Region.ready c ops b=[]:=by
   cases m:Region.ready c ops b with
   |nil=>rfl
   |cons i l=>
    grind[CI,Lx]
  exact⟨g,fin _ _ _ hs f g⟩
 |succ d n=>
  intro b a w hs j f;refine⟨fin _ _ _ hs f,λi e=>?_⟩;grind[Lx,wpOp_mono]
theorem wp_region_held{id:Nat}(c:P.follows .mixedOrders=true)(I:Array Bool->Act->C->Prop)
(start:I (Array.replicate ops.size false) a w.drew)
(step:∀b a w i,b.size=ops.size->I b a w->i∈Region.ready .any ops b->wpOp P ops Q i (I (b.setIfInBounds i true)) a w)
(fin:∀b a w,b.size=ops.size->I b a w->Region.ready .any ops b=[]->Q .normal a w):
 (Code.region id ops true).wp P Q a w:=
 wp_region_any c (WP I step fin _ _ _ _ DK (by grind[IZ]) start)
theorem JY{id:Nat}(u:P.follows .mixedOrders=true)
(tab:List kQ)(l:Region.tabAfter .any ops=tab)(p:I9 tab=true)(I:(Nat->Bool)->Act->C->Prop)
(start:I (λ_=>false) a w.drew)
(step:∀(D:Nat->Bool) a w i ds,(∀i ds,tab[i]?=some ds->D i=true->∀j∈ds,D j=true)->tab[i]?=some ds->(∀j∈ds,D j=true)->D i=false->I D a w->wpOp P ops Q i (I λj=>j==i || D j) a w)
(fin:∀(D:Nat->Bool) a w,(∀i,i<tab.length->D i=true)->I D a w->Q .normal a w):
 (Code.region id ops true).wp P Q a w:=by
 have q:tab.length=ops.size:=by rw[<-l];simp[Region.tabAfter]
 refine wp_region_held u (λb a w=>(∀i ds,tab[i]?=some ds->b.getD i false=true->∀j∈ds,b.getD j false=true)/\I (λj=>b.getD j false) a w) ⟨λi ds _ h=>?_,?_⟩ ?_ ?_
 . simp only[Array.getD,Cx]at h;split at h<;>simp at h
 . have e:(λj=>(Array.replicate ops.size false).getD j false)=λ_=>false:=by
    funext j;simp only[Array.getD,Cx];split<;>simp
   rw[e];exact start
 . rintro b a w i hs ⟨o,d⟩ f;obtain⟨n,ds,c,r⟩:=(mem_ready l).1 f;have m:i<b.size:=by
    rw[hs,<-q];rcases AP i tab.length with h|h
    . exact h
    . grind
   have t:b.getD i false=false:=by
    simp only[Array.getD,m,dif_pos]at n ⊢;exact n
   have e:∀j,(b.setIfInBounds i true).getD j false=(j==i || b.getD j false):=by
    intro j;rw[C5,C5,Array.getElem?_setIfInBounds];by_cases k:i=j
    . subst k;simp[m]
    . simp[k,Ne.symm k]
   refine wpOp_mono (λa' K h=>⟨λA x y s j g=>?_,?_⟩) (step _ a w i ds o c r t d)
   . grind
   . rw[show(λj=>(b.setIfInBounds i true).getD j false)=λj=>(j==i || b.getD j false)from funext e];exact h
 . rintro b a w hs ⟨o,d⟩ z;refine fin _ a w (λi=>?_) d;induction i using Nat.strongRecOn with
   |_ i v=>
    intro f;cases s:b.getD i false with
    |true=>rfl
    |false=>
     exfalso
     have c:tab[i]?=some tab[i]:=Aq f
     have:i∈Region.ready .any ops b:=(mem_ready l).2 ⟨by
      grind,_,c,λj g=>v j (Ly p c g) (by have:=Ly p c g;omega)⟩
     grind
def DQ{T:List kQ}{D:Nat->Bool}(c:∀i ds,T[i]?=some ds->D i=true->∀j∈ds,D j=true){a k:Nat}{ds:kQ}(b:D k=false)(e:T[a]?=some ds:=by rfl)(d:k∈ds:=by simp):D a=false:=by
 cases h:D a with
 |false=>rfl
 |true=>rw[c a ds e h k d]at b;cases b
theorem QE(a:kR)(la ca:Nat)(b:kQ)(w:C)(s:Row F w (B a la ca) b)(m:0<la):
 Calls E 147 #[B a la ca] w λe c=>∃g d,e=.returned (B (some ⟨g,0,none⟩) la d)/\DP c g b/\w.heap.size<=g/\(la<=d/\d<=9223372036854775807)/\Bl w c:=by
 obtain⟨hl,v,z,y,r⟩:=Js s;obtain⟨k,l,rfl,_,_⟩:=r 0 m;have f:=Nv ⟨k,l,none⟩ ca b w O (λj x=>by
  grind[Y6])
 rw[<-hl]at f;refine f.mono ?_;rintro e c ⟨A,rfl,i,q⟩;rcases i.2 with⟨_,ev⟩|⟨g,cap,t,ev,n,u,o,p,_⟩
 . omega
 . subst ev;exact⟨_,cap,J,DP.owns i,n,⟨o,p⟩,q⟩
theorem QF(a:kR)(la ca:Nat)(c:kQ)(w:C)(k:Row F w (B a la ca) c):
 Calls E 147 #[B a la ca] w λe b=>∃l d,e=.returned (B l la d)/\Row F b (B l la d) c/\Bl w b:=by
 obtain⟨hl,x,z,s,y⟩:=Js k;rcases AW la with f|f
 . subst f;obtain rfl:c=[]:=Ao hl.symm;cases a with
   |none=>
    refine(WO 0 ca w).mono ?_;rintro e b ⟨rfl,rfl⟩;exact⟨none,0,J,⟨none,0,J,Aa _,O,O,Am J⟩,BB _ _⟩
   |some p=>
    refine(Nv p ca [] w DK λj r=>by simp at r).mono ?_;rintro e b ⟨D,rfl,t,i⟩;rcases t.2 with⟨ev,_⟩|⟨g,cap,u,ev,_,_,v,o,_⟩
    . subst ev;exact⟨none,0,J,⟨none,0,J,Aa _,O,O,Am J⟩,i⟩
    . subst ev;exact⟨_,cap,J,⟨_,cap,J,As _,o,DK,Am J⟩,i⟩
 . refine(QE a la ca c w k f).mono ?_;rintro e b ⟨g,d,rfl,q,_,⟨m,n⟩,i⟩;have A:=q.row 0 la d O m n s;grind

