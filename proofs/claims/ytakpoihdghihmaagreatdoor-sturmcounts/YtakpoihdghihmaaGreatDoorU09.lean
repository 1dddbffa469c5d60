import Derived.Test.YtakpoihdghihmaaGreatDoorU08
import Derived.Laws.CopyOwn
import Derived.Deep.OwnRows
set_option linter.all false
open Go.Value renaming slice->B,int->G
open Go renaming World->C,undef->L
open Go.Proofs.Tryz renaming prog->E
open Go.IntKind renaming u64->F,i64->I
open Go.Obj renaming cells->H
set_option maxRecDepth 99999
set_option maxHeartbeats 0
namespace Go.Proofs.YtakpoihdghihmaaGreatDoor
open List renaming replicate->nL
open Proofs.Tryz
open Go.RowKit Go.Shelf
section
def Bv:=@CallsIn.inRound
def Bk:=@Lib.run_eql_slice_nil
variable{p:Addr}{d:Array Bool}{ops:Array Oper}{Q:Exit->Act->C->Prop}{tab:List m4}{bs ds q xs:m4}{c i l len m n:Nat}{a:nJ}{P:Program}{w:C}
def Zj(n:Nat):madeCells #[G F 0] n=(cellsOf F (nL n 0)).toArray:=by
 apply Array.ext
 . simp[madeCells,cellsOf]
 . intro i a b;simp[madeCells,cellsOf,Nat.mod_one]
def Kb(n:Nat)(h:n<=2199023255552)(w:C):(Instr.makeSlice 33 (G I (n:Int)) (G I (n:Int))).run E w=.ok (B (some ⟨w.heap.size,0,none⟩) n n) (w.alloc (H (cellsOf F (nL n 0)).toArray 115)):=by
 rw[<-Zj];exact run_make_row' 33 115 (G F 0) 8 underlying33 Tryz.infoU64 J I I n O O w
def Mh(l:Nat)(h:l<=2199023255551)(w:C):(Instr.makeSlice 33 (G I ((l:Int)+1)) (G I ((l:Int)+1))).run E w=.ok (B (some ⟨w.heap.size,0,none⟩) (l+1) (l+1)) (w.alloc (H (cellsOf F (nL (l+1) 0)).toArray 115)):=
 Kb (l+1) O w
theorem Xj(b o j:Nat):(⟨b,o,none⟩:Addr).add j=⟨b,o+j,none⟩:=by simp[Addr.add]
theorem XC(h:n<=m):(Jd Z n).length<=(Jd Z m).length:=by
 rcases AQ (Jd Z m).length (Jd Z n).length with a|a
 . have:=Y4 Jg a;omega
 . exact a
theorem Zk{W:C}(h:Row F w (B a l c) ds)(f:Bl w W)(e:a=some p)(_h0:0<l)(j:Nat)(v:Value)(o:(cellsOf F ds)[j]?=some v):W.cell? (p.add j)=some v:=by
 obtain⟨hl,_,_,_,g⟩:=Ju h;have n:j<ds.length:=by
  grind[cellsOf]
 obtain⟨b,m,d,k,i⟩:=g j O;rw[d]at e;cases e;rw[Xj];rw[(f.cell (p:=⟨b,m+j,none⟩) k),i];grind[cellsOf]
theorem I0(h:Row F w (B a l c) ds)(e:a=some p)(d:0<l):p.block<w.heap.size:=by
 obtain⟨b,i,f,g,_⟩:=(Ju h).2.2.2.2 0 d;grind
def Zl(h:Row F w (B a l c) ds)(e:0<l):∃p,a=some p:=by
 obtain⟨b,g,d,f,_⟩:=(Ju h).2.2.2.2 0 e;exact⟨_,d⟩
theorem Ro(h:F0 xs bs 0 len c q)(i:xs=Jd Z m)(f:bs=Jd Z n)(hl:len=xs.length)(g:bs.length<=len)(l:n<=m):Jz q=Jd Z (m-n):=by
 obtain⟨a,b,j,d⟩:=h;rw[Ca,Ad (show xs.length<=len by omega),Ad g,i,f,Jq Jg,Jq Jg]at d;have e:=Yw b;rw[a]at e;have k:c=0:=by
  grind
 grind[Yd,Jg]
theorem Om(g b i:Nat)(a:nJ)(la ca:Nat)(xs:m4)(w c:C)(l:Row F w (B a la ca) xs)(k:Bl w c)(hg:w.heap.size<=g)(o:c.heap[g]?=some (H (cellsOf F (nL b 0)).toArray 115 (0,0)))(hl:la<=b):
 ∃f,(Builtin.copy_ #[33,33] 3 #[B (some ⟨g,0,none⟩) b i,B a la ca]).run E c=.ok (G I (la:Nat)) f/\DO f g (xs++nL (b-la) 0)/\Bl w f:=by
 obtain⟨s,_⟩:=Ju l;have m:(Tryz.prog.info? 115).map (·.size)=some 1:=by kernel_rfl
 have q:(cellsOf F xs)++(cellsOf F (nL b 0)).drop la=cellsOf F (xs++nL (b-la) 0):=by simp[cellsOf]
 by_cases r:la=0
 . subst r;refine⟨c,run_copy_none (P:=E) c 33 33 3 115 (some ⟨g,0,none⟩) a b i 0 ca underlying33 m (Nat.zero_min b),DO.made ?_,k⟩;grind
 . obtain⟨p,hp⟩:=Zl l O;subst hp;have e:(cellsOf F xs).length=la:=by simp[cellsOf,s]
   have n:=run_copy_row (P:=E) c 33 33 3 115 g 0 b i p la ca _ 115 (cellsOf F xs) underlying33 m o (by rw[e];exact(C1 hl).symm) (λj v d=>Zk l k J O j v d) (by rw[e];simp[cellsOf];exact hl) (λv d=>by
    rw[cellsOf,C8]at d;obtain⟨_,_,rfl⟩:=d;rfl)
   rw[e,List.take_zero,Ar,CA,q]at n;exact⟨_,n,DO.made (setRow_heap c g _ _ _ _ o),below_setRow k hg _⟩
theorem On(a:nJ)(la ca:Nat)(b:nJ)(lb cb m n:Nat)(w:C)(j:Row F w (B a la ca) (Jd Z m))(k:Row F w (B b lb cb) (Jd Z n))(h:n<=m):
 Calls E 133 #[B a la ca,B b lb cb] w λe y=>∃u,e=.returned u/\UN y u (m-n)/\Bl w y:=by
 obtain⟨hl,ah,X,U,S⟩:=Ju j;obtain⟨x,ai,ad,aj,T⟩:=Ju k;have K:lb<=la:=by rw[hl,x];exact XC h
 have f:=Y hl;have i:=Y k;have M:=Kb la O w;obtain⟨d,g⟩:∃d,d=w.alloc (H (cellsOf F (nL la 0)).toArray 115):=⟨_,J⟩;have o:Bl w d:=by rw[g];exact Ba w _
 have r:d.heap[w.heap.size]?=some (H (cellsOf F (nL la 0)).toArray 115 (0,0)):=by rw[g];exact BB w _
 rw[<-g]at M;obtain⟨w2,ae,hA2,t⟩:=Om w.heap.size la la a la ca (Jd Z m) w d j o (Aa _) r (Aa _);rw[Cv,List.replicate_zero,Fu]at hA2;have W:=hA2.lt;clear S hl T x j k g o r;go_enter func133,ntmps133
 go_wp2_with(go_at_call 173;refine(Rn w.heap.size 0 la la (Jd Z m) b lb cb (Jd Z n) _ hA2 (Jr Jg m) (by rw[CA,<-f.o];exact Aa _) (Aa _) O K (Row.below i.o t) (Jr Jg n) λp e P=>by have:=I0 i.o e P;omega).mono ?_)
 rintro e V ⟨c,q,rfl,hq,hA3,v⟩;have D:=hq.1;have A:Row F V (B (some ⟨w.heap.size,0,none⟩) la la) q:=by
  have Q:=hA3.row 0 la la (by rw[J4 D (by rw[<-f.o];omega),<-f.o];omega) (Aa _) O U;have N:((DW (Jd Z m) 0 la q).drop 0).take la=q:=by
   grind[DW]
  rwa[N]at Q
 have z:=Y (Ro hq J J f.o (by have:=Ju i.o;omega) h);have s:=below_grown t v (Aa _);clear hq hA3 v;go_wp2_with(go_at_call 73;refine(Xe _ q _ A).mono ?_)
 rintro e w4 ⟨u,rfl,l,R⟩;rw[z.o]at l;obtain⟨ua,uc,rfl⟩:=UN.form l;go_wp2;go_ret;exact⟨_,J,l,s.trans (R.mono s.size)⟩
theorem Rp(h:GI (xs++[0]) bs 0 len c q)(i:xs=Jd Z m)(g:bs=Jd Z n)(hl:len=xs.length+1)(o:bs.length<=xs.length):Jz q=Jd Z (m+n):=by
 obtain⟨j,b,k,a⟩:=h;have p:m<Z^xs.length:=by
  grind[Yw,Jr,Jg,Jq]
 have r:n<Z^xs.length:=by
  have:=Yw (Jr Jg n);grind[Jq,Aw,Ak,Z]
 rw[Ca,Ad (show(xs++[0]).length<=len by simp;omega),Ad (show bs.length<=len by omega),YM,Cz,Cl,g,Jq Jg]at a;have e:val Z xs=m:=by rw[i,Jq Jg]
 rw[e]at a;have f:Z^len=Z^xs.length*Z:=by rw[hl,Cm]
 have l:Z^xs.length*2<=Z^len:=by rw[f];exact Aj _ Jg
 have d:c=0:=by
  grind
 subst d;rw[<-Yd Jg b];congr 1
theorem Rq(a:nJ)(la ca:Nat)(b:nJ)(lb cb m n:Nat)(w:C)(j:Row F w (B a la ca) (Jd Z m))(k:Row F w (B b lb cb) (Jd Z n))(an:la<1099511627776)(ap:lb<1099511627776):
 Calls E 132 #[B a la ca,B b lb cb] w λe W=>∃u,e=.returned u/\UN W u (m+n)/\Bl w W:=by
 by_cases aq:la<lb
 . obtain⟨hl,ai,ad,ak,T⟩:=Ju k;obtain⟨y,aj,ae,am,U⟩:=Ju j;obtain⟨l,o,K⟩:=DX hl j y;have N:=Mh lb O w;obtain⟨d,f⟩:∃d,d=w.alloc (H (cellsOf F (nL (lb+1) 0)).toArray 115):=⟨_,J⟩;have r:Bl w d:=by rw[f];exact Ba w _
   have s:d.heap[w.heap.size]?=some (H (cellsOf F (nL (lb+1) 0)).toArray 115 (0,0)):=by rw[f];exact BB w _
   rw[<-f]at N;obtain⟨w2,ah,hA2,v⟩:=Om w.heap.size (lb+1) (lb+1) b lb cb (Jd Z n) w d k r (Aa _) s O;rw[show lb+1-lb=1 from by omega,List.replicate_one]at hA2;have X:=hA2.lt;have z:=Y (show DJ Z (Jd Z n++[0])from(Jr Jg n).append (DJ.cons uo (DJ.nil _)));have g:=Y (show(Jd Z n++[0]).length=lb+1 by grind);clear T hl U y j k f r s;go_enter func132,ntmps132
   go_wp2_with(go_at_call 172;refine(Ol w.heap.size 0 (lb+1) (lb+1) (Jd Z n++[0]) a la ca (Jd Z m) _ hA2 z.o (by rw[CA,g.o];exact Aa _) (Aa _) O O (Row.below o.o v) (Jr Jg m) λp e Q=>by have:=I0 o.o e Q;omega).mono ?_)
   rintro e V ⟨c,q,rfl,hq,hA3,x⟩;have M:=hq.1;have D:Row F V (B (some ⟨w.heap.size,0,none⟩) (lb+1) (lb+1)) q:=by
    have R:=hA3.row 0 (lb+1) (lb+1) (by rw[J4 M (by rw[g.o];omega),g.o];omega) (Aa _) O O;have P:((DW (Jd Z n++[0]) 0 (lb+1) q).drop 0).take (lb+1)=q:=by
     grind[DW]
    rwa[P]at R
   have A:=Y (Rp hq J J (by rw[<-l.o]) (by rw[<-l.o,<-K.o];omega));have t:=below_grown v x (Aa _);clear hq hA3 x;go_wp2_with(go_at_call 73;refine(Xe _ q _ D).mono ?_)
   rintro e w4 ⟨u,rfl,i,S⟩;rw[A.o]at i;obtain⟨ua,uc,rfl⟩:=UN.form i;go_wp2;go_ret;exact⟨_,J,by rw[FF m n];exact i,t.trans (S.mono t.size)⟩
 . obtain⟨hl,ai,ad,ak,T⟩:=Ju j;obtain⟨y,aj,ae,am,U⟩:=Ju k;obtain⟨l,o,K⟩:=DX hl k y;have N:=Mh la O w;obtain⟨d,f⟩:∃d,d=w.alloc (H (cellsOf F (nL (la+1) 0)).toArray 115):=⟨_,J⟩;have r:Bl w d:=by rw[f];exact Ba w _
   have s:d.heap[w.heap.size]?=some (H (cellsOf F (nL (la+1) 0)).toArray 115 (0,0)):=by rw[f];exact BB w _
   rw[<-f]at N;obtain⟨w2,ah,hA2,v⟩:=Om w.heap.size (la+1) (la+1) a la ca (Jd Z m) w d j r (Aa _) s O;rw[show la+1-la=1 from by omega,List.replicate_one]at hA2;have X:=hA2.lt;have z:=Y (show DJ Z (Jd Z m++[0])from(Jr Jg m).append (DJ.cons uo (DJ.nil _)));have g:=Y (show(Jd Z m++[0]).length=la+1 by grind);clear T hl U y j k f r s;go_enter func132,ntmps132
   go_wp2_with(go_at_call 172;refine(Ol w.heap.size 0 (la+1) (la+1) (Jd Z m++[0]) b lb cb (Jd Z n) _ hA2 z.o (by rw[CA,g.o];exact Aa _) (Aa _) O O (Row.below o.o v) (Jr Jg n) λp e Q=>by have:=I0 o.o e Q;omega).mono ?_)
   rintro e V ⟨c,q,rfl,hq,hA3,x⟩;have M:=hq.1;have D:Row F V (B (some ⟨w.heap.size,0,none⟩) (la+1) (la+1)) q:=by
    have R:=hA3.row 0 (la+1) (la+1) (by rw[J4 M (by rw[g.o];omega),g.o];omega) (Aa _) O O;have P:((DW (Jd Z m++[0]) 0 (la+1) q).drop 0).take (la+1)=q:=by
     grind[DW]
    rwa[P]at R
   have A:=Y (Rp hq J J (by rw[<-l.o]) (by rw[<-l.o,<-K.o];omega));have t:=below_grown v x (Aa _);clear hq hA3 x;go_wp2_with(go_at_call 73;refine(Xe _ q _ D).mono ?_)
   rintro e w4 ⟨u,rfl,i,S⟩;rw[A.o]at i;obtain⟨ua,uc,rfl⟩:=UN.form i;go_wp2;go_ret;exact⟨_,J,i,t.trans (S.mono t.size)⟩
def I1(a:Array Bool):Nat:=a.toList.countP λb=>!b
theorem Mi(a:i<d.size)(h:d.getD i true=false):I1 (d.setIfInBounds i true)+1=I1 d:=by
 grind[Array.getInternal_eq_getElem,I1]
theorem Zm{F:Fence}{c:Region.Mode}(I:Array Bool->Act->C->Prop)
(step:∀b a w i,b.size=ops.size->I b a w->i∈Region.ready c ops b->wpOpIn F n P ops Q i (I (b.setIfInBounds i true)) a w)
(fin:∀b a w,b.size=ops.size->I b a w->Region.ready c ops b=[]->Q .normal a w):
 ∀(d:Nat) (b:Array Bool) (a:Act) (w:C),b.size=ops.size->I1 b<=d->I b a w->wpAnyIn F n P c ops Q d b a w:=by
 intro d;have m:∀ {b:Array Bool} {i:Nat},i∈Region.ready c ops b->i<ops.size/\b.getD i true=false:=by
  intro b i e;simp only[Region.ready,List.mem_filter,List.mem_range,AY,CN]at e;exact⟨e.1,e.2.1⟩
 induction d with
 |zero=>
  intro b a w g k f;have j:Region.ready c ops b=[]:=by
   cases o:Region.ready c ops b with
   |nil=>rfl
   |cons i l=>
    grind[CC,Mi]
  exact⟨j,fin _ _ _ g f j⟩
 |succ d p=>
  intro b a w g k f;refine⟨fin _ _ _ g f,λi e=>?_⟩;grind[Mi,wpOpIn_mono]
def Dl:Tryz.prog.follows .mixedOrders=true:=by kernel_rfl
theorem Zn{F:Fence}{id:Nat}{a:Act}(c:P.follows .mixedOrders=true)(I:Array Bool->Act->C->Prop)
(start:I (Array.replicate ops.size false) a w.drew)
(step:∀b a w i,b.size=ops.size->I b a w->i∈Region.ready .any ops b->wpOpIn F n P ops Q i (I (b.setIfInBounds i true)) a w)
(fin:∀b a w,b.size=ops.size->I b a w->Region.ready .any ops b=[]->Q .normal a w):
 (Code.region id ops true).wpIn F n P Q a w:=
 wpIn_region_any c (Zm I step fin _ _ _ _ DG (by grind[I1]) start)
def Kc(tab:List m4):Bool:=tab.zipIdx.all λp=>p.1.all (·<p.2)
def Mj(h:Kc tab=true)(a:tab[i]?=some ds){j:Nat}(b:j∈ds):j<i:=by
 simp only[Kc,AR,BW]at h;exact h (ds,i) (List.mk_mem_zipIdx_iff_getElem?.2 a) j b
theorem mem_ready{c:Region.Mode}(f:Region.tabAfter c ops=tab):
 i∈Region.ready c ops d↔d.getD i true=false/\∃ds,tab[i]?=some ds/\∀j∈ds,d.getD j false=true:=by
 subst f;simp only[Region.ready,List.mem_filter,List.mem_range,AY,CN,Region.tabAfter,List.getElem?_map,C6];constructor
 . rintro⟨e,b,a⟩;rw[C5 e]at a ⊢;simp only[Option.map_some,Option.getD_some,Array.all_eq_true',Bool.or_eq_true,CN]at a;refine⟨b,_,J,λj k=>?_⟩;grind
 . rintro⟨b,ds,g,a⟩;grind
theorem Xo{F:Fence}{id:Nat}{a:Act}(x:P.follows .mixedOrders=true)
(tab:List m4)(l:Region.tabAfter .any ops=tab)(q:Kc tab=true)(I:(Nat->Bool)->Act->C->Prop)
(start:I (λ_=>false) a w.drew)
(step:∀(D:Nat->Bool) a w i ds,(∀i ds,tab[i]?=some ds->D i=true->∀j∈ds,D j=true)->tab[i]?=some ds->(∀j∈ds,D j=true)->D i=false->I D a w->wpOpIn F n P ops Q i (I λj=>j==i || D j) a w)
(fin:∀(D:Nat->Bool) a w,(∀i,i<tab.length->D i=true)->I D a w->Q .normal a w):
 (Code.region id ops true).wpIn F n P Q a w:=by
 have s:tab.length=ops.size:=by rw[<-l];simp[Region.tabAfter]
 refine Zn x (λb a w=>(∀i ds,tab[i]?=some ds->b.getD i false=true->∀j∈ds,b.getD j false=true)/\I (λj=>b.getD j false) a w) ⟨λi ds _ h=>?_,?_⟩ ?_ ?_
 . simp only[Array.getD,FK]at h;split at h<;>simp at h
 . have e:(λj=>(Array.replicate ops.size false).getD j false)=λ_=>false:=by
    funext j;simp only[Array.getD,FK];split<;>simp
   rw[e];exact start
 . rintro b a w i r ⟨p,d⟩ f;obtain⟨o,ds,c,t⟩:=(mem_ready l).1 f;have m:i<b.size:=by
    rw[r,<-s];rcases AQ i tab.length with h|h
    . exact h
    . grind
   have v:b.getD i false=false:=by
    simp only[Array.getD,m,dif_pos]at o ⊢;exact o
   have e:∀j,(b.setIfInBounds i true).getD j false=(j==i || b.getD j false):=by
    intro j;rw[Fk,Fk,Array.getElem?_setIfInBounds];by_cases k:i=j
    . subst k;simp[m]
    . simp[k,Ne.symm k]
   refine wpOpIn_mono (λa' N h=>⟨λM z A u j g=>?_,?_⟩) (step _ a w i ds p c t v d)
   . grind
   . rw[show(λj=>(b.setIfInBounds i true).getD j false)=λj=>(j==i || b.getD j false)from funext e];exact h
 . rintro b a w r ⟨p,d⟩ K;refine fin _ a w (λi=>?_) d;induction i using Nat.strongRecOn with
   |_ i y=>
    intro f;cases u:b.getD i false with
    |true=>rfl
    |false=>
     exfalso
     have c:tab[i]?=some tab[i]:=Am f
     have:i∈Region.ready .any ops b:=(mem_ready l).2 ⟨by
      grind,_,c,λj g=>y j (Mj q c g) (by have:=Mj q c g;omega)⟩
     grind
attribute [local go_sem] Oper.semAt_some
def Rr(w:C)(a:nJ)(len ca:Nat)(b:nJ)(lb cb:Nat)(xs c:m4)(k:Nat)(W:C):Prop:=
 (((Boxed W w.heap.size 33 (B b lb cb)/\Boxed W (w.heap.size+1) 3 (.int I 0))/\Boxed W (w.heap.size+1+1) 33 (B a len ca))/\Bl w W)/\xs.drop (len-k)=c.drop (len-k)
def Rs(w:C)(xs a:m4)(c:Code)(_k:Nat)(W:C):Prop:=
 (Boxed W (w.heap.size+1) 3 (.int I (Xt (val Z xs) (val Z a)))/\Bl w W)/\c=.ret
def Zo(w:C)(a:nJ)(len ca:Nat)(b:nJ)(lb cb:Nat)(xs c:m4):OwnFrom (w.heap.size+1+1+1) (Rr w a len ca b lb cb xs c):=
 BP (BP (BP (BP (Bj (boxed_own _ _ λ_=>B b lb cb) _) (Bj (boxed_own _ _ λ_=>G I 0) _)) (Bj (boxed_own _ _ λ_=>B a len ca) _)) (C0 (Aa _) O)) (DB _ _)
def Zp(w:C)(xs a:m4)(c:Code):OwnFrom (w.heap.size+1+1+1) (Rs w xs a c):=
 BP (BP (Bj (boxed_own _ _ λ_=>G I (Xt (val Z xs) (val Z a))) _) (C0 (Aa _) O)) (DB _ _)
theorem Zq{c:Bool}(h:m≠n)(a:c=decide (n<m)):(if c then 1 else -1:Int)=Xt m n:=by
 grind[Gz,KT]
def Zs(a:nJ)(la ca:Nat)(b:nJ)(lb cb:Nat)(w:C)(m n:Nat)(j:la≠lb)(i:la<lb↔m<n)(f:m≠n):
 Calls E 126 #[B a la ca,B b lb cb] w λe g=>e=.returned (G I (Xt m n))/\Bl w g:=by
 have k:(((la:Nat):Int) != (lb:Int))=true:=by rw[Bz];omega
 have d:=Y (show(if decide ((lb:Int)<(la:Int))=true then 1 else -1:Int)=Xt m n from Zq f DI);clear i f j;refine(BM (n:=3)).1 ?_;refine BN func126 J trivial ?_ J;simp only[ntmps126,AF,Ah,AK,Nat.reduceAdd,Nat.reduceSub,As,At,AE,Ay,Ar,AC];gi_wp2_with(refine⟨trivial,?_⟩;gi_at_call 125;refine((BM (n:=_)).2 (Ob _ _)).mono ?_;rintro e g ⟨rfl,rfl⟩)
 . have c:Xt m n=1:=by rw[<-d.o,BG si]
   have q:=(BF (w.alloc (H #[B b lb cb] 33)) 3 (G I 1)).cell;simp only[Ax]at q;refine⟨G I 1,by simp[results,results126,go_sem,q],by rw[c],?_⟩;exact(Ba w _).alloc DG _
 . have c:Xt m n=-1:=by rw[<-d.o,BD si]
   have q:=(BF (w.alloc (H #[B b lb cb] 33)) 3 (G I (-1))).cell;simp only[Ax]at q;refine⟨G I (-1),by simp[results,results126,go_sem,q],by rw[c],?_⟩;exact(Ba w _).alloc DG _
theorem Zt(a:nJ)(len ca:Nat)(b:nJ)(cb:Nat)(xs d:m4)(w:C)(ha:Row F w (B a len ca) xs)(hb:Row F w (B b len cb) d)(xa:DJ Z xs)(xb:DJ Z d):
 Calls E 126 #[B a len ca,B b len cb] w λe S=>e=.returned (G I (Xt (val Z xs) (val Z d)))/\Bl w S:=by
 obtain⟨hl,ak,an,aj,u⟩:=Ju ha;obtain⟨ah,ai,ap,aq,ad⟩:=Ju hb;obtain⟨z,U,HC,Qe⟩:=Di hl ah u ad;clear u ad hl ah ha hb;refine(BM (n:=3)).1 ?_;refine BN func126 J trivial ?_ J;simp only[ntmps126,AF,Ah,AK,Nat.reduceAdd,Nat.reduceSub,As,At,AE,Ay,Ar,AC];gi_wp2_with(refine⟨trivial,?_⟩;gi_at_call 128;refine(LN Fence.wide _ trivial J _ _ _ _).mono ?_;rintro e S ⟨rfl,rfl⟩)
 obtain⟨W0,t⟩:=ex (((w.alloc (H #[B b len cb] 33)).alloc (H #[G I 0] 3)).alloc (H #[B a len ca] 33));have b0:=((BF w 33 (B b len cb)).alloc (H #[G I 0] 3)).alloc (H #[B a len ca] 33);have M:=(BF (w.alloc (H #[B b len cb] 33)) 3 (G I 0)).alloc (H #[B a len ca] 33);have P:=BF ((w.alloc (H #[B b len cb] 33)).alloc (H #[G I 0] 3)) 33 (B a len ca);simp only[Ax]at M P;have hN:W0.heap.size=w.heap.size+1+1+1:=by rw[<-t];simp
 have Qf:Bl w W0:=by rw[<-t];exact((Ba w _).alloc DG _).alloc si _
 rw[t]at b0 M P ⊢;clear t;refine X9 J O (gf:=169) (lb:=#[.pointer (some ⟨w.heap.size+1+1,0,none⟩)]) J trivial (Bi func169 nK J)
  (LM Fence.wide _ trivial J O (w.heap.size+1+1) a len ca (λj=>xs[j]?.getD 0) aj) (λ_=>rfl)
  (Rr w a len ca b len cb xs d) (Rs w xs d) (by rw[hN];exact Zo w a len ca b len cb xs d) (λc=>by rw[hN];exact Zp w xs d c)
  ⟨⟨⟨⟨b0,M⟩,P⟩,Qf⟩,by rw[FV,AN (by rw[z.o];exact Aa _),AN (by rw[U.o];exact Aa _)]⟩ ?rd
  (λk=>{ tmps:=#[B a len ca,B b len cb,L,.pointer (some ⟨w.heap.size,0,none⟩),.pointer (some ⟨w.heap.size+1,0,none⟩),G I ((len:Int)-1-k),G F (xs[len-1-k]?.getD 0:Nat),B a len ca,G I (len:Nat),B b len cb,G I (len:Nat),.bool false,L,L,L,L,L,L,B a len ca,.func (.func 169) #[] #[.pointer (some ⟨w.heap.size+1+1,0,none⟩)],G I ((len:Int)-1-k),G F (xs[len-1-k]?.getD 0:Nat),L,L,L,L,L,L,L,L,L,L,L,L,L],defers:=[] }) ?assign ?body ?done ?stop
 case rd=>
  rintro k W ⟨⟨⟨_,c2⟩,f⟩,_⟩;refine⟨c2.cell,λhk=>?_⟩;obtain⟨s,v,ea,Q,u⟩:=HC.o (len-1-k) O;exact⟨s,v,ea,(f.cell (p:=⟨s,v+(len-1-k),none⟩) Q).trans u⟩
 case assign=>
  intro l k W K g;unfold Iv;gi_wp2;exact g
 case body=>
  rintro l k W ⟨⟨⟨⟨c0,c1⟩,c2⟩,f⟩,i⟩ hk ay;have d0:=c0.cell;have d1:=c1.cell;have f1:=c1.frozen;obtain⟨s,v,rfl,Q,ae⟩:=Qe.o (len-1-k) O;have dy:=(f.cell (p:=⟨s,v+(len-1-k),none⟩) Q).trans ae;clear ae;have e1:((len:Int)-1-k)=((len-1-k:Nat):Int):=O
  rw[e1];have hm:len-1-k<len:=O
  have es:len-1-k+1=len-k:=O
  have X:xs.drop (len-1-k+1)=d.drop (len-1-k+1):=by rw[es];exact i
  have V:=z.o.symm.trans U.o;have o:=Y λ(h:xs[len-1-k]?.getD 0=d[len-1-k]?.getD 0)=>RR V (len-1-k) (by rw[<-z.o];exact hm) X h;have r:=Y (show xs[len-1-k]?.getD 0≠d[len-1-k]?.getD 0->Xt (val Z xs) (val Z d)=Xt (xs[len-1-k]?.getD 0) (d[len-1-k]?.getD 0)from λh=>by
   grind[Gz,OM,KT])
  have T:=Y (show len-(k+1)=len-1-k by omega);clear e1 es X i V;generalize xs[len-1-k]?.getD 0=x at o r ⊢;generalize d[len-1-k]?.getD 0=y at o r dy;generalize len-1-k=m at o hm T dy ⊢;have am:=ai;by_cases R:x=y
  . subst R;gi_wp2_with fail
    refine⟨KeepsFrom.refl _ _,⟨⟨⟨c0,c1⟩,c2⟩,f⟩,?_⟩;rw[T.o];exact o.o DG
  . have az:(((x:Nat):Int) != (y:Int))=true:=by rw[Bz];omega
    have A:=Y R;clear R;gi_wp2_with(refine⟨trivial,?_⟩;gi_at_call 125;refine(Bv l ((BM (n:=_)).2 (Ob _ _))).mono ?_;rintro e S ⟨rfl,rfl⟩)
    . refine⟨(BK _ _ _).from _,⟨?_,f.setCell (p:=⟨w.heap.size+1,0,none⟩) DG _⟩,J⟩;rw[r.o A.o,KT ‹y<x›];exact c1.set _
    . refine⟨(BK _ _ _).from _,⟨?_,f.setCell (p:=⟨w.heap.size+1,0,none⟩) DG _⟩,J⟩;rw[r.o A.o,Gz (by have:=A.o;omega)];exact c1.set _
 case done=>
  rintro D W hD ⟨⟨⟨⟨c0,c1⟩,c2⟩,f⟩,i⟩ g;have d1:=c1.cell;have f1:=c1.frozen;have HZ:=Y i;clear i;gi_wp2;have Qd:=(BK W ⟨w.heap.size+1,0,none⟩ (G I 0)).same D _ g J;refine⟨DG,.inl ⟨_,_,J,BU Qd,?_⟩⟩;have N:=(c1.set (G I 0)).kept (BX _ D (.deferred none)) (λe=>by grind);have q:=N.cell;have hv:Xt (val Z xs) (val Z d)=0:=by
   have:=HZ.o;grind[OL]
  refine⟨G I 0,by simp[results,results126,go_sem,q],by rw[hv],?_⟩;exact(f.setCell (p:=⟨w.heap.size+1,0,none⟩) DG _).trans (DE (w:=w) (Aa _) _ D _ _ O Qd J J)
 case stop=>
  rintro D c k W hD hk ⟨⟨c1,f⟩,rfl⟩ g;have d1:=c1.cell;gi_wp2;refine⟨DG,.inl ⟨_,_,J,BU g,?_⟩⟩;have N:=c1.kept (BX _ D (.deferred none)) (λe=>by grind);have q:=N.cell;refine⟨G I (Xt (val Z xs) (val Z d)),by simp[results,results126,go_sem,q],J,?_⟩;exact f.trans (DE (w:=w) (Aa _) _ D _ _ O g J J)
theorem Oo(l m:Value)(xs c:m4)(w:C)(k:Row F w l xs)(j:Row F w m c)(d:DJ Z xs)(f:DJ Z c)(ta:GS xs)(tb:GS c):
 Calls E 126 #[l,m] w λe n=>e=.returned (G I (Xt (val Z xs) (val Z c)))/\Bl w n:=by
 obtain⟨a,ca,rfl,o⟩:=id k;obtain⟨b,cb,rfl,p⟩:=id j;have i:2<=Z:=by unfold Z;omega
 by_cases hl:xs.length=c.length
 . rw[<-hl]at j ⊢;exact Zt a xs.length ca b cb xs c w k j d f
 . refine Zs a _ ca b _ cb w _ _ hl ?_ ?_
   . constructor
     . exact λh=>YS i d f ta tb h
     . intro h;grind[Nat.lt_or_gt_of_ne,YS]
   . rcases Nat.lt_or_gt_of_ne hl with g|g
     . have:=YS i d f ta tb g;omega
     . have:=YS i f d tb ta g;omega
end
variable{a:Act}{ops:Array Oper}{Q:Exit->Act->C->Prop}{P:Program}{w:C}
def Zu(n c:Nat)(w:C):Calls E 177 #[B none n c] w λe d=>e=.returned (B none 0 0)/\d=w:=by
 have f:∀(w:C) (a:nJ) (n c b c':Nat),(binOp .eql 33 (B a n c) (B none b c')).run E w=.ok (.bool a.isNone) w:=λw a n c b c'=>Bk w _ _ a n c b c' underlying33;go_enter func177,ntmps177
 go_wp2;go_ret;exact⟨J,J⟩
theorem Rt(p:Addr)(c:Nat)(xs:m4)(w:C)(hl:xs.length<=1099511627776)(f:∀j,j<xs.length->w.cell? (p.add j)=some (G F (xs[j]?.getD 0:Nat))):
 Calls E 177 #[B (some p) xs.length c] w λe g=>∃b,e=.returned b/\g.ownsRow w.heap.size 115 1 b xs.length (cellsOf F xs)/\Bl w g:=by
 obtain⟨y,m,s,t,v⟩:=Bs Tryz.infoU64;have K:∀(w:C) (a:nJ) (n c d c':Nat),(binOp .eql 33 (B a n c) (B none d c')).run E w=.ok (.bool a.isNone) w:=λw a n c d c'=>Bk w _ _ a n c d c' underlying33;have A:=Y f;clear f;go_enter func177,ntmps177
 go_wp2_with(at_builtin;refine BO _ J _ _ 33 J w.heap.size 115 y (G F 0) 1 8 underlying33 m s t v J DK _ _ _ J (World.ownsRow_made w #[] 0 (Aa _) (Ap _) J) p xs.length c (cellsOf F xs) J ?qc1 ?qc2 ?qc3 ?qc4 ?qc5 ?qc6 ?_)
 case qc1=>simp[cellsOf]
 case qc2=>
  intro j u z;have i:j<xs.length:=by
   grind[cellsOf]
  refine Lib.cell?_alloc_some _ ?_;rw[A.o j i];grind[cellsOf]
 case qc3=>intro u r;obtain⟨x,_,rfl⟩:=C8.1 r;rfl
 case qc4=>unfold maxLen;omega
 case qc5=>omega
 case qc6=>simp
 intro b M q l D;go_wp2;go_ret;refine⟨b,J,by simpa using q,?_⟩;exact(Ba w _).grown l DG (by intro k o;simp[Value.ownBlock]at o;omega)
theorem Zv{c:Region.Mode}(I:Array Bool->Act->C->Prop)
(step:∀b a w i,b.size=ops.size->I b a w->i∈Region.ready c ops b->wpOp P ops Q i (I (b.setIfInBounds i true)) a w)
(fin:∀b a w,b.size=ops.size->I b a w->Region.ready c ops b=[]->Q .normal a w):
 ∀(d:Nat) (b:Array Bool) (a:Act) (w:C),b.size=ops.size->I1 b<=d->I b a w->wpAny P c ops Q d b a w:=by
 intro d;have m:∀ {b:Array Bool} {i:Nat},i∈Region.ready c ops b->i<ops.size/\b.getD i true=false:=by
  intro b i e;simp only[Region.ready,List.mem_filter,List.mem_range,AY,CN]at e;exact⟨e.1,e.2.1⟩
 induction d with
 |zero=>
  intro b a w g k f;have j:Region.ready c ops b=[]:=by
   cases n:Region.ready c ops b with
   |nil=>rfl
   |cons i l=>
    grind[CC,Mi]
  exact⟨j,fin _ _ _ g f j⟩
 |succ d o=>
  intro b a w g k f;refine⟨fin _ _ _ g f,λi e=>?_⟩;grind[Mi,wpOp_mono]
theorem wp_region_held{id:Nat}(c:P.follows .mixedOrders=true)(I:Array Bool->Act->C->Prop)
(start:I (Array.replicate ops.size false) a w.drew)
(step:∀b a w i,b.size=ops.size->I b a w->i∈Region.ready .any ops b->wpOp P ops Q i (I (b.setIfInBounds i true)) a w)
(fin:∀b a w,b.size=ops.size->I b a w->Region.ready .any ops b=[]->Q .normal a w):
 (Code.region id ops true).wp P Q a w:=
 wp_region_any c (Zv I step fin _ _ _ _ DG (by grind[I1]) start)
theorem J6{id:Nat}(v:P.follows .mixedOrders=true)
(tab:List m4)(l:Region.tabAfter .any ops=tab)(p:Kc tab=true)(I:(Nat->Bool)->Act->C->Prop)
(start:I (λ_=>false) a w.drew)
(step:∀(D:Nat->Bool) a w i ds,(∀i ds,tab[i]?=some ds->D i=true->∀j∈ds,D j=true)->tab[i]?=some ds->(∀j∈ds,D j=true)->D i=false->I D a w->wpOp P ops Q i (I λj=>j==i || D j) a w)
(fin:∀(D:Nat->Bool) a w,(∀i,i<tab.length->D i=true)->I D a w->Q .normal a w):
 (Code.region id ops true).wp P Q a w:=by
 have r:tab.length=ops.size:=by rw[<-l];simp[Region.tabAfter]
 refine wp_region_held v (λb a w=>(∀i ds,tab[i]?=some ds->b.getD i false=true->∀j∈ds,b.getD j false=true)/\I (λj=>b.getD j false) a w) ⟨λi ds _ h=>?_,?_⟩ ?_ ?_
 . simp only[Array.getD,FK]at h;split at h<;>simp at h
 . have e:(λj=>(Array.replicate ops.size false).getD j false)=λ_=>false:=by
    funext j;simp only[Array.getD,FK];split<;>simp
   rw[e];exact start
 . rintro b a w i q ⟨o,d⟩ f;obtain⟨n,ds,c,s⟩:=(mem_ready l).1 f;have m:i<b.size:=by
    rw[q,<-r];rcases AQ i tab.length with h|h
    . exact h
    . grind
   have u:b.getD i false=false:=by
    simp only[Array.getD,m,dif_pos]at n ⊢;exact n
   have e:∀j,(b.setIfInBounds i true).getD j false=(j==i || b.getD j false):=by
    intro j;rw[Fk,Fk,Array.getElem?_setIfInBounds];by_cases k:i=j
    . subst k;simp[m]
    . simp[k,Ne.symm k]
   refine wpOp_mono (λa' M h=>⟨λK y z t j g=>?_,?_⟩) (step _ a w i ds o c s u d)
   . grind
   . rw[show(λj=>(b.setIfInBounds i true).getD j false)=λj=>(j==i || b.getD j false)from funext e];exact h
 . rintro b a w q ⟨o,d⟩ A;refine fin _ a w (λi=>?_) d;induction i using Nat.strongRecOn with
   |_ i x=>
    intro f;cases t:b.getD i false with
    |true=>rfl
    |false=>
     exfalso
     have c:tab[i]?=some tab[i]:=Am f
     have:i∈Region.ready .any ops b:=(mem_ready l).2 ⟨by
      grind,_,c,λj g=>x j (Mj p c g) (by have:=Mj p c g;omega)⟩
     grind
def DN{T:List m4}{D:Nat->Bool}(c:∀i ds,T[i]?=some ds->D i=true->∀j∈ds,D j=true){a k:Nat}{ds:m4}(b:D k=false)(e:T[a]?=some ds:=by rfl)(d:k∈ds:=by simp):D a=false:=by
 cases h:D a with
 |false=>rfl
 |true=>rw[c a ds e h k d]at b;cases b
theorem Ru(a:nJ)(la ca:Nat)(b:m4)(w:C)(s:Row F w (B a la ca) b)(m:0<la):
 Calls E 177 #[B a la ca] w λe c=>∃g d,e=.returned (B (some ⟨g,0,none⟩) la d)/\DO c g b/\w.heap.size<=g/\(la<=d/\d<=9223372036854775807)/\Bl w c:=by
 obtain⟨hl,v,z,y,r⟩:=Ju s;obtain⟨k,l,rfl,_,_⟩:=r 0 m;have f:=Rt ⟨k,l,none⟩ ca b w O (λj x=>by
  grind[Xj])
 rw[<-hl]at f;refine f.mono ?_;rintro e c ⟨A,rfl,i,q⟩;rcases i.2 with⟨_,ev⟩|⟨g,cap,t,ev,n,u,o,p,_⟩
 . omega
 . subst ev;exact⟨_,cap,J,DO.owns i,n,⟨o,p⟩,q⟩
theorem Rv(a:nJ)(la ca:Nat)(c:m4)(w:C)(k:Row F w (B a la ca) c):
 Calls E 177 #[B a la ca] w λe b=>∃l d,e=.returned (B l la d)/\Row F b (B l la d) c/\Bl w b:=by
 obtain⟨hl,x,z,s,y⟩:=Ju k;rcases AZ la with f|f
 . subst f;obtain rfl:c=[]:=Al hl.symm;cases a with
   |none=>
    refine(Zu 0 ca w).mono ?_;rintro e b ⟨rfl,rfl⟩;exact⟨none,0,J,⟨none,0,J,Aa _,O,O,An J⟩,BA _ _⟩
   |some p=>
    refine(Rt p ca [] w DG λj r=>by simp at r).mono ?_;rintro e b ⟨D,rfl,t,i⟩;rcases t.2 with⟨ev,_⟩|⟨g,cap,u,ev,_,_,v,o,_⟩
    . subst ev;exact⟨none,0,J,⟨none,0,J,Aa _,O,O,An J⟩,i⟩
    . subst ev;exact⟨_,cap,J,⟨_,cap,J,Ap _,o,DG,An J⟩,i⟩
 . refine(Ru a la ca c w k f).mono ?_;rintro e b ⟨g,d,rfl,q,_,⟨m,n⟩,i⟩;have A:=q.row 0 la d O m n s;grind

