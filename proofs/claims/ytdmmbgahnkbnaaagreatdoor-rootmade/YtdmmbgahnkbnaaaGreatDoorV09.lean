import Derived.Test.YtdmmbgahnkbnaaaGreatDoorV08
import Derived.Laws.CopyOwn
import Derived.Deep.OwnRows
import Derived.Lib.SliceRun
set_option linter.all false
open Go.Value renaming slice->B,int->G
open Go renaming World->C,undef->L
open Go.Proofs.Tryz renaming prog->E
open Go.IntKind renaming u64->F,i64->I
open Go.Obj renaming cells->H
set_option maxRecDepth 99999
set_option maxHeartbeats 0
namespace Go.Proofs.YtdmmbgahnkbnaaaGreatDoor
open Go.RowKit Go.Shelf
section
def Bs:type_of% @info_parts:=@info_parts
def Bi:type_of% @Lib.run_eql_slice_nil:=@Lib.run_eql_slice_nil
def Bf:type_of% @CallsIn.inRound:=@CallsIn.inRound
variable{p:Addr}{d:Array Bool}{ops:Array Oper}{Q:Exit->Act->C->Prop}{tab:List (List Nat)}{bs ds q xs:List Nat}{c i l len m n:Nat}{a:Option Addr}{P:Program}{w:C}
def eJ(n:Nat):madeCells #[G F 0] n=(cellsOf F (List.replicate n 0)).toArray:=by
 apply Array.ext
 . simp[madeCells,cellsOf]
 . intro i a b;simp[madeCells,cellsOf,Nat.mod_one]
def I2(n:Nat)(h:n<=2199023255552)(w:C):(Instr.makeSlice 37 (G I (n:Int)) (G I (n:Int))).run E w=.ok (B (some ⟨w.heap.size,0,none⟩) n n) (w.alloc (H (cellsOf F (List.replicate n 0)).toArray 141)):=by
 rw[<-eJ];exact run_make_row' 37 141 (G F 0) 8 Tryz.underlying37 Tryz.infoU64 rfl I I n O O w
def NU(l:Nat)(h:l<=2199023255551)(w:C):(Instr.makeSlice 37 (G I ((l:Int)+1)) (G I ((l:Int)+1))).run E w=.ok (B (some ⟨w.heap.size,0,none⟩) (l+1) (l+1)) (w.alloc (H (cellsOf F (List.replicate (l+1) 0)).toArray 141)):=
 I2 (l+1) O w
theorem Yk(b o j:Nat):(⟨b,o,none⟩:Addr).add j=⟨b,o+j,none⟩:=by simp[Addr.add]
theorem XV(h:n<=m):(Jh Y n).length<=(Jh Y m).length:=by
 rcases A4 (Jh Y m).length (Jh Y n).length with a|a
 . have:=PS Jg a;omega
 . exact a
theorem eK{W:C}(h:Row F w (B a l c) ds)(f:Bl w W)(e:a=some p)(_h0:0<l)(j:Nat)(v:Value)(hv:(cellsOf F ds)[j]?=some v):W.cell? (p.add j)=some v:=by
 obtain⟨hl,_,_,_,g⟩:=JK h;have n:j<ds.length:=by
  grind[cellsOf]
 obtain⟨b,m,d,k,i⟩:=g j O;rw[d]at e;cases e;rw[Yk];rw[(f.cell (p:=⟨b,m+j,none⟩) k),i];grind[cellsOf]
theorem I3(h:Row F w (B a l c) ds)(e:a=some p)(d:0<l):p.block<w.heap.size:=by
 obtain⟨b,i,f,g,_⟩:=(JK h).2.2.2.2 0 d;grind
def eL(h:Row F w (B a l c) ds)(e:0<l):∃p,a=some p:=by
 obtain⟨b,g,d,f,_⟩:=(JK h).2.2.2.2 0 e;exact⟨_,d⟩
theorem Tg(h:GM xs bs 0 len c q)(i:xs=Jh Y m)(f:bs=Jh Y n)(hl:len=xs.length)(g:bs.length<=len)(l:n<=m):J3 q=Jh Y (m-n):=by
 obtain⟨a,b,j,d⟩:=h;rw[Ch,Af (show xs.length<=len by omega),Af g,i,f,Jz Jg,Jz Jg]at d;have e:=Y4 b;rw[a]at e;have k:c=0:=by
  grind
 grind[YK,Jg]
theorem Pn(g b f:Nat)(a:Option Addr)(la ca:Nat)(xs:List Nat)(w c:C)(k:Row F w (B a la ca) xs)(i:Bl w c)(hg:w.heap.size<=g)(hA:c.heap[g]?=some (H (cellsOf F (List.replicate b 0)).toArray 141 (0,0)))(hl:la<=b):
 ∃e,(Builtin.copy_ #[37,37] 3 #[B (some ⟨g,0,none⟩) b f,B a la ca]).run E c=.ok (G I (la:Nat)) e/\DS e g (xs++List.replicate (b-la) 0)/\Bl w e:=by
 obtain⟨q,_⟩:=JK k;have l:(Tryz.prog.info? 141).map (·.size)=some 1:=by kernel_rfl
 have n:(cellsOf F xs)++(cellsOf F (List.replicate b 0)).drop la=cellsOf F (xs++List.replicate (b-la) 0):=by simp[cellsOf]
 by_cases o:la=0
 . subst o;refine⟨c,run_copy_none (P:=E) c 37 37 3 141 (some ⟨g,0,none⟩) a b f 0 ca Tryz.underlying37 l (Nat.zero_min b),DS.made ?_,i⟩;grind
 . obtain⟨p,hp⟩:=eL k O;subst hp;have d:(cellsOf F xs).length=la:=by simp[cellsOf,q]
   have m:=run_copy_row (P:=E) c 37 37 3 141 g 0 b f p la ca _ 141 (cellsOf F xs) Tryz.underlying37 l hA (by rw[d];exact(CY hl).symm) (λj v hv=>eK k i rfl O j v hv) (by rw[d];simp[cellsOf];exact hl) (λv hv=>by
    rw[cellsOf,C2]at hv;obtain⟨_,_,rfl⟩:=hv;rfl)
   rw[d,FI,Al,A5,n]at m;exact⟨_,m,DS.made (setRow_heap c g _ _ _ _ hA),below_setRow i hg _⟩
theorem Po(a:Option Addr)(la ca:Nat)(b:Option Addr)(lb cb m n:Nat)(w:C)(j:Row F w (B a la ca) (Jh Y m))(hn:Row F w (B b lb cb) (Jh Y n))(h:n<=m):
 Calls E 102 #[B a la ca,B b lb cb] w λe w'=>∃u,e=.returned u/\UN w' u (m-n)/\Bl w w':=by
 obtain⟨hl,X,U,S,Q⟩:=JK j;obtain⟨v,ae,V,ah,R⟩:=JK hn;have A:lb<=la:=by rw[hl,v];exact XV h
 have f:=Z hl;have i:=Z hn;have D:=I2 la O w;obtain⟨d,g⟩:∃d,d=w.alloc (H (cellsOf F (List.replicate la 0)).toArray 141):=⟨_,rfl⟩;have l:Bl w d:=by rw[g];exact Ba w _
 have o:d.heap[w.heap.size]?=some (H (cellsOf F (List.replicate la 0)).toArray 141 (0,0)):=by rw[g];exact BD w _
 rw[<-g]at D;obtain⟨w2,W,hA2,s⟩:=Pn w.heap.size la la a la ca (Jh Y m) w d j l (Aa _) o (Aa _);rw[Cm,List.replicate_zero,CC]at hA2;clear Q hl R v j hn g l o;go_enter Tryz.func102,Tryz.ntmps102
 go_wp2_with(go_at_call 183;refine(Tf w.heap.size 0 la la (Jh Y m) b lb cb (Jh Y n) _ hA2 (JA Jg m) (by rw[A5,<-f.o];exact Aa _) (Aa _) O A (Row.below i.o s) (JA Jg n) λp e M=>by have:=I3 i.o e M;omega).mono ?_)
 rintro e T ⟨c,q,rfl,hq,hA3,t⟩;have z:=hq.1;have y:Row F T (B (some ⟨w.heap.size,0,none⟩) la la) q:=by
  have N:=hA3.row 0 la la (by rw[Ye z (by rw[<-f.o];omega),<-f.o];omega) (Aa _) O S;have K:((mid (Jh Y m) 0 la q).drop 0).take la=q:=by
   grind[mid]
  rwa[K]at N
 have x:=Z (Tg hq rfl rfl f.o (by have:=JK i.o;omega) h);have r:=below_grown s t (Aa _);clear hq hA3 t;go_wp2_with(go_at_call 95;refine(Xv _ q _ y).mono ?_)
 rintro e w4 ⟨u,rfl,k,P⟩;rw[x.o]at k;obtain⟨ua,uc,rfl⟩:=UN.form k;go_wp2;go_ret;exact⟨_,rfl,k,r.trans (P.mono r.size)⟩
theorem Th(h:Ga (xs++[0]) bs 0 len c q)(i:xs=Jh Y m)(g:bs=Jh Y n)(hl:len=xs.length+1)(o:bs.length<=xs.length):J3 q=Jh Y (m+n):=by
 obtain⟨j,b,k,a⟩:=h;have p:m<Y^xs.length:=by
  grind[Y4,JA,Jg,Jz]
 have hn:n<Y^xs.length:=by
  have:=Y4 (JA Jg n);grind[Jz,An,AE,Y]
 rw[Ch,Af (show(xs++[0]).length<=len by simp;omega),Af (show bs.length<=len by omega),IP,CI,Cf,g,Jz Jg]at a;have e:val Y xs=m:=by rw[i,Jz Jg]
 rw[e]at a;have f:Y^len=Y^xs.length*Y:=by rw[hl,Ck]
 have l:Y^xs.length*2<=Y^len:=by rw[f];exact Ai _ Jg
 have d:c=0:=by
  grind
 subst d;rw[<-YK Jg b];congr 1
theorem Ti(a:Option Addr)(la ca:Nat)(b:Option Addr)(lb cb m n:Nat)(w:C)(j:Row F w (B a la ca) (Jh Y m))(hn:Row F w (B b lb cb) (Jh Y n))(am:la<1099511627776)(an:lb<1099511627776):
 Calls E 100 #[B a la ca,B b lb cb] w λe w'=>∃u,e=.returned u/\UN w' u (m+n)/\Bl w w':=by
 by_cases ap:la<lb
 . obtain⟨hl,ae,V,ai,S⟩:=JK hn;obtain⟨x,ah,W,aj,T⟩:=JK j;obtain⟨k,l,D⟩:=DX hl j x;have M:=NU lb O w;obtain⟨d,f⟩:∃d,d=w.alloc (H (cellsOf F (List.replicate (lb+1) 0)).toArray 141):=⟨_,rfl⟩;have o:Bl w d:=by rw[f];exact Ba w _
   have r:d.heap[w.heap.size]?=some (H (cellsOf F (List.replicate (lb+1) 0)).toArray 141 (0,0)):=by rw[f];exact BD w _
   rw[<-f]at M;obtain⟨w2,X,hA2,t⟩:=Pn w.heap.size (lb+1) (lb+1) b lb cb (Jh Y n) w d hn o (Aa _) r O;rw[show lb+1-lb=1 from by omega,List.replicate_one]at hA2;have y:=Z (show DO Y (Jh Y n++[0])from(JA Jg n).append (DO.cons uo (DO.nil _)));have g:=Z (show(Jh Y n++[0]).length=lb+1 by grind);clear S hl T x j hn f o r;go_enter Tryz.func100,Tryz.ntmps100
   go_wp2_with(go_at_call 182;refine(Pm w.heap.size 0 (lb+1) (lb+1) (Jh Y n++[0]) a la ca (Jh Y m) _ hA2 y.o (by rw[A5,g.o];exact Aa _) (Aa _) O O (Row.below l.o t) (JA Jg m) λp e P=>by have:=I3 l.o e P;omega).mono ?_)
   rintro e U ⟨c,q,rfl,hq,hA3,v⟩;have K:=hq.1;have A:Row F U (B (some ⟨w.heap.size,0,none⟩) (lb+1) (lb+1)) q:=by
    have Q:=hA3.row 0 (lb+1) (lb+1) (by rw[Ye K (by rw[g.o];omega),g.o];omega) (Aa _) O O;have N:((mid (Jh Y n++[0]) 0 (lb+1) q).drop 0).take (lb+1)=q:=by
     grind[mid]
    rwa[N]at Q
   have z:=Z (Th hq rfl rfl (by rw[<-k.o]) (by rw[<-k.o,<-D.o];omega));have s:=below_grown t v (Aa _);clear hq hA3 v;go_wp2_with(go_at_call 95;refine(Xv _ q _ A).mono ?_)
   rintro e w4 ⟨u,rfl,i,R⟩;rw[z.o]at i;obtain⟨ua,uc,rfl⟩:=UN.form i;go_wp2;go_ret;exact⟨_,rfl,by rw[Fy m n];exact i,s.trans (R.mono s.size)⟩
 . obtain⟨hl,ae,V,ai,S⟩:=JK j;obtain⟨x,ah,W,aj,T⟩:=JK hn;obtain⟨k,l,D⟩:=DX hl hn x;have M:=NU la O w;obtain⟨d,f⟩:∃d,d=w.alloc (H (cellsOf F (List.replicate (la+1) 0)).toArray 141):=⟨_,rfl⟩;have o:Bl w d:=by rw[f];exact Ba w _
   have r:d.heap[w.heap.size]?=some (H (cellsOf F (List.replicate (la+1) 0)).toArray 141 (0,0)):=by rw[f];exact BD w _
   rw[<-f]at M;obtain⟨w2,X,hA2,t⟩:=Pn w.heap.size (la+1) (la+1) a la ca (Jh Y m) w d j o (Aa _) r O;rw[show la+1-la=1 from by omega,List.replicate_one]at hA2;have y:=Z (show DO Y (Jh Y m++[0])from(JA Jg m).append (DO.cons uo (DO.nil _)));have g:=Z (show(Jh Y m++[0]).length=la+1 by grind);clear S hl T x j hn f o r;go_enter Tryz.func100,Tryz.ntmps100
   go_wp2_with(go_at_call 182;refine(Pm w.heap.size 0 (la+1) (la+1) (Jh Y m++[0]) b lb cb (Jh Y n) _ hA2 y.o (by rw[A5,g.o];exact Aa _) (Aa _) O O (Row.below l.o t) (JA Jg n) λp e P=>by have:=I3 l.o e P;omega).mono ?_)
   rintro e U ⟨c,q,rfl,hq,hA3,v⟩;have K:=hq.1;have A:Row F U (B (some ⟨w.heap.size,0,none⟩) (la+1) (la+1)) q:=by
    have Q:=hA3.row 0 (la+1) (la+1) (by rw[Ye K (by rw[g.o];omega),g.o];omega) (Aa _) O O;have N:((mid (Jh Y m++[0]) 0 (la+1) q).drop 0).take (la+1)=q:=by
     grind[mid]
    rwa[N]at Q
   have z:=Z (Th hq rfl rfl (by rw[<-k.o]) (by rw[<-k.o,<-D.o];omega));have s:=below_grown t v (Aa _);clear hq hA3 v;go_wp2_with(go_at_call 95;refine(Xv _ q _ A).mono ?_)
   rintro e w4 ⟨u,rfl,i,R⟩;rw[z.o]at i;obtain⟨ua,uc,rfl⟩:=UN.form i;go_wp2;go_ret;exact⟨_,rfl,i,s.trans (R.mono s.size)⟩
def Kd(a:Array Bool):Nat:=a.toList.countP λb=>!b
theorem NW(hi:i<d.size)(h:d.getD i true=false):Kd (d.setIfInBounds i true)+1=Kd d:=by
 grind[Array.getInternal_eq_getElem,Kd]
theorem eM{F:Fence}{c:Region.Mode}(I:Array Bool->Act->C->Prop)
(step:∀b a w i,b.size=ops.size->I b a w->i∈Region.ready c ops b->wpOpIn F n P ops Q i (I (b.setIfInBounds i true)) a w)
(fin:∀b a w,b.size=ops.size->I b a w->Region.ready c ops b=[]->Q .normal a w):
 ∀(d:Nat) (b:Array Bool) (a:Act) (w:C),b.size=ops.size->Kd b<=d->I b a w->wpAnyIn F n P c ops Q d b a w:=by
 intro d;have g:∀ {b:Array Bool} {i:Nat},i∈Region.ready c ops b->i<ops.size/\b.getD i true=false:=by
  intro b i hi;simp only[Region.ready,List.mem_filter,List.mem_range,C5,CW]at hi;exact⟨hi.1,hi.2.1⟩
 induction d with
 |zero=>
  intro b a w hs f e;have hn:Region.ready c ops b=[]:=by
   cases j:Region.ready c ops b with
   |nil=>rfl
   |cons i l=>
    grind[Ao,NW]
  exact⟨hn,fin _ _ _ hs e hn⟩
 |succ d k=>
  intro b a w hs f e;refine⟨fin _ _ _ hs e,λi hi=>?_⟩;grind[NW,wpOpIn_mono]
def Dh:Tryz.prog.follows .mixedOrders=true:=by kernel_rfl
theorem eN{F:Fence}{id:Nat}{a:Act}(c:P.follows .mixedOrders=true)(I:Array Bool->Act->C->Prop)
(start:I (Array.replicate ops.size false) a w.drew)
(step:∀b a w i,b.size=ops.size->I b a w->i∈Region.ready .any ops b->wpOpIn F n P ops Q i (I (b.setIfInBounds i true)) a w)
(fin:∀b a w,b.size=ops.size->I b a w->Region.ready .any ops b=[]->Q .normal a w):
 (Code.region id ops true).wpIn F n P Q a w:=
 wpIn_region_any c (eM I step fin _ _ _ _ DI (by grind[Kd]) start)
def LJ(tab:List (List Nat)):Bool:=tab.zipIdx.all λp=>p.1.all (·<p.2)
def NX(h:LJ tab=true)(hi:tab[i]?=some ds){j:Nat}(a:j∈ds):j<i:=by
 simp only[LJ,AJ,Bw]at h;exact h (ds,i) (List.mk_mem_zipIdx_iff_getElem?.2 hi) j a
theorem mem_ready{c:Region.Mode}(f:Region.tabAfter c ops=tab):
 i∈Region.ready c ops d↔d.getD i true=false/\∃ds,tab[i]?=some ds/\∀j∈ds,d.getD j false=true:=by
 subst f;simp only[Region.ready,List.mem_filter,List.mem_range,C5,CW,Region.tabAfter,Fe,Fq];constructor
 . rintro⟨e,b,a⟩;rw[Array.getElem?_eq_getElem e]at a ⊢;simp only[Option.map_some,Option.getD_some,Array.all_eq_true',Bool.or_eq_true,CW]at a;refine⟨b,_,rfl,λj k=>?_⟩;grind
 . rintro⟨b,ds,g,a⟩;grind
theorem X9{F:Fence}{id:Nat}{a:Act}(u:P.follows .mixedOrders=true)
(tab:List (List Nat))(k:Region.tabAfter .any ops=tab)(p:LJ tab=true)(I:(Nat->Bool)->Act->C->Prop)
(start:I (λ_=>false) a w.drew)
(step:∀(D:Nat->Bool) a w i ds,(∀i ds,tab[i]?=some ds->D i=true->∀j∈ds,D j=true)->tab[i]?=some ds->(∀j∈ds,D j=true)->D i=false->I D a w->wpOpIn F n P ops Q i (I λj=>j==i || D j) a w)
(fin:∀(D:Nat->Bool) a w,(∀i,i<tab.length->D i=true)->I D a w->Q .normal a w):
 (Code.region id ops true).wpIn F n P Q a w:=by
 have q:tab.length=ops.size:=by rw[<-k];simp[Region.tabAfter]
 refine eN u (λb a w=>(∀i ds,tab[i]?=some ds->b.getD i false=true->∀j∈ds,b.getD j false=true)/\I (λj=>b.getD j false) a w) ⟨λi ds _ h=>?_,?_⟩ ?_ ?_
 . simp only[Array.getD,CA]at h;split at h<;>simp at h
 . have e:(λj=>(Array.replicate ops.size false).getD j false)=λ_=>false:=by
    funext j;simp only[Array.getD,CA];split<;>simp
   rw[e];exact start
 . rintro b a w i hs ⟨o,d⟩ hi;obtain⟨m,ds,c,r⟩:=(mem_ready k).1 hi;have l:i<b.size:=by
    rw[hs,<-q];rcases A4 i tab.length with h|h
    . exact h
    . grind
   have t:b.getD i false=false:=by
    simp only[Array.getD,l,dif_pos]at m ⊢;exact m
   have e:∀j,(b.setIfInBounds i true).getD j false=(j==i || b.getD j false):=by
    intro j;rw[C4,C4,Array.getElem?_setIfInBounds];by_cases g:i=j
    . subst g;simp[l]
    . simp[g,Ne.symm g]
   refine wpOpIn_mono (λa' w' h=>⟨λz x y s j f=>?_,?_⟩) (step _ a w i ds o c r t d)
   . grind
   . rw[show(λj=>(b.setIfInBounds i true).getD j false)=λj=>(j==i || b.getD j false)from funext e];exact h
 . rintro b a w hs ⟨o,d⟩ hn;refine fin _ a w (λi=>?_) d;induction i using Nat.strongRecOn with
   |_ i v=>
    intro hi;cases s:b.getD i false with
    |true=>rfl
    |false=>
     exfalso
     have c:tab[i]?=some tab[i]:=AO hi
     have:i∈Region.ready .any ops b:=(mem_ready k).2 ⟨by
      grind,_,c,λj f=>v j (NX p c f) (by have:=NX p c f;omega)⟩
     grind
attribute [local go_sem] Oper.semAt_some
def Tj(w:C)(a:Option Addr)(len ca:Nat)(b:Option Addr)(lb cb:Nat)(xs c:List Nat)(k:Nat)(W:C):Prop:=
 (((Boxed W w.heap.size 37 (B b lb cb)/\Boxed W (w.heap.size+1) 3 (.int I 0))/\Boxed W (w.heap.size+1+1) 37 (B a len ca))/\Bl w W)/\xs.drop (len-k)=c.drop (len-k)
def Tk(w:C)(xs a:List Nat)(c:Code)(_k:Nat)(W:C):Prop:=
 (Boxed W (w.heap.size+1) 3 (.int I (D4 (val Y xs) (val Y a)))/\Bl w W)/\c=.ret
def eQ(w:C)(a:Option Addr)(len ca:Nat)(b:Option Addr)(lb cb:Nat)(xs c:List Nat):OwnFrom (w.heap.size+1+1+1) (Tj w a len ca b lb cb xs c):=
 BN (BN (BN (BN (Bg (boxed_own _ _ λ_=>B b lb cb) _) (Bg (boxed_own _ _ λ_=>G I 0) _)) (Bg (boxed_own _ _ λ_=>B a len ca) _)) (Bv (Aa _) O)) (DG _ _)
def eS(w:C)(xs a:List Nat)(c:Code):OwnFrom (w.heap.size+1+1+1) (Tk w xs a c):=
 BN (BN (Bg (boxed_own _ _ λ_=>G I (D4 (val Y xs) (val Y a))) _) (Bv (Aa _) O)) (DG _ _)
theorem eT{c:Bool}(h:m≠n)(a:c=decide (n<m)):(if c then 1 else -1:Int)=D4 m n:=by
 grind[LI,NG]
def eU(a:Option Addr)(la ca:Nat)(b:Option Addr)(lb cb:Nat)(w:C)(m n:Nat)(g:la≠lb)(f:la<lb↔m<n)(d:m≠n):
 Calls E 101 #[B a la ca,B b lb cb] w λe w'=>e=.returned (G I (D4 m n))/\Bl w w':=by
 have i:(((la:Nat):Int) != (lb:Int))=true:=by rw[bne_iff_ne];omega
 have c:=Z (show(if decide ((lb:Int)<(la:Int))=true then 1 else -1:Int)=D4 m n from eT d DH);clear f d g;refine(BI (n:=3)).1 ?_;refine BO Tryz.func101 rfl trivial ?_ rfl;simp only[Tryz.ntmps101,Ar,Ah,AG,Nat.reduceAdd,Nat.reduceSub,At,Au,AC,Aw,Al,Ay];gi_wp2_with(refine⟨trivial,?_⟩;gi_at_call 166;refine((BI (n:=_)).2 (Pg _ _)).mono ?_;rintro e w' ⟨rfl,rfl⟩)
 . have hv:D4 m n=1:=by rw[<-c.o,BF si]
   have q:=(BG (w.alloc (H #[B b lb cb] 37)) 3 (G I 1)).cell;simp only[Ax]at q;refine⟨G I 1,by simp[results,Tryz.results101,go_sem,q],by rw[hv],?_⟩;exact(Ba w _).alloc DI _
 . have hv:D4 m n=-1:=by rw[<-c.o,BE si]
   have q:=(BG (w.alloc (H #[B b lb cb] 37)) 3 (G I (-1))).cell;simp only[Ax]at q;refine⟨G I (-1),by simp[results,Tryz.results101,go_sem,q],by rw[hv],?_⟩;exact(Ba w _).alloc DI _
theorem eV(a:Option Addr)(len ca:Nat)(b:Option Addr)(cb:Nat)(xs d:List Nat)(w:C)(ha:Row F w (B a len ca) xs)(hb:Row F w (B b len cb) d)(xa:DO Y xs)(xb:DO Y d):
 Calls E 101 #[B a len ca,B b len cb] w λe w'=>e=.returned (G I (D4 (val Y xs) (val Y d)))/\Bl w w':=by
 obtain⟨hl,am,ap,aj,u⟩:=JK ha;obtain⟨ai,an,aq,ay,ae⟩:=JK hb;obtain⟨z,T,HC,Qe⟩:=Dt hl ai u ae;clear u ae hl ai ha hb;refine(BI (n:=3)).1 ?_;refine BO Tryz.func101 rfl trivial ?_ rfl;simp only[Tryz.ntmps101,Ar,Ah,AG,Nat.reduceAdd,Nat.reduceSub,At,Au,AC,Aw,Al,Ay];gi_wp2_with(refine⟨trivial,?_⟩;gi_at_call 177;refine(Lz Fence.wide _ trivial rfl _ _ _ _).mono ?_;rintro e w' ⟨rfl,rfl⟩)
 obtain⟨W0,t⟩:=ex (((w.alloc (H #[B b len cb] 37)).alloc (H #[G I 0] 3)).alloc (H #[B a len ca] 37));have b0:=((BG w 37 (B b len cb)).alloc (H #[G I 0] 3)).alloc (H #[B a len ca] 37);have M:=(BG (w.alloc (H #[B b len cb] 37)) 3 (G I 0)).alloc (H #[B a len ca] 37);have P:=BG ((w.alloc (H #[B b len cb] 37)).alloc (H #[G I 0] 3)) 37 (B a len ca);simp only[Ax]at M P;have hN:W0.heap.size=w.heap.size+1+1+1:=by rw[<-t];simp
 have Qf:Bl w W0:=by rw[<-t];exact((Ba w _).alloc DI _).alloc si _
 rw[t]at b0 M P ⊢;clear t;refine XT rfl O (gf:=230) (lb:=#[.pointer (some ⟨w.heap.size+1+1,0,none⟩)]) rfl trivial (Bn Tryz.func230 (by kernel_rfl) rfl)
  (Ly Fence.wide _ trivial rfl O (w.heap.size+1+1) a len ca (λj=>xs[j]?.getD 0) aj) (λ_=>rfl)
  (Tj w a len ca b len cb xs d) (Tk w xs d) (by rw[hN];exact eQ w a len ca b len cb xs d) (λc=>by rw[hN];exact eS w xs d c)
  ⟨⟨⟨⟨b0,M⟩,P⟩,Qf⟩,by rw[Fj,AX (by rw[z.o];exact Aa _),AX (by rw[T.o];exact Aa _)]⟩ ?rd
  (λk=>{ tmps:=#[B a len ca,B b len cb,L,.pointer (some ⟨w.heap.size,0,none⟩),.pointer (some ⟨w.heap.size+1,0,none⟩),G I ((len:Int)-1-k),G F (xs[len-1-k]?.getD 0:Nat),B a len ca,G I (len:Nat),B b len cb,G I (len:Nat),.bool false,L,L,L,L,L,L,B a len ca,.func (.func 230) #[] #[.pointer (some ⟨w.heap.size+1+1,0,none⟩)],G I ((len:Int)-1-k),G F (xs[len-1-k]?.getD 0:Nat),L,L,L,L,L,L,L,L,L,L,L,L,L],defers:=[] }) ?assign ?body ?done ?stop
 case rd=>
  rintro k W ⟨⟨⟨_,c2⟩,f⟩,_⟩;refine⟨c2.cell,λhk=>?_⟩;obtain⟨s,v,ea,Q,u⟩:=HC.o (len-1-k) O;exact⟨s,v,ea,(f.cell (p:=⟨s,v+(len-1-k),none⟩) Q).trans u⟩
 case assign=>
  intro l k W K g;unfold ID;gi_wp2;exact g
 case body=>
  rintro l k W ⟨⟨⟨⟨c0,c1⟩,c2⟩,f⟩,i⟩ hk az;have d0:=c0.cell;have d1:=c1.cell;have f1:=c1.frozen;obtain⟨s,v,rfl,Q,ah⟩:=Qe.o (len-1-k) O;have dy:=(f.cell (p:=⟨s,v+(len-1-k),none⟩) Q).trans ah;clear ah;have e1:((len:Int)-1-k)=((len-1-k:Nat):Int):=O
  rw[e1];have hm:len-1-k<len:=O
  have es:len-1-k+1=len-k:=O
  have V:xs.drop (len-1-k+1)=d.drop (len-1-k+1):=by rw[es];exact i
  have U:=z.o.symm.trans T.o;have o:=Z λ(h:xs[len-1-k]?.getD 0=d[len-1-k]?.getD 0)=>cY U (len-1-k) (by rw[<-z.o];exact hm) V h;have r:=Z (show xs[len-1-k]?.getD 0≠d[len-1-k]?.getD 0->D4 (val Y xs) (val Y d)=D4 (xs[len-1-k]?.getD 0) (d[len-1-k]?.getD 0)from λh=>by
   grind[LI,cX,NG])
  have S:=Z (show len-(k+1)=len-1-k by omega);clear e1 es V i U;generalize xs[len-1-k]?.getD 0=x at o r ⊢;generalize d[len-1-k]?.getD 0=y at o r dy;generalize len-1-k=m at o hm S dy ⊢;by_cases R:x=y
  . subst R;gi_wp2_with fail
    refine⟨KeepsFrom.refl _ _,⟨⟨⟨c0,c1⟩,c2⟩,f⟩,?_⟩;rw[S.o];exact o.o DI
  . have bf:(((x:Nat):Int) != (y:Int))=true:=by rw[bne_iff_ne];omega
    have A:=Z R;clear R;gi_wp2_with(refine⟨trivial,?_⟩;gi_at_call 166;refine(Bf l ((BI (n:=_)).2 (Pg _ _))).mono ?_;rintro e w' ⟨rfl,rfl⟩)
    . refine⟨(BK _ _ _).from _,⟨?_,f.setCell (p:=⟨w.heap.size+1,0,none⟩) DI _⟩,rfl⟩;rw[r.o A.o,NG ‹y<x›];exact c1.set _
    . refine⟨(BK _ _ _).from _,⟨?_,f.setCell (p:=⟨w.heap.size+1,0,none⟩) DI _⟩,rfl⟩;rw[r.o A.o,LI (by have:=A.o;omega)];exact c1.set _
 case done=>
  rintro D W hD ⟨⟨⟨⟨c0,c1⟩,c2⟩,f⟩,i⟩ g;have d1:=c1.cell;have f1:=c1.frozen;have HZ:=Z i;clear i;gi_wp2;have X:=(BK W ⟨w.heap.size+1,0,none⟩ (G I 0)).same D _ g rfl;refine⟨DI,.inl ⟨_,_,rfl,BQ X,?_⟩⟩;have N:=(c1.set (G I 0)).kept (BR _ D (.deferred none)) (λe=>by grind);have q:=N.cell;have hv:D4 (val Y xs) (val Y d)=0:=by
   have:=HZ.o;grind[TB]
  refine⟨G I 0,by simp[results,Tryz.results101,go_sem,q],by rw[hv],?_⟩;exact(f.setCell (p:=⟨w.heap.size+1,0,none⟩) DI _).trans (DA (w:=w) (Aa _) _ D _ _ O X rfl rfl)
 case stop=>
  rintro D c k W hD hk ⟨⟨c1,f⟩,rfl⟩ g;have d1:=c1.cell;gi_wp2;refine⟨DI,.inl ⟨_,_,rfl,BQ g,?_⟩⟩;have N:=c1.kept (BR _ D (.deferred none)) (λe=>by grind);have q:=N.cell;refine⟨G I (D4 (val Y xs) (val Y d)),by simp[results,Tryz.results101,go_sem,q],rfl,?_⟩;exact f.trans (DA (w:=w) (Aa _) _ D _ _ O g rfl rfl)
theorem Pp(l m:Value)(xs c:List Nat)(w:C)(k:Row F w l xs)(j:Row F w m c)(d:DO Y xs)(f:DO Y c)(ta:Gm xs)(tb:Gm c):
 Calls E 101 #[l,m] w λe w'=>e=.returned (G I (D4 (val Y xs) (val Y c)))/\Bl w w':=by
 obtain⟨a,ca,rfl,n⟩:=id k;obtain⟨b,cb,rfl,o⟩:=id j;have i:2<=Y:=by unfold Y;omega
 by_cases hl:xs.length=c.length
 . rw[<-hl]at j ⊢;exact eV a xs.length ca b cb xs c w k j d f
 . refine eU a _ ca b _ cb w _ _ hl ?_ ?_
   . constructor
     . exact λh=>X1 i d f ta tb h
     . intro h;grind[Nat.lt_or_gt_of_ne,X1]
   . rcases Nat.lt_or_gt_of_ne hl with g|g
     . have:=X1 i d f ta tb g;omega
     . have:=X1 i f d tb ta g;omega
end
variable{a:Act}{ops:Array Oper}{Q:Exit->Act->C->Prop}{P:Program}{w:C}
def Tl(n c:Nat)(w:C):Calls E 178 #[B none n c] w λe w'=>e=.returned (B none 0 0)/\w'=w:=by
 have d:∀(w:C) (a:Option Addr) (n c b c':Nat),(binOp .eql 37 (B a n c) (B none b c')).run E w=.ok (.bool a.isNone) w:=λw a n c b c'=>Bi w _ _ a n c b c' Tryz.underlying37;go_enter Tryz.func178,Tryz.ntmps178
 go_wp2;go_ret;exact⟨rfl,rfl⟩
theorem L0(p:Addr)(c:Nat)(xs:List Nat)(w:C)(hl:xs.length<=1099511627776)(f:∀j,j<xs.length->w.cell? (p.add j)=some (G F (xs[j]?.getD 0:Nat))):
 Calls E 178 #[B (some p) xs.length c] w λe w'=>∃b,e=.returned b/\w'.ownsRow w.heap.size 141 1 b xs.length (cellsOf F xs)/\Bl w w':=by
 obtain⟨s,hi,o,q,r⟩:=Bs Tryz.infoU64;have y:∀(w:C) (a:Option Addr) (n c d c':Nat),(binOp .eql 37 (B a n c) (B none d c')).run E w=.ok (.bool a.isNone) w:=λw a n c d c'=>Bi w _ _ a n c d c' Tryz.underlying37;have A:=Z f;clear f;go_enter Tryz.func178,Tryz.ntmps178
 go_wp2_with(at_builtin;refine wpList_append_own _ rfl _ _ 37 rfl w.heap.size 141 s (G F 0) 1 8 Tryz.underlying37 hi o q r rfl DK _ _ _ rfl (World.ownsRow_made w #[] 0 (Aa _) (As _) rfl) p xs.length c (cellsOf F xs) rfl ?qc1 ?qc2 ?qc3 ?qc4 ?qc5 ?qc6 ?_)
 case qc1=>simp[cellsOf]
 case qc2=>
  intro j u t;have g:j<xs.length:=by
   grind[cellsOf]
  refine Lib.cell?_alloc_some _ ?_;rw[A.o j g];grind[cellsOf]
 case qc3=>intro u m;obtain⟨x,_,rfl⟩:=C2.1 m;rfl
 case qc4=>unfold maxLen;omega
 case qc5=>omega
 case qc6=>simp
 intro b w1 l i v;go_wp2;go_ret;refine⟨b,rfl,by simpa using l,?_⟩;exact(Ba w _).grown i DI (by intro k hk;simp[Value.ownBlock]at hk;omega)
theorem eX{c:Region.Mode}(I:Array Bool->Act->C->Prop)
(step:∀b a w i,b.size=ops.size->I b a w->i∈Region.ready c ops b->wpOp P ops Q i (I (b.setIfInBounds i true)) a w)
(fin:∀b a w,b.size=ops.size->I b a w->Region.ready c ops b=[]->Q .normal a w):
 ∀(d:Nat) (b:Array Bool) (a:Act) (w:C),b.size=ops.size->Kd b<=d->I b a w->wpAny P c ops Q d b a w:=by
 intro d;have g:∀ {b:Array Bool} {i:Nat},i∈Region.ready c ops b->i<ops.size/\b.getD i true=false:=by
  intro b i hi;simp only[Region.ready,List.mem_filter,List.mem_range,C5,CW]at hi;exact⟨hi.1,hi.2.1⟩
 induction d with
 |zero=>
  intro b a w hs f e;have hn:Region.ready c ops b=[]:=by
   cases j:Region.ready c ops b with
   |nil=>rfl
   |cons i l=>
    grind[Ao,NW]
  exact⟨hn,fin _ _ _ hs e hn⟩
 |succ d k=>
  intro b a w hs f e;refine⟨fin _ _ _ hs e,λi hi=>?_⟩;grind[NW,wpOp_mono]
theorem wp_region_held{id:Nat}(c:P.follows .mixedOrders=true)(I:Array Bool->Act->C->Prop)
(start:I (Array.replicate ops.size false) a w.drew)
(step:∀b a w i,b.size=ops.size->I b a w->i∈Region.ready .any ops b->wpOp P ops Q i (I (b.setIfInBounds i true)) a w)
(fin:∀b a w,b.size=ops.size->I b a w->Region.ready .any ops b=[]->Q .normal a w):
 (Code.region id ops true).wp P Q a w:=
 wp_region_any c (eX I step fin _ _ _ _ DI (by grind[Kd]) start)
theorem Xp{id:Nat}(t:P.follows .mixedOrders=true)
(tab:List (List Nat))(k:Region.tabAfter .any ops=tab)(o:LJ tab=true)(I:(Nat->Bool)->Act->C->Prop)
(start:I (λ_=>false) a w.drew)
(step:∀(D:Nat->Bool) a w i ds,(∀i ds,tab[i]?=some ds->D i=true->∀j∈ds,D j=true)->tab[i]?=some ds->(∀j∈ds,D j=true)->D i=false->I D a w->wpOp P ops Q i (I λj=>j==i || D j) a w)
(fin:∀(D:Nat->Bool) a w,(∀i,i<tab.length->D i=true)->I D a w->Q .normal a w):
 (Code.region id ops true).wp P Q a w:=by
 have p:tab.length=ops.size:=by rw[<-k];simp[Region.tabAfter]
 refine wp_region_held t (λb a w=>(∀i ds,tab[i]?=some ds->b.getD i false=true->∀j∈ds,b.getD j false=true)/\I (λj=>b.getD j false) a w) ⟨λi ds _ h=>?_,?_⟩ ?_ ?_
 . simp only[Array.getD,CA]at h;split at h<;>simp at h
 . have e:(λj=>(Array.replicate ops.size false).getD j false)=λ_=>false:=by
    funext j;simp only[Array.getD,CA];split<;>simp
   rw[e];exact start
 . rintro b a w i hs ⟨n,d⟩ hi;obtain⟨m,ds,c,q⟩:=(mem_ready k).1 hi;have l:i<b.size:=by
    rw[hs,<-p];rcases A4 i tab.length with h|h
    . exact h
    . grind
   have s:b.getD i false=false:=by
    simp only[Array.getD,l,dif_pos]at m ⊢;exact m
   have e:∀j,(b.setIfInBounds i true).getD j false=(j==i || b.getD j false):=by
    intro j;rw[C4,C4,Array.getElem?_setIfInBounds];by_cases g:i=j
    . subst g;simp[l]
    . simp[g,Ne.symm g]
   refine wpOp_mono (λa' w' h=>⟨λy v x r j f=>?_,?_⟩) (step _ a w i ds n c q s d)
   . grind
   . rw[show(λj=>(b.setIfInBounds i true).getD j false)=λj=>(j==i || b.getD j false)from funext e];exact h
 . rintro b a w hs ⟨n,d⟩ hn;refine fin _ a w (λi=>?_) d;induction i using Nat.strongRecOn with
   |_ i u=>
    intro hi;cases r:b.getD i false with
    |true=>rfl
    |false=>
     exfalso
     have c:tab[i]?=some tab[i]:=AO hi
     have:i∈Region.ready .any ops b:=(mem_ready k).2 ⟨by
      grind,_,c,λj f=>u j (NX o c f) (by have:=NX o c f;omega)⟩
     grind
def Du{T:List (List Nat)}{D:Nat->Bool}(c:∀i ds,T[i]?=some ds->D i=true->∀j∈ds,D j=true){a k:Nat}{ds:List Nat}(b:D k=false)(e:T[a]?=some ds:=by rfl)(d:k∈ds:=by simp):D a=false:=by
 cases h:D a with
 |false=>rfl
 |true=>rw[c a ds e h k d]at b;cases b
theorem Tm(a:Option Addr)(la ca:Nat)(b:List Nat)(w:C)(q:Row F w (B a la ca) b)(k:0<la):
 Calls E 178 #[B a la ca] w λe w'=>∃g c,e=.returned (B (some ⟨g,0,none⟩) la c)/\DS w' g b/\w.heap.size<=g/\(la<=c/\c<=9223372036854775807)/\Bl w w':=by
 obtain⟨hl,s,u,hk,p⟩:=JK q;obtain⟨ab,i,rfl,_,_⟩:=p 0 k;have d:=L0 ⟨ab,i,none⟩ ca b w O (λj t=>by
  grind[Yk])
 rw[<-hl]at d;refine d.mono ?_;rintro e w' ⟨v,rfl,f,o⟩;rcases f.2 with⟨_,ev⟩|⟨g,cap,cur,ev,l,r,m,n,_⟩
 . omega
 . subst ev;exact⟨_,cap,rfl,DS.owns f,l,⟨m,n⟩,o⟩
theorem Tn(a:Option Addr)(la ca:Nat)(b:List Nat)(w:C)(i:Row F w (B a la ca) b):
 Calls E 178 #[B a la ca] w λe w'=>∃k c,e=.returned (B k la c)/\Row F w' (B k la c) b/\Bl w w':=by
 obtain⟨hl,s,u,hk,t⟩:=JK i;rcases AN la with d|d
 . subst d;obtain rfl:b=[]:=AH hl.symm;cases a with
   |none=>
    refine(Tl 0 ca w).mono ?_;rintro e w' ⟨rfl,rfl⟩;exact⟨none,0,rfl,⟨none,0,rfl,Aa _,O,O,Or.inl rfl⟩,BB _ _⟩
   |some p=>
    refine(L0 p ca [] w DI λj o=>by simp at o).mono ?_;rintro e w' ⟨x,rfl,q,f⟩;rcases q.2 with⟨ev,_⟩|⟨g,cap,cur,ev,_,_,r,n,_⟩
    . subst ev;exact⟨none,0,rfl,⟨none,0,rfl,Aa _,O,O,Or.inl rfl⟩,f⟩
    . subst ev;exact⟨_,cap,rfl,⟨_,cap,rfl,As _,n,DI,Or.inl rfl⟩,f⟩
 . refine(Tm a la ca b w i d).mono ?_;rintro e w' ⟨g,c,rfl,hA,_,⟨l,m⟩,f⟩;have v:=hA.row 0 la c O l m hk;grind

