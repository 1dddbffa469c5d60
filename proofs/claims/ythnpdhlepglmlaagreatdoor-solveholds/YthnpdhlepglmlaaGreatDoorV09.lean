import Derived.Test.YthnpdhlepglmlaaGreatDoorV08
import Derived.Laws.CopyOwn
import Derived.Deep.OwnRows
set_option linter.all false
open Go.Value renaming slice->B,int->G
open Go renaming World->C,undef->L
open Go.Proofs.Tryz renaming prog->E
open Go.IntKind renaming u64->F,i64->I
open Go.Obj renaming cells->H
set_option maxRecDepth 99999
set_option maxHeartbeats 0
namespace Go.Proofs.YthnpdhlepglmlaaGreatDoor
open List renaming replicate->yA
open Proofs.Tryz
open Go.RowKit Go.Shelf
section
def Bo:=@info_parts
def Bi:=@Lib.run_eql_slice_nil
def Bg:=@CallsIn.inRound
variable{p:Addr}{d:Array Bool}{ops:Array Oper}{Q:Exit->Act->C->Prop}{tab:List m0}{bs ds q xs:m0}{c i l len m n:Nat}{a:om}{P:Program}{w:C}
def gg(n:Nat):madeCells #[G F 0] n=(cellsOf F (yA n 0)).toArray:=by
 apply Array.ext
 . simp[madeCells,cellsOf]
 . intro i a b;simp[madeCells,cellsOf,Nat.mod_one]
def Kd(n:Nat)(h:n<=2199023255552)(w:C):(Instr.makeSlice 46 (G I (n:Int)) (G I (n:Int))).run E w=.ok (B (some ⟨w.heap.size,0,none⟩) n n) (w.alloc (H (cellsOf F (yA n 0)).toArray 223)):=by
 rw[<-gg];exact run_make_row' 46 223 (G F 0) 8 underlying46 Tryz.infoU64 J I I n O O w
def OP(l:Nat)(h:l<=2199023255551)(w:C):(Instr.makeSlice 46 (G I ((l:Int)+1)) (G I ((l:Int)+1))).run E w=.ok (B (some ⟨w.heap.size,0,none⟩) (l+1) (l+1)) (w.alloc (H (cellsOf F (yA (l+1) 0)).toArray 223)):=
 Kd (l+1) O w
theorem YG(b o j:Nat):(⟨b,o,none⟩:Addr).add j=⟨b,o+j,none⟩:=by simp[Addr.add]
theorem LC(h:n<=m):(Jh Y n).length<=(Jh Y m).length:=by
 rcases Ca (Jh Y m).length (Jh Y n).length with a|a
 . have:=QJ Jg a;omega
 . exact a
theorem gn{W:C}(h:Row F w (B a l c) ds)(hb:Bl w W)(e:a=some p)(_h0:0<l)(j:Nat)(v:Value)(hv:(cellsOf F ds)[j]?=some v):W.cell? (p.add j)=some v:=by
 obtain⟨hl,_,_,_,f⟩:=JM h;have k:j<ds.length:=by
  grind[cellsOf]
 obtain⟨b,off,d,i,g⟩:=f j O;rw[d]at e;cases e;rw[YG];rw[(hb.cell (p:=⟨b,off+j,none⟩) i),g];grind[cellsOf]
theorem Ke(h:Row F w (B a l c) ds)(e:a=some p)(d:0<l):p.block<w.heap.size:=by
 obtain⟨b,off,f,g,_⟩:=(JM h).2.2.2.2 0 d;grind
def gp(h:Row F w (B a l c) ds)(e:0<l):∃p,a=some p:=by
 obtain⟨b,off,d,f,_⟩:=(JM h).2.2.2.2 0 e;exact⟨_,d⟩
theorem U6(h:Gk xs bs 0 len c q)(g:xs=Jh Y m)(hb:bs=Jh Y n)(hl:len=xs.length)(f:bs.length<=len)(k:n<=m):J4 q=Jh Y (m-n):=by
 obtain⟨a,b,i,d⟩:=h;rw[Cm,Ai (show xs.length<=len by omega),Ai f,g,hb,Jz Jg,Jz Jg]at d;have e:=YZ b;rw[a]at e;have j:c=0:=by
  grind
 grind[YN,Jg]
theorem RA(g b f:Nat)(a:om)(la ca:Nat)(xs:m0)(w c:C)(i:Row F w (B a la ca) xs)(hb:Bl w c)(hg:w.heap.size<=g)(hA:c.heap[g]?=some (H (cellsOf F (yA b 0)).toArray 223 (0,0)))(hl:la<=b):
 ∃e,(Builtin.copy_ #[46,46] 3 #[B (some ⟨g,0,none⟩) b f,B a la ca]).run E c=.ok (G I (la:Nat)) e/\DR e g (xs++yA (b-la) 0)/\Bl w e:=by
 obtain⟨o,_⟩:=JM i;have k:(Tryz.prog.info? 223).map (·.size)=some 1:=by kernel_rfl
 have m:(cellsOf F xs)++(cellsOf F (yA b 0)).drop la=cellsOf F (xs++yA (b-la) 0):=by simp[cellsOf]
 by_cases n:la=0
 . subst n;refine⟨c,run_copy_none (P:=E) c 46 46 3 223 (some ⟨g,0,none⟩) a b f 0 ca underlying46 k (Nat.zero_min b),DR.made ?_,hb⟩;grind
 . obtain⟨p,hp⟩:=gp i O;subst hp;have d:(cellsOf F xs).length=la:=by simp[cellsOf,o]
   have l:=run_copy_row (P:=E) c 46 46 3 223 g 0 b f p la ca _ 223 (cellsOf F xs) underlying46 k hA (by rw[d];exact(Fp hl).symm) (λj v hv=>gn i hb J O j v hv) (by rw[d];simp[cellsOf];exact hl) (λv hv=>by
    rw[cellsOf,Fj]at hv;obtain⟨_,_,rfl⟩:=hv;rfl)
   rw[d,Ia,As,A7,m]at l;exact⟨_,l,DR.made (setRow_heap c g _ _ _ _ hA),below_setRow hb hg _⟩
theorem RB(a:om)(la ca:Nat)(b:om)(lb cb m n:Nat)(w:C)(j:Row F w (B a la ca) (Jh Y m))(hn:Row F w (B b lb cb) (Jh Y n))(h:n<=m):
 Calls E 166 #[B a la ca,B b lb cb] w λe w'=>∃u,e=.returned u/\UN w' u (m-n)/\Bl w w':=by
 obtain⟨hl,X,U,S,Q⟩:=JM j;obtain⟨v,ae,V,ah,R⟩:=JM hn;have A:lb<=la:=by rw[hl,v];exact LC h
 have f:=Z hl;have i:=Z hn;have D:=Kd la O w;obtain⟨d,g⟩:∃d,d=w.alloc (H (cellsOf F (yA la 0)).toArray 223):=⟨_,J⟩;have l:Bl w d:=by rw[g];exact Ba w _
 have o:d.heap[w.heap.size]?=some (H (cellsOf F (yA la 0)).toArray 223 (0,0)):=by rw[g];exact BD w _
 rw[<-g]at D;obtain⟨w2,W,hA2,s⟩:=RA w.heap.size la la a la ca (Jh Y m) w d j l (Aa _) o (Aa _);rw[Cz,List.replicate_zero,C7]at hA2;clear Q hl R v j hn g l o;go_enter func166,ntmps166
 go_wp2_with(go_at_call 222;refine(U5 w.heap.size 0 la la (Jh Y m) b lb cb (Jh Y n) _ hA2 (JA Jg m) (by rw[A7,<-f.o];exact Aa _) (Aa _) O A (Row.below i.o s) (JA Jg n) λp e M=>by have:=Ke i.o e M;omega).mono ?_)
 rintro e T ⟨c,q,rfl,hq,hA3,t⟩;have z:=hq.1;have y:Row F T (B (some ⟨w.heap.size,0,none⟩) la la) q:=by
  have N:=hA3.row 0 la la (by rw[Yg z (by rw[<-f.o];omega),<-f.o];omega) (Aa _) O S;have K:((mid (Jh Y m) 0 la q).drop 0).take la=q:=by
   grind[mid]
  rwa[K]at N
 have x:=Z (U6 hq J J f.o (by have:=JM i.o;omega) h);have r:=below_grown s t (Aa _);clear hq hA3 t;go_wp2_with(go_at_call 176;refine(XE _ q _ y).mono ?_)
 rintro e w4 ⟨u,rfl,k,P⟩;rw[x.o]at k;obtain⟨ua,uc,rfl⟩:=UN.form k;go_wp2;go_ret;exact⟨_,J,k,r.trans (P.mono r.size)⟩
theorem U7(h:Hb (xs++[0]) bs 0 len c q)(g:xs=Jh Y m)(hb:bs=Jh Y n)(hl:len=xs.length+1)(l:bs.length<=xs.length):J4 q=Jh Y (m+n):=by
 obtain⟨i,b,j,a⟩:=h;have o:m<Y^xs.length:=by
  grind[YZ,JA,Jg,Jz]
 have hn:n<Y^xs.length:=by
  have:=YZ (JA Jg n);grind[Jz,AN,AB,Y]
 rw[Cm,Ai (show(xs++[0]).length<=len by simp;omega),Ai (show bs.length<=len by omega),I6,C8,Cr,hb,Jz Jg]at a;have e:val Y xs=m:=by rw[g,Jz Jg]
 rw[e]at a;have f:Y^len=Y^xs.length*Y:=by rw[hl,Cy]
 have k:Y^xs.length*2<=Y^len:=by rw[f];exact Am _ Jg
 have d:c=0:=by
  grind
 subst d;rw[<-YN Jg b];congr 1
theorem U8(a:om)(la ca:Nat)(b:om)(lb cb m n:Nat)(w:C)(j:Row F w (B a la ca) (Jh Y m))(hn:Row F w (B b lb cb) (Jh Y n))(am:la<1099511627776)(an:lb<1099511627776):
 Calls E 165 #[B a la ca,B b lb cb] w λe w'=>∃u,e=.returned u/\UN w' u (m+n)/\Bl w w':=by
 by_cases ap:la<lb
 . obtain⟨hl,ae,V,ai,S⟩:=JM hn;obtain⟨x,ah,W,aj,T⟩:=JM j;obtain⟨k,l,D⟩:=DZ hl j x;have M:=OP lb O w;obtain⟨d,f⟩:∃d,d=w.alloc (H (cellsOf F (yA (lb+1) 0)).toArray 223):=⟨_,J⟩;have o:Bl w d:=by rw[f];exact Ba w _
   have r:d.heap[w.heap.size]?=some (H (cellsOf F (yA (lb+1) 0)).toArray 223 (0,0)):=by rw[f];exact BD w _
   rw[<-f]at M;obtain⟨w2,X,hA2,t⟩:=RA w.heap.size (lb+1) (lb+1) b lb cb (Jh Y n) w d hn o (Aa _) r O;rw[show lb+1-lb=1 from by omega,List.replicate_one]at hA2;have y:=Z (show DO Y (Jh Y n++[0])from(JA Jg n).append (DO.cons uo (DO.nil _)));have g:=Z (show(Jh Y n++[0]).length=lb+1 by grind);clear S hl T x j hn f o r;go_enter func165,ntmps165
   go_wp2_with(go_at_call 221;refine(Q9 w.heap.size 0 (lb+1) (lb+1) (Jh Y n++[0]) a la ca (Jh Y m) _ hA2 y.o (by rw[A7,g.o];exact Aa _) (Aa _) O O (Row.below l.o t) (JA Jg m) λp e P=>by have:=Ke l.o e P;omega).mono ?_)
   rintro e U ⟨c,q,rfl,hq,hA3,v⟩;have K:=hq.1;have A:Row F U (B (some ⟨w.heap.size,0,none⟩) (lb+1) (lb+1)) q:=by
    have Q:=hA3.row 0 (lb+1) (lb+1) (by rw[Yg K (by rw[g.o];omega),g.o];omega) (Aa _) O O;have N:((mid (Jh Y n++[0]) 0 (lb+1) q).drop 0).take (lb+1)=q:=by
     grind[mid]
    rwa[N]at Q
   have z:=Z (U7 hq J J (by rw[<-k.o]) (by rw[<-k.o,<-D.o];omega));have s:=below_grown t v (Aa _);clear hq hA3 v;go_wp2_with(go_at_call 176;refine(XE _ q _ A).mono ?_)
   rintro e w4 ⟨u,rfl,i,R⟩;rw[z.o]at i;obtain⟨ua,uc,rfl⟩:=UN.form i;go_wp2;go_ret;exact⟨_,J,by rw[Ib m n];exact i,s.trans (R.mono s.size)⟩
 . obtain⟨hl,ae,V,ai,S⟩:=JM j;obtain⟨x,ah,W,aj,T⟩:=JM hn;obtain⟨k,l,D⟩:=DZ hl hn x;have M:=OP la O w;obtain⟨d,f⟩:∃d,d=w.alloc (H (cellsOf F (yA (la+1) 0)).toArray 223):=⟨_,J⟩;have o:Bl w d:=by rw[f];exact Ba w _
   have r:d.heap[w.heap.size]?=some (H (cellsOf F (yA (la+1) 0)).toArray 223 (0,0)):=by rw[f];exact BD w _
   rw[<-f]at M;obtain⟨w2,X,hA2,t⟩:=RA w.heap.size (la+1) (la+1) a la ca (Jh Y m) w d j o (Aa _) r O;rw[show la+1-la=1 from by omega,List.replicate_one]at hA2;have y:=Z (show DO Y (Jh Y m++[0])from(JA Jg m).append (DO.cons uo (DO.nil _)));have g:=Z (show(Jh Y m++[0]).length=la+1 by grind);clear S hl T x j hn f o r;go_enter func165,ntmps165
   go_wp2_with(go_at_call 221;refine(Q9 w.heap.size 0 (la+1) (la+1) (Jh Y m++[0]) b lb cb (Jh Y n) _ hA2 y.o (by rw[A7,g.o];exact Aa _) (Aa _) O O (Row.below l.o t) (JA Jg n) λp e P=>by have:=Ke l.o e P;omega).mono ?_)
   rintro e U ⟨c,q,rfl,hq,hA3,v⟩;have K:=hq.1;have A:Row F U (B (some ⟨w.heap.size,0,none⟩) (la+1) (la+1)) q:=by
    have Q:=hA3.row 0 (la+1) (la+1) (by rw[Yg K (by rw[g.o];omega),g.o];omega) (Aa _) O O;have N:((mid (Jh Y m++[0]) 0 (la+1) q).drop 0).take (la+1)=q:=by
     grind[mid]
    rwa[N]at Q
   have z:=Z (U7 hq J J (by rw[<-k.o]) (by rw[<-k.o,<-D.o];omega));have s:=below_grown t v (Aa _);clear hq hA3 v;go_wp2_with(go_at_call 176;refine(XE _ q _ A).mono ?_)
   rintro e w4 ⟨u,rfl,i,R⟩;rw[z.o]at i;obtain⟨ua,uc,rfl⟩:=UN.form i;go_wp2;go_ret;exact⟨_,J,i,s.trans (R.mono s.size)⟩
def LD(a:Array Bool):Nat:=a.toList.countP λb=>!b
theorem OQ(hi:i<d.size)(h:d.getD i true=false):LD (d.setIfInBounds i true)+1=LD d:=by
 grind[Array.getInternal_eq_getElem,LD]
theorem gz{F:Fence}{c:Region.Mode}(I:Array Bool->Act->C->Prop)
(step:∀b a w i,b.size=ops.size->I b a w->i∈Region.ready c ops b->wpOpIn F n P ops Q i (I (b.setIfInBounds i true)) a w)
(fin:∀b a w,b.size=ops.size->I b a w->Region.ready c ops b=[]->Q .normal a w):
 ∀(d:Nat) (b:Array Bool) (a:Act) (w:C),b.size=ops.size->LD b<=d->I b a w->wpAnyIn F n P c ops Q d b a w:=by
 intro d;have g:∀ {b:Array Bool} {i:Nat},i∈Region.ready c ops b->i<ops.size/\b.getD i true=false:=by
  intro b i hi;simp only[Region.ready,List.mem_filter,List.mem_range,Fw,Fn]at hi;exact⟨hi.1,hi.2.1⟩
 induction d with
 |zero=>
  intro b a w hs f e;have hn:Region.ready c ops b=[]:=by
   cases j:Region.ready c ops b with
   |nil=>rfl
   |cons i l=>
    grind[Au,OQ]
  exact⟨hn,fin _ _ _ hs e hn⟩
 |succ d k=>
  intro b a w hs f e;refine⟨fin _ _ _ hs e,λi hi=>?_⟩;grind[OQ,wpOpIn_mono]
def Di:Tryz.prog.follows .mixedOrders=true:=by kernel_rfl
theorem iA{F:Fence}{id:Nat}{a:Act}(c:P.follows .mixedOrders=true)(I:Array Bool->Act->C->Prop)
(start:I (Array.replicate ops.size false) a w.drew)
(step:∀b a w i,b.size=ops.size->I b a w->i∈Region.ready .any ops b->wpOpIn F n P ops Q i (I (b.setIfInBounds i true)) a w)
(fin:∀b a w,b.size=ops.size->I b a w->Region.ready .any ops b=[]->Q .normal a w):
 (Code.region id ops true).wpIn F n P Q a w:=
 wpIn_region_any c (gz I step fin _ _ _ _ DI (by grind[LD]) start)
def Lv(tab:List m0):Bool:=tab.zipIdx.all λp=>p.1.all (·<p.2)
def OR(h:Lv tab=true)(hi:tab[i]?=some ds){j:Nat}(a:j∈ds):j<i:=by
 simp only[Lv,AZ,Bu]at h;exact h (ds,i) (List.mk_mem_zipIdx_iff_getElem?.2 hi) j a
theorem mem_ready{c:Region.Mode}(f:Region.tabAfter c ops=tab):
 i∈Region.ready c ops d↔d.getD i true=false/\∃ds,tab[i]?=some ds/\∀j∈ds,d.getD j false=true:=by
 subst f;simp only[Region.ready,List.mem_filter,List.mem_range,Fw,Fn,Region.tabAfter,C3,Array.getElem?_toList];constructor
 . rintro⟨e,b,a⟩;rw[Array.getElem?_eq_getElem e]at a ⊢;simp only[Option.map_some,Option.getD_some,Array.all_eq_true',Bool.or_eq_true,Fn]at a;refine⟨b,_,J,λj k=>?_⟩;grind
 . rintro⟨b,ds,g,a⟩;grind
theorem OS{F:Fence}{id:Nat}{a:Act}(u:P.follows .mixedOrders=true)
(tab:List m0)(k:Region.tabAfter .any ops=tab)(p:Lv tab=true)(I:(Nat->Bool)->Act->C->Prop)
(start:I (λ_=>false) a w.drew)
(step:∀(D:Nat->Bool) a w i ds,(∀i ds,tab[i]?=some ds->D i=true->∀j∈ds,D j=true)->tab[i]?=some ds->(∀j∈ds,D j=true)->D i=false->I D a w->wpOpIn F n P ops Q i (I λj=>j==i || D j) a w)
(fin:∀(D:Nat->Bool) a w,(∀i,i<tab.length->D i=true)->I D a w->Q .normal a w):
 (Code.region id ops true).wpIn F n P Q a w:=by
 have q:tab.length=ops.size:=by rw[<-k];simp[Region.tabAfter]
 refine iA u (λb a w=>(∀i ds,tab[i]?=some ds->b.getD i false=true->∀j∈ds,b.getD j false=true)/\I (λj=>b.getD j false) a w) ⟨λi ds _ h=>?_,?_⟩ ?_ ?_
 . simp only[Array.getD,CR]at h;split at h<;>simp at h
 . have e:(λj=>(Array.replicate ops.size false).getD j false)=λ_=>false:=by
    funext j;simp only[Array.getD,CR];split<;>simp
   rw[e];exact start
 . rintro b a w i hs ⟨o,d⟩ hi;obtain⟨m,ds,c,r⟩:=(mem_ready k).1 hi;have l:i<b.size:=by
    rw[hs,<-q];rcases Ca i tab.length with h|h
    . exact h
    . grind
   have t:b.getD i false=false:=by
    simp only[Array.getD,l,dif_pos]at m ⊢;exact m
   have e:∀j,(b.setIfInBounds i true).getD j false=(j==i || b.getD j false):=by
    intro j;rw[Ft,Ft,Array.getElem?_setIfInBounds];by_cases g:i=j
    . subst g;simp[l]
    . simp[g,Ne.symm g]
   refine wpOpIn_mono (λa' w' h=>⟨λz x y s j f=>?_,?_⟩) (step _ a w i ds o c r t d)
   . grind
   . rw[show(λj=>(b.setIfInBounds i true).getD j false)=λj=>(j==i || b.getD j false)from funext e];exact h
 . rintro b a w hs ⟨o,d⟩ hn;refine fin _ a w (λi=>?_) d;induction i using Nat.strongRecOn with
   |_ i v=>
    intro hi;cases s:b.getD i false with
    |true=>rfl
    |false=>
     exfalso
     have c:tab[i]?=some tab[i]:=AE hi
     have:i∈Region.ready .any ops b:=(mem_ready k).2 ⟨by
      grind,_,c,λj f=>v j (OR p c f) (by have:=OR p c f;omega)⟩
     grind
attribute [local go_sem] Oper.semAt_some
def U9(w:C)(a:om)(len ca:Nat)(b:om)(lb cb:Nat)(xs c:m0)(k:Nat)(W:C):Prop:=
 (((Boxed W w.heap.size 46 (B b lb cb)/\Boxed W (w.heap.size+1) 3 (.int I 0))/\Boxed W (w.heap.size+1+1) 46 (B a len ca))/\Bl w W)/\xs.drop (len-k)=c.drop (len-k)
def VB(w:C)(xs a:m0)(c:Code)(_k:Nat)(W:C):Prop:=
 (Boxed W (w.heap.size+1) 3 (.int I (D9 (val Y xs) (val Y a)))/\Bl w W)/\c=.ret
def iB(w:C)(a:om)(len ca:Nat)(b:om)(lb cb:Nat)(xs c:m0):OwnFrom (w.heap.size+1+1+1) (U9 w a len ca b lb cb xs c):=
 BN (BN (BN (BN (Bh (boxed_own _ _ λ_=>B b lb cb) _) (Bh (boxed_own _ _ λ_=>G I 0) _)) (Bh (boxed_own _ _ λ_=>B a len ca) _)) (Br (Aa _) O)) (DF _ _)
def iC(w:C)(xs a:m0)(c:Code):OwnFrom (w.heap.size+1+1+1) (VB w xs a c):=
 BN (BN (Bh (boxed_own _ _ λ_=>G I (D9 (val Y xs) (val Y a))) _) (Br (Aa _) O)) (DF _ _)
theorem iD{c:Bool}(h:m≠n)(a:c=decide (n<m)):(if c then 1 else -1:Int)=D9 m n:=by
 grind[Lu,N8]
def iE(a:om)(la ca:Nat)(b:om)(lb cb:Nat)(w:C)(m n:Nat)(g:la≠lb)(f:la<lb↔m<n)(d:m≠n):
 Calls E 104 #[B a la ca,B b lb cb] w λe w'=>e=.returned (G I (D9 m n))/\Bl w w':=by
 have i:(((la:Nat):Int) != (lb:Int))=true:=by rw[DB];omega
 have c:=Z (show(if decide ((lb:Int)<(la:Int))=true then 1 else -1:Int)=D9 m n from iD d DH);clear f d g;refine(BJ (n:=3)).1 ?_;refine BO func104 J trivial ?_ J;simp only[ntmps104,Aw,Al,AX,Nat.reduceAdd,Nat.reduceSub,Az,AA,AU,AJ,As,AK];gi_wp2_with(refine⟨trivial,?_⟩;gi_at_call 103;refine((BJ (n:=_)).2 (Q3 _ _)).mono ?_;rintro e w' ⟨rfl,rfl⟩)
 . have hv:D9 m n=1:=by rw[<-c.o,BF si]
   have q:=(BH (w.alloc (H #[B b lb cb] 46)) 3 (G I 1)).cell;simp only[Ax]at q;refine⟨G I 1,by simp[results,results104,go_sem,q],by rw[hv],?_⟩;exact(Ba w _).alloc DI _
 . have hv:D9 m n=-1:=by rw[<-c.o,BE si]
   have q:=(BH (w.alloc (H #[B b lb cb] 46)) 3 (G I (-1))).cell;simp only[Ax]at q;refine⟨G I (-1),by simp[results,results104,go_sem,q],by rw[hv],?_⟩;exact(Ba w _).alloc DI _
theorem iF(a:om)(len ca:Nat)(b:om)(cb:Nat)(xs d:m0)(w:C)(ha:Row F w (B a len ca) xs)(hb:Row F w (B b len cb) d)(xa:DO Y xs)(xb:DO Y d):
 Calls E 104 #[B a len ca,B b len cb] w λe w'=>e=.returned (G I (D9 (val Y xs) (val Y d)))/\Bl w w':=by
 obtain⟨hl,am,ap,aj,u⟩:=JM ha;obtain⟨ai,an,aq,ay,ae⟩:=JM hb;obtain⟨v,S,HC,Qe⟩:=Dx hl ai u ae;clear u ae hl ai ha hb;refine(BJ (n:=3)).1 ?_;refine BO func104 J trivial ?_ J;simp only[ntmps104,Aw,Al,AX,Nat.reduceAdd,Nat.reduceSub,Az,AA,AU,AJ,As,AK];gi_wp2_with(refine⟨trivial,?_⟩;gi_at_call 174;refine(Md Fence.wide _ trivial J _ _ _ _).mono ?_;rintro e w' ⟨rfl,rfl⟩)
 obtain⟨W0,t⟩:=ex (((w.alloc (H #[B b len cb] 46)).alloc (H #[G I 0] 3)).alloc (H #[B a len ca] 46));have b0:=((BH w 46 (B b len cb)).alloc (H #[G I 0] 3)).alloc (H #[B a len ca] 46);have A:=(BH (w.alloc (H #[B b len cb] 46)) 3 (G I 0)).alloc (H #[B a len ca] 46);have N:=BH ((w.alloc (H #[B b len cb] 46)).alloc (H #[G I 0] 3)) 46 (B a len ca);simp only[Ax]at A N;have hN:W0.heap.size=w.heap.size+1+1+1:=by rw[<-t];simp
 have Qf:Bl w W0:=by rw[<-t];exact((Ba w _).alloc DI _).alloc si _
 rw[t]at b0 A N ⊢;clear t;refine X7 J O (gf:=232) (lb:=#[.pointer (some ⟨w.heap.size+1+1,0,none⟩)]) J trivial (Be func232 v0 J)
  (Mc Fence.wide _ trivial J O (w.heap.size+1+1) a len ca (λj=>xs[j]?.getD 0) aj) (λ_=>rfl)
  (U9 w a len ca b len cb xs d) (VB w xs d) (by rw[hN];exact iB w a len ca b len cb xs d) (λc=>by rw[hN];exact iC w xs d c)
  ⟨⟨⟨⟨b0,A⟩,N⟩,Qf⟩,by rw[F1,Cc (by rw[v.o];exact Aa _),Cc (by rw[S.o];exact Aa _)]⟩ ?rd
  (λk=>{ tmps:=#[B a len ca,B b len cb,L,.pointer (some ⟨w.heap.size,0,none⟩),.pointer (some ⟨w.heap.size+1,0,none⟩),G I ((len:Int)-1-k),G F (xs[len-1-k]?.getD 0:Nat),B a len ca,G I (len:Nat),B b len cb,G I (len:Nat),.bool false,L,L,L,L,L,L,B a len ca,.func (.func 232) #[] #[.pointer (some ⟨w.heap.size+1+1,0,none⟩)],G I ((len:Int)-1-k),G F (xs[len-1-k]?.getD 0:Nat),L,L,L,L,L,L,L,L,L,L,L,L,L],defers:=[] }) ?assign ?body ?done ?stop
 case rd=>
  rintro k W ⟨⟨⟨_,c2⟩,f⟩,_⟩;refine⟨c2.cell,λhk=>?_⟩;obtain⟨s,off,ea,P,u⟩:=HC.o (len-1-k) O;exact⟨s,off,ea,(f.cell (p:=⟨s,off+(len-1-k),none⟩) P).trans u⟩
 case assign=>
  intro l k W K g;unfold Iu;gi_wp2;exact g
 case body=>
  rintro l k W ⟨⟨⟨⟨c0,c1⟩,c2⟩,f⟩,i⟩ hk az;have d0:=c0.cell;have d1:=c1.cell;have f1:=c1.frozen;obtain⟨s,off,rfl,P,ah⟩:=Qe.o (len-1-k) O;have dy:=(f.cell (p:=⟨s,off+(len-1-k),none⟩) P).trans ah;clear ah;have X:((len:Int)-1-k)=((len-1-k:Nat):Int):=O
  rw[X];have hm:len-1-k<len:=O
  have es:len-1-k+1=len-k:=O
  have U:xs.drop (len-1-k+1)=d.drop (len-1-k+1):=by rw[es];exact i
  have T:=v.o.symm.trans S.o;have o:=Z λ(h:xs[len-1-k]?.getD 0=d[len-1-k]?.getD 0)=>fH T (len-1-k) (by rw[<-v.o];exact hm) U h;have r:=Z (show xs[len-1-k]?.getD 0≠d[len-1-k]?.getD 0->D9 (val Y xs) (val Y d)=D9 (xs[len-1-k]?.getD 0) (d[len-1-k]?.getD 0)from λh=>by
   grind[Lu,fG,N8])
  have R:=Z (show len-(k+1)=len-1-k by omega);clear X es U i T;generalize xs[len-1-k]?.getD 0=x at o r ⊢;generalize d[len-1-k]?.getD 0=y at o r dy;generalize len-1-k=m at o hm R dy ⊢;by_cases Q:x=y
  . subst Q;gi_wp2_with fail
    refine⟨KeepsFrom.refl _ _,⟨⟨⟨c0,c1⟩,c2⟩,f⟩,?_⟩;rw[R.o];exact o.o DI
  . have bg:(((x:Nat):Int) != (y:Int))=true:=by rw[DB];omega
    have z:=Z Q;clear Q;gi_wp2_with(refine⟨trivial,?_⟩;gi_at_call 103;refine(Bg l ((BJ (n:=_)).2 (Q3 _ _))).mono ?_;rintro e w' ⟨rfl,rfl⟩)
    . refine⟨(BL _ _ _).from _,⟨?_,f.setCell (p:=⟨w.heap.size+1,0,none⟩) DI _⟩,J⟩;rw[r.o z.o,N8 ‹y<x›];exact c1.set _
    . refine⟨(BL _ _ _).from _,⟨?_,f.setCell (p:=⟨w.heap.size+1,0,none⟩) DI _⟩,J⟩;rw[r.o z.o,Lu (by have:=z.o;omega)];exact c1.set _
 case done=>
  rintro D W hD ⟨⟨⟨⟨c0,c1⟩,c2⟩,f⟩,i⟩ g;have d1:=c1.cell;have f1:=c1.frozen;have HZ:=Z i;clear i;gi_wp2;have V:=(BL W ⟨w.heap.size+1,0,none⟩ (G I 0)).same D _ g J;refine⟨DI,.inl ⟨_,_,J,BQ V,?_⟩⟩;have M:=(c1.set (G I 0)).kept (BR _ D (.deferred none)) (λe=>by grind);have q:=M.cell;have hv:D9 (val Y xs) (val Y d)=0:=by
   have:=HZ.o;grind[UB]
  refine⟨G I 0,by simp[results,results104,go_sem,q],by rw[hv],?_⟩;exact(f.setCell (p:=⟨w.heap.size+1,0,none⟩) DI _).trans (B0 (w:=w) (Aa _) _ D _ _ O V J J)
 case stop=>
  rintro D c k W hD hk ⟨⟨c1,f⟩,rfl⟩ g;have d1:=c1.cell;gi_wp2;refine⟨DI,.inl ⟨_,_,J,BQ g,?_⟩⟩;have M:=c1.kept (BR _ D (.deferred none)) (λe=>by grind);have q:=M.cell;refine⟨G I (D9 (val Y xs) (val Y d)),by simp[results,results104,go_sem,q],J,?_⟩;exact f.trans (B0 (w:=w) (Aa _) _ D _ _ O g J J)
theorem RC(k l:Value)(xs c:m0)(w:C)(j:Row F w k xs)(hb:Row F w l c)(d:DO Y xs)(f:DO Y c)(ta:Hq xs)(tb:Hq c):
 Calls E 104 #[k,l] w λe w'=>e=.returned (G I (D9 (val Y xs) (val Y c)))/\Bl w w':=by
 obtain⟨a,ca,rfl,m⟩:=id j;obtain⟨b,cb,rfl,n⟩:=id hb;have i:2<=Y:=by unfold Y;omega
 by_cases hl:xs.length=c.length
 . rw[<-hl]at hb ⊢;exact iF a xs.length ca b cb xs c w j hb d f
 . refine iE a _ ca b _ cb w _ _ hl ?_ ?_
   . constructor
     . exact λh=>OA i d f ta tb h
     . intro h;grind[Nat.lt_or_gt_of_ne,OA]
   . rcases Nat.lt_or_gt_of_ne hl with g|g
     . have:=OA i d f ta tb g;omega
     . have:=OA i f d tb ta g;omega
end
variable{a:Act}{ops:Array Oper}{Q:Exit->Act->C->Prop}{P:Program}{w:C}
def VC(n c:Nat)(w:C):Calls E 226 #[B none n c] w λe w'=>e=.returned (B none 0 0)/\w'=w:=by
 have b:∀(w:C) (a:om) (n c n' c':Nat),(binOp .eql 46 (B a n c) (B none n' c')).run E w=.ok (.bool a.isNone) w:=λw a n c n' c'=>Bi w _ _ a n c n' c' underlying46;go_enter func226,ntmps226
 go_wp2;go_ret;exact⟨J,J⟩
theorem Me(p:Addr)(c:Nat)(xs:m0)(w:C)(hl:xs.length<=1099511627776)(d:∀j,j<xs.length->w.cell? (p.add j)=some (G F (xs[j]?.getD 0:Nat))):
 Calls E 226 #[B (some p) xs.length c] w λe w'=>∃b,e=.returned b/\w'.ownsRow w.heap.size 223 1 b xs.length (cellsOf F xs)/\Bl w w':=by
 obtain⟨r,hi,m,o,q⟩:=Bo Tryz.infoU64;have v:∀(w:C) (a:om) (n c n' c':Nat),(binOp .eql 46 (B a n c) (B none n' c')).run E w=.ok (.bool a.isNone) w:=λw a n c n' c'=>Bi w _ _ a n c n' c' underlying46;have A:=Z d;clear d;go_enter func226,ntmps226
 go_wp2_with(at_builtin;refine wpList_append_own _ J _ _ 46 J w.heap.size 223 r (G F 0) 1 8 underlying46 hi m o q J DK _ _ _ J (World.ownsRow_made w #[] 0 (Aa _) (Ay _) J) p xs.length c (cellsOf F xs) J ?qc1 ?qc2 ?qc3 ?qc4 ?qc5 ?qc6 ?_)
 case qc1=>simp[cellsOf]
 case qc2=>
  intro j u s;have f:j<xs.length:=by
   grind[cellsOf]
  refine Lib.cell?_alloc_some _ ?_;rw[A.o j f];grind[cellsOf]
 case qc3=>intro u l;obtain⟨x,_,rfl⟩:=Fj.1 l;rfl
 case qc4=>unfold maxLen;omega
 case qc5=>omega
 case qc6=>simp
 intro b w1 i g t;go_wp2;go_ret;refine⟨b,J,by simpa using i,?_⟩;exact(Ba w _).grown g DI (by intro k hk;simp[Value.ownBlock]at hk;omega)
theorem iG{c:Region.Mode}(I:Array Bool->Act->C->Prop)
(step:∀b a w i,b.size=ops.size->I b a w->i∈Region.ready c ops b->wpOp P ops Q i (I (b.setIfInBounds i true)) a w)
(fin:∀b a w,b.size=ops.size->I b a w->Region.ready c ops b=[]->Q .normal a w):
 ∀(d:Nat) (b:Array Bool) (a:Act) (w:C),b.size=ops.size->LD b<=d->I b a w->wpAny P c ops Q d b a w:=by
 intro d;have g:∀ {b:Array Bool} {i:Nat},i∈Region.ready c ops b->i<ops.size/\b.getD i true=false:=by
  intro b i hi;simp only[Region.ready,List.mem_filter,List.mem_range,Fw,Fn]at hi;exact⟨hi.1,hi.2.1⟩
 induction d with
 |zero=>
  intro b a w hs f e;have hn:Region.ready c ops b=[]:=by
   cases j:Region.ready c ops b with
   |nil=>rfl
   |cons i l=>
    grind[Au,OQ]
  exact⟨hn,fin _ _ _ hs e hn⟩
 |succ d k=>
  intro b a w hs f e;refine⟨fin _ _ _ hs e,λi hi=>?_⟩;grind[OQ,wpOp_mono]
theorem wp_region_held{id:Nat}(c:P.follows .mixedOrders=true)(I:Array Bool->Act->C->Prop)
(start:I (Array.replicate ops.size false) a w.drew)
(step:∀b a w i,b.size=ops.size->I b a w->i∈Region.ready .any ops b->wpOp P ops Q i (I (b.setIfInBounds i true)) a w)
(fin:∀b a w,b.size=ops.size->I b a w->Region.ready .any ops b=[]->Q .normal a w):
 (Code.region id ops true).wp P Q a w:=
 wp_region_any c (iG I step fin _ _ _ _ DI (by grind[LD]) start)
theorem Xz{id:Nat}(t:P.follows .mixedOrders=true)
(tab:List m0)(k:Region.tabAfter .any ops=tab)(o:Lv tab=true)(I:(Nat->Bool)->Act->C->Prop)
(start:I (λ_=>false) a w.drew)
(step:∀(D:Nat->Bool) a w i ds,(∀i ds,tab[i]?=some ds->D i=true->∀j∈ds,D j=true)->tab[i]?=some ds->(∀j∈ds,D j=true)->D i=false->I D a w->wpOp P ops Q i (I λj=>j==i || D j) a w)
(fin:∀(D:Nat->Bool) a w,(∀i,i<tab.length->D i=true)->I D a w->Q .normal a w):
 (Code.region id ops true).wp P Q a w:=by
 have p:tab.length=ops.size:=by rw[<-k];simp[Region.tabAfter]
 refine wp_region_held t (λb a w=>(∀i ds,tab[i]?=some ds->b.getD i false=true->∀j∈ds,b.getD j false=true)/\I (λj=>b.getD j false) a w) ⟨λi ds _ h=>?_,?_⟩ ?_ ?_
 . simp only[Array.getD,CR]at h;split at h<;>simp at h
 . have e:(λj=>(Array.replicate ops.size false).getD j false)=λ_=>false:=by
    funext j;simp only[Array.getD,CR];split<;>simp
   rw[e];exact start
 . rintro b a w i hs ⟨n,d⟩ hi;obtain⟨m,ds,c,q⟩:=(mem_ready k).1 hi;have l:i<b.size:=by
    rw[hs,<-p];rcases Ca i tab.length with h|h
    . exact h
    . grind
   have s:b.getD i false=false:=by
    simp only[Array.getD,l,dif_pos]at m ⊢;exact m
   have e:∀j,(b.setIfInBounds i true).getD j false=(j==i || b.getD j false):=by
    intro j;rw[Ft,Ft,Array.getElem?_setIfInBounds];by_cases g:i=j
    . subst g;simp[l]
    . simp[g,Ne.symm g]
   refine wpOp_mono (λa' w' h=>⟨λy v x r j f=>?_,?_⟩) (step _ a w i ds n c q s d)
   . grind
   . rw[show(λj=>(b.setIfInBounds i true).getD j false)=λj=>(j==i || b.getD j false)from funext e];exact h
 . rintro b a w hs ⟨n,d⟩ hn;refine fin _ a w (λi=>?_) d;induction i using Nat.strongRecOn with
   |_ i u=>
    intro hi;cases r:b.getD i false with
    |true=>rfl
    |false=>
     exfalso
     have c:tab[i]?=some tab[i]:=AE hi
     have:i∈Region.ready .any ops b:=(mem_ready k).2 ⟨by
      grind,_,c,λj f=>u j (OR o c f) (by have:=OR o c f;omega)⟩
     grind
def Du{T:List m0}{D:Nat->Bool}(c:∀i ds,T[i]?=some ds->D i=true->∀j∈ds,D j=true){a k:Nat}{ds:m0}(b:D k=false)(e:T[a]?=some ds:=by rfl)(d:k∈ds:=by simp):D a=false:=by
 cases h:D a with
 |false=>rfl
 |true=>rw[c a ds e h k d]at b;cases b
theorem VD(a:om)(la ca:Nat)(b:m0)(w:C)(p:Row F w (B a la ca) b)(k:0<la):
 Calls E 226 #[B a la ca] w λe w'=>∃g c,e=.returned (B (some ⟨g,0,none⟩) la c)/\DR w' g b/\w.heap.size<=g/\(la<=c/\c<=9223372036854775807)/\Bl w w':=by
 obtain⟨hl,r,t,hk,o⟩:=JM p;obtain⟨ab,i,rfl,_,_⟩:=o 0 k;have d:=Me ⟨ab,i,none⟩ ca b w O (λj s=>by
  grind[YG])
 rw[<-hl]at d;refine d.mono ?_;rintro e w' ⟨u,rfl,f,hb⟩;rcases f.2 with⟨_,ev⟩|⟨g,cap,cur,ev,l,q,m,n,_⟩
 . omega
 . subst ev;exact⟨_,cap,J,DR.owns f,l,⟨m,n⟩,hb⟩
theorem VE(a:om)(la ca:Nat)(b:m0)(w:C)(f:Row F w (B a la ca) b):
 Calls E 226 #[B a la ca] w λe w'=>∃i c,e=.returned (B i la c)/\Row F w' (B i la c) b/\Bl w w':=by
 obtain⟨hl,r,t,hk,s⟩:=JM f;rcases A5 la with d|d
 . subst d;obtain rfl:b=[]:=AW hl.symm;cases a with
   |none=>
    refine(VC 0 ca w).mono ?_;rintro e w' ⟨rfl,rfl⟩;exact⟨none,0,J,⟨none,0,J,Aa _,O,O,An J⟩,BB _ _⟩
   |some p=>
    refine(Me p ca [] w DI λj n=>by simp at n).mono ?_;rintro e w' ⟨v,rfl,o,hb⟩;rcases o.2 with⟨ev,_⟩|⟨g,cap,cur,ev,_,_,q,m,_⟩
    . subst ev;exact⟨none,0,J,⟨none,0,J,Aa _,O,O,An J⟩,hb⟩
    . subst ev;exact⟨_,cap,J,⟨_,cap,J,Ay _,m,DI,An J⟩,hb⟩
 . refine(VD a la ca b w f d).mono ?_;rintro e w' ⟨g,c,rfl,hA,_,⟨k,l⟩,hb⟩;have u:=hA.row 0 la c O k l hk;grind

