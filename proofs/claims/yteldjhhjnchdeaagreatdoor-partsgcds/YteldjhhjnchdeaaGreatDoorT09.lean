import Derived.Test.YteldjhhjnchdeaaGreatDoorT08
import Derived.Laws.CopyOwn
import Derived.Deep.OwnRows
import Derived.Lib.SliceRun
open Go.Value renaming slice->B,int->G
open Go renaming World->C,undef->J
open Go.Proofs.Tryz renaming prog->E
open Go.IntKind renaming u64->F,i64->I
open Go.Obj renaming cells->H
set_option maxRecDepth 100000
set_option maxHeartbeats 16000000
namespace Go.Proofs.YteldjhhjnchdeaaGreatDoor
open Go.RowKit Go.Shelf
section
theorem Bn:type_of% @Lib.run_eql_slice_nil:=@Lib.run_eql_slice_nil
theorem Be:type_of% @CallsIn.inRound:=@CallsIn.inRound
variable{p:Addr}{g:Array Bool}{d:Array Oper}{Q:Exit->Act->C->Prop}{f:List (List Nat)}{bs ds q xs:List Nat}{c i l len m n:Nat}{a:Option Addr}{P:Program}{w:C}
theorem U6(n:Nat):madeCells #[G F 0] n=(cellsOf F (List.replicate n 0)).toArray:=by
 apply Array.ext
 . simp[madeCells,cellsOf]
 . intro i a b;simp[madeCells,cellsOf,Nat.mod_one]
theorem I5(n:Nat)(h:n<=2199023255552)(w:C):(Instr.makeSlice 61 (G I (n:Int)) (G I (n:Int))).run E w=.ok (B (some ⟨w.heap.size,0,none⟩) n n) (w.alloc (H (cellsOf F (List.replicate n 0)).toArray 156)):=by
 rw[<-U6];exact run_make_row' 61 156 (G F 0) 8 Tryz.underlying61 Tryz.infoU64 rfl I I n om om w
theorem Lu(l:Nat)(h:l<=2199023255551)(w:C):(Instr.makeSlice 61 (G I ((l:Int)+1)) (G I ((l:Int)+1))).run E w=.ok (B (some ⟨w.heap.size,0,none⟩) (l+1) (l+1)) (w.alloc (H (cellsOf F (List.replicate (l+1) 0)).toArray 156)):=
 I5 (l+1) om w
theorem Y1(b o j:Nat):(⟨b,o,none⟩:Addr).add j=⟨b,o+j,none⟩:=by simp[Addr.add]
theorem Xh(h:n<=m):(Jc DR n).length<=(Jc DR m).length:=by
 rcases AO (Jc DR m).length (Jc DR n).length with a|a
 . have:=YL Jf a;omega
 . exact a
theorem U7{W:C}(h:Row F w (B a l c) ds)(o:Bl w W)(e:a=some p)(_h0:0<l)(j:Nat)(v:Value)(d:(cellsOf F ds)[j]?=some v):W.cell? (p.add j)=some v:=by
 obtain⟨hl,_,_,_,m⟩:=Ju h;have g:j<ds.length:=by
  rcases AO j ds.length with f|f
  . exact f
  . rw[At (by simpa[cellsOf]using f)]at d;cases d
 obtain⟨b,off,n,i,k⟩:=m j om;rw[n]at e;cases e;rw[Y1];rw[(o.cell (p:=⟨b,off+j,none⟩) i),k];simp only[cellsOf,CT,Ah g,Fg,Ag]at d;rw[<-d,Ah g];rfl
theorem Ig(h:Row F w (B a l c) ds)(e:a=some p)(d:0<l):p.block<w.heap.size:=by
 obtain⟨b,off,g,f,_⟩:=(Ju h).2.2.2.2 0 d;rw[g]at e;cases e;exact f
theorem U8(h:Row F w (B a l c) ds)(d:0<l):∃p,a=some p:=by
 obtain⟨b,off,e,f,_⟩:=(Ju h).2.2.2.2 0 d;exact⟨_,e⟩
theorem Pf(h:F7 xs bs 0 len c q)(i:xs=Jc DR m)(k:bs=Jc DR n)(hl:len=xs.length)(j:bs.length<=len)(l:n<=m):Jw q=Jc DR (m-n):=by
 obtain⟨d,a,o,f⟩:=h;rw[AE,Ad (show xs.length<=len by omega),Ad j,i,k,Jo Jf,Jo Jf]at f;have g:=Yi a;rw[d]at g;have e:c=0:=by
  rcases AO 0 c with b|b
  . have:=Av (DR^len) b;omega
  . omega
 subst e;rw[<-J9 Jf a];congr 1;omega
theorem Nm(g b l:Nat)(a:Option Addr)(la ca:Nat)(xs:List Nat)(w c:C)(k:Row F w (B a la ca) xs)(m:Bl w c)(r:w.heap.size<=g)(f:c.heap[g]?=some (H (cellsOf F (List.replicate b 0)).toArray 156 (0,0)))(hl:la<=b):
 ∃e,(Builtin.copy_ #[61,61] 3 #[B (some ⟨g,0,none⟩) b l,B a la ca]).run E c=.ok (G I (la:Nat)) e/\DX e g (xs++List.replicate (b-la) 0)/\Bl w e:=by
 obtain⟨q,_⟩:=Ju k;have o:(Tryz.prog.info? 156).map (·.size)=some 1:=by kernel_rfl
 have t:(cellsOf F xs)++(cellsOf F (List.replicate b 0)).drop la=cellsOf F (xs++List.replicate (b-la) 0):=by simp[cellsOf]
 by_cases s:la=0
 . subst s;refine⟨c,run_copy_none (P:=E) c 61 61 3 156 (some ⟨g,0,none⟩) a b l 0 ca Tryz.underlying61 o (Nat.zero_min b),DX.made ?_,m⟩;obtain rfl:xs=[]:=Ap q.symm;rw[Ao,Fc];exact f
 . obtain⟨p,hp⟩:=U8 k om;subst hp;have i:(cellsOf F xs).length=la:=by simp[cellsOf,q]
   have n:=run_copy_row (P:=E) c 61 61 3 156 g 0 b l p la ca _ 156 (cellsOf F xs) Tryz.underlying61 o f (by rw[i];exact(CC hl).symm) (λj v d=>U7 k m rfl om j v d) (by rw[i];simp[cellsOf];exact hl) (λv d=>by
    rw[cellsOf,FA]at d;obtain⟨_,_,rfl⟩:=d;rfl)
   rw[i,CV,Ao,A8,t]at n;exact⟨_,n,DX.made (setRow_heap c g _ _ _ _ f),below_setRow m r _⟩
theorem Nn(a:Option Addr)(la ca:Nat)(b:Option Addr)(lb cb m n:Nat)(w:C)(j:Row F w (B a la ca) (Jc DR m))(k:Row F w (B b lb cb) (Jc DR n))(h:n<=m):
 Calls E 143 #[B a la ca,B b lb cb] w λe y=>∃u,e=.returned u/\UN y u (m-n)/\Bl w y:=by
 obtain⟨hl,U,Z,A,M⟩:=Ju j;obtain⟨v,af,ae,ad,N⟩:=Ju k;have P:lb<=la:=by rw[hl,v];exact Xh h
 have g:=Ja hl;have i:=Ja k;have T:=I5 la om w;obtain⟨d,f⟩:∃d,d=w.alloc (H (cellsOf F (List.replicate la 0)).toArray 156):=⟨_,rfl⟩;have o:Bl w d:=by rw[f];exact Ba w _
 have s:d.heap[w.heap.size]?=some (H (cellsOf F (List.replicate la 0)).toArray 156 (0,0)):=by rw[f];exact BE w _
 rw[<-f]at T;obtain⟨V,Y,hA2,t⟩:=Nm w.heap.size la la a la ca (Jc DR m) w d j o (Aa _) s (Aa _);rw[A3,List.replicate_zero,Cl]at hA2;clear M hl N v j k f o s;go_enter Tryz.func143,Tryz.ntmps143
 go_wp2_with(go_at_call 165;refine(Pe w.heap.size 0 la la (Jc DR m) b lb cb (Jc DR n) _ hA2 (Jp Jf m) (by rw[A8,<-g.o];exact Aa _) (Aa _) om P (Row.below i.o t) (Jp Jf n) (λp e D=>by have:=Ig i.o e D;omega)).mono ?_)
 rintro e x ⟨c,q,rfl,hq,hA3,r⟩;have K:=hq.1;have L:Row F x (B (some ⟨w.heap.size,0,none⟩) la la) q:=by
  have Q:=hA3.row 0 la la (by rw[JW K (by rw[<-g.o];omega),<-g.o];omega) (Aa _) om A;have R:((Dd (Jc DR m) 0 la q).drop 0).take la=q:=by
   rw[AE,Dd,CV,Ao,AU om,Ad om]
  rwa[R]at Q
 have S:=Ja (Pf hq rfl rfl g.o (by have:=Ju i.o;omega) h);have z:Bl w x:=below_grown t r (Aa _);clear hq hA3 r;go_wp2_with(go_at_call 128;refine(YW _ q _ L).mono ?_)
 rintro e X ⟨u,rfl,l,O⟩;rw[S.o]at l;obtain⟨W,uc,rfl⟩:=UN.form l;go_wp2;go_ret;exact⟨_,rfl,l,z.trans (O.mono z.size)⟩
theorem Pg(h:GL (xs++[0]) bs 0 len c q)(d:xs=Jc DR m)(e:bs=Jc DR n)(hl:len=xs.length+1)(j:bs.length<=xs.length):Jw q=Jc DR (m+n):=by
 obtain⟨l,i,s,b⟩:=h;have p:m<DR^xs.length:=by
  have:=Yi (Jp Jf m);rwa[Jo Jf,<-d]at this
 have r:n<DR^xs.length:=by
  have:=Yi (Jp Jf n);rw[Jo Jf,<-e]at this;exact AC this (Aw uo j)
 rw[AE,Ad (show(xs++[0]).length<=len by simp;omega),Ad (show bs.length<=len by omega),YC,Cv,Ci,e,Jo Jf]at b;have g:val DR xs=m:=by rw[d,Jo Jf]
 rw[g]at b;have k:DR^len=DR^xs.length*DR:=by rw[hl,AP]
 have o:DR^xs.length*2<=DR^len:=by rw[k];exact Av _ Jf
 have f:c=0:=by
  rcases AO 0 c with a|a
  . have:=Av (DR^len) a;omega
  . omega
 subst f;rw[<-J9 Jf i];congr 1
theorem Ph(a:Option Addr)(la ca:Nat)(b:Option Addr)(lb cb m n:Nat)(w:C)(j:Row F w (B a la ca) (Jc DR m))(k:Row F w (B b lb cb) (Jc DR n))(am:la<1099511627776)(aj:lb<1099511627776):
 Calls E 142 #[B a la ca,B b lb cb] w λe U=>∃u,e=.returned u/\UN U u (m+n)/\Bl w U:=by
 by_cases ak:la<lb
 . obtain⟨hl,V,ae,W,K⟩:=Ju k;obtain⟨v,ai,ah,af,L⟩:=Ju j;obtain⟨z,l,O⟩:=Dm hl j v;have P:=Lu lb om w;obtain⟨d,f⟩:∃d,d=w.alloc (H (cellsOf F (List.replicate (lb+1) 0)).toArray 156):=⟨_,rfl⟩;have y:Bl w d:=by rw[f];exact Ba w _
   have o:d.heap[w.heap.size]?=some (H (cellsOf F (List.replicate (lb+1) 0)).toArray 156 (0,0)):=by rw[f];exact BE w _
   rw[<-f]at P;obtain⟨X,ad,hA2,t⟩:=Nm w.heap.size (lb+1) (lb+1) b lb cb (Jc DR n) w d k y (Aa _) o om;rw[show lb+1-lb=1 from by omega,List.replicate_one]at hA2;have N:=Ja (show DT DR (Jc DR n++[0])from(Jp Jf n).append (DT.cons uo (DT.nil _)));have g:=Ja (show(Jc DR n++[0]).length=lb+1 by rw[Ai,<-hl];rfl);clear K hl L v j k f y o;go_enter Tryz.func142,Tryz.ntmps142
   go_wp2_with(go_at_call 164;refine(Nl w.heap.size 0 (lb+1) (lb+1) (Jc DR n++[0]) a la ca (Jc DR m) _ hA2 N.o (by rw[A8,g.o];exact Aa _) (Aa _) om om (Row.below l.o t) (Jp Jf m) (λp e A=>by have:=Ig l.o e A;omega)).mono ?_)
   rintro e x ⟨c,q,rfl,hq,hA3,r⟩;have T:=hq.1;have D:Row F x (B (some ⟨w.heap.size,0,none⟩) (lb+1) (lb+1)) q:=by
    have Q:=hA3.row 0 (lb+1) (lb+1) (by rw[JW T (by rw[g.o];omega),g.o];omega) (Aa _) om om;have R:((Dd (Jc DR n++[0]) 0 (lb+1) q).drop 0).take (lb+1)=q:=by
     rw[AE,Dd,CV,Ao,AU om,Ad om]
    rwa[R]at Q
   have S:=Ja (Pg hq rfl rfl (by rw[<-z.o]) (by rw[<-z.o,<-O.o];omega));have s:Bl w x:=below_grown t r (Aa _);clear hq hA3 r;go_wp2_with(go_at_call 128;refine(YW _ q _ D).mono ?_)
   rintro e Z ⟨u,rfl,i,M⟩;rw[S.o]at i;obtain⟨Y,uc,rfl⟩:=UN.form i;go_wp2;go_ret;exact⟨_,rfl,by rw[CZ m n];exact i,s.trans (M.mono s.size)⟩
 . obtain⟨hl,V,ae,W,K⟩:=Ju j;obtain⟨v,ai,ah,af,L⟩:=Ju k;obtain⟨z,l,O⟩:=Dm hl k v;have P:=Lu la om w;obtain⟨d,f⟩:∃d,d=w.alloc (H (cellsOf F (List.replicate (la+1) 0)).toArray 156):=⟨_,rfl⟩;have y:Bl w d:=by rw[f];exact Ba w _
   have o:d.heap[w.heap.size]?=some (H (cellsOf F (List.replicate (la+1) 0)).toArray 156 (0,0)):=by rw[f];exact BE w _
   rw[<-f]at P;obtain⟨X,ad,hA2,t⟩:=Nm w.heap.size (la+1) (la+1) a la ca (Jc DR m) w d j y (Aa _) o om;rw[show la+1-la=1 from by omega,List.replicate_one]at hA2;have N:=Ja (show DT DR (Jc DR m++[0])from(Jp Jf m).append (DT.cons uo (DT.nil _)));have g:=Ja (show(Jc DR m++[0]).length=la+1 by rw[Ai,<-hl];rfl);clear K hl L v j k f y o;go_enter Tryz.func142,Tryz.ntmps142
   go_wp2_with(go_at_call 164;refine(Nl w.heap.size 0 (la+1) (la+1) (Jc DR m++[0]) b lb cb (Jc DR n) _ hA2 N.o (by rw[A8,g.o];exact Aa _) (Aa _) om om (Row.below l.o t) (Jp Jf n) (λp e A=>by have:=Ig l.o e A;omega)).mono ?_)
   rintro e x ⟨c,q,rfl,hq,hA3,r⟩;have T:=hq.1;have D:Row F x (B (some ⟨w.heap.size,0,none⟩) (la+1) (la+1)) q:=by
    have Q:=hA3.row 0 (la+1) (la+1) (by rw[JW T (by rw[g.o];omega),g.o];omega) (Aa _) om om;have R:((Dd (Jc DR m++[0]) 0 (la+1) q).drop 0).take (la+1)=q:=by
     rw[AE,Dd,CV,Ao,AU om,Ad om]
    rwa[R]at Q
   have S:=Ja (Pg hq rfl rfl (by rw[<-z.o]) (by rw[<-z.o,<-O.o];omega));have s:Bl w x:=below_grown t r (Aa _);clear hq hA3 r;go_wp2_with(go_at_call 128;refine(YW _ q _ D).mono ?_)
   rintro e Z ⟨u,rfl,i,M⟩;rw[S.o]at i;obtain⟨Y,uc,rfl⟩:=UN.form i;go_wp2;go_ret;exact⟨_,rfl,i,s.trans (M.mono s.size)⟩
def Ih(a:Array Bool):Nat:=a.toList.countP (λb=>!b)
theorem Lv(a:i<g.size)(h:g.getD i true=false):Ih (g.setIfInBounds i true)+1=Ih g:=by
 obtain⟨l⟩:=g;simp only[An]at a;simp only[Array.getD,An,a,dif_pos,Array.getInternal_eq_getElem,List.getElem_toArray]at h;simp only[Ih,List.setIfInBounds_toArray];induction l generalizing i with
 |nil=>simp at a
 |cons x l b=>
  cases i with
  |zero=>simp at h;subst h;simp
  |succ i=>
   simp only[Am]at a;simp only[List.getElem_cons_succ]at h;have:=b om h;simp only[List.set_cons_succ,List.countP_cons];omega
theorem U9{F:Fence}{c:Region.Mode}(I:Array Bool->Act->C->Prop)
(step:∀b a w i,b.size=d.size->I b a w->i∈Region.ready c d b->wpOpIn F n P d Q i (I (b.setIfInBounds i true)) a w)
(fin:∀b a w,b.size=d.size->I b a w->Region.ready c d b=[]->Q .normal a w):
 ∀(f:Nat) (b:Array Bool) (a:Act) (w:C),b.size=d.size->Ih b<=f->I b a w->wpAnyIn F n P c d Q f b a w:=by
 intro f;have k:∀ {b:Array Bool} {i:Nat},i∈Region.ready c d b->i<d.size/\b.getD i true=false:=by
  intro b i e;simp only[Region.ready,FQ,List.mem_range,AM,Cr]at e;exact⟨e.1,e.2.1⟩
 induction f with
 |zero=>
  intro b a w hs r g;have m:Region.ready c d b=[]:=by
   cases p:Region.ready c d b with
   |nil=>rfl
   |cons i l=>
    obtain⟨o,j⟩:=k (show i∈Region.ready c d b by rw[p];exact CK);have:=Lv (i:=i) om j;omega
  exact⟨m,fin _ _ _ hs g m⟩
 |succ f s=>
  intro b a w hs r g;refine⟨fin _ _ _ hs g,λi e=>?_⟩;obtain⟨o,j⟩:=k e;have:=Lv (i:=i) om j;exact wpOpIn_mono (λa' q h=>s _ a' q (by simp[hs]) om h) (step b a w i hs g e)
theorem VA{F:Fence}{id:Nat}{a:Act}(c:P.follows .mixedOrders=true)(I:Array Bool->Act->C->Prop)
(start:I (Array.replicate d.size false) a w.drew)
(step:∀b a w i,b.size=d.size->I b a w->i∈Region.ready .any d b->wpOpIn F n P d Q i (I (b.setIfInBounds i true)) a w)
(fin:∀b a w,b.size=d.size->I b a w->Region.ready .any d b=[]->Q .normal a w):
 (Code.region id d true).wpIn F n P Q a w:=
 wpIn_region_any c (U9 I step fin _ _ _ _ DQ (by rw[Ih];exact As List.countP_le_length DQ) start)
def Lw(a:List (List Nat)):Bool:=a.zipIdx.all λp=>p.1.all (·<p.2)
theorem Lx(h:Lw f=true)(b:f[i]?=some ds){j:Nat}(a:j∈ds):j<i:=by
 simp only[Lw,A4,BR]at h;exact h (ds,i) (List.mk_mem_zipIdx_iff_getElem?.2 b) j a
theorem mem_ready{m:Region.Mode}(r:Region.tabAfter m d=f):
 i∈Region.ready m d g↔g.getD i true=false/\∃ds,f[i]?=some ds/\∀j∈ds,g.getD j false=true:=by
 subst r;simp only[Region.ready,FQ,List.mem_range,AM,Cr,Region.tabAfter,CT,Ck];constructor
 . rintro⟨k,n,b⟩;rw[Ca k]at b ⊢;simp only[Fg,Fm,Array.all_eq_true',C9,Cr]at b;refine⟨n,_,rfl,λj q=>?_⟩;simp only[FA,FQ]at q;obtain⟨e,⟨l,p⟩,rfl⟩:=q;rcases b e (by simpa using l)with h|h
   . rw[p]at h;cases h
   . exact h
 . rintro⟨n,ds,a,b⟩;cases c:d[i]? with
   |none=>rw[c]at a;simp at a
   |some o=>
    rw[c]at a;simp only[Fg,Ag]at a;subst a;have k:i<d.size:=by
     rcases AO i d.size with h|h
     . exact h
     . rw[Array.getElem?_eq_none h]at c;cases c
    refine⟨k,n,?_⟩;simp only[Fg,Fm,Array.all_eq_true',C9,Cr];intro e l;cases p:Region.binds m e with
    |false=>exact Or.inl rfl
    |true=>exact Or.inr (b e.on (by simp only[FA,FQ];exact⟨e,⟨by simpa using l,p⟩,rfl⟩))
theorem Yd{F:Fence}{id:Nat}{a:Act}(K:P.follows .mixedOrders=true)
(c:List (List Nat))(r:Region.tabAfter .any d=c)(t:Lw c=true)(I:(Nat->Bool)->Act->C->Prop)
(start:I (λ_=>false) a w.drew)
(step:∀(D:Nat->Bool) a w i ds,(∀i ds,c[i]?=some ds->D i=true->∀j∈ds,D j=true)->c[i]?=some ds->(∀j∈ds,D j=true)->D i=false->I D a w->wpOpIn F n P d Q i (I (λj=>j==i || D j)) a w)
(fin:∀(D:Nat->Bool) a w,(∀i,i<c.length->D i=true)->I D a w->Q .normal a w):
 (Code.region id d true).wpIn F n P Q a w:=by
 have A:c.length=d.size:=by rw[<-r];simp[Region.tabAfter]
 refine VA K (λb a w=>(∀i ds,c[i]?=some ds->b.getD i false=true->∀j∈ds,b.getD j false=true)/\I (λj=>b.getD j false) a w) ⟨λi ds _ h=>?_,?_⟩ ?_ ?_
 . simp only[Array.getD,CM]at h;split at h<;>simp at h
 . have e:(λj=>(Array.replicate d.size false).getD j false)=λ_=>false:=by
    funext j;simp only[Array.getD,CM];split<;>simp
   rw[e];exact start
 . rintro b a w i hs ⟨m,q⟩ p;obtain⟨u,ds,g,v⟩:=(mem_ready r).1 p;have l:i<b.size:=by
    rw[hs,<-A];rcases AO i c.length with h|h
    . exact h
    . rw[At h]at g;cases g
   have M:b.getD i false=false:=by
    simp only[Array.getD,l,dif_pos]at u ⊢;exact u
   have e:∀j,(b.setIfInBounds i true).getD j false=(j==i || b.getD j false):=by
    intro j;rw[Fj,Fj,Array.getElem?_setIfInBounds];by_cases o:i=j
    . subst o;simp[l]
    . simp[o,Ne.symm o]
   refine wpOpIn_mono (λa' N h=>⟨λx y s f j k=>?_,?_⟩) (step _ a w i ds m g v M q)
   . rw[e]at f ⊢;simp only[C9,beq_iff_eq]at f ⊢;rcases f with rfl|f
     . rw[g]at s;cases s;exact Or.inr (v j k)
     . exact Or.inr (m x y s f j k)
   . rw[show(λj=>(b.setIfInBounds i true).getD j false)=λj=>(j==i || b.getD j false)from funext e];exact h
 . rintro b a w hs ⟨m,q⟩ L;refine fin _ a w (λi=>?_) q;induction i using Nat.strongRecOn with
   |_ i z=>
    intro p;cases f:b.getD i false with
    |true=>rfl
    |false=>
     exfalso
     have g:c[i]?=some c[i]:=Ah p;have:i∈Region.ready .any d b:=(mem_ready r).2 ⟨by
      have l:i<b.size:=om
      simp only[Array.getD,l,dif_pos]at f ⊢;exact f,_,g,λj k=>z j (Lx t g k) (by have:=Lx t g k;omega)⟩
     rw[L]at this;cases this
attribute [local go_sem] Oper.semAt_some
def Pi(w:C)(a:Option Addr)(len ca:Nat)(b:Option Addr)(lb cb:Nat)(xs c:List Nat)(k:Nat)(W:C):Prop:=
 (((Boxed W w.heap.size 61 (B b lb cb)/\Boxed W (w.heap.size+1) 3 (G I 0))/\Boxed W (w.heap.size+1+1) 61 (B a len ca))/\Bl w W)/\xs.drop (len-k)=c.drop (len-k)
def Pj(w:C)(xs a:List Nat)(c:Code)(_k:Nat)(W:C):Prop:=
 (Boxed W (w.heap.size+1) 3 (G I (Y9 (val DR xs) (val DR a)))/\Bl w W)/\c=.ret
theorem VB(w:C)(a:Option Addr)(len ca:Nat)(b:Option Addr)(lb cb:Nat)(xs c:List Nat):OwnFrom (w.heap.size+1+1+1) (Pi w a len ca b lb cb xs c):=
 BN (BN (BN (BN (Bj (boxed_own _ _ (λ_=>B b lb cb)) _) (Bj (boxed_own _ _ (λ_=>G I 0)) _)) (Bj (boxed_own _ _ (λ_=>B a len ca)) _)) (Bw (Aa _) om)) (DN _ _)
theorem VC(w:C)(xs a:List Nat)(c:Code):OwnFrom (w.heap.size+1+1+1) (Pj w xs a c):=
 BN (BN (Bj (boxed_own _ _ (λ_=>G I (Y9 (val DR xs) (val DR a)))) _) (Bw (Aa _) om)) (DN _ _)
theorem VD{c:Bool}(h:m≠n)(a:c=decide (n<m)):(if c then 1 else -1:Int)=Y9 m n:=by
 subst a;rcases Nat.lt_or_gt_of_ne h with h|h
 . rw[XT h,BC si]
 . rw[IY h,BG si]
theorem VE(a:Option Addr)(la ca:Nat)(b:Option Addr)(lb cb:Nat)(w:C)(m n:Nat)(j:la≠lb)(i:la<lb↔m<n)(d:m≠n):
 Calls E 132 #[B a la ca,B b lb cb] w λe f=>e=.returned (G I (Y9 m n))/\Bl w f:=by
 have k:(((la:Nat):Int) != (lb:Int))=true:=by rw[DG];omega
 have g:=Ja (show(if decide ((lb:Int)<(la:Int))=true then 1 else -1:Int)=Y9 m n from VD d (by congr 1;apply propext;omega));clear i d j;refine(BJ (n:=3)).1 ?_;refine BU Tryz.func132 rfl trivial ?_ rfl;simp only[Tryz.ntmps132,An,Am,AD,Nat.reduceAdd,Nat.reduceSub,AF,AG,AZ,AN,Ao,Az];gi_wp2_with(refine⟨trivial,?_⟩;gi_at_call 131;refine((BJ (n:=_)).2 (NW _ _)).mono ?_;rintro e f ⟨rfl,rfl⟩)
 . have c:Y9 m n=1:=by rw[<-g.o,BG si]
   have q:=(BM (w.alloc (H #[B b lb cb] 61)) 3 (G I 1)).cell;simp only[A1]at q;refine⟨G I 1,by simp[results,Tryz.results132,go_sem,q],by rw[c],?_⟩;exact(Ba w _).alloc DQ _
 . have c:Y9 m n=-1:=by rw[<-g.o,BC si]
   have q:=(BM (w.alloc (H #[B b lb cb] 61)) 3 (G I (-1))).cell;simp only[A1]at q;refine⟨G I (-1),by simp[results,Tryz.results132,go_sem,q],by rw[c],?_⟩;exact(Ba w _).alloc DQ _
theorem VF(a:Option Addr)(len ca:Nat)(b:Option Addr)(cb:Nat)(xs d:List Nat)(w:C)(Z:Row F w (B a len ca) xs)(hb:Row F w (B b len cb) d)(xa:DT DR xs)(xb:DT DR d):
 Calls E 132 #[B a len ca,B b len cb] w λe T=>e=.returned (G I (Y9 (val DR xs) (val DR d)))/\Bl w T:=by
 obtain⟨hl,ai,ah,af,t⟩:=Ju Z;obtain⟨ae,am,ap,an,ad⟩:=Ju hb;obtain⟨L,R,HC,Qe⟩:=EC hl ae t ad;clear t ad hl ae Z hb;refine(BJ (n:=3)).1 ?_;refine BU Tryz.func132 rfl trivial ?_ rfl;simp only[Tryz.ntmps132,An,Am,AD,Nat.reduceAdd,Nat.reduceSub,AF,AG,AZ,AN,Ao,Az];gi_wp2_with(refine⟨trivial,?_⟩;gi_at_call 152;refine(Kl Fence.wide _ trivial rfl _ _ _ _).mono ?_;rintro e T ⟨rfl,rfl⟩)
 obtain⟨W0,o⟩:=ex (((w.alloc (H #[B b len cb] 61)).alloc (H #[G I 0] 3)).alloc (H #[B a len ca] 61));have b0:=((BM w 61 (B b len cb)).alloc (H #[G I 0] 3)).alloc (H #[B a len ca] 61);have U:=(BM (w.alloc (H #[B b len cb] 61)) 3 (G I 0)).alloc (H #[B a len ca] 61);have N:=BM ((w.alloc (H #[B b len cb] 61)).alloc (H #[G I 0] 3)) 61 (B a len ca);simp only[A1]at U N;have V:W0.heap.size=w.heap.size+1+1+1:=by rw[<-o];simp
 have Qf:Bl w W0:=by rw[<-o];exact((Ba w _).alloc DQ _).alloc si _
 rw[o]at b0 U N ⊢;clear o;refine YZ rfl om (gf:=174) (lb:=#[.pointer (some ⟨w.heap.size+1+1,0,none⟩)]) rfl trivial (DF Tryz.func174 (by kernel_rfl) rfl)
  (Kk Fence.wide _ trivial rfl om (w.heap.size+1+1) a len ca (λj=>xs[j]?.getD 0) af) (λ_=>rfl)
  (Pi w a len ca b len cb xs d) (Pj w xs d) (by rw[V];exact VB w a len ca b len cb xs d) (λc=>by rw[V];exact VC w xs d c)
  ⟨⟨⟨⟨b0,U⟩,N⟩,Qf⟩,by rw[Fc,AQ (by rw[L.o];exact Aa _),AQ (by rw[R.o];exact Aa _)]⟩ ?rd
  (λk=>{ tmps:=#[B a len ca,B b len cb,J,.pointer (some ⟨w.heap.size,0,none⟩),.pointer (some ⟨w.heap.size+1,0,none⟩),G I ((len:Int)-1-k),G F (xs[len-1-k]?.getD 0:Nat),B a len ca,G I (len:Nat),B b len cb,G I (len:Nat),.bool false,J,J,J,J,J,J,B a len ca,.func (.func 174) #[] #[.pointer (some ⟨w.heap.size+1+1,0,none⟩)],G I ((len:Int)-1-k),G F (xs[len-1-k]?.getD 0:Nat),J,J,J,J,J,J,J,J,J,J,J,J,J],defers:=[] }) ?assign ?body ?done ?stop
 case rd=>
  rintro k W ⟨⟨⟨_,c2⟩,f⟩,_⟩;refine⟨c2.cell,λhk=>?_⟩;obtain⟨M,off,ea,S,t⟩:=HC.o (len-1-k) om;exact⟨M,off,ea,(f.cell (p:=⟨M,off+(len-1-k),none⟩) S).trans t⟩
 case assign=>
  intro l k W K g;unfold Gx;gi_wp2;exact g
 case body=>
  rintro l k W ⟨⟨⟨⟨c0,c1⟩,c2⟩,f⟩,i⟩ hk aj;have d0:=c0.cell;have d1:=c1.cell;have f1:=c1.frozen;obtain⟨M,off,rfl,S,X⟩:=Qe.o (len-1-k) om;have dy:=(f.cell (p:=⟨M,off+(len-1-k),none⟩) S).trans X;clear X;have e1:((len:Int)-1-k)=((len-1-k:Nat):Int):=om
  rw[e1];have u:len-1-k<len:=om
  have Y:len-1-k+1=len-k:=om
  have s:xs.drop (len-1-k+1)=d.drop (len-1-k+1):=by rw[Y];exact i
  have r:xs.length=d.length:=L.o.symm.trans R.o;have v:=Ja (λ(h:xs[len-1-k]?.getD 0=d[len-1-k]?.getD 0)=>O9 r (len-1-k) (by rw[<-L.o];exact u) s h);have z:=Ja (show xs[len-1-k]?.getD 0≠d[len-1-k]?.getD 0->Y9 (val DR xs) (val DR d)=Y9 (xs[len-1-k]?.getD 0) (d[len-1-k]?.getD 0)from λh=>by
   rcases Nat.lt_or_gt_of_ne h with h|h
   . rw[XT h,XT (LX xa r (len-1-k) (by rw[<-L.o];exact u) s h)]
   . rw[IY h,IY (LX xb r.symm (len-1-k) (by rw[<-R.o];exact u) s.symm h)])
  have HK:=Ja (show len-(k+1)=len-1-k by omega);clear e1 Y s i r;generalize xs[len-1-k]?.getD 0=x at v z ⊢;generalize d[len-1-k]?.getD 0=y at v z dy;generalize len-1-k=m at v u HK dy ⊢;by_cases P:x=y
  . subst P;gi_wp2_with fail
    refine⟨KeepsFrom.refl _ _,⟨⟨⟨c0,c1⟩,c2⟩,f⟩,?_⟩;rw[HK.o];exact v.o DQ
  . have ak:(((x:Nat):Int) != (y:Int))=true:=by rw[DG];omega
    have O:=Ja P;clear P;gi_wp2_with(refine⟨trivial,?_⟩;gi_at_call 131;refine(Be l ((BJ (n:=_)).2 (NW _ _))).mono ?_;rintro e T ⟨rfl,rfl⟩)
    . refine⟨(BL _ _ _).from _,⟨?_,f.setCell (p:=⟨w.heap.size+1,0,none⟩) DQ _⟩,rfl⟩;rw[z.o O.o,IY ‹y<x›];exact c1.set _
    . refine⟨(BL _ _ _).from _,⟨?_,f.setCell (p:=⟨w.heap.size+1,0,none⟩) DQ _⟩,rfl⟩;rw[z.o O.o,XT (by have:=O.o;omega)];exact c1.set _
 case done=>
  rintro D W hD ⟨⟨⟨⟨c0,c1⟩,c2⟩,f⟩,i⟩ g;have d1:=c1.cell;have f1:=c1.frozen;have HZ:=Ja i;clear i;gi_wp2;have A:(W.setCell ⟨w.heap.size+1,0,none⟩ (G I 0)).heap[D]?=some (.deferred (some [])):=(BL W ⟨w.heap.size+1,0,none⟩ (G I 0)).same D _ g rfl;refine⟨DQ,.inl ⟨_,_,rfl,Bb A,?_⟩⟩;have Q:=(c1.set (G I 0)).kept (BV _ D (.deferred none)) (λe=>by cases e;rw[show(W.setCell ⟨w.heap.size+1,0,none⟩ (G I 0)).heap[w.heap.size+1]?=_ from c1.set (G I 0)]at A;cases A);have q:=Q.cell;have hv:Y9 (val DR xs) (val DR d)=0:=by
   have:=HZ.o;rw[A3,AE,AE]at this;rw[this,NA]
  refine⟨G I 0,by simp[results,Tryz.results132,go_sem,q],by rw[hv],?_⟩;exact(f.setCell (p:=⟨w.heap.size+1,0,none⟩) DQ _).trans (DP (w:=w) (Aa _) _ D _ _ om A rfl rfl)
 case stop=>
  rintro D c k W hD hk ⟨⟨c1,f⟩,rfl⟩ g;have d1:=c1.cell;gi_wp2;refine⟨DQ,.inl ⟨_,_,rfl,Bb g,?_⟩⟩;have Q:=c1.kept (BV _ D (.deferred none)) (λe=>by cases e;rw[show W.heap[w.heap.size+1]?=_ from c1]at g;cases g);have q:=Q.cell;refine⟨G I (Y9 (val DR xs) (val DR d)),by simp[results,Tryz.results132,go_sem,q],rfl,?_⟩;exact f.trans (DP (w:=w) (Aa _) _ D _ _ om g rfl rfl)
theorem Np(m l:Value)(xs d:List Nat)(w:C)(k:Row F w m xs)(j:Row F w l d)(f:DT DR xs)(g:DT DR d)(ta:Ey xs)(tb:Ey d):
 Calls E 132 #[m,l] w λe n=>e=.returned (G I (Y9 (val DR xs) (val DR d)))/\Bl w n:=by
 obtain⟨a,ca,rfl,o⟩:=id k;obtain⟨b,cb,rfl,p⟩:=id j;have i:2<=DR:=by unfold DR;omega
 by_cases hl:xs.length=d.length
 . rw[<-hl]at j ⊢;exact VF a xs.length ca b cb xs d w k j f g
 . refine VE a _ ca b _ cb w _ _ hl ?_ ?_
   . constructor
     . exact λh=>Yz i f g ta tb h
     . intro h;rcases Nat.lt_or_gt_of_ne hl with c|c
       . exact c
       . have:=Yz i g f tb ta c;omega
   . rcases Nat.lt_or_gt_of_ne hl with c|c
     . have:=Yz i f g ta tb c;omega
     . have:=Yz i g f tb ta c;omega
end
variable{a:Act}{b:Array Oper}{Q:Exit->Act->C->Prop}{P:Program}{w:C}
theorem VG(n c:Nat)(w:C):Calls E 147 #[B none n c] w λe d=>e=.returned (B none 0 0)/\d=w:=by
 have f:∀(w:C) (a:Option Addr) (n c b c':Nat),(binOp .eql 61 (B a n c) (B none b c')).run E w=.ok (.bool a.isNone) w:=λw a n c b c'=>Bn w _ _ a n c b c' Tryz.underlying61;go_enter Tryz.func147,Tryz.ntmps147
 go_wp2;go_ret;exact⟨rfl,rfl⟩
theorem Nq(p:Addr)(c:Nat)(xs:List Nat)(w:C)(hl:xs.length<=1099511627776)(i:∀j,j<xs.length->w.cell? (p.add j)=some (G F (xs[j]?.getD 0:Nat))):
 Calls E 147 #[B (some p) xs.length c] w λe l=>∃b,e=.returned b/\l.ownsRow w.heap.size 156 1 b xs.length (cellsOf F xs)/\Bl w l:=by
 obtain⟨q,r,s,t,m⟩:=Bo Tryz.infoU64;have L:∀(w:C) (a:Option Addr) (n c f c':Nat),(binOp .eql 61 (B a n c) (B none f c')).run E w=.ok (.bool a.isNone) w:=λw a n c f c'=>Bn w _ _ a n c f c' Tryz.underlying61;have A:=Ja i;clear i;go_enter Tryz.func147,Tryz.ntmps147
 go_wp2_with(at_builtin;refine BZ _ rfl _ _ 61 rfl w.heap.size 156 q (G F 0) 1 8 Tryz.underlying61 r s t m rfl DS _ _ _ rfl (World.ownsRow_made w #[] 0 (Aa _) (AK _) rfl) p xs.length c (cellsOf F xs) rfl ?qc1 ?qc2 ?qc3 ?qc4 ?qc5 ?qc6 ?_)
 case qc1=>simp[cellsOf]
 case qc2=>
  intro j u d;have g:j<xs.length:=by
   have:=(Ac.1 d).1;simpa[cellsOf]using this
  refine Lib.cell?_alloc_some _ ?_;rw[A.o j g];simp only[cellsOf,CT,Ah g,Fg,Fm]at d ⊢;exact d
 case qc3=>intro u y;obtain⟨x,_,rfl⟩:=FA.1 y;rfl
 case qc4=>unfold maxLen;omega
 case qc5=>omega
 case qc6=>simp
 intro b K z o D;go_wp2;go_ret;refine⟨b,rfl,by simpa using z,?_⟩;exact(Ba w _).grown o DQ (by intro k v;simp[Value.ownBlock]at v;omega)
theorem VH{d:Region.Mode}(I:Array Bool->Act->C->Prop)
(step:∀c a w i,c.size=b.size->I c a w->i∈Region.ready d b c->wpOp P b Q i (I (c.setIfInBounds i true)) a w)
(fin:∀c a w,c.size=b.size->I c a w->Region.ready d b c=[]->Q .normal a w):
 ∀(f:Nat) (c:Array Bool) (a:Act) (w:C),c.size=b.size->Ih c<=f->I c a w->wpAny P d b Q f c a w:=by
 intro f;have k:∀ {c:Array Bool} {i:Nat},i∈Region.ready d b c->i<b.size/\c.getD i true=false:=by
  intro c i e;simp only[Region.ready,FQ,List.mem_range,AM,Cr]at e;exact⟨e.1,e.2.1⟩
 induction f with
 |zero=>
  intro c a w hs q g;have m:Region.ready d b c=[]:=by
   cases o:Region.ready d b c with
   |nil=>rfl
   |cons i l=>
    obtain⟨n,j⟩:=k (show i∈Region.ready d b c by rw[o];exact CK);have:=Lv (i:=i) om j;omega
  exact⟨m,fin _ _ _ hs g m⟩
 |succ f r=>
  intro c a w hs q g;refine⟨fin _ _ _ hs g,λi e=>?_⟩;obtain⟨n,j⟩:=k e;have:=Lv (i:=i) om j;exact wpOp_mono (λa' p h=>r _ a' p (by simp[hs]) om h) (step c a w i hs g e)
theorem wp_region_held{id:Nat}(d:P.follows .mixedOrders=true)(I:Array Bool->Act->C->Prop)
(start:I (Array.replicate b.size false) a w.drew)
(step:∀c a w i,c.size=b.size->I c a w->i∈Region.ready .any b c->wpOp P b Q i (I (c.setIfInBounds i true)) a w)
(fin:∀c a w,c.size=b.size->I c a w->Region.ready .any b c=[]->Q .normal a w):
 (Code.region id b true).wp P Q a w:=
 wp_region_any d (VH I step fin _ _ _ _ DQ (by rw[Ih];exact As List.countP_le_length DQ) start)
theorem Jk{id:Nat}(A:P.follows .mixedOrders=true)
(d:List (List Nat))(q:Region.tabAfter .any b=d)(s:Lw d=true)(I:(Nat->Bool)->Act->C->Prop)
(start:I (λ_=>false) a w.drew)
(step:∀(D:Nat->Bool) a w i ds,(∀i ds,d[i]?=some ds->D i=true->∀j∈ds,D j=true)->d[i]?=some ds->(∀j∈ds,D j=true)->D i=false->I D a w->wpOp P b Q i (I (λj=>j==i || D j)) a w)
(fin:∀(D:Nat->Bool) a w,(∀i,i<d.length->D i=true)->I D a w->Q .normal a w):
 (Code.region id b true).wp P Q a w:=by
 have z:d.length=b.size:=by rw[<-q];simp[Region.tabAfter]
 refine wp_region_held A (λc a w=>(∀i ds,d[i]?=some ds->c.getD i false=true->∀j∈ds,c.getD j false=true)/\I (λj=>c.getD j false) a w) ⟨λi ds _ h=>?_,?_⟩ ?_ ?_
 . simp only[Array.getD,CM]at h;split at h<;>simp at h
 . have e:(λj=>(Array.replicate b.size false).getD j false)=λ_=>false:=by
    funext j;simp only[Array.getD,CM];split<;>simp
   rw[e];exact start
 . rintro c a w i hs ⟨m,p⟩ o;obtain⟨t,ds,g,u⟩:=(mem_ready q).1 o;have l:i<c.size:=by
    rw[hs,<-z];rcases AO i d.length with h|h
    . exact h
    . rw[At h]at g;cases g
   have L:c.getD i false=false:=by
    simp only[Array.getD,l,dif_pos]at t ⊢;exact t
   have e:∀j,(c.setIfInBounds i true).getD j false=(j==i || c.getD j false):=by
    intro j;rw[Fj,Fj,Array.getElem?_setIfInBounds];by_cases n:i=j
    . subst n;simp[l]
    . simp[n,Ne.symm n]
   refine wpOp_mono (λa' M h=>⟨λv x r f j k=>?_,?_⟩) (step _ a w i ds m g u L p)
   . rw[e]at f ⊢;simp only[C9,beq_iff_eq]at f ⊢;rcases f with rfl|f
     . rw[g]at r;cases r;exact Or.inr (u j k)
     . exact Or.inr (m v x r f j k)
   . rw[show(λj=>(c.setIfInBounds i true).getD j false)=λj=>(j==i || c.getD j false)from funext e];exact h
 . rintro c a w hs ⟨m,p⟩ K;refine fin _ a w (λi=>?_) p;induction i using Nat.strongRecOn with
   |_ i y=>
    intro o;cases f:c.getD i false with
    |true=>rfl
    |false=>
     exfalso
     have g:d[i]?=some d[i]:=Ah o;have:i∈Region.ready .any b c:=(mem_ready q).2 ⟨by
      have l:i<c.size:=om
      simp only[Array.getD,l,dif_pos]at f ⊢;exact f,_,g,λj k=>y j (Lx s g k) (by have:=Lx s g k;omega)⟩
     rw[K]at this;cases this
theorem DU{T:List (List Nat)}{D:Nat->Bool}(d:∀i ds,T[i]?=some ds->D i=true->∀j∈ds,D j=true){a k:Nat}{ds:List Nat}(b:D k=false)(e:T[a]?=some ds:=by rfl)(c:k∈ds:=by simp):D a=false:=by
 cases h:D a with
 |false=>rfl
 |true=>rw[d a ds e h k c]at b;cases b
theorem Pk(a:Option Addr)(la ca:Nat)(d:List Nat)(w:C)(q:Row F w (B a la ca) d)(m:0<la):
 Calls E 147 #[B a la ca] w λe b=>∃g c,e=.returned (B (some ⟨g,0,none⟩) la c)/\DX b g d/\w.heap.size<=g/\(la<=c/\c<=9223372036854775807)/\Bl w b:=by
 obtain⟨hl,y,K,L,k⟩:=Ju q;obtain⟨t,n,rfl,_,_⟩:=k 0 m;have f:=Nq ⟨t,n,none⟩ ca d w om (λj u=>by
  obtain⟨D,x,e,A,r⟩:=k j om;cases e;rw[Y1];exact r)
 rw[<-hl]at f;refine f.mono ?_;rintro e b ⟨z,rfl,i,p⟩;rcases i.2 with⟨_,ev⟩|⟨g,cap,v,ev,l,M,s,o,_⟩
 . omega
 . subst ev;exact⟨_,cap,rfl,DX.owns i,l,⟨s,o⟩,p⟩
theorem Pl(a:Option Addr)(la ca:Nat)(f:List Nat)(w:C)(l:Row F w (B a la ca) f):
 Calls E 147 #[B a la ca] w λe b=>∃k c,e=.returned (B k la c)/\Row F b (B k la c) f/\Bl w b:=by
 obtain⟨hl,x,A,t,D⟩:=Ju l;rcases AY la with i|i
 . subst i;obtain rfl:f=[]:=Ap hl.symm;cases a with
   |none=>
    refine(VG 0 ca w).mono ?_;rintro e b ⟨rfl,rfl⟩;exact⟨none,0,rfl,⟨none,0,rfl,Aa _,om,om,Or.inl rfl⟩,BB _ _⟩
   |some p=>
    refine(Nq p ca [] w DQ (λj n=>by simp at n)).mono ?_;rintro e b ⟨y,rfl,r,d⟩;rcases r.2 with⟨ev,_⟩|⟨g,cap,v,ev,_,_,z,o,_⟩
    . subst ev;exact⟨none,0,rfl,⟨none,0,rfl,Aa _,om,om,Or.inl rfl⟩,d⟩
    . subst ev;exact⟨_,cap,rfl,⟨_,cap,rfl,AK _,o,DQ,Or.inl rfl⟩,d⟩
 . refine(Pk a la ca f w l i).mono ?_;rintro e b ⟨g,c,rfl,s,_,⟨q,u⟩,d⟩;have m:=s.row 0 la c om q u t;rw[AE,Ad om]at m;exact⟨_,c,rfl,m,d⟩

