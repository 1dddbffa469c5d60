import Derived.Test.YteldjhhjnchdeaaGreatDoorU08
import Derived.Laws.CopyOwn
import Derived.Deep.OwnRows
import Derived.Lib.SliceRun
open Go.Value renaming slice->B,int->G
open Go renaming World->C,undef->L
open Go.Proofs.Tryz renaming prog->E
open Go.IntKind renaming u64->F,i64->I
open Go.Obj renaming cells->H
set_option maxRecDepth 100000
set_option maxHeartbeats 16000000
namespace Go.Proofs.YteldjhhjnchdeaaGreatDoor
open Go.RowKit Go.Shelf
section
theorem Bn:type_of% @Lib.run_eql_slice_nil:=@Lib.run_eql_slice_nil
theorem Be:type_of% @CallsIn.inRound:=@CallsIn.inRound
variable{p:Addr}{g:Array Bool}{d:Array Oper}{Q:Exit->Act->C->Prop}{f:List (List Nat)}{bs ds q xs:List Nat}{c i l len m n:Nat}{a:Option Addr}{P:Program}{w:C}
theorem VF(n:Nat):madeCells #[G F 0] n=(cellsOf F (List.replicate n 0)).toArray:=by
 apply Array.ext
 . simp[madeCells,cellsOf]
 . intro i a b;simp[madeCells,cellsOf,Nat.mod_one]
theorem Jx(n:Nat)(h:n<=2199023255552)(w:C):(Instr.makeSlice 61 (G I (n:Int)) (G I (n:Int))).run E w=.ok (B (some ⟨w.heap.size,0,none⟩) n n) (w.alloc (H (cellsOf F (List.replicate n 0)).toArray 156)):=by
 rw[<-VF];exact run_make_row' 61 156 (G F 0) 8 Tryz.underlying61 Tryz.infoU64 rfl I I n J J w
theorem Lo(l:Nat)(h:l<=2199023255551)(w:C):(Instr.makeSlice 61 (G I ((l:Int)+1)) (G I ((l:Int)+1))).run E w=.ok (B (some ⟨w.heap.size,0,none⟩) (l+1) (l+1)) (w.alloc (H (cellsOf F (List.replicate (l+1) 0)).toArray 156)):=
 Jx (l+1) J w
theorem Y8(b o j:Nat):(⟨b,o,none⟩:Addr).add j=⟨b,o+j,none⟩:=by simp[Addr.add]
theorem Xn(h:n<=m):(Jc Z n).length<=(Jc Z m).length:=by
 rcases AO (Jc Z m).length (Jc Z n).length with a|a
 . have:=YR Je a;omega
 . exact a
theorem VG{W:C}(h:Row F w (B a l c) ds)(k:Bl w W)(e:a=some p)(_h0:0<l)(j:Nat)(v:Value)(d:(cellsOf F ds)[j]?=some v):W.cell? (p.add j)=some v:=by
 obtain⟨hl,_,_,_,m⟩:=Jw h;have g:j<ds.length:=by
  rcases AO j ds.length with f|f
  . exact f
  . rw[At (by simpa[cellsOf]using f)]at d;cases d
 obtain⟨b,off,i,o,n⟩:=m j J;rw[i]at e;cases e;rw[Y8];rw[(k.cell (p:=⟨b,off+j,none⟩) o),n];simp only[cellsOf,CU,Ag g,Fi,Ah]at d;rw[<-d,Ag g];rfl
theorem Ip(h:Row F w (B a l c) ds)(e:a=some p)(f:0<l):p.block<w.heap.size:=by
 obtain⟨b,off,d,g,_⟩:=(Jw h).2.2.2.2 0 f;rw[d]at e;cases e;exact g
theorem VH(h:Row F w (B a l c) ds)(e:0<l):∃p,a=some p:=by
 obtain⟨b,off,d,f,_⟩:=(Jw h).2.2.2.2 0 e;exact⟨_,d⟩
theorem Pc(h:F4 xs bs 0 len c q)(k:xs=Jc Z m)(i:bs=Jc Z n)(hl:len=xs.length)(j:bs.length<=len)(o:n<=m):Jy q=Jc Z (m-n):=by
 obtain⟨d,b,l,e⟩:=h;rw[AE,Ac (show xs.length<=len by omega),Ac j,k,i,Jp Je,Jp Je]at e;have f:=Yl b;rw[d]at f;have g:c=0:=by
  rcases AO 0 c with a|a
  . have:=Av (Z^len) a;omega
  . omega
 subst g;rw[<-J9 Je b];congr 1;omega
theorem Nc(g b i:Nat)(a:Option Addr)(la ca:Nat)(xs:List Nat)(w c:C)(m:Row F w (B a la ca) xs)(l:Bl w c)(t:w.heap.size<=g)(k:c.heap[g]?=some (H (cellsOf F (List.replicate b 0)).toArray 156 (0,0)))(hl:la<=b):
 ∃f,(Builtin.copy_ #[61,61] 3 #[B (some ⟨g,0,none⟩) b i,B a la ca]).run E c=.ok (G I (la:Nat)) f/\DU f g (xs++List.replicate (b-la) 0)/\Bl w f:=by
 obtain⟨q,_⟩:=Jw m;have n:(Tryz.prog.info? 156).map (·.size)=some 1:=by kernel_rfl
 have r:(cellsOf F xs)++(cellsOf F (List.replicate b 0)).drop la=cellsOf F (xs++List.replicate (b-la) 0):=by simp[cellsOf]
 by_cases s:la=0
 . subst s;refine⟨c,run_copy_none (P:=E) c 61 61 3 156 (some ⟨g,0,none⟩) a b i 0 ca Tryz.underlying61 n (Nat.zero_min b),DU.made ?_,l⟩;obtain rfl:xs=[]:=Aq q.symm;rw[Ap,Fd];exact k
 . obtain⟨p,hp⟩:=VH m J;subst hp;have e:(cellsOf F xs).length=la:=by simp[cellsOf,q]
   have o:=run_copy_row (P:=E) c 61 61 3 156 g 0 b i p la ca _ 156 (cellsOf F xs) Tryz.underlying61 n k (by rw[e];exact(CF hl).symm) (λj v d=>VG m l rfl J j v d) (by rw[e];simp[cellsOf];exact hl) (λv d=>by
    rw[cellsOf,FA]at d;obtain⟨_,_,rfl⟩:=d;rfl)
   rw[e,CX,Ap,A8,r]at o;exact⟨_,o,DU.made (setRow_heap c g _ _ _ _ k),below_setRow l t _⟩
theorem Nd(a:Option Addr)(la ca:Nat)(b:Option Addr)(lb cb m n:Nat)(w:C)(j:Row F w (B a la ca) (Jc Z m))(k:Row F w (B b lb cb) (Jc Z n))(h:n<=m):
 Calls E 143 #[B a la ca,B b lb cb] w λe y=>∃u,e=.returned u/\UN y u (m-n)/\Bl w y:=by
 obtain⟨hl,ae,W,V,T⟩:=Jw j;obtain⟨x,af,X,ah,U⟩:=Jw k;have M:lb<=la:=by rw[hl,x];exact Xn h
 have f:=O hl;have i:=O k;have N:=Jx la J w;obtain⟨d,g⟩:∃d,d=w.alloc (H (cellsOf F (List.replicate la 0)).toArray 156):=⟨_,rfl⟩;have o:Bl w d:=by rw[g];exact Ba w _
 have r:d.heap[w.heap.size]?=some (H (cellsOf F (List.replicate la 0)).toArray 156 (0,0)):=by rw[g];exact BD w _
 rw[<-g]at N;obtain⟨w2,ad,hA2,t⟩:=Nc w.heap.size la la a la ca (Jc Z m) w d j o (Aa _) r (Aa _);rw[A3,List.replicate_zero,Cl]at hA2;clear T hl U x j k g o r;go_enter Tryz.func143,Tryz.ntmps143
 go_wp2_with(go_at_call 165;refine(Pb w.heap.size 0 la la (Jc Z m) b lb cb (Jc Z n) _ hA2 (Jq Je m) (by rw[A8,<-f.o];exact Aa _) (Aa _) J M (Row.below i.o t) (Jq Je n) λp e Q=>by have:=Ip i.o e Q;omega).mono ?_)
 rintro e z ⟨c,q,rfl,hq,hA3,v⟩;have K:=hq.1;have D:Row F z (B (some ⟨w.heap.size,0,none⟩) la la) q:=by
  have R:=hA3.row 0 la la (by rw[JW K (by rw[<-f.o];omega),<-f.o];omega) (Aa _) J V;have P:((DZ (Jc Z m) 0 la q).drop 0).take la=q:=by
   rw[AE,DZ,CX,Ap,AU J,Ac J]
  rwa[P]at R
 have A:=O (Pc hq rfl rfl f.o (by have:=Jw i.o;omega) h);have s:Bl w z:=below_grown t v (Aa _);clear hq hA3 v;go_wp2_with(go_at_call 128;refine(Y3 _ q _ D).mono ?_)
 rintro e w4 ⟨u,rfl,l,S⟩;rw[A.o]at l;obtain⟨ua,uc,rfl⟩:=UN.form l;go_wp2;go_ret;exact⟨_,rfl,l,s.trans (S.mono s.size)⟩
theorem Pd(h:GN (xs++[0]) bs 0 len c q)(e:xs=Jc Z m)(d:bs=Jc Z n)(hl:len=xs.length+1)(k:bs.length<=xs.length):Jy q=Jc Z (m+n):=by
 obtain⟨l,f,o,b⟩:=h;have r:m<Z^xs.length:=by
  have:=Yl (Jq Je m);rwa[Jp Je,<-e]at this
 have s:n<Z^xs.length:=by
  have:=Yl (Jq Je n);rw[Jp Je,<-d]at this;exact AB this (Aw uo k)
 rw[AE,Ac (show(xs++[0]).length<=len by simp;omega),Ac (show bs.length<=len by omega),YL,Cv,Ch,d,Jp Je]at b;have i:val Z xs=m:=by rw[e,Jp Je]
 rw[i]at b;have j:Z^len=Z^xs.length*Z:=by rw[hl,AQ]
 have p:Z^xs.length*2<=Z^len:=by rw[j];exact Av _ Je
 have g:c=0:=by
  rcases AO 0 c with a|a
  . have:=Av (Z^len) a;omega
  . omega
 subst g;rw[<-J9 Je f];congr 1
theorem Pe(a:Option Addr)(la ca:Nat)(b:Option Addr)(lb cb m n:Nat)(w:C)(j:Row F w (B a la ca) (Jc Z m))(k:Row F w (B b lb cb) (Jc Z n))(ak:la<1099511627776)(am:lb<1099511627776):
 Calls E 142 #[B a la ca,B b lb cb] w λe W=>∃u,e=.returned u/\UN W u (m+n)/\Bl w W:=by
 by_cases an:la<lb
 . obtain⟨hl,af,X,ai,U⟩:=Jw k;obtain⟨y,ah,ad,aj,V⟩:=Jw j;obtain⟨l,o,M⟩:=Dg hl j y;have P:=Lo lb J w;obtain⟨d,f⟩:∃d,d=w.alloc (H (cellsOf F (List.replicate (lb+1) 0)).toArray 156):=⟨_,rfl⟩;have r:Bl w d:=by rw[f];exact Ba w _
   have s:d.heap[w.heap.size]?=some (H (cellsOf F (List.replicate (lb+1) 0)).toArray 156 (0,0)):=by rw[f];exact BD w _
   rw[<-f]at P;obtain⟨w2,ae,hA2,v⟩:=Nc w.heap.size (lb+1) (lb+1) b lb cb (Jc Z n) w d k r (Aa _) s J;rw[show lb+1-lb=1 from by omega,List.replicate_one]at hA2;have A:=O (show DS Z (Jc Z n++[0])from(Jq Je n).append (DS.cons uo (DS.nil _)));have g:=O (show(Jc Z n++[0]).length=lb+1 by rw[Ai,<-hl];rfl);clear U hl V y j k f r s;go_enter Tryz.func142,Tryz.ntmps142
   go_wp2_with(go_at_call 164;refine(Nb w.heap.size 0 (lb+1) (lb+1) (Jc Z n++[0]) a la ca (Jc Z m) _ hA2 A.o (by rw[A8,g.o];exact Aa _) (Aa _) J J (Row.below o.o v) (Jq Je m) λp e R=>by have:=Ip o.o e R;omega).mono ?_)
   rintro e z ⟨c,q,rfl,hq,hA3,x⟩;have N:=hq.1;have K:Row F z (B (some ⟨w.heap.size,0,none⟩) (lb+1) (lb+1)) q:=by
    have S:=hA3.row 0 (lb+1) (lb+1) (by rw[JW N (by rw[g.o];omega),g.o];omega) (Aa _) J J;have Q:((DZ (Jc Z n++[0]) 0 (lb+1) q).drop 0).take (lb+1)=q:=by
     rw[AE,DZ,CX,Ap,AU J,Ac J]
    rwa[Q]at S
   have D:=O (Pd hq rfl rfl (by rw[<-l.o]) (by rw[<-l.o,<-M.o];omega));have t:Bl w z:=below_grown v x (Aa _);clear hq hA3 x;go_wp2_with(go_at_call 128;refine(Y3 _ q _ K).mono ?_)
   rintro e w4 ⟨u,rfl,i,T⟩;rw[D.o]at i;obtain⟨ua,uc,rfl⟩:=UN.form i;go_wp2;go_ret;exact⟨_,rfl,by rw[C1 m n];exact i,t.trans (T.mono t.size)⟩
 . obtain⟨hl,af,X,ai,U⟩:=Jw j;obtain⟨y,ah,ad,aj,V⟩:=Jw k;obtain⟨l,o,M⟩:=Dg hl k y;have P:=Lo la J w;obtain⟨d,f⟩:∃d,d=w.alloc (H (cellsOf F (List.replicate (la+1) 0)).toArray 156):=⟨_,rfl⟩;have r:Bl w d:=by rw[f];exact Ba w _
   have s:d.heap[w.heap.size]?=some (H (cellsOf F (List.replicate (la+1) 0)).toArray 156 (0,0)):=by rw[f];exact BD w _
   rw[<-f]at P;obtain⟨w2,ae,hA2,v⟩:=Nc w.heap.size (la+1) (la+1) a la ca (Jc Z m) w d j r (Aa _) s J;rw[show la+1-la=1 from by omega,List.replicate_one]at hA2;have A:=O (show DS Z (Jc Z m++[0])from(Jq Je m).append (DS.cons uo (DS.nil _)));have g:=O (show(Jc Z m++[0]).length=la+1 by rw[Ai,<-hl];rfl);clear U hl V y j k f r s;go_enter Tryz.func142,Tryz.ntmps142
   go_wp2_with(go_at_call 164;refine(Nb w.heap.size 0 (la+1) (la+1) (Jc Z m++[0]) b lb cb (Jc Z n) _ hA2 A.o (by rw[A8,g.o];exact Aa _) (Aa _) J J (Row.below o.o v) (Jq Je n) λp e R=>by have:=Ip o.o e R;omega).mono ?_)
   rintro e z ⟨c,q,rfl,hq,hA3,x⟩;have N:=hq.1;have K:Row F z (B (some ⟨w.heap.size,0,none⟩) (la+1) (la+1)) q:=by
    have S:=hA3.row 0 (la+1) (la+1) (by rw[JW N (by rw[g.o];omega),g.o];omega) (Aa _) J J;have Q:((DZ (Jc Z m++[0]) 0 (la+1) q).drop 0).take (la+1)=q:=by
     rw[AE,DZ,CX,Ap,AU J,Ac J]
    rwa[Q]at S
   have D:=O (Pd hq rfl rfl (by rw[<-l.o]) (by rw[<-l.o,<-M.o];omega));have t:Bl w z:=below_grown v x (Aa _);clear hq hA3 x;go_wp2_with(go_at_call 128;refine(Y3 _ q _ K).mono ?_)
   rintro e w4 ⟨u,rfl,i,T⟩;rw[D.o]at i;obtain⟨ua,uc,rfl⟩:=UN.form i;go_wp2;go_ret;exact⟨_,rfl,i,t.trans (T.mono t.size)⟩
def Iq(a:Array Bool):Nat:=a.toList.countP λb=>!b
theorem Lp(a:i<g.size)(h:g.getD i true=false):Iq (g.setIfInBounds i true)+1=Iq g:=by
 obtain⟨l⟩:=g;simp only[Ao]at a;simp only[Array.getD,Ao,a,dif_pos,Array.getInternal_eq_getElem,List.getElem_toArray]at h;simp only[Iq,List.setIfInBounds_toArray];induction l generalizing i with
 |nil=>simp at a
 |cons x l b=>
  cases i with
  |zero=>simp at h;subst h;simp
  |succ i=>
   simp only[An]at a;simp only[List.getElem_cons_succ]at h;have:=b J h;simp only[List.set_cons_succ,List.countP_cons];omega
theorem VI{F:Fence}{c:Region.Mode}(I:Array Bool->Act->C->Prop)
(step:∀b a w i,b.size=d.size->I b a w->i∈Region.ready c d b->wpOpIn F n P d Q i (I (b.setIfInBounds i true)) a w)
(fin:∀b a w,b.size=d.size->I b a w->Region.ready c d b=[]->Q .normal a w):
 ∀(f:Nat) (b:Array Bool) (a:Act) (w:C),b.size=d.size->Iq b<=f->I b a w->wpAnyIn F n P c d Q f b a w:=by
 intro f;have k:∀ {b:Array Bool} {i:Nat},i∈Region.ready c d b->i<d.size/\b.getD i true=false:=by
  intro b i e;simp only[Region.ready,FR,List.mem_range,AM,Ct]at e;exact⟨e.1,e.2.1⟩
 induction f with
 |zero=>
  intro b a w hs p g;have m:Region.ready c d b=[]:=by
   cases q:Region.ready c d b with
   |nil=>rfl
   |cons i l=>
    obtain⟨o,j⟩:=k (show i∈Region.ready c d b by rw[q];exact CL);have:=Lp (i:=i) J j;omega
  exact⟨m,fin _ _ _ hs g m⟩
 |succ f r=>
  intro b a w hs p g;refine⟨fin _ _ _ hs g,λi e=>?_⟩;obtain⟨o,j⟩:=k e;have:=Lp (i:=i) J j;exact wpOpIn_mono (λa' s h=>r _ a' s (by simp[hs]) J h) (step b a w i hs g e)
theorem VJ{F:Fence}{id:Nat}{a:Act}(c:P.follows .mixedOrders=true)(I:Array Bool->Act->C->Prop)
(start:I (Array.replicate d.size false) a w.drew)
(step:∀b a w i,b.size=d.size->I b a w->i∈Region.ready .any d b->wpOpIn F n P d Q i (I (b.setIfInBounds i true)) a w)
(fin:∀b a w,b.size=d.size->I b a w->Region.ready .any d b=[]->Q .normal a w):
 (Code.region id d true).wpIn F n P Q a w:=
 wpIn_region_any c (VI I step fin _ _ _ _ Y (by rw[Iq];exact Ar List.countP_le_length Y) start)
def Lq(a:List (List Nat)):Bool:=a.zipIdx.all λp=>p.1.all (·<p.2)
theorem Lr(h:Lq f=true)(a:f[i]?=some ds){j:Nat}(b:j∈ds):j<i:=by
 simp only[Lq,A4,BR]at h;exact h (ds,i) (List.mk_mem_zipIdx_iff_getElem?.2 a) j b
theorem mem_ready{p:Region.Mode}(r:Region.tabAfter p d=f):
 i∈Region.ready p d g↔g.getD i true=false/\∃ds,f[i]?=some ds/\∀j∈ds,g.getD j false=true:=by
 subst r;simp only[Region.ready,FR,List.mem_range,AM,Ct,Region.tabAfter,CU,Cj];constructor
 . rintro⟨k,l,a⟩;rw[A9 k]at a ⊢;simp only[Fi,Fo,Array.all_eq_true',Fa,Ct]at a;refine⟨l,_,rfl,λj q=>?_⟩;simp only[FA,FR]at q;obtain⟨e,⟨n,m⟩,rfl⟩:=q;rcases a e (by simpa using n)with h|h
   . rw[m]at h;cases h
   . exact h
 . rintro⟨l,ds,b,a⟩;cases c:d[i]? with
   |none=>rw[c]at b;simp at b
   |some o=>
    rw[c]at b;simp only[Fi,Ah]at b;subst b;have k:i<d.size:=by
     rcases AO i d.size with h|h
     . exact h
     . rw[Array.getElem?_eq_none h]at c;cases c
    refine⟨k,l,?_⟩;simp only[Fi,Fo,Array.all_eq_true',Fa,Ct];intro e n;cases m:Region.binds p e with
    |false=>exact Or.inl rfl
    |true=>exact Or.inr (a e.on (by simp only[FA,FR];exact⟨e,⟨by simpa using n,m⟩,rfl⟩))
theorem Yc{F:Fence}{id:Nat}{a:Act}(A:P.follows .mixedOrders=true)
(c:List (List Nat))(s:Region.tabAfter .any d=c)(v:Lq c=true)(I:(Nat->Bool)->Act->C->Prop)
(start:I (λ_=>false) a w.drew)
(step:∀(D:Nat->Bool) a w i ds,(∀i ds,c[i]?=some ds->D i=true->∀j∈ds,D j=true)->c[i]?=some ds->(∀j∈ds,D j=true)->D i=false->I D a w->wpOpIn F n P d Q i (I λj=>j==i || D j) a w)
(fin:∀(D:Nat->Bool) a w,(∀i,i<c.length->D i=true)->I D a w->Q .normal a w):
 (Code.region id d true).wpIn F n P Q a w:=by
 have x:c.length=d.size:=by rw[<-s];simp[Region.tabAfter]
 refine VJ A (λb a w=>(∀i ds,c[i]?=some ds->b.getD i false=true->∀j∈ds,b.getD j false=true)/\I (λj=>b.getD j false) a w) ⟨λi ds _ h=>?_,?_⟩ ?_ ?_
 . simp only[Array.getD,CN]at h;split at h<;>simp at h
 . have e:(λj=>(Array.replicate d.size false).getD j false)=λ_=>false:=by
    funext j;simp only[Array.getD,CN];split<;>simp
   rw[e];exact start
 . rintro b a w i hs ⟨o,m⟩ p;obtain⟨t,ds,f,u⟩:=(mem_ready s).1 p;have l:i<b.size:=by
    rw[hs,<-x];rcases AO i c.length with h|h
    . exact h
    . rw[At h]at f;cases f
   have z:b.getD i false=false:=by
    simp only[Array.getD,l,dif_pos]at t ⊢;exact t
   have e:∀j,(b.setIfInBounds i true).getD j false=(j==i || b.getD j false):=by
    intro j;rw[Fk,Fk,Array.getElem?_setIfInBounds];by_cases r:i=j
    . subst r;simp[l]
    . simp[r,Ne.symm r]
   refine wpOpIn_mono (λa' R h=>⟨λM y q g j k=>?_,?_⟩) (step _ a w i ds o f u z m)
   . rw[e]at g ⊢;simp only[Fa,beq_iff_eq]at g ⊢;rcases g with rfl|g
     . rw[f]at q;cases q;exact Or.inr (u j k)
     . exact Or.inr (o M y q g j k)
   . rw[show(λj=>(b.setIfInBounds i true).getD j false)=λj=>(j==i || b.getD j false)from funext e];exact h
 . rintro b a w hs ⟨o,m⟩ K;refine fin _ a w (λi=>?_) m;induction i using Nat.strongRecOn with
   |_ i N=>
    intro p;cases g:b.getD i false with
    |true=>rfl
    |false=>
     exfalso
     have f:c[i]?=some c[i]:=Ag p
     have:i∈Region.ready .any d b:=(mem_ready s).2 ⟨by
      have l:i<b.size:=J
      simp only[Array.getD,l,dif_pos]at g ⊢;exact g,_,f,λj k=>N j (Lr v f k) (by have:=Lr v f k;omega)⟩
     rw[K]at this;cases this
attribute [local go_sem] Oper.semAt_some
def Pf(w:C)(a:Option Addr)(len ca:Nat)(b:Option Addr)(lb cb:Nat)(xs c:List Nat)(k:Nat)(W:C):Prop:=
 (((Boxed W w.heap.size 61 (B b lb cb)/\Boxed W (w.heap.size+1) 3 (.int I 0))/\Boxed W (w.heap.size+1+1) 61 (B a len ca))/\Bl w W)/\xs.drop (len-k)=c.drop (len-k)
def Pg(w:C)(xs a:List Nat)(c:Code)(_k:Nat)(W:C):Prop:=
 (Boxed W (w.heap.size+1) 3 (.int I (Xf (val Z xs) (val Z a)))/\Bl w W)/\c=.ret
theorem VK(w:C)(a:Option Addr)(len ca:Nat)(b:Option Addr)(lb cb:Nat)(xs c:List Nat):OwnFrom (w.heap.size+1+1+1) (Pf w a len ca b lb cb xs c):=
 BN (BN (BN (BN (Bj (boxed_own _ _ λ_=>B b lb cb) _) (Bj (boxed_own _ _ λ_=>G I 0) _)) (Bj (boxed_own _ _ λ_=>B a len ca) _)) (Bw (Aa _) J)) (DN _ _)
theorem VL(w:C)(xs a:List Nat)(c:Code):OwnFrom (w.heap.size+1+1+1) (Pg w xs a c):=
 BN (BN (Bj (boxed_own _ _ λ_=>G I (Xf (val Z xs) (val Z a))) _) (Bw (Aa _) J)) (DN _ _)
theorem VM{c:Bool}(h:m≠n)(a:c=decide (n<m)):(if c then 1 else -1:Int)=Xf m n:=by
 subst a;rcases Nat.lt_or_gt_of_ne h with h|h
 . rw[XZ h,BE si]
 . rw[Ie h,BG si]
theorem VN(a:Option Addr)(la ca:Nat)(b:Option Addr)(lb cb:Nat)(w:C)(m n:Nat)(j:la≠lb)(i:la<lb↔m<n)(f:m≠n):
 Calls E 132 #[B a la ca,B b lb cb] w λe g=>e=.returned (G I (Xf m n))/\Bl w g:=by
 have k:(((la:Nat):Int) != (lb:Int))=true:=by rw[DG];omega
 have d:=O (show(if decide ((lb:Int)<(la:Int))=true then 1 else -1:Int)=Xf m n from VM f (by congr 1;apply propext;omega));clear i f j;refine(BJ (n:=3)).1 ?_;refine BU Tryz.func132 rfl trivial ?_ rfl;simp only[Tryz.ntmps132,Ao,An,AD,Nat.reduceAdd,Nat.reduceSub,AF,AG,AZ,AN,Ap,AA];gi_wp2_with(refine⟨trivial,?_⟩;gi_at_call 131;refine((BJ (n:=_)).2 (NR _ _)).mono ?_;rintro e g ⟨rfl,rfl⟩)
 . have c:Xf m n=1:=by rw[<-d.o,BG si]
   have q:=(BM (w.alloc (H #[B b lb cb] 61)) 3 (G I 1)).cell;simp only[A1]at q;refine⟨G I 1,by simp[results,Tryz.results132,go_sem,q],by rw[c],?_⟩;exact(Ba w _).alloc Y _
 . have c:Xf m n=-1:=by rw[<-d.o,BE si]
   have q:=(BM (w.alloc (H #[B b lb cb] 61)) 3 (G I (-1))).cell;simp only[A1]at q;refine⟨G I (-1),by simp[results,Tryz.results132,go_sem,q],by rw[c],?_⟩;exact(Ba w _).alloc Y _
theorem VO(a:Option Addr)(len ca:Nat)(b:Option Addr)(cb:Nat)(xs d:List Nat)(w:C)(ha:Row F w (B a len ca) xs)(hb:Row F w (B b len cb) d)(xa:DS Z xs)(xb:DS Z d):
 Calls E 132 #[B a len ca,B b len cb] w λe X=>e=.returned (G I (Xf (val Z xs) (val Z d)))/\Bl w X:=by
 obtain⟨hl,ai,ak,ah,M⟩:=Jw ha;obtain⟨af,aj,am,an,ad⟩:=Jw hb;obtain⟨s,Q,HC,Qe⟩:=D0 hl af M ad;clear M ad hl af ha hb;refine(BJ (n:=3)).1 ?_;refine BU Tryz.func132 rfl trivial ?_ rfl;simp only[Tryz.ntmps132,Ao,An,AD,Nat.reduceAdd,Nat.reduceSub,AF,AG,AZ,AN,Ap,AA];gi_wp2_with(refine⟨trivial,?_⟩;gi_at_call 152;refine(Ko Fence.wide _ trivial rfl _ _ _ _).mono ?_;rintro e X ⟨rfl,rfl⟩)
 obtain⟨W0,A⟩:=ex (((w.alloc (H #[B b len cb] 61)).alloc (H #[G I 0] 3)).alloc (H #[B a len ca] 61));have b0:=((BM w 61 (B b len cb)).alloc (H #[G I 0] 3)).alloc (H #[B a len ca] 61);have R:=(BM (w.alloc (H #[B b len cb] 61)) 3 (G I 0)).alloc (H #[B a len ca] 61);have T:=BM ((w.alloc (H #[B b len cb] 61)).alloc (H #[G I 0] 3)) 61 (B a len ca);simp only[A1]at R T;have hN:W0.heap.size=w.heap.size+1+1+1:=by rw[<-A];simp
 have Qf:Bl w W0:=by rw[<-A];exact((Ba w _).alloc Y _).alloc si _
 rw[A]at b0 R T ⊢;clear A;refine Y6 rfl J (gf:=174) (lb:=#[.pointer (some ⟨w.heap.size+1+1,0,none⟩)]) rfl trivial (DF Tryz.func174 (by kernel_rfl) rfl)
  (Kn Fence.wide _ trivial rfl J (w.heap.size+1+1) a len ca (λj=>xs[j]?.getD 0) ah) (λ_=>rfl)
  (Pf w a len ca b len cb xs d) (Pg w xs d) (by rw[hN];exact VK w a len ca b len cb xs d) (λc=>by rw[hN];exact VL w xs d c)
  ⟨⟨⟨⟨b0,R⟩,T⟩,Qf⟩,by rw[Fd,AR (by rw[s.o];exact Aa _),AR (by rw[Q.o];exact Aa _)]⟩ ?rd
  (λk=>{ tmps:=#[B a len ca,B b len cb,L,.pointer (some ⟨w.heap.size,0,none⟩),.pointer (some ⟨w.heap.size+1,0,none⟩),G I ((len:Int)-1-k),G F (xs[len-1-k]?.getD 0:Nat),B a len ca,G I (len:Nat),B b len cb,G I (len:Nat),.bool false,L,L,L,L,L,L,B a len ca,.func (.func 174) #[] #[.pointer (some ⟨w.heap.size+1+1,0,none⟩)],G I ((len:Int)-1-k),G F (xs[len-1-k]?.getD 0:Nat),L,L,L,L,L,L,L,L,L,L,L,L,L],defers:=[] }) ?assign ?body ?done ?stop
 case rd=>
  rintro k W ⟨⟨⟨_,c2⟩,f⟩,_⟩;refine⟨c2.cell,λhk=>?_⟩;obtain⟨z,off,ea,U,M⟩:=HC.o (len-1-k) J;exact⟨z,off,ea,(f.cell (p:=⟨z,off+(len-1-k),none⟩) U).trans M⟩
 case assign=>
  intro l k W K g;unfold Hb;gi_wp2;exact g
 case body=>
  rintro l k W ⟨⟨⟨⟨c0,c1⟩,c2⟩,f⟩,i⟩ hk ap;have d0:=c0.cell;have d1:=c1.cell;have f1:=c1.frozen;obtain⟨z,off,rfl,U,ae⟩:=Qe.o (len-1-k) J;have dy:=(f.cell (p:=⟨z,off+(len-1-k),none⟩) U).trans ae;clear ae;have e1:((len:Int)-1-k)=((len-1-k:Nat):Int):=J
  rw[e1];have N:len-1-k<len:=J
  have es:len-1-k+1=len-k:=J
  have u:xs.drop (len-1-k+1)=d.drop (len-1-k+1):=by rw[es];exact i
  have t:xs.length=d.length:=s.o.symm.trans Q.o;have o:=O λ(h:xs[len-1-k]?.getD 0=d[len-1-k]?.getD 0)=>O6 t (len-1-k) (by rw[<-s.o];exact N) u h;have r:=O (show xs[len-1-k]?.getD 0≠d[len-1-k]?.getD 0->Xf (val Z xs) (val Z d)=Xf (xs[len-1-k]?.getD 0) (d[len-1-k]?.getD 0)from λh=>by
   rcases Nat.lt_or_gt_of_ne h with h|h
   . rw[XZ h,XZ (LQ xa t (len-1-k) (by rw[<-s.o];exact N) u h)]
   . rw[Ie h,Ie (LQ xb t.symm (len-1-k) (by rw[<-Q.o];exact N) u.symm h)])
  have HK:=O (show len-(k+1)=len-1-k by omega);clear e1 es u i t;generalize xs[len-1-k]?.getD 0=x at o r ⊢;generalize d[len-1-k]?.getD 0=y at o r dy;generalize len-1-k=m at o N HK dy ⊢;by_cases V:x=y
  . subst V;gi_wp2_with fail
    refine⟨KeepsFrom.refl _ _,⟨⟨⟨c0,c1⟩,c2⟩,f⟩,?_⟩;rw[HK.o];exact o.o Y
  . have aq:(((x:Nat):Int) != (y:Int))=true:=by rw[DG];omega
    have P:=O V;clear V;gi_wp2_with(refine⟨trivial,?_⟩;gi_at_call 131;refine(Be l ((BJ (n:=_)).2 (NR _ _))).mono ?_;rintro e X ⟨rfl,rfl⟩)
    . refine⟨(BL _ _ _).from _,⟨?_,f.setCell (p:=⟨w.heap.size+1,0,none⟩) Y _⟩,rfl⟩;rw[r.o P.o,Ie ‹y<x›];exact c1.set _
    . refine⟨(BL _ _ _).from _,⟨?_,f.setCell (p:=⟨w.heap.size+1,0,none⟩) Y _⟩,rfl⟩;rw[r.o P.o,XZ (by have:=P.o;omega)];exact c1.set _
 case done=>
  rintro D W hD ⟨⟨⟨⟨c0,c1⟩,c2⟩,f⟩,i⟩ g;have d1:=c1.cell;have f1:=c1.frozen;have HZ:=O i;clear i;gi_wp2;have v:(W.setCell ⟨w.heap.size+1,0,none⟩ (G I 0)).heap[D]?=some (.deferred (some [])):=(BL W ⟨w.heap.size+1,0,none⟩ (G I 0)).same D _ g rfl;refine⟨Y,.inl ⟨_,_,rfl,Bb v,?_⟩⟩;have S:=(c1.set (G I 0)).kept (BV _ D (.deferred none)) (λe=>by cases e;rw[show(W.setCell ⟨w.heap.size+1,0,none⟩ (G I 0)).heap[w.heap.size+1]?=_ from c1.set (G I 0)]at v;cases v);have q:=S.cell;have hv:Xf (val Z xs) (val Z d)=0:=by
   have:=HZ.o;rw[A3,AE,AE]at this;rw[this,Mw]
  refine⟨G I 0,by simp[results,Tryz.results132,go_sem,q],by rw[hv],?_⟩;exact(f.setCell (p:=⟨w.heap.size+1,0,none⟩) Y _).trans (DP (w:=w) (Aa _) _ D _ _ J v rfl rfl)
 case stop=>
  rintro D c k W hD hk ⟨⟨c1,f⟩,rfl⟩ g;have d1:=c1.cell;gi_wp2;refine⟨Y,.inl ⟨_,_,rfl,Bb g,?_⟩⟩;have S:=c1.kept (BV _ D (.deferred none)) (λe=>by cases e;rw[show W.heap[w.heap.size+1]?=_ from c1]at g;cases g);have q:=S.cell;refine⟨G I (Xf (val Z xs) (val Z d)),by simp[results,Tryz.results132,go_sem,q],rfl,?_⟩;exact f.trans (DP (w:=w) (Aa _) _ D _ _ J g rfl rfl)
theorem Nf(l m:Value)(xs d:List Nat)(w:C)(k:Row F w l xs)(j:Row F w m d)(f:DS Z xs)(g:DS Z d)(ta:Ev xs)(tb:Ev d):
 Calls E 132 #[l,m] w λe n=>e=.returned (G I (Xf (val Z xs) (val Z d)))/\Bl w n:=by
 obtain⟨a,ca,rfl,o⟩:=id k;obtain⟨b,cb,rfl,p⟩:=id j;have i:2<=Z:=by unfold Z;omega
 by_cases hl:xs.length=d.length
 . rw[<-hl]at j ⊢;exact VO a xs.length ca b cb xs d w k j f g
 . refine VN a _ ca b _ cb w _ _ hl ?_ ?_
   . constructor
     . exact λh=>YE i f g ta tb h
     . intro h;rcases Nat.lt_or_gt_of_ne hl with c|c
       . exact c
       . have:=YE i g f tb ta c;omega
   . rcases Nat.lt_or_gt_of_ne hl with c|c
     . have:=YE i f g ta tb c;omega
     . have:=YE i g f tb ta c;omega
end
variable{a:Act}{b:Array Oper}{Q:Exit->Act->C->Prop}{P:Program}{w:C}
theorem VQ(n c:Nat)(w:C):Calls E 147 #[B none n c] w λe d=>e=.returned (B none 0 0)/\d=w:=by
 have f:∀(w:C) (a:Option Addr) (n c b c':Nat),(binOp .eql 61 (B a n c) (B none b c')).run E w=.ok (.bool a.isNone) w:=λw a n c b c'=>Bn w _ _ a n c b c' Tryz.underlying61;go_enter Tryz.func147,Tryz.ntmps147
 go_wp2;go_ret;exact⟨rfl,rfl⟩
theorem Ng(p:Addr)(c:Nat)(xs:List Nat)(w:C)(hl:xs.length<=1099511627776)(i:∀j,j<xs.length->w.cell? (p.add j)=some (G F (xs[j]?.getD 0:Nat))):
 Calls E 147 #[B (some p) xs.length c] w λe l=>∃b,e=.returned b/\l.ownsRow w.heap.size 156 1 b xs.length (cellsOf F xs)/\Bl w l:=by
 obtain⟨z,o,t,v,y⟩:=Bo Tryz.infoU64;have K:∀(w:C) (a:Option Addr) (n c f c':Nat),(binOp .eql 61 (B a n c) (B none f c')).run E w=.ok (.bool a.isNone) w:=λw a n c f c'=>Bn w _ _ a n c f c' Tryz.underlying61;have A:=O i;clear i;go_enter Tryz.func147,Tryz.ntmps147
 go_wp2_with(at_builtin;refine BZ _ rfl _ _ 61 rfl w.heap.size 156 z (G F 0) 1 8 Tryz.underlying61 o t v y rfl DQ _ _ _ rfl (World.ownsRow_made w #[] 0 (Aa _) (AK _) rfl) p xs.length c (cellsOf F xs) rfl ?qc1 ?qc2 ?qc3 ?qc4 ?qc5 ?qc6 ?_)
 case qc1=>simp[cellsOf]
 case qc2=>
  intro j u d;have g:j<xs.length:=by
   have:=(Ad.1 d).1;simpa[cellsOf]using this
  refine Lib.cell?_alloc_some _ ?_;rw[A.o j g];simp only[cellsOf,CU,Ag g,Fi,Fo]at d ⊢;exact d
 case qc3=>intro u s;obtain⟨x,_,rfl⟩:=FA.1 s;rfl
 case qc4=>unfold maxLen;omega
 case qc5=>omega
 case qc6=>simp
 intro b M r m D;go_wp2;go_ret;refine⟨b,rfl,by simpa using r,?_⟩;exact(Ba w _).grown m Y (by intro k q;simp[Value.ownBlock]at q;omega)
theorem VR{d:Region.Mode}(I:Array Bool->Act->C->Prop)
(step:∀c a w i,c.size=b.size->I c a w->i∈Region.ready d b c->wpOp P b Q i (I (c.setIfInBounds i true)) a w)
(fin:∀c a w,c.size=b.size->I c a w->Region.ready d b c=[]->Q .normal a w):
 ∀(f:Nat) (c:Array Bool) (a:Act) (w:C),c.size=b.size->Iq c<=f->I c a w->wpAny P d b Q f c a w:=by
 intro f;have k:∀ {c:Array Bool} {i:Nat},i∈Region.ready d b c->i<b.size/\c.getD i true=false:=by
  intro c i e;simp only[Region.ready,FR,List.mem_range,AM,Ct]at e;exact⟨e.1,e.2.1⟩
 induction f with
 |zero=>
  intro c a w hs o g;have m:Region.ready d b c=[]:=by
   cases p:Region.ready d b c with
   |nil=>rfl
   |cons i l=>
    obtain⟨n,j⟩:=k (show i∈Region.ready d b c by rw[p];exact CL);have:=Lp (i:=i) J j;omega
  exact⟨m,fin _ _ _ hs g m⟩
 |succ f q=>
  intro c a w hs o g;refine⟨fin _ _ _ hs g,λi e=>?_⟩;obtain⟨n,j⟩:=k e;have:=Lp (i:=i) J j;exact wpOp_mono (λa' r h=>q _ a' r (by simp[hs]) J h) (step c a w i hs g e)
theorem wp_region_held{id:Nat}(d:P.follows .mixedOrders=true)(I:Array Bool->Act->C->Prop)
(start:I (Array.replicate b.size false) a w.drew)
(step:∀c a w i,c.size=b.size->I c a w->i∈Region.ready .any b c->wpOp P b Q i (I (c.setIfInBounds i true)) a w)
(fin:∀c a w,c.size=b.size->I c a w->Region.ready .any b c=[]->Q .normal a w):
 (Code.region id b true).wp P Q a w:=
 wp_region_any d (VR I step fin _ _ _ _ Y (by rw[Iq];exact Ar List.countP_le_length Y) start)
theorem Jn{id:Nat}(z:P.follows .mixedOrders=true)
(d:List (List Nat))(r:Region.tabAfter .any b=d)(u:Lq d=true)(I:(Nat->Bool)->Act->C->Prop)
(start:I (λ_=>false) a w.drew)
(step:∀(D:Nat->Bool) a w i ds,(∀i ds,d[i]?=some ds->D i=true->∀j∈ds,D j=true)->d[i]?=some ds->(∀j∈ds,D j=true)->D i=false->I D a w->wpOp P b Q i (I λj=>j==i || D j) a w)
(fin:∀(D:Nat->Bool) a w,(∀i,i<d.length->D i=true)->I D a w->Q .normal a w):
 (Code.region id b true).wp P Q a w:=by
 have v:d.length=b.size:=by rw[<-r];simp[Region.tabAfter]
 refine wp_region_held z (λc a w=>(∀i ds,d[i]?=some ds->c.getD i false=true->∀j∈ds,c.getD j false=true)/\I (λj=>c.getD j false) a w) ⟨λi ds _ h=>?_,?_⟩ ?_ ?_
 . simp only[Array.getD,CN]at h;split at h<;>simp at h
 . have e:(λj=>(Array.replicate b.size false).getD j false)=λ_=>false:=by
    funext j;simp only[Array.getD,CN];split<;>simp
   rw[e];exact start
 . rintro c a w i hs ⟨n,m⟩ o;obtain⟨s,ds,f,t⟩:=(mem_ready r).1 o;have l:i<c.size:=by
    rw[hs,<-v];rcases AO i d.length with h|h
    . exact h
    . rw[At h]at f;cases f
   have y:c.getD i false=false:=by
    simp only[Array.getD,l,dif_pos]at s ⊢;exact s
   have e:∀j,(c.setIfInBounds i true).getD j false=(j==i || c.getD j false):=by
    intro j;rw[Fk,Fk,Array.getElem?_setIfInBounds];by_cases q:i=j
    . subst q;simp[l]
    . simp[q,Ne.symm q]
   refine wpOp_mono (λa' N h=>⟨λK x p g j k=>?_,?_⟩) (step _ a w i ds n f t y m)
   . rw[e]at g ⊢;simp only[Fa,beq_iff_eq]at g ⊢;rcases g with rfl|g
     . rw[f]at p;cases p;exact Or.inr (t j k)
     . exact Or.inr (n K x p g j k)
   . rw[show(λj=>(c.setIfInBounds i true).getD j false)=λj=>(j==i || c.getD j false)from funext e];exact h
 . rintro c a w hs ⟨n,m⟩ A;refine fin _ a w (λi=>?_) m;induction i using Nat.strongRecOn with
   |_ i M=>
    intro o;cases g:c.getD i false with
    |true=>rfl
    |false=>
     exfalso
     have f:d[i]?=some d[i]:=Ag o
     have:i∈Region.ready .any b c:=(mem_ready r).2 ⟨by
      have l:i<c.size:=J
      simp only[Array.getD,l,dif_pos]at g ⊢;exact g,_,f,λj k=>M j (Lr u f k) (by have:=Lr u f k;omega)⟩
     rw[A]at this;cases this
theorem DR{T:List (List Nat)}{D:Nat->Bool}(c:∀i ds,T[i]?=some ds->D i=true->∀j∈ds,D j=true){a k:Nat}{ds:List Nat}(b:D k=false)(e:T[a]?=some ds:=by rfl)(d:k∈ds:=by simp):D a=false:=by
 cases h:D a with
 |false=>rfl
 |true=>rw[c a ds e h k d]at b;cases b
theorem Ph(a:Option Addr)(la ca:Nat)(b:List Nat)(w:C)(t:Row F w (B a la ca) b)(n:0<la):
 Calls E 147 #[B a la ca] w λe c=>∃g d,e=.returned (B (some ⟨g,0,none⟩) la d)/\DU c g b/\w.heap.size<=g/\(la<=d/\d<=9223372036854775807)/\Bl w c:=by
 obtain⟨hl,y,K,A,i⟩:=Jw t;obtain⟨l,m,rfl,_,_⟩:=i 0 n;have f:=Ng ⟨l,m,none⟩ ca b w J (λj z=>by
  obtain⟨u,M,e,D,s⟩:=i j J;cases e;rw[Y8];exact s)
 rw[<-hl]at f;refine f.mono ?_;rintro e c ⟨N,rfl,k,r⟩;rcases k.2 with⟨_,ev⟩|⟨g,cap,v,ev,o,x,p,q,_⟩
 . omega
 . subst ev;exact⟨_,cap,rfl,DU.owns k,o,⟨p,q⟩,r⟩
theorem Pi(a:Option Addr)(la ca:Nat)(f:List Nat)(w:C)(l:Row F w (B a la ca) f):
 Calls E 147 #[B a la ca] w λe b=>∃m c,e=.returned (B m la c)/\Row F b (B m la c) f/\Bl w b:=by
 obtain⟨hl,y,A,t,z⟩:=Jw l;rcases AY la with i|i
 . subst i;obtain rfl:f=[]:=Aq hl.symm;cases a with
   |none=>
    refine(VQ 0 ca w).mono ?_;rintro e b ⟨rfl,rfl⟩;exact⟨none,0,rfl,⟨none,0,rfl,Aa _,J,J,Or.inl rfl⟩,BB _ _⟩
   |some p=>
    refine(Ng p ca [] w Y λj s=>by simp at s).mono ?_;rintro e b ⟨D,rfl,u,d⟩;rcases u.2 with⟨ev,_⟩|⟨g,cap,v,ev,_,_,x,q,_⟩
    . subst ev;exact⟨none,0,rfl,⟨none,0,rfl,Aa _,J,J,Or.inl rfl⟩,d⟩
    . subst ev;exact⟨_,cap,rfl,⟨_,cap,rfl,AK _,q,Y,Or.inl rfl⟩,d⟩
 . refine(Ph a la ca f w l i).mono ?_;rintro e b ⟨g,c,rfl,r,_,⟨n,o⟩,d⟩;have k:=r.row 0 la c J n o t;rw[AE,Ac J]at k;exact⟨_,c,rfl,k,d⟩

