import Derived.Test.YteldjhhjnchdeaaGreatDoorT41
open Go.Value renaming slice->C,pointer->G,bool->I,int->J,agg->O
open Go renaming undef->F,World->M,Value->N
open Go.Obj renaming cells->H
open Go.IntKind renaming i64->L
set_option maxRecDepth 100000
set_option maxHeartbeats 16000000
namespace Go.Proofs.YteldjhhjnchdeaaGreatDoor.M3
open Go.RowKit Go.Shelf
attribute [local go_sem] Oper.semAt_some
def ZQ(V:M)(g r:Nat):Prop:=∀j,j<r->V.cell? ⟨g,j*4,none⟩=some (I false)/\V.cell? ⟨g,j*4+1,none⟩=some (C none 0 0)/\V.cell? ⟨g,j*4+2,none⟩=some (I false)/\V.cell? ⟨g,j*4+3,none⟩=some (C none 0 0)
variable{d:Bool}{n:Int}{bs:List (Option (Nat × Dat))}{B X f g gQ r:Nat}{t v:N}{V V' w:M}
theorem ZQ.of(h:ZQ V g r)(e:V'.heap[g]?=V.heap[g]?):ZQ V' g r:=λj c=>by
 obtain⟨f,b,d,i⟩:=h j c;exact⟨(BO (w:=V) (a:=⟨g,_,none⟩) e).trans f,(BO (w:=V) (a:=⟨g,_,none⟩) e).trans b,(BO (w:=V) (a:=⟨g,_,none⟩) e).trans d,(BO (w:=V) (a:=⟨g,_,none⟩) e).trans i⟩
def GQ(w V:M)(bs:List (Option (Nat × Dat)))(a:Nat)(n:Int)(gQ r:Nat):Prop:=Mem w V bs/\Boxed V a 3 (J L n)/\ZQ V gQ r/\gQ<V.heap.size
theorem GQ.below{w V V':M}{bs:List (Option (Nat × Dat))}{b:Nat}{n:Int}{gQ r:Nat}(h:GQ w V bs b n gQ r)(a:Bl V V'):GQ w V' bs b n gQ r:=
 ⟨h.1.below a,(a.block b h.2.1.lt).trans h.2.1,h.2.2.1.of (a.block gQ h.2.2.2),AC h.2.2.2 a.size⟩
theorem GQ.own{w V V':M}{bs:List (Option (Nat × Dat))}{b:Nat}{n:Int}{gQ r:Nat}{row:Option Nat}(h:GQ w V bs b n gQ r)(g:∃cs t m,V.heap[gQ]?=some (H cs t m))(a:V.grownBy V' row)(d:∀x,row=some x->w.heap.size<=x/\∃o:Obj,V.heap[x]?=some o/\o.isCells=false):GQ w V' bs b n gQ r:=by
 have f:∀r,row=some r->∃o:Obj,V.heap[r]?=some o/\o.isCells=false:=λr e=>(d r e).2;refine⟨h.1.own a d,Xo a f (show Bx V b 3 #[J L n]from h.2.1),h.2.2.1.of ?_,AC h.2.2.2 a.size⟩;obtain⟨cs,t,m,e⟩:=g;refine a.block gQ h.2.2.2 (λj=>?_);obtain⟨o,c,i⟩:=f gQ j.symm;rw[e]at c;cases c;cases i
theorem K9(V:M)(m:Nat):Has V (O (Ye m)) (.rats (List.replicate m 0)):=by
 refine⟨Ye m,rfl,λj a=>?_⟩;rw[Au]at a;obtain⟨d,b,c,e⟩:=MJ a;exact⟨_,_,_,_,d,b,c,e,by rw[JN];exact Ek _⟩
def GF(w:M)(d c:Option Addr)(la a lb e m gR rc b gQ f g:Nat)(R Q:List Rat):List (Option (Nat × Dat)):=
 [some (w.heap.size,.cell 25 (C d la a)),some (w.heap.size+1,.cell 25 (C c lb e)),some (w.heap.size+1+1,.cell 25 (C Option.none 0 0)),some (w.heap.size+1+1+1,.cell 25 (C Option.none 0 0)),
  some (gR,.rats R),some (b,.cell 23 (C (some ⟨gR,0,Option.none⟩) la rc)),some (gQ,.rats Q),some (f,.cell 23 (C (some ⟨gQ,0,Option.none⟩) m m)),some (g,.cell 23 (C (some ⟨gQ,0,Option.none⟩) m m))]
theorem dD(p:List Rat)(i:Nat)(c:Rat)(j:Nat):cf (p.set i c) j=c\/cf (p.set i c) j=cf p j:=by
 by_cases h:i<p.length
 . rw[Xy _ _ _ _ h];split
   . exact Or.inl rfl
   . exact Or.inr rfl
 . rw[CX om];exact Or.inr rfl
theorem GQ.upd{bs':List (Option (Nat × Dat))}(h:GQ w V bs f n gQ r)(g:Mem w V' bs')(a:∀B,B≠X->V'.heap[B]?=V.heap[B]?)(d:f≠X)(c:gQ≠X):GQ w V' bs' f n gQ r:=by
 have e:=a gQ c;refine⟨g,(a f d).trans h.2.1,h.2.2.1.of e,?_⟩;refine Nat.lt_of_not_le λhle=>?_;have b:=Array.getElem?_eq_none_iff.2 hle;rw[e]at b;exact absurd (Array.getElem?_eq_none_iff.1 b) (by have:=h.2.2.2;omega)
def GR(w W V:M)(bs:List (Option (Nat × Dat)))(a:Nat)(n:Int)(gQ r:Nat):Prop:=GQ w V bs a n gQ r/\KeepsOthers W V
theorem GR.below{w W V V':M}{bs:List (Option (Nat × Dat))}{a:Nat}{n:Int}{gQ r:Nat}(h:GR w W V bs a n gQ r)(b:Bl V V'):GR w W V' bs a n gQ r:=⟨h.1.below b,h.2.trans (Yo b)⟩
theorem OZ{cs:Array N}{m:Nat × Nat}(h:Boxed V f 3 v)(a:V.heap[X]?=some (H cs 65 m)):f≠X:=λe=>by
 subst e;have:=a.symm.trans h;simp only[Ag,Bu]at this;exact absurd this.2.1 DS
theorem dE(V:M)(C:Nat)(x y z u:N)(B:Nat)(h:B≠C):(put4 V C x y z u).heap[B]?=V.heap[B]?:=
 (BD _ ⟨C,3,none⟩ u B h).trans ((BD _ ⟨C,2,none⟩ z B h).trans ((BD _ ⟨C,1,none⟩ y B h).trans (BD V ⟨C,0,none⟩ x B h)))
def Gc(d:Bool)(w W V:M)(bs:List (Option (Nat × Dat)))(b:Nat)(n:Int)(gQ r:Nat)(t:N):Prop:=
 (d=false->GR w W V bs b n gQ r)/\(d=true->∃a,t=G (some ⟨a,0,none⟩)/\GR w W V (bs++[some (a,.rat 0)]) b n gQ r)
def Ma(w W V:M)(bs:List (Option (Nat × Dat)))(b:Nat)(n:Int)(gQ r:Nat)(t:N)(c:Rat):Prop:=∃a,t=G (some ⟨a,0,none⟩)/\GR w W V (bs++[some (a,.rat c)]) b n gQ r
theorem Ma.below{w W V V':M}{bs:List (Option (Nat × Dat))}{a:Nat}{n:Int}{gQ r:Nat}{t:N}{c:Rat}(h:Ma w W V bs a n gQ r t c)(d:Bl V V'):Ma w W V' bs a n gQ r t c:=by
 obtain⟨b,e,h⟩:=h;exact⟨b,e,h.below d⟩
theorem Gc.below{d:Bool}{w W V V':M}{bs:List (Option (Nat × Dat))}{a:Nat}{n:Int}{gQ r:Nat}{t:N}(h:Gc d w W V bs a n gQ r t)(b:Bl V V'):Gc d w W V' bs a n gQ r t:=
 ⟨λe=>(h.1 e).below b,λe=>by obtain⟨g,c,f⟩:=h.2 e;exact⟨g,c,f.below b⟩⟩
theorem Gc.base{W:M}(h:Gc d w W V bs f n gQ r t):GR w W V bs f n gQ r:=by
 cases d with
 |false=>exact h.1 rfl
 |true=>
  obtain⟨e,_,⟨a,c⟩,b⟩:=h.2 rfl;have:=a.take bs.length;rw[List.take_left' rfl]at this;exact⟨⟨this,c⟩,b⟩
theorem Gc.alloc{w W V:M}{bs:List (Option (Nat × Dat))}{c:Nat}{n:Int}{gQ r:Nat}{t:N}(h:Gc false w W V bs c n gQ r t):Gc true w W (V.alloc (H #[I false,C none 0 0,I false,C none 0 0] 65)) bs c n gQ r (G (some ⟨V.heap.size,0,none⟩)):=by
 have b:=h.1 rfl;have a:=b.below (Ba V (H #[I false,C none 0 0,I false,C none 0 0] 65));exact⟨(λe=>by cases e),λ_=>⟨_,rfl,⟨b.1.1.push (.rat 0) (Ek _),a.1.2⟩,a.2⟩⟩
def KR(_:M):Prop:=True
theorem KR.below(_:KR V)(_:Bl V V'):KR V':=trivial
def IK(d:Bool)(V:M)(t:N)(c:Rat):Prop:=∃u,t=.tuple #[u,I true]/\(d=false->Jj V u c)
theorem IK.below{d:Bool}{V V':M}{t:N}{c:Rat}(h:IK d V t c)(a:Bl V V'):IK d V' t c:=by
 obtain⟨u,e,h⟩:=h;exact⟨u,e,λe=>(h e).below a⟩
theorem IK.drop{c:Rat}(h:IK d V t c)(V':M):IK true V' t c:=by
 obtain⟨u,e,_⟩:=h;exact⟨u,e,λe=>by cases e⟩
theorem JV{o:Nat}{x:N}(h:o≠f):(V.setCell ⟨g,f,none⟩ x).cell? ⟨g,o,none⟩=V.cell? ⟨g,o,none⟩:=World.cell?_setCell_other _ _ _ _ (by intro e;cases e;exact h rfl)
theorem ZQ.put{i:Nat}(h:ZQ V g (i+1))(x y z u:N):ZQ (putAt V g (i*4) x y z u) g i:=λj e=>by
 obtain⟨c,a,b,d⟩:=h j om;unfold putAt;refine⟨?_,?_,?_,?_⟩
 . rw[JV om,JV om,JV om,JV om];exact c
 . rw[JV om,JV om,JV om,JV om];exact a
 . rw[JV om,JV om,JV om,JV om];exact b
 . rw[JV om,JV om,JV om,JV om];exact d
theorem _root_.Go.Proofs.YteldjhhjnchdeaaGreatDoor.Jg.setP{ps:List Rat}(h:Jg V v ps){a:Option Addr}{l c:Nat}(b:Boxed V B 25 (C a l c))(x:N):Jg (V.setCell ⟨B,0,none⟩ x) v ps:=by
 obtain⟨u,e,d⟩:=h;exact⟨u,e,FY b x d⟩
theorem boxed_below{t:TypeId}(h:Boxed V B t v)(a:Bl V V'):Boxed V' B t v:=(a.block B h.lt).trans h
def Hv(w V:M)(D b c:Nat)(rs a:N)(R Q:List Rat):Prop:=
 Boxed V (w.heap.size+1+1) 25 (C none 0 0)/\Boxed V (w.heap.size+1+1+1) 25 (C none 0 0)/\Boxed V b 23 rs/\Boxed V c 23 a/\RowK true V rs R/\RowK true V a Q/\Bl w V/\V.heap[D]?=some (.deferred (some []))
theorem Hv.below{w V V':M}{D c d:Nat}{rs b:N}{R Q:List Rat}(h:Hv w V D c d rs b R Q)(a:Bl V V'):Hv w V' D c d rs b R Q:=
 ⟨boxed_below h.1 a,boxed_below h.2.1 a,boxed_below h.2.2.1 a,boxed_below h.2.2.2.1 a,h.2.2.2.2.1.below a,h.2.2.2.2.2.1.below a,Bt h.2.2.2.2.2.2.1 a,(a.block D (Ab.1 h.2.2.2.2.2.2.2).1).trans h.2.2.2.2.2.2.2⟩
def Mb(d:Bool)(w V:M)(D:Nat)(t:N):Prop:=d=true->∃v,t=O #[v]/\Boxed V (w.heap.size+1+1) 25 v/\Boxed V (w.heap.size+1+1+1) 25 (C none 0 0)/\Bl w V/\V.heap[D]?=some (.deferred (some []))
def SH(w V:M)(D:Nat)(t b:N)(P c:List Rat):Prop:=∃v a,t=O #[v]/\b=O #[a]/\Boxed V (w.heap.size+1+1) 25 v/\Boxed V (w.heap.size+1+1+1) 25 a/\Jg V t P/\Jg V b c/\Bl w V/\V.heap[D]?=some (.deferred (some []))
def KS(V:M)(t:N)(c:Rat):Prop:=∃u,t=.tuple #[u,I true]/\Jj V u c
theorem KS.below{V V':M}{t:N}{c:Rat}(h:KS V t c)(a:Bl V V'):KS V' t c:=by
 obtain⟨u,e,h⟩:=h;exact⟨u,e,h.below a⟩
theorem dF(A:Nat)(Y qa:Option Addr)(la Z lb T n m:Nat)(ps qs:List Rat)(w:M)(ha:RowK true w (C Y la Z) ps)(hb:RowK true w (C qa lb T) qs)(hq:∀i,Df A (cf qs i))(dt:Jd qs=qs)(ed:qs≠[])(hL:∀k,k<=m->∃z,z+(2*A+1)<=1000000/\(k<m->2*z+2*(2*A+1)<=1000000)/\(∀i,Df z (cf (JD ps qs n m k).2 i))/\∀i,Df (z+A) (cf (JD ps qs n m k).1 i))(hn:lb=n+1)(hm:la=m+n)(ct:0<m):
 Calls Tryz.prog 22 #[O #[C Y la Z],O #[C qa lb T]] w λe w'=>∃u v,e=.returned (.tuple #[u,v,I true])/\Jg w' u (Y8 ps qs)/\Jg w' v (J3 ps qs)/\Bl w w':=by
 have Ui:Tryz.prog.follows .mixedOrders=true:=by kernel_rfl
 obtain⟨dz,ei,et,fi,s,t,aa,bb,ll,cc,kk,dd,fe⟩:=ha.forms;obtain⟨Ql,fd,ew,ft,s',t',bc,ay,az,ap,aq,aw,dh⟩:=hb.forms;have M0:Mem w _ _:=((((Mem.nil w).push (.cell 25 (C Y la Z)) (cs:=#[C Y la Z]) ⟨rfl,rfl⟩).push (.cell 25 (C qa lb T)) (cs:=#[C qa lb T]) ⟨rfl,rfl⟩).push (.cell 25 (C none 0 0)) (cs:=#[C none 0 0]) ⟨rfl,rfl⟩).push (.cell 25 (C none 0 0)) (cs:=#[C none 0 0]) ⟨rfl,rfl⟩;simp only[A1]at M0;obtain⟨V0,cg⟩:=ex ((((w.alloc (H #[C Y la Z] 25)).alloc (H #[C qa lb T] 25)).alloc (H #[C none 0 0] 25)).alloc (H #[C none 0 0] 25));have M1:Mem w V0 [some (w.heap.size,.cell 25 (C Y la Z)),some (w.heap.size+1,.cell 25 (C qa lb T)),some (w.heap.size+1+1,.cell 25 (C none 0 0)),some (w.heap.size+1+1+1,.cell 25 (C none 0 0))]:=by rw[<-cg];exact M0
 have Ug:=Ja M1;have Up:=Ja (show Calls Tryz.prog 20 #[O #[C qa lb T]] V0 λe w'=>e=.returned (J L (n:Int))/\Bl V0 w' by
  have h:=YA (O #[C qa lb T]) qs V0 ⟨_,rfl,hb.below M1.2.2⟩;rwa[show((qs.length:Int)-1)=(n:Int)by omega]at h)
 have Wa:=Ja (λ(V:M) (h:Bl w V)=>RM (C Y la Z) ps V (ha.below h));have fo:∀W:M,(Instr.makeSlice 23 (J L (m:Int)) (J L (m:Int))).run Tryz.prog W=.ok (C (some ⟨W.heap.size,0,none⟩) m m) (W.alloc (H (Ye m) 65)):=λW=>KA m om W;have fy:(la:Int)-(n:Int)=(m:Int):=om
 have fk:IntKind.i64.wrap (m:Int)=(m:Int):=by rw[BS];omega
 have fs:max (0:Int) (m:Int)=(m:Int):=om
 have fw:¬(n:Int)<0:=om
 obtain⟨HQ,Qg,Qi,HN,Qt,Ux,Uu,HL⟩:=Gy dh dz Ql (show lb=n+1/\la=m+n/\0<m from⟨hn,hm,ct⟩) hq dt ed hL;have Ut:=Ja cg;have Qn:m<=1099511627776:=om
 clear ha hb fe dh dz Ql ei et fd ew hq dt ed hL hn hm ct M0 M1 cg;have c1:=(Ug.o.cell (i:=1) rfl).1.cell;refine(BJ (n:=3)).1 ?_;refine BU Tryz.func22 rfl trivial ?_ rfl;simp only[Tryz.ntmps22,An,Am,AD,Nat.reduceAdd,Nat.reduceSub,AF,AG,AZ,AN,Ao,Az];gi_wp2_with fail
 rw[Ut.o];refine⟨trivial,?_⟩;refine((BJ (n:=_)).2 Up.o).mono ?_;rintro e w1 ⟨rfl,dj⟩;have Wg:Bl w1 (w1.alloc (H #[J L (n:Int)] 3)):=Ba w1 _;have Qs:=(Ug.o.below dj).below Wg;have h4:=BM w1 3 (J L (n:Int));have c0:=(Qs.cell (i:=0) rfl).1.cell;obtain⟨Qh,Qz,H4⟩:=Dm (Wa.o _ Qs.2.2) Qs h4;clear Wg Qs h4 dj Up c1 Ut Ug Wa;gi_wp2_with fail
 obtain⟨V1,cl⟩:=ex (w1.alloc (H #[J L (n:Int)] 3));obtain⟨B4,cj⟩:=ex (w1.heap.size);rw[cl]at Qh Qz H4 c0;rw[cj]at H4;rw[cl,cj];clear cl cj;refine⟨trivial,?_⟩;refine((BJ (n:=_)).2 Qh.o).mono ?_;rintro e S ⟨u2,rfl,bu,_,bk,de⟩;have fc:∃gR rc,u2=C (some ⟨gR,0,none⟩) la rc/\V1.heap.size<=gR/\Dz true S gR ps/\la<=rc/\rc<=9223372036854775807:=by
  obtain⟨_,ff,e7,h7,h8,_⟩:=id bu;rcases de with rfl|⟨g',cap,e1,e2,e3⟩
  . exfalso
    obtain⟨_,_,e,_⟩:=bu;injection e with _ e _
    have:=Qg.o;have:=HN.o;omega
  . rw[e1]at e7;have e8:cap=ff:=by injection e7
    exact⟨g',cap,by rw[e1,Qg.o],e2,e3,by rw[Qg.o,e8];exact h7,by rw[e8];exact h8⟩
 obtain⟨gR,rc,rfl,ef,dx,dw,di⟩:=fc;have Wc:=Ja (show la<=rc/\rc<=9223372036854775807 from⟨dw,di⟩);clear dw di;have We:=Qz.o.adopt bk ef dx;have h4:Boxed S B4 3 (J L (n:Int)):=(bk.block B4 H4.o.lt).trans H4.o;have Um:Bl S (S.alloc (H #[C (some ⟨gR,0,none⟩) la rc] 23)):=Ba S _;have Uk:=We.push (.cell 23 (C (some ⟨gR,0,none⟩) la rc)) (cs:=#[C (some ⟨gR,0,none⟩) la rc]) ⟨rfl,rfl⟩;have h5:Boxed (S.alloc (H #[C (some ⟨gR,0,none⟩) la rc] 23)) B4 3 (J L (n:Int)):=(Um.block B4 h4.lt).trans h4;have c4:=h5.cell;have Uw:=Ja Uk;have H5:=Ja h5;clear de bu bk ef dx We h4 Um Uk h5 Qz H4 Qh c0;gi_wp2_with fail
 refine⟨trivial,?_⟩;refine(ME Fence.wide _ trivial rfl _ _ _ _).mono ?_;rintro e w3 ⟨rfl,rfl⟩;have Qw:Mem w ((((S.alloc (H #[C (some ⟨gR,0,none⟩) la rc] 23)).alloc (H (Ye m) 65)).alloc (H #[C (some ⟨S.heap.size+1,0,none⟩) m m] 23)).alloc (H #[C (some ⟨S.heap.size+1,0,none⟩) m m] 23)) (GF w Y qa la Z lb T m gR rc S.heap.size (S.heap.size+1) (S.heap.size+1+1) (S.heap.size+1+1+1) ps (List.replicate m 0)):=by
  have h:=((Uw.o.push (.rats (List.replicate m 0)) (K9 _ m)).push (.cell 23 (C (some ⟨S.heap.size+1,0,none⟩) m m)) (cs:=#[C (some ⟨S.heap.size+1,0,none⟩) m m]) ⟨rfl,rfl⟩).push (.cell 23 (C (some ⟨S.heap.size+1,0,none⟩) m m)) (cs:=#[C (some ⟨S.heap.size+1,0,none⟩) m m]) ⟨rfl,rfl⟩;simp only[A1]at h;exact h
 have Un:Below (S.alloc (H #[C (some ⟨gR,0,none⟩) la rc] 23)).heap.size (S.alloc (H #[C (some ⟨gR,0,none⟩) la rc] 23)) ((((S.alloc (H #[C (some ⟨gR,0,none⟩) la rc] 23)).alloc (H (Ye m) 65)).alloc (H #[C (some ⟨S.heap.size+1,0,none⟩) m m] 23)).alloc (H #[C (some ⟨S.heap.size+1,0,none⟩) m m] 23)):=
  ((Ba _ _).alloc (by simp only[A1];omega) _).alloc (by simp only[A1];omega) _
 have h6:Boxed _ B4 3 (J L (n:Int)):=(Un.block B4 H5.o.lt).trans H5.o;have hz:((((S.alloc (H #[C (some ⟨gR,0,none⟩) la rc] 23)).alloc (H (Ye m) 65)).alloc (H #[C (some ⟨S.heap.size+1,0,none⟩) m m] 23)).alloc (H #[C (some ⟨S.heap.size+1,0,none⟩) m m] 23)).heap[S.heap.size+1]?=some (H (Ye m) 65 (0,0)):=by
  have e:=BE (S.alloc (H #[C (some ⟨gR,0,none⟩) la rc] 23)) (H (Ye m) 65);rw[A1]at e;exact(Bh _ _ _ (by simp only[A1];omega)).trans ((Bh _ _ _ (by simp only[A1];omega)).trans e)
 have Qj:((((S.alloc (H #[C (some ⟨gR,0,none⟩) la rc] 23)).alloc (H (Ye m) 65)).alloc (H #[C (some ⟨S.heap.size+1,0,none⟩) m m] 23)).alloc (H #[C (some ⟨S.heap.size+1,0,none⟩) m m] 23)).heap.size=S.heap.size+1+1+1+1:=by simp only[A1]
 obtain⟨W3,ck⟩:=ex ((((S.alloc (H #[C (some ⟨gR,0,none⟩) la rc] 23)).alloc (H (Ye m) 65)).alloc (H #[C (some ⟨S.heap.size+1,0,none⟩) m m] 23)).alloc (H #[C (some ⟨S.heap.size+1,0,none⟩) m m] 23));rw[ck]at Qw h6 hz Qj;rw[ck];simp only[A1];obtain⟨d,ci⟩:=ex (S.heap.size);rw[ci]at Qw hz Qj;rw[ci];have Qu:=Ja (show GQ w W3 (GF w Y qa la Z lb T m gR rc d (d+1) (d+1+1) (d+1+1+1) ps (List.replicate m 0)) B4 (n:Int) (d+1) m from
  ⟨Qw,h6,λj hj=>by
   obtain⟨h0,h1,y,h3⟩:=MJ hj;exact⟨cell_of hz h0,cell_of hz h1,cell_of hz y,cell_of hz h3⟩,by rw[Qj];omega⟩)
 clear Qw Un h6 hz Qj ck ci Uw H5 c4;gi_wp2_with fail
 have Us:=Ja (show w.heap.size<=W3.heap.size from Qu.o.1.2.2.size);refine YZ rfl om (gf:=67) (lb:=#[G (some ⟨d+1+1+1,0,none⟩)]) rfl trivial (DF Tryz.func67 (by kernel_rfl) rfl)
  (MD Fence.wide _ trivial rfl om (d+1+1+1) (some ⟨d+1,0,none⟩) m m (λ_=>I false) (λ_=>C none 0 0) (λ_=>I false) (λ_=>C none 0 0) Qn) (λ_=>rfl)
  (λk W=>GQ w W (GF w Y qa la Z lb T m gR rc d (d+1) (d+1+1) (d+1+1+1) (JD ps qs n m k).2 (JD ps qs n m k).1) B4 (n:Int) (d+1) (m-k)) (λ_ _ _=>False)
  (λk W W' row h hg hr=>h.own (by obtain⟨cs,h1,_⟩:=h.1.rats (i:=6) rfl;exact⟨cs,_,_,h1⟩) hg (λr e=>⟨As Us.o (hr r e).1,(hr r e).2⟩))
  (λc s W W' row h=>h.elim) Qu.o ?rd
  (λk=>{ tmps:=#[O #[C Y la Z],O #[C qa lb T],G (some ⟨w.heap.size,0,none⟩),G (some ⟨w.heap.size+1,0,none⟩),G (some ⟨w.heap.size+1+1,0,none⟩),G (some ⟨w.heap.size+1+1+1,0,none⟩),I false,G (some ⟨B4,0,none⟩),G (some ⟨d,0,none⟩),G (some ⟨d+1+1,0,none⟩),J L ((m:Int)-1-k),F,F,F,F,O #[C qa lb T],J L ↑n,J L ↑n,I (decide ((n:Int)<0)),F,F,G (some ⟨w.heap.size,0,none⟩),C Y la Z,C (some ⟨gR,0,none⟩) la rc,C (some ⟨gR,0,none⟩) la rc,J L ↑la,J L ↑n,J L ↑m,J L ↑m,C (some ⟨d+1,0,none⟩) m m,C (some ⟨d+1,0,none⟩) m m,.func (.func 67) #[] #[G (some ⟨d+1+1+1,0,none⟩)],J L ((m:Int)-1-k),O #[I false,C none 0 0,I false,C none 0 0],F,F,F,F,F,F,F,F,F,F,F,F,F,F,F,F,F,F,F,F,F,F,F,F,F,F,F,F,F,F,F,F,F,F,F,F,F,F,F,F,F,F,F,F,F,F,F],defers:=[] }) ?assign ?body ?done ?stop
 case stop=>intro D c k W _ _ h;exact h.elim
 case rd=>
  intro k W h;refine⟨(h.1.cell (i:=8) rfl).1.cell,λhk=>?_⟩;obtain⟨h0,h1,y,h3⟩:=h.2.2.1 (m-1-k) om;exact⟨d+1,rfl,h0,h1,y,h3⟩
 case assign=>
  intro l k W K hK;unfold Jx;gi_wp2;exact hK
 case body=>
  intro l k W hS hk Qj;obtain⟨fg,bq,rfl,eh,q0,q1,q2,q3⟩:=HQ.o n (by have:=HN.o;omega);have Uv:=Ja (show ∀j,j<lb->∀V,Bl w V->(V.cell? ⟨bq,j*4,none⟩=some (I (s' j))/\V.cell? ⟨bq,j*4+1,none⟩=some (C (bc j) (az j) (ap j))/\V.cell? ⟨bq,j*4+2,none⟩=some (I (t' j))/\V.cell? ⟨bq,j*4+3,none⟩=some (C (ay j) (aq j) (aw j)))/\Jj V (O #[I (s' j),C (bc j) (az j) (ap j),I (t' j),C (ay j) (aq j) (aw j)]) (cf qs j)from λj hj V hB=>by
   obtain⟨hi,b,e,hb,c0,c1,c2,c3⟩:=HQ.o j hj;cases e;exact⟨⟨(hB.cell (p:=⟨bq,_,none⟩) hb).trans c0,(hB.cell (p:=⟨bq,_,none⟩) hb).trans c1,(hB.cell (p:=⟨bq,_,none⟩) hb).trans c2,(hB.cell (p:=⟨bq,_,none⟩) hb).trans c3⟩,hi.below hB⟩)
  clear fg eh q0 q1 q2 q3;have Qc:cf qs n≠0:=by
   have:=JF Ux.o Uu.o;rwa[show qs.length-1=n by have:=HN.o;have:=Qi.o;omega]at this
  obtain⟨z,f8,bt,ai,bm⟩:=HL.o k om;have Uh:z+(2*A+1)+(z+(2*A+1))<=1000000:=by have:=bt om;omega
  clear f8;obtain⟨i,hi⟩:=ex (m-(k+1):Nat);obtain⟨R,hR⟩:=ex ((JD ps qs n m k).2);obtain⟨Q,hQ⟩:=ex ((JD ps qs n m k).1);have Wi:R.length=la:=by rw[<-hR,(Xd ps qs n m k).2];exact Qg.o.symm
  have Wt:Q.length=m:=by rw[<-hQ];exact(Xd ps qs n m k).1
  rw[hR,hQ]at hS;rw[hR]at ai;obtain⟨t0,du⟩:=ex (i+n:Nat);obtain⟨c,hc⟩:=ex (cf R t0/cf qs n);have Uq:JD ps qs n m (k+1)=(Q.set i c,YB R i (-c) qs qs.length):=by rw[JD];simp only[hR,hQ,hi,du,hc]
  have Qe:Df (z+A) c:=by rw[<-hc];exact(ai t0).div2 (Qt.o n) Qc
  obtain⟨Wr,Qm,Uf⟩:=Dm (show Sq c from Sq.of Qe om) (show ∀j,Sq (cf qs j)from λj=>Sq.of (Qt.o j) om) (show ∀j,Sq (c*cf qs j)from λj=>Sq.of (Qe.mul2 (Qt.o j)) om);have Wp:=Ja (show ∀j t,Sq (cf (YB R i (-c) qs j) t)from λj t=>by
   rcases Xk R i (-c) qs j t with e|e
   . rw[e];exact Sq.of (ai t) om
   . rw[e];exact Sq.of ((ai t).add2 (Qe.neg.mul2 (Qt.o _))) om)
  obtain⟨Ua,Wq,Wm,Ud,Qf⟩:=Gi (show Sq (cf R t0)from Sq.of (ai t0) om) hc Qc Uq (show R.length=la/\Q.length=m/\t0<la/\i<m/\m-k=i+1/\m-(k+1)=i by have:=HN.o;omega);have Uy:(m:Int)-1-(k:Int)=(i:Int):=om
  have fu:(i:Int)+(n:Int)=(t0:Int):=om
  have fx:IntKind.i64.wrap (t0:Int)=(t0:Int):=by rw[BS];have:=HN.o;omega
  have fm:(t0:Int)<(la:Int):=by have:=Qf.o;omega
  have gb:(n:Int)<(lb:Int):=by have:=HN.o;omega
  have fv:(i:Int)<(m:Int):=by have:=Qf.o;omega
  rw[Uy];have Qp:Gc false w W W.drew (GF w Y (some ⟨bq,0,none⟩) la Z lb T m gR rc d (d+1) (d+1+1) (d+1+1+1) R Q) B4 (n:Int) (d+1) (m-k) F:=⟨λ_=>⟨hS.below ((BB _ W).drew),Yo ((BB _ W).drew)⟩,λe=>by cases e⟩;clear hS hi hR hQ Wi Wt du hc Qe bt ai bm Uh Qc Uq Uy Qj Qu;gi_wp2_with fail
  refine Yd Ui [[],[],[],[1,2],[0,3],[4],[],[6],[],[7,8],[9],[5,10],[11],[12],[12],[],[15,13,11,0,1,2,3,4,5,6,7,8,9,10,11,12,13,15],[14,16,0,1,2,3,4,5,6,7,8,9,10,11,12,13,14,15,16]] (by kernel_rfl) DS
   (λD af V=>∃(td te tf tg ti tj tk tl tm tn tp tq tc tr ts ta tb:N),af={ tmps:=#[O #[C Y la Z],O #[C (some ⟨bq,0,none⟩) lb T],G (some ⟨w.heap.size,0,none⟩),G (some ⟨w.heap.size+1,0,none⟩),G (some ⟨w.heap.size+1+1,0,none⟩),G (some ⟨w.heap.size+1+1+1,0,none⟩),I false,G (some ⟨B4,0,none⟩),G (some ⟨d,0,none⟩),G (some ⟨d+1+1,0,none⟩),J L ↑i,ta,tb,F,F,O #[C (some ⟨bq,0,none⟩) lb T],J L ↑n,J L ↑n,I (decide (↑n<0)),F,F,G (some ⟨w.heap.size,0,none⟩),C Y la Z,C (some ⟨gR,0,none⟩) la rc,C (some ⟨gR,0,none⟩) la rc,J L ↑la,J L ↑n,J L ↑m,J L ↑m,C (some ⟨d+1,0,none⟩) m m,C (some ⟨d+1,0,none⟩) m m,.func (.func 67) #[] #[G (some ⟨d+1+1+1,0,none⟩)],J L ↑i,O #[I false,C none 0 0,I false,C none 0 0],tc,td,te,tf,tg,ti,tj,tk,tl,tm,tn,tp,tq,tr,ts,F,F,F,F,F,F,F,F,F,F,F,F,F,F,F,F,F,F,F,F,F,F,F,F,F,F,F,F,F,F,F,F],defers:=[] }/\Hid ((D 0=true->td=C (some ⟨gR,0,none⟩) la rc)/\(D 1=true->te=J L (i:Int))/\(D 2=true->tf=J L (n:Int))/\(D 3=true->tg=J L (t0:Int))/\(D 4=true->ti=G (some ⟨gR,t0*4,none⟩))/\(D 5=true->D 16=false->Jj V tj (cf R t0))/\(D 6=true->tk=G (some ⟨w.heap.size+1,0,none⟩))/\(D 7=true->tl=C (some ⟨bq,0,none⟩) lb T)/\(D 8=true->tm=J L (n:Int))/\(D 9=true->tn=G (some ⟨bq,n*4,none⟩))/\(D 10=true->D 16=false->Jj V tp (cf qs n))/\(D 11=true->D 16=false->KS V tq c)/\(D 12=true->IK (D 16) V tc c)/\(D 13=true->D 16=false->Jj V tr c)/\(D 14=true->ts=I true)/\(D 15=true->KR V)/\(D 17=true->tb=I true))/\Hid ((D 16=false->Gc (D 15) w W V (GF w Y (some ⟨bq,0,none⟩) la Z lb T m gR rc d (d+1) (d+1+1) (d+1+1+1) R Q) B4 (n:Int) (d+1) (m-k) ta)/\(D 16=true->Ma w W V (GF w Y (some ⟨bq,0,none⟩) la Z lb T m gR rc d (d+1) (d+1+1) (d+1+1+1) R Q) B4 (n:Int) (d+1) (m-k) ta c)))
   (Ea ⟨_,rfl,Ja DQ,Ja ⟨λ_=>Qp,DQ⟩⟩) ?step1 ?fin1
  case step1=>
   rintro D af V i ds ad hi g P ⟨td,te,tf,tg,ti,tj,tk,tl,tm,tn,tp,tq,tc,tr,ts,ta,tb,rfl,f,q⟩;have Ul:i<18:=(Ac.1 hi).1;obtain rfl|rfl|rfl|rfl|rfl|rfl|rfl|rfl|rfl|rfl|rfl|rfl|rfl|rfl|rfl|rfl|rfl|rfl:=Kb i om
   all_goals
    simp only[Af,Ae,Ag]at hi;subst hi
   . have x:=q.o.1 (DU ad P);have hB:=x.base;have e5:=(hB.1.1.cell (i:=5) rfl).1.cell;clear g;refine Do ?_;exact⟨(Dh f),q⟩
   . clear g;refine Do ?_;exact⟨(Dp f),q⟩
   . have x:=q.o.1 (DU ad P);have hB:=x.base;have e4:=hB.1.2.1.cell;clear g;refine Do ?_;exact⟨(Dg f),q⟩
   . obtain rfl:=f.o.2.1 (g 1 DQ);obtain rfl:=f.o.2.2.1 (g 2 DQ);clear g;refine Do ?_;exact⟨(Di (Dg (Dp f))),q⟩
   . obtain rfl:=f.o.1 (g 0 DQ);obtain rfl:=f.o.2.2.2.1 (g 3 DQ);clear g;refine Do ?_;exact⟨(Dx (Di (Dh f))),q⟩
   . have x:=q.o.1 (DU ad P);obtain rfl:=f.o.2.2.2.2.1 (g 4 DQ);have hB:=x.base;obtain⟨xa,xb,xc,xd,e0,e1,e2,e3,hr⟩:=(hB.1.1.rats (i:=4) rfl).at (j:=t0) (by have:=Qf.o;omega);clear g;refine Do ?_;exact⟨(D0 (Dx f) λ_ _=>hr),q⟩
   . clear g;refine Do ?_;exact⟨(Dw f),q⟩
   . have x:=q.o.1 (DU ad P);obtain rfl:=Dy f (g 6 DQ);have hB:=x.base;have e1:=(hB.1.1.cell (i:=1) rfl).1.cell;clear g;refine Do ?_;exact⟨(EB (Dw f)),q⟩
   . have x:=q.o.1 (DU ad P);have hB:=x.base;have e4:=hB.1.2.1.cell;clear g;refine Do ?_;exact⟨(EI f),q⟩
   . obtain rfl:=D9 f (g 7 DQ);obtain rfl:=EF f (g 8 DQ);clear g;refine Do ?_;exact⟨(Es (EI (EB f))),q⟩
   . have x:=q.o.1 (DU ad P);obtain rfl:=EU f (g 9 DQ);have hB:=x.base;obtain⟨⟨e0,e1,e2,e3⟩,hr⟩:=Uv.o n om V hB.1.1.2.2;clear g;refine Do ?_;exact⟨(D6 (Es f) λ_ _=>hr),q⟩
   . have Qa:D 16=false:=DU ad P;have h0:=Ds f (g 5 DQ) Qa;have h1:=EJ f (g 10 DQ) Qa;clear g;have HC:=Ja (λ(n9:Nat)=>Be l ((BJ (n:=n9)).2 (Q9 _ _ (cf R t0) (cf qs n) V h0 h1 Ua.o (Qm.o n))));clear h0 h1;refine BQ rfl λK hK=>?_;go_simp;gi_wp2_with(refine⟨trivial,?_⟩;gi_at_call 50;refine(HC.o _).mono ?_;rintro e w5 ⟨v5,rfl,aj,U⟩)
     obtain⟨G0,G1,G2,G3,G4,G5,G6,G7,G8,G9,am,_,an,bh,ak,f6,bj⟩:=f.o;exact Ea ⟨_,rfl,Ja ⟨G0,G1,G2,G3,G4,λh y=>(G5 h y).below U,G6,G7,G8,G9,λh y=>(am h y).below U,λ_ _=>⟨v5,by simp[Wm.o],by rw[<-Wq.o];exact aj⟩,λh=>(an h).below U,λh y=>(bh h y).below U,ak,λh=>(f6 h).below U,bj⟩,Ja ⟨λh=>(q.o.1 h).below U,λh=>(q.o.2 h).below U⟩⟩
   . have Qa:D 16=false:=DU ad P;have h0:=Ee f (g 11 DQ) Qa;clear g;refine Do ?_;exact⟨(EE f λ_=>(show IK (D 16) V _ c from by obtain⟨u,e,h⟩:=h0;exact⟨u,e,λ_=>h⟩)),q⟩
   . have Qa:D 16=false:=DU ad P;have h0:=Ej f (g 12 DQ);obtain⟨u0,rfl,g0⟩:=h0;clear g;refine Do ?_;exact⟨(EO f λ_ _=>g0 Qa),q⟩
   . have h0:=Ej f (g 12 DQ);obtain⟨u0,rfl,g0⟩:=h0;clear g;refine Do ?_;exact⟨(Ei f),q⟩
   . have Qa:D 16=false:=DU ad P;have x:=q.o.1 Qa;clear g;refine Do ?_;obtain⟨G0,G1,G2,G3,G4,G5,G6,G7,G8,G9,am,bg,an,bh,ak,_,bj⟩:=f.o;exact⟨Ja ⟨G0,G1,G2,G3,G4,λh y=>(G5 h y).below (Ba V _),G6,G7,G8,G9,λh y=>(am h y).below (Ba V _),λh y=>(bg h y).below (Ba V _),λh=>(an h).below (Ba V _),λh y=>(bh h y).below (Ba V _),ak,λ_=>trivial,bj⟩,Ja ⟨λ_=>(show Gc true w W _ (GF w Y (some ⟨bq,0,none⟩) la Z lb T m gR rc d (d+1) (d+1+1) (d+1+1+1) R Q) B4 (n:Int) (d+1) (m-k) _ from Gc.alloc (by rw[P]at x;exact x)),λh=>by simp[Qa]at h⟩⟩
   . have x:=q.o.1 P;have h0:=GK f (g 13 DQ) P;obtain⟨Bc,rfl,hM⟩:=x.2 (g 15 DQ);obtain⟨s9,a9,l9,c9,t9,b9,k9,d9,rfl⟩:=Jj.form h0;obtain⟨s8,a8,l8,c8,t8,b8,k8,d8,n8,r8,i8,j8⟩:=hM.1.1.rat (i:=9) rfl;obtain⟨e0,e1,e2,e3⟩:=n8.cq;obtain⟨f0,f1,f2,f3⟩:=n8.fq;clear g;refine Do ?_;obtain⟨G0,G1,G2,G3,G4,_,G6,G7,G8,G9,_,_,an,_,ak,_,bj⟩:=f.o;exact⟨Ja ⟨G0,G1,G2,G3,G4,λ_ h=>by simp at h,G6,G7,G8,G9,λ_ h=>by simp at h,λ_ h=>by simp at h,λh=>(an h).drop _,λ_ h=>by simp at h,ak,λ_=>trivial,bj⟩,Ja ⟨λh=>by simp at h,λ_=>⟨Bc,rfl,hM.1.upd (hM.1.1.putRat (i:=9) rfl h0) (dE _ _ _ _ _ _) (OZ hM.1.2.1 n8) (hM.1.1.ne 6 9 rfl rfl DS),hM.2.trans (Zz _ _ _ _ _ _)⟩⟩⟩
   . obtain rfl:=Gj f (g 14 DQ);clear g;refine Do ?_;exact⟨(Ho (Ei f)),q⟩
  case fin1=>
   rintro D af V ah ⟨td,te,tf,tg,ti,tj,tk,tl,tm,tn,tp,tq,tc,tr,ts,ta,tb,rfl,f,q⟩;obtain⟨Bc,rfl,hM⟩:=q.o.2 (ah 16 DS);obtain rfl:=f.o.2.2.2.2.2.2.2.2.2.2.2.2.2.2.2.2 (ah 17 DS);have HM:=Ja hM;clear f q ah hM;obtain⟨s8,a8,l8,c8,t8,b8,k8,d8,n8,r8,i8,j8⟩:=HM.o.1.1.rat (i:=9) rfl;obtain⟨e0,e1,e2,e3⟩:=n8.cq;have e6:=(HM.o.1.1.cell (i:=7) rfl).1.cell;have hE:=HM.o.1.1.rats (i:=6) rfl;obtain⟨z0,z1,z2,z3⟩:=HM.o.1.2.2.1 i (by have:=Qf.o;omega);have f0:=hE.frozen (i*4);have f1:=hE.frozen (i*4+1);have f2:=hE.frozen (i*4+2);have f3:=hE.frozen (i*4+3);have Qv:=Ja (show GR w W (putAt V (d+1) (i*4) (I s8) (C a8 l8 c8) (I t8) (C b8 k8 d8)) (GF w Y (some ⟨bq,0,none⟩) la Z lb T m gR rc d (d+1) (d+1+1) (d+1+1+1) R (Q.set i c)++[some (Bc,.rat c)]) B4 (n:Int) (d+1) i from by
    have hp:=HM.o.1.1.putRats (i:=6) rfl (j:=i) (by have:=Qf.o;omega) r8;obtain⟨cs,Qe,_⟩:=hE;refine⟨⟨hp,(Kw (OZ HM.o.1.2.1 Qe) _ _ _ _).trans HM.o.1.2.1,ZQ.put (by have h:=HM.o.1.2.2.1;rwa[Qf.o.2.2.2.2.1]at h) _ _ _ _,?_⟩,HM.o.2.trans (RL _ _ _ _ _ _ _)⟩;exact(Ab.1 (QP Qe _ _ _ _)).1)
   have c9:=(Qv.o.1.1.cell (i:=1) rfl).1.cell;unfold putAt at c9;clear n8 i8 j8 hE r8 HM;gi_wp2_with fail
   obtain⟨W9,bn⟩:=ex (putAt V (d+1) (i*4) (I s8) (C a8 l8 c8) (I t8) (C b8 k8 d8));rw[bn]at Qv;unfold putAt at bn;rw[bn];clear bn c9 e0 e1 e2 e3 e6 z0 z1 z2 z3 f0 f1 f2 f3;gi_loopw [56] (λjv wr=>∃j:Nat,j<=lb/\jv=J L (j:Int)/\Hid (GR w W wr (GF w Y (some ⟨bq,0,none⟩) la Z lb T m gR rc d (d+1) (d+1+1) (d+1+1+1) (YB R i (-c) qs j) (Q.set i c)++[some (Bc,.rat c)]) B4 (n:Int) (d+1) i)) (λjv _=>lb-(intOf jv).toNat)
   case atStart=>exact⟨0,AK _,rfl,Qv⟩
   case round=>
    obtain⟨j,hj,rfl,HJ⟩:=hrel;clear Qv;by_cases fa:j<lb
    . have ga:(j:Int)<(lb:Int):=om
      obtain⟨⟨e0,e1,e2,e3⟩,dp⟩:=Uv.o j fa wr HJ.o.1.1.2.2;have Wb:=Ja dp;obtain⟨t1,fb⟩:=ex (i+j:Nat);have fl:(i:Int)+(j:Int)=(t1:Int):=om
      have Qq:=Ja (show t1<la/\t1=i+j by have:=Qf.o;have:=HN.o;omega);have fj:IntKind.i64.wrap (t1:Int)=(t1:Int):=by rw[BS];have:=Qq.o;omega
      have fr:(t1:Int)<(la:Int):=by have:=Qq.o;omega
      clear dp fb;gi_wp2_with fail
      have Qx:GR w W (wr.alloc (H #[I (s' j),C (bc j) (az j) (ap j),I (t' j),C (ay j) (aq j) (aw j)] 65)) (GF w Y (some ⟨bq,0,none⟩) la Z lb T m gR rc d (d+1) (d+1+1) (d+1+1+1) (YB R i (-c) qs j) (Q.set i c)++[some (Bc,.rat c)]++[some (wr.heap.size,.rat (cf qs j))]) B4 (n:Int) (d+1) i:=by
       have h1:=HJ.o.below (Ba wr (H #[I (s' j),C (bc j) (az j) (ap j),I (t' j),C (ay j) (aq j) (aw j)] 65));exact⟨⟨HJ.o.1.1.push (.rat (cf qs j)) Wb.o,h1.1.2⟩,h1.2⟩
      obtain⟨Wd,co⟩:=ex (wr.alloc (H #[I (s' j),C (bc j) (az j) (ap j),I (t' j),C (ay j) (aq j) (aw j)] 65));obtain⟨Bd,cn⟩:=ex (wr.heap.size);rw[co,cn]at Qx;rw[co,cn];obtain⟨X,hX⟩:=ex (YB R i (-c) qs j);rw[hX]at Qx;have Ue:=Ja (show t1<X.length by rw[<-hX,Yr];have:=Qf.o;have:=Qq.o;omega);have Wl:=Ja (show Sq (cf X t1)by rw[<-hX];exact Wp.o j t1);have Wo:=Ja (show X.set t1 (cf X t1-c*cf qs j)=YB R i (-c) qs (j+1)by
       rw[YB,hX,<-Qq.o.2,show cf X t1-c*cf qs j=cf X t1+-c*cf qs j by grind])
      have Qp:=Qx.below ((BB _ Wd).drew);clear co cn hX Qx e0 e1 e2 e3 Wb HJ;refine Yd Ui [[],[],[],[1,2],[],[],[],[5,6],[4,7],[8],[],[],[10,11],[9,12,12],[0,3,0,1,2,3,4,5,6,7,8,9,10,11,12,13],[14,13,13,0,1,2,3,4,5,6,7,8,9,10,11,12,13]] (by kernel_rfl) DS
       (λD af V=>∃(tt tu tv tw tx tz tA tB tC tE tF tG tH tI tJ:N),af={ tmps:=#[O #[C Y la Z],O #[C (some ⟨bq,0,none⟩) lb T],G (some ⟨w.heap.size,0,none⟩),G (some ⟨w.heap.size+1,0,none⟩),G (some ⟨w.heap.size+1+1,0,none⟩),G (some ⟨w.heap.size+1+1+1,0,none⟩),I false,G (some ⟨B4,0,none⟩),G (some ⟨d,0,none⟩),G (some ⟨d+1+1,0,none⟩),J L ↑i,G (some ⟨Bc,0,none⟩),I true,J L ↑j,G (some ⟨Bd,0,none⟩),O #[C (some ⟨bq,0,none⟩) lb T],J L ↑n,J L ↑n,I (decide (n<0)),F,F,G (some ⟨w.heap.size,0,none⟩),C Y la Z,C (some ⟨gR,0,none⟩) la rc,C (some ⟨gR,0,none⟩) la rc,J L ↑la,J L ↑n,J L ↑m,J L ↑m,C (some ⟨d+1,0,none⟩) m m,C (some ⟨d+1,0,none⟩) m m,.func (.func 67) #[] #[G (some ⟨d+1+1+1,0,none⟩)],J L ↑i,O #[I false,C none 0 0,I false,C none 0 0],tc,td,te,tf,tg,ti,tj,tk,tl,tm,tn,tp,tq,tr,ts,C (some ⟨d+1,0,none⟩) m m,J L ↑i,O #[I s8,C a8 l8 c8,I t8,C b8 k8 d8],G (some { block:=d+1,off:=i*4 }),G (some ⟨w.heap.size+1,0,none⟩),C (some ⟨bq,0,none⟩) lb T,J L ↑lb,J L ↑j,I true,J L ↑j,G (some { block:=bq,off:=j*4 }),O #[I (s' j),C (bc j) (az j) (ap j),I (t' j),C (ay j) (aq j) (aw j)],tt,tu,tv,tw,tx,tz,tA,tB,tC,tE,tF,tG,tH,tI,tJ,u76,F,F,F,F],defers:=[] }/\Hid ((D 0=true->tt=C (some ⟨gR,0,none⟩) la rc)/\(D 1=true->tu=J L (i:Int))/\(D 2=true->tv=J L (j:Int))/\(D 3=true->tw=J L (t1:Int))/\(D 4=true->tx=C (some ⟨gR,0,none⟩) la rc)/\(D 5=true->tz=J L (i:Int))/\(D 6=true->tA=J L (j:Int))/\(D 7=true->tB=J L (t1:Int))/\(D 8=true->tC=G (some ⟨gR,t1*4,none⟩))/\(D 9=true->D 15=false->Jj V tE (cf X t1))/\(D 10=true->D 15=false->Jj V tF c)/\(D 11=true->D 15=false->Jj V tG (cf qs j))/\(D 12=true->D 15=false->Jj V tH (c*cf qs j))/\(D 13=true->D 15=false->Jj V tI (cf X t1-c*cf qs j))/\(D 14=true->tJ=G (some ⟨gR,t1*4,none⟩)))/\Hid ((D 15=false->GR w W V (GF w Y (some ⟨bq,0,none⟩) la Z lb T m gR rc d (d+1) (d+1+1) (d+1+1+1) (X) (Q.set i c)++[some (Bc,.rat c)]++[some (Bd,.rat (cf qs j))]) B4 (n:Int) (d+1) i)/\(D 15=true->GR w W V (GF w Y (some ⟨bq,0,none⟩) la Z lb T m gR rc d (d+1) (d+1+1) (d+1+1+1) (X.set t1 (cf X t1-c*cf qs j)) (Q.set i c)++[some (Bc,.rat c)]++[some (Bd,.rat (cf qs j))]) B4 (n:Int) (d+1) i)))
       (E8 ⟨_,_,_,_,_,_,_,rfl,Ja DQ,Ja ⟨λ_=>Qp,DQ⟩⟩) ?step2 ?fin2
      case step2=>
       rintro D af V i ds ad hi g P ⟨tt,tu,tv,tw,tx,tz,tA,tB,tC,tE,tF,tG,tH,tI,tJ,rfl,f,q⟩;have Ul:i<16:=(Ac.1 hi).1;obtain rfl|rfl|rfl|rfl|rfl|rfl|rfl|rfl|rfl|rfl|rfl|rfl|rfl|rfl|rfl|rfl:=IR i om
       all_goals
        simp only[Af,Ae,Ag]at hi;subst hi
       . have x:=q.o.1 (DU ad P);have e5:=(x.1.1.cell (i:=5) rfl).1.cell;clear g;refine Do ?_;exact⟨(Dh f),q⟩
       . clear g;refine Do ?_;exact⟨(Dp f),q⟩
       . clear g;refine Do ?_;exact⟨(Dg f),q⟩
       . obtain rfl:=f.o.2.1 (g 1 DQ);obtain rfl:=f.o.2.2.1 (g 2 DQ);clear g;refine Do ?_;exact⟨(Di (Dg (Dp f))),q⟩
       . have x:=q.o.1 (DU ad P);have e5:=(x.1.1.cell (i:=5) rfl).1.cell;clear g;refine Do ?_;exact⟨(Dx f),q⟩
       . clear g;refine Do ?_;exact⟨(D0 f),q⟩
       . clear g;refine Do ?_;exact⟨(Dw f),q⟩
       . obtain rfl:=Ds f (g 5 DQ);obtain rfl:=Dy f (g 6 DQ);clear g;refine Do ?_;exact⟨(EB (Dw (D0 f))),q⟩
       . obtain rfl:=f.o.2.2.2.2.1 (g 4 DQ);obtain rfl:=D9 f (g 7 DQ);clear g;refine Do ?_;exact⟨(EI (EB (Dx f))),q⟩
       . have x:=q.o.1 (DU ad P);obtain rfl:=EF f (g 8 DQ);obtain⟨xa,xb,xc,xd,e0,e1,e2,e3,hr⟩:=(x.1.1.rats (i:=4) rfl).at Ue.o;clear g;refine Do ?_;exact⟨(Es (EI f) λ_ _=>hr),q⟩
       . have x:=q.o.1 (DU ad P);obtain⟨s5,a5,l5,c5,t5,b5,k5,d5,n5,r5,i5,j5⟩:=x.1.1.rat (i:=9) rfl;obtain⟨e0,e1,e2,e3⟩:=n5.cq;clear g;refine Do ?_;exact⟨(D6 f λ_ _=>r5),q⟩
       . have x:=q.o.1 (DU ad P);obtain⟨s5,a5,l5,c5,t5,b5,k5,d5,n5,r5,i5,j5⟩:=x.1.1.rat (i:=10) rfl;obtain⟨e0,e1,e2,e3⟩:=n5.cq;clear g;refine Do ?_;exact⟨(D7 f λ_ _=>r5),q⟩
       . have Qa:D 15=false:=DU ad P;have h0:=EJ f (g 10 DQ) Qa;have h1:=Ee f (g 11 DQ) Qa;clear g;have HC:=Ja (λ(n9:Nat)=>Be l ((BJ (n:=n9)).2 (Kx _ _ c (cf qs j) V h0 h1 Wr.o (Qm.o j))));clear h0 h1;refine BQ rfl λK hK=>?_;go_simp;gi_wp2_with(refine⟨trivial,?_⟩;gi_at_call 52;refine(HC.o _).mono ?_;rintro e w5 ⟨v5,rfl,aj,U⟩)
         obtain⟨G0,G1,G2,G3,G4,G5,G6,G7,G8,G9,am,bg,_,bh,ak⟩:=f.o;exact E8 ⟨_,_,_,_,_,_,_,rfl,Ja ⟨G0,G1,G2,G3,G4,G5,G6,G7,G8,λh y=>(G9 h y).below U,λh y=>(am h y).below U,λh y=>(bg h y).below U,λ_ _=>aj,λh y=>(bh h y).below U,ak⟩,Ja ⟨λh=>(q.o.1 h).below U,λh=>(q.o.2 h).below U⟩⟩
       . have Qa:D 15=false:=DU ad P;have h0:=EU f (g 9 DQ) Qa;have h1:=Ej f (g 12 DQ) Qa;clear g;have HC:=Ja (λ(n9:Nat)=>Be l ((BJ (n:=n9)).2 (Ky _ _ (cf X t1) (c*cf qs j) V h0 h1 Wl.o (Uf.o j))));clear h0 h1;refine BQ rfl λK hK=>?_;go_simp;gi_wp2_with(refine⟨trivial,?_⟩;gi_at_call 51;refine(HC.o _).mono ?_;rintro e w5 ⟨v5,rfl,aj,U⟩)
         obtain⟨G0,G1,G2,G3,G4,G5,G6,G7,G8,G9,am,bg,an,_,ak⟩:=f.o;exact E8 ⟨_,_,_,_,_,_,_,rfl,Ja ⟨G0,G1,G2,G3,G4,G5,G6,G7,G8,λh y=>(G9 h y).below U,λh y=>(am h y).below U,λh y=>(bg h y).below U,λh y=>(an h y).below U,λ_ _=>aj,ak⟩,Ja ⟨λh=>(q.o.1 h).below U,λh=>(q.o.2 h).below U⟩⟩
       . obtain rfl:=f.o.1 (g 0 DQ);obtain rfl:=f.o.2.2.2.1 (g 3 DQ);clear g;refine Do ?_;exact⟨(Gh (Di (Dh f))),q⟩
       . have x:=q.o.1 P;have h0:=GK f (g 13 DQ) P;obtain rfl:=f.o.2.2.2.2.2.2.2.2.2.2.2.2.2.2 (g 14 DQ);have hE:=x.1.1.rats (i:=4) rfl;obtain⟨xa,xb,xc,xd,e0,e1,e2,e3,_⟩:=hE.at Ue.o;have f0:=hE.frozen (t1*4);have f1:=hE.frozen (t1*4+1);have f2:=hE.frozen (t1*4+2);have f3:=hE.frozen (t1*4+3);obtain⟨s9,a9,l9,c9,t9,b9,k9,d9,rfl⟩:=Jj.form h0;have Qe:∃cs,V.heap[gR]?=some (H cs 65 (0,0)):=by obtain⟨cs,h1,_⟩:=hE;exact⟨cs,h1⟩
         clear g;refine Do ?_;exact⟨(Gh (EO (EE (D7 (D6 (Es f (λ_ h=>by simp at h)) (λ_ h=>by simp at h)) (λ_ h=>by simp at h)) (λ_ h=>by simp at h)) (λ_ h=>by simp at h))),Ja ⟨λh=>by simp at h,λ_=>⟨x.1.upd (x.1.1.putRats (i:=4) rfl Ue.o h0) (λB hB=>Kw hB _ _ _ _) (by obtain⟨cs,h1⟩:=Qe;exact OZ x.1.2.1 h1) (λe=>x.1.1.ne 4 6 rfl rfl DS e.symm),x.2.trans (RL _ _ _ _ _ _ _)⟩⟩⟩
      case fin2=>
       rintro D af V ah ⟨tt,tu,tv,tw,tx,tz,tA,tB,tC,tE,tF,tG,tH,tI,tJ,rfl,f,q⟩;have h3:=q.o.2 (ah 15 DS);rw[Wo.o]at h3;have HO:=Ja (show GR w W V (GF w Y (some ⟨bq,0,none⟩) la Z lb T m gR rc d (d+1) (d+1+1) (d+1+1+1) (YB R i (-c) qs (j+1)) (Q.set i c)++[some (Bc,.rat c)]) B4 (n:Int) (d+1) i from⟨⟨h3.1.1.take 10,h3.1.2⟩,h3.2⟩);clear f q ah h3;gi_wp2_with fail
       go_roundw
       case rel=>exact⟨j+1,om,by go_num,HO⟩
       case measure=>simp[intOf];omega
    . obtain rfl:j=lb:=om
      gi_wp2_with fail
      refine⟨HJ.o.2.from _,?_⟩;have h3:=HJ.o.1.1.take 9;rw[Qi.o]at h3;show GQ w wr (GF w Y _ la Z _ T m gR rc d (d+1) (d+1+1) (d+1+1+1) (JD ps qs n m (k+1)).2 (JD ps qs n m (k+1)).1) B4 (n:Int) (d+1) (m-(k+1));rw[Ud.o,Qf.o.2.2.2.2.2];refine⟨?_,HJ.o.1.2⟩;have Ql:=Qi.o;rw[<-Ql];rw[<-Ql]at h3;exact h3
 case done=>
  intro DC W hD hS hK;have Ur:=(Xd ps qs n m m).2;have Uo:=(Xd ps qs n m m).1;have Qc:cf qs n≠0:=by
   have:=JF Ux.o Uu.o;rwa[show qs.length-1=n by have:=HN.o;have:=Qi.o;omega]at this
  obtain⟨z,Uh,bt,ai,bm⟩:=HL.o m (Aa _);have Uc:Y8 ps qs=Jd (JD ps qs n m m).1:=by unfold Y8;rw[show qs.length-1=n by have:=HN.o;have:=Qi.o;omega,show ps.length-n=m by have:=HN.o;have:=Qg.o;omega]
  have Ub:J3 ps qs=Jd (JD ps qs n m m).2:=by unfold J3;rw[show qs.length-1=n by have:=HN.o;have:=Qi.o;omega,show ps.length-n=m by have:=HN.o;have:=Qg.o;omega]
  obtain⟨R,hR⟩:=ex ((JD ps qs n m m).2);obtain⟨Q,hQ⟩:=ex ((JD ps qs n m m).1);rw[hR]at Ur ai Ub;rw[hQ]at Uo bm Uc;rw[hR,hQ]at hS;have Ua:=Ja (show Db R from Db.of λi=>Sq.of (ai i) om);have f7:=Ja (show Db Q from Db.of λi=>Sq.of (bm i) om);have Uj:RowK true W (C (some ⟨gR,0,none⟩) la rc) R:=by
   have h:=(hS.1.rats (i:=4) rfl).row (n:=la) (cap:=rc) (by have:=Qg.o;omega) (by have:=Wc.o;omega) (by have:=Wc.o;omega) fi;rwa[Ad (by have:=Qg.o;omega)]at h
  have Uz:RowK true W (C (some ⟨d+1,0,none⟩) m m) Q:=by
   have h:=(hS.1.rats (i:=6) rfl).row (n:=m) (cap:=m) om (Aa _) om Qn;rwa[Ad om]at h
  have Qp:Hv w W.drew DC d (d+1+1) (C (some ⟨gR,0,none⟩) la rc) (C (some ⟨d+1,0,none⟩) m m) R Q:=
   Hv.below ⟨(hS.1.cell (i:=2) rfl).1,(hS.1.cell (i:=3) rfl).1,(hS.1.cell (i:=5) rfl).1,(hS.1.cell (i:=7) rfl).1,Uj,Uz,hS.1.2.2,hK⟩ ((BB _ W).drew)
  have Ws:Mb false w W.drew DC F:=λe=>by cases e
  obtain⟨Wk,Wn,Wj⟩:=Dm Uc Ub (show w.heap.size<=DC by have:=Us.o;omega);clear hS Ur Uo bt ai bm Uh Uc Ub hR hQ Qc Uj Uz hK Qu;gi_wp2_with fail
  refine Yd Ui [[],[0],[],[2,1],[1,3,0,1],[3,4,0,1,2,3,4],[5,0,1,2,3,4,5]] (by kernel_rfl) DS
   (λD af V=>∃(tK tL tM tN tD:N),af={ tmps:=#[O #[C Y la Z],O #[C qa lb T],G (some ⟨w.heap.size,0,none⟩),G (some ⟨w.heap.size+1,0,none⟩),G (some ⟨w.heap.size+1+1,0,none⟩),G (some ⟨w.heap.size+1+1+1,0,none⟩),tD,G (some ⟨B4,0,none⟩),G (some ⟨d,0,none⟩),G (some ⟨d+1+1,0,none⟩),F,F,F,F,F,O #[C qa lb T],J L ↑n,J L ↑n,I (decide ((n:Int)<0)),F,F,G (some ⟨w.heap.size,0,none⟩),C Y la Z,C (some ⟨gR,0,none⟩) la rc,C (some ⟨gR,0,none⟩) la rc,J L ↑la,J L ↑n,J L ↑m,J L ↑m,C (some ⟨d+1,0,none⟩) m m,C (some ⟨d+1,0,none⟩) m m,.func (.func 67) #[] #[G (some ⟨d+1+1+1,0,none⟩)],F,F,F,F,F,F,F,F,F,F,F,F,F,F,F,F,F,F,F,F,F,F,F,F,F,F,F,F,F,F,F,F,F,F,F,F,F,F,F,F,F,F,F,F,F,tK,tL,tM,tN],defers:={ target:=.collected DC,args:=#[] }::[] }/\Hid ((D 0=true->tK=C (some ⟨d+1,0,none⟩) m m)/\(D 1=true->D 5=false->Jg V tL (Jd Q))/\(D 2=true->tM=C (some ⟨gR,0,none⟩) la rc)/\(D 3=true->D 5=false->Jg V tN (Jd R))/\(D 6=true->tD=I true))/\Hid ((D 4=false->Hv w V DC d (d+1+1) (C (some ⟨gR,0,none⟩) la rc) (C (some ⟨d+1,0,none⟩) m m) R Q)/\(D 4=true->KR V))/\Hid ((D 5=false->Mb (D 4) w V DC tL)/\(D 5=true->SH w V DC tL tN (Jd Q) (Jd R))))
   ⟨_,_,_,_,_,rfl,Ja DQ,Ja ⟨λ_=>Qp,DQ⟩,Ja ⟨λ_=>Ws,DQ⟩⟩ ?step3 ?fin3
  case step3=>
   rintro D af V i ds ad hi g P ⟨tK,tL,tM,tN,tD,rfl,f,q,ae⟩;have Ul:i<7:=(Ac.1 hi).1;obtain rfl|rfl|rfl|rfl|rfl|rfl|rfl:=IL i om
   all_goals
    simp only[Af,Ae,Ag]at hi;subst hi
   . have x:=q.o.1 (DU ad P);have Qk:=ae.o.1 (DU ad P);have e6:=x.2.2.2.1.cell;clear g;refine Do ?_;exact⟨(Dh f),q,ae⟩
   . have Qa:D 4=false:=DU ad P;have x:=q.o.1 Qa;have Qd:D 5=false:=DU ad P;have Qk:=ae.o.1 Qd;obtain rfl:=f.o.1 (g 0 DQ);clear g;have HC:=Ja (λ(n9:Nat)=>(BJ (n:=n9)).2 (Hb _ Q V x.2.2.2.2.2.1 f7.o));refine BQ rfl λK hK=>?_;go_simp;gi_wp2_with(refine⟨trivial,?_⟩;gi_at_call 27;refine(HC.o _).mono ?_;rintro e w5 ⟨v5,rfl,aj,_,U⟩)
     exact⟨_,_,_,_,_,rfl,Ja ⟨λ_=>rfl,λ_ _=>aj,f.o.2.2.1,λh y=>(f.o.2.2.2.1 h y).below U,f.o.2.2.2.2⟩,Ja ⟨λh=>(q.o.1 h).below U,λh=>(q.o.2 h).below U⟩,Ja ⟨λ_=>(λe=>by simp[Qa]at e),λh=>by simp[Qd]at h⟩⟩
   . have Qa:D 4=false:=DU ad (DU (a:=3) ad P);have x:=q.o.1 Qa;have Qk:=ae.o.1 (DU ad P);have e5:=x.2.2.1.cell;clear g;refine Do ?_;exact⟨Ja ⟨f.o.1,f.o.2.1,λ_=>rfl,f.o.2.2.2.1,f.o.2.2.2.2⟩,q,ae⟩
   . have Qa:D 4=false:=DU ad P;have x:=q.o.1 Qa;have Qd:D 5=false:=DU ad P;have Qk:=ae.o.1 Qd;obtain rfl:=f.o.2.2.1 (g 2 DQ);clear g;have HC:=Ja (λ(n9:Nat)=>(BJ (n:=n9)).2 (Hb _ R V x.2.2.2.2.1 Ua.o));refine BQ rfl λK hK=>?_;go_simp;gi_wp2_with(refine⟨trivial,?_⟩;gi_at_call 27;refine(HC.o _).mono ?_;rintro e w5 ⟨v5,rfl,aj,_,U⟩)
     exact⟨_,_,_,_,_,rfl,Ja ⟨f.o.1,λh y=>(f.o.2.1 h y).below U,λ_=>rfl,λ_ _=>aj,f.o.2.2.2.2⟩,Ja ⟨λh=>(q.o.1 h).below U,λh=>(q.o.2 h).below U⟩,Ja ⟨λ_=>(λe=>by simp[Qa]at e),λh=>by simp[Qd]at h⟩⟩
   . have x:=q.o.1 P;have Qd:D 5=false:=DU ad P;have Qk:=ae.o.1 Qd;have h0:=f.o.2.1 (g 1 DQ) Qd;obtain⟨a9,l9,c9,rfl⟩:=Jg.form h0;have Qo:=x.1;have e0:=Qo.cell;have f0:=Qo.frozen;have Qy:w.heap.size+1+1+1≠w.heap.size+1+1:=om
     clear g;refine Do ?_;obtain⟨G0,G1,G2,G3,G4⟩:=f.o;exact⟨Ja ⟨G0,λh y=>(G1 h y).setP Qo _,G2,λh y=>(G3 h y).setP Qo _,G4⟩,Ja ⟨λh=>by simp at h,λ_=>trivial⟩,Ja ⟨λ_=>(λ_=>⟨_,rfl,Qo.set _,(BD V ⟨w.heap.size+1+1,0,none⟩ _ _ Qy).trans x.2.1,x.2.2.2.2.2.2.1.setCell (p:=⟨w.heap.size+1+1,0,none⟩) (by show w.heap.size<=w.heap.size+1+1;omega) _,(BL V ⟨w.heap.size+1+1,0,none⟩ _).same DC _ x.2.2.2.2.2.2.2 rfl⟩),λh=>by simp[Qd]at h⟩⟩
   . have Qk:=ae.o.1 P;have h0:=f.o.2.1 (g 1 DQ) P;have h1:=f.o.2.2.2.1 (g 3 DQ) P;have Wh:=g 4 DQ;obtain⟨v2,rfl,bk,bi,ce,bf⟩:=Qk (g 4 DQ);obtain⟨a9,l9,c9,rfl⟩:=Jg.form h1;have e0:=bi.cell;have f0:=bi.frozen;have Qy:w.heap.size+1+1≠w.heap.size+1+1+1:=om
     clear g;refine Do ?_;exact⟨Ja ⟨f.o.1,λ_ h=>by simp at h,f.o.2.2.1,λ_ h=>by simp at h,f.o.2.2.2.2⟩,Ja ⟨λh=>by simp[Wh]at h,λ_=>trivial⟩,Ja ⟨λh=>by simp at h,λ_=>⟨_,_,rfl,rfl,(BD V ⟨w.heap.size+1+1+1,0,none⟩ _ _ Qy).trans bk,bi.set _,h0.setP bi _,h1.setP bi _,ce.setCell (p:=⟨w.heap.size+1+1+1,0,none⟩) (by show w.heap.size<=w.heap.size+1+1+1;omega) _,(BL V ⟨w.heap.size+1+1+1,0,none⟩ _).same DC _ bf rfl⟩⟩⟩
   . clear g;refine Do ?_;exact⟨Ja ⟨f.o.1,f.o.2.1,f.o.2.2.1,f.o.2.2.2.1,λ_=>rfl⟩,q,ae⟩
  case fin3=>
   rintro E af V ah ⟨tK,tL,tM,tN,tD,rfl,f,q,ae⟩;obtain⟨v,v',rfl,rfl,g2,g3,f9,fh,ce,bf⟩:=ae.o.2 (ah 5 DS);obtain rfl:=f.o.2.2.2.2 (ah 6 DS);clear f q ae ah;gi_wp2;refine⟨DQ,.inl ⟨_,_,rfl,Bb bf,?_⟩⟩;have hg:=BV V DC (.deferred none);have Qr:∀r,some DC=some r->∃o:Obj,V.heap[r]?=some o/\o.isCells=false:=λr e=>by cases e;exact⟨_,bf,rfl⟩
   have q2:Boxed _ (w.heap.size+1+1) 25 v:=Xo hg Qr (show Bx V (w.heap.size+1+1) 25 #[v]from g2);have q3:Boxed _ (w.heap.size+1+1+1) 25 v':=Xo hg Qr (show Bx V (w.heap.size+1+1+1) 25 #[v']from g3);have x2:=q2.cell;have x3:=q3.cell;refine⟨.tuple #[O #[v],O #[v'],I true],by simp[results,Tryz.results22,go_sem,x2,x3],_,_,rfl,?_,?_,?_⟩
   . rw[Wk.o];obtain⟨u,e,h⟩:=f9;exact⟨u,e,Ir hg Qr h⟩
   . rw[Wn.o];obtain⟨u,e,h⟩:=fh;exact⟨u,e,Ir hg Qr h⟩
   . exact ce.trans (DP (w:=w) (Aa _) _ DC _ _ Wj.o bf rfl rfl)
end Go.Proofs.YteldjhhjnchdeaaGreatDoor.M3
