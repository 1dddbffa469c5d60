import Derived.Test.YtakpoihdghihmaaGreatDoorR40
open Go.Value renaming slice->C,pointer->G,bool->I,int->L,agg->T
open Go renaming undef->F,World->N,Value->S
open Go.Obj renaming cells->H
open Go.IntKind renaming i64->M
set_option maxRecDepth 100000
set_option maxHeartbeats 16000000
namespace Go.Proofs.YtakpoihdghihmaaGreatDoor.M3
open Go.RowKit Go.Shelf
attribute [local go_sem] Oper.semAt_some
def ZQ(V:N)(g r:Nat):Prop:=∀j,j<r->V.cell? ⟨g,j*4,none⟩=some (I false)/\V.cell? ⟨g,j*4+1,none⟩=some (C none 0 0)/\V.cell? ⟨g,j*4+2,none⟩=some (I false)/\V.cell? ⟨g,j*4+3,none⟩=some (C none 0 0)
variable{d:Bool}{n:Int}{bs:List (Option (Nat × Dat))}{B B4 X g gQ r:Nat}{t v:S}{V V' w:N}
theorem ZQ.of(h:ZQ V g r)(e:V'.heap[g]?=V.heap[g]?):ZQ V' g r:=λj i=>by
 obtain⟨b,c,d,f⟩:=h j i;exact⟨(BQ (w:=V) (a:=⟨g,_,none⟩) e).trans b,(BQ (w:=V) (a:=⟨g,_,none⟩) e).trans c,(BQ (w:=V) (a:=⟨g,_,none⟩) e).trans d,(BQ (w:=V) (a:=⟨g,_,none⟩) e).trans f⟩
def FX(w V:N)(bs:List (Option (Nat × Dat)))(B4:Nat)(n:Int)(gQ r:Nat):Prop:=Mem w V bs/\Boxed V B4 3 (.int M n)/\ZQ V gQ r/\gQ<V.heap.size
theorem FX.below{w V V':N}{bs:List (Option (Nat × Dat))}{B4:Nat}{n:Int}{gQ r:Nat}(h:FX w V bs B4 n gQ r)(a:Bl V V'):FX w V' bs B4 n gQ r:=
 ⟨h.1.below a,(a.block B4 h.2.1.lt).trans h.2.1,h.2.2.1.of (a.block gQ h.2.2.2),AW h.2.2.2 a.size⟩
theorem FX.own{w V V':N}{bs:List (Option (Nat × Dat))}{B4:Nat}{n:Int}{gQ r:Nat}{row:Option Nat}(h:FX w V bs B4 n gQ r)(g:∃cs t m,V.heap[gQ]?=some (H cs t m))(a:V.grownBy V' row)(d:∀x,row=some x->w.heap.size<=x/\∃o:Obj,V.heap[x]?=some o/\o.isCells=false):FX w V' bs B4 n gQ r:=by
 have b:∀r,row=some r->∃o:Obj,V.heap[r]?=some o/\o.isCells=false:=λr e=>(d r e).2;refine⟨h.1.own a d,Yc a b (show Bx V B4 3 #[L M n]from h.2.1),h.2.2.1.of ?_,AW h.2.2.2 a.size⟩;obtain⟨cs,t,m,e⟩:=g;refine a.block gQ h.2.2.2 λf=>?_;obtain⟨o,c,i⟩:=b gQ f.symm;rw[e]at c;cases c;cases i
theorem Ki(V:N)(m:Nat):Has V (T (Yb m)) (.rats (List.replicate m 0)):=by
 refine⟨Yb m,rfl,λj a=>?_⟩;rw[AA]at a;obtain⟨b,c,d,e⟩:=La a;exact⟨_,_,_,_,b,c,d,e,by rw[J0];exact XY _⟩
def E1(w:N)(c e:Option Addr)(la d lb f m gR rc B5 gQ a b:Nat)(R Q:List Rat):List (Option (Nat × Dat)):=
 [some (w.heap.size,.cell 25 (C c la d)),some (w.heap.size+1,.cell 25 (C e lb f)),some (w.heap.size+1+1,.cell 25 (C Option.none 0 0)),some (w.heap.size+1+1+1,.cell 25 (C Option.none 0 0)),
  some (gR,.rats R),some (B5,.cell 23 (C (some ⟨gR,0,Option.none⟩) la rc)),some (gQ,.rats Q),some (a,.cell 23 (C (some ⟨gQ,0,Option.none⟩) m m)),some (b,.cell 23 (C (some ⟨gQ,0,Option.none⟩) m m))]
theorem bC(p:List Rat)(i:Nat)(c:Rat)(j:Nat):cf (p.set i c) j=c\/cf (p.set i c) j=cf p j:=by
 by_cases h:i<p.length
 . rw[XS _ _ _ _ h];split
   . exact Or.inl rfl
   . exact Or.inr rfl
 . rw[C7 O];exact Or.inr rfl
theorem FX.upd{a:List (Option (Nat × Dat))}(h:FX w V bs B4 n gQ r)(g:Mem w V' a)(c:∀B,B≠X->V'.heap[B]?=V.heap[B]?)(d:B4≠X)(f:gQ≠X):FX w V' a B4 n gQ r:=by
 have e:=c gQ f;refine⟨g,(c B4 d).trans h.2.1,h.2.2.1.of e,?_⟩;refine Nat.lt_of_not_le λhle=>?_;have b:=Array.getElem?_eq_none_iff.2 hle;rw[e]at b;exact absurd (Array.getElem?_eq_none_iff.1 b) (by have:=h.2.2.2;omega)
def FY(w W V:N)(bs:List (Option (Nat × Dat)))(B4:Nat)(n:Int)(gQ r:Nat):Prop:=FX w V bs B4 n gQ r/\KeepsOthers W V
theorem FY.below{w W V V':N}{bs:List (Option (Nat × Dat))}{B4:Nat}{n:Int}{gQ r:Nat}(h:FY w W V bs B4 n gQ r)(a:Bl V V'):FY w W V' bs B4 n gQ r:=⟨h.1.below a,h.2.trans (XB a)⟩
theorem Nz{cs:Array S}{m:Nat × Nat}(h:Boxed V B4 3 v)(a:V.heap[X]?=some (H cs 37 m)):B4≠X:=λe=>by
 subst e;have:=a.symm.trans h;simp only[Ak,Bo]at this;exact absurd this.2.1 DF
theorem bD(V:N)(C:Nat)(x y z u:S)(B:Nat)(h:B≠C):(put4 V C x y z u).heap[B]?=V.heap[B]?:=
 (BD _ ⟨C,3,none⟩ u B h).trans ((BD _ ⟨C,2,none⟩ z B h).trans ((BD _ ⟨C,1,none⟩ y B h).trans (BD V ⟨C,0,none⟩ x B h)))
def F8(d:Bool)(w W V:N)(bs:List (Option (Nat × Dat)))(B4:Nat)(n:Int)(gQ r:Nat)(t:S):Prop:=
 (d=false->FY w W V bs B4 n gQ r)/\(d=true->∃a,t=G (some ⟨a,0,none⟩)/\FY w W V (bs++[some (a,.rat 0)]) B4 n gQ r)
def Lm(w W V:N)(bs:List (Option (Nat × Dat)))(B4:Nat)(n:Int)(gQ r:Nat)(t:S)(c:Rat):Prop:=∃a,t=G (some ⟨a,0,none⟩)/\FY w W V (bs++[some (a,.rat c)]) B4 n gQ r
theorem Lm.below{w W V V':N}{bs:List (Option (Nat × Dat))}{B4:Nat}{n:Int}{gQ r:Nat}{t:S}{c:Rat}(h:Lm w W V bs B4 n gQ r t c)(b:Bl V V'):Lm w W V' bs B4 n gQ r t c:=by
 obtain⟨a,e,h⟩:=h;exact⟨a,e,h.below b⟩
theorem F8.below{d:Bool}{w W V V':N}{bs:List (Option (Nat × Dat))}{B4:Nat}{n:Int}{gQ r:Nat}{t:S}(h:F8 d w W V bs B4 n gQ r t)(a:Bl V V'):F8 d w W V' bs B4 n gQ r t:=
 ⟨λe=>(h.1 e).below a,λe=>by obtain⟨b,c,f⟩:=h.2 e;exact⟨b,c,f.below a⟩⟩
theorem F8.base{W:N}(h:F8 d w W V bs B4 n gQ r t):FY w W V bs B4 n gQ r:=by
 cases d with
 |false=>exact h.1 rfl
 |true=>
  obtain⟨e,_,⟨a,b⟩,c⟩:=h.2 rfl;have:=a.take bs.length;rw[List.take_left' rfl]at this;exact⟨⟨this,b⟩,c⟩
theorem F8.alloc{w W V:N}{bs:List (Option (Nat × Dat))}{B4:Nat}{n:Int}{gQ r:Nat}{t:S}(h:F8 false w W V bs B4 n gQ r t):F8 true w W (V.alloc (H #[I false,C none 0 0,I false,C none 0 0] 37)) bs B4 n gQ r (G (some ⟨V.heap.size,0,none⟩)):=by
 have a:=h.1 rfl;have b:=a.below (Ba V (H #[I false,C none 0 0,I false,C none 0 0] 37));exact⟨(λe=>by cases e),λ_=>⟨_,rfl,⟨a.1.1.push (.rat 0) (XY _),b.1.2⟩,b.2⟩⟩
def I9(_:N):Prop:=True
theorem I9.below(_:I9 V)(_:Bl V V'):I9 V':=trivial
def Hq(d:Bool)(V:N)(t:S)(c:Rat):Prop:=∃u,t=.tuple #[u,I true]/\(d=false->Jh V u c)
theorem Hq.below{d:Bool}{V V':N}{t:S}{c:Rat}(h:Hq d V t c)(a:Bl V V'):Hq d V' t c:=by
 obtain⟨u,e,h⟩:=h;exact⟨u,e,λe=>(h e).below a⟩
theorem Hq.drop{c:Rat}(h:Hq d V t c)(V':N):Hq true V' t c:=by
 obtain⟨u,e,_⟩:=h;exact⟨u,e,λe=>by cases e⟩
theorem JY{o a:Nat}{x:S}(h:o≠a):(V.setCell ⟨g,a,none⟩ x).cell? ⟨g,o,none⟩=V.cell? ⟨g,o,none⟩:=World.cell?_setCell_other _ _ _ _ (by intro e;cases e;exact h rfl)
theorem ZQ.put{i:Nat}(h:ZQ V g (i+1))(x y z u:S):ZQ (putAt V g (i*4) x y z u) g i:=λj e=>by
 obtain⟨a,b,c,d⟩:=h j O;unfold putAt;refine⟨?_,?_,?_,?_⟩
 . rw[JY O,JY O,JY O,JY O];exact a
 . rw[JY O,JY O,JY O,JY O];exact b
 . rw[JY O,JY O,JY O,JY O];exact c
 . rw[JY O,JY O,JY O,JY O];exact d
theorem _root_.Go.Proofs.YtakpoihdghihmaaGreatDoor.Je.setP{ps:List Rat}(h:Je V v ps){a:Option Addr}{l c:Nat}(b:Boxed V B 25 (C a l c))(x:S):Je (V.setCell ⟨B,0,none⟩ x) v ps:=by
 obtain⟨u,e,d⟩:=h;exact⟨u,e,Eo b x d⟩
theorem boxed_below{t:TypeId}(h:Boxed V B t v)(a:Bl V V'):Boxed V' B t v:=(a.block B h.lt).trans h
def Gw(w V:N)(D B5 b:Nat)(rs a:S)(R Q:List Rat):Prop:=
 Boxed V (w.heap.size+1+1) 25 (C none 0 0)/\Boxed V (w.heap.size+1+1+1) 25 (C none 0 0)/\Boxed V B5 23 rs/\Boxed V b 23 a/\RowK true V rs R/\RowK true V a Q/\Bl w V/\V.heap[D]?=some (.deferred (some []))
theorem Gw.below{w V V':N}{D B5 b:Nat}{rs c:S}{R Q:List Rat}(h:Gw w V D B5 b rs c R Q)(a:Bl V V'):Gw w V' D B5 b rs c R Q:=
 ⟨boxed_below h.1 a,boxed_below h.2.1 a,boxed_below h.2.2.1 a,boxed_below h.2.2.2.1 a,h.2.2.2.2.1.below a,h.2.2.2.2.2.1.below a,Bt h.2.2.2.2.2.2.1 a,(a.block D (Ab.1 h.2.2.2.2.2.2.2).1).trans h.2.2.2.2.2.2.2⟩
def Lo(d:Bool)(w V:N)(D:Nat)(t:S):Prop:=d=true->∃v,t=T #[v]/\Boxed V (w.heap.size+1+1) 25 v/\Boxed V (w.heap.size+1+1+1) 25 (C none 0 0)/\Bl w V/\V.heap[D]?=some (.deferred (some []))
def RL(w V:N)(D:Nat)(t a:S)(P c:List Rat):Prop:=∃v b,t=T #[v]/\a=T #[b]/\Boxed V (w.heap.size+1+1) 25 v/\Boxed V (w.heap.size+1+1+1) 25 b/\Je V t P/\Je V a c/\Bl w V/\V.heap[D]?=some (.deferred (some []))
def Jx(V:N)(t:S)(c:Rat):Prop:=∃u,t=.tuple #[u,I true]/\Jh V u c
theorem Jx.below{V V':N}{t:S}{c:Rat}(h:Jx V t c)(a:Bl V V'):Jx V' t c:=by
 obtain⟨u,e,h⟩:=h;exact⟨u,e,h.below a⟩
theorem bE(A:Nat)(pa qa:Option Addr)(la pc lb U n m:Nat)(ps qs:List Rat)(w:N)(ha:RowK true w (C pa la pc) ps)(hb:RowK true w (C qa lb U) qs)(hq:∀i,DQ A (cf qs i))(dp:Jd qs=qs)(dh:qs≠[])(hL:∀k,k<=m->∃z,z+(2*A+1)<=1000000000/\(k<m->2*z+2*(2*A+1)<=1000000000)/\(∀i,DQ z (cf (JF ps qs n m k).2 i))/\∀i,DQ (z+A) (cf (JF ps qs n m k).1 i))(hn:lb=n+1)(hm:la=m+n)(de:0<m):
 Calls Tryz.prog 139 #[T #[C pa la pc],T #[C qa lb U]] w λe w'=>∃u v,e=.returned (.tuple #[u,v,I true])/\Je w' u (Jo ps qs)/\Je w' v (JK ps qs)/\Bl w w':=by
 have Uc:Tryz.prog.follows .mixedOrders=true:=by kernel_rfl
 obtain⟨db,ed,eo,fe,s,t,aa,bb,ll,cc,kk,dd,ew⟩:=ha.forms;obtain⟨Qp,ei,et,fm,s',t',aq,aw,ba,ax,az,ay,ct⟩:=hb.forms;have M0:Mem w _ _:=((((Mem.nil w).push (.cell 25 (C pa la pc)) (cs:=#[C pa la pc]) ⟨rfl,rfl⟩).push (.cell 25 (C qa lb U)) (cs:=#[C qa lb U]) ⟨rfl,rfl⟩).push (.cell 25 (C none 0 0)) (cs:=#[C none 0 0]) ⟨rfl,rfl⟩).push (.cell 25 (C none 0 0)) (cs:=#[C none 0 0]) ⟨rfl,rfl⟩;simp only[Ax]at M0;obtain⟨V0,bz⟩:=ex ((((w.alloc (H #[C pa la pc] 25)).alloc (H #[C qa lb U] 25)).alloc (H #[C none 0 0] 25)).alloc (H #[C none 0 0] 25));have M1:Mem w V0 [some (w.heap.size,.cell 25 (C pa la pc)),some (w.heap.size+1,.cell 25 (C qa lb U)),some (w.heap.size+1+1,.cell 25 (C none 0 0)),some (w.heap.size+1+1+1,.cell 25 (C none 0 0))]:=by rw[<-bz];exact M0
 have Ui:=Ja M1;have Um:=Ja (show Calls Tryz.prog 30 #[T #[C qa lb U]] V0 λe w'=>e=.returned (L M (n:Int))/\Bl V0 w' by
  have h:=JX (T #[C qa lb U]) qs V0 ⟨_,rfl,hb.below M1.2.2⟩;rwa[show((qs.length:Int)-1)=(n:Int)by omega]at h)
 have Wg:=Ja λ(V:N) (h:Bl w V)=>QL (C pa la pc) ps V (ha.below h);have fs:∀W:N,(Instr.makeSlice 23 (L M (m:Int)) (L M (m:Int))).run Tryz.prog W=.ok (C (some ⟨W.heap.size,0,none⟩) m m) (W.alloc (H (Yb m) 37)):=λW=>I0 m O W;have fx:(la:Int)-(n:Int)=(m:Int):=O
 have gg:IntKind.i64.wrap (m:Int)=(m:Int):=by rw[BO];omega
 have fo:max (0:Int) (m:Int)=(m:Int):=O
 have fv:¬(n:Int)<0:=O
 obtain⟨HQ,Qg,Qj,HN,Qu,Uk,Uw,HL⟩:=Hd ct db Qp (show lb=n+1/\la=m+n/\0<m from⟨hn,hm,de⟩) hq dp dh hL;have Ux:=Ja bz;have Ql:m<=1099511627776:=O
 clear ha hb ew ct db Qp ed eo ei et hq dp dh hL hn hm de M0 M1 bz;have c1:=(Ui.o.cell (i:=1) rfl).1.cell;refine(BH (n:=3)).1 ?_;refine BN Tryz.func139 rfl trivial ?_ rfl;simp only[Tryz.ntmps139,As,Af,Ay,Nat.reduceAdd,Nat.reduceSub,Av,Aw,AG,AC,Ar,Au];gi_wp2_with fail
 rw[Ux.o];refine⟨trivial,?_⟩;refine((BH (n:=_)).2 Um.o).mono ?_;rintro e w1 ⟨rfl,co⟩;have Ut:Bl w1 (w1.alloc (H #[L M (n:Int)] 3)):=Ba w1 _;have Qx:=(Ui.o.below co).below Ut;have h4:=BG w1 3 (L M (n:Int));have c0:=(Qx.cell (i:=0) rfl).1.cell;obtain⟨Qh,Ue,H4⟩:=Db (Wg.o _ Qx.2.2) Qx h4;clear Ut Qx h4 co Um c1 Ux Ui Wg;gi_wp2_with fail
 obtain⟨V1,ce⟩:=ex (w1.alloc (H #[L M (n:Int)] 3));obtain⟨B4,bn⟩:=ex (w1.heap.size);rw[ce]at Qh Ue H4 c0;rw[bn]at H4;rw[ce,bn];clear ce bn;refine⟨trivial,?_⟩;refine((BH (n:=_)).2 Qh.o).mono ?_;rintro e P ⟨u2,rfl,cl,_,bh,df⟩;have f8:∃gR rc,u2=C (some ⟨gR,0,none⟩) la rc/\V1.heap.size<=gR/\Dl true P gR ps/\la<=rc/\rc<=9223372036854775807:=by
  obtain⟨_,dx,e7,h7,h8,_⟩:=id cl;rcases df with rfl|⟨g',cap,e1,e2,e3⟩
  . exfalso
    obtain⟨_,_,e,_⟩:=cl;injection e with _ e _
    have:=Qg.o;have:=HN.o;omega
  . rw[e1]at e7;have e8:cap=dx:=by injection e7
    exact⟨g',cap,by rw[e1,Qg.o],e2,e3,by rw[Qg.o,e8];exact h7,by rw[e8];exact h8⟩
 obtain⟨gR,rc,rfl,da,cn,di,dj⟩:=f8;have Ur:=Ja (show la<=rc/\rc<=9223372036854775807 from⟨di,dj⟩);clear di dj;have Uo:=Ue.o.adopt bh da cn;have h4:Boxed P B4 3 (L M (n:Int)):=(bh.block B4 H4.o.lt).trans H4.o;have Ul:Bl P (P.alloc (H #[C (some ⟨gR,0,none⟩) la rc] 23)):=Ba P _;have Uj:=Uo.push (.cell 23 (C (some ⟨gR,0,none⟩) la rc)) (cs:=#[C (some ⟨gR,0,none⟩) la rc]) ⟨rfl,rfl⟩;have h5:Boxed (P.alloc (H #[C (some ⟨gR,0,none⟩) la rc] 23)) B4 3 (L M (n:Int)):=(Ul.block B4 h4.lt).trans h4;have c4:=h5.cell;have Uu:=Ja Uj;have H5:=Ja h5;clear df cl bh da cn Uo h4 Ul Uj h5 Ue H4 Qh c0;gi_wp2_with fail
 refine⟨trivial,?_⟩;refine(LY Fence.wide _ trivial rfl _ _ _ _).mono ?_;rintro e w3 ⟨rfl,rfl⟩;have Qr:Mem w ((((P.alloc (H #[C (some ⟨gR,0,none⟩) la rc] 23)).alloc (H (Yb m) 37)).alloc (H #[C (some ⟨P.heap.size+1,0,none⟩) m m] 23)).alloc (H #[C (some ⟨P.heap.size+1,0,none⟩) m m] 23)) (E1 w pa qa la pc lb U m gR rc P.heap.size (P.heap.size+1) (P.heap.size+1+1) (P.heap.size+1+1+1) ps (List.replicate m 0)):=by
  have h:=((Uu.o.push (.rats (List.replicate m 0)) (Ki _ m)).push (.cell 23 (C (some ⟨P.heap.size+1,0,none⟩) m m)) (cs:=#[C (some ⟨P.heap.size+1,0,none⟩) m m]) ⟨rfl,rfl⟩).push (.cell 23 (C (some ⟨P.heap.size+1,0,none⟩) m m)) (cs:=#[C (some ⟨P.heap.size+1,0,none⟩) m m]) ⟨rfl,rfl⟩;simp only[Ax]at h;exact h
 have Wa:Below (P.alloc (H #[C (some ⟨gR,0,none⟩) la rc] 23)).heap.size (P.alloc (H #[C (some ⟨gR,0,none⟩) la rc] 23)) ((((P.alloc (H #[C (some ⟨gR,0,none⟩) la rc] 23)).alloc (H (Yb m) 37)).alloc (H #[C (some ⟨P.heap.size+1,0,none⟩) m m] 23)).alloc (H #[C (some ⟨P.heap.size+1,0,none⟩) m m] 23)):=
  ((Ba _ _).alloc (by simp only[Ax];omega) _).alloc (by simp only[Ax];omega) _
 have h6:Boxed _ B4 3 (L M (n:Int)):=(Wa.block B4 H5.o.lt).trans H5.o;have hz:((((P.alloc (H #[C (some ⟨gR,0,none⟩) la rc] 23)).alloc (H (Yb m) 37)).alloc (H #[C (some ⟨P.heap.size+1,0,none⟩) m m] 23)).alloc (H #[C (some ⟨P.heap.size+1,0,none⟩) m m] 23)).heap[P.heap.size+1]?=some (H (Yb m) 37 (0,0)):=by
  have e:=BE (P.alloc (H #[C (some ⟨gR,0,none⟩) la rc] 23)) (H (Yb m) 37);rw[Ax]at e;exact(Bh _ _ _ (by simp only[Ax];omega)).trans ((Bh _ _ _ (by simp only[Ax];omega)).trans e)
 have Qi:((((P.alloc (H #[C (some ⟨gR,0,none⟩) la rc] 23)).alloc (H (Yb m) 37)).alloc (H #[C (some ⟨P.heap.size+1,0,none⟩) m m] 23)).alloc (H #[C (some ⟨P.heap.size+1,0,none⟩) m m] 23)).heap.size=P.heap.size+1+1+1+1:=by simp only[Ax]
 obtain⟨W3,ci⟩:=ex ((((P.alloc (H #[C (some ⟨gR,0,none⟩) la rc] 23)).alloc (H (Yb m) 37)).alloc (H #[C (some ⟨P.heap.size+1,0,none⟩) m m] 23)).alloc (H #[C (some ⟨P.heap.size+1,0,none⟩) m m] 23));rw[ci]at Qr h6 hz Qi;rw[ci];simp only[Ax];obtain⟨B5,bt⟩:=ex (P.heap.size);rw[bt]at Qr hz Qi;rw[bt];have Qq:=Ja (show FX w W3 (E1 w pa qa la pc lb U m gR rc B5 (B5+1) (B5+1+1) (B5+1+1+1) ps (List.replicate m 0)) B4 (n:Int) (B5+1) m from
  ⟨Qr,h6,λj hj=>by
   obtain⟨h0,h1,x,h3⟩:=La hj;exact⟨cell_of hz h0,cell_of hz h1,cell_of hz x,cell_of hz h3⟩,by rw[Qi];omega⟩)
 clear Qr Wa h6 hz Qi ci bt Uu H5 c4;gi_wp2_with fail
 have Wc:=Ja (show w.heap.size<=W3.heap.size from Qq.o.1.2.2.size);refine Xd rfl O (gf:=170) (lb:=#[G (some ⟨B5+1+1+1,0,none⟩)]) rfl trivial (Bg Tryz.func170 (by kernel_rfl) rfl)
  (LX Fence.wide _ trivial rfl O (B5+1+1+1) (some ⟨B5+1,0,none⟩) m m (λ_=>I false) (λ_=>C none 0 0) (λ_=>I false) (λ_=>C none 0 0) Ql) (λ_=>rfl)
  (λk W=>FX w W (E1 w pa qa la pc lb U m gR rc B5 (B5+1) (B5+1+1) (B5+1+1+1) (JF ps qs n m k).2 (JF ps qs n m k).1) B4 (n:Int) (B5+1) (m-k)) (λ_ _ _=>False)
  (λk W W' row h hg hr=>h.own (by obtain⟨cs,h1,_⟩:=h.1.rats (i:=6) rfl;exact⟨cs,_,_,h1⟩) hg λr e=>⟨An Wc.o (hr r e).1,(hr r e).2⟩)
  (λc s W W' row h=>h.elim) Qq.o ?rd
  (λk=>{ tmps:=#[T #[C pa la pc],T #[C qa lb U],G (some ⟨w.heap.size,0,none⟩),G (some ⟨w.heap.size+1,0,none⟩),G (some ⟨w.heap.size+1+1,0,none⟩),G (some ⟨w.heap.size+1+1+1,0,none⟩),I false,G (some ⟨B4,0,none⟩),G (some ⟨B5,0,none⟩),G (some ⟨B5+1+1,0,none⟩),L M ((m:Int)-1-k),F,F,F,F,T #[C qa lb U],L M ↑n,L M ↑n,I (decide ((n:Int)<0)),F,F,G (some ⟨w.heap.size,0,none⟩),C pa la pc,C (some ⟨gR,0,none⟩) la rc,C (some ⟨gR,0,none⟩) la rc,L M ↑la,L M ↑n,L M ↑m,L M ↑m,C (some ⟨B5+1,0,none⟩) m m,C (some ⟨B5+1,0,none⟩) m m,.func (.func 170) #[] #[G (some ⟨B5+1+1+1,0,none⟩)],L M ((m:Int)-1-k),T #[I false,C none 0 0,I false,C none 0 0],F,F,F,F,F,F,F,F,F,F,F,F,F,F,F,F,F,F,F,F,F,F,F,F,F,F,F,F,F,F,F,F,F,F,F,F,F,F,F,F,F,F,F,F,F,F,F],defers:=[] }) ?assign ?body ?done ?stop
 case stop=>intro D c k W _ _ h;exact h.elim
 case rd=>
  intro k W h;refine⟨(h.1.cell (i:=8) rfl).1.cell,λhk=>?_⟩;obtain⟨h0,h1,x,h3⟩:=h.2.2.1 (m-1-k) O;exact⟨B5+1,rfl,h0,h1,x,h3⟩
 case assign=>
  intro l k W K hK;unfold Iz;gi_wp2;exact hK
 case body=>
  intro l k W hS hk Qi;obtain⟨fb,bq,rfl,dz,q0,q1,q2,q3⟩:=HQ.o n (by have:=HN.o;omega);have Uz:=Ja (show ∀j,j<lb->∀V,Bl w V->(V.cell? ⟨bq,j*4,none⟩=some (I (s' j))/\V.cell? ⟨bq,j*4+1,none⟩=some (C (aq j) (ba j) (ax j))/\V.cell? ⟨bq,j*4+2,none⟩=some (I (t' j))/\V.cell? ⟨bq,j*4+3,none⟩=some (C (aw j) (az j) (ay j)))/\Jh V (T #[I (s' j),C (aq j) (ba j) (ax j),I (t' j),C (aw j) (az j) (ay j)]) (cf qs j)from λj hj V hB=>by
   obtain⟨hi,b,e,hb,c0,c1,c2,c3⟩:=HQ.o j hj;cases e;exact⟨⟨(hB.cell (p:=⟨bq,_,none⟩) hb).trans c0,(hB.cell (p:=⟨bq,_,none⟩) hb).trans c1,(hB.cell (p:=⟨bq,_,none⟩) hb).trans c2,(hB.cell (p:=⟨bq,_,none⟩) hb).trans c3⟩,hi.below hB⟩)
  clear fb dz q0 q1 q2 q3;have Qc:cf qs n≠0:=by
   have:=Js Uk.o Uw.o;rwa[show qs.length-1=n by have:=HN.o;have:=Qj.o;omega]at this
  obtain⟨z,fh,bm,aj,bk⟩:=HL.o k O;have Ug:z+(2*A+1)+(z+(2*A+1))<=1000000000:=by have:=bm O;omega
  clear fh;obtain⟨i,hi⟩:=ex (m-(k+1):Nat);obtain⟨R,hR⟩:=ex ((JF ps qs n m k).2);obtain⟨Q,hQ⟩:=ex ((JF ps qs n m k).1);have Wj:R.length=la:=by rw[<-hR,(YS ps qs n m k).2];exact Qg.o.symm
  have Wq:Q.length=m:=by rw[<-hQ];exact(YS ps qs n m k).1
  rw[hR,hQ]at hS;rw[hR]at aj;obtain⟨t0,dm⟩:=ex (i+n:Nat);obtain⟨c,hc⟩:=ex (cf R t0/cf qs n);have Uy:JF ps qs n m (k+1)=(Q.set i c,YJ R i (-c) qs qs.length):=by rw[JF];simp only[hR,hQ,hi,dm,hc]
  have Qe:DQ (z+A) c:=by rw[<-hc];exact(aj t0).div2 (Qu.o n) Qc
  obtain⟨Wt,Qo,Ub⟩:=Db (show Sq c from Sq.of Qe O) (show ∀j,Sq (cf qs j)from λj=>Sq.of (Qu.o j) O) (show ∀j,Sq (c*cf qs j)from λj=>Sq.of (Qe.mul2 (Qu.o j)) O);have Wk:=Ja (show ∀j t,Sq (cf (YJ R i (-c) qs j) t)from λj t=>by
   rcases Ll R i (-c) qs j t with e|e
   . rw[e];exact Sq.of (aj t) O
   . rw[e];exact Sq.of ((aj t).add2 (Qe.neg.mul2 (Qu.o _))) O)
  obtain⟨Uf,Wh,Ws,Uh,Qf⟩:=Gb (show Sq (cf R t0)from Sq.of (aj t0) O) hc Qc Uy (show R.length=la/\Q.length=m/\t0<la/\i<m/\m-k=i+1/\m-(k+1)=i by have:=HN.o;omega);have We:(m:Int)-1-(k:Int)=(i:Int):=O
  have fi:(i:Int)+(n:Int)=(t0:Int):=O
  have gh:IntKind.i64.wrap (t0:Int)=(t0:Int):=by rw[BO];have:=HN.o;omega
  have ga:(t0:Int)<(la:Int):=by have:=Qf.o;omega
  have ft:(n:Int)<(lb:Int):=by have:=HN.o;omega
  have fk:(i:Int)<(m:Int):=by have:=Qf.o;omega
  rw[We];have Qm:F8 false w W W.drew (E1 w pa (some ⟨bq,0,none⟩) la pc lb U m gR rc B5 (B5+1) (B5+1+1) (B5+1+1+1) R Q) B4 (n:Int) (B5+1) (m-k) F:=⟨λ_=>⟨hS.below ((BF _ W).drew),XB ((BF _ W).drew)⟩,λe=>by cases e⟩;clear hS hi hR hQ Wj Wq dm hc Qe bm aj bk Ug Qc Uy We Qi Qq;gi_wp2_with fail
  refine JU Uc [[],[],[],[1,2],[0,3],[4],[],[6],[],[7,8],[9],[5,10],[11],[12],[12],[],[15,13,11,0,1,2,3,4,5,6,7,8,9,10,11,12,13,15],[14,16,0,1,2,3,4,5,6,7,8,9,10,11,12,13,14,15,16]] (by kernel_rfl) DF
   (λD ah V=>∃(td te tg ti tj tk tl tm tn tp tq tr tc ts tt ta tb:S),ah={ tmps:=#[T #[C pa la pc],T #[C (some ⟨bq,0,none⟩) lb U],G (some ⟨w.heap.size,0,none⟩),G (some ⟨w.heap.size+1,0,none⟩),G (some ⟨w.heap.size+1+1,0,none⟩),G (some ⟨w.heap.size+1+1+1,0,none⟩),I false,G (some ⟨B4,0,none⟩),G (some ⟨B5,0,none⟩),G (some ⟨B5+1+1,0,none⟩),L M ↑i,ta,tb,F,F,T #[C (some ⟨bq,0,none⟩) lb U],L M ↑n,L M ↑n,I (decide (↑n<0)),F,F,G (some ⟨w.heap.size,0,none⟩),C pa la pc,C (some ⟨gR,0,none⟩) la rc,C (some ⟨gR,0,none⟩) la rc,L M ↑la,L M ↑n,L M ↑m,L M ↑m,C (some ⟨B5+1,0,none⟩) m m,C (some ⟨B5+1,0,none⟩) m m,.func (.func 170) #[] #[G (some ⟨B5+1+1+1,0,none⟩)],L M ↑i,T #[I false,C none 0 0,I false,C none 0 0],tc,td,te,tg,ti,tj,tk,tl,tm,tn,tp,tq,tr,ts,tt,F,F,F,F,F,F,F,F,F,F,F,F,F,F,F,F,F,F,F,F,F,F,F,F,F,F,F,F,F,F,F,F],defers:=[] }/\Hid ((D 0=true->td=C (some ⟨gR,0,none⟩) la rc)/\(D 1=true->te=L M (i:Int))/\(D 2=true->tg=L M (n:Int))/\(D 3=true->ti=L M (t0:Int))/\(D 4=true->tj=G (some ⟨gR,t0*4,none⟩))/\(D 5=true->D 16=false->Jh V tk (cf R t0))/\(D 6=true->tl=G (some ⟨w.heap.size+1,0,none⟩))/\(D 7=true->tm=C (some ⟨bq,0,none⟩) lb U)/\(D 8=true->tn=L M (n:Int))/\(D 9=true->tp=G (some ⟨bq,n*4,none⟩))/\(D 10=true->D 16=false->Jh V tq (cf qs n))/\(D 11=true->D 16=false->Jx V tr c)/\(D 12=true->Hq (D 16) V tc c)/\(D 13=true->D 16=false->Jh V ts c)/\(D 14=true->tt=I true)/\(D 15=true->I9 V)/\(D 17=true->tb=I true))/\Hid ((D 16=false->F8 (D 15) w W V (E1 w pa (some ⟨bq,0,none⟩) la pc lb U m gR rc B5 (B5+1) (B5+1+1) (B5+1+1+1) R Q) B4 (n:Int) (B5+1) (m-k) ta)/\(D 16=true->Lm w W V (E1 w pa (some ⟨bq,0,none⟩) la pc lb U m gR rc B5 (B5+1) (B5+1+1) (B5+1+1+1) R Q) B4 (n:Int) (B5+1) (m-k) ta c)))
   (EL ⟨_,rfl,Ja Z,Ja ⟨λ_=>Qm,Z⟩⟩) ?step1 ?fin1
  case step1=>
   rintro D ah V i ds ae hi f y ⟨td,te,tg,ti,tj,tk,tl,tm,tn,tp,tq,tr,tc,ts,tt,ta,tb,rfl,d,g⟩;have Up:i<18:=(Ac.1 hi).1;obtain rfl|rfl|rfl|rfl|rfl|rfl|rfl|rfl|rfl|rfl|rfl|rfl|rfl|rfl|rfl|rfl|rfl|rfl:=KK i O
   all_goals
    simp only[Ai,Ag,Ak]at hi;subst hi
   . have q:=g.o.1 (DI ae y);have hB:=q.base;have e5:=(hB.1.1.cell (i:=5) rfl).1.cell;clear f;refine DW ?_;exact⟨(De d),g⟩
   . clear f;refine DW ?_;exact⟨(Dh d),g⟩
   . have q:=g.o.1 (DI ae y);have hB:=q.base;have e4:=hB.1.2.1.cell;clear f;refine DW ?_;exact⟨(DZ d),g⟩
   . obtain rfl:=d.o.2.1 (f 1 Z);obtain rfl:=d.o.2.2.1 (f 2 Z);clear f;refine DW ?_;exact⟨(Df (DZ (Dh d))),g⟩
   . obtain rfl:=d.o.1 (f 0 Z);obtain rfl:=d.o.2.2.2.1 (f 3 Z);clear f;refine DW ?_;exact⟨(Du (Df (De d))),g⟩
   . have q:=g.o.1 (DI ae y);obtain rfl:=d.o.2.2.2.2.1 (f 4 Z);have hB:=q.base;obtain⟨xa,xb,xc,xd,e0,e1,e2,e3,hr⟩:=(hB.1.1.rats (i:=4) rfl).at (j:=t0) (by have:=Qf.o;omega);clear f;refine DW ?_;exact⟨(Dw (Du d) λ_ _=>hr),g⟩
   . clear f;refine DW ?_;exact⟨(Dz d),g⟩
   . have q:=g.o.1 (DI ae y);obtain rfl:=ED d (f 6 Z);have hB:=q.base;have e1:=(hB.1.1.cell (i:=1) rfl).1.cell;clear f;refine DW ?_;exact⟨(EM (Dz d)),g⟩
   . have q:=g.o.1 (DI ae y);have hB:=q.base;have e4:=hB.1.2.1.cell;clear f;refine DW ?_;exact⟨(EN d),g⟩
   . obtain rfl:=ET d (f 7 Z);obtain rfl:=Ed d (f 8 Z);clear f;refine DW ?_;exact⟨(Et (EN (EM d))),g⟩
   . have q:=g.o.1 (DI ae y);obtain rfl:=F3 d (f 9 Z);have hB:=q.base;obtain⟨⟨e0,e1,e2,e3⟩,hr⟩:=Uz.o n O V hB.1.1.2.2;clear f;refine DW ?_;exact⟨(Dq (Et d) λ_ _=>hr),g⟩
   . have Qa:D 16=false:=DI ae y;have h0:=Dn d (f 5 Z) Qa;have h1:=EE d (f 10 Z) Qa;clear f;have HC:=Ja λ(n9:Nat)=>Bf l ((BH (n:=n9)).2 (QD _ _ (cf R t0) (cf qs n) V h0 h1 Uf.o (Qo.o n)));clear h0 h1;refine BM rfl λK hK=>?_;go_simp;gi_wp2_with(refine⟨trivial,?_⟩;gi_at_call 75;refine(HC.o _).mono ?_;rintro e w5 ⟨v5,rfl,am,ad⟩)
     obtain⟨G0,G1,G2,G3,G4,G5,G6,G7,G8,G9,an,_,ap,bf,ak,dt,bg⟩:=d.o;exact EL ⟨_,rfl,Ja ⟨G0,G1,G2,G3,G4,λh x=>(G5 h x).below ad,G6,G7,G8,G9,λh x=>(an h x).below ad,λ_ _=>⟨v5,by simp[Ws.o],by rw[<-Wh.o];exact am⟩,λh=>(ap h).below ad,λh x=>(bf h x).below ad,ak,λh=>(dt h).below ad,bg⟩,Ja ⟨λh=>(g.o.1 h).below ad,λh=>(g.o.2 h).below ad⟩⟩
   . have Qa:D 16=false:=DI ae y;have h0:=EZ d (f 11 Z) Qa;clear f;refine DW ?_;exact⟨(D3 d λ_=>(show Hq (D 16) V _ c from by obtain⟨u,e,h⟩:=h0;exact⟨u,e,λ_=>h⟩)),g⟩
   . have Qa:D 16=false:=DI ae y;have h0:=Ek d (f 12 Z);obtain⟨u0,rfl,g0⟩:=h0;clear f;refine DW ?_;exact⟨(EC d λ_ _=>g0 Qa),g⟩
   . have h0:=Ek d (f 12 Z);obtain⟨u0,rfl,g0⟩:=h0;clear f;refine DW ?_;exact⟨(EY d),g⟩
   . have Qa:D 16=false:=DI ae y;have q:=g.o.1 Qa;clear f;refine DW ?_;obtain⟨G0,G1,G2,G3,G4,G5,G6,G7,G8,G9,an,bc,ap,bf,ak,_,bg⟩:=d.o;exact⟨Ja ⟨G0,G1,G2,G3,G4,λh x=>(G5 h x).below (Ba V _),G6,G7,G8,G9,λh x=>(an h x).below (Ba V _),λh x=>(bc h x).below (Ba V _),λh=>(ap h).below (Ba V _),λh x=>(bf h x).below (Ba V _),ak,λ_=>trivial,bg⟩,Ja ⟨λ_=>(show F8 true w W _ (E1 w pa (some ⟨bq,0,none⟩) la pc lb U m gR rc B5 (B5+1) (B5+1+1) (B5+1+1+1) R Q) B4 (n:Int) (B5+1) (m-k) _ from F8.alloc (by rw[y]at q;exact q)),λh=>by simp[Qa]at h⟩⟩
   . have q:=g.o.1 y;have h0:=GJ d (f 13 Z) y;obtain⟨Bc,rfl,hM⟩:=q.2 (f 15 Z);obtain⟨s9,a9,l9,c9,t9,b9,k9,d9,rfl⟩:=Jh.form h0;obtain⟨s8,a8,l8,c8,t8,b8,k8,d8,n8,r8,i8,j8⟩:=hM.1.1.rat (i:=9) rfl;obtain⟨e0,e1,e2,e3⟩:=n8.cq;obtain⟨f0,f1,f2,f3⟩:=n8.fq;clear f;refine DW ?_;obtain⟨G0,G1,G2,G3,G4,_,G6,G7,G8,G9,_,_,ap,_,ak,_,bg⟩:=d.o;exact⟨Ja ⟨G0,G1,G2,G3,G4,λ_ h=>by simp at h,G6,G7,G8,G9,λ_ h=>by simp at h,λ_ h=>by simp at h,λh=>(ap h).drop _,λ_ h=>by simp at h,ak,λ_=>trivial,bg⟩,Ja ⟨λh=>by simp at h,λ_=>⟨Bc,rfl,hM.1.upd (hM.1.1.putRat (i:=9) rfl h0) (bD _ _ _ _ _ _) (Nz hM.1.2.1 n8) (hM.1.1.ne 6 9 rfl rfl DF),hM.2.trans (Nc _ _ _ _ _ _)⟩⟩⟩
   . obtain rfl:=Gr d (f 14 Z);clear f;refine DW ?_;exact⟨(IL (EY d)),g⟩
  case fin1=>
   rintro D ah V ai ⟨td,te,tg,ti,tj,tk,tl,tm,tn,tp,tq,tr,tc,ts,tt,ta,tb,rfl,d,g⟩;obtain⟨Bc,rfl,hM⟩:=g.o.2 (ai 16 DF);obtain rfl:=d.o.2.2.2.2.2.2.2.2.2.2.2.2.2.2.2.2 (ai 17 DF);have HM:=Ja hM;clear d g ai hM;obtain⟨s8,a8,l8,c8,t8,b8,k8,d8,n8,r8,i8,j8⟩:=HM.o.1.1.rat (i:=9) rfl;obtain⟨e0,e1,e2,e3⟩:=n8.cq;have e6:=(HM.o.1.1.cell (i:=7) rfl).1.cell;have hE:=HM.o.1.1.rats (i:=6) rfl;obtain⟨z0,z1,z2,z3⟩:=HM.o.1.2.2.1 i (by have:=Qf.o;omega);have f0:=hE.frozen (i*4);have f1:=hE.frozen (i*4+1);have f2:=hE.frozen (i*4+2);have f3:=hE.frozen (i*4+3);have Qw:=Ja (show FY w W (putAt V (B5+1) (i*4) (I s8) (C a8 l8 c8) (I t8) (C b8 k8 d8)) (E1 w pa (some ⟨bq,0,none⟩) la pc lb U m gR rc B5 (B5+1) (B5+1+1) (B5+1+1+1) R (Q.set i c)++[some (Bc,.rat c)]) B4 (n:Int) (B5+1) i from by
    have hp:=HM.o.1.1.putRats (i:=6) rfl (j:=i) (by have:=Qf.o;omega) r8;obtain⟨cs,Qe,_⟩:=hE;refine⟨⟨hp,(Kc (Nz HM.o.1.2.1 Qe) _ _ _ _).trans HM.o.1.2.1,ZQ.put (by have h:=HM.o.1.2.2.1;rwa[Qf.o.2.2.2.2.1]at h) _ _ _ _,?_⟩,HM.o.2.trans (QK _ _ _ _ _ _ _)⟩;exact(Ab.1 (P2 Qe _ _ _ _)).1)
   have c9:=(Qw.o.1.1.cell (i:=1) rfl).1.cell;unfold putAt at c9;clear n8 i8 j8 hE r8 HM;gi_wp2_with fail
   obtain⟨W9,bl⟩:=ex (putAt V (B5+1) (i*4) (I s8) (C a8 l8 c8) (I t8) (C b8 k8 d8));rw[bl]at Qw;unfold putAt at bl;rw[bl];clear bl c9 e0 e1 e2 e3 e6 z0 z1 z2 z3 f0 f1 f2 f3;gi_loopw [56] (λjv wr=>∃j:Nat,j<=lb/\jv=L M (j:Int)/\Hid (FY w W wr (E1 w pa (some ⟨bq,0,none⟩) la pc lb U m gR rc B5 (B5+1) (B5+1+1) (B5+1+1+1) (YJ R i (-c) qs j) (Q.set i c)++[some (Bc,.rat c)]) B4 (n:Int) (B5+1) i)) λjv _=>lb-(intOf jv).toNat
   case atStart=>exact⟨0,AO _,rfl,Qw⟩
   case round=>
    obtain⟨j,hj,rfl,HJ⟩:=hrel;clear Qw;by_cases fc:j<lb
    . have fl:(j:Int)<(lb:Int):=O
      obtain⟨⟨e0,e1,e2,e3⟩,dk⟩:=Uz.o j fc wr HJ.o.1.1.2.2;have Uq:=Ja dk;obtain⟨t1,fg⟩:=ex (i+j:Nat);have fj:(i:Int)+(j:Int)=(t1:Int):=O
      have Qt:=Ja (show t1<la/\t1=i+j by have:=Qf.o;have:=HN.o;omega);have gi:IntKind.i64.wrap (t1:Int)=(t1:Int):=by rw[BO];have:=Qt.o;omega
      have gb:(t1:Int)<(la:Int):=by have:=Qt.o;omega
      clear dk fg;gi_wp2_with fail
      have Qs:FY w W (wr.alloc (H #[I (s' j),C (aq j) (ba j) (ax j),I (t' j),C (aw j) (az j) (ay j)] 37)) (E1 w pa (some ⟨bq,0,none⟩) la pc lb U m gR rc B5 (B5+1) (B5+1+1) (B5+1+1+1) (YJ R i (-c) qs j) (Q.set i c)++[some (Bc,.rat c)]++[some (wr.heap.size,.rat (cf qs j))]) B4 (n:Int) (B5+1) i:=by
       have h1:=HJ.o.below (Ba wr (H #[I (s' j),C (aq j) (ba j) (ax j),I (t' j),C (aw j) (az j) (ay j)] 37));exact⟨⟨HJ.o.1.1.push (.rat (cf qs j)) Uq.o,h1.1.2⟩,h1.2⟩
      obtain⟨Wd,cj⟩:=ex (wr.alloc (H #[I (s' j),C (aq j) (ba j) (ax j),I (t' j),C (aw j) (az j) (ay j)] 37));obtain⟨Bd,bu⟩:=ex (wr.heap.size);rw[cj,bu]at Qs;rw[cj,bu];obtain⟨X,hX⟩:=ex (YJ R i (-c) qs j);rw[hX]at Qs;have Qz:=Ja (show t1<X.length by rw[<-hX,Yx];have:=Qf.o;have:=Qt.o;omega);have Wm:=Ja (show Sq (cf X t1)by rw[<-hX];exact Wk.o j t1);have Wp:=Ja (show X.set t1 (cf X t1-c*cf qs j)=YJ R i (-c) qs (j+1)by
       rw[YJ,hX,<-Qt.o.2,show cf X t1-c*cf qs j=cf X t1+-c*cf qs j by grind])
      have Qm:=Qs.below ((BF _ Wd).drew);clear cj bu hX Qs e0 e1 e2 e3 Uq HJ;refine JU Uc [[],[],[],[1,2],[],[],[],[5,6],[4,7],[8],[],[],[10,11],[9,12,12],[0,3,0,1,2,3,4,5,6,7,8,9,10,11,12,13],[14,13,13,0,1,2,3,4,5,6,7,8,9,10,11,12,13]] (by kernel_rfl) DF
       (λD ah V=>∃(tu tv tw tx ty tz tA tB tC tE tF tG tH tI tJ:S),ah={ tmps:=#[T #[C pa la pc],T #[C (some ⟨bq,0,none⟩) lb U],G (some ⟨w.heap.size,0,none⟩),G (some ⟨w.heap.size+1,0,none⟩),G (some ⟨w.heap.size+1+1,0,none⟩),G (some ⟨w.heap.size+1+1+1,0,none⟩),I false,G (some ⟨B4,0,none⟩),G (some ⟨B5,0,none⟩),G (some ⟨B5+1+1,0,none⟩),L M ↑i,G (some ⟨Bc,0,none⟩),I true,L M ↑j,G (some ⟨Bd,0,none⟩),T #[C (some ⟨bq,0,none⟩) lb U],L M ↑n,L M ↑n,I (decide (n<0)),F,F,G (some ⟨w.heap.size,0,none⟩),C pa la pc,C (some ⟨gR,0,none⟩) la rc,C (some ⟨gR,0,none⟩) la rc,L M ↑la,L M ↑n,L M ↑m,L M ↑m,C (some ⟨B5+1,0,none⟩) m m,C (some ⟨B5+1,0,none⟩) m m,.func (.func 170) #[] #[G (some ⟨B5+1+1+1,0,none⟩)],L M ↑i,T #[I false,C none 0 0,I false,C none 0 0],tc,td,te,tg,ti,tj,tk,tl,tm,tn,tp,tq,tr,ts,tt,C (some ⟨B5+1,0,none⟩) m m,L M ↑i,T #[I s8,C a8 l8 c8,I t8,C b8 k8 d8],G (some { block:=B5+1,off:=i*4 }),G (some ⟨w.heap.size+1,0,none⟩),C (some ⟨bq,0,none⟩) lb U,L M ↑lb,L M ↑j,I true,L M ↑j,G (some { block:=bq,off:=j*4 }),T #[I (s' j),C (aq j) (ba j) (ax j),I (t' j),C (aw j) (az j) (ay j)],tu,tv,tw,tx,ty,tz,tA,tB,tC,tE,tF,tG,tH,tI,tJ,u76,F,F,F,F],defers:=[] }/\Hid ((D 0=true->tu=C (some ⟨gR,0,none⟩) la rc)/\(D 1=true->tv=L M (i:Int))/\(D 2=true->tw=L M (j:Int))/\(D 3=true->tx=L M (t1:Int))/\(D 4=true->ty=C (some ⟨gR,0,none⟩) la rc)/\(D 5=true->tz=L M (i:Int))/\(D 6=true->tA=L M (j:Int))/\(D 7=true->tB=L M (t1:Int))/\(D 8=true->tC=G (some ⟨gR,t1*4,none⟩))/\(D 9=true->D 15=false->Jh V tE (cf X t1))/\(D 10=true->D 15=false->Jh V tF c)/\(D 11=true->D 15=false->Jh V tG (cf qs j))/\(D 12=true->D 15=false->Jh V tH (c*cf qs j))/\(D 13=true->D 15=false->Jh V tI (cf X t1-c*cf qs j))/\(D 14=true->tJ=G (some ⟨gR,t1*4,none⟩)))/\Hid ((D 15=false->FY w W V (E1 w pa (some ⟨bq,0,none⟩) la pc lb U m gR rc B5 (B5+1) (B5+1+1) (B5+1+1+1) (X) (Q.set i c)++[some (Bc,.rat c)]++[some (Bd,.rat (cf qs j))]) B4 (n:Int) (B5+1) i)/\(D 15=true->FY w W V (E1 w pa (some ⟨bq,0,none⟩) la pc lb U m gR rc B5 (B5+1) (B5+1+1) (B5+1+1+1) (X.set t1 (cf X t1-c*cf qs j)) (Q.set i c)++[some (Bc,.rat c)]++[some (Bd,.rat (cf qs j))]) B4 (n:Int) (B5+1) i)))
       (E8 ⟨_,_,_,_,_,_,_,rfl,Ja Z,Ja ⟨λ_=>Qm,Z⟩⟩) ?step2 ?fin2
      case step2=>
       rintro D ah V i ds ae hi f y ⟨tu,tv,tw,tx,ty,tz,tA,tB,tC,tE,tF,tG,tH,tI,tJ,rfl,d,g⟩;have Up:i<16:=(Ac.1 hi).1;obtain rfl|rfl|rfl|rfl|rfl|rfl|rfl|rfl|rfl|rfl|rfl|rfl|rfl|rfl|rfl|rfl:=Hy i O
       all_goals
        simp only[Ai,Ag,Ak]at hi;subst hi
       . have q:=g.o.1 (DI ae y);have e5:=(q.1.1.cell (i:=5) rfl).1.cell;clear f;refine DW ?_;exact⟨(De d),g⟩
       . clear f;refine DW ?_;exact⟨(Dh d),g⟩
       . clear f;refine DW ?_;exact⟨(DZ d),g⟩
       . obtain rfl:=d.o.2.1 (f 1 Z);obtain rfl:=d.o.2.2.1 (f 2 Z);clear f;refine DW ?_;exact⟨(Df (DZ (Dh d))),g⟩
       . have q:=g.o.1 (DI ae y);have e5:=(q.1.1.cell (i:=5) rfl).1.cell;clear f;refine DW ?_;exact⟨(Du d),g⟩
       . clear f;refine DW ?_;exact⟨(Dw d),g⟩
       . clear f;refine DW ?_;exact⟨(Dz d),g⟩
       . obtain rfl:=Dn d (f 5 Z);obtain rfl:=ED d (f 6 Z);clear f;refine DW ?_;exact⟨(EM (Dz (Dw d))),g⟩
       . obtain rfl:=d.o.2.2.2.2.1 (f 4 Z);obtain rfl:=ET d (f 7 Z);clear f;refine DW ?_;exact⟨(EN (EM (Du d))),g⟩
       . have q:=g.o.1 (DI ae y);obtain rfl:=Ed d (f 8 Z);obtain⟨xa,xb,xc,xd,e0,e1,e2,e3,hr⟩:=(q.1.1.rats (i:=4) rfl).at Qz.o;clear f;refine DW ?_;exact⟨(Et (EN d) λ_ _=>hr),g⟩
       . have q:=g.o.1 (DI ae y);obtain⟨s5,a5,l5,c5,t5,b5,k5,d5,n5,r5,i5,j5⟩:=q.1.1.rat (i:=9) rfl;obtain⟨e0,e1,e2,e3⟩:=n5.cq;clear f;refine DW ?_;exact⟨(Dq d λ_ _=>r5),g⟩
       . have q:=g.o.1 (DI ae y);obtain⟨s5,a5,l5,c5,t5,b5,k5,d5,n5,r5,i5,j5⟩:=q.1.1.rat (i:=10) rfl;obtain⟨e0,e1,e2,e3⟩:=n5.cq;clear f;refine DW ?_;exact⟨(Dx d λ_ _=>r5),g⟩
       . have Qa:D 15=false:=DI ae y;have h0:=EE d (f 10 Z) Qa;have h1:=EZ d (f 11 Z) Qa;clear f;have HC:=Ja λ(n9:Nat)=>Bf l ((BH (n:=n9)).2 (Iy _ _ c (cf qs j) V h0 h1 Wt.o (Qo.o j)));clear h0 h1;refine BM rfl λK hK=>?_;go_simp;gi_wp2_with(refine⟨trivial,?_⟩;gi_at_call 91;refine(HC.o _).mono ?_;rintro e w5 ⟨v5,rfl,am,ad⟩)
         obtain⟨G0,G1,G2,G3,G4,G5,G6,G7,G8,G9,an,bc,_,bf,ak⟩:=d.o;exact E8 ⟨_,_,_,_,_,_,_,rfl,Ja ⟨G0,G1,G2,G3,G4,G5,G6,G7,G8,λh x=>(G9 h x).below ad,λh x=>(an h x).below ad,λh x=>(bc h x).below ad,λ_ _=>am,λh x=>(bf h x).below ad,ak⟩,Ja ⟨λh=>(g.o.1 h).below ad,λh=>(g.o.2 h).below ad⟩⟩
       . have Qa:D 15=false:=DI ae y;have h0:=F3 d (f 9 Z) Qa;have h1:=Ek d (f 12 Z) Qa;clear f;have HC:=Ja λ(n9:Nat)=>Bf l ((BH (n:=n9)).2 (LW _ _ (cf X t1) (c*cf qs j) V h0 h1 Wm.o (Ub.o j)));clear h0 h1;refine BM rfl λK hK=>?_;go_simp;gi_wp2_with(refine⟨trivial,?_⟩;gi_at_call 26;refine(HC.o _).mono ?_;rintro e w5 ⟨v5,rfl,am,ad⟩)
         obtain⟨G0,G1,G2,G3,G4,G5,G6,G7,G8,G9,an,bc,ap,_,ak⟩:=d.o;exact E8 ⟨_,_,_,_,_,_,_,rfl,Ja ⟨G0,G1,G2,G3,G4,G5,G6,G7,G8,λh x=>(G9 h x).below ad,λh x=>(an h x).below ad,λh x=>(bc h x).below ad,λh x=>(ap h x).below ad,λ_ _=>am,ak⟩,Ja ⟨λh=>(g.o.1 h).below ad,λh=>(g.o.2 h).below ad⟩⟩
       . obtain rfl:=d.o.1 (f 0 Z);obtain rfl:=d.o.2.2.2.1 (f 3 Z);clear f;refine DW ?_;exact⟨(GI (Df (De d))),g⟩
       . have q:=g.o.1 y;have h0:=GJ d (f 13 Z) y;obtain rfl:=d.o.2.2.2.2.2.2.2.2.2.2.2.2.2.2 (f 14 Z);have hE:=q.1.1.rats (i:=4) rfl;obtain⟨xa,xb,xc,xd,e0,e1,e2,e3,_⟩:=hE.at Qz.o;have f0:=hE.frozen (t1*4);have f1:=hE.frozen (t1*4+1);have f2:=hE.frozen (t1*4+2);have f3:=hE.frozen (t1*4+3);obtain⟨s9,a9,l9,c9,t9,b9,k9,d9,rfl⟩:=Jh.form h0;have Qe:∃cs,V.heap[gR]?=some (H cs 37 (0,0)):=by obtain⟨cs,h1,_⟩:=hE;exact⟨cs,h1⟩
         clear f;refine DW ?_;exact⟨(GI (EC (D3 (Dx (Dq (Et d λ_ h=>by simp at h) λ_ h=>by simp at h) λ_ h=>by simp at h) λ_ h=>by simp at h) λ_ h=>by simp at h)),Ja ⟨λh=>by simp at h,λ_=>⟨q.1.upd (q.1.1.putRats (i:=4) rfl Qz.o h0) (λB hB=>Kc hB _ _ _ _) (by obtain⟨cs,h1⟩:=Qe;exact Nz q.1.2.1 h1) λe=>q.1.1.ne 4 6 rfl rfl DF e.symm,q.2.trans (QK _ _ _ _ _ _ _)⟩⟩⟩
      case fin2=>
       rintro D ah V ai ⟨tu,tv,tw,tx,ty,tz,tA,tB,tC,tE,tF,tG,tH,tI,tJ,rfl,d,g⟩;have h3:=g.o.2 (ai 15 DF);rw[Wp.o]at h3;have HO:=Ja (show FY w W V (E1 w pa (some ⟨bq,0,none⟩) la pc lb U m gR rc B5 (B5+1) (B5+1+1) (B5+1+1+1) (YJ R i (-c) qs (j+1)) (Q.set i c)++[some (Bc,.rat c)]) B4 (n:Int) (B5+1) i from⟨⟨h3.1.1.take 10,h3.1.2⟩,h3.2⟩);clear d g ai h3;gi_wp2_with fail
       go_roundw
       case rel=>exact⟨j+1,O,by go_num,HO⟩
       case measure=>simp[intOf];omega
    . obtain rfl:j=lb:=O
      gi_wp2_with fail
      refine⟨HJ.o.2.from _,?_⟩;have h3:=HJ.o.1.1.take 9;rw[Qj.o]at h3;show FX w wr (E1 w pa _ la pc _ U m gR rc B5 (B5+1) (B5+1+1) (B5+1+1+1) (JF ps qs n m (k+1)).2 (JF ps qs n m (k+1)).1) B4 (n:Int) (B5+1) (m-(k+1));rw[Uh.o,Qf.o.2.2.2.2.2];refine⟨?_,HJ.o.1.2⟩;have Qp:=Qj.o;rw[<-Qp];rw[<-Qp]at h3;exact h3
 case done=>
  intro DC W hD hS hK;have Un:=(YS ps qs n m m).2;have Uv:=(YS ps qs n m m).1;have Qc:cf qs n≠0:=by
   have:=Js Uk.o Uw.o;rwa[show qs.length-1=n by have:=HN.o;have:=Qj.o;omega]at this
  obtain⟨z,Ug,bm,aj,bk⟩:=HL.o m (Aa _);have Ud:Jo ps qs=Jd (JF ps qs n m m).1:=by unfold Jo;rw[show qs.length-1=n by have:=HN.o;have:=Qj.o;omega,show ps.length-n=m by have:=HN.o;have:=Qg.o;omega]
  have Ua:JK ps qs=Jd (JF ps qs n m m).2:=by unfold JK;rw[show qs.length-1=n by have:=HN.o;have:=Qj.o;omega,show ps.length-n=m by have:=HN.o;have:=Qg.o;omega]
  obtain⟨R,hR⟩:=ex ((JF ps qs n m m).2);obtain⟨Q,hQ⟩:=ex ((JF ps qs n m m).1);rw[hR]at Un aj Ua;rw[hQ]at Uv bk Ud;rw[hR,hQ]at hS;have Uf:=Ja (show Sqs R from Sqs.of λi=>Sq.of (aj i) O);have du:=Ja (show Sqs Q from Sqs.of λi=>Sq.of (bk i) O);have Wb:RowK true W (C (some ⟨gR,0,none⟩) la rc) R:=by
   have h:=(hS.1.rats (i:=4) rfl).row (n:=la) (cap:=rc) (by have:=Qg.o;omega) (by have:=Ur.o;omega) (by have:=Ur.o;omega) fe;rwa[Ad (by have:=Qg.o;omega)]at h
  have Us:RowK true W (C (some ⟨B5+1,0,none⟩) m m) Q:=by
   have h:=(hS.1.rats (i:=6) rfl).row (n:=m) (cap:=m) O (Aa _) O Ql;rwa[Ad O]at h
  have Qm:Gw w W.drew DC B5 (B5+1+1) (C (some ⟨gR,0,none⟩) la rc) (C (some ⟨B5+1,0,none⟩) m m) R Q:=
   Gw.below ⟨(hS.1.cell (i:=2) rfl).1,(hS.1.cell (i:=3) rfl).1,(hS.1.cell (i:=5) rfl).1,(hS.1.cell (i:=7) rfl).1,Wb,Us,hS.1.2.2,hK⟩ ((BF _ W).drew)
  have Wu:Lo false w W.drew DC F:=λe=>by cases e
  obtain⟨Wl,Wn,Wo⟩:=Db Ud Ua (show w.heap.size<=DC by have:=Wc.o;omega);clear hS Un Uv bm aj bk Ug Ud Ua hR hQ Qc Wb Us hK Qq;gi_wp2_with fail
  refine JU Uc [[],[0],[],[2,1],[1,3,0,1],[3,4,0,1,2,3,4],[5,0,1,2,3,4,5]] (by kernel_rfl) DF
   (λD ah V=>∃(tK tL tM tN tD:S),ah={ tmps:=#[T #[C pa la pc],T #[C qa lb U],G (some ⟨w.heap.size,0,none⟩),G (some ⟨w.heap.size+1,0,none⟩),G (some ⟨w.heap.size+1+1,0,none⟩),G (some ⟨w.heap.size+1+1+1,0,none⟩),tD,G (some ⟨B4,0,none⟩),G (some ⟨B5,0,none⟩),G (some ⟨B5+1+1,0,none⟩),F,F,F,F,F,T #[C qa lb U],L M ↑n,L M ↑n,I (decide ((n:Int)<0)),F,F,G (some ⟨w.heap.size,0,none⟩),C pa la pc,C (some ⟨gR,0,none⟩) la rc,C (some ⟨gR,0,none⟩) la rc,L M ↑la,L M ↑n,L M ↑m,L M ↑m,C (some ⟨B5+1,0,none⟩) m m,C (some ⟨B5+1,0,none⟩) m m,.func (.func 170) #[] #[G (some ⟨B5+1+1+1,0,none⟩)],F,F,F,F,F,F,F,F,F,F,F,F,F,F,F,F,F,F,F,F,F,F,F,F,F,F,F,F,F,F,F,F,F,F,F,F,F,F,F,F,F,F,F,F,F,tK,tL,tM,tN],defers:={ target:=.collected DC,args:=#[] }::[] }/\Hid ((D 0=true->tK=C (some ⟨B5+1,0,none⟩) m m)/\(D 1=true->D 5=false->Je V tL (Jd Q))/\(D 2=true->tM=C (some ⟨gR,0,none⟩) la rc)/\(D 3=true->D 5=false->Je V tN (Jd R))/\(D 6=true->tD=I true))/\Hid ((D 4=false->Gw w V DC B5 (B5+1+1) (C (some ⟨gR,0,none⟩) la rc) (C (some ⟨B5+1,0,none⟩) m m) R Q)/\(D 4=true->I9 V))/\Hid ((D 5=false->Lo (D 4) w V DC tL)/\(D 5=true->RL w V DC tL tN (Jd Q) (Jd R))))
   ⟨_,_,_,_,_,rfl,Ja Z,Ja ⟨λ_=>Qm,Z⟩,Ja ⟨λ_=>Wu,Z⟩⟩ ?step3 ?fin3
  case step3=>
   rintro D ah V i ds ae hi f y ⟨tK,tL,tM,tN,tD,rfl,d,g,af⟩;have Up:i<7:=(Ac.1 hi).1;obtain rfl|rfl|rfl|rfl|rfl|rfl|rfl:=Hv i O
   all_goals
    simp only[Ai,Ag,Ak]at hi;subst hi
   . have q:=g.o.1 (DI ae y);have Qk:=af.o.1 (DI ae y);have e6:=q.2.2.2.1.cell;clear f;refine DW ?_;exact⟨(De d),g,af⟩
   . have Qa:D 4=false:=DI ae y;have q:=g.o.1 Qa;have Qd:D 5=false:=DI ae y;have Qk:=af.o.1 Qd;obtain rfl:=d.o.1 (f 0 Z);clear f;have HC:=Ja λ(n9:Nat)=>(BH (n:=n9)).2 (Gt _ Q V q.2.2.2.2.2.1 du.o);refine BM rfl λK hK=>?_;go_simp;gi_wp2_with(refine⟨trivial,?_⟩;gi_at_call 39;refine(HC.o _).mono ?_;rintro e w5 ⟨v5,rfl,am,_,ad⟩)
     exact⟨_,_,_,_,_,rfl,Ja ⟨λ_=>rfl,λ_ _=>am,d.o.2.2.1,λh x=>(d.o.2.2.2.1 h x).below ad,d.o.2.2.2.2⟩,Ja ⟨λh=>(g.o.1 h).below ad,λh=>(g.o.2 h).below ad⟩,Ja ⟨λ_=>(λe=>by simp[Qa]at e),λh=>by simp[Qd]at h⟩⟩
   . have Qa:D 4=false:=DI ae (DI (a:=3) ae y);have q:=g.o.1 Qa;have Qk:=af.o.1 (DI ae y);have e5:=q.2.2.1.cell;clear f;refine DW ?_;exact⟨Ja ⟨d.o.1,d.o.2.1,λ_=>rfl,d.o.2.2.2.1,d.o.2.2.2.2⟩,g,af⟩
   . have Qa:D 4=false:=DI ae y;have q:=g.o.1 Qa;have Qd:D 5=false:=DI ae y;have Qk:=af.o.1 Qd;obtain rfl:=d.o.2.2.1 (f 2 Z);clear f;have HC:=Ja λ(n9:Nat)=>(BH (n:=n9)).2 (Gt _ R V q.2.2.2.2.1 Uf.o);refine BM rfl λK hK=>?_;go_simp;gi_wp2_with(refine⟨trivial,?_⟩;gi_at_call 39;refine(HC.o _).mono ?_;rintro e w5 ⟨v5,rfl,am,_,ad⟩)
     exact⟨_,_,_,_,_,rfl,Ja ⟨d.o.1,λh x=>(d.o.2.1 h x).below ad,λ_=>rfl,λ_ _=>am,d.o.2.2.2.2⟩,Ja ⟨λh=>(g.o.1 h).below ad,λh=>(g.o.2 h).below ad⟩,Ja ⟨λ_=>(λe=>by simp[Qa]at e),λh=>by simp[Qd]at h⟩⟩
   . have q:=g.o.1 y;have Qd:D 5=false:=DI ae y;have Qk:=af.o.1 Qd;have h0:=d.o.2.1 (f 1 Z) Qd;obtain⟨a9,l9,c9,rfl⟩:=Je.form h0;have Qn:=q.1;have e0:=Qn.cell;have f0:=Qn.frozen;have Qy:w.heap.size+1+1+1≠w.heap.size+1+1:=O
     clear f;refine DW ?_;obtain⟨G0,G1,G2,G3,G4⟩:=d.o;exact⟨Ja ⟨G0,λh x=>(G1 h x).setP Qn _,G2,λh x=>(G3 h x).setP Qn _,G4⟩,Ja ⟨λh=>by simp at h,λ_=>trivial⟩,Ja ⟨λ_=>(λ_=>⟨_,rfl,Qn.set _,(BD V ⟨w.heap.size+1+1,0,none⟩ _ _ Qy).trans q.2.1,q.2.2.2.2.2.2.1.setCell (p:=⟨w.heap.size+1+1,0,none⟩) (by show w.heap.size<=w.heap.size+1+1;omega) _,(BI V ⟨w.heap.size+1+1,0,none⟩ _).same DC _ q.2.2.2.2.2.2.2 rfl⟩),λh=>by simp[Qd]at h⟩⟩
   . have Qk:=af.o.1 y;have h0:=d.o.2.1 (f 1 Z) y;have h1:=d.o.2.2.2.1 (f 3 Z) y;have Wr:=f 4 Z;obtain⟨v2,rfl,bh,bi,ck,bj⟩:=Qk (f 4 Z);obtain⟨a9,l9,c9,rfl⟩:=Je.form h1;have e0:=bi.cell;have f0:=bi.frozen;have Qy:w.heap.size+1+1≠w.heap.size+1+1+1:=O
     clear f;refine DW ?_;exact⟨Ja ⟨d.o.1,λ_ h=>by simp at h,d.o.2.2.1,λ_ h=>by simp at h,d.o.2.2.2.2⟩,Ja ⟨λh=>by simp[Wr]at h,λ_=>trivial⟩,Ja ⟨λh=>by simp at h,λ_=>⟨_,_,rfl,rfl,(BD V ⟨w.heap.size+1+1+1,0,none⟩ _ _ Qy).trans bh,bi.set _,h0.setP bi _,h1.setP bi _,ck.setCell (p:=⟨w.heap.size+1+1+1,0,none⟩) (by show w.heap.size<=w.heap.size+1+1+1;omega) _,(BI V ⟨w.heap.size+1+1+1,0,none⟩ _).same DC _ bj rfl⟩⟩⟩
   . clear f;refine DW ?_;exact⟨Ja ⟨d.o.1,d.o.2.1,d.o.2.2.1,d.o.2.2.2.1,λ_=>rfl⟩,g,af⟩
  case fin3=>
   rintro E ah V ai ⟨tK,tL,tM,tN,tD,rfl,d,g,af⟩;obtain⟨v,v',rfl,rfl,g2,g3,f9,fa,ck,bj⟩:=af.o.2 (ai 5 DF);obtain rfl:=d.o.2.2.2.2 (ai 6 DF);clear d g af ai;gi_wp2;refine⟨Z,.inl ⟨_,_,rfl,BR bj,?_⟩⟩;have hg:=BU V DC (.deferred none);have Qv:∀r,some DC=some r->∃o:Obj,V.heap[r]?=some o/\o.isCells=false:=λr e=>by cases e;exact⟨_,bj,rfl⟩
   have q2:Boxed _ (w.heap.size+1+1) 25 v:=Yc hg Qv (show Bx V (w.heap.size+1+1) 25 #[v]from g2);have q3:Boxed _ (w.heap.size+1+1+1) 25 v':=Yc hg Qv (show Bx V (w.heap.size+1+1+1) 25 #[v']from g3);have x2:=q2.cell;have x3:=q3.cell;refine⟨.tuple #[T #[v],T #[v'],I true],by simp[results,Tryz.results139,go_sem,x2,x3],_,_,rfl,?_,?_,?_⟩
   . rw[Wl.o];obtain⟨u,e,h⟩:=f9;exact⟨u,e,Hj hg Qv h⟩
   . rw[Wn.o];obtain⟨u,e,h⟩:=fa;exact⟨u,e,Hj hg Qv h⟩
   . exact ck.trans (Bz (w:=w) (Aa _) _ DC _ _ Wo.o bj rfl rfl)
end Go.Proofs.YtakpoihdghihmaaGreatDoor.M3
