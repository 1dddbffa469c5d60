import Derived.Test.YteldjhhjnchdeaaGreatDoorW40
open Go.Value renaming slice->C,pointer->G,bool->I,int->L,agg->T
open Go renaming undef->F,World->N,Value->S
open Go.Obj renaming cells->H
open Go.IntKind renaming i64->M
set_option maxRecDepth 100000
set_option maxHeartbeats 16000000
namespace Go.Proofs.YteldjhhjnchdeaaGreatDoor.M3
open Go.RowKit Go.Shelf
attribute [local go_sem] Oper.semAt_some
def ZQ(V:N)(g r:Nat):Prop:=∀j,j<r->V.cell? ⟨g,j*4,none⟩=some (I false)/\V.cell? ⟨g,j*4+1,none⟩=some (C none 0 0)/\V.cell? ⟨g,j*4+2,none⟩=some (I false)/\V.cell? ⟨g,j*4+3,none⟩=some (C none 0 0)
variable{d:Bool}{n:Int}{bs:List (Option (Nat × Dat))}{B B4 X g gQ r:Nat}{t v:S}{V V' w:N}
theorem ZQ.of(h:ZQ V g r)(e:V'.heap[g]?=V.heap[g]?):ZQ V' g r:=λj i=>by
 obtain⟨b,c,d,f⟩:=h j i;exact⟨(BQ (w:=V) (a:=⟨g,_,none⟩) e).trans b,(BQ (w:=V) (a:=⟨g,_,none⟩) e).trans c,(BQ (w:=V) (a:=⟨g,_,none⟩) e).trans d,(BQ (w:=V) (a:=⟨g,_,none⟩) e).trans f⟩
def Ew(w V:N)(bs:List (Option (Nat × Dat)))(B4:Nat)(n:Int)(gQ r:Nat):Prop:=Mem w V bs/\Boxed V B4 3 (.int M n)/\ZQ V gQ r/\gQ<V.heap.size
theorem Ew.below{w V V':N}{bs:List (Option (Nat × Dat))}{B4:Nat}{n:Int}{gQ r:Nat}(h:Ew w V bs B4 n gQ r)(a:Bl V V'):Ew w V' bs B4 n gQ r:=
 ⟨h.1.below a,(a.block B4 h.2.1.lt).trans h.2.1,h.2.2.1.of (a.block gQ h.2.2.2),AC h.2.2.2 a.size⟩
theorem Ew.own{w V V':N}{bs:List (Option (Nat × Dat))}{B4:Nat}{n:Int}{gQ r:Nat}{row:Option Nat}(h:Ew w V bs B4 n gQ r)(g:∃cs t m,V.heap[gQ]?=some (H cs t m))(a:V.grownBy V' row)(d:∀x,row=some x->w.heap.size<=x/\∃o:Obj,V.heap[x]?=some o/\o.isCells=false):Ew w V' bs B4 n gQ r:=by
 have b:∀r,row=some r->∃o:Obj,V.heap[r]?=some o/\o.isCells=false:=λr e=>(d r e).2;refine⟨h.1.own a d,Y8 a b (show Bx V B4 3 #[L M n]from h.2.1),h.2.2.1.of ?_,AC h.2.2.2 a.size⟩;obtain⟨cs,t,m,e⟩:=g;refine a.block gQ h.2.2.2 λf=>?_;obtain⟨o,c,i⟩:=b gQ f.symm;rw[e]at c;cases c;cases i
theorem I4(V:N)(m:Nat):Has V (T (J4 m)) (.rats (List.replicate m 0)):=by
 refine⟨J4 m,rfl,λj a=>?_⟩;rw[Au]at a;obtain⟨b,c,d,e⟩:=Kt a;exact⟨_,_,_,_,b,c,d,e,by rw[JS];exact EH _⟩
def Em(w:N)(c e:Option Addr)(la d lb f m gR rc B5 gQ a b:Nat)(R Q:List Rat):List (Option (Nat × Dat)):=
 [some (w.heap.size,.cell 25 (C c la d)),some (w.heap.size+1,.cell 25 (C e lb f)),some (w.heap.size+1+1,.cell 25 (C Option.none 0 0)),some (w.heap.size+1+1+1,.cell 25 (C Option.none 0 0)),
  some (gR,.rats R),some (B5,.cell 23 (C (some ⟨gR,0,Option.none⟩) la rc)),some (gQ,.rats Q),some (a,.cell 23 (C (some ⟨gQ,0,Option.none⟩) m m)),some (b,.cell 23 (C (some ⟨gQ,0,Option.none⟩) m m))]
theorem ZS(p:List Rat)(i:Nat)(c:Rat)(j:Nat):cf (p.set i c) j=c\/cf (p.set i c) j=cf p j:=by
 by_cases h:i<p.length
 . rw[XC _ _ _ _ h];split
   . exact Or.inl rfl
   . exact Or.inr rfl
 . rw[C4 Y];exact Or.inr rfl
theorem Ew.upd{bs':List (Option (Nat × Dat))}(h:Ew w V bs B4 n gQ r)(f:Mem w V' bs')(b:∀B,B≠X->V'.heap[B]?=V.heap[B]?)(c:B4≠X)(d:gQ≠X):Ew w V' bs' B4 n gQ r:=by
 have e:=b gQ d;refine⟨f,(b B4 c).trans h.2.1,h.2.2.1.of e,?_⟩;refine Nat.lt_of_not_le λhle=>?_;have a:=Array.getElem?_eq_none_iff.2 hle;rw[e]at a;exact absurd (Array.getElem?_eq_none_iff.1 a) (by have:=h.2.2.2;omega)
def Ex(w W V:N)(bs:List (Option (Nat × Dat)))(B4:Nat)(n:Int)(gQ r:Nat):Prop:=Ew w V bs B4 n gQ r/\KeepsOthers W V
theorem Ex.below{w W V V':N}{bs:List (Option (Nat × Dat))}{B4:Nat}{n:Int}{gQ r:Nat}(h:Ex w W V bs B4 n gQ r)(a:Bl V V'):Ex w W V' bs B4 n gQ r:=⟨h.1.below a,h.2.trans (Yg a)⟩
theorem Ms{cs:Array S}{m:Nat × Nat}(h:Boxed V B4 3 v)(a:V.heap[X]?=some (H cs 65 m)):B4≠X:=λe=>by
 subst e;have:=a.symm.trans h;simp only[Al,Bn]at this;exact absurd this.2.1 DL
theorem ZT(V:N)(C:Nat)(x y z u:S)(B:Nat)(h:B≠C):(put4 V C x y z u).heap[B]?=V.heap[B]?:=
 (BC _ ⟨C,3,none⟩ u B h).trans ((BC _ ⟨C,2,none⟩ z B h).trans ((BC _ ⟨C,1,none⟩ y B h).trans (BC V ⟨C,0,none⟩ x B h)))
def Fqq(d:Bool)(w W V:N)(bs:List (Option (Nat × Dat)))(B4:Nat)(n:Int)(gQ r:Nat)(t:S):Prop:=
 (d=false->Ex w W V bs B4 n gQ r)/\(d=true->∃a,t=G (some ⟨a,0,none⟩)/\Ex w W V (bs++[some (a,.rat 0)]) B4 n gQ r)
def K0(w W V:N)(bs:List (Option (Nat × Dat)))(B4:Nat)(n:Int)(gQ r:Nat)(t:S)(c:Rat):Prop:=∃a,t=G (some ⟨a,0,none⟩)/\Ex w W V (bs++[some (a,.rat c)]) B4 n gQ r
theorem K0.below{w W V V':N}{bs:List (Option (Nat × Dat))}{B4:Nat}{n:Int}{gQ r:Nat}{t:S}{c:Rat}(h:K0 w W V bs B4 n gQ r t c)(b:Bl V V'):K0 w W V' bs B4 n gQ r t c:=by
 obtain⟨a,e,h⟩:=h;exact⟨a,e,h.below b⟩
theorem Fqq.below{d:Bool}{w W V V':N}{bs:List (Option (Nat × Dat))}{B4:Nat}{n:Int}{gQ r:Nat}{t:S}(h:Fqq d w W V bs B4 n gQ r t)(a:Bl V V'):Fqq d w W V' bs B4 n gQ r t:=
 ⟨λe=>(h.1 e).below a,λe=>by obtain⟨b,c,f⟩:=h.2 e;exact⟨b,c,f.below a⟩⟩
theorem Fqq.base{W:N}(h:Fqq d w W V bs B4 n gQ r t):Ex w W V bs B4 n gQ r:=by
 cases d with
 |false=>exact h.1 rfl
 |true=>
  obtain⟨e,_,⟨a,b⟩,c⟩:=h.2 rfl;have:=a.take bs.length;rw[List.take_left' rfl]at this;exact⟨⟨this,b⟩,c⟩
theorem Fqq.alloc{w W V:N}{bs:List (Option (Nat × Dat))}{B4:Nat}{n:Int}{gQ r:Nat}{t:S}(h:Fqq false w W V bs B4 n gQ r t):Fqq true w W (V.alloc (H #[I false,C none 0 0,I false,C none 0 0] 65)) bs B4 n gQ r (G (some ⟨V.heap.size,0,none⟩)):=by
 have a:=h.1 rfl;have b:=a.below (Ba V (H #[I false,C none 0 0,I false,C none 0 0] 65));exact⟨(λe=>by cases e),λ_=>⟨_,rfl,⟨a.1.1.push (.rat 0) (EH _),b.1.2⟩,b.2⟩⟩
def IP(_:N):Prop:=True
theorem IP.below(_:IP V)(_:Bl V V'):IP V':=trivial
def Gp(d:Bool)(V:N)(t:S)(c:Rat):Prop:=∃u,t=.tuple #[u,I true]/\(d=false->Jj V u c)
theorem Gp.below{d:Bool}{V V':N}{t:S}{c:Rat}(h:Gp d V t c)(a:Bl V V'):Gp d V' t c:=by
 obtain⟨u,e,h⟩:=h;exact⟨u,e,λe=>(h e).below a⟩
theorem Gp.drop{c:Rat}(h:Gp d V t c)(V':N):Gp true V' t c:=by
 obtain⟨u,e,_⟩:=h;exact⟨u,e,λe=>by cases e⟩
theorem JQ{o a:Nat}{x:S}(h:o≠a):(V.setCell ⟨g,a,none⟩ x).cell? ⟨g,o,none⟩=V.cell? ⟨g,o,none⟩:=World.cell?_setCell_other _ _ _ _ (by intro e;cases e;exact h rfl)
theorem ZQ.put{i:Nat}(h:ZQ V g (i+1))(x y z u:S):ZQ (putAt V g (i*4) x y z u) g i:=λj e=>by
 obtain⟨a,b,c,d⟩:=h j Y;unfold putAt;refine⟨?_,?_,?_,?_⟩
 . rw[JQ Y,JQ Y,JQ Y,JQ Y];exact a
 . rw[JQ Y,JQ Y,JQ Y,JQ Y];exact b
 . rw[JQ Y,JQ Y,JQ Y,JQ Y];exact c
 . rw[JQ Y,JQ Y,JQ Y,JQ Y];exact d
theorem _root_.Go.Proofs.YteldjhhjnchdeaaGreatDoor.Jc.setP{ps:List Rat}(h:Jc V v ps){a:Option Addr}{l c:Nat}(b:Boxed V B 25 (C a l c))(x:S):Jc (V.setCell ⟨B,0,none⟩ x) v ps:=by
 obtain⟨u,e,d⟩:=h;exact⟨u,e,EY b x d⟩
theorem boxed_below{t:TypeId}(h:Boxed V B t v)(a:Bl V V'):Boxed V' B t v:=(a.block B h.lt).trans h
def GW(w V:N)(D B5 b:Nat)(rs a:S)(R Q:List Rat):Prop:=
 Boxed V (w.heap.size+1+1) 25 (C none 0 0)/\Boxed V (w.heap.size+1+1+1) 25 (C none 0 0)/\Boxed V B5 23 rs/\Boxed V b 23 a/\RowK true V rs R/\RowK true V a Q/\Bl w V/\V.heap[D]?=some (.deferred (some []))
theorem GW.below{w V V':N}{D B5 b:Nat}{rs c:S}{R Q:List Rat}(h:GW w V D B5 b rs c R Q)(a:Bl V V'):GW w V' D B5 b rs c R Q:=
 ⟨boxed_below h.1 a,boxed_below h.2.1 a,boxed_below h.2.2.1 a,boxed_below h.2.2.2.1 a,h.2.2.2.2.1.below a,h.2.2.2.2.2.1.below a,Bt h.2.2.2.2.2.2.1 a,(a.block D (Ae.1 h.2.2.2.2.2.2.2).1).trans h.2.2.2.2.2.2.2⟩
def K1(d:Bool)(w V:N)(D:Nat)(t:S):Prop:=d=true->∃v,t=T #[v]/\Boxed V (w.heap.size+1+1) 25 v/\Boxed V (w.heap.size+1+1+1) 25 (C none 0 0)/\Bl w V/\V.heap[D]?=some (.deferred (some []))
def P7(w V:N)(D:Nat)(t a:S)(P c:List Rat):Prop:=∃v b,t=T #[v]/\a=T #[b]/\Boxed V (w.heap.size+1+1) 25 v/\Boxed V (w.heap.size+1+1+1) 25 b/\Jc V t P/\Jc V a c/\Bl w V/\V.heap[D]?=some (.deferred (some []))
def IQ(V:N)(t:S)(c:Rat):Prop:=∃u,t=.tuple #[u,I true]/\Jj V u c
theorem IQ.below{V V':N}{t:S}{c:Rat}(h:IQ V t c)(a:Bl V V'):IQ V' t c:=by
 obtain⟨u,e,h⟩:=h;exact⟨u,e,h.below a⟩
theorem ZU(A:Nat)(pa qa:Option Addr)(la pc lb U n m:Nat)(ps qs:List Rat)(w:N)(ha:RowK true w (C pa la pc) ps)(hb:RowK true w (C qa lb U) qs)(hq:∀i,DV A (cf qs i))(f7:Jd qs=qs)(du:qs≠[])(hL:∀k,k<=m->∃z,z+(2*A+1)<=1000000000/\(k<m->2*z+2*(2*A+1)<=1000000000)/\(∀i,DV z (cf (Jz ps qs n m k).2 i))/\∀i,DV (z+A) (cf (Jz ps qs n m k).1 i))(hn:lb=n+1)(hm:la=m+n)(dm:0<m):
 Calls Tryz.prog 22 #[T #[C pa la pc],T #[C qa lb U]] w λe w'=>∃u v,e=.returned (.tuple #[u,v,I true])/\Jc w' u (Jt ps qs)/\Jc w' v (JZ ps qs)/\Bl w w':=by
 have Uc:Tryz.prog.follows .mixedOrders=true:=by kernel_rfl
 obtain⟨dj,fc,fe,fo,s,t,aa,bb,ll,cc,kk,dd,fh⟩:=ha.forms;obtain⟨Qp,fd,fg,fy,s',t',av,aw,bc,ay,ba,az,dh⟩:=hb.forms;have M0:Mem w _ _:=((((Mem.nil w).push (.cell 25 (C pa la pc)) (cs:=#[C pa la pc]) ⟨rfl,rfl⟩).push (.cell 25 (C qa lb U)) (cs:=#[C qa lb U]) ⟨rfl,rfl⟩).push (.cell 25 (C none 0 0)) (cs:=#[C none 0 0]) ⟨rfl,rfl⟩).push (.cell 25 (C none 0 0)) (cs:=#[C none 0 0]) ⟨rfl,rfl⟩;simp only[BA]at M0;obtain⟨V0,ck⟩:=ex ((((w.alloc (H #[C pa la pc] 25)).alloc (H #[C qa lb U] 25)).alloc (H #[C none 0 0] 25)).alloc (H #[C none 0 0] 25));have M1:Mem w V0 [some (w.heap.size,.cell 25 (C pa la pc)),some (w.heap.size+1,.cell 25 (C qa lb U)),some (w.heap.size+1+1,.cell 25 (C none 0 0)),some (w.heap.size+1+1+1,.cell 25 (C none 0 0))]:=by rw[<-ck];exact M0
 have Ui:=Z M1;have Um:=Z (show Calls Tryz.prog 20 #[T #[C qa lb U]] V0 λe w'=>e=.returned (L M (n:Int))/\Bl V0 w' by
  have h:=Ya (T #[C qa lb U]) qs V0 ⟨_,rfl,hb.below M1.2.2⟩;rwa[show((qs.length:Int)-1)=(n:Int)by omega]at h)
 have Wg:=Z λ(V:N) (h:Bl w V)=>Pd (C pa la pc) ps V (ha.below h);have gg:∀W:N,(Instr.makeSlice 23 (L M (m:Int)) (L M (m:Int))).run Tryz.prog W=.ok (C (some ⟨W.heap.size,0,none⟩) m m) (W.alloc (H (J4 m) 65)):=λW=>IG m Y W;have gj:(la:Int)-(n:Int)=(m:Int):=Y
 have gp:IntKind.i64.wrap (m:Int)=(m:Int):=by rw[BZ];omega
 have gb:max (0:Int) (m:Int)=(m:Int):=Y
 have gi:¬(n:Int)<0:=Y
 obtain⟨HQ,Qg,Qj,HN,Qu,Uk,Uw,HL⟩:=Ip dh dj Qp (show lb=n+1/\la=m+n/\0<m from⟨hn,hm,dm⟩) hq f7 du hL;have Ux:=Z ck;have Ql:m<=1099511627776:=Y
 clear ha hb fh dh dj Qp fc fe fd fg hq f7 du hL hn hm dm M0 M1 ck;have c1:=(Ui.o.cell (i:=1) rfl).1.cell;refine(BG (n:=3)).1 ?_;refine BT Tryz.func22 rfl trivial ?_ rfl;simp only[Tryz.ntmps22,Ar,Ao,AG,Nat.reduceAdd,Nat.reduceSub,AA,AB,AR,AJ,At,AF];gi_wp2_with fail
 rw[Ux.o];refine⟨trivial,?_⟩;refine((BG (n:=_)).2 Um.o).mono ?_;rintro e w1 ⟨rfl,df⟩;have Ut:Bl w1 (w1.alloc (H #[L M (n:Int)] 3)):=Ba w1 _;have Qx:=(Ui.o.below df).below Ut;have h4:=BL w1 3 (L M (n:Int));have c0:=(Qx.cell (i:=0) rfl).1.cell;obtain⟨Qh,Ue,H4⟩:=Dh (Wg.o _ Qx.2.2) Qx h4;clear Ut Qx h4 df Um c1 Ux Ui Wg;gi_wp2_with fail
 obtain⟨V1,cl⟩:=ex (w1.alloc (H #[L M (n:Int)] 3));obtain⟨B4,bz⟩:=ex (w1.heap.size);rw[cl]at Qh Ue H4 c0;rw[bz]at H4;rw[cl,bz];clear cl bz;refine⟨trivial,?_⟩;refine((BG (n:=_)).2 Qh.o).mono ?_;rintro e P ⟨u2,rfl,da,_,bi,dt⟩;have fi:∃gR rc,u2=C (some ⟨gR,0,none⟩) la rc/\V1.heap.size<=gR/\Dn true P gR ps/\la<=rc/\rc<=9223372036854775807:=by
  obtain⟨_,fa,e7,h7,h8,_⟩:=id da;rcases dt with rfl|⟨g',cap,e1,e2,e3⟩
  . exfalso
    obtain⟨_,_,e,_⟩:=da;injection e with _ e _
    have:=Qg.o;have:=HN.o;omega
  . rw[e1]at e7;have e8:cap=fa:=by injection e7
    exact⟨g',cap,by rw[e1,Qg.o],e2,e3,by rw[Qg.o,e8];exact h7,by rw[e8];exact h8⟩
 obtain⟨gR,rc,rfl,di,db,ed,ei⟩:=fi;have Ur:=Z (show la<=rc/\rc<=9223372036854775807 from⟨ed,ei⟩);clear ed ei;have Uo:=Ue.o.adopt bi di db;have h4:Boxed P B4 3 (L M (n:Int)):=(bi.block B4 H4.o.lt).trans H4.o;have Ul:Bl P (P.alloc (H #[C (some ⟨gR,0,none⟩) la rc] 23)):=Ba P _;have Uj:=Uo.push (.cell 23 (C (some ⟨gR,0,none⟩) la rc)) (cs:=#[C (some ⟨gR,0,none⟩) la rc]) ⟨rfl,rfl⟩;have h5:Boxed (P.alloc (H #[C (some ⟨gR,0,none⟩) la rc] 23)) B4 3 (L M (n:Int)):=(Ul.block B4 h4.lt).trans h4;have c4:=h5.cell;have Uu:=Z Uj;have H5:=Z h5;clear dt da bi di db Uo h4 Ul Uj h5 Ue H4 Qh c0;gi_wp2_with fail
 refine⟨trivial,?_⟩;refine(Kr Fence.wide _ trivial rfl _ _ _ _).mono ?_;rintro e w3 ⟨rfl,rfl⟩;have Qr:Mem w ((((P.alloc (H #[C (some ⟨gR,0,none⟩) la rc] 23)).alloc (H (J4 m) 65)).alloc (H #[C (some ⟨P.heap.size+1,0,none⟩) m m] 23)).alloc (H #[C (some ⟨P.heap.size+1,0,none⟩) m m] 23)) (Em w pa qa la pc lb U m gR rc P.heap.size (P.heap.size+1) (P.heap.size+1+1) (P.heap.size+1+1+1) ps (List.replicate m 0)):=by
  have h:=((Uu.o.push (.rats (List.replicate m 0)) (I4 _ m)).push (.cell 23 (C (some ⟨P.heap.size+1,0,none⟩) m m)) (cs:=#[C (some ⟨P.heap.size+1,0,none⟩) m m]) ⟨rfl,rfl⟩).push (.cell 23 (C (some ⟨P.heap.size+1,0,none⟩) m m)) (cs:=#[C (some ⟨P.heap.size+1,0,none⟩) m m]) ⟨rfl,rfl⟩;simp only[BA]at h;exact h
 have Wa:Below (P.alloc (H #[C (some ⟨gR,0,none⟩) la rc] 23)).heap.size (P.alloc (H #[C (some ⟨gR,0,none⟩) la rc] 23)) ((((P.alloc (H #[C (some ⟨gR,0,none⟩) la rc] 23)).alloc (H (J4 m) 65)).alloc (H #[C (some ⟨P.heap.size+1,0,none⟩) m m] 23)).alloc (H #[C (some ⟨P.heap.size+1,0,none⟩) m m] 23)):=
  ((Ba _ _).alloc (by simp only[BA];omega) _).alloc (by simp only[BA];omega) _
 have h6:Boxed _ B4 3 (L M (n:Int)):=(Wa.block B4 H5.o.lt).trans H5.o;have hz:((((P.alloc (H #[C (some ⟨gR,0,none⟩) la rc] 23)).alloc (H (J4 m) 65)).alloc (H #[C (some ⟨P.heap.size+1,0,none⟩) m m] 23)).alloc (H #[C (some ⟨P.heap.size+1,0,none⟩) m m] 23)).heap[P.heap.size+1]?=some (H (J4 m) 65 (0,0)):=by
  have e:=BD (P.alloc (H #[C (some ⟨gR,0,none⟩) la rc] 23)) (H (J4 m) 65);rw[BA]at e;exact(Bf _ _ _ (by simp only[BA];omega)).trans ((Bf _ _ _ (by simp only[BA];omega)).trans e)
 have Qi:((((P.alloc (H #[C (some ⟨gR,0,none⟩) la rc] 23)).alloc (H (J4 m) 65)).alloc (H #[C (some ⟨P.heap.size+1,0,none⟩) m m] 23)).alloc (H #[C (some ⟨P.heap.size+1,0,none⟩) m m] 23)).heap.size=P.heap.size+1+1+1+1:=by simp only[BA]
 obtain⟨W3,cn⟩:=ex ((((P.alloc (H #[C (some ⟨gR,0,none⟩) la rc] 23)).alloc (H (J4 m) 65)).alloc (H #[C (some ⟨P.heap.size+1,0,none⟩) m m] 23)).alloc (H #[C (some ⟨P.heap.size+1,0,none⟩) m m] 23));rw[cn]at Qr h6 hz Qi;rw[cn];simp only[BA];obtain⟨B5,ce⟩:=ex (P.heap.size);rw[ce]at Qr hz Qi;rw[ce];have Qq:=Z (show Ew w W3 (Em w pa qa la pc lb U m gR rc B5 (B5+1) (B5+1+1) (B5+1+1+1) ps (List.replicate m 0)) B4 (n:Int) (B5+1) m from
  ⟨Qr,h6,λj hj=>by
   obtain⟨h0,h1,x,h3⟩:=Kt hj;exact⟨cell_of hz h0,cell_of hz h1,cell_of hz x,cell_of hz h3⟩,by rw[Qi];omega⟩)
 clear Qr Wa h6 hz Qi cn ce Uu H5 c4;gi_wp2_with fail
 have Wc:=Z (show w.heap.size<=W3.heap.size from Qq.o.1.2.2.size);refine YH rfl Y (gf:=67) (lb:=#[G (some ⟨B5+1+1+1,0,none⟩)]) rfl trivial (B0 Tryz.func67 (by kernel_rfl) rfl)
  (Kq Fence.wide _ trivial rfl Y (B5+1+1+1) (some ⟨B5+1,0,none⟩) m m (λ_=>I false) (λ_=>C none 0 0) (λ_=>I false) (λ_=>C none 0 0) Ql) (λ_=>rfl)
  (λk W=>Ew w W (Em w pa qa la pc lb U m gR rc B5 (B5+1) (B5+1+1) (B5+1+1+1) (Jz ps qs n m k).2 (Jz ps qs n m k).1) B4 (n:Int) (B5+1) (m-k)) (λ_ _ _=>False)
  (λk W W' row h hg hr=>h.own (by obtain⟨cs,h1,_⟩:=h.1.rats (i:=6) rfl;exact⟨cs,_,_,h1⟩) hg λr e=>⟨Aw Wc.o (hr r e).1,(hr r e).2⟩)
  (λc s W W' row h=>h.elim) Qq.o ?rd
  (λk=>{ tmps:=#[T #[C pa la pc],T #[C qa lb U],G (some ⟨w.heap.size,0,none⟩),G (some ⟨w.heap.size+1,0,none⟩),G (some ⟨w.heap.size+1+1,0,none⟩),G (some ⟨w.heap.size+1+1+1,0,none⟩),I false,G (some ⟨B4,0,none⟩),G (some ⟨B5,0,none⟩),G (some ⟨B5+1+1,0,none⟩),L M ((m:Int)-1-k),F,F,F,F,T #[C qa lb U],L M ↑n,L M ↑n,I (decide ((n:Int)<0)),F,F,G (some ⟨w.heap.size,0,none⟩),C pa la pc,C (some ⟨gR,0,none⟩) la rc,C (some ⟨gR,0,none⟩) la rc,L M ↑la,L M ↑n,L M ↑m,L M ↑m,C (some ⟨B5+1,0,none⟩) m m,C (some ⟨B5+1,0,none⟩) m m,.func (.func 67) #[] #[G (some ⟨B5+1+1+1,0,none⟩)],L M ((m:Int)-1-k),T #[I false,C none 0 0,I false,C none 0 0],F,F,F,F,F,F,F,F,F,F,F,F,F,F,F,F,F,F,F,F,F,F,F,F,F,F,F,F,F,F,F,F,F,F,F,F,F,F,F,F,F,F,F,F,F,F,F],defers:=[] }) ?assign ?body ?done ?stop
 case stop=>intro D c k W _ _ h;exact h.elim
 case rd=>
  intro k W h;refine⟨(h.1.cell (i:=8) rfl).1.cell,λhk=>?_⟩;obtain⟨h0,h1,x,h3⟩:=h.2.2.1 (m-1-k) Y;exact⟨B5+1,rfl,h0,h1,x,h3⟩
 case assign=>
  intro l k W K hK;unfold IF;gi_wp2;exact hK
 case body=>
  intro l k W hS hk Qi;obtain⟨fl,bq,rfl,fb,q0,q1,q2,q3⟩:=HQ.o n (by have:=HN.o;omega);have Uz:=Z (show ∀j,j<lb->∀V,Bl w V->(V.cell? ⟨bq,j*4,none⟩=some (I (s' j))/\V.cell? ⟨bq,j*4+1,none⟩=some (C (av j) (bc j) (ay j))/\V.cell? ⟨bq,j*4+2,none⟩=some (I (t' j))/\V.cell? ⟨bq,j*4+3,none⟩=some (C (aw j) (ba j) (az j)))/\Jj V (T #[I (s' j),C (av j) (bc j) (ay j),I (t' j),C (aw j) (ba j) (az j)]) (cf qs j)from λj hj V hB=>by
   obtain⟨hi,b,e,hb,c0,c1,c2,c3⟩:=HQ.o j hj;cases e;exact⟨⟨(hB.cell (p:=⟨bq,_,none⟩) hb).trans c0,(hB.cell (p:=⟨bq,_,none⟩) hb).trans c1,(hB.cell (p:=⟨bq,_,none⟩) hb).trans c2,(hB.cell (p:=⟨bq,_,none⟩) hb).trans c3⟩,hi.below hB⟩)
  clear fl fb q0 q1 q2 q3;have Qc:cf qs n≠0:=by
   have:=Jw Uk.o Uw.o;rwa[show qs.length-1=n by have:=HN.o;have:=Qj.o;omega]at this
  obtain⟨z,ft,bu,ak,bn⟩:=HL.o k Y;have Ug:z+(2*A+1)+(z+(2*A+1))<=1000000000:=by have:=bu Y;omega
  clear ft;obtain⟨i,hi⟩:=ex (m-(k+1):Nat);obtain⟨R,hR⟩:=ex ((Jz ps qs n m k).2);obtain⟨Q,hQ⟩:=ex ((Jz ps qs n m k).1);have Wi:R.length=la:=by rw[<-hR,(YV ps qs n m k).2];exact Qg.o.symm
  have Wp:Q.length=m:=by rw[<-hQ];exact(YV ps qs n m k).1
  rw[hR,hQ]at hS;rw[hR]at ak;obtain⟨t0,ew⟩:=ex (i+n:Nat);obtain⟨c,hc⟩:=ex (cf R t0/cf qs n);have Uy:Jz ps qs n m (k+1)=(Q.set i c,Yz R i (-c) qs qs.length):=by rw[Jz];simp only[hR,hQ,hi,ew,hc]
  have Qe:DV (z+A) c:=by rw[<-hc];exact(ak t0).div2 (Qu.o n) Qc
  obtain⟨Ws,Qo,Ub⟩:=Dh (show Sq c from Sq.of Qe Y) (show ∀j,Sq (cf qs j)from λj=>Sq.of (Qu.o j) Y) (show ∀j,Sq (c*cf qs j)from λj=>Sq.of (Qe.mul2 (Qu.o j)) Y);have Wj:=Z (show ∀j t,Sq (cf (Yz R i (-c) qs j) t)from λj t=>by
   rcases Kz R i (-c) qs j t with e|e
   . rw[e];exact Sq.of (ak t) Y
   . rw[e];exact Sq.of ((ak t).add2 (Qe.neg.mul2 (Qu.o _))) Y)
  obtain⟨Uf,Wh,Wr,Uh,Qf⟩:=GF (show Sq (cf R t0)from Sq.of (ak t0) Y) hc Qc Uy (show R.length=la/\Q.length=m/\t0<la/\i<m/\m-k=i+1/\m-(k+1)=i by have:=HN.o;omega);have We:(m:Int)-1-(k:Int)=(i:Int):=Y
  have fu:(i:Int)+(n:Int)=(t0:Int):=Y
  have gq:IntKind.i64.wrap (t0:Int)=(t0:Int):=by rw[BZ];have:=HN.o;omega
  have gk:(t0:Int)<(la:Int):=by have:=Qf.o;omega
  have gh:(n:Int)<(lb:Int):=by have:=HN.o;omega
  have fw:(i:Int)<(m:Int):=by have:=Qf.o;omega
  rw[We];have Qm:Fqq false w W W.drew (Em w pa (some ⟨bq,0,none⟩) la pc lb U m gR rc B5 (B5+1) (B5+1+1) (B5+1+1+1) R Q) B4 (n:Int) (B5+1) (m-k) F:=⟨λ_=>⟨hS.below ((BE _ W).drew),Yg ((BE _ W).drew)⟩,λe=>by cases e⟩;clear hS hi hR hQ Wi Wp ew hc Qe bu ak bn Ug Qc Uy We Qi Qq;gi_wp2_with fail
  refine J1 Uc [[],[],[],[1,2],[0,3],[4],[],[6],[],[7,8],[9],[5,10],[11],[12],[12],[],[15,13,11,0,1,2,3,4,5,6,7,8,9,10,11,12,13,15],[14,16,0,1,2,3,4,5,6,7,8,9,10,11,12,13,14,15,16]] (by kernel_rfl) DL
   (λD ah V=>∃(td te tf tg ti tj tk tl tm tn tp tq tc tr ts ta tb:S),ah={ tmps:=#[T #[C pa la pc],T #[C (some ⟨bq,0,none⟩) lb U],G (some ⟨w.heap.size,0,none⟩),G (some ⟨w.heap.size+1,0,none⟩),G (some ⟨w.heap.size+1+1,0,none⟩),G (some ⟨w.heap.size+1+1+1,0,none⟩),I false,G (some ⟨B4,0,none⟩),G (some ⟨B5,0,none⟩),G (some ⟨B5+1+1,0,none⟩),L M ↑i,ta,tb,F,F,T #[C (some ⟨bq,0,none⟩) lb U],L M ↑n,L M ↑n,I (decide (↑n<0)),F,F,G (some ⟨w.heap.size,0,none⟩),C pa la pc,C (some ⟨gR,0,none⟩) la rc,C (some ⟨gR,0,none⟩) la rc,L M ↑la,L M ↑n,L M ↑m,L M ↑m,C (some ⟨B5+1,0,none⟩) m m,C (some ⟨B5+1,0,none⟩) m m,.func (.func 67) #[] #[G (some ⟨B5+1+1+1,0,none⟩)],L M ↑i,T #[I false,C none 0 0,I false,C none 0 0],tc,td,te,tf,tg,ti,tj,tk,tl,tm,tn,tp,tq,tr,ts,F,F,F,F,F,F,F,F,F,F,F,F,F,F,F,F,F,F,F,F,F,F,F,F,F,F,F,F,F,F,F,F],defers:=[] }/\Hid ((D 0=true->td=C (some ⟨gR,0,none⟩) la rc)/\(D 1=true->te=L M (i:Int))/\(D 2=true->tf=L M (n:Int))/\(D 3=true->tg=L M (t0:Int))/\(D 4=true->ti=G (some ⟨gR,t0*4,none⟩))/\(D 5=true->D 16=false->Jj V tj (cf R t0))/\(D 6=true->tk=G (some ⟨w.heap.size+1,0,none⟩))/\(D 7=true->tl=C (some ⟨bq,0,none⟩) lb U)/\(D 8=true->tm=L M (n:Int))/\(D 9=true->tn=G (some ⟨bq,n*4,none⟩))/\(D 10=true->D 16=false->Jj V tp (cf qs n))/\(D 11=true->D 16=false->IQ V tq c)/\(D 12=true->Gp (D 16) V tc c)/\(D 13=true->D 16=false->Jj V tr c)/\(D 14=true->ts=I true)/\(D 15=true->IP V)/\(D 17=true->tb=I true))/\Hid ((D 16=false->Fqq (D 15) w W V (Em w pa (some ⟨bq,0,none⟩) la pc lb U m gR rc B5 (B5+1) (B5+1+1) (B5+1+1+1) R Q) B4 (n:Int) (B5+1) (m-k) ta)/\(D 16=true->K0 w W V (Em w pa (some ⟨bq,0,none⟩) la pc lb U m gR rc B5 (B5+1) (B5+1+1) (B5+1+1+1) R Q) B4 (n:Int) (B5+1) (m-k) ta c)))
   (EK ⟨_,rfl,Z O,Z ⟨λ_=>Qm,O⟩⟩) ?step1 ?fin1
  case step1=>
   rintro D ah V i ds ae hi f y ⟨td,te,tf,tg,ti,tj,tk,tl,tm,tn,tp,tq,tc,tr,ts,ta,tb,rfl,d,g⟩;have Up:i<18:=(Af.1 hi).1;obtain rfl|rfl|rfl|rfl|rfl|rfl|rfl|rfl|rfl|rfl|rfl|rfl|rfl|rfl|rfl|rfl|rfl|rfl:=Ib i Y
   all_goals
    simp only[Aj,Ah,Al]at hi;subst hi
   . have q:=g.o.1 (DN ae y);have hB:=q.base;have e5:=(hB.1.1.cell (i:=5) rfl).1.cell;clear f;refine Da ?_;exact⟨(Dc d),g⟩
   . clear f;refine Da ?_;exact⟨(Dg d),g⟩
   . have q:=g.o.1 (DN ae y);have hB:=q.base;have e4:=hB.1.2.1.cell;clear f;refine Da ?_;exact⟨(DZ d),g⟩
   . obtain rfl:=d.o.2.1 (f 1 O);obtain rfl:=d.o.2.2.1 (f 2 O);clear f;refine Da ?_;exact⟨(Dd (DZ (Dg d))),g⟩
   . obtain rfl:=d.o.1 (f 0 O);obtain rfl:=d.o.2.2.2.1 (f 3 O);clear f;refine Da ?_;exact⟨(Dt (Dd (Dc d))),g⟩
   . have q:=g.o.1 (DN ae y);obtain rfl:=d.o.2.2.2.2.1 (f 4 O);have hB:=q.base;obtain⟨xa,xb,xc,xd,e0,e1,e2,e3,hr⟩:=(hB.1.1.rats (i:=4) rfl).at (j:=t0) (by have:=Qf.o;omega);clear f;refine Da ?_;exact⟨(Dx (Dt d) λ_ _=>hr),g⟩
   . clear f;refine Da ?_;exact⟨(D0 d),g⟩
   . have q:=g.o.1 (DN ae y);obtain rfl:=D3 d (f 6 O);have hB:=q.base;have e1:=(hB.1.1.cell (i:=1) rfl).1.cell;clear f;refine Da ?_;exact⟨(EL (D0 d)),g⟩
   . have q:=g.o.1 (DN ae y);have hB:=q.base;have e4:=hB.1.2.1.cell;clear f;refine Da ?_;exact⟨(EM d),g⟩
   . obtain rfl:=EF d (f 7 O);obtain rfl:=ER d (f 8 O);clear f;refine Da ?_;exact⟨(Ef (EM (EL d))),g⟩
   . have q:=g.o.1 (DN ae y);obtain rfl:=FP d (f 9 O);have hB:=q.base;obtain⟨⟨e0,e1,e2,e3⟩,hr⟩:=Uz.o n Y V hB.1.1.2.2;clear f;refine Da ?_;exact⟨(Du (Ef d) λ_ _=>hr),g⟩
   . have Qa:D 16=false:=DN ae y;have h0:=Do d (f 5 O) Qa;have h1:=EB d (f 10 O) Qa;clear f;have HC:=Z λ(n9:Nat)=>BX l ((BG (n:=n9)).2 (PM _ _ (cf R t0) (cf qs n) V h0 h1 Uf.o (Qo.o n)));clear h0 h1;refine BO rfl λK hK=>?_;go_simp;gi_wp2_with(refine⟨trivial,?_⟩;gi_at_call 50;refine(HC.o _).mono ?_;rintro e w5 ⟨v5,rfl,an,ad⟩)
     obtain⟨G0,G1,G2,G3,G4,G5,G6,G7,G8,G9,ap,_,aq,bg,am,f8,bh⟩:=d.o;exact EK ⟨_,rfl,Z ⟨G0,G1,G2,G3,G4,λh x=>(G5 h x).below ad,G6,G7,G8,G9,λh x=>(ap h x).below ad,λ_ _=>⟨v5,by simp[Wr.o],by rw[<-Wh.o];exact an⟩,λh=>(aq h).below ad,λh x=>(bg h x).below ad,am,λh=>(f8 h).below ad,bh⟩,Z ⟨λh=>(g.o.1 h).below ad,λh=>(g.o.2 h).below ad⟩⟩
   . have Qa:D 16=false:=DN ae y;have h0:=EW d (f 11 O) Qa;clear f;refine Da ?_;exact⟨(D4 d λ_=>(show Gp (D 16) V _ c from by obtain⟨u,e,h⟩:=h0;exact⟨u,e,λ_=>h⟩)),g⟩
   . have Qa:D 16=false:=DN ae y;have h0:=Ea d (f 12 O);obtain⟨u0,rfl,g0⟩:=h0;clear f;refine Da ?_;exact⟨(D9 d λ_ _=>g0 Qa),g⟩
   . have h0:=Ea d (f 12 O);obtain⟨u0,rfl,g0⟩:=h0;clear f;refine Da ?_;exact⟨(EU d),g⟩
   . have Qa:D 16=false:=DN ae y;have q:=g.o.1 Qa;clear f;refine Da ?_;obtain⟨G0,G1,G2,G3,G4,G5,G6,G7,G8,G9,ap,bf,aq,bg,am,_,bh⟩:=d.o;exact⟨Z ⟨G0,G1,G2,G3,G4,λh x=>(G5 h x).below (Ba V _),G6,G7,G8,G9,λh x=>(ap h x).below (Ba V _),λh x=>(bf h x).below (Ba V _),λh=>(aq h).below (Ba V _),λh x=>(bg h x).below (Ba V _),am,λ_=>trivial,bh⟩,Z ⟨λ_=>(show Fqq true w W _ (Em w pa (some ⟨bq,0,none⟩) la pc lb U m gR rc B5 (B5+1) (B5+1+1) (B5+1+1+1) R Q) B4 (n:Int) (B5+1) (m-k) _ from Fqq.alloc (by rw[y]at q;exact q)),λh=>by simp[Qa]at h⟩⟩
   . have q:=g.o.1 y;have h0:=F1 d (f 13 O) y;obtain⟨Bc,rfl,hM⟩:=q.2 (f 15 O);obtain⟨s9,a9,l9,c9,t9,b9,k9,d9,rfl⟩:=Jj.form h0;obtain⟨s8,a8,l8,c8,t8,b8,k8,d8,n8,r8,i8,j8⟩:=hM.1.1.rat (i:=9) rfl;obtain⟨e0,e1,e2,e3⟩:=n8.cq;obtain⟨f0,f1,f2,f3⟩:=n8.fq;clear f;refine Da ?_;obtain⟨G0,G1,G2,G3,G4,_,G6,G7,G8,G9,_,_,aq,_,am,_,bh⟩:=d.o;exact⟨Z ⟨G0,G1,G2,G3,G4,λ_ h=>by simp at h,G6,G7,G8,G9,λ_ h=>by simp at h,λ_ h=>by simp at h,λh=>(aq h).drop _,λ_ h=>by simp at h,am,λ_=>trivial,bh⟩,Z ⟨λh=>by simp at h,λ_=>⟨Bc,rfl,hM.1.upd (hM.1.1.putRat (i:=9) rfl h0) (ZT _ _ _ _ _ _) (Ms hM.1.2.1 n8) (hM.1.1.ne 6 9 rfl rfl DL),hM.2.trans (Vj _ _ _ _ _ _)⟩⟩⟩
   . obtain rfl:=GM d (f 14 O);clear f;refine Da ?_;exact⟨(Hf (EU d)),g⟩
  case fin1=>
   rintro D ah V ai ⟨td,te,tf,tg,ti,tj,tk,tl,tm,tn,tp,tq,tc,tr,ts,ta,tb,rfl,d,g⟩;obtain⟨Bc,rfl,hM⟩:=g.o.2 (ai 16 DL);obtain rfl:=d.o.2.2.2.2.2.2.2.2.2.2.2.2.2.2.2.2 (ai 17 DL);have HM:=Z hM;clear d g ai hM;obtain⟨s8,a8,l8,c8,t8,b8,k8,d8,n8,r8,i8,j8⟩:=HM.o.1.1.rat (i:=9) rfl;obtain⟨e0,e1,e2,e3⟩:=n8.cq;have e6:=(HM.o.1.1.cell (i:=7) rfl).1.cell;have hE:=HM.o.1.1.rats (i:=6) rfl;obtain⟨z0,z1,z2,z3⟩:=HM.o.1.2.2.1 i (by have:=Qf.o;omega);have f0:=hE.frozen (i*4);have f1:=hE.frozen (i*4+1);have f2:=hE.frozen (i*4+2);have f3:=hE.frozen (i*4+3);have Qw:=Z (show Ex w W (putAt V (B5+1) (i*4) (I s8) (C a8 l8 c8) (I t8) (C b8 k8 d8)) (Em w pa (some ⟨bq,0,none⟩) la pc lb U m gR rc B5 (B5+1) (B5+1+1) (B5+1+1+1) R (Q.set i c)++[some (Bc,.rat c)]) B4 (n:Int) (B5+1) i from by
    have hp:=HM.o.1.1.putRats (i:=6) rfl (j:=i) (by have:=Qf.o;omega) r8;obtain⟨cs,Qe,_⟩:=hE;refine⟨⟨hp,(Iy (Ms HM.o.1.2.1 Qe) _ _ _ _).trans HM.o.1.2.1,ZQ.put (by have h:=HM.o.1.2.2.1;rwa[Qf.o.2.2.2.2.1]at h) _ _ _ _,?_⟩,HM.o.2.trans (Pc _ _ _ _ _ _ _)⟩;exact(Ae.1 (PB Qe _ _ _ _)).1)
   have c9:=(Qw.o.1.1.cell (i:=1) rfl).1.cell;unfold putAt at c9;clear n8 i8 j8 hE r8 HM;gi_wp2_with fail
   obtain⟨W9,bt⟩:=ex (putAt V (B5+1) (i*4) (I s8) (C a8 l8 c8) (I t8) (C b8 k8 d8));rw[bt]at Qw;unfold putAt at bt;rw[bt];clear bt c9 e0 e1 e2 e3 e6 z0 z1 z2 z3 f0 f1 f2 f3;gi_loopw [56] (λjv wr=>∃j:Nat,j<=lb/\jv=L M (j:Int)/\Hid (Ex w W wr (Em w pa (some ⟨bq,0,none⟩) la pc lb U m gR rc B5 (B5+1) (B5+1+1) (B5+1+1+1) (Yz R i (-c) qs j) (Q.set i c)++[some (Bc,.rat c)]) B4 (n:Int) (B5+1) i)) λjv _=>lb-(intOf jv).toNat
   case atStart=>exact⟨0,AK _,rfl,Qw⟩
   case round=>
    obtain⟨j,hj,rfl,HJ⟩:=hrel;clear Qw;by_cases fm:j<lb
    . have fx:(j:Int)<(lb:Int):=Y
      obtain⟨⟨e0,e1,e2,e3⟩,et⟩:=Uz.o j fm wr HJ.o.1.1.2.2;have Uq:=Z et;obtain⟨t1,fs⟩:=ex (i+j:Nat);have fv:(i:Int)+(j:Int)=(t1:Int):=Y
      have Qt:=Z (show t1<la/\t1=i+j by have:=Qf.o;have:=HN.o;omega);have gr:IntKind.i64.wrap (t1:Int)=(t1:Int):=by rw[BZ];have:=Qt.o;omega
      have gn:(t1:Int)<(la:Int):=by have:=Qt.o;omega
      clear et fs;gi_wp2_with fail
      have Qs:Ex w W (wr.alloc (H #[I (s' j),C (av j) (bc j) (ay j),I (t' j),C (aw j) (ba j) (az j)] 65)) (Em w pa (some ⟨bq,0,none⟩) la pc lb U m gR rc B5 (B5+1) (B5+1+1) (B5+1+1+1) (Yz R i (-c) qs j) (Q.set i c)++[some (Bc,.rat c)]++[some (wr.heap.size,.rat (cf qs j))]) B4 (n:Int) (B5+1) i:=by
       have h1:=HJ.o.below (Ba wr (H #[I (s' j),C (av j) (bc j) (ay j),I (t' j),C (aw j) (ba j) (az j)] 65));exact⟨⟨HJ.o.1.1.push (.rat (cf qs j)) Uq.o,h1.1.2⟩,h1.2⟩
      obtain⟨Wd,co⟩:=ex (wr.alloc (H #[I (s' j),C (av j) (bc j) (ay j),I (t' j),C (aw j) (ba j) (az j)] 65));obtain⟨Bd,ci⟩:=ex (wr.heap.size);rw[co,ci]at Qs;rw[co,ci];obtain⟨X,hX⟩:=ex (Yz R i (-c) qs j);rw[hX]at Qs;have Qz:=Z (show t1<X.length by rw[<-hX,Yn];have:=Qf.o;have:=Qt.o;omega);have Wl:=Z (show Sq (cf X t1)by rw[<-hX];exact Wj.o j t1);have Wo:=Z (show X.set t1 (cf X t1-c*cf qs j)=Yz R i (-c) qs (j+1)by
       rw[Yz,hX,<-Qt.o.2,show cf X t1-c*cf qs j=cf X t1+-c*cf qs j by grind])
      have Qm:=Qs.below ((BE _ Wd).drew);clear co ci hX Qs e0 e1 e2 e3 Uq HJ;refine J1 Uc [[],[],[],[1,2],[],[],[],[5,6],[4,7],[8],[],[],[10,11],[9,12,12],[0,3,0,1,2,3,4,5,6,7,8,9,10,11,12,13],[14,13,13,0,1,2,3,4,5,6,7,8,9,10,11,12,13]] (by kernel_rfl) DL
       (λD ah V=>∃(tt tu tv tw tx ty tz tA tB tD tE tF tG tH tI:S),ah={ tmps:=#[T #[C pa la pc],T #[C (some ⟨bq,0,none⟩) lb U],G (some ⟨w.heap.size,0,none⟩),G (some ⟨w.heap.size+1,0,none⟩),G (some ⟨w.heap.size+1+1,0,none⟩),G (some ⟨w.heap.size+1+1+1,0,none⟩),I false,G (some ⟨B4,0,none⟩),G (some ⟨B5,0,none⟩),G (some ⟨B5+1+1,0,none⟩),L M ↑i,G (some ⟨Bc,0,none⟩),I true,L M ↑j,G (some ⟨Bd,0,none⟩),T #[C (some ⟨bq,0,none⟩) lb U],L M ↑n,L M ↑n,I (decide (n<0)),F,F,G (some ⟨w.heap.size,0,none⟩),C pa la pc,C (some ⟨gR,0,none⟩) la rc,C (some ⟨gR,0,none⟩) la rc,L M ↑la,L M ↑n,L M ↑m,L M ↑m,C (some ⟨B5+1,0,none⟩) m m,C (some ⟨B5+1,0,none⟩) m m,.func (.func 67) #[] #[G (some ⟨B5+1+1+1,0,none⟩)],L M ↑i,T #[I false,C none 0 0,I false,C none 0 0],tc,td,te,tf,tg,ti,tj,tk,tl,tm,tn,tp,tq,tr,ts,C (some ⟨B5+1,0,none⟩) m m,L M ↑i,T #[I s8,C a8 l8 c8,I t8,C b8 k8 d8],G (some { block:=B5+1,off:=i*4 }),G (some ⟨w.heap.size+1,0,none⟩),C (some ⟨bq,0,none⟩) lb U,L M ↑lb,L M ↑j,I true,L M ↑j,G (some { block:=bq,off:=j*4 }),T #[I (s' j),C (av j) (bc j) (ay j),I (t' j),C (aw j) (ba j) (az j)],tt,tu,tv,tw,tx,ty,tz,tA,tB,tD,tE,tF,tG,tH,tI,u76,F,F,F,F],defers:=[] }/\Hid ((D 0=true->tt=C (some ⟨gR,0,none⟩) la rc)/\(D 1=true->tu=L M (i:Int))/\(D 2=true->tv=L M (j:Int))/\(D 3=true->tw=L M (t1:Int))/\(D 4=true->tx=C (some ⟨gR,0,none⟩) la rc)/\(D 5=true->ty=L M (i:Int))/\(D 6=true->tz=L M (j:Int))/\(D 7=true->tA=L M (t1:Int))/\(D 8=true->tB=G (some ⟨gR,t1*4,none⟩))/\(D 9=true->D 15=false->Jj V tD (cf X t1))/\(D 10=true->D 15=false->Jj V tE c)/\(D 11=true->D 15=false->Jj V tF (cf qs j))/\(D 12=true->D 15=false->Jj V tG (c*cf qs j))/\(D 13=true->D 15=false->Jj V tH (cf X t1-c*cf qs j))/\(D 14=true->tI=G (some ⟨gR,t1*4,none⟩)))/\Hid ((D 15=false->Ex w W V (Em w pa (some ⟨bq,0,none⟩) la pc lb U m gR rc B5 (B5+1) (B5+1+1) (B5+1+1+1) (X) (Q.set i c)++[some (Bc,.rat c)]++[some (Bd,.rat (cf qs j))]) B4 (n:Int) (B5+1) i)/\(D 15=true->Ex w W V (Em w pa (some ⟨bq,0,none⟩) la pc lb U m gR rc B5 (B5+1) (B5+1+1) (B5+1+1+1) (X.set t1 (cf X t1-c*cf qs j)) (Q.set i c)++[some (Bc,.rat c)]++[some (Bd,.rat (cf qs j))]) B4 (n:Int) (B5+1) i)))
       (E8 ⟨_,_,_,_,_,_,_,rfl,Z O,Z ⟨λ_=>Qm,O⟩⟩) ?step2 ?fin2
      case step2=>
       rintro D ah V i ds ae hi f y ⟨tt,tu,tv,tw,tx,ty,tz,tA,tB,tD,tE,tF,tG,tH,tI,rfl,d,g⟩;have Up:i<16:=(Af.1 hi).1;obtain rfl|rfl|rfl|rfl|rfl|rfl|rfl|rfl|rfl|rfl|rfl|rfl|rfl|rfl|rfl|rfl:=Gw i Y
       all_goals
        simp only[Aj,Ah,Al]at hi;subst hi
       . have q:=g.o.1 (DN ae y);have e5:=(q.1.1.cell (i:=5) rfl).1.cell;clear f;refine Da ?_;exact⟨(Dc d),g⟩
       . clear f;refine Da ?_;exact⟨(Dg d),g⟩
       . clear f;refine Da ?_;exact⟨(DZ d),g⟩
       . obtain rfl:=d.o.2.1 (f 1 O);obtain rfl:=d.o.2.2.1 (f 2 O);clear f;refine Da ?_;exact⟨(Dd (DZ (Dg d))),g⟩
       . have q:=g.o.1 (DN ae y);have e5:=(q.1.1.cell (i:=5) rfl).1.cell;clear f;refine Da ?_;exact⟨(Dt d),g⟩
       . clear f;refine Da ?_;exact⟨(Dx d),g⟩
       . clear f;refine Da ?_;exact⟨(D0 d),g⟩
       . obtain rfl:=Do d (f 5 O);obtain rfl:=D3 d (f 6 O);clear f;refine Da ?_;exact⟨(EL (D0 (Dx d))),g⟩
       . obtain rfl:=d.o.2.2.2.2.1 (f 4 O);obtain rfl:=EF d (f 7 O);clear f;refine Da ?_;exact⟨(EM (EL (Dt d))),g⟩
       . have q:=g.o.1 (DN ae y);obtain rfl:=ER d (f 8 O);obtain⟨xa,xb,xc,xd,e0,e1,e2,e3,hr⟩:=(q.1.1.rats (i:=4) rfl).at Qz.o;clear f;refine Da ?_;exact⟨(Ef (EM d) λ_ _=>hr),g⟩
       . have q:=g.o.1 (DN ae y);obtain⟨s5,a5,l5,c5,t5,b5,k5,d5,n5,r5,i5,j5⟩:=q.1.1.rat (i:=9) rfl;obtain⟨e0,e1,e2,e3⟩:=n5.cq;clear f;refine Da ?_;exact⟨(Du d λ_ _=>r5),g⟩
       . have q:=g.o.1 (DN ae y);obtain⟨s5,a5,l5,c5,t5,b5,k5,d5,n5,r5,i5,j5⟩:=q.1.1.rat (i:=10) rfl;obtain⟨e0,e1,e2,e3⟩:=n5.cq;clear f;refine Da ?_;exact⟨(Dy d λ_ _=>r5),g⟩
       . have Qa:D 15=false:=DN ae y;have h0:=EB d (f 10 O) Qa;have h1:=EW d (f 11 O) Qa;clear f;have HC:=Z λ(n9:Nat)=>BX l ((BG (n:=n9)).2 (Iz _ _ c (cf qs j) V h0 h1 Ws.o (Qo.o j)));clear h0 h1;refine BO rfl λK hK=>?_;go_simp;gi_wp2_with(refine⟨trivial,?_⟩;gi_at_call 52;refine(HC.o _).mono ?_;rintro e w5 ⟨v5,rfl,an,ad⟩)
         obtain⟨G0,G1,G2,G3,G4,G5,G6,G7,G8,G9,ap,bf,_,bg,am⟩:=d.o;exact E8 ⟨_,_,_,_,_,_,_,rfl,Z ⟨G0,G1,G2,G3,G4,G5,G6,G7,G8,λh x=>(G9 h x).below ad,λh x=>(ap h x).below ad,λh x=>(bf h x).below ad,λ_ _=>an,λh x=>(bg h x).below ad,am⟩,Z ⟨λh=>(g.o.1 h).below ad,λh=>(g.o.2 h).below ad⟩⟩
       . have Qa:D 15=false:=DN ae y;have h0:=FP d (f 9 O) Qa;have h1:=Ea d (f 12 O) Qa;clear f;have HC:=Z λ(n9:Nat)=>BX l ((BG (n:=n9)).2 (Kp _ _ (cf X t1) (c*cf qs j) V h0 h1 Wl.o (Ub.o j)));clear h0 h1;refine BO rfl λK hK=>?_;go_simp;gi_wp2_with(refine⟨trivial,?_⟩;gi_at_call 51;refine(HC.o _).mono ?_;rintro e w5 ⟨v5,rfl,an,ad⟩)
         obtain⟨G0,G1,G2,G3,G4,G5,G6,G7,G8,G9,ap,bf,aq,_,am⟩:=d.o;exact E8 ⟨_,_,_,_,_,_,_,rfl,Z ⟨G0,G1,G2,G3,G4,G5,G6,G7,G8,λh x=>(G9 h x).below ad,λh x=>(ap h x).below ad,λh x=>(bf h x).below ad,λh x=>(aq h x).below ad,λ_ _=>an,am⟩,Z ⟨λh=>(g.o.1 h).below ad,λh=>(g.o.2 h).below ad⟩⟩
       . obtain rfl:=d.o.1 (f 0 O);obtain rfl:=d.o.2.2.2.1 (f 3 O);clear f;refine Da ?_;exact⟨(F0 (Dd (Dc d))),g⟩
       . have q:=g.o.1 y;have h0:=F1 d (f 13 O) y;obtain rfl:=d.o.2.2.2.2.2.2.2.2.2.2.2.2.2.2 (f 14 O);have hE:=q.1.1.rats (i:=4) rfl;obtain⟨xa,xb,xc,xd,e0,e1,e2,e3,_⟩:=hE.at Qz.o;have f0:=hE.frozen (t1*4);have f1:=hE.frozen (t1*4+1);have f2:=hE.frozen (t1*4+2);have f3:=hE.frozen (t1*4+3);obtain⟨s9,a9,l9,c9,t9,b9,k9,d9,rfl⟩:=Jj.form h0;have Qe:∃cs,V.heap[gR]?=some (H cs 65 (0,0)):=by obtain⟨cs,h1,_⟩:=hE;exact⟨cs,h1⟩
         clear f;refine Da ?_;exact⟨(F0 (D9 (D4 (Dy (Du (Ef d λ_ h=>by simp at h) λ_ h=>by simp at h) λ_ h=>by simp at h) λ_ h=>by simp at h) λ_ h=>by simp at h)),Z ⟨λh=>by simp at h,λ_=>⟨q.1.upd (q.1.1.putRats (i:=4) rfl Qz.o h0) (λB hB=>Iy hB _ _ _ _) (by obtain⟨cs,h1⟩:=Qe;exact Ms q.1.2.1 h1) λe=>q.1.1.ne 4 6 rfl rfl DL e.symm,q.2.trans (Pc _ _ _ _ _ _ _)⟩⟩⟩
      case fin2=>
       rintro D ah V ai ⟨tt,tu,tv,tw,tx,ty,tz,tA,tB,tD,tE,tF,tG,tH,tI,rfl,d,g⟩;have h3:=g.o.2 (ai 15 DL);rw[Wo.o]at h3;have HO:=Z (show Ex w W V (Em w pa (some ⟨bq,0,none⟩) la pc lb U m gR rc B5 (B5+1) (B5+1+1) (B5+1+1+1) (Yz R i (-c) qs (j+1)) (Q.set i c)++[some (Bc,.rat c)]) B4 (n:Int) (B5+1) i from⟨⟨h3.1.1.take 10,h3.1.2⟩,h3.2⟩);clear d g ai h3;gi_wp2_with fail
       go_roundw
       case rel=>exact⟨j+1,Y,by go_num,HO⟩
       case measure=>simp[intOf];omega
    . obtain rfl:j=lb:=Y
      gi_wp2_with fail
      refine⟨HJ.o.2.from _,?_⟩;have h3:=HJ.o.1.1.take 9;rw[Qj.o]at h3;show Ew w wr (Em w pa _ la pc _ U m gR rc B5 (B5+1) (B5+1+1) (B5+1+1+1) (Jz ps qs n m (k+1)).2 (Jz ps qs n m (k+1)).1) B4 (n:Int) (B5+1) (m-(k+1));rw[Uh.o,Qf.o.2.2.2.2.2];refine⟨?_,HJ.o.1.2⟩;have Qp:=Qj.o;rw[<-Qp];rw[<-Qp]at h3;exact h3
 case done=>
  intro DC W hD hS hK;have Un:=(YV ps qs n m m).2;have Uv:=(YV ps qs n m m).1;have Qc:cf qs n≠0:=by
   have:=Jw Uk.o Uw.o;rwa[show qs.length-1=n by have:=HN.o;have:=Qj.o;omega]at this
  obtain⟨z,Ug,bu,ak,bn⟩:=HL.o m (Aa _);have Ud:Jt ps qs=Jd (Jz ps qs n m m).1:=by unfold Jt;rw[show qs.length-1=n by have:=HN.o;have:=Qj.o;omega,show ps.length-n=m by have:=HN.o;have:=Qg.o;omega]
  have Ua:JZ ps qs=Jd (Jz ps qs n m m).2:=by unfold JZ;rw[show qs.length-1=n by have:=HN.o;have:=Qj.o;omega,show ps.length-n=m by have:=HN.o;have:=Qg.o;omega]
  obtain⟨R,hR⟩:=ex ((Jz ps qs n m m).2);obtain⟨Q,hQ⟩:=ex ((Jz ps qs n m m).1);rw[hR]at Un ak Ua;rw[hQ]at Uv bn Ud;rw[hR,hQ]at hS;have Uf:=Z (show Sqs R from Sqs.of λi=>Sq.of (ak i) Y);have f9:=Z (show Sqs Q from Sqs.of λi=>Sq.of (bn i) Y);have Wb:RowK true W (C (some ⟨gR,0,none⟩) la rc) R:=by
   have h:=(hS.1.rats (i:=4) rfl).row (n:=la) (cap:=rc) (by have:=Qg.o;omega) (by have:=Ur.o;omega) (by have:=Ur.o;omega) fo;rwa[Ag (by have:=Qg.o;omega)]at h
  have Us:RowK true W (C (some ⟨B5+1,0,none⟩) m m) Q:=by
   have h:=(hS.1.rats (i:=6) rfl).row (n:=m) (cap:=m) Y (Aa _) Y Ql;rwa[Ag Y]at h
  have Qm:GW w W.drew DC B5 (B5+1+1) (C (some ⟨gR,0,none⟩) la rc) (C (some ⟨B5+1,0,none⟩) m m) R Q:=
   GW.below ⟨(hS.1.cell (i:=2) rfl).1,(hS.1.cell (i:=3) rfl).1,(hS.1.cell (i:=5) rfl).1,(hS.1.cell (i:=7) rfl).1,Wb,Us,hS.1.2.2,hK⟩ ((BE _ W).drew)
  have Wt:K1 false w W.drew DC F:=λe=>by cases e
  obtain⟨Wk,Wm,Wn⟩:=Dh Ud Ua (show w.heap.size<=DC by have:=Wc.o;omega);clear hS Un Uv bu ak bn Ug Ud Ua hR hQ Qc Wb Us hK Qq;gi_wp2_with fail
  refine J1 Uc [[],[0],[],[2,1],[1,3,0,1],[3,4,0,1,2,3,4],[5,0,1,2,3,4,5]] (by kernel_rfl) DL
   (λD ah V=>∃(tJ tK tL tM tC:S),ah={ tmps:=#[T #[C pa la pc],T #[C qa lb U],G (some ⟨w.heap.size,0,none⟩),G (some ⟨w.heap.size+1,0,none⟩),G (some ⟨w.heap.size+1+1,0,none⟩),G (some ⟨w.heap.size+1+1+1,0,none⟩),tC,G (some ⟨B4,0,none⟩),G (some ⟨B5,0,none⟩),G (some ⟨B5+1+1,0,none⟩),F,F,F,F,F,T #[C qa lb U],L M ↑n,L M ↑n,I (decide ((n:Int)<0)),F,F,G (some ⟨w.heap.size,0,none⟩),C pa la pc,C (some ⟨gR,0,none⟩) la rc,C (some ⟨gR,0,none⟩) la rc,L M ↑la,L M ↑n,L M ↑m,L M ↑m,C (some ⟨B5+1,0,none⟩) m m,C (some ⟨B5+1,0,none⟩) m m,.func (.func 67) #[] #[G (some ⟨B5+1+1+1,0,none⟩)],F,F,F,F,F,F,F,F,F,F,F,F,F,F,F,F,F,F,F,F,F,F,F,F,F,F,F,F,F,F,F,F,F,F,F,F,F,F,F,F,F,F,F,F,F,tJ,tK,tL,tM],defers:={ target:=.collected DC,args:=#[] }::[] }/\Hid ((D 0=true->tJ=C (some ⟨B5+1,0,none⟩) m m)/\(D 1=true->D 5=false->Jc V tK (Jd Q))/\(D 2=true->tL=C (some ⟨gR,0,none⟩) la rc)/\(D 3=true->D 5=false->Jc V tM (Jd R))/\(D 6=true->tC=I true))/\Hid ((D 4=false->GW w V DC B5 (B5+1+1) (C (some ⟨gR,0,none⟩) la rc) (C (some ⟨B5+1,0,none⟩) m m) R Q)/\(D 4=true->IP V))/\Hid ((D 5=false->K1 (D 4) w V DC tK)/\(D 5=true->P7 w V DC tK tM (Jd Q) (Jd R))))
   ⟨_,_,_,_,_,rfl,Z O,Z ⟨λ_=>Qm,O⟩,Z ⟨λ_=>Wt,O⟩⟩ ?step3 ?fin3
  case step3=>
   rintro D ah V i ds ae hi f y ⟨tJ,tK,tL,tM,tC,rfl,d,g,af⟩;have Up:i<7:=(Af.1 hi).1;obtain rfl|rfl|rfl|rfl|rfl|rfl|rfl:=Gt i Y
   all_goals
    simp only[Aj,Ah,Al]at hi;subst hi
   . have q:=g.o.1 (DN ae y);have Qk:=af.o.1 (DN ae y);have e6:=q.2.2.2.1.cell;clear f;refine Da ?_;exact⟨(Dc d),g,af⟩
   . have Qa:D 4=false:=DN ae y;have q:=g.o.1 Qa;have Qd:D 5=false:=DN ae y;have Qk:=af.o.1 Qd;obtain rfl:=d.o.1 (f 0 O);clear f;have HC:=Z λ(n9:Nat)=>(BG (n:=n9)).2 (GP _ Q V q.2.2.2.2.2.1 f9.o);refine BO rfl λK hK=>?_;go_simp;gi_wp2_with(refine⟨trivial,?_⟩;gi_at_call 27;refine(HC.o _).mono ?_;rintro e w5 ⟨v5,rfl,an,_,ad⟩)
     exact⟨_,_,_,_,_,rfl,Z ⟨λ_=>rfl,λ_ _=>an,d.o.2.2.1,λh x=>(d.o.2.2.2.1 h x).below ad,d.o.2.2.2.2⟩,Z ⟨λh=>(g.o.1 h).below ad,λh=>(g.o.2 h).below ad⟩,Z ⟨λ_=>(λe=>by simp[Qa]at e),λh=>by simp[Qd]at h⟩⟩
   . have Qa:D 4=false:=DN ae (DN (a:=3) ae y);have q:=g.o.1 Qa;have Qk:=af.o.1 (DN ae y);have e5:=q.2.2.1.cell;clear f;refine Da ?_;exact⟨Z ⟨d.o.1,d.o.2.1,λ_=>rfl,d.o.2.2.2.1,d.o.2.2.2.2⟩,g,af⟩
   . have Qa:D 4=false:=DN ae y;have q:=g.o.1 Qa;have Qd:D 5=false:=DN ae y;have Qk:=af.o.1 Qd;obtain rfl:=d.o.2.2.1 (f 2 O);clear f;have HC:=Z λ(n9:Nat)=>(BG (n:=n9)).2 (GP _ R V q.2.2.2.2.1 Uf.o);refine BO rfl λK hK=>?_;go_simp;gi_wp2_with(refine⟨trivial,?_⟩;gi_at_call 27;refine(HC.o _).mono ?_;rintro e w5 ⟨v5,rfl,an,_,ad⟩)
     exact⟨_,_,_,_,_,rfl,Z ⟨d.o.1,λh x=>(d.o.2.1 h x).below ad,λ_=>rfl,λ_ _=>an,d.o.2.2.2.2⟩,Z ⟨λh=>(g.o.1 h).below ad,λh=>(g.o.2 h).below ad⟩,Z ⟨λ_=>(λe=>by simp[Qa]at e),λh=>by simp[Qd]at h⟩⟩
   . have q:=g.o.1 y;have Qd:D 5=false:=DN ae y;have Qk:=af.o.1 Qd;have h0:=d.o.2.1 (f 1 O) Qd;obtain⟨a9,l9,c9,rfl⟩:=Jc.form h0;have Qn:=q.1;have e0:=Qn.cell;have f0:=Qn.frozen;have Qy:w.heap.size+1+1+1≠w.heap.size+1+1:=Y
     clear f;refine Da ?_;obtain⟨G0,G1,G2,G3,G4⟩:=d.o;exact⟨Z ⟨G0,λh x=>(G1 h x).setP Qn _,G2,λh x=>(G3 h x).setP Qn _,G4⟩,Z ⟨λh=>by simp at h,λ_=>trivial⟩,Z ⟨λ_=>(λ_=>⟨_,rfl,Qn.set _,(BC V ⟨w.heap.size+1+1,0,none⟩ _ _ Qy).trans q.2.1,q.2.2.2.2.2.2.1.setCell (p:=⟨w.heap.size+1+1,0,none⟩) (by show w.heap.size<=w.heap.size+1+1;omega) _,(BK V ⟨w.heap.size+1+1,0,none⟩ _).same DC _ q.2.2.2.2.2.2.2 rfl⟩),λh=>by simp[Qd]at h⟩⟩
   . have Qk:=af.o.1 y;have h0:=d.o.2.1 (f 1 O) y;have h1:=d.o.2.2.2.1 (f 3 O) y;have Wq:=f 4 O;obtain⟨v2,rfl,bi,bj,ct,bm⟩:=Qk (f 4 O);obtain⟨a9,l9,c9,rfl⟩:=Jc.form h1;have e0:=bj.cell;have f0:=bj.frozen;have Qy:w.heap.size+1+1≠w.heap.size+1+1+1:=Y
     clear f;refine Da ?_;exact⟨Z ⟨d.o.1,λ_ h=>by simp at h,d.o.2.2.1,λ_ h=>by simp at h,d.o.2.2.2.2⟩,Z ⟨λh=>by simp[Wq]at h,λ_=>trivial⟩,Z ⟨λh=>by simp at h,λ_=>⟨_,_,rfl,rfl,(BC V ⟨w.heap.size+1+1+1,0,none⟩ _ _ Qy).trans bi,bj.set _,h0.setP bj _,h1.setP bj _,ct.setCell (p:=⟨w.heap.size+1+1+1,0,none⟩) (by show w.heap.size<=w.heap.size+1+1+1;omega) _,(BK V ⟨w.heap.size+1+1+1,0,none⟩ _).same DC _ bm rfl⟩⟩⟩
   . clear f;refine Da ?_;exact⟨Z ⟨d.o.1,d.o.2.1,d.o.2.2.1,d.o.2.2.2.1,λ_=>rfl⟩,g,af⟩
  case fin3=>
   rintro E ah V ai ⟨tJ,tK,tL,tM,tC,rfl,d,g,af⟩;obtain⟨v,v',rfl,rfl,g2,g3,fj,fk,ct,bm⟩:=af.o.2 (ai 5 DL);obtain rfl:=d.o.2.2.2.2 (ai 6 DL);clear d g af ai;gi_wp2;refine⟨O,.inl ⟨_,_,rfl,BW bm,?_⟩⟩;have hg:=BU V DC (.deferred none);have Qv:∀r,some DC=some r->∃o:Obj,V.heap[r]?=some o/\o.isCells=false:=λr e=>by cases e;exact⟨_,bm,rfl⟩
   have q2:Boxed _ (w.heap.size+1+1) 25 v:=Y8 hg Qv (show Bx V (w.heap.size+1+1) 25 #[v]from g2);have q3:Boxed _ (w.heap.size+1+1+1) 25 v':=Y8 hg Qv (show Bx V (w.heap.size+1+1+1) 25 #[v']from g3);have x2:=q2.cell;have x3:=q3.cell;refine⟨.tuple #[T #[v],T #[v'],I true],by simp[results,Tryz.results22,go_sem,x2,x3],_,_,rfl,?_,?_,?_⟩
   . rw[Wk.o];obtain⟨u,e,h⟩:=fj;exact⟨u,e,Ho hg Qv h⟩
   . rw[Wm.o];obtain⟨u,e,h⟩:=fk;exact⟨u,e,Ho hg Qv h⟩
   . exact ct.trans (DK (w:=w) (Aa _) _ DC _ _ Wn.o bm rfl rfl)
end Go.Proofs.YteldjhhjnchdeaaGreatDoor.M3
