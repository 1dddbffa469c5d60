import Derived.Test.YtakpoihdghihmaaGreatDoorR41
open Go.Value renaming slice->B,pointer->F,int->H,bool->L,agg->P
open Go renaming undef->C
open Go.Obj renaming cells->G
open Go.IntKind renaming i64->I
set_option maxRecDepth 100000
set_option maxHeartbeats 16000000
namespace Go.Proofs.YtakpoihdghihmaaGreatDoor
namespace M3
open Go.RowKit Go.Shelf
attribute [local go_sem] Oper.semAt_some
def Kj(w V:World)(B5 b c:Nat)(rs a:Value)(R:List Rat):Prop:=
 Boxed V (w.heap.size+1+1) 25 (B none 0 0)/\Boxed V (w.heap.size+1+1+1) 25 (B none 0 0)/\Boxed V B5 23 rs/\Boxed V b 23 a/\Boxed V c 23 a/\RowK true V rs R/\Bl w V
variable{S ps:List Rat}{n:Nat}{row:Option Nat}{V V':World}
theorem boxed_own(a:V.grownBy V' row)(b:∀r,row=some r->∃o:Obj,V.heap[r]?=some o/\o.isCells=false){B:Nat}{t:TypeId}{v:Value}(h:Boxed V B t v):Boxed V' B t v:=Yc a b (show Bx V B t #[v]from h)
theorem Kj.own{w:World}{B5 c d:Nat}{rs g:Value}{R:List Rat}(h:Kj w V B5 c d rs g R)(a:V.grownBy V' row)(f:∀x,row=some x->w.heap.size<=x/\∃o:Obj,V.heap[x]?=some o/\o.isCells=false):Kj w V' B5 c d rs g R:=by
 have b:∀r,row=some r->∃o:Obj,V.heap[r]?=some o/\o.isCells=false:=λr e=>(f r e).2;exact⟨boxed_own a b h.1,boxed_own a b h.2.1,boxed_own a b h.2.2.1,boxed_own a b h.2.2.2.1,boxed_own a b h.2.2.2.2.1,Hj a b h.2.2.2.2.2.1,h.2.2.2.2.2.2.grown a h.2.2.2.2.2.2.size λk e=>(f k e).1⟩
theorem row_zero(V:World)(a:Option Addr):RowK true V (B a 0 0) []:=⟨a,0,rfl,Aa _,O,Z,Or.inl rfl⟩
theorem bF(x:Value)(ps:List Rat)(y:Value)(w:World)(t:Je w x ps)(m:Je w y []):
 Calls Tryz.prog 139 #[x,y] w λe n=>e=.returned (.tuple #[P #[B none 0 0],P #[B none 0 0],L false])/\Bl w n:=by
 obtain⟨f,la,g,rfl⟩:=t.form;obtain⟨b,lb,c,rfl⟩:=m.form;have j:Mem w _ _:=((((Mem.nil w).push (.cell 25 (B f la g)) (cs:=#[B f la g]) ⟨rfl,rfl⟩).push (.cell 25 (B b lb c)) (cs:=#[B b lb c]) ⟨rfl,rfl⟩).push (.cell 25 (B none 0 0)) (cs:=#[B none 0 0]) ⟨rfl,rfl⟩).push (.cell 25 (B none 0 0)) (cs:=#[B none 0 0]) ⟨rfl,rfl⟩;simp only[Ax]at j;obtain⟨d,l⟩:=ex ((((w.alloc (G #[B f la g] 25)).alloc (G #[B b lb c] 25)).alloc (G #[B none 0 0] 25)).alloc (G #[B none 0 0] 25));have k:Mem w d [some (w.heap.size,.cell 25 (B f la g)),some (w.heap.size+1,.cell 25 (B b lb c)),some (w.heap.size+1+1,.cell 25 (B none 0 0)),some (w.heap.size+1+1+1,.cell 25 (B none 0 0))]:=by rw[<-l];exact j
 obtain⟨q,r,A⟩:=Db (show Calls Tryz.prog 30 #[P #[B b lb c]] d λe n=>e=.returned (H I (-1))/\Bl d n from JX (P #[B b lb c]) [] d (m.below k.2.2)) k l;clear t m j k l;go_enter Tryz.func139,Tryz.ntmps139
 go_upto_region 1 with fail
 rw[A.o];have c1:=(r.o.cell (i:=1) rfl).1.cell;go_wp2_with(go_at_call 30;refine q.o.mono ?_;clear q;rintro e o ⟨rfl,u⟩;have s:Bl o (o.alloc (G #[H I (-1)] 3)):=Ba o _;have a:=(r.o.below u).below s;have D:=(a.cell (i:=2) rfl).1.cell;have f2:=(a.cell (i:=2) rfl).1.frozen;have E:=(a.cell (i:=3) rfl).1.cell;have f3:=(a.cell (i:=3) rfl).1.frozen;have z:=Ja a.2.2;clear s a u)
 refine BB (v:=.tuple #[P #[B none 0 0],P #[B none 0 0],L false]) (by simp[results,Tryz.results139,go_sem,D,E]) rfl ⟨rfl,?_⟩;exact((z.o.setCell (p:=⟨w.heap.size+1+1,0,none⟩) (by show w.heap.size<=w.heap.size+1+1;omega) _).setCell (p:=⟨w.heap.size+1+1+1,0,none⟩) (by show w.heap.size<=w.heap.size+1+1+1;omega) _)
theorem bG(M z:Option Addr)(la N lb A n:Nat)(ps qs:List Rat)(w:World)(ha:RowK true w (B M la N) ps)(hb:RowK true w (B z lb A) qs)(hs:Sqs ps)(bf:Jd ps=ps)(hn:lb=n+1)(hm:la<=n):
 Calls Tryz.prog 139 #[P #[B M la N],P #[B z lb A]] w λe w'=>∃u v,e=.returned (.tuple #[u,v,L true])/\Je w' u []/\Je w' v ps/\Bl w w':=by
 have Qz:Tryz.prog.follows .mixedOrders=true:=by kernel_rfl
 obtain⟨bc,bg,bi,bn,_⟩:=ha.forms;obtain⟨bl,bh,bj,bt,_⟩:=hb.forms;have M0:Mem w _ _:=((((Mem.nil w).push (.cell 25 (B M la N)) (cs:=#[B M la N]) ⟨rfl,rfl⟩).push (.cell 25 (B z lb A)) (cs:=#[B z lb A]) ⟨rfl,rfl⟩).push (.cell 25 (B none 0 0)) (cs:=#[B none 0 0]) ⟨rfl,rfl⟩).push (.cell 25 (B none 0 0)) (cs:=#[B none 0 0]) ⟨rfl,rfl⟩;simp only[Ax]at M0;obtain⟨V0,an⟩:=ex ((((w.alloc (G #[B M la N] 25)).alloc (G #[B z lb A] 25)).alloc (G #[B none 0 0] 25)).alloc (G #[B none 0 0] 25));have M1:Mem w V0 [some (w.heap.size,.cell 25 (B M la N)),some (w.heap.size+1,.cell 25 (B z lb A)),some (w.heap.size+1+1,.cell 25 (B none 0 0)),some (w.heap.size+1+1+1,.cell 25 (B none 0 0))]:=by rw[<-an];exact M0
 have Qw:=Ja M1;have Qv:=Ja (show Calls Tryz.prog 30 #[P #[B z lb A]] V0 λe w'=>e=.returned (H I (n:Int))/\Bl V0 w' by
  have h:=JX (P #[B z lb A]) qs V0 ⟨_,rfl,hb.below M1.2.2⟩;rwa[show((qs.length:Int)-1)=(n:Int)by omega]at h)
 have Qs:=Ja λ(V:World) (h:Bl w V)=>QL (B M la N) ps V (ha.below h);have bz:∀W:World,(Instr.makeSlice 23 (H I 0) (H I 0)).run Tryz.prog W=.ok (B (some ⟨W.heap.size,0,none⟩) 0 0) (W.alloc (G (Yb 0) 37)):=λW=>I0 0 O W;obtain⟨x,hx⟩:=ex ((la:Int)-(n:Int):Int);have ce:IntKind.i64.wrap x=x:=by rw[BO];omega
 have bu:max (0:Int) x=0:=O
 obtain⟨Ua,Uf,Ud,Qu⟩:=Dr hs bf bc an;clear ha hb bc bl bg bi bh bj hs bf hn hm M0 M1 an;refine(BH (n:=3)).1 ?_;refine BN Tryz.func139 rfl trivial ?_ rfl;simp only[Tryz.ntmps139,As,Af,Ay,Nat.reduceAdd,Nat.reduceSub,Av,Aw,AG,AC,Ar,Au];gi_wp2_with fail
 rw[Qu.o];refine⟨trivial,?_⟩;refine((BH (n:=_)).2 Qv.o).mono ?_;rintro e w1 ⟨rfl,az⟩;have Qm:Bl w1 (w1.alloc (G #[H I (n:Int)] 3)):=Ba w1 _;have Qi:=(Qw.o.below az).below Qm;have h4:=BG w1 3 (H I (n:Int));have c0:=(Qi.cell (i:=0) rfl).1.cell;obtain⟨Qe,Qk,H4⟩:=Db (Qs.o _ Qi.2.2) Qi h4;clear Qm Qi h4 az Qv Qu Qw Qs;gi_wp2_with fail
 obtain⟨V1,ap⟩:=ex (w1.alloc (G #[H I (n:Int)] 3));obtain⟨B4,aj⟩:=ex (w1.heap.size);rw[ap]at Qe Qk H4 c0;rw[aj]at H4;rw[ap,aj];clear ap aj;refine⟨trivial,?_⟩;refine((BH (n:=_)).2 Qe.o).mono ?_;rintro e d ⟨u2,rfl,ax,_,ae,_⟩;obtain⟨f,rc,e9,_⟩:=id ax;rw[<-Ud.o]at e9;subst e9;have Qn:=Qk.o.below ae;have h4:Boxed d B4 3 (H I (n:Int)):=(ae.block B4 H4.o.lt).trans H4.o;have Ql:Bl d (d.alloc (G #[B f la rc] 23)):=Ba d _;have Qo:=Qn.push (.cell 23 (B f la rc)) (cs:=#[B f la rc]) ⟨rfl,rfl⟩;have h5:Boxed (d.alloc (G #[B f la rc] 23)) B4 3 (H I (n:Int)):=(Ql.block B4 h4.lt).trans h4;have c4:=h5.cell;have Qp:=Ja Qo;have Qt:=Ja (ax.below Ql);clear ax ae Qn h4 Ql Qo h5 Qk H4 Qe c0;gi_wp2_with fail
 refine⟨trivial,?_⟩;refine(LY Fence.wide _ trivial rfl _ _ _ _).mono ?_;rintro e w3 ⟨rfl,rfl⟩;have S:=((Qp.o.push (.rats (List.replicate 0 0)) (Ki _ 0)).push (.cell 23 (B (some ⟨d.heap.size+1,0,none⟩) 0 0)) (cs:=#[B (some ⟨d.heap.size+1,0,none⟩) 0 0]) ⟨rfl,rfl⟩).push (.cell 23 (B (some ⟨d.heap.size+1,0,none⟩) 0 0)) (cs:=#[B (some ⟨d.heap.size+1,0,none⟩) 0 0]) ⟨rfl,rfl⟩;simp only[Ax]at S;have Qq:Below (d.alloc (G #[B f la rc] 23)).heap.size (d.alloc (G #[B f la rc] 23)) ((((d.alloc (G #[B f la rc] 23)).alloc (G (Yb 0) 37)).alloc (G #[B (some ⟨d.heap.size+1,0,none⟩) 0 0] 23)).alloc (G #[B (some ⟨d.heap.size+1,0,none⟩) 0 0] 23)):=
  ((Ba _ _).alloc (by simp only[Ax];omega) _).alloc (by simp only[Ax];omega) _
 have hF:Kj w ((((d.alloc (G #[B f la rc] 23)).alloc (G (Yb 0) 37)).alloc (G #[B (some ⟨d.heap.size+1,0,none⟩) 0 0] 23)).alloc (G #[B (some ⟨d.heap.size+1,0,none⟩) 0 0] 23)) d.heap.size (d.heap.size+1+1) (d.heap.size+1+1+1) (B f la rc) (B (some ⟨d.heap.size+1,0,none⟩) 0 0) ps:=
  ⟨(S.cell (i:=2) rfl).1,(S.cell (i:=3) rfl).1,(S.cell (i:=4) rfl).1,(S.cell (i:=6) rfl).1,(S.cell (i:=7) rfl).1,Qt.o.below Qq,S.2.2⟩
 obtain⟨W3,aq⟩:=ex ((((d.alloc (G #[B f la rc] 23)).alloc (G (Yb 0) 37)).alloc (G #[B (some ⟨d.heap.size+1,0,none⟩) 0 0] 23)).alloc (G #[B (some ⟨d.heap.size+1,0,none⟩) 0 0] 23));rw[aq]at hF;rw[aq];simp only[Ax];obtain⟨B5,ak⟩:=ex (d.heap.size);rw[ak]at hF;rw[ak];have HF:=Ja hF;clear S Qq hF aq ak Qp Qt c4;gi_wp2_with fail
 have Qr:=Ja (show w.heap.size<=W3.heap.size from HF.o.2.2.2.2.2.2.size);refine Xd rfl O (gf:=170) (lb:=#[F (some ⟨B5+1+1+1,0,none⟩)]) rfl trivial (Bg Tryz.func170 (by kernel_rfl) rfl)
  (LX Fence.wide _ trivial rfl O (B5+1+1+1) (some ⟨B5+1,0,none⟩) 0 0 (λ_=>L false) (λ_=>B none 0 0) (λ_=>L false) (λ_=>B none 0 0) O) (λ_=>rfl)
  (λ_ W=>Kj w W B5 (B5+1+1) (B5+1+1+1) (B f la rc) (B (some ⟨B5+1,0,none⟩) 0 0) ps) (λ_ _ _=>False)
  (λk W W' row h hg hr=>h.own hg λr e=>⟨An Qr.o (hr r e).1,(hr r e).2⟩)
  (λc s W W' row h=>h.elim) HF.o ?rd
  (λk=>{ tmps:=#[P #[B M la N],P #[B z lb A],F (some ⟨w.heap.size,0,none⟩),F (some ⟨w.heap.size+1,0,none⟩),F (some ⟨w.heap.size+1+1,0,none⟩),F (some ⟨w.heap.size+1+1+1,0,none⟩),L false,F (some ⟨B4,0,none⟩),F (some ⟨B5,0,none⟩),F (some ⟨B5+1+1,0,none⟩),H I (((0:Nat):Int)-1-k),C,C,C,C,P #[B z lb A],H I ↑n,H I ↑n,L (decide ((n:Int)<0)),C,C,F (some ⟨w.heap.size,0,none⟩),B M la N,B f la rc,B f la rc,H I ↑la,H I ↑n,H I x,H I 0,B (some ⟨B5+1,0,none⟩) 0 0,B (some ⟨B5+1,0,none⟩) 0 0,.func (.func 170) #[] #[F (some ⟨B5+1+1+1,0,none⟩)],H I (((0:Nat):Int)-1-k),P #[L false,B none 0 0,L false,B none 0 0],C,C,C,C,C,C,C,C,C,C,C,C,C,C,C,C,C,C,C,C,C,C,C,C,C,C,C,C,C,C,C,C,C,C,C,C,C,C,C,C,C,C,C,C,C,C,C],defers:=[] }) ?assign ?body ?done ?stop
 case stop=>intro D c k W _ _ h;exact h.elim
 case rd=>
  intro k W h;exact⟨h.2.2.2.2.1.cell,λhk=>by omega⟩
 case assign=>
  intro l k W K hK;unfold Iz;gi_wp2;exact hK
 case body=>intro l k W T hk;omega
 case done=>
  intro q W hD T hK;have Qx:Gw w W.drew q B5 (B5+1+1) (B f la rc) (B (some ⟨B5+1,0,none⟩) 0 0) ps []:=
   Gw.below ⟨T.1,T.2.1,T.2.2.1,T.2.2.2.1,T.2.2.2.2.2.1,row_zero _ _,T.2.2.2.2.2.2,hK⟩ ((BF _ W).drew)
  have Ub:Lo false w W.drew q C:=λe=>by cases e
  have Qy:=Ja (show w.heap.size<=q by have:=Qr.o;omega);have Uc:=Ja (show Sqs []from Sqs.of λi=>Sq.of (k:=1) (by rw[YH];exact DQ.zero 1 O) O);clear T hK HF;gi_wp2_with fail
  refine JU Qz [[],[0],[],[2,1],[1,3,0,1],[3,4,0,1,2,3,4],[5,0,1,2,3,4,5]] (by kernel_rfl) DF
   (λD ai V=>∃(tb tc td te ta:Value),ai={ tmps:=#[P #[B M la N],P #[B z lb A],F (some ⟨w.heap.size,0,none⟩),F (some ⟨w.heap.size+1,0,none⟩),F (some ⟨w.heap.size+1+1,0,none⟩),F (some ⟨w.heap.size+1+1+1,0,none⟩),ta,F (some ⟨B4,0,none⟩),F (some ⟨B5,0,none⟩),F (some ⟨B5+1+1,0,none⟩),C,C,C,C,C,P #[B z lb A],H I ↑n,H I ↑n,L (decide ((n:Int)<0)),C,C,F (some ⟨w.heap.size,0,none⟩),B M la N,B f la rc,B f la rc,H I ↑la,H I ↑n,H I x,H I 0,B (some ⟨B5+1,0,none⟩) 0 0,B (some ⟨B5+1,0,none⟩) 0 0,.func (.func 170) #[] #[F (some ⟨B5+1+1+1,0,none⟩)],C,C,C,C,C,C,C,C,C,C,C,C,C,C,C,C,C,C,C,C,C,C,C,C,C,C,C,C,C,C,C,C,C,C,C,C,C,C,C,C,C,C,C,C,C,tb,tc,td,te],defers:={ target:=.collected q,args:=#[] }::[] }/\Hid ((D 0=true->tb=B (some ⟨B5+1,0,none⟩) 0 0)/\(D 1=true->D 5=false->Je V tc (Jd []))/\(D 2=true->td=B f la rc)/\(D 3=true->D 5=false->Je V te (Jd ps))/\(D 6=true->ta=L true))/\Hid ((D 4=false->Gw w V q B5 (B5+1+1) (B f la rc) (B (some ⟨B5+1,0,none⟩) 0 0) ps [])/\(D 4=true->I9 V))/\Hid ((D 5=false->Lo (D 4) w V q tc)/\(D 5=true->RL w V q tc te (Jd []) (Jd ps))))
   ⟨_,_,_,_,_,rfl,Ja Z,Ja ⟨λ_=>Qx,Z⟩,Ja ⟨λ_=>Ub,Z⟩⟩ ?step1 ?fin1
  case step1=>
   rintro D ai V i ds Q hi j m ⟨tb,tc,td,te,ta,rfl,b,g,y⟩;have bm:i<7:=(Ac.1 hi).1;obtain rfl|rfl|rfl|rfl|rfl|rfl|rfl:=Hv i O
   all_goals
    simp only[Ai,Ag,Ak]at hi;subst hi
   . have t:=g.o.1 (DI Q m);have Qf:=y.o.1 (DI Q m);have e6:=t.2.2.2.1.cell;clear j;refine DW ?_;exact⟨(De b),g,y⟩
   . have U:D 4=false:=DI Q m;have t:=g.o.1 U;have R:D 5=false:=DI Q m;have Qf:=y.o.1 R;obtain rfl:=b.o.1 (j 0 Z);clear j;have HC:=Ja λ(n9:Nat)=>(BH (n:=n9)).2 (Gt _ [] V t.2.2.2.2.2.1 Uc.o);refine BM rfl λK hK=>?_;go_simp;gi_wp2_with(refine⟨trivial,?_⟩;gi_at_call 39;refine(HC.o _).mono ?_;rintro e w5 ⟨v5,rfl,ay,_,ad⟩)
     exact⟨_,_,_,_,_,rfl,Ja ⟨λ_=>rfl,λ_ _=>ay,b.o.2.2.1,λh X=>(b.o.2.2.2.1 h X).below ad,b.o.2.2.2.2⟩,Ja ⟨λh=>(g.o.1 h).below ad,λh=>(g.o.2 h).below ad⟩,Ja ⟨λ_=>(λe=>by simp[U]at e),λh=>by simp[R]at h⟩⟩
   . have U:D 4=false:=DI Q (DI (a:=3) Q m);have t:=g.o.1 U;have Qf:=y.o.1 (DI Q m);have e5:=t.2.2.1.cell;clear j;refine DW ?_;exact⟨Ja ⟨b.o.1,b.o.2.1,λ_=>rfl,b.o.2.2.2.1,b.o.2.2.2.2⟩,g,y⟩
   . have U:D 4=false:=DI Q m;have t:=g.o.1 U;have R:D 5=false:=DI Q m;have Qf:=y.o.1 R;obtain rfl:=b.o.2.2.1 (j 2 Z);clear j;have HC:=Ja λ(n9:Nat)=>(BH (n:=n9)).2 (Gt _ ps V t.2.2.2.2.1 Ua.o);refine BM rfl λK hK=>?_;go_simp;gi_wp2_with(refine⟨trivial,?_⟩;gi_at_call 39;refine(HC.o _).mono ?_;rintro e w5 ⟨v5,rfl,ay,_,ad⟩)
     exact⟨_,_,_,_,_,rfl,Ja ⟨b.o.1,λh X=>(b.o.2.1 h X).below ad,λ_=>rfl,λ_ _=>ay,b.o.2.2.2.2⟩,Ja ⟨λh=>(g.o.1 h).below ad,λh=>(g.o.2 h).below ad⟩,Ja ⟨λ_=>(λe=>by simp[U]at e),λh=>by simp[R]at h⟩⟩
   . have t:=g.o.1 m;have R:D 5=false:=DI Q m;have Qf:=y.o.1 R;have h0:=b.o.2.1 (j 1 Z) R;obtain⟨a9,l9,c9,rfl⟩:=Je.form h0;have Qg:=t.1;have e0:=Qg.cell;have f0:=Qg.frozen;have Qj:w.heap.size+1+1+1≠w.heap.size+1+1:=O
     clear j;refine DW ?_;obtain⟨G0,G1,G2,G3,G4⟩:=b.o;exact⟨Ja ⟨G0,λh X=>(G1 h X).setP Qg _,G2,λh X=>(G3 h X).setP Qg _,G4⟩,Ja ⟨λh=>by simp at h,λ_=>trivial⟩,Ja ⟨λ_=>(λ_=>⟨_,rfl,Qg.set _,(BD V ⟨w.heap.size+1+1,0,none⟩ _ _ Qj).trans t.2.1,t.2.2.2.2.2.2.1.setCell (p:=⟨w.heap.size+1+1,0,none⟩) (by show w.heap.size<=w.heap.size+1+1;omega) _,(BI V ⟨w.heap.size+1+1,0,none⟩ _).same q _ t.2.2.2.2.2.2.2 rfl⟩),λh=>by simp[R]at h⟩⟩
   . have Qf:=y.o.1 m;have h0:=b.o.2.1 (j 1 Z) m;have h1:=b.o.2.2.2.1 (j 3 Z) m;have Ue:=j 4 Z;obtain⟨v2,rfl,ae,af,aw,ah⟩:=Qf (j 4 Z);obtain⟨a9,l9,c9,rfl⟩:=Je.form h1;have e0:=af.cell;have f0:=af.frozen;have Qj:w.heap.size+1+1≠w.heap.size+1+1+1:=O
     clear j;refine DW ?_;exact⟨Ja ⟨b.o.1,λ_ h=>by simp at h,b.o.2.2.1,λ_ h=>by simp at h,b.o.2.2.2.2⟩,Ja ⟨λh=>by simp[Ue]at h,λ_=>trivial⟩,Ja ⟨λh=>by simp at h,λ_=>⟨_,_,rfl,rfl,(BD V ⟨w.heap.size+1+1+1,0,none⟩ _ _ Qj).trans ae,af.set _,h0.setP af _,h1.setP af _,aw.setCell (p:=⟨w.heap.size+1+1+1,0,none⟩) (by show w.heap.size<=w.heap.size+1+1+1;omega) _,(BI V ⟨w.heap.size+1+1+1,0,none⟩ _).same q _ ah rfl⟩⟩⟩
   . clear j;refine DW ?_;exact⟨Ja ⟨b.o.1,b.o.2.1,b.o.2.2.1,b.o.2.2.2.1,λ_=>rfl⟩,g,y⟩
  case fin1=>
   rintro E ai V am ⟨tb,tc,td,te,ta,rfl,b,g,y⟩;obtain⟨v,v',rfl,rfl,g2,g3,bk,ba,aw,ah⟩:=y.o.2 (am 5 DF);obtain rfl:=b.o.2.2.2.2 (am 6 DF);clear b g y am;gi_wp2;refine⟨Z,.inl ⟨_,_,rfl,BR ah,?_⟩⟩;have hg:=BU V q (.deferred none);have Qh:∀r,some q=some r->∃o:Obj,V.heap[r]?=some o/\o.isCells=false:=λr e=>by cases e;exact⟨_,ah,rfl⟩
   have q2:Boxed _ (w.heap.size+1+1) 25 v:=Yc hg Qh (show Bx V (w.heap.size+1+1) 25 #[v]from g2);have q3:Boxed _ (w.heap.size+1+1+1) 25 v':=Yc hg Qh (show Bx V (w.heap.size+1+1+1) 25 #[v']from g3);have x2:=q2.cell;have x3:=q3.cell;refine⟨.tuple #[P #[v],P #[v'],L true],by simp[results,Tryz.results139,go_sem,x2,x3],_,_,rfl,?_,?_,?_⟩
   . obtain⟨u,e,h⟩:=bk;exact⟨u,e,Hj hg Qh h⟩
   . rw[Uf.o]at ba;obtain⟨u,e,h⟩:=ba;exact⟨u,e,Hj hg Qh h⟩
   . exact aw.trans (Bz (w:=w) (Aa _) _ q _ _ Qy.o ah rfl rfl)
theorem RM(A:Nat)(j l:Value)(ps qs:List Rat)(w:World)(f:Je w j ps)(g:Je w l qs)(E:Sqs ps)(hq:∀i,DQ A (cf qs i))(n:Jd ps=ps)(K:Jd qs=qs)
(x:qs≠[]->∀k,k<=ps.length-(qs.length-1)->∃z,z+(2*A+1)<=1000000000/\(k<ps.length-(qs.length-1)->2*z+2*(2*A+1)<=1000000000)/\(∀i,DQ z (cf (JF ps qs (qs.length-1) (ps.length-(qs.length-1)) k).2 i))/\∀i,DQ (z+A) (cf (JF ps qs (qs.length-1) (ps.length-(qs.length-1)) k).1 i)):
 Calls Tryz.prog 139 #[j,l] w λe b=>∃u v,e=.returned (.tuple #[u,v,L (decide (qs≠[]))])/\Je b u (if qs=[]then []else Jo ps qs)/\Je b v (if qs=[]then []else JK ps qs)/\Bl w b:=by
 by_cases a:qs=[]
 . subst a;refine(bF j ps l w f g).mono ?_;rintro e b ⟨rfl,h⟩;exact⟨_,_,rfl,⟨_,rfl,RowK.nil _ _⟩,⟨_,rfl,RowK.nil _ _⟩,h⟩
 . have y:decide (qs≠[])=true:=BJ a;rw[y];simp only[BA a];have R:0<qs.length:=Ae.2 a;obtain⟨o,la,p,rfl⟩:=f.form;obtain⟨q,lb,r,rfl⟩:=g.form;have c:=f.row;have d:=g.row;obtain⟨N,_⟩:=c.forms;obtain⟨Q,_⟩:=d.forms;by_cases D:la<=lb-1
   . have m:ps.length-(qs.length-1)=0:=O
     have s:Jo ps qs=[]:=by unfold Jo;rw[m];rfl
     have t:JK ps qs=ps:=by unfold JK;rw[m];exact n
     rw[s,t];exact bG o q la p lb r (lb-1) ps qs w c d E n O D
   . exact bE A o q la p lb r (lb-1) (la-(lb-1)) ps qs w c d hq K a (λk M=>by rw[show lb-1=qs.length-1 by omega,show la-(qs.length-1)=ps.length-(qs.length-1)by omega];exact x a k O) O O O
def KA(ps:List Rat)(n i:Nat)(S:List Rat):Prop:=S.length=n/\∀j,cf S j=if j<i then Gg ps j else 0
theorem KA.next{i:Nat}(h:KA ps n i S)(b:i<n):KA ps n (i+1) (S.set i (Gg ps i)):=by
 refine⟨by rw[CJ];exact h.1,λj=>?_⟩;rw[XS _ _ _ _ (by rw[h.1];exact b),h.2 j];by_cases e:j=i
 . rw[BC e,BC O,e]
 . rw[BA e];by_cases a:j<i
   . rw[BC a,BC O]
   . rw[BA a,BA O]
theorem KA.done(h:KA ps n n S)(a:n=ps.length-1):Jd S=Jb ps:=Hz λj=>by
 rw[h.2 j,Im];split
 . rfl
 . rw[Ye (p:=ps) O,A2]
theorem Lp(v:Value)(ps:List Rat)(w:World)(h:Je w v ps)(az:Sqs ps)(ba:∀i,Sq (Gg ps i)):
 Calls Tryz.prog 38 #[v] w λe w'=>∃u,e=.returned u/\Je w' u (Jb ps)/\Bl w w':=by
 have Qr:Tryz.prog.follows .mixedOrders=true:=by kernel_rfl
 obtain⟨o,la,k,rfl⟩:=h.form;have ha:=h.row;obtain⟨ax,bg,bh,bm,s,t,aa,bb,ll,cc,kk,dd,aq⟩:=ha.forms;have M0:Mem w _ _:=((Mem.nil w).push (.cell 25 (B o la k)) (cs:=#[B o la k]) ⟨rfl,rfl⟩).push (.cell 25 (B none 0 0)) (cs:=#[B none 0 0]) ⟨rfl,rfl⟩;simp only[Ax]at M0;obtain⟨V0,af⟩:=ex ((w.alloc (G #[B o la k] 25)).alloc (G #[B none 0 0] 25));have M1:Mem w V0 [some (w.heap.size,.cell 25 (B o la k)),some (w.heap.size+1,.cell 25 (B none 0 0))]:=by rw[<-af];exact M0
 have Qj:=Ja M1;obtain⟨d,hd⟩:=ex ((ps.length:Int)-1:Int);have Qi:=Ja (JX (P #[B o la k]) ps V0 (h.below M1.2.2));rw[hd]at Qi;obtain⟨n,hn⟩:=ex (ps.length-1:Nat);have Qf:max (0:Int) d=(n:Int):=O
 have Qt:∀W:World,(Instr.makeSlice 23 (H I (n:Int)) (H I (n:Int))).run Tryz.prog W=.ok (B (some ⟨W.heap.size,0,none⟩) n n) (W.alloc (G (Yb n) 37)):=λW=>I0 n O W;obtain⟨HP,Qn,Qp,HN⟩:=Dr aq az ba (show n=ps.length-1/\la=ps.length from⟨hn.symm,ax⟩);have Qe:n<=1099511627776:=O
 have Ql:=Ja af;clear h ha aq az ba ax bg bh hn hd M0 M1 af;go_enter Tryz.func38,Tryz.ntmps38
 go_upto_region 1 with fail
 rw[Ql.o];have c0:=(Qj.o.cell (i:=0) rfl).1.cell;go_upto_region 2 with(go_at_call 30;refine Qi.o.mono ?_;clear Qi;rintro e w1 ⟨rfl,ap⟩)
 have Qg:Mem w (w1.alloc (G (Yb n) 37)) [some (w.heap.size,.cell 25 (B o la k)),some (w.heap.size+1,.cell 25 (B none 0 0)),some (w1.heap.size,.rats (List.replicate n 0))]:=(Qj.o.below ap).push (.rats (List.replicate n 0)) (Ki _ n);obtain⟨V1,ah⟩:=ex (w1.alloc (G (Yb n) 37));obtain⟨l,aj⟩:=ex (w1.heap.size);rw[ah,aj]at Qg;rw[ah,aj];have Qk:=Ja Qg;clear Qg ah aj ap c0 Qj Ql Qt Qf;go_wp2;go_loopw [11] (λiv wr=>∃(i:Nat) (S:List Rat),i<=n/\iv=H I (i:Int)/\Hid (KA ps n i S)/\Hid (Mem w wr [some (w.heap.size,.cell 25 (B o la k)),some (w.heap.size+1,.cell 25 (B none 0 0)),some (l,.rats S)])) λiv _=>n-(intOf iv).toNat
 case atStart=>exact⟨0,_,AO _,rfl,Ja ⟨AA,λj=>by rw[J0,BA O]⟩,Qk⟩
 case round=>
  obtain⟨i,S,N,rfl,q,M⟩:=hrel;clear Qk;by_cases ay:i<n
  . have bn:(i:Int)<(n:Int):=O
    obtain⟨K,hK⟩:=ex (i+1:Nat);have bi:(i:Int)+1=(K:Int):=O
    have bk:IntKind.i64.wrap (K:Int)=(K:Int):=by rw[BO];omega
    have bj:(K:Int)<(la:Int):=by have:=HN.o;omega
    obtain⟨aw,f,rfl,A,p0,p1,p2,p3⟩:=HP.o K (by have:=HN.o;omega);have Qu:=Ja (show ∀V,Bl w V->(V.cell? ⟨f,K*4,none⟩=some (L (s K))/\V.cell? ⟨f,K*4+1,none⟩=some (B (aa K) (ll K) (cc K))/\V.cell? ⟨f,K*4+2,none⟩=some (L (t K))/\V.cell? ⟨f,K*4+3,none⟩=some (B (bb K) (kk K) (dd K)))/\Jh V (P #[L (s K),B (aa K) (ll K) (cc K),L (t K),B (bb K) (kk K) (dd K)]) (cf ps K)from λV y=>by
     exact⟨⟨(y.cell (p:=⟨f,_,none⟩) A).trans p0,(y.cell (p:=⟨f,_,none⟩) A).trans p1,(y.cell (p:=⟨f,_,none⟩) A).trans p2,(y.cell (p:=⟨f,_,none⟩) A).trans p3⟩,aw.below y⟩)
    have Qd:=Ja (show K<=1099511627776/\K=i+1 by omega);have Qs:=Ja (show cf ps K*((K:Int):Rat)=Gg ps i by rw[Qd.o.2];rfl);have Qm:=Ja (show i<S.length by rw[q.o.1];exact ay);clear aw A p0 p1 p2 p3 hK;go_wp2_with fail
    have Qo:=M.o.drew;refine Jn Qr [[],[],[],[2],[],[4],[3,5],[6],[],[8],[9],[7,10,10],[0,1,0,1,2,3,4,5,6,7,8,9,10,11],[12,11,11,0,1,2,3,4,5,6,7,8,9,10,11]] (by kernel_rfl) DF
     (λD ae V=>∃(ta tb R T U X ti tj tk tl tm tn tp:Value),ae={ tmps:=#[P #[B (some ⟨f,0,none⟩) la k],F (some ⟨w.heap.size,0,none⟩),F (some ⟨w.heap.size+1,0,none⟩),B (some ⟨l,0,none⟩) n n,H I ↑i,P #[B (some ⟨f,0,none⟩) la k],H I d,H I ↑n,B (some ⟨l,0,none⟩) n n,B (some ⟨l,0,none⟩) n n,H I ↑n,H I ↑i,L true,H I ↑i,ta,tb,R,T,U,X,ti,tj,tk,tl,tm,tn,tp,u27,C,C],defers:=[] }/\Hid ((D 0=true->ta=B (some ⟨l,0,none⟩) n n)/\(D 1=true->tb=H I (i:Int))/\(D 2=true->R=F (some ⟨w.heap.size,0,none⟩))/\(D 3=true->T=B (some ⟨f,0,none⟩) la k)/\(D 4=true->U=H I (i:Int))/\(D 5=true->X=H I (K:Int))/\(D 6=true->ti=F (some ⟨f,K*4,none⟩))/\(D 7=true->D 13=false->Jh V tj (cf ps K))/\(D 8=true->tk=H I (i:Int))/\(D 9=true->tl=H I (K:Int))/\(D 10=true->D 13=false->Jh V tm ((K:Int):Rat))/\(D 11=true->D 13=false->Jh V tn (Gg ps i))/\(D 12=true->tp=F (some ⟨l,i*4,none⟩)))/\Hid ((D 13=false->Mem w V [some (w.heap.size,.cell 25 (B (some ⟨f,0,none⟩) la k)),some (w.heap.size+1,.cell 25 (B none 0 0)),some (l,.rats S)])/\(D 13=true->Mem w V [some (w.heap.size,.cell 25 (B (some ⟨f,0,none⟩) la k)),some (w.heap.size+1,.cell 25 (B none 0 0)),some (l,.rats (S.set i (Gg ps i)))])))
     (E8 ⟨_,_,_,_,_,rfl,Ja Z,Ja ⟨λ_=>Qo,Z⟩⟩) ?step1 ?fin1
    case step1=>
     rintro D ae V i ds ai N b z ⟨ta,tb,R,T,U,X,ti,tj,tk,tl,tm,tn,tp,rfl,a,c⟩;have bl:i<14:=(Ac.1 N).1;obtain rfl|rfl|rfl|rfl|rfl|rfl|rfl|rfl|rfl|rfl|rfl|rfl|rfl|rfl:=GF i O
     all_goals
      simp only[Ai,Ag,Ak]at N;subst N
     . clear b;refine DS ?_;exact⟨(De a),c⟩
     . clear b;refine DS ?_;exact⟨(Dh a),c⟩
     . clear b;refine DS ?_;exact⟨(DZ a),c⟩
     . have r:=c.o.1 (DI ai z);obtain rfl:=a.o.2.2.1 (b 2 Z);have e0:=(r.cell (i:=0) rfl).1.cell;clear b;refine DS ?_;exact⟨(Df (DZ a)),c⟩
     . clear b;refine DS ?_;exact⟨(Du a),c⟩
     . obtain rfl:=a.o.2.2.2.2.1 (b 4 Z);clear b;refine DS ?_;exact⟨(Dw (Du a)),c⟩
     . obtain rfl:=a.o.2.2.2.1 (b 3 Z);obtain rfl:=Dn a (b 5 Z);clear b;refine DS ?_;exact⟨(Dz (Dw (Df a))),c⟩
     . have r:=c.o.1 (DI ai z);obtain rfl:=ED a (b 6 Z);obtain⟨⟨e0,e1,e2,e3⟩,hr⟩:=Qu.o V r.2.2;clear b;refine DS ?_;exact⟨(EM (Dz a) λ_ _=>hr),c⟩
     . clear b;refine DS ?_;exact⟨(EN a),c⟩
     . obtain rfl:=Ed a (b 8 Z);clear b;refine DS ?_;exact⟨(Et (EN a)),c⟩
     . obtain rfl:=F3 a (b 9 Z);clear b;have E:=Ja (QP (K:Int) O (by have:=Qd.o;omega) V);refine Jc rfl rfl λK hK=>?_;go_simp;go_wp2_with(go_at_call 79;refine E.o.mono ?_;rintro e w5 ⟨v5,rfl,am,g⟩)
       obtain⟨G0,G1,G2,G3,G4,G5,G6,G7,G8,_,_,bf,ad⟩:=a.o;exact E8 ⟨_,_,_,_,_,rfl,Ja ⟨G0,G1,G2,G3,G4,G5,G6,λh m=>(G7 h m).below g,G8,λ_=>rfl,λ_ _=>am,λh m=>(bf h m).below g,ad⟩,Ja ⟨λh=>(c.o.1 h).below g,λh=>(c.o.2 h).below g⟩⟩
     . have Qa:D 13=false:=DI ai z;have x:=ET a (b 7 Z) Qa;have h1:=EE a (b 10 Z) Qa;clear b;have E:=Ja (Iy _ _ (cf ps K) ((K:Int):Rat) V x h1 (Qn.o.at K) (Z0 Qd.o.1));rw[Qs.o]at E;clear x h1;refine Jc rfl rfl λK hK=>?_;go_simp;go_wp2_with(go_at_call 91;refine E.o.mono ?_;rintro e w5 ⟨v5,rfl,am,g⟩)
       obtain⟨G0,G1,G2,G3,G4,G5,G6,G7,G8,G9,bc,_,ad⟩:=a.o;exact E8 ⟨_,_,_,_,_,rfl,Ja ⟨G0,G1,G2,G3,G4,G5,G6,λh m=>(G7 h m).below g,G8,G9,λh m=>(bc h m).below g,λ_ _=>am,ad⟩,Ja ⟨λh=>(c.o.1 h).below g,λh=>(c.o.2 h).below g⟩⟩
     . obtain rfl:=a.o.1 (b 0 Z);obtain rfl:=a.o.2.1 (b 1 Z);clear b;refine DS ?_;exact⟨(IJ (Dh (De a))),c⟩
     . have r:=c.o.1 z;have x:=EZ a (b 11 Z) z;obtain rfl:=a.o.2.2.2.2.2.2.2.2.2.2.2.2 (b 12 Z);have hE:=r.rats (i:=2) rfl;obtain⟨xa,xb,xc,xd,e0,e1,e2,e3,_⟩:=hE.at Qm.o;have f0:=hE.frozen (i*4);have f1:=hE.frozen (i*4+1);have f2:=hE.frozen (i*4+2);have f3:=hE.frozen (i*4+3);obtain⟨s9,a9,l9,c9,t9,b9,k9,d9,rfl⟩:=Jh.form x;clear b;refine DS ?_;exact⟨(IJ (Dx (Dq (EM a λ_ h=>by simp at h) λ_ h=>by simp at h) λ_ h=>by simp at h)),Ja ⟨λh=>by simp at h,λ_=>r.putRats (i:=2) rfl Qm.o x⟩⟩
    case fin1=>
     rintro D ae V an ⟨ta,tb,R,T,U,X,ti,tj,tk,tl,tm,tn,tp,rfl,a,c⟩;have HO:=Ja (c.o.2 (an 13 DF));clear a c an;go_wp2_with fail
     go_roundw
     case rel=>exact⟨i+1,_,O,by go_num,Ja (q.o.next ay),HO⟩
     case measure=>simp[intOf];omega
  . obtain rfl:i=n:=O
    have hE:=M.o.rats (i:=2) rfl;have Qc:=hE.row (n:=i) (cap:=i) (by rw[q.o.1];exact Aa _) (Aa _) O Qe;rw[Ad (by rw[q.o.1];exact Aa _)]at Qc;have Qh:=Ja (Gt _ S wr Qc (Sqs.of λj=>by
     rw[q.o.2 j];split
     . exact Qp.o j
     . exact Hi))
    rw[q.o.done HN.o.1]at Qh;clear hE Qc;go_wp2_with(go_at_call 39;refine Qh.o.mono ?_;clear Qh;rintro e w5 ⟨u5,rfl,ak,_,g⟩;obtain⟨a7,l7,c7,rfl⟩:=ak.form;have Q:=boxed_below (M.o.cell (i:=1) rfl).1 g;have x0:=Q.cell;have x1:=Q.frozen;have Qv:=Ja (Eo Q (B a7 l7 c7) ak.row);have Qq:=Ja ((Bt M.o.2.2 g).setCell (p:=⟨w.heap.size+1,0,none⟩) (by show w.heap.size<=w.heap.size+1;omega) (B a7 l7 c7));clear ak g Q)
    exact BB (v:=P #[B a7 l7 c7]) (by simp[results,Tryz.results38,go_sem,x0]) rfl ⟨_,rfl,⟨_,rfl,Qv.o⟩,Qq.o⟩
end M3
section
open Go.RowKit Go.Shelf
def CD(D:Int)(K:Nat)(c:Rat):Prop:=∃n:Int,c=Rat.divInt n D/\Sm K n
section
variable {D E:Int} {K M:Nat} {c d:Rat}
theorem CD.mono(h:CD D K c)(a:K<=M):CD D M c:=by
 obtain⟨n,e,h⟩:=h;exact⟨n,e,h.mono a⟩
theorem CD.smq(h:CD D K c)(hD:D≠0)(a:Sm K D):DQ K c:=by
 obtain⟨n,rfl,h⟩:=h;exact DQ.divInt hD h a
theorem CD.zero(D:Int)(K:Nat):CD D K 0:=⟨0,by rw[Rat.zero_divInt],Sm.zero K⟩
theorem CD.add(h:CD D K c)(a:CD D M d)(hD:D≠0):CD D (max K M+1) (c+d):=by
 obtain⟨n,rfl,h⟩:=h;obtain⟨m,rfl,a⟩:=a;refine⟨n+m,?_,?_⟩
 . rw[FF _ _ hD hD,<-Int.add_mul,Fv hD]
 . exact(h.mono (Nat.le_max_left ..)).add (a.mono (Nat.le_max_right ..))
theorem CD.mul(h:CD D K c)(a:CD E M d):CD (D*E) (K+M) (c*d):=by
 obtain⟨n,rfl,h⟩:=h;obtain⟨m,rfl,a⟩:=a;exact⟨n*m,by rw[Fm],h.mul a⟩
theorem CD.wide(h:CD D K c)(hE:Sm M E)(a:E≠0):CD (D*E) (K+M) c:=by
 obtain⟨n,rfl,h⟩:=h;exact⟨n*E,by rw[Fv a],h.mul hE⟩
end
def D6(D:Int)(K:Nat)(ps:List Rat):Prop:=∀i,CD D K (cf ps i)
variable{D:Int}{ps qs:List Rat}{K:Nat}
theorem RO(hD:D≠0)(h:∀i j,CD D K (cf ps i*cf qs j))(n:Nat):∀(i k:Nat),CD D (K+min i ps.length) (cf (XR ps qs n i) k):=by
 intro i;induction i with
 |zero=>intro k;rw[XR,J0];exact CD.zero _ _
 |succ i a=>
  intro k;rw[XR];rcases Ll (XR ps qs n i) i (cf ps i) qs qs.length k with e|e
  . rw[e];exact(a k).mono O
  . rw[e];by_cases b:i<ps.length
    . exact((a k).add (h i (k-i)) hD).mono O
    . rw[Ye (p:=ps) O,A2,Rat.add_zero];exact(a k).mono O
theorem bH(hD:D≠0)(f:Sm 1000000000 D)(h:∀i j,CD D K (cf ps i*cf qs j))(d:K+ps.length+1<=1000000000):M3.I1 ps qs:=by
 have hq:∀c,CD D (K+ps.length+1) c->Sq c:=λc b=>Sq.of ((b.mono d).smq hD f) (Aa _);refine⟨λi j=>hq _ ((h i j).mono O),λn i j k=>?_⟩;have a:=RO hD h n i k;rcases Ll (XR ps qs n i) i (cf ps i) qs j k with e|e
 . rw[e];exact hq _ (a.mono O)
 . rw[e];exact hq _ ((a.add (h i (k-i)) hD).mono O)
theorem bI(hD:D≠0)(h:∀i j,CD D K (cf ps i*cf qs j)):D6 D (K+ps.length) (Jr ps qs):=λk=>by
 unfold Jr;rw[Yf,Il];have a:=RO hD h (ps.length+qs.length) ps.length k;rwa[Ow _ _ _ _ _ (Or.inr O),Nat.min_self]at a
theorem bJ(p q:List Rat):(Jr p q).length<=p.length+q.length:=XO (J2 _ _) λi a=>by unfold Jr;rw[Yf,Il,Z1 p q a]
theorem Sm.powZ{A:Nat}{v:Int}(h:Sm A v):∀n,Sm (n*A+1) (v^n):=by
 intro n;induction n with
 |zero=>rw[Int.pow_zero];exact Sm.one _ O
 |succ n a=>rw[Int.pow_succ,AJ,show n*A+1*A+1=n*A+1+A by omega];exact a.mul h
end
section
open Go.RowKit Go.Shelf
variable{D:Int}{K:Nat}
theorem bK{c:Rat}(h:CD D K c):CD D K (-c):=by
 obtain⟨n,rfl,h⟩:=h;exact⟨-n,by rw[<-Rat.neg_divInt],by unfold Sm at h ⊢;rwa[Int.natAbs_neg]⟩
theorem RP{E l:Int}{A:Nat}{ps qs:List Rat}{n m:Nat}(hD:D≠0)(hp:D6 D K ps)(hE:E≠0)(S:Sm A E)(hq:D6 E A qs)(b:l≠0)(hl:Sm A l)(N:cf qs n=Rat.divInt l E)(M:cf qs n≠0):
 ∀k,D6 (D*l^k) (K+k*(A+1)) (JF ps qs n m k).2/\D6 (D*l^k) (K+k*(A+1)) (JF ps qs n m k).1:=by
 intro k;induction k with
 |zero=>
  rw[Int.pow_zero,Int.mul_one];exact⟨λi=>(hp i).mono O,λi=>by rw[JF,J0];exact CD.zero _ _⟩
 |succ k U=>
  obtain⟨d,g⟩:=U;have w:D*l^k≠0:=CI hD (Int.pow_ne_zero b);have e:D*l^(k+1)=D*l^k*l:=by rw[Int.pow_succ,Fx]
  rw[e];have v:D*l^k*l≠0:=CI w b;obtain⟨R,p⟩:=ex ((JF ps qs n m k).2);obtain⟨Q,o⟩:=ex ((JF ps qs n m k).1);rw[p]at d;rw[o]at g;obtain⟨r,z,s⟩:=d (m-(k+1)+n);obtain⟨c,q⟩:=ex (cf R (m-(k+1)+n)/cf qs n);have f:c=Rat.divInt (r*E) (D*l^k*l):=by
   rw[<-q];have y:cf R (m-(k+1)+n)=Rat.divInt (r*E) (D*l^k*l)*cf qs n:=by
    rw[N,Fm,z,show r*E*l=r*(E*l)from Fx _ _ _,show D*l^k*l*E=D*l^k*(E*l)by rw[Fx (D*l^k),CN l E],Fv (CI hE b)]
   rw[y,Rat.mul_div_cancel M]
  have t:CD (D*l^k*l) (K+(k+1)*(A+1)) c:=⟨r*E,f,(s.mul S).mono (by rw[AJ];omega)⟩;have u:∀j,CD (D*l^k*l) (K+k*(A+1)+A) (c*cf qs j):=λj=>by
   obtain⟨x,ex,T⟩:=hq j;refine⟨r*x,?_,s.mul T⟩;rw[f,ex,Fm,show r*E*x=r*x*E by rw[Fx,CN E x,Fx],Fv hE]
  rw[JF,p,o];simp only[q];refine⟨λi=>?_,λi=>?_⟩
  . rcases Ll R (m-(k+1)) (-c) qs qs.length i with a|a
    . rw[a];exact((d i).wide hl b).mono (by rw[AJ];omega)
    . rw[a,Rat.neg_mul];exact(((d i).wide hl b).add (bK (u _)) v).mono (by rw[AJ];omega)
  . rcases M3.bC Q (m-(k+1)) c i with a|a
    . rw[a];exact t
    . rw[a];exact((g i).wide hl b).mono (by rw[AJ];omega)
end
variable{D:Int}{a b p q:List Rat}{K M n:Nat}{f g:Nat->Int}{c d:Rat}
theorem bL:∀(n:Nat) (f:Nat->Nat),(∀i,i<=n->f i<n)->∃i j,i<j/\j<=n/\f i=f j:=by
 intro n;induction n with
 |zero=>intro f h;exact absurd (h 0 (Aa _)) O
 |succ n o=>
  intro f h;by_cases k:∃i,i<=n/\f i=f (n+1)
  . obtain⟨i,d,a⟩:=k;exact⟨i,n+1,O,Aa _,a⟩
  . have c:∀i,i<=n->f i≠f (n+1):=λi b e=>k ⟨i,b,e⟩;obtain⟨i,j,d,a,g⟩:=o (λi=>if f i=n then f (n+1)else f i) (λi b=>by
     have l:=h i O;have m:=h (n+1) (Aa _);have p:=c i b;split<;>omega)
    refine⟨i,j,d,O,?_⟩;have l:=c i O;have m:=c j a;split at g<;>split at g<;>omega
def enc(b:Nat):Nat->(Nat->Nat)->Nat
 |0,_=>0
 |M+1,d=>enc b M d+d M*b^M
theorem N0{b:Nat}{d:Nat->Nat}(h:∀k,k<M->d k<b):enc b M d<b^M:=by
 induction M with
 |zero=>simp[enc]
 |succ M e=>
  have f:=e λk g=>h k O;have a:=h M O;have c:(d M+1)*b^M<=b*b^M:=Aj _ a;rw[enc,A4,At (b^M) b];rw[AJ,CF]at c;omega
theorem bM{b:Nat}{d a:Nat->Nat}(h:∀k,k<M->d k<b)(g:∀k,k<M->a k<b)(e:enc b M d=enc b M a):∀k,k<M->d k=a k:=by
 induction M with
 |zero=>intro k c;omega
 |succ M j=>
  have l1:=N0 (λk c=>h k O:∀k,k<M->d k<b);have l2:=N0 (λk c=>g k O:∀k,k<M->a k<b);have hp:0<b^M:=O
  rw[enc,enc]at e;have f:d M=a M:=by
   have f1:(enc b M d+d M*b^M)/b^M=d M:=by rw[Nat.add_mul_div_right _ _ hp,Co l1];omega
   have f2:(enc b M a+a M*b^M)/b^M=a M:=by rw[Nat.add_mul_div_right _ _ hp,Co l2];omega
   rw[<-f1,<-f2,e]
  intro k c;by_cases i:k=M
  . rw[i];exact f
  . exact j (λk c=>h k O) (λk c=>g k O) (by rw[f]at e;omega) k O
def EJ(b x j:Nat):Nat:=x/b^j%b
theorem bN{b:Nat}(a:0<b)(x j:Nat):EJ b x j<b:=Cp _ a
theorem RQ(b x:Nat):∀N,enc b N (EJ b x)=x%b^N:=by
 intro N;induction N with
 |zero=>simp[enc,Nat.mod_one]
 |succ N a=>rw[enc,a,Nat.mod_pow_succ,At (EJ b x N)];rfl
def Yk:Nat->(Nat->Int)->Int
 |0,_=>0
 |n+1,f=>Yk n f+f n
theorem RR(h:∀k,k<n->f k=g k):Yk n f=Yk n g:=by
 induction n with
 |zero=>rfl
 |succ n a=>rw[Yk,Yk,a λk b=>h k O,h n O]
theorem bO(n:Nat)(f g:Nat->Int):Yk n (λk=>f k-g k)=Yk n f-Yk n g:=by
 induction n with
 |zero=>rfl
 |succ n a=>rw[Yk,Yk,Yk,a];omega
theorem Lq{C:Nat}(h:∀k,k<n->(f k).natAbs<=C):(Yk n f).natAbs<=n*C:=by
 induction n with
 |zero=>simp[Yk]
 |succ n a=>
  have b:=a λk d=>h k O;have c:=h n O;rw[Yk,AJ,CF];have:=FI (Yk n f) (f n);omega
theorem bP(N A:Nat)(c:Nat->Nat->Int)(w:∀k j,(c k j).natAbs<=A):
 ∃z:Nat->Int,(∃j,j<N+1/\z j≠0)/\(∀j,(z j).natAbs<=(2*(N+1)*A+1)^N)/\∀k,k<N->Yk (N+1) (λj=>c k j*z j)=0:=by
 obtain⟨B,l⟩:=ex ((2*(N+1)*A+1)^N);have o:1<=B:=by rw[<-l];exact CL O
 obtain⟨C,m⟩:=ex ((N+1)*(A*B));have d:∀x j,EJ (B+1) x j<=B:=λx j=>by have:=bN (b:=B+1) O x j;omega
 have v:∀x k,(Yk (N+1) λj=>c k j*(EJ (B+1) x j:Int)).natAbs<=C:=λx k=>by
  rw[<-m];refine Lq λj _=>?_;rw[Cz,AK];exact CE (w k j) (d x j)
 obtain⟨g,a⟩:∃g:Nat->Nat->Nat,∀x k,(g x k:Int)=Yk (N+1) (λj=>c k j*(EJ (B+1) x j:Int))+C/\g x k<2*C+1:=
  ⟨λx k=>(Yk (N+1) (λj=>c k j*(EJ (B+1) x j:Int))+C).toNat,λx k=>by have:=v x k;dsimp only;omega⟩
 have U:(2*C+1)^N<(B+1)^(N+1):=by
  have f:2*C+1<=(2*(N+1)*A+1)*B:=by
   have p:2*C=2*(N+1)*A*B:=by rw[<-m];simp only[AH]
   rw[p,AJ,CF];exact Nat.add_le_add_left o _
  have i:(2*C+1)^N<=B^(N+1):=by
   refine An (Fe f N) ?_;rw[Nat.mul_pow,l,A4,At];exact Aa _
  exact Ch i (Nat.pow_lt_pow_left O O)
 obtain⟨x,y,f,i,q⟩:=bL ((2*C+1)^N) (λx=>enc (2*C+1) N (g x)) λx _=>N0 λk _=>(a x k).2;have r:=bM (λk _=>(a x k).2) (λk _=>(a y k).2) q;refine⟨λj=>(EJ (B+1) x j:Int)-(EJ (B+1) y j:Int),?_,λj=>?_,λk E=>?_⟩
 . by_cases n:∃j,j<N+1/\(EJ (B+1) x j:Int)-(EJ (B+1) y j:Int)≠0
   . exact n
   . exfalso
     have s:∀j,j<N+1->EJ (B+1) x j=EJ (B+1) y j:=λj D=>by
      by_cases e:EJ (B+1) x j=EJ (B+1) y j
      . exact e
      . exact absurd ⟨j,D,O⟩ n
     have t:∀M,M<=N+1->enc (B+1) M (EJ (B+1) x)=enc (B+1) M (EJ (B+1) y):=λM=>by
      induction M with
      |zero=>intro _;rfl
      |succ M K=>intro T;rw[enc,enc,K O,s M O]
     have u:=t (N+1) (Aa _);rw[RQ,RQ,Cw O,Cw O]at u;omega
 . have:=d x j;have:=d y j;dsimp only;omega
 . have R:=r k E;have S:=(a x k).1;have Q:=(a y k).1;rw[show(λj=>c k j*((EJ (B+1) x j:Int)-(EJ (B+1) y j:Int)))=(λj=>c k j*(EJ (B+1) x j:Int)-c k j*(EJ (B+1) y j:Int))from funext λj=>Int.mul_sub _ _ _,bO];omega
theorem bQ(p q:List Rat):(JD p q).length<=max p.length q.length:=XO (Yh _ _) λi a=>by rw[MZ,Ye O,Ye O,Rat.sub_self]
def DN(c:Rat)(p:List Rat):List Rat:=Jd (Y0 c p)
theorem JP(c:Rat)(p:List Rat):Jd (DN c p)=DN c p:=J5 _
theorem Yu(c:Rat)(p:List Rat)(i:Nat):cf (DN c p) i=cf p i*c:=by unfold DN;rw[Yf,Ik]
theorem JJ(c:Rat)(p:List Rat)(x:Rat):ev (DN c p) x=ev p x*c:=by unfold DN;rw[XH,Xz]
theorem X1{a b:Rat}(c:a≠0)(d:b≠0):a*b≠0:=λh=>by
 rcases AM.1 h with h|h
 . exact c h
 . exact d h
theorem RS(h:cf p n≠0):n<p.length:=by
 by_cases a:n<p.length
 . exact a
 . exact absurd (Ye O) h
theorem Yl(d:c≠0)(hp:Jd p=p):(DN c p).length=p.length:=by
 refine Nat.le_antisymm (XO (JP _ _) λi e=>by rw[Yu,Ye e,A2]) ?_;by_cases a:p=[]
 . rw[a];exact AO _
 . have b:=Js hp a;have f:0<p.length:=Ae.2 a;have g:=RS (p:=DN c p) (n:=p.length-1) (by rw[Yu];exact X1 b d);omega
theorem Kk(c d:Rat)(p:List Rat):DN c (DN d p)=DN (d*c) p:=Xr (JP _ _) (JP _ _) λx=>by rw[JJ,JJ,JJ];grind
theorem Ic(hp:Jd p=p):DN 1 p=p:=Xr (JP _ _) hp λx=>by rw[JJ];grind
theorem bS(c:Rat):DN c []=[]:=rfl
theorem KB(b:c≠0)(hp:Jd p=p)(a:p≠[]):DN c p≠[]:=λh=>by
 have:=Yl b hp;rw[h]at this;exact a (Az.1 this.symm)
theorem JA(hp:Jd p=p)(hq:Jd q=q)(a:p≠[])(b:q≠[]):(Jr p q).length=p.length+q.length-1:=Ou hp hq a b
theorem Kl(h:p.length=0):p=[]:=Az.1 h
theorem Lr{u v:List Rat}(hq:Jd q=q)(a:q≠[])(f:Jd u=u)(g:Jd v=v)(i:v.length<q.length)(h:∀x,ev p x=ev q x*ev u x+ev v x):u=Jo p q/\v=JK p q:=by
 obtain⟨b,c,d,e⟩:=YT p q hq a;exact TC hq a f d g e i c (λx=>by rw[<-h x,b x])
theorem Ls(a:d≠0)(p q:List Rat)(hq:Jd q=q)(b:q≠[]):Jo (DN c p) (DN d q)=DN (c/d) (Jo p q)/\JK (DN c p) (DN d q)=DN c (JK p q):=by
 obtain⟨e,f,j,k⟩:=YT p q hq b;have h:=Lr (p:=DN c p) (JP d q) (KB a hq b) (JP (c/d) (Jo p q)) (JP c (JK p q)) (by
  rw[Yl a hq];exact Ch (XO (JP _ _) λi g=>by rw[Yu,Ye g,A2]) f) (λx=>by
  rw[JJ,JJ,JJ,JJ,e x]
  have:d*(c/d)=c:=by rw[Ck];exact Ap a
  grind)
 exact⟨h.1.symm,h.2.symm⟩
def RT:Nat->List Rat->List Rat->List Rat->List Rat->Prop
 |0,p,q,a,b=>p=a/\q=b
 |n+1,p,q,a,b=>∃c:Rat,q≠[]/\c≠0/\RT n q (DN c (JK p q)) a b
def Eu(p q a b:List Rat):Prop:=∃n,RT n p q a b
theorem Eu.base(p q:List Rat):Eu p q p q:=⟨0,rfl,rfl⟩
theorem Eu.step(p q:List Rat)(c:Rat)(a b:List Rat)(h:q≠[])(k:c≠0):Eu q (DN c (JK p q)) a b->Eu p q a b:=λ⟨n,e⟩=>⟨n+1,c,h,k,e⟩
theorem Eu.ind{d:∀p q a b:List Rat,Eu p q a b->Prop}(base:∀p q,d p q p q (.base p q))
(step:∀p q c a b (h:q≠[]) (k:c≠0) (e:Eu q (DN c (JK p q)) a b),d q (DN c (JK p q)) a b e->d p q a b (.step p q c a b h k e))
{p q a b:List Rat}(t:Eu p q a b):d p q a b t:=by
 obtain⟨n,e⟩:=t;induction n generalizing p q with
 |zero=>obtain⟨rfl,rfl⟩:=e;exact base _ _
 |succ n f=>obtain⟨c,h,k,e⟩:=e;exact step p q c a b h k ⟨n,e⟩ (f e)
theorem Eu.tail(h:Eu p q a b)(e:b≠[])(f:c≠0):Eu p q b (DN c (JK a b)):=by
 induction h using Eu.ind with
 |base p q=>exact .step p q c _ _ e f (.base _ _)
 |step p q d a b hq g _ i=>exact .step p q d _ _ hq g (i e)
theorem Xj(p q:List Rat):Jd (JK p q)=JK p q:=J5 _
theorem YV(p q:List Rat):Jd (Jo p q)=Jo p q:=J5 _
theorem Eu.len(h:Eu p q a b):Jd q=q->b.length<=q.length:=by
 induction h using Eu.ind with
 |base p q=>exact λ_=>Aa _
 |step p q d a b hq f _ g=>
  intro c;have e:=g (JP _ _);rw[Yl f (Xj _ _)]at e;have:=(YT p q c hq).2.1;omega
theorem bT(h:Eu p q a b):Jd p=p->Jd q=q->b≠[]->∀u v T:List Rat,Jd u=u->Jd v=v->Jd T=T->u.length+b.length<=q.length+1->v.length+b.length<=p.length+1->(u≠[]\/v≠[])->T.length<b.length->
 (∀x,ev T x=ev u x*ev p x+ev v x*ev q x)->∃c:Rat,c≠0/\T=DN c (JK a b):=by
 induction h using Eu.ind with
 |base p q=>
  intro hp hq g u v T i w m M lv f o n;have S:u.length<=1:=O
  obtain⟨A,W,X,h4⟩:=YT p q hq g;match u,S,f with
  |[],_,f=>
   have l:v≠[]:=by
    rcases f with f|f
    . exact absurd rfl f
    . exact f
   have e:T=Jr v q:=Xr m (J2 _ _) λx=>by rw[Jg,n x];simp[ev];grind
   have h5:=JA w hq l g;have h6:0<v.length:=Ae.2 l;rw[e]at o;omega
  |[c],_,_=>
   have hc:c≠0:=λe=>by
    have:=Js i Z;simp[YQ]at this;exact this e
   refine⟨c,hc,?_⟩;have N:∀x,ev (DN c p) x=ev q x*ev (DN (-1) v) x+ev T x:=λx=>by
    rw[JJ,JJ,n x];simp[ev];grind
   have h7:=(Lr hq g (JP _ _) m o N).2;have D:=(Ls (c:=c) (d:=1) DF p q hq g).2;rw[Ic hq]at D;rw[h7,D]
 |step p q d a b g hd hE K=>
  intro hp hq hb u v T i w m M lv f o n;obtain⟨A,W,X,h4⟩:=YT p q hq g;obtain⟨r,t⟩:=ex (DN d (JK p q));rw[t]at hE K;have s:Jd r=r:=by rw[<-t];exact JP _ _
  have U:b.length<=r.length:=hE.len s;have R:r≠[]:=λe=>by
   rw[e,Ay]at U;omega
  have y:d*(1/d)=1:=by rw[Ck];exact Ap hd
  have k:(1/d)≠0:=λe=>by rw[e,Rat.mul_zero]at y;exact absurd y DF
  have Q:∀x,ev p x=ev q x*ev (Jo p q) x+ev r x*(1/d):=λx=>by rw[A x,<-t,JJ];grind
  have z:∀x,ev T x=ev (XI (Jr u (Jo p q)) v) x*ev q x+ev (DN (1/d) u) x*ev r x:=λx=>by
   rw[n x,Q x,YK,Jg,JJ];grind
  have ad:(DN (1/d) u).length+b.length<=q.length+1:=by rw[Yl k i];exact M
  refine K hq s hb (XI (Jr u (Jo p q)) v) (DN (1/d) u) T (Io _ _) (JP _ _) m ?_ ad ?_ o z
  . by_cases E:XI (Jr u (Jo p q)) v=[]
    . rw[E];simp;omega
    . have l1:=JA (Io _ _) hq E g;have e:Jr (XI (Jr u (Jo p q)) v) q=JD T (Jr (DN (1/d) u) r):=Xr (J2 _ _) (Yh _ _) λx=>by rw[Jg,Y9,Jg,z x];grind
      have l2:=bQ T (Jr (DN (1/d) u) r);rw[<-e,l1]at l2;by_cases j:u=[]
      . have V:Jr (DN (1/d) u) r=[]:=by rw[j];rfl
        rw[V]at l2;simp at l2;omega
      . have l4:=JA (JP _ _) s (KB k i j) R;rw[Yl k i]at l4;omega
  . by_cases j:u=[]
    . left
      have l:v≠[]:=by
       rcases f with f|f
       . exact absurd j f
       . exact f
      have e:XI (Jr u (Jo p q)) v=v:=Xr (Io _ _) w λx=>by rw[YK,Jg,j];simp[ev];grind
      rw[e];exact l
    . right;exact KB k i j
def Ln(K:Nat)(r:List Rat):Prop:=∃c:Rat,c≠0/\∀i,∃z:Int,Sm K z/\cf r i*c=(z:Rat)
theorem bU(s t:Nat)(f:Nat->Int):Yk (s+t) f=Yk s f+Yk t (λj=>f (s+j)):=by
 induction t with
 |zero=>simp[Yk]
 |succ t a=>rw[<-Fw,Yk,Yk,a];omega
theorem N2{f:Nat->Rat}(h:∀k,k<n->f k=(g k:Rat)):Dg n f=((Yk n g:Int):Rat):=by
 induction n with
 |zero=>rfl
 |succ n a=>rw[Dg,Yk,a λk b=>h k O,h n O,FP]
theorem Lt(p q:List Rat)(h:p.length<=n)(k:Nat):cf (Jr p q) k=Dg n (λi=>if i<=k then cf p i*cf q (k-i)else 0):=by
 unfold Jr;rw[Yf,Il,<-Sz p q h];rfl
theorem Ln.sc{r:List Rat}(h:Ln K r)(j:d≠0):Ln K (DN d r):=by
 obtain⟨c,g,k⟩:=h;have e:d*(1/d)=1:=by rw[Ck];exact Ap j
 refine⟨(1/d)*c,X1 (λa=>by rw[a,Rat.mul_zero]at e;exact absurd e DF) g,λi=>?_⟩;obtain⟨z,b,f⟩:=k i;exact⟨z,b,by rw[Yu,<-f];grind⟩
theorem Ln.mono{K L:Nat}{r:List Rat}(h:Ln K r)(e:K<=L):Ln L r:=by
 obtain⟨c,d,f⟩:=h;exact⟨c,d,λi=>by obtain⟨z,a,b⟩:=f i;exact⟨z,a.mono e,b⟩⟩
theorem bV{N A B:Nat}(b:A=Y^K)(i:N+1<=1000000000)(c:B=(2*(N+1)*A+1)^N):(N+1)*(A*B)<Y^((K+1)*(N+1)):=by
 have d:1<=A:=by rw[b];exact CL Gq
 have f:2*(N+1)*A+1<=Y^(K+1):=by
  have a:(2*(N+1)+1)*A<=Y*A:=Aj _ uo;rw[A4,<-b,At A];rw[AJ,CF]at a;exact An (Nat.add_le_add_left d _) a
 have g:(2*(N+1)*A+1)^(N+1)<=Y^((K+1)*(N+1)):=by rw[Nat.pow_mul];exact Fe f _
 refine AW ?_ g;have e:1<=B:=by rw[c];exact CL O
 rw[A4,<-c,<-AH,At B];refine(Nat.mul_lt_mul_right e).2 ?_
 have:(N+1)*A<=2*(N+1)*A:=Aj _ O
 omega
theorem RU(hp:Jd p=p)(hq:Jd q=q)(h1:Ln K p)(h2:Ln K q)(hl:p.length+q.length<=1000000000)(hle:q.length<=p.length)(h:Eu p q a b)(U:b≠[]):Ln ((K+1)*(p.length+q.length)) (JK a b):=by
 obtain⟨cp,ak,ai⟩:=h1;obtain⟨cq,am,aj⟩:=h2;obtain⟨α,hα⟩:=Classical.axiomOfChoice ai;obtain⟨β,hβ⟩:=Classical.axiomOfChoice aj;have aw:=h.len hq;have aq:0<b.length:=Ae.2 U;have Q:q≠[]:=λe=>by
  have d:q.length=0:=by rw[e];rfl
  omega
 have Qk:p≠[]:=λe=>by
  have d:p.length=0:=by rw[e];rfl
  omega
 obtain⟨s,hs⟩:=ex (q.length+1-b.length);obtain⟨t,ht⟩:=ex (p.length+1-b.length);obtain⟨N,hN⟩:=ex (s+t-1);obtain⟨A,hA⟩:=ex (Y^K);have ae:∀i,(α i).natAbs<=A:=λi=>by have:=(hα i).1;unfold Sm at this;omega
 have af:∀i,(β i).natAbs<=A:=λi=>by have:=(hβ i).1;unfold Sm at this;omega
 have M:s+t=N+1:=O
 obtain⟨z,⟨m,ay,ad⟩,E,ap⟩:=bP N A (λk j=>if j<s then(if j<=b.length-1+k then α (b.length-1+k-j)else 0)else(if j-s<=b.length-1+k then β (b.length-1+k-(j-s))else 0)) (λk j=>by
  split
  . split
    . exact ae _
    . simp
  . split
    . exact af _
    . simp)
 obtain⟨B,S⟩:=ex ((2*(N+1)*A+1)^N);rw[S]at E;obtain⟨u,W⟩:=ex (Jd ((List.range s).map λj=>(z j:Rat)*cp));obtain⟨v,hv⟩:=ex (Jd ((List.range t).map λj=>(z (s+j):Rat)*cq));have r:Jd u=u:=by rw[<-W];exact J5 _
 have n:Jd v=v:=by rw[<-hv];exact J5 _
 have o:∀j,cf u j=if j<s then(z j:Rat)*cp else 0:=λj=>by rw[<-W,Yf,MP]
 have w:∀j,cf v j=if j<t then(z (s+j):Rat)*cq else 0:=λj=>by rw[<-hv,Yf,MP]
 have Qg:u.length<=s:=XO r λi V=>by rw[o,BA O]
 have Ql:v.length<=t:=XO n λi V=>by rw[w,BA O]
 obtain⟨g,D⟩:∃g:Nat->Int,∀i,g i=Yk s (λj=>if j<=i then z j*α (i-j)else 0)+Yk t (λj=>if j<=i then z (s+j)*β (i-j)else 0):=⟨_,λ_=>rfl⟩;have T:∀i,cf (XI (Jr u p) (Jr v q)) i=(g i:Rat):=λi=>by
  rw[TG,Lt u p Qg,Lt v q Ql,D,FP];congr 1
  . refine N2 λj f=>?_;split
    . rw[o,BC f,AB,<-(hα (i-j)).2];grind
    . rfl
  . refine N2 λj f=>?_;split
    . rw[w,BC f,AB,<-(hβ (i-j)).2];grind
    . rfl
 have Qj:∀i,(g i).natAbs<=(N+1)*(A*B):=λi=>by
  have d:(Yk s λj=>if j<=i then z j*α (i-j)else 0).natAbs<=s*(A*B):=Lq λj _=>by
   split
   . rw[Cz,At];exact CE (ae _) (E _)
   . simp
  have R:(Yk t λj=>if j<=i then z (s+j)*β (i-j)else 0).natAbs<=t*(A*B):=Lq λj _=>by
   split
   . rw[Cz,At];exact CE (af _) (E _)
   . simp
  have e3:=FI (Yk s λj=>if j<=i then z j*α (i-j)else 0) (Yk t λj=>if j<=i then z (s+j)*β (i-j)else 0);rw[<-D i]at e3;rw[<-M,AJ];omega
 have Qm:(XI (Jr u p) (Jr v q)).length<b.length:=by
  have:(XI (Jr u p) (Jr v q)).length<=b.length-1:=XO (Io _ _) λi V=>by
   by_cases ax:i<b.length-1+N
   . rw[T];have e:=ap (i-(b.length-1)) O;rw[<-M,bU]at e;have d:Yk s (λj=>if j<=i then z j*α (i-j)else 0)=Yk s (λj=>(if j<s then(if j<=b.length-1+(i-(b.length-1))then α (b.length-1+(i-(b.length-1))-j)else 0)else(if j-s<=b.length-1+(i-(b.length-1))then β (b.length-1+(i-(b.length-1))-(j-s))else 0))*z j):=RR λj f=>by
      rw[BC f,show b.length-1+(i-(b.length-1))=i from by omega];split
      . exact CN _ _
      . simp
     have R:Yk t (λj=>if j<=i then z (s+j)*β (i-j)else 0)=Yk t (λj=>(if s+j<s then(if s+j<=b.length-1+(i-(b.length-1))then α (b.length-1+(i-(b.length-1))-(s+j))else 0)else(if s+j-s<=b.length-1+(i-(b.length-1))then β (b.length-1+(i-(b.length-1))-(s+j-s))else 0))*z (s+j)):=RR λj f=>by
      rw[BA (show ¬s+j<s by omega),show b.length-1+(i-(b.length-1))=i from by omega,show s+j-s=j from by omega];split
      . exact CN _ _
      . simp
     rw[D,d,R,e];rfl
   . refine Ye ?_;have l1:=TI (Jr u p) (Jr v q);by_cases X:u=[]
     . have y:Jr u p=[]:=by rw[X];rfl
       by_cases l:v=[]
       . have d:Jr v q=[]:=by rw[l];rfl
         rw[y,d];exact AO _
       . have l3:=JA n hq l Q;rw[y,Ay]at l1;rw[y];omega
     . have l2:=JA r hp X Qk;by_cases l:v=[]
       . have d:Jr v q=[]:=by rw[l];rfl
         rw[d,Ay]at l1;rw[d];omega
       . have l3:=JA n hq l Q;omega
  omega
 have Qh:u≠[]\/v≠[]:=by
  by_cases an:m<s
  . left
    intro e;have:=o m;rw[e,YH,BC an]at this;exact X1 (by exact_mod_cast ad) ak this.symm
  . right
    intro e;have:=w (m-s);rw[e,YH,BC O,show s+(m-s)=m from by omega]at this;exact X1 (by exact_mod_cast ad) am this.symm
 obtain⟨c,hc,ah⟩:=bT h hp hq U u v _ r n (Io _ _) O O Qh Qm (λx=>by rw[YK,Jg,Jg]);refine⟨c,hc,λi=>⟨g i,?_,by rw[<-Yu,<-ah,T]⟩⟩;have Qi:=bV hA.symm O S.symm;have h5:(K+1)*(N+1)<=(K+1)*(p.length+q.length):=Aq _ O;unfold Sm;exact Ch (Qj i) (AW Qi (AF Gq h5))
theorem bW(hp:Jd p=p)(hq:Jd q=q)(h:p.length<q.length):JK p q=p:=
 ((Lr (p:=p) hq (λe=>by rw[e]at h;simp at h) (u:=[]) (v:=p) rfl hp h λx=>by simp[ev];grind).2).symm
theorem bZ(hp:Jd p=p)(hq:Jd q=q)(d:Ln K p)(e:Ln K q)(hl:p.length+q.length<=1000000000)(h:Eu p q a b)(f:b≠[]):Ln ((K+1)*(p.length+q.length)) (JK a b):=by
 by_cases hle:q.length<=p.length
 . exact RU hp hq d e hl hle h f
 . have i:=bW hp hq O;match h with
   |⟨0,k,l⟩=>subst k;subst l;rw[i];exact d.mono (by
    have:(K+1)*1<=(K+1)*(p.length+q.length):=Aq _ O
    omega)
   |⟨n+1,c,o,g,hE⟩=>
    have hE:Eu q (DN c (JK p q)) a b:=⟨n,hE⟩;rw[i]at hE;have j:=Yl g hp;have m:=RU hq (JP c p) e (d.sc g) O O hE f;rwa[j,Fs q.length]at m
theorem Km(a:c≠0):1/c≠0:=λe=>by
 have h:(1/c)*c=1:=Ap a;rw[e,A2]at h;exact absurd h DF
def Jp(p:List Rat):List Rat:=DN (1/cf p (p.length-1)) p
theorem bp:Jp []=[]:=rfl
theorem YF(p:List Rat):Jd (Jp p)=Jp p:=JP _ _
theorem Lu(b:c≠0)(hp:Jd p=p):Jp (DN c p)=Jp p:=by
 by_cases a:p=[]
 . subst a;rfl
 . unfold Jp;rw[Yl b hp,Yu,Kk];have hl:=Js hp a;congr 1;obtain⟨l,e⟩:=ex (cf p (p.length-1));rw[e]at hl ⊢;have d:(1/(l*c))*(l*c)=1:=Ap (X1 hl b);grind
theorem KC(hp:Jd p=p)(a:p≠[]):Jp p≠[]:=KB (Km (Js hp a)) hp a
theorem YY(hp:Jd p=p):(Jp p).length=p.length:=by
 by_cases a:p=[]
 . subst a;rfl
 . exact Yl (Km (Js hp a)) hp
theorem Lv(hp:Jd p=p)(a:p≠[]):cf (Jp p) ((Jp p).length-1)=1:=by
 rw[YY hp];unfold Jp;rw[Yu,Ck];exact Ap (Js hp a)
theorem Hr(hp:Jd p=p):Jp (Jp p)=Jp p:=by
 by_cases a:p=[]
 . subst a;rfl
 . exact Lu (Km (Js hp a)) hp
def D7:Nat->List Rat->List Rat->List Rat
 |0,p,_=>Jp p
 |n+1,p,q=>if q=[]then Jp p else D7 n q (JK p q)
def Jz(p q:List Rat):List Rat:=D7 q.length p q
theorem br:∀(n m:Nat) (p q:List Rat),Jd q=q->q.length<=n->q.length<=m->D7 n p q=D7 m p q:=by
 intro n;induction n with
 |zero=>
  intro m p q _ h _;have hq:q=[]:=Kl O;subst hq;cases m with
  |zero=>rfl
  |succ m=>simp[D7]
 |succ n b=>
  intro m p q hq h c;by_cases a:q=[]
  . subst a;cases m with
    |zero=>simp[D7]
    |succ m=>simp[D7]
  . have hl:0<q.length:=Ae.2 a;cases m with
    |zero=>omega
    |succ m=>
     have d:=(YT p q hq a).2.1;simp only[D7,BA a];exact b m q (JK p q) (Xj _ _) O O
theorem RV(p:List Rat):Jz p []=Jp p:=rfl
theorem bv(hq:Jd q=q)(a:q≠[]):Jz p q=Jz q (JK p q):=by
 have c:=(YT p q hq a).2.1;have hl:0<q.length:=Ae.2 a;unfold Jz;obtain⟨n,b⟩:∃n,q.length=n+1:=⟨q.length-1,O⟩;rw[b,D7,BA a];exact br _ _ _ _ (Xj _ _) O (Aa _)
theorem bw:∀(n:Nat) (c d:Rat) (p q:List Rat),c≠0->d≠0->Jd p=p->Jd q=q->D7 n (DN c p) (DN d q)=D7 n p q:=by
 intro n;induction n with
 |zero=>intro c d p q b _ hp _;exact Lu b hp
 |succ n f=>
  intro c d p q b e hp hq;by_cases a:q=[]
  . subst a;simp only[D7,bS,BC];exact Lu b hp
  . simp only[D7,BA a,BA (KB e hq a)];rw[(Ls e p q hq a).2];exact f d c q (JK p q) e b hq (Xj _ _)
theorem RW(b:c≠0)(a:d≠0)(hp:Jd p=p)(hq:Jd q=q):Jz (DN c p) (DN d q)=Jz p q:=by
 unfold Jz;rw[Yl a hq];exact bw _ _ _ _ _ b a hp hq
theorem Eu.gcd(h:Eu p q a b):Jd p=p->Jd q=q->Jz p q=Jz a b:=by
 induction h using Eu.ind with
 |base p q=>exact λ_ _=>rfl
 |step p q c a b f e _ g=>
  intro hp hq;rw[<-g hq (JP _ _),bv hq f];have d:=RW (c:=1) DF e hq (Xj p q);rw[Ic hq]at d;exact d.symm
theorem cA:∀(n:Nat) (p q:List Rat),Jd (D7 n p q)=D7 n p q:=by
 intro n;induction n with
 |zero=>intro p q;exact YF _
 |succ n a=>
  intro p q;rw[D7];split
  . exact YF _
  . exact a _ _
theorem Yi(p q:List Rat):Jd (Jz p q)=Jz p q:=cA _ _ _
theorem Gx(c:Rat):c*(c.den:Rat)=(c.num:Rat):=by
 have d:((c.den:Int):Rat)≠0:=by exact_mod_cast c.den_nz
 have a:=CX c;rw[CA]at a;have b:(c.num:Rat)/((c.den:Int):Rat)*((c.den:Int):Rat)=c.num:=Ap d;rw[a,AP]at b;exact b
theorem dvd_one{a b c:Int}(h:a∣b*c)(e:Nat.gcd a.natAbs c.natAbs=1):a∣b:=by
 have d:=FG.2 h;rw[Cz]at d;exact FG.1 (Nat.Coprime.dvd_of_dvd_mul_right e d)
theorem cC{n:Int}(h:c*(D:Rat)=(n:Rat)):(c.den:Int)∣D/\c.num*D=n*c.den:=by
 have b:c*(c.den:Rat)=(c.num:Rat):=Gx c;have d:((c.num*D:Int):Rat)=((n*(c.den:Int):Int):Rat):=by
  rw[AB,AB,<-b,<-h];show c*(c.den:Rat)*(D:Rat)=c*(D:Rat)*((c.den:Int):Rat);rw[AP];grind
 have a:c.num*D=n*c.den:=Rat.intCast_inj.1 d;refine⟨?_,a⟩;have e:(c.den:Int)∣D*c.num:=⟨n,by rw[CN D,a,CN]⟩;refine dvd_one e ?_;show Nat.gcd (c.den:Int).natAbs c.num.natAbs=1;rw[AK,CZ];exact c.reduced
theorem cD{L G:Int}(V:∀i,((cf p i).den:Int)∣L)(W:∀u:Int,(∀i,((cf p i).den:Int)∣u)->L∣u)(T:∀i,G∣(cf p i).num)(U:∀v:Int,(∀i,v∣(cf p i).num)->v∣G)(s:G≠0)(h:Ln K p):
 ∀i,∃z:Int,Sm K z/\cf p i*((L:Rat)/(G:Rat))=(z:Rat):=by
 obtain⟨c,X,hz⟩:=h;have E:c.num≠0:=λe=>X (FD.1 e);have A:(c.den:Int)≠0:=by have:=c.den_nz;omega
 have k:∀i,∃z:Int,Sm K z/\(cf p i).num*c.num=z*((cf p i).den*c.den):=λi=>by
  obtain⟨z,l,n⟩:=hz i;refine⟨z,l,?_⟩;have N:c*(c.den:Rat)=(c.num:Rat):=Gx c;have a:cf p i*((cf p i).den:Rat)=((cf p i).num:Rat):=Gx _;have Q:(((cf p i).num*c.num:Int):Rat)=((z*(((cf p i).den:Int)*(c.den:Int)):Int):Rat):=by
   rw[AB,AB,AB,AP,AP,<-N,<-a,<-n];grind
  exact Rat.intCast_inj.1 Q
 have g:L∣c.num:=W _ λi=>by
  obtain⟨z,_,e⟩:=k i;have b:((cf p i).den:Int)∣(cf p i).num*c.num:=⟨z*c.den,by rw[e,Int.mul_left_comm]⟩;rw[CN]at b;refine dvd_one b ?_;show Nat.gcd ((cf p i).den:Int).natAbs (cf p i).num.natAbs=1;rw[AK,CZ];exact(cf p i).reduced
 have j:(c.den:Int)∣G:=U _ λi=>by
  obtain⟨z,_,e⟩:=k i;have b:(c.den:Int)∣(cf p i).num*c.num:=⟨z*(cf p i).den,by rw[e,<-Fx,CN]⟩;refine dvd_one b ?_;show Nat.gcd (c.den:Int).natAbs c.num.natAbs=1;rw[AK,CZ];exact c.reduced
 obtain⟨u,g⟩:=g;obtain⟨v,j⟩:=j;have M:u≠0:=λe=>E (by rw[g,e,Int.mul_zero]);have x:v≠0:=λe=>s (by rw[j,e,Int.mul_zero]);intro i;obtain⟨e,t⟩:=V i;obtain⟨m,w⟩:=T i;obtain⟨z,l,n⟩:=k i;have hd:((cf p i).den:Int)≠0:=by have:=(cf p i).den_nz;omega
 have D:z=m*e*(u*v):=by
  have R:z*(((cf p i).den:Int)*c.den)=m*e*(u*v)*(((cf p i).den:Int)*c.den):=by
   rw[<-n,w,g,j,t];generalize ((cf p i).den:Int)=d;generalize (c.den:Int)=f;grind
  exact Int.eq_of_mul_eq_mul_right (CI hd A) R
 refine⟨m*e,l.le ?_,?_⟩
 . rw[D,Cz (m*e)]
   have:0<(u*v).natAbs:=Int.natAbs_pos.2 (CI M x)
   exact Ce _ this
 . have q:(G:Rat)≠0:=by exact_mod_cast s
   have a:cf p i*((cf p i).den:Rat)=((cf p i).num:Rat):=Gx _;rw[w,AB]at a;have y:(L:Rat)=((cf p i).den:Rat)*(e:Rat):=by rw[t,AB,AP]
   have o:(L:Rat)/(G:Rat)*(G:Rat)=L:=Ap q;have S:(cf p i*((L:Rat)/(G:Rat))-((m*e:Int):Rat))*(G:Rat)=0:=by
    rw[AB];generalize (L:Rat)/(G:Rat)=f at o ⊢;rw[y]at o;generalize ((cf p i).den:Rat)=d at a o;grind
   rcases AM.1 S with r|r
   . grind
   . exact absurd r q
def Y3(p:List Rat):Nat->Nat
 |0=>1
 |n+1=>Nat.lcm (Y3 p n) (cf p n).den
def YN(p:List Rat):Nat->Nat
 |0=>0
 |n+1=>Nat.gcd (YN p n) (cf p n).num.natAbs
theorem RX(p:List Rat):∀n,0<Y3 p n:=by
 intro n;induction n with
 |zero=>exact Nat.one_pos
 |succ n a=>exact Nat.lcm_pos a (cf p n).den_pos
theorem N3(p:List Rat):∀n i,i<n->(cf p i).den∣Y3 p n:=by
 intro n;induction n with
 |zero=>intro i h;omega
 |succ n a=>
  intro i h;rw[Y3];by_cases e:i=n
  . subst e;exact Nat.dvd_lcm_right _ _
  . exact Nat.dvd_trans (a i O) (Nat.dvd_lcm_left _ _)
theorem N8(p:List Rat)(u:Nat)(h:∀i,(cf p i).den∣u):∀n,Y3 p n∣u:=by
 intro n;induction n with
 |zero=>exact Nat.one_dvd _
 |succ n a=>exact Nat.lcm_dvd a (h n)
theorem N9(p:List Rat):∀n i,i<n->YN p n∣(cf p i).num.natAbs:=by
 intro n;induction n with
 |zero=>intro i h;omega
 |succ n a=>
  intro i h;rw[YN];by_cases e:i=n
  . subst e;exact CV _ _
  . exact Nat.dvd_trans (Fj _ _) (a i O)
theorem RY(p:List Rat)(v:Nat)(h:∀i,v∣(cf p i).num.natAbs):∀n,v∣YN p n:=by
 intro n;induction n with
 |zero=>exact Nat.dvd_zero _
 |succ n a=>exact Nat.dvd_gcd a (h n)
theorem RZ(hD:D≠0)(h:CD D K c):∃n:Int,Sm K n/\c*(D:Rat)=(n:Rat):=by
 obtain⟨n,rfl,h⟩:=h;refine⟨n,h,?_⟩;have a:(D:Rat)≠0:=by exact_mod_cast hD
 rw[CA];exact Ap a
theorem Lw{n:Int}(hD:D≠0)(b:Sm K n)(h:c*(D:Rat)=(n:Rat)):CD D K c:=by
 refine⟨n,?_,b⟩;have a:(D:Rat)≠0:=by exact_mod_cast hD
 rw[CA,<-h];exact(Rat.mul_div_cancel a).symm
theorem Ra(hD:D≠0)(a:Sm K D)(h:D6 D K p)(n:Nat):Sm K (Y3 p n:Int):=by
 refine a.le ?_;rw[AK];refine Nat.le_of_dvd (Int.natAbs_pos.2 hD) (N8 p _ (λi=>?_) n);obtain⟨z,_,e⟩:=RZ hD (h i);have:=(cC e).1;exact CP.1 this
theorem Rb(h:∀i,Sm K (cf p i).num):∀n,Sm K (YN p n:Int):=by
 intro n;induction n with
 |zero=>exact Sm.zero K
 |succ n a=>exact Sm.gcd a (h n)
theorem D6.ln(hD:D≠0)(h:D6 D K p):Ln K p:=
 ⟨(D:Rat),by exact_mod_cast hD,λi=>RZ hD (h i)⟩
theorem Kn(hp:Jd p=p)(a:p≠[]):YN p p.length≠0:=λe=>by
 have hl:0<p.length:=Ae.2 a;have b:=N9 p p.length (p.length-1) O;rw[e]at b;have c:(cf p (p.length-1)).num.natAbs=0:=Nat.zero_dvd.1 b;exact Js hp a (FD.1 (Int.natAbs_eq_zero.1 c))
def JI(p:List Rat):List Rat:=DN ((Y3 p p.length:Rat)/(YN p p.length:Rat)) p
theorem cF(hp:Jd p=p)(a:p≠[]):0<(Y3 p p.length:Rat)/(YN p p.length:Rat):=by
 have b:(0:Rat)<(Y3 p p.length:Rat):=by exact_mod_cast RX p _
 have c:(0:Rat)<(YN p p.length:Rat):=by exact_mod_cast Nat.pos_of_ne_zero (Kn hp a)
 rw[Fh];exact Rat.mul_pos b (Rat.inv_pos.2 c)
theorem Rc(hp:Jd p=p)(d:p≠[])(h:Ln K p):∀i,∃z:Int,Sm K z/\cf (JI p) i=(z:Rat):=by
 have c:∀i,p.length<=i->cf p i=0:=λi a=>Ye a;have e:=cD (p:=p) (L:=(Y3 p p.length:Int)) (G:=(YN p p.length:Int)) (λi=>by
  by_cases a:i<p.length
  . exact Int.natCast_dvd_natCast.2 (N3 p _ i a)
  . rw[c i O];exact Int.one_dvd _) (λu g=>by
  refine CP.2 (N8 p _ (λi=>CP.1 (g i)) _)) (λi=>by
  by_cases a:i<p.length
  . exact CP.2 (N9 p _ i a)
  . rw[c i O];exact Int.dvd_zero _) (λv j=>by
  have:v.natAbs∣YN p p.length:=RY p _ (λi=>FG.2 (j i)) _
  exact Int.natAbs_dvd.1 (Int.natCast_dvd_natCast.2 this)) (by have:=Kn hp d;omega) h
 intro i;obtain⟨z,f,b⟩:=e i;refine⟨z,f,?_⟩;unfold JI;rw[Yu];rw[AP,AP]at b;exact b

