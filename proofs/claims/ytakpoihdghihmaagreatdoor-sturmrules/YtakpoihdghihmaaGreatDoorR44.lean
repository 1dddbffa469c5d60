import Derived.Test.YtakpoihdghihmaaGreatDoorR43
open Go.Value renaming slice->B,pointer->F,int->H,bool->L,agg->P
open Go renaming undef->C
open Go.Obj renaming cells->G
open Go.IntKind renaming i64->I
set_option maxRecDepth 100000
set_option maxHeartbeats 16000000
namespace Go.Proofs.YtakpoihdghihmaaGreatDoor
namespace M3
open Go.RowKit Go.Shelf
attribute [local go_sem] Oper.semAt_some
def Kp(w V:World)(B5 b c:Nat)(rs a:Value)(R:List Rat):Prop:=
 Boxed V (w.heap.size+1+1) 25 (B none 0 0)/\Boxed V (w.heap.size+1+1+1) 25 (B none 0 0)/\Boxed V B5 23 rs/\Boxed V b 23 a/\Boxed V c 23 a/\RowK true V rs R/\Bl w V
variable{S ps:List Rat}{n:Nat}{row:Option Nat}{V V':World}
theorem boxed_own(a:V.grownBy V' row)(b:∀r,row=some r->∃o:Obj,V.heap[r]?=some o/\o.isCells=false){B:Nat}{t:TypeId}{v:Value}(h:Boxed V B t v):Boxed V' B t v:=Yc a b (show Bx V B t #[v]from h)
theorem Kp.own{w:World}{B5 c d:Nat}{rs g:Value}{R:List Rat}(h:Kp w V B5 c d rs g R)(a:V.grownBy V' row)(f:∀x,row=some x->w.heap.size<=x/\∃o:Obj,V.heap[x]?=some o/\o.isCells=false):Kp w V' B5 c d rs g R:=by
 have b:∀r,row=some r->∃o:Obj,V.heap[r]?=some o/\o.isCells=false:=λr e=>(f r e).2;exact⟨boxed_own a b h.1,boxed_own a b h.2.1,boxed_own a b h.2.2.1,boxed_own a b h.2.2.2.1,boxed_own a b h.2.2.2.2.1,Hs a b h.2.2.2.2.2.1,h.2.2.2.2.2.2.grown a h.2.2.2.2.2.2.size λk e=>(f k e).1⟩
theorem row_zero(V:World)(a:Option Addr):RowK true V (B a 0 0) []:=⟨a,0,rfl,Aa _,Y,O,Or.inl rfl⟩
theorem bD(x:Value)(ps:List Rat)(y:Value)(w:World)(t:Je w x ps)(m:Je w y []):
 Calls Tryz.prog 139 #[x,y] w λe n=>e=.returned (.tuple #[P #[B none 0 0],P #[B none 0 0],L false])/\Bl w n:=by
 obtain⟨f,la,g,rfl⟩:=t.form;obtain⟨b,lb,c,rfl⟩:=m.form;have j:Mem w _ _:=((((Mem.nil w).push (.cell 25 (B f la g)) (cs:=#[B f la g]) ⟨rfl,rfl⟩).push (.cell 25 (B b lb c)) (cs:=#[B b lb c]) ⟨rfl,rfl⟩).push (.cell 25 (B none 0 0)) (cs:=#[B none 0 0]) ⟨rfl,rfl⟩).push (.cell 25 (B none 0 0)) (cs:=#[B none 0 0]) ⟨rfl,rfl⟩;simp only[Ax]at j;obtain⟨d,l⟩:=ex ((((w.alloc (G #[B f la g] 25)).alloc (G #[B b lb c] 25)).alloc (G #[B none 0 0] 25)).alloc (G #[B none 0 0] 25));have k:Mem w d [some (w.heap.size,.cell 25 (B f la g)),some (w.heap.size+1,.cell 25 (B b lb c)),some (w.heap.size+1+1,.cell 25 (B none 0 0)),some (w.heap.size+1+1+1,.cell 25 (B none 0 0))]:=by rw[<-l];exact j
 obtain⟨q,r,A⟩:=Df (show Calls Tryz.prog 30 #[P #[B b lb c]] d λe n=>e=.returned (H I (-1))/\Bl d n from JX (P #[B b lb c]) [] d (m.below k.2.2)) k l;clear t m j k l;go_enter Tryz.func139,Tryz.ntmps139
 go_upto_region 1 with fail
 rw[A.o];have c1:=(r.o.cell (i:=1) rfl).1.cell;go_wp2_with(go_at_call 30;refine q.o.mono ?_;clear q;rintro e o ⟨rfl,u⟩;have s:Bl o (o.alloc (G #[H I (-1)] 3)):=Ba o _;have a:=(r.o.below u).below s;have D:=(a.cell (i:=2) rfl).1.cell;have f2:=(a.cell (i:=2) rfl).1.frozen;have E:=(a.cell (i:=3) rfl).1.cell;have f3:=(a.cell (i:=3) rfl).1.frozen;have z:=Ja a.2.2;clear s a u)
 refine BA (v:=.tuple #[P #[B none 0 0],P #[B none 0 0],L false]) (by simp[results,Tryz.results139,go_sem,D,E]) rfl ⟨rfl,?_⟩;exact((z.o.setCell (p:=⟨w.heap.size+1+1,0,none⟩) (by show w.heap.size<=w.heap.size+1+1;omega) _).setCell (p:=⟨w.heap.size+1+1+1,0,none⟩) (by show w.heap.size<=w.heap.size+1+1+1;omega) _)
theorem bE(M z:Option Addr)(la N lb A n:Nat)(ps qs:List Rat)(w:World)(ha:RowK true w (B M la N) ps)(hb:RowK true w (B z lb A) qs)(hs:DV ps)(bf:Jd ps=ps)(hn:lb=n+1)(hm:la<=n):
 Calls Tryz.prog 139 #[P #[B M la N],P #[B z lb A]] w λe w'=>∃u v,e=.returned (.tuple #[u,v,L true])/\Je w' u []/\Je w' v ps/\Bl w w':=by
 have Qz:Tryz.prog.follows .mixedOrders=true:=by kernel_rfl
 obtain⟨bc,bg,bi,bn,_⟩:=ha.forms;obtain⟨bl,bh,bj,bt,_⟩:=hb.forms;have M0:Mem w _ _:=((((Mem.nil w).push (.cell 25 (B M la N)) (cs:=#[B M la N]) ⟨rfl,rfl⟩).push (.cell 25 (B z lb A)) (cs:=#[B z lb A]) ⟨rfl,rfl⟩).push (.cell 25 (B none 0 0)) (cs:=#[B none 0 0]) ⟨rfl,rfl⟩).push (.cell 25 (B none 0 0)) (cs:=#[B none 0 0]) ⟨rfl,rfl⟩;simp only[Ax]at M0;obtain⟨V0,an⟩:=ex ((((w.alloc (G #[B M la N] 25)).alloc (G #[B z lb A] 25)).alloc (G #[B none 0 0] 25)).alloc (G #[B none 0 0] 25));have M1:Mem w V0 [some (w.heap.size,.cell 25 (B M la N)),some (w.heap.size+1,.cell 25 (B z lb A)),some (w.heap.size+1+1,.cell 25 (B none 0 0)),some (w.heap.size+1+1+1,.cell 25 (B none 0 0))]:=by rw[<-an];exact M0
 have Qw:=Ja M1;have Qv:=Ja (show Calls Tryz.prog 30 #[P #[B z lb A]] V0 λe w'=>e=.returned (H I (n:Int))/\Bl V0 w' by
  have h:=JX (P #[B z lb A]) qs V0 ⟨_,rfl,hb.below M1.2.2⟩;rwa[show((qs.length:Int)-1)=(n:Int)by omega]at h)
 have Qs:=Ja λ(V:World) (h:Bl w V)=>QM (B M la N) ps V (ha.below h);have bz:∀W:World,(Instr.makeSlice 23 (H I 0) (H I 0)).run Tryz.prog W=.ok (B (some ⟨W.heap.size,0,none⟩) 0 0) (W.alloc (G (Yb 0) 37)):=λW=>I4 0 Y W;obtain⟨x,hx⟩:=ex ((la:Int)-(n:Int):Int);have ce:IntKind.i64.wrap x=x:=by rw[BO];omega
 have bu:max (0:Int) x=0:=Y
 obtain⟨Ua,Uf,Ud,Qu⟩:=Dt hs bf bc an;clear ha hb bc bl bg bi bh bj hs bf hn hm M0 M1 an;refine(BH (n:=3)).1 ?_;refine BN Tryz.func139 rfl trivial ?_ rfl;simp only[Tryz.ntmps139,As,Ah,Ay,Nat.reduceAdd,Nat.reduceSub,Av,Aw,AG,AC,Ar,Au];gi_wp2_with fail
 rw[Qu.o];refine⟨trivial,?_⟩;refine((BH (n:=_)).2 Qv.o).mono ?_;rintro e w1 ⟨rfl,az⟩;have Qm:Bl w1 (w1.alloc (G #[H I (n:Int)] 3)):=Ba w1 _;have Qi:=(Qw.o.below az).below Qm;have h4:=BG w1 3 (H I (n:Int));have c0:=(Qi.cell (i:=0) rfl).1.cell;obtain⟨Qe,Qk,H4⟩:=Df (Qs.o _ Qi.2.2) Qi h4;clear Qm Qi h4 az Qv Qu Qw Qs;gi_wp2_with fail
 obtain⟨V1,ap⟩:=ex (w1.alloc (G #[H I (n:Int)] 3));obtain⟨B4,aj⟩:=ex (w1.heap.size);rw[ap]at Qe Qk H4 c0;rw[aj]at H4;rw[ap,aj];clear ap aj;refine⟨trivial,?_⟩;refine((BH (n:=_)).2 Qe.o).mono ?_;rintro e d ⟨u2,rfl,ax,_,ae,_⟩;obtain⟨f,rc,e9,_⟩:=id ax;rw[<-Ud.o]at e9;subst e9;have Qn:=Qk.o.below ae;have h4:Boxed d B4 3 (H I (n:Int)):=(ae.block B4 H4.o.lt).trans H4.o;have Ql:Bl d (d.alloc (G #[B f la rc] 23)):=Ba d _;have Qo:=Qn.push (.cell 23 (B f la rc)) (cs:=#[B f la rc]) ⟨rfl,rfl⟩;have h5:Boxed (d.alloc (G #[B f la rc] 23)) B4 3 (H I (n:Int)):=(Ql.block B4 h4.lt).trans h4;have c4:=h5.cell;have Qp:=Ja Qo;have Qt:=Ja (ax.below Ql);clear ax ae Qn h4 Ql Qo h5 Qk H4 Qe c0;gi_wp2_with fail
 refine⟨trivial,?_⟩;refine(Ld Fence.wide _ trivial rfl _ _ _ _).mono ?_;rintro e w3 ⟨rfl,rfl⟩;have S:=((Qp.o.push (.rats (List.replicate 0 0)) (Ko _ 0)).push (.cell 23 (B (some ⟨d.heap.size+1,0,none⟩) 0 0)) (cs:=#[B (some ⟨d.heap.size+1,0,none⟩) 0 0]) ⟨rfl,rfl⟩).push (.cell 23 (B (some ⟨d.heap.size+1,0,none⟩) 0 0)) (cs:=#[B (some ⟨d.heap.size+1,0,none⟩) 0 0]) ⟨rfl,rfl⟩;simp only[Ax]at S;have Qq:Below (d.alloc (G #[B f la rc] 23)).heap.size (d.alloc (G #[B f la rc] 23)) ((((d.alloc (G #[B f la rc] 23)).alloc (G (Yb 0) 37)).alloc (G #[B (some ⟨d.heap.size+1,0,none⟩) 0 0] 23)).alloc (G #[B (some ⟨d.heap.size+1,0,none⟩) 0 0] 23)):=
  ((Ba _ _).alloc (by simp only[Ax];omega) _).alloc (by simp only[Ax];omega) _
 have hF:Kp w ((((d.alloc (G #[B f la rc] 23)).alloc (G (Yb 0) 37)).alloc (G #[B (some ⟨d.heap.size+1,0,none⟩) 0 0] 23)).alloc (G #[B (some ⟨d.heap.size+1,0,none⟩) 0 0] 23)) d.heap.size (d.heap.size+1+1) (d.heap.size+1+1+1) (B f la rc) (B (some ⟨d.heap.size+1,0,none⟩) 0 0) ps:=
  ⟨(S.cell (i:=2) rfl).1,(S.cell (i:=3) rfl).1,(S.cell (i:=4) rfl).1,(S.cell (i:=6) rfl).1,(S.cell (i:=7) rfl).1,Qt.o.below Qq,S.2.2⟩
 obtain⟨W3,aq⟩:=ex ((((d.alloc (G #[B f la rc] 23)).alloc (G (Yb 0) 37)).alloc (G #[B (some ⟨d.heap.size+1,0,none⟩) 0 0] 23)).alloc (G #[B (some ⟨d.heap.size+1,0,none⟩) 0 0] 23));rw[aq]at hF;rw[aq];simp only[Ax];obtain⟨B5,ak⟩:=ex (d.heap.size);rw[ak]at hF;rw[ak];have HF:=Ja hF;clear S Qq hF aq ak Qp Qt c4;gi_wp2_with fail
 have Qr:=Ja (show w.heap.size<=W3.heap.size from HF.o.2.2.2.2.2.2.size);refine Xd rfl Y (gf:=170) (lb:=#[F (some ⟨B5+1+1+1,0,none⟩)]) rfl trivial (Bg Tryz.func170 (by kernel_rfl) rfl)
  (Lc Fence.wide _ trivial rfl Y (B5+1+1+1) (some ⟨B5+1,0,none⟩) 0 0 (λ_=>L false) (λ_=>B none 0 0) (λ_=>L false) (λ_=>B none 0 0) Y) (λ_=>rfl)
  (λ_ W=>Kp w W B5 (B5+1+1) (B5+1+1+1) (B f la rc) (B (some ⟨B5+1,0,none⟩) 0 0) ps) (λ_ _ _=>False)
  (λk W W' row h hg hr=>h.own hg λr e=>⟨An Qr.o (hr r e).1,(hr r e).2⟩)
  (λc s W W' row h=>h.elim) HF.o ?rd
  (λk=>{ tmps:=#[P #[B M la N],P #[B z lb A],F (some ⟨w.heap.size,0,none⟩),F (some ⟨w.heap.size+1,0,none⟩),F (some ⟨w.heap.size+1+1,0,none⟩),F (some ⟨w.heap.size+1+1+1,0,none⟩),L false,F (some ⟨B4,0,none⟩),F (some ⟨B5,0,none⟩),F (some ⟨B5+1+1,0,none⟩),H I (((0:Nat):Int)-1-k),C,C,C,C,P #[B z lb A],H I ↑n,H I ↑n,L (decide ((n:Int)<0)),C,C,F (some ⟨w.heap.size,0,none⟩),B M la N,B f la rc,B f la rc,H I ↑la,H I ↑n,H I x,H I 0,B (some ⟨B5+1,0,none⟩) 0 0,B (some ⟨B5+1,0,none⟩) 0 0,.func (.func 170) #[] #[F (some ⟨B5+1+1+1,0,none⟩)],H I (((0:Nat):Int)-1-k),P #[L false,B none 0 0,L false,B none 0 0],C,C,C,C,C,C,C,C,C,C,C,C,C,C,C,C,C,C,C,C,C,C,C,C,C,C,C,C,C,C,C,C,C,C,C,C,C,C,C,C,C,C,C,C,C,C,C],defers:=[] }) ?assign ?body ?done ?stop
 case stop=>intro D c k W _ _ h;exact h.elim
 case rd=>
  intro k W h;exact⟨h.2.2.2.2.1.cell,λhk=>by omega⟩
 case assign=>
  intro l k W K hK;unfold I3;gi_wp2;exact hK
 case body=>intro l k W T hk;omega
 case done=>
  intro q W hD T hK;have Qx:He w W.drew q B5 (B5+1+1) (B f la rc) (B (some ⟨B5+1,0,none⟩) 0 0) ps []:=
   He.below ⟨T.1,T.2.1,T.2.2.1,T.2.2.2.1,T.2.2.2.2.2.1,row_zero _ _,T.2.2.2.2.2.2,hK⟩ ((BF _ W).drew)
  have Ub:Lw false w W.drew q C:=λe=>by cases e
  have Qy:=Ja (show w.heap.size<=q by have:=Qr.o;omega);have Uc:=Ja (show DV []from DV.of λi=>Sq.of (k:=1) (by rw[YI];exact DT.zero 1 Y) Y);clear T hK HF;gi_wp2_with fail
  refine JU Qz [[],[0],[],[2,1],[1,3,0,1],[3,4,0,1,2,3,4],[5,0,1,2,3,4,5]] (by kernel_rfl) DF
   (λD ai V=>∃(tb tc td te ta:Value),ai={ tmps:=#[P #[B M la N],P #[B z lb A],F (some ⟨w.heap.size,0,none⟩),F (some ⟨w.heap.size+1,0,none⟩),F (some ⟨w.heap.size+1+1,0,none⟩),F (some ⟨w.heap.size+1+1+1,0,none⟩),ta,F (some ⟨B4,0,none⟩),F (some ⟨B5,0,none⟩),F (some ⟨B5+1+1,0,none⟩),C,C,C,C,C,P #[B z lb A],H I ↑n,H I ↑n,L (decide ((n:Int)<0)),C,C,F (some ⟨w.heap.size,0,none⟩),B M la N,B f la rc,B f la rc,H I ↑la,H I ↑n,H I x,H I 0,B (some ⟨B5+1,0,none⟩) 0 0,B (some ⟨B5+1,0,none⟩) 0 0,.func (.func 170) #[] #[F (some ⟨B5+1+1+1,0,none⟩)],C,C,C,C,C,C,C,C,C,C,C,C,C,C,C,C,C,C,C,C,C,C,C,C,C,C,C,C,C,C,C,C,C,C,C,C,C,C,C,C,C,C,C,C,C,tb,tc,td,te],defers:={ target:=.collected q,args:=#[] }::[] }/\Hid ((D 0=true->tb=B (some ⟨B5+1,0,none⟩) 0 0)/\(D 1=true->D 5=false->Je V tc (Jd []))/\(D 2=true->td=B f la rc)/\(D 3=true->D 5=false->Je V te (Jd ps))/\(D 6=true->ta=L true))/\Hid ((D 4=false->He w V q B5 (B5+1+1) (B f la rc) (B (some ⟨B5+1,0,none⟩) 0 0) ps [])/\(D 4=true->KC V))/\Hid ((D 5=false->Lw (D 4) w V q tc)/\(D 5=true->RL w V q tc te (Jd []) (Jd ps))))
   ⟨_,_,_,_,_,rfl,Ja O,Ja ⟨λ_=>Qx,O⟩,Ja ⟨λ_=>Ub,O⟩⟩ ?step1 ?fin1
  case step1=>
   rintro D ai V i ds Q hi j m ⟨tb,tc,td,te,ta,rfl,b,g,y⟩;have bm:i<7:=(Ac.1 hi).1;obtain rfl|rfl|rfl|rfl|rfl|rfl|rfl:=IB i Y
   all_goals
    simp only[Af,Ae,Ai]at hi;subst hi
   . have t:=g.o.1 (DG Q m);have Qf:=y.o.1 (DG Q m);have e6:=t.2.2.2.1.cell;clear j;refine DY ?_;exact⟨(Dc b),g,y⟩
   . have U:D 4=false:=DG Q m;have t:=g.o.1 U;have R:D 5=false:=DG Q m;have Qf:=y.o.1 R;obtain rfl:=b.o.1 (j 0 O);clear j;have HC:=Ja λ(n9:Nat)=>(BH (n:=n9)).2 (Gk _ [] V t.2.2.2.2.2.1 Uc.o);refine BM rfl λK hK=>?_;go_simp;gi_wp2_with(refine⟨trivial,?_⟩;gi_at_call 39;refine(HC.o _).mono ?_;rintro e w5 ⟨v5,rfl,ay,_,ad⟩)
     exact⟨_,_,_,_,_,rfl,Ja ⟨λ_=>rfl,λ_ _=>ay,b.o.2.2.1,λh X=>(b.o.2.2.2.1 h X).below ad,b.o.2.2.2.2⟩,Ja ⟨λh=>(g.o.1 h).below ad,λh=>(g.o.2 h).below ad⟩,Ja ⟨λ_=>(λe=>by simp[U]at e),λh=>by simp[R]at h⟩⟩
   . have U:D 4=false:=DG Q (DG (a:=3) Q m);have t:=g.o.1 U;have Qf:=y.o.1 (DG Q m);have e5:=t.2.2.1.cell;clear j;refine DY ?_;exact⟨Ja ⟨b.o.1,b.o.2.1,λ_=>rfl,b.o.2.2.2.1,b.o.2.2.2.2⟩,g,y⟩
   . have U:D 4=false:=DG Q m;have t:=g.o.1 U;have R:D 5=false:=DG Q m;have Qf:=y.o.1 R;obtain rfl:=b.o.2.2.1 (j 2 O);clear j;have HC:=Ja λ(n9:Nat)=>(BH (n:=n9)).2 (Gk _ ps V t.2.2.2.2.1 Ua.o);refine BM rfl λK hK=>?_;go_simp;gi_wp2_with(refine⟨trivial,?_⟩;gi_at_call 39;refine(HC.o _).mono ?_;rintro e w5 ⟨v5,rfl,ay,_,ad⟩)
     exact⟨_,_,_,_,_,rfl,Ja ⟨b.o.1,λh X=>(b.o.2.1 h X).below ad,λ_=>rfl,λ_ _=>ay,b.o.2.2.2.2⟩,Ja ⟨λh=>(g.o.1 h).below ad,λh=>(g.o.2 h).below ad⟩,Ja ⟨λ_=>(λe=>by simp[U]at e),λh=>by simp[R]at h⟩⟩
   . have t:=g.o.1 m;have R:D 5=false:=DG Q m;have Qf:=y.o.1 R;have h0:=b.o.2.1 (j 1 O) R;obtain⟨a9,l9,c9,rfl⟩:=Je.form h0;have Qg:=t.1;have e0:=Qg.cell;have f0:=Qg.frozen;have Qj:w.heap.size+1+1+1≠w.heap.size+1+1:=Y
     clear j;refine DY ?_;obtain⟨G0,G1,G2,G3,G4⟩:=b.o;exact⟨Ja ⟨G0,λh X=>(G1 h X).setP Qg _,G2,λh X=>(G3 h X).setP Qg _,G4⟩,Ja ⟨λh=>by simp at h,λ_=>trivial⟩,Ja ⟨λ_=>(λ_=>⟨_,rfl,Qg.set _,(BD V ⟨w.heap.size+1+1,0,none⟩ _ _ Qj).trans t.2.1,t.2.2.2.2.2.2.1.setCell (p:=⟨w.heap.size+1+1,0,none⟩) (by show w.heap.size<=w.heap.size+1+1;omega) _,(BI V ⟨w.heap.size+1+1,0,none⟩ _).same q _ t.2.2.2.2.2.2.2 rfl⟩),λh=>by simp[R]at h⟩⟩
   . have Qf:=y.o.1 m;have h0:=b.o.2.1 (j 1 O) m;have h1:=b.o.2.2.2.1 (j 3 O) m;have Ue:=j 4 O;obtain⟨v2,rfl,ae,af,aw,ah⟩:=Qf (j 4 O);obtain⟨a9,l9,c9,rfl⟩:=Je.form h1;have e0:=af.cell;have f0:=af.frozen;have Qj:w.heap.size+1+1≠w.heap.size+1+1+1:=Y
     clear j;refine DY ?_;exact⟨Ja ⟨b.o.1,λ_ h=>by simp at h,b.o.2.2.1,λ_ h=>by simp at h,b.o.2.2.2.2⟩,Ja ⟨λh=>by simp[Ue]at h,λ_=>trivial⟩,Ja ⟨λh=>by simp at h,λ_=>⟨_,_,rfl,rfl,(BD V ⟨w.heap.size+1+1+1,0,none⟩ _ _ Qj).trans ae,af.set _,h0.setP af _,h1.setP af _,aw.setCell (p:=⟨w.heap.size+1+1+1,0,none⟩) (by show w.heap.size<=w.heap.size+1+1+1;omega) _,(BI V ⟨w.heap.size+1+1+1,0,none⟩ _).same q _ ah rfl⟩⟩⟩
   . clear j;refine DY ?_;exact⟨Ja ⟨b.o.1,b.o.2.1,b.o.2.2.1,b.o.2.2.2.1,λ_=>rfl⟩,g,y⟩
  case fin1=>
   rintro E ai V am ⟨tb,tc,td,te,ta,rfl,b,g,y⟩;obtain⟨v,v',rfl,rfl,g2,g3,bk,ba,aw,ah⟩:=y.o.2 (am 5 DF);obtain rfl:=b.o.2.2.2.2 (am 6 DF);clear b g y am;gi_wp2;refine⟨O,.inl ⟨_,_,rfl,BR ah,?_⟩⟩;have hg:=BU V q (.deferred none);have Qh:∀r,some q=some r->∃o:Obj,V.heap[r]?=some o/\o.isCells=false:=λr e=>by cases e;exact⟨_,ah,rfl⟩
   have q2:Boxed _ (w.heap.size+1+1) 25 v:=Yc hg Qh (show Bx V (w.heap.size+1+1) 25 #[v]from g2);have q3:Boxed _ (w.heap.size+1+1+1) 25 v':=Yc hg Qh (show Bx V (w.heap.size+1+1+1) 25 #[v']from g3);have x2:=q2.cell;have x3:=q3.cell;refine⟨.tuple #[P #[v],P #[v'],L true],by simp[results,Tryz.results139,go_sem,x2,x3],_,_,rfl,?_,?_,?_⟩
   . obtain⟨u,e,h⟩:=bk;exact⟨u,e,Hs hg Qh h⟩
   . rw[Uf.o]at ba;obtain⟨u,e,h⟩:=ba;exact⟨u,e,Hs hg Qh h⟩
   . exact aw.trans (Bz (w:=w) (Aa _) _ q _ _ Qy.o ah rfl rfl)
theorem RM(A:Nat)(j l:Value)(ps qs:List Rat)(w:World)(f:Je w j ps)(g:Je w l qs)(E:DV ps)(hq:∀i,DT A (cf qs i))(n:Jd ps=ps)(K:Jd qs=qs)
(x:qs≠[]->∀k,k<=ps.length-(qs.length-1)->∃z,z+(2*A+1)<=1000000/\(k<ps.length-(qs.length-1)->2*z+2*(2*A+1)<=1000000)/\(∀i,DT z (cf (JF ps qs (qs.length-1) (ps.length-(qs.length-1)) k).2 i))/\∀i,DT (z+A) (cf (JF ps qs (qs.length-1) (ps.length-(qs.length-1)) k).1 i)):
 Calls Tryz.prog 139 #[j,l] w λe b=>∃u v,e=.returned (.tuple #[u,v,L (decide (qs≠[]))])/\Je b u (if qs=[]then []else Jp ps qs)/\Je b v (if qs=[]then []else JM ps qs)/\Bl w b:=by
 by_cases a:qs=[]
 . subst a;refine(bD j ps l w f g).mono ?_;rintro e b ⟨rfl,h⟩;exact⟨_,_,rfl,⟨_,rfl,RowK.nil _ _⟩,⟨_,rfl,RowK.nil _ _⟩,h⟩
 . have y:decide (qs≠[])=true:=BJ a;rw[y];simp only[BB a];have R:0<qs.length:=Ag.2 a;obtain⟨o,la,p,rfl⟩:=f.form;obtain⟨q,lb,r,rfl⟩:=g.form;have c:=f.row;have d:=g.row;obtain⟨N,_⟩:=c.forms;obtain⟨Q,_⟩:=d.forms;by_cases D:la<=lb-1
   . have m:ps.length-(qs.length-1)=0:=Y
     have s:Jp ps qs=[]:=by unfold Jp;rw[m];rfl
     have t:JM ps qs=ps:=by unfold JM;rw[m];exact n
     rw[s,t];exact bE o q la p lb r (lb-1) ps qs w c d E n Y D
   . exact bC A o q la p lb r (lb-1) (la-(lb-1)) ps qs w c d hq K a (λk M=>by rw[show lb-1=qs.length-1 by omega,show la-(qs.length-1)=ps.length-(qs.length-1)by omega];exact x a k Y) Y Y Y
def KE(ps:List Rat)(n i:Nat)(S:List Rat):Prop:=S.length=n/\∀j,cf S j=if j<i then Gn ps j else 0
theorem KE.next{i:Nat}(h:KE ps n i S)(b:i<n):KE ps n (i+1) (S.set i (Gn ps i)):=by
 refine⟨by rw[CJ];exact h.1,λj=>?_⟩;rw[XV _ _ _ _ (by rw[h.1];exact b),h.2 j];by_cases e:j=i
 . rw[BC e,BC Y,e]
 . rw[BB e];by_cases a:j<i
   . rw[BC a,BC Y]
   . rw[BB a,BB Y]
theorem KE.done(h:KE ps n n S)(a:n=ps.length-1):Jd S=Jb ps:=IF λj=>by
 rw[h.2 j,Is];split
 . rfl
 . rw[Ye (p:=ps) Y,A2]
theorem Lx(v:Value)(ps:List Rat)(w:World)(h:Je w v ps)(az:DV ps)(ba:∀i,Sq (Gn ps i)):
 Calls Tryz.prog 38 #[v] w λe w'=>∃u,e=.returned u/\Je w' u (Jb ps)/\Bl w w':=by
 have Qr:Tryz.prog.follows .mixedOrders=true:=by kernel_rfl
 obtain⟨o,la,k,rfl⟩:=h.form;have ha:=h.row;obtain⟨ax,bg,bh,bm,s,t,aa,bb,ll,cc,kk,dd,aq⟩:=ha.forms;have M0:Mem w _ _:=((Mem.nil w).push (.cell 25 (B o la k)) (cs:=#[B o la k]) ⟨rfl,rfl⟩).push (.cell 25 (B none 0 0)) (cs:=#[B none 0 0]) ⟨rfl,rfl⟩;simp only[Ax]at M0;obtain⟨V0,af⟩:=ex ((w.alloc (G #[B o la k] 25)).alloc (G #[B none 0 0] 25));have M1:Mem w V0 [some (w.heap.size,.cell 25 (B o la k)),some (w.heap.size+1,.cell 25 (B none 0 0))]:=by rw[<-af];exact M0
 have Qj:=Ja M1;obtain⟨d,hd⟩:=ex ((ps.length:Int)-1:Int);have Qi:=Ja (JX (P #[B o la k]) ps V0 (h.below M1.2.2));rw[hd]at Qi;obtain⟨n,hn⟩:=ex (ps.length-1:Nat);have Qf:max (0:Int) d=(n:Int):=Y
 have Qt:∀W:World,(Instr.makeSlice 23 (H I (n:Int)) (H I (n:Int))).run Tryz.prog W=.ok (B (some ⟨W.heap.size,0,none⟩) n n) (W.alloc (G (Yb n) 37)):=λW=>I4 n Y W;obtain⟨HP,Qn,Qp,HN⟩:=Dt aq az ba (show n=ps.length-1/\la=ps.length from⟨hn.symm,ax⟩);have Qe:n<=1099511627776:=Y
 have Ql:=Ja af;clear h ha aq az ba ax bg bh hn hd M0 M1 af;go_enter Tryz.func38,Tryz.ntmps38
 go_upto_region 1 with fail
 rw[Ql.o];have c0:=(Qj.o.cell (i:=0) rfl).1.cell;go_upto_region 2 with(go_at_call 30;refine Qi.o.mono ?_;clear Qi;rintro e w1 ⟨rfl,ap⟩)
 have Qg:Mem w (w1.alloc (G (Yb n) 37)) [some (w.heap.size,.cell 25 (B o la k)),some (w.heap.size+1,.cell 25 (B none 0 0)),some (w1.heap.size,.rats (List.replicate n 0))]:=(Qj.o.below ap).push (.rats (List.replicate n 0)) (Ko _ n);obtain⟨V1,ah⟩:=ex (w1.alloc (G (Yb n) 37));obtain⟨l,aj⟩:=ex (w1.heap.size);rw[ah,aj]at Qg;rw[ah,aj];have Qk:=Ja Qg;clear Qg ah aj ap c0 Qj Ql Qt Qf;go_wp2;go_loopw [11] (λiv wr=>∃(i:Nat) (S:List Rat),i<=n/\iv=H I (i:Int)/\Hid (KE ps n i S)/\Hid (Mem w wr [some (w.heap.size,.cell 25 (B o la k)),some (w.heap.size+1,.cell 25 (B none 0 0)),some (l,.rats S)])) λiv _=>n-(intOf iv).toNat
 case atStart=>exact⟨0,_,AO _,rfl,Ja ⟨AA,λj=>by rw[J0,BB Y]⟩,Qk⟩
 case round=>
  obtain⟨i,S,N,rfl,q,M⟩:=hrel;clear Qk;by_cases ay:i<n
  . have bn:(i:Int)<(n:Int):=Y
    obtain⟨K,hK⟩:=ex (i+1:Nat);have bi:(i:Int)+1=(K:Int):=Y
    have bk:IntKind.i64.wrap (K:Int)=(K:Int):=by rw[BO];omega
    have bj:(K:Int)<(la:Int):=by have:=HN.o;omega
    obtain⟨aw,f,rfl,A,p0,p1,p2,p3⟩:=HP.o K (by have:=HN.o;omega);have Qu:=Ja (show ∀V,Bl w V->(V.cell? ⟨f,K*4,none⟩=some (L (s K))/\V.cell? ⟨f,K*4+1,none⟩=some (B (aa K) (ll K) (cc K))/\V.cell? ⟨f,K*4+2,none⟩=some (L (t K))/\V.cell? ⟨f,K*4+3,none⟩=some (B (bb K) (kk K) (dd K)))/\Jh V (P #[L (s K),B (aa K) (ll K) (cc K),L (t K),B (bb K) (kk K) (dd K)]) (cf ps K)from λV y=>by
     exact⟨⟨(y.cell (p:=⟨f,_,none⟩) A).trans p0,(y.cell (p:=⟨f,_,none⟩) A).trans p1,(y.cell (p:=⟨f,_,none⟩) A).trans p2,(y.cell (p:=⟨f,_,none⟩) A).trans p3⟩,aw.below y⟩)
    have Qd:=Ja (show K<=1099511627776/\K=i+1 by omega);have Qs:=Ja (show cf ps K*((K:Int):Rat)=Gn ps i by rw[Qd.o.2];rfl);have Qm:=Ja (show i<S.length by rw[q.o.1];exact ay);clear aw A p0 p1 p2 p3 hK;go_wp2_with fail
    have Qo:=M.o.drew;refine Jm Qr [[],[],[],[2],[],[4],[3,5],[6],[],[8],[9],[7,10,10],[0,1,0,1,2,3,4,5,6,7,8,9,10,11],[12,11,11,0,1,2,3,4,5,6,7,8,9,10,11]] (by kernel_rfl) DF
     (λD ae V=>∃(ta tb R T U X ti tj tk tl tm tn tp:Value),ae={ tmps:=#[P #[B (some ⟨f,0,none⟩) la k],F (some ⟨w.heap.size,0,none⟩),F (some ⟨w.heap.size+1,0,none⟩),B (some ⟨l,0,none⟩) n n,H I ↑i,P #[B (some ⟨f,0,none⟩) la k],H I d,H I ↑n,B (some ⟨l,0,none⟩) n n,B (some ⟨l,0,none⟩) n n,H I ↑n,H I ↑i,L true,H I ↑i,ta,tb,R,T,U,X,ti,tj,tk,tl,tm,tn,tp,u27,C,C],defers:=[] }/\Hid ((D 0=true->ta=B (some ⟨l,0,none⟩) n n)/\(D 1=true->tb=H I (i:Int))/\(D 2=true->R=F (some ⟨w.heap.size,0,none⟩))/\(D 3=true->T=B (some ⟨f,0,none⟩) la k)/\(D 4=true->U=H I (i:Int))/\(D 5=true->X=H I (K:Int))/\(D 6=true->ti=F (some ⟨f,K*4,none⟩))/\(D 7=true->D 13=false->Jh V tj (cf ps K))/\(D 8=true->tk=H I (i:Int))/\(D 9=true->tl=H I (K:Int))/\(D 10=true->D 13=false->Jh V tm ((K:Int):Rat))/\(D 11=true->D 13=false->Jh V tn (Gn ps i))/\(D 12=true->tp=F (some ⟨l,i*4,none⟩)))/\Hid ((D 13=false->Mem w V [some (w.heap.size,.cell 25 (B (some ⟨f,0,none⟩) la k)),some (w.heap.size+1,.cell 25 (B none 0 0)),some (l,.rats S)])/\(D 13=true->Mem w V [some (w.heap.size,.cell 25 (B (some ⟨f,0,none⟩) la k)),some (w.heap.size+1,.cell 25 (B none 0 0)),some (l,.rats (S.set i (Gn ps i)))])))
     (E8 ⟨_,_,_,_,_,rfl,Ja O,Ja ⟨λ_=>Qo,O⟩⟩) ?step1 ?fin1
    case step1=>
     rintro D ae V i ds ai N b z ⟨ta,tb,R,T,U,X,ti,tj,tk,tl,tm,tn,tp,rfl,a,c⟩;have bl:i<14:=(Ac.1 N).1;obtain rfl|rfl|rfl|rfl|rfl|rfl|rfl|rfl|rfl|rfl|rfl|rfl|rfl|rfl:=GK i Y
     all_goals
      simp only[Af,Ae,Ai]at N;subst N
     . clear b;refine DL ?_;exact⟨(Dc a),c⟩
     . clear b;refine DL ?_;exact⟨(Di a),c⟩
     . clear b;refine DL ?_;exact⟨(Db a),c⟩
     . have r:=c.o.1 (DG ai z);obtain rfl:=a.o.2.2.1 (b 2 O);have e0:=(r.cell (i:=0) rfl).1.cell;clear b;refine DL ?_;exact⟨(De (Db a)),c⟩
     . clear b;refine DL ?_;exact⟨(Do a),c⟩
     . obtain rfl:=a.o.2.2.2.2.1 (b 4 O);clear b;refine DL ?_;exact⟨(Dp (Do a)),c⟩
     . obtain rfl:=a.o.2.2.2.1 (b 3 O);obtain rfl:=Dq a (b 5 O);clear b;refine DL ?_;exact⟨(Ds (Dp (De a))),c⟩
     . have r:=c.o.1 (DG ai z);obtain rfl:=D6 a (b 6 O);obtain⟨⟨e0,e1,e2,e3⟩,hr⟩:=Qu.o V r.2.2;clear b;refine DL ?_;exact⟨(D5 (Ds a) λ_ _=>hr),c⟩
     . clear b;refine DL ?_;exact⟨(EJ a),c⟩
     . obtain rfl:=Ea a (b 8 O);clear b;refine DL ?_;exact⟨(Ez (EJ a)),c⟩
     . obtain rfl:=F7 a (b 9 O);clear b;have E:=Ja (QQ (K:Int) Y (by have:=Qd.o;omega) V);refine Jc rfl rfl λK hK=>?_;go_simp;go_wp2_with(go_at_call 79;refine E.o.mono ?_;rintro e w5 ⟨v5,rfl,am,g⟩)
       obtain⟨G0,G1,G2,G3,G4,G5,G6,G7,G8,_,_,bf,ad⟩:=a.o;exact E8 ⟨_,_,_,_,_,rfl,Ja ⟨G0,G1,G2,G3,G4,G5,G6,λh m=>(G7 h m).below g,G8,λ_=>rfl,λ_ _=>am,λh m=>(bf h m).below g,ad⟩,Ja ⟨λh=>(c.o.1 h).below g,λh=>(c.o.2 h).below g⟩⟩
     . have Qa:D 13=false:=DG ai z;have x:=EQ a (b 7 O) Qa;have h1:=EL a (b 10 O) Qa;clear b;have E:=Ja (I2 _ _ (cf ps K) ((K:Int):Rat) V x h1 (Qn.o.at K) (Z0 Qd.o.1));rw[Qs.o]at E;clear x h1;refine Jc rfl rfl λK hK=>?_;go_simp;go_wp2_with(go_at_call 91;refine E.o.mono ?_;rintro e w5 ⟨v5,rfl,am,g⟩)
       obtain⟨G0,G1,G2,G3,G4,G5,G6,G7,G8,G9,bc,_,ad⟩:=a.o;exact E8 ⟨_,_,_,_,_,rfl,Ja ⟨G0,G1,G2,G3,G4,G5,G6,λh m=>(G7 h m).below g,G8,G9,λh m=>(bc h m).below g,λ_ _=>am,ad⟩,Ja ⟨λh=>(c.o.1 h).below g,λh=>(c.o.2 h).below g⟩⟩
     . obtain rfl:=a.o.1 (b 0 O);obtain rfl:=a.o.2.1 (b 1 O);clear b;refine DL ?_;exact⟨(IU (Di (Dc a))),c⟩
     . have r:=c.o.1 z;have x:=Ee a (b 11 O) z;obtain rfl:=a.o.2.2.2.2.2.2.2.2.2.2.2.2 (b 12 O);have hE:=r.rats (i:=2) rfl;obtain⟨xa,xb,xc,xd,e0,e1,e2,e3,_⟩:=hE.at Qm.o;have f0:=hE.frozen (i*4);have f1:=hE.frozen (i*4+1);have f2:=hE.frozen (i*4+2);have f3:=hE.frozen (i*4+3);obtain⟨s9,a9,l9,c9,t9,b9,k9,d9,rfl⟩:=Jh.form x;clear b;refine DL ?_;exact⟨(IU (D0 (Dx (D5 a λ_ h=>by simp at h) λ_ h=>by simp at h) λ_ h=>by simp at h)),Ja ⟨λh=>by simp at h,λ_=>r.putRats (i:=2) rfl Qm.o x⟩⟩
    case fin1=>
     rintro D ae V an ⟨ta,tb,R,T,U,X,ti,tj,tk,tl,tm,tn,tp,rfl,a,c⟩;have HO:=Ja (c.o.2 (an 13 DF));clear a c an;go_wp2_with fail
     go_roundw
     case rel=>exact⟨i+1,_,Y,by go_num,Ja (q.o.next ay),HO⟩
     case measure=>simp[intOf];omega
  . obtain rfl:i=n:=Y
    have hE:=M.o.rats (i:=2) rfl;have Qc:=hE.row (n:=i) (cap:=i) (by rw[q.o.1];exact Aa _) (Aa _) Y Qe;rw[Ad (by rw[q.o.1];exact Aa _)]at Qc;have Qh:=Ja (Gk _ S wr Qc (DV.of λj=>by
     rw[q.o.2 j];split
     . exact Qp.o j
     . exact Hr))
    rw[q.o.done HN.o.1]at Qh;clear hE Qc;go_wp2_with(go_at_call 39;refine Qh.o.mono ?_;clear Qh;rintro e w5 ⟨u5,rfl,ak,_,g⟩;obtain⟨a7,l7,c7,rfl⟩:=ak.form;have Q:=boxed_below (M.o.cell (i:=1) rfl).1 g;have x0:=Q.cell;have x1:=Q.frozen;have Qv:=Ja (Ei Q (B a7 l7 c7) ak.row);have Qq:=Ja ((Bt M.o.2.2 g).setCell (p:=⟨w.heap.size+1,0,none⟩) (by show w.heap.size<=w.heap.size+1;omega) (B a7 l7 c7));clear ak g Q)
    exact BA (v:=P #[B a7 l7 c7]) (by simp[results,Tryz.results38,go_sem,x0]) rfl ⟨_,rfl,⟨_,rfl,Qv.o⟩,Qq.o⟩
end M3
section
open Go.RowKit Go.Shelf
def CD(D:Int)(K:Nat)(c:Rat):Prop:=∃n:Int,c=Rat.divInt n D/\Sm K n
section
variable {D E:Int} {K M:Nat} {c d:Rat}
theorem CD.mono(h:CD D K c)(a:K<=M):CD D M c:=by
 obtain⟨n,e,h⟩:=h;exact⟨n,e,h.mono a⟩
theorem CD.smq(h:CD D K c)(hD:D≠0)(a:Sm K D):DT K c:=by
 obtain⟨n,rfl,h⟩:=h;exact DT.divInt hD h a
theorem CD.zero(D:Int)(K:Nat):CD D K 0:=⟨0,by rw[Rat.zero_divInt],Sm.zero K⟩
theorem CD.add(h:CD D K c)(a:CD D M d)(hD:D≠0):CD D (max K M+1) (c+d):=by
 obtain⟨n,rfl,h⟩:=h;obtain⟨m,rfl,a⟩:=a;refine⟨n+m,?_,?_⟩
 . rw[FF _ _ hD hD,<-Int.add_mul,Fv hD]
 . exact(h.mono (Nat.le_max_left ..)).add (a.mono (Nat.le_max_right ..))
theorem CD.mul(h:CD D K c)(a:CD E M d):CD (D*E) (K+M) (c*d):=by
 obtain⟨n,rfl,h⟩:=h;obtain⟨m,rfl,a⟩:=a;exact⟨n*m,by rw[Fm],h.mul a⟩
theorem CD.wide(h:CD D K c)(hE:Sm M E)(a:E≠0):CD (D*E) (K+M) c:=by
 obtain⟨n,rfl,h⟩:=h;exact⟨n*E,by rw[Fv a],h.mul hE⟩
end
def EC(D:Int)(K:Nat)(ps:List Rat):Prop:=∀i,CD D K (cf ps i)
variable{D:Int}{ps qs:List Rat}{K:Nat}
theorem RO(hD:D≠0)(h:∀i j,CD D K (cf ps i*cf qs j))(n:Nat):∀(i k:Nat),CD D (K+min i ps.length) (cf (XU ps qs n i) k):=by
 intro i;induction i with
 |zero=>intro k;rw[XU,J0];exact CD.zero _ _
 |succ i a=>
  intro k;rw[XU];rcases Lu (XU ps qs n i) i (cf ps i) qs qs.length k with e|e
  . rw[e];exact(a k).mono Y
  . rw[e];by_cases b:i<ps.length
    . exact((a k).add (h i (k-i)) hD).mono Y
    . rw[Ye (p:=ps) Y,A2,Rat.add_zero];exact(a k).mono Y
theorem bF(hD:D≠0)(f:Sm 1000000 D)(h:∀i j,CD D K (cf ps i*cf qs j))(d:K+ps.length+1<=1000000):M3.I5 ps qs:=by
 have hq:∀c,CD D (K+ps.length+1) c->Sq c:=λc b=>Sq.of ((b.mono d).smq hD f) (Aa _);refine⟨λi j=>hq _ ((h i j).mono Y),λn i j k=>?_⟩;have a:=RO hD h n i k;rcases Lu (XU ps qs n i) i (cf ps i) qs j k with e|e
 . rw[e];exact hq _ (a.mono Y)
 . rw[e];exact hq _ ((a.add (h i (k-i)) hD).mono Y)
theorem bG(hD:D≠0)(h:∀i j,CD D K (cf ps i*cf qs j)):EC D (K+ps.length) (Js ps qs):=λk=>by
 unfold Js;rw[Yf,Ir];have a:=RO hD h (ps.length+qs.length) ps.length k;rwa[O0 _ _ _ _ _ (Or.inr Y),Nat.min_self]at a
theorem bH(p q:List Rat):(Js p q).length<=p.length+q.length:=XR (J2 _ _) λi a=>by unfold Js;rw[Yf,Ir,Z1 p q a]
theorem Sm.powZ{A:Nat}{v:Int}(h:Sm A v):∀n,Sm (n*A+1) (v^n):=by
 intro n;induction n with
 |zero=>rw[Int.pow_zero];exact Sm.one _ Y
 |succ n a=>rw[Int.pow_succ,AJ,show n*A+1*A+1=n*A+1+A by omega];exact a.mul h
end
section
open Go.RowKit Go.Shelf
variable{D:Int}{K:Nat}
theorem bI{c:Rat}(h:CD D K c):CD D K (-c):=by
 obtain⟨n,rfl,h⟩:=h;exact⟨-n,by rw[<-Rat.neg_divInt],by unfold Sm at h ⊢;rwa[Int.natAbs_neg]⟩
theorem RP{E l:Int}{A:Nat}{ps qs:List Rat}{n m:Nat}(hD:D≠0)(hp:EC D K ps)(hE:E≠0)(S:Sm A E)(hq:EC E A qs)(b:l≠0)(hl:Sm A l)(N:cf qs n=Rat.divInt l E)(M:cf qs n≠0):
 ∀k,EC (D*l^k) (K+k*(A+1)) (JF ps qs n m k).2/\EC (D*l^k) (K+k*(A+1)) (JF ps qs n m k).1:=by
 intro k;induction k with
 |zero=>
  rw[Int.pow_zero,Int.mul_one];exact⟨λi=>(hp i).mono Y,λi=>by rw[JF,J0];exact CD.zero _ _⟩
 |succ k U=>
  obtain⟨d,g⟩:=U;have w:D*l^k≠0:=CI hD (Int.pow_ne_zero b);have e:D*l^(k+1)=D*l^k*l:=by rw[Int.pow_succ,Fx]
  rw[e];have v:D*l^k*l≠0:=CI w b;obtain⟨R,p⟩:=ex ((JF ps qs n m k).2);obtain⟨Q,o⟩:=ex ((JF ps qs n m k).1);rw[p]at d;rw[o]at g;obtain⟨r,z,s⟩:=d (m-(k+1)+n);obtain⟨c,q⟩:=ex (cf R (m-(k+1)+n)/cf qs n);have f:c=Rat.divInt (r*E) (D*l^k*l):=by
   rw[<-q];have y:cf R (m-(k+1)+n)=Rat.divInt (r*E) (D*l^k*l)*cf qs n:=by
    rw[N,Fm,z,show r*E*l=r*(E*l)from Fx _ _ _,show D*l^k*l*E=D*l^k*(E*l)by rw[Fx (D*l^k),CN l E],Fv (CI hE b)]
   rw[y,Rat.mul_div_cancel M]
  have t:CD (D*l^k*l) (K+(k+1)*(A+1)) c:=⟨r*E,f,(s.mul S).mono (by rw[AJ];omega)⟩;have u:∀j,CD (D*l^k*l) (K+k*(A+1)+A) (c*cf qs j):=λj=>by
   obtain⟨x,ex,T⟩:=hq j;refine⟨r*x,?_,s.mul T⟩;rw[f,ex,Fm,show r*E*x=r*x*E by rw[Fx,CN E x,Fx],Fv hE]
  rw[JF,p,o];simp only[q];refine⟨λi=>?_,λi=>?_⟩
  . rcases Lu R (m-(k+1)) (-c) qs qs.length i with a|a
    . rw[a];exact((d i).wide hl b).mono (by rw[AJ];omega)
    . rw[a,Rat.neg_mul];exact(((d i).wide hl b).add (bI (u _)) v).mono (by rw[AJ];omega)
  . rcases M3.bA Q (m-(k+1)) c i with a|a
    . rw[a];exact t
    . rw[a];exact((g i).wide hl b).mono (by rw[AJ];omega)
end
variable{D:Int}{a b p q:List Rat}{K M n:Nat}{f g:Nat->Int}{c d:Rat}
theorem bJ:∀(n:Nat) (f:Nat->Nat),(∀i,i<=n->f i<n)->∃i j,i<j/\j<=n/\f i=f j:=by
 intro n;induction n with
 |zero=>intro f h;exact absurd (h 0 (Aa _)) Y
 |succ n o=>
  intro f h;by_cases k:∃i,i<=n/\f i=f (n+1)
  . obtain⟨i,d,a⟩:=k;exact⟨i,n+1,Y,Aa _,a⟩
  . have c:∀i,i<=n->f i≠f (n+1):=λi b e=>k ⟨i,b,e⟩;obtain⟨i,j,d,a,g⟩:=o (λi=>if f i=n then f (n+1)else f i) (λi b=>by
     have l:=h i Y;have m:=h (n+1) (Aa _);have p:=c i b;split<;>omega)
    refine⟨i,j,d,Y,?_⟩;have l:=c i Y;have m:=c j a;split at g<;>split at g<;>omega
def enc(b:Nat):Nat->(Nat->Nat)->Nat
 |0,_=>0
 |M+1,d=>enc b M d+d M*b^M
theorem N9{b:Nat}{d:Nat->Nat}(h:∀k,k<M->d k<b):enc b M d<b^M:=by
 induction M with
 |zero=>simp[enc]
 |succ M e=>
  have f:=e λk g=>h k Y;have a:=h M Y;have c:(d M+1)*b^M<=b*b^M:=Ak _ a;rw[enc,A4,At (b^M) b];rw[AJ,CF]at c;omega
theorem bK{b:Nat}{d a:Nat->Nat}(h:∀k,k<M->d k<b)(g:∀k,k<M->a k<b)(e:enc b M d=enc b M a):∀k,k<M->d k=a k:=by
 induction M with
 |zero=>intro k c;omega
 |succ M j=>
  have l1:=N9 (λk c=>h k Y:∀k,k<M->d k<b);have l2:=N9 (λk c=>g k Y:∀k,k<M->a k<b);have hp:0<b^M:=Y
  rw[enc,enc]at e;have f:d M=a M:=by
   have f1:(enc b M d+d M*b^M)/b^M=d M:=by rw[Nat.add_mul_div_right _ _ hp,Cp l1];omega
   have f2:(enc b M a+a M*b^M)/b^M=a M:=by rw[Nat.add_mul_div_right _ _ hp,Cp l2];omega
   rw[<-f1,<-f2,e]
  intro k c;by_cases i:k=M
  . rw[i];exact f
  . exact j (λk c=>h k Y) (λk c=>g k Y) (by rw[f]at e;omega) k Y
def ES(b x j:Nat):Nat:=x/b^j%b
theorem bL{b:Nat}(a:0<b)(x j:Nat):ES b x j<b:=Cq _ a
theorem RQ(b x:Nat):∀N,enc b N (ES b x)=x%b^N:=by
 intro N;induction N with
 |zero=>simp[enc,Nat.mod_one]
 |succ N a=>rw[enc,a,Nat.mod_pow_succ,At (ES b x N)];rfl
def Yl:Nat->(Nat->Int)->Int
 |0,_=>0
 |n+1,f=>Yl n f+f n
theorem RR(h:∀k,k<n->f k=g k):Yl n f=Yl n g:=by
 induction n with
 |zero=>rfl
 |succ n a=>rw[Yl,Yl,a λk b=>h k Y,h n Y]
theorem bM(n:Nat)(f g:Nat->Int):Yl n (λk=>f k-g k)=Yl n f-Yl n g:=by
 induction n with
 |zero=>rfl
 |succ n a=>rw[Yl,Yl,Yl,a];omega
theorem Ly{C:Nat}(h:∀k,k<n->(f k).natAbs<=C):(Yl n f).natAbs<=n*C:=by
 induction n with
 |zero=>simp[Yl]
 |succ n a=>
  have b:=a λk d=>h k Y;have c:=h n Y;rw[Yl,AJ,CF];have:=FI (Yl n f) (f n);omega
theorem bN(N A:Nat)(c:Nat->Nat->Int)(w:∀k j,(c k j).natAbs<=A):
 ∃z:Nat->Int,(∃j,j<N+1/\z j≠0)/\(∀j,(z j).natAbs<=(2*(N+1)*A+1)^N)/\∀k,k<N->Yl (N+1) (λj=>c k j*z j)=0:=by
 obtain⟨B,l⟩:=ex ((2*(N+1)*A+1)^N);have o:1<=B:=by rw[<-l];exact CL Y
 obtain⟨C,m⟩:=ex ((N+1)*(A*B));have d:∀x j,ES (B+1) x j<=B:=λx j=>by have:=bL (b:=B+1) Y x j;omega
 have v:∀x k,(Yl (N+1) λj=>c k j*(ES (B+1) x j:Int)).natAbs<=C:=λx k=>by
  rw[<-m];refine Ly λj _=>?_;rw[CA,AK];exact CE (w k j) (d x j)
 obtain⟨g,a⟩:∃g:Nat->Nat->Nat,∀x k,(g x k:Int)=Yl (N+1) (λj=>c k j*(ES (B+1) x j:Int))+C/\g x k<2*C+1:=
  ⟨λx k=>(Yl (N+1) (λj=>c k j*(ES (B+1) x j:Int))+C).toNat,λx k=>by have:=v x k;dsimp only;omega⟩
 have U:(2*C+1)^N<(B+1)^(N+1):=by
  have f:2*C+1<=(2*(N+1)*A+1)*B:=by
   have p:2*C=2*(N+1)*A*B:=by rw[<-m];simp only[AH]
   rw[p,AJ,CF];exact Nat.add_le_add_left o _
  have i:(2*C+1)^N<=B^(N+1):=by
   refine An (Fe f N) ?_;rw[Nat.mul_pow,l,A4,At];exact Aa _
  exact Ch i (Nat.pow_lt_pow_left Y Y)
 obtain⟨x,y,f,i,q⟩:=bJ ((2*C+1)^N) (λx=>enc (2*C+1) N (g x)) λx _=>N9 λk _=>(a x k).2;have r:=bK (λk _=>(a x k).2) (λk _=>(a y k).2) q;refine⟨λj=>(ES (B+1) x j:Int)-(ES (B+1) y j:Int),?_,λj=>?_,λk E=>?_⟩
 . by_cases n:∃j,j<N+1/\(ES (B+1) x j:Int)-(ES (B+1) y j:Int)≠0
   . exact n
   . exfalso
     have s:∀j,j<N+1->ES (B+1) x j=ES (B+1) y j:=λj D=>by
      by_cases e:ES (B+1) x j=ES (B+1) y j
      . exact e
      . exact absurd ⟨j,D,Y⟩ n
     have t:∀M,M<=N+1->enc (B+1) M (ES (B+1) x)=enc (B+1) M (ES (B+1) y):=λM=>by
      induction M with
      |zero=>intro _;rfl
      |succ M K=>intro T;rw[enc,enc,K Y,s M Y]
     have u:=t (N+1) (Aa _);rw[RQ,RQ,Cx Y,Cx Y]at u;omega
 . have:=d x j;have:=d y j;dsimp only;omega
 . have R:=r k E;have S:=(a x k).1;have Q:=(a y k).1;rw[show(λj=>c k j*((ES (B+1) x j:Int)-(ES (B+1) y j:Int)))=(λj=>c k j*(ES (B+1) x j:Int)-c k j*(ES (B+1) y j:Int))from funext λj=>Int.mul_sub _ _ _,bM];omega
theorem bO(p q:List Rat):(JD p q).length<=max p.length q.length:=XR (Yi _ _) λi a=>by rw[Mh,Ye Y,Ye Y,Rat.sub_self]
def DP(c:Rat)(p:List Rat):List Rat:=Jd (Y1 c p)
theorem JP(c:Rat)(p:List Rat):Jd (DP c p)=DP c p:=J5 _
theorem Yw(c:Rat)(p:List Rat)(i:Nat):cf (DP c p) i=cf p i*c:=by unfold DP;rw[Yf,Iq]
theorem JJ(c:Rat)(p:List Rat)(x:Rat):ev (DP c p) x=ev p x*c:=by unfold DP;rw[XK,XD]
theorem X2{a b:Rat}(c:a≠0)(d:b≠0):a*b≠0:=λh=>by
 rcases AM.1 h with h|h
 . exact c h
 . exact d h
theorem RS(h:cf p n≠0):n<p.length:=by
 by_cases a:n<p.length
 . exact a
 . exact absurd (Ye Y) h
theorem Ym(d:c≠0)(hp:Jd p=p):(DP c p).length=p.length:=by
 refine Nat.le_antisymm (XR (JP _ _) λi e=>by rw[Yw,Ye e,A2]) ?_;by_cases a:p=[]
 . rw[a];exact AO _
 . have b:=Jt hp a;have f:0<p.length:=Ag.2 a;have g:=RS (p:=DP c p) (n:=p.length-1) (by rw[Yw];exact X2 b d);omega
theorem Kq(c d:Rat)(p:List Rat):DP c (DP d p)=DP (d*c) p:=Xt (JP _ _) (JP _ _) λx=>by rw[JJ,JJ,JJ];grind
theorem Ii(hp:Jd p=p):DP 1 p=p:=Xt (JP _ _) hp λx=>by rw[JJ];grind
theorem bP(c:Rat):DP c []=[]:=rfl
theorem KF(b:c≠0)(hp:Jd p=p)(a:p≠[]):DP c p≠[]:=λh=>by
 have:=Ym b hp;rw[h]at this;exact a (Az.1 this.symm)
theorem JA(hp:Jd p=p)(hq:Jd q=q)(a:p≠[])(b:q≠[]):(Js p q).length=p.length+q.length-1:=Oy hp hq a b
theorem Kr(h:p.length=0):p=[]:=Az.1 h
theorem Lz{u v:List Rat}(hq:Jd q=q)(a:q≠[])(f:Jd u=u)(g:Jd v=v)(i:v.length<q.length)(h:∀x,ev p x=ev q x*ev u x+ev v x):u=Jp p q/\v=JM p q:=by
 obtain⟨b,c,d,e⟩:=YU p q hq a;exact TB hq a f d g e i c (λx=>by rw[<-h x,b x])
theorem L0(a:d≠0)(p q:List Rat)(hq:Jd q=q)(b:q≠[]):Jp (DP c p) (DP d q)=DP (c/d) (Jp p q)/\JM (DP c p) (DP d q)=DP c (JM p q):=by
 obtain⟨e,f,j,k⟩:=YU p q hq b;have h:=Lz (p:=DP c p) (JP d q) (KF a hq b) (JP (c/d) (Jp p q)) (JP c (JM p q)) (by
  rw[Ym a hq];exact Ch (XR (JP _ _) λi g=>by rw[Yw,Ye g,A2]) f) (λx=>by
  rw[JJ,JJ,JJ,JJ,e x];have:d*(c/d)=c:=by rw[Ck];exact Ap a
  grind)
 exact⟨h.1.symm,h.2.symm⟩
inductive Eu:List Rat->List Rat->List Rat->List Rat->Prop
 |base (p q:List Rat):Eu p q p q
 |step (p q:List Rat) (c:Rat) (a b:List Rat):q≠[]->c≠0->Eu q (DP c (JM p q)) a b->Eu p q a b
theorem Eu.tail(h:Eu p q a b)(e:b≠[])(f:c≠0):Eu p q b (DP c (JM a b)):=by
 induction h with
 |base p q=>exact .step p q c _ _ e f (.base _ _)
 |step p q d a b hq g _ i=>exact .step p q d _ _ hq g (i e)
theorem Xj(p q:List Rat):Jd (JM p q)=JM p q:=J5 _
theorem YW(p q:List Rat):Jd (Jp p q)=Jp p q:=J5 _
theorem Eu.len(h:Eu p q a b):Jd q=q->b.length<=q.length:=by
 induction h with
 |base p q=>exact λ_=>Aa _
 |step p q d a b hq f _ g=>
  intro c;have e:=g (JP _ _);rw[Ym f (Xj _ _)]at e;have:=(YU p q c hq).2.1;omega
theorem bQ(h:Eu p q a b):Jd p=p->Jd q=q->b≠[]->∀u v T:List Rat,Jd u=u->Jd v=v->Jd T=T->u.length+b.length<=q.length+1->v.length+b.length<=p.length+1->(u≠[]\/v≠[])->T.length<b.length->
 (∀x,ev T x=ev u x*ev p x+ev v x*ev q x)->∃c:Rat,c≠0/\T=DP c (JM a b):=by
 induction h with
 |base p q=>
  intro hp hq g u v T i w m M lv f o n;have S:u.length<=1:=Y
  obtain⟨A,W,X,h4⟩:=YU p q hq g;match u,S,f with
  |[],_,f=>
   have l:v≠[]:=by
    rcases f with f|f
    . exact absurd rfl f
    . exact f
   have e:T=Js v q:=Xt m (J2 _ _) λx=>by rw[Jg,n x];simp[ev];grind
   have h5:=JA w hq l g;have h6:0<v.length:=Ag.2 l;rw[e]at o;omega
  |[c],_,_=>
   have hc:c≠0:=λe=>by
    have:=Jt i O;simp[YR]at this;exact this e
   refine⟨c,hc,?_⟩;have N:∀x,ev (DP c p) x=ev q x*ev (DP (-1) v) x+ev T x:=λx=>by
    rw[JJ,JJ,n x];simp[ev];grind
   have h7:=(Lz hq g (JP _ _) m o N).2;have D:=(L0 (c:=c) (d:=1) DF p q hq g).2;rw[Ii hq]at D;rw[h7,D]
 |step p q d a b g hd hE K=>
  intro hp hq hb u v T i w m M lv f o n;obtain⟨A,W,X,h4⟩:=YU p q hq g;obtain⟨r,t⟩:=ex (DP d (JM p q));rw[t]at hE K;have s:Jd r=r:=by rw[<-t];exact JP _ _
  have U:b.length<=r.length:=hE.len s;have R:r≠[]:=λe=>by
   rw[e,Ay]at U;omega
  have y:d*(1/d)=1:=by rw[Ck];exact Ap hd
  have k:(1/d)≠0:=λe=>by rw[e,Rat.mul_zero]at y;exact absurd y DF
  have Q:∀x,ev p x=ev q x*ev (Jp p q) x+ev r x*(1/d):=λx=>by rw[A x,<-t,JJ];grind
  have z:∀x,ev T x=ev (XM (Js u (Jp p q)) v) x*ev q x+ev (DP (1/d) u) x*ev r x:=λx=>by
   rw[n x,Q x,YL,Jg,JJ];grind
  have ad:(DP (1/d) u).length+b.length<=q.length+1:=by rw[Ym k i];exact M
  refine K hq s hb (XM (Js u (Jp p q)) v) (DP (1/d) u) T (It _ _) (JP _ _) m ?_ ad ?_ o z
  . by_cases E:XM (Js u (Jp p q)) v=[]
    . rw[E];simp;omega
    . have l1:=JA (It _ _) hq E g;have e:Js (XM (Js u (Jp p q)) v) q=JD T (Js (DP (1/d) u) r):=Xt (J2 _ _) (Yi _ _) λx=>by rw[Jg,Xa,Jg,z x];grind
      have l2:=bO T (Js (DP (1/d) u) r);rw[<-e,l1]at l2;by_cases j:u=[]
      . have V:Js (DP (1/d) u) r=[]:=by rw[j];rfl
        rw[V]at l2;simp at l2;omega
      . have l4:=JA (JP _ _) s (KF k i j) R;rw[Ym k i]at l4;omega
  . by_cases j:u=[]
    . left
      have l:v≠[]:=by
       rcases f with f|f
       . exact absurd j f
       . exact f
      have e:XM (Js u (Jp p q)) v=v:=Xt (It _ _) w λx=>by rw[YL,Jg,j];simp[ev];grind
      rw[e];exact l
    . right;exact KF k i j
def Ln(K:Nat)(r:List Rat):Prop:=∃c:Rat,c≠0/\∀i,∃z:Int,Sm K z/\cf r i*c=(z:Rat)
theorem bS(s t:Nat)(f:Nat->Int):Yl (s+t) f=Yl s f+Yl t (λj=>f (s+j)):=by
 induction t with
 |zero=>simp[Yl]
 |succ t a=>rw[<-Fw,Yl,Yl,a];omega
theorem OA{f:Nat->Rat}(h:∀k,k<n->f k=(g k:Rat)):Dj n f=((Yl n g:Int):Rat):=by
 induction n with
 |zero=>rfl
 |succ n a=>rw[Dj,Yl,a λk b=>h k Y,h n Y,FP]
theorem L1(p q:List Rat)(h:p.length<=n)(k:Nat):cf (Js p q) k=Dj n (λi=>if i<=k then cf p i*cf q (k-i)else 0):=by
 unfold Js;rw[Yf,Ir,<-Sy p q h];rfl
theorem Ln.sc{r:List Rat}(h:Ln K r)(j:d≠0):Ln K (DP d r):=by
 obtain⟨c,g,k⟩:=h;have e:d*(1/d)=1:=by rw[Ck];exact Ap j
 refine⟨(1/d)*c,X2 (λa=>by rw[a,Rat.mul_zero]at e;exact absurd e DF) g,λi=>?_⟩;obtain⟨z,b,f⟩:=k i;exact⟨z,b,by rw[Yw,<-f];grind⟩
theorem Ln.mono{K L:Nat}{r:List Rat}(h:Ln K r)(e:K<=L):Ln L r:=by
 obtain⟨c,d,f⟩:=h;exact⟨c,d,λi=>by obtain⟨z,a,b⟩:=f i;exact⟨z,a.mono e,b⟩⟩
theorem bT{N A B:Nat}(b:A=Z^K)(i:N+1<=1000000)(c:B=(2*(N+1)*A+1)^N):(N+1)*(A*B)<Z^((K+1)*(N+1)):=by
 have d:1<=A:=by rw[b];exact CL Gx
 have f:2*(N+1)*A+1<=Z^(K+1):=by
  have a:(2*(N+1)+1)*A<=Z*A:=Ak _ uo;rw[A4,<-b,At A];rw[AJ,CF]at a;exact An (Nat.add_le_add_left d _) a
 have g:(2*(N+1)*A+1)^(N+1)<=Z^((K+1)*(N+1)):=by rw[Nat.pow_mul];exact Fe f _
 refine AW ?_ g;have e:1<=B:=by rw[c];exact CL Y
 rw[A4,<-c,<-AH,At B];refine(Nat.mul_lt_mul_right e).2 ?_;have:(N+1)*A<=2*(N+1)*A:=Ak _ Y;omega
theorem RT(hp:Jd p=p)(hq:Jd q=q)(h1:Ln K p)(h2:Ln K q)(hl:p.length+q.length<=1000000)(hle:q.length<=p.length)(h:Eu p q a b)(U:b≠[]):Ln ((K+1)*(p.length+q.length)) (JM a b):=by
 obtain⟨cp,ak,ai⟩:=h1;obtain⟨cq,am,aj⟩:=h2;obtain⟨α,hα⟩:=Classical.axiomOfChoice ai;obtain⟨β,hβ⟩:=Classical.axiomOfChoice aj;have aw:=h.len hq;have aq:0<b.length:=Ag.2 U;have Q:q≠[]:=λe=>by
  have d:q.length=0:=by rw[e];rfl
  omega
 have Qk:p≠[]:=λe=>by
  have d:p.length=0:=by rw[e];rfl
  omega
 obtain⟨s,hs⟩:=ex (q.length+1-b.length);obtain⟨t,ht⟩:=ex (p.length+1-b.length);obtain⟨N,hN⟩:=ex (s+t-1);obtain⟨A,hA⟩:=ex (Z^K);have ae:∀i,(α i).natAbs<=A:=λi=>by have:=(hα i).1;unfold Sm at this;omega
 have af:∀i,(β i).natAbs<=A:=λi=>by have:=(hβ i).1;unfold Sm at this;omega
 have M:s+t=N+1:=Y
 obtain⟨z,⟨m,ay,ad⟩,E,ap⟩:=bN N A (λk j=>if j<s then(if j<=b.length-1+k then α (b.length-1+k-j)else 0)else(if j-s<=b.length-1+k then β (b.length-1+k-(j-s))else 0)) (λk j=>by
  split
  . split
    . exact ae _
    . simp
  . split
    . exact af _
    . simp)
 obtain⟨B,S⟩:=ex ((2*(N+1)*A+1)^N);rw[S]at E;obtain⟨u,W⟩:=ex (Jd ((List.range s).map λj=>(z j:Rat)*cp));obtain⟨v,hv⟩:=ex (Jd ((List.range t).map λj=>(z (s+j):Rat)*cq));have r:Jd u=u:=by rw[<-W];exact J5 _
 have n:Jd v=v:=by rw[<-hv];exact J5 _
 have o:∀j,cf u j=if j<s then(z j:Rat)*cp else 0:=λj=>by rw[<-W,Yf,MX]
 have w:∀j,cf v j=if j<t then(z (s+j):Rat)*cq else 0:=λj=>by rw[<-hv,Yf,MX]
 have Qg:u.length<=s:=XR r λi V=>by rw[o,BB Y]
 have Ql:v.length<=t:=XR n λi V=>by rw[w,BB Y]
 obtain⟨g,D⟩:∃g:Nat->Int,∀i,g i=Yl s (λj=>if j<=i then z j*α (i-j)else 0)+Yl t (λj=>if j<=i then z (s+j)*β (i-j)else 0):=⟨_,λ_=>rfl⟩;have T:∀i,cf (XM (Js u p) (Js v q)) i=(g i:Rat):=λi=>by
  rw[TF,L1 u p Qg,L1 v q Ql,D,FP];congr 1
  . refine OA λj f=>?_;split
    . rw[o,BC f,AB,<-(hα (i-j)).2];grind
    . rfl
  . refine OA λj f=>?_;split
    . rw[w,BC f,AB,<-(hβ (i-j)).2];grind
    . rfl
 have Qj:∀i,(g i).natAbs<=(N+1)*(A*B):=λi=>by
  have d:(Yl s λj=>if j<=i then z j*α (i-j)else 0).natAbs<=s*(A*B):=Ly λj _=>by
   split
   . rw[CA,At];exact CE (ae _) (E _)
   . simp
  have R:(Yl t λj=>if j<=i then z (s+j)*β (i-j)else 0).natAbs<=t*(A*B):=Ly λj _=>by
   split
   . rw[CA,At];exact CE (af _) (E _)
   . simp
  have e3:=FI (Yl s λj=>if j<=i then z j*α (i-j)else 0) (Yl t λj=>if j<=i then z (s+j)*β (i-j)else 0);rw[<-D i]at e3;rw[<-M,AJ];omega
 have Qm:(XM (Js u p) (Js v q)).length<b.length:=by
  have:(XM (Js u p) (Js v q)).length<=b.length-1:=XR (It _ _) λi V=>by
   by_cases ax:i<b.length-1+N
   . rw[T];have e:=ap (i-(b.length-1)) Y;rw[<-M,bS]at e;have d:Yl s (λj=>if j<=i then z j*α (i-j)else 0)=Yl s (λj=>(if j<s then(if j<=b.length-1+(i-(b.length-1))then α (b.length-1+(i-(b.length-1))-j)else 0)else(if j-s<=b.length-1+(i-(b.length-1))then β (b.length-1+(i-(b.length-1))-(j-s))else 0))*z j):=RR λj f=>by
      rw[BC f,show b.length-1+(i-(b.length-1))=i from by omega];split
      . exact CN _ _
      . simp
     have R:Yl t (λj=>if j<=i then z (s+j)*β (i-j)else 0)=Yl t (λj=>(if s+j<s then(if s+j<=b.length-1+(i-(b.length-1))then α (b.length-1+(i-(b.length-1))-(s+j))else 0)else(if s+j-s<=b.length-1+(i-(b.length-1))then β (b.length-1+(i-(b.length-1))-(s+j-s))else 0))*z (s+j)):=RR λj f=>by
      rw[BB (show ¬s+j<s by omega),show b.length-1+(i-(b.length-1))=i from by omega,show s+j-s=j from by omega];split
      . exact CN _ _
      . simp
     rw[D,d,R,e];rfl
   . refine Ye ?_;have l1:=TH (Js u p) (Js v q);by_cases X:u=[]
     . have y:Js u p=[]:=by rw[X];rfl
       by_cases l:v=[]
       . have d:Js v q=[]:=by rw[l];rfl
         rw[y,d];exact AO _
       . have l3:=JA n hq l Q;rw[y,Ay]at l1;rw[y];omega
     . have l2:=JA r hp X Qk;by_cases l:v=[]
       . have d:Js v q=[]:=by rw[l];rfl
         rw[d,Ay]at l1;rw[d];omega
       . have l3:=JA n hq l Q;omega
  omega
 have Qh:u≠[]\/v≠[]:=by
  by_cases an:m<s
  . left
    intro e;have:=o m;rw[e,YI,BC an]at this;exact X2 (by exact_mod_cast ad) ak this.symm
  . right
    intro e;have:=w (m-s);rw[e,YI,BC Y,show s+(m-s)=m from by omega]at this;exact X2 (by exact_mod_cast ad) am this.symm
 obtain⟨c,hc,ah⟩:=bQ h hp hq U u v _ r n (It _ _) Y Y Qh Qm (λx=>by rw[YL,Jg,Jg]);refine⟨c,hc,λi=>⟨g i,?_,by rw[<-Yw,<-ah,T]⟩⟩;have Qi:=bT hA.symm Y S.symm;have h5:(K+1)*(N+1)<=(K+1)*(p.length+q.length):=Aq _ Y;unfold Sm;exact Ch (Qj i) (AW Qi (AF Gx h5))
theorem bU(hp:Jd p=p)(hq:Jd q=q)(h:p.length<q.length):JM p q=p:=
 ((Lz (p:=p) hq (λe=>by rw[e]at h;simp at h) (u:=[]) (v:=p) rfl hp h λx=>by simp[ev];grind).2).symm
theorem bV{K:Nat}{p q a b:List Rat}(hp:Jd p=p)(hq:Jd q=q)(d:Ln K p)(e:Ln K q)(hl:p.length+q.length<=1000000)(h:Eu p q a b)(f:b≠[]):Ln ((K+1)*(p.length+q.length)) (JM a b):=by
 by_cases hle:q.length<=p.length
 . exact RT hp hq d e hl hle h f
 . have i:=bU hp hq Y;cases h with
   |base=>rw[i];exact d.mono (by
    have:(K+1)*1<=(K+1)*(p.length+q.length):=Aq _ Y;omega)
   |step _ _ c _ _ l g hE=>
    rw[i]at hE;have j:=Ym g hp;have k:=RT hq (JP c p) e (d.sc g) Y Y hE f;rwa[j,Fs q.length]at k
theorem Ks(a:c≠0):1/c≠0:=λe=>by
 have h:(1/c)*c=1:=Ap a;rw[e,A2]at h;exact absurd h DF
def Jq(p:List Rat):List Rat:=DP (1/cf p (p.length-1)) p
theorem bW:Jq []=[]:=rfl
theorem YF(p:List Rat):Jd (Jq p)=Jq p:=JP _ _
theorem L2(b:c≠0)(hp:Jd p=p):Jq (DP c p)=Jq p:=by
 by_cases a:p=[]
 . subst a;rfl
 . unfold Jq;rw[Ym b hp,Yw,Kq];have hl:=Jt hp a;congr 1;obtain⟨l,e⟩:=ex (cf p (p.length-1));rw[e]at hl ⊢;have d:(1/(l*c))*(l*c)=1:=Ap (X2 hl b);grind
theorem KG(hp:Jd p=p)(a:p≠[]):Jq p≠[]:=KF (Ks (Jt hp a)) hp a
theorem YZ(hp:Jd p=p):(Jq p).length=p.length:=by
 by_cases a:p=[]
 . subst a;rfl
 . exact Ym (Ks (Jt hp a)) hp
theorem L3(hp:Jd p=p)(a:p≠[]):cf (Jq p) ((Jq p).length-1)=1:=by
 rw[YZ hp];unfold Jq;rw[Yw,Ck];exact Ap (Jt hp a)
theorem Hy(hp:Jd p=p):Jq (Jq p)=Jq p:=by
 by_cases a:p=[]
 . subst a;rfl
 . exact L2 (Ks (Jt hp a)) hp
def ED:Nat->List Rat->List Rat->List Rat
 |0,p,_=>Jq p
 |n+1,p,q=>if q=[]then Jq p else ED n q (JM p q)
def Jz(p q:List Rat):List Rat:=ED q.length p q
theorem bZ:∀(n m:Nat) (p q:List Rat),Jd q=q->q.length<=n->q.length<=m->ED n p q=ED m p q:=by
 intro n;induction n with
 |zero=>
  intro m p q _ h _;have hq:q=[]:=Kr Y;subst hq;cases m with
  |zero=>rfl
  |succ m=>simp[ED]
 |succ n b=>
  intro m p q hq h c;by_cases a:q=[]
  . subst a;cases m with
    |zero=>simp[ED]
    |succ m=>simp[ED]
  . have hl:0<q.length:=Ag.2 a;cases m with
    |zero=>omega
    |succ m=>
     have d:=(YU p q hq a).2.1;simp only[ED,BB a];exact b m q (JM p q) (Xj _ _) Y Y
theorem RU(p:List Rat):Jz p []=Jq p:=rfl
theorem bp(hq:Jd q=q)(a:q≠[]):Jz p q=Jz q (JM p q):=by
 have c:=(YU p q hq a).2.1;have hl:0<q.length:=Ag.2 a;unfold Jz;obtain⟨n,b⟩:∃n,q.length=n+1:=⟨q.length-1,Y⟩;rw[b,ED,BB a];exact bZ _ _ _ _ (Xj _ _) Y (Aa _)
theorem br:∀(n:Nat) (c d:Rat) (p q:List Rat),c≠0->d≠0->Jd p=p->Jd q=q->ED n (DP c p) (DP d q)=ED n p q:=by
 intro n;induction n with
 |zero=>intro c d p q b _ hp _;exact L2 b hp
 |succ n f=>
  intro c d p q b e hp hq;by_cases a:q=[]
  . subst a;simp only[ED,bP,BC];exact L2 b hp
  . simp only[ED,BB a,BB (KF e hq a)];rw[(L0 e p q hq a).2];exact f d c q (JM p q) e b hq (Xj _ _)
theorem RV(b:c≠0)(a:d≠0)(hp:Jd p=p)(hq:Jd q=q):Jz (DP c p) (DP d q)=Jz p q:=by
 unfold Jz;rw[Ym a hq];exact br _ _ _ _ _ b a hp hq
theorem Eu.gcd(h:Eu p q a b):Jd p=p->Jd q=q->Jz p q=Jz a b:=by
 induction h with
 |base p q=>exact λ_ _=>rfl
 |step p q c a b f e _ g=>
  intro hp hq;rw[<-g hq (JP _ _),bp hq f];have d:=RV (c:=1) DF e hq (Xj p q);rw[Ii hq]at d;exact d.symm
theorem bv:∀(n:Nat) (p q:List Rat),Jd (ED n p q)=ED n p q:=by
 intro n;induction n with
 |zero=>intro p q;exact YF _
 |succ n a=>
  intro p q;rw[ED];split
  . exact YF _
  . exact a _ _
theorem Yj(p q:List Rat):Jd (Jz p q)=Jz p q:=bv _ _ _
theorem Hf(c:Rat):c*(c.den:Rat)=(c.num:Rat):=by
 have d:((c.den:Int):Rat)≠0:=by exact_mod_cast c.den_nz
 have a:=CX c;rw[CB]at a;have b:(c.num:Rat)/((c.den:Int):Rat)*((c.den:Int):Rat)=c.num:=Ap d;rw[a,AP]at b;exact b
theorem dvd_one{a b c:Int}(h:a∣b*c)(e:Nat.gcd a.natAbs c.natAbs=1):a∣b:=by
 have d:=FG.2 h;rw[CA]at d;exact FG.1 (Nat.Coprime.dvd_of_dvd_mul_right e d)
theorem bw{n:Int}(h:c*(D:Rat)=(n:Rat)):(c.den:Int)∣D/\c.num*D=n*c.den:=by
 have b:c*(c.den:Rat)=(c.num:Rat):=Hf c;have d:((c.num*D:Int):Rat)=((n*(c.den:Int):Int):Rat):=by
  rw[AB,AB,<-b,<-h];show c*(c.den:Rat)*(D:Rat)=c*(D:Rat)*((c.den:Int):Rat);rw[AP];grind
 have a:c.num*D=n*c.den:=Rat.intCast_inj.1 d;refine⟨?_,a⟩;have e:(c.den:Int)∣D*c.num:=⟨n,by rw[CN D,a,CN]⟩;refine dvd_one e ?_;show Nat.gcd (c.den:Int).natAbs c.num.natAbs=1;rw[AK,CZ];exact c.reduced
theorem cA{L G:Int}(V:∀i,((cf p i).den:Int)∣L)(W:∀u:Int,(∀i,((cf p i).den:Int)∣u)->L∣u)(T:∀i,G∣(cf p i).num)(U:∀v:Int,(∀i,v∣(cf p i).num)->v∣G)(s:G≠0)(h:Ln K p):
 ∀i,∃z:Int,Sm K z/\cf p i*((L:Rat)/(G:Rat))=(z:Rat):=by
 obtain⟨c,X,hz⟩:=h;have E:c.num≠0:=λe=>X (FD.1 e);have A:(c.den:Int)≠0:=by have:=c.den_nz;omega
 have k:∀i,∃z:Int,Sm K z/\(cf p i).num*c.num=z*((cf p i).den*c.den):=λi=>by
  obtain⟨z,l,n⟩:=hz i;refine⟨z,l,?_⟩;have N:c*(c.den:Rat)=(c.num:Rat):=Hf c;have a:cf p i*((cf p i).den:Rat)=((cf p i).num:Rat):=Hf _;have Q:(((cf p i).num*c.num:Int):Rat)=((z*(((cf p i).den:Int)*(c.den:Int)):Int):Rat):=by
   rw[AB,AB,AB,AP,AP,<-N,<-a,<-n];grind
  exact Rat.intCast_inj.1 Q
 have g:L∣c.num:=W _ λi=>by
  obtain⟨z,_,e⟩:=k i;have b:((cf p i).den:Int)∣(cf p i).num*c.num:=⟨z*c.den,by rw[e,Int.mul_left_comm]⟩;rw[CN]at b;refine dvd_one b ?_;show Nat.gcd ((cf p i).den:Int).natAbs (cf p i).num.natAbs=1;rw[AK,CZ];exact(cf p i).reduced
 have j:(c.den:Int)∣G:=U _ λi=>by
  obtain⟨z,_,e⟩:=k i;have b:(c.den:Int)∣(cf p i).num*c.num:=⟨z*(cf p i).den,by rw[e,<-Fx,CN]⟩;refine dvd_one b ?_;show Nat.gcd (c.den:Int).natAbs c.num.natAbs=1;rw[AK,CZ];exact c.reduced
 obtain⟨u,g⟩:=g;obtain⟨v,j⟩:=j;have M:u≠0:=λe=>E (by rw[g,e,Int.mul_zero]);have x:v≠0:=λe=>s (by rw[j,e,Int.mul_zero]);intro i;obtain⟨e,t⟩:=V i;obtain⟨m,w⟩:=T i;obtain⟨z,l,n⟩:=k i;have hd:((cf p i).den:Int)≠0:=by have:=(cf p i).den_nz;omega
 have D:z=m*e*(u*v):=by
  have R:z*(((cf p i).den:Int)*c.den)=m*e*(u*v)*(((cf p i).den:Int)*c.den):=by
   rw[<-n,w,g,j,t];generalize ((cf p i).den:Int)=d;generalize (c.den:Int)=f;grind
  exact Int.eq_of_mul_eq_mul_right (CI hd A) R
 refine⟨m*e,l.le ?_,?_⟩
 . rw[D,CA (m*e)];have:0<(u*v).natAbs:=Int.natAbs_pos.2 (CI M x);exact Ce _ this
 . have q:(G:Rat)≠0:=by exact_mod_cast s
   have a:cf p i*((cf p i).den:Rat)=((cf p i).num:Rat):=Hf _;rw[w,AB]at a;have y:(L:Rat)=((cf p i).den:Rat)*(e:Rat):=by rw[t,AB,AP]
   have o:(L:Rat)/(G:Rat)*(G:Rat)=L:=Ap q;have S:(cf p i*((L:Rat)/(G:Rat))-((m*e:Int):Rat))*(G:Rat)=0:=by
    rw[AB];generalize (L:Rat)/(G:Rat)=f at o ⊢;rw[y]at o;generalize ((cf p i).den:Rat)=d at a o;grind
   rcases AM.1 S with r|r
   . grind
   . exact absurd r q
def Y4(p:List Rat):Nat->Nat
 |0=>1
 |n+1=>Nat.lcm (Y4 p n) (cf p n).den
def YO(p:List Rat):Nat->Nat
 |0=>0
 |n+1=>Nat.gcd (YO p n) (cf p n).num.natAbs
theorem RW(p:List Rat):∀n,0<Y4 p n:=by
 intro n;induction n with
 |zero=>exact Nat.one_pos
 |succ n a=>exact Nat.lcm_pos a (cf p n).den_pos
theorem OB(p:List Rat):∀n i,i<n->(cf p i).den∣Y4 p n:=by
 intro n;induction n with
 |zero=>intro i h;omega
 |succ n a=>
  intro i h;rw[Y4];by_cases e:i=n
  . subst e;exact Nat.dvd_lcm_right _ _
  . exact Nat.dvd_trans (a i Y) (Nat.dvd_lcm_left _ _)
theorem OC(p:List Rat)(u:Nat)(h:∀i,(cf p i).den∣u):∀n,Y4 p n∣u:=by
 intro n;induction n with
 |zero=>exact Nat.one_dvd _
 |succ n a=>exact Nat.lcm_dvd a (h n)
theorem OD(p:List Rat):∀n i,i<n->YO p n∣(cf p i).num.natAbs:=by
 intro n;induction n with
 |zero=>intro i h;omega
 |succ n a=>
  intro i h;rw[YO];by_cases e:i=n
  . subst e;exact CV _ _
  . exact Nat.dvd_trans (Fj _ _) (a i Y)
theorem RX(p:List Rat)(v:Nat)(h:∀i,v∣(cf p i).num.natAbs):∀n,v∣YO p n:=by
 intro n;induction n with
 |zero=>exact Nat.dvd_zero _
 |succ n a=>exact Nat.dvd_gcd a (h n)
theorem RY(hD:D≠0)(h:CD D K c):∃n:Int,Sm K n/\c*(D:Rat)=(n:Rat):=by
 obtain⟨n,rfl,h⟩:=h;refine⟨n,h,?_⟩;have a:(D:Rat)≠0:=by exact_mod_cast hD
 rw[CB];exact Ap a
theorem L4{n:Int}(hD:D≠0)(b:Sm K n)(h:c*(D:Rat)=(n:Rat)):CD D K c:=by
 refine⟨n,?_,b⟩;have a:(D:Rat)≠0:=by exact_mod_cast hD
 rw[CB,<-h];exact(Rat.mul_div_cancel a).symm
theorem RZ(hD:D≠0)(a:Sm K D)(h:EC D K p)(n:Nat):Sm K (Y4 p n:Int):=by
 refine a.le ?_;rw[AK];refine Nat.le_of_dvd (Int.natAbs_pos.2 hD) (OC p _ (λi=>?_) n);obtain⟨z,_,e⟩:=RY hD (h i);have:=(bw e).1;exact CP.1 this
theorem Ra(h:∀i,Sm K (cf p i).num):∀n,Sm K (YO p n:Int):=by
 intro n;induction n with
 |zero=>exact Sm.zero K
 |succ n a=>exact Sm.gcd a (h n)
theorem EC.ln(hD:D≠0)(h:EC D K p):Ln K p:=
 ⟨(D:Rat),by exact_mod_cast hD,λi=>RY hD (h i)⟩
theorem Kt(hp:Jd p=p)(a:p≠[]):YO p p.length≠0:=λe=>by
 have hl:0<p.length:=Ag.2 a;have b:=OD p p.length (p.length-1) Y;rw[e]at b;have c:(cf p (p.length-1)).num.natAbs=0:=Nat.zero_dvd.1 b;exact Jt hp a (FD.1 (Int.natAbs_eq_zero.1 c))
def JI(p:List Rat):List Rat:=DP ((Y4 p p.length:Rat)/(YO p p.length:Rat)) p
theorem cC(hp:Jd p=p)(a:p≠[]):0<(Y4 p p.length:Rat)/(YO p p.length:Rat):=by
 have b:(0:Rat)<(Y4 p p.length:Rat):=by exact_mod_cast RW p _
 have c:(0:Rat)<(YO p p.length:Rat):=by exact_mod_cast Nat.pos_of_ne_zero (Kt hp a)
 rw[Fh];exact Rat.mul_pos b (Rat.inv_pos.2 c)
theorem Rb(hp:Jd p=p)(d:p≠[])(h:Ln K p):∀i,∃z:Int,Sm K z/\cf (JI p) i=(z:Rat):=by
 have c:∀i,p.length<=i->cf p i=0:=λi a=>Ye a;have e:=cA (p:=p) (L:=(Y4 p p.length:Int)) (G:=(YO p p.length:Int)) (λi=>by
  by_cases a:i<p.length
  . exact Int.natCast_dvd_natCast.2 (OB p _ i a)
  . rw[c i Y];exact Int.one_dvd _) (λu g=>by
  refine CP.2 (OC p _ (λi=>CP.1 (g i)) _)) (λi=>by
  by_cases a:i<p.length
  . exact CP.2 (OD p _ i a)
  . rw[c i Y];exact Int.dvd_zero _) (λv j=>by
  have:v.natAbs∣YO p p.length:=RX p _ (λi=>FG.2 (j i)) _;exact Int.natAbs_dvd.1 (Int.natCast_dvd_natCast.2 this)) (by have:=Kt hp d;omega) h
 intro i;obtain⟨z,f,b⟩:=e i;refine⟨z,f,?_⟩;unfold JI;rw[Yw];rw[AP,AP]at b;exact b

