import Derived.Test.YtakpoihdghihmaaGreatDoorQ41
open Go.Value renaming slice->B,pointer->F,int->H,bool->L,agg->P
open Go renaming undef->C
open Go.Obj renaming cells->G
open Go.IntKind renaming i64->I
set_option maxRecDepth 100000
set_option maxHeartbeats 16000000
namespace Go.Proofs.YtakpoihdghihmaaGreatDoor
namespace M3
open Go.RowKit Go.Shelf
attribute [local go_sem] Oper.semAt_some
def KJ(w V:World)(B5 b c:Nat)(rs a:Value)(R:List Rat):Prop:=
 Boxed V (w.heap.size+1+1) 25 (B none 0 0)/\Boxed V (w.heap.size+1+1+1) 25 (B none 0 0)/\Boxed V B5 23 rs/\Boxed V b 23 a/\Boxed V c 23 a/\RowK true V rs R/\Bl w V
variable{S ps:List Rat}{n:Nat}{row:Option Nat}{V V':World}
theorem boxed_own(a:V.grownBy V' row)(b:∀r,row=some r->∃o:Obj,V.heap[r]?=some o/\o.isCells=false){B:Nat}{t:TypeId}{v:Value}(h:Boxed V B t v):Boxed V' B t v:=J9 a b (show Bx V B t #[v]from h)
theorem KJ.own{w:World}{B5 c d:Nat}{rs g:Value}{R:List Rat}(h:KJ w V B5 c d rs g R)(a:V.grownBy V' row)(f:∀x,row=some x->w.heap.size<=x/\∃o:Obj,V.heap[x]?=some o/\o.isCells=false):KJ w V' B5 c d rs g R:=by
 have b:∀r,row=some r->∃o:Obj,V.heap[r]?=some o/\o.isCells=false:=λr e=>(f r e).2;exact⟨boxed_own a b h.1,boxed_own a b h.2.1,boxed_own a b h.2.2.1,boxed_own a b h.2.2.2.1,boxed_own a b h.2.2.2.2.1,X3 a b h.2.2.2.2.2.1,h.2.2.2.2.2.2.grown a h.2.2.2.2.2.2.size λk e=>(f k e).1⟩
theorem row_zero(V:World)(a:Option Addr):RowK true V (B a 0 0) []:=⟨a,0,rfl,Aa _,Y,Z,Or.inl rfl⟩
theorem Zh(x:Value)(ps:List Rat)(y:Value)(w:World)(t:Je w x ps)(m:Je w y []):
 Calls Tryz.prog 139 #[x,y] w λe n=>e=.returned (.tuple #[P #[B none 0 0],P #[B none 0 0],L false])/\Bl w n:=by
 obtain⟨f,la,g,rfl⟩:=t.form;obtain⟨b,lb,c,rfl⟩:=m.form;have j:Mem w _ _:=((((Mem.nil w).push (.cell 25 (B f la g)) (cs:=#[B f la g]) ⟨rfl,rfl⟩).push (.cell 25 (B b lb c)) (cs:=#[B b lb c]) ⟨rfl,rfl⟩).push (.cell 25 (B none 0 0)) (cs:=#[B none 0 0]) ⟨rfl,rfl⟩).push (.cell 25 (B none 0 0)) (cs:=#[B none 0 0]) ⟨rfl,rfl⟩;simp only[Ax]at j;obtain⟨d,l⟩:=ex ((((w.alloc (G #[B f la g] 25)).alloc (G #[B b lb c] 25)).alloc (G #[B none 0 0] 25)).alloc (G #[B none 0 0] 25));have k:Mem w d [some (w.heap.size,.cell 25 (B f la g)),some (w.heap.size+1,.cell 25 (B b lb c)),some (w.heap.size+1+1,.cell 25 (B none 0 0)),some (w.heap.size+1+1+1,.cell 25 (B none 0 0))]:=by rw[<-l];exact j
 obtain⟨q,r,A⟩:=Dd (show Calls Tryz.prog 30 #[P #[B b lb c]] d λe n=>e=.returned (H I (-1))/\Bl d n from J2 (P #[B b lb c]) [] d (m.below k.2.2)) k l;clear t m j k l;go_enter Tryz.func139,Tryz.ntmps139
 go_upto_region 1 with fail
 rw[A.o];have c1:=(r.o.cell (i:=1) rfl).1.cell;go_wp2_with(go_at_call 30;refine q.o.mono ?_;clear q;rintro e o ⟨rfl,u⟩;have s:Bl o (o.alloc (G #[H I (-1)] 3)):=Ba o _;have a:=(r.o.below u).below s;have D:=(a.cell (i:=2) rfl).1.cell;have f2:=(a.cell (i:=2) rfl).1.frozen;have E:=(a.cell (i:=3) rfl).1.cell;have f3:=(a.cell (i:=3) rfl).1.frozen;have z:=Ja a.2.2;clear s a u)
 refine BA (v:=.tuple #[P #[B none 0 0],P #[B none 0 0],L false]) (by simp[results,Tryz.results139,go_sem,D,E]) rfl ⟨rfl,?_⟩;exact((z.o.setCell (p:=⟨w.heap.size+1+1,0,none⟩) (by show w.heap.size<=w.heap.size+1+1;omega) _).setCell (p:=⟨w.heap.size+1+1+1,0,none⟩) (by show w.heap.size<=w.heap.size+1+1+1;omega) _)
theorem Zi(M z:Option Addr)(la N lb A n:Nat)(ps qs:List Rat)(w:World)(ha:RowK true w (B M la N) ps)(hb:RowK true w (B z lb A) qs)(hs:Sqs ps)(bf:Jd ps=ps)(hn:lb=n+1)(hm:la<=n):
 Calls Tryz.prog 139 #[P #[B M la N],P #[B z lb A]] w λe w'=>∃u v,e=.returned (.tuple #[u,v,L true])/\Je w' u []/\Je w' v ps/\Bl w w':=by
 have Qz:Tryz.prog.follows .mixedOrders=true:=by kernel_rfl
 obtain⟨bc,bg,bi,bn,_⟩:=ha.forms;obtain⟨bl,bh,bj,bt,_⟩:=hb.forms;have M0:Mem w _ _:=((((Mem.nil w).push (.cell 25 (B M la N)) (cs:=#[B M la N]) ⟨rfl,rfl⟩).push (.cell 25 (B z lb A)) (cs:=#[B z lb A]) ⟨rfl,rfl⟩).push (.cell 25 (B none 0 0)) (cs:=#[B none 0 0]) ⟨rfl,rfl⟩).push (.cell 25 (B none 0 0)) (cs:=#[B none 0 0]) ⟨rfl,rfl⟩;simp only[Ax]at M0;obtain⟨V0,an⟩:=ex ((((w.alloc (G #[B M la N] 25)).alloc (G #[B z lb A] 25)).alloc (G #[B none 0 0] 25)).alloc (G #[B none 0 0] 25));have M1:Mem w V0 [some (w.heap.size,.cell 25 (B M la N)),some (w.heap.size+1,.cell 25 (B z lb A)),some (w.heap.size+1+1,.cell 25 (B none 0 0)),some (w.heap.size+1+1+1,.cell 25 (B none 0 0))]:=by rw[<-an];exact M0
 have Qw:=Ja M1;have Qv:=Ja (show Calls Tryz.prog 30 #[P #[B z lb A]] V0 λe w'=>e=.returned (H I (n:Int))/\Bl V0 w' by
  have h:=J2 (P #[B z lb A]) qs V0 ⟨_,rfl,hb.below M1.2.2⟩;rwa[show((qs.length:Int)-1)=(n:Int)by omega]at h)
 have Qs:=Ja λ(V:World) (h:Bl w V)=>PU (B M la N) ps V (ha.below h);have bz:∀W:World,(Instr.makeSlice 23 (H I 0) (H I 0)).run Tryz.prog W=.ok (B (some ⟨W.heap.size,0,none⟩) 0 0) (W.alloc (G (J8 0) 37)):=λW=>IQ 0 Y W;obtain⟨x,hx⟩:=ex ((la:Int)-(n:Int):Int);have ce:IntKind.i64.wrap x=x:=by rw[BU];omega
 have bu:max (0:Int) x=0:=Y
 obtain⟨Ua,Uf,Ud,Qu⟩:=Dt hs bf bc an;clear ha hb bc bl bg bi bh bj hs bf hn hm M0 M1 an;refine(BJ (n:=3)).1 ?_;refine BR Tryz.func139 rfl trivial ?_ rfl;simp only[Tryz.ntmps139,Ar,Ae,Az,Nat.reduceAdd,Nat.reduceSub,At,Au,AH,Ay,Aq,AA];gi_wp2_with fail
 rw[Qu.o];refine⟨trivial,?_⟩;refine((BJ (n:=_)).2 Qv.o).mono ?_;rintro e w1 ⟨rfl,az⟩;have Qm:Bl w1 (w1.alloc (G #[H I (n:Int)] 3)):=Ba w1 _;have Qi:=(Qw.o.below az).below Qm;have h4:=BI w1 3 (H I (n:Int));have c0:=(Qi.cell (i:=0) rfl).1.cell;obtain⟨Qe,Qk,H4⟩:=Dd (Qs.o _ Qi.2.2) Qi h4;clear Qm Qi h4 az Qv Qu Qw Qs;gi_wp2_with fail
 obtain⟨V1,ap⟩:=ex (w1.alloc (G #[H I (n:Int)] 3));obtain⟨B4,aj⟩:=ex (w1.heap.size);rw[ap]at Qe Qk H4 c0;rw[aj]at H4;rw[ap,aj];clear ap aj;refine⟨trivial,?_⟩;refine((BJ (n:=_)).2 Qe.o).mono ?_;rintro e d ⟨u2,rfl,ax,_,ae,_⟩;obtain⟨f,rc,e9,_⟩:=id ax;rw[<-Ud.o]at e9;subst e9;have Qn:=Qk.o.below ae;have h4:Boxed d B4 3 (H I (n:Int)):=(ae.block B4 H4.o.lt).trans H4.o;have Ql:Bl d (d.alloc (G #[B f la rc] 23)):=Ba d _;have Qo:=Qn.push (.cell 23 (B f la rc)) (cs:=#[B f la rc]) ⟨rfl,rfl⟩;have h5:Boxed (d.alloc (G #[B f la rc] 23)) B4 3 (H I (n:Int)):=(Ql.block B4 h4.lt).trans h4;have c4:=h5.cell;have Qp:=Ja Qo;have Qt:=Ja (ax.below Ql);clear ax ae Qn h4 Ql Qo h5 Qk H4 Qe c0;gi_wp2_with fail
 refine⟨trivial,?_⟩;refine(K8 Fence.wide _ trivial rfl _ _ _ _).mono ?_;rintro e w3 ⟨rfl,rfl⟩;have S:=((Qp.o.push (.rats (List.replicate 0 0)) (KI _ 0)).push (.cell 23 (B (some ⟨d.heap.size+1,0,none⟩) 0 0)) (cs:=#[B (some ⟨d.heap.size+1,0,none⟩) 0 0]) ⟨rfl,rfl⟩).push (.cell 23 (B (some ⟨d.heap.size+1,0,none⟩) 0 0)) (cs:=#[B (some ⟨d.heap.size+1,0,none⟩) 0 0]) ⟨rfl,rfl⟩;simp only[Ax]at S;have Qq:Below (d.alloc (G #[B f la rc] 23)).heap.size (d.alloc (G #[B f la rc] 23)) ((((d.alloc (G #[B f la rc] 23)).alloc (G (J8 0) 37)).alloc (G #[B (some ⟨d.heap.size+1,0,none⟩) 0 0] 23)).alloc (G #[B (some ⟨d.heap.size+1,0,none⟩) 0 0] 23)):=
  ((Ba _ _).alloc (by simp only[Ax];omega) _).alloc (by simp only[Ax];omega) _
 have hF:KJ w ((((d.alloc (G #[B f la rc] 23)).alloc (G (J8 0) 37)).alloc (G #[B (some ⟨d.heap.size+1,0,none⟩) 0 0] 23)).alloc (G #[B (some ⟨d.heap.size+1,0,none⟩) 0 0] 23)) d.heap.size (d.heap.size+1+1) (d.heap.size+1+1+1) (B f la rc) (B (some ⟨d.heap.size+1,0,none⟩) 0 0) ps:=
  ⟨(S.cell (i:=2) rfl).1,(S.cell (i:=3) rfl).1,(S.cell (i:=4) rfl).1,(S.cell (i:=6) rfl).1,(S.cell (i:=7) rfl).1,Qt.o.below Qq,S.2.2⟩
 obtain⟨W3,aq⟩:=ex ((((d.alloc (G #[B f la rc] 23)).alloc (G (J8 0) 37)).alloc (G #[B (some ⟨d.heap.size+1,0,none⟩) 0 0] 23)).alloc (G #[B (some ⟨d.heap.size+1,0,none⟩) 0 0] 23));rw[aq]at hF;rw[aq];simp only[Ax];obtain⟨B5,ak⟩:=ex (d.heap.size);rw[ak]at hF;rw[ak];have HF:=Ja hF;clear S Qq hF aq ak Qp Qt c4;gi_wp2_with fail
 have Qr:=Ja (show w.heap.size<=W3.heap.size from HF.o.2.2.2.2.2.2.size);refine Y6 rfl Y (gf:=170) (lb:=#[F (some ⟨B5+1+1+1,0,none⟩)]) rfl trivial (Bj Tryz.func170 (by kernel_rfl) rfl)
  (K7 Fence.wide _ trivial rfl Y (B5+1+1+1) (some ⟨B5+1,0,none⟩) 0 0 (λ_=>L false) (λ_=>B none 0 0) (λ_=>L false) (λ_=>B none 0 0) Y) (λ_=>rfl)
  (λ_ W=>KJ w W B5 (B5+1+1) (B5+1+1+1) (B f la rc) (B (some ⟨B5+1,0,none⟩) 0 0) ps) (λ_ _ _=>False)
  (λk W W' row h hg hr=>h.own hg λr e=>⟨An Qr.o (hr r e).1,(hr r e).2⟩)
  (λc s W W' row h=>h.elim) HF.o ?rd
  (λk=>{ tmps:=#[P #[B M la N],P #[B z lb A],F (some ⟨w.heap.size,0,none⟩),F (some ⟨w.heap.size+1,0,none⟩),F (some ⟨w.heap.size+1+1,0,none⟩),F (some ⟨w.heap.size+1+1+1,0,none⟩),L false,F (some ⟨B4,0,none⟩),F (some ⟨B5,0,none⟩),F (some ⟨B5+1+1,0,none⟩),H I (((0:Nat):Int)-1-k),C,C,C,C,P #[B z lb A],H I ↑n,H I ↑n,L (decide ((n:Int)<0)),C,C,F (some ⟨w.heap.size,0,none⟩),B M la N,B f la rc,B f la rc,H I ↑la,H I ↑n,H I x,H I 0,B (some ⟨B5+1,0,none⟩) 0 0,B (some ⟨B5+1,0,none⟩) 0 0,.func (.func 170) #[] #[F (some ⟨B5+1+1+1,0,none⟩)],H I (((0:Nat):Int)-1-k),P #[L false,B none 0 0,L false,B none 0 0],C,C,C,C,C,C,C,C,C,C,C,C,C,C,C,C,C,C,C,C,C,C,C,C,C,C,C,C,C,C,C,C,C,C,C,C,C,C,C,C,C,C,C,C,C,C,C],defers:=[] }) ?assign ?body ?done ?stop
 case stop=>intro D c k W _ _ h;exact h.elim
 case rd=>
  intro k W h;exact⟨h.2.2.2.2.1.cell,λhk=>by omega⟩
 case assign=>
  intro l k W K hK;unfold IP;gi_wp2;exact hK
 case body=>intro l k W T hk;omega
 case done=>
  intro q W hD T hK;have Qx:GW w W.drew q B5 (B5+1+1) (B f la rc) (B (some ⟨B5+1,0,none⟩) 0 0) ps []:=
   GW.below ⟨T.1,T.2.1,T.2.2.1,T.2.2.2.1,T.2.2.2.2.2.1,row_zero _ _,T.2.2.2.2.2.2,hK⟩ ((BE _ W).drew)
  have Ub:LN false w W.drew q C:=λe=>by cases e
  have Qy:=Ja (show w.heap.size<=q by have:=Qr.o;omega);have Uc:=Ja (show Sqs []from Sqs.of λi=>Sq.of (k:=1) (by rw[YG];exact DT.zero 1 Y) Y);clear T hK HF;gi_wp2_with fail
  refine JR Qz [[],[0],[],[2,1],[1,3,0,1],[3,4,0,1,2,3,4],[5,0,1,2,3,4,5]] (by kernel_rfl) DI
   (λD ai V=>∃(tb tc td te ta:Value),ai={ tmps:=#[P #[B M la N],P #[B z lb A],F (some ⟨w.heap.size,0,none⟩),F (some ⟨w.heap.size+1,0,none⟩),F (some ⟨w.heap.size+1+1,0,none⟩),F (some ⟨w.heap.size+1+1+1,0,none⟩),ta,F (some ⟨B4,0,none⟩),F (some ⟨B5,0,none⟩),F (some ⟨B5+1+1,0,none⟩),C,C,C,C,C,P #[B z lb A],H I ↑n,H I ↑n,L (decide ((n:Int)<0)),C,C,F (some ⟨w.heap.size,0,none⟩),B M la N,B f la rc,B f la rc,H I ↑la,H I ↑n,H I x,H I 0,B (some ⟨B5+1,0,none⟩) 0 0,B (some ⟨B5+1,0,none⟩) 0 0,.func (.func 170) #[] #[F (some ⟨B5+1+1+1,0,none⟩)],C,C,C,C,C,C,C,C,C,C,C,C,C,C,C,C,C,C,C,C,C,C,C,C,C,C,C,C,C,C,C,C,C,C,C,C,C,C,C,C,C,C,C,C,C,tb,tc,td,te],defers:={ target:=.collected q,args:=#[] }::[] }/\Hid ((D 0=true->tb=B (some ⟨B5+1,0,none⟩) 0 0)/\(D 1=true->D 5=false->Je V tc (Jd []))/\(D 2=true->td=B f la rc)/\(D 3=true->D 5=false->Je V te (Jd ps))/\(D 6=true->ta=L true))/\Hid ((D 4=false->GW w V q B5 (B5+1+1) (B f la rc) (B (some ⟨B5+1,0,none⟩) 0 0) ps [])/\(D 4=true->Ia V))/\Hid ((D 5=false->LN (D 4) w V q tc)/\(D 5=true->P0 w V q tc te (Jd []) (Jd ps))))
   ⟨_,_,_,_,_,rfl,Ja Z,Ja ⟨λ_=>Qx,Z⟩,Ja ⟨λ_=>Ub,Z⟩⟩ ?step1 ?fin1
  case step1=>
   rintro D ai V i ds Q hi j m ⟨tb,tc,td,te,ta,rfl,b,g,y⟩;have bm:i<7:=(Ad.1 hi).1;obtain rfl|rfl|rfl|rfl|rfl|rfl|rfl:=Gv i Y
   all_goals
    simp only[Aj,Ai,Ak]at hi;subst hi
   . have t:=g.o.1 (DM Q m);have Qf:=y.o.1 (DM Q m);have e6:=t.2.2.2.1.cell;clear j;refine DY ?_;exact⟨(De b),g,y⟩
   . have U:D 4=false:=DM Q m;have t:=g.o.1 U;have R:D 5=false:=DM Q m;have Qf:=y.o.1 R;obtain rfl:=b.o.1 (j 0 Z);clear j;have HC:=Ja λ(n9:Nat)=>(BJ (n:=n9)).2 (GT _ [] V t.2.2.2.2.2.1 Uc.o);refine BO rfl λK hK=>?_;go_simp;gi_wp2_with(refine⟨trivial,?_⟩;gi_at_call 39;refine(HC.o _).mono ?_;rintro e w5 ⟨v5,rfl,ay,_,ad⟩)
     exact⟨_,_,_,_,_,rfl,Ja ⟨λ_=>rfl,λ_ _=>ay,b.o.2.2.1,λh X=>(b.o.2.2.2.1 h X).below ad,b.o.2.2.2.2⟩,Ja ⟨λh=>(g.o.1 h).below ad,λh=>(g.o.2 h).below ad⟩,Ja ⟨λ_=>(λe=>by simp[U]at e),λh=>by simp[R]at h⟩⟩
   . have U:D 4=false:=DM Q (DM (a:=3) Q m);have t:=g.o.1 U;have Qf:=y.o.1 (DM Q m);have e5:=t.2.2.1.cell;clear j;refine DY ?_;exact⟨Ja ⟨b.o.1,b.o.2.1,λ_=>rfl,b.o.2.2.2.1,b.o.2.2.2.2⟩,g,y⟩
   . have U:D 4=false:=DM Q m;have t:=g.o.1 U;have R:D 5=false:=DM Q m;have Qf:=y.o.1 R;obtain rfl:=b.o.2.2.1 (j 2 Z);clear j;have HC:=Ja λ(n9:Nat)=>(BJ (n:=n9)).2 (GT _ ps V t.2.2.2.2.1 Ua.o);refine BO rfl λK hK=>?_;go_simp;gi_wp2_with(refine⟨trivial,?_⟩;gi_at_call 39;refine(HC.o _).mono ?_;rintro e w5 ⟨v5,rfl,ay,_,ad⟩)
     exact⟨_,_,_,_,_,rfl,Ja ⟨b.o.1,λh X=>(b.o.2.1 h X).below ad,λ_=>rfl,λ_ _=>ay,b.o.2.2.2.2⟩,Ja ⟨λh=>(g.o.1 h).below ad,λh=>(g.o.2 h).below ad⟩,Ja ⟨λ_=>(λe=>by simp[U]at e),λh=>by simp[R]at h⟩⟩
   . have t:=g.o.1 m;have R:D 5=false:=DM Q m;have Qf:=y.o.1 R;have h0:=b.o.2.1 (j 1 Z) R;obtain⟨a9,l9,c9,rfl⟩:=Je.form h0;have Qg:=t.1;have e0:=Qg.cell;have f0:=Qg.frozen;have Qj:w.heap.size+1+1+1≠w.heap.size+1+1:=Y
     clear j;refine DY ?_;obtain⟨G0,G1,G2,G3,G4⟩:=b.o;exact⟨Ja ⟨G0,λh X=>(G1 h X).setP Qg _,G2,λh X=>(G3 h X).setP Qg _,G4⟩,Ja ⟨λh=>by simp at h,λ_=>trivial⟩,Ja ⟨λ_=>(λ_=>⟨_,rfl,Qg.set _,(BC V ⟨w.heap.size+1+1,0,none⟩ _ _ Qj).trans t.2.1,t.2.2.2.2.2.2.1.setCell (p:=⟨w.heap.size+1+1,0,none⟩) (by show w.heap.size<=w.heap.size+1+1;omega) _,(BK V ⟨w.heap.size+1+1,0,none⟩ _).same q _ t.2.2.2.2.2.2.2 rfl⟩),λh=>by simp[R]at h⟩⟩
   . have Qf:=y.o.1 m;have h0:=b.o.2.1 (j 1 Z) m;have h1:=b.o.2.2.2.1 (j 3 Z) m;have Ue:=j 4 Z;obtain⟨v2,rfl,ae,af,aw,ah⟩:=Qf (j 4 Z);obtain⟨a9,l9,c9,rfl⟩:=Je.form h1;have e0:=af.cell;have f0:=af.frozen;have Qj:w.heap.size+1+1≠w.heap.size+1+1+1:=Y
     clear j;refine DY ?_;exact⟨Ja ⟨b.o.1,λ_ h=>by simp at h,b.o.2.2.1,λ_ h=>by simp at h,b.o.2.2.2.2⟩,Ja ⟨λh=>by simp[Ue]at h,λ_=>trivial⟩,Ja ⟨λh=>by simp at h,λ_=>⟨_,_,rfl,rfl,(BC V ⟨w.heap.size+1+1+1,0,none⟩ _ _ Qj).trans ae,af.set _,h0.setP af _,h1.setP af _,aw.setCell (p:=⟨w.heap.size+1+1+1,0,none⟩) (by show w.heap.size<=w.heap.size+1+1+1;omega) _,(BK V ⟨w.heap.size+1+1+1,0,none⟩ _).same q _ ah rfl⟩⟩⟩
   . clear j;refine DY ?_;exact⟨Ja ⟨b.o.1,b.o.2.1,b.o.2.2.1,b.o.2.2.2.1,λ_=>rfl⟩,g,y⟩
  case fin1=>
   rintro E ai V am ⟨tb,tc,td,te,ta,rfl,b,g,y⟩;obtain⟨v,v',rfl,rfl,g2,g3,bk,ba,aw,ah⟩:=y.o.2 (am 5 DI);obtain rfl:=b.o.2.2.2.2 (am 6 DI);clear b g y am;gi_wp2;refine⟨Z,.inl ⟨_,_,rfl,BV ah,?_⟩⟩;have hg:=Bb V q (.deferred none);have Qh:∀r,some q=some r->∃o:Obj,V.heap[r]?=some o/\o.isCells=false:=λr e=>by cases e;exact⟨_,ah,rfl⟩
   have q2:Boxed _ (w.heap.size+1+1) 25 v:=J9 hg Qh (show Bx V (w.heap.size+1+1) 25 #[v]from g2);have q3:Boxed _ (w.heap.size+1+1+1) 25 v':=J9 hg Qh (show Bx V (w.heap.size+1+1+1) 25 #[v']from g3);have x2:=q2.cell;have x3:=q3.cell;refine⟨.tuple #[P #[v],P #[v'],L true],by simp[results,Tryz.results139,go_sem,x2,x3],_,_,rfl,?_,?_,?_⟩
   . obtain⟨u,e,h⟩:=bk;exact⟨u,e,X3 hg Qh h⟩
   . rw[Uf.o]at ba;obtain⟨u,e,h⟩:=ba;exact⟨u,e,X3 hg Qh h⟩
   . exact aw.trans (B7 (w:=w) (Aa _) _ q _ _ Qy.o ah rfl rfl)
theorem P1(A:Nat)(j l:Value)(ps qs:List Rat)(w:World)(f:Je w j ps)(g:Je w l qs)(E:Sqs ps)(hq:∀i,DT A (cf qs i))(n:Jd ps=ps)(K:Jd qs=qs)
(x:qs≠[]->∀k,k<=ps.length-(qs.length-1)->∃z,z+(2*A+1)<=1000000000/\(k<ps.length-(qs.length-1)->2*z+2*(2*A+1)<=1000000000)/\(∀i,DT z (cf (JB ps qs (qs.length-1) (ps.length-(qs.length-1)) k).2 i))/\∀i,DT (z+A) (cf (JB ps qs (qs.length-1) (ps.length-(qs.length-1)) k).1 i)):
 Calls Tryz.prog 139 #[j,l] w λe b=>∃u v,e=.returned (.tuple #[u,v,L (decide (qs≠[]))])/\Je b u (if qs=[]then []else Js ps qs)/\Je b v (if qs=[]then []else JH ps qs)/\Bl w b:=by
 by_cases a:qs=[]
 . subst a;refine(Zh j ps l w f g).mono ?_;rintro e b ⟨rfl,h⟩;exact⟨_,_,rfl,⟨_,rfl,RowK.nil _ _⟩,⟨_,rfl,RowK.nil _ _⟩,h⟩
 . have y:decide (qs≠[])=true:=BL a;rw[y];simp only[BB a];have R:0<qs.length:=Af.2 a;obtain⟨o,la,p,rfl⟩:=f.form;obtain⟨q,lb,r,rfl⟩:=g.form;have c:=f.row;have d:=g.row;obtain⟨N,_⟩:=c.forms;obtain⟨Q,_⟩:=d.forms;by_cases D:la<=lb-1
   . have m:ps.length-(qs.length-1)=0:=Y
     have s:Js ps qs=[]:=by unfold Js;rw[m];rfl
     have t:JH ps qs=ps:=by unfold JH;rw[m];exact n
     rw[s,t];exact Zi o q la p lb r (lb-1) ps qs w c d E n Y D
   . exact Zg A o q la p lb r (lb-1) (la-(lb-1)) ps qs w c d hq K a (λk M=>by rw[show lb-1=qs.length-1 by omega,show la-(qs.length-1)=ps.length-(qs.length-1)by omega];exact x a k Y) Y Y Y
def Ic(ps:List Rat)(n i:Nat)(S:List Rat):Prop:=S.length=n/\∀j,cf S j=if j<i then GM ps j else 0
theorem Ic.next{i:Nat}(h:Ic ps n i S)(b:i<n):Ic ps n (i+1) (S.set i (GM ps i)):=by
 refine⟨by rw[CK];exact h.1,λj=>?_⟩;rw[XK _ _ _ _ (by rw[h.1];exact b),h.2 j];by_cases e:j=i
 . rw[BH e,BH Y,e]
 . rw[BB e];by_cases a:j<i
   . rw[BH a,BH Y]
   . rw[BB a,BB Y]
theorem Ic.done(h:Ic ps n n S)(a:n=ps.length-1):Jd S=Jb ps:=X1 λj=>by
 rw[h.2 j,IA];split
 . rfl
 . rw[Yi (p:=ps) Y,CC]
theorem P2(v:Value)(ps:List Rat)(w:World)(h:Je w v ps)(az:Sqs ps)(ba:∀i,Sq (GM ps i)):
 Calls Tryz.prog 38 #[v] w λe w'=>∃u,e=.returned u/\Je w' u (Jb ps)/\Bl w w':=by
 have Qr:Tryz.prog.follows .mixedOrders=true:=by kernel_rfl
 obtain⟨o,la,k,rfl⟩:=h.form;have ha:=h.row;obtain⟨ax,bg,bh,bm,s,t,aa,bb,ll,cc,kk,dd,aq⟩:=ha.forms;have M0:Mem w _ _:=((Mem.nil w).push (.cell 25 (B o la k)) (cs:=#[B o la k]) ⟨rfl,rfl⟩).push (.cell 25 (B none 0 0)) (cs:=#[B none 0 0]) ⟨rfl,rfl⟩;simp only[Ax]at M0;obtain⟨V0,af⟩:=ex ((w.alloc (G #[B o la k] 25)).alloc (G #[B none 0 0] 25));have M1:Mem w V0 [some (w.heap.size,.cell 25 (B o la k)),some (w.heap.size+1,.cell 25 (B none 0 0))]:=by rw[<-af];exact M0
 have Qj:=Ja M1;obtain⟨d,hd⟩:=ex ((ps.length:Int)-1:Int);have Qi:=Ja (J2 (P #[B o la k]) ps V0 (h.below M1.2.2));rw[hd]at Qi;obtain⟨n,hn⟩:=ex (ps.length-1:Nat);have Qf:max (0:Int) d=(n:Int):=Y
 have Qt:∀W:World,(Instr.makeSlice 23 (H I (n:Int)) (H I (n:Int))).run Tryz.prog W=.ok (B (some ⟨W.heap.size,0,none⟩) n n) (W.alloc (G (J8 n) 37)):=λW=>IQ n Y W;obtain⟨HP,Qn,Qp,HN⟩:=Dt aq az ba (show n=ps.length-1/\la=ps.length from⟨hn.symm,ax⟩);have Qe:n<=1099511627776:=Y
 have Ql:=Ja af;clear h ha aq az ba ax bg bh hn hd M0 M1 af;go_enter Tryz.func38,Tryz.ntmps38
 go_upto_region 1 with fail
 rw[Ql.o];have c0:=(Qj.o.cell (i:=0) rfl).1.cell;go_upto_region 2 with(go_at_call 30;refine Qi.o.mono ?_;clear Qi;rintro e w1 ⟨rfl,ap⟩)
 have Qg:Mem w (w1.alloc (G (J8 n) 37)) [some (w.heap.size,.cell 25 (B o la k)),some (w.heap.size+1,.cell 25 (B none 0 0)),some (w1.heap.size,.rats (List.replicate n 0))]:=(Qj.o.below ap).push (.rats (List.replicate n 0)) (KI _ n);obtain⟨V1,ah⟩:=ex (w1.alloc (G (J8 n) 37));obtain⟨l,aj⟩:=ex (w1.heap.size);rw[ah,aj]at Qg;rw[ah,aj];have Qk:=Ja Qg;clear Qg ah aj ap c0 Qj Ql Qt Qf;go_wp2;go_loopw [11] (λiv wr=>∃(i:Nat) (S:List Rat),i<=n/\iv=H I (i:Int)/\Hid (Ic ps n i S)/\Hid (Mem w wr [some (w.heap.size,.cell 25 (B o la k)),some (w.heap.size+1,.cell 25 (B none 0 0)),some (l,.rats S)])) λiv _=>n-(intOf iv).toNat
 case atStart=>exact⟨0,_,AV _,rfl,Ja ⟨Aw,λj=>by rw[JW,BB Y]⟩,Qk⟩
 case round=>
  obtain⟨i,S,N,rfl,q,M⟩:=hrel;clear Qk;by_cases ay:i<n
  . have bn:(i:Int)<(n:Int):=Y
    obtain⟨K,hK⟩:=ex (i+1:Nat);have bi:(i:Int)+1=(K:Int):=Y
    have bk:IntKind.i64.wrap (K:Int)=(K:Int):=by rw[BU];omega
    have bj:(K:Int)<(la:Int):=by have:=HN.o;omega
    obtain⟨aw,f,rfl,A,p0,p1,p2,p3⟩:=HP.o K (by have:=HN.o;omega);have Qu:=Ja (show ∀V,Bl w V->(V.cell? ⟨f,K*4,none⟩=some (L (s K))/\V.cell? ⟨f,K*4+1,none⟩=some (B (aa K) (ll K) (cc K))/\V.cell? ⟨f,K*4+2,none⟩=some (L (t K))/\V.cell? ⟨f,K*4+3,none⟩=some (B (bb K) (kk K) (dd K)))/\Jh V (P #[L (s K),B (aa K) (ll K) (cc K),L (t K),B (bb K) (kk K) (dd K)]) (cf ps K)from λV y=>by
     exact⟨⟨(y.cell (p:=⟨f,_,none⟩) A).trans p0,(y.cell (p:=⟨f,_,none⟩) A).trans p1,(y.cell (p:=⟨f,_,none⟩) A).trans p2,(y.cell (p:=⟨f,_,none⟩) A).trans p3⟩,aw.below y⟩)
    have Qd:=Ja (show K<=1099511627776/\K=i+1 by omega);have Qs:=Ja (show cf ps K*((K:Int):Rat)=GM ps i by rw[Qd.o.2];rfl);have Qm:=Ja (show i<S.length by rw[q.o.1];exact ay);clear aw A p0 p1 p2 p3 hK;go_wp2_with fail
    have Qo:=M.o.drew;refine Jp Qr [[],[],[],[2],[],[4],[3,5],[6],[],[8],[9],[7,10,10],[0,1,0,1,2,3,4,5,6,7,8,9,10,11],[12,11,11,0,1,2,3,4,5,6,7,8,9,10,11]] (by kernel_rfl) DI
     (λD ae V=>∃(ta tb R T U X ti tj tk tl tm tn tp:Value),ae={ tmps:=#[P #[B (some ⟨f,0,none⟩) la k],F (some ⟨w.heap.size,0,none⟩),F (some ⟨w.heap.size+1,0,none⟩),B (some ⟨l,0,none⟩) n n,H I ↑i,P #[B (some ⟨f,0,none⟩) la k],H I d,H I ↑n,B (some ⟨l,0,none⟩) n n,B (some ⟨l,0,none⟩) n n,H I ↑n,H I ↑i,L true,H I ↑i,ta,tb,R,T,U,X,ti,tj,tk,tl,tm,tn,tp,u27,C,C],defers:=[] }/\Hid ((D 0=true->ta=B (some ⟨l,0,none⟩) n n)/\(D 1=true->tb=H I (i:Int))/\(D 2=true->R=F (some ⟨w.heap.size,0,none⟩))/\(D 3=true->T=B (some ⟨f,0,none⟩) la k)/\(D 4=true->U=H I (i:Int))/\(D 5=true->X=H I (K:Int))/\(D 6=true->ti=F (some ⟨f,K*4,none⟩))/\(D 7=true->D 13=false->Jh V tj (cf ps K))/\(D 8=true->tk=H I (i:Int))/\(D 9=true->tl=H I (K:Int))/\(D 10=true->D 13=false->Jh V tm ((K:Int):Rat))/\(D 11=true->D 13=false->Jh V tn (GM ps i))/\(D 12=true->tp=F (some ⟨l,i*4,none⟩)))/\Hid ((D 13=false->Mem w V [some (w.heap.size,.cell 25 (B (some ⟨f,0,none⟩) la k)),some (w.heap.size+1,.cell 25 (B none 0 0)),some (l,.rats S)])/\(D 13=true->Mem w V [some (w.heap.size,.cell 25 (B (some ⟨f,0,none⟩) la k)),some (w.heap.size+1,.cell 25 (B none 0 0)),some (l,.rats (S.set i (GM ps i)))])))
     (E8 ⟨_,_,_,_,_,rfl,Ja Z,Ja ⟨λ_=>Qo,Z⟩⟩) ?step1 ?fin1
    case step1=>
     rintro D ae V i ds ai N b z ⟨ta,tb,R,T,U,X,ti,tj,tk,tl,tm,tn,tp,rfl,a,c⟩;have bl:i<14:=(Ad.1 N).1;obtain rfl|rfl|rfl|rfl|rfl|rfl|rfl|rfl|rfl|rfl|rfl|rfl|rfl|rfl:=F2 i Y
     all_goals
      simp only[Aj,Ai,Ak]at N;subst N
     . clear b;refine DU ?_;exact⟨(De a),c⟩
     . clear b;refine DU ?_;exact⟨(Dl a),c⟩
     . clear b;refine DU ?_;exact⟨(Da a),c⟩
     . have r:=c.o.1 (DM ai z);obtain rfl:=a.o.2.2.1 (b 2 Z);have e0:=(r.cell (i:=0) rfl).1.cell;clear b;refine DU ?_;exact⟨(Df (Da a)),c⟩
     . clear b;refine DU ?_;exact⟨(Dz a),c⟩
     . obtain rfl:=a.o.2.2.2.2.1 (b 4 Z);clear b;refine DU ?_;exact⟨(Dw (Dz a)),c⟩
     . obtain rfl:=a.o.2.2.2.1 (b 3 Z);obtain rfl:=Du a (b 5 Z);clear b;refine DU ?_;exact⟨(D5 (Dw (Df a))),c⟩
     . have r:=c.o.1 (DM ai z);obtain rfl:=EC a (b 6 Z);obtain⟨⟨e0,e1,e2,e3⟩,hr⟩:=Qu.o V r.2.2;clear b;refine DU ?_;exact⟨(EL (D5 a) λ_ _=>hr),c⟩
     . clear b;refine DU ?_;exact⟨(EM a),c⟩
     . obtain rfl:=Ef a (b 8 Z);clear b;refine DU ?_;exact⟨(Eo (EM a)),c⟩
     . obtain rfl:=F6 a (b 9 Z);clear b;have E:=Ja (PY (K:Int) Y (by have:=Qd.o;omega) V);refine Jc rfl rfl λK hK=>?_;go_simp;go_wp2_with(go_at_call 79;refine E.o.mono ?_;rintro e w5 ⟨v5,rfl,am,g⟩)
       obtain⟨G0,G1,G2,G3,G4,G5,G6,G7,G8,_,_,bf,ad⟩:=a.o;exact E8 ⟨_,_,_,_,_,rfl,Ja ⟨G0,G1,G2,G3,G4,G5,G6,λh m=>(G7 h m).below g,G8,λ_=>rfl,λ_ _=>am,λh m=>(bf h m).below g,ad⟩,Ja ⟨λh=>(c.o.1 h).below g,λh=>(c.o.2 h).below g⟩⟩
     . have Qa:D 13=false:=DM ai z;have x:=Ee a (b 7 Z) Qa;have h1:=ED a (b 10 Z) Qa;clear b;have E:=Ja (IM _ _ (cf ps K) ((K:Int):Rat) V x h1 (Qn.o.at K) (Wf Qd.o.1));rw[Qs.o]at E;clear x h1;refine Jc rfl rfl λK hK=>?_;go_simp;go_wp2_with(go_at_call 91;refine E.o.mono ?_;rintro e w5 ⟨v5,rfl,am,g⟩)
       obtain⟨G0,G1,G2,G3,G4,G5,G6,G7,G8,G9,bc,_,ad⟩:=a.o;exact E8 ⟨_,_,_,_,_,rfl,Ja ⟨G0,G1,G2,G3,G4,G5,G6,λh m=>(G7 h m).below g,G8,G9,λh m=>(bc h m).below g,λ_ _=>am,ad⟩,Ja ⟨λh=>(c.o.1 h).below g,λh=>(c.o.2 h).below g⟩⟩
     . obtain rfl:=a.o.1 (b 0 Z);obtain rfl:=a.o.2.1 (b 1 Z);clear b;refine DU ?_;exact⟨(Hj (Dl (De a))),c⟩
     . have r:=c.o.1 z;have x:=EY a (b 11 Z) z;obtain rfl:=a.o.2.2.2.2.2.2.2.2.2.2.2.2 (b 12 Z);have hE:=r.rats (i:=2) rfl;obtain⟨xa,xb,xc,xd,e0,e1,e2,e3,_⟩:=hE.at Qm.o;have f0:=hE.frozen (i*4);have f1:=hE.frozen (i*4+1);have f2:=hE.frozen (i*4+2);have f3:=hE.frozen (i*4+3);obtain⟨s9,a9,l9,c9,t9,b9,k9,d9,rfl⟩:=Jh.form x;clear b;refine DU ?_;exact⟨(Hj (Ds (Dp (EL a λ_ h=>by simp at h) λ_ h=>by simp at h) λ_ h=>by simp at h)),Ja ⟨λh=>by simp at h,λ_=>r.putRats (i:=2) rfl Qm.o x⟩⟩
    case fin1=>
     rintro D ae V an ⟨ta,tb,R,T,U,X,ti,tj,tk,tl,tm,tn,tp,rfl,a,c⟩;have HO:=Ja (c.o.2 (an 13 DI));clear a c an;go_wp2_with fail
     go_roundw
     case rel=>exact⟨i+1,_,Y,by go_num,Ja (q.o.next ay),HO⟩
     case measure=>simp[intOf];omega
  . obtain rfl:i=n:=Y
    have hE:=M.o.rats (i:=2) rfl;have Qc:=hE.row (n:=i) (cap:=i) (by rw[q.o.1];exact Aa _) (Aa _) Y Qe;rw[Ac (by rw[q.o.1];exact Aa _)]at Qc;have Qh:=Ja (GT _ S wr Qc (Sqs.of λj=>by
     rw[q.o.2 j];split
     . exact Qp.o j
     . exact Gl))
    rw[q.o.done HN.o.1]at Qh;clear hE Qc;go_wp2_with(go_at_call 39;refine Qh.o.mono ?_;clear Qh;rintro e w5 ⟨u5,rfl,ak,_,g⟩;obtain⟨a7,l7,c7,rfl⟩:=ak.form;have Q:=boxed_below (M.o.cell (i:=1) rfl).1 g;have x0:=Q.cell;have x1:=Q.frozen;have Qv:=Ja (Es Q (B a7 l7 c7) ak.row);have Qq:=Ja ((Bt M.o.2.2 g).setCell (p:=⟨w.heap.size+1,0,none⟩) (by show w.heap.size<=w.heap.size+1;omega) (B a7 l7 c7));clear ak g Q)
    exact BA (v:=P #[B a7 l7 c7]) (by simp[results,Tryz.results38,go_sem,x0]) rfl ⟨_,rfl,⟨_,rfl,Qv.o⟩,Qq.o⟩
end M3
section
open Go.RowKit Go.Shelf
def CD(D:Int)(K:Nat)(c:Rat):Prop:=∃n:Int,c=Rat.divInt n D/\Sm K n
section
variable {D E:Int} {K M:Nat} {c d:Rat}
theorem CD.mono(h:CD D K c)(a:K<=M):CD D M c:=by
 obtain⟨n,e,h⟩:=h;exact⟨n,e,h.mono a⟩
theorem CD.smq(h:CD D K c)(hD:D≠0)(a:Sm K D):DT K c:=by
 obtain⟨n,rfl,h⟩:=h;exact DT.divInt hD h a
theorem CD.zero(D:Int)(K:Nat):CD D K 0:=⟨0,by rw[Rat.zero_divInt],Sm.zero K⟩
theorem CD.add(h:CD D K c)(a:CD D M d)(hD:D≠0):CD D (max K M+1) (c+d):=by
 obtain⟨n,rfl,h⟩:=h;obtain⟨m,rfl,a⟩:=a;refine⟨n+m,?_,?_⟩
 . rw[FH _ _ hD hD,<-Int.add_mul,Fw hD]
 . exact(h.mono (Nat.le_max_left ..)).add (a.mono (Nat.le_max_right ..))
theorem CD.mul(h:CD D K c)(a:CD E M d):CD (D*E) (K+M) (c*d):=by
 obtain⟨n,rfl,h⟩:=h;obtain⟨m,rfl,a⟩:=a;exact⟨n*m,by rw[Fp],h.mul a⟩
theorem CD.wide(h:CD D K c)(hE:Sm M E)(a:E≠0):CD (D*E) (K+M) c:=by
 obtain⟨n,rfl,h⟩:=h;exact⟨n*E,by rw[Fw a],h.mul hE⟩
end
def D8(D:Int)(K:Nat)(ps:List Rat):Prop:=∀i,CD D K (cf ps i)
variable{D:Int}{ps qs:List Rat}{K:Nat}
theorem P3(hD:D≠0)(h:∀i j,CD D K (cf ps i*cf qs j))(n:Nat):∀(i k:Nat),CD D (K+min i ps.length) (cf (XJ ps qs n i) k):=by
 intro i;induction i with
 |zero=>intro k;rw[XJ,JW];exact CD.zero _ _
 |succ i a=>
  intro k;rw[XJ];rcases LL (XJ ps qs n i) i (cf ps i) qs qs.length k with e|e
  . rw[e];exact(a k).mono Y
  . rw[e];by_cases b:i<ps.length
    . exact((a k).add (h i (k-i)) hD).mono Y
    . rw[Yi (p:=ps) Y,CC,Rat.add_zero];exact(a k).mono Y
theorem Zj(hD:D≠0)(f:Sm 1000000000 D)(h:∀i j,CD D K (cf ps i*cf qs j))(d:K+ps.length+1<=1000000000):M3.KC ps qs:=by
 have hq:∀c,CD D (K+ps.length+1) c->Sq c:=λc b=>Sq.of ((b.mono d).smq hD f) (Aa _);refine⟨λi j=>hq _ ((h i j).mono Y),λn i j k=>?_⟩;have a:=P3 hD h n i k;rcases LL (XJ ps qs n i) i (cf ps i) qs j k with e|e
 . rw[e];exact hq _ (a.mono Y)
 . rw[e];exact hq _ ((a.add (h i (k-i)) hD).mono Y)
theorem Zk(hD:D≠0)(h:∀i j,CD D K (cf ps i*cf qs j)):D8 D (K+ps.length) (Jm ps qs):=λk=>by
 unfold Jm;rw[Yd,Iu];have a:=P3 hD h (ps.length+qs.length) ps.length k;rwa[Ny _ _ _ _ _ (Or.inr Y),Nat.min_self]at a
theorem Sm.powZ{A:Nat}{v:Int}(h:Sm A v):∀n,Sm (n*A+1) (v^n):=by
 intro n;induction n with
 |zero=>rw[Int.pow_zero];exact Sm.one _ Y
 |succ n a=>rw[Int.pow_succ,AD,show n*A+1*A+1=n*A+1+A by omega];exact a.mul h
end
section
open Go.RowKit Go.Shelf
variable{D:Int}{K:Nat}
theorem Zl{c:Rat}(h:CD D K c):CD D K (-c):=by
 obtain⟨n,rfl,h⟩:=h;exact⟨-n,by rw[<-Rat.neg_divInt],by unfold Sm at h ⊢;rwa[Int.natAbs_neg]⟩
theorem P4{E l:Int}{A:Nat}{ps qs:List Rat}{n m:Nat}(hD:D≠0)(hp:D8 D K ps)(hE:E≠0)(S:Sm A E)(hq:D8 E A qs)(b:l≠0)(hl:Sm A l)(N:cf qs n=Rat.divInt l E)(M:cf qs n≠0):
 ∀k,D8 (D*l^k) (K+k*(A+1)) (JB ps qs n m k).2/\D8 (D*l^k) (K+k*(A+1)) (JB ps qs n m k).1:=by
 intro k;induction k with
 |zero=>
  rw[Int.pow_zero,Int.mul_one];exact⟨λi=>(hp i).mono Y,λi=>by rw[JB,JW];exact CD.zero _ _⟩
 |succ k U=>
  obtain⟨d,g⟩:=U;have w:D*l^k≠0:=CJ hD (Int.pow_ne_zero b);have e:D*l^(k+1)=D*l^k*l:=by rw[Int.pow_succ,Fy]
  rw[e];have v:D*l^k*l≠0:=CJ w b;obtain⟨R,p⟩:=ex ((JB ps qs n m k).2);obtain⟨Q,o⟩:=ex ((JB ps qs n m k).1);rw[p]at d;rw[o]at g;obtain⟨r,z,s⟩:=d (m-(k+1)+n);obtain⟨c,q⟩:=ex (cf R (m-(k+1)+n)/cf qs n);have f:c=Rat.divInt (r*E) (D*l^k*l):=by
   rw[<-q];have y:cf R (m-(k+1)+n)=Rat.divInt (r*E) (D*l^k*l)*cf qs n:=by
    rw[N,Fp,z,show r*E*l=r*(E*l)from Fy _ _ _,show D*l^k*l*E=D*l^k*(E*l)by rw[Fy (D*l^k),CX l E],Fw (CJ hE b)]
   rw[y,Rat.mul_div_cancel M]
  have t:CD (D*l^k*l) (K+(k+1)*(A+1)) c:=⟨r*E,f,(s.mul S).mono (by rw[AD];omega)⟩;have u:∀j,CD (D*l^k*l) (K+k*(A+1)+A) (c*cf qs j):=λj=>by
   obtain⟨x,ex,T⟩:=hq j;refine⟨r*x,?_,s.mul T⟩;rw[f,ex,Fp,show r*E*x=r*x*E by rw[Fy,CX E x,Fy],Fw hE]
  rw[JB,p,o];simp only[q];refine⟨λi=>?_,λi=>?_⟩
  . rcases LL R (m-(k+1)) (-c) qs qs.length i with a|a
    . rw[a];exact((d i).wide hl b).mono (by rw[AD];omega)
    . rw[a,Rat.neg_mul];exact(((d i).wide hl b).add (Zl (u _)) v).mono (by rw[AD];omega)
  . rcases M3.Ze Q (m-(k+1)) c i with a|a
    . rw[a];exact t
    . rw[a];exact((g i).wide hl b).mono (by rw[AD];omega)
end
variable{D:Int}{a b p q:List Rat}{K M n:Nat}{f g:Nat->Int}{c d:Rat}
theorem Zm:∀(n:Nat) (f:Nat->Nat),(∀i,i<=n->f i<n)->∃i j,i<j/\j<=n/\f i=f j:=by
 intro n;induction n with
 |zero=>intro f h;exact absurd (h 0 (Aa _)) Y
 |succ n o=>
  intro f h;by_cases k:∃i,i<=n/\f i=f (n+1)
  . obtain⟨i,d,a⟩:=k;exact⟨i,n+1,Y,Aa _,a⟩
  . have c:∀i,i<=n->f i≠f (n+1):=λi b e=>k ⟨i,b,e⟩;obtain⟨i,j,d,a,g⟩:=o (λi=>if f i=n then f (n+1)else f i) (λi b=>by
     have l:=h i Y;have m:=h (n+1) (Aa _);have p:=c i b;split<;>omega)
    refine⟨i,j,d,Y,?_⟩;have l:=c i Y;have m:=c j a;split at g<;>split at g<;>omega
def enc(b:Nat):Nat->(Nat->Nat)->Nat
 |0,_=>0
 |M+1,d=>enc b M d+d M*b^M
theorem NF{b:Nat}{d:Nat->Nat}(h:∀k,k<M->d k<b):enc b M d<b^M:=by
 induction M with
 |zero=>simp[enc]
 |succ M e=>
  have f:=e λk g=>h k Y;have a:=h M Y;have c:(d M+1)*b^M<=b*b^M:=Ah _ a;rw[enc,A4,As (b^M) b];rw[AD,CA]at c;omega
theorem Zn{b:Nat}{d a:Nat->Nat}(h:∀k,k<M->d k<b)(g:∀k,k<M->a k<b)(e:enc b M d=enc b M a):∀k,k<M->d k=a k:=by
 induction M with
 |zero=>intro k c;omega
 |succ M j=>
  have l1:=NF (λk c=>h k Y:∀k,k<M->d k<b);have l2:=NF (λk c=>g k Y:∀k,k<M->a k<b);have hp:0<b^M:=Y
  rw[enc,enc]at e;have f:d M=a M:=by
   have f1:(enc b M d+d M*b^M)/b^M=d M:=by rw[Nat.add_mul_div_right _ _ hp,Co l1];omega
   have f2:(enc b M a+a M*b^M)/b^M=a M:=by rw[Nat.add_mul_div_right _ _ hp,Co l2];omega
   rw[<-f1,<-f2,e]
  intro k c;by_cases i:k=M
  . rw[i];exact f
  . exact j (λk c=>h k Y) (λk c=>g k Y) (by rw[f]at e;omega) k Y
def EI(b x j:Nat):Nat:=x/b^j%b
theorem Zo{b:Nat}(a:0<b)(x j:Nat):EI b x j<b:=Cp _ a
theorem P5(b x:Nat):∀N,enc b N (EI b x)=x%b^N:=by
 intro N;induction N with
 |zero=>simp[enc,Nat.mod_one]
 |succ N a=>rw[enc,a,Nat.mod_pow_succ,As (EI b x N)];rfl
def Yp:Nat->(Nat->Int)->Int
 |0,_=>0
 |n+1,f=>Yp n f+f n
theorem P6(h:∀k,k<n->f k=g k):Yp n f=Yp n g:=by
 induction n with
 |zero=>rfl
 |succ n a=>rw[Yp,Yp,a λk b=>h k Y,h n Y]
theorem Zp(n:Nat)(f g:Nat->Int):Yp n (λk=>f k-g k)=Yp n f-Yp n g:=by
 induction n with
 |zero=>rfl
 |succ n a=>rw[Yp,Yp,Yp,a];omega
theorem NG{C:Nat}(h:∀k,k<n->(f k).natAbs<=C):(Yp n f).natAbs<=n*C:=by
 induction n with
 |zero=>simp[Yp]
 |succ n a=>
  have b:=a λk d=>h k Y;have c:=h n Y;rw[Yp,AD,CA];have:=FK (Yp n f) (f n);omega
theorem Zq(N A:Nat)(c:Nat->Nat->Int)(w:∀k j,(c k j).natAbs<=A):
 ∃z:Nat->Int,(∃j,j<N+1/\z j≠0)/\(∀j,(z j).natAbs<=(2*(N+1)*A+1)^N)/\∀k,k<N->Yp (N+1) (λj=>c k j*z j)=0:=by
 obtain⟨B,l⟩:=ex ((2*(N+1)*A+1)^N);have o:1<=B:=by rw[<-l];exact CU Y
 obtain⟨C,m⟩:=ex ((N+1)*(A*B));have d:∀x j,EI (B+1) x j<=B:=λx j=>by have:=Zo (b:=B+1) Y x j;omega
 have v:∀x k,(Yp (N+1) λj=>c k j*(EI (B+1) x j:Int)).natAbs<=C:=λx k=>by
  rw[<-m];refine NG λj _=>?_;rw[CF,AY];exact Cq (w k j) (d x j)
 obtain⟨g,a⟩:∃g:Nat->Nat->Nat,∀x k,(g x k:Int)=Yp (N+1) (λj=>c k j*(EI (B+1) x j:Int))+C/\g x k<2*C+1:=
  ⟨λx k=>(Yp (N+1) (λj=>c k j*(EI (B+1) x j:Int))+C).toNat,λx k=>by have:=v x k;dsimp only;omega⟩
 have U:(2*C+1)^N<(B+1)^(N+1):=by
  have f:2*C+1<=(2*(N+1)*A+1)*B:=by
   have p:2*C=2*(N+1)*A*B:=by rw[<-m];simp only[AJ]
   rw[p,AD,CA];exact Nat.add_le_add_left o _
  have i:(2*C+1)^N<=B^(N+1):=by
   refine An (Fe f N) ?_;rw[Nat.mul_pow,l,A4,As];exact Aa _
  exact Ck i (Nat.pow_lt_pow_left Y Y)
 obtain⟨x,y,f,i,q⟩:=Zm ((2*C+1)^N) (λx=>enc (2*C+1) N (g x)) λx _=>NF λk _=>(a x k).2;have r:=Zn (λk _=>(a x k).2) (λk _=>(a y k).2) q;refine⟨λj=>(EI (B+1) x j:Int)-(EI (B+1) y j:Int),?_,λj=>?_,λk E=>?_⟩
 . by_cases n:∃j,j<N+1/\(EI (B+1) x j:Int)-(EI (B+1) y j:Int)≠0
   . exact n
   . exfalso
     have s:∀j,j<N+1->EI (B+1) x j=EI (B+1) y j:=λj D=>by
      by_cases e:EI (B+1) x j=EI (B+1) y j
      . exact e
      . exact absurd ⟨j,D,Y⟩ n
     have t:∀M,M<=N+1->enc (B+1) M (EI (B+1) x)=enc (B+1) M (EI (B+1) y):=λM=>by
      induction M with
      |zero=>intro _;rfl
      |succ M K=>intro T;rw[enc,enc,K Y,s M Y]
     have u:=t (N+1) (Aa _);rw[P5,P5,Cv Y,Cv Y]at u;omega
 . have:=d x j;have:=d y j;dsimp only;omega
 . have R:=r k E;have S:=(a x k).1;have Q:=(a y k).1;rw[show(λj=>c k j*((EI (B+1) x j:Int)-(EI (B+1) y j:Int)))=(λj=>c k j*(EI (B+1) x j:Int)-c k j*(EI (B+1) y j:Int))from funext λj=>Int.mul_sub _ _ _,Zp];omega
theorem Zs(p q:List Rat):(Yl p q).length<=max p.length q.length:=X5 (Xq _ _) λi a=>by rw[Lq,Yi Y,Yi Y,Rat.sub_self]
def DP(c:Rat)(p:List Rat):List Rat:=Jd (YT c p)
theorem JI(c:Rat)(p:List Rat):Jd (DP c p)=DP c p:=J3 _
theorem Yk(c:Rat)(p:List Rat)(i:Nat):cf (DP c p) i=cf p i*c:=by unfold DP;rw[Yd,H7]
theorem JJ(c:Rat)(p:List Rat)(x:Rat):ev (DP c p) x=ev p x*c:=by unfold DP;rw[Xz,Xp]
theorem GE{a b:Rat}(c:a≠0)(d:b≠0):a*b≠0:=λh=>by
 rcases Cj.1 h with h|h
 . exact c h
 . exact d h
theorem Zt(h:cf p n≠0):n<p.length:=by
 by_cases a:n<p.length
 . exact a
 . exact absurd (Yi Y) h
theorem Yf(d:c≠0)(hp:Jd p=p):(DP c p).length=p.length:=by
 refine Nat.le_antisymm (X5 (JI _ _) λi e=>by rw[Yk,Yi e,CC]) ?_;by_cases a:p=[]
 . rw[a];exact AV _
 . have b:=Jt hp a;have f:0<p.length:=Af.2 a;have g:=Zt (p:=DP c p) (n:=p.length-1) (by rw[Yk];exact GE b d);omega
theorem KK(c d:Rat)(p:List Rat):DP c (DP d p)=DP (d*c) p:=XA (JI _ _) (JI _ _) λx=>by rw[JJ,JJ,JJ];grind
theorem Gu(hp:Jd p=p):DP 1 p=p:=XA (JI _ _) hp λx=>by rw[JJ];grind
theorem Zu(c:Rat):DP c []=[]:=rfl
theorem Id(b:c≠0)(hp:Jd p=p)(a:p≠[]):DP c p≠[]:=λh=>by
 have:=Yf b hp;rw[h]at this;exact a (AM.1 this.symm)
theorem JG(hp:Jd p=p)(hq:Jd q=q)(a:p≠[])(b:q≠[]):(Jm p q).length=p.length+q.length-1:=Nw hp hq a b
theorem KL(h:p.length=0):p=[]:=AM.1 h
theorem LO{u v:List Rat}(hq:Jd q=q)(a:q≠[])(f:Jd u=u)(g:Jd v=v)(i:v.length<q.length)(h:∀x,ev p x=ev q x*ev u x+ev v x):u=Js p q/\v=JH p q:=by
 obtain⟨b,c,d,e⟩:=YO p q hq a;exact Rt hq a f d g e i c (λx=>by rw[<-h x,b x])
theorem KM(a:d≠0)(p q:List Rat)(hq:Jd q=q)(b:q≠[]):Js (DP c p) (DP d q)=DP (c/d) (Js p q)/\JH (DP c p) (DP d q)=DP c (JH p q):=by
 obtain⟨e,f,j,k⟩:=YO p q hq b;have h:=LO (p:=DP c p) (JI d q) (Id a hq b) (JI (c/d) (Js p q)) (JI c (JH p q)) (by
  rw[Yf a hq];exact Ck (X5 (JI _ _) λi g=>by rw[Yk,Yi g,CC]) f) (λx=>by
  rw[JJ,JJ,JJ,JJ,e x]
  have:d*(c/d)=c:=by rw[CI];exact Ap a
  grind)
 exact⟨h.1.symm,h.2.symm⟩
def P7:Nat->List Rat->List Rat->List Rat->List Rat->Prop
 |0,p,q,a,b=>p=a/\q=b
 |n+1,p,q,a,b=>∃c:Rat,q≠[]/\c≠0/\P7 n q (DP c (JH p q)) a b
def Eu(p q a b:List Rat):Prop:=∃n,P7 n p q a b
theorem Eu.base(p q:List Rat):Eu p q p q:=⟨0,rfl,rfl⟩
theorem Eu.step(p q:List Rat)(c:Rat)(a b:List Rat)(h:q≠[])(k:c≠0):Eu q (DP c (JH p q)) a b->Eu p q a b:=λ⟨n,e⟩=>⟨n+1,c,h,k,e⟩
theorem Eu.ind{d:∀p q a b:List Rat,Eu p q a b->Prop}(base:∀p q,d p q p q (.base p q))
(step:∀p q c a b (h:q≠[]) (k:c≠0) (e:Eu q (DP c (JH p q)) a b),d q (DP c (JH p q)) a b e->d p q a b (.step p q c a b h k e))
{p q a b:List Rat}(t:Eu p q a b):d p q a b t:=by
 obtain⟨n,e⟩:=t;induction n generalizing p q with
 |zero=>obtain⟨rfl,rfl⟩:=e;exact base _ _
 |succ n f=>obtain⟨c,h,k,e⟩:=e;exact step p q c a b h k ⟨n,e⟩ (f e)
theorem Eu.tail(h:Eu p q a b)(e:b≠[])(f:c≠0):Eu p q b (DP c (JH a b)):=by
 induction h using Eu.ind with
 |base p q=>exact .step p q c _ _ e f (.base _ _)
 |step p q d a b hq g _ i=>exact .step p q d _ _ hq g (i e)
theorem Xb(p q:List Rat):Jd (JH p q)=JH p q:=J3 _
theorem Yq(p q:List Rat):Jd (Js p q)=Js p q:=J3 _
theorem Eu.len(h:Eu p q a b):Jd q=q->b.length<=q.length:=by
 induction h using Eu.ind with
 |base p q=>exact λ_=>Aa _
 |step p q d a b hq f _ g=>
  intro c;have e:=g (JI _ _);rw[Yf f (Xb _ _)]at e;have:=(YO p q c hq).2.1;omega
theorem Zv(h:Eu p q a b):Jd p=p->Jd q=q->b≠[]->∀u v T:List Rat,Jd u=u->Jd v=v->Jd T=T->u.length+b.length<=q.length+1->v.length+b.length<=p.length+1->(u≠[]\/v≠[])->T.length<b.length->
 (∀x,ev T x=ev u x*ev p x+ev v x*ev q x)->∃c:Rat,c≠0/\T=DP c (JH a b):=by
 induction h using Eu.ind with
 |base p q=>
  intro hp hq g u v T i w m M lv f o n;have S:u.length<=1:=Y
  obtain⟨A,W,X,h4⟩:=YO p q hq g;match u,S,f with
  |[],_,f=>
   have l:v≠[]:=by
    rcases f with f|f
    . exact absurd rfl f
    . exact f
   have e:T=Jm v q:=XA m (JY _ _) λx=>by rw[Jg,n x];simp[ev];grind
   have h5:=JG w hq l g;have h6:0<v.length:=Af.2 l;rw[e]at o;omega
  |[c],_,_=>
   have hc:c≠0:=λe=>by
    have:=Jt i Z;simp[YL]at this;exact this e
   refine⟨c,hc,?_⟩;have N:∀x,ev (DP c p) x=ev q x*ev (DP (-1) v) x+ev T x:=λx=>by
    rw[JJ,JJ,n x];simp[ev];grind
   have h7:=(LO hq g (JI _ _) m o N).2;have D:=(KM (c:=c) (d:=1) DI p q hq g).2;rw[Gu hq]at D;rw[h7,D]
 |step p q d a b g hd hE K=>
  intro hp hq hb u v T i w m M lv f o n;obtain⟨A,W,X,h4⟩:=YO p q hq g;obtain⟨r,t⟩:=ex (DP d (JH p q));rw[t]at hE K;have s:Jd r=r:=by rw[<-t];exact JI _ _
  have U:b.length<=r.length:=hE.len s;have R:r≠[]:=λe=>by
   rw[e,Az]at U;omega
  have y:d*(1/d)=1:=by rw[CI];exact Ap hd
  have k:(1/d)≠0:=λe=>by rw[e,Rat.mul_zero]at y;exact absurd y DI
  have Q:∀x,ev p x=ev q x*ev (Js p q) x+ev r x*(1/d):=λx=>by rw[A x,<-t,JJ];grind
  have z:∀x,ev T x=ev (Xw (Jm u (Js p q)) v) x*ev q x+ev (DP (1/d) u) x*ev r x:=λx=>by
   rw[n x,Q x,YA,Jg,JJ];grind
  have ad:(DP (1/d) u).length+b.length<=q.length+1:=by rw[Yf k i];exact M
  refine K hq s hb (Xw (Jm u (Js p q)) v) (DP (1/d) u) T (IB _ _) (JI _ _) m ?_ ad ?_ o z
  . by_cases E:Xw (Jm u (Js p q)) v=[]
    . rw[E];simp;omega
    . have l1:=JG (IB _ _) hq E g;have e:Jm (Xw (Jm u (Js p q)) v) q=Yl T (Jm (DP (1/d) u) r):=XA (JY _ _) (Xq _ _) λx=>by rw[Jg,Y0,Jg,z x];grind
      have l2:=Zs T (Jm (DP (1/d) u) r);rw[<-e,l1]at l2;by_cases j:u=[]
      . have V:Jm (DP (1/d) u) r=[]:=by rw[j];rfl
        rw[V]at l2;simp at l2;omega
      . have l4:=JG (JI _ _) s (Id k i j) R;rw[Yf k i]at l4;omega
  . by_cases j:u=[]
    . left
      have l:v≠[]:=by
       rcases f with f|f
       . exact absurd j f
       . exact f
      have e:Xw (Jm u (Js p q)) v=v:=XA (IB _ _) w λx=>by rw[YA,Jg,j];simp[ev];grind
      rw[e];exact l
    . right;exact Id k i j
def Ln(K:Nat)(r:List Rat):Prop:=∃c:Rat,c≠0/\∀i,∃z:Int,Sm K z/\cf r i*c=(z:Rat)
theorem Zw(s t:Nat)(f:Nat->Int):Yp (s+t) f=Yp s f+Yp t (λj=>f (s+j)):=by
 induction t with
 |zero=>simp[Yp]
 |succ t a=>rw[<-Fx,Yp,Yp,a];omega
theorem NH{f:Nat->Rat}(h:∀k,k<n->f k=(g k:Rat)):Dk n f=((Yp n g:Int):Rat):=by
 induction n with
 |zero=>rfl
 |succ n a=>rw[Dk,Yp,a λk b=>h k Y,h n Y,Rat.intCast_add]
theorem NI(p q:List Rat)(h:p.length<=n)(k:Nat):cf (Jm p q) k=Dk n (λi=>if i<=k then cf p i*cf q (k-i)else 0):=by
 unfold Jm;rw[Yd,Iu,<-Rp p q h];rfl
theorem Ln.sc{r:List Rat}(h:Ln K r)(j:d≠0):Ln K (DP d r):=by
 obtain⟨c,g,k⟩:=h;have e:d*(1/d)=1:=by rw[CI];exact Ap j
 refine⟨(1/d)*c,GE (λa=>by rw[a,Rat.mul_zero]at e;exact absurd e DI) g,λi=>?_⟩;obtain⟨z,b,f⟩:=k i;exact⟨z,b,by rw[Yk,<-f];grind⟩
theorem Ln.mono{K L:Nat}{r:List Rat}(h:Ln K r)(e:K<=L):Ln L r:=by
 obtain⟨c,d,f⟩:=h;exact⟨c,d,λi=>by obtain⟨z,a,b⟩:=f i;exact⟨z,a.mono e,b⟩⟩
theorem Zx{N A B:Nat}(b:A=O^K)(i:N+1<=1000000000)(c:B=(2*(N+1)*A+1)^N):(N+1)*(A*B)<O^((K+1)*(N+1)):=by
 have d:1<=A:=by rw[b];exact CU Hh
 have f:2*(N+1)*A+1<=O^(K+1):=by
  have a:(2*(N+1)+1)*A<=O*A:=Ah _ uo;rw[A4,<-b,As A];rw[AD,CA]at a;exact An (Nat.add_le_add_left d _) a
 have g:(2*(N+1)*A+1)^(N+1)<=O^((K+1)*(N+1)):=by rw[Nat.pow_mul];exact Fe f _
 refine AU ?_ g;have e:1<=B:=by rw[c];exact CU Y
 rw[A4,<-c,<-AJ,As B];refine(Nat.mul_lt_mul_right e).2 ?_
 have:(N+1)*A<=2*(N+1)*A:=Ah _ Y
 omega
theorem P8(hp:Jd p=p)(hq:Jd q=q)(h1:Ln K p)(h2:Ln K q)(hl:p.length+q.length<=1000000000)(hle:q.length<=p.length)(h:Eu p q a b)(U:b≠[]):Ln ((K+1)*(p.length+q.length)) (JH a b):=by
 obtain⟨cp,ak,ai⟩:=h1;obtain⟨cq,am,aj⟩:=h2;obtain⟨α,hα⟩:=Classical.axiomOfChoice ai;obtain⟨β,hβ⟩:=Classical.axiomOfChoice aj;have aw:=h.len hq;have aq:0<b.length:=Af.2 U;have Q:q≠[]:=λe=>by
  have d:q.length=0:=by rw[e];rfl
  omega
 have Qk:p≠[]:=λe=>by
  have d:p.length=0:=by rw[e];rfl
  omega
 obtain⟨s,hs⟩:=ex (q.length+1-b.length);obtain⟨t,ht⟩:=ex (p.length+1-b.length);obtain⟨N,hN⟩:=ex (s+t-1);obtain⟨A,hA⟩:=ex (O^K);have ae:∀i,(α i).natAbs<=A:=λi=>by have:=(hα i).1;unfold Sm at this;omega
 have af:∀i,(β i).natAbs<=A:=λi=>by have:=(hβ i).1;unfold Sm at this;omega
 have M:s+t=N+1:=Y
 obtain⟨z,⟨m,ay,ad⟩,E,ap⟩:=Zq N A (λk j=>if j<s then(if j<=b.length-1+k then α (b.length-1+k-j)else 0)else(if j-s<=b.length-1+k then β (b.length-1+k-(j-s))else 0)) (λk j=>by
  split
  . split
    . exact ae _
    . simp
  . split
    . exact af _
    . simp)
 obtain⟨B,S⟩:=ex ((2*(N+1)*A+1)^N);rw[S]at E;obtain⟨u,W⟩:=ex (Jd ((List.range s).map λj=>(z j:Rat)*cp));obtain⟨v,hv⟩:=ex (Jd ((List.range t).map λj=>(z (s+j):Rat)*cq));have r:Jd u=u:=by rw[<-W];exact J3 _
 have n:Jd v=v:=by rw[<-hv];exact J3 _
 have o:∀j,cf u j=if j<s then(z j:Rat)*cp else 0:=λj=>by rw[<-W,Yd,Lg]
 have w:∀j,cf v j=if j<t then(z (s+j):Rat)*cq else 0:=λj=>by rw[<-hv,Yd,Lg]
 have Qg:u.length<=s:=X5 r λi V=>by rw[o,BB Y]
 have Ql:v.length<=t:=X5 n λi V=>by rw[w,BB Y]
 obtain⟨g,D⟩:∃g:Nat->Int,∀i,g i=Yp s (λj=>if j<=i then z j*α (i-j)else 0)+Yp t (λj=>if j<=i then z (s+j)*β (i-j)else 0):=⟨_,λ_=>rfl⟩;have T:∀i,cf (Xw (Jm u p) (Jm v q)) i=(g i:Rat):=λi=>by
  rw[Rx,NI u p Qg,NI v q Ql,D,Rat.intCast_add];congr 1
  . refine NH λj f=>?_;split
    . rw[o,BH f,AC,<-(hα (i-j)).2];grind
    . rfl
  . refine NH λj f=>?_;split
    . rw[w,BH f,AC,<-(hβ (i-j)).2];grind
    . rfl
 have Qj:∀i,(g i).natAbs<=(N+1)*(A*B):=λi=>by
  have d:(Yp s λj=>if j<=i then z j*α (i-j)else 0).natAbs<=s*(A*B):=NG λj _=>by
   split
   . rw[CF,As];exact Cq (ae _) (E _)
   . simp
  have R:(Yp t λj=>if j<=i then z (s+j)*β (i-j)else 0).natAbs<=t*(A*B):=NG λj _=>by
   split
   . rw[CF,As];exact Cq (af _) (E _)
   . simp
  have e3:=FK (Yp s λj=>if j<=i then z j*α (i-j)else 0) (Yp t λj=>if j<=i then z (s+j)*β (i-j)else 0);rw[<-D i]at e3;rw[<-M,AD];omega
 have Qm:(Xw (Jm u p) (Jm v q)).length<b.length:=by
  have:(Xw (Jm u p) (Jm v q)).length<=b.length-1:=X5 (IB _ _) λi V=>by
   by_cases ax:i<b.length-1+N
   . rw[T];have e:=ap (i-(b.length-1)) Y;rw[<-M,Zw]at e;have d:Yp s (λj=>if j<=i then z j*α (i-j)else 0)=Yp s (λj=>(if j<s then(if j<=b.length-1+(i-(b.length-1))then α (b.length-1+(i-(b.length-1))-j)else 0)else(if j-s<=b.length-1+(i-(b.length-1))then β (b.length-1+(i-(b.length-1))-(j-s))else 0))*z j):=P6 λj f=>by
      rw[BH f,show b.length-1+(i-(b.length-1))=i from by omega];split
      . exact CX _ _
      . simp
     have R:Yp t (λj=>if j<=i then z (s+j)*β (i-j)else 0)=Yp t (λj=>(if s+j<s then(if s+j<=b.length-1+(i-(b.length-1))then α (b.length-1+(i-(b.length-1))-(s+j))else 0)else(if s+j-s<=b.length-1+(i-(b.length-1))then β (b.length-1+(i-(b.length-1))-(s+j-s))else 0))*z (s+j)):=P6 λj f=>by
      rw[BB (show ¬s+j<s by omega),show b.length-1+(i-(b.length-1))=i from by omega,show s+j-s=j from by omega];split
      . exact CX _ _
      . simp
     rw[D,d,R,e];rfl
   . refine Yi ?_;have l1:=Rz (Jm u p) (Jm v q);by_cases X:u=[]
     . have y:Jm u p=[]:=by rw[X];rfl
       by_cases l:v=[]
       . have d:Jm v q=[]:=by rw[l];rfl
         rw[y,d];exact AV _
       . have l3:=JG n hq l Q;rw[y,Az]at l1;rw[y];omega
     . have l2:=JG r hp X Qk;by_cases l:v=[]
       . have d:Jm v q=[]:=by rw[l];rfl
         rw[d,Az]at l1;rw[d];omega
       . have l3:=JG n hq l Q;omega
  omega
 have Qh:u≠[]\/v≠[]:=by
  by_cases an:m<s
  . left
    intro e;have:=o m;rw[e,YG,BH an]at this;exact GE (by exact_mod_cast ad) ak this.symm
  . right
    intro e;have:=w (m-s);rw[e,YG,BH Y,show s+(m-s)=m from by omega]at this;exact GE (by exact_mod_cast ad) am this.symm
 obtain⟨c,hc,ah⟩:=Zv h hp hq U u v _ r n (IB _ _) Y Y Qh Qm (λx=>by rw[YA,Jg,Jg]);refine⟨c,hc,λi=>⟨g i,?_,by rw[<-Yk,<-ah,T]⟩⟩;have Qi:=Zx hA.symm Y S.symm;have h5:(K+1)*(N+1)<=(K+1)*(p.length+q.length):=Ao _ Y;unfold Sm;exact Ck (Qj i) (AU Qi (AE Hh h5))
theorem Zy(hp:Jd p=p)(hq:Jd q=q)(h:p.length<q.length):JH p q=p:=
 ((LO (p:=p) hq (λe=>by rw[e]at h;simp at h) (u:=[]) (v:=p) rfl hp h λx=>by simp[ev];grind).2).symm
theorem Zz(hp:Jd p=p)(hq:Jd q=q)(d:Ln K p)(e:Ln K q)(hl:p.length+q.length<=1000000000)(h:Eu p q a b)(f:b≠[]):Ln ((K+1)*(p.length+q.length)) (JH a b):=by
 by_cases hle:q.length<=p.length
 . exact P8 hp hq d e hl hle h f
 . have i:=Zy hp hq Y;match h with
   |⟨0,k,l⟩=>subst k;subst l;rw[i];exact d.mono (by
    have:(K+1)*1<=(K+1)*(p.length+q.length):=Ao _ Y
    omega)
   |⟨n+1,c,o,g,hE⟩=>
    have hE:Eu q (DP c (JH p q)) a b:=⟨n,hE⟩;rw[i]at hE;have j:=Yf g hp;have m:=P8 hq (JI c p) e (d.sc g) Y Y hE f;rwa[j,FB q.length]at m
theorem Ie(a:c≠0):1/c≠0:=λe=>by
 have h:(1/c)*c=1:=Ap a;rw[e,CC]at h;exact absurd h DI
def Jz(p:List Rat):List Rat:=DP (1/cf p (p.length-1)) p
theorem Z0:Jz []=[]:=rfl
theorem Xe(p:List Rat):Jd (Jz p)=Jz p:=JI _ _
theorem KN(b:c≠0)(hp:Jd p=p):Jz (DP c p)=Jz p:=by
 by_cases a:p=[]
 . subst a;rfl
 . unfold Jz;rw[Yf b hp,Yk,KK];have hl:=Jt hp a;congr 1;obtain⟨l,e⟩:=ex (cf p (p.length-1));rw[e]at hl ⊢;have d:(1/(l*c))*(l*c)=1:=Ap (GE hl b);grind
theorem Ig(hp:Jd p=p)(a:p≠[]):Jz p≠[]:=Id (Ie (Jt hp a)) hp a
theorem Z1(hp:Jd p=p):(Jz p).length=p.length:=by
 by_cases a:p=[]
 . subst a;rfl
 . exact Yf (Ie (Jt hp a)) hp
theorem NJ(hp:Jd p=p)(a:p≠[]):cf (Jz p) ((Jz p).length-1)=1:=by
 rw[Z1 hp];unfold Jz;rw[Yk,CI];exact Ap (Jt hp a)
theorem Ih(hp:Jd p=p):Jz (Jz p)=Jz p:=by
 by_cases a:p=[]
 . subst a;rfl
 . exact KN (Ie (Jt hp a)) hp
def D4:Nat->List Rat->List Rat->List Rat
 |0,p,_=>Jz p
 |n+1,p,q=>if q=[]then Jz p else D4 n q (JH p q)
def Jr(p q:List Rat):List Rat:=D4 q.length p q
theorem Z2:∀(n m:Nat) (p q:List Rat),Jd q=q->q.length<=n->q.length<=m->D4 n p q=D4 m p q:=by
 intro n;induction n with
 |zero=>
  intro m p q _ h _;have hq:q=[]:=KL Y;subst hq;cases m with
  |zero=>rfl
  |succ m=>simp[D4]
 |succ n b=>
  intro m p q hq h c;by_cases a:q=[]
  . subst a;cases m with
    |zero=>simp[D4]
    |succ m=>simp[D4]
  . have hl:0<q.length:=Af.2 a;cases m with
    |zero=>omega
    |succ m=>
     have d:=(YO p q hq a).2.1;simp only[D4,BB a];exact b m q (JH p q) (Xb _ _) Y Y
theorem P9(p:List Rat):Jr p []=Jz p:=rfl
theorem Z3(hq:Jd q=q)(a:q≠[]):Jr p q=Jr q (JH p q):=by
 have c:=(YO p q hq a).2.1;have hl:0<q.length:=Af.2 a;unfold Jr;obtain⟨n,b⟩:∃n,q.length=n+1:=⟨q.length-1,Y⟩;rw[b,D4,BB a];exact Z2 _ _ _ _ (Xb _ _) Y (Aa _)
theorem Z4:∀(n:Nat) (c d:Rat) (p q:List Rat),c≠0->d≠0->Jd p=p->Jd q=q->D4 n (DP c p) (DP d q)=D4 n p q:=by
 intro n;induction n with
 |zero=>intro c d p q b _ hp _;exact KN b hp
 |succ n f=>
  intro c d p q b e hp hq;by_cases a:q=[]
  . subst a;simp only[D4,Zu,BH];exact KN b hp
  . simp only[D4,BB a,BB (Id e hq a)];rw[(KM e p q hq a).2];exact f d c q (JH p q) e b hq (Xb _ _)
theorem NK(b:c≠0)(a:d≠0)(hp:Jd p=p)(hq:Jd q=q):Jr (DP c p) (DP d q)=Jr p q:=by
 unfold Jr;rw[Yf a hq];exact Z4 _ _ _ _ _ b a hp hq
theorem Eu.gcd(h:Eu p q a b):Jd p=p->Jd q=q->Jr p q=Jr a b:=by
 induction h using Eu.ind with
 |base p q=>exact λ_ _=>rfl
 |step p q c a b f e _ g=>
  intro hp hq;rw[<-g hq (JI _ _),Z3 hq f];have d:=NK (c:=1) DI e hq (Xb p q);rw[Gu hq]at d;exact d.symm
theorem Z6:∀(n:Nat) (p q:List Rat),Jd (D4 n p q)=D4 n p q:=by
 intro n;induction n with
 |zero=>intro p q;exact Xe _
 |succ n a=>
  intro p q;rw[D4];split
  . exact Xe _
  . exact a _ _
theorem JO(p q:List Rat):Jd (Jr p q)=Jr p q:=Z6 _ _ _
theorem GX(c:Rat):c*(c.den:Rat)=(c.num:Rat):=by
 have d:((c.den:Int):Rat)≠0:=by exact_mod_cast c.den_nz
 have a:=CZ c;rw[CW]at a;have b:(c.num:Rat)/((c.den:Int):Rat)*((c.den:Int):Rat)=c.num:=Ap d;rw[a,AK]at b;exact b
theorem dvd_one{a b c:Int}(h:a∣b*c)(e:Nat.gcd a.natAbs c.natAbs=1):a∣b:=by
 have d:=FI.2 h;rw[CF]at d;exact FI.1 (Nat.Coprime.dvd_of_dvd_mul_right e d)
theorem Z7{n:Int}(h:c*(D:Rat)=(n:Rat)):(c.den:Int)∣D/\c.num*D=n*c.den:=by
 have b:c*(c.den:Rat)=(c.num:Rat):=GX c;have d:((c.num*D:Int):Rat)=((n*(c.den:Int):Int):Rat):=by
  rw[AC,AC,<-b,<-h];show c*(c.den:Rat)*(D:Rat)=c*(D:Rat)*((c.den:Int):Rat);rw[AK];grind
 have a:c.num*D=n*c.den:=Rat.intCast_inj.1 d;refine⟨?_,a⟩;have e:(c.den:Int)∣D*c.num:=⟨n,by rw[CX D,a,CX]⟩;refine dvd_one e ?_;show Nat.gcd (c.den:Int).natAbs c.num.natAbs=1;rw[AY,C2];exact c.reduced
theorem Z8{L G:Int}(V:∀i,((cf p i).den:Int)∣L)(W:∀u:Int,(∀i,((cf p i).den:Int)∣u)->L∣u)(T:∀i,G∣(cf p i).num)(U:∀v:Int,(∀i,v∣(cf p i).num)->v∣G)(s:G≠0)(h:Ln K p):
 ∀i,∃z:Int,Sm K z/\cf p i*((L:Rat)/(G:Rat))=(z:Rat):=by
 obtain⟨c,X,hz⟩:=h;have E:c.num≠0:=λe=>X (FF.1 e);have A:(c.den:Int)≠0:=by have:=c.den_nz;omega
 have k:∀i,∃z:Int,Sm K z/\(cf p i).num*c.num=z*((cf p i).den*c.den):=λi=>by
  obtain⟨z,l,n⟩:=hz i;refine⟨z,l,?_⟩;have N:c*(c.den:Rat)=(c.num:Rat):=GX c;have a:cf p i*((cf p i).den:Rat)=((cf p i).num:Rat):=GX _;have Q:(((cf p i).num*c.num:Int):Rat)=((z*(((cf p i).den:Int)*(c.den:Int)):Int):Rat):=by
   rw[AC,AC,AC,AK,AK,<-N,<-a,<-n];grind
  exact Rat.intCast_inj.1 Q
 have g:L∣c.num:=W _ λi=>by
  obtain⟨z,_,e⟩:=k i;have b:((cf p i).den:Int)∣(cf p i).num*c.num:=⟨z*c.den,by rw[e,Int.mul_left_comm]⟩;rw[CX]at b;refine dvd_one b ?_;show Nat.gcd ((cf p i).den:Int).natAbs (cf p i).num.natAbs=1;rw[AY,C2];exact(cf p i).reduced
 have j:(c.den:Int)∣G:=U _ λi=>by
  obtain⟨z,_,e⟩:=k i;have b:(c.den:Int)∣(cf p i).num*c.num:=⟨z*(cf p i).den,by rw[e,<-Fy,CX]⟩;refine dvd_one b ?_;show Nat.gcd (c.den:Int).natAbs c.num.natAbs=1;rw[AY,C2];exact c.reduced
 obtain⟨u,g⟩:=g;obtain⟨v,j⟩:=j;have M:u≠0:=λe=>E (by rw[g,e,Int.mul_zero]);have x:v≠0:=λe=>s (by rw[j,e,Int.mul_zero]);intro i;obtain⟨e,t⟩:=V i;obtain⟨m,w⟩:=T i;obtain⟨z,l,n⟩:=k i;have hd:((cf p i).den:Int)≠0:=by have:=(cf p i).den_nz;omega
 have D:z=m*e*(u*v):=by
  have R:z*(((cf p i).den:Int)*c.den)=m*e*(u*v)*(((cf p i).den:Int)*c.den):=by
   rw[<-n,w,g,j,t];generalize ((cf p i).den:Int)=d;generalize (c.den:Int)=f;grind
  exact Int.eq_of_mul_eq_mul_right (CJ hd A) R
 refine⟨m*e,l.le ?_,?_⟩
 . rw[D,CF (m*e)]
   have:0<(u*v).natAbs:=Int.natAbs_pos.2 (CJ M x)
   exact Cf _ this
 . have q:(G:Rat)≠0:=by exact_mod_cast s
   have a:cf p i*((cf p i).den:Rat)=((cf p i).num:Rat):=GX _;rw[w,AC]at a;have y:(L:Rat)=((cf p i).den:Rat)*(e:Rat):=by rw[t,AC,AK]
   have o:(L:Rat)/(G:Rat)*(G:Rat)=L:=Ap q;have S:(cf p i*((L:Rat)/(G:Rat))-((m*e:Int):Rat))*(G:Rat)=0:=by
    rw[AC];generalize (L:Rat)/(G:Rat)=f at o ⊢;rw[y]at o;generalize ((cf p i).den:Rat)=d at a o;grind
   rcases Cj.1 S with r|r
   . grind
   . exact absurd r q
def YV(p:List Rat):Nat->Nat
 |0=>1
 |n+1=>Nat.lcm (YV p n) (cf p n).den
def YI(p:List Rat):Nat->Nat
 |0=>0
 |n+1=>Nat.gcd (YI p n) (cf p n).num.natAbs
theorem QA(p:List Rat):∀n,0<YV p n:=by
 intro n;induction n with
 |zero=>exact Nat.one_pos
 |succ n a=>exact Nat.lcm_pos a (cf p n).den_pos
theorem NL(p:List Rat):∀n i,i<n->(cf p i).den∣YV p n:=by
 intro n;induction n with
 |zero=>intro i h;omega
 |succ n a=>
  intro i h;rw[YV];by_cases e:i=n
  . subst e;exact Nat.dvd_lcm_right _ _
  . exact Nat.dvd_trans (a i Y) (Nat.dvd_lcm_left _ _)
theorem NM(p:List Rat)(u:Nat)(h:∀i,(cf p i).den∣u):∀n,YV p n∣u:=by
 intro n;induction n with
 |zero=>exact Nat.one_dvd _
 |succ n a=>exact Nat.lcm_dvd a (h n)
theorem NN(p:List Rat):∀n i,i<n->YI p n∣(cf p i).num.natAbs:=by
 intro n;induction n with
 |zero=>intro i h;omega
 |succ n a=>
  intro i h;rw[YI];by_cases e:i=n
  . subst e;exact CV _ _
  . exact Nat.dvd_trans (Fk _ _) (a i Y)
theorem QB(p:List Rat)(v:Nat)(h:∀i,v∣(cf p i).num.natAbs):∀n,v∣YI p n:=by
 intro n;induction n with
 |zero=>exact Nat.dvd_zero _
 |succ n a=>exact Nat.dvd_gcd a (h n)
theorem QC(hD:D≠0)(h:CD D K c):∃n:Int,Sm K n/\c*(D:Rat)=(n:Rat):=by
 obtain⟨n,rfl,h⟩:=h;refine⟨n,h,?_⟩;have a:(D:Rat)≠0:=by exact_mod_cast hD
 rw[CW];exact Ap a
theorem LP{n:Int}(hD:D≠0)(b:Sm K n)(h:c*(D:Rat)=(n:Rat)):CD D K c:=by
 refine⟨n,?_,b⟩;have a:(D:Rat)≠0:=by exact_mod_cast hD
 rw[CW,<-h];exact(Rat.mul_div_cancel a).symm
theorem QD(hD:D≠0)(a:Sm K D)(h:D8 D K p)(n:Nat):Sm K (YV p n:Int):=by
 refine a.le ?_;rw[AY];refine Nat.le_of_dvd (Int.natAbs_pos.2 hD) (NM p _ (λi=>?_) n);obtain⟨z,_,e⟩:=QC hD (h i);have:=(Z7 e).1;exact CM.1 this
theorem QE(h:∀i,Sm K (cf p i).num):∀n,Sm K (YI p n:Int):=by
 intro n;induction n with
 |zero=>exact Sm.zero K
 |succ n a=>exact Sm.gcd a (h n)
theorem D8.ln(hD:D≠0)(h:D8 D K p):Ln K p:=
 ⟨(D:Rat),by exact_mod_cast hD,λi=>QC hD (h i)⟩
theorem KO(hp:Jd p=p)(a:p≠[]):YI p p.length≠0:=λe=>by
 have hl:0<p.length:=Af.2 a;have b:=NN p p.length (p.length-1) Y;rw[e]at b;have c:(cf p (p.length-1)).num.natAbs=0:=Nat.zero_dvd.1 b;exact Jt hp a (FF.1 (Int.natAbs_eq_zero.1 c))
def JE(p:List Rat):List Rat:=DP ((YV p p.length:Rat)/(YI p p.length:Rat)) p
theorem Z9(hp:Jd p=p)(a:p≠[]):0<(YV p p.length:Rat)/(YI p p.length:Rat):=by
 have b:(0:Rat)<(YV p p.length:Rat):=by exact_mod_cast QA p _
 have c:(0:Rat)<(YI p p.length:Rat):=by exact_mod_cast Nat.pos_of_ne_zero (KO hp a)
 rw[Fi];exact Rat.mul_pos b (Rat.inv_pos.2 c)
theorem QF(hp:Jd p=p)(d:p≠[])(h:Ln K p):∀i,∃z:Int,Sm K z/\cf (JE p) i=(z:Rat):=by
 have c:∀i,p.length<=i->cf p i=0:=λi a=>Yi a;have e:=Z8 (p:=p) (L:=(YV p p.length:Int)) (G:=(YI p p.length:Int)) (λi=>by
  by_cases a:i<p.length
  . exact Int.natCast_dvd_natCast.2 (NL p _ i a)
  . rw[c i Y];exact Int.one_dvd _) (λu g=>by
  refine CM.2 (NM p _ (λi=>CM.1 (g i)) _)) (λi=>by
  by_cases a:i<p.length
  . exact CM.2 (NN p _ i a)
  . rw[c i Y];exact Int.dvd_zero _) (λv j=>by
  have:v.natAbs∣YI p p.length:=QB p _ (λi=>FI.2 (j i)) _
  exact Int.natAbs_dvd.1 (Int.natCast_dvd_natCast.2 this)) (by have:=KO hp d;omega) h
 intro i;obtain⟨z,f,b⟩:=e i;refine⟨z,f,?_⟩;unfold JE;rw[Yk];rw[AK,AK]at b;exact b

