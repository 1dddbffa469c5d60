import Derived.Test.YteldjhhjnchdeaaGreatDoorW42
open Go.Value renaming slice->B,pointer->F,int->H,bool->L,agg->P
open Go renaming undef->C
open Go.Obj renaming cells->G
open Go.IntKind renaming i64->I
set_option maxRecDepth 100000
set_option maxHeartbeats 16000000
namespace Go.Proofs.YteldjhhjnchdeaaGreatDoor
namespace M3
open Go.RowKit Go.Shelf
attribute [local go_sem] Oper.semAt_some
def I9(w V:World)(b c d:Nat)(rs a:Value)(R:List Rat):Prop:=
 Boxed V (w.heap.size+1+1) 25 (B none 0 0)/\Boxed V (w.heap.size+1+1+1) 25 (B none 0 0)/\Boxed V b 23 rs/\Boxed V c 23 a/\Boxed V d 23 a/\RowK true V rs R/\Bl w V
variable{S ps:List Rat}{n:Nat}{row:Option Nat}{V V':World}
theorem boxed_own(a:V.grownBy V' row)(b:∀r,row=some r->∃o:Obj,V.heap[r]?=some o/\o.isCells=false){B:Nat}{t:TypeId}{v:Value}(h:Boxed V B t v):Boxed V' B t v:=Y9 a b (show Bx V B t #[v]from h)
theorem I9.own{w:World}{c d f:Nat}{rs i:Value}{R:List Rat}(h:I9 w V c d f rs i R)(a:V.grownBy V' row)(g:∀x,row=some x->w.heap.size<=x/\∃o:Obj,V.heap[x]?=some o/\o.isCells=false):I9 w V' c d f rs i R:=by
 have b:∀r,row=some r->∃o:Obj,V.heap[r]?=some o/\o.isCells=false:=λr e=>(g r e).2;exact⟨boxed_own a b h.1,boxed_own a b h.2.1,boxed_own a b h.2.2.1,boxed_own a b h.2.2.2.1,boxed_own a b h.2.2.2.2.1,Hr a b h.2.2.2.2.2.1,h.2.2.2.2.2.2.grown a h.2.2.2.2.2.2.size λk e=>(g k e).1⟩
theorem row_zero(V:World)(a:Option Addr):RowK true V (B a 0 0) []:=⟨a,0,rfl,Aa _,Z,J,Or.inl rfl⟩
theorem ZT(x:Value)(ps:List Rat)(y:Value)(w:World)(t:Jc w x ps)(m:Jc w y []):
 Calls Tryz.prog 22 #[x,y] w λe n=>e=.returned (.tuple #[P #[B none 0 0],P #[B none 0 0],L false])/\Bl w n:=by
 obtain⟨f,la,g,rfl⟩:=t.form;obtain⟨b,lb,c,rfl⟩:=m.form;have j:Mem w _ _:=((((Mem.nil w).push (.cell 25 (B f la g)) (cs:=#[B f la g]) ⟨rfl,rfl⟩).push (.cell 25 (B b lb c)) (cs:=#[B b lb c]) ⟨rfl,rfl⟩).push (.cell 25 (B none 0 0)) (cs:=#[B none 0 0]) ⟨rfl,rfl⟩).push (.cell 25 (B none 0 0)) (cs:=#[B none 0 0]) ⟨rfl,rfl⟩;simp only[BA]at j;obtain⟨d,l⟩:=ex ((((w.alloc (G #[B f la g] 25)).alloc (G #[B b lb c] 25)).alloc (G #[B none 0 0] 25)).alloc (G #[B none 0 0] 25));have k:Mem w d [some (w.heap.size,.cell 25 (B f la g)),some (w.heap.size+1,.cell 25 (B b lb c)),some (w.heap.size+1+1,.cell 25 (B none 0 0)),some (w.heap.size+1+1+1,.cell 25 (B none 0 0))]:=by rw[<-l];exact j
 obtain⟨q,r,A⟩:=Dh (show Calls Tryz.prog 20 #[P #[B b lb c]] d λe n=>e=.returned (H I (-1))/\Bl d n from Yb (P #[B b lb c]) [] d (m.below k.2.2)) k l;clear t m j k l;go_enter Tryz.func22,Tryz.ntmps22
 go_upto_region 1 with fail
 rw[A.o];have c1:=(r.o.cell (i:=1) rfl).1.cell;go_wp2_with(go_at_call 20;refine q.o.mono ?_;clear q;rintro e o ⟨rfl,u⟩;have s:Bl o (o.alloc (G #[H I (-1)] 3)):=Ba o _;have a:=(r.o.below u).below s;have D:=(a.cell (i:=2) rfl).1.cell;have f2:=(a.cell (i:=2) rfl).1.frozen;have E:=(a.cell (i:=3) rfl).1.cell;have f3:=(a.cell (i:=3) rfl).1.frozen;have z:=O a.2.2;clear s a u)
 refine BB (v:=.tuple #[P #[B none 0 0],P #[B none 0 0],L false]) (by simp[results,Tryz.results22,go_sem,D,E]) rfl ⟨rfl,?_⟩;exact((z.o.setCell (p:=⟨w.heap.size+1+1,0,none⟩) (by show w.heap.size<=w.heap.size+1+1;omega) _).setCell (p:=⟨w.heap.size+1+1+1,0,none⟩) (by show w.heap.size<=w.heap.size+1+1+1;omega) _)
theorem ZU(N A:Option Addr)(la Q lb M n:Nat)(ps qs:List Rat)(w:World)(ha:RowK true w (B N la Q) ps)(hb:RowK true w (B A lb M) qs)(hs:DY ps)(bg:Jd ps=ps)(hn:lb=n+1)(hm:la<=n):
 Calls Tryz.prog 22 #[P #[B N la Q],P #[B A lb M]] w λe w'=>∃u v,e=.returned (.tuple #[u,v,L true])/\Jc w' u []/\Jc w' v ps/\Bl w w':=by
 have Qz:Tryz.prog.follows .mixedOrders=true:=by kernel_rfl
 obtain⟨bf,bh,bj,bz,_⟩:=ha.forms;obtain⟨bt,bi,bm,ce,_⟩:=hb.forms;have M0:Mem w _ _:=((((Mem.nil w).push (.cell 25 (B N la Q)) (cs:=#[B N la Q]) ⟨rfl,rfl⟩).push (.cell 25 (B A lb M)) (cs:=#[B A lb M]) ⟨rfl,rfl⟩).push (.cell 25 (B none 0 0)) (cs:=#[B none 0 0]) ⟨rfl,rfl⟩).push (.cell 25 (B none 0 0)) (cs:=#[B none 0 0]) ⟨rfl,rfl⟩;simp only[BA]at M0;obtain⟨V0,ap⟩:=ex ((((w.alloc (G #[B N la Q] 25)).alloc (G #[B A lb M] 25)).alloc (G #[B none 0 0] 25)).alloc (G #[B none 0 0] 25));have M1:Mem w V0 [some (w.heap.size,.cell 25 (B N la Q)),some (w.heap.size+1,.cell 25 (B A lb M)),some (w.heap.size+1+1,.cell 25 (B none 0 0)),some (w.heap.size+1+1+1,.cell 25 (B none 0 0))]:=by rw[<-ap];exact M0
 have Qw:=O M1;have Qv:=O (show Calls Tryz.prog 20 #[P #[B A lb M]] V0 λe w'=>e=.returned (H I (n:Int))/\Bl V0 w' by
  have h:=Yb (P #[B A lb M]) qs V0 ⟨_,rfl,hb.below M1.2.2⟩;rwa[show((qs.length:Int)-1)=(n:Int)by omega]at h)
 have Qs:=O λ(V:World) (h:Bl w V)=>Pe (B N la Q) ps V (ha.below h);have ck:∀W:World,(Instr.makeSlice 23 (H I 0) (H I 0)).run Tryz.prog W=.ok (B (some ⟨W.heap.size,0,none⟩) 0 0) (W.alloc (G (J3 0) 65)):=λW=>IG 0 Z W;obtain⟨x,hx⟩:=ex ((la:Int)-(n:Int):Int);have cl:IntKind.i64.wrap x=x:=by rw[BZ];omega
 have ci:max (0:Int) x=0:=Z
 obtain⟨Ua,Uf,Ud,Qu⟩:=ED hs bg bf ap;clear ha hb bf bt bh bj bi bm hs bg hn hm M0 M1 ap;refine(BG (n:=3)).1 ?_;refine BT Tryz.func22 rfl trivial ?_ rfl;simp only[Tryz.ntmps22,Ar,Ao,AF,Nat.reduceAdd,Nat.reduceSub,AA,AB,AR,AH,At,AE];gi_wp2_with fail
 rw[Qu.o];refine⟨trivial,?_⟩;refine((BG (n:=_)).2 Qv.o).mono ?_;rintro e w1 ⟨rfl,ba⟩;have Qm:Bl w1 (w1.alloc (G #[H I (n:Int)] 3)):=Ba w1 _;have Qi:=(Qw.o.below ba).below Qm;have h4:=BM w1 3 (H I (n:Int));have c0:=(Qi.cell (i:=0) rfl).1.cell;obtain⟨Qe,Qk,H4⟩:=Dh (Qs.o _ Qi.2.2) Qi h4;clear Qm Qi h4 ba Qv Qu Qw Qs;gi_wp2_with fail
 obtain⟨V1,aq⟩:=ex (w1.alloc (G #[H I (n:Int)] 3));obtain⟨B4,ak⟩:=ex (w1.heap.size);rw[aq]at Qe Qk H4 c0;rw[ak]at H4;rw[aq,ak];clear aq ak;refine⟨trivial,?_⟩;refine((BG (n:=_)).2 Qe.o).mono ?_;rintro e d ⟨u2,rfl,ay,_,ae,_⟩;obtain⟨g,rc,e9,_⟩:=id ay;rw[<-Ud.o]at e9;subst e9;have Qn:=Qk.o.below ae;have h4:Boxed d B4 3 (H I (n:Int)):=(ae.block B4 H4.o.lt).trans H4.o;have Ql:Bl d (d.alloc (G #[B g la rc] 23)):=Ba d _;have Qo:=Qn.push (.cell 23 (B g la rc)) (cs:=#[B g la rc]) ⟨rfl,rfl⟩;have h5:Boxed (d.alloc (G #[B g la rc] 23)) B4 3 (H I (n:Int)):=(Ql.block B4 h4.lt).trans h4;have c4:=h5.cell;have Qp:=O Qo;have Qt:=O (ay.below Ql);clear ay ae Qn h4 Ql Qo h5 Qk H4 Qe c0;gi_wp2_with fail
 refine⟨trivial,?_⟩;refine(Kw Fence.wide _ trivial rfl _ _ _ _).mono ?_;rintro e w3 ⟨rfl,rfl⟩;have T:=((Qp.o.push (.rats (List.replicate 0 0)) (I8 _ 0)).push (.cell 23 (B (some ⟨d.heap.size+1,0,none⟩) 0 0)) (cs:=#[B (some ⟨d.heap.size+1,0,none⟩) 0 0]) ⟨rfl,rfl⟩).push (.cell 23 (B (some ⟨d.heap.size+1,0,none⟩) 0 0)) (cs:=#[B (some ⟨d.heap.size+1,0,none⟩) 0 0]) ⟨rfl,rfl⟩;simp only[BA]at T;have Qq:Below (d.alloc (G #[B g la rc] 23)).heap.size (d.alloc (G #[B g la rc] 23)) ((((d.alloc (G #[B g la rc] 23)).alloc (G (J3 0) 65)).alloc (G #[B (some ⟨d.heap.size+1,0,none⟩) 0 0] 23)).alloc (G #[B (some ⟨d.heap.size+1,0,none⟩) 0 0] 23)):=
  ((Ba _ _).alloc (by simp only[BA];omega) _).alloc (by simp only[BA];omega) _
 have hF:I9 w ((((d.alloc (G #[B g la rc] 23)).alloc (G (J3 0) 65)).alloc (G #[B (some ⟨d.heap.size+1,0,none⟩) 0 0] 23)).alloc (G #[B (some ⟨d.heap.size+1,0,none⟩) 0 0] 23)) d.heap.size (d.heap.size+1+1) (d.heap.size+1+1+1) (B g la rc) (B (some ⟨d.heap.size+1,0,none⟩) 0 0) ps:=
  ⟨(T.cell (i:=2) rfl).1,(T.cell (i:=3) rfl).1,(T.cell (i:=4) rfl).1,(T.cell (i:=6) rfl).1,(T.cell (i:=7) rfl).1,Qt.o.below Qq,T.2.2⟩
 obtain⟨W3,av⟩:=ex ((((d.alloc (G #[B g la rc] 23)).alloc (G (J3 0) 65)).alloc (G #[B (some ⟨d.heap.size+1,0,none⟩) 0 0] 23)).alloc (G #[B (some ⟨d.heap.size+1,0,none⟩) 0 0] 23));rw[av]at hF;rw[av];simp only[BA];obtain⟨f,am⟩:=ex (d.heap.size);rw[am]at hF;rw[am];have HF:=O hF;clear T Qq hF av am Qp Qt c4;gi_wp2_with fail
 have Qr:=O (show w.heap.size<=W3.heap.size from HF.o.2.2.2.2.2.2.size);refine YI rfl Z (gf:=67) (lb:=#[F (some ⟨f+1+1+1,0,none⟩)]) rfl trivial (B0 Tryz.func67 (by kernel_rfl) rfl)
  (Kv Fence.wide _ trivial rfl Z (f+1+1+1) (some ⟨f+1,0,none⟩) 0 0 (λ_=>L false) (λ_=>B none 0 0) (λ_=>L false) (λ_=>B none 0 0) Z) (λ_=>rfl)
  (λ_ W=>I9 w W f (f+1+1) (f+1+1+1) (B g la rc) (B (some ⟨f+1,0,none⟩) 0 0) ps) (λ_ _ _=>False)
  (λk W W' row h hg hr=>h.own hg λr e=>⟨Aw Qr.o (hr r e).1,(hr r e).2⟩)
  (λc s W W' row h=>h.elim) HF.o ?rd
  (λk=>{ tmps:=#[P #[B N la Q],P #[B A lb M],F (some ⟨w.heap.size,0,none⟩),F (some ⟨w.heap.size+1,0,none⟩),F (some ⟨w.heap.size+1+1,0,none⟩),F (some ⟨w.heap.size+1+1+1,0,none⟩),L false,F (some ⟨B4,0,none⟩),F (some ⟨f,0,none⟩),F (some ⟨f+1+1,0,none⟩),H I (((0:Nat):Int)-1-k),C,C,C,C,P #[B A lb M],H I ↑n,H I ↑n,L (decide ((n:Int)<0)),C,C,F (some ⟨w.heap.size,0,none⟩),B N la Q,B g la rc,B g la rc,H I ↑la,H I ↑n,H I x,H I 0,B (some ⟨f+1,0,none⟩) 0 0,B (some ⟨f+1,0,none⟩) 0 0,.func (.func 67) #[] #[F (some ⟨f+1+1+1,0,none⟩)],H I (((0:Nat):Int)-1-k),P #[L false,B none 0 0,L false,B none 0 0],C,C,C,C,C,C,C,C,C,C,C,C,C,C,C,C,C,C,C,C,C,C,C,C,C,C,C,C,C,C,C,C,C,C,C,C,C,C,C,C,C,C,C,C,C,C,C],defers:=[] }) ?assign ?body ?done ?stop
 case stop=>intro D c k W _ _ h;exact h.elim
 case rd=>
  intro k W h;exact⟨h.2.2.2.2.1.cell,λhk=>by omega⟩
 case assign=>
  intro l k W K hK;unfold IF;gi_wp2;exact hK
 case body=>intro l k W U hk;omega
 case done=>
  intro t W hD U hK;have Qx:Gd w W.drew t f (f+1+1) (B g la rc) (B (some ⟨f+1,0,none⟩) 0 0) ps []:=
   Gd.below ⟨U.1,U.2.1,U.2.2.1,U.2.2.2.1,U.2.2.2.2.2.1,row_zero _ _,U.2.2.2.2.2.2,hK⟩ ((BE _ W).drew)
  have Ub:LA false w W.drew t C:=λe=>by cases e
  have Qy:=O (show w.heap.size<=t by have:=Qr.o;omega);have Uc:=O (show DY []from DY.of λi=>Sq.of (k:=1) (by rw[Yy];exact DX.zero 1 Z) Z);clear U hK HF;gi_wp2_with fail
  refine J0 Qz [[],[0],[],[2,1],[1,3,0,1],[3,4,0,1,2,3,4],[5,0,1,2,3,4,5]] (by kernel_rfl) DL
   (λD ai V=>∃(tb tc td te ta:Value),ai={ tmps:=#[P #[B N la Q],P #[B A lb M],F (some ⟨w.heap.size,0,none⟩),F (some ⟨w.heap.size+1,0,none⟩),F (some ⟨w.heap.size+1+1,0,none⟩),F (some ⟨w.heap.size+1+1+1,0,none⟩),ta,F (some ⟨B4,0,none⟩),F (some ⟨f,0,none⟩),F (some ⟨f+1+1,0,none⟩),C,C,C,C,C,P #[B A lb M],H I ↑n,H I ↑n,L (decide ((n:Int)<0)),C,C,F (some ⟨w.heap.size,0,none⟩),B N la Q,B g la rc,B g la rc,H I ↑la,H I ↑n,H I x,H I 0,B (some ⟨f+1,0,none⟩) 0 0,B (some ⟨f+1,0,none⟩) 0 0,.func (.func 67) #[] #[F (some ⟨f+1+1+1,0,none⟩)],C,C,C,C,C,C,C,C,C,C,C,C,C,C,C,C,C,C,C,C,C,C,C,C,C,C,C,C,C,C,C,C,C,C,C,C,C,C,C,C,C,C,C,C,C,tb,tc,td,te],defers:={ target:=.collected t,args:=#[] }::[] }/\Hid ((D 0=true->tb=B (some ⟨f+1,0,none⟩) 0 0)/\(D 1=true->D 5=false->Jc V tc (Jd []))/\(D 2=true->td=B g la rc)/\(D 3=true->D 5=false->Jc V te (Jd ps))/\(D 6=true->ta=L true))/\Hid ((D 4=false->Gd w V t f (f+1+1) (B g la rc) (B (some ⟨f+1,0,none⟩) 0 0) ps [])/\(D 4=true->IP V))/\Hid ((D 5=false->LA (D 4) w V t tc)/\(D 5=true->P7 w V t tc te (Jd []) (Jd ps))))
   ⟨_,_,_,_,_,rfl,O J,O ⟨λ_=>Qx,J⟩,O ⟨λ_=>Ub,J⟩⟩ ?step1 ?fin1
  case step1=>
   rintro D ai V i ds R hi m q ⟨tb,tc,td,te,ta,rfl,b,j,z⟩;have bu:i<7:=(Af.1 hi).1;obtain rfl|rfl|rfl|rfl|rfl|rfl|rfl:=Gw i Z
   all_goals
    simp only[Ai,Ah,Ak]at hi;subst hi
   . have y:=j.o.1 (DM R q);have Qf:=z.o.1 (DM R q);have e6:=y.2.2.2.1.cell;clear m;refine De ?_;exact⟨(Dc b),j,z⟩
   . have X:D 4=false:=DM R q;have y:=j.o.1 X;have S:D 5=false:=DM R q;have Qf:=z.o.1 S;obtain rfl:=b.o.1 (m 0 J);clear m;have HC:=O λ(n9:Nat)=>(BG (n:=n9)).2 (XU _ [] V y.2.2.2.2.2.1 Uc.o);refine BO rfl λK hK=>?_;go_simp;gi_wp2_with(refine⟨trivial,?_⟩;gi_at_call 27;refine(HC.o _).mono ?_;rintro e w5 ⟨v5,rfl,az,_,ad⟩)
     exact⟨_,_,_,_,_,rfl,O ⟨λ_=>rfl,λ_ _=>az,b.o.2.2.1,λh h2=>(b.o.2.2.2.1 h h2).below ad,b.o.2.2.2.2⟩,O ⟨λh=>(j.o.1 h).below ad,λh=>(j.o.2 h).below ad⟩,O ⟨λ_=>(λe=>by simp[X]at e),λh=>by simp[S]at h⟩⟩
   . have X:D 4=false:=DM R (DM (a:=3) R q);have y:=j.o.1 X;have Qf:=z.o.1 (DM R q);have e5:=y.2.2.1.cell;clear m;refine De ?_;exact⟨O ⟨b.o.1,b.o.2.1,λ_=>rfl,b.o.2.2.2.1,b.o.2.2.2.2⟩,j,z⟩
   . have X:D 4=false:=DM R q;have y:=j.o.1 X;have S:D 5=false:=DM R q;have Qf:=z.o.1 S;obtain rfl:=b.o.2.2.1 (m 2 J);clear m;have HC:=O λ(n9:Nat)=>(BG (n:=n9)).2 (XU _ ps V y.2.2.2.2.1 Ua.o);refine BO rfl λK hK=>?_;go_simp;gi_wp2_with(refine⟨trivial,?_⟩;gi_at_call 27;refine(HC.o _).mono ?_;rintro e w5 ⟨v5,rfl,az,_,ad⟩)
     exact⟨_,_,_,_,_,rfl,O ⟨b.o.1,λh h2=>(b.o.2.1 h h2).below ad,λ_=>rfl,λ_ _=>az,b.o.2.2.2.2⟩,O ⟨λh=>(j.o.1 h).below ad,λh=>(j.o.2 h).below ad⟩,O ⟨λ_=>(λe=>by simp[X]at e),λh=>by simp[S]at h⟩⟩
   . have y:=j.o.1 q;have S:D 5=false:=DM R q;have Qf:=z.o.1 S;have h0:=b.o.2.1 (m 1 J) S;obtain⟨a9,l9,c9,rfl⟩:=Jc.form h0;have Qg:=y.1;have e0:=Qg.cell;have f0:=Qg.frozen;have Qj:w.heap.size+1+1+1≠w.heap.size+1+1:=Z
     clear m;refine De ?_;obtain⟨G0,G1,G2,G3,G4⟩:=b.o;exact⟨O ⟨G0,λh h2=>(G1 h h2).setP Qg _,G2,λh h2=>(G3 h h2).setP Qg _,G4⟩,O ⟨λh=>by simp at h,λ_=>trivial⟩,O ⟨λ_=>(λ_=>⟨_,rfl,Qg.set _,(BC V ⟨w.heap.size+1+1,0,none⟩ _ _ Qj).trans y.2.1,y.2.2.2.2.2.2.1.setCell (p:=⟨w.heap.size+1+1,0,none⟩) (by show w.heap.size<=w.heap.size+1+1;omega) _,(BL V ⟨w.heap.size+1+1,0,none⟩ _).same t _ y.2.2.2.2.2.2.2 rfl⟩),λh=>by simp[S]at h⟩⟩
   . have Qf:=z.o.1 q;have h0:=b.o.2.1 (m 1 J) q;have h1:=b.o.2.2.2.1 (m 3 J) q;have Ue:=m 4 J;obtain⟨v2,rfl,ae,af,aw,ah⟩:=Qf (m 4 J);obtain⟨a9,l9,c9,rfl⟩:=Jc.form h1;have e0:=af.cell;have f0:=af.frozen;have Qj:w.heap.size+1+1≠w.heap.size+1+1+1:=Z
     clear m;refine De ?_;exact⟨O ⟨b.o.1,λ_ h=>by simp at h,b.o.2.2.1,λ_ h=>by simp at h,b.o.2.2.2.2⟩,O ⟨λh=>by simp[Ue]at h,λ_=>trivial⟩,O ⟨λh=>by simp at h,λ_=>⟨_,_,rfl,rfl,(BC V ⟨w.heap.size+1+1+1,0,none⟩ _ _ Qj).trans ae,af.set _,h0.setP af _,h1.setP af _,aw.setCell (p:=⟨w.heap.size+1+1+1,0,none⟩) (by show w.heap.size<=w.heap.size+1+1+1;omega) _,(BL V ⟨w.heap.size+1+1+1,0,none⟩ _).same t _ ah rfl⟩⟩⟩
   . clear m;refine De ?_;exact⟨O ⟨b.o.1,b.o.2.1,b.o.2.2.1,b.o.2.2.2.1,λ_=>rfl⟩,j,z⟩
  case fin1=>
   rintro E ai V an ⟨tb,tc,td,te,ta,rfl,b,j,z⟩;obtain⟨v,v',rfl,rfl,g2,g3,bn,bc,aw,ah⟩:=z.o.2 (an 5 DL);obtain rfl:=b.o.2.2.2.2 (an 6 DL);clear b j z an;gi_wp2;refine⟨J,.inl ⟨_,_,rfl,BW ah,?_⟩⟩;have hg:=BU V t (.deferred none);have Qh:∀r,some t=some r->∃o:Obj,V.heap[r]?=some o/\o.isCells=false:=λr e=>by cases e;exact⟨_,ah,rfl⟩
   have q2:Boxed _ (w.heap.size+1+1) 25 v:=Y9 hg Qh (show Bx V (w.heap.size+1+1) 25 #[v]from g2);have q3:Boxed _ (w.heap.size+1+1+1) 25 v':=Y9 hg Qh (show Bx V (w.heap.size+1+1+1) 25 #[v']from g3);have x2:=q2.cell;have x3:=q3.cell;refine⟨.tuple #[P #[v],P #[v'],L true],by simp[results,Tryz.results22,go_sem,x2,x3],_,_,rfl,?_,?_,?_⟩
   . obtain⟨u,e,h⟩:=bn;exact⟨u,e,Hr hg Qh h⟩
   . rw[Uf.o]at bc;obtain⟨u,e,h⟩:=bc;exact⟨u,e,Hr hg Qh h⟩
   . exact aw.trans (DK (w:=w) (Aa _) _ t _ _ Qy.o ah rfl rfl)
theorem P8(A:Nat)(j l:Value)(ps qs:List Rat)(w:World)(f:Jc w j ps)(g:Jc w l qs)(hs:DY ps)(hq:∀i,DX A (cf qs i))(n:Jd ps=ps)(E:Jd qs=qs)
(x:qs≠[]->∀k,k<=ps.length-(qs.length-1)->∃z,z+(2*A+1)<=1000000/\(k<ps.length-(qs.length-1)->2*z+2*(2*A+1)<=1000000)/\(∀i,DX z (cf (Jz ps qs (qs.length-1) (ps.length-(qs.length-1)) k).2 i))/\∀i,DX (z+A) (cf (Jz ps qs (qs.length-1) (ps.length-(qs.length-1)) k).1 i)):
 Calls Tryz.prog 22 #[j,l] w λe b=>∃u v,e=.returned (.tuple #[u,v,L (decide (qs≠[]))])/\Jc b u (if qs=[]then []else Jt ps qs)/\Jc b v (if qs=[]then []else J5 ps qs)/\Bl w b:=by
 by_cases a:qs=[]
 . subst a;refine(ZT j ps l w f g).mono ?_;rintro e b ⟨rfl,h⟩;exact⟨_,_,rfl,⟨_,rfl,RowK.nil _ _⟩,⟨_,rfl,RowK.nil _ _⟩,h⟩
 . have y:decide (qs≠[])=true:=BK a;rw[y];simp only[BH a];have Q:0<qs.length:=Aj.2 a;obtain⟨o,la,p,rfl⟩:=f.form;obtain⟨q,lb,r,rfl⟩:=g.form;have c:=f.row;have d:=g.row;obtain⟨M,_⟩:=c.forms;obtain⟨N,_⟩:=d.forms;by_cases D:la<=lb-1
   . have m:ps.length-(qs.length-1)=0:=Z
     have s:Jt ps qs=[]:=by unfold Jt;rw[m];rfl
     have t:J5 ps qs=ps:=by unfold J5;rw[m];exact n
     rw[s,t];exact ZU o q la p lb r (lb-1) ps qs w c d hs n Z D
   . exact ZS A o q la p lb r (lb-1) (la-(lb-1)) ps qs w c d hq E a (λk K=>by rw[show lb-1=qs.length-1 by omega,show la-(qs.length-1)=ps.length-(qs.length-1)by omega];exact x a k Z) Z Z Z
def IR(ps:List Rat)(n i:Nat)(S:List Rat):Prop:=S.length=n/\∀j,cf S j=if j<i then Gs ps j else 0
theorem IR.next{i:Nat}(h:IR ps n i S)(b:i<n):IR ps n (i+1) (S.set i (Gs ps i)):=by
 refine⟨by rw[Cy];exact h.1,λj=>?_⟩;rw[XE _ _ _ _ (by rw[h.1];exact b),h.2 j];by_cases e:j=i
 . rw[BJ e,BJ Z,e]
 . rw[BH e];by_cases a:j<i
   . rw[BJ a,BJ Z]
   . rw[BH a,BH Z]
theorem IR.done(h:IR ps n n S)(a:n=ps.length-1):Jd S=Je ps:=Ha λj=>by
 rw[h.2 j,Hz];split
 . rfl
 . rw[J6 (p:=ps) Z,Cx]
theorem LB(v:Value)(ps:List Rat)(w:World)(h:Jc w v ps)(ba:DY ps)(bc:∀i,Sq (Gs ps i)):
 Calls Tryz.prog 24 #[v] w λe w'=>∃u,e=.returned u/\Jc w' u (Je ps)/\Bl w w':=by
 have Qr:Tryz.prog.follows .mixedOrders=true:=by kernel_rfl
 obtain⟨o,la,k,rfl⟩:=h.form;have ha:=h.row;obtain⟨ay,bh,bi,bu,s,t,aa,bb,ll,cc,kk,dd,av⟩:=ha.forms;have M0:Mem w _ _:=((Mem.nil w).push (.cell 25 (B o la k)) (cs:=#[B o la k]) ⟨rfl,rfl⟩).push (.cell 25 (B none 0 0)) (cs:=#[B none 0 0]) ⟨rfl,rfl⟩;simp only[BA]at M0;obtain⟨V0,af⟩:=ex ((w.alloc (G #[B o la k] 25)).alloc (G #[B none 0 0] 25));have M1:Mem w V0 [some (w.heap.size,.cell 25 (B o la k)),some (w.heap.size+1,.cell 25 (B none 0 0))]:=by rw[<-af];exact M0
 have Qj:=O M1;obtain⟨d,hd⟩:=ex ((ps.length:Int)-1:Int);have Qi:=O (Yb (P #[B o la k]) ps V0 (h.below M1.2.2));rw[hd]at Qi;obtain⟨n,hn⟩:=ex (ps.length-1:Nat);have Qf:max (0:Int) d=(n:Int):=Z
 have Qt:∀W:World,(Instr.makeSlice 23 (H I (n:Int)) (H I (n:Int))).run Tryz.prog W=.ok (B (some ⟨W.heap.size,0,none⟩) n n) (W.alloc (G (J3 n) 65)):=λW=>IG n Z W;obtain⟨HP,Qn,Qp,HN⟩:=ED av ba bc (show n=ps.length-1/\la=ps.length from⟨hn.symm,ay⟩);have Qe:n<=1099511627776:=Z
 have Ql:=O af;clear h ha av ba bc ay bh bi hn hd M0 M1 af;go_enter Tryz.func24,Tryz.ntmps24
 go_upto_region 1 with fail
 rw[Ql.o];have c0:=(Qj.o.cell (i:=0) rfl).1.cell;go_upto_region 2 with(go_at_call 20;refine Qi.o.mono ?_;clear Qi;rintro e w1 ⟨rfl,aq⟩)
 have Qg:Mem w (w1.alloc (G (J3 n) 65)) [some (w.heap.size,.cell 25 (B o la k)),some (w.heap.size+1,.cell 25 (B none 0 0)),some (w1.heap.size,.rats (List.replicate n 0))]:=(Qj.o.below aq).push (.rats (List.replicate n 0)) (I8 _ n);obtain⟨V1,ah⟩:=ex (w1.alloc (G (J3 n) 65));obtain⟨l,ak⟩:=ex (w1.heap.size);rw[ah,ak]at Qg;rw[ah,ak];have Qk:=O Qg;clear Qg ah ak aq c0 Qj Ql Qt Qf;go_wp2;go_loopw [11] (λiv wr=>∃(i:Nat) (S:List Rat),i<=n/\iv=H I (i:Int)/\Hid (IR ps n i S)/\Hid (Mem w wr [some (w.heap.size,.cell 25 (B o la k)),some (w.heap.size+1,.cell 25 (B none 0 0)),some (l,.rats S)])) λiv _=>n-(intOf iv).toNat
 case atStart=>exact⟨0,_,AK _,rfl,O ⟨Au,λj=>by rw[JS,BH Z]⟩,Qk⟩
 case round=>
  obtain⟨i,S,N,rfl,q,M⟩:=hrel;clear Qk;by_cases az:i<n
  . have bz:(i:Int)<(n:Int):=Z
    obtain⟨K,hK⟩:=ex (i+1:Nat);have bj:(i:Int)+1=(K:Int):=Z
    have bn:IntKind.i64.wrap (K:Int)=(K:Int):=by rw[BZ];omega
    have bm:(K:Int)<(la:Int):=by have:=HN.o;omega
    obtain⟨aw,f,rfl,A,p0,p1,p2,p3⟩:=HP.o K (by have:=HN.o;omega);have Qu:=O (show ∀V,Bl w V->(V.cell? ⟨f,K*4,none⟩=some (L (s K))/\V.cell? ⟨f,K*4+1,none⟩=some (B (aa K) (ll K) (cc K))/\V.cell? ⟨f,K*4+2,none⟩=some (L (t K))/\V.cell? ⟨f,K*4+3,none⟩=some (B (bb K) (kk K) (dd K)))/\Ji V (P #[L (s K),B (aa K) (ll K) (cc K),L (t K),B (bb K) (kk K) (dd K)]) (cf ps K)from λV y=>by
     exact⟨⟨(y.cell (p:=⟨f,_,none⟩) A).trans p0,(y.cell (p:=⟨f,_,none⟩) A).trans p1,(y.cell (p:=⟨f,_,none⟩) A).trans p2,(y.cell (p:=⟨f,_,none⟩) A).trans p3⟩,aw.below y⟩)
    have Qd:=O (show K<=1099511627776/\K=i+1 by omega);have Qs:=O (show cf ps K*((K:Int):Rat)=Gs ps i by rw[Qd.o.2];rfl);have Qm:=O (show i<S.length by rw[q.o.1];exact az);clear aw A p0 p1 p2 p3 hK;go_wp2_with fail
    have Qo:=M.o.drew;refine Jm Qr [[],[],[],[2],[],[4],[3,5],[6],[],[8],[9],[7,10,10],[0,1,0,1,2,3,4,5,6,7,8,9,10,11],[12,11,11,0,1,2,3,4,5,6,7,8,9,10,11]] (by kernel_rfl) DL
     (λD ae V=>∃(ta tb R T U tf X ti tj tk tl tm tn:Value),ae={ tmps:=#[P #[B (some ⟨f,0,none⟩) la k],F (some ⟨w.heap.size,0,none⟩),F (some ⟨w.heap.size+1,0,none⟩),B (some ⟨l,0,none⟩) n n,H I ↑i,P #[B (some ⟨f,0,none⟩) la k],H I d,H I ↑n,B (some ⟨l,0,none⟩) n n,B (some ⟨l,0,none⟩) n n,H I ↑n,H I ↑i,L true,H I ↑i,ta,tb,R,T,U,tf,X,ti,tj,tk,tl,tm,tn,u27,C,C],defers:=[] }/\Hid ((D 0=true->ta=B (some ⟨l,0,none⟩) n n)/\(D 1=true->tb=H I (i:Int))/\(D 2=true->R=F (some ⟨w.heap.size,0,none⟩))/\(D 3=true->T=B (some ⟨f,0,none⟩) la k)/\(D 4=true->U=H I (i:Int))/\(D 5=true->tf=H I (K:Int))/\(D 6=true->X=F (some ⟨f,K*4,none⟩))/\(D 7=true->D 13=false->Ji V ti (cf ps K))/\(D 8=true->tj=H I (i:Int))/\(D 9=true->tk=H I (K:Int))/\(D 10=true->D 13=false->Ji V tl ((K:Int):Rat))/\(D 11=true->D 13=false->Ji V tm (Gs ps i))/\(D 12=true->tn=F (some ⟨l,i*4,none⟩)))/\Hid ((D 13=false->Mem w V [some (w.heap.size,.cell 25 (B (some ⟨f,0,none⟩) la k)),some (w.heap.size+1,.cell 25 (B none 0 0)),some (l,.rats S)])/\(D 13=true->Mem w V [some (w.heap.size,.cell 25 (B (some ⟨f,0,none⟩) la k)),some (w.heap.size+1,.cell 25 (B none 0 0)),some (l,.rats (S.set i (Gs ps i)))])))
     (E8 ⟨_,_,_,_,_,rfl,O J,O ⟨λ_=>Qo,J⟩⟩) ?step1 ?fin1
    case step1=>
     rintro D ae V i ds ai N b z ⟨ta,tb,R,T,U,tf,X,ti,tj,tk,tl,tm,tn,rfl,a,c⟩;have bt:i<14:=(Af.1 N).1;obtain rfl|rfl|rfl|rfl|rfl|rfl|rfl|rfl|rfl|rfl|rfl|rfl|rfl|rfl:=FZ i Z
     all_goals
      simp only[Ai,Ah,Ak]at N;subst N
     . clear b;refine DQ ?_;exact⟨(Dc a),c⟩
     . clear b;refine DQ ?_;exact⟨(Dg a),c⟩
     . clear b;refine DQ ?_;exact⟨(Db a),c⟩
     . have r:=c.o.1 (DM ai z);obtain rfl:=a.o.2.2.1 (b 2 J);have e0:=(r.cell (i:=0) rfl).1.cell;clear b;refine DQ ?_;exact⟨(Dd (Db a)),c⟩
     . clear b;refine DQ ?_;exact⟨(Dr a),c⟩
     . obtain rfl:=a.o.2.2.2.2.1 (b 4 J);clear b;refine DQ ?_;exact⟨(Dt (Dr a)),c⟩
     . obtain rfl:=a.o.2.2.2.1 (b 3 J);obtain rfl:=Dq a (b 5 J);clear b;refine DQ ?_;exact⟨(Dw (Dt (Dd a))),c⟩
     . have r:=c.o.1 (DM ai z);obtain rfl:=D0 a (b 6 J);obtain⟨⟨e0,e1,e2,e3⟩,hr⟩:=Qu.o V r.2.2;clear b;refine DQ ?_;exact⟨(D6 (Dw a) λ_ _=>hr),c⟩
     . clear b;refine DQ ?_;exact⟨(EG a),c⟩
     . obtain rfl:=EN a (b 8 J);clear b;refine DQ ?_;exact⟨(Ek (EG a)),c⟩
     . obtain rfl:=FS a (b 9 J);clear b;have E:=O (Pg (K:Int) Z (by have:=Qd.o;omega) V);refine Jb rfl rfl λK hK=>?_;go_simp;go_wp2_with(go_at_call 54;refine E.o.mono ?_;rintro e w5 ⟨v5,rfl,an,g⟩)
       obtain⟨G0,G1,G2,G3,G4,G5,G6,G7,G8,_,_,bg,ad⟩:=a.o;exact E8 ⟨_,_,_,_,_,rfl,O ⟨G0,G1,G2,G3,G4,G5,G6,λh m=>(G7 h m).below g,G8,λ_=>rfl,λ_ _=>an,λh m=>(bg h m).below g,ad⟩,O ⟨λh=>(c.o.1 h).below g,λh=>(c.o.2 h).below g⟩⟩
     . have Qa:D 13=false:=DM ai z;have x:=EE a (b 7 J) Qa;have h1:=EI a (b 10 J) Qa;clear b;have E:=O (I0 _ _ (cf ps K) ((K:Int):Rat) V x h1 (Qn.o.at K) (WI Qd.o.1));rw[Qs.o]at E;clear x h1;refine Jb rfl rfl λK hK=>?_;go_simp;go_wp2_with(go_at_call 52;refine E.o.mono ?_;rintro e w5 ⟨v5,rfl,an,g⟩)
       obtain⟨G0,G1,G2,G3,G4,G5,G6,G7,G8,G9,bf,_,ad⟩:=a.o;exact E8 ⟨_,_,_,_,_,rfl,O ⟨G0,G1,G2,G3,G4,G5,G6,λh m=>(G7 h m).below g,G8,G9,λh m=>(bf h m).below g,λ_ _=>an,ad⟩,O ⟨λh=>(c.o.1 h).below g,λh=>(c.o.2 h).below g⟩⟩
     . obtain rfl:=a.o.1 (b 0 J);obtain rfl:=a.o.2.1 (b 1 J);clear b;refine DQ ?_;exact⟨(Hg (Dg (Dc a))),c⟩
     . have r:=c.o.1 z;have x:=EZ a (b 11 J) z;obtain rfl:=a.o.2.2.2.2.2.2.2.2.2.2.2.2 (b 12 J);have hE:=r.rats (i:=2) rfl;obtain⟨xa,xb,xc,xd,e0,e1,e2,e3,_⟩:=hE.at Qm.o;have f0:=hE.frozen (i*4);have f1:=hE.frozen (i*4+1);have f2:=hE.frozen (i*4+2);have f3:=hE.frozen (i*4+3);obtain⟨s9,a9,l9,c9,t9,b9,k9,d9,rfl⟩:=Ji.form x;clear b;refine DQ ?_;exact⟨(Hg (D4 (Dz (D6 a λ_ h=>by simp at h) λ_ h=>by simp at h) λ_ h=>by simp at h)),O ⟨λh=>by simp at h,λ_=>r.putRats (i:=2) rfl Qm.o x⟩⟩
    case fin1=>
     rintro D ae V ap ⟨ta,tb,R,T,U,tf,X,ti,tj,tk,tl,tm,tn,rfl,a,c⟩;have HO:=O (c.o.2 (ap 13 DL));clear a c ap;go_wp2_with fail
     go_roundw
     case rel=>exact⟨i+1,_,Z,by go_num,O (q.o.next az),HO⟩
     case measure=>simp[intOf];omega
  . obtain rfl:i=n:=Z
    have hE:=M.o.rats (i:=2) rfl;have Qc:=hE.row (n:=i) (cap:=i) (by rw[q.o.1];exact Aa _) (Aa _) Z Qe;rw[Ag (by rw[q.o.1];exact Aa _)]at Qc;have Qh:=O (XU _ S wr Qc (DY.of λj=>by
     rw[q.o.2 j];split
     . exact Qp.o j
     . exact Hq))
    rw[q.o.done HN.o.1]at Qh;clear hE Qc;go_wp2_with(go_at_call 27;refine Qh.o.mono ?_;clear Qh;rintro e w5 ⟨u5,rfl,am,_,g⟩;obtain⟨a7,l7,c7,rfl⟩:=am.form;have Q:=boxed_below (M.o.cell (i:=1) rfl).1 g;have x0:=Q.cell;have x1:=Q.frozen;have Qv:=O (Ea Q (B a7 l7 c7) am.row);have Qq:=O ((Bt M.o.2.2 g).setCell (p:=⟨w.heap.size+1,0,none⟩) (by show w.heap.size<=w.heap.size+1;omega) (B a7 l7 c7));clear am g Q)
    exact BB (v:=P #[B a7 l7 c7]) (by simp[results,Tryz.results24,go_sem,x0]) rfl ⟨_,rfl,⟨_,rfl,Qv.o⟩,Qq.o⟩
end M3
section
open Go.RowKit Go.Shelf
def CD(D:Int)(K:Nat)(c:Rat):Prop:=∃n:Int,c=Rat.divInt n D/\Sm K n
section
variable {D E:Int} {K M:Nat} {c d:Rat}
theorem CD.mono(h:CD D K c)(a:K<=M):CD D M c:=by
 obtain⟨n,e,h⟩:=h;exact⟨n,e,h.mono a⟩
theorem CD.smq(h:CD D K c)(hD:D≠0)(hs:Sm K D):DX K c:=by
 obtain⟨n,rfl,h⟩:=h;exact DX.divInt hD h hs
theorem CD.zero(D:Int)(K:Nat):CD D K 0:=⟨0,by rw[Rat.zero_divInt],Sm.zero K⟩
theorem CD.add(h:CD D K c)(a:CD D M d)(hD:D≠0):CD D (max K M+1) (c+d):=by
 obtain⟨n,rfl,h⟩:=h;obtain⟨m,rfl,a⟩:=a;refine⟨n+m,?_,?_⟩
 . rw[FA _ _ hD hD,<-Int.add_mul,Fo hD]
 . exact(h.mono (Nat.le_max_left ..)).add (a.mono (Nat.le_max_right ..))
theorem CD.mul(h:CD D K c)(a:CD E M d):CD (D*E) (K+M) (c*d):=by
 obtain⟨n,rfl,h⟩:=h;obtain⟨m,rfl,a⟩:=a;exact⟨n*m,by rw[Fi],h.mul a⟩
theorem CD.wide(h:CD D K c)(hE:Sm M E)(a:E≠0):CD (D*E) (K+M) c:=by
 obtain⟨n,rfl,h⟩:=h;exact⟨n*E,by rw[Fo a],h.mul hE⟩
end
def D9(D:Int)(K:Nat)(ps:List Rat):Prop:=∀i,CD D K (cf ps i)
variable{D:Int}{ps qs:List Rat}{K:Nat}
theorem QA(hD:D≠0)(h:∀i j,CD D K (cf ps i*cf qs j))(n:Nat):∀(i k:Nat),CD D (K+min i ps.length) (cf (XD ps qs n i) k):=by
 intro i;induction i with
 |zero=>intro k;rw[XD,JS];exact CD.zero _ _
 |succ i a=>
  intro k;rw[XD];rcases K8 (XD ps qs n i) i (cf ps i) qs qs.length k with e|e
  . rw[e];exact(a k).mono Z
  . rw[e];by_cases b:i<ps.length
    . exact((a k).add (h i (k-i)) hD).mono Z
    . rw[J6 (p:=ps) Z,Cx,Rat.add_zero];exact(a k).mono Z
theorem ZV(hD:D≠0)(hs:Sm 1000000 D)(h:∀i j,CD D K (cf ps i*cf qs j))(d:K+ps.length+1<=1000000):M3.GX ps qs:=by
 have hq:∀c,CD D (K+ps.length+1) c->Sq c:=λc b=>Sq.of ((b.mono d).smq hD hs) (Aa _);refine⟨λi j=>hq _ ((h i j).mono Z),λn i j k=>?_⟩;have a:=QA hD h n i k;rcases K8 (XD ps qs n i) i (cf ps i) qs j k with e|e
 . rw[e];exact hq _ (a.mono Z)
 . rw[e];exact hq _ ((a.add (h i (k-i)) hD).mono Z)
theorem ZW(hD:D≠0)(h:∀i j,CD D K (cf ps i*cf qs j)):D9 D (K+ps.length) (Jp ps qs):=λk=>by
 unfold Jp;rw[Yd,Hy];have a:=QA hD h (ps.length+qs.length) ps.length k;rwa[Nm _ _ _ _ _ (Or.inr Z),Nat.min_self]at a
theorem Mv(p q:List Rat):(Jp p q).length<=p.length+q.length:=XB (Jy _ _) λi a=>by unfold Jp;rw[Yd,Hy,WJ p q a]
theorem Sm.powZ{A:Nat}{v:Int}(h:Sm A v):∀n,Sm (n*A+1) (v^n):=by
 intro n;induction n with
 |zero=>rw[Int.pow_zero];exact Sm.one _ Z
 |succ n a=>rw[Int.pow_succ,AD,show n*A+1*A+1=n*A+1+A by omega];exact a.mul h
end
section
open Go.RowKit Go.Shelf
variable{D:Int}{K:Nat}
theorem ZX{c:Rat}(h:CD D K c):CD D K (-c):=by
 obtain⟨n,rfl,h⟩:=h;exact⟨-n,by rw[<-Rat.neg_divInt],by unfold Sm at h ⊢;rwa[FM]⟩
theorem QB{E l:Int}{A:Nat}{ps qs:List Rat}{n m:Nat}(hD:D≠0)(hp:D9 D K ps)(hE:E≠0)(S:Sm A E)(hq:D9 E A qs)(b:l≠0)(hl:Sm A l)(N:cf qs n=Rat.divInt l E)(M:cf qs n≠0):
 ∀k,D9 (D*l^k) (K+k*(A+1)) (Jz ps qs n m k).2/\D9 (D*l^k) (K+k*(A+1)) (Jz ps qs n m k).1:=by
 intro k;induction k with
 |zero=>
  rw[Int.pow_zero,Int.mul_one];exact⟨λi=>(hp i).mono Z,λi=>by rw[Jz,JS];exact CD.zero _ _⟩
 |succ k U=>
  obtain⟨d,g⟩:=U;have w:D*l^k≠0:=Cv hD (Int.pow_ne_zero b);have e:D*l^(k+1)=D*l^k*l:=by rw[Int.pow_succ,Fp]
  rw[e];have v:D*l^k*l≠0:=Cv w b;obtain⟨R,p⟩:=ex ((Jz ps qs n m k).2);obtain⟨Q,o⟩:=ex ((Jz ps qs n m k).1);rw[p]at d;rw[o]at g;obtain⟨r,z,s⟩:=d (m-(k+1)+n);obtain⟨c,q⟩:=ex (cf R (m-(k+1)+n)/cf qs n);have f:c=Rat.divInt (r*E) (D*l^k*l):=by
   rw[<-q];have y:cf R (m-(k+1)+n)=Rat.divInt (r*E) (D*l^k*l)*cf qs n:=by
    rw[N,Fi,z,show r*E*l=r*(E*l)from Fp _ _ _,show D*l^k*l*E=D*l^k*(E*l)by rw[Fp (D*l^k),CW l E],Fo (Cv hE b)]
   rw[y,Rat.mul_div_cancel M]
  have t:CD (D*l^k*l) (K+(k+1)*(A+1)) c:=⟨r*E,f,(s.mul S).mono (by rw[AD];omega)⟩;have u:∀j,CD (D*l^k*l) (K+k*(A+1)+A) (c*cf qs j):=λj=>by
   obtain⟨x,ex,T⟩:=hq j;refine⟨r*x,?_,s.mul T⟩;rw[f,ex,Fi,show r*E*x=r*x*E by rw[Fp,CW E x,Fp],Fo hE]
  rw[Jz,p,o];simp only[q];refine⟨λi=>?_,λi=>?_⟩
  . rcases K8 R (m-(k+1)) (-c) qs qs.length i with a|a
    . rw[a];exact((d i).wide hl b).mono (by rw[AD];omega)
    . rw[a,Rat.neg_mul];exact(((d i).wide hl b).add (ZX (u _)) v).mono (by rw[AD];omega)
  . rcases M3.ZP Q (m-(k+1)) c i with a|a
    . rw[a];exact t
    . rw[a];exact((g i).wide hl b).mono (by rw[AD];omega)
end
variable{D:Int}{a b p q:List Rat}{K M n:Nat}{f g:Nat->Int}{c d:Rat}
theorem ZY:∀(n:Nat) (f:Nat->Nat),(∀i,i<=n->f i<n)->∃i j,i<j/\j<=n/\f i=f j:=by
 intro n;induction n with
 |zero=>intro f h;exact absurd (h 0 (Aa _)) Z
 |succ n o=>
  intro f h;by_cases k:∃i,i<=n/\f i=f (n+1)
  . obtain⟨i,d,a⟩:=k;exact⟨i,n+1,Z,Aa _,a⟩
  . have c:∀i,i<=n->f i≠f (n+1):=λi b e=>k ⟨i,b,e⟩;obtain⟨i,j,d,a,g⟩:=o (λi=>if f i=n then f (n+1)else f i) (λi b=>by
     have l:=h i Z;have m:=h (n+1) (Aa _);have p:=c i b;split<;>omega)
    refine⟨i,j,d,Z,?_⟩;have l:=c i Z;have m:=c j a;split at g<;>split at g<;>omega
def enc(b:Nat):Nat->(Nat->Nat)->Nat
 |0,_=>0
 |M+1,d=>enc b M d+d M*b^M
theorem Mw{b:Nat}{d:Nat->Nat}(h:∀k,k<M->d k<b):enc b M d<b^M:=by
 induction M with
 |zero=>simp[enc]
 |succ M e=>
  have f:=e λk g=>h k Z;have a:=h M Z;have c:(d M+1)*b^M<=b*b^M:=Am _ a;rw[enc,AY,Av (b^M) b];rw[AD,Ct]at c;omega
theorem ZZ{b:Nat}{d a:Nat->Nat}(h:∀k,k<M->d k<b)(g:∀k,k<M->a k<b)(e:enc b M d=enc b M a):∀k,k<M->d k=a k:=by
 induction M with
 |zero=>intro k c;omega
 |succ M j=>
  have l1:=Mw (λk c=>h k Z:∀k,k<M->d k<b);have l2:=Mw (λk c=>g k Z:∀k,k<M->a k<b);have hp:0<b^M:=Z
  rw[enc,enc]at e;have f:d M=a M:=by
   have f1:(enc b M d+d M*b^M)/b^M=d M:=by rw[Fz _ _ hp,Ch l1];omega
   have f2:(enc b M a+a M*b^M)/b^M=a M:=by rw[Fz _ _ hp,Ch l2];omega
   rw[<-f1,<-f2,e]
  intro k c;by_cases i:k=M
  . rw[i];exact f
  . exact j (λk c=>h k Z) (λk c=>g k Z) (by rw[f]at e;omega) k Z
def EQ(b x j:Nat):Nat:=x/b^j%b
theorem Zv{b:Nat}(a:0<b)(x j:Nat):EQ b x j<b:=Cl _ a
theorem QC(b x:Nat):∀N,enc b N (EQ b x)=x%b^N:=by
 intro N;induction N with
 |zero=>simp[enc,Nat.mod_one]
 |succ N a=>rw[enc,a,Nat.mod_pow_succ,Av (EQ b x N)];rfl
def Ye:Nat->(Nat->Int)->Int
 |0,_=>0
 |n+1,f=>Ye n f+f n
theorem QD(h:∀k,k<n->f k=g k):Ye n f=Ye n g:=by
 induction n with
 |zero=>rfl
 |succ n a=>rw[Ye,Ye,a λk b=>h k Z,h n Z]
theorem Zw(n:Nat)(f g:Nat->Int):Ye n (λk=>f k-g k)=Ye n f-Ye n g:=by
 induction n with
 |zero=>rfl
 |succ n a=>rw[Ye,Ye,Ye,a];omega
theorem LC{C:Nat}(h:∀k,k<n->(f k).natAbs<=C):(Ye n f).natAbs<=n*C:=by
 induction n with
 |zero=>simp[Ye]
 |succ n a=>
  have b:=a λk d=>h k Z;have c:=h n Z;rw[Ye,AD,Ct];have:=FD (Ye n f) (f n);omega
theorem Zx(N A:Nat)(c:Nat->Nat->Int)(w:∀k j,(c k j).natAbs<=A):
 ∃z:Nat->Int,(∃j,j<N+1/\z j≠0)/\(∀j,(z j).natAbs<=(2*(N+1)*A+1)^N)/\∀k,k<N->Ye (N+1) (λj=>c k j*z j)=0:=by
 obtain⟨B,l⟩:=ex ((2*(N+1)*A+1)^N);have o:1<=B:=by rw[<-l];exact CA Z
 obtain⟨C,m⟩:=ex ((N+1)*(A*B));have d:∀x j,EQ (B+1) x j<=B:=λx j=>by have:=Zv (b:=B+1) Z x j;omega
 have v:∀x k,(Ye (N+1) λj=>c k j*(EQ (B+1) x j:Int)).natAbs<=C:=λx k=>by
  rw[<-m];refine LC λj _=>?_;rw[Cr,AC];exact Cz (w k j) (d x j)
 obtain⟨g,a⟩:∃g:Nat->Nat->Nat,∀x k,(g x k:Int)=Ye (N+1) (λj=>c k j*(EQ (B+1) x j:Int))+C/\g x k<2*C+1:=
  ⟨λx k=>(Ye (N+1) (λj=>c k j*(EQ (B+1) x j:Int))+C).toNat,λx k=>by have:=v x k;dsimp only;omega⟩
 have U:(2*C+1)^N<(B+1)^(N+1):=by
  have f:2*C+1<=(2*(N+1)*A+1)*B:=by
   have p:2*C=2*(N+1)*A*B:=by rw[<-m];simp only[AG]
   rw[p,AD,Ct];exact Nat.add_le_add_left o _
  have i:(2*C+1)^N<=B^(N+1):=by
   refine Aw (CM f N) ?_;rw[Nat.mul_pow,l,AY,Av];exact Aa _
  exact Cf i (Nat.pow_lt_pow_left Z Z)
 obtain⟨x,y,f,i,q⟩:=ZY ((2*C+1)^N) (λx=>enc (2*C+1) N (g x)) λx _=>Mw λk _=>(a x k).2;have r:=ZZ (λk _=>(a x k).2) (λk _=>(a y k).2) q;refine⟨λj=>(EQ (B+1) x j:Int)-(EQ (B+1) y j:Int),?_,λj=>?_,λk E=>?_⟩
 . by_cases n:∃j,j<N+1/\(EQ (B+1) x j:Int)-(EQ (B+1) y j:Int)≠0
   . exact n
   . exfalso
     have s:∀j,j<N+1->EQ (B+1) x j=EQ (B+1) y j:=λj D=>by
      by_cases e:EQ (B+1) x j=EQ (B+1) y j
      . exact e
      . exact absurd ⟨j,D,Z⟩ n
     have t:∀M,M<=N+1->enc (B+1) M (EQ (B+1) x)=enc (B+1) M (EQ (B+1) y):=λM=>by
      induction M with
      |zero=>intro _;rfl
      |succ M K=>intro T;rw[enc,enc,K Z,s M Z]
     have u:=t (N+1) (Aa _);rw[QC,QC,Cm Z,Cm Z]at u;omega
 . have:=d x j;have:=d y j;dsimp only;omega
 . have R:=r k E;have S:=(a x k).1;have Q:=(a y k).1;rw[show(λj=>c k j*((EQ (B+1) x j:Int)-(EQ (B+1) y j:Int)))=(λj=>c k j*(EQ (B+1) x j:Int)-c k j*(EQ (B+1) y j:Int))from funext λj=>Int.mul_sub _ _ _,Zw];omega
theorem Zy(p q:List Rat):(JE p q).length<=max p.length q.length:=XB (Yj _ _) λi a=>by rw[Lh,J6 Z,J6 Z,Rat.sub_self]
def Da(c:Rat)(p:List Rat):List Rat:=Jd (YS c p)
theorem JP(c:Rat)(p:List Rat):Jd (Da c p)=Da c p:=Ya _
theorem Yi(c:Rat)(p:List Rat)(i:Nat):cf (Da c p) i=cf p i*c:=by unfold Da;rw[Yd,Hx]
theorem Yr(c:Rat)(p:List Rat)(x:Rat):ev (Da c p) x=ev p x*c:=by unfold Da;rw[Xt,Xl]
theorem XM{a b:Rat}(c:a≠0)(d:b≠0):a*b≠0:=λh=>by
 rcases C8.1 h with h|h
 . exact c h
 . exact d h
theorem QE(h:cf p n≠0):n<p.length:=by
 by_cases a:n<p.length
 . exact a
 . exact absurd (J6 Z) h
theorem Yf(d:c≠0)(hp:Jd p=p):(Da c p).length=p.length:=by
 refine Nat.le_antisymm (XB (JP _ _) λi e=>by rw[Yi,J6 e,Cx]) ?_;by_cases a:p=[]
 . rw[a];exact AK _
 . have b:=Jw hp a;have f:0<p.length:=Aj.2 a;have g:=QE (p:=Da c p) (n:=p.length-1) (by rw[Yi];exact XM b d);omega
theorem LD(c d:Rat)(p:List Rat):Da c (Da d p)=Da (d*c) p:=YU (JP _ _) (JP _ _) λx=>by rw[Yr,Yr,Yr];grind
theorem IU(hp:Jd p=p):Da 1 p=p:=YU (JP _ _) hp λx=>by rw[Yr];grind
theorem Zz(c:Rat):Da c []=[]:=rfl
theorem IV(b:c≠0)(hp:Jd p=p)(a:p≠[]):Da c p≠[]:=λh=>by
 have:=Yf b hp;rw[h]at this;exact a (List.length_eq_zero_iff.1 this.symm)
theorem JD(hp:Jd p=p)(hq:Jd q=q)(a:p≠[])(b:q≠[]):(Jp p q).length=p.length+q.length-1:=Nk hp hq a b
theorem LE(h:p.length=0):p=[]:=List.length_eq_zero_iff.1 h
theorem LF{u v:List Rat}(hq:Jd q=q)(a:q≠[])(f:Jd u=u)(g:Jd v=v)(i:v.length<q.length)(h:∀x,ev p x=ev q x*ev u x+ev v x):u=Jt p q/\v=J5 p q:=by
 obtain⟨b,c,d,e⟩:=YW p q hq a;exact Rp hq a f d g e i c (λx=>by rw[<-h x,b x])
theorem LG(a:d≠0)(p q:List Rat)(hq:Jd q=q)(b:q≠[]):Jt (Da c p) (Da d q)=Da (c/d) (Jt p q)/\J5 (Da c p) (Da d q)=Da c (J5 p q):=by
 obtain⟨e,f,j,k⟩:=YW p q hq b;have h:=LF (p:=Da c p) (JP d q) (IV a hq b) (JP (c/d) (Jt p q)) (JP c (J5 p q)) (by
  rw[Yf a hq];exact Cf (XB (JP _ _) λi g=>by rw[Yi,J6 g,Cx]) f) (λx=>by
  rw[Yr,Yr,Yr,Yr,e x];have:d*(c/d)=c:=by rw[Fw];exact A4 a
  grind)
 exact⟨h.1.symm,h.2.symm⟩
inductive Eu:List Rat->List Rat->List Rat->List Rat->Prop
 |base (p q:List Rat):Eu p q p q
 |step (p q:List Rat) (c:Rat) (a b:List Rat):q≠[]->c≠0->Eu q (Da c (J5 p q)) a b->Eu p q a b
theorem Eu.tail(h:Eu p q a b)(e:b≠[])(f:c≠0):Eu p q b (Da c (J5 a b)):=by
 induction h with
 |base p q=>exact .step p q c _ _ e f (.base _ _)
 |step p q d a b hq g _ i=>exact .step p q d _ _ hq g (i e)
theorem Y2(p q:List Rat):Jd (J5 p q)=J5 p q:=Ya _
theorem J9(p q:List Rat):Jd (Jt p q)=Jt p q:=Ya _
theorem Eu.len(h:Eu p q a b):Jd q=q->b.length<=q.length:=by
 induction h with
 |base p q=>exact λ_=>Aa _
 |step p q d a b hq f _ g=>
  intro c;have e:=g (JP _ _);rw[Yf f (Y2 _ _)]at e;have:=(YW p q c hq).2.1;omega
theorem Z0(h:Eu p q a b):Jd p=p->Jd q=q->b≠[]->∀u v T:List Rat,Jd u=u->Jd v=v->Jd T=T->u.length+b.length<=q.length+1->v.length+b.length<=p.length+1->(u≠[]\/v≠[])->T.length<b.length->
 (∀x,ev T x=ev u x*ev p x+ev v x*ev q x)->∃c:Rat,c≠0/\T=Da c (J5 a b):=by
 induction h with
 |base p q=>
  intro hp hq g u v T i w m M lv f o n;have S:u.length<=1:=Z
  obtain⟨A,W,X,h4⟩:=YW p q hq g;match u,S,f with
  |[],_,f=>
   have l:v≠[]:=by
    rcases f with f|f
    . exact absurd rfl f
    . exact f
   have e:T=Jp v q:=YU m (Jy _ _) λx=>by rw[Jj,n x];simp[ev];grind
   have h5:=JD w hq l g;have h6:0<v.length:=Aj.2 l;rw[e]at o;omega
  |[c],_,_=>
   have hc:c≠0:=λe=>by
    have:=Jw i J;simp[YK]at this;exact this e
   refine⟨c,hc,?_⟩;have N:∀x,ev (Da c p) x=ev q x*ev (Da (-1) v) x+ev T x:=λx=>by
    rw[Yr,Yr,n x];simp[ev];grind
   have h7:=(LF hq g (JP _ _) m o N).2;have D:=(LG (c:=c) (d:=1) DL p q hq g).2;rw[IU hq]at D;rw[h7,D]
 |step p q d a b g hd hE K=>
  intro hp hq hb u v T i w m M lv f o n;obtain⟨A,W,X,h4⟩:=YW p q hq g;obtain⟨r,t⟩:=ex (Da d (J5 p q));rw[t]at hE K;have s:Jd r=r:=by rw[<-t];exact JP _ _
  have U:b.length<=r.length:=hE.len s;have R:r≠[]:=λe=>by
   rw[e,AF]at U;omega
  have y:d*(1/d)=1:=by rw[Fw];exact A4 hd
  have k:(1/d)≠0:=λe=>by rw[e,Rat.mul_zero]at y;exact absurd y DL
  have Q:∀x,ev p x=ev q x*ev (Jt p q) x+ev r x*(1/d):=λx=>by rw[A x,<-t,Yr];grind
  have z:∀x,ev T x=ev (XZ (Jp u (Jt p q)) v) x*ev q x+ev (Da (1/d) u) x*ev r x:=λx=>by
   rw[n x,Q x,Y6,Jj,Yr];grind
  have ad:(Da (1/d) u).length+b.length<=q.length+1:=by rw[Yf k i];exact M
  refine K hq s hb (XZ (Jp u (Jt p q)) v) (Da (1/d) u) T (H7 _ _) (JP _ _) m ?_ ad ?_ o z
  . by_cases E:XZ (Jp u (Jt p q)) v=[]
    . rw[E];simp;omega
    . have l1:=JD (H7 _ _) hq E g;have e:Jp (XZ (Jp u (Jt p q)) v) q=JE T (Jp (Da (1/d) u) r):=YU (Jy _ _) (Yj _ _) λx=>by rw[Jj,XO,Jj,z x];grind
      have l2:=Zy T (Jp (Da (1/d) u) r);rw[<-e,l1]at l2;by_cases j:u=[]
      . have V:Jp (Da (1/d) u) r=[]:=by rw[j];rfl
        rw[V]at l2;simp at l2;omega
      . have l4:=JD (JP _ _) s (IV k i j) R;rw[Yf k i]at l4;omega
  . by_cases j:u=[]
    . left
      have l:v≠[]:=by
       rcases f with f|f
       . exact absurd j f
       . exact f
      have e:XZ (Jp u (Jt p q)) v=v:=YU (H7 _ _) w λx=>by rw[Y6,Jj,j];simp[ev];grind
      rw[e];exact l
    . right;exact IV k i j
def Ln(K:Nat)(r:List Rat):Prop:=∃c:Rat,c≠0/\∀i,∃z:Int,Sm K z/\cf r i*c=(z:Rat)
theorem Z1(s t:Nat)(f:Nat->Int):Ye (s+t) f=Ye s f+Ye t (λj=>f (s+j)):=by
 induction t with
 |zero=>simp[Ye]
 |succ t a=>rw[<-Fe,Ye,Ye,a];omega
theorem Mx{f:Nat->Rat}(h:∀k,k<n->f k=(g k:Rat)):Dk n f=((Ye n g:Int):Rat):=by
 induction n with
 |zero=>rfl
 |succ n a=>rw[Dk,Ye,a λk b=>h k Z,h n Z,FI]
theorem LH(p q:List Rat)(h:p.length<=n)(k:Nat):cf (Jp p q) k=Dk n (λi=>if i<=k then cf p i*cf q (k-i)else 0):=by
 unfold Jp;rw[Yd,Hy,<-Rl p q h];rfl
theorem Ln.sc{r:List Rat}(h:Ln K r)(j:d≠0):Ln K (Da d r):=by
 obtain⟨c,g,k⟩:=h;have e:d*(1/d)=1:=by rw[Fw];exact A4 j
 refine⟨(1/d)*c,XM (λa=>by rw[a,Rat.mul_zero]at e;exact absurd e DL) g,λi=>?_⟩;obtain⟨z,b,f⟩:=k i;exact⟨z,b,by rw[Yi,<-f];grind⟩
theorem Ln.mono{K L:Nat}{r:List Rat}(h:Ln K r)(e:K<=L):Ln L r:=by
 obtain⟨c,d,f⟩:=h;exact⟨c,d,λi=>by obtain⟨z,a,b⟩:=f i;exact⟨z,a.mono e,b⟩⟩
theorem Z2{N A B:Nat}(b:A=Y^K)(i:N+1<=1000000)(c:B=(2*(N+1)*A+1)^N):(N+1)*(A*B)<Y^((K+1)*(N+1)):=by
 have d:1<=A:=by rw[b];exact CA GQ
 have f:2*(N+1)*A+1<=Y^(K+1):=by
  have a:(2*(N+1)+1)*A<=Y*A:=Am _ uo;rw[AY,<-b,Av A];rw[AD,Ct]at a;exact Aw (Nat.add_le_add_left d _) a
 have g:(2*(N+1)*A+1)^(N+1)<=Y^((K+1)*(N+1)):=by rw[FJ];exact CM f _
 refine AJ ?_ g;have e:1<=B:=by rw[c];exact CA Z
 rw[AY,<-c,<-AG,Av B];refine(Nat.mul_lt_mul_right e).2 ?_;have:(N+1)*A<=2*(N+1)*A:=Am _ Z;omega
theorem QF(hp:Jd p=p)(hq:Jd q=q)(h1:Ln K p)(h2:Ln K q)(hl:p.length+q.length<=1000000)(hle:q.length<=p.length)(h:Eu p q a b)(U:b≠[]):Ln ((K+1)*(p.length+q.length)) (J5 a b):=by
 obtain⟨cp,am,ai⟩:=h1;obtain⟨cq,an,ak⟩:=h2;obtain⟨α,hα⟩:=Classical.axiomOfChoice ai;obtain⟨β,hβ⟩:=Classical.axiomOfChoice ak;have aw:=h.len hq;have av:0<b.length:=Aj.2 U;have Q:q≠[]:=λe=>by
  have d:q.length=0:=by rw[e];rfl
  omega
 have Qk:p≠[]:=λe=>by
  have d:p.length=0:=by rw[e];rfl
  omega
 obtain⟨s,hs⟩:=ex (q.length+1-b.length);obtain⟨t,ht⟩:=ex (p.length+1-b.length);obtain⟨N,hN⟩:=ex (s+t-1);obtain⟨A,hA⟩:=ex (Y^K);have ae:∀i,(α i).natAbs<=A:=λi=>by have:=(hα i).1;unfold Sm at this;omega
 have af:∀i,(β i).natAbs<=A:=λi=>by have:=(hβ i).1;unfold Sm at this;omega
 have M:s+t=N+1:=Z
 obtain⟨z,⟨m,az,ad⟩,E,aq⟩:=Zx N A (λk j=>if j<s then(if j<=b.length-1+k then α (b.length-1+k-j)else 0)else(if j-s<=b.length-1+k then β (b.length-1+k-(j-s))else 0)) (λk j=>by
  split
  . split
    . exact ae _
    . simp
  . split
    . exact af _
    . simp)
 obtain⟨B,S⟩:=ex ((2*(N+1)*A+1)^N);rw[S]at E;obtain⟨u,W⟩:=ex (Jd ((List.range s).map λj=>(z j:Rat)*cp));obtain⟨v,hv⟩:=ex (Jd ((List.range t).map λj=>(z (s+j):Rat)*cq));have r:Jd u=u:=by rw[<-W];exact Ya _
 have n:Jd v=v:=by rw[<-hv];exact Ya _
 have o:∀j,cf u j=if j<s then(z j:Rat)*cp else 0:=λj=>by rw[<-W,Yd,LX]
 have w:∀j,cf v j=if j<t then(z (s+j):Rat)*cq else 0:=λj=>by rw[<-hv,Yd,LX]
 have Qg:u.length<=s:=XB r λi V=>by rw[o,BH Z]
 have Ql:v.length<=t:=XB n λi V=>by rw[w,BH Z]
 obtain⟨g,D⟩:∃g:Nat->Int,∀i,g i=Ye s (λj=>if j<=i then z j*α (i-j)else 0)+Ye t (λj=>if j<=i then z (s+j)*β (i-j)else 0):=⟨_,λ_=>rfl⟩;have T:∀i,cf (XZ (Jp u p) (Jp v q)) i=(g i:Rat):=λi=>by
  rw[Rt,LH u p Qg,LH v q Ql,D,FI];congr 1
  . refine Mx λj f=>?_;split
    . rw[o,BJ f,Ax,<-(hα (i-j)).2];grind
    . rfl
  . refine Mx λj f=>?_;split
    . rw[w,BJ f,Ax,<-(hβ (i-j)).2];grind
    . rfl
 have Qj:∀i,(g i).natAbs<=(N+1)*(A*B):=λi=>by
  have d:(Ye s λj=>if j<=i then z j*α (i-j)else 0).natAbs<=s*(A*B):=LC λj _=>by
   split
   . rw[Cr,Av];exact Cz (ae _) (E _)
   . simp
  have R:(Ye t λj=>if j<=i then z (s+j)*β (i-j)else 0).natAbs<=t*(A*B):=LC λj _=>by
   split
   . rw[Cr,Av];exact Cz (af _) (E _)
   . simp
  have e3:=FD (Ye s λj=>if j<=i then z j*α (i-j)else 0) (Ye t λj=>if j<=i then z (s+j)*β (i-j)else 0);rw[<-D i]at e3;rw[<-M,AD];omega
 have Qm:(XZ (Jp u p) (Jp v q)).length<b.length:=by
  have:(XZ (Jp u p) (Jp v q)).length<=b.length-1:=XB (H7 _ _) λi V=>by
   by_cases ay:i<b.length-1+N
   . rw[T];have e:=aq (i-(b.length-1)) Z;rw[<-M,Z1]at e;have d:Ye s (λj=>if j<=i then z j*α (i-j)else 0)=Ye s (λj=>(if j<s then(if j<=b.length-1+(i-(b.length-1))then α (b.length-1+(i-(b.length-1))-j)else 0)else(if j-s<=b.length-1+(i-(b.length-1))then β (b.length-1+(i-(b.length-1))-(j-s))else 0))*z j):=QD λj f=>by
      rw[BJ f,show b.length-1+(i-(b.length-1))=i from by omega];split
      . exact CW _ _
      . simp
     have R:Ye t (λj=>if j<=i then z (s+j)*β (i-j)else 0)=Ye t (λj=>(if s+j<s then(if s+j<=b.length-1+(i-(b.length-1))then α (b.length-1+(i-(b.length-1))-(s+j))else 0)else(if s+j-s<=b.length-1+(i-(b.length-1))then β (b.length-1+(i-(b.length-1))-(s+j-s))else 0))*z (s+j)):=QD λj f=>by
      rw[BH (show ¬s+j<s by omega),show b.length-1+(i-(b.length-1))=i from by omega,show s+j-s=j from by omega];split
      . exact CW _ _
      . simp
     rw[D,d,R,e];rfl
   . refine J6 ?_;have l1:=Rv (Jp u p) (Jp v q);by_cases X:u=[]
     . have y:Jp u p=[]:=by rw[X];rfl
       by_cases l:v=[]
       . have d:Jp v q=[]:=by rw[l];rfl
         rw[y,d];exact AK _
       . have l3:=JD n hq l Q;rw[y,AF]at l1;rw[y];omega
     . have l2:=JD r hp X Qk;by_cases l:v=[]
       . have d:Jp v q=[]:=by rw[l];rfl
         rw[d,AF]at l1;rw[d];omega
       . have l3:=JD n hq l Q;omega
  omega
 have Qh:u≠[]\/v≠[]:=by
  by_cases ap:m<s
  . left
    intro e;have:=o m;rw[e,Yy,BJ ap]at this;exact XM (by exact_mod_cast ad) am this.symm
  . right
    intro e;have:=w (m-s);rw[e,Yy,BJ Z,show s+(m-s)=m from by omega]at this;exact XM (by exact_mod_cast ad) an this.symm
 obtain⟨c,hc,ah⟩:=Z0 h hp hq U u v _ r n (H7 _ _) Z Z Qh Qm (λx=>by rw[Y6,Jj,Jj]);refine⟨c,hc,λi=>⟨g i,?_,by rw[<-Yi,<-ah,T]⟩⟩;have Qi:=Z2 hA.symm Z S.symm;have h5:(K+1)*(N+1)<=(K+1)*(p.length+q.length):=As _ Z;unfold Sm;exact Cf (Qj i) (AJ Qi (Az GQ h5))
theorem Z3(hp:Jd p=p)(hq:Jd q=q)(h:p.length<q.length):J5 p q=p:=
 ((LF (p:=p) hq (λe=>by rw[e]at h;simp at h) (u:=[]) (v:=p) rfl hp h λx=>by simp[ev];grind).2).symm
theorem Z4{K:Nat}{p q a b:List Rat}(hp:Jd p=p)(hq:Jd q=q)(d:Ln K p)(e:Ln K q)(hl:p.length+q.length<=1000000)(h:Eu p q a b)(f:b≠[]):Ln ((K+1)*(p.length+q.length)) (J5 a b):=by
 by_cases hle:q.length<=p.length
 . exact QF hp hq d e hl hle h f
 . have hs:=Z3 hp hq Z;cases h with
   |base=>rw[hs];exact d.mono (by
    have:(K+1)*1<=(K+1)*(p.length+q.length):=As _ Z;omega)
   |step _ _ c _ _ k g hE=>
    rw[hs]at hE;have i:=Yf g hp;have j:=QF hq (JP c p) e (d.sc g) Z Z hE f;rwa[i,Fb q.length]at j
theorem IW(a:c≠0):1/c≠0:=λe=>by
 have h:(1/c)*c=1:=A4 a;rw[e,Cx]at h;exact absurd h DL
def Jq(p:List Rat):List Rat:=Da (1/cf p (p.length-1)) p
theorem Z6:Jq []=[]:=rfl
theorem Yu(p:List Rat):Jd (Jq p)=Jq p:=JP _ _
theorem LI(b:c≠0)(hp:Jd p=p):Jq (Da c p)=Jq p:=by
 by_cases a:p=[]
 . subst a;rfl
 . unfold Jq;rw[Yf b hp,Yi,LD];have hl:=Jw hp a;congr 1;obtain⟨l,e⟩:=ex (cf p (p.length-1));rw[e]at hl ⊢;have d:(1/(l*c))*(l*c)=1:=A4 (XM hl b);grind
theorem LJ(hp:Jd p=p)(a:p≠[]):Jq p≠[]:=IV (IW (Jw hp a)) hp a
theorem Xq(hp:Jd p=p):(Jq p).length=p.length:=by
 by_cases a:p=[]
 . subst a;rfl
 . exact Yf (IW (Jw hp a)) hp
theorem LK(hp:Jd p=p)(a:p≠[]):cf (Jq p) ((Jq p).length-1)=1:=by
 rw[Xq hp];unfold Jq;rw[Yi,Fw];exact A4 (Jw hp a)
theorem Jx(hp:Jd p=p):Jq (Jq p)=Jq p:=by
 by_cases a:p=[]
 . subst a;rfl
 . exact LI (IW (Jw hp a)) hp
def X8:Nat->List Rat->List Rat->List Rat
 |0,p,_=>Jq p
 |n+1,p,q=>if q=[]then Jq p else X8 n q (J5 p q)
def Jn(p q:List Rat):List Rat:=X8 q.length p q
theorem Z7:∀(n m:Nat) (p q:List Rat),Jd q=q->q.length<=n->q.length<=m->X8 n p q=X8 m p q:=by
 intro n;induction n with
 |zero=>
  intro m p q _ h _;have hq:q=[]:=LE Z;subst hq;cases m with
  |zero=>rfl
  |succ m=>simp[X8]
 |succ n b=>
  intro m p q hq h c;by_cases a:q=[]
  . subst a;cases m with
    |zero=>simp[X8]
    |succ m=>simp[X8]
  . have hl:0<q.length:=Aj.2 a;cases m with
    |zero=>omega
    |succ m=>
     have d:=(YW p q hq a).2.1;simp only[X8,BH a];exact b m q (J5 p q) (Y2 _ _) Z Z
theorem QG(p:List Rat):Jn p []=Jq p:=rfl
theorem Z8(hq:Jd q=q)(a:q≠[]):Jn p q=Jn q (J5 p q):=by
 have c:=(YW p q hq a).2.1;have hl:0<q.length:=Aj.2 a;unfold Jn;obtain⟨n,b⟩:∃n,q.length=n+1:=⟨q.length-1,Z⟩;rw[b,X8,BH a];exact Z7 _ _ _ _ (Y2 _ _) Z (Aa _)
theorem Z9:∀(n:Nat) (c d:Rat) (p q:List Rat),c≠0->d≠0->Jd p=p->Jd q=q->X8 n (Da c p) (Da d q)=X8 n p q:=by
 intro n;induction n with
 |zero=>intro c d p q b _ hp _;exact LI b hp
 |succ n f=>
  intro c d p q b e hp hq;by_cases a:q=[]
  . subst a;simp only[X8,Zz,BJ];exact LI b hp
  . simp only[X8,BH a,BH (IV e hq a)];rw[(LG e p q hq a).2];exact f d c q (J5 p q) e b hq (Y2 _ _)
theorem QH(b:c≠0)(a:d≠0)(hp:Jd p=p)(hq:Jd q=q):Jn (Da c p) (Da d q)=Jn p q:=by
 unfold Jn;rw[Yf a hq];exact Z9 _ _ _ _ _ b a hp hq
theorem Eu.gcd(h:Eu p q a b):Jd p=p->Jd q=q->Jn p q=Jn a b:=by
 induction h with
 |base p q=>exact λ_ _=>rfl
 |step p q c a b f e _ g=>
  intro hp hq;rw[<-g hq (JP _ _),Z8 hq f];have d:=QH (c:=1) DL e hq (Y2 p q);rw[IU hq]at d;exact d.symm
theorem aA:∀(n:Nat) (p q:List Rat),Jd (X8 n p q)=X8 n p q:=by
 intro n;induction n with
 |zero=>intro p q;exact Yu _
 |succ n a=>
  intro p q;rw[X8];split
  . exact Yu _
  . exact a _ _
theorem JK(p q:List Rat):Jd (Jn p q)=Jn p q:=aA _ _ _
theorem Ge(c:Rat):c*(c.den:Rat)=(c.num:Rat):=by
 have d:((c.den:Int):Rat)≠0:=by exact_mod_cast c.den_nz
 have a:=C2 c;rw[Cs]at a;have b:(c.num:Rat)/((c.den:Int):Rat)*((c.den:Int):Rat)=c.num:=A4 d;rw[a,AM]at b;exact b
theorem dvd_one{a b c:Int}(h:a∣b*c)(e:Nat.gcd a.natAbs c.natAbs=1):a∣b:=by
 have d:=FB.2 h;rw[Cr]at d;exact FB.1 (Nat.Coprime.dvd_of_dvd_mul_right e d)
theorem aB{n:Int}(h:c*(D:Rat)=(n:Rat)):(c.den:Int)∣D/\c.num*D=n*c.den:=by
 have b:c*(c.den:Rat)=(c.num:Rat):=Ge c;have d:((c.num*D:Int):Rat)=((n*(c.den:Int):Int):Rat):=by
  rw[Ax,Ax,<-b,<-h];show c*(c.den:Rat)*(D:Rat)=c*(D:Rat)*((c.den:Int):Rat);rw[AM];grind
 have a:c.num*D=n*c.den:=Rat.intCast_inj.1 d;refine⟨?_,a⟩;have e:(c.den:Int)∣D*c.num:=⟨n,by rw[CW D,a,CW]⟩;refine dvd_one e ?_;show Nat.gcd (c.den:Int).natAbs c.num.natAbs=1;rw[AC,CY];exact c.reduced
theorem aC{L G:Int}(V:∀i,((cf p i).den:Int)∣L)(W:∀u:Int,(∀i,((cf p i).den:Int)∣u)->L∣u)(T:∀i,G∣(cf p i).num)(U:∀v:Int,(∀i,v∣(cf p i).num)->v∣G)(s:G≠0)(h:Ln K p):
 ∀i,∃z:Int,Sm K z/\cf p i*((L:Rat)/(G:Rat))=(z:Rat):=by
 obtain⟨c,X,hz⟩:=h;have E:c.num≠0:=λe=>X (FH.1 e);have A:(c.den:Int)≠0:=by have:=c.den_nz;omega
 have k:∀i,∃z:Int,Sm K z/\(cf p i).num*c.num=z*((cf p i).den*c.den):=λi=>by
  obtain⟨z,l,n⟩:=hz i;refine⟨z,l,?_⟩;have N:c*(c.den:Rat)=(c.num:Rat):=Ge c;have a:cf p i*((cf p i).den:Rat)=((cf p i).num:Rat):=Ge _;have Q:(((cf p i).num*c.num:Int):Rat)=((z*(((cf p i).den:Int)*(c.den:Int)):Int):Rat):=by
   rw[Ax,Ax,Ax,AM,AM,<-N,<-a,<-n];grind
  exact Rat.intCast_inj.1 Q
 have g:L∣c.num:=W _ λi=>by
  obtain⟨z,_,e⟩:=k i;have b:((cf p i).den:Int)∣(cf p i).num*c.num:=⟨z*c.den,by rw[e,Int.mul_left_comm]⟩;rw[CW]at b;refine dvd_one b ?_;show Nat.gcd ((cf p i).den:Int).natAbs (cf p i).num.natAbs=1;rw[AC,CY];exact(cf p i).reduced
 have j:(c.den:Int)∣G:=U _ λi=>by
  obtain⟨z,_,e⟩:=k i;have b:(c.den:Int)∣(cf p i).num*c.num:=⟨z*(cf p i).den,by rw[e,<-Fp,CW]⟩;refine dvd_one b ?_;show Nat.gcd (c.den:Int).natAbs c.num.natAbs=1;rw[AC,CY];exact c.reduced
 obtain⟨u,g⟩:=g;obtain⟨v,j⟩:=j;have M:u≠0:=λe=>E (by rw[g,e,Int.mul_zero]);have x:v≠0:=λe=>s (by rw[j,e,Int.mul_zero]);intro i;obtain⟨e,t⟩:=V i;obtain⟨m,w⟩:=T i;obtain⟨z,l,n⟩:=k i;have hd:((cf p i).den:Int)≠0:=by have:=(cf p i).den_nz;omega
 have D:z=m*e*(u*v):=by
  have R:z*(((cf p i).den:Int)*c.den)=m*e*(u*v)*(((cf p i).den:Int)*c.den):=by
   rw[<-n,w,g,j,t];generalize ((cf p i).den:Int)=d;generalize (c.den:Int)=f;grind
  exact Int.eq_of_mul_eq_mul_right (Cv hd A) R
 refine⟨m*e,l.le ?_,?_⟩
 . rw[D,Cr (m*e)];have:0<(u*v).natAbs:=Int.natAbs_pos.2 (Cv M x);exact Cb _ this
 . have q:(G:Rat)≠0:=by exact_mod_cast s
   have a:cf p i*((cf p i).den:Rat)=((cf p i).num:Rat):=Ge _;rw[w,Ax]at a;have y:(L:Rat)=((cf p i).den:Rat)*(e:Rat):=by rw[t,Ax,AM]
   have o:(L:Rat)/(G:Rat)*(G:Rat)=L:=A4 q;have S:(cf p i*((L:Rat)/(G:Rat))-((m*e:Int):Rat))*(G:Rat)=0:=by
    rw[Ax];generalize (L:Rat)/(G:Rat)=f at o ⊢;rw[y]at o;generalize ((cf p i).den:Rat)=d at a o;grind
   rcases C8.1 S with r|r
   . grind
   . exact absurd r q
def YM(p:List Rat):Nat->Nat
 |0=>1
 |n+1=>Nat.lcm (YM p n) (cf p n).den
def YD(p:List Rat):Nat->Nat
 |0=>0
 |n+1=>Nat.gcd (YD p n) (cf p n).num.natAbs
theorem QI(p:List Rat):∀n,0<YM p n:=by
 intro n;induction n with
 |zero=>exact Nat.one_pos
 |succ n a=>exact Nat.lcm_pos a (cf p n).den_pos
theorem My(p:List Rat):∀n i,i<n->(cf p i).den∣YM p n:=by
 intro n;induction n with
 |zero=>intro i h;omega
 |succ n a=>
  intro i h;rw[YM];by_cases e:i=n
  . subst e;exact Nat.dvd_lcm_right _ _
  . exact Nat.dvd_trans (a i Z) (Nat.dvd_lcm_left _ _)
theorem Mz(p:List Rat)(u:Nat)(h:∀i,(cf p i).den∣u):∀n,YM p n∣u:=by
 intro n;induction n with
 |zero=>exact Nat.one_dvd _
 |succ n a=>exact Nat.lcm_dvd a (h n)
theorem NA(p:List Rat):∀n i,i<n->YD p n∣(cf p i).num.natAbs:=by
 intro n;induction n with
 |zero=>intro i h;omega
 |succ n a=>
  intro i h;rw[YD];by_cases e:i=n
  . subst e;exact CR _ _
  . exact Nat.dvd_trans (Fg _ _) (a i Z)
theorem QJ(p:List Rat)(v:Nat)(h:∀i,v∣(cf p i).num.natAbs):∀n,v∣YD p n:=by
 intro n;induction n with
 |zero=>exact Nat.dvd_zero _
 |succ n a=>exact Nat.dvd_gcd a (h n)
theorem QK(hD:D≠0)(h:CD D K c):∃n:Int,Sm K n/\c*(D:Rat)=(n:Rat):=by
 obtain⟨n,rfl,h⟩:=h;refine⟨n,h,?_⟩;have a:(D:Rat)≠0:=by exact_mod_cast hD
 rw[Cs];exact A4 a
theorem LL{n:Int}(hD:D≠0)(b:Sm K n)(h:c*(D:Rat)=(n:Rat)):CD D K c:=by
 refine⟨n,?_,b⟩;have a:(D:Rat)≠0:=by exact_mod_cast hD
 rw[Cs,<-h];exact(Rat.mul_div_cancel a).symm
theorem QL(hD:D≠0)(hs:Sm K D)(h:D9 D K p)(n:Nat):Sm K (YM p n:Int):=by
 refine hs.le ?_;rw[AC];refine Nat.le_of_dvd (Int.natAbs_pos.2 hD) (Mz p _ (λi=>?_) n);obtain⟨z,_,e⟩:=QK hD (h i);have:=(aB e).1;exact CI.1 this
theorem QM(h:∀i,Sm K (cf p i).num):∀n,Sm K (YD p n:Int):=by
 intro n;induction n with
 |zero=>exact Sm.zero K
 |succ n a=>exact Sm.gcd a (h n)
theorem D9.ln(hD:D≠0)(h:D9 D K p):Ln K p:=
 ⟨(D:Rat),by exact_mod_cast hD,λi=>QK hD (h i)⟩
theorem KA(hp:Jd p=p)(a:p≠[]):YD p p.length≠0:=λe=>by
 have hl:0<p.length:=Aj.2 a;have b:=NA p p.length (p.length-1) Z;rw[e]at b;have c:(cf p (p.length-1)).num.natAbs=0:=Nat.zero_dvd.1 b;exact Jw hp a (FH.1 (Int.natAbs_eq_zero.1 c))
def J1(p:List Rat):List Rat:=Da ((YM p p.length:Rat)/(YD p p.length:Rat)) p
theorem aD(hp:Jd p=p)(a:p≠[]):0<(YM p p.length:Rat)/(YD p p.length:Rat):=by
 have b:(0:Rat)<(YM p p.length:Rat):=by exact_mod_cast QI p _
 have c:(0:Rat)<(YD p p.length:Rat):=by exact_mod_cast Nat.pos_of_ne_zero (KA hp a)
 rw[Ft];exact Rat.mul_pos b (Rat.inv_pos.2 c)
theorem QN(hp:Jd p=p)(d:p≠[])(h:Ln K p):∀i,∃z:Int,Sm K z/\cf (J1 p) i=(z:Rat):=by
 have c:∀i,p.length<=i->cf p i=0:=λi a=>J6 a;have e:=aC (p:=p) (L:=(YM p p.length:Int)) (G:=(YD p p.length:Int)) (λi=>by
  by_cases a:i<p.length
  . exact Int.natCast_dvd_natCast.2 (My p _ i a)
  . rw[c i Z];exact Int.one_dvd _) (λu g=>by
  refine CI.2 (Mz p _ (λi=>CI.1 (g i)) _)) (λi=>by
  by_cases a:i<p.length
  . exact CI.2 (NA p _ i a)
  . rw[c i Z];exact Int.dvd_zero _) (λv j=>by
  have:v.natAbs∣YD p p.length:=QJ p _ (λi=>FB.2 (j i)) _;exact Int.natAbs_dvd.1 (Int.natCast_dvd_natCast.2 this)) (by have:=KA hp d;omega) h
 intro i;obtain⟨z,f,b⟩:=e i;refine⟨z,f,?_⟩;unfold J1;rw[Yi];rw[AM,AM]at b;exact b

