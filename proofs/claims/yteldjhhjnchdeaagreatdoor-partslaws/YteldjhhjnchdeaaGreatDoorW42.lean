import Derived.Test.YteldjhhjnchdeaaGreatDoorW41
open Go.Value renaming slice->B,pointer->F,int->H,bool->L,agg->P
open Go renaming undef->C
open Go.Obj renaming cells->G
open Go.IntKind renaming i64->I
set_option maxRecDepth 100000
set_option maxHeartbeats 16000000
namespace Go.Proofs.YteldjhhjnchdeaaGreatDoor
namespace M3
open Go.RowKit Go.Shelf
attribute [local go_sem] Oper.semAt_some
def I5(w V:World)(B5 b c:Nat)(rs a:Value)(R:List Rat):Prop:=
 Boxed V (w.heap.size+1+1) 25 (B none 0 0)/\Boxed V (w.heap.size+1+1+1) 25 (B none 0 0)/\Boxed V B5 23 rs/\Boxed V b 23 a/\Boxed V c 23 a/\RowK true V rs R/\Bl w V
variable{S ps:List Rat}{n:Nat}{row:Option Nat}{V V':World}
theorem boxed_own(a:V.grownBy V' row)(b:∀r,row=some r->∃o:Obj,V.heap[r]?=some o/\o.isCells=false){B:Nat}{t:TypeId}{v:Value}(h:Boxed V B t v):Boxed V' B t v:=Y8 a b (show Bx V B t #[v]from h)
theorem I5.own{w:World}{B5 c d:Nat}{rs g:Value}{R:List Rat}(h:I5 w V B5 c d rs g R)(a:V.grownBy V' row)(f:∀x,row=some x->w.heap.size<=x/\∃o:Obj,V.heap[x]?=some o/\o.isCells=false):I5 w V' B5 c d rs g R:=by
 have b:∀r,row=some r->∃o:Obj,V.heap[r]?=some o/\o.isCells=false:=λr e=>(f r e).2;exact⟨boxed_own a b h.1,boxed_own a b h.2.1,boxed_own a b h.2.2.1,boxed_own a b h.2.2.2.1,boxed_own a b h.2.2.2.2.1,Ho a b h.2.2.2.2.2.1,h.2.2.2.2.2.2.grown a h.2.2.2.2.2.2.size λk e=>(f k e).1⟩
theorem row_zero(V:World)(a:Option Addr):RowK true V (B a 0 0) []:=⟨a,0,rfl,Aa _,Y,O,Or.inl rfl⟩
theorem ZV(x:Value)(ps:List Rat)(y:Value)(w:World)(t:Jc w x ps)(m:Jc w y []):
 Calls Tryz.prog 22 #[x,y] w λe n=>e=.returned (.tuple #[P #[B none 0 0],P #[B none 0 0],L false])/\Bl w n:=by
 obtain⟨f,la,g,rfl⟩:=t.form;obtain⟨b,lb,c,rfl⟩:=m.form;have j:Mem w _ _:=((((Mem.nil w).push (.cell 25 (B f la g)) (cs:=#[B f la g]) ⟨rfl,rfl⟩).push (.cell 25 (B b lb c)) (cs:=#[B b lb c]) ⟨rfl,rfl⟩).push (.cell 25 (B none 0 0)) (cs:=#[B none 0 0]) ⟨rfl,rfl⟩).push (.cell 25 (B none 0 0)) (cs:=#[B none 0 0]) ⟨rfl,rfl⟩;simp only[BA]at j;obtain⟨d,l⟩:=ex ((((w.alloc (G #[B f la g] 25)).alloc (G #[B b lb c] 25)).alloc (G #[B none 0 0] 25)).alloc (G #[B none 0 0] 25));have k:Mem w d [some (w.heap.size,.cell 25 (B f la g)),some (w.heap.size+1,.cell 25 (B b lb c)),some (w.heap.size+1+1,.cell 25 (B none 0 0)),some (w.heap.size+1+1+1,.cell 25 (B none 0 0))]:=by rw[<-l];exact j
 obtain⟨q,r,A⟩:=Dh (show Calls Tryz.prog 20 #[P #[B b lb c]] d λe n=>e=.returned (H I (-1))/\Bl d n from Ya (P #[B b lb c]) [] d (m.below k.2.2)) k l;clear t m j k l;go_enter Tryz.func22,Tryz.ntmps22
 go_upto_region 1 with fail
 rw[A.o];have c1:=(r.o.cell (i:=1) rfl).1.cell;go_wp2_with(go_at_call 20;refine q.o.mono ?_;clear q;rintro e o ⟨rfl,u⟩;have s:Bl o (o.alloc (G #[H I (-1)] 3)):=Ba o _;have a:=(r.o.below u).below s;have D:=(a.cell (i:=2) rfl).1.cell;have f2:=(a.cell (i:=2) rfl).1.frozen;have E:=(a.cell (i:=3) rfl).1.cell;have f3:=(a.cell (i:=3) rfl).1.frozen;have z:=Z a.2.2;clear s a u)
 refine BB (v:=.tuple #[P #[B none 0 0],P #[B none 0 0],L false]) (by simp[results,Tryz.results22,go_sem,D,E]) rfl ⟨rfl,?_⟩;exact((z.o.setCell (p:=⟨w.heap.size+1+1,0,none⟩) (by show w.heap.size<=w.heap.size+1+1;omega) _).setCell (p:=⟨w.heap.size+1+1+1,0,none⟩) (by show w.heap.size<=w.heap.size+1+1+1;omega) _)
theorem ZW(M z:Option Addr)(la N lb A n:Nat)(ps qs:List Rat)(w:World)(ha:RowK true w (B M la N) ps)(hb:RowK true w (B z lb A) qs)(hs:Sqs ps)(bg:Jd ps=ps)(hn:lb=n+1)(hm:la<=n):
 Calls Tryz.prog 22 #[P #[B M la N],P #[B z lb A]] w λe w'=>∃u v,e=.returned (.tuple #[u,v,L true])/\Jc w' u []/\Jc w' v ps/\Bl w w':=by
 have Qz:Tryz.prog.follows .mixedOrders=true:=by kernel_rfl
 obtain⟨bf,bh,bj,bz,_⟩:=ha.forms;obtain⟨bt,bi,bm,ce,_⟩:=hb.forms;have M0:Mem w _ _:=((((Mem.nil w).push (.cell 25 (B M la N)) (cs:=#[B M la N]) ⟨rfl,rfl⟩).push (.cell 25 (B z lb A)) (cs:=#[B z lb A]) ⟨rfl,rfl⟩).push (.cell 25 (B none 0 0)) (cs:=#[B none 0 0]) ⟨rfl,rfl⟩).push (.cell 25 (B none 0 0)) (cs:=#[B none 0 0]) ⟨rfl,rfl⟩;simp only[BA]at M0;obtain⟨V0,ap⟩:=ex ((((w.alloc (G #[B M la N] 25)).alloc (G #[B z lb A] 25)).alloc (G #[B none 0 0] 25)).alloc (G #[B none 0 0] 25));have M1:Mem w V0 [some (w.heap.size,.cell 25 (B M la N)),some (w.heap.size+1,.cell 25 (B z lb A)),some (w.heap.size+1+1,.cell 25 (B none 0 0)),some (w.heap.size+1+1+1,.cell 25 (B none 0 0))]:=by rw[<-ap];exact M0
 have Qw:=Z M1;have Qv:=Z (show Calls Tryz.prog 20 #[P #[B z lb A]] V0 λe w'=>e=.returned (H I (n:Int))/\Bl V0 w' by
  have h:=Ya (P #[B z lb A]) qs V0 ⟨_,rfl,hb.below M1.2.2⟩;rwa[show((qs.length:Int)-1)=(n:Int)by omega]at h)
 have Qs:=Z λ(V:World) (h:Bl w V)=>Pd (B M la N) ps V (ha.below h);have ck:∀W:World,(Instr.makeSlice 23 (H I 0) (H I 0)).run Tryz.prog W=.ok (B (some ⟨W.heap.size,0,none⟩) 0 0) (W.alloc (G (J4 0) 65)):=λW=>IG 0 Y W;obtain⟨x,hx⟩:=ex ((la:Int)-(n:Int):Int);have cl:IntKind.i64.wrap x=x:=by rw[BZ];omega
 have ci:max (0:Int) x=0:=Y
 obtain⟨Ua,Uf,Ud,Qu⟩:=EA hs bg bf ap;clear ha hb bf bt bh bj bi bm hs bg hn hm M0 M1 ap;refine(BG (n:=3)).1 ?_;refine BT Tryz.func22 rfl trivial ?_ rfl;simp only[Tryz.ntmps22,Ar,Ao,AG,Nat.reduceAdd,Nat.reduceSub,AA,AB,AR,AJ,At,AF];gi_wp2_with fail
 rw[Qu.o];refine⟨trivial,?_⟩;refine((BG (n:=_)).2 Qv.o).mono ?_;rintro e w1 ⟨rfl,ba⟩;have Qm:Bl w1 (w1.alloc (G #[H I (n:Int)] 3)):=Ba w1 _;have Qi:=(Qw.o.below ba).below Qm;have h4:=BL w1 3 (H I (n:Int));have c0:=(Qi.cell (i:=0) rfl).1.cell;obtain⟨Qe,Qk,H4⟩:=Dh (Qs.o _ Qi.2.2) Qi h4;clear Qm Qi h4 ba Qv Qu Qw Qs;gi_wp2_with fail
 obtain⟨V1,aq⟩:=ex (w1.alloc (G #[H I (n:Int)] 3));obtain⟨B4,ak⟩:=ex (w1.heap.size);rw[aq]at Qe Qk H4 c0;rw[ak]at H4;rw[aq,ak];clear aq ak;refine⟨trivial,?_⟩;refine((BG (n:=_)).2 Qe.o).mono ?_;rintro e d ⟨u2,rfl,ay,_,ae,_⟩;obtain⟨f,rc,e9,_⟩:=id ay;rw[<-Ud.o]at e9;subst e9;have Qn:=Qk.o.below ae;have h4:Boxed d B4 3 (H I (n:Int)):=(ae.block B4 H4.o.lt).trans H4.o;have Ql:Bl d (d.alloc (G #[B f la rc] 23)):=Ba d _;have Qo:=Qn.push (.cell 23 (B f la rc)) (cs:=#[B f la rc]) ⟨rfl,rfl⟩;have h5:Boxed (d.alloc (G #[B f la rc] 23)) B4 3 (H I (n:Int)):=(Ql.block B4 h4.lt).trans h4;have c4:=h5.cell;have Qp:=Z Qo;have Qt:=Z (ay.below Ql);clear ay ae Qn h4 Ql Qo h5 Qk H4 Qe c0;gi_wp2_with fail
 refine⟨trivial,?_⟩;refine(Kr Fence.wide _ trivial rfl _ _ _ _).mono ?_;rintro e w3 ⟨rfl,rfl⟩;have S:=((Qp.o.push (.rats (List.replicate 0 0)) (I4 _ 0)).push (.cell 23 (B (some ⟨d.heap.size+1,0,none⟩) 0 0)) (cs:=#[B (some ⟨d.heap.size+1,0,none⟩) 0 0]) ⟨rfl,rfl⟩).push (.cell 23 (B (some ⟨d.heap.size+1,0,none⟩) 0 0)) (cs:=#[B (some ⟨d.heap.size+1,0,none⟩) 0 0]) ⟨rfl,rfl⟩;simp only[BA]at S;have Qq:Below (d.alloc (G #[B f la rc] 23)).heap.size (d.alloc (G #[B f la rc] 23)) ((((d.alloc (G #[B f la rc] 23)).alloc (G (J4 0) 65)).alloc (G #[B (some ⟨d.heap.size+1,0,none⟩) 0 0] 23)).alloc (G #[B (some ⟨d.heap.size+1,0,none⟩) 0 0] 23)):=
  ((Ba _ _).alloc (by simp only[BA];omega) _).alloc (by simp only[BA];omega) _
 have hF:I5 w ((((d.alloc (G #[B f la rc] 23)).alloc (G (J4 0) 65)).alloc (G #[B (some ⟨d.heap.size+1,0,none⟩) 0 0] 23)).alloc (G #[B (some ⟨d.heap.size+1,0,none⟩) 0 0] 23)) d.heap.size (d.heap.size+1+1) (d.heap.size+1+1+1) (B f la rc) (B (some ⟨d.heap.size+1,0,none⟩) 0 0) ps:=
  ⟨(S.cell (i:=2) rfl).1,(S.cell (i:=3) rfl).1,(S.cell (i:=4) rfl).1,(S.cell (i:=6) rfl).1,(S.cell (i:=7) rfl).1,Qt.o.below Qq,S.2.2⟩
 obtain⟨W3,av⟩:=ex ((((d.alloc (G #[B f la rc] 23)).alloc (G (J4 0) 65)).alloc (G #[B (some ⟨d.heap.size+1,0,none⟩) 0 0] 23)).alloc (G #[B (some ⟨d.heap.size+1,0,none⟩) 0 0] 23));rw[av]at hF;rw[av];simp only[BA];obtain⟨B5,am⟩:=ex (d.heap.size);rw[am]at hF;rw[am];have HF:=Z hF;clear S Qq hF av am Qp Qt c4;gi_wp2_with fail
 have Qr:=Z (show w.heap.size<=W3.heap.size from HF.o.2.2.2.2.2.2.size);refine YH rfl Y (gf:=67) (lb:=#[F (some ⟨B5+1+1+1,0,none⟩)]) rfl trivial (B0 Tryz.func67 (by kernel_rfl) rfl)
  (Kq Fence.wide _ trivial rfl Y (B5+1+1+1) (some ⟨B5+1,0,none⟩) 0 0 (λ_=>L false) (λ_=>B none 0 0) (λ_=>L false) (λ_=>B none 0 0) Y) (λ_=>rfl)
  (λ_ W=>I5 w W B5 (B5+1+1) (B5+1+1+1) (B f la rc) (B (some ⟨B5+1,0,none⟩) 0 0) ps) (λ_ _ _=>False)
  (λk W W' row h hg hr=>h.own hg λr e=>⟨Aw Qr.o (hr r e).1,(hr r e).2⟩)
  (λc s W W' row h=>h.elim) HF.o ?rd
  (λk=>{ tmps:=#[P #[B M la N],P #[B z lb A],F (some ⟨w.heap.size,0,none⟩),F (some ⟨w.heap.size+1,0,none⟩),F (some ⟨w.heap.size+1+1,0,none⟩),F (some ⟨w.heap.size+1+1+1,0,none⟩),L false,F (some ⟨B4,0,none⟩),F (some ⟨B5,0,none⟩),F (some ⟨B5+1+1,0,none⟩),H I (((0:Nat):Int)-1-k),C,C,C,C,P #[B z lb A],H I ↑n,H I ↑n,L (decide ((n:Int)<0)),C,C,F (some ⟨w.heap.size,0,none⟩),B M la N,B f la rc,B f la rc,H I ↑la,H I ↑n,H I x,H I 0,B (some ⟨B5+1,0,none⟩) 0 0,B (some ⟨B5+1,0,none⟩) 0 0,.func (.func 67) #[] #[F (some ⟨B5+1+1+1,0,none⟩)],H I (((0:Nat):Int)-1-k),P #[L false,B none 0 0,L false,B none 0 0],C,C,C,C,C,C,C,C,C,C,C,C,C,C,C,C,C,C,C,C,C,C,C,C,C,C,C,C,C,C,C,C,C,C,C,C,C,C,C,C,C,C,C,C,C,C,C],defers:=[] }) ?assign ?body ?done ?stop
 case stop=>intro D c k W _ _ h;exact h.elim
 case rd=>
  intro k W h;exact⟨h.2.2.2.2.1.cell,λhk=>by omega⟩
 case assign=>
  intro l k W K hK;unfold IF;gi_wp2;exact hK
 case body=>intro l k W T hk;omega
 case done=>
  intro q W hD T hK;have Qx:GW w W.drew q B5 (B5+1+1) (B f la rc) (B (some ⟨B5+1,0,none⟩) 0 0) ps []:=
   GW.below ⟨T.1,T.2.1,T.2.2.1,T.2.2.2.1,T.2.2.2.2.2.1,row_zero _ _,T.2.2.2.2.2.2,hK⟩ ((BE _ W).drew)
  have Ub:K1 false w W.drew q C:=λe=>by cases e
  have Qy:=Z (show w.heap.size<=q by have:=Qr.o;omega);have Uc:=Z (show Sqs []from Sqs.of λi=>Sq.of (k:=1) (by rw[Yx];exact DV.zero 1 Y) Y);clear T hK HF;gi_wp2_with fail
  refine J1 Qz [[],[0],[],[2,1],[1,3,0,1],[3,4,0,1,2,3,4],[5,0,1,2,3,4,5]] (by kernel_rfl) DL
   (λD ai V=>∃(tb tc td te ta:Value),ai={ tmps:=#[P #[B M la N],P #[B z lb A],F (some ⟨w.heap.size,0,none⟩),F (some ⟨w.heap.size+1,0,none⟩),F (some ⟨w.heap.size+1+1,0,none⟩),F (some ⟨w.heap.size+1+1+1,0,none⟩),ta,F (some ⟨B4,0,none⟩),F (some ⟨B5,0,none⟩),F (some ⟨B5+1+1,0,none⟩),C,C,C,C,C,P #[B z lb A],H I ↑n,H I ↑n,L (decide ((n:Int)<0)),C,C,F (some ⟨w.heap.size,0,none⟩),B M la N,B f la rc,B f la rc,H I ↑la,H I ↑n,H I x,H I 0,B (some ⟨B5+1,0,none⟩) 0 0,B (some ⟨B5+1,0,none⟩) 0 0,.func (.func 67) #[] #[F (some ⟨B5+1+1+1,0,none⟩)],C,C,C,C,C,C,C,C,C,C,C,C,C,C,C,C,C,C,C,C,C,C,C,C,C,C,C,C,C,C,C,C,C,C,C,C,C,C,C,C,C,C,C,C,C,tb,tc,td,te],defers:={ target:=.collected q,args:=#[] }::[] }/\Hid ((D 0=true->tb=B (some ⟨B5+1,0,none⟩) 0 0)/\(D 1=true->D 5=false->Jc V tc (Jd []))/\(D 2=true->td=B f la rc)/\(D 3=true->D 5=false->Jc V te (Jd ps))/\(D 6=true->ta=L true))/\Hid ((D 4=false->GW w V q B5 (B5+1+1) (B f la rc) (B (some ⟨B5+1,0,none⟩) 0 0) ps [])/\(D 4=true->IP V))/\Hid ((D 5=false->K1 (D 4) w V q tc)/\(D 5=true->P7 w V q tc te (Jd []) (Jd ps))))
   ⟨_,_,_,_,_,rfl,Z O,Z ⟨λ_=>Qx,O⟩,Z ⟨λ_=>Ub,O⟩⟩ ?step1 ?fin1
  case step1=>
   rintro D ai V i ds Q hi j m ⟨tb,tc,td,te,ta,rfl,b,g,y⟩;have bu:i<7:=(Af.1 hi).1;obtain rfl|rfl|rfl|rfl|rfl|rfl|rfl:=Gt i Y
   all_goals
    simp only[Aj,Ah,Al]at hi;subst hi
   . have t:=g.o.1 (DN Q m);have Qf:=y.o.1 (DN Q m);have e6:=t.2.2.2.1.cell;clear j;refine Da ?_;exact⟨(Dc b),g,y⟩
   . have U:D 4=false:=DN Q m;have t:=g.o.1 U;have R:D 5=false:=DN Q m;have Qf:=y.o.1 R;obtain rfl:=b.o.1 (j 0 O);clear j;have HC:=Z λ(n9:Nat)=>(BG (n:=n9)).2 (GP _ [] V t.2.2.2.2.2.1 Uc.o);refine BO rfl λK hK=>?_;go_simp;gi_wp2_with(refine⟨trivial,?_⟩;gi_at_call 27;refine(HC.o _).mono ?_;rintro e w5 ⟨v5,rfl,az,_,ad⟩)
     exact⟨_,_,_,_,_,rfl,Z ⟨λ_=>rfl,λ_ _=>az,b.o.2.2.1,λh X=>(b.o.2.2.2.1 h X).below ad,b.o.2.2.2.2⟩,Z ⟨λh=>(g.o.1 h).below ad,λh=>(g.o.2 h).below ad⟩,Z ⟨λ_=>(λe=>by simp[U]at e),λh=>by simp[R]at h⟩⟩
   . have U:D 4=false:=DN Q (DN (a:=3) Q m);have t:=g.o.1 U;have Qf:=y.o.1 (DN Q m);have e5:=t.2.2.1.cell;clear j;refine Da ?_;exact⟨Z ⟨b.o.1,b.o.2.1,λ_=>rfl,b.o.2.2.2.1,b.o.2.2.2.2⟩,g,y⟩
   . have U:D 4=false:=DN Q m;have t:=g.o.1 U;have R:D 5=false:=DN Q m;have Qf:=y.o.1 R;obtain rfl:=b.o.2.2.1 (j 2 O);clear j;have HC:=Z λ(n9:Nat)=>(BG (n:=n9)).2 (GP _ ps V t.2.2.2.2.1 Ua.o);refine BO rfl λK hK=>?_;go_simp;gi_wp2_with(refine⟨trivial,?_⟩;gi_at_call 27;refine(HC.o _).mono ?_;rintro e w5 ⟨v5,rfl,az,_,ad⟩)
     exact⟨_,_,_,_,_,rfl,Z ⟨b.o.1,λh X=>(b.o.2.1 h X).below ad,λ_=>rfl,λ_ _=>az,b.o.2.2.2.2⟩,Z ⟨λh=>(g.o.1 h).below ad,λh=>(g.o.2 h).below ad⟩,Z ⟨λ_=>(λe=>by simp[U]at e),λh=>by simp[R]at h⟩⟩
   . have t:=g.o.1 m;have R:D 5=false:=DN Q m;have Qf:=y.o.1 R;have h0:=b.o.2.1 (j 1 O) R;obtain⟨a9,l9,c9,rfl⟩:=Jc.form h0;have Qg:=t.1;have e0:=Qg.cell;have f0:=Qg.frozen;have Qj:w.heap.size+1+1+1≠w.heap.size+1+1:=Y
     clear j;refine Da ?_;obtain⟨G0,G1,G2,G3,G4⟩:=b.o;exact⟨Z ⟨G0,λh X=>(G1 h X).setP Qg _,G2,λh X=>(G3 h X).setP Qg _,G4⟩,Z ⟨λh=>by simp at h,λ_=>trivial⟩,Z ⟨λ_=>(λ_=>⟨_,rfl,Qg.set _,(BC V ⟨w.heap.size+1+1,0,none⟩ _ _ Qj).trans t.2.1,t.2.2.2.2.2.2.1.setCell (p:=⟨w.heap.size+1+1,0,none⟩) (by show w.heap.size<=w.heap.size+1+1;omega) _,(BK V ⟨w.heap.size+1+1,0,none⟩ _).same q _ t.2.2.2.2.2.2.2 rfl⟩),λh=>by simp[R]at h⟩⟩
   . have Qf:=y.o.1 m;have h0:=b.o.2.1 (j 1 O) m;have h1:=b.o.2.2.2.1 (j 3 O) m;have Ue:=j 4 O;obtain⟨v2,rfl,ae,af,aw,ah⟩:=Qf (j 4 O);obtain⟨a9,l9,c9,rfl⟩:=Jc.form h1;have e0:=af.cell;have f0:=af.frozen;have Qj:w.heap.size+1+1≠w.heap.size+1+1+1:=Y
     clear j;refine Da ?_;exact⟨Z ⟨b.o.1,λ_ h=>by simp at h,b.o.2.2.1,λ_ h=>by simp at h,b.o.2.2.2.2⟩,Z ⟨λh=>by simp[Ue]at h,λ_=>trivial⟩,Z ⟨λh=>by simp at h,λ_=>⟨_,_,rfl,rfl,(BC V ⟨w.heap.size+1+1+1,0,none⟩ _ _ Qj).trans ae,af.set _,h0.setP af _,h1.setP af _,aw.setCell (p:=⟨w.heap.size+1+1+1,0,none⟩) (by show w.heap.size<=w.heap.size+1+1+1;omega) _,(BK V ⟨w.heap.size+1+1+1,0,none⟩ _).same q _ ah rfl⟩⟩⟩
   . clear j;refine Da ?_;exact⟨Z ⟨b.o.1,b.o.2.1,b.o.2.2.1,b.o.2.2.2.1,λ_=>rfl⟩,g,y⟩
  case fin1=>
   rintro E ai V an ⟨tb,tc,td,te,ta,rfl,b,g,y⟩;obtain⟨v,v',rfl,rfl,g2,g3,bn,bc,aw,ah⟩:=y.o.2 (an 5 DL);obtain rfl:=b.o.2.2.2.2 (an 6 DL);clear b g y an;gi_wp2;refine⟨O,.inl ⟨_,_,rfl,BW ah,?_⟩⟩;have hg:=BU V q (.deferred none);have Qh:∀r,some q=some r->∃o:Obj,V.heap[r]?=some o/\o.isCells=false:=λr e=>by cases e;exact⟨_,ah,rfl⟩
   have q2:Boxed _ (w.heap.size+1+1) 25 v:=Y8 hg Qh (show Bx V (w.heap.size+1+1) 25 #[v]from g2);have q3:Boxed _ (w.heap.size+1+1+1) 25 v':=Y8 hg Qh (show Bx V (w.heap.size+1+1+1) 25 #[v']from g3);have x2:=q2.cell;have x3:=q3.cell;refine⟨.tuple #[P #[v],P #[v'],L true],by simp[results,Tryz.results22,go_sem,x2,x3],_,_,rfl,?_,?_,?_⟩
   . obtain⟨u,e,h⟩:=bn;exact⟨u,e,Ho hg Qh h⟩
   . rw[Uf.o]at bc;obtain⟨u,e,h⟩:=bc;exact⟨u,e,Ho hg Qh h⟩
   . exact aw.trans (DK (w:=w) (Aa _) _ q _ _ Qy.o ah rfl rfl)
theorem P8(A:Nat)(j l:Value)(ps qs:List Rat)(w:World)(f:Jc w j ps)(g:Jc w l qs)(hs:Sqs ps)(hq:∀i,DV A (cf qs i))(n:Jd ps=ps)(E:Jd qs=qs)
(x:qs≠[]->∀k,k<=ps.length-(qs.length-1)->∃z,z+(2*A+1)<=1000000000/\(k<ps.length-(qs.length-1)->2*z+2*(2*A+1)<=1000000000)/\(∀i,DV z (cf (Jz ps qs (qs.length-1) (ps.length-(qs.length-1)) k).2 i))/\∀i,DV (z+A) (cf (Jz ps qs (qs.length-1) (ps.length-(qs.length-1)) k).1 i)):
 Calls Tryz.prog 22 #[j,l] w λe b=>∃u v,e=.returned (.tuple #[u,v,L (decide (qs≠[]))])/\Jc b u (if qs=[]then []else Jt ps qs)/\Jc b v (if qs=[]then []else JZ ps qs)/\Bl w b:=by
 by_cases a:qs=[]
 . subst a;refine(ZV j ps l w f g).mono ?_;rintro e b ⟨rfl,h⟩;exact⟨_,_,rfl,⟨_,rfl,RowK.nil _ _⟩,⟨_,rfl,RowK.nil _ _⟩,h⟩
 . have y:decide (qs≠[])=true:=BM a;rw[y];simp only[BH a];have Q:0<qs.length:=Ai.2 a;obtain⟨o,la,p,rfl⟩:=f.form;obtain⟨q,lb,r,rfl⟩:=g.form;have c:=f.row;have d:=g.row;obtain⟨M,_⟩:=c.forms;obtain⟨N,_⟩:=d.forms;by_cases D:la<=lb-1
   . have m:ps.length-(qs.length-1)=0:=Y
     have s:Jt ps qs=[]:=by unfold Jt;rw[m];rfl
     have t:JZ ps qs=ps:=by unfold JZ;rw[m];exact n
     rw[s,t];exact ZW o q la p lb r (lb-1) ps qs w c d hs n Y D
   . exact ZU A o q la p lb r (lb-1) (la-(lb-1)) ps qs w c d hq E a (λk K=>by rw[show lb-1=qs.length-1 by omega,show la-(qs.length-1)=ps.length-(qs.length-1)by omega];exact x a k Y) Y Y Y
def IR(ps:List Rat)(n i:Nat)(S:List Rat):Prop:=S.length=n/\∀j,cf S j=if j<i then Gn ps j else 0
theorem IR.next{i:Nat}(h:IR ps n i S)(b:i<n):IR ps n (i+1) (S.set i (Gn ps i)):=by
 refine⟨by rw[CA];exact h.1,λj=>?_⟩;rw[XC _ _ _ _ (by rw[h.1];exact b),h.2 j];by_cases e:j=i
 . rw[BJ e,BJ Y,e]
 . rw[BH e];by_cases a:j<i
   . rw[BJ a,BJ Y]
   . rw[BH a,BH Y]
theorem IR.done(h:IR ps n n S)(a:n=ps.length-1):Jd S=Je ps:=Gx λj=>by
 rw[h.2 j,Hy];split
 . rfl
 . rw[J6 (p:=ps) Y,Cy]
theorem K3(v:Value)(ps:List Rat)(w:World)(h:Jc w v ps)(ba:Sqs ps)(bc:∀i,Sq (Gn ps i)):
 Calls Tryz.prog 24 #[v] w λe w'=>∃u,e=.returned u/\Jc w' u (Je ps)/\Bl w w':=by
 have Qr:Tryz.prog.follows .mixedOrders=true:=by kernel_rfl
 obtain⟨o,la,k,rfl⟩:=h.form;have ha:=h.row;obtain⟨ay,bh,bi,bu,s,t,aa,bb,ll,cc,kk,dd,av⟩:=ha.forms;have M0:Mem w _ _:=((Mem.nil w).push (.cell 25 (B o la k)) (cs:=#[B o la k]) ⟨rfl,rfl⟩).push (.cell 25 (B none 0 0)) (cs:=#[B none 0 0]) ⟨rfl,rfl⟩;simp only[BA]at M0;obtain⟨V0,af⟩:=ex ((w.alloc (G #[B o la k] 25)).alloc (G #[B none 0 0] 25));have M1:Mem w V0 [some (w.heap.size,.cell 25 (B o la k)),some (w.heap.size+1,.cell 25 (B none 0 0))]:=by rw[<-af];exact M0
 have Qj:=Z M1;obtain⟨d,hd⟩:=ex ((ps.length:Int)-1:Int);have Qi:=Z (Ya (P #[B o la k]) ps V0 (h.below M1.2.2));rw[hd]at Qi;obtain⟨n,hn⟩:=ex (ps.length-1:Nat);have Qf:max (0:Int) d=(n:Int):=Y
 have Qt:∀W:World,(Instr.makeSlice 23 (H I (n:Int)) (H I (n:Int))).run Tryz.prog W=.ok (B (some ⟨W.heap.size,0,none⟩) n n) (W.alloc (G (J4 n) 65)):=λW=>IG n Y W;obtain⟨HP,Qn,Qp,HN⟩:=EA av ba bc (show n=ps.length-1/\la=ps.length from⟨hn.symm,ay⟩);have Qe:n<=1099511627776:=Y
 have Ql:=Z af;clear h ha av ba bc ay bh bi hn hd M0 M1 af;go_enter Tryz.func24,Tryz.ntmps24
 go_upto_region 1 with fail
 rw[Ql.o];have c0:=(Qj.o.cell (i:=0) rfl).1.cell;go_upto_region 2 with(go_at_call 20;refine Qi.o.mono ?_;clear Qi;rintro e w1 ⟨rfl,aq⟩)
 have Qg:Mem w (w1.alloc (G (J4 n) 65)) [some (w.heap.size,.cell 25 (B o la k)),some (w.heap.size+1,.cell 25 (B none 0 0)),some (w1.heap.size,.rats (List.replicate n 0))]:=(Qj.o.below aq).push (.rats (List.replicate n 0)) (I4 _ n);obtain⟨V1,ah⟩:=ex (w1.alloc (G (J4 n) 65));obtain⟨l,ak⟩:=ex (w1.heap.size);rw[ah,ak]at Qg;rw[ah,ak];have Qk:=Z Qg;clear Qg ah ak aq c0 Qj Ql Qt Qf;go_wp2;go_loopw [11] (λiv wr=>∃(i:Nat) (S:List Rat),i<=n/\iv=H I (i:Int)/\Hid (IR ps n i S)/\Hid (Mem w wr [some (w.heap.size,.cell 25 (B o la k)),some (w.heap.size+1,.cell 25 (B none 0 0)),some (l,.rats S)])) λiv _=>n-(intOf iv).toNat
 case atStart=>exact⟨0,_,AK _,rfl,Z ⟨Au,λj=>by rw[JS,BH Y]⟩,Qk⟩
 case round=>
  obtain⟨i,S,N,rfl,q,M⟩:=hrel;clear Qk;by_cases az:i<n
  . have bz:(i:Int)<(n:Int):=Y
    obtain⟨K,hK⟩:=ex (i+1:Nat);have bj:(i:Int)+1=(K:Int):=Y
    have bn:IntKind.i64.wrap (K:Int)=(K:Int):=by rw[BZ];omega
    have bm:(K:Int)<(la:Int):=by have:=HN.o;omega
    obtain⟨aw,f,rfl,A,p0,p1,p2,p3⟩:=HP.o K (by have:=HN.o;omega);have Qu:=Z (show ∀V,Bl w V->(V.cell? ⟨f,K*4,none⟩=some (L (s K))/\V.cell? ⟨f,K*4+1,none⟩=some (B (aa K) (ll K) (cc K))/\V.cell? ⟨f,K*4+2,none⟩=some (L (t K))/\V.cell? ⟨f,K*4+3,none⟩=some (B (bb K) (kk K) (dd K)))/\Jj V (P #[L (s K),B (aa K) (ll K) (cc K),L (t K),B (bb K) (kk K) (dd K)]) (cf ps K)from λV y=>by
     exact⟨⟨(y.cell (p:=⟨f,_,none⟩) A).trans p0,(y.cell (p:=⟨f,_,none⟩) A).trans p1,(y.cell (p:=⟨f,_,none⟩) A).trans p2,(y.cell (p:=⟨f,_,none⟩) A).trans p3⟩,aw.below y⟩)
    have Qd:=Z (show K<=1099511627776/\K=i+1 by omega);have Qs:=Z (show cf ps K*((K:Int):Rat)=Gn ps i by rw[Qd.o.2];rfl);have Qm:=Z (show i<S.length by rw[q.o.1];exact az);clear aw A p0 p1 p2 p3 hK;go_wp2_with fail
    have Qo:=M.o.drew;refine Jn Qr [[],[],[],[2],[],[4],[3,5],[6],[],[8],[9],[7,10,10],[0,1,0,1,2,3,4,5,6,7,8,9,10,11],[12,11,11,0,1,2,3,4,5,6,7,8,9,10,11]] (by kernel_rfl) DL
     (λD ae V=>∃(ta tb R T U tf X ti tj tk tl tm tn:Value),ae={ tmps:=#[P #[B (some ⟨f,0,none⟩) la k],F (some ⟨w.heap.size,0,none⟩),F (some ⟨w.heap.size+1,0,none⟩),B (some ⟨l,0,none⟩) n n,H I ↑i,P #[B (some ⟨f,0,none⟩) la k],H I d,H I ↑n,B (some ⟨l,0,none⟩) n n,B (some ⟨l,0,none⟩) n n,H I ↑n,H I ↑i,L true,H I ↑i,ta,tb,R,T,U,tf,X,ti,tj,tk,tl,tm,tn,u27,C,C],defers:=[] }/\Hid ((D 0=true->ta=B (some ⟨l,0,none⟩) n n)/\(D 1=true->tb=H I (i:Int))/\(D 2=true->R=F (some ⟨w.heap.size,0,none⟩))/\(D 3=true->T=B (some ⟨f,0,none⟩) la k)/\(D 4=true->U=H I (i:Int))/\(D 5=true->tf=H I (K:Int))/\(D 6=true->X=F (some ⟨f,K*4,none⟩))/\(D 7=true->D 13=false->Jj V ti (cf ps K))/\(D 8=true->tj=H I (i:Int))/\(D 9=true->tk=H I (K:Int))/\(D 10=true->D 13=false->Jj V tl ((K:Int):Rat))/\(D 11=true->D 13=false->Jj V tm (Gn ps i))/\(D 12=true->tn=F (some ⟨l,i*4,none⟩)))/\Hid ((D 13=false->Mem w V [some (w.heap.size,.cell 25 (B (some ⟨f,0,none⟩) la k)),some (w.heap.size+1,.cell 25 (B none 0 0)),some (l,.rats S)])/\(D 13=true->Mem w V [some (w.heap.size,.cell 25 (B (some ⟨f,0,none⟩) la k)),some (w.heap.size+1,.cell 25 (B none 0 0)),some (l,.rats (S.set i (Gn ps i)))])))
     (E8 ⟨_,_,_,_,_,rfl,Z O,Z ⟨λ_=>Qo,O⟩⟩) ?step1 ?fin1
    case step1=>
     rintro D ae V i ds ai N b z ⟨ta,tb,R,T,U,tf,X,ti,tj,tk,tl,tm,tn,rfl,a,c⟩;have bt:i<14:=(Af.1 N).1;obtain rfl|rfl|rfl|rfl|rfl|rfl|rfl|rfl|rfl|rfl|rfl|rfl|rfl|rfl:=FW i Y
     all_goals
      simp only[Aj,Ah,Al]at N;subst N
     . clear b;refine DT ?_;exact⟨(Dc a),c⟩
     . clear b;refine DT ?_;exact⟨(Dg a),c⟩
     . clear b;refine DT ?_;exact⟨(DZ a),c⟩
     . have r:=c.o.1 (DN ai z);obtain rfl:=a.o.2.2.1 (b 2 O);have e0:=(r.cell (i:=0) rfl).1.cell;clear b;refine DT ?_;exact⟨(Dd (DZ a)),c⟩
     . clear b;refine DT ?_;exact⟨(Dt a),c⟩
     . obtain rfl:=a.o.2.2.2.2.1 (b 4 O);clear b;refine DT ?_;exact⟨(Dx (Dt a)),c⟩
     . obtain rfl:=a.o.2.2.2.1 (b 3 O);obtain rfl:=Do a (b 5 O);clear b;refine DT ?_;exact⟨(D0 (Dx (Dd a))),c⟩
     . have r:=c.o.1 (DN ai z);obtain rfl:=D3 a (b 6 O);obtain⟨⟨e0,e1,e2,e3⟩,hr⟩:=Qu.o V r.2.2;clear b;refine DT ?_;exact⟨(EL (D0 a) λ_ _=>hr),c⟩
     . clear b;refine DT ?_;exact⟨(EM a),c⟩
     . obtain rfl:=ER a (b 8 O);clear b;refine DT ?_;exact⟨(Ef (EM a)),c⟩
     . obtain rfl:=FP a (b 9 O);clear b;have E:=Z (Pf (K:Int) Y (by have:=Qd.o;omega) V);refine Jb rfl rfl λK hK=>?_;go_simp;go_wp2_with(go_at_call 54;refine E.o.mono ?_;rintro e w5 ⟨v5,rfl,an,g⟩)
       obtain⟨G0,G1,G2,G3,G4,G5,G6,G7,G8,_,_,bg,ad⟩:=a.o;exact E8 ⟨_,_,_,_,_,rfl,Z ⟨G0,G1,G2,G3,G4,G5,G6,λh m=>(G7 h m).below g,G8,λ_=>rfl,λ_ _=>an,λh m=>(bg h m).below g,ad⟩,Z ⟨λh=>(c.o.1 h).below g,λh=>(c.o.2 h).below g⟩⟩
     . have Qa:D 13=false:=DN ai z;have x:=EF a (b 7 O) Qa;have h1:=EB a (b 10 O) Qa;clear b;have E:=Z (Iz _ _ (cf ps K) ((K:Int):Rat) V x h1 (Qn.o.at K) (WJ Qd.o.1));rw[Qs.o]at E;clear x h1;refine Jb rfl rfl λK hK=>?_;go_simp;go_wp2_with(go_at_call 52;refine E.o.mono ?_;rintro e w5 ⟨v5,rfl,an,g⟩)
       obtain⟨G0,G1,G2,G3,G4,G5,G6,G7,G8,G9,bf,_,ad⟩:=a.o;exact E8 ⟨_,_,_,_,_,rfl,Z ⟨G0,G1,G2,G3,G4,G5,G6,λh m=>(G7 h m).below g,G8,G9,λh m=>(bf h m).below g,λ_ _=>an,ad⟩,Z ⟨λh=>(c.o.1 h).below g,λh=>(c.o.2 h).below g⟩⟩
     . obtain rfl:=a.o.1 (b 0 O);obtain rfl:=a.o.2.1 (b 1 O);clear b;refine DT ?_;exact⟨(Hd (Dg (Dc a))),c⟩
     . have r:=c.o.1 z;have x:=EW a (b 11 O) z;obtain rfl:=a.o.2.2.2.2.2.2.2.2.2.2.2.2 (b 12 O);have hE:=r.rats (i:=2) rfl;obtain⟨xa,xb,xc,xd,e0,e1,e2,e3,_⟩:=hE.at Qm.o;have f0:=hE.frozen (i*4);have f1:=hE.frozen (i*4+1);have f2:=hE.frozen (i*4+2);have f3:=hE.frozen (i*4+3);obtain⟨s9,a9,l9,c9,t9,b9,k9,d9,rfl⟩:=Jj.form x;clear b;refine DT ?_;exact⟨(Hd (Dy (Du (EL a λ_ h=>by simp at h) λ_ h=>by simp at h) λ_ h=>by simp at h)),Z ⟨λh=>by simp at h,λ_=>r.putRats (i:=2) rfl Qm.o x⟩⟩
    case fin1=>
     rintro D ae V ap ⟨ta,tb,R,T,U,tf,X,ti,tj,tk,tl,tm,tn,rfl,a,c⟩;have HO:=Z (c.o.2 (ap 13 DL));clear a c ap;go_wp2_with fail
     go_roundw
     case rel=>exact⟨i+1,_,Y,by go_num,Z (q.o.next az),HO⟩
     case measure=>simp[intOf];omega
  . obtain rfl:i=n:=Y
    have hE:=M.o.rats (i:=2) rfl;have Qc:=hE.row (n:=i) (cap:=i) (by rw[q.o.1];exact Aa _) (Aa _) Y Qe;rw[Ag (by rw[q.o.1];exact Aa _)]at Qc;have Qh:=Z (GP _ S wr Qc (Sqs.of λj=>by
     rw[q.o.2 j];split
     . exact Qp.o j
     . exact Hn))
    rw[q.o.done HN.o.1]at Qh;clear hE Qc;go_wp2_with(go_at_call 27;refine Qh.o.mono ?_;clear Qh;rintro e w5 ⟨u5,rfl,am,_,g⟩;obtain⟨a7,l7,c7,rfl⟩:=am.form;have Q:=boxed_below (M.o.cell (i:=1) rfl).1 g;have x0:=Q.cell;have x1:=Q.frozen;have Qv:=Z (EY Q (B a7 l7 c7) am.row);have Qq:=Z ((Bt M.o.2.2 g).setCell (p:=⟨w.heap.size+1,0,none⟩) (by show w.heap.size<=w.heap.size+1;omega) (B a7 l7 c7));clear am g Q)
    exact BB (v:=P #[B a7 l7 c7]) (by simp[results,Tryz.results24,go_sem,x0]) rfl ⟨_,rfl,⟨_,rfl,Qv.o⟩,Qq.o⟩
end M3
section
open Go.RowKit Go.Shelf
def CD(D:Int)(K:Nat)(c:Rat):Prop:=∃n:Int,c=Rat.divInt n D/\Sm K n
section
variable {D E:Int} {K M:Nat} {c d:Rat}
theorem CD.mono(h:CD D K c)(a:K<=M):CD D M c:=by
 obtain⟨n,e,h⟩:=h;exact⟨n,e,h.mono a⟩
theorem CD.smq(h:CD D K c)(hD:D≠0)(hs:Sm K D):DV K c:=by
 obtain⟨n,rfl,h⟩:=h;exact DV.divInt hD h hs
theorem CD.zero(D:Int)(K:Nat):CD D K 0:=⟨0,by rw[Rat.zero_divInt],Sm.zero K⟩
theorem CD.add(h:CD D K c)(a:CD D M d)(hD:D≠0):CD D (max K M+1) (c+d):=by
 obtain⟨n,rfl,h⟩:=h;obtain⟨m,rfl,a⟩:=a;refine⟨n+m,?_,?_⟩
 . rw[FA _ _ hD hD,<-Int.add_mul,Fo hD]
 . exact(h.mono (Nat.le_max_left ..)).add (a.mono (Nat.le_max_right ..))
theorem CD.mul(h:CD D K c)(a:CD E M d):CD (D*E) (K+M) (c*d):=by
 obtain⟨n,rfl,h⟩:=h;obtain⟨m,rfl,a⟩:=a;exact⟨n*m,by rw[Fi],h.mul a⟩
theorem CD.wide(h:CD D K c)(hE:Sm M E)(a:E≠0):CD (D*E) (K+M) c:=by
 obtain⟨n,rfl,h⟩:=h;exact⟨n*E,by rw[Fo a],h.mul hE⟩
end
def D6(D:Int)(K:Nat)(ps:List Rat):Prop:=∀i,CD D K (cf ps i)
variable{D:Int}{ps qs:List Rat}{K:Nat}
theorem QA(hD:D≠0)(h:∀i j,CD D K (cf ps i*cf qs j))(n:Nat):∀(i k:Nat),CD D (K+min i ps.length) (cf (XB ps qs n i) k):=by
 intro i;induction i with
 |zero=>intro k;rw[XB,JS];exact CD.zero _ _
 |succ i a=>
  intro k;rw[XB];rcases Kz (XB ps qs n i) i (cf ps i) qs qs.length k with e|e
  . rw[e];exact(a k).mono Y
  . rw[e];by_cases b:i<ps.length
    . exact((a k).add (h i (k-i)) hD).mono Y
    . rw[J6 (p:=ps) Y,Cy,Rat.add_zero];exact(a k).mono Y
theorem ZX(hD:D≠0)(hs:Sm 1000000000 D)(h:∀i j,CD D K (cf ps i*cf qs j))(d:K+ps.length+1<=1000000000):M3.GR ps qs:=by
 have hq:∀c,CD D (K+ps.length+1) c->Sq c:=λc b=>Sq.of ((b.mono d).smq hD hs) (Aa _);refine⟨λi j=>hq _ ((h i j).mono Y),λn i j k=>?_⟩;have a:=QA hD h n i k;rcases Kz (XB ps qs n i) i (cf ps i) qs j k with e|e
 . rw[e];exact hq _ (a.mono Y)
 . rw[e];exact hq _ ((a.add (h i (k-i)) hD).mono Y)
theorem ZY(hD:D≠0)(h:∀i j,CD D K (cf ps i*cf qs j)):D6 D (K+ps.length) (Jo ps qs):=λk=>by
 unfold Jo;rw[Yc,Hx];have a:=QA hD h (ps.length+qs.length) ps.length k;rwa[Nk _ _ _ _ _ (Or.inr Y),Nat.min_self]at a
theorem Mt(p q:List Rat):(Jo p q).length<=p.length+q.length:=Xz (Jy _ _) λi a=>by unfold Jo;rw[Yc,Hx,WK p q a]
theorem Sm.powZ{A:Nat}{v:Int}(h:Sm A v):∀n,Sm (n*A+1) (v^n):=by
 intro n;induction n with
 |zero=>rw[Int.pow_zero];exact Sm.one _ Y
 |succ n a=>rw[Int.pow_succ,AE,show n*A+1*A+1=n*A+1+A by omega];exact a.mul h
end
section
open Go.RowKit Go.Shelf
variable{D:Int}{K:Nat}
theorem ZZ{c:Rat}(h:CD D K c):CD D K (-c):=by
 obtain⟨n,rfl,h⟩:=h;exact⟨-n,by rw[<-Rat.neg_divInt],by unfold Sm at h ⊢;rwa[FN]⟩
theorem QB{E l:Int}{A:Nat}{ps qs:List Rat}{n m:Nat}(hD:D≠0)(hp:D6 D K ps)(hE:E≠0)(S:Sm A E)(hq:D6 E A qs)(b:l≠0)(hl:Sm A l)(N:cf qs n=Rat.divInt l E)(M:cf qs n≠0):
 ∀k,D6 (D*l^k) (K+k*(A+1)) (Jz ps qs n m k).2/\D6 (D*l^k) (K+k*(A+1)) (Jz ps qs n m k).1:=by
 intro k;induction k with
 |zero=>
  rw[Int.pow_zero,Int.mul_one];exact⟨λi=>(hp i).mono Y,λi=>by rw[Jz,JS];exact CD.zero _ _⟩
 |succ k U=>
  obtain⟨d,g⟩:=U;have w:D*l^k≠0:=Cv hD (Int.pow_ne_zero b);have e:D*l^(k+1)=D*l^k*l:=by rw[Int.pow_succ,Fp]
  rw[e];have v:D*l^k*l≠0:=Cv w b;obtain⟨R,p⟩:=ex ((Jz ps qs n m k).2);obtain⟨Q,o⟩:=ex ((Jz ps qs n m k).1);rw[p]at d;rw[o]at g;obtain⟨r,z,s⟩:=d (m-(k+1)+n);obtain⟨c,q⟩:=ex (cf R (m-(k+1)+n)/cf qs n);have f:c=Rat.divInt (r*E) (D*l^k*l):=by
   rw[<-q];have y:cf R (m-(k+1)+n)=Rat.divInt (r*E) (D*l^k*l)*cf qs n:=by
    rw[N,Fi,z,show r*E*l=r*(E*l)from Fp _ _ _,show D*l^k*l*E=D*l^k*(E*l)by rw[Fp (D*l^k),CX l E],Fo (Cv hE b)]
   rw[y,Rat.mul_div_cancel M]
  have t:CD (D*l^k*l) (K+(k+1)*(A+1)) c:=⟨r*E,f,(s.mul S).mono (by rw[AE];omega)⟩;have u:∀j,CD (D*l^k*l) (K+k*(A+1)+A) (c*cf qs j):=λj=>by
   obtain⟨x,ex,T⟩:=hq j;refine⟨r*x,?_,s.mul T⟩;rw[f,ex,Fi,show r*E*x=r*x*E by rw[Fp,CX E x,Fp],Fo hE]
  rw[Jz,p,o];simp only[q];refine⟨λi=>?_,λi=>?_⟩
  . rcases Kz R (m-(k+1)) (-c) qs qs.length i with a|a
    . rw[a];exact((d i).wide hl b).mono (by rw[AE];omega)
    . rw[a,Rat.neg_mul];exact(((d i).wide hl b).add (ZZ (u _)) v).mono (by rw[AE];omega)
  . rcases M3.ZS Q (m-(k+1)) c i with a|a
    . rw[a];exact t
    . rw[a];exact((g i).wide hl b).mono (by rw[AE];omega)
end
variable{D:Int}{a b p q:List Rat}{K M n:Nat}{f g:Nat->Int}{c d:Rat}
theorem Zv:∀(n:Nat) (f:Nat->Nat),(∀i,i<=n->f i<n)->∃i j,i<j/\j<=n/\f i=f j:=by
 intro n;induction n with
 |zero=>intro f h;exact absurd (h 0 (Aa _)) Y
 |succ n o=>
  intro f h;by_cases k:∃i,i<=n/\f i=f (n+1)
  . obtain⟨i,d,a⟩:=k;exact⟨i,n+1,Y,Aa _,a⟩
  . have c:∀i,i<=n->f i≠f (n+1):=λi b e=>k ⟨i,b,e⟩;obtain⟨i,j,d,a,g⟩:=o (λi=>if f i=n then f (n+1)else f i) (λi b=>by
     have l:=h i Y;have m:=h (n+1) (Aa _);have p:=c i b;split<;>omega)
    refine⟨i,j,d,Y,?_⟩;have l:=c i Y;have m:=c j a;split at g<;>split at g<;>omega
def enc(b:Nat):Nat->(Nat->Nat)->Nat
 |0,_=>0
 |M+1,d=>enc b M d+d M*b^M
theorem Mu{b:Nat}{d:Nat->Nat}(h:∀k,k<M->d k<b):enc b M d<b^M:=by
 induction M with
 |zero=>simp[enc]
 |succ M e=>
  have f:=e λk g=>h k Y;have a:=h M Y;have c:(d M+1)*b^M<=b*b^M:=Am _ a;rw[enc,AY,Av (b^M) b];rw[AE,Ct]at c;omega
theorem Zw{b:Nat}{d a:Nat->Nat}(h:∀k,k<M->d k<b)(g:∀k,k<M->a k<b)(e:enc b M d=enc b M a):∀k,k<M->d k=a k:=by
 induction M with
 |zero=>intro k c;omega
 |succ M j=>
  have l1:=Mu (λk c=>h k Y:∀k,k<M->d k<b);have l2:=Mu (λk c=>g k Y:∀k,k<M->a k<b);have hp:0<b^M:=Y
  rw[enc,enc]at e;have f:d M=a M:=by
   have f1:(enc b M d+d M*b^M)/b^M=d M:=by rw[Fz _ _ hp,Cg l1];omega
   have f2:(enc b M a+a M*b^M)/b^M=a M:=by rw[Fz _ _ hp,Cg l2];omega
   rw[<-f1,<-f2,e]
  intro k c;by_cases i:k=M
  . rw[i];exact f
  . exact j (λk c=>h k Y) (λk c=>g k Y) (by rw[f]at e;omega) k Y
def EI(b x j:Nat):Nat:=x/b^j%b
theorem Zx{b:Nat}(a:0<b)(x j:Nat):EI b x j<b:=Ck _ a
theorem QC(b x:Nat):∀N,enc b N (EI b x)=x%b^N:=by
 intro N;induction N with
 |zero=>simp[enc,Nat.mod_one]
 |succ N a=>rw[enc,a,Nat.mod_pow_succ,Av (EI b x N)];rfl
def Yd:Nat->(Nat->Int)->Int
 |0,_=>0
 |n+1,f=>Yd n f+f n
theorem QD(h:∀k,k<n->f k=g k):Yd n f=Yd n g:=by
 induction n with
 |zero=>rfl
 |succ n a=>rw[Yd,Yd,a λk b=>h k Y,h n Y]
theorem Zy(n:Nat)(f g:Nat->Int):Yd n (λk=>f k-g k)=Yd n f-Yd n g:=by
 induction n with
 |zero=>rfl
 |succ n a=>rw[Yd,Yd,Yd,a];omega
theorem K4{C:Nat}(h:∀k,k<n->(f k).natAbs<=C):(Yd n f).natAbs<=n*C:=by
 induction n with
 |zero=>simp[Yd]
 |succ n a=>
  have b:=a λk d=>h k Y;have c:=h n Y;rw[Yd,AE,Ct];have:=FD (Yd n f) (f n);omega
theorem Zz(N A:Nat)(c:Nat->Nat->Int)(w:∀k j,(c k j).natAbs<=A):
 ∃z:Nat->Int,(∃j,j<N+1/\z j≠0)/\(∀j,(z j).natAbs<=(2*(N+1)*A+1)^N)/\∀k,k<N->Yd (N+1) (λj=>c k j*z j)=0:=by
 obtain⟨B,l⟩:=ex ((2*(N+1)*A+1)^N);have o:1<=B:=by rw[<-l];exact Cx Y
 obtain⟨C,m⟩:=ex ((N+1)*(A*B));have d:∀x j,EI (B+1) x j<=B:=λx j=>by have:=Zx (b:=B+1) Y x j;omega
 have v:∀x k,(Yd (N+1) λj=>c k j*(EI (B+1) x j:Int)).natAbs<=C:=λx k=>by
  rw[<-m];refine K4 λj _=>?_;rw[Cr,AD];exact CB (w k j) (d x j)
 obtain⟨g,a⟩:∃g:Nat->Nat->Nat,∀x k,(g x k:Int)=Yd (N+1) (λj=>c k j*(EI (B+1) x j:Int))+C/\g x k<2*C+1:=
  ⟨λx k=>(Yd (N+1) (λj=>c k j*(EI (B+1) x j:Int))+C).toNat,λx k=>by have:=v x k;dsimp only;omega⟩
 have U:(2*C+1)^N<(B+1)^(N+1):=by
  have f:2*C+1<=(2*(N+1)*A+1)*B:=by
   have p:2*C=2*(N+1)*A*B:=by rw[<-m];simp only[AH]
   rw[p,AE,Ct];exact Nat.add_le_add_left o _
  have i:(2*C+1)^N<=B^(N+1):=by
   refine Aw (CN f N) ?_;rw[Nat.mul_pow,l,AY,Av];exact Aa _
  exact Cb i (Nat.pow_lt_pow_left Y Y)
 obtain⟨x,y,f,i,q⟩:=Zv ((2*C+1)^N) (λx=>enc (2*C+1) N (g x)) λx _=>Mu λk _=>(a x k).2;have r:=Zw (λk _=>(a x k).2) (λk _=>(a y k).2) q;refine⟨λj=>(EI (B+1) x j:Int)-(EI (B+1) y j:Int),?_,λj=>?_,λk E=>?_⟩
 . by_cases n:∃j,j<N+1/\(EI (B+1) x j:Int)-(EI (B+1) y j:Int)≠0
   . exact n
   . exfalso
     have s:∀j,j<N+1->EI (B+1) x j=EI (B+1) y j:=λj D=>by
      by_cases e:EI (B+1) x j=EI (B+1) y j
      . exact e
      . exact absurd ⟨j,D,Y⟩ n
     have t:∀M,M<=N+1->enc (B+1) M (EI (B+1) x)=enc (B+1) M (EI (B+1) y):=λM=>by
      induction M with
      |zero=>intro _;rfl
      |succ M K=>intro T;rw[enc,enc,K Y,s M Y]
     have u:=t (N+1) (Aa _);rw[QC,QC,Cl Y,Cl Y]at u;omega
 . have:=d x j;have:=d y j;dsimp only;omega
 . have R:=r k E;have S:=(a x k).1;have Q:=(a y k).1;rw[show(λj=>c k j*((EI (B+1) x j:Int)-(EI (B+1) y j:Int)))=(λj=>c k j*(EI (B+1) x j:Int)-c k j*(EI (B+1) y j:Int))from funext λj=>Int.mul_sub _ _ _,Zy];omega
theorem Z0(p q:List Rat):(JE p q).length<=max p.length q.length:=Xz (Yi _ _) λi a=>by rw[La,J6 Y,J6 Y,Rat.sub_self]
def DX(c:Rat)(p:List Rat):List Rat:=Jd (YR c p)
theorem JP(c:Rat)(p:List Rat):Jd (DX c p)=DX c p:=J9 _
theorem Yh(c:Rat)(p:List Rat)(i:Nat):cf (DX c p) i=cf p i*c:=by unfold DX;rw[Yc,Hw]
theorem Yq(c:Rat)(p:List Rat)(x:Rat):ev (DX c p) x=ev p x*c:=by unfold DX;rw[Xq,Xh]
theorem XN{a b:Rat}(c:a≠0)(d:b≠0):a*b≠0:=λh=>by
 rcases C8.1 h with h|h
 . exact c h
 . exact d h
theorem QE(h:cf p n≠0):n<p.length:=by
 by_cases a:n<p.length
 . exact a
 . exact absurd (J6 Y) h
theorem Ye(d:c≠0)(hp:Jd p=p):(DX c p).length=p.length:=by
 refine Nat.le_antisymm (Xz (JP _ _) λi e=>by rw[Yh,J6 e,Cy]) ?_;by_cases a:p=[]
 . rw[a];exact AK _
 . have b:=Jw hp a;have f:0<p.length:=Ai.2 a;have g:=QE (p:=DX c p) (n:=p.length-1) (by rw[Yh];exact XN b d);omega
theorem K5(c d:Rat)(p:List Rat):DX c (DX d p)=DX (d*c) p:=YT (JP _ _) (JP _ _) λx=>by rw[Yq,Yq,Yq];grind
theorem IU(hp:Jd p=p):DX 1 p=p:=YT (JP _ _) hp λx=>by rw[Yq];grind
theorem Z1(c:Rat):DX c []=[]:=rfl
theorem IV(b:c≠0)(hp:Jd p=p)(a:p≠[]):DX c p≠[]:=λh=>by
 have:=Ye b hp;rw[h]at this;exact a (List.length_eq_zero_iff.1 this.symm)
theorem JD(hp:Jd p=p)(hq:Jd q=q)(a:p≠[])(b:q≠[]):(Jo p q).length=p.length+q.length-1:=Ni hp hq a b
theorem K6(h:p.length=0):p=[]:=List.length_eq_zero_iff.1 h
theorem K7{u v:List Rat}(hq:Jd q=q)(a:q≠[])(f:Jd u=u)(g:Jd v=v)(i:v.length<q.length)(h:∀x,ev p x=ev q x*ev u x+ev v x):u=Jt p q/\v=JZ p q:=by
 obtain⟨b,c,d,e⟩:=YW p q hq a;exact Rq hq a f d g e i c (λx=>by rw[<-h x,b x])
theorem K8(a:d≠0)(p q:List Rat)(hq:Jd q=q)(b:q≠[]):Jt (DX c p) (DX d q)=DX (c/d) (Jt p q)/\JZ (DX c p) (DX d q)=DX c (JZ p q):=by
 obtain⟨e,f,j,k⟩:=YW p q hq b;have h:=K7 (p:=DX c p) (JP d q) (IV a hq b) (JP (c/d) (Jt p q)) (JP c (JZ p q)) (by
  rw[Ye a hq];exact Cb (Xz (JP _ _) λi g=>by rw[Yh,J6 g,Cy]) f) (λx=>by
  rw[Yq,Yq,Yq,Yq,e x]
  have:d*(c/d)=c:=by rw[Fw];exact A4 a
  grind)
 exact⟨h.1.symm,h.2.symm⟩
def QF:Nat->List Rat->List Rat->List Rat->List Rat->Prop
 |0,p,q,a,b=>p=a/\q=b
 |n+1,p,q,a,b=>∃c:Rat,q≠[]/\c≠0/\QF n q (DX c (JZ p q)) a b
def Eu(p q a b:List Rat):Prop:=∃n,QF n p q a b
theorem Eu.base(p q:List Rat):Eu p q p q:=⟨0,rfl,rfl⟩
theorem Eu.step(p q:List Rat)(c:Rat)(a b:List Rat)(h:q≠[])(k:c≠0):Eu q (DX c (JZ p q)) a b->Eu p q a b:=λ⟨n,e⟩=>⟨n+1,c,h,k,e⟩
theorem Eu.ind{d:∀p q a b:List Rat,Eu p q a b->Prop}(base:∀p q,d p q p q (.base p q))
(step:∀p q c a b (h:q≠[]) (k:c≠0) (e:Eu q (DX c (JZ p q)) a b),d q (DX c (JZ p q)) a b e->d p q a b (.step p q c a b h k e))
{p q a b:List Rat}(t:Eu p q a b):d p q a b t:=by
 obtain⟨n,e⟩:=t;induction n generalizing p q with
 |zero=>obtain⟨rfl,rfl⟩:=e;exact base _ _
 |succ n f=>obtain⟨c,h,k,e⟩:=e;exact step p q c a b h k ⟨n,e⟩ (f e)
theorem Eu.tail(h:Eu p q a b)(e:b≠[])(f:c≠0):Eu p q b (DX c (JZ a b)):=by
 induction h using Eu.ind with
 |base p q=>exact .step p q c _ _ e f (.base _ _)
 |step p q d a b hq g _ i=>exact .step p q d _ _ hq g (i e)
theorem Y2(p q:List Rat):Jd (JZ p q)=JZ p q:=J9 _
theorem J8(p q:List Rat):Jd (Jt p q)=Jt p q:=J9 _
theorem Eu.len(h:Eu p q a b):Jd q=q->b.length<=q.length:=by
 induction h using Eu.ind with
 |base p q=>exact λ_=>Aa _
 |step p q d a b hq f _ g=>
  intro c;have e:=g (JP _ _);rw[Ye f (Y2 _ _)]at e;have:=(YW p q c hq).2.1;omega
theorem Z2(h:Eu p q a b):Jd p=p->Jd q=q->b≠[]->∀u v T:List Rat,Jd u=u->Jd v=v->Jd T=T->u.length+b.length<=q.length+1->v.length+b.length<=p.length+1->(u≠[]\/v≠[])->T.length<b.length->
 (∀x,ev T x=ev u x*ev p x+ev v x*ev q x)->∃c:Rat,c≠0/\T=DX c (JZ a b):=by
 induction h using Eu.ind with
 |base p q=>
  intro hp hq g u v T i w m M lv f o n;have S:u.length<=1:=Y
  obtain⟨A,W,X,h4⟩:=YW p q hq g;match u,S,f with
  |[],_,f=>
   have l:v≠[]:=by
    rcases f with f|f
    . exact absurd rfl f
    . exact f
   have e:T=Jo v q:=YT m (Jy _ _) λx=>by rw[Ji,n x];simp[ev];grind
   have h5:=JD w hq l g;have h6:0<v.length:=Ai.2 l;rw[e]at o;omega
  |[c],_,_=>
   have hc:c≠0:=λe=>by
    have:=Jw i O;simp[YJ]at this;exact this e
   refine⟨c,hc,?_⟩;have N:∀x,ev (DX c p) x=ev q x*ev (DX (-1) v) x+ev T x:=λx=>by
    rw[Yq,Yq,n x];simp[ev];grind
   have h7:=(K7 hq g (JP _ _) m o N).2;have D:=(K8 (c:=c) (d:=1) DL p q hq g).2;rw[IU hq]at D;rw[h7,D]
 |step p q d a b g hd hE K=>
  intro hp hq hb u v T i w m M lv f o n;obtain⟨A,W,X,h4⟩:=YW p q hq g;obtain⟨r,t⟩:=ex (DX d (JZ p q));rw[t]at hE K;have s:Jd r=r:=by rw[<-t];exact JP _ _
  have U:b.length<=r.length:=hE.len s;have R:r≠[]:=λe=>by
   rw[e,AG]at U;omega
  have y:d*(1/d)=1:=by rw[Fw];exact A4 hd
  have k:(1/d)≠0:=λe=>by rw[e,Rat.mul_zero]at y;exact absurd y DL
  have Q:∀x,ev p x=ev q x*ev (Jt p q) x+ev r x*(1/d):=λx=>by rw[A x,<-t,Yq];grind
  have z:∀x,ev T x=ev (XD (Jo u (Jt p q)) v) x*ev q x+ev (DX (1/d) u) x*ev r x:=λx=>by
   rw[n x,Q x,Y6,Ji,Yq];grind
  have ad:(DX (1/d) u).length+b.length<=q.length+1:=by rw[Ye k i];exact M
  refine K hq s hb (XD (Jo u (Jt p q)) v) (DX (1/d) u) T (Hz _ _) (JP _ _) m ?_ ad ?_ o z
  . by_cases E:XD (Jo u (Jt p q)) v=[]
    . rw[E];simp;omega
    . have l1:=JD (Hz _ _) hq E g;have e:Jo (XD (Jo u (Jt p q)) v) q=JE T (Jo (DX (1/d) u) r):=YT (Jy _ _) (Yi _ _) λx=>by rw[Ji,XP,Ji,z x];grind
      have l2:=Z0 T (Jo (DX (1/d) u) r);rw[<-e,l1]at l2;by_cases j:u=[]
      . have V:Jo (DX (1/d) u) r=[]:=by rw[j];rfl
        rw[V]at l2;simp at l2;omega
      . have l4:=JD (JP _ _) s (IV k i j) R;rw[Ye k i]at l4;omega
  . by_cases j:u=[]
    . left
      have l:v≠[]:=by
       rcases f with f|f
       . exact absurd j f
       . exact f
      have e:XD (Jo u (Jt p q)) v=v:=YT (Hz _ _) w λx=>by rw[Y6,Ji,j];simp[ev];grind
      rw[e];exact l
    . right;exact IV k i j
def Ln(K:Nat)(r:List Rat):Prop:=∃c:Rat,c≠0/\∀i,∃z:Int,Sm K z/\cf r i*c=(z:Rat)
theorem Z3(s t:Nat)(f:Nat->Int):Yd (s+t) f=Yd s f+Yd t (λj=>f (s+j)):=by
 induction t with
 |zero=>simp[Yd]
 |succ t a=>rw[<-Fe,Yd,Yd,a];omega
theorem Mv{f:Nat->Rat}(h:∀k,k<n->f k=(g k:Rat)):Dj n f=((Yd n g:Int):Rat):=by
 induction n with
 |zero=>rfl
 |succ n a=>rw[Dj,Yd,a λk b=>h k Y,h n Y,FJ]
theorem K9(p q:List Rat)(h:p.length<=n)(k:Nat):cf (Jo p q) k=Dj n (λi=>if i<=k then cf p i*cf q (k-i)else 0):=by
 unfold Jo;rw[Yc,Hx,<-Rm p q h];rfl
theorem Ln.sc{r:List Rat}(h:Ln K r)(j:d≠0):Ln K (DX d r):=by
 obtain⟨c,g,k⟩:=h;have e:d*(1/d)=1:=by rw[Fw];exact A4 j
 refine⟨(1/d)*c,XN (λa=>by rw[a,Rat.mul_zero]at e;exact absurd e DL) g,λi=>?_⟩;obtain⟨z,b,f⟩:=k i;exact⟨z,b,by rw[Yh,<-f];grind⟩
theorem Ln.mono{K L:Nat}{r:List Rat}(h:Ln K r)(e:K<=L):Ln L r:=by
 obtain⟨c,d,f⟩:=h;exact⟨c,d,λi=>by obtain⟨z,a,b⟩:=f i;exact⟨z,a.mono e,b⟩⟩
theorem Z4{N A B:Nat}(b:A=J^K)(i:N+1<=1000000000)(c:B=(2*(N+1)*A+1)^N):(N+1)*(A*B)<J^((K+1)*(N+1)):=by
 have d:1<=A:=by rw[b];exact Cx Xt
 have f:2*(N+1)*A+1<=J^(K+1):=by
  have a:(2*(N+1)+1)*A<=J*A:=Am _ uo;rw[AY,<-b,Av A];rw[AE,Ct]at a;exact Aw (Nat.add_le_add_left d _) a
 have g:(2*(N+1)*A+1)^(N+1)<=J^((K+1)*(N+1)):=by rw[FK];exact CN f _
 refine AC ?_ g;have e:1<=B:=by rw[c];exact Cx Y
 rw[AY,<-c,<-AH,Av B];refine(Nat.mul_lt_mul_right e).2 ?_
 have:(N+1)*A<=2*(N+1)*A:=Am _ Y
 omega
theorem Z6{m:Nat}{cp cq:Rat}(hp:Jd p=p)(hq:Jd q=q)(ak:cp≠0)(am:cq≠0)(ah:∀i,∃z:Int,Sm K z/\cf p i*cp=(z:Rat))(ai:∀i,∃z:Int,Sm K z/\cf q i*cq=(z:Rat))(hl:p.length+q.length<=1000000000)(hle:q.length<=p.length)(aq:0<m)(av:m<=q.length):
 ∃u v:List Rat,Jd u=u/\Jd v=v/\u.length+m<=q.length+1/\v.length+m<=p.length+1/\(u≠[]\/v≠[])/\(XD (Jo u p) (Jo v q)).length<m/\
  (∀i,∃z:Int,Sm ((K+1)*(p.length+q.length)) z/\cf (XD (Jo u p) (Jo v q)) i=(z:Rat))/\(∀i,∃z:Int,Sm ((K+1)*(p.length+q.length)) z/\cf u i=(z:Rat)*cp)/\(∀i,∃z:Int,Sm ((K+1)*(p.length+q.length)) z/\cf v i=(z:Rat)*cq):=by
 obtain⟨α,hα⟩:=Classical.axiomOfChoice ah;obtain⟨β,hβ⟩:=Classical.axiomOfChoice ai;have E:q≠[]:=λe=>by
  have a:q.length=0:=by rw[e];rfl
  omega
 have Qm:p≠[]:=λe=>by
  have a:p.length=0:=by rw[e];rfl
  omega
 obtain⟨s,hs⟩:=ex (q.length+1-m);obtain⟨t,ht⟩:=ex (p.length+1-m);obtain⟨N,hN⟩:=ex (s+t-1);obtain⟨A,S⟩:=ex (J^K);have ae:∀i,(α i).natAbs<=A:=λi=>by have:=(hα i).1;unfold Sm at this;omega
 have af:∀i,(β i).natAbs<=A:=λi=>by have:=(hβ i).1;unfold Sm at this;omega
 have y:s+t=N+1:=Y
 obtain⟨z,⟨f,ay,ad⟩,o,ap⟩:=Zz N A (λk j=>if j<s then(if j<=m-1+k then α (m-1+k-j)else 0)else(if j-s<=m-1+k then β (m-1+k-(j-s))else 0)) (λk j=>by
  split
  . split
    . exact ae _
    . simp
  . split
    . exact af _
    . simp)
 obtain⟨B,T⟩:=ex ((2*(N+1)*A+1)^N);rw[T]at o;obtain⟨u,W⟩:=ex (Jd ((List.range s).map λj=>(z j:Rat)*cp));obtain⟨v,hv⟩:=ex (Jd ((List.range t).map λj=>(z (s+j):Rat)*cq));have r:Jd u=u:=by rw[<-W];exact J9 _
 have l:Jd v=v:=by rw[<-hv];exact J9 _
 have g:∀j,cf u j=if j<s then(z j:Rat)*cp else 0:=λj=>by rw[<-W,Yc,LQ]
 have n:∀j,cf v j=if j<t then(z (s+j):Rat)*cq else 0:=λj=>by rw[<-hv,Yc,LQ]
 have Qi:u.length<=s:=Xz r λi V=>by rw[g,BH Y]
 have Qn:v.length<=t:=Xz l λi V=>by rw[n,BH Y]
 obtain⟨c,x⟩:∃c:Nat->Int,∀i,c i=Yd s (λj=>if j<=i then z j*α (i-j)else 0)+Yd t (λj=>if j<=i then z (s+j)*β (i-j)else 0):=⟨_,λ_=>rfl⟩;have U:∀i,cf (XD (Jo u p) (Jo v q)) i=(c i:Rat):=λi=>by
  rw[Ru,K9 u p Qi,K9 v q Qn,x,FJ];congr 1
  . refine Mv λj b=>?_;split
    . rw[g,BJ b,Ax,<-(hα (i-j)).2];grind
    . rfl
  . refine Mv λj b=>?_;split
    . rw[n,BJ b,Ax,<-(hβ (i-j)).2];grind
    . rfl
 have Ql:∀i,(c i).natAbs<=(N+1)*(A*B):=λi=>by
  have a:(Yd s λj=>if j<=i then z j*α (i-j)else 0).natAbs<=s*(A*B):=K4 λj _=>by
   split
   . rw[Cr,Av];exact CB (ae _) (o _)
   . simp
  have Q:(Yd t λj=>if j<=i then z (s+j)*β (i-j)else 0).natAbs<=t*(A*B):=K4 λj _=>by
   split
   . rw[Cr,Av];exact CB (af _) (o _)
   . simp
  have e3:=FD (Yd s λj=>if j<=i then z j*α (i-j)else 0) (Yd t λj=>if j<=i then z (s+j)*β (i-j)else 0);rw[<-x i]at e3;rw[<-y,AE];omega
 have Qo:(XD (Jo u p) (Jo v q)).length<m:=by
  have:(XD (Jo u p) (Jo v q)).length<=m-1:=Xz (Hz _ _) λi V=>by
   by_cases aw:i<m-1+N
   . rw[U];have e:=ap (i-(m-1)) Y;rw[<-y,Z3]at e;have a:Yd s (λj=>if j<=i then z j*α (i-j)else 0)=Yd s (λj=>(if j<s then(if j<=m-1+(i-(m-1))then α (m-1+(i-(m-1))-j)else 0)else(if j-s<=m-1+(i-(m-1))then β (m-1+(i-(m-1))-(j-s))else 0))*z j):=QD λj b=>by
      rw[BJ b,show m-1+(i-(m-1))=i from by omega];split
      . exact CX _ _
      . simp
     have Q:Yd t (λj=>if j<=i then z (s+j)*β (i-j)else 0)=Yd t (λj=>(if s+j<s then(if s+j<=m-1+(i-(m-1))then α (m-1+(i-(m-1))-(s+j))else 0)else(if s+j-s<=m-1+(i-(m-1))then β (m-1+(i-(m-1))-(s+j-s))else 0))*z (s+j)):=QD λj b=>by
      rw[BH (show ¬s+j<s by omega),show m-1+(i-(m-1))=i from by omega,show s+j-s=j from by omega];split
      . exact CX _ _
      . simp
     rw[x,a,Q,e];rfl
   . refine J6 ?_;have l1:=Rw (Jo u p) (Jo v q);by_cases X:u=[]
     . have w:Jo u p=[]:=by rw[X];rfl
       by_cases d:v=[]
       . have a:Jo v q=[]:=by rw[d];rfl
         rw[w,a];exact AK _
       . have l3:=JD l hq d E;rw[w,AG]at l1;rw[w];omega
     . have l2:=JD r hp X Qm;by_cases d:v=[]
       . have a:Jo v q=[]:=by rw[d];rfl
         rw[a,AG]at l1;rw[a];omega
       . have l3:=JD l hq d E;omega
  omega
 have Qj:u≠[]\/v≠[]:=by
  by_cases an:f<s
  . left
    intro e;have:=g f;rw[e,Yx,BJ an]at this;exact XN (by exact_mod_cast ad) ak this.symm
  . right
    intro e;have:=n (f-s);rw[e,Yx,BJ Y,show s+(f-s)=f from by omega]at this;exact XN (by exact_mod_cast ad) am this.symm
 have D:=Z4 S.symm Y T.symm;have R:(K+1)*(N+1)<=(K+1)*(p.length+q.length):=As _ Y;have Qk:1<=A:=by rw[<-S];exact Cx Xt
 have M:∀i,Sm ((K+1)*(p.length+q.length)) (z i):=λi=>by
  have a:B<=(N+1)*(A*B):=Aw (Cz B Qk) (Cz _ Y);unfold Sm;exact Cb (Aw (o i) a) (AC D (Ay Xt R))
 refine⟨u,v,r,l,Y,Y,Qj,Qo,λi=>⟨c i,?_,U i⟩,λi=>?_,λi=>?_⟩
 . unfold Sm;exact Cb (Ql i) (AC D (Ay Xt R))
 . rw[g];split
   . exact⟨z i,M i,rfl⟩
   . exact⟨0,Sm.zero _,O⟩
 . rw[n];split
   . exact⟨z (s+i),M _,rfl⟩
   . exact⟨0,Sm.zero _,O⟩
theorem QG(hp:Jd p=p)(hq:Jd q=q)(e:Ln K p)(f:Ln K q)(hl:p.length+q.length<=1000000000)(hle:q.length<=p.length)(h:Eu p q a b)(d:b≠[]):Ln ((K+1)*(p.length+q.length)) (JZ a b):=by
 obtain⟨cp,o,l⟩:=e;obtain⟨cq,r,m⟩:=f;obtain⟨u,v,w,A,t,y,s,k,g,_,_⟩:=Z6 hp hq o r l m hl hle (Ai.2 d) (h.len hq);obtain⟨c,n,j⟩:=Z2 h hp hq d u v _ w A (Hz _ _) t y s k (λx=>by rw[Y6,Ji,Ji]);refine⟨c,n,λi=>?_⟩;obtain⟨z,D,E⟩:=g i;exact⟨z,D,by rw[<-Yh,<-j,E]⟩
theorem Z7(hp:Jd p=p)(hq:Jd q=q)(h:p.length<q.length):JZ p q=p:=
 ((K7 (p:=p) hq (λe=>by rw[e]at h;simp at h) (u:=[]) (v:=p) rfl hp h λx=>by simp[ev];grind).2).symm
theorem Z8(hp:Jd p=p)(hq:Jd q=q)(d:Ln K p)(e:Ln K q)(hl:p.length+q.length<=1000000000)(h:Eu p q a b)(f:b≠[]):Ln ((K+1)*(p.length+q.length)) (JZ a b):=by
 by_cases hle:q.length<=p.length
 . exact QG hp hq d e hl hle h f
 . have hs:=Z7 hp hq Y;match h with
   |⟨0,j,k⟩=>subst j;subst k;rw[hs];exact d.mono (by
    have:(K+1)*1<=(K+1)*(p.length+q.length):=As _ Y
    omega)
   |⟨n+1,c,m,g,hE⟩=>
    have hE:Eu q (DX c (JZ p q)) a b:=⟨n,hE⟩;rw[hs]at hE;have i:=Ye g hp;have l:=QG hq (JP c p) e (d.sc g) Y Y hE f;rwa[i,Fb q.length]at l
theorem IW(a:c≠0):1/c≠0:=λe=>by
 have h:(1/c)*c=1:=A4 a;rw[e,Cy]at h;exact absurd h DL
def Jp(p:List Rat):List Rat:=DX (1/cf p (p.length-1)) p
theorem Z9:Jp []=[]:=rfl
theorem Yu(p:List Rat):Jd (Jp p)=Jp p:=JP _ _
theorem LA(b:c≠0)(hp:Jd p=p):Jp (DX c p)=Jp p:=by
 by_cases a:p=[]
 . subst a;rfl
 . unfold Jp;rw[Ye b hp,Yh,K5];have hl:=Jw hp a;congr 1;obtain⟨l,e⟩:=ex (cf p (p.length-1));rw[e]at hl ⊢;have d:(1/(l*c))*(l*c)=1:=A4 (XN hl b);grind
theorem LB(hp:Jd p=p)(a:p≠[]):Jp p≠[]:=IV (IW (Jw hp a)) hp a
theorem Xm(hp:Jd p=p):(Jp p).length=p.length:=by
 by_cases a:p=[]
 . subst a;rfl
 . exact Ye (IW (Jw hp a)) hp
theorem LC(hp:Jd p=p)(a:p≠[]):cf (Jp p) ((Jp p).length-1)=1:=by
 rw[Xm hp];unfold Jp;rw[Yh,Fw];exact A4 (Jw hp a)
theorem I6(hp:Jd p=p):Jp (Jp p)=Jp p:=by
 by_cases a:p=[]
 . subst a;rfl
 . exact LA (IW (Jw hp a)) hp
def X3:Nat->List Rat->List Rat->List Rat
 |0,p,_=>Jp p
 |n+1,p,q=>if q=[]then Jp p else X3 n q (JZ p q)
def Jm(p q:List Rat):List Rat:=X3 q.length p q
theorem aA:∀(n m:Nat) (p q:List Rat),Jd q=q->q.length<=n->q.length<=m->X3 n p q=X3 m p q:=by
 intro n;induction n with
 |zero=>
  intro m p q _ h _;have hq:q=[]:=K6 Y;subst hq;cases m with
  |zero=>rfl
  |succ m=>simp[X3]
 |succ n b=>
  intro m p q hq h c;by_cases a:q=[]
  . subst a;cases m with
    |zero=>simp[X3]
    |succ m=>simp[X3]
  . have hl:0<q.length:=Ai.2 a;cases m with
    |zero=>omega
    |succ m=>
     have d:=(YW p q hq a).2.1;simp only[X3,BH a];exact b m q (JZ p q) (Y2 _ _) Y Y
theorem QH(p:List Rat):Jm p []=Jp p:=rfl
theorem aB(hq:Jd q=q)(a:q≠[]):Jm p q=Jm q (JZ p q):=by
 have c:=(YW p q hq a).2.1;have hl:0<q.length:=Ai.2 a;unfold Jm;obtain⟨n,b⟩:∃n,q.length=n+1:=⟨q.length-1,Y⟩;rw[b,X3,BH a];exact aA _ _ _ _ (Y2 _ _) Y (Aa _)
theorem aC:∀(n:Nat) (c d:Rat) (p q:List Rat),c≠0->d≠0->Jd p=p->Jd q=q->X3 n (DX c p) (DX d q)=X3 n p q:=by
 intro n;induction n with
 |zero=>intro c d p q b _ hp _;exact LA b hp
 |succ n f=>
  intro c d p q b e hp hq;by_cases a:q=[]
  . subst a;simp only[X3,Z1,BJ];exact LA b hp
  . simp only[X3,BH a,BH (IV e hq a)];rw[(K8 e p q hq a).2];exact f d c q (JZ p q) e b hq (Y2 _ _)
theorem QI(b:c≠0)(a:d≠0)(hp:Jd p=p)(hq:Jd q=q):Jm (DX c p) (DX d q)=Jm p q:=by
 unfold Jm;rw[Ye a hq];exact aC _ _ _ _ _ b a hp hq
theorem Eu.gcd(h:Eu p q a b):Jd p=p->Jd q=q->Jm p q=Jm a b:=by
 induction h using Eu.ind with
 |base p q=>exact λ_ _=>rfl
 |step p q c a b f e _ g=>
  intro hp hq;rw[<-g hq (JP _ _),aB hq f];have d:=QI (c:=1) DL e hq (Y2 p q);rw[IU hq]at d;exact d.symm
theorem aD:∀(n:Nat) (p q:List Rat),Jd (X3 n p q)=X3 n p q:=by
 intro n;induction n with
 |zero=>intro p q;exact Yu _
 |succ n a=>
  intro p q;rw[X3];split
  . exact Yu _
  . exact a _ _
theorem JK(p q:List Rat):Jd (Jm p q)=Jm p q:=aD _ _ _
theorem GX(c:Rat):c*(c.den:Rat)=(c.num:Rat):=by
 have d:((c.den:Int):Rat)≠0:=by exact_mod_cast c.den_nz
 have a:=C2 c;rw[Cs]at a;have b:(c.num:Rat)/((c.den:Int):Rat)*((c.den:Int):Rat)=c.num:=A4 d;rw[a,AM]at b;exact b
theorem dvd_one{a b c:Int}(h:a∣b*c)(e:Nat.gcd a.natAbs c.natAbs=1):a∣b:=by
 have d:=FB.2 h;rw[Cr]at d;exact FB.1 (Nat.Coprime.dvd_of_dvd_mul_right e d)
theorem aE{n:Int}(h:c*(D:Rat)=(n:Rat)):(c.den:Int)∣D/\c.num*D=n*c.den:=by
 have b:c*(c.den:Rat)=(c.num:Rat):=GX c;have d:((c.num*D:Int):Rat)=((n*(c.den:Int):Int):Rat):=by
  rw[Ax,Ax,<-b,<-h];show c*(c.den:Rat)*(D:Rat)=c*(D:Rat)*((c.den:Int):Rat);rw[AM];grind
 have a:c.num*D=n*c.den:=Rat.intCast_inj.1 d;refine⟨?_,a⟩;have e:(c.den:Int)∣D*c.num:=⟨n,by rw[CX D,a,CX]⟩;refine dvd_one e ?_;show Nat.gcd (c.den:Int).natAbs c.num.natAbs=1;rw[AD,CZ];exact c.reduced
theorem aF{L G:Int}(V:∀i,((cf p i).den:Int)∣L)(W:∀u:Int,(∀i,((cf p i).den:Int)∣u)->L∣u)(T:∀i,G∣(cf p i).num)(U:∀v:Int,(∀i,v∣(cf p i).num)->v∣G)(s:G≠0)(h:Ln K p):
 ∀i,∃z:Int,Sm K z/\cf p i*((L:Rat)/(G:Rat))=(z:Rat):=by
 obtain⟨c,X,hz⟩:=h;have E:c.num≠0:=λe=>X (FH.1 e);have A:(c.den:Int)≠0:=by have:=c.den_nz;omega
 have k:∀i,∃z:Int,Sm K z/\(cf p i).num*c.num=z*((cf p i).den*c.den):=λi=>by
  obtain⟨z,l,n⟩:=hz i;refine⟨z,l,?_⟩;have N:c*(c.den:Rat)=(c.num:Rat):=GX c;have a:cf p i*((cf p i).den:Rat)=((cf p i).num:Rat):=GX _;have Q:(((cf p i).num*c.num:Int):Rat)=((z*(((cf p i).den:Int)*(c.den:Int)):Int):Rat):=by
   rw[Ax,Ax,Ax,AM,AM,<-N,<-a,<-n];grind
  exact Rat.intCast_inj.1 Q
 have g:L∣c.num:=W _ λi=>by
  obtain⟨z,_,e⟩:=k i;have b:((cf p i).den:Int)∣(cf p i).num*c.num:=⟨z*c.den,by rw[e,Int.mul_left_comm]⟩;rw[CX]at b;refine dvd_one b ?_;show Nat.gcd ((cf p i).den:Int).natAbs (cf p i).num.natAbs=1;rw[AD,CZ];exact(cf p i).reduced
 have j:(c.den:Int)∣G:=U _ λi=>by
  obtain⟨z,_,e⟩:=k i;have b:(c.den:Int)∣(cf p i).num*c.num:=⟨z*(cf p i).den,by rw[e,<-Fp,CX]⟩;refine dvd_one b ?_;show Nat.gcd (c.den:Int).natAbs c.num.natAbs=1;rw[AD,CZ];exact c.reduced
 obtain⟨u,g⟩:=g;obtain⟨v,j⟩:=j;have M:u≠0:=λe=>E (by rw[g,e,Int.mul_zero]);have x:v≠0:=λe=>s (by rw[j,e,Int.mul_zero]);intro i;obtain⟨e,t⟩:=V i;obtain⟨m,w⟩:=T i;obtain⟨z,l,n⟩:=k i;have hd:((cf p i).den:Int)≠0:=by have:=(cf p i).den_nz;omega
 have D:z=m*e*(u*v):=by
  have R:z*(((cf p i).den:Int)*c.den)=m*e*(u*v)*(((cf p i).den:Int)*c.den):=by
   rw[<-n,w,g,j,t];generalize ((cf p i).den:Int)=d;generalize (c.den:Int)=f;grind
  exact Int.eq_of_mul_eq_mul_right (Cv hd A) R
 refine⟨m*e,l.le ?_,?_⟩
 . rw[D,Cr (m*e)]
   have:0<(u*v).natAbs:=Int.natAbs_pos.2 (Cv M x)
   exact Cc _ this
 . have q:(G:Rat)≠0:=by exact_mod_cast s
   have a:cf p i*((cf p i).den:Rat)=((cf p i).num:Rat):=GX _;rw[w,Ax]at a;have y:(L:Rat)=((cf p i).den:Rat)*(e:Rat):=by rw[t,Ax,AM]
   have o:(L:Rat)/(G:Rat)*(G:Rat)=L:=A4 q;have S:(cf p i*((L:Rat)/(G:Rat))-((m*e:Int):Rat))*(G:Rat)=0:=by
    rw[Ax];generalize (L:Rat)/(G:Rat)=f at o ⊢;rw[y]at o;generalize ((cf p i).den:Rat)=d at a o;grind
   rcases C8.1 S with r|r
   . grind
   . exact absurd r q
def YL(p:List Rat):Nat->Nat
 |0=>1
 |n+1=>Nat.lcm (YL p n) (cf p n).den
def YC(p:List Rat):Nat->Nat
 |0=>0
 |n+1=>Nat.gcd (YC p n) (cf p n).num.natAbs
theorem QJ(p:List Rat):∀n,0<YL p n:=by
 intro n;induction n with
 |zero=>exact Nat.one_pos
 |succ n a=>exact Nat.lcm_pos a (cf p n).den_pos
theorem Mw(p:List Rat):∀n i,i<n->(cf p i).den∣YL p n:=by
 intro n;induction n with
 |zero=>intro i h;omega
 |succ n a=>
  intro i h;rw[YL];by_cases e:i=n
  . subst e;exact Nat.dvd_lcm_right _ _
  . exact Nat.dvd_trans (a i Y) (Nat.dvd_lcm_left _ _)
theorem Mx(p:List Rat)(u:Nat)(h:∀i,(cf p i).den∣u):∀n,YL p n∣u:=by
 intro n;induction n with
 |zero=>exact Nat.one_dvd _
 |succ n a=>exact Nat.lcm_dvd a (h n)
theorem My(p:List Rat):∀n i,i<n->YC p n∣(cf p i).num.natAbs:=by
 intro n;induction n with
 |zero=>intro i h;omega
 |succ n a=>
  intro i h;rw[YC];by_cases e:i=n
  . subst e;exact CU _ _
  . exact Nat.dvd_trans (Fg _ _) (a i Y)
theorem QK(p:List Rat)(v:Nat)(h:∀i,v∣(cf p i).num.natAbs):∀n,v∣YC p n:=by
 intro n;induction n with
 |zero=>exact Nat.dvd_zero _
 |succ n a=>exact Nat.dvd_gcd a (h n)
theorem QL(hD:D≠0)(h:CD D K c):∃n:Int,Sm K n/\c*(D:Rat)=(n:Rat):=by
 obtain⟨n,rfl,h⟩:=h;refine⟨n,h,?_⟩;have a:(D:Rat)≠0:=by exact_mod_cast hD
 rw[Cs];exact A4 a
theorem LD{n:Int}(hD:D≠0)(b:Sm K n)(h:c*(D:Rat)=(n:Rat)):CD D K c:=by
 refine⟨n,?_,b⟩;have a:(D:Rat)≠0:=by exact_mod_cast hD
 rw[Cs,<-h];exact(Rat.mul_div_cancel a).symm
theorem QM(hD:D≠0)(hs:Sm K D)(h:D6 D K p)(n:Nat):Sm K (YL p n:Int):=by
 refine hs.le ?_;rw[AD];refine Nat.le_of_dvd (Int.natAbs_pos.2 hD) (Mx p _ (λi=>?_) n);obtain⟨z,_,e⟩:=QL hD (h i);have:=(aE e).1;exact CJ.1 this
theorem QN(h:∀i,Sm K (cf p i).num):∀n,Sm K (YC p n:Int):=by
 intro n;induction n with
 |zero=>exact Sm.zero K
 |succ n a=>exact Sm.gcd a (h n)
theorem D6.ln(hD:D≠0)(h:D6 D K p):Ln K p:=
 ⟨(D:Rat),by exact_mod_cast hD,λi=>QL hD (h i)⟩
theorem I7(hp:Jd p=p)(a:p≠[]):YC p p.length≠0:=λe=>by
 have hl:0<p.length:=Ai.2 a;have b:=My p p.length (p.length-1) Y;rw[e]at b;have c:(cf p (p.length-1)).num.natAbs=0:=Nat.zero_dvd.1 b;exact Jw hp a (FH.1 (Int.natAbs_eq_zero.1 c))
def J2(p:List Rat):List Rat:=DX ((YL p p.length:Rat)/(YC p p.length:Rat)) p
theorem aG(hp:Jd p=p)(a:p≠[]):0<(YL p p.length:Rat)/(YC p p.length:Rat):=by
 have b:(0:Rat)<(YL p p.length:Rat):=by exact_mod_cast QJ p _
 have c:(0:Rat)<(YC p p.length:Rat):=by exact_mod_cast Nat.pos_of_ne_zero (I7 hp a)
 rw[Ft];exact Rat.mul_pos b (Rat.inv_pos.2 c)
theorem QO(hp:Jd p=p)(d:p≠[])(h:Ln K p):∀i,∃z:Int,Sm K z/\cf (J2 p) i=(z:Rat):=by
 have c:∀i,p.length<=i->cf p i=0:=λi a=>J6 a;have e:=aF (p:=p) (L:=(YL p p.length:Int)) (G:=(YC p p.length:Int)) (λi=>by
  by_cases a:i<p.length
  . exact Int.natCast_dvd_natCast.2 (Mw p _ i a)
  . rw[c i Y];exact Int.one_dvd _) (λu g=>by
  refine CJ.2 (Mx p _ (λi=>CJ.1 (g i)) _)) (λi=>by
  by_cases a:i<p.length
  . exact CJ.2 (My p _ i a)
  . rw[c i Y];exact Int.dvd_zero _) (λv j=>by
  have:v.natAbs∣YC p p.length:=QK p _ (λi=>FB.2 (j i)) _
  exact Int.natAbs_dvd.1 (Int.natCast_dvd_natCast.2 this)) (by have:=I7 hp d;omega) h
 intro i;obtain⟨z,f,b⟩:=e i;refine⟨z,f,?_⟩;unfold J2;rw[Yh];rw[AM,AM]at b;exact b

