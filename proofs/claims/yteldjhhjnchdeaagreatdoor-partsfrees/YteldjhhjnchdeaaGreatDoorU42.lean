import Derived.Test.YteldjhhjnchdeaaGreatDoorU41
open Go.Value renaming slice->B,pointer->F,int->H,bool->L,agg->P
open Go renaming undef->C
open Go.Obj renaming cells->G
open Go.IntKind renaming i64->I
set_option maxRecDepth 100000
set_option maxHeartbeats 16000000
namespace Go.Proofs.YteldjhhjnchdeaaGreatDoor
namespace M3
open Go.RowKit Go.Shelf
attribute [local go_sem] Oper.semAt_some
def LB(w V:World)(B5 b c:Nat)(rs a:Value)(R:List Rat):Prop:=
 Boxed V (w.heap.size+1+1) 25 (B none 0 0)/\Boxed V (w.heap.size+1+1+1) 25 (B none 0 0)/\Boxed V B5 23 rs/\Boxed V b 23 a/\Boxed V c 23 a/\RowK true V rs R/\Bl w V
variable{S ps:List Rat}{n:Nat}{row:Option Nat}{V V':World}
theorem boxed_own(a:V.grownBy V' row)(b:∀r,row=some r->∃o:Obj,V.heap[r]?=some o/\o.isCells=false){B:Nat}{t:TypeId}{v:Value}(h:Boxed V B t v):Boxed V' B t v:=Xw a b (show Bx V B t #[v]from h)
theorem LB.own{w:World}{B5 c d:Nat}{rs g:Value}{R:List Rat}(h:LB w V B5 c d rs g R)(a:V.grownBy V' row)(f:∀x,row=some x->w.heap.size<=x/\∃o:Obj,V.heap[x]?=some o/\o.isCells=false):LB w V' B5 c d rs g R:=by
 have b:∀r,row=some r->∃o:Obj,V.heap[r]?=some o/\o.isCells=false:=λr e=>(f r e).2;exact⟨boxed_own a b h.1,boxed_own a b h.2.1,boxed_own a b h.2.2.1,boxed_own a b h.2.2.2.1,boxed_own a b h.2.2.2.2.1,Iz a b h.2.2.2.2.2.1,h.2.2.2.2.2.2.grown a h.2.2.2.2.2.2.size λk e=>(f k e).1⟩
theorem row_zero(V:World)(a:Option Addr):RowK true V (B a 0 0) []:=⟨a,0,rfl,Aa _,J,Y,Or.inl rfl⟩
theorem dR(x:Value)(ps:List Rat)(y:Value)(w:World)(t:Jf w x ps)(m:Jf w y []):
 Calls Tryz.prog 22 #[x,y] w λe n=>e=.returned (.tuple #[P #[B none 0 0],P #[B none 0 0],L false])/\Bl w n:=by
 obtain⟨f,la,g,rfl⟩:=t.form;obtain⟨b,lb,c,rfl⟩:=m.form;have j:Mem w _ _:=((((Mem.nil w).push (.cell 25 (B f la g)) (cs:=#[B f la g]) ⟨rfl,rfl⟩).push (.cell 25 (B b lb c)) (cs:=#[B b lb c]) ⟨rfl,rfl⟩).push (.cell 25 (B none 0 0)) (cs:=#[B none 0 0]) ⟨rfl,rfl⟩).push (.cell 25 (B none 0 0)) (cs:=#[B none 0 0]) ⟨rfl,rfl⟩;simp only[A1]at j;obtain⟨d,l⟩:=ex ((((w.alloc (G #[B f la g] 25)).alloc (G #[B b lb c] 25)).alloc (G #[B none 0 0] 25)).alloc (G #[B none 0 0] 25));have k:Mem w d [some (w.heap.size,.cell 25 (B f la g)),some (w.heap.size+1,.cell 25 (B b lb c)),some (w.heap.size+1+1,.cell 25 (B none 0 0)),some (w.heap.size+1+1+1,.cell 25 (B none 0 0))]:=by rw[<-l];exact j
 obtain⟨q,r,A⟩:=Dg (show Calls Tryz.prog 20 #[P #[B b lb c]] d λe n=>e=.returned (H I (-1))/\Bl d n from YF (P #[B b lb c]) [] d (m.below k.2.2)) k l;clear t m j k l;go_enter Tryz.func22,Tryz.ntmps22
 go_upto_region 1 with fail
 rw[A.o];have c1:=(r.o.cell (i:=1) rfl).1.cell;go_wp2_with(go_at_call 20;refine q.o.mono ?_;clear q;rintro e o ⟨rfl,u⟩;have s:Bl o (o.alloc (G #[H I (-1)] 3)):=Ba o _;have a:=(r.o.below u).below s;have D:=(a.cell (i:=2) rfl).1.cell;have f2:=(a.cell (i:=2) rfl).1.frozen;have E:=(a.cell (i:=3) rfl).1.cell;have f3:=(a.cell (i:=3) rfl).1.frozen;have z:=O a.2.2;clear s a u)
 refine BA (v:=.tuple #[P #[B none 0 0],P #[B none 0 0],L false]) (by simp[results,Tryz.results22,go_sem,D,E]) rfl ⟨rfl,?_⟩;exact((z.o.setCell (p:=⟨w.heap.size+1+1,0,none⟩) (by show w.heap.size<=w.heap.size+1+1;omega) _).setCell (p:=⟨w.heap.size+1+1+1,0,none⟩) (by show w.heap.size<=w.heap.size+1+1+1;omega) _)
theorem dS(M z:Option Addr)(la N lb A n:Nat)(ps qs:List Rat)(w:World)(ha:RowK true w (B M la N) ps)(hb:RowK true w (B z lb A) qs)(hs:Sqs ps)(bh:Jd ps=ps)(hn:lb=n+1)(hm:la<=n):
 Calls Tryz.prog 22 #[P #[B M la N],P #[B z lb A]] w λe w'=>∃u v,e=.returned (.tuple #[u,v,L true])/\Jf w' u []/\Jf w' v ps/\Bl w w':=by
 have Qz:Tryz.prog.follows .mixedOrders=true:=by kernel_rfl
 obtain⟨bg,bi,bk,ce,_⟩:=ha.forms;obtain⟨bt,bj,bm,cg,_⟩:=hb.forms;have M0:Mem w _ _:=((((Mem.nil w).push (.cell 25 (B M la N)) (cs:=#[B M la N]) ⟨rfl,rfl⟩).push (.cell 25 (B z lb A)) (cs:=#[B z lb A]) ⟨rfl,rfl⟩).push (.cell 25 (B none 0 0)) (cs:=#[B none 0 0]) ⟨rfl,rfl⟩).push (.cell 25 (B none 0 0)) (cs:=#[B none 0 0]) ⟨rfl,rfl⟩;simp only[A1]at M0;obtain⟨V0,an⟩:=ex ((((w.alloc (G #[B M la N] 25)).alloc (G #[B z lb A] 25)).alloc (G #[B none 0 0] 25)).alloc (G #[B none 0 0] 25));have M1:Mem w V0 [some (w.heap.size,.cell 25 (B M la N)),some (w.heap.size+1,.cell 25 (B z lb A)),some (w.heap.size+1+1,.cell 25 (B none 0 0)),some (w.heap.size+1+1+1,.cell 25 (B none 0 0))]:=by rw[<-an];exact M0
 have Qw:=O M1;have Qv:=O (show Calls Tryz.prog 20 #[P #[B z lb A]] V0 λe w'=>e=.returned (H I (n:Int))/\Bl V0 w' by
  have h:=YF (P #[B z lb A]) qs V0 ⟨_,rfl,hb.below M1.2.2⟩;rwa[show((qs.length:Int)-1)=(n:Int)by omega]at h)
 have Qs:=O λ(V:World) (h:Bl w V)=>RJ (B M la N) ps V (ha.below h);have cj:∀W:World,(Instr.makeSlice 23 (H I 0) (H I 0)).run Tryz.prog W=.ok (B (some ⟨W.heap.size,0,none⟩) 0 0) (W.alloc (G (Ye 0) 65)):=λW=>KG 0 J W;obtain⟨x,hx⟩:=ex ((la:Int)-(n:Int):Int);have ck:IntKind.i64.wrap x=x:=by rw[BS];omega
 have ci:max (0:Int) x=0:=J
 obtain⟨Ua,Uf,Ud,Qu⟩:=D0 hs bh bg an;clear ha hb bg bt bi bk bj bm hs bh hn hm M0 M1 an;refine(BJ (n:=3)).1 ?_;refine BU Tryz.func22 rfl trivial ?_ rfl;simp only[Tryz.ntmps22,Ao,An,AD,Nat.reduceAdd,Nat.reduceSub,AF,AG,AZ,AN,Ap,AA];gi_wp2_with fail
 rw[Qu.o];refine⟨trivial,?_⟩;refine((BJ (n:=_)).2 Qv.o).mono ?_;rintro e w1 ⟨rfl,bc⟩;have Qm:Bl w1 (w1.alloc (G #[H I (n:Int)] 3)):=Ba w1 _;have Qi:=(Qw.o.below bc).below Qm;have h4:=BM w1 3 (H I (n:Int));have c0:=(Qi.cell (i:=0) rfl).1.cell;obtain⟨Qe,Qk,H4⟩:=Dg (Qs.o _ Qi.2.2) Qi h4;clear Qm Qi h4 bc Qv Qu Qw Qs;gi_wp2_with fail
 obtain⟨V1,ap⟩:=ex (w1.alloc (G #[H I (n:Int)] 3));obtain⟨B4,aj⟩:=ex (w1.heap.size);rw[ap]at Qe Qk H4 c0;rw[aj]at H4;rw[ap,aj];clear ap aj;refine⟨trivial,?_⟩;refine((BJ (n:=_)).2 Qe.o).mono ?_;rintro e d ⟨u2,rfl,ay,_,ae,_⟩;obtain⟨f,rc,e9,_⟩:=id ay;rw[<-Ud.o]at e9;subst e9;have Qn:=Qk.o.below ae;have h4:Boxed d B4 3 (H I (n:Int)):=(ae.block B4 H4.o.lt).trans H4.o;have Ql:Bl d (d.alloc (G #[B f la rc] 23)):=Ba d _;have Qo:=Qn.push (.cell 23 (B f la rc)) (cs:=#[B f la rc]) ⟨rfl,rfl⟩;have h5:Boxed (d.alloc (G #[B f la rc] 23)) B4 3 (H I (n:Int)):=(Ql.block B4 h4.lt).trans h4;have c4:=h5.cell;have Qp:=O Qo;have Qt:=O (ay.below Ql);clear ay ae Qn h4 Ql Qo h5 Qk H4 Qe c0;gi_wp2_with fail
 refine⟨trivial,?_⟩;refine(L8 Fence.wide _ trivial rfl _ _ _ _).mono ?_;rintro e w3 ⟨rfl,rfl⟩;have S:=((Qp.o.push (.rats (List.replicate 0 0)) (LA _ 0)).push (.cell 23 (B (some ⟨d.heap.size+1,0,none⟩) 0 0)) (cs:=#[B (some ⟨d.heap.size+1,0,none⟩) 0 0]) ⟨rfl,rfl⟩).push (.cell 23 (B (some ⟨d.heap.size+1,0,none⟩) 0 0)) (cs:=#[B (some ⟨d.heap.size+1,0,none⟩) 0 0]) ⟨rfl,rfl⟩;simp only[A1]at S;have Qq:Below (d.alloc (G #[B f la rc] 23)).heap.size (d.alloc (G #[B f la rc] 23)) ((((d.alloc (G #[B f la rc] 23)).alloc (G (Ye 0) 65)).alloc (G #[B (some ⟨d.heap.size+1,0,none⟩) 0 0] 23)).alloc (G #[B (some ⟨d.heap.size+1,0,none⟩) 0 0] 23)):=
  ((Ba _ _).alloc (by simp only[A1];omega) _).alloc (by simp only[A1];omega) _
 have hF:LB w ((((d.alloc (G #[B f la rc] 23)).alloc (G (Ye 0) 65)).alloc (G #[B (some ⟨d.heap.size+1,0,none⟩) 0 0] 23)).alloc (G #[B (some ⟨d.heap.size+1,0,none⟩) 0 0] 23)) d.heap.size (d.heap.size+1+1) (d.heap.size+1+1+1) (B f la rc) (B (some ⟨d.heap.size+1,0,none⟩) 0 0) ps:=
  ⟨(S.cell (i:=2) rfl).1,(S.cell (i:=3) rfl).1,(S.cell (i:=4) rfl).1,(S.cell (i:=6) rfl).1,(S.cell (i:=7) rfl).1,Qt.o.below Qq,S.2.2⟩
 obtain⟨W3,aq⟩:=ex ((((d.alloc (G #[B f la rc] 23)).alloc (G (Ye 0) 65)).alloc (G #[B (some ⟨d.heap.size+1,0,none⟩) 0 0] 23)).alloc (G #[B (some ⟨d.heap.size+1,0,none⟩) 0 0] 23));rw[aq]at hF;rw[aq];simp only[A1];obtain⟨B5,ak⟩:=ex (d.heap.size);rw[ak]at hF;rw[ak];have HF:=O hF;clear S Qq hF aq ak Qp Qt c4;gi_wp2_with fail
 have Qr:=O (show w.heap.size<=W3.heap.size from HF.o.2.2.2.2.2.2.size);refine Y6 rfl J (gf:=67) (lb:=#[F (some ⟨B5+1+1+1,0,none⟩)]) rfl trivial (DF Tryz.func67 (by kernel_rfl) rfl)
  (L7 Fence.wide _ trivial rfl J (B5+1+1+1) (some ⟨B5+1,0,none⟩) 0 0 (λ_=>L false) (λ_=>B none 0 0) (λ_=>L false) (λ_=>B none 0 0) J) (λ_=>rfl)
  (λ_ W=>LB w W B5 (B5+1+1) (B5+1+1+1) (B f la rc) (B (some ⟨B5+1,0,none⟩) 0 0) ps) (λ_ _ _=>False)
  (λk W W' row h hg hr=>h.own hg λr e=>⟨Ar Qr.o (hr r e).1,(hr r e).2⟩)
  (λc s W W' row h=>h.elim) HF.o ?rd
  (λk=>{ tmps:=#[P #[B M la N],P #[B z lb A],F (some ⟨w.heap.size,0,none⟩),F (some ⟨w.heap.size+1,0,none⟩),F (some ⟨w.heap.size+1+1,0,none⟩),F (some ⟨w.heap.size+1+1+1,0,none⟩),L false,F (some ⟨B4,0,none⟩),F (some ⟨B5,0,none⟩),F (some ⟨B5+1+1,0,none⟩),H I (((0:Nat):Int)-1-k),C,C,C,C,P #[B z lb A],H I ↑n,H I ↑n,L (decide ((n:Int)<0)),C,C,F (some ⟨w.heap.size,0,none⟩),B M la N,B f la rc,B f la rc,H I ↑la,H I ↑n,H I x,H I 0,B (some ⟨B5+1,0,none⟩) 0 0,B (some ⟨B5+1,0,none⟩) 0 0,.func (.func 67) #[] #[F (some ⟨B5+1+1+1,0,none⟩)],H I (((0:Nat):Int)-1-k),P #[L false,B none 0 0,L false,B none 0 0],C,C,C,C,C,C,C,C,C,C,C,C,C,C,C,C,C,C,C,C,C,C,C,C,C,C,C,C,C,C,C,C,C,C,C,C,C,C,C,C,C,C,C,C,C,C,C],defers:=[] }) ?assign ?body ?done ?stop
 case stop=>intro D c k W _ _ h;exact h.elim
 case rd=>
  intro k W h;exact⟨h.2.2.2.2.1.cell,λhk=>by omega⟩
 case assign=>
  intro l k W K hK;unfold KF;gi_wp2;exact hK
 case body=>intro l k W T hk;omega
 case done=>
  intro q W hD T hK;have Qx:Hz w W.drew q B5 (B5+1+1) (B f la rc) (B (some ⟨B5+1,0,none⟩) 0 0) ps []:=
   Hz.below ⟨T.1,T.2.1,T.2.2.1,T.2.2.2.1,T.2.2.2.2.2.1,row_zero _ _,T.2.2.2.2.2.2,hK⟩ ((BB _ W).drew)
  have Ub:MT false w W.drew q C:=λe=>by cases e
  have Qy:=O (show w.heap.size<=q by have:=Qr.o;omega);have Uc:=O (show Sqs []from Sqs.of λi=>Sq.of (k:=1) (by rw[Yw];exact Da.zero 1 J) J);clear T hK HF;gi_wp2_with fail
  refine Yc Qz [[],[0],[],[2,1],[1,3,0,1],[3,4,0,1,2,3,4],[5,0,1,2,3,4,5]] (by kernel_rfl) DQ
   (λD ai V=>∃(tb tc td te ta:Value),ai={ tmps:=#[P #[B M la N],P #[B z lb A],F (some ⟨w.heap.size,0,none⟩),F (some ⟨w.heap.size+1,0,none⟩),F (some ⟨w.heap.size+1+1,0,none⟩),F (some ⟨w.heap.size+1+1+1,0,none⟩),ta,F (some ⟨B4,0,none⟩),F (some ⟨B5,0,none⟩),F (some ⟨B5+1+1,0,none⟩),C,C,C,C,C,P #[B z lb A],H I ↑n,H I ↑n,L (decide ((n:Int)<0)),C,C,F (some ⟨w.heap.size,0,none⟩),B M la N,B f la rc,B f la rc,H I ↑la,H I ↑n,H I x,H I 0,B (some ⟨B5+1,0,none⟩) 0 0,B (some ⟨B5+1,0,none⟩) 0 0,.func (.func 67) #[] #[F (some ⟨B5+1+1+1,0,none⟩)],C,C,C,C,C,C,C,C,C,C,C,C,C,C,C,C,C,C,C,C,C,C,C,C,C,C,C,C,C,C,C,C,C,C,C,C,C,C,C,C,C,C,C,C,C,tb,tc,td,te],defers:={ target:=.collected q,args:=#[] }::[] }/\Hid ((D 0=true->tb=B (some ⟨B5+1,0,none⟩) 0 0)/\(D 1=true->D 5=false->Jf V tc (Jd []))/\(D 2=true->td=B f la rc)/\(D 3=true->D 5=false->Jf V te (Jd ps))/\(D 6=true->ta=L true))/\Hid ((D 4=false->Hz w V q B5 (B5+1+1) (B f la rc) (B (some ⟨B5+1,0,none⟩) 0 0) ps [])/\(D 4=true->KT V))/\Hid ((D 5=false->MT (D 4) w V q tc)/\(D 5=true->SH w V q tc te (Jd []) (Jd ps))))
   ⟨_,_,_,_,_,rfl,O Y,O ⟨λ_=>Qx,Y⟩,O ⟨λ_=>Ub,Y⟩⟩ ?step1 ?fin1
  case step1=>
   rintro D ai V i ds Q hi j m ⟨tb,tc,td,te,ta,rfl,b,g,y⟩;have bu:i<7:=(Ad.1 hi).1;obtain rfl|rfl|rfl|rfl|rfl|rfl|rfl:=IX i J
   all_goals
    simp only[Af,Ae,Ah]at hi;subst hi
   . have t:=g.o.1 (DR Q m);have Qf:=y.o.1 (DR Q m);have e6:=t.2.2.2.1.cell;clear j;refine Di ?_;exact⟨(Dh b),g,y⟩
   . have U:D 4=false:=DR Q m;have t:=g.o.1 U;have R:D 5=false:=DR Q m;have Qf:=y.o.1 R;obtain rfl:=b.o.1 (j 0 Y);clear j;have HC:=O λ(n9:Nat)=>(BJ (n:=n9)).2 (Hs _ [] V t.2.2.2.2.2.1 Uc.o);refine BQ rfl λK hK=>?_;go_simp;gi_wp2_with(refine⟨trivial,?_⟩;gi_at_call 27;refine(HC.o _).mono ?_;rintro e w5 ⟨v5,rfl,az,_,ad⟩)
     exact⟨_,_,_,_,_,rfl,O ⟨λ_=>rfl,λ_ _=>az,b.o.2.2.1,λh X=>(b.o.2.2.2.1 h X).below ad,b.o.2.2.2.2⟩,O ⟨λh=>(g.o.1 h).below ad,λh=>(g.o.2 h).below ad⟩,O ⟨λ_=>(λe=>by simp[U]at e),λh=>by simp[R]at h⟩⟩
   . have U:D 4=false:=DR Q (DR (a:=3) Q m);have t:=g.o.1 U;have Qf:=y.o.1 (DR Q m);have e5:=t.2.2.1.cell;clear j;refine Di ?_;exact⟨O ⟨b.o.1,b.o.2.1,λ_=>rfl,b.o.2.2.2.1,b.o.2.2.2.2⟩,g,y⟩
   . have U:D 4=false:=DR Q m;have t:=g.o.1 U;have R:D 5=false:=DR Q m;have Qf:=y.o.1 R;obtain rfl:=b.o.2.2.1 (j 2 Y);clear j;have HC:=O λ(n9:Nat)=>(BJ (n:=n9)).2 (Hs _ ps V t.2.2.2.2.1 Ua.o);refine BQ rfl λK hK=>?_;go_simp;gi_wp2_with(refine⟨trivial,?_⟩;gi_at_call 27;refine(HC.o _).mono ?_;rintro e w5 ⟨v5,rfl,az,_,ad⟩)
     exact⟨_,_,_,_,_,rfl,O ⟨b.o.1,λh X=>(b.o.2.1 h X).below ad,λ_=>rfl,λ_ _=>az,b.o.2.2.2.2⟩,O ⟨λh=>(g.o.1 h).below ad,λh=>(g.o.2 h).below ad⟩,O ⟨λ_=>(λe=>by simp[U]at e),λh=>by simp[R]at h⟩⟩
   . have t:=g.o.1 m;have R:D 5=false:=DR Q m;have Qf:=y.o.1 R;have h0:=b.o.2.1 (j 1 Y) R;obtain⟨a9,l9,c9,rfl⟩:=Jf.form h0;have Qg:=t.1;have e0:=Qg.cell;have f0:=Qg.frozen;have Qj:w.heap.size+1+1+1≠w.heap.size+1+1:=J
     clear j;refine Di ?_;obtain⟨G0,G1,G2,G3,G4⟩:=b.o;exact⟨O ⟨G0,λh X=>(G1 h X).setP Qg _,G2,λh X=>(G3 h X).setP Qg _,G4⟩,O ⟨λh=>by simp at h,λ_=>trivial⟩,O ⟨λ_=>(λ_=>⟨_,rfl,Qg.set _,(BC V ⟨w.heap.size+1+1,0,none⟩ _ _ Qj).trans t.2.1,t.2.2.2.2.2.2.1.setCell (p:=⟨w.heap.size+1+1,0,none⟩) (by show w.heap.size<=w.heap.size+1+1;omega) _,(BL V ⟨w.heap.size+1+1,0,none⟩ _).same q _ t.2.2.2.2.2.2.2 rfl⟩),λh=>by simp[R]at h⟩⟩
   . have Qf:=y.o.1 m;have h0:=b.o.2.1 (j 1 Y) m;have h1:=b.o.2.2.2.1 (j 3 Y) m;have Ue:=j 4 Y;obtain⟨v2,rfl,ae,af,aw,ah⟩:=Qf (j 4 Y);obtain⟨a9,l9,c9,rfl⟩:=Jf.form h1;have e0:=af.cell;have f0:=af.frozen;have Qj:w.heap.size+1+1≠w.heap.size+1+1+1:=J
     clear j;refine Di ?_;exact⟨O ⟨b.o.1,λ_ h=>by simp at h,b.o.2.2.1,λ_ h=>by simp at h,b.o.2.2.2.2⟩,O ⟨λh=>by simp[Ue]at h,λ_=>trivial⟩,O ⟨λh=>by simp at h,λ_=>⟨_,_,rfl,rfl,(BC V ⟨w.heap.size+1+1+1,0,none⟩ _ _ Qj).trans ae,af.set _,h0.setP af _,h1.setP af _,aw.setCell (p:=⟨w.heap.size+1+1+1,0,none⟩) (by show w.heap.size<=w.heap.size+1+1+1;omega) _,(BL V ⟨w.heap.size+1+1+1,0,none⟩ _).same q _ ah rfl⟩⟩⟩
   . clear j;refine Di ?_;exact⟨O ⟨b.o.1,b.o.2.1,b.o.2.2.1,b.o.2.2.2.1,λ_=>rfl⟩,g,y⟩
  case fin1=>
   rintro E ai V am ⟨tb,tc,td,te,ta,rfl,b,g,y⟩;obtain⟨v,v',rfl,rfl,g2,g3,bn,bf,aw,ah⟩:=y.o.2 (am 5 DQ);obtain rfl:=b.o.2.2.2.2 (am 6 DQ);clear b g y am;gi_wp2;refine⟨Y,.inl ⟨_,_,rfl,Bb ah,?_⟩⟩;have hg:=BV V q (.deferred none);have Qh:∀r,some q=some r->∃o:Obj,V.heap[r]?=some o/\o.isCells=false:=λr e=>by cases e;exact⟨_,ah,rfl⟩
   have q2:Boxed _ (w.heap.size+1+1) 25 v:=Xw hg Qh (show Bx V (w.heap.size+1+1) 25 #[v]from g2);have q3:Boxed _ (w.heap.size+1+1+1) 25 v':=Xw hg Qh (show Bx V (w.heap.size+1+1+1) 25 #[v']from g3);have x2:=q2.cell;have x3:=q3.cell;refine⟨.tuple #[P #[v],P #[v'],L true],by simp[results,Tryz.results22,go_sem,x2,x3],_,_,rfl,?_,?_,?_⟩
   . obtain⟨u,e,h⟩:=bn;exact⟨u,e,Iz hg Qh h⟩
   . rw[Uf.o]at bf;obtain⟨u,e,h⟩:=bf;exact⟨u,e,Iz hg Qh h⟩
   . exact aw.trans (DP (w:=w) (Aa _) _ q _ _ Qy.o ah rfl rfl)
theorem SI(A:Nat)(j l:Value)(ps qs:List Rat)(w:World)(f:Jf w j ps)(g:Jf w l qs)(hs:Sqs ps)(hq:∀i,Da A (cf qs i))(n:Jd ps=ps)(E:Jd qs=qs)
(x:qs≠[]->∀k,k<=ps.length-(qs.length-1)->∃z,z+(2*A+1)<=1000000000/\(k<ps.length-(qs.length-1)->2*z+2*(2*A+1)<=1000000000)/\(∀i,Da z (cf (JF ps qs (qs.length-1) (ps.length-(qs.length-1)) k).2 i))/\∀i,Da (z+A) (cf (JF ps qs (qs.length-1) (ps.length-(qs.length-1)) k).1 i)):
 Calls Tryz.prog 22 #[j,l] w λe b=>∃u v,e=.returned (.tuple #[u,v,L (decide (qs≠[]))])/\Jf b u (if qs=[]then []else JS ps qs)/\Jf b v (if qs=[]then []else JU ps qs)/\Bl w b:=by
 by_cases a:qs=[]
 . subst a;refine(dR j ps l w f g).mono ?_;rintro e b ⟨rfl,h⟩;exact⟨_,_,rfl,⟨_,rfl,RowK.nil _ _⟩,⟨_,rfl,RowK.nil _ _⟩,h⟩
 . have y:decide (qs≠[])=true:=BK a;rw[y];simp only[BE a];have Q:0<qs.length:=Al.2 a;obtain⟨o,la,p,rfl⟩:=f.form;obtain⟨q,lb,r,rfl⟩:=g.form;have c:=f.row;have d:=g.row;obtain⟨M,_⟩:=c.forms;obtain⟨N,_⟩:=d.forms;by_cases D:la<=lb-1
   . have m:ps.length-(qs.length-1)=0:=J
     have s:JS ps qs=[]:=by unfold JS;rw[m];rfl
     have t:JU ps qs=ps:=by unfold JU;rw[m];exact n
     rw[s,t];exact dS o q la p lb r (lb-1) ps qs w c d hs n J D
   . exact dQ A o q la p lb r (lb-1) (la-(lb-1)) ps qs w c d hq E a (λk K=>by rw[show lb-1=qs.length-1 by omega,show la-(qs.length-1)=ps.length-(qs.length-1)by omega];exact x a k J) J J J
def KV(ps:List Rat)(n i:Nat)(S:List Rat):Prop:=S.length=n/\∀j,cf S j=if j<i then Ey ps j else 0
theorem KV.next{i:Nat}(h:KV ps n i S)(b:i<n):KV ps n (i+1) (S.set i (Ey ps i)):=by
 refine⟨by rw[Cs];exact h.1,λj=>?_⟩;rw[XG _ _ _ _ (by rw[h.1];exact b),h.2 j];by_cases e:j=i
 . rw[BG e,BG J,e]
 . rw[BE e];by_cases a:j<i
   . rw[BG a,BG J]
   . rw[BE a,BE J]
theorem KV.done(h:KV ps n n S)(a:n=ps.length-1):Jd S=Jh ps:=YH λj=>by
 rw[h.2 j,Ic];split
 . rfl
 . rw[J1 (p:=ps) J,CE]
theorem OV(v:Value)(ps:List Rat)(w:World)(h:Jf w v ps)(bc:Sqs ps)(bf:∀i,Sq (Ey ps i)):
 Calls Tryz.prog 24 #[v] w λe w'=>∃u,e=.returned u/\Jf w' u (Jh ps)/\Bl w w':=by
 have Qr:Tryz.prog.follows .mixedOrders=true:=by kernel_rfl
 obtain⟨o,la,k,rfl⟩:=h.form;have ha:=h.row;obtain⟨ay,bi,bj,bu,s,t,aa,bb,ll,cc,kk,dd,aq⟩:=ha.forms;have M0:Mem w _ _:=((Mem.nil w).push (.cell 25 (B o la k)) (cs:=#[B o la k]) ⟨rfl,rfl⟩).push (.cell 25 (B none 0 0)) (cs:=#[B none 0 0]) ⟨rfl,rfl⟩;simp only[A1]at M0;obtain⟨V0,af⟩:=ex ((w.alloc (G #[B o la k] 25)).alloc (G #[B none 0 0] 25));have M1:Mem w V0 [some (w.heap.size,.cell 25 (B o la k)),some (w.heap.size+1,.cell 25 (B none 0 0))]:=by rw[<-af];exact M0
 have Qj:=O M1;obtain⟨d,hd⟩:=ex ((ps.length:Int)-1:Int);have Qi:=O (YF (P #[B o la k]) ps V0 (h.below M1.2.2));rw[hd]at Qi;obtain⟨n,hn⟩:=ex (ps.length-1:Nat);have Qf:max (0:Int) d=(n:Int):=J
 have Qt:∀W:World,(Instr.makeSlice 23 (H I (n:Int)) (H I (n:Int))).run Tryz.prog W=.ok (B (some ⟨W.heap.size,0,none⟩) n n) (W.alloc (G (Ye n) 65)):=λW=>KG n J W;obtain⟨HP,Qn,Qp,HN⟩:=D0 aq bc bf (show n=ps.length-1/\la=ps.length from⟨hn.symm,ay⟩);have Qe:n<=1099511627776:=J
 have Ql:=O af;clear h ha aq bc bf ay bi bj hn hd M0 M1 af;go_enter Tryz.func24,Tryz.ntmps24
 go_upto_region 1 with fail
 rw[Ql.o];have c0:=(Qj.o.cell (i:=0) rfl).1.cell;go_upto_region 2 with(go_at_call 20;refine Qi.o.mono ?_;clear Qi;rintro e w1 ⟨rfl,ap⟩)
 have Qg:Mem w (w1.alloc (G (Ye n) 65)) [some (w.heap.size,.cell 25 (B o la k)),some (w.heap.size+1,.cell 25 (B none 0 0)),some (w1.heap.size,.rats (List.replicate n 0))]:=(Qj.o.below ap).push (.rats (List.replicate n 0)) (LA _ n);obtain⟨V1,ah⟩:=ex (w1.alloc (G (Ye n) 65));obtain⟨l,aj⟩:=ex (w1.heap.size);rw[ah,aj]at Qg;rw[ah,aj];have Qk:=O Qg;clear Qg ah aj ap c0 Qj Ql Qt Qf;go_wp2;go_loopw [11] (λiv wr=>∃(i:Nat) (S:List Rat),i<=n/\iv=H I (i:Int)/\Hid (KV ps n i S)/\Hid (Mem w wr [some (w.heap.size,.cell 25 (B o la k)),some (w.heap.size+1,.cell 25 (B none 0 0)),some (l,.rats S)])) λiv _=>n-(intOf iv).toNat
 case atStart=>exact⟨0,_,AK _,rfl,O ⟨Au,λj=>by rw[JQ,BE J]⟩,Qk⟩
 case round=>
  obtain⟨i,S,N,rfl,q,M⟩:=hrel;clear Qk;by_cases az:i<n
  . have ce:(i:Int)<(n:Int):=J
    obtain⟨K,hK⟩:=ex (i+1:Nat);have bk:(i:Int)+1=(K:Int):=J
    have bn:IntKind.i64.wrap (K:Int)=(K:Int):=by rw[BS];omega
    have bm:(K:Int)<(la:Int):=by have:=HN.o;omega
    obtain⟨aw,f,rfl,A,p0,p1,p2,p3⟩:=HP.o K (by have:=HN.o;omega);have Qu:=O (show ∀V,Bl w V->(V.cell? ⟨f,K*4,none⟩=some (L (s K))/\V.cell? ⟨f,K*4+1,none⟩=some (B (aa K) (ll K) (cc K))/\V.cell? ⟨f,K*4+2,none⟩=some (L (t K))/\V.cell? ⟨f,K*4+3,none⟩=some (B (bb K) (kk K) (dd K)))/\Jj V (P #[L (s K),B (aa K) (ll K) (cc K),L (t K),B (bb K) (kk K) (dd K)]) (cf ps K)from λV y=>by
     exact⟨⟨(y.cell (p:=⟨f,_,none⟩) A).trans p0,(y.cell (p:=⟨f,_,none⟩) A).trans p1,(y.cell (p:=⟨f,_,none⟩) A).trans p2,(y.cell (p:=⟨f,_,none⟩) A).trans p3⟩,aw.below y⟩)
    have Qd:=O (show K<=1099511627776/\K=i+1 by omega);have Qs:=O (show cf ps K*((K:Int):Rat)=Ey ps i by rw[Qd.o.2];rfl);have Qm:=O (show i<S.length by rw[q.o.1];exact az);clear aw A p0 p1 p2 p3 hK;go_wp2_with fail
    have Qo:=M.o.drew;refine Jn Qr [[],[],[],[2],[],[4],[3,5],[6],[],[8],[9],[7,10,10],[0,1,0,1,2,3,4,5,6,7,8,9,10,11],[12,11,11,0,1,2,3,4,5,6,7,8,9,10,11]] (by kernel_rfl) DQ
     (λD ae V=>∃(ta tb R T U X tg ti tj tk tl tm tn:Value),ae={ tmps:=#[P #[B (some ⟨f,0,none⟩) la k],F (some ⟨w.heap.size,0,none⟩),F (some ⟨w.heap.size+1,0,none⟩),B (some ⟨l,0,none⟩) n n,H I ↑i,P #[B (some ⟨f,0,none⟩) la k],H I d,H I ↑n,B (some ⟨l,0,none⟩) n n,B (some ⟨l,0,none⟩) n n,H I ↑n,H I ↑i,L true,H I ↑i,ta,tb,R,T,U,X,tg,ti,tj,tk,tl,tm,tn,u27,C,C],defers:=[] }/\Hid ((D 0=true->ta=B (some ⟨l,0,none⟩) n n)/\(D 1=true->tb=H I (i:Int))/\(D 2=true->R=F (some ⟨w.heap.size,0,none⟩))/\(D 3=true->T=B (some ⟨f,0,none⟩) la k)/\(D 4=true->U=H I (i:Int))/\(D 5=true->X=H I (K:Int))/\(D 6=true->tg=F (some ⟨f,K*4,none⟩))/\(D 7=true->D 13=false->Jj V ti (cf ps K))/\(D 8=true->tj=H I (i:Int))/\(D 9=true->tk=H I (K:Int))/\(D 10=true->D 13=false->Jj V tl ((K:Int):Rat))/\(D 11=true->D 13=false->Jj V tm (Ey ps i))/\(D 12=true->tn=F (some ⟨l,i*4,none⟩)))/\Hid ((D 13=false->Mem w V [some (w.heap.size,.cell 25 (B (some ⟨f,0,none⟩) la k)),some (w.heap.size+1,.cell 25 (B none 0 0)),some (l,.rats S)])/\(D 13=true->Mem w V [some (w.heap.size,.cell 25 (B (some ⟨f,0,none⟩) la k)),some (w.heap.size+1,.cell 25 (B none 0 0)),some (l,.rats (S.set i (Ey ps i)))])))
     (E8 ⟨_,_,_,_,_,rfl,O Y,O ⟨λ_=>Qo,Y⟩⟩) ?step1 ?fin1
    case step1=>
     rintro D ae V i ds ai N b z ⟨ta,tb,R,T,U,X,tg,ti,tj,tk,tl,tm,tn,rfl,a,c⟩;have bt:i<14:=(Ad.1 N).1;obtain rfl|rfl|rfl|rfl|rfl|rfl|rfl|rfl|rfl|rfl|rfl|rfl|rfl|rfl:=FX i J
     all_goals
      simp only[Af,Ae,Ah]at N;subst N
     . clear b;refine DV ?_;exact⟨(Dh a),c⟩
     . clear b;refine DV ?_;exact⟨(Dn a),c⟩
     . clear b;refine DV ?_;exact⟨(Df a),c⟩
     . have r:=c.o.1 (DR ai z);obtain rfl:=a.o.2.2.1 (b 2 Y);have e0:=(r.cell (i:=0) rfl).1.cell;clear b;refine DV ?_;exact⟨(Dj (Df a)),c⟩
     . clear b;refine DV ?_;exact⟨(D9 a),c⟩
     . obtain rfl:=a.o.2.2.2.2.1 (b 4 Y);clear b;refine DV ?_;exact⟨(EE (D9 a)),c⟩
     . obtain rfl:=a.o.2.2.2.1 (b 3 Y);obtain rfl:=Dl a (b 5 Y);clear b;refine DV ?_;exact⟨(D6 (EE (Dj a))),c⟩
     . have r:=c.o.1 (DR ai z);obtain rfl:=Dq a (b 6 Y);obtain⟨⟨e0,e1,e2,e3⟩,hr⟩:=Qu.o V r.2.2;clear b;refine DV ?_;exact⟨(EN (D6 a) λ_ _=>hr),c⟩
     . clear b;refine DV ?_;exact⟨(EQ a),c⟩
     . obtain rfl:=Dy a (b 8 Y);clear b;refine DV ?_;exact⟨(Es (EQ a)),c⟩
     . obtain rfl:=D7 a (b 9 Y);clear b;have E:=O (RL (K:Int) J (by have:=Qd.o;omega) V);refine Jb rfl rfl λK hK=>?_;go_simp;go_wp2_with(go_at_call 54;refine E.o.mono ?_;rintro e w5 ⟨v5,rfl,am,g⟩)
       obtain⟨G0,G1,G2,G3,G4,G5,G6,G7,G8,_,_,bh,ad⟩:=a.o;exact E8 ⟨_,_,_,_,_,rfl,O ⟨G0,G1,G2,G3,G4,G5,G6,λh m=>(G7 h m).below g,G8,λ_=>rfl,λ_ _=>am,λh m=>(bh h m).below g,ad⟩,O ⟨λh=>(c.o.1 h).below g,λh=>(c.o.2 h).below g⟩⟩
     . have Qa:D 13=false:=DR ai z;have x:=Dw a (b 7 Y) Qa;have h1:=Dm a (b 10 Y) Qa;clear b;have E:=O (Kz _ _ (cf ps K) ((K:Int):Rat) V x h1 (Qn.o.at K) (Rt Qd.o.1));rw[Qs.o]at E;clear x h1;refine Jb rfl rfl λK hK=>?_;go_simp;go_wp2_with(go_at_call 52;refine E.o.mono ?_;rintro e w5 ⟨v5,rfl,am,g⟩)
       obtain⟨G0,G1,G2,G3,G4,G5,G6,G7,G8,G9,bg,_,ad⟩:=a.o;exact E8 ⟨_,_,_,_,_,rfl,O ⟨G0,G1,G2,G3,G4,G5,G6,λh m=>(G7 h m).below g,G8,G9,λh m=>(bg h m).below g,λ_ _=>am,ad⟩,O ⟨λh=>(c.o.1 h).below g,λh=>(c.o.2 h).below g⟩⟩
     . obtain rfl:=a.o.1 (b 0 Y);obtain rfl:=a.o.2.1 (b 1 Y);clear b;refine DV ?_;exact⟨(Hn (Dn (Dh a))),c⟩
     . have r:=c.o.1 z;have x:=Ec a (b 11 Y) z;obtain rfl:=a.o.2.2.2.2.2.2.2.2.2.2.2.2 (b 12 Y);have hE:=r.rats (i:=2) rfl;obtain⟨xa,xb,xc,xd,e0,e1,e2,e3,_⟩:=hE.at Qm.o;have f0:=hE.frozen (i*4);have f1:=hE.frozen (i*4+1);have f2:=hE.frozen (i*4+2);have f3:=hE.frozen (i*4+3);obtain⟨s9,a9,l9,c9,t9,b9,k9,d9,rfl⟩:=Jj.form x;clear b;refine DV ?_;exact⟨(Hn (EA (Dx (EN a λ_ h=>by simp at h) λ_ h=>by simp at h) λ_ h=>by simp at h)),O ⟨λh=>by simp at h,λ_=>r.putRats (i:=2) rfl Qm.o x⟩⟩
    case fin1=>
     rintro D ae V an ⟨ta,tb,R,T,U,X,tg,ti,tj,tk,tl,tm,tn,rfl,a,c⟩;have HO:=O (c.o.2 (an 13 DQ));clear a c an;go_wp2_with fail
     go_roundw
     case rel=>exact⟨i+1,_,J,by go_num,O (q.o.next az),HO⟩
     case measure=>simp[intOf];omega
  . obtain rfl:i=n:=J
    have hE:=M.o.rats (i:=2) rfl;have Qc:=hE.row (n:=i) (cap:=i) (by rw[q.o.1];exact Aa _) (Aa _) J Qe;rw[Ac (by rw[q.o.1];exact Aa _)]at Qc;have Qh:=O (Hs _ S wr Qc (Sqs.of λj=>by
     rw[q.o.2 j];split
     . exact Qp.o j
     . exact Ix))
    rw[q.o.done HN.o.1]at Qh;clear hE Qc;go_wp2_with(go_at_call 27;refine Qh.o.mono ?_;clear Qh;rintro e w5 ⟨u5,rfl,ak,_,g⟩;obtain⟨a7,l7,c7,rfl⟩:=ak.form;have Q:=boxed_below (M.o.cell (i:=1) rfl).1 g;have x0:=Q.cell;have x1:=Q.frozen;have Qv:=O (FZ Q (B a7 l7 c7) ak.row);have Qq:=O ((Bt M.o.2.2 g).setCell (p:=⟨w.heap.size+1,0,none⟩) (by show w.heap.size<=w.heap.size+1;omega) (B a7 l7 c7));clear ak g Q)
    exact BA (v:=P #[B a7 l7 c7]) (by simp[results,Tryz.results24,go_sem,x0]) rfl ⟨_,rfl,⟨_,rfl,Qv.o⟩,Qq.o⟩
end M3
section
open Go.RowKit Go.Shelf
def CD(D:Int)(K:Nat)(c:Rat):Prop:=∃n:Int,c=Rat.divInt n D/\Sm K n
section
variable {D E:Int} {K M:Nat} {c d:Rat}
theorem CD.mono(h:CD D K c)(a:K<=M):CD D M c:=by
 obtain⟨n,e,h⟩:=h;exact⟨n,e,h.mono a⟩
theorem CD.smq(h:CD D K c)(hD:D≠0)(hs:Sm K D):Da K c:=by
 obtain⟨n,rfl,h⟩:=h;exact Da.divInt hD h hs
theorem CD.zero(D:Int)(K:Nat):CD D K 0:=⟨0,by rw[Rat.zero_divInt],Sm.zero K⟩
theorem CD.add(h:CD D K c)(a:CD D M d)(hD:D≠0):CD D (max K M+1) (c+d):=by
 obtain⟨n,rfl,h⟩:=h;obtain⟨m,rfl,a⟩:=a;refine⟨n+m,?_,?_⟩
 . rw[FH _ _ hD hD,<-Int.add_mul,C0 hD]
 . exact(h.mono (Nat.le_max_left ..)).add (a.mono (Nat.le_max_right ..))
theorem CD.mul(h:CD D K c)(a:CD E M d):CD (D*E) (K+M) (c*d):=by
 obtain⟨n,rfl,h⟩:=h;obtain⟨m,rfl,a⟩:=a;exact⟨n*m,by rw[CW],h.mul a⟩
theorem CD.wide(h:CD D K c)(hE:Sm M E)(a:E≠0):CD (D*E) (K+M) c:=by
 obtain⟨n,rfl,h⟩:=h;exact⟨n*E,by rw[C0 a],h.mul hE⟩
end
def ED(D:Int)(K:Nat)(ps:List Rat):Prop:=∀i,CD D K (cf ps i)
variable{D:Int}{ps qs:List Rat}{K:Nat}
theorem SJ(hD:D≠0)(h:∀i j,CD D K (cf ps i*cf qs j))(n:Nat):∀(i k:Nat),CD D (K+min i ps.length) (cf (YA ps qs n i) k):=by
 intro i;induction i with
 |zero=>intro k;rw[YA,JQ];exact CD.zero _ _
 |succ i a=>
  intro k;rw[YA];rcases Xq (YA ps qs n i) i (cf ps i) qs qs.length k with e|e
  . rw[e];exact(a k).mono J
  . rw[e];by_cases b:i<ps.length
    . exact((a k).add (h i (k-i)) hD).mono J
    . rw[J1 (p:=ps) J,CE,FN];exact(a k).mono J
theorem dT(hD:D≠0)(hs:Sm 1000000000 D)(h:∀i j,CD D K (cf ps i*cf qs j))(d:K+ps.length+1<=1000000000):M3.X9 ps qs:=by
 have hq:∀c,CD D (K+ps.length+1) c->Sq c:=λc b=>Sq.of ((b.mono d).smq hD hs) (Aa _);refine⟨λi j=>hq _ ((h i j).mono J),λn i j k=>?_⟩;have a:=SJ hD h n i k;rcases Xq (YA ps qs n i) i (cf ps i) qs j k with e|e
 . rw[e];exact hq _ (a.mono J)
 . rw[e];exact hq _ ((a.add (h i (k-i)) hD).mono J)
theorem dU(hD:D≠0)(h:∀i j,CD D K (cf ps i*cf qs j)):ED D (K+ps.length) (Jv ps qs):=λk=>by
 unfold Jv;rw[JR,Ib];have a:=SJ hD h (ps.length+qs.length) ps.length k;rwa[Mv _ _ _ _ _ (Or.inr J),Nat.min_self]at a
theorem SK(p q:List Rat):(Jv p q).length<=p.length+q.length:=Xc (Yt _ _) λi a=>by unfold Jv;rw[JR,Ib,Ru p q a]
theorem Sm.powZ{A:Nat}{v:Int}(h:Sm A v):∀n,Sm (n*A+1) (v^n):=by
 intro n;induction n with
 |zero=>rw[Int.pow_zero];exact Sm.one _ J
 |succ n a=>rw[Int.pow_succ,Ay,show n*A+1*A+1=n*A+1+A by omega];exact a.mul h
end
section
open Go.RowKit Go.Shelf
variable{D:Int}{K:Nat}
theorem SL{c:Rat}(h:CD D K c):CD D K (-c):=by
 obtain⟨n,rfl,h⟩:=h;exact⟨-n,by rw[<-Rat.neg_divInt],by unfold Sm at h ⊢;rwa[Fq]⟩
theorem SM{E l:Int}{A:Nat}{ps qs:List Rat}{n m:Nat}(hD:D≠0)(hp:ED D K ps)(hE:E≠0)(S:Sm A E)(hq:ED E A qs)(b:l≠0)(hl:Sm A l)(N:cf qs n=Rat.divInt l E)(M:cf qs n≠0):
 ∀k,ED (D*l^k) (K+k*(A+1)) (JF ps qs n m k).2/\ED (D*l^k) (K+k*(A+1)) (JF ps qs n m k).1:=by
 intro k;induction k with
 |zero=>
  rw[Int.pow_zero,Int.mul_one];exact⟨λi=>(hp i).mono J,λi=>by rw[JF,JQ];exact CD.zero _ _⟩
 |succ k U=>
  obtain⟨d,g⟩:=U;have w:D*l^k≠0:=Co hD (Int.pow_ne_zero b);have e:D*l^(k+1)=D*l^k*l:=by rw[Int.pow_succ,CP]
  rw[e];have v:D*l^k*l≠0:=Co w b;obtain⟨R,p⟩:=ex ((JF ps qs n m k).2);obtain⟨Q,o⟩:=ex ((JF ps qs n m k).1);rw[p]at d;rw[o]at g;obtain⟨r,z,s⟩:=d (m-(k+1)+n);obtain⟨c,q⟩:=ex (cf R (m-(k+1)+n)/cf qs n);have f:c=Rat.divInt (r*E) (D*l^k*l):=by
   rw[<-q];have y:cf R (m-(k+1)+n)=Rat.divInt (r*E) (D*l^k*l)*cf qs n:=by
    rw[N,CW,z,show r*E*l=r*(E*l)from CP _ _ _,show D*l^k*l*E=D*l^k*(E*l)by rw[CP (D*l^k),Fl l E],C0 (Co hE b)]
   rw[y,Rat.mul_div_cancel M]
  have t:CD (D*l^k*l) (K+(k+1)*(A+1)) c:=⟨r*E,f,(s.mul S).mono (by rw[Ay];omega)⟩;have u:∀j,CD (D*l^k*l) (K+k*(A+1)+A) (c*cf qs j):=λj=>by
   obtain⟨x,ex,T⟩:=hq j;refine⟨r*x,?_,s.mul T⟩;rw[f,ex,CW,show r*E*x=r*x*E by rw[CP,Fl E x,CP],C0 hE]
  rw[JF,p,o];simp only[q];refine⟨λi=>?_,λi=>?_⟩
  . rcases Xq R (m-(k+1)) (-c) qs qs.length i with a|a
    . rw[a];exact((d i).wide hl b).mono (by rw[Ay];omega)
    . rw[a,Rat.neg_mul];exact(((d i).wide hl b).add (SL (u _)) v).mono (by rw[Ay];omega)
  . rcases M3.dO Q (m-(k+1)) c i with a|a
    . rw[a];exact t
    . rw[a];exact((g i).wide hl b).mono (by rw[Ay];omega)
end
variable{D:Int}{a b p q:List Rat}{K M n:Nat}{f g:Nat->Int}{c d:Rat}
theorem dV:∀(n:Nat) (f:Nat->Nat),(∀i,i<=n->f i<n)->∃i j,i<j/\j<=n/\f i=f j:=by
 intro n;induction n with
 |zero=>intro f h;exact absurd (h 0 (Aa _)) J
 |succ n o=>
  intro f h;by_cases k:∃i,i<=n/\f i=f (n+1)
  . obtain⟨i,d,a⟩:=k;exact⟨i,n+1,J,Aa _,a⟩
  . have c:∀i,i<=n->f i≠f (n+1):=λi b e=>k ⟨i,b,e⟩;obtain⟨i,j,d,a,g⟩:=o (λi=>if f i=n then f (n+1)else f i) (λi b=>by
     have l:=h i J;have m:=h (n+1) (Aa _);have p:=c i b;split<;>omega)
    refine⟨i,j,d,J,?_⟩;have l:=c i J;have m:=c j a;split at g<;>split at g<;>omega
def enc(b:Nat):Nat->(Nat->Nat)->Nat
 |0,_=>0
 |M+1,d=>enc b M d+d M*b^M
theorem OW{b:Nat}{d:Nat->Nat}(h:∀k,k<M->d k<b):enc b M d<b^M:=by
 induction M with
 |zero=>simp[enc]
 |succ M e=>
  have f:=e λk g=>h k J;have a:=h M J;have c:(d M+1)*b^M<=b*b^M:=Ak _ a;rw[enc,AQ,As (b^M) b];rw[Ay,Cw]at c;omega
theorem dW{b:Nat}{d a:Nat->Nat}(h:∀k,k<M->d k<b)(g:∀k,k<M->a k<b)(e:enc b M d=enc b M a):∀k,k<M->d k=a k:=by
 induction M with
 |zero=>intro k c;omega
 |succ M j=>
  have l1:=OW (λk c=>h k J:∀k,k<M->d k<b);have l2:=OW (λk c=>g k J:∀k,k<M->a k<b);have hp:0<b^M:=J
  rw[enc,enc]at e;have f:d M=a M:=by
   have f1:(enc b M d+d M*b^M)/b^M=d M:=by rw[FG _ _ hp,Ca l1];omega
   have f2:(enc b M a+a M*b^M)/b^M=a M:=by rw[FG _ _ hp,Ca l2];omega
   rw[<-f1,<-f2,e]
  intro k c;by_cases i:k=M
  . rw[i];exact f
  . exact j (λk c=>h k J) (λk c=>g k J) (by rw[f]at e;omega) k J
def Ef(b x j:Nat):Nat:=x/b^j%b
theorem dX{b:Nat}(a:0<b)(x j:Nat):Ef b x j<b:=A7 _ a
theorem SN(b x:Nat):∀N,enc b N (Ef b x)=x%b^N:=by
 intro N;induction N with
 |zero=>simp[enc,Nat.mod_one]
 |succ N a=>rw[enc,a,Nat.mod_pow_succ,As (Ef b x N)];rfl
def Xh:Nat->(Nat->Int)->Int
 |0,_=>0
 |n+1,f=>Xh n f+f n
theorem SO(h:∀k,k<n->f k=g k):Xh n f=Xh n g:=by
 induction n with
 |zero=>rfl
 |succ n a=>rw[Xh,Xh,a λk b=>h k J,h n J]
theorem dY(n:Nat)(f g:Nat->Int):Xh n (λk=>f k-g k)=Xh n f-Xh n g:=by
 induction n with
 |zero=>rfl
 |succ n a=>rw[Xh,Xh,Xh,a];omega
theorem OX{C:Nat}(h:∀k,k<n->(f k).natAbs<=C):(Xh n f).natAbs<=n*C:=by
 induction n with
 |zero=>simp[Xh]
 |succ n a=>
  have b:=a λk d=>h k J;have c:=h n J;rw[Xh,Ay,Cw];have:=Int.natAbs_add_le (Xh n f) (f n);omega
theorem dZ(N A:Nat)(c:Nat->Nat->Int)(w:∀k j,(c k j).natAbs<=A):
 ∃z:Nat->Int,(∃j,j<N+1/\z j≠0)/\(∀j,(z j).natAbs<=(2*(N+1)*A+1)^N)/\∀k,k<N->Xh (N+1) (λj=>c k j*z j)=0:=by
 obtain⟨B,l⟩:=ex ((2*(N+1)*A+1)^N);have o:1<=B:=by rw[<-l];exact Fe J
 obtain⟨C,m⟩:=ex ((N+1)*(A*B));have d:∀x j,Ef (B+1) x j<=B:=λx j=>by have:=dX (b:=B+1) J x j;omega
 have v:∀x k,(Xh (N+1) λj=>c k j*(Ef (B+1) x j:Int)).natAbs<=C:=λx k=>by
  rw[<-m];refine OX λj _=>?_;rw[CY,AP];exact CC (w k j) (d x j)
 obtain⟨g,a⟩:∃g:Nat->Nat->Nat,∀x k,(g x k:Int)=Xh (N+1) (λj=>c k j*(Ef (B+1) x j:Int))+C/\g x k<2*C+1:=
  ⟨λx k=>(Xh (N+1) (λj=>c k j*(Ef (B+1) x j:Int))+C).toNat,λx k=>by have:=v x k;dsimp only;omega⟩
 have U:(2*C+1)^N<(B+1)^(N+1):=by
  have f:2*C+1<=(2*(N+1)*A+1)*B:=by
   have p:2*C=2*(N+1)*A*B:=by rw[<-m];simp only[Az]
   rw[p,Ay,Cw];exact Nat.add_le_add_left o _
  have i:(2*C+1)^N<=B^(N+1):=by
   refine Ar (CS f N) ?_;rw[Nat.mul_pow,l,AQ,As];exact Aa _
  exact Cp i (Nat.pow_lt_pow_left J J)
 obtain⟨x,y,f,i,q⟩:=dV ((2*C+1)^N) (λx=>enc (2*C+1) N (g x)) λx _=>OW λk _=>(a x k).2;have r:=dW (λk _=>(a x k).2) (λk _=>(a y k).2) q;refine⟨λj=>(Ef (B+1) x j:Int)-(Ef (B+1) y j:Int),?_,λj=>?_,λk E=>?_⟩
 . by_cases n:∃j,j<N+1/\(Ef (B+1) x j:Int)-(Ef (B+1) y j:Int)≠0
   . exact n
   . exfalso
     have s:∀j,j<N+1->Ef (B+1) x j=Ef (B+1) y j:=λj D=>by
      by_cases e:Ef (B+1) x j=Ef (B+1) y j
      . exact e
      . exact absurd ⟨j,D,J⟩ n
     have t:∀M,M<=N+1->enc (B+1) M (Ef (B+1) x)=enc (B+1) M (Ef (B+1) y):=λM=>by
      induction M with
      |zero=>intro _;rfl
      |succ M K=>intro T;rw[enc,enc,K J,s M J]
     have u:=t (N+1) (Aa _);rw[SN,SN,Cm J,Cm J]at u;omega
 . have:=d x j;have:=d y j;dsimp only;omega
 . have R:=r k E;have S:=(a x k).1;have Q:=(a y k).1;rw[show(λj=>c k j*((Ef (B+1) x j:Int)-(Ef (B+1) y j:Int)))=(λj=>c k j*(Ef (B+1) x j:Int)-c k j*(Ef (B+1) y j:Int))from funext λj=>Int.mul_sub _ _ _,dY];omega
theorem da(p q:List Rat):(JP p q).length<=max p.length q.length:=Xc (XQ _ _) λi a=>by rw[Kg,J1 J,J1 J,Rat.sub_self]
def Dd(c:Rat)(p:List Rat):List Rat:=Jd (Yp c p)
theorem JZ(c:Rat)(p:List Rat):Jd (Dd c p)=Dd c p:=Yj _
theorem Xa(c:Rat)(p:List Rat)(i:Nat):cf (Dd c p) i=cf p i*c:=by unfold Dd;rw[JR,Xd]
theorem YX(c:Rat)(p:List Rat)(x:Rat):ev (Dd c p) x=ev p x*c:=by unfold Dd;rw[XE,Xs]
theorem H7{a b:Rat}(c:a≠0)(d:b≠0):a*b≠0:=λh=>by
 rcases FE.1 h with h|h
 . exact c h
 . exact d h
theorem db(h:cf p n≠0):n<p.length:=by
 by_cases a:n<p.length
 . exact a
 . exact absurd (J1 J) h
theorem Yn(d:c≠0)(hp:Jd p=p):(Dd c p).length=p.length:=by
 refine Fqq (Xc (JZ _ _) λi e=>by rw[Xa,J1 e,CE]) ?_;by_cases a:p=[]
 . rw[a];exact AK _
 . have b:=JA hp a;have f:0<p.length:=Al.2 a;have g:=db (p:=Dd c p) (n:=p.length-1) (by rw[Xa];exact H7 b d);omega
theorem OY(c d:Rat)(p:List Rat):Dd c (Dd d p)=Dd (d*c) p:=E0 (JZ _ _) (JZ _ _) λx=>by rw[YX,YX,YX];grind
theorem KW(hp:Jd p=p):Dd 1 p=p:=E0 (JZ _ _) hp λx=>by rw[YX];grind
theorem df(c:Rat):Dd c []=[]:=rfl
theorem MU(b:c≠0)(hp:Jd p=p)(a:p≠[]):Dd c p≠[]:=λh=>by
 have:=Yn b hp;rw[h]at this;exact a (List.length_eq_zero_iff.1 this.symm)
theorem Yg(hp:Jd p=p)(hq:Jd q=q)(a:p≠[])(b:q≠[]):(Jv p q).length=p.length+q.length-1:=Ox hp hq a b
theorem MV(h:p.length=0):p=[]:=List.length_eq_zero_iff.1 h
theorem MW{u v:List Rat}(hq:Jd q=q)(a:q≠[])(f:Jd u=u)(g:Jd v=v)(i:v.length<q.length)(h:∀x,ev p x=ev q x*ev u x+ev v x):u=JS p q/\v=JU p q:=by
 obtain⟨b,c,d,e⟩:=YK p q hq a;exact Oy hq a f d g e i c (λx=>by rw[<-h x,b x])
theorem MX(a:d≠0)(p q:List Rat)(hq:Jd q=q)(b:q≠[]):JS (Dd c p) (Dd d q)=Dd (c/d) (JS p q)/\JU (Dd c p) (Dd d q)=Dd c (JU p q):=by
 obtain⟨e,f,j,k⟩:=YK p q hq b;have h:=MW (p:=Dd c p) (JZ d q) (MU a hq b) (JZ (c/d) (JS p q)) (JZ c (JU p q)) (by
  rw[Yn a hq];exact Cp (Xc (JZ _ _) λi g=>by rw[Xa,J1 g,CE]) f) (λx=>by
  rw[YX,YX,YX,YX,e x]
  have:d*(c/d)=c:=by rw[Rat.mul_comm];exact Cq a
  grind)
 exact⟨h.1.symm,h.2.symm⟩
def SP:Nat->List Rat->List Rat->List Rat->List Rat->Prop
 |0,p,q,a,b=>p=a/\q=b
 |n+1,p,q,a,b=>∃c:Rat,q≠[]/\c≠0/\SP n q (Dd c (JU p q)) a b
def Eu(p q a b:List Rat):Prop:=∃n,SP n p q a b
theorem Eu.base(p q:List Rat):Eu p q p q:=⟨0,rfl,rfl⟩
theorem Eu.step(p q:List Rat)(c:Rat)(a b:List Rat)(h:q≠[])(k:c≠0):Eu q (Dd c (JU p q)) a b->Eu p q a b:=λ⟨n,e⟩=>⟨n+1,c,h,k,e⟩
theorem Eu.ind{d:∀p q a b:List Rat,Eu p q a b->Prop}(base:∀p q,d p q p q (.base p q))
(step:∀p q c a b (h:q≠[]) (k:c≠0) (e:Eu q (Dd c (JU p q)) a b),d q (Dd c (JU p q)) a b e->d p q a b (.step p q c a b h k e))
{p q a b:List Rat}(t:Eu p q a b):d p q a b t:=by
 obtain⟨n,e⟩:=t;induction n generalizing p q with
 |zero=>obtain⟨rfl,rfl⟩:=e;exact base _ _
 |succ n f=>obtain⟨c,h,k,e⟩:=e;exact step p q c a b h k ⟨n,e⟩ (f e)
theorem Eu.tail(h:Eu p q a b)(e:b≠[])(f:c≠0):Eu p q b (Dd c (JU a b)):=by
 induction h using Eu.ind with
 |base p q=>exact .step p q c _ _ e f (.base _ _)
 |step p q d a b hq g _ i=>exact .step p q d _ _ hq g (i e)
theorem YU(p q:List Rat):Jd (JU p q)=JU p q:=Yj _
theorem IA(p q:List Rat):Jd (JS p q)=JS p q:=Yj _
theorem Eu.len(h:Eu p q a b):Jd q=q->b.length<=q.length:=by
 induction h using Eu.ind with
 |base p q=>exact λ_=>Aa _
 |step p q d a b hq f _ g=>
  intro c;have e:=g (JZ _ _);rw[Yn f (YU _ _)]at e;have:=(YK p q c hq).2.1;omega
theorem dk(h:Eu p q a b):Jd p=p->Jd q=q->b≠[]->∀u v T:List Rat,Jd u=u->Jd v=v->Jd T=T->u.length+b.length<=q.length+1->v.length+b.length<=p.length+1->(u≠[]\/v≠[])->T.length<b.length->
 (∀x,ev T x=ev u x*ev p x+ev v x*ev q x)->∃c:Rat,c≠0/\T=Dd c (JU a b):=by
 induction h using Eu.ind with
 |base p q=>
  intro hp hq g u v T i w m M lv f o n;have S:u.length<=1:=J
  obtain⟨A,W,X,h4⟩:=YK p q hq g;match u,S,f with
  |[],_,f=>
   have l:v≠[]:=by
    rcases f with f|f
    . exact absurd rfl f
    . exact f
   have e:T=Jv v q:=E0 m (Yt _ _) λx=>by rw[Jo,n x];simp[ev];grind
   have h5:=Yg w hq l g;have h6:0<v.length:=Al.2 l;rw[e]at o;omega
  |[c],_,_=>
   have hc:c≠0:=λe=>by
    have:=JA i Y;simp[Y1]at this;exact this e
   refine⟨c,hc,?_⟩;have N:∀x,ev (Dd c p) x=ev q x*ev (Dd (-1) v) x+ev T x:=λx=>by
    rw[YX,YX,n x];simp[ev];grind
   have h7:=(MW hq g (JZ _ _) m o N).2;have D:=(MX (c:=c) (d:=1) DQ p q hq g).2;rw[KW hq]at D;rw[h7,D]
 |step p q d a b g hd hE K=>
  intro hp hq hb u v T i w m M lv f o n;obtain⟨A,W,X,h4⟩:=YK p q hq g;obtain⟨r,t⟩:=ex (Dd d (JU p q));rw[t]at hE K;have s:Jd r=r:=by rw[<-t];exact JZ _ _
  have U:b.length<=r.length:=hE.len s;have R:r≠[]:=λe=>by
   rw[e,AD]at U;omega
  have y:d*(1/d)=1:=by rw[Rat.mul_comm];exact Cq hd
  have k:(1/d)≠0:=λe=>by rw[e,FW]at y;exact absurd y DQ
  have Q:∀x,ev p x=ev q x*ev (JS p q) x+ev r x*(1/d):=λx=>by rw[A x,<-t,YX];grind
  have z:∀x,ev T x=ev (Xz (Jv u (JS p q)) v) x*ev q x+ev (Dd (1/d) u) x*ev r x:=λx=>by
   rw[n x,Q x,Xt,Jo,YX];grind
  have ad:(Dd (1/d) u).length+b.length<=q.length+1:=by rw[Yn k i];exact M
  refine K hq s hb (Xz (Jv u (JS p q)) v) (Dd (1/d) u) T (XP _ _) (JZ _ _) m ?_ ad ?_ o z
  . by_cases E:Xz (Jv u (JS p q)) v=[]
    . rw[E];simp;omega
    . have l1:=Yg (XP _ _) hq E g;have e:Jv (Xz (Jv u (JS p q)) v) q=JP T (Jv (Dd (1/d) u) r):=E0 (Yt _ _) (XQ _ _) λx=>by rw[Jo,Gy,Jo,z x];grind
      have l2:=da T (Jv (Dd (1/d) u) r);rw[<-e,l1]at l2;by_cases j:u=[]
      . have V:Jv (Dd (1/d) u) r=[]:=by rw[j];rfl
        rw[V]at l2;simp at l2;omega
      . have l4:=Yg (JZ _ _) s (MU k i j) R;rw[Yn k i]at l4;omega
  . by_cases j:u=[]
    . left
      have l:v≠[]:=by
       rcases f with f|f
       . exact absurd j f
       . exact f
      have e:Xz (Jv u (JS p q)) v=v:=E0 (XP _ _) w λx=>by rw[Xt,Jo,j];simp[ev];grind
      rw[e];exact l
    . right;exact MU k i j
def Ln(K:Nat)(r:List Rat):Prop:=∃c:Rat,c≠0/\∀i,∃z:Int,Sm K z/\cf r i*c=(z:Rat)
theorem dl(s t:Nat)(f:Nat->Int):Xh (s+t) f=Xh s f+Xh t (λj=>f (s+j)):=by
 induction t with
 |zero=>simp[Xh]
 |succ t a=>rw[<-CO,Xh,Xh,a];omega
theorem SQ{f:Nat->Rat}(h:∀k,k<n->f k=(g k:Rat)):sumN n f=((Xh n g:Int):Rat):=by
 induction n with
 |zero=>rfl
 |succ n a=>rw[sumN,Xh,a λk b=>h k J,h n J,Rat.intCast_add]
theorem SR(p q:List Rat)(h:p.length<=n)(k:Nat):cf (Jv p q) k=sumN n (λi=>if i<=k then cf p i*cf q (k-i)else 0):=by
 unfold Jv;rw[JR,Ib,<-Ov p q h];rfl
theorem Ln.sc{r:List Rat}(h:Ln K r)(j:d≠0):Ln K (Dd d r):=by
 obtain⟨c,g,k⟩:=h;have e:d*(1/d)=1:=by rw[Rat.mul_comm];exact Cq j
 refine⟨(1/d)*c,H7 (λa=>by rw[a,FW]at e;exact absurd e DQ) g,λi=>?_⟩;obtain⟨z,b,f⟩:=k i;exact⟨z,b,by rw[Xa,<-f];grind⟩
theorem Ln.mono{K L:Nat}{r:List Rat}(h:Ln K r)(e:K<=L):Ln L r:=by
 obtain⟨c,d,f⟩:=h;exact⟨c,d,λi=>by obtain⟨z,a,b⟩:=f i;exact⟨z,a.mono e,b⟩⟩
theorem dm{N A B:Nat}(b:A=Z^K)(i:N+1<=1000000000)(c:B=(2*(N+1)*A+1)^N):(N+1)*(A*B)<Z^((K+1)*(N+1)):=by
 have d:1<=A:=by rw[b];exact Fe Ii
 have f:2*(N+1)*A+1<=Z^(K+1):=by
  have a:(2*(N+1)+1)*A<=Z*A:=Ak _ uo;rw[AQ,<-b,As A];rw[Ay,Cw]at a;exact Ar (Nat.add_le_add_left d _) a
 have g:(2*(N+1)*A+1)^(N+1)<=Z^((K+1)*(N+1)):=by rw[FJ];exact CS f _
 refine AB ?_ g;have e:1<=B:=by rw[c];exact Fe J
 rw[AQ,<-c,<-Az,As B];refine(Nat.mul_lt_mul_right e).2 ?_
 have:(N+1)*A<=2*(N+1)*A:=Ak _ J
 omega
theorem dq{m:Nat}{cp cq:Rat}(hp:Jd p=p)(hq:Jd q=q)(aj:cp≠0)(ak:cq≠0)(ah:∀i,∃z:Int,Sm K z/\cf p i*cp=(z:Rat))(ai:∀i,∃z:Int,Sm K z/\cf q i*cq=(z:Rat))(hl:p.length+q.length<=1000000000)(hle:q.length<=p.length)(ap:0<m)(aq:m<=q.length):
 ∃u v:List Rat,Jd u=u/\Jd v=v/\u.length+m<=q.length+1/\v.length+m<=p.length+1/\(u≠[]\/v≠[])/\(Xz (Jv u p) (Jv v q)).length<m/\
  (∀i,∃z:Int,Sm ((K+1)*(p.length+q.length)) z/\cf (Xz (Jv u p) (Jv v q)) i=(z:Rat))/\(∀i,∃z:Int,Sm ((K+1)*(p.length+q.length)) z/\cf u i=(z:Rat)*cp)/\(∀i,∃z:Int,Sm ((K+1)*(p.length+q.length)) z/\cf v i=(z:Rat)*cq):=by
 obtain⟨α,hα⟩:=Classical.axiomOfChoice ah;obtain⟨β,hβ⟩:=Classical.axiomOfChoice ai;have E:q≠[]:=λe=>by
  have a:q.length=0:=by rw[e];rfl
  omega
 have Qm:p≠[]:=λe=>by
  have a:p.length=0:=by rw[e];rfl
  omega
 obtain⟨s,hs⟩:=ex (q.length+1-m);obtain⟨t,ht⟩:=ex (p.length+1-m);obtain⟨N,hN⟩:=ex (s+t-1);obtain⟨A,S⟩:=ex (Z^K);have ae:∀i,(α i).natAbs<=A:=λi=>by have:=(hα i).1;unfold Sm at this;omega
 have af:∀i,(β i).natAbs<=A:=λi=>by have:=(hβ i).1;unfold Sm at this;omega
 have y:s+t=N+1:=J
 obtain⟨z,⟨f,ay,ad⟩,o,an⟩:=dZ N A (λk j=>if j<s then(if j<=m-1+k then α (m-1+k-j)else 0)else(if j-s<=m-1+k then β (m-1+k-(j-s))else 0)) (λk j=>by
  split
  . split
    . exact ae _
    . simp
  . split
    . exact af _
    . simp)
 obtain⟨B,T⟩:=ex ((2*(N+1)*A+1)^N);rw[T]at o;obtain⟨u,W⟩:=ex (Jd ((List.range s).map λj=>(z j:Rat)*cp));obtain⟨v,hv⟩:=ex (Jd ((List.range t).map λj=>(z (s+j):Rat)*cq));have r:Jd u=u:=by rw[<-W];exact Yj _
 have l:Jd v=v:=by rw[<-hv];exact Yj _
 have g:∀j,cf u j=if j<s then(z j:Rat)*cp else 0:=λj=>by rw[<-W,JR,LL]
 have n:∀j,cf v j=if j<t then(z (s+j):Rat)*cq else 0:=λj=>by rw[<-hv,JR,LL]
 have Qi:u.length<=s:=Xc r λi V=>by rw[g,BE J]
 have Qn:v.length<=t:=Xc l λi V=>by rw[n,BE J]
 obtain⟨c,x⟩:∃c:Nat->Int,∀i,c i=Xh s (λj=>if j<=i then z j*α (i-j)else 0)+Xh t (λj=>if j<=i then z (s+j)*β (i-j)else 0):=⟨_,λ_=>rfl⟩;have U:∀i,cf (Xz (Jv u p) (Jv v q)) i=(c i:Rat):=λi=>by
  rw[O0,SR u p Qi,SR v q Qn,x,Rat.intCast_add];congr 1
  . refine SQ λj b=>?_;split
    . rw[g,BG b,CG,<-(hα (i-j)).2];grind
    . rfl
  . refine SQ λj b=>?_;split
    . rw[n,BG b,CG,<-(hβ (i-j)).2];grind
    . rfl
 have Ql:∀i,(c i).natAbs<=(N+1)*(A*B):=λi=>by
  have a:(Xh s λj=>if j<=i then z j*α (i-j)else 0).natAbs<=s*(A*B):=OX λj _=>by
   split
   . rw[CY,As];exact CC (ae _) (o _)
   . simp
  have Q:(Xh t λj=>if j<=i then z (s+j)*β (i-j)else 0).natAbs<=t*(A*B):=OX λj _=>by
   split
   . rw[CY,As];exact CC (af _) (o _)
   . simp
  have e3:=Int.natAbs_add_le (Xh s λj=>if j<=i then z j*α (i-j)else 0) (Xh t λj=>if j<=i then z (s+j)*β (i-j)else 0);rw[<-x i]at e3;rw[<-y,Ay];omega
 have Qo:(Xz (Jv u p) (Jv v q)).length<m:=by
  have:(Xz (Jv u p) (Jv v q)).length<=m-1:=Xc (XP _ _) λi V=>by
   by_cases aw:i<m-1+N
   . rw[U];have e:=an (i-(m-1)) J;rw[<-y,dl]at e;have a:Xh s (λj=>if j<=i then z j*α (i-j)else 0)=Xh s (λj=>(if j<s then(if j<=m-1+(i-(m-1))then α (m-1+(i-(m-1))-j)else 0)else(if j-s<=m-1+(i-(m-1))then β (m-1+(i-(m-1))-(j-s))else 0))*z j):=SO λj b=>by
      rw[BG b,show m-1+(i-(m-1))=i from by omega];split
      . exact Fl _ _
      . simp
     have Q:Xh t (λj=>if j<=i then z (s+j)*β (i-j)else 0)=Xh t (λj=>(if s+j<s then(if s+j<=m-1+(i-(m-1))then α (m-1+(i-(m-1))-(s+j))else 0)else(if s+j-s<=m-1+(i-(m-1))then β (m-1+(i-(m-1))-(s+j-s))else 0))*z (s+j)):=SO λj b=>by
      rw[BE (show ¬s+j<s by omega),show m-1+(i-(m-1))=i from by omega,show s+j-s=j from by omega];split
      . exact Fl _ _
      . simp
     rw[x,a,Q,e];rfl
   . refine J1 ?_;have l1:=Tl (Jv u p) (Jv v q);by_cases X:u=[]
     . have w:Jv u p=[]:=by rw[X];rfl
       by_cases d:v=[]
       . have a:Jv v q=[]:=by rw[d];rfl
         rw[w,a];exact AK _
       . have l3:=Yg l hq d E;rw[w,AD]at l1;rw[w];omega
     . have l2:=Yg r hp X Qm;by_cases d:v=[]
       . have a:Jv v q=[]:=by rw[d];rfl
         rw[a,AD]at l1;rw[a];omega
       . have l3:=Yg l hq d E;omega
  omega
 have Qj:u≠[]\/v≠[]:=by
  by_cases am:f<s
  . left
    intro e;have:=g f;rw[e,Yw,BG am]at this;exact H7 (by exact_mod_cast ad) aj this.symm
  . right
    intro e;have:=n (f-s);rw[e,Yw,BG J,show s+(f-s)=f from by omega]at this;exact H7 (by exact_mod_cast ad) ak this.symm
 have D:=dm S.symm J T.symm;have R:(K+1)*(N+1)<=(K+1)*(p.length+q.length):=Av _ J;have Qk:1<=A:=by rw[<-S];exact Fe Ii
 have M:∀i,Sm ((K+1)*(p.length+q.length)) (z i):=λi=>by
  have a:B<=(N+1)*(A*B):=Ar (CQ B Qk) (CQ _ J);unfold Sm;exact Cp (Ar (o i) a) (AB D (Aw Ii R))
 refine⟨u,v,r,l,J,J,Qj,Qo,λi=>⟨c i,?_,U i⟩,λi=>?_,λi=>?_⟩
 . unfold Sm;exact Cp (Ql i) (AB D (Aw Ii R))
 . rw[g];split
   . exact⟨z i,M i,rfl⟩
   . exact⟨0,Sm.zero _,Y⟩
 . rw[n];split
   . exact⟨z (s+i),M _,rfl⟩
   . exact⟨0,Sm.zero _,Y⟩
theorem SU(hp:Jd p=p)(hq:Jd q=q)(e:Ln K p)(f:Ln K q)(hl:p.length+q.length<=1000000000)(hle:q.length<=p.length)(h:Eu p q a b)(d:b≠[]):Ln ((K+1)*(p.length+q.length)) (JU a b):=by
 obtain⟨cp,o,l⟩:=e;obtain⟨cq,r,m⟩:=f;obtain⟨u,v,w,A,t,y,s,k,g,_,_⟩:=dq hp hq o r l m hl hle (Al.2 d) (h.len hq);obtain⟨c,n,j⟩:=dk h hp hq d u v _ w A (XP _ _) t y s k (λx=>by rw[Xt,Jo,Jo]);refine⟨c,n,λi=>?_⟩;obtain⟨z,D,E⟩:=g i;exact⟨z,D,by rw[<-Xa,<-j,E]⟩
theorem eA(hp:Jd p=p)(hq:Jd q=q)(h:p.length<q.length):JU p q=p:=
 ((MW (p:=p) hq (λe=>by rw[e]at h;simp at h) (u:=[]) (v:=p) rfl hp h λx=>by simp[ev];grind).2).symm
theorem SV(hp:Jd p=p)(hq:Jd q=q)(d:Ln K p)(e:Ln K q)(hl:p.length+q.length<=1000000000)(h:Eu p q a b)(f:b≠[]):Ln ((K+1)*(p.length+q.length)) (JU a b):=by
 by_cases hle:q.length<=p.length
 . exact SU hp hq d e hl hle h f
 . have hs:=eA hp hq J;match h with
   |⟨0,j,k⟩=>subst j;subst k;rw[hs];exact d.mono (by
    have:(K+1)*1<=(K+1)*(p.length+q.length):=Av _ J
    omega)
   |⟨n+1,c,m,g,hE⟩=>
    have hE:Eu q (Dd c (JU p q)) a b:=⟨n,hE⟩;rw[hs]at hE;have i:=Yn g hp;have l:=SU hq (JZ c p) e (d.sc g) J J hE f;rwa[i,C1 q.length]at l
theorem IB(a:c≠0):1/c≠0:=λe=>by
 have h:(1/c)*c=1:=Cq a;rw[e,CE]at h;exact absurd h DQ
def JC(p:List Rat):List Rat:=Dd (1/cf p (p.length-1)) p
theorem eB:JC []=[]:=rfl
theorem Y4(p:List Rat):Jd (JC p)=JC p:=JZ _ _
theorem MY(b:c≠0)(hp:Jd p=p):JC (Dd c p)=JC p:=by
 by_cases a:p=[]
 . subst a;rfl
 . unfold JC;rw[Yn b hp,Xa,OY];have hl:=JA hp a;congr 1;obtain⟨l,e⟩:=ex (cf p (p.length-1));rw[e]at hl ⊢;have d:(1/(l*c))*(l*c)=1:=Cq (H7 hl b);grind
theorem Ys(hp:Jd p=p):(JC p).length=p.length:=by
 by_cases a:p=[]
 . subst a;rfl
 . exact Yn (IB (JA hp a)) hp
theorem MZ(hp:Jd p=p)(a:p≠[]):cf (JC p) ((JC p).length-1)=1:=by
 rw[Ys hp];unfold JC;rw[Xa,Rat.mul_comm];exact Cq (JA hp a)
theorem Ma(hp:Jd p=p):JC (JC p)=JC p:=by
 by_cases a:p=[]
 . subst a;rfl
 . exact MY (IB (JA hp a)) hp
def EP:Nat->List Rat->List Rat->List Rat
 |0,p,_=>JC p
 |n+1,p,q=>if q=[]then JC p else EP n q (JU p q)
def JL(p q:List Rat):List Rat:=EP q.length p q
theorem eC:∀(n m:Nat) (p q:List Rat),Jd q=q->q.length<=n->q.length<=m->EP n p q=EP m p q:=by
 intro n;induction n with
 |zero=>
  intro m p q _ h _;have hq:q=[]:=MV J;subst hq;cases m with
  |zero=>rfl
  |succ m=>simp[EP]
 |succ n b=>
  intro m p q hq h c;by_cases a:q=[]
  . subst a;cases m with
    |zero=>simp[EP]
    |succ m=>simp[EP]
  . have hl:0<q.length:=Al.2 a;cases m with
    |zero=>omega
    |succ m=>
     have d:=(YK p q hq a).2.1;simp only[EP,BE a];exact b m q (JU p q) (YU _ _) J J
theorem OZ(p:List Rat):JL p []=JC p:=rfl
theorem eD(hq:Jd q=q)(a:q≠[]):JL p q=JL q (JU p q):=by
 have c:=(YK p q hq a).2.1;have hl:0<q.length:=Al.2 a;unfold JL;obtain⟨n,b⟩:∃n,q.length=n+1:=⟨q.length-1,J⟩;rw[b,EP,BE a];exact eC _ _ _ _ (YU _ _) J (Aa _)
theorem eE:∀(n:Nat) (c d:Rat) (p q:List Rat),c≠0->d≠0->Jd p=p->Jd q=q->EP n (Dd c p) (Dd d q)=EP n p q:=by
 intro n;induction n with
 |zero=>intro c d p q b _ hp _;exact MY b hp
 |succ n f=>
  intro c d p q b e hp hq;by_cases a:q=[]
  . subst a;simp only[EP,df,BG];exact MY b hp
  . simp only[EP,BE a,BE (MU e hq a)];rw[(MX e p q hq a).2];exact f d c q (JU p q) e b hq (YU _ _)
theorem Mb(b:c≠0)(a:d≠0)(hp:Jd p=p)(hq:Jd q=q):JL (Dd c p) (Dd d q)=JL p q:=by
 unfold JL;rw[Yn a hq];exact eE _ _ _ _ _ b a hp hq
theorem Eu.gcd(h:Eu p q a b):Jd p=p->Jd q=q->JL p q=JL a b:=by
 induction h using Eu.ind with
 |base p q=>exact λ_ _=>rfl
 |step p q c a b f e _ g=>
  intro hp hq;rw[<-g hq (JZ _ _),eD hq f];have d:=Mb (c:=1) DQ e hq (YU p q);rw[KW hq]at d;exact d.symm
theorem SW(p q:List Rat)(hp:Jd p=p)(hq:Jd q=q):JL (JC p) (JC q)=JL p q:=by
 by_cases b:p=[]
 . subst b;by_cases a:q=[]
   . subst a;rfl
   . have:=Mb (c:=1) (p:=[]) DQ (IB (JA hq a)) rfl hq;exact this
 . by_cases a:q=[]
   . subst a;exact Ma hp
   . exact Mb (IB (JA hp b)) (IB (JA hq a)) hp hq
theorem eF:∀(n:Nat) (p q:List Rat),Jd (EP n p q)=EP n p q:=by
 intro n;induction n with
 |zero=>intro p q;exact Y4 _
 |succ n a=>
  intro p q;rw[EP];split
  . exact Y4 _
  . exact a _ _
theorem YG(p q:List Rat):Jd (JL p q)=JL p q:=eF _ _ _
theorem Mc(c:Rat):c*(c.den:Rat)=(c.num:Rat):=by
 have d:((c.den:Int):Rat)≠0:=by exact_mod_cast c.den_nz
 have a:=Fc c;rw[CV]at a;have b:(c.num:Rat)/((c.den:Int):Rat)*((c.den:Int):Rat)=c.num:=Cq d;rw[a,Cu]at b;exact b
theorem Oa{a b c:Int}(h:a∣b*c)(e:Nat.gcd a.natAbs c.natAbs=1):a∣b:=by
 have d:=Int.natAbs_dvd_natAbs.2 h;rw[CY]at d;exact Int.natAbs_dvd_natAbs.1 (Nat.Coprime.dvd_of_dvd_mul_right e d)
theorem eG{n:Int}(h:c*(D:Rat)=(n:Rat)):(c.den:Int)∣D/\c.num*D=n*c.den:=by
 have b:c*(c.den:Rat)=(c.num:Rat):=Mc c;have d:((c.num*D:Int):Rat)=((n*(c.den:Int):Int):Rat):=by
  rw[CG,CG,<-b,<-h];show c*(c.den:Rat)*(D:Rat)=c*(D:Rat)*((c.den:Int):Rat);rw[Cu];grind
 have a:c.num*D=n*c.den:=Rat.intCast_inj.1 d;refine⟨?_,a⟩;have e:(c.den:Int)∣D*c.num:=⟨n,by rw[Fl D,a,Fl]⟩;refine Oa e ?_;show Nat.gcd (c.den:Int).natAbs c.num.natAbs=1;rw[AP,C6];exact c.reduced
theorem eH{L G:Int}(V:∀i,((cf p i).den:Int)∣L)(W:∀u:Int,(∀i,((cf p i).den:Int)∣u)->L∣u)(T:∀i,G∣(cf p i).num)(U:∀v:Int,(∀i,v∣(cf p i).num)->v∣G)(s:G≠0)(h:Ln K p):
 ∀i,∃z:Int,Sm K z/\cf p i*((L:Rat)/(G:Rat))=(z:Rat):=by
 obtain⟨c,X,hz⟩:=h;have E:c.num≠0:=λe=>X (Fy.1 e);have A:(c.den:Int)≠0:=by have:=c.den_nz;omega
 have k:∀i,∃z:Int,Sm K z/\(cf p i).num*c.num=z*((cf p i).den*c.den):=λi=>by
  obtain⟨z,l,n⟩:=hz i;refine⟨z,l,?_⟩;have N:c*(c.den:Rat)=(c.num:Rat):=Mc c;have a:cf p i*((cf p i).den:Rat)=((cf p i).num:Rat):=Mc _;have Q:(((cf p i).num*c.num:Int):Rat)=((z*(((cf p i).den:Int)*(c.den:Int)):Int):Rat):=by
   rw[CG,CG,CG,Cu,Cu,<-N,<-a,<-n];grind
  exact Rat.intCast_inj.1 Q
 have g:L∣c.num:=W _ λi=>by
  obtain⟨z,_,e⟩:=k i;have b:((cf p i).den:Int)∣(cf p i).num*c.num:=⟨z*c.den,by rw[e,Int.mul_left_comm]⟩;rw[Fl]at b;refine Oa b ?_;show Nat.gcd ((cf p i).den:Int).natAbs (cf p i).num.natAbs=1;rw[AP,C6];exact(cf p i).reduced
 have j:(c.den:Int)∣G:=U _ λi=>by
  obtain⟨z,_,e⟩:=k i;have b:(c.den:Int)∣(cf p i).num*c.num:=⟨z*(cf p i).den,by rw[e,<-CP,Fl]⟩;refine Oa b ?_;show Nat.gcd (c.den:Int).natAbs c.num.natAbs=1;rw[AP,C6];exact c.reduced
 obtain⟨u,g⟩:=g;obtain⟨v,j⟩:=j;have M:u≠0:=λe=>E (by rw[g,e,Int.mul_zero]);have x:v≠0:=λe=>s (by rw[j,e,Int.mul_zero]);intro i;obtain⟨e,t⟩:=V i;obtain⟨m,w⟩:=T i;obtain⟨z,l,n⟩:=k i;have hd:((cf p i).den:Int)≠0:=by have:=(cf p i).den_nz;omega
 have D:z=m*e*(u*v):=by
  have R:z*(((cf p i).den:Int)*c.den)=m*e*(u*v)*(((cf p i).den:Int)*c.den):=by
   rw[<-n,w,g,j,t];generalize ((cf p i).den:Int)=d;generalize (c.den:Int)=f;grind
  exact Int.eq_of_mul_eq_mul_right (Co hd A) R
 refine⟨m*e,l.le ?_,?_⟩
 . rw[D,CY (m*e)]
   have:0<(u*v).natAbs:=Int.natAbs_pos.2 (Co M x)
   exact CB _ this
 . have q:(G:Rat)≠0:=by exact_mod_cast s
   have a:cf p i*((cf p i).den:Rat)=((cf p i).num:Rat):=Mc _;rw[w,CG]at a;have y:(L:Rat)=((cf p i).den:Rat)*(e:Rat):=by rw[t,CG,Cu]
   have o:(L:Rat)/(G:Rat)*(G:Rat)=L:=Cq q;have S:(cf p i*((L:Rat)/(G:Rat))-((m*e:Int):Rat))*(G:Rat)=0:=by
    rw[CG];generalize (L:Rat)/(G:Rat)=f at o ⊢;rw[y]at o;generalize ((cf p i).den:Rat)=d at a o;grind
   rcases FE.1 S with r|r
   . grind
   . exact absurd r q
def Xj(p:List Rat):Nat->Nat
 |0=>1
 |n+1=>Nat.lcm (Xj p n) (cf p n).den
def Y5(p:List Rat):Nat->Nat
 |0=>0
 |n+1=>Nat.gcd (Y5 p n) (cf p n).num.natAbs
theorem SX(p:List Rat):∀n,0<Xj p n:=by
 intro n;induction n with
 |zero=>exact Nat.one_pos
 |succ n a=>exact Nat.lcm_pos a (cf p n).den_pos
theorem eI(p:List Rat):∀n i,i<n->(cf p i).den∣Xj p n:=by
 intro n;induction n with
 |zero=>intro i h;omega
 |succ n a=>
  intro i h;rw[Xj];by_cases e:i=n
  . subst e;exact Nat.dvd_lcm_right _ _
  . exact Nat.dvd_trans (a i J) (Nat.dvd_lcm_left _ _)
theorem SY(p:List Rat)(u:Nat)(h:∀i,(cf p i).den∣u):∀n,Xj p n∣u:=by
 intro n;induction n with
 |zero=>exact Nat.one_dvd _
 |succ n a=>exact Nat.lcm_dvd a (h n)
theorem SZ(p:List Rat):∀n i,i<n->Y5 p n∣(cf p i).num.natAbs:=by
 intro n;induction n with
 |zero=>intro i h;omega
 |succ n a=>
  intro i h;rw[Y5];by_cases e:i=n
  . subst e;exact Fh _ _
  . exact Nat.dvd_trans (FO _ _) (a i J)
theorem eJ(p:List Rat)(v:Nat)(h:∀i,v∣(cf p i).num.natAbs):∀n,v∣Y5 p n:=by
 intro n;induction n with
 |zero=>exact Nat.dvd_zero _
 |succ n a=>exact Nat.dvd_gcd a (h n)
theorem Sa(hD:D≠0)(h:CD D K c):∃n:Int,Sm K n/\c*(D:Rat)=(n:Rat):=by
 obtain⟨n,rfl,h⟩:=h;refine⟨n,h,?_⟩;have a:(D:Rat)≠0:=by exact_mod_cast hD
 rw[CV];exact Cq a
theorem Md{n:Int}(hD:D≠0)(b:Sm K n)(h:c*(D:Rat)=(n:Rat)):CD D K c:=by
 refine⟨n,?_,b⟩;have a:(D:Rat)≠0:=by exact_mod_cast hD
 rw[CV,<-h];exact(Rat.mul_div_cancel a).symm
theorem Sb(hD:D≠0)(hs:Sm K D)(h:ED D K p)(n:Nat):Sm K (Xj p n:Int):=by
 refine hs.le ?_;rw[AP];refine Nat.le_of_dvd (Int.natAbs_pos.2 hD) (SY p _ (λi=>?_) n);obtain⟨z,_,e⟩:=Sa hD (h i);have:=(eG e).1;exact Int.ofNat_dvd_left.1 this
theorem Sc(h:∀i,Sm K (cf p i).num):∀n,Sm K (Y5 p n:Int):=by
 intro n;induction n with
 |zero=>exact Sm.zero K
 |succ n a=>exact Sm.gcd a (h n)
theorem ED.ln(hD:D≠0)(h:ED D K p):Ln K p:=
 ⟨(D:Rat),by exact_mod_cast hD,λi=>Sa hD (h i)⟩
theorem Me(hp:Jd p=p)(a:p≠[]):Y5 p p.length≠0:=λe=>by
 have hl:0<p.length:=Al.2 a;have b:=SZ p p.length (p.length-1) J;rw[e]at b;have c:(cf p (p.length-1)).num.natAbs=0:=Nat.zero_dvd.1 b;exact JA hp a (Fy.1 (Int.natAbs_eq_zero.1 c))
def YY(p:List Rat):List Rat:=Dd ((Xj p p.length:Rat)/(Y5 p p.length:Rat)) p
theorem eK(hp:Jd p=p)(a:p≠[]):0<(Xj p p.length:Rat)/(Y5 p p.length:Rat):=by
 have b:(0:Rat)<(Xj p p.length:Rat):=by exact_mod_cast SX p _
 have c:(0:Rat)<(Y5 p p.length:Rat):=by exact_mod_cast Nat.pos_of_ne_zero (Me hp a)
 rw[Fm];exact Rat.mul_pos b (Rat.inv_pos.2 c)
theorem Sd(hp:Jd p=p)(d:p≠[])(h:Ln K p):∀i,∃z:Int,Sm K z/\cf (YY p) i=(z:Rat):=by
 have c:∀i,p.length<=i->cf p i=0:=λi a=>J1 a;have e:=eH (p:=p) (L:=(Xj p p.length:Int)) (G:=(Y5 p p.length:Int)) (λi=>by
  by_cases a:i<p.length
  . exact Int.natCast_dvd_natCast.2 (eI p _ i a)
  . rw[c i J];exact Int.one_dvd _) (λu g=>by
  refine Int.ofNat_dvd_left.2 (SY p _ (λi=>Int.ofNat_dvd_left.1 (g i)) _)) (λi=>by
  by_cases a:i<p.length
  . exact Int.ofNat_dvd_left.2 (SZ p _ i a)
  . rw[c i J];exact Int.dvd_zero _) (λv j=>by
  have:v.natAbs∣Y5 p p.length:=eJ p _ (λi=>Int.natAbs_dvd_natAbs.2 (j i)) _
  exact Int.natAbs_dvd.1 (Int.natCast_dvd_natCast.2 this)) (by have:=Me hp d;omega) h
 intro i;obtain⟨z,f,b⟩:=e i;refine⟨z,f,?_⟩;unfold YY;rw[Xa];rw[Cu,Cu]at b;exact b

