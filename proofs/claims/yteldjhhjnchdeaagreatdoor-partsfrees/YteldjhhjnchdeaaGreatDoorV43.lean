import Derived.Test.YteldjhhjnchdeaaGreatDoorV42
open Go.Value renaming slice->B,pointer->F,int->H,bool->L,agg->M
open Go renaming undef->C
open Go.Obj renaming cells->G
open Go.IntKind renaming i64->I
set_option maxRecDepth 100000
set_option maxHeartbeats 16000000
namespace Go.Proofs.YteldjhhjnchdeaaGreatDoor
namespace M3
open Go.RowKit Go.Shelf
attribute [local go_sem] Oper.semAt_some
def LC(w V:World)(b c d:Nat)(rs a:Value)(R:List Rat):Prop:=
 Boxed V (w.heap.size+1+1) 25 (B none 0 0)/\Boxed V (w.heap.size+1+1+1) 25 (B none 0 0)/\Boxed V b 23 rs/\Boxed V c 23 a/\Boxed V d 23 a/\RowK true V rs R/\Bl w V
variable{S ps:List Rat}{n:Nat}{row:Option Nat}{V V':World}
theorem boxed_own(a:V.grownBy V' row)(b:∀r,row=some r->∃o:Obj,V.heap[r]?=some o/\o.isCells=false){B:Nat}{t:TypeId}{v:Value}(h:Boxed V B t v):Boxed V' B t v:=Xr a b (show Bx V B t #[v]from h)
theorem LC.own{w:World}{c d f:Nat}{rs i:Value}{R:List Rat}(h:LC w V c d f rs i R)(a:V.grownBy V' row)(g:∀x,row=some x->w.heap.size<=x/\∃o:Obj,V.heap[x]?=some o/\o.isCells=false):LC w V' c d f rs i R:=by
 have b:∀r,row=some r->∃o:Obj,V.heap[r]?=some o/\o.isCells=false:=λr e=>(g r e).2;exact⟨boxed_own a b h.1,boxed_own a b h.2.1,boxed_own a b h.2.2.1,boxed_own a b h.2.2.2.1,boxed_own a b h.2.2.2.2.1,Ir a b h.2.2.2.2.2.1,h.2.2.2.2.2.2.grown a h.2.2.2.2.2.2.size λk e=>(g k e).1⟩
theorem row_zero(V:World)(a:Option Addr):RowK true V (B a 0 0) []:=⟨a,0,rfl,Aa _,Y,O,Or.inl rfl⟩
theorem dE(x:Value)(ps:List Rat)(y:Value)(w:World)(t:Jg w x ps)(m:Jg w y []):
 Calls Tryz.prog 22 #[x,y] w λe n=>e=.returned (.tuple #[M #[B none 0 0],M #[B none 0 0],L false])/\Bl w n:=by
 obtain⟨f,la,g,rfl⟩:=t.form;obtain⟨b,lb,c,rfl⟩:=m.form;have j:Mem w _ _:=((((Mem.nil w).push (.cell 25 (B f la g)) (cs:=#[B f la g]) ⟨rfl,rfl⟩).push (.cell 25 (B b lb c)) (cs:=#[B b lb c]) ⟨rfl,rfl⟩).push (.cell 25 (B none 0 0)) (cs:=#[B none 0 0]) ⟨rfl,rfl⟩).push (.cell 25 (B none 0 0)) (cs:=#[B none 0 0]) ⟨rfl,rfl⟩;simp only[A1]at j;obtain⟨d,l⟩:=ex ((((w.alloc (G #[B f la g] 25)).alloc (G #[B b lb c] 25)).alloc (G #[B none 0 0] 25)).alloc (G #[B none 0 0] 25));have k:Mem w d [some (w.heap.size,.cell 25 (B f la g)),some (w.heap.size+1,.cell 25 (B b lb c)),some (w.heap.size+1+1,.cell 25 (B none 0 0)),some (w.heap.size+1+1+1,.cell 25 (B none 0 0))]:=by rw[<-l];exact j
 obtain⟨q,r,A⟩:=Dk (show Calls Tryz.prog 20 #[M #[B b lb c]] d λe n=>e=.returned (H I (-1))/\Bl d n from YA (M #[B b lb c]) [] d (m.below k.2.2)) k l;clear t m j k l;go_enter Tryz.func22,Tryz.ntmps22
 go_upto_region 1 with fail
 rw[A.o];have c1:=(r.o.cell (i:=1) rfl).1.cell;go_wp2_with(go_at_call 20;refine q.o.mono ?_;clear q;rintro e o ⟨rfl,u⟩;have s:Bl o (o.alloc (G #[H I (-1)] 3)):=Ba o _;have a:=(r.o.below u).below s;have D:=(a.cell (i:=2) rfl).1.cell;have f2:=(a.cell (i:=2) rfl).1.frozen;have E:=(a.cell (i:=3) rfl).1.cell;have f3:=(a.cell (i:=3) rfl).1.frozen;have z:=J a.2.2;clear s a u)
 refine BA (v:=.tuple #[M #[B none 0 0],M #[B none 0 0],L false]) (by simp[results,Tryz.results22,go_sem,D,E]) rfl ⟨rfl,?_⟩;exact((z.o.setCell (p:=⟨w.heap.size+1+1,0,none⟩) (by show w.heap.size<=w.heap.size+1+1;omega) _).setCell (p:=⟨w.heap.size+1+1+1,0,none⟩) (by show w.heap.size<=w.heap.size+1+1+1;omega) _)
theorem dF(P A:Option Addr)(la Q lb N n:Nat)(ps qs:List Rat)(w:World)(ha:RowK true w (B P la Q) ps)(hb:RowK true w (B A lb N) qs)(hs:DZ ps)(bh:Jd ps=ps)(hn:lb=n+1)(hm:la<=n):
 Calls Tryz.prog 22 #[M #[B P la Q],M #[B A lb N]] w λe w'=>∃u v,e=.returned (.tuple #[u,v,L true])/\Jg w' u []/\Jg w' v ps/\Bl w w':=by
 have Qz:Tryz.prog.follows .mixedOrders=true:=by kernel_rfl
 obtain⟨bg,bi,bk,ce,_⟩:=ha.forms;obtain⟨bt,bj,bm,cg,_⟩:=hb.forms;have M0:Mem w _ _:=((((Mem.nil w).push (.cell 25 (B P la Q)) (cs:=#[B P la Q]) ⟨rfl,rfl⟩).push (.cell 25 (B A lb N)) (cs:=#[B A lb N]) ⟨rfl,rfl⟩).push (.cell 25 (B none 0 0)) (cs:=#[B none 0 0]) ⟨rfl,rfl⟩).push (.cell 25 (B none 0 0)) (cs:=#[B none 0 0]) ⟨rfl,rfl⟩;simp only[A1]at M0;obtain⟨V0,an⟩:=ex ((((w.alloc (G #[B P la Q] 25)).alloc (G #[B A lb N] 25)).alloc (G #[B none 0 0] 25)).alloc (G #[B none 0 0] 25));have M1:Mem w V0 [some (w.heap.size,.cell 25 (B P la Q)),some (w.heap.size+1,.cell 25 (B A lb N)),some (w.heap.size+1+1,.cell 25 (B none 0 0)),some (w.heap.size+1+1+1,.cell 25 (B none 0 0))]:=by rw[<-an];exact M0
 have Qw:=J M1;have Qv:=J (show Calls Tryz.prog 20 #[M #[B A lb N]] V0 λe w'=>e=.returned (H I (n:Int))/\Bl V0 w' by
  have h:=YA (M #[B A lb N]) qs V0 ⟨_,rfl,hb.below M1.2.2⟩;rwa[show((qs.length:Int)-1)=(n:Int)by omega]at h)
 have Qs:=J λ(V:World) (h:Bl w V)=>RI (B P la Q) ps V (ha.below h);have cj:∀W:World,(Instr.makeSlice 23 (H I 0) (H I 0)).run Tryz.prog W=.ok (B (some ⟨W.heap.size,0,none⟩) 0 0) (W.alloc (G (Ye 0) 65)):=λW=>KB 0 Y W;obtain⟨x,hx⟩:=ex ((la:Int)-(n:Int):Int);have ck:IntKind.i64.wrap x=x:=by rw[BS];omega
 have ci:max (0:Int) x=0:=Y
 obtain⟨Ua,Uf,Ud,Qu⟩:=EB hs bh bg an;clear ha hb bg bt bi bk bj bm hs bh hn hm M0 M1 an;refine(BJ (n:=3)).1 ?_;refine BU Tryz.func22 rfl trivial ?_ rfl;simp only[Tryz.ntmps22,An,Am,AD,Nat.reduceAdd,Nat.reduceSub,AF,AG,AZ,AN,Ao,AA];gi_wp2_with fail
 rw[Qu.o];refine⟨trivial,?_⟩;refine((BJ (n:=_)).2 Qv.o).mono ?_;rintro e w1 ⟨rfl,bc⟩;have Qm:Bl w1 (w1.alloc (G #[H I (n:Int)] 3)):=Ba w1 _;have Qi:=(Qw.o.below bc).below Qm;have h4:=BM w1 3 (H I (n:Int));have c0:=(Qi.cell (i:=0) rfl).1.cell;obtain⟨Qe,Qk,H4⟩:=Dk (Qs.o _ Qi.2.2) Qi h4;clear Qm Qi h4 bc Qv Qu Qw Qs;gi_wp2_with fail
 obtain⟨V1,ap⟩:=ex (w1.alloc (G #[H I (n:Int)] 3));obtain⟨B4,aj⟩:=ex (w1.heap.size);rw[ap]at Qe Qk H4 c0;rw[aj]at H4;rw[ap,aj];clear ap aj;refine⟨trivial,?_⟩;refine((BJ (n:=_)).2 Qe.o).mono ?_;rintro e d ⟨u2,rfl,ay,_,ae,_⟩;obtain⟨g,rc,e9,_⟩:=id ay;rw[<-Ud.o]at e9;subst e9;have Qn:=Qk.o.below ae;have h4:Boxed d B4 3 (H I (n:Int)):=(ae.block B4 H4.o.lt).trans H4.o;have Ql:Bl d (d.alloc (G #[B g la rc] 23)):=Ba d _;have Qo:=Qn.push (.cell 23 (B g la rc)) (cs:=#[B g la rc]) ⟨rfl,rfl⟩;have h5:Boxed (d.alloc (G #[B g la rc] 23)) B4 3 (H I (n:Int)):=(Ql.block B4 h4.lt).trans h4;have c4:=h5.cell;have Qp:=J Qo;have Qt:=J (ay.below Ql);clear ay ae Qn h4 Ql Qo h5 Qk H4 Qe c0;gi_wp2_with fail
 refine⟨trivial,?_⟩;refine(ME Fence.wide _ trivial rfl _ _ _ _).mono ?_;rintro e w3 ⟨rfl,rfl⟩;have T:=((Qp.o.push (.rats (List.replicate 0 0)) (LB _ 0)).push (.cell 23 (B (some ⟨d.heap.size+1,0,none⟩) 0 0)) (cs:=#[B (some ⟨d.heap.size+1,0,none⟩) 0 0]) ⟨rfl,rfl⟩).push (.cell 23 (B (some ⟨d.heap.size+1,0,none⟩) 0 0)) (cs:=#[B (some ⟨d.heap.size+1,0,none⟩) 0 0]) ⟨rfl,rfl⟩;simp only[A1]at T;have Qq:Below (d.alloc (G #[B g la rc] 23)).heap.size (d.alloc (G #[B g la rc] 23)) ((((d.alloc (G #[B g la rc] 23)).alloc (G (Ye 0) 65)).alloc (G #[B (some ⟨d.heap.size+1,0,none⟩) 0 0] 23)).alloc (G #[B (some ⟨d.heap.size+1,0,none⟩) 0 0] 23)):=
  ((Ba _ _).alloc (by simp only[A1];omega) _).alloc (by simp only[A1];omega) _
 have hF:LC w ((((d.alloc (G #[B g la rc] 23)).alloc (G (Ye 0) 65)).alloc (G #[B (some ⟨d.heap.size+1,0,none⟩) 0 0] 23)).alloc (G #[B (some ⟨d.heap.size+1,0,none⟩) 0 0] 23)) d.heap.size (d.heap.size+1+1) (d.heap.size+1+1+1) (B g la rc) (B (some ⟨d.heap.size+1,0,none⟩) 0 0) ps:=
  ⟨(T.cell (i:=2) rfl).1,(T.cell (i:=3) rfl).1,(T.cell (i:=4) rfl).1,(T.cell (i:=6) rfl).1,(T.cell (i:=7) rfl).1,Qt.o.below Qq,T.2.2⟩
 obtain⟨W3,aq⟩:=ex ((((d.alloc (G #[B g la rc] 23)).alloc (G (Ye 0) 65)).alloc (G #[B (some ⟨d.heap.size+1,0,none⟩) 0 0] 23)).alloc (G #[B (some ⟨d.heap.size+1,0,none⟩) 0 0] 23));rw[aq]at hF;rw[aq];simp only[A1];obtain⟨f,ak⟩:=ex (d.heap.size);rw[ak]at hF;rw[ak];have HF:=J hF;clear T Qq hF aq ak Qp Qt c4;gi_wp2_with fail
 have Qr:=J (show w.heap.size<=W3.heap.size from HF.o.2.2.2.2.2.2.size);refine Y3 rfl Y (gf:=67) (lb:=#[F (some ⟨f+1+1+1,0,none⟩)]) rfl trivial (DF Tryz.func67 (by kernel_rfl) rfl)
  (MD Fence.wide _ trivial rfl Y (f+1+1+1) (some ⟨f+1,0,none⟩) 0 0 (λ_=>L false) (λ_=>B none 0 0) (λ_=>L false) (λ_=>B none 0 0) Y) (λ_=>rfl)
  (λ_ W=>LC w W f (f+1+1) (f+1+1+1) (B g la rc) (B (some ⟨f+1,0,none⟩) 0 0) ps) (λ_ _ _=>False)
  (λk W W' row h hg hr=>h.own hg λr e=>⟨Aq Qr.o (hr r e).1,(hr r e).2⟩)
  (λc s W W' row h=>h.elim) HF.o ?rd
  (λk=>{ tmps:=#[M #[B P la Q],M #[B A lb N],F (some ⟨w.heap.size,0,none⟩),F (some ⟨w.heap.size+1,0,none⟩),F (some ⟨w.heap.size+1+1,0,none⟩),F (some ⟨w.heap.size+1+1+1,0,none⟩),L false,F (some ⟨B4,0,none⟩),F (some ⟨f,0,none⟩),F (some ⟨f+1+1,0,none⟩),H I (((0:Nat):Int)-1-k),C,C,C,C,M #[B A lb N],H I ↑n,H I ↑n,L (decide ((n:Int)<0)),C,C,F (some ⟨w.heap.size,0,none⟩),B P la Q,B g la rc,B g la rc,H I ↑la,H I ↑n,H I x,H I 0,B (some ⟨f+1,0,none⟩) 0 0,B (some ⟨f+1,0,none⟩) 0 0,.func (.func 67) #[] #[F (some ⟨f+1+1+1,0,none⟩)],H I (((0:Nat):Int)-1-k),M #[L false,B none 0 0,L false,B none 0 0],C,C,C,C,C,C,C,C,C,C,C,C,C,C,C,C,C,C,C,C,C,C,C,C,C,C,C,C,C,C,C,C,C,C,C,C,C,C,C,C,C,C,C,C,C,C,C],defers:=[] }) ?assign ?body ?done ?stop
 case stop=>intro D c k W _ _ h;exact h.elim
 case rd=>
  intro k W h;exact⟨h.2.2.2.2.1.cell,λhk=>by omega⟩
 case assign=>
  intro l k W K hK;unfold KA;gi_wp2;exact hK
 case body=>intro l k W U hk;omega
 case done=>
  intro t W hD U hK;have Qx:Hw w W.drew t f (f+1+1) (B g la rc) (B (some ⟨f+1,0,none⟩) 0 0) ps []:=
   Hw.below ⟨U.1,U.2.1,U.2.2.1,U.2.2.2.1,U.2.2.2.2.2.1,row_zero _ _,U.2.2.2.2.2.2,hK⟩ ((BB _ W).drew)
  have Ub:Ma false w W.drew t C:=λe=>by cases e
  have Qy:=J (show w.heap.size<=t by have:=Qr.o;omega);have Uc:=J (show DZ []from DZ.of λi=>Sq.of (k:=1) (by rw[YS];exact Dd.zero 1 Y) Y);clear U hK HF;gi_wp2_with fail
  refine Yd Qz [[],[0],[],[2,1],[1,3,0,1],[3,4,0,1,2,3,4],[5,0,1,2,3,4,5]] (by kernel_rfl) DQ
   (λD ai V=>∃(tb tc td te ta:Value),ai={ tmps:=#[M #[B P la Q],M #[B A lb N],F (some ⟨w.heap.size,0,none⟩),F (some ⟨w.heap.size+1,0,none⟩),F (some ⟨w.heap.size+1+1,0,none⟩),F (some ⟨w.heap.size+1+1+1,0,none⟩),ta,F (some ⟨B4,0,none⟩),F (some ⟨f,0,none⟩),F (some ⟨f+1+1,0,none⟩),C,C,C,C,C,M #[B A lb N],H I ↑n,H I ↑n,L (decide ((n:Int)<0)),C,C,F (some ⟨w.heap.size,0,none⟩),B P la Q,B g la rc,B g la rc,H I ↑la,H I ↑n,H I x,H I 0,B (some ⟨f+1,0,none⟩) 0 0,B (some ⟨f+1,0,none⟩) 0 0,.func (.func 67) #[] #[F (some ⟨f+1+1+1,0,none⟩)],C,C,C,C,C,C,C,C,C,C,C,C,C,C,C,C,C,C,C,C,C,C,C,C,C,C,C,C,C,C,C,C,C,C,C,C,C,C,C,C,C,C,C,C,C,tb,tc,td,te],defers:={ target:=.collected t,args:=#[] }::[] }/\Hid ((D 0=true->tb=B (some ⟨f+1,0,none⟩) 0 0)/\(D 1=true->D 5=false->Jg V tc (Jd []))/\(D 2=true->td=B g la rc)/\(D 3=true->D 5=false->Jg V te (Jd ps))/\(D 6=true->ta=L true))/\Hid ((D 4=false->Hw w V t f (f+1+1) (B g la rc) (B (some ⟨f+1,0,none⟩) 0 0) ps [])/\(D 4=true->KR V))/\Hid ((D 5=false->Ma (D 4) w V t tc)/\(D 5=true->SC w V t tc te (Jd []) (Jd ps))))
   ⟨_,_,_,_,_,rfl,J O,J ⟨λ_=>Qx,O⟩,J ⟨λ_=>Ub,O⟩⟩ ?step1 ?fin1
  case step1=>
   rintro D ai V i ds R hi m q ⟨tb,tc,td,te,ta,rfl,b,j,z⟩;have bu:i<7:=(Ac.1 hi).1;obtain rfl|rfl|rfl|rfl|rfl|rfl|rfl:=IP i Y
   all_goals
    simp only[Af,Ae,Ag]at hi;subst hi
   . have y:=j.o.1 (DR R q);have Qf:=z.o.1 (DR R q);have e6:=y.2.2.2.1.cell;clear m;refine Dm ?_;exact⟨(Dg b),j,z⟩
   . have X:D 4=false:=DR R q;have y:=j.o.1 X;have S:D 5=false:=DR R q;have Qf:=z.o.1 S;obtain rfl:=b.o.1 (m 0 O);clear m;have HC:=J λ(n9:Nat)=>(BJ (n:=n9)).2 (Ha _ [] V y.2.2.2.2.2.1 Uc.o);refine BQ rfl λK hK=>?_;go_simp;gi_wp2_with(refine⟨trivial,?_⟩;gi_at_call 27;refine(HC.o _).mono ?_;rintro e w5 ⟨v5,rfl,az,_,ad⟩)
     exact⟨_,_,_,_,_,rfl,J ⟨λ_=>rfl,λ_ _=>az,b.o.2.2.1,λh h2=>(b.o.2.2.2.1 h h2).below ad,b.o.2.2.2.2⟩,J ⟨λh=>(j.o.1 h).below ad,λh=>(j.o.2 h).below ad⟩,J ⟨λ_=>(λe=>by simp[X]at e),λh=>by simp[S]at h⟩⟩
   . have X:D 4=false:=DR R (DR (a:=3) R q);have y:=j.o.1 X;have Qf:=z.o.1 (DR R q);have e5:=y.2.2.1.cell;clear m;refine Dm ?_;exact⟨J ⟨b.o.1,b.o.2.1,λ_=>rfl,b.o.2.2.2.1,b.o.2.2.2.2⟩,j,z⟩
   . have X:D 4=false:=DR R q;have y:=j.o.1 X;have S:D 5=false:=DR R q;have Qf:=z.o.1 S;obtain rfl:=b.o.2.2.1 (m 2 O);clear m;have HC:=J λ(n9:Nat)=>(BJ (n:=n9)).2 (Ha _ ps V y.2.2.2.2.1 Ua.o);refine BQ rfl λK hK=>?_;go_simp;gi_wp2_with(refine⟨trivial,?_⟩;gi_at_call 27;refine(HC.o _).mono ?_;rintro e w5 ⟨v5,rfl,az,_,ad⟩)
     exact⟨_,_,_,_,_,rfl,J ⟨b.o.1,λh h2=>(b.o.2.1 h h2).below ad,λ_=>rfl,λ_ _=>az,b.o.2.2.2.2⟩,J ⟨λh=>(j.o.1 h).below ad,λh=>(j.o.2 h).below ad⟩,J ⟨λ_=>(λe=>by simp[X]at e),λh=>by simp[S]at h⟩⟩
   . have y:=j.o.1 q;have S:D 5=false:=DR R q;have Qf:=z.o.1 S;have h0:=b.o.2.1 (m 1 O) S;obtain⟨a9,l9,c9,rfl⟩:=Jg.form h0;have Qg:=y.1;have e0:=Qg.cell;have f0:=Qg.frozen;have Qj:w.heap.size+1+1+1≠w.heap.size+1+1:=Y
     clear m;refine Dm ?_;obtain⟨G0,G1,G2,G3,G4⟩:=b.o;exact⟨J ⟨G0,λh h2=>(G1 h h2).setP Qg _,G2,λh h2=>(G3 h h2).setP Qg _,G4⟩,J ⟨λh=>by simp at h,λ_=>trivial⟩,J ⟨λ_=>(λ_=>⟨_,rfl,Qg.set _,(BD V ⟨w.heap.size+1+1,0,none⟩ _ _ Qj).trans y.2.1,y.2.2.2.2.2.2.1.setCell (p:=⟨w.heap.size+1+1,0,none⟩) (by show w.heap.size<=w.heap.size+1+1;omega) _,(BL V ⟨w.heap.size+1+1,0,none⟩ _).same t _ y.2.2.2.2.2.2.2 rfl⟩),λh=>by simp[S]at h⟩⟩
   . have Qf:=z.o.1 q;have h0:=b.o.2.1 (m 1 O) q;have h1:=b.o.2.2.2.1 (m 3 O) q;have Ue:=m 4 O;obtain⟨v2,rfl,ae,af,aw,ah⟩:=Qf (m 4 O);obtain⟨a9,l9,c9,rfl⟩:=Jg.form h1;have e0:=af.cell;have f0:=af.frozen;have Qj:w.heap.size+1+1≠w.heap.size+1+1+1:=Y
     clear m;refine Dm ?_;exact⟨J ⟨b.o.1,λ_ h=>by simp at h,b.o.2.2.1,λ_ h=>by simp at h,b.o.2.2.2.2⟩,J ⟨λh=>by simp[Ue]at h,λ_=>trivial⟩,J ⟨λh=>by simp at h,λ_=>⟨_,_,rfl,rfl,(BD V ⟨w.heap.size+1+1+1,0,none⟩ _ _ Qj).trans ae,af.set _,h0.setP af _,h1.setP af _,aw.setCell (p:=⟨w.heap.size+1+1+1,0,none⟩) (by show w.heap.size<=w.heap.size+1+1+1;omega) _,(BL V ⟨w.heap.size+1+1+1,0,none⟩ _).same t _ ah rfl⟩⟩⟩
   . clear m;refine Dm ?_;exact⟨J ⟨b.o.1,b.o.2.1,b.o.2.2.1,b.o.2.2.2.1,λ_=>rfl⟩,j,z⟩
  case fin1=>
   rintro E ai V am ⟨tb,tc,td,te,ta,rfl,b,j,z⟩;obtain⟨v,v',rfl,rfl,g2,g3,bn,bf,aw,ah⟩:=z.o.2 (am 5 DQ);obtain rfl:=b.o.2.2.2.2 (am 6 DQ);clear b j z am;gi_wp2;refine⟨O,.inl ⟨_,_,rfl,Bb ah,?_⟩⟩;have hg:=BV V t (.deferred none);have Qh:∀r,some t=some r->∃o:Obj,V.heap[r]?=some o/\o.isCells=false:=λr e=>by cases e;exact⟨_,ah,rfl⟩
   have q2:Boxed _ (w.heap.size+1+1) 25 v:=Xr hg Qh (show Bx V (w.heap.size+1+1) 25 #[v]from g2);have q3:Boxed _ (w.heap.size+1+1+1) 25 v':=Xr hg Qh (show Bx V (w.heap.size+1+1+1) 25 #[v']from g3);have x2:=q2.cell;have x3:=q3.cell;refine⟨.tuple #[M #[v],M #[v'],L true],by simp[results,Tryz.results22,go_sem,x2,x3],_,_,rfl,?_,?_,?_⟩
   . obtain⟨u,e,h⟩:=bn;exact⟨u,e,Ir hg Qh h⟩
   . rw[Uf.o]at bf;obtain⟨u,e,h⟩:=bf;exact⟨u,e,Ir hg Qh h⟩
   . exact aw.trans (DP (w:=w) (Aa _) _ t _ _ Qy.o ah rfl rfl)
theorem SF(A:Nat)(j l:Value)(ps qs:List Rat)(w:World)(f:Jg w j ps)(g:Jg w l qs)(hs:DZ ps)(hq:∀i,Dd A (cf qs i))(n:Jd ps=ps)(E:Jd qs=qs)
(x:qs≠[]->∀k,k<=ps.length-(qs.length-1)->∃z,z+(2*A+1)<=1000000/\(k<ps.length-(qs.length-1)->2*z+2*(2*A+1)<=1000000)/\(∀i,Dd z (cf (JE ps qs (qs.length-1) (ps.length-(qs.length-1)) k).2 i))/\∀i,Dd (z+A) (cf (JE ps qs (qs.length-1) (ps.length-(qs.length-1)) k).1 i)):
 Calls Tryz.prog 22 #[j,l] w λe b=>∃u v,e=.returned (.tuple #[u,v,L (decide (qs≠[]))])/\Jg b u (if qs=[]then []else YE ps qs)/\Jg b v (if qs=[]then []else J2 ps qs)/\Bl w b:=by
 by_cases a:qs=[]
 . subst a;refine(dE j ps l w f g).mono ?_;rintro e b ⟨rfl,h⟩;exact⟨_,_,rfl,⟨_,rfl,RowK.nil _ _⟩,⟨_,rfl,RowK.nil _ _⟩,h⟩
 . have y:decide (qs≠[])=true:=BK a;rw[y];simp only[BC a];have Q:0<qs.length:=Ar.2 a;obtain⟨o,la,p,rfl⟩:=f.form;obtain⟨q,lb,r,rfl⟩:=g.form;have c:=f.row;have d:=g.row;obtain⟨N,_⟩:=c.forms;obtain⟨P,_⟩:=d.forms;by_cases D:la<=lb-1
   . have m:ps.length-(qs.length-1)=0:=Y
     have s:YE ps qs=[]:=by unfold YE;rw[m];rfl
     have t:J2 ps qs=ps:=by unfold J2;rw[m];exact n
     rw[s,t];exact dF o q la p lb r (lb-1) ps qs w c d hs n Y D
   . exact dD A o q la p lb r (lb-1) (la-(lb-1)) ps qs w c d hq E a (λk K=>by rw[show lb-1=qs.length-1 by omega,show la-(qs.length-1)=ps.length-(qs.length-1)by omega];exact x a k Y) Y Y Y
def KT(ps:List Rat)(n i:Nat)(S:List Rat):Prop:=S.length=n/\∀j,cf S j=if j<i then E0 ps j else 0
theorem KT.next{i:Nat}(h:KT ps n i S)(b:i<n):KT ps n (i+1) (S.set i (E0 ps i)):=by
 refine⟨by rw[Cr];exact h.1,λj=>?_⟩;rw[XC _ _ _ _ (by rw[h.1];exact b),h.2 j];by_cases e:j=i
 . rw[BG e,BG Y,e]
 . rw[BC e];by_cases a:j<i
   . rw[BG a,BG Y]
   . rw[BC a,BC Y]
theorem KT.done(h:KT ps n n S)(a:n=ps.length-1):Jd S=Jj ps:=YB λj=>by
 rw[h.2 j,Kd];split
 . rfl
 . rw[J1 (p:=ps) Y,CJ]
theorem OY(v:Value)(ps:List Rat)(w:World)(h:Jg w v ps)(bc:DZ ps)(bf:∀i,Sq (E0 ps i)):
 Calls Tryz.prog 24 #[v] w λe w'=>∃u,e=.returned u/\Jg w' u (Jj ps)/\Bl w w':=by
 have Qr:Tryz.prog.follows .mixedOrders=true:=by kernel_rfl
 obtain⟨o,la,k,rfl⟩:=h.form;have ha:=h.row;obtain⟨ay,bi,bj,bu,s,t,aa,bb,ll,cc,kk,dd,aq⟩:=ha.forms;have M0:Mem w _ _:=((Mem.nil w).push (.cell 25 (B o la k)) (cs:=#[B o la k]) ⟨rfl,rfl⟩).push (.cell 25 (B none 0 0)) (cs:=#[B none 0 0]) ⟨rfl,rfl⟩;simp only[A1]at M0;obtain⟨V0,af⟩:=ex ((w.alloc (G #[B o la k] 25)).alloc (G #[B none 0 0] 25));have M1:Mem w V0 [some (w.heap.size,.cell 25 (B o la k)),some (w.heap.size+1,.cell 25 (B none 0 0))]:=by rw[<-af];exact M0
 have Qj:=J M1;obtain⟨d,hd⟩:=ex ((ps.length:Int)-1:Int);have Qi:=J (YA (M #[B o la k]) ps V0 (h.below M1.2.2));rw[hd]at Qi;obtain⟨n,hn⟩:=ex (ps.length-1:Nat);have Qf:max (0:Int) d=(n:Int):=Y
 have Qt:∀W:World,(Instr.makeSlice 23 (H I (n:Int)) (H I (n:Int))).run Tryz.prog W=.ok (B (some ⟨W.heap.size,0,none⟩) n n) (W.alloc (G (Ye n) 65)):=λW=>KB n Y W;obtain⟨HP,Qn,Qp,HN⟩:=EB aq bc bf (show n=ps.length-1/\la=ps.length from⟨hn.symm,ay⟩);have Qe:n<=1099511627776:=Y
 have Ql:=J af;clear h ha aq bc bf ay bi bj hn hd M0 M1 af;go_enter Tryz.func24,Tryz.ntmps24
 go_upto_region 1 with fail
 rw[Ql.o];have c0:=(Qj.o.cell (i:=0) rfl).1.cell;go_upto_region 2 with(go_at_call 20;refine Qi.o.mono ?_;clear Qi;rintro e w1 ⟨rfl,ap⟩)
 have Qg:Mem w (w1.alloc (G (Ye n) 65)) [some (w.heap.size,.cell 25 (B o la k)),some (w.heap.size+1,.cell 25 (B none 0 0)),some (w1.heap.size,.rats (List.replicate n 0))]:=(Qj.o.below ap).push (.rats (List.replicate n 0)) (LB _ n);obtain⟨V1,ah⟩:=ex (w1.alloc (G (Ye n) 65));obtain⟨l,aj⟩:=ex (w1.heap.size);rw[ah,aj]at Qg;rw[ah,aj];have Qk:=J Qg;clear Qg ah aj ap c0 Qj Ql Qt Qf;go_wp2;go_loopw [11] (λiv wr=>∃(i:Nat) (S:List Rat),i<=n/\iv=H I (i:Int)/\Hid (KT ps n i S)/\Hid (Mem w wr [some (w.heap.size,.cell 25 (B o la k)),some (w.heap.size+1,.cell 25 (B none 0 0)),some (l,.rats S)])) λiv _=>n-(intOf iv).toNat
 case atStart=>exact⟨0,_,AK _,rfl,J ⟨Au,λj=>by rw[JO,BC Y]⟩,Qk⟩
 case round=>
  obtain⟨i,S,P,rfl,q,N⟩:=hrel;clear Qk;by_cases az:i<n
  . have ce:(i:Int)<(n:Int):=Y
    obtain⟨K,hK⟩:=ex (i+1:Nat);have bk:(i:Int)+1=(K:Int):=Y
    have bn:IntKind.i64.wrap (K:Int)=(K:Int):=by rw[BS];omega
    have bm:(K:Int)<(la:Int):=by have:=HN.o;omega
    obtain⟨aw,f,rfl,A,p0,p1,p2,p3⟩:=HP.o K (by have:=HN.o;omega);have Qu:=J (show ∀V,Bl w V->(V.cell? ⟨f,K*4,none⟩=some (L (s K))/\V.cell? ⟨f,K*4+1,none⟩=some (B (aa K) (ll K) (cc K))/\V.cell? ⟨f,K*4+2,none⟩=some (L (t K))/\V.cell? ⟨f,K*4+3,none⟩=some (B (bb K) (kk K) (dd K)))/\Jk V (M #[L (s K),B (aa K) (ll K) (cc K),L (t K),B (bb K) (kk K) (dd K)]) (cf ps K)from λV y=>by
     exact⟨⟨(y.cell (p:=⟨f,_,none⟩) A).trans p0,(y.cell (p:=⟨f,_,none⟩) A).trans p1,(y.cell (p:=⟨f,_,none⟩) A).trans p2,(y.cell (p:=⟨f,_,none⟩) A).trans p3⟩,aw.below y⟩)
    have Qd:=J (show K<=1099511627776/\K=i+1 by omega);have Qs:=J (show cf ps K*((K:Int):Rat)=E0 ps i by rw[Qd.o.2];rfl);have Qm:=J (show i<S.length by rw[q.o.1];exact az);clear aw A p0 p1 p2 p3 hK;go_wp2_with fail
    have Qo:=N.o.drew;refine Jl Qr [[],[],[],[2],[],[4],[3,5],[6],[],[8],[9],[7,10,10],[0,1,0,1,2,3,4,5,6,7,8,9,10,11],[12,11,11,0,1,2,3,4,5,6,7,8,9,10,11]] (by kernel_rfl) DQ
     (λD ae V=>∃(ta tb R T U X tg ti tj tk tl tm tn:Value),ae={ tmps:=#[M #[B (some ⟨f,0,none⟩) la k],F (some ⟨w.heap.size,0,none⟩),F (some ⟨w.heap.size+1,0,none⟩),B (some ⟨l,0,none⟩) n n,H I ↑i,M #[B (some ⟨f,0,none⟩) la k],H I d,H I ↑n,B (some ⟨l,0,none⟩) n n,B (some ⟨l,0,none⟩) n n,H I ↑n,H I ↑i,L true,H I ↑i,ta,tb,R,T,U,X,tg,ti,tj,tk,tl,tm,tn,u27,C,C],defers:=[] }/\Hid ((D 0=true->ta=B (some ⟨l,0,none⟩) n n)/\(D 1=true->tb=H I (i:Int))/\(D 2=true->R=F (some ⟨w.heap.size,0,none⟩))/\(D 3=true->T=B (some ⟨f,0,none⟩) la k)/\(D 4=true->U=H I (i:Int))/\(D 5=true->X=H I (K:Int))/\(D 6=true->tg=F (some ⟨f,K*4,none⟩))/\(D 7=true->D 13=false->Jk V ti (cf ps K))/\(D 8=true->tj=H I (i:Int))/\(D 9=true->tk=H I (K:Int))/\(D 10=true->D 13=false->Jk V tl ((K:Int):Rat))/\(D 11=true->D 13=false->Jk V tm (E0 ps i))/\(D 12=true->tn=F (some ⟨l,i*4,none⟩)))/\Hid ((D 13=false->Mem w V [some (w.heap.size,.cell 25 (B (some ⟨f,0,none⟩) la k)),some (w.heap.size+1,.cell 25 (B none 0 0)),some (l,.rats S)])/\(D 13=true->Mem w V [some (w.heap.size,.cell 25 (B (some ⟨f,0,none⟩) la k)),some (w.heap.size+1,.cell 25 (B none 0 0)),some (l,.rats (S.set i (E0 ps i)))])))
     (E8 ⟨_,_,_,_,_,rfl,J O,J ⟨λ_=>Qo,O⟩⟩) ?step1 ?fin1
    case step1=>
     rintro D ae V i ds ai P b z ⟨ta,tb,R,T,U,X,tg,ti,tj,tk,tl,tm,tn,rfl,a,c⟩;have bt:i<14:=(Ac.1 P).1;obtain rfl|rfl|rfl|rfl|rfl|rfl|rfl|rfl|rfl|rfl|rfl|rfl|rfl|rfl:=F0 i Y
     all_goals
      simp only[Af,Ae,Ag]at P;subst P
     . clear b;refine DT ?_;exact⟨(Dg a),c⟩
     . clear b;refine DT ?_;exact⟨(Do a),c⟩
     . clear b;refine DT ?_;exact⟨(Df a),c⟩
     . have r:=c.o.1 (DR ai z);obtain rfl:=a.o.2.2.1 (b 2 O);have e0:=(r.cell (i:=0) rfl).1.cell;clear b;refine DT ?_;exact⟨(Dj (Df a)),c⟩
     . clear b;refine DT ?_;exact⟨(Dz a),c⟩
     . obtain rfl:=a.o.2.2.2.2.1 (b 4 O);clear b;refine DT ?_;exact⟨(D0 (Dz a)),c⟩
     . obtain rfl:=a.o.2.2.2.1 (b 3 O);obtain rfl:=Dp a (b 5 O);clear b;refine DT ?_;exact⟨(Dx (D0 (Dj a))),c⟩
     . have r:=c.o.1 (DR ai z);obtain rfl:=Ds a (b 6 O);obtain⟨⟨e0,e1,e2,e3⟩,hr⟩:=Qu.o V r.2.2;clear b;refine DT ?_;exact⟨(ED (Dx a) λ_ _=>hr),c⟩
     . clear b;refine DT ?_;exact⟨(EK a),c⟩
     . obtain rfl:=D6 a (b 8 O);clear b;refine DT ?_;exact⟨(Es (EK a)),c⟩
     . obtain rfl:=EE a (b 9 O);clear b;have E:=J (RK (K:Int) Y (by have:=Qd.o;omega) V);refine Jb rfl rfl λK hK=>?_;go_simp;go_wp2_with(go_at_call 54;refine E.o.mono ?_;rintro e w5 ⟨v5,rfl,am,g⟩)
       obtain⟨G0,G1,G2,G3,G4,G5,G6,G7,G8,_,_,bh,ad⟩:=a.o;exact E8 ⟨_,_,_,_,_,rfl,J ⟨G0,G1,G2,G3,G4,G5,G6,λh m=>(G7 h m).below g,G8,λ_=>rfl,λ_ _=>am,λh m=>(bh h m).below g,ad⟩,J ⟨λh=>(c.o.1 h).below g,λh=>(c.o.2 h).below g⟩⟩
     . have Qa:D 13=false:=DR ai z;have x:=Du a (b 7 O) Qa;have h1:=Dr a (b 10 O) Qa;clear b;have E:=J (Kz _ _ (cf ps K) ((K:Int):Rat) V x h1 (Qn.o.at K) (Rr Qd.o.1));rw[Qs.o]at E;clear x h1;refine Jb rfl rfl λK hK=>?_;go_simp;go_wp2_with(go_at_call 52;refine E.o.mono ?_;rintro e w5 ⟨v5,rfl,am,g⟩)
       obtain⟨G0,G1,G2,G3,G4,G5,G6,G7,G8,G9,bg,_,ad⟩:=a.o;exact E8 ⟨_,_,_,_,_,rfl,J ⟨G0,G1,G2,G3,G4,G5,G6,λh m=>(G7 h m).below g,G8,G9,λh m=>(bg h m).below g,λ_ _=>am,ad⟩,J ⟨λh=>(c.o.1 h).below g,λh=>(c.o.2 h).below g⟩⟩
     . obtain rfl:=a.o.1 (b 0 O);obtain rfl:=a.o.2.1 (b 1 O);clear b;refine DT ?_;exact⟨(Hn (Do (Dg a))),c⟩
     . have r:=c.o.1 z;have x:=Ee a (b 11 O) z;obtain rfl:=a.o.2.2.2.2.2.2.2.2.2.2.2.2 (b 12 O);have hE:=r.rats (i:=2) rfl;obtain⟨xa,xb,xc,xd,e0,e1,e2,e3,_⟩:=hE.at Qm.o;have f0:=hE.frozen (i*4);have f1:=hE.frozen (i*4+1);have f2:=hE.frozen (i*4+2);have f3:=hE.frozen (i*4+3);obtain⟨s9,a9,l9,c9,t9,b9,k9,d9,rfl⟩:=Jk.form x;clear b;refine DT ?_;exact⟨(Hn (D9 (D8 (ED a λ_ h=>by simp at h) λ_ h=>by simp at h) λ_ h=>by simp at h)),J ⟨λh=>by simp at h,λ_=>r.putRats (i:=2) rfl Qm.o x⟩⟩
    case fin1=>
     rintro D ae V an ⟨ta,tb,R,T,U,X,tg,ti,tj,tk,tl,tm,tn,rfl,a,c⟩;have HO:=J (c.o.2 (an 13 DQ));clear a c an;go_wp2_with fail
     go_roundw
     case rel=>exact⟨i+1,_,Y,by go_num,J (q.o.next az),HO⟩
     case measure=>simp[intOf];omega
  . obtain rfl:i=n:=Y
    have hE:=N.o.rats (i:=2) rfl;have Qc:=hE.row (n:=i) (cap:=i) (by rw[q.o.1];exact Aa _) (Aa _) Y Qe;rw[Ad (by rw[q.o.1];exact Aa _)]at Qc;have Qh:=J (Ha _ S wr Qc (DZ.of λj=>by
     rw[q.o.2 j];split
     . exact Qp.o j
     . exact Ip))
    rw[q.o.done HN.o.1]at Qh;clear hE Qc;go_wp2_with(go_at_call 27;refine Qh.o.mono ?_;clear Qh;rintro e w5 ⟨u5,rfl,ak,_,g⟩;obtain⟨a7,l7,c7,rfl⟩:=ak.form;have Q:=boxed_below (N.o.cell (i:=1) rfl).1 g;have x0:=Q.cell;have x1:=Q.frozen;have Qv:=J (FX Q (B a7 l7 c7) ak.row);have Qq:=J ((Bt N.o.2.2 g).setCell (p:=⟨w.heap.size+1,0,none⟩) (by show w.heap.size<=w.heap.size+1;omega) (B a7 l7 c7));clear ak g Q)
    exact BA (v:=M #[B a7 l7 c7]) (by simp[results,Tryz.results24,go_sem,x0]) rfl ⟨_,rfl,⟨_,rfl,Qv.o⟩,Qq.o⟩
end M3
section
open Go.RowKit Go.Shelf
def CD(D:Int)(K:Nat)(c:Rat):Prop:=∃n:Int,c=Rat.divInt n D/\Sm K n
section
variable {D E:Int} {K M:Nat} {c d:Rat}
theorem CD.mono(h:CD D K c)(a:K<=M):CD D M c:=by
 obtain⟨n,e,h⟩:=h;exact⟨n,e,h.mono a⟩
theorem CD.smq(h:CD D K c)(hD:D≠0)(hs:Sm K D):Dd K c:=by
 obtain⟨n,rfl,h⟩:=h;exact Dd.divInt hD h hs
theorem CD.zero(D:Int)(K:Nat):CD D K 0:=⟨0,by rw[Rat.zero_divInt],Sm.zero K⟩
theorem CD.add(h:CD D K c)(a:CD D M d)(hD:D≠0):CD D (max K M+1) (c+d):=by
 obtain⟨n,rfl,h⟩:=h;obtain⟨m,rfl,a⟩:=a;refine⟨n+m,?_,?_⟩
 . rw[FG _ _ hD hD,<-Int.add_mul,CZ hD]
 . exact(h.mono (Nat.le_max_left ..)).add (a.mono (Nat.le_max_right ..))
theorem CD.mul(h:CD D K c)(a:CD E M d):CD (D*E) (K+M) (c*d):=by
 obtain⟨n,rfl,h⟩:=h;obtain⟨m,rfl,a⟩:=a;exact⟨n*m,by rw[CV],h.mul a⟩
theorem CD.wide(h:CD D K c)(hE:Sm M E)(a:E≠0):CD (D*E) (K+M) c:=by
 obtain⟨n,rfl,h⟩:=h;exact⟨n*E,by rw[CZ a],h.mul hE⟩
end
def EJ(D:Int)(K:Nat)(ps:List Rat):Prop:=∀i,CD D K (cf ps i)
variable{D:Int}{ps qs:List Rat}{K:Nat}
theorem SH(hD:D≠0)(h:∀i j,CD D K (cf ps i*cf qs j))(n:Nat):∀(i k:Nat),CD D (K+min i ps.length) (cf (Yv ps qs n i) k):=by
 intro i;induction i with
 |zero=>intro k;rw[Yv,JO];exact CD.zero _ _
 |succ i a=>
  intro k;rw[Yv];rcases Xn (Yv ps qs n i) i (cf ps i) qs qs.length k with e|e
  . rw[e];exact(a k).mono Y
  . rw[e];by_cases b:i<ps.length
    . exact((a k).add (h i (k-i)) hD).mono Y
    . rw[J1 (p:=ps) Y,CJ,FM];exact(a k).mono Y
theorem dG(hD:D≠0)(hs:Sm 1000000 D)(h:∀i j,CD D K (cf ps i*cf qs j))(d:K+ps.length+1<=1000000):M3.X1 ps qs:=by
 have hq:∀c,CD D (K+ps.length+1) c->Sq c:=λc b=>Sq.of ((b.mono d).smq hD hs) (Aa _);refine⟨λi j=>hq _ ((h i j).mono Y),λn i j k=>?_⟩;have a:=SH hD h n i k;rcases Xn (Yv ps qs n i) i (cf ps i) qs j k with e|e
 . rw[e];exact hq _ (a.mono Y)
 . rw[e];exact hq _ ((a.add (h i (k-i)) hD).mono Y)
theorem dH(hD:D≠0)(h:∀i j,CD D K (cf ps i*cf qs j)):EJ D (K+ps.length) (JQ ps qs):=λk=>by
 unfold JQ;rw[JU,IW];have a:=SH hD h (ps.length+qs.length) ps.length k;rwa[Mx _ _ _ _ _ (Or.inr Y),Nat.min_self]at a
theorem SI(p q:List Rat):(JQ p q).length<=p.length+q.length:=Xx (X9 _ _) λi a=>by unfold JQ;rw[JU,IW,Rs p q a]
theorem Sm.powZ{A:Nat}{v:Int}(h:Sm A v):∀n,Sm (n*A+1) (v^n):=by
 intro n;induction n with
 |zero=>rw[Int.pow_zero];exact Sm.one _ Y
 |succ n a=>rw[Int.pow_succ,Ay,show n*A+1*A+1=n*A+1+A by omega];exact a.mul h
end
section
open Go.RowKit Go.Shelf
variable{D:Int}{K:Nat}
theorem SJ{c:Rat}(h:CD D K c):CD D K (-c):=by
 obtain⟨n,rfl,h⟩:=h;exact⟨-n,by rw[<-Rat.neg_divInt],by unfold Sm at h ⊢;rwa[Fq]⟩
theorem SK{E l:Int}{A:Nat}{ps qs:List Rat}{n m:Nat}(hD:D≠0)(hp:EJ D K ps)(hE:E≠0)(S:Sm A E)(hq:EJ E A qs)(b:l≠0)(hl:Sm A l)(P:cf qs n=Rat.divInt l E)(N:cf qs n≠0):
 ∀k,EJ (D*l^k) (K+k*(A+1)) (JE ps qs n m k).2/\EJ (D*l^k) (K+k*(A+1)) (JE ps qs n m k).1:=by
 intro k;induction k with
 |zero=>
  rw[Int.pow_zero,Int.mul_one];exact⟨λi=>(hp i).mono Y,λi=>by rw[JE,JO];exact CD.zero _ _⟩
 |succ k U=>
  obtain⟨d,g⟩:=U;have w:D*l^k≠0:=Co hD (Int.pow_ne_zero b);have e:D*l^(k+1)=D*l^k*l:=by rw[Int.pow_succ,CP]
  rw[e];have v:D*l^k*l≠0:=Co w b;obtain⟨R,p⟩:=ex ((JE ps qs n m k).2);obtain⟨Q,o⟩:=ex ((JE ps qs n m k).1);rw[p]at d;rw[o]at g;obtain⟨r,z,s⟩:=d (m-(k+1)+n);obtain⟨c,q⟩:=ex (cf R (m-(k+1)+n)/cf qs n);have f:c=Rat.divInt (r*E) (D*l^k*l):=by
   rw[<-q];have y:cf R (m-(k+1)+n)=Rat.divInt (r*E) (D*l^k*l)*cf qs n:=by
    rw[P,CV,z,show r*E*l=r*(E*l)from CP _ _ _,show D*l^k*l*E=D*l^k*(E*l)by rw[CP (D*l^k),Fk l E],CZ (Co hE b)]
   rw[y,Rat.mul_div_cancel N]
  have t:CD (D*l^k*l) (K+(k+1)*(A+1)) c:=⟨r*E,f,(s.mul S).mono (by rw[Ay];omega)⟩;have u:∀j,CD (D*l^k*l) (K+k*(A+1)+A) (c*cf qs j):=λj=>by
   obtain⟨x,ex,T⟩:=hq j;refine⟨r*x,?_,s.mul T⟩;rw[f,ex,CV,show r*E*x=r*x*E by rw[CP,Fk E x,CP],CZ hE]
  rw[JE,p,o];simp only[q];refine⟨λi=>?_,λi=>?_⟩
  . rcases Xn R (m-(k+1)) (-c) qs qs.length i with a|a
    . rw[a];exact((d i).wide hl b).mono (by rw[Ay];omega)
    . rw[a,Rat.neg_mul];exact(((d i).wide hl b).add (SJ (u _)) v).mono (by rw[Ay];omega)
  . rcases M3.dB Q (m-(k+1)) c i with a|a
    . rw[a];exact t
    . rw[a];exact((g i).wide hl b).mono (by rw[Ay];omega)
end
variable{D:Int}{a b p q:List Rat}{K n:Nat}{f g:Nat->Int}{c d:Rat}
theorem dI:∀(n:Nat) (f:Nat->Nat),(∀i,i<=n->f i<n)->∃i j,i<j/\j<=n/\f i=f j:=by
 intro n;induction n with
 |zero=>intro f h;exact absurd (h 0 (Aa _)) Y
 |succ n o=>
  intro f h;by_cases k:∃i,i<=n/\f i=f (n+1)
  . obtain⟨i,d,a⟩:=k;exact⟨i,n+1,Y,Aa _,a⟩
  . have c:∀i,i<=n->f i≠f (n+1):=λi b e=>k ⟨i,b,e⟩;obtain⟨i,j,d,a,g⟩:=o (λi=>if f i=n then f (n+1)else f i) (λi b=>by
     have l:=h i Y;have m:=h (n+1) (Aa _);have p:=c i b;split<;>omega)
    refine⟨i,j,d,Y,?_⟩;have l:=c i Y;have m:=c j a;split at g<;>split at g<;>omega
def enc(b:Nat):Nat->(Nat->Nat)->Nat
 |0,_=>0
 |m+1,d=>enc b m d+d m*b^m
theorem OZ{b:Nat}{M:Nat}{d:Nat->Nat}(h:∀k,k<M->d k<b):enc b M d<b^M:=by
 induction M with
 |zero=>simp[enc]
 |succ M e=>
  have f:=e λk g=>h k Y;have a:=h M Y;have c:(d M+1)*b^M<=b*b^M:=Ak _ a;rw[enc,AQ,As (b^M) b];rw[Ay,Cw]at c;omega
theorem dJ{b:Nat}{M:Nat}{d a:Nat->Nat}(h:∀k,k<M->d k<b)(g:∀k,k<M->a k<b)(e:enc b M d=enc b M a):∀k,k<M->d k=a k:=by
 induction M with
 |zero=>intro k c;omega
 |succ M j=>
  have l1:=OZ (λk c=>h k Y:∀k,k<M->d k<b);have l2:=OZ (λk c=>g k Y:∀k,k<M->a k<b);have hp:0<b^M:=Y
  rw[enc,enc]at e;have f:d M=a M:=by
   have f1:(enc b M d+d M*b^M)/b^M=d M:=by rw[FF _ _ hp,Cb l1];omega
   have f2:(enc b M a+a M*b^M)/b^M=a M:=by rw[FF _ _ hp,Cb l2];omega
   rw[<-f1,<-f2,e]
  intro k c;by_cases i:k=M
  . rw[i];exact f
  . exact j (λk c=>h k Y) (λk c=>g k Y) (by rw[f]at e;omega) k Y
def Em(b x j:Nat):Nat:=x/b^j%b
theorem dK{b:Nat}(a:0<b)(x j:Nat):Em b x j<b:=A7 _ a
theorem SL(b x:Nat):∀N,enc b N (Em b x)=x%b^N:=by
 intro N;induction N with
 |zero=>simp[enc,Nat.mod_one]
 |succ N a=>rw[enc,a,Nat.mod_pow_succ,As (Em b x N)];rfl
def Xc:Nat->(Nat->Int)->Int
 |0,_=>0
 |n+1,f=>Xc n f+f n
theorem SM(h:∀k,k<n->f k=g k):Xc n f=Xc n g:=by
 induction n with
 |zero=>rfl
 |succ n a=>rw[Xc,Xc,a λk b=>h k Y,h n Y]
theorem dL(n:Nat)(f g:Nat->Int):Xc n (λk=>f k-g k)=Xc n f-Xc n g:=by
 induction n with
 |zero=>rfl
 |succ n a=>rw[Xc,Xc,Xc,a];omega
theorem Oa{C:Nat}(h:∀k,k<n->(f k).natAbs<=C):(Xc n f).natAbs<=n*C:=by
 induction n with
 |zero=>simp[Xc]
 |succ n a=>
  have b:=a λk d=>h k Y;have c:=h n Y;rw[Xc,Ay,Cw];have:=Int.natAbs_add_le (Xc n f) (f n);omega
theorem dM(N A:Nat)(c:Nat->Nat->Int)(w:∀k j,(c k j).natAbs<=A):
 ∃z:Nat->Int,(∃j,j<N+1/\z j≠0)/\(∀j,(z j).natAbs<=(2*(N+1)*A+1)^N)/\∀k,k<N->Xc (N+1) (λj=>c k j*z j)=0:=by
 obtain⟨B,l⟩:=ex ((2*(N+1)*A+1)^N);have o:1<=B:=by rw[<-l];exact Fl Y
 obtain⟨C,m⟩:=ex ((N+1)*(A*B));have d:∀x j,Em (B+1) x j<=B:=λx j=>by have:=dK (b:=B+1) Y x j;omega
 have v:∀x k,(Xc (N+1) λj=>c k j*(Em (B+1) x j:Int)).natAbs<=C:=λx k=>by
  rw[<-m];refine Oa λj _=>?_;rw[CX,AP];exact CC (w k j) (d x j)
 obtain⟨g,a⟩:∃g:Nat->Nat->Nat,∀x k,(g x k:Int)=Xc (N+1) (λj=>c k j*(Em (B+1) x j:Int))+C/\g x k<2*C+1:=
  ⟨λx k=>(Xc (N+1) (λj=>c k j*(Em (B+1) x j:Int))+C).toNat,λx k=>by have:=v x k;dsimp only;omega⟩
 have T:(2*C+1)^N<(B+1)^(N+1):=by
  have f:2*C+1<=(2*(N+1)*A+1)*B:=by
   have p:2*C=2*(N+1)*A*B:=by rw[<-m];simp only[Az]
   rw[p,Ay,Cw];exact Nat.add_le_add_left o _
  have i:(2*C+1)^N<=B^(N+1):=by
   refine Aq (CR f N) ?_;rw[Nat.mul_pow,l,AQ,As];exact Aa _
  exact Ct i (Nat.pow_lt_pow_left Y Y)
 obtain⟨x,y,f,i,q⟩:=dI ((2*C+1)^N) (λx=>enc (2*C+1) N (g x)) λx _=>OZ λk _=>(a x k).2;have r:=dJ (λk _=>(a x k).2) (λk _=>(a y k).2) q;refine⟨λj=>(Em (B+1) x j:Int)-(Em (B+1) y j:Int),?_,λj=>?_,λk E=>?_⟩
 . by_cases n:∃j,j<N+1/\(Em (B+1) x j:Int)-(Em (B+1) y j:Int)≠0
   . exact n
   . exfalso
     have s:∀j,j<N+1->Em (B+1) x j=Em (B+1) y j:=λj D=>by
      by_cases e:Em (B+1) x j=Em (B+1) y j
      . exact e
      . exact absurd ⟨j,D,Y⟩ n
     have t:∀M,M<=N+1->enc (B+1) M (Em (B+1) x)=enc (B+1) M (Em (B+1) y):=λM=>by
      induction M with
      |zero=>intro _;rfl
      |succ M K=>intro S;rw[enc,enc,K Y,s M Y]
     have u:=t (N+1) (Aa _);rw[SL,SL,Cm Y,Cm Y]at u;omega
 . have:=d x j;have:=d y j;dsimp only;omega
 . have Q:=r k E;have R:=(a x k).1;have P:=(a y k).1;rw[show(λj=>c k j*((Em (B+1) x j:Int)-(Em (B+1) y j:Int)))=(λj=>c k j*(Em (B+1) x j:Int)-c k j*(Em (B+1) y j:Int))from funext λj=>Int.mul_sub _ _ _,dL];omega
theorem dN(p q:List Rat):(J3 p q).length<=max p.length q.length:=Xx (I0 _ _) λi a=>by rw[Kf,J1 Y,J1 Y,Rat.sub_self]
def Dn(c:Rat)(p:List Rat):List Rat:=Jd (YL c p)
theorem Yc(c:Rat)(p:List Rat):Jd (Dn c p)=Dn c p:=Yi _
theorem Y6(c:Rat)(p:List Rat)(i:Nat):cf (Dn c p) i=cf p i*c:=by unfold Dn;rw[JU,Y9]
theorem Xd(c:Rat)(p:List Rat)(x:Rat):ev (Dn c p) x=ev p x*c:=by unfold Dn;rw[Hg,XJ]
theorem Hx{a b:Rat}(c:a≠0)(d:b≠0):a*b≠0:=λh=>by
 rcases FS.1 h with h|h
 . exact c h
 . exact d h
theorem dO(h:cf p n≠0):n<p.length:=by
 by_cases a:n<p.length
 . exact a
 . exact absurd (J1 Y) h
theorem Yk(d:c≠0)(hp:Jd p=p):(Dn c p).length=p.length:=by
 refine FR (Xx (Yc _ _) λi e=>by rw[Y6,J1 e,CJ]) ?_;by_cases a:p=[]
 . rw[a];exact AK _
 . have b:=JB hp a;have f:0<p.length:=Ar.2 a;have g:=dO (p:=Dn c p) (n:=p.length-1) (by rw[Y6];exact Hx b d);omega
theorem Ob(c d:Rat)(p:List Rat):Dn c (Dn d p)=Dn (d*c) p:=IC (Yc _ _) (Yc _ _) λx=>by rw[Xd,Xd,Xd];grind
theorem LD(hp:Jd p=p):Dn 1 p=p:=IC (Yc _ _) hp λx=>by rw[Xd];grind
theorem dP(c:Rat):Dn c []=[]:=rfl
theorem Mb(b:c≠0)(hp:Jd p=p)(a:p≠[]):Dn c p≠[]:=λh=>by
 have:=Yk b hp;rw[h]at this;exact a (List.length_eq_zero_iff.1 this.symm)
theorem XP(hp:Jd p=p)(hq:Jd q=q)(a:p≠[])(b:q≠[]):(JQ p q).length=p.length+q.length-1:=Ox hp hq a b
theorem Mc(h:p.length=0):p=[]:=List.length_eq_zero_iff.1 h
theorem Oc{u v:List Rat}(hq:Jd q=q)(a:q≠[])(f:Jd u=u)(g:Jd v=v)(i:v.length<q.length)(h:∀x,ev p x=ev q x*ev u x+ev v x):u=YE p q/\v=J2 p q:=by
 obtain⟨b,c,d,e⟩:=YF p q hq a;exact Oy hq a f d g e i c (λx=>by rw[<-h x,b x])
theorem Md(a:d≠0)(p q:List Rat)(hq:Jd q=q)(b:q≠[]):YE (Dn c p) (Dn d q)=Dn (c/d) (YE p q)/\J2 (Dn c p) (Dn d q)=Dn c (J2 p q):=by
 obtain⟨e,f,j,k⟩:=YF p q hq b;have h:=Oc (p:=Dn c p) (Yc d q) (Mb a hq b) (Yc (c/d) (YE p q)) (Yc c (J2 p q)) (by
  rw[Yk a hq];exact Ct (Xx (Yc _ _) λi g=>by rw[Y6,J1 g,CJ]) f) (λx=>by
  rw[Xd,Xd,Xd,Xd,e x];have:d*(c/d)=c:=by rw[Rat.mul_comm];exact Cp a
  grind)
 exact⟨h.1.symm,h.2.symm⟩
inductive Eu:List Rat->List Rat->List Rat->List Rat->Prop
 |base (p q:List Rat):Eu p q p q
 |step (p q:List Rat) (c:Rat) (a b:List Rat):q≠[]->c≠0->Eu q (Dn c (J2 p q)) a b->Eu p q a b
theorem Eu.tail(h:Eu p q a b)(e:b≠[])(f:c≠0):Eu p q b (Dn c (J2 a b)):=by
 induction h with
 |base p q=>exact .step p q c _ _ e f (.base _ _)
 |step p q d a b hq g _ i=>exact .step p q d _ _ hq g (i e)
theorem YR(p q:List Rat):Jd (J2 p q)=J2 p q:=Yi _
theorem SN(p q:List Rat):Jd (YE p q)=YE p q:=Yi _
theorem Eu.len(h:Eu p q a b):Jd q=q->b.length<=q.length:=by
 induction h with
 |base p q=>exact λ_=>Aa _
 |step p q d a b hq f _ g=>
  intro c;have e:=g (Yc _ _);rw[Yk f (YR _ _)]at e;have:=(YF p q c hq).2.1;omega
theorem dQ(h:Eu p q a b):Jd p=p->Jd q=q->b≠[]->∀u v T:List Rat,Jd u=u->Jd v=v->Jd T=T->u.length+b.length<=q.length+1->v.length+b.length<=p.length+1->(u≠[]\/v≠[])->T.length<b.length->
 (∀x,ev T x=ev u x*ev p x+ev v x*ev q x)->∃c:Rat,c≠0/\T=Dn c (J2 a b):=by
 induction h with
 |base p q=>
  intro hp hq g u v T i w m N lv f o n;have S:u.length<=1:=Y
  obtain⟨A,W,X,h4⟩:=YF p q hq g;match u,S,f with
  |[],_,f=>
   have l:v≠[]:=by
    rcases f with f|f
    . exact absurd rfl f
    . exact f
   have e:T=JQ v q:=IC m (X9 _ _) λx=>by rw[Xf,n x];simp[ev];grind
   have h5:=XP w hq l g;have h6:0<v.length:=Ar.2 l;rw[e]at o;omega
  |[c],_,_=>
   have hc:c≠0:=λe=>by
    have:=JB i O;simp[Xo]at this;exact this e
   refine⟨c,hc,?_⟩;have P:∀x,ev (Dn c p) x=ev q x*ev (Dn (-1) v) x+ev T x:=λx=>by
    rw[Xd,Xd,n x];simp[ev];grind
   have h7:=(Oc hq g (Yc _ _) m o P).2;have D:=(Md (c:=c) (d:=1) DQ p q hq g).2;rw[LD hq]at D;rw[h7,D]
 |step p q d a b g hd hE K=>
  intro hp hq hb u v T i w m N lv f o n;obtain⟨A,W,X,h4⟩:=YF p q hq g;obtain⟨r,t⟩:=ex (Dn d (J2 p q));rw[t]at hE K;have s:Jd r=r:=by rw[<-t];exact Yc _ _
  have U:b.length<=r.length:=hE.len s;have R:r≠[]:=λe=>by
   rw[e,AD]at U;omega
  have y:d*(1/d)=1:=by rw[Rat.mul_comm];exact Cp hd
  have k:(1/d)≠0:=λe=>by rw[e,FV]at y;exact absurd y DQ
  have Q:∀x,ev p x=ev q x*ev (YE p q) x+ev r x*(1/d):=λx=>by rw[A x,<-t,Xd];grind
  have z:∀x,ev T x=ev (ES (JQ u (YE p q)) v) x*ev q x+ev (Dn (1/d) u) x*ev r x:=λx=>by
   rw[n x,Q x,Ke,Xf,Xd];grind
  have ad:(Dn (1/d) u).length+b.length<=q.length+1:=by rw[Yk k i];exact N
  refine K hq s hb (ES (JQ u (YE p q)) v) (Dn (1/d) u) T (X8 _ _) (Yc _ _) m ?_ ad ?_ o z
  . by_cases E:ES (JQ u (YE p q)) v=[]
    . rw[E];simp;omega
    . have l1:=XP (X8 _ _) hq E g;have e:JQ (ES (JQ u (YE p q)) v) q=J3 T (JQ (Dn (1/d) u) r):=IC (X9 _ _) (I0 _ _) λx=>by rw[Xf,LV,Xf,z x];grind
      have l2:=dN T (JQ (Dn (1/d) u) r);rw[<-e,l1]at l2;by_cases j:u=[]
      . have V:JQ (Dn (1/d) u) r=[]:=by rw[j];rfl
        rw[V]at l2;simp at l2;omega
      . have l4:=XP (Yc _ _) s (Mb k i j) R;rw[Yk k i]at l4;omega
  . by_cases j:u=[]
    . left
      have l:v≠[]:=by
       rcases f with f|f
       . exact absurd j f
       . exact f
      have e:ES (JQ u (YE p q)) v=v:=IC (X8 _ _) w λx=>by rw[Ke,Xf,j];simp[ev];grind
      rw[e];exact l
    . right;exact Mb k i j
def Ln(K:Nat)(r:List Rat):Prop:=∃c:Rat,c≠0/\∀i,∃z:Int,Sm K z/\cf r i*c=(z:Rat)
theorem dR(s t:Nat)(f:Nat->Int):Xc (s+t) f=Xc s f+Xc t (λj=>f (s+j)):=by
 induction t with
 |zero=>simp[Xc]
 |succ t a=>rw[<-CO,Xc,Xc,a];omega
theorem SO{f:Nat->Rat}(h:∀k,k<n->f k=(g k:Rat)):sumN n f=((Xc n g:Int):Rat):=by
 induction n with
 |zero=>rfl
 |succ n a=>rw[sumN,Xc,a λk b=>h k Y,h n Y,Rat.intCast_add]
theorem SP(p q:List Rat)(h:p.length<=n)(k:Nat):cf (JQ p q) k=sumN n (λi=>if i<=k then cf p i*cf q (k-i)else 0):=by
 unfold JQ;rw[JU,IW,<-Ow p q h];rfl
theorem Ln.sc{r:List Rat}(h:Ln K r)(j:d≠0):Ln K (Dn d r):=by
 obtain⟨c,g,k⟩:=h;have e:d*(1/d)=1:=by rw[Rat.mul_comm];exact Cp j
 refine⟨(1/d)*c,Hx (λa=>by rw[a,FV]at e;exact absurd e DQ) g,λi=>?_⟩;obtain⟨z,b,f⟩:=k i;exact⟨z,b,by rw[Y6,<-f];grind⟩
theorem Ln.mono{K L:Nat}{r:List Rat}(h:Ln K r)(e:K<=L):Ln L r:=by
 obtain⟨c,d,f⟩:=h;exact⟨c,d,λi=>by obtain⟨z,a,b⟩:=f i;exact⟨z,a.mono e,b⟩⟩
theorem dS{N A B:Nat}(b:A=Z^K)(i:N+1<=1000000)(c:B=(2*(N+1)*A+1)^N):(N+1)*(A*B)<Z^((K+1)*(N+1)):=by
 have d:1<=A:=by rw[b];exact Fl Kp
 have f:2*(N+1)*A+1<=Z^(K+1):=by
  have a:(2*(N+1)+1)*A<=Z*A:=Ak _ uo;rw[AQ,<-b,As A];rw[Ay,Cw]at a;exact Aq (Nat.add_le_add_left d _) a
 have g:(2*(N+1)*A+1)^(N+1)<=Z^((K+1)*(N+1)):=by rw[FI];exact CR f _
 refine AC ?_ g;have e:1<=B:=by rw[c];exact Fl Y
 rw[AQ,<-c,<-Az,As B];refine(Nat.mul_lt_mul_right e).2 ?_;have:(N+1)*A<=2*(N+1)*A:=Ak _ Y;omega
theorem SQ(hp:Jd p=p)(hq:Jd q=q)(h1:Ln K p)(h2:Ln K q)(hl:p.length+q.length<=1000000)(hle:q.length<=p.length)(h:Eu p q a b)(U:b≠[]):Ln ((K+1)*(p.length+q.length)) (J2 a b):=by
 obtain⟨cp,ak,ai⟩:=h1;obtain⟨cq,am,aj⟩:=h2;obtain⟨α,hα⟩:=Classical.axiomOfChoice ai;obtain⟨β,hβ⟩:=Classical.axiomOfChoice aj;have aw:=h.len hq;have aq:0<b.length:=Ar.2 U;have Q:q≠[]:=λe=>by
  have d:q.length=0:=by rw[e];rfl
  omega
 have Qk:p≠[]:=λe=>by
  have d:p.length=0:=by rw[e];rfl
  omega
 obtain⟨s,hs⟩:=ex (q.length+1-b.length);obtain⟨t,ht⟩:=ex (p.length+1-b.length);obtain⟨N,hN⟩:=ex (s+t-1);obtain⟨A,hA⟩:=ex (Z^K);have ae:∀i,(α i).natAbs<=A:=λi=>by have:=(hα i).1;unfold Sm at this;omega
 have af:∀i,(β i).natAbs<=A:=λi=>by have:=(hβ i).1;unfold Sm at this;omega
 have P:s+t=N+1:=Y
 obtain⟨z,⟨m,az,ad⟩,E,ap⟩:=dM N A (λk j=>if j<s then(if j<=b.length-1+k then α (b.length-1+k-j)else 0)else(if j-s<=b.length-1+k then β (b.length-1+k-(j-s))else 0)) (λk j=>by
  split
  . split
    . exact ae _
    . simp
  . split
    . exact af _
    . simp)
 obtain⟨B,S⟩:=ex ((2*(N+1)*A+1)^N);rw[S]at E;obtain⟨u,W⟩:=ex (Jd ((List.range s).map λj=>(z j:Rat)*cp));obtain⟨v,hv⟩:=ex (Jd ((List.range t).map λj=>(z (s+j):Rat)*cq));have r:Jd u=u:=by rw[<-W];exact Yi _
 have n:Jd v=v:=by rw[<-hv];exact Yi _
 have o:∀j,cf u j=if j<s then(z j:Rat)*cp else 0:=λj=>by rw[<-W,JU,LQ]
 have w:∀j,cf v j=if j<t then(z (s+j):Rat)*cq else 0:=λj=>by rw[<-hv,JU,LQ]
 have Qg:u.length<=s:=Xx r λi V=>by rw[o,BC Y]
 have Ql:v.length<=t:=Xx n λi V=>by rw[w,BC Y]
 obtain⟨g,D⟩:∃g:Nat->Int,∀i,g i=Xc s (λj=>if j<=i then z j*α (i-j)else 0)+Xc t (λj=>if j<=i then z (s+j)*β (i-j)else 0):=⟨_,λ_=>rfl⟩;have T:∀i,cf (ES (JQ u p) (JQ v q)) i=(g i:Rat):=λi=>by
  rw[O0,SP u p Qg,SP v q Ql,D,Rat.intCast_add];congr 1
  . refine SO λj f=>?_;split
    . rw[o,BG f,CF,<-(hα (i-j)).2];grind
    . rfl
  . refine SO λj f=>?_;split
    . rw[w,BG f,CF,<-(hβ (i-j)).2];grind
    . rfl
 have Qj:∀i,(g i).natAbs<=(N+1)*(A*B):=λi=>by
  have d:(Xc s λj=>if j<=i then z j*α (i-j)else 0).natAbs<=s*(A*B):=Oa λj _=>by
   split
   . rw[CX,As];exact CC (ae _) (E _)
   . simp
  have R:(Xc t λj=>if j<=i then z (s+j)*β (i-j)else 0).natAbs<=t*(A*B):=Oa λj _=>by
   split
   . rw[CX,As];exact CC (af _) (E _)
   . simp
  have e3:=Int.natAbs_add_le (Xc s λj=>if j<=i then z j*α (i-j)else 0) (Xc t λj=>if j<=i then z (s+j)*β (i-j)else 0);rw[<-D i]at e3;rw[<-P,Ay];omega
 have Qm:(ES (JQ u p) (JQ v q)).length<b.length:=by
  have:(ES (JQ u p) (JQ v q)).length<=b.length-1:=Xx (X8 _ _) λi V=>by
   by_cases ay:i<b.length-1+N
   . rw[T];have e:=ap (i-(b.length-1)) Y;rw[<-P,dR]at e;have d:Xc s (λj=>if j<=i then z j*α (i-j)else 0)=Xc s (λj=>(if j<s then(if j<=b.length-1+(i-(b.length-1))then α (b.length-1+(i-(b.length-1))-j)else 0)else(if j-s<=b.length-1+(i-(b.length-1))then β (b.length-1+(i-(b.length-1))-(j-s))else 0))*z j):=SM λj f=>by
      rw[BG f,show b.length-1+(i-(b.length-1))=i from by omega];split
      . exact Fk _ _
      . simp
     have R:Xc t (λj=>if j<=i then z (s+j)*β (i-j)else 0)=Xc t (λj=>(if s+j<s then(if s+j<=b.length-1+(i-(b.length-1))then α (b.length-1+(i-(b.length-1))-(s+j))else 0)else(if s+j-s<=b.length-1+(i-(b.length-1))then β (b.length-1+(i-(b.length-1))-(s+j-s))else 0))*z (s+j)):=SM λj f=>by
      rw[BC (show ¬s+j<s by omega),show b.length-1+(i-(b.length-1))=i from by omega,show s+j-s=j from by omega];split
      . exact Fk _ _
      . simp
     rw[D,d,R,e];rfl
   . refine J1 ?_;have l1:=Te (JQ u p) (JQ v q);by_cases X:u=[]
     . have y:JQ u p=[]:=by rw[X];rfl
       by_cases l:v=[]
       . have d:JQ v q=[]:=by rw[l];rfl
         rw[y,d];exact AK _
       . have l3:=XP n hq l Q;rw[y,AD]at l1;rw[y];omega
     . have l2:=XP r hp X Qk;by_cases l:v=[]
       . have d:JQ v q=[]:=by rw[l];rfl
         rw[d,AD]at l1;rw[d];omega
       . have l3:=XP n hq l Q;omega
  omega
 have Qh:u≠[]\/v≠[]:=by
  by_cases an:m<s
  . left
    intro e;have:=o m;rw[e,YS,BG an]at this;exact Hx (by exact_mod_cast ad) ak this.symm
  . right
    intro e;have:=w (m-s);rw[e,YS,BG Y,show s+(m-s)=m from by omega]at this;exact Hx (by exact_mod_cast ad) am this.symm
 obtain⟨c,hc,ah⟩:=dQ h hp hq U u v _ r n (X8 _ _) Y Y Qh Qm (λx=>by rw[Ke,Xf,Xf]);refine⟨c,hc,λi=>⟨g i,?_,by rw[<-Y6,<-ah,T]⟩⟩;have Qi:=dS hA.symm Y S.symm;have h5:(K+1)*(N+1)<=(K+1)*(p.length+q.length):=Av _ Y;unfold Sm;exact Ct (Qj i) (AC Qi (Aw Kp h5))
theorem dT(hp:Jd p=p)(hq:Jd q=q)(h:p.length<q.length):J2 p q=p:=
 ((Oc (p:=p) hq (λe=>by rw[e]at h;simp at h) (u:=[]) (v:=p) rfl hp h λx=>by simp[ev];grind).2).symm
theorem SR{K:Nat}{p q a b:List Rat}(hp:Jd p=p)(hq:Jd q=q)(d:Ln K p)(e:Ln K q)(hl:p.length+q.length<=1000000)(h:Eu p q a b)(f:b≠[]):Ln ((K+1)*(p.length+q.length)) (J2 a b):=by
 by_cases hle:q.length<=p.length
 . exact SQ hp hq d e hl hle h f
 . have hs:=dT hp hq Y;cases h with
   |base=>rw[hs];exact d.mono (by
    have:(K+1)*1<=(K+1)*(p.length+q.length):=Av _ Y;omega)
   |step _ _ c _ _ k g hE=>
    rw[hs]at hE;have i:=Yk g hp;have j:=SQ hq (Yc c p) e (d.sc g) Y Y hE f;rwa[i,C0 q.length]at j
theorem Hy(a:c≠0):1/c≠0:=λe=>by
 have h:(1/c)*c=1:=Cp a;rw[e,CJ]at h;exact absurd h DQ
def JF(p:List Rat):List Rat:=Dn (1/cf p (p.length-1)) p
theorem dU:JF []=[]:=rfl
theorem Y1(p:List Rat):Jd (JF p)=JF p:=Yc _ _
theorem Od(b:c≠0)(hp:Jd p=p):JF (Dn c p)=JF p:=by
 by_cases a:p=[]
 . subst a;rfl
 . unfold JF;rw[Yk b hp,Y6,Ob];have hl:=JB hp a;congr 1;obtain⟨l,e⟩:=ex (cf p (p.length-1));rw[e]at hl ⊢;have d:(1/(l*c))*(l*c)=1:=Cp (Hx hl b);grind
theorem Yo(hp:Jd p=p):(JF p).length=p.length:=by
 by_cases a:p=[]
 . subst a;rfl
 . exact Yk (Hy (JB hp a)) hp
theorem SU(hp:Jd p=p)(a:p≠[]):cf (JF p) ((JF p).length-1)=1:=by
 rw[Yo hp];unfold JF;rw[Y6,Rat.mul_comm];exact Cp (JB hp a)
theorem Me(hp:Jd p=p):JF (JF p)=JF p:=by
 by_cases a:p=[]
 . subst a;rfl
 . exact Od (Hy (JB hp a)) hp
def EX:Nat->List Rat->List Rat->List Rat
 |0,p,_=>JF p
 |n+1,p,q=>if q=[]then JF p else EX n q (J2 p q)
def JZ(p q:List Rat):List Rat:=EX q.length p q
theorem dV:∀(n m:Nat) (p q:List Rat),Jd q=q->q.length<=n->q.length<=m->EX n p q=EX m p q:=by
 intro n;induction n with
 |zero=>
  intro m p q _ h _;have hq:q=[]:=Mc Y;subst hq;cases m with
  |zero=>rfl
  |succ m=>simp[EX]
 |succ n b=>
  intro m p q hq h c;by_cases a:q=[]
  . subst a;cases m with
    |zero=>simp[EX]
    |succ m=>simp[EX]
  . have hl:0<q.length:=Ar.2 a;cases m with
    |zero=>omega
    |succ m=>
     have d:=(YF p q hq a).2.1;simp only[EX,BC a];exact b m q (J2 p q) (YR _ _) Y Y
theorem Oe(p:List Rat):JZ p []=JF p:=rfl
theorem dW(hq:Jd q=q)(a:q≠[]):JZ p q=JZ q (J2 p q):=by
 have c:=(YF p q hq a).2.1;have hl:0<q.length:=Ar.2 a;unfold JZ;obtain⟨n,b⟩:∃n,q.length=n+1:=⟨q.length-1,Y⟩;rw[b,EX,BC a];exact dV _ _ _ _ (YR _ _) Y (Aa _)
theorem dX:∀(n:Nat) (c d:Rat) (p q:List Rat),c≠0->d≠0->Jd p=p->Jd q=q->EX n (Dn c p) (Dn d q)=EX n p q:=by
 intro n;induction n with
 |zero=>intro c d p q b _ hp _;exact Od b hp
 |succ n f=>
  intro c d p q b e hp hq;by_cases a:q=[]
  . subst a;simp only[EX,dP,BG];exact Od b hp
  . simp only[EX,BC a,BC (Mb e hq a)];rw[(Md e p q hq a).2];exact f d c q (J2 p q) e b hq (YR _ _)
theorem Mf(b:c≠0)(a:d≠0)(hp:Jd p=p)(hq:Jd q=q):JZ (Dn c p) (Dn d q)=JZ p q:=by
 unfold JZ;rw[Yk a hq];exact dX _ _ _ _ _ b a hp hq
theorem Eu.gcd(h:Eu p q a b):Jd p=p->Jd q=q->JZ p q=JZ a b:=by
 induction h with
 |base p q=>exact λ_ _=>rfl
 |step p q c a b f e _ g=>
  intro hp hq;rw[<-g hq (Yc _ _),dW hq f];have d:=Mf (c:=1) DQ e hq (YR p q);rw[LD hq]at d;exact d.symm
theorem SV(p q:List Rat)(hp:Jd p=p)(hq:Jd q=q):JZ (JF p) (JF q)=JZ p q:=by
 by_cases b:p=[]
 . subst b;by_cases a:q=[]
   . subst a;rfl
   . have:=Mf (c:=1) (p:=[]) DQ (Hy (JB hq a)) rfl hq;exact this
 . by_cases a:q=[]
   . subst a;exact Me hp
   . exact Mf (Hy (JB hp b)) (Hy (JB hq a)) hp hq
theorem dY:∀(n:Nat) (p q:List Rat),Jd (EX n p q)=EX n p q:=by
 intro n;induction n with
 |zero=>intro p q;exact Y1 _
 |succ n a=>
  intro p q;rw[EX];split
  . exact Y1 _
  . exact a _ _
theorem Iw(p q:List Rat):Jd (JZ p q)=JZ p q:=dY _ _ _
theorem Mg(c:Rat):c*(c.den:Rat)=(c.num:Rat):=by
 have d:((c.den:Int):Rat)≠0:=by exact_mod_cast c.den_nz
 have a:=Fb c;rw[CU]at a;have b:(c.num:Rat)/((c.den:Int):Rat)*((c.den:Int):Rat)=c.num:=Cp d;rw[a,Cu]at b;exact b
theorem Of{a b c:Int}(h:a∣b*c)(e:Nat.gcd a.natAbs c.natAbs=1):a∣b:=by
 have d:=Int.natAbs_dvd_natAbs.2 h;rw[CX]at d;exact Int.natAbs_dvd_natAbs.1 (Nat.Coprime.dvd_of_dvd_mul_right e d)
theorem dZ{n:Int}(h:c*(D:Rat)=(n:Rat)):(c.den:Int)∣D/\c.num*D=n*c.den:=by
 have b:c*(c.den:Rat)=(c.num:Rat):=Mg c;have d:((c.num*D:Int):Rat)=((n*(c.den:Int):Int):Rat):=by
  rw[CF,CF,<-b,<-h];show c*(c.den:Rat)*(D:Rat)=c*(D:Rat)*((c.den:Int):Rat);rw[Cu];grind
 have a:c.num*D=n*c.den:=Rat.intCast_inj.1 d;refine⟨?_,a⟩;have e:(c.den:Int)∣D*c.num:=⟨n,by rw[Fk D,a,Fk]⟩;refine Of e ?_;show Nat.gcd (c.den:Int).natAbs c.num.natAbs=1;rw[AP,C1];exact c.reduced
theorem da{L G:Int}(V:∀i,((cf p i).den:Int)∣L)(W:∀u:Int,(∀i,((cf p i).den:Int)∣u)->L∣u)(T:∀i,G∣(cf p i).num)(U:∀v:Int,(∀i,v∣(cf p i).num)->v∣G)(s:G≠0)(h:Ln K p):
 ∀i,∃z:Int,Sm K z/\cf p i*((L:Rat)/(G:Rat))=(z:Rat):=by
 obtain⟨c,X,hz⟩:=h;have E:c.num≠0:=λe=>X (Fy.1 e);have A:(c.den:Int)≠0:=by have:=c.den_nz;omega
 have k:∀i,∃z:Int,Sm K z/\(cf p i).num*c.num=z*((cf p i).den*c.den):=λi=>by
  obtain⟨z,l,n⟩:=hz i;refine⟨z,l,?_⟩;have P:c*(c.den:Rat)=(c.num:Rat):=Mg c;have a:cf p i*((cf p i).den:Rat)=((cf p i).num:Rat):=Mg _;have Q:(((cf p i).num*c.num:Int):Rat)=((z*(((cf p i).den:Int)*(c.den:Int)):Int):Rat):=by
   rw[CF,CF,CF,Cu,Cu,<-P,<-a,<-n];grind
  exact Rat.intCast_inj.1 Q
 have g:L∣c.num:=W _ λi=>by
  obtain⟨z,_,e⟩:=k i;have b:((cf p i).den:Int)∣(cf p i).num*c.num:=⟨z*c.den,by rw[e,Int.mul_left_comm]⟩;rw[Fk]at b;refine Of b ?_;show Nat.gcd ((cf p i).den:Int).natAbs (cf p i).num.natAbs=1;rw[AP,C1];exact(cf p i).reduced
 have j:(c.den:Int)∣G:=U _ λi=>by
  obtain⟨z,_,e⟩:=k i;have b:(c.den:Int)∣(cf p i).num*c.num:=⟨z*(cf p i).den,by rw[e,<-CP,Fk]⟩;refine Of b ?_;show Nat.gcd (c.den:Int).natAbs c.num.natAbs=1;rw[AP,C1];exact c.reduced
 obtain⟨u,g⟩:=g;obtain⟨v,j⟩:=j;have N:u≠0:=λe=>E (by rw[g,e,Int.mul_zero]);have x:v≠0:=λe=>s (by rw[j,e,Int.mul_zero]);intro i;obtain⟨e,t⟩:=V i;obtain⟨m,w⟩:=T i;obtain⟨z,l,n⟩:=k i;have hd:((cf p i).den:Int)≠0:=by have:=(cf p i).den_nz;omega
 have D:z=m*e*(u*v):=by
  have R:z*(((cf p i).den:Int)*c.den)=m*e*(u*v)*(((cf p i).den:Int)*c.den):=by
   rw[<-n,w,g,j,t];generalize ((cf p i).den:Int)=d;generalize (c.den:Int)=f;grind
  exact Int.eq_of_mul_eq_mul_right (Co hd A) R
 refine⟨m*e,l.le ?_,?_⟩
 . rw[D,CX (m*e)];have:0<(u*v).natAbs:=Int.natAbs_pos.2 (Co N x);exact CB _ this
 . have q:(G:Rat)≠0:=by exact_mod_cast s
   have a:cf p i*((cf p i).den:Rat)=((cf p i).num:Rat):=Mg _;rw[w,CF]at a;have y:(L:Rat)=((cf p i).den:Rat)*(e:Rat):=by rw[t,CF,Cu]
   have o:(L:Rat)/(G:Rat)*(G:Rat)=L:=Cp q;have S:(cf p i*((L:Rat)/(G:Rat))-((m*e:Int):Rat))*(G:Rat)=0:=by
    rw[CF];generalize (L:Rat)/(G:Rat)=f at o ⊢;rw[y]at o;generalize ((cf p i).den:Rat)=d at a o;grind
   rcases FS.1 S with r|r
   . grind
   . exact absurd r q
def Xg(p:List Rat):Nat->Nat
 |0=>1
 |n+1=>Nat.lcm (Xg p n) (cf p n).den
def Y2(p:List Rat):Nat->Nat
 |0=>0
 |n+1=>Nat.gcd (Y2 p n) (cf p n).num.natAbs
theorem SW(p:List Rat):∀n,0<Xg p n:=by
 intro n;induction n with
 |zero=>exact Nat.one_pos
 |succ n a=>exact Nat.lcm_pos a (cf p n).den_pos
theorem db(p:List Rat):∀n i,i<n->(cf p i).den∣Xg p n:=by
 intro n;induction n with
 |zero=>intro i h;omega
 |succ n a=>
  intro i h;rw[Xg];by_cases e:i=n
  . subst e;exact Nat.dvd_lcm_right _ _
  . exact Nat.dvd_trans (a i Y) (Nat.dvd_lcm_left _ _)
theorem SX(p:List Rat)(u:Nat)(h:∀i,(cf p i).den∣u):∀n,Xg p n∣u:=by
 intro n;induction n with
 |zero=>exact Nat.one_dvd _
 |succ n a=>exact Nat.lcm_dvd a (h n)
theorem SY(p:List Rat):∀n i,i<n->Y2 p n∣(cf p i).num.natAbs:=by
 intro n;induction n with
 |zero=>intro i h;omega
 |succ n a=>
  intro i h;rw[Y2];by_cases e:i=n
  . subst e;exact Ff _ _
  . exact Nat.dvd_trans (FN _ _) (a i Y)
theorem df(p:List Rat)(v:Nat)(h:∀i,v∣(cf p i).num.natAbs):∀n,v∣Y2 p n:=by
 intro n;induction n with
 |zero=>exact Nat.dvd_zero _
 |succ n a=>exact Nat.dvd_gcd a (h n)
theorem SZ(hD:D≠0)(h:CD D K c):∃n:Int,Sm K n/\c*(D:Rat)=(n:Rat):=by
 obtain⟨n,rfl,h⟩:=h;refine⟨n,h,?_⟩;have a:(D:Rat)≠0:=by exact_mod_cast hD
 rw[CU];exact Cp a
theorem Mh{n:Int}(hD:D≠0)(b:Sm K n)(h:c*(D:Rat)=(n:Rat)):CD D K c:=by
 refine⟨n,?_,b⟩;have a:(D:Rat)≠0:=by exact_mod_cast hD
 rw[CU,<-h];exact(Rat.mul_div_cancel a).symm
theorem Sa(hD:D≠0)(hs:Sm K D)(h:EJ D K p)(n:Nat):Sm K (Xg p n:Int):=by
 refine hs.le ?_;rw[AP];refine Nat.le_of_dvd (Int.natAbs_pos.2 hD) (SX p _ (λi=>?_) n);obtain⟨z,_,e⟩:=SZ hD (h i);have:=(dZ e).1;exact Int.ofNat_dvd_left.1 this
theorem Sb(h:∀i,Sm K (cf p i).num):∀n,Sm K (Y2 p n:Int):=by
 intro n;induction n with
 |zero=>exact Sm.zero K
 |succ n a=>exact Sm.gcd a (h n)
theorem EJ.ln(hD:D≠0)(h:EJ D K p):Ln K p:=
 ⟨(D:Rat),by exact_mod_cast hD,λi=>SZ hD (h i)⟩
theorem Mi(hp:Jd p=p)(a:p≠[]):Y2 p p.length≠0:=λe=>by
 have hl:0<p.length:=Ar.2 a;have b:=SY p p.length (p.length-1) Y;rw[e]at b;have c:(cf p (p.length-1)).num.natAbs=0:=Nat.zero_dvd.1 b;exact JB hp a (Fy.1 (Int.natAbs_eq_zero.1 c))
def YV(p:List Rat):List Rat:=Dn ((Xg p p.length:Rat)/(Y2 p p.length:Rat)) p
theorem dk(hp:Jd p=p)(a:p≠[]):0<(Xg p p.length:Rat)/(Y2 p p.length:Rat):=by
 have b:(0:Rat)<(Xg p p.length:Rat):=by exact_mod_cast SW p _
 have c:(0:Rat)<(Y2 p p.length:Rat):=by exact_mod_cast Nat.pos_of_ne_zero (Mi hp a)
 rw[Fm];exact Rat.mul_pos b (Rat.inv_pos.2 c)
theorem Sc(hp:Jd p=p)(d:p≠[])(h:Ln K p):∀i,∃z:Int,Sm K z/\cf (YV p) i=(z:Rat):=by
 have c:∀i,p.length<=i->cf p i=0:=λi a=>J1 a;have e:=da (p:=p) (L:=(Xg p p.length:Int)) (G:=(Y2 p p.length:Int)) (λi=>by
  by_cases a:i<p.length
  . exact Int.natCast_dvd_natCast.2 (db p _ i a)
  . rw[c i Y];exact Int.one_dvd _) (λu g=>by
  refine Int.ofNat_dvd_left.2 (SX p _ (λi=>Int.ofNat_dvd_left.1 (g i)) _)) (λi=>by
  by_cases a:i<p.length
  . exact Int.ofNat_dvd_left.2 (SY p _ i a)
  . rw[c i Y];exact Int.dvd_zero _) (λv j=>by
  have:v.natAbs∣Y2 p p.length:=df p _ (λi=>Int.natAbs_dvd_natAbs.2 (j i)) _;exact Int.natAbs_dvd.1 (Int.natCast_dvd_natCast.2 this)) (by have:=Mi hp d;omega) h
 intro i;obtain⟨z,f,b⟩:=e i;refine⟨z,f,?_⟩;unfold YV;rw[Y6];rw[Cu,Cu]at b;exact b

