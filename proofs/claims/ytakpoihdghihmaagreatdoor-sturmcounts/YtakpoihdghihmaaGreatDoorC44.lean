import Derived.Test.YtakpoihdghihmaaGreatDoorC43
open Go.Value renaming slice->F,pointer->C,agg->M,bool->P
open Go renaming undef->E,World->I,Value->Q
set_option maxRecDepth 100000
set_option maxHeartbeats 16000000
namespace Go.Proofs.YtakpoihdghihmaaGreatDoor
attribute [local go_sem] Oper.semAt_some
namespace M3
open Go.RowKit Go.Shelf
variable{ps qs:List Rat}
theorem jU(va vb:Q)(ps qs:List Rat)(w:I)(ha:Jh w va ps)(hb:Jh w vb qs)(aw:Da ps)(az:Da qs)(ay:qs≠[])(ax:∀i,i<=ps.length+1-qs.length->Sq (Y7 (cf qs (qs.length-1))^i))(bc:∀i,Sq (cf ps i*Ee ps qs)):
 Calls Tryz.prog 182 #[va,vb] w λe w'=>∃u,e=.returned u/\Jh w' u (Xk ps qs)/\Bl w w':=by
 obtain⟨m,hm⟩:=ex (qs.length-1:Nat);have Uc:0<qs.length:=Ae.2 ay;have Qy:ps.length<=1099511627776:=by
  obtain⟨H,la,R,rfl⟩:=ha.form;have:=ha.row.forms;omega
 have Qt:qs.length<=1099511627776:=by
  obtain⟨q,lb,z,rfl⟩:=hb.form;have:=hb.row.forms;omega
 obtain⟨L,hL⟩:=ex (Y7 (cf qs m):Rat);obtain⟨N,hN⟩:=ex (ps.length+1-qs.length:Nat);obtain⟨e1,ap⟩:=ex ((ps.length:Int)-1:Int);have Qp:(qs.length:Int)-1=(m:Int):=O
 obtain⟨e3,cn⟩:=ex (e1-(m:Int):Int);obtain⟨e4,co⟩:=ex (e3+1:Int);have ct:IntKind.i64.wrap e3=e3:=by rw[BL];omega
 have de:IntKind.i64.wrap e4=e4:=by rw[BL];omega
 obtain⟨Qb,Qo,Ub,Qw,Qc,HT,Qu,Qs⟩:=GX (show(∀i:Nat,(i:Int)<e4↔i<N)/\N<=1099511627777 from⟨λi=>by omega,O⟩) Qp ap hL (show ∀i,i<=N->Sq (L^i)from λi W=>by rw[<-hL,<-hm];exact ax i O) (show DU (L^N) ps=Xk ps qs by unfold Xk Ee;rw[hm,hL,hN]) (show ∀i,Sq (cf ps i*L^N)from λi=>by have:=bc i;unfold Ee at this;rwa[hm,hL,hN]at this) aw;have Qz:=Y az;clear ax bc aw az ay hN hL hm Uc Qy Qt ap Qp;have Ql:Tryz.prog.follows .mixedOrders=true:=by kernel_rfl
 obtain⟨H,la,R,rfl⟩:=ha.form;obtain⟨q,lb,z,rfl⟩:=hb.form;have M0:=(((Mem.nil w).push (.cell 25 (F H la R)) (cs:=#[F H la R]) ⟨rfl,rfl⟩).push (.cell 25 (F q lb z)) (cs:=#[F q lb z]) ⟨rfl,rfl⟩).push (.cell 25 (F none 0 0)) (cs:=#[F none 0 0]) ⟨rfl,rfl⟩;simp only[Ax]at M0;obtain⟨W0,ai⟩:=ex (((w.alloc (.cells #[F H la R] 25)).alloc (.cells #[F q lb z] 25)).alloc (.cells #[F none 0 0] 25));obtain⟨Qj,HP,HQ⟩:=Df ai (λ(V:I) (hB:Bl w V)=>ha.below hB) λ(V:I) (hB:Bl w V)=>hb.below hB;have M1:Hid (Mem w W0 [some (w.heap.size,.cell 25 (F H la R)),some (w.heap.size+1,.cell 25 (F q lb z)),some (w.heap.size+1+1,.cell 25 (F none 0 0))]):=Y (by rw[<-ai];exact M0);clear M0 ai ha hb;go_enter Tryz.func182,Tryz.ntmps182
 go_upto_region 1 with fail
 rw[Qj.o];clear Qj;refine Jr Ql [[],[],[1],[0,2,2],[3,3],[],[5,4,4,0,1,2,3,4,5]] (by kernel_rfl) DO
  (λD ad V=>∃(tn tp ta tb tc tm:Q) (x5:Option (Nat × Dat)),ad={ tmps:=#[M #[F H la R],M #[F q lb z],C (some ⟨w.heap.size,0,none⟩),C (some ⟨w.heap.size+1,0,none⟩),C (some ⟨w.heap.size+1+1,0,none⟩),tm,E,E,tn,tp,ta,tb,tc,E,E,E,E,E,E,E,E,E,E,E,E,E,E,E,E,E,E,E,E,E],defers:=[] }/\Hid ((D 0=true->tn=M #[F q lb z])/\(D 1=true->tp=M #[F q lb z])/\(D 2=true->ta=.int .i64 (m:Int))/\(D 3=true->Has V tb (.rat (cf qs m)))/\(D 4=true->Has V tc (.rat L))/\((D 5=false->x5=none)/\(D 5=true->D 6=false->∃B:Nat,tm=C (some ⟨B,0,none⟩)/\x5=some (B,.rat 0))/\(D 6=true->∃B:Nat,tm=C (some ⟨B,0,none⟩)/\x5=some (B,.rat L))))/\Hid (Mem w V [some (w.heap.size,.cell 25 (F H la R)),some (w.heap.size+1,.cell 25 (F q lb z)),some (w.heap.size+1+1,.cell 25 (F none 0 0)),x5]))
  ⟨_,_,_,_,_,_,none,rfl,Y ⟨Z,Z,Z,Z,Z,Z⟩,Y ((M1.o).none).drew⟩ ?step1 ?fin1
 case step1=>
  rintro D ad V i ds an W o af ⟨tn,tp,ta,tb,tc,tm,x5,rfl,f,g⟩;have Qv:i<7:=(Ad.1 W).1;obtain rfl|rfl|rfl|rfl|rfl|rfl|rfl:=Jx i O
  all_goals
   simp only[Aj,Ag,An]at W;subst W
  . have e0:=(g.o.cell (i:=1) rfl).1.cell;clear o;refine Za ?_;exact⟨_,_,_,_,_,_,_,rfl,(Dm f),Y (g.o)⟩
  . have e0:=(g.o.cell (i:=1) rfl).1.cell;clear o;refine Za ?_;exact⟨_,_,_,_,_,_,_,rfl,(Ds f),Y (g.o)⟩
  . obtain rfl:=(f.o.2.1 (o 1 Z));have G:=Y (Yv _ qs V (HQ.o V g.o.2.2));rw[Qo.o]at G;clear o;refine Jb rfl rfl λK hK=>?_;go_simp;go_wp2_with(go_at_call 30;refine G.o.mono ?_;rintro e T ⟨rfl,A⟩)
    obtain⟨G0,_,_,G3,G4,G5⟩:=f.o;exact⟨_,_,_,_,_,_,_,rfl,Y ⟨G0,λ_=>rfl,λ_=>rfl,λh=>(G3 h).below A,λh=>(G4 h).below A,G5⟩,Y (g.o.below A)⟩
  . obtain rfl:=(f.o.1 (o 0 Z));obtain rfl:=(f.o.2.2.1 (o 2 Z));have G:=Y (K9 _ qs (m:Int) V (HQ.o V g.o.2.2));rw[Ns]at G;clear o;refine Jb rfl rfl λK hK=>?_;go_simp;go_wp2_with(go_at_call 74;refine G.o.mono ?_;rintro e T ⟨v5,rfl,ak,A⟩)
    exact⟨_,_,_,_,_,_,_,rfl,Y ⟨λ_=>rfl,f.o.2.1,λ_=>rfl,λ_=>ak,λh=>(f.o.2.2.2.2.1 h).below A,f.o.2.2.2.2.2⟩,Y (g.o.below A)⟩
  . have h0:=(f.o.2.2.2.1 (o 3 Z));have G:=Y (jQ _ (cf qs m) V h0 (Qz.o.at m));rw[Qw.o]at G;clear o h0;refine Jb rfl rfl λK hK=>?_;go_simp;go_wp2_with(go_at_call 206;refine G.o.mono ?_;rintro e T ⟨v5,rfl,ak,A⟩)
    obtain⟨G0,G1,G2,G3,_,G5⟩:=f.o;exact⟨_,_,_,_,_,_,_,rfl,Y ⟨G0,G1,G2,λh=>(G3 h).below A,λ_=>ak,G5⟩,Y (g.o.below A)⟩
  . have hf:D 6=false:=DP an af;obtain rfl:=Dp f af;clear o;refine Za ?_;obtain⟨G0,G1,G2,G3,G4,_⟩:=f.o;exact⟨_,_,_,_,_,_,_,rfl,Y ⟨G0,G1,G2,λh=>(G3 h).alloc _,λh=>(G4 h).alloc _,⟨λh=>by simp at h,λ_ _=>⟨_,rfl,rfl⟩,λh=>by simp[hf]at h⟩⟩,Y (g.o.fill (i:=3) rfl (.rat 0) (EQ _))⟩
  . obtain⟨B,rfl,rfl⟩:=Dw f (o 5 Z) af;have Qd:=o 5 Z;have hv:=(f.o.2.2.2.2.1 (o 4 Z));obtain⟨s1,a1,l1,c1,t1,b1,k1,d1,rfl⟩:=Jj.form (show Jj V _ _ from hv);obtain⟨s,a,l,c,t,b,k,d,n,r,i,j⟩:=g.o.rat (i:=3) rfl;have e0:=n.c0;have f0:=n.f0;have e1:=n.c1;have f1:=n.f1;have e2:=n.c2;have f2:=n.f2;have e3:=n.c3;have f3:=n.f3;clear o;refine Za ?_;obtain⟨G0,G1,G2,G3,G4,_⟩:=f.o;exact⟨_,_,_,_,_,_,_,rfl,Y ⟨G0,G1,G2,λh=>(G3 h).put4 n rfl rfl rfl rfl _ _ _ _,λh=>(G4 h).put4 n rfl rfl rfl rfl _ _ _ _,⟨λh=>by simp[Qd]at h,λ_ h=>by simp at h,λ_=>⟨B,rfl,rfl⟩⟩⟩,Y (g.o.putRat (i:=3) rfl hv)⟩
 rintro D ad V2 S ⟨tn,tp,ta,tb,tc,tm,x5,rfl,f,g⟩;obtain⟨U,rfl,rfl⟩:=f.o.2.2.2.2.2.2.2 (S 6 DO);obtain rfl:=f.o.1 (S 0 DO);obtain rfl:=f.o.2.1 (S 1 DO);obtain rfl:=f.o.2.2.1 (S 2 DO);clear f S M1;have M2:Hid (Mem w V2 [some (w.heap.size,.cell 25 (F H la R)),some (w.heap.size+1,.cell 25 (F q lb z)),some (w.heap.size+1+1,.cell 25 (F none 0 0)),some (U,.rat L)]):=g;clear g;have HA:=Y λ(V:I)=>K0 1 O O V;have HB:=HA;have G:=Y λ(V:I) (x y:Q) (hx:Jm V x 1) (hy:Jm V y 1)=>NB x y 1 1 V hx hy DY.one DY.one;rw[show decide ((1:Int)≠0)=true from rfl,show Rat.divInt 1 1=L^0 by rw[Rat.pow_zero];rfl]at G;go_upto_region 3 with(first
  |(go_at_call 29;refine(HA.o _).mono ?_;clear HA;rintro e w3 ⟨u3,rfl,Qa,am⟩)
  |(go_at_call 29;refine(HB.o _).mono ?_;clear HB;rintro e w4 ⟨u4,rfl,bf,aj⟩;have Qa:=Qa.below aj)
  |(go_at_call 28;refine(G.o _ _ _ Qa bf).mono ?_;clear G;rintro e T ⟨u5,rfl,ae,A⟩;obtain⟨s9,a9,l9,c9,t9,b9,k9,d9,rfl⟩:=Jj.form ae))
 obtain⟨V4,hV⟩:=ex (T.alloc (.cells #[P s9,F a9 l9 c9,P t9,F b9 k9 d9] 37));obtain⟨B4,ah⟩:=ex (T.heap.size);have g:Mem w (T.alloc (.cells #[P s9,F a9 l9 c9,P t9,F b9 k9 d9] 37)) [some (w.heap.size,.cell 25 (F H la R)),some (w.heap.size+1,.cell 25 (F q lb z)),some (w.heap.size+1+1,.cell 25 (F none 0 0)),some (U,.rat L),some (T.heap.size,.rat (L^0))]:=Mem.push (((M2.o.below am).below aj).below A) (.rat (L^0)) ae;rw[hV,ah]at g;rw[hV];rw[ah];have M3:Hid (Mem w V4 [some (w.heap.size,.cell 25 (F H la R)),some (w.heap.size+1,.cell 25 (F q lb z)),some (w.heap.size+1+1,.cell 25 (F none 0 0)),some (U,.rat L),some (B4,.rat (L^0))]):=Y (g);clear M2;clear g hV ah;clear Qa bf ae am aj A;refine Jr Ql [[],[0],[],[2,1],[1,3],[4],[]] (by kernel_rfl) DO
  (λD ad V=>∃(td te tg ti tj tk tl:Q),ad={ tmps:=#[M #[F H la R],M #[F q lb z],C (some ⟨w.heap.size,0,none⟩),C (some ⟨w.heap.size+1,0,none⟩),C (some ⟨w.heap.size+1+1,0,none⟩),C (some ⟨U,0,none⟩),C (some ⟨B4,0,none⟩),P true,M #[F q lb z],M #[F q lb z],.int .i64 ↑m,tb,tc,.tuple #[M #[P s9,F a9 l9 c9,P t9,F b9 k9 d9],P true],u3,u4,.tuple #[M #[P s9,F a9 l9 c9,P t9,F b9 k9 d9],P true],M #[P s9,F a9 l9 c9,P t9,F b9 k9 d9],P true,td,te,tg,ti,tj,tk,tl,E,E,E,E,E,E,E,E],defers:=[] }/\Hid ((D 0=true->td=M #[F H la R])/\(D 1=true->te=.int .i64 e1)/\(D 2=true->tg=M #[F q lb z])/\(D 3=true->ti=.int .i64 (m:Int))/\(D 4=true->tj=.int .i64 e3)/\(D 5=true->tk=.int .i64 e4)/\(D 6=true->tl=.int .i64 0))/\Hid (Mem w V [some (w.heap.size,.cell 25 (F H la R)),some (w.heap.size+1,.cell 25 (F q lb z)),some (w.heap.size+1+1,.cell 25 (F none 0 0)),some (U,.rat L),some (B4,.rat (L^0))]))
  ⟨_,_,_,_,_,_,_,rfl,Y ⟨Z,Z,Z,Z,Z,Z,Z⟩,Y (M3.o).drew⟩ ?step5 ?fin5
 case step5=>
  rintro D ad V i ds an W o af ⟨td,te,tg,ti,tj,tk,tl,rfl,f,g⟩;have Qv:i<7:=(Ad.1 W).1;obtain rfl|rfl|rfl|rfl|rfl|rfl|rfl:=Jx i O
  all_goals
   simp only[Aj,Ag,An]at W;subst W
  . have e0:=(g.o.cell (i:=0) rfl).1.cell;clear o;refine Za ?_;exact⟨_,_,_,_,_,_,_,rfl,(Dm f),Y (g.o)⟩
  . obtain rfl:=(f.o.1 (o 0 Z));have G:=Y (Yv _ ps V (HP.o V g.o.2.2));rw[Ub.o]at G;clear o;refine Jb rfl rfl λK hK=>?_;go_simp;go_wp2_with(go_at_call 30;refine G.o.mono ?_;rintro e T ⟨rfl,A⟩)
    exact⟨_,_,_,_,_,_,_,rfl,(Ds (Dm f)),Y (g.o.below A)⟩
  . have e0:=(g.o.cell (i:=1) rfl).1.cell;clear o;refine Za ?_;exact⟨_,_,_,_,_,_,_,rfl,(Dj f),Y (g.o)⟩
  . obtain rfl:=(f.o.2.2.1 (o 2 Z));have G:=Y (Yv _ qs V (HQ.o V g.o.2.2));rw[Qo.o]at G;clear o;refine Jb rfl rfl λK hK=>?_;go_simp;go_wp2_with(go_at_call 30;refine G.o.mono ?_;rintro e T ⟨rfl,A⟩)
    exact⟨_,_,_,_,_,_,_,rfl,(Dn (Dj f)),Y (g.o.below A)⟩
  . obtain rfl:=(f.o.2.1 (o 1 Z));obtain rfl:=(f.o.2.2.2.1 (o 3 Z));clear o;refine Za ?_;exact⟨_,_,_,_,_,_,_,rfl,(D3 (Dn (Ds f))),Y (g.o)⟩
  . obtain rfl:=(f.o.2.2.2.2.1 (o 4 Z));clear o;refine Za ?_;exact⟨_,_,_,_,_,_,_,rfl,(D4 (D3 f)),Y (g.o)⟩
  . clear o;refine Za ?_;exact⟨_,_,_,_,_,_,_,rfl,(Lp f),Y (g.o)⟩
 rintro D ad V6 S ⟨td,te,tg,ti,tj,tk,tl,rfl,f,g⟩;obtain rfl:=f.o.1 (S 0 DO);obtain rfl:=f.o.2.1 (S 1 DO);obtain rfl:=f.o.2.2.1 (S 2 DO);obtain rfl:=f.o.2.2.2.1 (S 3 DO);obtain rfl:=f.o.2.2.2.2.1 (S 4 DO);obtain rfl:=Dp f (S 5 DO);obtain rfl:=f.o.2.2.2.2.2.2 (S 6 DO);clear f S M3;have M4:Hid (Mem w V6 [some (w.heap.size,.cell 25 (F H la R)),some (w.heap.size+1,.cell 25 (F q lb z)),some (w.heap.size+1+1,.cell 25 (F none 0 0)),some (U,.rat L),some (B4,.rat (L^0))]):=g;clear g;go_wp2;go_loopw [25] (λiv wr=>∃i:Nat,i<=N/\iv=.int .i64 (i:Int)/\Hid (Mem w wr [some (w.heap.size,.cell 25 (F H la R)),some (w.heap.size+1,.cell 25 (F q lb z)),some (w.heap.size+1+1,.cell 25 (F none 0 0)),some (U,.rat L),some (B4,.rat (L^i))])) λiv _=>N-(intOf iv).toNat
 case atStart=>exact⟨0,Az _,rfl,M4⟩
 case round=>
  clear M4;obtain⟨i,W,rfl,X⟩:=hrel;by_cases aq:i<N
  . have Qf:(i:Int)<e4:=(Qb.o.1 i).2 aq;have ck:N<=1099511627777:=Qb.o.2;obtain⟨s7,a7,l7,c7,t7,b7,k7,d7,n7,r7,i7,j7⟩:=X.o.rat (i:=3) rfl;obtain⟨bu,ce,ci,cj⟩:=n7.cq;obtain⟨s8,a8,l8,c8,t8,b8,k8,d8,n8,r8,i8,j8⟩:=X.o.rat (i:=4) rfl;obtain⟨Qk,Qn,Qg,Qq⟩:=n8.cq;obtain⟨Qh,Qr,Qi,Qm⟩:=n8.fq;have H1:=Y (K6 _ _ (L^i) L wr r8 r7 (Qc.o i O) (by have:=Qc.o 1 O;rwa[Rat.pow_one]at this));rw[<-Rat.pow_succ]at H1;go_upto_region 6 with(go_at_call 91;refine H1.o.mono ?_;clear H1;rintro e w6 ⟨u6,rfl,bg,hq⟩;obtain⟨s8,a8,l8,c8,t8,b8,k8,d8,rfl⟩:=Jj.form bg;clear Qk Qn Qg Qq;obtain⟨Qk,Qn,Qg,Qq⟩:=(n8.below hq).cq;clear Qh Qr Qi Qm;obtain⟨Qh,Qr,Qi,Qm⟩:=(n8.below hq).fq)
    obtain⟨V9,hV⟩:=ex ((((w6.setCell ⟨B4,0,none⟩ (P s8)).setCell ⟨B4,1,none⟩ (F a8 l8 c8)).setCell ⟨B4,2,none⟩ (P t8)).setCell ⟨B4,3,none⟩ (F b8 k8 d8));have g:Mem w ((((w6.setCell ⟨B4,0,none⟩ (P s8)).setCell ⟨B4,1,none⟩ (F a8 l8 c8)).setCell ⟨B4,2,none⟩ (P t8)).setCell ⟨B4,3,none⟩ (F b8 k8 d8)) [some (w.heap.size,.cell 25 (F H la R)),some (w.heap.size+1,.cell 25 (F q lb z)),some (w.heap.size+1+1,.cell 25 (F none 0 0)),some (U,.rat L),some (B4,.rat (L^(i+1)))]:=Mem.putRat (X.o.below hq) (i:=4) rfl bg;rw[hV]at g;rw[hV];have M6:Hid (Mem w V9 [some (w.heap.size,.cell 25 (F H la R)),some (w.heap.size+1,.cell 25 (F q lb z)),some (w.heap.size+1+1,.cell 25 (F none 0 0)),some (U,.rat L),some (B4,.rat (L^(i+1)))]):=Y (g);clear X;clear g hV;go_wp2_with fail
    go_roundw
    case rel=>exact⟨i+1,O,by go_num,M6⟩
    case measure=>simp[intOf];omega
  . have Qf:¬(i:Int)<e4:=λh=>aq ((Qb.o.1 i).1 h);obtain rfl:i=N:=O
    obtain⟨dm,bi,dk,bj,dp,b10,dj,bk,bh,r10,dh,di⟩:=X.o.rat (i:=4) rfl;obtain⟨bl,bm,bn,bt⟩:=bh.cq;have c0:=(X.o.cell (i:=0) rfl).1.cell;have n1:=(X.o.cell (i:=2) rfl).1;have Qe:=Y X.o.2.2;have H2:=Y (UQ (M #[F H la R]) _ ps (L^i) wr (HP.o wr Qe.o) r10 Qs.o (Qc.o i (Aa _)) Qu.o);rw[HT.o]at H2;go_wp2_with(go_at_call 181;refine H2.o.mono ?_;clear H2;rintro e T ⟨u5,rfl,ae,A⟩;obtain⟨a7,l7,c7,rfl⟩:=ae.form;have n5:=boxed_below n1 A;have x0:=n5.cell;have x1:=n5.frozen;have Ua:=Y (Nu n5 (x:=F a7 l7 c7) ae);have Qx:=Y ((Bt Qe.o A).setCell (p:=⟨w.heap.size+1+1,0,none⟩) (by show w.heap.size<=w.heap.size+1+1;omega) (F a7 l7 c7));clear ae A n5)
    exact A0 (v:=M #[F a7 l7 c7]) (by simp[results,Tryz.results182,go_sem,x0]) rfl ⟨_,rfl,Ua.o,Qx.o⟩
theorem jV{A:Nat}(p:Eh A ps)(d:Eh A qs)(tq:Jd qs=qs)(q0:qs≠[])(c:1<=A)(H:4*((ps.length+2)*(A+1))<=1000000):
 Da ps/\Da qs/\(∀i,i<=ps.length+1-qs.length->Sq (Y7 (cf qs (qs.length-1))^i))/\(∀i,Sq (cf ps i*Ee ps qs))/\Da (Xk ps qs)/\(∀i,Db A (cf qs i))/\
 ∃l:Int,Dvn 1 1 l ((ps.length+2)*A+1) A (Xk ps qs) qs:=by
 have B:(ps.length+2)*(A+1)=(ps.length+2)*A+(ps.length+2):=by rw[AB,FC]
 have K:0<qs.length:=Ae.2 q0;obtain⟨l,o,j⟩:=d (qs.length-1);have s:l≠0:=λe=>by
  have:=Js tq q0;rw[j,e]at this;exact this rfl
 have q:Y7 (cf qs (qs.length-1))=((l.natAbs:Int):Rat):=by
  rw[j];unfold Y7;have a:((l:Rat)<0)↔l<0:=by
   rw[show(0:Rat)=((0:Int):Rat)from rfl];exact Rat.intCast_lt_intCast
  split
  . rename_i h;rw[a]at h;rw[<-Rat.intCast_neg];congr 1;omega
  . rename_i h;rw[a]at h;congr 1;omega
 have m:∀i:Nat,∃z:Int,Sm (i*A+1) z/\Y7 (cf qs (qs.length-1))^i=(z:Rat):=λi=>by
  refine⟨(l.natAbs:Int)^i,?_,?_⟩
  . refine Sm.powZ ?_ i;unfold Sm at o ⊢;rwa[AK]
  . rw[q,Rat.intCast_pow]
 have n:∀(k:Nat) (z:Int),Sm k z->k<=1000000->1<=k->Sq (z:Rat):=λk z x w a=>Sq.of ((Nq (D:=1) DO x (by rw[show((1:Int):Rat)=1 from rfl,Rat.mul_one])).smq DO (Sm.one k a)) w;have G:ps.length+1-qs.length<=ps.length:=O
 have r:∀i:Nat,i<=ps.length->i*A<=(ps.length+2)*A:=λi v=>Ah _ O;have f:Eh ((ps.length+2)*A+1) (Xk ps qs):=λi=>by
  obtain⟨z,a,b⟩:=p i;obtain⟨y,g,t⟩:=m (ps.length+1-qs.length);refine⟨z*y,(a.mul g).mono ?_,?_⟩
  . have u:(ps.length+1-qs.length+1)*A<=(ps.length+2)*A:=Ah _ O;rw[AC,CG]at u;omega
  . unfold Xk Ee;rw[Y4,b,t,AJ]
 have hA9:A<=(ps.length+2)*A:=by
  have:1*A<=(ps.length+2)*A:=Ah _ O
  omega
 refine⟨Da.of λi=>Sq.of (p.smq c i) O,Da.of λi=>Sq.of (d.smq c i) O,λi v=>?_,λi=>?_,Da.of λi=>Sq.of (f.smq O i) O,d.smq c,l,?_⟩
 . obtain⟨z,a,b⟩:=m i;rw[b];exact n _ z a (by have:=r i O;omega) O
 . obtain⟨z,a,b⟩:=f i;have g:cf ps i*Ee ps qs=(z:Rat):=by rw[<-b];unfold Xk;rw[Y4]
   rw[g];exact n _ z a O O
 . refine⟨DO,Sm.one _ O,f.cdl,DO,Sm.one _ c,d.cdl,s,o,?_⟩;rw[j,Fa,show((1:Int):Rat)=1 from rfl];grind
theorem jW(tp:Jd ps=ps)(tq:Jd qs=qs)(q0:qs≠[]):(Xk ps qs).length=ps.length:=YC (Pz tq q0) tp
theorem jX(A:Nat)(va vb:Q)(ps qs:List Rat)(w:I)(ha:Jh w va ps)(hb:Jh w vb qs)(wp:Eh A ps)(wq:Eh A qs)(tp:Jd ps=ps)(tq:Jd qs=qs)(q0:qs≠[])(hA:1<=A)(am:4*((ps.length+2)*(A+1))<=1000000)(hr:Ln A (JE ps qs)):
 Calls Tryz.prog 138 #[va,vb] w λe w'=>∃u,e=.returned u/\Jh w' u (Xo ps qs)/\Bl w w':=by
 obtain⟨s1,s2,s3,s4,s5,s6,l,ad⟩:=jV wp wq tq q0 hA am;have b1:(ps.length+2)*(A+1)=(ps.length+2)*A+(ps.length+2):=by rw[AB,FC]
 obtain⟨m,hm⟩:=ex ((Xk ps qs).length-(qs.length-1));have Qk:m<=ps.length:=by rw[jW tp tq q0]at hm;omega
 have b2:m*(A+1)<=ps.length*(A+1):=Ah _ Qk;have b3:(ps.length+2)*(A+1)=ps.length*(A+1)+2*(A+1):=AC _ _ _;have Qp:=Y (λ(V:I) (x y:Q) (hx:Jh V x (Xk ps qs)) (hy:Jh V y qs)=>UO A x y (Xk ps qs) qs V hx hy s5 s6 (JM _ _) tq q0 (by
  rw[hm];exact ad.sizes O))
 have Qe:=(ad.rem hm).1;have Qc:=ad.den m;have Ql:=Y λ(V:I) (x:Q) (hx:Jh V x (JE (Xk ps qs) qs))=>P3 (1*l^m) ((ps.length+2)*A+1+m*(A+1)+1) x (JE (Xk ps qs) qs) V hx (Y5 _ _) Qc.1 Qc.2 (λi=>(Qe i).mono O) O;have Qd:=UI tq q0 hr;have Qh:Da (JK (JE (Xk ps qs) qs)):=Da.of λi=>Sq.of (Qd.1.smq hA i) O;have Qj:Da (YA [] (JK (JE (Xk ps qs) qs))):=Da.of λi=>Sq.of (Qd.2.smq hA i) O;have Qf:=Y λ(V:I) (y:Q) (hy:Jh V y (JK (JE (Xk ps qs) qs)))=>dH _ y [] (JK (JE (Xk ps qs) qs)) V (UP V) hy (Da.of λi=>by rw[YY];exact KX) Qh Qj;have Qm:=Y λ(V:I) (x y:Q) (hx:Jh V x ps) (hy:Jh V y qs)=>jU x y ps qs V hx hy s1 s2 q0 s3 s4;clear s1 s2 s3 s4 s5 s6 ad b1 hm Qk b2 b3 Qe Qc Qd Qh Qj wp wq tp tq q0 hA am hr;have Qo:Tryz.prog.follows .mixedOrders=true:=by kernel_rfl
 obtain⟨S,la,T,rfl⟩:=ha.form;obtain⟨L,lb,N,rfl⟩:=hb.form;have M0:=(((Mem.nil w).push (.cell 25 (F S la T)) (cs:=#[F S la T]) ⟨rfl,rfl⟩).push (.cell 25 (F L lb N)) (cs:=#[F L lb N]) ⟨rfl,rfl⟩).push (.cell 25 (F none 0 0)) (cs:=#[F none 0 0]) ⟨rfl,rfl⟩;simp only[Ax]at M0;obtain⟨W0,ai⟩:=ex (((w.alloc (.cells #[F S la T] 25)).alloc (.cells #[F L lb N] 25)).alloc (.cells #[F none 0 0] 25));obtain⟨Qg,HP,HQ⟩:=Df ai (λ(V:I) (hB:Bl w V)=>ha.below hB) λ(V:I) (hB:Bl w V)=>hb.below hB;have M1:Hid (Mem w W0 [some (w.heap.size,.cell 25 (F S la T)),some (w.heap.size+1,.cell 25 (F L lb N)),some (w.heap.size+1+1,.cell 25 (F none 0 0))]):=Y (by rw[<-ai];exact M0);clear M0 ai ha hb;go_enter Tryz.func138,Tryz.ntmps138
 go_upto_region 1 with fail
 rw[Qg.o];clear Qg;refine Jr Qo [[],[],[0,1],[],[2,3,2],[4],[5],[5],[5],[],[],[9,6,4,0,1,2,3,4,5,6,9,10],[10,7,11,0,1,2,3,4,5,6,7,9,10,11],[8,12,0,1,2,3,4,5,6,7,8,9,10,11,12]] (by kernel_rfl) DO
  (λD ah V=>∃(tn ta tb tc td tm te tg ti tj tk tl:Q) (x9 X:Option (Nat × Dat)),ah={ tmps:=#[M #[F S la T],M #[F L lb N],C (some ⟨w.heap.size,0,none⟩),C (some ⟨w.heap.size+1,0,none⟩),C (some ⟨w.heap.size+1+1,0,none⟩),tj,tk,tl,tm,tn,ta,tb,tc,td,te,tg,ti,E,E,E,E],defers:=[] }/\Hid ((D 0=true->tn=M #[F S la T])/\(D 1=true->ta=M #[F L lb N])/\(D 2=true->Has V tb (.poly (Xk ps qs)))/\(D 3=true->tc=M #[F L lb N])/\(D 4=true->Tup2 V td (.poly (Jz (Xk ps qs) qs)) (.poly (JE (Xk ps qs) qs)))/\(D 5=true->Tup2 V tm (.poly (Jz (Xk ps qs) qs)) (.poly (JE (Xk ps qs) qs)))/\(D 6=true->Has V te (.poly (Jz (Xk ps qs) qs)))/\(D 7=true->Has V tg (.poly (JE (Xk ps qs) qs)))/\(D 8=true->ti=P true)/\((D 9=false->x9=none)/\(D 9=true->D 11=false->∃B:Nat,tj=C (some ⟨B,0,none⟩)/\x9=some (B,.poly []))/\(D 11=true->∃B:Nat,tj=C (some ⟨B,0,none⟩)/\x9=some (B,.poly (Jz (Xk ps qs) qs))))/\((D 10=false->X=none)/\(D 10=true->D 12=false->∃B:Nat,tk=C (some ⟨B,0,none⟩)/\X=some (B,.poly []))/\(D 12=true->∃B:Nat,tk=C (some ⟨B,0,none⟩)/\X=some (B,.poly (JE (Xk ps qs) qs))))/\(D 13=true->tl=P true))/\Hid (Mem w V [some (w.heap.size,.cell 25 (F S la T)),some (w.heap.size+1,.cell 25 (F L lb N)),some (w.heap.size+1+1,.cell 25 (F none 0 0)),x9,X]))
  ⟨_,_,_,_,_,_,_,_,_,_,_,_,none,none,rfl,Y ⟨Z,Z,Z,Z,Z,Z,Z,Z,Z,Z,Z,Z⟩,Y (((M1.o).none).none).drew⟩ ?step1 ?fin1
 case step1=>
  rintro D ah V i ds an hi d U ⟨tn,ta,tb,tc,td,tm,te,tg,ti,tj,tk,tl,x9,X,rfl,b,f⟩;have az:i<14:=(Ad.1 hi).1;obtain rfl|rfl|rfl|rfl|rfl|rfl|rfl|rfl|rfl|rfl|rfl|rfl|rfl|rfl:=GL i O
  all_goals
   simp only[Aj,Ag,An]at hi;subst hi
  . have e0:=(f.o.cell (i:=0) rfl).1.cell;clear d;refine Za ?_;exact⟨_,_,_,_,_,_,_,_,_,_,_,_,_,_,rfl,(Dm b),Y (f.o)⟩
  . have e0:=(f.o.cell (i:=1) rfl).1.cell;clear d;refine Za ?_;exact⟨_,_,_,_,_,_,_,_,_,_,_,_,_,_,rfl,(Ds b),Y (f.o)⟩
  . obtain rfl:=(b.o.1 (d 0 Z));obtain rfl:=(b.o.2.1 (d 1 Z));have HC:=Y (Qm.o V _ _ (HP.o V f.o.2.2) (HQ.o V f.o.2.2));clear d;refine Jb rfl rfl λK hK=>?_;go_simp;go_wp2_with(go_at_call 182;refine HC.o.mono ?_;rintro e w5 ⟨v5,rfl,ak,g⟩)
    obtain⟨_,_,_,G,H,j,k,o,q⟩:=b.o;exact⟨_,_,_,_,_,_,_,_,_,_,_,_,_,_,rfl,Y ⟨λ_=>rfl,λ_=>rfl,λ_=>ak,G,λh=>(H h).below g,λh=>(j h).below g,λh=>(k h).below g,λh=>(o h).below g,q⟩,Y (f.o.below g)⟩
  . have e0:=(f.o.cell (i:=1) rfl).1.cell;clear d;refine Za ?_;exact⟨_,_,_,_,_,_,_,_,_,_,_,_,_,_,rfl,(Dn b),Y (f.o)⟩
  . have h0:=(b.o.2.2.1 (d 2 Z));obtain rfl:=(b.o.2.2.2.1 (d 3 Z));have HC:=Y (Qp.o V _ _ h0 (HQ.o V f.o.2.2));clear d h0;refine Jb rfl rfl λK hK=>?_;go_simp;go_wp2_with(go_at_call 139;refine HC.o.mono ?_;rintro e w5 ⟨v5,v6,rfl,ak,ax,g⟩)
    obtain⟨s,t,z,_,_,j,k,o,q⟩:=b.o;exact⟨_,_,_,_,_,_,_,_,_,_,_,_,_,_,rfl,Y ⟨s,t,λh=>(z h).below g,λ_=>rfl,λ_=>⟨v5,v6,rfl,ak,ax⟩,λh=>(j h).below g,λh=>(k h).below g,λh=>(o h).below g,q⟩,Y (f.o.below g)⟩
  . have h0:=(b.o.2.2.2.2.1 (d 4 Z));clear d;refine Za ?_;exact⟨_,_,_,_,_,_,_,_,_,_,_,_,_,_,rfl,(D4 b λ_=>h0),Y (f.o)⟩
  . obtain⟨y1,y2,rfl,h1,h2⟩:=((Dp b) (d 5 Z));clear d;refine Za ?_;exact⟨_,_,_,_,_,_,_,_,_,_,_,_,_,_,rfl,(ED b λ_=>h1),Y (f.o)⟩
  . obtain⟨y1,y2,rfl,h1,h2⟩:=((Dp b) (d 5 Z));clear d;refine Za ?_;exact⟨_,_,_,_,_,_,_,_,_,_,_,_,_,_,rfl,(ET b λ_=>h2),Y (f.o)⟩
  . obtain⟨y1,y2,rfl,h1,h2⟩:=((Dp b) (d 5 Z));clear d;refine Za ?_;exact⟨_,_,_,_,_,_,_,_,_,_,_,_,_,_,rfl,(EX b),Y (f.o)⟩
  . have hf:D 11=false:=DP an U;obtain rfl:=b.o.2.2.2.2.2.2.2.2.2.1.1 U;clear d;refine Za ?_;obtain⟨s,t,z,G,H,j,k,o,q,_,ae⟩:=b.o;exact⟨_,_,_,_,_,_,_,_,_,_,_,_,_,_,rfl,Y ⟨s,t,λh=>(z h).alloc _,G,λh=>(H h).alloc _,λh=>(j h).alloc _,λh=>(k h).alloc _,λh=>(o h).alloc _,q,⟨λh=>by simp at h,λ_ _=>⟨_,rfl,rfl⟩,λh=>by simp[hf]at h⟩,ae⟩,Y (f.o.fill (i:=3) rfl (.poly []) (Nt _))⟩
  . have hf:D 12=false:=DP an U;obtain rfl:=b.o.2.2.2.2.2.2.2.2.2.2.1.1 U;clear d;refine Za ?_;obtain⟨s,t,z,G,H,j,k,o,q,G9,_,af⟩:=b.o;exact⟨_,_,_,_,_,_,_,_,_,_,_,_,_,_,rfl,Y ⟨s,t,λh=>(z h).alloc _,G,λh=>(H h).alloc _,λh=>(j h).alloc _,λh=>(k h).alloc _,λh=>(o h).alloc _,q,G9,⟨λh=>by simp at h,λ_ _=>⟨_,rfl,rfl⟩,λh=>by simp[hf]at h⟩,af⟩,Y (f.o.fill (i:=4) rfl (.poly []) (Nt _))⟩
  . obtain⟨B,rfl,rfl⟩:=b.o.2.2.2.2.2.2.2.2.2.1.2.1 (d 9 Z) U;have Qb:=d 9 Z;have hv:=((Dw b) (d 6 Z));obtain⟨a1,l1,c1,rfl⟩:=Jh.form (show Jh V _ _ from hv);obtain⟨a,l,c,n,r⟩:=f.o.poly2 (i:=3) rfl;have e0:=n.cell;have f0:=n.frozen;clear d;refine Za ?_;obtain⟨s,t,z,G,H,j,k,o,q,_,ae⟩:=b.o;exact⟨_,_,_,_,_,_,_,_,_,_,_,_,_,_,rfl,Y ⟨s,t,λh=>(z h).set1 n rfl _,G,λh=>(H h).set1 n rfl _,λh=>(j h).set1 n rfl _,λh=>(k h).set1 n rfl _,λh=>(o h).set1 n rfl _,q,⟨λh=>by simp[Qb]at h,λ_ h=>by simp at h,λ_=>⟨B,rfl,rfl⟩⟩,ae⟩,Y (f.o.putPoly (i:=3) rfl hv)⟩
  . obtain⟨B,rfl,rfl⟩:=b.o.2.2.2.2.2.2.2.2.2.2.1.2.1 (d 10 Z) U;have Qb:=d 10 Z;have hv:=((EA b) (d 7 Z));obtain⟨a1,l1,c1,rfl⟩:=Jh.form (show Jh V _ _ from hv);obtain⟨a,l,c,n,r⟩:=f.o.poly2 (i:=4) rfl;have e0:=n.cell;have f0:=n.frozen;clear d;refine Za ?_;obtain⟨s,t,z,G,H,j,k,o,q,G9,_,af⟩:=b.o;exact⟨_,_,_,_,_,_,_,_,_,_,_,_,_,_,rfl,Y ⟨s,t,λh=>(z h).set1 n rfl _,G,λh=>(H h).set1 n rfl _,λh=>(j h).set1 n rfl _,λh=>(k h).set1 n rfl _,λh=>(o h).set1 n rfl _,q,G9,⟨λh=>by simp[Qb]at h,λ_ h=>by simp at h,λ_=>⟨B,rfl,rfl⟩⟩,af⟩,Y (f.o.putPoly (i:=4) rfl hv)⟩
  . obtain rfl:=((D8 b) (d 8 Z));clear d;refine Za ?_;exact⟨_,_,_,_,_,_,_,_,_,_,_,_,_,_,rfl,(KL (EX b)),Y (f.o)⟩
 rintro D ah V2 R ⟨tn,ta,tb,tc,td,tm,te,tg,ti,tj,tk,tl,x9,X,rfl,b,f⟩;obtain⟨B3,rfl,rfl⟩:=b.o.2.2.2.2.2.2.2.2.2.1.2.2 (R 11 DO);obtain⟨B4,rfl,rfl⟩:=b.o.2.2.2.2.2.2.2.2.2.2.1.2.2 (R 12 DO);obtain rfl:=b.o.1 (R 0 DO);obtain rfl:=b.o.2.1 (R 1 DO);obtain rfl:=b.o.2.2.2.1 (R 3 DO);obtain rfl:=D8 b (R 8 DO);obtain rfl:=b.o.2.2.2.2.2.2.2.2.2.2.2 (R 13 DO);clear b R M1;have M2:Hid (Mem w V2 [some (w.heap.size,.cell 25 (F S la T)),some (w.heap.size+1,.cell 25 (F L lb N)),some (w.heap.size+1+1,.cell 25 (F none 0 0)),some (B3,.poly (Jz (Xk ps qs) qs)),some (B4,.poly (JE (Xk ps qs) qs))]):=f;clear f;obtain⟨a5,l5,c5,W,r5⟩:=M2.o.poly2 (i:=4) rfl;have ay:=W.cell;have n1:=(M2.o.cell (i:=2) rfl).1;have Qi:=Y M2.o.2.2;have H1:=Y (Ql.o V2 _ r5);clear Ql;go_wp2_with(first
  |(go_at_call 137;refine H1.o.mono ?_;clear H1;rintro e w4 ⟨u4,rfl,aw,ap⟩)
  |(go_at_call 90;refine(Qf.o _ _ aw).mono ?_;clear Qf;rintro e w5 ⟨u5,rfl,aj,_,aq⟩;have g:=Bt ap aq;obtain⟨a7,l7,c7,rfl⟩:=aj.form;have W:=boxed_below n1 g;have x0:=W.cell;have x1:=W.frozen;have Qq:=Y (Nu W (x:=F a7 l7 c7) aj);have Qn:=Y ((Bt Qi.o g).setCell (p:=⟨w.heap.size+1+1,0,none⟩) (by show w.heap.size<=w.heap.size+1+1;omega) (F a7 l7 c7));clear aj g W))
 exact A0 (v:=M #[F a7 l7 c7]) (by simp[results,Tryz.results138,go_sem,x0]) rfl ⟨_,rfl,Qq.o,Qn.o⟩
end M3
section
def El:Nat->List Rat->List Rat->List (List Rat)
 |0,a,_=>[a]
 |n+1,a,b=>if b=[]then [a]else a::El n b (Xo a b)
theorem jY:∀(n m:Nat) (a b:List Rat),Jd b=b->b.length<=n->b.length<=m->El n a b=El m a b:=by
 intro n;induction n with
 |zero=>
  intro m a b _ h _;have d:b=[]:=L7 O;subst d;cases m with
  |zero=>rfl
  |succ m=>simp[El]
 |succ n e=>
  intro m a b tb h f;by_cases c:b=[]
  . subst c;cases m with
    |zero=>simp[El]
    |succ m=>simp[El]
  . have hl:0<b.length:=Ae.2 c;cases m with
    |zero=>omega
    |succ m=>
     have g:=XO (a:=a) tb c;simp only[El,BB c];rw[e m b (Xo a b) (Kg _ _) O O]
def GG(a b:List Rat):List (List Rat):=El b.length a b
theorem LR(a:List Rat):GG a []=[a]:=rfl
theorem Kh{a b:List Rat}(tb:Jd b=b)(c:b≠[]):GG a b=a::GG b (Xo a b):=by
 have e:=XO (a:=a) tb c;have hl:0<b.length:=Ae.2 c;unfold GG;obtain⟨n,d⟩:∃n,b.length=n+1:=⟨b.length-1,O⟩;rw[d,El,BB c];congr 1;exact jY _ _ _ _ (Kg _ _) O (Aa _)
def ER(p q:List Rat):List (List Rat):=GG (JK p) (JK q)
open Go.RowKit Go.Shelf
theorem Jh.setB{V:I}{v:Q}{ps:List Rat}(h:Jh V v ps){B:Nat}{a:Option Addr}{l c:Nat}(b:Boxed V B 25 (F a l c)){u:Q}:Jh (V.setCell ⟨B,0,none⟩ u) v ps:=M3.Nu b h
end
namespace M3
open Go.RowKit Go.Shelf
def Do(V:I)(B:Nat)(a:Option Addr)(l c:Nat):Prop:=Boxed V B 25 (F a l c)
section
variable {V V':World} {B B':Nat} {a a':Option Addr} {l c l' c':Nat}
theorem Do.cell(h:Do V B a l c):V.cell? ⟨B,0,none⟩=some (F a l c):=Boxed.cell h
theorem Do.frozen(h:Do V B a l c):V.frozen? ⟨B,0,none⟩=false:=Boxed.frozen h
theorem Do.below(h:Do V B a l c)(b:Bl V V'):Do V' B a l c:=boxed_below h b
theorem Do.far(h:Do V B a l c)(b:B≠B'){u:Q}:Do (V.setCell ⟨B',0,none⟩ u) B a l c:=Bx.far (cs:=#[F a l c]) h (p:=⟨B',0,none⟩) b u
theorem Do.put(h:Do V B a l c):Do (V.setCell ⟨B,0,none⟩ (F a' l' c')) B a' l' c':=(show Boxed V B 25 (F a l c)from h).set _
end
def GB(G:List (List Rat)->I->Prop):Prop:=∀H W W',G H W->Bl W W'->G H W'
def MD(B4 B5:Nat)(G:List (List Rat)->I->Prop):Prop:=∀H W B a l c u,B=B4\/B=B5->Do W B a l c->G H W->G H (W.setCell ⟨B,0,none⟩ u)
def IB(B4 B5:Nat)(G:List (List Rat)->I->Prop)(H:List (List Rat))(V:I)(v4 v5:Q)(p q:List Rat):Prop:=(GB G/\MD B4 B5 G)/\G H V/\Jh V v4 p/\Jh V v5 q
section
variable {B4 B5:Nat} {G:List (List Rat)->World->Prop} {H:List (List Rat)} {V V':World} {v4 v5:Value} {p q:List Rat}
theorem IB.below(h:IB B4 B5 G H V v4 v5 p q)(a:Bl V V'):IB B4 B5 G H V' v4 v5 p q:=⟨h.1,h.1.1 _ _ _ h.2.1 a,h.2.2.1.below a,h.2.2.2.below a⟩
theorem IB.put(h:IB B4 B5 G H V v4 v5 p q){B:Nat}(d:B=B4\/B=B5){a:Option Addr}{l c:Nat}(b:Do V B a l c){u:Q}:IB B4 B5 G H (V.setCell ⟨B,0,none⟩ u) v4 v5 p q:=⟨h.1,h.1.2 _ _ _ _ _ _ _ d b h.2.1,h.2.2.1.setB b,h.2.2.2.setB b⟩
end
def Nv(V:I)(B:Nat)(r:List Rat):Prop:=∃a l c,Do V B a l c/\Jh V (M #[F a l c]) r
theorem Nv.below{V V':I}{B:Nat}{r:List Rat}(h:Nv V B r)(b:Bl V V'):Nv V' B r:=by
 obtain⟨a,l,c,d,e⟩:=h;exact⟨a,l,c,d.below b,e.below b⟩
def ME(V:I)(B:Nat):Nat:=match V.cell? ⟨B,0,none⟩with|some (F _ l _)=>l|_=>0
variable{p q:List Rat}{K c l:Nat}{a:Option Addr}{V:I}
theorem Do.len{B:Nat}(h:Do V B a l c):ME V B=l:=by
 unfold ME;rw[h.cell]
theorem UR{ps:List Rat}(h:Jh V (M #[F a l c]) ps):l=ps.length:=h.row.forms.1
theorem chnL_head(a b:List Rat):∃t,GG a b=a::t:=by
 unfold GG;cases b.length with
 |zero=>exact⟨_,rfl⟩
 |succ n=>
  rw[El];split
  . exact⟨_,rfl⟩
  . exact⟨_,rfl⟩
def jZ(B4 B5 n l:Nat)(C:List (List Rat))(G:List (List Rat)->I->Prop):Prop:=∀H W a c b d g f p q,H++[p] <+: C->B4<W.heap.size->B5<W.heap.size->G H W->Do W B4 a c b->Do W B5 d g f->Jh W (M #[F a c b]) p->Jh W (M #[F d g f]) q->
 YieldAt Fence.wide (n-1) Tryz.prog l #[M #[F a c b]] W λe W'=>e=.returned (P true)/\G (H++[p]) W'/\Do W' B4 a c b/\Do W' B5 d g f/\Jh W' (M #[F a c b]) p/\Jh W' (M #[F d g f]) q
structure ChOk(K:Nat)(p q:List Rat):Prop where
 tp:Jd p=p
 tq:Jd q=q
 cp:∃D:Int,D≠0/\Sm K D/\EC D K p
 cq:∃D:Int,D≠0/\Sm K D/\EC D K q
 le:4*((max p.length q.length+2)*(DW K p q+1))<=1000000
 ln:max p.length q.length<=1000
theorem ChOk.lp(h:ChOk K p q):Ln K p:=by obtain⟨D,a,_,b⟩:=h.cp;exact b.ln a
theorem ChOk.lq(h:ChOk K p q):Ln K q:=by obtain⟨D,a,_,b⟩:=h.cq;exact b.ln a
theorem ChOk.bd(h:ChOk K p q):DW K p q<=1000000/\K<=1000000/\p.length+q.length<=1000000/\1<=DW K p q:=by
 have a:=h.le;have b:=IP K p q;have c:1*(DW K p q+1)<=(max p.length q.length+2)*(DW K p q+1):=Ah _ O;have d:(max p.length q.length+2)*1<=(max p.length q.length+2)*(DW K p q+1):=Ap _ O;omega
theorem jq(K n:Nat)(hn:1<=n)(Bp Bq:Nat)(pa qa:Option Addr)(pl pc ql qc:Nat)(p q:List Rat)(o:ChOk K p q)(l:Nat)(Gf:Nat->Nat->List (List Rat)->I->Prop)(w:I)(ay:Do w Bp pa pl pc)(az:Do w Bq qa ql qc)(ip:Jh w (M #[F pa pl pc]) p)(iq:Jh w (M #[F qa ql qc]) q)
(aq:∀B4 B5,GB (Gf B4 B5))(aw:∀B4 B5,w.heap.size<=B4->w.heap.size<=B5->MD B4 B5 (Gf B4 B5))(hY:∀B4 B5,w.heap.size<=B4->w.heap.size<=B5->jZ B4 B5 n l (ER p q) (Gf B4 B5))(h0:∀B4 B5 V,w.heap.size<=B4->w.heap.size<=B5->Bl w V->Gf B4 B5 [] V):
 CallsIn Fence.wide n Tryz.prog 136 (#[.func (.yield l) #[] #[]]++#[C (some ⟨Bp,0,none⟩),C (some ⟨Bq,0,none⟩)]) w λe W'=>(∃v,e=.returned v)/\∃B4 B5 H a,(w.heap.size<=B4/\w.heap.size<=B5)/\Gf B4 B5 (H++[a]) W'/\ER p q=H++[a]/\Chn p q (DW K p q) a []:=by
 have Qq:Tryz.prog.follows .mixedOrders=true:=by kernel_rfl
 have Qy:=Y λ(V:I) (hB:Bl w V)=>(ay.below hB).cell;have Qp:=Y λ(V:I) (hB:Bl w V)=>(az.below hB).cell;have Qw:=Y (λ(V:I) (hB:Bl w V)=>show Calls Tryz.prog 137 #[M #[F pa pl pc]] V λe w'=>∃u,e=.returned u/\Jh w' u (JK p)/\Bl V w' by
  obtain⟨D,h1,h2,h3⟩:=o.cp;exact P3 D K _ p V (ip.below hB) o.tp h1 h2 h3 o.bd.2.1)
 have Qo:=Y (λ(V:I) (hB:Bl w V)=>show Calls Tryz.prog 137 #[M #[F qa ql qc]] V λe w'=>∃u,e=.returned u/\Jh w' u (JK q)/\Bl V w' by
  obtain⟨D,h1,h2,h3⟩:=o.cq;exact P3 D K _ q V (iq.below hB) o.tq h1 h2 h3 o.bd.2.1)
 obtain⟨Qx,Qz,Ua⟩:=Df h0 (Chn.start o.tp o.tq o.lp o.lq o.bd.2.2.1) λ(a b:List Rat) (h:Chn p q (DW K p q) a b) (hb:b≠[])=>Chn.next o.tp o.tq o.lp o.lq o.bd.2.2.1 h hb;have Uj:=Y (λ(V:I) (x y:Q) (a b:List Rat) (hx:Jh V x a) (hy:Jh V y b) (h:Chn p q (DW K p q) a b) (hb:b≠[])=>jX (DW K p q) x y a b V hx hy h.wa h.wb h.ta h.tb hb o.bd.2.2.2 (by
  have h1:=h.la;have h2:(a.length+2)*(DW K p q+1)<=(max p.length q.length+2)*(DW K p q+1):=Ah _ O;have h3:=o.le;omega) (h.nx hb))
 have Qu:=Y (show ∀B4 B5,w.heap.size<=B4->w.heap.size<=B5->GB (Gf B4 B5)/\MD B4 B5 (Gf B4 B5)from λB4 B5 h4 h5=>⟨aq B4 B5,aw B4 B5 h4 h5⟩);have Qr:=Y hY;have M1:Hid (Mem w w []):=Y (Mem.nil w);clear o ay az ip iq aq aw hY h0;refine B0 Tryz.func136 rfl trivial ?_ rfl;simp only[Tryz.ntmps136,Av,Ai,AD,Nat.reduceAdd,Nat.reduceSub,AE,AF,AX,AH,Au,AN];gi_wp2_with fail
 refine J4 Qq [[],[0],[],[2,1],[],[],[4,1,3,0,1,4,5],[5,3,6,0,1,2,3,4,5,6]] (by kernel_rfl) DO
  (λD ah V=>∃(tk tl tm tn ti tj:Q) (A g:Option (Nat × Dat)),ah={ tmps:=#[.func (Fn.yield l) #[] #[],C (some ⟨Bp,0,none⟩),C (some ⟨Bq,0,none⟩),E,ti,tj,tk,tl,tm,tn,E,E,E,E,E,E,E,E,E,E,E,E],defers:=[] }/\Hid ((D 0=true->tk=M #[F pa pl pc])/\(D 1=true->Has V tl (.poly (JK p)))/\(D 2=true->tm=M #[F qa ql qc])/\(D 3=true->Has V tn (.poly (JK q)))/\((D 4=false->A=none)/\(D 4=true->D 6=false->∃B:Nat,ti=C (some ⟨B,0,none⟩)/\A=some (B,.poly []))/\(D 6=true->∃B:Nat,ti=C (some ⟨B,0,none⟩)/\A=some (B,.poly (JK p))))/\((D 5=false->g=none)/\(D 5=true->D 7=false->∃B:Nat,tj=C (some ⟨B,0,none⟩)/\g=some (B,.poly []))/\(D 7=true->∃B:Nat,tj=C (some ⟨B,0,none⟩)/\g=some (B,.poly (JK q)))))/\Hid (Mem w V [A,g]))
  ⟨_,_,_,_,_,_,none,none,rfl,Y ⟨Z,Z,Z,Z,Z,Z⟩,Y (((M1.o).none).none).drew⟩ ?step1 ?fin1
 case step1=>
  rintro D ah V i ds T hi f k ⟨tk,tl,tm,tn,ti,tj,A,g,rfl,d,z⟩;have Ug:i<8:=(Ad.1 hi).1;obtain rfl|rfl|rfl|rfl|rfl|rfl|rfl|rfl:=OG i O
  all_goals
   simp only[Aj,Ag,An]at hi;subst hi
  . have e0:=Qy.o V z.o.2.2;clear f;refine Zc ?_;exact⟨_,_,_,_,_,_,_,_,rfl,(Dm d),Y (z.o)⟩
  . obtain rfl:=(d.o.1 (f 0 Z));have X:=Y λ(n9:Nat)=>(BI (n:=n9)).2 (Qw.o V z.o.2.2);clear f;refine BN rfl λK hK=>?_;go_simp;gi_wp2_with(refine⟨trivial,?_⟩;gi_at_call 137;refine(X.o _).mono ?_;rintro e w5 ⟨v5,rfl,aj,ad⟩)
    obtain⟨_,_,G2,G3,G4⟩:=d.o;exact⟨_,_,_,_,_,_,_,_,rfl,Y ⟨λ_=>rfl,λ_=>aj,G2,λh=>(G3 h).below ad,G4⟩,Y (z.o.below ad)⟩
  . have e0:=Qp.o V z.o.2.2;clear f;refine Zc ?_;exact⟨_,_,_,_,_,_,_,_,rfl,(Dj d),Y (z.o)⟩
  . obtain rfl:=(d.o.2.2.1 (f 2 Z));have X:=Y λ(n9:Nat)=>(BI (n:=n9)).2 (Qo.o V z.o.2.2);clear f;refine BN rfl λK hK=>?_;go_simp;gi_wp2_with(refine⟨trivial,?_⟩;gi_at_call 137;refine(X.o _).mono ?_;rintro e w5 ⟨v5,rfl,aj,ad⟩)
    obtain⟨G0,G1,_,_,G4⟩:=d.o;exact⟨_,_,_,_,_,_,_,_,rfl,Y ⟨G0,λh=>(G1 h).below ad,λ_=>rfl,λ_=>aj,G4⟩,Y (z.o.below ad)⟩
  . have hf:D 6=false:=DP T k;obtain rfl:=d.o.2.2.2.2.1.1 k;clear f;refine Zc ?_;obtain⟨G0,G1,G2,G3,_,G5⟩:=d.o;exact⟨_,_,_,_,_,_,_,_,rfl,Y ⟨G0,λh=>(G1 h).alloc _,G2,λh=>(G3 h).alloc _,⟨λh=>by simp at h,λ_ _=>⟨_,rfl,rfl⟩,λh=>by simp[hf]at h⟩,G5⟩,Y (z.o.fill (i:=0) rfl (.poly []) (Nt _))⟩
  . have hf:D 7=false:=DP T k;obtain rfl:=Dp d k;clear f;refine Zc ?_;obtain⟨G0,G1,G2,G3,G4,_⟩:=d.o;exact⟨_,_,_,_,_,_,_,_,rfl,Y ⟨G0,λh=>(G1 h).alloc _,G2,λh=>(G3 h).alloc _,G4,⟨λh=>by simp at h,λ_ _=>⟨_,rfl,rfl⟩,λh=>by simp[hf]at h⟩⟩,Y (z.o.fill (i:=1) rfl (.poly []) (Nt _))⟩
  . obtain⟨B,rfl,rfl⟩:=d.o.2.2.2.2.1.2.1 (f 4 Z) k;have Qe:=f 4 Z;have hv:=(d.o.2.1 (f 1 Z));obtain⟨a1,l1,c1,rfl⟩:=Jh.form (show Jh V _ _ from hv);obtain⟨a,l,c,n,r⟩:=z.o.poly2 (i:=0) rfl;have e0:=n.cell;have f0:=n.frozen;clear f;refine Zc ?_;obtain⟨G0,G1,G2,G3,_,G5⟩:=d.o;exact⟨_,_,_,_,_,_,_,_,rfl,Y ⟨G0,λh=>(G1 h).set1 n rfl _,G2,λh=>(G3 h).set1 n rfl _,⟨λh=>by simp[Qe]at h,λ_ h=>by simp at h,λ_=>⟨B,rfl,rfl⟩⟩,G5⟩,Y (z.o.putPoly (i:=0) rfl hv)⟩
  . obtain⟨B,rfl,rfl⟩:=Dw d (f 5 Z) k;have Qe:=f 5 Z;have hv:=(d.o.2.2.2.1 (f 3 Z));obtain⟨a1,l1,c1,rfl⟩:=Jh.form (show Jh V _ _ from hv);obtain⟨a,l,c,n,r⟩:=z.o.poly2 (i:=1) rfl;have e0:=n.cell;have f0:=n.frozen;clear f;refine Zc ?_;obtain⟨G0,G1,G2,G3,G4,_⟩:=d.o;exact⟨_,_,_,_,_,_,_,_,rfl,Y ⟨G0,λh=>(G1 h).set1 n rfl _,G2,λh=>(G3 h).set1 n rfl _,G4,⟨λh=>by simp[Qe]at h,λ_ h=>by simp at h,λ_=>⟨B,rfl,rfl⟩⟩⟩,Y (z.o.putPoly (i:=1) rfl hv)⟩
 rintro D ah V2 ae ⟨tk,tl,tm,tn,ti,tj,A,g,rfl,d,z⟩;obtain⟨j,rfl,rfl⟩:=d.o.2.2.2.2.1.2.2 (ae 6 DO);obtain⟨B4,rfl,rfl⟩:=d.o.2.2.2.2.2.2.2 (ae 7 DO);obtain rfl:=d.o.1 (ae 0 DO);obtain rfl:=d.o.2.2.1 (ae 2 DO);clear d ae M1;have M2:Hid (Mem w V2 [some (j,.poly (JK p)),some (B4,.poly (JK q))]):=z;clear z;obtain⟨a5,R,N,n5,r5⟩:=M2.o.poly2 (i:=0) rfl;obtain⟨a6,l6,c6,n6,r6⟩:=M2.o.poly2 (i:=1) rfl;have Qc:=Y (show j≠B4/\w.heap.size<=j/\w.heap.size<=B4 from⟨M2.o.ne 0 1 rfl rfl DO,M2.o.ge 0 rfl,M2.o.ge 1 rfl⟩);obtain⟨Ql,Qi,Qm,Qv⟩:=Dy (Qx.o j B4 V2 Qc.o.2.1 Qc.o.2.2 M2.o.2.2) (Qu.o j B4 Qc.o.2.1 Qc.o.2.2) (Qr.o j B4 Qc.o.2.1 Qc.o.2.2) (show ∀H a W,Gf j B4 (H++[a]) W->ER p q=H++[a]->Chn p q (DW K p q) a []->∃B4 B5 H a,(w.heap.size<=B4/\w.heap.size<=B5)/\Gf B4 B5 (H++[a]) W/\ER p q=H++[a]/\Chn p q (DW K p q) a []from λH a W h1 h2 h3=>⟨j,B4,H,a,⟨Qc.o.2.1,Qc.o.2.2⟩,h1,h2,h3⟩);clear Qx Qu Qr;obtain⟨G,hG⟩:=ex (Gf j B4);rw[hG]at Ql Qi Qm Qv;clear hG;have Qn:Hid (IB j B4 G [] V2 (M #[F a5 R N]) (M #[F a6 l6 c6]) (JK p) (JK q)):=Y ⟨Qi.o,Ql.o,r5,r6⟩;have N4:Hid (Do V2 j a5 R N):=Y n5;have N5:Hid (Do V2 B4 a6 l6 c6):=Y n6;clear n5 n6 r5 r6 M2 Qw Qo Ql Qy Qp;gi_wp2;gi_loopw [] (λwr=>∃(H:List (List Rat)) (a b:List Rat) (A g:Option Addr) (l4 c4 R N:Nat),Hid (IB j B4 G H wr (M #[F A l4 c4]) (M #[F g R N]) a b)/\Hid (Do wr j A l4 c4)/\Hid (Do wr B4 g R N)/\Hid (Chn p q (DW K p q) a b)/\Hid (ER p q=H++GG a b)) λwr=>ME wr B4
 case atStart=>exact⟨[],_,_,_,_,_,_,_,_,Qn,N4,N5,Qz,Y rfl⟩
 case round=>
  clear Qn N4 N5 Qz;obtain⟨H,a,b,A,g,l4,c4,R,N,HG,H4,H5,X,HH⟩:=hrel;obtain⟨fn,tmps,assign,body,hy,ax⟩:=Qm.o H wr A l4 c4 g R N a b (by obtain⟨t,ht⟩:=chnL_head a b;exact⟨t,by rw[HH.o,ht];simp⟩) (Bx.lt (cs:=#[F A l4 c4]) H4.o) (Bx.lt (cs:=#[F g R N]) H5.o) HG.o.2.1 H4.o H5.o HG.o.2.2.1 HG.o.2.2.2;have e4:=H4.o.cell;gi_wp2;refine ax.mono ?_;rintro e W3 ⟨rfl,ap,an,am,bc,ak⟩;have Qt:Hid (IB j B4 G (H++[a]) W3 (M #[F A l4 c4]) (M #[F g R N]) a b):=Y ⟨Qi.o,ap,bc,ak⟩;obtain⟨Up,Um,Qh⟩:=Df (UR ak) (H5.o.len) (Yv _ b W3 ak);have e5:=am.cell;have Ul:=Y an;have Uo:=Y am;clear hy ax e4 ap an am bc ak HG H4 H5;by_cases af:b=[]
  . have HE:=Y (show ER p q=H++[a]by rw[HH.o,af];rfl);have Ui:=Y (show Chn p q (DW K p q) a []by have:=X.o;rwa[af]at this);rw[af,show((([]:List Rat).length:Int)-1)=-1 from rfl]at Qh;gi_wp2_with(refine⟨trivial,?_⟩;gi_at_call 30;refine((BI (n:=_)).2 Qh.o).mono ?_;clear Qh;rintro e w4 ⟨rfl,ai⟩)
    go_end0;exact⟨⟨_,rfl⟩,Qv.o H a _ (Qt.o.below ai).2.1 HE.o Ui.o⟩
  . obtain⟨m,hm⟩:=ex (b.length-1:Nat);have Qs:(b.length:Int)-1=(m:Int):=by have:=Ae.2 af;omega
    rw[Qs]at Qh;obtain⟨Uh,Uk,Ub,Qj⟩:=Dy (Ua.o a b X.o af) (XO (a:=a) X.o.tb af) (show ER p q=(H++[a])++GG b (Xo a b)by rw[HH.o,Kh X.o.tb af,Fi];rfl) λ(V:I) (x y:Q) (hx:Jh V x a) (hy:Jh V y b)=>Uj.o V x y a b hx hy X.o af;have bf:¬(m:Int)<0:=O
    clear hm Qs af;gi_wp2_with(refine⟨trivial,?_⟩;gi_at_call 30;refine((BI (n:=_)).2 Qh.o).mono ?_;clear Qh;rintro e w4 ⟨rfl,ai⟩)
    have Ud:=(Qt.o.below ai).below ((BA _ w4).drew);have Un:=(Ul.o.below ai).below ((BA _ w4).drew);have Ue:=(Uo.o.below ai).below ((BA _ w4).drew);refine J4 Qq [[],[],[],[1,2],[0,3,0,1],[3,4,0,1,2,3,4]] (by kernel_rfl) DO
     (λD ah V=>∃(tc td te tg:Q),ah={ tmps:=#[.func (Fn.yield l) #[] #[],C (some ⟨Bp,0,none⟩),C (some ⟨Bq,0,none⟩),E,C (some ⟨j,0,none⟩),C (some ⟨B4,0,none⟩),M #[F pa pl pc],tl,M #[F qa ql qc],tn,.func (Fn.yield l) #[] #[],M #[F A l4 c4],P true,P true,M #[F g R N],.int .i64 ↑m,P true,P true,tc,td,te,tg],defers:=[] }/\Hid ((D 0=true->tc=M #[F g R N])/\(D 1=true->td=M #[F A l4 c4])/\(D 2=true->te=M #[F g R N])/\(D 3=true->D 5=false->Jh V tg (Xo a b)))/\Hid (IB j B4 G (H++[a]) V (M #[F A l4 c4]) (M #[F g R N]) a b)/\Hid ((D 4=false->Do V j A l4 c4)/\(D 4=true->Do V j g R N))/\Hid ((D 5=false->Do V B4 g R N)/\(D 5=true->Nv V B4 (Xo a b))))
     ⟨_,_,_,_,rfl,Y ⟨Z,Z,Z,Z⟩,Y Ud,Y ⟨λ_=>Un,Z⟩,Y ⟨λ_=>Ue,Z⟩⟩ ?step7 ?fin7
    case step7=>
     rintro D ah V i ds T hi f k ⟨tc,td,te,tg,rfl,d,L,S,s⟩;have Ug:i<6:=(Ad.1 hi).1;obtain rfl|rfl|rfl|rfl|rfl|rfl:=OE i O
     all_goals
      simp only[Aj,Ag,An]at hi;subst hi
     . have Qf:=L.o;have Qb:=S.o.1 (DP T k);have U:=s.o.1 (DP T k);have e0:=U.cell;clear f;refine Zc ?_;exact⟨_,_,_,_,rfl,Y ⟨λ_=>rfl,d.o.2.1,d.o.2.2.1,d.o.2.2.2⟩,Y (L.o),S,Y ⟨s.o.1,s.o.2⟩⟩
     . have Qf:=L.o;have Qb:=S.o.1 (DP T k);have U:=s.o.1 (DP T k);have e0:=Qb.cell;clear f;refine Zc ?_;exact⟨_,_,_,_,rfl,Y ⟨d.o.1,λ_=>rfl,d.o.2.2.1,d.o.2.2.2⟩,Y (L.o),S,Y ⟨s.o.1,s.o.2⟩⟩
     . have Qf:=L.o;have Qg:D 4=false:=DP T (DP (a:=3) T k);have Qb:=S.o.1 Qg;have U:=s.o.1 (DP T k);have e0:=U.cell;clear f;refine Zc ?_;exact⟨_,_,_,_,rfl,Y ⟨d.o.1,d.o.2.1,λ_=>rfl,d.o.2.2.2⟩,Y (L.o),S,Y ⟨s.o.1,s.o.2⟩⟩
     . have Qf:=L.o;have Qb:=S.o.1 (DP T k);have U:=s.o.1 (DP T k);obtain rfl:=d.o.2.1 (f 1 Z);obtain rfl:=d.o.2.2.1 (f 2 Z);clear f;have X:=Y λ(n9:Nat)=>(BI (n:=n9)).2 (Qj.o V _ _ Qf.2.2.1 Qf.2.2.2);refine BN rfl λK hK=>?_;go_simp;gi_wp2_with(refine⟨trivial,?_⟩;gi_at_call 138;refine(X.o _).mono ?_;rintro e w5 ⟨v5,rfl,aj,ad⟩)
       exact⟨_,_,_,_,rfl,Y ⟨d.o.1,λ_=>rfl,λ_=>rfl,λ_ _=>aj⟩,Y (L.o.below ad),Y ⟨λh=>(S.o.1 h).below ad,λh=>(S.o.2 h).below ad⟩,Y ⟨λh=>(s.o.1 h).below ad,λh=>(s.o.2 h).below ad⟩⟩
     . have Qf:=L.o;have Qb:=S.o.1 k;have Qd:D 5=false:=DP T k;have U:=s.o.1 Qd;obtain rfl:=d.o.1 (f 0 Z);have e0:=Qb.cell;have f0:=Qb.frozen;clear f;refine Zc ?_;exact⟨_,_,_,_,rfl,Y ⟨λ_=>rfl,d.o.2.1,d.o.2.2.1,λh h2=>(d.o.2.2.2 h h2).setB Qb⟩,Y (L.o.put (Or.inl rfl) Qb),Y ⟨λh=>by simp at h,λ_=>Qb.put⟩,Y ⟨λh=>(s.o.1 h).far λe=>Qc.o.1 e.symm,λh=>by simp[Qd]at h⟩⟩
     . have Qf:=L.o;have U:=s.o.1 k;have h0:=d.o.2.2.2 (f 3 Z) k;have Qk:=f 4 Z;have e0:=U.cell;have f0:=U.frozen;obtain⟨x7,l7,c7,rfl⟩:=Jh.form h0;clear f;refine Zc ?_;exact⟨_,_,_,_,rfl,Y ⟨d.o.1,d.o.2.1,d.o.2.2.1,λ_ h=>by simp at h⟩,Y (L.o.put (Or.inr rfl) U),Y ⟨λh=>by simp[Qk]at h,λh=>(S.o.2 h).far Qc.o.1⟩,Y ⟨λh=>by simp at h,λ_=>⟨x7,l7,c7,U.put,h0.setB U⟩⟩⟩
    case fin7=>
     rintro D ah V ae ⟨tc,td,te,tg,rfl,d,L,S,s⟩;obtain⟨x7,l7,c7,n7,i7⟩:=s.o.2 (ae 5 DO);have n6:=S.o.2 (ae 4 DO);have Uf:Hid (IB j B4 G (H++[a]) V (M #[F g R N]) (M #[F x7 l7 c7]) b (Xo a b)):=Y ⟨Qi.o,L.o.2.1,L.o.2.2.2,i7⟩;obtain⟨Uc,N6,N7⟩:=Df (show ME V B4<ME wr B4 by rw[n7.len,Um.o,UR i7,Up.o];exact Uk.o) n6 n7;clear d L S s ae n6 n7 i7;gi_wp2;go_roundw
     case rel=>exact⟨H++[a],b,Xo a b,_,_,_,_,_,_,Uf,N6,N7,Uh,Ub⟩
     case measure=>exact Uc.o
end M3
namespace M3
open Go.RowKit Go.Shelf
def LS(w V:I)(a:Q)(ps:List Rat):Prop:=RowK false V a ps/\Bl w V
theorem LS.below{w V V':I}{b:Q}{ps:List Rat}(h:LS w V b ps)(a:Bl V V'):LS w V' b ps:=⟨h.1.below a,Bt h.2 a⟩
variable{a p q:List Rat}{K:Nat}
theorem jr(c:Rat):((1:Int):Rat)/c=1/c:=rfl
theorem US(va:Q)(ps:List Rat)(w:I)(o:RowK false w va ps)(ah:Jd ps=ps)(ae:Da ps)(af:ps≠[]->Sq (1/cf ps (ps.length-1)))(ax:ps.length<1099511627776):
 Calls Tryz.prog 156 #[va] w λe w'=>∃u,e=.returned u/\RowK false w' u (Jy ps)/\Bl w w':=by
 have Qi:Tryz.prog.follows .mixedOrders=true:=by kernel_rfl
 obtain⟨a,la,ca,rfl⟩:=o.form;obtain⟨aw,ay,az,bh,s,t,aa,bb,ll,cc,kk,dd,hc⟩:=o.formsF;by_cases j:ps=[]
 . have Qf:la=0:=by rw[aw,j];rfl
   have HA:=Y (show RowK false w (F a la ca) (Jy ps)by rw[j]at o ⊢;exact o);clear o hc ae af ah j;go_enter Tryz.func156,Tryz.ntmps156
   go_wp2_with fail
   go_ret;exact⟨_,rfl,HA.o,BA _ _⟩
 . have Qf:¬(la:Int)=0:=by have:=Ae.2 j;omega
   obtain⟨m,hm⟩:=ex (la-1:Nat);have bi:(la:Int)-1=(m:Int):=O
   have bj:IntKind.i64.wrap (m:Int)=(m:Int):=by rw[BL];omega
   have bk:(m:Int)<(la:Int):=O
   have N:ps.length-1=m:=O
   obtain⟨aq,g,rfl,G,ai,aj,ak,am⟩:=hc m O;have Qj:=Y (show ∀V,Bl w V->(V.cell? ⟨g,m*4,none⟩=some (F (aa m) (ll m) (cc m))/\V.cell? ⟨g,m*4+1,none⟩=some (P (s m))/\V.cell? ⟨g,m*4+2,none⟩=some (F (bb m) (kk m) (dd m))/\V.cell? ⟨g,m*4+3,none⟩=some (P (t m)))/\Jl V (M #[F (aa m) (ll m) (cc m),P (s m),F (bb m) (kk m) (dd m),P (t m)]) (cf ps m)from λV B=>by
    exact⟨⟨(B.cell (p:=⟨g,_,none⟩) G).trans ai,(B.cell (p:=⟨g,_,none⟩) G).trans aj,(B.cell (p:=⟨g,_,none⟩) G).trans ak,(B.cell (p:=⟨g,_,none⟩) G).trans am⟩,aq.below B⟩)
   obtain⟨Qg,Qe,Qk,Qd,Qh⟩:=He (show cf ps m≠0 by rw[<-N];exact Js ah j) (show Sq (1/cf ps m)by rw[<-N];exact af j) (show Jd (Yr (1/cf ps m) ps)=Jy ps by unfold Jy DU;rw[N]) ae ax;have R:LS w w.drew (F (some ⟨g,0,none⟩) la ca) ps:=LS.below ⟨o,BA _ _⟩ ((BA _ w).drew);have HX:=Y R;clear o hc aq G ai aj ak am ae af ah j N aw ay az ax R;go_enter Tryz.func156,Tryz.ntmps156
   go_upto_region 3 with fail
   obtain⟨bz,ap⟩:=ex (((la:Int)==0));rw[ap];clear ap;have R:=HX.o;refine Jr Qi [[],[],[],[],[3],[4],[2,5],[6],[1,7,1],[0,8,8],[9,9,0,1,2,3,4,5,6,7,8,9]] (by kernel_rfl) DO
    (λD ad V=>∃(tk tl tm ta tb S T U W X L:Q),ad={ tmps:=#[F (some ⟨g,0,none⟩) la ca,E,L,F (some ⟨g,0,none⟩) la ca,.int .i64 ↑la,P bz,E,tk,tl,tm,ta,tb,S,T,U,W,X],defers:=[] }/\Hid ((D 0=true->tk=F (some ⟨g,0,none⟩) la ca)/\(D 1=true->Jl V tl ((1:Int):Rat))/\(D 2=true->tm=F (some ⟨g,0,none⟩) la ca)/\(D 3=true->ta=F (some ⟨g,0,none⟩) la ca)/\(D 4=true->tb=.int .i64 (la:Int))/\(D 5=true->S=.int .i64 (m:Int))/\(D 6=true->T=C (some ⟨g,m*4,none⟩))/\(D 7=true->Jl V U (cf ps m))/\(D 8=true->Jl V W (1/cf ps m))/\(D 9=true->RowK false V X (Jy ps))/\(D 10=true->RowK false V L (Jy ps)))/\Hid (LS w V (F (some ⟨g,0,none⟩) la ca) ps))
    (E8 ⟨_,_,_,rfl,Y ⟨Z,Z,Z,Z,Z,Z,Z,Z,Z,Z,Z⟩,Y R⟩) ?step1 ?fin1
   case step1=>
    rintro D ad V i ds bf hi d bc ⟨tk,tl,tm,ta,tb,S,T,U,W,X,L,rfl,c,b⟩;have bg:i<11:=(Ad.1 hi).1;obtain rfl|rfl|rfl|rfl|rfl|rfl|rfl|rfl|rfl|rfl|rfl:=Ho i O
    all_goals
     simp only[Aj,Ag,An]at hi;subst hi
    . have l:=b.o;clear d;refine DT ?_;exact⟨(Dm c),Y (b.o)⟩
    . have l:=b.o;clear d;have n:=Y (YH 1 O O V);refine Jb rfl rfl λK hK=>?_;go_simp;go_wp2_with(go_at_call 41;refine n.o.mono ?_;rintro e w5 ⟨v5,rfl,H,f⟩)
      obtain⟨G0,_,r,v,x,y,z,A,G8,G9,q⟩:=c.o;exact E8 ⟨_,_,_,rfl,Y ⟨G0,λ_=>H,r,v,x,y,z,λh=>(A h).below f,λh=>(G8 h).below f,λh=>(G9 h).below f,λh=>(q h).below f⟩,Y (b.o.below f)⟩
    . have l:=b.o;clear d;refine DT ?_;exact⟨(Dj c),Y (b.o)⟩
    . have l:=b.o;clear d;refine DT ?_;exact⟨(Dn c),Y (b.o)⟩
    . have l:=b.o;obtain rfl:=c.o.2.2.2.1 (d 3 Z);clear d;refine DT ?_;exact⟨(D3 (Dn c)),Y (b.o)⟩
    . have l:=b.o;obtain rfl:=c.o.2.2.2.2.1 (d 4 Z);clear d;refine DT ?_;exact⟨(D4 (D3 c)),Y (b.o)⟩
    . have l:=b.o;obtain rfl:=c.o.2.2.1 (d 2 Z);obtain rfl:=Dp c (d 5 Z);clear d;refine DT ?_;exact⟨(ED (D4 (Dj c))),Y (b.o)⟩
    . have l:=b.o;obtain rfl:=Dw c (d 6 Z);obtain⟨⟨e0,e1,e2,e3⟩,hr⟩:=Qj.o V l.2;clear d;refine DT ?_;exact⟨(ET (ED c) λ_=>hr),Y (b.o)⟩
    . have l:=b.o;have j:=c.o.2.1 (d 1 Z);have h1:=EA c (d 7 Z);clear d;have n:=Y (PV _ _ ((1:Int):Rat) (cf ps m) V j h1 (Sq.of (k:=1) ⟨Sm.one 1 O,Sm.one 1 O⟩ O) (Qd.o.at m) Qg.o);rw[jr]at n;clear j h1;refine Jb rfl rfl λK hK=>?_;go_simp;go_wp2_with(go_at_call 158;refine n.o.mono ?_;rintro e w5 ⟨v5,rfl,H,f⟩)
      obtain⟨G0,G1,r,v,x,y,z,A,_,G9,q⟩:=c.o;exact E8 ⟨_,_,_,rfl,Y ⟨G0,λh=>(G1 h).below f,r,v,x,y,z,λh=>(A h).below f,λ_=>H,λh=>(G9 h).below f,λh=>(q h).below f⟩,Y (b.o.below f)⟩
    . have l:=b.o;have j:=D8 c (d 8 Z);obtain rfl:=c.o.1 (d 0 Z);clear d;have n:=Y (NT _ _ ps (1/cf ps m) V l.1 j Qd.o Qe.o Qh.o);rw[Qk.o]at n;clear j;refine Jb rfl rfl λK hK=>?_;go_simp;go_wp2_with(go_at_call 111;refine n.o.mono ?_;rintro e w5 ⟨v5,rfl,H,f⟩)
      obtain⟨_,G1,r,v,x,y,z,A,G8,_,q⟩:=c.o;exact E8 ⟨_,_,_,rfl,Y ⟨λ_=>rfl,λh=>(G1 h).below f,r,v,x,y,z,λh=>(A h).below f,λh=>(G8 h).below f,λ_=>H,λh=>(q h).below f⟩,Y (b.o.below f)⟩
    . have l:=b.o;have j:=EE c (d 9 Z);clear d;refine DT ?_;exact⟨(IW c λ_=>j),Y (b.o)⟩
   case fin1=>
    rintro D ad V an ⟨tk,tl,tm,ta,tb,S,T,U,W,X,L,rfl,c,b⟩;have h9:=c.o.2.2.2.2.2.2.2.2.2.2 (an 10 DO);have HH:=Y (show RowK false V L (Jy ps)/\Bl w V from⟨h9,b.o.2⟩);clear c b an h9;go_wp2_with fail
    go_ret;exact⟨_,rfl,HH.o⟩
theorem Rhn.dvn{b:List Rat}(h:Rhn p q (DW K p q) a b)(i:b≠[]):∃D E:Int,Dvn D E E (DW K p q) (DW K p q) a b:=by
 obtain⟨D,d1,e,f⟩:=h.ca;obtain⟨E,c,d,g⟩:=h.cb;exact⟨D,E,d1,e,f,c,d,g,c,d,by rw[h.mb i,Rat.divInt_self' c]⟩
theorem ChOk.fit(b:ChOk K p q)(f:a.length<=max p.length q.length):DW K p q+a.length*(DW K p q+1)+1+(2*DW K p q+1)<=1000000:=by
 have c:(a.length+2)*(DW K p q+1)<=(max p.length q.length+2)*(DW K p q+1):=Ah _ O;have d:(a.length+2)*(DW K p q+1)=a.length*(DW K p q+1)+2*(DW K p q+1):=AC _ _ _;have e:=b.le;omega
theorem js(K:Nat)(va vb:Q)(p q:List Rat)(w:I)(ha:RowK false w va p)(R:RowK false w vb q)(c:ChOk K p q):
 Calls Tryz.prog 155 #[va,vb] w λe f=>∃u,e=.returned u/\RowK false f u (JQ p q)/\Bl w f:=by
 obtain⟨A,hA⟩:=ex (DW K p q);have s:=c.bd;have Qo:=c.ln;have mono:∀(r:List Rat),Jd r=r->(∃D:Int,D≠0/\Sm 1000000 D/\EC D 1000000 r)->r.length<=1000->∀(V:I) (x:Q),RowK false V x r->Calls Tryz.prog 156 #[x] V λe f=>∃u,e=.returned u/\RowK false f u (Jy r)/\Bl V f:=λr tr hr hl V x k=>by
  obtain⟨D,d1,H,L⟩:=hr;exact US x r V k tr (Da.of λi=>Sq.of ((L i).smq d1 H) (Aa _)) (λj=>by
   rw[F0,CW];exact Sq.of (((L _).smq d1 H).inv (Js tr j)) (Aa _)) O
 have Qa:∀(r:List Rat),(∃D:Int,D≠0/\Sm K D/\EC D K r)->∃D:Int,D≠0/\Sm 1000000 D/\EC D 1000000 r:=λr h=>by
  obtain⟨D,d1,H,L⟩:=h;exact⟨D,d1,H.mono s.2.1,λi=>(L i).mono s.2.1⟩
 obtain⟨H1,H2,z,Qg⟩:=Dy (λ(V:I) (hB:Bl w V)=>mono p c.tp (Qa p c.cp) O V va (ha.below hB)) (λ(V:I) (hB:Bl w V)=>mono q c.tq (Qa q c.cq) O V vb (R.below hB)) (Rhn.start c.tp c.tq c.lp c.lq s.2.2.1) λ(a b:List Rat) (h:Rhn p q (DW K p q) a b) (R:b≠[])=>Rhn.next c.tp c.tq c.lp c.lq s.2.2.1 h R;have Qk:=Y (λ(a b:List Rat) (h:Rhn p q (DW K p q) a b) (j:b≠[]) (V:I) (x y:Q) (k:RowK false V x a) (hy:RowK false V y b)=>show Calls Tryz.prog 110 #[x,y] V λe f=>∃u v,e=.returned (.tuple #[u,v])/\RowK false f u (Jz a b)/\RowK false f v (JE a b)/\Bl V f by
  obtain⟨D,E,l⟩:=Rhn.dvn h j;have hf:=c.fit h.la;exact Px _ (DW K p q) x y a b V k hy (l.divS a.length O) l.start l.sq h.ta h.tb j (by have:=h.la;omega))
 have Qh:=Y (λ(a b:List Rat) (h:Rhn p q (DW K p q) a b) (j:b≠[]) (V:I) (x:Q) (k:RowK false V x (JE a b))=>mono (JE a b) (Y5 _ _) (by
  obtain⟨D,E,l⟩:=Rhn.dvn h j;have hf:=c.fit h.la;obtain⟨m,hm⟩:=ex (a.length-(b.length-1));have ak:m*(DW K p q+1)<=a.length*(DW K p q+1):=Ah _ O;have N:=l.den m;have h2:=(l.rem hm).1;exact⟨_,N.1,N.2.mono O,λi=>(h2 i).mono O⟩) (by have N:=(Yh a b h.tb j).2.1;have h2:=h.lb;omega) V x k)
 have Ql:=Y (λ(a:List Rat) (h:Rhn p q (DW K p q) a [])=>show a=JQ p q by rw[<-h.gc,UA,h.ma]);have Qi:=Y (λ(a b:List Rat) (h:Rhn p q (DW K p q) a b)=>show b.length<=1000 by have:=h.lb;omega);rw[hA]at z Qg Qk Qh Ql Qi;clear mono Qa c s Qo ha R hA;go_enter Tryz.func155,Tryz.ntmps155
 have Qf:Bl w w:=BA _ _;go_wp2_with(first
  |(go_at_call 156;refine(H1.o _ Qf).mono ?_;clear H1;rintro e w1 ⟨u1,rfl,o,ah⟩;have Qd:=Bt Qf ah;clear Qf)
  |(go_at_call 156;refine(H2.o _ Qd).mono ?_;clear H2;rintro e w2 ⟨u2,rfl,t,ad⟩;have Qm:=Bt Qd ad;have o:=o.below ad))
 obtain⟨T,W,U,rfl⟩:=o.form;obtain⟨X,g,yc,rfl⟩:=t.form;go_loopw [5,6,7,8] (λav bv _ _ wr=>∃(a b:List Rat) (T:Option Addr) (W U:Nat) (X:Option Addr) (g yc:Nat),av=F T W U/\bv=F X g yc/\g<=1000/\Hid (g=b.length)/\Hid (RowK false wr (F T W U) a)/\Hid (RowK false wr (F X g yc) b)/\Hid (Rhn p q A a b)/\Hid (Bl w wr)) λ_ bv _ _ _=>lenOf bv
 case atStart=>exact⟨_,_,_,_,_,_,_,_,rfl,rfl,by have:=Qi.o _ _ z.o;have:=t.formsF.1;omega,Y t.formsF.1,Y o,Y t,z,Y Qm⟩
 case round=>
  clear o t ah ad Qd Qm z;obtain⟨a,b,T,W,U,X,g,yc,rfl,rfl,am,B,HA,HB,n,HQ⟩:=hrel;by_cases d:b=[]
  . have Qn:¬(0:Int)<(g:Int):=by have:=B.o;rw[d]at this;simp at this;omega
    have Qq:=Y (show a=JQ p q from Ql.o a (by have:=n.o;rwa[d]at this));clear d;go_wp2_with fail
    go_ret;exact⟨_,rfl,by rw[<-Qq.o];exact HA.o,HQ.o⟩
  . have Qn:(0:Int)<(g:Int):=by have:=B.o;have:=Ae.2 d;omega
    obtain⟨H3,H4,HN,Qj⟩:=Dy (Qk.o a b n.o d wr _ _ HA.o HB.o) (λ(V:I) (x:Q) (k:RowK false V x (JE a b))=>Qh.o a b n.o d V x k) (Qg.o a b n.o d) (show(Jy (JE a b)).length<b.length by rw[Xf (Y5 _ _)];exact(Yh a b n.o.tb d).2.1);clear d;go_wp2_with(first
     |(go_at_call 110;refine H3.o.mono ?_;clear H3;rintro e w3 ⟨u3,v3,rfl,aj,ai,S⟩)
     |(go_at_call 156;refine(H4.o _ _ ai).mono ?_;clear H4;rintro e w4 ⟨u4,rfl,af,ae⟩;obtain⟨za,zl,zc,rfl⟩:=af.form))
    obtain⟨G,Qr,Qp⟩:=Df af ((HB.o.below S).below ae) ((Bt HQ.o S).trans (ae.mono (Am HQ.o.size S.size)));clear aj ai S af ae;go_roundw
    case rel=>exact⟨b,Jy (JE a b),_,_,_,_,_,_,rfl,rfl,by have:=G.o.formsF.1;have:=Qj.o;have:=B.o;omega,Y G.o.formsF.1,Qr,G,HN,Qp⟩
    case measure=>
     show zl<g;have N:=G.o.formsF.1;have h2:=Qj.o;have h3:=B.o;omega
