import Derived.Test.YtakpoihdghihmaaGreatDoorR43
open Go.Value renaming slice->E,pointer->C,agg->M,bool->X
open Go renaming World->F,undef->I,Value->f
open Go.Proofs.Tryz renaming prog->R
set_option maxRecDepth 100000
set_option maxHeartbeats 16000000
namespace Go.Proofs.YtakpoihdghihmaaGreatDoor
namespace M3
open Go.RowKit Go.Shelf
attribute [local go_sem] Oper.semAt_some
variable{b:Bool}{ps qs:List Rat}{c:Rat}{t:f}{V:F}
theorem cT(va vb:f)(ps qs:List Rat)(w:F)(ha:Je w va ps)(hb:Je w vb qs)(aw:Sqs ps)(az:Sqs qs)(ay:qs≠[])(ax:∀i,i<=ps.length+1-qs.length->Sq (Xu (cf qs (qs.length-1))^i))(ba:∀i,Sq (cf ps i*EF ps qs)):
 Calls R 182 #[va,vb] w λe w'=>∃u,e=.returned u/\Je w' u (YO ps qs)/\Bl w w':=by
 obtain⟨m,hm⟩:=ex (qs.length-1:Nat);have Uc:0<qs.length:=Ae.2 ay;have Qy:ps.length<=1099511627776:=by
  obtain⟨P,la,Q,rfl⟩:=ha.form;have:=ha.row.forms;omega
 have Qt:qs.length<=1099511627776:=by
  obtain⟨z,lb,A,rfl⟩:=hb.form;have:=hb.row.forms;omega
 obtain⟨L,hL⟩:=ex (Xu (cf qs m):Rat);obtain⟨N,hN⟩:=ex (ps.length+1-qs.length:Nat);obtain⟨e1,ap⟩:=ex ((ps.length:Int)-1:Int);have Qp:(qs.length:Int)-1=(m:Int):=O
 obtain⟨e3,cj⟩:=ex (e1-(m:Int):Int);obtain⟨e4,ck⟩:=ex (e3+1:Int);have cl:IntKind.i64.wrap e3=e3:=by rw[BO];omega
 have cn:IntKind.i64.wrap e4=e4:=by rw[BO];omega
 obtain⟨Qb,Qo,Ub,Qw,Qc,HT,Qu,Qs⟩:=Hd (show(∀i:Nat,(i:Int)<e4↔i<N)/\N<=1099511627777 from⟨λi=>by omega,O⟩) Qp ap hL (show ∀i,i<=N->Sq (L^i)from λi W=>by rw[<-hL,<-hm];exact ax i O) (show DN (L^N) ps=YO ps qs by unfold YO EF;rw[hm,hL,hN]) (show ∀i,Sq (cf ps i*L^N)from λi=>by have:=ba i;unfold EF at this;rwa[hm,hL,hN]at this) aw;have Qz:=Ja az;clear ax ba aw az ay hN hL hm Uc Qy Qt ap Qp;have Ql:Tryz.prog.follows .mixedOrders=true:=by kernel_rfl
 obtain⟨P,la,Q,rfl⟩:=ha.form;obtain⟨z,lb,A,rfl⟩:=hb.form;have M0:=(((Mem.nil w).push (.cell 25 (E P la Q)) (cs:=#[E P la Q]) ⟨rfl,rfl⟩).push (.cell 25 (E z lb A)) (cs:=#[E z lb A]) ⟨rfl,rfl⟩).push (.cell 25 (E none 0 0)) (cs:=#[E none 0 0]) ⟨rfl,rfl⟩;simp only[Ax]at M0;obtain⟨W0,ai⟩:=ex (((w.alloc (.cells #[E P la Q] 25)).alloc (.cells #[E z lb A] 25)).alloc (.cells #[E none 0 0] 25));obtain⟨Qj,HP,HQ⟩:=Db ai (λ(V:F) (hB:Bl w V)=>ha.below hB) λ(V:F) (hB:Bl w V)=>hb.below hB;have M1:Hid (Mem w W0 [some (w.heap.size,.cell 25 (E P la Q)),some (w.heap.size+1,.cell 25 (E z lb A)),some (w.heap.size+1+1,.cell 25 (E none 0 0))]):=Ja (by rw[<-ai];exact M0);clear M0 ai ha hb;go_enter Tryz.func182,Tryz.ntmps182
 go_upto_region 1 with fail
 rw[Qj.o];clear Qj;refine Jn Ql [[],[],[1],[0,2,2],[3,3],[],[5,4,4,0,1,2,3,4,5]] (by kernel_rfl) DF
  (λD ad V=>∃(tn tp ta tb tc tm:f) (x5:Option (Nat × Dat)),ad={ tmps:=#[M #[E P la Q],M #[E z lb A],C (some ⟨w.heap.size,0,none⟩),C (some ⟨w.heap.size+1,0,none⟩),C (some ⟨w.heap.size+1+1,0,none⟩),tm,I,I,tn,tp,ta,tb,tc,I,I,I,I,I,I,I,I,I,I,I,I,I,I,I,I,I,I,I,I,I],defers:=[] }/\Hid ((D 0=true->tn=M #[E z lb A])/\(D 1=true->tp=M #[E z lb A])/\(D 2=true->ta=.int .i64 (m:Int))/\(D 3=true->Has V tb (.rat (cf qs m)))/\(D 4=true->Has V tc (.rat L))/\((D 5=false->x5=none)/\(D 5=true->D 6=false->∃B:Nat,tm=C (some ⟨B,0,none⟩)/\x5=some (B,.rat 0))/\(D 6=true->∃B:Nat,tm=C (some ⟨B,0,none⟩)/\x5=some (B,.rat L))))/\Hid (Mem w V [some (w.heap.size,.cell 25 (E P la Q)),some (w.heap.size+1,.cell 25 (E z lb A)),some (w.heap.size+1+1,.cell 25 (E none 0 0)),x5]))
  ⟨_,_,_,_,_,_,none,rfl,Ja ⟨Z,Z,Z,Z,Z,Z⟩,Ja ((M1.o).none).drew⟩ ?step1 ?fin1
 case step1=>
  rintro D ad V i ds an W q af ⟨tn,tp,ta,tb,tc,tm,x5,rfl,g,o⟩;have Qv:i<7:=(Ac.1 W).1;obtain rfl|rfl|rfl|rfl|rfl|rfl|rfl:=Hv i O
  all_goals
   simp only[Ai,Ag,Ak]at W;subst W
  . have e0:=(o.o.cell (i:=1) rfl).1.cell;clear q;refine Za ?_;exact⟨_,_,_,_,_,_,_,rfl,(De g),Ja (o.o)⟩
  . have e0:=(o.o.cell (i:=1) rfl).1.cell;clear q;refine Za ?_;exact⟨_,_,_,_,_,_,_,rfl,(Dh g),Ja (o.o)⟩
  . obtain rfl:=(g.o.2.1 (q 1 Z));have H:=Ja (JX _ qs V (HQ.o V o.o.2.2));rw[Qo.o]at H;clear q;refine Jc rfl rfl λK hK=>?_;go_simp;go_wp2_with(go_at_call 30;refine H.o.mono ?_;rintro e T ⟨rfl,G⟩)
    obtain⟨G0,_,_,G3,G4,G5⟩:=g.o;exact⟨_,_,_,_,_,_,_,rfl,Ja ⟨G0,λ_=>rfl,λ_=>rfl,λh=>(G3 h).below G,λh=>(G4 h).below G,G5⟩,Ja (o.o.below G)⟩
  . obtain rfl:=(g.o.1 (q 0 Z));obtain rfl:=(g.o.2.2.1 (q 2 Z));have H:=Ja (Hl _ qs (m:Int) V (HQ.o V o.o.2.2));rw[KE]at H;clear q;refine Jc rfl rfl λK hK=>?_;go_simp;go_wp2_with(go_at_call 74;refine H.o.mono ?_;rintro e T ⟨v5,rfl,ak,G⟩)
    exact⟨_,_,_,_,_,_,_,rfl,Ja ⟨λ_=>rfl,g.o.2.1,λ_=>rfl,λ_=>ak,λh=>(g.o.2.2.2.2.1 h).below G,g.o.2.2.2.2.2⟩,Ja (o.o.below G)⟩
  . have h0:=(g.o.2.2.2.1 (q 3 Z));have H:=Ja (cM _ (cf qs m) V h0 (Qz.o.at m));rw[Qw.o]at H;clear q h0;refine Jc rfl rfl λK hK=>?_;go_simp;go_wp2_with(go_at_call 206;refine H.o.mono ?_;rintro e T ⟨v5,rfl,ak,G⟩)
    obtain⟨G0,G1,G2,G3,_,G5⟩:=g.o;exact⟨_,_,_,_,_,_,_,rfl,Ja ⟨G0,G1,G2,λh=>(G3 h).below G,λ_=>ak,G5⟩,Ja (o.o.below G)⟩
  . have hf:D 6=false:=DI an af;obtain rfl:=Dn g af;clear q;refine Za ?_;obtain⟨G0,G1,G2,G3,G4,_⟩:=g.o;exact⟨_,_,_,_,_,_,_,rfl,Ja ⟨G0,G1,G2,λh=>(G3 h).alloc _,λh=>(G4 h).alloc _,⟨λh=>by simp at h,λ_ _=>⟨_,rfl,rfl⟩,λh=>by simp[hf]at h⟩⟩,Ja (o.o.fill (i:=3) rfl (.rat 0) (XY _))⟩
  . obtain⟨B,rfl,rfl⟩:=ED g (q 5 Z) af;have Qd:=q 5 Z;have hv:=(g.o.2.2.2.2.1 (q 4 Z));obtain⟨s1,a1,l1,c1,t1,b1,k1,d1,rfl⟩:=Jh.form (show Jh V _ _ from hv);obtain⟨s,a,l,c,t,b,k,d,n,r,i,j⟩:=o.o.rat (i:=3) rfl;have e0:=n.c0;have f0:=n.f0;have e1:=n.c1;have f1:=n.f1;have e2:=n.c2;have f2:=n.f2;have e3:=n.c3;have f3:=n.f3;clear q;refine Za ?_;obtain⟨G0,G1,G2,G3,G4,_⟩:=g.o;exact⟨_,_,_,_,_,_,_,rfl,Ja ⟨G0,G1,G2,λh=>(G3 h).put4 n rfl rfl rfl rfl _ _ _ _,λh=>(G4 h).put4 n rfl rfl rfl rfl _ _ _ _,⟨λh=>by simp[Qd]at h,λ_ h=>by simp at h,λ_=>⟨B,rfl,rfl⟩⟩⟩,Ja (o.o.putRat (i:=3) rfl hv)⟩
 rintro D ad V2 S ⟨tn,tp,ta,tb,tc,tm,x5,rfl,g,o⟩;obtain⟨U,rfl,rfl⟩:=g.o.2.2.2.2.2.2.2 (S 6 DF);obtain rfl:=g.o.1 (S 0 DF);obtain rfl:=g.o.2.1 (S 1 DF);obtain rfl:=g.o.2.2.1 (S 2 DF);clear g S M1;have M2:Hid (Mem w V2 [some (w.heap.size,.cell 25 (E P la Q)),some (w.heap.size+1,.cell 25 (E z lb A)),some (w.heap.size+1+1,.cell 25 (E none 0 0)),some (U,.rat L)]):=o;clear o;have HA:=Ja λ(V:F)=>Iu 1 O O V;have HB:=HA;have H:=Ja λ(V:F) (x y:f) (hx:Jk V x 1) (hy:Jk V y 1)=>LU x y 1 1 V hx hy Sok.one Sok.one;rw[show decide ((1:Int)≠0)=true from rfl,show Rat.divInt 1 1=L^0 by rw[Rat.pow_zero];rfl]at H;go_upto_region 3 with(first
  |(go_at_call 29;refine(HA.o _).mono ?_;clear HA;rintro e w3 ⟨u3,rfl,Qa,am⟩)
  |(go_at_call 29;refine(HB.o _).mono ?_;clear HB;rintro e w4 ⟨u4,rfl,bc,aj⟩;have Qa:=Qa.below aj)
  |(go_at_call 28;refine(H.o _ _ _ Qa bc).mono ?_;clear H;rintro e T ⟨u5,rfl,ae,G⟩;obtain⟨s9,a9,l9,c9,t9,b9,k9,d9,rfl⟩:=Jh.form ae))
 obtain⟨V4,hV⟩:=ex (T.alloc (.cells #[X s9,E a9 l9 c9,X t9,E b9 k9 d9] 37));obtain⟨B4,ah⟩:=ex (T.heap.size);have o:Mem w (T.alloc (.cells #[X s9,E a9 l9 c9,X t9,E b9 k9 d9] 37)) [some (w.heap.size,.cell 25 (E P la Q)),some (w.heap.size+1,.cell 25 (E z lb A)),some (w.heap.size+1+1,.cell 25 (E none 0 0)),some (U,.rat L),some (T.heap.size,.rat (L^0))]:=Mem.push (((M2.o.below am).below aj).below G) (.rat (L^0)) ae;rw[hV,ah]at o;rw[hV];rw[ah];have M3:Hid (Mem w V4 [some (w.heap.size,.cell 25 (E P la Q)),some (w.heap.size+1,.cell 25 (E z lb A)),some (w.heap.size+1+1,.cell 25 (E none 0 0)),some (U,.rat L),some (B4,.rat (L^0))]):=Ja (o);clear M2;clear o hV ah;clear Qa bc ae am aj G;refine Jn Ql [[],[0],[],[2,1],[1,3],[4],[]] (by kernel_rfl) DF
  (λD ad V=>∃(td te tg ti tj tk tl:f),ad={ tmps:=#[M #[E P la Q],M #[E z lb A],C (some ⟨w.heap.size,0,none⟩),C (some ⟨w.heap.size+1,0,none⟩),C (some ⟨w.heap.size+1+1,0,none⟩),C (some ⟨U,0,none⟩),C (some ⟨B4,0,none⟩),X true,M #[E z lb A],M #[E z lb A],.int .i64 ↑m,tb,tc,.tuple #[M #[X s9,E a9 l9 c9,X t9,E b9 k9 d9],X true],u3,u4,.tuple #[M #[X s9,E a9 l9 c9,X t9,E b9 k9 d9],X true],M #[X s9,E a9 l9 c9,X t9,E b9 k9 d9],X true,td,te,tg,ti,tj,tk,tl,I,I,I,I,I,I,I,I],defers:=[] }/\Hid ((D 0=true->td=M #[E P la Q])/\(D 1=true->te=.int .i64 e1)/\(D 2=true->tg=M #[E z lb A])/\(D 3=true->ti=.int .i64 (m:Int))/\(D 4=true->tj=.int .i64 e3)/\(D 5=true->tk=.int .i64 e4)/\(D 6=true->tl=.int .i64 0))/\Hid (Mem w V [some (w.heap.size,.cell 25 (E P la Q)),some (w.heap.size+1,.cell 25 (E z lb A)),some (w.heap.size+1+1,.cell 25 (E none 0 0)),some (U,.rat L),some (B4,.rat (L^0))]))
  ⟨_,_,_,_,_,_,_,rfl,Ja ⟨Z,Z,Z,Z,Z,Z,Z⟩,Ja (M3.o).drew⟩ ?step5 ?fin5
 case step5=>
  rintro D ad V i ds an W q af ⟨td,te,tg,ti,tj,tk,tl,rfl,g,o⟩;have Qv:i<7:=(Ac.1 W).1;obtain rfl|rfl|rfl|rfl|rfl|rfl|rfl:=Hv i O
  all_goals
   simp only[Ai,Ag,Ak]at W;subst W
  . have e0:=(o.o.cell (i:=0) rfl).1.cell;clear q;refine Za ?_;exact⟨_,_,_,_,_,_,_,rfl,(De g),Ja (o.o)⟩
  . obtain rfl:=(g.o.1 (q 0 Z));have H:=Ja (JX _ ps V (HP.o V o.o.2.2));rw[Ub.o]at H;clear q;refine Jc rfl rfl λK hK=>?_;go_simp;go_wp2_with(go_at_call 30;refine H.o.mono ?_;rintro e T ⟨rfl,G⟩)
    exact⟨_,_,_,_,_,_,_,rfl,(Dh (De g)),Ja (o.o.below G)⟩
  . have e0:=(o.o.cell (i:=1) rfl).1.cell;clear q;refine Za ?_;exact⟨_,_,_,_,_,_,_,rfl,(DZ g),Ja (o.o)⟩
  . obtain rfl:=(g.o.2.2.1 (q 2 Z));have H:=Ja (JX _ qs V (HQ.o V o.o.2.2));rw[Qo.o]at H;clear q;refine Jc rfl rfl λK hK=>?_;go_simp;go_wp2_with(go_at_call 30;refine H.o.mono ?_;rintro e T ⟨rfl,G⟩)
    exact⟨_,_,_,_,_,_,_,rfl,(Df (DZ g)),Ja (o.o.below G)⟩
  . obtain rfl:=(g.o.2.1 (q 1 Z));obtain rfl:=(g.o.2.2.2.1 (q 3 Z));clear q;refine Za ?_;exact⟨_,_,_,_,_,_,_,rfl,(Du (Df (Dh g))),Ja (o.o)⟩
  . obtain rfl:=(g.o.2.2.2.2.1 (q 4 Z));clear q;refine Za ?_;exact⟨_,_,_,_,_,_,_,rfl,(Dw (Du g)),Ja (o.o)⟩
  . clear q;refine Za ?_;exact⟨_,_,_,_,_,_,_,rfl,(LD g),Ja (o.o)⟩
 rintro D ad V6 S ⟨td,te,tg,ti,tj,tk,tl,rfl,g,o⟩;obtain rfl:=g.o.1 (S 0 DF);obtain rfl:=g.o.2.1 (S 1 DF);obtain rfl:=g.o.2.2.1 (S 2 DF);obtain rfl:=g.o.2.2.2.1 (S 3 DF);obtain rfl:=g.o.2.2.2.2.1 (S 4 DF);obtain rfl:=Dn g (S 5 DF);obtain rfl:=g.o.2.2.2.2.2.2 (S 6 DF);clear g S M3;have M4:Hid (Mem w V6 [some (w.heap.size,.cell 25 (E P la Q)),some (w.heap.size+1,.cell 25 (E z lb A)),some (w.heap.size+1+1,.cell 25 (E none 0 0)),some (U,.rat L),some (B4,.rat (L^0))]):=o;clear o;go_wp2;go_loopw [25] (λiv wr=>∃i:Nat,i<=N/\iv=.int .i64 (i:Int)/\Hid (Mem w wr [some (w.heap.size,.cell 25 (E P la Q)),some (w.heap.size+1,.cell 25 (E z lb A)),some (w.heap.size+1+1,.cell 25 (E none 0 0)),some (U,.rat L),some (B4,.rat (L^i))])) λiv _=>N-(intOf iv).toNat
 case atStart=>exact⟨0,AO _,rfl,M4⟩
 case round=>
  clear M4;obtain⟨i,W,rfl,M5⟩:=hrel;by_cases aq:i<N
  . have Qf:(i:Int)<e4:=(Qb.o.1 i).2 aq;have ci:N<=1099511627777:=Qb.o.2;obtain⟨s7,a7,l7,c7,t7,b7,k7,d7,n7,r7,i7,j7⟩:=M5.o.rat (i:=3) rfl;obtain⟨bt,bu,bz,ce⟩:=n7.cq;obtain⟨s8,a8,l8,c8,t8,b8,k8,d8,n8,r8,i8,j8⟩:=M5.o.rat (i:=4) rfl;obtain⟨Qk,Qn,Qg,Qq⟩:=n8.cq;obtain⟨Qh,Qr,Qi,Qm⟩:=n8.fq;have H1:=Ja (Iy _ _ (L^i) L wr r8 r7 (Qc.o i O) (by have:=Qc.o 1 O;rwa[Rat.pow_one]at this));rw[<-Rat.pow_succ]at H1;go_upto_region 6 with(go_at_call 91;refine H1.o.mono ?_;clear H1;rintro e w6 ⟨u6,rfl,bf,hq⟩;obtain⟨s8,a8,l8,c8,t8,b8,k8,d8,rfl⟩:=Jh.form bf;clear Qk Qn Qg Qq;obtain⟨Qk,Qn,Qg,Qq⟩:=(n8.below hq).cq;clear Qh Qr Qi Qm;obtain⟨Qh,Qr,Qi,Qm⟩:=(n8.below hq).fq)
    obtain⟨V9,hV⟩:=ex ((((w6.setCell ⟨B4,0,none⟩ (X s8)).setCell ⟨B4,1,none⟩ (E a8 l8 c8)).setCell ⟨B4,2,none⟩ (X t8)).setCell ⟨B4,3,none⟩ (E b8 k8 d8));have o:Mem w ((((w6.setCell ⟨B4,0,none⟩ (X s8)).setCell ⟨B4,1,none⟩ (E a8 l8 c8)).setCell ⟨B4,2,none⟩ (X t8)).setCell ⟨B4,3,none⟩ (E b8 k8 d8)) [some (w.heap.size,.cell 25 (E P la Q)),some (w.heap.size+1,.cell 25 (E z lb A)),some (w.heap.size+1+1,.cell 25 (E none 0 0)),some (U,.rat L),some (B4,.rat (L^(i+1)))]:=Mem.putRat (M5.o.below hq) (i:=4) rfl bf;rw[hV]at o;rw[hV];have M6:Hid (Mem w V9 [some (w.heap.size,.cell 25 (E P la Q)),some (w.heap.size+1,.cell 25 (E z lb A)),some (w.heap.size+1+1,.cell 25 (E none 0 0)),some (U,.rat L),some (B4,.rat (L^(i+1)))]):=Ja (o);clear M5;clear o hV;go_wp2_with fail
    go_roundw
    case rel=>exact⟨i+1,O,by go_num,M6⟩
    case measure=>simp[intOf];omega
  . have Qf:¬(i:Int)<e4:=λh=>aq ((Qb.o.1 i).1 h);obtain rfl:i=N:=O
    obtain⟨de,bh,db,bi,df,b10,da,bj,bg,r10,co,ct⟩:=M5.o.rat (i:=4) rfl;obtain⟨bk,bl,bm,bn⟩:=bg.cq;have c0:=(M5.o.cell (i:=0) rfl).1.cell;have n1:=(M5.o.cell (i:=2) rfl).1;have Qe:=Ja M5.o.2.2;have H2:=Ja (Rl (M #[E P la Q]) _ ps (L^i) wr (HP.o wr Qe.o) r10 Qs.o (Qc.o i (Aa _)) Qu.o);rw[HT.o]at H2;go_wp2_with(go_at_call 181;refine H2.o.mono ?_;clear H2;rintro e T ⟨u5,rfl,ae,G⟩;obtain⟨a7,l7,c7,rfl⟩:=ae.form;have n5:=boxed_below n1 G;have x0:=n5.cell;have x1:=n5.frozen;have Ua:=Ja (Ko n5 (x:=E a7 l7 c7) ae);have Qx:=Ja ((Bt Qe.o G).setCell (p:=⟨w.heap.size+1+1,0,none⟩) (by show w.heap.size<=w.heap.size+1+1;omega) (E a7 l7 c7));clear ae G n5)
    exact BB (v:=M #[E a7 l7 c7]) (by simp[results,Tryz.results182,go_sem,x0]) rfl ⟨_,rfl,Ua.o,Qx.o⟩
theorem cU{A:Nat}(q:EG A ps)(d:EG A qs)(tq:Jd qs=qs)(q0:qs≠[])(c:1<=A)(K:4*((ps.length+2)*(A+1))<=1000000000):
 Sqs ps/\Sqs qs/\(∀i,i<=ps.length+1-qs.length->Sq (Xu (cf qs (qs.length-1))^i))/\(∀i,Sq (cf ps i*EF ps qs))/\Sqs (YO ps qs)/\(∀i,DQ A (cf qs i))/\
 ∃l:Int,Dvn 1 1 l ((ps.length+2)*A+1) A (YO ps qs) qs:=by
 have G:(ps.length+2)*(A+1)=(ps.length+2)*A+(ps.length+2):=by rw[AN,Ft]
 have L:0<qs.length:=Ae.2 q0;obtain⟨l,p,m⟩:=d (qs.length-1);have t:l≠0:=λe=>by
  have:=Js tq q0;rw[m,e]at this;exact this rfl
 have r:Xu (cf qs (qs.length-1))=((l.natAbs:Int):Rat):=by
  rw[m];unfold Xu;have a:((l:Rat)<0)↔l<0:=by
   rw[show(0:Rat)=((0:Int):Rat)from rfl];exact Rat.intCast_lt_intCast
  split
  . rename_i h;rw[a]at h;rw[<-Rat.intCast_neg];congr 1;omega
  . rename_i h;rw[a]at h;congr 1;omega
 have n:∀i:Nat,∃z:Int,Sm (i*A+1) z/\Xu (cf qs (qs.length-1))^i=(z:Rat):=λi=>by
  refine⟨(l.natAbs:Int)^i,?_,?_⟩
  . refine Sm.powZ ?_ i;unfold Sm at p ⊢;rwa[AK]
  . rw[r,Rat.intCast_pow]
 have o:∀(k:Nat) (z:Int),Sm k z->k<=1000000000->1<=k->Sq (z:Rat):=λk z B x a=>Sq.of ((Lw (D:=1) DF B (by rw[show((1:Int):Rat)=1 from rfl,Rat.mul_one])).smq DF (Sm.one k a)) x;have H:ps.length+1-qs.length<=ps.length:=O
 have s:∀i:Nat,i<=ps.length->i*A<=(ps.length+2)*A:=λi w=>Aj _ O;have g:EG ((ps.length+2)*A+1) (YO ps qs):=λi=>by
  obtain⟨z,a,b⟩:=q i;obtain⟨y,j,u⟩:=n (ps.length+1-qs.length);refine⟨z*y,(a.mul j).mono ?_,?_⟩
  . have v:(ps.length+1-qs.length+1)*A<=(ps.length+2)*A:=Aj _ O;rw[AJ,CF]at v;omega
  . unfold YO EF;rw[Yu,b,u,AB]
 have hA9:A<=(ps.length+2)*A:=by
  have:1*A<=(ps.length+2)*A:=Aj _ O
  omega
 refine⟨Sqs.of λi=>Sq.of (q.smq c i) O,Sqs.of λi=>Sq.of (d.smq c i) O,λi w=>?_,λi=>?_,Sqs.of λi=>Sq.of (g.smq O i) O,d.smq c,l,?_⟩
 . obtain⟨z,a,b⟩:=n i;rw[b];exact o _ z a (by have:=s i O;omega) O
 . obtain⟨z,a,b⟩:=g i;have j:cf ps i*EF ps qs=(z:Rat):=by rw[<-b];unfold YO;rw[Yu]
   rw[j];exact o _ z a O O
 . refine⟨DF,Sm.one _ O,g.cdl,DF,Sm.one _ c,d.cdl,t,p,?_⟩;rw[m,CA,show((1:Int):Rat)=1 from rfl];grind
theorem cV(tp:Jd ps=ps)(tq:Jd qs=qs)(q0:qs≠[]):(YO ps qs).length=ps.length:=Yl (OB tq q0) tp
theorem cW(A:Nat)(va vb:f)(ps qs:List Rat)(w:F)(ha:Je w va ps)(hb:Je w vb qs)(wp:EG A ps)(wq:EG A qs)(tp:Jd ps=ps)(tq:Jd qs=qs)(q0:qs≠[])(hA:1<=A)(an:4*((ps.length+2)*(A+1))<=1000000000)(hr:Ln A (JK ps qs)):
 Calls R 138 #[va,vb] w λe w'=>∃u,e=.returned u/\Je w' u (YP ps qs)/\Bl w w':=by
 obtain⟨s1,s2,s3,s4,s5,s6,l,ae⟩:=cU wp wq tq q0 hA an;have b1:(ps.length+2)*(A+1)=(ps.length+2)*A+(ps.length+2):=by rw[AN,Ft]
 obtain⟨m,hm⟩:=ex ((YO ps qs).length-(qs.length-1));have Qk:m<=ps.length:=by rw[cV tp tq q0]at hm;omega
 have b2:m*(A+1)<=ps.length*(A+1):=Aj _ Qk;have b3:(ps.length+2)*(A+1)=ps.length*(A+1)+2*(A+1):=AJ _ _ _;have Qp:=Ja (λ(V:F) (x y:f) (hx:Je V x (YO ps qs)) (hy:Je V y qs)=>Ri A x y (YO ps qs) qs V hx hy s5 s6 (JP _ _) tq q0 (by
  rw[hm];exact ae.sizes O))
 have Qe:=(ae.rem hm).1;have Qc:=ae.den m;have Ql:=Ja λ(V:F) (x:f) (hx:Je V x (JK (YO ps qs) qs))=>OD (1*l^m) ((ps.length+2)*A+1+m*(A+1)+1) x (JK (YO ps qs) qs) V hx (Xj _ _) Qc.1 Qc.2 (λi=>(Qe i).mono O) O;have Qd:=Re tq q0 hr;have Qh:Sqs (JI (JK (YO ps qs) qs)):=Sqs.of λi=>Sq.of (Qd.1.smq hA i) O;have Qj:Sqs (JD [] (JI (JK (YO ps qs) qs))):=Sqs.of λi=>Sq.of (Qd.2.smq hA i) O;have Qf:=Ja λ(V:F) (y:f) (hy:Je V y (JI (JK (YO ps qs) qs)))=>QJ _ y [] (JI (JK (YO ps qs) qs)) V (Rk V) hy (Sqs.of λi=>by rw[YH];exact Hi) Qh Qj;have Qm:=Ja λ(V:F) (x y:f) (hx:Je V x ps) (hy:Je V y qs)=>cT x y ps qs V hx hy s1 s2 q0 s3 s4;clear s1 s2 s3 s4 s5 s6 ae b1 hm Qk b2 b3 Qe Qc Qd Qh Qj wp wq tp tq q0 hA an hr;have Qo:Tryz.prog.follows .mixedOrders=true:=by kernel_rfl
 obtain⟨S,la,T,rfl⟩:=ha.form;obtain⟨N,lb,P,rfl⟩:=hb.form;have M0:=(((Mem.nil w).push (.cell 25 (E S la T)) (cs:=#[E S la T]) ⟨rfl,rfl⟩).push (.cell 25 (E N lb P)) (cs:=#[E N lb P]) ⟨rfl,rfl⟩).push (.cell 25 (E none 0 0)) (cs:=#[E none 0 0]) ⟨rfl,rfl⟩;simp only[Ax]at M0;obtain⟨W0,aj⟩:=ex (((w.alloc (.cells #[E S la T] 25)).alloc (.cells #[E N lb P] 25)).alloc (.cells #[E none 0 0] 25));obtain⟨Qg,HP,HQ⟩:=Db aj (λ(V:F) (hB:Bl w V)=>ha.below hB) λ(V:F) (hB:Bl w V)=>hb.below hB;have M1:Hid (Mem w W0 [some (w.heap.size,.cell 25 (E S la T)),some (w.heap.size+1,.cell 25 (E N lb P)),some (w.heap.size+1+1,.cell 25 (E none 0 0))]):=Ja (by rw[<-aj];exact M0);clear M0 aj ha hb;go_enter Tryz.func138,Tryz.ntmps138
 go_upto_region 1 with fail
 rw[Qg.o];clear Qg;refine Jn Qo [[],[],[0,1],[],[2,3,2],[4],[5],[5],[5],[],[],[9,6,4,0,1,2,3,4,5,6,9,10],[10,7,11,0,1,2,3,4,5,6,7,9,10,11],[8,12,0,1,2,3,4,5,6,7,8,9,10,11,12]] (by kernel_rfl) DF
  (λD ai V=>∃(tn ta tb tc td tm te tg ti tj tk tl:f) (x9 ad:Option (Nat × Dat)),ai={ tmps:=#[M #[E S la T],M #[E N lb P],C (some ⟨w.heap.size,0,none⟩),C (some ⟨w.heap.size+1,0,none⟩),C (some ⟨w.heap.size+1+1,0,none⟩),tj,tk,tl,tm,tn,ta,tb,tc,td,te,tg,ti,I,I,I,I],defers:=[] }/\Hid ((D 0=true->tn=M #[E S la T])/\(D 1=true->ta=M #[E N lb P])/\(D 2=true->Has V tb (.poly (YO ps qs)))/\(D 3=true->tc=M #[E N lb P])/\(D 4=true->Tup2 V td (.poly (Jo (YO ps qs) qs)) (.poly (JK (YO ps qs) qs)))/\(D 5=true->Tup2 V tm (.poly (Jo (YO ps qs) qs)) (.poly (JK (YO ps qs) qs)))/\(D 6=true->Has V te (.poly (Jo (YO ps qs) qs)))/\(D 7=true->Has V tg (.poly (JK (YO ps qs) qs)))/\(D 8=true->ti=X true)/\((D 9=false->x9=none)/\(D 9=true->D 11=false->∃B:Nat,tj=C (some ⟨B,0,none⟩)/\x9=some (B,.poly []))/\(D 11=true->∃B:Nat,tj=C (some ⟨B,0,none⟩)/\x9=some (B,.poly (Jo (YO ps qs) qs))))/\((D 10=false->ad=none)/\(D 10=true->D 12=false->∃B:Nat,tk=C (some ⟨B,0,none⟩)/\ad=some (B,.poly []))/\(D 12=true->∃B:Nat,tk=C (some ⟨B,0,none⟩)/\ad=some (B,.poly (JK (YO ps qs) qs))))/\(D 13=true->tl=X true))/\Hid (Mem w V [some (w.heap.size,.cell 25 (E S la T)),some (w.heap.size+1,.cell 25 (E N lb P)),some (w.heap.size+1+1,.cell 25 (E none 0 0)),x9,ad]))
  ⟨_,_,_,_,_,_,_,_,_,_,_,_,none,none,rfl,Ja ⟨Z,Z,Z,Z,Z,Z,Z,Z,Z,Z,Z,Z⟩,Ja (((M1.o).none).none).drew⟩ ?step1 ?fin1
 case step1=>
  rintro D ai V i ds ap hi d U ⟨tn,ta,tb,tc,td,tm,te,tg,ti,tj,tk,tl,x9,ad,rfl,b,g⟩;have ba:i<14:=(Ac.1 hi).1;obtain rfl|rfl|rfl|rfl|rfl|rfl|rfl|rfl|rfl|rfl|rfl|rfl|rfl|rfl:=GF i O
  all_goals
   simp only[Ai,Ag,Ak]at hi;subst hi
  . have e0:=(g.o.cell (i:=0) rfl).1.cell;clear d;refine Za ?_;exact⟨_,_,_,_,_,_,_,_,_,_,_,_,_,_,rfl,(De b),Ja (g.o)⟩
  . have e0:=(g.o.cell (i:=1) rfl).1.cell;clear d;refine Za ?_;exact⟨_,_,_,_,_,_,_,_,_,_,_,_,_,_,rfl,(Dh b),Ja (g.o)⟩
  . obtain rfl:=(b.o.1 (d 0 Z));obtain rfl:=(b.o.2.1 (d 1 Z));have HC:=Ja (Qm.o V _ _ (HP.o V g.o.2.2) (HQ.o V g.o.2.2));clear d;refine Jc rfl rfl λK hK=>?_;go_simp;go_wp2_with(go_at_call 182;refine HC.o.mono ?_;rintro e w5 ⟨v5,rfl,am,j⟩)
    obtain⟨_,_,_,H,L,k,o,q,s⟩:=b.o;exact⟨_,_,_,_,_,_,_,_,_,_,_,_,_,_,rfl,Ja ⟨λ_=>rfl,λ_=>rfl,λ_=>am,H,λh=>(L h).below j,λh=>(k h).below j,λh=>(o h).below j,λh=>(q h).below j,s⟩,Ja (g.o.below j)⟩
  . have e0:=(g.o.cell (i:=1) rfl).1.cell;clear d;refine Za ?_;exact⟨_,_,_,_,_,_,_,_,_,_,_,_,_,_,rfl,(Df b),Ja (g.o)⟩
  . have h0:=(b.o.2.2.1 (d 2 Z));obtain rfl:=(b.o.2.2.2.1 (d 3 Z));have HC:=Ja (Qp.o V _ _ h0 (HQ.o V g.o.2.2));clear d h0;refine Jc rfl rfl λK hK=>?_;go_simp;go_wp2_with(go_at_call 139;refine HC.o.mono ?_;rintro e w5 ⟨v5,v6,rfl,am,ay,j⟩)
    obtain⟨t,z,G,_,_,k,o,q,s⟩:=b.o;exact⟨_,_,_,_,_,_,_,_,_,_,_,_,_,_,rfl,Ja ⟨t,z,λh=>(G h).below j,λ_=>rfl,λ_=>⟨v5,v6,rfl,am,ay⟩,λh=>(k h).below j,λh=>(o h).below j,λh=>(q h).below j,s⟩,Ja (g.o.below j)⟩
  . have h0:=(b.o.2.2.2.2.1 (d 4 Z));clear d;refine Za ?_;exact⟨_,_,_,_,_,_,_,_,_,_,_,_,_,_,rfl,(Dw b λ_=>h0),Ja (g.o)⟩
  . obtain⟨y1,y2,rfl,h1,h2⟩:=((Dn b) (d 5 Z));clear d;refine Za ?_;exact⟨_,_,_,_,_,_,_,_,_,_,_,_,_,_,rfl,(Dz b λ_=>h1),Ja (g.o)⟩
  . obtain⟨y1,y2,rfl,h1,h2⟩:=((Dn b) (d 5 Z));clear d;refine Za ?_;exact⟨_,_,_,_,_,_,_,_,_,_,_,_,_,_,rfl,(EM b λ_=>h2),Ja (g.o)⟩
  . obtain⟨y1,y2,rfl,h1,h2⟩:=((Dn b) (d 5 Z));clear d;refine Za ?_;exact⟨_,_,_,_,_,_,_,_,_,_,_,_,_,_,rfl,(EN b),Ja (g.o)⟩
  . have hf:D 11=false:=DI ap U;obtain rfl:=b.o.2.2.2.2.2.2.2.2.2.1.1 U;clear d;refine Za ?_;obtain⟨t,z,G,H,L,k,o,q,s,_,af⟩:=b.o;exact⟨_,_,_,_,_,_,_,_,_,_,_,_,_,_,rfl,Ja ⟨t,z,λh=>(G h).alloc _,H,λh=>(L h).alloc _,λh=>(k h).alloc _,λh=>(o h).alloc _,λh=>(q h).alloc _,s,⟨λh=>by simp at h,λ_ _=>⟨_,rfl,rfl⟩,λh=>by simp[hf]at h⟩,af⟩,Ja (g.o.fill (i:=3) rfl (.poly []) (Ht _))⟩
  . have hf:D 12=false:=DI ap U;obtain rfl:=b.o.2.2.2.2.2.2.2.2.2.2.1.1 U;clear d;refine Za ?_;obtain⟨t,z,G,H,L,k,o,q,s,G9,_,ah⟩:=b.o;exact⟨_,_,_,_,_,_,_,_,_,_,_,_,_,_,rfl,Ja ⟨t,z,λh=>(G h).alloc _,H,λh=>(L h).alloc _,λh=>(k h).alloc _,λh=>(o h).alloc _,λh=>(q h).alloc _,s,G9,⟨λh=>by simp at h,λ_ _=>⟨_,rfl,rfl⟩,λh=>by simp[hf]at h⟩,ah⟩,Ja (g.o.fill (i:=4) rfl (.poly []) (Ht _))⟩
  . obtain⟨B,rfl,rfl⟩:=b.o.2.2.2.2.2.2.2.2.2.1.2.1 (d 9 Z) U;have Qb:=d 9 Z;have hv:=((ED b) (d 6 Z));obtain⟨a1,l1,c1,rfl⟩:=Je.form (show Je V _ _ from hv);obtain⟨a,l,c,n,r⟩:=g.o.poly2 (i:=3) rfl;have e0:=n.cell;have f0:=n.frozen;clear d;refine Za ?_;obtain⟨t,z,G,H,L,k,o,q,s,_,af⟩:=b.o;exact⟨_,_,_,_,_,_,_,_,_,_,_,_,_,_,rfl,Ja ⟨t,z,λh=>(G h).set1 n rfl _,H,λh=>(L h).set1 n rfl _,λh=>(k h).set1 n rfl _,λh=>(o h).set1 n rfl _,λh=>(q h).set1 n rfl _,s,⟨λh=>by simp[Qb]at h,λ_ h=>by simp at h,λ_=>⟨B,rfl,rfl⟩⟩,af⟩,Ja (g.o.putPoly (i:=3) rfl hv)⟩
  . obtain⟨B,rfl,rfl⟩:=b.o.2.2.2.2.2.2.2.2.2.2.1.2.1 (d 10 Z) U;have Qb:=d 10 Z;have hv:=((ET b) (d 7 Z));obtain⟨a1,l1,c1,rfl⟩:=Je.form (show Je V _ _ from hv);obtain⟨a,l,c,n,r⟩:=g.o.poly2 (i:=4) rfl;have e0:=n.cell;have f0:=n.frozen;clear d;refine Za ?_;obtain⟨t,z,G,H,L,k,o,q,s,G9,_,ah⟩:=b.o;exact⟨_,_,_,_,_,_,_,_,_,_,_,_,_,_,rfl,Ja ⟨t,z,λh=>(G h).set1 n rfl _,H,λh=>(L h).set1 n rfl _,λh=>(k h).set1 n rfl _,λh=>(o h).set1 n rfl _,λh=>(q h).set1 n rfl _,s,G9,⟨λh=>by simp[Qb]at h,λ_ h=>by simp at h,λ_=>⟨B,rfl,rfl⟩⟩,ah⟩,Ja (g.o.putPoly (i:=4) rfl hv)⟩
  . obtain rfl:=((Ed b) (d 8 Z));clear d;refine Za ?_;exact⟨_,_,_,_,_,_,_,_,_,_,_,_,_,_,rfl,(II (EN b)),Ja (g.o)⟩
 rintro D ai V2 Q ⟨tn,ta,tb,tc,td,tm,te,tg,ti,tj,tk,tl,x9,ad,rfl,b,g⟩;obtain⟨B3,rfl,rfl⟩:=b.o.2.2.2.2.2.2.2.2.2.1.2.2 (Q 11 DF);obtain⟨B4,rfl,rfl⟩:=b.o.2.2.2.2.2.2.2.2.2.2.1.2.2 (Q 12 DF);obtain rfl:=b.o.1 (Q 0 DF);obtain rfl:=b.o.2.1 (Q 1 DF);obtain rfl:=b.o.2.2.2.1 (Q 3 DF);obtain rfl:=Ed b (Q 8 DF);obtain rfl:=b.o.2.2.2.2.2.2.2.2.2.2.2 (Q 13 DF);clear b Q M1;have M2:Hid (Mem w V2 [some (w.heap.size,.cell 25 (E S la T)),some (w.heap.size+1,.cell 25 (E N lb P)),some (w.heap.size+1+1,.cell 25 (E none 0 0)),some (B3,.poly (Jo (YO ps qs) qs)),some (B4,.poly (JK (YO ps qs) qs))]):=g;clear g;obtain⟨a5,l5,c5,W,r5⟩:=M2.o.poly2 (i:=4) rfl;have az:=W.cell;have n1:=(M2.o.cell (i:=2) rfl).1;have Qi:=Ja M2.o.2.2;have H1:=Ja (Ql.o V2 _ r5);clear Ql;go_wp2_with(first
  |(go_at_call 137;refine H1.o.mono ?_;clear H1;rintro e w4 ⟨u4,rfl,ax,aq⟩)
  |(go_at_call 90;refine(Qf.o _ _ ax).mono ?_;clear Qf;rintro e w5 ⟨u5,rfl,ak,_,aw⟩;have j:=Bt aq aw;obtain⟨a7,l7,c7,rfl⟩:=ak.form;have W:=boxed_below n1 j;have x0:=W.cell;have x1:=W.frozen;have Qq:=Ja (Ko W (x:=E a7 l7 c7) ak);have Qn:=Ja ((Bt Qi.o j).setCell (p:=⟨w.heap.size+1+1,0,none⟩) (by show w.heap.size<=w.heap.size+1+1;omega) (E a7 l7 c7));clear ak j W))
 exact BB (v:=M #[E a7 l7 c7]) (by simp[results,Tryz.results138,go_sem,x0]) rfl ⟨_,rfl,Qq.o,Qn.o⟩
def GO(b:Bool)(V:F)(t:f)(c:Rat):Prop:=∃u,t=.tuple #[u,X true]/\(b=false->Jh V u c)
theorem GO.of(h:Jx V t c):GO b V t c:=by
 obtain⟨u,e,h⟩:=h;exact⟨u,e,λ_=>h⟩
theorem GO.below{b:Bool}{V V':F}{t:f}{c:Rat}(h:GO b V t c)(a:Bl V V'):GO b V' t c:=by
 obtain⟨u,e,h⟩:=h;exact⟨u,e,λe=>(h e).below a⟩
theorem GO.any{a:Bool}{V':F}(h:GO b V t c)(d:a=true):GO a V' t c:=by
 obtain⟨u,e,h⟩:=h;exact⟨u,e,λe=>by rw[d]at e;cases e⟩
theorem Rm(v:f)(ps:List Rat)(w:F)(h:Je w v ps)(aq:Sqs ps)(ax:Jd ps=ps)(aw:∀i,Sq (cf ps i/cf ps (ps.length-1))):
 Calls R 88 #[v] w λe w'=>∃u,e=.returned u/\Je w' u (Jp ps)/\Bl w w':=by
 have Qq:Tryz.prog.follows .mixedOrders=true:=by kernel_rfl
 obtain⟨l,la,o,rfl⟩:=h.form;obtain⟨ba,ay,az,bc,_⟩:=h.row.forms;have M0:=(((Mem.nil w).push (.cell 25 (E l la o)) (cs:=#[E l la o]) ⟨rfl,rfl⟩).push (.cell 25 (E none 0 0)) (cs:=#[E none 0 0]) ⟨rfl,rfl⟩);simp only[Ax]at M0;obtain⟨V0,af⟩:=ex ((w.alloc (.cells #[E l la o] 25)).alloc (.cells #[E none 0 0] 25));have M1:Mem w V0 [some (w.heap.size,.cell 25 (E l la o)),some (w.heap.size+1,.cell 25 (E none 0 0))]:=by rw[<-af];exact M0
 have Qh:=Ja M1;obtain⟨n,hn⟩:=ex (ps.length:Nat);obtain⟨e0,ap⟩:=ex ((n:Int)-1:Int);have Qg:=Ja (JX (M #[E l la o]) ps V0 (h.below M1.2.2));rw[hn,ap]at Qg;have bf:e0+1=(n:Int):=O
 have bg:IntKind.i64.wrap (n:Int)=(n:Int):=by rw[BO];omega
 have Qs:∀W:F,(Instr.makeSlice 22 (.int .i64 (n:Int)) (.int .i64 (n:Int))).run R W=.ok (E (some ⟨W.heap.size,0,none⟩) n n) (W.alloc (.cells (Yb n) 37)):=λW=>Rj n O W;obtain⟨HP,Qi,Qn,HN⟩:=Dr (λ(V:F) (hB:Bl w V)=>h.below hB) aq aw (show ps.length=n from hn);have Qd:n<=1099511627776:=O
 have Ql:=Ja af;have Qw:=Ja ax;clear h aq aw ba ay az hn ap M0 M1 af bc ax;go_enter Tryz.func88,Tryz.ntmps88
 go_upto_region 1 with fail
 rw[Ql.o];have c0:=(Qh.o.cell (i:=0) rfl).1.cell;go_upto_region 2 with(go_at_call 30;refine Qg.o.mono ?_;clear Qg;rintro e w1 ⟨rfl,an⟩)
 have Qe:Mem w (w1.alloc (.cells (Yb n) 37)) [some (w.heap.size,.cell 25 (E l la o)),some (w.heap.size+1,.cell 25 (E none 0 0)),some (w1.heap.size,.rats (List.replicate n 0))]:=(Qh.o.below an).push (.rats (List.replicate n 0)) (Ki _ n);obtain⟨V1,ah⟩:=ex (w1.alloc (.cells (Yb n) 37));obtain⟨B,ai⟩:=ex (w1.heap.size);rw[ah,ai]at Qe;rw[ah,ai];have Qk:=Ja Qe;clear Qe ah ai an c0 Qh Ql Qs;go_wp2;go_loopw [11] (λiv wr=>∃(i:Nat) (S:List Rat),i<=n/\iv=.int .i64 (i:Int)/\Hid (Id (λj=>cf ps j/cf ps (ps.length-1)) n i S)/\Hid (Mem w wr [some (w.heap.size,.cell 25 (E l la o)),some (w.heap.size+1,.cell 25 (E none 0 0)),some (B,.rats S)])) λiv _=>n-(intOf iv).toNat
 case atStart=>exact⟨0,_,AO _,rfl,Ja ⟨AA,λj=>by rw[J0,BA O]⟩,Qk⟩
 case round=>
  obtain⟨i,S,hi,rfl,Q,HM⟩:=hrel;clear Qk;by_cases aj:i<n
  . have bi:(i:Int)<(n:Int):=O
    have Qm:=Ja (show i<S.length by rw[Q.o.1];exact aj);have Qj:=Ja (show i<ps.length by rw[HN.o];exact aj);go_wp2_with fail
    have Qo:=HM.o.drew;obtain⟨m,hm⟩:=ex (ps.length-1:Nat);obtain⟨Qv,Qr,Qt⟩:=Db (show(ps.length:Int)-1=(m:Int)by have:=Qj.o;omega) hm (show decide (cf ps m≠0)=true by rw[<-hm];exact BJ (Js Qw.o λe=>by have:=Qj.o;rw[e]at this;simp at this));clear hm;refine Jn Qq [[],[],[],[],[2,3],[],[],[6,4],[5,7,7],[4,8,8],[9],[10],[10],[0,1,0,1,2,3,4,5,6,7,8,9,10,11],[13,11,9,0,1,2,3,4,5,6,7,8,9,10,11]] (by kernel_rfl) DF
     (λD ae V=>∃(tb tc td te tg ti tj tk tl tm ta tn tp tq:f),ae={ tmps:=#[M #[E l la o],C (some ⟨w.heap.size,0,none⟩),C (some ⟨w.heap.size+1,0,none⟩),E (some ⟨B,0,none⟩) n n,.int .i64 ↑i,M #[E l la o],.int .i64 e0,.int .i64 ↑n,E (some ⟨B,0,none⟩) n n,E (some ⟨B,0,none⟩) n n,.int .i64 ↑n,.int .i64 ↑i,X true,.int .i64 ↑i,ta,tb,tc,td,te,tg,ti,tj,tk,tl,tm,tn,tp,tq,u28,I,I],defers:=[] }/\Hid ((D 0=true->tb=E (some ⟨B,0,none⟩) n n)/\(D 1=true->tc=.int .i64 (i:Int))/\(D 2=true->td=M #[E l la o])/\(D 3=true->te=.int .i64 (i:Int))/\(D 4=true->D 14=false->Jh V tg (cf ps i))/\(D 5=true->ti=M #[E l la o])/\(D 6=true->tj=M #[E l la o])/\(D 7=true->tk=.int .i64 (m:Int))/\(D 8=true->D 14=false->Jh V tl (cf ps m))/\(D 9=true->D 14=false->Jx V tm (cf ps i/cf ps m))/\(D 10=true->GO (D 14) V ta (cf ps i/cf ps m))/\(D 11=true->D 14=false->Jh V tn (cf ps i/cf ps m))/\(D 12=true->tp=X true)/\(D 13=true->tq=C (some ⟨B,i*4,none⟩)))/\Hid ((D 14=false->Mem w V [some (w.heap.size,.cell 25 (E l la o)),some (w.heap.size+1,.cell 25 (E none 0 0)),some (B,.rats S)])/\(D 14=true->Mem w V [some (w.heap.size,.cell 25 (E l la o)),some (w.heap.size+1,.cell 25 (E none 0 0)),some (B,.rats (S.set i (cf ps i/cf ps m)))])))
     (E8 ⟨_,_,_,_,_,_,rfl,Ja Z,Ja ⟨λ_=>Qo,Z⟩⟩) ?step1 ?fin1
    case step1=>
     rintro D ae V i ds A hi c s ⟨tb,tc,td,te,tg,ti,tj,tk,tl,tm,ta,tn,tp,tq,rfl,b,d⟩;have bh:i<15:=(Ac.1 hi).1;obtain rfl|rfl|rfl|rfl|rfl|rfl|rfl|rfl|rfl|rfl|rfl|rfl|rfl|rfl|rfl:=Hx i O
     all_goals
      simp only[Ai,Ag,Ak]at hi;subst hi
     . clear c;refine DS ?_;exact⟨(De b),d⟩
     . clear c;refine DS ?_;exact⟨(Dh b),d⟩
     . have k:=d.o.1 (DI A s);have e0:=(k.cell (i:=0) rfl).1.cell;clear c;refine DS ?_;exact⟨(DZ b),d⟩
     . clear c;refine DS ?_;exact⟨(Df b),d⟩
     . have k:=d.o.1 (DI A s);obtain rfl:=b.o.2.2.1 (c 2 Z);obtain rfl:=b.o.2.2.2.1 (c 3 Z);clear c;have q:=Ja (Hl _ ps (i:Int) V (HP.o V k.2.2));rw[KE]at q;refine Jc rfl rfl λK hK=>?_;go_simp;go_wp2_with(go_at_call 74;refine q.o.mono ?_;rintro e w5 ⟨v5,rfl,ad,a⟩)
       obtain⟨t,x,_,_,_,N,P,G7,G8,G9,y,G,z⟩:=b.o;exact E8 ⟨_,_,_,_,_,_,rfl,Ja ⟨t,x,λ_=>rfl,λ_=>rfl,λ_ _=>ad,N,P,G7,λh g=>(G8 h g).below a,λh g=>(G9 h g).below a,λh=>(y h).below a,λh g=>(G h g).below a,z⟩,Ja ⟨λh=>(d.o.1 h).below a,λh=>(d.o.2 h).below a⟩⟩
     . have k:=d.o.1 (DI A s);have e0:=(k.cell (i:=0) rfl).1.cell;clear c;refine DS ?_;exact⟨(Dw b),d⟩
     . have k:=d.o.1 (DI A s);have e0:=(k.cell (i:=0) rfl).1.cell;clear c;refine DS ?_;exact⟨(Dz b),d⟩
     . have k:=d.o.1 (DI A s);obtain rfl:=ED b (c 6 Z);clear c;have q:=Ja (JX _ ps V (HP.o V k.2.2));rw[Qv.o]at q;refine Jc rfl rfl λK hK=>?_;go_simp;go_wp2_with(go_at_call 30;refine q.o.mono ?_;rintro e w5 ⟨rfl,a⟩)
       obtain⟨t,x,H,L,G4,N,_,_,G8,G9,y,G,z⟩:=b.o;exact E8 ⟨_,_,_,_,_,_,rfl,Ja ⟨t,x,H,L,λh g=>(G4 h g).below a,N,λ_=>rfl,λ_=>rfl,λh g=>(G8 h g).below a,λh g=>(G9 h g).below a,λh=>(y h).below a,λh g=>(G h g).below a,z⟩,Ja ⟨λh=>(d.o.1 h).below a,λh=>(d.o.2 h).below a⟩⟩
     . have k:=d.o.1 (DI A s);obtain rfl:=Dn b (c 5 Z);obtain rfl:=ET b (c 7 Z);clear c;have q:=Ja (Hl _ ps (m:Int) V (HP.o V k.2.2));rw[KE]at q;refine Jc rfl rfl λK hK=>?_;go_simp;go_wp2_with(go_at_call 74;refine q.o.mono ?_;rintro e w5 ⟨v5,rfl,ad,a⟩)
       obtain⟨t,x,H,L,G4,_,P,_,_,G9,y,G,z⟩:=b.o;exact E8 ⟨_,_,_,_,_,_,rfl,Ja ⟨t,x,H,L,λh g=>(G4 h g).below a,λ_=>rfl,P,λ_=>rfl,λ_ _=>ad,λh g=>(G9 h g).below a,λh=>(y h).below a,λh g=>(G h g).below a,z⟩,Ja ⟨λh=>(d.o.1 h).below a,λh=>(d.o.2 h).below a⟩⟩
     . have U:D 14=false:=DI A s;have r:=b.o.2.2.2.2.1 (c 4 Z) U;have h1:=Ed b (c 8 Z) U;clear c;have q:=Ja (QD _ _ (cf ps i) (cf ps m) V r h1 (Qi.o.at i) (Qi.o.at m));rw[Qt.o]at q;clear r h1;refine Jc rfl rfl λK hK=>?_;go_simp;go_wp2_with(go_at_call 75;refine q.o.mono ?_;rintro e w5 ⟨v5,rfl,ad,a⟩)
       obtain⟨t,x,H,L,G4,N,P,G7,G8,_,y,G,z⟩:=b.o;exact E8 ⟨_,_,_,_,_,_,rfl,Ja ⟨t,x,H,L,λh g=>(G4 h g).below a,N,P,G7,λh g=>(G8 h g).below a,λ_ _=>⟨v5,rfl,ad⟩,λh=>(y h).below a,λh g=>(G h g).below a,z⟩,Ja ⟨λh=>(d.o.1 h).below a,λh=>(d.o.2 h).below a⟩⟩
     . have U:D 14=false:=DI A s;have r:=F3 b (c 9 Z) U;clear c;refine DS ?_;exact⟨(Dq b λ_=>GO.of r),d⟩
     . have U:D 14=false:=DI A s;have r:=EE b (c 10 Z);obtain⟨v7,rfl,h7⟩:=r;clear c;refine DS ?_;exact⟨(Dx b λ_ _=>h7 U),d⟩
     . have r:=EE b (c 10 Z);obtain⟨v7,rfl,h7⟩:=r;clear c;refine DS ?_;exact⟨(D3 b),d⟩
     . obtain rfl:=b.o.1 (c 0 Z);obtain rfl:=b.o.2.1 (c 1 Z);clear c;refine DS ?_;exact⟨(KW (Dh (De b))),d⟩
     . have k:=d.o.1 s;have r:=EZ b (c 11 Z) s;obtain rfl:=b.o.2.2.2.2.2.2.2.2.2.2.2.2.2 (c 13 Z);have hE:=k.rats (i:=2) rfl;obtain⟨xa,xb,xc,xd,e0,e1,e2,e3,_⟩:=hE.at Qm.o;have f0:=hE.frozen (i*4);have f1:=hE.frozen (i*4+1);have f2:=hE.frozen (i*4+2);have f3:=hE.frozen (i*4+3);obtain⟨s9,a9,l9,c9,t9,b9,k9,d9,rfl⟩:=Jh.form r;clear c;refine DS ?_;obtain⟨t,x,H,L,_,N,P,G7,_,_,y,_,z,_⟩:=b.o;exact⟨Ja ⟨t,x,H,L,λ_ h=>by simp at h,N,P,G7,λ_ h=>by simp at h,λ_ h=>by simp at h,λh=>GO.any (y h) Z,λ_ h=>by simp at h,z,λ_=>rfl⟩,Ja ⟨λh=>by simp at h,λ_=>k.putRats (i:=2) rfl Qm.o r⟩⟩
    case fin1=>
     rintro D ae V am ⟨tb,tc,td,te,tg,ti,tj,tk,tl,tm,ta,tn,tp,tq,rfl,b,d⟩;have HO:=Ja (d.o.2 (am 14 DF));clear b d am;rw[<-Qr.o]at HO;go_wp2_with fail
     go_roundw
     case rel=>exact⟨i+1,_,O,by go_num,Ja (Q.o.next aj),HO⟩
     case measure=>simp[intOf];omega
  . obtain rfl:i=n:=O
    have hE:=HM.o.rats (i:=2) rfl;have Qc:=hE.row (n:=i) (cap:=i) (by rw[Q.o.1];exact Aa _) (Aa _) O Qd;rw[Ad (by rw[Q.o.1];exact Aa _)]at Qc;have Qf:=Ja (QM _ S wr Qc (Sqs.of λj=>by
     rw[Q.o.2 j];split
     . exact Qn.o j
     . exact Hi))
    rw[Q.o.done (T:=Jp ps) (JP _ _) (λj hj=>by unfold Jp;rw[Yu,Fh,Cn,<-Fh]) λj hj=>by unfold Jp;rw[Yu,Ye (by rw[HN.o];exact hj),A2]]at Qf;clear hE Qc;go_wp2_with(go_at_call 25;refine Qf.o.mono ?_;clear Qf;rintro e w5 ⟨u5,rfl,ak,_,a⟩;obtain⟨a7,l7,c7,rfl⟩:=ak.form;have n5:=boxed_below (HM.o.cell (i:=1) rfl).1 a;have x0:=n5.cell;have x1:=n5.frozen;have Qu:=Ja (Eo n5 (E a7 l7 c7) ak.row);have Qp:=Ja ((Bt HM.o.2.2 a).setCell (p:=⟨w.heap.size+1,0,none⟩) (by show w.heap.size<=w.heap.size+1;omega) (E a7 l7 c7));clear ak a n5)
    exact BB (v:=M #[E a7 l7 c7]) (by simp[results,Tryz.results88,go_sem,x0]) rfl ⟨_,rfl,⟨_,rfl,Qu.o⟩,Qp.o⟩
end M3
section
def EK:Nat->List Rat->List Rat->List (List Rat)
 |0,a,_=>[a]
 |n+1,a,b=>if b=[]then [a]else a::EK n b (YP a b)
theorem cZ:∀(n m:Nat) (a b:List Rat),Jd b=b->b.length<=n->b.length<=m->EK n a b=EK m a b:=by
 intro n;induction n with
 |zero=>
  intro m a b _ h _;have d:b=[]:=Kl O;subst d;cases m with
  |zero=>rfl
  |succ m=>simp[EK]
 |succ n e=>
  intro m a b tb h g;by_cases c:b=[]
  . subst c;cases m with
    |zero=>simp[EK]
    |succ m=>simp[EK]
  . have hl:0<b.length:=Ae.2 c;cases m with
    |zero=>omega
    |succ m=>
     have i:=YZ (a:=a) tb c;simp only[EK,BA c];rw[e m b (YP a b) (Hs _ _) O O]
def EU(a b:List Rat):List (List Rat):=EK b.length a b
theorem KF(a:List Rat):EU a []=[a]:=rfl
theorem XC{a b:List Rat}(tb:Jd b=b)(c:b≠[]):EU a b=a::EU b (YP a b):=by
 have e:=YZ (a:=a) tb c;have hl:0<b.length:=Ae.2 c;unfold EU;obtain⟨n,d⟩:∃n,b.length=n+1:=⟨b.length-1,O⟩;rw[d,EK,BA c];congr 1;exact cZ _ _ _ _ (Hs _ _) O (Aa _)
def X2(p q:List Rat):List (List Rat):=EU (JI p) (JI q)
open Go.RowKit Go.Shelf
theorem Je.setB{V:F}{v:f}{ps:List Rat}(h:Je V v ps){B:Nat}{a:Option Addr}{l c:Nat}(b:Boxed V B 25 (E a l c)){u:f}:Je (V.setCell ⟨B,0,none⟩ u) v ps:=M3.Ko b h
end
namespace M3
open Go.RowKit Go.Shelf
attribute [local go_sem] Oper.semAt_some
def Da(V:F)(B:Nat)(a:Option Addr)(l c:Nat):Prop:=Boxed V B 25 (E a l c)
section
variable {V V':World} {B B':Nat} {a a':Option Addr} {l c l' c':Nat}
theorem Da.cell(h:Da V B a l c):V.cell? ⟨B,0,none⟩=some (E a l c):=Boxed.cell h
theorem Da.frozen(h:Da V B a l c):V.frozen? ⟨B,0,none⟩=false:=Boxed.frozen h
theorem Da.below(h:Da V B a l c)(b:Bl V V'):Da V' B a l c:=boxed_below h b
theorem Da.far(h:Da V B a l c)(b:B≠B'){u:f}:Da (V.setCell ⟨B',0,none⟩ u) B a l c:=Bx.far (cs:=#[E a l c]) h (p:=⟨B',0,none⟩) b u
theorem Da.put(h:Da V B a l c):Da (V.setCell ⟨B,0,none⟩ (E a' l' c')) B a' l' c':=(show Boxed V B 25 (E a l c)from h).set _
end
def GB(G:List (List Rat)->F->Prop):Prop:=∀H W W',G H W->Bl W W'->G H W'
def Kp(B4 B5:Nat)(G:List (List Rat)->F->Prop):Prop:=∀H W B a l c u,B=B4\/B=B5->Da W B a l c->G H W->G H (W.setCell ⟨B,0,none⟩ u)
def GQ(B4 B5:Nat)(G:List (List Rat)->F->Prop)(H:List (List Rat))(V:F)(v4 v5:f)(p q:List Rat):Prop:=(GB G/\Kp B4 B5 G)/\G H V/\Je V v4 p/\Je V v5 q
section
variable {B4 B5:Nat} {G:List (List Rat)->World->Prop} {H:List (List Rat)} {V V':World} {v4 v5:Value} {p q:List Rat}
theorem GQ.below(h:GQ B4 B5 G H V v4 v5 p q)(a:Bl V V'):GQ B4 B5 G H V' v4 v5 p q:=⟨h.1,h.1.1 _ _ _ h.2.1 a,h.2.2.1.below a,h.2.2.2.below a⟩
theorem GQ.put(h:GQ B4 B5 G H V v4 v5 p q){B:Nat}(d:B=B4\/B=B5){a:Option Addr}{l c:Nat}(b:Da V B a l c){u:f}:GQ B4 B5 G H (V.setCell ⟨B,0,none⟩ u) v4 v5 p q:=⟨h.1,h.1.2 _ _ _ _ _ _ _ d b h.2.1,h.2.2.1.setB b,h.2.2.2.setB b⟩
end
def Lz(V:F)(B:Nat)(r:List Rat):Prop:=∃a l c,Da V B a l c/\Je V (M #[E a l c]) r
theorem Lz.below{V V':F}{B:Nat}{r:List Rat}(h:Lz V B r)(b:Bl V V'):Lz V' B r:=by
 obtain⟨a,l,c,d,e⟩:=h;exact⟨a,l,c,d.below b,e.below b⟩
def Kq(V:F)(B:Nat):Nat:=match V.cell? ⟨B,0,none⟩with|some (E _ l _)=>l|_=>0
variable{p q:List Rat}{K c l:Nat}{a:Option Addr}{V:F}
theorem Da.len{B:Nat}(h:Da V B a l c):Kq V B=l:=by
 unfold Kq;rw[h.cell]
theorem Rn{ps:List Rat}(h:Je V (M #[E a l c]) ps):l=ps.length:=h.row.forms.1
theorem chnL_head(a b:List Rat):∃t,EU a b=a::t:=by
 unfold EU;cases b.length with
 |zero=>exact⟨_,rfl⟩
 |succ n=>
  rw[EK];split
  . exact⟨_,rfl⟩
  . exact⟨_,rfl⟩
def cd(B4 B5 n l:Nat)(C:List (List Rat))(G:List (List Rat)->F->Prop):Prop:=∀H W a c b d i g p q,H++[p] <+: C->B4<W.heap.size->B5<W.heap.size->G H W->Da W B4 a c b->Da W B5 d i g->Je W (M #[E a c b]) p->Je W (M #[E d i g]) q->
 YieldAt Fence.wide (n-1) R l #[M #[E a c b]] W λe W'=>e=.returned (X true)/\G (H++[p]) W'/\Da W' B4 a c b/\Da W' B5 d i g/\Je W' (M #[E a c b]) p/\Je W' (M #[E d i g]) q
structure ChOk(K:Nat)(p q:List Rat):Prop where
 tp:Jd p=p
 tq:Jd q=q
 cp:∃D:Int,D≠0/\Sm K D/\D6 D K p
 cq:∃D:Int,D≠0/\Sm K D/\D6 D K q
 le:4*((max p.length q.length+2)*(DY K p q+1))<=1000000000
 ln:max p.length q.length<=1000
theorem ChOk.lp(h:ChOk K p q):Ln K p:=by obtain⟨D,a,_,b⟩:=h.cp;exact b.ln a
theorem ChOk.lq(h:ChOk K p q):Ln K q:=by obtain⟨D,a,_,b⟩:=h.cq;exact b.ln a
theorem ChOk.bd(h:ChOk K p q):DY K p q<=1000000000/\K<=1000000000/\p.length+q.length<=1000000000/\1<=DY K p q:=by
 have a:=h.le;have b:=Lx K p q;have c:1*(DY K p q+1)<=(max p.length q.length+2)*(DY K p q+1):=Aj _ O;have d:(max p.length q.length+2)*1<=(max p.length q.length+2)*(DY K p q+1):=Aq _ O;omega
theorem cg(K n:Nat)(hn:1<=n)(Bp Bq:Nat)(pa qa:Option Addr)(pl pc ql qc:Nat)(p q:List Rat)(s:ChOk K p q)(l:Nat)(Gf:Nat->Nat->List (List Rat)->F->Prop)(w:F)(ay:Da w Bp pa pl pc)(az:Da w Bq qa ql qc)(ip:Je w (M #[E pa pl pc]) p)(iq:Je w (M #[E qa ql qc]) q)
(aq:∀B4 B5,GB (Gf B4 B5))(aw:∀B4 B5,w.heap.size<=B4->w.heap.size<=B5->Kp B4 B5 (Gf B4 B5))(hY:∀B4 B5,w.heap.size<=B4->w.heap.size<=B5->cd B4 B5 n l (X2 p q) (Gf B4 B5))(h0:∀B4 B5 V,w.heap.size<=B4->w.heap.size<=B5->Bl w V->Gf B4 B5 [] V):
 CallsIn Fence.wide n R 136 (#[.func (.yield l) #[] #[]]++#[C (some ⟨Bp,0,none⟩),C (some ⟨Bq,0,none⟩)]) w λe W'=>(∃v,e=.returned v)/\∃B4 B5 H a,(w.heap.size<=B4/\w.heap.size<=B5)/\Gf B4 B5 (H++[a]) W'/\X2 p q=H++[a]/\Chn p q (DY K p q) a []:=by
 have Qq:Tryz.prog.follows .mixedOrders=true:=by kernel_rfl
 have Qy:=Ja λ(V:F) (hB:Bl w V)=>(ay.below hB).cell;have Qp:=Ja λ(V:F) (hB:Bl w V)=>(az.below hB).cell;have Qw:=Ja (λ(V:F) (hB:Bl w V)=>show Calls R 137 #[M #[E pa pl pc]] V λe w'=>∃u,e=.returned u/\Je w' u (JI p)/\Bl V w' by
  obtain⟨D,h1,h2,h3⟩:=s.cp;exact OD D K _ p V (ip.below hB) s.tp h1 h2 h3 s.bd.2.1)
 have Qo:=Ja (λ(V:F) (hB:Bl w V)=>show Calls R 137 #[M #[E qa ql qc]] V λe w'=>∃u,e=.returned u/\Je w' u (JI q)/\Bl V w' by
  obtain⟨D,h1,h2,h3⟩:=s.cq;exact OD D K _ q V (iq.below hB) s.tq h1 h2 h3 s.bd.2.1)
 obtain⟨Qx,Qz,Ua⟩:=Db h0 (Chn.start s.tp s.tq s.lp s.lq s.bd.2.2.1) λ(a b:List Rat) (h:Chn p q (DY K p q) a b) (hb:b≠[])=>Chn.next s.tp s.tq s.lp s.lq s.bd.2.2.1 h hb;have Uj:=Ja (λ(V:F) (x y:f) (a b:List Rat) (hx:Je V x a) (hy:Je V y b) (h:Chn p q (DY K p q) a b) (hb:b≠[])=>cW (DY K p q) x y a b V hx hy h.wa h.wb h.ta h.tb hb s.bd.2.2.2 (by
  have h1:=h.la;have h2:(a.length+2)*(DY K p q+1)<=(max p.length q.length+2)*(DY K p q+1):=Aj _ O;have h3:=s.le;omega) (h.nx hb))
 have Qu:=Ja (show ∀B4 B5,w.heap.size<=B4->w.heap.size<=B5->GB (Gf B4 B5)/\Kp B4 B5 (Gf B4 B5)from λB4 B5 h4 h5=>⟨aq B4 B5,aw B4 B5 h4 h5⟩);have Qr:=Ja hY;have M1:Hid (Mem w w []):=Ja (Mem.nil w);clear s ay az ip iq aq aw hY h0;refine Br Tryz.func136 rfl trivial ?_ rfl;simp only[Tryz.ntmps136,As,Af,Ay,Nat.reduceAdd,Nat.reduceSub,Av,Aw,AG,AC,Ar,Au];gi_wp2_with fail
 refine JU Qq [[],[0],[],[2,1],[],[],[4,1,3,0,1,4,5],[5,3,6,0,1,2,3,4,5,6]] (by kernel_rfl) DF
  (λD ah V=>∃(tk tl tm tn ti tj:f) (L j:Option (Nat × Dat)),ah={ tmps:=#[.func (Fn.yield l) #[] #[],C (some ⟨Bp,0,none⟩),C (some ⟨Bq,0,none⟩),I,ti,tj,tk,tl,tm,tn,I,I,I,I,I,I,I,I,I,I,I,I],defers:=[] }/\Hid ((D 0=true->tk=M #[E pa pl pc])/\(D 1=true->Has V tl (.poly (JI p)))/\(D 2=true->tm=M #[E qa ql qc])/\(D 3=true->Has V tn (.poly (JI q)))/\((D 4=false->L=none)/\(D 4=true->D 6=false->∃B:Nat,ti=C (some ⟨B,0,none⟩)/\L=some (B,.poly []))/\(D 6=true->∃B:Nat,ti=C (some ⟨B,0,none⟩)/\L=some (B,.poly (JI p))))/\((D 5=false->j=none)/\(D 5=true->D 7=false->∃B:Nat,tj=C (some ⟨B,0,none⟩)/\j=some (B,.poly []))/\(D 7=true->∃B:Nat,tj=C (some ⟨B,0,none⟩)/\j=some (B,.poly (JI q)))))/\Hid (Mem w V [L,j]))
  ⟨_,_,_,_,_,_,none,none,rfl,Ja ⟨Z,Z,Z,Z,Z,Z⟩,Ja (((M1.o).none).none).drew⟩ ?step1 ?fin1
 case step1=>
  rintro D ah V i ds T hi g o ⟨tk,tl,tm,tn,ti,tj,L,j,rfl,d,A⟩;have Ug:i<8:=(Ac.1 hi).1;obtain rfl|rfl|rfl|rfl|rfl|rfl|rfl|rfl:=Kx i O
  all_goals
   simp only[Ai,Ag,Ak]at hi;subst hi
  . have e0:=Qy.o V A.o.2.2;clear g;refine Zc ?_;exact⟨_,_,_,_,_,_,_,_,rfl,(De d),Ja (A.o)⟩
  . obtain rfl:=(d.o.1 (g 0 Z));have HC:=Ja λ(n9:Nat)=>(BH (n:=n9)).2 (Qw.o V A.o.2.2);clear g;refine BM rfl λK hK=>?_;go_simp;gi_wp2_with(refine⟨trivial,?_⟩;gi_at_call 137;refine(HC.o _).mono ?_;rintro e w5 ⟨v5,rfl,aj,ad⟩)
    obtain⟨_,_,G2,G3,G4⟩:=d.o;exact⟨_,_,_,_,_,_,_,_,rfl,Ja ⟨λ_=>rfl,λ_=>aj,G2,λh=>(G3 h).below ad,G4⟩,Ja (A.o.below ad)⟩
  . have e0:=Qp.o V A.o.2.2;clear g;refine Zc ?_;exact⟨_,_,_,_,_,_,_,_,rfl,(DZ d),Ja (A.o)⟩
  . obtain rfl:=(d.o.2.2.1 (g 2 Z));have HC:=Ja λ(n9:Nat)=>(BH (n:=n9)).2 (Qo.o V A.o.2.2);clear g;refine BM rfl λK hK=>?_;go_simp;gi_wp2_with(refine⟨trivial,?_⟩;gi_at_call 137;refine(HC.o _).mono ?_;rintro e w5 ⟨v5,rfl,aj,ad⟩)
    obtain⟨G0,G1,_,_,G4⟩:=d.o;exact⟨_,_,_,_,_,_,_,_,rfl,Ja ⟨G0,λh=>(G1 h).below ad,λ_=>rfl,λ_=>aj,G4⟩,Ja (A.o.below ad)⟩
  . have hf:D 6=false:=DI T o;obtain rfl:=d.o.2.2.2.2.1.1 o;clear g;refine Zc ?_;obtain⟨G0,G1,G2,G3,_,G5⟩:=d.o;exact⟨_,_,_,_,_,_,_,_,rfl,Ja ⟨G0,λh=>(G1 h).alloc _,G2,λh=>(G3 h).alloc _,⟨λh=>by simp at h,λ_ _=>⟨_,rfl,rfl⟩,λh=>by simp[hf]at h⟩,G5⟩,Ja (A.o.fill (i:=0) rfl (.poly []) (Ht _))⟩
  . have hf:D 7=false:=DI T o;obtain rfl:=Dn d o;clear g;refine Zc ?_;obtain⟨G0,G1,G2,G3,G4,_⟩:=d.o;exact⟨_,_,_,_,_,_,_,_,rfl,Ja ⟨G0,λh=>(G1 h).alloc _,G2,λh=>(G3 h).alloc _,G4,⟨λh=>by simp at h,λ_ _=>⟨_,rfl,rfl⟩,λh=>by simp[hf]at h⟩⟩,Ja (A.o.fill (i:=1) rfl (.poly []) (Ht _))⟩
  . obtain⟨B,rfl,rfl⟩:=d.o.2.2.2.2.1.2.1 (g 4 Z) o;have Qe:=g 4 Z;have hv:=(d.o.2.1 (g 1 Z));obtain⟨a1,l1,c1,rfl⟩:=Je.form (show Je V _ _ from hv);obtain⟨a,l,c,n,r⟩:=A.o.poly2 (i:=0) rfl;have e0:=n.cell;have f0:=n.frozen;clear g;refine Zc ?_;obtain⟨G0,G1,G2,G3,_,G5⟩:=d.o;exact⟨_,_,_,_,_,_,_,_,rfl,Ja ⟨G0,λh=>(G1 h).set1 n rfl _,G2,λh=>(G3 h).set1 n rfl _,⟨λh=>by simp[Qe]at h,λ_ h=>by simp at h,λ_=>⟨B,rfl,rfl⟩⟩,G5⟩,Ja (A.o.putPoly (i:=0) rfl hv)⟩
  . obtain⟨B,rfl,rfl⟩:=ED d (g 5 Z) o;have Qe:=g 5 Z;have hv:=(d.o.2.2.2.1 (g 3 Z));obtain⟨a1,l1,c1,rfl⟩:=Je.form (show Je V _ _ from hv);obtain⟨a,l,c,n,r⟩:=A.o.poly2 (i:=1) rfl;have e0:=n.cell;have f0:=n.frozen;clear g;refine Zc ?_;obtain⟨G0,G1,G2,G3,G4,_⟩:=d.o;exact⟨_,_,_,_,_,_,_,_,rfl,Ja ⟨G0,λh=>(G1 h).set1 n rfl _,G2,λh=>(G3 h).set1 n rfl _,G4,⟨λh=>by simp[Qe]at h,λ_ h=>by simp at h,λ_=>⟨B,rfl,rfl⟩⟩⟩,Ja (A.o.putPoly (i:=1) rfl hv)⟩
 rintro D ah V2 ae ⟨tk,tl,tm,tn,ti,tj,L,j,rfl,d,A⟩;obtain⟨k,rfl,rfl⟩:=d.o.2.2.2.2.1.2.2 (ae 6 DF);obtain⟨B4,rfl,rfl⟩:=d.o.2.2.2.2.2.2.2 (ae 7 DF);obtain rfl:=d.o.1 (ae 0 DF);obtain rfl:=d.o.2.2.1 (ae 2 DF);clear d ae M1;have M2:Hid (Mem w V2 [some (k,.poly (JI p)),some (B4,.poly (JI q))]):=A;clear A;obtain⟨a5,Q,P,n5,r5⟩:=M2.o.poly2 (i:=0) rfl;obtain⟨a6,l6,c6,n6,r6⟩:=M2.o.poly2 (i:=1) rfl;have Qc:=Ja (show k≠B4/\w.heap.size<=k/\w.heap.size<=B4 from⟨M2.o.ne 0 1 rfl rfl DF,M2.o.ge 0 rfl,M2.o.ge 1 rfl⟩);obtain⟨Ql,Qi,Qm,Qv⟩:=Dr (Qx.o k B4 V2 Qc.o.2.1 Qc.o.2.2 M2.o.2.2) (Qu.o k B4 Qc.o.2.1 Qc.o.2.2) (Qr.o k B4 Qc.o.2.1 Qc.o.2.2) (show ∀H a W,Gf k B4 (H++[a]) W->X2 p q=H++[a]->Chn p q (DY K p q) a []->∃B4 B5 H a,(w.heap.size<=B4/\w.heap.size<=B5)/\Gf B4 B5 (H++[a]) W/\X2 p q=H++[a]/\Chn p q (DY K p q) a []from λH a W h1 h2 h3=>⟨k,B4,H,a,⟨Qc.o.2.1,Qc.o.2.2⟩,h1,h2,h3⟩);clear Qx Qu Qr;obtain⟨G,hG⟩:=ex (Gf k B4);rw[hG]at Ql Qi Qm Qv;clear hG;have Qn:Hid (GQ k B4 G [] V2 (M #[E a5 Q P]) (M #[E a6 l6 c6]) (JI p) (JI q)):=Ja ⟨Qi.o,Ql.o,r5,r6⟩;have N4:Hid (Da V2 k a5 Q P):=Ja n5;have N5:Hid (Da V2 B4 a6 l6 c6):=Ja n6;clear n5 n6 r5 r6 M2 Qw Qo Ql Qy Qp;gi_wp2;gi_loopw [] (λwr=>∃(H:List (List Rat)) (a b:List Rat) (L j:Option Addr) (l4 c4 Q P:Nat),Hid (GQ k B4 G H wr (M #[E L l4 c4]) (M #[E j Q P]) a b)/\Hid (Da wr k L l4 c4)/\Hid (Da wr B4 j Q P)/\Hid (Chn p q (DY K p q) a b)/\Hid (X2 p q=H++EU a b)) λwr=>Kq wr B4
 case atStart=>exact⟨[],_,_,_,_,_,_,_,_,Qn,N4,N5,Qz,Ja rfl⟩
 case round=>
  clear Qn N4 N5 Qz;obtain⟨H,a,b,L,j,l4,c4,Q,P,HG,H4,H5,HC,HH⟩:=hrel;obtain⟨fn,tmps,assign,body,hy,ax⟩:=Qm.o H wr L l4 c4 j Q P a b (by obtain⟨t,ht⟩:=chnL_head a b;exact⟨t,by rw[HH.o,ht];simp⟩) (Bx.lt (cs:=#[E L l4 c4]) H4.o) (Bx.lt (cs:=#[E j Q P]) H5.o) HG.o.2.1 H4.o H5.o HG.o.2.2.1 HG.o.2.2.2;have e4:=H4.o.cell;gi_wp2;refine ax.mono ?_;rintro e W3 ⟨rfl,ap,an,am,ba,ak⟩;have Qt:Hid (GQ k B4 G (H++[a]) W3 (M #[E L l4 c4]) (M #[E j Q P]) a b):=Ja ⟨Qi.o,ap,ba,ak⟩;obtain⟨Up,Um,Qh⟩:=Db (Rn ak) (H5.o.len) (JX _ b W3 ak);have e5:=am.cell;have Ul:=Ja an;have Uo:=Ja am;clear hy ax e4 ap an am ba ak HG H4 H5;by_cases af:b=[]
  . have HE:=Ja (show X2 p q=H++[a]by rw[HH.o,af];rfl);have Ui:=Ja (show Chn p q (DY K p q) a []by have:=HC.o;rwa[af]at this);rw[af,show((([]:List Rat).length:Int)-1)=-1 from rfl]at Qh;gi_wp2_with(refine⟨trivial,?_⟩;gi_at_call 30;refine((BH (n:=_)).2 Qh.o).mono ?_;clear Qh;rintro e w4 ⟨rfl,ai⟩)
    go_end0;exact⟨⟨_,rfl⟩,Qv.o H a _ (Qt.o.below ai).2.1 HE.o Ui.o⟩
  . obtain⟨m,hm⟩:=ex (b.length-1:Nat);have Qs:(b.length:Int)-1=(m:Int):=by have:=Ae.2 af;omega
    rw[Qs]at Qh;obtain⟨Uh,Uk,Ub,Qj⟩:=Dr (Ua.o a b HC.o af) (YZ (a:=a) HC.o.tb af) (show X2 p q=(H++[a])++EU b (YP a b)by rw[HH.o,XC HC.o.tb af,CY];rfl) λ(V:F) (x y:f) (hx:Je V x a) (hy:Je V y b)=>Uj.o V x y a b hx hy HC.o af;have bc:¬(m:Int)<0:=O
    clear hm Qs af;gi_wp2_with(refine⟨trivial,?_⟩;gi_at_call 30;refine((BH (n:=_)).2 Qh.o).mono ?_;clear Qh;rintro e w4 ⟨rfl,ai⟩)
    have Ud:=(Qt.o.below ai).below ((BF _ w4).drew);have Un:=(Ul.o.below ai).below ((BF _ w4).drew);have Ue:=(Uo.o.below ai).below ((BF _ w4).drew);refine JU Qq [[],[],[],[1,2],[0,3,0,1],[3,4,0,1,2,3,4]] (by kernel_rfl) DF
     (λD ah V=>∃(tc td te tg:f),ah={ tmps:=#[.func (Fn.yield l) #[] #[],C (some ⟨Bp,0,none⟩),C (some ⟨Bq,0,none⟩),I,C (some ⟨k,0,none⟩),C (some ⟨B4,0,none⟩),M #[E pa pl pc],tl,M #[E qa ql qc],tn,.func (Fn.yield l) #[] #[],M #[E L l4 c4],X true,X true,M #[E j Q P],.int .i64 ↑m,X true,X true,tc,td,te,tg],defers:=[] }/\Hid ((D 0=true->tc=M #[E j Q P])/\(D 1=true->td=M #[E L l4 c4])/\(D 2=true->te=M #[E j Q P])/\(D 3=true->D 5=false->Je V tg (YP a b)))/\Hid (GQ k B4 G (H++[a]) V (M #[E L l4 c4]) (M #[E j Q P]) a b)/\Hid ((D 4=false->Da V k L l4 c4)/\(D 4=true->Da V k j Q P))/\Hid ((D 5=false->Da V B4 j Q P)/\(D 5=true->Lz V B4 (YP a b))))
     ⟨_,_,_,_,rfl,Ja ⟨Z,Z,Z,Z⟩,Ja Ud,Ja ⟨λ_=>Un,Z⟩,Ja ⟨λ_=>Ue,Z⟩⟩ ?step7 ?fin7
    case step7=>
     rintro D ah V i ds T hi g o ⟨tc,td,te,tg,rfl,d,N,S,z⟩;have Ug:i<6:=(Ac.1 hi).1;obtain rfl|rfl|rfl|rfl|rfl|rfl:=Kw i O
     all_goals
      simp only[Ai,Ag,Ak]at hi;subst hi
     . have Qf:=N.o;have Qb:=S.o.1 (DI T o);have U:=z.o.1 (DI T o);have e0:=U.cell;clear g;refine Zc ?_;exact⟨_,_,_,_,rfl,Ja ⟨λ_=>rfl,d.o.2.1,d.o.2.2.1,d.o.2.2.2⟩,Ja (N.o),S,Ja ⟨z.o.1,z.o.2⟩⟩
     . have Qf:=N.o;have Qb:=S.o.1 (DI T o);have U:=z.o.1 (DI T o);have e0:=Qb.cell;clear g;refine Zc ?_;exact⟨_,_,_,_,rfl,Ja ⟨d.o.1,λ_=>rfl,d.o.2.2.1,d.o.2.2.2⟩,Ja (N.o),S,Ja ⟨z.o.1,z.o.2⟩⟩
     . have Qf:=N.o;have Qg:D 4=false:=DI T (DI (a:=3) T o);have Qb:=S.o.1 Qg;have U:=z.o.1 (DI T o);have e0:=U.cell;clear g;refine Zc ?_;exact⟨_,_,_,_,rfl,Ja ⟨d.o.1,d.o.2.1,λ_=>rfl,d.o.2.2.2⟩,Ja (N.o),S,Ja ⟨z.o.1,z.o.2⟩⟩
     . have Qf:=N.o;have Qb:=S.o.1 (DI T o);have U:=z.o.1 (DI T o);obtain rfl:=d.o.2.1 (g 1 Z);obtain rfl:=d.o.2.2.1 (g 2 Z);clear g;have HC:=Ja λ(n9:Nat)=>(BH (n:=n9)).2 (Qj.o V _ _ Qf.2.2.1 Qf.2.2.2);refine BM rfl λK hK=>?_;go_simp;gi_wp2_with(refine⟨trivial,?_⟩;gi_at_call 138;refine(HC.o _).mono ?_;rintro e w5 ⟨v5,rfl,aj,ad⟩)
       exact⟨_,_,_,_,rfl,Ja ⟨d.o.1,λ_=>rfl,λ_=>rfl,λ_ _=>aj⟩,Ja (N.o.below ad),Ja ⟨λh=>(S.o.1 h).below ad,λh=>(S.o.2 h).below ad⟩,Ja ⟨λh=>(z.o.1 h).below ad,λh=>(z.o.2 h).below ad⟩⟩
     . have Qf:=N.o;have Qb:=S.o.1 o;have Qd:D 5=false:=DI T o;have U:=z.o.1 Qd;obtain rfl:=d.o.1 (g 0 Z);have e0:=Qb.cell;have f0:=Qb.frozen;clear g;refine Zc ?_;exact⟨_,_,_,_,rfl,Ja ⟨λ_=>rfl,d.o.2.1,d.o.2.2.1,λh h2=>(d.o.2.2.2 h h2).setB Qb⟩,Ja (N.o.put (Or.inl rfl) Qb),Ja ⟨λh=>by simp at h,λ_=>Qb.put⟩,Ja ⟨λh=>(z.o.1 h).far λe=>Qc.o.1 e.symm,λh=>by simp[Qd]at h⟩⟩
     . have Qf:=N.o;have U:=z.o.1 o;have h0:=d.o.2.2.2 (g 3 Z) o;have Qk:=g 4 Z;have e0:=U.cell;have f0:=U.frozen;obtain⟨x7,l7,c7,rfl⟩:=Je.form h0;clear g;refine Zc ?_;exact⟨_,_,_,_,rfl,Ja ⟨d.o.1,d.o.2.1,d.o.2.2.1,λ_ h=>by simp at h⟩,Ja (N.o.put (Or.inr rfl) U),Ja ⟨λh=>by simp[Qk]at h,λh=>(S.o.2 h).far Qc.o.1⟩,Ja ⟨λh=>by simp at h,λ_=>⟨x7,l7,c7,U.put,h0.setB U⟩⟩⟩
    case fin7=>
     rintro D ah V ae ⟨tc,td,te,tg,rfl,d,N,S,z⟩;obtain⟨x7,l7,c7,n7,i7⟩:=z.o.2 (ae 5 DF);have n6:=S.o.2 (ae 4 DF);have Uf:Hid (GQ k B4 G (H++[a]) V (M #[E j Q P]) (M #[E x7 l7 c7]) b (YP a b)):=Ja ⟨Qi.o,N.o.2.1,N.o.2.2.2,i7⟩;obtain⟨Uc,N6,N7⟩:=Db (show Kq V B4<Kq wr B4 by rw[n7.len,Um.o,Rn i7,Up.o];exact Uk.o) n6 n7;clear d N S z ae n6 n7 i7;gi_wp2;go_roundw
     case rel=>exact⟨H++[a],b,YP a b,_,_,_,_,_,_,Uf,N6,N7,Uh,Ub⟩
     case measure=>exact Uc.o
end M3
namespace M3
open Go.RowKit Go.Shelf
attribute [local go_sem] Oper.semAt_some
variable{ps:List Rat}{v:f}{W:F}
theorem Ro(n:Nat)(a d:Option Addr)(c b i g:Nat)(w:F):
 CallsIn Fence.wide n R 87 #[M #[E a c b],M #[E d i g]] w λe j=>e=.returned (.func (.func 136) #[] #[C (some ⟨w.heap.size,0,none⟩),C (some ⟨w.heap.size+1,0,none⟩)])/\j=(w.alloc (.cells #[E a c b] 25)).alloc (.cells #[E d i g] 25):=by
 refine Br Tryz.func87 rfl trivial ?_ rfl;simp only[Tryz.ntmps87,As,Af,Ay,Nat.reduceAdd,Nat.reduceSub,Av,Aw,AG,AC,Ar,Au];gi_wp2;go_ret;exact⟨rfl,rfl⟩
def OE(B B4 B5:Nat)(I:List (List Rat)->F->Prop)(H:List (List Rat))(W:F):Exit->Act->F->Prop
 |.normal,_,W'=>I H W'/\W.heap.size<=W'.heap.size/\(∀(k:Nat) (o:Obj),B<=k->o.isCells=false\/k=B4\/k=B5->W.heap[k]?=some o->W'.heap[k]?=some o)/\∀v ps,Je W v ps->Je W' v ps
 |_,_,_=>False
theorem L0{W':F}{row:Option Nat}(a:W.grownBy W' row)(b:∀r,row=some r->∃o:Obj,W.heap[r]?=some o/\o.isCells=false)(h:Je W v ps):Je W' v ps:=by
 obtain⟨u,e,h⟩:=h;exact⟨u,e,Hj a b h⟩
theorem L1{l:Nat}{o a:Obj}(hl:W.heap[l]?=some o)(b:o.isCells=false)(h:Je W v ps):Je (W.putObj l a) v ps:=
 L0 (BU W l a) (λr e=>by cases e;exact⟨o,hl,b⟩) h
theorem Rp{g:Operand}{ps:Array Tmp}{assign body:Code}{Q:Exit->Act->F->Prop}{a:Act}{w:F}{n:Nat}
(h1:2<=n){K N S:Nat}{pa qa:Option Addr}{pl pc ql qc:Nat}{p q:List Rat}(bc:ChOk K p q)(aq:Da w N pa pl pc)(aw:Da w S qa ql qc)(ip:Je w (M #[E pa pl pc]) p)(iq:Je w (M #[E qa ql qc]) q)
(hg:a.eval g=.func (.func 136) #[] #[C (some ⟨N,0,none⟩),C (some ⟨S,0,none⟩)])(eg:∀args w,(callFunc 136 args).run R w=.ok (.enter 136 args) w)(bg:ps.size=1)
(I:Nat->Nat->List (List Rat)->F->Prop)(hI:∀B4 B5,OwnFrom w.heap.size (I B4 B5))(af:∀B4 B5,GB (I B4 B5))(am:∀B4 B5,w.heap.size<=B4->w.heap.size<=B5->Kp B4 B5 (I B4 B5))(h0:∀B4 B5 V,w.heap.size+2<=B4->w.heap.size+2<=B5->Bl w V->I B4 B5 [] V)(a₁:f->Nat->Act)
(an:∀(l:Nat) (x:Option Addr) (y s:Nat) (W:F) (K:Act->F->Prop),K (a₁ (E x y s) W.heap.size) (W.alloc (.cells #[E x y s] 25))->
  assign.wpIn (Fence.wide.inRound l) (n-1-1) R (Exit.then K λ_ _ _=>False) { tmps:=(ps.zip #[M #[E x y s]]).foldl (λt (p,v)=>t.setIfInBounds p v) a.tmps,defers:=[] } W)
(ap:∀(l b B4 B5:Nat) (x:Option Addr) (y s:Nat) (r:List Rat) (H:List (List Rat)) (W:F),I B4 B5 H W->H++[r] <+: X2 p q->w.heap.size+1<b->B4<b->B5<b->Da W b x y s->Je W (M #[E x y s]) r->
  body.wpIn (Fence.wide.inRound l) (n-1-1) R (OE w.heap.size B4 B5 (I B4 B5) (H++[r]) W) (a₁ (E x y s) b) W)
(ay:∀(D B4 B5:Nat) (W:F) (H:List (List Rat)) (r:List Rat),w.heap.size<=D->I B4 B5 (H++[r]) W->X2 p q=H++[r]->Chn p q (DY K p q) r []->W.heap[D]?=some (.deferred (some []))->Q .normal { a with defers:={ target:=.collected D,args:=#[] }::a.defers } W):
 (Code.rangeFunc g ps assign body).wpIn Fence.wide n R Q a w:=by
 refine wpIn_rangeFunc λfn az=>?_;rw[show Fence.wide.round=none from rfl];obtain⟨rc,G⟩:∃rc:LoopState->Option Code->Loop,rc=λst pe=>{ state:=st,pending:=pe,fn,tmps:=a.tmps,params:=ps,assign,body,defers:=w.heap.size }:=⟨_,rfl⟩;obtain⟨V,hV⟩:=ex ((w.alloc (.deferred (some []))).alloc (.loop (rc .ready none)));have vL:V.heap[w.heap.size+1]?=some (.loop (rc .ready none)):=by
  rw[<-hV];have:=BE (w.alloc (.deferred (some []))) (.loop (rc .ready none));rwa[Ax]at this
 have vD:V.heap[w.heap.size]?=some (.deferred (some [])):=by
  rw[<-hV];exact(Bh _ _ _ Z).trans (BE w _)
 have T:Bl w V:=by rw[<-hV];exact(Ba w _).alloc (by rw[Ax];omega) _
 have bj:V.heap.size=w.heap.size+2:=by rw[<-hV];simp
 refine⟨w.heap.size+1,[{ target:=.collected w.heap.size,args:=#[] }],V,{ target:=.fn (.func 136) #[C (some ⟨N,0,none⟩),C (some ⟨S,0,none⟩)],args:=#[.func (.yield (w.heap.size+1)) #[] #[]] },V,136,
  #[.func (.yield (w.heap.size+1)) #[] #[]]++#[C (some ⟨N,0,none⟩),C (some ⟨S,0,none⟩)],V,?_,?_,?_,?_,λ_=>by omega,?_⟩
 . rw[<-hV,G];exact run_enterLoop_outer _ _ _ _ _
 . simp only[resolve,hg];simp[go_sem]
 . intro f' ah;simp[Target.leads]at ah;subst ah;exact trivial
 . simp[invoke,go_sem,eg]
 refine(cg K (n-1) O N S pa qa pl pc ql qc p q bc (w.heap.size+1)
  (λB4 B5 H W=>I B4 B5 H W/\W.heap[w.heap.size+1]?=some (.loop (rc .ready none))/\W.heap[w.heap.size]?=some (.deferred (some [])))
  V (aq.below T) (aw.below T) (ip.below T) (iq.below T) ?_ ?_ ?_ λB4 B5 U h4 h5 hU=>⟨h0 B4 B5 U O O (T.trans (hU.mono O)),(hU.block _ (Ab.1 vL).1).trans vL,(hU.block _ (Ab.1 vD).1).trans vD⟩).mono ?_
 . rintro B4 B5 H W W' ⟨A,hl,d⟩ hb;exact⟨af _ _ _ _ _ A hb,(hb.block _ (Ab.1 hl).1).trans hl,(hb.block _ (Ab.1 d).1).trans d⟩
 . rintro B4 B5 h4 h5 H W B x y s u hB hb ⟨A,hl,d⟩;exact⟨am B4 B5 O O _ _ _ _ _ _ _ hB hb A,(BD W ⟨B,0,none⟩ u _ (by show w.heap.size+1≠B;omega)).trans hl,(BD W ⟨B,0,none⟩ u _ (by show w.heap.size≠B;omega)).trans d⟩
 . rintro B4 B5 bh bi H W j o m a5 l5 c5 p4 q5 bf aj ak ⟨A,hl,d⟩ h4 h5 i4 i5;have Qf:w.heap.size+1<W.heap.size:=(Ab.1 hl).1;have hy:=run_yield (P:=R) (args:=#[M #[E j o m]]) hl (by rw[G];exact bg.symm);rw[G]at hy;obtain⟨i,ae⟩:=ex (W.alloc (.cells #[E j o m] 25));have z:Bl W i:=by rw[<-ae];exact Ba W _
   have Qd:i.heap[w.heap.size+1]?=some (.loop (rc .ready none)):=(z.block _ Qf).trans hl;have Ql:i.heap[w.heap.size]?=some (.deferred (some [])):=(z.block _ O).trans d;have Qj:I B4 B5 H i:=af _ _ _ _ _ A z;have Qh:Da i W.heap.size j o m:=by rw[<-ae];exact BG W 25 (E j o m)
   refine⟨fn,_,assign,body,hy,roundIn_of_wpIn az (an _ _ _ _ W _ ?_)⟩;rw[ae];refine⟨_,run_beginRound Qd (by rw[G]),?_⟩;obtain⟨bx,ax⟩:=ex (W.heap.size);have Qu:=h4.below z;have Qr:=h5.below z;have Qv:=i4.below z;have Qn:=i5.below z;rw[ax]at Qh Qf aj ak ⊢;have Qg:w.heap.size+1<i.heap.size:=(Ab.1 Qd).1;obtain⟨c,L⟩:=ex (i.putObj (w.heap.size+1) (.loop { rc .ready none with state:=.busy }));rw[L];have Qo:c.heap[w.heap.size+1]?=some (.loop { rc .ready none with state:=.busy }):=by rw[<-L];exact Bb Qg
   have Qe:∀k,k≠w.heap.size+1->c.heap[k]?=i.heap[k]?:=λk d=>by rw[<-L];exact BK O
   have Qt:Da c bx j o m:=(Qe bx O).trans Qh;have Qk:c.heap[w.heap.size]?=some (.deferred (some [])):=(Qe _ O).trans Ql;have Qp:I B4 B5 H c:=by rw[<-L];exact(hI B4 B5).putObj _ Qj O Qd rfl
   have Qq:Da c B4 j o m:=(Qe B4 O).trans Qu;have Qw:Da c B5 a5 l5 c5:=(Qe B5 O).trans Qr;have Qi:Je c (M #[E j o m]) p4:=by rw[<-L];exact L1 Qd rfl Qv
   have Qs:Je c (M #[E a5 l5 c5]) q5:=by rw[<-L];exact L1 Qd rfl Qn
   refine wpIn_mono (ap _ bx B4 B5 j o m p4 H c Qp bf Qf aj ak Qt Qi) λe a3 W3 hp=>?_;cases e with
   |normal=>
    obtain⟨ba,bk,ad,ai⟩:=hp;have Qc:=ad _ _ O (Or.inl rfl) Qo;have hr:=run_endRound (P:=R) none Qc;have Qa:∀k,k≠w.heap.size+1->(W3.putObj (w.heap.size+1) (.loop (rc .ready none))).heap[k]?=W3.heap[k]?:=λk d=>BK O;have Qm:(Instr.endRound (w.heap.size+1) none).run R W3=.ok (X true) (W3.putObj (w.heap.size+1) (.loop (rc .ready none))):=by
     rw[G]at hr ⊢;exact hr
    exact⟨_,_,Qm,rfl,⟨(hI B4 B5).putObj _ ba O Qc rfl,Bb (Ab.1 Qc).1,(Qa _ O).trans (ad _ _ (Aa _) (Or.inl rfl) Qk)⟩,
     (Qa _ O).trans (ad _ _ O (Or.inr (Or.inl rfl)) Qq),(Qa _ O).trans (ad _ _ O (Or.inr (Or.inr rfl)) Qw),L1 Qc rfl (ai _ _ Qi),L1 Qc rfl (ai _ _ Qs)⟩
   |ret=>exact hp.elim
   |exit id=>exact hp.elim
   |goto t=>exact hp.elim
   |panic ch=>exact hp.elim
   |outgrown=>exact hp.elim
 . rintro e c ⟨⟨v,rfl⟩,B4,B5,H,r,⟨h4,h5⟩,⟨A,hl,d⟩,hc,hn⟩;exact⟨none,_,by have:=run_endLoop (P:=R) hl (by rw[G];simp);rw[G]at this;exact this,ay _ B4 B5 _ H r (Aa _) ((hI B4 B5).putObj _ A O hl rfl) hc hn ((BK O).trans d)⟩
