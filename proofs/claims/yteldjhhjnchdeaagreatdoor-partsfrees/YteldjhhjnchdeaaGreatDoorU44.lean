import Derived.Test.YteldjhhjnchdeaaGreatDoorU43
open Go.Value renaming slice->E,pointer->C,agg->R,bool->M
open Go renaming World->F,undef->I,Value->f
open Go.Proofs.Tryz renaming prog->X
open Go.Obj renaming cells->G
set_option maxRecDepth 100000
set_option maxHeartbeats 16000000
namespace Go.Proofs.YteldjhhjnchdeaaGreatDoor
namespace M3
open Go.RowKit Go.Shelf
attribute [local go_sem] Oper.semAt_some
variable{b:Bool}{ps qs:List Rat}{c:Rat}{t:f}{V:F}
theorem eX(va vb:f)(ps qs:List Rat)(w:F)(ha:Jf w va ps)(hb:Jf w vb qs)(aw:Sqs ps)(bc:Sqs qs)(az:qs≠[])(ay:∀i,i<=ps.length+1-qs.length->Sq (Yz (cf qs (qs.length-1))^i))(bf:∀i,Sq (cf ps i*Gs ps qs)):
 Calls X 99 #[va,vb] w λe w'=>∃u,e=.returned u/\Jf w' u (Xi ps qs)/\Bl w w':=by
 obtain⟨m,hm⟩:=ex (qs.length-1:Nat);have Uc:0<qs.length:=Al.2 az;have Qy:ps.length<=1099511627776:=by
  obtain⟨Q,la,S,rfl⟩:=ha.form;have:=ha.row.forms;omega
 have Qt:qs.length<=1099511627776:=by
  obtain⟨z,lb,A,rfl⟩:=hb.form;have:=hb.row.forms;omega
 obtain⟨L,hL⟩:=ex (Yz (cf qs m):Rat);obtain⟨N,hN⟩:=ex (ps.length+1-qs.length:Nat);obtain⟨e1,ap⟩:=ex ((ps.length:Int)-1:Int);have Qp:(qs.length:Int)-1=(m:Int):=J
 obtain⟨e3,cn⟩:=ex (e1-(m:Int):Int);obtain⟨e4,co⟩:=ex (e3+1:Int);have ct:IntKind.i64.wrap e3=e3:=by rw[BS];omega
 have de:IntKind.i64.wrap e4=e4:=by rw[BS];omega
 obtain⟨Qb,Qo,Ub,Qw,Qc,HT,Qu,Qs⟩:=Ho (show(∀i:Nat,(i:Int)<e4↔i<N)/\N<=1099511627777 from⟨λi=>by omega,J⟩) Qp ap hL (show ∀i,i<=N->Sq (L^i)from λi hi=>by rw[<-hL,<-hm];exact ay i J) (show Dd (L^N) ps=Xi ps qs by unfold Xi Gs;rw[hm,hL,hN]) (show ∀i,Sq (cf ps i*L^N)from λi=>by have:=bf i;unfold Gs at this;rwa[hm,hL,hN]at this) aw;have Qz:=O bc;clear ay bf aw bc az hN hL hm Uc Qy Qt ap Qp;have Ql:Tryz.prog.follows .mixedOrders=true:=by kernel_rfl
 obtain⟨Q,la,S,rfl⟩:=ha.form;obtain⟨z,lb,A,rfl⟩:=hb.form;have M0:=(((Mem.nil w).push (.cell 25 (E Q la S)) (cs:=#[E Q la S]) ⟨rfl,rfl⟩).push (.cell 25 (E z lb A)) (cs:=#[E z lb A]) ⟨rfl,rfl⟩).push (.cell 25 (E none 0 0)) (cs:=#[E none 0 0]) ⟨rfl,rfl⟩;simp only[A1]at M0;obtain⟨W0,ai⟩:=ex (((w.alloc (G #[E Q la S] 25)).alloc (G #[E z lb A] 25)).alloc (G #[E none 0 0] 25));obtain⟨Qj,HP,HQ⟩:=Dg ai (λ(V:F) (hB:Bl w V)=>ha.below hB) λ(V:F) (hB:Bl w V)=>hb.below hB;have M1:Hid (Mem w W0 [some (w.heap.size,.cell 25 (E Q la S)),some (w.heap.size+1,.cell 25 (E z lb A)),some (w.heap.size+1+1,.cell 25 (E none 0 0))]):=O (by rw[<-ai];exact M0);clear M0 ai ha hb;go_enter Tryz.func99,Tryz.ntmps99
 go_upto_region 1 with fail
 rw[Qj.o];clear Qj;refine Jn Ql [[],[],[1],[0,2,2],[3,3],[],[5,4,4,0,1,2,3,4,5]] (by kernel_rfl) DQ
  (λD ad V=>∃(tm tn ta tb tc tl:f) (x5:Option (Nat × Dat)),ad={ tmps:=#[R #[E Q la S],R #[E z lb A],C (some ⟨w.heap.size,0,none⟩),C (some ⟨w.heap.size+1,0,none⟩),C (some ⟨w.heap.size+1+1,0,none⟩),tl,I,I,tm,tn,ta,tb,tc,I,I,I,I,I,I,I,I,I,I,I,I,I,I,I,I,I,I,I,I,I],defers:=[] }/\Hid ((D 0=true->tm=R #[E z lb A])/\(D 1=true->tn=R #[E z lb A])/\(D 2=true->ta=.int .i64 (m:Int))/\(D 3=true->Has V tb (.rat (cf qs m)))/\(D 4=true->Has V tc (.rat L))/\((D 5=false->x5=none)/\(D 5=true->D 6=false->∃B:Nat,tl=C (some ⟨B,0,none⟩)/\x5=some (B,.rat 0))/\(D 6=true->∃B:Nat,tl=C (some ⟨B,0,none⟩)/\x5=some (B,.rat L))))/\Hid (Mem w V [some (w.heap.size,.cell 25 (E Q la S)),some (w.heap.size+1,.cell 25 (E z lb A)),some (w.heap.size+1+1,.cell 25 (E none 0 0)),x5]))
  ⟨_,_,_,_,_,_,none,rfl,O ⟨Y,Y,Y,Y,Y,Y⟩,O ((M1.o).none).drew⟩ ?step1 ?fin1
 case step1=>
  rintro D ad V i ds an hi q af ⟨tm,tn,ta,tb,tc,tl,x5,rfl,g,o⟩;have Qv:i<7:=(Ad.1 hi).1;obtain rfl|rfl|rfl|rfl|rfl|rfl|rfl:=IX i J
  all_goals
   simp only[Af,Ae,Ah]at hi;subst hi
  . have e0:=(o.o.cell (i:=1) rfl).1.cell;clear q;refine Za ?_;exact⟨_,_,_,_,_,_,_,rfl,(Dh g),O (o.o)⟩
  . have e0:=(o.o.cell (i:=1) rfl).1.cell;clear q;refine Za ?_;exact⟨_,_,_,_,_,_,_,rfl,(Dn g),O (o.o)⟩
  . obtain rfl:=(g.o.2.1 (q 1 Y));have P:=O (YF _ qs V (HQ.o V o.o.2.2));rw[Qo.o]at P;clear q;refine Jb rfl rfl λK hK=>?_;go_simp;go_wp2_with(go_at_call 20;refine P.o.mono ?_;rintro e U ⟨rfl,H⟩)
    obtain⟨G0,_,_,G3,G4,G5⟩:=g.o;exact⟨_,_,_,_,_,_,_,rfl,O ⟨G0,λ_=>rfl,λ_=>rfl,λh=>(G3 h).below H,λh=>(G4 h).below H,G5⟩,O (o.o.below H)⟩
  . obtain rfl:=(g.o.1 (q 0 Y));obtain rfl:=(g.o.2.2.1 (q 2 Y));have P:=O (KI _ qs (m:Int) V (HQ.o V o.o.2.2));rw[KY]at P;clear q;refine Jb rfl rfl λK hK=>?_;go_simp;go_wp2_with(go_at_call 58;refine P.o.mono ?_;rintro e U ⟨v5,rfl,ak,H⟩)
    exact⟨_,_,_,_,_,_,_,rfl,O ⟨λ_=>rfl,g.o.2.1,λ_=>rfl,λ_=>ak,λh=>(g.o.2.2.2.2.1 h).below H,g.o.2.2.2.2.2⟩,O (o.o.below H)⟩
  . have h0:=(g.o.2.2.2.1 (q 3 Y));have P:=O (eS _ (cf qs m) V h0 (Qz.o.at m));rw[Qw.o]at P;clear q h0;refine Jb rfl rfl λK hK=>?_;go_simp;go_wp2_with(go_at_call 129;refine P.o.mono ?_;rintro e U ⟨v5,rfl,ak,H⟩)
    obtain⟨G0,G1,G2,G3,_,G5⟩:=g.o;exact⟨_,_,_,_,_,_,_,rfl,O ⟨G0,G1,G2,λh=>(G3 h).below H,λ_=>ak,G5⟩,O (o.o.below H)⟩
  . have hf:D 6=false:=DR an af;obtain rfl:=Dl g af;clear q;refine Za ?_;obtain⟨G0,G1,G2,G3,G4,_⟩:=g.o;exact⟨_,_,_,_,_,_,_,rfl,O ⟨G0,G1,G2,λh=>(G3 h).alloc _,λh=>(G4 h).alloc _,⟨λh=>by simp at h,λ_ _=>⟨_,rfl,rfl⟩,λh=>by simp[hf]at h⟩⟩,O (o.o.fill (i:=3) rfl (.rat 0) (Ee _))⟩
  . obtain⟨B,rfl,rfl⟩:=Dq g (q 5 Y) af;have Qd:=q 5 Y;have hv:=(g.o.2.2.2.2.1 (q 4 Y));obtain⟨s1,a1,l1,c1,t1,b1,k1,d1,rfl⟩:=Jj.form (show Jj V _ _ from hv);obtain⟨s,a,l,c,t,b,k,d,n,r,i,j⟩:=o.o.rat (i:=3) rfl;have e0:=n.c0;have f0:=n.f0;have e1:=n.c1;have f1:=n.f1;have e2:=n.c2;have f2:=n.f2;have e3:=n.c3;have f3:=n.f3;clear q;refine Za ?_;obtain⟨G0,G1,G2,G3,G4,_⟩:=g.o;exact⟨_,_,_,_,_,_,_,rfl,O ⟨G0,G1,G2,λh=>(G3 h).put4 n rfl rfl rfl rfl _ _ _ _,λh=>(G4 h).put4 n rfl rfl rfl rfl _ _ _ _,⟨λh=>by simp[Qd]at h,λ_ h=>by simp at h,λ_=>⟨B,rfl,rfl⟩⟩⟩,O (o.o.putRat (i:=3) rfl hv)⟩
 rintro D ad V2 T ⟨tm,tn,ta,tb,tc,tl,x5,rfl,g,o⟩;obtain⟨W,rfl,rfl⟩:=g.o.2.2.2.2.2.2.2 (T 6 DQ);obtain rfl:=g.o.1 (T 0 DQ);obtain rfl:=g.o.2.1 (T 1 DQ);obtain rfl:=g.o.2.2.1 (T 2 DQ);clear g T M1;have M2:Hid (Mem w V2 [some (w.heap.size,.cell 25 (E Q la S)),some (w.heap.size+1,.cell 25 (E z lb A)),some (w.heap.size+1+1,.cell 25 (E none 0 0)),some (W,.rat L)]):=o;clear o;have HA:=O λ(V:F)=>KA 1 J J V;have HB:=HA;have P:=O λ(V:F) (x y:f) (hx:Jk V x 1) (hy:Jk V y 1)=>L5 x y 1 1 V hx hy Sok.one Sok.one;rw[show decide ((1:Int)≠0)=true from rfl,show Rat.divInt 1 1=L^0 by rw[Rat.pow_zero];rfl]at P;go_upto_region 3 with(first
  |(go_at_call 95;refine(HA.o _).mono ?_;clear HA;rintro e w3 ⟨u3,rfl,Qa,am⟩)
  |(go_at_call 95;refine(HB.o _).mono ?_;clear HB;rintro e w4 ⟨u4,rfl,bg,aj⟩;have Qa:=Qa.below aj)
  |(go_at_call 84;refine(P.o _ _ _ Qa bg).mono ?_;clear P;rintro e U ⟨u5,rfl,ae,H⟩;obtain⟨s9,a9,l9,c9,t9,b9,k9,d9,rfl⟩:=Jj.form ae))
 obtain⟨V4,hV⟩:=ex (U.alloc (G #[M s9,E a9 l9 c9,M t9,E b9 k9 d9] 65));obtain⟨B4,ah⟩:=ex (U.heap.size);have o:Mem w (U.alloc (G #[M s9,E a9 l9 c9,M t9,E b9 k9 d9] 65)) [some (w.heap.size,.cell 25 (E Q la S)),some (w.heap.size+1,.cell 25 (E z lb A)),some (w.heap.size+1+1,.cell 25 (E none 0 0)),some (W,.rat L),some (U.heap.size,.rat (L^0))]:=Mem.push (((M2.o.below am).below aj).below H) (.rat (L^0)) ae;rw[hV,ah]at o;rw[hV];rw[ah];have M3:Hid (Mem w V4 [some (w.heap.size,.cell 25 (E Q la S)),some (w.heap.size+1,.cell 25 (E z lb A)),some (w.heap.size+1+1,.cell 25 (E none 0 0)),some (W,.rat L),some (B4,.rat (L^0))]):=O (o);clear M2;clear o hV ah;clear Qa bg ae am aj H;refine Jn Ql [[],[0],[],[2,1],[1,3],[4],[]] (by kernel_rfl) DQ
  (λD ad V=>∃(td te tf tg ti tj tk:f),ad={ tmps:=#[R #[E Q la S],R #[E z lb A],C (some ⟨w.heap.size,0,none⟩),C (some ⟨w.heap.size+1,0,none⟩),C (some ⟨w.heap.size+1+1,0,none⟩),C (some ⟨W,0,none⟩),C (some ⟨B4,0,none⟩),M true,R #[E z lb A],R #[E z lb A],.int .i64 ↑m,tb,tc,.tuple #[R #[M s9,E a9 l9 c9,M t9,E b9 k9 d9],M true],u3,u4,.tuple #[R #[M s9,E a9 l9 c9,M t9,E b9 k9 d9],M true],R #[M s9,E a9 l9 c9,M t9,E b9 k9 d9],M true,td,te,tf,tg,ti,tj,tk,I,I,I,I,I,I,I,I],defers:=[] }/\Hid ((D 0=true->td=R #[E Q la S])/\(D 1=true->te=.int .i64 e1)/\(D 2=true->tf=R #[E z lb A])/\(D 3=true->tg=.int .i64 (m:Int))/\(D 4=true->ti=.int .i64 e3)/\(D 5=true->tj=.int .i64 e4)/\(D 6=true->tk=.int .i64 0))/\Hid (Mem w V [some (w.heap.size,.cell 25 (E Q la S)),some (w.heap.size+1,.cell 25 (E z lb A)),some (w.heap.size+1+1,.cell 25 (E none 0 0)),some (W,.rat L),some (B4,.rat (L^0))]))
  ⟨_,_,_,_,_,_,_,rfl,O ⟨Y,Y,Y,Y,Y,Y,Y⟩,O (M3.o).drew⟩ ?step5 ?fin5
 case step5=>
  rintro D ad V i ds an hi q af ⟨td,te,tf,tg,ti,tj,tk,rfl,g,o⟩;have Qv:i<7:=(Ad.1 hi).1;obtain rfl|rfl|rfl|rfl|rfl|rfl|rfl:=IX i J
  all_goals
   simp only[Af,Ae,Ah]at hi;subst hi
  . have e0:=(o.o.cell (i:=0) rfl).1.cell;clear q;refine Za ?_;exact⟨_,_,_,_,_,_,_,rfl,(Dh g),O (o.o)⟩
  . obtain rfl:=(g.o.1 (q 0 Y));have P:=O (YF _ ps V (HP.o V o.o.2.2));rw[Ub.o]at P;clear q;refine Jb rfl rfl λK hK=>?_;go_simp;go_wp2_with(go_at_call 20;refine P.o.mono ?_;rintro e U ⟨rfl,H⟩)
    exact⟨_,_,_,_,_,_,_,rfl,(Dn (Dh g)),O (o.o.below H)⟩
  . have e0:=(o.o.cell (i:=1) rfl).1.cell;clear q;refine Za ?_;exact⟨_,_,_,_,_,_,_,rfl,(Df g),O (o.o)⟩
  . obtain rfl:=(g.o.2.2.1 (q 2 Y));have P:=O (YF _ qs V (HQ.o V o.o.2.2));rw[Qo.o]at P;clear q;refine Jb rfl rfl λK hK=>?_;go_simp;go_wp2_with(go_at_call 20;refine P.o.mono ?_;rintro e U ⟨rfl,H⟩)
    exact⟨_,_,_,_,_,_,_,rfl,(Dj (Df g)),O (o.o.below H)⟩
  . obtain rfl:=(g.o.2.1 (q 1 Y));obtain rfl:=(g.o.2.2.2.1 (q 3 Y));clear q;refine Za ?_;exact⟨_,_,_,_,_,_,_,rfl,(D9 (Dj (Dn g))),O (o.o)⟩
  . obtain rfl:=(g.o.2.2.2.2.1 (q 4 Y));clear q;refine Za ?_;exact⟨_,_,_,_,_,_,_,rfl,(EE (D9 g)),O (o.o)⟩
  . clear q;refine Za ?_;exact⟨_,_,_,_,_,_,_,rfl,(Lk g),O (o.o)⟩
 rintro D ad V6 T ⟨td,te,tf,tg,ti,tj,tk,rfl,g,o⟩;obtain rfl:=g.o.1 (T 0 DQ);obtain rfl:=g.o.2.1 (T 1 DQ);obtain rfl:=g.o.2.2.1 (T 2 DQ);obtain rfl:=g.o.2.2.2.1 (T 3 DQ);obtain rfl:=g.o.2.2.2.2.1 (T 4 DQ);obtain rfl:=Dl g (T 5 DQ);obtain rfl:=g.o.2.2.2.2.2.2 (T 6 DQ);clear g T M3;have M4:Hid (Mem w V6 [some (w.heap.size,.cell 25 (E Q la S)),some (w.heap.size+1,.cell 25 (E z lb A)),some (w.heap.size+1+1,.cell 25 (E none 0 0)),some (W,.rat L),some (B4,.rat (L^0))]):=o;clear o;go_wp2;go_loopw [25] (λiv wr=>∃i:Nat,i<=N/\iv=.int .i64 (i:Int)/\Hid (Mem w wr [some (w.heap.size,.cell 25 (E Q la S)),some (w.heap.size+1,.cell 25 (E z lb A)),some (w.heap.size+1+1,.cell 25 (E none 0 0)),some (W,.rat L),some (B4,.rat (L^i))])) λiv _=>N-(intOf iv).toNat
 case atStart=>exact⟨0,AK _,rfl,M4⟩
 case round=>
  clear M4;obtain⟨i,hi,rfl,M5⟩:=hrel;by_cases aq:i<N
  . have Qf:(i:Int)<e4:=(Qb.o.1 i).2 aq;have cl:N<=1099511627777:=Qb.o.2;obtain⟨s7,a7,l7,c7,t7,b7,k7,d7,n7,r7,i7,j7⟩:=M5.o.rat (i:=3) rfl;obtain⟨cg,ci,cj,ck⟩:=n7.cq;obtain⟨s8,a8,l8,c8,t8,b8,k8,d8,n8,r8,i8,j8⟩:=M5.o.rat (i:=4) rfl;obtain⟨Qk,Qn,Qg,Qq⟩:=n8.cq;obtain⟨Qh,Qr,Qi,Qm⟩:=n8.fq;have H1:=O (Kz _ _ (L^i) L wr r8 r7 (Qc.o i J) (by have:=Qc.o 1 J;rwa[Rat.pow_one]at this));rw[<-Rat.pow_succ]at H1;go_upto_region 6 with(go_at_call 52;refine H1.o.mono ?_;clear H1;rintro e w6 ⟨u6,rfl,bh,hq⟩;obtain⟨s8,a8,l8,c8,t8,b8,k8,d8,rfl⟩:=Jj.form bh;clear Qk Qn Qg Qq;obtain⟨Qk,Qn,Qg,Qq⟩:=(n8.below hq).cq;clear Qh Qr Qi Qm;obtain⟨Qh,Qr,Qi,Qm⟩:=(n8.below hq).fq)
    obtain⟨V9,hV⟩:=ex ((((w6.setCell ⟨B4,0,none⟩ (M s8)).setCell ⟨B4,1,none⟩ (E a8 l8 c8)).setCell ⟨B4,2,none⟩ (M t8)).setCell ⟨B4,3,none⟩ (E b8 k8 d8));have o:Mem w ((((w6.setCell ⟨B4,0,none⟩ (M s8)).setCell ⟨B4,1,none⟩ (E a8 l8 c8)).setCell ⟨B4,2,none⟩ (M t8)).setCell ⟨B4,3,none⟩ (E b8 k8 d8)) [some (w.heap.size,.cell 25 (E Q la S)),some (w.heap.size+1,.cell 25 (E z lb A)),some (w.heap.size+1+1,.cell 25 (E none 0 0)),some (W,.rat L),some (B4,.rat (L^(i+1)))]:=Mem.putRat (M5.o.below hq) (i:=4) rfl bh;rw[hV]at o;rw[hV];have M6:Hid (Mem w V9 [some (w.heap.size,.cell 25 (E Q la S)),some (w.heap.size+1,.cell 25 (E z lb A)),some (w.heap.size+1+1,.cell 25 (E none 0 0)),some (W,.rat L),some (B4,.rat (L^(i+1)))]):=O (o);clear M5;clear o hV;go_wp2_with fail
    go_roundw
    case rel=>exact⟨i+1,J,by go_num,M6⟩
    case measure=>simp[intOf];omega
  . have Qf:¬(i:Int)<e4:=λh=>aq ((Qb.o.1 i).1 h);obtain rfl:i=N:=J
    obtain⟨dt,bj,dp,bk,du,b10,dj,bm,bi,r10,dh,di⟩:=M5.o.rat (i:=4) rfl;obtain⟨bn,bt,bu,ce⟩:=bi.cq;have c0:=(M5.o.cell (i:=0) rfl).1.cell;have n1:=(M5.o.cell (i:=2) rfl).1;have Qe:=O M5.o.2.2;have H2:=O (Sr (R #[E Q la S]) _ ps (L^i) wr (HP.o wr Qe.o) r10 Qs.o (Qc.o i (Aa _)) Qu.o);rw[HT.o]at H2;go_wp2_with(go_at_call 98;refine H2.o.mono ?_;clear H2;rintro e U ⟨u5,rfl,ae,H⟩;obtain⟨a7,l7,c7,rfl⟩:=ae.form;have n5:=boxed_below n1 H;have x0:=n5.cell;have x1:=n5.frozen;have Ua:=O (LE n5 (x:=E a7 l7 c7) ae);have Qx:=O ((Bt Qe.o H).setCell (p:=⟨w.heap.size+1+1,0,none⟩) (by show w.heap.size<=w.heap.size+1+1;omega) (E a7 l7 c7));clear ae H n5)
    exact BA (v:=R #[E a7 l7 c7]) (by simp[results,Tryz.results99,go_sem,x0]) rfl ⟨_,rfl,Ua.o,Qx.o⟩
theorem eY{A:Nat}(q:Eg A ps)(d:Eg A qs)(tq:Jd qs=qs)(q0:qs≠[])(c:1<=A)(L:4*((ps.length+2)*(A+1))<=1000000000):
 Sqs ps/\Sqs qs/\(∀i,i<=ps.length+1-qs.length->Sq (Yz (cf qs (qs.length-1))^i))/\(∀i,Sq (cf ps i*Gs ps qs))/\Sqs (Xi ps qs)/\(∀i,Da A (cf qs i))/\
 ∃l:Int,Dvn 1 1 l ((ps.length+2)*A+1) A (Xi ps qs) qs:=by
 have H:(ps.length+2)*(A+1)=(ps.length+2)*A+(ps.length+2):=by rw[Ax,Fz]
 have N:0<qs.length:=Al.2 q0;obtain⟨l,p,m⟩:=d (qs.length-1);have t:l≠0:=λe=>by
  have:=JA tq q0;rw[m,e]at this;exact this rfl
 have r:Yz (cf qs (qs.length-1))=((l.natAbs:Int):Rat):=by
  rw[m];unfold Yz;have a:((l:Rat)<0)↔l<0:=by
   rw[show(0:Rat)=((0:Int):Rat)from rfl];exact Rat.intCast_lt_intCast
  split
  . rename_i h;rw[a]at h;rw[<-Rat.intCast_neg];congr 1;omega
  . rename_i h;rw[a]at h;congr 1;omega
 have n:∀i:Nat,∃z:Int,Sm (i*A+1) z/\Yz (cf qs (qs.length-1))^i=(z:Rat):=λi=>by
  refine⟨(l.natAbs:Int)^i,?_,?_⟩
  . refine Sm.powZ ?_ i;unfold Sm at p ⊢;rwa[AP]
  . rw[r,Rat.intCast_pow]
 have o:∀(k:Nat) (z:Int),Sm k z->k<=1000000000->1<=k->Sq (z:Rat):=λk z B x a=>Sq.of ((Md (D:=1) DQ B (by rw[show((1:Int):Rat)=1 from rfl,Rat.mul_one])).smq DQ (Sm.one k a)) x;have K:ps.length+1-qs.length<=ps.length:=J
 have s:∀i:Nat,i<=ps.length->i*A<=(ps.length+2)*A:=λi w=>Ak _ J;have g:Eg ((ps.length+2)*A+1) (Xi ps qs):=λi=>by
  obtain⟨z,a,b⟩:=q i;obtain⟨y,j,u⟩:=n (ps.length+1-qs.length);refine⟨z*y,(a.mul j).mono ?_,?_⟩
  . have v:(ps.length+1-qs.length+1)*A<=(ps.length+2)*A:=Ak _ J;rw[Ay,Cw]at v;omega
  . unfold Xi Gs;rw[Xa,b,u,CG]
 have hA9:A<=(ps.length+2)*A:=by
  have:1*A<=(ps.length+2)*A:=Ak _ J
  omega
 refine⟨Sqs.of λi=>Sq.of (q.smq c i) J,Sqs.of λi=>Sq.of (d.smq c i) J,λi w=>?_,λi=>?_,Sqs.of λi=>Sq.of (g.smq J i) J,d.smq c,l,?_⟩
 . obtain⟨z,a,b⟩:=n i;rw[b];exact o _ z a (by have:=s i J;omega) J
 . obtain⟨z,a,b⟩:=g i;have j:cf ps i*Gs ps qs=(z:Rat):=by rw[<-b];unfold Xi;rw[Xa]
   rw[j];exact o _ z a J J
 . refine⟨DQ,Sm.one _ J,g.cdl,DQ,Sm.one _ c,d.cdl,t,p,?_⟩;rw[m,CV,show((1:Int):Rat)=1 from rfl];grind
theorem eZ(tp:Jd ps=ps)(tq:Jd qs=qs)(q0:qs≠[]):(Xi ps qs).length=ps.length:=Yn (Ob tq q0) tp
theorem ec(A:Nat)(va vb:f)(ps qs:List Rat)(w:F)(ha:Jf w va ps)(hb:Jf w vb qs)(wp:Eg A ps)(wq:Eg A qs)(tp:Jd ps=ps)(tq:Jd qs=qs)(q0:qs≠[])(hA:1<=A)(an:4*((ps.length+2)*(A+1))<=1000000000)(hr:Ln A (JU ps qs)):
 Calls X 57 #[va,vb] w λe w'=>∃u,e=.returned u/\Jf w' u (Eh ps qs)/\Bl w w':=by
 obtain⟨s1,s2,s3,s4,s5,s6,l,ae⟩:=eY wp wq tq q0 hA an;have b1:(ps.length+2)*(A+1)=(ps.length+2)*A+(ps.length+2):=by rw[Ax,Fz]
 obtain⟨m,hm⟩:=ex ((Xi ps qs).length-(qs.length-1));have Qk:m<=ps.length:=by rw[eZ tp tq q0]at hm;omega
 have b2:m*(A+1)<=ps.length*(A+1):=Ak _ Qk;have b3:(ps.length+2)*(A+1)=ps.length*(A+1)+2*(A+1):=Ay _ _ _;have Qp:=O (λ(V:F) (x y:f) (hx:Jf V x (Xi ps qs)) (hy:Jf V y qs)=>eQ A x y (Xi ps qs) qs V hx hy s5 s6 (JZ _ _) tq q0 (by
  rw[hm];exact ae.sizes J))
 have Qe:=(ae.rem hm).1;have Qc:=ae.den m;have Ql:=O λ(V:F) (x:f) (hx:Jf V x (JU (Xi ps qs) qs))=>Od (1*l^m) ((ps.length+2)*A+1+m*(A+1)+1) x (JU (Xi ps qs) qs) V hx (YU _ _) Qc.1 Qc.2 (λi=>(Qe i).mono J) J;have Qd:=Sg tq q0 hr;have Qh:Sqs (YY (JU (Xi ps qs) qs)):=Sqs.of λi=>Sq.of (Qd.1.smq hA i) J;have Qj:Sqs (JP [] (YY (JU (Xi ps qs) qs))):=Sqs.of λi=>Sq.of (Qd.2.smq hA i) J;have Qf:=O λ(V:F) (y:f) (hy:Jf V y (YY (JU (Xi ps qs) qs)))=>RB _ y [] (YY (JU (Xi ps qs) qs)) V (Sp V) hy (Sqs.of λi=>by rw[Yw];exact Ix) Qh Qj;have Qm:=O λ(V:F) (x y:f) (hx:Jf V x ps) (hy:Jf V y qs)=>eX x y ps qs V hx hy s1 s2 q0 s3 s4;clear s1 s2 s3 s4 s5 s6 ae b1 hm Qk b2 b3 Qe Qc Qd Qh Qj wp wq tp tq q0 hA an hr;have Qo:Tryz.prog.follows .mixedOrders=true:=by kernel_rfl
 obtain⟨T,la,U,rfl⟩:=ha.form;obtain⟨P,lb,Q,rfl⟩:=hb.form;have M0:=(((Mem.nil w).push (.cell 25 (E T la U)) (cs:=#[E T la U]) ⟨rfl,rfl⟩).push (.cell 25 (E P lb Q)) (cs:=#[E P lb Q]) ⟨rfl,rfl⟩).push (.cell 25 (E none 0 0)) (cs:=#[E none 0 0]) ⟨rfl,rfl⟩;simp only[A1]at M0;obtain⟨W0,aj⟩:=ex (((w.alloc (G #[E T la U] 25)).alloc (G #[E P lb Q] 25)).alloc (G #[E none 0 0] 25));obtain⟨Qg,HP,HQ⟩:=Dg aj (λ(V:F) (hB:Bl w V)=>ha.below hB) λ(V:F) (hB:Bl w V)=>hb.below hB;have M1:Hid (Mem w W0 [some (w.heap.size,.cell 25 (E T la U)),some (w.heap.size+1,.cell 25 (E P lb Q)),some (w.heap.size+1+1,.cell 25 (E none 0 0))]):=O (by rw[<-aj];exact M0);clear M0 aj ha hb;go_enter Tryz.func57,Tryz.ntmps57
 go_upto_region 1 with fail
 rw[Qg.o];clear Qg;refine Jn Qo [[],[],[0,1],[],[2,3,2],[4],[5],[5],[5],[],[],[9,6,4,0,1,2,3,4,5,6,9,10],[10,7,11,0,1,2,3,4,5,6,7,9,10,11],[8,12,0,1,2,3,4,5,6,7,8,9,10,11,12]] (by kernel_rfl) DQ
  (λD ai V=>∃(tm ta tb tc td tl te tf tg ti tj tk:f) (x9 ad:Option (Nat × Dat)),ai={ tmps:=#[R #[E T la U],R #[E P lb Q],C (some ⟨w.heap.size,0,none⟩),C (some ⟨w.heap.size+1,0,none⟩),C (some ⟨w.heap.size+1+1,0,none⟩),ti,tj,tk,tl,tm,ta,tb,tc,td,te,tf,tg,I,I,I,I],defers:=[] }/\Hid ((D 0=true->tm=R #[E T la U])/\(D 1=true->ta=R #[E P lb Q])/\(D 2=true->Has V tb (.poly (Xi ps qs)))/\(D 3=true->tc=R #[E P lb Q])/\(D 4=true->Tup2 V td (.poly (JS (Xi ps qs) qs)) (.poly (JU (Xi ps qs) qs)))/\(D 5=true->Tup2 V tl (.poly (JS (Xi ps qs) qs)) (.poly (JU (Xi ps qs) qs)))/\(D 6=true->Has V te (.poly (JS (Xi ps qs) qs)))/\(D 7=true->Has V tf (.poly (JU (Xi ps qs) qs)))/\(D 8=true->tg=M true)/\((D 9=false->x9=none)/\(D 9=true->D 11=false->∃B:Nat,ti=C (some ⟨B,0,none⟩)/\x9=some (B,.poly []))/\(D 11=true->∃B:Nat,ti=C (some ⟨B,0,none⟩)/\x9=some (B,.poly (JS (Xi ps qs) qs))))/\((D 10=false->ad=none)/\(D 10=true->D 12=false->∃B:Nat,tj=C (some ⟨B,0,none⟩)/\ad=some (B,.poly []))/\(D 12=true->∃B:Nat,tj=C (some ⟨B,0,none⟩)/\ad=some (B,.poly (JU (Xi ps qs) qs))))/\(D 13=true->tk=M true))/\Hid (Mem w V [some (w.heap.size,.cell 25 (E T la U)),some (w.heap.size+1,.cell 25 (E P lb Q)),some (w.heap.size+1+1,.cell 25 (E none 0 0)),x9,ad]))
  ⟨_,_,_,_,_,_,_,_,_,_,_,_,none,none,rfl,O ⟨Y,Y,Y,Y,Y,Y,Y,Y,Y,Y,Y,Y⟩,O (((M1.o).none).none).drew⟩ ?step1 ?fin1
 case step1=>
  rintro D ai V i ds ap hi d W ⟨tm,ta,tb,tc,td,tl,te,tf,tg,ti,tj,tk,x9,ad,rfl,b,g⟩;have bf:i<14:=(Ad.1 hi).1;obtain rfl|rfl|rfl|rfl|rfl|rfl|rfl|rfl|rfl|rfl|rfl|rfl|rfl|rfl:=FX i J
  all_goals
   simp only[Af,Ae,Ah]at hi;subst hi
  . have e0:=(g.o.cell (i:=0) rfl).1.cell;clear d;refine Za ?_;exact⟨_,_,_,_,_,_,_,_,_,_,_,_,_,_,rfl,(Dh b),O (g.o)⟩
  . have e0:=(g.o.cell (i:=1) rfl).1.cell;clear d;refine Za ?_;exact⟨_,_,_,_,_,_,_,_,_,_,_,_,_,_,rfl,(Dn b),O (g.o)⟩
  . obtain rfl:=(b.o.1 (d 0 Y));obtain rfl:=(b.o.2.1 (d 1 Y));have HC:=O (Qm.o V _ _ (HP.o V g.o.2.2) (HQ.o V g.o.2.2));clear d;refine Jb rfl rfl λK hK=>?_;go_simp;go_wp2_with(go_at_call 99;refine HC.o.mono ?_;rintro e w5 ⟨v5,rfl,am,j⟩)
    obtain⟨_,_,_,L,N,k,o,q,s⟩:=b.o;exact⟨_,_,_,_,_,_,_,_,_,_,_,_,_,_,rfl,O ⟨λ_=>rfl,λ_=>rfl,λ_=>am,L,λh=>(N h).below j,λh=>(k h).below j,λh=>(o h).below j,λh=>(q h).below j,s⟩,O (g.o.below j)⟩
  . have e0:=(g.o.cell (i:=1) rfl).1.cell;clear d;refine Za ?_;exact⟨_,_,_,_,_,_,_,_,_,_,_,_,_,_,rfl,(Dj b),O (g.o)⟩
  . have h0:=(b.o.2.2.1 (d 2 Y));obtain rfl:=(b.o.2.2.2.1 (d 3 Y));have HC:=O (Qp.o V _ _ h0 (HQ.o V g.o.2.2));clear d h0;refine Jb rfl rfl λK hK=>?_;go_simp;go_wp2_with(go_at_call 22;refine HC.o.mono ?_;rintro e w5 ⟨v5,v6,rfl,am,az,j⟩)
    obtain⟨t,z,H,_,_,k,o,q,s⟩:=b.o;exact⟨_,_,_,_,_,_,_,_,_,_,_,_,_,_,rfl,O ⟨t,z,λh=>(H h).below j,λ_=>rfl,λ_=>⟨v5,v6,rfl,am,az⟩,λh=>(k h).below j,λh=>(o h).below j,λh=>(q h).below j,s⟩,O (g.o.below j)⟩
  . have h0:=(b.o.2.2.2.2.1 (d 4 Y));clear d;refine Za ?_;exact⟨_,_,_,_,_,_,_,_,_,_,_,_,_,_,rfl,(EE b λ_=>h0),O (g.o)⟩
  . obtain⟨y1,y2,rfl,h1,h2⟩:=((Dl b) (d 5 Y));clear d;refine Za ?_;exact⟨_,_,_,_,_,_,_,_,_,_,_,_,_,_,rfl,(D6 b λ_=>h1),O (g.o)⟩
  . obtain⟨y1,y2,rfl,h1,h2⟩:=((Dl b) (d 5 Y));clear d;refine Za ?_;exact⟨_,_,_,_,_,_,_,_,_,_,_,_,_,_,rfl,(EN b λ_=>h2),O (g.o)⟩
  . obtain⟨y1,y2,rfl,h1,h2⟩:=((Dl b) (d 5 Y));clear d;refine Za ?_;exact⟨_,_,_,_,_,_,_,_,_,_,_,_,_,_,rfl,(EQ b),O (g.o)⟩
  . have hf:D 11=false:=DR ap W;obtain rfl:=b.o.2.2.2.2.2.2.2.2.2.1.1 W;clear d;refine Za ?_;obtain⟨t,z,H,L,N,k,o,q,s,_,af⟩:=b.o;exact⟨_,_,_,_,_,_,_,_,_,_,_,_,_,_,rfl,O ⟨t,z,λh=>(H h).alloc _,L,λh=>(N h).alloc _,λh=>(k h).alloc _,λh=>(o h).alloc _,λh=>(q h).alloc _,s,⟨λh=>by simp at h,λ_ _=>⟨_,rfl,rfl⟩,λh=>by simp[hf]at h⟩,af⟩,O (g.o.fill (i:=3) rfl (.poly []) (Hf _))⟩
  . have hf:D 12=false:=DR ap W;obtain rfl:=b.o.2.2.2.2.2.2.2.2.2.2.1.1 W;clear d;refine Za ?_;obtain⟨t,z,H,L,N,k,o,q,s,G9,_,ah⟩:=b.o;exact⟨_,_,_,_,_,_,_,_,_,_,_,_,_,_,rfl,O ⟨t,z,λh=>(H h).alloc _,L,λh=>(N h).alloc _,λh=>(k h).alloc _,λh=>(o h).alloc _,λh=>(q h).alloc _,s,G9,⟨λh=>by simp at h,λ_ _=>⟨_,rfl,rfl⟩,λh=>by simp[hf]at h⟩,ah⟩,O (g.o.fill (i:=4) rfl (.poly []) (Hf _))⟩
  . obtain⟨B,rfl,rfl⟩:=b.o.2.2.2.2.2.2.2.2.2.1.2.1 (d 9 Y) W;have Qb:=d 9 Y;have hv:=((Dq b) (d 6 Y));obtain⟨a1,l1,c1,rfl⟩:=Jf.form (show Jf V _ _ from hv);obtain⟨a,l,c,n,r⟩:=g.o.poly2 (i:=3) rfl;have e0:=n.cell;have f0:=n.frozen;clear d;refine Za ?_;obtain⟨t,z,H,L,N,k,o,q,s,_,af⟩:=b.o;exact⟨_,_,_,_,_,_,_,_,_,_,_,_,_,_,rfl,O ⟨t,z,λh=>(H h).set1 n rfl _,L,λh=>(N h).set1 n rfl _,λh=>(k h).set1 n rfl _,λh=>(o h).set1 n rfl _,λh=>(q h).set1 n rfl _,s,⟨λh=>by simp[Qb]at h,λ_ h=>by simp at h,λ_=>⟨B,rfl,rfl⟩⟩,af⟩,O (g.o.putPoly (i:=3) rfl hv)⟩
  . obtain⟨B,rfl,rfl⟩:=b.o.2.2.2.2.2.2.2.2.2.2.1.2.1 (d 10 Y) W;have Qb:=d 10 Y;have hv:=((Dw b) (d 7 Y));obtain⟨a1,l1,c1,rfl⟩:=Jf.form (show Jf V _ _ from hv);obtain⟨a,l,c,n,r⟩:=g.o.poly2 (i:=4) rfl;have e0:=n.cell;have f0:=n.frozen;clear d;refine Za ?_;obtain⟨t,z,H,L,N,k,o,q,s,G9,_,ah⟩:=b.o;exact⟨_,_,_,_,_,_,_,_,_,_,_,_,_,_,rfl,O ⟨t,z,λh=>(H h).set1 n rfl _,L,λh=>(N h).set1 n rfl _,λh=>(k h).set1 n rfl _,λh=>(o h).set1 n rfl _,λh=>(q h).set1 n rfl _,s,G9,⟨λh=>by simp[Qb]at h,λ_ h=>by simp at h,λ_=>⟨B,rfl,rfl⟩⟩,ah⟩,O (g.o.putPoly (i:=4) rfl hv)⟩
  . obtain rfl:=((Dy b) (d 8 Y));clear d;refine Za ?_;exact⟨_,_,_,_,_,_,_,_,_,_,_,_,_,_,rfl,(Ij (EQ b)),O (g.o)⟩
 rintro D ai V2 S ⟨tm,ta,tb,tc,td,tl,te,tf,tg,ti,tj,tk,x9,ad,rfl,b,g⟩;obtain⟨B3,rfl,rfl⟩:=b.o.2.2.2.2.2.2.2.2.2.1.2.2 (S 11 DQ);obtain⟨B4,rfl,rfl⟩:=b.o.2.2.2.2.2.2.2.2.2.2.1.2.2 (S 12 DQ);obtain rfl:=b.o.1 (S 0 DQ);obtain rfl:=b.o.2.1 (S 1 DQ);obtain rfl:=b.o.2.2.2.1 (S 3 DQ);obtain rfl:=Dy b (S 8 DQ);obtain rfl:=b.o.2.2.2.2.2.2.2.2.2.2.2 (S 13 DQ);clear b S M1;have M2:Hid (Mem w V2 [some (w.heap.size,.cell 25 (E T la U)),some (w.heap.size+1,.cell 25 (E P lb Q)),some (w.heap.size+1+1,.cell 25 (E none 0 0)),some (B3,.poly (JS (Xi ps qs) qs)),some (B4,.poly (JU (Xi ps qs) qs))]):=g;clear g;obtain⟨a5,l5,c5,n5,r5⟩:=M2.o.poly2 (i:=4) rfl;have bc:=n5.cell;have n1:=(M2.o.cell (i:=2) rfl).1;have Qi:=O M2.o.2.2;have H1:=O (Ql.o V2 _ r5);clear Ql;go_wp2_with(first
  |(go_at_call 56;refine H1.o.mono ?_;clear H1;rintro e w4 ⟨u4,rfl,ay,aq⟩)
  |(go_at_call 48;refine(Qf.o _ _ ay).mono ?_;clear Qf;rintro e w5 ⟨u5,rfl,ak,_,aw⟩;have j:=Bt aq aw;obtain⟨a7,l7,c7,rfl⟩:=ak.form;have n5:=boxed_below n1 j;have x0:=n5.cell;have x1:=n5.frozen;have Qq:=O (LE n5 (x:=E a7 l7 c7) ak);have Qn:=O ((Bt Qi.o j).setCell (p:=⟨w.heap.size+1+1,0,none⟩) (by show w.heap.size<=w.heap.size+1+1;omega) (E a7 l7 c7));clear ak j n5))
 exact BA (v:=R #[E a7 l7 c7]) (by simp[results,Tryz.results57,go_sem,x0]) rfl ⟨_,rfl,Qq.o,Qn.o⟩
def Gt(b:Bool)(V:F)(t:f)(c:Rat):Prop:=∃u,t=.tuple #[u,M true]/\(b=false->Jj V u c)
theorem Gt.of(h:KU V t c):Gt b V t c:=by
 obtain⟨u,e,h⟩:=h;exact⟨u,e,λ_=>h⟩
theorem Gt.below{b:Bool}{V V':F}{t:f}{c:Rat}(h:Gt b V t c)(a:Bl V V'):Gt b V' t c:=by
 obtain⟨u,e,h⟩:=h;exact⟨u,e,λe=>(h e).below a⟩
theorem Gt.any{a:Bool}{V':F}(h:Gt b V t c)(d:a=true):Gt a V' t c:=by
 obtain⟨u,e,h⟩:=h;exact⟨u,e,λe=>by rw[d]at e;cases e⟩
theorem Ss(v:f)(ps:List Rat)(w:F)(h:Jf w v ps)(aq:Sqs ps)(ay:Jd ps=ps)(aw:∀i,Sq (cf ps i/cf ps (ps.length-1))):
 Calls X 26 #[v] w λe w'=>∃u,e=.returned u/\Jf w' u (JC ps)/\Bl w w':=by
 have Qq:Tryz.prog.follows .mixedOrders=true:=by kernel_rfl
 obtain⟨l,la,o,rfl⟩:=h.form;obtain⟨bf,az,bc,bg,_⟩:=h.row.forms;have M0:=(((Mem.nil w).push (.cell 25 (E l la o)) (cs:=#[E l la o]) ⟨rfl,rfl⟩).push (.cell 25 (E none 0 0)) (cs:=#[E none 0 0]) ⟨rfl,rfl⟩);simp only[A1]at M0;obtain⟨V0,af⟩:=ex ((w.alloc (G #[E l la o] 25)).alloc (G #[E none 0 0] 25));have M1:Mem w V0 [some (w.heap.size,.cell 25 (E l la o)),some (w.heap.size+1,.cell 25 (E none 0 0))]:=by rw[<-af];exact M0
 have Qh:=O M1;obtain⟨n,hn⟩:=ex (ps.length:Nat);obtain⟨e0,ap⟩:=ex ((n:Int)-1:Int);have Qg:=O (YF (R #[E l la o]) ps V0 (h.below M1.2.2));rw[hn,ap]at Qg;have bh:e0+1=(n:Int):=J
 have bi:IntKind.i64.wrap (n:Int)=(n:Int):=by rw[BS];omega
 have Qs:∀W:F,(Instr.makeSlice 22 (.int .i64 (n:Int)) (.int .i64 (n:Int))).run X W=.ok (E (some ⟨W.heap.size,0,none⟩) n n) (W.alloc (G (Ye n) 65)):=λW=>So n J W;obtain⟨HP,Qi,Qn,HN⟩:=D0 (λ(V:F) (hB:Bl w V)=>h.below hB) aq aw (show ps.length=n from hn);have Qd:n<=1099511627776:=J
 have Ql:=O af;have Qw:=O ay;clear h aq aw bf az bc hn ap M0 M1 af bg ay;go_enter Tryz.func26,Tryz.ntmps26
 go_upto_region 1 with fail
 rw[Ql.o];have c0:=(Qh.o.cell (i:=0) rfl).1.cell;go_upto_region 2 with(go_at_call 20;refine Qg.o.mono ?_;clear Qg;rintro e w1 ⟨rfl,an⟩)
 have Qe:Mem w (w1.alloc (G (Ye n) 65)) [some (w.heap.size,.cell 25 (E l la o)),some (w.heap.size+1,.cell 25 (E none 0 0)),some (w1.heap.size,.rats (List.replicate n 0))]:=(Qh.o.below an).push (.rats (List.replicate n 0)) (LA _ n);obtain⟨V1,ah⟩:=ex (w1.alloc (G (Ye n) 65));obtain⟨B,ai⟩:=ex (w1.heap.size);rw[ah,ai]at Qe;rw[ah,ai];have Qk:=O Qe;clear Qe ah ai an c0 Qh Ql Qs;go_wp2;go_loopw [11] (λiv wr=>∃(i:Nat) (S:List Rat),i<=n/\iv=.int .i64 (i:Int)/\Hid (I6 (λj=>cf ps j/cf ps (ps.length-1)) n i S)/\Hid (Mem w wr [some (w.heap.size,.cell 25 (E l la o)),some (w.heap.size+1,.cell 25 (E none 0 0)),some (B,.rats S)])) λiv _=>n-(intOf iv).toNat
 case atStart=>exact⟨0,_,AK _,rfl,O ⟨Au,λj=>by rw[JQ,BE J]⟩,Qk⟩
 case round=>
  obtain⟨i,S,hi,rfl,U,HM⟩:=hrel;clear Qk;by_cases aj:i<n
  . have bk:(i:Int)<(n:Int):=J
    have Qm:=O (show i<S.length by rw[U.o.1];exact aj);have Qj:=O (show i<ps.length by rw[HN.o];exact aj);go_wp2_with fail
    have Qo:=HM.o.drew;obtain⟨m,hm⟩:=ex (ps.length-1:Nat);obtain⟨Qv,Qr,Qt⟩:=Dg (show(ps.length:Int)-1=(m:Int)by have:=Qj.o;omega) hm (show decide (cf ps m≠0)=true by rw[<-hm];exact BK (JA Qw.o λe=>by have:=Qj.o;rw[e]at this;simp at this));clear hm;refine Jn Qq [[],[],[],[],[2,3],[],[],[6,4],[5,7,7],[4,8,8],[9],[10],[10],[0,1,0,1,2,3,4,5,6,7,8,9,10,11],[13,11,9,0,1,2,3,4,5,6,7,8,9,10,11]] (by kernel_rfl) DQ
     (λD ae V=>∃(tb tc td te tf tg ti tj tk tl ta tm tn tp:f),ae={ tmps:=#[R #[E l la o],C (some ⟨w.heap.size,0,none⟩),C (some ⟨w.heap.size+1,0,none⟩),E (some ⟨B,0,none⟩) n n,.int .i64 ↑i,R #[E l la o],.int .i64 e0,.int .i64 ↑n,E (some ⟨B,0,none⟩) n n,E (some ⟨B,0,none⟩) n n,.int .i64 ↑n,.int .i64 ↑i,M true,.int .i64 ↑i,ta,tb,tc,td,te,tf,tg,ti,tj,tk,tl,tm,tn,tp,u28,I,I],defers:=[] }/\Hid ((D 0=true->tb=E (some ⟨B,0,none⟩) n n)/\(D 1=true->tc=.int .i64 (i:Int))/\(D 2=true->td=R #[E l la o])/\(D 3=true->te=.int .i64 (i:Int))/\(D 4=true->D 14=false->Jj V tf (cf ps i))/\(D 5=true->tg=R #[E l la o])/\(D 6=true->ti=R #[E l la o])/\(D 7=true->tj=.int .i64 (m:Int))/\(D 8=true->D 14=false->Jj V tk (cf ps m))/\(D 9=true->D 14=false->KU V tl (cf ps i/cf ps m))/\(D 10=true->Gt (D 14) V ta (cf ps i/cf ps m))/\(D 11=true->D 14=false->Jj V tm (cf ps i/cf ps m))/\(D 12=true->tn=M true)/\(D 13=true->tp=C (some ⟨B,i*4,none⟩)))/\Hid ((D 14=false->Mem w V [some (w.heap.size,.cell 25 (E l la o)),some (w.heap.size+1,.cell 25 (E none 0 0)),some (B,.rats S)])/\(D 14=true->Mem w V [some (w.heap.size,.cell 25 (E l la o)),some (w.heap.size+1,.cell 25 (E none 0 0)),some (B,.rats (S.set i (cf ps i/cf ps m)))])))
     (E8 ⟨_,_,_,_,_,_,rfl,O Y,O ⟨λ_=>Qo,Y⟩⟩) ?step1 ?fin1
    case step1=>
     rintro D ae V i ds A hi c s ⟨tb,tc,td,te,tf,tg,ti,tj,tk,tl,ta,tm,tn,tp,rfl,b,d⟩;have bj:i<15:=(Ad.1 hi).1;obtain rfl|rfl|rfl|rfl|rfl|rfl|rfl|rfl|rfl|rfl|rfl|rfl|rfl|rfl|rfl:=IZ i J
     all_goals
      simp only[Af,Ae,Ah]at hi;subst hi
     . clear c;refine DV ?_;exact⟨(Dh b),d⟩
     . clear c;refine DV ?_;exact⟨(Dn b),d⟩
     . have k:=d.o.1 (DR A s);have e0:=(k.cell (i:=0) rfl).1.cell;clear c;refine DV ?_;exact⟨(Df b),d⟩
     . clear c;refine DV ?_;exact⟨(Dj b),d⟩
     . have k:=d.o.1 (DR A s);obtain rfl:=b.o.2.2.1 (c 2 Y);obtain rfl:=b.o.2.2.2.1 (c 3 Y);clear c;have q:=O (KI _ ps (i:Int) V (HP.o V k.2.2));rw[KY]at q;refine Jb rfl rfl λK hK=>?_;go_simp;go_wp2_with(go_at_call 58;refine q.o.mono ?_;rintro e w5 ⟨v5,rfl,ad,a⟩)
       obtain⟨t,x,_,_,_,P,Q,G7,G8,G9,y,H,z⟩:=b.o;exact E8 ⟨_,_,_,_,_,_,rfl,O ⟨t,x,λ_=>rfl,λ_=>rfl,λ_ _=>ad,P,Q,G7,λh g=>(G8 h g).below a,λh g=>(G9 h g).below a,λh=>(y h).below a,λh g=>(H h g).below a,z⟩,O ⟨λh=>(d.o.1 h).below a,λh=>(d.o.2 h).below a⟩⟩
     . have k:=d.o.1 (DR A s);have e0:=(k.cell (i:=0) rfl).1.cell;clear c;refine DV ?_;exact⟨(EE b),d⟩
     . have k:=d.o.1 (DR A s);have e0:=(k.cell (i:=0) rfl).1.cell;clear c;refine DV ?_;exact⟨(D6 b),d⟩
     . have k:=d.o.1 (DR A s);obtain rfl:=Dq b (c 6 Y);clear c;have q:=O (YF _ ps V (HP.o V k.2.2));rw[Qv.o]at q;refine Jb rfl rfl λK hK=>?_;go_simp;go_wp2_with(go_at_call 20;refine q.o.mono ?_;rintro e w5 ⟨rfl,a⟩)
       obtain⟨t,x,L,N,G4,P,_,_,G8,G9,y,H,z⟩:=b.o;exact E8 ⟨_,_,_,_,_,_,rfl,O ⟨t,x,L,N,λh g=>(G4 h g).below a,P,λ_=>rfl,λ_=>rfl,λh g=>(G8 h g).below a,λh g=>(G9 h g).below a,λh=>(y h).below a,λh g=>(H h g).below a,z⟩,O ⟨λh=>(d.o.1 h).below a,λh=>(d.o.2 h).below a⟩⟩
     . have k:=d.o.1 (DR A s);obtain rfl:=Dl b (c 5 Y);obtain rfl:=Dw b (c 7 Y);clear c;have q:=O (KI _ ps (m:Int) V (HP.o V k.2.2));rw[KY]at q;refine Jb rfl rfl λK hK=>?_;go_simp;go_wp2_with(go_at_call 58;refine q.o.mono ?_;rintro e w5 ⟨v5,rfl,ad,a⟩)
       obtain⟨t,x,L,N,G4,_,Q,_,_,G9,y,H,z⟩:=b.o;exact E8 ⟨_,_,_,_,_,_,rfl,O ⟨t,x,L,N,λh g=>(G4 h g).below a,λ_=>rfl,Q,λ_=>rfl,λ_ _=>ad,λh g=>(G9 h g).below a,λh=>(y h).below a,λh g=>(H h g).below a,z⟩,O ⟨λh=>(d.o.1 h).below a,λh=>(d.o.2 h).below a⟩⟩
     . have Qa:D 14=false:=DR A s;have r:=b.o.2.2.2.2.1 (c 4 Y) Qa;have h1:=Dy b (c 8 Y) Qa;clear c;have q:=O (Q6 _ _ (cf ps i) (cf ps m) V r h1 (Qi.o.at i) (Qi.o.at m));rw[Qt.o]at q;clear r h1;refine Jb rfl rfl λK hK=>?_;go_simp;go_wp2_with(go_at_call 50;refine q.o.mono ?_;rintro e w5 ⟨v5,rfl,ad,a⟩)
       obtain⟨t,x,L,N,G4,P,Q,G7,G8,_,y,H,z⟩:=b.o;exact E8 ⟨_,_,_,_,_,_,rfl,O ⟨t,x,L,N,λh g=>(G4 h g).below a,P,Q,G7,λh g=>(G8 h g).below a,λ_ _=>⟨v5,rfl,ad⟩,λh=>(y h).below a,λh g=>(H h g).below a,z⟩,O ⟨λh=>(d.o.1 h).below a,λh=>(d.o.2 h).below a⟩⟩
     . have Qa:D 14=false:=DR A s;have r:=D7 b (c 9 Y) Qa;clear c;refine DV ?_;exact⟨(Dx b λ_=>Gt.of r),d⟩
     . have Qa:D 14=false:=DR A s;have r:=Dm b (c 10 Y);obtain⟨v7,rfl,h7⟩:=r;clear c;refine DV ?_;exact⟨(EA b λ_ _=>h7 Qa),d⟩
     . have r:=Dm b (c 10 Y);obtain⟨v7,rfl,h7⟩:=r;clear c;refine DV ?_;exact⟨(EI b),d⟩
     . obtain rfl:=b.o.1 (c 0 Y);obtain rfl:=b.o.2.1 (c 1 Y);clear c;refine DV ?_;exact⟨(Ik (Dn (Dh b))),d⟩
     . have k:=d.o.1 s;have r:=Ec b (c 11 Y) s;obtain rfl:=b.o.2.2.2.2.2.2.2.2.2.2.2.2.2 (c 13 Y);have hE:=k.rats (i:=2) rfl;obtain⟨xa,xb,xc,xd,e0,e1,e2,e3,_⟩:=hE.at Qm.o;have f0:=hE.frozen (i*4);have f1:=hE.frozen (i*4+1);have f2:=hE.frozen (i*4+2);have f3:=hE.frozen (i*4+3);obtain⟨s9,a9,l9,c9,t9,b9,k9,d9,rfl⟩:=Jj.form r;clear c;refine DV ?_;obtain⟨t,x,L,N,_,P,Q,G7,_,_,y,_,z,_⟩:=b.o;exact⟨O ⟨t,x,L,N,λ_ h=>by simp at h,P,Q,G7,λ_ h=>by simp at h,λ_ h=>by simp at h,λh=>Gt.any (y h) Y,λ_ h=>by simp at h,z,λ_=>rfl⟩,O ⟨λh=>by simp at h,λ_=>k.putRats (i:=2) rfl Qm.o r⟩⟩
    case fin1=>
     rintro D ae V am ⟨tb,tc,td,te,tf,tg,ti,tj,tk,tl,ta,tm,tn,tp,rfl,b,d⟩;have HO:=O (d.o.2 (am 14 DQ));clear b d am;rw[<-Qr.o]at HO;go_wp2_with fail
     go_roundw
     case rel=>exact⟨i+1,_,J,by go_num,O (U.o.next aj),HO⟩
     case measure=>simp[intOf];omega
  . obtain rfl:i=n:=J
    have hE:=HM.o.rats (i:=2) rfl;have Qc:=hE.row (n:=i) (cap:=i) (by rw[U.o.1];exact Aa _) (Aa _) J Qd;rw[Ac (by rw[U.o.1];exact Aa _)]at Qc;have Qf:=O (RK _ S wr Qc (Sqs.of λj=>by
     rw[U.o.2 j];split
     . exact Qn.o j
     . exact Ix))
    rw[U.o.done (T:=JC ps) (JZ _ _) (λj hj=>by unfold JC;rw[Xa,Fm,Rat.one_mul,<-Fm]) λj hj=>by unfold JC;rw[Xa,J1 (by rw[HN.o];exact hj),CE]]at Qf;clear hE Qc;go_wp2_with(go_at_call 59;refine Qf.o.mono ?_;clear Qf;rintro e w5 ⟨u5,rfl,ak,_,a⟩;obtain⟨a7,l7,c7,rfl⟩:=ak.form;have n5:=boxed_below (HM.o.cell (i:=1) rfl).1 a;have x0:=n5.cell;have x1:=n5.frozen;have Qu:=O (FZ n5 (E a7 l7 c7) ak.row);have Qp:=O ((Bt HM.o.2.2 a).setCell (p:=⟨w.heap.size+1,0,none⟩) (by show w.heap.size<=w.heap.size+1;omega) (E a7 l7 c7));clear ak a n5)
    exact BA (v:=R #[E a7 l7 c7]) (by simp[results,Tryz.results26,go_sem,x0]) rfl ⟨_,rfl,⟨_,rfl,Qu.o⟩,Qp.o⟩
end M3
section
def Hg:Nat->List Rat->List Rat->List (List Rat)
 |0,a,_=>[a]
 |n+1,a,b=>if b=[]then [a]else a::Hg n b (Eh a b)
theorem ef:∀(n m:Nat) (a b:List Rat),Jd b=b->b.length<=n->b.length<=m->Hg n a b=Hg m a b:=by
 intro n;induction n with
 |zero=>
  intro m a b _ h _;have d:b=[]:=MV J;subst d;cases m with
  |zero=>rfl
  |succ m=>simp[Hg]
 |succ n e=>
  intro m a b tb h g;by_cases c:b=[]
  . subst c;cases m with
    |zero=>simp[Hg]
    |succ m=>simp[Hg]
  . have hl:0<b.length:=Al.2 c;cases m with
    |zero=>omega
    |succ m=>
     have i:=Mi (a:=a) tb c;simp only[Hg,BE c];rw[e m b (Eh a b) (Mh _ _) J J]
def IU(a b:List Rat):List (List Rat):=Hg b.length a b
theorem ej{a b:List Rat}(tb:Jd b=b)(c:b≠[]):IU a b=a::IU b (Eh a b):=by
 have e:=Mi (a:=a) tb c;have hl:0<b.length:=Al.2 c;unfold IU;obtain⟨n,d⟩:∃n,b.length=n+1:=⟨b.length-1,J⟩;rw[d,Hg,BE c];congr 1;exact ef _ _ _ _ (Mh _ _) J (Aa _)
def ID(p q:List Rat):List (List Rat):=IU (YY p) (YY q)
open Go.RowKit Go.Shelf
theorem Jf.setB{V:F}{v:f}{ps:List Rat}(h:Jf V v ps){B:Nat}{a:Option Addr}{l c:Nat}(b:Boxed V B 25 (E a l c)){u:f}:Jf (V.setCell ⟨B,0,none⟩ u) v ps:=M3.LE b h
end
namespace M3
open Go.RowKit Go.Shelf
attribute [local go_sem] Oper.semAt_some
def Do(V:F)(B:Nat)(a:Option Addr)(l c:Nat):Prop:=Boxed V B 25 (E a l c)
section
variable {V V':World} {B B':Nat} {a a':Option Addr} {l c l' c':Nat}
theorem Do.cell(h:Do V B a l c):V.cell? ⟨B,0,none⟩=some (E a l c):=Boxed.cell h
theorem Do.frozen(h:Do V B a l c):V.frozen? ⟨B,0,none⟩=false:=Boxed.frozen h
theorem Do.below(h:Do V B a l c)(b:Bl V V'):Do V' B a l c:=boxed_below h b
theorem Do.far(h:Do V B a l c)(b:B≠B'){u:f}:Do (V.setCell ⟨B',0,none⟩ u) B a l c:=Bx.far (cs:=#[E a l c]) h (p:=⟨B',0,none⟩) b u
theorem Do.put(h:Do V B a l c):Do (V.setCell ⟨B,0,none⟩ (E a' l' c')) B a' l' c':=(show Boxed V B 25 (E a l c)from h).set _
end
def GB(G:List (List Rat)->F->Prop):Prop:=∀H W W',G H W->Bl W W'->G H W'
def Mj(B4 B5:Nat)(G:List (List Rat)->F->Prop):Prop:=∀H W B a l c u,B=B4\/B=B5->Do W B a l c->G H W->G H (W.setCell ⟨B,0,none⟩ u)
def Gu(B4 B5:Nat)(G:List (List Rat)->F->Prop)(H:List (List Rat))(V:F)(v4 v5:f)(p q:List Rat):Prop:=(GB G/\Mj B4 B5 G)/\G H V/\Jf V v4 p/\Jf V v5 q
section
variable {B4 B5:Nat} {G:List (List Rat)->World->Prop} {H:List (List Rat)} {V V':World} {v4 v5:Value} {p q:List Rat}
theorem Gu.below(h:Gu B4 B5 G H V v4 v5 p q)(a:Bl V V'):Gu B4 B5 G H V' v4 v5 p q:=⟨h.1,h.1.1 _ _ _ h.2.1 a,h.2.2.1.below a,h.2.2.2.below a⟩
theorem Gu.put(h:Gu B4 B5 G H V v4 v5 p q){B:Nat}(d:B=B4\/B=B5){a:Option Addr}{l c:Nat}(b:Do V B a l c){u:f}:Gu B4 B5 G H (V.setCell ⟨B,0,none⟩ u) v4 v5 p q:=⟨h.1,h.1.2 _ _ _ _ _ _ _ d b h.2.1,h.2.2.1.setB b,h.2.2.2.setB b⟩
end
def Mk(V:F)(B:Nat)(r:List Rat):Prop:=∃a l c,Do V B a l c/\Jf V (R #[E a l c]) r
theorem Mk.below{V V':F}{B:Nat}{r:List Rat}(h:Mk V B r)(b:Bl V V'):Mk V' B r:=by
 obtain⟨a,l,c,d,e⟩:=h;exact⟨a,l,c,d.below b,e.below b⟩
def LF(V:F)(B:Nat):Nat:=match V.cell? ⟨B,0,none⟩with|some (E _ l _)=>l|_=>0
variable{p q:List Rat}{K c l:Nat}{a:Option Addr}{V:F}
theorem Do.len{B:Nat}(h:Do V B a l c):LF V B=l:=by
 unfold LF;rw[h.cell]
theorem St{ps:List Rat}(h:Jf V (R #[E a l c]) ps):l=ps.length:=h.row.forms.1
theorem eo(a b:List Rat):∃t,IU a b=a::t:=by
 unfold IU;cases b.length with
 |zero=>exact⟨_,rfl⟩
 |succ n=>
  rw[Hg];split
  . exact⟨_,rfl⟩
  . exact⟨_,rfl⟩
def er(B4 B5 n l:Nat)(C:List (List Rat))(G:List (List Rat)->F->Prop):Prop:=∀H W a b c4 c d c5 p q,H++[p] <+: C->B4<W.heap.size->B5<W.heap.size->G H W->Do W B4 a b c4->Do W B5 c d c5->Jf W (R #[E a b c4]) p->Jf W (R #[E c d c5]) q->
 YieldAt Fence.wide (n-1) X l #[R #[E a b c4]] W λe W'=>e=.returned (M true)/\G (H++[p]) W'/\Do W' B4 a b c4/\Do W' B5 c d c5/\Jf W' (R #[E a b c4]) p/\Jf W' (R #[E c d c5]) q
structure ChOk(K:Nat)(p q:List Rat):Prop where
 tp:Jd p=p
 tq:Jd q=q
 cp:∃D:Int,D≠0/\Sm K D/\ED D K p
 cq:∃D:Int,D≠0/\Sm K D/\ED D K q
 le:4*((max p.length q.length+2)*(Db K p q+1))<=1000000000
 ln:max p.length q.length<=1000
theorem ChOk.lp(h:ChOk K p q):Ln K p:=by obtain⟨D,a,_,b⟩:=h.cp;exact b.ln a
theorem ChOk.lq(h:ChOk K p q):Ln K q:=by obtain⟨D,a,_,b⟩:=h.cq;exact b.ln a
theorem ChOk.bd(h:ChOk K p q):Db K p q<=1000000000/\K<=1000000000/\p.length+q.length<=1000000000/\1<=Db K p q:=by
 have a:=h.le;have b:=He K p q;have c:1*(Db K p q+1)<=(max p.length q.length+2)*(Db K p q+1):=Ak _ J;have d:(max p.length q.length+2)*1<=(max p.length q.length+2)*(Db K p q+1):=Av _ J;omega
theorem ez(K n:Nat)(hn:1<=n)(Bp Bq:Nat)(pa qa:Option Addr)(pl pc ql qc:Nat)(p q:List Rat)(s:ChOk K p q)(l:Nat)(Gf:Nat->Nat->List (List Rat)->F->Prop)(w:F)(az:Do w Bp pa pl pc)(bc:Do w Bq qa ql qc)(ip:Jf w (R #[E pa pl pc]) p)(iq:Jf w (R #[E qa ql qc]) q)
(aq:∀B4 B5,GB (Gf B4 B5))(aw:∀B4 B5,w.heap.size<=B4->w.heap.size<=B5->Mj B4 B5 (Gf B4 B5))(hY:∀B4 B5,w.heap.size<=B4->w.heap.size<=B5->er B4 B5 n l (ID p q) (Gf B4 B5))(h0:∀B4 B5 V,w.heap.size<=B4->w.heap.size<=B5->Bl w V->Gf B4 B5 [] V):
 CallsIn Fence.wide n X 55 (#[.func (.yield l) #[] #[]]++#[C (some ⟨Bp,0,none⟩),C (some ⟨Bq,0,none⟩)]) w λe W'=>(∃v,e=.returned v)/\∃B4 B5 H a,(w.heap.size<=B4/\w.heap.size<=B5)/\Gf B4 B5 (H++[a]) W'/\ID p q=H++[a]/\Chn p q (Db K p q) a []:=by
 have Qq:Tryz.prog.follows .mixedOrders=true:=by kernel_rfl
 have Qy:=O λ(V:F) (hB:Bl w V)=>(az.below hB).cell;have Qp:=O λ(V:F) (hB:Bl w V)=>(bc.below hB).cell;have Qw:=O (λ(V:F) (hB:Bl w V)=>show Calls X 56 #[R #[E pa pl pc]] V λe w'=>∃u,e=.returned u/\Jf w' u (YY p)/\Bl V w' by
  obtain⟨D,h1,h2,h3⟩:=s.cp;exact Od D K _ p V (ip.below hB) s.tp h1 h2 h3 s.bd.2.1)
 have Qo:=O (λ(V:F) (hB:Bl w V)=>show Calls X 56 #[R #[E qa ql qc]] V λe w'=>∃u,e=.returned u/\Jf w' u (YY q)/\Bl V w' by
  obtain⟨D,h1,h2,h3⟩:=s.cq;exact Od D K _ q V (iq.below hB) s.tq h1 h2 h3 s.bd.2.1)
 obtain⟨Qx,Qz,Ua⟩:=Dg h0 (Chn.start s.tp s.tq s.lp s.lq s.bd.2.2.1) λ(a b:List Rat) (h:Chn p q (Db K p q) a b) (hb:b≠[])=>Chn.next s.tp s.tq s.lp s.lq s.bd.2.2.1 h hb;have Uj:=O (λ(V:F) (x y:f) (a b:List Rat) (hx:Jf V x a) (hy:Jf V y b) (h:Chn p q (Db K p q) a b) (hb:b≠[])=>ec (Db K p q) x y a b V hx hy h.wa h.wb h.ta h.tb hb s.bd.2.2.2 (by
  have h1:=h.la;have h2:(a.length+2)*(Db K p q+1)<=(max p.length q.length+2)*(Db K p q+1):=Ak _ J;have h3:=s.le;omega) (h.nx hb))
 have Qu:=O (show ∀B4 B5,w.heap.size<=B4->w.heap.size<=B5->GB (Gf B4 B5)/\Mj B4 B5 (Gf B4 B5)from λB4 B5 h4 h5=>⟨aq B4 B5,aw B4 B5 h4 h5⟩);have Qr:=O hY;have M1:Hid (Mem w w []):=O (Mem.nil w);clear s az bc ip iq aq aw hY h0;refine B0 Tryz.func55 rfl trivial ?_ rfl;simp only[Tryz.ntmps55,Ao,An,AD,Nat.reduceAdd,Nat.reduceSub,AF,AG,AZ,AN,Ap,AA];gi_wp2_with fail
 refine Yc Qq [[],[0],[],[2,1],[],[],[4,1,3,0,1,4,5],[5,3,6,0,1,2,3,4,5,6]] (by kernel_rfl) DQ
  (λD ah V=>∃(tj tk tl tm tg ti:f) (L j:Option (Nat × Dat)),ah={ tmps:=#[.func (Fn.yield l) #[] #[],C (some ⟨Bp,0,none⟩),C (some ⟨Bq,0,none⟩),I,tg,ti,tj,tk,tl,tm,I,I,I,I,I,I,I,I,I,I,I,I],defers:=[] }/\Hid ((D 0=true->tj=R #[E pa pl pc])/\(D 1=true->Has V tk (.poly (YY p)))/\(D 2=true->tl=R #[E qa ql qc])/\(D 3=true->Has V tm (.poly (YY q)))/\((D 4=false->L=none)/\(D 4=true->D 6=false->∃B:Nat,tg=C (some ⟨B,0,none⟩)/\L=some (B,.poly []))/\(D 6=true->∃B:Nat,tg=C (some ⟨B,0,none⟩)/\L=some (B,.poly (YY p))))/\((D 5=false->j=none)/\(D 5=true->D 7=false->∃B:Nat,ti=C (some ⟨B,0,none⟩)/\j=some (B,.poly []))/\(D 7=true->∃B:Nat,ti=C (some ⟨B,0,none⟩)/\j=some (B,.poly (YY q)))))/\Hid (Mem w V [L,j]))
  ⟨_,_,_,_,_,_,none,none,rfl,O ⟨Y,Y,Y,Y,Y,Y⟩,O (((M1.o).none).none).drew⟩ ?step1 ?fin1
 case step1=>
  rintro D ah V i ds S hi g o ⟨tj,tk,tl,tm,tg,ti,L,j,rfl,d,A⟩;have Ug:i<8:=(Ad.1 hi).1;obtain rfl|rfl|rfl|rfl|rfl|rfl|rfl|rfl:=LK i J
  all_goals
   simp only[Af,Ae,Ah]at hi;subst hi
  . have e0:=Qy.o V A.o.2.2;clear g;refine Zc ?_;exact⟨_,_,_,_,_,_,_,_,rfl,(Dh d),O (A.o)⟩
  . obtain rfl:=(d.o.1 (g 0 Y));have U:=O λ(n9:Nat)=>(BJ (n:=n9)).2 (Qw.o V A.o.2.2);clear g;refine BQ rfl λK hK=>?_;go_simp;gi_wp2_with(refine⟨trivial,?_⟩;gi_at_call 56;refine(U.o _).mono ?_;rintro e w5 ⟨v5,rfl,aj,ad⟩)
    obtain⟨_,_,G2,G3,G4⟩:=d.o;exact⟨_,_,_,_,_,_,_,_,rfl,O ⟨λ_=>rfl,λ_=>aj,G2,λh=>(G3 h).below ad,G4⟩,O (A.o.below ad)⟩
  . have e0:=Qp.o V A.o.2.2;clear g;refine Zc ?_;exact⟨_,_,_,_,_,_,_,_,rfl,(Df d),O (A.o)⟩
  . obtain rfl:=(d.o.2.2.1 (g 2 Y));have U:=O λ(n9:Nat)=>(BJ (n:=n9)).2 (Qo.o V A.o.2.2);clear g;refine BQ rfl λK hK=>?_;go_simp;gi_wp2_with(refine⟨trivial,?_⟩;gi_at_call 56;refine(U.o _).mono ?_;rintro e w5 ⟨v5,rfl,aj,ad⟩)
    obtain⟨G0,G1,_,_,G4⟩:=d.o;exact⟨_,_,_,_,_,_,_,_,rfl,O ⟨G0,λh=>(G1 h).below ad,λ_=>rfl,λ_=>aj,G4⟩,O (A.o.below ad)⟩
  . have hf:D 6=false:=DR S o;obtain rfl:=d.o.2.2.2.2.1.1 o;clear g;refine Zc ?_;obtain⟨G0,G1,G2,G3,_,G5⟩:=d.o;exact⟨_,_,_,_,_,_,_,_,rfl,O ⟨G0,λh=>(G1 h).alloc _,G2,λh=>(G3 h).alloc _,⟨λh=>by simp at h,λ_ _=>⟨_,rfl,rfl⟩,λh=>by simp[hf]at h⟩,G5⟩,O (A.o.fill (i:=0) rfl (.poly []) (Hf _))⟩
  . have hf:D 7=false:=DR S o;obtain rfl:=Dl d o;clear g;refine Zc ?_;obtain⟨G0,G1,G2,G3,G4,_⟩:=d.o;exact⟨_,_,_,_,_,_,_,_,rfl,O ⟨G0,λh=>(G1 h).alloc _,G2,λh=>(G3 h).alloc _,G4,⟨λh=>by simp at h,λ_ _=>⟨_,rfl,rfl⟩,λh=>by simp[hf]at h⟩⟩,O (A.o.fill (i:=1) rfl (.poly []) (Hf _))⟩
  . obtain⟨B,rfl,rfl⟩:=d.o.2.2.2.2.1.2.1 (g 4 Y) o;have Qe:=g 4 Y;have hv:=(d.o.2.1 (g 1 Y));obtain⟨a1,l1,c1,rfl⟩:=Jf.form (show Jf V _ _ from hv);obtain⟨a,l,c,n,r⟩:=A.o.poly2 (i:=0) rfl;have e0:=n.cell;have f0:=n.frozen;clear g;refine Zc ?_;obtain⟨G0,G1,G2,G3,_,G5⟩:=d.o;exact⟨_,_,_,_,_,_,_,_,rfl,O ⟨G0,λh=>(G1 h).set1 n rfl _,G2,λh=>(G3 h).set1 n rfl _,⟨λh=>by simp[Qe]at h,λ_ h=>by simp at h,λ_=>⟨B,rfl,rfl⟩⟩,G5⟩,O (A.o.putPoly (i:=0) rfl hv)⟩
  . obtain⟨B,rfl,rfl⟩:=Dq d (g 5 Y) o;have Qe:=g 5 Y;have hv:=(d.o.2.2.2.1 (g 3 Y));obtain⟨a1,l1,c1,rfl⟩:=Jf.form (show Jf V _ _ from hv);obtain⟨a,l,c,n,r⟩:=A.o.poly2 (i:=1) rfl;have e0:=n.cell;have f0:=n.frozen;clear g;refine Zc ?_;obtain⟨G0,G1,G2,G3,G4,_⟩:=d.o;exact⟨_,_,_,_,_,_,_,_,rfl,O ⟨G0,λh=>(G1 h).set1 n rfl _,G2,λh=>(G3 h).set1 n rfl _,G4,⟨λh=>by simp[Qe]at h,λ_ h=>by simp at h,λ_=>⟨B,rfl,rfl⟩⟩⟩,O (A.o.putPoly (i:=1) rfl hv)⟩
 rintro D ah V2 ae ⟨tj,tk,tl,tm,tg,ti,L,j,rfl,d,A⟩;obtain⟨k,rfl,rfl⟩:=d.o.2.2.2.2.1.2.2 (ae 6 DQ);obtain⟨B4,rfl,rfl⟩:=d.o.2.2.2.2.2.2.2 (ae 7 DQ);obtain rfl:=d.o.1 (ae 0 DQ);obtain rfl:=d.o.2.2.1 (ae 2 DQ);clear d ae M1;have M2:Hid (Mem w V2 [some (k,.poly (YY p)),some (B4,.poly (YY q))]):=A;clear A;obtain⟨a5,P,c5,n5,r5⟩:=M2.o.poly2 (i:=0) rfl;obtain⟨a6,l6,c6,n6,r6⟩:=M2.o.poly2 (i:=1) rfl;have Qc:=O (show k≠B4/\w.heap.size<=k/\w.heap.size<=B4 from⟨M2.o.ne 0 1 rfl rfl DQ,M2.o.ge 0 rfl,M2.o.ge 1 rfl⟩);obtain⟨Ql,Qi,Qm,Qv⟩:=D0 (Qx.o k B4 V2 Qc.o.2.1 Qc.o.2.2 M2.o.2.2) (Qu.o k B4 Qc.o.2.1 Qc.o.2.2) (Qr.o k B4 Qc.o.2.1 Qc.o.2.2) (show ∀H a W,Gf k B4 (H++[a]) W->ID p q=H++[a]->Chn p q (Db K p q) a []->∃B4 B5 H a,(w.heap.size<=B4/\w.heap.size<=B5)/\Gf B4 B5 (H++[a]) W/\ID p q=H++[a]/\Chn p q (Db K p q) a []from λH a W h1 h2 h3=>⟨k,B4,H,a,⟨Qc.o.2.1,Qc.o.2.2⟩,h1,h2,h3⟩);clear Qx Qu Qr;obtain⟨G,hG⟩:=ex (Gf k B4);rw[hG]at Ql Qi Qm Qv;clear hG;have Qn:Hid (Gu k B4 G [] V2 (R #[E a5 P c5]) (R #[E a6 l6 c6]) (YY p) (YY q)):=O ⟨Qi.o,Ql.o,r5,r6⟩;have N4:Hid (Do V2 k a5 P c5):=O n5;have N5:Hid (Do V2 B4 a6 l6 c6):=O n6;clear n5 n6 r5 r6 M2 Qw Qo Ql Qy Qp;gi_wp2;gi_loopw [] (λwr=>∃(H:List (List Rat)) (a b:List Rat) (L j:Option Addr) (l4 c4 P c5:Nat),Hid (Gu k B4 G H wr (R #[E L l4 c4]) (R #[E j P c5]) a b)/\Hid (Do wr k L l4 c4)/\Hid (Do wr B4 j P c5)/\Hid (Chn p q (Db K p q) a b)/\Hid (ID p q=H++IU a b)) λwr=>LF wr B4
 case atStart=>exact⟨[],_,_,_,_,_,_,_,_,Qn,N4,N5,Qz,O rfl⟩
 case round=>
  clear Qn N4 N5 Qz;obtain⟨H,a,b,L,j,l4,c4,P,c5,HG,H4,H5,U,HH⟩:=hrel;obtain⟨fn,tmps,assign,body,hy,ay⟩:=Qm.o H wr L l4 c4 j P c5 a b (by obtain⟨t,ht⟩:=eo a b;exact⟨t,by rw[HH.o,ht];simp⟩) (Bx.lt (cs:=#[E L l4 c4]) H4.o) (Bx.lt (cs:=#[E j P c5]) H5.o) HG.o.2.1 H4.o H5.o HG.o.2.2.1 HG.o.2.2.2;have e4:=H4.o.cell;gi_wp2;refine ay.mono ?_;rintro e W3 ⟨rfl,ap,an,am,bf,ak⟩;have Qt:Hid (Gu k B4 G (H++[a]) W3 (R #[E L l4 c4]) (R #[E j P c5]) a b):=O ⟨Qi.o,ap,bf,ak⟩;obtain⟨Up,Um,Qh⟩:=Dg (St ak) (H5.o.len) (YF _ b W3 ak);have e5:=am.cell;have Ul:=O an;have Uo:=O am;clear hy ay e4 ap an am bf ak HG H4 H5;by_cases af:b=[]
  . have HE:=O (show ID p q=H++[a]by rw[HH.o,af];rfl);have Ui:=O (show Chn p q (Db K p q) a []by have:=U.o;rwa[af]at this);rw[af,show((([]:List Rat).length:Int)-1)=-1 from rfl]at Qh;gi_wp2_with(refine⟨trivial,?_⟩;gi_at_call 20;refine((BJ (n:=_)).2 Qh.o).mono ?_;clear Qh;rintro e w4 ⟨rfl,ai⟩)
    go_end0;exact⟨⟨_,rfl⟩,Qv.o H a _ (Qt.o.below ai).2.1 HE.o Ui.o⟩
  . obtain⟨m,hm⟩:=ex (b.length-1:Nat);have Qs:(b.length:Int)-1=(m:Int):=by have:=Al.2 af;omega
    rw[Qs]at Qh;obtain⟨Uh,Uk,Ub,Qj⟩:=D0 (Ua.o a b U.o af) (Mi (a:=a) U.o.tb af) (show ID p q=(H++[a])++IU b (Eh a b)by rw[HH.o,ej U.o.tb af,Ce];rfl) λ(V:F) (x y:f) (hx:Jf V x a) (hy:Jf V y b)=>Uj.o V x y a b hx hy U.o af;have bg:¬(m:Int)<0:=J
    clear hm Qs af;gi_wp2_with(refine⟨trivial,?_⟩;gi_at_call 20;refine((BJ (n:=_)).2 Qh.o).mono ?_;clear Qh;rintro e w4 ⟨rfl,ai⟩)
    have Ud:=(Qt.o.below ai).below ((BB _ w4).drew);have Un:=(Ul.o.below ai).below ((BB _ w4).drew);have Ue:=(Uo.o.below ai).below ((BB _ w4).drew);refine Yc Qq [[],[],[],[1,2],[0,3,0,1],[3,4,0,1,2,3,4]] (by kernel_rfl) DQ
     (λD ah V=>∃(tc td te tf:f),ah={ tmps:=#[.func (Fn.yield l) #[] #[],C (some ⟨Bp,0,none⟩),C (some ⟨Bq,0,none⟩),I,C (some ⟨k,0,none⟩),C (some ⟨B4,0,none⟩),R #[E pa pl pc],tk,R #[E qa ql qc],tm,.func (Fn.yield l) #[] #[],R #[E L l4 c4],M true,M true,R #[E j P c5],.int .i64 ↑m,M true,M true,tc,td,te,tf],defers:=[] }/\Hid ((D 0=true->tc=R #[E j P c5])/\(D 1=true->td=R #[E L l4 c4])/\(D 2=true->te=R #[E j P c5])/\(D 3=true->D 5=false->Jf V tf (Eh a b)))/\Hid (Gu k B4 G (H++[a]) V (R #[E L l4 c4]) (R #[E j P c5]) a b)/\Hid ((D 4=false->Do V k L l4 c4)/\(D 4=true->Do V k j P c5))/\Hid ((D 5=false->Do V B4 j P c5)/\(D 5=true->Mk V B4 (Eh a b))))
     ⟨_,_,_,_,rfl,O ⟨Y,Y,Y,Y⟩,O Ud,O ⟨λ_=>Un,Y⟩,O ⟨λ_=>Ue,Y⟩⟩ ?step7 ?fin7
    case step7=>
     rintro D ah V i ds S hi g o ⟨tc,td,te,tf,rfl,d,N,Q,z⟩;have Ug:i<6:=(Ad.1 hi).1;obtain rfl|rfl|rfl|rfl|rfl|rfl:=Kb i J
     all_goals
      simp only[Af,Ae,Ah]at hi;subst hi
     . have Qf:=N.o;have Qb:=Q.o.1 (DR S o);have T:=z.o.1 (DR S o);have e0:=T.cell;clear g;refine Zc ?_;exact⟨_,_,_,_,rfl,O ⟨λ_=>rfl,d.o.2.1,d.o.2.2.1,d.o.2.2.2⟩,O (N.o),Q,O ⟨z.o.1,z.o.2⟩⟩
     . have Qf:=N.o;have Qb:=Q.o.1 (DR S o);have T:=z.o.1 (DR S o);have e0:=Qb.cell;clear g;refine Zc ?_;exact⟨_,_,_,_,rfl,O ⟨d.o.1,λ_=>rfl,d.o.2.2.1,d.o.2.2.2⟩,O (N.o),Q,O ⟨z.o.1,z.o.2⟩⟩
     . have Qf:=N.o;have Qg:D 4=false:=DR S (DR (a:=3) S o);have Qb:=Q.o.1 Qg;have T:=z.o.1 (DR S o);have e0:=T.cell;clear g;refine Zc ?_;exact⟨_,_,_,_,rfl,O ⟨d.o.1,d.o.2.1,λ_=>rfl,d.o.2.2.2⟩,O (N.o),Q,O ⟨z.o.1,z.o.2⟩⟩
     . have Qf:=N.o;have Qb:=Q.o.1 (DR S o);have T:=z.o.1 (DR S o);obtain rfl:=d.o.2.1 (g 1 Y);obtain rfl:=d.o.2.2.1 (g 2 Y);clear g;have U:=O λ(n9:Nat)=>(BJ (n:=n9)).2 (Qj.o V _ _ Qf.2.2.1 Qf.2.2.2);refine BQ rfl λK hK=>?_;go_simp;gi_wp2_with(refine⟨trivial,?_⟩;gi_at_call 57;refine(U.o _).mono ?_;rintro e w5 ⟨v5,rfl,aj,ad⟩)
       exact⟨_,_,_,_,rfl,O ⟨d.o.1,λ_=>rfl,λ_=>rfl,λ_ _=>aj⟩,O (N.o.below ad),O ⟨λh=>(Q.o.1 h).below ad,λh=>(Q.o.2 h).below ad⟩,O ⟨λh=>(z.o.1 h).below ad,λh=>(z.o.2 h).below ad⟩⟩
     . have Qf:=N.o;have Qb:=Q.o.1 o;have Qd:D 5=false:=DR S o;have T:=z.o.1 Qd;obtain rfl:=d.o.1 (g 0 Y);have e0:=Qb.cell;have f0:=Qb.frozen;clear g;refine Zc ?_;exact⟨_,_,_,_,rfl,O ⟨λ_=>rfl,d.o.2.1,d.o.2.2.1,λh h2=>(d.o.2.2.2 h h2).setB Qb⟩,O (N.o.put (Or.inl rfl) Qb),O ⟨λh=>by simp at h,λ_=>Qb.put⟩,O ⟨λh=>(z.o.1 h).far λe=>Qc.o.1 e.symm,λh=>by simp[Qd]at h⟩⟩
     . have Qf:=N.o;have T:=z.o.1 o;have h0:=d.o.2.2.2 (g 3 Y) o;have Qk:=g 4 Y;have e0:=T.cell;have f0:=T.frozen;obtain⟨x7,l7,c7,rfl⟩:=Jf.form h0;clear g;refine Zc ?_;exact⟨_,_,_,_,rfl,O ⟨d.o.1,d.o.2.1,d.o.2.2.1,λ_ h=>by simp at h⟩,O (N.o.put (Or.inr rfl) T),O ⟨λh=>by simp[Qk]at h,λh=>(Q.o.2 h).far Qc.o.1⟩,O ⟨λh=>by simp at h,λ_=>⟨x7,l7,c7,T.put,h0.setB T⟩⟩⟩
    case fin7=>
     rintro D ah V ae ⟨tc,td,te,tf,rfl,d,N,Q,z⟩;obtain⟨x7,l7,c7,n7,i7⟩:=z.o.2 (ae 5 DQ);have n6:=Q.o.2 (ae 4 DQ);have Uf:Hid (Gu k B4 G (H++[a]) V (R #[E j P c5]) (R #[E x7 l7 c7]) b (Eh a b)):=O ⟨Qi.o,N.o.2.1,N.o.2.2.2,i7⟩;obtain⟨Uc,N6,N7⟩:=Dg (show LF V B4<LF wr B4 by rw[n7.len,Um.o,St i7,Up.o];exact Uk.o) n6 n7;clear d N Q z ae n6 n7 i7;gi_wp2;go_roundw
     case rel=>exact⟨H++[a],b,Eh a b,_,_,_,_,_,_,Uf,N6,N7,Uh,Ub⟩
     case measure=>exact Uc.o
end M3
namespace M3
open Go.RowKit Go.Shelf
attribute [local go_sem] Oper.semAt_some
variable{ps:List Rat}{B l:Nat}{v:f}{W w:F}
theorem fA(n:Nat)(a d:Option Addr)(c b i g:Nat)(w:F):
 CallsIn Fence.wide n X 25 #[R #[E a c b],R #[E d i g]] w λe j=>e=.returned (.func (.func 55) #[] #[C (some ⟨w.heap.size,0,none⟩),C (some ⟨w.heap.size+1,0,none⟩)])/\j=(w.alloc (G #[E a c b] 25)).alloc (G #[E d i g] 25):=by
 refine B0 Tryz.func25 rfl trivial ?_ rfl;simp only[Tryz.ntmps25,Ao,An,AD,Nat.reduceAdd,Nat.reduceSub,AF,AG,AZ,AN,Ap,AA];gi_wp2;go_ret;exact⟨rfl,rfl⟩
def Su(B B4 B5:Nat)(I:List (List Rat)->F->Prop)(H:List (List Rat))(W:F):Exit->Act->F->Prop
 |.normal,_,W'=>I H W'/\W.heap.size<=W'.heap.size/\(∀(k:Nat) (o:Obj),B<=k->o.isCells=false\/k=B4\/k=B5->W.heap[k]?=some o->W'.heap[k]?=some o)/\∀v ps,Jf W v ps->Jf W' v ps
 |_,_,_=>False
theorem Sv{W':F}{row:Option Nat}(a:W.grownBy W' row)(b:∀r,row=some r->∃o:Obj,W.heap[r]?=some o/\o.isCells=false)(h:Jf W v ps):Jf W' v ps:=by
 obtain⟨u,e,h⟩:=h;exact⟨u,e,Iz a b h⟩
theorem Ml{o a:Obj}(hl:W.heap[l]?=some o)(b:o.isCells=false)(h:Jf W v ps):Jf (W.putObj l a) v ps:=
 Sv (BV W l a) (λr e=>by cases e;exact⟨o,hl,b⟩) h
theorem fB{g:Operand}{ps:Array Tmp}{assign body:Code}{Q:Exit->Act->F->Prop}{a:Act}{w:F}{n:Nat}
(h1:2<=n){K N S:Nat}{pa qa:Option Addr}{pl pc ql qc:Nat}{p q:List Rat}(bg:ChOk K p q)(aq:Do w N pa pl pc)(aw:Do w S qa ql qc)(ip:Jf w (R #[E pa pl pc]) p)(iq:Jf w (R #[E qa ql qc]) q)
(hg:a.eval g=.func (.func 55) #[] #[C (some ⟨N,0,none⟩),C (some ⟨S,0,none⟩)])(eg:∀args w,(callFunc 55 args).run X w=.ok (.enter 55 args) w)(bi:ps.size=1)
(I:Nat->Nat->List (List Rat)->F->Prop)(hI:∀B4 B5,OwnFrom w.heap.size (I B4 B5))(af:∀B4 B5,GB (I B4 B5))(am:∀B4 B5,w.heap.size<=B4->w.heap.size<=B5->Mj B4 B5 (I B4 B5))(h0:∀B4 B5 V,w.heap.size+2<=B4->w.heap.size+2<=B5->Bl w V->I B4 B5 [] V)(a₁:f->Nat->Act)
(an:∀(l:Nat) (x:Option Addr) (s o:Nat) (W:F) (K:Act->F->Prop),K (a₁ (E x s o) W.heap.size) (W.alloc (G #[E x s o] 25))->
  assign.wpIn (Fence.wide.inRound l) (n-1-1) X (Exit.then K λ_ _ _=>False) { tmps:=(ps.zip #[R #[E x s o]]).foldl (λt (p,v)=>t.setIfInBounds p v) a.tmps,defers:=[] } W)
(ap:∀(l b B4 B5:Nat) (x:Option Addr) (s o:Nat) (r:List Rat) (H:List (List Rat)) (W:F),I B4 B5 H W->H++[r] <+: ID p q->w.heap.size+1<b->B4<b->B5<b->Do W b x s o->Jf W (R #[E x s o]) r->
  body.wpIn (Fence.wide.inRound l) (n-1-1) X (Su w.heap.size B4 B5 (I B4 B5) (H++[r]) W) (a₁ (E x s o) b) W)
(az:∀(D B4 B5:Nat) (W:F) (H:List (List Rat)) (r:List Rat),w.heap.size<=D->I B4 B5 (H++[r]) W->ID p q=H++[r]->Chn p q (Db K p q) r []->W.heap[D]?=some (.deferred (some []))->Q .normal { a with defers:={ target:=.collected D,args:=#[] }::a.defers } W):
 (Code.rangeFunc g ps assign body).wpIn Fence.wide n X Q a w:=by
 refine wpIn_rangeFunc λfn bc=>?_;rw[show Fence.wide.round=none from rfl];obtain⟨rc,A⟩:∃rc:LoopState->Option Code->Loop,rc=λst pe=>{ state:=st,pending:=pe,fn,tmps:=a.tmps,params:=ps,assign,body,defers:=w.heap.size }:=⟨_,rfl⟩;obtain⟨V,hV⟩:=ex ((w.alloc (.deferred (some []))).alloc (.loop (rc .ready none)));have vL:V.heap[w.heap.size+1]?=some (.loop (rc .ready none)):=by
  rw[<-hV];have:=BD (w.alloc (.deferred (some []))) (.loop (rc .ready none));rwa[A1]at this
 have vD:V.heap[w.heap.size]?=some (.deferred (some [])):=by
  rw[<-hV];exact(Bh _ _ _ Y).trans (BD w _)
 have T:Bl w V:=by rw[<-hV];exact(Ba w _).alloc (by rw[A1];omega) _
 have bm:V.heap.size=w.heap.size+2:=by rw[<-hV];simp
 refine⟨w.heap.size+1,[{ target:=.collected w.heap.size,args:=#[] }],V,{ target:=.fn (.func 55) #[C (some ⟨N,0,none⟩),C (some ⟨S,0,none⟩)],args:=#[.func (.yield (w.heap.size+1)) #[] #[]] },V,55,
  #[.func (.yield (w.heap.size+1)) #[] #[]]++#[C (some ⟨N,0,none⟩),C (some ⟨S,0,none⟩)],V,?_,?_,?_,?_,λ_=>by omega,?_⟩
 . rw[<-hV,A];exact run_enterLoop_outer _ _ _ _ _
 . simp only[resolve,hg];simp[go_sem]
 . intro f' ah;simp[Target.leads]at ah;subst ah;exact trivial
 . simp[invoke,go_sem,eg]
 refine(ez K (n-1) J N S pa qa pl pc ql qc p q bg (w.heap.size+1)
  (λB4 B5 H W=>I B4 B5 H W/\W.heap[w.heap.size+1]?=some (.loop (rc .ready none))/\W.heap[w.heap.size]?=some (.deferred (some [])))
  V (aq.below T) (aw.below T) (ip.below T) (iq.below T) ?_ ?_ ?_ λB4 B5 U h4 h5 hU=>⟨h0 B4 B5 U J J (T.trans (hU.mono J)),(hU.block _ (Ab.1 vL).1).trans vL,(hU.block _ (Ab.1 vD).1).trans vD⟩).mono ?_
 . rintro B4 B5 H W W' ⟨z,hl,d⟩ hb;exact⟨af _ _ _ _ _ z hb,(hb.block _ (Ab.1 hl).1).trans hl,(hb.block _ (Ab.1 d).1).trans d⟩
 . rintro B4 B5 h4 h5 H W B x s o u hB hb ⟨z,hl,d⟩;exact⟨am B4 B5 J J _ _ _ _ _ _ _ hB hb z,(BC W ⟨B,0,none⟩ u _ (by show w.heap.size+1≠B;omega)).trans hl,(BC W ⟨B,0,none⟩ u _ (by show w.heap.size≠B;omega)).trans d⟩
 . rintro B4 B5 bj bk H W j m c4 a5 l5 c5 p4 q5 bh aj ak ⟨z,hl,d⟩ h4 h5 i4 i5;have Qf:w.heap.size+1<W.heap.size:=(Ab.1 hl).1;have hy:=run_yield (P:=X) (args:=#[R #[E j m c4]]) hl (by rw[A];exact bi.symm);rw[A]at hy;obtain⟨i,ae⟩:=ex (W.alloc (G #[E j m c4] 25));have y:Bl W i:=by rw[<-ae];exact Ba W _
   have Qd:i.heap[w.heap.size+1]?=some (.loop (rc .ready none)):=(y.block _ Qf).trans hl;have Ql:i.heap[w.heap.size]?=some (.deferred (some [])):=(y.block _ J).trans d;have Qj:I B4 B5 H i:=af _ _ _ _ _ z y;have Qh:Do i W.heap.size j m c4:=by rw[<-ae];exact BM W 25 (E j m c4)
   refine⟨fn,_,assign,body,hy,roundIn_of_wpIn bc (an _ _ _ _ W _ ?_)⟩;rw[ae];refine⟨_,run_beginRound Qd (by rw[A]),?_⟩;obtain⟨bx,ay⟩:=ex (W.heap.size);have Qu:=h4.below y;have Qr:=h5.below y;have Qv:=i4.below y;have Qn:=i5.below y;rw[ay]at Qh Qf aj ak ⊢;have Qg:w.heap.size+1<i.heap.size:=(Ab.1 Qd).1;obtain⟨c,L⟩:=ex (i.putObj (w.heap.size+1) (.loop { rc .ready none with state:=.busy }));rw[L];have Qo:c.heap[w.heap.size+1]?=some (.loop { rc .ready none with state:=.busy }):=by rw[<-L];exact Bk Qg
   have Qe:∀k,k≠w.heap.size+1->c.heap[k]?=i.heap[k]?:=λk d=>by rw[<-L];exact BT J
   have Qt:Do c bx j m c4:=(Qe bx J).trans Qh;have Qk:c.heap[w.heap.size]?=some (.deferred (some [])):=(Qe _ J).trans Ql;have Qp:I B4 B5 H c:=by rw[<-L];exact(hI B4 B5).putObj _ Qj J Qd rfl
   have Qq:Do c B4 j m c4:=(Qe B4 J).trans Qu;have Qw:Do c B5 a5 l5 c5:=(Qe B5 J).trans Qr;have Qi:Jf c (R #[E j m c4]) p4:=by rw[<-L];exact Ml Qd rfl Qv
   have Qs:Jf c (R #[E a5 l5 c5]) q5:=by rw[<-L];exact Ml Qd rfl Qn
   refine wpIn_mono (ap _ bx B4 B5 j m c4 p4 H c Qp bh Qf aj ak Qt Qi) λe a3 W3 hp=>?_;cases e with
   |normal=>
    obtain⟨bf,bn,ad,ai⟩:=hp;have Qc:=ad _ _ J (Or.inl rfl) Qo;have hr:=run_endRound (P:=X) none Qc;have Qa:∀k,k≠w.heap.size+1->(W3.putObj (w.heap.size+1) (.loop (rc .ready none))).heap[k]?=W3.heap[k]?:=λk d=>BT J;have Qm:(Instr.endRound (w.heap.size+1) none).run X W3=.ok (M true) (W3.putObj (w.heap.size+1) (.loop (rc .ready none))):=by
     rw[A]at hr ⊢;exact hr
    exact⟨_,_,Qm,rfl,⟨(hI B4 B5).putObj _ bf J Qc rfl,Bk (Ab.1 Qc).1,(Qa _ J).trans (ad _ _ (Aa _) (Or.inl rfl) Qk)⟩,
     (Qa _ J).trans (ad _ _ J (Or.inr (Or.inl rfl)) Qq),(Qa _ J).trans (ad _ _ J (Or.inr (Or.inr rfl)) Qw),Ml Qc rfl (ai _ _ Qi),Ml Qc rfl (ai _ _ Qs)⟩
   |ret=>exact hp.elim
   |exit id=>exact hp.elim
   |goto t=>exact hp.elim
   |panic ch=>exact hp.elim
   |outgrown=>exact hp.elim
 . rintro e c ⟨⟨v,rfl⟩,B4,B5,H,r,⟨h4,h5⟩,⟨z,hl,d⟩,hc,hn⟩;exact⟨none,_,by have:=run_endLoop (P:=X) hl (by rw[A];simp);rw[A]at this;exact this,az _ B4 B5 _ H r (Aa _) ((hI B4 B5).putObj _ z J hl rfl) hc hn ((BT J).trans d)⟩
theorem Mem.setFar{V:F}{bs:List (Option (Nat × Dat))}(M:Mem w V bs)(g:w.heap.size<=B){a:Option Addr}{c:Nat}(j:Do V B a l c)(k:∀(i:Nat) B' d,bs[i]?=some (some (B',d))->B'≠B)(u:f):Mem w (V.setCell ⟨B,0,Option.none⟩ u) bs:=by
 refine⟨λi B' d h=>?_,M.2.1,M.2.2.setCell (p:=⟨B,0,Option.none⟩) g u⟩;obtain⟨⟨cs,b,e⟩,m⟩:=M.1 i B' d h;exact⟨⟨cs,b.far (p:=⟨B,0,Option.none⟩) (k i B' d h) u,e.set1 j rfl u⟩,m⟩
def IE(w:F)(a d:Option Addr)(c b g e:Nat)(H:List (List Rat)):List (Option (Nat × Dat)):=
 [some (w.heap.size,.cell 25 (E a c b)),some (w.heap.size+1,.cell 25 (E d g e)),some (w.heap.size+1+1,.cell 25 (E none 0 0)),some (w.heap.size+1+1+1,.poly (H.getLastD []))]
theorem fC{a g:Option Addr}{c b k j:Nat}{H:List (List Rat)}{i:Nat}{d:Dat}(e:(IE w a g c b k j H)[i]?=some (some (B,d))):B<=w.heap.size+1+1+1:=by
 unfold IE at e;rcases i with _|_|_|_|i<;>simp at e<;>omega
theorem Oe(K:Nat)(va vb:f)(p q:List Rat)(w:F)(ha:Jf w va p)(z:Jf w vb q)(af:ChOk K p q):
 Calls X 8 #[va,vb] w λe w'=>∃u,e=.returned u/\Jf w' u (JL p q)/\Bl w w':=by
 obtain⟨g,m,j,rfl⟩:=ha.form;obtain⟨s,y,t,rfl⟩:=z.form;have M0:Mem w _ _:=((((Mem.nil w).push (.cell 25 (E g m j)) (cs:=#[E g m j]) ⟨rfl,rfl⟩).push (.cell 25 (E s y t)) (cs:=#[E s y t]) ⟨rfl,rfl⟩).push (.cell 25 (E none 0 0)) (cs:=#[E none 0 0]) ⟨rfl,rfl⟩).push (.poly []) (cs:=#[E none 0 0]) (Hf _);simp only[A1]at M0;obtain⟨W0,ad⟩:=ex ((((w.alloc (G #[E g m j] 25)).alloc (G #[E s y t] 25)).alloc (G #[E none 0 0] 25)).alloc (G #[E none 0 0] 25));have M1:Mem w W0 (IE w g s m j y t []):=by rw[<-ad];exact M0
 have hN:W0.heap.size=w.heap.size+1+1+1+1:=by rw[<-ad];simp
 obtain⟨Qe,Qg,HN,HP,HQ,Qm⟩:=Kr ad M1 hN (λ(V:F) (hB:Bl w V)=>ha.below hB) (λ(V:F) (hB:Bl w V)=>z.below hB) af;have Qj:=O (λ(V:F) (x:f) (r:List Rat) (hx:Jf V x r) (hc:Chn p q (Db K p q) r [])=>show Calls X 26 #[x] V λe w'=>∃u,e=.returned u/\Jf w' u (JL p q)/\Bl V w' by
  have Qb:=af.bd;have h1:=Ss x r V hx (Sqs.of λi=>Sq.of (hc.wa.smq Qb.2.2.2 i) Qb.1) hc.ta (λi=>by
   have h2:=Ln.sqs hc.ta hc.wa.ln Qb.2.2.2 i;unfold JC at h2;rw[Xa,Fm,Rat.one_mul,<-Fm]at h2;exact Sq.of h2 Qb.1)
  rw[<-hc.gc,OZ];exact h1)
 clear ha z af M0 M1 ad hN;refine(BJ (n:=3)).1 ?_;refine BU Tryz.func8 rfl trivial ?_ rfl;simp only[Tryz.ntmps8,Ao,An,AD,Nat.reduceAdd,Nat.reduceSub,AF,AG,AZ,AN,Ap,AA];gi_wp2_with fail
 rw[Qe.o];refine⟨trivial,?_⟩;refine(fA _ _ _ _ _ _ _ _).mono ?_;rintro e w' ⟨rfl,rfl⟩;obtain⟨A,U⟩:=ex ((W0.alloc (G #[E g m j] 25)).alloc (G #[E s y t] 25));have Qi:Bl W0 A:=by rw[<-U];exact(Ba W0 _).alloc (by rw[A1];omega) _
 have nP:Do A W0.heap.size g m j:=by rw[<-U];exact(BM W0 25 (E g m j)).alloc _
 have nQ:Do A (W0.heap.size+1) s y t:=by
  rw[<-U];have:=BM (W0.alloc (G #[E g m j] 25)) 25 (E s y t);rwa[A1]at this
 have M2:=Mem.below Qg.o Qi;have Qf:A.heap.size=w.heap.size+6:=by rw[<-U];simp[HN.o]
 rw[U,HN.o];rw[HN.o]at nP nQ;obtain⟨Qc,Ql,Qn,S⟩:=D0 M2 nP nQ Qf;clear M2 nP nQ Qf Qi U Qe HN Qg;gi_wp2_with fail
 refine fB J Qm.o Ql.o Qn.o (HP.o A Qc.o.2.2) (HQ.o A Qc.o.2.2) rfl (DF Tryz.func55 (by kernel_rfl) rfl) rfl
  (λ_ _ H W=>Mem w W (IE w g s m j y t H)) (λ_ _ H W W' row M hg hr=>Mem.own M hg λr e=>⟨by have:=(hr r e).1;have:=S.o;omega,(hr r e).2⟩) (λ_ _ H W W' M z=>Mem.below M z)
  (λB4 B5 T h5 H W B a l c u hB z M=>Mem.setFar M (by have:=S.o;omega) z (λi B' d e=>by have:=fC e;have:=S.o;omega) u) (λ_ _ V _ _ hV=>Mem.below Qc.o hV)
  (λv b=>{ tmps:=#[R #[E g m j],R #[E s y t],C (some ⟨w.heap.size,0,none⟩),C (some ⟨w.heap.size+1,0,none⟩),C (some ⟨w.heap.size+1+1,0,none⟩),C (some ⟨w.heap.size+1+1+1,0,none⟩),C (some ⟨b,0,none⟩),R #[E g m j],R #[E s y t],.func (.func 55) #[] #[C (some ⟨w.heap.size+1+1+1+1,0,none⟩),C (some ⟨w.heap.size+1+1+1+1+1,0,none⟩)],R #[v],I,I,I],defers:=[] }) ?assign ?body ?done
 case assign=>
  intro l x xl xc W K hK;gi_wp2;exact hK
 case body=>
  intro l b B4 B5 x xl xc r H W M _ z _ _ ai hr;obtain⟨ya,yl,yc,Q,r3⟩:=Mem.poly2 M (i:=3) rfl;have e3:=Q.cell;have f3:=Q.frozen;have eb:=ai.cell;have HH:=O (show ∀ah,Su A.heap.size B4 B5 (λH W=>Mem w W (IE w g s m j y t H)) (H++[r]) W .normal ah (W.setCell ⟨w.heap.size+1+1+1,0,none⟩ (E x xl xc))from λah=>by
   refine⟨?_,?_,λk o hk _ ho=>?_,λv ps h=>h.setB Q⟩
   . have T:=Mem.putPoly M (i:=3) rfl hr;show Mem w _ (IE w g s m j y t (H++[r]));unfold IE at T ⊢;rw[show(H++[r]).getLastD []=r by simp];exact T
   . rw[World.size_setCell];exact Aa _
   . exact(BC W ⟨w.heap.size+1+1+1,0,none⟩ _ k (by show k≠w.heap.size+1+1+1;have:=S.o;omega)).trans ho)
  clear M z ai hr Q r3;gi_wp2;exact HH.o _
 case done=>
  intro D _ _ W H r hD M am aj hK;have Qo:w.heap.size<=D:=by have:=S.o;omega
  have M:Mem w W [some (w.heap.size,.cell 25 (E g m j)),some (w.heap.size+1,.cell 25 (E s y t)),some (w.heap.size+1+1,.cell 25 (E none 0 0)),some (w.heap.size+1+1+1,.poly r)]:=by
   have T:Mem w W (IE w g s m j y t (H++[r])):=M;unfold IE at T;rwa[show(H++[r]).getLastD []=r by simp]at T
  obtain⟨ya,yl,yc,Q,r3⟩:=Mem.poly2 M (i:=3) rfl;have e3:=Q.cell;have n2:=(Mem.cell M (i:=2) rfl).1;obtain⟨HC,Qh,HK⟩:=Dg (Qj.o W _ r r3 aj) M.2.2 hK;clear M am aj hK r3 Q Qj;gi_wp2_with(refine⟨trivial,?_⟩;gi_at_call 26;refine((BJ (n:=_)).2 HC.o).mono ?_;clear HC;rintro e w5 ⟨u5,rfl,ak,ae⟩;obtain⟨L,P,N,rfl⟩:=ak.form;have n5:=boxed_below n2 ae;have x0:=n5.cell;have x1:=n5.frozen)
  have Qd:(w5.setCell ⟨w.heap.size+1+1,0,none⟩ (E L P N)).heap[D]?=some (.deferred (some [])):=by
   rw[BC w5 ⟨w.heap.size+1+1,0,none⟩ _ D (by show D≠w.heap.size+1+1;have:=S.o;omega)];exact(ae.block D (Ab.1 HK.o).1).trans HK.o
  refine⟨Y,.inl ⟨_,_,rfl,Bb Qd,?_⟩⟩;have q:Do (w5.setCell ⟨w.heap.size+1+1,0,none⟩ (E L P N)) (w.heap.size+1+1) L P N:=Do.put (show Do w5 (w.heap.size+1+1) none 0 0 from n5);have hg:=BV (w5.setCell ⟨w.heap.size+1+1,0,none⟩ (E L P N)) D (.deferred none);have Qk:∀r,some D=some r->∃o:Obj,(w5.setCell ⟨w.heap.size+1+1,0,none⟩ (E L P N)).heap[r]?=some o/\o.isCells=false:=λr e=>by cases e;exact⟨_,Qd,rfl⟩
  have q2:Do _ (w.heap.size+1+1) L P N:=Xw hg Qk q;have g0:=q2.cell;refine⟨R #[E L P N],by simp[results,Tryz.results8,go_sem,g0],_,rfl,?_,?_⟩
  . exact Sv hg Qk (ak.setB n5)
  . exact((Bt Qh.o ae).setCell (p:=⟨w.heap.size+1+1,0,none⟩) (by show w.heap.size<=w.heap.size+1+1;omega) _).trans (DP (w:=w) (Aa _) _ D _ _ Qo Qd rfl rfl)
