import Derived.Test.YteldjhhjnchdeaaGreatDoorW43
open Go.Value renaming slice->E,pointer->C,agg->R,bool->M
open Go renaming World->F,undef->I,Value->f
open Go.Proofs.Tryz renaming prog->X
open Go.Obj renaming cells->G
set_option maxRecDepth 100000
set_option maxHeartbeats 16000000
namespace Go.Proofs.YteldjhhjnchdeaaGreatDoor
namespace M3
open Go.RowKit Go.Shelf
attribute [local go_sem] Oper.semAt_some
variable{b:Bool}{ps qs:List Rat}{c:Rat}{t:f}{V:F}
theorem aS(va vb:f)(ps qs:List Rat)(w:F)(ha:Jc w va ps)(hb:Jc w vb qs)(aw:Sqs ps)(ba:Sqs qs)(az:qs≠[])(ay:∀i,i<=ps.length+1-qs.length->Sq (Xb (cf qs (qs.length-1))^i))(bc:∀i,Sq (cf ps i*F7 ps qs)):
 Calls X 99 #[va,vb] w λe w'=>∃u,e=.returned u/\Jc w' u (YS ps qs)/\Bl w w':=by
 obtain⟨m,hm⟩:=ex (qs.length-1:Nat);have Uc:0<qs.length:=Ai.2 az;have Qy:ps.length<=1099511627776:=by
  obtain⟨Q,la,S,rfl⟩:=ha.form;have:=ha.row.forms;omega
 have Qt:qs.length<=1099511627776:=by
  obtain⟨z,lb,A,rfl⟩:=hb.form;have:=hb.row.forms;omega
 obtain⟨L,hL⟩:=ex (Xb (cf qs m):Rat);obtain⟨N,hN⟩:=ex (ps.length+1-qs.length:Nat);obtain⟨e1,aq⟩:=ex ((ps.length:Int)-1:Int);have Qp:(qs.length:Int)-1=(m:Int):=Y
 obtain⟨e3,co⟩:=ex (e1-(m:Int):Int);obtain⟨e4,ct⟩:=ex (e3+1:Int);have da:IntKind.i64.wrap e3=e3:=by rw[BZ];omega
 have db:IntKind.i64.wrap e4=e4:=by rw[BZ];omega
 obtain⟨Qb,Qo,Ub,Qw,Qc,HT,Qu,Qs⟩:=Ip (show(∀i:Nat,(i:Int)<e4↔i<N)/\N<=1099511627777 from⟨λi=>by omega,Y⟩) Qp aq hL (show ∀i,i<=N->Sq (L^i)from λi hi=>by rw[<-hL,<-hm];exact ay i Y) (show DX (L^N) ps=YS ps qs by unfold YS F7;rw[hm,hL,hN]) (show ∀i,Sq (cf ps i*L^N)from λi=>by have:=bc i;unfold F7 at this;rwa[hm,hL,hN]at this) aw;have Qz:=Z ba;clear ay bc aw ba az hN hL hm Uc Qy Qt aq Qp;have Ql:Tryz.prog.follows .mixedOrders=true:=by kernel_rfl
 obtain⟨Q,la,S,rfl⟩:=ha.form;obtain⟨z,lb,A,rfl⟩:=hb.form;have M0:=(((Mem.nil w).push (.cell 25 (E Q la S)) (cs:=#[E Q la S]) ⟨rfl,rfl⟩).push (.cell 25 (E z lb A)) (cs:=#[E z lb A]) ⟨rfl,rfl⟩).push (.cell 25 (E none 0 0)) (cs:=#[E none 0 0]) ⟨rfl,rfl⟩;simp only[BA]at M0;obtain⟨W0,ai⟩:=ex (((w.alloc (G #[E Q la S] 25)).alloc (G #[E z lb A] 25)).alloc (G #[E none 0 0] 25));obtain⟨Qj,HP,HQ⟩:=Dh ai (λ(V:F) (hB:Bl w V)=>ha.below hB) λ(V:F) (hB:Bl w V)=>hb.below hB;have M1:Hid (Mem w W0 [some (w.heap.size,.cell 25 (E Q la S)),some (w.heap.size+1,.cell 25 (E z lb A)),some (w.heap.size+1+1,.cell 25 (E none 0 0))]):=Z (by rw[<-ai];exact M0);clear M0 ai ha hb;go_enter Tryz.func99,Tryz.ntmps99
 go_upto_region 1 with fail
 rw[Qj.o];clear Qj;refine Jn Ql [[],[],[1],[0,2,2],[3,3],[],[5,4,4,0,1,2,3,4,5]] (by kernel_rfl) DL
  (λD ad V=>∃(tm tn ta tb tc tl:f) (x5:Option (Nat × Dat)),ad={ tmps:=#[R #[E Q la S],R #[E z lb A],C (some ⟨w.heap.size,0,none⟩),C (some ⟨w.heap.size+1,0,none⟩),C (some ⟨w.heap.size+1+1,0,none⟩),tl,I,I,tm,tn,ta,tb,tc,I,I,I,I,I,I,I,I,I,I,I,I,I,I,I,I,I,I,I,I,I],defers:=[] }/\Hid ((D 0=true->tm=R #[E z lb A])/\(D 1=true->tn=R #[E z lb A])/\(D 2=true->ta=.int .i64 (m:Int))/\(D 3=true->Has V tb (.rat (cf qs m)))/\(D 4=true->Has V tc (.rat L))/\((D 5=false->x5=none)/\(D 5=true->D 6=false->∃B:Nat,tl=C (some ⟨B,0,none⟩)/\x5=some (B,.rat 0))/\(D 6=true->∃B:Nat,tl=C (some ⟨B,0,none⟩)/\x5=some (B,.rat L))))/\Hid (Mem w V [some (w.heap.size,.cell 25 (E Q la S)),some (w.heap.size+1,.cell 25 (E z lb A)),some (w.heap.size+1+1,.cell 25 (E none 0 0)),x5]))
  ⟨_,_,_,_,_,_,none,rfl,Z ⟨O,O,O,O,O,O⟩,Z ((M1.o).none).drew⟩ ?step1 ?fin1
 case step1=>
  rintro D ad V i ds ap hi q af ⟨tm,tn,ta,tb,tc,tl,x5,rfl,g,o⟩;have Qv:i<7:=(Af.1 hi).1;obtain rfl|rfl|rfl|rfl|rfl|rfl|rfl:=Gt i Y
  all_goals
   simp only[Aj,Ah,Al]at hi;subst hi
  . have e0:=(o.o.cell (i:=1) rfl).1.cell;clear q;refine Zt ?_;exact⟨_,_,_,_,_,_,_,rfl,(Dc g),Z (o.o)⟩
  . have e0:=(o.o.cell (i:=1) rfl).1.cell;clear q;refine Zt ?_;exact⟨_,_,_,_,_,_,_,rfl,(Dg g),Z (o.o)⟩
  . obtain rfl:=(g.o.2.1 (q 1 O));have P:=Z (Ya _ qs V (HQ.o V o.o.2.2));rw[Qo.o]at P;clear q;refine Jb rfl rfl λK hK=>?_;go_simp;go_wp2_with(go_at_call 20;refine P.o.mono ?_;rintro e U ⟨rfl,H⟩)
    obtain⟨G0,_,_,G3,G4,G5⟩:=g.o;exact⟨_,_,_,_,_,_,_,rfl,Z ⟨G0,λ_=>rfl,λ_=>rfl,λh=>(G3 h).below H,λh=>(G4 h).below H,G5⟩,Z (o.o.below H)⟩
  . obtain rfl:=(g.o.1 (q 0 O));obtain rfl:=(g.o.2.2.1 (q 2 O));have P:=Z (II _ qs (m:Int) V (HQ.o V o.o.2.2));rw[IY]at P;clear q;refine Jb rfl rfl λK hK=>?_;go_simp;go_wp2_with(go_at_call 58;refine P.o.mono ?_;rintro e U ⟨v5,rfl,am,H⟩)
    exact⟨_,_,_,_,_,_,_,rfl,Z ⟨λ_=>rfl,g.o.2.1,λ_=>rfl,λ_=>am,λh=>(g.o.2.2.2.2.1 h).below H,g.o.2.2.2.2.2⟩,Z (o.o.below H)⟩
  . have h0:=(g.o.2.2.2.1 (q 3 O));have P:=Z (aN _ (cf qs m) V h0 (Qz.o.at m));rw[Qw.o]at P;clear q h0;refine Jb rfl rfl λK hK=>?_;go_simp;go_wp2_with(go_at_call 129;refine P.o.mono ?_;rintro e U ⟨v5,rfl,am,H⟩)
    obtain⟨G0,G1,G2,G3,_,G5⟩:=g.o;exact⟨_,_,_,_,_,_,_,rfl,Z ⟨G0,G1,G2,λh=>(G3 h).below H,λ_=>am,G5⟩,Z (o.o.below H)⟩
  . have hf:D 6=false:=DN ap af;obtain rfl:=Do g af;clear q;refine Zt ?_;obtain⟨G0,G1,G2,G3,G4,_⟩:=g.o;exact⟨_,_,_,_,_,_,_,rfl,Z ⟨G0,G1,G2,λh=>(G3 h).alloc _,λh=>(G4 h).alloc _,⟨λh=>by simp at h,λ_ _=>⟨_,rfl,rfl⟩,λh=>by simp[hf]at h⟩⟩,Z (o.o.fill (i:=3) rfl (.rat 0) (EH _))⟩
  . obtain⟨B,rfl,rfl⟩:=D3 g (q 5 O) af;have Qd:=q 5 O;have hv:=(g.o.2.2.2.2.1 (q 4 O));obtain⟨s1,a1,l1,c1,t1,b1,k1,d1,rfl⟩:=Jj.form (show Jj V _ _ from hv);obtain⟨s,a,l,c,t,b,k,d,n,r,i,j⟩:=o.o.rat (i:=3) rfl;have e0:=n.c0;have f0:=n.f0;have e1:=n.c1;have f1:=n.f1;have e2:=n.c2;have f2:=n.f2;have e3:=n.c3;have f3:=n.f3;clear q;refine Zt ?_;obtain⟨G0,G1,G2,G3,G4,_⟩:=g.o;exact⟨_,_,_,_,_,_,_,rfl,Z ⟨G0,G1,G2,λh=>(G3 h).put4 n rfl rfl rfl rfl _ _ _ _,λh=>(G4 h).put4 n rfl rfl rfl rfl _ _ _ _,⟨λh=>by simp[Qd]at h,λ_ h=>by simp at h,λ_=>⟨B,rfl,rfl⟩⟩⟩,Z (o.o.putRat (i:=3) rfl hv)⟩
 rintro D ad V2 T ⟨tm,tn,ta,tb,tc,tl,x5,rfl,g,o⟩;obtain⟨W,rfl,rfl⟩:=g.o.2.2.2.2.2.2.2 (T 6 DL);obtain rfl:=g.o.1 (T 0 DL);obtain rfl:=g.o.2.1 (T 1 DL);obtain rfl:=g.o.2.2.1 (T 2 DL);clear g T M1;have M2:Hid (Mem w V2 [some (w.heap.size,.cell 25 (E Q la S)),some (w.heap.size+1,.cell 25 (E z lb A)),some (w.heap.size+1+1,.cell 25 (E none 0 0)),some (W,.rat L)]):=o;clear o;have HA:=Z λ(V:F)=>IB 1 Y Y V;have HB:=HA;have P:=Z λ(V:F) (x y:f) (hx:Jk V x 1) (hy:Jk V y 1)=>Ko x y 1 1 V hx hy Sok.one Sok.one;rw[show decide ((1:Int)≠0)=true from rfl,show Rat.divInt 1 1=L^0 by rw[Rat.pow_zero];rfl]at P;go_upto_region 3 with(first
  |(go_at_call 95;refine(HA.o _).mono ?_;clear HA;rintro e w3 ⟨u3,rfl,Qa,an⟩)
  |(go_at_call 95;refine(HB.o _).mono ?_;clear HB;rintro e w4 ⟨u4,rfl,bf,ak⟩;have Qa:=Qa.below ak)
  |(go_at_call 84;refine(P.o _ _ _ Qa bf).mono ?_;clear P;rintro e U ⟨u5,rfl,ae,H⟩;obtain⟨s9,a9,l9,c9,t9,b9,k9,d9,rfl⟩:=Jj.form ae))
 obtain⟨V4,hV⟩:=ex (U.alloc (G #[M s9,E a9 l9 c9,M t9,E b9 k9 d9] 65));obtain⟨B4,ah⟩:=ex (U.heap.size);have o:Mem w (U.alloc (G #[M s9,E a9 l9 c9,M t9,E b9 k9 d9] 65)) [some (w.heap.size,.cell 25 (E Q la S)),some (w.heap.size+1,.cell 25 (E z lb A)),some (w.heap.size+1+1,.cell 25 (E none 0 0)),some (W,.rat L),some (U.heap.size,.rat (L^0))]:=Mem.push (((M2.o.below an).below ak).below H) (.rat (L^0)) ae;rw[hV,ah]at o;rw[hV];rw[ah];have M3:Hid (Mem w V4 [some (w.heap.size,.cell 25 (E Q la S)),some (w.heap.size+1,.cell 25 (E z lb A)),some (w.heap.size+1+1,.cell 25 (E none 0 0)),some (W,.rat L),some (B4,.rat (L^0))]):=Z (o);clear M2;clear o hV ah;clear Qa bf ae an ak H;refine Jn Ql [[],[0],[],[2,1],[1,3],[4],[]] (by kernel_rfl) DL
  (λD ad V=>∃(td te tf tg ti tj tk:f),ad={ tmps:=#[R #[E Q la S],R #[E z lb A],C (some ⟨w.heap.size,0,none⟩),C (some ⟨w.heap.size+1,0,none⟩),C (some ⟨w.heap.size+1+1,0,none⟩),C (some ⟨W,0,none⟩),C (some ⟨B4,0,none⟩),M true,R #[E z lb A],R #[E z lb A],.int .i64 ↑m,tb,tc,.tuple #[R #[M s9,E a9 l9 c9,M t9,E b9 k9 d9],M true],u3,u4,.tuple #[R #[M s9,E a9 l9 c9,M t9,E b9 k9 d9],M true],R #[M s9,E a9 l9 c9,M t9,E b9 k9 d9],M true,td,te,tf,tg,ti,tj,tk,I,I,I,I,I,I,I,I],defers:=[] }/\Hid ((D 0=true->td=R #[E Q la S])/\(D 1=true->te=.int .i64 e1)/\(D 2=true->tf=R #[E z lb A])/\(D 3=true->tg=.int .i64 (m:Int))/\(D 4=true->ti=.int .i64 e3)/\(D 5=true->tj=.int .i64 e4)/\(D 6=true->tk=.int .i64 0))/\Hid (Mem w V [some (w.heap.size,.cell 25 (E Q la S)),some (w.heap.size+1,.cell 25 (E z lb A)),some (w.heap.size+1+1,.cell 25 (E none 0 0)),some (W,.rat L),some (B4,.rat (L^0))]))
  ⟨_,_,_,_,_,_,_,rfl,Z ⟨O,O,O,O,O,O,O⟩,Z (M3.o).drew⟩ ?step5 ?fin5
 case step5=>
  rintro D ad V i ds ap hi q af ⟨td,te,tf,tg,ti,tj,tk,rfl,g,o⟩;have Qv:i<7:=(Af.1 hi).1;obtain rfl|rfl|rfl|rfl|rfl|rfl|rfl:=Gt i Y
  all_goals
   simp only[Aj,Ah,Al]at hi;subst hi
  . have e0:=(o.o.cell (i:=0) rfl).1.cell;clear q;refine Zt ?_;exact⟨_,_,_,_,_,_,_,rfl,(Dc g),Z (o.o)⟩
  . obtain rfl:=(g.o.1 (q 0 O));have P:=Z (Ya _ ps V (HP.o V o.o.2.2));rw[Ub.o]at P;clear q;refine Jb rfl rfl λK hK=>?_;go_simp;go_wp2_with(go_at_call 20;refine P.o.mono ?_;rintro e U ⟨rfl,H⟩)
    exact⟨_,_,_,_,_,_,_,rfl,(Dg (Dc g)),Z (o.o.below H)⟩
  . have e0:=(o.o.cell (i:=1) rfl).1.cell;clear q;refine Zt ?_;exact⟨_,_,_,_,_,_,_,rfl,(DZ g),Z (o.o)⟩
  . obtain rfl:=(g.o.2.2.1 (q 2 O));have P:=Z (Ya _ qs V (HQ.o V o.o.2.2));rw[Qo.o]at P;clear q;refine Jb rfl rfl λK hK=>?_;go_simp;go_wp2_with(go_at_call 20;refine P.o.mono ?_;rintro e U ⟨rfl,H⟩)
    exact⟨_,_,_,_,_,_,_,rfl,(Dd (DZ g)),Z (o.o.below H)⟩
  . obtain rfl:=(g.o.2.1 (q 1 O));obtain rfl:=(g.o.2.2.2.1 (q 3 O));clear q;refine Zt ?_;exact⟨_,_,_,_,_,_,_,rfl,(Dt (Dd (Dg g))),Z (o.o)⟩
  . obtain rfl:=(g.o.2.2.2.2.1 (q 4 O));clear q;refine Zt ?_;exact⟨_,_,_,_,_,_,_,rfl,(Dx (Dt g)),Z (o.o)⟩
  . clear q;refine Zt ?_;exact⟨_,_,_,_,_,_,_,rfl,(KZ g),Z (o.o)⟩
 rintro D ad V6 T ⟨td,te,tf,tg,ti,tj,tk,rfl,g,o⟩;obtain rfl:=g.o.1 (T 0 DL);obtain rfl:=g.o.2.1 (T 1 DL);obtain rfl:=g.o.2.2.1 (T 2 DL);obtain rfl:=g.o.2.2.2.1 (T 3 DL);obtain rfl:=g.o.2.2.2.2.1 (T 4 DL);obtain rfl:=Do g (T 5 DL);obtain rfl:=g.o.2.2.2.2.2.2 (T 6 DL);clear g T M3;have M4:Hid (Mem w V6 [some (w.heap.size,.cell 25 (E Q la S)),some (w.heap.size+1,.cell 25 (E z lb A)),some (w.heap.size+1+1,.cell 25 (E none 0 0)),some (W,.rat L),some (B4,.rat (L^0))]):=o;clear o;go_wp2;go_loopw [25] (λiv wr=>∃i:Nat,i<=N/\iv=.int .i64 (i:Int)/\Hid (Mem w wr [some (w.heap.size,.cell 25 (E Q la S)),some (w.heap.size+1,.cell 25 (E z lb A)),some (w.heap.size+1+1,.cell 25 (E none 0 0)),some (W,.rat L),some (B4,.rat (L^i))])) λiv _=>N-(intOf iv).toNat
 case atStart=>exact⟨0,AK _,rfl,M4⟩
 case round=>
  clear M4;obtain⟨i,hi,rfl,M5⟩:=hrel;by_cases av:i<N
  . have Qf:(i:Int)<e4:=(Qb.o.1 i).2 av;have cn:N<=1099511627777:=Qb.o.2;obtain⟨s7,a7,l7,c7,t7,b7,k7,d7,n7,r7,i7,j7⟩:=M5.o.rat (i:=3) rfl;obtain⟨ce,ci,ck,cl⟩:=n7.cq;obtain⟨s8,a8,l8,c8,t8,b8,k8,d8,n8,r8,i8,j8⟩:=M5.o.rat (i:=4) rfl;obtain⟨Qk,Qn,Qg,Qq⟩:=n8.cq;obtain⟨Qh,Qr,Qi,Qm⟩:=n8.fq;have H1:=Z (Iz _ _ (L^i) L wr r8 r7 (Qc.o i Y) (by have:=Qc.o 1 Y;rwa[Rat.pow_one]at this));rw[<-Rat.pow_succ]at H1;go_upto_region 6 with(go_at_call 52;refine H1.o.mono ?_;clear H1;rintro e w6 ⟨u6,rfl,bg,hq⟩;obtain⟨s8,a8,l8,c8,t8,b8,k8,d8,rfl⟩:=Jj.form bg;clear Qk Qn Qg Qq;obtain⟨Qk,Qn,Qg,Qq⟩:=(n8.below hq).cq;clear Qh Qr Qi Qm;obtain⟨Qh,Qr,Qi,Qm⟩:=(n8.below hq).fq)
    obtain⟨V9,hV⟩:=ex ((((w6.setCell ⟨B4,0,none⟩ (M s8)).setCell ⟨B4,1,none⟩ (E a8 l8 c8)).setCell ⟨B4,2,none⟩ (M t8)).setCell ⟨B4,3,none⟩ (E b8 k8 d8));have o:Mem w ((((w6.setCell ⟨B4,0,none⟩ (M s8)).setCell ⟨B4,1,none⟩ (E a8 l8 c8)).setCell ⟨B4,2,none⟩ (M t8)).setCell ⟨B4,3,none⟩ (E b8 k8 d8)) [some (w.heap.size,.cell 25 (E Q la S)),some (w.heap.size+1,.cell 25 (E z lb A)),some (w.heap.size+1+1,.cell 25 (E none 0 0)),some (W,.rat L),some (B4,.rat (L^(i+1)))]:=Mem.putRat (M5.o.below hq) (i:=4) rfl bg;rw[hV]at o;rw[hV];have M6:Hid (Mem w V9 [some (w.heap.size,.cell 25 (E Q la S)),some (w.heap.size+1,.cell 25 (E z lb A)),some (w.heap.size+1+1,.cell 25 (E none 0 0)),some (W,.rat L),some (B4,.rat (L^(i+1)))]):=Z (o);clear M5;clear o hV;go_wp2_with fail
    go_roundw
    case rel=>exact⟨i+1,Y,by go_num,M6⟩
    case measure=>simp[intOf];omega
  . have Qf:¬(i:Int)<e4:=λh=>av ((Qb.o.1 i).1 h);obtain rfl:i=N:=Y
    obtain⟨dm,bi,dj,bj,dt,b10,di,bm,bh,r10,df,dh⟩:=M5.o.rat (i:=4) rfl;obtain⟨bn,bt,bu,bz⟩:=bh.cq;have c0:=(M5.o.cell (i:=0) rfl).1.cell;have n1:=(M5.o.cell (i:=2) rfl).1;have Qe:=Z M5.o.2.2;have H2:=Z (QV (R #[E Q la S]) _ ps (L^i) wr (HP.o wr Qe.o) r10 Qs.o (Qc.o i (Aa _)) Qu.o);rw[HT.o]at H2;go_wp2_with(go_at_call 98;refine H2.o.mono ?_;clear H2;rintro e U ⟨u5,rfl,ae,H⟩;obtain⟨a7,l7,c7,rfl⟩:=ae.form;have n5:=boxed_below n1 H;have x0:=n5.cell;have x1:=n5.frozen;have Ua:=Z (Jx n5 (x:=E a7 l7 c7) ae);have Qx:=Z ((Bt Qe.o H).setCell (p:=⟨w.heap.size+1+1,0,none⟩) (by show w.heap.size<=w.heap.size+1+1;omega) (E a7 l7 c7));clear ae H n5)
    exact BB (v:=R #[E a7 l7 c7]) (by simp[results,Tryz.results99,go_sem,x0]) rfl ⟨_,rfl,Ua.o,Qx.o⟩
theorem aT{A:Nat}(q:EE A ps)(d:EE A qs)(tq:Jd qs=qs)(q0:qs≠[])(c:1<=A)(L:4*((ps.length+2)*(A+1))<=1000000000):
 Sqs ps/\Sqs qs/\(∀i,i<=ps.length+1-qs.length->Sq (Xb (cf qs (qs.length-1))^i))/\(∀i,Sq (cf ps i*F7 ps qs))/\Sqs (YS ps qs)/\(∀i,DV A (cf qs i))/\
 ∃l:Int,Dvn 1 1 l ((ps.length+2)*A+1) A (YS ps qs) qs:=by
 have H:(ps.length+2)*(A+1)=(ps.length+2)*A+(ps.length+2):=by rw[AO,Fs]
 have N:0<qs.length:=Ai.2 q0;obtain⟨l,p,m⟩:=d (qs.length-1);have t:l≠0:=λe=>by
  have:=Jw tq q0;rw[m,e]at this;exact this rfl
 have r:Xb (cf qs (qs.length-1))=((l.natAbs:Int):Rat):=by
  rw[m];unfold Xb;have a:((l:Rat)<0)↔l<0:=by
   rw[show(0:Rat)=((0:Int):Rat)from rfl];exact Rat.intCast_lt_intCast
  split
  . rename_i h;rw[a]at h;rw[<-Rat.intCast_neg];congr 1;omega
  . rename_i h;rw[a]at h;congr 1;omega
 have n:∀i:Nat,∃z:Int,Sm (i*A+1) z/\Xb (cf qs (qs.length-1))^i=(z:Rat):=λi=>by
  refine⟨(l.natAbs:Int)^i,?_,?_⟩
  . refine Sm.powZ ?_ i;unfold Sm at p ⊢;rwa[AD]
  . rw[r,Rat.intCast_pow]
 have o:∀(k:Nat) (z:Int),Sm k z->k<=1000000000->1<=k->Sq (z:Rat):=λk z B x a=>Sq.of ((LD (D:=1) DL B (by rw[show((1:Int):Rat)=1 from rfl,Rat.mul_one])).smq DL (Sm.one k a)) x;have K:ps.length+1-qs.length<=ps.length:=Y
 have s:∀i:Nat,i<=ps.length->i*A<=(ps.length+2)*A:=λi w=>Am _ Y;have g:EE ((ps.length+2)*A+1) (YS ps qs):=λi=>by
  obtain⟨z,a,b⟩:=q i;obtain⟨y,j,u⟩:=n (ps.length+1-qs.length);refine⟨z*y,(a.mul j).mono ?_,?_⟩
  . have v:(ps.length+1-qs.length+1)*A<=(ps.length+2)*A:=Am _ Y;rw[AE,Ct]at v;omega
  . unfold YS F7;rw[Yh,b,u,Ax]
 have hA9:A<=(ps.length+2)*A:=by
  have:1*A<=(ps.length+2)*A:=Am _ Y
  omega
 refine⟨Sqs.of λi=>Sq.of (q.smq c i) Y,Sqs.of λi=>Sq.of (d.smq c i) Y,λi w=>?_,λi=>?_,Sqs.of λi=>Sq.of (g.smq Y i) Y,d.smq c,l,?_⟩
 . obtain⟨z,a,b⟩:=n i;rw[b];exact o _ z a (by have:=s i Y;omega) Y
 . obtain⟨z,a,b⟩:=g i;have j:cf ps i*F7 ps qs=(z:Rat):=by rw[<-b];unfold YS;rw[Yh]
   rw[j];exact o _ z a Y Y
 . refine⟨DL,Sm.one _ Y,g.cdl,DL,Sm.one _ c,d.cdl,t,p,?_⟩;rw[m,Cs,show((1:Int):Rat)=1 from rfl];grind
theorem aU(tp:Jd ps=ps)(tq:Jd qs=qs)(q0:qs≠[]):(YS ps qs).length=ps.length:=Ye (NA tq q0) tp
theorem aV(A:Nat)(va vb:f)(ps qs:List Rat)(w:F)(ha:Jc w va ps)(hb:Jc w vb qs)(wp:EE A ps)(wq:EE A qs)(tp:Jd ps=ps)(tq:Jd qs=qs)(q0:qs≠[])(hA:1<=A)(ap:4*((ps.length+2)*(A+1))<=1000000000)(hr:Ln A (JZ ps qs)):
 Calls X 57 #[va,vb] w λe w'=>∃u,e=.returned u/\Jc w' u (EJ ps qs)/\Bl w w':=by
 obtain⟨s1,s2,s3,s4,s5,s6,l,ae⟩:=aT wp wq tq q0 hA ap;have b1:(ps.length+2)*(A+1)=(ps.length+2)*A+(ps.length+2):=by rw[AO,Fs]
 obtain⟨m,hm⟩:=ex ((YS ps qs).length-(qs.length-1));have Qk:m<=ps.length:=by rw[aU tp tq q0]at hm;omega
 have b2:m*(A+1)<=ps.length*(A+1):=Am _ Qk;have b3:(ps.length+2)*(A+1)=ps.length*(A+1)+2*(A+1):=AE _ _ _;have Qp:=Z (λ(V:F) (x y:f) (hx:Jc V x (YS ps qs)) (hy:Jc V y qs)=>QS A x y (YS ps qs) qs V hx hy s5 s6 (JP _ _) tq q0 (by
  rw[hm];exact ae.sizes Y))
 have Qe:=(ae.rem hm).1;have Qc:=ae.den m;have Ql:=Z λ(V:F) (x:f) (hx:Jc V x (JZ (YS ps qs) qs))=>ND (1*l^m) ((ps.length+2)*A+1+m*(A+1)+1) x (JZ (YS ps qs) qs) V hx (Y2 _ _) Qc.1 Qc.2 (λi=>(Qe i).mono Y) Y;have Qd:=QP tq q0 hr;have Qh:Sqs (J2 (JZ (YS ps qs) qs)):=Sqs.of λi=>Sq.of (Qd.1.smq hA i) Y;have Qj:Sqs (JE [] (J2 (JZ (YS ps qs) qs))):=Sqs.of λi=>Sq.of (Qd.2.smq hA i) Y;have Qf:=Z λ(V:F) (y:f) (hy:Jc V y (J2 (JZ (YS ps qs) qs)))=>PU _ y [] (J2 (JZ (YS ps qs) qs)) V (QU V) hy (Sqs.of λi=>by rw[Yx];exact Hn) Qh Qj;have Qm:=Z λ(V:F) (x y:f) (hx:Jc V x ps) (hy:Jc V y qs)=>aS x y ps qs V hx hy s1 s2 q0 s3 s4;clear s1 s2 s3 s4 s5 s6 ae b1 hm Qk b2 b3 Qe Qc Qd Qh Qj wp wq tp tq q0 hA ap hr;have Qo:Tryz.prog.follows .mixedOrders=true:=by kernel_rfl
 obtain⟨T,la,U,rfl⟩:=ha.form;obtain⟨P,lb,Q,rfl⟩:=hb.form;have M0:=(((Mem.nil w).push (.cell 25 (E T la U)) (cs:=#[E T la U]) ⟨rfl,rfl⟩).push (.cell 25 (E P lb Q)) (cs:=#[E P lb Q]) ⟨rfl,rfl⟩).push (.cell 25 (E none 0 0)) (cs:=#[E none 0 0]) ⟨rfl,rfl⟩;simp only[BA]at M0;obtain⟨W0,ak⟩:=ex (((w.alloc (G #[E T la U] 25)).alloc (G #[E P lb Q] 25)).alloc (G #[E none 0 0] 25));obtain⟨Qg,HP,HQ⟩:=Dh ak (λ(V:F) (hB:Bl w V)=>ha.below hB) λ(V:F) (hB:Bl w V)=>hb.below hB;have M1:Hid (Mem w W0 [some (w.heap.size,.cell 25 (E T la U)),some (w.heap.size+1,.cell 25 (E P lb Q)),some (w.heap.size+1+1,.cell 25 (E none 0 0))]):=Z (by rw[<-ak];exact M0);clear M0 ak ha hb;go_enter Tryz.func57,Tryz.ntmps57
 go_upto_region 1 with fail
 rw[Qg.o];clear Qg;refine Jn Qo [[],[],[0,1],[],[2,3,2],[4],[5],[5],[5],[],[],[9,6,4,0,1,2,3,4,5,6,9,10],[10,7,11,0,1,2,3,4,5,6,7,9,10,11],[8,12,0,1,2,3,4,5,6,7,8,9,10,11,12]] (by kernel_rfl) DL
  (λD ai V=>∃(tm ta tb tc td tl te tf tg ti tj tk:f) (x9 ad:Option (Nat × Dat)),ai={ tmps:=#[R #[E T la U],R #[E P lb Q],C (some ⟨w.heap.size,0,none⟩),C (some ⟨w.heap.size+1,0,none⟩),C (some ⟨w.heap.size+1+1,0,none⟩),ti,tj,tk,tl,tm,ta,tb,tc,td,te,tf,tg,I,I,I,I],defers:=[] }/\Hid ((D 0=true->tm=R #[E T la U])/\(D 1=true->ta=R #[E P lb Q])/\(D 2=true->Has V tb (.poly (YS ps qs)))/\(D 3=true->tc=R #[E P lb Q])/\(D 4=true->Tup2 V td (.poly (Jt (YS ps qs) qs)) (.poly (JZ (YS ps qs) qs)))/\(D 5=true->Tup2 V tl (.poly (Jt (YS ps qs) qs)) (.poly (JZ (YS ps qs) qs)))/\(D 6=true->Has V te (.poly (Jt (YS ps qs) qs)))/\(D 7=true->Has V tf (.poly (JZ (YS ps qs) qs)))/\(D 8=true->tg=M true)/\((D 9=false->x9=none)/\(D 9=true->D 11=false->∃B:Nat,ti=C (some ⟨B,0,none⟩)/\x9=some (B,.poly []))/\(D 11=true->∃B:Nat,ti=C (some ⟨B,0,none⟩)/\x9=some (B,.poly (Jt (YS ps qs) qs))))/\((D 10=false->ad=none)/\(D 10=true->D 12=false->∃B:Nat,tj=C (some ⟨B,0,none⟩)/\ad=some (B,.poly []))/\(D 12=true->∃B:Nat,tj=C (some ⟨B,0,none⟩)/\ad=some (B,.poly (JZ (YS ps qs) qs))))/\(D 13=true->tk=M true))/\Hid (Mem w V [some (w.heap.size,.cell 25 (E T la U)),some (w.heap.size+1,.cell 25 (E P lb Q)),some (w.heap.size+1+1,.cell 25 (E none 0 0)),x9,ad]))
  ⟨_,_,_,_,_,_,_,_,_,_,_,_,none,none,rfl,Z ⟨O,O,O,O,O,O,O,O,O,O,O,O⟩,Z (((M1.o).none).none).drew⟩ ?step1 ?fin1
 case step1=>
  rintro D ai V i ds aq hi d W ⟨tm,ta,tb,tc,td,tl,te,tf,tg,ti,tj,tk,x9,ad,rfl,b,g⟩;have bc:i<14:=(Af.1 hi).1;obtain rfl|rfl|rfl|rfl|rfl|rfl|rfl|rfl|rfl|rfl|rfl|rfl|rfl|rfl:=FW i Y
  all_goals
   simp only[Aj,Ah,Al]at hi;subst hi
  . have e0:=(g.o.cell (i:=0) rfl).1.cell;clear d;refine Zt ?_;exact⟨_,_,_,_,_,_,_,_,_,_,_,_,_,_,rfl,(Dc b),Z (g.o)⟩
  . have e0:=(g.o.cell (i:=1) rfl).1.cell;clear d;refine Zt ?_;exact⟨_,_,_,_,_,_,_,_,_,_,_,_,_,_,rfl,(Dg b),Z (g.o)⟩
  . obtain rfl:=(b.o.1 (d 0 O));obtain rfl:=(b.o.2.1 (d 1 O));have HC:=Z (Qm.o V _ _ (HP.o V g.o.2.2) (HQ.o V g.o.2.2));clear d;refine Jb rfl rfl λK hK=>?_;go_simp;go_wp2_with(go_at_call 99;refine HC.o.mono ?_;rintro e w5 ⟨v5,rfl,an,j⟩)
    obtain⟨_,_,_,L,N,k,o,q,s⟩:=b.o;exact⟨_,_,_,_,_,_,_,_,_,_,_,_,_,_,rfl,Z ⟨λ_=>rfl,λ_=>rfl,λ_=>an,L,λh=>(N h).below j,λh=>(k h).below j,λh=>(o h).below j,λh=>(q h).below j,s⟩,Z (g.o.below j)⟩
  . have e0:=(g.o.cell (i:=1) rfl).1.cell;clear d;refine Zt ?_;exact⟨_,_,_,_,_,_,_,_,_,_,_,_,_,_,rfl,(Dd b),Z (g.o)⟩
  . have h0:=(b.o.2.2.1 (d 2 O));obtain rfl:=(b.o.2.2.2.1 (d 3 O));have HC:=Z (Qp.o V _ _ h0 (HQ.o V g.o.2.2));clear d h0;refine Jb rfl rfl λK hK=>?_;go_simp;go_wp2_with(go_at_call 22;refine HC.o.mono ?_;rintro e w5 ⟨v5,v6,rfl,an,az,j⟩)
    obtain⟨t,z,H,_,_,k,o,q,s⟩:=b.o;exact⟨_,_,_,_,_,_,_,_,_,_,_,_,_,_,rfl,Z ⟨t,z,λh=>(H h).below j,λ_=>rfl,λ_=>⟨v5,v6,rfl,an,az⟩,λh=>(k h).below j,λh=>(o h).below j,λh=>(q h).below j,s⟩,Z (g.o.below j)⟩
  . have h0:=(b.o.2.2.2.2.1 (d 4 O));clear d;refine Zt ?_;exact⟨_,_,_,_,_,_,_,_,_,_,_,_,_,_,rfl,(Dx b λ_=>h0),Z (g.o)⟩
  . obtain⟨y1,y2,rfl,h1,h2⟩:=((Do b) (d 5 O));clear d;refine Zt ?_;exact⟨_,_,_,_,_,_,_,_,_,_,_,_,_,_,rfl,(D0 b λ_=>h1),Z (g.o)⟩
  . obtain⟨y1,y2,rfl,h1,h2⟩:=((Do b) (d 5 O));clear d;refine Zt ?_;exact⟨_,_,_,_,_,_,_,_,_,_,_,_,_,_,rfl,(EL b λ_=>h2),Z (g.o)⟩
  . obtain⟨y1,y2,rfl,h1,h2⟩:=((Do b) (d 5 O));clear d;refine Zt ?_;exact⟨_,_,_,_,_,_,_,_,_,_,_,_,_,_,rfl,(EM b),Z (g.o)⟩
  . have hf:D 11=false:=DN aq W;obtain rfl:=b.o.2.2.2.2.2.2.2.2.2.1.1 W;clear d;refine Zt ?_;obtain⟨t,z,H,L,N,k,o,q,s,_,af⟩:=b.o;exact⟨_,_,_,_,_,_,_,_,_,_,_,_,_,_,rfl,Z ⟨t,z,λh=>(H h).alloc _,L,λh=>(N h).alloc _,λh=>(k h).alloc _,λh=>(o h).alloc _,λh=>(q h).alloc _,s,⟨λh=>by simp at h,λ_ _=>⟨_,rfl,rfl⟩,λh=>by simp[hf]at h⟩,af⟩,Z (g.o.fill (i:=3) rfl (.poly []) (FT _))⟩
  . have hf:D 12=false:=DN aq W;obtain rfl:=b.o.2.2.2.2.2.2.2.2.2.2.1.1 W;clear d;refine Zt ?_;obtain⟨t,z,H,L,N,k,o,q,s,G9,_,ah⟩:=b.o;exact⟨_,_,_,_,_,_,_,_,_,_,_,_,_,_,rfl,Z ⟨t,z,λh=>(H h).alloc _,L,λh=>(N h).alloc _,λh=>(k h).alloc _,λh=>(o h).alloc _,λh=>(q h).alloc _,s,G9,⟨λh=>by simp at h,λ_ _=>⟨_,rfl,rfl⟩,λh=>by simp[hf]at h⟩,ah⟩,Z (g.o.fill (i:=4) rfl (.poly []) (FT _))⟩
  . obtain⟨B,rfl,rfl⟩:=b.o.2.2.2.2.2.2.2.2.2.1.2.1 (d 9 O) W;have Qb:=d 9 O;have hv:=((D3 b) (d 6 O));obtain⟨a1,l1,c1,rfl⟩:=Jc.form (show Jc V _ _ from hv);obtain⟨a,l,c,n,r⟩:=g.o.poly2 (i:=3) rfl;have e0:=n.cell;have f0:=n.frozen;clear d;refine Zt ?_;obtain⟨t,z,H,L,N,k,o,q,s,_,af⟩:=b.o;exact⟨_,_,_,_,_,_,_,_,_,_,_,_,_,_,rfl,Z ⟨t,z,λh=>(H h).set1 n rfl _,L,λh=>(N h).set1 n rfl _,λh=>(k h).set1 n rfl _,λh=>(o h).set1 n rfl _,λh=>(q h).set1 n rfl _,s,⟨λh=>by simp[Qb]at h,λ_ h=>by simp at h,λ_=>⟨B,rfl,rfl⟩⟩,af⟩,Z (g.o.putPoly (i:=3) rfl hv)⟩
  . obtain⟨B,rfl,rfl⟩:=b.o.2.2.2.2.2.2.2.2.2.2.1.2.1 (d 10 O) W;have Qb:=d 10 O;have hv:=((EF b) (d 7 O));obtain⟨a1,l1,c1,rfl⟩:=Jc.form (show Jc V _ _ from hv);obtain⟨a,l,c,n,r⟩:=g.o.poly2 (i:=4) rfl;have e0:=n.cell;have f0:=n.frozen;clear d;refine Zt ?_;obtain⟨t,z,H,L,N,k,o,q,s,G9,_,ah⟩:=b.o;exact⟨_,_,_,_,_,_,_,_,_,_,_,_,_,_,rfl,Z ⟨t,z,λh=>(H h).set1 n rfl _,L,λh=>(N h).set1 n rfl _,λh=>(k h).set1 n rfl _,λh=>(o h).set1 n rfl _,λh=>(q h).set1 n rfl _,s,G9,⟨λh=>by simp[Qb]at h,λ_ h=>by simp at h,λ_=>⟨B,rfl,rfl⟩⟩,ah⟩,Z (g.o.putPoly (i:=4) rfl hv)⟩
  . obtain rfl:=((ER b) (d 8 O));clear d;refine Zt ?_;exact⟨_,_,_,_,_,_,_,_,_,_,_,_,_,_,rfl,(Hc (EM b)),Z (g.o)⟩
 rintro D ai V2 S ⟨tm,ta,tb,tc,td,tl,te,tf,tg,ti,tj,tk,x9,ad,rfl,b,g⟩;obtain⟨B3,rfl,rfl⟩:=b.o.2.2.2.2.2.2.2.2.2.1.2.2 (S 11 DL);obtain⟨B4,rfl,rfl⟩:=b.o.2.2.2.2.2.2.2.2.2.2.1.2.2 (S 12 DL);obtain rfl:=b.o.1 (S 0 DL);obtain rfl:=b.o.2.1 (S 1 DL);obtain rfl:=b.o.2.2.2.1 (S 3 DL);obtain rfl:=ER b (S 8 DL);obtain rfl:=b.o.2.2.2.2.2.2.2.2.2.2.2 (S 13 DL);clear b S M1;have M2:Hid (Mem w V2 [some (w.heap.size,.cell 25 (E T la U)),some (w.heap.size+1,.cell 25 (E P lb Q)),some (w.heap.size+1+1,.cell 25 (E none 0 0)),some (B3,.poly (Jt (YS ps qs) qs)),some (B4,.poly (JZ (YS ps qs) qs))]):=g;clear g;obtain⟨a5,l5,c5,n5,r5⟩:=M2.o.poly2 (i:=4) rfl;have ba:=n5.cell;have n1:=(M2.o.cell (i:=2) rfl).1;have Qi:=Z M2.o.2.2;have H1:=Z (Ql.o V2 _ r5);clear Ql;go_wp2_with(first
  |(go_at_call 56;refine H1.o.mono ?_;clear H1;rintro e w4 ⟨u4,rfl,ay,av⟩)
  |(go_at_call 48;refine(Qf.o _ _ ay).mono ?_;clear Qf;rintro e w5 ⟨u5,rfl,am,_,aw⟩;have j:=Bt av aw;obtain⟨a7,l7,c7,rfl⟩:=am.form;have n5:=boxed_below n1 j;have x0:=n5.cell;have x1:=n5.frozen;have Qq:=Z (Jx n5 (x:=E a7 l7 c7) am);have Qn:=Z ((Bt Qi.o j).setCell (p:=⟨w.heap.size+1+1,0,none⟩) (by show w.heap.size<=w.heap.size+1+1;omega) (E a7 l7 c7));clear am j n5))
 exact BB (v:=R #[E a7 l7 c7]) (by simp[results,Tryz.results57,go_sem,x0]) rfl ⟨_,rfl,Qq.o,Qn.o⟩
def F8(b:Bool)(V:F)(t:f)(c:Rat):Prop:=∃u,t=.tuple #[u,M true]/\(b=false->Jj V u c)
theorem F8.of(h:IQ V t c):F8 b V t c:=by
 obtain⟨u,e,h⟩:=h;exact⟨u,e,λ_=>h⟩
theorem F8.below{b:Bool}{V V':F}{t:f}{c:Rat}(h:F8 b V t c)(a:Bl V V'):F8 b V' t c:=by
 obtain⟨u,e,h⟩:=h;exact⟨u,e,λe=>(h e).below a⟩
theorem F8.any{a:Bool}{V':F}(h:F8 b V t c)(d:a=true):F8 a V' t c:=by
 obtain⟨u,e,h⟩:=h;exact⟨u,e,λe=>by rw[d]at e;cases e⟩
theorem QW(v:f)(ps:List Rat)(w:F)(h:Jc w v ps)(av:Sqs ps)(ay:Jd ps=ps)(aw:∀i,Sq (cf ps i/cf ps (ps.length-1))):
 Calls X 26 #[v] w λe w'=>∃u,e=.returned u/\Jc w' u (Jp ps)/\Bl w w':=by
 have Qq:Tryz.prog.follows .mixedOrders=true:=by kernel_rfl
 obtain⟨l,la,o,rfl⟩:=h.form;obtain⟨bc,az,ba,bf,_⟩:=h.row.forms;have M0:=(((Mem.nil w).push (.cell 25 (E l la o)) (cs:=#[E l la o]) ⟨rfl,rfl⟩).push (.cell 25 (E none 0 0)) (cs:=#[E none 0 0]) ⟨rfl,rfl⟩);simp only[BA]at M0;obtain⟨V0,af⟩:=ex ((w.alloc (G #[E l la o] 25)).alloc (G #[E none 0 0] 25));have M1:Mem w V0 [some (w.heap.size,.cell 25 (E l la o)),some (w.heap.size+1,.cell 25 (E none 0 0))]:=by rw[<-af];exact M0
 have Qh:=Z M1;obtain⟨n,hn⟩:=ex (ps.length:Nat);obtain⟨e0,aq⟩:=ex ((n:Int)-1:Int);have Qg:=Z (Ya (R #[E l la o]) ps V0 (h.below M1.2.2));rw[hn,aq]at Qg;have bg:e0+1=(n:Int):=Y
 have bh:IntKind.i64.wrap (n:Int)=(n:Int):=by rw[BZ];omega
 have Qs:∀W:F,(Instr.makeSlice 22 (.int .i64 (n:Int)) (.int .i64 (n:Int))).run X W=.ok (E (some ⟨W.heap.size,0,none⟩) n n) (W.alloc (G (J4 n) 65)):=λW=>QT n Y W;obtain⟨HP,Qi,Qn,HN⟩:=EA (λ(V:F) (hB:Bl w V)=>h.below hB) av aw (show ps.length=n from hn);have Qd:n<=1099511627776:=Y
 have Ql:=Z af;have Qw:=Z ay;clear h av aw bc az ba hn aq M0 M1 af bf ay;go_enter Tryz.func26,Tryz.ntmps26
 go_upto_region 1 with fail
 rw[Ql.o];have c0:=(Qh.o.cell (i:=0) rfl).1.cell;go_upto_region 2 with(go_at_call 20;refine Qg.o.mono ?_;clear Qg;rintro e w1 ⟨rfl,ap⟩)
 have Qe:Mem w (w1.alloc (G (J4 n) 65)) [some (w.heap.size,.cell 25 (E l la o)),some (w.heap.size+1,.cell 25 (E none 0 0)),some (w1.heap.size,.rats (List.replicate n 0))]:=(Qh.o.below ap).push (.rats (List.replicate n 0)) (I4 _ n);obtain⟨V1,ah⟩:=ex (w1.alloc (G (J4 n) 65));obtain⟨B,ai⟩:=ex (w1.heap.size);rw[ah,ai]at Qe;rw[ah,ai];have Qk:=Z Qe;clear Qe ah ai ap c0 Qh Ql Qs;go_wp2;go_loopw [11] (λiv wr=>∃(i:Nat) (S:List Rat),i<=n/\iv=.int .i64 (i:Int)/\Hid (Hs (λj=>cf ps j/cf ps (ps.length-1)) n i S)/\Hid (Mem w wr [some (w.heap.size,.cell 25 (E l la o)),some (w.heap.size+1,.cell 25 (E none 0 0)),some (B,.rats S)])) λiv _=>n-(intOf iv).toNat
 case atStart=>exact⟨0,_,AK _,rfl,Z ⟨Au,λj=>by rw[JS,BH Y]⟩,Qk⟩
 case round=>
  obtain⟨i,S,hi,rfl,U,HM⟩:=hrel;clear Qk;by_cases ak:i<n
  . have bj:(i:Int)<(n:Int):=Y
    have Qm:=Z (show i<S.length by rw[U.o.1];exact ak);have Qj:=Z (show i<ps.length by rw[HN.o];exact ak);go_wp2_with fail
    have Qo:=HM.o.drew;obtain⟨m,hm⟩:=ex (ps.length-1:Nat);obtain⟨Qv,Qr,Qt⟩:=Dh (show(ps.length:Int)-1=(m:Int)by have:=Qj.o;omega) hm (show decide (cf ps m≠0)=true by rw[<-hm];exact BM (Jw Qw.o λe=>by have:=Qj.o;rw[e]at this;simp at this));clear hm;refine Jn Qq [[],[],[],[],[2,3],[],[],[6,4],[5,7,7],[4,8,8],[9],[10],[10],[0,1,0,1,2,3,4,5,6,7,8,9,10,11],[13,11,9,0,1,2,3,4,5,6,7,8,9,10,11]] (by kernel_rfl) DL
     (λD ae V=>∃(tb tc td te tf tg ti tj tk tl ta tm tn tp:f),ae={ tmps:=#[R #[E l la o],C (some ⟨w.heap.size,0,none⟩),C (some ⟨w.heap.size+1,0,none⟩),E (some ⟨B,0,none⟩) n n,.int .i64 ↑i,R #[E l la o],.int .i64 e0,.int .i64 ↑n,E (some ⟨B,0,none⟩) n n,E (some ⟨B,0,none⟩) n n,.int .i64 ↑n,.int .i64 ↑i,M true,.int .i64 ↑i,ta,tb,tc,td,te,tf,tg,ti,tj,tk,tl,tm,tn,tp,u28,I,I],defers:=[] }/\Hid ((D 0=true->tb=E (some ⟨B,0,none⟩) n n)/\(D 1=true->tc=.int .i64 (i:Int))/\(D 2=true->td=R #[E l la o])/\(D 3=true->te=.int .i64 (i:Int))/\(D 4=true->D 14=false->Jj V tf (cf ps i))/\(D 5=true->tg=R #[E l la o])/\(D 6=true->ti=R #[E l la o])/\(D 7=true->tj=.int .i64 (m:Int))/\(D 8=true->D 14=false->Jj V tk (cf ps m))/\(D 9=true->D 14=false->IQ V tl (cf ps i/cf ps m))/\(D 10=true->F8 (D 14) V ta (cf ps i/cf ps m))/\(D 11=true->D 14=false->Jj V tm (cf ps i/cf ps m))/\(D 12=true->tn=M true)/\(D 13=true->tp=C (some ⟨B,i*4,none⟩)))/\Hid ((D 14=false->Mem w V [some (w.heap.size,.cell 25 (E l la o)),some (w.heap.size+1,.cell 25 (E none 0 0)),some (B,.rats S)])/\(D 14=true->Mem w V [some (w.heap.size,.cell 25 (E l la o)),some (w.heap.size+1,.cell 25 (E none 0 0)),some (B,.rats (S.set i (cf ps i/cf ps m)))])))
     (E8 ⟨_,_,_,_,_,_,rfl,Z O,Z ⟨λ_=>Qo,O⟩⟩) ?step1 ?fin1
    case step1=>
     rintro D ae V i ds A hi c s ⟨tb,tc,td,te,tf,tg,ti,tj,tk,tl,ta,tm,tn,tp,rfl,b,d⟩;have bi:i<15:=(Af.1 hi).1;obtain rfl|rfl|rfl|rfl|rfl|rfl|rfl|rfl|rfl|rfl|rfl|rfl|rfl|rfl|rfl:=Gv i Y
     all_goals
      simp only[Aj,Ah,Al]at hi;subst hi
     . clear c;refine DT ?_;exact⟨(Dc b),d⟩
     . clear c;refine DT ?_;exact⟨(Dg b),d⟩
     . have k:=d.o.1 (DN A s);have e0:=(k.cell (i:=0) rfl).1.cell;clear c;refine DT ?_;exact⟨(DZ b),d⟩
     . clear c;refine DT ?_;exact⟨(Dd b),d⟩
     . have k:=d.o.1 (DN A s);obtain rfl:=b.o.2.2.1 (c 2 O);obtain rfl:=b.o.2.2.2.1 (c 3 O);clear c;have q:=Z (II _ ps (i:Int) V (HP.o V k.2.2));rw[IY]at q;refine Jb rfl rfl λK hK=>?_;go_simp;go_wp2_with(go_at_call 58;refine q.o.mono ?_;rintro e w5 ⟨v5,rfl,ad,a⟩)
       obtain⟨t,x,_,_,_,P,Q,G7,G8,G9,y,H,z⟩:=b.o;exact E8 ⟨_,_,_,_,_,_,rfl,Z ⟨t,x,λ_=>rfl,λ_=>rfl,λ_ _=>ad,P,Q,G7,λh g=>(G8 h g).below a,λh g=>(G9 h g).below a,λh=>(y h).below a,λh g=>(H h g).below a,z⟩,Z ⟨λh=>(d.o.1 h).below a,λh=>(d.o.2 h).below a⟩⟩
     . have k:=d.o.1 (DN A s);have e0:=(k.cell (i:=0) rfl).1.cell;clear c;refine DT ?_;exact⟨(Dx b),d⟩
     . have k:=d.o.1 (DN A s);have e0:=(k.cell (i:=0) rfl).1.cell;clear c;refine DT ?_;exact⟨(D0 b),d⟩
     . have k:=d.o.1 (DN A s);obtain rfl:=D3 b (c 6 O);clear c;have q:=Z (Ya _ ps V (HP.o V k.2.2));rw[Qv.o]at q;refine Jb rfl rfl λK hK=>?_;go_simp;go_wp2_with(go_at_call 20;refine q.o.mono ?_;rintro e w5 ⟨rfl,a⟩)
       obtain⟨t,x,L,N,G4,P,_,_,G8,G9,y,H,z⟩:=b.o;exact E8 ⟨_,_,_,_,_,_,rfl,Z ⟨t,x,L,N,λh g=>(G4 h g).below a,P,λ_=>rfl,λ_=>rfl,λh g=>(G8 h g).below a,λh g=>(G9 h g).below a,λh=>(y h).below a,λh g=>(H h g).below a,z⟩,Z ⟨λh=>(d.o.1 h).below a,λh=>(d.o.2 h).below a⟩⟩
     . have k:=d.o.1 (DN A s);obtain rfl:=Do b (c 5 O);obtain rfl:=EF b (c 7 O);clear c;have q:=Z (II _ ps (m:Int) V (HP.o V k.2.2));rw[IY]at q;refine Jb rfl rfl λK hK=>?_;go_simp;go_wp2_with(go_at_call 58;refine q.o.mono ?_;rintro e w5 ⟨v5,rfl,ad,a⟩)
       obtain⟨t,x,L,N,G4,_,Q,_,_,G9,y,H,z⟩:=b.o;exact E8 ⟨_,_,_,_,_,_,rfl,Z ⟨t,x,L,N,λh g=>(G4 h g).below a,λ_=>rfl,Q,λ_=>rfl,λ_ _=>ad,λh g=>(G9 h g).below a,λh=>(y h).below a,λh g=>(H h g).below a,z⟩,Z ⟨λh=>(d.o.1 h).below a,λh=>(d.o.2 h).below a⟩⟩
     . have Qa:D 14=false:=DN A s;have r:=b.o.2.2.2.2.1 (c 4 O) Qa;have h1:=ER b (c 8 O) Qa;clear c;have q:=Z (PM _ _ (cf ps i) (cf ps m) V r h1 (Qi.o.at i) (Qi.o.at m));rw[Qt.o]at q;clear r h1;refine Jb rfl rfl λK hK=>?_;go_simp;go_wp2_with(go_at_call 50;refine q.o.mono ?_;rintro e w5 ⟨v5,rfl,ad,a⟩)
       obtain⟨t,x,L,N,G4,P,Q,G7,G8,_,y,H,z⟩:=b.o;exact E8 ⟨_,_,_,_,_,_,rfl,Z ⟨t,x,L,N,λh g=>(G4 h g).below a,P,Q,G7,λh g=>(G8 h g).below a,λ_ _=>⟨v5,rfl,ad⟩,λh=>(y h).below a,λh g=>(H h g).below a,z⟩,Z ⟨λh=>(d.o.1 h).below a,λh=>(d.o.2 h).below a⟩⟩
     . have Qa:D 14=false:=DN A s;have r:=FP b (c 9 O) Qa;clear c;refine DT ?_;exact⟨(Du b λ_=>F8.of r),d⟩
     . have Qa:D 14=false:=DN A s;have r:=EB b (c 10 O);obtain⟨v7,rfl,h7⟩:=r;clear c;refine DT ?_;exact⟨(Dy b λ_ _=>h7 Qa),d⟩
     . have r:=EB b (c 10 O);obtain⟨v7,rfl,h7⟩:=r;clear c;refine DT ?_;exact⟨(D4 b),d⟩
     . obtain rfl:=b.o.1 (c 0 O);obtain rfl:=b.o.2.1 (c 1 O);clear c;refine DT ?_;exact⟨(Io (Dg (Dc b))),d⟩
     . have k:=d.o.1 s;have r:=EW b (c 11 O) s;obtain rfl:=b.o.2.2.2.2.2.2.2.2.2.2.2.2.2 (c 13 O);have hE:=k.rats (i:=2) rfl;obtain⟨xa,xb,xc,xd,e0,e1,e2,e3,_⟩:=hE.at Qm.o;have f0:=hE.frozen (i*4);have f1:=hE.frozen (i*4+1);have f2:=hE.frozen (i*4+2);have f3:=hE.frozen (i*4+3);obtain⟨s9,a9,l9,c9,t9,b9,k9,d9,rfl⟩:=Jj.form r;clear c;refine DT ?_;obtain⟨t,x,L,N,_,P,Q,G7,_,_,y,_,z,_⟩:=b.o;exact⟨Z ⟨t,x,L,N,λ_ h=>by simp at h,P,Q,G7,λ_ h=>by simp at h,λ_ h=>by simp at h,λh=>F8.any (y h) O,λ_ h=>by simp at h,z,λ_=>rfl⟩,Z ⟨λh=>by simp at h,λ_=>k.putRats (i:=2) rfl Qm.o r⟩⟩
    case fin1=>
     rintro D ae V an ⟨tb,tc,td,te,tf,tg,ti,tj,tk,tl,ta,tm,tn,tp,rfl,b,d⟩;have HO:=Z (d.o.2 (an 14 DL));clear b d an;rw[<-Qr.o]at HO;go_wp2_with fail
     go_roundw
     case rel=>exact⟨i+1,_,Y,by go_num,Z (U.o.next ak),HO⟩
     case measure=>simp[intOf];omega
  . obtain rfl:i=n:=Y
    have hE:=HM.o.rats (i:=2) rfl;have Qc:=hE.row (n:=i) (cap:=i) (by rw[U.o.1];exact Aa _) (Aa _) Y Qd;rw[Ag (by rw[U.o.1];exact Aa _)]at Qc;have Qf:=Z (Pe _ S wr Qc (Sqs.of λj=>by
     rw[U.o.2 j];split
     . exact Qn.o j
     . exact Hn))
    rw[U.o.done (T:=Jp ps) (JP _ _) (λj hj=>by unfold Jp;rw[Yh,Ft,FM,<-Ft]) λj hj=>by unfold Jp;rw[Yh,J6 (by rw[HN.o];exact hj),Cy]]at Qf;clear hE Qc;go_wp2_with(go_at_call 59;refine Qf.o.mono ?_;clear Qf;rintro e w5 ⟨u5,rfl,am,_,a⟩;obtain⟨a7,l7,c7,rfl⟩:=am.form;have n5:=boxed_below (HM.o.cell (i:=1) rfl).1 a;have x0:=n5.cell;have x1:=n5.frozen;have Qu:=Z (EY n5 (E a7 l7 c7) am.row);have Qp:=Z ((Bt HM.o.2.2 a).setCell (p:=⟨w.heap.size+1,0,none⟩) (by show w.heap.size<=w.heap.size+1;omega) (E a7 l7 c7));clear am a n5)
    exact BB (v:=R #[E a7 l7 c7]) (by simp[results,Tryz.results26,go_sem,x0]) rfl ⟨_,rfl,⟨_,rfl,Qu.o⟩,Qp.o⟩
end M3
section
def GH:Nat->List Rat->List Rat->List (List Rat)
 |0,a,_=>[a]
 |n+1,a,b=>if b=[]then [a]else a::GH n b (EJ a b)
theorem aW:∀(n m:Nat) (a b:List Rat),Jd b=b->b.length<=n->b.length<=m->GH n a b=GH m a b:=by
 intro n;induction n with
 |zero=>
  intro m a b _ h _;have d:b=[]:=K6 Y;subst d;cases m with
  |zero=>rfl
  |succ m=>simp[GH]
 |succ n e=>
  intro m a b tb h g;by_cases c:b=[]
  . subst c;cases m with
    |zero=>simp[GH]
    |succ m=>simp[GH]
  . have hl:0<b.length:=Ai.2 c;cases m with
    |zero=>omega
    |succ m=>
     have i:=LF (a:=a) tb c;simp only[GH,BH c];rw[e m b (EJ a b) (LE _ _) Y Y]
def Gq(a b:List Rat):List (List Rat):=GH b.length a b
theorem aX{a b:List Rat}(tb:Jd b=b)(c:b≠[]):Gq a b=a::Gq b (EJ a b):=by
 have e:=LF (a:=a) tb c;have hl:0<b.length:=Ai.2 c;unfold Gq;obtain⟨n,d⟩:∃n,b.length=n+1:=⟨b.length-1,Y⟩;rw[d,GH,BH c];congr 1;exact aW _ _ _ _ (LE _ _) Y (Aa _)
def GZ(p q:List Rat):List (List Rat):=Gq (J2 p) (J2 q)
open Go.RowKit Go.Shelf
theorem Jc.setB{V:F}{v:f}{ps:List Rat}(h:Jc V v ps){B:Nat}{a:Option Addr}{l c:Nat}(b:Boxed V B 25 (E a l c)){u:f}:Jc (V.setCell ⟨B,0,none⟩ u) v ps:=M3.Jx b h
end
namespace M3
open Go.RowKit Go.Shelf
attribute [local go_sem] Oper.semAt_some
def De(V:F)(B:Nat)(a:Option Addr)(l c:Nat):Prop:=Boxed V B 25 (E a l c)
section
variable {V V':World} {B B':Nat} {a a':Option Addr} {l c l' c':Nat}
theorem De.cell(h:De V B a l c):V.cell? ⟨B,0,none⟩=some (E a l c):=Boxed.cell h
theorem De.frozen(h:De V B a l c):V.frozen? ⟨B,0,none⟩=false:=Boxed.frozen h
theorem De.below(h:De V B a l c)(b:Bl V V'):De V' B a l c:=boxed_below h b
theorem De.far(h:De V B a l c)(b:B≠B'){u:f}:De (V.setCell ⟨B',0,none⟩ u) B a l c:=Bx.far (cs:=#[E a l c]) h (p:=⟨B',0,none⟩) b u
theorem De.put(h:De V B a l c):De (V.setCell ⟨B,0,none⟩ (E a' l' c')) B a' l' c':=(show Boxed V B 25 (E a l c)from h).set _
end
def GB(G:List (List Rat)->F->Prop):Prop:=∀H W W',G H W->Bl W W'->G H W'
def LG(B4 B5:Nat)(G:List (List Rat)->F->Prop):Prop:=∀H W B a l c u,B=B4\/B=B5->De W B a l c->G H W->G H (W.setCell ⟨B,0,none⟩ u)
def F9(B4 B5:Nat)(G:List (List Rat)->F->Prop)(H:List (List Rat))(V:F)(v4 v5:f)(p q:List Rat):Prop:=(GB G/\LG B4 B5 G)/\G H V/\Jc V v4 p/\Jc V v5 q
section
variable {B4 B5:Nat} {G:List (List Rat)->World->Prop} {H:List (List Rat)} {V V':World} {v4 v5:Value} {p q:List Rat}
theorem F9.below(h:F9 B4 B5 G H V v4 v5 p q)(a:Bl V V'):F9 B4 B5 G H V' v4 v5 p q:=⟨h.1,h.1.1 _ _ _ h.2.1 a,h.2.2.1.below a,h.2.2.2.below a⟩
theorem F9.put(h:F9 B4 B5 G H V v4 v5 p q){B:Nat}(d:B=B4\/B=B5){a:Option Addr}{l c:Nat}(b:De V B a l c){u:f}:F9 B4 B5 G H (V.setCell ⟨B,0,none⟩ u) v4 v5 p q:=⟨h.1,h.1.2 _ _ _ _ _ _ _ d b h.2.1,h.2.2.1.setB b,h.2.2.2.setB b⟩
end
def LH(V:F)(B:Nat)(r:List Rat):Prop:=∃a l c,De V B a l c/\Jc V (R #[E a l c]) r
theorem LH.below{V V':F}{B:Nat}{r:List Rat}(h:LH V B r)(b:Bl V V'):LH V' B r:=by
 obtain⟨a,l,c,d,e⟩:=h;exact⟨a,l,c,d.below b,e.below b⟩
def KA(V:F)(B:Nat):Nat:=match V.cell? ⟨B,0,none⟩with|some (E _ l _)=>l|_=>0
variable{p q:List Rat}{K c l:Nat}{a:Option Addr}{V:F}
theorem De.len{B:Nat}(h:De V B a l c):KA V B=l:=by
 unfold KA;rw[h.cell]
theorem QX{ps:List Rat}(h:Jc V (R #[E a l c]) ps):l=ps.length:=h.row.forms.1
theorem aY(a b:List Rat):∃t,Gq a b=a::t:=by
 unfold Gq;cases b.length with
 |zero=>exact⟨_,rfl⟩
 |succ n=>
  rw[GH];split
  . exact⟨_,rfl⟩
  . exact⟨_,rfl⟩
def aZ(B4 B5 n l:Nat)(C:List (List Rat))(G:List (List Rat)->F->Prop):Prop:=∀H W a b c4 c d c5 p q,H++[p] <+: C->B4<W.heap.size->B5<W.heap.size->G H W->De W B4 a b c4->De W B5 c d c5->Jc W (R #[E a b c4]) p->Jc W (R #[E c d c5]) q->
 YieldAt Fence.wide (n-1) X l #[R #[E a b c4]] W λe W'=>e=.returned (M true)/\G (H++[p]) W'/\De W' B4 a b c4/\De W' B5 c d c5/\Jc W' (R #[E a b c4]) p/\Jc W' (R #[E c d c5]) q
structure ChOk(K:Nat)(p q:List Rat):Prop where
 tp:Jd p=p
 tq:Jd q=q
 cp:∃D:Int,D≠0/\Sm K D/\D6 D K p
 cq:∃D:Int,D≠0/\Sm K D/\D6 D K q
 le:4*((max p.length q.length+2)*(Di K p q+1))<=1000000000
 ln:max p.length q.length<=1000
theorem ChOk.lp(h:ChOk K p q):Ln K p:=by obtain⟨D,a,_,b⟩:=h.cp;exact b.ln a
theorem ChOk.lq(h:ChOk K p q):Ln K q:=by obtain⟨D,a,_,b⟩:=h.cq;exact b.ln a
theorem ChOk.bd(h:ChOk K p q):Di K p q<=1000000000/\K<=1000000000/\p.length+q.length<=1000000000/\1<=Di K p q:=by
 have a:=h.le;have b:=I8 K p q;have c:1*(Di K p q+1)<=(max p.length q.length+2)*(Di K p q+1):=Am _ Y;have d:(max p.length q.length+2)*1<=(max p.length q.length+2)*(Di K p q+1):=As _ Y;omega
theorem ar(K n:Nat)(hn:1<=n)(Bp Bq:Nat)(pa qa:Option Addr)(pl pc ql qc:Nat)(p q:List Rat)(s:ChOk K p q)(l:Nat)(Gf:Nat->Nat->List (List Rat)->F->Prop)(w:F)(az:De w Bp pa pl pc)(ba:De w Bq qa ql qc)(ip:Jc w (R #[E pa pl pc]) p)(iq:Jc w (R #[E qa ql qc]) q)
(av:∀B4 B5,GB (Gf B4 B5))(aw:∀B4 B5,w.heap.size<=B4->w.heap.size<=B5->LG B4 B5 (Gf B4 B5))(hY:∀B4 B5,w.heap.size<=B4->w.heap.size<=B5->aZ B4 B5 n l (GZ p q) (Gf B4 B5))(h0:∀B4 B5 V,w.heap.size<=B4->w.heap.size<=B5->Bl w V->Gf B4 B5 [] V):
 CallsIn Fence.wide n X 55 (#[.func (.yield l) #[] #[]]++#[C (some ⟨Bp,0,none⟩),C (some ⟨Bq,0,none⟩)]) w λe W'=>(∃v,e=.returned v)/\∃B4 B5 H a,(w.heap.size<=B4/\w.heap.size<=B5)/\Gf B4 B5 (H++[a]) W'/\GZ p q=H++[a]/\Chn p q (Di K p q) a []:=by
 have Qq:Tryz.prog.follows .mixedOrders=true:=by kernel_rfl
 have Qy:=Z λ(V:F) (hB:Bl w V)=>(az.below hB).cell;have Qp:=Z λ(V:F) (hB:Bl w V)=>(ba.below hB).cell;have Qw:=Z (λ(V:F) (hB:Bl w V)=>show Calls X 56 #[R #[E pa pl pc]] V λe w'=>∃u,e=.returned u/\Jc w' u (J2 p)/\Bl V w' by
  obtain⟨D,h1,h2,h3⟩:=s.cp;exact ND D K _ p V (ip.below hB) s.tp h1 h2 h3 s.bd.2.1)
 have Qo:=Z (λ(V:F) (hB:Bl w V)=>show Calls X 56 #[R #[E qa ql qc]] V λe w'=>∃u,e=.returned u/\Jc w' u (J2 q)/\Bl V w' by
  obtain⟨D,h1,h2,h3⟩:=s.cq;exact ND D K _ q V (iq.below hB) s.tq h1 h2 h3 s.bd.2.1)
 obtain⟨Qx,Qz,Ua⟩:=Dh h0 (Chn.start s.tp s.tq s.lp s.lq s.bd.2.2.1) λ(a b:List Rat) (h:Chn p q (Di K p q) a b) (hb:b≠[])=>Chn.next s.tp s.tq s.lp s.lq s.bd.2.2.1 h hb;have Uj:=Z (λ(V:F) (x y:f) (a b:List Rat) (hx:Jc V x a) (hy:Jc V y b) (h:Chn p q (Di K p q) a b) (hb:b≠[])=>aV (Di K p q) x y a b V hx hy h.wa h.wb h.ta h.tb hb s.bd.2.2.2 (by
  have h1:=h.la;have h2:(a.length+2)*(Di K p q+1)<=(max p.length q.length+2)*(Di K p q+1):=Am _ Y;have h3:=s.le;omega) (h.nx hb))
 have Qu:=Z (show ∀B4 B5,w.heap.size<=B4->w.heap.size<=B5->GB (Gf B4 B5)/\LG B4 B5 (Gf B4 B5)from λB4 B5 h4 h5=>⟨av B4 B5,aw B4 B5 h4 h5⟩);have Qr:=Z hY;have M1:Hid (Mem w w []):=Z (Mem.nil w);clear s az ba ip iq av aw hY h0;refine Bs Tryz.func55 rfl trivial ?_ rfl;simp only[Tryz.ntmps55,Ar,Ao,AG,Nat.reduceAdd,Nat.reduceSub,AA,AB,AR,AJ,At,AF];gi_wp2_with fail
 refine J1 Qq [[],[0],[],[2,1],[],[],[4,1,3,0,1,4,5],[5,3,6,0,1,2,3,4,5,6]] (by kernel_rfl) DL
  (λD ah V=>∃(tj tk tl tm tg ti:f) (L j:Option (Nat × Dat)),ah={ tmps:=#[.func (Fn.yield l) #[] #[],C (some ⟨Bp,0,none⟩),C (some ⟨Bq,0,none⟩),I,tg,ti,tj,tk,tl,tm,I,I,I,I,I,I,I,I,I,I,I,I],defers:=[] }/\Hid ((D 0=true->tj=R #[E pa pl pc])/\(D 1=true->Has V tk (.poly (J2 p)))/\(D 2=true->tl=R #[E qa ql qc])/\(D 3=true->Has V tm (.poly (J2 q)))/\((D 4=false->L=none)/\(D 4=true->D 6=false->∃B:Nat,tg=C (some ⟨B,0,none⟩)/\L=some (B,.poly []))/\(D 6=true->∃B:Nat,tg=C (some ⟨B,0,none⟩)/\L=some (B,.poly (J2 p))))/\((D 5=false->j=none)/\(D 5=true->D 7=false->∃B:Nat,ti=C (some ⟨B,0,none⟩)/\j=some (B,.poly []))/\(D 7=true->∃B:Nat,ti=C (some ⟨B,0,none⟩)/\j=some (B,.poly (J2 q)))))/\Hid (Mem w V [L,j]))
  ⟨_,_,_,_,_,_,none,none,rfl,Z ⟨O,O,O,O,O,O⟩,Z (((M1.o).none).none).drew⟩ ?step1 ?fin1
 case step1=>
  rintro D ah V i ds S hi g o ⟨tj,tk,tl,tm,tg,ti,L,j,rfl,d,A⟩;have Ug:i<8:=(Af.1 hi).1;obtain rfl|rfl|rfl|rfl|rfl|rfl|rfl|rfl:=KL i Y
  all_goals
   simp only[Aj,Ah,Al]at hi;subst hi
  . have e0:=Qy.o V A.o.2.2;clear g;refine Zu ?_;exact⟨_,_,_,_,_,_,_,_,rfl,(Dc d),Z (A.o)⟩
  . obtain rfl:=(d.o.1 (g 0 O));have U:=Z λ(n9:Nat)=>(BG (n:=n9)).2 (Qw.o V A.o.2.2);clear g;refine BO rfl λK hK=>?_;go_simp;gi_wp2_with(refine⟨trivial,?_⟩;gi_at_call 56;refine(U.o _).mono ?_;rintro e w5 ⟨v5,rfl,ak,ad⟩)
    obtain⟨_,_,G2,G3,G4⟩:=d.o;exact⟨_,_,_,_,_,_,_,_,rfl,Z ⟨λ_=>rfl,λ_=>ak,G2,λh=>(G3 h).below ad,G4⟩,Z (A.o.below ad)⟩
  . have e0:=Qp.o V A.o.2.2;clear g;refine Zu ?_;exact⟨_,_,_,_,_,_,_,_,rfl,(DZ d),Z (A.o)⟩
  . obtain rfl:=(d.o.2.2.1 (g 2 O));have U:=Z λ(n9:Nat)=>(BG (n:=n9)).2 (Qo.o V A.o.2.2);clear g;refine BO rfl λK hK=>?_;go_simp;gi_wp2_with(refine⟨trivial,?_⟩;gi_at_call 56;refine(U.o _).mono ?_;rintro e w5 ⟨v5,rfl,ak,ad⟩)
    obtain⟨G0,G1,_,_,G4⟩:=d.o;exact⟨_,_,_,_,_,_,_,_,rfl,Z ⟨G0,λh=>(G1 h).below ad,λ_=>rfl,λ_=>ak,G4⟩,Z (A.o.below ad)⟩
  . have hf:D 6=false:=DN S o;obtain rfl:=d.o.2.2.2.2.1.1 o;clear g;refine Zu ?_;obtain⟨G0,G1,G2,G3,_,G5⟩:=d.o;exact⟨_,_,_,_,_,_,_,_,rfl,Z ⟨G0,λh=>(G1 h).alloc _,G2,λh=>(G3 h).alloc _,⟨λh=>by simp at h,λ_ _=>⟨_,rfl,rfl⟩,λh=>by simp[hf]at h⟩,G5⟩,Z (A.o.fill (i:=0) rfl (.poly []) (FT _))⟩
  . have hf:D 7=false:=DN S o;obtain rfl:=Do d o;clear g;refine Zu ?_;obtain⟨G0,G1,G2,G3,G4,_⟩:=d.o;exact⟨_,_,_,_,_,_,_,_,rfl,Z ⟨G0,λh=>(G1 h).alloc _,G2,λh=>(G3 h).alloc _,G4,⟨λh=>by simp at h,λ_ _=>⟨_,rfl,rfl⟩,λh=>by simp[hf]at h⟩⟩,Z (A.o.fill (i:=1) rfl (.poly []) (FT _))⟩
  . obtain⟨B,rfl,rfl⟩:=d.o.2.2.2.2.1.2.1 (g 4 O) o;have Qe:=g 4 O;have hv:=(d.o.2.1 (g 1 O));obtain⟨a1,l1,c1,rfl⟩:=Jc.form (show Jc V _ _ from hv);obtain⟨a,l,c,n,r⟩:=A.o.poly2 (i:=0) rfl;have e0:=n.cell;have f0:=n.frozen;clear g;refine Zu ?_;obtain⟨G0,G1,G2,G3,_,G5⟩:=d.o;exact⟨_,_,_,_,_,_,_,_,rfl,Z ⟨G0,λh=>(G1 h).set1 n rfl _,G2,λh=>(G3 h).set1 n rfl _,⟨λh=>by simp[Qe]at h,λ_ h=>by simp at h,λ_=>⟨B,rfl,rfl⟩⟩,G5⟩,Z (A.o.putPoly (i:=0) rfl hv)⟩
  . obtain⟨B,rfl,rfl⟩:=D3 d (g 5 O) o;have Qe:=g 5 O;have hv:=(d.o.2.2.2.1 (g 3 O));obtain⟨a1,l1,c1,rfl⟩:=Jc.form (show Jc V _ _ from hv);obtain⟨a,l,c,n,r⟩:=A.o.poly2 (i:=1) rfl;have e0:=n.cell;have f0:=n.frozen;clear g;refine Zu ?_;obtain⟨G0,G1,G2,G3,G4,_⟩:=d.o;exact⟨_,_,_,_,_,_,_,_,rfl,Z ⟨G0,λh=>(G1 h).set1 n rfl _,G2,λh=>(G3 h).set1 n rfl _,G4,⟨λh=>by simp[Qe]at h,λ_ h=>by simp at h,λ_=>⟨B,rfl,rfl⟩⟩⟩,Z (A.o.putPoly (i:=1) rfl hv)⟩
 rintro D ah V2 ae ⟨tj,tk,tl,tm,tg,ti,L,j,rfl,d,A⟩;obtain⟨k,rfl,rfl⟩:=d.o.2.2.2.2.1.2.2 (ae 6 DL);obtain⟨B4,rfl,rfl⟩:=d.o.2.2.2.2.2.2.2 (ae 7 DL);obtain rfl:=d.o.1 (ae 0 DL);obtain rfl:=d.o.2.2.1 (ae 2 DL);clear d ae M1;have M2:Hid (Mem w V2 [some (k,.poly (J2 p)),some (B4,.poly (J2 q))]):=A;clear A;obtain⟨a5,P,c5,n5,r5⟩:=M2.o.poly2 (i:=0) rfl;obtain⟨a6,l6,c6,n6,r6⟩:=M2.o.poly2 (i:=1) rfl;have Qc:=Z (show k≠B4/\w.heap.size<=k/\w.heap.size<=B4 from⟨M2.o.ne 0 1 rfl rfl DL,M2.o.ge 0 rfl,M2.o.ge 1 rfl⟩);obtain⟨Ql,Qi,Qm,Qv⟩:=EA (Qx.o k B4 V2 Qc.o.2.1 Qc.o.2.2 M2.o.2.2) (Qu.o k B4 Qc.o.2.1 Qc.o.2.2) (Qr.o k B4 Qc.o.2.1 Qc.o.2.2) (show ∀H a W,Gf k B4 (H++[a]) W->GZ p q=H++[a]->Chn p q (Di K p q) a []->∃B4 B5 H a,(w.heap.size<=B4/\w.heap.size<=B5)/\Gf B4 B5 (H++[a]) W/\GZ p q=H++[a]/\Chn p q (Di K p q) a []from λH a W h1 h2 h3=>⟨k,B4,H,a,⟨Qc.o.2.1,Qc.o.2.2⟩,h1,h2,h3⟩);clear Qx Qu Qr;obtain⟨G,hG⟩:=ex (Gf k B4);rw[hG]at Ql Qi Qm Qv;clear hG;have Qn:Hid (F9 k B4 G [] V2 (R #[E a5 P c5]) (R #[E a6 l6 c6]) (J2 p) (J2 q)):=Z ⟨Qi.o,Ql.o,r5,r6⟩;have N4:Hid (De V2 k a5 P c5):=Z n5;have N5:Hid (De V2 B4 a6 l6 c6):=Z n6;clear n5 n6 r5 r6 M2 Qw Qo Ql Qy Qp;gi_wp2;gi_loopw [] (λwr=>∃(H:List (List Rat)) (a b:List Rat) (L j:Option Addr) (l4 c4 P c5:Nat),Hid (F9 k B4 G H wr (R #[E L l4 c4]) (R #[E j P c5]) a b)/\Hid (De wr k L l4 c4)/\Hid (De wr B4 j P c5)/\Hid (Chn p q (Di K p q) a b)/\Hid (GZ p q=H++Gq a b)) λwr=>KA wr B4
 case atStart=>exact⟨[],_,_,_,_,_,_,_,_,Qn,N4,N5,Qz,Z rfl⟩
 case round=>
  clear Qn N4 N5 Qz;obtain⟨H,a,b,L,j,l4,c4,P,c5,HG,H4,H5,U,HH⟩:=hrel;obtain⟨fn,tmps,assign,body,hy,ay⟩:=Qm.o H wr L l4 c4 j P c5 a b (by obtain⟨t,ht⟩:=aY a b;exact⟨t,by rw[HH.o,ht];simp⟩) (Bx.lt (cs:=#[E L l4 c4]) H4.o) (Bx.lt (cs:=#[E j P c5]) H5.o) HG.o.2.1 H4.o H5.o HG.o.2.2.1 HG.o.2.2.2;have e4:=H4.o.cell;gi_wp2;refine ay.mono ?_;rintro e W3 ⟨rfl,aq,ap,an,bc,am⟩;have Qt:Hid (F9 k B4 G (H++[a]) W3 (R #[E L l4 c4]) (R #[E j P c5]) a b):=Z ⟨Qi.o,aq,bc,am⟩;obtain⟨Up,Um,Qh⟩:=Dh (QX am) (H5.o.len) (Ya _ b W3 am);have e5:=an.cell;have Ul:=Z ap;have Uo:=Z an;clear hy ay e4 aq ap an bc am HG H4 H5;by_cases af:b=[]
  . have HE:=Z (show GZ p q=H++[a]by rw[HH.o,af];rfl);have Ui:=Z (show Chn p q (Di K p q) a []by have:=U.o;rwa[af]at this);rw[af,show((([]:List Rat).length:Int)-1)=-1 from rfl]at Qh;gi_wp2_with(refine⟨trivial,?_⟩;gi_at_call 20;refine((BG (n:=_)).2 Qh.o).mono ?_;clear Qh;rintro e w4 ⟨rfl,ai⟩)
    go_end0;exact⟨⟨_,rfl⟩,Qv.o H a _ (Qt.o.below ai).2.1 HE.o Ui.o⟩
  . obtain⟨m,hm⟩:=ex (b.length-1:Nat);have Qs:(b.length:Int)-1=(m:Int):=by have:=Ai.2 af;omega
    rw[Qs]at Qh;obtain⟨Uh,Uk,Ub,Qj⟩:=EA (Ua.o a b U.o af) (LF (a:=a) U.o.tb af) (show GZ p q=(H++[a])++Gq b (EJ a b)by rw[HH.o,aX U.o.tb af,CO];rfl) λ(V:F) (x y:f) (hx:Jc V x a) (hy:Jc V y b)=>Uj.o V x y a b hx hy U.o af;have bf:¬(m:Int)<0:=Y
    clear hm Qs af;gi_wp2_with(refine⟨trivial,?_⟩;gi_at_call 20;refine((BG (n:=_)).2 Qh.o).mono ?_;clear Qh;rintro e w4 ⟨rfl,ai⟩)
    have Ud:=(Qt.o.below ai).below ((BE _ w4).drew);have Un:=(Ul.o.below ai).below ((BE _ w4).drew);have Ue:=(Uo.o.below ai).below ((BE _ w4).drew);refine J1 Qq [[],[],[],[1,2],[0,3,0,1],[3,4,0,1,2,3,4]] (by kernel_rfl) DL
     (λD ah V=>∃(tc td te tf:f),ah={ tmps:=#[.func (Fn.yield l) #[] #[],C (some ⟨Bp,0,none⟩),C (some ⟨Bq,0,none⟩),I,C (some ⟨k,0,none⟩),C (some ⟨B4,0,none⟩),R #[E pa pl pc],tk,R #[E qa ql qc],tm,.func (Fn.yield l) #[] #[],R #[E L l4 c4],M true,M true,R #[E j P c5],.int .i64 ↑m,M true,M true,tc,td,te,tf],defers:=[] }/\Hid ((D 0=true->tc=R #[E j P c5])/\(D 1=true->td=R #[E L l4 c4])/\(D 2=true->te=R #[E j P c5])/\(D 3=true->D 5=false->Jc V tf (EJ a b)))/\Hid (F9 k B4 G (H++[a]) V (R #[E L l4 c4]) (R #[E j P c5]) a b)/\Hid ((D 4=false->De V k L l4 c4)/\(D 4=true->De V k j P c5))/\Hid ((D 5=false->De V B4 j P c5)/\(D 5=true->LH V B4 (EJ a b))))
     ⟨_,_,_,_,rfl,Z ⟨O,O,O,O⟩,Z Ud,Z ⟨λ_=>Un,O⟩,Z ⟨λ_=>Ue,O⟩⟩ ?step7 ?fin7
    case step7=>
     rintro D ah V i ds S hi g o ⟨tc,td,te,tf,rfl,d,N,Q,z⟩;have Ug:i<6:=(Af.1 hi).1;obtain rfl|rfl|rfl|rfl|rfl|rfl:=Ia i Y
     all_goals
      simp only[Aj,Ah,Al]at hi;subst hi
     . have Qf:=N.o;have Qb:=Q.o.1 (DN S o);have T:=z.o.1 (DN S o);have e0:=T.cell;clear g;refine Zu ?_;exact⟨_,_,_,_,rfl,Z ⟨λ_=>rfl,d.o.2.1,d.o.2.2.1,d.o.2.2.2⟩,Z (N.o),Q,Z ⟨z.o.1,z.o.2⟩⟩
     . have Qf:=N.o;have Qb:=Q.o.1 (DN S o);have T:=z.o.1 (DN S o);have e0:=Qb.cell;clear g;refine Zu ?_;exact⟨_,_,_,_,rfl,Z ⟨d.o.1,λ_=>rfl,d.o.2.2.1,d.o.2.2.2⟩,Z (N.o),Q,Z ⟨z.o.1,z.o.2⟩⟩
     . have Qf:=N.o;have Qg:D 4=false:=DN S (DN (a:=3) S o);have Qb:=Q.o.1 Qg;have T:=z.o.1 (DN S o);have e0:=T.cell;clear g;refine Zu ?_;exact⟨_,_,_,_,rfl,Z ⟨d.o.1,d.o.2.1,λ_=>rfl,d.o.2.2.2⟩,Z (N.o),Q,Z ⟨z.o.1,z.o.2⟩⟩
     . have Qf:=N.o;have Qb:=Q.o.1 (DN S o);have T:=z.o.1 (DN S o);obtain rfl:=d.o.2.1 (g 1 O);obtain rfl:=d.o.2.2.1 (g 2 O);clear g;have U:=Z λ(n9:Nat)=>(BG (n:=n9)).2 (Qj.o V _ _ Qf.2.2.1 Qf.2.2.2);refine BO rfl λK hK=>?_;go_simp;gi_wp2_with(refine⟨trivial,?_⟩;gi_at_call 57;refine(U.o _).mono ?_;rintro e w5 ⟨v5,rfl,ak,ad⟩)
       exact⟨_,_,_,_,rfl,Z ⟨d.o.1,λ_=>rfl,λ_=>rfl,λ_ _=>ak⟩,Z (N.o.below ad),Z ⟨λh=>(Q.o.1 h).below ad,λh=>(Q.o.2 h).below ad⟩,Z ⟨λh=>(z.o.1 h).below ad,λh=>(z.o.2 h).below ad⟩⟩
     . have Qf:=N.o;have Qb:=Q.o.1 o;have Qd:D 5=false:=DN S o;have T:=z.o.1 Qd;obtain rfl:=d.o.1 (g 0 O);have e0:=Qb.cell;have f0:=Qb.frozen;clear g;refine Zu ?_;exact⟨_,_,_,_,rfl,Z ⟨λ_=>rfl,d.o.2.1,d.o.2.2.1,λh h2=>(d.o.2.2.2 h h2).setB Qb⟩,Z (N.o.put (Or.inl rfl) Qb),Z ⟨λh=>by simp at h,λ_=>Qb.put⟩,Z ⟨λh=>(z.o.1 h).far λe=>Qc.o.1 e.symm,λh=>by simp[Qd]at h⟩⟩
     . have Qf:=N.o;have T:=z.o.1 o;have h0:=d.o.2.2.2 (g 3 O) o;have Qk:=g 4 O;have e0:=T.cell;have f0:=T.frozen;obtain⟨x7,l7,c7,rfl⟩:=Jc.form h0;clear g;refine Zu ?_;exact⟨_,_,_,_,rfl,Z ⟨d.o.1,d.o.2.1,d.o.2.2.1,λ_ h=>by simp at h⟩,Z (N.o.put (Or.inr rfl) T),Z ⟨λh=>by simp[Qk]at h,λh=>(Q.o.2 h).far Qc.o.1⟩,Z ⟨λh=>by simp at h,λ_=>⟨x7,l7,c7,T.put,h0.setB T⟩⟩⟩
    case fin7=>
     rintro D ah V ae ⟨tc,td,te,tf,rfl,d,N,Q,z⟩;obtain⟨x7,l7,c7,n7,i7⟩:=z.o.2 (ae 5 DL);have n6:=Q.o.2 (ae 4 DL);have Uf:Hid (F9 k B4 G (H++[a]) V (R #[E j P c5]) (R #[E x7 l7 c7]) b (EJ a b)):=Z ⟨Qi.o,N.o.2.1,N.o.2.2.2,i7⟩;obtain⟨Uc,N6,N7⟩:=Dh (show KA V B4<KA wr B4 by rw[n7.len,Um.o,QX i7,Up.o];exact Uk.o) n6 n7;clear d N Q z ae n6 n7 i7;gi_wp2;go_roundw
     case rel=>exact⟨H++[a],b,EJ a b,_,_,_,_,_,_,Uf,N6,N7,Uh,Ub⟩
     case measure=>exact Uc.o
end M3
namespace M3
open Go.RowKit Go.Shelf
attribute [local go_sem] Oper.semAt_some
variable{ps:List Rat}{B l:Nat}{v:f}{W w:F}
theorem bA(n:Nat)(a d:Option Addr)(c b i g:Nat)(w:F):
 CallsIn Fence.wide n X 25 #[R #[E a c b],R #[E d i g]] w λe j=>e=.returned (.func (.func 55) #[] #[C (some ⟨w.heap.size,0,none⟩),C (some ⟨w.heap.size+1,0,none⟩)])/\j=(w.alloc (G #[E a c b] 25)).alloc (G #[E d i g] 25):=by
 refine Bs Tryz.func25 rfl trivial ?_ rfl;simp only[Tryz.ntmps25,Ar,Ao,AG,Nat.reduceAdd,Nat.reduceSub,AA,AB,AR,AJ,At,AF];gi_wp2;go_ret;exact⟨rfl,rfl⟩
def QY(B B4 B5:Nat)(I:List (List Rat)->F->Prop)(H:List (List Rat))(W:F):Exit->Act->F->Prop
 |.normal,_,W'=>I H W'/\W.heap.size<=W'.heap.size/\(∀(k:Nat) (o:Obj),B<=k->o.isCells=false\/k=B4\/k=B5->W.heap[k]?=some o->W'.heap[k]?=some o)/\∀v ps,Jc W v ps->Jc W' v ps
 |_,_,_=>False
theorem QZ{W':F}{row:Option Nat}(a:W.grownBy W' row)(b:∀r,row=some r->∃o:Obj,W.heap[r]?=some o/\o.isCells=false)(h:Jc W v ps):Jc W' v ps:=by
 obtain⟨u,e,h⟩:=h;exact⟨u,e,Ho a b h⟩
theorem LI{o a:Obj}(hl:W.heap[l]?=some o)(b:o.isCells=false)(h:Jc W v ps):Jc (W.putObj l a) v ps:=
 QZ (BU W l a) (λr e=>by cases e;exact⟨o,hl,b⟩) h
theorem bB{g:Operand}{ps:Array Tmp}{assign body:Code}{Q:Exit->Act->F->Prop}{a:Act}{w:F}{n:Nat}
(h1:2<=n){K N S:Nat}{pa qa:Option Addr}{pl pc ql qc:Nat}{p q:List Rat}(bf:ChOk K p q)(av:De w N pa pl pc)(aw:De w S qa ql qc)(ip:Jc w (R #[E pa pl pc]) p)(iq:Jc w (R #[E qa ql qc]) q)
(hg:a.eval g=.func (.func 55) #[] #[C (some ⟨N,0,none⟩),C (some ⟨S,0,none⟩)])(eg:∀args w,(callFunc 55 args).run X w=.ok (.enter 55 args) w)(bh:ps.size=1)
(I:Nat->Nat->List (List Rat)->F->Prop)(hI:∀B4 B5,OwnFrom w.heap.size (I B4 B5))(af:∀B4 B5,GB (I B4 B5))(an:∀B4 B5,w.heap.size<=B4->w.heap.size<=B5->LG B4 B5 (I B4 B5))(h0:∀B4 B5 V,w.heap.size+2<=B4->w.heap.size+2<=B5->Bl w V->I B4 B5 [] V)(a₁:f->Nat->Act)
(ap:∀(l:Nat) (x:Option Addr) (s o:Nat) (W:F) (K:Act->F->Prop),K (a₁ (E x s o) W.heap.size) (W.alloc (G #[E x s o] 25))->
  assign.wpIn (Fence.wide.inRound l) (n-1-1) X (Exit.then K λ_ _ _=>False) { tmps:=(ps.zip #[R #[E x s o]]).foldl (λt (p,v)=>t.setIfInBounds p v) a.tmps,defers:=[] } W)
(aq:∀(l b B4 B5:Nat) (x:Option Addr) (s o:Nat) (r:List Rat) (H:List (List Rat)) (W:F),I B4 B5 H W->H++[r] <+: GZ p q->w.heap.size+1<b->B4<b->B5<b->De W b x s o->Jc W (R #[E x s o]) r->
  body.wpIn (Fence.wide.inRound l) (n-1-1) X (QY w.heap.size B4 B5 (I B4 B5) (H++[r]) W) (a₁ (E x s o) b) W)
(az:∀(D B4 B5:Nat) (W:F) (H:List (List Rat)) (r:List Rat),w.heap.size<=D->I B4 B5 (H++[r]) W->GZ p q=H++[r]->Chn p q (Di K p q) r []->W.heap[D]?=some (.deferred (some []))->Q .normal { a with defers:={ target:=.collected D,args:=#[] }::a.defers } W):
 (Code.rangeFunc g ps assign body).wpIn Fence.wide n X Q a w:=by
 refine wpIn_rangeFunc λfn ba=>?_;rw[show Fence.wide.round=none from rfl];obtain⟨rc,A⟩:∃rc:LoopState->Option Code->Loop,rc=λst pe=>{ state:=st,pending:=pe,fn,tmps:=a.tmps,params:=ps,assign,body,defers:=w.heap.size }:=⟨_,rfl⟩;obtain⟨V,hV⟩:=ex ((w.alloc (.deferred (some []))).alloc (.loop (rc .ready none)));have vL:V.heap[w.heap.size+1]?=some (.loop (rc .ready none)):=by
  rw[<-hV];have:=BD (w.alloc (.deferred (some []))) (.loop (rc .ready none));rwa[BA]at this
 have vD:V.heap[w.heap.size]?=some (.deferred (some [])):=by
  rw[<-hV];exact(Bf _ _ _ O).trans (BD w _)
 have T:Bl w V:=by rw[<-hV];exact(Ba w _).alloc (by rw[BA];omega) _
 have bm:V.heap.size=w.heap.size+2:=by rw[<-hV];simp
 refine⟨w.heap.size+1,[{ target:=.collected w.heap.size,args:=#[] }],V,{ target:=.fn (.func 55) #[C (some ⟨N,0,none⟩),C (some ⟨S,0,none⟩)],args:=#[.func (.yield (w.heap.size+1)) #[] #[]] },V,55,
  #[.func (.yield (w.heap.size+1)) #[] #[]]++#[C (some ⟨N,0,none⟩),C (some ⟨S,0,none⟩)],V,?_,?_,?_,?_,λ_=>by omega,?_⟩
 . rw[<-hV,A];exact run_enterLoop_outer _ _ _ _ _
 . simp only[resolve,hg];simp[go_sem]
 . intro f' ah;simp[Target.leads]at ah;subst ah;exact trivial
 . simp[invoke,go_sem,eg]
 refine(ar K (n-1) Y N S pa qa pl pc ql qc p q bf (w.heap.size+1)
  (λB4 B5 H W=>I B4 B5 H W/\W.heap[w.heap.size+1]?=some (.loop (rc .ready none))/\W.heap[w.heap.size]?=some (.deferred (some [])))
  V (av.below T) (aw.below T) (ip.below T) (iq.below T) ?_ ?_ ?_ λB4 B5 U h4 h5 hU=>⟨h0 B4 B5 U Y Y (T.trans (hU.mono Y)),(hU.block _ (Ae.1 vL).1).trans vL,(hU.block _ (Ae.1 vD).1).trans vD⟩).mono ?_
 . rintro B4 B5 H W W' ⟨z,hl,d⟩ hb;exact⟨af _ _ _ _ _ z hb,(hb.block _ (Ae.1 hl).1).trans hl,(hb.block _ (Ae.1 d).1).trans d⟩
 . rintro B4 B5 h4 h5 H W B x s o u hB hb ⟨z,hl,d⟩;exact⟨an B4 B5 Y Y _ _ _ _ _ _ _ hB hb z,(BC W ⟨B,0,none⟩ u _ (by show w.heap.size+1≠B;omega)).trans hl,(BC W ⟨B,0,none⟩ u _ (by show w.heap.size≠B;omega)).trans d⟩
 . rintro B4 B5 bi bj H W j m c4 a5 l5 c5 p4 q5 bg ak am ⟨z,hl,d⟩ h4 h5 i4 i5;have Qf:w.heap.size+1<W.heap.size:=(Ae.1 hl).1;have hy:=run_yield (P:=X) (args:=#[R #[E j m c4]]) hl (by rw[A];exact bh.symm);rw[A]at hy;obtain⟨i,ae⟩:=ex (W.alloc (G #[E j m c4] 25));have y:Bl W i:=by rw[<-ae];exact Ba W _
   have Qd:i.heap[w.heap.size+1]?=some (.loop (rc .ready none)):=(y.block _ Qf).trans hl;have Ql:i.heap[w.heap.size]?=some (.deferred (some [])):=(y.block _ Y).trans d;have Qj:I B4 B5 H i:=af _ _ _ _ _ z y;have Qh:De i W.heap.size j m c4:=by rw[<-ae];exact BL W 25 (E j m c4)
   refine⟨fn,_,assign,body,hy,roundIn_of_wpIn ba (ap _ _ _ _ W _ ?_)⟩;rw[ae];refine⟨_,run_beginRound Qd (by rw[A]),?_⟩;obtain⟨bx,ay⟩:=ex (W.heap.size);have Qu:=h4.below y;have Qr:=h5.below y;have Qv:=i4.below y;have Qn:=i5.below y;rw[ay]at Qh Qf ak am ⊢;have Qg:w.heap.size+1<i.heap.size:=(Ae.1 Qd).1;obtain⟨c,L⟩:=ex (i.putObj (w.heap.size+1) (.loop { rc .ready none with state:=.busy }));rw[L];have Qo:c.heap[w.heap.size+1]?=some (.loop { rc .ready none with state:=.busy }):=by rw[<-L];exact Bh Qg
   have Qe:∀k,k≠w.heap.size+1->c.heap[k]?=i.heap[k]?:=λk d=>by rw[<-L];exact BR Y
   have Qt:De c bx j m c4:=(Qe bx Y).trans Qh;have Qk:c.heap[w.heap.size]?=some (.deferred (some [])):=(Qe _ Y).trans Ql;have Qp:I B4 B5 H c:=by rw[<-L];exact(hI B4 B5).putObj _ Qj Y Qd rfl
   have Qq:De c B4 j m c4:=(Qe B4 Y).trans Qu;have Qw:De c B5 a5 l5 c5:=(Qe B5 Y).trans Qr;have Qi:Jc c (R #[E j m c4]) p4:=by rw[<-L];exact LI Qd rfl Qv
   have Qs:Jc c (R #[E a5 l5 c5]) q5:=by rw[<-L];exact LI Qd rfl Qn
   refine wpIn_mono (aq _ bx B4 B5 j m c4 p4 H c Qp bg Qf ak am Qt Qi) λe a3 W3 hp=>?_;cases e with
   |normal=>
    obtain⟨bc,bn,ad,ai⟩:=hp;have Qc:=ad _ _ Y (Or.inl rfl) Qo;have hr:=run_endRound (P:=X) none Qc;have Qa:∀k,k≠w.heap.size+1->(W3.putObj (w.heap.size+1) (.loop (rc .ready none))).heap[k]?=W3.heap[k]?:=λk d=>BR Y;have Qm:(Instr.endRound (w.heap.size+1) none).run X W3=.ok (M true) (W3.putObj (w.heap.size+1) (.loop (rc .ready none))):=by
     rw[A]at hr ⊢;exact hr
    exact⟨_,_,Qm,rfl,⟨(hI B4 B5).putObj _ bc Y Qc rfl,Bh (Ae.1 Qc).1,(Qa _ Y).trans (ad _ _ (Aa _) (Or.inl rfl) Qk)⟩,
     (Qa _ Y).trans (ad _ _ Y (Or.inr (Or.inl rfl)) Qq),(Qa _ Y).trans (ad _ _ Y (Or.inr (Or.inr rfl)) Qw),LI Qc rfl (ai _ _ Qi),LI Qc rfl (ai _ _ Qs)⟩
   |ret=>exact hp.elim
   |exit id=>exact hp.elim
   |goto t=>exact hp.elim
   |panic ch=>exact hp.elim
   |outgrown=>exact hp.elim
 . rintro e c ⟨⟨v,rfl⟩,B4,B5,H,r,⟨h4,h5⟩,⟨z,hl,d⟩,hc,hn⟩;exact⟨none,_,by have:=run_endLoop (P:=X) hl (by rw[A];simp);rw[A]at this;exact this,az _ B4 B5 _ H r (Aa _) ((hI B4 B5).putObj _ z Y hl rfl) hc hn ((BR Y).trans d)⟩
theorem Mem.setFar{V:F}{bs:List (Option (Nat × Dat))}(M:Mem w V bs)(g:w.heap.size<=B){a:Option Addr}{c:Nat}(j:De V B a l c)(k:∀(i:Nat) B' d,bs[i]?=some (some (B',d))->B'≠B)(u:f):Mem w (V.setCell ⟨B,0,Option.none⟩ u) bs:=by
 refine⟨λi B' d h=>?_,M.2.1,M.2.2.setCell (p:=⟨B,0,Option.none⟩) g u⟩;obtain⟨⟨cs,b,e⟩,m⟩:=M.1 i B' d h;exact⟨⟨cs,b.far (p:=⟨B,0,Option.none⟩) (k i B' d h) u,e.set1 j rfl u⟩,m⟩
def Ga(w:F)(a d:Option Addr)(c b g e:Nat)(H:List (List Rat)):List (Option (Nat × Dat)):=
 [some (w.heap.size,.cell 25 (E a c b)),some (w.heap.size+1,.cell 25 (E d g e)),some (w.heap.size+1+1,.cell 25 (E none 0 0)),some (w.heap.size+1+1+1,.poly (H.getLastD []))]
theorem bC{a g:Option Addr}{c b k j:Nat}{H:List (List Rat)}{i:Nat}{d:Dat}(e:(Ga w a g c b k j H)[i]?=some (some (B,d))):B<=w.heap.size+1+1+1:=by
 unfold Ga at e;rcases i with _|_|_|_|i<;>simp at e<;>omega
theorem Gr(K:Nat)(va vb:f)(p q:List Rat)(w:F)(ha:Jc w va p)(z:Jc w vb q)(af:ChOk K p q):
 Calls X 8 #[va,vb] w λe w'=>∃u,e=.returned u/\Jc w' u (Jm p q)/\Bl w w':=by
 obtain⟨g,m,j,rfl⟩:=ha.form;obtain⟨s,y,t,rfl⟩:=z.form;have M0:Mem w _ _:=((((Mem.nil w).push (.cell 25 (E g m j)) (cs:=#[E g m j]) ⟨rfl,rfl⟩).push (.cell 25 (E s y t)) (cs:=#[E s y t]) ⟨rfl,rfl⟩).push (.cell 25 (E none 0 0)) (cs:=#[E none 0 0]) ⟨rfl,rfl⟩).push (.poly []) (cs:=#[E none 0 0]) (FT _);simp only[BA]at M0;obtain⟨W0,ad⟩:=ex ((((w.alloc (G #[E g m j] 25)).alloc (G #[E s y t] 25)).alloc (G #[E none 0 0] 25)).alloc (G #[E none 0 0] 25));have M1:Mem w W0 (Ga w g s m j y t []):=by rw[<-ad];exact M0
 have hN:W0.heap.size=w.heap.size+1+1+1+1:=by rw[<-ad];simp
 obtain⟨Qe,Qg,HN,HP,HQ,Qm⟩:=Kb ad M1 hN (λ(V:F) (hB:Bl w V)=>ha.below hB) (λ(V:F) (hB:Bl w V)=>z.below hB) af;have Qj:=Z (λ(V:F) (x:f) (r:List Rat) (hx:Jc V x r) (hc:Chn p q (Di K p q) r [])=>show Calls X 26 #[x] V λe w'=>∃u,e=.returned u/\Jc w' u (Jm p q)/\Bl V w' by
  have Qb:=af.bd;have h1:=QW x r V hx (Sqs.of λi=>Sq.of (hc.wa.smq Qb.2.2.2 i) Qb.1) hc.ta (λi=>by
   have h2:=Ln.sqs hc.ta hc.wa.ln Qb.2.2.2 i;unfold Jp at h2;rw[Yh,Ft,FM,<-Ft]at h2;exact Sq.of h2 Qb.1)
  rw[<-hc.gc,QH];exact h1)
 clear ha z af M0 M1 ad hN;refine(BG (n:=3)).1 ?_;refine BT Tryz.func8 rfl trivial ?_ rfl;simp only[Tryz.ntmps8,Ar,Ao,AG,Nat.reduceAdd,Nat.reduceSub,AA,AB,AR,AJ,At,AF];gi_wp2_with fail
 rw[Qe.o];refine⟨trivial,?_⟩;refine(bA _ _ _ _ _ _ _ _).mono ?_;rintro e w' ⟨rfl,rfl⟩;obtain⟨A,U⟩:=ex ((W0.alloc (G #[E g m j] 25)).alloc (G #[E s y t] 25));have Qi:Bl W0 A:=by rw[<-U];exact(Ba W0 _).alloc (by rw[BA];omega) _
 have nP:De A W0.heap.size g m j:=by rw[<-U];exact(BL W0 25 (E g m j)).alloc _
 have nQ:De A (W0.heap.size+1) s y t:=by
  rw[<-U];have:=BL (W0.alloc (G #[E g m j] 25)) 25 (E s y t);rwa[BA]at this
 have M2:=Mem.below Qg.o Qi;have Qf:A.heap.size=w.heap.size+6:=by rw[<-U];simp[HN.o]
 rw[U,HN.o];rw[HN.o]at nP nQ;obtain⟨Qc,Ql,Qn,S⟩:=EA M2 nP nQ Qf;clear M2 nP nQ Qf Qi U Qe HN Qg;gi_wp2_with fail
 refine bB Y Qm.o Ql.o Qn.o (HP.o A Qc.o.2.2) (HQ.o A Qc.o.2.2) rfl (B0 Tryz.func55 (by kernel_rfl) rfl) rfl
  (λ_ _ H W=>Mem w W (Ga w g s m j y t H)) (λ_ _ H W W' row M hg hr=>Mem.own M hg λr e=>⟨by have:=(hr r e).1;have:=S.o;omega,(hr r e).2⟩) (λ_ _ H W W' M z=>Mem.below M z)
  (λB4 B5 T h5 H W B a l c u hB z M=>Mem.setFar M (by have:=S.o;omega) z (λi B' d e=>by have:=bC e;have:=S.o;omega) u) (λ_ _ V _ _ hV=>Mem.below Qc.o hV)
  (λv b=>{ tmps:=#[R #[E g m j],R #[E s y t],C (some ⟨w.heap.size,0,none⟩),C (some ⟨w.heap.size+1,0,none⟩),C (some ⟨w.heap.size+1+1,0,none⟩),C (some ⟨w.heap.size+1+1+1,0,none⟩),C (some ⟨b,0,none⟩),R #[E g m j],R #[E s y t],.func (.func 55) #[] #[C (some ⟨w.heap.size+1+1+1+1,0,none⟩),C (some ⟨w.heap.size+1+1+1+1+1,0,none⟩)],R #[v],I,I,I],defers:=[] }) ?assign ?body ?done
 case assign=>
  intro l x xl xc W K hK;gi_wp2;exact hK
 case body=>
  intro l b B4 B5 x xl xc r H W M _ z _ _ ai hr;obtain⟨ya,yl,yc,Q,r3⟩:=Mem.poly2 M (i:=3) rfl;have e3:=Q.cell;have f3:=Q.frozen;have eb:=ai.cell;have HH:=Z (show ∀ah,QY A.heap.size B4 B5 (λH W=>Mem w W (Ga w g s m j y t H)) (H++[r]) W .normal ah (W.setCell ⟨w.heap.size+1+1+1,0,none⟩ (E x xl xc))from λah=>by
   refine⟨?_,?_,λk o hk _ ho=>?_,λv ps h=>h.setB Q⟩
   . have T:=Mem.putPoly M (i:=3) rfl hr;show Mem w _ (Ga w g s m j y t (H++[r]));unfold Ga at T ⊢;rw[show(H++[r]).getLastD []=r by simp];exact T
   . rw[World.size_setCell];exact Aa _
   . exact(BC W ⟨w.heap.size+1+1+1,0,none⟩ _ k (by show k≠w.heap.size+1+1+1;have:=S.o;omega)).trans ho)
  clear M z ai hr Q r3;gi_wp2;exact HH.o _
 case done=>
  intro D _ _ W H r hD M an ak hK;have Qo:w.heap.size<=D:=by have:=S.o;omega
  have M:Mem w W [some (w.heap.size,.cell 25 (E g m j)),some (w.heap.size+1,.cell 25 (E s y t)),some (w.heap.size+1+1,.cell 25 (E none 0 0)),some (w.heap.size+1+1+1,.poly r)]:=by
   have T:Mem w W (Ga w g s m j y t (H++[r])):=M;unfold Ga at T;rwa[show(H++[r]).getLastD []=r by simp]at T
  obtain⟨ya,yl,yc,Q,r3⟩:=Mem.poly2 M (i:=3) rfl;have e3:=Q.cell;have n2:=(Mem.cell M (i:=2) rfl).1;obtain⟨HC,Qh,HK⟩:=Dh (Qj.o W _ r r3 ak) M.2.2 hK;clear M an ak hK r3 Q Qj;gi_wp2_with(refine⟨trivial,?_⟩;gi_at_call 26;refine((BG (n:=_)).2 HC.o).mono ?_;clear HC;rintro e w5 ⟨u5,rfl,am,ae⟩;obtain⟨L,P,N,rfl⟩:=am.form;have n5:=boxed_below n2 ae;have x0:=n5.cell;have x1:=n5.frozen)
  have Qd:(w5.setCell ⟨w.heap.size+1+1,0,none⟩ (E L P N)).heap[D]?=some (.deferred (some [])):=by
   rw[BC w5 ⟨w.heap.size+1+1,0,none⟩ _ D (by show D≠w.heap.size+1+1;have:=S.o;omega)];exact(ae.block D (Ae.1 HK.o).1).trans HK.o
  refine⟨O,.inl ⟨_,_,rfl,BW Qd,?_⟩⟩;have q:De (w5.setCell ⟨w.heap.size+1+1,0,none⟩ (E L P N)) (w.heap.size+1+1) L P N:=De.put (show De w5 (w.heap.size+1+1) none 0 0 from n5);have hg:=BU (w5.setCell ⟨w.heap.size+1+1,0,none⟩ (E L P N)) D (.deferred none);have Qk:∀r,some D=some r->∃o:Obj,(w5.setCell ⟨w.heap.size+1+1,0,none⟩ (E L P N)).heap[r]?=some o/\o.isCells=false:=λr e=>by cases e;exact⟨_,Qd,rfl⟩
  have q2:De _ (w.heap.size+1+1) L P N:=Y8 hg Qk q;have g0:=q2.cell;refine⟨R #[E L P N],by simp[results,Tryz.results8,go_sem,g0],_,rfl,?_,?_⟩
  . exact QZ hg Qk (am.setB n5)
  . exact((Bt Qh.o ae).setCell (p:=⟨w.heap.size+1+1,0,none⟩) (by show w.heap.size<=w.heap.size+1+1;omega) _).trans (DK (w:=w) (Aa _) _ D _ _ Qo Qd rfl rfl)
