import Derived.Test.YtakpoihdghihmaaGreatDoorM43
open Go.Value renaming slice->E,pointer->C,agg->M,bool->T
open Go renaming undef->F,World->R,Value->X
open Go.Proofs.Tryz renaming prog->S
set_option maxRecDepth 100000
set_option maxHeartbeats 16000000
namespace Go.Proofs.YtakpoihdghihmaaGreatDoor
namespace M3
open Go.RowKit Go.Shelf
attribute [local go_sem] Oper.semAt_some
variable{ps qs:List Rat}
theorem Zo(va vb:X)(ps qs:List Rat)(w:R)(ha:Jf w va ps)(hb:Jf w vb qs)(aw:Sqs ps)(az:Sqs qs)(ay:qs≠[])(ax:∀i,i<=ps.length+1-qs.length->Sq (Xe (cf qs (qs.length-1))^i))(ba:∀i,Sq (cf ps i*D3 ps qs)):
 Calls S 182 #[va,vb] w λe w'=>∃u,e=.returned u/\Jf w' u (YD ps qs)/\Bl w w':=by
 obtain⟨m,hm⟩:=ex (qs.length-1:Nat);have Uc:0<qs.length:=Ai.2 ay;have Qy:ps.length<=1099511627776:=by
  obtain⟨H,la,I,rfl⟩:=ha.form;have:=ha.row.forms;omega
 have Qt:qs.length<=1099511627776:=by
  obtain⟨q,lb,z,rfl⟩:=hb.form;have:=hb.row.forms;omega
 obtain⟨L,hL⟩:=ex (Xe (cf qs m):Rat);obtain⟨N,hN⟩:=ex (ps.length+1-qs.length:Nat);obtain⟨e1,ap⟩:=ex ((ps.length:Int)-1:Int);have Qp:(qs.length:Int)-1=(m:Int):=Y
 obtain⟨e3,cj⟩:=ex (e1-(m:Int):Int);obtain⟨e4,ck⟩:=ex (e3+1:Int);have cl:IntKind.i64.wrap e3=e3:=by rw[BQ];omega
 have cn:IntKind.i64.wrap e4=e4:=by rw[BQ];omega
 obtain⟨Qb,Qo,Ub,Qw,Qc,HT,Qu,Qs⟩:=GH (show(∀i:Nat,(i:Int)<e4↔i<N)/\N<=1099511627777 from⟨λi=>by omega,Y⟩) Qp ap hL (show ∀i,i<=N->Sq (L^i)from λi W=>by rw[<-hL,<-hm];exact ax i Y) (show DK (L^N) ps=YD ps qs by unfold YD D3;rw[hm,hL,hN]) (show ∀i,Sq (cf ps i*L^N)from λi=>by have:=ba i;unfold D3 at this;rwa[hm,hL,hN]at this) aw;have Qz:=Ja az;clear ax ba aw az ay hN hL hm Uc Qy Qt ap Qp;have Ql:Tryz.prog.follows .mixedOrders=true:=by kernel_rfl
 obtain⟨H,la,I,rfl⟩:=ha.form;obtain⟨q,lb,z,rfl⟩:=hb.form;have M0:=(((Mem.nil w).push (.cell 25 (E H la I)) (cs:=#[E H la I]) ⟨rfl,rfl⟩).push (.cell 25 (E q lb z)) (cs:=#[E q lb z]) ⟨rfl,rfl⟩).push (.cell 25 (E none 0 0)) (cs:=#[E none 0 0]) ⟨rfl,rfl⟩;simp only[Ax]at M0;obtain⟨W0,ai⟩:=ex (((w.alloc (.cells #[E H la I] 25)).alloc (.cells #[E q lb z] 25)).alloc (.cells #[E none 0 0] 25));obtain⟨Qj,HP,HQ⟩:=DX ai (λ(V:R) (hB:Bl w V)=>ha.below hB) λ(V:R) (hB:Bl w V)=>hb.below hB;have M1:Hid (Mem w W0 [some (w.heap.size,.cell 25 (E H la I)),some (w.heap.size+1,.cell 25 (E q lb z)),some (w.heap.size+1+1,.cell 25 (E none 0 0))]):=Ja (by rw[<-ai];exact M0);clear M0 ai ha hb;go_enter Tryz.func182,Tryz.ntmps182
 go_upto_region 1 with fail
 rw[Qj.o];clear Qj;refine Jn Ql [[],[],[1],[0,2,2],[3,3],[],[5,4,4,0,1,2,3,4,5]] (by kernel_rfl) DB
  (λD ad V=>∃(tn tp ta tb tc tm:X) (x5:Option (Nat × Dat)),ad={ tmps:=#[M #[E H la I],M #[E q lb z],C (some ⟨w.heap.size,0,none⟩),C (some ⟨w.heap.size+1,0,none⟩),C (some ⟨w.heap.size+1+1,0,none⟩),tm,F,F,tn,tp,ta,tb,tc,F,F,F,F,F,F,F,F,F,F,F,F,F,F,F,F,F,F,F,F,F],defers:=[] }/\Hid ((D 0=true->tn=M #[E q lb z])/\(D 1=true->tp=M #[E q lb z])/\(D 2=true->ta=.int .i64 (m:Int))/\(D 3=true->Has V tb (.rat (cf qs m)))/\(D 4=true->Has V tc (.rat L))/\((D 5=false->x5=none)/\(D 5=true->D 6=false->∃B:Nat,tm=C (some ⟨B,0,none⟩)/\x5=some (B,.rat 0))/\(D 6=true->∃B:Nat,tm=C (some ⟨B,0,none⟩)/\x5=some (B,.rat L))))/\Hid (Mem w V [some (w.heap.size,.cell 25 (E H la I)),some (w.heap.size+1,.cell 25 (E q lb z)),some (w.heap.size+1+1,.cell 25 (E none 0 0)),x5]))
  ⟨_,_,_,_,_,_,none,rfl,Ja ⟨Z,Z,Z,Z,Z,Z⟩,Ja ((M1.o).none).drew⟩ ?step1 ?fin1
 case step1=>
  rintro D ad V i ds an W o af ⟨tn,tp,ta,tb,tc,tm,x5,rfl,f,g⟩;have Qv:i<7:=(Ad.1 W).1;obtain rfl|rfl|rfl|rfl|rfl|rfl|rfl:=GY i Y
  all_goals
   simp only[Ag,Af,Ak]at W;subst W
  . have e0:=(g.o.cell (i:=1) rfl).1.cell;clear o;refine Za ?_;exact⟨_,_,_,_,_,_,_,rfl,(DZ f),Ja (g.o)⟩
  . have e0:=(g.o.cell (i:=1) rfl).1.cell;clear o;refine Za ?_;exact⟨_,_,_,_,_,_,_,rfl,(Dg f),Ja (g.o)⟩
  . obtain rfl:=(f.o.2.1 (o 1 Z));have G:=Ja (Yd _ qs V (HQ.o V g.o.2.2));rw[Qo.o]at G;clear o;refine Jb rfl rfl λK hK=>?_;go_simp;go_wp2_with(go_at_call 30;refine G.o.mono ?_;rintro e Q ⟨rfl,A⟩)
    obtain⟨G0,_,_,G3,G4,G5⟩:=f.o;exact⟨_,_,_,_,_,_,_,rfl,Ja ⟨G0,λ_=>rfl,λ_=>rfl,λh=>(G3 h).below A,λh=>(G4 h).below A,G5⟩,Ja (g.o.below A)⟩
  . obtain rfl:=(f.o.1 (o 0 Z));obtain rfl:=(f.o.2.2.1 (o 2 Z));have G:=Ja (Hz _ qs (m:Int) V (HQ.o V g.o.2.2));rw[K6]at G;clear o;refine Jb rfl rfl λK hK=>?_;go_simp;go_wp2_with(go_at_call 74;refine G.o.mono ?_;rintro e Q ⟨v5,rfl,ak,A⟩)
    exact⟨_,_,_,_,_,_,_,rfl,Ja ⟨λ_=>rfl,f.o.2.1,λ_=>rfl,λ_=>ak,λh=>(f.o.2.2.2.2.1 h).below A,f.o.2.2.2.2.2⟩,Ja (g.o.below A)⟩
  . have h0:=(f.o.2.2.2.1 (o 3 Z));have G:=Ja (Zk _ (cf qs m) V h0 (Qz.o.at m));rw[Qw.o]at G;clear o h0;refine Jb rfl rfl λK hK=>?_;go_simp;go_wp2_with(go_at_call 206;refine G.o.mono ?_;rintro e Q ⟨v5,rfl,ak,A⟩)
    obtain⟨G0,G1,G2,G3,_,G5⟩:=f.o;exact⟨_,_,_,_,_,_,_,rfl,Ja ⟨G0,G1,G2,λh=>(G3 h).below A,λ_=>ak,G5⟩,Ja (g.o.below A)⟩
  . have hf:D 6=false:=DF an af;obtain rfl:=Dl f af;clear o;refine Za ?_;obtain⟨G0,G1,G2,G3,G4,_⟩:=f.o;exact⟨_,_,_,_,_,_,_,rfl,Ja ⟨G0,G1,G2,λh=>(G3 h).alloc _,λh=>(G4 h).alloc _,⟨λh=>by simp at h,λ_ _=>⟨_,rfl,rfl⟩,λh=>by simp[hf]at h⟩⟩,Ja (g.o.fill (i:=3) rfl (.rat 0) (XQ _))⟩
  . obtain⟨B,rfl,rfl⟩:=D5 f (o 5 Z) af;have Qd:=o 5 Z;have hv:=(f.o.2.2.2.2.1 (o 4 Z));obtain⟨s1,a1,l1,c1,t1,b1,k1,d1,rfl⟩:=Jg.form (show Jg V _ _ from hv);obtain⟨s,a,l,c,t,b,k,d,n,r,i,j⟩:=g.o.rat (i:=3) rfl;have e0:=n.c0;have f0:=n.f0;have e1:=n.c1;have f1:=n.f1;have e2:=n.c2;have f2:=n.f2;have e3:=n.c3;have f3:=n.f3;clear o;refine Za ?_;obtain⟨G0,G1,G2,G3,G4,_⟩:=f.o;exact⟨_,_,_,_,_,_,_,rfl,Ja ⟨G0,G1,G2,λh=>(G3 h).put4 n rfl rfl rfl rfl _ _ _ _,λh=>(G4 h).put4 n rfl rfl rfl rfl _ _ _ _,⟨λh=>by simp[Qd]at h,λ_ h=>by simp at h,λ_=>⟨B,rfl,rfl⟩⟩⟩,Ja (g.o.putRat (i:=3) rfl hv)⟩
 rintro D ad V2 P ⟨tn,tp,ta,tb,tc,tm,x5,rfl,f,g⟩;obtain⟨U,rfl,rfl⟩:=f.o.2.2.2.2.2.2.2 (P 6 DB);obtain rfl:=f.o.1 (P 0 DB);obtain rfl:=f.o.2.1 (P 1 DB);obtain rfl:=f.o.2.2.1 (P 2 DB);clear f P M1;have M2:Hid (Mem w V2 [some (w.heap.size,.cell 25 (E H la I)),some (w.heap.size+1,.cell 25 (E q lb z)),some (w.heap.size+1+1,.cell 25 (E none 0 0)),some (U,.rat L)]):=g;clear g;have HA:=Ja λ(V:R)=>GL 1 Y Y V;have HB:=HA;have G:=Ja λ(V:R) (x y:X) (hx:Jk V x 1) (hy:Jk V y 1)=>Ir x y 1 1 V hx hy Sok.one Sok.one;rw[show decide ((1:Int)≠0)=true from rfl,show Rat.divInt 1 1=L^0 by rw[Rat.pow_zero];rfl]at G;go_upto_region 3 with(first
  |(go_at_call 29;refine(HA.o _).mono ?_;clear HA;rintro e w3 ⟨u3,rfl,Qa,am⟩)
  |(go_at_call 29;refine(HB.o _).mono ?_;clear HB;rintro e w4 ⟨u4,rfl,bc,aj⟩;have Qa:=Qa.below aj)
  |(go_at_call 28;refine(G.o _ _ _ Qa bc).mono ?_;clear G;rintro e Q ⟨u5,rfl,ae,A⟩;obtain⟨s9,a9,l9,c9,t9,b9,k9,d9,rfl⟩:=Jg.form ae))
 obtain⟨V4,hV⟩:=ex (Q.alloc (.cells #[T s9,E a9 l9 c9,T t9,E b9 k9 d9] 37));obtain⟨B4,ah⟩:=ex (Q.heap.size);have g:Mem w (Q.alloc (.cells #[T s9,E a9 l9 c9,T t9,E b9 k9 d9] 37)) [some (w.heap.size,.cell 25 (E H la I)),some (w.heap.size+1,.cell 25 (E q lb z)),some (w.heap.size+1+1,.cell 25 (E none 0 0)),some (U,.rat L),some (Q.heap.size,.rat (L^0))]:=Mem.push (((M2.o.below am).below aj).below A) (.rat (L^0)) ae;rw[hV,ah]at g;rw[hV];rw[ah];have M3:Hid (Mem w V4 [some (w.heap.size,.cell 25 (E H la I)),some (w.heap.size+1,.cell 25 (E q lb z)),some (w.heap.size+1+1,.cell 25 (E none 0 0)),some (U,.rat L),some (B4,.rat (L^0))]):=Ja (g);clear M2;clear g hV ah;clear Qa bc ae am aj A;refine Jn Ql [[],[0],[],[2,1],[1,3],[4],[]] (by kernel_rfl) DB
  (λD ad V=>∃(td te tg ti tj tk tl:X),ad={ tmps:=#[M #[E H la I],M #[E q lb z],C (some ⟨w.heap.size,0,none⟩),C (some ⟨w.heap.size+1,0,none⟩),C (some ⟨w.heap.size+1+1,0,none⟩),C (some ⟨U,0,none⟩),C (some ⟨B4,0,none⟩),T true,M #[E q lb z],M #[E q lb z],.int .i64 ↑m,tb,tc,.tuple #[M #[T s9,E a9 l9 c9,T t9,E b9 k9 d9],T true],u3,u4,.tuple #[M #[T s9,E a9 l9 c9,T t9,E b9 k9 d9],T true],M #[T s9,E a9 l9 c9,T t9,E b9 k9 d9],T true,td,te,tg,ti,tj,tk,tl,F,F,F,F,F,F,F,F],defers:=[] }/\Hid ((D 0=true->td=M #[E H la I])/\(D 1=true->te=.int .i64 e1)/\(D 2=true->tg=M #[E q lb z])/\(D 3=true->ti=.int .i64 (m:Int))/\(D 4=true->tj=.int .i64 e3)/\(D 5=true->tk=.int .i64 e4)/\(D 6=true->tl=.int .i64 0))/\Hid (Mem w V [some (w.heap.size,.cell 25 (E H la I)),some (w.heap.size+1,.cell 25 (E q lb z)),some (w.heap.size+1+1,.cell 25 (E none 0 0)),some (U,.rat L),some (B4,.rat (L^0))]))
  ⟨_,_,_,_,_,_,_,rfl,Ja ⟨Z,Z,Z,Z,Z,Z,Z⟩,Ja (M3.o).drew⟩ ?step5 ?fin5
 case step5=>
  rintro D ad V i ds an W o af ⟨td,te,tg,ti,tj,tk,tl,rfl,f,g⟩;have Qv:i<7:=(Ad.1 W).1;obtain rfl|rfl|rfl|rfl|rfl|rfl|rfl:=GY i Y
  all_goals
   simp only[Ag,Af,Ak]at W;subst W
  . have e0:=(g.o.cell (i:=0) rfl).1.cell;clear o;refine Za ?_;exact⟨_,_,_,_,_,_,_,rfl,(DZ f),Ja (g.o)⟩
  . obtain rfl:=(f.o.1 (o 0 Z));have G:=Ja (Yd _ ps V (HP.o V g.o.2.2));rw[Ub.o]at G;clear o;refine Jb rfl rfl λK hK=>?_;go_simp;go_wp2_with(go_at_call 30;refine G.o.mono ?_;rintro e Q ⟨rfl,A⟩)
    exact⟨_,_,_,_,_,_,_,rfl,(Dg (DZ f)),Ja (g.o.below A)⟩
  . have e0:=(g.o.cell (i:=1) rfl).1.cell;clear o;refine Za ?_;exact⟨_,_,_,_,_,_,_,rfl,(DU f),Ja (g.o)⟩
  . obtain rfl:=(f.o.2.2.1 (o 2 Z));have G:=Ja (Yd _ qs V (HQ.o V g.o.2.2));rw[Qo.o]at G;clear o;refine Jb rfl rfl λK hK=>?_;go_simp;go_wp2_with(go_at_call 30;refine G.o.mono ?_;rintro e Q ⟨rfl,A⟩)
    exact⟨_,_,_,_,_,_,_,rfl,(Da (DU f)),Ja (g.o.below A)⟩
  . obtain rfl:=(f.o.2.1 (o 1 Z));obtain rfl:=(f.o.2.2.2.1 (o 3 Z));clear o;refine Za ?_;exact⟨_,_,_,_,_,_,_,rfl,(Dq (Da (Dg f))),Ja (g.o)⟩
  . obtain rfl:=(f.o.2.2.2.2.1 (o 4 Z));clear o;refine Za ?_;exact⟨_,_,_,_,_,_,_,rfl,(Ds (Dq f)),Ja (g.o)⟩
  . clear o;refine Za ?_;exact⟨_,_,_,_,_,_,_,rfl,(KS f),Ja (g.o)⟩
 rintro D ad V6 P ⟨td,te,tg,ti,tj,tk,tl,rfl,f,g⟩;obtain rfl:=f.o.1 (P 0 DB);obtain rfl:=f.o.2.1 (P 1 DB);obtain rfl:=f.o.2.2.1 (P 2 DB);obtain rfl:=f.o.2.2.2.1 (P 3 DB);obtain rfl:=f.o.2.2.2.2.1 (P 4 DB);obtain rfl:=Dl f (P 5 DB);obtain rfl:=f.o.2.2.2.2.2.2 (P 6 DB);clear f P M3;have M4:Hid (Mem w V6 [some (w.heap.size,.cell 25 (E H la I)),some (w.heap.size+1,.cell 25 (E q lb z)),some (w.heap.size+1+1,.cell 25 (E none 0 0)),some (U,.rat L),some (B4,.rat (L^0))]):=g;clear g;go_wp2;go_loopw [25] (λiv wr=>∃i:Nat,i<=N/\iv=.int .i64 (i:Int)/\Hid (Mem w wr [some (w.heap.size,.cell 25 (E H la I)),some (w.heap.size+1,.cell 25 (E q lb z)),some (w.heap.size+1+1,.cell 25 (E none 0 0)),some (U,.rat L),some (B4,.rat (L^i))])) λiv _=>N-(intOf iv).toNat
 case atStart=>exact⟨0,AK _,rfl,M4⟩
 case round=>
  clear M4;obtain⟨i,W,rfl,M5⟩:=hrel;by_cases aq:i<N
  . have Qf:(i:Int)<e4:=(Qb.o.1 i).2 aq;have ci:N<=1099511627777:=Qb.o.2;obtain⟨s7,a7,l7,c7,t7,b7,k7,d7,n7,r7,i7,j7⟩:=M5.o.rat (i:=3) rfl;obtain⟨bt,bu,bz,ce⟩:=n7.cq;obtain⟨s8,a8,l8,c8,t8,b8,k8,d8,n8,r8,i8,j8⟩:=M5.o.rat (i:=4) rfl;obtain⟨Qk,Qn,Qg,Qq⟩:=n8.cq;obtain⟨Qh,Qr,Qi,Qm⟩:=n8.fq;have H1:=Ja (Hv _ _ (L^i) L wr r8 r7 (Qc.o i Y) (by have:=Qc.o 1 Y;rwa[Rat.pow_one]at this));rw[<-Rat.pow_succ]at H1;go_upto_region 6 with(go_at_call 91;refine H1.o.mono ?_;clear H1;rintro e w6 ⟨u6,rfl,bf,hq⟩;obtain⟨s8,a8,l8,c8,t8,b8,k8,d8,rfl⟩:=Jg.form bf;clear Qk Qn Qg Qq;obtain⟨Qk,Qn,Qg,Qq⟩:=(n8.below hq).cq;clear Qh Qr Qi Qm;obtain⟨Qh,Qr,Qi,Qm⟩:=(n8.below hq).fq)
    obtain⟨V9,hV⟩:=ex ((((w6.setCell ⟨B4,0,none⟩ (T s8)).setCell ⟨B4,1,none⟩ (E a8 l8 c8)).setCell ⟨B4,2,none⟩ (T t8)).setCell ⟨B4,3,none⟩ (E b8 k8 d8));have g:Mem w ((((w6.setCell ⟨B4,0,none⟩ (T s8)).setCell ⟨B4,1,none⟩ (E a8 l8 c8)).setCell ⟨B4,2,none⟩ (T t8)).setCell ⟨B4,3,none⟩ (E b8 k8 d8)) [some (w.heap.size,.cell 25 (E H la I)),some (w.heap.size+1,.cell 25 (E q lb z)),some (w.heap.size+1+1,.cell 25 (E none 0 0)),some (U,.rat L),some (B4,.rat (L^(i+1)))]:=Mem.putRat (M5.o.below hq) (i:=4) rfl bf;rw[hV]at g;rw[hV];have M6:Hid (Mem w V9 [some (w.heap.size,.cell 25 (E H la I)),some (w.heap.size+1,.cell 25 (E q lb z)),some (w.heap.size+1+1,.cell 25 (E none 0 0)),some (U,.rat L),some (B4,.rat (L^(i+1)))]):=Ja (g);clear M5;clear g hV;go_wp2_with fail
    go_roundw
    case rel=>exact⟨i+1,Y,by go_num,M6⟩
    case measure=>simp[intOf];omega
  . have Qf:¬(i:Int)<e4:=λh=>aq ((Qb.o.1 i).1 h);obtain rfl:i=N:=Y
    obtain⟨de,bh,db,bi,df,b10,da,bj,bg,r10,co,ct⟩:=M5.o.rat (i:=4) rfl;obtain⟨bk,bl,bm,bn⟩:=bg.cq;have c0:=(M5.o.cell (i:=0) rfl).1.cell;have n1:=(M5.o.cell (i:=2) rfl).1;have Qe:=Ja M5.o.2.2;have H2:=Ja (P7 (M #[E H la I]) _ ps (L^i) wr (HP.o wr Qe.o) r10 Qs.o (Qc.o i (Aa _)) Qu.o);rw[HT.o]at H2;go_wp2_with(go_at_call 181;refine H2.o.mono ?_;clear H2;rintro e Q ⟨u5,rfl,ae,A⟩;obtain⟨a7,l7,c7,rfl⟩:=ae.form;have n5:=boxed_below n1 A;have x0:=n5.cell;have x1:=n5.frozen;have Ua:=Ja (K8 n5 (x:=E a7 l7 c7) ae);have Qx:=Ja ((Bt Qe.o A).setCell (p:=⟨w.heap.size+1+1,0,none⟩) (by show w.heap.size<=w.heap.size+1+1;omega) (E a7 l7 c7));clear ae A n5)
    exact BA (v:=M #[E a7 l7 c7]) (by simp[results,Tryz.results182,go_sem,x0]) rfl ⟨_,rfl,Ua.o,Qx.o⟩
theorem Zp{A:Nat}(p:D9 A ps)(d:D9 A qs)(tq:Jd qs=qs)(q0:qs≠[])(c:1<=A)(H:4*((ps.length+2)*(A+1))<=1000000000):
 Sqs ps/\Sqs qs/\(∀i,i<=ps.length+1-qs.length->Sq (Xe (cf qs (qs.length-1))^i))/\(∀i,Sq (cf ps i*D3 ps qs))/\Sqs (YD ps qs)/\(∀i,DM A (cf qs i))/\
 ∃l:Int,Dvn 1 1 l ((ps.length+2)*A+1) A (YD ps qs) qs:=by
 have B:(ps.length+2)*(A+1)=(ps.length+2)*A+(ps.length+2):=by rw[AJ,Fg]
 have I:0<qs.length:=Ai.2 q0;obtain⟨l,o,j⟩:=d (qs.length-1);have s:l≠0:=λe=>by
  have:=Jw tq q0;rw[j,e]at this;exact this rfl
 have q:Xe (cf qs (qs.length-1))=((l.natAbs:Int):Rat):=by
  rw[j];unfold Xe;have a:((l:Rat)<0)↔l<0:=by
   rw[show(0:Rat)=((0:Int):Rat)from rfl];exact Rat.intCast_lt_intCast
  split
  . rename_i h;rw[a]at h;rw[<-Rat.intCast_neg];congr 1;omega
  . rename_i h;rw[a]at h;congr 1;omega
 have m:∀i:Nat,∃z:Int,Sm (i*A+1) z/\Xe (cf qs (qs.length-1))^i=(z:Rat):=λi=>by
  refine⟨(l.natAbs:Int)^i,?_,?_⟩
  . refine Sm.powZ ?_ i;unfold Sm at o ⊢;rwa[Ch]
  . rw[q,Rat.intCast_pow]
 have n:∀(k:Nat) (z:Int),Sm k z->k<=1000000000->1<=k->Sq (z:Rat):=λk z x w a=>Sq.of ((Mr (D:=1) DB x (by rw[show((1:Int):Rat)=1 from rfl,Rat.mul_one])).smq DB (Sm.one k a)) w;have G:ps.length+1-qs.length<=ps.length:=Y
 have r:∀i:Nat,i<=ps.length->i*A<=(ps.length+2)*A:=λi v=>Aj _ Y;have f:D9 ((ps.length+2)*A+1) (YD ps qs):=λi=>by
  obtain⟨z,a,b⟩:=p i;obtain⟨y,g,t⟩:=m (ps.length+1-qs.length);refine⟨z*y,(a.mul g).mono ?_,?_⟩
  . have u:(ps.length+1-qs.length+1)*A<=(ps.length+2)*A:=Aj _ Y;rw[AG,Cu]at u;omega
  . unfold YD D3;rw[XH,b,t,Cz]
 have hA9:A<=(ps.length+2)*A:=by
  have:1*A<=(ps.length+2)*A:=Aj _ Y
  omega
 refine⟨Sqs.of λi=>Sq.of (p.smq c i) Y,Sqs.of λi=>Sq.of (d.smq c i) Y,λi v=>?_,λi=>?_,Sqs.of λi=>Sq.of (f.smq Y i) Y,d.smq c,l,?_⟩
 . obtain⟨z,a,b⟩:=m i;rw[b];exact n _ z a (by have:=r i Y;omega) Y
 . obtain⟨z,a,b⟩:=f i;have g:cf ps i*D3 ps qs=(z:Rat):=by rw[<-b];unfold YD;rw[XH]
   rw[g];exact n _ z a Y Y
 . refine⟨DB,Sm.one _ Y,f.cdl,DB,Sm.one _ c,d.cdl,s,o,?_⟩;rw[j,CL,show((1:Int):Rat)=1 from rfl];grind
theorem Zq(tp:Jd ps=ps)(tq:Jd qs=qs)(q0:qs≠[]):(YD ps qs).length=ps.length:=Ye (Ms tq q0) tp
theorem Zs(A:Nat)(va vb:X)(ps qs:List Rat)(w:R)(ha:Jf w va ps)(hb:Jf w vb qs)(wp:D9 A ps)(wq:D9 A qs)(tp:Jd ps=ps)(tq:Jd qs=qs)(q0:qs≠[])(hA:1<=A)(an:4*((ps.length+2)*(A+1))<=1000000000)(hr:Ln A (JF ps qs)):
 Calls S 138 #[va,vb] w λe w'=>∃u,e=.returned u/\Jf w' u (YK ps qs)/\Bl w w':=by
 obtain⟨s1,s2,s3,s4,s5,s6,l,ae⟩:=Zp wp wq tq q0 hA an;have b1:(ps.length+2)*(A+1)=(ps.length+2)*A+(ps.length+2):=by rw[AJ,Fg]
 obtain⟨m,hm⟩:=ex ((YD ps qs).length-(qs.length-1));have Qk:m<=ps.length:=by rw[Zq tp tq q0]at hm;omega
 have b2:m*(A+1)<=ps.length*(A+1):=Aj _ Qk;have b3:(ps.length+2)*(A+1)=ps.length*(A+1)+2*(A+1):=AG _ _ _;have Qp:=Ja (λ(V:R) (x y:X) (hx:Jf V x (YD ps qs)) (hy:Jf V y qs)=>P5 A x y (YD ps qs) qs V hx hy s5 s6 (JM _ _) tq q0 (by
  rw[hm];exact ae.sizes Y))
 have Qe:=(ae.rem hm).1;have Qc:=ae.den m;have Ql:=Ja λ(V:R) (x:X) (hx:Jf V x (JF (YD ps qs) qs))=>Mv (1*l^m) ((ps.length+2)*A+1+m*(A+1)+1) x (JF (YD ps qs) qs) V hx (Y5 _ _) Qc.1 Qc.2 (λi=>(Qe i).mono Y) Y;have Qd:=P2 tq q0 hr;have Qh:Sqs (JK (JF (YD ps qs) qs)):=Sqs.of λi=>Sq.of (Qd.1.smq hA i) Y;have Qj:Sqs (Yi [] (JK (JF (YD ps qs) qs))):=Sqs.of λi=>Sq.of (Qd.2.smq hA i) Y;have Qf:=Ja λ(V:R) (y:X) (hy:Jf V y (JK (JF (YD ps qs) qs)))=>U6 _ y [] (JK (JF (YD ps qs) qs)) V (P6 V) hy (Sqs.of λi=>by rw[Xb];exact F6) Qh Qj;have Qm:=Ja λ(V:R) (x y:X) (hx:Jf V x ps) (hy:Jf V y qs)=>Zo x y ps qs V hx hy s1 s2 q0 s3 s4;clear s1 s2 s3 s4 s5 s6 ae b1 hm Qk b2 b3 Qe Qc Qd Qh Qj wp wq tp tq q0 hA an hr;have Qo:Tryz.prog.follows .mixedOrders=true:=by kernel_rfl
 obtain⟨P,la,Q,rfl⟩:=ha.form;obtain⟨I,lb,L,rfl⟩:=hb.form;have M0:=(((Mem.nil w).push (.cell 25 (E P la Q)) (cs:=#[E P la Q]) ⟨rfl,rfl⟩).push (.cell 25 (E I lb L)) (cs:=#[E I lb L]) ⟨rfl,rfl⟩).push (.cell 25 (E none 0 0)) (cs:=#[E none 0 0]) ⟨rfl,rfl⟩;simp only[Ax]at M0;obtain⟨W0,aj⟩:=ex (((w.alloc (.cells #[E P la Q] 25)).alloc (.cells #[E I lb L] 25)).alloc (.cells #[E none 0 0] 25));obtain⟨Qg,HP,HQ⟩:=DX aj (λ(V:R) (hB:Bl w V)=>ha.below hB) λ(V:R) (hB:Bl w V)=>hb.below hB;have M1:Hid (Mem w W0 [some (w.heap.size,.cell 25 (E P la Q)),some (w.heap.size+1,.cell 25 (E I lb L)),some (w.heap.size+1+1,.cell 25 (E none 0 0))]):=Ja (by rw[<-aj];exact M0);clear M0 aj ha hb;go_enter Tryz.func138,Tryz.ntmps138
 go_upto_region 1 with fail
 rw[Qg.o];clear Qg;refine Jn Qo [[],[],[0,1],[],[2,3,2],[4],[5],[5],[5],[],[],[9,6,4,0,1,2,3,4,5,6,9,10],[10,7,11,0,1,2,3,4,5,6,7,9,10,11],[8,12,0,1,2,3,4,5,6,7,8,9,10,11,12]] (by kernel_rfl) DB
  (λD ai V=>∃(tn ta tb tc td tm te tg ti tj tk tl:X) (x9 ad:Option (Nat × Dat)),ai={ tmps:=#[M #[E P la Q],M #[E I lb L],C (some ⟨w.heap.size,0,none⟩),C (some ⟨w.heap.size+1,0,none⟩),C (some ⟨w.heap.size+1+1,0,none⟩),tj,tk,tl,tm,tn,ta,tb,tc,td,te,tg,ti,F,F,F,F],defers:=[] }/\Hid ((D 0=true->tn=M #[E P la Q])/\(D 1=true->ta=M #[E I lb L])/\(D 2=true->Has V tb (.poly (YD ps qs)))/\(D 3=true->tc=M #[E I lb L])/\(D 4=true->Tup2 V td (.poly (Js (YD ps qs) qs)) (.poly (JF (YD ps qs) qs)))/\(D 5=true->Tup2 V tm (.poly (Js (YD ps qs) qs)) (.poly (JF (YD ps qs) qs)))/\(D 6=true->Has V te (.poly (Js (YD ps qs) qs)))/\(D 7=true->Has V tg (.poly (JF (YD ps qs) qs)))/\(D 8=true->ti=T true)/\((D 9=false->x9=none)/\(D 9=true->D 11=false->∃B:Nat,tj=C (some ⟨B,0,none⟩)/\x9=some (B,.poly []))/\(D 11=true->∃B:Nat,tj=C (some ⟨B,0,none⟩)/\x9=some (B,.poly (Js (YD ps qs) qs))))/\((D 10=false->ad=none)/\(D 10=true->D 12=false->∃B:Nat,tk=C (some ⟨B,0,none⟩)/\ad=some (B,.poly []))/\(D 12=true->∃B:Nat,tk=C (some ⟨B,0,none⟩)/\ad=some (B,.poly (JF (YD ps qs) qs))))/\(D 13=true->tl=T true))/\Hid (Mem w V [some (w.heap.size,.cell 25 (E P la Q)),some (w.heap.size+1,.cell 25 (E I lb L)),some (w.heap.size+1+1,.cell 25 (E none 0 0)),x9,ad]))
  ⟨_,_,_,_,_,_,_,_,_,_,_,_,none,none,rfl,Ja ⟨Z,Z,Z,Z,Z,Z,Z,Z,Z,Z,Z,Z⟩,Ja (((M1.o).none).none).drew⟩ ?step1 ?fin1
 case step1=>
  rintro D ai V i ds ap hi d U ⟨tn,ta,tb,tc,td,tm,te,tg,ti,tj,tk,tl,x9,ad,rfl,b,f⟩;have ba:i<14:=(Ad.1 hi).1;obtain rfl|rfl|rfl|rfl|rfl|rfl|rfl|rfl|rfl|rfl|rfl|rfl|rfl|rfl:=FI i Y
  all_goals
   simp only[Ag,Af,Ak]at hi;subst hi
  . have e0:=(f.o.cell (i:=0) rfl).1.cell;clear d;refine Za ?_;exact⟨_,_,_,_,_,_,_,_,_,_,_,_,_,_,rfl,(DZ b),Ja (f.o)⟩
  . have e0:=(f.o.cell (i:=1) rfl).1.cell;clear d;refine Za ?_;exact⟨_,_,_,_,_,_,_,_,_,_,_,_,_,_,rfl,(Dg b),Ja (f.o)⟩
  . obtain rfl:=(b.o.1 (d 0 Z));obtain rfl:=(b.o.2.1 (d 1 Z));have HC:=Ja (Qm.o V _ _ (HP.o V f.o.2.2) (HQ.o V f.o.2.2));clear d;refine Jb rfl rfl λK hK=>?_;go_simp;go_wp2_with(go_at_call 182;refine HC.o.mono ?_;rintro e w5 ⟨v5,rfl,am,g⟩)
    obtain⟨_,_,_,G,H,j,k,o,q⟩:=b.o;exact⟨_,_,_,_,_,_,_,_,_,_,_,_,_,_,rfl,Ja ⟨λ_=>rfl,λ_=>rfl,λ_=>am,G,λh=>(H h).below g,λh=>(j h).below g,λh=>(k h).below g,λh=>(o h).below g,q⟩,Ja (f.o.below g)⟩
  . have e0:=(f.o.cell (i:=1) rfl).1.cell;clear d;refine Za ?_;exact⟨_,_,_,_,_,_,_,_,_,_,_,_,_,_,rfl,(Da b),Ja (f.o)⟩
  . have h0:=(b.o.2.2.1 (d 2 Z));obtain rfl:=(b.o.2.2.2.1 (d 3 Z));have HC:=Ja (Qp.o V _ _ h0 (HQ.o V f.o.2.2));clear d h0;refine Jb rfl rfl λK hK=>?_;go_simp;go_wp2_with(go_at_call 139;refine HC.o.mono ?_;rintro e w5 ⟨v5,v6,rfl,am,ay,g⟩)
    obtain⟨s,t,z,_,_,j,k,o,q⟩:=b.o;exact⟨_,_,_,_,_,_,_,_,_,_,_,_,_,_,rfl,Ja ⟨s,t,λh=>(z h).below g,λ_=>rfl,λ_=>⟨v5,v6,rfl,am,ay⟩,λh=>(j h).below g,λh=>(k h).below g,λh=>(o h).below g,q⟩,Ja (f.o.below g)⟩
  . have h0:=(b.o.2.2.2.2.1 (d 4 Z));clear d;refine Za ?_;exact⟨_,_,_,_,_,_,_,_,_,_,_,_,_,_,rfl,(Ds b λ_=>h0),Ja (f.o)⟩
  . obtain⟨y1,y2,rfl,h1,h2⟩:=((Dl b) (d 5 Z));clear d;refine Za ?_;exact⟨_,_,_,_,_,_,_,_,_,_,_,_,_,_,rfl,(Dy b λ_=>h1),Ja (f.o)⟩
  . obtain⟨y1,y2,rfl,h1,h2⟩:=((Dl b) (d 5 Z));clear d;refine Za ?_;exact⟨_,_,_,_,_,_,_,_,_,_,_,_,_,_,rfl,(ED b λ_=>h2),Ja (f.o)⟩
  . obtain⟨y1,y2,rfl,h1,h2⟩:=((Dl b) (d 5 Z));clear d;refine Za ?_;exact⟨_,_,_,_,_,_,_,_,_,_,_,_,_,_,rfl,(EE b),Ja (f.o)⟩
  . have hf:D 11=false:=DF ap U;obtain rfl:=b.o.2.2.2.2.2.2.2.2.2.1.1 U;clear d;refine Za ?_;obtain⟨s,t,z,G,H,j,k,o,q,_,af⟩:=b.o;exact⟨_,_,_,_,_,_,_,_,_,_,_,_,_,_,rfl,Ja ⟨s,t,λh=>(z h).alloc _,G,λh=>(H h).alloc _,λh=>(j h).alloc _,λh=>(k h).alloc _,λh=>(o h).alloc _,q,⟨λh=>by simp at h,λ_ _=>⟨_,rfl,rfl⟩,λh=>by simp[hf]at h⟩,af⟩,Ja (f.o.fill (i:=3) rfl (.poly []) (K7 _))⟩
  . have hf:D 12=false:=DF ap U;obtain rfl:=b.o.2.2.2.2.2.2.2.2.2.2.1.1 U;clear d;refine Za ?_;obtain⟨s,t,z,G,H,j,k,o,q,G9,_,ah⟩:=b.o;exact⟨_,_,_,_,_,_,_,_,_,_,_,_,_,_,rfl,Ja ⟨s,t,λh=>(z h).alloc _,G,λh=>(H h).alloc _,λh=>(j h).alloc _,λh=>(k h).alloc _,λh=>(o h).alloc _,q,G9,⟨λh=>by simp at h,λ_ _=>⟨_,rfl,rfl⟩,λh=>by simp[hf]at h⟩,ah⟩,Ja (f.o.fill (i:=4) rfl (.poly []) (K7 _))⟩
  . obtain⟨B,rfl,rfl⟩:=b.o.2.2.2.2.2.2.2.2.2.1.2.1 (d 9 Z) U;have Qb:=d 9 Z;have hv:=((D5 b) (d 6 Z));obtain⟨a1,l1,c1,rfl⟩:=Jf.form (show Jf V _ _ from hv);obtain⟨a,l,c,n,r⟩:=f.o.poly2 (i:=3) rfl;have e0:=n.cell;have f0:=n.frozen;clear d;refine Za ?_;obtain⟨s,t,z,G,H,j,k,o,q,_,af⟩:=b.o;exact⟨_,_,_,_,_,_,_,_,_,_,_,_,_,_,rfl,Ja ⟨s,t,λh=>(z h).set1 n rfl _,G,λh=>(H h).set1 n rfl _,λh=>(j h).set1 n rfl _,λh=>(k h).set1 n rfl _,λh=>(o h).set1 n rfl _,q,⟨λh=>by simp[Qb]at h,λ_ h=>by simp at h,λ_=>⟨B,rfl,rfl⟩⟩,af⟩,Ja (f.o.putPoly (i:=3) rfl hv)⟩
  . obtain⟨B,rfl,rfl⟩:=b.o.2.2.2.2.2.2.2.2.2.2.1.2.1 (d 10 Z) U;have Qb:=d 10 Z;have hv:=((Er b) (d 7 Z));obtain⟨a1,l1,c1,rfl⟩:=Jf.form (show Jf V _ _ from hv);obtain⟨a,l,c,n,r⟩:=f.o.poly2 (i:=4) rfl;have e0:=n.cell;have f0:=n.frozen;clear d;refine Za ?_;obtain⟨s,t,z,G,H,j,k,o,q,G9,_,ah⟩:=b.o;exact⟨_,_,_,_,_,_,_,_,_,_,_,_,_,_,rfl,Ja ⟨s,t,λh=>(z h).set1 n rfl _,G,λh=>(H h).set1 n rfl _,λh=>(j h).set1 n rfl _,λh=>(k h).set1 n rfl _,λh=>(o h).set1 n rfl _,q,G9,⟨λh=>by simp[Qb]at h,λ_ h=>by simp at h,λ_=>⟨B,rfl,rfl⟩⟩,ah⟩,Ja (f.o.putPoly (i:=4) rfl hv)⟩
  . obtain rfl:=((Ee b) (d 8 Z));clear d;refine Za ?_;exact⟨_,_,_,_,_,_,_,_,_,_,_,_,_,_,rfl,(Gn (EE b)),Ja (f.o)⟩
 rintro D ai V2 N ⟨tn,ta,tb,tc,td,tm,te,tg,ti,tj,tk,tl,x9,ad,rfl,b,f⟩;obtain⟨B3,rfl,rfl⟩:=b.o.2.2.2.2.2.2.2.2.2.1.2.2 (N 11 DB);obtain⟨B4,rfl,rfl⟩:=b.o.2.2.2.2.2.2.2.2.2.2.1.2.2 (N 12 DB);obtain rfl:=b.o.1 (N 0 DB);obtain rfl:=b.o.2.1 (N 1 DB);obtain rfl:=b.o.2.2.2.1 (N 3 DB);obtain rfl:=Ee b (N 8 DB);obtain rfl:=b.o.2.2.2.2.2.2.2.2.2.2.2 (N 13 DB);clear b N M1;have M2:Hid (Mem w V2 [some (w.heap.size,.cell 25 (E P la Q)),some (w.heap.size+1,.cell 25 (E I lb L)),some (w.heap.size+1+1,.cell 25 (E none 0 0)),some (B3,.poly (Js (YD ps qs) qs)),some (B4,.poly (JF (YD ps qs) qs))]):=f;clear f;obtain⟨a5,l5,c5,W,r5⟩:=M2.o.poly2 (i:=4) rfl;have az:=W.cell;have n1:=(M2.o.cell (i:=2) rfl).1;have Qi:=Ja M2.o.2.2;have H1:=Ja (Ql.o V2 _ r5);clear Ql;go_wp2_with(first
  |(go_at_call 137;refine H1.o.mono ?_;clear H1;rintro e w4 ⟨u4,rfl,ax,aq⟩)
  |(go_at_call 90;refine(Qf.o _ _ ax).mono ?_;clear Qf;rintro e w5 ⟨u5,rfl,ak,_,aw⟩;have g:=Bt aq aw;obtain⟨a7,l7,c7,rfl⟩:=ak.form;have W:=boxed_below n1 g;have x0:=W.cell;have x1:=W.frozen;have Qq:=Ja (K8 W (x:=E a7 l7 c7) ak);have Qn:=Ja ((Bt Qi.o g).setCell (p:=⟨w.heap.size+1+1,0,none⟩) (by show w.heap.size<=w.heap.size+1+1;omega) (E a7 l7 c7));clear ak g W))
 exact BA (v:=M #[E a7 l7 c7]) (by simp[results,Tryz.results138,go_sem,x0]) rfl ⟨_,rfl,Qq.o,Qn.o⟩
end M3
section
def EA:Nat->List Rat->List Rat->List (List Rat)
 |0,a,_=>[a]
 |n+1,a,b=>if b=[]then [a]else a::EA n b (YK a b)
theorem Zt:∀(n m:Nat) (a b:List Rat),Jd b=b->b.length<=n->b.length<=m->EA n a b=EA m a b:=by
 intro n;induction n with
 |zero=>
  intro m a b _ h _;have d:b=[]:=Ky Y;subst d;cases m with
  |zero=>rfl
  |succ m=>simp[EA]
 |succ n e=>
  intro m a b tb h f;by_cases c:b=[]
  . subst c;cases m with
    |zero=>simp[EA]
    |succ m=>simp[EA]
  . have hl:0<b.length:=Ai.2 c;cases m with
    |zero=>omega
    |succ m=>
     have g:=Xt (a:=a) tb c;simp only[EA,BC c];rw[e m b (YK a b) (Hg _ _) Y Y]
def ER(a b:List Rat):List (List Rat):=EA b.length a b
theorem II(a:List Rat):ER a []=[a]:=rfl
theorem XR{a b:List Rat}(tb:Jd b=b)(c:b≠[]):ER a b=a::ER b (YK a b):=by
 have e:=Xt (a:=a) tb c;have hl:0<b.length:=Ai.2 c;unfold ER;obtain⟨n,d⟩:∃n,b.length=n+1:=⟨b.length-1,Y⟩;rw[d,EA,BC c];congr 1;exact Zt _ _ _ _ (Hg _ _) Y (Aa _)
def X3(p q:List Rat):List (List Rat):=ER (JK p) (JK q)
open Go.RowKit Go.Shelf
theorem Jf.setB{V:R}{v:X}{ps:List Rat}(h:Jf V v ps){B:Nat}{a:Option Addr}{l c:Nat}(b:Boxed V B 25 (E a l c)){u:X}:Jf (V.setCell ⟨B,0,none⟩ u) v ps:=M3.K8 b h
end
namespace M3
open Go.RowKit Go.Shelf
attribute [local go_sem] Oper.semAt_some
def DY(V:R)(B:Nat)(a:Option Addr)(l c:Nat):Prop:=Boxed V B 25 (E a l c)
section
variable {V V':World} {B B':Nat} {a a':Option Addr} {l c l' c':Nat}
theorem DY.cell(h:DY V B a l c):V.cell? ⟨B,0,none⟩=some (E a l c):=Boxed.cell h
theorem DY.frozen(h:DY V B a l c):V.frozen? ⟨B,0,none⟩=false:=Boxed.frozen h
theorem DY.below(h:DY V B a l c)(b:Bl V V'):DY V' B a l c:=boxed_below h b
theorem DY.far(h:DY V B a l c)(b:B≠B'){u:X}:DY (V.setCell ⟨B',0,none⟩ u) B a l c:=Bx.far (cs:=#[E a l c]) h (p:=⟨B',0,none⟩) b u
theorem DY.put(h:DY V B a l c):DY (V.setCell ⟨B,0,none⟩ (E a' l' c')) B a' l' c':=(show Boxed V B 25 (E a l c)from h).set _
end
def GB(G:List (List Rat)->R->Prop):Prop:=∀H W W',G H W->Bl W W'->G H W'
def I5(B4 B5:Nat)(G:List (List Rat)->R->Prop):Prop:=∀H W B a l c u,B=B4\/B=B5->DY W B a l c->G H W->G H (W.setCell ⟨B,0,none⟩ u)
def FT(B4 B5:Nat)(G:List (List Rat)->R->Prop)(H:List (List Rat))(V:R)(v4 v5:X)(p q:List Rat):Prop:=(GB G/\I5 B4 B5 G)/\G H V/\Jf V v4 p/\Jf V v5 q
section
variable {B4 B5:Nat} {G:List (List Rat)->World->Prop} {H:List (List Rat)} {V V':World} {v4 v5:Value} {p q:List Rat}
theorem FT.below(h:FT B4 B5 G H V v4 v5 p q)(a:Bl V V'):FT B4 B5 G H V' v4 v5 p q:=⟨h.1,h.1.1 _ _ _ h.2.1 a,h.2.2.1.below a,h.2.2.2.below a⟩
theorem FT.put(h:FT B4 B5 G H V v4 v5 p q){B:Nat}(d:B=B4\/B=B5){a:Option Addr}{l c:Nat}(b:DY V B a l c){u:X}:FT B4 B5 G H (V.setCell ⟨B,0,none⟩ u) v4 v5 p q:=⟨h.1,h.1.2 _ _ _ _ _ _ _ d b h.2.1,h.2.2.1.setB b,h.2.2.2.setB b⟩
end
def K9(V:R)(B:Nat)(r:List Rat):Prop:=∃a l c,DY V B a l c/\Jf V (M #[E a l c]) r
theorem K9.below{V V':R}{B:Nat}{r:List Rat}(h:K9 V B r)(b:Bl V V'):K9 V' B r:=by
 obtain⟨a,l,c,d,e⟩:=h;exact⟨a,l,c,d.below b,e.below b⟩
def I6(V:R)(B:Nat):Nat:=match V.cell? ⟨B,0,none⟩with|some (E _ l _)=>l|_=>0
variable{p q:List Rat}{K c l:Nat}{a:Option Addr}{V:R}
theorem DY.len{B:Nat}(h:DY V B a l c):I6 V B=l:=by
 unfold I6;rw[h.cell]
theorem P8{ps:List Rat}(h:Jf V (M #[E a l c]) ps):l=ps.length:=h.row.forms.1
theorem chnL_head(a b:List Rat):∃t,ER a b=a::t:=by
 unfold ER;cases b.length with
 |zero=>exact⟨_,rfl⟩
 |succ n=>
  rw[EA];split
  . exact⟨_,rfl⟩
  . exact⟨_,rfl⟩
def Zu(B4 B5 n l:Nat)(C:List (List Rat))(G:List (List Rat)->R->Prop):Prop:=∀H W a c b d g f p q,H++[p] <+: C->B4<W.heap.size->B5<W.heap.size->G H W->DY W B4 a c b->DY W B5 d g f->Jf W (M #[E a c b]) p->Jf W (M #[E d g f]) q->
 YieldAt Fence.wide (n-1) S l #[M #[E a c b]] W λe W'=>e=.returned (T true)/\G (H++[p]) W'/\DY W' B4 a c b/\DY W' B5 d g f/\Jf W' (M #[E a c b]) p/\Jf W' (M #[E d g f]) q
structure ChOk(K:Nat)(p q:List Rat):Prop where
 tp:Jd p=p
 tq:Jd q=q
 cp:∃D:Int,D≠0/\Sm K D/\EL D K p
 cq:∃D:Int,D≠0/\Sm K D/\EL D K q
 le:4*((max p.length q.length+2)*(DV K p q+1))<=1000000000
 ln:max p.length q.length<=1000
theorem ChOk.lp(h:ChOk K p q):Ln K p:=by obtain⟨D,a,_,b⟩:=h.cp;exact b.ln a
theorem ChOk.lq(h:ChOk K p q):Ln K q:=by obtain⟨D,a,_,b⟩:=h.cq;exact b.ln a
theorem ChOk.bd(h:ChOk K p q):DV K p q<=1000000000/\K<=1000000000/\p.length+q.length<=1000000000/\1<=DV K p q:=by
 have a:=h.le;have b:=Mu K p q;have c:1*(DV K p q+1)<=(max p.length q.length+2)*(DV K p q+1):=Aj _ Y;have d:(max p.length q.length+2)*1<=(max p.length q.length+2)*(DV K p q+1):=As _ Y;omega
theorem Zv(K n:Nat)(hn:1<=n)(Bp Bq:Nat)(pa qa:Option Addr)(pl pc ql qc:Nat)(p q:List Rat)(o:ChOk K p q)(l:Nat)(Gf:Nat->Nat->List (List Rat)->R->Prop)(w:R)(ay:DY w Bp pa pl pc)(az:DY w Bq qa ql qc)(ip:Jf w (M #[E pa pl pc]) p)(iq:Jf w (M #[E qa ql qc]) q)
(aq:∀B4 B5,GB (Gf B4 B5))(aw:∀B4 B5,w.heap.size<=B4->w.heap.size<=B5->I5 B4 B5 (Gf B4 B5))(hY:∀B4 B5,w.heap.size<=B4->w.heap.size<=B5->Zu B4 B5 n l (X3 p q) (Gf B4 B5))(h0:∀B4 B5 V,w.heap.size<=B4->w.heap.size<=B5->Bl w V->Gf B4 B5 [] V):
 CallsIn Fence.wide n S 136 (#[.func (.yield l) #[] #[]]++#[C (some ⟨Bp,0,none⟩),C (some ⟨Bq,0,none⟩)]) w λe W'=>(∃v,e=.returned v)/\∃B4 B5 H a,(w.heap.size<=B4/\w.heap.size<=B5)/\Gf B4 B5 (H++[a]) W'/\X3 p q=H++[a]/\Chn p q (DV K p q) a []:=by
 have Qq:Tryz.prog.follows .mixedOrders=true:=by kernel_rfl
 have Qy:=Ja λ(V:R) (hB:Bl w V)=>(ay.below hB).cell;have Qp:=Ja λ(V:R) (hB:Bl w V)=>(az.below hB).cell;have Qw:=Ja (λ(V:R) (hB:Bl w V)=>show Calls S 137 #[M #[E pa pl pc]] V λe w'=>∃u,e=.returned u/\Jf w' u (JK p)/\Bl V w' by
  obtain⟨D,h1,h2,h3⟩:=o.cp;exact Mv D K _ p V (ip.below hB) o.tp h1 h2 h3 o.bd.2.1)
 have Qo:=Ja (λ(V:R) (hB:Bl w V)=>show Calls S 137 #[M #[E qa ql qc]] V λe w'=>∃u,e=.returned u/\Jf w' u (JK q)/\Bl V w' by
  obtain⟨D,h1,h2,h3⟩:=o.cq;exact Mv D K _ q V (iq.below hB) o.tq h1 h2 h3 o.bd.2.1)
 obtain⟨Qx,Qz,Ua⟩:=DX h0 (Chn.start o.tp o.tq o.lp o.lq o.bd.2.2.1) λ(a b:List Rat) (h:Chn p q (DV K p q) a b) (hb:b≠[])=>Chn.next o.tp o.tq o.lp o.lq o.bd.2.2.1 h hb;have Uj:=Ja (λ(V:R) (x y:X) (a b:List Rat) (hx:Jf V x a) (hy:Jf V y b) (h:Chn p q (DV K p q) a b) (hb:b≠[])=>Zs (DV K p q) x y a b V hx hy h.wa h.wb h.ta h.tb hb o.bd.2.2.2 (by
  have h1:=h.la;have h2:(a.length+2)*(DV K p q+1)<=(max p.length q.length+2)*(DV K p q+1):=Aj _ Y;have h3:=o.le;omega) (h.nx hb))
 have Qu:=Ja (show ∀B4 B5,w.heap.size<=B4->w.heap.size<=B5->GB (Gf B4 B5)/\I5 B4 B5 (Gf B4 B5)from λB4 B5 h4 h5=>⟨aq B4 B5,aw B4 B5 h4 h5⟩);have Qr:=Ja hY;have M1:Hid (Mem w w []):=Ja (Mem.nil w);clear o ay az ip iq aq aw hY h0;refine Bn Tryz.func136 rfl trivial ?_ rfl;simp only[Tryz.ntmps136,Ar,Ah,Au,Nat.reduceAdd,Nat.reduceSub,Av,Aw,AH,AA,Ap,AC];gi_wp2_with fail
 refine JP Qq [[],[0],[],[2,1],[],[],[4,1,3,0,1,4,5],[5,3,6,0,1,2,3,4,5,6]] (by kernel_rfl) DB
  (λD ah V=>∃(tk tl tm tn ti tj:X) (A g:Option (Nat × Dat)),ah={ tmps:=#[.func (Fn.yield l) #[] #[],C (some ⟨Bp,0,none⟩),C (some ⟨Bq,0,none⟩),F,ti,tj,tk,tl,tm,tn,F,F,F,F,F,F,F,F,F,F,F,F],defers:=[] }/\Hid ((D 0=true->tk=M #[E pa pl pc])/\(D 1=true->Has V tl (.poly (JK p)))/\(D 2=true->tm=M #[E qa ql qc])/\(D 3=true->Has V tn (.poly (JK q)))/\((D 4=false->A=none)/\(D 4=true->D 6=false->∃B:Nat,ti=C (some ⟨B,0,none⟩)/\A=some (B,.poly []))/\(D 6=true->∃B:Nat,ti=C (some ⟨B,0,none⟩)/\A=some (B,.poly (JK p))))/\((D 5=false->g=none)/\(D 5=true->D 7=false->∃B:Nat,tj=C (some ⟨B,0,none⟩)/\g=some (B,.poly []))/\(D 7=true->∃B:Nat,tj=C (some ⟨B,0,none⟩)/\g=some (B,.poly (JK q)))))/\Hid (Mem w V [A,g]))
  ⟨_,_,_,_,_,_,none,none,rfl,Ja ⟨Z,Z,Z,Z,Z,Z⟩,Ja (((M1.o).none).none).drew⟩ ?step1 ?fin1
 case step1=>
  rintro D ah V i ds Q hi f k ⟨tk,tl,tm,tn,ti,tj,A,g,rfl,d,z⟩;have Ug:i<8:=(Ad.1 hi).1;obtain rfl|rfl|rfl|rfl|rfl|rfl|rfl|rfl:=KC i Y
  all_goals
   simp only[Ag,Af,Ak]at hi;subst hi
  . have e0:=Qy.o V z.o.2.2;clear f;refine Zc ?_;exact⟨_,_,_,_,_,_,_,_,rfl,(DZ d),Ja (z.o)⟩
  . obtain rfl:=(d.o.1 (f 0 Z));have HC:=Ja λ(n9:Nat)=>(BH (n:=n9)).2 (Qw.o V z.o.2.2);clear f;refine BM rfl λK hK=>?_;go_simp;gi_wp2_with(refine⟨trivial,?_⟩;gi_at_call 137;refine(HC.o _).mono ?_;rintro e w5 ⟨v5,rfl,aj,ad⟩)
    obtain⟨_,_,G2,G3,G4⟩:=d.o;exact⟨_,_,_,_,_,_,_,_,rfl,Ja ⟨λ_=>rfl,λ_=>aj,G2,λh=>(G3 h).below ad,G4⟩,Ja (z.o.below ad)⟩
  . have e0:=Qp.o V z.o.2.2;clear f;refine Zc ?_;exact⟨_,_,_,_,_,_,_,_,rfl,(DU d),Ja (z.o)⟩
  . obtain rfl:=(d.o.2.2.1 (f 2 Z));have HC:=Ja λ(n9:Nat)=>(BH (n:=n9)).2 (Qo.o V z.o.2.2);clear f;refine BM rfl λK hK=>?_;go_simp;gi_wp2_with(refine⟨trivial,?_⟩;gi_at_call 137;refine(HC.o _).mono ?_;rintro e w5 ⟨v5,rfl,aj,ad⟩)
    obtain⟨G0,G1,_,_,G4⟩:=d.o;exact⟨_,_,_,_,_,_,_,_,rfl,Ja ⟨G0,λh=>(G1 h).below ad,λ_=>rfl,λ_=>aj,G4⟩,Ja (z.o.below ad)⟩
  . have hf:D 6=false:=DF Q k;obtain rfl:=d.o.2.2.2.2.1.1 k;clear f;refine Zc ?_;obtain⟨G0,G1,G2,G3,_,G5⟩:=d.o;exact⟨_,_,_,_,_,_,_,_,rfl,Ja ⟨G0,λh=>(G1 h).alloc _,G2,λh=>(G3 h).alloc _,⟨λh=>by simp at h,λ_ _=>⟨_,rfl,rfl⟩,λh=>by simp[hf]at h⟩,G5⟩,Ja (z.o.fill (i:=0) rfl (.poly []) (K7 _))⟩
  . have hf:D 7=false:=DF Q k;obtain rfl:=Dl d k;clear f;refine Zc ?_;obtain⟨G0,G1,G2,G3,G4,_⟩:=d.o;exact⟨_,_,_,_,_,_,_,_,rfl,Ja ⟨G0,λh=>(G1 h).alloc _,G2,λh=>(G3 h).alloc _,G4,⟨λh=>by simp at h,λ_ _=>⟨_,rfl,rfl⟩,λh=>by simp[hf]at h⟩⟩,Ja (z.o.fill (i:=1) rfl (.poly []) (K7 _))⟩
  . obtain⟨B,rfl,rfl⟩:=d.o.2.2.2.2.1.2.1 (f 4 Z) k;have Qe:=f 4 Z;have hv:=(d.o.2.1 (f 1 Z));obtain⟨a1,l1,c1,rfl⟩:=Jf.form (show Jf V _ _ from hv);obtain⟨a,l,c,n,r⟩:=z.o.poly2 (i:=0) rfl;have e0:=n.cell;have f0:=n.frozen;clear f;refine Zc ?_;obtain⟨G0,G1,G2,G3,_,G5⟩:=d.o;exact⟨_,_,_,_,_,_,_,_,rfl,Ja ⟨G0,λh=>(G1 h).set1 n rfl _,G2,λh=>(G3 h).set1 n rfl _,⟨λh=>by simp[Qe]at h,λ_ h=>by simp at h,λ_=>⟨B,rfl,rfl⟩⟩,G5⟩,Ja (z.o.putPoly (i:=0) rfl hv)⟩
  . obtain⟨B,rfl,rfl⟩:=D5 d (f 5 Z) k;have Qe:=f 5 Z;have hv:=(d.o.2.2.2.1 (f 3 Z));obtain⟨a1,l1,c1,rfl⟩:=Jf.form (show Jf V _ _ from hv);obtain⟨a,l,c,n,r⟩:=z.o.poly2 (i:=1) rfl;have e0:=n.cell;have f0:=n.frozen;clear f;refine Zc ?_;obtain⟨G0,G1,G2,G3,G4,_⟩:=d.o;exact⟨_,_,_,_,_,_,_,_,rfl,Ja ⟨G0,λh=>(G1 h).set1 n rfl _,G2,λh=>(G3 h).set1 n rfl _,G4,⟨λh=>by simp[Qe]at h,λ_ h=>by simp at h,λ_=>⟨B,rfl,rfl⟩⟩⟩,Ja (z.o.putPoly (i:=1) rfl hv)⟩
 rintro D ah V2 ae ⟨tk,tl,tm,tn,ti,tj,A,g,rfl,d,z⟩;obtain⟨j,rfl,rfl⟩:=d.o.2.2.2.2.1.2.2 (ae 6 DB);obtain⟨B4,rfl,rfl⟩:=d.o.2.2.2.2.2.2.2 (ae 7 DB);obtain rfl:=d.o.1 (ae 0 DB);obtain rfl:=d.o.2.2.1 (ae 2 DB);clear d ae M1;have M2:Hid (Mem w V2 [some (j,.poly (JK p)),some (B4,.poly (JK q))]):=z;clear z;obtain⟨a5,N,L,n5,r5⟩:=M2.o.poly2 (i:=0) rfl;obtain⟨a6,l6,c6,n6,r6⟩:=M2.o.poly2 (i:=1) rfl;have Qc:=Ja (show j≠B4/\w.heap.size<=j/\w.heap.size<=B4 from⟨M2.o.ne 0 1 rfl rfl DB,M2.o.ge 0 rfl,M2.o.ge 1 rfl⟩);obtain⟨Ql,Qi,Qm,Qv⟩:=Dw (Qx.o j B4 V2 Qc.o.2.1 Qc.o.2.2 M2.o.2.2) (Qu.o j B4 Qc.o.2.1 Qc.o.2.2) (Qr.o j B4 Qc.o.2.1 Qc.o.2.2) (show ∀H a W,Gf j B4 (H++[a]) W->X3 p q=H++[a]->Chn p q (DV K p q) a []->∃B4 B5 H a,(w.heap.size<=B4/\w.heap.size<=B5)/\Gf B4 B5 (H++[a]) W/\X3 p q=H++[a]/\Chn p q (DV K p q) a []from λH a W h1 h2 h3=>⟨j,B4,H,a,⟨Qc.o.2.1,Qc.o.2.2⟩,h1,h2,h3⟩);clear Qx Qu Qr;obtain⟨G,hG⟩:=ex (Gf j B4);rw[hG]at Ql Qi Qm Qv;clear hG;have Qn:Hid (FT j B4 G [] V2 (M #[E a5 N L]) (M #[E a6 l6 c6]) (JK p) (JK q)):=Ja ⟨Qi.o,Ql.o,r5,r6⟩;have N4:Hid (DY V2 j a5 N L):=Ja n5;have N5:Hid (DY V2 B4 a6 l6 c6):=Ja n6;clear n5 n6 r5 r6 M2 Qw Qo Ql Qy Qp;gi_wp2;gi_loopw [] (λwr=>∃(H:List (List Rat)) (a b:List Rat) (A g:Option Addr) (l4 c4 N L:Nat),Hid (FT j B4 G H wr (M #[E A l4 c4]) (M #[E g N L]) a b)/\Hid (DY wr j A l4 c4)/\Hid (DY wr B4 g N L)/\Hid (Chn p q (DV K p q) a b)/\Hid (X3 p q=H++ER a b)) λwr=>I6 wr B4
 case atStart=>exact⟨[],_,_,_,_,_,_,_,_,Qn,N4,N5,Qz,Ja rfl⟩
 case round=>
  clear Qn N4 N5 Qz;obtain⟨H,a,b,A,g,l4,c4,N,L,HG,H4,H5,HC,HH⟩:=hrel;obtain⟨fn,tmps,assign,body,hy,ax⟩:=Qm.o H wr A l4 c4 g N L a b (by obtain⟨t,ht⟩:=chnL_head a b;exact⟨t,by rw[HH.o,ht];simp⟩) (Bx.lt (cs:=#[E A l4 c4]) H4.o) (Bx.lt (cs:=#[E g N L]) H5.o) HG.o.2.1 H4.o H5.o HG.o.2.2.1 HG.o.2.2.2;have e4:=H4.o.cell;gi_wp2;refine ax.mono ?_;rintro e W3 ⟨rfl,ap,an,am,ba,ak⟩;have Qt:Hid (FT j B4 G (H++[a]) W3 (M #[E A l4 c4]) (M #[E g N L]) a b):=Ja ⟨Qi.o,ap,ba,ak⟩;obtain⟨Up,Um,Qh⟩:=DX (P8 ak) (H5.o.len) (Yd _ b W3 ak);have e5:=am.cell;have Ul:=Ja an;have Uo:=Ja am;clear hy ax e4 ap an am ba ak HG H4 H5;by_cases af:b=[]
  . have HE:=Ja (show X3 p q=H++[a]by rw[HH.o,af];rfl);have Ui:=Ja (show Chn p q (DV K p q) a []by have:=HC.o;rwa[af]at this);rw[af,show((([]:List Rat).length:Int)-1)=-1 from rfl]at Qh;gi_wp2_with(refine⟨trivial,?_⟩;gi_at_call 30;refine((BH (n:=_)).2 Qh.o).mono ?_;clear Qh;rintro e w4 ⟨rfl,ai⟩)
    go_end0;exact⟨⟨_,rfl⟩,Qv.o H a _ (Qt.o.below ai).2.1 HE.o Ui.o⟩
  . obtain⟨m,hm⟩:=ex (b.length-1:Nat);have Qs:(b.length:Int)-1=(m:Int):=by have:=Ai.2 af;omega
    rw[Qs]at Qh;obtain⟨Uh,Uk,Ub,Qj⟩:=Dw (Ua.o a b HC.o af) (Xt (a:=a) HC.o.tb af) (show X3 p q=(H++[a])++ER b (YK a b)by rw[HH.o,XR HC.o.tb af,CR];rfl) λ(V:R) (x y:X) (hx:Jf V x a) (hy:Jf V y b)=>Uj.o V x y a b hx hy HC.o af;have bc:¬(m:Int)<0:=Y
    clear hm Qs af;gi_wp2_with(refine⟨trivial,?_⟩;gi_at_call 30;refine((BH (n:=_)).2 Qh.o).mono ?_;clear Qh;rintro e w4 ⟨rfl,ai⟩)
    have Ud:=(Qt.o.below ai).below ((BF _ w4).drew);have Un:=(Ul.o.below ai).below ((BF _ w4).drew);have Ue:=(Uo.o.below ai).below ((BF _ w4).drew);refine JP Qq [[],[],[],[1,2],[0,3,0,1],[3,4,0,1,2,3,4]] (by kernel_rfl) DB
     (λD ah V=>∃(tc td te tg:X),ah={ tmps:=#[.func (Fn.yield l) #[] #[],C (some ⟨Bp,0,none⟩),C (some ⟨Bq,0,none⟩),F,C (some ⟨j,0,none⟩),C (some ⟨B4,0,none⟩),M #[E pa pl pc],tl,M #[E qa ql qc],tn,.func (Fn.yield l) #[] #[],M #[E A l4 c4],T true,T true,M #[E g N L],.int .i64 ↑m,T true,T true,tc,td,te,tg],defers:=[] }/\Hid ((D 0=true->tc=M #[E g N L])/\(D 1=true->td=M #[E A l4 c4])/\(D 2=true->te=M #[E g N L])/\(D 3=true->D 5=false->Jf V tg (YK a b)))/\Hid (FT j B4 G (H++[a]) V (M #[E A l4 c4]) (M #[E g N L]) a b)/\Hid ((D 4=false->DY V j A l4 c4)/\(D 4=true->DY V j g N L))/\Hid ((D 5=false->DY V B4 g N L)/\(D 5=true->K9 V B4 (YK a b))))
     ⟨_,_,_,_,rfl,Ja ⟨Z,Z,Z,Z⟩,Ja Ud,Ja ⟨λ_=>Un,Z⟩,Ja ⟨λ_=>Ue,Z⟩⟩ ?step7 ?fin7
    case step7=>
     rintro D ah V i ds Q hi f k ⟨tc,td,te,tg,rfl,d,I,P,s⟩;have Ug:i<6:=(Ad.1 hi).1;obtain rfl|rfl|rfl|rfl|rfl|rfl:=LL i Y
     all_goals
      simp only[Ag,Af,Ak]at hi;subst hi
     . have Qf:=I.o;have Qb:=P.o.1 (DF Q k);have U:=s.o.1 (DF Q k);have e0:=U.cell;clear f;refine Zc ?_;exact⟨_,_,_,_,rfl,Ja ⟨λ_=>rfl,d.o.2.1,d.o.2.2.1,d.o.2.2.2⟩,Ja (I.o),P,Ja ⟨s.o.1,s.o.2⟩⟩
     . have Qf:=I.o;have Qb:=P.o.1 (DF Q k);have U:=s.o.1 (DF Q k);have e0:=Qb.cell;clear f;refine Zc ?_;exact⟨_,_,_,_,rfl,Ja ⟨d.o.1,λ_=>rfl,d.o.2.2.1,d.o.2.2.2⟩,Ja (I.o),P,Ja ⟨s.o.1,s.o.2⟩⟩
     . have Qf:=I.o;have Qg:D 4=false:=DF Q (DF (a:=3) Q k);have Qb:=P.o.1 Qg;have U:=s.o.1 (DF Q k);have e0:=U.cell;clear f;refine Zc ?_;exact⟨_,_,_,_,rfl,Ja ⟨d.o.1,d.o.2.1,λ_=>rfl,d.o.2.2.2⟩,Ja (I.o),P,Ja ⟨s.o.1,s.o.2⟩⟩
     . have Qf:=I.o;have Qb:=P.o.1 (DF Q k);have U:=s.o.1 (DF Q k);obtain rfl:=d.o.2.1 (f 1 Z);obtain rfl:=d.o.2.2.1 (f 2 Z);clear f;have HC:=Ja λ(n9:Nat)=>(BH (n:=n9)).2 (Qj.o V _ _ Qf.2.2.1 Qf.2.2.2);refine BM rfl λK hK=>?_;go_simp;gi_wp2_with(refine⟨trivial,?_⟩;gi_at_call 138;refine(HC.o _).mono ?_;rintro e w5 ⟨v5,rfl,aj,ad⟩)
       exact⟨_,_,_,_,rfl,Ja ⟨d.o.1,λ_=>rfl,λ_=>rfl,λ_ _=>aj⟩,Ja (I.o.below ad),Ja ⟨λh=>(P.o.1 h).below ad,λh=>(P.o.2 h).below ad⟩,Ja ⟨λh=>(s.o.1 h).below ad,λh=>(s.o.2 h).below ad⟩⟩
     . have Qf:=I.o;have Qb:=P.o.1 k;have Qd:D 5=false:=DF Q k;have U:=s.o.1 Qd;obtain rfl:=d.o.1 (f 0 Z);have e0:=Qb.cell;have f0:=Qb.frozen;clear f;refine Zc ?_;exact⟨_,_,_,_,rfl,Ja ⟨λ_=>rfl,d.o.2.1,d.o.2.2.1,λh h2=>(d.o.2.2.2 h h2).setB Qb⟩,Ja (I.o.put (Or.inl rfl) Qb),Ja ⟨λh=>by simp at h,λ_=>Qb.put⟩,Ja ⟨λh=>(s.o.1 h).far λe=>Qc.o.1 e.symm,λh=>by simp[Qd]at h⟩⟩
     . have Qf:=I.o;have U:=s.o.1 k;have h0:=d.o.2.2.2 (f 3 Z) k;have Qk:=f 4 Z;have e0:=U.cell;have f0:=U.frozen;obtain⟨x7,l7,c7,rfl⟩:=Jf.form h0;clear f;refine Zc ?_;exact⟨_,_,_,_,rfl,Ja ⟨d.o.1,d.o.2.1,d.o.2.2.1,λ_ h=>by simp at h⟩,Ja (I.o.put (Or.inr rfl) U),Ja ⟨λh=>by simp[Qk]at h,λh=>(P.o.2 h).far Qc.o.1⟩,Ja ⟨λh=>by simp at h,λ_=>⟨x7,l7,c7,U.put,h0.setB U⟩⟩⟩
    case fin7=>
     rintro D ah V ae ⟨tc,td,te,tg,rfl,d,I,P,s⟩;obtain⟨x7,l7,c7,n7,i7⟩:=s.o.2 (ae 5 DB);have n6:=P.o.2 (ae 4 DB);have Uf:Hid (FT j B4 G (H++[a]) V (M #[E g N L]) (M #[E x7 l7 c7]) b (YK a b)):=Ja ⟨Qi.o,I.o.2.1,I.o.2.2.2,i7⟩;obtain⟨Uc,N6,N7⟩:=DX (show I6 V B4<I6 wr B4 by rw[n7.len,Um.o,P8 i7,Up.o];exact Uk.o) n6 n7;clear d I P s ae n6 n7 i7;gi_wp2;go_roundw
     case rel=>exact⟨H++[a],b,YK a b,_,_,_,_,_,_,Uf,N6,N7,Uh,Ub⟩
     case measure=>exact Uc.o
end M3
namespace M3
open Go.RowKit Go.Shelf
attribute [local go_sem] Oper.semAt_some
variable{ps:List Rat}{v:X}{W:R}
theorem Zw(n:Nat)(a d:Option Addr)(c b g f:Nat)(w:R):
 CallsIn Fence.wide n S 87 #[M #[E a c b],M #[E d g f]] w λe i=>e=.returned (.func (.func 136) #[] #[C (some ⟨w.heap.size,0,none⟩),C (some ⟨w.heap.size+1,0,none⟩)])/\i=(w.alloc (.cells #[E a c b] 25)).alloc (.cells #[E d g f] 25):=by
 refine Bn Tryz.func87 rfl trivial ?_ rfl;simp only[Tryz.ntmps87,Ar,Ah,Au,Nat.reduceAdd,Nat.reduceSub,Av,Aw,AH,AA,Ap,AC];gi_wp2;go_ret;exact⟨rfl,rfl⟩
def P9(B B4 B5:Nat)(I:List (List Rat)->R->Prop)(H:List (List Rat))(W:R):Exit->Act->R->Prop
 |.normal,_,W'=>I H W'/\W.heap.size<=W'.heap.size/\(∀(k:Nat) (o:Obj),B<=k->o.isCells=false\/k=B4\/k=B5->W.heap[k]?=some o->W'.heap[k]?=some o)/\∀v ps,Jf W v ps->Jf W' v ps
 |_,_,_=>False
theorem Mw{W':R}{row:Option Nat}(a:W.grownBy W' row)(b:∀r,row=some r->∃o:Obj,W.heap[r]?=some o/\o.isCells=false)(h:Jf W v ps):Jf W' v ps:=by
 obtain⟨u,e,h⟩:=h;exact⟨u,e,XZ a b h⟩
theorem LA{l:Nat}{o a:Obj}(hl:W.heap[l]?=some o)(b:o.isCells=false)(h:Jf W v ps):Jf (W.putObj l a) v ps:=
 Mw (BT W l a) (λr e=>by cases e;exact⟨o,hl,b⟩) h
theorem Zx{g:Operand}{ps:Array Tmp}{assign body:Code}{Q:Exit->Act->R->Prop}{a:Act}{w:R}{n:Nat}
(h1:2<=n){K L N:Nat}{pa qa:Option Addr}{pl pc ql qc:Nat}{p q:List Rat}(bc:ChOk K p q)(aq:DY w L pa pl pc)(aw:DY w N qa ql qc)(ip:Jf w (M #[E pa pl pc]) p)(iq:Jf w (M #[E qa ql qc]) q)
(hg:a.eval g=.func (.func 136) #[] #[C (some ⟨L,0,none⟩),C (some ⟨N,0,none⟩)])(eg:∀args w,(callFunc 136 args).run S w=.ok (.enter 136 args) w)(bg:ps.size=1)
(I:Nat->Nat->List (List Rat)->R->Prop)(hI:∀B4 B5,OwnFrom w.heap.size (I B4 B5))(af:∀B4 B5,GB (I B4 B5))(am:∀B4 B5,w.heap.size<=B4->w.heap.size<=B5->I5 B4 B5 (I B4 B5))(h0:∀B4 B5 V,w.heap.size+2<=B4->w.heap.size+2<=B5->Bl w V->I B4 B5 [] V)(a₁:X->Nat->Act)
(an:∀(l:Nat) (x:Option Addr) (s o:Nat) (W:R) (K:Act->R->Prop),K (a₁ (E x s o) W.heap.size) (W.alloc (.cells #[E x s o] 25))->
  assign.wpIn (Fence.wide.inRound l) (n-1-1) S (Exit.then K λ_ _ _=>False) { tmps:=(ps.zip #[M #[E x s o]]).foldl (λt (p,v)=>t.setIfInBounds p v) a.tmps,defers:=[] } W)
(ap:∀(l b B4 B5:Nat) (x:Option Addr) (s o:Nat) (r:List Rat) (H:List (List Rat)) (W:R),I B4 B5 H W->H++[r] <+: X3 p q->w.heap.size+1<b->B4<b->B5<b->DY W b x s o->Jf W (M #[E x s o]) r->
  body.wpIn (Fence.wide.inRound l) (n-1-1) S (P9 w.heap.size B4 B5 (I B4 B5) (H++[r]) W) (a₁ (E x s o) b) W)
(ay:∀(D B4 B5:Nat) (W:R) (H:List (List Rat)) (r:List Rat),w.heap.size<=D->I B4 B5 (H++[r]) W->X3 p q=H++[r]->Chn p q (DV K p q) r []->W.heap[D]?=some (.deferred (some []))->Q .normal { a with defers:={ target:=.collected D,args:=#[] }::a.defers } W):
 (Code.rangeFunc g ps assign body).wpIn Fence.wide n S Q a w:=by
 refine wpIn_rangeFunc λfn az=>?_;rw[show Fence.wide.round=none from rfl];obtain⟨rc,A⟩:∃rc:LoopState->Option Code->Loop,rc=λst pe=>{ state:=st,pending:=pe,fn,tmps:=a.tmps,params:=ps,assign,body,defers:=w.heap.size }:=⟨_,rfl⟩;obtain⟨V,hV⟩:=ex ((w.alloc (.deferred (some []))).alloc (.loop (rc .ready none)));have vL:V.heap[w.heap.size+1]?=some (.loop (rc .ready none)):=by
  rw[<-hV];have:=BB (w.alloc (.deferred (some []))) (.loop (rc .ready none));rwa[Ax]at this
 have vD:V.heap[w.heap.size]?=some (.deferred (some [])):=by
  rw[<-hV];exact(Be _ _ _ Z).trans (BB w _)
 have Qb:Bl w V:=by rw[<-hV];exact(Ba w _).alloc (by rw[Ax];omega) _
 have bj:V.heap.size=w.heap.size+2:=by rw[<-hV];simp
 refine⟨w.heap.size+1,[{ target:=.collected w.heap.size,args:=#[] }],V,{ target:=.fn (.func 136) #[C (some ⟨L,0,none⟩),C (some ⟨N,0,none⟩)],args:=#[.func (.yield (w.heap.size+1)) #[] #[]] },V,136,
  #[.func (.yield (w.heap.size+1)) #[] #[]]++#[C (some ⟨L,0,none⟩),C (some ⟨N,0,none⟩)],V,?_,?_,?_,?_,λ_=>by omega,?_⟩
 . rw[<-hV,A];exact run_enterLoop_outer _ _ _ _ _
 . simp only[resolve,hg];simp[go_sem]
 . intro f' ah;simp[Target.leads]at ah;subst ah;exact trivial
 . simp[invoke,go_sem,eg]
 refine(Zv K (n-1) Y L N pa qa pl pc ql qc p q bc (w.heap.size+1)
  (λB4 B5 H W=>I B4 B5 H W/\W.heap[w.heap.size+1]?=some (.loop (rc .ready none))/\W.heap[w.heap.size]?=some (.deferred (some [])))
  V (aq.below Qb) (aw.below Qb) (ip.below Qb) (iq.below Qb) ?_ ?_ ?_ λB4 B5 U h4 h5 hU=>⟨h0 B4 B5 U Y Y (Qb.trans (hU.mono Y)),(hU.block _ (Ab.1 vL).1).trans vL,(hU.block _ (Ab.1 vD).1).trans vD⟩).mono ?_
 . rintro B4 B5 H W W' ⟨z,hl,d⟩ hb;exact⟨af _ _ _ _ _ z hb,(hb.block _ (Ab.1 hl).1).trans hl,(hb.block _ (Ab.1 d).1).trans d⟩
 . rintro B4 B5 h4 h5 H W B x s o u hB hb ⟨z,hl,d⟩;exact⟨am B4 B5 Y Y _ _ _ _ _ _ _ hB hb z,(BD W ⟨B,0,none⟩ u _ (by show w.heap.size+1≠B;omega)).trans hl,(BD W ⟨B,0,none⟩ u _ (by show w.heap.size≠B;omega)).trans d⟩
 . rintro B4 B5 bh bi H W i m j a5 l5 c5 p4 q5 bf aj ak ⟨z,hl,d⟩ h4 h5 i4 i5;have Qf:w.heap.size+1<W.heap.size:=(Ab.1 hl).1;have hy:=run_yield (P:=S) (args:=#[M #[E i m j]]) hl (by rw[A];exact bg.symm);rw[A]at hy;obtain⟨f,ae⟩:=ex (W.alloc (.cells #[E i m j] 25));have y:Bl W f:=by rw[<-ae];exact Ba W _
   have Qd:f.heap[w.heap.size+1]?=some (.loop (rc .ready none)):=(y.block _ Qf).trans hl;have Ql:f.heap[w.heap.size]?=some (.deferred (some [])):=(y.block _ Y).trans d;have Qj:I B4 B5 H f:=af _ _ _ _ _ z y;have Qh:DY f W.heap.size i m j:=by rw[<-ae];exact BG W 25 (E i m j)
   refine⟨fn,_,assign,body,hy,roundIn_of_wpIn az (an _ _ _ _ W _ ?_)⟩;rw[ae];refine⟨_,run_beginRound Qd (by rw[A]),?_⟩;obtain⟨bx,ax⟩:=ex (W.heap.size);have Qu:=h4.below y;have Qr:=h5.below y;have Qv:=i4.below y;have Qn:=i5.below y;rw[ax]at Qh Qf aj ak ⊢;have Qg:w.heap.size+1<f.heap.size:=(Ab.1 Qd).1;obtain⟨c,G⟩:=ex (f.putObj (w.heap.size+1) (.loop { rc .ready none with state:=.busy }));rw[G];have Qo:c.heap[w.heap.size+1]?=some (.loop { rc .ready none with state:=.busy }):=by rw[<-G];exact BZ Qg
   have Qe:∀k,k≠w.heap.size+1->c.heap[k]?=f.heap[k]?:=λk d=>by rw[<-G];exact BK Y
   have Qt:DY c bx i m j:=(Qe bx Y).trans Qh;have Qk:c.heap[w.heap.size]?=some (.deferred (some [])):=(Qe _ Y).trans Ql;have Qp:I B4 B5 H c:=by rw[<-G];exact(hI B4 B5).putObj _ Qj Y Qd rfl
   have Qq:DY c B4 i m j:=(Qe B4 Y).trans Qu;have Qw:DY c B5 a5 l5 c5:=(Qe B5 Y).trans Qr;have Qi:Jf c (M #[E i m j]) p4:=by rw[<-G];exact LA Qd rfl Qv
   have Qs:Jf c (M #[E a5 l5 c5]) q5:=by rw[<-G];exact LA Qd rfl Qn
   refine wpIn_mono (ap _ bx B4 B5 i m j p4 H c Qp bf Qf aj ak Qt Qi) λe a3 W3 hp=>?_;cases e with
   |normal=>
    obtain⟨ba,bk,ad,ai⟩:=hp;have Qc:=ad _ _ Y (Or.inl rfl) Qo;have hr:=run_endRound (P:=S) none Qc;have Qa:∀k,k≠w.heap.size+1->(W3.putObj (w.heap.size+1) (.loop (rc .ready none))).heap[k]?=W3.heap[k]?:=λk d=>BK Y;have Qm:(Instr.endRound (w.heap.size+1) none).run S W3=.ok (T true) (W3.putObj (w.heap.size+1) (.loop (rc .ready none))):=by
     rw[A]at hr ⊢;exact hr
    exact⟨_,_,Qm,rfl,⟨(hI B4 B5).putObj _ ba Y Qc rfl,BZ (Ab.1 Qc).1,(Qa _ Y).trans (ad _ _ (Aa _) (Or.inl rfl) Qk)⟩,
     (Qa _ Y).trans (ad _ _ Y (Or.inr (Or.inl rfl)) Qq),(Qa _ Y).trans (ad _ _ Y (Or.inr (Or.inr rfl)) Qw),LA Qc rfl (ai _ _ Qi),LA Qc rfl (ai _ _ Qs)⟩
   |ret=>exact hp.elim
   |exit id=>exact hp.elim
   |goto t=>exact hp.elim
   |panic ch=>exact hp.elim
   |outgrown=>exact hp.elim
 . rintro e c ⟨⟨v,rfl⟩,B4,B5,H,r,⟨h4,h5⟩,⟨z,hl,d⟩,hc,hn⟩;exact⟨none,_,by have:=run_endLoop (P:=S) hl (by rw[A];simp);rw[A]at this;exact this,ay _ B4 B5 _ H r (Aa _) ((hI B4 B5).putObj _ z Y hl rfl) hc hn ((BK Y).trans d)⟩
