import Derived.Test.YtakpoihdghihmaaGreatDoorR45
open Go.Value renaming slice->C,pointer->F,bool->G,agg->H,int->P
open Go renaming undef->E,World->R
open Go.Obj renaming cells->I
open Go.IntKind renaming i64->Q
set_option maxRecDepth 100000
set_option maxHeartbeats 16000000
namespace Go.Proofs.YtakpoihdghihmaaGreatDoor
namespace M3
open Go.RowKit Go.Shelf
attribute [local go_sem] Oper.semAt_some
variable{b:Bool}{ps qs:List Rat}{c:Rat}{t:Value}{V:R}
theorem cM(p:List Rat)(n:Nat):((Int.gcd ((YO p n:Nat):Int) (cf p n).num:Nat):Int)=((YO p (n+1):Nat):Int):=rfl
theorem cN(p:List Rat)(n:Nat):((Nat.lcm (Y4 p n) (cf p n).den:Nat):Int)=((Y4 p (n+1):Nat):Int):=rfl
theorem OI(D:Int)(M:Nat)(v:Value)(ps:List Rat)(w:R)(h:Je w v ps)(ak:Jd ps=ps)(hD:D≠0)(af:Sm M D)(aj:EC D M ps)(hM:M<=1000000):
 Calls Tryz.prog 137 #[v] w λe w'=>∃u,e=.returned u/\Je w' u (JI ps)/\Bl w w':=by
 have Qe:Tryz.prog.follows .mixedOrders=true:=by kernel_rfl
 obtain⟨m,la,o,rfl⟩:=h.form;obtain⟨bg,bc,bf,bh,_⟩:=h.row.forms;have Qa:∀i,DT M (cf ps i):=λi=>(aj i).smq hD af;obtain⟨HG,HL,Qb⟩:=Df (λi=>DQ.of (Ra (λj=>(Qa j).1) i) Y:∀i,DQ ((YO ps i:Nat):Int)) (λi=>DQ.of (RZ hD af aj i) Y:∀i,DQ ((Y4 ps i:Nat):Int)) (show DV ps from DV.of λi=>Sq.of (Qa i) hM);have HF:=Ja (show ps≠[]->Sq ((Y4 ps ps.length:Rat)/(YO ps ps.length:Rat))/\∀i,Sq (cf ps i*((Y4 ps ps.length:Rat)/(YO ps ps.length:Rat)))from λk=>by
  have h1:=Rb ak k (aj.ln hD);refine⟨?_,λi=>?_⟩
  . have h2:((Y4 ps ps.length:Rat)/(YO ps ps.length:Rat))=Rat.divInt ((Y4 ps ps.length:Nat):Int) ((YO ps ps.length:Nat):Int):=by rw[CB,AP,AP]
    rw[h2];exact Sq.of (DT.divInt (Int.natCast_ne_zero.2 (Kt ak k)) (RZ hD af aj _) (Ra (λj=>(Qa j).1) _)) hM
  . obtain⟨z,h3,h4⟩:=h1 i;have h5:cf ps i*((Y4 ps ps.length:Rat)/(YO ps ps.length:Rat))=(z:Rat):=by rw[<-h4];unfold JI;rw[Yw]
    rw[h5];have h6:1<=M:=by
     by_cases h7:1<=M
     . exact h7
     . exfalso
       obtain rfl:M=0:=Y
       unfold Sm at af;have:D.natAbs≠0:=Int.natAbs_ne_zero.2 hD;simp at af;omega
    exact Sq.of ((L4 (D:=1) DF h3 (by rw[show((1:Int):Rat)=1 from rfl,Rat.mul_one])).smq DF (Sm.one M h6)) hM)
 have Qm:=Ja (λk=>Kt ak k:ps≠[]->YO ps ps.length≠0);have M0:=(((Mem.nil w).push (.cell 25 (C m la o)) (cs:=#[C m la o]) ⟨rfl,rfl⟩).push (.cell 25 (C none 0 0)) (cs:=#[C none 0 0]) ⟨rfl,rfl⟩).push (.int 0) (cs:=#[G false,C none 0 0]) (XZ _);simp only[Ax]at M0;obtain⟨W0,an⟩:=ex (((w.alloc (I #[C m la o] 25)).alloc (I #[C none 0 0] 25)).alloc (I #[G false,C none 0 0] 35));have Qd:=Ja an;have M1:Hid (Mem w W0 [some (w.heap.size,.cell 25 (C m la o)),some (w.heap.size+1,.cell 25 (C none 0 0)),some (w.heap.size+1+1,.int (((YO ps 0:Nat):Int)))]):=Ja (by rw[<-an];exact M0);obtain⟨n,hn⟩:=ex (ps.length:Nat);obtain⟨U,ba⟩:=ex ((n:Int)-1:Int);have Qc:=Ja λ(V:R) (hB:Bl w V)=>JX (H #[C m la o]) ps V (h.below hB);rw[hn,ba]at Qc;have bm:U+1=(n:Int):=Y
 have bn:IntKind.i64.wrap (n:Int)=(n:Int):=by rw[BO];omega
 have HP:=Ja λ(V:R) (hB:Bl w V)=>h.below hB;have HN:=Ja (show ps.length=n from hn);have bz:n<=1099511627776:=Y
 have Qf:=Ja λ(V:R)=>Iz 1 Y Y V;clear h bg bc bf hn ba M0 an bh ak hD af aj hM Qa;go_enter Tryz.func137,Tryz.ntmps137
 go_upto_region 2 with fail
 rw[Qd.o];clear Qd;go_upto_region 3 with(go_at_call 29;refine(Qf.o _).mono ?_;clear Qf;rintro e w1 ⟨u1,rfl,aw,ay⟩;obtain⟨s1,a1,l1,c1,rfl⟩:=Jk.form2 aw)
 obtain⟨V1,hV⟩:=ex (w1.alloc (I #[G s1,C a1 l1 c1] 35));obtain⟨t,ae⟩:=ex (w1.heap.size);have d:Mem w (w1.alloc (I #[G s1,C a1 l1 c1] 35)) [some (w.heap.size,.cell 25 (C m la o)),some (w.heap.size+1,.cell 25 (C none 0 0)),some (w.heap.size+1+1,.int (((YO ps 0:Nat):Int))),some (w1.heap.size,.int (((Y4 ps 0:Nat):Int)))]:=Mem.push (M1.o.below ay) (.int (((Y4 ps 0:Nat):Int))) aw;rw[hV,ae]at d;rw[hV];rw[ae];have M2:Hid (Mem w V1 [some (w.heap.size,.cell 25 (C m la o)),some (w.heap.size+1,.cell 25 (C none 0 0)),some (w.heap.size+1+1,.int (((YO ps 0:Nat):Int))),some (t,.int (((Y4 ps 0:Nat):Int)))]):=Ja (d);clear M1;clear d hV ae;clear aw ay;have c0:=(M2.o.cell (i:=0) rfl).1.cell;go_upto_region 4 with(go_at_call 30;refine(Qc.o _ M2.o.2.2).mono ?_;clear Qc;rintro e w2 ⟨rfl,az⟩)
 have ML:Hid (Mem w w2 [some (w.heap.size,.cell 25 (C m la o)),some (w.heap.size+1,.cell 25 (C none 0 0)),some (w.heap.size+1+1,.int (((YO ps 0:Nat):Int))),some (t,.int (((Y4 ps 0:Nat):Int)))]):=Ja (M2.o.below az);clear c0 az M2;go_loopw [12] (λiv wr=>∃i:Nat,i<=n/\iv=P Q (i:Int)/\Hid (Mem w wr [some (w.heap.size,.cell 25 (C m la o)),some (w.heap.size+1,.cell 25 (C none 0 0)),some (w.heap.size+1+1,.int (((YO ps i:Nat):Int))),some (t,.int (((Y4 ps i:Nat):Int)))])) λiv _=>n-(intOf iv).toNat
 case atStart=>exact⟨0,AO _,rfl,ML⟩
 case round=>
  obtain⟨i,X,rfl,M3⟩:=hrel;clear ML;by_cases bt:i<n
  . have bu:(i:Int)<(n:Int):=Y
    go_upto_region 6 with fail
    refine Jm Qe [[],[],[],[1,2],[3,3],[0,4,4],[5,5,0,1,2,3,4,5]] (by kernel_rfl) DF
     (λD ad V=>∃(ta tb tc td te tg:Value) (y2:Option (Nat × Dat)),ad={ tmps:=#[H #[C m la o],F (some ⟨w.heap.size,0,none⟩),F (some ⟨w.heap.size+1,0,none⟩),F (some ⟨w.heap.size+1+1,0,none⟩),F (some ⟨t,0,none⟩),P Q ↑i,E,E,H #[G s1,C a1 l1 c1],H #[C m la o],P Q U,P Q ↑n,P Q ↑i,G true,P Q ↑i,ta,tb,tc,td,te,tg,u21,u22,u23,u24,u25,u26,u27,E,E,E,E,E,E,E,E,E,E,E,E],defers:=[] }/\Hid ((D 0=true->Has V ta (.int (((YO ps i:Nat):Int))))/\(D 1=true->tb=H #[C m la o])/\(D 2=true->tc=Value.int IntKind.i64 ↑i)/\(D 3=true->Has V td (.rat (cf ps i)))/\(D 4=true->Has V te (.int ((cf ps i).num)))/\(D 5=true->Has V tg (.int (((YO ps (i+1):Nat):Int))))/\((D 6=false->y2=some (w.heap.size+1+1,.int (((YO ps i:Nat):Int))))/\(D 6=true->y2=some (w.heap.size+1+1,.int (((YO ps (i+1):Nat):Int))))))/\Hid (Mem w V [some (w.heap.size,.cell 25 (C m la o)),some (w.heap.size+1,.cell 25 (C none 0 0)),y2,some (t,.int (((Y4 ps i:Nat):Int)))]))
     ⟨_,_,_,_,_,_,_,rfl,Ja ⟨O,O,O,O,O,O,⟨λ_=>rfl,O⟩⟩,Ja (M3.o).drew⟩ ?step2 ?fin2
    case step2=>
     rintro D ad V i ds ap X g ah ⟨ta,tb,tc,td,te,tg,y2,rfl,b,d⟩;have Qj:i<7:=(Ac.1 X).1;obtain rfl|rfl|rfl|rfl|rfl|rfl|rfl:=IB i Y
     all_goals
      simp only[Af,Ae,Ai]at X;subst X
     . have hf:D 6=false:=DG ap ah;obtain rfl:=D6 b hf;clear g;obtain⟨s,a,l,c,n,i⟩:=d.o.int (i:=2) rfl;obtain⟨U,e1⟩:=n.cp;refine Za ?_;exact⟨_,_,_,_,_,_,_,rfl,(LK (Dc b λ_=>i) ⟨λ_=>rfl,λh=>by simp[hf]at h⟩),Ja (d.o)⟩
     . have U:=(d.o.cell (i:=0) rfl).1.cell;clear g;refine Za ?_;exact⟨_,_,_,_,_,_,_,rfl,(Di b),Ja (d.o)⟩
     . clear g;refine Za ?_;exact⟨_,_,_,_,_,_,_,rfl,(Db b),Ja (d.o)⟩
     . obtain rfl:=(b.o.2.1 (g 1 O));obtain rfl:=(b.o.2.2.1 (g 2 O));have r:=Ja (Hu _ ps (i:Int) V (HP.o V d.o.2.2));rw[KI]at r;clear g;refine Jc rfl rfl λK hK=>?_;go_simp;go_wp2_with(go_at_call 74;refine r.o.mono ?_;rintro e w5 ⟨v5,rfl,T,f⟩)
       obtain⟨q,_,_,_,L,N,S⟩:=b.o;exact⟨_,_,_,_,_,_,_,rfl,Ja ⟨λh=>(q h).below f,λ_=>rfl,λ_=>rfl,λ_=>T,λh=>(L h).below f,λh=>(N h).below f,S⟩,Ja (d.o.below f)⟩
     . have k:=(b.o.2.2.2.1 (g 3 O));have r:=Ja (aP _ (cf ps i) V k);clear g k;refine Jc rfl rfl λK hK=>?_;go_simp;go_wp2_with(go_at_call 179;refine r.o.mono ?_;rintro e w5 ⟨v5,rfl,T,f⟩)
       obtain⟨q,y,A,B,_,N,S⟩:=b.o;exact⟨_,_,_,_,_,_,_,rfl,Ja ⟨λh=>(q h).below f,y,A,λh=>(B h).below f,λ_=>T,λh=>(N h).below f,S⟩,Ja (d.o.below f)⟩
     . have k:=(b.o.1 (g 0 O));have h1:=(b.o.2.2.2.2.1 (g 4 O));have r:=Ja (Ie _ _ ((YO ps i:Nat):Int) (cf ps i).num V k h1 (by have:=(HG.o i).words;omega) (by have:=(Qb.o.at i).num.words;omega));rw[cM]at r;clear g k h1;refine Jc rfl rfl λK hK=>?_;go_simp;go_wp2_with(go_at_call 84;refine r.o.mono ?_;rintro e w5 ⟨v5,rfl,T,f⟩)
       obtain⟨q,y,A,B,L,_,S⟩:=b.o;exact⟨_,_,_,_,_,_,_,rfl,Ja ⟨λh=>(q h).below f,y,A,λh=>(B h).below f,λh=>(L h).below f,λ_=>T,S⟩,Ja (d.o.below f)⟩
     . obtain rfl:=D6 b ah;have hv:=((Dq b) (g 5 O));obtain⟨s1,a1,l1,c1,rfl⟩:=Jk.form2 (show Jk V _ _ from hv);obtain⟨s,a,l,c,n,i⟩:=d.o.int (i:=2) rfl;have U:=n.c0;have f0:=n.f0;have e1:=n.c1;have f1:=n.f1;clear g;refine Za ?_;obtain⟨q,y,A,B,L,N,_⟩:=b.o;exact⟨_,_,_,_,_,_,_,rfl,Ja ⟨λh=>(q h).set2 n rfl rfl _ _,y,A,λh=>(B h).set2 n rfl rfl _ _,λh=>(L h).set2 n rfl rfl _ _,λh=>(N h).set2 n rfl rfl _ _,⟨λh=>by simp at h,λ_=>rfl⟩⟩,Ja (d.o.putInt (i:=2) rfl hv)⟩
    rintro D ad V3 W ⟨ta,tb,tc,td,te,tg,y2,rfl,b,d⟩;obtain rfl:=b.o.2.2.2.2.2.2.2 (W 6 DF);obtain rfl:=b.o.2.1 (W 1 DF);obtain rfl:=b.o.2.2.1 (W 2 DF);clear b W M3;have M4:Hid (Mem w V3 [some (w.heap.size,.cell 25 (C m la o)),some (w.heap.size+1,.cell 25 (C none 0 0)),some (w.heap.size+1+1,.int (((YO ps (i+1):Nat):Int))),some (t,.int (((Y4 ps i:Nat):Int)))]):=d;clear d;go_upto_region 7 with fail
    refine Jm Qe [[],[],[],[1,2],[3,3],[0,4,4],[5,5,0,1,2,3,4,5]] (by kernel_rfl) DF
     (λD ad V=>∃(ti tj tk tl tm tn:Value) (y3:Option (Nat × Dat)),ad={ tmps:=#[H #[C m la o],F (some ⟨w.heap.size,0,none⟩),F (some ⟨w.heap.size+1,0,none⟩),F (some ⟨w.heap.size+1+1,0,none⟩),F (some ⟨t,0,none⟩),P Q ↑i,E,E,H #[G s1,C a1 l1 c1],H #[C m la o],P Q U,P Q ↑n,P Q ↑i,G true,P Q ↑i,ta,H #[C m la o],P Q ↑i,td,te,tg,ti,tj,tk,tl,tm,tn,u27,E,E,E,E,E,E,E,E,E,E,E,E],defers:=[] }/\Hid ((D 0=true->Has V ti (.int (((Y4 ps i:Nat):Int))))/\(D 1=true->tj=H #[C m la o])/\(D 2=true->tk=Value.int IntKind.i64 ↑i)/\(D 3=true->Has V tl (.rat (cf ps i)))/\(D 4=true->Has V tm (.int (((cf ps i).den:Int))))/\(D 5=true->Has V tn (.int (((Y4 ps (i+1):Nat):Int))))/\((D 6=false->y3=some (t,.int (((Y4 ps i:Nat):Int))))/\(D 6=true->y3=some (t,.int (((Y4 ps (i+1):Nat):Int))))))/\Hid (Mem w V [some (w.heap.size,.cell 25 (C m la o)),some (w.heap.size+1,.cell 25 (C none 0 0)),some (w.heap.size+1+1,.int (((YO ps (i+1):Nat):Int))),y3]))
     ⟨_,_,_,_,_,_,_,rfl,Ja ⟨O,O,O,O,O,O,⟨λ_=>rfl,O⟩⟩,Ja (M4.o).drew⟩ ?step4 ?fin4
    case step4=>
     rintro D ad V i ds ap X g ah ⟨ti,tj,tk,tl,tm,tn,y3,rfl,b,d⟩;have Qj:i<7:=(Ac.1 X).1;obtain rfl|rfl|rfl|rfl|rfl|rfl|rfl:=IB i Y
     all_goals
      simp only[Af,Ae,Ai]at X;subst X
     . have hf:D 6=false:=DG ap ah;obtain rfl:=D6 b hf;clear g;obtain⟨s,a,l,c,n,i⟩:=d.o.int (i:=3) rfl;obtain⟨U,e1⟩:=n.cp;refine Za ?_;exact⟨_,_,_,_,_,_,_,rfl,(LK (Dc b λ_=>i) ⟨λ_=>rfl,λh=>by simp[hf]at h⟩),Ja (d.o)⟩
     . have U:=(d.o.cell (i:=0) rfl).1.cell;clear g;refine Za ?_;exact⟨_,_,_,_,_,_,_,rfl,(Di b),Ja (d.o)⟩
     . clear g;refine Za ?_;exact⟨_,_,_,_,_,_,_,rfl,(Db b),Ja (d.o)⟩
     . obtain rfl:=(b.o.2.1 (g 1 O));obtain rfl:=(b.o.2.2.1 (g 2 O));have r:=Ja (Hu _ ps (i:Int) V (HP.o V d.o.2.2));rw[KI]at r;clear g;refine Jc rfl rfl λK hK=>?_;go_simp;go_wp2_with(go_at_call 74;refine r.o.mono ?_;rintro e w5 ⟨v5,rfl,T,f⟩)
       obtain⟨q,_,_,_,L,N,S⟩:=b.o;exact⟨_,_,_,_,_,_,_,rfl,Ja ⟨λh=>(q h).below f,λ_=>rfl,λ_=>rfl,λ_=>T,λh=>(L h).below f,λh=>(N h).below f,S⟩,Ja (d.o.below f)⟩
     . have k:=(b.o.2.2.2.1 (g 3 O));have r:=Ja (E2 _ (cf ps i) V k);clear g k;refine Jc rfl rfl λK hK=>?_;go_simp;go_wp2_with(go_at_call 70;refine r.o.mono ?_;rintro e w5 ⟨v5,rfl,T,f⟩)
       obtain⟨q,y,A,B,_,N,S⟩:=b.o;exact⟨_,_,_,_,_,_,_,rfl,Ja ⟨λh=>(q h).below f,y,A,λh=>(B h).below f,λ_=>T,λh=>(N h).below f,S⟩,Ja (d.o.below f)⟩
     . have k:=(b.o.1 (g 0 O));have h1:=(b.o.2.2.2.2.1 (g 4 O));have r:=Ja (cL _ _ (Y4 ps i) (cf ps i).den V k h1 (RW ps i) (HL.o i) (Qb.o.at i).den);rw[cN]at r;clear g k h1;refine Jc rfl rfl λK hK=>?_;go_simp;go_wp2_with(go_at_call 180;refine r.o.mono ?_;rintro e w5 ⟨v5,rfl,T,f⟩)
       obtain⟨q,y,A,B,L,_,S⟩:=b.o;exact⟨_,_,_,_,_,_,_,rfl,Ja ⟨λh=>(q h).below f,y,A,λh=>(B h).below f,λh=>(L h).below f,λ_=>T,S⟩,Ja (d.o.below f)⟩
     . obtain rfl:=D6 b ah;have hv:=((Dq b) (g 5 O));obtain⟨s1,a1,l1,c1,rfl⟩:=Jk.form2 (show Jk V _ _ from hv);obtain⟨s,a,l,c,n,i⟩:=d.o.int (i:=3) rfl;have U:=n.c0;have f0:=n.f0;have e1:=n.c1;have f1:=n.f1;clear g;refine Za ?_;obtain⟨q,y,A,B,L,N,_⟩:=b.o;exact⟨_,_,_,_,_,_,_,rfl,Ja ⟨λh=>(q h).set2 n rfl rfl _ _,y,A,λh=>(B h).set2 n rfl rfl _ _,λh=>(L h).set2 n rfl rfl _ _,λh=>(N h).set2 n rfl rfl _ _,⟨λh=>by simp at h,λ_=>rfl⟩⟩,Ja (d.o.putInt (i:=3) rfl hv)⟩
    rintro D ad V5 W ⟨ti,tj,tk,tl,tm,tn,y3,rfl,b,d⟩;obtain rfl:=b.o.2.2.2.2.2.2.2 (W 6 DF);obtain rfl:=b.o.2.1 (W 1 DF);obtain rfl:=b.o.2.2.1 (W 2 DF);clear b W M4;have M5:Hid (Mem w V5 [some (w.heap.size,.cell 25 (C m la o)),some (w.heap.size+1,.cell 25 (C none 0 0)),some (w.heap.size+1+1,.int (((YO ps (i+1):Nat):Int))),some (t,.int (((Y4 ps (i+1):Nat):Int)))]):=d;clear d;go_wp2_with fail
    go_roundw
    case rel=>exact⟨i+1,Y,by go_num,M5⟩
    case measure=>simp[intOf];omega
  . obtain rfl:i=n:=Y
    obtain⟨s6,a6,l6,c6,n6,i6⟩:=M3.o.int (i:=2) rfl;obtain⟨Ql,Qo⟩:=n6.cp;obtain⟨s7,a7,l7,c7,n7,i7⟩:=M3.o.int (i:=3) rfl;obtain⟨Qh,Qp⟩:=n7.cp;have H1:=Ja (La _ _ ((Y4 ps i:Nat):Int) ((YO ps i:Nat):Int) wr i7 i6 (HL.o i) (HG.o i));have Qg:=(M3.o.cell (i:=1) rfl).1;obtain⟨r9,aq⟩:=ex (Rat.divInt ((Y4 ps i:Nat):Int) ((YO ps i:Nat):Int));rw[aq]at H1;have Qi:=Ja aq;clear aq;by_cases k:ps=[]
    . have HB:=Ja (show decide (((YO ps i:Nat):Int)≠0)=false by rw[<-HN.o,k];decide);rw[HB.o]at H1;have HE:=Ja (show JI ps=[]by rw[k];rfl);clear k HB;go_wp2_with(go_at_call 28;refine H1.o.mono ?_;clear H1;rintro e w4 ⟨u4,rfl,am,ai⟩;obtain⟨s9,a9,l9,c9,t9,b9,k9,d9,rfl⟩:=Jh.form am;have n5:=boxed_below (boxed_below Qg ai) (Ba w4 (I #[G s9,C a9 l9 c9,G t9,C b9 k9 d9] 37));have x0:=n5.cell;have x1:=n5.frozen)
      rw[HE.o];exact BA (v:=H #[C none 0 0]) (by simp[results,Tryz.results137,go_sem,x0]) rfl ⟨_,rfl,Rj _,((Bt M3.o.2.2 ai).alloc (by have:=M3.o.2.2.size;have:=ai.size;omega) _).setCell (p:=⟨w.heap.size+1,0,none⟩) (by show w.heap.size<=w.heap.size+1;omega) _⟩
    . have HB:=Ja (show decide (((YO ps i:Nat):Int)≠0)=true by
       refine BJ ?_;rw[<-HN.o];exact Int.natCast_ne_zero.2 (Qm.o k))
      rw[HB.o]at H1;have HE:=Ja (show r9=(Y4 ps ps.length:Rat)/(YO ps ps.length:Rat)by rw[<-Qi.o,CB,AP,AP,HN.o]);have HT:=Ja (show DP r9 ps=JI ps by rw[HE.o];rfl);have HS:=Ja (show Sq r9/\∀j,Sq (cf ps j*r9)by rw[HE.o];exact HF.o k);clear k HB;have H2:=Ja λ(V:R) (hB:Bl w V) (x:Value) (hx:Jh V x r9)=>Rk (H #[C m la o]) x ps r9 V (HP.o V hB) hx Qb.o HS.o.1 HS.o.2;rw[HT.o]at H2;go_upto_region 12 with(go_at_call 28;refine H1.o.mono ?_;clear H1;rintro e w4 ⟨u4,rfl,am,ai⟩;obtain⟨s9,a9,l9,c9,t9,b9,k9,d9,rfl⟩:=Jh.form am)
      clear Ql Qo Qh Qp;obtain⟨V8,hV⟩:=ex (w4.alloc (I #[G s9,C a9 l9 c9,G t9,C b9 k9 d9] 37));obtain⟨B8,ae⟩:=ex (w4.heap.size);have d:Mem w (w4.alloc (I #[G s9,C a9 l9 c9,G t9,C b9 k9 d9] 37)) [some (w.heap.size,.cell 25 (C m la o)),some (w.heap.size+1,.cell 25 (C none 0 0)),some (w.heap.size+1+1,.int (((YO ps i:Nat):Int))),some (t,.int (((Y4 ps i:Nat):Int))),some (w4.heap.size,.rat r9)]:=Mem.push (M3.o.below ai) (.rat r9) am;rw[hV,ae]at d;rw[hV];rw[ae];have M4:Hid (Mem w V8 [some (w.heap.size,.cell 25 (C m la o)),some (w.heap.size+1,.cell 25 (C none 0 0)),some (w.heap.size+1+1,.int (((YO ps i:Nat):Int))),some (t,.int (((Y4 ps i:Nat):Int))),some (B8,.rat r9)]):=Ja (d);clear M3;clear d hV ae;obtain⟨s9,a9,l9,c9,t9,b9,k9,d9,n9,r9,i9,j9⟩:=M4.o.rat (i:=4) rfl;obtain⟨bi,bj,bk,bl⟩:=n9.cq;have c0:=(M4.o.cell (i:=0) rfl).1.cell;have n1:=(M4.o.cell (i:=1) rfl).1;have HQ:=Ja M4.o.2.2;go_wp2_with(go_at_call 181;refine(H2.o _ HQ.o _ r9).mono ?_;clear H2;rintro e w5 ⟨u5,rfl,ax,f⟩;obtain⟨a7,l7,c7,rfl⟩:=ax.form;have n5:=boxed_below n1 f;have x0:=n5.cell;have x1:=n5.frozen;have Qn:=Ja (Ku n5 (x:=C a7 l7 c7) ax);have Qk:=Ja ((Bt HQ.o f).setCell (p:=⟨w.heap.size+1,0,none⟩) (by show w.heap.size<=w.heap.size+1;omega) (C a7 l7 c7));clear ax f n5)
      exact BA (v:=H #[C a7 l7 c7]) (by simp[results,Tryz.results137,go_sem,x0]) rfl ⟨_,rfl,Qn.o,Qk.o⟩
theorem cO(va vb:Value)(ps qs:List Rat)(w:R)(ha:Je w va ps)(hb:Je w vb qs)(aw:DV ps)(az:DV qs)(ay:qs≠[])(ax:∀i,i<=ps.length+1-qs.length->Sq (Xw (cf qs (qs.length-1))^i))(ba:∀i,Sq (cf ps i*EM ps qs)):
 Calls Tryz.prog 182 #[va,vb] w λe w'=>∃u,e=.returned u/\Je w' u (YP ps qs)/\Bl w w':=by
 obtain⟨m,hm⟩:=ex (qs.length-1:Nat);have Uc:0<qs.length:=Ag.2 ay;have Qy:ps.length<=1099511627776:=by
  obtain⟨S,la,T,rfl⟩:=ha.form;have:=ha.row.forms;omega
 have Qt:qs.length<=1099511627776:=by
  obtain⟨q,lb,z,rfl⟩:=hb.form;have:=hb.row.forms;omega
 obtain⟨L,hL⟩:=ex (Xw (cf qs m):Rat);obtain⟨N,hN⟩:=ex (ps.length+1-qs.length:Nat);obtain⟨e1,ap⟩:=ex ((ps.length:Int)-1:Int);have Qp:(qs.length:Int)-1=(m:Int):=Y
 obtain⟨e3,cj⟩:=ex (e1-(m:Int):Int);obtain⟨e4,ck⟩:=ex (e3+1:Int);have cl:IntKind.i64.wrap e3=e3:=by rw[BO];omega
 have cn:IntKind.i64.wrap e4=e4:=by rw[BO];omega
 obtain⟨Qb,Qo,Ub,Qw,Qc,HT,Qu,Qs⟩:=Hm (show(∀i:Nat,(i:Int)<e4↔i<N)/\N<=1099511627777 from⟨λi=>by omega,Y⟩) Qp ap hL (show ∀i,i<=N->Sq (L^i)from λi hi=>by rw[<-hL,<-hm];exact ax i Y) (show DP (L^N) ps=YP ps qs by unfold YP EM;rw[hm,hL,hN]) (show ∀i,Sq (cf ps i*L^N)from λi=>by have:=ba i;unfold EM at this;rwa[hm,hL,hN]at this) aw;have Qz:=Ja az;clear ax ba aw az ay hN hL hm Uc Qy Qt ap Qp;have Ql:Tryz.prog.follows .mixedOrders=true:=by kernel_rfl
 obtain⟨S,la,T,rfl⟩:=ha.form;obtain⟨q,lb,z,rfl⟩:=hb.form;have M0:=(((Mem.nil w).push (.cell 25 (C S la T)) (cs:=#[C S la T]) ⟨rfl,rfl⟩).push (.cell 25 (C q lb z)) (cs:=#[C q lb z]) ⟨rfl,rfl⟩).push (.cell 25 (C none 0 0)) (cs:=#[C none 0 0]) ⟨rfl,rfl⟩;simp only[Ax]at M0;obtain⟨W0,ai⟩:=ex (((w.alloc (I #[C S la T] 25)).alloc (I #[C q lb z] 25)).alloc (I #[C none 0 0] 25));obtain⟨Qj,HP,HQ⟩:=Df ai (λ(V:R) (hB:Bl w V)=>ha.below hB) λ(V:R) (hB:Bl w V)=>hb.below hB;have M1:Hid (Mem w W0 [some (w.heap.size,.cell 25 (C S la T)),some (w.heap.size+1,.cell 25 (C q lb z)),some (w.heap.size+1+1,.cell 25 (C none 0 0))]):=Ja (by rw[<-ai];exact M0);clear M0 ai ha hb;go_enter Tryz.func182,Tryz.ntmps182
 go_upto_region 1 with fail
 rw[Qj.o];clear Qj;refine Jm Ql [[],[],[1],[0,2,2],[3,3],[],[5,4,4,0,1,2,3,4,5]] (by kernel_rfl) DF
  (λD ad V=>∃(tn tp ta tb tc tm:Value) (x5:Option (Nat × Dat)),ad={ tmps:=#[H #[C S la T],H #[C q lb z],F (some ⟨w.heap.size,0,none⟩),F (some ⟨w.heap.size+1,0,none⟩),F (some ⟨w.heap.size+1+1,0,none⟩),tm,E,E,tn,tp,ta,tb,tc,E,E,E,E,E,E,E,E,E,E,E,E,E,E,E,E,E,E,E,E,E],defers:=[] }/\Hid ((D 0=true->tn=H #[C q lb z])/\(D 1=true->tp=H #[C q lb z])/\(D 2=true->ta=P Q (m:Int))/\(D 3=true->Has V tb (.rat (cf qs m)))/\(D 4=true->Has V tc (.rat L))/\((D 5=false->x5=none)/\(D 5=true->D 6=false->∃B:Nat,tm=F (some ⟨B,0,none⟩)/\x5=some (B,.rat 0))/\(D 6=true->∃B:Nat,tm=F (some ⟨B,0,none⟩)/\x5=some (B,.rat L))))/\Hid (Mem w V [some (w.heap.size,.cell 25 (C S la T)),some (w.heap.size+1,.cell 25 (C q lb z)),some (w.heap.size+1+1,.cell 25 (C none 0 0)),x5]))
  ⟨_,_,_,_,_,_,none,rfl,Ja ⟨O,O,O,O,O,O⟩,Ja ((M1.o).none).drew⟩ ?step1 ?fin1
 case step1=>
  rintro D ad V i ds an hi o af ⟨tn,tp,ta,tb,tc,tm,x5,rfl,f,g⟩;have Qv:i<7:=(Ac.1 hi).1;obtain rfl|rfl|rfl|rfl|rfl|rfl|rfl:=IB i Y
  all_goals
   simp only[Af,Ae,Ai]at hi;subst hi
  . have e0:=(g.o.cell (i:=1) rfl).1.cell;clear o;refine Za ?_;exact⟨_,_,_,_,_,_,_,rfl,(Dc f),Ja (g.o)⟩
  . have e0:=(g.o.cell (i:=1) rfl).1.cell;clear o;refine Za ?_;exact⟨_,_,_,_,_,_,_,rfl,(Di f),Ja (g.o)⟩
  . obtain rfl:=(f.o.2.1 (o 1 O));have M:=Ja (JX _ qs V (HQ.o V g.o.2.2));rw[Qo.o]at M;clear o;refine Jc rfl rfl λK hK=>?_;go_simp;go_wp2_with(go_at_call 30;refine M.o.mono ?_;rintro e W ⟨rfl,A⟩)
    obtain⟨G0,_,_,G3,G4,G5⟩:=f.o;exact⟨_,_,_,_,_,_,_,rfl,Ja ⟨G0,λ_=>rfl,λ_=>rfl,λh=>(G3 h).below A,λh=>(G4 h).below A,G5⟩,Ja (g.o.below A)⟩
  . obtain rfl:=(f.o.1 (o 0 O));obtain rfl:=(f.o.2.2.1 (o 2 O));have M:=Ja (Hu _ qs (m:Int) V (HQ.o V g.o.2.2));rw[KI]at M;clear o;refine Jc rfl rfl λK hK=>?_;go_simp;go_wp2_with(go_at_call 74;refine M.o.mono ?_;rintro e W ⟨v5,rfl,ak,A⟩)
    exact⟨_,_,_,_,_,_,_,rfl,Ja ⟨λ_=>rfl,f.o.2.1,λ_=>rfl,λ_=>ak,λh=>(f.o.2.2.2.2.1 h).below A,f.o.2.2.2.2.2⟩,Ja (g.o.below A)⟩
  . have h0:=(f.o.2.2.2.1 (o 3 O));have M:=Ja (cK _ (cf qs m) V h0 (Qz.o.at m));rw[Qw.o]at M;clear o h0;refine Jc rfl rfl λK hK=>?_;go_simp;go_wp2_with(go_at_call 206;refine M.o.mono ?_;rintro e W ⟨v5,rfl,ak,A⟩)
    obtain⟨G0,G1,G2,G3,_,G5⟩:=f.o;exact⟨_,_,_,_,_,_,_,rfl,Ja ⟨G0,G1,G2,λh=>(G3 h).below A,λ_=>ak,G5⟩,Ja (g.o.below A)⟩
  . have hf:D 6=false:=DG an af;obtain rfl:=Dq f af;clear o;refine Za ?_;obtain⟨G0,G1,G2,G3,G4,_⟩:=f.o;exact⟨_,_,_,_,_,_,_,rfl,Ja ⟨G0,G1,G2,λh=>(G3 h).alloc _,λh=>(G4 h).alloc _,⟨λh=>by simp at h,λ_ _=>⟨_,rfl,rfl⟩,λh=>by simp[hf]at h⟩⟩,Ja (g.o.fill (i:=3) rfl (.rat 0) (X0 _))⟩
  . obtain⟨B,rfl,rfl⟩:=D6 f (o 5 O) af;have Qd:=o 5 O;have hv:=(f.o.2.2.2.2.1 (o 4 O));obtain⟨s1,a1,l1,c1,t1,b1,k1,d1,rfl⟩:=Jh.form (show Jh V _ _ from hv);obtain⟨s,a,l,c,t,b,k,d,n,r,i,j⟩:=g.o.rat (i:=3) rfl;have e0:=n.c0;have f0:=n.f0;have e1:=n.c1;have f1:=n.f1;have e2:=n.c2;have f2:=n.f2;have e3:=n.c3;have f3:=n.f3;clear o;refine Za ?_;obtain⟨G0,G1,G2,G3,G4,_⟩:=f.o;exact⟨_,_,_,_,_,_,_,rfl,Ja ⟨G0,G1,G2,λh=>(G3 h).put4 n rfl rfl rfl rfl _ _ _ _,λh=>(G4 h).put4 n rfl rfl rfl rfl _ _ _ _,⟨λh=>by simp[Qd]at h,λ_ h=>by simp at h,λ_=>⟨B,rfl,rfl⟩⟩⟩,Ja (g.o.putRat (i:=3) rfl hv)⟩
 rintro D ad V2 U ⟨tn,tp,ta,tb,tc,tm,x5,rfl,f,g⟩;obtain⟨X,rfl,rfl⟩:=f.o.2.2.2.2.2.2.2 (U 6 DF);obtain rfl:=f.o.1 (U 0 DF);obtain rfl:=f.o.2.1 (U 1 DF);obtain rfl:=f.o.2.2.1 (U 2 DF);clear f U M1;have M2:Hid (Mem w V2 [some (w.heap.size,.cell 25 (C S la T)),some (w.heap.size+1,.cell 25 (C q lb z)),some (w.heap.size+1+1,.cell 25 (C none 0 0)),some (X,.rat L)]):=g;clear g;have HA:=Ja λ(V:R)=>Iz 1 Y Y V;have HB:=HA;have M:=Ja λ(V:R) (x y:Value) (hx:Jk V x 1) (hy:Jk V y 1)=>La x y 1 1 V hx hy DQ.one DQ.one;rw[show decide ((1:Int)≠0)=true from rfl,show Rat.divInt 1 1=L^0 by rw[Rat.pow_zero];rfl]at M;go_upto_region 3 with(first
  |(go_at_call 29;refine(HA.o _).mono ?_;clear HA;rintro e w3 ⟨u3,rfl,Qa,am⟩)
  |(go_at_call 29;refine(HB.o _).mono ?_;clear HB;rintro e w4 ⟨u4,rfl,bc,aj⟩;have Qa:=Qa.below aj)
  |(go_at_call 28;refine(M.o _ _ _ Qa bc).mono ?_;clear M;rintro e W ⟨u5,rfl,ae,A⟩;obtain⟨s9,a9,l9,c9,t9,b9,k9,d9,rfl⟩:=Jh.form ae))
 obtain⟨V4,hV⟩:=ex (W.alloc (I #[G s9,C a9 l9 c9,G t9,C b9 k9 d9] 37));obtain⟨B4,ah⟩:=ex (W.heap.size);have g:Mem w (W.alloc (I #[G s9,C a9 l9 c9,G t9,C b9 k9 d9] 37)) [some (w.heap.size,.cell 25 (C S la T)),some (w.heap.size+1,.cell 25 (C q lb z)),some (w.heap.size+1+1,.cell 25 (C none 0 0)),some (X,.rat L),some (W.heap.size,.rat (L^0))]:=Mem.push (((M2.o.below am).below aj).below A) (.rat (L^0)) ae;rw[hV,ah]at g;rw[hV];rw[ah];have M3:Hid (Mem w V4 [some (w.heap.size,.cell 25 (C S la T)),some (w.heap.size+1,.cell 25 (C q lb z)),some (w.heap.size+1+1,.cell 25 (C none 0 0)),some (X,.rat L),some (B4,.rat (L^0))]):=Ja (g);clear M2;clear g hV ah;clear Qa bc ae am aj A;refine Jm Ql [[],[0],[],[2,1],[1,3],[4],[]] (by kernel_rfl) DF
  (λD ad V=>∃(td te tg ti tj tk tl:Value),ad={ tmps:=#[H #[C S la T],H #[C q lb z],F (some ⟨w.heap.size,0,none⟩),F (some ⟨w.heap.size+1,0,none⟩),F (some ⟨w.heap.size+1+1,0,none⟩),F (some ⟨X,0,none⟩),F (some ⟨B4,0,none⟩),G true,H #[C q lb z],H #[C q lb z],P Q ↑m,tb,tc,.tuple #[H #[G s9,C a9 l9 c9,G t9,C b9 k9 d9],G true],u3,u4,.tuple #[H #[G s9,C a9 l9 c9,G t9,C b9 k9 d9],G true],H #[G s9,C a9 l9 c9,G t9,C b9 k9 d9],G true,td,te,tg,ti,tj,tk,tl,E,E,E,E,E,E,E,E],defers:=[] }/\Hid ((D 0=true->td=H #[C S la T])/\(D 1=true->te=P Q e1)/\(D 2=true->tg=H #[C q lb z])/\(D 3=true->ti=P Q (m:Int))/\(D 4=true->tj=P Q e3)/\(D 5=true->tk=P Q e4)/\(D 6=true->tl=P Q 0))/\Hid (Mem w V [some (w.heap.size,.cell 25 (C S la T)),some (w.heap.size+1,.cell 25 (C q lb z)),some (w.heap.size+1+1,.cell 25 (C none 0 0)),some (X,.rat L),some (B4,.rat (L^0))]))
  ⟨_,_,_,_,_,_,_,rfl,Ja ⟨O,O,O,O,O,O,O⟩,Ja (M3.o).drew⟩ ?step5 ?fin5
 case step5=>
  rintro D ad V i ds an hi o af ⟨td,te,tg,ti,tj,tk,tl,rfl,f,g⟩;have Qv:i<7:=(Ac.1 hi).1;obtain rfl|rfl|rfl|rfl|rfl|rfl|rfl:=IB i Y
  all_goals
   simp only[Af,Ae,Ai]at hi;subst hi
  . have e0:=(g.o.cell (i:=0) rfl).1.cell;clear o;refine Za ?_;exact⟨_,_,_,_,_,_,_,rfl,(Dc f),Ja (g.o)⟩
  . obtain rfl:=(f.o.1 (o 0 O));have M:=Ja (JX _ ps V (HP.o V g.o.2.2));rw[Ub.o]at M;clear o;refine Jc rfl rfl λK hK=>?_;go_simp;go_wp2_with(go_at_call 30;refine M.o.mono ?_;rintro e W ⟨rfl,A⟩)
    exact⟨_,_,_,_,_,_,_,rfl,(Di (Dc f)),Ja (g.o.below A)⟩
  . have e0:=(g.o.cell (i:=1) rfl).1.cell;clear o;refine Za ?_;exact⟨_,_,_,_,_,_,_,rfl,(Db f),Ja (g.o)⟩
  . obtain rfl:=(f.o.2.2.1 (o 2 O));have M:=Ja (JX _ qs V (HQ.o V g.o.2.2));rw[Qo.o]at M;clear o;refine Jc rfl rfl λK hK=>?_;go_simp;go_wp2_with(go_at_call 30;refine M.o.mono ?_;rintro e W ⟨rfl,A⟩)
    exact⟨_,_,_,_,_,_,_,rfl,(De (Db f)),Ja (g.o.below A)⟩
  . obtain rfl:=(f.o.2.1 (o 1 O));obtain rfl:=(f.o.2.2.2.1 (o 3 O));clear o;refine Za ?_;exact⟨_,_,_,_,_,_,_,rfl,(Do (De (Di f))),Ja (g.o)⟩
  . obtain rfl:=(f.o.2.2.2.2.1 (o 4 O));clear o;refine Za ?_;exact⟨_,_,_,_,_,_,_,rfl,(Dp (Do f)),Ja (g.o)⟩
  . clear o;refine Za ?_;exact⟨_,_,_,_,_,_,_,rfl,(LK f),Ja (g.o)⟩
 rintro D ad V6 U ⟨td,te,tg,ti,tj,tk,tl,rfl,f,g⟩;obtain rfl:=f.o.1 (U 0 DF);obtain rfl:=f.o.2.1 (U 1 DF);obtain rfl:=f.o.2.2.1 (U 2 DF);obtain rfl:=f.o.2.2.2.1 (U 3 DF);obtain rfl:=f.o.2.2.2.2.1 (U 4 DF);obtain rfl:=Dq f (U 5 DF);obtain rfl:=f.o.2.2.2.2.2.2 (U 6 DF);clear f U M3;have M4:Hid (Mem w V6 [some (w.heap.size,.cell 25 (C S la T)),some (w.heap.size+1,.cell 25 (C q lb z)),some (w.heap.size+1+1,.cell 25 (C none 0 0)),some (X,.rat L),some (B4,.rat (L^0))]):=g;clear g;go_wp2;go_loopw [25] (λiv wr=>∃i:Nat,i<=N/\iv=P Q (i:Int)/\Hid (Mem w wr [some (w.heap.size,.cell 25 (C S la T)),some (w.heap.size+1,.cell 25 (C q lb z)),some (w.heap.size+1+1,.cell 25 (C none 0 0)),some (X,.rat L),some (B4,.rat (L^i))])) λiv _=>N-(intOf iv).toNat
 case atStart=>exact⟨0,AO _,rfl,M4⟩
 case round=>
  clear M4;obtain⟨i,hi,rfl,M5⟩:=hrel;by_cases aq:i<N
  . have Qf:(i:Int)<e4:=(Qb.o.1 i).2 aq;have ci:N<=1099511627777:=Qb.o.2;obtain⟨s7,a7,l7,c7,t7,b7,k7,d7,n7,r7,i7,j7⟩:=M5.o.rat (i:=3) rfl;obtain⟨bt,bu,bz,ce⟩:=n7.cq;obtain⟨s8,a8,l8,c8,t8,b8,k8,d8,n8,r8,i8,j8⟩:=M5.o.rat (i:=4) rfl;obtain⟨Qk,Qn,Qg,Qq⟩:=n8.cq;obtain⟨Qh,Qr,Qi,Qm⟩:=n8.fq;have H1:=Ja (I2 _ _ (L^i) L wr r8 r7 (Qc.o i Y) (by have:=Qc.o 1 Y;rwa[Rat.pow_one]at this));rw[<-Rat.pow_succ]at H1;go_upto_region 6 with(go_at_call 91;refine H1.o.mono ?_;clear H1;rintro e w6 ⟨u6,rfl,bf,hq⟩;obtain⟨s8,a8,l8,c8,t8,b8,k8,d8,rfl⟩:=Jh.form bf;clear Qk Qn Qg Qq;obtain⟨Qk,Qn,Qg,Qq⟩:=(n8.below hq).cq;clear Qh Qr Qi Qm;obtain⟨Qh,Qr,Qi,Qm⟩:=(n8.below hq).fq)
    obtain⟨V9,hV⟩:=ex ((((w6.setCell ⟨B4,0,none⟩ (G s8)).setCell ⟨B4,1,none⟩ (C a8 l8 c8)).setCell ⟨B4,2,none⟩ (G t8)).setCell ⟨B4,3,none⟩ (C b8 k8 d8));have g:Mem w ((((w6.setCell ⟨B4,0,none⟩ (G s8)).setCell ⟨B4,1,none⟩ (C a8 l8 c8)).setCell ⟨B4,2,none⟩ (G t8)).setCell ⟨B4,3,none⟩ (C b8 k8 d8)) [some (w.heap.size,.cell 25 (C S la T)),some (w.heap.size+1,.cell 25 (C q lb z)),some (w.heap.size+1+1,.cell 25 (C none 0 0)),some (X,.rat L),some (B4,.rat (L^(i+1)))]:=Mem.putRat (M5.o.below hq) (i:=4) rfl bf;rw[hV]at g;rw[hV];have M6:Hid (Mem w V9 [some (w.heap.size,.cell 25 (C S la T)),some (w.heap.size+1,.cell 25 (C q lb z)),some (w.heap.size+1+1,.cell 25 (C none 0 0)),some (X,.rat L),some (B4,.rat (L^(i+1)))]):=Ja (g);clear M5;clear g hV;go_wp2_with fail
    go_roundw
    case rel=>exact⟨i+1,Y,by go_num,M6⟩
    case measure=>simp[intOf];omega
  . have Qf:¬(i:Int)<e4:=λh=>aq ((Qb.o.1 i).1 h);obtain rfl:i=N:=Y
    obtain⟨de,bh,db,bi,df,b10,da,bj,bg,r10,co,ct⟩:=M5.o.rat (i:=4) rfl;obtain⟨bk,bl,bm,bn⟩:=bg.cq;have c0:=(M5.o.cell (i:=0) rfl).1.cell;have n1:=(M5.o.cell (i:=2) rfl).1;have Qe:=Ja M5.o.2.2;have H2:=Ja (Rk (H #[C S la T]) _ ps (L^i) wr (HP.o wr Qe.o) r10 Qs.o (Qc.o i (Aa _)) Qu.o);rw[HT.o]at H2;go_wp2_with(go_at_call 181;refine H2.o.mono ?_;clear H2;rintro e W ⟨u5,rfl,ae,A⟩;obtain⟨a7,l7,c7,rfl⟩:=ae.form;have n5:=boxed_below n1 A;have x0:=n5.cell;have x1:=n5.frozen;have Ua:=Ja (Ku n5 (x:=C a7 l7 c7) ae);have Qx:=Ja ((Bt Qe.o A).setCell (p:=⟨w.heap.size+1+1,0,none⟩) (by show w.heap.size<=w.heap.size+1+1;omega) (C a7 l7 c7));clear ae A n5)
    exact BA (v:=H #[C a7 l7 c7]) (by simp[results,Tryz.results182,go_sem,x0]) rfl ⟨_,rfl,Ua.o,Qx.o⟩
theorem cR{A:Nat}(p:EN A ps)(d:EN A qs)(tq:Jd qs=qs)(q0:qs≠[])(c:1<=A)(L:4*((ps.length+2)*(A+1))<=1000000):
 DV ps/\DV qs/\(∀i,i<=ps.length+1-qs.length->Sq (Xw (cf qs (qs.length-1))^i))/\(∀i,Sq (cf ps i*EM ps qs))/\DV (YP ps qs)/\(∀i,DT A (cf qs i))/\
 ∃l:Int,Dvn 1 1 l ((ps.length+2)*A+1) A (YP ps qs) qs:=by
 have B:(ps.length+2)*(A+1)=(ps.length+2)*A+(ps.length+2):=by rw[AN,Ft]
 have M:0<qs.length:=Ag.2 q0;obtain⟨l,o,j⟩:=d (qs.length-1);have s:l≠0:=λe=>by
  have:=Jt tq q0;rw[j,e]at this;exact this rfl
 have q:Xw (cf qs (qs.length-1))=((l.natAbs:Int):Rat):=by
  rw[j];unfold Xw;have a:((l:Rat)<0)↔l<0:=by
   rw[show(0:Rat)=((0:Int):Rat)from rfl];exact Rat.intCast_lt_intCast
  split
  . rename_i h;rw[a]at h;rw[<-Rat.intCast_neg];congr 1;omega
  . rename_i h;rw[a]at h;congr 1;omega
 have m:∀i:Nat,∃z:Int,Sm (i*A+1) z/\Xw (cf qs (qs.length-1))^i=(z:Rat):=λi=>by
  refine⟨(l.natAbs:Int)^i,?_,?_⟩
  . refine Sm.powZ ?_ i;unfold Sm at o ⊢;rwa[AK]
  . rw[q,Rat.intCast_pow]
 have n:∀(k:Nat) (z:Int),Sm k z->k<=1000000->1<=k->Sq (z:Rat):=λk z x w a=>Sq.of ((L4 (D:=1) DF x (by rw[show((1:Int):Rat)=1 from rfl,Rat.mul_one])).smq DF (Sm.one k a)) w;have K:ps.length+1-qs.length<=ps.length:=Y
 have r:∀i:Nat,i<=ps.length->i*A<=(ps.length+2)*A:=λi v=>Ak _ Y;have f:EN ((ps.length+2)*A+1) (YP ps qs):=λi=>by
  obtain⟨z,a,b⟩:=p i;obtain⟨y,g,t⟩:=m (ps.length+1-qs.length);refine⟨z*y,(a.mul g).mono ?_,?_⟩
  . have u:(ps.length+1-qs.length+1)*A<=(ps.length+2)*A:=Ak _ Y;rw[AJ,CF]at u;omega
  . unfold YP EM;rw[Yw,b,t,AB]
 have hA9:A<=(ps.length+2)*A:=by
  have:1*A<=(ps.length+2)*A:=Ak _ Y;omega
 refine⟨DV.of λi=>Sq.of (p.smq c i) Y,DV.of λi=>Sq.of (d.smq c i) Y,λi v=>?_,λi=>?_,DV.of λi=>Sq.of (f.smq Y i) Y,d.smq c,l,?_⟩
 . obtain⟨z,a,b⟩:=m i;rw[b];exact n _ z a (by have:=r i Y;omega) Y
 . obtain⟨z,a,b⟩:=f i;have g:cf ps i*EM ps qs=(z:Rat):=by rw[<-b];unfold YP;rw[Yw]
   rw[g];exact n _ z a Y Y
 . refine⟨DF,Sm.one _ Y,f.cdl,DF,Sm.one _ c,d.cdl,s,o,?_⟩;rw[j,CB,show((1:Int):Rat)=1 from rfl];grind
theorem cT(tp:Jd ps=ps)(tq:Jd qs=qs)(q0:qs≠[]):(YP ps qs).length=ps.length:=Ym (OG tq q0) tp
theorem cU(A:Nat)(va vb:Value)(ps qs:List Rat)(w:R)(ha:Je w va ps)(hb:Je w vb qs)(wp:EN A ps)(wq:EN A qs)(tp:Jd ps=ps)(tq:Jd qs=qs)(q0:qs≠[])(hA:1<=A)(an:4*((ps.length+2)*(A+1))<=1000000)(hr:Ln A (JM ps qs)):
 Calls Tryz.prog 138 #[va,vb] w λe w'=>∃u,e=.returned u/\Je w' u (YQ ps qs)/\Bl w w':=by
 obtain⟨s1,s2,s3,s4,s5,s6,l,ae⟩:=cR wp wq tq q0 hA an;have b1:(ps.length+2)*(A+1)=(ps.length+2)*A+(ps.length+2):=by rw[AN,Ft]
 obtain⟨m,hm⟩:=ex ((YP ps qs).length-(qs.length-1));have Qk:m<=ps.length:=by rw[cT tp tq q0]at hm;omega
 have b2:m*(A+1)<=ps.length*(A+1):=Ak _ Qk;have b3:(ps.length+2)*(A+1)=ps.length*(A+1)+2*(A+1):=AJ _ _ _;have Qp:=Ja (λ(V:R) (x y:Value) (hx:Je V x (YP ps qs)) (hy:Je V y qs)=>Rh A x y (YP ps qs) qs V hx hy s5 s6 (JP _ _) tq q0 (by
  rw[hm];exact ae.sizes Y))
 have Qe:=(ae.rem hm).1;have Qc:=ae.den m;have Ql:=Ja λ(V:R) (x:Value) (hx:Je V x (JM (YP ps qs) qs))=>OI (1*l^m) ((ps.length+2)*A+1+m*(A+1)+1) x (JM (YP ps qs) qs) V hx (Xj _ _) Qc.1 Qc.2 (λi=>(Qe i).mono Y) Y;have Qd:=Rc tq q0 hr;have Qh:DV (JI (JM (YP ps qs) qs)):=DV.of λi=>Sq.of (Qd.1.smq hA i) Y;have Qj:DV (JD [] (JI (JM (YP ps qs) qs))):=DV.of λi=>Sq.of (Qd.2.smq hA i) Y;have Qf:=Ja λ(V:R) (y:Value) (hy:Je V y (JI (JM (YP ps qs) qs)))=>QK _ y [] (JI (JM (YP ps qs) qs)) V (Rj V) hy (DV.of λi=>by rw[YI];exact Hr) Qh Qj;have Qm:=Ja λ(V:R) (x y:Value) (hx:Je V x ps) (hy:Je V y qs)=>cO x y ps qs V hx hy s1 s2 q0 s3 s4;clear s1 s2 s3 s4 s5 s6 ae b1 hm Qk b2 b3 Qe Qc Qd Qh Qj wp wq tp tq q0 hA an hr;have Qo:Tryz.prog.follows .mixedOrders=true:=by kernel_rfl
 obtain⟨U,la,W,rfl⟩:=ha.form;obtain⟨N,lb,S,rfl⟩:=hb.form;have M0:=(((Mem.nil w).push (.cell 25 (C U la W)) (cs:=#[C U la W]) ⟨rfl,rfl⟩).push (.cell 25 (C N lb S)) (cs:=#[C N lb S]) ⟨rfl,rfl⟩).push (.cell 25 (C none 0 0)) (cs:=#[C none 0 0]) ⟨rfl,rfl⟩;simp only[Ax]at M0;obtain⟨W0,aj⟩:=ex (((w.alloc (I #[C U la W] 25)).alloc (I #[C N lb S] 25)).alloc (I #[C none 0 0] 25));obtain⟨Qg,HP,HQ⟩:=Df aj (λ(V:R) (hB:Bl w V)=>ha.below hB) λ(V:R) (hB:Bl w V)=>hb.below hB;have M1:Hid (Mem w W0 [some (w.heap.size,.cell 25 (C U la W)),some (w.heap.size+1,.cell 25 (C N lb S)),some (w.heap.size+1+1,.cell 25 (C none 0 0))]):=Ja (by rw[<-aj];exact M0);clear M0 aj ha hb;go_enter Tryz.func138,Tryz.ntmps138
 go_upto_region 1 with fail
 rw[Qg.o];clear Qg;refine Jm Qo [[],[],[0,1],[],[2,3,2],[4],[5],[5],[5],[],[],[9,6,4,0,1,2,3,4,5,6,9,10],[10,7,11,0,1,2,3,4,5,6,7,9,10,11],[8,12,0,1,2,3,4,5,6,7,8,9,10,11,12]] (by kernel_rfl) DF
  (λD ai V=>∃(tn ta tb tc td tm te tg ti tj tk tl:Value) (x9 ad:Option (Nat × Dat)),ai={ tmps:=#[H #[C U la W],H #[C N lb S],F (some ⟨w.heap.size,0,none⟩),F (some ⟨w.heap.size+1,0,none⟩),F (some ⟨w.heap.size+1+1,0,none⟩),tj,tk,tl,tm,tn,ta,tb,tc,td,te,tg,ti,E,E,E,E],defers:=[] }/\Hid ((D 0=true->tn=H #[C U la W])/\(D 1=true->ta=H #[C N lb S])/\(D 2=true->Has V tb (.poly (YP ps qs)))/\(D 3=true->tc=H #[C N lb S])/\(D 4=true->Tup2 V td (.poly (Jp (YP ps qs) qs)) (.poly (JM (YP ps qs) qs)))/\(D 5=true->Tup2 V tm (.poly (Jp (YP ps qs) qs)) (.poly (JM (YP ps qs) qs)))/\(D 6=true->Has V te (.poly (Jp (YP ps qs) qs)))/\(D 7=true->Has V tg (.poly (JM (YP ps qs) qs)))/\(D 8=true->ti=G true)/\((D 9=false->x9=none)/\(D 9=true->D 11=false->∃B:Nat,tj=F (some ⟨B,0,none⟩)/\x9=some (B,.poly []))/\(D 11=true->∃B:Nat,tj=F (some ⟨B,0,none⟩)/\x9=some (B,.poly (Jp (YP ps qs) qs))))/\((D 10=false->ad=none)/\(D 10=true->D 12=false->∃B:Nat,tk=F (some ⟨B,0,none⟩)/\ad=some (B,.poly []))/\(D 12=true->∃B:Nat,tk=F (some ⟨B,0,none⟩)/\ad=some (B,.poly (JM (YP ps qs) qs))))/\(D 13=true->tl=G true))/\Hid (Mem w V [some (w.heap.size,.cell 25 (C U la W)),some (w.heap.size+1,.cell 25 (C N lb S)),some (w.heap.size+1+1,.cell 25 (C none 0 0)),x9,ad]))
  ⟨_,_,_,_,_,_,_,_,_,_,_,_,none,none,rfl,Ja ⟨O,O,O,O,O,O,O,O,O,O,O,O⟩,Ja (((M1.o).none).none).drew⟩ ?step1 ?fin1
 case step1=>
  rintro D ai V i ds ap hi d X ⟨tn,ta,tb,tc,td,tm,te,tg,ti,tj,tk,tl,x9,ad,rfl,b,f⟩;have ba:i<14:=(Ac.1 hi).1;obtain rfl|rfl|rfl|rfl|rfl|rfl|rfl|rfl|rfl|rfl|rfl|rfl|rfl|rfl:=GK i Y
  all_goals
   simp only[Af,Ae,Ai]at hi;subst hi
  . have e0:=(f.o.cell (i:=0) rfl).1.cell;clear d;refine Za ?_;exact⟨_,_,_,_,_,_,_,_,_,_,_,_,_,_,rfl,(Dc b),Ja (f.o)⟩
  . have e0:=(f.o.cell (i:=1) rfl).1.cell;clear d;refine Za ?_;exact⟨_,_,_,_,_,_,_,_,_,_,_,_,_,_,rfl,(Di b),Ja (f.o)⟩
  . obtain rfl:=(b.o.1 (d 0 O));obtain rfl:=(b.o.2.1 (d 1 O));have HC:=Ja (Qm.o V _ _ (HP.o V f.o.2.2) (HQ.o V f.o.2.2));clear d;refine Jc rfl rfl λK hK=>?_;go_simp;go_wp2_with(go_at_call 182;refine HC.o.mono ?_;rintro e w5 ⟨v5,rfl,am,g⟩)
    obtain⟨_,_,_,L,M,j,k,o,q⟩:=b.o;exact⟨_,_,_,_,_,_,_,_,_,_,_,_,_,_,rfl,Ja ⟨λ_=>rfl,λ_=>rfl,λ_=>am,L,λh=>(M h).below g,λh=>(j h).below g,λh=>(k h).below g,λh=>(o h).below g,q⟩,Ja (f.o.below g)⟩
  . have e0:=(f.o.cell (i:=1) rfl).1.cell;clear d;refine Za ?_;exact⟨_,_,_,_,_,_,_,_,_,_,_,_,_,_,rfl,(De b),Ja (f.o)⟩
  . have h0:=(b.o.2.2.1 (d 2 O));obtain rfl:=(b.o.2.2.2.1 (d 3 O));have HC:=Ja (Qp.o V _ _ h0 (HQ.o V f.o.2.2));clear d h0;refine Jc rfl rfl λK hK=>?_;go_simp;go_wp2_with(go_at_call 139;refine HC.o.mono ?_;rintro e w5 ⟨v5,v6,rfl,am,ay,g⟩)
    obtain⟨s,t,z,_,_,j,k,o,q⟩:=b.o;exact⟨_,_,_,_,_,_,_,_,_,_,_,_,_,_,rfl,Ja ⟨s,t,λh=>(z h).below g,λ_=>rfl,λ_=>⟨v5,v6,rfl,am,ay⟩,λh=>(j h).below g,λh=>(k h).below g,λh=>(o h).below g,q⟩,Ja (f.o.below g)⟩
  . have h0:=(b.o.2.2.2.2.1 (d 4 O));clear d;refine Za ?_;exact⟨_,_,_,_,_,_,_,_,_,_,_,_,_,_,rfl,(Dp b λ_=>h0),Ja (f.o)⟩
  . obtain⟨y1,y2,rfl,h1,h2⟩:=((Dq b) (d 5 O));clear d;refine Za ?_;exact⟨_,_,_,_,_,_,_,_,_,_,_,_,_,_,rfl,(Ds b λ_=>h1),Ja (f.o)⟩
  . obtain⟨y1,y2,rfl,h1,h2⟩:=((Dq b) (d 5 O));clear d;refine Za ?_;exact⟨_,_,_,_,_,_,_,_,_,_,_,_,_,_,rfl,(D5 b λ_=>h2),Ja (f.o)⟩
  . obtain⟨y1,y2,rfl,h1,h2⟩:=((Dq b) (d 5 O));clear d;refine Za ?_;exact⟨_,_,_,_,_,_,_,_,_,_,_,_,_,_,rfl,(EJ b),Ja (f.o)⟩
  . have hf:D 11=false:=DG ap X;obtain rfl:=b.o.2.2.2.2.2.2.2.2.2.1.1 X;clear d;refine Za ?_;obtain⟨s,t,z,L,M,j,k,o,q,_,af⟩:=b.o;exact⟨_,_,_,_,_,_,_,_,_,_,_,_,_,_,rfl,Ja ⟨s,t,λh=>(z h).alloc _,L,λh=>(M h).alloc _,λh=>(j h).alloc _,λh=>(k h).alloc _,λh=>(o h).alloc _,q,⟨λh=>by simp at h,λ_ _=>⟨_,rfl,rfl⟩,λh=>by simp[hf]at h⟩,af⟩,Ja (f.o.fill (i:=3) rfl (.poly []) (H7 _))⟩
  . have hf:D 12=false:=DG ap X;obtain rfl:=b.o.2.2.2.2.2.2.2.2.2.2.1.1 X;clear d;refine Za ?_;obtain⟨s,t,z,L,M,j,k,o,q,G9,_,ah⟩:=b.o;exact⟨_,_,_,_,_,_,_,_,_,_,_,_,_,_,rfl,Ja ⟨s,t,λh=>(z h).alloc _,L,λh=>(M h).alloc _,λh=>(j h).alloc _,λh=>(k h).alloc _,λh=>(o h).alloc _,q,G9,⟨λh=>by simp at h,λ_ _=>⟨_,rfl,rfl⟩,λh=>by simp[hf]at h⟩,ah⟩,Ja (f.o.fill (i:=4) rfl (.poly []) (H7 _))⟩
  . obtain⟨B,rfl,rfl⟩:=b.o.2.2.2.2.2.2.2.2.2.1.2.1 (d 9 O) X;have Qb:=d 9 O;have hv:=((D6 b) (d 6 O));obtain⟨a1,l1,c1,rfl⟩:=Je.form (show Je V _ _ from hv);obtain⟨a,l,c,n,r⟩:=f.o.poly2 (i:=3) rfl;have e0:=n.cell;have f0:=n.frozen;clear d;refine Za ?_;obtain⟨s,t,z,L,M,j,k,o,q,_,af⟩:=b.o;exact⟨_,_,_,_,_,_,_,_,_,_,_,_,_,_,rfl,Ja ⟨s,t,λh=>(z h).set1 n rfl _,L,λh=>(M h).set1 n rfl _,λh=>(j h).set1 n rfl _,λh=>(k h).set1 n rfl _,λh=>(o h).set1 n rfl _,q,⟨λh=>by simp[Qb]at h,λ_ h=>by simp at h,λ_=>⟨B,rfl,rfl⟩⟩,af⟩,Ja (f.o.putPoly (i:=3) rfl hv)⟩
  . obtain⟨B,rfl,rfl⟩:=b.o.2.2.2.2.2.2.2.2.2.2.1.2.1 (d 10 O) X;have Qb:=d 10 O;have hv:=((EQ b) (d 7 O));obtain⟨a1,l1,c1,rfl⟩:=Je.form (show Je V _ _ from hv);obtain⟨a,l,c,n,r⟩:=f.o.poly2 (i:=4) rfl;have e0:=n.cell;have f0:=n.frozen;clear d;refine Za ?_;obtain⟨s,t,z,L,M,j,k,o,q,G9,_,ah⟩:=b.o;exact⟨_,_,_,_,_,_,_,_,_,_,_,_,_,_,rfl,Ja ⟨s,t,λh=>(z h).set1 n rfl _,L,λh=>(M h).set1 n rfl _,λh=>(j h).set1 n rfl _,λh=>(k h).set1 n rfl _,λh=>(o h).set1 n rfl _,q,G9,⟨λh=>by simp[Qb]at h,λ_ h=>by simp at h,λ_=>⟨B,rfl,rfl⟩⟩,ah⟩,Ja (f.o.putPoly (i:=4) rfl hv)⟩
  . obtain rfl:=((Ea b) (d 8 O));clear d;refine Za ?_;exact⟨_,_,_,_,_,_,_,_,_,_,_,_,_,_,rfl,(IR (EJ b)),Ja (f.o)⟩
 rintro D ai V2 T ⟨tn,ta,tb,tc,td,tm,te,tg,ti,tj,tk,tl,x9,ad,rfl,b,f⟩;obtain⟨B3,rfl,rfl⟩:=b.o.2.2.2.2.2.2.2.2.2.1.2.2 (T 11 DF);obtain⟨B4,rfl,rfl⟩:=b.o.2.2.2.2.2.2.2.2.2.2.1.2.2 (T 12 DF);obtain rfl:=b.o.1 (T 0 DF);obtain rfl:=b.o.2.1 (T 1 DF);obtain rfl:=b.o.2.2.2.1 (T 3 DF);obtain rfl:=Ea b (T 8 DF);obtain rfl:=b.o.2.2.2.2.2.2.2.2.2.2.2 (T 13 DF);clear b T M1;have M2:Hid (Mem w V2 [some (w.heap.size,.cell 25 (C U la W)),some (w.heap.size+1,.cell 25 (C N lb S)),some (w.heap.size+1+1,.cell 25 (C none 0 0)),some (B3,.poly (Jp (YP ps qs) qs)),some (B4,.poly (JM (YP ps qs) qs))]):=f;clear f;obtain⟨a5,l5,c5,n5,r5⟩:=M2.o.poly2 (i:=4) rfl;have az:=n5.cell;have n1:=(M2.o.cell (i:=2) rfl).1;have Qi:=Ja M2.o.2.2;have H1:=Ja (Ql.o V2 _ r5);clear Ql;go_wp2_with(first
  |(go_at_call 137;refine H1.o.mono ?_;clear H1;rintro e w4 ⟨u4,rfl,ax,aq⟩)
  |(go_at_call 90;refine(Qf.o _ _ ax).mono ?_;clear Qf;rintro e w5 ⟨u5,rfl,ak,_,aw⟩;have g:=Bt aq aw;obtain⟨a7,l7,c7,rfl⟩:=ak.form;have n5:=boxed_below n1 g;have x0:=n5.cell;have x1:=n5.frozen;have Qq:=Ja (Ku n5 (x:=C a7 l7 c7) ak);have Qn:=Ja ((Bt Qi.o g).setCell (p:=⟨w.heap.size+1+1,0,none⟩) (by show w.heap.size<=w.heap.size+1+1;omega) (C a7 l7 c7));clear ak g n5))
 exact BA (v:=H #[C a7 l7 c7]) (by simp[results,Tryz.results138,go_sem,x0]) rfl ⟨_,rfl,Qq.o,Qn.o⟩
def GU(b:Bool)(V:R)(t:Value)(c:Rat):Prop:=∃u,t=.tuple #[u,G true]/\(b=false->Jh V u c)
theorem GU.of(h:KD V t c):GU b V t c:=by
 obtain⟨u,e,h⟩:=h;exact⟨u,e,λ_=>h⟩
theorem GU.below{b:Bool}{V V':R}{t:Value}{c:Rat}(h:GU b V t c)(a:Bl V V'):GU b V' t c:=by
 obtain⟨u,e,h⟩:=h;exact⟨u,e,λe=>(h e).below a⟩
theorem GU.any{a:Bool}{V':R}(h:GU b V t c)(d:a=true):GU a V' t c:=by
 obtain⟨u,e,h⟩:=h;exact⟨u,e,λe=>by rw[d]at e;cases e⟩
theorem Rl(v:Value)(ps:List Rat)(w:R)(h:Je w v ps)(aq:DV ps)(ax:Jd ps=ps)(aw:∀i,Sq (cf ps i/cf ps (ps.length-1))):
 Calls Tryz.prog 88 #[v] w λe w'=>∃u,e=.returned u/\Je w' u (Jq ps)/\Bl w w':=by
 have Qq:Tryz.prog.follows .mixedOrders=true:=by kernel_rfl
 obtain⟨k,la,l,rfl⟩:=h.form;obtain⟨ba,ay,az,bc,_⟩:=h.row.forms;have M0:=(((Mem.nil w).push (.cell 25 (C k la l)) (cs:=#[C k la l]) ⟨rfl,rfl⟩).push (.cell 25 (C none 0 0)) (cs:=#[C none 0 0]) ⟨rfl,rfl⟩);simp only[Ax]at M0;obtain⟨V0,af⟩:=ex ((w.alloc (I #[C k la l] 25)).alloc (I #[C none 0 0] 25));have M1:Mem w V0 [some (w.heap.size,.cell 25 (C k la l)),some (w.heap.size+1,.cell 25 (C none 0 0))]:=by rw[<-af];exact M0
 have Qh:=Ja M1;obtain⟨n,hn⟩:=ex (ps.length:Nat);obtain⟨e0,ap⟩:=ex ((n:Int)-1:Int);have Qg:=Ja (JX (H #[C k la l]) ps V0 (h.below M1.2.2));rw[hn,ap]at Qg;have bf:e0+1=(n:Int):=Y
 have bg:IntKind.i64.wrap (n:Int)=(n:Int):=by rw[BO];omega
 have Qs:∀W:R,(Instr.makeSlice 22 (P Q (n:Int)) (P Q (n:Int))).run Tryz.prog W=.ok (C (some ⟨W.heap.size,0,none⟩) n n) (W.alloc (I (Yb n) 37)):=λW=>Ri n Y W;obtain⟨HP,Qi,Qn,HN⟩:=Dt (λ(V:R) (hB:Bl w V)=>h.below hB) aq aw (show ps.length=n from hn);have Qd:n<=1099511627776:=Y
 have Ql:=Ja af;have Qw:=Ja ax;clear h aq aw ba ay az hn ap M0 M1 af bc ax;go_enter Tryz.func88,Tryz.ntmps88
 go_upto_region 1 with fail
 rw[Ql.o];have c0:=(Qh.o.cell (i:=0) rfl).1.cell;go_upto_region 2 with(go_at_call 30;refine Qg.o.mono ?_;clear Qg;rintro e w1 ⟨rfl,an⟩)
 have Qe:Mem w (w1.alloc (I (Yb n) 37)) [some (w.heap.size,.cell 25 (C k la l)),some (w.heap.size+1,.cell 25 (C none 0 0)),some (w1.heap.size,.rats (List.replicate n 0))]:=(Qh.o.below an).push (.rats (List.replicate n 0)) (Ko _ n);obtain⟨V1,ah⟩:=ex (w1.alloc (I (Yb n) 37));obtain⟨A,ai⟩:=ex (w1.heap.size);rw[ah,ai]at Qe;rw[ah,ai];have Qk:=Ja Qe;clear Qe ah ai an c0 Qh Ql Qs;go_wp2;go_loopw [11] (λiv wr=>∃(i:Nat) (S:List Rat),i<=n/\iv=P Q (i:Int)/\Hid (Ij (λj=>cf ps j/cf ps (ps.length-1)) n i S)/\Hid (Mem w wr [some (w.heap.size,.cell 25 (C k la l)),some (w.heap.size+1,.cell 25 (C none 0 0)),some (A,.rats S)])) λiv _=>n-(intOf iv).toNat
 case atStart=>exact⟨0,_,AO _,rfl,Ja ⟨AA,λj=>by rw[J0,BB Y]⟩,Qk⟩
 case round=>
  obtain⟨i,S,hi,rfl,X,HM⟩:=hrel;clear Qk;by_cases aj:i<n
  . have bi:(i:Int)<(n:Int):=Y
    have Qm:=Ja (show i<S.length by rw[X.o.1];exact aj);have Qj:=Ja (show i<ps.length by rw[HN.o];exact aj);go_wp2_with fail
    have Qo:=HM.o.drew;obtain⟨m,hm⟩:=ex (ps.length-1:Nat);obtain⟨Qv,Qr,Qt⟩:=Df (show(ps.length:Int)-1=(m:Int)by have:=Qj.o;omega) hm (show decide (cf ps m≠0)=true by rw[<-hm];exact BJ (Jt Qw.o λe=>by have:=Qj.o;rw[e]at this;simp at this));clear hm;refine Jm Qq [[],[],[],[],[2,3],[],[],[6,4],[5,7,7],[4,8,8],[9],[10],[10],[0,1,0,1,2,3,4,5,6,7,8,9,10,11],[13,11,9,0,1,2,3,4,5,6,7,8,9,10,11]] (by kernel_rfl) DF
     (λD ae V=>∃(tb tc td te tg ti tj tk tl tm ta tn tp tq:Value),ae={ tmps:=#[H #[C k la l],F (some ⟨w.heap.size,0,none⟩),F (some ⟨w.heap.size+1,0,none⟩),C (some ⟨A,0,none⟩) n n,P Q ↑i,H #[C k la l],P Q e0,P Q ↑n,C (some ⟨A,0,none⟩) n n,C (some ⟨A,0,none⟩) n n,P Q ↑n,P Q ↑i,G true,P Q ↑i,ta,tb,tc,td,te,tg,ti,tj,tk,tl,tm,tn,tp,tq,u28,E,E],defers:=[] }/\Hid ((D 0=true->tb=C (some ⟨A,0,none⟩) n n)/\(D 1=true->tc=P Q (i:Int))/\(D 2=true->td=H #[C k la l])/\(D 3=true->te=P Q (i:Int))/\(D 4=true->D 14=false->Jh V tg (cf ps i))/\(D 5=true->ti=H #[C k la l])/\(D 6=true->tj=H #[C k la l])/\(D 7=true->tk=P Q (m:Int))/\(D 8=true->D 14=false->Jh V tl (cf ps m))/\(D 9=true->D 14=false->KD V tm (cf ps i/cf ps m))/\(D 10=true->GU (D 14) V ta (cf ps i/cf ps m))/\(D 11=true->D 14=false->Jh V tn (cf ps i/cf ps m))/\(D 12=true->tp=G true)/\(D 13=true->tq=F (some ⟨A,i*4,none⟩)))/\Hid ((D 14=false->Mem w V [some (w.heap.size,.cell 25 (C k la l)),some (w.heap.size+1,.cell 25 (C none 0 0)),some (A,.rats S)])/\(D 14=true->Mem w V [some (w.heap.size,.cell 25 (C k la l)),some (w.heap.size+1,.cell 25 (C none 0 0)),some (A,.rats (S.set i (cf ps i/cf ps m)))])))
     (E8 ⟨_,_,_,_,_,_,rfl,Ja O,Ja ⟨λ_=>Qo,O⟩⟩) ?step1 ?fin1
    case step1=>
     rintro D ae V i ds z hi c r ⟨tb,tc,td,te,tg,ti,tj,tk,tl,tm,ta,tn,tp,tq,rfl,b,d⟩;have bh:i<15:=(Ac.1 hi).1;obtain rfl|rfl|rfl|rfl|rfl|rfl|rfl|rfl|rfl|rfl|rfl|rfl|rfl|rfl|rfl:=ID i Y
     all_goals
      simp only[Af,Ae,Ai]at hi;subst hi
     . clear c;refine DL ?_;exact⟨(Dc b),d⟩
     . clear c;refine DL ?_;exact⟨(Di b),d⟩
     . have g:=d.o.1 (DG z r);have e0:=(g.cell (i:=0) rfl).1.cell;clear c;refine DL ?_;exact⟨(Db b),d⟩
     . clear c;refine DL ?_;exact⟨(De b),d⟩
     . have g:=d.o.1 (DG z r);obtain rfl:=b.o.2.2.1 (c 2 O);obtain rfl:=b.o.2.2.2.1 (c 3 O);clear c;have o:=Ja (Hu _ ps (i:Int) V (HP.o V g.2.2));rw[KI]at o;refine Jc rfl rfl λK hK=>?_;go_simp;go_wp2_with(go_at_call 74;refine o.o.mono ?_;rintro e w5 ⟨v5,rfl,ad,a⟩)
       obtain⟨s,t,_,_,_,N,U,G7,G8,G9,x,B,y⟩:=b.o;exact E8 ⟨_,_,_,_,_,_,rfl,Ja ⟨s,t,λ_=>rfl,λ_=>rfl,λ_ _=>ad,N,U,G7,λh f=>(G8 h f).below a,λh f=>(G9 h f).below a,λh=>(x h).below a,λh f=>(B h f).below a,y⟩,Ja ⟨λh=>(d.o.1 h).below a,λh=>(d.o.2 h).below a⟩⟩
     . have g:=d.o.1 (DG z r);have e0:=(g.cell (i:=0) rfl).1.cell;clear c;refine DL ?_;exact⟨(Dp b),d⟩
     . have g:=d.o.1 (DG z r);have e0:=(g.cell (i:=0) rfl).1.cell;clear c;refine DL ?_;exact⟨(Ds b),d⟩
     . have g:=d.o.1 (DG z r);obtain rfl:=D6 b (c 6 O);clear c;have o:=Ja (JX _ ps V (HP.o V g.2.2));rw[Qv.o]at o;refine Jc rfl rfl λK hK=>?_;go_simp;go_wp2_with(go_at_call 30;refine o.o.mono ?_;rintro e w5 ⟨rfl,a⟩)
       obtain⟨s,t,L,M,G4,N,_,_,G8,G9,x,B,y⟩:=b.o;exact E8 ⟨_,_,_,_,_,_,rfl,Ja ⟨s,t,L,M,λh f=>(G4 h f).below a,N,λ_=>rfl,λ_=>rfl,λh f=>(G8 h f).below a,λh f=>(G9 h f).below a,λh=>(x h).below a,λh f=>(B h f).below a,y⟩,Ja ⟨λh=>(d.o.1 h).below a,λh=>(d.o.2 h).below a⟩⟩
     . have g:=d.o.1 (DG z r);obtain rfl:=Dq b (c 5 O);obtain rfl:=EQ b (c 7 O);clear c;have o:=Ja (Hu _ ps (m:Int) V (HP.o V g.2.2));rw[KI]at o;refine Jc rfl rfl λK hK=>?_;go_simp;go_wp2_with(go_at_call 74;refine o.o.mono ?_;rintro e w5 ⟨v5,rfl,ad,a⟩)
       obtain⟨s,t,L,M,G4,_,U,_,_,G9,x,B,y⟩:=b.o;exact E8 ⟨_,_,_,_,_,_,rfl,Ja ⟨s,t,L,M,λh f=>(G4 h f).below a,λ_=>rfl,U,λ_=>rfl,λ_ _=>ad,λh f=>(G9 h f).below a,λh=>(x h).below a,λh f=>(B h f).below a,y⟩,Ja ⟨λh=>(d.o.1 h).below a,λh=>(d.o.2 h).below a⟩⟩
     . have Qa:D 14=false:=DG z r;have q:=b.o.2.2.2.2.1 (c 4 O) Qa;have h1:=Ea b (c 8 O) Qa;clear c;have o:=Ja (QE _ _ (cf ps i) (cf ps m) V q h1 (Qi.o.at i) (Qi.o.at m));rw[Qt.o]at o;clear q h1;refine Jc rfl rfl λK hK=>?_;go_simp;go_wp2_with(go_at_call 75;refine o.o.mono ?_;rintro e w5 ⟨v5,rfl,ad,a⟩)
       obtain⟨s,t,L,M,G4,N,U,G7,G8,_,x,B,y⟩:=b.o;exact E8 ⟨_,_,_,_,_,_,rfl,Ja ⟨s,t,L,M,λh f=>(G4 h f).below a,N,U,G7,λh f=>(G8 h f).below a,λ_ _=>⟨v5,rfl,ad⟩,λh=>(x h).below a,λh f=>(B h f).below a,y⟩,Ja ⟨λh=>(d.o.1 h).below a,λh=>(d.o.2 h).below a⟩⟩
     . have Qa:D 14=false:=DG z r;have q:=F7 b (c 9 O) Qa;clear c;refine DL ?_;exact⟨(Dx b λ_=>GU.of q),d⟩
     . have Qa:D 14=false:=DG z r;have q:=EL b (c 10 O);obtain⟨v7,rfl,h7⟩:=q;clear c;refine DL ?_;exact⟨(D0 b λ_ _=>h7 Qa),d⟩
     . have q:=EL b (c 10 O);obtain⟨v7,rfl,h7⟩:=q;clear c;refine DL ?_;exact⟨(D9 b),d⟩
     . obtain rfl:=b.o.1 (c 0 O);obtain rfl:=b.o.2.1 (c 1 O);clear c;refine DL ?_;exact⟨(KY (Di (Dc b))),d⟩
     . have g:=d.o.1 r;have q:=Ee b (c 11 O) r;obtain rfl:=b.o.2.2.2.2.2.2.2.2.2.2.2.2.2 (c 13 O);have hE:=g.rats (i:=2) rfl;obtain⟨xa,xb,xc,xd,e0,e1,e2,e3,_⟩:=hE.at Qm.o;have f0:=hE.frozen (i*4);have f1:=hE.frozen (i*4+1);have f2:=hE.frozen (i*4+2);have f3:=hE.frozen (i*4+3);obtain⟨s9,a9,l9,c9,t9,b9,k9,d9,rfl⟩:=Jh.form q;clear c;refine DL ?_;obtain⟨s,t,L,M,_,N,U,G7,_,_,x,_,y,_⟩:=b.o;exact⟨Ja ⟨s,t,L,M,λ_ h=>by simp at h,N,U,G7,λ_ h=>by simp at h,λ_ h=>by simp at h,λh=>GU.any (x h) O,λ_ h=>by simp at h,y,λ_=>rfl⟩,Ja ⟨λh=>by simp at h,λ_=>g.putRats (i:=2) rfl Qm.o q⟩⟩
    case fin1=>
     rintro D ae V am ⟨tb,tc,td,te,tg,ti,tj,tk,tl,tm,ta,tn,tp,tq,rfl,b,d⟩;have HO:=Ja (d.o.2 (am 14 DF));clear b d am;rw[<-Qr.o]at HO;go_wp2_with fail
     go_roundw
     case rel=>exact⟨i+1,_,Y,by go_num,Ja (X.o.next aj),HO⟩
     case measure=>simp[intOf];omega
  . obtain rfl:i=n:=Y
    have hE:=HM.o.rats (i:=2) rfl;have Qc:=hE.row (n:=i) (cap:=i) (by rw[X.o.1];exact Aa _) (Aa _) Y Qd;rw[Ad (by rw[X.o.1];exact Aa _)]at Qc;have Qf:=Ja (QN _ S wr Qc (DV.of λj=>by
     rw[X.o.2 j];split
     . exact Qn.o j
     . exact Hr))
    rw[X.o.done (T:=Jq ps) (JP _ _) (λj hj=>by unfold Jq;rw[Yw,Fh,Co,<-Fh]) λj hj=>by unfold Jq;rw[Yw,Ye (by rw[HN.o];exact hj),A2]]at Qf;clear hE Qc;go_wp2_with(go_at_call 25;refine Qf.o.mono ?_;clear Qf;rintro e w5 ⟨u5,rfl,ak,_,a⟩;obtain⟨a7,l7,c7,rfl⟩:=ak.form;have n5:=boxed_below (HM.o.cell (i:=1) rfl).1 a;have x0:=n5.cell;have x1:=n5.frozen;have Qu:=Ja (Ei n5 (C a7 l7 c7) ak.row);have Qp:=Ja ((Bt HM.o.2.2 a).setCell (p:=⟨w.heap.size+1,0,none⟩) (by show w.heap.size<=w.heap.size+1;omega) (C a7 l7 c7));clear ak a n5)
    exact BA (v:=H #[C a7 l7 c7]) (by simp[results,Tryz.results88,go_sem,x0]) rfl ⟨_,rfl,⟨_,rfl,Qu.o⟩,Qp.o⟩
end M3
def ET:Nat->List Rat->List Rat->List (List Rat)
 |0,a,_=>[a]
 |n+1,a,b=>if b=[]then [a]else a::ET n b (YQ a b)
theorem cV:∀(n m:Nat) (a b:List Rat),Jd b=b->b.length<=n->b.length<=m->ET n a b=ET m a b:=by
 intro n;induction n with
 |zero=>
  intro m a b _ h _;have d:b=[]:=Kr Y;subst d;cases m with
  |zero=>rfl
  |succ m=>simp[ET]
 |succ n e=>
  intro m a b tb h f;by_cases c:b=[]
  . subst c;cases m with
    |zero=>simp[ET]
    |succ m=>simp[ET]
  . have hl:0<b.length:=Ag.2 c;cases m with
    |zero=>omega
    |succ m=>
     have g:=Y0 (a:=a) tb c;simp only[ET,BB c];rw[e m b (YQ a b) (Hz _ _) Y Y]
def Ec(a b:List Rat):List (List Rat):=ET b.length a b
theorem KJ(a:List Rat):Ec a []=[a]:=rfl
theorem XG{a b:List Rat}(tb:Jd b=b)(c:b≠[]):Ec a b=a::Ec b (YQ a b):=by
 have e:=Y0 (a:=a) tb c;have hl:0<b.length:=Ag.2 c;unfold Ec;obtain⟨n,d⟩:∃n,b.length=n+1:=⟨b.length-1,Y⟩;rw[d,ET,BB c];congr 1;exact cV _ _ _ _ (Hz _ _) Y (Aa _)
def X3(p q:List Rat):List (List Rat):=Ec (JI p) (JI q)

