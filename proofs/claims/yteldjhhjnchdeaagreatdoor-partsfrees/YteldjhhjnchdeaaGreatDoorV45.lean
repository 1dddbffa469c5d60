import Derived.Test.YteldjhhjnchdeaaGreatDoorV44
open Go.Value renaming slice->C,pointer->F,agg->I,bool->Q,int->U
open Go renaming undef->E,World->P,Value->R
open Go.Obj renaming cells->G
set_option maxRecDepth 100000
set_option maxHeartbeats 16000000
namespace Go.Proofs.YteldjhhjnchdeaaGreatDoor
namespace M3
open Go.RowKit Go.Shelf
attribute [local go_sem] Oper.semAt_some
variable{b:Bool}{ps qs:List Rat}{c:Rat}{t:R}{V:P}
theorem eF(p:List Rat)(n:Nat):((Int.gcd ((Y2 p n:Nat):Int) (cf p n).num:Nat):Int)=((Y2 p (n+1):Nat):Int):=rfl
theorem eG(p:List Rat)(n:Nat):((Nat.lcm (Xg p n) (cf p n).den:Nat):Int)=((Xg p (n+1):Nat):Int):=rfl
theorem Oi(D:Int)(M:Nat)(v:R)(ps:List Rat)(w:P)(h:Jg w v ps)(ak:Jd ps=ps)(hD:D≠0)(af:Sm M D)(aj:EJ D M ps)(hM:M<=1000000):
 Calls Tryz.prog 56 #[v] w λe w'=>∃u,e=.returned u/\Jg w' u (YV ps)/\Bl w w':=by
 have Qe:Tryz.prog.follows .mixedOrders=true:=by kernel_rfl
 obtain⟨m,la,o,rfl⟩:=h.form;obtain⟨bi,bg,bh,bj,_⟩:=h.row.forms;have Qa:∀i,Dd M (cf ps i):=λi=>(aj i).smq hD af;obtain⟨HG,HL,Qb⟩:=Dk (λi=>DY.of (Sb (λj=>(Qa j).1) i) Y:∀i,DY ((Y2 ps i:Nat):Int)) (λi=>DY.of (Sa hD af aj i) Y:∀i,DY ((Xg ps i:Nat):Int)) (show DZ ps from DZ.of λi=>Sq.of (Qa i) hM);have HF:=J (show ps≠[]->Sq ((Xg ps ps.length:Rat)/(Y2 ps ps.length:Rat))/\∀i,Sq (cf ps i*((Xg ps ps.length:Rat)/(Y2 ps ps.length:Rat)))from λk=>by
  have h1:=Sc ak k (aj.ln hD);refine⟨?_,λi=>?_⟩
  . have h2:((Xg ps ps.length:Rat)/(Y2 ps ps.length:Rat))=Rat.divInt ((Xg ps ps.length:Nat):Int) ((Y2 ps ps.length:Nat):Int):=by rw[CU,Cu,Cu]
    rw[h2];exact Sq.of (Dd.divInt (Int.natCast_ne_zero.2 (Mi ak k)) (Sa hD af aj _) (Sb (λj=>(Qa j).1) _)) hM
  . obtain⟨z,h3,h4⟩:=h1 i;have h5:cf ps i*((Xg ps ps.length:Rat)/(Y2 ps ps.length:Rat))=(z:Rat):=by rw[<-h4];unfold YV;rw[Y6]
    rw[h5];have h6:1<=M:=by
     by_cases h7:1<=M
     . exact h7
     . exfalso
       obtain rfl:M=0:=Y
       unfold Sm at af;have:D.natAbs≠0:=Int.natAbs_ne_zero.2 hD;simp at af;omega
    exact Sq.of ((Mh (D:=1) DQ h3 (by rw[show((1:Int):Rat)=1 from rfl,Rat.mul_one])).smq DQ (Sm.one M h6)) hM)
 have Qm:=J (λk=>Mi ak k:ps≠[]->Y2 ps ps.length≠0);have M0:=(((Mem.nil w).push (.cell 25 (C m la o)) (cs:=#[C m la o]) ⟨rfl,rfl⟩).push (.cell 25 (C none 0 0)) (cs:=#[C none 0 0]) ⟨rfl,rfl⟩).push (.int 0) (cs:=#[Q false,C none 0 0]) (EQ _);simp only[A1]at M0;obtain⟨W0,an⟩:=ex (((w.alloc (G #[C m la o] 25)).alloc (G #[C none 0 0] 25)).alloc (G #[Q false,C none 0 0] 63));have Qd:=J an;have M1:Hid (Mem w W0 [some (w.heap.size,.cell 25 (C m la o)),some (w.heap.size+1,.cell 25 (C none 0 0)),some (w.heap.size+1+1,.int (((Y2 ps 0:Nat):Int)))]):=J (by rw[<-an];exact M0);obtain⟨n,hn⟩:=ex (ps.length:Nat);obtain⟨T,bf⟩:=ex ((n:Int)-1:Int);have Qc:=J λ(V:P) (hB:Bl w V)=>YA (I #[C m la o]) ps V (h.below hB);rw[hn,bf]at Qc;have bu:T+1=(n:Int):=Y
 have ce:IntKind.i64.wrap (n:Int)=(n:Int):=by rw[BS];omega
 have HP:=J λ(V:P) (hB:Bl w V)=>h.below hB;have HN:=J (show ps.length=n from hn);have cj:n<=1099511627776:=Y
 have Qf:=J λ(V:P)=>I7 1 Y Y V;clear h bi bg bh hn bf M0 an bj ak hD af aj hM Qa;go_enter Tryz.func56,Tryz.ntmps56
 go_upto_region 2 with fail
 rw[Qd.o];clear Qd;go_upto_region 3 with(go_at_call 95;refine(Qf.o _).mono ?_;clear Qf;rintro e w1 ⟨u1,rfl,aw,az⟩;obtain⟨s1,a1,l1,c1,rfl⟩:=Jm.form2 aw)
 obtain⟨V1,hV⟩:=ex (w1.alloc (G #[Q s1,C a1 l1 c1] 63));obtain⟨t,ae⟩:=ex (w1.heap.size);have d:Mem w (w1.alloc (G #[Q s1,C a1 l1 c1] 63)) [some (w.heap.size,.cell 25 (C m la o)),some (w.heap.size+1,.cell 25 (C none 0 0)),some (w.heap.size+1+1,.int (((Y2 ps 0:Nat):Int))),some (w1.heap.size,.int (((Xg ps 0:Nat):Int)))]:=Mem.push (M1.o.below az) (.int (((Xg ps 0:Nat):Int))) aw;rw[hV,ae]at d;rw[hV];rw[ae];have M2:Hid (Mem w V1 [some (w.heap.size,.cell 25 (C m la o)),some (w.heap.size+1,.cell 25 (C none 0 0)),some (w.heap.size+1+1,.int (((Y2 ps 0:Nat):Int))),some (t,.int (((Xg ps 0:Nat):Int)))]):=J (d);clear M1;clear d hV ae;clear aw az;have c0:=(M2.o.cell (i:=0) rfl).1.cell;go_upto_region 4 with(go_at_call 20;refine(Qc.o _ M2.o.2.2).mono ?_;clear Qc;rintro e w2 ⟨rfl,bc⟩)
 have ML:Hid (Mem w w2 [some (w.heap.size,.cell 25 (C m la o)),some (w.heap.size+1,.cell 25 (C none 0 0)),some (w.heap.size+1+1,.int (((Y2 ps 0:Nat):Int))),some (t,.int (((Xg ps 0:Nat):Int)))]):=J (M2.o.below bc);clear c0 bc M2;go_loopw [12] (λiv wr=>∃i:Nat,i<=n/\iv=U .i64 (i:Int)/\Hid (Mem w wr [some (w.heap.size,.cell 25 (C m la o)),some (w.heap.size+1,.cell 25 (C none 0 0)),some (w.heap.size+1+1,.int (((Y2 ps i:Nat):Int))),some (t,.int (((Xg ps i:Nat):Int)))])) λiv _=>n-(intOf iv).toNat
 case atStart=>exact⟨0,AK _,rfl,ML⟩
 case round=>
  obtain⟨i,X,rfl,M3⟩:=hrel;clear ML;by_cases cg:i<n
  . have ci:(i:Int)<(n:Int):=Y
    go_upto_region 6 with fail
    refine Jl Qe [[],[],[],[1,2],[3,3],[0,4,4],[5,5,0,1,2,3,4,5]] (by kernel_rfl) DQ
     (λD ad V=>∃(ta tb tc td te tf:R) (y2:Option (Nat × Dat)),ad={ tmps:=#[I #[C m la o],F (some ⟨w.heap.size,0,none⟩),F (some ⟨w.heap.size+1,0,none⟩),F (some ⟨w.heap.size+1+1,0,none⟩),F (some ⟨t,0,none⟩),U .i64 ↑i,E,E,I #[Q s1,C a1 l1 c1],I #[C m la o],U .i64 T,U .i64 ↑n,U .i64 ↑i,Q true,U .i64 ↑i,ta,tb,tc,td,te,tf,u21,u22,u23,u24,u25,u26,u27,E,E,E,E,E,E,E,E,E,E,E,E],defers:=[] }/\Hid ((D 0=true->Has V ta (.int (((Y2 ps i:Nat):Int))))/\(D 1=true->tb=I #[C m la o])/\(D 2=true->tc=Value.int IntKind.i64 ↑i)/\(D 3=true->Has V td (.rat (cf ps i)))/\(D 4=true->Has V te (.int ((cf ps i).num)))/\(D 5=true->Has V tf (.int (((Y2 ps (i+1):Nat):Int))))/\((D 6=false->y2=some (w.heap.size+1+1,.int (((Y2 ps i:Nat):Int))))/\(D 6=true->y2=some (w.heap.size+1+1,.int (((Y2 ps (i+1):Nat):Int))))))/\Hid (Mem w V [some (w.heap.size,.cell 25 (C m la o)),some (w.heap.size+1,.cell 25 (C none 0 0)),y2,some (t,.int (((Xg ps i:Nat):Int)))]))
     ⟨_,_,_,_,_,_,_,rfl,J ⟨O,O,O,O,O,O,⟨λ_=>rfl,O⟩⟩,J (M3.o).drew⟩ ?step2 ?fin2
    case step2=>
     rintro D ad V i ds ap X g ah ⟨ta,tb,tc,td,te,tf,y2,rfl,b,d⟩;have Qj:i<7:=(Ac.1 X).1;obtain rfl|rfl|rfl|rfl|rfl|rfl|rfl:=IP i Y
     all_goals
      simp only[Af,Ae,Ag]at X;subst X
     . have hf:D 6=false:=DR ap ah;obtain rfl:=Ds b hf;clear g;obtain⟨s,a,l,c,n,i⟩:=d.o.int (i:=2) rfl;obtain⟨T,e1⟩:=n.cp;refine Za ?_;exact⟨_,_,_,_,_,_,_,rfl,(Lr (Dg b λ_=>i) ⟨λ_=>rfl,λh=>by simp[hf]at h⟩),J (d.o)⟩
     . have T:=(d.o.cell (i:=0) rfl).1.cell;clear g;refine Za ?_;exact⟨_,_,_,_,_,_,_,rfl,(Do b),J (d.o)⟩
     . clear g;refine Za ?_;exact⟨_,_,_,_,_,_,_,rfl,(Df b),J (d.o)⟩
     . obtain rfl:=(b.o.2.1 (g 1 O));obtain rfl:=(b.o.2.2.1 (g 2 O));have r:=J (KD _ ps (i:Int) V (HP.o V d.o.2.2));rw[KV]at r;clear g;refine Jb rfl rfl λK hK=>?_;go_simp;go_wp2_with(go_at_call 58;refine r.o.mono ?_;rintro e w5 ⟨v5,rfl,S,f⟩)
       obtain⟨q,_,_,_,H,L,N⟩:=b.o;exact⟨_,_,_,_,_,_,_,rfl,J ⟨λh=>(q h).below f,λ_=>rfl,λ_=>rfl,λ_=>S,λh=>(H h).below f,λh=>(L h).below f,N⟩,J (d.o.below f)⟩
     . have k:=(b.o.2.2.2.1 (g 3 O));have r:=J (cN _ (cf ps i) V k);clear g k;refine Jb rfl rfl λK hK=>?_;go_simp;go_wp2_with(go_at_call 96;refine r.o.mono ?_;rintro e w5 ⟨v5,rfl,S,f⟩)
       obtain⟨q,y,A,B,_,L,N⟩:=b.o;exact⟨_,_,_,_,_,_,_,rfl,J ⟨λh=>(q h).below f,y,A,λh=>(B h).below f,λ_=>S,λh=>(L h).below f,N⟩,J (d.o.below f)⟩
     . have k:=(b.o.1 (g 0 O));have h1:=(b.o.2.2.2.2.1 (g 4 O));have r:=J (Io _ _ ((Y2 ps i:Nat):Int) (cf ps i).num V k h1 (by have:=(HG.o i).words;omega) (by have:=(Qb.o.at i).num.words;omega));rw[eF]at r;clear g k h1;refine Jb rfl rfl λK hK=>?_;go_simp;go_wp2_with(go_at_call 90;refine r.o.mono ?_;rintro e w5 ⟨v5,rfl,S,f⟩)
       obtain⟨q,y,A,B,H,_,N⟩:=b.o;exact⟨_,_,_,_,_,_,_,rfl,J ⟨λh=>(q h).below f,y,A,λh=>(B h).below f,λh=>(H h).below f,λ_=>S,N⟩,J (d.o.below f)⟩
     . obtain rfl:=Ds b ah;have hv:=((Dp b) (g 5 O));obtain⟨s1,a1,l1,c1,rfl⟩:=Jm.form2 (show Jm V _ _ from hv);obtain⟨s,a,l,c,n,i⟩:=d.o.int (i:=2) rfl;have T:=n.c0;have f0:=n.f0;have e1:=n.c1;have f1:=n.f1;clear g;refine Za ?_;obtain⟨q,y,A,B,H,L,_⟩:=b.o;exact⟨_,_,_,_,_,_,_,rfl,J ⟨λh=>(q h).set2 n rfl rfl _ _,y,A,λh=>(B h).set2 n rfl rfl _ _,λh=>(H h).set2 n rfl rfl _ _,λh=>(L h).set2 n rfl rfl _ _,⟨λh=>by simp at h,λ_=>rfl⟩⟩,J (d.o.putInt (i:=2) rfl hv)⟩
    rintro D ad V3 W ⟨ta,tb,tc,td,te,tf,y2,rfl,b,d⟩;obtain rfl:=b.o.2.2.2.2.2.2.2 (W 6 DQ);obtain rfl:=b.o.2.1 (W 1 DQ);obtain rfl:=b.o.2.2.1 (W 2 DQ);clear b W M3;have M4:Hid (Mem w V3 [some (w.heap.size,.cell 25 (C m la o)),some (w.heap.size+1,.cell 25 (C none 0 0)),some (w.heap.size+1+1,.int (((Y2 ps (i+1):Nat):Int))),some (t,.int (((Xg ps i:Nat):Int)))]):=d;clear d;go_upto_region 7 with fail
    refine Jl Qe [[],[],[],[1,2],[3,3],[0,4,4],[5,5,0,1,2,3,4,5]] (by kernel_rfl) DQ
     (λD ad V=>∃(tg ti tj tk tl tm:R) (y3:Option (Nat × Dat)),ad={ tmps:=#[I #[C m la o],F (some ⟨w.heap.size,0,none⟩),F (some ⟨w.heap.size+1,0,none⟩),F (some ⟨w.heap.size+1+1,0,none⟩),F (some ⟨t,0,none⟩),U .i64 ↑i,E,E,I #[Q s1,C a1 l1 c1],I #[C m la o],U .i64 T,U .i64 ↑n,U .i64 ↑i,Q true,U .i64 ↑i,ta,I #[C m la o],U .i64 ↑i,td,te,tf,tg,ti,tj,tk,tl,tm,u27,E,E,E,E,E,E,E,E,E,E,E,E],defers:=[] }/\Hid ((D 0=true->Has V tg (.int (((Xg ps i:Nat):Int))))/\(D 1=true->ti=I #[C m la o])/\(D 2=true->tj=Value.int IntKind.i64 ↑i)/\(D 3=true->Has V tk (.rat (cf ps i)))/\(D 4=true->Has V tl (.int (((cf ps i).den:Int))))/\(D 5=true->Has V tm (.int (((Xg ps (i+1):Nat):Int))))/\((D 6=false->y3=some (t,.int (((Xg ps i:Nat):Int))))/\(D 6=true->y3=some (t,.int (((Xg ps (i+1):Nat):Int))))))/\Hid (Mem w V [some (w.heap.size,.cell 25 (C m la o)),some (w.heap.size+1,.cell 25 (C none 0 0)),some (w.heap.size+1+1,.int (((Y2 ps (i+1):Nat):Int))),y3]))
     ⟨_,_,_,_,_,_,_,rfl,J ⟨O,O,O,O,O,O,⟨λ_=>rfl,O⟩⟩,J (M4.o).drew⟩ ?step4 ?fin4
    case step4=>
     rintro D ad V i ds ap X g ah ⟨tg,ti,tj,tk,tl,tm,y3,rfl,b,d⟩;have Qj:i<7:=(Ac.1 X).1;obtain rfl|rfl|rfl|rfl|rfl|rfl|rfl:=IP i Y
     all_goals
      simp only[Af,Ae,Ag]at X;subst X
     . have hf:D 6=false:=DR ap ah;obtain rfl:=Ds b hf;clear g;obtain⟨s,a,l,c,n,i⟩:=d.o.int (i:=3) rfl;obtain⟨T,e1⟩:=n.cp;refine Za ?_;exact⟨_,_,_,_,_,_,_,rfl,(Lr (Dg b λ_=>i) ⟨λ_=>rfl,λh=>by simp[hf]at h⟩),J (d.o)⟩
     . have T:=(d.o.cell (i:=0) rfl).1.cell;clear g;refine Za ?_;exact⟨_,_,_,_,_,_,_,rfl,(Do b),J (d.o)⟩
     . clear g;refine Za ?_;exact⟨_,_,_,_,_,_,_,rfl,(Df b),J (d.o)⟩
     . obtain rfl:=(b.o.2.1 (g 1 O));obtain rfl:=(b.o.2.2.1 (g 2 O));have r:=J (KD _ ps (i:Int) V (HP.o V d.o.2.2));rw[KV]at r;clear g;refine Jb rfl rfl λK hK=>?_;go_simp;go_wp2_with(go_at_call 58;refine r.o.mono ?_;rintro e w5 ⟨v5,rfl,S,f⟩)
       obtain⟨q,_,_,_,H,L,N⟩:=b.o;exact⟨_,_,_,_,_,_,_,rfl,J ⟨λh=>(q h).below f,λ_=>rfl,λ_=>rfl,λ_=>S,λh=>(H h).below f,λh=>(L h).below f,N⟩,J (d.o.below f)⟩
     . have k:=(b.o.2.2.2.1 (g 3 O));have r:=J (F9 _ (cf ps i) V k);clear g k;refine Jb rfl rfl λK hK=>?_;go_simp;go_wp2_with(go_at_call 86;refine r.o.mono ?_;rintro e w5 ⟨v5,rfl,S,f⟩)
       obtain⟨q,y,A,B,_,L,N⟩:=b.o;exact⟨_,_,_,_,_,_,_,rfl,J ⟨λh=>(q h).below f,y,A,λh=>(B h).below f,λ_=>S,λh=>(L h).below f,N⟩,J (d.o.below f)⟩
     . have k:=(b.o.1 (g 0 O));have h1:=(b.o.2.2.2.2.1 (g 4 O));have r:=J (eE _ _ (Xg ps i) (cf ps i).den V k h1 (SW ps i) (HL.o i) (Qb.o.at i).den);rw[eG]at r;clear g k h1;refine Jb rfl rfl λK hK=>?_;go_simp;go_wp2_with(go_at_call 97;refine r.o.mono ?_;rintro e w5 ⟨v5,rfl,S,f⟩)
       obtain⟨q,y,A,B,H,_,N⟩:=b.o;exact⟨_,_,_,_,_,_,_,rfl,J ⟨λh=>(q h).below f,y,A,λh=>(B h).below f,λh=>(H h).below f,λ_=>S,N⟩,J (d.o.below f)⟩
     . obtain rfl:=Ds b ah;have hv:=((Dp b) (g 5 O));obtain⟨s1,a1,l1,c1,rfl⟩:=Jm.form2 (show Jm V _ _ from hv);obtain⟨s,a,l,c,n,i⟩:=d.o.int (i:=3) rfl;have T:=n.c0;have f0:=n.f0;have e1:=n.c1;have f1:=n.f1;clear g;refine Za ?_;obtain⟨q,y,A,B,H,L,_⟩:=b.o;exact⟨_,_,_,_,_,_,_,rfl,J ⟨λh=>(q h).set2 n rfl rfl _ _,y,A,λh=>(B h).set2 n rfl rfl _ _,λh=>(H h).set2 n rfl rfl _ _,λh=>(L h).set2 n rfl rfl _ _,⟨λh=>by simp at h,λ_=>rfl⟩⟩,J (d.o.putInt (i:=3) rfl hv)⟩
    rintro D ad V5 W ⟨tg,ti,tj,tk,tl,tm,y3,rfl,b,d⟩;obtain rfl:=b.o.2.2.2.2.2.2.2 (W 6 DQ);obtain rfl:=b.o.2.1 (W 1 DQ);obtain rfl:=b.o.2.2.1 (W 2 DQ);clear b W M4;have M5:Hid (Mem w V5 [some (w.heap.size,.cell 25 (C m la o)),some (w.heap.size+1,.cell 25 (C none 0 0)),some (w.heap.size+1+1,.int (((Y2 ps (i+1):Nat):Int))),some (t,.int (((Xg ps (i+1):Nat):Int)))]):=d;clear d;go_wp2_with fail
    go_roundw
    case rel=>exact⟨i+1,Y,by go_num,M5⟩
    case measure=>simp[intOf];omega
  . obtain rfl:i=n:=Y
    obtain⟨s6,a6,l6,c6,n6,i6⟩:=M3.o.int (i:=2) rfl;obtain⟨Ql,Qo⟩:=n6.cp;obtain⟨s7,a7,l7,c7,n7,i7⟩:=M3.o.int (i:=3) rfl;obtain⟨Qh,Qp⟩:=n7.cp;have H1:=J (MC _ _ ((Xg ps i:Nat):Int) ((Y2 ps i:Nat):Int) wr i7 i6 (HL.o i) (HG.o i));have Qg:=(M3.o.cell (i:=1) rfl).1;obtain⟨r9,aq⟩:=ex (Rat.divInt ((Xg ps i:Nat):Int) ((Y2 ps i:Nat):Int));rw[aq]at H1;have Qi:=J aq;clear aq;by_cases k:ps=[]
    . have HB:=J (show decide (((Y2 ps i:Nat):Int)≠0)=false by rw[<-HN.o,k];decide);rw[HB.o]at H1;have HE:=J (show YV ps=[]by rw[k];rfl);clear k HB;go_wp2_with(go_at_call 84;refine H1.o.mono ?_;clear H1;rintro e w4 ⟨u4,rfl,am,ai⟩;obtain⟨s9,a9,l9,c9,t9,b9,k9,d9,rfl⟩:=Jk.form am;have n5:=boxed_below (boxed_below Qg ai) (Ba w4 (G #[Q s9,C a9 l9 c9,Q t9,C b9 k9 d9] 65));have x0:=n5.cell;have x1:=n5.frozen)
      rw[HE.o];exact BA (v:=I #[C none 0 0]) (by simp[results,Tryz.results56,go_sem,x0]) rfl ⟨_,rfl,So _,((Bt M3.o.2.2 ai).alloc (by have:=M3.o.2.2.size;have:=ai.size;omega) _).setCell (p:=⟨w.heap.size+1,0,none⟩) (by show w.heap.size<=w.heap.size+1;omega) _⟩
    . have HB:=J (show decide (((Y2 ps i:Nat):Int)≠0)=true by
       refine BK ?_;rw[<-HN.o];exact Int.natCast_ne_zero.2 (Qm.o k))
      rw[HB.o]at H1;have HE:=J (show r9=(Xg ps ps.length:Rat)/(Y2 ps ps.length:Rat)by rw[<-Qi.o,CU,Cu,Cu,HN.o]);have HT:=J (show Dn r9 ps=YV ps by rw[HE.o];rfl);have HS:=J (show Sq r9/\∀j,Sq (cf ps j*r9)by rw[HE.o];exact HF.o k);clear k HB;have H2:=J λ(V:P) (hB:Bl w V) (x:R) (hx:Jk V x r9)=>Sp (I #[C m la o]) x ps r9 V (HP.o V hB) hx Qb.o HS.o.1 HS.o.2;rw[HT.o]at H2;go_upto_region 12 with(go_at_call 84;refine H1.o.mono ?_;clear H1;rintro e w4 ⟨u4,rfl,am,ai⟩;obtain⟨s9,a9,l9,c9,t9,b9,k9,d9,rfl⟩:=Jk.form am)
      clear Ql Qo Qh Qp;obtain⟨V8,hV⟩:=ex (w4.alloc (G #[Q s9,C a9 l9 c9,Q t9,C b9 k9 d9] 65));obtain⟨B8,ae⟩:=ex (w4.heap.size);have d:Mem w (w4.alloc (G #[Q s9,C a9 l9 c9,Q t9,C b9 k9 d9] 65)) [some (w.heap.size,.cell 25 (C m la o)),some (w.heap.size+1,.cell 25 (C none 0 0)),some (w.heap.size+1+1,.int (((Y2 ps i:Nat):Int))),some (t,.int (((Xg ps i:Nat):Int))),some (w4.heap.size,.rat r9)]:=Mem.push (M3.o.below ai) (.rat r9) am;rw[hV,ae]at d;rw[hV];rw[ae];have M4:Hid (Mem w V8 [some (w.heap.size,.cell 25 (C m la o)),some (w.heap.size+1,.cell 25 (C none 0 0)),some (w.heap.size+1+1,.int (((Y2 ps i:Nat):Int))),some (t,.int (((Xg ps i:Nat):Int))),some (B8,.rat r9)]):=J (d);clear M3;clear d hV ae;obtain⟨s9,a9,l9,c9,t9,b9,k9,d9,n9,r9,i9,j9⟩:=M4.o.rat (i:=4) rfl;obtain⟨bk,bm,bn,bt⟩:=n9.cq;have c0:=(M4.o.cell (i:=0) rfl).1.cell;have n1:=(M4.o.cell (i:=1) rfl).1;have HQ:=J M4.o.2.2;go_wp2_with(go_at_call 98;refine(H2.o _ HQ.o _ r9).mono ?_;clear H2;rintro e w5 ⟨u5,rfl,ay,f⟩;obtain⟨a7,l7,c7,rfl⟩:=ay.form;have n5:=boxed_below n1 f;have x0:=n5.cell;have x1:=n5.frozen;have Qn:=J (LI n5 (x:=C a7 l7 c7) ay);have Qk:=J ((Bt HQ.o f).setCell (p:=⟨w.heap.size+1,0,none⟩) (by show w.heap.size<=w.heap.size+1;omega) (C a7 l7 c7));clear ay f n5)
      exact BA (v:=I #[C a7 l7 c7]) (by simp[results,Tryz.results56,go_sem,x0]) rfl ⟨_,rfl,Qn.o,Qk.o⟩
theorem eH(va vb:R)(ps qs:List Rat)(w:P)(ha:Jg w va ps)(hb:Jg w vb qs)(aw:DZ ps)(bc:DZ qs)(az:qs≠[])(ay:∀i,i<=ps.length+1-qs.length->Sq (Yu (cf qs (qs.length-1))^i))(bf:∀i,Sq (cf ps i*Gq ps qs)):
 Calls Tryz.prog 99 #[va,vb] w λe w'=>∃u,e=.returned u/\Jg w' u (Xe ps qs)/\Bl w w':=by
 obtain⟨m,hm⟩:=ex (qs.length-1:Nat);have Uc:0<qs.length:=Ar.2 az;have Qy:ps.length<=1099511627776:=by
  obtain⟨M,la,S,rfl⟩:=ha.form;have:=ha.row.forms;omega
 have Qt:qs.length<=1099511627776:=by
  obtain⟨q,lb,z,rfl⟩:=hb.form;have:=hb.row.forms;omega
 obtain⟨L,hL⟩:=ex (Yu (cf qs m):Rat);obtain⟨N,hN⟩:=ex (ps.length+1-qs.length:Nat);obtain⟨e1,ap⟩:=ex ((ps.length:Int)-1:Int);have Qp:(qs.length:Int)-1=(m:Int):=Y
 obtain⟨e3,cn⟩:=ex (e1-(m:Int):Int);obtain⟨e4,co⟩:=ex (e3+1:Int);have ct:IntKind.i64.wrap e3=e3:=by rw[BS];omega
 have de:IntKind.i64.wrap e4=e4:=by rw[BS];omega
 obtain⟨Qb,Qo,Ub,Qw,Qc,HT,Qu,Qs⟩:=Hp (show(∀i:Nat,(i:Int)<e4↔i<N)/\N<=1099511627777 from⟨λi=>by omega,Y⟩) Qp ap hL (show ∀i,i<=N->Sq (L^i)from λi hi=>by rw[<-hL,<-hm];exact ay i Y) (show Dn (L^N) ps=Xe ps qs by unfold Xe Gq;rw[hm,hL,hN]) (show ∀i,Sq (cf ps i*L^N)from λi=>by have:=bf i;unfold Gq at this;rwa[hm,hL,hN]at this) aw;have Qz:=J bc;clear ay bf aw bc az hN hL hm Uc Qy Qt ap Qp;have Ql:Tryz.prog.follows .mixedOrders=true:=by kernel_rfl
 obtain⟨M,la,S,rfl⟩:=ha.form;obtain⟨q,lb,z,rfl⟩:=hb.form;have M0:=(((Mem.nil w).push (.cell 25 (C M la S)) (cs:=#[C M la S]) ⟨rfl,rfl⟩).push (.cell 25 (C q lb z)) (cs:=#[C q lb z]) ⟨rfl,rfl⟩).push (.cell 25 (C none 0 0)) (cs:=#[C none 0 0]) ⟨rfl,rfl⟩;simp only[A1]at M0;obtain⟨W0,ai⟩:=ex (((w.alloc (G #[C M la S] 25)).alloc (G #[C q lb z] 25)).alloc (G #[C none 0 0] 25));obtain⟨Qj,HP,HQ⟩:=Dk ai (λ(V:P) (hB:Bl w V)=>ha.below hB) λ(V:P) (hB:Bl w V)=>hb.below hB;have M1:Hid (Mem w W0 [some (w.heap.size,.cell 25 (C M la S)),some (w.heap.size+1,.cell 25 (C q lb z)),some (w.heap.size+1+1,.cell 25 (C none 0 0))]):=J (by rw[<-ai];exact M0);clear M0 ai ha hb;go_enter Tryz.func99,Tryz.ntmps99
 go_upto_region 1 with fail
 rw[Qj.o];clear Qj;refine Jl Ql [[],[],[1],[0,2,2],[3,3],[],[5,4,4,0,1,2,3,4,5]] (by kernel_rfl) DQ
  (λD ad V=>∃(tm tn ta tb tc tl:R) (x5:Option (Nat × Dat)),ad={ tmps:=#[I #[C M la S],I #[C q lb z],F (some ⟨w.heap.size,0,none⟩),F (some ⟨w.heap.size+1,0,none⟩),F (some ⟨w.heap.size+1+1,0,none⟩),tl,E,E,tm,tn,ta,tb,tc,E,E,E,E,E,E,E,E,E,E,E,E,E,E,E,E,E,E,E,E,E],defers:=[] }/\Hid ((D 0=true->tm=I #[C q lb z])/\(D 1=true->tn=I #[C q lb z])/\(D 2=true->ta=U .i64 (m:Int))/\(D 3=true->Has V tb (.rat (cf qs m)))/\(D 4=true->Has V tc (.rat L))/\((D 5=false->x5=none)/\(D 5=true->D 6=false->∃B:Nat,tl=F (some ⟨B,0,none⟩)/\x5=some (B,.rat 0))/\(D 6=true->∃B:Nat,tl=F (some ⟨B,0,none⟩)/\x5=some (B,.rat L))))/\Hid (Mem w V [some (w.heap.size,.cell 25 (C M la S)),some (w.heap.size+1,.cell 25 (C q lb z)),some (w.heap.size+1+1,.cell 25 (C none 0 0)),x5]))
  ⟨_,_,_,_,_,_,none,rfl,J ⟨O,O,O,O,O,O⟩,J ((M1.o).none).drew⟩ ?step1 ?fin1
 case step1=>
  rintro D ad V i ds an hi o af ⟨tm,tn,ta,tb,tc,tl,x5,rfl,f,g⟩;have Qv:i<7:=(Ac.1 hi).1;obtain rfl|rfl|rfl|rfl|rfl|rfl|rfl:=IP i Y
  all_goals
   simp only[Af,Ae,Ag]at hi;subst hi
  . have e0:=(g.o.cell (i:=1) rfl).1.cell;clear o;refine Za ?_;exact⟨_,_,_,_,_,_,_,rfl,(Dg f),J (g.o)⟩
  . have e0:=(g.o.cell (i:=1) rfl).1.cell;clear o;refine Za ?_;exact⟨_,_,_,_,_,_,_,rfl,(Do f),J (g.o)⟩
  . obtain rfl:=(f.o.2.1 (o 1 O));have H:=J (YA _ qs V (HQ.o V g.o.2.2));rw[Qo.o]at H;clear o;refine Jb rfl rfl λK hK=>?_;go_simp;go_wp2_with(go_at_call 20;refine H.o.mono ?_;rintro e X ⟨rfl,A⟩)
    obtain⟨G0,_,_,G3,G4,G5⟩:=f.o;exact⟨_,_,_,_,_,_,_,rfl,J ⟨G0,λ_=>rfl,λ_=>rfl,λh=>(G3 h).below A,λh=>(G4 h).below A,G5⟩,J (g.o.below A)⟩
  . obtain rfl:=(f.o.1 (o 0 O));obtain rfl:=(f.o.2.2.1 (o 2 O));have H:=J (KD _ qs (m:Int) V (HQ.o V g.o.2.2));rw[KV]at H;clear o;refine Jb rfl rfl λK hK=>?_;go_simp;go_wp2_with(go_at_call 58;refine H.o.mono ?_;rintro e X ⟨v5,rfl,ak,A⟩)
    exact⟨_,_,_,_,_,_,_,rfl,J ⟨λ_=>rfl,f.o.2.1,λ_=>rfl,λ_=>ak,λh=>(f.o.2.2.2.2.1 h).below A,f.o.2.2.2.2.2⟩,J (g.o.below A)⟩
  . have h0:=(f.o.2.2.2.1 (o 3 O));have H:=J (eD _ (cf qs m) V h0 (Qz.o.at m));rw[Qw.o]at H;clear o h0;refine Jb rfl rfl λK hK=>?_;go_simp;go_wp2_with(go_at_call 129;refine H.o.mono ?_;rintro e X ⟨v5,rfl,ak,A⟩)
    obtain⟨G0,G1,G2,G3,_,G5⟩:=f.o;exact⟨_,_,_,_,_,_,_,rfl,J ⟨G0,G1,G2,λh=>(G3 h).below A,λ_=>ak,G5⟩,J (g.o.below A)⟩
  . have hf:D 6=false:=DR an af;obtain rfl:=Dp f af;clear o;refine Za ?_;obtain⟨G0,G1,G2,G3,G4,_⟩:=f.o;exact⟨_,_,_,_,_,_,_,rfl,J ⟨G0,G1,G2,λh=>(G3 h).alloc _,λh=>(G4 h).alloc _,⟨λh=>by simp at h,λ_ _=>⟨_,rfl,rfl⟩,λh=>by simp[hf]at h⟩⟩,J (g.o.fill (i:=3) rfl (.rat 0) (El _))⟩
  . obtain⟨B,rfl,rfl⟩:=Ds f (o 5 O) af;have Qd:=o 5 O;have hv:=(f.o.2.2.2.2.1 (o 4 O));obtain⟨s1,a1,l1,c1,t1,b1,k1,d1,rfl⟩:=Jk.form (show Jk V _ _ from hv);obtain⟨s,a,l,c,t,b,k,d,n,r,i,j⟩:=g.o.rat (i:=3) rfl;have e0:=n.c0;have f0:=n.f0;have e1:=n.c1;have f1:=n.f1;have e2:=n.c2;have f2:=n.f2;have e3:=n.c3;have f3:=n.f3;clear o;refine Za ?_;obtain⟨G0,G1,G2,G3,G4,_⟩:=f.o;exact⟨_,_,_,_,_,_,_,rfl,J ⟨G0,G1,G2,λh=>(G3 h).put4 n rfl rfl rfl rfl _ _ _ _,λh=>(G4 h).put4 n rfl rfl rfl rfl _ _ _ _,⟨λh=>by simp[Qd]at h,λ_ h=>by simp at h,λ_=>⟨B,rfl,rfl⟩⟩⟩,J (g.o.putRat (i:=3) rfl hv)⟩
 rintro D ad V2 W ⟨tm,tn,ta,tb,tc,tl,x5,rfl,f,g⟩;obtain⟨B3,rfl,rfl⟩:=f.o.2.2.2.2.2.2.2 (W 6 DQ);obtain rfl:=f.o.1 (W 0 DQ);obtain rfl:=f.o.2.1 (W 1 DQ);obtain rfl:=f.o.2.2.1 (W 2 DQ);clear f W M1;have M2:Hid (Mem w V2 [some (w.heap.size,.cell 25 (C M la S)),some (w.heap.size+1,.cell 25 (C q lb z)),some (w.heap.size+1+1,.cell 25 (C none 0 0)),some (B3,.rat L)]):=g;clear g;have HA:=J λ(V:P)=>I7 1 Y Y V;have HB:=HA;have H:=J λ(V:P) (x y:R) (hx:Jm V x 1) (hy:Jm V y 1)=>MC x y 1 1 V hx hy DY.one DY.one;rw[show decide ((1:Int)≠0)=true from rfl,show Rat.divInt 1 1=L^0 by rw[Rat.pow_zero];rfl]at H;go_upto_region 3 with(first
  |(go_at_call 95;refine(HA.o _).mono ?_;clear HA;rintro e w3 ⟨u3,rfl,Qa,am⟩)
  |(go_at_call 95;refine(HB.o _).mono ?_;clear HB;rintro e w4 ⟨u4,rfl,bg,aj⟩;have Qa:=Qa.below aj)
  |(go_at_call 84;refine(H.o _ _ _ Qa bg).mono ?_;clear H;rintro e X ⟨u5,rfl,ae,A⟩;obtain⟨s9,a9,l9,c9,t9,b9,k9,d9,rfl⟩:=Jk.form ae))
 obtain⟨V4,hV⟩:=ex (X.alloc (G #[Q s9,C a9 l9 c9,Q t9,C b9 k9 d9] 65));obtain⟨T,ah⟩:=ex (X.heap.size);have g:Mem w (X.alloc (G #[Q s9,C a9 l9 c9,Q t9,C b9 k9 d9] 65)) [some (w.heap.size,.cell 25 (C M la S)),some (w.heap.size+1,.cell 25 (C q lb z)),some (w.heap.size+1+1,.cell 25 (C none 0 0)),some (B3,.rat L),some (X.heap.size,.rat (L^0))]:=Mem.push (((M2.o.below am).below aj).below A) (.rat (L^0)) ae;rw[hV,ah]at g;rw[hV];rw[ah];have M3:Hid (Mem w V4 [some (w.heap.size,.cell 25 (C M la S)),some (w.heap.size+1,.cell 25 (C q lb z)),some (w.heap.size+1+1,.cell 25 (C none 0 0)),some (B3,.rat L),some (T,.rat (L^0))]):=J (g);clear M2;clear g hV ah;clear Qa bg ae am aj A;refine Jl Ql [[],[0],[],[2,1],[1,3],[4],[]] (by kernel_rfl) DQ
  (λD ad V=>∃(td te tf tg ti tj tk:R),ad={ tmps:=#[I #[C M la S],I #[C q lb z],F (some ⟨w.heap.size,0,none⟩),F (some ⟨w.heap.size+1,0,none⟩),F (some ⟨w.heap.size+1+1,0,none⟩),F (some ⟨B3,0,none⟩),F (some ⟨T,0,none⟩),Q true,I #[C q lb z],I #[C q lb z],U .i64 ↑m,tb,tc,.tuple #[I #[Q s9,C a9 l9 c9,Q t9,C b9 k9 d9],Q true],u3,u4,.tuple #[I #[Q s9,C a9 l9 c9,Q t9,C b9 k9 d9],Q true],I #[Q s9,C a9 l9 c9,Q t9,C b9 k9 d9],Q true,td,te,tf,tg,ti,tj,tk,E,E,E,E,E,E,E,E],defers:=[] }/\Hid ((D 0=true->td=I #[C M la S])/\(D 1=true->te=U .i64 e1)/\(D 2=true->tf=I #[C q lb z])/\(D 3=true->tg=U .i64 (m:Int))/\(D 4=true->ti=U .i64 e3)/\(D 5=true->tj=U .i64 e4)/\(D 6=true->tk=U .i64 0))/\Hid (Mem w V [some (w.heap.size,.cell 25 (C M la S)),some (w.heap.size+1,.cell 25 (C q lb z)),some (w.heap.size+1+1,.cell 25 (C none 0 0)),some (B3,.rat L),some (T,.rat (L^0))]))
  ⟨_,_,_,_,_,_,_,rfl,J ⟨O,O,O,O,O,O,O⟩,J (M3.o).drew⟩ ?step5 ?fin5
 case step5=>
  rintro D ad V i ds an hi o af ⟨td,te,tf,tg,ti,tj,tk,rfl,f,g⟩;have Qv:i<7:=(Ac.1 hi).1;obtain rfl|rfl|rfl|rfl|rfl|rfl|rfl:=IP i Y
  all_goals
   simp only[Af,Ae,Ag]at hi;subst hi
  . have e0:=(g.o.cell (i:=0) rfl).1.cell;clear o;refine Za ?_;exact⟨_,_,_,_,_,_,_,rfl,(Dg f),J (g.o)⟩
  . obtain rfl:=(f.o.1 (o 0 O));have H:=J (YA _ ps V (HP.o V g.o.2.2));rw[Ub.o]at H;clear o;refine Jb rfl rfl λK hK=>?_;go_simp;go_wp2_with(go_at_call 20;refine H.o.mono ?_;rintro e X ⟨rfl,A⟩)
    exact⟨_,_,_,_,_,_,_,rfl,(Do (Dg f)),J (g.o.below A)⟩
  . have e0:=(g.o.cell (i:=1) rfl).1.cell;clear o;refine Za ?_;exact⟨_,_,_,_,_,_,_,rfl,(Df f),J (g.o)⟩
  . obtain rfl:=(f.o.2.2.1 (o 2 O));have H:=J (YA _ qs V (HQ.o V g.o.2.2));rw[Qo.o]at H;clear o;refine Jb rfl rfl λK hK=>?_;go_simp;go_wp2_with(go_at_call 20;refine H.o.mono ?_;rintro e X ⟨rfl,A⟩)
    exact⟨_,_,_,_,_,_,_,rfl,(Dj (Df f)),J (g.o.below A)⟩
  . obtain rfl:=(f.o.2.1 (o 1 O));obtain rfl:=(f.o.2.2.2.1 (o 3 O));clear o;refine Za ?_;exact⟨_,_,_,_,_,_,_,rfl,(Dz (Dj (Do f))),J (g.o)⟩
  . obtain rfl:=(f.o.2.2.2.2.1 (o 4 O));clear o;refine Za ?_;exact⟨_,_,_,_,_,_,_,rfl,(D0 (Dz f)),J (g.o)⟩
  . clear o;refine Za ?_;exact⟨_,_,_,_,_,_,_,rfl,(Lr f),J (g.o)⟩
 rintro D ad V6 W ⟨td,te,tf,tg,ti,tj,tk,rfl,f,g⟩;obtain rfl:=f.o.1 (W 0 DQ);obtain rfl:=f.o.2.1 (W 1 DQ);obtain rfl:=f.o.2.2.1 (W 2 DQ);obtain rfl:=f.o.2.2.2.1 (W 3 DQ);obtain rfl:=f.o.2.2.2.2.1 (W 4 DQ);obtain rfl:=Dp f (W 5 DQ);obtain rfl:=f.o.2.2.2.2.2.2 (W 6 DQ);clear f W M3;have M4:Hid (Mem w V6 [some (w.heap.size,.cell 25 (C M la S)),some (w.heap.size+1,.cell 25 (C q lb z)),some (w.heap.size+1+1,.cell 25 (C none 0 0)),some (B3,.rat L),some (T,.rat (L^0))]):=g;clear g;go_wp2;go_loopw [25] (λiv wr=>∃i:Nat,i<=N/\iv=U .i64 (i:Int)/\Hid (Mem w wr [some (w.heap.size,.cell 25 (C M la S)),some (w.heap.size+1,.cell 25 (C q lb z)),some (w.heap.size+1+1,.cell 25 (C none 0 0)),some (B3,.rat L),some (T,.rat (L^i))])) λiv _=>N-(intOf iv).toNat
 case atStart=>exact⟨0,AK _,rfl,M4⟩
 case round=>
  clear M4;obtain⟨i,hi,rfl,M5⟩:=hrel;by_cases aq:i<N
  . have Qf:(i:Int)<e4:=(Qb.o.1 i).2 aq;have cl:N<=1099511627777:=Qb.o.2;obtain⟨s7,a7,l7,c7,t7,b7,k7,d7,n7,r7,i7,j7⟩:=M5.o.rat (i:=3) rfl;obtain⟨cg,ci,cj,ck⟩:=n7.cq;obtain⟨s8,a8,l8,c8,t8,b8,k8,d8,n8,r8,i8,j8⟩:=M5.o.rat (i:=4) rfl;obtain⟨Qk,Qn,Qg,Qq⟩:=n8.cq;obtain⟨Qh,Qr,Qi,Qm⟩:=n8.fq;have H1:=J (Kz _ _ (L^i) L wr r8 r7 (Qc.o i Y) (by have:=Qc.o 1 Y;rwa[Rat.pow_one]at this));rw[<-Rat.pow_succ]at H1;go_upto_region 6 with(go_at_call 52;refine H1.o.mono ?_;clear H1;rintro e w6 ⟨u6,rfl,bh,hq⟩;obtain⟨s8,a8,l8,c8,t8,b8,k8,d8,rfl⟩:=Jk.form bh;clear Qk Qn Qg Qq;obtain⟨Qk,Qn,Qg,Qq⟩:=(n8.below hq).cq;clear Qh Qr Qi Qm;obtain⟨Qh,Qr,Qi,Qm⟩:=(n8.below hq).fq)
    obtain⟨V9,hV⟩:=ex ((((w6.setCell ⟨T,0,none⟩ (Q s8)).setCell ⟨T,1,none⟩ (C a8 l8 c8)).setCell ⟨T,2,none⟩ (Q t8)).setCell ⟨T,3,none⟩ (C b8 k8 d8));have g:Mem w ((((w6.setCell ⟨T,0,none⟩ (Q s8)).setCell ⟨T,1,none⟩ (C a8 l8 c8)).setCell ⟨T,2,none⟩ (Q t8)).setCell ⟨T,3,none⟩ (C b8 k8 d8)) [some (w.heap.size,.cell 25 (C M la S)),some (w.heap.size+1,.cell 25 (C q lb z)),some (w.heap.size+1+1,.cell 25 (C none 0 0)),some (B3,.rat L),some (T,.rat (L^(i+1)))]:=Mem.putRat (M5.o.below hq) (i:=4) rfl bh;rw[hV]at g;rw[hV];have M6:Hid (Mem w V9 [some (w.heap.size,.cell 25 (C M la S)),some (w.heap.size+1,.cell 25 (C q lb z)),some (w.heap.size+1+1,.cell 25 (C none 0 0)),some (B3,.rat L),some (T,.rat (L^(i+1)))]):=J (g);clear M5;clear g hV;go_wp2_with fail
    go_roundw
    case rel=>exact⟨i+1,Y,by go_num,M6⟩
    case measure=>simp[intOf];omega
  . have Qf:¬(i:Int)<e4:=λh=>aq ((Qb.o.1 i).1 h);obtain rfl:i=N:=Y
    obtain⟨dt,bj,dp,bk,du,b10,dj,bm,bi,r10,dh,di⟩:=M5.o.rat (i:=4) rfl;obtain⟨bn,bt,bu,ce⟩:=bi.cq;have c0:=(M5.o.cell (i:=0) rfl).1.cell;have n1:=(M5.o.cell (i:=2) rfl).1;have Qe:=J M5.o.2.2;have H2:=J (Sp (I #[C M la S]) _ ps (L^i) wr (HP.o wr Qe.o) r10 Qs.o (Qc.o i (Aa _)) Qu.o);rw[HT.o]at H2;go_wp2_with(go_at_call 98;refine H2.o.mono ?_;clear H2;rintro e X ⟨u5,rfl,ae,A⟩;obtain⟨a7,l7,c7,rfl⟩:=ae.form;have n5:=boxed_below n1 A;have x0:=n5.cell;have x1:=n5.frozen;have Ua:=J (LI n5 (x:=C a7 l7 c7) ae);have Qx:=J ((Bt Qe.o A).setCell (p:=⟨w.heap.size+1+1,0,none⟩) (by show w.heap.size<=w.heap.size+1+1;omega) (C a7 l7 c7));clear ae A n5)
    exact BA (v:=I #[C a7 l7 c7]) (by simp[results,Tryz.results99,go_sem,x0]) rfl ⟨_,rfl,Ua.o,Qx.o⟩
theorem eI{A:Nat}(p:Eo A ps)(d:Eo A qs)(tq:Jd qs=qs)(q0:qs≠[])(c:1<=A)(K:4*((ps.length+2)*(A+1))<=1000000):
 DZ ps/\DZ qs/\(∀i,i<=ps.length+1-qs.length->Sq (Yu (cf qs (qs.length-1))^i))/\(∀i,Sq (cf ps i*Gq ps qs))/\DZ (Xe ps qs)/\(∀i,Dd A (cf qs i))/\
 ∃l:Int,Dvn 1 1 l ((ps.length+2)*A+1) A (Xe ps qs) qs:=by
 have B:(ps.length+2)*(A+1)=(ps.length+2)*A+(ps.length+2):=by rw[Ax,Fz]
 have L:0<qs.length:=Ar.2 q0;obtain⟨l,o,j⟩:=d (qs.length-1);have s:l≠0:=λe=>by
  have:=JB tq q0;rw[j,e]at this;exact this rfl
 have q:Yu (cf qs (qs.length-1))=((l.natAbs:Int):Rat):=by
  rw[j];unfold Yu;have a:((l:Rat)<0)↔l<0:=by
   rw[show(0:Rat)=((0:Int):Rat)from rfl];exact Rat.intCast_lt_intCast
  split
  . rename_i h;rw[a]at h;rw[<-Rat.intCast_neg];congr 1;omega
  . rename_i h;rw[a]at h;congr 1;omega
 have m:∀i:Nat,∃z:Int,Sm (i*A+1) z/\Yu (cf qs (qs.length-1))^i=(z:Rat):=λi=>by
  refine⟨(l.natAbs:Int)^i,?_,?_⟩
  . refine Sm.powZ ?_ i;unfold Sm at o ⊢;rwa[AP]
  . rw[q,Rat.intCast_pow]
 have n:∀(k:Nat) (z:Int),Sm k z->k<=1000000->1<=k->Sq (z:Rat):=λk z x w a=>Sq.of ((Mh (D:=1) DQ x (by rw[show((1:Int):Rat)=1 from rfl,Rat.mul_one])).smq DQ (Sm.one k a)) w;have H:ps.length+1-qs.length<=ps.length:=Y
 have r:∀i:Nat,i<=ps.length->i*A<=(ps.length+2)*A:=λi v=>Ak _ Y;have f:Eo ((ps.length+2)*A+1) (Xe ps qs):=λi=>by
  obtain⟨z,a,b⟩:=p i;obtain⟨y,g,t⟩:=m (ps.length+1-qs.length);refine⟨z*y,(a.mul g).mono ?_,?_⟩
  . have u:(ps.length+1-qs.length+1)*A<=(ps.length+2)*A:=Ak _ Y;rw[Ay,Cw]at u;omega
  . unfold Xe Gq;rw[Y6,b,t,CF]
 have hA9:A<=(ps.length+2)*A:=by
  have:1*A<=(ps.length+2)*A:=Ak _ Y;omega
 refine⟨DZ.of λi=>Sq.of (p.smq c i) Y,DZ.of λi=>Sq.of (d.smq c i) Y,λi v=>?_,λi=>?_,DZ.of λi=>Sq.of (f.smq Y i) Y,d.smq c,l,?_⟩
 . obtain⟨z,a,b⟩:=m i;rw[b];exact n _ z a (by have:=r i Y;omega) Y
 . obtain⟨z,a,b⟩:=f i;have g:cf ps i*Gq ps qs=(z:Rat):=by rw[<-b];unfold Xe;rw[Y6]
   rw[g];exact n _ z a Y Y
 . refine⟨DQ,Sm.one _ Y,f.cdl,DQ,Sm.one _ c,d.cdl,s,o,?_⟩;rw[j,CU,show((1:Int):Rat)=1 from rfl];grind
theorem eJ(tp:Jd ps=ps)(tq:Jd qs=qs)(q0:qs≠[]):(Xe ps qs).length=ps.length:=Yk (Og tq q0) tp
theorem eK(A:Nat)(va vb:R)(ps qs:List Rat)(w:P)(ha:Jg w va ps)(hb:Jg w vb qs)(wp:Eo A ps)(wq:Eo A qs)(tp:Jd ps=ps)(tq:Jd qs=qs)(q0:qs≠[])(hA:1<=A)(an:4*((ps.length+2)*(A+1))<=1000000)(hr:Ln A (J2 ps qs)):
 Calls Tryz.prog 57 #[va,vb] w λe w'=>∃u,e=.returned u/\Jg w' u (Ep ps qs)/\Bl w w':=by
 obtain⟨s1,s2,s3,s4,s5,s6,l,ae⟩:=eI wp wq tq q0 hA an;have b1:(ps.length+2)*(A+1)=(ps.length+2)*A+(ps.length+2):=by rw[Ax,Fz]
 obtain⟨m,hm⟩:=ex ((Xe ps qs).length-(qs.length-1));have Qk:m<=ps.length:=by rw[eJ tp tq q0]at hm;omega
 have b2:m*(A+1)<=ps.length*(A+1):=Ak _ Qk;have b3:(ps.length+2)*(A+1)=ps.length*(A+1)+2*(A+1):=Ay _ _ _;have Qp:=J (λ(V:P) (x y:R) (hx:Jg V x (Xe ps qs)) (hy:Jg V y qs)=>eC A x y (Xe ps qs) qs V hx hy s5 s6 (Yc _ _) tq q0 (by
  rw[hm];exact ae.sizes Y))
 have Qe:=(ae.rem hm).1;have Qc:=ae.den m;have Ql:=J λ(V:P) (x:R) (hx:Jg V x (J2 (Xe ps qs) qs))=>Oi (1*l^m) ((ps.length+2)*A+1+m*(A+1)+1) x (J2 (Xe ps qs) qs) V hx (YR _ _) Qc.1 Qc.2 (λi=>(Qe i).mono Y) Y;have Qd:=Sf tq q0 hr;have Qh:DZ (YV (J2 (Xe ps qs) qs)):=DZ.of λi=>Sq.of (Qd.1.smq hA i) Y;have Qj:DZ (J3 [] (YV (J2 (Xe ps qs) qs))):=DZ.of λi=>Sq.of (Qd.2.smq hA i) Y;have Qf:=J λ(V:P) (y:R) (hy:Jg V y (YV (J2 (Xe ps qs) qs)))=>RA _ y [] (YV (J2 (Xe ps qs) qs)) V (So V) hy (DZ.of λi=>by rw[YS];exact Ip) Qh Qj;have Qm:=J λ(V:P) (x y:R) (hx:Jg V x ps) (hy:Jg V y qs)=>eH x y ps qs V hx hy s1 s2 q0 s3 s4;clear s1 s2 s3 s4 s5 s6 ae b1 hm Qk b2 b3 Qe Qc Qd Qh Qj wp wq tp tq q0 hA an hr;have Qo:Tryz.prog.follows .mixedOrders=true:=by kernel_rfl
 obtain⟨T,la,W,rfl⟩:=ha.form;obtain⟨M,lb,N,rfl⟩:=hb.form;have M0:=(((Mem.nil w).push (.cell 25 (C T la W)) (cs:=#[C T la W]) ⟨rfl,rfl⟩).push (.cell 25 (C M lb N)) (cs:=#[C M lb N]) ⟨rfl,rfl⟩).push (.cell 25 (C none 0 0)) (cs:=#[C none 0 0]) ⟨rfl,rfl⟩;simp only[A1]at M0;obtain⟨W0,aj⟩:=ex (((w.alloc (G #[C T la W] 25)).alloc (G #[C M lb N] 25)).alloc (G #[C none 0 0] 25));obtain⟨Qg,HP,HQ⟩:=Dk aj (λ(V:P) (hB:Bl w V)=>ha.below hB) λ(V:P) (hB:Bl w V)=>hb.below hB;have M1:Hid (Mem w W0 [some (w.heap.size,.cell 25 (C T la W)),some (w.heap.size+1,.cell 25 (C M lb N)),some (w.heap.size+1+1,.cell 25 (C none 0 0))]):=J (by rw[<-aj];exact M0);clear M0 aj ha hb;go_enter Tryz.func57,Tryz.ntmps57
 go_upto_region 1 with fail
 rw[Qg.o];clear Qg;refine Jl Qo [[],[],[0,1],[],[2,3,2],[4],[5],[5],[5],[],[],[9,6,4,0,1,2,3,4,5,6,9,10],[10,7,11,0,1,2,3,4,5,6,7,9,10,11],[8,12,0,1,2,3,4,5,6,7,8,9,10,11,12]] (by kernel_rfl) DQ
  (λD ai V=>∃(tm ta tb tc td tl te tf tg ti tj tk:R) (x9 ad:Option (Nat × Dat)),ai={ tmps:=#[I #[C T la W],I #[C M lb N],F (some ⟨w.heap.size,0,none⟩),F (some ⟨w.heap.size+1,0,none⟩),F (some ⟨w.heap.size+1+1,0,none⟩),ti,tj,tk,tl,tm,ta,tb,tc,td,te,tf,tg,E,E,E,E],defers:=[] }/\Hid ((D 0=true->tm=I #[C T la W])/\(D 1=true->ta=I #[C M lb N])/\(D 2=true->Has V tb (.poly (Xe ps qs)))/\(D 3=true->tc=I #[C M lb N])/\(D 4=true->Tup2 V td (.poly (YE (Xe ps qs) qs)) (.poly (J2 (Xe ps qs) qs)))/\(D 5=true->Tup2 V tl (.poly (YE (Xe ps qs) qs)) (.poly (J2 (Xe ps qs) qs)))/\(D 6=true->Has V te (.poly (YE (Xe ps qs) qs)))/\(D 7=true->Has V tf (.poly (J2 (Xe ps qs) qs)))/\(D 8=true->tg=Q true)/\((D 9=false->x9=none)/\(D 9=true->D 11=false->∃B:Nat,ti=F (some ⟨B,0,none⟩)/\x9=some (B,.poly []))/\(D 11=true->∃B:Nat,ti=F (some ⟨B,0,none⟩)/\x9=some (B,.poly (YE (Xe ps qs) qs))))/\((D 10=false->ad=none)/\(D 10=true->D 12=false->∃B:Nat,tj=F (some ⟨B,0,none⟩)/\ad=some (B,.poly []))/\(D 12=true->∃B:Nat,tj=F (some ⟨B,0,none⟩)/\ad=some (B,.poly (J2 (Xe ps qs) qs))))/\(D 13=true->tk=Q true))/\Hid (Mem w V [some (w.heap.size,.cell 25 (C T la W)),some (w.heap.size+1,.cell 25 (C M lb N)),some (w.heap.size+1+1,.cell 25 (C none 0 0)),x9,ad]))
  ⟨_,_,_,_,_,_,_,_,_,_,_,_,none,none,rfl,J ⟨O,O,O,O,O,O,O,O,O,O,O,O⟩,J (((M1.o).none).none).drew⟩ ?step1 ?fin1
 case step1=>
  rintro D ai V i ds ap hi d X ⟨tm,ta,tb,tc,td,tl,te,tf,tg,ti,tj,tk,x9,ad,rfl,b,f⟩;have bf:i<14:=(Ac.1 hi).1;obtain rfl|rfl|rfl|rfl|rfl|rfl|rfl|rfl|rfl|rfl|rfl|rfl|rfl|rfl:=F0 i Y
  all_goals
   simp only[Af,Ae,Ag]at hi;subst hi
  . have e0:=(f.o.cell (i:=0) rfl).1.cell;clear d;refine Za ?_;exact⟨_,_,_,_,_,_,_,_,_,_,_,_,_,_,rfl,(Dg b),J (f.o)⟩
  . have e0:=(f.o.cell (i:=1) rfl).1.cell;clear d;refine Za ?_;exact⟨_,_,_,_,_,_,_,_,_,_,_,_,_,_,rfl,(Do b),J (f.o)⟩
  . obtain rfl:=(b.o.1 (d 0 O));obtain rfl:=(b.o.2.1 (d 1 O));have HC:=J (Qm.o V _ _ (HP.o V f.o.2.2) (HQ.o V f.o.2.2));clear d;refine Jb rfl rfl λK hK=>?_;go_simp;go_wp2_with(go_at_call 99;refine HC.o.mono ?_;rintro e w5 ⟨v5,rfl,am,g⟩)
    obtain⟨_,_,_,H,L,j,k,o,q⟩:=b.o;exact⟨_,_,_,_,_,_,_,_,_,_,_,_,_,_,rfl,J ⟨λ_=>rfl,λ_=>rfl,λ_=>am,H,λh=>(L h).below g,λh=>(j h).below g,λh=>(k h).below g,λh=>(o h).below g,q⟩,J (f.o.below g)⟩
  . have e0:=(f.o.cell (i:=1) rfl).1.cell;clear d;refine Za ?_;exact⟨_,_,_,_,_,_,_,_,_,_,_,_,_,_,rfl,(Dj b),J (f.o)⟩
  . have h0:=(b.o.2.2.1 (d 2 O));obtain rfl:=(b.o.2.2.2.1 (d 3 O));have HC:=J (Qp.o V _ _ h0 (HQ.o V f.o.2.2));clear d h0;refine Jb rfl rfl λK hK=>?_;go_simp;go_wp2_with(go_at_call 22;refine HC.o.mono ?_;rintro e w5 ⟨v5,v6,rfl,am,az,g⟩)
    obtain⟨s,t,z,_,_,j,k,o,q⟩:=b.o;exact⟨_,_,_,_,_,_,_,_,_,_,_,_,_,_,rfl,J ⟨s,t,λh=>(z h).below g,λ_=>rfl,λ_=>⟨v5,v6,rfl,am,az⟩,λh=>(j h).below g,λh=>(k h).below g,λh=>(o h).below g,q⟩,J (f.o.below g)⟩
  . have h0:=(b.o.2.2.2.2.1 (d 4 O));clear d;refine Za ?_;exact⟨_,_,_,_,_,_,_,_,_,_,_,_,_,_,rfl,(D0 b λ_=>h0),J (f.o)⟩
  . obtain⟨y1,y2,rfl,h1,h2⟩:=((Dp b) (d 5 O));clear d;refine Za ?_;exact⟨_,_,_,_,_,_,_,_,_,_,_,_,_,_,rfl,(Dx b λ_=>h1),J (f.o)⟩
  . obtain⟨y1,y2,rfl,h1,h2⟩:=((Dp b) (d 5 O));clear d;refine Za ?_;exact⟨_,_,_,_,_,_,_,_,_,_,_,_,_,_,rfl,(ED b λ_=>h2),J (f.o)⟩
  . obtain⟨y1,y2,rfl,h1,h2⟩:=((Dp b) (d 5 O));clear d;refine Za ?_;exact⟨_,_,_,_,_,_,_,_,_,_,_,_,_,_,rfl,(EK b),J (f.o)⟩
  . have hf:D 11=false:=DR ap X;obtain rfl:=b.o.2.2.2.2.2.2.2.2.2.1.1 X;clear d;refine Za ?_;obtain⟨s,t,z,H,L,j,k,o,q,_,af⟩:=b.o;exact⟨_,_,_,_,_,_,_,_,_,_,_,_,_,_,rfl,J ⟨s,t,λh=>(z h).alloc _,H,λh=>(L h).alloc _,λh=>(j h).alloc _,λh=>(k h).alloc _,λh=>(o h).alloc _,q,⟨λh=>by simp at h,λ_ _=>⟨_,rfl,rfl⟩,λh=>by simp[hf]at h⟩,af⟩,J (f.o.fill (i:=3) rfl (.poly []) (He _))⟩
  . have hf:D 12=false:=DR ap X;obtain rfl:=b.o.2.2.2.2.2.2.2.2.2.2.1.1 X;clear d;refine Za ?_;obtain⟨s,t,z,H,L,j,k,o,q,G9,_,ah⟩:=b.o;exact⟨_,_,_,_,_,_,_,_,_,_,_,_,_,_,rfl,J ⟨s,t,λh=>(z h).alloc _,H,λh=>(L h).alloc _,λh=>(j h).alloc _,λh=>(k h).alloc _,λh=>(o h).alloc _,q,G9,⟨λh=>by simp at h,λ_ _=>⟨_,rfl,rfl⟩,λh=>by simp[hf]at h⟩,ah⟩,J (f.o.fill (i:=4) rfl (.poly []) (He _))⟩
  . obtain⟨B,rfl,rfl⟩:=b.o.2.2.2.2.2.2.2.2.2.1.2.1 (d 9 O) X;have Qb:=d 9 O;have hv:=((Ds b) (d 6 O));obtain⟨a1,l1,c1,rfl⟩:=Jg.form (show Jg V _ _ from hv);obtain⟨a,l,c,n,r⟩:=f.o.poly2 (i:=3) rfl;have e0:=n.cell;have f0:=n.frozen;clear d;refine Za ?_;obtain⟨s,t,z,H,L,j,k,o,q,_,af⟩:=b.o;exact⟨_,_,_,_,_,_,_,_,_,_,_,_,_,_,rfl,J ⟨s,t,λh=>(z h).set1 n rfl _,H,λh=>(L h).set1 n rfl _,λh=>(j h).set1 n rfl _,λh=>(k h).set1 n rfl _,λh=>(o h).set1 n rfl _,q,⟨λh=>by simp[Qb]at h,λ_ h=>by simp at h,λ_=>⟨B,rfl,rfl⟩⟩,af⟩,J (f.o.putPoly (i:=3) rfl hv)⟩
  . obtain⟨B,rfl,rfl⟩:=b.o.2.2.2.2.2.2.2.2.2.2.1.2.1 (d 10 O) X;have Qb:=d 10 O;have hv:=((Du b) (d 7 O));obtain⟨a1,l1,c1,rfl⟩:=Jg.form (show Jg V _ _ from hv);obtain⟨a,l,c,n,r⟩:=f.o.poly2 (i:=4) rfl;have e0:=n.cell;have f0:=n.frozen;clear d;refine Za ?_;obtain⟨s,t,z,H,L,j,k,o,q,G9,_,ah⟩:=b.o;exact⟨_,_,_,_,_,_,_,_,_,_,_,_,_,_,rfl,J ⟨s,t,λh=>(z h).set1 n rfl _,H,λh=>(L h).set1 n rfl _,λh=>(j h).set1 n rfl _,λh=>(k h).set1 n rfl _,λh=>(o h).set1 n rfl _,q,G9,⟨λh=>by simp[Qb]at h,λ_ h=>by simp at h,λ_=>⟨B,rfl,rfl⟩⟩,ah⟩,J (f.o.putPoly (i:=4) rfl hv)⟩
  . obtain rfl:=((D6 b) (d 8 O));clear d;refine Za ?_;exact⟨_,_,_,_,_,_,_,_,_,_,_,_,_,_,rfl,(Ib (EK b)),J (f.o)⟩
 rintro D ai V2 S ⟨tm,ta,tb,tc,td,tl,te,tf,tg,ti,tj,tk,x9,ad,rfl,b,f⟩;obtain⟨B3,rfl,rfl⟩:=b.o.2.2.2.2.2.2.2.2.2.1.2.2 (S 11 DQ);obtain⟨B4,rfl,rfl⟩:=b.o.2.2.2.2.2.2.2.2.2.2.1.2.2 (S 12 DQ);obtain rfl:=b.o.1 (S 0 DQ);obtain rfl:=b.o.2.1 (S 1 DQ);obtain rfl:=b.o.2.2.2.1 (S 3 DQ);obtain rfl:=D6 b (S 8 DQ);obtain rfl:=b.o.2.2.2.2.2.2.2.2.2.2.2 (S 13 DQ);clear b S M1;have M2:Hid (Mem w V2 [some (w.heap.size,.cell 25 (C T la W)),some (w.heap.size+1,.cell 25 (C M lb N)),some (w.heap.size+1+1,.cell 25 (C none 0 0)),some (B3,.poly (YE (Xe ps qs) qs)),some (B4,.poly (J2 (Xe ps qs) qs))]):=f;clear f;obtain⟨a5,l5,c5,n5,r5⟩:=M2.o.poly2 (i:=4) rfl;have bc:=n5.cell;have n1:=(M2.o.cell (i:=2) rfl).1;have Qi:=J M2.o.2.2;have H1:=J (Ql.o V2 _ r5);clear Ql;go_wp2_with(first
  |(go_at_call 56;refine H1.o.mono ?_;clear H1;rintro e w4 ⟨u4,rfl,ay,aq⟩)
  |(go_at_call 48;refine(Qf.o _ _ ay).mono ?_;clear Qf;rintro e w5 ⟨u5,rfl,ak,_,aw⟩;have g:=Bt aq aw;obtain⟨a7,l7,c7,rfl⟩:=ak.form;have n5:=boxed_below n1 g;have x0:=n5.cell;have x1:=n5.frozen;have Qq:=J (LI n5 (x:=C a7 l7 c7) ak);have Qn:=J ((Bt Qi.o g).setCell (p:=⟨w.heap.size+1+1,0,none⟩) (by show w.heap.size<=w.heap.size+1+1;omega) (C a7 l7 c7));clear ak g n5))
 exact BA (v:=I #[C a7 l7 c7]) (by simp[results,Tryz.results57,go_sem,x0]) rfl ⟨_,rfl,Qq.o,Qn.o⟩
def Gr(b:Bool)(V:P)(t:R)(c:Rat):Prop:=∃u,t=.tuple #[u,Q true]/\(b=false->Jk V u c)
theorem Gr.of(h:KS V t c):Gr b V t c:=by
 obtain⟨u,e,h⟩:=h;exact⟨u,e,λ_=>h⟩
theorem Gr.below{b:Bool}{V V':P}{t:R}{c:Rat}(h:Gr b V t c)(a:Bl V V'):Gr b V' t c:=by
 obtain⟨u,e,h⟩:=h;exact⟨u,e,λe=>(h e).below a⟩
theorem Gr.any{a:Bool}{V':P}(h:Gr b V t c)(d:a=true):Gr a V' t c:=by
 obtain⟨u,e,h⟩:=h;exact⟨u,e,λe=>by rw[d]at e;cases e⟩
theorem Sr(v:R)(ps:List Rat)(w:P)(h:Jg w v ps)(aq:DZ ps)(ay:Jd ps=ps)(aw:∀i,Sq (cf ps i/cf ps (ps.length-1))):
 Calls Tryz.prog 26 #[v] w λe w'=>∃u,e=.returned u/\Jg w' u (JF ps)/\Bl w w':=by
 have Qq:Tryz.prog.follows .mixedOrders=true:=by kernel_rfl
 obtain⟨k,la,l,rfl⟩:=h.form;obtain⟨bf,az,bc,bg,_⟩:=h.row.forms;have M0:=(((Mem.nil w).push (.cell 25 (C k la l)) (cs:=#[C k la l]) ⟨rfl,rfl⟩).push (.cell 25 (C none 0 0)) (cs:=#[C none 0 0]) ⟨rfl,rfl⟩);simp only[A1]at M0;obtain⟨V0,af⟩:=ex ((w.alloc (G #[C k la l] 25)).alloc (G #[C none 0 0] 25));have M1:Mem w V0 [some (w.heap.size,.cell 25 (C k la l)),some (w.heap.size+1,.cell 25 (C none 0 0))]:=by rw[<-af];exact M0
 have Qh:=J M1;obtain⟨n,hn⟩:=ex (ps.length:Nat);obtain⟨e0,ap⟩:=ex ((n:Int)-1:Int);have Qg:=J (YA (I #[C k la l]) ps V0 (h.below M1.2.2));rw[hn,ap]at Qg;have bh:e0+1=(n:Int):=Y
 have bi:IntKind.i64.wrap (n:Int)=(n:Int):=by rw[BS];omega
 have Qs:∀W:P,(Instr.makeSlice 22 (U .i64 (n:Int)) (U .i64 (n:Int))).run Tryz.prog W=.ok (C (some ⟨W.heap.size,0,none⟩) n n) (W.alloc (G (Ye n) 65)):=λW=>Sn n Y W;obtain⟨HP,Qi,Qn,HN⟩:=EB (λ(V:P) (hB:Bl w V)=>h.below hB) aq aw (show ps.length=n from hn);have Qd:n<=1099511627776:=Y
 have Ql:=J af;have Qw:=J ay;clear h aq aw bf az bc hn ap M0 M1 af bg ay;go_enter Tryz.func26,Tryz.ntmps26
 go_upto_region 1 with fail
 rw[Ql.o];have c0:=(Qh.o.cell (i:=0) rfl).1.cell;go_upto_region 2 with(go_at_call 20;refine Qg.o.mono ?_;clear Qg;rintro e w1 ⟨rfl,an⟩)
 have Qe:Mem w (w1.alloc (G (Ye n) 65)) [some (w.heap.size,.cell 25 (C k la l)),some (w.heap.size+1,.cell 25 (C none 0 0)),some (w1.heap.size,.rats (List.replicate n 0))]:=(Qh.o.below an).push (.rats (List.replicate n 0)) (LB _ n);obtain⟨V1,ah⟩:=ex (w1.alloc (G (Ye n) 65));obtain⟨A,ai⟩:=ex (w1.heap.size);rw[ah,ai]at Qe;rw[ah,ai];have Qk:=J Qe;clear Qe ah ai an c0 Qh Ql Qs;go_wp2;go_loopw [11] (λiv wr=>∃(i:Nat) (S:List Rat),i<=n/\iv=U .i64 (i:Int)/\Hid (Ix (λj=>cf ps j/cf ps (ps.length-1)) n i S)/\Hid (Mem w wr [some (w.heap.size,.cell 25 (C k la l)),some (w.heap.size+1,.cell 25 (C none 0 0)),some (A,.rats S)])) λiv _=>n-(intOf iv).toNat
 case atStart=>exact⟨0,_,AK _,rfl,J ⟨Au,λj=>by rw[JO,BC Y]⟩,Qk⟩
 case round=>
  obtain⟨i,S,hi,rfl,X,HM⟩:=hrel;clear Qk;by_cases aj:i<n
  . have bk:(i:Int)<(n:Int):=Y
    have Qm:=J (show i<S.length by rw[X.o.1];exact aj);have Qj:=J (show i<ps.length by rw[HN.o];exact aj);go_wp2_with fail
    have Qo:=HM.o.drew;obtain⟨m,hm⟩:=ex (ps.length-1:Nat);obtain⟨Qv,Qr,Qt⟩:=Dk (show(ps.length:Int)-1=(m:Int)by have:=Qj.o;omega) hm (show decide (cf ps m≠0)=true by rw[<-hm];exact BK (JB Qw.o λe=>by have:=Qj.o;rw[e]at this;simp at this));clear hm;refine Jl Qq [[],[],[],[],[2,3],[],[],[6,4],[5,7,7],[4,8,8],[9],[10],[10],[0,1,0,1,2,3,4,5,6,7,8,9,10,11],[13,11,9,0,1,2,3,4,5,6,7,8,9,10,11]] (by kernel_rfl) DQ
     (λD ae V=>∃(tb tc td te tf tg ti tj tk tl ta tm tn tp:R),ae={ tmps:=#[I #[C k la l],F (some ⟨w.heap.size,0,none⟩),F (some ⟨w.heap.size+1,0,none⟩),C (some ⟨A,0,none⟩) n n,U .i64 ↑i,I #[C k la l],U .i64 e0,U .i64 ↑n,C (some ⟨A,0,none⟩) n n,C (some ⟨A,0,none⟩) n n,U .i64 ↑n,U .i64 ↑i,Q true,U .i64 ↑i,ta,tb,tc,td,te,tf,tg,ti,tj,tk,tl,tm,tn,tp,u28,E,E],defers:=[] }/\Hid ((D 0=true->tb=C (some ⟨A,0,none⟩) n n)/\(D 1=true->tc=U .i64 (i:Int))/\(D 2=true->td=I #[C k la l])/\(D 3=true->te=U .i64 (i:Int))/\(D 4=true->D 14=false->Jk V tf (cf ps i))/\(D 5=true->tg=I #[C k la l])/\(D 6=true->ti=I #[C k la l])/\(D 7=true->tj=U .i64 (m:Int))/\(D 8=true->D 14=false->Jk V tk (cf ps m))/\(D 9=true->D 14=false->KS V tl (cf ps i/cf ps m))/\(D 10=true->Gr (D 14) V ta (cf ps i/cf ps m))/\(D 11=true->D 14=false->Jk V tm (cf ps i/cf ps m))/\(D 12=true->tn=Q true)/\(D 13=true->tp=F (some ⟨A,i*4,none⟩)))/\Hid ((D 14=false->Mem w V [some (w.heap.size,.cell 25 (C k la l)),some (w.heap.size+1,.cell 25 (C none 0 0)),some (A,.rats S)])/\(D 14=true->Mem w V [some (w.heap.size,.cell 25 (C k la l)),some (w.heap.size+1,.cell 25 (C none 0 0)),some (A,.rats (S.set i (cf ps i/cf ps m)))])))
     (E8 ⟨_,_,_,_,_,_,rfl,J O,J ⟨λ_=>Qo,O⟩⟩) ?step1 ?fin1
    case step1=>
     rintro D ae V i ds z hi c r ⟨tb,tc,td,te,tf,tg,ti,tj,tk,tl,ta,tm,tn,tp,rfl,b,d⟩;have bj:i<15:=(Ac.1 hi).1;obtain rfl|rfl|rfl|rfl|rfl|rfl|rfl|rfl|rfl|rfl|rfl|rfl|rfl|rfl|rfl:=IU i Y
     all_goals
      simp only[Af,Ae,Ag]at hi;subst hi
     . clear c;refine DT ?_;exact⟨(Dg b),d⟩
     . clear c;refine DT ?_;exact⟨(Do b),d⟩
     . have g:=d.o.1 (DR z r);have e0:=(g.cell (i:=0) rfl).1.cell;clear c;refine DT ?_;exact⟨(Df b),d⟩
     . clear c;refine DT ?_;exact⟨(Dj b),d⟩
     . have g:=d.o.1 (DR z r);obtain rfl:=b.o.2.2.1 (c 2 O);obtain rfl:=b.o.2.2.2.1 (c 3 O);clear c;have o:=J (KD _ ps (i:Int) V (HP.o V g.2.2));rw[KV]at o;refine Jb rfl rfl λK hK=>?_;go_simp;go_wp2_with(go_at_call 58;refine o.o.mono ?_;rintro e w5 ⟨v5,rfl,ad,a⟩)
       obtain⟨s,t,_,_,_,M,N,G7,G8,G9,x,B,y⟩:=b.o;exact E8 ⟨_,_,_,_,_,_,rfl,J ⟨s,t,λ_=>rfl,λ_=>rfl,λ_ _=>ad,M,N,G7,λh f=>(G8 h f).below a,λh f=>(G9 h f).below a,λh=>(x h).below a,λh f=>(B h f).below a,y⟩,J ⟨λh=>(d.o.1 h).below a,λh=>(d.o.2 h).below a⟩⟩
     . have g:=d.o.1 (DR z r);have e0:=(g.cell (i:=0) rfl).1.cell;clear c;refine DT ?_;exact⟨(D0 b),d⟩
     . have g:=d.o.1 (DR z r);have e0:=(g.cell (i:=0) rfl).1.cell;clear c;refine DT ?_;exact⟨(Dx b),d⟩
     . have g:=d.o.1 (DR z r);obtain rfl:=Ds b (c 6 O);clear c;have o:=J (YA _ ps V (HP.o V g.2.2));rw[Qv.o]at o;refine Jb rfl rfl λK hK=>?_;go_simp;go_wp2_with(go_at_call 20;refine o.o.mono ?_;rintro e w5 ⟨rfl,a⟩)
       obtain⟨s,t,H,L,G4,M,_,_,G8,G9,x,B,y⟩:=b.o;exact E8 ⟨_,_,_,_,_,_,rfl,J ⟨s,t,H,L,λh f=>(G4 h f).below a,M,λ_=>rfl,λ_=>rfl,λh f=>(G8 h f).below a,λh f=>(G9 h f).below a,λh=>(x h).below a,λh f=>(B h f).below a,y⟩,J ⟨λh=>(d.o.1 h).below a,λh=>(d.o.2 h).below a⟩⟩
     . have g:=d.o.1 (DR z r);obtain rfl:=Dp b (c 5 O);obtain rfl:=Du b (c 7 O);clear c;have o:=J (KD _ ps (m:Int) V (HP.o V g.2.2));rw[KV]at o;refine Jb rfl rfl λK hK=>?_;go_simp;go_wp2_with(go_at_call 58;refine o.o.mono ?_;rintro e w5 ⟨v5,rfl,ad,a⟩)
       obtain⟨s,t,H,L,G4,_,N,_,_,G9,x,B,y⟩:=b.o;exact E8 ⟨_,_,_,_,_,_,rfl,J ⟨s,t,H,L,λh f=>(G4 h f).below a,λ_=>rfl,N,λ_=>rfl,λ_ _=>ad,λh f=>(G9 h f).below a,λh=>(x h).below a,λh f=>(B h f).below a,y⟩,J ⟨λh=>(d.o.1 h).below a,λh=>(d.o.2 h).below a⟩⟩
     . have Qa:D 14=false:=DR z r;have q:=b.o.2.2.2.2.1 (c 4 O) Qa;have h1:=D6 b (c 8 O) Qa;clear c;have o:=J (Q5 _ _ (cf ps i) (cf ps m) V q h1 (Qi.o.at i) (Qi.o.at m));rw[Qt.o]at o;clear q h1;refine Jb rfl rfl λK hK=>?_;go_simp;go_wp2_with(go_at_call 50;refine o.o.mono ?_;rintro e w5 ⟨v5,rfl,ad,a⟩)
       obtain⟨s,t,H,L,G4,M,N,G7,G8,_,x,B,y⟩:=b.o;exact E8 ⟨_,_,_,_,_,_,rfl,J ⟨s,t,H,L,λh f=>(G4 h f).below a,M,N,G7,λh f=>(G8 h f).below a,λ_ _=>⟨v5,rfl,ad⟩,λh=>(x h).below a,λh f=>(B h f).below a,y⟩,J ⟨λh=>(d.o.1 h).below a,λh=>(d.o.2 h).below a⟩⟩
     . have Qa:D 14=false:=DR z r;have q:=EE b (c 9 O) Qa;clear c;refine DT ?_;exact⟨(D8 b λ_=>Gr.of q),d⟩
     . have Qa:D 14=false:=DR z r;have q:=Dr b (c 10 O);obtain⟨v7,rfl,h7⟩:=q;clear c;refine DT ?_;exact⟨(D9 b λ_ _=>h7 Qa),d⟩
     . have q:=Dr b (c 10 O);obtain⟨v7,rfl,h7⟩:=q;clear c;refine DT ?_;exact⟨(EG b),d⟩
     . obtain rfl:=b.o.1 (c 0 O);obtain rfl:=b.o.2.1 (c 1 O);clear c;refine DT ?_;exact⟨(Ic (Do (Dg b))),d⟩
     . have g:=d.o.1 r;have q:=Ee b (c 11 O) r;obtain rfl:=b.o.2.2.2.2.2.2.2.2.2.2.2.2.2 (c 13 O);have hE:=g.rats (i:=2) rfl;obtain⟨xa,xb,xc,xd,e0,e1,e2,e3,_⟩:=hE.at Qm.o;have f0:=hE.frozen (i*4);have f1:=hE.frozen (i*4+1);have f2:=hE.frozen (i*4+2);have f3:=hE.frozen (i*4+3);obtain⟨s9,a9,l9,c9,t9,b9,k9,d9,rfl⟩:=Jk.form q;clear c;refine DT ?_;obtain⟨s,t,H,L,_,M,N,G7,_,_,x,_,y,_⟩:=b.o;exact⟨J ⟨s,t,H,L,λ_ h=>by simp at h,M,N,G7,λ_ h=>by simp at h,λ_ h=>by simp at h,λh=>Gr.any (x h) O,λ_ h=>by simp at h,y,λ_=>rfl⟩,J ⟨λh=>by simp at h,λ_=>g.putRats (i:=2) rfl Qm.o q⟩⟩
    case fin1=>
     rintro D ae V am ⟨tb,tc,td,te,tf,tg,ti,tj,tk,tl,ta,tm,tn,tp,rfl,b,d⟩;have HO:=J (d.o.2 (am 14 DQ));clear b d am;rw[<-Qr.o]at HO;go_wp2_with fail
     go_roundw
     case rel=>exact⟨i+1,_,Y,by go_num,J (X.o.next aj),HO⟩
     case measure=>simp[intOf];omega
  . obtain rfl:i=n:=Y
    have hE:=HM.o.rats (i:=2) rfl;have Qc:=hE.row (n:=i) (cap:=i) (by rw[X.o.1];exact Aa _) (Aa _) Y Qd;rw[Ad (by rw[X.o.1];exact Aa _)]at Qc;have Qf:=J (RJ _ S wr Qc (DZ.of λj=>by
     rw[X.o.2 j];split
     . exact Qn.o j
     . exact Ip))
    rw[X.o.done (T:=JF ps) (Yc _ _) (λj hj=>by unfold JF;rw[Y6,Fm,Rat.one_mul,<-Fm]) λj hj=>by unfold JF;rw[Y6,J1 (by rw[HN.o];exact hj),CJ]]at Qf;clear hE Qc;go_wp2_with(go_at_call 59;refine Qf.o.mono ?_;clear Qf;rintro e w5 ⟨u5,rfl,ak,_,a⟩;obtain⟨a7,l7,c7,rfl⟩:=ak.form;have n5:=boxed_below (HM.o.cell (i:=1) rfl).1 a;have x0:=n5.cell;have x1:=n5.frozen;have Qu:=J (FX n5 (C a7 l7 c7) ak.row);have Qp:=J ((Bt HM.o.2.2 a).setCell (p:=⟨w.heap.size+1,0,none⟩) (by show w.heap.size<=w.heap.size+1;omega) (C a7 l7 c7));clear ak a n5)
    exact BA (v:=I #[C a7 l7 c7]) (by simp[results,Tryz.results26,go_sem,x0]) rfl ⟨_,rfl,⟨_,rfl,Qu.o⟩,Qp.o⟩
end M3
section
def H7:Nat->List Rat->List Rat->List (List Rat)
 |0,a,_=>[a]
 |n+1,a,b=>if b=[]then [a]else a::H7 n b (Ep a b)
theorem eL:∀(n m:Nat) (a b:List Rat),Jd b=b->b.length<=n->b.length<=m->H7 n a b=H7 m a b:=by
 intro n;induction n with
 |zero=>
  intro m a b _ h _;have d:b=[]:=Mc Y;subst d;cases m with
  |zero=>rfl
  |succ m=>simp[H7]
 |succ n e=>
  intro m a b tb h f;by_cases c:b=[]
  . subst c;cases m with
    |zero=>simp[H7]
    |succ m=>simp[H7]
  . have hl:0<b.length:=Ar.2 c;cases m with
    |zero=>omega
    |succ m=>
     have g:=Ml (a:=a) tb c;simp only[H7,BC c];rw[e m b (Ep a b) (Mk _ _) Y Y]
def KW(a b:List Rat):List (List Rat):=H7 b.length a b
theorem eM{a b:List Rat}(tb:Jd b=b)(c:b≠[]):KW a b=a::KW b (Ep a b):=by
 have e:=Ml (a:=a) tb c;have hl:0<b.length:=Ar.2 c;unfold KW;obtain⟨n,d⟩:∃n,b.length=n+1:=⟨b.length-1,Y⟩;rw[d,H7,BC c];congr 1;exact eL _ _ _ _ (Mk _ _) Y (Aa _)
def LJ(p q:List Rat):List (List Rat):=KW (YV p) (YV q)
open Go.RowKit Go.Shelf
theorem Jg.setB{V:P}{v:R}{ps:List Rat}(h:Jg V v ps){B:Nat}{a:Option Addr}{l c:Nat}(b:Boxed V B 25 (C a l c)){u:R}:Jg (V.setCell ⟨B,0,none⟩ u) v ps:=M3.LI b h
end
namespace M3
open Go.RowKit Go.Shelf
attribute [local go_sem] Oper.semAt_some
def Dt(V:P)(B:Nat)(a:Option Addr)(l c:Nat):Prop:=Boxed V B 25 (C a l c)
section
variable {V V':World} {B B':Nat} {a a':Option Addr} {l c l' c':Nat}
theorem Dt.cell(h:Dt V B a l c):V.cell? ⟨B,0,none⟩=some (C a l c):=Boxed.cell h
theorem Dt.frozen(h:Dt V B a l c):V.frozen? ⟨B,0,none⟩=false:=Boxed.frozen h
theorem Dt.below(h:Dt V B a l c)(b:Bl V V'):Dt V' B a l c:=boxed_below h b
theorem Dt.far(h:Dt V B a l c)(b:B≠B'){u:R}:Dt (V.setCell ⟨B',0,none⟩ u) B a l c:=Bx.far (cs:=#[C a l c]) h (p:=⟨B',0,none⟩) b u
theorem Dt.put(h:Dt V B a l c):Dt (V.setCell ⟨B,0,none⟩ (C a' l' c')) B a' l' c':=(show Boxed V B 25 (C a l c)from h).set _
end
def GB(G:List (List Rat)->P->Prop):Prop:=∀H W W',G H W->Bl W W'->G H W'
def GS(n0:Nat)(G:List (List Rat)->P->Prop):Prop:=∀H W B a l c u,n0<=B->Dt W B a l c->G H W->G H (W.setCell ⟨B,0,none⟩ u)
def Gs(n0:Nat)(G:List (List Rat)->P->Prop)(H:List (List Rat))(V:P)(v4 v5:R)(p q:List Rat):Prop:=(GB G/\GS n0 G)/\G H V/\Jg V v4 p/\Jg V v5 q
section
variable {n0:Nat} {G:List (List Rat)->World->Prop} {H:List (List Rat)} {V V':World} {v4 v5:Value} {p q:List Rat}
theorem Gs.below(h:Gs n0 G H V v4 v5 p q)(a:Bl V V'):Gs n0 G H V' v4 v5 p q:=⟨h.1,h.1.1 _ _ _ h.2.1 a,h.2.2.1.below a,h.2.2.2.below a⟩
theorem Gs.put(h:Gs n0 G H V v4 v5 p q){B:Nat}(d:n0<=B){a:Option Addr}{l c:Nat}(b:Dt V B a l c){u:R}:Gs n0 G H (V.setCell ⟨B,0,none⟩ u) v4 v5 p q:=⟨h.1,h.1.2 _ _ _ _ _ _ _ d b h.2.1,h.2.2.1.setB b,h.2.2.2.setB b⟩
end
def Mm(V:P)(B:Nat)(r:List Rat):Prop:=∃a l c,Dt V B a l c/\Jg V (I #[C a l c]) r
theorem Mm.below{V V':P}{B:Nat}{r:List Rat}(h:Mm V B r)(b:Bl V V'):Mm V' B r:=by
 obtain⟨a,l,c,d,e⟩:=h;exact⟨a,l,c,d.below b,e.below b⟩
def LK(V:P)(B:Nat):Nat:=match V.cell? ⟨B,0,none⟩with|some (C _ l _)=>l|_=>0
variable{p q:List Rat}{K c l:Nat}{a:Option Addr}{V:P}
theorem Dt.len{B:Nat}(h:Dt V B a l c):LK V B=l:=by
 unfold LK;rw[h.cell]
theorem Ss{ps:List Rat}(h:Jg V (I #[C a l c]) ps):l=ps.length:=h.row.forms.1
def eN(n0 n l:Nat)(G:List (List Rat)->P->Prop):Prop:=∀H W c d a b c4 f g c5 p q,n0<=c->n0<=d->c<W.heap.size->d<W.heap.size->G H W->Dt W c a b c4->Dt W d f g c5->Jg W (I #[C a b c4]) p->Jg W (I #[C f g c5]) q->
 YieldAt Fence.wide (n-1) Tryz.prog l #[I #[C a b c4]] W λe W'=>e=.returned (Q true)/\G (H++[p]) W'/\Dt W' c a b c4/\Dt W' d f g c5/\Jg W' (I #[C a b c4]) p/\Jg W' (I #[C f g c5]) q
structure ChOk(K:Nat)(p q:List Rat):Prop where
 tp:Jd p=p
 tq:Jd q=q
 cp:∃D:Int,D≠0/\Sm K D/\EJ D K p
 cq:∃D:Int,D≠0/\Sm K D/\EJ D K q
 le:4*((max p.length q.length+2)*(De K p q+1))<=1000000
 ln:max p.length q.length<=1000
theorem ChOk.lp(h:ChOk K p q):Ln K p:=by obtain⟨D,a,_,b⟩:=h.cp;exact b.ln a
theorem ChOk.lq(h:ChOk K p q):Ln K q:=by obtain⟨D,a,_,b⟩:=h.cq;exact b.ln a
theorem ChOk.bd(h:ChOk K p q):De K p q<=1000000/\K<=1000000/\p.length+q.length<=1000000/\1<=De K p q:=by
 have a:=h.le;have b:=Hd K p q;have c:1*(De K p q+1)<=(max p.length q.length+2)*(De K p q+1):=Ak _ Y;have d:(max p.length q.length+2)*1<=(max p.length q.length+2)*(De K p q+1):=Av _ Y;omega
theorem eO(K n:Nat)(hn:1<=n)(Bp Bq:Nat)(pa qa:Option Addr)(pl pc ql qc:Nat)(p q:List Rat)(k:ChOk K p q)(l n0:Nat)(G:List (List Rat)->P->Prop)(w:P)(bc:n0<=w.heap.size)(ay:Dt w Bp pa pl pc)(az:Dt w Bq qa ql qc)(ip:Jg w (I #[C pa pl pc]) p)(iq:Jg w (I #[C qa ql qc]) q)
(am:GB G)(aq:GS n0 G)(hY:eN n0 n l G)(h0:G [] w):
 CallsIn Fence.wide n Tryz.prog 55 (#[.func (.yield l) #[] #[]]++#[F (some ⟨Bp,0,none⟩),F (some ⟨Bq,0,none⟩)]) w λe W'=>(∃v,e=.returned v)/\∃H a,G (H++[a]) W'/\LJ p q=H++[a]/\Chn p q (De K p q) a []:=by
 have Qp:Tryz.prog.follows .mixedOrders=true:=by kernel_rfl
 have Qu:=J λ(V:P) (hB:Bl w V)=>(ay.below hB).cell;have Qo:=J λ(V:P) (hB:Bl w V)=>(az.below hB).cell;have Qs:=J (λ(V:P) (hB:Bl w V)=>show Calls Tryz.prog 56 #[I #[C pa pl pc]] V λe w'=>∃u,e=.returned u/\Jg w' u (YV p)/\Bl V w' by
  obtain⟨D,h1,h2,h3⟩:=k.cp;exact Oi D K _ p V (ip.below hB) k.tp h1 h2 h3 k.bd.2.1)
 have Qn:=J (λ(V:P) (hB:Bl w V)=>show Calls Tryz.prog 56 #[I #[C qa ql qc]] V λe w'=>∃u,e=.returned u/\Jg w' u (YV q)/\Bl V w' by
  obtain⟨D,h1,h2,h3⟩:=k.cq;exact Oi D K _ q V (iq.below hB) k.tq h1 h2 h3 k.bd.2.1)
 obtain⟨Qt,Qv,Qw⟩:=Dk (λ(V:P) (hB:Bl w V)=>am [] w V h0 hB) (Chn.start k.tp k.tq k.lp k.lq k.bd.2.2.1) λ(a b:List Rat) (h:Chn p q (De K p q) a b) (hb:b≠[])=>Chn.next k.tp k.tq k.lp k.lq k.bd.2.2.1 h hb;have Uf:=J (λ(V:P) (x y:R) (a b:List Rat) (hx:Jg V x a) (hy:Jg V y b) (h:Chn p q (De K p q) a b) (hb:b≠[])=>eK (De K p q) x y a b V hx hy h.wa h.wb h.ta h.tb hb k.bd.2.2.2 (by
  have h1:=h.la;have h2:(a.length+2)*(De K p q+1)<=(max p.length q.length+2)*(De K p q+1):=Ak _ Y;have h3:=k.le;omega) (h.nx hb))
 obtain⟨Qj,Ug,Qm⟩:=Dk (show GB G/\GS n0 G from⟨am,aq⟩) hY bc;have M1:Hid (Mem w w []):=J (Mem.nil w);clear k ay az ip iq am aq hY h0 bc;refine B0 Tryz.func55 rfl trivial ?_ rfl;simp only[Tryz.ntmps55,An,Am,AD,Nat.reduceAdd,Nat.reduceSub,AF,AG,AZ,AN,Ao,AA];gi_wp2_with fail
 refine Yd Qp [[],[0],[],[2,1],[],[],[4,1,3,0,1,4,5],[5,3,6,0,1,2,3,4,5,6]] (by kernel_rfl) DQ
  (λD af V=>∃(tj tk tl tm tg ti:R) (t g:Option (Nat × Dat)),af={ tmps:=#[.func (Fn.yield l) #[] #[],F (some ⟨Bp,0,none⟩),F (some ⟨Bq,0,none⟩),E,tg,ti,tj,tk,tl,tm,E,E,E,E,E,E,E,E,E,E,E,E],defers:=[] }/\Hid ((D 0=true->tj=I #[C pa pl pc])/\(D 1=true->Has V tk (.poly (YV p)))/\(D 2=true->tl=I #[C qa ql qc])/\(D 3=true->Has V tm (.poly (YV q)))/\((D 4=false->t=none)/\(D 4=true->D 6=false->∃B:Nat,tg=F (some ⟨B,0,none⟩)/\t=some (B,.poly []))/\(D 6=true->∃B:Nat,tg=F (some ⟨B,0,none⟩)/\t=some (B,.poly (YV p))))/\((D 5=false->g=none)/\(D 5=true->D 7=false->∃B:Nat,ti=F (some ⟨B,0,none⟩)/\g=some (B,.poly []))/\(D 7=true->∃B:Nat,ti=F (some ⟨B,0,none⟩)/\g=some (B,.poly (YV q)))))/\Hid (Mem w V [t,g]))
  ⟨_,_,_,_,_,_,none,none,rfl,J ⟨O,O,O,O,O,O⟩,J (((M1.o).none).none).drew⟩ ?step1 ?fin1
 case step1=>
  rintro D af V i ds M hi f j ⟨tj,tk,tl,tm,tg,ti,t,g,rfl,d,s⟩;have Uc:i<8:=(Ac.1 hi).1;obtain rfl|rfl|rfl|rfl|rfl|rfl|rfl|rfl:=LP i Y
  all_goals
   simp only[Af,Ae,Ag]at hi;subst hi
  . have e0:=Qu.o V s.o.2.2;clear f;refine Zc ?_;exact⟨_,_,_,_,_,_,_,_,rfl,(Dg d),J (s.o)⟩
  . obtain rfl:=(d.o.1 (f 0 O));have T:=J λ(n9:Nat)=>(BJ (n:=n9)).2 (Qs.o V s.o.2.2);clear f;refine BQ rfl λK hK=>?_;go_simp;gi_wp2_with(refine⟨trivial,?_⟩;gi_at_call 56;refine(T.o _).mono ?_;rintro e w5 ⟨v5,rfl,ai,W⟩)
    obtain⟨_,_,G2,G3,G4⟩:=d.o;exact⟨_,_,_,_,_,_,_,_,rfl,J ⟨λ_=>rfl,λ_=>ai,G2,λh=>(G3 h).below W,G4⟩,J (s.o.below W)⟩
  . have e0:=Qo.o V s.o.2.2;clear f;refine Zc ?_;exact⟨_,_,_,_,_,_,_,_,rfl,(Df d),J (s.o)⟩
  . obtain rfl:=(d.o.2.2.1 (f 2 O));have T:=J λ(n9:Nat)=>(BJ (n:=n9)).2 (Qn.o V s.o.2.2);clear f;refine BQ rfl λK hK=>?_;go_simp;gi_wp2_with(refine⟨trivial,?_⟩;gi_at_call 56;refine(T.o _).mono ?_;rintro e w5 ⟨v5,rfl,ai,W⟩)
    obtain⟨G0,G1,_,_,G4⟩:=d.o;exact⟨_,_,_,_,_,_,_,_,rfl,J ⟨G0,λh=>(G1 h).below W,λ_=>rfl,λ_=>ai,G4⟩,J (s.o.below W)⟩
  . have hf:D 6=false:=DR M j;obtain rfl:=d.o.2.2.2.2.1.1 j;clear f;refine Zc ?_;obtain⟨G0,G1,G2,G3,_,G5⟩:=d.o;exact⟨_,_,_,_,_,_,_,_,rfl,J ⟨G0,λh=>(G1 h).alloc _,G2,λh=>(G3 h).alloc _,⟨λh=>by simp at h,λ_ _=>⟨_,rfl,rfl⟩,λh=>by simp[hf]at h⟩,G5⟩,J (s.o.fill (i:=0) rfl (.poly []) (He _))⟩
  . have hf:D 7=false:=DR M j;obtain rfl:=Dp d j;clear f;refine Zc ?_;obtain⟨G0,G1,G2,G3,G4,_⟩:=d.o;exact⟨_,_,_,_,_,_,_,_,rfl,J ⟨G0,λh=>(G1 h).alloc _,G2,λh=>(G3 h).alloc _,G4,⟨λh=>by simp at h,λ_ _=>⟨_,rfl,rfl⟩,λh=>by simp[hf]at h⟩⟩,J (s.o.fill (i:=1) rfl (.poly []) (He _))⟩
  . obtain⟨B,rfl,rfl⟩:=d.o.2.2.2.2.1.2.1 (f 4 O) j;have Qd:=f 4 O;have hv:=(d.o.2.1 (f 1 O));obtain⟨a1,l1,c1,rfl⟩:=Jg.form (show Jg V _ _ from hv);obtain⟨a,l,c,n,r⟩:=s.o.poly2 (i:=0) rfl;have e0:=n.cell;have f0:=n.frozen;clear f;refine Zc ?_;obtain⟨G0,G1,G2,G3,_,G5⟩:=d.o;exact⟨_,_,_,_,_,_,_,_,rfl,J ⟨G0,λh=>(G1 h).set1 n rfl _,G2,λh=>(G3 h).set1 n rfl _,⟨λh=>by simp[Qd]at h,λ_ h=>by simp at h,λ_=>⟨B,rfl,rfl⟩⟩,G5⟩,J (s.o.putPoly (i:=0) rfl hv)⟩
  . obtain⟨B,rfl,rfl⟩:=Ds d (f 5 O) j;have Qd:=f 5 O;have hv:=(d.o.2.2.2.1 (f 3 O));obtain⟨a1,l1,c1,rfl⟩:=Jg.form (show Jg V _ _ from hv);obtain⟨a,l,c,n,r⟩:=s.o.poly2 (i:=1) rfl;have e0:=n.cell;have f0:=n.frozen;clear f;refine Zc ?_;obtain⟨G0,G1,G2,G3,G4,_⟩:=d.o;exact⟨_,_,_,_,_,_,_,_,rfl,J ⟨G0,λh=>(G1 h).set1 n rfl _,G2,λh=>(G3 h).set1 n rfl _,G4,⟨λh=>by simp[Qd]at h,λ_ h=>by simp at h,λ_=>⟨B,rfl,rfl⟩⟩⟩,J (s.o.putPoly (i:=1) rfl hv)⟩
 rintro D af V2 ad ⟨tj,tk,tl,tm,tg,ti,t,g,rfl,d,s⟩;obtain⟨B3,rfl,rfl⟩:=d.o.2.2.2.2.1.2.2 (ad 6 DQ);obtain⟨N,rfl,rfl⟩:=d.o.2.2.2.2.2.2.2 (ad 7 DQ);obtain rfl:=d.o.1 (ad 0 DQ);obtain rfl:=d.o.2.2.1 (ad 2 DQ);clear d ad M1;have M2:Hid (Mem w V2 [some (B3,.poly (YV p)),some (N,.poly (YV q))]):=s;clear s;obtain⟨a5,A,c5,n5,r5⟩:=M2.o.poly2 (i:=0) rfl;obtain⟨a6,l6,c6,n6,r6⟩:=M2.o.poly2 (i:=1) rfl;have Qg:=J (show B3≠N/\n0<=B3/\n0<=N from⟨M2.o.ne 0 1 rfl rfl DQ,Aq Qm.o (M2.o.ge 0 rfl),Aq Qm.o (M2.o.ge 1 rfl)⟩);have Ql:Hid (Gs n0 G [] V2 (I #[C a5 A c5]) (I #[C a6 l6 c6]) (YV p) (YV q)):=J ⟨Qj.o,Qt.o V2 M2.o.2.2,r5,r6⟩;have N4:Hid (Dt V2 B3 a5 A c5):=J n5;have N5:Hid (Dt V2 N a6 l6 c6):=J n6;clear n5 n6 r5 r6 M2 Qs Qn Qt Qu Qo;gi_wp2;gi_loopw [] (λwr=>∃(H:List (List Rat)) (a b:List Rat) (t g:Option Addr) (l4 c4 A c5:Nat),Hid (Gs n0 G H wr (I #[C t l4 c4]) (I #[C g A c5]) a b)/\Hid (Dt wr B3 t l4 c4)/\Hid (Dt wr N g A c5)/\Hid (Chn p q (De K p q) a b)/\Hid (LJ p q=H++KW a b)) λwr=>LK wr N
 case atStart=>exact⟨[],_,_,_,_,_,_,_,_,Ql,N4,N5,Qv,J rfl⟩
 case round=>
  clear Ql N4 N5 Qv;obtain⟨H,a,b,t,g,l4,c4,A,c5,HG,H4,H5,T,HH⟩:=hrel;obtain⟨fn,tmps,assign,body,hy,aw⟩:=Ug.o H wr B3 N t l4 c4 g A c5 a b Qg.o.2.1 Qg.o.2.2 (Bx.lt (cs:=#[C t l4 c4]) H4.o) (Bx.lt (cs:=#[C g A c5]) H5.o) HG.o.2.1 H4.o H5.o HG.o.2.2.1 HG.o.2.2.2;have e4:=H4.o.cell;gi_wp2;refine aw.mono ?_;rintro e W3 ⟨rfl,ap,an,ak,bf,aj⟩;have Qr:Hid (Gs n0 G (H++[a]) W3 (I #[C t l4 c4]) (I #[C g A c5]) a b):=J ⟨Qj.o,ap,bf,aj⟩;obtain⟨Um,Uj,Qh⟩:=Dk (Ss aj) (H5.o.len) (YA _ b W3 aj);have e5:=ak.cell;have Ui:=J an;have Ul:=J ak;clear hy aw e4 ap an ak bf aj HG H4 H5;by_cases ae:b=[]
  . have HE:=J (show LJ p q=H++[a]by rw[HH.o,ae];rfl);have Ue:=J (show Chn p q (De K p q) a []by have:=T.o;rwa[ae]at this);rw[ae,show((([]:List Rat).length:Int)-1)=-1 from rfl]at Qh;gi_wp2_with(refine⟨trivial,?_⟩;gi_at_call 20;refine((BJ (n:=_)).2 Qh.o).mono ?_;clear Qh;rintro e w4 ⟨rfl,ah⟩)
    go_end0;exact⟨⟨_,rfl⟩,H,a,(Qr.o.below ah).2.1,HE.o,Ue.o⟩
  . obtain⟨m,hm⟩:=ex (b.length-1:Nat);have Qq:(b.length:Int)-1=(m:Int):=by have:=Ar.2 ae;omega
    rw[Qq]at Qh;obtain⟨Ud,Uh,Qx,Qi⟩:=EB (Qw.o a b T.o ae) (Ml (a:=a) T.o.tb ae) (show LJ p q=(H++[a])++KW b (Ep a b)by rw[HH.o,eM T.o.tb ae,Cf];rfl) λ(V:P) (x y:R) (hx:Jg V x a) (hy:Jg V y b)=>Uf.o V x y a b hx hy T.o ae;have bg:¬(m:Int)<0:=Y
    clear hm Qq ae;gi_wp2_with(refine⟨trivial,?_⟩;gi_at_call 20;refine((BJ (n:=_)).2 Qh.o).mono ?_;clear Qh;rintro e w4 ⟨rfl,ah⟩)
    have Qz:=(Qr.o.below ah).below ((BB _ w4).drew);have Uk:=(Ui.o.below ah).below ((BB _ w4).drew);have Ua:=(Ul.o.below ah).below ((BB _ w4).drew);refine Yd Qp [[],[],[],[1,2],[0,3,0,1],[3,4,0,1,2,3,4]] (by kernel_rfl) DQ
     (λD af V=>∃(tc td te tf:R),af={ tmps:=#[.func (Fn.yield l) #[] #[],F (some ⟨Bp,0,none⟩),F (some ⟨Bq,0,none⟩),E,F (some ⟨B3,0,none⟩),F (some ⟨N,0,none⟩),I #[C pa pl pc],tk,I #[C qa ql qc],tm,.func (Fn.yield l) #[] #[],I #[C t l4 c4],Q true,Q true,I #[C g A c5],U .i64 ↑m,Q true,Q true,tc,td,te,tf],defers:=[] }/\Hid ((D 0=true->tc=I #[C g A c5])/\(D 1=true->td=I #[C t l4 c4])/\(D 2=true->te=I #[C g A c5])/\(D 3=true->D 5=false->Jg V tf (Ep a b)))/\Hid (Gs n0 G (H++[a]) V (I #[C t l4 c4]) (I #[C g A c5]) a b)/\Hid ((D 4=false->Dt V B3 t l4 c4)/\(D 4=true->Dt V B3 g A c5))/\Hid ((D 5=false->Dt V N g A c5)/\(D 5=true->Mm V N (Ep a b))))
     ⟨_,_,_,_,rfl,J ⟨O,O,O,O⟩,J Qz,J ⟨λ_=>Uk,O⟩,J ⟨λ_=>Ua,O⟩⟩ ?step7 ?fin7
    case step7=>
     rintro D af V i ds M hi f j ⟨tc,td,te,tf,rfl,d,z,L,o⟩;have Uc:i<6:=(Ac.1 hi).1;obtain rfl|rfl|rfl|rfl|rfl|rfl:=KZ i Y
     all_goals
      simp only[Af,Ae,Ag]at hi;subst hi
     . have Qe:=z.o;have X:=L.o.1 (DR M j);have S:=o.o.1 (DR M j);have e0:=S.cell;clear f;refine Zc ?_;exact⟨_,_,_,_,rfl,J ⟨λ_=>rfl,d.o.2.1,d.o.2.2.1,d.o.2.2.2⟩,J (z.o),L,J ⟨o.o.1,o.o.2⟩⟩
     . have Qe:=z.o;have X:=L.o.1 (DR M j);have S:=o.o.1 (DR M j);have e0:=X.cell;clear f;refine Zc ?_;exact⟨_,_,_,_,rfl,J ⟨d.o.1,λ_=>rfl,d.o.2.2.1,d.o.2.2.2⟩,J (z.o),L,J ⟨o.o.1,o.o.2⟩⟩
     . have Qe:=z.o;have Qf:D 4=false:=DR M (DR (a:=3) M j);have X:=L.o.1 Qf;have S:=o.o.1 (DR M j);have e0:=S.cell;clear f;refine Zc ?_;exact⟨_,_,_,_,rfl,J ⟨d.o.1,d.o.2.1,λ_=>rfl,d.o.2.2.2⟩,J (z.o),L,J ⟨o.o.1,o.o.2⟩⟩
     . have Qe:=z.o;have X:=L.o.1 (DR M j);have S:=o.o.1 (DR M j);obtain rfl:=d.o.2.1 (f 1 O);obtain rfl:=d.o.2.2.1 (f 2 O);clear f;have T:=J λ(n9:Nat)=>(BJ (n:=n9)).2 (Qi.o V _ _ Qe.2.2.1 Qe.2.2.2);refine BQ rfl λK hK=>?_;go_simp;gi_wp2_with(refine⟨trivial,?_⟩;gi_at_call 57;refine(T.o _).mono ?_;rintro e w5 ⟨v5,rfl,ai,W⟩)
       exact⟨_,_,_,_,rfl,J ⟨d.o.1,λ_=>rfl,λ_=>rfl,λ_ _=>ai⟩,J (z.o.below W),J ⟨λh=>(L.o.1 h).below W,λh=>(L.o.2 h).below W⟩,J ⟨λh=>(o.o.1 h).below W,λh=>(o.o.2 h).below W⟩⟩
     . have Qe:=z.o;have X:=L.o.1 j;have Qc:D 5=false:=DR M j;have S:=o.o.1 Qc;obtain rfl:=d.o.1 (f 0 O);have e0:=X.cell;have f0:=X.frozen;clear f;refine Zc ?_;exact⟨_,_,_,_,rfl,J ⟨λ_=>rfl,d.o.2.1,d.o.2.2.1,λh h2=>(d.o.2.2.2 h h2).setB X⟩,J (z.o.put Qg.o.2.1 X),J ⟨λh=>by simp at h,λ_=>X.put⟩,J ⟨λh=>(o.o.1 h).far λe=>Qg.o.1 e.symm,λh=>by simp[Qc]at h⟩⟩
     . have Qe:=z.o;have S:=o.o.1 j;have h0:=d.o.2.2.2 (f 3 O) j;have Qk:=f 4 O;have e0:=S.cell;have f0:=S.frozen;obtain⟨x7,l7,c7,rfl⟩:=Jg.form h0;clear f;refine Zc ?_;exact⟨_,_,_,_,rfl,J ⟨d.o.1,d.o.2.1,d.o.2.2.1,λ_ h=>by simp at h⟩,J (z.o.put Qg.o.2.2 S),J ⟨λh=>by simp[Qk]at h,λh=>(L.o.2 h).far Qg.o.1⟩,J ⟨λh=>by simp at h,λ_=>⟨x7,l7,c7,S.put,h0.setB S⟩⟩⟩
    case fin7=>
     rintro D af V ad ⟨tc,td,te,tf,rfl,d,z,L,o⟩;obtain⟨x7,l7,c7,n7,i7⟩:=o.o.2 (ad 5 DQ);have n6:=L.o.2 (ad 4 DQ);have Ub:Hid (Gs n0 G (H++[a]) V (I #[C g A c5]) (I #[C x7 l7 c7]) b (Ep a b)):=J ⟨Qj.o,z.o.2.1,z.o.2.2.2,i7⟩;obtain⟨Qy,N6,N7⟩:=Dk (show LK V N<LK wr N by rw[n7.len,Uj.o,Ss i7,Um.o];exact Uh.o) n6 n7;clear d z L o ad n6 n7 i7;gi_wp2;go_roundw
     case rel=>exact⟨H++[a],b,Ep a b,_,_,_,_,_,_,Ub,N6,N7,Ud,Qx⟩
     case measure=>exact Qy.o
