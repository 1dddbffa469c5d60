import Derived.Test.YteldjhhjnchdeaaGreatDoorW44
open Go.Value renaming slice->C,pointer->F,agg->I,bool->Q,int->U
open Go renaming undef->E,World->P,Value->R
open Go.Obj renaming cells->G
set_option maxRecDepth 100000
set_option maxHeartbeats 16000000
namespace Go.Proofs.YteldjhhjnchdeaaGreatDoor
namespace M3
open Go.RowKit Go.Shelf
attribute [local go_sem] Oper.semAt_some
variable{b:Bool}{ps qs:List Rat}{c:Rat}{t:R}{V:P}
theorem aM(p:List Rat)(n:Nat):((Int.gcd ((YD p n:Nat):Int) (cf p n).num:Nat):Int)=((YD p (n+1):Nat):Int):=rfl
theorem aN(p:List Rat)(n:Nat):((Nat.lcm (YM p n) (cf p n).den:Nat):Int)=((YM p (n+1):Nat):Int):=rfl
theorem NF(D:Int)(M:Nat)(v:R)(ps:List Rat)(w:P)(h:Jc w v ps)(am:Jd ps=ps)(hD:D≠0)(af:Sm M D)(ak:D9 D M ps)(hM:M<=1000000):
 Calls Tryz.prog 56 #[v] w λe w'=>∃u,e=.returned u/\Jc w' u (J1 ps)/\Bl w w':=by
 have Qe:Tryz.prog.follows .mixedOrders=true:=by kernel_rfl
 obtain⟨m,la,o,rfl⟩:=h.form;obtain⟨bh,bf,bg,bi,_⟩:=h.row.forms;have Qa:∀i,DX M (cf ps i):=λi=>(ak i).smq hD af;obtain⟨HG,HL,Qb⟩:=Dh (λi=>DT.of (QM (λj=>(Qa j).1) i) Z:∀i,DT ((YD ps i:Nat):Int)) (λi=>DT.of (QL hD af ak i) Z:∀i,DT ((YM ps i:Nat):Int)) (show DY ps from DY.of λi=>Sq.of (Qa i) hM);have HF:=O (show ps≠[]->Sq ((YM ps ps.length:Rat)/(YD ps ps.length:Rat))/\∀i,Sq (cf ps i*((YM ps ps.length:Rat)/(YD ps ps.length:Rat)))from λk=>by
  have h1:=QN am k (ak.ln hD);refine⟨?_,λi=>?_⟩
  . have h2:((YM ps ps.length:Rat)/(YD ps ps.length:Rat))=Rat.divInt ((YM ps ps.length:Nat):Int) ((YD ps ps.length:Nat):Int):=by rw[Cs,AM,AM]
    rw[h2];exact Sq.of (DX.divInt (Int.natCast_ne_zero.2 (KA am k)) (QL hD af ak _) (QM (λj=>(Qa j).1) _)) hM
  . obtain⟨z,h3,h4⟩:=h1 i;have h5:cf ps i*((YM ps ps.length:Rat)/(YD ps ps.length:Rat))=(z:Rat):=by rw[<-h4];unfold J1;rw[Yi]
    rw[h5];have h6:1<=M:=by
     by_cases h7:1<=M
     . exact h7
     . exfalso
       obtain rfl:M=0:=Z
       unfold Sm at af;have:D.natAbs≠0:=Int.natAbs_ne_zero.2 hD;simp at af;omega
    exact Sq.of ((LL (D:=1) DL h3 (by rw[show((1:Int):Rat)=1 from rfl,Rat.mul_one])).smq DL (Sm.one M h6)) hM)
 have Qm:=O (λk=>KA am k:ps≠[]->YD ps ps.length≠0);have M0:=(((Mem.nil w).push (.cell 25 (C m la o)) (cs:=#[C m la o]) ⟨rfl,rfl⟩).push (.cell 25 (C none 0 0)) (cs:=#[C none 0 0]) ⟨rfl,rfl⟩).push (.int 0) (cs:=#[Q false,C none 0 0]) (XI _);simp only[BA]at M0;obtain⟨W0,ap⟩:=ex (((w.alloc (G #[C m la o] 25)).alloc (G #[C none 0 0] 25)).alloc (G #[Q false,C none 0 0] 63));have Qd:=O ap;have M1:Hid (Mem w W0 [some (w.heap.size,.cell 25 (C m la o)),some (w.heap.size+1,.cell 25 (C none 0 0)),some (w.heap.size+1+1,.int (((YD ps 0:Nat):Int)))]):=O (by rw[<-ap];exact M0);obtain⟨n,hn⟩:=ex (ps.length:Nat);obtain⟨T,bc⟩:=ex ((n:Int)-1:Int);have Qc:=O λ(V:P) (hB:Bl w V)=>Yb (I #[C m la o]) ps V (h.below hB);rw[hn,bc]at Qc;have bu:T+1=(n:Int):=Z
 have bz:IntKind.i64.wrap (n:Int)=(n:Int):=by rw[BZ];omega
 have HP:=O λ(V:P) (hB:Bl w V)=>h.below hB;have HN:=O (show ps.length=n from hn);have ck:n<=1099511627776:=Z
 have Qf:=O λ(V:P)=>IC 1 Z Z V;clear h bh bf bg hn bc M0 ap bi am hD af ak hM Qa;go_enter Tryz.func56,Tryz.ntmps56
 go_upto_region 2 with fail
 rw[Qd.o];clear Qd;go_upto_region 3 with(go_at_call 95;refine(Qf.o _).mono ?_;clear Qf;rintro e w1 ⟨u1,rfl,aw,az⟩;obtain⟨s1,a1,l1,c1,rfl⟩:=Jk.form2 aw)
 obtain⟨V1,hV⟩:=ex (w1.alloc (G #[Q s1,C a1 l1 c1] 63));obtain⟨t,ae⟩:=ex (w1.heap.size);have d:Mem w (w1.alloc (G #[Q s1,C a1 l1 c1] 63)) [some (w.heap.size,.cell 25 (C m la o)),some (w.heap.size+1,.cell 25 (C none 0 0)),some (w.heap.size+1+1,.int (((YD ps 0:Nat):Int))),some (w1.heap.size,.int (((YM ps 0:Nat):Int)))]:=Mem.push (M1.o.below az) (.int (((YM ps 0:Nat):Int))) aw;rw[hV,ae]at d;rw[hV];rw[ae];have M2:Hid (Mem w V1 [some (w.heap.size,.cell 25 (C m la o)),some (w.heap.size+1,.cell 25 (C none 0 0)),some (w.heap.size+1+1,.int (((YD ps 0:Nat):Int))),some (t,.int (((YM ps 0:Nat):Int)))]):=O (d);clear M1;clear d hV ae;clear aw az;have c0:=(M2.o.cell (i:=0) rfl).1.cell;go_upto_region 4 with(go_at_call 20;refine(Qc.o _ M2.o.2.2).mono ?_;clear Qc;rintro e w2 ⟨rfl,ba⟩)
 have ML:Hid (Mem w w2 [some (w.heap.size,.cell 25 (C m la o)),some (w.heap.size+1,.cell 25 (C none 0 0)),some (w.heap.size+1+1,.int (((YD ps 0:Nat):Int))),some (t,.int (((YM ps 0:Nat):Int)))]):=O (M2.o.below ba);clear c0 ba M2;go_loopw [12] (λiv wr=>∃i:Nat,i<=n/\iv=U .i64 (i:Int)/\Hid (Mem w wr [some (w.heap.size,.cell 25 (C m la o)),some (w.heap.size+1,.cell 25 (C none 0 0)),some (w.heap.size+1+1,.int (((YD ps i:Nat):Int))),some (t,.int (((YM ps i:Nat):Int)))])) λiv _=>n-(intOf iv).toNat
 case atStart=>exact⟨0,AK _,rfl,ML⟩
 case round=>
  obtain⟨i,X,rfl,M3⟩:=hrel;clear ML;by_cases ce:i<n
  . have ci:(i:Int)<(n:Int):=Z
    go_upto_region 6 with fail
    refine Jm Qe [[],[],[],[1,2],[3,3],[0,4,4],[5,5,0,1,2,3,4,5]] (by kernel_rfl) DL
     (λD ad V=>∃(ta tb tc td te tf:R) (y2:Option (Nat × Dat)),ad={ tmps:=#[I #[C m la o],F (some ⟨w.heap.size,0,none⟩),F (some ⟨w.heap.size+1,0,none⟩),F (some ⟨w.heap.size+1+1,0,none⟩),F (some ⟨t,0,none⟩),U .i64 ↑i,E,E,I #[Q s1,C a1 l1 c1],I #[C m la o],U .i64 T,U .i64 ↑n,U .i64 ↑i,Q true,U .i64 ↑i,ta,tb,tc,td,te,tf,u21,u22,u23,u24,u25,u26,u27,E,E,E,E,E,E,E,E,E,E,E,E],defers:=[] }/\Hid ((D 0=true->Has V ta (.int (((YD ps i:Nat):Int))))/\(D 1=true->tb=I #[C m la o])/\(D 2=true->tc=Value.int IntKind.i64 ↑i)/\(D 3=true->Has V td (.rat (cf ps i)))/\(D 4=true->Has V te (.int ((cf ps i).num)))/\(D 5=true->Has V tf (.int (((YD ps (i+1):Nat):Int))))/\((D 6=false->y2=some (w.heap.size+1+1,.int (((YD ps i:Nat):Int))))/\(D 6=true->y2=some (w.heap.size+1+1,.int (((YD ps (i+1):Nat):Int))))))/\Hid (Mem w V [some (w.heap.size,.cell 25 (C m la o)),some (w.heap.size+1,.cell 25 (C none 0 0)),y2,some (t,.int (((YM ps i:Nat):Int)))]))
     ⟨_,_,_,_,_,_,_,rfl,O ⟨J,J,J,J,J,J,⟨λ_=>rfl,J⟩⟩,O (M3.o).drew⟩ ?step2 ?fin2
    case step2=>
     rintro D ad V i ds aq X g ah ⟨ta,tb,tc,td,te,tf,y2,rfl,b,d⟩;have Qj:i<7:=(Af.1 X).1;obtain rfl|rfl|rfl|rfl|rfl|rfl|rfl:=Gw i Z
     all_goals
      simp only[Ai,Ah,Ak]at X;subst X
     . have hf:D 6=false:=DM aq ah;obtain rfl:=D0 b hf;clear g;obtain⟨s,a,l,c,n,i⟩:=d.o.int (i:=2) rfl;obtain⟨T,e1⟩:=n.cp;refine Zt ?_;exact⟨_,_,_,_,_,_,_,rfl,(Ke (Dc b λ_=>i) ⟨λ_=>rfl,λh=>by simp[hf]at h⟩),O (d.o)⟩
     . have T:=(d.o.cell (i:=0) rfl).1.cell;clear g;refine Zt ?_;exact⟨_,_,_,_,_,_,_,rfl,(Dg b),O (d.o)⟩
     . clear g;refine Zt ?_;exact⟨_,_,_,_,_,_,_,rfl,(Db b),O (d.o)⟩
     . obtain rfl:=(b.o.2.1 (g 1 J));obtain rfl:=(b.o.2.2.1 (g 2 J));have r:=O (II _ ps (i:Int) V (HP.o V d.o.2.2));rw[IY]at r;clear g;refine Jb rfl rfl λK hK=>?_;go_simp;go_wp2_with(go_at_call 58;refine r.o.mono ?_;rintro e w5 ⟨v5,rfl,S,f⟩)
       obtain⟨q,_,_,_,H,L,N⟩:=b.o;exact⟨_,_,_,_,_,_,_,rfl,O ⟨λh=>(q h).below f,λ_=>rfl,λ_=>rfl,λ_=>S,λh=>(H h).below f,λh=>(L h).below f,N⟩,O (d.o.below f)⟩
     . have k:=(b.o.2.2.2.1 (g 3 J));have r:=O (ZD _ (cf ps i) V k);clear g k;refine Jb rfl rfl λK hK=>?_;go_simp;go_wp2_with(go_at_call 96;refine r.o.mono ?_;rintro e w5 ⟨v5,rfl,S,f⟩)
       obtain⟨q,y,A,B,_,L,N⟩:=b.o;exact⟨_,_,_,_,_,_,_,rfl,O ⟨λh=>(q h).below f,y,A,λh=>(B h).below f,λ_=>S,λh=>(L h).below f,N⟩,O (d.o.below f)⟩
     . have k:=(b.o.1 (g 0 J));have h1:=(b.o.2.2.2.2.1 (g 4 J));have r:=O (Hp _ _ ((YD ps i:Nat):Int) (cf ps i).num V k h1 (by have:=(HG.o i).words;omega) (by have:=(Qb.o.at i).num.words;omega));rw[aM]at r;clear g k h1;refine Jb rfl rfl λK hK=>?_;go_simp;go_wp2_with(go_at_call 90;refine r.o.mono ?_;rintro e w5 ⟨v5,rfl,S,f⟩)
       obtain⟨q,y,A,B,H,_,N⟩:=b.o;exact⟨_,_,_,_,_,_,_,rfl,O ⟨λh=>(q h).below f,y,A,λh=>(B h).below f,λh=>(H h).below f,λ_=>S,N⟩,O (d.o.below f)⟩
     . obtain rfl:=D0 b ah;have hv:=((Dq b) (g 5 J));obtain⟨s1,a1,l1,c1,rfl⟩:=Jk.form2 (show Jk V _ _ from hv);obtain⟨s,a,l,c,n,i⟩:=d.o.int (i:=2) rfl;have T:=n.c0;have f0:=n.f0;have e1:=n.c1;have f1:=n.f1;clear g;refine Zt ?_;obtain⟨q,y,A,B,H,L,_⟩:=b.o;exact⟨_,_,_,_,_,_,_,rfl,O ⟨λh=>(q h).set2 n rfl rfl _ _,y,A,λh=>(B h).set2 n rfl rfl _ _,λh=>(H h).set2 n rfl rfl _ _,λh=>(L h).set2 n rfl rfl _ _,⟨λh=>by simp at h,λ_=>rfl⟩⟩,O (d.o.putInt (i:=2) rfl hv)⟩
    rintro D ad V3 W ⟨ta,tb,tc,td,te,tf,y2,rfl,b,d⟩;obtain rfl:=b.o.2.2.2.2.2.2.2 (W 6 DL);obtain rfl:=b.o.2.1 (W 1 DL);obtain rfl:=b.o.2.2.1 (W 2 DL);clear b W M3;have M4:Hid (Mem w V3 [some (w.heap.size,.cell 25 (C m la o)),some (w.heap.size+1,.cell 25 (C none 0 0)),some (w.heap.size+1+1,.int (((YD ps (i+1):Nat):Int))),some (t,.int (((YM ps i:Nat):Int)))]):=d;clear d;go_upto_region 7 with fail
    refine Jm Qe [[],[],[],[1,2],[3,3],[0,4,4],[5,5,0,1,2,3,4,5]] (by kernel_rfl) DL
     (λD ad V=>∃(tg ti tj tk tl tm:R) (y3:Option (Nat × Dat)),ad={ tmps:=#[I #[C m la o],F (some ⟨w.heap.size,0,none⟩),F (some ⟨w.heap.size+1,0,none⟩),F (some ⟨w.heap.size+1+1,0,none⟩),F (some ⟨t,0,none⟩),U .i64 ↑i,E,E,I #[Q s1,C a1 l1 c1],I #[C m la o],U .i64 T,U .i64 ↑n,U .i64 ↑i,Q true,U .i64 ↑i,ta,I #[C m la o],U .i64 ↑i,td,te,tf,tg,ti,tj,tk,tl,tm,u27,E,E,E,E,E,E,E,E,E,E,E,E],defers:=[] }/\Hid ((D 0=true->Has V tg (.int (((YM ps i:Nat):Int))))/\(D 1=true->ti=I #[C m la o])/\(D 2=true->tj=Value.int IntKind.i64 ↑i)/\(D 3=true->Has V tk (.rat (cf ps i)))/\(D 4=true->Has V tl (.int (((cf ps i).den:Int))))/\(D 5=true->Has V tm (.int (((YM ps (i+1):Nat):Int))))/\((D 6=false->y3=some (t,.int (((YM ps i:Nat):Int))))/\(D 6=true->y3=some (t,.int (((YM ps (i+1):Nat):Int))))))/\Hid (Mem w V [some (w.heap.size,.cell 25 (C m la o)),some (w.heap.size+1,.cell 25 (C none 0 0)),some (w.heap.size+1+1,.int (((YD ps (i+1):Nat):Int))),y3]))
     ⟨_,_,_,_,_,_,_,rfl,O ⟨J,J,J,J,J,J,⟨λ_=>rfl,J⟩⟩,O (M4.o).drew⟩ ?step4 ?fin4
    case step4=>
     rintro D ad V i ds aq X g ah ⟨tg,ti,tj,tk,tl,tm,y3,rfl,b,d⟩;have Qj:i<7:=(Af.1 X).1;obtain rfl|rfl|rfl|rfl|rfl|rfl|rfl:=Gw i Z
     all_goals
      simp only[Ai,Ah,Ak]at X;subst X
     . have hf:D 6=false:=DM aq ah;obtain rfl:=D0 b hf;clear g;obtain⟨s,a,l,c,n,i⟩:=d.o.int (i:=3) rfl;obtain⟨T,e1⟩:=n.cp;refine Zt ?_;exact⟨_,_,_,_,_,_,_,rfl,(Ke (Dc b λ_=>i) ⟨λ_=>rfl,λh=>by simp[hf]at h⟩),O (d.o)⟩
     . have T:=(d.o.cell (i:=0) rfl).1.cell;clear g;refine Zt ?_;exact⟨_,_,_,_,_,_,_,rfl,(Dg b),O (d.o)⟩
     . clear g;refine Zt ?_;exact⟨_,_,_,_,_,_,_,rfl,(Db b),O (d.o)⟩
     . obtain rfl:=(b.o.2.1 (g 1 J));obtain rfl:=(b.o.2.2.1 (g 2 J));have r:=O (II _ ps (i:Int) V (HP.o V d.o.2.2));rw[IY]at r;clear g;refine Jb rfl rfl λK hK=>?_;go_simp;go_wp2_with(go_at_call 58;refine r.o.mono ?_;rintro e w5 ⟨v5,rfl,S,f⟩)
       obtain⟨q,_,_,_,H,L,N⟩:=b.o;exact⟨_,_,_,_,_,_,_,rfl,O ⟨λh=>(q h).below f,λ_=>rfl,λ_=>rfl,λ_=>S,λh=>(H h).below f,λh=>(L h).below f,N⟩,O (d.o.below f)⟩
     . have k:=(b.o.2.2.2.1 (g 3 J));have r:=O (Ep _ (cf ps i) V k);clear g k;refine Jb rfl rfl λK hK=>?_;go_simp;go_wp2_with(go_at_call 86;refine r.o.mono ?_;rintro e w5 ⟨v5,rfl,S,f⟩)
       obtain⟨q,y,A,B,_,L,N⟩:=b.o;exact⟨_,_,_,_,_,_,_,rfl,O ⟨λh=>(q h).below f,y,A,λh=>(B h).below f,λ_=>S,λh=>(L h).below f,N⟩,O (d.o.below f)⟩
     . have k:=(b.o.1 (g 0 J));have h1:=(b.o.2.2.2.2.1 (g 4 J));have r:=O (aL _ _ (YM ps i) (cf ps i).den V k h1 (QI ps i) (HL.o i) (Qb.o.at i).den);rw[aN]at r;clear g k h1;refine Jb rfl rfl λK hK=>?_;go_simp;go_wp2_with(go_at_call 97;refine r.o.mono ?_;rintro e w5 ⟨v5,rfl,S,f⟩)
       obtain⟨q,y,A,B,H,_,N⟩:=b.o;exact⟨_,_,_,_,_,_,_,rfl,O ⟨λh=>(q h).below f,y,A,λh=>(B h).below f,λh=>(H h).below f,λ_=>S,N⟩,O (d.o.below f)⟩
     . obtain rfl:=D0 b ah;have hv:=((Dq b) (g 5 J));obtain⟨s1,a1,l1,c1,rfl⟩:=Jk.form2 (show Jk V _ _ from hv);obtain⟨s,a,l,c,n,i⟩:=d.o.int (i:=3) rfl;have T:=n.c0;have f0:=n.f0;have e1:=n.c1;have f1:=n.f1;clear g;refine Zt ?_;obtain⟨q,y,A,B,H,L,_⟩:=b.o;exact⟨_,_,_,_,_,_,_,rfl,O ⟨λh=>(q h).set2 n rfl rfl _ _,y,A,λh=>(B h).set2 n rfl rfl _ _,λh=>(H h).set2 n rfl rfl _ _,λh=>(L h).set2 n rfl rfl _ _,⟨λh=>by simp at h,λ_=>rfl⟩⟩,O (d.o.putInt (i:=3) rfl hv)⟩
    rintro D ad V5 W ⟨tg,ti,tj,tk,tl,tm,y3,rfl,b,d⟩;obtain rfl:=b.o.2.2.2.2.2.2.2 (W 6 DL);obtain rfl:=b.o.2.1 (W 1 DL);obtain rfl:=b.o.2.2.1 (W 2 DL);clear b W M4;have M5:Hid (Mem w V5 [some (w.heap.size,.cell 25 (C m la o)),some (w.heap.size+1,.cell 25 (C none 0 0)),some (w.heap.size+1+1,.int (((YD ps (i+1):Nat):Int))),some (t,.int (((YM ps (i+1):Nat):Int)))]):=d;clear d;go_wp2_with fail
    go_roundw
    case rel=>exact⟨i+1,Z,by go_num,M5⟩
    case measure=>simp[intOf];omega
  . obtain rfl:i=n:=Z
    obtain⟨s6,a6,l6,c6,n6,i6⟩:=M3.o.int (i:=2) rfl;obtain⟨Ql,Qo⟩:=n6.cp;obtain⟨s7,a7,l7,c7,n7,i7⟩:=M3.o.int (i:=3) rfl;obtain⟨Qh,Qp⟩:=n7.cp;have H1:=O (Ku _ _ ((YM ps i:Nat):Int) ((YD ps i:Nat):Int) wr i7 i6 (HL.o i) (HG.o i));have Qg:=(M3.o.cell (i:=1) rfl).1;obtain⟨r9,av⟩:=ex (Rat.divInt ((YM ps i:Nat):Int) ((YD ps i:Nat):Int));rw[av]at H1;have Qi:=O av;clear av;by_cases k:ps=[]
    . have HB:=O (show decide (((YD ps i:Nat):Int)≠0)=false by rw[<-HN.o,k];decide);rw[HB.o]at H1;have HE:=O (show J1 ps=[]by rw[k];rfl);clear k HB;go_wp2_with(go_at_call 84;refine H1.o.mono ?_;clear H1;rintro e w4 ⟨u4,rfl,an,ai⟩;obtain⟨s9,a9,l9,c9,t9,b9,k9,d9,rfl⟩:=Ji.form an;have n5:=boxed_below (boxed_below Qg ai) (Ba w4 (G #[Q s9,C a9 l9 c9,Q t9,C b9 k9 d9] 65));have x0:=n5.cell;have x1:=n5.frozen)
      rw[HE.o];exact BB (v:=I #[C none 0 0]) (by simp[results,Tryz.results56,go_sem,x0]) rfl ⟨_,rfl,QT _,((Bt M3.o.2.2 ai).alloc (by have:=M3.o.2.2.size;have:=ai.size;omega) _).setCell (p:=⟨w.heap.size+1,0,none⟩) (by show w.heap.size<=w.heap.size+1;omega) _⟩
    . have HB:=O (show decide (((YD ps i:Nat):Int)≠0)=true by
       refine BK ?_;rw[<-HN.o];exact Int.natCast_ne_zero.2 (Qm.o k))
      rw[HB.o]at H1;have HE:=O (show r9=(YM ps ps.length:Rat)/(YD ps ps.length:Rat)by rw[<-Qi.o,Cs,AM,AM,HN.o]);have HT:=O (show Da r9 ps=J1 ps by rw[HE.o];rfl);have HS:=O (show Sq r9/\∀j,Sq (cf ps j*r9)by rw[HE.o];exact HF.o k);clear k HB;have H2:=O λ(V:P) (hB:Bl w V) (x:R) (hx:Ji V x r9)=>QU (I #[C m la o]) x ps r9 V (HP.o V hB) hx Qb.o HS.o.1 HS.o.2;rw[HT.o]at H2;go_upto_region 12 with(go_at_call 84;refine H1.o.mono ?_;clear H1;rintro e w4 ⟨u4,rfl,an,ai⟩;obtain⟨s9,a9,l9,c9,t9,b9,k9,d9,rfl⟩:=Ji.form an)
      clear Ql Qo Qh Qp;obtain⟨V8,hV⟩:=ex (w4.alloc (G #[Q s9,C a9 l9 c9,Q t9,C b9 k9 d9] 65));obtain⟨B8,ae⟩:=ex (w4.heap.size);have d:Mem w (w4.alloc (G #[Q s9,C a9 l9 c9,Q t9,C b9 k9 d9] 65)) [some (w.heap.size,.cell 25 (C m la o)),some (w.heap.size+1,.cell 25 (C none 0 0)),some (w.heap.size+1+1,.int (((YD ps i:Nat):Int))),some (t,.int (((YM ps i:Nat):Int))),some (w4.heap.size,.rat r9)]:=Mem.push (M3.o.below ai) (.rat r9) an;rw[hV,ae]at d;rw[hV];rw[ae];have M4:Hid (Mem w V8 [some (w.heap.size,.cell 25 (C m la o)),some (w.heap.size+1,.cell 25 (C none 0 0)),some (w.heap.size+1+1,.int (((YD ps i:Nat):Int))),some (t,.int (((YM ps i:Nat):Int))),some (B8,.rat r9)]):=O (d);clear M3;clear d hV ae;obtain⟨s9,a9,l9,c9,t9,b9,k9,d9,n9,r9,i9,j9⟩:=M4.o.rat (i:=4) rfl;obtain⟨bj,bm,bn,bt⟩:=n9.cq;have c0:=(M4.o.cell (i:=0) rfl).1.cell;have n1:=(M4.o.cell (i:=1) rfl).1;have HQ:=O M4.o.2.2;go_wp2_with(go_at_call 98;refine(H2.o _ HQ.o _ r9).mono ?_;clear H2;rintro e w5 ⟨u5,rfl,ay,f⟩;obtain⟨a7,l7,c7,rfl⟩:=ay.form;have n5:=boxed_below n1 f;have x0:=n5.cell;have x1:=n5.frozen;have Qn:=O (KD n5 (x:=C a7 l7 c7) ay);have Qk:=O ((Bt HQ.o f).setCell (p:=⟨w.heap.size+1,0,none⟩) (by show w.heap.size<=w.heap.size+1;omega) (C a7 l7 c7));clear ay f n5)
      exact BB (v:=I #[C a7 l7 c7]) (by simp[results,Tryz.results56,go_sem,x0]) rfl ⟨_,rfl,Qn.o,Qk.o⟩
theorem aO(va vb:R)(ps qs:List Rat)(w:P)(ha:Jc w va ps)(hb:Jc w vb qs)(aw:DY ps)(ba:DY qs)(az:qs≠[])(ay:∀i,i<=ps.length+1-qs.length->Sq (Xd (cf qs (qs.length-1))^i))(bc:∀i,Sq (cf ps i*GA ps qs)):
 Calls Tryz.prog 99 #[va,vb] w λe w'=>∃u,e=.returned u/\Jc w' u (YT ps qs)/\Bl w w':=by
 obtain⟨m,hm⟩:=ex (qs.length-1:Nat);have Uc:0<qs.length:=Aj.2 az;have Qy:ps.length<=1099511627776:=by
  obtain⟨M,la,S,rfl⟩:=ha.form;have:=ha.row.forms;omega
 have Qt:qs.length<=1099511627776:=by
  obtain⟨q,lb,z,rfl⟩:=hb.form;have:=hb.row.forms;omega
 obtain⟨L,hL⟩:=ex (Xd (cf qs m):Rat);obtain⟨N,hN⟩:=ex (ps.length+1-qs.length:Nat);obtain⟨e1,aq⟩:=ex ((ps.length:Int)-1:Int);have Qp:(qs.length:Int)-1=(m:Int):=Z
 obtain⟨e3,co⟩:=ex (e1-(m:Int):Int);obtain⟨e4,ct⟩:=ex (e3+1:Int);have da:IntKind.i64.wrap e3=e3:=by rw[BZ];omega
 have db:IntKind.i64.wrap e4=e4:=by rw[BZ];omega
 obtain⟨Qb,Qo,Ub,Qw,Qc,HT,Qu,Qs⟩:=Iq (show(∀i:Nat,(i:Int)<e4↔i<N)/\N<=1099511627777 from⟨λi=>by omega,Z⟩) Qp aq hL (show ∀i,i<=N->Sq (L^i)from λi hi=>by rw[<-hL,<-hm];exact ay i Z) (show Da (L^N) ps=YT ps qs by unfold YT GA;rw[hm,hL,hN]) (show ∀i,Sq (cf ps i*L^N)from λi=>by have:=bc i;unfold GA at this;rwa[hm,hL,hN]at this) aw;have Qz:=O ba;clear ay bc aw ba az hN hL hm Uc Qy Qt aq Qp;have Ql:Tryz.prog.follows .mixedOrders=true:=by kernel_rfl
 obtain⟨M,la,S,rfl⟩:=ha.form;obtain⟨q,lb,z,rfl⟩:=hb.form;have M0:=(((Mem.nil w).push (.cell 25 (C M la S)) (cs:=#[C M la S]) ⟨rfl,rfl⟩).push (.cell 25 (C q lb z)) (cs:=#[C q lb z]) ⟨rfl,rfl⟩).push (.cell 25 (C none 0 0)) (cs:=#[C none 0 0]) ⟨rfl,rfl⟩;simp only[BA]at M0;obtain⟨W0,ai⟩:=ex (((w.alloc (G #[C M la S] 25)).alloc (G #[C q lb z] 25)).alloc (G #[C none 0 0] 25));obtain⟨Qj,HP,HQ⟩:=Dh ai (λ(V:P) (hB:Bl w V)=>ha.below hB) λ(V:P) (hB:Bl w V)=>hb.below hB;have M1:Hid (Mem w W0 [some (w.heap.size,.cell 25 (C M la S)),some (w.heap.size+1,.cell 25 (C q lb z)),some (w.heap.size+1+1,.cell 25 (C none 0 0))]):=O (by rw[<-ai];exact M0);clear M0 ai ha hb;go_enter Tryz.func99,Tryz.ntmps99
 go_upto_region 1 with fail
 rw[Qj.o];clear Qj;refine Jm Ql [[],[],[1],[0,2,2],[3,3],[],[5,4,4,0,1,2,3,4,5]] (by kernel_rfl) DL
  (λD ad V=>∃(tm tn ta tb tc tl:R) (x5:Option (Nat × Dat)),ad={ tmps:=#[I #[C M la S],I #[C q lb z],F (some ⟨w.heap.size,0,none⟩),F (some ⟨w.heap.size+1,0,none⟩),F (some ⟨w.heap.size+1+1,0,none⟩),tl,E,E,tm,tn,ta,tb,tc,E,E,E,E,E,E,E,E,E,E,E,E,E,E,E,E,E,E,E,E,E],defers:=[] }/\Hid ((D 0=true->tm=I #[C q lb z])/\(D 1=true->tn=I #[C q lb z])/\(D 2=true->ta=U .i64 (m:Int))/\(D 3=true->Has V tb (.rat (cf qs m)))/\(D 4=true->Has V tc (.rat L))/\((D 5=false->x5=none)/\(D 5=true->D 6=false->∃B:Nat,tl=F (some ⟨B,0,none⟩)/\x5=some (B,.rat 0))/\(D 6=true->∃B:Nat,tl=F (some ⟨B,0,none⟩)/\x5=some (B,.rat L))))/\Hid (Mem w V [some (w.heap.size,.cell 25 (C M la S)),some (w.heap.size+1,.cell 25 (C q lb z)),some (w.heap.size+1+1,.cell 25 (C none 0 0)),x5]))
  ⟨_,_,_,_,_,_,none,rfl,O ⟨J,J,J,J,J,J⟩,O ((M1.o).none).drew⟩ ?step1 ?fin1
 case step1=>
  rintro D ad V i ds ap hi o af ⟨tm,tn,ta,tb,tc,tl,x5,rfl,f,g⟩;have Qv:i<7:=(Af.1 hi).1;obtain rfl|rfl|rfl|rfl|rfl|rfl|rfl:=Gw i Z
  all_goals
   simp only[Ai,Ah,Ak]at hi;subst hi
  . have e0:=(g.o.cell (i:=1) rfl).1.cell;clear o;refine Zt ?_;exact⟨_,_,_,_,_,_,_,rfl,(Dc f),O (g.o)⟩
  . have e0:=(g.o.cell (i:=1) rfl).1.cell;clear o;refine Zt ?_;exact⟨_,_,_,_,_,_,_,rfl,(Dg f),O (g.o)⟩
  . obtain rfl:=(f.o.2.1 (o 1 J));have H:=O (Yb _ qs V (HQ.o V g.o.2.2));rw[Qo.o]at H;clear o;refine Jb rfl rfl λK hK=>?_;go_simp;go_wp2_with(go_at_call 20;refine H.o.mono ?_;rintro e X ⟨rfl,A⟩)
    obtain⟨G0,_,_,G3,G4,G5⟩:=f.o;exact⟨_,_,_,_,_,_,_,rfl,O ⟨G0,λ_=>rfl,λ_=>rfl,λh=>(G3 h).below A,λh=>(G4 h).below A,G5⟩,O (g.o.below A)⟩
  . obtain rfl:=(f.o.1 (o 0 J));obtain rfl:=(f.o.2.2.1 (o 2 J));have H:=O (II _ qs (m:Int) V (HQ.o V g.o.2.2));rw[IY]at H;clear o;refine Jb rfl rfl λK hK=>?_;go_simp;go_wp2_with(go_at_call 58;refine H.o.mono ?_;rintro e X ⟨v5,rfl,am,A⟩)
    exact⟨_,_,_,_,_,_,_,rfl,O ⟨λ_=>rfl,f.o.2.1,λ_=>rfl,λ_=>am,λh=>(f.o.2.2.2.2.1 h).below A,f.o.2.2.2.2.2⟩,O (g.o.below A)⟩
  . have h0:=(f.o.2.2.2.1 (o 3 J));have H:=O (aK _ (cf qs m) V h0 (Qz.o.at m));rw[Qw.o]at H;clear o h0;refine Jb rfl rfl λK hK=>?_;go_simp;go_wp2_with(go_at_call 129;refine H.o.mono ?_;rintro e X ⟨v5,rfl,am,A⟩)
    obtain⟨G0,G1,G2,G3,_,G5⟩:=f.o;exact⟨_,_,_,_,_,_,_,rfl,O ⟨G0,G1,G2,λh=>(G3 h).below A,λ_=>am,G5⟩,O (g.o.below A)⟩
  . have hf:D 6=false:=DM ap af;obtain rfl:=Dq f af;clear o;refine Zt ?_;obtain⟨G0,G1,G2,G3,G4,_⟩:=f.o;exact⟨_,_,_,_,_,_,_,rfl,O ⟨G0,G1,G2,λh=>(G3 h).alloc _,λh=>(G4 h).alloc _,⟨λh=>by simp at h,λ_ _=>⟨_,rfl,rfl⟩,λh=>by simp[hf]at h⟩⟩,O (g.o.fill (i:=3) rfl (.rat 0) (EP _))⟩
  . obtain⟨B,rfl,rfl⟩:=D0 f (o 5 J) af;have Qd:=o 5 J;have hv:=(f.o.2.2.2.2.1 (o 4 J));obtain⟨s1,a1,l1,c1,t1,b1,k1,d1,rfl⟩:=Ji.form (show Ji V _ _ from hv);obtain⟨s,a,l,c,t,b,k,d,n,r,i,j⟩:=g.o.rat (i:=3) rfl;have e0:=n.c0;have f0:=n.f0;have e1:=n.c1;have f1:=n.f1;have e2:=n.c2;have f2:=n.f2;have e3:=n.c3;have f3:=n.f3;clear o;refine Zt ?_;obtain⟨G0,G1,G2,G3,G4,_⟩:=f.o;exact⟨_,_,_,_,_,_,_,rfl,O ⟨G0,G1,G2,λh=>(G3 h).put4 n rfl rfl rfl rfl _ _ _ _,λh=>(G4 h).put4 n rfl rfl rfl rfl _ _ _ _,⟨λh=>by simp[Qd]at h,λ_ h=>by simp at h,λ_=>⟨B,rfl,rfl⟩⟩⟩,O (g.o.putRat (i:=3) rfl hv)⟩
 rintro D ad V2 W ⟨tm,tn,ta,tb,tc,tl,x5,rfl,f,g⟩;obtain⟨B3,rfl,rfl⟩:=f.o.2.2.2.2.2.2.2 (W 6 DL);obtain rfl:=f.o.1 (W 0 DL);obtain rfl:=f.o.2.1 (W 1 DL);obtain rfl:=f.o.2.2.1 (W 2 DL);clear f W M1;have M2:Hid (Mem w V2 [some (w.heap.size,.cell 25 (C M la S)),some (w.heap.size+1,.cell 25 (C q lb z)),some (w.heap.size+1+1,.cell 25 (C none 0 0)),some (B3,.rat L)]):=g;clear g;have HA:=O λ(V:P)=>IC 1 Z Z V;have HB:=HA;have H:=O λ(V:P) (x y:R) (hx:Jk V x 1) (hy:Jk V y 1)=>Ku x y 1 1 V hx hy DT.one DT.one;rw[show decide ((1:Int)≠0)=true from rfl,show Rat.divInt 1 1=L^0 by rw[Rat.pow_zero];rfl]at H;go_upto_region 3 with(first
  |(go_at_call 95;refine(HA.o _).mono ?_;clear HA;rintro e w3 ⟨u3,rfl,Qa,an⟩)
  |(go_at_call 95;refine(HB.o _).mono ?_;clear HB;rintro e w4 ⟨u4,rfl,bf,ak⟩;have Qa:=Qa.below ak)
  |(go_at_call 84;refine(H.o _ _ _ Qa bf).mono ?_;clear H;rintro e X ⟨u5,rfl,ae,A⟩;obtain⟨s9,a9,l9,c9,t9,b9,k9,d9,rfl⟩:=Ji.form ae))
 obtain⟨V4,hV⟩:=ex (X.alloc (G #[Q s9,C a9 l9 c9,Q t9,C b9 k9 d9] 65));obtain⟨T,ah⟩:=ex (X.heap.size);have g:Mem w (X.alloc (G #[Q s9,C a9 l9 c9,Q t9,C b9 k9 d9] 65)) [some (w.heap.size,.cell 25 (C M la S)),some (w.heap.size+1,.cell 25 (C q lb z)),some (w.heap.size+1+1,.cell 25 (C none 0 0)),some (B3,.rat L),some (X.heap.size,.rat (L^0))]:=Mem.push (((M2.o.below an).below ak).below A) (.rat (L^0)) ae;rw[hV,ah]at g;rw[hV];rw[ah];have M3:Hid (Mem w V4 [some (w.heap.size,.cell 25 (C M la S)),some (w.heap.size+1,.cell 25 (C q lb z)),some (w.heap.size+1+1,.cell 25 (C none 0 0)),some (B3,.rat L),some (T,.rat (L^0))]):=O (g);clear M2;clear g hV ah;clear Qa bf ae an ak A;refine Jm Ql [[],[0],[],[2,1],[1,3],[4],[]] (by kernel_rfl) DL
  (λD ad V=>∃(td te tf tg ti tj tk:R),ad={ tmps:=#[I #[C M la S],I #[C q lb z],F (some ⟨w.heap.size,0,none⟩),F (some ⟨w.heap.size+1,0,none⟩),F (some ⟨w.heap.size+1+1,0,none⟩),F (some ⟨B3,0,none⟩),F (some ⟨T,0,none⟩),Q true,I #[C q lb z],I #[C q lb z],U .i64 ↑m,tb,tc,.tuple #[I #[Q s9,C a9 l9 c9,Q t9,C b9 k9 d9],Q true],u3,u4,.tuple #[I #[Q s9,C a9 l9 c9,Q t9,C b9 k9 d9],Q true],I #[Q s9,C a9 l9 c9,Q t9,C b9 k9 d9],Q true,td,te,tf,tg,ti,tj,tk,E,E,E,E,E,E,E,E],defers:=[] }/\Hid ((D 0=true->td=I #[C M la S])/\(D 1=true->te=U .i64 e1)/\(D 2=true->tf=I #[C q lb z])/\(D 3=true->tg=U .i64 (m:Int))/\(D 4=true->ti=U .i64 e3)/\(D 5=true->tj=U .i64 e4)/\(D 6=true->tk=U .i64 0))/\Hid (Mem w V [some (w.heap.size,.cell 25 (C M la S)),some (w.heap.size+1,.cell 25 (C q lb z)),some (w.heap.size+1+1,.cell 25 (C none 0 0)),some (B3,.rat L),some (T,.rat (L^0))]))
  ⟨_,_,_,_,_,_,_,rfl,O ⟨J,J,J,J,J,J,J⟩,O (M3.o).drew⟩ ?step5 ?fin5
 case step5=>
  rintro D ad V i ds ap hi o af ⟨td,te,tf,tg,ti,tj,tk,rfl,f,g⟩;have Qv:i<7:=(Af.1 hi).1;obtain rfl|rfl|rfl|rfl|rfl|rfl|rfl:=Gw i Z
  all_goals
   simp only[Ai,Ah,Ak]at hi;subst hi
  . have e0:=(g.o.cell (i:=0) rfl).1.cell;clear o;refine Zt ?_;exact⟨_,_,_,_,_,_,_,rfl,(Dc f),O (g.o)⟩
  . obtain rfl:=(f.o.1 (o 0 J));have H:=O (Yb _ ps V (HP.o V g.o.2.2));rw[Ub.o]at H;clear o;refine Jb rfl rfl λK hK=>?_;go_simp;go_wp2_with(go_at_call 20;refine H.o.mono ?_;rintro e X ⟨rfl,A⟩)
    exact⟨_,_,_,_,_,_,_,rfl,(Dg (Dc f)),O (g.o.below A)⟩
  . have e0:=(g.o.cell (i:=1) rfl).1.cell;clear o;refine Zt ?_;exact⟨_,_,_,_,_,_,_,rfl,(Db f),O (g.o)⟩
  . obtain rfl:=(f.o.2.2.1 (o 2 J));have H:=O (Yb _ qs V (HQ.o V g.o.2.2));rw[Qo.o]at H;clear o;refine Jb rfl rfl λK hK=>?_;go_simp;go_wp2_with(go_at_call 20;refine H.o.mono ?_;rintro e X ⟨rfl,A⟩)
    exact⟨_,_,_,_,_,_,_,rfl,(Dd (Db f)),O (g.o.below A)⟩
  . obtain rfl:=(f.o.2.1 (o 1 J));obtain rfl:=(f.o.2.2.2.1 (o 3 J));clear o;refine Zt ?_;exact⟨_,_,_,_,_,_,_,rfl,(Dr (Dd (Dg f))),O (g.o)⟩
  . obtain rfl:=(f.o.2.2.2.2.1 (o 4 J));clear o;refine Zt ?_;exact⟨_,_,_,_,_,_,_,rfl,(Dt (Dr f)),O (g.o)⟩
  . clear o;refine Zt ?_;exact⟨_,_,_,_,_,_,_,rfl,(Ke f),O (g.o)⟩
 rintro D ad V6 W ⟨td,te,tf,tg,ti,tj,tk,rfl,f,g⟩;obtain rfl:=f.o.1 (W 0 DL);obtain rfl:=f.o.2.1 (W 1 DL);obtain rfl:=f.o.2.2.1 (W 2 DL);obtain rfl:=f.o.2.2.2.1 (W 3 DL);obtain rfl:=f.o.2.2.2.2.1 (W 4 DL);obtain rfl:=Dq f (W 5 DL);obtain rfl:=f.o.2.2.2.2.2.2 (W 6 DL);clear f W M3;have M4:Hid (Mem w V6 [some (w.heap.size,.cell 25 (C M la S)),some (w.heap.size+1,.cell 25 (C q lb z)),some (w.heap.size+1+1,.cell 25 (C none 0 0)),some (B3,.rat L),some (T,.rat (L^0))]):=g;clear g;go_wp2;go_loopw [25] (λiv wr=>∃i:Nat,i<=N/\iv=U .i64 (i:Int)/\Hid (Mem w wr [some (w.heap.size,.cell 25 (C M la S)),some (w.heap.size+1,.cell 25 (C q lb z)),some (w.heap.size+1+1,.cell 25 (C none 0 0)),some (B3,.rat L),some (T,.rat (L^i))])) λiv _=>N-(intOf iv).toNat
 case atStart=>exact⟨0,AK _,rfl,M4⟩
 case round=>
  clear M4;obtain⟨i,hi,rfl,M5⟩:=hrel;by_cases av:i<N
  . have Qf:(i:Int)<e4:=(Qb.o.1 i).2 av;have cn:N<=1099511627777:=Qb.o.2;obtain⟨s7,a7,l7,c7,t7,b7,k7,d7,n7,r7,i7,j7⟩:=M5.o.rat (i:=3) rfl;obtain⟨ce,ci,ck,cl⟩:=n7.cq;obtain⟨s8,a8,l8,c8,t8,b8,k8,d8,n8,r8,i8,j8⟩:=M5.o.rat (i:=4) rfl;obtain⟨Qk,Qn,Qg,Qq⟩:=n8.cq;obtain⟨Qh,Qr,Qi,Qm⟩:=n8.fq;have H1:=O (I0 _ _ (L^i) L wr r8 r7 (Qc.o i Z) (by have:=Qc.o 1 Z;rwa[Rat.pow_one]at this));rw[<-Rat.pow_succ]at H1;go_upto_region 6 with(go_at_call 52;refine H1.o.mono ?_;clear H1;rintro e w6 ⟨u6,rfl,bg,hq⟩;obtain⟨s8,a8,l8,c8,t8,b8,k8,d8,rfl⟩:=Ji.form bg;clear Qk Qn Qg Qq;obtain⟨Qk,Qn,Qg,Qq⟩:=(n8.below hq).cq;clear Qh Qr Qi Qm;obtain⟨Qh,Qr,Qi,Qm⟩:=(n8.below hq).fq)
    obtain⟨V9,hV⟩:=ex ((((w6.setCell ⟨T,0,none⟩ (Q s8)).setCell ⟨T,1,none⟩ (C a8 l8 c8)).setCell ⟨T,2,none⟩ (Q t8)).setCell ⟨T,3,none⟩ (C b8 k8 d8));have g:Mem w ((((w6.setCell ⟨T,0,none⟩ (Q s8)).setCell ⟨T,1,none⟩ (C a8 l8 c8)).setCell ⟨T,2,none⟩ (Q t8)).setCell ⟨T,3,none⟩ (C b8 k8 d8)) [some (w.heap.size,.cell 25 (C M la S)),some (w.heap.size+1,.cell 25 (C q lb z)),some (w.heap.size+1+1,.cell 25 (C none 0 0)),some (B3,.rat L),some (T,.rat (L^(i+1)))]:=Mem.putRat (M5.o.below hq) (i:=4) rfl bg;rw[hV]at g;rw[hV];have M6:Hid (Mem w V9 [some (w.heap.size,.cell 25 (C M la S)),some (w.heap.size+1,.cell 25 (C q lb z)),some (w.heap.size+1+1,.cell 25 (C none 0 0)),some (B3,.rat L),some (T,.rat (L^(i+1)))]):=O (g);clear M5;clear g hV;go_wp2_with fail
    go_roundw
    case rel=>exact⟨i+1,Z,by go_num,M6⟩
    case measure=>simp[intOf];omega
  . have Qf:¬(i:Int)<e4:=λh=>av ((Qb.o.1 i).1 h);obtain rfl:i=N:=Z
    obtain⟨dm,bi,dj,bj,dt,b10,di,bm,bh,r10,df,dh⟩:=M5.o.rat (i:=4) rfl;obtain⟨bn,bt,bu,bz⟩:=bh.cq;have c0:=(M5.o.cell (i:=0) rfl).1.cell;have n1:=(M5.o.cell (i:=2) rfl).1;have Qe:=O M5.o.2.2;have H2:=O (QU (I #[C M la S]) _ ps (L^i) wr (HP.o wr Qe.o) r10 Qs.o (Qc.o i (Aa _)) Qu.o);rw[HT.o]at H2;go_wp2_with(go_at_call 98;refine H2.o.mono ?_;clear H2;rintro e X ⟨u5,rfl,ae,A⟩;obtain⟨a7,l7,c7,rfl⟩:=ae.form;have n5:=boxed_below n1 A;have x0:=n5.cell;have x1:=n5.frozen;have Ua:=O (KD n5 (x:=C a7 l7 c7) ae);have Qx:=O ((Bt Qe.o A).setCell (p:=⟨w.heap.size+1+1,0,none⟩) (by show w.heap.size<=w.heap.size+1+1;omega) (C a7 l7 c7));clear ae A n5)
    exact BB (v:=I #[C a7 l7 c7]) (by simp[results,Tryz.results99,go_sem,x0]) rfl ⟨_,rfl,Ua.o,Qx.o⟩
theorem aQ{A:Nat}(p:EL A ps)(d:EL A qs)(tq:Jd qs=qs)(q0:qs≠[])(c:1<=A)(K:4*((ps.length+2)*(A+1))<=1000000):
 DY ps/\DY qs/\(∀i,i<=ps.length+1-qs.length->Sq (Xd (cf qs (qs.length-1))^i))/\(∀i,Sq (cf ps i*GA ps qs))/\DY (YT ps qs)/\(∀i,DX A (cf qs i))/\
 ∃l:Int,Dvn 1 1 l ((ps.length+2)*A+1) A (YT ps qs) qs:=by
 have B:(ps.length+2)*(A+1)=(ps.length+2)*A+(ps.length+2):=by rw[AO,Fs]
 have L:0<qs.length:=Aj.2 q0;obtain⟨l,o,j⟩:=d (qs.length-1);have s:l≠0:=λe=>by
  have:=Jw tq q0;rw[j,e]at this;exact this rfl
 have q:Xd (cf qs (qs.length-1))=((l.natAbs:Int):Rat):=by
  rw[j];unfold Xd;have a:((l:Rat)<0)↔l<0:=by
   rw[show(0:Rat)=((0:Int):Rat)from rfl];exact Rat.intCast_lt_intCast
  split
  . rename_i h;rw[a]at h;rw[<-Rat.intCast_neg];congr 1;omega
  . rename_i h;rw[a]at h;congr 1;omega
 have m:∀i:Nat,∃z:Int,Sm (i*A+1) z/\Xd (cf qs (qs.length-1))^i=(z:Rat):=λi=>by
  refine⟨(l.natAbs:Int)^i,?_,?_⟩
  . refine Sm.powZ ?_ i;unfold Sm at o ⊢;rwa[AC]
  . rw[q,Rat.intCast_pow]
 have n:∀(k:Nat) (z:Int),Sm k z->k<=1000000->1<=k->Sq (z:Rat):=λk z x w a=>Sq.of ((LL (D:=1) DL x (by rw[show((1:Int):Rat)=1 from rfl,Rat.mul_one])).smq DL (Sm.one k a)) w;have H:ps.length+1-qs.length<=ps.length:=Z
 have r:∀i:Nat,i<=ps.length->i*A<=(ps.length+2)*A:=λi v=>Am _ Z;have f:EL ((ps.length+2)*A+1) (YT ps qs):=λi=>by
  obtain⟨z,a,b⟩:=p i;obtain⟨y,g,t⟩:=m (ps.length+1-qs.length);refine⟨z*y,(a.mul g).mono ?_,?_⟩
  . have u:(ps.length+1-qs.length+1)*A<=(ps.length+2)*A:=Am _ Z;rw[AD,Ct]at u;omega
  . unfold YT GA;rw[Yi,b,t,Ax]
 have hA9:A<=(ps.length+2)*A:=by
  have:1*A<=(ps.length+2)*A:=Am _ Z;omega
 refine⟨DY.of λi=>Sq.of (p.smq c i) Z,DY.of λi=>Sq.of (d.smq c i) Z,λi v=>?_,λi=>?_,DY.of λi=>Sq.of (f.smq Z i) Z,d.smq c,l,?_⟩
 . obtain⟨z,a,b⟩:=m i;rw[b];exact n _ z a (by have:=r i Z;omega) Z
 . obtain⟨z,a,b⟩:=f i;have g:cf ps i*GA ps qs=(z:Rat):=by rw[<-b];unfold YT;rw[Yi]
   rw[g];exact n _ z a Z Z
 . refine⟨DL,Sm.one _ Z,f.cdl,DL,Sm.one _ c,d.cdl,s,o,?_⟩;rw[j,Cs,show((1:Int):Rat)=1 from rfl];grind
theorem aR(tp:Jd ps=ps)(tq:Jd qs=qs)(q0:qs≠[]):(YT ps qs).length=ps.length:=Yf (NC tq q0) tp
theorem aS(A:Nat)(va vb:R)(ps qs:List Rat)(w:P)(ha:Jc w va ps)(hb:Jc w vb qs)(wp:EL A ps)(wq:EL A qs)(tp:Jd ps=ps)(tq:Jd qs=qs)(q0:qs≠[])(hA:1<=A)(ap:4*((ps.length+2)*(A+1))<=1000000)(hr:Ln A (J5 ps qs)):
 Calls Tryz.prog 57 #[va,vb] w λe w'=>∃u,e=.returned u/\Jc w' u (ER ps qs)/\Bl w w':=by
 obtain⟨s1,s2,s3,s4,s5,s6,l,ae⟩:=aQ wp wq tq q0 hA ap;have b1:(ps.length+2)*(A+1)=(ps.length+2)*A+(ps.length+2):=by rw[AO,Fs]
 obtain⟨m,hm⟩:=ex ((YT ps qs).length-(qs.length-1));have Qk:m<=ps.length:=by rw[aR tp tq q0]at hm;omega
 have b2:m*(A+1)<=ps.length*(A+1):=Am _ Qk;have b3:(ps.length+2)*(A+1)=ps.length*(A+1)+2*(A+1):=AD _ _ _;have Qp:=O (λ(V:P) (x y:R) (hx:Jc V x (YT ps qs)) (hy:Jc V y qs)=>QR A x y (YT ps qs) qs V hx hy s5 s6 (JP _ _) tq q0 (by
  rw[hm];exact ae.sizes Z))
 have Qe:=(ae.rem hm).1;have Qc:=ae.den m;have Ql:=O λ(V:P) (x:R) (hx:Jc V x (J5 (YT ps qs) qs))=>NF (1*l^m) ((ps.length+2)*A+1+m*(A+1)+1) x (J5 (YT ps qs) qs) V hx (Y2 _ _) Qc.1 Qc.2 (λi=>(Qe i).mono Z) Z;have Qd:=QO tq q0 hr;have Qh:DY (J1 (J5 (YT ps qs) qs)):=DY.of λi=>Sq.of (Qd.1.smq hA i) Z;have Qj:DY (JE [] (J1 (J5 (YT ps qs) qs))):=DY.of λi=>Sq.of (Qd.2.smq hA i) Z;have Qf:=O λ(V:P) (y:R) (hy:Jc V y (J1 (J5 (YT ps qs) qs)))=>PV _ y [] (J1 (J5 (YT ps qs) qs)) V (QT V) hy (DY.of λi=>by rw[Yy];exact Hq) Qh Qj;have Qm:=O λ(V:P) (x y:R) (hx:Jc V x ps) (hy:Jc V y qs)=>aO x y ps qs V hx hy s1 s2 q0 s3 s4;clear s1 s2 s3 s4 s5 s6 ae b1 hm Qk b2 b3 Qe Qc Qd Qh Qj wp wq tp tq q0 hA ap hr;have Qo:Tryz.prog.follows .mixedOrders=true:=by kernel_rfl
 obtain⟨T,la,W,rfl⟩:=ha.form;obtain⟨M,lb,N,rfl⟩:=hb.form;have M0:=(((Mem.nil w).push (.cell 25 (C T la W)) (cs:=#[C T la W]) ⟨rfl,rfl⟩).push (.cell 25 (C M lb N)) (cs:=#[C M lb N]) ⟨rfl,rfl⟩).push (.cell 25 (C none 0 0)) (cs:=#[C none 0 0]) ⟨rfl,rfl⟩;simp only[BA]at M0;obtain⟨W0,ak⟩:=ex (((w.alloc (G #[C T la W] 25)).alloc (G #[C M lb N] 25)).alloc (G #[C none 0 0] 25));obtain⟨Qg,HP,HQ⟩:=Dh ak (λ(V:P) (hB:Bl w V)=>ha.below hB) λ(V:P) (hB:Bl w V)=>hb.below hB;have M1:Hid (Mem w W0 [some (w.heap.size,.cell 25 (C T la W)),some (w.heap.size+1,.cell 25 (C M lb N)),some (w.heap.size+1+1,.cell 25 (C none 0 0))]):=O (by rw[<-ak];exact M0);clear M0 ak ha hb;go_enter Tryz.func57,Tryz.ntmps57
 go_upto_region 1 with fail
 rw[Qg.o];clear Qg;refine Jm Qo [[],[],[0,1],[],[2,3,2],[4],[5],[5],[5],[],[],[9,6,4,0,1,2,3,4,5,6,9,10],[10,7,11,0,1,2,3,4,5,6,7,9,10,11],[8,12,0,1,2,3,4,5,6,7,8,9,10,11,12]] (by kernel_rfl) DL
  (λD ai V=>∃(tm ta tb tc td tl te tf tg ti tj tk:R) (x9 ad:Option (Nat × Dat)),ai={ tmps:=#[I #[C T la W],I #[C M lb N],F (some ⟨w.heap.size,0,none⟩),F (some ⟨w.heap.size+1,0,none⟩),F (some ⟨w.heap.size+1+1,0,none⟩),ti,tj,tk,tl,tm,ta,tb,tc,td,te,tf,tg,E,E,E,E],defers:=[] }/\Hid ((D 0=true->tm=I #[C T la W])/\(D 1=true->ta=I #[C M lb N])/\(D 2=true->Has V tb (.poly (YT ps qs)))/\(D 3=true->tc=I #[C M lb N])/\(D 4=true->Tup2 V td (.poly (Jt (YT ps qs) qs)) (.poly (J5 (YT ps qs) qs)))/\(D 5=true->Tup2 V tl (.poly (Jt (YT ps qs) qs)) (.poly (J5 (YT ps qs) qs)))/\(D 6=true->Has V te (.poly (Jt (YT ps qs) qs)))/\(D 7=true->Has V tf (.poly (J5 (YT ps qs) qs)))/\(D 8=true->tg=Q true)/\((D 9=false->x9=none)/\(D 9=true->D 11=false->∃B:Nat,ti=F (some ⟨B,0,none⟩)/\x9=some (B,.poly []))/\(D 11=true->∃B:Nat,ti=F (some ⟨B,0,none⟩)/\x9=some (B,.poly (Jt (YT ps qs) qs))))/\((D 10=false->ad=none)/\(D 10=true->D 12=false->∃B:Nat,tj=F (some ⟨B,0,none⟩)/\ad=some (B,.poly []))/\(D 12=true->∃B:Nat,tj=F (some ⟨B,0,none⟩)/\ad=some (B,.poly (J5 (YT ps qs) qs))))/\(D 13=true->tk=Q true))/\Hid (Mem w V [some (w.heap.size,.cell 25 (C T la W)),some (w.heap.size+1,.cell 25 (C M lb N)),some (w.heap.size+1+1,.cell 25 (C none 0 0)),x9,ad]))
  ⟨_,_,_,_,_,_,_,_,_,_,_,_,none,none,rfl,O ⟨J,J,J,J,J,J,J,J,J,J,J,J⟩,O (((M1.o).none).none).drew⟩ ?step1 ?fin1
 case step1=>
  rintro D ai V i ds aq hi d X ⟨tm,ta,tb,tc,td,tl,te,tf,tg,ti,tj,tk,x9,ad,rfl,b,f⟩;have bc:i<14:=(Af.1 hi).1;obtain rfl|rfl|rfl|rfl|rfl|rfl|rfl|rfl|rfl|rfl|rfl|rfl|rfl|rfl:=FZ i Z
  all_goals
   simp only[Ai,Ah,Ak]at hi;subst hi
  . have e0:=(f.o.cell (i:=0) rfl).1.cell;clear d;refine Zt ?_;exact⟨_,_,_,_,_,_,_,_,_,_,_,_,_,_,rfl,(Dc b),O (f.o)⟩
  . have e0:=(f.o.cell (i:=1) rfl).1.cell;clear d;refine Zt ?_;exact⟨_,_,_,_,_,_,_,_,_,_,_,_,_,_,rfl,(Dg b),O (f.o)⟩
  . obtain rfl:=(b.o.1 (d 0 J));obtain rfl:=(b.o.2.1 (d 1 J));have HC:=O (Qm.o V _ _ (HP.o V f.o.2.2) (HQ.o V f.o.2.2));clear d;refine Jb rfl rfl λK hK=>?_;go_simp;go_wp2_with(go_at_call 99;refine HC.o.mono ?_;rintro e w5 ⟨v5,rfl,an,g⟩)
    obtain⟨_,_,_,H,L,j,k,o,q⟩:=b.o;exact⟨_,_,_,_,_,_,_,_,_,_,_,_,_,_,rfl,O ⟨λ_=>rfl,λ_=>rfl,λ_=>an,H,λh=>(L h).below g,λh=>(j h).below g,λh=>(k h).below g,λh=>(o h).below g,q⟩,O (f.o.below g)⟩
  . have e0:=(f.o.cell (i:=1) rfl).1.cell;clear d;refine Zt ?_;exact⟨_,_,_,_,_,_,_,_,_,_,_,_,_,_,rfl,(Dd b),O (f.o)⟩
  . have h0:=(b.o.2.2.1 (d 2 J));obtain rfl:=(b.o.2.2.2.1 (d 3 J));have HC:=O (Qp.o V _ _ h0 (HQ.o V f.o.2.2));clear d h0;refine Jb rfl rfl λK hK=>?_;go_simp;go_wp2_with(go_at_call 22;refine HC.o.mono ?_;rintro e w5 ⟨v5,v6,rfl,an,az,g⟩)
    obtain⟨s,t,z,_,_,j,k,o,q⟩:=b.o;exact⟨_,_,_,_,_,_,_,_,_,_,_,_,_,_,rfl,O ⟨s,t,λh=>(z h).below g,λ_=>rfl,λ_=>⟨v5,v6,rfl,an,az⟩,λh=>(j h).below g,λh=>(k h).below g,λh=>(o h).below g,q⟩,O (f.o.below g)⟩
  . have h0:=(b.o.2.2.2.2.1 (d 4 J));clear d;refine Zt ?_;exact⟨_,_,_,_,_,_,_,_,_,_,_,_,_,_,rfl,(Dt b λ_=>h0),O (f.o)⟩
  . obtain⟨y1,y2,rfl,h1,h2⟩:=((Dq b) (d 5 J));clear d;refine Zt ?_;exact⟨_,_,_,_,_,_,_,_,_,_,_,_,_,_,rfl,(Dw b λ_=>h1),O (f.o)⟩
  . obtain⟨y1,y2,rfl,h1,h2⟩:=((Dq b) (d 5 J));clear d;refine Zt ?_;exact⟨_,_,_,_,_,_,_,_,_,_,_,_,_,_,rfl,(D6 b λ_=>h2),O (f.o)⟩
  . obtain⟨y1,y2,rfl,h1,h2⟩:=((Dq b) (d 5 J));clear d;refine Zt ?_;exact⟨_,_,_,_,_,_,_,_,_,_,_,_,_,_,rfl,(EG b),O (f.o)⟩
  . have hf:D 11=false:=DM aq X;obtain rfl:=b.o.2.2.2.2.2.2.2.2.2.1.1 X;clear d;refine Zt ?_;obtain⟨s,t,z,H,L,j,k,o,q,_,af⟩:=b.o;exact⟨_,_,_,_,_,_,_,_,_,_,_,_,_,_,rfl,O ⟨s,t,λh=>(z h).alloc _,H,λh=>(L h).alloc _,λh=>(j h).alloc _,λh=>(k h).alloc _,λh=>(o h).alloc _,q,⟨λh=>by simp at h,λ_ _=>⟨_,rfl,rfl⟩,λh=>by simp[hf]at h⟩,af⟩,O (f.o.fill (i:=3) rfl (.poly []) (FW _))⟩
  . have hf:D 12=false:=DM aq X;obtain rfl:=b.o.2.2.2.2.2.2.2.2.2.2.1.1 X;clear d;refine Zt ?_;obtain⟨s,t,z,H,L,j,k,o,q,G9,_,ah⟩:=b.o;exact⟨_,_,_,_,_,_,_,_,_,_,_,_,_,_,rfl,O ⟨s,t,λh=>(z h).alloc _,H,λh=>(L h).alloc _,λh=>(j h).alloc _,λh=>(k h).alloc _,λh=>(o h).alloc _,q,G9,⟨λh=>by simp at h,λ_ _=>⟨_,rfl,rfl⟩,λh=>by simp[hf]at h⟩,ah⟩,O (f.o.fill (i:=4) rfl (.poly []) (FW _))⟩
  . obtain⟨B,rfl,rfl⟩:=b.o.2.2.2.2.2.2.2.2.2.1.2.1 (d 9 J) X;have Qb:=d 9 J;have hv:=((D0 b) (d 6 J));obtain⟨a1,l1,c1,rfl⟩:=Jc.form (show Jc V _ _ from hv);obtain⟨a,l,c,n,r⟩:=f.o.poly2 (i:=3) rfl;have e0:=n.cell;have f0:=n.frozen;clear d;refine Zt ?_;obtain⟨s,t,z,H,L,j,k,o,q,_,af⟩:=b.o;exact⟨_,_,_,_,_,_,_,_,_,_,_,_,_,_,rfl,O ⟨s,t,λh=>(z h).set1 n rfl _,H,λh=>(L h).set1 n rfl _,λh=>(j h).set1 n rfl _,λh=>(k h).set1 n rfl _,λh=>(o h).set1 n rfl _,q,⟨λh=>by simp[Qb]at h,λ_ h=>by simp at h,λ_=>⟨B,rfl,rfl⟩⟩,af⟩,O (f.o.putPoly (i:=3) rfl hv)⟩
  . obtain⟨B,rfl,rfl⟩:=b.o.2.2.2.2.2.2.2.2.2.2.1.2.1 (d 10 J) X;have Qb:=d 10 J;have hv:=((EE b) (d 7 J));obtain⟨a1,l1,c1,rfl⟩:=Jc.form (show Jc V _ _ from hv);obtain⟨a,l,c,n,r⟩:=f.o.poly2 (i:=4) rfl;have e0:=n.cell;have f0:=n.frozen;clear d;refine Zt ?_;obtain⟨s,t,z,H,L,j,k,o,q,G9,_,ah⟩:=b.o;exact⟨_,_,_,_,_,_,_,_,_,_,_,_,_,_,rfl,O ⟨s,t,λh=>(z h).set1 n rfl _,H,λh=>(L h).set1 n rfl _,λh=>(j h).set1 n rfl _,λh=>(k h).set1 n rfl _,λh=>(o h).set1 n rfl _,q,G9,⟨λh=>by simp[Qb]at h,λ_ h=>by simp at h,λ_=>⟨B,rfl,rfl⟩⟩,ah⟩,O (f.o.putPoly (i:=4) rfl hv)⟩
  . obtain rfl:=((EN b) (d 8 J));clear d;refine Zt ?_;exact⟨_,_,_,_,_,_,_,_,_,_,_,_,_,_,rfl,(Hf (EG b)),O (f.o)⟩
 rintro D ai V2 S ⟨tm,ta,tb,tc,td,tl,te,tf,tg,ti,tj,tk,x9,ad,rfl,b,f⟩;obtain⟨B3,rfl,rfl⟩:=b.o.2.2.2.2.2.2.2.2.2.1.2.2 (S 11 DL);obtain⟨B4,rfl,rfl⟩:=b.o.2.2.2.2.2.2.2.2.2.2.1.2.2 (S 12 DL);obtain rfl:=b.o.1 (S 0 DL);obtain rfl:=b.o.2.1 (S 1 DL);obtain rfl:=b.o.2.2.2.1 (S 3 DL);obtain rfl:=EN b (S 8 DL);obtain rfl:=b.o.2.2.2.2.2.2.2.2.2.2.2 (S 13 DL);clear b S M1;have M2:Hid (Mem w V2 [some (w.heap.size,.cell 25 (C T la W)),some (w.heap.size+1,.cell 25 (C M lb N)),some (w.heap.size+1+1,.cell 25 (C none 0 0)),some (B3,.poly (Jt (YT ps qs) qs)),some (B4,.poly (J5 (YT ps qs) qs))]):=f;clear f;obtain⟨a5,l5,c5,n5,r5⟩:=M2.o.poly2 (i:=4) rfl;have ba:=n5.cell;have n1:=(M2.o.cell (i:=2) rfl).1;have Qi:=O M2.o.2.2;have H1:=O (Ql.o V2 _ r5);clear Ql;go_wp2_with(first
  |(go_at_call 56;refine H1.o.mono ?_;clear H1;rintro e w4 ⟨u4,rfl,ay,av⟩)
  |(go_at_call 48;refine(Qf.o _ _ ay).mono ?_;clear Qf;rintro e w5 ⟨u5,rfl,am,_,aw⟩;have g:=Bt av aw;obtain⟨a7,l7,c7,rfl⟩:=am.form;have n5:=boxed_below n1 g;have x0:=n5.cell;have x1:=n5.frozen;have Qq:=O (KD n5 (x:=C a7 l7 c7) am);have Qn:=O ((Bt Qi.o g).setCell (p:=⟨w.heap.size+1+1,0,none⟩) (by show w.heap.size<=w.heap.size+1+1;omega) (C a7 l7 c7));clear am g n5))
 exact BB (v:=I #[C a7 l7 c7]) (by simp[results,Tryz.results57,go_sem,x0]) rfl ⟨_,rfl,Qq.o,Qn.o⟩
def GC(b:Bool)(V:P)(t:R)(c:Rat):Prop:=∃u,t=.tuple #[u,Q true]/\(b=false->Ji V u c)
theorem GC.of(h:IQ V t c):GC b V t c:=by
 obtain⟨u,e,h⟩:=h;exact⟨u,e,λ_=>h⟩
theorem GC.below{b:Bool}{V V':P}{t:R}{c:Rat}(h:GC b V t c)(a:Bl V V'):GC b V' t c:=by
 obtain⟨u,e,h⟩:=h;exact⟨u,e,λe=>(h e).below a⟩
theorem GC.any{a:Bool}{V':P}(h:GC b V t c)(d:a=true):GC a V' t c:=by
 obtain⟨u,e,h⟩:=h;exact⟨u,e,λe=>by rw[d]at e;cases e⟩
theorem QV(v:R)(ps:List Rat)(w:P)(h:Jc w v ps)(av:DY ps)(ay:Jd ps=ps)(aw:∀i,Sq (cf ps i/cf ps (ps.length-1))):
 Calls Tryz.prog 26 #[v] w λe w'=>∃u,e=.returned u/\Jc w' u (Jq ps)/\Bl w w':=by
 have Qq:Tryz.prog.follows .mixedOrders=true:=by kernel_rfl
 obtain⟨k,la,l,rfl⟩:=h.form;obtain⟨bc,az,ba,bf,_⟩:=h.row.forms;have M0:=(((Mem.nil w).push (.cell 25 (C k la l)) (cs:=#[C k la l]) ⟨rfl,rfl⟩).push (.cell 25 (C none 0 0)) (cs:=#[C none 0 0]) ⟨rfl,rfl⟩);simp only[BA]at M0;obtain⟨V0,af⟩:=ex ((w.alloc (G #[C k la l] 25)).alloc (G #[C none 0 0] 25));have M1:Mem w V0 [some (w.heap.size,.cell 25 (C k la l)),some (w.heap.size+1,.cell 25 (C none 0 0))]:=by rw[<-af];exact M0
 have Qh:=O M1;obtain⟨n,hn⟩:=ex (ps.length:Nat);obtain⟨e0,aq⟩:=ex ((n:Int)-1:Int);have Qg:=O (Yb (I #[C k la l]) ps V0 (h.below M1.2.2));rw[hn,aq]at Qg;have bg:e0+1=(n:Int):=Z
 have bh:IntKind.i64.wrap (n:Int)=(n:Int):=by rw[BZ];omega
 have Qs:∀W:P,(Instr.makeSlice 22 (U .i64 (n:Int)) (U .i64 (n:Int))).run Tryz.prog W=.ok (C (some ⟨W.heap.size,0,none⟩) n n) (W.alloc (G (J3 n) 65)):=λW=>QS n Z W;obtain⟨HP,Qi,Qn,HN⟩:=ED (λ(V:P) (hB:Bl w V)=>h.below hB) av aw (show ps.length=n from hn);have Qd:n<=1099511627776:=Z
 have Ql:=O af;have Qw:=O ay;clear h av aw bc az ba hn aq M0 M1 af bf ay;go_enter Tryz.func26,Tryz.ntmps26
 go_upto_region 1 with fail
 rw[Ql.o];have c0:=(Qh.o.cell (i:=0) rfl).1.cell;go_upto_region 2 with(go_at_call 20;refine Qg.o.mono ?_;clear Qg;rintro e w1 ⟨rfl,ap⟩)
 have Qe:Mem w (w1.alloc (G (J3 n) 65)) [some (w.heap.size,.cell 25 (C k la l)),some (w.heap.size+1,.cell 25 (C none 0 0)),some (w1.heap.size,.rats (List.replicate n 0))]:=(Qh.o.below ap).push (.rats (List.replicate n 0)) (I8 _ n);obtain⟨V1,ah⟩:=ex (w1.alloc (G (J3 n) 65));obtain⟨A,ai⟩:=ex (w1.heap.size);rw[ah,ai]at Qe;rw[ah,ai];have Qk:=O Qe;clear Qe ah ai ap c0 Qh Ql Qs;go_wp2;go_loopw [11] (λiv wr=>∃(i:Nat) (S:List Rat),i<=n/\iv=U .i64 (i:Int)/\Hid (Ht (λj=>cf ps j/cf ps (ps.length-1)) n i S)/\Hid (Mem w wr [some (w.heap.size,.cell 25 (C k la l)),some (w.heap.size+1,.cell 25 (C none 0 0)),some (A,.rats S)])) λiv _=>n-(intOf iv).toNat
 case atStart=>exact⟨0,_,AK _,rfl,O ⟨Au,λj=>by rw[JS,BH Z]⟩,Qk⟩
 case round=>
  obtain⟨i,S,hi,rfl,X,HM⟩:=hrel;clear Qk;by_cases ak:i<n
  . have bj:(i:Int)<(n:Int):=Z
    have Qm:=O (show i<S.length by rw[X.o.1];exact ak);have Qj:=O (show i<ps.length by rw[HN.o];exact ak);go_wp2_with fail
    have Qo:=HM.o.drew;obtain⟨m,hm⟩:=ex (ps.length-1:Nat);obtain⟨Qv,Qr,Qt⟩:=Dh (show(ps.length:Int)-1=(m:Int)by have:=Qj.o;omega) hm (show decide (cf ps m≠0)=true by rw[<-hm];exact BK (Jw Qw.o λe=>by have:=Qj.o;rw[e]at this;simp at this));clear hm;refine Jm Qq [[],[],[],[],[2,3],[],[],[6,4],[5,7,7],[4,8,8],[9],[10],[10],[0,1,0,1,2,3,4,5,6,7,8,9,10,11],[13,11,9,0,1,2,3,4,5,6,7,8,9,10,11]] (by kernel_rfl) DL
     (λD ae V=>∃(tb tc td te tf tg ti tj tk tl ta tm tn tp:R),ae={ tmps:=#[I #[C k la l],F (some ⟨w.heap.size,0,none⟩),F (some ⟨w.heap.size+1,0,none⟩),C (some ⟨A,0,none⟩) n n,U .i64 ↑i,I #[C k la l],U .i64 e0,U .i64 ↑n,C (some ⟨A,0,none⟩) n n,C (some ⟨A,0,none⟩) n n,U .i64 ↑n,U .i64 ↑i,Q true,U .i64 ↑i,ta,tb,tc,td,te,tf,tg,ti,tj,tk,tl,tm,tn,tp,u28,E,E],defers:=[] }/\Hid ((D 0=true->tb=C (some ⟨A,0,none⟩) n n)/\(D 1=true->tc=U .i64 (i:Int))/\(D 2=true->td=I #[C k la l])/\(D 3=true->te=U .i64 (i:Int))/\(D 4=true->D 14=false->Ji V tf (cf ps i))/\(D 5=true->tg=I #[C k la l])/\(D 6=true->ti=I #[C k la l])/\(D 7=true->tj=U .i64 (m:Int))/\(D 8=true->D 14=false->Ji V tk (cf ps m))/\(D 9=true->D 14=false->IQ V tl (cf ps i/cf ps m))/\(D 10=true->GC (D 14) V ta (cf ps i/cf ps m))/\(D 11=true->D 14=false->Ji V tm (cf ps i/cf ps m))/\(D 12=true->tn=Q true)/\(D 13=true->tp=F (some ⟨A,i*4,none⟩)))/\Hid ((D 14=false->Mem w V [some (w.heap.size,.cell 25 (C k la l)),some (w.heap.size+1,.cell 25 (C none 0 0)),some (A,.rats S)])/\(D 14=true->Mem w V [some (w.heap.size,.cell 25 (C k la l)),some (w.heap.size+1,.cell 25 (C none 0 0)),some (A,.rats (S.set i (cf ps i/cf ps m)))])))
     (E8 ⟨_,_,_,_,_,_,rfl,O J,O ⟨λ_=>Qo,J⟩⟩) ?step1 ?fin1
    case step1=>
     rintro D ae V i ds z hi c r ⟨tb,tc,td,te,tf,tg,ti,tj,tk,tl,ta,tm,tn,tp,rfl,b,d⟩;have bi:i<15:=(Af.1 hi).1;obtain rfl|rfl|rfl|rfl|rfl|rfl|rfl|rfl|rfl|rfl|rfl|rfl|rfl|rfl|rfl:=Gy i Z
     all_goals
      simp only[Ai,Ah,Ak]at hi;subst hi
     . clear c;refine DQ ?_;exact⟨(Dc b),d⟩
     . clear c;refine DQ ?_;exact⟨(Dg b),d⟩
     . have g:=d.o.1 (DM z r);have e0:=(g.cell (i:=0) rfl).1.cell;clear c;refine DQ ?_;exact⟨(Db b),d⟩
     . clear c;refine DQ ?_;exact⟨(Dd b),d⟩
     . have g:=d.o.1 (DM z r);obtain rfl:=b.o.2.2.1 (c 2 J);obtain rfl:=b.o.2.2.2.1 (c 3 J);clear c;have o:=O (II _ ps (i:Int) V (HP.o V g.2.2));rw[IY]at o;refine Jb rfl rfl λK hK=>?_;go_simp;go_wp2_with(go_at_call 58;refine o.o.mono ?_;rintro e w5 ⟨v5,rfl,ad,a⟩)
       obtain⟨s,t,_,_,_,M,N,G7,G8,G9,x,B,y⟩:=b.o;exact E8 ⟨_,_,_,_,_,_,rfl,O ⟨s,t,λ_=>rfl,λ_=>rfl,λ_ _=>ad,M,N,G7,λh f=>(G8 h f).below a,λh f=>(G9 h f).below a,λh=>(x h).below a,λh f=>(B h f).below a,y⟩,O ⟨λh=>(d.o.1 h).below a,λh=>(d.o.2 h).below a⟩⟩
     . have g:=d.o.1 (DM z r);have e0:=(g.cell (i:=0) rfl).1.cell;clear c;refine DQ ?_;exact⟨(Dt b),d⟩
     . have g:=d.o.1 (DM z r);have e0:=(g.cell (i:=0) rfl).1.cell;clear c;refine DQ ?_;exact⟨(Dw b),d⟩
     . have g:=d.o.1 (DM z r);obtain rfl:=D0 b (c 6 J);clear c;have o:=O (Yb _ ps V (HP.o V g.2.2));rw[Qv.o]at o;refine Jb rfl rfl λK hK=>?_;go_simp;go_wp2_with(go_at_call 20;refine o.o.mono ?_;rintro e w5 ⟨rfl,a⟩)
       obtain⟨s,t,H,L,G4,M,_,_,G8,G9,x,B,y⟩:=b.o;exact E8 ⟨_,_,_,_,_,_,rfl,O ⟨s,t,H,L,λh f=>(G4 h f).below a,M,λ_=>rfl,λ_=>rfl,λh f=>(G8 h f).below a,λh f=>(G9 h f).below a,λh=>(x h).below a,λh f=>(B h f).below a,y⟩,O ⟨λh=>(d.o.1 h).below a,λh=>(d.o.2 h).below a⟩⟩
     . have g:=d.o.1 (DM z r);obtain rfl:=Dq b (c 5 J);obtain rfl:=EE b (c 7 J);clear c;have o:=O (II _ ps (m:Int) V (HP.o V g.2.2));rw[IY]at o;refine Jb rfl rfl λK hK=>?_;go_simp;go_wp2_with(go_at_call 58;refine o.o.mono ?_;rintro e w5 ⟨v5,rfl,ad,a⟩)
       obtain⟨s,t,H,L,G4,_,N,_,_,G9,x,B,y⟩:=b.o;exact E8 ⟨_,_,_,_,_,_,rfl,O ⟨s,t,H,L,λh f=>(G4 h f).below a,λ_=>rfl,N,λ_=>rfl,λ_ _=>ad,λh f=>(G9 h f).below a,λh=>(x h).below a,λh f=>(B h f).below a,y⟩,O ⟨λh=>(d.o.1 h).below a,λh=>(d.o.2 h).below a⟩⟩
     . have Qa:D 14=false:=DM z r;have q:=b.o.2.2.2.2.1 (c 4 J) Qa;have h1:=EN b (c 8 J) Qa;clear c;have o:=O (PN _ _ (cf ps i) (cf ps m) V q h1 (Qi.o.at i) (Qi.o.at m));rw[Qt.o]at o;clear q h1;refine Jb rfl rfl λK hK=>?_;go_simp;go_wp2_with(go_at_call 50;refine o.o.mono ?_;rintro e w5 ⟨v5,rfl,ad,a⟩)
       obtain⟨s,t,H,L,G4,M,N,G7,G8,_,x,B,y⟩:=b.o;exact E8 ⟨_,_,_,_,_,_,rfl,O ⟨s,t,H,L,λh f=>(G4 h f).below a,M,N,G7,λh f=>(G8 h f).below a,λ_ _=>⟨v5,rfl,ad⟩,λh=>(x h).below a,λh f=>(B h f).below a,y⟩,O ⟨λh=>(d.o.1 h).below a,λh=>(d.o.2 h).below a⟩⟩
     . have Qa:D 14=false:=DM z r;have q:=FS b (c 9 J) Qa;clear c;refine DQ ?_;exact⟨(Dz b λ_=>GC.of q),d⟩
     . have Qa:D 14=false:=DM z r;have q:=EI b (c 10 J);obtain⟨v7,rfl,h7⟩:=q;clear c;refine DQ ?_;exact⟨(D4 b λ_ _=>h7 Qa),d⟩
     . have q:=EI b (c 10 J);obtain⟨v7,rfl,h7⟩:=q;clear c;refine DQ ?_;exact⟨(D7 b),d⟩
     . obtain rfl:=b.o.1 (c 0 J);obtain rfl:=b.o.2.1 (c 1 J);clear c;refine DQ ?_;exact⟨(Ip (Dg (Dc b))),d⟩
     . have g:=d.o.1 r;have q:=EZ b (c 11 J) r;obtain rfl:=b.o.2.2.2.2.2.2.2.2.2.2.2.2.2 (c 13 J);have hE:=g.rats (i:=2) rfl;obtain⟨xa,xb,xc,xd,e0,e1,e2,e3,_⟩:=hE.at Qm.o;have f0:=hE.frozen (i*4);have f1:=hE.frozen (i*4+1);have f2:=hE.frozen (i*4+2);have f3:=hE.frozen (i*4+3);obtain⟨s9,a9,l9,c9,t9,b9,k9,d9,rfl⟩:=Ji.form q;clear c;refine DQ ?_;obtain⟨s,t,H,L,_,M,N,G7,_,_,x,_,y,_⟩:=b.o;exact⟨O ⟨s,t,H,L,λ_ h=>by simp at h,M,N,G7,λ_ h=>by simp at h,λ_ h=>by simp at h,λh=>GC.any (x h) J,λ_ h=>by simp at h,y,λ_=>rfl⟩,O ⟨λh=>by simp at h,λ_=>g.putRats (i:=2) rfl Qm.o q⟩⟩
    case fin1=>
     rintro D ae V an ⟨tb,tc,td,te,tf,tg,ti,tj,tk,tl,ta,tm,tn,tp,rfl,b,d⟩;have HO:=O (d.o.2 (an 14 DL));clear b d an;rw[<-Qr.o]at HO;go_wp2_with fail
     go_roundw
     case rel=>exact⟨i+1,_,Z,by go_num,O (X.o.next ak),HO⟩
     case measure=>simp[intOf];omega
  . obtain rfl:i=n:=Z
    have hE:=HM.o.rats (i:=2) rfl;have Qc:=hE.row (n:=i) (cap:=i) (by rw[X.o.1];exact Aa _) (Aa _) Z Qd;rw[Ag (by rw[X.o.1];exact Aa _)]at Qc;have Qf:=O (Pf _ S wr Qc (DY.of λj=>by
     rw[X.o.2 j];split
     . exact Qn.o j
     . exact Hq))
    rw[X.o.done (T:=Jq ps) (JP _ _) (λj hj=>by unfold Jq;rw[Yi,Ft,FL,<-Ft]) λj hj=>by unfold Jq;rw[Yi,J6 (by rw[HN.o];exact hj),Cx]]at Qf;clear hE Qc;go_wp2_with(go_at_call 59;refine Qf.o.mono ?_;clear Qf;rintro e w5 ⟨u5,rfl,am,_,a⟩;obtain⟨a7,l7,c7,rfl⟩:=am.form;have n5:=boxed_below (HM.o.cell (i:=1) rfl).1 a;have x0:=n5.cell;have x1:=n5.frozen;have Qu:=O (Ea n5 (C a7 l7 c7) am.row);have Qp:=O ((Bt HM.o.2.2 a).setCell (p:=⟨w.heap.size+1,0,none⟩) (by show w.heap.size<=w.heap.size+1;omega) (C a7 l7 c7));clear am a n5)
    exact BB (v:=I #[C a7 l7 c7]) (by simp[results,Tryz.results26,go_sem,x0]) rfl ⟨_,rfl,⟨_,rfl,Qu.o⟩,Qp.o⟩
end M3
section
def Gg:Nat->List Rat->List Rat->List (List Rat)
 |0,a,_=>[a]
 |n+1,a,b=>if b=[]then [a]else a::Gg n b (ER a b)
theorem aT:∀(n m:Nat) (a b:List Rat),Jd b=b->b.length<=n->b.length<=m->Gg n a b=Gg m a b:=by
 intro n;induction n with
 |zero=>
  intro m a b _ h _;have d:b=[]:=LE Z;subst d;cases m with
  |zero=>rfl
  |succ m=>simp[Gg]
 |succ n e=>
  intro m a b tb h f;by_cases c:b=[]
  . subst c;cases m with
    |zero=>simp[Gg]
    |succ m=>simp[Gg]
  . have hl:0<b.length:=Aj.2 c;cases m with
    |zero=>omega
    |succ m=>
     have g:=LN (a:=a) tb c;simp only[Gg,BH c];rw[e m b (ER a b) (LM _ _) Z Z]
def IZ(a b:List Rat):List (List Rat):=Gg b.length a b
theorem aU{a b:List Rat}(tb:Jd b=b)(c:b≠[]):IZ a b=a::IZ b (ER a b):=by
 have e:=LN (a:=a) tb c;have hl:0<b.length:=Aj.2 c;unfold IZ;obtain⟨n,d⟩:∃n,b.length=n+1:=⟨b.length-1,Z⟩;rw[d,Gg,BH c];congr 1;exact aT _ _ _ _ (LM _ _) Z (Aa _)
def KE(p q:List Rat):List (List Rat):=IZ (J1 p) (J1 q)
open Go.RowKit Go.Shelf
theorem Jc.setB{V:P}{v:R}{ps:List Rat}(h:Jc V v ps){B:Nat}{a:Option Addr}{l c:Nat}(b:Boxed V B 25 (C a l c)){u:R}:Jc (V.setCell ⟨B,0,none⟩ u) v ps:=M3.KD b h
end
namespace M3
open Go.RowKit Go.Shelf
attribute [local go_sem] Oper.semAt_some
def Di(V:P)(B:Nat)(a:Option Addr)(l c:Nat):Prop:=Boxed V B 25 (C a l c)
section
variable {V V':World} {B B':Nat} {a a':Option Addr} {l c l' c':Nat}
theorem Di.cell(h:Di V B a l c):V.cell? ⟨B,0,none⟩=some (C a l c):=Boxed.cell h
theorem Di.frozen(h:Di V B a l c):V.frozen? ⟨B,0,none⟩=false:=Boxed.frozen h
theorem Di.below(h:Di V B a l c)(b:Bl V V'):Di V' B a l c:=boxed_below h b
theorem Di.far(h:Di V B a l c)(b:B≠B'){u:R}:Di (V.setCell ⟨B',0,none⟩ u) B a l c:=Bx.far (cs:=#[C a l c]) h (p:=⟨B',0,none⟩) b u
theorem Di.put(h:Di V B a l c):Di (V.setCell ⟨B,0,none⟩ (C a' l' c')) B a' l' c':=(show Boxed V B 25 (C a l c)from h).set _
end
def GB(G:List (List Rat)->P->Prop):Prop:=∀H W W',G H W->Bl W W'->G H W'
def GS(n0:Nat)(G:List (List Rat)->P->Prop):Prop:=∀H W B a l c u,n0<=B->Di W B a l c->G H W->G H (W.setCell ⟨B,0,none⟩ u)
def GD(n0:Nat)(G:List (List Rat)->P->Prop)(H:List (List Rat))(V:P)(v4 v5:R)(p q:List Rat):Prop:=(GB G/\GS n0 G)/\G H V/\Jc V v4 p/\Jc V v5 q
section
variable {n0:Nat} {G:List (List Rat)->World->Prop} {H:List (List Rat)} {V V':World} {v4 v5:Value} {p q:List Rat}
theorem GD.below(h:GD n0 G H V v4 v5 p q)(a:Bl V V'):GD n0 G H V' v4 v5 p q:=⟨h.1,h.1.1 _ _ _ h.2.1 a,h.2.2.1.below a,h.2.2.2.below a⟩
theorem GD.put(h:GD n0 G H V v4 v5 p q){B:Nat}(d:n0<=B){a:Option Addr}{l c:Nat}(b:Di V B a l c){u:R}:GD n0 G H (V.setCell ⟨B,0,none⟩ u) v4 v5 p q:=⟨h.1,h.1.2 _ _ _ _ _ _ _ d b h.2.1,h.2.2.1.setB b,h.2.2.2.setB b⟩
end
def LO(V:P)(B:Nat)(r:List Rat):Prop:=∃a l c,Di V B a l c/\Jc V (I #[C a l c]) r
theorem LO.below{V V':P}{B:Nat}{r:List Rat}(h:LO V B r)(b:Bl V V'):LO V' B r:=by
 obtain⟨a,l,c,d,e⟩:=h;exact⟨a,l,c,d.below b,e.below b⟩
def KF(V:P)(B:Nat):Nat:=match V.cell? ⟨B,0,none⟩with|some (C _ l _)=>l|_=>0
variable{p q:List Rat}{K c l:Nat}{a:Option Addr}{V:P}
theorem Di.len{B:Nat}(h:Di V B a l c):KF V B=l:=by
 unfold KF;rw[h.cell]
theorem QW{ps:List Rat}(h:Jc V (I #[C a l c]) ps):l=ps.length:=h.row.forms.1
def aV(n0 n l:Nat)(G:List (List Rat)->P->Prop):Prop:=∀H W c d a b c4 f g c5 p q,n0<=c->n0<=d->c<W.heap.size->d<W.heap.size->G H W->Di W c a b c4->Di W d f g c5->Jc W (I #[C a b c4]) p->Jc W (I #[C f g c5]) q->
 YieldAt Fence.wide (n-1) Tryz.prog l #[I #[C a b c4]] W λe W'=>e=.returned (Q true)/\G (H++[p]) W'/\Di W' c a b c4/\Di W' d f g c5/\Jc W' (I #[C a b c4]) p/\Jc W' (I #[C f g c5]) q
structure ChOk(K:Nat)(p q:List Rat):Prop where
 tp:Jd p=p
 tq:Jd q=q
 cp:∃D:Int,D≠0/\Sm K D/\D9 D K p
 cq:∃D:Int,D≠0/\Sm K D/\D9 D K q
 le:4*((max p.length q.length+2)*(Dm K p q+1))<=1000000
 ln:max p.length q.length<=1000
theorem ChOk.lp(h:ChOk K p q):Ln K p:=by obtain⟨D,a,_,b⟩:=h.cp;exact b.ln a
theorem ChOk.lq(h:ChOk K p q):Ln K q:=by obtain⟨D,a,_,b⟩:=h.cq;exact b.ln a
theorem ChOk.bd(h:ChOk K p q):Dm K p q<=1000000/\K<=1000000/\p.length+q.length<=1000000/\1<=Dm K p q:=by
 have a:=h.le;have b:=KB K p q;have c:1*(Dm K p q+1)<=(max p.length q.length+2)*(Dm K p q+1):=Am _ Z;have d:(max p.length q.length+2)*1<=(max p.length q.length+2)*(Dm K p q+1):=As _ Z;omega
theorem aW(K n:Nat)(hn:1<=n)(Bp Bq:Nat)(pa qa:Option Addr)(pl pc ql qc:Nat)(p q:List Rat)(k:ChOk K p q)(l n0:Nat)(G:List (List Rat)->P->Prop)(w:P)(ba:n0<=w.heap.size)(ay:Di w Bp pa pl pc)(az:Di w Bq qa ql qc)(ip:Jc w (I #[C pa pl pc]) p)(iq:Jc w (I #[C qa ql qc]) q)
(an:GB G)(av:GS n0 G)(hY:aV n0 n l G)(h0:G [] w):
 CallsIn Fence.wide n Tryz.prog 55 (#[.func (.yield l) #[] #[]]++#[F (some ⟨Bp,0,none⟩),F (some ⟨Bq,0,none⟩)]) w λe W'=>(∃v,e=.returned v)/\∃H a,G (H++[a]) W'/\KE p q=H++[a]/\Chn p q (Dm K p q) a []:=by
 have Qp:Tryz.prog.follows .mixedOrders=true:=by kernel_rfl
 have Qu:=O λ(V:P) (hB:Bl w V)=>(ay.below hB).cell;have Qo:=O λ(V:P) (hB:Bl w V)=>(az.below hB).cell;have Qs:=O (λ(V:P) (hB:Bl w V)=>show Calls Tryz.prog 56 #[I #[C pa pl pc]] V λe w'=>∃u,e=.returned u/\Jc w' u (J1 p)/\Bl V w' by
  obtain⟨D,h1,h2,h3⟩:=k.cp;exact NF D K _ p V (ip.below hB) k.tp h1 h2 h3 k.bd.2.1)
 have Qn:=O (λ(V:P) (hB:Bl w V)=>show Calls Tryz.prog 56 #[I #[C qa ql qc]] V λe w'=>∃u,e=.returned u/\Jc w' u (J1 q)/\Bl V w' by
  obtain⟨D,h1,h2,h3⟩:=k.cq;exact NF D K _ q V (iq.below hB) k.tq h1 h2 h3 k.bd.2.1)
 obtain⟨Qt,Qv,Qw⟩:=Dh (λ(V:P) (hB:Bl w V)=>an [] w V h0 hB) (Chn.start k.tp k.tq k.lp k.lq k.bd.2.2.1) λ(a b:List Rat) (h:Chn p q (Dm K p q) a b) (hb:b≠[])=>Chn.next k.tp k.tq k.lp k.lq k.bd.2.2.1 h hb;have Uf:=O (λ(V:P) (x y:R) (a b:List Rat) (hx:Jc V x a) (hy:Jc V y b) (h:Chn p q (Dm K p q) a b) (hb:b≠[])=>aS (Dm K p q) x y a b V hx hy h.wa h.wb h.ta h.tb hb k.bd.2.2.2 (by
  have h1:=h.la;have h2:(a.length+2)*(Dm K p q+1)<=(max p.length q.length+2)*(Dm K p q+1):=Am _ Z;have h3:=k.le;omega) (h.nx hb))
 obtain⟨Qj,Ug,Qm⟩:=Dh (show GB G/\GS n0 G from⟨an,av⟩) hY ba;have M1:Hid (Mem w w []):=O (Mem.nil w);clear k ay az ip iq an av hY h0 ba;refine Bs Tryz.func55 rfl trivial ?_ rfl;simp only[Tryz.ntmps55,Ar,Ao,AF,Nat.reduceAdd,Nat.reduceSub,AA,AB,AR,AH,At,AE];gi_wp2_with fail
 refine J0 Qp [[],[0],[],[2,1],[],[],[4,1,3,0,1,4,5],[5,3,6,0,1,2,3,4,5,6]] (by kernel_rfl) DL
  (λD af V=>∃(tj tk tl tm tg ti:R) (t g:Option (Nat × Dat)),af={ tmps:=#[.func (Fn.yield l) #[] #[],F (some ⟨Bp,0,none⟩),F (some ⟨Bq,0,none⟩),E,tg,ti,tj,tk,tl,tm,E,E,E,E,E,E,E,E,E,E,E,E],defers:=[] }/\Hid ((D 0=true->tj=I #[C pa pl pc])/\(D 1=true->Has V tk (.poly (J1 p)))/\(D 2=true->tl=I #[C qa ql qc])/\(D 3=true->Has V tm (.poly (J1 q)))/\((D 4=false->t=none)/\(D 4=true->D 6=false->∃B:Nat,tg=F (some ⟨B,0,none⟩)/\t=some (B,.poly []))/\(D 6=true->∃B:Nat,tg=F (some ⟨B,0,none⟩)/\t=some (B,.poly (J1 p))))/\((D 5=false->g=none)/\(D 5=true->D 7=false->∃B:Nat,ti=F (some ⟨B,0,none⟩)/\g=some (B,.poly []))/\(D 7=true->∃B:Nat,ti=F (some ⟨B,0,none⟩)/\g=some (B,.poly (J1 q)))))/\Hid (Mem w V [t,g]))
  ⟨_,_,_,_,_,_,none,none,rfl,O ⟨J,J,J,J,J,J⟩,O (((M1.o).none).none).drew⟩ ?step1 ?fin1
 case step1=>
  rintro D af V i ds M hi f j ⟨tj,tk,tl,tm,tg,ti,t,g,rfl,d,s⟩;have Uc:i<8:=(Af.1 hi).1;obtain rfl|rfl|rfl|rfl|rfl|rfl|rfl|rfl:=KP i Z
  all_goals
   simp only[Ai,Ah,Ak]at hi;subst hi
  . have e0:=Qu.o V s.o.2.2;clear f;refine Zu ?_;exact⟨_,_,_,_,_,_,_,_,rfl,(Dc d),O (s.o)⟩
  . obtain rfl:=(d.o.1 (f 0 J));have T:=O λ(n9:Nat)=>(BG (n:=n9)).2 (Qs.o V s.o.2.2);clear f;refine BO rfl λK hK=>?_;go_simp;gi_wp2_with(refine⟨trivial,?_⟩;gi_at_call 56;refine(T.o _).mono ?_;rintro e w5 ⟨v5,rfl,ai,W⟩)
    obtain⟨_,_,G2,G3,G4⟩:=d.o;exact⟨_,_,_,_,_,_,_,_,rfl,O ⟨λ_=>rfl,λ_=>ai,G2,λh=>(G3 h).below W,G4⟩,O (s.o.below W)⟩
  . have e0:=Qo.o V s.o.2.2;clear f;refine Zu ?_;exact⟨_,_,_,_,_,_,_,_,rfl,(Db d),O (s.o)⟩
  . obtain rfl:=(d.o.2.2.1 (f 2 J));have T:=O λ(n9:Nat)=>(BG (n:=n9)).2 (Qn.o V s.o.2.2);clear f;refine BO rfl λK hK=>?_;go_simp;gi_wp2_with(refine⟨trivial,?_⟩;gi_at_call 56;refine(T.o _).mono ?_;rintro e w5 ⟨v5,rfl,ai,W⟩)
    obtain⟨G0,G1,_,_,G4⟩:=d.o;exact⟨_,_,_,_,_,_,_,_,rfl,O ⟨G0,λh=>(G1 h).below W,λ_=>rfl,λ_=>ai,G4⟩,O (s.o.below W)⟩
  . have hf:D 6=false:=DM M j;obtain rfl:=d.o.2.2.2.2.1.1 j;clear f;refine Zu ?_;obtain⟨G0,G1,G2,G3,_,G5⟩:=d.o;exact⟨_,_,_,_,_,_,_,_,rfl,O ⟨G0,λh=>(G1 h).alloc _,G2,λh=>(G3 h).alloc _,⟨λh=>by simp at h,λ_ _=>⟨_,rfl,rfl⟩,λh=>by simp[hf]at h⟩,G5⟩,O (s.o.fill (i:=0) rfl (.poly []) (FW _))⟩
  . have hf:D 7=false:=DM M j;obtain rfl:=Dq d j;clear f;refine Zu ?_;obtain⟨G0,G1,G2,G3,G4,_⟩:=d.o;exact⟨_,_,_,_,_,_,_,_,rfl,O ⟨G0,λh=>(G1 h).alloc _,G2,λh=>(G3 h).alloc _,G4,⟨λh=>by simp at h,λ_ _=>⟨_,rfl,rfl⟩,λh=>by simp[hf]at h⟩⟩,O (s.o.fill (i:=1) rfl (.poly []) (FW _))⟩
  . obtain⟨B,rfl,rfl⟩:=d.o.2.2.2.2.1.2.1 (f 4 J) j;have Qd:=f 4 J;have hv:=(d.o.2.1 (f 1 J));obtain⟨a1,l1,c1,rfl⟩:=Jc.form (show Jc V _ _ from hv);obtain⟨a,l,c,n,r⟩:=s.o.poly2 (i:=0) rfl;have e0:=n.cell;have f0:=n.frozen;clear f;refine Zu ?_;obtain⟨G0,G1,G2,G3,_,G5⟩:=d.o;exact⟨_,_,_,_,_,_,_,_,rfl,O ⟨G0,λh=>(G1 h).set1 n rfl _,G2,λh=>(G3 h).set1 n rfl _,⟨λh=>by simp[Qd]at h,λ_ h=>by simp at h,λ_=>⟨B,rfl,rfl⟩⟩,G5⟩,O (s.o.putPoly (i:=0) rfl hv)⟩
  . obtain⟨B,rfl,rfl⟩:=D0 d (f 5 J) j;have Qd:=f 5 J;have hv:=(d.o.2.2.2.1 (f 3 J));obtain⟨a1,l1,c1,rfl⟩:=Jc.form (show Jc V _ _ from hv);obtain⟨a,l,c,n,r⟩:=s.o.poly2 (i:=1) rfl;have e0:=n.cell;have f0:=n.frozen;clear f;refine Zu ?_;obtain⟨G0,G1,G2,G3,G4,_⟩:=d.o;exact⟨_,_,_,_,_,_,_,_,rfl,O ⟨G0,λh=>(G1 h).set1 n rfl _,G2,λh=>(G3 h).set1 n rfl _,G4,⟨λh=>by simp[Qd]at h,λ_ h=>by simp at h,λ_=>⟨B,rfl,rfl⟩⟩⟩,O (s.o.putPoly (i:=1) rfl hv)⟩
 rintro D af V2 ad ⟨tj,tk,tl,tm,tg,ti,t,g,rfl,d,s⟩;obtain⟨B3,rfl,rfl⟩:=d.o.2.2.2.2.1.2.2 (ad 6 DL);obtain⟨N,rfl,rfl⟩:=d.o.2.2.2.2.2.2.2 (ad 7 DL);obtain rfl:=d.o.1 (ad 0 DL);obtain rfl:=d.o.2.2.1 (ad 2 DL);clear d ad M1;have M2:Hid (Mem w V2 [some (B3,.poly (J1 p)),some (N,.poly (J1 q))]):=s;clear s;obtain⟨a5,A,c5,n5,r5⟩:=M2.o.poly2 (i:=0) rfl;obtain⟨a6,l6,c6,n6,r6⟩:=M2.o.poly2 (i:=1) rfl;have Qg:=O (show B3≠N/\n0<=B3/\n0<=N from⟨M2.o.ne 0 1 rfl rfl DL,Aw Qm.o (M2.o.ge 0 rfl),Aw Qm.o (M2.o.ge 1 rfl)⟩);have Ql:Hid (GD n0 G [] V2 (I #[C a5 A c5]) (I #[C a6 l6 c6]) (J1 p) (J1 q)):=O ⟨Qj.o,Qt.o V2 M2.o.2.2,r5,r6⟩;have N4:Hid (Di V2 B3 a5 A c5):=O n5;have N5:Hid (Di V2 N a6 l6 c6):=O n6;clear n5 n6 r5 r6 M2 Qs Qn Qt Qu Qo;gi_wp2;gi_loopw [] (λwr=>∃(H:List (List Rat)) (a b:List Rat) (t g:Option Addr) (l4 c4 A c5:Nat),Hid (GD n0 G H wr (I #[C t l4 c4]) (I #[C g A c5]) a b)/\Hid (Di wr B3 t l4 c4)/\Hid (Di wr N g A c5)/\Hid (Chn p q (Dm K p q) a b)/\Hid (KE p q=H++IZ a b)) λwr=>KF wr N
 case atStart=>exact⟨[],_,_,_,_,_,_,_,_,Ql,N4,N5,Qv,O rfl⟩
 case round=>
  clear Ql N4 N5 Qv;obtain⟨H,a,b,t,g,l4,c4,A,c5,HG,H4,H5,T,HH⟩:=hrel;obtain⟨fn,tmps,assign,body,hy,aw⟩:=Ug.o H wr B3 N t l4 c4 g A c5 a b Qg.o.2.1 Qg.o.2.2 (Bx.lt (cs:=#[C t l4 c4]) H4.o) (Bx.lt (cs:=#[C g A c5]) H5.o) HG.o.2.1 H4.o H5.o HG.o.2.2.1 HG.o.2.2.2;have e4:=H4.o.cell;gi_wp2;refine aw.mono ?_;rintro e W3 ⟨rfl,aq,ap,am,bc,ak⟩;have Qr:Hid (GD n0 G (H++[a]) W3 (I #[C t l4 c4]) (I #[C g A c5]) a b):=O ⟨Qj.o,aq,bc,ak⟩;obtain⟨Um,Uj,Qh⟩:=Dh (QW ak) (H5.o.len) (Yb _ b W3 ak);have e5:=am.cell;have Ui:=O ap;have Ul:=O am;clear hy aw e4 aq ap am bc ak HG H4 H5;by_cases ae:b=[]
  . have HE:=O (show KE p q=H++[a]by rw[HH.o,ae];rfl);have Ue:=O (show Chn p q (Dm K p q) a []by have:=T.o;rwa[ae]at this);rw[ae,show((([]:List Rat).length:Int)-1)=-1 from rfl]at Qh;gi_wp2_with(refine⟨trivial,?_⟩;gi_at_call 20;refine((BG (n:=_)).2 Qh.o).mono ?_;clear Qh;rintro e w4 ⟨rfl,ah⟩)
    go_end0;exact⟨⟨_,rfl⟩,H,a,(Qr.o.below ah).2.1,HE.o,Ue.o⟩
  . obtain⟨m,hm⟩:=ex (b.length-1:Nat);have Qq:(b.length:Int)-1=(m:Int):=by have:=Aj.2 ae;omega
    rw[Qq]at Qh;obtain⟨Ud,Uh,Qx,Qi⟩:=ED (Qw.o a b T.o ae) (LN (a:=a) T.o.tb ae) (show KE p q=(H++[a])++IZ b (ER a b)by rw[HH.o,aU T.o.tb ae,CN];rfl) λ(V:P) (x y:R) (hx:Jc V x a) (hy:Jc V y b)=>Uf.o V x y a b hx hy T.o ae;have bf:¬(m:Int)<0:=Z
    clear hm Qq ae;gi_wp2_with(refine⟨trivial,?_⟩;gi_at_call 20;refine((BG (n:=_)).2 Qh.o).mono ?_;clear Qh;rintro e w4 ⟨rfl,ah⟩)
    have Qz:=(Qr.o.below ah).below ((BE _ w4).drew);have Uk:=(Ui.o.below ah).below ((BE _ w4).drew);have Ua:=(Ul.o.below ah).below ((BE _ w4).drew);refine J0 Qp [[],[],[],[1,2],[0,3,0,1],[3,4,0,1,2,3,4]] (by kernel_rfl) DL
     (λD af V=>∃(tc td te tf:R),af={ tmps:=#[.func (Fn.yield l) #[] #[],F (some ⟨Bp,0,none⟩),F (some ⟨Bq,0,none⟩),E,F (some ⟨B3,0,none⟩),F (some ⟨N,0,none⟩),I #[C pa pl pc],tk,I #[C qa ql qc],tm,.func (Fn.yield l) #[] #[],I #[C t l4 c4],Q true,Q true,I #[C g A c5],U .i64 ↑m,Q true,Q true,tc,td,te,tf],defers:=[] }/\Hid ((D 0=true->tc=I #[C g A c5])/\(D 1=true->td=I #[C t l4 c4])/\(D 2=true->te=I #[C g A c5])/\(D 3=true->D 5=false->Jc V tf (ER a b)))/\Hid (GD n0 G (H++[a]) V (I #[C t l4 c4]) (I #[C g A c5]) a b)/\Hid ((D 4=false->Di V B3 t l4 c4)/\(D 4=true->Di V B3 g A c5))/\Hid ((D 5=false->Di V N g A c5)/\(D 5=true->LO V N (ER a b))))
     ⟨_,_,_,_,rfl,O ⟨J,J,J,J⟩,O Qz,O ⟨λ_=>Uk,J⟩,O ⟨λ_=>Ua,J⟩⟩ ?step7 ?fin7
    case step7=>
     rintro D af V i ds M hi f j ⟨tc,td,te,tf,rfl,d,z,L,o⟩;have Uc:i<6:=(Af.1 hi).1;obtain rfl|rfl|rfl|rfl|rfl|rfl:=Ic i Z
     all_goals
      simp only[Ai,Ah,Ak]at hi;subst hi
     . have Qe:=z.o;have X:=L.o.1 (DM M j);have S:=o.o.1 (DM M j);have e0:=S.cell;clear f;refine Zu ?_;exact⟨_,_,_,_,rfl,O ⟨λ_=>rfl,d.o.2.1,d.o.2.2.1,d.o.2.2.2⟩,O (z.o),L,O ⟨o.o.1,o.o.2⟩⟩
     . have Qe:=z.o;have X:=L.o.1 (DM M j);have S:=o.o.1 (DM M j);have e0:=X.cell;clear f;refine Zu ?_;exact⟨_,_,_,_,rfl,O ⟨d.o.1,λ_=>rfl,d.o.2.2.1,d.o.2.2.2⟩,O (z.o),L,O ⟨o.o.1,o.o.2⟩⟩
     . have Qe:=z.o;have Qf:D 4=false:=DM M (DM (a:=3) M j);have X:=L.o.1 Qf;have S:=o.o.1 (DM M j);have e0:=S.cell;clear f;refine Zu ?_;exact⟨_,_,_,_,rfl,O ⟨d.o.1,d.o.2.1,λ_=>rfl,d.o.2.2.2⟩,O (z.o),L,O ⟨o.o.1,o.o.2⟩⟩
     . have Qe:=z.o;have X:=L.o.1 (DM M j);have S:=o.o.1 (DM M j);obtain rfl:=d.o.2.1 (f 1 J);obtain rfl:=d.o.2.2.1 (f 2 J);clear f;have T:=O λ(n9:Nat)=>(BG (n:=n9)).2 (Qi.o V _ _ Qe.2.2.1 Qe.2.2.2);refine BO rfl λK hK=>?_;go_simp;gi_wp2_with(refine⟨trivial,?_⟩;gi_at_call 57;refine(T.o _).mono ?_;rintro e w5 ⟨v5,rfl,ai,W⟩)
       exact⟨_,_,_,_,rfl,O ⟨d.o.1,λ_=>rfl,λ_=>rfl,λ_ _=>ai⟩,O (z.o.below W),O ⟨λh=>(L.o.1 h).below W,λh=>(L.o.2 h).below W⟩,O ⟨λh=>(o.o.1 h).below W,λh=>(o.o.2 h).below W⟩⟩
     . have Qe:=z.o;have X:=L.o.1 j;have Qc:D 5=false:=DM M j;have S:=o.o.1 Qc;obtain rfl:=d.o.1 (f 0 J);have e0:=X.cell;have f0:=X.frozen;clear f;refine Zu ?_;exact⟨_,_,_,_,rfl,O ⟨λ_=>rfl,d.o.2.1,d.o.2.2.1,λh h2=>(d.o.2.2.2 h h2).setB X⟩,O (z.o.put Qg.o.2.1 X),O ⟨λh=>by simp at h,λ_=>X.put⟩,O ⟨λh=>(o.o.1 h).far λe=>Qg.o.1 e.symm,λh=>by simp[Qc]at h⟩⟩
     . have Qe:=z.o;have S:=o.o.1 j;have h0:=d.o.2.2.2 (f 3 J) j;have Qk:=f 4 J;have e0:=S.cell;have f0:=S.frozen;obtain⟨x7,l7,c7,rfl⟩:=Jc.form h0;clear f;refine Zu ?_;exact⟨_,_,_,_,rfl,O ⟨d.o.1,d.o.2.1,d.o.2.2.1,λ_ h=>by simp at h⟩,O (z.o.put Qg.o.2.2 S),O ⟨λh=>by simp[Qk]at h,λh=>(L.o.2 h).far Qg.o.1⟩,O ⟨λh=>by simp at h,λ_=>⟨x7,l7,c7,S.put,h0.setB S⟩⟩⟩
    case fin7=>
     rintro D af V ad ⟨tc,td,te,tf,rfl,d,z,L,o⟩;obtain⟨x7,l7,c7,n7,i7⟩:=o.o.2 (ad 5 DL);have n6:=L.o.2 (ad 4 DL);have Ub:Hid (GD n0 G (H++[a]) V (I #[C g A c5]) (I #[C x7 l7 c7]) b (ER a b)):=O ⟨Qj.o,z.o.2.1,z.o.2.2.2,i7⟩;obtain⟨Qy,N6,N7⟩:=Dh (show KF V N<KF wr N by rw[n7.len,Uj.o,QW i7,Um.o];exact Uh.o) n6 n7;clear d z L o ad n6 n7 i7;gi_wp2;go_roundw
     case rel=>exact⟨H++[a],b,ER a b,_,_,_,_,_,_,Ub,N6,N7,Ud,Qx⟩
     case measure=>exact Qy.o
