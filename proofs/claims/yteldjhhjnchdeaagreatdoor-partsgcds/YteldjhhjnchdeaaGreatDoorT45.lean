import Derived.Test.YteldjhhjnchdeaaGreatDoorT44
open Go.Value renaming slice->C,pointer->F,agg->I,bool->O,int->Q
open Go renaming undef->E,World->J,Value->P
open Go.Obj renaming cells->G
set_option maxRecDepth 100000
set_option maxHeartbeats 16000000
namespace Go.Proofs.YteldjhhjnchdeaaGreatDoor.M3
open Go.RowKit Go.Shelf
attribute [local go_sem] Oper.semAt_some
variable{b:Bool}{ps qs:List Rat}{c:Rat}{t:P}{V:J}
theorem eI(p:List Rat)(n:Nat):((Int.gcd ((YY p n:Nat):Int) (cf p n).num:Nat):Int)=((YY p (n+1):Nat):Int):=rfl
theorem eJ(p:List Rat)(n:Nat):((Nat.lcm (Xc p n) (cf p n).den:Nat):Int)=((Xc p (n+1):Nat):Int):=rfl
theorem Ok(D:Int)(M:Nat)(v:P)(ps:List Rat)(w:J)(h:Jg w v ps)(aj:Jd ps=ps)(hD:D≠0)(ae:Sm M D)(ai:EH D M ps)(hM:M<=1000000):
 Calls Tryz.prog 56 #[v] w λe w'=>∃u,e=.returned u/\Jg w' u (YS ps)/\Bl w w':=by
 have Qf:Tryz.prog.follows .mixedOrders=true:=by kernel_rfl
 obtain⟨k,la,m,rfl⟩:=h.form;obtain⟨bi,bf,bg,bh,_⟩:=h.row.forms;have Qa:∀i,Df M (cf ps i):=λi=>(ai i).smq hD ae;obtain⟨HG,HL,Qb⟩:=Dm (λi=>Da.of (Se (λj=>(Qa j).1) i) om:∀i,Da ((YY ps i:Nat):Int)) (λi=>Da.of (Sd hD ae ai i) om:∀i,Da ((Xc ps i:Nat):Int)) (show Db ps from Db.of λi=>Sq.of (Qa i) hM);have HF:=Ja (show ps≠[]->Sq ((Xc ps ps.length:Rat)/(YY ps ps.length:Rat))/\∀i,Sq (cf ps i*((Xc ps ps.length:Rat)/(YY ps ps.length:Rat)))from λo=>by
  have W:=Sf aj o (ai.ln hD);refine⟨?_,λi=>?_⟩
  . have h2:((Xc ps ps.length:Rat)/(YY ps ps.length:Rat))=Rat.divInt ((Xc ps ps.length:Nat):Int) ((YY ps ps.length:Nat):Int):=by rw[C6,Cu,Cu]
    rw[h2];exact Sq.of (Df.divInt (Int.natCast_ne_zero.2 (Mi aj o)) (Sd hD ae ai _) (Se (λj=>(Qa j).1) _)) hM
  . obtain⟨z,h3,h4⟩:=W i;have h5:cf ps i*((Xc ps ps.length:Rat)/(YY ps ps.length:Rat))=(z:Rat):=by rw[<-h4];unfold YS;rw[Y2]
    rw[h5];have h6:1<=M:=by
     by_cases h7:1<=M
     . exact h7
     . exfalso
       obtain rfl:M=0:=om
       unfold Sm at ae;have:D.natAbs≠0:=Int.natAbs_ne_zero.2 hD;simp at ae;omega
    exact Sq.of ((Mh (D:=1) DS h3 (by rw[show((1:Int):Rat)=1 from rfl,Rat.mul_one])).smq DS (Sm.one M h6)) hM)
 have Qm:=Ja (λo=>Mi aj o:ps≠[]->YY ps ps.length≠0);have M0:=(((Mem.nil w).push (.cell 25 (C k la m)) (cs:=#[C k la m]) ⟨rfl,rfl⟩).push (.cell 25 (C none 0 0)) (cs:=#[C none 0 0]) ⟨rfl,rfl⟩).push (.int 0) (cs:=#[O false,C none 0 0]) (EP _);simp only[A1]at M0;obtain⟨W0,aw⟩:=ex (((w.alloc (G #[C k la m] 25)).alloc (G #[C none 0 0] 25)).alloc (G #[O false,C none 0 0] 63));have Qe:=Ja aw;have M1:Hid (Mem w W0 [some (w.heap.size,.cell 25 (C k la m)),some (w.heap.size+1,.cell 25 (C none 0 0)),some (w.heap.size+1+1,.int (((YY ps 0:Nat):Int)))]):=Ja (by rw[<-aw];exact M0);obtain⟨n,hn⟩:=ex (ps.length:Nat);obtain⟨T,az⟩:=ex ((n:Int)-1:Int);have Qc:=Ja (λ(V:J) (hB:Bl w V)=>YA (I #[C k la m]) ps V (h.below hB));rw[hn,az]at Qc;have ce:T+1=(n:Int):=om
 have bj:IntKind.i64.wrap (n:Int)=(n:Int):=by rw[BS];omega
 have HP:=Ja (λ(V:J) (hB:Bl w V)=>h.below hB);have HN:=Ja (show ps.length=n from hn);have bk:n<=1099511627776:=om
 have Qd:=Ja (λ(V:J)=>I6 1 om om V);clear h bi bf bg hn az M0 aw bh aj hD ae ai hM Qa;go_enter Tryz.func56,Tryz.ntmps56
 go_upto_region 2 with fail
 rw[Qe.o];clear Qe;go_upto_region 3 with(go_at_call 95;refine(Qd.o _).mono ?_;clear Qd;rintro e w1 ⟨u1,rfl,an,ay⟩;obtain⟨s1,a1,l1,c1,rfl⟩:=Jl.form2 an)
 obtain⟨V1,hV⟩:=ex (w1.alloc (G #[O s1,C a1 l1 c1] 63));obtain⟨t,ad⟩:=ex (w1.heap.size);have d:Mem w (w1.alloc (G #[O s1,C a1 l1 c1] 63)) [some (w.heap.size,.cell 25 (C k la m)),some (w.heap.size+1,.cell 25 (C none 0 0)),some (w.heap.size+1+1,.int (((YY ps 0:Nat):Int))),some (w1.heap.size,.int (((Xc ps 0:Nat):Int)))]:=Mem.push (M1.o.below ay) (.int (((Xc ps 0:Nat):Int))) an;rw[hV,ad]at d;rw[hV];rw[ad];have M2:Hid (Mem w V1 [some (w.heap.size,.cell 25 (C k la m)),some (w.heap.size+1,.cell 25 (C none 0 0)),some (w.heap.size+1+1,.int (((YY ps 0:Nat):Int))),some (t,.int (((Xc ps 0:Nat):Int)))]):=Ja (d);clear M1;clear d hV ad;clear an ay;have c0:=(M2.o.cell (i:=0) rfl).1.cell;go_upto_region 4 with(go_at_call 20;refine(Qc.o _ M2.o.2.2).mono ?_;clear Qc;rintro e w2 ⟨rfl,bc⟩)
 have ML:Hid (Mem w w2 [some (w.heap.size,.cell 25 (C k la m)),some (w.heap.size+1,.cell 25 (C none 0 0)),some (w.heap.size+1+1,.int (((YY ps 0:Nat):Int))),some (t,.int (((Xc ps 0:Nat):Int)))]):=Ja (M2.o.below bc);clear c0 bc M2;go_loopw [12] (λiv wr=>∃i:Nat,i<=n/\iv=Q .i64 (i:Int)/\Hid (Mem w wr [some (w.heap.size,.cell 25 (C k la m)),some (w.heap.size+1,.cell 25 (C none 0 0)),some (w.heap.size+1+1,.int (((YY ps i:Nat):Int))),some (t,.int (((Xc ps i:Nat):Int)))])) (λiv _=>n-(intOf iv).toNat)
 case atStart=>exact⟨0,AK _,rfl,ML⟩
 case round=>
  obtain⟨i,U,rfl,M3⟩:=hrel;clear ML;by_cases bn:i<n
  . have bm:(i:Int)<(n:Int):=om
    go_upto_region 6 with fail
    refine Jk Qf [[],[],[],[1,2],[3,3],[0,4,4],[5,5,0,1,2,3,4,5]] (by kernel_rfl) DS
     (λD Y V=>∃(ta tb tc td te tf:P) (y2:Option (Nat × Dat)),Y={ tmps:=#[I #[C k la m],F (some ⟨w.heap.size,0,none⟩),F (some ⟨w.heap.size+1,0,none⟩),F (some ⟨w.heap.size+1+1,0,none⟩),F (some ⟨t,0,none⟩),Q .i64 ↑i,E,E,I #[O s1,C a1 l1 c1],I #[C k la m],Q .i64 T,Q .i64 ↑n,Q .i64 ↑i,O true,Q .i64 ↑i,ta,tb,tc,td,te,tf,u21,u22,u23,u24,u25,u26,u27,E,E,E,E,E,E,E,E,E,E,E,E],defers:=[] }/\Hid ((D 0=true->Has V ta (.int (((YY ps i:Nat):Int))))/\(D 1=true->tb=I #[C k la m])/\(D 2=true->tc=Value.int IntKind.i64 ↑i)/\(D 3=true->Has V td (.rat (cf ps i)))/\(D 4=true->Has V te (.int ((cf ps i).num)))/\(D 5=true->Has V tf (.int (((YY ps (i+1):Nat):Int))))/\((D 6=false->y2=some (w.heap.size+1+1,.int (((YY ps i:Nat):Int))))/\(D 6=true->y2=some (w.heap.size+1+1,.int (((YY ps (i+1):Nat):Int))))))/\Hid (Mem w V [some (w.heap.size,.cell 25 (C k la m)),some (w.heap.size+1,.cell 25 (C none 0 0)),y2,some (t,.int (((Xc ps i:Nat):Int)))]))
     ⟨_,_,_,_,_,_,_,rfl,Ja ⟨DQ,DQ,DQ,DQ,DQ,DQ,⟨λ_=>rfl,DQ⟩⟩,Ja (M3.o).drew⟩ ?step2 ?fin2
    case step2=>
     rintro D Y V i ds aq U g af ⟨ta,tb,tc,td,te,tf,y2,rfl,b,d⟩;have Qn:i<7:=(Ac.1 U).1;obtain rfl|rfl|rfl|rfl|rfl|rfl|rfl:=IL i om
     all_goals
      simp only[Af,Ae,Ag]at U;subst U
     . have hf:D 6=false:=DU aq af;obtain rfl:=Dy b hf;clear g;obtain⟨s,a,l,c,n,i⟩:=d.o.int (i:=2) rfl;obtain⟨T,e1⟩:=n.cp;refine Za ?_;exact⟨_,_,_,_,_,_,_,rfl,(Lr (Dh b (λ_=>i)) ⟨λ_=>rfl,λh=>by simp[hf]at h⟩),Ja (d.o)⟩
     . have T:=(d.o.cell (i:=0) rfl).1.cell;clear g;refine Za ?_;exact⟨_,_,_,_,_,_,_,rfl,(Dp b),Ja (d.o)⟩
     . clear g;refine Za ?_;exact⟨_,_,_,_,_,_,_,rfl,(Dg b),Ja (d.o)⟩
     . obtain rfl:=(b.o.2.1 (g 1 DQ));obtain rfl:=(b.o.2.2.1 (g 2 DQ));have r:=Ja (KD _ ps (i:Int) V (HP.o V d.o.2.2));rw[KW]at r;clear g;refine Jb rfl rfl λK hK=>?_;go_simp;go_wp2_with(go_at_call 58;refine r.o.mono ?_;rintro e w5 ⟨v5,rfl,B,f⟩)
       obtain⟨q,_,_,_,L,y,A⟩:=b.o;exact⟨_,_,_,_,_,_,_,rfl,Ja ⟨λh=>(q h).below f,λ_=>rfl,λ_=>rfl,λ_=>B,λh=>(L h).below f,λh=>(y h).below f,A⟩,Ja (d.o.below f)⟩
     . have o:=(b.o.2.2.2.1 (g 3 DQ));have r:=Ja (cN _ (cf ps i) V o);clear g o;refine Jb rfl rfl λK hK=>?_;go_simp;go_wp2_with(go_at_call 96;refine r.o.mono ?_;rintro e w5 ⟨v5,rfl,B,f⟩)
       obtain⟨q,N,R,H,_,y,A⟩:=b.o;exact⟨_,_,_,_,_,_,_,rfl,Ja ⟨λh=>(q h).below f,N,R,λh=>(H h).below f,λ_=>B,λh=>(y h).below f,A⟩,Ja (d.o.below f)⟩
     . have o:=(b.o.1 (g 0 DQ));have W:=(b.o.2.2.2.2.1 (g 4 DQ));have r:=Ja (Io _ _ ((YY ps i:Nat):Int) (cf ps i).num V o W (by have:=(HG.o i).words;omega) (by have:=(Qb.o.at i).num.words;omega));rw[eI]at r;clear g o W;refine Jb rfl rfl λK hK=>?_;go_simp;go_wp2_with(go_at_call 90;refine r.o.mono ?_;rintro e w5 ⟨v5,rfl,B,f⟩)
       obtain⟨q,N,R,H,L,_,A⟩:=b.o;exact⟨_,_,_,_,_,_,_,rfl,Ja ⟨λh=>(q h).below f,N,R,λh=>(H h).below f,λh=>(L h).below f,λ_=>B,A⟩,Ja (d.o.below f)⟩
     . obtain rfl:=Dy b af;have hv:=((Ds b) (g 5 DQ));obtain⟨s1,a1,l1,c1,rfl⟩:=Jl.form2 (show Jl V _ _ from hv);obtain⟨s,a,l,c,n,i⟩:=d.o.int (i:=2) rfl;have T:=n.c0;have f0:=n.f0;have e1:=n.c1;have f1:=n.f1;clear g;refine Za ?_;obtain⟨q,N,R,H,L,y,_⟩:=b.o;exact⟨_,_,_,_,_,_,_,rfl,Ja ⟨λh=>(q h).set2 n rfl rfl _ _,N,R,λh=>(H h).set2 n rfl rfl _ _,λh=>(L h).set2 n rfl rfl _ _,λh=>(y h).set2 n rfl rfl _ _,⟨λh=>by simp at h,λ_=>rfl⟩⟩,Ja (d.o.putInt (i:=2) rfl hv)⟩
    rintro D Y V3 S ⟨ta,tb,tc,td,te,tf,y2,rfl,b,d⟩;obtain rfl:=b.o.2.2.2.2.2.2.2 (S 6 DS);obtain rfl:=b.o.2.1 (S 1 DS);obtain rfl:=b.o.2.2.1 (S 2 DS);clear b S M3;have X:Hid (Mem w V3 [some (w.heap.size,.cell 25 (C k la m)),some (w.heap.size+1,.cell 25 (C none 0 0)),some (w.heap.size+1+1,.int (((YY ps (i+1):Nat):Int))),some (t,.int (((Xc ps i:Nat):Int)))]):=d;clear d;go_upto_region 7 with fail
    refine Jk Qf [[],[],[],[1,2],[3,3],[0,4,4],[5,5,0,1,2,3,4,5]] (by kernel_rfl) DS
     (λD Y V=>∃(tg ti tj tk tl tm:P) (y3:Option (Nat × Dat)),Y={ tmps:=#[I #[C k la m],F (some ⟨w.heap.size,0,none⟩),F (some ⟨w.heap.size+1,0,none⟩),F (some ⟨w.heap.size+1+1,0,none⟩),F (some ⟨t,0,none⟩),Q .i64 ↑i,E,E,I #[O s1,C a1 l1 c1],I #[C k la m],Q .i64 T,Q .i64 ↑n,Q .i64 ↑i,O true,Q .i64 ↑i,ta,I #[C k la m],Q .i64 ↑i,td,te,tf,tg,ti,tj,tk,tl,tm,u27,E,E,E,E,E,E,E,E,E,E,E,E],defers:=[] }/\Hid ((D 0=true->Has V tg (.int (((Xc ps i:Nat):Int))))/\(D 1=true->ti=I #[C k la m])/\(D 2=true->tj=Value.int IntKind.i64 ↑i)/\(D 3=true->Has V tk (.rat (cf ps i)))/\(D 4=true->Has V tl (.int (((cf ps i).den:Int))))/\(D 5=true->Has V tm (.int (((Xc ps (i+1):Nat):Int))))/\((D 6=false->y3=some (t,.int (((Xc ps i:Nat):Int))))/\(D 6=true->y3=some (t,.int (((Xc ps (i+1):Nat):Int))))))/\Hid (Mem w V [some (w.heap.size,.cell 25 (C k la m)),some (w.heap.size+1,.cell 25 (C none 0 0)),some (w.heap.size+1+1,.int (((YY ps (i+1):Nat):Int))),y3]))
     ⟨_,_,_,_,_,_,_,rfl,Ja ⟨DQ,DQ,DQ,DQ,DQ,DQ,⟨λ_=>rfl,DQ⟩⟩,Ja (X.o).drew⟩ ?step4 ?fin4
    case step4=>
     rintro D Y V i ds aq U g af ⟨tg,ti,tj,tk,tl,tm,y3,rfl,b,d⟩;have Qn:i<7:=(Ac.1 U).1;obtain rfl|rfl|rfl|rfl|rfl|rfl|rfl:=IL i om
     all_goals
      simp only[Af,Ae,Ag]at U;subst U
     . have hf:D 6=false:=DU aq af;obtain rfl:=Dy b hf;clear g;obtain⟨s,a,l,c,n,i⟩:=d.o.int (i:=3) rfl;obtain⟨T,e1⟩:=n.cp;refine Za ?_;exact⟨_,_,_,_,_,_,_,rfl,(Lr (Dh b (λ_=>i)) ⟨λ_=>rfl,λh=>by simp[hf]at h⟩),Ja (d.o)⟩
     . have T:=(d.o.cell (i:=0) rfl).1.cell;clear g;refine Za ?_;exact⟨_,_,_,_,_,_,_,rfl,(Dp b),Ja (d.o)⟩
     . clear g;refine Za ?_;exact⟨_,_,_,_,_,_,_,rfl,(Dg b),Ja (d.o)⟩
     . obtain rfl:=(b.o.2.1 (g 1 DQ));obtain rfl:=(b.o.2.2.1 (g 2 DQ));have r:=Ja (KD _ ps (i:Int) V (HP.o V d.o.2.2));rw[KW]at r;clear g;refine Jb rfl rfl λK hK=>?_;go_simp;go_wp2_with(go_at_call 58;refine r.o.mono ?_;rintro e w5 ⟨v5,rfl,B,f⟩)
       obtain⟨q,_,_,_,L,y,A⟩:=b.o;exact⟨_,_,_,_,_,_,_,rfl,Ja ⟨λh=>(q h).below f,λ_=>rfl,λ_=>rfl,λ_=>B,λh=>(L h).below f,λh=>(y h).below f,A⟩,Ja (d.o.below f)⟩
     . have o:=(b.o.2.2.2.1 (g 3 DQ));have r:=Ja (GA _ (cf ps i) V o);clear g o;refine Jb rfl rfl λK hK=>?_;go_simp;go_wp2_with(go_at_call 86;refine r.o.mono ?_;rintro e w5 ⟨v5,rfl,B,f⟩)
       obtain⟨q,N,R,H,_,y,A⟩:=b.o;exact⟨_,_,_,_,_,_,_,rfl,Ja ⟨λh=>(q h).below f,N,R,λh=>(H h).below f,λ_=>B,λh=>(y h).below f,A⟩,Ja (d.o.below f)⟩
     . have o:=(b.o.1 (g 0 DQ));have W:=(b.o.2.2.2.2.1 (g 4 DQ));have r:=Ja (eH _ _ (Xc ps i) (cf ps i).den V o W (SZ ps i) (HL.o i) (Qb.o.at i).den);rw[eJ]at r;clear g o W;refine Jb rfl rfl λK hK=>?_;go_simp;go_wp2_with(go_at_call 97;refine r.o.mono ?_;rintro e w5 ⟨v5,rfl,B,f⟩)
       obtain⟨q,N,R,H,L,_,A⟩:=b.o;exact⟨_,_,_,_,_,_,_,rfl,Ja ⟨λh=>(q h).below f,N,R,λh=>(H h).below f,λh=>(L h).below f,λ_=>B,A⟩,Ja (d.o.below f)⟩
     . obtain rfl:=Dy b af;have hv:=((Ds b) (g 5 DQ));obtain⟨s1,a1,l1,c1,rfl⟩:=Jl.form2 (show Jl V _ _ from hv);obtain⟨s,a,l,c,n,i⟩:=d.o.int (i:=3) rfl;have T:=n.c0;have f0:=n.f0;have e1:=n.c1;have f1:=n.f1;clear g;refine Za ?_;obtain⟨q,N,R,H,L,y,_⟩:=b.o;exact⟨_,_,_,_,_,_,_,rfl,Ja ⟨λh=>(q h).set2 n rfl rfl _ _,N,R,λh=>(H h).set2 n rfl rfl _ _,λh=>(L h).set2 n rfl rfl _ _,λh=>(y h).set2 n rfl rfl _ _,⟨λh=>by simp at h,λ_=>rfl⟩⟩,Ja (d.o.putInt (i:=3) rfl hv)⟩
    rintro D Y V5 S ⟨tg,ti,tj,tk,tl,tm,y3,rfl,b,d⟩;obtain rfl:=b.o.2.2.2.2.2.2.2 (S 6 DS);obtain rfl:=b.o.2.1 (S 1 DS);obtain rfl:=b.o.2.2.1 (S 2 DS);clear b S X;have M5:Hid (Mem w V5 [some (w.heap.size,.cell 25 (C k la m)),some (w.heap.size+1,.cell 25 (C none 0 0)),some (w.heap.size+1+1,.int (((YY ps (i+1):Nat):Int))),some (t,.int (((Xc ps (i+1):Nat):Int)))]):=d;clear d;go_wp2_with fail
    go_roundw
    case rel=>exact⟨i+1,om,by go_num,M5⟩
    case measure=>simp[intOf];omega
  . obtain rfl:i=n:=om
    obtain⟨s6,a6,l6,c6,n6,i6⟩:=M3.o.int (i:=2) rfl;obtain⟨Qi,Qj⟩:=n6.cp;obtain⟨s7,a7,l7,c7,n7,i7⟩:=M3.o.int (i:=3) rfl;obtain⟨Qg,Qo⟩:=n7.cp;have Z:=Ja (MC _ _ ((Xc ps i:Nat):Int) ((YY ps i:Nat):Int) wr i7 i6 (HL.o i) (HG.o i));have Qk:=(M3.o.cell (i:=1) rfl).1;obtain⟨r9,ap⟩:=ex (Rat.divInt ((Xc ps i:Nat):Int) ((YY ps i:Nat):Int));rw[ap]at Z;have Qh:=Ja ap;clear ap;by_cases o:ps=[]
    . have HB:=Ja (show decide (((YY ps i:Nat):Int)≠0)=false by rw[<-HN.o,o];decide);rw[HB.o]at Z;have HE:=Ja (show YS ps=[]by rw[o];rfl);clear o HB;go_wp2_with(go_at_call 84;refine Z.o.mono ?_;clear Z;rintro e w4 ⟨u4,rfl,ak,ah⟩;obtain⟨s9,a9,l9,c9,t9,b9,k9,d9,rfl⟩:=Jj.form ak;have n5:=boxed_below (boxed_below Qk ah) (Ba w4 (G #[O s9,C a9 l9 c9,O t9,C b9 k9 d9] 65));have x0:=n5.cell;have x1:=n5.frozen)
      rw[HE.o];exact BA (v:=I #[C none 0 0]) (by simp[results,Tryz.results56,go_sem,x0]) rfl ⟨_,rfl,Sr _,((Bt M3.o.2.2 ah).alloc (by have:=M3.o.2.2.size;have:=ah.size;omega) _).setCell (p:=⟨w.heap.size+1,0,none⟩) (by show w.heap.size<=w.heap.size+1;omega) _⟩
    . have HB:=Ja (show decide (((YY ps i:Nat):Int)≠0)=true by
       refine BK ?_;rw[<-HN.o];exact Int.natCast_ne_zero.2 (Qm.o o))
      rw[HB.o]at Z;have HE:=Ja (show r9=(Xc ps ps.length:Rat)/(YY ps ps.length:Rat)by rw[<-Qh.o,C6,Cu,Cu,HN.o]);have HT:=Ja (show Dq r9 ps=YS ps by rw[HE.o];rfl);have HS:=Ja (show Sq r9/\∀j,Sq (cf ps j*r9)by rw[HE.o];exact HF.o o);clear o HB;have H2:=Ja (λ(V:J) (hB:Bl w V) (x:P) (hx:Jj V x r9)=>Ss (I #[C k la m]) x ps r9 V (HP.o V hB) hx Qb.o HS.o.1 HS.o.2);rw[HT.o]at H2;go_upto_region 12 with(go_at_call 84;refine Z.o.mono ?_;clear Z;rintro e w4 ⟨u4,rfl,ak,ah⟩;obtain⟨s9,a9,l9,c9,t9,b9,k9,d9,rfl⟩:=Jj.form ak)
      clear Qi Qj Qg Qo;obtain⟨V8,hV⟩:=ex (w4.alloc (G #[O s9,C a9 l9 c9,O t9,C b9 k9 d9] 65));obtain⟨B8,ad⟩:=ex (w4.heap.size);have d:Mem w (w4.alloc (G #[O s9,C a9 l9 c9,O t9,C b9 k9 d9] 65)) [some (w.heap.size,.cell 25 (C k la m)),some (w.heap.size+1,.cell 25 (C none 0 0)),some (w.heap.size+1+1,.int (((YY ps i:Nat):Int))),some (t,.int (((Xc ps i:Nat):Int))),some (w4.heap.size,.rat (r9))]:=Mem.push (M3.o.below ah) (.rat (r9)) ak;rw[hV,ad]at d;rw[hV];rw[ad];have X:Hid (Mem w V8 [some (w.heap.size,.cell 25 (C k la m)),some (w.heap.size+1,.cell 25 (C none 0 0)),some (w.heap.size+1+1,.int (((YY ps i:Nat):Int))),some (t,.int (((Xc ps i:Nat):Int))),some (B8,.rat (r9))]):=Ja (d);clear M3;clear d hV ad;obtain⟨s9,a9,l9,c9,t9,b9,k9,d9,n9,r9,i9,j9⟩:=X.o.rat (i:=4) rfl;obtain⟨bu,bt,ci,cg⟩:=n9.cq;have c0:=(X.o.cell (i:=0) rfl).1.cell;have n1:=(X.o.cell (i:=1) rfl).1;have HQ:=Ja X.o.2.2;go_wp2_with(go_at_call 98;refine(H2.o _ HQ.o _ r9).mono ?_;clear H2;rintro e w5 ⟨u5,rfl,am,f⟩;obtain⟨a7,l7,c7,rfl⟩:=am.form;have n5:=boxed_below n1 f;have x0:=n5.cell;have x1:=n5.frozen;have Qp:=Ja (LH n5 (x:=C a7 l7 c7) am);have Ql:=Ja ((Bt HQ.o f).setCell (p:=⟨w.heap.size+1,0,none⟩) (by show w.heap.size<=w.heap.size+1;omega) (C a7 l7 c7));clear am f n5)
      exact BA (v:=I #[C a7 l7 c7]) (by simp[results,Tryz.results56,go_sem,x0]) rfl ⟨_,rfl,Qp.o,Ql.o⟩
theorem eK(va vb:P)(ps qs:List Rat)(w:J)(ha:Jg w va ps)(hb:Jg w vb qs)(an:Db ps)(aq:Db qs)(az:qs≠[])(bc:∀i,i<=ps.length+1-qs.length->Sq (Yu (cf qs (qs.length-1))^i))(ak:∀i,Sq (cf ps i*Gq ps qs)):
 Calls Tryz.prog 99 #[va,vb] w λe w'=>∃u,e=.returned u/\Jg w' u (Xb ps qs)/\Bl w w':=by
 obtain⟨m,hm⟩:=ex (qs.length-1:Nat);have Qt:0<qs.length:=Aq.2 az;have Qu:ps.length<=1099511627776:=by
  obtain⟨H,la,R,rfl⟩:=ha.form;have:=ha.row.forms;omega
 have Qw:qs.length<=1099511627776:=by
  obtain⟨q,lb,z,rfl⟩:=hb.form;have:=hb.row.forms;omega
 obtain⟨L,hL⟩:=ex (Yu (cf qs m):Rat);obtain⟨N,hN⟩:=ex (ps.length+1-qs.length:Nat);obtain⟨e1,ay⟩:=ex ((ps.length:Int)-1:Int);have Ql:(qs.length:Int)-1=(m:Int):=om
 obtain⟨e3,dp⟩:=ex (e1-(m:Int):Int);obtain⟨e4,bj⟩:=ex (e3+1:Int);have ct:IntKind.i64.wrap e3=e3:=by rw[BS];omega
 have de:IntKind.i64.wrap e4=e4:=by rw[BS];omega
 obtain⟨Qc,Qk,Qs,Ua,Qb,HT,Qy,Qv⟩:=Gy (show(∀i:Nat,(i:Int)<e4↔i<N)/\N<=1099511627777 from⟨λi=>by omega,om⟩) Ql ay hL (show ∀i,i<=N->Sq (L^i)from λi W=>by rw[<-hL,<-hm];exact bc i om) (show Dq (L^N) ps=Xb ps qs by unfold Xb Gq;rw[hm,hL,hN]) (show ∀i,Sq (cf ps i*L^N)from λi=>by have:=ak i;unfold Gq at this;rwa[hm,hL,hN]at this) an;have Ub:=Ja aq;clear bc ak an aq az hN hL hm Qt Qu Qw ay Ql;have Qn:Tryz.prog.follows .mixedOrders=true:=by kernel_rfl
 obtain⟨H,la,R,rfl⟩:=ha.form;obtain⟨q,lb,z,rfl⟩:=hb.form;have M0:=(((Mem.nil w).push (.cell 25 (C H la R)) (cs:=#[C H la R]) ⟨rfl,rfl⟩).push (.cell 25 (C q lb z)) (cs:=#[C q lb z]) ⟨rfl,rfl⟩).push (.cell 25 (C none 0 0)) (cs:=#[C none 0 0]) ⟨rfl,rfl⟩;simp only[A1]at M0;obtain⟨W0,aj⟩:=ex (((w.alloc (G #[C H la R] 25)).alloc (G #[C q lb z] 25)).alloc (G #[C none 0 0] 25));obtain⟨Qj,HP,HQ⟩:=Dm aj (λ(V:J) (hB:Bl w V)=>ha.below hB) (λ(V:J) (hB:Bl w V)=>hb.below hB);have M1:Hid (Mem w W0 [some (w.heap.size,.cell 25 (C H la R)),some (w.heap.size+1,.cell 25 (C q lb z)),some (w.heap.size+1+1,.cell 25 (C none 0 0))]):=Ja (by rw[<-aj];exact M0);clear M0 aj ha hb;go_enter Tryz.func99,Tryz.ntmps99
 go_upto_region 1 with fail
 rw[Qj.o];clear Qj;refine Jk Qn [[],[],[1],[0,2,2],[3,3],[],[5,4,4,0,1,2,3,4,5]] (by kernel_rfl) DS
  (λD ad V=>∃(tm tn ta tb tc tl:P) (x5:Option (Nat × Dat)),ad={ tmps:=#[I #[C H la R],I #[C q lb z],F (some ⟨w.heap.size,0,none⟩),F (some ⟨w.heap.size+1,0,none⟩),F (some ⟨w.heap.size+1+1,0,none⟩),tl,E,E,tm,tn,ta,tb,tc,E,E,E,E,E,E,E,E,E,E,E,E,E,E,E,E,E,E,E,E,E],defers:=[] }/\Hid ((D 0=true->tm=I #[C q lb z])/\(D 1=true->tn=I #[C q lb z])/\(D 2=true->ta=Q .i64 (m:Int))/\(D 3=true->Has V tb (.rat (cf qs m)))/\(D 4=true->Has V tc (.rat (L)))/\((D 5=false->x5=none)/\(D 5=true->D 6=false->∃B:Nat,tl=F (some ⟨B,0,none⟩)/\x5=some (B,.rat 0))/\(D 6=true->∃B:Nat,tl=F (some ⟨B,0,none⟩)/\x5=some (B,.rat (L)))))/\Hid (Mem w V [some (w.heap.size,.cell 25 (C H la R)),some (w.heap.size+1,.cell 25 (C q lb z)),some (w.heap.size+1+1,.cell 25 (C none 0 0)),x5]))
  ⟨_,_,_,_,_,_,none,rfl,Ja ⟨DQ,DQ,DQ,DQ,DQ,DQ⟩,Ja ((M1.o).none).drew⟩ ?step1 ?fin1
 case step1=>
  rintro D ad V i ds aw W o ae ⟨tm,tn,ta,tb,tc,tl,x5,rfl,f,g⟩;have Qz:i<7:=(Ac.1 W).1;obtain rfl|rfl|rfl|rfl|rfl|rfl|rfl:=IL i om
  all_goals
   simp only[Af,Ae,Ag]at W;subst W
  . have e0:=(g.o.cell (i:=1) rfl).1.cell;clear o;refine Za ?_;exact⟨_,_,_,_,_,_,_,rfl,(Dh f),Ja (g.o)⟩
  . have e0:=(g.o.cell (i:=1) rfl).1.cell;clear o;refine Za ?_;exact⟨_,_,_,_,_,_,_,rfl,(Dp f),Ja (g.o)⟩
  . obtain rfl:=(f.o.2.1 (o 1 DQ));have M:=Ja (YA _ qs V (HQ.o V g.o.2.2));rw[Qk.o]at M;clear o;refine Jb rfl rfl λK hK=>?_;go_simp;go_wp2_with(go_at_call 20;refine M.o.mono ?_;rintro e U ⟨rfl,A⟩)
    obtain⟨G0,_,_,G3,G4,G5⟩:=f.o;exact⟨_,_,_,_,_,_,_,rfl,Ja ⟨G0,λ_=>rfl,λ_=>rfl,λh=>(G3 h).below A,λh=>(G4 h).below A,G5⟩,Ja (g.o.below A)⟩
  . obtain rfl:=(f.o.1 (o 0 DQ));obtain rfl:=(f.o.2.2.1 (o 2 DQ));have M:=Ja (KD _ qs (m:Int) V (HQ.o V g.o.2.2));rw[KW]at M;clear o;refine Jb rfl rfl λK hK=>?_;go_simp;go_wp2_with(go_at_call 58;refine M.o.mono ?_;rintro e U ⟨v5,rfl,af,A⟩)
    exact⟨_,_,_,_,_,_,_,rfl,Ja ⟨λ_=>rfl,f.o.2.1,λ_=>rfl,λ_=>af,λh=>(f.o.2.2.2.2.1 h).below A,f.o.2.2.2.2.2⟩,Ja (g.o.below A)⟩
  . have h0:=(f.o.2.2.2.1 (o 3 DQ));have M:=Ja (eG _ (cf qs m) V h0 (Ub.o.at m));rw[Ua.o]at M;clear o h0;refine Jb rfl rfl λK hK=>?_;go_simp;go_wp2_with(go_at_call 129;refine M.o.mono ?_;rintro e U ⟨v5,rfl,af,A⟩)
    obtain⟨G0,G1,G2,G3,_,G5⟩:=f.o;exact⟨_,_,_,_,_,_,_,rfl,Ja ⟨G0,G1,G2,λh=>(G3 h).below A,λ_=>af,G5⟩,Ja (g.o.below A)⟩
  . have hf:D 6=false:=DU aw ae;obtain rfl:=Ds f ae;clear o;refine Za ?_;obtain⟨G0,G1,G2,G3,G4,_⟩:=f.o;exact⟨_,_,_,_,_,_,_,rfl,Ja ⟨G0,G1,G2,λh=>(G3 h).alloc _,λh=>(G4 h).alloc _,⟨λh=>by simp at h,λ_ _=>⟨_,rfl,rfl⟩,λh=>by simp[hf]at h⟩⟩,Ja (g.o.fill (i:=3) rfl (.rat 0) (Ek _))⟩
  . obtain⟨B,rfl,rfl⟩:=Dy f (o 5 DQ) ae;have Qd:=o 5 DQ;have hv:=(f.o.2.2.2.2.1 (o 4 DQ));obtain⟨s1,a1,l1,c1,t1,b1,k1,d1,rfl⟩:=Jj.form (show Jj V _ _ from hv);obtain⟨s,a,l,c,t,b,k,d,n,r,i,j⟩:=g.o.rat (i:=3) rfl;have e0:=n.c0;have f0:=n.f0;have e1:=n.c1;have f1:=n.f1;have e2:=n.c2;have f2:=n.f2;have e3:=n.c3;have f3:=n.f3;clear o;refine Za ?_;obtain⟨G0,G1,G2,G3,G4,_⟩:=f.o;exact⟨_,_,_,_,_,_,_,rfl,Ja ⟨G0,G1,G2,λh=>(G3 h).put4 n rfl rfl rfl rfl _ _ _ _,λh=>(G4 h).put4 n rfl rfl rfl rfl _ _ _ _,⟨λh=>by simp[Qd]at h,λ_ h=>by simp at h,λ_=>⟨B,rfl,rfl⟩⟩⟩,Ja (g.o.putRat (i:=3) rfl hv)⟩
 rintro D ad V2 T ⟨tm,tn,ta,tb,tc,tl,x5,rfl,f,g⟩;obtain⟨X,rfl,rfl⟩:=f.o.2.2.2.2.2.2.2 (T 6 DS);obtain rfl:=f.o.1 (T 0 DS);obtain rfl:=f.o.2.1 (T 1 DS);obtain rfl:=f.o.2.2.1 (T 2 DS);clear f T M1;have M2:Hid (Mem w V2 [some (w.heap.size,.cell 25 (C H la R)),some (w.heap.size+1,.cell 25 (C q lb z)),some (w.heap.size+1+1,.cell 25 (C none 0 0)),some (X,.rat (L))]):=g;clear g;have HA:=Ja (λ(V:J)=>I6 1 om om V);have HB:=HA;have M:=Ja (λ(V:J) (x y:P) (hx:Jl V x 1) (hy:Jl V y 1)=>MC x y 1 1 V hx hy Da.one Da.one);rw[show decide ((1:Int)≠0)=true from rfl,show Rat.divInt 1 1=L^0 by rw[Rat.pow_zero];rfl]at M;go_upto_region 3 with(first
  |(go_at_call 95;refine(HA.o _).mono ?_;clear HA;rintro e w3 ⟨u3,rfl,Qa,am⟩)
  |(go_at_call 95;refine(HB.o _).mono ?_;clear HB;rintro e w4 ⟨u4,rfl,bf,ah⟩;have Qa:=Qa.below ah)
  |(go_at_call 84;refine(M.o _ _ _ Qa bf).mono ?_;clear M;rintro e U ⟨u5,rfl,Z,A⟩;obtain⟨s9,a9,l9,c9,t9,b9,k9,d9,rfl⟩:=Jj.form Z))
 obtain⟨V4,hV⟩:=ex (U.alloc (G #[O s9,C a9 l9 c9,O t9,C b9 k9 d9] 65));obtain⟨S,ai⟩:=ex (U.heap.size);have g:Mem w (U.alloc (G #[O s9,C a9 l9 c9,O t9,C b9 k9 d9] 65)) [some (w.heap.size,.cell 25 (C H la R)),some (w.heap.size+1,.cell 25 (C q lb z)),some (w.heap.size+1+1,.cell 25 (C none 0 0)),some (X,.rat (L)),some (U.heap.size,.rat (L^0))]:=Mem.push (((M2.o.below am).below ah).below A) (.rat (L^0)) Z;rw[hV,ai]at g;rw[hV];rw[ai];have M3:Hid (Mem w V4 [some (w.heap.size,.cell 25 (C H la R)),some (w.heap.size+1,.cell 25 (C q lb z)),some (w.heap.size+1+1,.cell 25 (C none 0 0)),some (X,.rat (L)),some (S,.rat (L^0))]):=Ja (g);clear M2;clear g hV ai;clear Qa bf Z am ah A;refine Jk Qn [[],[0],[],[2,1],[1,3],[4],[]] (by kernel_rfl) DS
  (λD ad V=>∃(td te tf tg ti tj tk:P),ad={ tmps:=#[I #[C H la R],I #[C q lb z],F (some ⟨w.heap.size,0,none⟩),F (some ⟨w.heap.size+1,0,none⟩),F (some ⟨w.heap.size+1+1,0,none⟩),F (some ⟨X,0,none⟩),F (some ⟨S,0,none⟩),O true,I #[C q lb z],I #[C q lb z],Q .i64 ↑m,tb,tc,.tuple #[I #[O s9,C a9 l9 c9,O t9,C b9 k9 d9],O true],u3,u4,.tuple #[I #[O s9,C a9 l9 c9,O t9,C b9 k9 d9],O true],I #[O s9,C a9 l9 c9,O t9,C b9 k9 d9],O true,td,te,tf,tg,ti,tj,tk,E,E,E,E,E,E,E,E],defers:=[] }/\Hid ((D 0=true->td=I #[C H la R])/\(D 1=true->te=Q .i64 e1)/\(D 2=true->tf=I #[C q lb z])/\(D 3=true->tg=Q .i64 (m:Int))/\(D 4=true->ti=Q .i64 e3)/\(D 5=true->tj=Q .i64 e4)/\(D 6=true->tk=Q .i64 0))/\Hid (Mem w V [some (w.heap.size,.cell 25 (C H la R)),some (w.heap.size+1,.cell 25 (C q lb z)),some (w.heap.size+1+1,.cell 25 (C none 0 0)),some (X,.rat (L)),some (S,.rat (L^0))]))
  ⟨_,_,_,_,_,_,_,rfl,Ja ⟨DQ,DQ,DQ,DQ,DQ,DQ,DQ⟩,Ja (M3.o).drew⟩ ?step5 ?fin5
 case step5=>
  rintro D ad V i ds aw W o ae ⟨td,te,tf,tg,ti,tj,tk,rfl,f,g⟩;have Qz:i<7:=(Ac.1 W).1;obtain rfl|rfl|rfl|rfl|rfl|rfl|rfl:=IL i om
  all_goals
   simp only[Af,Ae,Ag]at W;subst W
  . have e0:=(g.o.cell (i:=0) rfl).1.cell;clear o;refine Za ?_;exact⟨_,_,_,_,_,_,_,rfl,(Dh f),Ja (g.o)⟩
  . obtain rfl:=(f.o.1 (o 0 DQ));have M:=Ja (YA _ ps V (HP.o V g.o.2.2));rw[Qs.o]at M;clear o;refine Jb rfl rfl λK hK=>?_;go_simp;go_wp2_with(go_at_call 20;refine M.o.mono ?_;rintro e U ⟨rfl,A⟩)
    exact⟨_,_,_,_,_,_,_,rfl,(Dp (Dh f)),Ja (g.o.below A)⟩
  . have e0:=(g.o.cell (i:=1) rfl).1.cell;clear o;refine Za ?_;exact⟨_,_,_,_,_,_,_,rfl,(Dg f),Ja (g.o)⟩
  . obtain rfl:=(f.o.2.2.1 (o 2 DQ));have M:=Ja (YA _ qs V (HQ.o V g.o.2.2));rw[Qk.o]at M;clear o;refine Jb rfl rfl λK hK=>?_;go_simp;go_wp2_with(go_at_call 20;refine M.o.mono ?_;rintro e U ⟨rfl,A⟩)
    exact⟨_,_,_,_,_,_,_,rfl,(Di (Dg f)),Ja (g.o.below A)⟩
  . obtain rfl:=(f.o.2.1 (o 1 DQ));obtain rfl:=(f.o.2.2.2.1 (o 3 DQ));clear o;refine Za ?_;exact⟨_,_,_,_,_,_,_,rfl,(Dx (Di (Dp f))),Ja (g.o)⟩
  . obtain rfl:=(f.o.2.2.2.2.1 (o 4 DQ));clear o;refine Za ?_;exact⟨_,_,_,_,_,_,_,rfl,(D0 (Dx f)),Ja (g.o)⟩
  . clear o;refine Za ?_;exact⟨_,_,_,_,_,_,_,rfl,(Lr f),Ja (g.o)⟩
 rintro D ad V6 T ⟨td,te,tf,tg,ti,tj,tk,rfl,f,g⟩;obtain rfl:=f.o.1 (T 0 DS);obtain rfl:=f.o.2.1 (T 1 DS);obtain rfl:=f.o.2.2.1 (T 2 DS);obtain rfl:=f.o.2.2.2.1 (T 3 DS);obtain rfl:=f.o.2.2.2.2.1 (T 4 DS);obtain rfl:=Ds f (T 5 DS);obtain rfl:=f.o.2.2.2.2.2.2 (T 6 DS);clear f T M3;have M4:Hid (Mem w V6 [some (w.heap.size,.cell 25 (C H la R)),some (w.heap.size+1,.cell 25 (C q lb z)),some (w.heap.size+1+1,.cell 25 (C none 0 0)),some (X,.rat (L)),some (S,.rat (L^0))]):=g;clear g;go_wp2;go_loopw [25] (λiv wr=>∃i:Nat,i<=N/\iv=Q .i64 (i:Int)/\Hid (Mem w wr [some (w.heap.size,.cell 25 (C H la R)),some (w.heap.size+1,.cell 25 (C q lb z)),some (w.heap.size+1+1,.cell 25 (C none 0 0)),some (X,.rat (L)),some (S,.rat (L^i))])) (λiv _=>N-(intOf iv).toNat)
 case atStart=>exact⟨0,AK _,rfl,M4⟩
 case round=>
  clear M4;obtain⟨i,W,rfl,Y⟩:=hrel;by_cases ap:i<N
  . have Qf:(i:Int)<e4:=(Qc.o.1 i).2 ap;have cj:N<=1099511627777:=Qc.o.2;obtain⟨s7,a7,l7,c7,t7,b7,k7,d7,n7,r7,i7,j7⟩:=Y.o.rat (i:=3) rfl;obtain⟨bk,cl,bi,ck⟩:=n7.cq;obtain⟨s8,a8,l8,c8,t8,b8,k8,d8,n8,r8,i8,j8⟩:=Y.o.rat (i:=4) rfl;obtain⟨Qg,Qp,Qr,Qi⟩:=n8.cq;obtain⟨Qq,Qh,Qo,Qm⟩:=n8.fq;have H1:=Ja (Kx _ _ (L^i) L wr r8 r7 (Qb.o i om) (by have:=Qb.o 1 om;rwa[Rat.pow_one]at this));rw[<-Rat.pow_succ]at H1;go_upto_region 6 with(go_at_call 52;refine H1.o.mono ?_;clear H1;rintro e w6 ⟨u6,rfl,bg,hq⟩;obtain⟨s8,a8,l8,c8,t8,b8,k8,d8,rfl⟩:=Jj.form bg;clear Qg Qp Qr Qi;obtain⟨Qg,Qp,Qr,Qi⟩:=(n8.below hq).cq;clear Qq Qh Qo Qm;obtain⟨Qq,Qh,Qo,Qm⟩:=(n8.below hq).fq)
    obtain⟨V9,hV⟩:=ex ((((w6.setCell ⟨S,0,none⟩ (O s8)).setCell ⟨S,1,none⟩ (C a8 l8 c8)).setCell ⟨S,2,none⟩ (O t8)).setCell ⟨S,3,none⟩ (C b8 k8 d8));have g:Mem w ((((w6.setCell ⟨S,0,none⟩ (O s8)).setCell ⟨S,1,none⟩ (C a8 l8 c8)).setCell ⟨S,2,none⟩ (O t8)).setCell ⟨S,3,none⟩ (C b8 k8 d8)) [some (w.heap.size,.cell 25 (C H la R)),some (w.heap.size+1,.cell 25 (C q lb z)),some (w.heap.size+1+1,.cell 25 (C none 0 0)),some (X,.rat (L)),some (S,.rat (L^(i+1)))]:=Mem.putRat (Y.o.below hq) (i:=4) rfl bg;rw[hV]at g;rw[hV];have M6:Hid (Mem w V9 [some (w.heap.size,.cell 25 (C H la R)),some (w.heap.size+1,.cell 25 (C q lb z)),some (w.heap.size+1+1,.cell 25 (C none 0 0)),some (X,.rat (L)),some (S,.rat (L^(i+1)))]):=Ja (g);clear Y;clear g hV;go_wp2_with fail
    go_roundw
    case rel=>exact⟨i+1,om,by go_num,M6⟩
    case measure=>simp[intOf];omega
  . have Qf:¬(i:Int)<e4:=λh=>ap ((Qc.o.1 i).1 h);obtain rfl:i=N:=om
    obtain⟨co,di,bt,cn,dt,b10,ci,cg,bh,r10,bn,bm⟩:=Y.o.rat (i:=4) rfl;obtain⟨dh,bu,ce,dj⟩:=bh.cq;have c0:=(Y.o.cell (i:=0) rfl).1.cell;have n1:=(Y.o.cell (i:=2) rfl).1;have Qe:=Ja Y.o.2.2;have H2:=Ja (Ss (I #[C H la R]) _ ps (L^i) wr (HP.o wr Qe.o) r10 Qv.o (Qb.o i (Aa _)) Qy.o);rw[HT.o]at H2;go_wp2_with(go_at_call 98;refine H2.o.mono ?_;clear H2;rintro e U ⟨u5,rfl,Z,A⟩;obtain⟨a7,l7,c7,rfl⟩:=Z.form;have n5:=boxed_below n1 A;have x0:=n5.cell;have x1:=n5.frozen;have Uc:=Ja (LH n5 (x:=C a7 l7 c7) Z);have Qx:=Ja ((Bt Qe.o A).setCell (p:=⟨w.heap.size+1+1,0,none⟩) (by show w.heap.size<=w.heap.size+1+1;omega) (C a7 l7 c7));clear Z A n5)
    exact BA (v:=I #[C a7 l7 c7]) (by simp[results,Tryz.results99,go_sem,x0]) rfl ⟨_,rfl,Uc.o,Qx.o⟩
theorem eL{A:Nat}(m:Eo A ps)(c:Eo A qs)(tq:Jd qs=qs)(q0:qs≠[])(d:1<=A)(K:4*((ps.length+2)*(A+1))<=1000000):
 Db ps/\Db qs/\(∀i,i<=ps.length+1-qs.length->Sq (Yu (cf qs (qs.length-1))^i))/\(∀i,Sq (cf ps i*Gq ps qs))/\Db (Xb ps qs)/\(∀i,Df A (cf qs i))/\
 ∃l:Int,Dvn 1 1 l ((ps.length+2)*A+1) A (Xb ps qs) qs:=by
 have L:(ps.length+2)*(A+1)=(ps.length+2)*A+(ps.length+2):=by rw[Ax,Fy]
 have H:0<qs.length:=Aq.2 q0;obtain⟨l,p,f⟩:=c (qs.length-1);have x:l≠0:=λe=>by
  have:=JF tq q0;rw[f,e]at this;exact this rfl
 have t:Yu (cf qs (qs.length-1))=((l.natAbs:Int):Rat):=by
  rw[f];unfold Yu;have a:((l:Rat)<0)↔l<0:=by
   rw[show(0:Rat)=((0:Int):Rat)from rfl];exact Rat.intCast_lt_intCast
  split
  . rename_i h;rw[a]at h;rw[<-Rat.intCast_neg];congr 1;omega
  . rename_i h;rw[a]at h;congr 1;omega
 have o:∀i:Nat,∃z:Int,Sm (i*A+1) z/\Yu (cf qs (qs.length-1))^i=(z:Rat):=λi=>by
  refine⟨(l.natAbs:Int)^i,?_,?_⟩
  . refine Sm.powZ ?_ i;unfold Sm at p ⊢;rwa[AR]
  . rw[t,Rat.intCast_pow]
 have n:∀(k:Nat) (z:Int),Sm k z->k<=1000000->1<=k->Sq (z:Rat):=λk z u w a=>Sq.of ((Mh (D:=1) DS u (by rw[show((1:Int):Rat)=1 from rfl,Rat.mul_one])).smq DS (Sm.one k a)) w;have B:ps.length+1-qs.length<=ps.length:=om
 have q:∀i:Nat,i<=ps.length->i*A<=(ps.length+2)*A:=λi s=>Ak _ om;have g:Eo ((ps.length+2)*A+1) (Xb ps qs):=λi=>by
  obtain⟨z,a,b⟩:=m i;obtain⟨y,j,v⟩:=o (ps.length+1-qs.length);refine⟨z*y,(a.mul j).mono ?_,?_⟩
  . have r:(ps.length+1-qs.length+1)*A<=(ps.length+2)*A:=Ak _ om;rw[AA,Cw]at r;omega
  . unfold Xb Gq;rw[Y2,b,v,CE]
 have hA9:A<=(ps.length+2)*A:=by
  have:1*A<=(ps.length+2)*A:=Ak _ om;omega
 refine⟨Db.of λi=>Sq.of (m.smq d i) om,Db.of λi=>Sq.of (c.smq d i) om,λi s=>?_,λi=>?_,Db.of λi=>Sq.of (g.smq om i) om,c.smq d,l,?_⟩
 . obtain⟨z,a,b⟩:=o i;rw[b];exact n _ z a (by have:=q i om;omega) om
 . obtain⟨z,a,b⟩:=g i;have j:cf ps i*Gq ps qs=(z:Rat):=by rw[<-b];unfold Xb;rw[Y2]
   rw[j];exact n _ z a om om
 . refine⟨DS,Sm.one _ om,g.cdl,DS,Sm.one _ d,c.cdl,x,p,?_⟩;rw[f,C6,show((1:Int):Rat)=1 from rfl];grind
theorem eM(tp:Jd ps=ps)(tq:Jd qs=qs)(q0:qs≠[]):(Xb ps qs).length=ps.length:=Yl (Oi tq q0) tp
theorem eN(A:Nat)(va vb:P)(ps qs:List Rat)(w:J)(ha:Jg w va ps)(hb:Jg w vb qs)(wp:Eo A ps)(wq:Eo A qs)(tp:Jd ps=ps)(tq:Jd qs=qs)(q0:qs≠[])(hA:1<=A)(an:4*((ps.length+2)*(A+1))<=1000000)(hr:Ln A (J3 ps qs)):
 Calls Tryz.prog 57 #[va,vb] w λe w'=>∃u,e=.returned u/\Jg w' u (Ep ps qs)/\Bl w w':=by
 obtain⟨s1,s2,s3,s4,s5,s6,l,ad⟩:=eL wp wq tq q0 hA an;have b1:(ps.length+2)*(A+1)=(ps.length+2)*A+(ps.length+2):=by rw[Ax,Fy]
 obtain⟨m,hm⟩:=ex ((Xb ps qs).length-(qs.length-1));have Qe:m<=ps.length:=by rw[eM tp tq q0]at hm;omega
 have b2:m*(A+1)<=ps.length*(A+1):=Ak _ Qe;have b3:(ps.length+2)*(A+1)=ps.length*(A+1)+2*(A+1):=AA _ _ _;have Qo:=Ja (λ(V:J) (x y:P) (Z:Jg V x (Xb ps qs)) (hy:Jg V y qs)=>eF A x y (Xb ps qs) qs V Z hy s5 s6 (Yc _ _) tq q0 (by
  rw[hm];exact ad.sizes om))
 have Qh:=(ad.rem hm).1;have Qc:=ad.den m;have Qg:=Ja (λ(V:J) (x:P) (Z:Jg V x (J3 (Xb ps qs) qs))=>Ok (1*l^m) ((ps.length+2)*A+1+m*(A+1)+1) x (J3 (Xb ps qs) qs) V Z (YP _ _) Qc.1 Qc.2 (λi=>(Qh i).mono om) om);have Qd:=Sh tq q0 hr;have Qk:Db (YS (J3 (Xb ps qs) qs)):=Db.of λi=>Sq.of (Qd.1.smq hA i) om;have Ql:Db (J2 [] (YS (J3 (Xb ps qs) qs))):=Db.of λi=>Sq.of (Qd.2.smq hA i) om;have Qf:=Ja (λ(V:J) (y:P) (hy:Jg V y (YS (J3 (Xb ps qs) qs)))=>RE _ y [] (YS (J3 (Xb ps qs) qs)) V (Sr V) hy (Db.of λi=>by rw[YQ];exact Ip) Qk Ql);have Qp:=Ja (λ(V:J) (x y:P) (Z:Jg V x ps) (hy:Jg V y qs)=>eK x y ps qs V Z hy s1 s2 q0 s3 s4);clear s1 s2 s3 s4 s5 s6 ad b1 hm Qe b2 b3 Qh Qc Qd Qk Ql wp wq tp tq q0 hA an hr;have Qn:Tryz.prog.follows .mixedOrders=true:=by kernel_rfl
 obtain⟨T,la,R,rfl⟩:=ha.form;obtain⟨H,lb,s,rfl⟩:=hb.form;have M0:=(((Mem.nil w).push (.cell 25 (C T la R)) (cs:=#[C T la R]) ⟨rfl,rfl⟩).push (.cell 25 (C H lb s)) (cs:=#[C H lb s]) ⟨rfl,rfl⟩).push (.cell 25 (C none 0 0)) (cs:=#[C none 0 0]) ⟨rfl,rfl⟩;simp only[A1]at M0;obtain⟨W0,af⟩:=ex (((w.alloc (G #[C T la R] 25)).alloc (G #[C H lb s] 25)).alloc (G #[C none 0 0] 25));obtain⟨Qi,HP,HQ⟩:=Dm af (λ(V:J) (hB:Bl w V)=>ha.below hB) (λ(V:J) (hB:Bl w V)=>hb.below hB);have M1:Hid (Mem w W0 [some (w.heap.size,.cell 25 (C T la R)),some (w.heap.size+1,.cell 25 (C H lb s)),some (w.heap.size+1+1,.cell 25 (C none 0 0))]):=Ja (by rw[<-af];exact M0);clear M0 af ha hb;go_enter Tryz.func57,Tryz.ntmps57
 go_upto_region 1 with fail
 rw[Qi.o];clear Qi;refine Jk Qn [[],[],[0,1],[],[2,3,2],[4],[5],[5],[5],[],[],[9,6,4,0,1,2,3,4,5,6,9,10],[10,7,11,0,1,2,3,4,5,6,7,9,10,11],[8,12,0,1,2,3,4,5,6,7,8,9,10,11,12]] (by kernel_rfl) DS
  (λD aj V=>∃(tm ta tb tc td tl te tf tg ti tj tk:P) (U X:Option (Nat × Dat)),aj={ tmps:=#[I #[C T la R],I #[C H lb s],F (some ⟨w.heap.size,0,none⟩),F (some ⟨w.heap.size+1,0,none⟩),F (some ⟨w.heap.size+1+1,0,none⟩),ti,tj,tk,tl,tm,ta,tb,tc,td,te,tf,tg,E,E,E,E],defers:=[] }/\Hid ((D 0=true->tm=I #[C T la R])/\(D 1=true->ta=I #[C H lb s])/\(D 2=true->Has V tb (.poly (Xb ps qs)))/\(D 3=true->tc=I #[C H lb s])/\(D 4=true->Tup2 V td (.poly (Y8 (Xb ps qs) qs)) (.poly (J3 (Xb ps qs) qs)))/\(D 5=true->Tup2 V tl (.poly (Y8 (Xb ps qs) qs)) (.poly (J3 (Xb ps qs) qs)))/\(D 6=true->Has V te (.poly (Y8 (Xb ps qs) qs)))/\(D 7=true->Has V tf (.poly (J3 (Xb ps qs) qs)))/\(D 8=true->tg=O true)/\((D 9=false->U=none)/\(D 9=true->D 11=false->∃B:Nat,ti=F (some ⟨B,0,none⟩)/\U=some (B,.poly []))/\(D 11=true->∃B:Nat,ti=F (some ⟨B,0,none⟩)/\U=some (B,.poly (Y8 (Xb ps qs) qs))))/\((D 10=false->X=none)/\(D 10=true->D 12=false->∃B:Nat,tj=F (some ⟨B,0,none⟩)/\X=some (B,.poly []))/\(D 12=true->∃B:Nat,tj=F (some ⟨B,0,none⟩)/\X=some (B,.poly (J3 (Xb ps qs) qs))))/\(D 13=true->tk=O true))/\Hid (Mem w V [some (w.heap.size,.cell 25 (C T la R)),some (w.heap.size+1,.cell 25 (C H lb s)),some (w.heap.size+1+1,.cell 25 (C none 0 0)),U,X]))
  ⟨_,_,_,_,_,_,_,_,_,_,_,_,none,none,rfl,Ja ⟨DQ,DQ,DQ,DQ,DQ,DQ,DQ,DQ,DQ,DQ,DQ,DQ⟩,Ja (((M1.o).none).none).drew⟩ ?step1 ?fin1
 case step1=>
  rintro D aj V i ds am hi d W ⟨tm,ta,tb,tc,td,tl,te,tf,tg,ti,tj,tk,U,X,rfl,b,f⟩;have bc:i<14:=(Ac.1 hi).1;obtain rfl|rfl|rfl|rfl|rfl|rfl|rfl|rfl|rfl|rfl|rfl|rfl|rfl|rfl:=F2 i om
  all_goals
   simp only[Af,Ae,Ag]at hi;subst hi
  . have e0:=(f.o.cell (i:=0) rfl).1.cell;clear d;refine Za ?_;exact⟨_,_,_,_,_,_,_,_,_,_,_,_,_,_,rfl,(Dh b),Ja (f.o)⟩
  . have e0:=(f.o.cell (i:=1) rfl).1.cell;clear d;refine Za ?_;exact⟨_,_,_,_,_,_,_,_,_,_,_,_,_,_,rfl,(Dp b),Ja (f.o)⟩
  . obtain rfl:=(b.o.1 (d 0 DQ));obtain rfl:=(b.o.2.1 (d 1 DQ));have HC:=Ja (Qp.o V _ _ (HP.o V f.o.2.2) (HQ.o V f.o.2.2));clear d;refine Jb rfl rfl λK hK=>?_;go_simp;go_wp2_with(go_at_call 99;refine HC.o.mono ?_;rintro e w5 ⟨v5,rfl,ah,g⟩)
    obtain⟨_,_,_,N,t,j,k,o,q⟩:=b.o;exact⟨_,_,_,_,_,_,_,_,_,_,_,_,_,_,rfl,Ja ⟨λ_=>rfl,λ_=>rfl,λ_=>ah,N,λh=>(t h).below g,λh=>(j h).below g,λh=>(k h).below g,λh=>(o h).below g,q⟩,Ja (f.o.below g)⟩
  . have e0:=(f.o.cell (i:=1) rfl).1.cell;clear d;refine Za ?_;exact⟨_,_,_,_,_,_,_,_,_,_,_,_,_,_,rfl,(Di b),Ja (f.o)⟩
  . have h0:=(b.o.2.2.1 (d 2 DQ));obtain rfl:=(b.o.2.2.2.1 (d 3 DQ));have HC:=Ja (Qo.o V _ _ h0 (HQ.o V f.o.2.2));clear d h0;refine Jb rfl rfl λK hK=>?_;go_simp;go_wp2_with(go_at_call 22;refine HC.o.mono ?_;rintro e w5 ⟨v5,v6,rfl,ah,aq,g⟩)
    obtain⟨z,L,M,_,_,j,k,o,q⟩:=b.o;exact⟨_,_,_,_,_,_,_,_,_,_,_,_,_,_,rfl,Ja ⟨z,L,λh=>(M h).below g,λ_=>rfl,λ_=>⟨v5,v6,rfl,ah,aq⟩,λh=>(j h).below g,λh=>(k h).below g,λh=>(o h).below g,q⟩,Ja (f.o.below g)⟩
  . have h0:=(b.o.2.2.2.2.1 (d 4 DQ));clear d;refine Za ?_;exact⟨_,_,_,_,_,_,_,_,_,_,_,_,_,_,rfl,(D0 b λ_=>h0),Ja (f.o)⟩
  . obtain⟨y1,y2,rfl,h1,h2⟩:=((Ds b) (d 5 DQ));clear d;refine Za ?_;exact⟨_,_,_,_,_,_,_,_,_,_,_,_,_,_,rfl,(Dw b λ_=>h1),Ja (f.o)⟩
  . obtain⟨y1,y2,rfl,h1,h2⟩:=((Ds b) (d 5 DQ));clear d;refine Za ?_;exact⟨_,_,_,_,_,_,_,_,_,_,_,_,_,_,rfl,(EB b λ_=>h2),Ja (f.o)⟩
  . obtain⟨y1,y2,rfl,h1,h2⟩:=((Ds b) (d 5 DQ));clear d;refine Za ?_;exact⟨_,_,_,_,_,_,_,_,_,_,_,_,_,_,rfl,(EI b),Ja (f.o)⟩
  . have hf:D 11=false:=DU am W;obtain rfl:=b.o.2.2.2.2.2.2.2.2.2.1.1 W;clear d;refine Za ?_;obtain⟨z,L,M,N,t,j,k,o,q,_,ak⟩:=b.o;exact⟨_,_,_,_,_,_,_,_,_,_,_,_,_,_,rfl,Ja ⟨z,L,λh=>(M h).alloc _,N,λh=>(t h).alloc _,λh=>(j h).alloc _,λh=>(k h).alloc _,λh=>(o h).alloc _,q,⟨λh=>by simp at h,λ_ _=>⟨_,rfl,rfl⟩,λh=>by simp[hf]at h⟩,ak⟩,Ja (f.o.fill (i:=3) rfl (.poly []) (Hf _))⟩
  . have hf:D 12=false:=DU am W;obtain rfl:=b.o.2.2.2.2.2.2.2.2.2.2.1.1 W;clear d;refine Za ?_;obtain⟨z,L,M,N,t,j,k,o,q,G9,_,ai⟩:=b.o;exact⟨_,_,_,_,_,_,_,_,_,_,_,_,_,_,rfl,Ja ⟨z,L,λh=>(M h).alloc _,N,λh=>(t h).alloc _,λh=>(j h).alloc _,λh=>(k h).alloc _,λh=>(o h).alloc _,q,G9,⟨λh=>by simp at h,λ_ _=>⟨_,rfl,rfl⟩,λh=>by simp[hf]at h⟩,ai⟩,Ja (f.o.fill (i:=4) rfl (.poly []) (Hf _))⟩
  . obtain⟨B,rfl,rfl⟩:=b.o.2.2.2.2.2.2.2.2.2.1.2.1 (d 9 DQ) W;have Qb:=d 9 DQ;have hv:=((Dy b) (d 6 DQ));obtain⟨a1,l1,c1,rfl⟩:=Jg.form (show Jg V _ _ from hv);obtain⟨a,l,c,n,r⟩:=f.o.poly2 (i:=3) rfl;have e0:=n.cell;have f0:=n.frozen;clear d;refine Za ?_;obtain⟨z,L,M,N,t,j,k,o,q,_,ak⟩:=b.o;exact⟨_,_,_,_,_,_,_,_,_,_,_,_,_,_,rfl,Ja ⟨z,L,λh=>(M h).set1 n rfl _,N,λh=>(t h).set1 n rfl _,λh=>(j h).set1 n rfl _,λh=>(k h).set1 n rfl _,λh=>(o h).set1 n rfl _,q,⟨λh=>by simp[Qb]at h,λ_ h=>by simp at h,λ_=>⟨B,rfl,rfl⟩⟩,ak⟩,Ja (f.o.putPoly (i:=3) rfl hv)⟩
  . obtain⟨B,rfl,rfl⟩:=b.o.2.2.2.2.2.2.2.2.2.2.1.2.1 (d 10 DQ) W;have Qb:=d 10 DQ;have hv:=((D9 b) (d 7 DQ));obtain⟨a1,l1,c1,rfl⟩:=Jg.form (show Jg V _ _ from hv);obtain⟨a,l,c,n,r⟩:=f.o.poly2 (i:=4) rfl;have e0:=n.cell;have f0:=n.frozen;clear d;refine Za ?_;obtain⟨z,L,M,N,t,j,k,o,q,G9,_,ai⟩:=b.o;exact⟨_,_,_,_,_,_,_,_,_,_,_,_,_,_,rfl,Ja ⟨z,L,λh=>(M h).set1 n rfl _,N,λh=>(t h).set1 n rfl _,λh=>(j h).set1 n rfl _,λh=>(k h).set1 n rfl _,λh=>(o h).set1 n rfl _,q,G9,⟨λh=>by simp[Qb]at h,λ_ h=>by simp at h,λ_=>⟨B,rfl,rfl⟩⟩,ai⟩,Ja (f.o.putPoly (i:=4) rfl hv)⟩
  . obtain rfl:=((EF b) (d 8 DQ));clear d;refine Za ?_;exact⟨_,_,_,_,_,_,_,_,_,_,_,_,_,_,rfl,(Ib (EI b)),Ja (f.o)⟩
 rintro D aj V2 S ⟨tm,ta,tb,tc,td,tl,te,tf,tg,ti,tj,tk,U,X,rfl,b,f⟩;obtain⟨B3,rfl,rfl⟩:=b.o.2.2.2.2.2.2.2.2.2.1.2.2 (S 11 DS);obtain⟨B4,rfl,rfl⟩:=b.o.2.2.2.2.2.2.2.2.2.2.1.2.2 (S 12 DS);obtain rfl:=b.o.1 (S 0 DS);obtain rfl:=b.o.2.1 (S 1 DS);obtain rfl:=b.o.2.2.2.1 (S 3 DS);obtain rfl:=EF b (S 8 DS);obtain rfl:=b.o.2.2.2.2.2.2.2.2.2.2.2 (S 13 DS);clear b S M1;have M2:Hid (Mem w V2 [some (w.heap.size,.cell 25 (C T la R)),some (w.heap.size+1,.cell 25 (C H lb s)),some (w.heap.size+1+1,.cell 25 (C none 0 0)),some (B3,.poly (Y8 (Xb ps qs) qs)),some (B4,.poly (J3 (Xb ps qs) qs))]):=f;clear f;obtain⟨a5,l5,c5,Y,r5⟩:=M2.o.poly2 (i:=4) rfl;have az:=Y.cell;have n1:=(M2.o.cell (i:=2) rfl).1;have Qj:=Ja M2.o.2.2;have H1:=Ja (Qg.o V2 _ r5);clear Qg;go_wp2_with(first
  |(go_at_call 56;refine H1.o.mono ?_;clear H1;rintro e w4 ⟨u4,rfl,ay,aw⟩)
  |(go_at_call 48;refine(Qf.o _ _ ay).mono ?_;clear Qf;rintro e w5 ⟨u5,rfl,ae,_,ap⟩;have g:=Bt aw ap;obtain⟨a7,l7,c7,rfl⟩:=ae.form;have Y:=boxed_below n1 g;have x0:=Y.cell;have x1:=Y.frozen;have Qq:=Ja (LH Y (x:=C a7 l7 c7) ae);have Qm:=Ja ((Bt Qj.o g).setCell (p:=⟨w.heap.size+1+1,0,none⟩) (by show w.heap.size<=w.heap.size+1+1;omega) (C a7 l7 c7));clear ae g Y))
 exact BA (v:=I #[C a7 l7 c7]) (by simp[results,Tryz.results57,go_sem,x0]) rfl ⟨_,rfl,Qq.o,Qm.o⟩
def Gr(b:Bool)(V:J)(t:P)(c:Rat):Prop:=∃u,t=.tuple #[u,O true]/\(b=false->Jj V u c)
theorem Gr.of(h:KS V t c):Gr b V t c:=by
 obtain⟨u,e,h⟩:=h;exact⟨u,e,λ_=>h⟩
theorem Gr.below{b:Bool}{V V':J}{t:P}{c:Rat}(h:Gr b V t c)(a:Bl V V'):Gr b V' t c:=by
 obtain⟨u,e,h⟩:=h;exact⟨u,e,λe=>(h e).below a⟩
theorem Gr.any{a:Bool}{V':J}(h:Gr b V t c)(d:a=true):Gr a V' t c:=by
 obtain⟨u,e,h⟩:=h;exact⟨u,e,λe=>by rw[d]at e;cases e⟩
theorem St(v:P)(ps:List Rat)(w:J)(h:Jg w v ps)(ay:Db ps)(an:Jd ps=ps)(am:∀i,Sq (cf ps i/cf ps (ps.length-1))):
 Calls Tryz.prog 26 #[v] w λe w'=>∃u,e=.returned u/\Jg w' u (JG ps)/\Bl w w':=by
 have Qs:Tryz.prog.follows .mixedOrders=true:=by kernel_rfl
 obtain⟨l,la,k,rfl⟩:=h.form;obtain⟨bg,bc,bf,az,_⟩:=h.row.forms;have M0:=(((Mem.nil w).push (.cell 25 (C l la k)) (cs:=#[C l la k]) ⟨rfl,rfl⟩).push (.cell 25 (C none 0 0)) (cs:=#[C none 0 0]) ⟨rfl,rfl⟩);simp only[A1]at M0;obtain⟨V0,ah⟩:=ex ((w.alloc (G #[C l la k] 25)).alloc (G #[C none 0 0] 25));have M1:Mem w V0 [some (w.heap.size,.cell 25 (C l la k)),some (w.heap.size+1,.cell 25 (C none 0 0))]:=by rw[<-ah];exact M0
 have Qd:=Ja M1;obtain⟨n,hn⟩:=ex (ps.length:Nat);obtain⟨R,aq⟩:=ex ((n:Int)-1:Int);have Qf:=Ja (YA (I #[C l la k]) ps V0 (h.below M1.2.2));rw[hn,aq]at Qf;have bi:R+1=(n:Int):=om
 have bh:IntKind.i64.wrap (n:Int)=(n:Int):=by rw[BS];omega
 have Qu:∀W:J,(Instr.makeSlice 22 (Q .i64 (n:Int)) (Q .i64 (n:Int))).run Tryz.prog W=.ok (C (some ⟨W.heap.size,0,none⟩) n n) (W.alloc (G (Ye n) 65)):=λW=>Sp n om W;obtain⟨HP,Qj,Qq,HN⟩:=EC (λ(V:J) (hB:Bl w V)=>h.below hB) ay am (show ps.length=n from hn);have Qh:n<=1099511627776:=om
 have Qm:=Ja ah;have Qv:=Ja an;clear h ay am bg bc bf hn aq M0 M1 ah az an;go_enter Tryz.func26,Tryz.ntmps26
 go_upto_region 1 with fail
 rw[Qm.o];have c0:=(Qd.o.cell (i:=0) rfl).1.cell;go_upto_region 2 with(go_at_call 20;refine Qf.o.mono ?_;clear Qf;rintro e w1 ⟨rfl,ap⟩)
 have Qg:Mem w (w1.alloc (G (Ye n) 65)) [some (w.heap.size,.cell 25 (C l la k)),some (w.heap.size+1,.cell 25 (C none 0 0)),some (w1.heap.size,.rats (List.replicate n 0))]:=(Qd.o.below ap).push (.rats (List.replicate n 0)) (K9 _ n);obtain⟨V1,ai⟩:=ex (w1.alloc (G (Ye n) 65));obtain⟨A,ae⟩:=ex (w1.heap.size);rw[ai,ae]at Qg;rw[ai,ae];have Qk:=Ja Qg;clear Qg ai ae ap c0 Qd Qm Qu;go_wp2;go_loopw [11] (λiv wr=>∃(i:Nat) (S:List Rat),i<=n/\iv=Q .i64 (i:Int)/\Hid (Iw (λj=>cf ps j/cf ps (ps.length-1)) n i S)/\Hid (Mem w wr [some (w.heap.size,.cell 25 (C l la k)),some (w.heap.size+1,.cell 25 (C none 0 0)),some (A,.rats S)])) (λiv _=>n-(intOf iv).toNat)
 case atStart=>exact⟨0,_,AK _,rfl,Ja ⟨Au,λj=>by rw[JN,BC om]⟩,Qk⟩
 case round=>
  obtain⟨i,S,hi,rfl,X,HM⟩:=hrel;clear Qk;by_cases aj:i<n
  . have bk:(i:Int)<(n:Int):=om
    have Qi:=Ja (show i<S.length by rw[X.o.1];exact aj);have Ql:=Ja (show i<ps.length by rw[HN.o];exact aj);go_wp2_with fail
    have Qt:=HM.o.drew;obtain⟨m,hm⟩:=ex (ps.length-1:Nat);obtain⟨Qn,Qo,Qr⟩:=Dm (show(ps.length:Int)-1=(m:Int)by have:=Ql.o;omega) hm (show decide (cf ps m≠0)=true by rw[<-hm];exact BK (JF Qv.o (λe=>by have:=Ql.o;rw[e]at this;simp at this)));clear hm;refine Jk Qs [[],[],[],[],[2,3],[],[],[6,4],[5,7,7],[4,8,8],[9],[10],[10],[0,1,0,1,2,3,4,5,6,7,8,9,10,11],[13,11,9,0,1,2,3,4,5,6,7,8,9,10,11]] (by kernel_rfl) DS
     (λD ak V=>∃(tb tc td te tf tg ti tj tk tl ta tm tn tp:P),ak={ tmps:=#[I #[C l la k],F (some ⟨w.heap.size,0,none⟩),F (some ⟨w.heap.size+1,0,none⟩),C (some ⟨A,0,none⟩) n n,Q .i64 ↑i,I #[C l la k],Q .i64 R,Q .i64 ↑n,C (some ⟨A,0,none⟩) n n,C (some ⟨A,0,none⟩) n n,Q .i64 ↑n,Q .i64 ↑i,O true,Q .i64 ↑i,ta,tb,tc,td,te,tf,tg,ti,tj,tk,tl,tm,tn,tp,u28,E,E],defers:=[] }/\Hid ((D 0=true->tb=C (some ⟨A,0,none⟩) n n)/\(D 1=true->tc=Q .i64 (i:Int))/\(D 2=true->td=I #[C l la k])/\(D 3=true->te=Q .i64 (i:Int))/\(D 4=true->D 14=false->Jj V tf (cf ps i))/\(D 5=true->tg=I #[C l la k])/\(D 6=true->ti=I #[C l la k])/\(D 7=true->tj=Q .i64 (m:Int))/\(D 8=true->D 14=false->Jj V tk (cf ps m))/\(D 9=true->D 14=false->KS V tl (cf ps i/cf ps m))/\(D 10=true->Gr (D 14) V ta (cf ps i/cf ps m))/\(D 11=true->D 14=false->Jj V tm (cf ps i/cf ps m))/\(D 12=true->tn=O true)/\(D 13=true->tp=F (some ⟨A,i*4,none⟩)))/\Hid ((D 14=false->Mem w V [some (w.heap.size,.cell 25 (C l la k)),some (w.heap.size+1,.cell 25 (C none 0 0)),some (A,.rats (S))])/\(D 14=true->Mem w V [some (w.heap.size,.cell 25 (C l la k)),some (w.heap.size+1,.cell 25 (C none 0 0)),some (A,.rats (S.set i (cf ps i/cf ps m)))])))
     (E8 ⟨_,_,_,_,_,_,rfl,Ja DQ,Ja ⟨λ_=>Qt,DQ⟩⟩) ?step1 ?fin1
    case step1=>
     rintro D ak V i ds t hi c o ⟨tb,tc,td,te,tf,tg,ti,tj,tk,tl,ta,tm,tn,tp,rfl,b,d⟩;have bj:i<15:=(Ac.1 hi).1;obtain rfl|rfl|rfl|rfl|rfl|rfl|rfl|rfl|rfl|rfl|rfl|rfl|rfl|rfl|rfl:=IQ i om
     all_goals
      simp only[Af,Ae,Ag]at hi;subst hi
     . clear c;refine DW ?_;exact⟨(Dh b),d⟩
     . clear c;refine DW ?_;exact⟨(Dp b),d⟩
     . have g:=d.o.1 (DU t o);have R:=(g.cell (i:=0) rfl).1.cell;clear c;refine DW ?_;exact⟨(Dg b),d⟩
     . clear c;refine DW ?_;exact⟨(Di b),d⟩
     . have g:=d.o.1 (DU t o);obtain rfl:=b.o.2.2.1 (c 2 DQ);obtain rfl:=b.o.2.2.2.1 (c 3 DQ);clear c;have r:=Ja (KD _ ps (i:Int) V (HP.o V g.2.2));rw[KW]at r;refine Jb rfl rfl λK hK=>?_;go_simp;go_wp2_with(go_at_call 58;refine r.o.mono ?_;rintro e w5 ⟨v5,rfl,ad,a⟩)
       obtain⟨s,x,_,_,_,B,H,Z,G8,G9,z,M,y⟩:=b.o;exact E8 ⟨_,_,_,_,_,_,rfl,Ja ⟨s,x,λ_=>rfl,λ_=>rfl,λ_ _=>ad,B,H,Z,λh f=>(G8 h f).below a,λh f=>(G9 h f).below a,λh=>(z h).below a,λh f=>(M h f).below a,y⟩,Ja ⟨λh=>(d.o.1 h).below a,λh=>(d.o.2 h).below a⟩⟩
     . have g:=d.o.1 (DU t o);have R:=(g.cell (i:=0) rfl).1.cell;clear c;refine DW ?_;exact⟨(D0 b),d⟩
     . have g:=d.o.1 (DU t o);have R:=(g.cell (i:=0) rfl).1.cell;clear c;refine DW ?_;exact⟨(Dw b),d⟩
     . have g:=d.o.1 (DU t o);obtain rfl:=Dy b (c 6 DQ);clear c;have r:=Ja (YA _ ps V (HP.o V g.2.2));rw[Qn.o]at r;refine Jb rfl rfl λK hK=>?_;go_simp;go_wp2_with(go_at_call 20;refine r.o.mono ?_;rintro e w5 ⟨rfl,a⟩)
       obtain⟨s,x,L,N,Y,B,_,_,G8,G9,z,M,y⟩:=b.o;exact E8 ⟨_,_,_,_,_,_,rfl,Ja ⟨s,x,L,N,λh f=>(Y h f).below a,B,λ_=>rfl,λ_=>rfl,λh f=>(G8 h f).below a,λh f=>(G9 h f).below a,λh=>(z h).below a,λh f=>(M h f).below a,y⟩,Ja ⟨λh=>(d.o.1 h).below a,λh=>(d.o.2 h).below a⟩⟩
     . have g:=d.o.1 (DU t o);obtain rfl:=Ds b (c 5 DQ);obtain rfl:=D9 b (c 7 DQ);clear c;have r:=Ja (KD _ ps (m:Int) V (HP.o V g.2.2));rw[KW]at r;refine Jb rfl rfl λK hK=>?_;go_simp;go_wp2_with(go_at_call 58;refine r.o.mono ?_;rintro e w5 ⟨v5,rfl,ad,a⟩)
       obtain⟨s,x,L,N,Y,_,H,_,_,G9,z,M,y⟩:=b.o;exact E8 ⟨_,_,_,_,_,_,rfl,Ja ⟨s,x,L,N,λh f=>(Y h f).below a,λ_=>rfl,H,λ_=>rfl,λ_ _=>ad,λh f=>(G9 h f).below a,λh=>(z h).below a,λh f=>(M h f).below a,y⟩,Ja ⟨λh=>(d.o.1 h).below a,λh=>(d.o.2 h).below a⟩⟩
     . have U:D 14=false:=DU t o;have q:=b.o.2.2.2.2.1 (c 4 DQ) U;have h1:=EF b (c 8 DQ) U;clear c;have r:=Ja (Q9 _ _ (cf ps i) (cf ps m) V q h1 (Qj.o.at i) (Qj.o.at m));rw[Qr.o]at r;clear q h1;refine Jb rfl rfl λK hK=>?_;go_simp;go_wp2_with(go_at_call 50;refine r.o.mono ?_;rintro e w5 ⟨v5,rfl,ad,a⟩)
       obtain⟨s,x,L,N,Y,B,H,Z,G8,_,z,M,y⟩:=b.o;exact E8 ⟨_,_,_,_,_,_,rfl,Ja ⟨s,x,L,N,λh f=>(Y h f).below a,B,H,Z,λh f=>(G8 h f).below a,λ_ _=>⟨v5,rfl,ad⟩,λh=>(z h).below a,λh f=>(M h f).below a,y⟩,Ja ⟨λh=>(d.o.1 h).below a,λh=>(d.o.2 h).below a⟩⟩
     . have U:D 14=false:=DU t o;have q:=EU b (c 9 DQ) U;clear c;refine DW ?_;exact⟨(D6 b λ_=>Gr.of q),d⟩
     . have U:D 14=false:=DU t o;have q:=EJ b (c 10 DQ);obtain⟨v7,rfl,h7⟩:=q;clear c;refine DW ?_;exact⟨(D7 b λ_ _=>h7 U),d⟩
     . have q:=EJ b (c 10 DQ);obtain⟨v7,rfl,h7⟩:=q;clear c;refine DW ?_;exact⟨(EE b),d⟩
     . obtain rfl:=b.o.1 (c 0 DQ);obtain rfl:=b.o.2.1 (c 1 DQ);clear c;refine DW ?_;exact⟨(Ic (Dp (Dh b))),d⟩
     . have g:=d.o.1 o;have q:=Ee b (c 11 DQ) o;obtain rfl:=b.o.2.2.2.2.2.2.2.2.2.2.2.2.2 (c 13 DQ);have hE:=g.rats (i:=2) rfl;obtain⟨xa,xb,xc,xd,R,e1,e2,e3,_⟩:=hE.at Qi.o;have f0:=hE.frozen (i*4);have f1:=hE.frozen (i*4+1);have f2:=hE.frozen (i*4+2);have f3:=hE.frozen (i*4+3);obtain⟨s9,a9,l9,c9,t9,b9,k9,d9,rfl⟩:=Jj.form q;clear c;refine DW ?_;obtain⟨s,x,L,N,_,B,H,Z,_,_,z,_,y,_⟩:=b.o;exact⟨Ja ⟨s,x,L,N,λ_ h=>by simp at h,B,H,Z,λ_ h=>by simp at h,λ_ h=>by simp at h,λh=>Gr.any (z h) DQ,λ_ h=>by simp at h,y,λ_=>rfl⟩,Ja ⟨λh=>by simp at h,λ_=>g.putRats (i:=2) rfl Qi.o q⟩⟩
    case fin1=>
     rintro D ak V aw ⟨tb,tc,td,te,tf,tg,ti,tj,tk,tl,ta,tm,tn,tp,rfl,b,d⟩;have HO:=Ja (d.o.2 (aw 14 DS));clear b d aw;rw[<-Qo.o]at HO;go_wp2_with fail
     go_roundw
     case rel=>exact⟨i+1,_,om,by go_num,Ja (X.o.next aj),HO⟩
     case measure=>simp[intOf];omega
  . obtain rfl:i=n:=om
    have hE:=HM.o.rats (i:=2) rfl;have Qc:=hE.row (n:=i) (cap:=i) (by rw[X.o.1];exact Aa _) (Aa _) om Qh;rw[Ad (by rw[X.o.1];exact Aa _)]at Qc;have Qe:=Ja (RO _ S wr Qc (Db.of λj=>by
     rw[X.o.2 j];split
     . exact Qq.o j
     . exact Ip))
    rw[X.o.done (T:=JG ps) (Yc _ _) (λj hj=>by unfold JG;rw[Y2,Fz,Rat.one_mul,<-Fz]) (λj hj=>by unfold JG;rw[Y2,J4 (by rw[HN.o];exact hj),CQ])]at Qe;clear hE Qc;go_wp2_with(go_at_call 59;refine Qe.o.mono ?_;clear Qe;rintro e w5 ⟨u5,rfl,af,_,a⟩;obtain⟨a7,l7,c7,rfl⟩:=af.form;have n5:=boxed_below (HM.o.cell (i:=1) rfl).1 a;have x0:=n5.cell;have x1:=n5.frozen;have Qw:=Ja (FY n5 (C a7 l7 c7) af.row);have Qp:=Ja ((Bt HM.o.2.2 a).setCell (p:=⟨w.heap.size+1,0,none⟩) (by show w.heap.size<=w.heap.size+1;omega) (C a7 l7 c7));clear af a n5)
    exact BA (v:=I #[C a7 l7 c7]) (by simp[results,Tryz.results26,go_sem,x0]) rfl ⟨_,rfl,⟨_,rfl,Qw.o⟩,Qp.o⟩
end Go.Proofs.YteldjhhjnchdeaaGreatDoor.M3
namespace Go.Proofs.YteldjhhjnchdeaaGreatDoor
def Hy:Nat->List Rat->List Rat->List (List Rat)
 |0,a,_=>[a]
 |n+1,a,b=>if b=[]then [a]else a::Hy n b (Ep a b)
theorem eO:∀(n m:Nat) (a b:List Rat),Jd b=b->b.length<=n->b.length<=m->Hy n a b=Hy m a b:=by
 intro n;induction n with
 |zero=>
  intro m a b _ h _;have e:b=[]:=Oe om;subst e;cases m with
  |zero=>rfl
  |succ m=>simp[Hy]
 |succ n d=>
  intro m a b tb h f;by_cases c:b=[]
  . subst c;cases m with
    |zero=>simp[Hy]
    |succ m=>simp[Hy]
  . have hl:0<b.length:=Aq.2 c;cases m with
    |zero=>omega
    |succ m=>
     have g:=Ml (a:=a) tb c;simp only[Hy,BC c];rw[d m b (Ep a b) (Mk _ _) om om]
def KX(a b:List Rat):List (List Rat):=Hy b.length a b
theorem eP{a b:List Rat}(tb:Jd b=b)(c:b≠[]):KX a b=a::KX b (Ep a b):=by
 have e:=Ml (a:=a) tb c;have hl:0<b.length:=Aq.2 c;unfold KX;obtain⟨n,d⟩:∃n,b.length=n+1:=⟨b.length-1,om⟩;rw[d,Hy,BC c];congr 1;exact eO _ _ _ _ (Mk _ _) om (Aa _)
def LI(p q:List Rat):List (List Rat):=KX (YS p) (YS q)
open Go.RowKit Go.Shelf
theorem Jg.setB{V:J}{v:P}{ps:List Rat}(h:Jg V v ps){B:Nat}{a:Option Addr}{l c:Nat}(b:Boxed V B 25 (C a l c)){u:P}:Jg (V.setCell ⟨B,0,none⟩ u) v ps:=M3.LH b h
end Go.Proofs.YteldjhhjnchdeaaGreatDoor
namespace Go.Proofs.YteldjhhjnchdeaaGreatDoor.M3
open Go.RowKit Go.Shelf
attribute [local go_sem] Oper.semAt_some
def Dt(V:J)(B:Nat)(a:Option Addr)(l c:Nat):Prop:=Boxed V B 25 (C a l c)
section
variable {V V':World} {B B':Nat} {a a':Option Addr} {l c l' c':Nat}
theorem Dt.cell(h:Dt V B a l c):V.cell? ⟨B,0,none⟩=some (C a l c):=Boxed.cell h
theorem Dt.frozen(h:Dt V B a l c):V.frozen? ⟨B,0,none⟩=false:=Boxed.frozen h
theorem Dt.below(h:Dt V B a l c)(b:Bl V V'):Dt V' B a l c:=boxed_below h b
theorem Dt.far(h:Dt V B a l c)(b:B≠B'){u:P}:Dt (V.setCell ⟨B',0,none⟩ u) B a l c:=Bx.far (cs:=#[C a l c]) h (p:=⟨B',0,none⟩) b u
theorem Dt.put(h:Dt V B a l c):Dt (V.setCell ⟨B,0,none⟩ (C a' l' c')) B a' l' c':=(show Boxed V B 25 (C a l c)from h).set _
end
def GB(G:List (List Rat)->J->Prop):Prop:=∀H W W',G H W->Bl W W'->G H W'
def GS(n0:Nat)(G:List (List Rat)->J->Prop):Prop:=∀H W B a l c u,n0<=B->Dt W B a l c->G H W->G H (W.setCell ⟨B,0,none⟩ u)
def Gs(n0:Nat)(G:List (List Rat)->J->Prop)(H:List (List Rat))(V:J)(v4 v5:P)(p q:List Rat):Prop:=(GB G/\GS n0 G)/\G H V/\Jg V v4 p/\Jg V v5 q
section
variable {n0:Nat} {G:List (List Rat)->World->Prop} {H:List (List Rat)} {V V':World} {v4 v5:Value} {p q:List Rat}
theorem Gs.below(h:Gs n0 G H V v4 v5 p q)(a:Bl V V'):Gs n0 G H V' v4 v5 p q:=⟨h.1,h.1.1 _ _ _ h.2.1 a,h.2.2.1.below a,h.2.2.2.below a⟩
theorem Gs.put(h:Gs n0 G H V v4 v5 p q){B:Nat}(d:n0<=B){a:Option Addr}{l c:Nat}(b:Dt V B a l c){u:P}:Gs n0 G H (V.setCell ⟨B,0,none⟩ u) v4 v5 p q:=⟨h.1,h.1.2 _ _ _ _ _ _ _ d b h.2.1,h.2.2.1.setB b,h.2.2.2.setB b⟩
end
def Mm(V:J)(B:Nat)(r:List Rat):Prop:=∃a l c,Dt V B a l c/\Jg V (I #[C a l c]) r
theorem Mm.below{V V':J}{B:Nat}{r:List Rat}(h:Mm V B r)(b:Bl V V'):Mm V' B r:=by
 obtain⟨a,l,c,d,e⟩:=h;exact⟨a,l,c,d.below b,e.below b⟩
def LJ(V:J)(B:Nat):Nat:=match V.cell? ⟨B,0,none⟩with|some (C _ l _)=>l|_=>0
variable{p q:List Rat}{K c l:Nat}{a:Option Addr}{V:J}
theorem Dt.len{B:Nat}(h:Dt V B a l c):LJ V B=l:=by
 unfold LJ;rw[h.cell]
theorem Su{ps:List Rat}(h:Jg V (I #[C a l c]) ps):l=ps.length:=h.row.forms.1
def eQ(n0 n l:Nat)(G:List (List Rat)->J->Prop):Prop:=∀H W f c a b c4 g d c5 p q,n0<=f->n0<=c->f<W.heap.size->c<W.heap.size->G H W->Dt W f a b c4->Dt W c g d c5->Jg W (I #[C a b c4]) p->Jg W (I #[C g d c5]) q->
 YieldAt Fence.wide (n-1) Tryz.prog l #[I #[C a b c4]] W λe W'=>e=.returned (O true)/\G (H++[p]) W'/\Dt W' f a b c4/\Dt W' c g d c5/\Jg W' (I #[C a b c4]) p/\Jg W' (I #[C g d c5]) q
structure ChOk(K:Nat)(p q:List Rat):Prop where
 tp:Jd p=p
 tq:Jd q=q
 cp:∃D:Int,D≠0/\Sm K D/\EH D K p
 cq:∃D:Int,D≠0/\Sm K D/\EH D K q
 le:4*((max p.length q.length+2)*(Dk K p q+1))<=1000000
 ln:max p.length q.length<=1000
theorem ChOk.lp(h:ChOk K p q):Ln K p:=by obtain⟨D,a,_,b⟩:=h.cp;exact b.ln a
theorem ChOk.lq(h:ChOk K p q):Ln K q:=by obtain⟨D,a,_,b⟩:=h.cq;exact b.ln a
theorem ChOk.bd(h:ChOk K p q):Dk K p q<=1000000/\K<=1000000/\p.length+q.length<=1000000/\1<=Dk K p q:=by
 have a:=h.le;have b:=He K p q;have d:1*(Dk K p q+1)<=(max p.length q.length+2)*(Dk K p q+1):=Ak _ om;have c:(max p.length q.length+2)*1<=(max p.length q.length+2)*(Dk K p q+1):=Av _ om;omega
theorem eR(K n:Nat)(hn:1<=n)(Bp Bq:Nat)(pa qa:Option Addr)(pl pc ql qc:Nat)(p q:List Rat)(k:ChOk K p q)(l n0:Nat)(G:List (List Rat)->J->Prop)(w:J)(ay:n0<=w.heap.size)(aw:Dt w Bp pa pl pc)(am:Dt w Bq qa ql qc)(ip:Jg w (I #[C pa pl pc]) p)(iq:Jg w (I #[C qa ql qc]) q)
(ak:GB G)(az:GS n0 G)(hY:eQ n0 n l G)(h0:G [] w):
 CallsIn Fence.wide n Tryz.prog 55 (#[.func (.yield l) #[] #[]]++#[F (some ⟨Bp,0,none⟩),F (some ⟨Bq,0,none⟩)]) w λe W'=>(∃v,e=.returned v)/\∃H a,G (H++[a]) W'/\LI p q=H++[a]/\Chn p q (Dk K p q) a []:=by
 have Qq:Tryz.prog.follows .mixedOrders=true:=by kernel_rfl
 have Qm:=Ja (λ(V:J) (Y:Bl w V)=>(aw.below Y).cell);have Qo:=Ja (λ(V:J) (Y:Bl w V)=>(am.below Y).cell);have Qs:=Ja (λ(V:J) (Y:Bl w V)=>show Calls Tryz.prog 56 #[I #[C pa pl pc]] V λe w'=>∃u,e=.returned u/\Jg w' u (YS p)/\Bl V w' by
  obtain⟨D,h1,h2,h3⟩:=k.cp;exact Ok D K _ p V (ip.below Y) k.tp h1 h2 h3 k.bd.2.1)
 have Qn:=Ja (λ(V:J) (Y:Bl w V)=>show Calls Tryz.prog 56 #[I #[C qa ql qc]] V λe w'=>∃u,e=.returned u/\Jg w' u (YS q)/\Bl V w' by
  obtain⟨D,h1,h2,h3⟩:=k.cq;exact Ok D K _ q V (iq.below Y) k.tq h1 h2 h3 k.bd.2.1)
 obtain⟨Qp,Qt,Qx⟩:=Dm (λ(V:J) (Y:Bl w V)=>ak [] w V h0 Y) (Chn.start k.tp k.tq k.lp k.lq k.bd.2.2.1) (λ(a b:List Rat) (h:Chn p q (Dk K p q) a b) (hb:b≠[])=>Chn.next k.tp k.tq k.lp k.lq k.bd.2.2.1 h hb);have Ua:=Ja (λ(V:J) (x y:P) (a b:List Rat) (hx:Jg V x a) (hy:Jg V y b) (h:Chn p q (Dk K p q) a b) (hb:b≠[])=>eN (Dk K p q) x y a b V hx hy h.wa h.wb h.ta h.tb hb k.bd.2.2.2 (by
  have h1:=h.la;have h2:(a.length+2)*(Dk K p q+1)<=(max p.length q.length+2)*(Dk K p q+1):=Ak _ om;have h3:=k.le;omega) (h.nx hb))
 obtain⟨Qi,Uf,Qv⟩:=Dm (show GB G/\GS n0 G from⟨ak,az⟩) hY ay;have M1:Hid (Mem w w []):=Ja (Mem.nil w);clear k aw am ip iq ak az hY h0 ay;refine B0 Tryz.func55 rfl trivial ?_ rfl;simp only[Tryz.ntmps55,An,Am,AD,Nat.reduceAdd,Nat.reduceSub,AF,AG,AZ,AN,Ao,Az];gi_wp2_with fail
 refine Yd Qq [[],[0],[],[2,1],[],[],[4,1,3,0,1,4,5],[5,3,6,0,1,2,3,4,5,6]] (by kernel_rfl) DS
  (λD ae V=>∃(tj tk tl tm tg ti:P) (t g:Option (Nat × Dat)),ae={ tmps:=#[.func (Fn.yield l) #[] #[],F (some ⟨Bp,0,none⟩),F (some ⟨Bq,0,none⟩),E,tg,ti,tj,tk,tl,tm,E,E,E,E,E,E,E,E,E,E,E,E],defers:=[] }/\Hid ((D 0=true->tj=I #[C pa pl pc])/\(D 1=true->Has V tk (.poly (YS p)))/\(D 2=true->tl=I #[C qa ql qc])/\(D 3=true->Has V tm (.poly (YS q)))/\((D 4=false->t=none)/\(D 4=true->D 6=false->∃B:Nat,tg=F (some ⟨B,0,none⟩)/\t=some (B,.poly []))/\(D 6=true->∃B:Nat,tg=F (some ⟨B,0,none⟩)/\t=some (B,.poly (YS p))))/\((D 5=false->g=none)/\(D 5=true->D 7=false->∃B:Nat,ti=F (some ⟨B,0,none⟩)/\g=some (B,.poly []))/\(D 7=true->∃B:Nat,ti=F (some ⟨B,0,none⟩)/\g=some (B,.poly (YS q)))))/\Hid (Mem w V [t,g]))
  ⟨_,_,_,_,_,_,none,none,rfl,Ja ⟨DQ,DQ,DQ,DQ,DQ,DQ⟩,Ja (((M1.o).none).none).drew⟩ ?step1 ?fin1
 case step1=>
  rintro D ae V i ds M hi f j ⟨tj,tk,tl,tm,tg,ti,t,g,rfl,d,s⟩;have Ug:i<8:=(Ac.1 hi).1;obtain rfl|rfl|rfl|rfl|rfl|rfl|rfl|rfl:=LP i om
  all_goals
   simp only[Af,Ae,Ag]at hi;subst hi
  . have e0:=Qm.o V s.o.2.2;clear f;refine Zc ?_;exact⟨_,_,_,_,_,_,_,_,rfl,(Dh d),Ja (s.o)⟩
  . obtain rfl:=(d.o.1 (f 0 DQ));have S:=Ja (λ(n9:Nat)=>(BJ (n:=n9)).2 (Qs.o V s.o.2.2));clear f;refine BQ rfl λK hK=>?_;go_simp;gi_wp2_with(refine⟨trivial,?_⟩;gi_at_call 56;refine(S.o _).mono ?_;rintro e w5 ⟨v5,rfl,af,T⟩)
    obtain⟨_,_,G2,G3,G4⟩:=d.o;exact⟨_,_,_,_,_,_,_,_,rfl,Ja ⟨λ_=>rfl,λ_=>af,G2,λh=>(G3 h).below T,G4⟩,Ja (s.o.below T)⟩
  . have e0:=Qo.o V s.o.2.2;clear f;refine Zc ?_;exact⟨_,_,_,_,_,_,_,_,rfl,(Dg d),Ja (s.o)⟩
  . obtain rfl:=(d.o.2.2.1 (f 2 DQ));have S:=Ja (λ(n9:Nat)=>(BJ (n:=n9)).2 (Qn.o V s.o.2.2));clear f;refine BQ rfl λK hK=>?_;go_simp;gi_wp2_with(refine⟨trivial,?_⟩;gi_at_call 56;refine(S.o _).mono ?_;rintro e w5 ⟨v5,rfl,af,T⟩)
    obtain⟨X,G1,_,_,G4⟩:=d.o;exact⟨_,_,_,_,_,_,_,_,rfl,Ja ⟨X,λh=>(G1 h).below T,λ_=>rfl,λ_=>af,G4⟩,Ja (s.o.below T)⟩
  . have hf:D 6=false:=DU M j;obtain rfl:=d.o.2.2.2.2.1.1 j;clear f;refine Zc ?_;obtain⟨X,G1,G2,G3,_,G5⟩:=d.o;exact⟨_,_,_,_,_,_,_,_,rfl,Ja ⟨X,λh=>(G1 h).alloc _,G2,λh=>(G3 h).alloc _,⟨λh=>by simp at h,λ_ _=>⟨_,rfl,rfl⟩,λh=>by simp[hf]at h⟩,G5⟩,Ja (s.o.fill (i:=0) rfl (.poly []) (Hf _))⟩
  . have hf:D 7=false:=DU M j;obtain rfl:=Ds d j;clear f;refine Zc ?_;obtain⟨X,G1,G2,G3,G4,_⟩:=d.o;exact⟨_,_,_,_,_,_,_,_,rfl,Ja ⟨X,λh=>(G1 h).alloc _,G2,λh=>(G3 h).alloc _,G4,⟨λh=>by simp at h,λ_ _=>⟨_,rfl,rfl⟩,λh=>by simp[hf]at h⟩⟩,Ja (s.o.fill (i:=1) rfl (.poly []) (Hf _))⟩
  . obtain⟨B,rfl,rfl⟩:=d.o.2.2.2.2.1.2.1 (f 4 DQ) j;have Qd:=f 4 DQ;have hv:=(d.o.2.1 (f 1 DQ));obtain⟨a1,l1,c1,rfl⟩:=Jg.form (show Jg V _ _ from hv);obtain⟨a,l,c,n,r⟩:=s.o.poly2 (i:=0) rfl;have e0:=n.cell;have f0:=n.frozen;clear f;refine Zc ?_;obtain⟨X,G1,G2,G3,_,G5⟩:=d.o;exact⟨_,_,_,_,_,_,_,_,rfl,Ja ⟨X,λh=>(G1 h).set1 n rfl _,G2,λh=>(G3 h).set1 n rfl _,⟨λh=>by simp[Qd]at h,λ_ h=>by simp at h,λ_=>⟨B,rfl,rfl⟩⟩,G5⟩,Ja (s.o.putPoly (i:=0) rfl hv)⟩
  . obtain⟨B,rfl,rfl⟩:=Dy d (f 5 DQ) j;have Qd:=f 5 DQ;have hv:=(d.o.2.2.2.1 (f 3 DQ));obtain⟨a1,l1,c1,rfl⟩:=Jg.form (show Jg V _ _ from hv);obtain⟨a,l,c,n,r⟩:=s.o.poly2 (i:=1) rfl;have e0:=n.cell;have f0:=n.frozen;clear f;refine Zc ?_;obtain⟨X,G1,G2,G3,G4,_⟩:=d.o;exact⟨_,_,_,_,_,_,_,_,rfl,Ja ⟨X,λh=>(G1 h).set1 n rfl _,G2,λh=>(G3 h).set1 n rfl _,G4,⟨λh=>by simp[Qd]at h,λ_ h=>by simp at h,λ_=>⟨B,rfl,rfl⟩⟩⟩,Ja (s.o.putPoly (i:=1) rfl hv)⟩
 rintro D ae V2 Z ⟨tj,tk,tl,tm,tg,ti,t,g,rfl,d,s⟩;obtain⟨B3,rfl,rfl⟩:=d.o.2.2.2.2.1.2.2 (Z 6 DS);obtain⟨N,rfl,rfl⟩:=d.o.2.2.2.2.2.2.2 (Z 7 DS);obtain rfl:=d.o.1 (Z 0 DS);obtain rfl:=d.o.2.2.1 (Z 2 DS);clear d Z M1;have M2:Hid (Mem w V2 [some (B3,.poly (YS p)),some (N,.poly (YS q))]):=s;clear s;obtain⟨a5,z,c5,n5,r5⟩:=M2.o.poly2 (i:=0) rfl;obtain⟨a6,l6,c6,n6,r6⟩:=M2.o.poly2 (i:=1) rfl;have Qh:=Ja (show B3≠N/\n0<=B3/\n0<=N from⟨M2.o.ne 0 1 rfl rfl DS,As Qv.o (M2.o.ge 0 rfl),As Qv.o (M2.o.ge 1 rfl)⟩);have Ql:Hid (Gs n0 G [] V2 (I #[C a5 z c5]) (I #[C a6 l6 c6]) (YS p) (YS q)):=Ja ⟨Qi.o,Qp.o V2 M2.o.2.2,r5,r6⟩;have N4:Hid (Dt V2 B3 a5 z c5):=Ja n5;have N5:Hid (Dt V2 N a6 l6 c6):=Ja n6;clear n5 n6 r5 r6 M2 Qs Qn Qp Qm Qo;gi_wp2;gi_loopw [] (λwr=>∃(H:List (List Rat)) (a b:List Rat) (t g:Option Addr) (W c4 z c5:Nat),Hid (Gs n0 G H wr (I #[C t W c4]) (I #[C g z c5]) a b)/\Hid (Dt wr B3 t W c4)/\Hid (Dt wr N g z c5)/\Hid (Chn p q (Dk K p q) a b)/\Hid (LI p q=H++KX a b)) (λwr=>LJ wr N)
 case atStart=>exact⟨[],_,_,_,_,_,_,_,_,Ql,N4,N5,Qt,Ja rfl⟩
 case round=>
  clear Ql N4 N5 Qt;obtain⟨H,a,b,t,g,W,c4,z,c5,HG,H4,H5,S,HH⟩:=hrel;obtain⟨fn,tmps,assign,body,hy,an⟩:=Uf.o H wr B3 N t W c4 g z c5 a b Qh.o.2.1 Qh.o.2.2 (Bx.lt (cs:=#[C t W c4]) H4.o) (Bx.lt (cs:=#[C g z c5]) H5.o) HG.o.2.1 H4.o H5.o HG.o.2.2.1 HG.o.2.2.2;have e4:=H4.o.cell;gi_wp2;refine an.mono ?_;rintro e W3 ⟨rfl,ap,bc,aj,aq,ai⟩;have Qu:Hid (Gs n0 G (H++[a]) W3 (I #[C t W c4]) (I #[C g z c5]) a b):=Ja ⟨Qi.o,ap,aq,ai⟩;obtain⟨Qz,Ul,Qg⟩:=Dm (Su ai) (H5.o.len) (YA _ b W3 ai);have e5:=aj.cell;have Uc:=Ja bc;have Qy:=Ja aj;clear hy an e4 ap bc aj aq ai HG H4 H5;by_cases ad:b=[]
  . have HE:=Ja (show LI p q=H++[a]by rw[HH.o,ad];rfl);have Um:=Ja (show Chn p q (Dk K p q) a []by have:=S.o;rwa[ad]at this);rw[ad,show((([]:List Rat).length:Int)-1)=-1 from rfl]at Qg;gi_wp2_with(refine⟨trivial,?_⟩;gi_at_call 20;refine((BJ (n:=_)).2 Qg.o).mono ?_;clear Qg;rintro e w4 ⟨rfl,ah⟩)
    go_end0;exact⟨⟨_,rfl⟩,H,a,(Qu.o.below ah).2.1,HE.o,Um.o⟩
  . obtain⟨m,hm⟩:=ex (b.length-1:Nat);have Qr:(b.length:Int)-1=(m:Int):=by have:=Aq.2 ad;omega
    rw[Qr]at Qg;obtain⟨Ub,Ui,Uh,Qk⟩:=EC (Qx.o a b S.o ad) (Ml (a:=a) S.o.tb ad) (show LI p q=(H++[a])++KX b (Ep a b)by rw[HH.o,eP S.o.tb ad,Cf];rfl) (λ(V:J) (x y:P) (hx:Jg V x a) (hy:Jg V y b)=>Ua.o V x y a b hx hy S.o ad);have bf:¬(m:Int)<0:=om
    clear hm Qr ad;gi_wp2_with(refine⟨trivial,?_⟩;gi_at_call 20;refine((BJ (n:=_)).2 Qg.o).mono ?_;clear Qg;rintro e w4 ⟨rfl,ah⟩)
    have Uj:=(Qu.o.below ah).below ((BB _ w4).drew);have Ue:=(Uc.o.below ah).below ((BB _ w4).drew);have Ud:=(Qy.o.below ah).below ((BB _ w4).drew);refine Yd Qq [[],[],[],[1,2],[0,3,0,1],[3,4,0,1,2,3,4]] (by kernel_rfl) DS
     (λD ae V=>∃(tc td te tf:P),ae={ tmps:=#[.func (Fn.yield l) #[] #[],F (some ⟨Bp,0,none⟩),F (some ⟨Bq,0,none⟩),E,F (some ⟨B3,0,none⟩),F (some ⟨N,0,none⟩),I #[C pa pl pc],tk,I #[C qa ql qc],tm,.func (Fn.yield l) #[] #[],I #[C t W c4],O true,O true,I #[C g z c5],Q .i64 ↑m,O true,O true,tc,td,te,tf],defers:=[] }/\Hid ((D 0=true->tc=I #[C g z c5])/\(D 1=true->td=I #[C t W c4])/\(D 2=true->te=I #[C g z c5])/\(D 3=true->D 5=false->Jg V tf (Ep a b)))/\Hid (Gs n0 G (H++[a]) V (I #[C t W c4]) (I #[C g z c5]) a b)/\Hid ((D 4=false->Dt V B3 t W c4)/\(D 4=true->Dt V B3 g z c5))/\Hid ((D 5=false->Dt V N g z c5)/\(D 5=true->Mm V N (Ep a b))))
     ⟨_,_,_,_,rfl,Ja ⟨DQ,DQ,DQ,DQ⟩,Ja Uj,Ja ⟨λ_=>Ue,DQ⟩,Ja ⟨λ_=>Ud,DQ⟩⟩ ?step7 ?fin7
    case step7=>
     rintro D ae V i ds M hi f j ⟨tc,td,te,tf,rfl,d,A,L,o⟩;have Ug:i<6:=(Ac.1 hi).1;obtain rfl|rfl|rfl|rfl|rfl|rfl:=LO i om
     all_goals
      simp only[Af,Ae,Ag]at hi;subst hi
     . have Qf:=A.o;have U:=L.o.1 (DU M j);have R:=o.o.1 (DU M j);have e0:=R.cell;clear f;refine Zc ?_;exact⟨_,_,_,_,rfl,Ja ⟨λ_=>rfl,d.o.2.1,d.o.2.2.1,d.o.2.2.2⟩,Ja (A.o),L,Ja ⟨o.o.1,o.o.2⟩⟩
     . have Qf:=A.o;have U:=L.o.1 (DU M j);have R:=o.o.1 (DU M j);have e0:=U.cell;clear f;refine Zc ?_;exact⟨_,_,_,_,rfl,Ja ⟨d.o.1,λ_=>rfl,d.o.2.2.1,d.o.2.2.2⟩,Ja (A.o),L,Ja ⟨o.o.1,o.o.2⟩⟩
     . have Qf:=A.o;have Qe:D 4=false:=DU M (DU (a:=3) M j);have U:=L.o.1 Qe;have R:=o.o.1 (DU M j);have e0:=R.cell;clear f;refine Zc ?_;exact⟨_,_,_,_,rfl,Ja ⟨d.o.1,d.o.2.1,λ_=>rfl,d.o.2.2.2⟩,Ja (A.o),L,Ja ⟨o.o.1,o.o.2⟩⟩
     . have Qf:=A.o;have U:=L.o.1 (DU M j);have R:=o.o.1 (DU M j);obtain rfl:=d.o.2.1 (f 1 DQ);obtain rfl:=d.o.2.2.1 (f 2 DQ);clear f;have S:=Ja (λ(n9:Nat)=>(BJ (n:=n9)).2 (Qk.o V _ _ Qf.2.2.1 Qf.2.2.2));refine BQ rfl λK hK=>?_;go_simp;gi_wp2_with(refine⟨trivial,?_⟩;gi_at_call 57;refine(S.o _).mono ?_;rintro e w5 ⟨v5,rfl,af,T⟩)
       exact⟨_,_,_,_,rfl,Ja ⟨d.o.1,λ_=>rfl,λ_=>rfl,λ_ _=>af⟩,Ja (A.o.below T),Ja ⟨λh=>(L.o.1 h).below T,λh=>(L.o.2 h).below T⟩,Ja ⟨λh=>(o.o.1 h).below T,λh=>(o.o.2 h).below T⟩⟩
     . have Qf:=A.o;have U:=L.o.1 j;have Qb:D 5=false:=DU M j;have R:=o.o.1 Qb;obtain rfl:=d.o.1 (f 0 DQ);have e0:=U.cell;have f0:=U.frozen;clear f;refine Zc ?_;exact⟨_,_,_,_,rfl,Ja ⟨λ_=>rfl,d.o.2.1,d.o.2.2.1,λh h2=>(d.o.2.2.2 h h2).setB U⟩,Ja (A.o.put Qh.o.2.1 U),Ja ⟨λh=>by simp at h,λ_=>U.put⟩,Ja ⟨λh=>(o.o.1 h).far (λe=>Qh.o.1 e.symm),λh=>by simp[Qb]at h⟩⟩
     . have Qf:=A.o;have R:=o.o.1 j;have h0:=d.o.2.2.2 (f 3 DQ) j;have Qj:=f 4 DQ;have e0:=R.cell;have f0:=R.frozen;obtain⟨x7,l7,c7,rfl⟩:=Jg.form h0;clear f;refine Zc ?_;exact⟨_,_,_,_,rfl,Ja ⟨d.o.1,d.o.2.1,d.o.2.2.1,λ_ h=>by simp at h⟩,Ja (A.o.put Qh.o.2.2 R),Ja ⟨λh=>by simp[Qj]at h,λh=>(L.o.2 h).far Qh.o.1⟩,Ja ⟨λh=>by simp at h,λ_=>⟨x7,l7,c7,R.put,h0.setB R⟩⟩⟩
    case fin7=>
     rintro D ae V Z ⟨tc,td,te,tf,rfl,d,A,L,o⟩;obtain⟨x7,l7,c7,n7,i7⟩:=o.o.2 (Z 5 DS);have n6:=L.o.2 (Z 4 DS);have Qw:Hid (Gs n0 G (H++[a]) V (I #[C g z c5]) (I #[C x7 l7 c7]) b (Ep a b)):=Ja ⟨Qi.o,A.o.2.1,A.o.2.2.2,i7⟩;obtain⟨Uk,N6,N7⟩:=Dm (show LJ V N<LJ wr N by rw[n7.len,Ul.o,Su i7,Qz.o];exact Ui.o) n6 n7;clear d A L o Z n6 n7 i7;gi_wp2;go_roundw
     case rel=>exact⟨H++[a],b,Ep a b,_,_,_,_,_,_,Qw,N6,N7,Ub,Uh⟩
     case measure=>exact Uk.o
end Go.Proofs.YteldjhhjnchdeaaGreatDoor.M3
