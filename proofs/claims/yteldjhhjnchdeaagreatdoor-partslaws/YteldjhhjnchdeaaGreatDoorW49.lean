import Derived.Test.YteldjhhjnchdeaaGreatDoorW48
open Go.Value renaming slice->C,pointer->E,bool->F,agg->N,int->Q
open Go.Obj renaming cells->G
open Go renaming undef->H,World->I,Value->T
open Go.IntKind renaming i64->R
set_option maxRecDepth 100000
set_option maxHeartbeats 16000000
namespace Go.Proofs.YteldjhhjnchdeaaGreatDoor
open Go.RowKit Go.Shelf
theorem dQ:(⟨(GW [1]).toArray⟩:ByteArray)=⟨#[49]⟩:=Dn
theorem dR:Yn [49]=([1],0,0):=Dn
theorem RX:Cd 1 [1]:=FY _ [1] Dn DL
namespace M3
attribute [local go_sem] Oper.semAt_some
theorem dS(s t u:ByteArray)(w:I)(mn:F7 w):
 Calls Tryz.prog 6 #[.string s,.string t,.string u] w λr w'=>r=.returned (F true)/\Bl w w':=by
 have Uy:Tryz.prog.follows .mixedOrders=true:=by kernel_rfl
 have HT:=O mn;have cP:=NQ (Jh s);have cQ:=NQ (Jh t);have cR:=NQ (Jh u);have lP:=(Mr (Jh s)).1;have lQ:=(Mr (Jh t)).1;have lR:=(Mr (Jh u)).1;have tP:=NO (Jh s);have tQ:=NO (Jh t);have tR:=NO (Jh u);obtain⟨Wj,Ux,We⟩:=Dh (λ(V:I)=>NP s V) (λ(V:I)=>NP t V) λ(V:I)=>NP u V;obtain⟨p,hp⟩:=ex ((Yn (Jh s)).1);obtain⟨q,hq⟩:=ex ((Yn (Jh t)).1);obtain⟨r,hr⟩:=ex ((Yn (Jh u)).1);rw[hp]at cP lP tP Wj;rw[hq]at cQ lQ tQ Ux;rw[hr]at cR lR tR We;clear hp hq hr;have Qu:ChOk 16 p q:=ChOk.of tP tQ cP cQ (n:=9) lP lQ DL Z;obtain⟨Wt,AL,Qc⟩:=Dh (λ(V:I) (x y:T) (hx:Jc V x p) (hy:Jc V y q)=>Gu 16 x y p q V hx hy Qu) (λ(V:I) (hp:F7 V)=>bZ V hp) λ(V:I) (x:T) (a:List Rat) (hx:Jc V x a)=>Yb x a V hx;have HZ:∃z:Bool,(z=true↔p=[]/\q=[]):=⟨decide (p=[]/\q=[]),J⟩;obtain⟨z,hz⟩:=HZ;have HZ:=O hz;have Uc:=O (show Cd 16 p/\Cd 16 q/\Cd 16 r/\p.length<=9/\q.length<=9/\r.length<=9/\Jd p=p/\Jd q=q/\Jd r=r from⟨cP,cQ,cR,lP,lQ,lR,tP,tQ,tR⟩);have M1:Hid (Mem w w []):=O (Mem.nil w);clear mn cP cQ cR lP lQ lR tP tQ tR Qu hz;go_enter Tryz.func6,Tryz.ntmps6
 go_upto_region 2 with(go_at_call 7;refine(Wj.o _).mono ?_;clear Wj;rintro e w1 ⟨u1,rfl,gy,ky⟩;obtain⟨jp,ng,kg,rfl⟩:=Jc.form gy)
 obtain⟨V1,hV⟩:=ex (w1.alloc (G #[C jp ng kg] 25));obtain⟨B1,ae⟩:=ex (w1.heap.size);have g:Mem w (w1.alloc (G #[C jp ng kg] 25)) [some (w1.heap.size,.poly p)]:=Mem.push (M1.o.below ky) (.poly p) gy;rw[hV,ae]at g;rw[hV];rw[ae];have M2:Hid (Mem w V1 [some (B1,.poly p)]):=O (g);clear M1;clear g hV ae;clear gy ky;go_upto_region 3 with(go_at_call 7;refine(Ux.o _).mono ?_;clear Ux;rintro e w2 ⟨u2,rfl,ic,li⟩;obtain⟨jq,nh,kh,rfl⟩:=Jc.form ic)
 obtain⟨V2,hV⟩:=ex (w2.alloc (G #[C jq nh kh] 25));obtain⟨B2,ae⟩:=ex (w2.heap.size);have g:Mem w (w2.alloc (G #[C jq nh kh] 25)) [some (B1,.poly p),some (w2.heap.size,.poly q)]:=Mem.push (M2.o.below li) (.poly q) ic;rw[hV,ae]at g;rw[hV];rw[ae];have M3:Hid (Mem w V2 [some (B1,.poly p),some (B2,.poly q)]):=O (g);clear M2;clear g hV ae;clear ic li;go_upto_region 4 with(go_at_call 7;refine(We.o _).mono ?_;clear We;rintro e w3 ⟨u3,rfl,ie,lk⟩;obtain⟨jr,ni,ki,rfl⟩:=Jc.form ie)
 obtain⟨V3,hV⟩:=ex (w3.alloc (G #[C jr ni ki] 25));obtain⟨B3,ae⟩:=ex (w3.heap.size);have g:Mem w (w3.alloc (G #[C jr ni ki] 25)) [some (B1,.poly p),some (B2,.poly q),some (w3.heap.size,.poly r)]:=Mem.push (M3.o.below lk) (.poly r) ie;rw[hV,ae]at g;rw[hV];rw[ae];have M4:Hid (Mem w V3 [some (B1,.poly p),some (B2,.poly q),some (B3,.poly r)]):=O (g);clear M3;clear g hV ae;clear ie lk;obtain⟨a4,l4,c4,n4,r4⟩:=M4.o.poly2 (i:=0) rfl;have Zq:=n4.cell;obtain⟨a5,l5,c5,n5,r5⟩:=M4.o.poly2 (i:=1) rfl;have Zm:=n5.cell;have U:=O (Wt.o V3 _ _ r4 r5);go_upto_region 5 with(go_at_call 8;refine U.o.mono ?_;clear U;rintro e w4 ⟨u4,rfl,ig,ly⟩;obtain⟨js,nj,kj,rfl⟩:=Jc.form ig)
 clear n4 Zq r4 n5 Zm r5;obtain⟨V6,hV⟩:=ex (w4.alloc (G #[C js nj kj] 25));obtain⟨B6,ae⟩:=ex (w4.heap.size);have g:Mem w (w4.alloc (G #[C js nj kj] 25)) [some (B1,.poly p),some (B2,.poly q),some (B3,.poly r),some (w4.heap.size,.poly (Jn p q))]:=Mem.push (M4.o.below ly) (.poly (Jn p q)) ig;rw[hV,ae]at g;rw[hV];rw[ae];have M5:Hid (Mem w V6 [some (B1,.poly p),some (B2,.poly q),some (B3,.poly r),some (B6,.poly (Jn p q))]):=O (g);clear M4;clear g hV ae;clear ig ly;clear Wt;obtain⟨a7,l7,c7,n7,r7⟩:=M5.o.poly2 (i:=0) rfl;obtain⟨a8,l8,c8,n8,r8⟩:=M5.o.poly2 (i:=1) rfl;have HM:=M5;go_cut [55] λcv wx=>cv=F z/\Hid (Mem w wx [some (B1,.poly p),some (B2,.poly q),some (B3,.poly r),some (B6,.poly (Jn p q))])
 case first=>
  as_aux_lemma=>
   have hq:Bl V6 V6:=BE _ _;have eP:=n7.cell;have U:=O (Qc.o V6 _ p r7);by_cases p0:p=[]
   . have Uj:(p.length:Int)-1=-1:=by rw[p0];rfl
     rw[Uj]at U;have H2:=O λ(V:I) (h:Bl V6 V)=>Qc.o V _ q (r8.below h);have HQ:=O λ(V:I) (h:Bl V6 V)=>(n8.bel h).cell;by_cases q0:q=[]
     . have Ww:(q.length:Int)-1=-1:=by rw[q0];rfl
       rw[Ww]at H2;have Qw:z=true:=HZ.o.2 ⟨p0,q0⟩;clear Uj Ww p0 q0;go_wp2_with(first
        |(go_at_call 20;refine U.o.mono ?_;clear U;rintro e x1 ⟨rfl,A⟩;replace hq:=Bt hq A;clear A;have eQ:=HQ.o _ hq)
        |(go_at_call 20;refine(H2.o _ hq).mono ?_;clear H2;rintro e x2 ⟨rfl,A⟩;replace hq:=Bt hq A;clear A))
       go_meet
       exact⟨by rw[Qw],O (HM.o.below hq)⟩
     . obtain⟨dq,ml⟩:=ex ((q.length:Int)-1:Int);rw[ml]at H2;have Zr:¬dq<0:=by have:=Aj.2 q0;omega
       have Qw:z=false:=by
        cases hz:z with
        |false=>rfl
        |true=>exact absurd (HZ.o.1 hz).2 q0
       clear Uj ml p0 q0;go_wp2_with(first
        |(go_at_call 20;refine U.o.mono ?_;clear U;rintro e x1 ⟨rfl,A⟩;replace hq:=Bt hq A;clear A;have eQ:=HQ.o _ hq)
        |(go_at_call 20;refine(H2.o _ hq).mono ?_;clear H2;rintro e x2 ⟨rfl,A⟩;replace hq:=Bt hq A;clear A))
       go_meet
       exact⟨by rw[Qw,BI (show ¬dq<0 by omega)],O (HM.o.below hq)⟩
   . obtain⟨dp,mj⟩:=ex ((p.length:Int)-1:Int);rw[mj]at U;have Zr:¬dp<0:=by have:=Aj.2 p0;omega
     have Qw:z=false:=by
      cases hz:z with
      |false=>rfl
      |true=>exact absurd (HZ.o.1 hz).1 p0
     clear mj p0;go_wp2_with(go_at_call 20;refine U.o.mono ?_;clear U;rintro e x1 ⟨rfl,A⟩;replace hq:=Bt hq A;clear A)
     go_meet
     exact⟨by rw[Qw],O (HM.o.below hq)⟩
 case rest=>
  as_aux_lemma=>
   clear n7 r7 n8 r8 HM M5;obtain⟨rfl,M6⟩:=hcut;cases z with
   |true=>
    obtain⟨p0,q0⟩:=HZ.o.1 rfl;obtain⟨ga,gl,gc,nG,rG⟩:=M6.o.poly2 (i:=3) rfl;have M:=O M6.o.2.2;have U:=O (Qc.o wc _ (Jn p q) rG);have Wn:((Jn p q).length:Int)-1=-1:=by rw[p0,q0];rfl
    rw[Wn]at U;have Qt:=O (show F7 wc from JT HT.o M.o);have H2:=O λ(V:I) (h:Bl wc V)=>AL.o V (JT Qt.o h);have hq:Bl wc wc:=BE _ _;have eG:=nG.cell;clear p0 q0 Wn;go_wp2_with(first
     |(go_at_call 20;refine U.o.mono ?_;clear U;rintro e x1 ⟨rfl,A⟩;replace hq:=Bt hq A;clear A)
     |(go_at_call 15;refine(H2.o _ hq).mono ?_;clear H2;rintro e x2 ⟨rfl,A⟩;replace hq:=Bt hq A;clear A))
    go_ret;exact⟨rfl,Bt M.o hq⟩
   |false=>
    have Wb:p≠[]\/q≠[]:=by
     by_cases p0:p=[]
     . exact Or.inr λq0=>by have:=HZ.o.2 ⟨p0,q0⟩;cases this
     . exact Or.inl p0
    have Wp:=O Wb;obtain⟨cP,cQ,cR,lP,lQ,lR,tP,tQ,tR⟩:=Uc.o;have tg:=JK p q;have mg:=YO tP tQ;have g0:=XV tP tQ Wb;obtain⟨d1,d2,_⟩:=YN tP tQ;have Qu:ChOk 16 p q:=ChOk.of tP tQ cP cQ (n:=9) lP lQ DL Z;have cG:Cd 323 (Jn p q):=Qu.gcd.mono (by
     have h1:Dm 16 p q<=(16+1)*(9+9+1):=As _ Z;omega)
    obtain⟨cX,lX⟩:=RU tP Z cP tg mg g0 d1;obtain⟨cY,lY⟩:=RU tQ Z cQ tg mg g0 d2;have Zc:ChOk 37 (Jt p (Jn p q)) (Jt q (Jn p q)):=ChOk.of (J9 _ _) (J9 _ _) cX cY (n:=9) Z Z DL Z;have e1:=dC tP tQ g0;have r1:=(JY tg g0 d1).1;have r2:=(JY tg g0 d2).1;have bp:2*(16+p.length*(323+1)+1)+2*(2*323+1)<=1000000:=by have:p.length*(323+1)<=9*(323+1):=Am _ lP;omega
    have bq:2*(16+q.length*(323+1)+1)+2*(2*323+1)<=1000000:=by have:q.length*(323+1)<=9*(323+1):=Am _ lQ;omega
    obtain⟨D1,D2,S1,S2,G2⟩:=GG (λ(V:I) (x y:T) (hx:Jc V x (Jn p q)) (hy:Jc V y p)=>NR 16 323 x y (Jn p q) p V hx hy cP cG tP tg g0 r1 bp) (λ(V:I) (x y:T) (hx:Jc V x (Jn p q)) (hy:Jc V y q)=>NR 16 323 x y (Jn p q) q V hx hy cQ cG tQ tg g0 r2 bq) (λ(V:I) (x y:T) (hx:Jc V x p) (hy:Jc V y (Jn p q))=>KL 16 323 x y p (Jn p q) V hx hy cP cG tP tg g0 bp) (λ(V:I) (x y:T) (hx:Jc V x q) (hy:Jc V y (Jn p q))=>KL 16 323 x y q (Jn p q) V hx hy cQ cG tQ tg g0 bq) λ(V:I) (x y:T) (hx:Jc V x (Jt p (Jn p q))) (hy:Jc V y (Jt q (Jn p q)))=>Gu 37 x y _ _ V hx hy Zc;rw[e1]at G2;have T1:=O λ(V:I) (x:T) (hx:Jc V x [1]) (hp:F7 V)=>Mg x [1] V hx (RX.sqs Z) (λm=>Mt (RX.sqs Z) J m) hp;rw[dQ]at T1;clear Wb cP cQ cR lP lQ lR tP tQ tR tg mg g0 d1 d2 Qu cG cX lX cY lY Zc e1 r1 r2 bp bq;obtain⟨a9,l9,c9,n9,r9⟩:=M6.o.poly2 (i:=3) rfl;have Zs:=n9.cell;obtain⟨qg,rn,qu,nt,r10⟩:=M6.o.poly2 (i:=0) rfl;have Wc:=nt.cell;have U:=O (D1.o wc _ _ r9 r10);go_upto_region 8 with(go_at_call 21;refine U.o.mono ?_;clear U D1;rintro e w5 ⟨rfl,A⟩)
    clear n9 Zs r9 nt Wc r10;have M7:Hid (Mem w w5 [some (B1,.poly p),some (B2,.poly q),some (B3,.poly r),some (B6,.poly (Jn p q))]):=O (M6.o.below A);clear M6;clear A;obtain⟨qh,rp,qw,nu,r11⟩:=M7.o.poly2 (i:=3) rfl;have Wg:=nu.cell;obtain⟨qi,ru,qx,nv,r12⟩:=M7.o.poly2 (i:=1) rfl;have Uk:=nv.cell;have U:=O (D2.o w5 _ _ r11 r12);go_upto_region 9 with(go_at_call 21;refine U.o.mono ?_;clear U D2;rintro e w6 ⟨rfl,A⟩)
    clear nu Wg r11 nv Uk r12;have M8:Hid (Mem w w6 [some (B1,.poly p),some (B2,.poly q),some (B3,.poly r),some (B6,.poly (Jn p q))]):=O (M7.o.below A);clear M7;clear A;obtain⟨qj,ry,qy,ny,p5⟩:=M8.o.poly2 (i:=0) rfl;have Uf:=ny.cell;obtain⟨qk,sd,re,nz,p6⟩:=M8.o.poly2 (i:=3) rfl;have Ul:=nz.cell;have U:=O (S1.o w6 _ _ p5 p6);go_upto_region 10 with(go_at_call 22;refine U.o.mono ?_;clear U S1;rintro e w7 ⟨u7,v7,rfl,ik,mr,m7⟩;obtain⟨cl,du,db,rfl⟩:=Jc.form ik;obtain⟨ct,et,di,rfl⟩:=Jc.form mr)
    clear ny Uf p5 nz Ul p6;obtain⟨fy,hV⟩:=ex (w7.alloc (G #[C cl du db] 25));obtain⟨aq,ae⟩:=ex (w7.heap.size);have g:Mem w (w7.alloc (G #[C cl du db] 25)) [some (B1,.poly p),some (B2,.poly q),some (B3,.poly r),some (B6,.poly (Jn p q)),some (w7.heap.size,.poly (Jt p (Jn p q)))]:=Mem.push (M8.o.below m7) (.poly (Jt p (Jn p q))) ik;rw[hV,ae]at g;rw[hV];rw[ae];have M9:Hid (Mem w fy [some (B1,.poly p),some (B2,.poly q),some (B3,.poly r),some (B6,.poly (Jn p q)),some (aq,.poly (Jt p (Jn p q)))]):=O (g);clear M8;clear g hV ae;clear ik m7 mr;obtain⟨jc,hV⟩:=ex (fy.alloc (G #[C ct et di] 25));have g:=M9.o.below (Ba fy (G #[C ct et di] 25));rw[hV]at g;rw[hV];have Ua:Hid (Mem w jc [some (B1,.poly p),some (B2,.poly q),some (B3,.poly r),some (B6,.poly (Jn p q)),some (aq,.poly (Jt p (Jn p q)))]):=O (g);clear M9;clear g hV;obtain⟨fd,fl,fh,o5,p7⟩:=Ua.o.poly2 (i:=1) rfl;have Wi:=o5.cell;obtain⟨qm,se,rf,o6,p8⟩:=Ua.o.poly2 (i:=3) rfl;have Uz:=o6.cell;have U:=O (S2.o jc _ _ p7 p8);go_upto_region 11 with(go_at_call 22;refine U.o.mono ?_;clear U S2;rintro e w8 ⟨u8,v8,rfl,il,ms,m8⟩;obtain⟨cn,ed,df,rfl⟩:=Jc.form il;obtain⟨da,ew,dj,rfl⟩:=Jc.form ms)
    clear o5 Wi p7 o6 Uz p8;obtain⟨gb,hV⟩:=ex (w8.alloc (G #[C cn ed df] 25));obtain⟨bf,ae⟩:=ex (w8.heap.size);have g:Mem w (w8.alloc (G #[C cn ed df] 25)) [some (B1,.poly p),some (B2,.poly q),some (B3,.poly r),some (B6,.poly (Jn p q)),some (aq,.poly (Jt p (Jn p q))),some (w8.heap.size,.poly (Jt q (Jn p q)))]:=Mem.push (Ua.o.below m8) (.poly (Jt q (Jn p q))) il;rw[hV,ae]at g;rw[hV];rw[ae];have Wu:Hid (Mem w gb [some (B1,.poly p),some (B2,.poly q),some (B3,.poly r),some (B6,.poly (Jn p q)),some (aq,.poly (Jt p (Jn p q))),some (bf,.poly (Jt q (Jn p q)))]):=O (g);clear Ua;clear g hV ae;clear il m8 ms;obtain⟨jd,hV⟩:=ex (gb.alloc (G #[C da ew dj] 25));have g:=Wu.o.below (Ba gb (G #[C da ew dj] 25));rw[hV]at g;rw[hV];have Qx:Hid (Mem w jd [some (B1,.poly p),some (B2,.poly q),some (B3,.poly r),some (B6,.poly (Jn p q)),some (aq,.poly (Jt p (Jn p q))),some (bf,.poly (Jt q (Jn p q)))]):=O (g);clear Wu;clear g hV;obtain⟨qn,sf,rg,o7,p9⟩:=Qx.o.poly2 (i:=4) rfl;have Wd:=o7.cell;obtain⟨qo,sh,rh,o8,pd⟩:=Qx.o.poly2 (i:=5) rfl;have Ut:=o8.cell;have U:=O (G2.o jd _ _ p9 pd);go_upto_region 12 with(go_at_call 8;refine U.o.mono ?_;clear U;rintro e w9 ⟨u9,rfl,im,mh⟩;obtain⟨gi,ir,gk,rfl⟩:=Jc.form im)
    clear o7 Wd p9 o8 Ut pd;obtain⟨je,hV⟩:=ex (w9.alloc (G #[C gi ir gk] 25));obtain⟨ce,ae⟩:=ex (w9.heap.size);have g:Mem w (w9.alloc (G #[C gi ir gk] 25)) [some (B1,.poly p),some (B2,.poly q),some (B3,.poly r),some (B6,.poly (Jn p q)),some (aq,.poly (Jt p (Jn p q))),some (bf,.poly (Jt q (Jn p q))),some (w9.heap.size,.poly ([1]))]:=Mem.push (Qx.o.below mh) (.poly ([1])) im;rw[hV,ae]at g;rw[hV];rw[ae];have Qy:Hid (Mem w je [some (B1,.poly p),some (B2,.poly q),some (B3,.poly r),some (B6,.poly (Jn p q)),some (aq,.poly (Jt p (Jn p q))),some (bf,.poly (Jt q (Jn p q))),some (ce,.poly ([1]))]):=O (g);clear Qx;clear g hV ae;clear im mh;obtain⟨qp,si,ri,o9,pf⟩:=Qy.o.poly2 (i:=6) rfl;have Ui:=o9.cell;have U:=O (T1.o je _ pf (JT HT.o Qy.o.2.2));go_upto_region 14 with(go_at_call 11;refine U.o.mono ?_;clear U;rintro e iz ⟨rfl,A⟩)
    clear o9 Ui pf;have Ze:Hid (Mem w iz [some (B1,.poly p),some (B2,.poly q),some (B3,.poly r),some (B6,.poly (Jn p q)),some (aq,.poly (Jt p (Jn p q))),some (bf,.poly (Jt q (Jn p q))),some (ce,.poly ([1]))]):=O (Qy.o.below A);clear Qy;clear A;have Un:Hid (Mem w iz [some (B1,.poly p),some (B2,.poly q),some (B3,.poly r),some (B6,.poly (Jn p q))]):=O (Ze.o.take 4);clear Ze;obtain⟨qq,sj,rj,od,pg⟩:=Un.o.poly2 (i:=2) rfl;have Ue:=od.cell;have U:=O (Qc.o iz _ r pg);obtain⟨dr,gr⟩:=ex ((r.length:Int)-1:Int);rw[gr]at U;have Wa:=O gr;clear gr;go_upto_if 106 with(go_at_call 20;refine U.o.mono ?_;clear U;rintro e uh ⟨rfl,A⟩)
    obtain⟨br,gq⟩:=ex (decide (0<=dr));rw[gq];have Wk:=O gq;clear gq;clear od Ue pg;have Ub:Hid (Mem w uh [some (B1,.poly p),some (B2,.poly q),some (B3,.poly r),some (B6,.poly (Jn p q))]):=O (Un.o.below A);clear Un;clear A;go_cut [] λwx=>Hid (Mem w wx [some (B1,.poly p),some (B2,.poly q),some (B3,.poly r),some (B6,.poly (Jn p q))])
    case first=>
     as_aux_lemma=>
      by_cases r0:r=[]
      . obtain rfl:false=br:=by
         rw[<-Wk.o,eq_comm];exact BI (by have:=Wa.o;rw[r0]at this;simp at this;omega)
        go_wp2_with fail
        go_meet
        exact Ub
      . obtain rfl:true=br:=by
         rw[<-Wk.o,eq_comm];exact BK (by have:=Wa.o;have:=Aj.2 r0;omega)
        obtain⟨cP,cQ,cR,lP,lQ,lR,tP,tQ,tR⟩:=Uc.o;have Za:Cd 41 (Jp p r):=(cP.mul cR).mono Z;have Wz:Cd 41 (Jp q r):=(cQ.mul cR).mono Z;have Zg:=Mv p r;have Zo:=Mv q r;have iw:ChOk 41 (Jp p r) (Jp q r):=ChOk.of (Jy _ _) (Jy _ _) Za Wz (n:=18) Z Z DL Z;obtain⟨dK,lK⟩:=dD tP tQ tR r0 Wp.o;have cK:Cd 1554 (Jn (Jp p r) (Jp q r)):=iw.gcd.mono (by
         have h1:Dm 41 (Jp p r) (Jp q r)<=(41+1)*(18+18+1):=As _ Z;omega)
        have kl:(Jn (Jp p r) (Jp q r)).length<=18:=by
         have m0:Jp p r≠[]\/Jp q r≠[]:=by
          rcases Wp.o with h|h
          . exact Or.inl (NI tP tR h r0)
          . exact Or.inr (NI tQ tR h r0)
         obtain⟨k1,k2,_⟩:=YN (Jy p r) (Jy q r);rcases m0 with h|h
         . have:=(k1.len (JK _ _) (Jy p r) h).1;omega
         . have:=(k2.len (JK _ _) (Jy q r) h).1;omega
        have rK:=(JY tR r0 dK).1;have sP:=cP.sqs Z;have sQ:=cQ.sqs Z;have sR:=cR.sqs Z;have Wm:GX p r:=cP.times cR Z;have Wl:GX q r:=cQ.times cR Z;have bk:2*(1554+(Jn (Jp p r) (Jp q r)).length*(16+1)+1)+2*(2*16+1)<=1000000:=Z
        obtain⟨E1,E2,E3⟩:=Dh (λ(V:I) (x y:T) (hx:Jc V x p) (hy:Jc V y r)=>KK x y p r V hx hy sP sR Wm Z) (λ(V:I) (x y:T) (hx:Jc V x q) (hy:Jc V y r)=>KK x y q r V hx hy sQ sR Wl Z) λ(V:I) (x y:T) (hx:Jc V x (Jp p r)) (hy:Jc V y (Jp q r))=>Gu 41 x y _ _ V hx hy iw;obtain⟨kk,gv⟩:=ex (Jn (Jp p r) (Jp q r));have tk:Jd kk=kk:=by rw[<-gv];exact JK _ _
        rw[gv]at E3 dK lK cK kl rK bk;obtain⟨E4,E5,Zl⟩:=Dh (λ(V:I) (x y:T) (hx:Jc V x r) (hy:Jc V y kk)=>NR 1554 16 x y r kk V hx hy cK cR tk tR r0 rK bk) (λ(V:I) (x y:T) (hx:Jc V x kk) (hy:Jc V y r)=>KL 1554 16 x y kk r V hx hy cK cR tk tR r0 bk) lK;clear cP cQ cR lP lQ lR tP tQ tR Za Wz Zg Zo iw dK lK cK kl rK sP sQ sR Wm Wl bk gv tk r0;go_upto_region 15 with fail
        refine Jm Uy [[],[],[0,1],[],[],[3,4,2],[2,5,5],[],[7,6,6,0,1,2,3,4,5,6,7]] (by kernel_rfl) DL
         (λD av V=>∃(ta tb tc td te tf ti tq:T) (x7:Option (Nat × Dat)),av={ tmps:=#[.string s,.string t,.string u,H,H,H,F false,E (some ⟨B1,0,none⟩),E (some ⟨B2,0,none⟩),E (some ⟨B3,0,none⟩),E (some ⟨B6,0,none⟩),F true,F true,E (some ⟨aq,0,none⟩),E (some ⟨aq+1,0,none⟩),F true,E (some ⟨bf,0,none⟩),E (some ⟨bf+1,0,none⟩),F true,E (some ⟨ce,0,none⟩),tq,H,H,u23,H,H,H,H,H,H,H,H,H,H,H,H,H,H,H,u39,u40,u41,u42,u43,u44,u45,u46,u47,u48,u49,u50,u51,u52,u53,u54,F false,u56,u57,u58,u59,u60,u61,N #[C a9 l9 c9],N #[C qg rn qu],F true,N #[C qh rp qw],N #[C qi ru qx],F true,.tuple #[N #[C cl du db],N #[C ct et di],F true],N #[C qj ry qy],N #[C qk sd re],.tuple #[N #[C cl du db],N #[C ct et di],F true],N #[C cl du db],N #[C ct et di],F true,.tuple #[N #[C cn ed df],N #[C da ew dj],F true],N #[C fd fl fh],N #[C qm se rf],.tuple #[N #[C cn ed df],N #[C da ew dj],F true],N #[C cn ed df],N #[C da ew dj],F true,N #[C qn sf rg],N #[C qo sh rh],N #[C gi ir gk],F true,F false,F false,F true,F false,F false,F false,F true,F false,F false,F false,F true,F false,F false,F false,N #[C qp si ri],.string { data:=#[49] },F false,F false,N #[C qq sj rj],Q R dr,F true,ta,tb,tc,td,te,tf,ti,u114,u115,u116,u117,u118,u119,u120,u121,u122,u123,u124,u125,u126,u127,u128,u129,u130,u131,u132,u133,u134,u135,u136,u137,u138,u139,u140,u141,u142,u143,u144,u145,u146,u147,u148,u149,u150,u151,u152,u153,u154,u155,u156,u157,u158,u159,u160,u161,u162,u163,u164,u165,u166,u167,u168,u169,u170,u171,u172,u173,u174,u175,u176,u177,u178,u179,u180,u181,u182,u183,u184,u185,u186,u187,u188,u189,u190,u191,u192,u193,u194,u195,u196,u197,u198,u199,u200,u201,u202,u203,u204,u205,u206,u207,u208,u209,u210,u211,u212,u213,u214,u215,u216,u217,u218,u219,u220,u221,u222,u223,u224,u225,u226,u227,u228,u229,u230,u231,u232,u233,u234,u235,u236,u237,u238,u239,u240,u241,u242,u243,u244,u245,u246,u247,u248,u249,u250,u251,u252,u253,u254,u255,u256,u257,u258],defers:=[] }/\Hid ((D 0=true->Has V ta (.poly p))/\(D 1=true->Has V tb (.poly r))/\(D 2=true->Has V tc (.poly (Jp p r)))/\(D 3=true->Has V td (.poly q))/\(D 4=true->Has V te (.poly r))/\(D 5=true->Has V tf (.poly (Jp q r)))/\(D 6=true->Has V ti (.poly kk))/\((D 7=false->x7=none)/\(D 7=true->D 8=false->∃B:Nat,tq=E (some ⟨B,0,none⟩)/\x7=some (B,.poly []))/\(D 8=true->∃B:Nat,tq=E (some ⟨B,0,none⟩)/\x7=some (B,.poly kk))))/\Hid (Mem w V [some (B1,.poly p),some (B2,.poly q),some (B3,.poly r),some (B6,.poly (Jn p q)),x7]))
         ⟨_,_,_,_,_,_,_,_,none,rfl,O ⟨J,J,J,J,J,J,J,J⟩,O ((Ub.o).none).drew⟩ ?step26 ?fin26
        case step26=>
         as_aux_lemma=>
          rintro D av V i ds dm hi ad aw ⟨ta,tb,tc,td,te,tf,ti,tq,x7,rfl,X,g⟩;have Ws:i<9:=(Af.1 hi).1;obtain rfl|rfl|rfl|rfl|rfl|rfl|rfl|rfl|rfl:=LV i Z
          all_goals
           simp only[Ai,Ah,Ak]at hi;subst hi
          . clear ad;obtain⟨a,l,c,n,r⟩:=g.o.poly2 (i:=0) rfl;have e0:=n.cell;refine Zt ?_;exact⟨_,_,_,_,_,_,_,_,_,rfl,(Dc X λ_=>r),O (g.o)⟩
          . clear ad;obtain⟨a,l,c,n,r⟩:=g.o.poly2 (i:=2) rfl;have e0:=n.cell;refine Zt ?_;exact⟨_,_,_,_,_,_,_,_,_,rfl,(Dg X λ_=>r),O (g.o)⟩
          . have h0:=(X.o.1 (ad 0 J));have h1:=(X.o.2.1 (ad 1 J));have HC:=O (E1.o V _ _ h0 h1);clear ad h0 h1;refine Jb rfl rfl λK hK=>?_;go_simp;go_wp2_with(go_at_call 9;refine HC.o.mono ?_;rintro e w5 ⟨v5,rfl,ay,af⟩)
            obtain⟨G0,G1,_,G3,G4,G5,G6,G7⟩:=X.o;exact⟨_,_,_,_,_,_,_,_,_,rfl,O ⟨λh=>(G0 h).below af,λh=>(G1 h).below af,λ_=>ay,λh=>(G3 h).below af,λh=>(G4 h).below af,λh=>(G5 h).below af,λh=>(G6 h).below af,G7⟩,O (g.o.below af)⟩
          . clear ad;obtain⟨a,l,c,n,r⟩:=g.o.poly2 (i:=1) rfl;have e0:=n.cell;refine Zt ?_;exact⟨_,_,_,_,_,_,_,_,_,rfl,(Dd X λ_=>r),O (g.o)⟩
          . clear ad;obtain⟨a,l,c,n,r⟩:=g.o.poly2 (i:=2) rfl;have e0:=n.cell;refine Zt ?_;exact⟨_,_,_,_,_,_,_,_,_,rfl,(Dr X λ_=>r),O (g.o)⟩
          . have h0:=(X.o.2.2.2.1 (ad 3 J));have h1:=(X.o.2.2.2.2.1 (ad 4 J));have HC:=O (E2.o V _ _ h0 h1);clear ad h0 h1;refine Jb rfl rfl λK hK=>?_;go_simp;go_wp2_with(go_at_call 9;refine HC.o.mono ?_;rintro e w5 ⟨v5,rfl,ay,af⟩)
            obtain⟨G0,G1,G2,G3,G4,_,G6,G7⟩:=X.o;exact⟨_,_,_,_,_,_,_,_,_,rfl,O ⟨λh=>(G0 h).below af,λh=>(G1 h).below af,λh=>(G2 h).below af,λh=>(G3 h).below af,λh=>(G4 h).below af,λ_=>ay,λh=>(G6 h).below af,G7⟩,O (g.o.below af)⟩
          . have h0:=(X.o.2.2.1 (ad 2 J));have h1:=((Dq X) (ad 5 J));have HC:=O (E3.o V _ _ h0 h1);clear ad h0 h1;refine Jb rfl rfl λK hK=>?_;go_simp;go_wp2_with(go_at_call 8;refine HC.o.mono ?_;rintro e w5 ⟨v5,rfl,ay,af⟩)
            obtain⟨G0,G1,G2,G3,G4,G5,_,G7⟩:=X.o;exact⟨_,_,_,_,_,_,_,_,_,rfl,O ⟨λh=>(G0 h).below af,λh=>(G1 h).below af,λh=>(G2 h).below af,λh=>(G3 h).below af,λh=>(G4 h).below af,λh=>(G5 h).below af,λ_=>ay,G7⟩,O (g.o.below af)⟩
          . have hf:D 8=false:=DM dm aw;obtain rfl:=EE X aw;clear ad;refine Zt ?_;obtain⟨G0,G1,G2,G3,G4,G5,G6,_⟩:=X.o;exact⟨_,_,_,_,_,_,_,_,_,rfl,O ⟨λh=>(G0 h).alloc _,λh=>(G1 h).alloc _,λh=>(G2 h).alloc _,λh=>(G3 h).alloc _,λh=>(G4 h).alloc _,λh=>(G5 h).alloc _,λh=>(G6 h).alloc _,⟨λh=>by simp at h,λ_ _=>⟨_,rfl,rfl⟩,λh=>by simp[hf]at h⟩⟩,O (g.o.fill (i:=4) rfl (.poly []) (FW _))⟩
          . obtain⟨B,rfl,rfl⟩:=EN X (ad 7 J) aw;have Qd:=ad 7 J;have hv:=((D0 X) (ad 6 J));obtain⟨a1,l1,c1,rfl⟩:=Jc.form (show Jc V _ _ from hv);obtain⟨a,l,c,n,r⟩:=g.o.poly2 (i:=4) rfl;have e0:=n.cell;have f0:=n.frozen;clear ad;refine Zt ?_;obtain⟨G0,G1,G2,G3,G4,G5,G6,_⟩:=X.o;exact⟨_,_,_,_,_,_,_,_,_,rfl,O ⟨λh=>(G0 h).set1 n rfl _,λh=>(G1 h).set1 n rfl _,λh=>(G2 h).set1 n rfl _,λh=>(G3 h).set1 n rfl _,λh=>(G4 h).set1 n rfl _,λh=>(G5 h).set1 n rfl _,λh=>(G6 h).set1 n rfl _,⟨λh=>by simp[Qd]at h,λ_ h=>by simp at h,λ_=>⟨B,rfl,rfl⟩⟩⟩,O (g.o.putPoly (i:=4) rfl hv)⟩
        rintro D av jf an ⟨ta,tb,tc,td,te,tf,ti,tq,x7,rfl,X,g⟩;obtain⟨ci,rfl,rfl⟩:=X.o.2.2.2.2.2.2.2.2.2 (an 8 DL);clear X an Ub;have Qj:Hid (Mem w jf [some (B1,.poly p),some (B2,.poly q),some (B3,.poly r),some (B6,.poly (Jn p q)),some (ci,.poly kk)]):=g;clear g;clear E1 E2 E3;obtain⟨um,wl,ve,oe,ph⟩:=Qj.o.poly2 (i:=2) rfl;have Uo:=oe.cell;obtain⟨uo,wm,vg,og,pi⟩:=Qj.o.poly2 (i:=4) rfl;have Uv:=og.cell;have U:=O (E4.o jf _ _ ph pi);go_upto_region 17 with(go_at_call 21;refine U.o.mono ?_;clear U E4;rintro e px ⟨rfl,A⟩)
        clear oe Uo ph og Uv pi;have Qi:Hid (Mem w px [some (B1,.poly p),some (B2,.poly q),some (B3,.poly r),some (B6,.poly (Jn p q)),some (ci,.poly kk)]):=O (Qj.o.below A);clear Qj;clear A;obtain⟨uq,wn,vh,oh,pj⟩:=Qi.o.poly2 (i:=4) rfl;have Ur:=oh.cell;obtain⟨ur,wo,vi,oj,pk⟩:=Qi.o.poly2 (i:=2) rfl;have Ug:=oj.cell;have U:=O (E5.o px _ _ pj pk);go_upto_region 18 with(go_at_call 22;refine U.o.mono ?_;clear U E5;rintro e fu ⟨u13,xg,rfl,gz,mo,kz⟩;obtain⟨jt,nk,km,rfl⟩:=Jc.form gz;obtain⟨jx,ns,kp,rfl⟩:=Jc.form mo)
        clear oh Ur pj oj Ug pk;obtain⟨gg,hV⟩:=ex (fu.alloc (G #[C jt nk km] 25));obtain⟨fw,ae⟩:=ex (fu.heap.size);have g:Mem w (fu.alloc (G #[C jt nk km] 25)) [some (B1,.poly p),some (B2,.poly q),some (B3,.poly r),some (B6,.poly (Jn p q)),some (ci,.poly kk),some (fu.heap.size,.poly (Jt kk r))]:=Mem.push (Qi.o.below kz) (.poly (Jt kk r)) gz;rw[hV,ae]at g;rw[hV];rw[ae];have Qk:Hid (Mem w gg [some (B1,.poly p),some (B2,.poly q),some (B3,.poly r),some (B6,.poly (Jn p q)),some (ci,.poly kk),some (fw,.poly (Jt kk r))]):=O (g);clear Qi;clear g hV ae;clear gz kz mo;obtain⟨bm,hV⟩:=ex (gg.alloc (G #[C jx ns kp] 25));have g:=Qk.o.below (Ba gg (G #[C jx ns kp] 25));rw[hV]at g;rw[hV];have Qr:Hid (Mem w bm [some (B1,.poly p),some (B2,.poly q),some (B3,.poly r),some (B6,.poly (Jn p q)),some (ci,.poly kk),some (fw,.poly (Jt kk r))]):=O (g);clear Qk;clear g hV;obtain⟨qr,sk,rk,sq,sy⟩:=Qr.o.poly2 (i:=5) rfl;obtain⟨qt,sn,rm,sr,sz⟩:=Qr.o.poly2 (i:=3) rfl;obtain⟨dz,gu⟩:=ex (((Jt kk r).length:Int)-1:Int);have Wr:((Jn p q).length:Int)-1=dz:=by rw[<-gu,Zl.o]
        have U:=O λ(V:I) (h:Bl bm V)=>Qc.o V _ (Jt kk r) (sy.below h);have H2:=O λ(V:I) (h:Bl bm V)=>Qc.o V _ (Jn p q) (sz.below h);rw[gu]at U;rw[Wr]at H2;have HC:=O λ(V:I) (h:Bl bm V)=>show V.cell? _=_/\V.cell? _=_ from⟨(sq.bel h).cell,(sr.bel h).cell⟩;have hq:Bl bm bm.drew:=(BE _ bm).drew;obtain⟨k0,k1⟩:=HC.o _ hq;clear gu Wr;go_region_held3 (λw'=>w'.cell? ⟨fw,0,none⟩=some (C qr sk rk)/\w'.cell? ⟨B6,0,none⟩=some (C qt sn rm)) (exact⟨k0,k1⟩)
         (first
          |(go_at_call 20;refine(U.o _ hq).mono ?_;clear U;rintro e x5 ⟨rfl,A⟩;replace hq:=Bt hq A;clear A k0 k1;obtain⟨k0,k1⟩:=HC.o _ hq)
          |(go_at_call 20;refine(H2.o _ hq).mono ?_;clear H2;rintro e x6 ⟨rfl,A⟩;replace hq:=Bt hq A;clear A k0 k1;obtain⟨k0,k1⟩:=HC.o _ hq))
        all_goals go_wp2_with fail
        go_meet
        exact O ((Qr.o.below hq).take 4)
    case rest=>
     as_aux_lemma=>
      clear Ub;have Qj:=hcut;clear hcut Wa Wk;obtain⟨cP,cQ,cR,lP,lQ,lR,tP,tQ,tR⟩:=Uc.o;have Qv:Cd 41 (Jp p p):=(cP.mul cP).mono Z;have Wq:(Jp p p).length<=17:=RT tP tP Z;have Zd:GX p p:=cP.times cP Z;have Us:=Jy p p;obtain⟨pp,gw⟩:=ex (Jp p p);rw[gw]at Qv Wq Us;have cW:Cd 75 (Jp pp q):=(Qv.mul cQ).mono Z;have lW:(Jp pp q).length<=25:=RT Us tQ Z;have oW:GX pp q:=Qv.times cQ Z;have tW:=Jy pp q;have sP:=cP.sqs Z;have sQ:=cQ.sqs Z;have Wo:=Qv.sqs Z;have Uu:=O λ(V:I) (x y:T) (hx:Jc V x p) (hy:Jc V y p)=>KK x y p p V hx hy sP sP Zd Z;have Uw:=O λ(V:I) (x y:T) (hx:Jc V x pp) (hy:Jc V y q)=>KK x y pp q V hx hy Wo sQ oW Z;rw[gw]at Uu;obtain⟨W,hW⟩:=ex (Jp pp q);rw[hW]at Uw cW lW tW;have Qf:=O (show Cd 75 W/\W.length<=25/\Jd W=W from⟨cW,lW,tW⟩);have Qh:=O (λ(V:I)=>show Calls Tryz.prog 23 #[.string ⟨#[49]⟩] V λr w'=>∃u,r=.returned (.tuple #[u,Q R 0,Q R 0])/\Jc w' u [1]/\Bl V w' from
       (Ms ⟨#[49]⟩ V).mono (λr w' h=>by
        obtain⟨u,e,p,h1,h2,h3⟩:=h;rw[Hs,show Jh ⟨#[49]⟩=[49]from rfl,dR]at h2;obtain⟨rfl,rfl,h4⟩:=h2;exact⟨u,h1,h4,h3⟩))
      clear cP cQ cR lP lQ lR tP tQ tR Qv Wq Zd Us gw cW lW oW tW sP sQ Wo hW;obtain⟨fe,fm,fi,oo,ix⟩:=Qj.o.poly2 (i:=0) rfl;have Uq:=oo.cell;have U:=O (Uu.o wc _ _ ix ix);go_upto_region 21 with(go_at_call 9;refine U.o.mono ?_;clear U Uu;rintro e fv ⟨u14,rfl,ia,ld⟩;obtain⟨ff,fo,fj,rfl⟩:=Jc.form ia)
      clear oo Uq ix;obtain⟨jg,hV⟩:=ex (fv.alloc (G #[C ff fo fj] 25));obtain⟨ah,ae⟩:=ex (fv.heap.size);have g:Mem w (fv.alloc (G #[C ff fo fj] 25)) [some (B1,.poly p),some (B2,.poly q),some (B3,.poly r),some (B6,.poly (Jn p q)),some (fv.heap.size,.poly pp)]:=Mem.push (Qj.o.below ld) (.poly pp) ia;rw[hV,ae]at g;rw[hV];rw[ae];have Qi:Hid (Mem w jg [some (B1,.poly p),some (B2,.poly q),some (B3,.poly r),some (B6,.poly (Jn p q)),some (ah,.poly pp)]):=O (g);clear Qj;clear g hV ae;clear ia ld;obtain⟨jj,mt,jy,f7,pm⟩:=Qi.o.poly2 (i:=4) rfl;have Qm:=f7.cell;have Qp:=f7.frozen;obtain⟨jk,mu,jz,oq,pn⟩:=Qi.o.poly2 (i:=1) rfl;have Uh:=oq.cell;have U:=O (Uw.o jg _ _ pm pn);go_upto_region 22 with(go_at_call 9;refine U.o.mono ?_;clear U Uw;rintro e py ⟨u15,rfl,ib,hq⟩;obtain⟨fg,fs,fk,rfl⟩:=Jc.form ib;clear Qm;have Qm:=(boxed_below f7 hq).cell;clear Qp;have Qp:=(boxed_below f7 hq).frozen)
      obtain⟨gh,hV⟩:=ex (py.setCell ⟨ah,0,none⟩ (C fg fs fk));have g:Mem w (py.setCell ⟨ah,0,none⟩ (C fg fs fk)) [some (B1,.poly p),some (B2,.poly q),some (B3,.poly r),some (B6,.poly (Jn p q)),some (ah,.poly W)]:=Mem.putPoly (Qi.o.below hq) (i:=4) rfl ib;rw[hV]at g;rw[hV];have Qk:Hid (Mem w gh [some (B1,.poly p),some (B2,.poly q),some (B3,.poly r),some (B6,.poly (Jn p q)),some (ah,.poly W)]):=O (g);clear Qi;clear g hV;clear ib hq Qp;clear f7 Qm pm oq Uh pn;obtain⟨jl,mx,kc,ot,po⟩:=Qk.o.poly2 (i:=4) rfl;have nW:=ot;have rW:=po;have M:=O Qk.o.2.2;have Zj:=O (Qk.o.ge 4 rfl);clear ot po;have eW:=nW.cell;by_cases W0:W=[]
      . have U:=O (RK _ W gh rW (by rw[W0];simp));go_upto_region 23 with(go_at_call 18;refine U.o.mono ?_;clear U;rintro e ja ⟨rfl,A⟩)
        replace nW:=nW.bel A;replace rW:=rW.below A;replace M:=O (Bt M.o A);clear A eW;go_upto_region 24 with(go_at_call 23;refine(Qh.o _).mono ?_;clear Qh;rintro e bc ⟨u17,rfl,bu,A⟩;obtain⟨fd,fl,fh,rfl⟩:=bu.form)
        have hA:Bl bc (bc.alloc (G #[C fd fl fh] 25)):=Ba bc _;replace A:=Bt A hA
        obtain⟨fc,hV⟩:=ex (bc.alloc (G #[C fd fl fh] 25));rw[hV]at A;rw[hV];replace nW:=nW.bel A;replace rW:=rW.below A;replace M:=O (Bt M.o A);have U:=O (Qc.o fc _ W rW);have Wv:(W.length:Int)-1=-1:=by rw[W0];rfl
        rw[Wv]at U;have Qt:=O (show F7 fc from JT HT.o M.o);have H2:=O λ(V:I) (h:Bl fc V)=>AL.o V (JT Qt.o h);clear A hV hA bu Wv;go_upto_region 25 with fail
        go_loopw [30] (λi wr=>i=Q R 0/\wr=fc) λ_ _=>0
        case atStart=>exact⟨rfl,rfl⟩
        case round=>
         as_aux_lemma=>
          obtain⟨rfl,rfl⟩:=hrel;have hq:Bl wr wr:=BE _ _;have eW:=nW.cell;go_wp2_with(first
           |(go_at_call 20;refine U.o.mono ?_;clear U;rintro e x1 ⟨rfl,A⟩;replace hq:=Bt hq A;clear A)
           |(go_at_call 15;refine(H2.o _ hq).mono ?_;clear H2;rintro e x2 ⟨rfl,A⟩;replace hq:=Bt hq A;clear A))
          go_ret;exact⟨rfl,Bt M.o hq⟩
      . obtain⟨L,vv,kv,kx,kw,ku⟩:=dH Qf.o.2.2 W0 Qf.o.2.1 Qf.o.1;have U:=O (ku gh _ rW);have Qe:=O (show(∀x∈L,1<x.1.length/\x.1.length<=25/\1<=x.2/\x.2+1<=W.length/\Dj x.1 (Je x.1)/\Jd x.1=x.1/\Jq x.1=x.1/\Cd 80 x.1)/\L.Pairwise (λa b=>a.2<b.2/\Dj a.1 b.1)/\(∀x,ev (Jq W) x=Dy L x)/\W≠[]from⟨kv,kx,kw,W0⟩);clear kv kx kw ku W0;go_upto_region 23 with(go_at_call 18;refine U.o.mono ?_;clear U;rintro e ja ⟨u16,rfl,hP,A⟩;obtain⟨ji,am,rfl,vx,wi⟩:=hP.form)
        clear nW rW Zj eW M;have XL:=O (show EA 0 ja (C ji L.length am) L from hP.zero);clear hP;have Qr:Hid (Mem w ja [some (B1,.poly p),some (B2,.poly q),some (B3,.poly r),some (B6,.poly (Jn p q)),some (ah,.poly W)]):=O (Qk.o.below A);clear Qk;clear A;go_upto_region 24 with(go_at_call 23;refine(Qh.o _).mono ?_;clear Qh;rintro e bc ⟨u17,rfl,bu,gp⟩;obtain⟨bg,bi,bh,rfl⟩:=Jc.form bu)
        have Qa:=O (XL.o.below (Bt gp (Ba bc (G #[C bg bi bh] 25))));clear XL;obtain⟨qb,hV⟩:=ex (bc.alloc (G #[C bg bi bh] 25));obtain⟨ai,ae⟩:=ex (bc.heap.size);have g:Mem w (bc.alloc (G #[C bg bi bh] 25)) [some (B1,.poly p),some (B2,.poly q),some (B3,.poly r),some (B6,.poly (Jn p q)),some (ah,.poly W),some (bc.heap.size,.poly ([1]))]:=Mem.push (Qr.o.below gp) (.poly ([1])) bu;rw[hV,ae]at g;rw[hV]at Qa;rw[hV];rw[ae];have Wy:Hid (Mem w qb [some (B1,.poly p),some (B2,.poly q),some (B3,.poly r),some (B6,.poly (Jn p q)),some (ah,.poly W),some (ai,.poly ([1]))]):=O (g);clear Qr;clear g hV ae;clear bu gp;go_upto_region 25 with fail
        go_loopw [30] (λi wr=>∃(k:Nat) (P:List Rat),k<=L.length/\i=Q R (k:Int)/\Hid (Gk L k P)/\Hid (Mem w wr [some (B1,.poly p),some (B2,.poly q),some (B3,.poly r),some (B6,.poly (Jn p q)),some (ah,.poly W),some (ai,.poly P)])/\Hid (EA 0 wr (C ji L.length am) L)) λi _=>L.length-(intOf i).toNat
        case atStart=>exact⟨0,[1],AK _,rfl,O Gk.zero,Wy,Qa⟩
        case round=>
         as_aux_lemma=>
          clear Wy Qa;obtain⟨k,P,hk,rfl,fa,ck,XL⟩:=hrel;by_cases ba:k<L.length
          . obtain⟨⟨ee,tt⟩,e1⟩:∃x,L[k]?=some x:=⟨_,An ba⟩;obtain⟨g1,c1,bn,T1⟩:=Y5.toT XL.o (λe9=>by rw[e9]at ba;simp at ba);injection bn with h1 h2 h3
            subst h1 h3;clear h2;obtain⟨x,x0,x1,rx⟩:=T1.2.2.2.2 k ee tt e1;have Ql:GL L k=(tt:Int):=by unfold GL;rw[e1]
            rw[Ql]at x1;obtain⟨ft,bt,t1,t2,kr,tE,mE,cE⟩:=Qe.o.1 (ee,tt) (List.mem_of_getElem? e1);obtain⟨co,ei,dh,rfl⟩:=rx.form;have rE:Jc wr (N #[C co ei dh]) ee:=⟨_,rfl,rx⟩;have cS:Cd 81 (Je ee):=dB cE bt;have sE:=cE.sqs Z;have lS:=YR (p:=ee) (λe9=>by rw[e9]at ft;simp at ft);have Zb:ChOk 81 ee (Je ee):=ChOk.of tE (JV _) (cE.mono Z) cS (n:=25) Z (by simp only at bt;omega) DL Z;have CS:=O λ(V:I) (x:T) (hx:Jc V x ee)=>LB x ee V hx sE (NK cS Z);have CG:=O λ(V:I) (x y:T) (hx:Jc V x ee) (hy:Jc V y (Je ee))=>Gu 81 x y _ _ V hx hy Zb;rw[Nf tE (JV _) kr]at CG;have HE:=O (show 1<ee.length/\ee.length<=25/\1<=tt/\tt+1<=W.length/\Jd ee=ee/\Jq ee=ee/\Cd 80 ee/\L[k]?=some (ee,tt)from⟨ft,bt,t1,t2,tE,mE,cE,e1⟩);have wh:¬((k:Int)<0):=Z
            have vw:(k:Int)<(L.length:Int):=Z
            have vu:=T1.lt;clear x1 rx Ql ft bt t1 t2 kr tE mE cE cS sE lS Zb e1 T1;go_upto_region 28 with fail
            have Qa:=O (XL.o.alloc (G #[C co ei dh] 25));clear XL x0;obtain⟨qe,hV⟩:=ex (wr.alloc (G #[C co ei dh] 25));obtain⟨ak,ae⟩:=ex (wr.heap.size);have g:Mem w (wr.alloc (G #[C co ei dh] 25)) [some (B1,.poly p),some (B2,.poly q),some (B3,.poly r),some (B6,.poly (Jn p q)),some (ah,.poly W),some (ai,.poly P),some (wr.heap.size,.poly ee)]:=Mem.push (ck.o) (.poly ee) rE;rw[hV,ae]at g;rw[hV]at Qa;rw[hV];rw[ae];have Qo:Hid (Mem w qe [some (B1,.poly p),some (B2,.poly q),some (B3,.poly r),some (B6,.poly (Jn p q)),some (ah,.poly W),some (ai,.poly P),some (ak,.poly ee)]):=O (g);clear ck;clear g hV ae;clear rE;refine Jm Uy [[],[],[1],[0,2,2],[],[4,3,3,0,1,2,3,4]] (by kernel_rfl) DL
             (λD av V=>∃(tl tm tn tp tA:T) (x4:Option (Nat × Dat)),av={ tmps:=#[.string s,.string t,.string u,H,H,H,u6,E (some ⟨B1,0,none⟩),E (some ⟨B2,0,none⟩),E (some ⟨B3,0,none⟩),E (some ⟨B6,0,none⟩),F true,F true,E (some ⟨aq,0,none⟩),u14,F true,E (some ⟨bf,0,none⟩),u17,F true,E (some ⟨ce,0,none⟩),u20,u21,u22,u23,u24,E (some ⟨ah,0,none⟩),C (some ⟨g1,0,none⟩) L.length am,E (some ⟨ai,0,none⟩),Q R 0,Q R 0,Q R ↑k,E (some ⟨ak,0,none⟩),tA,u33,u34,u35,H,H,H,u39,u40,u41,u42,u43,u44,u45,u46,u47,u48,u49,u50,u51,u52,u53,u54,u55,u56,u57,u58,u59,u60,u61,u62,u63,u64,u65,u66,u67,u68,u69,u70,u71,u72,u73,u74,u75,u76,u77,u78,u79,u80,u81,u82,u83,u84,u85,u86,u87,u88,u89,u90,u91,u92,u93,u94,u95,u96,u97,u98,u99,u100,u101,u102,u103,u104,u105,u106,u107,u108,u109,u110,u111,u112,u113,u114,u115,u116,u117,u118,u119,u120,u121,u122,u123,u124,u125,u126,u127,u128,u129,u130,u131,u132,N #[C fe fm fi],N #[C fe fm fi],N #[C ff fo fj],N #[C jj mt jy],N #[C jk mu jz],N #[C fg fs fk],N #[C jl mx kc],C (some ⟨g1,0,none⟩) L.length am,.tuple #[N #[C bg bi bh],Q R 0,Q R 0],.tuple #[N #[C bg bi bh],Q R 0,Q R 0],N #[C bg bi bh],Q R 0,Q R 0,Q R ↑k,C (some ⟨g1,0,none⟩) L.length am,Q R ↑L.length,F true,u150,u151,C (some ⟨g1,0,none⟩) L.length am,Q R ↑k,E (some { block:=g1,off:=k*2 }),E (some { block:=g1,off:=k*2 }),N #[C co ei dh],tl,tm,tn,tp,u161,u162,u163,u164,u165,u166,u167,u168,u169,u170,u171,u172,u173,u174,u175,u176,u177,u178,u179,u180,u181,u182,u183,u184,u185,u186,u187,u188,u189,u190,u191,u192,u193,u194,u195,u196,u197,u198,u199,u200,u201,u202,u203,u204,u205,u206,u207,u208,u209,u210,u211,u212,u213,u214,u215,u216,u217,u218,u219,u220,u221,u222,u223,u224,u225,u226,u227,u228,u229,u230,u231,u232,u233,u234,u235,u236,u237,u238,u239,u240,u241,u242,u243,u244,u245,u246,u247,u248,u249,u250,u251,u252,u253,u254,u255,u256,u257,u258],defers:=[] }/\Hid ((D 0=true->Has V tl (.poly ee))/\(D 1=true->Has V tm (.poly ee))/\(D 2=true->Has V tn (.poly (Je ee)))/\(D 3=true->Has V tp (.poly ([1])))/\((D 4=false->x4=none)/\(D 4=true->D 5=false->∃B:Nat,tA=E (some ⟨B,0,none⟩)/\x4=some (B,.poly []))/\(D 5=true->∃B:Nat,tA=E (some ⟨B,0,none⟩)/\x4=some (B,.poly ([1])))))/\Hid (Mem w V [some (B1,.poly p),some (B2,.poly q),some (B3,.poly r),some (B6,.poly (Jn p q)),some (ah,.poly W),some (ai,.poly P),some (ak,.poly ee),x4])/\Hid (EA 0 V (C (some ⟨g1,0,none⟩) L.length am) L))
             ⟨_,_,_,_,_,none,rfl,O ⟨J,J,J,J,J⟩,O ((Qo.o).none).drew,O (Qa.o.drew)⟩ ?step45 ?fin45
            case step45=>
             as_aux_lemma=>
              rintro D av V i ds dm hi ad aw ⟨tl,tm,tn,tp,tA,x4,rfl,X,g,XX⟩;have Ws:i<6:=(Af.1 hi).1;obtain rfl|rfl|rfl|rfl|rfl|rfl:=Ic i Z
              all_goals
               simp only[Ai,Ah,Ak]at hi;subst hi
              . clear ad;obtain⟨a,l,c,n,r⟩:=g.o.poly2 (i:=6) rfl;have e0:=n.cell;refine Zt ?_;exact⟨_,_,_,_,_,_,rfl,(Dc X λ_=>r),O (g.o),O (XX.o)⟩
              . clear ad;obtain⟨a,l,c,n,r⟩:=g.o.poly2 (i:=6) rfl;have e0:=n.cell;refine Zt ?_;exact⟨_,_,_,_,_,_,rfl,(Dg X λ_=>r),O (g.o),O (XX.o)⟩
              . have h0:=(X.o.2.1 (ad 1 J));have HC:=O (CS.o V _ h0);clear ad h0;refine Jb rfl rfl λK hK=>?_;go_simp;go_wp2_with(go_at_call 24;refine HC.o.mono ?_;rintro e w5 ⟨v5,rfl,ay,af⟩)
                exact⟨_,_,_,_,_,_,rfl,O ⟨λh=>(X.o.1 h).below af,λh=>(X.o.2.1 h).below af,λ_=>ay,λh=>(X.o.2.2.2.1 h).below af,X.o.2.2.2.2⟩,O (g.o.below af),O (XX.o.below af)⟩
              . have h0:=(X.o.1 (ad 0 J));have h1:=(X.o.2.2.1 (ad 2 J));have HC:=O (CG.o V _ _ h0 h1);clear ad h0 h1;refine Jb rfl rfl λK hK=>?_;go_simp;go_wp2_with(go_at_call 8;refine HC.o.mono ?_;rintro e w5 ⟨v5,rfl,ay,af⟩)
                exact⟨_,_,_,_,_,_,rfl,O ⟨λh=>(X.o.1 h).below af,λh=>(X.o.2.1 h).below af,λh=>(X.o.2.2.1 h).below af,λ_=>ay,X.o.2.2.2.2⟩,O (g.o.below af),O (XX.o.below af)⟩
              . have hf:D 5=false:=DM dm aw;obtain rfl:=X.o.2.2.2.2.1 aw;clear ad;refine Zt ?_;exact⟨_,_,_,_,_,_,rfl,O ⟨λh=>(X.o.1 h).alloc _,λh=>(X.o.2.1 h).alloc _,λh=>(X.o.2.2.1 h).alloc _,λh=>(X.o.2.2.2.1 h).alloc _,⟨λh=>by simp at h,λ_ _=>⟨_,rfl,rfl⟩,λh=>by simp[hf]at h⟩⟩,O (g.o.fill (i:=7) rfl (.poly []) (FW _)),O (XX.o.alloc _)⟩
              . obtain⟨B,rfl,rfl⟩:=Dq X (ad 4 J) aw;have Qd:=ad 4 J;have hv:=(X.o.2.2.2.1 (ad 3 J));obtain⟨a1,l1,c1,rfl⟩:=Jc.form (show Jc V _ _ from hv);obtain⟨a,l,c,n,r⟩:=g.o.poly2 (i:=7) rfl;have e0:=n.cell;have f0:=n.frozen;clear ad;refine Zt ?_;exact⟨_,_,_,_,_,_,rfl,O ⟨λh=>(X.o.1 h).set1 n rfl _,λh=>(X.o.2.1 h).set1 n rfl _,λh=>(X.o.2.2.1 h).set1 n rfl _,λh=>(X.o.2.2.2.1 h).set1 n rfl _,⟨λh=>by simp[Qd]at h,λ_ h=>by simp at h,λ_=>⟨B,rfl,rfl⟩⟩⟩,O (g.o.putPoly (i:=7) rfl hv),O (XX.o.set1 n rfl _)⟩
            rintro D av az an ⟨tl,tm,tn,tp,tA,x4,rfl,X,g,XX⟩;obtain⟨f9,rfl,rfl⟩:=X.o.2.2.2.2.2.2 (an 5 DL);clear X an Qo;have Qb:Hid (Mem w az [some (B1,.poly p),some (B2,.poly q),some (B3,.poly r),some (B6,.poly (Jn p q)),some (ah,.poly W),some (ai,.poly P),some (ak,.poly ee),some (f9,.poly ([1]))]):=g;clear g;have XL:=XX;clear XX Qa CS CG;obtain⟨jm,my,kd,ss,th⟩:=Qb.o.poly2 (i:=7) rfl;obtain⟨jn,mz,ke,su,ub⟩:=Qb.o.poly2 (i:=6) rfl;obtain⟨jo,nf,kf,sv,ud⟩:=Qb.o.poly2 (i:=4) rfl;obtain⟨g2,c2,bn,OT⟩:=Y5.toT XL.o (λe9=>by rw[e9]at ba;simp at ba);injection bn with h1 h2 h3
            injection h1 with h1
            injection h1 with h1
            subst h1 h3;clear h2;obtain⟨_,_,x1,_⟩:=OT.2.2.2.2 k ee tt HE.o.2.2.2.2.2.2.2;have Ql:GL L k=(tt:Int):=by unfold GL;rw[HE.o.2.2.2.2.2.2.2]
            rw[Ql]at x1;obtain⟨U,H2,H3⟩:=Dh (λ(V:I) (h:Bl az V)=>Qc.o V _ ee (ub.below h)) (λ(V:I) (h:Bl az V)=>Qc.o V _ W (ud.below h)) λ(V:I) (h:Bl az V)=>T1.o V _ (th.below h) (JT HT.o (Bt Qb.o.2.2 h));obtain⟨de,mi⟩:=ex ((ee.length:Int)-1:Int);obtain⟨dW,dt⟩:=ex ((W.length:Int)-1:Int);rw[mi]at U;rw[dt]at H2;have f1:decide (de<1)=false:=BI (by have:=HE.o.1;omega);have f2:decide ((tt:Int)<1)=false:=BI (by have:=HE.o.2.2.1;omega);have f3:decide (dW<(tt:Int))=false:=BI (by have:=HE.o.2.2.2.1;omega);have HC:=O λ(V:I) (h:Bl az V)=>show V.cell? ⟨g1,k*2+1,none⟩=some (Q R (tt:Int))/\V.cell? _=_/\V.cell? _=_/\V.cell? _=_ from⟨(h.cell (p:=⟨g1,_,none⟩) OT.lt).trans x1,(ss.bel h).cell,(su.bel h).cell,(sv.bel h).cell⟩;clear mi dt Ql x1;go_upto_region 29 with fail
            go_cut [204] λcv wx=>cv=F false/\Bl az wx
            case first=>
             as_aux_lemma=>
              have hq:Bl az az.drew:=(BE _ az).drew;obtain⟨k0,k1,k2,k3⟩:=HC.o _ hq;cases k with
              |zero=>
               as_aux_lemma=>
                refine wp_region_held_drew (S:=(λw'=>w'.cell? ⟨g1,0*2+1,none⟩=some (Q R (tt:Int))/\w'.cell? ⟨f9,0,none⟩=some (C jm my kd)/\w'.cell? ⟨ak,0,none⟩=some (C jn mz ke)/\w'.cell? ⟨ah,0,none⟩=some (C jo nf kf))) (by kernel_rfl) ⟨k0,k1,k2,k3⟩ λap=>?_;refine wpAnyH_take (i:=0) (oi:={ dst:=some 161,op:=Go.Op.load 25 (Go.Operand.tmp 32),type:=25,pos:="law.go:109",after:=#[],guard:=none }) (v:=?_) rfl (by kernel_rfl) (by kernel_rfl) (by kernel_rfl) (λ_ _ _ h=>h) (Or.inl ⟨by rfl,?_⟩) (by assumption) ?_;rotate_left
                . intro w9 f;(try dsimp only at f);go_simp;try with_reducible rfl
                try simp only[Act.put,Ab,Ad,Ac]
                refine wpAnyH_ready (rs:=[1]) (by kernel_rfl) J ?_;refine AllReadyH.cons (o:={ dst:=some 162,op:=Go.Op.call { callee:=Go.Callee.value (Go.Operand.func 11),args:=#[Go.Operand.tmp 161],argTypes:=#[25] },type:=9,pos:="law.go:109",after:=#[{ on:=0,ground:=Go.Ground.data }],guard:=none }) rfl (λK hK=>?_) AllReadyH.nil;clear ap;go_simp;go_at_call 11;refine(H3.o _ hq).mono ?_;clear H3;rintro e uk ⟨rfl,A⟩;replace hq:=Bt hq A;clear A k0 k1 k2 k3;obtain⟨k0,k1,k2,k3⟩:=HC.o _ hq
                try go_wp2_with fail
                refine hK.out _ _ ⟨k0,k1,k2,k3⟩ λap=>?_;clear hK K;try simp only[Act.put,Ab,Ad,Ac]
                refine wpAnyH_take (i:=2) (oi:={ dst:=some 163,op:=Go.Op.binOp Go.BinOp.neq 9 (Go.Operand.tmp 162) (Go.Operand.const (Go.Value.string { data:=#[49] })) 9,type:=4,pos:="law.go:109",after:=#[{ on:=1,ground:=Go.Ground.data }],guard:=none }) (v:=?_) rfl (by kernel_rfl) (by kernel_rfl) (by kernel_rfl) (λ_ _ _ h=>h) (Or.inl ⟨by rfl,?_⟩) (by assumption) ?_;rotate_left
                . intro w9 f;(try dsimp only at f);go_simp;try with_reducible rfl
                try simp only[Act.put,Ab,Ad,Ac]
                refine wpAnyH_take (i:=3) (oi:={ dst:=some 164,op:=Go.Op.move (Go.Operand.tmp 163),type:=4,pos:="law.go:109",after:=#[{ on:=2,ground:=Go.Ground.data },{ on:=1,ground:=Go.Ground.chain }],guard:=none }) (v:=?_) rfl (by kernel_rfl) (by kernel_rfl) (by kernel_rfl) (λ_ _ _ h=>h) (Or.inl ⟨by rfl,?_⟩) (by assumption) ?_;rotate_left
                . intro w9 f;(try dsimp only at f);go_simp;try with_reducible rfl
                try simp only[Act.put,Ab,Ad,Ac]
                refine wpAnyH_take (i:=4) (oi:={ dst:=some 165,op:=Go.Op.load 25 (Go.Operand.tmp 31),type:=25,pos:="law.go:109",after:=#[{ on:=3,ground:=Go.Ground.guard }],guard:=some (3,false) }) (v:=?_) rfl (by kernel_rfl) (by kernel_rfl) (by kernel_rfl) (λ_ _ _ h=>h) (Or.inl ⟨by rfl,?_⟩) (by assumption) ?_;rotate_left
                . intro w9 f;(try dsimp only at f);go_simp;try with_reducible rfl
                try simp only[Act.put,Ab,Ad,Ac]
                refine wpAnyH_ready (rs:=[5]) (by kernel_rfl) J ?_;refine AllReadyH.cons (o:={ dst:=some 166,op:=Go.Op.call { callee:=Go.Callee.value (Go.Operand.func 20),args:=#[Go.Operand.tmp 165],argTypes:=#[25] },type:=3,pos:="law.go:109",after:=#[{ on:=4,ground:=Go.Ground.data },{ on:=3,ground:=Go.Ground.chain },{ on:=3,ground:=Go.Ground.guard }],guard:=some (3,false) }) rfl (λK hK=>?_) AllReadyH.nil;clear ap;go_simp;go_at_call 20;refine(U.o _ hq).mono ?_;clear U;rintro e ui ⟨rfl,A⟩;replace hq:=Bt hq A;clear A k0 k1 k2 k3;obtain⟨k0,k1,k2,k3⟩:=HC.o _ hq
                try go_wp2_with fail
                refine hK.out _ _ ⟨k0,k1,k2,k3⟩ λap=>?_;clear hK K;try simp only[Act.put,Ab,Ad,Ac]
                refine wpAnyH_take (i:=6) (oi:={ dst:=some 167,op:=Go.Op.binOp Go.BinOp.lss 3 (Go.Operand.tmp 166) (Go.Operand.const (Go.Value.int Go.IntKind.i64 1)) 3,type:=4,pos:="law.go:109",after:=#[{ on:=5,ground:=Go.Ground.data },{ on:=3,ground:=Go.Ground.guard }],guard:=some (3,false) }) (v:=?_) rfl (by kernel_rfl) (by kernel_rfl) (by kernel_rfl) (λ_ _ _ h=>h) (Or.inl ⟨by rfl,?_⟩) (by assumption) ?_;rotate_left
                . intro w9 f;(try dsimp only at f);go_simp;try with_reducible rfl
                try simp only[Act.put,Ab,Ad,Ac]
                refine wpAnyH_take (i:=7) (oi:={ dst:=some 168,op:=Go.Op.pick (Go.Operand.tmp 164) (Go.Operand.const (Go.Value.bool true)) (Go.Operand.tmp 167),type:=4,pos:="law.go:109",after:=#[{ on:=3,ground:=Go.Ground.data },{ on:=6,ground:=Go.Ground.data }],guard:=none }) (v:=?_) rfl (by kernel_rfl) (by kernel_rfl) (by kernel_rfl) (λ_ _ _ h=>h) (Or.inl ⟨by rfl,?_⟩) (by assumption) ?_;rotate_left
                . intro w9 f;(try dsimp only at f);go_simp;try with_reducible rfl
                try simp only[Act.put,Ab,Ad,Ac]
                refine wpAnyH_take (i:=8) (oi:={ dst:=some 169,op:=Go.Op.move (Go.Operand.tmp 168),type:=4,pos:="law.go:109",after:=#[{ on:=7,ground:=Go.Ground.data },{ on:=5,ground:=Go.Ground.chain }],guard:=none }) (v:=?_) rfl (by kernel_rfl) (by kernel_rfl) (by kernel_rfl) (λ_ _ _ h=>h) (Or.inl ⟨by rfl,?_⟩) (by assumption) ?_;rotate_left
                . intro w9 f;(try dsimp only at f);go_simp;try with_reducible rfl
                try simp only[Act.put,Ab,Ad,Ac]
                refine wpAnyH_take (i:=9) (oi:={ dst:=some 170,op:=Go.Op.move (Go.Operand.tmp 26),type:=39,pos:="law.go:109",after:=#[{ on:=8,ground:=Go.Ground.guard }],guard:=some (8,false) }) (v:=?_) rfl (by kernel_rfl) (by kernel_rfl) (by kernel_rfl) (λ_ _ _ h=>h) (Or.inl ⟨by rfl,?_⟩) (by assumption) ?_;rotate_left
                . intro w9 f;(try dsimp only at f);go_simp;try with_reducible rfl
                try simp only[Act.put,Ab,Ad,Ac]
                refine wpAnyH_take (i:=10) (oi:={ dst:=some 171,op:=Go.Op.move (Go.Operand.tmp 30),type:=3,pos:="law.go:109",after:=#[{ on:=8,ground:=Go.Ground.guard }],guard:=some (8,false) }) (v:=?_) rfl (by kernel_rfl) (by kernel_rfl) (by kernel_rfl) (λ_ _ _ h=>h) (Or.inl ⟨by rfl,?_⟩) (by assumption) ?_;rotate_left
                . intro w9 f;(try dsimp only at f);go_simp;try with_reducible rfl
                try simp only[Act.put,Ab,Ad,Ac]
                refine wpAnyH_take (i:=11) (oi:={ dst:=some 172,op:=Go.Op.indexAddr 39 (Go.Operand.tmp 170) (Go.Operand.tmp 171),type:=0,pos:="law.go:109",after:=#[{ on:=9,ground:=Go.Ground.data },{ on:=10,ground:=Go.Ground.data },{ on:=8,ground:=Go.Ground.guard }],guard:=some (8,false) }) (v:=?_) rfl (by kernel_rfl) (by kernel_rfl) (by kernel_rfl) (λ_ _ _ h=>h) (Or.inl ⟨by rfl,?_⟩) (by assumption) ?_;rotate_left
                . intro w9 f;(try dsimp only at f);go_simp;try with_reducible rfl
                try simp only[Act.put,Ab,Ad,Ac]
                refine wpAnyH_take (i:=12) (oi:={ dst:=some 173,op:=Go.Op.fieldAddr 44 (Go.Operand.tmp 172) 1,type:=0,pos:="law.go:109",after:=#[{ on:=11,ground:=Go.Ground.data },{ on:=8,ground:=Go.Ground.guard }],guard:=some (8,false) }) (v:=?_) rfl (by kernel_rfl) (by kernel_rfl) (by kernel_rfl) (λ_ _ _ h=>h) (Or.inl ⟨by rfl,?_⟩) (by assumption) ?_;rotate_left
                . intro w9 f;(try dsimp only at f);go_simp;try with_reducible rfl
                try simp only[Act.put,Ab,Ad,Ac]
                refine wpAnyH_take (i:=13) (oi:={ dst:=some 174,op:=Go.Op.load 3 (Go.Operand.tmp 173),type:=3,pos:="law.go:109",after:=#[{ on:=12,ground:=Go.Ground.data },{ on:=8,ground:=Go.Ground.guard }],guard:=some (8,false) }) (v:=?_) rfl (by kernel_rfl) (by kernel_rfl) (by kernel_rfl) (λ_ _ _ h=>h) (Or.inl ⟨by rfl,?_⟩) (by assumption) ?_;rotate_left
                . intro w9 f;(try dsimp only at f);go_simp;try with_reducible rfl
                try simp only[Act.put,Ab,Ad,Ac]
                refine wpAnyH_take (i:=14) (oi:={ dst:=some 175,op:=Go.Op.binOp Go.BinOp.lss 3 (Go.Operand.tmp 174) (Go.Operand.const (Go.Value.int Go.IntKind.i64 1)) 3,type:=4,pos:="law.go:109",after:=#[{ on:=13,ground:=Go.Ground.data },{ on:=8,ground:=Go.Ground.guard }],guard:=some (8,false) }) (v:=?_) rfl (by kernel_rfl) (by kernel_rfl) (by kernel_rfl) (λ_ _ _ h=>h) (Or.inl ⟨by rfl,?_⟩) (by assumption) ?_;rotate_left
                . intro w9 f;(try dsimp only at f);go_simp;try with_reducible rfl
                try simp only[Act.put,Ab,Ad,Ac]
                refine wpAnyH_take (i:=15) (oi:={ dst:=some 176,op:=Go.Op.pick (Go.Operand.tmp 169) (Go.Operand.const (Go.Value.bool true)) (Go.Operand.tmp 175),type:=4,pos:="law.go:109",after:=#[{ on:=8,ground:=Go.Ground.data },{ on:=14,ground:=Go.Ground.data }],guard:=none }) (v:=?_) rfl (by kernel_rfl) (by kernel_rfl) (by kernel_rfl) (λ_ _ _ h=>h) (Or.inl ⟨by rfl,?_⟩) (by assumption) ?_;rotate_left
                . intro w9 f;(try dsimp only at f);go_simp;try with_reducible rfl
                try simp only[Act.put,Ab,Ad,Ac]
                refine wpAnyH_take (i:=16) (oi:={ dst:=some 177,op:=Go.Op.move (Go.Operand.tmp 176),type:=4,pos:="law.go:109",after:=#[{ on:=15,ground:=Go.Ground.data },{ on:=8,ground:=Go.Ground.chain }],guard:=none }) (v:=?_) rfl (by kernel_rfl) (by kernel_rfl) (by kernel_rfl) (λ_ _ _ h=>h) (Or.inl ⟨by rfl,?_⟩) (by assumption) ?_;rotate_left
                . intro w9 f;(try dsimp only at f);go_simp;try with_reducible rfl
                try simp only[Act.put,Ab,Ad,Ac]
                refine wpAnyH_take (i:=17) (oi:={ dst:=some 178,op:=Go.Op.move (Go.Operand.tmp 30),type:=3,pos:="law.go:109",after:=#[{ on:=16,ground:=Go.Ground.guard }],guard:=some (16,false) }) (v:=?_) rfl (by kernel_rfl) (by kernel_rfl) (by kernel_rfl) (λ_ _ _ h=>h) (Or.inl ⟨by rfl,?_⟩) (by assumption) ?_;rotate_left
                . intro w9 f;(try dsimp only at f);go_simp;try with_reducible rfl
                try simp only[Act.put,Ab,Ad,Ac]
                refine wpAnyH_take (i:=18) (oi:={ dst:=some 179,op:=Go.Op.binOp Go.BinOp.gtr 3 (Go.Operand.tmp 178) (Go.Operand.const (Go.Value.int Go.IntKind.i64 0)) 3,type:=4,pos:="law.go:109",after:=#[{ on:=17,ground:=Go.Ground.data },{ on:=16,ground:=Go.Ground.guard }],guard:=some (16,false) }) (v:=?_) rfl (by kernel_rfl) (by kernel_rfl) (by kernel_rfl) (λ_ _ _ h=>h) (Or.inl ⟨by rfl,?_⟩) (by assumption) ?_;rotate_left
                . intro w9 f;(try dsimp only at f);go_simp;try with_reducible rfl
                try simp only[Act.put,Ab,Ad,Ac]
                refine wpAnyH_take (i:=19) (oi:={ dst:=some 180,op:=Go.Op.move (Go.Operand.tmp 179),type:=4,pos:="law.go:109",after:=#[{ on:=18,ground:=Go.Ground.data },{ on:=16,ground:=Go.Ground.chain },{ on:=16,ground:=Go.Ground.guard }],guard:=some (16,false) }) (v:=?_) rfl (by kernel_rfl) (by kernel_rfl) (by kernel_rfl) (λ_ _ _ h=>h) (Or.inl ⟨by rfl,?_⟩) (by assumption) ?_;rotate_left
                . intro w9 f;(try dsimp only at f);go_simp;try with_reducible rfl
                try simp only[Act.put,Ab,Ad,Ac]
                refine wpAnyH_take (i:=20) (oi:={ dst:=some 181,op:=Go.Op.move (Go.Operand.tmp 26),type:=39,pos:="law.go:109",after:=#[{ on:=19,ground:=Go.Ground.guard }],guard:=some (19,true) }) (v:=H) rfl (by kernel_rfl) (by kernel_rfl) (by kernel_rfl) (λ_ _ _ h=>h) (Or.inr ⟨by rfl,rfl⟩) (by assumption) ?_;try simp only[Act.put,Ab,Ad,Ac]
                refine wpAnyH_take (i:=21) (oi:={ dst:=some 182,op:=Go.Op.move (Go.Operand.tmp 30),type:=3,pos:="law.go:109",after:=#[{ on:=19,ground:=Go.Ground.guard }],guard:=some (19,true) }) (v:=H) rfl (by kernel_rfl) (by kernel_rfl) (by kernel_rfl) (λ_ _ _ h=>h) (Or.inr ⟨by rfl,rfl⟩) (by assumption) ?_;try simp only[Act.put,Ab,Ad,Ac]
                refine wpAnyH_take (i:=22) (oi:={ dst:=some 183,op:=Go.Op.indexAddr 39 (Go.Operand.tmp 181) (Go.Operand.tmp 182),type:=0,pos:="law.go:109",after:=#[{ on:=20,ground:=Go.Ground.data },{ on:=21,ground:=Go.Ground.data },{ on:=19,ground:=Go.Ground.guard }],guard:=some (19,true) }) (v:=H) rfl (by kernel_rfl) (by kernel_rfl) (by kernel_rfl) (λ_ _ _ h=>h) (Or.inr ⟨by rfl,rfl⟩) (by assumption) ?_;try simp only[Act.put,Ab,Ad,Ac]
                refine wpAnyH_take (i:=23) (oi:={ dst:=some 184,op:=Go.Op.fieldAddr 44 (Go.Operand.tmp 183) 1,type:=0,pos:="law.go:109",after:=#[{ on:=22,ground:=Go.Ground.data },{ on:=19,ground:=Go.Ground.guard }],guard:=some (19,true) }) (v:=H) rfl (by kernel_rfl) (by kernel_rfl) (by kernel_rfl) (λ_ _ _ h=>h) (Or.inr ⟨by rfl,rfl⟩) (by assumption) ?_;try simp only[Act.put,Ab,Ad,Ac]
                refine wpAnyH_take (i:=24) (oi:={ dst:=some 185,op:=Go.Op.load 3 (Go.Operand.tmp 184),type:=3,pos:="law.go:109",after:=#[{ on:=23,ground:=Go.Ground.data },{ on:=19,ground:=Go.Ground.guard }],guard:=some (19,true) }) (v:=H) rfl (by kernel_rfl) (by kernel_rfl) (by kernel_rfl) (λ_ _ _ h=>h) (Or.inr ⟨by rfl,rfl⟩) (by assumption) ?_;try simp only[Act.put,Ab,Ad,Ac]
                refine wpAnyH_take (i:=25) (oi:={ dst:=some 186,op:=Go.Op.move (Go.Operand.tmp 26),type:=39,pos:="law.go:109",after:=#[{ on:=19,ground:=Go.Ground.guard }],guard:=some (19,true) }) (v:=H) rfl (by kernel_rfl) (by kernel_rfl) (by kernel_rfl) (λ_ _ _ h=>h) (Or.inr ⟨by rfl,rfl⟩) (by assumption) ?_;try simp only[Act.put,Ab,Ad,Ac]
                refine wpAnyH_take (i:=26) (oi:={ dst:=some 187,op:=Go.Op.move (Go.Operand.tmp 30),type:=3,pos:="law.go:109",after:=#[{ on:=19,ground:=Go.Ground.guard }],guard:=some (19,true) }) (v:=H) rfl (by kernel_rfl) (by kernel_rfl) (by kernel_rfl) (λ_ _ _ h=>h) (Or.inr ⟨by rfl,rfl⟩) (by assumption) ?_;try simp only[Act.put,Ab,Ad,Ac]
                refine wpAnyH_take (i:=27) (oi:={ dst:=some 188,op:=Go.Op.binOp Go.BinOp.sub 3 (Go.Operand.tmp 187) (Go.Operand.const (Go.Value.int Go.IntKind.i64 1)) 3,type:=3,pos:="law.go:109",after:=#[{ on:=26,ground:=Go.Ground.data },{ on:=19,ground:=Go.Ground.guard }],guard:=some (19,true) }) (v:=H) rfl (by kernel_rfl) (by kernel_rfl) (by kernel_rfl) (λ_ _ _ h=>h) (Or.inr ⟨by rfl,rfl⟩) (by assumption) ?_;try simp only[Act.put,Ab,Ad,Ac]
                refine wpAnyH_take (i:=28) (oi:={ dst:=some 189,op:=Go.Op.indexAddr 39 (Go.Operand.tmp 186) (Go.Operand.tmp 188),type:=0,pos:="law.go:109",after:=#[{ on:=25,ground:=Go.Ground.data },{ on:=27,ground:=Go.Ground.data },{ on:=19,ground:=Go.Ground.guard }],guard:=some (19,true) }) (v:=H) rfl (by kernel_rfl) (by kernel_rfl) (by kernel_rfl) (λ_ _ _ h=>h) (Or.inr ⟨by rfl,rfl⟩) (by assumption) ?_;try simp only[Act.put,Ab,Ad,Ac]
                refine wpAnyH_take (i:=29) (oi:={ dst:=some 190,op:=Go.Op.fieldAddr 44 (Go.Operand.tmp 189) 1,type:=0,pos:="law.go:109",after:=#[{ on:=28,ground:=Go.Ground.data },{ on:=19,ground:=Go.Ground.guard }],guard:=some (19,true) }) (v:=H) rfl (by kernel_rfl) (by kernel_rfl) (by kernel_rfl) (λ_ _ _ h=>h) (Or.inr ⟨by rfl,rfl⟩) (by assumption) ?_;try simp only[Act.put,Ab,Ad,Ac]
                refine wpAnyH_take (i:=30) (oi:={ dst:=some 191,op:=Go.Op.load 3 (Go.Operand.tmp 190),type:=3,pos:="law.go:109",after:=#[{ on:=29,ground:=Go.Ground.data },{ on:=19,ground:=Go.Ground.guard }],guard:=some (19,true) }) (v:=H) rfl (by kernel_rfl) (by kernel_rfl) (by kernel_rfl) (λ_ _ _ h=>h) (Or.inr ⟨by rfl,rfl⟩) (by assumption) ?_;try simp only[Act.put,Ab,Ad,Ac]
                refine wpAnyH_take (i:=31) (oi:={ dst:=some 192,op:=Go.Op.binOp Go.BinOp.leq 3 (Go.Operand.tmp 185) (Go.Operand.tmp 191) 3,type:=4,pos:="law.go:109",after:=#[{ on:=24,ground:=Go.Ground.data },{ on:=30,ground:=Go.Ground.data },{ on:=19,ground:=Go.Ground.guard }],guard:=some (19,true) }) (v:=H) rfl (by kernel_rfl) (by kernel_rfl) (by kernel_rfl) (λ_ _ _ h=>h) (Or.inr ⟨by rfl,rfl⟩) (by assumption) ?_;try simp only[Act.put,Ab,Ad,Ac]
                refine wpAnyH_take (i:=32) (oi:={ dst:=some 193,op:=Go.Op.pick (Go.Operand.tmp 180) (Go.Operand.tmp 192) (Go.Operand.const (Go.Value.bool false)),type:=4,pos:="law.go:109",after:=#[{ on:=19,ground:=Go.Ground.data },{ on:=31,ground:=Go.Ground.data },{ on:=16,ground:=Go.Ground.guard }],guard:=some (16,false) }) (v:=?_) rfl (by kernel_rfl) (by kernel_rfl) (by kernel_rfl) (λ_ _ _ h=>h) (Or.inl ⟨by rfl,?_⟩) (by assumption) ?_;rotate_left
                . intro w9 f;(try dsimp only at f);go_simp;try with_reducible rfl
                try simp only[Act.put,Ab,Ad,Ac]
                refine wpAnyH_take (i:=33) (oi:={ dst:=some 194,op:=Go.Op.pick (Go.Operand.tmp 177) (Go.Operand.const (Go.Value.bool true)) (Go.Operand.tmp 193),type:=4,pos:="law.go:109",after:=#[{ on:=16,ground:=Go.Ground.data },{ on:=32,ground:=Go.Ground.data }],guard:=none }) (v:=?_) rfl (by kernel_rfl) (by kernel_rfl) (by kernel_rfl) (λ_ _ _ h=>h) (Or.inl ⟨by rfl,?_⟩) (by assumption) ?_;rotate_left
                . intro w9 f;(try dsimp only at f);go_simp;try with_reducible rfl
                try simp only[Act.put,Ab,Ad,Ac]
                refine wpAnyH_take (i:=34) (oi:={ dst:=some 195,op:=Go.Op.move (Go.Operand.tmp 194),type:=4,pos:="law.go:109",after:=#[{ on:=33,ground:=Go.Ground.data },{ on:=19,ground:=Go.Ground.chain }],guard:=none }) (v:=?_) rfl (by kernel_rfl) (by kernel_rfl) (by kernel_rfl) (λ_ _ _ h=>h) (Or.inl ⟨by rfl,?_⟩) (by assumption) ?_;rotate_left
                . intro w9 f;(try dsimp only at f);go_simp;try with_reducible rfl
                try simp only[Act.put,Ab,Ad,Ac]
                refine wpAnyH_take (i:=35) (oi:={ dst:=some 196,op:=Go.Op.move (Go.Operand.tmp 26),type:=39,pos:="law.go:109",after:=#[{ on:=34,ground:=Go.Ground.guard }],guard:=some (34,false) }) (v:=?_) rfl (by kernel_rfl) (by kernel_rfl) (by kernel_rfl) (λ_ _ _ h=>h) (Or.inl ⟨by rfl,?_⟩) (by assumption) ?_;rotate_left
                . intro w9 f;(try dsimp only at f);go_simp;try with_reducible rfl
                try simp only[Act.put,Ab,Ad,Ac]
                refine wpAnyH_take (i:=36) (oi:={ dst:=some 197,op:=Go.Op.move (Go.Operand.tmp 30),type:=3,pos:="law.go:109",after:=#[{ on:=34,ground:=Go.Ground.guard }],guard:=some (34,false) }) (v:=?_) rfl (by kernel_rfl) (by kernel_rfl) (by kernel_rfl) (λ_ _ _ h=>h) (Or.inl ⟨by rfl,?_⟩) (by assumption) ?_;rotate_left
                . intro w9 f;(try dsimp only at f);go_simp;try with_reducible rfl
                try simp only[Act.put,Ab,Ad,Ac]
                refine wpAnyH_take (i:=37) (oi:={ dst:=some 198,op:=Go.Op.indexAddr 39 (Go.Operand.tmp 196) (Go.Operand.tmp 197),type:=0,pos:="law.go:109",after:=#[{ on:=35,ground:=Go.Ground.data },{ on:=36,ground:=Go.Ground.data },{ on:=34,ground:=Go.Ground.guard }],guard:=some (34,false) }) (v:=?_) rfl (by kernel_rfl) (by kernel_rfl) (by kernel_rfl) (λ_ _ _ h=>h) (Or.inl ⟨by rfl,?_⟩) (by assumption) ?_;rotate_left
                . intro w9 f;(try dsimp only at f);go_simp;try with_reducible rfl
                try simp only[Act.put,Ab,Ad,Ac]
                refine wpAnyH_take (i:=38) (oi:={ dst:=some 199,op:=Go.Op.fieldAddr 44 (Go.Operand.tmp 198) 1,type:=0,pos:="law.go:109",after:=#[{ on:=37,ground:=Go.Ground.data },{ on:=34,ground:=Go.Ground.guard }],guard:=some (34,false) }) (v:=?_) rfl (by kernel_rfl) (by kernel_rfl) (by kernel_rfl) (λ_ _ _ h=>h) (Or.inl ⟨by rfl,?_⟩) (by assumption) ?_;rotate_left
                . intro w9 f;(try dsimp only at f);go_simp;try with_reducible rfl
                try simp only[Act.put,Ab,Ad,Ac]
                refine wpAnyH_take (i:=39) (oi:={ dst:=some 200,op:=Go.Op.load 3 (Go.Operand.tmp 199),type:=3,pos:="law.go:109",after:=#[{ on:=38,ground:=Go.Ground.data },{ on:=34,ground:=Go.Ground.guard }],guard:=some (34,false) }) (v:=?_) rfl (by kernel_rfl) (by kernel_rfl) (by kernel_rfl) (λ_ _ _ h=>h) (Or.inl ⟨by rfl,?_⟩) (by assumption) ?_;rotate_left
                . intro w9 f;(try dsimp only at f);go_simp;try with_reducible rfl
                try simp only[Act.put,Ab,Ad,Ac]
                refine wpAnyH_take (i:=40) (oi:={ dst:=some 201,op:=Go.Op.load 25 (Go.Operand.tmp 25),type:=25,pos:="law.go:109",after:=#[{ on:=34,ground:=Go.Ground.guard }],guard:=some (34,false) }) (v:=?_) rfl (by kernel_rfl) (by kernel_rfl) (by kernel_rfl) (λ_ _ _ h=>h) (Or.inl ⟨by rfl,?_⟩) (by assumption) ?_;rotate_left
                . intro w9 f;(try dsimp only at f);go_simp;try with_reducible rfl
                try simp only[Act.put,Ab,Ad,Ac]
                refine wpAnyH_ready (rs:=[41]) (by kernel_rfl) J ?_;refine AllReadyH.cons (o:={ dst:=some 202,op:=Go.Op.call { callee:=Go.Callee.value (Go.Operand.func 20),args:=#[Go.Operand.tmp 201],argTypes:=#[25] },type:=3,pos:="law.go:109",after:=#[{ on:=40,ground:=Go.Ground.data },{ on:=34,ground:=Go.Ground.chain },{ on:=34,ground:=Go.Ground.guard }],guard:=some (34,false) }) rfl (λK hK=>?_) AllReadyH.nil;clear ap;go_simp;go_at_call 20;refine(H2.o _ hq).mono ?_;clear H2;rintro e uj ⟨rfl,A⟩;replace hq:=Bt hq A;clear A k0 k1 k2 k3;obtain⟨k0,k1,k2,k3⟩:=HC.o _ hq
                try go_wp2_with fail
                refine hK.out _ _ ⟨k0,k1,k2,k3⟩ λap=>?_;clear hK K;try simp only[Act.put,Ab,Ad,Ac]
                refine wpAnyH_take (i:=42) (oi:={ dst:=some 203,op:=Go.Op.binOp Go.BinOp.gtr 3 (Go.Operand.tmp 200) (Go.Operand.tmp 202) 3,type:=4,pos:="law.go:109",after:=#[{ on:=39,ground:=Go.Ground.data },{ on:=41,ground:=Go.Ground.data },{ on:=34,ground:=Go.Ground.guard }],guard:=some (34,false) }) (v:=?_) rfl (by kernel_rfl) (by kernel_rfl) (by kernel_rfl) (λ_ _ _ h=>h) (Or.inl ⟨by rfl,?_⟩) (by assumption) ?_;rotate_left
                . intro w9 f;(try dsimp only at f);go_simp;try with_reducible rfl
                try simp only[Act.put,Ab,Ad,Ac]
                refine wpAnyH_take (i:=43) (oi:={ dst:=some 204,op:=Go.Op.pick (Go.Operand.tmp 195) (Go.Operand.const (Go.Value.bool true)) (Go.Operand.tmp 203),type:=4,pos:="law.go:109",after:=#[{ on:=34,ground:=Go.Ground.data },{ on:=42,ground:=Go.Ground.data }],guard:=none }) (v:=?_) rfl (by kernel_rfl) (by kernel_rfl) (by kernel_rfl) (λ_ _ _ h=>h) (Or.inl ⟨by rfl,?_⟩) (by assumption) ?_;rotate_left
                . intro w9 f;(try dsimp only at f);go_simp;try with_reducible rfl
                try simp only[Act.put,Ab,Ad,Ac]
                refine wpAnyH_done (by kernel_rfl) ?_ _;go_wp2_with fail
                go_meet
                exact⟨rfl,hq⟩
              |succ j=>
               as_aux_lemma=>
                obtain⟨⟨ej,tj⟩,e2⟩:∃x,L[j]?=some x:=⟨_,An Z⟩;obtain⟨_,_,x2,_⟩:=OT.2.2.2.2 j ej tj e2;have Wx:GL L j=(tj:Int):=by unfold GL;rw[e2]
                rw[Wx]at x2;have Zk:tj<tt:=(RV Qe.o.2.1 (Nat.lt_succ_self j) e2 HE.o.2.2.2.2.2.2.2).1;have f4:decide ((tt:Int)<=(tj:Int))=false:=BI Z;have f5:decide ((0:Int)<(j:Int)+1)=true:=BK Z;have f6:(j:Int)+1-1=(j:Int):=Z
                have b1:(0:Int)<=(j:Int)+1:=Z
                have b2:(j:Int)+1<(L.length:Int):=Z
                have b3:(j:Int)<(L.length:Int):=Z
                have b4:((j:Int)+1).toNat=j+1:=Z
                have b5:IntKind.i64.wrap (j:Int)=(j:Int):=by rw[BZ];omega
                have b7:decide (tt<=tj)=false:=BI Z;have Qz:=O λ(V:I) (h:Bl az V)=>show V.cell? ⟨g1,j*2+1,none⟩=some (Q R (tj:Int))from(h.cell (p:=⟨g1,_,none⟩) OT.lt).trans x2;have k4:=Qz.o _ hq;clear x2 Wx Zk e2;refine wp_region_held_drew (S:=(λw'=>w'.cell? ⟨g1,j*2+1,none⟩=some (Q R (tj:Int))/\w'.cell? ⟨g1,(j+1)*2+1,none⟩=some (Q R (tt:Int))/\w'.cell? ⟨f9,0,none⟩=some (C jm my kd)/\w'.cell? ⟨ak,0,none⟩=some (C jn mz ke)/\w'.cell? ⟨ah,0,none⟩=some (C jo nf kf))) (by kernel_rfl) ⟨k4,k0,k1,k2,k3⟩ λap=>?_;refine wpAnyH_take (i:=0) (oi:={ dst:=some 161,op:=Go.Op.load 25 (Go.Operand.tmp 32),type:=25,pos:="law.go:109",after:=#[],guard:=none }) (v:=?_) rfl (by kernel_rfl) (by kernel_rfl) (by kernel_rfl) (λ_ _ _ h=>h) (Or.inl ⟨by rfl,?_⟩) (by assumption) ?_;rotate_left
                . intro w9 f;(try dsimp only at f);go_simp;try with_reducible rfl
                try simp only[Act.put,Ab,Ad,Ac]
                refine wpAnyH_ready (rs:=[1]) (by kernel_rfl) J ?_;refine AllReadyH.cons (o:={ dst:=some 162,op:=Go.Op.call { callee:=Go.Callee.value (Go.Operand.func 11),args:=#[Go.Operand.tmp 161],argTypes:=#[25] },type:=9,pos:="law.go:109",after:=#[{ on:=0,ground:=Go.Ground.data }],guard:=none }) rfl (λK hK=>?_) AllReadyH.nil;clear ap;go_simp;go_at_call 11;refine(H3.o _ hq).mono ?_;clear H3;rintro e uk ⟨rfl,A⟩;replace hq:=Bt hq A;clear A k0 k1 k2 k3 k4;have k4:=Qz.o _ hq;obtain⟨k0,k1,k2,k3⟩:=HC.o _ hq
                try go_wp2_with fail
                refine hK.out _ _ ⟨k4,k0,k1,k2,k3⟩ λap=>?_;clear hK K;try simp only[Act.put,Ab,Ad,Ac]
                refine wpAnyH_take (i:=2) (oi:={ dst:=some 163,op:=Go.Op.binOp Go.BinOp.neq 9 (Go.Operand.tmp 162) (Go.Operand.const (Go.Value.string { data:=#[49] })) 9,type:=4,pos:="law.go:109",after:=#[{ on:=1,ground:=Go.Ground.data }],guard:=none }) (v:=?_) rfl (by kernel_rfl) (by kernel_rfl) (by kernel_rfl) (λ_ _ _ h=>h) (Or.inl ⟨by rfl,?_⟩) (by assumption) ?_;rotate_left
                . intro w9 f;(try dsimp only at f);go_simp;try with_reducible rfl
                try simp only[Act.put,Ab,Ad,Ac]
                refine wpAnyH_take (i:=3) (oi:={ dst:=some 164,op:=Go.Op.move (Go.Operand.tmp 163),type:=4,pos:="law.go:109",after:=#[{ on:=2,ground:=Go.Ground.data },{ on:=1,ground:=Go.Ground.chain }],guard:=none }) (v:=?_) rfl (by kernel_rfl) (by kernel_rfl) (by kernel_rfl) (λ_ _ _ h=>h) (Or.inl ⟨by rfl,?_⟩) (by assumption) ?_;rotate_left
                . intro w9 f;(try dsimp only at f);go_simp;try with_reducible rfl
                try simp only[Act.put,Ab,Ad,Ac]
                refine wpAnyH_take (i:=4) (oi:={ dst:=some 165,op:=Go.Op.load 25 (Go.Operand.tmp 31),type:=25,pos:="law.go:109",after:=#[{ on:=3,ground:=Go.Ground.guard }],guard:=some (3,false) }) (v:=?_) rfl (by kernel_rfl) (by kernel_rfl) (by kernel_rfl) (λ_ _ _ h=>h) (Or.inl ⟨by rfl,?_⟩) (by assumption) ?_;rotate_left
                . intro w9 f;(try dsimp only at f);go_simp;try with_reducible rfl
                try simp only[Act.put,Ab,Ad,Ac]
                refine wpAnyH_ready (rs:=[5]) (by kernel_rfl) J ?_;refine AllReadyH.cons (o:={ dst:=some 166,op:=Go.Op.call { callee:=Go.Callee.value (Go.Operand.func 20),args:=#[Go.Operand.tmp 165],argTypes:=#[25] },type:=3,pos:="law.go:109",after:=#[{ on:=4,ground:=Go.Ground.data },{ on:=3,ground:=Go.Ground.chain },{ on:=3,ground:=Go.Ground.guard }],guard:=some (3,false) }) rfl (λK hK=>?_) AllReadyH.nil;clear ap;go_simp;go_at_call 20;refine(U.o _ hq).mono ?_;clear U;rintro e ui ⟨rfl,A⟩;replace hq:=Bt hq A;clear A k0 k1 k2 k3 k4;have k4:=Qz.o _ hq;obtain⟨k0,k1,k2,k3⟩:=HC.o _ hq
                try go_wp2_with fail
                refine hK.out _ _ ⟨k4,k0,k1,k2,k3⟩ λap=>?_;clear hK K;try simp only[Act.put,Ab,Ad,Ac]
                refine wpAnyH_take (i:=6) (oi:={ dst:=some 167,op:=Go.Op.binOp Go.BinOp.lss 3 (Go.Operand.tmp 166) (Go.Operand.const (Go.Value.int Go.IntKind.i64 1)) 3,type:=4,pos:="law.go:109",after:=#[{ on:=5,ground:=Go.Ground.data },{ on:=3,ground:=Go.Ground.guard }],guard:=some (3,false) }) (v:=?_) rfl (by kernel_rfl) (by kernel_rfl) (by kernel_rfl) (λ_ _ _ h=>h) (Or.inl ⟨by rfl,?_⟩) (by assumption) ?_;rotate_left
                . intro w9 f;(try dsimp only at f);go_simp;try with_reducible rfl
                try simp only[Act.put,Ab,Ad,Ac]
                refine wpAnyH_take (i:=7) (oi:={ dst:=some 168,op:=Go.Op.pick (Go.Operand.tmp 164) (Go.Operand.const (Go.Value.bool true)) (Go.Operand.tmp 167),type:=4,pos:="law.go:109",after:=#[{ on:=3,ground:=Go.Ground.data },{ on:=6,ground:=Go.Ground.data }],guard:=none }) (v:=?_) rfl (by kernel_rfl) (by kernel_rfl) (by kernel_rfl) (λ_ _ _ h=>h) (Or.inl ⟨by rfl,?_⟩) (by assumption) ?_;rotate_left
                . intro w9 f;(try dsimp only at f);go_simp;try with_reducible rfl
                try simp only[Act.put,Ab,Ad,Ac]
                refine wpAnyH_take (i:=8) (oi:={ dst:=some 169,op:=Go.Op.move (Go.Operand.tmp 168),type:=4,pos:="law.go:109",after:=#[{ on:=7,ground:=Go.Ground.data },{ on:=5,ground:=Go.Ground.chain }],guard:=none }) (v:=?_) rfl (by kernel_rfl) (by kernel_rfl) (by kernel_rfl) (λ_ _ _ h=>h) (Or.inl ⟨by rfl,?_⟩) (by assumption) ?_;rotate_left
                . intro w9 f;(try dsimp only at f);go_simp;try with_reducible rfl
                try simp only[Act.put,Ab,Ad,Ac]
                refine wpAnyH_take (i:=9) (oi:={ dst:=some 170,op:=Go.Op.move (Go.Operand.tmp 26),type:=39,pos:="law.go:109",after:=#[{ on:=8,ground:=Go.Ground.guard }],guard:=some (8,false) }) (v:=?_) rfl (by kernel_rfl) (by kernel_rfl) (by kernel_rfl) (λ_ _ _ h=>h) (Or.inl ⟨by rfl,?_⟩) (by assumption) ?_;rotate_left
                . intro w9 f;(try dsimp only at f);go_simp;try with_reducible rfl
                try simp only[Act.put,Ab,Ad,Ac]
                refine wpAnyH_take (i:=10) (oi:={ dst:=some 171,op:=Go.Op.move (Go.Operand.tmp 30),type:=3,pos:="law.go:109",after:=#[{ on:=8,ground:=Go.Ground.guard }],guard:=some (8,false) }) (v:=?_) rfl (by kernel_rfl) (by kernel_rfl) (by kernel_rfl) (λ_ _ _ h=>h) (Or.inl ⟨by rfl,?_⟩) (by assumption) ?_;rotate_left
                . intro w9 f;(try dsimp only at f);go_simp;try with_reducible rfl
                try simp only[Act.put,Ab,Ad,Ac]
                refine wpAnyH_take (i:=11) (oi:={ dst:=some 172,op:=Go.Op.indexAddr 39 (Go.Operand.tmp 170) (Go.Operand.tmp 171),type:=0,pos:="law.go:109",after:=#[{ on:=9,ground:=Go.Ground.data },{ on:=10,ground:=Go.Ground.data },{ on:=8,ground:=Go.Ground.guard }],guard:=some (8,false) }) (v:=?_) rfl (by kernel_rfl) (by kernel_rfl) (by kernel_rfl) (λ_ _ _ h=>h) (Or.inl ⟨by rfl,?_⟩) (by assumption) ?_;rotate_left
                . intro w9 f;(try dsimp only at f);go_simp;try with_reducible rfl
                try simp only[Act.put,Ab,Ad,Ac]
                refine wpAnyH_take (i:=12) (oi:={ dst:=some 173,op:=Go.Op.fieldAddr 44 (Go.Operand.tmp 172) 1,type:=0,pos:="law.go:109",after:=#[{ on:=11,ground:=Go.Ground.data },{ on:=8,ground:=Go.Ground.guard }],guard:=some (8,false) }) (v:=?_) rfl (by kernel_rfl) (by kernel_rfl) (by kernel_rfl) (λ_ _ _ h=>h) (Or.inl ⟨by rfl,?_⟩) (by assumption) ?_;rotate_left
                . intro w9 f;(try dsimp only at f);go_simp;try with_reducible rfl
                try simp only[Act.put,Ab,Ad,Ac]
                refine wpAnyH_take (i:=13) (oi:={ dst:=some 174,op:=Go.Op.load 3 (Go.Operand.tmp 173),type:=3,pos:="law.go:109",after:=#[{ on:=12,ground:=Go.Ground.data },{ on:=8,ground:=Go.Ground.guard }],guard:=some (8,false) }) (v:=?_) rfl (by kernel_rfl) (by kernel_rfl) (by kernel_rfl) (λ_ _ _ h=>h) (Or.inl ⟨by rfl,?_⟩) (by assumption) ?_;rotate_left
                . intro w9 f;(try dsimp only at f);go_simp;try with_reducible rfl
                try simp only[Act.put,Ab,Ad,Ac]
                refine wpAnyH_take (i:=14) (oi:={ dst:=some 175,op:=Go.Op.binOp Go.BinOp.lss 3 (Go.Operand.tmp 174) (Go.Operand.const (Go.Value.int Go.IntKind.i64 1)) 3,type:=4,pos:="law.go:109",after:=#[{ on:=13,ground:=Go.Ground.data },{ on:=8,ground:=Go.Ground.guard }],guard:=some (8,false) }) (v:=?_) rfl (by kernel_rfl) (by kernel_rfl) (by kernel_rfl) (λ_ _ _ h=>h) (Or.inl ⟨by rfl,?_⟩) (by assumption) ?_;rotate_left
                . intro w9 f;(try dsimp only at f);go_simp;try with_reducible rfl
                try simp only[Act.put,Ab,Ad,Ac]
                refine wpAnyH_take (i:=15) (oi:={ dst:=some 176,op:=Go.Op.pick (Go.Operand.tmp 169) (Go.Operand.const (Go.Value.bool true)) (Go.Operand.tmp 175),type:=4,pos:="law.go:109",after:=#[{ on:=8,ground:=Go.Ground.data },{ on:=14,ground:=Go.Ground.data }],guard:=none }) (v:=?_) rfl (by kernel_rfl) (by kernel_rfl) (by kernel_rfl) (λ_ _ _ h=>h) (Or.inl ⟨by rfl,?_⟩) (by assumption) ?_;rotate_left
                . intro w9 f;(try dsimp only at f);go_simp;try with_reducible rfl
                try simp only[Act.put,Ab,Ad,Ac]
                refine wpAnyH_take (i:=16) (oi:={ dst:=some 177,op:=Go.Op.move (Go.Operand.tmp 176),type:=4,pos:="law.go:109",after:=#[{ on:=15,ground:=Go.Ground.data },{ on:=8,ground:=Go.Ground.chain }],guard:=none }) (v:=?_) rfl (by kernel_rfl) (by kernel_rfl) (by kernel_rfl) (λ_ _ _ h=>h) (Or.inl ⟨by rfl,?_⟩) (by assumption) ?_;rotate_left
                . intro w9 f;(try dsimp only at f);go_simp;try with_reducible rfl
                try simp only[Act.put,Ab,Ad,Ac]
                refine wpAnyH_take (i:=17) (oi:={ dst:=some 178,op:=Go.Op.move (Go.Operand.tmp 30),type:=3,pos:="law.go:109",after:=#[{ on:=16,ground:=Go.Ground.guard }],guard:=some (16,false) }) (v:=?_) rfl (by kernel_rfl) (by kernel_rfl) (by kernel_rfl) (λ_ _ _ h=>h) (Or.inl ⟨by rfl,?_⟩) (by assumption) ?_;rotate_left
                . intro w9 f;(try dsimp only at f);go_simp;try with_reducible rfl
                try simp only[Act.put,Ab,Ad,Ac]
                refine wpAnyH_take (i:=18) (oi:={ dst:=some 179,op:=Go.Op.binOp Go.BinOp.gtr 3 (Go.Operand.tmp 178) (Go.Operand.const (Go.Value.int Go.IntKind.i64 0)) 3,type:=4,pos:="law.go:109",after:=#[{ on:=17,ground:=Go.Ground.data },{ on:=16,ground:=Go.Ground.guard }],guard:=some (16,false) }) (v:=?_) rfl (by kernel_rfl) (by kernel_rfl) (by kernel_rfl) (λ_ _ _ h=>h) (Or.inl ⟨by rfl,?_⟩) (by assumption) ?_;rotate_left
                . intro w9 f;(try dsimp only at f);go_simp;try with_reducible rfl
                try simp only[Act.put,Ab,Ad,Ac]
                refine wpAnyH_take (i:=19) (oi:={ dst:=some 180,op:=Go.Op.move (Go.Operand.tmp 179),type:=4,pos:="law.go:109",after:=#[{ on:=18,ground:=Go.Ground.data },{ on:=16,ground:=Go.Ground.chain },{ on:=16,ground:=Go.Ground.guard }],guard:=some (16,false) }) (v:=?_) rfl (by kernel_rfl) (by kernel_rfl) (by kernel_rfl) (λ_ _ _ h=>h) (Or.inl ⟨by rfl,?_⟩) (by assumption) ?_;rotate_left
                . intro w9 f;(try dsimp only at f);go_simp;try with_reducible rfl
                try simp only[Act.put,Ab,Ad,Ac]
                refine wpAnyH_take (i:=20) (oi:={ dst:=some 181,op:=Go.Op.move (Go.Operand.tmp 26),type:=39,pos:="law.go:109",after:=#[{ on:=19,ground:=Go.Ground.guard }],guard:=some (19,true) }) (v:=?_) rfl (by kernel_rfl) (by kernel_rfl) (by kernel_rfl) (λ_ _ _ h=>h) (Or.inl ⟨by rfl,?_⟩) (by assumption) ?_;rotate_left
                . intro w9 f;(try dsimp only at f);go_simp;try with_reducible rfl
                try simp only[Act.put,Ab,Ad,Ac]
                refine wpAnyH_take (i:=21) (oi:={ dst:=some 182,op:=Go.Op.move (Go.Operand.tmp 30),type:=3,pos:="law.go:109",after:=#[{ on:=19,ground:=Go.Ground.guard }],guard:=some (19,true) }) (v:=?_) rfl (by kernel_rfl) (by kernel_rfl) (by kernel_rfl) (λ_ _ _ h=>h) (Or.inl ⟨by rfl,?_⟩) (by assumption) ?_;rotate_left
                . intro w9 f;(try dsimp only at f);go_simp;try with_reducible rfl
                try simp only[Act.put,Ab,Ad,Ac]
                refine wpAnyH_take (i:=22) (oi:={ dst:=some 183,op:=Go.Op.indexAddr 39 (Go.Operand.tmp 181) (Go.Operand.tmp 182),type:=0,pos:="law.go:109",after:=#[{ on:=20,ground:=Go.Ground.data },{ on:=21,ground:=Go.Ground.data },{ on:=19,ground:=Go.Ground.guard }],guard:=some (19,true) }) (v:=?_) rfl (by kernel_rfl) (by kernel_rfl) (by kernel_rfl) (λ_ _ _ h=>h) (Or.inl ⟨by rfl,?_⟩) (by assumption) ?_;rotate_left
                . intro w9 f;(try dsimp only at f);go_simp;try with_reducible rfl
                try simp only[Act.put,Ab,Ad,Ac]
                refine wpAnyH_take (i:=23) (oi:={ dst:=some 184,op:=Go.Op.fieldAddr 44 (Go.Operand.tmp 183) 1,type:=0,pos:="law.go:109",after:=#[{ on:=22,ground:=Go.Ground.data },{ on:=19,ground:=Go.Ground.guard }],guard:=some (19,true) }) (v:=?_) rfl (by kernel_rfl) (by kernel_rfl) (by kernel_rfl) (λ_ _ _ h=>h) (Or.inl ⟨by rfl,?_⟩) (by assumption) ?_;rotate_left
                . intro w9 f;(try dsimp only at f);go_simp;try with_reducible rfl
                try simp only[Act.put,Ab,Ad,Ac]
                refine wpAnyH_take (i:=24) (oi:={ dst:=some 185,op:=Go.Op.load 3 (Go.Operand.tmp 184),type:=3,pos:="law.go:109",after:=#[{ on:=23,ground:=Go.Ground.data },{ on:=19,ground:=Go.Ground.guard }],guard:=some (19,true) }) (v:=?_) rfl (by kernel_rfl) (by kernel_rfl) (by kernel_rfl) (λ_ _ _ h=>h) (Or.inl ⟨by rfl,?_⟩) (by assumption) ?_;rotate_left
                . intro w9 f;(try dsimp only at f);go_simp;try with_reducible rfl
                try simp only[Act.put,Ab,Ad,Ac]
                refine wpAnyH_take (i:=25) (oi:={ dst:=some 186,op:=Go.Op.move (Go.Operand.tmp 26),type:=39,pos:="law.go:109",after:=#[{ on:=19,ground:=Go.Ground.guard }],guard:=some (19,true) }) (v:=?_) rfl (by kernel_rfl) (by kernel_rfl) (by kernel_rfl) (λ_ _ _ h=>h) (Or.inl ⟨by rfl,?_⟩) (by assumption) ?_;rotate_left
                . intro w9 f;(try dsimp only at f);go_simp;try with_reducible rfl
                try simp only[Act.put,Ab,Ad,Ac]
                refine wpAnyH_take (i:=26) (oi:={ dst:=some 187,op:=Go.Op.move (Go.Operand.tmp 30),type:=3,pos:="law.go:109",after:=#[{ on:=19,ground:=Go.Ground.guard }],guard:=some (19,true) }) (v:=?_) rfl (by kernel_rfl) (by kernel_rfl) (by kernel_rfl) (λ_ _ _ h=>h) (Or.inl ⟨by rfl,?_⟩) (by assumption) ?_;rotate_left
                . intro w9 f;(try dsimp only at f);go_simp;try with_reducible rfl
                try simp only[Act.put,Ab,Ad,Ac]
                refine wpAnyH_take (i:=27) (oi:={ dst:=some 188,op:=Go.Op.binOp Go.BinOp.sub 3 (Go.Operand.tmp 187) (Go.Operand.const (Go.Value.int Go.IntKind.i64 1)) 3,type:=3,pos:="law.go:109",after:=#[{ on:=26,ground:=Go.Ground.data },{ on:=19,ground:=Go.Ground.guard }],guard:=some (19,true) }) (v:=?_) rfl (by kernel_rfl) (by kernel_rfl) (by kernel_rfl) (λ_ _ _ h=>h) (Or.inl ⟨by rfl,?_⟩) (by assumption) ?_;rotate_left
                . intro w9 f;(try dsimp only at f);go_simp;try with_reducible rfl
                try simp only[Act.put,Ab,Ad,Ac]
                refine wpAnyH_take (i:=28) (oi:={ dst:=some 189,op:=Go.Op.indexAddr 39 (Go.Operand.tmp 186) (Go.Operand.tmp 188),type:=0,pos:="law.go:109",after:=#[{ on:=25,ground:=Go.Ground.data },{ on:=27,ground:=Go.Ground.data },{ on:=19,ground:=Go.Ground.guard }],guard:=some (19,true) }) (v:=?_) rfl (by kernel_rfl) (by kernel_rfl) (by kernel_rfl) (λ_ _ _ h=>h) (Or.inl ⟨by rfl,?_⟩) (by assumption) ?_;rotate_left
                . intro w9 f;(try dsimp only at f);go_simp;try with_reducible rfl
                try simp only[Act.put,Ab,Ad,Ac]
                refine wpAnyH_take (i:=29) (oi:={ dst:=some 190,op:=Go.Op.fieldAddr 44 (Go.Operand.tmp 189) 1,type:=0,pos:="law.go:109",after:=#[{ on:=28,ground:=Go.Ground.data },{ on:=19,ground:=Go.Ground.guard }],guard:=some (19,true) }) (v:=?_) rfl (by kernel_rfl) (by kernel_rfl) (by kernel_rfl) (λ_ _ _ h=>h) (Or.inl ⟨by rfl,?_⟩) (by assumption) ?_;rotate_left
                . intro w9 f;(try dsimp only at f);go_simp;try with_reducible rfl
                try simp only[Act.put,Ab,Ad,Ac]
                refine wpAnyH_take (i:=30) (oi:={ dst:=some 191,op:=Go.Op.load 3 (Go.Operand.tmp 190),type:=3,pos:="law.go:109",after:=#[{ on:=29,ground:=Go.Ground.data },{ on:=19,ground:=Go.Ground.guard }],guard:=some (19,true) }) (v:=?_) rfl (by kernel_rfl) (by kernel_rfl) (by kernel_rfl) (λ_ _ _ h=>h) (Or.inl ⟨by rfl,?_⟩) (by assumption) ?_;rotate_left
                . intro w9 f;(try dsimp only at f);go_simp;try with_reducible rfl
                try simp only[Act.put,Ab,Ad,Ac]
                refine wpAnyH_take (i:=31) (oi:={ dst:=some 192,op:=Go.Op.binOp Go.BinOp.leq 3 (Go.Operand.tmp 185) (Go.Operand.tmp 191) 3,type:=4,pos:="law.go:109",after:=#[{ on:=24,ground:=Go.Ground.data },{ on:=30,ground:=Go.Ground.data },{ on:=19,ground:=Go.Ground.guard }],guard:=some (19,true) }) (v:=?_) rfl (by kernel_rfl) (by kernel_rfl) (by kernel_rfl) (λ_ _ _ h=>h) (Or.inl ⟨by rfl,?_⟩) (by assumption) ?_;rotate_left
                . intro w9 f;(try dsimp only at f);go_simp;try with_reducible rfl
                try simp only[Act.put,Ab,Ad,Ac]
                refine wpAnyH_take (i:=32) (oi:={ dst:=some 193,op:=Go.Op.pick (Go.Operand.tmp 180) (Go.Operand.tmp 192) (Go.Operand.const (Go.Value.bool false)),type:=4,pos:="law.go:109",after:=#[{ on:=19,ground:=Go.Ground.data },{ on:=31,ground:=Go.Ground.data },{ on:=16,ground:=Go.Ground.guard }],guard:=some (16,false) }) (v:=?_) rfl (by kernel_rfl) (by kernel_rfl) (by kernel_rfl) (λ_ _ _ h=>h) (Or.inl ⟨by rfl,?_⟩) (by assumption) ?_;rotate_left
                . intro w9 f;(try dsimp only at f);go_simp;try with_reducible rfl
                try simp only[Act.put,Ab,Ad,Ac]
                refine wpAnyH_take (i:=33) (oi:={ dst:=some 194,op:=Go.Op.pick (Go.Operand.tmp 177) (Go.Operand.const (Go.Value.bool true)) (Go.Operand.tmp 193),type:=4,pos:="law.go:109",after:=#[{ on:=16,ground:=Go.Ground.data },{ on:=32,ground:=Go.Ground.data }],guard:=none }) (v:=?_) rfl (by kernel_rfl) (by kernel_rfl) (by kernel_rfl) (λ_ _ _ h=>h) (Or.inl ⟨by rfl,?_⟩) (by assumption) ?_;rotate_left
                . intro w9 f;(try dsimp only at f);go_simp;try with_reducible rfl
                try simp only[Act.put,Ab,Ad,Ac]
                refine wpAnyH_take (i:=34) (oi:={ dst:=some 195,op:=Go.Op.move (Go.Operand.tmp 194),type:=4,pos:="law.go:109",after:=#[{ on:=33,ground:=Go.Ground.data },{ on:=19,ground:=Go.Ground.chain }],guard:=none }) (v:=?_) rfl (by kernel_rfl) (by kernel_rfl) (by kernel_rfl) (λ_ _ _ h=>h) (Or.inl ⟨by rfl,?_⟩) (by assumption) ?_;rotate_left
                . intro w9 f;(try dsimp only at f);go_simp;try with_reducible rfl
                try simp only[Act.put,Ab,Ad,Ac]
                refine wpAnyH_take (i:=35) (oi:={ dst:=some 196,op:=Go.Op.move (Go.Operand.tmp 26),type:=39,pos:="law.go:109",after:=#[{ on:=34,ground:=Go.Ground.guard }],guard:=some (34,false) }) (v:=?_) rfl (by kernel_rfl) (by kernel_rfl) (by kernel_rfl) (λ_ _ _ h=>h) (Or.inl ⟨by rfl,?_⟩) (by assumption) ?_;rotate_left
                . intro w9 f;(try dsimp only at f);go_simp;try with_reducible rfl
                try simp only[Act.put,Ab,Ad,Ac]
                refine wpAnyH_take (i:=36) (oi:={ dst:=some 197,op:=Go.Op.move (Go.Operand.tmp 30),type:=3,pos:="law.go:109",after:=#[{ on:=34,ground:=Go.Ground.guard }],guard:=some (34,false) }) (v:=?_) rfl (by kernel_rfl) (by kernel_rfl) (by kernel_rfl) (λ_ _ _ h=>h) (Or.inl ⟨by rfl,?_⟩) (by assumption) ?_;rotate_left
                . intro w9 f;(try dsimp only at f);go_simp;try with_reducible rfl
                try simp only[Act.put,Ab,Ad,Ac]
                refine wpAnyH_take (i:=37) (oi:={ dst:=some 198,op:=Go.Op.indexAddr 39 (Go.Operand.tmp 196) (Go.Operand.tmp 197),type:=0,pos:="law.go:109",after:=#[{ on:=35,ground:=Go.Ground.data },{ on:=36,ground:=Go.Ground.data },{ on:=34,ground:=Go.Ground.guard }],guard:=some (34,false) }) (v:=?_) rfl (by kernel_rfl) (by kernel_rfl) (by kernel_rfl) (λ_ _ _ h=>h) (Or.inl ⟨by rfl,?_⟩) (by assumption) ?_;rotate_left
                . intro w9 f;(try dsimp only at f);go_simp;try with_reducible rfl
                try simp only[Act.put,Ab,Ad,Ac]
                refine wpAnyH_take (i:=38) (oi:={ dst:=some 199,op:=Go.Op.fieldAddr 44 (Go.Operand.tmp 198) 1,type:=0,pos:="law.go:109",after:=#[{ on:=37,ground:=Go.Ground.data },{ on:=34,ground:=Go.Ground.guard }],guard:=some (34,false) }) (v:=?_) rfl (by kernel_rfl) (by kernel_rfl) (by kernel_rfl) (λ_ _ _ h=>h) (Or.inl ⟨by rfl,?_⟩) (by assumption) ?_;rotate_left
                . intro w9 f;(try dsimp only at f);go_simp;try with_reducible rfl
                try simp only[Act.put,Ab,Ad,Ac]
                refine wpAnyH_take (i:=39) (oi:={ dst:=some 200,op:=Go.Op.load 3 (Go.Operand.tmp 199),type:=3,pos:="law.go:109",after:=#[{ on:=38,ground:=Go.Ground.data },{ on:=34,ground:=Go.Ground.guard }],guard:=some (34,false) }) (v:=?_) rfl (by kernel_rfl) (by kernel_rfl) (by kernel_rfl) (λ_ _ _ h=>h) (Or.inl ⟨by rfl,?_⟩) (by assumption) ?_;rotate_left
                . intro w9 f;(try dsimp only at f);go_simp;try with_reducible rfl
                try simp only[Act.put,Ab,Ad,Ac]
                refine wpAnyH_take (i:=40) (oi:={ dst:=some 201,op:=Go.Op.load 25 (Go.Operand.tmp 25),type:=25,pos:="law.go:109",after:=#[{ on:=34,ground:=Go.Ground.guard }],guard:=some (34,false) }) (v:=?_) rfl (by kernel_rfl) (by kernel_rfl) (by kernel_rfl) (λ_ _ _ h=>h) (Or.inl ⟨by rfl,?_⟩) (by assumption) ?_;rotate_left
                . intro w9 f;(try dsimp only at f);go_simp;try with_reducible rfl
                try simp only[Act.put,Ab,Ad,Ac]
                refine wpAnyH_ready (rs:=[41]) (by kernel_rfl) J ?_;refine AllReadyH.cons (o:={ dst:=some 202,op:=Go.Op.call { callee:=Go.Callee.value (Go.Operand.func 20),args:=#[Go.Operand.tmp 201],argTypes:=#[25] },type:=3,pos:="law.go:109",after:=#[{ on:=40,ground:=Go.Ground.data },{ on:=34,ground:=Go.Ground.chain },{ on:=34,ground:=Go.Ground.guard }],guard:=some (34,false) }) rfl (λK hK=>?_) AllReadyH.nil;clear ap;go_simp;go_at_call 20;refine(H2.o _ hq).mono ?_;clear H2;rintro e uj ⟨rfl,A⟩;replace hq:=Bt hq A;clear A k0 k1 k2 k3 k4;have k4:=Qz.o _ hq;obtain⟨k0,k1,k2,k3⟩:=HC.o _ hq
                try go_wp2_with fail
                refine hK.out _ _ ⟨k4,k0,k1,k2,k3⟩ λap=>?_;clear hK K;try simp only[Act.put,Ab,Ad,Ac]
                refine wpAnyH_take (i:=42) (oi:={ dst:=some 203,op:=Go.Op.binOp Go.BinOp.gtr 3 (Go.Operand.tmp 200) (Go.Operand.tmp 202) 3,type:=4,pos:="law.go:109",after:=#[{ on:=39,ground:=Go.Ground.data },{ on:=41,ground:=Go.Ground.data },{ on:=34,ground:=Go.Ground.guard }],guard:=some (34,false) }) (v:=?_) rfl (by kernel_rfl) (by kernel_rfl) (by kernel_rfl) (λ_ _ _ h=>h) (Or.inl ⟨by rfl,?_⟩) (by assumption) ?_;rotate_left
                . intro w9 f;(try dsimp only at f);go_simp;try with_reducible rfl
                try simp only[Act.put,Ab,Ad,Ac]
                refine wpAnyH_take (i:=43) (oi:={ dst:=some 204,op:=Go.Op.pick (Go.Operand.tmp 195) (Go.Operand.const (Go.Value.bool true)) (Go.Operand.tmp 203),type:=4,pos:="law.go:109",after:=#[{ on:=34,ground:=Go.Ground.data },{ on:=42,ground:=Go.Ground.data }],guard:=none }) (v:=?_) rfl (by kernel_rfl) (by kernel_rfl) (by kernel_rfl) (λ_ _ _ h=>h) (Or.inl ⟨by rfl,?_⟩) (by assumption) ?_;rotate_left
                . intro w9 f;(try dsimp only at f);go_simp;try with_reducible rfl
                try simp only[Act.put,Ab,Ad,Ac]
                refine wpAnyH_done (by kernel_rfl) ?_ _;go_wp2_with fail
                go_meet
                exact⟨rfl,hq⟩
            case rest=>
             as_aux_lemma=>
              obtain⟨rfl,A⟩:=hcut;have M2:Hid (Mem w wc [some (B1,.poly p),some (B2,.poly q),some (B3,.poly r),some (B6,.poly (Jn p q)),some (ah,.poly W),some (ai,.poly P),some (ak,.poly ee)]):=O ((Qb.o.below A).take 7);have Qa:=O (XL.o.below A);clear Qb XL A U H2 H3 HC f1 f2 f3 OT;go_upto_region 32 with fail
              go_loopw [33] (λjv wq=>∃j:Nat,j<=k/\jv=Q R (j:Int)/\Hid (Mem w wq [some (B1,.poly p),some (B2,.poly q),some (B3,.poly r),some (B6,.poly (Jn p q)),some (ah,.poly W),some (ai,.poly P),some (ak,.poly ee)])/\Hid (EA 0 wq (C (some ⟨g1,0,none⟩) L.length am) L)) λjv _=>k-(intOf jv).toNat
              case atStart=>exact⟨0,AK _,rfl,M2,Qa⟩
              case round=>
               as_aux_lemma=>
                clear M2 Qa;obtain⟨j,hj,rfl,fb,XL⟩:=hrel;by_cases mm:j<k
                . obtain⟨⟨ej,tj⟩,e2⟩:∃x,L[j]?=some x:=⟨_,An Z⟩;obtain⟨g2,c2,bn,OT⟩:=Y5.toT XL.o (λe9=>by rw[e9]at ba;simp at ba);injection bn with h1 h2 h3
                  injection h1 with h1
                  injection h1 with h1
                  subst h1 h3;clear h2;obtain⟨xj,x0,_,iy⟩:=OT.2.2.2.2 j ej tj e2;obtain⟨aj,lj,cj,rfl⟩:=iy.form;have XJ:=O (show Et wr g1 am L j (C aj lj cj) ej from⟨XL.o,x0,iy⟩);have CG:Hid (∀(V:I) (x y:T),Jc V x ee->Jc V y ej->Calls Tryz.prog 8 #[x,y] V λe w'=>∃u,e=.returned u/\Jc w' u [1]/\Bl V w'):=by
                   obtain⟨_,so,_,_,_,tJ,_,cJ⟩:=Qe.o.1 (ej,tj) (List.mem_of_getElem? e2);obtain⟨_,bt,_,_,tE,_,cE,e1⟩:=HE.o;have Zp:ChOk 80 ee ej:=ChOk.of tE tJ cE cJ (n:=25) bt so DL Z;have Zi:Dj ee ej:=(RV Qe.o.2.1 mm e2 e1).2.symm;refine O λV x y hx hy=>?_;have:=Gu 80 x y _ _ V hx hy Zp;rwa[Nf tE tJ Zi]at this
                  have vz:¬((j:Int)<0):=Z
                  have vy:(j:Int)<(L.length:Int):=Z
                  have Zf:(j:Int)<(k:Int):=Z
                  clear x0 iy OT e2 XL;go_upto_region 34 with fail
                  refine Jm Uy [[],[],[],[1,2],[3],[4],[0,5],[],[7,6,6,0,1,2,3,4,5,6,7]] (by kernel_rfl) DL
                   (λD av V=>∃(tr ts tu tv tw tx tz tB:T) (x7:Option (Nat × Dat)),av={ tmps:=#[.string s,.string t,.string u,H,H,H,u6,E (some ⟨B1,0,none⟩),E (some ⟨B2,0,none⟩),E (some ⟨B3,0,none⟩),E (some ⟨B6,0,none⟩),F true,F true,E (some ⟨aq,0,none⟩),u14,F true,E (some ⟨bf,0,none⟩),u17,F true,E (some ⟨ce,0,none⟩),u20,u21,u22,u23,u24,E (some ⟨ah,0,none⟩),C (some ⟨g1,0,none⟩) L.length am,E (some ⟨ai,0,none⟩),Q R 0,Q R 0,Q R ↑k,E (some ⟨ak,0,none⟩),E (some ⟨f9,0,none⟩),Q R ↑j,tB,u35,H,H,H,u39,u40,u41,u42,u43,u44,u45,u46,u47,u48,u49,u50,u51,u52,u53,u54,u55,u56,u57,u58,u59,u60,u61,u62,u63,u64,u65,u66,u67,u68,u69,u70,u71,u72,u73,u74,u75,u76,u77,u78,u79,u80,u81,u82,u83,u84,u85,u86,u87,u88,u89,u90,u91,u92,u93,u94,u95,u96,u97,u98,u99,u100,u101,u102,u103,u104,u105,u106,u107,u108,u109,u110,u111,u112,u113,u114,u115,u116,u117,u118,u119,u120,u121,u122,u123,u124,u125,u126,u127,u128,u129,u130,u131,u132,N #[C fe fm fi],N #[C fe fm fi],N #[C ff fo fj],N #[C jj mt jy],N #[C jk mu jz],N #[C fg fs fk],N #[C jl mx kc],C (some ⟨g1,0,none⟩) L.length am,.tuple #[N #[C bg bi bh],Q R 0,Q R 0],.tuple #[N #[C bg bi bh],Q R 0,Q R 0],N #[C bg bi bh],Q R 0,Q R 0,u146,u147,u148,u149,u150,u151,u152,u153,u154,u155,u156,u157,u158,u159,u160,u161,u162,u163,u164,u165,u166,u167,u168,u169,u170,u171,u172,u173,u174,u175,u176,u177,u178,u179,u180,u181,u182,u183,u184,u185,u186,u187,u188,u189,u190,u191,u192,u193,u194,u195,u196,u197,u198,u199,u200,u201,u202,u203,F false,Q R ↑j,Q R ↑k,F true,u208,u209,tr,ts,tu,tv,tw,tx,tz,u217,u218,u219,u220,u221,u222,u223,u224,u225,u226,u227,u228,u229,u230,u231,u232,u233,u234,u235,u236,u237,u238,u239,u240,u241,u242,u243,u244,u245,u246,u247,u248,u249,u250,u251,u252,u253,u254,u255,u256,u257,u258],defers:=[] }/\Hid ((D 0=true->Has V tr (.poly ee))/\(D 1=true->ts=Value.slice (some ⟨g1,0,none⟩) L.length am)/\(D 2=true->tu=Value.int IntKind.i64 ↑j)/\(D 3=true->tv=E (some ⟨g1,j*2,none⟩))/\(D 4=true->tw=E (some ⟨g1,j*2,none⟩))/\(D 5=true->tx=N #[C aj lj cj])/\(D 6=true->Has V tz (.poly ([1])))/\((D 7=false->x7=none)/\(D 7=true->D 8=false->∃B:Nat,tB=E (some ⟨B,0,none⟩)/\x7=some (B,.poly []))/\(D 8=true->∃B:Nat,tB=E (some ⟨B,0,none⟩)/\x7=some (B,.poly ([1])))))/\Hid (Mem w V [some (B1,.poly p),some (B2,.poly q),some (B3,.poly r),some (B6,.poly (Jn p q)),some (ah,.poly W),some (ai,.poly P),some (ak,.poly ee),x7])/\Hid (Et V g1 am L j (C aj lj cj) ej))
                   ⟨_,_,_,_,_,_,_,_,none,rfl,O ⟨J,J,J,J,J,J,J,J⟩,O ((fb.o).none).drew,O (XJ.o.drew)⟩ ?step51 ?fin51
                  case step51=>
                   as_aux_lemma=>
                    rintro D av V i ds dm hi ad aw ⟨tr,ts,tu,tv,tw,tx,tz,tB,x7,rfl,X,g,XX⟩;have Ws:i<9:=(Af.1 hi).1;obtain rfl|rfl|rfl|rfl|rfl|rfl|rfl|rfl|rfl:=LV i Z
                    all_goals
                     simp only[Ai,Ah,Ak]at hi;subst hi
                    . clear ad;obtain⟨a,l,c,n,r⟩:=g.o.poly2 (i:=6) rfl;have e0:=n.cell;refine Zt ?_;exact⟨_,_,_,_,_,_,_,_,_,rfl,(Dc X λ_=>r),O (g.o),O (XX.o)⟩
                    . clear ad;refine Zt ?_;exact⟨_,_,_,_,_,_,_,_,_,rfl,(Dg X),O (g.o),O (XX.o)⟩
                    . clear ad;refine Zt ?_;exact⟨_,_,_,_,_,_,_,_,_,rfl,(Db X),O (g.o),O (XX.o)⟩
                    . obtain rfl:=(X.o.2.1 (ad 1 J));obtain rfl:=(X.o.2.2.1 (ad 2 J));clear ad;refine Zt ?_;exact⟨_,_,_,_,_,_,_,_,_,rfl,(Dd (Db (Dg X))),O (g.o),O (XX.o)⟩
                    . obtain rfl:=(X.o.2.2.2.1 (ad 3 J));clear ad;refine Zt ?_;exact⟨_,_,_,_,_,_,_,_,_,rfl,(Dr (Dd X)),O (g.o),O (XX.o)⟩
                    . obtain rfl:=(X.o.2.2.2.2.1 (ad 4 J));have e0:=XX.o.2.1;clear ad;refine Zt ?_;exact⟨_,_,_,_,_,_,_,_,_,rfl,(Dt (Dr X)),O (g.o),O (XX.o)⟩
                    . have h0:=(X.o.1 (ad 0 J));obtain rfl:=((Dq X) (ad 5 J));have HC:=O (CG.o V _ _ h0 ⟨_,rfl,XX.o.2.2⟩);clear ad h0;refine Jb rfl rfl λK hK=>?_;go_simp;go_wp2_with(go_at_call 8;refine HC.o.mono ?_;rintro e w5 ⟨v5,rfl,ay,af⟩)
                      obtain⟨G0,G1,G2,G3,G4,_,_,G7⟩:=X.o;exact⟨_,_,_,_,_,_,_,_,_,rfl,O ⟨λh=>(G0 h).below af,G1,G2,G3,G4,λ_=>rfl,λ_=>ay,G7⟩,O (g.o.below af),O (XX.o.below af)⟩
                    . have hf:D 8=false:=DM dm aw;obtain rfl:=EE X aw;clear ad;refine Zt ?_;obtain⟨G0,G1,G2,G3,G4,G5,G6,_⟩:=X.o;exact⟨_,_,_,_,_,_,_,_,_,rfl,O ⟨λh=>(G0 h).alloc _,G1,G2,G3,G4,G5,λh=>(G6 h).alloc _,⟨λh=>by simp at h,λ_ _=>⟨_,rfl,rfl⟩,λh=>by simp[hf]at h⟩⟩,O (g.o.fill (i:=7) rfl (.poly []) (FW _)),O (XX.o.alloc _)⟩
                    . obtain⟨B,rfl,rfl⟩:=EN X (ad 7 J) aw;have Qd:=ad 7 J;have hv:=((D0 X) (ad 6 J));obtain⟨a1,l1,c1,rfl⟩:=Jc.form (show Jc V _ _ from hv);obtain⟨a,l,c,n,r⟩:=g.o.poly2 (i:=7) rfl;have e0:=n.cell;have f0:=n.frozen;clear ad;refine Zt ?_;obtain⟨G0,G1,G2,G3,G4,G5,G6,_⟩:=X.o;exact⟨_,_,_,_,_,_,_,_,_,rfl,O ⟨λh=>(G0 h).set1 n rfl _,G1,G2,G3,G4,G5,λh=>(G6 h).set1 n rfl _,⟨λh=>by simp[Qd]at h,λ_ h=>by simp at h,λ_=>⟨B,rfl,rfl⟩⟩⟩,O (g.o.putPoly (i:=7) rfl hv),O (XX.o.set1 n rfl _)⟩
                  rintro D av jh an ⟨tr,ts,tu,tv,tw,tx,tz,tB,x7,rfl,X,g,XX⟩;obtain⟨q7,rfl,rfl⟩:=X.o.2.2.2.2.2.2.2.2.2 (an 8 DL);obtain rfl:=X.o.2.1 (an 1 DL);obtain rfl:=X.o.2.2.1 (an 2 DL);obtain rfl:=X.o.2.2.2.1 (an 3 DL);obtain rfl:=X.o.2.2.2.2.1 (an 4 DL);obtain rfl:=Dq X (an 5 DL);clear X an fb;have Qg:Hid (Mem w jh [some (B1,.poly p),some (B2,.poly q),some (B3,.poly r),some (B6,.poly (Jn p q)),some (ah,.poly W),some (ai,.poly P),some (ak,.poly ee),some (q7,.poly ([1]))]):=g;clear g;obtain⟨ut,ws,vj,sw,ue⟩:=Qg.o.poly2 (i:=7) rfl;have vr:=sw.cell;have U:=O (T1.o jh _ ue (JT HT.o Qg.o.2.2));go_wp2_with(go_at_call 11;refine U.o.mono ?_;clear U;rintro e xi ⟨rfl,A⟩)
                  go_roundw
                  case rel=>exact⟨j+1,Z,by go_num,O ((Qg.o.below A).take 7),O (XX.o.1.below A)⟩
                  case measure=>simp[intOf];omega
                . have Zf:¬((j:Int)<(k:Int)):=Z
                  have M2:=fb;have Qa:=XL;clear fb XL;go_upto_region 38 with fail
                  go_loopw [35] (λmv wq=>∃(m:Nat) (P9:List Rat),m<=tt/\mv=Q R (m:Int)/\Hid (PrM L k ee m P9)/\Hid (Mem w wq [some (B1,.poly p),some (B2,.poly q),some (B3,.poly r),some (B6,.poly (Jn p q)),some (ah,.poly W),some (ai,.poly P9),some (ak,.poly ee)])/\Hid (EA 0 wq (C (some ⟨g1,0,none⟩) L.length am) L)) λmv _=>tt-(intOf mv).toNat
                  case atStart=>exact⟨0,P,AK _,rfl,O (fa.o.start ee),M2,Qa⟩
                  case round=>
                   as_aux_lemma=>
                    clear M2 Qa fa Zf mm hj;obtain⟨m,P9,hm,rfl,fx,Qg,XL⟩:=hrel;obtain⟨g2,c2,bn,OT⟩:=Y5.toT XL.o (λe9=>by rw[e9]at ba;simp at ba);injection bn with h1 h2 h3
                    injection h1 with h1
                    injection h1 with h1
                    subst h1 h3;clear h2;obtain⟨_,_,x1,_⟩:=OT.2.2.2.2 k ee tt HE.o.2.2.2.2.2.2.2;have Ql:GL L k=(tt:Int):=by unfold GL;rw[HE.o.2.2.2.2.2.2.2]
                    rw[Ql]at x1;clear Ql OT;have wk:tt<=25:=by have:=HE.o.2.2.2.1;have:=Qf.o.2.1;omega
                    by_cases wj:m<tt
                    . have CT:Hid (∀(V:I) (x y:T),Jc V x P9->Jc V y ee->Calls Tryz.prog 9 #[x,y] V λe w'=>∃u,e=.returned u/\Jc w' u (Jp P9 ee)/\Bl V w'):=by
                       obtain⟨_,bt,_,_,tE,_,cE,e1⟩:=HE.o;obtain⟨kq,xf⟩:=fx.o.cd Qf.o.2.2 Qe.o.2.2.2 Qf.o.2.1 Qf.o.1 Qe.o.2.2.1 e1 hm;exact O λV x y hx hy=>KK x y P9 ee V hx hy (kq.sqs Z) (cE.sqs Z) (kq.times cE Z) Z
                      have Zn:(m:Int)<(tt:Int):=Z
                      obtain⟨uu,wt,vk,bz,pq⟩:=Qg.o.poly2 (i:=5) rfl;have Qq:=bz.cell;have Qn:=bz.frozen;obtain⟨uv,wu,vl,ou,pr⟩:=Qg.o.poly2 (i:=6) rfl;have Um:=ou.cell;have U:=O (CT.o wr _ _ pq pr);go_upto_region 39 with(go_at_call 9;refine U.o.mono ?_;clear U;rintro e pz ⟨u40,rfl,ii,hq⟩;obtain⟨gj,iu,gn,rfl⟩:=Jc.form ii;clear Qq;have Qq:=(boxed_below bz hq).cell;clear Qn;have Qn:=(boxed_below bz hq).frozen)
                      have Qa:=O ((XL.o.below hq).set1 (boxed_below bz hq) rfl (C gj iu gn));obtain⟨qf,hV⟩:=ex (pz.setCell ⟨ai,0,none⟩ (C gj iu gn));have g:Mem w (pz.setCell ⟨ai,0,none⟩ (C gj iu gn)) [some (B1,.poly p),some (B2,.poly q),some (B3,.poly r),some (B6,.poly (Jn p q)),some (ah,.poly W),some (ai,.poly (Jp P9 ee)),some (ak,.poly ee)]:=Mem.putPoly (Qg.o.below hq) (i:=5) rfl ii;rw[hV]at g;rw[hV]at Qa;rw[hV];have Zh:Hid (Mem w qf [some (B1,.poly p),some (B2,.poly q),some (B3,.poly r),some (B6,.poly (Jn p q)),some (ah,.poly W),some (ai,.poly (Jp P9 ee)),some (ak,.poly ee)]):=O (g);clear Qg;clear g hV;clear ii hq Qn x1;clear bz Qq pq ou Um pr;go_wp2_with fail
                      go_roundw
                      case rel=>exact⟨m+1,Jp P9 ee,Z,by go_num,O (fx.o.next HE.o.2.2.2.2.1 (λe9=>by have:=HE.o.1;rw[e9]at this;simp at this) (Dq HE)),Zh,Qa⟩
                      case measure=>simp[intOf];omega
                    . have Zn:¬((m:Int)<(tt:Int)):=Z
                      obtain rfl:m=tt:=Z
                      go_wp2_with fail
                      go_roundw
                      case rel=>exact⟨k+1,P9,Z,by go_num,O (fx.o.fin HE.o.2.2.2.2.2.2.2),O (Qg.o.take 6),XL⟩
                      case measure=>simp[intOf];omega
          . have wg:¬((k:Int)<(L.length:Int)):=Z
            obtain rfl:k=L.length:=Z
            obtain rfl:P=Jq W:=fa.o.whole Qe.o.2.2.1;clear fa;have CS:Hid (∀(V:I) (x y:T),Jc V x W->Jc V y (Jq W)->Calls Tryz.prog 22 #[x,y] V λe w'=>∃u v,e=.returned (.tuple #[u,v,F true])/\Jc w' u (Jt W (Jq W))/\Jc w' v []/\Bl V w'):=by
             obtain⟨cW,lW,tW⟩:=Qf.o;have W0:=Qe.o.2.2.2;refine O λV x y hx hy=>?_;have:=KL 75 80 x y W (Jq W) V hx hy cW ((cW.mon tW).mono Z) tW (Yu _) (LJ tW W0) Z;rwa[(RW tW W0).2]at this
            obtain⟨uw,wv,vm,ow,pt⟩:=ck.o.poly2 (i:=4) rfl;have Wh:=ow.cell;have U:=O (Qc.o wr _ W pt);obtain⟨dW,dt⟩:=ex ((W.length:Int)-1:Int);rw[dt]at U;have f1:¬dW<0:=by have:=Aj.2 Qe.o.2.2.2;omega
            clear dt;go_upto_region 43 with(go_at_call 20;refine U.o.mono ?_;clear U;rintro e q6 ⟨rfl,A⟩)
            clear ow Wh pt;have Qo:Hid (Mem w q6 [some (B1,.poly p),some (B2,.poly q),some (B3,.poly r),some (B6,.poly (Jn p q)),some (ah,.poly W),some (ai,.poly (Jq W))]):=O (ck.o.below A);clear ck;clear A XL ba;obtain⟨ux,ww,vn,ox,pu⟩:=Qo.o.poly2 (i:=4) rfl;have Up:=ox.cell;obtain⟨uy,wy,vo,oy,pv⟩:=Qo.o.poly2 (i:=5) rfl;have Ud:=oy.cell;have U:=O (CS.o q6 _ _ pu pv);go_upto_region 44 with(go_at_call 22;refine U.o.mono ?_;clear U CS;rintro e f8 ⟨u51,xh,rfl,ij,io,lz⟩;obtain⟨ju,nm,kn,rfl⟩:=Jc.form ij;obtain⟨jw,nr,ko,rfl⟩:=Jc.form io)
            clear ox Up pu oy Ud pv;have g:=Mem.push (Mem.push (Qo.o.below lz) (.poly (Jt W (Jq W))) ij) (.poly ([])) (Has.alloc (d:=.poly ([])) io _);simp only[BA]at g;have g:Mem w ((f8.alloc (G #[C ju nm kn] 25)).alloc (G #[C jw nr ko] 25)) [some (B1,.poly p),some (B2,.poly q),some (B3,.poly r),some (B6,.poly (Jn p q)),some (ah,.poly W),some (ai,.poly (Jq W)),some (f8.heap.size,.poly (Jt W (Jq W))),some (f8.heap.size+1,.poly ([]))]:=g;obtain⟨bj,hV⟩:=ex ((f8.alloc (G #[C ju nm kn] 25)).alloc (G #[C jw nr ko] 25));obtain⟨jb,ae⟩:=ex (f8.heap.size);rw[hV,ae]at g;rw[hV];rw[ae];obtain⟨q8,kt⟩:=ex (jb+1);rw[kt]at g ⊢;have Qb:Hid (Mem w bj [some (B1,.poly p),some (B2,.poly q),some (B3,.poly r),some (B6,.poly (Jn p q)),some (ah,.poly W),some (ai,.poly (Jq W)),some (jb,.poly (Jt W (Jq W))),some (q8,.poly ([]))]):=O (g);clear Qo;clear g hV ae kt;clear ij io lz;obtain⟨uz,wz,vp,sx,uf⟩:=Qb.o.poly2 (i:=6) rfl;have vt:=sx.cell;obtain⟨vd,xe,vq,oz,ug⟩:=Qb.o.poly2 (i:=7) rfl;have Qs:=oz.cell;have U:=O (Qc.o bj _ _ uf);have H2:=O λ(V:I) (h:Bl bj V)=>Qc.o V _ _ (ug.below h);rw[(RW Qf.o.2.2 Qe.o.2.2.2).1]at U;have Qt:=O (show F7 bj from JT HT.o Qb.o.2.2);have H3:=O λ(V:I) (h:Bl bj V)=>AL.o V (JT Qt.o h);have HQ:=O λ(V:I) (h:Bl bj V)=>(oz.bel h).cell;have hq:Bl bj bj:=BE _ _;go_wp2_with(first
             |(go_at_call 20;refine U.o.mono ?_;clear U;rintro e x1 ⟨rfl,A⟩;replace hq:=Bt hq A;clear A Qs;have Qs:=HQ.o _ hq)
             |(go_at_call 20;refine(H2.o _ hq).mono ?_;clear H2;rintro e x2 ⟨rfl,A⟩;replace hq:=Bt hq A;clear A)
             |(go_at_call 15;refine(H3.o _ hq).mono ?_;clear H3;rintro e x3 ⟨rfl,A⟩;replace hq:=Bt hq A;clear A))
            go_ret;exact⟨rfl,Bt Qb.o.2.2 hq⟩
end M3
