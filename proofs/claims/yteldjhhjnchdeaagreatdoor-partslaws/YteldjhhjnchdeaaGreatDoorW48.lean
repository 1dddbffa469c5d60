import Derived.Test.YteldjhhjnchdeaaGreatDoorW47
open Go.Value renaming slice->C,pointer->E,bool->F,agg->N,int->Q
open Go.Obj renaming cells->G
open Go renaming undef->H,World->I,Value->T
open Go.IntKind renaming i64->R
set_option maxRecDepth 100000
set_option maxHeartbeats 16000000
namespace Go.Proofs.YteldjhhjnchdeaaGreatDoor
open Go.RowKit Go.Shelf
theorem dU:(⟨(GQ [1]).toArray⟩:ByteArray)=⟨#[49]⟩:=Dk
theorem dV:Yl [49]=([1],0,0):=Dk
theorem RY:Cd 1 [1]:=FV _ [1] Dk DL
namespace M3
attribute [local go_sem] Oper.semAt_some
theorem dX(s t u:ByteArray)(w:I)(mo:F4 w):
 Calls Tryz.prog 6 #[.string s,.string t,.string u] w λr w'=>r=.returned (F true)/\Bl w w':=by
 have Uy:Tryz.prog.follows .mixedOrders=true:=by kernel_rfl
 have HT:=Z mo;have cP:=NO (Jh s);have cQ:=NO (Jh t);have cR:=NO (Jh u);have lP:=(Mp (Jh s)).1;have lQ:=(Mp (Jh t)).1;have lR:=(Mp (Jh u)).1;have tP:=NM (Jh s);have tQ:=NM (Jh t);have tR:=NM (Jh u);obtain⟨Wj,Ux,We⟩:=Dh (λ(V:I)=>NN s V) (λ(V:I)=>NN t V) λ(V:I)=>NN u V;obtain⟨p,hp⟩:=ex ((Yl (Jh s)).1);obtain⟨q,hq⟩:=ex ((Yl (Jh t)).1);obtain⟨r,hr⟩:=ex ((Yl (Jh u)).1);rw[hp]at cP lP tP Wj;rw[hq]at cQ lQ tQ Ux;rw[hr]at cR lR tR We;clear hp hq hr;have Qu:ChOk 16 p q:=ChOk.of tP tQ cP cQ (n:=9) lP lQ DL Y;obtain⟨Wt,AL,Qc⟩:=Dh (λ(V:I) (x y:T) (hx:Jc V x p) (hy:Jc V y q)=>Gr 16 x y p q V hx hy Qu) (λ(V:I) (hp:F4 V)=>cA V hp) λ(V:I) (x:T) (a:List Rat) (hx:Jc V x a)=>Ya x a V hx;have HZ:∃z:Bool,(z=true↔p=[]/\q=[]):=⟨decide (p=[]/\q=[]),O⟩;obtain⟨z,hz⟩:=HZ;have HZ:=Z hz;have Uc:=Z (show Cd 16 p/\Cd 16 q/\Cd 16 r/\p.length<=9/\q.length<=9/\r.length<=9/\Jd p=p/\Jd q=q/\Jd r=r from⟨cP,cQ,cR,lP,lQ,lR,tP,tQ,tR⟩);have M1:Hid (Mem w w []):=Z (Mem.nil w);clear mo cP cQ cR lP lQ lR tP tQ tR Qu hz;go_enter Tryz.func6,Tryz.ntmps6
 go_upto_region 2 with(go_at_call 7;refine(Wj.o _).mono ?_;clear Wj;rintro e w1 ⟨u1,rfl,gz,kz⟩;obtain⟨jq,nh,kh,rfl⟩:=Jc.form gz)
 obtain⟨V1,hV⟩:=ex (w1.alloc (G #[C jq nh kh] 25));obtain⟨B1,ae⟩:=ex (w1.heap.size);have g:Mem w (w1.alloc (G #[C jq nh kh] 25)) [some (w1.heap.size,.poly p)]:=Mem.push (M1.o.below kz) (.poly p) gz;rw[hV,ae]at g;rw[hV];rw[ae];have M2:Hid (Mem w V1 [some (B1,.poly p)]):=Z (g);clear M1;clear g hV ae;clear gz kz;go_upto_region 3 with(go_at_call 7;refine(Ux.o _).mono ?_;clear Ux;rintro e w2 ⟨u2,rfl,ie,lk⟩;obtain⟨jr,ni,ki,rfl⟩:=Jc.form ie)
 obtain⟨V2,hV⟩:=ex (w2.alloc (G #[C jr ni ki] 25));obtain⟨B2,ae⟩:=ex (w2.heap.size);have g:Mem w (w2.alloc (G #[C jr ni ki] 25)) [some (B1,.poly p),some (w2.heap.size,.poly q)]:=Mem.push (M2.o.below lk) (.poly q) ie;rw[hV,ae]at g;rw[hV];rw[ae];have M3:Hid (Mem w V2 [some (B1,.poly p),some (B2,.poly q)]):=Z (g);clear M2;clear g hV ae;clear ie lk;go_upto_region 4 with(go_at_call 7;refine(We.o _).mono ?_;clear We;rintro e w3 ⟨u3,rfl,ig,ly⟩;obtain⟨js,nj,kj,rfl⟩:=Jc.form ig)
 obtain⟨V3,hV⟩:=ex (w3.alloc (G #[C js nj kj] 25));obtain⟨B3,ae⟩:=ex (w3.heap.size);have g:Mem w (w3.alloc (G #[C js nj kj] 25)) [some (B1,.poly p),some (B2,.poly q),some (w3.heap.size,.poly r)]:=Mem.push (M3.o.below ly) (.poly r) ig;rw[hV,ae]at g;rw[hV];rw[ae];have M4:Hid (Mem w V3 [some (B1,.poly p),some (B2,.poly q),some (B3,.poly r)]):=Z (g);clear M3;clear g hV ae;clear ig ly;obtain⟨a4,l4,c4,n4,r4⟩:=M4.o.poly2 (i:=0) rfl;have Zq:=n4.cell;obtain⟨a5,l5,c5,n5,r5⟩:=M4.o.poly2 (i:=1) rfl;have Zm:=n5.cell;have U:=Z (Wt.o V3 _ _ r4 r5);go_upto_region 5 with(go_at_call 8;refine U.o.mono ?_;clear U;rintro e w4 ⟨u4,rfl,ii,lz⟩;obtain⟨jt,nk,km,rfl⟩:=Jc.form ii)
 clear n4 Zq r4 n5 Zm r5;obtain⟨V6,hV⟩:=ex (w4.alloc (G #[C jt nk km] 25));obtain⟨B6,ae⟩:=ex (w4.heap.size);have g:Mem w (w4.alloc (G #[C jt nk km] 25)) [some (B1,.poly p),some (B2,.poly q),some (B3,.poly r),some (w4.heap.size,.poly (Jm p q))]:=Mem.push (M4.o.below lz) (.poly (Jm p q)) ii;rw[hV,ae]at g;rw[hV];rw[ae];have M5:Hid (Mem w V6 [some (B1,.poly p),some (B2,.poly q),some (B3,.poly r),some (B6,.poly (Jm p q))]):=Z (g);clear M4;clear g hV ae;clear ii lz;clear Wt;obtain⟨a7,l7,c7,n7,r7⟩:=M5.o.poly2 (i:=0) rfl;obtain⟨a8,l8,c8,n8,r8⟩:=M5.o.poly2 (i:=1) rfl;have HM:=M5;go_cut [55] λcv wx=>cv=F z/\Hid (Mem w wx [some (B1,.poly p),some (B2,.poly q),some (B3,.poly r),some (B6,.poly (Jm p q))])
 case first=>
  as_aux_lemma=>
   have hq:Bl V6 V6:=BE _ _;have eP:=n7.cell;have U:=Z (Qc.o V6 _ p r7);by_cases p0:p=[]
   . have Uj:(p.length:Int)-1=-1:=by rw[p0];rfl
     rw[Uj]at U;have H2:=Z λ(V:I) (h:Bl V6 V)=>Qc.o V _ q (r8.below h);have HQ:=Z λ(V:I) (h:Bl V6 V)=>(n8.bel h).cell;by_cases q0:q=[]
     . have Ww:(q.length:Int)-1=-1:=by rw[q0];rfl
       rw[Ww]at H2;have Qw:z=true:=HZ.o.2 ⟨p0,q0⟩;clear Uj Ww p0 q0;go_wp2_with(first
        |(go_at_call 20;refine U.o.mono ?_;clear U;rintro e x1 ⟨rfl,A⟩;replace hq:=Bt hq A;clear A;have eQ:=HQ.o _ hq)
        |(go_at_call 20;refine(H2.o _ hq).mono ?_;clear H2;rintro e x2 ⟨rfl,A⟩;replace hq:=Bt hq A;clear A))
       go_meet
       exact⟨by rw[Qw],Z (HM.o.below hq)⟩
     . obtain⟨dq,mm⟩:=ex ((q.length:Int)-1:Int);rw[mm]at H2;have Zr:¬dq<0:=by have:=Ai.2 q0;omega
       have Qw:z=false:=by
        cases hz:z with
        |false=>rfl
        |true=>exact absurd (HZ.o.1 hz).2 q0
       clear Uj mm p0 q0;go_wp2_with(first
        |(go_at_call 20;refine U.o.mono ?_;clear U;rintro e x1 ⟨rfl,A⟩;replace hq:=Bt hq A;clear A;have eQ:=HQ.o _ hq)
        |(go_at_call 20;refine(H2.o _ hq).mono ?_;clear H2;rintro e x2 ⟨rfl,A⟩;replace hq:=Bt hq A;clear A))
       go_meet
       exact⟨by rw[Qw,BI (show ¬dq<0 by omega)],Z (HM.o.below hq)⟩
   . obtain⟨dp,ml⟩:=ex ((p.length:Int)-1:Int);rw[ml]at U;have Zr:¬dp<0:=by have:=Ai.2 p0;omega
     have Qw:z=false:=by
      cases hz:z with
      |false=>rfl
      |true=>exact absurd (HZ.o.1 hz).1 p0
     clear ml p0;go_wp2_with(go_at_call 20;refine U.o.mono ?_;clear U;rintro e x1 ⟨rfl,A⟩;replace hq:=Bt hq A;clear A)
     go_meet
     exact⟨by rw[Qw],Z (HM.o.below hq)⟩
 case rest=>
  as_aux_lemma=>
   clear n7 r7 n8 r8 HM M5;obtain⟨rfl,M6⟩:=hcut;cases z with
   |true=>
    obtain⟨p0,q0⟩:=HZ.o.1 rfl;obtain⟨ga,gl,gc,nG,rG⟩:=M6.o.poly2 (i:=3) rfl;have M:=Z M6.o.2.2;have U:=Z (Qc.o wc _ (Jm p q) rG);have Wn:((Jm p q).length:Int)-1=-1:=by rw[p0,q0];rfl
    rw[Wn]at U;have Qt:=Z (show F4 wc from JT HT.o M.o);have H2:=Z λ(V:I) (h:Bl wc V)=>AL.o V (JT Qt.o h);have hq:Bl wc wc:=BE _ _;have eG:=nG.cell;clear p0 q0 Wn;go_wp2_with(first
     |(go_at_call 20;refine U.o.mono ?_;clear U;rintro e x1 ⟨rfl,A⟩;replace hq:=Bt hq A;clear A)
     |(go_at_call 15;refine(H2.o _ hq).mono ?_;clear H2;rintro e x2 ⟨rfl,A⟩;replace hq:=Bt hq A;clear A))
    go_ret;exact⟨rfl,Bt M.o hq⟩
   |false=>
    have Wb:p≠[]\/q≠[]:=by
     by_cases p0:p=[]
     . exact Or.inr λq0=>by have:=HZ.o.2 ⟨p0,q0⟩;cases this
     . exact Or.inl p0
    have Wp:=Z Wb;obtain⟨cP,cQ,cR,lP,lQ,lR,tP,tQ,tR⟩:=Uc.o;have tg:=JK p q;have mg:=YN tP tQ;have g0:=XV tP tQ Wb;obtain⟨d1,d2,_⟩:=YM tP tQ;have Qu:ChOk 16 p q:=ChOk.of tP tQ cP cQ (n:=9) lP lQ DL Y;have cG:Cd 323 (Jm p q):=Qu.gcd.mono (by
     have h1:Di 16 p q<=(16+1)*(9+9+1):=As _ Y;omega)
    obtain⟨cX,lX⟩:=RV tP Y cP tg mg g0 d1;obtain⟨cY,lY⟩:=RV tQ Y cQ tg mg g0 d2;have Zc:ChOk 37 (Jt p (Jm p q)) (Jt q (Jm p q)):=ChOk.of (J8 _ _) (J8 _ _) cX cY (n:=9) Y Y DL Y;have e1:=dG tP tQ g0;have r1:=(JY tg g0 d1).1;have r2:=(JY tg g0 d2).1;have bp:2*(16+p.length*(323+1)+1)+2*(2*323+1)<=1000000000:=by have:p.length*(323+1)<=9*(323+1):=Am _ lP;omega
    have bq:2*(16+q.length*(323+1)+1)+2*(2*323+1)<=1000000000:=by have:q.length*(323+1)<=9*(323+1):=Am _ lQ;omega
    obtain⟨D1,D2,S1,S2,G2⟩:=GF (λ(V:I) (x y:T) (hx:Jc V x (Jm p q)) (hy:Jc V y p)=>NP 16 323 x y (Jm p q) p V hx hy cP cG tP tg g0 r1 bp) (λ(V:I) (x y:T) (hx:Jc V x (Jm p q)) (hy:Jc V y q)=>NP 16 323 x y (Jm p q) q V hx hy cQ cG tQ tg g0 r2 bq) (λ(V:I) (x y:T) (hx:Jc V x p) (hy:Jc V y (Jm p q))=>KG 16 323 x y p (Jm p q) V hx hy cP cG tP tg g0 bp) (λ(V:I) (x y:T) (hx:Jc V x q) (hy:Jc V y (Jm p q))=>KG 16 323 x y q (Jm p q) V hx hy cQ cG tQ tg g0 bq) λ(V:I) (x y:T) (hx:Jc V x (Jt p (Jm p q))) (hy:Jc V y (Jt q (Jm p q)))=>Gr 37 x y _ _ V hx hy Zc;rw[e1]at G2;have T1:=Z λ(V:I) (x:T) (hx:Jc V x [1]) (hp:F4 V)=>Mc x [1] V hx (RY.sqs Y) (λm=>Mr (RY.sqs Y) O m) hp;rw[dU]at T1;clear Wb cP cQ cR lP lQ lR tP tQ tR tg mg g0 d1 d2 Qu cG cX lX cY lY Zc e1 r1 r2 bp bq;obtain⟨a9,l9,c9,n9,r9⟩:=M6.o.poly2 (i:=3) rfl;have Zs:=n9.cell;obtain⟨qh,rp,qw,nu,r10⟩:=M6.o.poly2 (i:=0) rfl;have Wc:=nu.cell;have U:=Z (D1.o wc _ _ r9 r10);go_upto_region 8 with(go_at_call 21;refine U.o.mono ?_;clear U D1;rintro e w5 ⟨rfl,A⟩)
    clear n9 Zs r9 nu Wc r10;have M7:Hid (Mem w w5 [some (B1,.poly p),some (B2,.poly q),some (B3,.poly r),some (B6,.poly (Jm p q))]):=Z (M6.o.below A);clear M6;clear A;obtain⟨qi,ru,qx,nv,r11⟩:=M7.o.poly2 (i:=3) rfl;have Wg:=nv.cell;obtain⟨qj,ry,qy,ny,r12⟩:=M7.o.poly2 (i:=1) rfl;have Uk:=ny.cell;have U:=Z (D2.o w5 _ _ r11 r12);go_upto_region 9 with(go_at_call 21;refine U.o.mono ?_;clear U D2;rintro e w6 ⟨rfl,A⟩)
    clear nv Wg r11 ny Uk r12;have M8:Hid (Mem w w6 [some (B1,.poly p),some (B2,.poly q),some (B3,.poly r),some (B6,.poly (Jm p q))]):=Z (M7.o.below A);clear M7;clear A;obtain⟨qk,sd,re,nz,p6⟩:=M8.o.poly2 (i:=0) rfl;have Uf:=nz.cell;obtain⟨qm,se,rf,o5,p7⟩:=M8.o.poly2 (i:=3) rfl;have Ul:=o5.cell;have U:=Z (S1.o w6 _ _ p6 p7);go_upto_region 10 with(go_at_call 22;refine U.o.mono ?_;clear U S1;rintro e w7 ⟨u7,v7,rfl,il,ms,m8⟩;obtain⟨cl,du,db,rfl⟩:=Jc.form il;obtain⟨ct,et,di,rfl⟩:=Jc.form ms)
    clear nz Uf p6 o5 Ul p7;obtain⟨gb,hV⟩:=ex (w7.alloc (G #[C cl du db] 25));obtain⟨aq,ae⟩:=ex (w7.heap.size);have g:Mem w (w7.alloc (G #[C cl du db] 25)) [some (B1,.poly p),some (B2,.poly q),some (B3,.poly r),some (B6,.poly (Jm p q)),some (w7.heap.size,.poly (Jt p (Jm p q)))]:=Mem.push (M8.o.below m8) (.poly (Jt p (Jm p q))) il;rw[hV,ae]at g;rw[hV];rw[ae];have M9:Hid (Mem w gb [some (B1,.poly p),some (B2,.poly q),some (B3,.poly r),some (B6,.poly (Jm p q)),some (aq,.poly (Jt p (Jm p q)))]):=Z (g);clear M8;clear g hV ae;clear il m8 ms;obtain⟨jd,hV⟩:=ex (gb.alloc (G #[C ct et di] 25));have g:=M9.o.below (Ba gb (G #[C ct et di] 25));rw[hV]at g;rw[hV];have Ua:Hid (Mem w jd [some (B1,.poly p),some (B2,.poly q),some (B3,.poly r),some (B6,.poly (Jm p q)),some (aq,.poly (Jt p (Jm p q)))]):=Z (g);clear M9;clear g hV;obtain⟨fd,fm,fi,o6,p8⟩:=Ua.o.poly2 (i:=1) rfl;have Wi:=o6.cell;obtain⟨qn,sf,rg,o7,p9⟩:=Ua.o.poly2 (i:=3) rfl;have Uz:=o7.cell;have U:=Z (S2.o jd _ _ p8 p9);go_upto_region 11 with(go_at_call 22;refine U.o.mono ?_;clear U S2;rintro e w8 ⟨u8,v8,rfl,im,mt,mh⟩;obtain⟨cn,ed,df,rfl⟩:=Jc.form im;obtain⟨da,ew,dj,rfl⟩:=Jc.form mt)
    clear o6 Wi p8 o7 Uz p9;obtain⟨gg,hV⟩:=ex (w8.alloc (G #[C cn ed df] 25));obtain⟨bf,ae⟩:=ex (w8.heap.size);have g:Mem w (w8.alloc (G #[C cn ed df] 25)) [some (B1,.poly p),some (B2,.poly q),some (B3,.poly r),some (B6,.poly (Jm p q)),some (aq,.poly (Jt p (Jm p q))),some (w8.heap.size,.poly (Jt q (Jm p q)))]:=Mem.push (Ua.o.below mh) (.poly (Jt q (Jm p q))) im;rw[hV,ae]at g;rw[hV];rw[ae];have Wu:Hid (Mem w gg [some (B1,.poly p),some (B2,.poly q),some (B3,.poly r),some (B6,.poly (Jm p q)),some (aq,.poly (Jt p (Jm p q))),some (bf,.poly (Jt q (Jm p q)))]):=Z (g);clear Ua;clear g hV ae;clear im mh mt;obtain⟨je,hV⟩:=ex (gg.alloc (G #[C da ew dj] 25));have g:=Wu.o.below (Ba gg (G #[C da ew dj] 25));rw[hV]at g;rw[hV];have Qx:Hid (Mem w je [some (B1,.poly p),some (B2,.poly q),some (B3,.poly r),some (B6,.poly (Jm p q)),some (aq,.poly (Jt p (Jm p q))),some (bf,.poly (Jt q (Jm p q)))]):=Z (g);clear Wu;clear g hV;obtain⟨qo,sh,rh,o8,pd⟩:=Qx.o.poly2 (i:=4) rfl;have Wd:=o8.cell;obtain⟨qp,si,ri,o9,pf⟩:=Qx.o.poly2 (i:=5) rfl;have Ut:=o9.cell;have U:=Z (G2.o je _ _ pd pf);go_upto_region 12 with(go_at_call 8;refine U.o.mono ?_;clear U;rintro e w9 ⟨u9,rfl,io,mi⟩;obtain⟨gj,iu,gn,rfl⟩:=Jc.form io)
    clear o8 Wd pd o9 Ut pf;obtain⟨jf,hV⟩:=ex (w9.alloc (G #[C gj iu gn] 25));obtain⟨ce,ae⟩:=ex (w9.heap.size);have g:Mem w (w9.alloc (G #[C gj iu gn] 25)) [some (B1,.poly p),some (B2,.poly q),some (B3,.poly r),some (B6,.poly (Jm p q)),some (aq,.poly (Jt p (Jm p q))),some (bf,.poly (Jt q (Jm p q))),some (w9.heap.size,.poly ([1]))]:=Mem.push (Qx.o.below mi) (.poly ([1])) io;rw[hV,ae]at g;rw[hV];rw[ae];have Qy:Hid (Mem w jf [some (B1,.poly p),some (B2,.poly q),some (B3,.poly r),some (B6,.poly (Jm p q)),some (aq,.poly (Jt p (Jm p q))),some (bf,.poly (Jt q (Jm p q))),some (ce,.poly ([1]))]):=Z (g);clear Qx;clear g hV ae;clear io mi;obtain⟨qq,sj,rj,od,pg⟩:=Qy.o.poly2 (i:=6) rfl;have Ui:=od.cell;have U:=Z (T1.o jf _ pg (JT HT.o Qy.o.2.2));go_upto_region 14 with(go_at_call 11;refine U.o.mono ?_;clear U;rintro e ja ⟨rfl,A⟩)
    clear od Ui pg;have Ze:Hid (Mem w ja [some (B1,.poly p),some (B2,.poly q),some (B3,.poly r),some (B6,.poly (Jm p q)),some (aq,.poly (Jt p (Jm p q))),some (bf,.poly (Jt q (Jm p q))),some (ce,.poly ([1]))]):=Z (Qy.o.below A);clear Qy;clear A;have Un:Hid (Mem w ja [some (B1,.poly p),some (B2,.poly q),some (B3,.poly r),some (B6,.poly (Jm p q))]):=Z (Ze.o.take 4);clear Ze;obtain⟨qr,sk,rk,oe,ph⟩:=Un.o.poly2 (i:=2) rfl;have Ue:=oe.cell;have U:=Z (Qc.o ja _ r ph);obtain⟨dr,gu⟩:=ex ((r.length:Int)-1:Int);rw[gu]at U;have Wa:=Z gu;clear gu;go_upto_if 106 with(go_at_call 20;refine U.o.mono ?_;clear U;rintro e ui ⟨rfl,A⟩)
    obtain⟨br,gr⟩:=ex (decide (0<=dr));rw[gr];have Wk:=Z gr;clear gr;clear oe Ue ph;have Ub:Hid (Mem w ui [some (B1,.poly p),some (B2,.poly q),some (B3,.poly r),some (B6,.poly (Jm p q))]):=Z (Un.o.below A);clear Un;clear A;go_cut [] λwx=>Hid (Mem w wx [some (B1,.poly p),some (B2,.poly q),some (B3,.poly r),some (B6,.poly (Jm p q))])
    case first=>
     as_aux_lemma=>
      by_cases r0:r=[]
      . obtain rfl:false=br:=by
         rw[<-Wk.o,eq_comm];exact BI (by have:=Wa.o;rw[r0]at this;simp at this;omega)
        go_wp2_with fail
        go_meet
        exact Ub
      . obtain rfl:true=br:=by
         rw[<-Wk.o,eq_comm];exact BM (by have:=Wa.o;have:=Ai.2 r0;omega)
        obtain⟨cP,cQ,cR,lP,lQ,lR,tP,tQ,tR⟩:=Uc.o;have Za:Cd 41 (Jo p r):=(cP.mul cR).mono Y;have Wz:Cd 41 (Jo q r):=(cQ.mul cR).mono Y;have Zg:=Mt p r;have Zo:=Mt q r;have ix:ChOk 41 (Jo p r) (Jo q r):=ChOk.of (Jy _ _) (Jy _ _) Za Wz (n:=18) Y Y DL Y;obtain⟨dK,lK⟩:=dH tP tQ tR r0 Wp.o;have cK:Cd 1554 (Jm (Jo p r) (Jo q r)):=ix.gcd.mono (by
         have h1:Di 41 (Jo p r) (Jo q r)<=(41+1)*(18+18+1):=As _ Y;omega)
        have kl:(Jm (Jo p r) (Jo q r)).length<=18:=by
         have m0:Jo p r≠[]\/Jo q r≠[]:=by
          rcases Wp.o with h|h
          . exact Or.inl (NG tP tR h r0)
          . exact Or.inr (NG tQ tR h r0)
         obtain⟨k1,k2,_⟩:=YM (Jy p r) (Jy q r);rcases m0 with h|h
         . have:=(k1.len (JK _ _) (Jy p r) h).1;omega
         . have:=(k2.len (JK _ _) (Jy q r) h).1;omega
        have rK:=(JY tR r0 dK).1;have sP:=cP.sqs Y;have sQ:=cQ.sqs Y;have sR:=cR.sqs Y;have Wm:GR p r:=cP.times cR Y;have Wl:GR q r:=cQ.times cR Y;have bk:2*(1554+(Jm (Jo p r) (Jo q r)).length*(16+1)+1)+2*(2*16+1)<=1000000000:=Y
        obtain⟨E1,E2,E3⟩:=Dh (λ(V:I) (x y:T) (hx:Jc V x p) (hy:Jc V y r)=>KF x y p r V hx hy sP sR Wm Y) (λ(V:I) (x y:T) (hx:Jc V x q) (hy:Jc V y r)=>KF x y q r V hx hy sQ sR Wl Y) λ(V:I) (x y:T) (hx:Jc V x (Jo p r)) (hy:Jc V y (Jo q r))=>Gr 41 x y _ _ V hx hy ix;obtain⟨kk,gw⟩:=ex (Jm (Jo p r) (Jo q r));have tk:Jd kk=kk:=by rw[<-gw];exact JK _ _
        rw[gw]at E3 dK lK cK kl rK bk;obtain⟨E4,E5,Zl⟩:=Dh (λ(V:I) (x y:T) (hx:Jc V x r) (hy:Jc V y kk)=>NP 1554 16 x y r kk V hx hy cK cR tk tR r0 rK bk) (λ(V:I) (x y:T) (hx:Jc V x kk) (hy:Jc V y r)=>KG 1554 16 x y kk r V hx hy cK cR tk tR r0 bk) lK;clear cP cQ cR lP lQ lR tP tQ tR Za Wz Zg Zo ix dK lK cK kl rK sP sQ sR Wm Wl bk gw tk r0;go_upto_region 15 with fail
        refine Jn Uy [[],[],[0,1],[],[],[3,4,2],[2,5,5],[],[7,6,6,0,1,2,3,4,5,6,7]] (by kernel_rfl) DL
         (λD av V=>∃(ta tb tc td te tf ti tq:T) (x7:Option (Nat × Dat)),av={ tmps:=#[.string s,.string t,.string u,H,H,H,F false,E (some ⟨B1,0,none⟩),E (some ⟨B2,0,none⟩),E (some ⟨B3,0,none⟩),E (some ⟨B6,0,none⟩),F true,F true,E (some ⟨aq,0,none⟩),E (some ⟨aq+1,0,none⟩),F true,E (some ⟨bf,0,none⟩),E (some ⟨bf+1,0,none⟩),F true,E (some ⟨ce,0,none⟩),tq,H,H,u23,H,H,H,H,H,H,H,H,H,H,H,H,H,H,H,u39,u40,u41,u42,u43,u44,u45,u46,u47,u48,u49,u50,u51,u52,u53,u54,F false,u56,u57,u58,u59,u60,u61,N #[C a9 l9 c9],N #[C qh rp qw],F true,N #[C qi ru qx],N #[C qj ry qy],F true,.tuple #[N #[C cl du db],N #[C ct et di],F true],N #[C qk sd re],N #[C qm se rf],.tuple #[N #[C cl du db],N #[C ct et di],F true],N #[C cl du db],N #[C ct et di],F true,.tuple #[N #[C cn ed df],N #[C da ew dj],F true],N #[C fd fm fi],N #[C qn sf rg],.tuple #[N #[C cn ed df],N #[C da ew dj],F true],N #[C cn ed df],N #[C da ew dj],F true,N #[C qo sh rh],N #[C qp si ri],N #[C gj iu gn],F true,F false,F false,F true,F false,F false,F false,F true,F false,F false,F false,F true,F false,F false,F false,N #[C qq sj rj],.string { data:=#[49] },F false,F false,N #[C qr sk rk],Q R dr,F true,ta,tb,tc,td,te,tf,ti,u114,u115,u116,u117,u118,u119,u120,u121,u122,u123,u124,u125,u126,u127,u128,u129,u130,u131,u132,u133,u134,u135,u136,u137,u138,u139,u140,u141,u142,u143,u144,u145,u146,u147,u148,u149,u150,u151,u152,u153,u154,u155,u156,u157,u158,u159,u160,u161,u162,u163,u164,u165,u166,u167,u168,u169,u170,u171,u172,u173,u174,u175,u176,u177,u178,u179,u180,u181,u182,u183,u184,u185,u186,u187,u188,u189,u190,u191,u192,u193,u194,u195,u196,u197,u198,u199,u200,u201,u202,u203,u204,u205,u206,u207,u208,u209,u210,u211,u212,u213,u214,u215,u216,u217,u218,u219,u220,u221,u222,u223,u224,u225,u226,u227,u228,u229,u230,u231,u232,u233,u234,u235,u236,u237,u238,u239,u240,u241,u242,u243,u244,u245,u246,u247,u248,u249,u250,u251,u252,u253,u254,u255,u256,u257,u258],defers:=[] }/\Hid ((D 0=true->Has V ta (.poly p))/\(D 1=true->Has V tb (.poly r))/\(D 2=true->Has V tc (.poly (Jo p r)))/\(D 3=true->Has V td (.poly q))/\(D 4=true->Has V te (.poly r))/\(D 5=true->Has V tf (.poly (Jo q r)))/\(D 6=true->Has V ti (.poly kk))/\((D 7=false->x7=none)/\(D 7=true->D 8=false->∃B:Nat,tq=E (some ⟨B,0,none⟩)/\x7=some (B,.poly []))/\(D 8=true->∃B:Nat,tq=E (some ⟨B,0,none⟩)/\x7=some (B,.poly kk))))/\Hid (Mem w V [some (B1,.poly p),some (B2,.poly q),some (B3,.poly r),some (B6,.poly (Jm p q)),x7]))
         ⟨_,_,_,_,_,_,_,_,none,rfl,Z ⟨O,O,O,O,O,O,O,O⟩,Z ((Ub.o).none).drew⟩ ?step26 ?fin26
        case step26=>
         as_aux_lemma=>
          rintro D av V i ds dm hi ad aw ⟨ta,tb,tc,td,te,tf,ti,tq,x7,rfl,X,g⟩;have Ws:i<9:=(Af.1 hi).1;obtain rfl|rfl|rfl|rfl|rfl|rfl|rfl|rfl|rfl:=LO i Y
          all_goals
           simp only[Aj,Ah,Al]at hi;subst hi
          . clear ad;obtain⟨a,l,c,n,r⟩:=g.o.poly2 (i:=0) rfl;have e0:=n.cell;refine Zt ?_;exact⟨_,_,_,_,_,_,_,_,_,rfl,(Dc X λ_=>r),Z (g.o)⟩
          . clear ad;obtain⟨a,l,c,n,r⟩:=g.o.poly2 (i:=2) rfl;have e0:=n.cell;refine Zt ?_;exact⟨_,_,_,_,_,_,_,_,_,rfl,(Dg X λ_=>r),Z (g.o)⟩
          . have h0:=(X.o.1 (ad 0 O));have h1:=(X.o.2.1 (ad 1 O));have HC:=Z (E1.o V _ _ h0 h1);clear ad h0 h1;refine Jb rfl rfl λK hK=>?_;go_simp;go_wp2_with(go_at_call 9;refine HC.o.mono ?_;rintro e w5 ⟨v5,rfl,ay,af⟩)
            obtain⟨G0,G1,_,G3,G4,G5,G6,G7⟩:=X.o;exact⟨_,_,_,_,_,_,_,_,_,rfl,Z ⟨λh=>(G0 h).below af,λh=>(G1 h).below af,λ_=>ay,λh=>(G3 h).below af,λh=>(G4 h).below af,λh=>(G5 h).below af,λh=>(G6 h).below af,G7⟩,Z (g.o.below af)⟩
          . clear ad;obtain⟨a,l,c,n,r⟩:=g.o.poly2 (i:=1) rfl;have e0:=n.cell;refine Zt ?_;exact⟨_,_,_,_,_,_,_,_,_,rfl,(Dd X λ_=>r),Z (g.o)⟩
          . clear ad;obtain⟨a,l,c,n,r⟩:=g.o.poly2 (i:=2) rfl;have e0:=n.cell;refine Zt ?_;exact⟨_,_,_,_,_,_,_,_,_,rfl,(Dt X λ_=>r),Z (g.o)⟩
          . have h0:=(X.o.2.2.2.1 (ad 3 O));have h1:=(X.o.2.2.2.2.1 (ad 4 O));have HC:=Z (E2.o V _ _ h0 h1);clear ad h0 h1;refine Jb rfl rfl λK hK=>?_;go_simp;go_wp2_with(go_at_call 9;refine HC.o.mono ?_;rintro e w5 ⟨v5,rfl,ay,af⟩)
            obtain⟨G0,G1,G2,G3,G4,_,G6,G7⟩:=X.o;exact⟨_,_,_,_,_,_,_,_,_,rfl,Z ⟨λh=>(G0 h).below af,λh=>(G1 h).below af,λh=>(G2 h).below af,λh=>(G3 h).below af,λh=>(G4 h).below af,λ_=>ay,λh=>(G6 h).below af,G7⟩,Z (g.o.below af)⟩
          . have h0:=(X.o.2.2.1 (ad 2 O));have h1:=((Do X) (ad 5 O));have HC:=Z (E3.o V _ _ h0 h1);clear ad h0 h1;refine Jb rfl rfl λK hK=>?_;go_simp;go_wp2_with(go_at_call 8;refine HC.o.mono ?_;rintro e w5 ⟨v5,rfl,ay,af⟩)
            obtain⟨G0,G1,G2,G3,G4,G5,_,G7⟩:=X.o;exact⟨_,_,_,_,_,_,_,_,_,rfl,Z ⟨λh=>(G0 h).below af,λh=>(G1 h).below af,λh=>(G2 h).below af,λh=>(G3 h).below af,λh=>(G4 h).below af,λh=>(G5 h).below af,λ_=>ay,G7⟩,Z (g.o.below af)⟩
          . have hf:D 8=false:=DN dm aw;obtain rfl:=EF X aw;clear ad;refine Zt ?_;obtain⟨G0,G1,G2,G3,G4,G5,G6,_⟩:=X.o;exact⟨_,_,_,_,_,_,_,_,_,rfl,Z ⟨λh=>(G0 h).alloc _,λh=>(G1 h).alloc _,λh=>(G2 h).alloc _,λh=>(G3 h).alloc _,λh=>(G4 h).alloc _,λh=>(G5 h).alloc _,λh=>(G6 h).alloc _,⟨λh=>by simp at h,λ_ _=>⟨_,rfl,rfl⟩,λh=>by simp[hf]at h⟩⟩,Z (g.o.fill (i:=4) rfl (.poly []) (FT _))⟩
          . obtain⟨B,rfl,rfl⟩:=ER X (ad 7 O) aw;have Qd:=ad 7 O;have hv:=((D3 X) (ad 6 O));obtain⟨a1,l1,c1,rfl⟩:=Jc.form (show Jc V _ _ from hv);obtain⟨a,l,c,n,r⟩:=g.o.poly2 (i:=4) rfl;have e0:=n.cell;have f0:=n.frozen;clear ad;refine Zt ?_;obtain⟨G0,G1,G2,G3,G4,G5,G6,_⟩:=X.o;exact⟨_,_,_,_,_,_,_,_,_,rfl,Z ⟨λh=>(G0 h).set1 n rfl _,λh=>(G1 h).set1 n rfl _,λh=>(G2 h).set1 n rfl _,λh=>(G3 h).set1 n rfl _,λh=>(G4 h).set1 n rfl _,λh=>(G5 h).set1 n rfl _,λh=>(G6 h).set1 n rfl _,⟨λh=>by simp[Qd]at h,λ_ h=>by simp at h,λ_=>⟨B,rfl,rfl⟩⟩⟩,Z (g.o.putPoly (i:=4) rfl hv)⟩
        rintro D av jg an ⟨ta,tb,tc,td,te,tf,ti,tq,x7,rfl,X,g⟩;obtain⟨ci,rfl,rfl⟩:=X.o.2.2.2.2.2.2.2.2.2 (an 8 DL);clear X an Ub;have Qj:Hid (Mem w jg [some (B1,.poly p),some (B2,.poly q),some (B3,.poly r),some (B6,.poly (Jm p q)),some (ci,.poly kk)]):=g;clear g;clear E1 E2 E3;obtain⟨uo,wn,vg,og,pi⟩:=Qj.o.poly2 (i:=2) rfl;have Uo:=og.cell;obtain⟨uq,wo,vh,oh,pj⟩:=Qj.o.poly2 (i:=4) rfl;have Uv:=oh.cell;have U:=Z (E4.o jg _ _ pi pj);go_upto_region 17 with(go_at_call 21;refine U.o.mono ?_;clear U E4;rintro e py ⟨rfl,A⟩)
        clear og Uo pi oh Uv pj;have Qi:Hid (Mem w py [some (B1,.poly p),some (B2,.poly q),some (B3,.poly r),some (B6,.poly (Jm p q)),some (ci,.poly kk)]):=Z (Qj.o.below A);clear Qj;clear A;obtain⟨ur,ws,vi,oj,pk⟩:=Qi.o.poly2 (i:=4) rfl;have Ur:=oj.cell;obtain⟨ut,wt,vj,oo,pm⟩:=Qi.o.poly2 (i:=2) rfl;have Ug:=oo.cell;have U:=Z (E5.o py _ _ pk pm);go_upto_region 18 with(go_at_call 22;refine U.o.mono ?_;clear U E5;rintro e fv ⟨u13,xi,rfl,ia,mr,ld⟩;obtain⟨ju,nm,kn,rfl⟩:=Jc.form ia;obtain⟨jy,nt,kq,rfl⟩:=Jc.form mr)
        clear oj Ur pk oo Ug pm;obtain⟨gh,hV⟩:=ex (fv.alloc (G #[C ju nm kn] 25));obtain⟨fx,ae⟩:=ex (fv.heap.size);have g:Mem w (fv.alloc (G #[C ju nm kn] 25)) [some (B1,.poly p),some (B2,.poly q),some (B3,.poly r),some (B6,.poly (Jm p q)),some (ci,.poly kk),some (fv.heap.size,.poly (Jt kk r))]:=Mem.push (Qi.o.below ld) (.poly (Jt kk r)) ia;rw[hV,ae]at g;rw[hV];rw[ae];have Qk:Hid (Mem w gh [some (B1,.poly p),some (B2,.poly q),some (B3,.poly r),some (B6,.poly (Jm p q)),some (ci,.poly kk),some (fx,.poly (Jt kk r))]):=Z (g);clear Qi;clear g hV ae;clear ia ld mr;obtain⟨bm,hV⟩:=ex (gh.alloc (G #[C jy nt kq] 25));have g:=Qk.o.below (Ba gh (G #[C jy nt kq] 25));rw[hV]at g;rw[hV];have Qr:Hid (Mem w bm [some (B1,.poly p),some (B2,.poly q),some (B3,.poly r),some (B6,.poly (Jm p q)),some (ci,.poly kk),some (fx,.poly (Jt kk r))]):=Z (g);clear Qk;clear g hV;obtain⟨qt,sn,rm,sr,sz⟩:=Qr.o.poly2 (i:=5) rfl;obtain⟨qu,so,rn,ss,th⟩:=Qr.o.poly2 (i:=3) rfl;obtain⟨dz,gv⟩:=ex (((Jt kk r).length:Int)-1:Int);have Wr:((Jm p q).length:Int)-1=dz:=by rw[<-gv,Zl.o]
        have U:=Z λ(V:I) (h:Bl bm V)=>Qc.o V _ (Jt kk r) (sz.below h);have H2:=Z λ(V:I) (h:Bl bm V)=>Qc.o V _ (Jm p q) (th.below h);rw[gv]at U;rw[Wr]at H2;have HC:=Z λ(V:I) (h:Bl bm V)=>show V.cell? _=_/\V.cell? _=_ from⟨(sr.bel h).cell,(ss.bel h).cell⟩;have hq:Bl bm bm.drew:=(BE _ bm).drew;obtain⟨k0,k1⟩:=HC.o _ hq;clear gv Wr;go_region_held3 (λw'=>w'.cell? ⟨fx,0,none⟩=some (C qt sn rm)/\w'.cell? ⟨B6,0,none⟩=some (C qu so rn)) (exact⟨k0,k1⟩)
         (first
          |(go_at_call 20;refine(U.o _ hq).mono ?_;clear U;rintro e x5 ⟨rfl,A⟩;replace hq:=Bt hq A;clear A k0 k1;obtain⟨k0,k1⟩:=HC.o _ hq)
          |(go_at_call 20;refine(H2.o _ hq).mono ?_;clear H2;rintro e x6 ⟨rfl,A⟩;replace hq:=Bt hq A;clear A k0 k1;obtain⟨k0,k1⟩:=HC.o _ hq))
        all_goals go_wp2_with fail
        go_meet
        exact Z ((Qr.o.below hq).take 4)
    case rest=>
     as_aux_lemma=>
      clear Ub;have Qj:=hcut;clear hcut Wa Wk;obtain⟨cP,cQ,cR,lP,lQ,lR,tP,tQ,tR⟩:=Uc.o;have Qv:Cd 41 (Jo p p):=(cP.mul cP).mono Y;have Wq:(Jo p p).length<=17:=RU tP tP Y;have Zd:GR p p:=cP.times cP Y;have Us:=Jy p p;obtain⟨pp,gy⟩:=ex (Jo p p);rw[gy]at Qv Wq Us;have cW:Cd 75 (Jo pp q):=(Qv.mul cQ).mono Y;have lW:(Jo pp q).length<=25:=RU Us tQ Y;have oW:GR pp q:=Qv.times cQ Y;have tW:=Jy pp q;have sP:=cP.sqs Y;have sQ:=cQ.sqs Y;have Wo:=Qv.sqs Y;have Uu:=Z λ(V:I) (x y:T) (hx:Jc V x p) (hy:Jc V y p)=>KF x y p p V hx hy sP sP Zd Y;have Uw:=Z λ(V:I) (x y:T) (hx:Jc V x pp) (hy:Jc V y q)=>KF x y pp q V hx hy Wo sQ oW Y;rw[gy]at Uu;obtain⟨W,hW⟩:=ex (Jo pp q);rw[hW]at Uw cW lW tW;have Qf:=Z (show Cd 75 W/\W.length<=25/\Jd W=W from⟨cW,lW,tW⟩);have Qh:=Z (λ(V:I)=>show Calls Tryz.prog 23 #[.string ⟨#[49]⟩] V λr w'=>∃u,r=.returned (.tuple #[u,Q R 0,Q R 0])/\Jc w' u [1]/\Bl V w' from
       (Mq ⟨#[49]⟩ V).mono (λr w' h=>by
        obtain⟨u,e,p,h1,h2,h3⟩:=h;rw[Hr,show Jh ⟨#[49]⟩=[49]from rfl,dV]at h2;obtain⟨rfl,rfl,h4⟩:=h2;exact⟨u,h1,h4,h3⟩))
      clear cP cQ cR lP lQ lR tP tQ tR Qv Wq Zd Us gy cW lW oW tW sP sQ Wo hW;obtain⟨fe,fo,fj,oq,iy⟩:=Qj.o.poly2 (i:=0) rfl;have Uq:=oq.cell;have U:=Z (Uu.o wc _ _ iy iy);go_upto_region 21 with(go_at_call 9;refine U.o.mono ?_;clear U Uu;rintro e fw ⟨u14,rfl,ib,li⟩;obtain⟨fg,fs,fk,rfl⟩:=Jc.form ib)
      clear oq Uq iy;obtain⟨jh,hV⟩:=ex (fw.alloc (G #[C fg fs fk] 25));obtain⟨ah,ae⟩:=ex (fw.heap.size);have g:Mem w (fw.alloc (G #[C fg fs fk] 25)) [some (B1,.poly p),some (B2,.poly q),some (B3,.poly r),some (B6,.poly (Jm p q)),some (fw.heap.size,.poly pp)]:=Mem.push (Qj.o.below li) (.poly pp) ib;rw[hV,ae]at g;rw[hV];rw[ae];have Qi:Hid (Mem w jh [some (B1,.poly p),some (B2,.poly q),some (B3,.poly r),some (B6,.poly (Jm p q)),some (ah,.poly pp)]):=Z (g);clear Qj;clear g hV ae;clear ib li;obtain⟨jk,mu,jz,f7,pn⟩:=Qi.o.poly2 (i:=4) rfl;have Qm:=f7.cell;have Qp:=f7.frozen;obtain⟨jl,mx,kc,ot,po⟩:=Qi.o.poly2 (i:=1) rfl;have Uh:=ot.cell;have U:=Z (Uw.o jh _ _ pn po);go_upto_region 22 with(go_at_call 9;refine U.o.mono ?_;clear U Uw;rintro e pz ⟨u15,rfl,ic,hq⟩;obtain⟨fh,ft,fl,rfl⟩:=Jc.form ic;clear Qm;have Qm:=(boxed_below f7 hq).cell;clear Qp;have Qp:=(boxed_below f7 hq).frozen)
      obtain⟨gi,hV⟩:=ex (pz.setCell ⟨ah,0,none⟩ (C fh ft fl));have g:Mem w (pz.setCell ⟨ah,0,none⟩ (C fh ft fl)) [some (B1,.poly p),some (B2,.poly q),some (B3,.poly r),some (B6,.poly (Jm p q)),some (ah,.poly W)]:=Mem.putPoly (Qi.o.below hq) (i:=4) rfl ic;rw[hV]at g;rw[hV];have Qk:Hid (Mem w gi [some (B1,.poly p),some (B2,.poly q),some (B3,.poly r),some (B6,.poly (Jm p q)),some (ah,.poly W)]):=Z (g);clear Qi;clear g hV;clear ic hq Qp;clear f7 Qm pn ot Uh po;obtain⟨jm,my,kd,ou,pq⟩:=Qk.o.poly2 (i:=4) rfl;have nW:=ou;have rW:=pq;have M:=Z Qk.o.2.2;have Zj:=Z (Qk.o.ge 4 rfl);clear ou pq;have eW:=nW.cell;by_cases W0:W=[]
      . have U:=Z (RL _ W gi rW (by rw[W0];simp));go_upto_region 23 with(go_at_call 18;refine U.o.mono ?_;clear U;rintro e jb ⟨rfl,A⟩)
        replace nW:=nW.bel A;replace rW:=rW.below A;replace M:=Z (Bt M.o A);clear A eW;go_upto_region 24 with(go_at_call 23;refine(Qh.o _).mono ?_;clear Qh;rintro e bc ⟨u17,rfl,bu,A⟩;obtain⟨fd,fm,fi,rfl⟩:=bu.form)
        have hA:Bl bc (bc.alloc (G #[C fd fm fi] 25)):=Ba bc _;replace A:=Bt A hA
        obtain⟨fc,hV⟩:=ex (bc.alloc (G #[C fd fm fi] 25));rw[hV]at A;rw[hV];replace nW:=nW.bel A;replace rW:=rW.below A;replace M:=Z (Bt M.o A);have U:=Z (Qc.o fc _ W rW);have Wv:(W.length:Int)-1=-1:=by rw[W0];rfl
        rw[Wv]at U;have Qt:=Z (show F4 fc from JT HT.o M.o);have H2:=Z λ(V:I) (h:Bl fc V)=>AL.o V (JT Qt.o h);clear A hV hA bu Wv;go_upto_region 25 with fail
        go_loopw [30] (λi wr=>i=Q R 0/\wr=fc) λ_ _=>0
        case atStart=>exact⟨rfl,rfl⟩
        case round=>
         as_aux_lemma=>
          obtain⟨rfl,rfl⟩:=hrel;have hq:Bl wr wr:=BE _ _;have eW:=nW.cell;go_wp2_with(first
           |(go_at_call 20;refine U.o.mono ?_;clear U;rintro e x1 ⟨rfl,A⟩;replace hq:=Bt hq A;clear A)
           |(go_at_call 15;refine(H2.o _ hq).mono ?_;clear H2;rintro e x2 ⟨rfl,A⟩;replace hq:=Bt hq A;clear A))
          go_ret;exact⟨rfl,Bt M.o hq⟩
      . obtain⟨L,vx,kw,ky,kx,kv⟩:=dM Qf.o.2.2 W0 Qf.o.2.1 Qf.o.1;have U:=Z (kv gi _ rW);have Qe:=Z (show(∀x∈L,1<x.1.length/\x.1.length<=25/\1<=x.2/\x.2+1<=W.length/\Df x.1 (Je x.1)/\Jd x.1=x.1/\Jp x.1=x.1/\Cd 80 x.1)/\L.Pairwise (λa b=>a.2<b.2/\Df a.1 b.1)/\(∀x,ev (Jp W) x=Ds L x)/\W≠[]from⟨kw,ky,kx,W0⟩);clear kw ky kx kv W0;go_upto_region 23 with(go_at_call 18;refine U.o.mono ?_;clear U;rintro e jb ⟨u16,rfl,hP,A⟩;obtain⟨jj,am,rfl,vz,wk⟩:=hP.form)
        clear nW rW Zj eW M;have XL:=Z (show D7 0 jb (C jj L.length am) L from hP.zero);clear hP;have Qr:Hid (Mem w jb [some (B1,.poly p),some (B2,.poly q),some (B3,.poly r),some (B6,.poly (Jm p q)),some (ah,.poly W)]):=Z (Qk.o.below A);clear Qk;clear A;go_upto_region 24 with(go_at_call 23;refine(Qh.o _).mono ?_;clear Qh;rintro e bc ⟨u17,rfl,bu,gq⟩;obtain⟨bg,bi,bh,rfl⟩:=Jc.form bu)
        have Qa:=Z (XL.o.below (Bt gq (Ba bc (G #[C bg bi bh] 25))));clear XL;obtain⟨qe,hV⟩:=ex (bc.alloc (G #[C bg bi bh] 25));obtain⟨ai,ae⟩:=ex (bc.heap.size);have g:Mem w (bc.alloc (G #[C bg bi bh] 25)) [some (B1,.poly p),some (B2,.poly q),some (B3,.poly r),some (B6,.poly (Jm p q)),some (ah,.poly W),some (bc.heap.size,.poly ([1]))]:=Mem.push (Qr.o.below gq) (.poly ([1])) bu;rw[hV,ae]at g;rw[hV]at Qa;rw[hV];rw[ae];have Wy:Hid (Mem w qe [some (B1,.poly p),some (B2,.poly q),some (B3,.poly r),some (B6,.poly (Jm p q)),some (ah,.poly W),some (ai,.poly ([1]))]):=Z (g);clear Qr;clear g hV ae;clear bu gq;go_upto_region 25 with fail
        go_loopw [30] (λi wr=>∃(k:Nat) (P:List Rat),k<=L.length/\i=Q R (k:Int)/\Hid (Gd L k P)/\Hid (Mem w wr [some (B1,.poly p),some (B2,.poly q),some (B3,.poly r),some (B6,.poly (Jm p q)),some (ah,.poly W),some (ai,.poly P)])/\Hid (D7 0 wr (C jj L.length am) L)) λi _=>L.length-(intOf i).toNat
        case atStart=>exact⟨0,[1],AK _,rfl,Z Gd.zero,Wy,Qa⟩
        case round=>
         as_aux_lemma=>
          clear Wy Qa;obtain⟨k,P,hk,rfl,fa,ck,XL⟩:=hrel;by_cases ba:k<L.length
          . obtain⟨⟨ee,tt⟩,e1⟩:∃x,L[k]?=some x:=⟨_,An ba⟩;obtain⟨g1,c1,bn,T1⟩:=Y5.toT XL.o (λe9=>by rw[e9]at ba;simp at ba);injection bn with h1 h2 h3
            subst h1 h3;clear h2;obtain⟨x,x0,x1,rx⟩:=T1.2.2.2.2 k ee tt e1;have Ql:GI L k=(tt:Int):=by unfold GI;rw[e1]
            rw[Ql]at x1;obtain⟨fu,bt,t1,t2,kt,tE,mE,cE⟩:=Qe.o.1 (ee,tt) (List.mem_of_getElem? e1);obtain⟨co,ei,dh,rfl⟩:=rx.form;have rE:Jc wr (N #[C co ei dh]) ee:=⟨_,rfl,rx⟩;have cS:Cd 81 (Je ee):=dF cE bt;have sE:=cE.sqs Y;have lS:=YQ (p:=ee) (λe9=>by rw[e9]at fu;simp at fu);have Zb:ChOk 81 ee (Je ee):=ChOk.of tE (JV _) (cE.mono Y) cS (n:=25) Y (by simp only at bt;omega) DL Y;have CS:=Z λ(V:I) (x:T) (hx:Jc V x ee)=>K3 x ee V hx sE (NI cS Y);have CG:=Z λ(V:I) (x y:T) (hx:Jc V x ee) (hy:Jc V y (Je ee))=>Gr 81 x y _ _ V hx hy Zb;rw[Nc tE (JV _) kt]at CG;have HE:=Z (show 1<ee.length/\ee.length<=25/\1<=tt/\tt+1<=W.length/\Jd ee=ee/\Jp ee=ee/\Cd 80 ee/\L[k]?=some (ee,tt)from⟨fu,bt,t1,t2,tE,mE,cE,e1⟩);have wj:¬((k:Int)<0):=Y
            have vy:(k:Int)<(L.length:Int):=Y
            have vw:=T1.lt;clear x1 rx Ql fu bt t1 t2 kt tE mE cE cS sE lS Zb e1 T1;go_upto_region 28 with fail
            have Qa:=Z (XL.o.alloc (G #[C co ei dh] 25));clear XL x0;obtain⟨qf,hV⟩:=ex (wr.alloc (G #[C co ei dh] 25));obtain⟨ak,ae⟩:=ex (wr.heap.size);have g:Mem w (wr.alloc (G #[C co ei dh] 25)) [some (B1,.poly p),some (B2,.poly q),some (B3,.poly r),some (B6,.poly (Jm p q)),some (ah,.poly W),some (ai,.poly P),some (wr.heap.size,.poly ee)]:=Mem.push (ck.o) (.poly ee) rE;rw[hV,ae]at g;rw[hV]at Qa;rw[hV];rw[ae];have Qo:Hid (Mem w qf [some (B1,.poly p),some (B2,.poly q),some (B3,.poly r),some (B6,.poly (Jm p q)),some (ah,.poly W),some (ai,.poly P),some (ak,.poly ee)]):=Z (g);clear ck;clear g hV ae;clear rE;refine Jn Uy [[],[],[1],[0,2,2],[],[4,3,3,0,1,2,3,4]] (by kernel_rfl) DL
             (λD av V=>∃(tl tm tn tp tz:T) (x4:Option (Nat × Dat)),av={ tmps:=#[.string s,.string t,.string u,H,H,H,u6,E (some ⟨B1,0,none⟩),E (some ⟨B2,0,none⟩),E (some ⟨B3,0,none⟩),E (some ⟨B6,0,none⟩),F true,F true,E (some ⟨aq,0,none⟩),u14,F true,E (some ⟨bf,0,none⟩),u17,F true,E (some ⟨ce,0,none⟩),u20,u21,u22,u23,u24,E (some ⟨ah,0,none⟩),C (some ⟨g1,0,none⟩) L.length am,E (some ⟨ai,0,none⟩),Q R 0,Q R 0,Q R ↑k,E (some ⟨ak,0,none⟩),tz,u33,u34,u35,H,H,H,u39,u40,u41,u42,u43,u44,u45,u46,u47,u48,u49,u50,u51,u52,u53,u54,u55,u56,u57,u58,u59,u60,u61,u62,u63,u64,u65,u66,u67,u68,u69,u70,u71,u72,u73,u74,u75,u76,u77,u78,u79,u80,u81,u82,u83,u84,u85,u86,u87,u88,u89,u90,u91,u92,u93,u94,u95,u96,u97,u98,u99,u100,u101,u102,u103,u104,u105,u106,u107,u108,u109,u110,u111,u112,u113,u114,u115,u116,u117,u118,u119,u120,u121,u122,u123,u124,u125,u126,u127,u128,u129,u130,u131,u132,N #[C fe fo fj],N #[C fe fo fj],N #[C fg fs fk],N #[C jk mu jz],N #[C jl mx kc],N #[C fh ft fl],N #[C jm my kd],C (some ⟨g1,0,none⟩) L.length am,.tuple #[N #[C bg bi bh],Q R 0,Q R 0],.tuple #[N #[C bg bi bh],Q R 0,Q R 0],N #[C bg bi bh],Q R 0,Q R 0,Q R ↑k,C (some ⟨g1,0,none⟩) L.length am,Q R ↑L.length,F true,u150,u151,C (some ⟨g1,0,none⟩) L.length am,Q R ↑k,E (some { block:=g1,off:=k*2 }),E (some { block:=g1,off:=k*2 }),N #[C co ei dh],tl,tm,tn,tp,u161,u162,u163,u164,u165,u166,u167,u168,u169,u170,u171,u172,u173,u174,u175,u176,u177,u178,u179,u180,u181,u182,u183,u184,u185,u186,u187,u188,u189,u190,u191,u192,u193,u194,u195,u196,u197,u198,u199,u200,u201,u202,u203,u204,u205,u206,u207,u208,u209,u210,u211,u212,u213,u214,u215,u216,u217,u218,u219,u220,u221,u222,u223,u224,u225,u226,u227,u228,u229,u230,u231,u232,u233,u234,u235,u236,u237,u238,u239,u240,u241,u242,u243,u244,u245,u246,u247,u248,u249,u250,u251,u252,u253,u254,u255,u256,u257,u258],defers:=[] }/\Hid ((D 0=true->Has V tl (.poly ee))/\(D 1=true->Has V tm (.poly ee))/\(D 2=true->Has V tn (.poly (Je ee)))/\(D 3=true->Has V tp (.poly ([1])))/\((D 4=false->x4=none)/\(D 4=true->D 5=false->∃B:Nat,tz=E (some ⟨B,0,none⟩)/\x4=some (B,.poly []))/\(D 5=true->∃B:Nat,tz=E (some ⟨B,0,none⟩)/\x4=some (B,.poly ([1])))))/\Hid (Mem w V [some (B1,.poly p),some (B2,.poly q),some (B3,.poly r),some (B6,.poly (Jm p q)),some (ah,.poly W),some (ai,.poly P),some (ak,.poly ee),x4])/\Hid (D7 0 V (C (some ⟨g1,0,none⟩) L.length am) L))
             ⟨_,_,_,_,_,none,rfl,Z ⟨O,O,O,O,O⟩,Z ((Qo.o).none).drew,Z (Qa.o.drew)⟩ ?step45 ?fin45
            case step45=>
             as_aux_lemma=>
              rintro D av V i ds dm hi ad aw ⟨tl,tm,tn,tp,tz,x4,rfl,X,g,XX⟩;have Ws:i<6:=(Af.1 hi).1;obtain rfl|rfl|rfl|rfl|rfl|rfl:=Ia i Y
              all_goals
               simp only[Aj,Ah,Al]at hi;subst hi
              . clear ad;obtain⟨a,l,c,n,r⟩:=g.o.poly2 (i:=6) rfl;have e0:=n.cell;refine Zt ?_;exact⟨_,_,_,_,_,_,rfl,(Dc X λ_=>r),Z (g.o),Z (XX.o)⟩
              . clear ad;obtain⟨a,l,c,n,r⟩:=g.o.poly2 (i:=6) rfl;have e0:=n.cell;refine Zt ?_;exact⟨_,_,_,_,_,_,rfl,(Dg X λ_=>r),Z (g.o),Z (XX.o)⟩
              . have h0:=(X.o.2.1 (ad 1 O));have HC:=Z (CS.o V _ h0);clear ad h0;refine Jb rfl rfl λK hK=>?_;go_simp;go_wp2_with(go_at_call 24;refine HC.o.mono ?_;rintro e w5 ⟨v5,rfl,ay,af⟩)
                exact⟨_,_,_,_,_,_,rfl,Z ⟨λh=>(X.o.1 h).below af,λh=>(X.o.2.1 h).below af,λ_=>ay,λh=>(X.o.2.2.2.1 h).below af,X.o.2.2.2.2⟩,Z (g.o.below af),Z (XX.o.below af)⟩
              . have h0:=(X.o.1 (ad 0 O));have h1:=(X.o.2.2.1 (ad 2 O));have HC:=Z (CG.o V _ _ h0 h1);clear ad h0 h1;refine Jb rfl rfl λK hK=>?_;go_simp;go_wp2_with(go_at_call 8;refine HC.o.mono ?_;rintro e w5 ⟨v5,rfl,ay,af⟩)
                exact⟨_,_,_,_,_,_,rfl,Z ⟨λh=>(X.o.1 h).below af,λh=>(X.o.2.1 h).below af,λh=>(X.o.2.2.1 h).below af,λ_=>ay,X.o.2.2.2.2⟩,Z (g.o.below af),Z (XX.o.below af)⟩
              . have hf:D 5=false:=DN dm aw;obtain rfl:=X.o.2.2.2.2.1 aw;clear ad;refine Zt ?_;exact⟨_,_,_,_,_,_,rfl,Z ⟨λh=>(X.o.1 h).alloc _,λh=>(X.o.2.1 h).alloc _,λh=>(X.o.2.2.1 h).alloc _,λh=>(X.o.2.2.2.1 h).alloc _,⟨λh=>by simp at h,λ_ _=>⟨_,rfl,rfl⟩,λh=>by simp[hf]at h⟩⟩,Z (g.o.fill (i:=7) rfl (.poly []) (FT _)),Z (XX.o.alloc _)⟩
              . obtain⟨B,rfl,rfl⟩:=Do X (ad 4 O) aw;have Qd:=ad 4 O;have hv:=(X.o.2.2.2.1 (ad 3 O));obtain⟨a1,l1,c1,rfl⟩:=Jc.form (show Jc V _ _ from hv);obtain⟨a,l,c,n,r⟩:=g.o.poly2 (i:=7) rfl;have e0:=n.cell;have f0:=n.frozen;clear ad;refine Zt ?_;exact⟨_,_,_,_,_,_,rfl,Z ⟨λh=>(X.o.1 h).set1 n rfl _,λh=>(X.o.2.1 h).set1 n rfl _,λh=>(X.o.2.2.1 h).set1 n rfl _,λh=>(X.o.2.2.2.1 h).set1 n rfl _,⟨λh=>by simp[Qd]at h,λ_ h=>by simp at h,λ_=>⟨B,rfl,rfl⟩⟩⟩,Z (g.o.putPoly (i:=7) rfl hv),Z (XX.o.set1 n rfl _)⟩
            rintro D av az an ⟨tl,tm,tn,tp,tz,x4,rfl,X,g,XX⟩;obtain⟨f9,rfl,rfl⟩:=X.o.2.2.2.2.2.2 (an 5 DL);clear X an Qo;have Qb:Hid (Mem w az [some (B1,.poly p),some (B2,.poly q),some (B3,.poly r),some (B6,.poly (Jm p q)),some (ah,.poly W),some (ai,.poly P),some (ak,.poly ee),some (f9,.poly ([1]))]):=g;clear g;have XL:=XX;clear XX Qa CS CG;obtain⟨jn,mz,ke,su,ub⟩:=Qb.o.poly2 (i:=7) rfl;obtain⟨jo,nf,kf,sv,ud⟩:=Qb.o.poly2 (i:=6) rfl;obtain⟨jp,ng,kg,sw,ue⟩:=Qb.o.poly2 (i:=4) rfl;obtain⟨g2,c2,bn,OT⟩:=Y5.toT XL.o (λe9=>by rw[e9]at ba;simp at ba);injection bn with h1 h2 h3
            injection h1 with h1
            injection h1 with h1
            subst h1 h3;clear h2;obtain⟨_,_,x1,_⟩:=OT.2.2.2.2 k ee tt HE.o.2.2.2.2.2.2.2;have Ql:GI L k=(tt:Int):=by unfold GI;rw[HE.o.2.2.2.2.2.2.2]
            rw[Ql]at x1;obtain⟨U,H2,H3⟩:=Dh (λ(V:I) (h:Bl az V)=>Qc.o V _ ee (ud.below h)) (λ(V:I) (h:Bl az V)=>Qc.o V _ W (ue.below h)) λ(V:I) (h:Bl az V)=>T1.o V _ (ub.below h) (JT HT.o (Bt Qb.o.2.2 h));obtain⟨de,mj⟩:=ex ((ee.length:Int)-1:Int);obtain⟨dW,dt⟩:=ex ((W.length:Int)-1:Int);rw[mj]at U;rw[dt]at H2;have f1:decide (de<1)=false:=BI (by have:=HE.o.1;omega);have f2:decide ((tt:Int)<1)=false:=BI (by have:=HE.o.2.2.1;omega);have f3:decide (dW<(tt:Int))=false:=BI (by have:=HE.o.2.2.2.1;omega);have HC:=Z λ(V:I) (h:Bl az V)=>show V.cell? ⟨g1,k*2+1,none⟩=some (Q R (tt:Int))/\V.cell? _=_/\V.cell? _=_/\V.cell? _=_ from⟨(h.cell (p:=⟨g1,_,none⟩) OT.lt).trans x1,(su.bel h).cell,(sv.bel h).cell,(sw.bel h).cell⟩;clear mj dt Ql x1;go_upto_region 29 with fail
            go_cut [204] λcv wx=>cv=F false/\Bl az wx
            case first=>
             as_aux_lemma=>
              have hq:Bl az az.drew:=(BE _ az).drew;obtain⟨k0,k1,k2,k3⟩:=HC.o _ hq;cases k with
              |zero=>
               as_aux_lemma=>
                refine wp_region_held_drew (S:=(λw'=>w'.cell? ⟨g1,0*2+1,none⟩=some (Q R (tt:Int))/\w'.cell? ⟨f9,0,none⟩=some (C jn mz ke)/\w'.cell? ⟨ak,0,none⟩=some (C jo nf kf)/\w'.cell? ⟨ah,0,none⟩=some (C jp ng kg))) (by kernel_rfl) ⟨k0,k1,k2,k3⟩ λap=>?_;refine wpAnyH_take (i:=0) (oi:={ dst:=some 161,op:=Go.Op.load 25 (Go.Operand.tmp 32),type:=25,pos:= "law.go:109",after:=#[],guard:=none }) (v:=?_) rfl (by kernel_rfl) (by kernel_rfl) (by kernel_rfl) (λ_ _ _ h=>h) (Or.inl ⟨by rfl,?_⟩) (by assumption) ?_;rotate_left
                . intro w9 f;(try dsimp only at f);go_simp;try with_reducible rfl
                try simp only[Act.put,Ab,Ad,Ac]
                refine wpAnyH_ready (rs:=[1]) (by kernel_rfl) O ?_;refine AllReadyH.cons (o:={ dst:=some 162,op:=Go.Op.call { callee:=Go.Callee.value (Go.Operand.func 11),args:=#[Go.Operand.tmp 161],argTypes:=#[25] },type:=9,pos:= "law.go:109",after:=#[{ on:=0,ground:=Go.Ground.data }],guard:=none }) rfl (λK hK=>?_) AllReadyH.nil;clear ap;go_simp;go_at_call 11;refine(H3.o _ hq).mono ?_;clear H3;rintro e um ⟨rfl,A⟩;replace hq:=Bt hq A;clear A k0 k1 k2 k3;obtain⟨k0,k1,k2,k3⟩:=HC.o _ hq
                try go_wp2_with fail
                refine hK _ _ ⟨k0,k1,k2,k3⟩ λap=>?_;clear hK K;try simp only[Act.put,Ab,Ad,Ac]
                refine wpAnyH_take (i:=2) (oi:={ dst:=some 163,op:=Go.Op.binOp Go.BinOp.neq 9 (Go.Operand.tmp 162) (Go.Operand.const (Go.Value.string { data:=#[49] })) 9,type:=4,pos:= "law.go:109",after:=#[{ on:=1,ground:=Go.Ground.data }],guard:=none }) (v:=?_) rfl (by kernel_rfl) (by kernel_rfl) (by kernel_rfl) (λ_ _ _ h=>h) (Or.inl ⟨by rfl,?_⟩) (by assumption) ?_;rotate_left
                . intro w9 f;(try dsimp only at f);go_simp;try with_reducible rfl
                try simp only[Act.put,Ab,Ad,Ac]
                refine wpAnyH_take (i:=3) (oi:={ dst:=some 164,op:=Go.Op.move (Go.Operand.tmp 163),type:=4,pos:= "law.go:109",after:=#[{ on:=2,ground:=Go.Ground.data },{ on:=1,ground:=Go.Ground.chain }],guard:=none }) (v:=?_) rfl (by kernel_rfl) (by kernel_rfl) (by kernel_rfl) (λ_ _ _ h=>h) (Or.inl ⟨by rfl,?_⟩) (by assumption) ?_;rotate_left
                . intro w9 f;(try dsimp only at f);go_simp;try with_reducible rfl
                try simp only[Act.put,Ab,Ad,Ac]
                refine wpAnyH_take (i:=4) (oi:={ dst:=some 165,op:=Go.Op.load 25 (Go.Operand.tmp 31),type:=25,pos:= "law.go:109",after:=#[{ on:=3,ground:=Go.Ground.guard }],guard:=some (3,false) }) (v:=?_) rfl (by kernel_rfl) (by kernel_rfl) (by kernel_rfl) (λ_ _ _ h=>h) (Or.inl ⟨by rfl,?_⟩) (by assumption) ?_;rotate_left
                . intro w9 f;(try dsimp only at f);go_simp;try with_reducible rfl
                try simp only[Act.put,Ab,Ad,Ac]
                refine wpAnyH_ready (rs:=[5]) (by kernel_rfl) O ?_;refine AllReadyH.cons (o:={ dst:=some 166,op:=Go.Op.call { callee:=Go.Callee.value (Go.Operand.func 20),args:=#[Go.Operand.tmp 165],argTypes:=#[25] },type:=3,pos:= "law.go:109",after:=#[{ on:=4,ground:=Go.Ground.data },{ on:=3,ground:=Go.Ground.chain },{ on:=3,ground:=Go.Ground.guard }],guard:=some (3,false) }) rfl (λK hK=>?_) AllReadyH.nil;clear ap;go_simp;go_at_call 20;refine(U.o _ hq).mono ?_;clear U;rintro e uj ⟨rfl,A⟩;replace hq:=Bt hq A;clear A k0 k1 k2 k3;obtain⟨k0,k1,k2,k3⟩:=HC.o _ hq
                try go_wp2_with fail
                refine hK _ _ ⟨k0,k1,k2,k3⟩ λap=>?_;clear hK K;try simp only[Act.put,Ab,Ad,Ac]
                refine wpAnyH_take (i:=6) (oi:={ dst:=some 167,op:=Go.Op.binOp Go.BinOp.lss 3 (Go.Operand.tmp 166) (Go.Operand.const (Go.Value.int Go.IntKind.i64 1)) 3,type:=4,pos:= "law.go:109",after:=#[{ on:=5,ground:=Go.Ground.data },{ on:=3,ground:=Go.Ground.guard }],guard:=some (3,false) }) (v:=?_) rfl (by kernel_rfl) (by kernel_rfl) (by kernel_rfl) (λ_ _ _ h=>h) (Or.inl ⟨by rfl,?_⟩) (by assumption) ?_;rotate_left
                . intro w9 f;(try dsimp only at f);go_simp;try with_reducible rfl
                try simp only[Act.put,Ab,Ad,Ac]
                refine wpAnyH_take (i:=7) (oi:={ dst:=some 168,op:=Go.Op.pick (Go.Operand.tmp 164) (Go.Operand.const (Go.Value.bool true)) (Go.Operand.tmp 167),type:=4,pos:= "law.go:109",after:=#[{ on:=3,ground:=Go.Ground.data },{ on:=6,ground:=Go.Ground.data }],guard:=none }) (v:=?_) rfl (by kernel_rfl) (by kernel_rfl) (by kernel_rfl) (λ_ _ _ h=>h) (Or.inl ⟨by rfl,?_⟩) (by assumption) ?_;rotate_left
                . intro w9 f;(try dsimp only at f);go_simp;try with_reducible rfl
                try simp only[Act.put,Ab,Ad,Ac]
                refine wpAnyH_take (i:=8) (oi:={ dst:=some 169,op:=Go.Op.move (Go.Operand.tmp 168),type:=4,pos:= "law.go:109",after:=#[{ on:=7,ground:=Go.Ground.data },{ on:=5,ground:=Go.Ground.chain }],guard:=none }) (v:=?_) rfl (by kernel_rfl) (by kernel_rfl) (by kernel_rfl) (λ_ _ _ h=>h) (Or.inl ⟨by rfl,?_⟩) (by assumption) ?_;rotate_left
                . intro w9 f;(try dsimp only at f);go_simp;try with_reducible rfl
                try simp only[Act.put,Ab,Ad,Ac]
                refine wpAnyH_take (i:=9) (oi:={ dst:=some 170,op:=Go.Op.move (Go.Operand.tmp 26),type:=39,pos:= "law.go:109",after:=#[{ on:=8,ground:=Go.Ground.guard }],guard:=some (8,false) }) (v:=?_) rfl (by kernel_rfl) (by kernel_rfl) (by kernel_rfl) (λ_ _ _ h=>h) (Or.inl ⟨by rfl,?_⟩) (by assumption) ?_;rotate_left
                . intro w9 f;(try dsimp only at f);go_simp;try with_reducible rfl
                try simp only[Act.put,Ab,Ad,Ac]
                refine wpAnyH_take (i:=10) (oi:={ dst:=some 171,op:=Go.Op.move (Go.Operand.tmp 30),type:=3,pos:= "law.go:109",after:=#[{ on:=8,ground:=Go.Ground.guard }],guard:=some (8,false) }) (v:=?_) rfl (by kernel_rfl) (by kernel_rfl) (by kernel_rfl) (λ_ _ _ h=>h) (Or.inl ⟨by rfl,?_⟩) (by assumption) ?_;rotate_left
                . intro w9 f;(try dsimp only at f);go_simp;try with_reducible rfl
                try simp only[Act.put,Ab,Ad,Ac]
                refine wpAnyH_take (i:=11) (oi:={ dst:=some 172,op:=Go.Op.indexAddr 39 (Go.Operand.tmp 170) (Go.Operand.tmp 171),type:=0,pos:= "law.go:109",after:=#[{ on:=9,ground:=Go.Ground.data },{ on:=10,ground:=Go.Ground.data },{ on:=8,ground:=Go.Ground.guard }],guard:=some (8,false) }) (v:=?_) rfl (by kernel_rfl) (by kernel_rfl) (by kernel_rfl) (λ_ _ _ h=>h) (Or.inl ⟨by rfl,?_⟩) (by assumption) ?_;rotate_left
                . intro w9 f;(try dsimp only at f);go_simp;try with_reducible rfl
                try simp only[Act.put,Ab,Ad,Ac]
                refine wpAnyH_take (i:=12) (oi:={ dst:=some 173,op:=Go.Op.fieldAddr 44 (Go.Operand.tmp 172) 1,type:=0,pos:= "law.go:109",after:=#[{ on:=11,ground:=Go.Ground.data },{ on:=8,ground:=Go.Ground.guard }],guard:=some (8,false) }) (v:=?_) rfl (by kernel_rfl) (by kernel_rfl) (by kernel_rfl) (λ_ _ _ h=>h) (Or.inl ⟨by rfl,?_⟩) (by assumption) ?_;rotate_left
                . intro w9 f;(try dsimp only at f);go_simp;try with_reducible rfl
                try simp only[Act.put,Ab,Ad,Ac]
                refine wpAnyH_take (i:=13) (oi:={ dst:=some 174,op:=Go.Op.load 3 (Go.Operand.tmp 173),type:=3,pos:= "law.go:109",after:=#[{ on:=12,ground:=Go.Ground.data },{ on:=8,ground:=Go.Ground.guard }],guard:=some (8,false) }) (v:=?_) rfl (by kernel_rfl) (by kernel_rfl) (by kernel_rfl) (λ_ _ _ h=>h) (Or.inl ⟨by rfl,?_⟩) (by assumption) ?_;rotate_left
                . intro w9 f;(try dsimp only at f);go_simp;try with_reducible rfl
                try simp only[Act.put,Ab,Ad,Ac]
                refine wpAnyH_take (i:=14) (oi:={ dst:=some 175,op:=Go.Op.binOp Go.BinOp.lss 3 (Go.Operand.tmp 174) (Go.Operand.const (Go.Value.int Go.IntKind.i64 1)) 3,type:=4,pos:= "law.go:109",after:=#[{ on:=13,ground:=Go.Ground.data },{ on:=8,ground:=Go.Ground.guard }],guard:=some (8,false) }) (v:=?_) rfl (by kernel_rfl) (by kernel_rfl) (by kernel_rfl) (λ_ _ _ h=>h) (Or.inl ⟨by rfl,?_⟩) (by assumption) ?_;rotate_left
                . intro w9 f;(try dsimp only at f);go_simp;try with_reducible rfl
                try simp only[Act.put,Ab,Ad,Ac]
                refine wpAnyH_take (i:=15) (oi:={ dst:=some 176,op:=Go.Op.pick (Go.Operand.tmp 169) (Go.Operand.const (Go.Value.bool true)) (Go.Operand.tmp 175),type:=4,pos:= "law.go:109",after:=#[{ on:=8,ground:=Go.Ground.data },{ on:=14,ground:=Go.Ground.data }],guard:=none }) (v:=?_) rfl (by kernel_rfl) (by kernel_rfl) (by kernel_rfl) (λ_ _ _ h=>h) (Or.inl ⟨by rfl,?_⟩) (by assumption) ?_;rotate_left
                . intro w9 f;(try dsimp only at f);go_simp;try with_reducible rfl
                try simp only[Act.put,Ab,Ad,Ac]
                refine wpAnyH_take (i:=16) (oi:={ dst:=some 177,op:=Go.Op.move (Go.Operand.tmp 176),type:=4,pos:= "law.go:109",after:=#[{ on:=15,ground:=Go.Ground.data },{ on:=8,ground:=Go.Ground.chain }],guard:=none }) (v:=?_) rfl (by kernel_rfl) (by kernel_rfl) (by kernel_rfl) (λ_ _ _ h=>h) (Or.inl ⟨by rfl,?_⟩) (by assumption) ?_;rotate_left
                . intro w9 f;(try dsimp only at f);go_simp;try with_reducible rfl
                try simp only[Act.put,Ab,Ad,Ac]
                refine wpAnyH_take (i:=17) (oi:={ dst:=some 178,op:=Go.Op.move (Go.Operand.tmp 30),type:=3,pos:= "law.go:109",after:=#[{ on:=16,ground:=Go.Ground.guard }],guard:=some (16,false) }) (v:=?_) rfl (by kernel_rfl) (by kernel_rfl) (by kernel_rfl) (λ_ _ _ h=>h) (Or.inl ⟨by rfl,?_⟩) (by assumption) ?_;rotate_left
                . intro w9 f;(try dsimp only at f);go_simp;try with_reducible rfl
                try simp only[Act.put,Ab,Ad,Ac]
                refine wpAnyH_take (i:=18) (oi:={ dst:=some 179,op:=Go.Op.binOp Go.BinOp.gtr 3 (Go.Operand.tmp 178) (Go.Operand.const (Go.Value.int Go.IntKind.i64 0)) 3,type:=4,pos:= "law.go:109",after:=#[{ on:=17,ground:=Go.Ground.data },{ on:=16,ground:=Go.Ground.guard }],guard:=some (16,false) }) (v:=?_) rfl (by kernel_rfl) (by kernel_rfl) (by kernel_rfl) (λ_ _ _ h=>h) (Or.inl ⟨by rfl,?_⟩) (by assumption) ?_;rotate_left
                . intro w9 f;(try dsimp only at f);go_simp;try with_reducible rfl
                try simp only[Act.put,Ab,Ad,Ac]
                refine wpAnyH_take (i:=19) (oi:={ dst:=some 180,op:=Go.Op.move (Go.Operand.tmp 179),type:=4,pos:= "law.go:109",after:=#[{ on:=18,ground:=Go.Ground.data },{ on:=16,ground:=Go.Ground.chain },{ on:=16,ground:=Go.Ground.guard }],guard:=some (16,false) }) (v:=?_) rfl (by kernel_rfl) (by kernel_rfl) (by kernel_rfl) (λ_ _ _ h=>h) (Or.inl ⟨by rfl,?_⟩) (by assumption) ?_;rotate_left
                . intro w9 f;(try dsimp only at f);go_simp;try with_reducible rfl
                try simp only[Act.put,Ab,Ad,Ac]
                refine wpAnyH_take (i:=20) (oi:={ dst:=some 181,op:=Go.Op.move (Go.Operand.tmp 26),type:=39,pos:= "law.go:109",after:=#[{ on:=19,ground:=Go.Ground.guard }],guard:=some (19,true) }) (v:=H) rfl (by kernel_rfl) (by kernel_rfl) (by kernel_rfl) (λ_ _ _ h=>h) (Or.inr ⟨by rfl,rfl⟩) (by assumption) ?_;try simp only[Act.put,Ab,Ad,Ac]
                refine wpAnyH_take (i:=21) (oi:={ dst:=some 182,op:=Go.Op.move (Go.Operand.tmp 30),type:=3,pos:= "law.go:109",after:=#[{ on:=19,ground:=Go.Ground.guard }],guard:=some (19,true) }) (v:=H) rfl (by kernel_rfl) (by kernel_rfl) (by kernel_rfl) (λ_ _ _ h=>h) (Or.inr ⟨by rfl,rfl⟩) (by assumption) ?_;try simp only[Act.put,Ab,Ad,Ac]
                refine wpAnyH_take (i:=22) (oi:={ dst:=some 183,op:=Go.Op.indexAddr 39 (Go.Operand.tmp 181) (Go.Operand.tmp 182),type:=0,pos:= "law.go:109",after:=#[{ on:=20,ground:=Go.Ground.data },{ on:=21,ground:=Go.Ground.data },{ on:=19,ground:=Go.Ground.guard }],guard:=some (19,true) }) (v:=H) rfl (by kernel_rfl) (by kernel_rfl) (by kernel_rfl) (λ_ _ _ h=>h) (Or.inr ⟨by rfl,rfl⟩) (by assumption) ?_;try simp only[Act.put,Ab,Ad,Ac]
                refine wpAnyH_take (i:=23) (oi:={ dst:=some 184,op:=Go.Op.fieldAddr 44 (Go.Operand.tmp 183) 1,type:=0,pos:= "law.go:109",after:=#[{ on:=22,ground:=Go.Ground.data },{ on:=19,ground:=Go.Ground.guard }],guard:=some (19,true) }) (v:=H) rfl (by kernel_rfl) (by kernel_rfl) (by kernel_rfl) (λ_ _ _ h=>h) (Or.inr ⟨by rfl,rfl⟩) (by assumption) ?_;try simp only[Act.put,Ab,Ad,Ac]
                refine wpAnyH_take (i:=24) (oi:={ dst:=some 185,op:=Go.Op.load 3 (Go.Operand.tmp 184),type:=3,pos:= "law.go:109",after:=#[{ on:=23,ground:=Go.Ground.data },{ on:=19,ground:=Go.Ground.guard }],guard:=some (19,true) }) (v:=H) rfl (by kernel_rfl) (by kernel_rfl) (by kernel_rfl) (λ_ _ _ h=>h) (Or.inr ⟨by rfl,rfl⟩) (by assumption) ?_;try simp only[Act.put,Ab,Ad,Ac]
                refine wpAnyH_take (i:=25) (oi:={ dst:=some 186,op:=Go.Op.move (Go.Operand.tmp 26),type:=39,pos:= "law.go:109",after:=#[{ on:=19,ground:=Go.Ground.guard }],guard:=some (19,true) }) (v:=H) rfl (by kernel_rfl) (by kernel_rfl) (by kernel_rfl) (λ_ _ _ h=>h) (Or.inr ⟨by rfl,rfl⟩) (by assumption) ?_;try simp only[Act.put,Ab,Ad,Ac]
                refine wpAnyH_take (i:=26) (oi:={ dst:=some 187,op:=Go.Op.move (Go.Operand.tmp 30),type:=3,pos:= "law.go:109",after:=#[{ on:=19,ground:=Go.Ground.guard }],guard:=some (19,true) }) (v:=H) rfl (by kernel_rfl) (by kernel_rfl) (by kernel_rfl) (λ_ _ _ h=>h) (Or.inr ⟨by rfl,rfl⟩) (by assumption) ?_;try simp only[Act.put,Ab,Ad,Ac]
                refine wpAnyH_take (i:=27) (oi:={ dst:=some 188,op:=Go.Op.binOp Go.BinOp.sub 3 (Go.Operand.tmp 187) (Go.Operand.const (Go.Value.int Go.IntKind.i64 1)) 3,type:=3,pos:= "law.go:109",after:=#[{ on:=26,ground:=Go.Ground.data },{ on:=19,ground:=Go.Ground.guard }],guard:=some (19,true) }) (v:=H) rfl (by kernel_rfl) (by kernel_rfl) (by kernel_rfl) (λ_ _ _ h=>h) (Or.inr ⟨by rfl,rfl⟩) (by assumption) ?_;try simp only[Act.put,Ab,Ad,Ac]
                refine wpAnyH_take (i:=28) (oi:={ dst:=some 189,op:=Go.Op.indexAddr 39 (Go.Operand.tmp 186) (Go.Operand.tmp 188),type:=0,pos:= "law.go:109",after:=#[{ on:=25,ground:=Go.Ground.data },{ on:=27,ground:=Go.Ground.data },{ on:=19,ground:=Go.Ground.guard }],guard:=some (19,true) }) (v:=H) rfl (by kernel_rfl) (by kernel_rfl) (by kernel_rfl) (λ_ _ _ h=>h) (Or.inr ⟨by rfl,rfl⟩) (by assumption) ?_;try simp only[Act.put,Ab,Ad,Ac]
                refine wpAnyH_take (i:=29) (oi:={ dst:=some 190,op:=Go.Op.fieldAddr 44 (Go.Operand.tmp 189) 1,type:=0,pos:= "law.go:109",after:=#[{ on:=28,ground:=Go.Ground.data },{ on:=19,ground:=Go.Ground.guard }],guard:=some (19,true) }) (v:=H) rfl (by kernel_rfl) (by kernel_rfl) (by kernel_rfl) (λ_ _ _ h=>h) (Or.inr ⟨by rfl,rfl⟩) (by assumption) ?_;try simp only[Act.put,Ab,Ad,Ac]
                refine wpAnyH_take (i:=30) (oi:={ dst:=some 191,op:=Go.Op.load 3 (Go.Operand.tmp 190),type:=3,pos:= "law.go:109",after:=#[{ on:=29,ground:=Go.Ground.data },{ on:=19,ground:=Go.Ground.guard }],guard:=some (19,true) }) (v:=H) rfl (by kernel_rfl) (by kernel_rfl) (by kernel_rfl) (λ_ _ _ h=>h) (Or.inr ⟨by rfl,rfl⟩) (by assumption) ?_;try simp only[Act.put,Ab,Ad,Ac]
                refine wpAnyH_take (i:=31) (oi:={ dst:=some 192,op:=Go.Op.binOp Go.BinOp.leq 3 (Go.Operand.tmp 185) (Go.Operand.tmp 191) 3,type:=4,pos:= "law.go:109",after:=#[{ on:=24,ground:=Go.Ground.data },{ on:=30,ground:=Go.Ground.data },{ on:=19,ground:=Go.Ground.guard }],guard:=some (19,true) }) (v:=H) rfl (by kernel_rfl) (by kernel_rfl) (by kernel_rfl) (λ_ _ _ h=>h) (Or.inr ⟨by rfl,rfl⟩) (by assumption) ?_;try simp only[Act.put,Ab,Ad,Ac]
                refine wpAnyH_take (i:=32) (oi:={ dst:=some 193,op:=Go.Op.pick (Go.Operand.tmp 180) (Go.Operand.tmp 192) (Go.Operand.const (Go.Value.bool false)),type:=4,pos:= "law.go:109",after:=#[{ on:=19,ground:=Go.Ground.data },{ on:=31,ground:=Go.Ground.data },{ on:=16,ground:=Go.Ground.guard }],guard:=some (16,false) }) (v:=?_) rfl (by kernel_rfl) (by kernel_rfl) (by kernel_rfl) (λ_ _ _ h=>h) (Or.inl ⟨by rfl,?_⟩) (by assumption) ?_;rotate_left
                . intro w9 f;(try dsimp only at f);go_simp;try with_reducible rfl
                try simp only[Act.put,Ab,Ad,Ac]
                refine wpAnyH_take (i:=33) (oi:={ dst:=some 194,op:=Go.Op.pick (Go.Operand.tmp 177) (Go.Operand.const (Go.Value.bool true)) (Go.Operand.tmp 193),type:=4,pos:= "law.go:109",after:=#[{ on:=16,ground:=Go.Ground.data },{ on:=32,ground:=Go.Ground.data }],guard:=none }) (v:=?_) rfl (by kernel_rfl) (by kernel_rfl) (by kernel_rfl) (λ_ _ _ h=>h) (Or.inl ⟨by rfl,?_⟩) (by assumption) ?_;rotate_left
                . intro w9 f;(try dsimp only at f);go_simp;try with_reducible rfl
                try simp only[Act.put,Ab,Ad,Ac]
                refine wpAnyH_take (i:=34) (oi:={ dst:=some 195,op:=Go.Op.move (Go.Operand.tmp 194),type:=4,pos:= "law.go:109",after:=#[{ on:=33,ground:=Go.Ground.data },{ on:=19,ground:=Go.Ground.chain }],guard:=none }) (v:=?_) rfl (by kernel_rfl) (by kernel_rfl) (by kernel_rfl) (λ_ _ _ h=>h) (Or.inl ⟨by rfl,?_⟩) (by assumption) ?_;rotate_left
                . intro w9 f;(try dsimp only at f);go_simp;try with_reducible rfl
                try simp only[Act.put,Ab,Ad,Ac]
                refine wpAnyH_take (i:=35) (oi:={ dst:=some 196,op:=Go.Op.move (Go.Operand.tmp 26),type:=39,pos:= "law.go:109",after:=#[{ on:=34,ground:=Go.Ground.guard }],guard:=some (34,false) }) (v:=?_) rfl (by kernel_rfl) (by kernel_rfl) (by kernel_rfl) (λ_ _ _ h=>h) (Or.inl ⟨by rfl,?_⟩) (by assumption) ?_;rotate_left
                . intro w9 f;(try dsimp only at f);go_simp;try with_reducible rfl
                try simp only[Act.put,Ab,Ad,Ac]
                refine wpAnyH_take (i:=36) (oi:={ dst:=some 197,op:=Go.Op.move (Go.Operand.tmp 30),type:=3,pos:= "law.go:109",after:=#[{ on:=34,ground:=Go.Ground.guard }],guard:=some (34,false) }) (v:=?_) rfl (by kernel_rfl) (by kernel_rfl) (by kernel_rfl) (λ_ _ _ h=>h) (Or.inl ⟨by rfl,?_⟩) (by assumption) ?_;rotate_left
                . intro w9 f;(try dsimp only at f);go_simp;try with_reducible rfl
                try simp only[Act.put,Ab,Ad,Ac]
                refine wpAnyH_take (i:=37) (oi:={ dst:=some 198,op:=Go.Op.indexAddr 39 (Go.Operand.tmp 196) (Go.Operand.tmp 197),type:=0,pos:= "law.go:109",after:=#[{ on:=35,ground:=Go.Ground.data },{ on:=36,ground:=Go.Ground.data },{ on:=34,ground:=Go.Ground.guard }],guard:=some (34,false) }) (v:=?_) rfl (by kernel_rfl) (by kernel_rfl) (by kernel_rfl) (λ_ _ _ h=>h) (Or.inl ⟨by rfl,?_⟩) (by assumption) ?_;rotate_left
                . intro w9 f;(try dsimp only at f);go_simp;try with_reducible rfl
                try simp only[Act.put,Ab,Ad,Ac]
                refine wpAnyH_take (i:=38) (oi:={ dst:=some 199,op:=Go.Op.fieldAddr 44 (Go.Operand.tmp 198) 1,type:=0,pos:= "law.go:109",after:=#[{ on:=37,ground:=Go.Ground.data },{ on:=34,ground:=Go.Ground.guard }],guard:=some (34,false) }) (v:=?_) rfl (by kernel_rfl) (by kernel_rfl) (by kernel_rfl) (λ_ _ _ h=>h) (Or.inl ⟨by rfl,?_⟩) (by assumption) ?_;rotate_left
                . intro w9 f;(try dsimp only at f);go_simp;try with_reducible rfl
                try simp only[Act.put,Ab,Ad,Ac]
                refine wpAnyH_take (i:=39) (oi:={ dst:=some 200,op:=Go.Op.load 3 (Go.Operand.tmp 199),type:=3,pos:= "law.go:109",after:=#[{ on:=38,ground:=Go.Ground.data },{ on:=34,ground:=Go.Ground.guard }],guard:=some (34,false) }) (v:=?_) rfl (by kernel_rfl) (by kernel_rfl) (by kernel_rfl) (λ_ _ _ h=>h) (Or.inl ⟨by rfl,?_⟩) (by assumption) ?_;rotate_left
                . intro w9 f;(try dsimp only at f);go_simp;try with_reducible rfl
                try simp only[Act.put,Ab,Ad,Ac]
                refine wpAnyH_take (i:=40) (oi:={ dst:=some 201,op:=Go.Op.load 25 (Go.Operand.tmp 25),type:=25,pos:= "law.go:109",after:=#[{ on:=34,ground:=Go.Ground.guard }],guard:=some (34,false) }) (v:=?_) rfl (by kernel_rfl) (by kernel_rfl) (by kernel_rfl) (λ_ _ _ h=>h) (Or.inl ⟨by rfl,?_⟩) (by assumption) ?_;rotate_left
                . intro w9 f;(try dsimp only at f);go_simp;try with_reducible rfl
                try simp only[Act.put,Ab,Ad,Ac]
                refine wpAnyH_ready (rs:=[41]) (by kernel_rfl) O ?_;refine AllReadyH.cons (o:={ dst:=some 202,op:=Go.Op.call { callee:=Go.Callee.value (Go.Operand.func 20),args:=#[Go.Operand.tmp 201],argTypes:=#[25] },type:=3,pos:= "law.go:109",after:=#[{ on:=40,ground:=Go.Ground.data },{ on:=34,ground:=Go.Ground.chain },{ on:=34,ground:=Go.Ground.guard }],guard:=some (34,false) }) rfl (λK hK=>?_) AllReadyH.nil;clear ap;go_simp;go_at_call 20;refine(H2.o _ hq).mono ?_;clear H2;rintro e uk ⟨rfl,A⟩;replace hq:=Bt hq A;clear A k0 k1 k2 k3;obtain⟨k0,k1,k2,k3⟩:=HC.o _ hq
                try go_wp2_with fail
                refine hK _ _ ⟨k0,k1,k2,k3⟩ λap=>?_;clear hK K;try simp only[Act.put,Ab,Ad,Ac]
                refine wpAnyH_take (i:=42) (oi:={ dst:=some 203,op:=Go.Op.binOp Go.BinOp.gtr 3 (Go.Operand.tmp 200) (Go.Operand.tmp 202) 3,type:=4,pos:= "law.go:109",after:=#[{ on:=39,ground:=Go.Ground.data },{ on:=41,ground:=Go.Ground.data },{ on:=34,ground:=Go.Ground.guard }],guard:=some (34,false) }) (v:=?_) rfl (by kernel_rfl) (by kernel_rfl) (by kernel_rfl) (λ_ _ _ h=>h) (Or.inl ⟨by rfl,?_⟩) (by assumption) ?_;rotate_left
                . intro w9 f;(try dsimp only at f);go_simp;try with_reducible rfl
                try simp only[Act.put,Ab,Ad,Ac]
                refine wpAnyH_take (i:=43) (oi:={ dst:=some 204,op:=Go.Op.pick (Go.Operand.tmp 195) (Go.Operand.const (Go.Value.bool true)) (Go.Operand.tmp 203),type:=4,pos:= "law.go:109",after:=#[{ on:=34,ground:=Go.Ground.data },{ on:=42,ground:=Go.Ground.data }],guard:=none }) (v:=?_) rfl (by kernel_rfl) (by kernel_rfl) (by kernel_rfl) (λ_ _ _ h=>h) (Or.inl ⟨by rfl,?_⟩) (by assumption) ?_;rotate_left
                . intro w9 f;(try dsimp only at f);go_simp;try with_reducible rfl
                try simp only[Act.put,Ab,Ad,Ac]
                refine wpAnyH_done (by kernel_rfl) ?_ _;go_wp2_with fail
                go_meet
                exact⟨rfl,hq⟩
              |succ j=>
               as_aux_lemma=>
                obtain⟨⟨ej,tj⟩,e2⟩:∃x,L[j]?=some x:=⟨_,An Y⟩;obtain⟨_,_,x2,_⟩:=OT.2.2.2.2 j ej tj e2;have Wx:GI L j=(tj:Int):=by unfold GI;rw[e2]
                rw[Wx]at x2;have Zk:tj<tt:=(RW Qe.o.2.1 (Nat.lt_succ_self j) e2 HE.o.2.2.2.2.2.2.2).1;have f4:decide ((tt:Int)<=(tj:Int))=false:=BI Y;have f5:decide ((0:Int)<(j:Int)+1)=true:=BM Y;have f6:(j:Int)+1-1=(j:Int):=Y
                have b1:(0:Int)<=(j:Int)+1:=Y
                have b2:(j:Int)+1<(L.length:Int):=Y
                have b3:(j:Int)<(L.length:Int):=Y
                have b4:((j:Int)+1).toNat=j+1:=Y
                have b5:IntKind.i64.wrap (j:Int)=(j:Int):=by rw[BZ];omega
                have b7:decide (tt<=tj)=false:=BI Y;have Qz:=Z λ(V:I) (h:Bl az V)=>show V.cell? ⟨g1,j*2+1,none⟩=some (Q R (tj:Int))from(h.cell (p:=⟨g1,_,none⟩) OT.lt).trans x2;have k4:=Qz.o _ hq;clear x2 Wx Zk e2;refine wp_region_held_drew (S:=(λw'=>w'.cell? ⟨g1,j*2+1,none⟩=some (Q R (tj:Int))/\w'.cell? ⟨g1,(j+1)*2+1,none⟩=some (Q R (tt:Int))/\w'.cell? ⟨f9,0,none⟩=some (C jn mz ke)/\w'.cell? ⟨ak,0,none⟩=some (C jo nf kf)/\w'.cell? ⟨ah,0,none⟩=some (C jp ng kg))) (by kernel_rfl) ⟨k4,k0,k1,k2,k3⟩ λap=>?_;refine wpAnyH_take (i:=0) (oi:={ dst:=some 161,op:=Go.Op.load 25 (Go.Operand.tmp 32),type:=25,pos:= "law.go:109",after:=#[],guard:=none }) (v:=?_) rfl (by kernel_rfl) (by kernel_rfl) (by kernel_rfl) (λ_ _ _ h=>h) (Or.inl ⟨by rfl,?_⟩) (by assumption) ?_;rotate_left
                . intro w9 f;(try dsimp only at f);go_simp;try with_reducible rfl
                try simp only[Act.put,Ab,Ad,Ac]
                refine wpAnyH_ready (rs:=[1]) (by kernel_rfl) O ?_;refine AllReadyH.cons (o:={ dst:=some 162,op:=Go.Op.call { callee:=Go.Callee.value (Go.Operand.func 11),args:=#[Go.Operand.tmp 161],argTypes:=#[25] },type:=9,pos:= "law.go:109",after:=#[{ on:=0,ground:=Go.Ground.data }],guard:=none }) rfl (λK hK=>?_) AllReadyH.nil;clear ap;go_simp;go_at_call 11;refine(H3.o _ hq).mono ?_;clear H3;rintro e um ⟨rfl,A⟩;replace hq:=Bt hq A;clear A k0 k1 k2 k3 k4;have k4:=Qz.o _ hq;obtain⟨k0,k1,k2,k3⟩:=HC.o _ hq
                try go_wp2_with fail
                refine hK _ _ ⟨k4,k0,k1,k2,k3⟩ λap=>?_;clear hK K;try simp only[Act.put,Ab,Ad,Ac]
                refine wpAnyH_take (i:=2) (oi:={ dst:=some 163,op:=Go.Op.binOp Go.BinOp.neq 9 (Go.Operand.tmp 162) (Go.Operand.const (Go.Value.string { data:=#[49] })) 9,type:=4,pos:= "law.go:109",after:=#[{ on:=1,ground:=Go.Ground.data }],guard:=none }) (v:=?_) rfl (by kernel_rfl) (by kernel_rfl) (by kernel_rfl) (λ_ _ _ h=>h) (Or.inl ⟨by rfl,?_⟩) (by assumption) ?_;rotate_left
                . intro w9 f;(try dsimp only at f);go_simp;try with_reducible rfl
                try simp only[Act.put,Ab,Ad,Ac]
                refine wpAnyH_take (i:=3) (oi:={ dst:=some 164,op:=Go.Op.move (Go.Operand.tmp 163),type:=4,pos:= "law.go:109",after:=#[{ on:=2,ground:=Go.Ground.data },{ on:=1,ground:=Go.Ground.chain }],guard:=none }) (v:=?_) rfl (by kernel_rfl) (by kernel_rfl) (by kernel_rfl) (λ_ _ _ h=>h) (Or.inl ⟨by rfl,?_⟩) (by assumption) ?_;rotate_left
                . intro w9 f;(try dsimp only at f);go_simp;try with_reducible rfl
                try simp only[Act.put,Ab,Ad,Ac]
                refine wpAnyH_take (i:=4) (oi:={ dst:=some 165,op:=Go.Op.load 25 (Go.Operand.tmp 31),type:=25,pos:= "law.go:109",after:=#[{ on:=3,ground:=Go.Ground.guard }],guard:=some (3,false) }) (v:=?_) rfl (by kernel_rfl) (by kernel_rfl) (by kernel_rfl) (λ_ _ _ h=>h) (Or.inl ⟨by rfl,?_⟩) (by assumption) ?_;rotate_left
                . intro w9 f;(try dsimp only at f);go_simp;try with_reducible rfl
                try simp only[Act.put,Ab,Ad,Ac]
                refine wpAnyH_ready (rs:=[5]) (by kernel_rfl) O ?_;refine AllReadyH.cons (o:={ dst:=some 166,op:=Go.Op.call { callee:=Go.Callee.value (Go.Operand.func 20),args:=#[Go.Operand.tmp 165],argTypes:=#[25] },type:=3,pos:= "law.go:109",after:=#[{ on:=4,ground:=Go.Ground.data },{ on:=3,ground:=Go.Ground.chain },{ on:=3,ground:=Go.Ground.guard }],guard:=some (3,false) }) rfl (λK hK=>?_) AllReadyH.nil;clear ap;go_simp;go_at_call 20;refine(U.o _ hq).mono ?_;clear U;rintro e uj ⟨rfl,A⟩;replace hq:=Bt hq A;clear A k0 k1 k2 k3 k4;have k4:=Qz.o _ hq;obtain⟨k0,k1,k2,k3⟩:=HC.o _ hq
                try go_wp2_with fail
                refine hK _ _ ⟨k4,k0,k1,k2,k3⟩ λap=>?_;clear hK K;try simp only[Act.put,Ab,Ad,Ac]
                refine wpAnyH_take (i:=6) (oi:={ dst:=some 167,op:=Go.Op.binOp Go.BinOp.lss 3 (Go.Operand.tmp 166) (Go.Operand.const (Go.Value.int Go.IntKind.i64 1)) 3,type:=4,pos:= "law.go:109",after:=#[{ on:=5,ground:=Go.Ground.data },{ on:=3,ground:=Go.Ground.guard }],guard:=some (3,false) }) (v:=?_) rfl (by kernel_rfl) (by kernel_rfl) (by kernel_rfl) (λ_ _ _ h=>h) (Or.inl ⟨by rfl,?_⟩) (by assumption) ?_;rotate_left
                . intro w9 f;(try dsimp only at f);go_simp;try with_reducible rfl
                try simp only[Act.put,Ab,Ad,Ac]
                refine wpAnyH_take (i:=7) (oi:={ dst:=some 168,op:=Go.Op.pick (Go.Operand.tmp 164) (Go.Operand.const (Go.Value.bool true)) (Go.Operand.tmp 167),type:=4,pos:= "law.go:109",after:=#[{ on:=3,ground:=Go.Ground.data },{ on:=6,ground:=Go.Ground.data }],guard:=none }) (v:=?_) rfl (by kernel_rfl) (by kernel_rfl) (by kernel_rfl) (λ_ _ _ h=>h) (Or.inl ⟨by rfl,?_⟩) (by assumption) ?_;rotate_left
                . intro w9 f;(try dsimp only at f);go_simp;try with_reducible rfl
                try simp only[Act.put,Ab,Ad,Ac]
                refine wpAnyH_take (i:=8) (oi:={ dst:=some 169,op:=Go.Op.move (Go.Operand.tmp 168),type:=4,pos:= "law.go:109",after:=#[{ on:=7,ground:=Go.Ground.data },{ on:=5,ground:=Go.Ground.chain }],guard:=none }) (v:=?_) rfl (by kernel_rfl) (by kernel_rfl) (by kernel_rfl) (λ_ _ _ h=>h) (Or.inl ⟨by rfl,?_⟩) (by assumption) ?_;rotate_left
                . intro w9 f;(try dsimp only at f);go_simp;try with_reducible rfl
                try simp only[Act.put,Ab,Ad,Ac]
                refine wpAnyH_take (i:=9) (oi:={ dst:=some 170,op:=Go.Op.move (Go.Operand.tmp 26),type:=39,pos:= "law.go:109",after:=#[{ on:=8,ground:=Go.Ground.guard }],guard:=some (8,false) }) (v:=?_) rfl (by kernel_rfl) (by kernel_rfl) (by kernel_rfl) (λ_ _ _ h=>h) (Or.inl ⟨by rfl,?_⟩) (by assumption) ?_;rotate_left
                . intro w9 f;(try dsimp only at f);go_simp;try with_reducible rfl
                try simp only[Act.put,Ab,Ad,Ac]
                refine wpAnyH_take (i:=10) (oi:={ dst:=some 171,op:=Go.Op.move (Go.Operand.tmp 30),type:=3,pos:= "law.go:109",after:=#[{ on:=8,ground:=Go.Ground.guard }],guard:=some (8,false) }) (v:=?_) rfl (by kernel_rfl) (by kernel_rfl) (by kernel_rfl) (λ_ _ _ h=>h) (Or.inl ⟨by rfl,?_⟩) (by assumption) ?_;rotate_left
                . intro w9 f;(try dsimp only at f);go_simp;try with_reducible rfl
                try simp only[Act.put,Ab,Ad,Ac]
                refine wpAnyH_take (i:=11) (oi:={ dst:=some 172,op:=Go.Op.indexAddr 39 (Go.Operand.tmp 170) (Go.Operand.tmp 171),type:=0,pos:= "law.go:109",after:=#[{ on:=9,ground:=Go.Ground.data },{ on:=10,ground:=Go.Ground.data },{ on:=8,ground:=Go.Ground.guard }],guard:=some (8,false) }) (v:=?_) rfl (by kernel_rfl) (by kernel_rfl) (by kernel_rfl) (λ_ _ _ h=>h) (Or.inl ⟨by rfl,?_⟩) (by assumption) ?_;rotate_left
                . intro w9 f;(try dsimp only at f);go_simp;try with_reducible rfl
                try simp only[Act.put,Ab,Ad,Ac]
                refine wpAnyH_take (i:=12) (oi:={ dst:=some 173,op:=Go.Op.fieldAddr 44 (Go.Operand.tmp 172) 1,type:=0,pos:= "law.go:109",after:=#[{ on:=11,ground:=Go.Ground.data },{ on:=8,ground:=Go.Ground.guard }],guard:=some (8,false) }) (v:=?_) rfl (by kernel_rfl) (by kernel_rfl) (by kernel_rfl) (λ_ _ _ h=>h) (Or.inl ⟨by rfl,?_⟩) (by assumption) ?_;rotate_left
                . intro w9 f;(try dsimp only at f);go_simp;try with_reducible rfl
                try simp only[Act.put,Ab,Ad,Ac]
                refine wpAnyH_take (i:=13) (oi:={ dst:=some 174,op:=Go.Op.load 3 (Go.Operand.tmp 173),type:=3,pos:= "law.go:109",after:=#[{ on:=12,ground:=Go.Ground.data },{ on:=8,ground:=Go.Ground.guard }],guard:=some (8,false) }) (v:=?_) rfl (by kernel_rfl) (by kernel_rfl) (by kernel_rfl) (λ_ _ _ h=>h) (Or.inl ⟨by rfl,?_⟩) (by assumption) ?_;rotate_left
                . intro w9 f;(try dsimp only at f);go_simp;try with_reducible rfl
                try simp only[Act.put,Ab,Ad,Ac]
                refine wpAnyH_take (i:=14) (oi:={ dst:=some 175,op:=Go.Op.binOp Go.BinOp.lss 3 (Go.Operand.tmp 174) (Go.Operand.const (Go.Value.int Go.IntKind.i64 1)) 3,type:=4,pos:= "law.go:109",after:=#[{ on:=13,ground:=Go.Ground.data },{ on:=8,ground:=Go.Ground.guard }],guard:=some (8,false) }) (v:=?_) rfl (by kernel_rfl) (by kernel_rfl) (by kernel_rfl) (λ_ _ _ h=>h) (Or.inl ⟨by rfl,?_⟩) (by assumption) ?_;rotate_left
                . intro w9 f;(try dsimp only at f);go_simp;try with_reducible rfl
                try simp only[Act.put,Ab,Ad,Ac]
                refine wpAnyH_take (i:=15) (oi:={ dst:=some 176,op:=Go.Op.pick (Go.Operand.tmp 169) (Go.Operand.const (Go.Value.bool true)) (Go.Operand.tmp 175),type:=4,pos:= "law.go:109",after:=#[{ on:=8,ground:=Go.Ground.data },{ on:=14,ground:=Go.Ground.data }],guard:=none }) (v:=?_) rfl (by kernel_rfl) (by kernel_rfl) (by kernel_rfl) (λ_ _ _ h=>h) (Or.inl ⟨by rfl,?_⟩) (by assumption) ?_;rotate_left
                . intro w9 f;(try dsimp only at f);go_simp;try with_reducible rfl
                try simp only[Act.put,Ab,Ad,Ac]
                refine wpAnyH_take (i:=16) (oi:={ dst:=some 177,op:=Go.Op.move (Go.Operand.tmp 176),type:=4,pos:= "law.go:109",after:=#[{ on:=15,ground:=Go.Ground.data },{ on:=8,ground:=Go.Ground.chain }],guard:=none }) (v:=?_) rfl (by kernel_rfl) (by kernel_rfl) (by kernel_rfl) (λ_ _ _ h=>h) (Or.inl ⟨by rfl,?_⟩) (by assumption) ?_;rotate_left
                . intro w9 f;(try dsimp only at f);go_simp;try with_reducible rfl
                try simp only[Act.put,Ab,Ad,Ac]
                refine wpAnyH_take (i:=17) (oi:={ dst:=some 178,op:=Go.Op.move (Go.Operand.tmp 30),type:=3,pos:= "law.go:109",after:=#[{ on:=16,ground:=Go.Ground.guard }],guard:=some (16,false) }) (v:=?_) rfl (by kernel_rfl) (by kernel_rfl) (by kernel_rfl) (λ_ _ _ h=>h) (Or.inl ⟨by rfl,?_⟩) (by assumption) ?_;rotate_left
                . intro w9 f;(try dsimp only at f);go_simp;try with_reducible rfl
                try simp only[Act.put,Ab,Ad,Ac]
                refine wpAnyH_take (i:=18) (oi:={ dst:=some 179,op:=Go.Op.binOp Go.BinOp.gtr 3 (Go.Operand.tmp 178) (Go.Operand.const (Go.Value.int Go.IntKind.i64 0)) 3,type:=4,pos:= "law.go:109",after:=#[{ on:=17,ground:=Go.Ground.data },{ on:=16,ground:=Go.Ground.guard }],guard:=some (16,false) }) (v:=?_) rfl (by kernel_rfl) (by kernel_rfl) (by kernel_rfl) (λ_ _ _ h=>h) (Or.inl ⟨by rfl,?_⟩) (by assumption) ?_;rotate_left
                . intro w9 f;(try dsimp only at f);go_simp;try with_reducible rfl
                try simp only[Act.put,Ab,Ad,Ac]
                refine wpAnyH_take (i:=19) (oi:={ dst:=some 180,op:=Go.Op.move (Go.Operand.tmp 179),type:=4,pos:= "law.go:109",after:=#[{ on:=18,ground:=Go.Ground.data },{ on:=16,ground:=Go.Ground.chain },{ on:=16,ground:=Go.Ground.guard }],guard:=some (16,false) }) (v:=?_) rfl (by kernel_rfl) (by kernel_rfl) (by kernel_rfl) (λ_ _ _ h=>h) (Or.inl ⟨by rfl,?_⟩) (by assumption) ?_;rotate_left
                . intro w9 f;(try dsimp only at f);go_simp;try with_reducible rfl
                try simp only[Act.put,Ab,Ad,Ac]
                refine wpAnyH_take (i:=20) (oi:={ dst:=some 181,op:=Go.Op.move (Go.Operand.tmp 26),type:=39,pos:= "law.go:109",after:=#[{ on:=19,ground:=Go.Ground.guard }],guard:=some (19,true) }) (v:=?_) rfl (by kernel_rfl) (by kernel_rfl) (by kernel_rfl) (λ_ _ _ h=>h) (Or.inl ⟨by rfl,?_⟩) (by assumption) ?_;rotate_left
                . intro w9 f;(try dsimp only at f);go_simp;try with_reducible rfl
                try simp only[Act.put,Ab,Ad,Ac]
                refine wpAnyH_take (i:=21) (oi:={ dst:=some 182,op:=Go.Op.move (Go.Operand.tmp 30),type:=3,pos:= "law.go:109",after:=#[{ on:=19,ground:=Go.Ground.guard }],guard:=some (19,true) }) (v:=?_) rfl (by kernel_rfl) (by kernel_rfl) (by kernel_rfl) (λ_ _ _ h=>h) (Or.inl ⟨by rfl,?_⟩) (by assumption) ?_;rotate_left
                . intro w9 f;(try dsimp only at f);go_simp;try with_reducible rfl
                try simp only[Act.put,Ab,Ad,Ac]
                refine wpAnyH_take (i:=22) (oi:={ dst:=some 183,op:=Go.Op.indexAddr 39 (Go.Operand.tmp 181) (Go.Operand.tmp 182),type:=0,pos:= "law.go:109",after:=#[{ on:=20,ground:=Go.Ground.data },{ on:=21,ground:=Go.Ground.data },{ on:=19,ground:=Go.Ground.guard }],guard:=some (19,true) }) (v:=?_) rfl (by kernel_rfl) (by kernel_rfl) (by kernel_rfl) (λ_ _ _ h=>h) (Or.inl ⟨by rfl,?_⟩) (by assumption) ?_;rotate_left
                . intro w9 f;(try dsimp only at f);go_simp;try with_reducible rfl
                try simp only[Act.put,Ab,Ad,Ac]
                refine wpAnyH_take (i:=23) (oi:={ dst:=some 184,op:=Go.Op.fieldAddr 44 (Go.Operand.tmp 183) 1,type:=0,pos:= "law.go:109",after:=#[{ on:=22,ground:=Go.Ground.data },{ on:=19,ground:=Go.Ground.guard }],guard:=some (19,true) }) (v:=?_) rfl (by kernel_rfl) (by kernel_rfl) (by kernel_rfl) (λ_ _ _ h=>h) (Or.inl ⟨by rfl,?_⟩) (by assumption) ?_;rotate_left
                . intro w9 f;(try dsimp only at f);go_simp;try with_reducible rfl
                try simp only[Act.put,Ab,Ad,Ac]
                refine wpAnyH_take (i:=24) (oi:={ dst:=some 185,op:=Go.Op.load 3 (Go.Operand.tmp 184),type:=3,pos:= "law.go:109",after:=#[{ on:=23,ground:=Go.Ground.data },{ on:=19,ground:=Go.Ground.guard }],guard:=some (19,true) }) (v:=?_) rfl (by kernel_rfl) (by kernel_rfl) (by kernel_rfl) (λ_ _ _ h=>h) (Or.inl ⟨by rfl,?_⟩) (by assumption) ?_;rotate_left
                . intro w9 f;(try dsimp only at f);go_simp;try with_reducible rfl
                try simp only[Act.put,Ab,Ad,Ac]
                refine wpAnyH_take (i:=25) (oi:={ dst:=some 186,op:=Go.Op.move (Go.Operand.tmp 26),type:=39,pos:= "law.go:109",after:=#[{ on:=19,ground:=Go.Ground.guard }],guard:=some (19,true) }) (v:=?_) rfl (by kernel_rfl) (by kernel_rfl) (by kernel_rfl) (λ_ _ _ h=>h) (Or.inl ⟨by rfl,?_⟩) (by assumption) ?_;rotate_left
                . intro w9 f;(try dsimp only at f);go_simp;try with_reducible rfl
                try simp only[Act.put,Ab,Ad,Ac]
                refine wpAnyH_take (i:=26) (oi:={ dst:=some 187,op:=Go.Op.move (Go.Operand.tmp 30),type:=3,pos:= "law.go:109",after:=#[{ on:=19,ground:=Go.Ground.guard }],guard:=some (19,true) }) (v:=?_) rfl (by kernel_rfl) (by kernel_rfl) (by kernel_rfl) (λ_ _ _ h=>h) (Or.inl ⟨by rfl,?_⟩) (by assumption) ?_;rotate_left
                . intro w9 f;(try dsimp only at f);go_simp;try with_reducible rfl
                try simp only[Act.put,Ab,Ad,Ac]
                refine wpAnyH_take (i:=27) (oi:={ dst:=some 188,op:=Go.Op.binOp Go.BinOp.sub 3 (Go.Operand.tmp 187) (Go.Operand.const (Go.Value.int Go.IntKind.i64 1)) 3,type:=3,pos:= "law.go:109",after:=#[{ on:=26,ground:=Go.Ground.data },{ on:=19,ground:=Go.Ground.guard }],guard:=some (19,true) }) (v:=?_) rfl (by kernel_rfl) (by kernel_rfl) (by kernel_rfl) (λ_ _ _ h=>h) (Or.inl ⟨by rfl,?_⟩) (by assumption) ?_;rotate_left
                . intro w9 f;(try dsimp only at f);go_simp;try with_reducible rfl
                try simp only[Act.put,Ab,Ad,Ac]
                refine wpAnyH_take (i:=28) (oi:={ dst:=some 189,op:=Go.Op.indexAddr 39 (Go.Operand.tmp 186) (Go.Operand.tmp 188),type:=0,pos:= "law.go:109",after:=#[{ on:=25,ground:=Go.Ground.data },{ on:=27,ground:=Go.Ground.data },{ on:=19,ground:=Go.Ground.guard }],guard:=some (19,true) }) (v:=?_) rfl (by kernel_rfl) (by kernel_rfl) (by kernel_rfl) (λ_ _ _ h=>h) (Or.inl ⟨by rfl,?_⟩) (by assumption) ?_;rotate_left
                . intro w9 f;(try dsimp only at f);go_simp;try with_reducible rfl
                try simp only[Act.put,Ab,Ad,Ac]
                refine wpAnyH_take (i:=29) (oi:={ dst:=some 190,op:=Go.Op.fieldAddr 44 (Go.Operand.tmp 189) 1,type:=0,pos:= "law.go:109",after:=#[{ on:=28,ground:=Go.Ground.data },{ on:=19,ground:=Go.Ground.guard }],guard:=some (19,true) }) (v:=?_) rfl (by kernel_rfl) (by kernel_rfl) (by kernel_rfl) (λ_ _ _ h=>h) (Or.inl ⟨by rfl,?_⟩) (by assumption) ?_;rotate_left
                . intro w9 f;(try dsimp only at f);go_simp;try with_reducible rfl
                try simp only[Act.put,Ab,Ad,Ac]
                refine wpAnyH_take (i:=30) (oi:={ dst:=some 191,op:=Go.Op.load 3 (Go.Operand.tmp 190),type:=3,pos:= "law.go:109",after:=#[{ on:=29,ground:=Go.Ground.data },{ on:=19,ground:=Go.Ground.guard }],guard:=some (19,true) }) (v:=?_) rfl (by kernel_rfl) (by kernel_rfl) (by kernel_rfl) (λ_ _ _ h=>h) (Or.inl ⟨by rfl,?_⟩) (by assumption) ?_;rotate_left
                . intro w9 f;(try dsimp only at f);go_simp;try with_reducible rfl
                try simp only[Act.put,Ab,Ad,Ac]
                refine wpAnyH_take (i:=31) (oi:={ dst:=some 192,op:=Go.Op.binOp Go.BinOp.leq 3 (Go.Operand.tmp 185) (Go.Operand.tmp 191) 3,type:=4,pos:= "law.go:109",after:=#[{ on:=24,ground:=Go.Ground.data },{ on:=30,ground:=Go.Ground.data },{ on:=19,ground:=Go.Ground.guard }],guard:=some (19,true) }) (v:=?_) rfl (by kernel_rfl) (by kernel_rfl) (by kernel_rfl) (λ_ _ _ h=>h) (Or.inl ⟨by rfl,?_⟩) (by assumption) ?_;rotate_left
                . intro w9 f;(try dsimp only at f);go_simp;try with_reducible rfl
                try simp only[Act.put,Ab,Ad,Ac]
                refine wpAnyH_take (i:=32) (oi:={ dst:=some 193,op:=Go.Op.pick (Go.Operand.tmp 180) (Go.Operand.tmp 192) (Go.Operand.const (Go.Value.bool false)),type:=4,pos:= "law.go:109",after:=#[{ on:=19,ground:=Go.Ground.data },{ on:=31,ground:=Go.Ground.data },{ on:=16,ground:=Go.Ground.guard }],guard:=some (16,false) }) (v:=?_) rfl (by kernel_rfl) (by kernel_rfl) (by kernel_rfl) (λ_ _ _ h=>h) (Or.inl ⟨by rfl,?_⟩) (by assumption) ?_;rotate_left
                . intro w9 f;(try dsimp only at f);go_simp;try with_reducible rfl
                try simp only[Act.put,Ab,Ad,Ac]
                refine wpAnyH_take (i:=33) (oi:={ dst:=some 194,op:=Go.Op.pick (Go.Operand.tmp 177) (Go.Operand.const (Go.Value.bool true)) (Go.Operand.tmp 193),type:=4,pos:= "law.go:109",after:=#[{ on:=16,ground:=Go.Ground.data },{ on:=32,ground:=Go.Ground.data }],guard:=none }) (v:=?_) rfl (by kernel_rfl) (by kernel_rfl) (by kernel_rfl) (λ_ _ _ h=>h) (Or.inl ⟨by rfl,?_⟩) (by assumption) ?_;rotate_left
                . intro w9 f;(try dsimp only at f);go_simp;try with_reducible rfl
                try simp only[Act.put,Ab,Ad,Ac]
                refine wpAnyH_take (i:=34) (oi:={ dst:=some 195,op:=Go.Op.move (Go.Operand.tmp 194),type:=4,pos:= "law.go:109",after:=#[{ on:=33,ground:=Go.Ground.data },{ on:=19,ground:=Go.Ground.chain }],guard:=none }) (v:=?_) rfl (by kernel_rfl) (by kernel_rfl) (by kernel_rfl) (λ_ _ _ h=>h) (Or.inl ⟨by rfl,?_⟩) (by assumption) ?_;rotate_left
                . intro w9 f;(try dsimp only at f);go_simp;try with_reducible rfl
                try simp only[Act.put,Ab,Ad,Ac]
                refine wpAnyH_take (i:=35) (oi:={ dst:=some 196,op:=Go.Op.move (Go.Operand.tmp 26),type:=39,pos:= "law.go:109",after:=#[{ on:=34,ground:=Go.Ground.guard }],guard:=some (34,false) }) (v:=?_) rfl (by kernel_rfl) (by kernel_rfl) (by kernel_rfl) (λ_ _ _ h=>h) (Or.inl ⟨by rfl,?_⟩) (by assumption) ?_;rotate_left
                . intro w9 f;(try dsimp only at f);go_simp;try with_reducible rfl
                try simp only[Act.put,Ab,Ad,Ac]
                refine wpAnyH_take (i:=36) (oi:={ dst:=some 197,op:=Go.Op.move (Go.Operand.tmp 30),type:=3,pos:= "law.go:109",after:=#[{ on:=34,ground:=Go.Ground.guard }],guard:=some (34,false) }) (v:=?_) rfl (by kernel_rfl) (by kernel_rfl) (by kernel_rfl) (λ_ _ _ h=>h) (Or.inl ⟨by rfl,?_⟩) (by assumption) ?_;rotate_left
                . intro w9 f;(try dsimp only at f);go_simp;try with_reducible rfl
                try simp only[Act.put,Ab,Ad,Ac]
                refine wpAnyH_take (i:=37) (oi:={ dst:=some 198,op:=Go.Op.indexAddr 39 (Go.Operand.tmp 196) (Go.Operand.tmp 197),type:=0,pos:= "law.go:109",after:=#[{ on:=35,ground:=Go.Ground.data },{ on:=36,ground:=Go.Ground.data },{ on:=34,ground:=Go.Ground.guard }],guard:=some (34,false) }) (v:=?_) rfl (by kernel_rfl) (by kernel_rfl) (by kernel_rfl) (λ_ _ _ h=>h) (Or.inl ⟨by rfl,?_⟩) (by assumption) ?_;rotate_left
                . intro w9 f;(try dsimp only at f);go_simp;try with_reducible rfl
                try simp only[Act.put,Ab,Ad,Ac]
                refine wpAnyH_take (i:=38) (oi:={ dst:=some 199,op:=Go.Op.fieldAddr 44 (Go.Operand.tmp 198) 1,type:=0,pos:= "law.go:109",after:=#[{ on:=37,ground:=Go.Ground.data },{ on:=34,ground:=Go.Ground.guard }],guard:=some (34,false) }) (v:=?_) rfl (by kernel_rfl) (by kernel_rfl) (by kernel_rfl) (λ_ _ _ h=>h) (Or.inl ⟨by rfl,?_⟩) (by assumption) ?_;rotate_left
                . intro w9 f;(try dsimp only at f);go_simp;try with_reducible rfl
                try simp only[Act.put,Ab,Ad,Ac]
                refine wpAnyH_take (i:=39) (oi:={ dst:=some 200,op:=Go.Op.load 3 (Go.Operand.tmp 199),type:=3,pos:= "law.go:109",after:=#[{ on:=38,ground:=Go.Ground.data },{ on:=34,ground:=Go.Ground.guard }],guard:=some (34,false) }) (v:=?_) rfl (by kernel_rfl) (by kernel_rfl) (by kernel_rfl) (λ_ _ _ h=>h) (Or.inl ⟨by rfl,?_⟩) (by assumption) ?_;rotate_left
                . intro w9 f;(try dsimp only at f);go_simp;try with_reducible rfl
                try simp only[Act.put,Ab,Ad,Ac]
                refine wpAnyH_take (i:=40) (oi:={ dst:=some 201,op:=Go.Op.load 25 (Go.Operand.tmp 25),type:=25,pos:= "law.go:109",after:=#[{ on:=34,ground:=Go.Ground.guard }],guard:=some (34,false) }) (v:=?_) rfl (by kernel_rfl) (by kernel_rfl) (by kernel_rfl) (λ_ _ _ h=>h) (Or.inl ⟨by rfl,?_⟩) (by assumption) ?_;rotate_left
                . intro w9 f;(try dsimp only at f);go_simp;try with_reducible rfl
                try simp only[Act.put,Ab,Ad,Ac]
                refine wpAnyH_ready (rs:=[41]) (by kernel_rfl) O ?_;refine AllReadyH.cons (o:={ dst:=some 202,op:=Go.Op.call { callee:=Go.Callee.value (Go.Operand.func 20),args:=#[Go.Operand.tmp 201],argTypes:=#[25] },type:=3,pos:= "law.go:109",after:=#[{ on:=40,ground:=Go.Ground.data },{ on:=34,ground:=Go.Ground.chain },{ on:=34,ground:=Go.Ground.guard }],guard:=some (34,false) }) rfl (λK hK=>?_) AllReadyH.nil;clear ap;go_simp;go_at_call 20;refine(H2.o _ hq).mono ?_;clear H2;rintro e uk ⟨rfl,A⟩;replace hq:=Bt hq A;clear A k0 k1 k2 k3 k4;have k4:=Qz.o _ hq;obtain⟨k0,k1,k2,k3⟩:=HC.o _ hq
                try go_wp2_with fail
                refine hK _ _ ⟨k4,k0,k1,k2,k3⟩ λap=>?_;clear hK K;try simp only[Act.put,Ab,Ad,Ac]
                refine wpAnyH_take (i:=42) (oi:={ dst:=some 203,op:=Go.Op.binOp Go.BinOp.gtr 3 (Go.Operand.tmp 200) (Go.Operand.tmp 202) 3,type:=4,pos:= "law.go:109",after:=#[{ on:=39,ground:=Go.Ground.data },{ on:=41,ground:=Go.Ground.data },{ on:=34,ground:=Go.Ground.guard }],guard:=some (34,false) }) (v:=?_) rfl (by kernel_rfl) (by kernel_rfl) (by kernel_rfl) (λ_ _ _ h=>h) (Or.inl ⟨by rfl,?_⟩) (by assumption) ?_;rotate_left
                . intro w9 f;(try dsimp only at f);go_simp;try with_reducible rfl
                try simp only[Act.put,Ab,Ad,Ac]
                refine wpAnyH_take (i:=43) (oi:={ dst:=some 204,op:=Go.Op.pick (Go.Operand.tmp 195) (Go.Operand.const (Go.Value.bool true)) (Go.Operand.tmp 203),type:=4,pos:= "law.go:109",after:=#[{ on:=34,ground:=Go.Ground.data },{ on:=42,ground:=Go.Ground.data }],guard:=none }) (v:=?_) rfl (by kernel_rfl) (by kernel_rfl) (by kernel_rfl) (λ_ _ _ h=>h) (Or.inl ⟨by rfl,?_⟩) (by assumption) ?_;rotate_left
                . intro w9 f;(try dsimp only at f);go_simp;try with_reducible rfl
                try simp only[Act.put,Ab,Ad,Ac]
                refine wpAnyH_done (by kernel_rfl) ?_ _;go_wp2_with fail
                go_meet
                exact⟨rfl,hq⟩
            case rest=>
             as_aux_lemma=>
              obtain⟨rfl,A⟩:=hcut;have M2:Hid (Mem w wc [some (B1,.poly p),some (B2,.poly q),some (B3,.poly r),some (B6,.poly (Jm p q)),some (ah,.poly W),some (ai,.poly P),some (ak,.poly ee)]):=Z ((Qb.o.below A).take 7);have Qa:=Z (XL.o.below A);clear Qb XL A U H2 H3 HC f1 f2 f3 OT;go_upto_region 32 with fail
              go_loopw [33] (λjv wq=>∃j:Nat,j<=k/\jv=Q R (j:Int)/\Hid (Mem w wq [some (B1,.poly p),some (B2,.poly q),some (B3,.poly r),some (B6,.poly (Jm p q)),some (ah,.poly W),some (ai,.poly P),some (ak,.poly ee)])/\Hid (D7 0 wq (C (some ⟨g1,0,none⟩) L.length am) L)) λjv _=>k-(intOf jv).toNat
              case atStart=>exact⟨0,AK _,rfl,M2,Qa⟩
              case round=>
               as_aux_lemma=>
                clear M2 Qa;obtain⟨j,hj,rfl,fb,XL⟩:=hrel;by_cases mn:j<k
                . obtain⟨⟨ej,tj⟩,e2⟩:∃x,L[j]?=some x:=⟨_,An Y⟩;obtain⟨g2,c2,bn,OT⟩:=Y5.toT XL.o (λe9=>by rw[e9]at ba;simp at ba);injection bn with h1 h2 h3
                  injection h1 with h1
                  injection h1 with h1
                  subst h1 h3;clear h2;obtain⟨xj,x0,_,iz⟩:=OT.2.2.2.2 j ej tj e2;obtain⟨aj,lj,cj,rfl⟩:=iz.form;have XJ:=Z (show Eo wr g1 am L j (C aj lj cj) ej from⟨XL.o,x0,iz⟩);have CG:Hid (∀(V:I) (x y:T),Jc V x ee->Jc V y ej->Calls Tryz.prog 8 #[x,y] V λe w'=>∃u,e=.returned u/\Jc w' u [1]/\Bl V w'):=by
                   obtain⟨_,sq,_,_,_,tJ,_,cJ⟩:=Qe.o.1 (ej,tj) (List.mem_of_getElem? e2);obtain⟨_,bt,_,_,tE,_,cE,e1⟩:=HE.o;have Zp:ChOk 80 ee ej:=ChOk.of tE tJ cE cJ (n:=25) bt sq DL Y;have Zi:Df ee ej:=(RW Qe.o.2.1 mn e2 e1).2.symm;refine Z λV x y hx hy=>?_;have:=Gr 80 x y _ _ V hx hy Zp;rwa[Nc tE tJ Zi]at this
                  have wh:¬((j:Int)<0):=Y
                  have wg:(j:Int)<(L.length:Int):=Y
                  have Zf:(j:Int)<(k:Int):=Y
                  clear x0 iz OT e2 XL;go_upto_region 34 with fail
                  refine Jn Uy [[],[],[],[1,2],[3],[4],[0,5],[],[7,6,6,0,1,2,3,4,5,6,7]] (by kernel_rfl) DL
                   (λD av V=>∃(tr ts tu tv tw tx ty tA:T) (x7:Option (Nat × Dat)),av={ tmps:=#[.string s,.string t,.string u,H,H,H,u6,E (some ⟨B1,0,none⟩),E (some ⟨B2,0,none⟩),E (some ⟨B3,0,none⟩),E (some ⟨B6,0,none⟩),F true,F true,E (some ⟨aq,0,none⟩),u14,F true,E (some ⟨bf,0,none⟩),u17,F true,E (some ⟨ce,0,none⟩),u20,u21,u22,u23,u24,E (some ⟨ah,0,none⟩),C (some ⟨g1,0,none⟩) L.length am,E (some ⟨ai,0,none⟩),Q R 0,Q R 0,Q R ↑k,E (some ⟨ak,0,none⟩),E (some ⟨f9,0,none⟩),Q R ↑j,tA,u35,H,H,H,u39,u40,u41,u42,u43,u44,u45,u46,u47,u48,u49,u50,u51,u52,u53,u54,u55,u56,u57,u58,u59,u60,u61,u62,u63,u64,u65,u66,u67,u68,u69,u70,u71,u72,u73,u74,u75,u76,u77,u78,u79,u80,u81,u82,u83,u84,u85,u86,u87,u88,u89,u90,u91,u92,u93,u94,u95,u96,u97,u98,u99,u100,u101,u102,u103,u104,u105,u106,u107,u108,u109,u110,u111,u112,u113,u114,u115,u116,u117,u118,u119,u120,u121,u122,u123,u124,u125,u126,u127,u128,u129,u130,u131,u132,N #[C fe fo fj],N #[C fe fo fj],N #[C fg fs fk],N #[C jk mu jz],N #[C jl mx kc],N #[C fh ft fl],N #[C jm my kd],C (some ⟨g1,0,none⟩) L.length am,.tuple #[N #[C bg bi bh],Q R 0,Q R 0],.tuple #[N #[C bg bi bh],Q R 0,Q R 0],N #[C bg bi bh],Q R 0,Q R 0,u146,u147,u148,u149,u150,u151,u152,u153,u154,u155,u156,u157,u158,u159,u160,u161,u162,u163,u164,u165,u166,u167,u168,u169,u170,u171,u172,u173,u174,u175,u176,u177,u178,u179,u180,u181,u182,u183,u184,u185,u186,u187,u188,u189,u190,u191,u192,u193,u194,u195,u196,u197,u198,u199,u200,u201,u202,u203,F false,Q R ↑j,Q R ↑k,F true,u208,u209,tr,ts,tu,tv,tw,tx,ty,u217,u218,u219,u220,u221,u222,u223,u224,u225,u226,u227,u228,u229,u230,u231,u232,u233,u234,u235,u236,u237,u238,u239,u240,u241,u242,u243,u244,u245,u246,u247,u248,u249,u250,u251,u252,u253,u254,u255,u256,u257,u258],defers:=[] }/\Hid ((D 0=true->Has V tr (.poly ee))/\(D 1=true->ts=Value.slice (some ⟨g1,0,none⟩) L.length am)/\(D 2=true->tu=Value.int IntKind.i64 ↑j)/\(D 3=true->tv=E (some ⟨g1,j*2,none⟩))/\(D 4=true->tw=E (some ⟨g1,j*2,none⟩))/\(D 5=true->tx=N #[C aj lj cj])/\(D 6=true->Has V ty (.poly ([1])))/\((D 7=false->x7=none)/\(D 7=true->D 8=false->∃B:Nat,tA=E (some ⟨B,0,none⟩)/\x7=some (B,.poly []))/\(D 8=true->∃B:Nat,tA=E (some ⟨B,0,none⟩)/\x7=some (B,.poly ([1])))))/\Hid (Mem w V [some (B1,.poly p),some (B2,.poly q),some (B3,.poly r),some (B6,.poly (Jm p q)),some (ah,.poly W),some (ai,.poly P),some (ak,.poly ee),x7])/\Hid (Eo V g1 am L j (C aj lj cj) ej))
                   ⟨_,_,_,_,_,_,_,_,none,rfl,Z ⟨O,O,O,O,O,O,O,O⟩,Z ((fb.o).none).drew,Z (XJ.o.drew)⟩ ?step51 ?fin51
                  case step51=>
                   as_aux_lemma=>
                    rintro D av V i ds dm hi ad aw ⟨tr,ts,tu,tv,tw,tx,ty,tA,x7,rfl,X,g,XX⟩;have Ws:i<9:=(Af.1 hi).1;obtain rfl|rfl|rfl|rfl|rfl|rfl|rfl|rfl|rfl:=LO i Y
                    all_goals
                     simp only[Aj,Ah,Al]at hi;subst hi
                    . clear ad;obtain⟨a,l,c,n,r⟩:=g.o.poly2 (i:=6) rfl;have e0:=n.cell;refine Zt ?_;exact⟨_,_,_,_,_,_,_,_,_,rfl,(Dc X λ_=>r),Z (g.o),Z (XX.o)⟩
                    . clear ad;refine Zt ?_;exact⟨_,_,_,_,_,_,_,_,_,rfl,(Dg X),Z (g.o),Z (XX.o)⟩
                    . clear ad;refine Zt ?_;exact⟨_,_,_,_,_,_,_,_,_,rfl,(DZ X),Z (g.o),Z (XX.o)⟩
                    . obtain rfl:=(X.o.2.1 (ad 1 O));obtain rfl:=(X.o.2.2.1 (ad 2 O));clear ad;refine Zt ?_;exact⟨_,_,_,_,_,_,_,_,_,rfl,(Dd (DZ (Dg X))),Z (g.o),Z (XX.o)⟩
                    . obtain rfl:=(X.o.2.2.2.1 (ad 3 O));clear ad;refine Zt ?_;exact⟨_,_,_,_,_,_,_,_,_,rfl,(Dt (Dd X)),Z (g.o),Z (XX.o)⟩
                    . obtain rfl:=(X.o.2.2.2.2.1 (ad 4 O));have e0:=XX.o.2.1;clear ad;refine Zt ?_;exact⟨_,_,_,_,_,_,_,_,_,rfl,(Dx (Dt X)),Z (g.o),Z (XX.o)⟩
                    . have h0:=(X.o.1 (ad 0 O));obtain rfl:=((Do X) (ad 5 O));have HC:=Z (CG.o V _ _ h0 ⟨_,rfl,XX.o.2.2⟩);clear ad h0;refine Jb rfl rfl λK hK=>?_;go_simp;go_wp2_with(go_at_call 8;refine HC.o.mono ?_;rintro e w5 ⟨v5,rfl,ay,af⟩)
                      obtain⟨G0,G1,G2,G3,G4,_,_,G7⟩:=X.o;exact⟨_,_,_,_,_,_,_,_,_,rfl,Z ⟨λh=>(G0 h).below af,G1,G2,G3,G4,λ_=>rfl,λ_=>ay,G7⟩,Z (g.o.below af),Z (XX.o.below af)⟩
                    . have hf:D 8=false:=DN dm aw;obtain rfl:=EF X aw;clear ad;refine Zt ?_;obtain⟨G0,G1,G2,G3,G4,G5,G6,_⟩:=X.o;exact⟨_,_,_,_,_,_,_,_,_,rfl,Z ⟨λh=>(G0 h).alloc _,G1,G2,G3,G4,G5,λh=>(G6 h).alloc _,⟨λh=>by simp at h,λ_ _=>⟨_,rfl,rfl⟩,λh=>by simp[hf]at h⟩⟩,Z (g.o.fill (i:=7) rfl (.poly []) (FT _)),Z (XX.o.alloc _)⟩
                    . obtain⟨B,rfl,rfl⟩:=ER X (ad 7 O) aw;have Qd:=ad 7 O;have hv:=((D3 X) (ad 6 O));obtain⟨a1,l1,c1,rfl⟩:=Jc.form (show Jc V _ _ from hv);obtain⟨a,l,c,n,r⟩:=g.o.poly2 (i:=7) rfl;have e0:=n.cell;have f0:=n.frozen;clear ad;refine Zt ?_;obtain⟨G0,G1,G2,G3,G4,G5,G6,_⟩:=X.o;exact⟨_,_,_,_,_,_,_,_,_,rfl,Z ⟨λh=>(G0 h).set1 n rfl _,G1,G2,G3,G4,G5,λh=>(G6 h).set1 n rfl _,⟨λh=>by simp[Qd]at h,λ_ h=>by simp at h,λ_=>⟨B,rfl,rfl⟩⟩⟩,Z (g.o.putPoly (i:=7) rfl hv),Z (XX.o.set1 n rfl _)⟩
                  rintro D av ji an ⟨tr,ts,tu,tv,tw,tx,ty,tA,x7,rfl,X,g,XX⟩;obtain⟨q8,rfl,rfl⟩:=X.o.2.2.2.2.2.2.2.2.2 (an 8 DL);obtain rfl:=X.o.2.1 (an 1 DL);obtain rfl:=X.o.2.2.1 (an 2 DL);obtain rfl:=X.o.2.2.2.1 (an 3 DL);obtain rfl:=X.o.2.2.2.2.1 (an 4 DL);obtain rfl:=Do X (an 5 DL);clear X an fb;have Qg:Hid (Mem w ji [some (B1,.poly p),some (B2,.poly q),some (B3,.poly r),some (B6,.poly (Jm p q)),some (ah,.poly W),some (ai,.poly P),some (ak,.poly ee),some (q8,.poly ([1]))]):=g;clear g;obtain⟨uu,wu,vk,sx,uf⟩:=Qg.o.poly2 (i:=7) rfl;have vt:=sx.cell;have U:=Z (T1.o ji _ uf (JT HT.o Qg.o.2.2));go_wp2_with(go_at_call 11;refine U.o.mono ?_;clear U;rintro e xm ⟨rfl,A⟩)
                  go_roundw
                  case rel=>exact⟨j+1,Y,by go_num,Z ((Qg.o.below A).take 7),Z (XX.o.1.below A)⟩
                  case measure=>simp[intOf];omega
                . have Zf:¬((j:Int)<(k:Int)):=Y
                  have M2:=fb;have Qa:=XL;clear fb XL;go_upto_region 38 with fail
                  go_loopw [35] (λmv wq=>∃(m:Nat) (P9:List Rat),m<=tt/\mv=Q R (m:Int)/\Hid (PrM L k ee m P9)/\Hid (Mem w wq [some (B1,.poly p),some (B2,.poly q),some (B3,.poly r),some (B6,.poly (Jm p q)),some (ah,.poly W),some (ai,.poly P9),some (ak,.poly ee)])/\Hid (D7 0 wq (C (some ⟨g1,0,none⟩) L.length am) L)) λmv _=>tt-(intOf mv).toNat
                  case atStart=>exact⟨0,P,AK _,rfl,Z (fa.o.start ee),M2,Qa⟩
                  case round=>
                   as_aux_lemma=>
                    clear M2 Qa fa Zf mn hj;obtain⟨m,P9,hm,rfl,fy,Qg,XL⟩:=hrel;obtain⟨g2,c2,bn,OT⟩:=Y5.toT XL.o (λe9=>by rw[e9]at ba;simp at ba);injection bn with h1 h2 h3
                    injection h1 with h1
                    injection h1 with h1
                    subst h1 h3;clear h2;obtain⟨_,_,x1,_⟩:=OT.2.2.2.2 k ee tt HE.o.2.2.2.2.2.2.2;have Ql:GI L k=(tt:Int):=by unfold GI;rw[HE.o.2.2.2.2.2.2.2]
                    rw[Ql]at x1;clear Ql OT;have wm:tt<=25:=by have:=HE.o.2.2.2.1;have:=Qf.o.2.1;omega
                    by_cases wl:m<tt
                    . have CT:Hid (∀(V:I) (x y:T),Jc V x P9->Jc V y ee->Calls Tryz.prog 9 #[x,y] V λe w'=>∃u,e=.returned u/\Jc w' u (Jo P9 ee)/\Bl V w'):=by
                       obtain⟨_,bt,_,_,tE,_,cE,e1⟩:=HE.o;obtain⟨kr,xh⟩:=fy.o.cd Qf.o.2.2 Qe.o.2.2.2 Qf.o.2.1 Qf.o.1 Qe.o.2.2.1 e1 hm;exact Z λV x y hx hy=>KF x y P9 ee V hx hy (kr.sqs Y) (cE.sqs Y) (kr.times cE Y) Y
                      have Zn:(m:Int)<(tt:Int):=Y
                      obtain⟨uv,wv,vl,bz,pr⟩:=Qg.o.poly2 (i:=5) rfl;have Qq:=bz.cell;have Qn:=bz.frozen;obtain⟨uw,ww,vm,ow,pt⟩:=Qg.o.poly2 (i:=6) rfl;have Um:=ow.cell;have U:=Z (CT.o wr _ _ pr pt);go_upto_region 39 with(go_at_call 9;refine U.o.mono ?_;clear U;rintro e q6 ⟨u40,rfl,ij,hq⟩;obtain⟨gk,iw,gp,rfl⟩:=Jc.form ij;clear Qq;have Qq:=(boxed_below bz hq).cell;clear Qn;have Qn:=(boxed_below bz hq).frozen)
                      have Qa:=Z ((XL.o.below hq).set1 (boxed_below bz hq) rfl (C gk iw gp));obtain⟨qg,hV⟩:=ex (q6.setCell ⟨ai,0,none⟩ (C gk iw gp));have g:Mem w (q6.setCell ⟨ai,0,none⟩ (C gk iw gp)) [some (B1,.poly p),some (B2,.poly q),some (B3,.poly r),some (B6,.poly (Jm p q)),some (ah,.poly W),some (ai,.poly (Jo P9 ee)),some (ak,.poly ee)]:=Mem.putPoly (Qg.o.below hq) (i:=5) rfl ij;rw[hV]at g;rw[hV]at Qa;rw[hV];have Zh:Hid (Mem w qg [some (B1,.poly p),some (B2,.poly q),some (B3,.poly r),some (B6,.poly (Jm p q)),some (ah,.poly W),some (ai,.poly (Jo P9 ee)),some (ak,.poly ee)]):=Z (g);clear Qg;clear g hV;clear ij hq Qn x1;clear bz Qq pr ow Um pt;go_wp2_with fail
                      go_roundw
                      case rel=>exact⟨m+1,Jo P9 ee,Y,by go_num,Z (fy.o.next HE.o.2.2.2.2.1 (λe9=>by have:=HE.o.1;rw[e9]at this;simp at this) (Do HE)),Zh,Qa⟩
                      case measure=>simp[intOf];omega
                    . have Zn:¬((m:Int)<(tt:Int)):=Y
                      obtain rfl:m=tt:=Y
                      go_wp2_with fail
                      go_roundw
                      case rel=>exact⟨k+1,P9,Y,by go_num,Z (fy.o.fin HE.o.2.2.2.2.2.2.2),Z (Qg.o.take 6),XL⟩
                      case measure=>simp[intOf];omega
          . have wi:¬((k:Int)<(L.length:Int)):=Y
            obtain rfl:k=L.length:=Y
            obtain rfl:P=Jp W:=fa.o.whole Qe.o.2.2.1;clear fa;have CS:Hid (∀(V:I) (x y:T),Jc V x W->Jc V y (Jp W)->Calls Tryz.prog 22 #[x,y] V λe w'=>∃u v,e=.returned (.tuple #[u,v,F true])/\Jc w' u (Jt W (Jp W))/\Jc w' v []/\Bl V w'):=by
             obtain⟨cW,lW,tW⟩:=Qf.o;have W0:=Qe.o.2.2.2;refine Z λV x y hx hy=>?_;have:=KG 75 80 x y W (Jp W) V hx hy cW ((cW.mon tW).mono Y) tW (Yu _) (LB tW W0) Y;rwa[(RX tW W0).2]at this
            obtain⟨ux,wy,vn,ox,pu⟩:=ck.o.poly2 (i:=4) rfl;have Wh:=ox.cell;have U:=Z (Qc.o wr _ W pu);obtain⟨dW,dt⟩:=ex ((W.length:Int)-1:Int);rw[dt]at U;have f1:¬dW<0:=by have:=Ai.2 Qe.o.2.2.2;omega
            clear dt;go_upto_region 43 with(go_at_call 20;refine U.o.mono ?_;clear U;rintro e q7 ⟨rfl,A⟩)
            clear ox Wh pu;have Qo:Hid (Mem w q7 [some (B1,.poly p),some (B2,.poly q),some (B3,.poly r),some (B6,.poly (Jm p q)),some (ah,.poly W),some (ai,.poly (Jp W))]):=Z (ck.o.below A);clear ck;clear A XL ba;obtain⟨uy,wz,vo,oy,pv⟩:=Qo.o.poly2 (i:=4) rfl;have Up:=oy.cell;obtain⟨uz,xe,vp,oz,px⟩:=Qo.o.poly2 (i:=5) rfl;have Ud:=oz.cell;have U:=Z (CS.o q7 _ _ pv px);go_upto_region 44 with(go_at_call 22;refine U.o.mono ?_;clear U CS;rintro e f8 ⟨u51,xk,rfl,ik,ir,m7⟩;obtain⟨jw,nr,ko,rfl⟩:=Jc.form ik;obtain⟨jx,ns,kp,rfl⟩:=Jc.form ir)
            clear oy Up pv oz Ud px;have g:=Mem.push (Mem.push (Qo.o.below m7) (.poly (Jt W (Jp W))) ik) (.poly ([])) (Has.alloc (d:=.poly ([])) ir _);simp only[BA]at g;have g:Mem w ((f8.alloc (G #[C jw nr ko] 25)).alloc (G #[C jx ns kp] 25)) [some (B1,.poly p),some (B2,.poly q),some (B3,.poly r),some (B6,.poly (Jm p q)),some (ah,.poly W),some (ai,.poly (Jp W)),some (f8.heap.size,.poly (Jt W (Jp W))),some (f8.heap.size+1,.poly ([]))]:=g;obtain⟨bj,hV⟩:=ex ((f8.alloc (G #[C jw nr ko] 25)).alloc (G #[C jx ns kp] 25));obtain⟨jc,ae⟩:=ex (f8.heap.size);rw[hV,ae]at g;rw[hV];rw[ae];obtain⟨qb,ku⟩:=ex (jc+1);rw[ku]at g ⊢;have Qb:Hid (Mem w bj [some (B1,.poly p),some (B2,.poly q),some (B3,.poly r),some (B6,.poly (Jm p q)),some (ah,.poly W),some (ai,.poly (Jp W)),some (jc,.poly (Jt W (Jp W))),some (qb,.poly ([]))]):=Z (g);clear Qo;clear g hV ae ku;clear ik ir m7;obtain⟨vd,xf,vq,sy,ug⟩:=Qb.o.poly2 (i:=6) rfl;have vu:=sy.cell;obtain⟨ve,xg,vr,p5,uh⟩:=Qb.o.poly2 (i:=7) rfl;have Qs:=p5.cell;have U:=Z (Qc.o bj _ _ ug);have H2:=Z λ(V:I) (h:Bl bj V)=>Qc.o V _ _ (uh.below h);rw[(RX Qf.o.2.2 Qe.o.2.2.2).1]at U;have Qt:=Z (show F4 bj from JT HT.o Qb.o.2.2);have H3:=Z λ(V:I) (h:Bl bj V)=>AL.o V (JT Qt.o h);have HQ:=Z λ(V:I) (h:Bl bj V)=>(p5.bel h).cell;have hq:Bl bj bj:=BE _ _;go_wp2_with(first
             |(go_at_call 20;refine U.o.mono ?_;clear U;rintro e x1 ⟨rfl,A⟩;replace hq:=Bt hq A;clear A Qs;have Qs:=HQ.o _ hq)
             |(go_at_call 20;refine(H2.o _ hq).mono ?_;clear H2;rintro e x2 ⟨rfl,A⟩;replace hq:=Bt hq A;clear A)
             |(go_at_call 15;refine(H3.o _ hq).mono ?_;clear H3;rintro e x3 ⟨rfl,A⟩;replace hq:=Bt hq A;clear A))
            go_ret;exact⟨rfl,Bt Qb.o.2.2 hq⟩
end M3
