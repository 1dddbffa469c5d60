import Derived.Test.YtakpoihdghihmaaGreatDoorR52
open Go renaming undef->E,World->H
open Go.Value renaming slice->F,bool->G,string->I
set_option maxRecDepth 100000
set_option maxHeartbeats 16000000
namespace Go.Proofs.YtakpoihdghihmaaGreatDoor.M3
open Go.RowKit Go.Shelf
attribute [local go_sem] Oper.semAt_some
theorem iQ(s t a b:ByteArray)(w:H):
 Calls Tryz.prog 7 #[I s,I t,I a,I b] w λr M=>r=.returned (G true)/\Bl w M:=by
 have Ui:Tryz.prog.follows .mixedOrders=true:=by kernel_rfl
 have cP:=SU (Ji s);have cQ:=SU (Ji t);have lP:=(RJ (Ji s)).1;have lQ:=(RJ (Ji t)).1;have tP:=SS (Ji s);have tQ:=SS (Ji t);have Uc:=Ja λ(V:H)=>ST s V;have Qq:=Ja λ(V:H)=>ST t V;obtain⟨p,hp⟩:=ex ((YG (Ji s)).1);obtain⟨q,hq⟩:=ex ((YG (Ji t)).1);rw[hp]at cP lP tP Uc;rw[hq]at cQ lQ tQ Qq;have Qp:Cd 41 (Js p q):=(cP.mul cQ).mono Y;have Qs:(Js p q).length<=17:=by
  by_cases p0:p=[]
  . rw[p0];exact AO _
  . by_cases q0:q=[]
    . rw[q0,YX];exact AO _
    . have:=JA tP tQ p0 q0;omega
 have Ud:I5 p q:=cP.times cQ Y;have sP:=cP.sqs Y;have sQ:=cQ.sqs Y;have C2:=Ja λ(V:H) (x y:Value) (hx:Je V x p) (hy:Je V y q)=>fZ x y p q V hx hy sP sQ Ud Y;have Qv:=J2 p q;obtain⟨z,hz⟩:=ex (Js p q);rw[hz]at Qp Qs C2 Qv;obtain⟨j,Qd,AL⟩:=Df (show Cd 41 z/\z.length<=17/\Jd z=z from⟨Qp,Qs,Qv⟩) (λ(V:H) (x:Value) (hx:Je V x z)=>JX x z V hx) λ(V:H)=>fQ V;have M1:Hid (Mem w w []):=Ja (Mem.nil w);clear cP cQ lP lQ tP tQ hp hq Qp Qs Ud sP sQ Qv hz;go_enter Tryz.func7,Tryz.ntmps7
 go_upto_region 2 with(go_at_call 8;refine(Uc.o _).mono ?_;clear Uc;rintro e w1 ⟨u1,rfl,aw,bu⟩;obtain⟨aj,az,am,rfl⟩:=Je.form aw)
 obtain⟨V1,hV⟩:=ex (w1.alloc (.cells #[F aj az am] 25));obtain⟨B1,an⟩:=ex (w1.heap.size);have X:Mem w (w1.alloc (.cells #[F aj az am] 25)) [some (w1.heap.size,.poly p)]:=Mem.push (M1.o.below bu) (.poly p) aw;rw[hV,an]at X;rw[hV];rw[an];have M2:Hid (Mem w V1 [some (B1,.poly p)]):=Ja (X);clear M1;clear X hV an;clear aw bu;refine Jm Ui [[],[],[1],[0,2,2],[3,3,0,1,2,3]] (by kernel_rfl) DF
  (λD ak V=>∃(ta tb tc td:Value) (y0:Option (Nat × Dat)),ak={ tmps:=#[I s,I t,I a,I b,E,E,E,E,G false,.pointer (some ⟨B1,0,none⟩),E,E,E,E,E,E,E,E,E,I s,.agg #[F aj az am],ta,tb,tc,td,E,E,E,E,E,E,E,E,E,E,E,E,E,E,E,E,E,E,E,E,E,E,E,E,E,E,E,E,E,E,E,E,E,E,E,E,E,E,E,E,E,E,E,E,E,E,E,E,E,E,E,E,E,E,E,E,E,E,E,E,E,E,E,E,E,E,E,E,E,E,E,E,E,E,E,E,E,E,E,E,E,E,E,E],defers:=[] }/\Hid ((D 0=true->Has V ta (.poly p))/\(D 1=true->tb=Value.string t)/\(D 2=true->Has V tc (.poly q))/\(D 3=true->Has V td (.poly z))/\((D 4=false->y0=some (B1,.poly p))/\(D 4=true->y0=some (B1,.poly z))))/\Hid (Mem w V [y0]))
  ⟨_,_,_,_,_,rfl,Ja ⟨O,O,O,O,⟨λ_=>rfl,O⟩⟩,Ja (M2.o).drew⟩ ?step2 ?fin2
 case step2=>
  rintro D ak V i ds dh hi ad bh ⟨ta,tb,tc,td,y0,rfl,g,X⟩;have dk:i<5:=(Ac.1 hi).1;obtain rfl|rfl|rfl|rfl|rfl:=Hi i Y
  all_goals
   simp only[Af,Ae,Ai]at hi;subst hi
  . have hf:D 4=false:=DG dh bh;obtain rfl:=g.o.2.2.2.2.1 hf;clear ad;obtain⟨a,l,c,n,r⟩:=X.o.poly2 (i:=0) rfl;have N:=n.cell;refine Za ?_;exact⟨_,_,_,_,_,rfl,Ja ⟨λ_=>r,g.o.2.1,g.o.2.2.1,g.o.2.2.2.1,⟨λ_=>rfl,λh=>by simp[hf]at h⟩⟩,Ja (X.o)⟩
  . clear ad;refine Za ?_;exact⟨_,_,_,_,_,rfl,(Di g),Ja (X.o)⟩
  . obtain rfl:=(g.o.2.1 (ad 1 O));have HC:=Ja (Qq.o V);clear ad;refine Jc rfl rfl λK hK=>?_;go_simp;go_wp2_with(go_at_call 8;refine HC.o.mono ?_;rintro e w5 ⟨v5,rfl,ay,ae⟩)
    exact⟨_,_,_,_,_,rfl,Ja ⟨λh=>(g.o.1 h).below ae,λ_=>rfl,λ_=>ay,λh=>(g.o.2.2.2.1 h).below ae,g.o.2.2.2.2⟩,Ja (X.o.below ae)⟩
  . have h0:=(g.o.1 (ad 0 O));have h1:=(g.o.2.2.1 (ad 2 O));have HC:=Ja (C2.o V _ _ h0 h1);clear ad h0 h1;refine Jc rfl rfl λK hK=>?_;go_simp;go_wp2_with(go_at_call 9;refine HC.o.mono ?_;rintro e w5 ⟨v5,rfl,ay,ae⟩)
    exact⟨_,_,_,_,_,rfl,Ja ⟨λh=>(g.o.1 h).below ae,g.o.2.1,λh=>(g.o.2.2.1 h).below ae,λ_=>ay,g.o.2.2.2.2⟩,Ja (X.o.below ae)⟩
  . obtain rfl:=g.o.2.2.2.2.1 bh;have hv:=(g.o.2.2.2.1 (ad 3 O));obtain⟨a1,l1,c1,rfl⟩:=Je.form (show Je V _ _ from hv);obtain⟨a,l,c,n,r⟩:=X.o.poly2 (i:=0) rfl;have N:=n.cell;have f0:=n.frozen;clear ad;refine Za ?_;exact⟨_,_,_,_,_,rfl,Ja ⟨λh=>(g.o.1 h).set1 n rfl _,g.o.2.1,λh=>(g.o.2.2.1 h).set1 n rfl _,λh=>(g.o.2.2.2.1 h).set1 n rfl _,⟨λh=>by simp at h,λ_=>rfl⟩⟩,Ja (X.o.putPoly (i:=0) rfl hv)⟩
 rintro D ak V3 ap ⟨ta,tb,tc,td,y0,rfl,g,X⟩;obtain rfl:=g.o.2.2.2.2.2 (ap 4 DF);obtain rfl:=g.o.2.1 (ap 1 DF);clear g ap M2 C2 Qq;obtain⟨a1,l1,c1,n1,r1⟩:=X.o.poly2 (i:=0) rfl;have Qh:=Ja X.o.2.2;have N1:=Ja (And.intro n1 r1);clear X n1 r1;have hq:=BF V3.heap.size V3;have N:=N1.o.1.cell;by_cases z0:z=[]
 . rw[z0,show(([]:List Rat).length:Int)-1=-1 from rfl]at Qd;rw[z0]at N1;clear z0 j;go_wp2_with(first
    |(go_at_call 30;refine(Qd.o _ _ (N1.o.2.below hq)).mono ?_;clear Qd;rintro e v1 ⟨rfl,f⟩;have hq:=Bt hq f;clear f)
    |(go_at_call 22;refine(AL.o _).mono ?_;clear AL;rintro e v3 ⟨rfl,f⟩;have hq:=Bt hq f;clear f))
   go_ret;exact⟨rfl,Bt Qh.o hq⟩
 . obtain⟨L,bj,bk,⟨kk,aq⟩,bi⟩:=iP j.o.2.2 z0 j.o.2.1 j.o.1;obtain⟨GP,Qj,Qe⟩:=Df bi bk bj;have Qz:CtOk 42 2000 z:=Ok j.o.2.2 j.o.1 j.o.2.1 DF Y DF;have CH:=Ja λ(V:H) (u:Value) (hu:Je V u z)=>SH u z V hu (j.o.1.sqs Y) (by have:=j.o.2.1;omega);have Qf:=XC z.reverse;rw[List.length_reverse]at Qf;have Uf:=Ja (show sI L+2*(kk:Int)<=17 by rw[<-aq];have:=j.o.2.1;omega);rw[aq]at CH;have AZ:=Ja λ(V:H) (u:Value) (hu:Je V u z)=>MP 42 2000 u z V hu Qz;have Qm:=Ja Qz;obtain⟨m,hm⟩:=ex (z.length-1:Nat);have Ue:(z.length:Int)-1=(m:Int):=by have:=Ag.2 z0;omega
   have dt:¬(m:Int)<0:=Y
   rw[Ue]at Qd;have HM:=Ja (show z.length=m+1 by have:=Ag.2 z0;omega);have Qk:=Ja z0;have Qa:=Qd;clear bi bk bj aq Qf Qz hm Ue z0;go_upto_region 5 with(go_at_call 30;refine(Qd.o _ _ (N1.o.2.below hq)).mono ?_;clear Qd;rintro e v1 ⟨rfl,f⟩;have hq:=Bt hq f;clear f)
   clear N;go_upto_region 6 with fail
   have Qn:Bl v1 (v1.alloc (.cells #[G false,F none 0 0,G false,F none 0 0] 37)):=Ba v1 _;have n5:=JL.new v1 37 (G false) (F none 0 0) (G false) (F none 0 0);obtain⟨V5,bl⟩:=ex (v1.alloc (.cells #[G false,F none 0 0,G false,F none 0 0] 37));rw[bl]at Qn n5 ⊢;obtain⟨B5,ba⟩:=ex (v1.heap.size);replace hq:=Bt hq Qn
   rw[ba]at n5 ⊢;have n1:=boxed_below N1.o.1 hq;have r1:=N1.o.2.below hq;have hw:=Bt Qh.o hq;clear bl ba Qn hq N1 Qh;have N:=n1.cell;go_upto_region 7 with(go_at_call 37;refine(GP.o _ _ r1).mono ?_;clear GP;rintro e w6 ⟨u6,rfl,gL,af⟩;obtain⟨a6,c6,rfl,df,di⟩:=gL.form)
   have N1:=Ja (And.intro (boxed_below n1 af) (And.intro (r1.below af) (And.intro (n5.below af) (And.intro gL (Bt hw af)))));clear n1 r1 n5 hw gL af N df di;go_upto_region 9 with fail
   go_loopw [12,13] (λnv iv wr=>∃k:Nat,k<=L.length/\nv=.int .i64 (sI (L.take k))/\iv=.int .i64 (k:Int)/\Hid (Bl w6 wr)) λ_ iv _=>L.length-(intOf iv).toNat
   case atStart=>exact⟨0,AO _,rfl,rfl,Ja (BF _ _)⟩
   case round=>
    obtain⟨k,hk,rfl,rfl,HB⟩:=hrel;by_cases ah:k<L.length
    . obtain⟨⟨ee,tt⟩,e1⟩:∃x,L[k]?=some x:=⟨_,Am ah⟩;obtain⟨g1,cc,de,T1⟩:=D8.toT (N1.o.2.2.2.1.below HB.o) (λe9=>by rw[e9]at ah;simp at ah);injection de with h1 h2 h3
      subst h1 h3;clear h2;obtain⟨x,x0,x1,rx⟩:=T1.2.2.2.2 k ee tt e1;have Ug:MV L k=(tt:Int):=by unfold MV;rw[e1]
      rw[Ug]at x1;obtain⟨tE,E0,lE,t1,cE⟩:=Qj.o (ee,tt) (List.mem_of_getElem? e1);obtain⟨a9,l9,c9,rfl⟩:=rx.form;have rE:Je wr (.agg #[F a9 l9 c9]) ee:=⟨_,rfl,rx⟩;have Ql:CtOk 81 2000 ee:=Ok tE cE lE DF Y DF;have H1:=Ja λ(V:H) (h:Bl wr V)=>MP 81 2000 _ ee V (rE.below h) Ql;have H2:=Ja λ(V:H) (h:Bl wr V)=>SG 81 2000 _ _ ee 0 V (rE.below h) (X0 V) Ql (DT.zero _ Y);have dp:¬((k:Int)<0):=Y
      have dj:(k:Int)<(L.length:Int):=Y
      have Qx:=T1.lt;have bx:=N1.o.2.2.1.below HB.o;have HC:=Ja λ(V:H) (h:Bl wr V)=>show V.cell? ⟨g1,k*2,none⟩=some (F a9 l9 c9)/\V.cell? ⟨g1,k*2+1,none⟩=some (.int .i64 (tt:Int))/\V.cell? ⟨B5,0,none⟩=_/\V.cell? ⟨B5,1,none⟩=_/\V.cell? ⟨B5,2,none⟩=_/\V.cell? ⟨B5,3,none⟩=_ from⟨(h.cell (p:=⟨g1,_,none⟩) Qx).trans x0,(h.cell (p:=⟨g1,_,none⟩) Qx).trans x1,(bx.below h).c0,(bx.below h).c1,(bx.below h).c2,(bx.below h).c3⟩;obtain⟨⟨b1,b2⟩,b3,b4⟩:=Sl E0 lE t1;have bs:=Sn (L:=L.take k) (λs hs=>by obtain⟨_,h1,h2,h3,_⟩:=Qj.o s (Fu hs);exact⟨h1,h2,h3⟩);rw[Al,CK hk]at bs;have HS:=Ja (iJ e1);have Qi:Eb ee-Hh ee 0=GJ ee:=rfl;obtain⟨A,hA⟩:=ex (Eb ee);obtain⟨B,hB⟩:=ex (Hh ee 0);obtain⟨C,hC⟩:=ex (GJ ee);obtain⟨S,hS⟩:=ex (sI (L.take k));rw[hA]at H1 Qi;rw[hB]at H2 Qi;rw[hC]at b1 b2 b3 b4 Qi HS;rw[hS]at bs HS ⊢;have Qc:=Qe.o;obtain⟨ai,hY⟩:=ex (C*(tt:Int):Int);rw[hY]at b3 b4 HS;have f1:IntKind.i64.wrap (A-B)=C:=by rw[Qi,BO];omega
      have f2:IntKind.i64.wrap (C*(tt:Int))=ai:=by rw[hY,BO];omega
      have f3:IntKind.i64.wrap (S+ai)=S+ai:=by rw[BO];omega
      have f4:IntKind.i64.wrap ((k:Int)+1)=(k:Int)+1:=by rw[BO];omega
      clear x0 x1 rx Ug tE E0 lE t1 cE Ql rE e1 T1 Qx bx b1 b2 b3 b4 bs Qi hA hB hC hS Qc hY;go_upto_region 11 with fail
      have hq:Bl wr wr.drew:=(BF _ wr).drew;obtain⟨P,Q,R,T,U,W⟩:=HC.o _ hq;go_region_held3 (λM=>M.cell? ⟨g1,k*2,none⟩=some (F a9 l9 c9)/\M.cell? ⟨g1,k*2+1,none⟩=some (.int .i64 (tt:Int))/\M.cell? ⟨B5,0,none⟩=some (G false)/\M.cell? ⟨B5,1,none⟩=some (F none 0 0)/\M.cell? ⟨B5,2,none⟩=some (G false)/\M.cell? ⟨B5,3,none⟩=some (F none 0 0)) (first|(with_reducible exact⟨P,Q,R,T,U,W⟩)|(go_keep;done))
       (first
        |(go_at_call 13;refine(H1.o _ hq).mono ?_;clear H1;rintro e v5 ⟨rfl,o⟩;replace hq:=Bt hq o;clear o P Q R T U W;obtain⟨P,Q,R,T,U,W⟩:=HC.o _ hq)
        |(go_at_call 15;refine(H2.o _ hq).mono ?_;clear H2;rintro e v6 ⟨rfl,o⟩;replace hq:=Bt hq o;clear o P Q R T U W;obtain⟨P,Q,R,T,U,W⟩:=HC.o _ hq))
      go_wp2_with fail
      go_roundw
      case rel=>exact⟨k+1,Y,by rw[HS.o],by go_num,Ja (Bt HB.o hq)⟩
      case measure=>simp[intOf];omega
    . have dm:¬((k:Int)<(L.length:Int)):=Y
      obtain rfl:k=L.length:=Y
      have n1:=boxed_below N1.o.1 HB.o;have r1:=N1.o.2.1.below HB.o;have hw:=Bt N1.o.2.2.2.2 HB.o;have bs:=Sn (L:=L) (λs hs=>by obtain⟨_,h1,h2,h3,_⟩:=Qj.o s hs;exact⟨h1,h2,h3⟩);have Qc:=Qe.o;have Qf:=Uf.o;rw[List.take_length];obtain⟨S,hS⟩:=ex (sI L);obtain⟨c,hc⟩:=ex (S+2*(kk:Int):Int);rw[hS]at bs CH Qf ⊢;rw[hc]at CH Qf;have f1:¬c<S:=Y
      have f2:IntKind.i64.wrap (c-S)=2*(kk:Int):=by rw[BO];omega
      have f3:(2*(kk:Int)).tmod 2=0:=Int.mul_tmod_right 2 _;obtain⟨d,hd⟩:∃A:Int,2*(kk:Int)=A:=⟨_,rfl⟩;rw[hd]at f2 f3;clear N1 HB bs Qc Qf hS hc hd ah hk Qj Qe Uf;have hq:=BF wr.heap.size wr;have N:=n1.cell;have HN:=Ja (And.intro n1 r1);have HQ:=Ja hw;clear n1 r1 hw;by_cases da:m=0
      . have Uh:(m:Int)<1:=Y
        rw[iL (show z.length=1 by have:=HM.o;omega)]at AZ;clear da HM j Qk Qm;go_wp2_with(first
         |(go_at_call 18;refine(CH.o _ _ (HN.o.2.below hq)).mono ?_;clear CH;rintro e v1 ⟨rfl,f⟩;have hq:=Bt hq f;clear f N;have N:=(boxed_below HN.o.1 hq).cell)
         |(go_at_call 30;refine(Qa.o _ _ (HN.o.2.below hq)).mono ?_;clear Qa;rintro e v2 ⟨rfl,f⟩;have hq:=Bt hq f;clear f N;have N:=(boxed_below HN.o.1 hq).cell)
         |(go_at_call 13;refine(AZ.o _ _ (HN.o.2.below hq)).mono ?_;clear AZ;rintro e v3 ⟨rfl,f⟩;have hq:=Bt hq f;clear f N;have N:=(boxed_below HN.o.1 hq).cell)
         |(go_at_call 22;refine(AL.o _).mono ?_;clear AL;rintro e v4 ⟨rfl,f⟩;have hq:=Bt hq f;clear f))
        go_ret;exact⟨rfl,Bt HQ.o hq⟩
      . have Uh:¬(m:Int)<1:=Y
        have Ub:1<z.length:=by have:=HM.o;omega
        have cS:Cd 42 (Jb z):=j.o.1.slope (by have:=j.o.2.1;omega);have lS:(Jb z).length<=17:=An (SV z) j.o.2.1;have Qo:CtOk 43 2000 (Jb z):=Ok (Jr z) cS lS DF Y DF;have SL:=Ja λ(V:H) (u:Value) (hu:Je V u z)=>Lx u z V hu (j.o.1.sqs Y) (ON cS Y);have vA:=RA (Ji a);have vB:=RA (Ji b);have Qy:=Ja λ(V:H)=>RG a V;have Ua:=Ja λ(V:H)=>RG b V;obtain⟨x,hx⟩:=ex (Em (Ji a));obtain⟨y,hy⟩:=ex (Em (Ji b));rw[hx]at vA Qy;rw[hy]at vB Ua;obtain⟨AS,BS,BZ⟩:=Df (λ(V:H) (u:Value) (hu:Je V u (Jb z))=>MP 43 2000 u (Jb z) V hu Qo) (λ(V:H) (u v v':Value) (hu:Je V u (Jb z)) (hv:Jh V v x) (ax:Jh V v' y)=>SI 43 2000 u v v' (Jb z) x y V hu hv ax Qo vA vB) λ(V:H) (u v v':Value) (hu:Je V u z) (hv:Jh V v x) (ax:Jh V v' y)=>SI 42 2000 u v v' z x y V hu hv ax Qm.o vA vB;have g1:=iM j.o.2.2 Ub;have g2:=iN j.o.2.2 Ub x y;have g3:=ff Qk.o j.o.2.1;have g4:=iO Qk.o j.o.2.1 x y;obtain⟨i1,cl⟩:=ex (Eb z);obtain⟨i2,cn⟩:=ex (Eb (Jb z));obtain⟨i3,co⟩:=ex (FT z x y);obtain⟨i4,ct⟩:=ex (FT (Jb z) x y);rw[cl]at AZ g1 g3;rw[cn]at AS g1;rw[co]at BZ g2 g4;rw[ct]at BS g2;obtain⟨d1,cj⟩:=ex (i1-1);obtain⟨d2,ck⟩:=ex (i3-1);have f5:IntKind.i64.wrap (i1-1)=d1:=by rw[BO];omega
        have f6:IntKind.i64.wrap (i3-1)=d2:=by rw[BO];omega
        rw[cj]at g1;rw[ck]at g2;clear da HM j Qk Qm Ub cS lS Qo vA vB hx hy g3 g4 cl cn co ct cj ck;go_upto_region 18 with(first
         |(go_at_call 18;refine(CH.o _ _ (HN.o.2.below hq)).mono ?_;clear CH;rintro e v1 ⟨rfl,f⟩;have hq:=Bt hq f;clear f N;have N:=(boxed_below HN.o.1 hq).cell)
         |(go_at_call 30;refine(Qa.o _ _ (HN.o.2.below hq)).mono ?_;clear Qa;rintro e v2 ⟨rfl,f⟩;have hq:=Bt hq f;clear f N;have N:=(boxed_below HN.o.1 hq).cell))
        go_upto_region 19 with(go_at_call 38;refine(SL.o _ _ (HN.o.2.below hq)).mono ?_;clear SL;rintro e wS ⟨uS,rfl,gS,bz⟩;obtain⟨aS,lS,cS,rfl⟩:=gS.form)
        have Qr:Bl wS (wS.alloc (.cells #[F aS lS cS] 25)):=Ba wS _;have nS:=BG wS 25 (F aS lS cS);have rS:=gS.below Qr;have Qw:=Bt bz Qr
        obtain⟨VS,bm⟩:=ex (wS.alloc (.cells #[F aS lS cS] 25));rw[bm]at nS rS Qw ⊢;obtain⟨db,bc⟩:∃B,wS.heap.size=B:=⟨_,rfl⟩;rw[bc]at nS ⊢;replace hq:=Bt hq Qw
        clear bm bc gS Qr bz Qw N;go_upto_region 20 with(go_at_call 12;refine(Qy.o _).mono ?_;clear Qy;rintro e wX ⟨uX,rfl,gX,ce⟩;obtain⟨sX,aX,lX,cX,tX,bX,kX,dX,rfl⟩:=Jh.form gX)
        have Qu:Bl wX (wX.alloc (.cells #[G sX,F aX lX cX,G tX,F bX kX dX] 37)):=Ba wX _;have nX:=JL.new wX 37 (G sX) (F aX lX cX) (G tX) (F bX kX dX);have rX:=gX.below Qu;have Qg:=Bt ce Qu
        obtain⟨VX,bn⟩:=ex (wX.alloc (.cells #[G sX,F aX lX cX,G tX,F bX kX dX] 37));rw[bn]at nX rX Qg ⊢;obtain⟨BX,bf⟩:=ex (wX.heap.size);rw[bf]at nX ⊢;replace hq:=Bt hq Qg
        replace nS:=boxed_below nS Qg;replace rS:=rS.below Qg;clear bn bf gX Qu ce Qg;go_upto_region 21 with(go_at_call 12;refine(Ua.o _).mono ?_;clear Ua;rintro e wY ⟨uY,rfl,gY,ci⟩;obtain⟨sY,aY,lY,cY,tY,bY,kY,dY,rfl⟩:=Jh.form gY)
        have Qt:Bl wY (wY.alloc (.cells #[G sY,F aY lY cY,G tY,F bY kY dY] 37)):=Ba wY _;have nY:=JL.new wY 37 (G sY) (F aY lY cY) (G tY) (F bY kY dY);have rY:=gY.below Qt;have Qb:=Bt ci Qt
        obtain⟨VY,bt⟩:=ex (wY.alloc (.cells #[G sY,F aY lY cY,G tY,F bY kY dY] 37));rw[bt]at nY rY Qb ⊢;obtain⟨BY,bg⟩:=ex (wY.heap.size);rw[bg]at nY ⊢;replace hq:=Bt hq Qb
        replace nS:=boxed_below nS Qb;replace rS:=rS.below Qb;replace nX:=nX.below Qb;replace rX:=rX.below Qb;have n1:=boxed_below HN.o.1 hq;have r1:=HN.o.2.below hq;have HW:=Ja (Bt HQ.o hq);clear bt bg gY Qt ci Qb hq HN HQ;obtain⟨HC,H1,H2,H3,H4⟩:=Gh (λ(V:H) (h:Bl VY V)=>show(V.cell? _=_/\V.cell? _=_)/\(V.cell? ⟨BX,0,none⟩=_/\V.cell? ⟨BX,1,none⟩=_/\V.cell? ⟨BX,2,none⟩=_/\V.cell? ⟨BX,3,none⟩=_)/\(V.cell? ⟨BY,0,none⟩=_/\V.cell? ⟨BY,1,none⟩=_/\V.cell? ⟨BY,2,none⟩=_/\V.cell? ⟨BY,3,none⟩=_)from⟨⟨(boxed_below n1 h).cell,(boxed_below nS h).cell⟩,⟨(nX.below h).c0,(nX.below h).c1,(nX.below h).c2,(nX.below h).c3⟩,⟨(nY.below h).c0,(nY.below h).c1,(nY.below h).c2,(nY.below h).c3⟩⟩) (λ(V:H) (h:Bl VY V)=>AS.o V _ (rS.below h)) (λ(V:H) (h:Bl VY V)=>AZ.o V _ (r1.below h)) (λ(V:H) (h:Bl VY V)=>BS.o V _ _ _ (rS.below h) (rX.below h) (rY.below h)) λ(V:H) (h:Bl VY V)=>BZ.o V _ _ _ (r1.below h) (rX.below h) (rY.below h);clear AS AZ BS BZ n1 r1 nS rS nX rX nY rY;have hq:Bl VY VY.drew:=(BF _ VY).drew;obtain⟨⟨P,Q⟩,⟨R,T,U,W⟩,k6,k7,k8,k9⟩:=HC.o _ hq;go_region_held3 (λM=>(M.cell? ⟨B1,0,none⟩=some (F a1 l1 c1)/\M.cell? ⟨db,0,none⟩=some (F aS lS cS))/\(M.cell? ⟨BX,0,none⟩=some (G sX)/\M.cell? ⟨BX,1,none⟩=some (F aX lX cX)/\M.cell? ⟨BX,2,none⟩=some (G tX)/\M.cell? ⟨BX,3,none⟩=some (F bX kX dX))/\(M.cell? ⟨BY,0,none⟩=some (G sY)/\M.cell? ⟨BY,1,none⟩=some (F aY lY cY)/\M.cell? ⟨BY,2,none⟩=some (G tY)/\M.cell? ⟨BY,3,none⟩=some (F bY kY dY))) (first|(with_reducible exact⟨⟨P,Q⟩,⟨R,T,U,W⟩,k6,k7,k8,k9⟩)|(go_keep;done))
         (first
          |(go_at_call 13;refine(H1.o _ hq).mono ?_;clear H1;rintro e dx ⟨rfl,o⟩;replace hq:=Bt hq o;clear o P Q R T U W k6 k7 k8 k9;obtain⟨⟨P,Q⟩,⟨R,T,U,W⟩,k6,k7,k8,k9⟩:=HC.o _ hq)
          |(go_at_call 13;refine(H2.o _ hq).mono ?_;clear H2;rintro e dz ⟨rfl,o⟩;replace hq:=Bt hq o;clear o P Q R T U W k6 k7 k8 k9;obtain⟨⟨P,Q⟩,⟨R,T,U,W⟩,k6,k7,k8,k9⟩:=HC.o _ hq)
          |(go_at_call 20;refine(H3.o _ hq).mono ?_;clear H3;rintro e ed ⟨rfl,o⟩;replace hq:=Bt hq o;clear o P Q R T U W k6 k7 k8 k9;obtain⟨⟨P,Q⟩,⟨R,T,U,W⟩,k6,k7,k8,k9⟩:=HC.o _ hq)
          |(go_at_call 20;refine(H4.o _ hq).mono ?_;clear H4;rintro e ei ⟨rfl,o⟩;replace hq:=Bt hq o;clear o P Q R T U W k6 k7 k8 k9;obtain⟨⟨P,Q⟩,⟨R,T,U,W⟩,k6,k7,k8,k9⟩:=HC.o _ hq)
          |(go_at_call 22;refine(AL.o _).mono ?_;clear AL;rintro e du ⟨rfl,o⟩;replace hq:=Bt hq o;clear o P Q R T U W k6 k7 k8 k9;obtain⟨⟨P,Q⟩,⟨R,T,U,W⟩,k6,k7,k8,k9⟩:=HC.o _ hq))
        go_wp2_with fail
        go_ret;exact⟨rfl,Bt HW.o hq⟩
end Go.Proofs.YtakpoihdghihmaaGreatDoor.M3
