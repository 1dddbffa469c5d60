import Derived.Test.YtakpoihdghihmaaGreatDoorU38
set_option linter.all false
open Go renaming undef->B,World->C
open Go.Value renaming slice->E,bool->F,string->G
set_option maxRecDepth 99999
set_option maxHeartbeats 0
namespace Go.Proofs.YtakpoihdghihmaaGreatDoor
open Go.RowKit Go.Shelf
variable{p:Ja}
def m9(tp:Jc p=p):KO p=Il p:=by
 unfold KO Il;by_cases p0:p=[]
 . rw[BG p0,BG p0]
 . rw[BD p0,BD p0];have:=lj tp p0;omega
def nA(tp:Jc p=p)(x:Rat):KP p x=Im p x:=by
 unfold KP Im;by_cases p0:p=[]
 . rw[BG p0,BG p0]
 . rw[BD p0,BD p0];have:=VL tp p0 x;omega
def nB(tp:Jc p=p)(x y:Rat):IK p x y=IJ p x y:=by
 unfold IK IJ;by_cases p0:p=[]
 . rw[BG p0,BG p0]
 . rw[BD p0,BD p0];by_cases h:y<=x
   . rw[BG h,BG h]
   . rw[BD h,BD h];have:=VK tp p0 (Fy (Rat.not_le.1 h));omega
def QY(x:Ja):(Jb x).length<=x.length:=Af (JV _) (by simp[IM])
def nC{K n:Nat}(tp:Jc p=p)(cp:Cd K p)(lp:p.length<=n)(b:4*((n+2)*((K+1+1)*(n+n+1)+1))<=1000000000)(c:n<=1000){X:Nat}(g:n*((K+1+1)*(n+n+1)+n*((K+1+1)*(n+n+1)+1)+1+X+1)+1+X<=1000000000):CtOk (K+1) X p:=by
 have sl:=QY p;refine⟨M3.ChOk.of tp (JO _) (cp.mono O) (cp.slope O) (n:=n) lp O b c,?_⟩;have d:DR (K+1) p (Jb p)<=(K+1+1)*(n+n+1):=Aj _ O;have a:max p.length (Jb p).length<=n:=O
 have e:max p.length (Jb p).length*(DR (K+1) p (Jb p)+1)<=n*((K+1+1)*(n+n+1)+1):=Ci a O;have f:max p.length (Jb p).length*(DR (K+1) p (Jb p)+max p.length (Jb p).length*(DR (K+1) p (Jb p)+1)+1+X+1)<=n*((K+1+1)*(n+n+1)+n*((K+1+1)*(n+n+1)+1)+1+X+1):=Ci a O;omega
def nD(tp:Jc p=p)(cp:Cd 41 p)(lp:p.length<=17)(p0:p≠[]):RtOk 42 81 2000 p:=by
 have sl:=QY p;have ch:M3.ChOk 42 p (Jb p):=M3.ChOk.of tp (JO _) (cp.mono O) (cp.slope O) (n:=17) lp O DK O;have fr:M3.FrOk 42 p:=⟨ch,by
  have c:DR 42 p (Jb p)<=(42+1)*(17+17+1):=Aj _ O;have e:(p.length+3)*(DR 42 p (Jb p)+1)<=(17+3)*((42+1)*(17+17+1)+1):=Ci O O;omega⟩
 have a:=Nr tp p0;have d:=lz tp p0;have mf:Jy (DM p)=DM p:=a.mw;have b:Cd 80 (DM p):=lO tp p0 O (cp.mono O) a.tw mf d;have lf:(DM p).length<=p.length:=(Dv.len a.tw tp p0 d).1;have f:=QY (DM p);have cs:Cd 81 (Jb (DM p)):=b.slope O;have c:DR 81 (DM p) (Jb (DM p))<=(81+1)*(17+17+1):=Aj _ O;refine⟨⟨fr,p0,b.mono O,cs,O,?_⟩,?_⟩
 . have e:((DM p).length+3)*(DR 81 (DM p) (Jb (DM p))+2)<=(17+3)*((81+1)*(17+17+1)+2):=Ci O O;omega
 . exact Af (Fd (Fd (Ci (Af lf lp) (Fd (Fd (Fd c 1) 2000) 1)) 1) 2000) DK
namespace M3
attribute [local go_sem] Oper.semAt_some
def nE(s t a b:ByteArray)(hs:s.size<=140737488351232)(ht:t.size<=140737488351232)(ha:a.size<=140737488351232)(hb:b.size<=140737488351232)(w:C):
 Calls Tryz.prog 3 #[G s,G t,G a,G b] w λr w'=>r=.returned (F true)/\Bl w w':=by
 have cP:=Vj (Je s);have cQ:=Vj (Je t);have lP:=(UE (Je s)).1;have lQ:=(UE (Je t)).1;have tP:=Vg (Je s);have tQ:=Vg (Je t);obtain⟨Qo,Qn,Qs,Qt⟩:=Di (λ(V:C)=>Vh s hs V) (λ(V:C)=>Vh t ht V) (λ(V:C)=>Vi s V) λ(V:C)=>Vi t V;obtain⟨p,hp⟩:=ex ((J7 (Je s)).1);obtain⟨q,hq⟩:=ex ((J7 (Je t)).1);rw[hp]at cP lP tP Qo Qs;rw[hq]at cQ lQ tQ Qn Qt;have Qc:Cd 41 (Jv p q):=(cP.mul cQ).mono O;have Qh:(Jv p q).length<=17:=by
  by_cases p0:p=[]
  . rw[p0];exact Ap _
  . by_cases q0:q=[]
    . rw[q0,Xp];exact Ap _
    . have:=JS tP tQ p0 q0;omega
 have Qm:Hk p q:=cP.times cQ O;have sP:=cP.sqs O;have sQ:=cQ.sqs O;have C2:=Y λ(V:C) (x y:Value) (U:Jh V x p) (W:Jh V y q)=>m8 x y p q V U W sP sQ Qm O;have D2:=Y λ(V:C) (x y:Value) (U:RowK false V x p) (W:RowK false V y q)=>Tt x y p q V U W sP sQ Qm O;have T:=Yq p q;obtain⟨z,hz⟩:=ex (Jv p q);rw[hz]at Qc Qh C2 D2 T;have Qg:CtOk 42 2000 z:=nC T Qc Qh DK O DK;have Qe:z≠[]->RtOk 42 81 2000 z:=λz0=>nD T Qc Qh z0;have sZ:=Qc.sqs O;have X:=Tu (Je a);have vB:=Tu (Je b);obtain⟨Qp,Qq,Qf,Qr⟩:=Di (λ(V:C)=>UA a V) (λ(V:C)=>UA b V) (λ(V:C)=>UB a ha V) λ(V:C)=>UB b hb V;obtain⟨x,U⟩:=ex (EO (Je a));obtain⟨y,W⟩:=ex (EO (Je b));rw[U]at X Qp Qf;rw[W]at vB Qq Qr;obtain⟨A1,A2,A3,A4,E1,E2,E3,E4⟩:=FZ (λ(V:C) (u:Value) (I:Jh V u z)=>VU 42 2000 u z V I Qg) (λ(V:C) (u v:Value) (I:Jh V u z) (Q:Jj V v x)=>VW 42 2000 u v z x V I Q Qg X) (λ(V:C) (u:Value) (I:Jh V u z)=>VX u z V I sZ O) (λ(V:C) (u v v':Value) (I:Jh V u z) (Q:Jj V v x) (am:Jj V v' y)=>ml 42 2000 u v v' z x y V I Q am Qg X vB) (λ(V:C) (u:Value) (I:RowK false V u z)=>me 42 81 2000 u z V I Qe) (λ(V:C) (u v:Value) (I:RowK false V u z) (Q:Jk V v x)=>mg 42 81 2000 u v z x V I Q Qe X O) (λ(V:C) (u:Value) (I:RowK false V u z)=>mj u z V I O) λ(V:C) (u v v':Value) (I:RowK false V u z) (Q:Jk V v x) (am:Jk V v' y)=>mh 42 81 2000 u v v' z x y V I Q am Qe X vB O;rw[m9 T]at E1;rw[nA T]at E2;rw[nB T]at E4;obtain⟨n1,bk⟩:=ex (Il z);obtain⟨n2,bm⟩:=ex (Im z x);obtain⟨n3,bn⟩:=ex (Dc z.reverse);obtain⟨n4,bt⟩:=ex (IJ z x y);rw[bk]at A1 E1;rw[bm]at A2 E2;rw[bn]at A3 E3;rw[bt]at A4 E4;have AL:=Y λ(V:C)=>mr V;have M1:Hid (DH w w []):=Y (DH.nil w);clear cP cQ lP lQ tP tQ hp hq Qc Qh Qm sP sQ T hz Qg Qe sZ X vB U W bk bm bn bt hs ht ha hb;go_enter Tryz.func3,Tryz.ntmps3
 go_upto_region 2 with(go_at_call 8;refine(Qs.o _).mono ?_;clear Qs;rintro e w1 ⟨u1,rfl,ak,bg⟩;obtain⟨ad,ap,ah,rfl⟩:=Jh.form ak)
 obtain⟨V1,hV⟩:=ex (w1.alloc (.cells #[E ad ap ah] 25));obtain⟨B1,ai⟩:=ex (w1.heap.size);have L:DH w (w1.alloc (.cells #[E ad ap ah] 25)) [some (w1.heap.size,.poly p)]:=DH.push (M1.o.below bg) (.poly p) ak;rw[hV,ai]at L;rw[hV];rw[ai];have M2:Hid (DH w V1 [some (B1,.poly p)]):=Y (L);clear M1;clear L hV ai;clear ak bg;refine J6 Dl [[],[],[1],[0,2,2],[3,3,0,1,2,3]] nK DK
  (λD ae V=>∃(ta tb tc td:Value) (f:Option (Nat × Dat)),ae={ tmps:=#[G s,G t,G a,G b,B,B,B,B,F false,.pointer (some ⟨B1,0,none⟩),B,B,B,G s,.agg #[E ad ap ah],ta,tb,tc,td,B,B,B,B,B,B,B,B,B,B,B,B,B,B,B,B,B,B,B,B,B,B,B,B,B,B,B,B,B,B,B,B,B,B,B,B,B,B,B,B,B,B,B,B,B],defers:=[] }/\Hid ((D 0=true->Has V ta (.poly p))/\(D 1=true->tb=Value.string t)/\(D 2=true->Has V tc (.poly q))/\(D 3=true->Has V td (.poly z))/\((D 4=false->f=some (B1,.poly p))/\(D 4=true->f=some (B1,.poly z))))/\Hid (DH w V [f]))
  ⟨_,_,_,_,_,J,Y ⟨DG,DG,DG,DG,⟨λ_=>rfl,DG⟩⟩,Y (M2.o).drew⟩ ?step2 ?fin2
 case step2=>
  rintro D ae V i ds cj hi S az ⟨ta,tb,tc,td,f,rfl,j,L⟩;have cn:i<5:=(Aq.1 hi).1;obtain rfl|rfl|rfl|rfl|rfl:=ME i O
  all_goals
   simp only[AO,AJ,AX]at hi;subst hi
  . have hf:D 4=false:=DN cj az;obtain rfl:=j.o.2.2.2.2.1 hf;clear S;obtain⟨a,l,c,n,r⟩:=L.o.poly2 (i:=0) J;have g:=n.cell;refine Zc ?_;exact⟨_,_,_,_,_,J,Y ⟨λ_=>r,j.o.2.1,j.o.2.2.1,j.o.2.2.2.1,⟨λ_=>rfl,λh=>by simp[hf]at h⟩⟩,Y (L.o)⟩
  . clear S;refine Zc ?_;exact⟨_,_,_,_,_,J,(Gk j),Y (L.o)⟩
  . obtain rfl:=(j.o.2.1 (S 1 DG));have HC:=Y (Qt.o V);clear S;refine Jo J J λK hK=>?_;go_simp;go_wp2_with(go_at_call 8;refine HC.o.mono ?_;rintro e w5 ⟨v5,rfl,an,R⟩)
    exact⟨_,_,_,_,_,J,Y ⟨λh=>(j.o.1 h).below R,λ_=>rfl,λ_=>an,λh=>(j.o.2.2.2.1 h).below R,j.o.2.2.2.2⟩,Y (L.o.below R)⟩
  . have h0:=(j.o.1 (S 0 DG));have h1:=(j.o.2.2.1 (S 2 DG));have HC:=Y (C2.o V _ _ h0 h1);clear S h0 h1;refine Jo J J λK hK=>?_;go_simp;go_wp2_with(go_at_call 9;refine HC.o.mono ?_;rintro e w5 ⟨v5,rfl,an,R⟩)
    exact⟨_,_,_,_,_,J,Y ⟨λh=>(j.o.1 h).below R,j.o.2.1,λh=>(j.o.2.2.1 h).below R,λ_=>an,j.o.2.2.2.2⟩,Y (L.o.below R)⟩
  . obtain rfl:=j.o.2.2.2.2.1 az;have Q:=(j.o.2.2.2.1 (S 3 DG));obtain⟨a1,l1,c1,rfl⟩:=Jh.form (show Jh V _ _ from Q);obtain⟨a,l,c,n,r⟩:=L.o.poly2 (i:=0) J;have g:=n.cell;have f0:=n.frozen;clear S;refine Zc ?_;exact⟨_,_,_,_,_,J,Y ⟨λh=>(j.o.1 h).set1 n J _,j.o.2.1,λh=>(j.o.2.2.1 h).set1 n J _,λh=>(j.o.2.2.2.1 h).set1 n J _,⟨λh=>by simp at h,λ_=>rfl⟩⟩,Y (L.o.putPoly (i:=0) J Q)⟩
 rintro D ae V3 aj ⟨ta,tb,tc,td,f,rfl,j,L⟩;obtain rfl:=j.o.2.2.2.2.2 (aj 4 DK);obtain rfl:=j.o.2.1 (aj 1 DK);clear j aj M2;have M3:Hid (DH w V3 [some (B1,.poly z)]):=L;clear L;have Qb:=Qf;obtain⟨a1,l1,c1,bu,r1⟩:=M3.o.poly2 (i:=0) J;obtain⟨Ql,N0,R0⟩:=DX M3.o.2.2 bu r1;clear M3 bu r1;have hq:=BA V3.heap.size V3;go_upto_region 4 with(first
  |(go_at_call 11;refine(Qo.o _).mono ?_;clear Qo;rintro e w3 ⟨u3,rfl,g3,ce⟩;have hq:=Bt hq ce)
  |(go_at_call 11;refine(Qn.o _).mono ?_;clear Qn;rintro e w4 ⟨u4,rfl,g4,bh⟩;have hq:=Bt hq bh;have g3:=g3.below bh)
  |(go_at_call 10;refine(D2.o _ _ _ g3 g4).mono ?_;clear D2 g3 g4;rintro e w5 ⟨u5,rfl,g5,R⟩;obtain⟨a5,l5,c5,rfl⟩:=g5.form;have hq:=Bt hq R))
 go_upto_region 5 with(go_at_call 12;refine(Qp.o _).mono ?_;clear Qp;rintro e w6 ⟨u6,rfl,g6,bi⟩;obtain⟨s6,a6,l6,c6,t6,b6,k6,d6,rfl⟩:=Jj.form g6)
 have Qj:Bl w6 (w6.alloc (.cells #[F s6,E a6 l6 c6,F t6,E b6 k6 d6] 37)):=Ba w6 _;have n6:=JB.new w6 37 (F s6) (E a6 l6 c6) (F t6) (E b6 k6 d6);have r6:=g6.below Qj;obtain⟨V6,bc⟩:=ex (w6.alloc (.cells #[F s6,E a6 l6 c6,F t6,E b6 k6 d6] 37));rw[bc]at Qj n6 r6 ⊢;obtain⟨B6,aq⟩:=ex (w6.heap.size);have Qk:=Bt bi Qj
 rw[aq]at n6 ⊢;have X6:=g5.below Qk;replace hq:=Bt hq Qk
 clear bc aq g5 g6 Qj bi Qk;go_upto_region 6 with(go_at_call 12;refine(Qq.o _).mono ?_;clear Qq;rintro e w7 ⟨u7,rfl,g7,bj⟩;obtain⟨s7,a7,l7,c7,t7,b7,k7,d7,rfl⟩:=Jj.form g7)
 have Qi:Bl w7 (w7.alloc (.cells #[F s7,E a7 l7 c7,F t7,E b7 k7 d7] 37)):=Ba w7 _;have n7:=JB.new w7 37 (F s7) (E a7 l7 c7) (F t7) (E b7 k7 d7);have r7:=g7.below Qi;obtain⟨V7,bf⟩:=ex (w7.alloc (.cells #[F s7,E a7 l7 c7,F t7,E b7 k7 d7] 37));rw[bf]at Qi n7 r7 ⊢;obtain⟨B7,ay⟩:=ex (w7.heap.size);have Qd:=Bt bj Qi
 rw[ay]at n7 ⊢;replace hq:=Bt hq Qd
 obtain⟨M,R1,X5,N,R6,P,R7,HQ⟩:=FZ (boxed_below N0.o hq) (R0.o.below hq) (X6.below Qd) (n6.below Qd) (r6.below Qd) n7 r7 (Bt Ql.o hq);clear bf ay g7 Qi bj Qd n6 n7 r6 r7 X6 hq N0 R0 Ql;have hq:=BA V7.heap.size V7;have g:=M.o.cell;obtain⟨x0,x1,k,m⟩:=N.o.cq;obtain⟨f,o,A,H⟩:=P.o.cq;go_upto_region 8 with(first
  |(go_at_call 13;refine(A1.o _ _ (R1.o.below hq)).mono ?_;clear A1;rintro e z1 ⟨rfl,d⟩;have hq:=Bt hq d;clear d;clear g x0 x1 k m f o A H;have g:=(boxed_below M.o hq).cell;obtain⟨x0,x1,k,m⟩:=(N.o.below hq).cq;obtain⟨f,o,A,H⟩:=(P.o.below hq).cq)
  |(go_at_call 14;refine(E1.o _ _ (X5.o.below hq)).mono ?_;clear E1;rintro e z2 ⟨rfl,d⟩;have hq:=Bt hq d;clear d;clear g x0 x1 k m f o A H;have g:=(boxed_below M.o hq).cell;obtain⟨x0,x1,k,m⟩:=(N.o.below hq).cq;obtain⟨f,o,A,H⟩:=(P.o.below hq).cq)
  |(go_at_call 15;refine(A2.o _ _ _ (R1.o.below hq) (R6.o.below hq)).mono ?_;clear A2;rintro e z3 ⟨rfl,d⟩;have hq:=Bt hq d;clear d;clear g x0 x1 k m f o A H;have g:=(boxed_below M.o hq).cell;obtain⟨x0,x1,k,m⟩:=(N.o.below hq).cq;obtain⟨f,o,A,H⟩:=(P.o.below hq).cq)
  |(go_at_call 17;refine(Qf.o _).mono ?_;clear Qf;rintro e z4 ⟨de,rfl,k4,d⟩;have hq:=Bt hq d;clear d;clear g x0 x1 k m f o A H;have g:=(boxed_below M.o hq).cell;obtain⟨x0,x1,k,m⟩:=(N.o.below hq).cq;obtain⟨f,o,A,H⟩:=(P.o.below hq).cq)
  |(go_at_call 16;refine(E2.o _ _ _ (X5.o.below hq) k4).mono ?_;clear E2;rintro e z5 ⟨rfl,d⟩;have hq:=Bt hq d;clear d;clear g x0 x1 k m f o A H;have g:=(boxed_below M.o hq).cell;obtain⟨x0,x1,k,m⟩:=(N.o.below hq).cq;obtain⟨f,o,A,H⟩:=(P.o.below hq).cq)
  |(go_at_call 18;refine(A3.o _ _ (R1.o.below hq)).mono ?_;clear A3;rintro e z6 ⟨rfl,d⟩;have hq:=Bt hq d;clear d;clear g x0 x1 k m f o A H;have g:=(boxed_below M.o hq).cell;obtain⟨x0,x1,k,m⟩:=(N.o.below hq).cq;obtain⟨f,o,A,H⟩:=(P.o.below hq).cq)
  |(go_at_call 19;refine(E3.o _ _ (X5.o.below hq)).mono ?_;clear E3;rintro e z7 ⟨rfl,d⟩;have hq:=Bt hq d;clear d;clear g x0 x1 k m f o A H;have g:=(boxed_below M.o hq).cell;obtain⟨x0,x1,k,m⟩:=(N.o.below hq).cq;obtain⟨f,o,A,H⟩:=(P.o.below hq).cq))
 go_wp2_with(first
  |(go_at_call 20;refine(A4.o _ _ _ _ (R1.o.below hq) (R6.o.below hq) (R7.o.below hq)).mono ?_;clear A4;rintro e z8 ⟨rfl,d⟩;have hq:=Bt hq d;clear d;clear g x0 x1 k m f o A H;have g:=(boxed_below M.o hq).cell;obtain⟨x0,x1,k,m⟩:=(N.o.below hq).cq;obtain⟨f,o,A,H⟩:=(P.o.below hq).cq)
  |(go_at_call 17;refine(Qb.o _).mono ?_;clear Qb;rintro e z9 ⟨dh,rfl,k9,d⟩;have hq:=Bt hq d;clear d;clear g x0 x1 k m f o A H;have g:=(boxed_below M.o hq).cell;obtain⟨x0,x1,k,m⟩:=(N.o.below hq).cq;obtain⟨f,o,A,H⟩:=(P.o.below hq).cq)
  |(go_at_call 17;refine(Qr.o _).mono ?_;clear Qr;rintro e di ⟨co,rfl,ck,d⟩;have hq:=Bt hq d;have k9:=k9.below d;clear d;clear g x0 x1 k m f o A H;have g:=(boxed_below M.o hq).cell;obtain⟨x0,x1,k,m⟩:=(N.o.below hq).cq;obtain⟨f,o,A,H⟩:=(P.o.below hq).cq)
  |(go_at_call 21;refine(E4.o _ _ _ _ (X5.o.below hq) k9 ck).mono ?_;clear E4;rintro e dj ⟨rfl,d⟩;have hq:=Bt hq d;clear d;clear g x0 x1 k m f o A H;have g:=(boxed_below M.o hq).cell;obtain⟨x0,x1,k,m⟩:=(N.o.below hq).cq;obtain⟨f,o,A,H⟩:=(P.o.below hq).cq)
  |(go_at_call 22;refine(AL.o _ ).mono ?_;clear AL;rintro e dk ⟨rfl,d⟩;have hq:=Bt hq d;clear d;clear g x0 x1 k m f o A H;have g:=(boxed_below M.o hq).cell;obtain⟨x0,x1,k,m⟩:=(N.o.below hq).cq;obtain⟨f,o,A,H⟩:=(P.o.below hq).cq))
 go_ret;exact⟨J,Bt HQ.o hq⟩
end M3
