import Derived.Test.YteldjhhjnchdeaaGreatDoorT46
open Go renaming undef->C,World->F,Value->H
open Go.Value renaming slice->E,pointer->G,agg->I,string->L
open Go.Obj renaming cells->J
set_option maxRecDepth 100000
set_option maxHeartbeats 16000000
namespace Go.Proofs.YteldjhhjnchdeaaGreatDoor
open Go.RowKit Go.Shelf
def Om(s:List Rat × List Rat):List Rat × List Rat:=(Dr s.1 (JT s.1 (J2 s.2 (Jm s.1))),Dr (J2 s.2 (Jm s.1)) (JT s.1 (J2 s.2 (Jm s.1))))
def Er(w y:List Rat):Nat->List Rat × List Rat
 |0=>(w,y)
 |n+1=>Om (Er w y n)
def yP(s:List Rat × List Rat):List Rat:=JT s.1 (J2 s.2 (Jm s.1))
def yL(w y:List Rat):Nat->List (List Rat × Nat)
 |0=>[]
 |n+1=>yL w y n++(if 1<(yP (Er w y n)).length then [(yP (Er w y n),n+1)]else [])
theorem fB(w y:List Rat):∀n,(yL w y n).length<=n:=by
 intro n;induction n with
 |zero=>exact Aa _
 |succ n a=>
  rw[yL,Ai];split
  . simp;omega
  . simp;omega
structure StOk(K M:Nat)(w y:List Rat):Prop where
 ch:M3.ChOk K w (J2 y (Jm w))
 ty:Jd y=y
 cw:Cd M w
 cs:Cd M (Jm w)
 cy:Cd M y
 cz:Cd M (J2 y (Jm w))
 kM:Dk K w (J2 y (Jm w))<=M
 l1:2*((w.length+3)*(M+1))<=1000000
 l2:2*(((J2 y (Jm w)).length+3)*(M+1))<=1000000
structure PtOk(K M N:Nat)(p:List Rat):Prop where
 tp:Jd p=p
 cp:Cd M p
 ch:M3.ChOk K (JG p) (Jm (JG p))
 kM:Dk K (JG p) (Jm (JG p))<=M
 l1:2*((p.length+3)*(M+1))<=1000000
 gt:1<p.length
 nN:N<=1000000
 st:∀n,n<N->1<(Er (Dr (JG p) (JT (JG p) (Jm (JG p)))) (Dr (Jm (JG p)) (JT (JG p) (Jm (JG p)))) n).1.length/\StOk K M (Er (Dr (JG p) (JT (JG p) (Jm (JG p)))) (Dr (Jm (JG p)) (JT (JG p) (Jm (JG p)))) n).1 (Er (Dr (JG p) (JT (JG p) (Jm (JG p)))) (Dr (Jm (JG p)) (JT (JG p) (Jm (JG p)))) n).2
 en:(Er (Dr (JG p) (JT (JG p) (Jm (JG p)))) (Dr (Jm (JG p)) (JT (JG p) (Jm (JG p)))) N).1.length<=1
def LM(p:List Rat)(N:Nat):List (List Rat × Nat):=yL (Dr (JG p) (JT (JG p) (Jm (JG p)))) (Dr (Jm (JG p)) (JT (JG p) (Jm (JG p)))) N
namespace M3
def E9(base:Nat)(V:F)(v:H)(L:List (List Rat × Nat)):Prop:=Eg true base V v L
section
variable {base:Nat} {V V':World} {v:Value} {L:List (List Rat × Nat)}
theorem E9.below(h:E9 base V v L)(a:Bl V V'):E9 base V' v L:=Eg.below h a
theorem E9.drew(h:E9 base V v L):E9 base V.drew v L:=Eg.below h ((BB _ V).drew)
theorem E9.alloc(h:E9 base V v L)(o:Obj):E9 base (V.alloc o) v L:=Eg.below h (Ba V o)
theorem E9.set1(h:E9 base V v L){B:Nat}{a:Option Addr}{l c:Nat}(q:Boxed V B 25 (E a l c))(_:Jz (E a l c)=true)(b:H):E9 base (V.setCell ⟨B,0,none⟩ b) v L:=Eg.set h q (λ_ _ g=>FY q b g)
end
theorem fC(a b:H)(ps qs:List Rat)(w:F)(f:Jg w a ps)(m:Jg w b qs)(k:Db ps)(l:Db qs)(i:Db (J2 ps qs)):
 Calls Tryz.prog 48 #[a,b] w λe c=>∃u,e=.returned u/\Jg c u (J2 ps qs)/\Bl w c:=by
 refine(RE a b ps qs w f m k l i).mono ?_;rintro e c ⟨u,g,d,_,j⟩;exact⟨u,g,d,j⟩
theorem S0{M:Nat}{w:List Rat}(h:Cd M (Jm w))(b:M<=1000000)(i:Nat):Sq (IJ w i):=by
 have a:=(h.sqs b).at i;unfold Jm at a;rwa[JX,Mv]at a
attribute [local go_sem] Oper.semAt_some
theorem fD(K M N:Nat)(v:H)(p:List Rat)(w:F)(h:Jg w v p)(ah:PtOk K M N p):
 Calls Tryz.prog 18 #[v] w λe w'=>∃u,e=.returned u/\Eg true w.heap.size w' u (LM p N)/\Bl w w':=by
 have Qo:Tryz.prog.follows .mixedOrders=true:=by kernel_rfl
 obtain⟨q,hq⟩:=ex (JG p);obtain⟨c,hc⟩:=ex (JT q (Jm q));obtain⟨w0,az⟩:=ex (Dr q c);obtain⟨y0,bf⟩:=ex (Dr (Jm q) c);have hM:M<=1000000:=by
  have A:=ah.l1;have:1*(M+1)<=(p.length+3)*(M+1):=Ak _ om;omega
 have Qm:=ah.ch;have Uk:=ah.kM;rw[hq]at Qm Uk;have Uo:q.length=p.length:=by rw[<-hq];exact Yh ah.tp
 have Ui:Cd M q:=by rw[<-hq];exact ah.cp.mon ah.tp
 have Ub:Jd q=q:=by rw[<-hq];exact Y7 _
 have Uh:Cd M (Jm q):=(show Cd K (Jm q)from Qm.cq).mono (by have:=He K q (Jm q);omega);have Ud:Cd M c:=by rw[<-hc];exact Qm.gcd.mono Uk
 have Qv:Jd c=c:=by rw[<-hc];exact KU _ _
 have Uj:JG c=c:=by rw[<-hc];exact Ol Ub (O3 _)
 have Uy:2*(((Jm q).length+3)*(M+1))<=1000000:=by
  have A:(Jm q).length<=q.length:=As (JB _) (by simp[LT]);have h2:((Jm q).length+3)*(M+1)<=(p.length+3)*(M+1):=Ak _ om;have h3:=ah.l1;omega
 obtain⟨Qy,Ut,Ue,Us,Ul,Ur⟩:=I4 (λ(V:F) (x:H) (r:List Rat) (hx:Jg V x r)=>YA x r V hx) (λ(V:F) (x:H) (hx:Jg V x p)=>show Calls Tryz.prog 26 #[x] V λe w'=>∃u,e=.returned u/\Jg w' u q/\Bl V w' by rw[<-hq];exact Sz M x p V hx ah.tp ah.cp hM) (λ(V:F) (x:H) (hx:Jg V x q)=>Oa x q V hx (Ui.sqs hM) (S0 Uh hM)) (λ(V:F) (x y:H) (hx:Jg V x q) (hy:Jg V y (Jm q))=>show Calls Tryz.prog 8 #[x,y] V λe w'=>∃u,e=.returned u/\Jg w' u c/\Bl V w' by rw[<-hc];exact LK K x y q (Jm q) V hx hy Qm) (λ(V:F) (x y:H) (hx:Jg V x q) (hy:Jg V y c)=>show Calls Tryz.prog 46 #[x,y] V λe w'=>∃u,e=.returned u/\Jg w' u w0/\Bl V w' by rw[<-az];exact LL M x y q c V hx hy Ui Ud Ub Qv Uj (by rw[Uo];exact ah.l1)) (λ(V:F) (x y:H) (hx:Jg V x (Jm q)) (hy:Jg V y c)=>show Calls Tryz.prog 46 #[x,y] V λe w'=>∃u,e=.returned u/\Jg w' u y0/\Bl V w' by rw[<-bf];exact LL M x y (Jm q) c V hx hy Uh Ud (O3 _) Qv Uj Uy);have Ua:=ah.st;have Qu:=ah.en;rw[hq,hc,az,bf]at Ua Qu;obtain⟨Uw,Wm,Wi⟩:=Dm Ua Qu (show LM p N=yL w0 y0 N by unfold LM;rw[hq,hc,az,bf]);rw[Wi.o];obtain⟨Wd,Wh,Wl⟩:=Dm (λ(a b:List Rat) (W:StOk K M a b) (V:F) (x:H) (hx:Jg V x a)=>Oa x a V hx (W.cw.sqs hM) (S0 W.cs hM)) (λ(a b:List Rat) (W:StOk K M a b) (V:F) (x y:H) (hx:Jg V x b) (hy:Jg V y (Jm a))=>fC x y b (Jm a) V hx hy (W.cy.sqs hM) (W.cs.sqs hM) (W.cz.sqs hM)) (λ(a b:List Rat) (W:StOk K M a b) (V:F) (x y:H) (hx:Jg V x a) (hy:Jg V y (J2 b (Jm a)))=>LK K x y a (J2 b (Jm a)) V hx hy W.ch);have Qh:∀(a b:List Rat),StOk K M a b->Cd M (JT a (J2 b (Jm a)))/\Jd (JT a (J2 b (Jm a)))=JT a (J2 b (Jm a))/\JG (JT a (J2 b (Jm a)))=JT a (J2 b (Jm a)):=λa b W=>⟨W.ch.gcd.mono W.kM,KU _ _,Ol W.ch.tp W.ch.tq⟩;have Wk:=Ja (λ(a b:List Rat) (W:StOk K M a b) (V:F) (x y:H) (hx:Jg V x a) (hy:Jg V y (JT a (J2 b (Jm a))))=>LL M x y a (JT a (J2 b (Jm a))) V hx hy W.cw (Qh a b W).1 W.ch.tp (Qh a b W).2.1 (Qh a b W).2.2 W.l1);have Wc:=Ja (λ(a b:List Rat) (W:StOk K M a b) (V:F) (x y:H) (hx:Jg V x (J2 b (Jm a))) (hy:Jg V y (JT a (J2 b (Jm a))))=>LL M x y (J2 b (Jm a)) (JT a (J2 b (Jm a))) V hx hy W.cz (Qh a b W).1 W.ch.tq (Qh a b W).2.1 (Qh a b W).2.2 W.l2);have Qz:¬(p.length:Int)-1<1:=by have:=ah.gt;omega
 obtain⟨d0,bt⟩:=ex ((p.length:Int)-1:Int);rw[bt]at Qz;have Wj:=Ja bt;have fa:N<=1000000:=ah.nN;obtain⟨pa,la,pc,rfl⟩:=h.form;have M0:=(Mem.nil w).push (.poly p) (cs:=#[E pa la pc]) h;obtain⟨W0,co⟩:=ex (w.alloc (J #[E pa la pc] 25));have Uq:=Ja co;have M1:Hid (Mem w W0 [some (w.heap.size,.poly (p))]):=Ja (by rw[<-co];exact M0);clear M0 co h ah Qm Uk Uo Ui Ub Uh Ud Qv Uj Uy Ua Qu Qh hM hq hc az bf bt;go_enter Tryz.func18,Tryz.ntmps18
 go_upto_region 1 with fail
 rw[Uq.o];clear Uq;obtain⟨a1,l1,c1,n1,r1⟩:=M1.o.poly2 (i:=0) rfl;have Qt:=n1.cell;have H1:=Ja (Qy.o W0 _ p r1);rw[Wj.o]at H1;go_upto_region 3 with(go_at_call 20;refine H1.o.mono ?_;clear H1;rintro e w1 ⟨rfl,hq⟩;clear Qt;have Qt:=(boxed_below n1 hq).cell)
 have M2:Hid (Mem w w1 [some (w.heap.size,.poly (p))]):=Ja (M1.o.below hq);clear M1;clear hq n1 r1 Qt;obtain⟨a2,l2,c2,n2,r2⟩:=M2.o.poly2 (i:=0) rfl;have Qw:=n2.cell;have Qx:=n2.frozen;have H1:=Ja (Ut.o w1 _ r2);clear Ut;go_upto_region 4 with(go_at_call 26;refine H1.o.mono ?_;clear H1;rintro e w2 ⟨u2,rfl,bk,hq⟩;obtain⟨an,ak,am,rfl⟩:=Jg.form bk;clear Qw;have Qw:=(boxed_below n2 hq).cell;clear Qx;have Qx:=(boxed_below n2 hq).frozen)
 obtain⟨V3,hV⟩:=ex (w2.setCell ⟨w.heap.size,0,none⟩ (E an ak am));have g:Mem w (w2.setCell ⟨w.heap.size,0,none⟩ (E an ak am)) [some (w.heap.size,.poly (q))]:=Mem.putPoly (M2.o.below hq) (i:=0) rfl bk;rw[hV]at g;rw[hV];have M3:Hid (Mem w V3 [some (w.heap.size,.poly (q))]):=Ja (g);clear M2;clear g hV;clear bk hq n2 r2 Qw Qx;refine Jk Qo [[],[],[1],[0,2,2],[],[4,3,3,0,1,2,3,4]] (by kernel_rfl) DS
  (λD ae V=>∃(ta tb tc td tt:H) (x4:Option (Nat × Dat)),ae={ tmps:=#[I #[E pa la pc],G (some ⟨w.heap.size,0,none⟩),E none 0 0,tt,C,C,C,C,C,I #[E a1 l1 c1],.int .i64 d0,.bool (decide (d0<1)),I #[E a2 l2 c2],I #[E an ak am],ta,tb,tc,td,C,C,C,C,C,C,C,C,C,C,C,C,C,C,C,C,C,C,C,C,C,C,C,C,C,C,C,C,C,C,C,C,C,C,C],defers:=[] }/\Hid ((D 0=true->Has V ta (.poly (q)))/\(D 1=true->Has V tb (.poly (q)))/\(D 2=true->Has V tc (.poly (Jm q)))/\(D 3=true->Has V td (.poly (c)))/\((D 4=false->x4=none)/\(D 4=true->D 5=false->∃B:Nat,tt=G (some ⟨B,0,none⟩)/\x4=some (B,.poly []))/\(D 5=true->∃B:Nat,tt=G (some ⟨B,0,none⟩)/\x4=some (B,.poly (c)))))/\Hid (Mem w V [some (w.heap.size,.poly (q)),x4]))
  ⟨_,_,_,_,_,none,rfl,Ja ⟨DQ,DQ,DQ,DQ,DQ⟩,Ja ((M3.o).none).drew⟩ ?step4 ?fin4
 case step4=>
  rintro D ae V i ds ai hi m Y ⟨ta,tb,tc,td,tt,x4,rfl,f,g⟩;have Qr:i<6:=(Ac.1 hi).1;obtain rfl|rfl|rfl|rfl|rfl|rfl:=LO i om
  all_goals
   simp only[Af,Ae,Ag]at hi;subst hi
  . clear m;obtain⟨a,l,c,n,r⟩:=g.o.poly2 (i:=0) rfl;have e0:=n.cell;refine Za ?_;exact⟨_,_,_,_,_,_,rfl,(Dh f λ_=>r),Ja (g.o)⟩
  . clear m;obtain⟨a,l,c,n,r⟩:=g.o.poly2 (i:=0) rfl;have e0:=n.cell;refine Za ?_;exact⟨_,_,_,_,_,_,rfl,(Dp f λ_=>r),Ja (g.o)⟩
  . have z:=(f.o.2.1 (m 1 DQ));have HC:=Ja (Ue.o V _ z);clear m z;refine Jb rfl rfl λK hK=>?_;go_simp;go_wp2_with(go_at_call 24;refine HC.o.mono ?_;rintro e w5 ⟨v5,rfl,ad,j⟩)
    exact⟨_,_,_,_,_,_,rfl,Ja ⟨λh=>(f.o.1 h).below j,λh=>(f.o.2.1 h).below j,λ_=>ad,λh=>(f.o.2.2.2.1 h).below j,f.o.2.2.2.2⟩,Ja (g.o.below j)⟩
  . have z:=(f.o.1 (m 0 DQ));have A:=(f.o.2.2.1 (m 2 DQ));have HC:=Ja (Us.o V _ _ z A);clear m z A;refine Jb rfl rfl λK hK=>?_;go_simp;go_wp2_with(go_at_call 8;refine HC.o.mono ?_;rintro e w5 ⟨v5,rfl,ad,j⟩)
    exact⟨_,_,_,_,_,_,rfl,Ja ⟨λh=>(f.o.1 h).below j,λh=>(f.o.2.1 h).below j,λh=>(f.o.2.2.1 h).below j,λ_=>ad,f.o.2.2.2.2⟩,Ja (g.o.below j)⟩
  . have hf:D 5=false:=DU ai Y;obtain rfl:=f.o.2.2.2.2.1 Y;clear m;refine Za ?_;exact⟨_,_,_,_,_,_,rfl,Ja ⟨λh=>(f.o.1 h).alloc _,λh=>(f.o.2.1 h).alloc _,λh=>(f.o.2.2.1 h).alloc _,λh=>(f.o.2.2.2.1 h).alloc _,⟨λh=>by simp at h,λ_ _=>⟨_,rfl,rfl⟩,λh=>by simp[hf]at h⟩⟩,Ja (g.o.fill (i:=1) rfl (.poly []) (Hf _))⟩
  . obtain⟨B,rfl,rfl⟩:=Ds f (m 4 DQ) Y;have Qc:=m 4 DQ;have hv:=(f.o.2.2.2.1 (m 3 DQ));obtain⟨a1,l1,c1,rfl⟩:=Jg.form (show Jg V _ _ from hv);obtain⟨a,l,c,n,r⟩:=g.o.poly2 (i:=1) rfl;have e0:=n.cell;have f0:=n.frozen;clear m;refine Za ?_;exact⟨_,_,_,_,_,_,rfl,Ja ⟨λh=>(f.o.1 h).set1 n rfl _,λh=>(f.o.2.1 h).set1 n rfl _,λh=>(f.o.2.2.1 h).set1 n rfl _,λh=>(f.o.2.2.2.1 h).set1 n rfl _,⟨λh=>by simp[Qc]at h,λ_ h=>by simp at h,λ_=>⟨B,rfl,rfl⟩⟩⟩,Ja (g.o.putPoly (i:=1) rfl hv)⟩
 rintro D ae V5 af ⟨ta,tb,tc,td,tt,x4,rfl,f,g⟩;obtain⟨B6,rfl,rfl⟩:=f.o.2.2.2.2.2.2 (af 5 DS);clear f af M3;have M4:Hid (Mem w V5 [some (w.heap.size,.poly (q)),some (B6,.poly (c))]):=g;clear g;go_upto_region 5 with fail
 refine Jk Qo [[],[],[0,1],[],[3,2],[],[4,5,4],[],[],[7,2,6,0,1,2,7,8],[8,6,9,0,1,2,3,4,5,6,7,8,9]] (by kernel_rfl) DS
  (λD ae V=>∃(te tf tg ti tj tk tl tA tD:H) (x7 x8:Option (Nat × Dat)),ae={ tmps:=#[I #[E pa la pc],G (some ⟨w.heap.size,0,none⟩),E none 0 0,G (some ⟨B6,0,none⟩),tA,tD,C,C,C,I #[E a1 l1 c1],.int .i64 d0,.bool (decide (d0<1)),I #[E a2 l2 c2],I #[E an ak am],ta,tb,tc,td,te,tf,tg,ti,tj,tk,tl,C,C,C,C,C,C,C,C,C,C,C,C,C,C,C,C,C,C,C,C,C,C,C,C,C,C,C,C],defers:=[] }/\Hid ((D 0=true->Has V te (.poly (q)))/\(D 1=true->Has V tf (.poly (c)))/\(D 2=true->Has V tg (.poly (w0)))/\(D 3=true->Has V ti (.poly (q)))/\(D 4=true->Has V tj (.poly (Jm q)))/\(D 5=true->Has V tk (.poly (c)))/\(D 6=true->Has V tl (.poly (y0)))/\((D 7=false->x7=none)/\(D 7=true->D 9=false->∃B:Nat,tA=G (some ⟨B,0,none⟩)/\x7=some (B,.poly []))/\(D 9=true->∃B:Nat,tA=G (some ⟨B,0,none⟩)/\x7=some (B,.poly (w0))))/\((D 8=false->x8=none)/\(D 8=true->D 10=false->∃B:Nat,tD=G (some ⟨B,0,none⟩)/\x8=some (B,.poly []))/\(D 10=true->∃B:Nat,tD=G (some ⟨B,0,none⟩)/\x8=some (B,.poly (y0)))))/\Hid (Mem w V [some (w.heap.size,.poly (q)),some (B6,.poly (c)),x7,x8]))
  ⟨_,_,_,_,_,_,_,_,_,none,none,rfl,Ja ⟨DQ,DQ,DQ,DQ,DQ,DQ,DQ,DQ,DQ⟩,Ja (((M4.o).none).none).drew⟩ ?step7 ?fin7
 case step7=>
  rintro D ae V i ds ai hi m Y ⟨te,tf,tg,ti,tj,tk,tl,tA,tD,x7,x8,rfl,f,g⟩;have Qr:i<11:=(Ac.1 hi).1;obtain rfl|rfl|rfl|rfl|rfl|rfl|rfl|rfl|rfl|rfl|rfl:=Ex i om
  all_goals
   simp only[Af,Ae,Ag]at hi;subst hi
  . clear m;obtain⟨a,l,c,n,r⟩:=g.o.poly2 (i:=0) rfl;have e0:=n.cell;refine Za ?_;exact⟨_,_,_,_,_,_,_,_,_,_,_,rfl,(Dh f λ_=>r),Ja (g.o)⟩
  . clear m;obtain⟨a,l,c,n,r⟩:=g.o.poly2 (i:=1) rfl;have e0:=n.cell;refine Za ?_;exact⟨_,_,_,_,_,_,_,_,_,_,_,rfl,(Dp f λ_=>r),Ja (g.o)⟩
  . have z:=(f.o.1 (m 0 DQ));have A:=(f.o.2.1 (m 1 DQ));have HC:=Ja (Ul.o V _ _ z A);clear m z A;refine Jb rfl rfl λK hK=>?_;go_simp;go_wp2_with(go_at_call 46;refine HC.o.mono ?_;rintro e w5 ⟨v5,rfl,ad,j⟩)
    obtain⟨Q,S,_,R,U,X,Z,G7⟩:=f.o;exact⟨_,_,_,_,_,_,_,_,_,_,_,rfl,Ja ⟨λh=>(Q h).below j,λh=>(S h).below j,λ_=>ad,λh=>(R h).below j,λh=>(U h).below j,λh=>(X h).below j,λh=>(Z h).below j,G7⟩,Ja (g.o.below j)⟩
  . clear m;obtain⟨a,l,c,n,r⟩:=g.o.poly2 (i:=0) rfl;have e0:=n.cell;refine Za ?_;exact⟨_,_,_,_,_,_,_,_,_,_,_,rfl,(Di f λ_=>r),Ja (g.o)⟩
  . have z:=(f.o.2.2.2.1 (m 3 DQ));have HC:=Ja (Ue.o V _ z);clear m z;refine Jb rfl rfl λK hK=>?_;go_simp;go_wp2_with(go_at_call 24;refine HC.o.mono ?_;rintro e w5 ⟨v5,rfl,ad,j⟩)
    obtain⟨Q,S,G2,R,_,X,Z,G7⟩:=f.o;exact⟨_,_,_,_,_,_,_,_,_,_,_,rfl,Ja ⟨λh=>(Q h).below j,λh=>(S h).below j,λh=>(G2 h).below j,λh=>(R h).below j,λ_=>ad,λh=>(X h).below j,λh=>(Z h).below j,G7⟩,Ja (g.o.below j)⟩
  . clear m;obtain⟨a,l,c,n,r⟩:=g.o.poly2 (i:=1) rfl;have e0:=n.cell;refine Za ?_;exact⟨_,_,_,_,_,_,_,_,_,_,_,rfl,(D0 f λ_=>r),Ja (g.o)⟩
  . have z:=(f.o.2.2.2.2.1 (m 4 DQ));have A:=((Ds f) (m 5 DQ));have HC:=Ja (Ur.o V _ _ z A);clear m z A;refine Jb rfl rfl λK hK=>?_;go_simp;go_wp2_with(go_at_call 46;refine HC.o.mono ?_;rintro e w5 ⟨v5,rfl,ad,j⟩)
    obtain⟨Q,S,G2,R,U,X,_,G7⟩:=f.o;exact⟨_,_,_,_,_,_,_,_,_,_,_,rfl,Ja ⟨λh=>(Q h).below j,λh=>(S h).below j,λh=>(G2 h).below j,λh=>(R h).below j,λh=>(U h).below j,λh=>(X h).below j,λ_=>ad,G7⟩,Ja (g.o.below j)⟩
  . have hf:D 9=false:=DU ai Y;obtain rfl:=f.o.2.2.2.2.2.2.2.1.1 Y;clear m;refine Za ?_;obtain⟨Q,S,G2,R,U,X,Z,_,G8⟩:=f.o;exact⟨_,_,_,_,_,_,_,_,_,_,_,rfl,Ja ⟨λh=>(Q h).alloc _,λh=>(S h).alloc _,λh=>(G2 h).alloc _,λh=>(R h).alloc _,λh=>(U h).alloc _,λh=>(X h).alloc _,λh=>(Z h).alloc _,⟨λh=>by simp at h,λ_ _=>⟨_,rfl,rfl⟩,λh=>by simp[hf]at h⟩,G8⟩,Ja (g.o.fill (i:=2) rfl (.poly []) (Hf _))⟩
  . have hf:D 10=false:=DU ai Y;obtain rfl:=EF f Y;clear m;refine Za ?_;obtain⟨Q,S,G2,R,U,X,Z,G7,_⟩:=f.o;exact⟨_,_,_,_,_,_,_,_,_,_,_,rfl,Ja ⟨λh=>(Q h).alloc _,λh=>(S h).alloc _,λh=>(G2 h).alloc _,λh=>(R h).alloc _,λh=>(U h).alloc _,λh=>(X h).alloc _,λh=>(Z h).alloc _,G7,⟨λh=>by simp at h,λ_ _=>⟨_,rfl,rfl⟩,λh=>by simp[hf]at h⟩⟩,Ja (g.o.fill (i:=3) rfl (.poly []) (Hf _))⟩
  . obtain⟨B,rfl,rfl⟩:=f.o.2.2.2.2.2.2.2.1.2.1 (m 7 DQ) Y;have Qc:=m 7 DQ;have hv:=(f.o.2.2.1 (m 2 DQ));obtain⟨a1,l1,c1,rfl⟩:=Jg.form (show Jg V _ _ from hv);obtain⟨a,l,c,n,r⟩:=g.o.poly2 (i:=2) rfl;have e0:=n.cell;have f0:=n.frozen;clear m;refine Za ?_;obtain⟨Q,S,G2,R,U,X,Z,_,G8⟩:=f.o;exact⟨_,_,_,_,_,_,_,_,_,_,_,rfl,Ja ⟨λh=>(Q h).set1 n rfl _,λh=>(S h).set1 n rfl _,λh=>(G2 h).set1 n rfl _,λh=>(R h).set1 n rfl _,λh=>(U h).set1 n rfl _,λh=>(X h).set1 n rfl _,λh=>(Z h).set1 n rfl _,⟨λh=>by simp[Qc]at h,λ_ h=>by simp at h,λ_=>⟨B,rfl,rfl⟩⟩,G8⟩,Ja (g.o.putPoly (i:=2) rfl hv)⟩
  . obtain⟨B,rfl,rfl⟩:=EU f (m 8 DQ) Y;have Qc:=m 8 DQ;have hv:=((Dy f) (m 6 DQ));obtain⟨a1,l1,c1,rfl⟩:=Jg.form (show Jg V _ _ from hv);obtain⟨a,l,c,n,r⟩:=g.o.poly2 (i:=3) rfl;have e0:=n.cell;have f0:=n.frozen;clear m;refine Za ?_;obtain⟨Q,S,G2,R,U,X,Z,G7,_⟩:=f.o;exact⟨_,_,_,_,_,_,_,_,_,_,_,rfl,Ja ⟨λh=>(Q h).set1 n rfl _,λh=>(S h).set1 n rfl _,λh=>(G2 h).set1 n rfl _,λh=>(R h).set1 n rfl _,λh=>(U h).set1 n rfl _,λh=>(X h).set1 n rfl _,λh=>(Z h).set1 n rfl _,G7,⟨λh=>by simp[Qc]at h,λ_ h=>by simp at h,λ_=>⟨B,rfl,rfl⟩⟩⟩,Ja (g.o.putPoly (i:=3) rfl hv)⟩
 rintro D ae V8 af ⟨te,tf,tg,ti,tj,tk,tl,tA,tD,x7,x8,rfl,f,g⟩;obtain⟨B9,rfl,rfl⟩:=f.o.2.2.2.2.2.2.2.1.2.2 (af 9 DS);obtain⟨B10,rfl,rfl⟩:=f.o.2.2.2.2.2.2.2.2.2.2 (af 10 DS);clear f af M4;have M5:Hid (Mem w V8 [some (w.heap.size,.poly (q)),some (B6,.poly (c)),some (B9,.poly (w0)),some (B10,.poly (y0))]):=g;clear g;go_wp2;go_loopw [6,7] (λlv tv wr=>∃(k:Nat) (xa:Option Addr) (xc:Nat),k<=N/\lv=E xa (yL w0 y0 k).length xc/\tv=.int .i64 ((k+1:Nat):Int)/\Hid (E9 w.heap.size wr (E xa (yL w0 y0 k).length xc) (yL w0 y0 k))/\Hid (Mem w wr [some (w.heap.size,.poly (q)),some (B6,.poly (c)),some (B9,.poly ((Er w0 y0 k).1)),some (B10,.poly ((Er w0 y0 k).2))])) (λ_ tv _=>N+1-(intOf tv).toNat)
 case atStart=>exact⟨0,none,0,AK _,rfl,rfl,Ja (Eg.nil _ _ _),M5⟩
 case round=>
  clear M5 Us Ul Ur Ue;obtain⟨k,xa,xc,hk,rfl,rfl,XL,M6⟩:=hrel;obtain⟨o,cl⟩:=ex ((Er w0 y0 k).1);obtain⟨s,cn⟩:=ex ((Er w0 y0 k).2);obtain⟨L,hL⟩:=ex (yL w0 y0 k);have Qa:=Ja (show(Er w0 y0 k).1=o/\(Er w0 y0 k).2=s/\yL w0 y0 k=L/\L.length<=k from⟨cl,cn,hL,by rw[<-hL];exact fB _ _ _⟩);rw[cl,cn]at M6;rw[hL]at XL;clear cl cn hL;rw[Qa.o.2.2.1];obtain⟨ll,ce⟩:=ex (L.length:Nat);rw[ce]at XL ⊢;have Qn:=Ja ce;clear ce;obtain⟨T,hT⟩:=ex (k+1:Nat);rw[hT];have Qe:=Ja hT;clear hT;obtain⟨bn,ct,bu,bi,r11⟩:=M6.o.poly2 (i:=2) rfl;have Qd:=bi.cell;have H1:=Ja (Qy.o wr _ o r11);obtain⟨d1,cj⟩:=ex ((o.length:Int)-1:Int);rw[cj]at H1;have Up:=Ja cj;clear cj;by_cases dz:k<N
  . have Wg:(0:Int)<d1:=by have A:=(Uw.o k dz).1;rw[Qa.o.1]at A;have:=Up.o;omega
    have HO:=Ja (show StOk K M o s by have A:=(Uw.o k dz).2;rwa[Qa.o.1,Qa.o.2.1]at A);go_upto_region 10 with(go_at_call 20;refine H1.o.mono ?_;clear H1;rintro e w1 ⟨rfl,hq⟩;clear Qd;have Qd:=(boxed_below bi hq).cell)
    have M7:Hid (Mem w w1 [some (w.heap.size,.poly (q)),some (B6,.poly (c)),some (B9,.poly (o)),some (B10,.poly (s))]):=Ja (M6.o.below hq);have Um:=Ja (XL.o.below hq);clear XL hq bi r11 Qd M6;refine Jk Qo [[],[],[1],[0,2,2],[3,3,0,1,2,3]] (by kernel_rfl) DS
     (λD ae V=>∃(tm tn tr ts:H) (y3:Option (Nat × Dat)),ae={ tmps:=#[I #[E pa la pc],G (some ⟨w.heap.size,0,none⟩),E none 0 0,G (some ⟨B6,0,none⟩),G (some ⟨B9,0,none⟩),G (some ⟨B10,0,none⟩),E xa ll xc,.int .i64 ↑T,u8,I #[E a1 l1 c1],.int .i64 d0,.bool (decide (d0<1)),I #[E a2 l2 c2],I #[E an ak am],ta,tb,tc,td,te,tf,tg,ti,tj,tk,tl,I #[E bn ct bu],.int .i64 d1,.bool true,u28,u29,tm,tn,tr,ts,u34,u35,u36,u37,u38,u39,u40,u41,u42,u43,u44,u45,u46,u47,u48,u49,u50,u51,C],defers:=[] }/\Hid ((D 0=true->Has V tm (.poly (s)))/\(D 1=true->Has V tn (.poly (o)))/\(D 2=true->Has V tr (.poly (Jm o)))/\(D 3=true->Has V ts (.poly (J2 s (Jm o))))/\((D 4=false->y3=some (B10,.poly (s)))/\(D 4=true->y3=some (B10,.poly (J2 s (Jm o))))))/\Hid (Mem w V [some (w.heap.size,.poly (q)),some (B6,.poly (c)),some (B9,.poly (o)),y3])/\Hid (E9 w.heap.size V (E xa ll xc) L))
     ⟨_,_,_,_,_,rfl,Ja ⟨DQ,DQ,DQ,DQ,⟨λ_=>rfl,DQ⟩⟩,Ja (M7.o).drew,Ja (Um.o.drew)⟩ ?step12 ?fin12
    case step12=>
     rintro D ae V i ds ai hi m Y ⟨tm,tn,tr,ts,y3,rfl,f,g,O⟩;have Qr:i<5:=(Ac.1 hi).1;obtain rfl|rfl|rfl|rfl|rfl:=Ka i om
     all_goals
      simp only[Af,Ae,Ag]at hi;subst hi
     . have hf:D 4=false:=DU ai Y;obtain rfl:=f.o.2.2.2.2.1 hf;clear m;obtain⟨a,l,c,n,r⟩:=g.o.poly2 (i:=3) rfl;have e0:=n.cell;refine Za ?_;exact⟨_,_,_,_,_,rfl,Ja ⟨λ_=>r,f.o.2.1,f.o.2.2.1,f.o.2.2.2.1,⟨λ_=>rfl,λh=>by simp[hf]at h⟩⟩,Ja (g.o),Ja (O.o)⟩
     . clear m;obtain⟨a,l,c,n,r⟩:=g.o.poly2 (i:=2) rfl;have e0:=n.cell;refine Za ?_;exact⟨_,_,_,_,_,rfl,(Dp f λ_=>r),Ja (g.o),Ja (O.o)⟩
     . have z:=(f.o.2.1 (m 1 DQ));have HC:=Ja (Wd.o o s HO.o V _ z);clear m z;refine Jb rfl rfl λK hK=>?_;go_simp;go_wp2_with(go_at_call 24;refine HC.o.mono ?_;rintro e w5 ⟨v5,rfl,ad,j⟩)
       exact⟨_,_,_,_,_,rfl,Ja ⟨λh=>(f.o.1 h).below j,λh=>(f.o.2.1 h).below j,λ_=>ad,λh=>(f.o.2.2.2.1 h).below j,f.o.2.2.2.2⟩,Ja (g.o.below j),Ja (O.o.below j)⟩
     . have z:=(f.o.1 (m 0 DQ));have A:=(f.o.2.2.1 (m 2 DQ));have HC:=Ja (Wh.o o s HO.o V _ _ z A);clear m z A;refine Jb rfl rfl λK hK=>?_;go_simp;go_wp2_with(go_at_call 48;refine HC.o.mono ?_;rintro e w5 ⟨v5,rfl,ad,j⟩)
       exact⟨_,_,_,_,_,rfl,Ja ⟨λh=>(f.o.1 h).below j,λh=>(f.o.2.1 h).below j,λh=>(f.o.2.2.1 h).below j,λ_=>ad,f.o.2.2.2.2⟩,Ja (g.o.below j),Ja (O.o.below j)⟩
     . obtain rfl:=f.o.2.2.2.2.1 Y;have hv:=(f.o.2.2.2.1 (m 3 DQ));obtain⟨a1,l1,c1,rfl⟩:=Jg.form (show Jg V _ _ from hv);obtain⟨a,l,c,n,r⟩:=g.o.poly2 (i:=3) rfl;have e0:=n.cell;have f0:=n.frozen;clear m;refine Za ?_;exact⟨_,_,_,_,_,rfl,Ja ⟨λh=>(f.o.1 h).set1 n rfl _,λh=>(f.o.2.1 h).set1 n rfl _,λh=>(f.o.2.2.1 h).set1 n rfl _,λh=>(f.o.2.2.2.1 h).set1 n rfl _,⟨λh=>by simp at h,λ_=>rfl⟩⟩,Ja (g.o.putPoly (i:=3) rfl hv),Ja (O.o.set1 n rfl _)⟩
    rintro D ae ew af ⟨tm,tn,tr,ts,y3,rfl,f,g,O⟩;obtain rfl:=f.o.2.2.2.2.2 (af 4 DS);clear f af M7;have M8:Hid (Mem w ew [some (w.heap.size,.poly (q)),some (B6,.poly (c)),some (B9,.poly (o)),some (B10,.poly (J2 s (Jm o)))]):=g;clear g;have Uz:=O;clear O Um;obtain⟨P,hP⟩:=ex (JT o (J2 s (Jm o)));obtain⟨Qs,Qi,Qg,Qf⟩:=EC hP (Wl.o o s HO.o) (Wk.o o s HO.o) (Wc.o o s HO.o);rw[hP]at Qi Qg Qf;clear hP;obtain⟨ef,et,ei,f6,ed⟩:=M8.o.poly2 (i:=2) rfl;have Uc:=f6.cell;obtain⟨f8,dx,dj,de,di⟩:=M8.o.poly2 (i:=3) rfl;have Ug:=de.cell;have H1:=Ja (Qi.o ew _ _ ed di);go_upto_region 12 with(go_at_call 8;refine H1.o.mono ?_;clear H1;rintro e w3 ⟨u3,rfl,bm,hq⟩;obtain⟨aq,aw,ay,rfl⟩:=Jg.form bm)
    have Un:=Ja ((Uz.o.below hq).alloc (J #[E aq aw ay] 25));clear Uz f6 ed Uc de di Ug;have Qk:=Un;clear Un;obtain⟨dw,hV⟩:=ex (w3.alloc (J #[E aq aw ay] 25));obtain⟨aj,ck⟩:=ex (w3.heap.size);have g:Mem w (w3.alloc (J #[E aq aw ay] 25)) [some (w.heap.size,.poly (q)),some (B6,.poly (c)),some (B9,.poly (o)),some (B10,.poly (J2 s (Jm o))),some (w3.heap.size,.poly (P))]:=Mem.push (M8.o.below hq) (.poly (P)) bm;rw[hV,ck]at g;rw[hV]at Qk;rw[hV];rw[ck];have M9:Hid (Mem w dw [some (w.heap.size,.poly (q)),some (B6,.poly (c)),some (B9,.poly (o)),some (B10,.poly (J2 s (Jm o))),some (aj,.poly (P))]):=Ja (g);clear M8;clear g hV ck bm hq;obtain⟨bh,bg,bc,ap,bj⟩:=M9.o.poly2 (i:=4) rfl;have Qb:=ap.cell;have H1:=Ja (Qy.o dw _ P bj);obtain⟨d2,cg⟩:=ex ((P.length:Int)-1:Int);rw[cg]at H1;have Ux:=Ja cg;clear cg;by_cases dt:1<P.length
    . have We:(0:Int)<d2:=by have:=Ux.o;omega
      have Qp:=Ja (show yL w0 y0 (k+1)=L++[(P,T)]by rw[yL,Qa.o.2.2.1];unfold yP;rw[Qa.o.1,Qa.o.2.1,Qs.o,BG dt,Qe.o]);go_upto_region 13 with(go_at_call 20;refine H1.o.mono ?_;clear H1;rintro e w4 ⟨rfl,hq⟩;clear Qb;have Qb:=(boxed_below ap hq).cell)
      have X4:=Qk.o.below hq;have M4:=M9.o.below hq;have r4:=bj.below hq;have Uv:=M4.2.2.size;obtain⟨v',w',ci,X5,dh,f7,f9⟩:=fA true w.heap.size w4 (E xa ll xc) L X4 (t:=T) r4.row (by have:=Qa.o.2.2.2;omega) Uv;obtain⟨ya,yc,du,_,_⟩:=X5.form;rw[Ai,show([(P,T)]:List (List Rat × Nat)).length=1 from rfl]at du;subst du;have M5:=M4.farP dh (f7 _ w (Aa _) M4.2.2) (λi B d e=>by rcases i with _|_|_|_|_|i<;>simp at e<;>(obtain⟨rfl,rfl⟩:=e;show 25≠44;decide));have e4:=(boxed_below ap hq).cell;clear X4 r4 Uv dh f7 f9 hq M4 ap bj Qb Qk;rw[show Gt true=39 from rfl,show ER true=44 from rfl]at ci;go_upto_region 14 with(first
       |(at_builtin;refine Bi _ rfl _ _ 39 39 rfl _ _ rfl rfl _ _ ci ?_;clear ci))
      clear e4 M9;have Qq:Hid (Mem w w' [some (w.heap.size,.poly (q)),some (B6,.poly (c)),some (B9,.poly (o)),some (B10,.poly (J2 s (Jm o))),some (aj,.poly (P))]):=Ja (M5);clear M5;have Uu:Hid (E9 w.heap.size w' (E ya (L.length+1) yc) (L++[(P,T)])):=Ja X5;clear X5;rw[Qn.o]at Uu;refine Jk Qo [[],[],[0,1],[],[],[3,4,2],[2,5,0,1,2],[5,6,0,1,2,3,4,5,6]] (by kernel_rfl) DS
       (λD ae V=>∃(tu tw tx tz tB tC:H) (y2 y3:Option (Nat × Dat)),ae={ tmps:=#[I #[E pa la pc],G (some ⟨w.heap.size,0,none⟩),E none 0 0,G (some ⟨B6,0,none⟩),G (some ⟨B9,0,none⟩),G (some ⟨B10,0,none⟩),E ya (L.length+1) yc,.int .i64 ↑T,G (some ⟨aj,0,none⟩),I #[E a1 l1 c1],.int .i64 d0,.bool (decide (d0<1)),I #[E a2 l2 c2],I #[E an ak am],ta,tb,tc,td,te,tf,tg,ti,tj,tk,tl,I #[E bn ct bu],.int .i64 d1,.bool true,u28,u29,tm,tn,tr,ts,I #[E ef et ei],I #[E f8 dx dj],I #[E aq aw ay],I #[E bh bg bc],.int .i64 d2,.bool true,E xa ll xc,I #[E bh bg bc],.int .i64 ↑T,I #[E bh bg bc,.int .i64 ↑T],E (some ⟨w4.heap.size,0,none⟩) 1 1,E ya (L.length+1) yc,tu,tw,tx,tz,tB,tC,C],defers:=[] }/\Hid ((D 0=true->Has V tu (.poly (o)))/\(D 1=true->Has V tw (.poly (P)))/\(D 2=true->Has V tx (.poly (Dr o P)))/\(D 3=true->Has V tz (.poly (J2 s (Jm o))))/\(D 4=true->Has V tB (.poly (P)))/\(D 5=true->Has V tC (.poly (Dr (J2 s (Jm o)) P)))/\((D 6=false->y2=some (B9,.poly (o)))/\(D 6=true->y2=some (B9,.poly (Dr o P))))/\((D 7=false->y3=some (B10,.poly (J2 s (Jm o))))/\(D 7=true->y3=some (B10,.poly (Dr (J2 s (Jm o)) P)))))/\Hid (Mem w V [some (w.heap.size,.poly (q)),some (B6,.poly (c)),y2,y3,some (aj,.poly (P))])/\Hid (E9 w.heap.size V (E ya (ll+1) yc) (L++[(P,T)])))
       ⟨_,_,_,_,_,_,_,_,rfl,Ja ⟨DQ,DQ,DQ,DQ,DQ,DQ,⟨λ_=>rfl,DQ⟩,⟨λ_=>rfl,DQ⟩⟩,Ja (Qq.o).drew,Ja (Uu.o.drew)⟩ ?step18 ?fin18
      case step18=>
       rintro D ae V i ds ai hi m Y ⟨tu,tw,tx,tz,tB,tC,y2,y3,rfl,f,g,O⟩;have Qr:i<8:=(Ac.1 hi).1;obtain rfl|rfl|rfl|rfl|rfl|rfl|rfl|rfl:=LP i om
       all_goals
        simp only[Af,Ae,Ag]at hi;subst hi
       . have hf:D 6=false:=DU ai Y;obtain rfl:=f.o.2.2.2.2.2.2.1.1 hf;clear m;obtain⟨a,l,c,n,r⟩:=g.o.poly2 (i:=2) rfl;have e0:=n.cell;refine Za ?_;exact⟨_,_,_,_,_,_,_,_,rfl,(Dw (Dh f (λ_=>r)) ⟨λ_=>rfl,λh=>by simp[hf]at h⟩),Ja (g.o),Ja (O.o)⟩
       . clear m;obtain⟨a,l,c,n,r⟩:=g.o.poly2 (i:=4) rfl;have e0:=n.cell;refine Za ?_;exact⟨_,_,_,_,_,_,_,_,rfl,(Dp f λ_=>r),Ja (g.o),Ja (O.o)⟩
       . have z:=(f.o.1 (m 0 DQ));have A:=(f.o.2.1 (m 1 DQ));have HC:=Ja (Qg.o V _ _ z A);clear m z A;refine Jb rfl rfl λK hK=>?_;go_simp;go_wp2_with(go_at_call 46;refine HC.o.mono ?_;rintro e w5 ⟨v5,rfl,ad,j⟩)
         obtain⟨Q,S,_,R,U,X,Z⟩:=f.o;exact⟨_,_,_,_,_,_,_,_,rfl,Ja ⟨λh=>(Q h).below j,λh=>(S h).below j,λ_=>ad,λh=>(R h).below j,λh=>(U h).below j,λh=>(X h).below j,Z⟩,Ja (g.o.below j),Ja (O.o.below j)⟩
       . have hf:D 7=false:=DU ai Y;obtain rfl:=D9 f hf;clear m;obtain⟨a,l,c,n,r⟩:=g.o.poly2 (i:=3) rfl;have e0:=n.cell;refine Za ?_;exact⟨_,_,_,_,_,_,_,_,rfl,(Ls (Di f (λ_=>r)) ⟨λ_=>rfl,λh=>by simp[hf]at h⟩),Ja (g.o),Ja (O.o)⟩
       . clear m;obtain⟨a,l,c,n,r⟩:=g.o.poly2 (i:=4) rfl;have e0:=n.cell;refine Za ?_;exact⟨_,_,_,_,_,_,_,_,rfl,(Dx f λ_=>r),Ja (g.o),Ja (O.o)⟩
       . have z:=(f.o.2.2.2.1 (m 3 DQ));have A:=(f.o.2.2.2.2.1 (m 4 DQ));have HC:=Ja (Qf.o V _ _ z A);clear m z A;refine Jb rfl rfl λK hK=>?_;go_simp;go_wp2_with(go_at_call 46;refine HC.o.mono ?_;rintro e w5 ⟨v5,rfl,ad,j⟩)
         obtain⟨Q,S,G2,R,U,_,Z⟩:=f.o;exact⟨_,_,_,_,_,_,_,_,rfl,Ja ⟨λh=>(Q h).below j,λh=>(S h).below j,λh=>(G2 h).below j,λh=>(R h).below j,λh=>(U h).below j,λ_=>ad,Z⟩,Ja (g.o.below j),Ja (O.o.below j)⟩
       . obtain rfl:=f.o.2.2.2.2.2.2.1.1 Y;have hv:=(f.o.2.2.1 (m 2 DQ));obtain⟨a1,l1,c1,rfl⟩:=Jg.form (show Jg V _ _ from hv);obtain⟨a,l,c,n,r⟩:=g.o.poly2 (i:=2) rfl;have e0:=n.cell;have f0:=n.frozen;clear m;refine Za ?_;obtain⟨Q,S,G2,R,U,X,_,G7⟩:=f.o;exact⟨_,_,_,_,_,_,_,_,rfl,Ja ⟨λh=>(Q h).set1 n rfl _,λh=>(S h).set1 n rfl _,λh=>(G2 h).set1 n rfl _,λh=>(R h).set1 n rfl _,λh=>(U h).set1 n rfl _,λh=>(X h).set1 n rfl _,⟨λh=>by simp at h,λ_=>rfl⟩,G7⟩,Ja (g.o.putPoly (i:=2) rfl hv),Ja (O.o.set1 n rfl _)⟩
       . obtain rfl:=D9 f Y;have hv:=((Ds f) (m 5 DQ));obtain⟨a1,l1,c1,rfl⟩:=Jg.form (show Jg V _ _ from hv);obtain⟨a,l,c,n,r⟩:=g.o.poly2 (i:=3) rfl;have e0:=n.cell;have f0:=n.frozen;clear m;refine Za ?_;obtain⟨Q,S,G2,R,U,X,Z,_⟩:=f.o;exact⟨_,_,_,_,_,_,_,_,rfl,Ja ⟨λh=>(Q h).set1 n rfl _,λh=>(S h).set1 n rfl _,λh=>(G2 h).set1 n rfl _,λh=>(R h).set1 n rfl _,λh=>(U h).set1 n rfl _,λh=>(X h).set1 n rfl _,Z,⟨λh=>by simp at h,λ_=>rfl⟩⟩,Ja (g.o.putPoly (i:=3) rfl hv),Ja (O.o.set1 n rfl _)⟩
      rintro D ae dp af ⟨tu,tw,tx,tz,tB,tC,y2,y3,rfl,f,g,O⟩;obtain rfl:=f.o.2.2.2.2.2.2.1.2 (af 6 DS);obtain rfl:=f.o.2.2.2.2.2.2.2.2 (af 7 DS);clear f af Qq;have Qj:Hid (Mem w dp [some (w.heap.size,.poly (q)),some (B6,.poly (c)),some (B9,.poly (Dr o P)),some (B10,.poly (Dr (J2 s (Jm o)) P)),some (aj,.poly (P))]):=g;clear g;have Uf:Hid (Mem w dp [some (w.heap.size,.poly (q)),some (B6,.poly (c)),some (B9,.poly (Dr o P)),some (B10,.poly (Dr (J2 s (Jm o)) P))]):=Ja (Qj.o.take 4);have Ql:=Ja (show(Er w0 y0 (k+1)).1=Dr o P/\(Er w0 y0 (k+1)).2=Dr (J2 s (Jm o)) P by rw[Er];unfold Om;rw[Qa.o.1,Qa.o.2.1,Qs.o];exact⟨rfl,rfl⟩);have Wa:T+1<=9223372036854775807:=by have:=Qe.o;omega
      clear Qj;go_wp2_with fail
      go_roundw
      case rel=>exact⟨k+1,ya,yc,om,by rw[Qp.o,Ai,Qn.o];rfl,by rw[Qe.o];go_num,by rw[Qp.o,Ai,Qn.o];exact O,by rw[Ql.o.1,Ql.o.2];exact Uf⟩
      case measure=>simp[intOf];have:=Qe.o;omega
    . have We:¬(0:Int)<d2:=by have:=Ux.o;omega
      have Qp:=Ja (show yL w0 y0 (k+1)=L by rw[yL,Qa.o.2.2.1];unfold yP;rw[Qa.o.1,Qa.o.2.1,Qs.o,BC dt,Cl]);go_upto_region 14 with(go_at_call 20;refine H1.o.mono ?_;clear H1;rintro e w4 ⟨rfl,hq⟩;clear Qb;have Qb:=(boxed_below ap hq).cell)
      have Wb:=Ja (Qk.o.below hq);have Qq:Hid (Mem w w4 [some (w.heap.size,.poly (q)),some (B6,.poly (c)),some (B9,.poly (o)),some (B10,.poly (J2 s (Jm o))),some (aj,.poly (P))]):=Ja (M9.o.below hq);clear M9;clear hq ap bj Qb Qk;refine Jk Qo [[],[],[0,1],[],[],[3,4,2],[2,5,0,1,2],[5,6,0,1,2,3,4,5,6]] (by kernel_rfl) DS
       (λD ae V=>∃(tu tw tx tz tB tC:H) (y2 y3:Option (Nat × Dat)),ae={ tmps:=#[I #[E pa la pc],G (some ⟨w.heap.size,0,none⟩),E none 0 0,G (some ⟨B6,0,none⟩),G (some ⟨B9,0,none⟩),G (some ⟨B10,0,none⟩),E xa ll xc,.int .i64 ↑T,G (some ⟨aj,0,none⟩),I #[E a1 l1 c1],.int .i64 d0,.bool (decide (d0<1)),I #[E a2 l2 c2],I #[E an ak am],ta,tb,tc,td,te,tf,tg,ti,tj,tk,tl,I #[E bn ct bu],.int .i64 d1,.bool true,u28,u29,tm,tn,tr,ts,I #[E ef et ei],I #[E f8 dx dj],I #[E aq aw ay],I #[E bh bg bc],.int .i64 d2,.bool (decide (0<d2)),u40,u41,u42,u43,u44,u45,tu,tw,tx,tz,tB,tC,C],defers:=[] }/\Hid ((D 0=true->Has V tu (.poly (o)))/\(D 1=true->Has V tw (.poly (P)))/\(D 2=true->Has V tx (.poly (Dr o P)))/\(D 3=true->Has V tz (.poly (J2 s (Jm o))))/\(D 4=true->Has V tB (.poly (P)))/\(D 5=true->Has V tC (.poly (Dr (J2 s (Jm o)) P)))/\((D 6=false->y2=some (B9,.poly (o)))/\(D 6=true->y2=some (B9,.poly (Dr o P))))/\((D 7=false->y3=some (B10,.poly (J2 s (Jm o))))/\(D 7=true->y3=some (B10,.poly (Dr (J2 s (Jm o)) P)))))/\Hid (Mem w V [some (w.heap.size,.poly (q)),some (B6,.poly (c)),y2,y3,some (aj,.poly (P))])/\Hid (E9 w.heap.size V (E xa ll xc) L))
       ⟨_,_,_,_,_,_,_,_,rfl,Ja ⟨DQ,DQ,DQ,DQ,DQ,DQ,⟨λ_=>rfl,DQ⟩,⟨λ_=>rfl,DQ⟩⟩,Ja (Qq.o).drew,Ja (Wb.o.drew)⟩ ?step20 ?fin20
      case step20=>
       rintro D ae V i ds ai hi m Y ⟨tu,tw,tx,tz,tB,tC,y2,y3,rfl,f,g,O⟩;have Qr:i<8:=(Ac.1 hi).1;obtain rfl|rfl|rfl|rfl|rfl|rfl|rfl|rfl:=LP i om
       all_goals
        simp only[Af,Ae,Ag]at hi;subst hi
       . have hf:D 6=false:=DU ai Y;obtain rfl:=f.o.2.2.2.2.2.2.1.1 hf;clear m;obtain⟨a,l,c,n,r⟩:=g.o.poly2 (i:=2) rfl;have e0:=n.cell;refine Za ?_;exact⟨_,_,_,_,_,_,_,_,rfl,(Dw (Dh f (λ_=>r)) ⟨λ_=>rfl,λh=>by simp[hf]at h⟩),Ja (g.o),Ja (O.o)⟩
       . clear m;obtain⟨a,l,c,n,r⟩:=g.o.poly2 (i:=4) rfl;have e0:=n.cell;refine Za ?_;exact⟨_,_,_,_,_,_,_,_,rfl,(Dp f λ_=>r),Ja (g.o),Ja (O.o)⟩
       . have z:=(f.o.1 (m 0 DQ));have A:=(f.o.2.1 (m 1 DQ));have HC:=Ja (Qg.o V _ _ z A);clear m z A;refine Jb rfl rfl λK hK=>?_;go_simp;go_wp2_with(go_at_call 46;refine HC.o.mono ?_;rintro e w5 ⟨v5,rfl,ad,j⟩)
         obtain⟨Q,S,_,R,U,X,Z⟩:=f.o;exact⟨_,_,_,_,_,_,_,_,rfl,Ja ⟨λh=>(Q h).below j,λh=>(S h).below j,λ_=>ad,λh=>(R h).below j,λh=>(U h).below j,λh=>(X h).below j,Z⟩,Ja (g.o.below j),Ja (O.o.below j)⟩
       . have hf:D 7=false:=DU ai Y;obtain rfl:=D9 f hf;clear m;obtain⟨a,l,c,n,r⟩:=g.o.poly2 (i:=3) rfl;have e0:=n.cell;refine Za ?_;exact⟨_,_,_,_,_,_,_,_,rfl,(Ls (Di f (λ_=>r)) ⟨λ_=>rfl,λh=>by simp[hf]at h⟩),Ja (g.o),Ja (O.o)⟩
       . clear m;obtain⟨a,l,c,n,r⟩:=g.o.poly2 (i:=4) rfl;have e0:=n.cell;refine Za ?_;exact⟨_,_,_,_,_,_,_,_,rfl,(Dx f λ_=>r),Ja (g.o),Ja (O.o)⟩
       . have z:=(f.o.2.2.2.1 (m 3 DQ));have A:=(f.o.2.2.2.2.1 (m 4 DQ));have HC:=Ja (Qf.o V _ _ z A);clear m z A;refine Jb rfl rfl λK hK=>?_;go_simp;go_wp2_with(go_at_call 46;refine HC.o.mono ?_;rintro e w5 ⟨v5,rfl,ad,j⟩)
         obtain⟨Q,S,G2,R,U,_,Z⟩:=f.o;exact⟨_,_,_,_,_,_,_,_,rfl,Ja ⟨λh=>(Q h).below j,λh=>(S h).below j,λh=>(G2 h).below j,λh=>(R h).below j,λh=>(U h).below j,λ_=>ad,Z⟩,Ja (g.o.below j),Ja (O.o.below j)⟩
       . obtain rfl:=f.o.2.2.2.2.2.2.1.1 Y;have hv:=(f.o.2.2.1 (m 2 DQ));obtain⟨a1,l1,c1,rfl⟩:=Jg.form (show Jg V _ _ from hv);obtain⟨a,l,c,n,r⟩:=g.o.poly2 (i:=2) rfl;have e0:=n.cell;have f0:=n.frozen;clear m;refine Za ?_;obtain⟨Q,S,G2,R,U,X,_,G7⟩:=f.o;exact⟨_,_,_,_,_,_,_,_,rfl,Ja ⟨λh=>(Q h).set1 n rfl _,λh=>(S h).set1 n rfl _,λh=>(G2 h).set1 n rfl _,λh=>(R h).set1 n rfl _,λh=>(U h).set1 n rfl _,λh=>(X h).set1 n rfl _,⟨λh=>by simp at h,λ_=>rfl⟩,G7⟩,Ja (g.o.putPoly (i:=2) rfl hv),Ja (O.o.set1 n rfl _)⟩
       . obtain rfl:=D9 f Y;have hv:=((Ds f) (m 5 DQ));obtain⟨a1,l1,c1,rfl⟩:=Jg.form (show Jg V _ _ from hv);obtain⟨a,l,c,n,r⟩:=g.o.poly2 (i:=3) rfl;have e0:=n.cell;have f0:=n.frozen;clear m;refine Za ?_;obtain⟨Q,S,G2,R,U,X,Z,_⟩:=f.o;exact⟨_,_,_,_,_,_,_,_,rfl,Ja ⟨λh=>(Q h).set1 n rfl _,λh=>(S h).set1 n rfl _,λh=>(G2 h).set1 n rfl _,λh=>(R h).set1 n rfl _,λh=>(U h).set1 n rfl _,λh=>(X h).set1 n rfl _,Z,⟨λh=>by simp at h,λ_=>rfl⟩⟩,Ja (g.o.putPoly (i:=3) rfl hv),Ja (O.o.set1 n rfl _)⟩
      rintro D ae eh af ⟨tu,tw,tx,tz,tB,tC,y2,y3,rfl,f,g,O⟩;obtain rfl:=f.o.2.2.2.2.2.2.1.2 (af 6 DS);obtain rfl:=f.o.2.2.2.2.2.2.2.2 (af 7 DS);clear f af Qq;have Qj:Hid (Mem w eh [some (w.heap.size,.poly (q)),some (B6,.poly (c)),some (B9,.poly (Dr o P)),some (B10,.poly (Dr (J2 s (Jm o)) P)),some (aj,.poly (P))]):=g;clear g;have Uf:Hid (Mem w eh [some (w.heap.size,.poly (q)),some (B6,.poly (c)),some (B9,.poly (Dr o P)),some (B10,.poly (Dr (J2 s (Jm o)) P))]):=Ja (Qj.o.take 4);have Ql:=Ja (show(Er w0 y0 (k+1)).1=Dr o P/\(Er w0 y0 (k+1)).2=Dr (J2 s (Jm o)) P by rw[Er];unfold Om;rw[Qa.o.1,Qa.o.2.1,Qs.o];exact⟨rfl,rfl⟩);have Wa:T+1<=9223372036854775807:=by have:=Qe.o;omega
      clear Qj;go_wp2_with fail
      go_roundw
      case rel=>exact⟨k+1,xa,xc,om,by rw[Qp.o,Qn.o],by rw[Qe.o];go_num,by rw[Qp.o,Qn.o];exact O,by rw[Ql.o.1,Ql.o.2];exact Uf⟩
      case measure=>simp[intOf];have:=Qe.o;omega
  . obtain rfl:k=N:=om
    have Wg:¬(0:Int)<d1:=by have A:=Wm.o;rw[Qa.o.1]at A;have:=Up.o;omega
    go_wp2_with(go_at_call 20;refine H1.o.mono ?_;clear H1;rintro e w1 ⟨rfl,hq⟩;clear Qd;have Qd:=(boxed_below bi hq).cell)
    have HF:=Ja (show Eg true w.heap.size w1 (E xa ll xc) (yL w0 y0 k)/\Bl w w1 by rw[Qa.o.2.2.1];exact⟨XL.o.below hq,(M6.o.below hq).2.2⟩);go_ret;exact⟨_,rfl,HF.o⟩
end M3
end Go.Proofs.YteldjhhjnchdeaaGreatDoor
namespace Go.Proofs.YteldjhhjnchdeaaGreatDoor
open Go.RowKit Go.Shelf
attribute [local go_sem] Oper.semAt_some
variable{v:H}{W:F}
theorem _root_.Go.Boxed.bel{W':F}{B:Nat}{t:TypeId}(h:Boxed W B t v)(a:Bl W W'):Boxed W' B t v:=(a.block B h.lt).trans h
theorem Gu(p:List Rat)(a:List Int)(e:p=a.map (λz:Int=>(z:Rat)))(h:a.all (λz=>decide (z.natAbs<100))=true):Cd 1 p:=by
 refine⟨1,DS,Sm.one 1 om,Eo.cdl (λi=>?_)⟩;rw[e];by_cases b:i<a.length
 . refine⟨a[i],?_,?_⟩
   . have c:=A4.1 h a[i] (List.getElem_mem b);have d:a[i].natAbs<100:=Bf c;unfold Sm DR;omega
   . unfold cf;rw[CT,Ah b];rfl
 . exact⟨0,Sm.zero 1,by rw[J4 si];rfl⟩
def aP:List Rat:=[1,-1,-1,1]
theorem fE:JQ [120,94,51,45,120,94,50,45,120,43,49]=(aP,0,0):=D5
theorem TC:Jd aP=aP:=D5
theorem LN:JG aP=aP:=D5
theorem Ix:Jm aP=[-1,-2,3]:=D5
theorem On:JT aP [-1,-2,3]=[-1,1]:=D5
theorem Oo:Dr aP [-1,1]=[-1,0,1]:=D5
theorem Op:Dr [-1,-2,3] [-1,1]=[1,3]:=D5
theorem fF:Er [-1,0,1] [1,3] 1=([-1,1],[1]):=D5
theorem fG:Er [-1,0,1] [1,3] 2=([1],[]):=D5
theorem fH:yL [-1,0,1] [1,3] 2=[([1,1],1),([-1,1],2)]:=D5
theorem TD:Cd 1 aP:=Gu aP [1,-1,-1,1] D5 DS
theorem fI:Cd 1 [-1,-2,3]:=Gu _ [-1,-2,3] D5 DS
theorem TE:M3.ChOk 1 aP [-1,-2,3]:=⟨TC,D5,TD,fI,DS,DS⟩
theorem fJ:StOk 1 20 [-1,0,1] [1,3]:=by
 have a:Jm [-1,0,1]=[0,2]:=D5
 have b:J2 [1,3] [0,2]=[1,1]:=D5
 have c1:Cd 1 [-1,0,1]:=Gu _ [-1,0,1] D5 DS;have c2:Cd 1 [1,1]:=Gu _ [1,1] D5 DS;have c3:Cd 1 [0,2]:=Gu _ [0,2] D5 DS;have c4:Cd 1 [1,3]:=Gu _ [1,3] D5 DS;refine⟨?_,D5,c1.mono om,?_,c4.mono om,?_,?_,DS,?_⟩
 . rw[a,b];exact⟨D5,D5,c1,c2,DS,DS⟩
 . rw[a];exact c3.mono om
 . rw[a,b];exact c2.mono om
 . rw[a,b];decide
 . rw[a,b];decide
theorem fK:StOk 1 20 [-1,1] [1]:=by
 have a:Jm [-1,1]=[1]:=D5
 have b:J2 [1] [1]=[]:=D5
 have c1:Cd 1 [-1,1]:=Gu _ [-1,1] D5 DS;have c2:Cd 1 []:=Gu _ [] D5 DS;have c3:Cd 1 [1]:=Gu _ [1] D5 DS;refine⟨?_,D5,c1.mono om,?_,c3.mono om,?_,?_,DS,?_⟩
 . rw[a,b];exact⟨D5,D5,c1,c2,DS,DS⟩
 . rw[a];exact c3.mono om
 . rw[a,b];exact c2.mono om
 . rw[a,b];decide
 . rw[a,b];decide
theorem fL:PtOk 1 20 2 aP:=by
 refine⟨TC,TD.mono om,?_,?_,DS,DS,om,?_,?_⟩
 . rw[LN,Ix];exact TE
 . rw[LN,Ix];decide
 . rw[LN,Ix,On,Oo,Op];intro n a;rcases n with _|_|n
   . exact⟨DS,fJ⟩
   . rw[show(0+1:Nat)=1 from rfl,fF];exact⟨DS,fK⟩
   . omega
 . rw[LN,Ix,On,Oo,Op,fG];decide
theorem fM:LM aP 2=[([1,1],1),([-1,1],2)]:=by
 unfold LM;rw[LN,Ix,On,Oo,Op,fH]
theorem fN:M3.FrOk 1 aP:=by
 refine⟨?_,?_⟩
 . rw[Ix];exact TE
 . rw[Ix];decide
theorem fO:KZ aP=[-1,0,1]:=D5
theorem fP:FZ [-1,1]=[120,45,49]:=D5
theorem fQ:FZ [-1,0,1]=[120,94,50,45,49]:=D5
theorem TF:Db [-1,1]:=(Gu [-1,1] [-1,1] D5 DS).sqs om
theorem TG:Db [-1,0,1]:=(Gu [-1,0,1] [-1,0,1] D5 DS).sqs om
theorem Eg.two{r:Bool}{base:Nat}{p q:List Rat}{s t:Nat}(h:Eg r base W v [(p,s),(q,t)]):∃g cap a l c a' l' c',v=E (some ⟨g,0,none⟩) 2 cap/\g<W.heap.size/\W.cell? ⟨g,0,none⟩=some (E a l c)/\W.cell? ⟨g,1,none⟩=some (.int .i64 (s:Int))/\W.cell? ⟨g,2,none⟩=some (E a' l' c')/\W.cell? ⟨g,3,none⟩=some (.int .i64 (t:Int))/\RowK r W (E a l c) p/\RowK r W (E a' l' c') q:=by
 rcases h with⟨_,h⟩|⟨g,cap,o,rfl,w,b,u,z,n,e⟩
 . simp at h
 . obtain⟨x,d,f,k⟩:=e.2 0 p s rfl;obtain⟨y,m,j,i⟩:=e.2 1 q t rfl;obtain⟨a,l,c,rfl⟩:=k.form;obtain⟨a',l',c',rfl⟩:=i.form;rw[AH DQ,Ck]at d f m j;exact⟨g,cap,a,l,c,a',l',c',rfl,(Ab.1 b).1,cell_of b d,cell_of b f,cell_of b m,cell_of b j,k,i⟩
theorem fR(w:F)(ad:E0 w):Calls Tryz.prog 15 #[] w λr o=>r=.returned (.bool true)/\Bl w o:=by
 have HT:=Ja ad;have W:=Ja (λ(V:F)=>show Calls Tryz.prog 23 #[L ⟨#[120,94,51,45,120,94,50,45,120,43,49]⟩] V λr o=>∃u,r=.returned (.tuple #[u,.int .i64 0,.int .i64 0])/\Jg o u aP/\Bl V o from
  (R8 ⟨#[120,94,51,45,120,94,50,45,120,43,49]⟩ V).mono (λr o h=>by
   obtain⟨u,e,p,h1,h2,h3⟩:=h;rw[KQ,show Je ⟨#[120,94,51,45,120,94,50,45,120,43,49]⟩=[120,94,51,45,120,94,50,45,120,43,49]from rfl,fE]at h2;obtain⟨rfl,rfl,h4⟩:=h2;exact⟨u,h1,h4,h3⟩))
 have M:=Ja (BB w.heap.size w);clear ad;go_enter Tryz.func15,Tryz.ntmps15
 go_upto_region 2 with(go_at_call 23;refine(W.o _).mono ?_;clear W;rintro e j ⟨u,rfl,O,d⟩;obtain⟨B,l1,c1,rfl⟩:=O.form)
 replace M:=Ja (Bt M.o d);have f:Bl j (j.alloc (J #[E B l1 c1] 25)):=Ba j _;have k:=BM j 25 (E B l1 c1);have i:=O.below f;replace M:=Ja (Bt M.o f);clear f;obtain⟨VP,c⟩:=ex (j.alloc (J #[E B l1 c1] 25));obtain⟨BP,b⟩:=ex (j.heap.size);rw[c]at i M;rw[c,b]at k;rw[c];rw[b];clear c b;clear O d;have a:=Ja (M3.fD 1 20 2 _ aP VP i fL);rw[fM]at a;have N:=k.cell;go_upto_region 3 with(go_at_call 18;refine a.o.mono ?_;clear a;rintro e T ⟨u2,rfl,U,q⟩;obtain⟨g,cap,b1,m1,d1,S,m2,Y,rfl,v,x0,x1,y,x3,ae,Z⟩:=U.two)
 replace k:=k.bel q;replace i:=i.below q;replace M:=Ja (Bt M.o q);have A:=Ja (show ∀V,Bl T V->V.cell? ⟨g,1,none⟩=some (.int .i64 ((1:Nat):Int))/\V.cell? ⟨g,2,none⟩=some (E S m2 Y)/\Jg V (I #[E S m2 Y]) [-1,1]from λV b=>⟨(b.cell (p:=⟨g,1,none⟩) v).trans x1,(b.cell (p:=⟨g,2,none⟩) v).trans y,_,rfl,Z.below b⟩);clear N x0 x1 y x3 ae Z U q v;have a:=Ja (M3.ee 1 _ aP T i fN);rw[fO]at a;have N:=k.cell;go_upto_region 4 with(go_at_call 16;refine a.o.mono ?_;clear a;rintro e l ⟨u3,rfl,t,X⟩;obtain⟨x,z,c3,rfl⟩:=t.form)
 have f:Bl l (l.alloc (J #[E x z c3] 25)):=Ba l _;have D:=BM l 25 (E x z c3);have Q:=t.below f;have s:=Bt X f
 replace M:=Ja (Bt M.o s);obtain⟨n,c⟩:=ex (l.alloc (J #[E x z c3] 25));obtain⟨BF,b⟩:=ex (l.heap.size);rw[c]at Q M s;rw[c,b]at D;rw[c];rw[b];have K:=Ja s;clear c b f X t N k i s;have a:=Ja (λ(V:F) (h:Bl n V)=>KF _ [-1,1] V (A.o V (Bt K.o h)).2.2 TF (λm=>Xu TF DQ m) (Yq HT.o (Bt M.o h)));rw[fP]at a;have P:=Ja (λ(V:F) (h:Bl n V)=>KF _ [-1,0,1] V (Q.below h) TG (λm=>Xu TG DQ m) (Yq HT.o (Bt M.o h)));rw[fQ]at P;have hq:Bl n n:=BB _ _;have R:=(D.bel hq).cell;have e1:=(A.o n K.o).1;have e2:=(A.o n K.o).2.1;go_wp2_with(first
  |(go_at_call 11;refine(a.o _ hq).mono ?_;clear a;rintro e x1 ⟨rfl,d⟩;replace hq:=Bt hq d;clear d R;have R:=(D.bel hq).cell)
  |(go_at_call 11;refine(P.o _ hq).mono ?_;clear P;rintro e y ⟨rfl,d⟩;replace hq:=Bt hq d;clear d))
 go_ret;exact⟨rfl,Bt M.o hq⟩
end Go.Proofs.YteldjhhjnchdeaaGreatDoor
namespace Go.Proofs.YteldjhhjnchdeaaGreatDoor
variable{S:List Rat}{l:List UInt8}{i k n x:Nat}{c:Rat}
theorem TH(h:l.all Dc=true):num l<10^l.length:=by
 have:=Yi (LZ h);rwa[Kf]at this
def Fr(x:Nat)(c:Rat):Prop:=∃(a b:Nat) (y z:Nat),c=Rat.divInt a b/\a<=10^y/\b<=10^z/\b≠0/\y+z<=x
theorem Fr.mono{y:Nat}(h:Fr x c)(j:x<=y):Fr y c:=by
 obtain⟨a,b,u,v,d,e,g,f,i⟩:=h;exact⟨a,b,u,v,d,e,g,f,om⟩
theorem Fr.one:Fr 0 1:=⟨1,1,0,0,DS,DS,DS,DS,DS⟩
theorem fS(g:i<=l.length)(h:Yf l i=.ok c k):Fr (k-i) c:=by
 unfold Yf at h;split at h
 . cases h
 . rename_i ds p a f;have d:=Hj g f;have t:=GH l a;have j:=TH d.2.2.2.2.2.2.2.2;rw[d.2.2.2.2.2.2.2.1]at j;split at h
   . rename_i e;have e:=JS e;split at h
     . cases h
     . rename_i q o m s;have b:=Hj om s;have r:=TH b.2.2.2.2.2.2.2.2;rw[b.2.2.2.2.2.2.2.1]at r;split at h
       . cases h
       . rename_i n;cases h;exact⟨num ds,num q,a-p,k-o,rfl,om,om,n,om⟩
   . cases h;exact⟨num ds,1,a-p,0,(ON _).symm,om,DS,DS,om⟩
theorem fT(f:i<=l.length)(h:JU l i=.ok (c,n) k):Fr (k-i) c:=by
 unfold JU at h;have s:=GH l i;have e:=Ys f;split at h
 . split at h
   . cases h
   . rename_i c' j a;have p:=NK e a;have d:=fS e a;have q:=GH l j;split at h
     . rename_i b;have b:=JS b;split at h
       . cases h
       . rename_i r m g;have o:=NL om g;cases h;exact d.mono om
     . cases h;exact d.mono om
 . split at h
   . split at h
     . cases h
     . cases h;exact Fr.one.mono om
   . cases h
def GT(i:Nat)(S:List Rat):Prop:=S.length=9/\∃D:Int,D≠0/\D.natAbs<=10^i/\∀j,∃z:Int,z.natAbs<=10^i/\cf S j=Rat.divInt z D
theorem GT.mono(h:GT i S)(b:i<=k):GT k S:=by
 obtain⟨a,D,c,g,d⟩:=h;have hp:(10:Nat)^i<=10^k:=Aw om b;exact⟨a,D,c,om,λj=>by obtain⟨z,f,e⟩:=d j;exact⟨z,om,e⟩⟩
theorem GT.start(i:Nat):GT i (List.replicate 9 0):=⟨rfl,1,DS,by have:1<=10^i:=Fl om;simpa using this,λj=>⟨0,DQ,by rw[JN,Rat.zero_divInt]⟩⟩
theorem GT.next(h:GT i S)(s:Fr x c)(M:n<=8)(b:Bool):GT (i+x+1) (S.set n (if b then cf S n-c else cf S n+c)):=by
 obtain⟨o,D,l,q,p⟩:=h;obtain⟨a,d,y,z,rfl,t,r,A,N⟩:=s;have f:(d:Int)≠0:=om
 have v:(10:Nat)^i*10^z<=10^(i+x):=by rw[<-CG];exact Aw om om
 have u:(10:Nat)^y*10^i<=10^(i+x):=by rw[<-CG];exact Aw om om
 have e:∀w:Int,w.natAbs<=10^i->(w*(d:Int)).natAbs<=10^(i+x):=λw e=>by
  rw[CW,AR];exact As (CN e r) v
 have B:((a:Int)*D).natAbs<=10^(i+x):=by
  rw[CW,AR];exact As (CN t q) u
 refine⟨by rw[Cq];exact o,D*d,Co l f,by have:=e D q;omega,λj=>?_⟩;rw[Xy _ _ _ _ (by rw[o];omega)];by_cases m:j=n
 . rw[BG m];obtain⟨w,g,k⟩:=p n;have K:=e w g;rw[k];cases b with
   |true=>
    refine⟨w*d-a*D,by have:=Int.natAbs_sub_le (w*(d:Int)) ((a:Int)*D);omega,?_⟩;rw[BG rfl,FC,Rat.neg_divInt,FG _ _ l f];congr 1;rw[Int.neg_mul];rfl
   |false=>
    refine⟨w*d+a*D,by have:=Int.natAbs_add_le (w*(d:Int)) ((a:Int)*D);omega,?_⟩;rw[BC DS,FG _ _ l f]
 . rw[BC m];obtain⟨w,g,k⟩:=p j;exact⟨w*d,by have:=e w g;omega,by rw[k,CY f]⟩
theorem TI:∀(f:Nat) (b:Bool) (I:Nat) (S d:List Rat) (k:Nat),I<=l.length->GT I S->ES l f b I S=.ok d k->GT (l.length+1) d:=by
 intro f;induction f with
 |zero=>intro b I S d k _ _ h;cases h
 |succ f o=>
  intro b I S d k m r h;cases g:JU l I with
  |bad e p=>rw[KL g]at h;cases h
  |ok a s=>
   obtain⟨c,n⟩:=a;have q:=I0 m g;have i:=r.next (fT m g) q.2.2 b;have t:=GH l s;rw[KM g]at h;split at h
   . rename_i j;have:=JS j;exact o _ _ _ _ _ om (i.mono om) h
   . split at h
     . rename_i j;have:=JS j;exact o _ _ _ _ _ om (i.mono om) h
     . split at h
       . cases h;exact i.mono om
       . cases h
theorem fU(h:Xt l=.ok S k):GT (l.length+1) S:=by
 unfold Xt at h;have b:=Ys (l:=l) (i:=0) om;split at h
 . rename_i a;have:=JS a;exact TI _ _ _ _ _ _ om (GT.start _) h
 . exact TI _ _ _ _ _ _ b (GT.start _) h
theorem fV(a b c:Nat)(h:a*b<64*c):((2:Nat)^a)^b<DR^c:=by
 rw[show DR=2^64 from by decide,<-FI,<-FI];exact Nat.pow_lt_pow_right om h
theorem fW(h:n<=43*k)(c:k<=7):(10:Nat)^n<DR^16:=by
 have b:((10:Nat)^43)^k<=(2^143)^k:=CS DS k;have a:(10:Nat)^n<=10^(43*k):=Aw om h;rw[FI]at a;exact Cs (As a b) (fV 143 k 16 om)
theorem fX(l:List UInt8):∃D:Int,D≠0/\Sm 16 D/\EH D 16 (JQ l).1:=by
 have b:∃D:Int,D≠0/\Sm 16 D/\EH D 16 []:=⟨1,DS,Sm.one _ om,λi=>by rw[YQ];exact CD.zero _ _⟩;by_cases h:300<l.length
 . rw[show JQ l=([],1,0)by unfold JQ;rw[BG h]];exact b
 . rw[K5 h];cases a:Xt l with
   |bad e p=>exact b
   |ok S k=>
    rw[show(KN (Rd.ok S k)).1=Jd S from rfl];obtain⟨_,D,c,j,d⟩:=fU a;have a:=fW (n:=l.length+1) (k:=7) om om;exact⟨D,c,by unfold Sm;omega,λi=>by
     obtain⟨z,g,f⟩:=d i;exact⟨z,by rw[JX];exact f,by unfold Sm;omega⟩⟩
open Go.RowKit Go.Shelf
attribute [local go_sem] Oper.semAt_some
theorem TJ(l:List UInt8):Jd (JQ l).1=(JQ l).1:=by
 by_cases h:300<l.length
 . rw[show JQ l=([],1,0)by unfold JQ;rw[BG h]];rfl
 . rw[K5 h];cases Xt l with
   |bad e p=>rfl
   |ok S k=>exact Yj _
theorem Oq(s:ByteArray)(hs:s.size<=140737488351232)(w:F):
 Calls Tryz.prog 10 #[L s] w λe b=>∃u,e=.returned u/\RowK false b u (JQ (Je s)).1/\Bl w b:=by
 have a:=Ja (λ(V:F)=>bD s hs V);clear hs;go_enter Tryz.func10,Tryz.ntmps10
 go_wp2_with(go_at_call 29;refine(a.o _).mono ?_;clear a;rintro e g ⟨u,i,f,rfl,⟨rfl,rfl,c,_,_⟩,d⟩;obtain⟨j,l2,c2,rfl⟩:=c.form)
 go_ret;exact⟨_,rfl,c,d⟩
theorem Ot(s:ByteArray)(w:F):
 Calls Tryz.prog 7 #[L s] w λe t=>∃u,e=.returned u/\Jg t u (JQ (Je s)).1/\Bl w t:=by
 have q:=Ja (λ(V:F)=>R8 s V);have b0:=BM w 25 (E none 0 0);have i:Bl w (w.alloc (J #[E none 0 0] 25)):=Ba w _;obtain⟨N,o⟩:=ex (w.alloc (J #[E none 0 0] 25));obtain⟨B,m⟩:=ex (w.heap.size);rw[o]at b0 i;rw[m]at b0;obtain⟨z,r,y,x⟩:=EC b0 i o m;clear b0 i o m;go_enter Tryz.func7,Tryz.ntmps7
 go_upto_region 1 with fail
 rw[y.o,x.o];go_upto_region 2 with(go_at_call 23;refine(q.o _).mono ?_;clear q;rintro e b ⟨u,O,P,rfl,⟨rfl,rfl,j⟩,d⟩;obtain⟨a,l1,c1,rfl⟩:=j.form)
 have f:Bl b (b.alloc (J #[E a l1 c1] 25)):=Ba b _;have l:=BM b 25 (E a l1 c1);have n0:=(z.o.bel d).bel f;have g:=j.row.below f;have n:=(Bt r.o d).trans (f.mono (Bt r.o d).size);obtain⟨M,c⟩:=ex (b.alloc (J #[E a l1 c1] 25));obtain⟨K,k⟩:=ex (b.heap.size);rw[c,k]at l;rw[c]at n0 g n;rw[c,k];have x1:=l.cell;have x0:=n0.cell;have f0:=n0.frozen;have A:=Ja (FY n0 (E a l1 c1) g);have D:=Ja (n.setCell (p:=⟨B,0,none⟩) (by rw[x.o];exact Aa _) (E a l1 c1));clear f l n0 g n c k j d;go_wp2_with fail
 exact BA (v:=I #[E a l1 c1]) (by simp[results,Tryz.results7,go_sem,x0]) rfl ⟨_,rfl,⟨_,rfl,A.o⟩,D.o⟩
end Go.Proofs.YteldjhhjnchdeaaGreatDoor
namespace Go.Proofs.YteldjhhjnchdeaaGreatDoor
open Go.RowKit Go.Shelf
theorem Ou(l:List UInt8):Cd 16 (JQ l).1:=fX l
theorem Cd.mul{M N:Nat}{p q:List Rat}(h:Cd M p)(e:Cd N q):Cd (M+N+p.length) (JR p q):=by
 obtain⟨D,d1,b,d⟩:=h;obtain⟨E,f,g,c⟩:=e;have a:D*E≠0:=Co d1 f;exact⟨D*E,a,(b.mul g).mono om,λi=>dJ a (λi j=>(d i).mul (c j)) i⟩
theorem Cd.times{M N:Nat}{p q:List Rat}(h:Cd M p)(d:Cd N q)(hl:M+N+p.length+1<=1000000):M3.X2 p q:=by
 obtain⟨D,d1,a,c⟩:=h;obtain⟨E,e,f,b⟩:=d;exact dI (Co d1 e) ((a.mul f).mono om) (λi j=>(c i).mul (b j)) hl
namespace M3
theorem TK(b a:H)(ps qs:List Rat)(w:F)(f:Jg w b ps)(n:Jg w a qs)(l:Db ps)(m:Db qs)(j:X2 ps qs)(g:ps.length+qs.length<=1099511627776):
 Calls Tryz.prog 9 #[b,a] w λe c=>∃u,e=.returned u/\Jg c u (JR ps qs)/\Bl w c:=by
 refine(aA b a ps qs w f n l m j g).mono ?_;rintro e c ⟨u,i,d,_,k⟩;exact⟨u,i,d,k⟩
theorem ChOk.of{K:Nat}{p q:List Rat}(tp:Jd p=p)(tq:Jd q=q)(cp:Cd K p)(cq:Cd K q){n:Nat}(lp:p.length<=n)(lq:q.length<=n)(hle:4*((n+2)*((K+1)*(n+n+1)+1))<=1000000)(b:n<=1000):ChOk K p q:=by
 refine⟨tp,tq,cp,cq,?_,om⟩;have a:Dk K p q<=(K+1)*(n+n+1):=Av _ om;have c:(max p.length q.length+2)*(Dk K p q+1)<=(n+2)*((K+1)*(n+n+1)+1):=CN om om;omega
attribute [local go_sem] Oper.semAt_some
theorem fY(s t u:ByteArray)(hs:s.size<=140737488351232)(ht:t.size<=140737488351232)(hu:u.size<=140737488351232)(w:F)(ci:E0 w):
 Calls Tryz.prog 3 #[L s,L t,L u] w λr w'=>r=.returned (.bool true)/\Bl w w':=by
 have Qq:Tryz.prog.follows .mixedOrders=true:=by kernel_rfl
 have HT:=Ja ci;have cP:=Ou (Je s);have cQ:=Ou (Je t);have cR:=Ou (Je u);have lP:=(OY (Je s)).1;have lQ:=(OY (Je t)).1;have lR:=(OY (Je u)).1;have tP:=TJ (Je s);have tQ:=TJ (Je t);obtain⟨Qe,Qd,Qi,Qk,Qg,Ql⟩:=I4 (λ(V:F)=>Oq s hs V) (λ(V:F)=>Oq t ht V) (λ(V:F)=>Oq u hu V) (λ(V:F)=>Ot s V) (λ(V:F)=>Ot t V) (λ(V:F)=>Ot u V);obtain⟨p,hp⟩:=ex ((JQ (Je s)).1);obtain⟨q,hq⟩:=ex ((JQ (Je t)).1);obtain⟨r,hr⟩:=ex ((JQ (Je u)).1);rw[hp]at cP lP tP Qe Qk;rw[hq]at cQ lQ tQ Qd Qg;rw[hr]at cR lR Qi Ql;have Qn:Cd 41 (JR p r):=(cP.mul cR).mono om;have Qm:Cd 41 (JR q r):=(cQ.mul cR).mono om;have Qo:=SK p r;have Qr:=SK q r;have Qc:X2 p r:=cP.times cR om;have Qf:X2 q r:=cQ.times cR om;have R:ChOk 16 p q:=ChOk.of tP tQ cP cQ (n:=9) lP lQ DS om;have T:ChOk 41 (JR p r) (JR q r):=ChOk.of (XH _ _) (XH _ _) Qn Qm (n:=18) om om DS om;have cA:=R.gcd;have cB:=T.gcd;have lA:(JT p q).length<=3000000:=by
  obtain⟨e,he⟩:=Chn.ends R _ _ _ (Aa _) (Chn.start R.tp R.tq R.lp R.lq R.bd.2.2.1);rw[<-he.gc,LC,Yh he.ta];have:=he.la;omega
 have lB:(JT (JR p r) (JR q r)).length<=3000000:=by
  obtain⟨e,he⟩:=Chn.ends T _ _ _ (Aa _) (Chn.start T.tp T.tq T.lp T.lq T.bd.2.2.1);rw[<-he.gc,LC,Yh he.ta];have:=he.la;omega
 have sP:=cP.sqs om;have sQ:=cQ.sqs om;have sR:=cR.sqs om;have sA:=cA.sqs R.bd.1;have sB:=cB.sqs T.bd.1;obtain⟨C1,C2,C3,C4,D1,D2,D3,D4⟩:=Gy (λ(V:F) (x y:H) (f:Jg V x p) (P:Jg V y q)=>LK 16 x y p q V f P R) (λ(V:F) (x y:H) (f:Jg V x p) (P:Jg V y r)=>TK x y p r V f P sP sR Qc om) (λ(V:F) (x y:H) (f:Jg V x q) (P:Jg V y r)=>TK x y q r V f P sQ sR Qf om) (λ(V:F) (x y:H) (f:Jg V x (JR p r)) (P:Jg V y (JR q r))=>LK 41 x y (JR p r) (JR q r) V f P T) (λ(V:F) (x y:H) (f:RowK false V x p) (P:RowK false V y q)=>Sx 16 x y p q V f P R) (λ(V:F) (x y:H) (f:RowK false V x p) (P:RowK false V y r)=>OS x y p r V f P sP sR Qc om) (λ(V:F) (x y:H) (f:RowK false V x q) (P:RowK false V y r)=>OS x y q r V f P sQ sR Qf om) (λ(V:F) (x y:H) (f:RowK false V x (JR p r)) (P:RowK false V y (JR q r))=>Sx 41 x y (JR p r) (JR q r) V f P T);obtain⟨TA,TB,TP,TQ,XA,XB,XP,XQ⟩:=Gy (λ(V:F) (x:H) (f:Jg V x (JT p q)) (hp:E0 V)=>KF x (JT p q) V f sA (λm=>Xu sA lA m) hp) (λ(V:F) (x:H) (f:Jg V x (JT (JR p r) (JR q r))) (hp:E0 V)=>KF x _ V f sB (λm=>Xu sB lB m) hp) (λ(V:F) (x:H) (f:Jg V x p) (hp:E0 V)=>KF x p V f sP (λm=>Xu sP om m) hp) (λ(V:F) (x:H) (f:Jg V x q) (hp:E0 V)=>KF x q V f sQ (λm=>Xu sQ om m) hp) (λ(V:F) (x:H) (f:RowK false V x (JT p q)) (hp:E0 V)=>MX x (JT p q) V f sA (λm=>Xu sA lA m) (KU _ _) hp) (λ(V:F) (x:H) (f:RowK false V x (JT (JR p r) (JR q r))) (hp:E0 V)=>MX x _ V f sB (λm=>Xu sB lB m) (KU _ _) hp) (λ(V:F) (x:H) (f:RowK false V x p) (hp:E0 V)=>MX x p V f sP (λm=>Xu sP om m) tP hp) (λ(V:F) (x:H) (f:RowK false V x q) (hp:E0 V)=>MX x q V f sQ (λm=>Xu sQ om m) tQ hp);have AL:=Ja (λ(V:F) (hp:E0 V)=>fR V hp);obtain⟨SA,di⟩:∃S:ByteArray,⟨(FZ (JT p q)).toArray⟩=S:=⟨_,rfl⟩;obtain⟨SB,cl⟩:∃S:ByteArray,⟨(FZ (JT (JR p r) (JR q r))).toArray⟩=S:=⟨_,rfl⟩;obtain⟨SP,dh⟩:∃S:ByteArray,⟨(FZ p).toArray⟩=S:=⟨_,rfl⟩;obtain⟨SQ,de⟩:∃S:ByteArray,⟨(FZ q).toArray⟩=S:=⟨_,rfl⟩;rw[di]at TA XA;rw[cl]at TB XB;rw[dh]at TP XP;rw[de]at TQ XQ;have M1:Hid (Mem w w []):=Ja (Mem.nil w);clear ci cP cQ cR lP lQ lR tP tQ hp hq hr Qn Qm Qo Qr Qc Qf R T cA cB lA lB sP sQ sR sA sB di cl dh de hs ht hu;go_enter Tryz.func3,Tryz.ntmps3
 go_upto_region 2 with(go_at_call 7;refine(Qk.o _).mono ?_;clear Qk;rintro e w1 ⟨u1,rfl,bf,cg⟩;obtain⟨ah,am,bj,rfl⟩:=Jg.form bf)
 obtain⟨V1,Q⟩:=ex (w1.alloc (J #[E ah am bj] 25));obtain⟨U,O⟩:=ex (w1.heap.size);have d:Mem w (w1.alloc (J #[E ah am bj] 25)) [some (w1.heap.size,.poly (p))]:=Mem.push (M1.o.below cg) (.poly (p)) bf;rw[Q,O]at d;rw[Q];rw[O];have M2:Hid (Mem w V1 [some (U,.poly (p))]):=Ja (d);clear M1;clear d Q O;clear bf cg;go_upto_region 3 with(go_at_call 7;refine(Qg.o _).mono ?_;clear Qg;rintro e w2 ⟨u2,rfl,aj,co⟩;obtain⟨bh,bi,ak,rfl⟩:=Jg.form aj)
 obtain⟨V2,Q⟩:=ex (w2.alloc (J #[E bh bi ak] 25));obtain⟨B2,O⟩:=ex (w2.heap.size);have d:Mem w (w2.alloc (J #[E bh bi ak] 25)) [some (U,.poly (p)),some (w2.heap.size,.poly (q))]:=Mem.push (M2.o.below co) (.poly (q)) aj;rw[Q,O]at d;rw[Q];rw[O];have M3:Hid (Mem w V2 [some (U,.poly (p)),some (B2,.poly (q))]):=Ja (d);clear M2;clear d Q O;clear aj co;go_upto_region 4 with(go_at_call 7;refine(Ql.o _).mono ?_;clear Ql;rintro e w3 ⟨u3,rfl,ap,ce⟩;obtain⟨bn,ay,aq,rfl⟩:=Jg.form ap)
 obtain⟨V3,Q⟩:=ex (w3.alloc (J #[E bn ay aq] 25));obtain⟨B3,O⟩:=ex (w3.heap.size);have d:Mem w (w3.alloc (J #[E bn ay aq] 25)) [some (U,.poly (p)),some (B2,.poly (q)),some (w3.heap.size,.poly (r))]:=Mem.push (M3.o.below ce) (.poly (r)) ap;rw[Q,O]at d;rw[Q];rw[O];have M4:Hid (Mem w V3 [some (U,.poly (p)),some (B2,.poly (q)),some (B3,.poly (r))]):=Ja (d);clear M3;clear d Q O;clear ap ce;obtain⟨a4,l4,c4,n4,r4⟩:=M4.o.poly2 (i:=0) rfl;have Qs:=n4.cell;obtain⟨a5,l5,c5,n5,r5⟩:=M4.o.poly2 (i:=1) rfl;have Qp:=n5.cell;have H1:=Ja (C1.o V3 _ _ r4 r5);go_upto_region 5 with(go_at_call 8;refine H1.o.mono ?_;clear H1;rintro e w4 ⟨u4,rfl,bk,ct⟩;obtain⟨aw,af,bm,rfl⟩:=Jg.form bk)
 clear n4 Qs r4 n5 Qp r5;obtain⟨V6,Q⟩:=ex (w4.alloc (J #[E aw af bm] 25));obtain⟨B6,O⟩:=ex (w4.heap.size);have d:Mem w (w4.alloc (J #[E aw af bm] 25)) [some (U,.poly (p)),some (B2,.poly (q)),some (B3,.poly (r)),some (w4.heap.size,.poly (JT p q))]:=Mem.push (M4.o.below ct) (.poly (JT p q)) bk;rw[Q,O]at d;rw[Q];rw[O];have M5:Hid (Mem w V6 [some (U,.poly (p)),some (B2,.poly (q)),some (B3,.poly (r)),some (B6,.poly (JT p q))]):=Ja (d);clear M4;clear d Q O;clear bk ct;refine Jk Qq [[],[],[0,1],[],[],[3,4,2],[2,5,5],[],[7,6,6,0,1,2,3,4,5,6,7]] (by kernel_rfl) DS
  (λD az V=>∃(tc td te tf tg ti tj tb:H) (x7:Option (Nat × Dat)),az={ tmps:=#[L s,L t,L u,C,C,C,.bool false,G (some ⟨U,0,none⟩),G (some ⟨B2,0,none⟩),G (some ⟨B3,0,none⟩),G (some ⟨B6,0,none⟩),tb,C,C,C,L s,I #[E ah am bj],L t,I #[E bh bi ak],L u,I #[E bn ay aq],I #[E a4 l4 c4],I #[E a5 l5 c5],I #[E aw af bm],tc,td,te,tf,tg,ti,tj,C,C,C,C,C,C,C,C,C,C,C,C,C,C,C,C,C,C,C,C,C,C,C,C,C,C,C,C,C,C,C,C,C,C,C,C,C,C,C,C,C,C,C],defers:=[] }/\Hid ((D 0=true->Has V tc (.poly (p)))/\(D 1=true->Has V td (.poly (r)))/\(D 2=true->Has V te (.poly (JR p r)))/\(D 3=true->Has V tf (.poly (q)))/\(D 4=true->Has V tg (.poly (r)))/\(D 5=true->Has V ti (.poly (JR q r)))/\(D 6=true->Has V tj (.poly (JT (JR p r) (JR q r))))/\((D 7=false->x7=none)/\(D 7=true->D 8=false->∃B:Nat,tb=G (some ⟨B,0,none⟩)/\x7=some (B,.poly []))/\(D 8=true->∃B:Nat,tb=G (some ⟨B,0,none⟩)/\x7=some (B,.poly (JT (JR p r) (JR q r))))))/\Hid (Mem w V [some (U,.poly (p)),some (B2,.poly (q)),some (B3,.poly (r)),some (B6,.poly (JT p q)),x7]))
  ⟨_,_,_,_,_,_,_,_,none,rfl,Ja ⟨DQ,DQ,DQ,DQ,DQ,DQ,DQ,DQ⟩,Ja ((M5.o).none).drew⟩ ?step7 ?fin7
 case step7=>
  rintro D az V i ds dz hi N ai ⟨tc,td,te,tf,tg,ti,tj,tb,x7,rfl,z,d⟩;have fl:i<9:=(Ac.1 hi).1;obtain rfl|rfl|rfl|rfl|rfl|rfl|rfl|rfl|rfl:=Ov i om
  all_goals
   simp only[Af,Ae,Ag]at hi;subst hi
  . clear N;obtain⟨a,l,c,n,r⟩:=d.o.poly2 (i:=0) rfl;have e0:=n.cell;refine Za ?_;exact⟨_,_,_,_,_,_,_,_,_,rfl,(Dh z λ_=>r),Ja (d.o)⟩
  . clear N;obtain⟨a,l,c,n,r⟩:=d.o.poly2 (i:=2) rfl;have e0:=n.cell;refine Za ?_;exact⟨_,_,_,_,_,_,_,_,_,rfl,(Dp z λ_=>r),Ja (d.o)⟩
  . have h0:=(z.o.1 (N 0 DQ));have h1:=(z.o.2.1 (N 1 DQ));have A:=Ja (C2.o V _ _ h0 h1);clear N h0 h1;refine Jb rfl rfl λK hK=>?_;go_simp;go_wp2_with(go_at_call 9;refine A.o.mono ?_;rintro e w5 ⟨v5,rfl,ad,v⟩)
    obtain⟨X,G1,_,Y,Z,G5,G6,G7⟩:=z.o;exact⟨_,_,_,_,_,_,_,_,_,rfl,Ja ⟨λh=>(X h).below v,λh=>(G1 h).below v,λ_=>ad,λh=>(Y h).below v,λh=>(Z h).below v,λh=>(G5 h).below v,λh=>(G6 h).below v,G7⟩,Ja (d.o.below v)⟩
  . clear N;obtain⟨a,l,c,n,r⟩:=d.o.poly2 (i:=1) rfl;have e0:=n.cell;refine Za ?_;exact⟨_,_,_,_,_,_,_,_,_,rfl,(Di z λ_=>r),Ja (d.o)⟩
  . clear N;obtain⟨a,l,c,n,r⟩:=d.o.poly2 (i:=2) rfl;have e0:=n.cell;refine Za ?_;exact⟨_,_,_,_,_,_,_,_,_,rfl,(Dx z λ_=>r),Ja (d.o)⟩
  . have h0:=(z.o.2.2.2.1 (N 3 DQ));have h1:=(z.o.2.2.2.2.1 (N 4 DQ));have A:=Ja (C3.o V _ _ h0 h1);clear N h0 h1;refine Jb rfl rfl λK hK=>?_;go_simp;go_wp2_with(go_at_call 9;refine A.o.mono ?_;rintro e w5 ⟨v5,rfl,ad,v⟩)
    obtain⟨X,G1,G2,Y,Z,_,G6,G7⟩:=z.o;exact⟨_,_,_,_,_,_,_,_,_,rfl,Ja ⟨λh=>(X h).below v,λh=>(G1 h).below v,λh=>(G2 h).below v,λh=>(Y h).below v,λh=>(Z h).below v,λ_=>ad,λh=>(G6 h).below v,G7⟩,Ja (d.o.below v)⟩
  . have h0:=(z.o.2.2.1 (N 2 DQ));have h1:=((Ds z) (N 5 DQ));have A:=Ja (C4.o V _ _ h0 h1);clear N h0 h1;refine Jb rfl rfl λK hK=>?_;go_simp;go_wp2_with(go_at_call 8;refine A.o.mono ?_;rintro e w5 ⟨v5,rfl,ad,v⟩)
    obtain⟨X,G1,G2,Y,Z,G5,_,G7⟩:=z.o;exact⟨_,_,_,_,_,_,_,_,_,rfl,Ja ⟨λh=>(X h).below v,λh=>(G1 h).below v,λh=>(G2 h).below v,λh=>(Y h).below v,λh=>(Z h).below v,λh=>(G5 h).below v,λ_=>ad,G7⟩,Ja (d.o.below v)⟩
  . have hf:D 8=false:=DU dz ai;obtain rfl:=D9 z ai;clear N;refine Za ?_;obtain⟨X,G1,G2,Y,Z,G5,G6,_⟩:=z.o;exact⟨_,_,_,_,_,_,_,_,_,rfl,Ja ⟨λh=>(X h).alloc _,λh=>(G1 h).alloc _,λh=>(G2 h).alloc _,λh=>(Y h).alloc _,λh=>(Z h).alloc _,λh=>(G5 h).alloc _,λh=>(G6 h).alloc _,⟨λh=>by simp at h,λ_ _=>⟨_,rfl,rfl⟩,λh=>by simp[hf]at h⟩⟩,Ja (d.o.fill (i:=4) rfl (.poly []) (Hf _))⟩
  . obtain⟨B,rfl,rfl⟩:=EF z (N 7 DQ) ai;have Qh:=N 7 DQ;have hv:=((Dy z) (N 6 DQ));obtain⟨a1,l1,c1,rfl⟩:=Jg.form (show Jg V _ _ from hv);obtain⟨a,l,c,n,r⟩:=d.o.poly2 (i:=4) rfl;have e0:=n.cell;have f0:=n.frozen;clear N;refine Za ?_;obtain⟨X,G1,G2,Y,Z,G5,G6,_⟩:=z.o;exact⟨_,_,_,_,_,_,_,_,_,rfl,Ja ⟨λh=>(X h).set1 n rfl _,λh=>(G1 h).set1 n rfl _,λh=>(G2 h).set1 n rfl _,λh=>(Y h).set1 n rfl _,λh=>(Z h).set1 n rfl _,λh=>(G5 h).set1 n rfl _,λh=>(G6 h).set1 n rfl _,⟨λh=>by simp[Qh]at h,λ_ h=>by simp at h,λ_=>⟨B,rfl,rfl⟩⟩⟩,Ja (d.o.putPoly (i:=4) rfl hv)⟩
 rintro D az V8 ck ⟨tc,td,te,tf,tg,ti,tj,tb,x7,rfl,z,d⟩;obtain⟨B9,rfl,rfl⟩:=z.o.2.2.2.2.2.2.2.2.2 (ck 8 DS);clear z ck M5;have M6:Hid (Mem w V8 [some (U,.poly (p)),some (B2,.poly (q)),some (B3,.poly (r)),some (B6,.poly (JT p q)),some (B9,.poly (JT (JR p r) (JR q r)))]):=d;clear d;obtain⟨fk,f9,fh,cn,r10⟩:=M6.o.poly2 (i:=0) rfl;obtain⟨f7,fs,fe,dj,r11⟩:=M6.o.poly2 (i:=1) rfl;obtain⟨f6,ew,ei,bu,r12⟩:=M6.o.poly2 (i:=3) rfl;obtain⟨et,fj,fo,dt,dp⟩:=M6.o.poly2 (i:=4) rfl;have nP:=cn;have rP:=r10;clear cn r10;have nQ:=dj;have rQ:=r11;clear dj r11;have nA:=bu;have rA:=r12;clear bu r12;have nB:=dt;have rB:=dp;clear dt dp;have M:=Ja M6.o.2.2;clear M6 C1 C2 C3 C4;have hq:Bl V8 V8:=BB _ _;go_upto_region 7 with(go_at_call 10;refine(Qe.o _).mono ?_;clear Qe;rintro e w6 ⟨u6,rfl,bt,cj⟩;obtain⟨ef,eh,fm,rfl⟩:=bt.form)
 have rX:=bt;replace hq:=Bt hq cj
 clear bt cj;go_upto_region 8 with(go_at_call 10;refine(Qd.o _).mono ?_;clear Qd;rintro e w7 ⟨u7,rfl,bg,bc⟩;obtain⟨fc,fd,fg,rfl⟩:=bg.form)
 replace rX:=rX.below bc;have rY:=bg;replace hq:=Bt hq bc
 clear bg bc;go_upto_region 9 with(go_at_call 10;refine(Qi.o _).mono ?_;clear Qi;rintro e w8 ⟨u8,rfl,an,ae⟩;obtain⟨ed,fa,fb,rfl⟩:=an.form)
 replace rX:=rX.below ae;replace rY:=rY.below ae;have rZ:=an;replace hq:=Bt hq ae
 clear an ae;replace nP:=nP.bel hq;replace rP:=rP.below hq;replace nQ:=nQ.bel hq;replace rQ:=rQ.below hq;replace nA:=nA.bel hq;replace rA:=rA.below hq;replace nB:=nB.bel hq;replace rB:=rB.below hq;replace M:=Ja (Bt M.o hq);clear hq;have W:=Ja (λ(V:F) (h:Bl w8 V)=>show E0 V from Yq HT.o (Bt M.o h));have A:=Ja (λ(V:F) (h:Bl w8 V)=>show V.cell? _=_/\V.cell? _=_/\V.cell? _=_/\V.cell? _=_ from⟨(nA.bel h).cell,(nB.bel h).cell,(nP.bel h).cell,(nQ.bel h).cell⟩);have hq:Bl w8 w8:=BB _ _;obtain⟨o,g,j,k⟩:=A.o _ hq;go_wp2_with(first
  |(go_at_call 11;refine(TA.o _ _ (rA.below hq) (W.o _ hq)).mono ?_;clear TA;rintro e x1 ⟨rfl,b⟩;replace hq:=Bt hq b;clear b o g j k;obtain⟨o,g,j,k⟩:=A.o _ hq)
  |(go_at_call 13;refine(D1.o _ _ _ (rX.below hq) (rY.below hq)).mono ?_;clear D1;rintro e x2 ⟨v1,rfl,dx,b⟩;replace hq:=Bt hq b;clear b o g j k;obtain⟨o,g,j,k⟩:=A.o _ hq)
  |(go_at_call 12;refine(XA.o _ _ dx (W.o _ hq)).mono ?_;clear XA;rintro e x3 ⟨rfl,b⟩;replace hq:=Bt hq b;clear b o g j k;obtain⟨o,g,j,k⟩:=A.o _ hq)
  |(go_at_call 11;refine(TB.o _ _ (rB.below hq) (W.o _ hq)).mono ?_;clear TB;rintro e x4 ⟨rfl,b⟩;replace hq:=Bt hq b;clear b o g j k;obtain⟨o,g,j,k⟩:=A.o _ hq)
  |(go_at_call 14;refine(D2.o _ _ _ (rX.below hq) (rZ.below hq)).mono ?_;clear D2;rintro e x5 ⟨v2,rfl,Qj,b⟩;replace hq:=Bt hq b;clear b o g j k;obtain⟨o,g,j,k⟩:=A.o _ hq)
  |(go_at_call 14;refine(D3.o _ _ _ (rY.below hq) (rZ.below hq)).mono ?_;clear D3;rintro e x6 ⟨v3,rfl,dw,b⟩;replace hq:=Bt hq b;replace Qj:=Qj.below b;clear b o g j k;obtain⟨o,g,j,k⟩:=A.o _ hq)
  |(go_at_call 13;refine(D4.o _ _ _ Qj dw).mono ?_;clear D4;rintro e x7 ⟨v4,rfl,du,b⟩;replace hq:=Bt hq b;clear b o g j k;obtain⟨o,g,j,k⟩:=A.o _ hq)
  |(go_at_call 12;refine(XB.o _ _ du (W.o _ hq)).mono ?_;clear XB;rintro e x8 ⟨rfl,b⟩;replace hq:=Bt hq b;clear b o g j k;obtain⟨o,g,j,k⟩:=A.o _ hq)
  |(go_at_call 11;refine(TP.o _ _ (rP.below hq) (W.o _ hq)).mono ?_;clear TP;rintro e x9 ⟨rfl,b⟩;replace hq:=Bt hq b;clear b o g j k;obtain⟨o,g,j,k⟩:=A.o _ hq)
  |(go_at_call 12;refine(XP.o _ _ (rX.below hq) (W.o _ hq)).mono ?_;clear XP;rintro e fi ⟨rfl,b⟩;replace hq:=Bt hq b;clear b o g j k;obtain⟨o,g,j,k⟩:=A.o _ hq)
  |(go_at_call 11;refine(TQ.o _ _ (rQ.below hq) (W.o _ hq)).mono ?_;clear TQ;rintro e ff ⟨rfl,b⟩;replace hq:=Bt hq b;clear b o g j k;obtain⟨o,g,j,k⟩:=A.o _ hq)
  |(go_at_call 12;refine(XQ.o _ _ (rY.below hq) (W.o _ hq)).mono ?_;clear XQ;rintro e f8 ⟨rfl,b⟩;replace hq:=Bt hq b;clear b o g j k;obtain⟨o,g,j,k⟩:=A.o _ hq)
  |(go_at_call 15;refine(AL.o _ (W.o _ hq)).mono ?_;clear AL;rintro e fr ⟨rfl,b⟩;replace hq:=Bt hq b;clear b o g j k;obtain⟨o,g,j,k⟩:=A.o _ hq))
 go_ret;exact⟨rfl,Bt M.o hq⟩
end M3
