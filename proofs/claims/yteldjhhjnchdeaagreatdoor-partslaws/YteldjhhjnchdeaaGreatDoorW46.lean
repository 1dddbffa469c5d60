import Derived.Test.YteldjhhjnchdeaaGreatDoorW45
open Go.Value renaming slice->C,pointer->F,agg->G
open Go renaming undef->E,World->H,Value->I
open Go.Obj renaming cells->Q
set_option maxRecDepth 100000
set_option maxHeartbeats 16000000
namespace Go.Proofs.YteldjhhjnchdeaaGreatDoor
section
open Go.RowKit Go.Shelf
def IZ(s:List Rat × List Rat):List Rat × List Rat:=(Db s.1 (Jm s.1 (JE s.2 (Je s.1))),Db (JE s.2 (Je s.1)) (Jm s.1 (JE s.2 (Je s.1))))
def DP(w y:List Rat):Nat->List Rat × List Rat
 |0=>(w,y)
 |n+1=>IZ (DP w y n)
def yP(s:List Rat × List Rat):List Rat:=Jm s.1 (JE s.2 (Je s.1))
def yL(w y:List Rat):Nat->List (List Rat × Nat)
 |0=>[]
 |n+1=>yL w y n++(if 1<(yP (DP w y n)).length then [(yP (DP w y n),n+1)]else [])
theorem Q4(w y:List Rat):∀n,(yL w y n).length<=n:=by
 intro n;induction n with
 |zero=>exact Aa _
 |succ n a=>
  rw[yL,Aq];split
  . simp;omega
  . simp;omega
structure StOk(K M:Nat)(w y:List Rat):Prop where
 ch:M3.ChOk K w (JE y (Je w))
 ty:Jd y=y
 cw:Cd M w
 cs:Cd M (Je w)
 cy:Cd M y
 cz:Cd M (JE y (Je w))
 kM:Di K w (JE y (Je w))<=M
 l1:2*((w.length+3)*(M+1))<=1000000000
 l2:2*(((JE y (Je w)).length+3)*(M+1))<=1000000000
structure PtOk(K M N:Nat)(p:List Rat):Prop where
 tp:Jd p=p
 cp:Cd M p
 ch:M3.ChOk K (Jp p) (Je (Jp p))
 kM:Di K (Jp p) (Je (Jp p))<=M
 l1:2*((p.length+3)*(M+1))<=1000000000
 gt:1<p.length
 nN:N<=1000000000
 st:∀n,n<N->1<(DP (Db (Jp p) (Jm (Jp p) (Je (Jp p)))) (Db (Je (Jp p)) (Jm (Jp p) (Je (Jp p)))) n).1.length/\StOk K M (DP (Db (Jp p) (Jm (Jp p) (Je (Jp p)))) (Db (Je (Jp p)) (Jm (Jp p) (Je (Jp p)))) n).1 (DP (Db (Jp p) (Jm (Jp p) (Je (Jp p)))) (Db (Je (Jp p)) (Jm (Jp p) (Je (Jp p)))) n).2
 en:(DP (Db (Jp p) (Jm (Jp p) (Je (Jp p)))) (Db (Je (Jp p)) (Jm (Jp p) (Je (Jp p)))) N).1.length<=1
def Gs(p:List Rat)(N:Nat):List (List Rat × Nat):=yL (Db (Jp p) (Jm (Jp p) (Je (Jp p)))) (Db (Je (Jp p)) (Jm (Jp p) (Je (Jp p)))) N
namespace M3
def D7(base:Nat)(V:H)(v:I)(L:List (List Rat × Nat)):Prop:=Y5 true base V v L
section
variable {base:Nat} {V V':World} {v:Value} {L:List (List Rat × Nat)}
theorem D7.below(h:D7 base V v L)(a:Bl V V'):D7 base V' v L:=Y5.below h a
theorem D7.drew(h:D7 base V v L):D7 base V.drew v L:=Y5.below h ((BE _ V).drew)
theorem D7.alloc(h:D7 base V v L)(o:Obj):D7 base (V.alloc o) v L:=Y5.below h (Ba V o)
theorem D7.set1(h:D7 base V v L){B:Nat}{a:Option Addr}{l c:Nat}(q:Boxed V B 25 (C a l c))(_:JG (C a l c)=true)(b:I):D7 base (V.setCell ⟨B,0,none⟩ b) v L:=Y5.set h q (λ_ _ g=>EY q b g)
end
theorem bP(a b:I)(ps qs:List Rat)(w:H)(i:Jc w a ps)(j:Jc w b qs)(k:Sqs ps)(l:Sqs qs)(m:Sqs (JE ps qs)):
 Calls Tryz.prog 48 #[a,b] w λe c=>∃u,e=.returned u/\Jc c u (JE ps qs)/\Bl w c:=by
 refine(PU a b ps qs w i j k l m).mono ?_;rintro e c ⟨u,d,f,_,g⟩;exact⟨u,d,f,g⟩
theorem NI{M:Nat}{w:List Rat}(h:Cd M (Je w))(b:M<=1000000000)(i:Nat):Sq (Gn w i):=by
 have a:=(h.sqs b).at i;unfold Je at a;rwa[Yc,Hy]at a
attribute [local go_sem] Oper.semAt_some
theorem Q5(K M N:Nat)(v:I)(p:List Rat)(w:H)(h:Jc w v p)(ai:PtOk K M N p):
 Calls Tryz.prog 18 #[v] w λe w'=>∃u,e=.returned u/\Y5 true w.heap.size w' u (Gs p N)/\Bl w w':=by
 have Ql:Tryz.prog.follows .mixedOrders=true:=by kernel_rfl
 obtain⟨q,hq⟩:=ex (Jp p);obtain⟨c,hc⟩:=ex (Jm q (Je q));obtain⟨w0,bf⟩:=ex (Db q c);obtain⟨y0,bg⟩:=ex (Db (Je q) c);have hM:M<=1000000000:=by
  have A:=ai.l1
  have:1*(M+1)<=(p.length+3)*(M+1):=Am _ Y
  omega
 have Qq:=ai.ch;have Ui:=ai.kM;rw[hq]at Qq Ui;have Uz:q.length=p.length:=by rw[<-hq];exact Xm ai.tp
 have Qu:Cd M q:=by rw[<-hq];exact ai.cp.mon ai.tp
 have Uj:Jd q=q:=by rw[<-hq];exact Yu _
 have Uf:Cd M (Je q):=(show Cd K (Je q)from Qq.cq).mono (by have:=I8 K q (Je q);omega);have Qw:Cd M c:=by rw[<-hc];exact Qq.gcd.mono Ui
 have Uk:Jd c=c:=by rw[<-hc];exact JK _ _
 have Uc:Jp c=c:=by rw[<-hc];exact YN Uj (JV _)
 have Ux:2*(((Je q).length+3)*(M+1))<=1000000000:=by
  have A:(Je q).length<=q.length:=Aw (LT _) (by simp[Gy]);have h2:((Je q).length+3)*(M+1)<=(p.length+3)*(M+1):=Am _ Y;have h3:=ai.l1;omega
 obtain⟨Ug,Up,Uh,Ut,Us,Uq⟩:=Kb (λ(V:H) (x:I) (r:List Rat) (hx:Jc V x r)=>Ya x r V hx) (λ(V:H) (x:I) (hx:Jc V x p)=>show Calls Tryz.prog 26 #[x] V λe w'=>∃u,e=.returned u/\Jc w' u q/\Bl V w' by rw[<-hq];exact Q3 M x p V hx ai.tp ai.cp hM) (λ(V:H) (x:I) (hx:Jc V x q)=>K3 x q V hx (Qu.sqs hM) (NI Uf hM)) (λ(V:H) (x y:I) (hx:Jc V x q) (hy:Jc V y (Je q))=>show Calls Tryz.prog 8 #[x,y] V λe w'=>∃u,e=.returned u/\Jc w' u c/\Bl V w' by rw[<-hc];exact Gr K x y q (Je q) V hx hy Qq) (λ(V:H) (x y:I) (hx:Jc V x q) (hy:Jc V y c)=>show Calls Tryz.prog 46 #[x,y] V λe w'=>∃u,e=.returned u/\Jc w' u w0/\Bl V w' by rw[<-bf];exact KD M x y q c V hx hy Qu Qw Uj Uk Uc (by rw[Uz];exact ai.l1)) (λ(V:H) (x y:I) (hx:Jc V x (Je q)) (hy:Jc V y c)=>show Calls Tryz.prog 46 #[x,y] V λe w'=>∃u,e=.returned u/\Jc w' u y0/\Bl V w' by rw[<-bg];exact KD M x y (Je q) c V hx hy Uf Qw (JV _) Uk Uc Ux);have Qv:=ai.st;have Qz:=ai.en;rw[hq,hc,bf,bg]at Qv Qz;obtain⟨Uy,Wj,Wl⟩:=Dh Qv Qz (show Gs p N=yL w0 y0 N by unfold Gs;rw[hq,hc,bf,bg]);rw[Wl.o];obtain⟨Wh,Wi,Wk⟩:=Dh (λ(a b:List Rat) (ho:StOk K M a b) (V:H) (x:I) (hx:Jc V x a)=>K3 x a V hx (ho.cw.sqs hM) (NI ho.cs hM)) (λ(a b:List Rat) (ho:StOk K M a b) (V:H) (x y:I) (hx:Jc V x b) (hy:Jc V y (Je a))=>bP x y b (Je a) V hx hy (ho.cy.sqs hM) (ho.cs.sqs hM) (ho.cz.sqs hM)) λ(a b:List Rat) (ho:StOk K M a b) (V:H) (x y:I) (hx:Jc V x a) (hy:Jc V y (JE b (Je a)))=>Gr K x y a (JE b (Je a)) V hx hy ho.ch;have Qf:∀(a b:List Rat),StOk K M a b->Cd M (Jm a (JE b (Je a)))/\Jd (Jm a (JE b (Je a)))=Jm a (JE b (Je a))/\Jp (Jm a (JE b (Je a)))=Jm a (JE b (Je a)):=λa b ho=>⟨ho.ch.gcd.mono ho.kM,JK _ _,YN ho.ch.tp ho.ch.tq⟩;have Wc:=Z λ(a b:List Rat) (ho:StOk K M a b) (V:H) (x y:I) (hx:Jc V x a) (hy:Jc V y (Jm a (JE b (Je a))))=>KD M x y a (Jm a (JE b (Je a))) V hx hy ho.cw (Qf a b ho).1 ho.ch.tp (Qf a b ho).2.1 (Qf a b ho).2.2 ho.l1;have Wm:=Z λ(a b:List Rat) (ho:StOk K M a b) (V:H) (x y:I) (hx:Jc V x (JE b (Je a))) (hy:Jc V y (Jm a (JE b (Je a))))=>KD M x y (JE b (Je a)) (Jm a (JE b (Je a))) V hx hy ho.cz (Qf a b ho).1 ho.ch.tq (Qf a b ho).2.1 (Qf a b ho).2.2 ho.l2;have Ud:¬(p.length:Int)-1<1:=by have:=ai.gt;omega
 obtain⟨d0,ce⟩:=ex ((p.length:Int)-1:Int);rw[ce]at Ud;have Wg:=Z ce;have fh:N<=1000000000:=ai.nN;obtain⟨pa,la,pc,rfl⟩:=h.form;have M0:=(Mem.nil w).push (.poly p) (cs:=#[C pa la pc]) h;obtain⟨W0,bu⟩:=ex (w.alloc (Q #[C pa la pc] 25));have Uo:=Z bu;have M1:Hid (Mem w W0 [some (w.heap.size,.poly p)]):=Z (by rw[<-bu];exact M0);clear M0 bu h ai Qq Ui Uz Qu Uj Uf Qw Uk Uc Ux Qv Qz Qf hM hq hc bf bg ce;go_enter Tryz.func18,Tryz.ntmps18
 go_upto_region 1 with fail
 rw[Uo.o];clear Uo;obtain⟨a1,l1,c1,n1,r1⟩:=M1.o.poly2 (i:=0) rfl;have Ua:=n1.cell;have H1:=Z (Ug.o W0 _ p r1);rw[Wg.o]at H1;go_upto_region 3 with(go_at_call 20;refine H1.o.mono ?_;clear H1;rintro e w1 ⟨rfl,hq⟩;clear Ua;have Ua:=(boxed_below n1 hq).cell)
 have M2:Hid (Mem w w1 [some (w.heap.size,.poly p)]):=Z (M1.o.below hq);clear M1;clear hq n1 r1 Ua;obtain⟨a2,l2,c2,n2,r2⟩:=M2.o.poly2 (i:=0) rfl;have Ub:=n2.cell;have Qy:=n2.frozen;have H1:=Z (Up.o w1 _ r2);clear Up;go_upto_region 4 with(go_at_call 26;refine H1.o.mono ?_;clear H1;rintro e w2 ⟨u2,rfl,ct,hq⟩;obtain⟨an,aq,ap,rfl⟩:=Jc.form ct;clear Ub;have Ub:=(boxed_below n2 hq).cell;clear Qy;have Qy:=(boxed_below n2 hq).frozen)
 obtain⟨V3,hV⟩:=ex (w2.setCell ⟨w.heap.size,0,none⟩ (C an aq ap));have g:Mem w (w2.setCell ⟨w.heap.size,0,none⟩ (C an aq ap)) [some (w.heap.size,.poly q)]:=Mem.putPoly (M2.o.below hq) (i:=0) rfl ct;rw[hV]at g;rw[hV];have M3:Hid (Mem w V3 [some (w.heap.size,.poly q)]):=Z (g);clear M2;clear g hV;clear ct hq n2 r2 Ub Qy;refine Jn Ql [[],[],[1],[0,2,2],[],[4,3,3,0,1,2,3,4]] (by kernel_rfl) DL
  (λD af V=>∃(ta tb tc td tt:I) (x4:Option (Nat × Dat)),af={ tmps:=#[G #[C pa la pc],F (some ⟨w.heap.size,0,none⟩),C none 0 0,tt,E,E,E,E,E,G #[C a1 l1 c1],.int .i64 d0,.bool (decide (d0<1)),G #[C a2 l2 c2],G #[C an aq ap],ta,tb,tc,td,E,E,E,E,E,E,E,E,E,E,E,E,E,E,E,E,E,E,E,E,E,E,E,E,E,E,E,E,E,E,E,E,E,E,E],defers:=[] }/\Hid ((D 0=true->Has V ta (.poly q))/\(D 1=true->Has V tb (.poly q))/\(D 2=true->Has V tc (.poly (Je q)))/\(D 3=true->Has V td (.poly c))/\((D 4=false->x4=none)/\(D 4=true->D 5=false->∃B:Nat,tt=F (some ⟨B,0,none⟩)/\x4=some (B,.poly []))/\(D 5=true->∃B:Nat,tt=F (some ⟨B,0,none⟩)/\x4=some (B,.poly c))))/\Hid (Mem w V [some (w.heap.size,.poly q),x4]))
  ⟨_,_,_,_,_,none,rfl,Z ⟨O,O,O,O,O⟩,Z ((M3.o).none).drew⟩ ?step4 ?fin4
 case step4=>
  rintro D af V i ds ak hi m ad ⟨ta,tb,tc,td,tt,x4,rfl,f,g⟩;have Qr:i<6:=(Af.1 hi).1;obtain rfl|rfl|rfl|rfl|rfl|rfl:=Ia i Y
  all_goals
   simp only[Aj,Ah,Al]at hi;subst hi
  . clear m;obtain⟨a,l,c,n,r⟩:=g.o.poly2 (i:=0) rfl;have e0:=n.cell;refine Zt ?_;exact⟨_,_,_,_,_,_,rfl,(Dc f λ_=>r),Z (g.o)⟩
  . clear m;obtain⟨a,l,c,n,r⟩:=g.o.poly2 (i:=0) rfl;have e0:=n.cell;refine Zt ?_;exact⟨_,_,_,_,_,_,rfl,(Dg f λ_=>r),Z (g.o)⟩
  . have s:=(f.o.2.1 (m 1 O));have HC:=Z (Uh.o V _ s);clear m s;refine Jb rfl rfl λK hK=>?_;go_simp;go_wp2_with(go_at_call 24;refine HC.o.mono ?_;rintro e w5 ⟨v5,rfl,ae,j⟩)
    exact⟨_,_,_,_,_,_,rfl,Z ⟨λh=>(f.o.1 h).below j,λh=>(f.o.2.1 h).below j,λ_=>ae,λh=>(f.o.2.2.2.1 h).below j,f.o.2.2.2.2⟩,Z (g.o.below j)⟩
  . have s:=(f.o.1 (m 0 O));have A:=(f.o.2.2.1 (m 2 O));have HC:=Z (Ut.o V _ _ s A);clear m s A;refine Jb rfl rfl λK hK=>?_;go_simp;go_wp2_with(go_at_call 8;refine HC.o.mono ?_;rintro e w5 ⟨v5,rfl,ae,j⟩)
    exact⟨_,_,_,_,_,_,rfl,Z ⟨λh=>(f.o.1 h).below j,λh=>(f.o.2.1 h).below j,λh=>(f.o.2.2.1 h).below j,λ_=>ae,f.o.2.2.2.2⟩,Z (g.o.below j)⟩
  . have hf:D 5=false:=DN ak ad;obtain rfl:=f.o.2.2.2.2.1 ad;clear m;refine Zt ?_;exact⟨_,_,_,_,_,_,rfl,Z ⟨λh=>(f.o.1 h).alloc _,λh=>(f.o.2.1 h).alloc _,λh=>(f.o.2.2.1 h).alloc _,λh=>(f.o.2.2.2.1 h).alloc _,⟨λh=>by simp at h,λ_ _=>⟨_,rfl,rfl⟩,λh=>by simp[hf]at h⟩⟩,Z (g.o.fill (i:=1) rfl (.poly []) (FT _))⟩
  . obtain⟨B,rfl,rfl⟩:=Do f (m 4 O) ad;have Qc:=m 4 O;have hv:=(f.o.2.2.2.1 (m 3 O));obtain⟨a1,l1,c1,rfl⟩:=Jc.form (show Jc V _ _ from hv);obtain⟨a,l,c,n,r⟩:=g.o.poly2 (i:=1) rfl;have e0:=n.cell;have f0:=n.frozen;clear m;refine Zt ?_;exact⟨_,_,_,_,_,_,rfl,Z ⟨λh=>(f.o.1 h).set1 n rfl _,λh=>(f.o.2.1 h).set1 n rfl _,λh=>(f.o.2.2.1 h).set1 n rfl _,λh=>(f.o.2.2.2.1 h).set1 n rfl _,⟨λh=>by simp[Qc]at h,λ_ h=>by simp at h,λ_=>⟨B,rfl,rfl⟩⟩⟩,Z (g.o.putPoly (i:=1) rfl hv)⟩
 rintro D af V5 ah ⟨ta,tb,tc,td,tt,x4,rfl,f,g⟩;obtain⟨B6,rfl,rfl⟩:=f.o.2.2.2.2.2.2 (ah 5 DL);clear f ah M3;have M4:Hid (Mem w V5 [some (w.heap.size,.poly q),some (B6,.poly c)]):=g;clear g;go_upto_region 5 with fail
 refine Jn Ql [[],[],[0,1],[],[3,2],[],[4,5,4],[],[],[7,2,6,0,1,2,7,8],[8,6,9,0,1,2,3,4,5,6,7,8,9]] (by kernel_rfl) DL
  (λD af V=>∃(te tf tg ti tj tk tl tz tC:I) (x7 x8:Option (Nat × Dat)),af={ tmps:=#[G #[C pa la pc],F (some ⟨w.heap.size,0,none⟩),C none 0 0,F (some ⟨B6,0,none⟩),tz,tC,E,E,E,G #[C a1 l1 c1],.int .i64 d0,.bool (decide (d0<1)),G #[C a2 l2 c2],G #[C an aq ap],ta,tb,tc,td,te,tf,tg,ti,tj,tk,tl,E,E,E,E,E,E,E,E,E,E,E,E,E,E,E,E,E,E,E,E,E,E,E,E,E,E,E,E],defers:=[] }/\Hid ((D 0=true->Has V te (.poly q))/\(D 1=true->Has V tf (.poly c))/\(D 2=true->Has V tg (.poly w0))/\(D 3=true->Has V ti (.poly q))/\(D 4=true->Has V tj (.poly (Je q)))/\(D 5=true->Has V tk (.poly c))/\(D 6=true->Has V tl (.poly y0))/\((D 7=false->x7=none)/\(D 7=true->D 9=false->∃B:Nat,tz=F (some ⟨B,0,none⟩)/\x7=some (B,.poly []))/\(D 9=true->∃B:Nat,tz=F (some ⟨B,0,none⟩)/\x7=some (B,.poly w0)))/\((D 8=false->x8=none)/\(D 8=true->D 10=false->∃B:Nat,tC=F (some ⟨B,0,none⟩)/\x8=some (B,.poly []))/\(D 10=true->∃B:Nat,tC=F (some ⟨B,0,none⟩)/\x8=some (B,.poly y0))))/\Hid (Mem w V [some (w.heap.size,.poly q),some (B6,.poly c),x7,x8]))
  ⟨_,_,_,_,_,_,_,_,_,none,none,rfl,Z ⟨O,O,O,O,O,O,O,O,O⟩,Z (((M4.o).none).none).drew⟩ ?step7 ?fin7
 case step7=>
  rintro D af V i ds ak hi m ad ⟨te,tf,tg,ti,tj,tk,tl,tz,tC,x7,x8,rfl,f,g⟩;have Qr:i<11:=(Af.1 hi).1;obtain rfl|rfl|rfl|rfl|rfl|rfl|rfl|rfl|rfl|rfl|rfl:=GJ i Y
  all_goals
   simp only[Aj,Ah,Al]at hi;subst hi
  . clear m;obtain⟨a,l,c,n,r⟩:=g.o.poly2 (i:=0) rfl;have e0:=n.cell;refine Zt ?_;exact⟨_,_,_,_,_,_,_,_,_,_,_,rfl,(Dc f λ_=>r),Z (g.o)⟩
  . clear m;obtain⟨a,l,c,n,r⟩:=g.o.poly2 (i:=1) rfl;have e0:=n.cell;refine Zt ?_;exact⟨_,_,_,_,_,_,_,_,_,_,_,rfl,(Dg f λ_=>r),Z (g.o)⟩
  . have s:=(f.o.1 (m 0 O));have A:=(f.o.2.1 (m 1 O));have HC:=Z (Us.o V _ _ s A);clear m s A;refine Jb rfl rfl λK hK=>?_;go_simp;go_wp2_with(go_at_call 46;refine HC.o.mono ?_;rintro e w5 ⟨v5,rfl,ae,j⟩)
    obtain⟨S,U,_,W,X,G5,G6,G7⟩:=f.o;exact⟨_,_,_,_,_,_,_,_,_,_,_,rfl,Z ⟨λh=>(S h).below j,λh=>(U h).below j,λ_=>ae,λh=>(W h).below j,λh=>(X h).below j,λh=>(G5 h).below j,λh=>(G6 h).below j,G7⟩,Z (g.o.below j)⟩
  . clear m;obtain⟨a,l,c,n,r⟩:=g.o.poly2 (i:=0) rfl;have e0:=n.cell;refine Zt ?_;exact⟨_,_,_,_,_,_,_,_,_,_,_,rfl,(Dd f λ_=>r),Z (g.o)⟩
  . have s:=(f.o.2.2.2.1 (m 3 O));have HC:=Z (Uh.o V _ s);clear m s;refine Jb rfl rfl λK hK=>?_;go_simp;go_wp2_with(go_at_call 24;refine HC.o.mono ?_;rintro e w5 ⟨v5,rfl,ae,j⟩)
    obtain⟨S,U,G2,W,_,G5,G6,G7⟩:=f.o;exact⟨_,_,_,_,_,_,_,_,_,_,_,rfl,Z ⟨λh=>(S h).below j,λh=>(U h).below j,λh=>(G2 h).below j,λh=>(W h).below j,λ_=>ae,λh=>(G5 h).below j,λh=>(G6 h).below j,G7⟩,Z (g.o.below j)⟩
  . clear m;obtain⟨a,l,c,n,r⟩:=g.o.poly2 (i:=1) rfl;have e0:=n.cell;refine Zt ?_;exact⟨_,_,_,_,_,_,_,_,_,_,_,rfl,(Dx f λ_=>r),Z (g.o)⟩
  . have s:=(f.o.2.2.2.2.1 (m 4 O));have A:=((Do f) (m 5 O));have HC:=Z (Uq.o V _ _ s A);clear m s A;refine Jb rfl rfl λK hK=>?_;go_simp;go_wp2_with(go_at_call 46;refine HC.o.mono ?_;rintro e w5 ⟨v5,rfl,ae,j⟩)
    obtain⟨S,U,G2,W,X,G5,_,G7⟩:=f.o;exact⟨_,_,_,_,_,_,_,_,_,_,_,rfl,Z ⟨λh=>(S h).below j,λh=>(U h).below j,λh=>(G2 h).below j,λh=>(W h).below j,λh=>(X h).below j,λh=>(G5 h).below j,λ_=>ae,G7⟩,Z (g.o.below j)⟩
  . have hf:D 9=false:=DN ak ad;obtain rfl:=f.o.2.2.2.2.2.2.2.1.1 ad;clear m;refine Zt ?_;obtain⟨S,U,G2,W,X,G5,G6,_,G8⟩:=f.o;exact⟨_,_,_,_,_,_,_,_,_,_,_,rfl,Z ⟨λh=>(S h).alloc _,λh=>(U h).alloc _,λh=>(G2 h).alloc _,λh=>(W h).alloc _,λh=>(X h).alloc _,λh=>(G5 h).alloc _,λh=>(G6 h).alloc _,⟨λh=>by simp at h,λ_ _=>⟨_,rfl,rfl⟩,λh=>by simp[hf]at h⟩,G8⟩,Z (g.o.fill (i:=2) rfl (.poly []) (FT _))⟩
  . have hf:D 10=false:=DN ak ad;obtain rfl:=ER f ad;clear m;refine Zt ?_;obtain⟨S,U,G2,W,X,G5,G6,G7,_⟩:=f.o;exact⟨_,_,_,_,_,_,_,_,_,_,_,rfl,Z ⟨λh=>(S h).alloc _,λh=>(U h).alloc _,λh=>(G2 h).alloc _,λh=>(W h).alloc _,λh=>(X h).alloc _,λh=>(G5 h).alloc _,λh=>(G6 h).alloc _,G7,⟨λh=>by simp at h,λ_ _=>⟨_,rfl,rfl⟩,λh=>by simp[hf]at h⟩⟩,Z (g.o.fill (i:=3) rfl (.poly []) (FT _))⟩
  . obtain⟨B,rfl,rfl⟩:=f.o.2.2.2.2.2.2.2.1.2.1 (m 7 O) ad;have Qc:=m 7 O;have hv:=(f.o.2.2.1 (m 2 O));obtain⟨a1,l1,c1,rfl⟩:=Jc.form (show Jc V _ _ from hv);obtain⟨a,l,c,n,r⟩:=g.o.poly2 (i:=2) rfl;have e0:=n.cell;have f0:=n.frozen;clear m;refine Zt ?_;obtain⟨S,U,G2,W,X,G5,G6,_,G8⟩:=f.o;exact⟨_,_,_,_,_,_,_,_,_,_,_,rfl,Z ⟨λh=>(S h).set1 n rfl _,λh=>(U h).set1 n rfl _,λh=>(G2 h).set1 n rfl _,λh=>(W h).set1 n rfl _,λh=>(X h).set1 n rfl _,λh=>(G5 h).set1 n rfl _,λh=>(G6 h).set1 n rfl _,⟨λh=>by simp[Qc]at h,λ_ h=>by simp at h,λ_=>⟨B,rfl,rfl⟩⟩,G8⟩,Z (g.o.putPoly (i:=2) rfl hv)⟩
  . obtain⟨B,rfl,rfl⟩:=FP f (m 8 O) ad;have Qc:=m 8 O;have hv:=((D3 f) (m 6 O));obtain⟨a1,l1,c1,rfl⟩:=Jc.form (show Jc V _ _ from hv);obtain⟨a,l,c,n,r⟩:=g.o.poly2 (i:=3) rfl;have e0:=n.cell;have f0:=n.frozen;clear m;refine Zt ?_;obtain⟨S,U,G2,W,X,G5,G6,G7,_⟩:=f.o;exact⟨_,_,_,_,_,_,_,_,_,_,_,rfl,Z ⟨λh=>(S h).set1 n rfl _,λh=>(U h).set1 n rfl _,λh=>(G2 h).set1 n rfl _,λh=>(W h).set1 n rfl _,λh=>(X h).set1 n rfl _,λh=>(G5 h).set1 n rfl _,λh=>(G6 h).set1 n rfl _,G7,⟨λh=>by simp[Qc]at h,λ_ h=>by simp at h,λ_=>⟨B,rfl,rfl⟩⟩⟩,Z (g.o.putPoly (i:=3) rfl hv)⟩
 rintro D af V8 ah ⟨te,tf,tg,ti,tj,tk,tl,tz,tC,x7,x8,rfl,f,g⟩;obtain⟨B9,rfl,rfl⟩:=f.o.2.2.2.2.2.2.2.1.2.2 (ah 9 DL);obtain⟨B10,rfl,rfl⟩:=f.o.2.2.2.2.2.2.2.2.2.2 (ah 10 DL);clear f ah M4;have M5:Hid (Mem w V8 [some (w.heap.size,.poly q),some (B6,.poly c),some (B9,.poly w0),some (B10,.poly y0)]):=g;clear g;go_wp2;go_loopw [6,7] (λlv tv wr=>∃(k:Nat) (xa:Option Addr) (xc:Nat),k<=N/\lv=C xa (yL w0 y0 k).length xc/\tv=.int .i64 ((k+1:Nat):Int)/\Hid (D7 w.heap.size wr (C xa (yL w0 y0 k).length xc) (yL w0 y0 k))/\Hid (Mem w wr [some (w.heap.size,.poly q),some (B6,.poly c),some (B9,.poly ((DP w0 y0 k).1)),some (B10,.poly ((DP w0 y0 k).2))])) λ_ tv _=>N+1-(intOf tv).toNat
 case atStart=>exact⟨0,none,0,AK _,rfl,rfl,Z (Y5.nil _ _ _),M5⟩
 case round=>
  clear M5 Ut Us Uq Uh;obtain⟨k,xa,xc,hk,rfl,rfl,XL,M6⟩:=hrel;obtain⟨o,cn⟩:=ex ((DP w0 y0 k).1);obtain⟨z,co⟩:=ex ((DP w0 y0 k).2);obtain⟨L,hL⟩:=ex (yL w0 y0 k);have Qa:=Z (show(DP w0 y0 k).1=o/\(DP w0 y0 k).2=z/\yL w0 y0 k=L/\L.length<=k from⟨cn,co,hL,by rw[<-hL];exact Q4 _ _ _⟩);rw[cn,co]at M6;rw[hL]at XL;clear cn co hL;rw[Qa.o.2.2.1];obtain⟨ll,cl⟩:=ex (L.length:Nat);rw[cl]at XL ⊢;have Qk:=Z cl;clear cl;obtain⟨T,hT⟩:=ex (k+1:Nat);rw[hT];have Qh:=Z hT;clear hT;obtain⟨bm,db,bn,bi,r11⟩:=M6.o.poly2 (i:=2) rfl;have Qd:=bi.cell;have H1:=Z (Ug.o wr _ o r11);obtain⟨d1,ci⟩:=ex ((o.length:Int)-1:Int);rw[ci]at H1;have Uw:=Z ci;clear ci;by_cases f7:k<N
  . have Wa:(0:Int)<d1:=by have A:=(Uy.o k f7).1;rw[Qa.o.1]at A;have:=Uw.o;omega
    have HO:=Z (show StOk K M o z by have A:=(Uy.o k f7).2;rwa[Qa.o.1,Qa.o.2.1]at A);go_upto_region 10 with(go_at_call 20;refine H1.o.mono ?_;clear H1;rintro e w1 ⟨rfl,hq⟩;clear Qd;have Qd:=(boxed_below bi hq).cell)
    have M7:Hid (Mem w w1 [some (w.heap.size,.poly q),some (B6,.poly c),some (B9,.poly o),some (B10,.poly z)]):=Z (M6.o.below hq);have Uv:=Z (XL.o.below hq);clear XL hq bi r11 Qd M6;refine Jn Ql [[],[],[1],[0,2,2],[3,3,0,1,2,3]] (by kernel_rfl) DL
     (λD af V=>∃(tm tn tr ts:I) (y3:Option (Nat × Dat)),af={ tmps:=#[G #[C pa la pc],F (some ⟨w.heap.size,0,none⟩),C none 0 0,F (some ⟨B6,0,none⟩),F (some ⟨B9,0,none⟩),F (some ⟨B10,0,none⟩),C xa ll xc,.int .i64 ↑T,u8,G #[C a1 l1 c1],.int .i64 d0,.bool (decide (d0<1)),G #[C a2 l2 c2],G #[C an aq ap],ta,tb,tc,td,te,tf,tg,ti,tj,tk,tl,G #[C bm db bn],.int .i64 d1,.bool true,u28,u29,tm,tn,tr,ts,u34,u35,u36,u37,u38,u39,u40,u41,u42,u43,u44,u45,u46,u47,u48,u49,u50,u51,E],defers:=[] }/\Hid ((D 0=true->Has V tm (.poly z))/\(D 1=true->Has V tn (.poly o))/\(D 2=true->Has V tr (.poly (Je o)))/\(D 3=true->Has V ts (.poly (JE z (Je o))))/\((D 4=false->y3=some (B10,.poly z))/\(D 4=true->y3=some (B10,.poly (JE z (Je o))))))/\Hid (Mem w V [some (w.heap.size,.poly q),some (B6,.poly c),some (B9,.poly o),y3])/\Hid (D7 w.heap.size V (C xa ll xc) L))
     ⟨_,_,_,_,_,rfl,Z ⟨O,O,O,O,⟨λ_=>rfl,O⟩⟩,Z (M7.o).drew,Z (Uv.o.drew)⟩ ?step12 ?fin12
    case step12=>
     rintro D af V i ds ak hi m ad ⟨tm,tn,tr,ts,y3,rfl,f,g,R⟩;have Qr:i<5:=(Af.1 hi).1;obtain rfl|rfl|rfl|rfl|rfl:=Nf i Y
     all_goals
      simp only[Aj,Ah,Al]at hi;subst hi
     . have hf:D 4=false:=DN ak ad;obtain rfl:=f.o.2.2.2.2.1 hf;clear m;obtain⟨a,l,c,n,r⟩:=g.o.poly2 (i:=3) rfl;have e0:=n.cell;refine Zt ?_;exact⟨_,_,_,_,_,rfl,Z ⟨λ_=>r,f.o.2.1,f.o.2.2.1,f.o.2.2.2.1,⟨λ_=>rfl,λh=>by simp[hf]at h⟩⟩,Z (g.o),Z (R.o)⟩
     . clear m;obtain⟨a,l,c,n,r⟩:=g.o.poly2 (i:=2) rfl;have e0:=n.cell;refine Zt ?_;exact⟨_,_,_,_,_,rfl,(Dg f λ_=>r),Z (g.o),Z (R.o)⟩
     . have s:=(f.o.2.1 (m 1 O));have HC:=Z (Wh.o o z HO.o V _ s);clear m s;refine Jb rfl rfl λK hK=>?_;go_simp;go_wp2_with(go_at_call 24;refine HC.o.mono ?_;rintro e w5 ⟨v5,rfl,ae,j⟩)
       exact⟨_,_,_,_,_,rfl,Z ⟨λh=>(f.o.1 h).below j,λh=>(f.o.2.1 h).below j,λ_=>ae,λh=>(f.o.2.2.2.1 h).below j,f.o.2.2.2.2⟩,Z (g.o.below j),Z (R.o.below j)⟩
     . have s:=(f.o.1 (m 0 O));have A:=(f.o.2.2.1 (m 2 O));have HC:=Z (Wi.o o z HO.o V _ _ s A);clear m s A;refine Jb rfl rfl λK hK=>?_;go_simp;go_wp2_with(go_at_call 48;refine HC.o.mono ?_;rintro e w5 ⟨v5,rfl,ae,j⟩)
       exact⟨_,_,_,_,_,rfl,Z ⟨λh=>(f.o.1 h).below j,λh=>(f.o.2.1 h).below j,λh=>(f.o.2.2.1 h).below j,λ_=>ae,f.o.2.2.2.2⟩,Z (g.o.below j),Z (R.o.below j)⟩
     . obtain rfl:=f.o.2.2.2.2.1 ad;have hv:=(f.o.2.2.2.1 (m 3 O));obtain⟨a1,l1,c1,rfl⟩:=Jc.form (show Jc V _ _ from hv);obtain⟨a,l,c,n,r⟩:=g.o.poly2 (i:=3) rfl;have e0:=n.cell;have f0:=n.frozen;clear m;refine Zt ?_;exact⟨_,_,_,_,_,rfl,Z ⟨λh=>(f.o.1 h).set1 n rfl _,λh=>(f.o.2.1 h).set1 n rfl _,λh=>(f.o.2.2.1 h).set1 n rfl _,λh=>(f.o.2.2.2.1 h).set1 n rfl _,⟨λh=>by simp at h,λ_=>rfl⟩⟩,Z (g.o.putPoly (i:=3) rfl hv),Z (R.o.set1 n rfl _)⟩
    rintro D af df ah ⟨tm,tn,tr,ts,y3,rfl,f,g,R⟩;obtain rfl:=f.o.2.2.2.2.2 (ah 4 DL);clear f ah M7;have M8:Hid (Mem w df [some (w.heap.size,.poly q),some (B6,.poly c),some (B9,.poly o),some (B10,.poly (JE z (Je o)))]):=g;clear g;have Um:=R;clear R Uv;obtain⟨P,hP⟩:=ex (Jm o (JE z (Je o)));obtain⟨Qs,Qp,Qe,Qg⟩:=EA hP (Wk.o o z HO.o) (Wc.o o z HO.o) (Wm.o o z HO.o);rw[hP]at Qp Qe Qg;clear hP;obtain⟨dm,f9,du,fb,fd⟩:=M8.o.poly2 (i:=2) rfl;have Qx:=fb.cell;obtain⟨dt,fa,ed,fc,fe⟩:=M8.o.poly2 (i:=3) rfl;have Ue:=fc.cell;have H1:=Z (Qp.o df _ _ fd fe);go_upto_region 12 with(go_at_call 8;refine H1.o.mono ?_;clear H1;rintro e w3 ⟨u3,rfl,da,hq⟩;obtain⟨aw,az,ay,rfl⟩:=Jc.form da)
    have Ur:=Z ((Um.o.below hq).alloc (Q #[C aw az ay] 25));clear Um fb fd Qx fc fe Ue;have Qi:=Ur;clear Ur;obtain⟨dh,hV⟩:=ex (w3.alloc (Q #[C aw az ay] 25));obtain⟨am,bt⟩:=ex (w3.heap.size);have g:Mem w (w3.alloc (Q #[C aw az ay] 25)) [some (w.heap.size,.poly q),some (B6,.poly c),some (B9,.poly o),some (B10,.poly (JE z (Je o))),some (w3.heap.size,.poly P)]:=Mem.push (M8.o.below hq) (.poly P) da;rw[hV,bt]at g;rw[hV]at Qi;rw[hV];rw[bt];have M9:Hid (Mem w dh [some (w.heap.size,.poly q),some (B6,.poly c),some (B9,.poly o),some (B10,.poly (JE z (Je o))),some (am,.poly P)]):=Z (g);clear M8;clear g hV bt da hq;obtain⟨ba,bh,bc,av,bj⟩:=M9.o.poly2 (i:=4) rfl;have Qb:=av.cell;have H1:=Z (Ug.o dh _ P bj);obtain⟨d2,ck⟩:=ex ((P.length:Int)-1:Int);rw[ck]at H1;have Un:=Z ck;clear ck;by_cases ei:1<P.length
    . have We:(0:Int)<d2:=by have:=Un.o;omega
      have Qj:=Z (show yL w0 y0 (k+1)=L++[(P,T)]by rw[yL,Qa.o.2.2.1];unfold yP;rw[Qa.o.1,Qa.o.2.1,Qs.o,BJ ei,Qh.o]);go_upto_region 13 with(go_at_call 20;refine H1.o.mono ?_;clear H1;rintro e w4 ⟨rfl,hq⟩;clear Qb;have Qb:=(boxed_below av hq).cell)
      have X4:=Qi.o.below hq;have M4:=M9.o.below hq;have r4:=bj.below hq;have Ul:=M4.2.2.size;obtain⟨v',w',bz,X5,ew,et,fg⟩:=bO true w.heap.size w4 (C xa ll xc) L X4 (t:=T) r4.row (by have:=Qa.o.2.2.2;omega) Ul;obtain⟨ya,yc,f8,_,_⟩:=X5.form;rw[Aq,show([(P,T)]:List (List Rat × Nat)).length=1 from rfl]at f8;subst f8;have M5:=M4.farP ew (et _ w (Aa _) M4.2.2) (λi B d e=>by rcases i with _|_|_|_|_|i<;>simp at e<;>(obtain⟨rfl,rfl⟩:=e;show 25≠44;decide));have e4:=(boxed_below av hq).cell;clear X4 r4 Ul ew et fg hq M4 av bj Qb Qi;rw[show GA true=39 from rfl,show Dz true=44 from rfl]at bz;go_upto_region 14 with(first
       |(at_builtin;refine Lib.wpList_append_run _ rfl _ _ 39 39 rfl _ _ rfl rfl _ _ bz ?_;clear bz))
      clear e4 M9;have Qn:Hid (Mem w w' [some (w.heap.size,.poly q),some (B6,.poly c),some (B9,.poly o),some (B10,.poly (JE z (Je o))),some (am,.poly P)]):=Z (M5);clear M5;have Uu:Hid (D7 w.heap.size w' (C ya (L.length+1) yc) (L++[(P,T)])):=Z X5;clear X5;rw[Qk.o]at Uu;refine Jn Ql [[],[],[0,1],[],[],[3,4,2],[2,5,0,1,2],[5,6,0,1,2,3,4,5,6]] (by kernel_rfl) DL
       (λD af V=>∃(tu tw tx ty tA tB:I) (y2 y3:Option (Nat × Dat)),af={ tmps:=#[G #[C pa la pc],F (some ⟨w.heap.size,0,none⟩),C none 0 0,F (some ⟨B6,0,none⟩),F (some ⟨B9,0,none⟩),F (some ⟨B10,0,none⟩),C ya (L.length+1) yc,.int .i64 ↑T,F (some ⟨am,0,none⟩),G #[C a1 l1 c1],.int .i64 d0,.bool (decide (d0<1)),G #[C a2 l2 c2],G #[C an aq ap],ta,tb,tc,td,te,tf,tg,ti,tj,tk,tl,G #[C bm db bn],.int .i64 d1,.bool true,u28,u29,tm,tn,tr,ts,G #[C dm f9 du],G #[C dt fa ed],G #[C aw az ay],G #[C ba bh bc],.int .i64 d2,.bool true,C xa ll xc,G #[C ba bh bc],.int .i64 ↑T,G #[C ba bh bc,.int .i64 ↑T],C (some ⟨w4.heap.size,0,none⟩) 1 1,C ya (L.length+1) yc,tu,tw,tx,ty,tA,tB,E],defers:=[] }/\Hid ((D 0=true->Has V tu (.poly o))/\(D 1=true->Has V tw (.poly P))/\(D 2=true->Has V tx (.poly (Db o P)))/\(D 3=true->Has V ty (.poly (JE z (Je o))))/\(D 4=true->Has V tA (.poly P))/\(D 5=true->Has V tB (.poly (Db (JE z (Je o)) P)))/\((D 6=false->y2=some (B9,.poly o))/\(D 6=true->y2=some (B9,.poly (Db o P))))/\((D 7=false->y3=some (B10,.poly (JE z (Je o))))/\(D 7=true->y3=some (B10,.poly (Db (JE z (Je o)) P)))))/\Hid (Mem w V [some (w.heap.size,.poly q),some (B6,.poly c),y2,y3,some (am,.poly P)])/\Hid (D7 w.heap.size V (C ya (ll+1) yc) (L++[(P,T)])))
       ⟨_,_,_,_,_,_,_,_,rfl,Z ⟨O,O,O,O,O,O,⟨λ_=>rfl,O⟩,⟨λ_=>rfl,O⟩⟩,Z (Qn.o).drew,Z (Uu.o.drew)⟩ ?step18 ?fin18
      case step18=>
       rintro D af V i ds ak hi m ad ⟨tu,tw,tx,ty,tA,tB,y2,y3,rfl,f,g,R⟩;have Qr:i<8:=(Af.1 hi).1;obtain rfl|rfl|rfl|rfl|rfl|rfl|rfl|rfl:=KL i Y
       all_goals
        simp only[Aj,Ah,Al]at hi;subst hi
       . have hf:D 6=false:=DN ak ad;obtain rfl:=f.o.2.2.2.2.2.2.1.1 hf;clear m;obtain⟨a,l,c,n,r⟩:=g.o.poly2 (i:=2) rfl;have e0:=n.cell;refine Zt ?_;exact⟨_,_,_,_,_,_,_,_,rfl,(D0 (Dc f λ_=>r) ⟨λ_=>rfl,λh=>by simp[hf]at h⟩),Z (g.o),Z (R.o)⟩
       . clear m;obtain⟨a,l,c,n,r⟩:=g.o.poly2 (i:=4) rfl;have e0:=n.cell;refine Zt ?_;exact⟨_,_,_,_,_,_,_,_,rfl,(Dg f λ_=>r),Z (g.o),Z (R.o)⟩
       . have s:=(f.o.1 (m 0 O));have A:=(f.o.2.1 (m 1 O));have HC:=Z (Qe.o V _ _ s A);clear m s A;refine Jb rfl rfl λK hK=>?_;go_simp;go_wp2_with(go_at_call 46;refine HC.o.mono ?_;rintro e w5 ⟨v5,rfl,ae,j⟩)
         obtain⟨S,U,_,W,X,G5,G6⟩:=f.o;exact⟨_,_,_,_,_,_,_,_,rfl,Z ⟨λh=>(S h).below j,λh=>(U h).below j,λ_=>ae,λh=>(W h).below j,λh=>(X h).below j,λh=>(G5 h).below j,G6⟩,Z (g.o.below j),Z (R.o.below j)⟩
       . have hf:D 7=false:=DN ak ad;obtain rfl:=EF f hf;clear m;obtain⟨a,l,c,n,r⟩:=g.o.poly2 (i:=3) rfl;have e0:=n.cell;refine Zt ?_;exact⟨_,_,_,_,_,_,_,_,rfl,(Ka (Dd f λ_=>r) ⟨λ_=>rfl,λh=>by simp[hf]at h⟩),Z (g.o),Z (R.o)⟩
       . clear m;obtain⟨a,l,c,n,r⟩:=g.o.poly2 (i:=4) rfl;have e0:=n.cell;refine Zt ?_;exact⟨_,_,_,_,_,_,_,_,rfl,(Dt f λ_=>r),Z (g.o),Z (R.o)⟩
       . have s:=(f.o.2.2.2.1 (m 3 O));have A:=(f.o.2.2.2.2.1 (m 4 O));have HC:=Z (Qg.o V _ _ s A);clear m s A;refine Jb rfl rfl λK hK=>?_;go_simp;go_wp2_with(go_at_call 46;refine HC.o.mono ?_;rintro e w5 ⟨v5,rfl,ae,j⟩)
         obtain⟨S,U,G2,W,X,_,G6⟩:=f.o;exact⟨_,_,_,_,_,_,_,_,rfl,Z ⟨λh=>(S h).below j,λh=>(U h).below j,λh=>(G2 h).below j,λh=>(W h).below j,λh=>(X h).below j,λ_=>ae,G6⟩,Z (g.o.below j),Z (R.o.below j)⟩
       . obtain rfl:=f.o.2.2.2.2.2.2.1.1 ad;have hv:=(f.o.2.2.1 (m 2 O));obtain⟨a1,l1,c1,rfl⟩:=Jc.form (show Jc V _ _ from hv);obtain⟨a,l,c,n,r⟩:=g.o.poly2 (i:=2) rfl;have e0:=n.cell;have f0:=n.frozen;clear m;refine Zt ?_;obtain⟨S,U,G2,W,X,G5,_,G7⟩:=f.o;exact⟨_,_,_,_,_,_,_,_,rfl,Z ⟨λh=>(S h).set1 n rfl _,λh=>(U h).set1 n rfl _,λh=>(G2 h).set1 n rfl _,λh=>(W h).set1 n rfl _,λh=>(X h).set1 n rfl _,λh=>(G5 h).set1 n rfl _,⟨λh=>by simp at h,λ_=>rfl⟩,G7⟩,Z (g.o.putPoly (i:=2) rfl hv),Z (R.o.set1 n rfl _)⟩
       . obtain rfl:=EF f ad;have hv:=((Do f) (m 5 O));obtain⟨a1,l1,c1,rfl⟩:=Jc.form (show Jc V _ _ from hv);obtain⟨a,l,c,n,r⟩:=g.o.poly2 (i:=3) rfl;have e0:=n.cell;have f0:=n.frozen;clear m;refine Zt ?_;obtain⟨S,U,G2,W,X,G5,G6,_⟩:=f.o;exact⟨_,_,_,_,_,_,_,_,rfl,Z ⟨λh=>(S h).set1 n rfl _,λh=>(U h).set1 n rfl _,λh=>(G2 h).set1 n rfl _,λh=>(W h).set1 n rfl _,λh=>(X h).set1 n rfl _,λh=>(G5 h).set1 n rfl _,G6,⟨λh=>by simp at h,λ_=>rfl⟩⟩,Z (g.o.putPoly (i:=3) rfl hv),Z (R.o.set1 n rfl _)⟩
      rintro D af di ah ⟨tu,tw,tx,ty,tA,tB,y2,y3,rfl,f,g,R⟩;obtain rfl:=f.o.2.2.2.2.2.2.1.2 (ah 6 DL);obtain rfl:=f.o.2.2.2.2.2.2.2.2 (ah 7 DL);clear f ah Qn;have Qo:Hid (Mem w di [some (w.heap.size,.poly q),some (B6,.poly c),some (B9,.poly (Db o P)),some (B10,.poly (Db (JE z (Je o)) P)),some (am,.poly P)]):=g;clear g;have Qt:Hid (Mem w di [some (w.heap.size,.poly q),some (B6,.poly c),some (B9,.poly (Db o P)),some (B10,.poly (Db (JE z (Je o)) P))]):=Z (Qo.o.take 4);have Qm:=Z (show(DP w0 y0 (k+1)).1=Db o P/\(DP w0 y0 (k+1)).2=Db (JE z (Je o)) P by rw[DP];unfold IZ;rw[Qa.o.1,Qa.o.2.1,Qs.o];exact⟨rfl,rfl⟩);have Wd:T+1<=9223372036854775807:=by have:=Qh.o;omega
      clear Qo;go_wp2_with fail
      go_roundw
      case rel=>exact⟨k+1,ya,yc,Y,by rw[Qj.o,Aq,Qk.o];rfl,by rw[Qh.o];go_num,by rw[Qj.o,Aq,Qk.o];exact R,by rw[Qm.o.1,Qm.o.2];exact Qt⟩
      case measure=>simp[intOf];have:=Qh.o;omega
    . have We:¬(0:Int)<d2:=by have:=Un.o;omega
      have Qj:=Z (show yL w0 y0 (k+1)=L by rw[yL,Qa.o.2.2.1];unfold yP;rw[Qa.o.1,Qa.o.2.1,Qs.o,BH ei,CW]);go_upto_region 14 with(go_at_call 20;refine H1.o.mono ?_;clear H1;rintro e w4 ⟨rfl,hq⟩;clear Qb;have Qb:=(boxed_below av hq).cell)
      have Wb:=Z (Qi.o.below hq);have Qn:Hid (Mem w w4 [some (w.heap.size,.poly q),some (B6,.poly c),some (B9,.poly o),some (B10,.poly (JE z (Je o))),some (am,.poly P)]):=Z (M9.o.below hq);clear M9;clear hq av bj Qb Qi;refine Jn Ql [[],[],[0,1],[],[],[3,4,2],[2,5,0,1,2],[5,6,0,1,2,3,4,5,6]] (by kernel_rfl) DL
       (λD af V=>∃(tu tw tx ty tA tB:I) (y2 y3:Option (Nat × Dat)),af={ tmps:=#[G #[C pa la pc],F (some ⟨w.heap.size,0,none⟩),C none 0 0,F (some ⟨B6,0,none⟩),F (some ⟨B9,0,none⟩),F (some ⟨B10,0,none⟩),C xa ll xc,.int .i64 ↑T,F (some ⟨am,0,none⟩),G #[C a1 l1 c1],.int .i64 d0,.bool (decide (d0<1)),G #[C a2 l2 c2],G #[C an aq ap],ta,tb,tc,td,te,tf,tg,ti,tj,tk,tl,G #[C bm db bn],.int .i64 d1,.bool true,u28,u29,tm,tn,tr,ts,G #[C dm f9 du],G #[C dt fa ed],G #[C aw az ay],G #[C ba bh bc],.int .i64 d2,.bool (decide (0<d2)),u40,u41,u42,u43,u44,u45,tu,tw,tx,ty,tA,tB,E],defers:=[] }/\Hid ((D 0=true->Has V tu (.poly o))/\(D 1=true->Has V tw (.poly P))/\(D 2=true->Has V tx (.poly (Db o P)))/\(D 3=true->Has V ty (.poly (JE z (Je o))))/\(D 4=true->Has V tA (.poly P))/\(D 5=true->Has V tB (.poly (Db (JE z (Je o)) P)))/\((D 6=false->y2=some (B9,.poly o))/\(D 6=true->y2=some (B9,.poly (Db o P))))/\((D 7=false->y3=some (B10,.poly (JE z (Je o))))/\(D 7=true->y3=some (B10,.poly (Db (JE z (Je o)) P)))))/\Hid (Mem w V [some (w.heap.size,.poly q),some (B6,.poly c),y2,y3,some (am,.poly P)])/\Hid (D7 w.heap.size V (C xa ll xc) L))
       ⟨_,_,_,_,_,_,_,_,rfl,Z ⟨O,O,O,O,O,O,⟨λ_=>rfl,O⟩,⟨λ_=>rfl,O⟩⟩,Z (Qn.o).drew,Z (Wb.o.drew)⟩ ?step20 ?fin20
      case step20=>
       rintro D af V i ds ak hi m ad ⟨tu,tw,tx,ty,tA,tB,y2,y3,rfl,f,g,R⟩;have Qr:i<8:=(Af.1 hi).1;obtain rfl|rfl|rfl|rfl|rfl|rfl|rfl|rfl:=KL i Y
       all_goals
        simp only[Aj,Ah,Al]at hi;subst hi
       . have hf:D 6=false:=DN ak ad;obtain rfl:=f.o.2.2.2.2.2.2.1.1 hf;clear m;obtain⟨a,l,c,n,r⟩:=g.o.poly2 (i:=2) rfl;have e0:=n.cell;refine Zt ?_;exact⟨_,_,_,_,_,_,_,_,rfl,(D0 (Dc f λ_=>r) ⟨λ_=>rfl,λh=>by simp[hf]at h⟩),Z (g.o),Z (R.o)⟩
       . clear m;obtain⟨a,l,c,n,r⟩:=g.o.poly2 (i:=4) rfl;have e0:=n.cell;refine Zt ?_;exact⟨_,_,_,_,_,_,_,_,rfl,(Dg f λ_=>r),Z (g.o),Z (R.o)⟩
       . have s:=(f.o.1 (m 0 O));have A:=(f.o.2.1 (m 1 O));have HC:=Z (Qe.o V _ _ s A);clear m s A;refine Jb rfl rfl λK hK=>?_;go_simp;go_wp2_with(go_at_call 46;refine HC.o.mono ?_;rintro e w5 ⟨v5,rfl,ae,j⟩)
         obtain⟨S,U,_,W,X,G5,G6⟩:=f.o;exact⟨_,_,_,_,_,_,_,_,rfl,Z ⟨λh=>(S h).below j,λh=>(U h).below j,λ_=>ae,λh=>(W h).below j,λh=>(X h).below j,λh=>(G5 h).below j,G6⟩,Z (g.o.below j),Z (R.o.below j)⟩
       . have hf:D 7=false:=DN ak ad;obtain rfl:=EF f hf;clear m;obtain⟨a,l,c,n,r⟩:=g.o.poly2 (i:=3) rfl;have e0:=n.cell;refine Zt ?_;exact⟨_,_,_,_,_,_,_,_,rfl,(Ka (Dd f λ_=>r) ⟨λ_=>rfl,λh=>by simp[hf]at h⟩),Z (g.o),Z (R.o)⟩
       . clear m;obtain⟨a,l,c,n,r⟩:=g.o.poly2 (i:=4) rfl;have e0:=n.cell;refine Zt ?_;exact⟨_,_,_,_,_,_,_,_,rfl,(Dt f λ_=>r),Z (g.o),Z (R.o)⟩
       . have s:=(f.o.2.2.2.1 (m 3 O));have A:=(f.o.2.2.2.2.1 (m 4 O));have HC:=Z (Qg.o V _ _ s A);clear m s A;refine Jb rfl rfl λK hK=>?_;go_simp;go_wp2_with(go_at_call 46;refine HC.o.mono ?_;rintro e w5 ⟨v5,rfl,ae,j⟩)
         obtain⟨S,U,G2,W,X,_,G6⟩:=f.o;exact⟨_,_,_,_,_,_,_,_,rfl,Z ⟨λh=>(S h).below j,λh=>(U h).below j,λh=>(G2 h).below j,λh=>(W h).below j,λh=>(X h).below j,λ_=>ae,G6⟩,Z (g.o.below j),Z (R.o.below j)⟩
       . obtain rfl:=f.o.2.2.2.2.2.2.1.1 ad;have hv:=(f.o.2.2.1 (m 2 O));obtain⟨a1,l1,c1,rfl⟩:=Jc.form (show Jc V _ _ from hv);obtain⟨a,l,c,n,r⟩:=g.o.poly2 (i:=2) rfl;have e0:=n.cell;have f0:=n.frozen;clear m;refine Zt ?_;obtain⟨S,U,G2,W,X,G5,_,G7⟩:=f.o;exact⟨_,_,_,_,_,_,_,_,rfl,Z ⟨λh=>(S h).set1 n rfl _,λh=>(U h).set1 n rfl _,λh=>(G2 h).set1 n rfl _,λh=>(W h).set1 n rfl _,λh=>(X h).set1 n rfl _,λh=>(G5 h).set1 n rfl _,⟨λh=>by simp at h,λ_=>rfl⟩,G7⟩,Z (g.o.putPoly (i:=2) rfl hv),Z (R.o.set1 n rfl _)⟩
       . obtain rfl:=EF f ad;have hv:=((Do f) (m 5 O));obtain⟨a1,l1,c1,rfl⟩:=Jc.form (show Jc V _ _ from hv);obtain⟨a,l,c,n,r⟩:=g.o.poly2 (i:=3) rfl;have e0:=n.cell;have f0:=n.frozen;clear m;refine Zt ?_;obtain⟨S,U,G2,W,X,G5,G6,_⟩:=f.o;exact⟨_,_,_,_,_,_,_,_,rfl,Z ⟨λh=>(S h).set1 n rfl _,λh=>(U h).set1 n rfl _,λh=>(G2 h).set1 n rfl _,λh=>(W h).set1 n rfl _,λh=>(X h).set1 n rfl _,λh=>(G5 h).set1 n rfl _,G6,⟨λh=>by simp at h,λ_=>rfl⟩⟩,Z (g.o.putPoly (i:=3) rfl hv),Z (R.o.set1 n rfl _)⟩
      rintro D af dj ah ⟨tu,tw,tx,ty,tA,tB,y2,y3,rfl,f,g,R⟩;obtain rfl:=f.o.2.2.2.2.2.2.1.2 (ah 6 DL);obtain rfl:=f.o.2.2.2.2.2.2.2.2 (ah 7 DL);clear f ah Qn;have Qo:Hid (Mem w dj [some (w.heap.size,.poly q),some (B6,.poly c),some (B9,.poly (Db o P)),some (B10,.poly (Db (JE z (Je o)) P)),some (am,.poly P)]):=g;clear g;have Qt:Hid (Mem w dj [some (w.heap.size,.poly q),some (B6,.poly c),some (B9,.poly (Db o P)),some (B10,.poly (Db (JE z (Je o)) P))]):=Z (Qo.o.take 4);have Qm:=Z (show(DP w0 y0 (k+1)).1=Db o P/\(DP w0 y0 (k+1)).2=Db (JE z (Je o)) P by rw[DP];unfold IZ;rw[Qa.o.1,Qa.o.2.1,Qs.o];exact⟨rfl,rfl⟩);have Wd:T+1<=9223372036854775807:=by have:=Qh.o;omega
      clear Qo;go_wp2_with fail
      go_roundw
      case rel=>exact⟨k+1,xa,xc,Y,by rw[Qj.o,Qk.o],by rw[Qh.o];go_num,by rw[Qj.o,Qk.o];exact R,by rw[Qm.o.1,Qm.o.2];exact Qt⟩
      case measure=>simp[intOf];have:=Qh.o;omega
  . obtain rfl:k=N:=Y
    have Wa:¬(0:Int)<d1:=by have A:=Wj.o;rw[Qa.o.1]at A;have:=Uw.o;omega
    go_wp2_with(go_at_call 20;refine H1.o.mono ?_;clear H1;rintro e w1 ⟨rfl,hq⟩;clear Qd;have Qd:=(boxed_below bi hq).cell)
    have HF:=Z (show Y5 true w.heap.size w1 (C xa ll xc) (yL w0 y0 k)/\Bl w w1 by rw[Qa.o.2.2.1];exact⟨XL.o.below hq,(M6.o.below hq).2.2⟩);go_ret;exact⟨_,rfl,HF.o⟩
end M3
end
section
open Go.RowKit Go.Shelf
attribute [local go_sem] Oper.semAt_some
variable{v:I}{W:H}
theorem _root_.Go.Boxed.bel{W':H}{B:Nat}{t:TypeId}(h:Boxed W B t v)(a:Bl W W'):Boxed W' B t v:=(a.block B h.lt).trans h
theorem FV(p:List Rat)(a:List Int)(e:p=a.map (λz:Int=>(z:Rat)))(h:a.all (λz=>decide (z.natAbs<100))=true):Cd 1 p:=by
 refine⟨1,DL,Sm.one 1 Y,EE.cdl λi=>?_⟩;rw[e];by_cases b:i<a.length
 . refine⟨a[i],?_,?_⟩
   . have c:=A1.1 h a[i] (List.getElem_mem b);have d:a[i].natAbs<100:=Be c;unfold Sm J;omega
   . unfold cf;rw[C0,An b];rfl
 . exact⟨0,Sm.zero 1,by rw[J6 si];rfl⟩
def aP:List Rat:=[1,-1,-1,1]
theorem bQ:Yl [120,94,51,45,120,94,50,45,120,43,49]=(aP,0,0):=Dk
theorem Q6:Jd aP=aP:=Dk
theorem KE:Jp aP=aP:=Dk
theorem Hu:Je aP=[-1,-2,3]:=Dk
theorem NJ:Jm aP [-1,-2,3]=[-1,1]:=Dk
theorem NK:Db aP [-1,1]=[-1,0,1]:=Dk
theorem NL:Db [-1,-2,3] [-1,1]=[1,3]:=Dk
theorem bR:DP [-1,0,1] [1,3] 1=([-1,1],[1]):=Dk
theorem bS:DP [-1,0,1] [1,3] 2=([1],[]):=Dk
theorem bT:yL [-1,0,1] [1,3] 2=[([1,1],1),([-1,1],2)]:=Dk
theorem Q7:Cd 1 aP:=FV aP [1,-1,-1,1] Dk DL
theorem bU:Cd 1 [-1,-2,3]:=FV _ [-1,-2,3] Dk DL
theorem Q8:M3.ChOk 1 aP [-1,-2,3]:=⟨Q6,Dk,Q7,bU,DL,DL⟩
theorem bV:StOk 1 20 [-1,0,1] [1,3]:=by
 have a:Je [-1,0,1]=[0,2]:=Dk
 have b:JE [1,3] [0,2]=[1,1]:=Dk
 have c1:Cd 1 [-1,0,1]:=FV _ [-1,0,1] Dk DL;have c2:Cd 1 [1,1]:=FV _ [1,1] Dk DL;have c3:Cd 1 [0,2]:=FV _ [0,2] Dk DL;have c4:Cd 1 [1,3]:=FV _ [1,3] Dk DL;refine⟨?_,Dk,c1.mono Y,?_,c4.mono Y,?_,?_,DL,?_⟩
 . rw[a,b];exact⟨Dk,Dk,c1,c2,DL,DL⟩
 . rw[a];exact c3.mono Y
 . rw[a,b];exact c2.mono Y
 . rw[a,b];decide
 . rw[a,b];decide
theorem bW:StOk 1 20 [-1,1] [1]:=by
 have a:Je [-1,1]=[1]:=Dk
 have b:JE [1] [1]=[]:=Dk
 have c1:Cd 1 [-1,1]:=FV _ [-1,1] Dk DL;have c2:Cd 1 []:=FV _ [] Dk DL;have c3:Cd 1 [1]:=FV _ [1] Dk DL;refine⟨?_,Dk,c1.mono Y,?_,c3.mono Y,?_,?_,DL,?_⟩
 . rw[a,b];exact⟨Dk,Dk,c1,c2,DL,DL⟩
 . rw[a];exact c3.mono Y
 . rw[a,b];exact c2.mono Y
 . rw[a,b];decide
 . rw[a,b];decide
theorem bX:PtOk 1 20 2 aP:=by
 refine⟨Q6,Q7.mono Y,?_,?_,DL,DL,Y,?_,?_⟩
 . rw[KE,Hu];exact Q8
 . rw[KE,Hu];decide
 . rw[KE,Hu,NJ,NK,NL];intro n a;rcases n with _|_|n
   . exact⟨DL,bV⟩
   . rw[show(0+1:Nat)=1 from rfl,bR];exact⟨DL,bW⟩
   . omega
 . rw[KE,Hu,NJ,NK,NL,bS];decide
theorem bY:Gs aP 2=[([1,1],1),([-1,1],2)]:=by
 unfold Gs;rw[KE,Hu,NJ,NK,NL,bT]
theorem bZ:M3.FrOk 1 aP:=by
 refine⟨?_,?_⟩
 . rw[Hu];exact Q8
 . rw[Hu];decide
theorem bl:Ht aP=[-1,0,1]:=Dk
theorem bv:GQ [-1,1]=[120,45,49]:=Dk
theorem bw:GQ [-1,0,1]=[120,94,50,45,49]:=Dk
theorem Q9:Sqs [-1,1]:=(FV [-1,1] [-1,1] Dk DL).sqs Y
theorem RA:Sqs [-1,0,1]:=(FV [-1,0,1] [-1,0,1] Dk DL).sqs Y
theorem Y5.two{r:Bool}{base:Nat}{p q:List Rat}{s t:Nat}(h:Y5 r base W v [(p,s),(q,t)]):∃g cap a l c a' l' c',v=C (some ⟨g,0,none⟩) 2 cap/\g<W.heap.size/\W.cell? ⟨g,0,none⟩=some (C a l c)/\W.cell? ⟨g,1,none⟩=some (.int .i64 (s:Int))/\W.cell? ⟨g,2,none⟩=some (C a' l' c')/\W.cell? ⟨g,3,none⟩=some (.int .i64 (t:Int))/\RowK r W (C a l c) p/\RowK r W (C a' l' c') q:=by
 rcases h with⟨_,h⟩|⟨g,cap,n,rfl,o,b,u,w,z,j⟩
 . simp at h
 . obtain⟨x,d,e,k⟩:=j.2 0 p s rfl;obtain⟨y,f,i,m⟩:=j.2 1 q t rfl;obtain⟨a,l,c,rfl⟩:=k.form;obtain⟨a',l',c',rfl⟩:=m.form;rw[AX O,Cu]at d e f i;exact⟨g,cap,a,l,c,a',l',c',rfl,(Ae.1 b).1,cell_of b d,cell_of b e,cell_of b f,cell_of b i,k,m⟩
theorem cA(w:H)(af:F4 w):Calls Tryz.prog 15 #[] w λr o=>r=.returned (.bool true)/\Bl w o:=by
 have S:=Z af;have R:=Z (λ(V:H)=>show Calls Tryz.prog 23 #[.string ⟨#[120,94,51,45,120,94,50,45,120,43,49]⟩] V λr o=>∃u,r=.returned (.tuple #[u,.int .i64 0,.int .i64 0])/\Jc o u aP/\Bl V o from
  (Mq ⟨#[120,94,51,45,120,94,50,45,120,43,49]⟩ V).mono (λr o h=>by
   obtain⟨u,e,p,h1,X,h3⟩:=h;rw[Hr,show Jh ⟨#[120,94,51,45,120,94,50,45,120,43,49]⟩=[120,94,51,45,120,94,50,45,120,43,49]from rfl,bQ]at X;obtain⟨rfl,rfl,h4⟩:=X;exact⟨u,h1,h4,h3⟩))
 have M:=Z (BE w.heap.size w);clear af;go_enter Tryz.func15,Tryz.ntmps15
 go_upto_region 2 with(go_at_call 23;refine(R.o _).mono ?_;clear R;rintro e l ⟨u,rfl,D,d⟩;obtain⟨y,l1,c1,rfl⟩:=D.form)
 replace M:=Z (Bt M.o d);have f:Bl l (l.alloc (Q #[C y l1 c1] 25)):=Ba l _;have j:=BL l 25 (C y l1 c1);have k:=D.below f;replace M:=Z (Bt M.o f);clear f;obtain⟨VP,c⟩:=ex (l.alloc (Q #[C y l1 c1] 25));obtain⟨BP,b⟩:=ex (l.heap.size);rw[c]at k M;rw[c,b]at j;rw[c];rw[b];clear c b;clear D d;have a:=Z (M3.Q5 1 20 2 _ aP VP k bX);rw[bY]at a;have A:=j.cell;go_upto_region 3 with(go_at_call 18;refine a.o.mono ?_;clear a;rintro e w2 ⟨u2,rfl,ah,s⟩;obtain⟨g,cap,b1,m1,d1,T,m2,U,rfl,B,x0,x1,P,x3,ai,ae⟩:=ah.two)
 replace j:=j.bel s;replace k:=k.below s;replace M:=Z (Bt M.o s);have x:=Z (show ∀V,Bl w2 V->V.cell? ⟨g,1,none⟩=some (.int .i64 ((1:Nat):Int))/\V.cell? ⟨g,2,none⟩=some (C T m2 U)/\Jc V (G #[C T m2 U]) [-1,1]from λV b=>⟨(b.cell (p:=⟨g,1,none⟩) B).trans x1,(b.cell (p:=⟨g,2,none⟩) B).trans P,_,rfl,ae.below b⟩);clear A x0 x1 P x3 ai ae ah s B;have a:=Z (M3.bJ 1 _ aP w2 k bZ);rw[bl]at a;have A:=j.cell;go_upto_region 4 with(go_at_call 16;refine a.o.mono ?_;clear a;rintro e n ⟨u3,rfl,K,ad⟩;obtain⟨z,L,c3,rfl⟩:=K.form)
 have f:Bl n (n.alloc (Q #[C z L c3] 25)):=Ba n _;have N:=BL n 25 (C z L c3);have rF:=K.below f;have q:=Bt ad f
 replace M:=Z (Bt M.o q);obtain⟨i,c⟩:=ex (n.alloc (Q #[C z L c3] 25));obtain⟨BF,b⟩:=ex (n.heap.size);rw[c]at rF M q;rw[c,b]at N;rw[c];rw[b];have v:=Z q;clear c b f ad K A j k q;have a:=Z λ(V:H) (h:Bl i V)=>Mc _ [-1,1] V (x.o V (Bt v.o h)).2.2 Q9 (λm=>Mr Q9 O m) (JT S.o (Bt M.o h));rw[bv]at a;have t:=Z λ(V:H) (h:Bl i V)=>Mc _ [-1,0,1] V (rF.below h) RA (λm=>Mr RA O m) (JT S.o (Bt M.o h));rw[bw]at t;have hq:Bl i i:=BE _ _;have W:=(N.bel hq).cell;have e1:=(x.o i v.o).1;have e2:=(x.o i v.o).2.1;go_wp2_with(first
  |(go_at_call 11;refine(a.o _ hq).mono ?_;clear a;rintro e x1 ⟨rfl,d⟩;replace hq:=Bt hq d;clear d W;have W:=(N.bel hq).cell)
  |(go_at_call 11;refine(t.o _ hq).mono ?_;clear t;rintro e P ⟨rfl,d⟩;replace hq:=Bt hq d;clear d))
 go_ret;exact⟨rfl,Bt M.o hq⟩
end
section
variable{S:List Rat}{l:List UInt8}{i k n x:Nat}{c:Rat}
theorem RB(h:l.all DU=true):num l<10^l.length:=by
 have:=Yv (KP h);rwa[Ig]at this
def Fr(x:Nat)(c:Rat):Prop:=∃(a b:Nat) (y z:Nat),c=Rat.divInt a b/\a<=10^y/\b<=10^z/\b≠0/\y+z<=x
theorem Fr.mono{y:Nat}(h:Fr x c)(j:x<=y):Fr y c:=by
 obtain⟨a,b,u,v,d,e,f,g,i⟩:=h;exact⟨a,b,u,v,d,e,f,g,Y⟩
theorem Fr.one:Fr 0 1:=⟨1,1,0,0,DL,DL,DL,DL,DL⟩
theorem cB(r:i<=l.length)(h:YG l i=.ok c k):Fr (k-i) c:=by
 unfold YG at h;split at h
 . cases h
 . rename_i ds p a g;have b:=X9 r g;have t:=GD l a;have q:=RB b.2.2.2.2.2.2.2.2;rw[b.2.2.2.2.2.2.2.1]at q;split at h
   . rename_i d;have d:=Yo d;split at h
     . cases h
     . rename_i f s m n;have e:=X9 Y n;have o:=RB e.2.2.2.2.2.2.2.2;rw[e.2.2.2.2.2.2.2.1]at o;split at h
       . cases h
       . rename_i j;cases h;exact⟨num ds,num f,a-p,k-s,rfl,Y,Y,j,Y⟩
   . cases h;exact⟨num ds,1,a-p,0,(Pq _).symm,Y,DL,DL,Y⟩
theorem cC(g:i<=l.length)(h:YU l i=.ok (c,n) k):Fr (k-i) c:=by
 unfold YU at h;have p:=GD l i;have d:=XF g;split at h
 . split at h
   . cases h
   . rename_i c' j b;have o:=Lq d b;have a:=cB d b;have q:=GD l j;split at h
     . rename_i e;have e:=Yo e;split at h
       . cases h
       . rename_i s m f;have r:=Lr Y f;cases h;exact a.mono Y
     . cases h;exact a.mono Y
 . split at h
   . split at h
     . cases h
     . cases h;exact Fr.one.mono Y
   . cases h
def Ey(i:Nat)(S:List Rat):Prop:=S.length=9/\∃D:Int,D≠0/\D.natAbs<=10^i/\∀j,∃z:Int,z.natAbs<=10^i/\cf S j=Rat.divInt z D
theorem Ey.mono(h:Ey i S)(e:i<=k):Ey k S:=by
 obtain⟨a,D,b,f,c⟩:=h;have hp:(10:Nat)^i<=10^k:=Ay Y e;exact⟨a,D,b,Y,λj=>by obtain⟨z,g,d⟩:=c j;exact⟨z,Y,d⟩⟩
theorem Ey.start(i:Nat):Ey i (List.replicate 9 0):=⟨rfl,1,DL,by have:1<=10^i:=Cx Y;simpa using this,λj=>⟨0,O,by rw[JS,Rat.zero_divInt]⟩⟩
theorem Ey.next(h:Ey i S)(s:Fr x c)(L:n<=8)(b:Bool):Ey (i+x+1) (S.set n (if b then cf S n-c else cf S n+c)):=by
 obtain⟨m,D,g,o,p⟩:=h;obtain⟨a,d,y,z,rfl,r,t,K,M⟩:=s;have f:(d:Int)≠0:=Y
 have u:(10:Nat)^i*10^z<=10^(i+x):=by rw[<-CF];exact Ay Y Y
 have v:(10:Nat)^y*10^i<=10^(i+x):=by rw[<-CF];exact Ay Y Y
 have e:∀w:Int,w.natAbs<=10^i->(w*(d:Int)).natAbs<=10^(i+x):=λw e=>by
  rw[Cr,AD];exact Aw (CB e t) u
 have B:((a:Int)*D).natAbs<=10^(i+x):=by
  rw[Cr,AD];exact Aw (CB r o) v
 refine⟨by rw[CA];exact m,D*d,Cv g f,by have:=e D o;omega,λj=>?_⟩;rw[XC _ _ _ _ (by rw[m];omega)];by_cases q:j=n
 . rw[BJ q];obtain⟨w,k,l⟩:=p n;have A:=e w k;rw[l];cases b with
   |true=>
    refine⟨w*d-a*D,by have:=Int.natAbs_sub_le (w*(d:Int)) ((a:Int)*D);omega,?_⟩;rw[BJ rfl,Rat.sub_eq_add_neg,Rat.neg_divInt,FA _ _ g f];congr 1;rw[Int.neg_mul];rfl
   |false=>
    refine⟨w*d+a*D,by have:=FD (w*(d:Int)) ((a:Int)*D);omega,?_⟩;rw[BH DL,FA _ _ g f]
 . rw[BH q];obtain⟨w,k,l⟩:=p j;exact⟨w*d,by have:=e w k;omega,by rw[l,Fo f]⟩
theorem RC:∀(f:Nat) (b:Bool) (I:Nat) (S d:List Rat) (k:Nat),I<=l.length->Ey I S->ET l f b I S=.ok d k->Ey (l.length+1) d:=by
 intro f;induction f with
 |zero=>intro b I S d k _ _ h;cases h
 |succ f o=>
  intro b I S d k m r h;cases g:YU l I with
  |error e p=>rw[Me g]at h;cases h
  |ok a s=>
   obtain⟨c,n⟩:=a;have q:=Ls m g;have i:=r.next (cC m g) q.2.2 b;have t:=GD l s;rw[Mf g]at h;split at h
   . rename_i j;have:=Yo j;exact o _ _ _ _ _ Y (i.mono Y) h
   . split at h
     . rename_i j;have:=Yo j;exact o _ _ _ _ _ Y (i.mono Y) h
     . split at h
       . cases h;exact i.mono Y
       . cases h
theorem cD(h:EQ l=.ok S k):Ey (l.length+1) S:=by
 unfold EQ at h;have a:=XF (l:=l) (i:=0) Y;split at h
 . rename_i b;have:=Yo b;exact RC _ _ _ _ _ _ Y (Ey.start _) h
 . exact RC _ _ _ _ _ _ a (Ey.start _) h
theorem cF(a b c:Nat)(h:a*b<64*c):((2:Nat)^a)^b<J^c:=by
 rw[show J=2^64 from by decide,<-FK,<-FK];exact Nat.pow_lt_pow_right Y h
theorem cH(h:n<=43*k)(c:k<=7):(10:Nat)^n<J^16:=by
 have b:((10:Nat)^43)^k<=(2^143)^k:=CN DL k;have a:(10:Nat)^n<=10^(43*k):=Ay Y h;rw[FK]at a;exact Cb (Aw a b) (cF 143 k 16 Y)
theorem cI(l:List UInt8):∃D:Int,D≠0/\Sm 16 D/\D6 D 16 (Yl l).1:=by
 have a:∃D:Int,D≠0/\Sm 16 D/\D6 D 16 []:=⟨1,DL,Sm.one _ Y,λi=>by rw[Yx];exact CD.zero _ _⟩;by_cases h:300<l.length
 . rw[show Yl l=([],1,0)by unfold Yl;rw[BJ h]];exact a
 . rw[Ky h];cases b:EQ l with
   |error e p=>exact a
   |ok S k=>
    rw[show(IK (EStateM.Result.ok S k)).1=Jd S from rfl];obtain⟨_,D,c,g,d⟩:=cD b;have b:=cH (n:=l.length+1) (k:=7) Y Y;exact⟨D,c,by unfold Sm;omega,λi=>by
     obtain⟨z,j,f⟩:=d i;exact⟨z,by rw[Yc];exact f,by unfold Sm;omega⟩⟩
open Go.RowKit Go.Shelf
attribute [local go_sem] Oper.semAt_some
theorem NM(l:List UInt8):Jd (Yl l).1=(Yl l).1:=by
 by_cases h:300<l.length
 . rw[show Yl l=([],1,0)by unfold Yl;rw[BJ h]];rfl
 . rw[Ky h];cases EQ l with
   |error e p=>rfl
   |ok S k=>exact J9 _
theorem NN(s:ByteArray)(w:H):
 Calls Tryz.prog 7 #[.string s] w λe x=>∃u,e=.returned u/\Jc x u (Yl (Jh s)).1/\Bl w x:=by
 have q:=Z λ(V:H)=>Mq s V;have b0:=BL w 25 (C none 0 0);have i:Bl w (w.alloc (Q #[C none 0 0] 25)):=Ba w _;obtain⟨L,m⟩:=ex (w.alloc (Q #[C none 0 0] 25));obtain⟨y,k⟩:=ex (w.heap.size);rw[m]at b0 i;rw[k]at b0;obtain⟨z,r,D,t⟩:=EA b0 i m k;clear b0 i m k;go_enter Tryz.func7,Tryz.ntmps7
 go_upto_region 1 with fail
 rw[D.o,t.o];go_upto_region 2 with(go_at_call 23;refine(q.o _).mono ?_;clear q;rintro e b ⟨u,N,P,rfl,⟨rfl,rfl,n⟩,g⟩;obtain⟨a,l1,c1,rfl⟩:=n.form)
 have d:Bl b (b.alloc (Q #[C a l1 c1] 25)):=Ba b _;have o:=BL b 25 (C a l1 c1);have c:=(z.o.bel g).bel d;have r1:=n.row.below d;have j:=(Bt r.o g).trans (d.mono (Bt r.o g).size);obtain⟨M,f⟩:=ex (b.alloc (Q #[C a l1 c1] 25));obtain⟨K,l⟩:=ex (b.heap.size);rw[f,l]at o;rw[f]at c r1 j;rw[f,l];have x1:=o.cell;have x0:=c.cell;have f0:=c.frozen;have A:=Z (EY c (C a l1 c1) r1);have B:=Z (j.setCell (p:=⟨y,0,none⟩) (by rw[t.o];exact Aa _) (C a l1 c1));clear d o c r1 j f l n g;go_wp2_with fail
 exact BB (v:=G #[C a l1 c1]) (by simp[results,Tryz.results7,go_sem,x0]) rfl ⟨_,rfl,⟨_,rfl,A.o⟩,B.o⟩
end
section
open Go.RowKit Go.Shelf
theorem NO(l:List UInt8):Cd 16 (Yl l).1:=cI l
theorem Cd.mul{M N:Nat}{p q:List Rat}(h:Cd M p)(g:Cd N q):Cd (M+N+p.length) (Jo p q):=by
 obtain⟨D,d1,b,c⟩:=h;obtain⟨E,d,e,f⟩:=g;have a:D*E≠0:=Cv d1 d;exact⟨D*E,a,(b.mul e).mono Y,λi=>ZY a (λi j=>(c i).mul (f j)) i⟩
theorem Cd.times{M N:Nat}{p q:List Rat}(h:Cd M p)(f:Cd N q)(hl:M+N+p.length+1<=1000000000):M3.GR p q:=by
 obtain⟨D,d1,a,b⟩:=h;obtain⟨E,c,d,e⟩:=f;exact ZX (Cv d1 c) ((a.mul d).mono Y) (λi j=>(b i).mul (e j)) hl
namespace M3
theorem KF(a b:I)(ps qs:List Rat)(w:H)(i:Jc w a ps)(j:Jc w b qs)(m:Sqs ps)(n:Sqs qs)(l:GR ps qs)(k:ps.length+qs.length<=1099511627776):
 Calls Tryz.prog 9 #[a,b] w λe c=>∃u,e=.returned u/\Jc c u (Jo ps qs)/\Bl w c:=by
 refine(Vt a b ps qs w i j m n l k).mono ?_;rintro e c ⟨u,d,f,_,g⟩;exact⟨u,d,f,g⟩
theorem ChOk.of{K:Nat}{p q:List Rat}(tp:Jd p=p)(tq:Jd q=q)(cp:Cd K p)(cq:Cd K q){n:Nat}(lp:p.length<=n)(lq:q.length<=n)(hle:4*((n+2)*((K+1)*(n+n+1)+1))<=1000000000)(c:n<=1000):ChOk K p q:=by
 refine⟨tp,tq,cp,cq,?_,Y⟩;have a:Di K p q<=(K+1)*(n+n+1):=As _ Y;have b:(max p.length q.length+2)*(Di K p q+1)<=(n+2)*((K+1)*(n+n+1)+1):=CB Y Y;omega
attribute [local go_sem] Oper.semAt_some
end M3
end
open Go.RowKit Go.Shelf
theorem Cd.dvnG{K A:Nat}{p q:List Rat}(h:Cd K p)(i:Cd A q)(tq:Jd q=q)(q0:q≠[]):∃D E l:Int,Dvn D E l K A p q:=by
 obtain⟨D,d1,c,d⟩:=h;obtain⟨E,f,g,a⟩:=i;obtain⟨n,b,j⟩:=a (q.length-1);refine⟨D,E,n,d1,c,d,f,g,a,λe=>?_,j,b⟩;exact Jw tq q0 (by rw[b,e];simp)
namespace M3
theorem KG(K A:Nat)(a b:I)(p q:List Rat)(w:H)(d:Jc w a p)(f:Jc w b q)(hp:Cd K p)(hq:Cd A q)(tp:Jd p=p)(tq:Jd q=q)(q0:q≠[])(k:2*(K+p.length*(A+1)+1)+2*(2*A+1)<=1000000000):
 Calls Tryz.prog 22 #[a,b] w λe c=>∃u v,e=.returned (.tuple #[u,v,.bool true])/\Jc c u (Jt p q)/\Jc c v (JZ p q)/\Bl w c:=by
 obtain⟨D,E,l,g⟩:=hp.dvnG hq tq q0;obtain⟨m,i⟩:=ex (p.length-(q.length-1));have j:m*(A+1)<=p.length*(A+1):=Am _ Y;refine QS A a b p q w d f (hp.sqs Y) hq.smq tp tq q0 ?_;rw[i];exact g.sizes Y
attribute [local go_sem] Oper.semAt_some
theorem NP(K A:Nat)(W X:I)(d p:List Rat)(w:H)(x:Jc w W d)(y:Jc w X p)(hp:Cd K p)(R:Cd A d)(tp:Jd p=p)(V:Jd d=d)(d0:d≠[])(S:JZ p d=[])(P:2*(K+p.length*(A+1)+1)+2*(2*A+1)<=1000000000):
 Calls Tryz.prog 21 #[W,X] w λe w'=>e=.returned (.bool true)/\Bl w w':=by
 obtain⟨f,la,g,rfl⟩:=x.form;obtain⟨j,lb,k,rfl⟩:=y.form;have n:=((Mem.nil w).push (.cell 25 (C f la g)) (cs:=#[C f la g]) ⟨rfl,rfl⟩).push (.cell 25 (C j lb k)) (cs:=#[C j lb k]) ⟨rfl,rfl⟩;simp only[BA]at n;obtain⟨W0,v⟩:=ex ((w.alloc (Q #[C f la g] 25)).alloc (Q #[C j lb k] 25));have M:=Z v;have a:Hid (Mem w W0 [some (w.heap.size,.cell 25 (C f la g)),some (w.heap.size+1,.cell 25 (C j lb k))]):=Z (by rw[<-v];exact n);have l:=Z (KG K A _ _ p d W0 (y.below a.o.2.2) (x.below a.o.2.2) hp R tp V d0 P);rw[S]at l;have c0:=(a.o.cell (i:=0) rfl).1.cell;have c1:=(a.o.cell (i:=1) rfl).1.cell;have o:=Z a.o.2.2;clear n v x y hp R tp V d0 S P a;go_enter Tryz.func21,Tryz.ntmps21
 go_upto_region 1 with fail
 rw[M.o];clear M;go_upto_region 2 with(go_at_call 22;refine l.o.mono ?_;clear l;rintro e b ⟨u4,v4,rfl,T,B,z⟩;obtain⟨s,D,c4,rfl⟩:=T.form;obtain⟨t,L,u,rfl⟩:=B.form)
 have q:Bl b ((b.alloc (Q #[C s D c4] 25)).alloc (Q #[C t L u] 25)):=(Ba b _).alloc (by rw[BA];omega) _;have nb:=BL (b.alloc (Q #[C s D c4] 25)) 25 (C t L u);have r:=B.below q;obtain⟨N,c⟩:=ex ((b.alloc (Q #[C s D c4] 25)).alloc (Q #[C t L u] 25));have Qe:=Z (show Bl w N by rw[<-c];exact(Bt o.o z).trans (q.mono (Aw o.o.size z.size)));rw[c]at nb r;rw[BA]at nb;have e5:=nb.cell;have m:=Z (Ya _ [] N r);have U:(([]:List Rat).length:Int)-1=-1:=O
 rw[U]at m;clear U nb r T B z q c0 c1 o;rw[c];clear c;go_wp2_with(go_at_call 20;refine m.o.mono ?_;clear m;rintro e w6 ⟨rfl,ad⟩)
 go_ret;exact⟨rfl,Bt Qe.o ad⟩
end M3

