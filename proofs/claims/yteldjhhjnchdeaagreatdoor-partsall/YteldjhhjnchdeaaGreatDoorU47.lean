import Derived.Test.YteldjhhjnchdeaaGreatDoorU46
open Go.Value renaming slice->C,pointer->F,agg->G
open Go renaming undef->E,Value->H
set_option maxRecDepth 100000
set_option maxHeartbeats 16000000
namespace Go.Proofs.YteldjhhjnchdeaaGreatDoor
section
open Go.RowKit Go.Shelf
def K9(s:List Rat × List Rat):List Rat × List Rat:=(Dm s.1 (JC s.1 (JP s.2 (Je s.1))),Dm (JP s.2 (Je s.1)) (JC s.1 (JP s.2 (Je s.1))))
def DV(w y:List Rat):Nat->List Rat × List Rat
 |0=>(w,y)
 |n+1=>K9 (DV w y n)
def yP(s:List Rat × List Rat):List Rat:=JC s.1 (JP s.2 (Je s.1))
def yL(w y:List Rat):Nat->List (List Rat × Nat)
 |0=>[]
 |n+1=>yL w y n++(if 1<(yP (DV w y n)).length then [(yP (DV w y n),n+1)]else [])
theorem PW(w y:List Rat):∀n,(yL w y n).length<=n:=by
 intro n;induction n with
 |zero=>exact Aa _
 |succ n a=>
  rw[yL,Aj];split
  . simp;omega
  . simp;omega
structure StOk(K M:Nat)(w y:List Rat):Prop where
 ch:M3.ChOk K w (JP y (Je w))
 ty:Jc y=y
 cw:Cd M w
 cs:Cd M (Je w)
 cy:Cd M y
 cz:Cd M (JP y (Je w))
 kM:De K w (JP y (Je w))<=M
 l1:2*((w.length+3)*(M+1))<=1000000
 l2:2*(((JP y (Je w)).length+3)*(M+1))<=1000000
structure PtOk(K M N:Nat)(p:List Rat):Prop where
 tp:Jc p=p
 cp:Cd M p
 ch:M3.ChOk K (Jt p) (Je (Jt p))
 kM:De K (Jt p) (Je (Jt p))<=M
 l1:2*((p.length+3)*(M+1))<=1000000
 gt:1<p.length
 nN:N<=1000000
 st:∀n,n<N->1<(DV (Dm (Jt p) (JC (Jt p) (Je (Jt p)))) (Dm (Je (Jt p)) (JC (Jt p) (Je (Jt p)))) n).1.length/\StOk K M (DV (Dm (Jt p) (JC (Jt p) (Je (Jt p)))) (Dm (Je (Jt p)) (JC (Jt p) (Je (Jt p)))) n).1 (DV (Dm (Jt p) (JC (Jt p) (Je (Jt p)))) (Dm (Je (Jt p)) (JC (Jt p) (Je (Jt p)))) n).2
 en:(DV (Dm (Jt p) (JC (Jt p) (Je (Jt p)))) (Dm (Je (Jt p)) (JC (Jt p) (Je (Jt p)))) N).1.length<=1
def Ig(p:List Rat)(N:Nat):List (List Rat × Nat):=yL (Dm (Jt p) (JC (Jt p) (Je (Jt p)))) (Dm (Je (Jt p)) (JC (Jt p) (Je (Jt p)))) N
namespace M3
def F6(base:Nat)(V:World)(v:H)(L:List (List Rat × Nat)):Prop:=XQ true base V v L
section
variable {base:Nat} {V V':World} {v:Value} {L:List (List Rat × Nat)}
theorem F6.below(h:F6 base V v L)(a:Bl V V'):F6 base V' v L:=XQ.below h a
theorem F6.drew(h:F6 base V v L):F6 base V.drew v L:=XQ.below h ((BB _ V).drew)
theorem F6.alloc(h:F6 base V v L)(o:Obj):F6 base (V.alloc o) v L:=XQ.below h (Ba V o)
theorem F6.set1(h:F6 base V v L){B:Nat}{a:Option Addr}{l c:Nat}(q:Boxed V B 25 (C a l c))(_:JF (C a l c)=true)(b:H):F6 base (V.setCell ⟨B,0,none⟩ b) v L:=XQ.set h q (λ_ _ g=>F8 q b g)
end
theorem iR(a b:H)(ps qs:List Rat)(w:World)(i:Jh w a ps)(j:Jh w b qs)(k:DZ ps)(l:DZ qs)(m:DZ (JP ps qs)):
 Calls Tryz.prog 48 #[a,b] w λe c=>∃u,e=.returned u/\Jh c u (JP ps qs)/\Bl w c:=by
 refine(R7 a b ps qs w i j k l m).mono ?_;rintro e c ⟨u,d,f,_,g⟩;exact⟨u,d,f,g⟩
theorem Tv{M:Nat}{w:List Rat}(h:Cd M (Je w))(b:M<=1000000)(i:Nat):Sq (F5 w i):=by
 have a:=(h.sqs b).at i;unfold Je at a;rwa[JX,Jx]at a
attribute [local go_sem] Oper.semAt_some
theorem Tw(K M N:Nat)(v:H)(p:List Rat)(w:World)(h:Jh w v p)(ai:PtOk K M N p):
 Calls Tryz.prog 18 #[v] w λe w'=>∃u,e=.returned u/\XQ true w.heap.size w' u (Ig p N)/\Bl w w':=by
 have Ql:Tryz.prog.follows .mixedOrders=true:=by kernel_rfl
 obtain⟨q,hq⟩:=ex (Jt p);obtain⟨c,hc⟩:=ex (JC q (Je q));obtain⟨w0,bg⟩:=ex (Dm q c);obtain⟨y0,bh⟩:=ex (Dm (Je q) c);have hM:M<=1000000:=by
  have A:=ai.l1;have:1*(M+1)<=(p.length+3)*(M+1):=Ak _ O;omega
 have Qq:=ai.ch;have Ui:=ai.kM;rw[hq]at Qq Ui;have Uz:q.length=p.length:=by rw[<-hq];exact Yg ai.tp
 have Qu:Cd M q:=by rw[<-hq];exact ai.cp.mon ai.tp
 have Uj:Jc q=q:=by rw[<-hq];exact YF _
 have Uf:Cd M (Je q):=(show Cd K (Je q)from Qq.cq).mono (by have:=IB K q (Je q);omega);have Qw:Cd M c:=by rw[<-hc];exact Qq.gcd.mono Ui
 have Uk:Jc c=c:=by rw[<-hc];exact J1 _ _
 have Uc:Jt c=c:=by rw[<-hc];exact Xa Uj (JE _)
 have Ux:2*(((Je q).length+3)*(M+1))<=1000000:=by
  have A:(Je q).length<=q.length:=As (JG _) (by simp[I9]);have h2:((Je q).length+3)*(M+1)<=(p.length+3)*(M+1):=Ak _ O;have h3:=ai.l1;omega
 obtain⟨Ug,Up,Uh,Ut,Us,Uq⟩:=Kd (λ(V:World) (x:H) (r:List Rat) (hx:Jh V x r)=>YE x r V hx) (λ(V:World) (x:H) (hx:Jh V x p)=>show Calls Tryz.prog 26 #[x] V λe w'=>∃u,e=.returned u/\Jh w' u q/\Bl V w' by rw[<-hq];exact Tt M x p V hx ai.tp ai.cp hM) (λ(V:World) (x:H) (hx:Jh V x q)=>PE x q V hx (Qu.sqs hM) (Tv Uf hM)) (λ(V:World) (x y:H) (hx:Jh V x q) (hy:Jh V y (Je q))=>show Calls Tryz.prog 8 #[x,y] V λe w'=>∃u,e=.returned u/\Jh w' u c/\Bl V w' by rw[<-hc];exact PQ K x y q (Je q) V hx hy Qq) (λ(V:World) (x y:H) (hx:Jh V x q) (hy:Jh V y c)=>show Calls Tryz.prog 46 #[x,y] V λe w'=>∃u,e=.returned u/\Jh w' u w0/\Bl V w' by rw[<-bg];exact Lx M x y q c V hx hy Qu Qw Uj Uk Uc (by rw[Uz];exact ai.l1)) (λ(V:World) (x y:H) (hx:Jh V x (Je q)) (hy:Jh V y c)=>show Calls Tryz.prog 46 #[x,y] V λe w'=>∃u,e=.returned u/\Jh w' u y0/\Bl V w' by rw[<-bh];exact Lx M x y (Je q) c V hx hy Uf Qw (JE _) Uk Uc Ux);have Qv:=ai.st;have Qz:=ai.en;rw[hq,hc,bg,bh]at Qv Qz;obtain⟨Uy,Wj,Wl⟩:=Di Qv Qz (show Ig p N=yL w0 y0 N by unfold Ig;rw[hq,hc,bg,bh]);rw[Wl.o];obtain⟨Wh,Wi,Wk⟩:=Di (λ(a b:List Rat) (W:StOk K M a b) (V:World) (x:H) (hx:Jh V x a)=>PE x a V hx (W.cw.sqs hM) (Tv W.cs hM)) (λ(a b:List Rat) (W:StOk K M a b) (V:World) (x y:H) (hx:Jh V x b) (hy:Jh V y (Je a))=>iR x y b (Je a) V hx hy (W.cy.sqs hM) (W.cs.sqs hM) (W.cz.sqs hM)) λ(a b:List Rat) (W:StOk K M a b) (V:World) (x y:H) (hx:Jh V x a) (hy:Jh V y (JP b (Je a)))=>PQ K x y a (JP b (Je a)) V hx hy W.ch;have Qf:∀(a b:List Rat),StOk K M a b->Cd M (JC a (JP b (Je a)))/\Jc (JC a (JP b (Je a)))=JC a (JP b (Je a))/\Jt (JC a (JP b (Je a)))=JC a (JP b (Je a)):=λa b W=>⟨W.ch.gcd.mono W.kM,J1 _ _,Xa W.ch.tp W.ch.tq⟩;have Wc:=J λ(a b:List Rat) (W:StOk K M a b) (V:World) (x y:H) (hx:Jh V x a) (hy:Jh V y (JC a (JP b (Je a))))=>Lx M x y a (JC a (JP b (Je a))) V hx hy W.cw (Qf a b W).1 W.ch.tp (Qf a b W).2.1 (Qf a b W).2.2 W.l1;have Wm:=J λ(a b:List Rat) (W:StOk K M a b) (V:World) (x y:H) (hx:Jh V x (JP b (Je a))) (hy:Jh V y (JC a (JP b (Je a))))=>Lx M x y (JP b (Je a)) (JC a (JP b (Je a))) V hx hy W.cz (Qf a b W).1 W.ch.tq (Qf a b W).2.1 (Qf a b W).2.2 W.l2;have Ud:¬(p.length:Int)-1<1:=by have:=ai.gt;omega
 obtain⟨d0,ci⟩:=ex ((p.length:Int)-1:Int);rw[ci]at Ud;have Wg:=J ci;have fh:N<=1000000:=ai.nN;obtain⟨pa,la,pc,rfl⟩:=h.form;have M0:=(Mem.nil w).push (.poly p) (cs:=#[C pa la pc]) h;obtain⟨W0,bu⟩:=ex (w.alloc (.cells #[C pa la pc] 25));have Uo:=J bu;have M1:Hid (Mem w W0 [some (w.heap.size,.poly p)]):=J (by rw[<-bu];exact M0);clear M0 bu h ai Qq Ui Uz Qu Uj Uf Qw Uk Uc Ux Qv Qz Qf hM hq hc bg bh ci;go_enter Tryz.func18,Tryz.ntmps18
 go_upto_region 1 with fail
 rw[Uo.o];clear Uo;obtain⟨a1,l1,c1,n1,r1⟩:=M1.o.poly2 (i:=0) rfl;have Ua:=n1.cell;have H1:=J (Ug.o W0 _ p r1);rw[Wg.o]at H1;go_upto_region 3 with(go_at_call 20;refine H1.o.mono ?_;clear H1;rintro e w1 ⟨rfl,hq⟩;clear Ua;have Ua:=(boxed_below n1 hq).cell)
 have M2:Hid (Mem w w1 [some (w.heap.size,.poly p)]):=J (M1.o.below hq);clear M1;clear hq n1 r1 Ua;obtain⟨a2,l2,c2,n2,r2⟩:=M2.o.poly2 (i:=0) rfl;have Ub:=n2.cell;have Qy:=n2.frozen;have H1:=J (Up.o w1 _ r2);clear Up;go_upto_region 4 with(go_at_call 26;refine H1.o.mono ?_;clear H1;rintro e w2 ⟨u2,rfl,ct,hq⟩;obtain⟨am,ap,an,rfl⟩:=Jh.form ct;clear Ub;have Ub:=(boxed_below n2 hq).cell;clear Qy;have Qy:=(boxed_below n2 hq).frozen)
 obtain⟨V3,hV⟩:=ex (w2.setCell ⟨w.heap.size,0,none⟩ (C am ap an));have g:Mem w (w2.setCell ⟨w.heap.size,0,none⟩ (C am ap an)) [some (w.heap.size,.poly q)]:=Mem.putPoly (M2.o.below hq) (i:=0) rfl ct;rw[hV]at g;rw[hV];have M3:Hid (Mem w V3 [some (w.heap.size,.poly q)]):=J (g);clear M2;clear g hV;clear ct hq n2 r2 Ub Qy;refine Jl Ql [[],[],[1],[0,2,2],[],[4,3,3,0,1,2,3,4]] (by kernel_rfl) DP
  (λD af V=>∃(ta tb tc td tt:H) (x4:Option (Nat × Dat)),af={ tmps:=#[G #[C pa la pc],F (some ⟨w.heap.size,0,none⟩),C none 0 0,tt,E,E,E,E,E,G #[C a1 l1 c1],.int .i64 d0,.bool (decide (d0<1)),G #[C a2 l2 c2],G #[C am ap an],ta,tb,tc,td,E,E,E,E,E,E,E,E,E,E,E,E,E,E,E,E,E,E,E,E,E,E,E,E,E,E,E,E,E,E,E,E,E,E,E],defers:=[] }/\Hid ((D 0=true->Has V ta (.poly q))/\(D 1=true->Has V tb (.poly q))/\(D 2=true->Has V tc (.poly (Je q)))/\(D 3=true->Has V td (.poly c))/\((D 4=false->x4=none)/\(D 4=true->D 5=false->∃B:Nat,tt=F (some ⟨B,0,none⟩)/\x4=some (B,.poly []))/\(D 5=true->∃B:Nat,tt=F (some ⟨B,0,none⟩)/\x4=some (B,.poly c))))/\Hid (Mem w V [some (w.heap.size,.poly q),x4]))
  ⟨_,_,_,_,_,none,rfl,J ⟨Y,Y,Y,Y,Y⟩,J ((M3.o).none).drew⟩ ?step4 ?fin4
 case step4=>
  rintro D af V i ds aj hi m ad ⟨ta,tb,tc,td,tt,x4,rfl,f,g⟩;have Qr:i<6:=(Ac.1 hi).1;obtain rfl|rfl|rfl|rfl|rfl|rfl:=L2 i O
  all_goals
   simp only[Af,Ae,Ag]at hi;subst hi
  . clear m;obtain⟨a,l,c,n,r⟩:=g.o.poly2 (i:=0) rfl;have e0:=n.cell;refine Za ?_;exact⟨_,_,_,_,_,_,rfl,(Dh f λ_=>r),J (g.o)⟩
  . clear m;obtain⟨a,l,c,n,r⟩:=g.o.poly2 (i:=0) rfl;have e0:=n.cell;refine Za ?_;exact⟨_,_,_,_,_,_,rfl,(Dp f λ_=>r),J (g.o)⟩
  . have s:=(f.o.2.1 (m 1 Y));have HC:=J (Uh.o V _ s);clear m s;refine Jb rfl rfl λK hK=>?_;go_simp;go_wp2_with(go_at_call 24;refine HC.o.mono ?_;rintro e w5 ⟨v5,rfl,ae,j⟩)
    exact⟨_,_,_,_,_,_,rfl,J ⟨λh=>(f.o.1 h).below j,λh=>(f.o.2.1 h).below j,λ_=>ae,λh=>(f.o.2.2.2.1 h).below j,f.o.2.2.2.2⟩,J (g.o.below j)⟩
  . have s:=(f.o.1 (m 0 Y));have A:=(f.o.2.2.1 (m 2 Y));have HC:=J (Ut.o V _ _ s A);clear m s A;refine Jb rfl rfl λK hK=>?_;go_simp;go_wp2_with(go_at_call 8;refine HC.o.mono ?_;rintro e w5 ⟨v5,rfl,ae,j⟩)
    exact⟨_,_,_,_,_,_,rfl,J ⟨λh=>(f.o.1 h).below j,λh=>(f.o.2.1 h).below j,λh=>(f.o.2.2.1 h).below j,λ_=>ae,f.o.2.2.2.2⟩,J (g.o.below j)⟩
  . have hf:D 5=false:=DQ aj ad;obtain rfl:=f.o.2.2.2.2.1 ad;clear m;refine Za ?_;exact⟨_,_,_,_,_,_,rfl,J ⟨λh=>(f.o.1 h).alloc _,λh=>(f.o.2.1 h).alloc _,λh=>(f.o.2.2.1 h).alloc _,λh=>(f.o.2.2.2.1 h).alloc _,⟨λh=>by simp at h,λ_ _=>⟨_,rfl,rfl⟩,λh=>by simp[hf]at h⟩⟩,J (g.o.fill (i:=1) rfl (.poly []) (Ic _))⟩
  . obtain⟨B,rfl,rfl⟩:=Dq f (m 4 Y) ad;have Qc:=m 4 Y;have hv:=(f.o.2.2.2.1 (m 3 Y));obtain⟨a1,l1,c1,rfl⟩:=Jh.form (show Jh V _ _ from hv);obtain⟨a,l,c,n,r⟩:=g.o.poly2 (i:=1) rfl;have e0:=n.cell;have f0:=n.frozen;clear m;refine Za ?_;exact⟨_,_,_,_,_,_,rfl,J ⟨λh=>(f.o.1 h).set1 n rfl _,λh=>(f.o.2.1 h).set1 n rfl _,λh=>(f.o.2.2.1 h).set1 n rfl _,λh=>(f.o.2.2.2.1 h).set1 n rfl _,⟨λh=>by simp[Qc]at h,λ_ h=>by simp at h,λ_=>⟨B,rfl,rfl⟩⟩⟩,J (g.o.putPoly (i:=1) rfl hv)⟩
 rintro D af V5 ah ⟨ta,tb,tc,td,tt,x4,rfl,f,g⟩;obtain⟨B6,rfl,rfl⟩:=f.o.2.2.2.2.2.2 (ah 5 DP);clear f ah M3;have M4:Hid (Mem w V5 [some (w.heap.size,.poly q),some (B6,.poly c)]):=g;clear g;go_upto_region 5 with fail
 refine Jl Ql [[],[],[0,1],[],[3,2],[],[4,5,4],[],[],[7,2,6,0,1,2,7,8],[8,6,9,0,1,2,3,4,5,6,7,8,9]] (by kernel_rfl) DP
  (λD af V=>∃(te tf tg ti tj tk tl tA tD:H) (x7 x8:Option (Nat × Dat)),af={ tmps:=#[G #[C pa la pc],F (some ⟨w.heap.size,0,none⟩),C none 0 0,F (some ⟨B6,0,none⟩),tA,tD,E,E,E,G #[C a1 l1 c1],.int .i64 d0,.bool (decide (d0<1)),G #[C a2 l2 c2],G #[C am ap an],ta,tb,tc,td,te,tf,tg,ti,tj,tk,tl,E,E,E,E,E,E,E,E,E,E,E,E,E,E,E,E,E,E,E,E,E,E,E,E,E,E,E,E],defers:=[] }/\Hid ((D 0=true->Has V te (.poly q))/\(D 1=true->Has V tf (.poly c))/\(D 2=true->Has V tg (.poly w0))/\(D 3=true->Has V ti (.poly q))/\(D 4=true->Has V tj (.poly (Je q)))/\(D 5=true->Has V tk (.poly c))/\(D 6=true->Has V tl (.poly y0))/\((D 7=false->x7=none)/\(D 7=true->D 9=false->∃B:Nat,tA=F (some ⟨B,0,none⟩)/\x7=some (B,.poly []))/\(D 9=true->∃B:Nat,tA=F (some ⟨B,0,none⟩)/\x7=some (B,.poly w0)))/\((D 8=false->x8=none)/\(D 8=true->D 10=false->∃B:Nat,tD=F (some ⟨B,0,none⟩)/\x8=some (B,.poly []))/\(D 10=true->∃B:Nat,tD=F (some ⟨B,0,none⟩)/\x8=some (B,.poly y0))))/\Hid (Mem w V [some (w.heap.size,.poly q),some (B6,.poly c),x7,x8]))
  ⟨_,_,_,_,_,_,_,_,_,none,none,rfl,J ⟨Y,Y,Y,Y,Y,Y,Y,Y,Y⟩,J (((M4.o).none).none).drew⟩ ?step7 ?fin7
 case step7=>
  rintro D af V i ds aj hi m ad ⟨te,tf,tg,ti,tj,tk,tl,tA,tD,x7,x8,rfl,f,g⟩;have Qr:i<11:=(Ac.1 hi).1;obtain rfl|rfl|rfl|rfl|rfl|rfl|rfl|rfl|rfl|rfl|rfl:=Ex i O
  all_goals
   simp only[Af,Ae,Ag]at hi;subst hi
  . clear m;obtain⟨a,l,c,n,r⟩:=g.o.poly2 (i:=0) rfl;have e0:=n.cell;refine Za ?_;exact⟨_,_,_,_,_,_,_,_,_,_,_,rfl,(Dh f λ_=>r),J (g.o)⟩
  . clear m;obtain⟨a,l,c,n,r⟩:=g.o.poly2 (i:=1) rfl;have e0:=n.cell;refine Za ?_;exact⟨_,_,_,_,_,_,_,_,_,_,_,rfl,(Dp f λ_=>r),J (g.o)⟩
  . have s:=(f.o.1 (m 0 Y));have A:=(f.o.2.1 (m 1 Y));have HC:=J (Us.o V _ _ s A);clear m s A;refine Jb rfl rfl λK hK=>?_;go_simp;go_wp2_with(go_at_call 46;refine HC.o.mono ?_;rintro e w5 ⟨v5,rfl,ae,j⟩)
    obtain⟨Q,R,_,S,U,X,G6,G7⟩:=f.o;exact⟨_,_,_,_,_,_,_,_,_,_,_,rfl,J ⟨λh=>(Q h).below j,λh=>(R h).below j,λ_=>ae,λh=>(S h).below j,λh=>(U h).below j,λh=>(X h).below j,λh=>(G6 h).below j,G7⟩,J (g.o.below j)⟩
  . clear m;obtain⟨a,l,c,n,r⟩:=g.o.poly2 (i:=0) rfl;have e0:=n.cell;refine Za ?_;exact⟨_,_,_,_,_,_,_,_,_,_,_,rfl,(Dl f λ_=>r),J (g.o)⟩
  . have s:=(f.o.2.2.2.1 (m 3 Y));have HC:=J (Uh.o V _ s);clear m s;refine Jb rfl rfl λK hK=>?_;go_simp;go_wp2_with(go_at_call 24;refine HC.o.mono ?_;rintro e w5 ⟨v5,rfl,ae,j⟩)
    obtain⟨Q,R,G2,S,_,X,G6,G7⟩:=f.o;exact⟨_,_,_,_,_,_,_,_,_,_,_,rfl,J ⟨λh=>(Q h).below j,λh=>(R h).below j,λh=>(G2 h).below j,λh=>(S h).below j,λ_=>ae,λh=>(X h).below j,λh=>(G6 h).below j,G7⟩,J (g.o.below j)⟩
  . clear m;obtain⟨a,l,c,n,r⟩:=g.o.poly2 (i:=1) rfl;have e0:=n.cell;refine Za ?_;exact⟨_,_,_,_,_,_,_,_,_,_,_,rfl,(D0 f λ_=>r),J (g.o)⟩
  . have s:=(f.o.2.2.2.2.1 (m 4 Y));have A:=((Dq f) (m 5 Y));have HC:=J (Uq.o V _ _ s A);clear m s A;refine Jb rfl rfl λK hK=>?_;go_simp;go_wp2_with(go_at_call 46;refine HC.o.mono ?_;rintro e w5 ⟨v5,rfl,ae,j⟩)
    obtain⟨Q,R,G2,S,U,X,_,G7⟩:=f.o;exact⟨_,_,_,_,_,_,_,_,_,_,_,rfl,J ⟨λh=>(Q h).below j,λh=>(R h).below j,λh=>(G2 h).below j,λh=>(S h).below j,λh=>(U h).below j,λh=>(X h).below j,λ_=>ae,G7⟩,J (g.o.below j)⟩
  . have hf:D 9=false:=DQ aj ad;obtain rfl:=f.o.2.2.2.2.2.2.2.1.1 ad;clear m;refine Za ?_;obtain⟨Q,R,G2,S,U,X,G6,_,G8⟩:=f.o;exact⟨_,_,_,_,_,_,_,_,_,_,_,rfl,J ⟨λh=>(Q h).alloc _,λh=>(R h).alloc _,λh=>(G2 h).alloc _,λh=>(S h).alloc _,λh=>(U h).alloc _,λh=>(X h).alloc _,λh=>(G6 h).alloc _,⟨λh=>by simp at h,λ_ _=>⟨_,rfl,rfl⟩,λh=>by simp[hf]at h⟩,G8⟩,J (g.o.fill (i:=2) rfl (.poly []) (Ic _))⟩
  . have hf:D 10=false:=DQ aj ad;obtain rfl:=D5 f ad;clear m;refine Za ?_;obtain⟨Q,R,G2,S,U,X,G6,G7,_⟩:=f.o;exact⟨_,_,_,_,_,_,_,_,_,_,_,rfl,J ⟨λh=>(Q h).alloc _,λh=>(R h).alloc _,λh=>(G2 h).alloc _,λh=>(S h).alloc _,λh=>(U h).alloc _,λh=>(X h).alloc _,λh=>(G6 h).alloc _,G7,⟨λh=>by simp at h,λ_ _=>⟨_,rfl,rfl⟩,λh=>by simp[hf]at h⟩⟩,J (g.o.fill (i:=3) rfl (.poly []) (Ic _))⟩
  . obtain⟨B,rfl,rfl⟩:=f.o.2.2.2.2.2.2.2.1.2.1 (m 7 Y) ad;have Qc:=m 7 Y;have hv:=(f.o.2.2.1 (m 2 Y));obtain⟨a1,l1,c1,rfl⟩:=Jh.form (show Jh V _ _ from hv);obtain⟨a,l,c,n,r⟩:=g.o.poly2 (i:=2) rfl;have e0:=n.cell;have f0:=n.frozen;clear m;refine Za ?_;obtain⟨Q,R,G2,S,U,X,G6,_,G8⟩:=f.o;exact⟨_,_,_,_,_,_,_,_,_,_,_,rfl,J ⟨λh=>(Q h).set1 n rfl _,λh=>(R h).set1 n rfl _,λh=>(G2 h).set1 n rfl _,λh=>(S h).set1 n rfl _,λh=>(U h).set1 n rfl _,λh=>(X h).set1 n rfl _,λh=>(G6 h).set1 n rfl _,⟨λh=>by simp[Qc]at h,λ_ h=>by simp at h,λ_=>⟨B,rfl,rfl⟩⟩,G8⟩,J (g.o.putPoly (i:=2) rfl hv)⟩
  . obtain⟨B,rfl,rfl⟩:=ED f (m 8 Y) ad;have Qc:=m 8 Y;have hv:=((Ds f) (m 6 Y));obtain⟨a1,l1,c1,rfl⟩:=Jh.form (show Jh V _ _ from hv);obtain⟨a,l,c,n,r⟩:=g.o.poly2 (i:=3) rfl;have e0:=n.cell;have f0:=n.frozen;clear m;refine Za ?_;obtain⟨Q,R,G2,S,U,X,G6,G7,_⟩:=f.o;exact⟨_,_,_,_,_,_,_,_,_,_,_,rfl,J ⟨λh=>(Q h).set1 n rfl _,λh=>(R h).set1 n rfl _,λh=>(G2 h).set1 n rfl _,λh=>(S h).set1 n rfl _,λh=>(U h).set1 n rfl _,λh=>(X h).set1 n rfl _,λh=>(G6 h).set1 n rfl _,G7,⟨λh=>by simp[Qc]at h,λ_ h=>by simp at h,λ_=>⟨B,rfl,rfl⟩⟩⟩,J (g.o.putPoly (i:=3) rfl hv)⟩
 rintro D af V8 ah ⟨te,tf,tg,ti,tj,tk,tl,tA,tD,x7,x8,rfl,f,g⟩;obtain⟨B9,rfl,rfl⟩:=f.o.2.2.2.2.2.2.2.1.2.2 (ah 9 DP);obtain⟨B10,rfl,rfl⟩:=f.o.2.2.2.2.2.2.2.2.2.2 (ah 10 DP);clear f ah M4;have M5:Hid (Mem w V8 [some (w.heap.size,.poly q),some (B6,.poly c),some (B9,.poly w0),some (B10,.poly y0)]):=g;clear g;go_wp2;go_loopw [6,7] (λlv tv wr=>∃(k:Nat) (xa:Option Addr) (xc:Nat),k<=N/\lv=C xa (yL w0 y0 k).length xc/\tv=.int .i64 ((k+1:Nat):Int)/\Hid (F6 w.heap.size wr (C xa (yL w0 y0 k).length xc) (yL w0 y0 k))/\Hid (Mem w wr [some (w.heap.size,.poly q),some (B6,.poly c),some (B9,.poly ((DV w0 y0 k).1)),some (B10,.poly ((DV w0 y0 k).2))])) λ_ tv _=>N+1-(intOf tv).toNat
 case atStart=>exact⟨0,none,0,AC _,rfl,rfl,J (XQ.nil _ _ _),M5⟩
 case round=>
  clear M5 Ut Us Uq Uh;obtain⟨k,xa,xc,hk,rfl,rfl,XL,M6⟩:=hrel;obtain⟨o,cn⟩:=ex ((DV w0 y0 k).1);obtain⟨z,co⟩:=ex ((DV w0 y0 k).2);obtain⟨L,hL⟩:=ex (yL w0 y0 k);have Qa:=J (show(DV w0 y0 k).1=o/\(DV w0 y0 k).2=z/\yL w0 y0 k=L/\L.length<=k from⟨cn,co,hL,by rw[<-hL];exact PW _ _ _⟩);rw[cn,co]at M6;rw[hL]at XL;clear cn co hL;rw[Qa.o.2.2.1];obtain⟨ll,cl⟩:=ex (L.length:Nat);rw[cl]at XL ⊢;have Qk:=J cl;clear cl;obtain⟨T,hT⟩:=ex (k+1:Nat);rw[hT];have Qh:=J hT;clear hT;obtain⟨bm,dh,bn,bj,r11⟩:=M6.o.poly2 (i:=2) rfl;have Qd:=bj.cell;have H1:=J (Ug.o wr _ o r11);obtain⟨d1,cj⟩:=ex ((o.length:Int)-1:Int);rw[cj]at H1;have Uw:=J cj;clear cj;by_cases f6:k<N
  . have Wa:(0:Int)<d1:=by have A:=(Uy.o k f6).1;rw[Qa.o.1]at A;have:=Uw.o;omega
    have HO:=J (show StOk K M o z by have A:=(Uy.o k f6).2;rwa[Qa.o.1,Qa.o.2.1]at A);go_upto_region 10 with(go_at_call 20;refine H1.o.mono ?_;clear H1;rintro e w1 ⟨rfl,hq⟩;clear Qd;have Qd:=(boxed_below bj hq).cell)
    have M7:Hid (Mem w w1 [some (w.heap.size,.poly q),some (B6,.poly c),some (B9,.poly o),some (B10,.poly z)]):=J (M6.o.below hq);have Uv:=J (XL.o.below hq);clear XL hq bj r11 Qd M6;refine Jl Ql [[],[],[1],[0,2,2],[3,3,0,1,2,3]] (by kernel_rfl) DP
     (λD af V=>∃(tm tn tr ts:H) (y3:Option (Nat × Dat)),af={ tmps:=#[G #[C pa la pc],F (some ⟨w.heap.size,0,none⟩),C none 0 0,F (some ⟨B6,0,none⟩),F (some ⟨B9,0,none⟩),F (some ⟨B10,0,none⟩),C xa ll xc,.int .i64 ↑T,u8,G #[C a1 l1 c1],.int .i64 d0,.bool (decide (d0<1)),G #[C a2 l2 c2],G #[C am ap an],ta,tb,tc,td,te,tf,tg,ti,tj,tk,tl,G #[C bm dh bn],.int .i64 d1,.bool true,u28,u29,tm,tn,tr,ts,u34,u35,u36,u37,u38,u39,u40,u41,u42,u43,u44,u45,u46,u47,u48,u49,u50,u51,E],defers:=[] }/\Hid ((D 0=true->Has V tm (.poly z))/\(D 1=true->Has V tn (.poly o))/\(D 2=true->Has V tr (.poly (Je o)))/\(D 3=true->Has V ts (.poly (JP z (Je o))))/\((D 4=false->y3=some (B10,.poly z))/\(D 4=true->y3=some (B10,.poly (JP z (Je o))))))/\Hid (Mem w V [some (w.heap.size,.poly q),some (B6,.poly c),some (B9,.poly o),y3])/\Hid (F6 w.heap.size V (C xa ll xc) L))
     ⟨_,_,_,_,_,rfl,J ⟨Y,Y,Y,Y,⟨λ_=>rfl,Y⟩⟩,J (M7.o).drew,J (Uv.o.drew)⟩ ?step12 ?fin12
    case step12=>
     rintro D af V i ds aj hi m ad ⟨tm,tn,tr,ts,y3,rfl,f,g,I⟩;have Qr:i<5:=(Ac.1 hi).1;obtain rfl|rfl|rfl|rfl|rfl:=Iz i O
     all_goals
      simp only[Af,Ae,Ag]at hi;subst hi
     . have hf:D 4=false:=DQ aj ad;obtain rfl:=f.o.2.2.2.2.1 hf;clear m;obtain⟨a,l,c,n,r⟩:=g.o.poly2 (i:=3) rfl;have e0:=n.cell;refine Za ?_;exact⟨_,_,_,_,_,rfl,J ⟨λ_=>r,f.o.2.1,f.o.2.2.1,f.o.2.2.2.1,⟨λ_=>rfl,λh=>by simp[hf]at h⟩⟩,J (g.o),J (I.o)⟩
     . clear m;obtain⟨a,l,c,n,r⟩:=g.o.poly2 (i:=2) rfl;have e0:=n.cell;refine Za ?_;exact⟨_,_,_,_,_,rfl,(Dp f λ_=>r),J (g.o),J (I.o)⟩
     . have s:=(f.o.2.1 (m 1 Y));have HC:=J (Wh.o o z HO.o V _ s);clear m s;refine Jb rfl rfl λK hK=>?_;go_simp;go_wp2_with(go_at_call 24;refine HC.o.mono ?_;rintro e w5 ⟨v5,rfl,ae,j⟩)
       exact⟨_,_,_,_,_,rfl,J ⟨λh=>(f.o.1 h).below j,λh=>(f.o.2.1 h).below j,λ_=>ae,λh=>(f.o.2.2.2.1 h).below j,f.o.2.2.2.2⟩,J (g.o.below j),J (I.o.below j)⟩
     . have s:=(f.o.1 (m 0 Y));have A:=(f.o.2.2.1 (m 2 Y));have HC:=J (Wi.o o z HO.o V _ _ s A);clear m s A;refine Jb rfl rfl λK hK=>?_;go_simp;go_wp2_with(go_at_call 48;refine HC.o.mono ?_;rintro e w5 ⟨v5,rfl,ae,j⟩)
       exact⟨_,_,_,_,_,rfl,J ⟨λh=>(f.o.1 h).below j,λh=>(f.o.2.1 h).below j,λh=>(f.o.2.2.1 h).below j,λ_=>ae,f.o.2.2.2.2⟩,J (g.o.below j),J (I.o.below j)⟩
     . obtain rfl:=f.o.2.2.2.2.1 ad;have hv:=(f.o.2.2.2.1 (m 3 Y));obtain⟨a1,l1,c1,rfl⟩:=Jh.form (show Jh V _ _ from hv);obtain⟨a,l,c,n,r⟩:=g.o.poly2 (i:=3) rfl;have e0:=n.cell;have f0:=n.frozen;clear m;refine Za ?_;exact⟨_,_,_,_,_,rfl,J ⟨λh=>(f.o.1 h).set1 n rfl _,λh=>(f.o.2.1 h).set1 n rfl _,λh=>(f.o.2.2.1 h).set1 n rfl _,λh=>(f.o.2.2.2.1 h).set1 n rfl _,⟨λh=>by simp at h,λ_=>rfl⟩⟩,J (g.o.putPoly (i:=3) rfl hv),J (I.o.set1 n rfl _)⟩
    rintro D af di ah ⟨tm,tn,tr,ts,y3,rfl,f,g,I⟩;obtain rfl:=f.o.2.2.2.2.2 (ah 4 DP);clear f ah M7;have M8:Hid (Mem w di [some (w.heap.size,.poly q),some (B6,.poly c),some (B9,.poly o),some (B10,.poly (JP z (Je o)))]):=g;clear g;have Um:=I;clear I Uv;obtain⟨P,hP⟩:=ex (JC o (JP z (Je o)));obtain⟨Qs,Qp,Qe,Qg⟩:=D9 hP (Wk.o o z HO.o) (Wc.o o z HO.o) (Wm.o o z HO.o);rw[hP]at Qp Qe Qg;clear hP;obtain⟨du,f8,dz,fb,fe⟩:=M8.o.poly2 (i:=2) rfl;have Qx:=fb.cell;obtain⟨dx,f9,ed,fd,ff⟩:=M8.o.poly2 (i:=3) rfl;have Ue:=fd.cell;have H1:=J (Qp.o di _ _ fe ff);go_upto_region 12 with(go_at_call 8;refine H1.o.mono ?_;clear H1;rintro e w3 ⟨u3,rfl,de,hq⟩;obtain⟨aw,az,ay,rfl⟩:=Jh.form de)
    have Ur:=J ((Um.o.below hq).alloc (.cells #[C aw az ay] 25));clear Um fb fe Qx fd ff Ue;have Qi:=Ur;clear Ur;obtain⟨dj,hV⟩:=ex (w3.alloc (.cells #[C aw az ay] 25));obtain⟨ak,bt⟩:=ex (w3.heap.size);have g:Mem w (w3.alloc (.cells #[C aw az ay] 25)) [some (w.heap.size,.poly q),some (B6,.poly c),some (B9,.poly o),some (B10,.poly (JP z (Je o))),some (w3.heap.size,.poly P)]:=Mem.push (M8.o.below hq) (.poly P) de;rw[hV,bt]at g;rw[hV]at Qi;rw[hV];rw[bt];have M9:Hid (Mem w dj [some (w.heap.size,.poly q),some (B6,.poly c),some (B9,.poly o),some (B10,.poly (JP z (Je o))),some (ak,.poly P)]):=J (g);clear M8;clear g hV bt de hq;obtain⟨bc,bi,bf,aq,bk⟩:=M9.o.poly2 (i:=4) rfl;have Qb:=aq.cell;have H1:=J (Ug.o dj _ P bk);obtain⟨d2,ck⟩:=ex ((P.length:Int)-1:Int);rw[ck]at H1;have Un:=J ck;clear ck;by_cases ei:1<P.length
    . have We:(0:Int)<d2:=by have:=Un.o;omega
      have Qj:=J (show yL w0 y0 (k+1)=L++[(P,T)]by rw[yL,Qa.o.2.2.1];unfold yP;rw[Qa.o.1,Qa.o.2.1,Qs.o,BG ei,Qh.o]);go_upto_region 13 with(go_at_call 20;refine H1.o.mono ?_;clear H1;rintro e w4 ⟨rfl,hq⟩;clear Qb;have Qb:=(boxed_below aq hq).cell)
      have X4:=Qi.o.below hq;have M4:=M9.o.below hq;have r4:=bk.below hq;have Ul:=M4.2.2.size;obtain⟨v',w',ce,X5,ew,et,fg⟩:=Tu true w.heap.size w4 (C xa ll xc) L X4 (t:=T) r4.row (by have:=Qa.o.2.2.2;omega) Ul;obtain⟨ya,yc,f7,_,_⟩:=X5.form;rw[Aj,show([(P,T)]:List (List Rat × Nat)).length=1 from rfl]at f7;subst f7;have M5:=M4.farP ew (et _ w (Aa _) M4.2.2) (λi B d e=>by rcases i with _|_|_|_|_|i<;>simp at e<;>(obtain⟨rfl,rfl⟩:=e;show 25≠44;decide));have e4:=(boxed_below aq hq).cell;clear X4 r4 Ul ew et fg hq M4 aq bk Qb Qi;rw[show Gw true=39 from rfl,show EQ true=44 from rfl]at ce;go_upto_region 14 with(first
       |(at_builtin;refine Bh _ rfl _ _ 39 39 rfl _ _ rfl rfl _ _ ce ?_;clear ce))
      clear e4 M9;have Qn:Hid (Mem w w' [some (w.heap.size,.poly q),some (B6,.poly c),some (B9,.poly o),some (B10,.poly (JP z (Je o))),some (ak,.poly P)]):=J (M5);clear M5;have Uu:Hid (F6 w.heap.size w' (C ya (L.length+1) yc) (L++[(P,T)])):=J X5;clear X5;rw[Qk.o]at Uu;refine Jl Ql [[],[],[0,1],[],[],[3,4,2],[2,5,0,1,2],[5,6,0,1,2,3,4,5,6]] (by kernel_rfl) DP
       (λD af V=>∃(tu tw tx tz tB tC:H) (y2 y3:Option (Nat × Dat)),af={ tmps:=#[G #[C pa la pc],F (some ⟨w.heap.size,0,none⟩),C none 0 0,F (some ⟨B6,0,none⟩),F (some ⟨B9,0,none⟩),F (some ⟨B10,0,none⟩),C ya (L.length+1) yc,.int .i64 ↑T,F (some ⟨ak,0,none⟩),G #[C a1 l1 c1],.int .i64 d0,.bool (decide (d0<1)),G #[C a2 l2 c2],G #[C am ap an],ta,tb,tc,td,te,tf,tg,ti,tj,tk,tl,G #[C bm dh bn],.int .i64 d1,.bool true,u28,u29,tm,tn,tr,ts,G #[C du f8 dz],G #[C dx f9 ed],G #[C aw az ay],G #[C bc bi bf],.int .i64 d2,.bool true,C xa ll xc,G #[C bc bi bf],.int .i64 ↑T,G #[C bc bi bf,.int .i64 ↑T],C (some ⟨w4.heap.size,0,none⟩) 1 1,C ya (L.length+1) yc,tu,tw,tx,tz,tB,tC,E],defers:=[] }/\Hid ((D 0=true->Has V tu (.poly o))/\(D 1=true->Has V tw (.poly P))/\(D 2=true->Has V tx (.poly (Dm o P)))/\(D 3=true->Has V tz (.poly (JP z (Je o))))/\(D 4=true->Has V tB (.poly P))/\(D 5=true->Has V tC (.poly (Dm (JP z (Je o)) P)))/\((D 6=false->y2=some (B9,.poly o))/\(D 6=true->y2=some (B9,.poly (Dm o P))))/\((D 7=false->y3=some (B10,.poly (JP z (Je o))))/\(D 7=true->y3=some (B10,.poly (Dm (JP z (Je o)) P)))))/\Hid (Mem w V [some (w.heap.size,.poly q),some (B6,.poly c),y2,y3,some (ak,.poly P)])/\Hid (F6 w.heap.size V (C ya (ll+1) yc) (L++[(P,T)])))
       ⟨_,_,_,_,_,_,_,_,rfl,J ⟨Y,Y,Y,Y,Y,Y,⟨λ_=>rfl,Y⟩,⟨λ_=>rfl,Y⟩⟩,J (Qn.o).drew,J (Uu.o.drew)⟩ ?step18 ?fin18
      case step18=>
       rintro D af V i ds aj hi m ad ⟨tu,tw,tx,tz,tB,tC,y2,y3,rfl,f,g,I⟩;have Qr:i<8:=(Ac.1 hi).1;obtain rfl|rfl|rfl|rfl|rfl|rfl|rfl|rfl:=L3 i O
       all_goals
        simp only[Af,Ae,Ag]at hi;subst hi
       . have hf:D 6=false:=DQ aj ad;obtain rfl:=f.o.2.2.2.2.2.2.1.1 hf;clear m;obtain⟨a,l,c,n,r⟩:=g.o.poly2 (i:=2) rfl;have e0:=n.cell;refine Za ?_;exact⟨_,_,_,_,_,_,_,_,rfl,(Dx (Dh f λ_=>r) ⟨λ_=>rfl,λh=>by simp[hf]at h⟩),J (g.o),J (I.o)⟩
       . clear m;obtain⟨a,l,c,n,r⟩:=g.o.poly2 (i:=4) rfl;have e0:=n.cell;refine Za ?_;exact⟨_,_,_,_,_,_,_,_,rfl,(Dp f λ_=>r),J (g.o),J (I.o)⟩
       . have s:=(f.o.1 (m 0 Y));have A:=(f.o.2.1 (m 1 Y));have HC:=J (Qe.o V _ _ s A);clear m s A;refine Jb rfl rfl λK hK=>?_;go_simp;go_wp2_with(go_at_call 46;refine HC.o.mono ?_;rintro e w5 ⟨v5,rfl,ae,j⟩)
         obtain⟨Q,R,_,S,U,X,G6⟩:=f.o;exact⟨_,_,_,_,_,_,_,_,rfl,J ⟨λh=>(Q h).below j,λh=>(R h).below j,λ_=>ae,λh=>(S h).below j,λh=>(U h).below j,λh=>(X h).below j,G6⟩,J (g.o.below j),J (I.o.below j)⟩
       . have hf:D 7=false:=DQ aj ad;obtain rfl:=Du f hf;clear m;obtain⟨a,l,c,n,r⟩:=g.o.poly2 (i:=3) rfl;have e0:=n.cell;refine Za ?_;exact⟨_,_,_,_,_,_,_,_,rfl,(MW (Dl f λ_=>r) ⟨λ_=>rfl,λh=>by simp[hf]at h⟩),J (g.o),J (I.o)⟩
       . clear m;obtain⟨a,l,c,n,r⟩:=g.o.poly2 (i:=4) rfl;have e0:=n.cell;refine Za ?_;exact⟨_,_,_,_,_,_,_,_,rfl,(Dz f λ_=>r),J (g.o),J (I.o)⟩
       . have s:=(f.o.2.2.2.1 (m 3 Y));have A:=(f.o.2.2.2.2.1 (m 4 Y));have HC:=J (Qg.o V _ _ s A);clear m s A;refine Jb rfl rfl λK hK=>?_;go_simp;go_wp2_with(go_at_call 46;refine HC.o.mono ?_;rintro e w5 ⟨v5,rfl,ae,j⟩)
         obtain⟨Q,R,G2,S,U,_,G6⟩:=f.o;exact⟨_,_,_,_,_,_,_,_,rfl,J ⟨λh=>(Q h).below j,λh=>(R h).below j,λh=>(G2 h).below j,λh=>(S h).below j,λh=>(U h).below j,λ_=>ae,G6⟩,J (g.o.below j),J (I.o.below j)⟩
       . obtain rfl:=f.o.2.2.2.2.2.2.1.1 ad;have hv:=(f.o.2.2.1 (m 2 Y));obtain⟨a1,l1,c1,rfl⟩:=Jh.form (show Jh V _ _ from hv);obtain⟨a,l,c,n,r⟩:=g.o.poly2 (i:=2) rfl;have e0:=n.cell;have f0:=n.frozen;clear m;refine Za ?_;obtain⟨Q,R,G2,S,U,X,_,G7⟩:=f.o;exact⟨_,_,_,_,_,_,_,_,rfl,J ⟨λh=>(Q h).set1 n rfl _,λh=>(R h).set1 n rfl _,λh=>(G2 h).set1 n rfl _,λh=>(S h).set1 n rfl _,λh=>(U h).set1 n rfl _,λh=>(X h).set1 n rfl _,⟨λh=>by simp at h,λ_=>rfl⟩,G7⟩,J (g.o.putPoly (i:=2) rfl hv),J (I.o.set1 n rfl _)⟩
       . obtain rfl:=Du f ad;have hv:=((Dq f) (m 5 Y));obtain⟨a1,l1,c1,rfl⟩:=Jh.form (show Jh V _ _ from hv);obtain⟨a,l,c,n,r⟩:=g.o.poly2 (i:=3) rfl;have e0:=n.cell;have f0:=n.frozen;clear m;refine Za ?_;obtain⟨Q,R,G2,S,U,X,G6,_⟩:=f.o;exact⟨_,_,_,_,_,_,_,_,rfl,J ⟨λh=>(Q h).set1 n rfl _,λh=>(R h).set1 n rfl _,λh=>(G2 h).set1 n rfl _,λh=>(S h).set1 n rfl _,λh=>(U h).set1 n rfl _,λh=>(X h).set1 n rfl _,G6,⟨λh=>by simp at h,λ_=>rfl⟩⟩,J (g.o.putPoly (i:=3) rfl hv),J (I.o.set1 n rfl _)⟩
      rintro D af dp ah ⟨tu,tw,tx,tz,tB,tC,y2,y3,rfl,f,g,I⟩;obtain rfl:=f.o.2.2.2.2.2.2.1.2 (ah 6 DP);obtain rfl:=f.o.2.2.2.2.2.2.2.2 (ah 7 DP);clear f ah Qn;have Qo:Hid (Mem w dp [some (w.heap.size,.poly q),some (B6,.poly c),some (B9,.poly (Dm o P)),some (B10,.poly (Dm (JP z (Je o)) P)),some (ak,.poly P)]):=g;clear g;have Qt:Hid (Mem w dp [some (w.heap.size,.poly q),some (B6,.poly c),some (B9,.poly (Dm o P)),some (B10,.poly (Dm (JP z (Je o)) P))]):=J (Qo.o.take 4);have Qm:=J (show(DV w0 y0 (k+1)).1=Dm o P/\(DV w0 y0 (k+1)).2=Dm (JP z (Je o)) P by rw[DV];unfold K9;rw[Qa.o.1,Qa.o.2.1,Qs.o];exact⟨rfl,rfl⟩);have Wd:T+1<=9223372036854775807:=by have:=Qh.o;omega
      clear Qo;go_wp2_with fail
      go_roundw
      case rel=>exact⟨k+1,ya,yc,O,by rw[Qj.o,Aj,Qk.o];rfl,by rw[Qh.o];go_num,by rw[Qj.o,Aj,Qk.o];exact I,by rw[Qm.o.1,Qm.o.2];exact Qt⟩
      case measure=>simp[intOf];have:=Qh.o;omega
    . have We:¬(0:Int)<d2:=by have:=Un.o;omega
      have Qj:=J (show yL w0 y0 (k+1)=L by rw[yL,Qa.o.2.2.1];unfold yP;rw[Qa.o.1,Qa.o.2.1,Qs.o,BC ei,Cn]);go_upto_region 14 with(go_at_call 20;refine H1.o.mono ?_;clear H1;rintro e w4 ⟨rfl,hq⟩;clear Qb;have Qb:=(boxed_below aq hq).cell)
      have Wb:=J (Qi.o.below hq);have Qn:Hid (Mem w w4 [some (w.heap.size,.poly q),some (B6,.poly c),some (B9,.poly o),some (B10,.poly (JP z (Je o))),some (ak,.poly P)]):=J (M9.o.below hq);clear M9;clear hq aq bk Qb Qi;refine Jl Ql [[],[],[0,1],[],[],[3,4,2],[2,5,0,1,2],[5,6,0,1,2,3,4,5,6]] (by kernel_rfl) DP
       (λD af V=>∃(tu tw tx tz tB tC:H) (y2 y3:Option (Nat × Dat)),af={ tmps:=#[G #[C pa la pc],F (some ⟨w.heap.size,0,none⟩),C none 0 0,F (some ⟨B6,0,none⟩),F (some ⟨B9,0,none⟩),F (some ⟨B10,0,none⟩),C xa ll xc,.int .i64 ↑T,F (some ⟨ak,0,none⟩),G #[C a1 l1 c1],.int .i64 d0,.bool (decide (d0<1)),G #[C a2 l2 c2],G #[C am ap an],ta,tb,tc,td,te,tf,tg,ti,tj,tk,tl,G #[C bm dh bn],.int .i64 d1,.bool true,u28,u29,tm,tn,tr,ts,G #[C du f8 dz],G #[C dx f9 ed],G #[C aw az ay],G #[C bc bi bf],.int .i64 d2,.bool (decide (0<d2)),u40,u41,u42,u43,u44,u45,tu,tw,tx,tz,tB,tC,E],defers:=[] }/\Hid ((D 0=true->Has V tu (.poly o))/\(D 1=true->Has V tw (.poly P))/\(D 2=true->Has V tx (.poly (Dm o P)))/\(D 3=true->Has V tz (.poly (JP z (Je o))))/\(D 4=true->Has V tB (.poly P))/\(D 5=true->Has V tC (.poly (Dm (JP z (Je o)) P)))/\((D 6=false->y2=some (B9,.poly o))/\(D 6=true->y2=some (B9,.poly (Dm o P))))/\((D 7=false->y3=some (B10,.poly (JP z (Je o))))/\(D 7=true->y3=some (B10,.poly (Dm (JP z (Je o)) P)))))/\Hid (Mem w V [some (w.heap.size,.poly q),some (B6,.poly c),y2,y3,some (ak,.poly P)])/\Hid (F6 w.heap.size V (C xa ll xc) L))
       ⟨_,_,_,_,_,_,_,_,rfl,J ⟨Y,Y,Y,Y,Y,Y,⟨λ_=>rfl,Y⟩,⟨λ_=>rfl,Y⟩⟩,J (Qn.o).drew,J (Wb.o.drew)⟩ ?step20 ?fin20
      case step20=>
       rintro D af V i ds aj hi m ad ⟨tu,tw,tx,tz,tB,tC,y2,y3,rfl,f,g,I⟩;have Qr:i<8:=(Ac.1 hi).1;obtain rfl|rfl|rfl|rfl|rfl|rfl|rfl|rfl:=L3 i O
       all_goals
        simp only[Af,Ae,Ag]at hi;subst hi
       . have hf:D 6=false:=DQ aj ad;obtain rfl:=f.o.2.2.2.2.2.2.1.1 hf;clear m;obtain⟨a,l,c,n,r⟩:=g.o.poly2 (i:=2) rfl;have e0:=n.cell;refine Za ?_;exact⟨_,_,_,_,_,_,_,_,rfl,(Dx (Dh f λ_=>r) ⟨λ_=>rfl,λh=>by simp[hf]at h⟩),J (g.o),J (I.o)⟩
       . clear m;obtain⟨a,l,c,n,r⟩:=g.o.poly2 (i:=4) rfl;have e0:=n.cell;refine Za ?_;exact⟨_,_,_,_,_,_,_,_,rfl,(Dp f λ_=>r),J (g.o),J (I.o)⟩
       . have s:=(f.o.1 (m 0 Y));have A:=(f.o.2.1 (m 1 Y));have HC:=J (Qe.o V _ _ s A);clear m s A;refine Jb rfl rfl λK hK=>?_;go_simp;go_wp2_with(go_at_call 46;refine HC.o.mono ?_;rintro e w5 ⟨v5,rfl,ae,j⟩)
         obtain⟨Q,R,_,S,U,X,G6⟩:=f.o;exact⟨_,_,_,_,_,_,_,_,rfl,J ⟨λh=>(Q h).below j,λh=>(R h).below j,λ_=>ae,λh=>(S h).below j,λh=>(U h).below j,λh=>(X h).below j,G6⟩,J (g.o.below j),J (I.o.below j)⟩
       . have hf:D 7=false:=DQ aj ad;obtain rfl:=Du f hf;clear m;obtain⟨a,l,c,n,r⟩:=g.o.poly2 (i:=3) rfl;have e0:=n.cell;refine Za ?_;exact⟨_,_,_,_,_,_,_,_,rfl,(MW (Dl f λ_=>r) ⟨λ_=>rfl,λh=>by simp[hf]at h⟩),J (g.o),J (I.o)⟩
       . clear m;obtain⟨a,l,c,n,r⟩:=g.o.poly2 (i:=4) rfl;have e0:=n.cell;refine Za ?_;exact⟨_,_,_,_,_,_,_,_,rfl,(Dz f λ_=>r),J (g.o),J (I.o)⟩
       . have s:=(f.o.2.2.2.1 (m 3 Y));have A:=(f.o.2.2.2.2.1 (m 4 Y));have HC:=J (Qg.o V _ _ s A);clear m s A;refine Jb rfl rfl λK hK=>?_;go_simp;go_wp2_with(go_at_call 46;refine HC.o.mono ?_;rintro e w5 ⟨v5,rfl,ae,j⟩)
         obtain⟨Q,R,G2,S,U,_,G6⟩:=f.o;exact⟨_,_,_,_,_,_,_,_,rfl,J ⟨λh=>(Q h).below j,λh=>(R h).below j,λh=>(G2 h).below j,λh=>(S h).below j,λh=>(U h).below j,λ_=>ae,G6⟩,J (g.o.below j),J (I.o.below j)⟩
       . obtain rfl:=f.o.2.2.2.2.2.2.1.1 ad;have hv:=(f.o.2.2.1 (m 2 Y));obtain⟨a1,l1,c1,rfl⟩:=Jh.form (show Jh V _ _ from hv);obtain⟨a,l,c,n,r⟩:=g.o.poly2 (i:=2) rfl;have e0:=n.cell;have f0:=n.frozen;clear m;refine Za ?_;obtain⟨Q,R,G2,S,U,X,_,G7⟩:=f.o;exact⟨_,_,_,_,_,_,_,_,rfl,J ⟨λh=>(Q h).set1 n rfl _,λh=>(R h).set1 n rfl _,λh=>(G2 h).set1 n rfl _,λh=>(S h).set1 n rfl _,λh=>(U h).set1 n rfl _,λh=>(X h).set1 n rfl _,⟨λh=>by simp at h,λ_=>rfl⟩,G7⟩,J (g.o.putPoly (i:=2) rfl hv),J (I.o.set1 n rfl _)⟩
       . obtain rfl:=Du f ad;have hv:=((Dq f) (m 5 Y));obtain⟨a1,l1,c1,rfl⟩:=Jh.form (show Jh V _ _ from hv);obtain⟨a,l,c,n,r⟩:=g.o.poly2 (i:=3) rfl;have e0:=n.cell;have f0:=n.frozen;clear m;refine Za ?_;obtain⟨Q,R,G2,S,U,X,G6,_⟩:=f.o;exact⟨_,_,_,_,_,_,_,_,rfl,J ⟨λh=>(Q h).set1 n rfl _,λh=>(R h).set1 n rfl _,λh=>(G2 h).set1 n rfl _,λh=>(S h).set1 n rfl _,λh=>(U h).set1 n rfl _,λh=>(X h).set1 n rfl _,G6,⟨λh=>by simp at h,λ_=>rfl⟩⟩,J (g.o.putPoly (i:=3) rfl hv),J (I.o.set1 n rfl _)⟩
      rintro D af dt ah ⟨tu,tw,tx,tz,tB,tC,y2,y3,rfl,f,g,I⟩;obtain rfl:=f.o.2.2.2.2.2.2.1.2 (ah 6 DP);obtain rfl:=f.o.2.2.2.2.2.2.2.2 (ah 7 DP);clear f ah Qn;have Qo:Hid (Mem w dt [some (w.heap.size,.poly q),some (B6,.poly c),some (B9,.poly (Dm o P)),some (B10,.poly (Dm (JP z (Je o)) P)),some (ak,.poly P)]):=g;clear g;have Qt:Hid (Mem w dt [some (w.heap.size,.poly q),some (B6,.poly c),some (B9,.poly (Dm o P)),some (B10,.poly (Dm (JP z (Je o)) P))]):=J (Qo.o.take 4);have Qm:=J (show(DV w0 y0 (k+1)).1=Dm o P/\(DV w0 y0 (k+1)).2=Dm (JP z (Je o)) P by rw[DV];unfold K9;rw[Qa.o.1,Qa.o.2.1,Qs.o];exact⟨rfl,rfl⟩);have Wd:T+1<=9223372036854775807:=by have:=Qh.o;omega
      clear Qo;go_wp2_with fail
      go_roundw
      case rel=>exact⟨k+1,xa,xc,O,by rw[Qj.o,Qk.o],by rw[Qh.o];go_num,by rw[Qj.o,Qk.o];exact I,by rw[Qm.o.1,Qm.o.2];exact Qt⟩
      case measure=>simp[intOf];have:=Qh.o;omega
  . obtain rfl:k=N:=O
    have Wa:¬(0:Int)<d1:=by have A:=Wj.o;rw[Qa.o.1]at A;have:=Uw.o;omega
    go_wp2_with(go_at_call 20;refine H1.o.mono ?_;clear H1;rintro e w1 ⟨rfl,hq⟩;clear Qd;have Qd:=(boxed_below bj hq).cell)
    have HF:=J (show XQ true w.heap.size w1 (C xa ll xc) (yL w0 y0 k)/\Bl w w1 by rw[Qa.o.2.2.1];exact⟨XL.o.below hq,(M6.o.below hq).2.2⟩);go_ret;exact⟨_,rfl,HF.o⟩
end M3
end
section
variable{P R a b g p q:List Rat}{K M l n:Nat}{r:Nat->Int}{c:Rat}
theorem iS:∀D:Nat,1<D->∃l,1<l/\l∣D/\∀a:Nat,¬l∣a->Nat.gcd l a=1:=by
 intro D;induction D using Nat.strongRecOn with
 |ind D i=>
  intro hD;by_cases h:∀d,d∣D->d=1\/d=D
  . refine⟨D,hD,Nat.dvd_refl _,λa f=>?_⟩;rcases h _ (Ft D a)with e|e
    . exact e
    . exact absurd (e ▸ C0 D a) f
  . obtain⟨d,g⟩:=Classical.not_forall.1 h;obtain⟨b,c⟩:=Classical.not_imp.1 g;have k:d≠1/\d≠D:=⟨λe=>c (Or.inl e),λe=>c (Or.inr e)⟩;have m:d<=D:=Nat.le_of_dvd O b;have n:d≠0:=λe=>by subst e;have:=Nat.zero_dvd.1 b;omega
    obtain⟨l,l1,l2,j⟩:=i d O O;exact⟨l,l1,Nat.dvd_trans l2 b,j⟩
theorem PX{P:Nat->Prop}(h:∃a,P a):∃a,P a/\∀i,i<a->¬P i:=by
 obtain⟨a,d⟩:=h;induction a using Nat.strongRecOn with
 |ind a f=>
  by_cases h:∃i,i<a/\P i
  . obtain⟨i,b,c⟩:=h;exact f i b c
  . exact⟨a,d,λi e hp=>h ⟨i,e,hp⟩⟩
theorem iT{l:Int}{f:Nat->Int}{a:Nat}:∀n,a<n->(∀i,i<n->i≠a->l∣f i)->l∣Yy n f->l∣f a:=by
 have g:∀n,(∀i,i<n->l∣f i)->l∣Yy n f:=λn=>by
  induction n with
  |zero=>exact λ_=>Int.dvd_zero _
  |succ n c=>exact λh=>by rw[Yy];exact Int.dvd_add (c λi d=>h i O) (h n O)
 intro n;induction n with
 |zero=>intro h;omega
 |succ n c=>
  intro m h hs;rw[Yy]at hs;by_cases e:a=n
  . subst e;have k:=g a λi d=>h i O O;have b:=Int.dvd_sub hs k;rwa[show Yy a f+f a-Yy a f=f a by omega]at b
  . refine c O (λi d=>h i O) ?_;have b:=Int.dvd_sub hs (h n O λj=>e j.symm);rwa[show Yy n f+f n-f n=Yy n f by omega]at b
theorem iU(hl:∀a:Nat,¬l∣a->Nat.gcd l a=1){s:Nat->Int}(p:∀i,n<=i->r i=0)(h:∀k,(l:Int)∣Yy n λi=>if i<=k then r i*s (k-i)else 0)(o:∃a,¬(l:Int)∣r a)(hs:∃b,¬(l:Int)∣s b):False:=by
 obtain⟨a,e,g⟩:=PX o;obtain⟨b,j,m⟩:=PX hs;have f:a<n:=by
  by_cases c:a<n
  . exact c
  . exact absurd (by rw[p a O];exact Int.dvd_zero _) e
 have c:=iT n f (λi q t=>by
  split
  . by_cases d:i<a
    . exact Int.dvd_trans (Classical.not_not.1 (g i d)) (Int.dvd_mul_right _ _)
    . exact Int.dvd_trans (Classical.not_not.1 (m (a+b-i) O)) (Int.dvd_mul_left _ _)
  . exact Int.dvd_zero _) (h (a+b))
 rw[BG O,show a+b-a=b by omega,CQ]at c;exact j (dvd_one c (by rw[Aw];exact hl _ λd=>e (CV.2 d)))
theorem iV{L G:Int}(R:∀i,((cf p i).den:Int)∣L)(S:∀u:Int,(∀i,((cf p i).den:Int)∣u)->L∣u)(P:∀i,G∣(cf p i).num)(Q:∀v:Int,(∀i,v∣(cf p i).num)->v∣G)(N:G≠0)(U:∀i,∃z:Int,cf p i*c=(z:Rat)):
 ∃t:Int,∀i,∃r:Int,cf p i*((L:Rat)/(G:Rat))=(r:Rat)/\cf p i*c=((r*t:Int):Rat):=by
 have y:(c.den:Int)≠0:=by have:=c.den_nz;omega
 have j:∀i,∃z:Int,cf p i*c=(z:Rat)/\(cf p i).num*c.num=z*((cf p i).den*c.den):=λi=>by
  obtain⟨z,b⟩:=U i;refine⟨z,b,?_⟩;have B:c*(c.den:Rat)=(c.num:Rat):=IZ c;have a:cf p i*((cf p i).den:Rat)=((cf p i).num:Rat):=IZ _;have D:(((cf p i).num*c.num:Int):Rat)=((z*(((cf p i).den:Int)*(c.den:Int)):Int):Rat):=by
   rw[AE,AE,AE,AV,AV,<-B,<-a,<-b];grind
  exact Rat.intCast_inj.1 D
 have l:L∣c.num:=S _ λi=>by
  obtain⟨z,_,e⟩:=j i;have g:((cf p i).den:Int)∣(cf p i).num*c.num:=⟨z*c.den,by rw[e,Int.mul_left_comm]⟩;rw[CQ]at g;refine dvd_one g ?_;rw[Aw,CX];exact(cf p i).reduced
 have n:(c.den:Int)∣G:=Q _ λi=>by
  obtain⟨z,_,e⟩:=j i;have g:(c.den:Int)∣(cf p i).num*c.num:=⟨z*(cf p i).den,by rw[e,<-CM,CQ]⟩;refine dvd_one g ?_;rw[Aw,CX];exact c.reduced
 obtain⟨u,l⟩:=l;obtain⟨v,n⟩:=n;refine⟨u*v,λi=>?_⟩;obtain⟨e,s⟩:=R i;obtain⟨m,w⟩:=P i;obtain⟨z,I,b⟩:=j i;have T:((cf p i).den:Int)≠0:=by have:=(cf p i).den_nz;omega
 have A:z=m*e*(u*v):=by
  have K:z*(((cf p i).den:Int)*c.den)=m*e*(u*v)*(((cf p i).den:Int)*c.den):=by
   rw[<-b,w,l,n,s];generalize ((cf p i).den:Int)=d;generalize (c.den:Int)=f;grind
  exact Int.eq_of_mul_eq_mul_right (Co T y) K
 refine⟨m*e,?_,by rw[I,A]⟩;have o:(G:Rat)≠0:=by exact_mod_cast N
 have a:cf p i*((cf p i).den:Rat)=((cf p i).num:Rat):=IZ _;rw[w,AE]at a;have x:(L:Rat)=((cf p i).den:Rat)*(e:Rat):=by rw[s,AE,AV]
 have k:(L:Rat)/(G:Rat)*(G:Rat)=L:=Cb o;have M:(cf p i*((L:Rat)/(G:Rat))-((m*e:Int):Rat))*(G:Rat)=0:=by
  rw[AE];generalize (L:Rat)/(G:Rat)=f at k ⊢;rw[x]at k;generalize ((cf p i).den:Rat)=d at a k;grind
 rcases Fm.1 M with q|q
 . grind
 . exact absurd q o
theorem Tx(hp:Jc p=p)(e:p≠[])(l:∀i,∃z:Int,cf p i*c=(z:Rat)):∃t:Int,∀i,∃r:Int,cf (Yn p) i=(r:Rat)/\cf p i*c=((r*t:Int):Rat):=by
 have b:∀i,p.length<=i->cf p i=0:=λi a=>JZ a;obtain⟨t,g⟩:=iV (p:=p) (L:=(Xm p p.length:Int)) (G:=(Xd p p.length:Int)) (λi=>by
  by_cases a:i<p.length
  . exact Int.natCast_dvd_natCast.2 (PI p _ i a)
  . rw[b i O];exact Int.one_dvd _) (λu j=>CV.2 (PJ p _ (λi=>CV.1 (j i)) _)) (λi=>by
  by_cases a:i<p.length
  . exact CV.2 (PK p _ i a)
  . rw[b i O];exact Int.dvd_zero _) (λv k=>by
  have:v.natAbs∣Xd p p.length:=TU p _ (λi=>FN.2 (k i)) _;exact Int.natAbs_dvd.1 (Int.natCast_dvd_natCast.2 this)) (by have:=Lp hp e;omega) l
 refine⟨t,λi=>?_⟩;obtain⟨r,d,f⟩:=g i;refine⟨r,?_,f⟩;unfold Yn;rw[Yv];rw[AV,AV]at d;exact d
theorem Ty(hp:Jc p=p)(m:p≠[])(o:∀i,cf (Yn p) i=(r i:Rat))(hl:1<l):∃i,¬(l:Int)∣r i:=by
 by_cases h:∃i,¬(l:Int)∣r i
 . exact h
 . exfalso
   have u:∀i,(l:Int)∣r i:=λi=>Classical.not_not.1 λb=>h ⟨i,b⟩;have d:(l:Rat)≠0:=by exact_mod_cast (show l≠0 by omega)
   obtain⟨c,n,e⟩:=Ib hp;have w:c≠0:=λg=>by rw[g]at n;exact absurd n DP
   have f:∀i,cf p i*c=(r i:Rat):=λi=>by rw[<-Yv,<-e,o]
   obtain⟨t,I⟩:=Tx hp m (c:=c/(l:Rat)) (λi=>by
    obtain⟨q,hq⟩:=u i;refine⟨q,?_⟩;have b:c/(l:Rat)*(l:Rat)=c:=Cb d;have j:=f i;rw[hq,AE,AV]at j;have a:(cf p i*(c/(l:Rat))-(q:Rat))*(l:Rat)=0:=by grind
    rcases Fm.1 a with k|k
    . grind
    . exact absurd k d)
   obtain⟨K,b,j⟩:=I (p.length-1);have s:=Jv hp m;have x:K=r (p.length-1):=Rat.intCast_inj.1 (by rw[<-b,o]);have v:r (p.length-1)≠0:=λg=>by
    have a:=f (p.length-1);rw[g]at a;exact Gj s w a
   have a:=f (p.length-1);have k:c/(l:Rat)*(l:Rat)=c:=Cb d;have y:((r (p.length-1):Int):Rat)=(((r (p.length-1))*(t*(l:Int)):Int):Rat):=by
    rw[<-a,AE,AE,AV];rw[x,AE]at j;grind
   have z:=Rat.intCast_inj.1 y;have A:t*(l:Int)=1:=by
    have B:r (p.length-1)*1=r (p.length-1)*(t*(l:Int)):=by rw[FZ];exact z
    exact(Int.eq_of_mul_eq_mul_left v B).symm
   have D:(l:Int)∣1:=⟨t,by rw[CQ];exact A.symm⟩;have L:=Int.le_of_dvd DP D;omega
theorem PY(hp:Jc p=p)(b:p≠[]):∀i,∃r:Int,cf (Yn p) i=(r:Rat):=by
 obtain⟨t,k⟩:=Tx hp b (c:=(Xm p p.length:Rat)) (λi=>by
  have f:(cf p i).den∣Xm p p.length:=by
   by_cases j:i<p.length
   . exact PI p _ i j
   . rw[JZ O];exact Nat.one_dvd _
  obtain⟨e,g⟩:=f;refine⟨(cf p i).num*(e:Int),?_⟩;have a:cf p i*((cf p i).den:Rat)=((cf p i).num:Rat):=IZ _;rw[g,AE,<-a,AV,Rat.natCast_mul];grind)
 intro i;obtain⟨r,d,_⟩:=k i;exact⟨r,d⟩
theorem iW(B:Jc P=P)(u:P≠[])(X:∀i,∃z:Int,cf P i=(z:Rat))(p:Jc g=g)(h:Dv g P):
 ∃H:List Rat,Jc H=H/\P=JB (Yn g) H/\∀i,∃z:Int,cf H i=(z:Rat):=by
 have y:g≠[]:=λe=>u (by
  obtain⟨c,j⟩:=h;exact X2 B λx=>by rw[j,e];simp[ev])
 obtain⟨S,D,T⟩:=Ib p;have L:S≠0:=λm=>by rw[m]at D;exact absurd D DP
 have V:Dv (Yn g) P:=by rw[T];exact h.of_sc L
 obtain⟨H,f,o⟩:=V.some B;have t:H≠[]:=λe=>u (by rw[o,e];exact Xi _);refine⟨H,f,o,?_⟩;obtain⟨c,j,w⟩:=Ib f;have Q:c≠0:=λm=>by rw[m]at j;exact absurd j DP
 obtain⟨r,q⟩:=Classical.axiomOfChoice (PY p y);obtain⟨s,hs⟩:=Classical.axiomOfChoice (PY f t);obtain⟨z,hz⟩:=Classical.axiomOfChoice X;have I:Df c P=JB (Yn g) (Yn H):=by
  refine Ez (JV _ _) (J4 _ _) λx=>?_;have a:ev P x=ev (Yn g) x*ev H x:=by rw[<-Jn,<-o]
  rw[YY,Jn,w,YY,a];grind
 have N:∀k,(z k:Rat)*c=((Yy (Yn g).length (λi=>if i<=k then r i*s (k-i)else 0):Int):Rat):=λk=>by
  rw[<-hz k,<-Yv,I,NR _ _ (Aa _)];refine PG λi _=>?_;split
  . rw[q,hs,AE]
  . rfl
 have v:c*(c.den:Rat)=(c.num:Rat):=IZ c;have K:∀k,z k*c.num=(c.den:Int)*Yy (Yn g).length (λi=>if i<=k then r i*s (k-i)else 0):=λk=>by
  have a:((z k*c.num:Int):Rat)=(((c.den:Int)*Yy (Yn g).length (λi=>if i<=k then r i*s (k-i)else 0):Int):Rat):=by
   rw[AE,AE,<-N k,AV,<-v];grind
  exact Rat.intCast_inj.1 a
 have R:c.num≠0:=λe=>Q (Fl.1 e);have M:c.num.natAbs=1:=by
  by_cases a:c.num.natAbs=1
  . exact a
  . exfalso
    have A:c.num.natAbs≠0:=Int.natAbs_ne_zero.2 R;obtain⟨l,l1,l2,l3⟩:=iS c.num.natAbs O;refine iU l3 (r:=r) (s:=s) (n:=(Yn g).length) (λi W=>?_) (λk=>?_) (Ty p y q l1) (Ty f t hs l1)
    . have b:=q i;rw[JZ W]at b;exact(Rat.intCast_inj.1 (show((0:Int):Rat)=_ from b)).symm
    . have b:(l:Int)∣(c.den:Int)*Yy (Yn g).length (λi=>if i<=k then r i*s (k-i)else 0):=by
       rw[<-K k];exact Int.dvd_trans (CV.2 l2) (Int.dvd_mul_left _ _)
      rw[CQ]at b;refine dvd_one b ?_;rw[Aw,Aw];have d:Nat.gcd l c.den∣Nat.gcd c.num.natAbs c.den:=Nat.dvd_gcd (Nat.dvd_trans (Ft _ _) l2) (C0 _ _);have U:Nat.gcd c.num.natAbs c.den=1:=c.reduced;rw[U]at d;exact Nat.dvd_one.1 d
 intro i;refine⟨s i*(c.den:Int)*c.num,?_⟩;have a:cf H i*c=(s i:Rat):=by rw[<-hs,w,Yv]
 have A:(c.num:Rat)*(c.num:Rat)=1:=by
  rw[<-AE];have b:c.num*c.num=1:=by
   rcases Int.natAbs_eq c.num with e|e<;>(rw[M]at e;rw[e];rfl)
  rw[b];rfl
 rw[AE,AE,AV,<-a];have d:cf H i*c*(c.den:Rat)*(c.num:Rat)=cf H i*(c.num*c.num:Rat):=by rw[Rat.mul_assoc (cf H i),v,Rat.mul_assoc]
 rw[d,A,Rat.mul_one]
def EE:List Int->Int->Int
 |[],_=>0
 |c::t,x=>c+x*EE t x
def cz(g:List Int)(i:Nat):Int:=g[i]?.getD 0
theorem Tz(i:Nat):cz [] i=0:=rfl
theorem NY(c:Int)(t:List Int):cz (c::t) 0=c:=rfl
theorem Ly(c:Int)(t:List Int)(i:Nat):cz (c::t) (i+1)=cz t i:=rfl
theorem PZ{g:List Int}{i:Nat}(h:g.length<=i):cz g i=0:=by unfold cz;rw[At h];rfl
def YH:List Int->Int->List Int × Int
 |[],_=>([],0)
 |c::t,k=>((YH t k).2::(YH t k).1,c+k*(YH t k).2)
theorem Pa(k x:Int):∀g:List Int,EE g x=(x-k)*EE (YH g k).1 x+(YH g k).2:=by
 intro g;induction g with
 |nil=>simp[EE,YH]
 |cons c t a=>rw[EE,YH,a];simp only[EE];grind
theorem T0(k:Int)(g:List Int):(YH g k).2=EE g k:=by
 have h:=Pa k k g;rw[Int.sub_self,Int.zero_mul,Int.zero_add]at h;exact h.symm
theorem Pb(k:Int):∀(g:List Int),cz g 0=(YH g k).2-k*cz (YH g k).1 0/\∀i,cz g (i+1)=cz (YH g k).1 i-k*cz (YH g k).1 (i+1):=by
 intro g;induction g with
 |nil=>exact⟨by simp[Tz,YH],λi=>by simp[Tz,YH]⟩
 |cons c t a=>
  rw[YH];refine⟨by rw[NY,NY];omega,λi=>?_⟩;cases i with
  |zero=>rw[Ly,NY,Ly];exact a.1
  |succ i=>rw[Ly,Ly,Ly];exact a.2 i
theorem UA(k:Int)(g:List Int){m:Nat}(h:∀i,m+1<=i->cz g i=0):∀i,m<=i->cz (YH g k).1 i=0:=by
 have b:∀d i,m<=i->(YH g k).1.length<=i+d->cz (YH g k).1 i=0:=λd=>by
  induction d with
  |zero=>intro i _ c;exact PZ O
  |succ d j=>
   intro i a c;have e:=j (i+1) O O;have f:=(Pb k g).2 i;rw[h (i+1) O,e,Int.mul_zero]at f;omega
 intro i a;exact b (YH g k).1.length i a O
theorem iX:∀(m:Nat) (g:List Int),(∀i,m<=i->cz g i=0)->(∃i,cz g i≠0)->∀b:List Int,b.Nodup->(∀k∈b,EE g k=0)->b.length<m:=by
 intro m;induction m with
 |zero=>intro g h ⟨i,s⟩;exact absurd (h i O) s
 |succ m u=>
  intro g h ⟨t,c⟩ b e o;cases b with
  |nil=>simp
  |cons a b=>
   rw[List.nodup_cons]at e;have q:(YH g a).2=0:=by rw[T0];exact o a Y
   have hq:∃i,cz (YH g a).1 i≠0:=by
    by_cases f:∃i,cz (YH g a).1 i≠0
    . exact f
    . exfalso
      have d:∀i,cz (YH g a).1 i=0:=λi=>Classical.not_not.1 λr=>f ⟨i,r⟩;have j:=Pb a g;cases t with
      |zero=>rw[j.1,q,d]at c;simp at c
      |succ i=>rw[j.2,d,d]at c;simp at c
   have v:=u (YH g a).1 (UA a g h) hq b e.2 (λk p=>by
    have l:=Pa a k g;rw[o k (by simp[p]),q,Int.add_zero]at l;rcases Int.mul_eq_zero.1 l.symm with n|n
    . exact absurd (show k∈b from p) λw=>e.1 (by rwa[show a=k by omega])
    . exact n)
   simp only[An];omega
theorem iY(B:Nat):∀(m:Nat) (g:List Int) (M:Nat),(∀i,m<=i->cz g i=0)->∀b:List Int,b.Nodup->b.length=m->(∀k∈b,(EE g k).natAbs<=M/\k.natAbs<=B)->∀i,(cz g i).natAbs<=M*(2*B+3)^m:=by
 intro m;induction m with
 |zero=>intro g M h b _ _ _ i;rw[h i O];simp
 |succ m v=>
  intro g M h b f hl o i;cases b with
  |nil=>simp at hl
  |cons a b=>
   rw[List.nodup_cons]at f;obtain⟨p,q⟩:=o a Y;have I:((YH g a).2).natAbs<=M:=by rw[T0];exact p
   have hq:=v (YH g a).1 (2*M) (UA a g h) b f.2 (by simpa using hl) (λk u=>by
    obtain⟨n,c⟩:=o k (by simp[u]);refine⟨?_,c⟩;have z:=Pa a k g;have r:(k-a)*EE (YH g a).1 k=EE g k-(YH g a).2:=O
    have s:(k-a).natAbs*(EE (YH g a).1 k).natAbs<=2*M:=by
     rw[<-Cz,r];omega
    have t:0<(k-a).natAbs:=Int.natAbs_pos.2 λe=>f.1 (by rwa[show a=k by omega]);exact As (Fb _ t) s)
   obtain⟨X,d⟩:∃X,2*M*(2*B+3)^m=X:=⟨_,rfl⟩;rw[d]at hq;have A:2*M<=X:=by rw[<-d];exact Cp _ (CN O)
   have D:X+B*X<=M*(2*B+3)^(m+1):=by
    have e:M*(2*B+3)^(m+1)*2=X*(2*B+3):=by rw[<-d,AO];grind
    have w:X*(2*B+3)=2*(B*X)+3*X:=by grind
    omega
   have j:∀y:Int,(a*y).natAbs<=B*y.natAbs:=λy=>by rw[Cz];exact Ak _ q
   have l:=Pb a g;cases i with
   |zero=>
    rw[l.1];have n:=j (cz (YH g a).1 0);have c:B*(cz (YH g a).1 0).natAbs<=B*X:=Aq _ (hq 0);omega
   |succ i=>
    rw[l.2];have n:=j (cz (YH g a).1 (i+1));have c:B*(cz (YH g a).1 (i+1)).natAbs<=B*X:=Aq _ (hq (i+1));have x:=hq i;omega
theorem iZ{B:Nat}:∀(g:List Int) (k:Int),(∀i,(cz g i).natAbs<=M)->k.natAbs<=B->(EE g k).natAbs<=M*(B+1)^g.length:=by
 intro g;induction g with
 |nil=>intro k _ _;simp[EE]
 |cons c t l=>
  intro k h e;have b:=l k (λi=>h (i+1)) e;have j:=h 0;rw[NY]at j;rw[EE,An,AO];obtain⟨a,d⟩:=ex ((B+1)^t.length);rw[d]at b ⊢;have f:1<=a:=by rw[<-d];exact CN O
  have m:(k*EE t k).natAbs<=B*(M*a):=by rw[Cz];exact Cs e b
  have n:M<=M*a:=Cp _ f;have o:M*(a*(B+1))=M*a+B*(M*a):=by grind
  have p:=FP c (k*EE t k);omega
def Lz(g:List Int):List Rat:=g.map λz:Int=>(z:Rat)
theorem Pc(g:List Int)(i:Nat):cf (Lz g) i=(cz g i:Rat):=by
 unfold cf Lz cz;rw[CP];cases g[i]? with
 |none=>rfl
 |some z=>rfl
theorem Pd(k:Int):∀g:List Int,ev (Lz g) (k:Rat)=(EE g k:Rat):=by
 intro g;induction g with
 |nil=>rfl
 |cons c t a=>
  show(c:Rat)+(k:Rat)*ev (Lz t) (k:Rat)=_;rw[a,EE,FX,AE]
theorem Pe(h:∀i,∃z:Int,cf p i=(z:Rat)):∃g:List Int,p=Lz g/\g.length=p.length:=by
 induction p with
 |nil=>exact⟨[],rfl,rfl⟩
 |cons c t e=>
  obtain⟨g,b,d⟩:=e (λi=>by have:=h (i+1);rwa[Yp]at this);obtain⟨z,a⟩:=h 0;rw[Y5]at a;exact⟨z::g,by rw[a,b];rfl,by simp[d]⟩
theorem nodup_range(n:Nat):((List.range n).map λi:Nat=>(i:Int)).Nodup:=by
 refine List.Pairwise.map _ ?_ (List.nodup_range (n:=n));intro a b h e;exact h O
theorem jA(y:Jc P=P)(f:P≠[])(hl:P.length<=n+1)(t:∀i,∃z:Int,z.natAbs<=M/\cf P i=(z:Rat))(A:Jc g=g)(h:Dv g P):
 ∀i,∃z:Int,z.natAbs<=M*(2*n+1)^(n+1)*(2*(2*n)+3)^(n+1)/\cf (Yn g) i=(z:Rat):=by
 obtain⟨H,U,j,V⟩:=iW y f (λi=>by obtain⟨z,_,c⟩:=t i;exact⟨z,c⟩) A h;have T:g≠[]:=λe=>f (by rw[j,e];rfl);have u:H≠[]:=λe=>f (by rw[j,e];exact Xi _);obtain⟨a,o,lp⟩:=Pe (p:=P) (λi=>by obtain⟨z,_,c⟩:=t i;exact⟨z,c⟩);obtain⟨m,x,lg⟩:=Pe (PY A T);obtain⟨W,Q,lh⟩:=Pe V;have af:(Yn g).length<=n+1:=by
  have b:=JL (Iv g) U (λe=>f (by rw[j,e];rfl)) u;rw[<-j]at b;have c:0<H.length:=Ah.2 u;omega
 have L:∀i,(cz a i).natAbs<=M:=λi=>by
  obtain⟨z,b,c⟩:=t i;rw[o,Pc]at c;rwa[Rat.intCast_inj.1 c]
 have v:∀k:Int,EE a k=EE m k*EE W k:=λk=>by
  have b:ev P (k:Rat)=ev (Yn g) (k:Rat)*ev H (k:Rat):=by rw[<-Jn,<-j]
  rw[o,x,Q,Pd,Pd,Pd,<-AE]at b;exact Rat.intCast_inj.1 b
 obtain⟨R,q⟩:=ex ((List.range (2*n+1)).map λi:Nat=>(i:Int));have w:R.Nodup:=by rw[<-q];exact nodup_range _
 have ad:R.length=2*n+1:=by rw[<-q];simp
 have I:∀k∈R,k.natAbs<=2*n:=λk d=>by
  rw[<-q]at d;obtain⟨i,s,rfl⟩:=FD.1 d;have:=List.mem_range.1 s;omega
 have ae:(R.filter λk=>EE a k==0).length<n+1:=by
  refine iX (n+1) a (λi s=>PZ O) ?_ _ (w.filter _) (λk d=>by
   have:=(FB.1 d).2;simpa using this)
  refine⟨P.length-1,λe=>Jv y f ?_⟩;have b:=Pc a (P.length-1);rw[<-o,e]at b;exact b
 have ah:(R.filter λk=>EE a k==0).length+(R.filter λk=>!(EE a k==0)).length=R.length:=by
  rw[<-List.countP_eq_length_filter,<-List.countP_eq_length_filter];have b:=List.length_eq_countP_add_countP (l:=R) λk=>EE a k==0;have c:List.countP (λk=>!(EE a k==0)) R=List.countP (λk=>decide ¬((EE a k==0)=true)) R:=by congr 1;funext k;cases(EE a k==0)<;>rfl
  omega
 obtain⟨S,r⟩:=ex ((R.filter λk=>!(EE a k==0)).take (n+1));have D:S.length=n+1:=by rw[<-r,Am];omega
 have K:S.Nodup:=by rw[<-r];exact List.Sublist.nodup (List.take_sublist _ _) (w.filter _)
 have N:∀k∈S,EE a k≠0/\k.natAbs<=2*n:=λk d=>by
  rw[<-r]at d;have b:=FB.1 (FE d);refine⟨?_,I k b.1⟩;have:=b.2;simpa using this
 have B:=iY (2*n) (n+1) m (M*(2*n+1)^(n+1)) (λi s=>PZ O) S K D (λk d=>by
  obtain⟨b,c⟩:=N k d;refine⟨?_,c⟩;have X:=iZ a k L c;have h4:M*(2*n+1)^a.length<=M*(2*n+1)^(n+1):=Aq _ (Ax O O);have h5:(EE m k).natAbs<=(EE a k).natAbs:=by
   rw[v k,Cz];refine Cp _ (Int.natAbs_pos.2 λe=>b ?_);rw[v k,e,Int.mul_zero]
  omega)
 intro i;exact⟨cz m i,B i,by rw[x,Pc]⟩
theorem Ln.mul{N:Nat}(hp:Ln K p)(hq:Ln N q)(hl:p.length<=1000000):Ln (K+N+1) (JB p q):=by
 obtain⟨c,l,b⟩:=hp;obtain⟨d,m,a⟩:=hq;obtain⟨z,b⟩:=Classical.axiomOfChoice b;obtain⟨y,a⟩:=Classical.axiomOfChoice a;refine⟨c*d,Gj l m,λk=>⟨Yy p.length λi=>if i<=k then z i*y (k-i)else 0,?_,?_⟩⟩
 . have e:(Yy p.length λi=>if i<=k then z i*y (k-i)else 0).natAbs<=p.length*(Z^K*Z^N):=NN λi _=>by
    split
    . rw[Cz];have g:=(b i).1;have j:=(a (k-i)).1;unfold Sm at g j;exact Cs O O
    . simp
   unfold Sm;rw[AO,CG];have f:0<Z^K*Z^N:=FY (CN IG) (CN IG);refine Ck e ?_;rw[Au];exact(Nat.mul_lt_mul_left f).2 uo
 . rw[NR p q (Aa _)];have e:∀n,sumN n (λi=>if i<=k then cf p i*cf q (k-i)else 0)*(c*d)=((Yy n (λi=>if i<=k then z i*y (k-i)else 0):Int):Rat):=λn=>by
    induction n with
    |zero=>simp[sumN,Yy,Rat.zero_mul]
    |succ n o=>
     rw[sumN,Yy,FX,<-o];split
     . rw[AE,<-(b n).2,<-(a (k-n)).2];grind
     . rw[show((0:Int):Rat)=0 from rfl];grind
   exact e _
theorem Ln.slope(h:Ln K p)(hl:p.length<=1000000):Ln (K+1) (Je p):=by
 obtain⟨c,d,e⟩:=h;refine⟨c,d,λi=>?_⟩;obtain⟨z,a,b⟩:=e (i+1);rw[Xs];by_cases f:i+1<p.length
 . refine⟨z*((i+1:Nat):Int),a.mul (by unfold Sm Z;rw[Aw];omega),?_⟩;rw[AE,<-b];grind
 . exact⟨0,Sm.zero _,by rw[JZ O,Cu,Cu];rfl⟩
theorem Dv.lnN{e:Nat}(b:Jc P=P)(s:P≠[])(hl:P.length<=n+1)(N:(2*n+1)^(n+1)*(2*(2*n)+3)^(n+1)<=Z^e)(Q:Ln K P)(r:Jc g=g)(h:Dv g P):Ln (K+e) g:=by
 obtain⟨c,p,o⟩:=Ib b;have v:c≠0:=λf=>by rw[f]at p;exact absurd p DP
 have D:Yn P≠[]:=by rw[o];exact K3 v b s
 have I:Dv g (Yn P):=by rw[o];exact h.sc c
 have x:=K5 b Q;have y:=jA (n:=n) (M:=Z^K-1) (Iv P) D (by rw[XC b];omega) (λi=>by
  obtain⟨z,j,k⟩:=x i;unfold Sm at j;exact⟨z,O,k⟩) r I
 have A:Ei (K+e) (Yn g):=λi=>by
  obtain⟨z,j,k⟩:=y i;refine⟨z,?_,k⟩;unfold Sm;have S:0<Z^K:=CN IG;have t:0<Z^e:=CN IG;have a:(Z^K-1)*((2*n+1)^(n+1)*(2*(2*n)+3)^(n+1))<=(Z^K-1)*Z^e:=Aq _ N;rw[<-Ay]at a;have l:(Z^K-1)*Z^e<Z^K*Z^e:=(Nat.mul_lt_mul_right t).2 O;rw[CG];exact Ck j (Ck a l)
 obtain⟨m,q,w⟩:=Ib r;have u:m≠0:=λf=>by rw[f]at q;exact absurd q DP
 have a:=A.ln;rw[w]at a;obtain⟨d,L,R⟩:=a;refine⟨m*d,Gj u L,λi=>?_⟩;obtain⟨z,l,B⟩:=R i;exact⟨z,l,by rw[<-B,Yv];grind⟩
theorem NZ:(2*24+1)^(24+1)*(2*(2*24)+3)^(24+1)<=Z^5:=by unfold Z;decide
theorem jB:(2*47+1)^(47+1)*(2*(2*47)+3)^(47+1)<=Z^11:=by unfold Z;decide
theorem Dv.len(g:Jc a=a)(i:Jc b=b)(b0:b≠[])(h:Dv a b):a.length<=b.length/\a≠[]:=by
 obtain⟨c,j,e⟩:=h.some i;have f:a≠[]:=λd=>b0 (by rw[e,d];rfl);have c0:c≠[]:=λd=>b0 (by rw[e,d];exact Xi _);have l:=JL g j f c0;rw[<-e]at l;have:0<c.length:=Ah.2 c0;exact⟨O,f⟩
theorem UB(d:Jc a=a)(e:Jc b=b)(c:a≠[])(b0:b≠[]):cf (JB a b) ((JB a b).length-1)=cf a (a.length-1)*cf b (b.length-1):=by
 have l:=JL d e c b0;have f:0<a.length:=Ah.2 c;have g:0<b.length:=Ah.2 b0;rw[l,show a.length+b.length-1-1=(a.length-1)+(b.length-1)by omega];unfold JB;rw[JX];exact Ni a b (a.length-1) (b.length-1) O O
theorem jC(c:Jc R=R)(hl:1<R.length):(Je R).length=R.length-1/\cf (Je R) ((Je R).length-1)=cf R (R.length-1)*(((R.length-1:Nat):Int):Rat):=by
 have R0:R≠[]:=λe=>by rw[e]at hl;simp at hl
 have d:=YR R0;have b:cf (Je R) (R.length-2)≠0:=by
  rw[Xs,show R.length-2+1=R.length-1 by omega];exact Gj (Jv c R0) (by
   intro e;have:((R.length-1:Nat):Int)=0:=by exact_mod_cast e
   omega)
 have f:=TP b;have a:(Je R).length=R.length-1:=O
 refine⟨a,?_⟩;rw[a,Xs,show R.length-1-1+1=R.length-1 by omega]
theorem UC(tq:Jc q=q)(q0:q≠[])(a:Jt q=q):cf q (q.length-1)=1:=by
 have:=Lo tq q0;rwa[a]at this
theorem UD{w y:List Rat}(tq:Jc q=q)(q0:q≠[])(lq:q.length<=25)(l:Ln K q)(tR:Jc R=R)(Q:Jt R=R)(tw:Jc w=w)(mw:Jt w=w)(ty:Jc y=y)(g:Dv R q)(j:Dv w q)
(N:∀x,ev y x*ev R x=ev w x*ev (Je R) x):∃D:Int,D≠0/\Sm (2*K+24) D/\EF D (2*K+24) y:=by
 by_cases a:y=[]
 . subst a;exact PO O
 . obtain⟨V,R0⟩:=g.len tR tq q0;obtain⟨X,w0⟩:=j.len tw tq q0;have c:JB y R=JB w (Je R):=Ez (J4 _ _) (J4 _ _) λx=>by rw[Jn,Jn,N]
   have m:JB w (Je R)≠[]:=by rw[<-c];exact iG ty tR a R0
   have f:Je R≠[]:=λe=>m (by rw[e];exact Xi _);have I:1<R.length:=by
    have S:0<(Je R).length:=Ah.2 f;have:=YR R0;omega
   obtain⟨W,P⟩:=jC tR I;have A:Ln (K+5) R:=g.lnN (n:=24) tq q0 O NZ l tR;have v:Ln (K+5) w:=j.lnN (n:=24) tq q0 O NZ l tw;have u:=v.mul (A.slope O) O;have U:=JL tw (JE R) w0 f;have z:Dv y (JB w (Je R)):=⟨R,λx=>by rw[<-c,Jn]⟩;have B:=z.lnN (n:=47) (e:=11) (J4 _ _) m O jB u ty;have b:=UB ty tR a R0;have t:=UB tw (JE R) w0 f;rw[c]at b;rw[t,P,UC tw w0 mw,UC tR R0 Q]at b;have s:cf y (y.length-1)=(((R.length-1:Nat):Int):Rat):=by
    rw[FF,FF,Rat.mul_one]at b;exact b.symm
   obtain⟨E,o,p,r⟩:=PL ty a B;refine⟨E,o,p.mono O,λi=>?_⟩;have L:cf y i=cf (Jt y) i*(((R.length-1:Nat):Int):Rat):=by
    unfold Jt;rw[Yv,<-s];have T:(1/cf y (y.length-1))*cf y (y.length-1)=1:=Cb (Jv ty a);grind
   rw[L];have k:=(r i).mul (E:=1) (M:=1) (d:=(((R.length-1:Nat):Int):Rat)) ⟨((R.length-1:Nat):Int),by rw[CF,show((1:Int):Rat)=1 from rfl];grind,by unfold Sm Z;rw[Aw];omega⟩;rw[FZ]at k;exact k.mono O
def Ej(q w y:List Rat):Nat->List Rat
 |0=>q
 |n+1=>JM (Ej q w y n) (DV w y n).1
theorem Gy(h:q≠[]):Dm p q=JM p q:=BC h
section
variable {q w y:List Rat}
theorem Ih(h:Yun q w y)(m:Jt q=q):∀n,Yun (Ej q w y n) (DV w y n).1 (DV w y n).2/\Dv (Ej q w y n) q/\Jt (Ej q w y n)=Ej q w y n/\Dv (DV w y n).1 q:=by
 intro n;induction n with
 |zero=>exact⟨h,Dv.refl _,m,h.dv⟩
 |succ n l=>
  obtain⟨a,g,i,j⟩:=l;obtain⟨_,_,o,p,_,s⟩:=a.step;have c:JC (DV w y n).1 (JP (DV w y n).2 (Je (DV w y n).1))≠[]:=XT a.tw (Ys _ _) (Or.inl a.w0);have e:(DV w y (n+1)).1=JM (DV w y n).1 (JC (DV w y n).1 (JP (DV w y n).2 (Je (DV w y n).1))):=by rw[DV];unfold K9;exact Gy c
  have f:(DV w y (n+1)).2=JM (JP (DV w y n).2 (Je (DV w y n).1)) (JC (DV w y n).1 (JP (DV w y n).2 (Je (DV w y n).1))):=by rw[DV];unfold K9;exact Gy c
  have k:Dv (JM (Ej q w y n) (DV w y n).1) (Ej q w y n):=by
   refine⟨(DV w y n).1,λx=>?_⟩;have b:=Bv (λr=>ev r x) p;simp only[Jn]at b;rw[b];exact FJ _ _
  have d:Dv (JM (DV w y n).1 (JC (DV w y n).1 (JP (DV w y n).2 (Je (DV w y n).1)))) (DV w y n).1:=by
   refine⟨JC (DV w y n).1 (JP (DV w y n).2 (Je (DV w y n).1)),λx=>?_⟩;have b:=Bv (λr=>ev r x) s;simp only[Jn]at b;exact b.trans (FJ _ _)
  rw[e,f];exact⟨o,k.trans g,(Lw a.tR a.R0 i a.tw a.mw a.dv).1,d.trans j⟩
theorem UE(h:Yun q w y)(c:Jt q=q)(n:Nat)(f:1<(DV w y n).1.length):(Ej q w y (n+1)).length<(Ej q w y n).length:=by
 obtain⟨a,_,e,_⟩:=Ih h c n;obtain⟨_,_,b,d,_,_⟩:=a.step;have l:=JL a.tw (Yw (Ej q w y n) (DV w y n).1) a.w0 b.R0;rw[<-d]at l;rw[Ej];have:0<(JM (Ej q w y n) (DV w y n).1).length:=Ah.2 b.R0;omega
theorem jD(h:Yun q w y)(f:Jt q=q):∃N,N<=q.length/\(DV w y N).1.length<=1/\∀n,n<N->1<(DV w y n).1.length:=by
 have l:∃N,(DV w y N).1.length<=1:=by
  by_cases b:∃N,(DV w y N).1.length<=1
  . exact b
  . exfalso
    have g:∀n,1<(DV w y n).1.length:=λn=>by
     by_cases i:1<(DV w y n).1.length
     . exact i
     . exact absurd ⟨n,O⟩ b
    have a:∀n,(Ej q w y n).length+n<=q.length:=λn=>by
     induction n with
     |zero=>exact Aa _
     |succ n e=>have:=UE h f n (g n);omega
    have j:=a (q.length+1);omega
 obtain⟨N,k,c⟩:=PX l;have a:∀n,n<=N->(Ej q w y n).length+n<=q.length:=λn=>by
  induction n with
  |zero=>exact λ_=>Aa _
  |succ n e=>
   intro d;have j:=c n O;have:=UE h f n O;have:=e O;omega
 exact⟨N,by have:=a N (Aa _);omega,k,λn d=>by have:=c n d;omega⟩
end
theorem jE{p:List Rat}(tp:Jc p=p)(hl:1<p.length)(af:p.length<=25)(cp:Cd 75 p):∃N,PtOk 174 8926 N p/\N<=25:=by
 obtain⟨q,hq⟩:=ex (Jt p);have tq:Jc q=q:=by rw[<-hq];exact YF _
 have k:Jt q=q:=by rw[<-hq];exact Iu tp
 have lq:q.length=p.length:=by rw[<-hq];exact Yg tp
 have q0:q≠[]:=λe=>by rw[e]at lq;simp at lq;omega
 have cq:Cd 75 q:=by rw[<-hq];exact cp.mon tp
 have ah:=YR q0;have cs:Cd 76 (Je q):=by
  obtain⟨D,d1,o,r⟩:=cq;refine⟨D,d1,o.mono O,λi=>?_⟩;rw[Xs];by_cases hi:i+1<q.length
  . have c:=(r (i+1)).mul (E:=1) (M:=1) (d:=(((i+1:Nat):Int):Rat)) ⟨((i+1:Nat):Int),by rw[CF,show((1:Int):Rat)=1 from rfl];grind,by unfold Sm Z;rw[Aw];omega⟩;rwa[FZ]at c
  . rw[JZ O,Cu];exact CD.zero _ _
 have I:∀a b:List Rat,Jc a=a->Jc b=b->Cd 174 a->Cd 174 b->a.length<=25->b.length<=25->M3.ChOk 174 a b/\De 174 a b<=8926:=λa b ta tb ca cb la lb=>by
  have c:De 174 a b<=(174+1)*(25+25+1):=Aq _ O;have s:(max a.length b.length+2)*(De 174 a b+1)<=(25+2)*((174+1)*(25+25+1)+1):=Cs O O;exact⟨⟨ta,tb,ca,cb,O,O⟩,O⟩
 have v:∀n:Nat,n<=25->2*((n+3)*(8926+1))<=1000000:=λn T=>by
  have:(n+3)*(8926+1)<=(25+3)*(8926+1):=Ak _ O;omega
 have K:=XT tq (JE q) (Or.inl q0);obtain⟨w,z⟩:=ex (Dm q (JC q (Je q)));obtain⟨y,A⟩:=ex (Dm (Je q) (JC q (Je q)));have u:Yun q w y:=by
  rw[<-z,<-A,Gy K,Gy K];exact Yun.start tq q0 k
 obtain⟨N,hN,ad,ae⟩:=jD u k;refine⟨N,?_,O⟩;have c0:=I q (Je q) tq (JE _) (cq.mono O) (cs.mono O) O O;refine⟨tp,cp.mono O,by rw[hq];exact c0.1,by rw[hq];exact c0.2,v _ O,hl,O,?_,by rw[hq,z,A];exact ad⟩;rw[hq,z,A];intro n T;refine⟨ae n T,?_⟩;obtain⟨c,s,Q,g⟩:=Ih u k n;obtain⟨s1,s2,f,s4,B,s6⟩:=c.step;obtain⟨k1,U,V,k4⟩:=Ih u k (n+1);obtain⟨a,j⟩:=ex ((DV w y n).1);obtain⟨b,S⟩:=ex ((DV w y n).2);obtain⟨R,t⟩:=ex (Ej q w y n);have Qf:Ej q w y (n+1)=JM R a:=by rw[Ej,t,j]
 rw[Qf]at U V;rw[j,S,t]at c f B;rw[t]at s Q;rw[j]at g;rw[j,S];have la:=(g.len c.tw tq q0).1;have l:=cq.ln;have m:Cd 80 a:=by
  have h5:=g.lnN (n:=24) tq q0 O NZ l c.tw;have:=KX c.tw (h5.mono (L:=80) O) O;rwa[c.mw]at this
 have Qe:=UD tq q0 O l c.tR Q c.tw c.mw c.ty s g c.eq;have cB:Cd 174 b:=(show Cd (2*75+24) b from Qe).mono O;have Qd:=UD tq q0 O l f.tR V c.tw c.mw (Ys _ _) U g B;have P:Cd 174 (JP b (Je a)):=(show Cd (2*75+24) (JP b (Je a))from Qd).mono O;have cS:Cd 81 (Je a):=by
  obtain⟨D,d1,o,r⟩:=m;refine⟨D,d1,o.mono O,λi=>?_⟩;rw[Xs];by_cases hi:i+1<a.length
  . have h6:=(r (i+1)).mul (E:=1) (M:=1) (d:=(((i+1:Nat):Int):Rat)) ⟨((i+1:Nat):Int),by rw[CF,show((1:Int):Rat)=1 from rfl];grind,by unfold Sm Z;rw[Aw];omega⟩;rwa[FZ]at h6
  . rw[JZ O,Cu];exact CD.zero _ _
 have W:(JP b (Je a)).length<=25:=by
  by_cases X:JP b (Je a)=[]
  . rw[X];simp
  . have e1:JB (JP b (Je a)) (JM R a)=JB a (Je (JM R a)):=Ez (J4 _ _) (J4 _ _) λx=>by rw[Jn,Jn,B]
    have l1:=JL (Ys b (Je a)) f.tR X f.R0;have l2:=fN a (Je (JM R a));have l3:=YR f.R0;rw[e1]at l1;have:0<(JM R a).length:=Ah.2 f.R0;omega
 have c1:=I a (JP b (Je a)) c.tw (Ys _ _) (m.mono O) P O W;exact⟨c1.1,c.ty,m.mono O,cS.mono O,cB.mono O,P.mono O,c1.2,v _ O,v _ W⟩
end
theorem UF(c:Rat)(p:List Rat){q:List Rat}(hq:Jc q=q)(q0:q≠[]):JM (Df c p) q=Df c (JM p q):=by
 have h:=(Ll (c:=c) (d:=1) DP p q hq q0).1;rw[IY hq,show c/1=c by grind]at h;exact h
def Ek(p w y:List Rat):Nat->List Rat
 |0=>p
 |n+1=>JM (Ek p w y n) (DV w y n).1
section
variable {p q w y:List Rat}
variable{c:Rat}
theorem Pf(h:Yun q w y)(d:Jt q=q)(e:p=Df c q):∀n,Ek p w y n=Df c (Ej q w y n):=by
 intro n;induction n with
 |zero=>exact e
 |succ n b=>
  obtain⟨a,_⟩:=Ih h d n;rw[Ek,b,Ej,UF c _ a.tw a.w0]
theorem UG(h:Yun q w y)(c:Jt q=q)(n:Nat):(DV w y (n+1)).1=JM (DV w y n).1 (yP (DV w y n)):=by
 obtain⟨a,_⟩:=Ih h c n;have b:JC (DV w y n).1 (JP (DV w y n).2 (Je (DV w y n).1))≠[]:=XT a.tw (Ys _ _) (Or.inl a.w0);rw[DV];unfold K9 yP;exact Gy b
theorem jF(k:c≠0)(h:Yun q w y)(b:Jt q=q)(e:p=Df c q)(n:Nat):
 JC (DV w y n).1 (Ek p w y (n+1))=(DV w y (n+1)).1/\JM (DV w y n).1 (DV w y (n+1)).1=yP (DV w y n)/\Jt (yP (DV w y n))=yP (DV w y n):=by
 obtain⟨a,_⟩:=Ih h b n;obtain⟨i,l,_⟩:=a.step;have f:=UG h b n;have j:JC (DV w y n).1 (Ek p w y (n+1))=JC (DV w y n).1 (JM (Ej q w y n) (DV w y n).1):=by
  rw[Pf h b e (n+1),Ej];have g:=K4 (c:=1) (d:=c) DP k a.tw (Yw (Ej q w y n) (DV w y n).1);rw[IY a.tw]at g;exact g
 refine⟨by rw[j,f];exact i,?_,?_⟩
 . rw[f];unfold yP;rw[<-i];exact l
 . exact Xa a.tw (Ys _ _)
end
variable{p:List Rat}{N:Nat}
theorem UH(tp:Jc p=p)(a:p≠[]):cf p (p.length-1)≠0/\p=Df (cf p (p.length-1)) (Jt p):=by
 have h:=Jv tp a;refine⟨h,?_⟩;unfold Jt;rw[NO,show 1/cf p (p.length-1)*cf p (p.length-1)=1 by grind,IY tp]
theorem jG(k:Rat)(p:List Rat):Je (Df k p)=Df k (Je p):=by
 rw[<-JE (Df k p),<-JV k (Je p)];refine YG λi=>?_;rw[Xs,Yv,Yv,Xs];grind
theorem jH(tp:Jc p=p)(c:p≠[]):GC p=Dm (Jt p) (JC (Jt p) (Je (Jt p))):=by
 obtain⟨i,_⟩:=UH tp c;obtain⟨k,e⟩:∃k,1/cf p (p.length-1)=k:=⟨_,rfl⟩;have b:k≠0:=by rw[<-e];exact Hl i
 have d:Jt p=Df k p:=by unfold Jt;rw[e]
 have tq:Jc (Jt p)=Jt p:=YF _;have q0:Jt p≠[]:=fl tp c;have g:JC (Jt p) (Je (Jt p))=JC p (Je p):=by
  rw[d,jG];exact K4 b b tp (JE _)
 have a:JC p (Je p)≠[]:=XT tp (JE _) (Or.inl c);have j:=(XK tq (JE (Jt p))).1;have f:=(Lw tq q0 (Iu tp) (J1 _ _) (Xa tq (JE (Jt p))) j).1;rw[g]at f ⊢;rw[Gy a];unfold GC;rw[Gy a,<-f,d,UF k p (J1 _ _) a];exact(Lm b (Yw _ _)).symm
theorem L0{q g:List Rat}(tq:Jc q=q)(q0:q≠[])(lq:q.length<=25)(cq:Cd 75 q)(a:Jc g=g)(c:Jt g=g)(h:Dv g q):Cd 80 g:=by
 have b:=h.lnN (n:=24) tq q0 O NZ cq.ln a;have:=KX a (b.mono (L:=80) O) O;rwa[c]at this
theorem Cd.scale{A B:Nat}{r:List Rat}(hp:Cd A p)(f:Cd B r)(i:Nat):Cd (A+B) (Df (cf r i) p):=by
 obtain⟨D,d1,a,b⟩:=hp;obtain⟨E,c,d,e⟩:=f;exact⟨D*E,Co d1 c,a.mul d,λj=>by rw[Yv];exact(b j).mul (e i)⟩
theorem UI{M:Nat}(h:Cd M p)(hl:p.length<=25):Cd (M+1) (Je p):=by
 obtain⟨D,d1,a,b⟩:=h;refine⟨D,d1,a.mono O,λi=>?_⟩;rw[Xs];by_cases e:i+1<p.length
 . have c:=(b (i+1)).mul (E:=1) (M:=1) (d:=(((i+1:Nat):Int):Rat)) ⟨((i+1:Nat):Int),by rw[CF,show((1:Int):Rat)=1 from rfl];grind,by unfold Sm Z;rw[Aw];omega⟩;rwa[FZ]at c
 . rw[JZ O,Cu];exact CD.zero _ _
structure StR(K M:Nat)(r f:List Rat):Prop where
 tr:Jc r=r
 cr:Cd M r
 tf:Jc f=f
 f0:f≠[]
 mf:Jt f=f
 ca:Cd M f
 lr:(r.length+3)*(M+1)<=1000000
 lf:(f.length+3)*(M+1)<=1000000
 r1:r.length<=1000
 f1:f.length<=1000
 ch:M3.ChOk K f (JM r f)
structure ReOk(K M N:Nat)(p w y:List Rat):Prop where
 fr:M3.FrOk K p
 w0:GC p=w
 nN:N<=1000000
 st:∀n,n<N->1<(DV w y n).1.length/\StR K M (Ek p w y n) (DV w y n).1/\Cd M (DV w y (n+1)).1/\Jc (DV w y (n+1)).1=(DV w y (n+1)).1/\(DV w y (n+1)).1≠[]/\Jt (DV w y (n+1)).1=(DV w y (n+1)).1/\
  JC (DV w y n).1 (Ek p w y (n+1))=(DV w y (n+1)).1/\JM (DV w y n).1 (DV w y (n+1)).1=yP (DV w y n)/\Jt (yP (DV w y n))=yP (DV w y n)/\
  Jc (yP (DV w y n))=yP (DV w y n)/\Cd M (yP (DV w y n))/\(yP (DV w y n)).length<=25
 en:(DV w y N).1.length<=1
theorem jI{w y:List Rat}(tp:Jc p=p)(hl:1<p.length)(M:p.length<=25)(cp:Cd 75 p)(k:Dm (Jt p) (JC (Jt p) (Je (Jt p)))=w)(t:Dm (Je (Jt p)) (JC (Jt p) (Je (Jt p)))=y)
(r:PtOk 174 8926 N p):ReOk 174 8926 N p w y:=by
 have u:p≠[]:=λe=>by rw[e]at hl;simp at hl
 obtain⟨s,i⟩:=UH tp u;obtain⟨q,hq⟩:=ex (Jt p);have tq:Jc q=q:=by rw[<-hq];exact YF _
 have f:Jt q=q:=by rw[<-hq];exact Iu tp
 have lq:q.length=p.length:=by rw[<-hq];exact Yg tp
 have q0:q≠[]:=λe=>by rw[e]at lq;simp at lq;omega
 have cq:Cd 75 q:=by rw[<-hq];exact cp.mon tp
 have x:∀a b:List Rat,Jc a=a->Jc b=b->Cd 174 a->Cd 174 b->a.length<=25->b.length<=25->M3.ChOk 174 a b/\De 174 a b+1<=8926:=λa b ta tb ca cb la lb=>by
  have c:De 174 a b<=(174+1)*(25+25+1):=Aq _ O;have o:(max a.length b.length+2)*(De 174 a b+1)<=(25+2)*((174+1)*(25+25+1)+1):=Cs O O;exact⟨⟨ta,tb,ca,cb,O,O⟩,O⟩
 have L:∀n:Nat,n<=25->(n+3)*(8926+1)<=1000000:=λn P=>by
  have:(n+3)*(8926+1)<=(25+3)*(8926+1):=Ak _ O;omega
 have c0:=x p (Je p) tp (JE _) (cp.mono O) ((UI cp M).mono O) M (by have:=YR u;omega);have D:=XT tq (JE q) (Or.inl q0);have X:=k;have z:=r.st;have B:=r.en;rw[k,t]at z B;rw[hq]at k t i;have g:Yun q w y:=by
  rw[<-k,<-t,Gy D,Gy D];exact Yun.start tq q0 f
 refine⟨⟨c0.1,?_⟩,(jH tp u).trans X,r.nN,λn P=>?_,B⟩
 . have:(p.length+3)*(De 174 p (Je p)+1)<=(25+3)*8926:=Cs O c0.2;omega
 . obtain⟨c,o,h3,j⟩:=Ih g f n;obtain⟨d,Q,k3,k4⟩:=Ih g f (n+1);obtain⟨a1,a2,I⟩:=jF s g f i n;have A:=L0 tq q0 O cq c.tw c.mw j;have U:=L0 tq q0 O cq d.tw d.mw k4;have S:=L0 tq q0 O cq c.tR h3 o;have T:=L0 tq q0 O cq d.tR k3 Q;have l:=Pf g f i n;have m:=Pf g f i (n+1);have la:=(j.len c.tw tq q0).1;have lr:=(o.len c.tR tq q0).1;have ad:=(Q.len d.tR tq q0).1;have cR:Cd 155 (Ek p w y n):=by rw[l];exact S.scale cp _
   have W:Cd 155 (Ek p w y (n+1)):=by rw[m];exact T.scale cp _
   have tR:Jc (Ek p w y n)=Ek p w y n:=by rw[l];exact JV _ _
   have V:Jc (Ek p w y (n+1))=Ek p w y (n+1):=by rw[m];exact JV _ _
   have lR:(Ek p w y n).length<=25:=by rw[l,Ym s c.tR];omega
   have R:(Ek p w y (n+1)).length<=25:=by rw[m,Ym s d.tR];omega
   have v:Jc (yP (DV w y n))=yP (DV w y n):=J1 _ _;have K:Dv (yP (DV w y n)) (DV w y n).1:=(XK c.tw (Ys _ _)).1;have cP:=L0 tq q0 O cq v I (K.trans j);have lP:=((K.trans j).len v tq q0).1;refine⟨(z n P).1,⟨tR,cR.mono O,c.tw,c.w0,c.mw,A.mono O,L _ lR,L _ O,O,O,?_⟩,U.mono O,d.tw,d.w0,d.mw,a1,a2,I,v,cP.mono O,O⟩;exact(x _ _ c.tw V (A.mono O) (W.mono O) O R).1
theorem jJ(tp:Jc p=p)(hl:p.length=1)(cp:Cd 75 p):ReOk 174 8926 0 p (GC p) []:=by
 have a:p≠[]:=λe=>by rw[e]at hl;simp at hl
 have f:=YR a;have g:De 174 p (Je p)<=(174+1)*(25+25+1):=Aq _ O;have i:(max p.length (Je p).length+2)*(De 174 p (Je p)+1)<=(25+2)*((174+1)*(25+25+1)+1):=Cs O O;have j:(p.length+3)*(De 174 p (Je p)+1)<=(25+3)*8926:=Cs O O;refine⟨⟨⟨tp,JE _,cp.mono O,(UI cp O).mono O,O,O⟩,O⟩,rfl,O,λn d=>absurd d O,?_⟩;show(GC p).length<=1;have b:JC p (Je p)≠[]:=XT tp (JE _) (Or.inl a);have c:=(XK tp (JE p)).1;have e:=(Y4 (J1 _ _) b c).2;have hq:Dv (JM p (JC p (Je p))) p:=⟨JC p (Je p),λx=>by rw[e,FJ]⟩;unfold GC;rw[Gy b,Yg (Yw _ _)];have:=(hq.len (Yw _ _) tp a).1;omega
theorem jK(tp:Jc p=p)(n:PtOk 174 8926 N p):Ig p N≠[]:=by
 have hl:=n.gt;have b:=n.st;have a:=n.en;unfold Ig;obtain⟨q,hq⟩:=ex (Jt p);have tq:Jc q=q:=by rw[<-hq];exact YF _
 have i:Jt q=q:=by rw[<-hq];exact Iu tp
 have lq:q.length=p.length:=by rw[<-hq];exact Yg tp
 have q0:q≠[]:=λe=>by rw[e]at lq;simp at lq;omega
 rw[hq]at b a ⊢;have f:=XT tq (JE q) (Or.inl q0);have j:=XK tq (JE q);have k:=Lw tq q0 i (J1 _ _) (Xa tq (JE q)) j.1;have d:=Yun.start tq q0 i;rw[Gy f,Gy f]at b a ⊢;obtain⟨g,s⟩:=ex (JC q (Je q));have u:Jc g=g:=by rw[<-s];exact J1 _ _
 rw[s]at b a k d j f ⊢;have x:1<(JM q g).length:=by
  have c:=JL u (Yw q g) f k.2.2.1;rw[<-k.2.2.2]at c;have A:Je q≠[]:=λe=>by have:=Tr tq e;omega
  have I:=(j.2.1.len u (JE q) A).1;have K:=YR q0;omega
 obtain⟨w,t⟩:=ex (JM q g);obtain⟨y,z⟩:=ex (JM (Je q) g);rw[t,z]at b a d ⊢;rw[t]at x;cases N with
 |zero=>exact absurd (show w.length<=1 from a) O
 |succ m=>
  obtain⟨c,_⟩:=Ih d i m;obtain⟨_,_,B,_,_,D⟩:=c.step;have M:=(b m O).1;have r:=UG d i m;unfold yP at r;rw[r]at a;have o:JC (DV w y m).1 (JP (DV w y m).2 (Je (DV w y m).1))≠[]:=XT c.tw (Ys _ _) (Or.inl c.w0);have l:=JL (J1 _ _) (Yw (DV w y m).1 _) o B.w0;rw[<-D]at l;have L:0<(JC (DV w y m).1 (JP (DV w y m).2 (Je (DV w y m).1))).length:=Ah.2 o;have v:1<(yP (DV w y m)).length:=by unfold yP;omega
  rw[yL,BG v];simp

