import Derived.Test.YteldjhhjnchdeaaGreatDoorU45
open Go.Value renaming slice->C,pointer->F,agg->G,int->Q
open Go renaming undef->E,World->H,Value->I
set_option maxRecDepth 100000
set_option maxHeartbeats 16000000
namespace Go.Proofs.YteldjhhjnchdeaaGreatDoor
section
open Go.RowKit Go.Shelf
def Ol(s:List Rat × List Rat):List Rat × List Rat:=(Dk s.1 (JL s.1 (JP s.2 (Jh s.1))),Dk (JP s.2 (Jh s.1)) (JL s.1 (JP s.2 (Jh s.1))))
def Ei(w y:List Rat):Nat->List Rat × List Rat
 |0=>(w,y)
 |n+1=>Ol (Ei w y n)
def yP(s:List Rat × List Rat):List Rat:=JL s.1 (JP s.2 (Jh s.1))
def yL(w y:List Rat):Nat->List (List Rat × Nat)
 |0=>[]
 |n+1=>yL w y n++(if 1<(yP (Ei w y n)).length then [(yP (Ei w y n),n+1)]else [])
theorem fT(w y:List Rat):∀n,(yL w y n).length<=n:=by
 intro n;induction n with
 |zero=>exact Aa _
 |succ n a=>
  rw[yL,Ai];split
  . simp;omega
  . simp;omega
structure StOk(K M:Nat)(w y:List Rat):Prop where
 ch:M3.ChOk K w (JP y (Jh w))
 ty:Jd y=y
 cw:Cd M w
 cs:Cd M (Jh w)
 cy:Cd M y
 cz:Cd M (JP y (Jh w))
 kM:Db K w (JP y (Jh w))<=M
 l1:2*((w.length+3)*(M+1))<=1000000000
 l2:2*(((JP y (Jh w)).length+3)*(M+1))<=1000000000
structure PtOk(K M N:Nat)(p:List Rat):Prop where
 tp:Jd p=p
 cp:Cd M p
 ch:M3.ChOk K (JC p) (Jh (JC p))
 kM:Db K (JC p) (Jh (JC p))<=M
 l1:2*((p.length+3)*(M+1))<=1000000000
 gt:1<p.length
 nN:N<=1000000000
 st:∀n,n<N->1<(Ei (Dk (JC p) (JL (JC p) (Jh (JC p)))) (Dk (Jh (JC p)) (JL (JC p) (Jh (JC p)))) n).1.length/\StOk K M (Ei (Dk (JC p) (JL (JC p) (Jh (JC p)))) (Dk (Jh (JC p)) (JL (JC p) (Jh (JC p)))) n).1 (Ei (Dk (JC p) (JL (JC p) (Jh (JC p)))) (Dk (Jh (JC p)) (JL (JC p) (Jh (JC p)))) n).2
 en:(Ei (Dk (JC p) (JL (JC p) (Jh (JC p)))) (Dk (Jh (JC p)) (JL (JC p) (Jh (JC p)))) N).1.length<=1
def LI(p:List Rat)(N:Nat):List (List Rat × Nat):=yL (Dk (JC p) (JL (JC p) (Jh (JC p)))) (Dk (Jh (JC p)) (JL (JC p) (Jh (JC p)))) N
namespace M3
def Ez(base:Nat)(V:H)(v:I)(L:List (List Rat × Nat)):Prop:=EZ true base V v L
section
variable {base:Nat} {V V':World} {v:Value} {L:List (List Rat × Nat)}
theorem Ez.below(h:Ez base V v L)(a:Bl V V'):Ez base V' v L:=EZ.below h a
theorem Ez.drew(h:Ez base V v L):Ez base V.drew v L:=EZ.below h ((BB _ V).drew)
theorem Ez.alloc(h:Ez base V v L)(o:Obj):Ez base (V.alloc o) v L:=EZ.below h (Ba V o)
theorem Ez.set1(h:Ez base V v L){B:Nat}{a:Option Addr}{l c:Nat}(q:Boxed V B 25 (C a l c))(_:JB (C a l c)=true)(b:I):Ez base (V.setCell ⟨B,0,none⟩ b) v L:=EZ.set h q (λ_ _ g=>FZ q b g)
end
theorem fU(a b:I)(ps qs:List Rat)(w:H)(i:Jf w a ps)(j:Jf w b qs)(k:Sqs ps)(l:Sqs qs)(m:Sqs (JP ps qs)):
 Calls Tryz.prog 48 #[a,b] w λe c=>∃u,e=.returned u/\Jf c u (JP ps qs)/\Bl w c:=by
 refine(RB a b ps qs w i j k l m).mono ?_;rintro e c ⟨u,d,f,_,g⟩;exact⟨u,d,f,g⟩
theorem TE{M:Nat}{w:List Rat}(h:Cd M (Jh w))(b:M<=1000000000)(i:Nat):Sq (Ey w i):=by
 have a:=(h.sqs b).at i;unfold Jh at a;rwa[JR,Ic]at a
attribute [local go_sem] Oper.semAt_some
theorem fV(K M N:Nat)(v:I)(p:List Rat)(w:H)(h:Jf w v p)(ai:PtOk K M N p):
 Calls Tryz.prog 18 #[v] w λe w'=>∃u,e=.returned u/\EZ true w.heap.size w' u (LI p N)/\Bl w w':=by
 have Ql:Tryz.prog.follows .mixedOrders=true:=by kernel_rfl
 obtain⟨q,hq⟩:=ex (JC p);obtain⟨c,hc⟩:=ex (JL q (Jh q));obtain⟨w0,bg⟩:=ex (Dk q c);obtain⟨y0,bh⟩:=ex (Dk (Jh q) c);have hM:M<=1000000000:=by
  have A:=ai.l1
  have:1*(M+1)<=(p.length+3)*(M+1):=Ak _ J
  omega
 have Qq:=ai.ch;have Ui:=ai.kM;rw[hq]at Qq Ui;have Uz:q.length=p.length:=by rw[<-hq];exact Ys ai.tp
 have Qu:Cd M q:=by rw[<-hq];exact ai.cp.mon ai.tp
 have Uj:Jd q=q:=by rw[<-hq];exact Y4 _
 have Uf:Cd M (Jh q):=(show Cd K (Jh q)from Qq.cq).mono (by have:=He K q (Jh q);omega);have Qw:Cd M c:=by rw[<-hc];exact Qq.gcd.mono Ui
 have Uk:Jd c=c:=by rw[<-hc];exact YG _ _
 have Uc:JC c=c:=by rw[<-hc];exact XN Uj (YS _)
 have Ux:2*(((Jh q).length+3)*(M+1))<=1000000000:=by
  have A:(Jh q).length<=q.length:=Ar (J3 _) (by simp[IF]);have h2:((Jh q).length+3)*(M+1)<=(p.length+3)*(M+1):=Ak _ J;have h3:=ai.l1;omega
 obtain⟨Ug,Up,Uh,Ut,Us,Uq⟩:=Kr (λ(V:H) (x:I) (r:List Rat) (hx:Jf V x r)=>YF x r V hx) (λ(V:H) (x:I) (hx:Jf V x p)=>show Calls Tryz.prog 26 #[x] V λe w'=>∃u,e=.returned u/\Jf w' u q/\Bl V w' by rw[<-hq];exact TC M x p V hx ai.tp ai.cp hM) (λ(V:H) (x:I) (hx:Jf V x q)=>OV x q V hx (Qu.sqs hM) (TE Uf hM)) (λ(V:H) (x y:I) (hx:Jf V x q) (hy:Jf V y (Jh q))=>show Calls Tryz.prog 8 #[x,y] V λe w'=>∃u,e=.returned u/\Jf w' u c/\Bl V w' by rw[<-hc];exact Oe K x y q (Jh q) V hx hy Qq) (λ(V:H) (x y:I) (hx:Jf V x q) (hy:Jf V y c)=>show Calls Tryz.prog 46 #[x,y] V λe w'=>∃u,e=.returned u/\Jf w' u w0/\Bl V w' by rw[<-bg];exact LH M x y q c V hx hy Qu Qw Uj Uk Uc (by rw[Uz];exact ai.l1)) (λ(V:H) (x y:I) (hx:Jf V x (Jh q)) (hy:Jf V y c)=>show Calls Tryz.prog 46 #[x,y] V λe w'=>∃u,e=.returned u/\Jf w' u y0/\Bl V w' by rw[<-bh];exact LH M x y (Jh q) c V hx hy Uf Qw (YS _) Uk Uc Ux);have Qv:=ai.st;have Qz:=ai.en;rw[hq,hc,bg,bh]at Qv Qz;obtain⟨Uy,Wj,Wl⟩:=Dg Qv Qz (show LI p N=yL w0 y0 N by unfold LI;rw[hq,hc,bg,bh]);rw[Wl.o];obtain⟨Wh,Wi,Wk⟩:=Dg (λ(a b:List Rat) (ho:StOk K M a b) (V:H) (x:I) (hx:Jf V x a)=>OV x a V hx (ho.cw.sqs hM) (TE ho.cs hM)) (λ(a b:List Rat) (ho:StOk K M a b) (V:H) (x y:I) (hx:Jf V x b) (hy:Jf V y (Jh a))=>fU x y b (Jh a) V hx hy (ho.cy.sqs hM) (ho.cs.sqs hM) (ho.cz.sqs hM)) λ(a b:List Rat) (ho:StOk K M a b) (V:H) (x y:I) (hx:Jf V x a) (hy:Jf V y (JP b (Jh a)))=>Oe K x y a (JP b (Jh a)) V hx hy ho.ch;have Qf:∀(a b:List Rat),StOk K M a b->Cd M (JL a (JP b (Jh a)))/\Jd (JL a (JP b (Jh a)))=JL a (JP b (Jh a))/\JC (JL a (JP b (Jh a)))=JL a (JP b (Jh a)):=λa b ho=>⟨ho.ch.gcd.mono ho.kM,YG _ _,XN ho.ch.tp ho.ch.tq⟩;have Wc:=O λ(a b:List Rat) (ho:StOk K M a b) (V:H) (x y:I) (hx:Jf V x a) (hy:Jf V y (JL a (JP b (Jh a))))=>LH M x y a (JL a (JP b (Jh a))) V hx hy ho.cw (Qf a b ho).1 ho.ch.tp (Qf a b ho).2.1 (Qf a b ho).2.2 ho.l1;have Wm:=O λ(a b:List Rat) (ho:StOk K M a b) (V:H) (x y:I) (hx:Jf V x (JP b (Jh a))) (hy:Jf V y (JL a (JP b (Jh a))))=>LH M x y (JP b (Jh a)) (JL a (JP b (Jh a))) V hx hy ho.cz (Qf a b ho).1 ho.ch.tq (Qf a b ho).2.1 (Qf a b ho).2.2 ho.l2;have Ud:¬(p.length:Int)-1<1:=by have:=ai.gt;omega
 obtain⟨d0,cg⟩:=ex ((p.length:Int)-1:Int);rw[cg]at Ud;have Wg:=O cg;have fc:N<=1000000000:=ai.nN;obtain⟨pa,la,pc,rfl⟩:=h.form;have M0:=(Mem.nil w).push (.poly p) (cs:=#[C pa la pc]) h;obtain⟨W0,bu⟩:=ex (w.alloc (.cells #[C pa la pc] 25));have Uo:=O bu;have M1:Hid (Mem w W0 [some (w.heap.size,.poly p)]):=O (by rw[<-bu];exact M0);clear M0 bu h ai Qq Ui Uz Qu Uj Uf Qw Uk Uc Ux Qv Qz Qf hM hq hc bg bh cg;go_enter Tryz.func18,Tryz.ntmps18
 go_upto_region 1 with fail
 rw[Uo.o];clear Uo;obtain⟨a1,l1,c1,n1,r1⟩:=M1.o.poly2 (i:=0) rfl;have Ua:=n1.cell;have H1:=O (Ug.o W0 _ p r1);rw[Wg.o]at H1;go_upto_region 3 with(go_at_call 20;refine H1.o.mono ?_;clear H1;rintro e w1 ⟨rfl,hq⟩;clear Ua;have Ua:=(boxed_below n1 hq).cell)
 have M2:Hid (Mem w w1 [some (w.heap.size,.poly p)]):=O (M1.o.below hq);clear M1;clear hq n1 r1 Ua;obtain⟨a2,l2,c2,n2,r2⟩:=M2.o.poly2 (i:=0) rfl;have Ub:=n2.cell;have Qy:=n2.frozen;have H1:=O (Up.o w1 _ r2);clear Up;go_upto_region 4 with(go_at_call 26;refine H1.o.mono ?_;clear H1;rintro e w2 ⟨u2,rfl,co,hq⟩;obtain⟨am,ap,an,rfl⟩:=Jf.form co;clear Ub;have Ub:=(boxed_below n2 hq).cell;clear Qy;have Qy:=(boxed_below n2 hq).frozen)
 obtain⟨V3,hV⟩:=ex (w2.setCell ⟨w.heap.size,0,none⟩ (C am ap an));have g:Mem w (w2.setCell ⟨w.heap.size,0,none⟩ (C am ap an)) [some (w.heap.size,.poly q)]:=Mem.putPoly (M2.o.below hq) (i:=0) rfl co;rw[hV]at g;rw[hV];have M3:Hid (Mem w V3 [some (w.heap.size,.poly q)]):=O (g);clear M2;clear g hV;clear co hq n2 r2 Ub Qy;refine Jn Ql [[],[],[1],[0,2,2],[],[4,3,3,0,1,2,3,4]] (by kernel_rfl) DQ
  (λD af V=>∃(ta tb tc td tt:I) (x4:Option (Nat × Dat)),af={ tmps:=#[G #[C pa la pc],F (some ⟨w.heap.size,0,none⟩),C none 0 0,tt,E,E,E,E,E,G #[C a1 l1 c1],Q .i64 d0,.bool (decide (d0<1)),G #[C a2 l2 c2],G #[C am ap an],ta,tb,tc,td,E,E,E,E,E,E,E,E,E,E,E,E,E,E,E,E,E,E,E,E,E,E,E,E,E,E,E,E,E,E,E,E,E,E,E],defers:=[] }/\Hid ((D 0=true->Has V ta (.poly q))/\(D 1=true->Has V tb (.poly q))/\(D 2=true->Has V tc (.poly (Jh q)))/\(D 3=true->Has V td (.poly c))/\((D 4=false->x4=none)/\(D 4=true->D 5=false->∃B:Nat,tt=F (some ⟨B,0,none⟩)/\x4=some (B,.poly []))/\(D 5=true->∃B:Nat,tt=F (some ⟨B,0,none⟩)/\x4=some (B,.poly c))))/\Hid (Mem w V [some (w.heap.size,.poly q),x4]))
  ⟨_,_,_,_,_,none,rfl,O ⟨Y,Y,Y,Y,Y⟩,O ((M3.o).none).drew⟩ ?step4 ?fin4
 case step4=>
  rintro D af V i ds aj hi m ad ⟨ta,tb,tc,td,tt,x4,rfl,f,g⟩;have Qr:i<6:=(Ad.1 hi).1;obtain rfl|rfl|rfl|rfl|rfl|rfl:=Kb i J
  all_goals
   simp only[Af,Ae,Ah]at hi;subst hi
  . clear m;obtain⟨a,l,c,n,r⟩:=g.o.poly2 (i:=0) rfl;have e0:=n.cell;refine Za ?_;exact⟨_,_,_,_,_,_,rfl,(Dh f λ_=>r),O (g.o)⟩
  . clear m;obtain⟨a,l,c,n,r⟩:=g.o.poly2 (i:=0) rfl;have e0:=n.cell;refine Za ?_;exact⟨_,_,_,_,_,_,rfl,(Dn f λ_=>r),O (g.o)⟩
  . have s:=(f.o.2.1 (m 1 Y));have HC:=O (Uh.o V _ s);clear m s;refine Jb rfl rfl λK hK=>?_;go_simp;go_wp2_with(go_at_call 24;refine HC.o.mono ?_;rintro e w5 ⟨v5,rfl,ae,j⟩)
    exact⟨_,_,_,_,_,_,rfl,O ⟨λh=>(f.o.1 h).below j,λh=>(f.o.2.1 h).below j,λ_=>ae,λh=>(f.o.2.2.2.1 h).below j,f.o.2.2.2.2⟩,O (g.o.below j)⟩
  . have s:=(f.o.1 (m 0 Y));have A:=(f.o.2.2.1 (m 2 Y));have HC:=O (Ut.o V _ _ s A);clear m s A;refine Jb rfl rfl λK hK=>?_;go_simp;go_wp2_with(go_at_call 8;refine HC.o.mono ?_;rintro e w5 ⟨v5,rfl,ae,j⟩)
    exact⟨_,_,_,_,_,_,rfl,O ⟨λh=>(f.o.1 h).below j,λh=>(f.o.2.1 h).below j,λh=>(f.o.2.2.1 h).below j,λ_=>ae,f.o.2.2.2.2⟩,O (g.o.below j)⟩
  . have hf:D 5=false:=DR aj ad;obtain rfl:=f.o.2.2.2.2.1 ad;clear m;refine Za ?_;exact⟨_,_,_,_,_,_,rfl,O ⟨λh=>(f.o.1 h).alloc _,λh=>(f.o.2.1 h).alloc _,λh=>(f.o.2.2.1 h).alloc _,λh=>(f.o.2.2.2.1 h).alloc _,⟨λh=>by simp at h,λ_ _=>⟨_,rfl,rfl⟩,λh=>by simp[hf]at h⟩⟩,O (g.o.fill (i:=1) rfl (.poly []) (Hf _))⟩
  . obtain⟨B,rfl,rfl⟩:=Dl f (m 4 Y) ad;have Qc:=m 4 Y;have hv:=(f.o.2.2.2.1 (m 3 Y));obtain⟨a1,l1,c1,rfl⟩:=Jf.form (show Jf V _ _ from hv);obtain⟨a,l,c,n,r⟩:=g.o.poly2 (i:=1) rfl;have e0:=n.cell;have f0:=n.frozen;clear m;refine Za ?_;exact⟨_,_,_,_,_,_,rfl,O ⟨λh=>(f.o.1 h).set1 n rfl _,λh=>(f.o.2.1 h).set1 n rfl _,λh=>(f.o.2.2.1 h).set1 n rfl _,λh=>(f.o.2.2.2.1 h).set1 n rfl _,⟨λh=>by simp[Qc]at h,λ_ h=>by simp at h,λ_=>⟨B,rfl,rfl⟩⟩⟩,O (g.o.putPoly (i:=1) rfl hv)⟩
 rintro D af V5 ah ⟨ta,tb,tc,td,tt,x4,rfl,f,g⟩;obtain⟨B6,rfl,rfl⟩:=f.o.2.2.2.2.2.2 (ah 5 DQ);clear f ah M3;have M4:Hid (Mem w V5 [some (w.heap.size,.poly q),some (B6,.poly c)]):=g;clear g;go_upto_region 5 with fail
 refine Jn Ql [[],[],[0,1],[],[3,2],[],[4,5,4],[],[],[7,2,6,0,1,2,7,8],[8,6,9,0,1,2,3,4,5,6,7,8,9]] (by kernel_rfl) DQ
  (λD af V=>∃(te tf tg ti tj tk tl tz tC:I) (x7 x8:Option (Nat × Dat)),af={ tmps:=#[G #[C pa la pc],F (some ⟨w.heap.size,0,none⟩),C none 0 0,F (some ⟨B6,0,none⟩),tz,tC,E,E,E,G #[C a1 l1 c1],Q .i64 d0,.bool (decide (d0<1)),G #[C a2 l2 c2],G #[C am ap an],ta,tb,tc,td,te,tf,tg,ti,tj,tk,tl,E,E,E,E,E,E,E,E,E,E,E,E,E,E,E,E,E,E,E,E,E,E,E,E,E,E,E,E],defers:=[] }/\Hid ((D 0=true->Has V te (.poly q))/\(D 1=true->Has V tf (.poly c))/\(D 2=true->Has V tg (.poly w0))/\(D 3=true->Has V ti (.poly q))/\(D 4=true->Has V tj (.poly (Jh q)))/\(D 5=true->Has V tk (.poly c))/\(D 6=true->Has V tl (.poly y0))/\((D 7=false->x7=none)/\(D 7=true->D 9=false->∃B:Nat,tz=F (some ⟨B,0,none⟩)/\x7=some (B,.poly []))/\(D 9=true->∃B:Nat,tz=F (some ⟨B,0,none⟩)/\x7=some (B,.poly w0)))/\((D 8=false->x8=none)/\(D 8=true->D 10=false->∃B:Nat,tC=F (some ⟨B,0,none⟩)/\x8=some (B,.poly []))/\(D 10=true->∃B:Nat,tC=F (some ⟨B,0,none⟩)/\x8=some (B,.poly y0))))/\Hid (Mem w V [some (w.heap.size,.poly q),some (B6,.poly c),x7,x8]))
  ⟨_,_,_,_,_,_,_,_,_,none,none,rfl,O ⟨Y,Y,Y,Y,Y,Y,Y,Y,Y⟩,O (((M4.o).none).none).drew⟩ ?step7 ?fin7
 case step7=>
  rintro D af V i ds aj hi m ad ⟨te,tf,tg,ti,tj,tk,tl,tz,tC,x7,x8,rfl,f,g⟩;have Qr:i<11:=(Ad.1 hi).1;obtain rfl|rfl|rfl|rfl|rfl|rfl|rfl|rfl|rfl|rfl|rfl:=GJ i J
  all_goals
   simp only[Af,Ae,Ah]at hi;subst hi
  . clear m;obtain⟨a,l,c,n,r⟩:=g.o.poly2 (i:=0) rfl;have e0:=n.cell;refine Za ?_;exact⟨_,_,_,_,_,_,_,_,_,_,_,rfl,(Dh f λ_=>r),O (g.o)⟩
  . clear m;obtain⟨a,l,c,n,r⟩:=g.o.poly2 (i:=1) rfl;have e0:=n.cell;refine Za ?_;exact⟨_,_,_,_,_,_,_,_,_,_,_,rfl,(Dn f λ_=>r),O (g.o)⟩
  . have s:=(f.o.1 (m 0 Y));have A:=(f.o.2.1 (m 1 Y));have HC:=O (Us.o V _ _ s A);clear m s A;refine Jb rfl rfl λK hK=>?_;go_simp;go_wp2_with(go_at_call 46;refine HC.o.mono ?_;rintro e w5 ⟨v5,rfl,ae,j⟩)
    obtain⟨S,U,_,W,X,G5,G6,G7⟩:=f.o;exact⟨_,_,_,_,_,_,_,_,_,_,_,rfl,O ⟨λh=>(S h).below j,λh=>(U h).below j,λ_=>ae,λh=>(W h).below j,λh=>(X h).below j,λh=>(G5 h).below j,λh=>(G6 h).below j,G7⟩,O (g.o.below j)⟩
  . clear m;obtain⟨a,l,c,n,r⟩:=g.o.poly2 (i:=0) rfl;have e0:=n.cell;refine Za ?_;exact⟨_,_,_,_,_,_,_,_,_,_,_,rfl,(Dj f λ_=>r),O (g.o)⟩
  . have s:=(f.o.2.2.2.1 (m 3 Y));have HC:=O (Uh.o V _ s);clear m s;refine Jb rfl rfl λK hK=>?_;go_simp;go_wp2_with(go_at_call 24;refine HC.o.mono ?_;rintro e w5 ⟨v5,rfl,ae,j⟩)
    obtain⟨S,U,G2,W,_,G5,G6,G7⟩:=f.o;exact⟨_,_,_,_,_,_,_,_,_,_,_,rfl,O ⟨λh=>(S h).below j,λh=>(U h).below j,λh=>(G2 h).below j,λh=>(W h).below j,λ_=>ae,λh=>(G5 h).below j,λh=>(G6 h).below j,G7⟩,O (g.o.below j)⟩
  . clear m;obtain⟨a,l,c,n,r⟩:=g.o.poly2 (i:=1) rfl;have e0:=n.cell;refine Za ?_;exact⟨_,_,_,_,_,_,_,_,_,_,_,rfl,(EE f λ_=>r),O (g.o)⟩
  . have s:=(f.o.2.2.2.2.1 (m 4 Y));have A:=((Dl f) (m 5 Y));have HC:=O (Uq.o V _ _ s A);clear m s A;refine Jb rfl rfl λK hK=>?_;go_simp;go_wp2_with(go_at_call 46;refine HC.o.mono ?_;rintro e w5 ⟨v5,rfl,ae,j⟩)
    obtain⟨S,U,G2,W,X,G5,_,G7⟩:=f.o;exact⟨_,_,_,_,_,_,_,_,_,_,_,rfl,O ⟨λh=>(S h).below j,λh=>(U h).below j,λh=>(G2 h).below j,λh=>(W h).below j,λh=>(X h).below j,λh=>(G5 h).below j,λ_=>ae,G7⟩,O (g.o.below j)⟩
  . have hf:D 9=false:=DR aj ad;obtain rfl:=f.o.2.2.2.2.2.2.2.1.1 ad;clear m;refine Za ?_;obtain⟨S,U,G2,W,X,G5,G6,_,G8⟩:=f.o;exact⟨_,_,_,_,_,_,_,_,_,_,_,rfl,O ⟨λh=>(S h).alloc _,λh=>(U h).alloc _,λh=>(G2 h).alloc _,λh=>(W h).alloc _,λh=>(X h).alloc _,λh=>(G5 h).alloc _,λh=>(G6 h).alloc _,⟨λh=>by simp at h,λ_ _=>⟨_,rfl,rfl⟩,λh=>by simp[hf]at h⟩,G8⟩,O (g.o.fill (i:=2) rfl (.poly []) (Hf _))⟩
  . have hf:D 10=false:=DR aj ad;obtain rfl:=Dy f ad;clear m;refine Za ?_;obtain⟨S,U,G2,W,X,G5,G6,G7,_⟩:=f.o;exact⟨_,_,_,_,_,_,_,_,_,_,_,rfl,O ⟨λh=>(S h).alloc _,λh=>(U h).alloc _,λh=>(G2 h).alloc _,λh=>(W h).alloc _,λh=>(X h).alloc _,λh=>(G5 h).alloc _,λh=>(G6 h).alloc _,G7,⟨λh=>by simp at h,λ_ _=>⟨_,rfl,rfl⟩,λh=>by simp[hf]at h⟩⟩,O (g.o.fill (i:=3) rfl (.poly []) (Hf _))⟩
  . obtain⟨B,rfl,rfl⟩:=f.o.2.2.2.2.2.2.2.1.2.1 (m 7 Y) ad;have Qc:=m 7 Y;have hv:=(f.o.2.2.1 (m 2 Y));obtain⟨a1,l1,c1,rfl⟩:=Jf.form (show Jf V _ _ from hv);obtain⟨a,l,c,n,r⟩:=g.o.poly2 (i:=2) rfl;have e0:=n.cell;have f0:=n.frozen;clear m;refine Za ?_;obtain⟨S,U,G2,W,X,G5,G6,_,G8⟩:=f.o;exact⟨_,_,_,_,_,_,_,_,_,_,_,rfl,O ⟨λh=>(S h).set1 n rfl _,λh=>(U h).set1 n rfl _,λh=>(G2 h).set1 n rfl _,λh=>(W h).set1 n rfl _,λh=>(X h).set1 n rfl _,λh=>(G5 h).set1 n rfl _,λh=>(G6 h).set1 n rfl _,⟨λh=>by simp[Qc]at h,λ_ h=>by simp at h,λ_=>⟨B,rfl,rfl⟩⟩,G8⟩,O (g.o.putPoly (i:=2) rfl hv)⟩
  . obtain⟨B,rfl,rfl⟩:=D7 f (m 8 Y) ad;have Qc:=m 8 Y;have hv:=((Dq f) (m 6 Y));obtain⟨a1,l1,c1,rfl⟩:=Jf.form (show Jf V _ _ from hv);obtain⟨a,l,c,n,r⟩:=g.o.poly2 (i:=3) rfl;have e0:=n.cell;have f0:=n.frozen;clear m;refine Za ?_;obtain⟨S,U,G2,W,X,G5,G6,G7,_⟩:=f.o;exact⟨_,_,_,_,_,_,_,_,_,_,_,rfl,O ⟨λh=>(S h).set1 n rfl _,λh=>(U h).set1 n rfl _,λh=>(G2 h).set1 n rfl _,λh=>(W h).set1 n rfl _,λh=>(X h).set1 n rfl _,λh=>(G5 h).set1 n rfl _,λh=>(G6 h).set1 n rfl _,G7,⟨λh=>by simp[Qc]at h,λ_ h=>by simp at h,λ_=>⟨B,rfl,rfl⟩⟩⟩,O (g.o.putPoly (i:=3) rfl hv)⟩
 rintro D af V8 ah ⟨te,tf,tg,ti,tj,tk,tl,tz,tC,x7,x8,rfl,f,g⟩;obtain⟨B9,rfl,rfl⟩:=f.o.2.2.2.2.2.2.2.1.2.2 (ah 9 DQ);obtain⟨B10,rfl,rfl⟩:=f.o.2.2.2.2.2.2.2.2.2.2 (ah 10 DQ);clear f ah M4;have M5:Hid (Mem w V8 [some (w.heap.size,.poly q),some (B6,.poly c),some (B9,.poly w0),some (B10,.poly y0)]):=g;clear g;go_wp2;go_loopw [6,7] (λlv tv wr=>∃(k:Nat) (xa:Option Addr) (xc:Nat),k<=N/\lv=C xa (yL w0 y0 k).length xc/\tv=Q .i64 ((k+1:Nat):Int)/\Hid (Ez w.heap.size wr (C xa (yL w0 y0 k).length xc) (yL w0 y0 k))/\Hid (Mem w wr [some (w.heap.size,.poly q),some (B6,.poly c),some (B9,.poly ((Ei w0 y0 k).1)),some (B10,.poly ((Ei w0 y0 k).2))])) λ_ tv _=>N+1-(intOf tv).toNat
 case atStart=>exact⟨0,none,0,AK _,rfl,rfl,O (EZ.nil _ _ _),M5⟩
 case round=>
  clear M5 Ut Us Uq Uh;obtain⟨k,xa,xc,hk,rfl,rfl,XL,M6⟩:=hrel;obtain⟨o,cl⟩:=ex ((Ei w0 y0 k).1);obtain⟨z,cn⟩:=ex ((Ei w0 y0 k).2);obtain⟨L,hL⟩:=ex (yL w0 y0 k);have Qa:=O (show(Ei w0 y0 k).1=o/\(Ei w0 y0 k).2=z/\yL w0 y0 k=L/\L.length<=k from⟨cl,cn,hL,by rw[<-hL];exact fT _ _ _⟩);rw[cl,cn]at M6;rw[hL]at XL;clear cl cn hL;rw[Qa.o.2.2.1];obtain⟨ll,ck⟩:=ex (L.length:Nat);rw[ck]at XL ⊢;have Qk:=O ck;clear ck;obtain⟨T,hT⟩:=ex (k+1:Nat);rw[hT];have Qh:=O hT;clear hT;obtain⟨bm,de,bn,bj,r11⟩:=M6.o.poly2 (i:=2) rfl;have Qd:=bj.cell;have H1:=O (Ug.o wr _ o r11);obtain⟨d1,ci⟩:=ex ((o.length:Int)-1:Int);rw[ci]at H1;have Uw:=O ci;clear ci;by_cases ei:k<N
  . have Wa:(0:Int)<d1:=by have A:=(Uy.o k ei).1;rw[Qa.o.1]at A;have:=Uw.o;omega
    have HO:=O (show StOk K M o z by have A:=(Uy.o k ei).2;rwa[Qa.o.1,Qa.o.2.1]at A);go_upto_region 10 with(go_at_call 20;refine H1.o.mono ?_;clear H1;rintro e w1 ⟨rfl,hq⟩;clear Qd;have Qd:=(boxed_below bj hq).cell)
    have M7:Hid (Mem w w1 [some (w.heap.size,.poly q),some (B6,.poly c),some (B9,.poly o),some (B10,.poly z)]):=O (M6.o.below hq);have Uv:=O (XL.o.below hq);clear XL hq bj r11 Qd M6;refine Jn Ql [[],[],[1],[0,2,2],[3,3,0,1,2,3]] (by kernel_rfl) DQ
     (λD af V=>∃(tm tn tr ts:I) (y3:Option (Nat × Dat)),af={ tmps:=#[G #[C pa la pc],F (some ⟨w.heap.size,0,none⟩),C none 0 0,F (some ⟨B6,0,none⟩),F (some ⟨B9,0,none⟩),F (some ⟨B10,0,none⟩),C xa ll xc,Q .i64 ↑T,u8,G #[C a1 l1 c1],Q .i64 d0,.bool (decide (d0<1)),G #[C a2 l2 c2],G #[C am ap an],ta,tb,tc,td,te,tf,tg,ti,tj,tk,tl,G #[C bm de bn],Q .i64 d1,.bool true,u28,u29,tm,tn,tr,ts,u34,u35,u36,u37,u38,u39,u40,u41,u42,u43,u44,u45,u46,u47,u48,u49,u50,u51,E],defers:=[] }/\Hid ((D 0=true->Has V tm (.poly z))/\(D 1=true->Has V tn (.poly o))/\(D 2=true->Has V tr (.poly (Jh o)))/\(D 3=true->Has V ts (.poly (JP z (Jh o))))/\((D 4=false->y3=some (B10,.poly z))/\(D 4=true->y3=some (B10,.poly (JP z (Jh o))))))/\Hid (Mem w V [some (w.heap.size,.poly q),some (B6,.poly c),some (B9,.poly o),y3])/\Hid (Ez w.heap.size V (C xa ll xc) L))
     ⟨_,_,_,_,_,rfl,O ⟨Y,Y,Y,Y,⟨λ_=>rfl,Y⟩⟩,O (M7.o).drew,O (Uv.o.drew)⟩ ?step12 ?fin12
    case step12=>
     rintro D af V i ds aj hi m ad ⟨tm,tn,tr,ts,y3,rfl,f,g,R⟩;have Qr:i<5:=(Ad.1 hi).1;obtain rfl|rfl|rfl|rfl|rfl:=Op i J
     all_goals
      simp only[Af,Ae,Ah]at hi;subst hi
     . have hf:D 4=false:=DR aj ad;obtain rfl:=f.o.2.2.2.2.1 hf;clear m;obtain⟨a,l,c,n,r⟩:=g.o.poly2 (i:=3) rfl;have e0:=n.cell;refine Za ?_;exact⟨_,_,_,_,_,rfl,O ⟨λ_=>r,f.o.2.1,f.o.2.2.1,f.o.2.2.2.1,⟨λ_=>rfl,λh=>by simp[hf]at h⟩⟩,O (g.o),O (R.o)⟩
     . clear m;obtain⟨a,l,c,n,r⟩:=g.o.poly2 (i:=2) rfl;have e0:=n.cell;refine Za ?_;exact⟨_,_,_,_,_,rfl,(Dn f λ_=>r),O (g.o),O (R.o)⟩
     . have s:=(f.o.2.1 (m 1 Y));have HC:=O (Wh.o o z HO.o V _ s);clear m s;refine Jb rfl rfl λK hK=>?_;go_simp;go_wp2_with(go_at_call 24;refine HC.o.mono ?_;rintro e w5 ⟨v5,rfl,ae,j⟩)
       exact⟨_,_,_,_,_,rfl,O ⟨λh=>(f.o.1 h).below j,λh=>(f.o.2.1 h).below j,λ_=>ae,λh=>(f.o.2.2.2.1 h).below j,f.o.2.2.2.2⟩,O (g.o.below j),O (R.o.below j)⟩
     . have s:=(f.o.1 (m 0 Y));have A:=(f.o.2.2.1 (m 2 Y));have HC:=O (Wi.o o z HO.o V _ _ s A);clear m s A;refine Jb rfl rfl λK hK=>?_;go_simp;go_wp2_with(go_at_call 48;refine HC.o.mono ?_;rintro e w5 ⟨v5,rfl,ae,j⟩)
       exact⟨_,_,_,_,_,rfl,O ⟨λh=>(f.o.1 h).below j,λh=>(f.o.2.1 h).below j,λh=>(f.o.2.2.1 h).below j,λ_=>ae,f.o.2.2.2.2⟩,O (g.o.below j),O (R.o.below j)⟩
     . obtain rfl:=f.o.2.2.2.2.1 ad;have hv:=(f.o.2.2.2.1 (m 3 Y));obtain⟨a1,l1,c1,rfl⟩:=Jf.form (show Jf V _ _ from hv);obtain⟨a,l,c,n,r⟩:=g.o.poly2 (i:=3) rfl;have e0:=n.cell;have f0:=n.frozen;clear m;refine Za ?_;exact⟨_,_,_,_,_,rfl,O ⟨λh=>(f.o.1 h).set1 n rfl _,λh=>(f.o.2.1 h).set1 n rfl _,λh=>(f.o.2.2.1 h).set1 n rfl _,λh=>(f.o.2.2.2.1 h).set1 n rfl _,⟨λh=>by simp at h,λ_=>rfl⟩⟩,O (g.o.putPoly (i:=3) rfl hv),O (R.o.set1 n rfl _)⟩
    rintro D af dh ah ⟨tm,tn,tr,ts,y3,rfl,f,g,R⟩;obtain rfl:=f.o.2.2.2.2.2 (ah 4 DQ);clear f ah M7;have M8:Hid (Mem w dh [some (w.heap.size,.poly q),some (B6,.poly c),some (B9,.poly o),some (B10,.poly (JP z (Jh o)))]):=g;clear g;have Um:=R;clear R Uv;obtain⟨P,hP⟩:=ex (JL o (JP z (Jh o)));obtain⟨Qs,Qp,Qe,Qg⟩:=D0 hP (Wk.o o z HO.o) (Wc.o o z HO.o) (Wm.o o z HO.o);rw[hP]at Qp Qe Qg;clear hP;obtain⟨dt,ew,dw,f7,f9⟩:=M8.o.poly2 (i:=2) rfl;have Qx:=f7.cell;obtain⟨du,f6,dx,f8,fa⟩:=M8.o.poly2 (i:=3) rfl;have Ue:=f8.cell;have H1:=O (Qp.o dh _ _ f9 fa);go_upto_region 12 with(go_at_call 8;refine H1.o.mono ?_;clear H1;rintro e w3 ⟨u3,rfl,ct,hq⟩;obtain⟨aw,az,ay,rfl⟩:=Jf.form ct)
    have Ur:=O ((Um.o.below hq).alloc (.cells #[C aw az ay] 25));clear Um f7 f9 Qx f8 fa Ue;have Qi:=Ur;clear Ur;obtain⟨di,hV⟩:=ex (w3.alloc (.cells #[C aw az ay] 25));obtain⟨ak,bt⟩:=ex (w3.heap.size);have g:Mem w (w3.alloc (.cells #[C aw az ay] 25)) [some (w.heap.size,.poly q),some (B6,.poly c),some (B9,.poly o),some (B10,.poly (JP z (Jh o))),some (w3.heap.size,.poly P)]:=Mem.push (M8.o.below hq) (.poly P) ct;rw[hV,bt]at g;rw[hV]at Qi;rw[hV];rw[bt];have M9:Hid (Mem w di [some (w.heap.size,.poly q),some (B6,.poly c),some (B9,.poly o),some (B10,.poly (JP z (Jh o))),some (ak,.poly P)]):=O (g);clear M8;clear g hV bt ct hq;obtain⟨bc,bi,bf,aq,bk⟩:=M9.o.poly2 (i:=4) rfl;have Qb:=aq.cell;have H1:=O (Ug.o di _ P bk);obtain⟨d2,cj⟩:=ex ((P.length:Int)-1:Int);rw[cj]at H1;have Un:=O cj;clear cj;by_cases dz:1<P.length
    . have We:(0:Int)<d2:=by have:=Un.o;omega
      have Qj:=O (show yL w0 y0 (k+1)=L++[(P,T)]by rw[yL,Qa.o.2.2.1];unfold yP;rw[Qa.o.1,Qa.o.2.1,Qs.o,BG dz,Qh.o]);go_upto_region 13 with(go_at_call 20;refine H1.o.mono ?_;clear H1;rintro e w4 ⟨rfl,hq⟩;clear Qb;have Qb:=(boxed_below aq hq).cell)
      have X4:=Qi.o.below hq;have M4:=M9.o.below hq;have r4:=bk.below hq;have Ul:=M4.2.2.size;obtain⟨v',w',ce,X5,eh,ed,fb⟩:=fS true w.heap.size w4 (C xa ll xc) L X4 (t:=T) r4.row (by have:=Qa.o.2.2.2;omega) Ul;obtain⟨ya,yc,et,_,_⟩:=X5.form;rw[Ai,show([(P,T)]:List (List Rat × Nat)).length=1 from rfl]at et;subst et;have M5:=M4.farP eh (ed _ w (Aa _) M4.2.2) (λi B d e=>by rcases i with _|_|_|_|_|i<;>simp at e<;>(obtain⟨rfl,rfl⟩:=e;show 25≠44;decide));have e4:=(boxed_below aq hq).cell;clear X4 r4 Ul eh ed fb hq M4 aq bk Qb Qi;rw[show Gv true=39 from rfl,show EL true=44 from rfl]at ce;go_upto_region 14 with(first
       |(at_builtin;refine Bi _ rfl _ _ 39 39 rfl _ _ rfl rfl _ _ ce ?_;clear ce))
      clear e4 M9;have Qn:Hid (Mem w w' [some (w.heap.size,.poly q),some (B6,.poly c),some (B9,.poly o),some (B10,.poly (JP z (Jh o))),some (ak,.poly P)]):=O (M5);clear M5;have Uu:Hid (Ez w.heap.size w' (C ya (L.length+1) yc) (L++[(P,T)])):=O X5;clear X5;rw[Qk.o]at Uu;refine Jn Ql [[],[],[0,1],[],[],[3,4,2],[2,5,0,1,2],[5,6,0,1,2,3,4,5,6]] (by kernel_rfl) DQ
       (λD af V=>∃(tu tw tx ty tA tB:I) (y2 y3:Option (Nat × Dat)),af={ tmps:=#[G #[C pa la pc],F (some ⟨w.heap.size,0,none⟩),C none 0 0,F (some ⟨B6,0,none⟩),F (some ⟨B9,0,none⟩),F (some ⟨B10,0,none⟩),C ya (L.length+1) yc,Q .i64 ↑T,F (some ⟨ak,0,none⟩),G #[C a1 l1 c1],Q .i64 d0,.bool (decide (d0<1)),G #[C a2 l2 c2],G #[C am ap an],ta,tb,tc,td,te,tf,tg,ti,tj,tk,tl,G #[C bm de bn],Q .i64 d1,.bool true,u28,u29,tm,tn,tr,ts,G #[C dt ew dw],G #[C du f6 dx],G #[C aw az ay],G #[C bc bi bf],Q .i64 d2,.bool true,C xa ll xc,G #[C bc bi bf],Q .i64 ↑T,G #[C bc bi bf,Q .i64 ↑T],C (some ⟨w4.heap.size,0,none⟩) 1 1,C ya (L.length+1) yc,tu,tw,tx,ty,tA,tB,E],defers:=[] }/\Hid ((D 0=true->Has V tu (.poly o))/\(D 1=true->Has V tw (.poly P))/\(D 2=true->Has V tx (.poly (Dk o P)))/\(D 3=true->Has V ty (.poly (JP z (Jh o))))/\(D 4=true->Has V tA (.poly P))/\(D 5=true->Has V tB (.poly (Dk (JP z (Jh o)) P)))/\((D 6=false->y2=some (B9,.poly o))/\(D 6=true->y2=some (B9,.poly (Dk o P))))/\((D 7=false->y3=some (B10,.poly (JP z (Jh o))))/\(D 7=true->y3=some (B10,.poly (Dk (JP z (Jh o)) P)))))/\Hid (Mem w V [some (w.heap.size,.poly q),some (B6,.poly c),y2,y3,some (ak,.poly P)])/\Hid (Ez w.heap.size V (C ya (ll+1) yc) (L++[(P,T)])))
       ⟨_,_,_,_,_,_,_,_,rfl,O ⟨Y,Y,Y,Y,Y,Y,⟨λ_=>rfl,Y⟩,⟨λ_=>rfl,Y⟩⟩,O (Qn.o).drew,O (Uu.o.drew)⟩ ?step18 ?fin18
      case step18=>
       rintro D af V i ds aj hi m ad ⟨tu,tw,tx,ty,tA,tB,y2,y3,rfl,f,g,R⟩;have Qr:i<8:=(Ad.1 hi).1;obtain rfl|rfl|rfl|rfl|rfl|rfl|rfl|rfl:=LK i J
       all_goals
        simp only[Af,Ae,Ah]at hi;subst hi
       . have hf:D 6=false:=DR aj ad;obtain rfl:=f.o.2.2.2.2.2.2.1.1 hf;clear m;obtain⟨a,l,c,n,r⟩:=g.o.poly2 (i:=2) rfl;have e0:=n.cell;refine Za ?_;exact⟨_,_,_,_,_,_,_,_,rfl,(D6 (Dh f λ_=>r) ⟨λ_=>rfl,λh=>by simp[hf]at h⟩),O (g.o),O (R.o)⟩
       . clear m;obtain⟨a,l,c,n,r⟩:=g.o.poly2 (i:=4) rfl;have e0:=n.cell;refine Za ?_;exact⟨_,_,_,_,_,_,_,_,rfl,(Dn f λ_=>r),O (g.o),O (R.o)⟩
       . have s:=(f.o.1 (m 0 Y));have A:=(f.o.2.1 (m 1 Y));have HC:=O (Qe.o V _ _ s A);clear m s A;refine Jb rfl rfl λK hK=>?_;go_simp;go_wp2_with(go_at_call 46;refine HC.o.mono ?_;rintro e w5 ⟨v5,rfl,ae,j⟩)
         obtain⟨S,U,_,W,X,G5,G6⟩:=f.o;exact⟨_,_,_,_,_,_,_,_,rfl,O ⟨λh=>(S h).below j,λh=>(U h).below j,λ_=>ae,λh=>(W h).below j,λh=>(X h).below j,λh=>(G5 h).below j,G6⟩,O (g.o.below j),O (R.o.below j)⟩
       . have hf:D 7=false:=DR aj ad;obtain rfl:=Dw f hf;clear m;obtain⟨a,l,c,n,r⟩:=g.o.poly2 (i:=3) rfl;have e0:=n.cell;refine Za ?_;exact⟨_,_,_,_,_,_,_,_,rfl,(Ll (Dj f λ_=>r) ⟨λ_=>rfl,λh=>by simp[hf]at h⟩),O (g.o),O (R.o)⟩
       . clear m;obtain⟨a,l,c,n,r⟩:=g.o.poly2 (i:=4) rfl;have e0:=n.cell;refine Za ?_;exact⟨_,_,_,_,_,_,_,_,rfl,(D9 f λ_=>r),O (g.o),O (R.o)⟩
       . have s:=(f.o.2.2.2.1 (m 3 Y));have A:=(f.o.2.2.2.2.1 (m 4 Y));have HC:=O (Qg.o V _ _ s A);clear m s A;refine Jb rfl rfl λK hK=>?_;go_simp;go_wp2_with(go_at_call 46;refine HC.o.mono ?_;rintro e w5 ⟨v5,rfl,ae,j⟩)
         obtain⟨S,U,G2,W,X,_,G6⟩:=f.o;exact⟨_,_,_,_,_,_,_,_,rfl,O ⟨λh=>(S h).below j,λh=>(U h).below j,λh=>(G2 h).below j,λh=>(W h).below j,λh=>(X h).below j,λ_=>ae,G6⟩,O (g.o.below j),O (R.o.below j)⟩
       . obtain rfl:=f.o.2.2.2.2.2.2.1.1 ad;have hv:=(f.o.2.2.1 (m 2 Y));obtain⟨a1,l1,c1,rfl⟩:=Jf.form (show Jf V _ _ from hv);obtain⟨a,l,c,n,r⟩:=g.o.poly2 (i:=2) rfl;have e0:=n.cell;have f0:=n.frozen;clear m;refine Za ?_;obtain⟨S,U,G2,W,X,G5,_,G7⟩:=f.o;exact⟨_,_,_,_,_,_,_,_,rfl,O ⟨λh=>(S h).set1 n rfl _,λh=>(U h).set1 n rfl _,λh=>(G2 h).set1 n rfl _,λh=>(W h).set1 n rfl _,λh=>(X h).set1 n rfl _,λh=>(G5 h).set1 n rfl _,⟨λh=>by simp at h,λ_=>rfl⟩,G7⟩,O (g.o.putPoly (i:=2) rfl hv),O (R.o.set1 n rfl _)⟩
       . obtain rfl:=Dw f ad;have hv:=((Dl f) (m 5 Y));obtain⟨a1,l1,c1,rfl⟩:=Jf.form (show Jf V _ _ from hv);obtain⟨a,l,c,n,r⟩:=g.o.poly2 (i:=3) rfl;have e0:=n.cell;have f0:=n.frozen;clear m;refine Za ?_;obtain⟨S,U,G2,W,X,G5,G6,_⟩:=f.o;exact⟨_,_,_,_,_,_,_,_,rfl,O ⟨λh=>(S h).set1 n rfl _,λh=>(U h).set1 n rfl _,λh=>(G2 h).set1 n rfl _,λh=>(W h).set1 n rfl _,λh=>(X h).set1 n rfl _,λh=>(G5 h).set1 n rfl _,G6,⟨λh=>by simp at h,λ_=>rfl⟩⟩,O (g.o.putPoly (i:=3) rfl hv),O (R.o.set1 n rfl _)⟩
      rintro D af dj ah ⟨tu,tw,tx,ty,tA,tB,y2,y3,rfl,f,g,R⟩;obtain rfl:=f.o.2.2.2.2.2.2.1.2 (ah 6 DQ);obtain rfl:=f.o.2.2.2.2.2.2.2.2 (ah 7 DQ);clear f ah Qn;have Qo:Hid (Mem w dj [some (w.heap.size,.poly q),some (B6,.poly c),some (B9,.poly (Dk o P)),some (B10,.poly (Dk (JP z (Jh o)) P)),some (ak,.poly P)]):=g;clear g;have Qt:Hid (Mem w dj [some (w.heap.size,.poly q),some (B6,.poly c),some (B9,.poly (Dk o P)),some (B10,.poly (Dk (JP z (Jh o)) P))]):=O (Qo.o.take 4);have Qm:=O (show(Ei w0 y0 (k+1)).1=Dk o P/\(Ei w0 y0 (k+1)).2=Dk (JP z (Jh o)) P by rw[Ei];unfold Ol;rw[Qa.o.1,Qa.o.2.1,Qs.o];exact⟨rfl,rfl⟩);have Wd:T+1<=9223372036854775807:=by have:=Qh.o;omega
      clear Qo;go_wp2_with fail
      go_roundw
      case rel=>exact⟨k+1,ya,yc,J,by rw[Qj.o,Ai,Qk.o];rfl,by rw[Qh.o];go_num,by rw[Qj.o,Ai,Qk.o];exact R,by rw[Qm.o.1,Qm.o.2];exact Qt⟩
      case measure=>simp[intOf];have:=Qh.o;omega
    . have We:¬(0:Int)<d2:=by have:=Un.o;omega
      have Qj:=O (show yL w0 y0 (k+1)=L by rw[yL,Qa.o.2.2.1];unfold yP;rw[Qa.o.1,Qa.o.2.1,Qs.o,BE dz,Cl]);go_upto_region 14 with(go_at_call 20;refine H1.o.mono ?_;clear H1;rintro e w4 ⟨rfl,hq⟩;clear Qb;have Qb:=(boxed_below aq hq).cell)
      have Wb:=O (Qi.o.below hq);have Qn:Hid (Mem w w4 [some (w.heap.size,.poly q),some (B6,.poly c),some (B9,.poly o),some (B10,.poly (JP z (Jh o))),some (ak,.poly P)]):=O (M9.o.below hq);clear M9;clear hq aq bk Qb Qi;refine Jn Ql [[],[],[0,1],[],[],[3,4,2],[2,5,0,1,2],[5,6,0,1,2,3,4,5,6]] (by kernel_rfl) DQ
       (λD af V=>∃(tu tw tx ty tA tB:I) (y2 y3:Option (Nat × Dat)),af={ tmps:=#[G #[C pa la pc],F (some ⟨w.heap.size,0,none⟩),C none 0 0,F (some ⟨B6,0,none⟩),F (some ⟨B9,0,none⟩),F (some ⟨B10,0,none⟩),C xa ll xc,Q .i64 ↑T,F (some ⟨ak,0,none⟩),G #[C a1 l1 c1],Q .i64 d0,.bool (decide (d0<1)),G #[C a2 l2 c2],G #[C am ap an],ta,tb,tc,td,te,tf,tg,ti,tj,tk,tl,G #[C bm de bn],Q .i64 d1,.bool true,u28,u29,tm,tn,tr,ts,G #[C dt ew dw],G #[C du f6 dx],G #[C aw az ay],G #[C bc bi bf],Q .i64 d2,.bool (decide (0<d2)),u40,u41,u42,u43,u44,u45,tu,tw,tx,ty,tA,tB,E],defers:=[] }/\Hid ((D 0=true->Has V tu (.poly o))/\(D 1=true->Has V tw (.poly P))/\(D 2=true->Has V tx (.poly (Dk o P)))/\(D 3=true->Has V ty (.poly (JP z (Jh o))))/\(D 4=true->Has V tA (.poly P))/\(D 5=true->Has V tB (.poly (Dk (JP z (Jh o)) P)))/\((D 6=false->y2=some (B9,.poly o))/\(D 6=true->y2=some (B9,.poly (Dk o P))))/\((D 7=false->y3=some (B10,.poly (JP z (Jh o))))/\(D 7=true->y3=some (B10,.poly (Dk (JP z (Jh o)) P)))))/\Hid (Mem w V [some (w.heap.size,.poly q),some (B6,.poly c),y2,y3,some (ak,.poly P)])/\Hid (Ez w.heap.size V (C xa ll xc) L))
       ⟨_,_,_,_,_,_,_,_,rfl,O ⟨Y,Y,Y,Y,Y,Y,⟨λ_=>rfl,Y⟩,⟨λ_=>rfl,Y⟩⟩,O (Qn.o).drew,O (Wb.o.drew)⟩ ?step20 ?fin20
      case step20=>
       rintro D af V i ds aj hi m ad ⟨tu,tw,tx,ty,tA,tB,y2,y3,rfl,f,g,R⟩;have Qr:i<8:=(Ad.1 hi).1;obtain rfl|rfl|rfl|rfl|rfl|rfl|rfl|rfl:=LK i J
       all_goals
        simp only[Af,Ae,Ah]at hi;subst hi
       . have hf:D 6=false:=DR aj ad;obtain rfl:=f.o.2.2.2.2.2.2.1.1 hf;clear m;obtain⟨a,l,c,n,r⟩:=g.o.poly2 (i:=2) rfl;have e0:=n.cell;refine Za ?_;exact⟨_,_,_,_,_,_,_,_,rfl,(D6 (Dh f λ_=>r) ⟨λ_=>rfl,λh=>by simp[hf]at h⟩),O (g.o),O (R.o)⟩
       . clear m;obtain⟨a,l,c,n,r⟩:=g.o.poly2 (i:=4) rfl;have e0:=n.cell;refine Za ?_;exact⟨_,_,_,_,_,_,_,_,rfl,(Dn f λ_=>r),O (g.o),O (R.o)⟩
       . have s:=(f.o.1 (m 0 Y));have A:=(f.o.2.1 (m 1 Y));have HC:=O (Qe.o V _ _ s A);clear m s A;refine Jb rfl rfl λK hK=>?_;go_simp;go_wp2_with(go_at_call 46;refine HC.o.mono ?_;rintro e w5 ⟨v5,rfl,ae,j⟩)
         obtain⟨S,U,_,W,X,G5,G6⟩:=f.o;exact⟨_,_,_,_,_,_,_,_,rfl,O ⟨λh=>(S h).below j,λh=>(U h).below j,λ_=>ae,λh=>(W h).below j,λh=>(X h).below j,λh=>(G5 h).below j,G6⟩,O (g.o.below j),O (R.o.below j)⟩
       . have hf:D 7=false:=DR aj ad;obtain rfl:=Dw f hf;clear m;obtain⟨a,l,c,n,r⟩:=g.o.poly2 (i:=3) rfl;have e0:=n.cell;refine Za ?_;exact⟨_,_,_,_,_,_,_,_,rfl,(Ll (Dj f λ_=>r) ⟨λ_=>rfl,λh=>by simp[hf]at h⟩),O (g.o),O (R.o)⟩
       . clear m;obtain⟨a,l,c,n,r⟩:=g.o.poly2 (i:=4) rfl;have e0:=n.cell;refine Za ?_;exact⟨_,_,_,_,_,_,_,_,rfl,(D9 f λ_=>r),O (g.o),O (R.o)⟩
       . have s:=(f.o.2.2.2.1 (m 3 Y));have A:=(f.o.2.2.2.2.1 (m 4 Y));have HC:=O (Qg.o V _ _ s A);clear m s A;refine Jb rfl rfl λK hK=>?_;go_simp;go_wp2_with(go_at_call 46;refine HC.o.mono ?_;rintro e w5 ⟨v5,rfl,ae,j⟩)
         obtain⟨S,U,G2,W,X,_,G6⟩:=f.o;exact⟨_,_,_,_,_,_,_,_,rfl,O ⟨λh=>(S h).below j,λh=>(U h).below j,λh=>(G2 h).below j,λh=>(W h).below j,λh=>(X h).below j,λ_=>ae,G6⟩,O (g.o.below j),O (R.o.below j)⟩
       . obtain rfl:=f.o.2.2.2.2.2.2.1.1 ad;have hv:=(f.o.2.2.1 (m 2 Y));obtain⟨a1,l1,c1,rfl⟩:=Jf.form (show Jf V _ _ from hv);obtain⟨a,l,c,n,r⟩:=g.o.poly2 (i:=2) rfl;have e0:=n.cell;have f0:=n.frozen;clear m;refine Za ?_;obtain⟨S,U,G2,W,X,G5,_,G7⟩:=f.o;exact⟨_,_,_,_,_,_,_,_,rfl,O ⟨λh=>(S h).set1 n rfl _,λh=>(U h).set1 n rfl _,λh=>(G2 h).set1 n rfl _,λh=>(W h).set1 n rfl _,λh=>(X h).set1 n rfl _,λh=>(G5 h).set1 n rfl _,⟨λh=>by simp at h,λ_=>rfl⟩,G7⟩,O (g.o.putPoly (i:=2) rfl hv),O (R.o.set1 n rfl _)⟩
       . obtain rfl:=Dw f ad;have hv:=((Dl f) (m 5 Y));obtain⟨a1,l1,c1,rfl⟩:=Jf.form (show Jf V _ _ from hv);obtain⟨a,l,c,n,r⟩:=g.o.poly2 (i:=3) rfl;have e0:=n.cell;have f0:=n.frozen;clear m;refine Za ?_;obtain⟨S,U,G2,W,X,G5,G6,_⟩:=f.o;exact⟨_,_,_,_,_,_,_,_,rfl,O ⟨λh=>(S h).set1 n rfl _,λh=>(U h).set1 n rfl _,λh=>(G2 h).set1 n rfl _,λh=>(W h).set1 n rfl _,λh=>(X h).set1 n rfl _,λh=>(G5 h).set1 n rfl _,G6,⟨λh=>by simp at h,λ_=>rfl⟩⟩,O (g.o.putPoly (i:=3) rfl hv),O (R.o.set1 n rfl _)⟩
      rintro D af dp ah ⟨tu,tw,tx,ty,tA,tB,y2,y3,rfl,f,g,R⟩;obtain rfl:=f.o.2.2.2.2.2.2.1.2 (ah 6 DQ);obtain rfl:=f.o.2.2.2.2.2.2.2.2 (ah 7 DQ);clear f ah Qn;have Qo:Hid (Mem w dp [some (w.heap.size,.poly q),some (B6,.poly c),some (B9,.poly (Dk o P)),some (B10,.poly (Dk (JP z (Jh o)) P)),some (ak,.poly P)]):=g;clear g;have Qt:Hid (Mem w dp [some (w.heap.size,.poly q),some (B6,.poly c),some (B9,.poly (Dk o P)),some (B10,.poly (Dk (JP z (Jh o)) P))]):=O (Qo.o.take 4);have Qm:=O (show(Ei w0 y0 (k+1)).1=Dk o P/\(Ei w0 y0 (k+1)).2=Dk (JP z (Jh o)) P by rw[Ei];unfold Ol;rw[Qa.o.1,Qa.o.2.1,Qs.o];exact⟨rfl,rfl⟩);have Wd:T+1<=9223372036854775807:=by have:=Qh.o;omega
      clear Qo;go_wp2_with fail
      go_roundw
      case rel=>exact⟨k+1,xa,xc,J,by rw[Qj.o,Qk.o],by rw[Qh.o];go_num,by rw[Qj.o,Qk.o];exact R,by rw[Qm.o.1,Qm.o.2];exact Qt⟩
      case measure=>simp[intOf];have:=Qh.o;omega
  . obtain rfl:k=N:=J
    have Wa:¬(0:Int)<d1:=by have A:=Wj.o;rw[Qa.o.1]at A;have:=Uw.o;omega
    go_wp2_with(go_at_call 20;refine H1.o.mono ?_;clear H1;rintro e w1 ⟨rfl,hq⟩;clear Qd;have Qd:=(boxed_below bj hq).cell)
    have HF:=O (show EZ true w.heap.size w1 (C xa ll xc) (yL w0 y0 k)/\Bl w w1 by rw[Qa.o.2.2.1];exact⟨XL.o.below hq,(M6.o.below hq).2.2⟩);go_ret;exact⟨_,rfl,HF.o⟩
end M3
end
section
open Go.RowKit Go.Shelf
attribute [local go_sem] Oper.semAt_some
variable{v:I}{W:H}
theorem _root_.Go.Boxed.bel{W':H}{B:Nat}{t:TypeId}(h:Boxed W B t v)(a:Bl W W'):Boxed W' B t v:=(a.block B h.lt).trans h
theorem Gw(p:List Rat)(a:List Int)(e:p=a.map (λz:Int=>(z:Rat)))(h:a.all (λz=>decide (z.natAbs<100))=true):Cd 1 p:=by
 refine⟨1,DQ,Sm.one 1 J,Eg.cdl λi=>?_⟩;rw[e];by_cases b:i<a.length
 . refine⟨a[i],?_,?_⟩
   . have c:=A4.1 h a[i] (List.getElem_mem b);have d:a[i].natAbs<100:=Bf c;unfold Sm Z;omega
   . unfold cf;rw[CU,Ag b];rfl
 . exact⟨0,Sm.zero 1,by rw[J1 si];rfl⟩
def aP:List Rat:=[1,-1,-1,1]
theorem fW:J0 [120,94,51,45,120,94,50,45,120,43,49]=(aP,0,0):=Du
theorem TF:Jd aP=aP:=Du
theorem LJ:JC aP=aP:=Du
theorem I7:Jh aP=[-1,-2,3]:=Du
theorem Om:JL aP [-1,-2,3]=[-1,1]:=Du
theorem On:Dk aP [-1,1]=[-1,0,1]:=Du
theorem Oo:Dk [-1,-2,3] [-1,1]=[1,3]:=Du
theorem fX:Ei [-1,0,1] [1,3] 1=([-1,1],[1]):=Du
theorem fY:Ei [-1,0,1] [1,3] 2=([1],[]):=Du
theorem fZ:yL [-1,0,1] [1,3] 2=[([1,1],1),([-1,1],2)]:=Du
theorem TG:Cd 1 aP:=Gw aP [1,-1,-1,1] Du DQ
theorem gA:Cd 1 [-1,-2,3]:=Gw _ [-1,-2,3] Du DQ
theorem TH:M3.ChOk 1 aP [-1,-2,3]:=⟨TF,Du,TG,gA,DQ,DQ⟩
theorem gC:StOk 1 20 [-1,0,1] [1,3]:=by
 have a:Jh [-1,0,1]=[0,2]:=Du
 have b:JP [1,3] [0,2]=[1,1]:=Du
 have c1:Cd 1 [-1,0,1]:=Gw _ [-1,0,1] Du DQ;have c2:Cd 1 [1,1]:=Gw _ [1,1] Du DQ;have c3:Cd 1 [0,2]:=Gw _ [0,2] Du DQ;have c4:Cd 1 [1,3]:=Gw _ [1,3] Du DQ;refine⟨?_,Du,c1.mono J,?_,c4.mono J,?_,?_,DQ,?_⟩
 . rw[a,b];exact⟨Du,Du,c1,c2,DQ,DQ⟩
 . rw[a];exact c3.mono J
 . rw[a,b];exact c2.mono J
 . rw[a,b];decide
 . rw[a,b];decide
theorem gD:StOk 1 20 [-1,1] [1]:=by
 have a:Jh [-1,1]=[1]:=Du
 have b:JP [1] [1]=[]:=Du
 have c1:Cd 1 [-1,1]:=Gw _ [-1,1] Du DQ;have c2:Cd 1 []:=Gw _ [] Du DQ;have c3:Cd 1 [1]:=Gw _ [1] Du DQ;refine⟨?_,Du,c1.mono J,?_,c3.mono J,?_,?_,DQ,?_⟩
 . rw[a,b];exact⟨Du,Du,c1,c2,DQ,DQ⟩
 . rw[a];exact c3.mono J
 . rw[a,b];exact c2.mono J
 . rw[a,b];decide
 . rw[a,b];decide
theorem gE:PtOk 1 20 2 aP:=by
 refine⟨TF,TG.mono J,?_,?_,DQ,DQ,J,?_,?_⟩
 . rw[LJ,I7];exact TH
 . rw[LJ,I7];decide
 . rw[LJ,I7,Om,On,Oo];intro n a;rcases n with _|_|n
   . exact⟨DQ,gC⟩
   . rw[show(0+1:Nat)=1 from rfl,fX];exact⟨DQ,gD⟩
   . omega
 . rw[LJ,I7,Om,On,Oo,fY];decide
theorem gF:LI aP 2=[([1,1],1),([-1,1],2)]:=by
 unfold LI;rw[LJ,I7,Om,On,Oo,fZ]
theorem gG:M3.FrOk 1 aP:=by
 refine⟨?_,?_⟩
 . rw[I7];exact TH
 . rw[I7];decide
theorem gH:XO aP=[-1,0,1]:=Du
theorem gI:F9 [-1,1]=[120,45,49]:=Du
theorem gJ:F9 [-1,0,1]=[120,94,50,45,49]:=Du
theorem TI:Sqs [-1,1]:=(Gw [-1,1] [-1,1] Du DQ).sqs J
theorem TJ:Sqs [-1,0,1]:=(Gw [-1,0,1] [-1,0,1] Du DQ).sqs J
theorem EZ.two{r:Bool}{base:Nat}{p q:List Rat}{s t:Nat}(h:EZ r base W v [(p,s),(q,t)]):∃g cap a l c a' l' c',v=C (some ⟨g,0,none⟩) 2 cap/\g<W.heap.size/\W.cell? ⟨g,0,none⟩=some (C a l c)/\W.cell? ⟨g,1,none⟩=some (Q .i64 (s:Int))/\W.cell? ⟨g,2,none⟩=some (C a' l' c')/\W.cell? ⟨g,3,none⟩=some (Q .i64 (t:Int))/\RowK r W (C a l c) p/\RowK r W (C a' l' c') q:=by
 rcases h with⟨_,h⟩|⟨g,cap,n,rfl,o,b,u,w,z,j⟩
 . simp at h
 . obtain⟨x,d,e,k⟩:=j.2 0 p s rfl;obtain⟨y,f,i,m⟩:=j.2 1 q t rfl;obtain⟨a,l,c,rfl⟩:=k.form;obtain⟨a',l',c',rfl⟩:=m.form;rw[AH Y,Cj]at d e f i;exact⟨g,cap,a,l,c,a',l',c',rfl,(Ab.1 b).1,cell_of b d,cell_of b e,cell_of b f,cell_of b i,k,m⟩
theorem gK(w:H)(af:GP w):Calls Tryz.prog 15 #[] w λr o=>r=.returned (.bool true)/\Bl w o:=by
 have S:=O af;have R:=O (λ(V:H)=>show Calls Tryz.prog 23 #[.string ⟨#[120,94,51,45,120,94,50,45,120,43,49]⟩] V λr o=>∃u,r=.returned (.tuple #[u,Q .i64 0,Q .i64 0])/\Jf o u aP/\Bl V o from
  (R8 ⟨#[120,94,51,45,120,94,50,45,120,43,49]⟩ V).mono (λr o h=>by
   obtain⟨u,e,p,h1,X,h3⟩:=h;rw[KR,show Jg ⟨#[120,94,51,45,120,94,50,45,120,43,49]⟩=[120,94,51,45,120,94,50,45,120,43,49]from rfl,fW]at X;obtain⟨rfl,rfl,h4⟩:=X;exact⟨u,h1,h4,h3⟩))
 have M:=O (BB w.heap.size w);clear af;go_enter Tryz.func15,Tryz.ntmps15
 go_upto_region 2 with(go_at_call 23;refine(R.o _).mono ?_;clear R;rintro e l ⟨u,rfl,D,d⟩;obtain⟨y,l1,c1,rfl⟩:=D.form)
 replace M:=O (Bt M.o d);have f:Bl l (l.alloc (.cells #[C y l1 c1] 25)):=Ba l _;have j:=BM l 25 (C y l1 c1);have k:=D.below f;replace M:=O (Bt M.o f);clear f;obtain⟨VP,c⟩:=ex (l.alloc (.cells #[C y l1 c1] 25));obtain⟨BP,b⟩:=ex (l.heap.size);rw[c]at k M;rw[c,b]at j;rw[c];rw[b];clear c b;clear D d;have a:=O (M3.fV 1 20 2 _ aP VP k gE);rw[gF]at a;have A:=j.cell;go_upto_region 3 with(go_at_call 18;refine a.o.mono ?_;clear a;rintro e w2 ⟨u2,rfl,ah,s⟩;obtain⟨g,cap,b1,m1,d1,T,m2,U,rfl,B,x0,x1,P,x3,ai,ae⟩:=ah.two)
 replace j:=j.bel s;replace k:=k.below s;replace M:=O (Bt M.o s);have x:=O (show ∀V,Bl w2 V->V.cell? ⟨g,1,none⟩=some (Q .i64 ((1:Nat):Int))/\V.cell? ⟨g,2,none⟩=some (C T m2 U)/\Jf V (G #[C T m2 U]) [-1,1]from λV b=>⟨(b.cell (p:=⟨g,1,none⟩) B).trans x1,(b.cell (p:=⟨g,2,none⟩) B).trans P,_,rfl,ae.below b⟩);clear A x0 x1 P x3 ai ae ah s B;have a:=O (M3.Ok 1 _ aP w2 k gG);rw[gH]at a;have A:=j.cell;go_upto_region 4 with(go_at_call 16;refine a.o.mono ?_;clear a;rintro e n ⟨u3,rfl,K,ad⟩;obtain⟨z,L,c3,rfl⟩:=K.form)
 have f:Bl n (n.alloc (.cells #[C z L c3] 25)):=Ba n _;have N:=BM n 25 (C z L c3);have rF:=K.below f;have q:=Bt ad f
 replace M:=O (Bt M.o q);obtain⟨i,c⟩:=ex (n.alloc (.cells #[C z L c3] 25));obtain⟨BF,b⟩:=ex (n.heap.size);rw[c]at rF M q;rw[c,b]at N;rw[c];rw[b];have v:=O q;clear c b f ad K A j k q;have a:=O λ(V:H) (h:Bl i V)=>MG _ [-1,1] V (x.o V (Bt v.o h)).2.2 TI (λm=>KS TI Y m) (Yv S.o (Bt M.o h));rw[gI]at a;have t:=O λ(V:H) (h:Bl i V)=>MG _ [-1,0,1] V (rF.below h) TJ (λm=>KS TJ Y m) (Yv S.o (Bt M.o h));rw[gJ]at t;have hq:Bl i i:=BB _ _;have W:=(N.bel hq).cell;have e1:=(x.o i v.o).1;have e2:=(x.o i v.o).2.1;go_wp2_with(first
  |(go_at_call 11;refine(a.o _ hq).mono ?_;clear a;rintro e x1 ⟨rfl,d⟩;replace hq:=Bt hq d;clear d W;have W:=(N.bel hq).cell)
  |(go_at_call 11;refine(t.o _ hq).mono ?_;clear t;rintro e P ⟨rfl,d⟩;replace hq:=Bt hq d;clear d))
 go_ret;exact⟨rfl,Bt M.o hq⟩
end
section
variable{S:List Rat}{l:List UInt8}{i k n x:Nat}{c:Rat}
theorem TK(h:l.all DY=true):num l<10^l.length:=by
 have:=Yl (LS h);rwa[Ki]at this
def Fr(x:Nat)(c:Rat):Prop:=∃(a b:Nat) (y z:Nat),c=Rat.divInt a b/\a<=10^y/\b<=10^z/\b≠0/\y+z<=x
theorem Fr.mono{y:Nat}(h:Fr x c)(j:x<=y):Fr y c:=by
 obtain⟨a,b,u,v,d,e,f,g,i⟩:=h;exact⟨a,b,u,v,d,e,f,g,J⟩
theorem Fr.one:Fr 0 1:=⟨1,1,0,0,DQ,DQ,DQ,DQ,DQ⟩
theorem gL(r:i<=l.length)(h:Yi l i=.ok c k):Fr (k-i) c:=by
 unfold Yi at h;split at h
 . cases h
 . rename_i ds p a g;have b:=Hj r g;have t:=Gi l a;have q:=TK b.2.2.2.2.2.2.2.2;rw[b.2.2.2.2.2.2.2.1]at q;split at h
   . rename_i d;have d:=Yb d;split at h
     . cases h
     . rename_i f s m n;have e:=Hj J n;have o:=TK e.2.2.2.2.2.2.2.2;rw[e.2.2.2.2.2.2.2.1]at o;split at h
       . cases h
       . rename_i j;cases h;exact⟨num ds,num f,a-p,k-s,rfl,J,J,j,J⟩
   . cases h;exact⟨num ds,1,a-p,0,(OI _).symm,J,DQ,DQ,J⟩
theorem gM(g:i<=l.length)(h:Yd l i=.ok (c,n) k):Fr (k-i) c:=by
 unfold Yd at h;have p:=Gi l i;have d:=YO g;split at h
 . split at h
   . cases h
   . rename_i c' j b;have o:=NG d b;have a:=gL d b;have q:=Gi l j;split at h
     . rename_i e;have e:=Yb e;split at h
       . cases h
       . rename_i s m f;have r:=NH J f;cases h;exact a.mono J
     . cases h;exact a.mono J
 . split at h
   . split at h
     . cases h
     . cases h;exact Fr.one.mono J
   . cases h
def GU(i:Nat)(S:List Rat):Prop:=S.length=9/\∃D:Int,D≠0/\D.natAbs<=10^i/\∀j,∃z:Int,z.natAbs<=10^i/\cf S j=Rat.divInt z D
theorem GU.mono(h:GU i S)(e:i<=k):GU k S:=by
 obtain⟨a,D,b,f,c⟩:=h;have hp:(10:Nat)^i<=10^k:=Aw J e;exact⟨a,D,b,J,λj=>by obtain⟨z,g,d⟩:=c j;exact⟨z,J,d⟩⟩
theorem GU.start(i:Nat):GU i (List.replicate 9 0):=⟨rfl,1,DQ,by have:1<=10^i:=Fe J;simpa using this,λj=>⟨0,Y,by rw[JQ,Rat.zero_divInt]⟩⟩
theorem GU.next(h:GU i S)(s:Fr x c)(L:n<=8)(b:Bool):GU (i+x+1) (S.set n (if b then cf S n-c else cf S n+c)):=by
 obtain⟨m,D,g,o,p⟩:=h;obtain⟨a,d,y,z,rfl,r,t,K,M⟩:=s;have f:(d:Int)≠0:=J
 have u:(10:Nat)^i*10^z<=10^(i+x):=by rw[<-CI];exact Aw J J
 have v:(10:Nat)^y*10^i<=10^(i+x):=by rw[<-CI];exact Aw J J
 have e:∀w:Int,w.natAbs<=10^i->(w*(d:Int)).natAbs<=10^(i+x):=λw e=>by
  rw[CY,AP];exact Ar (CC e t) u
 have B:((a:Int)*D).natAbs<=10^(i+x):=by
  rw[CY,AP];exact Ar (CC r o) v
 refine⟨by rw[Cs];exact m,D*d,Co g f,by have:=e D o;omega,λj=>?_⟩;rw[XG _ _ _ _ (by rw[m];omega)];by_cases q:j=n
 . rw[BG q];obtain⟨w,k,l⟩:=p n;have A:=e w k;rw[l];cases b with
   |true=>
    refine⟨w*d-a*D,by have:=Int.natAbs_sub_le (w*(d:Int)) ((a:Int)*D);omega,?_⟩;rw[BG rfl,FC,Rat.neg_divInt,FH _ _ g f];congr 1;rw[Int.neg_mul];rfl
   |false=>
    refine⟨w*d+a*D,by have:=Int.natAbs_add_le (w*(d:Int)) ((a:Int)*D);omega,?_⟩;rw[BE DQ,FH _ _ g f]
 . rw[BE q];obtain⟨w,k,l⟩:=p j;exact⟨w*d,by have:=e w k;omega,by rw[l,C0 f]⟩
theorem TL:∀(f:Nat) (b:Bool) (I:Nat) (S d:List Rat) (k:Nat),I<=l.length->GU I S->Ek l f b I S=.ok d k->GU (l.length+1) d:=by
 intro f;induction f with
 |zero=>intro b I S d k _ _ h;cases h
 |succ f o=>
  intro b I S d k m r h;cases g:Yd l I with
  |error e p=>rw[MO g]at h;cases h
  |ok a s=>
   obtain⟨c,n⟩:=a;have q:=LV m g;have i:=r.next (gM m g) q.2.2 b;have t:=Gi l s;rw[MP g]at h;split at h
   . rename_i j;have:=Yb j;exact o _ _ _ _ _ J (i.mono J) h
   . split at h
     . rename_i j;have:=Yb j;exact o _ _ _ _ _ J (i.mono J) h
     . split at h
       . cases h;exact i.mono J
       . cases h
theorem gN(h:EY l=.ok S k):GU (l.length+1) S:=by
 unfold EY at h;have a:=YO (l:=l) (i:=0) J;split at h
 . rename_i b;have:=Yb b;exact TL _ _ _ _ _ _ J (GU.start _) h
 . exact TL _ _ _ _ _ _ a (GU.start _) h
theorem gO(a b c:Nat)(h:a*b<64*c):((2:Nat)^a)^b<Z^c:=by
 rw[show Z=2^64 from by decide,<-FJ,<-FJ];exact Nat.pow_lt_pow_right J h
theorem gP(h:n<=43*k)(c:k<=7):(10:Nat)^n<Z^16:=by
 have b:((10:Nat)^43)^k<=(2^143)^k:=CS DQ k;have a:(10:Nat)^n<=10^(43*k):=Aw J h;rw[FJ]at a;exact Cp (Ar a b) (gO 143 k 16 J)
theorem gS(l:List UInt8):∃D:Int,D≠0/\Sm 16 D/\ED D 16 (J0 l).1:=by
 have a:∃D:Int,D≠0/\Sm 16 D/\ED D 16 []:=⟨1,DQ,Sm.one _ J,λi=>by rw[Yw];exact CD.zero _ _⟩;by_cases h:300<l.length
 . rw[show J0 l=([],1,0)by unfold J0;rw[BG h]];exact a
 . rw[K7 h];cases b:EY l with
   |error e p=>exact a
   |ok S k=>
    rw[show(KO (EStateM.Result.ok S k)).1=Jd S from rfl];obtain⟨_,D,c,g,d⟩:=gN b;have b:=gP (n:=l.length+1) (k:=7) J J;exact⟨D,c,by unfold Sm;omega,λi=>by
     obtain⟨z,j,f⟩:=d i;exact⟨z,by rw[JR];exact f,by unfold Sm;omega⟩⟩
open Go.RowKit Go.Shelf
attribute [local go_sem] Oper.semAt_some
theorem gT(l:List UInt8):Jd (J0 l).1=(J0 l).1:=by
 by_cases h:300<l.length
 . rw[show J0 l=([],1,0)by unfold J0;rw[BG h]];rfl
 . rw[K7 h];cases EY l with
   |error e p=>rfl
   |ok S k=>exact Yj _
theorem TM(s:ByteArray)(hs:s.size<=140737488351232)(w:H):
 Calls Tryz.prog 10 #[.string s] w λe c=>∃u,e=.returned u/\RowK false c u (J0 (Jg s)).1/\Bl w c:=by
 have a:=O λ(V:H)=>bQ s hs V;clear hs;go_enter Tryz.func10,Tryz.ntmps10
 go_wp2_with(go_at_call 29;refine(a.o _).mono ?_;clear a;rintro e j ⟨u,g,i,rfl,⟨rfl,rfl,b,_,_⟩,d⟩;obtain⟨f,l2,c2,rfl⟩:=b.form)
 go_ret;exact⟨_,rfl,b,d⟩
theorem TN(s:ByteArray)(w:H):
 Calls Tryz.prog 7 #[.string s] w λe y=>∃u,e=.returned u/\Jf y u (J0 (Jg s)).1/\Bl w y:=by
 have r:=O λ(V:H)=>R8 s V;have b0:=BM w 25 (C none 0 0);have i:Bl w (w.alloc (.cells #[C none 0 0] 25)):=Ba w _;obtain⟨M,m⟩:=ex (w.alloc (.cells #[C none 0 0] 25));obtain⟨z,k⟩:=ex (w.heap.size);rw[m]at b0 i;rw[k]at b0;obtain⟨A,t,K,x⟩:=D0 b0 i m k;clear b0 i m k;go_enter Tryz.func7,Tryz.ntmps7
 go_upto_region 1 with fail
 rw[K.o,x.o];go_upto_region 2 with(go_at_call 23;refine(r.o _).mono ?_;clear r;rintro e b ⟨u,P,R,rfl,⟨rfl,rfl,n⟩,g⟩;obtain⟨a,l1,c1,rfl⟩:=n.form)
 have d:Bl b (b.alloc (.cells #[C a l1 c1] 25)):=Ba b _;have o:=BM b 25 (C a l1 c1);have c:=(A.o.bel g).bel d;have q:=n.row.below d;have j:=(Bt t.o g).trans (d.mono (Bt t.o g).size);obtain⟨N,f⟩:=ex (b.alloc (.cells #[C a l1 c1] 25));obtain⟨L,l⟩:=ex (b.heap.size);rw[f,l]at o;rw[f]at c q j;rw[f,l];have x1:=o.cell;have x0:=c.cell;have f0:=c.frozen;have B:=O (FZ c (C a l1 c1) q);have D:=O (j.setCell (p:=⟨z,0,none⟩) (by rw[x.o];exact Aa _) (C a l1 c1));clear d o c q j f l n g;go_wp2_with fail
 exact BA (v:=G #[C a l1 c1]) (by simp[results,Tryz.results7,go_sem,x0]) rfl ⟨_,rfl,⟨_,rfl,B.o⟩,D.o⟩
end
open Go.RowKit Go.Shelf
variable{p:List Rat}{M:Nat}
theorem TO(l:List UInt8):Cd 16 (J0 l).1:=gS l
theorem Cd.mul{M N:Nat}{p q:List Rat}(h:Cd M p)(g:Cd N q):Cd (M+N+p.length) (Jv p q):=by
 obtain⟨D,d1,b,c⟩:=h;obtain⟨E,d,e,f⟩:=g;have a:D*E≠0:=Co d1 d;exact⟨D*E,a,(b.mul e).mono J,λi=>dU a (λi j=>(c i).mul (f j)) i⟩
theorem Cd.times{N:Nat}{q:List Rat}(h:Cd M p)(f:Cd N q)(hl:M+N+p.length+1<=1000000000):M3.X9 p q:=by
 obtain⟨D,d1,a,b⟩:=h;obtain⟨E,c,d,e⟩:=f;exact dT (Co d1 c) ((a.mul d).mono J) (λi j=>(b i).mul (e j)) hl
theorem Cd.slope(h:Cd M p)(hl:p.length<=1000000000):Cd (M+1) (Jh p):=by
 obtain⟨D,d1,a,b⟩:=h;refine⟨D,d1,a.mono J,λi=>?_⟩;rw[Og];by_cases e:i+1<p.length
 . have c:=(b (i+1)).mul (E:=1) (M:=1) (d:=(((i+1:Nat):Int):Rat)) ⟨((i+1:Nat):Int),by rw[CV,show((1:Int):Rat)=1 from rfl];grind,by unfold Sm Z;rw[AP];omega⟩;rwa[Int.mul_one]at c
 . rw[J1 J,CE];exact CD.zero _ _
namespace M3
theorem TP(a b:I)(ps qs:List Rat)(w:H)(i:Jf w a ps)(j:Jf w b qs)(m:Sqs ps)(n:Sqs qs)(l:X9 ps qs)(k:ps.length+qs.length<=1099511627776):
 Calls Tryz.prog 9 #[a,b] w λe c=>∃u,e=.returned u/\Jf c u (Jv ps qs)/\Bl w c:=by
 refine(aJ a b ps qs w i j m n l k).mono ?_;rintro e c ⟨u,d,f,_,g⟩;exact⟨u,d,f,g⟩
theorem ChOk.of{K:Nat}{p q:List Rat}(tp:Jd p=p)(tq:Jd q=q)(cp:Cd K p)(cq:Cd K q){n:Nat}(lp:p.length<=n)(lq:q.length<=n)(hle:4*((n+2)*((K+1)*(n+n+1)+1))<=1000000000)(c:n<=1000):ChOk K p q:=by
 refine⟨tp,tq,cp,cq,?_,J⟩;have a:Db K p q<=(K+1)*(n+n+1):=Av _ J;have b:(max p.length q.length+2)*(Db K p q+1)<=(n+2)*((K+1)*(n+n+1)+1):=CC J J;omega
attribute [local go_sem] Oper.semAt_some
end M3

