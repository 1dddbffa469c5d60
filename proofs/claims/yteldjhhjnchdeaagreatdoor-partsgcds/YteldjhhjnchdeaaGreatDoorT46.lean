import Derived.Test.YteldjhhjnchdeaaGreatDoorT45
open Go renaming undef->C,World->F,Value->H
open Go.Value renaming slice->E,pointer->G,agg->I,string->L
open Go.Obj renaming cells->Q
set_option maxRecDepth 100000
set_option maxHeartbeats 16000000
namespace Go.Proofs.YteldjhhjnchdeaaGreatDoor
section
open Go.RowKit Go.Shelf
def Oi(s:List Rat × List Rat):List Rat × List Rat:=(Dk s.1 (JH s.1 (JO s.2 (Ji s.1))),Dk (JO s.2 (Ji s.1)) (JH s.1 (JO s.2 (Ji s.1))))
def Eh(w y:List Rat):Nat->List Rat × List Rat
 |0=>(w,y)
 |n+1=>Oi (Eh w y n)
def yP(s:List Rat × List Rat):List Rat:=JH s.1 (JO s.2 (Ji s.1))
def yL(w y:List Rat):Nat->List (List Rat × Nat)
 |0=>[]
 |n+1=>yL w y n++(if 1<(yP (Eh w y n)).length then [(yP (Eh w y n),n+1)]else [])
theorem fZ(w y:List Rat):∀n,(yL w y n).length<=n:=by
 intro n;induction n with
 |zero=>exact Aa _
 |succ n a=>
  rw[yL,Ai];split
  . simp;omega
  . simp;omega
structure StOk(K M:Nat)(w y:List Rat):Prop where
 ch:M3.ChOk K w (JO y (Ji w))
 ty:Jd y=y
 cw:Cd M w
 cs:Cd M (Ji w)
 cy:Cd M y
 cz:Cd M (JO y (Ji w))
 kM:Dc K w (JO y (Ji w))<=M
 l1:2*((w.length+3)*(M+1))<=1000000000
 l2:2*(((JO y (Ji w)).length+3)*(M+1))<=1000000000
structure PtOk(K M N:Nat)(p:List Rat):Prop where
 tp:Jd p=p
 cp:Cd M p
 ch:M3.ChOk K (JD p) (Ji (JD p))
 kM:Dc K (JD p) (Ji (JD p))<=M
 l1:2*((p.length+3)*(M+1))<=1000000000
 gt:1<p.length
 nN:N<=1000000000
 st:∀n,n<N->1<(Eh (Dk (JD p) (JH (JD p) (Ji (JD p)))) (Dk (Ji (JD p)) (JH (JD p) (Ji (JD p)))) n).1.length/\StOk K M (Eh (Dk (JD p) (JH (JD p) (Ji (JD p)))) (Dk (Ji (JD p)) (JH (JD p) (Ji (JD p)))) n).1 (Eh (Dk (JD p) (JH (JD p) (Ji (JD p)))) (Dk (Ji (JD p)) (JH (JD p) (Ji (JD p)))) n).2
 en:(Eh (Dk (JD p) (JH (JD p) (Ji (JD p)))) (Dk (Ji (JD p)) (JH (JD p) (Ji (JD p)))) N).1.length<=1
def LK(p:List Rat)(N:Nat):List (List Rat × Nat):=yL (Dk (JD p) (JH (JD p) (Ji (JD p)))) (Dk (Ji (JD p)) (JH (JD p) (Ji (JD p)))) N
namespace M3
def Ez(base:Nat)(V:F)(v:H)(L:List (List Rat × Nat)):Prop:=EY true base V v L
section
variable {base:Nat} {V V':World} {v:Value} {L:List (List Rat × Nat)}
theorem Ez.below(h:Ez base V v L)(a:Bl V V'):Ez base V' v L:=EY.below h a
theorem Ez.drew(h:Ez base V v L):Ez base V.drew v L:=EY.below h ((BB _ V).drew)
theorem Ez.alloc(h:Ez base V v L)(o:Obj):Ez base (V.alloc o) v L:=EY.below h (Ba V o)
theorem Ez.set1(h:Ez base V v L){B:Nat}{a:Option Addr}{l c:Nat}(q:Boxed V B 25 (E a l c))(_:JA (E a l c)=true)(b:H):Ez base (V.setCell ⟨B,0,none⟩ b) v L:=EY.set h q (λ_ _ g=>F0 q b g)
end
theorem gA(a b:H)(ps qs:List Rat)(w:F)(i:Jf w a ps)(j:Jf w b qs)(k:Sqs ps)(l:Sqs qs)(m:Sqs (JO ps qs)):
 Calls Tryz.prog 48 #[a,b] w λe c=>∃u,e=.returned u/\Jf c u (JO ps qs)/\Bl w c:=by
 refine(RC a b ps qs w i j k l m).mono ?_;rintro e c ⟨u,d,f,_,g⟩;exact⟨u,d,f,g⟩
theorem TG{M:Nat}{w:List Rat}(h:Cd M (Ji w))(b:M<=1000000000)(i:Nat):Sq (IK w i):=by
 have a:=(h.sqs b).at i;unfold Ji at a;rwa[JR,I5]at a
attribute [local go_sem] Oper.semAt_some
theorem gC(K M N:Nat)(v:H)(p:List Rat)(w:F)(h:Jf w v p)(ai:PtOk K M N p):
 Calls Tryz.prog 18 #[v] w λe w'=>∃u,e=.returned u/\EY true w.heap.size w' u (LK p N)/\Bl w w':=by
 have Ql:Tryz.prog.follows .mixedOrders=true:=by kernel_rfl
 obtain⟨q,hq⟩:=ex (JD p);obtain⟨c,hc⟩:=ex (JH q (Ji q));obtain⟨w0,bg⟩:=ex (Dk q c);obtain⟨y0,bh⟩:=ex (Dk (Ji q) c);have hM:M<=1000000000:=by
  have A:=ai.l1
  have:1*(M+1)<=(p.length+3)*(M+1):=Ak _ J
  omega
 have Qq:=ai.ch;have Ui:=ai.kM;rw[hq]at Qq Ui;have Uz:q.length=p.length:=by rw[<-hq];exact Yk ai.tp
 have Qu:Cd M q:=by rw[<-hq];exact ai.cp.mon ai.tp
 have Uj:Jd q=q:=by rw[<-hq];exact Xb _
 have Uf:Cd M (Ji q):=(show Cd K (Ji q)from Qq.cq).mono (by have:=Hd K q (Ji q);omega);have Qw:Cd M c:=by rw[<-hc];exact Qq.gcd.mono Ui
 have Uk:Jd c=c:=by rw[<-hc];exact YP _ _
 have Uc:JD c=c:=by rw[<-hc];exact LH Uj (Xi _)
 have Ux:2*(((Ji q).length+3)*(M+1))<=1000000000:=by
  have A:(Ji q).length<=q.length:=As (Yq _) (by simp[IZ]);have h2:((Ji q).length+3)*(M+1)<=(p.length+3)*(M+1):=Ak _ J;have h3:=ai.l1;omega
 obtain⟨Ug,Up,Uh,Ut,Us,Uq⟩:=I7 (λ(V:F) (x:H) (r:List Rat) (hx:Jf V x r)=>YF x r V hx) (λ(V:F) (x:H) (hx:Jf V x p)=>show Calls Tryz.prog 26 #[x] V λe w'=>∃u,e=.returned u/\Jf w' u q/\Bl V w' by rw[<-hq];exact TF M x p V hx ai.tp ai.cp hM) (λ(V:F) (x:H) (hx:Jf V x q)=>OZ x q V hx (Qu.sqs hM) (TG Uf hM)) (λ(V:F) (x y:H) (hx:Jf V x q) (hy:Jf V y (Ji q))=>show Calls Tryz.prog 8 #[x,y] V λe w'=>∃u,e=.returned u/\Jf w' u c/\Bl V w' by rw[<-hc];exact LG K x y q (Ji q) V hx hy Qq) (λ(V:F) (x y:H) (hx:Jf V x q) (hy:Jf V y c)=>show Calls Tryz.prog 46 #[x,y] V λe w'=>∃u,e=.returned u/\Jf w' u w0/\Bl V w' by rw[<-bg];exact LJ M x y q c V hx hy Qu Qw Uj Uk Uc (by rw[Uz];exact ai.l1)) (λ(V:F) (x y:H) (hx:Jf V x (Ji q)) (hy:Jf V y c)=>show Calls Tryz.prog 46 #[x,y] V λe w'=>∃u,e=.returned u/\Jf w' u y0/\Bl V w' by rw[<-bh];exact LJ M x y (Ji q) c V hx hy Uf Qw (Xi _) Uk Uc Ux);have Qv:=ai.st;have Qz:=ai.en;rw[hq,hc,bg,bh]at Qv Qz;obtain⟨Uy,Wj,Wl⟩:=Dg Qv Qz (show LK p N=yL w0 y0 N by unfold LK;rw[hq,hc,bg,bh]);rw[Wl.o];obtain⟨Wh,Wi,Wk⟩:=Dg (λ(a b:List Rat) (ho:StOk K M a b) (V:F) (x:H) (hx:Jf V x a)=>OZ x a V hx (ho.cw.sqs hM) (TG ho.cs hM)) (λ(a b:List Rat) (ho:StOk K M a b) (V:F) (x y:H) (hx:Jf V x b) (hy:Jf V y (Ji a))=>gA x y b (Ji a) V hx hy (ho.cy.sqs hM) (ho.cs.sqs hM) (ho.cz.sqs hM)) λ(a b:List Rat) (ho:StOk K M a b) (V:F) (x y:H) (hx:Jf V x a) (hy:Jf V y (JO b (Ji a)))=>LG K x y a (JO b (Ji a)) V hx hy ho.ch;have Qf:∀(a b:List Rat),StOk K M a b->Cd M (JH a (JO b (Ji a)))/\Jd (JH a (JO b (Ji a)))=JH a (JO b (Ji a))/\JD (JH a (JO b (Ji a)))=JH a (JO b (Ji a)):=λa b ho=>⟨ho.ch.gcd.mono ho.kM,YP _ _,LH ho.ch.tp ho.ch.tq⟩;have Wc:=O λ(a b:List Rat) (ho:StOk K M a b) (V:F) (x y:H) (hx:Jf V x a) (hy:Jf V y (JH a (JO b (Ji a))))=>LJ M x y a (JH a (JO b (Ji a))) V hx hy ho.cw (Qf a b ho).1 ho.ch.tp (Qf a b ho).2.1 (Qf a b ho).2.2 ho.l1;have Wm:=O λ(a b:List Rat) (ho:StOk K M a b) (V:F) (x y:H) (hx:Jf V x (JO b (Ji a))) (hy:Jf V y (JH a (JO b (Ji a))))=>LJ M x y (JO b (Ji a)) (JH a (JO b (Ji a))) V hx hy ho.cz (Qf a b ho).1 ho.ch.tq (Qf a b ho).2.1 (Qf a b ho).2.2 ho.l2;have Ud:¬(p.length:Int)-1<1:=by have:=ai.gt;omega
 obtain⟨d0,cg⟩:=ex ((p.length:Int)-1:Int);rw[cg]at Ud;have Wg:=O cg;have fc:N<=1000000000:=ai.nN;obtain⟨pa,la,pc,rfl⟩:=h.form;have M0:=(Mem.nil w).push (.poly p) (cs:=#[E pa la pc]) h;obtain⟨W0,bu⟩:=ex (w.alloc (Q #[E pa la pc] 25));have Uo:=O bu;have M1:Hid (Mem w W0 [some (w.heap.size,.poly p)]):=O (by rw[<-bu];exact M0);clear M0 bu h ai Qq Ui Uz Qu Uj Uf Qw Uk Uc Ux Qv Qz Qf hM hq hc bg bh cg;go_enter Tryz.func18,Tryz.ntmps18
 go_upto_region 1 with fail
 rw[Uo.o];clear Uo;obtain⟨a1,l1,c1,n1,r1⟩:=M1.o.poly2 (i:=0) rfl;have Ua:=n1.cell;have H1:=O (Ug.o W0 _ p r1);rw[Wg.o]at H1;go_upto_region 3 with(go_at_call 20;refine H1.o.mono ?_;clear H1;rintro e w1 ⟨rfl,hq⟩;clear Ua;have Ua:=(boxed_below n1 hq).cell)
 have M2:Hid (Mem w w1 [some (w.heap.size,.poly p)]):=O (M1.o.below hq);clear M1;clear hq n1 r1 Ua;obtain⟨a2,l2,c2,n2,r2⟩:=M2.o.poly2 (i:=0) rfl;have Ub:=n2.cell;have Qy:=n2.frozen;have H1:=O (Up.o w1 _ r2);clear Up;go_upto_region 4 with(go_at_call 26;refine H1.o.mono ?_;clear H1;rintro e w2 ⟨u2,rfl,co,hq⟩;obtain⟨am,ap,an,rfl⟩:=Jf.form co;clear Ub;have Ub:=(boxed_below n2 hq).cell;clear Qy;have Qy:=(boxed_below n2 hq).frozen)
 obtain⟨V3,hV⟩:=ex (w2.setCell ⟨w.heap.size,0,none⟩ (E am ap an));have g:Mem w (w2.setCell ⟨w.heap.size,0,none⟩ (E am ap an)) [some (w.heap.size,.poly q)]:=Mem.putPoly (M2.o.below hq) (i:=0) rfl co;rw[hV]at g;rw[hV];have M3:Hid (Mem w V3 [some (w.heap.size,.poly q)]):=O (g);clear M2;clear g hV;clear co hq n2 r2 Ub Qy;refine Jp Ql [[],[],[1],[0,2,2],[],[4,3,3,0,1,2,3,4]] (by kernel_rfl) DQ
  (λD af V=>∃(ta tb tc td tt:H) (x4:Option (Nat × Dat)),af={ tmps:=#[I #[E pa la pc],G (some ⟨w.heap.size,0,none⟩),E none 0 0,tt,C,C,C,C,C,I #[E a1 l1 c1],.int .i64 d0,.bool (decide (d0<1)),I #[E a2 l2 c2],I #[E am ap an],ta,tb,tc,td,C,C,C,C,C,C,C,C,C,C,C,C,C,C,C,C,C,C,C,C,C,C,C,C,C,C,C,C,C,C,C,C,C,C,C],defers:=[] }/\Hid ((D 0=true->Has V ta (.poly q))/\(D 1=true->Has V tb (.poly q))/\(D 2=true->Has V tc (.poly (Ji q)))/\(D 3=true->Has V td (.poly c))/\((D 4=false->x4=none)/\(D 4=true->D 5=false->∃B:Nat,tt=G (some ⟨B,0,none⟩)/\x4=some (B,.poly []))/\(D 5=true->∃B:Nat,tt=G (some ⟨B,0,none⟩)/\x4=some (B,.poly c))))/\Hid (Mem w V [some (w.heap.size,.poly q),x4]))
  ⟨_,_,_,_,_,none,rfl,O ⟨Y,Y,Y,Y,Y⟩,O ((M3.o).none).drew⟩ ?step4 ?fin4
 case step4=>
  rintro D af V i ds aj hi m ad ⟨ta,tb,tc,td,tt,x4,rfl,f,g⟩;have Qr:i<6:=(Ad.1 hi).1;obtain rfl|rfl|rfl|rfl|rfl|rfl:=LM i J
  all_goals
   simp only[Af,Ae,Ah]at hi;subst hi
  . clear m;obtain⟨a,l,c,n,r⟩:=g.o.poly2 (i:=0) rfl;have e0:=n.cell;refine Za ?_;exact⟨_,_,_,_,_,_,rfl,(Di f λ_=>r),O (g.o)⟩
  . clear m;obtain⟨a,l,c,n,r⟩:=g.o.poly2 (i:=0) rfl;have e0:=n.cell;refine Za ?_;exact⟨_,_,_,_,_,_,rfl,(Dl f λ_=>r),O (g.o)⟩
  . have s:=(f.o.2.1 (m 1 Y));have HC:=O (Uh.o V _ s);clear m s;refine Jb rfl rfl λK hK=>?_;go_simp;go_wp2_with(go_at_call 24;refine HC.o.mono ?_;rintro e w5 ⟨v5,rfl,ae,j⟩)
    exact⟨_,_,_,_,_,_,rfl,O ⟨λh=>(f.o.1 h).below j,λh=>(f.o.2.1 h).below j,λ_=>ae,λh=>(f.o.2.2.2.1 h).below j,f.o.2.2.2.2⟩,O (g.o.below j)⟩
  . have s:=(f.o.1 (m 0 Y));have A:=(f.o.2.2.1 (m 2 Y));have HC:=O (Ut.o V _ _ s A);clear m s A;refine Jb rfl rfl λK hK=>?_;go_simp;go_wp2_with(go_at_call 8;refine HC.o.mono ?_;rintro e w5 ⟨v5,rfl,ae,j⟩)
    exact⟨_,_,_,_,_,_,rfl,O ⟨λh=>(f.o.1 h).below j,λh=>(f.o.2.1 h).below j,λh=>(f.o.2.2.1 h).below j,λ_=>ae,f.o.2.2.2.2⟩,O (g.o.below j)⟩
  . have hf:D 5=false:=DS aj ad;obtain rfl:=f.o.2.2.2.2.1 ad;clear m;refine Za ?_;exact⟨_,_,_,_,_,_,rfl,O ⟨λh=>(f.o.1 h).alloc _,λh=>(f.o.2.1 h).alloc _,λh=>(f.o.2.2.1 h).alloc _,λh=>(f.o.2.2.2.1 h).alloc _,⟨λh=>by simp at h,λ_ _=>⟨_,rfl,rfl⟩,λh=>by simp[hf]at h⟩⟩,O (g.o.fill (i:=1) rfl (.poly []) (He _))⟩
  . obtain⟨B,rfl,rfl⟩:=Do f (m 4 Y) ad;have Qc:=m 4 Y;have hv:=(f.o.2.2.2.1 (m 3 Y));obtain⟨a1,l1,c1,rfl⟩:=Jf.form (show Jf V _ _ from hv);obtain⟨a,l,c,n,r⟩:=g.o.poly2 (i:=1) rfl;have e0:=n.cell;have f0:=n.frozen;clear m;refine Za ?_;exact⟨_,_,_,_,_,_,rfl,O ⟨λh=>(f.o.1 h).set1 n rfl _,λh=>(f.o.2.1 h).set1 n rfl _,λh=>(f.o.2.2.1 h).set1 n rfl _,λh=>(f.o.2.2.2.1 h).set1 n rfl _,⟨λh=>by simp[Qc]at h,λ_ h=>by simp at h,λ_=>⟨B,rfl,rfl⟩⟩⟩,O (g.o.putPoly (i:=1) rfl hv)⟩
 rintro D af V5 ah ⟨ta,tb,tc,td,tt,x4,rfl,f,g⟩;obtain⟨B6,rfl,rfl⟩:=f.o.2.2.2.2.2.2 (ah 5 DQ);clear f ah M3;have M4:Hid (Mem w V5 [some (w.heap.size,.poly q),some (B6,.poly c)]):=g;clear g;go_upto_region 5 with fail
 refine Jp Ql [[],[],[0,1],[],[3,2],[],[4,5,4],[],[],[7,2,6,0,1,2,7,8],[8,6,9,0,1,2,3,4,5,6,7,8,9]] (by kernel_rfl) DQ
  (λD af V=>∃(te tf tg ti tj tk tl tz tC:H) (x7 x8:Option (Nat × Dat)),af={ tmps:=#[I #[E pa la pc],G (some ⟨w.heap.size,0,none⟩),E none 0 0,G (some ⟨B6,0,none⟩),tz,tC,C,C,C,I #[E a1 l1 c1],.int .i64 d0,.bool (decide (d0<1)),I #[E a2 l2 c2],I #[E am ap an],ta,tb,tc,td,te,tf,tg,ti,tj,tk,tl,C,C,C,C,C,C,C,C,C,C,C,C,C,C,C,C,C,C,C,C,C,C,C,C,C,C,C,C],defers:=[] }/\Hid ((D 0=true->Has V te (.poly q))/\(D 1=true->Has V tf (.poly c))/\(D 2=true->Has V tg (.poly w0))/\(D 3=true->Has V ti (.poly q))/\(D 4=true->Has V tj (.poly (Ji q)))/\(D 5=true->Has V tk (.poly c))/\(D 6=true->Has V tl (.poly y0))/\((D 7=false->x7=none)/\(D 7=true->D 9=false->∃B:Nat,tz=G (some ⟨B,0,none⟩)/\x7=some (B,.poly []))/\(D 9=true->∃B:Nat,tz=G (some ⟨B,0,none⟩)/\x7=some (B,.poly w0)))/\((D 8=false->x8=none)/\(D 8=true->D 10=false->∃B:Nat,tC=G (some ⟨B,0,none⟩)/\x8=some (B,.poly []))/\(D 10=true->∃B:Nat,tC=G (some ⟨B,0,none⟩)/\x8=some (B,.poly y0))))/\Hid (Mem w V [some (w.heap.size,.poly q),some (B6,.poly c),x7,x8]))
  ⟨_,_,_,_,_,_,_,_,_,none,none,rfl,O ⟨Y,Y,Y,Y,Y,Y,Y,Y,Y⟩,O (((M4.o).none).none).drew⟩ ?step7 ?fin7
 case step7=>
  rintro D af V i ds aj hi m ad ⟨te,tf,tg,ti,tj,tk,tl,tz,tC,x7,x8,rfl,f,g⟩;have Qr:i<11:=(Ad.1 hi).1;obtain rfl|rfl|rfl|rfl|rfl|rfl|rfl|rfl|rfl|rfl|rfl:=Gb i J
  all_goals
   simp only[Af,Ae,Ah]at hi;subst hi
  . clear m;obtain⟨a,l,c,n,r⟩:=g.o.poly2 (i:=0) rfl;have e0:=n.cell;refine Za ?_;exact⟨_,_,_,_,_,_,_,_,_,_,_,rfl,(Di f λ_=>r),O (g.o)⟩
  . clear m;obtain⟨a,l,c,n,r⟩:=g.o.poly2 (i:=1) rfl;have e0:=n.cell;refine Za ?_;exact⟨_,_,_,_,_,_,_,_,_,_,_,rfl,(Dl f λ_=>r),O (g.o)⟩
  . have s:=(f.o.1 (m 0 Y));have A:=(f.o.2.1 (m 1 Y));have HC:=O (Us.o V _ _ s A);clear m s A;refine Jb rfl rfl λK hK=>?_;go_simp;go_wp2_with(go_at_call 46;refine HC.o.mono ?_;rintro e w5 ⟨v5,rfl,ae,j⟩)
    obtain⟨S,U,_,W,X,G5,G6,G7⟩:=f.o;exact⟨_,_,_,_,_,_,_,_,_,_,_,rfl,O ⟨λh=>(S h).below j,λh=>(U h).below j,λ_=>ae,λh=>(W h).below j,λh=>(X h).below j,λh=>(G5 h).below j,λh=>(G6 h).below j,G7⟩,O (g.o.below j)⟩
  . clear m;obtain⟨a,l,c,n,r⟩:=g.o.poly2 (i:=0) rfl;have e0:=n.cell;refine Za ?_;exact⟨_,_,_,_,_,_,_,_,_,_,_,rfl,(Dj f λ_=>r),O (g.o)⟩
  . have s:=(f.o.2.2.2.1 (m 3 Y));have HC:=O (Uh.o V _ s);clear m s;refine Jb rfl rfl λK hK=>?_;go_simp;go_wp2_with(go_at_call 24;refine HC.o.mono ?_;rintro e w5 ⟨v5,rfl,ae,j⟩)
    obtain⟨S,U,G2,W,_,G5,G6,G7⟩:=f.o;exact⟨_,_,_,_,_,_,_,_,_,_,_,rfl,O ⟨λh=>(S h).below j,λh=>(U h).below j,λh=>(G2 h).below j,λh=>(W h).below j,λ_=>ae,λh=>(G5 h).below j,λh=>(G6 h).below j,G7⟩,O (g.o.below j)⟩
  . clear m;obtain⟨a,l,c,n,r⟩:=g.o.poly2 (i:=1) rfl;have e0:=n.cell;refine Za ?_;exact⟨_,_,_,_,_,_,_,_,_,_,_,rfl,(D8 f λ_=>r),O (g.o)⟩
  . have s:=(f.o.2.2.2.2.1 (m 4 Y));have A:=((Do f) (m 5 Y));have HC:=O (Uq.o V _ _ s A);clear m s A;refine Jb rfl rfl λK hK=>?_;go_simp;go_wp2_with(go_at_call 46;refine HC.o.mono ?_;rintro e w5 ⟨v5,rfl,ae,j⟩)
    obtain⟨S,U,G2,W,X,G5,_,G7⟩:=f.o;exact⟨_,_,_,_,_,_,_,_,_,_,_,rfl,O ⟨λh=>(S h).below j,λh=>(U h).below j,λh=>(G2 h).below j,λh=>(W h).below j,λh=>(X h).below j,λh=>(G5 h).below j,λ_=>ae,G7⟩,O (g.o.below j)⟩
  . have hf:D 9=false:=DS aj ad;obtain rfl:=f.o.2.2.2.2.2.2.2.1.1 ad;clear m;refine Za ?_;obtain⟨S,U,G2,W,X,G5,G6,_,G8⟩:=f.o;exact⟨_,_,_,_,_,_,_,_,_,_,_,rfl,O ⟨λh=>(S h).alloc _,λh=>(U h).alloc _,λh=>(G2 h).alloc _,λh=>(W h).alloc _,λh=>(X h).alloc _,λh=>(G5 h).alloc _,λh=>(G6 h).alloc _,⟨λh=>by simp at h,λ_ _=>⟨_,rfl,rfl⟩,λh=>by simp[hf]at h⟩,G8⟩,O (g.o.fill (i:=2) rfl (.poly []) (He _))⟩
  . have hf:D 10=false:=DS aj ad;obtain rfl:=EE f ad;clear m;refine Za ?_;obtain⟨S,U,G2,W,X,G5,G6,G7,_⟩:=f.o;exact⟨_,_,_,_,_,_,_,_,_,_,_,rfl,O ⟨λh=>(S h).alloc _,λh=>(U h).alloc _,λh=>(G2 h).alloc _,λh=>(W h).alloc _,λh=>(X h).alloc _,λh=>(G5 h).alloc _,λh=>(G6 h).alloc _,G7,⟨λh=>by simp at h,λ_ _=>⟨_,rfl,rfl⟩,λh=>by simp[hf]at h⟩⟩,O (g.o.fill (i:=3) rfl (.poly []) (He _))⟩
  . obtain⟨B,rfl,rfl⟩:=f.o.2.2.2.2.2.2.2.1.2.1 (m 7 Y) ad;have Qc:=m 7 Y;have hv:=(f.o.2.2.1 (m 2 Y));obtain⟨a1,l1,c1,rfl⟩:=Jf.form (show Jf V _ _ from hv);obtain⟨a,l,c,n,r⟩:=g.o.poly2 (i:=2) rfl;have e0:=n.cell;have f0:=n.frozen;clear m;refine Za ?_;obtain⟨S,U,G2,W,X,G5,G6,_,G8⟩:=f.o;exact⟨_,_,_,_,_,_,_,_,_,_,_,rfl,O ⟨λh=>(S h).set1 n rfl _,λh=>(U h).set1 n rfl _,λh=>(G2 h).set1 n rfl _,λh=>(W h).set1 n rfl _,λh=>(X h).set1 n rfl _,λh=>(G5 h).set1 n rfl _,λh=>(G6 h).set1 n rfl _,⟨λh=>by simp[Qc]at h,λ_ h=>by simp at h,λ_=>⟨B,rfl,rfl⟩⟩,G8⟩,O (g.o.putPoly (i:=2) rfl hv)⟩
  . obtain⟨B,rfl,rfl⟩:=EP f (m 8 Y) ad;have Qc:=m 8 Y;have hv:=((Du f) (m 6 Y));obtain⟨a1,l1,c1,rfl⟩:=Jf.form (show Jf V _ _ from hv);obtain⟨a,l,c,n,r⟩:=g.o.poly2 (i:=3) rfl;have e0:=n.cell;have f0:=n.frozen;clear m;refine Za ?_;obtain⟨S,U,G2,W,X,G5,G6,G7,_⟩:=f.o;exact⟨_,_,_,_,_,_,_,_,_,_,_,rfl,O ⟨λh=>(S h).set1 n rfl _,λh=>(U h).set1 n rfl _,λh=>(G2 h).set1 n rfl _,λh=>(W h).set1 n rfl _,λh=>(X h).set1 n rfl _,λh=>(G5 h).set1 n rfl _,λh=>(G6 h).set1 n rfl _,G7,⟨λh=>by simp[Qc]at h,λ_ h=>by simp at h,λ_=>⟨B,rfl,rfl⟩⟩⟩,O (g.o.putPoly (i:=3) rfl hv)⟩
 rintro D af V8 ah ⟨te,tf,tg,ti,tj,tk,tl,tz,tC,x7,x8,rfl,f,g⟩;obtain⟨B9,rfl,rfl⟩:=f.o.2.2.2.2.2.2.2.1.2.2 (ah 9 DQ);obtain⟨B10,rfl,rfl⟩:=f.o.2.2.2.2.2.2.2.2.2.2 (ah 10 DQ);clear f ah M4;have M5:Hid (Mem w V8 [some (w.heap.size,.poly q),some (B6,.poly c),some (B9,.poly w0),some (B10,.poly y0)]):=g;clear g;go_wp2;go_loopw [6,7] (λlv tv wr=>∃(k:Nat) (xa:Option Addr) (xc:Nat),k<=N/\lv=E xa (yL w0 y0 k).length xc/\tv=.int .i64 ((k+1:Nat):Int)/\Hid (Ez w.heap.size wr (E xa (yL w0 y0 k).length xc) (yL w0 y0 k))/\Hid (Mem w wr [some (w.heap.size,.poly q),some (B6,.poly c),some (B9,.poly ((Eh w0 y0 k).1)),some (B10,.poly ((Eh w0 y0 k).2))])) λ_ tv _=>N+1-(intOf tv).toNat
 case atStart=>exact⟨0,none,0,AK _,rfl,rfl,O (EY.nil _ _ _),M5⟩
 case round=>
  clear M5 Ut Us Uq Uh;obtain⟨k,xa,xc,hk,rfl,rfl,XL,M6⟩:=hrel;obtain⟨o,cl⟩:=ex ((Eh w0 y0 k).1);obtain⟨z,cn⟩:=ex ((Eh w0 y0 k).2);obtain⟨L,hL⟩:=ex (yL w0 y0 k);have Qa:=O (show(Eh w0 y0 k).1=o/\(Eh w0 y0 k).2=z/\yL w0 y0 k=L/\L.length<=k from⟨cl,cn,hL,by rw[<-hL];exact fZ _ _ _⟩);rw[cl,cn]at M6;rw[hL]at XL;clear cl cn hL;rw[Qa.o.2.2.1];obtain⟨ll,ck⟩:=ex (L.length:Nat);rw[ck]at XL ⊢;have Qk:=O ck;clear ck;obtain⟨T,hT⟩:=ex (k+1:Nat);rw[hT];have Qh:=O hT;clear hT;obtain⟨bm,de,bn,bj,r11⟩:=M6.o.poly2 (i:=2) rfl;have Qd:=bj.cell;have H1:=O (Ug.o wr _ o r11);obtain⟨d1,ci⟩:=ex ((o.length:Int)-1:Int);rw[ci]at H1;have Uw:=O ci;clear ci;by_cases ei:k<N
  . have Wa:(0:Int)<d1:=by have A:=(Uy.o k ei).1;rw[Qa.o.1]at A;have:=Uw.o;omega
    have HO:=O (show StOk K M o z by have A:=(Uy.o k ei).2;rwa[Qa.o.1,Qa.o.2.1]at A);go_upto_region 10 with(go_at_call 20;refine H1.o.mono ?_;clear H1;rintro e w1 ⟨rfl,hq⟩;clear Qd;have Qd:=(boxed_below bj hq).cell)
    have M7:Hid (Mem w w1 [some (w.heap.size,.poly q),some (B6,.poly c),some (B9,.poly o),some (B10,.poly z)]):=O (M6.o.below hq);have Uv:=O (XL.o.below hq);clear XL hq bj r11 Qd M6;refine Jp Ql [[],[],[1],[0,2,2],[3,3,0,1,2,3]] (by kernel_rfl) DQ
     (λD af V=>∃(tm tn tr ts:H) (y3:Option (Nat × Dat)),af={ tmps:=#[I #[E pa la pc],G (some ⟨w.heap.size,0,none⟩),E none 0 0,G (some ⟨B6,0,none⟩),G (some ⟨B9,0,none⟩),G (some ⟨B10,0,none⟩),E xa ll xc,.int .i64 ↑T,u8,I #[E a1 l1 c1],.int .i64 d0,.bool (decide (d0<1)),I #[E a2 l2 c2],I #[E am ap an],ta,tb,tc,td,te,tf,tg,ti,tj,tk,tl,I #[E bm de bn],.int .i64 d1,.bool true,u28,u29,tm,tn,tr,ts,u34,u35,u36,u37,u38,u39,u40,u41,u42,u43,u44,u45,u46,u47,u48,u49,u50,u51,C],defers:=[] }/\Hid ((D 0=true->Has V tm (.poly z))/\(D 1=true->Has V tn (.poly o))/\(D 2=true->Has V tr (.poly (Ji o)))/\(D 3=true->Has V ts (.poly (JO z (Ji o))))/\((D 4=false->y3=some (B10,.poly z))/\(D 4=true->y3=some (B10,.poly (JO z (Ji o))))))/\Hid (Mem w V [some (w.heap.size,.poly q),some (B6,.poly c),some (B9,.poly o),y3])/\Hid (Ez w.heap.size V (E xa ll xc) L))
     ⟨_,_,_,_,_,rfl,O ⟨Y,Y,Y,Y,⟨λ_=>rfl,Y⟩⟩,O (M7.o).drew,O (Uv.o.drew)⟩ ?step12 ?fin12
    case step12=>
     rintro D af V i ds aj hi m ad ⟨tm,tn,tr,ts,y3,rfl,f,g,R⟩;have Qr:i<5:=(Ad.1 hi).1;obtain rfl|rfl|rfl|rfl|rfl:=Op i J
     all_goals
      simp only[Af,Ae,Ah]at hi;subst hi
     . have hf:D 4=false:=DS aj ad;obtain rfl:=f.o.2.2.2.2.1 hf;clear m;obtain⟨a,l,c,n,r⟩:=g.o.poly2 (i:=3) rfl;have e0:=n.cell;refine Za ?_;exact⟨_,_,_,_,_,rfl,O ⟨λ_=>r,f.o.2.1,f.o.2.2.1,f.o.2.2.2.1,⟨λ_=>rfl,λh=>by simp[hf]at h⟩⟩,O (g.o),O (R.o)⟩
     . clear m;obtain⟨a,l,c,n,r⟩:=g.o.poly2 (i:=2) rfl;have e0:=n.cell;refine Za ?_;exact⟨_,_,_,_,_,rfl,(Dl f λ_=>r),O (g.o),O (R.o)⟩
     . have s:=(f.o.2.1 (m 1 Y));have HC:=O (Wh.o o z HO.o V _ s);clear m s;refine Jb rfl rfl λK hK=>?_;go_simp;go_wp2_with(go_at_call 24;refine HC.o.mono ?_;rintro e w5 ⟨v5,rfl,ae,j⟩)
       exact⟨_,_,_,_,_,rfl,O ⟨λh=>(f.o.1 h).below j,λh=>(f.o.2.1 h).below j,λ_=>ae,λh=>(f.o.2.2.2.1 h).below j,f.o.2.2.2.2⟩,O (g.o.below j),O (R.o.below j)⟩
     . have s:=(f.o.1 (m 0 Y));have A:=(f.o.2.2.1 (m 2 Y));have HC:=O (Wi.o o z HO.o V _ _ s A);clear m s A;refine Jb rfl rfl λK hK=>?_;go_simp;go_wp2_with(go_at_call 48;refine HC.o.mono ?_;rintro e w5 ⟨v5,rfl,ae,j⟩)
       exact⟨_,_,_,_,_,rfl,O ⟨λh=>(f.o.1 h).below j,λh=>(f.o.2.1 h).below j,λh=>(f.o.2.2.1 h).below j,λ_=>ae,f.o.2.2.2.2⟩,O (g.o.below j),O (R.o.below j)⟩
     . obtain rfl:=f.o.2.2.2.2.1 ad;have hv:=(f.o.2.2.2.1 (m 3 Y));obtain⟨a1,l1,c1,rfl⟩:=Jf.form (show Jf V _ _ from hv);obtain⟨a,l,c,n,r⟩:=g.o.poly2 (i:=3) rfl;have e0:=n.cell;have f0:=n.frozen;clear m;refine Za ?_;exact⟨_,_,_,_,_,rfl,O ⟨λh=>(f.o.1 h).set1 n rfl _,λh=>(f.o.2.1 h).set1 n rfl _,λh=>(f.o.2.2.1 h).set1 n rfl _,λh=>(f.o.2.2.2.1 h).set1 n rfl _,⟨λh=>by simp at h,λ_=>rfl⟩⟩,O (g.o.putPoly (i:=3) rfl hv),O (R.o.set1 n rfl _)⟩
    rintro D af dh ah ⟨tm,tn,tr,ts,y3,rfl,f,g,R⟩;obtain rfl:=f.o.2.2.2.2.2 (ah 4 DQ);clear f ah M7;have M8:Hid (Mem w dh [some (w.heap.size,.poly q),some (B6,.poly c),some (B9,.poly o),some (B10,.poly (JO z (Ji o)))]):=g;clear g;have Um:=R;clear R Uv;obtain⟨P,hP⟩:=ex (JH o (JO z (Ji o)));obtain⟨Qs,Qp,Qe,Qg⟩:=D5 hP (Wk.o o z HO.o) (Wc.o o z HO.o) (Wm.o o z HO.o);rw[hP]at Qp Qe Qg;clear hP;obtain⟨dt,ew,dw,f7,f9⟩:=M8.o.poly2 (i:=2) rfl;have Qx:=f7.cell;obtain⟨du,f6,dx,f8,fa⟩:=M8.o.poly2 (i:=3) rfl;have Ue:=f8.cell;have H1:=O (Qp.o dh _ _ f9 fa);go_upto_region 12 with(go_at_call 8;refine H1.o.mono ?_;clear H1;rintro e w3 ⟨u3,rfl,ct,hq⟩;obtain⟨aw,az,ay,rfl⟩:=Jf.form ct)
    have Ur:=O ((Um.o.below hq).alloc (Q #[E aw az ay] 25));clear Um f7 f9 Qx f8 fa Ue;have Qi:=Ur;clear Ur;obtain⟨di,hV⟩:=ex (w3.alloc (Q #[E aw az ay] 25));obtain⟨ak,bt⟩:=ex (w3.heap.size);have g:Mem w (w3.alloc (Q #[E aw az ay] 25)) [some (w.heap.size,.poly q),some (B6,.poly c),some (B9,.poly o),some (B10,.poly (JO z (Ji o))),some (w3.heap.size,.poly P)]:=Mem.push (M8.o.below hq) (.poly P) ct;rw[hV,bt]at g;rw[hV]at Qi;rw[hV];rw[bt];have M9:Hid (Mem w di [some (w.heap.size,.poly q),some (B6,.poly c),some (B9,.poly o),some (B10,.poly (JO z (Ji o))),some (ak,.poly P)]):=O (g);clear M8;clear g hV bt ct hq;obtain⟨bc,bi,bf,aq,bk⟩:=M9.o.poly2 (i:=4) rfl;have Qb:=aq.cell;have H1:=O (Ug.o di _ P bk);obtain⟨d2,cj⟩:=ex ((P.length:Int)-1:Int);rw[cj]at H1;have Un:=O cj;clear cj;by_cases dz:1<P.length
    . have We:(0:Int)<d2:=by have:=Un.o;omega
      have Qj:=O (show yL w0 y0 (k+1)=L++[(P,T)]by rw[yL,Qa.o.2.2.1];unfold yP;rw[Qa.o.1,Qa.o.2.1,Qs.o,BG dz,Qh.o]);go_upto_region 13 with(go_at_call 20;refine H1.o.mono ?_;clear H1;rintro e w4 ⟨rfl,hq⟩;clear Qb;have Qb:=(boxed_below aq hq).cell)
      have X4:=Qi.o.below hq;have M4:=M9.o.below hq;have r4:=bk.below hq;have Ul:=M4.2.2.size;obtain⟨v',w',ce,X5,eh,ed,fb⟩:=fY true w.heap.size w4 (E xa ll xc) L X4 (t:=T) r4.row (by have:=Qa.o.2.2.2;omega) Ul;obtain⟨ya,yc,et,_,_⟩:=X5.form;rw[Ai,show([(P,T)]:List (List Rat × Nat)).length=1 from rfl]at et;subst et;have M5:=M4.farP eh (ed _ w (Aa _) M4.2.2) (λi B d e=>by rcases i with _|_|_|_|_|i<;>simp at e<;>(obtain⟨rfl,rfl⟩:=e;show 25≠44;decide));have e4:=(boxed_below aq hq).cell;clear X4 r4 Ul eh ed fb hq M4 aq bk Qb Qi;rw[show Gt true=39 from rfl,show EJ true=44 from rfl]at ce;go_upto_region 14 with(first
       |(at_builtin;refine Bi _ rfl _ _ 39 39 rfl _ _ rfl rfl _ _ ce ?_;clear ce))
      clear e4 M9;have Qn:Hid (Mem w w' [some (w.heap.size,.poly q),some (B6,.poly c),some (B9,.poly o),some (B10,.poly (JO z (Ji o))),some (ak,.poly P)]):=O (M5);clear M5;have Uu:Hid (Ez w.heap.size w' (E ya (L.length+1) yc) (L++[(P,T)])):=O X5;clear X5;rw[Qk.o]at Uu;refine Jp Ql [[],[],[0,1],[],[],[3,4,2],[2,5,0,1,2],[5,6,0,1,2,3,4,5,6]] (by kernel_rfl) DQ
       (λD af V=>∃(tu tw tx ty tA tB:H) (y2 y3:Option (Nat × Dat)),af={ tmps:=#[I #[E pa la pc],G (some ⟨w.heap.size,0,none⟩),E none 0 0,G (some ⟨B6,0,none⟩),G (some ⟨B9,0,none⟩),G (some ⟨B10,0,none⟩),E ya (L.length+1) yc,.int .i64 ↑T,G (some ⟨ak,0,none⟩),I #[E a1 l1 c1],.int .i64 d0,.bool (decide (d0<1)),I #[E a2 l2 c2],I #[E am ap an],ta,tb,tc,td,te,tf,tg,ti,tj,tk,tl,I #[E bm de bn],.int .i64 d1,.bool true,u28,u29,tm,tn,tr,ts,I #[E dt ew dw],I #[E du f6 dx],I #[E aw az ay],I #[E bc bi bf],.int .i64 d2,.bool true,E xa ll xc,I #[E bc bi bf],.int .i64 ↑T,I #[E bc bi bf,.int .i64 ↑T],E (some ⟨w4.heap.size,0,none⟩) 1 1,E ya (L.length+1) yc,tu,tw,tx,ty,tA,tB,C],defers:=[] }/\Hid ((D 0=true->Has V tu (.poly o))/\(D 1=true->Has V tw (.poly P))/\(D 2=true->Has V tx (.poly (Dk o P)))/\(D 3=true->Has V ty (.poly (JO z (Ji o))))/\(D 4=true->Has V tA (.poly P))/\(D 5=true->Has V tB (.poly (Dk (JO z (Ji o)) P)))/\((D 6=false->y2=some (B9,.poly o))/\(D 6=true->y2=some (B9,.poly (Dk o P))))/\((D 7=false->y3=some (B10,.poly (JO z (Ji o))))/\(D 7=true->y3=some (B10,.poly (Dk (JO z (Ji o)) P)))))/\Hid (Mem w V [some (w.heap.size,.poly q),some (B6,.poly c),y2,y3,some (ak,.poly P)])/\Hid (Ez w.heap.size V (E ya (ll+1) yc) (L++[(P,T)])))
       ⟨_,_,_,_,_,_,_,_,rfl,O ⟨Y,Y,Y,Y,Y,Y,⟨λ_=>rfl,Y⟩,⟨λ_=>rfl,Y⟩⟩,O (Qn.o).drew,O (Uu.o.drew)⟩ ?step18 ?fin18
      case step18=>
       rintro D af V i ds aj hi m ad ⟨tu,tw,tx,ty,tA,tB,y2,y3,rfl,f,g,R⟩;have Qr:i<8:=(Ad.1 hi).1;obtain rfl|rfl|rfl|rfl|rfl|rfl|rfl|rfl:=LN i J
       all_goals
        simp only[Af,Ae,Ah]at hi;subst hi
       . have hf:D 6=false:=DS aj ad;obtain rfl:=f.o.2.2.2.2.2.2.1.1 hf;clear m;obtain⟨a,l,c,n,r⟩:=g.o.poly2 (i:=2) rfl;have e0:=n.cell;refine Za ?_;exact⟨_,_,_,_,_,_,_,_,rfl,(Dy (Di f λ_=>r) ⟨λ_=>rfl,λh=>by simp[hf]at h⟩),O (g.o),O (R.o)⟩
       . clear m;obtain⟨a,l,c,n,r⟩:=g.o.poly2 (i:=4) rfl;have e0:=n.cell;refine Za ?_;exact⟨_,_,_,_,_,_,_,_,rfl,(Dl f λ_=>r),O (g.o),O (R.o)⟩
       . have s:=(f.o.1 (m 0 Y));have A:=(f.o.2.1 (m 1 Y));have HC:=O (Qe.o V _ _ s A);clear m s A;refine Jb rfl rfl λK hK=>?_;go_simp;go_wp2_with(go_at_call 46;refine HC.o.mono ?_;rintro e w5 ⟨v5,rfl,ae,j⟩)
         obtain⟨S,U,_,W,X,G5,G6⟩:=f.o;exact⟨_,_,_,_,_,_,_,_,rfl,O ⟨λh=>(S h).below j,λh=>(U h).below j,λ_=>ae,λh=>(W h).below j,λh=>(X h).below j,λh=>(G5 h).below j,G6⟩,O (g.o.below j),O (R.o.below j)⟩
       . have hf:D 7=false:=DS aj ad;obtain rfl:=D9 f hf;clear m;obtain⟨a,l,c,n,r⟩:=g.o.poly2 (i:=3) rfl;have e0:=n.cell;refine Za ?_;exact⟨_,_,_,_,_,_,_,_,rfl,(Lp (Dj f λ_=>r) ⟨λ_=>rfl,λh=>by simp[hf]at h⟩),O (g.o),O (R.o)⟩
       . clear m;obtain⟨a,l,c,n,r⟩:=g.o.poly2 (i:=4) rfl;have e0:=n.cell;refine Za ?_;exact⟨_,_,_,_,_,_,_,_,rfl,(Dx f λ_=>r),O (g.o),O (R.o)⟩
       . have s:=(f.o.2.2.2.1 (m 3 Y));have A:=(f.o.2.2.2.2.1 (m 4 Y));have HC:=O (Qg.o V _ _ s A);clear m s A;refine Jb rfl rfl λK hK=>?_;go_simp;go_wp2_with(go_at_call 46;refine HC.o.mono ?_;rintro e w5 ⟨v5,rfl,ae,j⟩)
         obtain⟨S,U,G2,W,X,_,G6⟩:=f.o;exact⟨_,_,_,_,_,_,_,_,rfl,O ⟨λh=>(S h).below j,λh=>(U h).below j,λh=>(G2 h).below j,λh=>(W h).below j,λh=>(X h).below j,λ_=>ae,G6⟩,O (g.o.below j),O (R.o.below j)⟩
       . obtain rfl:=f.o.2.2.2.2.2.2.1.1 ad;have hv:=(f.o.2.2.1 (m 2 Y));obtain⟨a1,l1,c1,rfl⟩:=Jf.form (show Jf V _ _ from hv);obtain⟨a,l,c,n,r⟩:=g.o.poly2 (i:=2) rfl;have e0:=n.cell;have f0:=n.frozen;clear m;refine Za ?_;obtain⟨S,U,G2,W,X,G5,_,G7⟩:=f.o;exact⟨_,_,_,_,_,_,_,_,rfl,O ⟨λh=>(S h).set1 n rfl _,λh=>(U h).set1 n rfl _,λh=>(G2 h).set1 n rfl _,λh=>(W h).set1 n rfl _,λh=>(X h).set1 n rfl _,λh=>(G5 h).set1 n rfl _,⟨λh=>by simp at h,λ_=>rfl⟩,G7⟩,O (g.o.putPoly (i:=2) rfl hv),O (R.o.set1 n rfl _)⟩
       . obtain rfl:=D9 f ad;have hv:=((Do f) (m 5 Y));obtain⟨a1,l1,c1,rfl⟩:=Jf.form (show Jf V _ _ from hv);obtain⟨a,l,c,n,r⟩:=g.o.poly2 (i:=3) rfl;have e0:=n.cell;have f0:=n.frozen;clear m;refine Za ?_;obtain⟨S,U,G2,W,X,G5,G6,_⟩:=f.o;exact⟨_,_,_,_,_,_,_,_,rfl,O ⟨λh=>(S h).set1 n rfl _,λh=>(U h).set1 n rfl _,λh=>(G2 h).set1 n rfl _,λh=>(W h).set1 n rfl _,λh=>(X h).set1 n rfl _,λh=>(G5 h).set1 n rfl _,G6,⟨λh=>by simp at h,λ_=>rfl⟩⟩,O (g.o.putPoly (i:=3) rfl hv),O (R.o.set1 n rfl _)⟩
      rintro D af dj ah ⟨tu,tw,tx,ty,tA,tB,y2,y3,rfl,f,g,R⟩;obtain rfl:=f.o.2.2.2.2.2.2.1.2 (ah 6 DQ);obtain rfl:=f.o.2.2.2.2.2.2.2.2 (ah 7 DQ);clear f ah Qn;have Qo:Hid (Mem w dj [some (w.heap.size,.poly q),some (B6,.poly c),some (B9,.poly (Dk o P)),some (B10,.poly (Dk (JO z (Ji o)) P)),some (ak,.poly P)]):=g;clear g;have Qt:Hid (Mem w dj [some (w.heap.size,.poly q),some (B6,.poly c),some (B9,.poly (Dk o P)),some (B10,.poly (Dk (JO z (Ji o)) P))]):=O (Qo.o.take 4);have Qm:=O (show(Eh w0 y0 (k+1)).1=Dk o P/\(Eh w0 y0 (k+1)).2=Dk (JO z (Ji o)) P by rw[Eh];unfold Oi;rw[Qa.o.1,Qa.o.2.1,Qs.o];exact⟨rfl,rfl⟩);have Wd:T+1<=9223372036854775807:=by have:=Qh.o;omega
      clear Qo;go_wp2_with fail
      go_roundw
      case rel=>exact⟨k+1,ya,yc,J,by rw[Qj.o,Ai,Qk.o];rfl,by rw[Qh.o];go_num,by rw[Qj.o,Ai,Qk.o];exact R,by rw[Qm.o.1,Qm.o.2];exact Qt⟩
      case measure=>simp[intOf];have:=Qh.o;omega
    . have We:¬(0:Int)<d2:=by have:=Un.o;omega
      have Qj:=O (show yL w0 y0 (k+1)=L by rw[yL,Qa.o.2.2.1];unfold yP;rw[Qa.o.1,Qa.o.2.1,Qs.o,BE dz,Cl]);go_upto_region 14 with(go_at_call 20;refine H1.o.mono ?_;clear H1;rintro e w4 ⟨rfl,hq⟩;clear Qb;have Qb:=(boxed_below aq hq).cell)
      have Wb:=O (Qi.o.below hq);have Qn:Hid (Mem w w4 [some (w.heap.size,.poly q),some (B6,.poly c),some (B9,.poly o),some (B10,.poly (JO z (Ji o))),some (ak,.poly P)]):=O (M9.o.below hq);clear M9;clear hq aq bk Qb Qi;refine Jp Ql [[],[],[0,1],[],[],[3,4,2],[2,5,0,1,2],[5,6,0,1,2,3,4,5,6]] (by kernel_rfl) DQ
       (λD af V=>∃(tu tw tx ty tA tB:H) (y2 y3:Option (Nat × Dat)),af={ tmps:=#[I #[E pa la pc],G (some ⟨w.heap.size,0,none⟩),E none 0 0,G (some ⟨B6,0,none⟩),G (some ⟨B9,0,none⟩),G (some ⟨B10,0,none⟩),E xa ll xc,.int .i64 ↑T,G (some ⟨ak,0,none⟩),I #[E a1 l1 c1],.int .i64 d0,.bool (decide (d0<1)),I #[E a2 l2 c2],I #[E am ap an],ta,tb,tc,td,te,tf,tg,ti,tj,tk,tl,I #[E bm de bn],.int .i64 d1,.bool true,u28,u29,tm,tn,tr,ts,I #[E dt ew dw],I #[E du f6 dx],I #[E aw az ay],I #[E bc bi bf],.int .i64 d2,.bool (decide (0<d2)),u40,u41,u42,u43,u44,u45,tu,tw,tx,ty,tA,tB,C],defers:=[] }/\Hid ((D 0=true->Has V tu (.poly o))/\(D 1=true->Has V tw (.poly P))/\(D 2=true->Has V tx (.poly (Dk o P)))/\(D 3=true->Has V ty (.poly (JO z (Ji o))))/\(D 4=true->Has V tA (.poly P))/\(D 5=true->Has V tB (.poly (Dk (JO z (Ji o)) P)))/\((D 6=false->y2=some (B9,.poly o))/\(D 6=true->y2=some (B9,.poly (Dk o P))))/\((D 7=false->y3=some (B10,.poly (JO z (Ji o))))/\(D 7=true->y3=some (B10,.poly (Dk (JO z (Ji o)) P)))))/\Hid (Mem w V [some (w.heap.size,.poly q),some (B6,.poly c),y2,y3,some (ak,.poly P)])/\Hid (Ez w.heap.size V (E xa ll xc) L))
       ⟨_,_,_,_,_,_,_,_,rfl,O ⟨Y,Y,Y,Y,Y,Y,⟨λ_=>rfl,Y⟩,⟨λ_=>rfl,Y⟩⟩,O (Qn.o).drew,O (Wb.o.drew)⟩ ?step20 ?fin20
      case step20=>
       rintro D af V i ds aj hi m ad ⟨tu,tw,tx,ty,tA,tB,y2,y3,rfl,f,g,R⟩;have Qr:i<8:=(Ad.1 hi).1;obtain rfl|rfl|rfl|rfl|rfl|rfl|rfl|rfl:=LN i J
       all_goals
        simp only[Af,Ae,Ah]at hi;subst hi
       . have hf:D 6=false:=DS aj ad;obtain rfl:=f.o.2.2.2.2.2.2.1.1 hf;clear m;obtain⟨a,l,c,n,r⟩:=g.o.poly2 (i:=2) rfl;have e0:=n.cell;refine Za ?_;exact⟨_,_,_,_,_,_,_,_,rfl,(Dy (Di f λ_=>r) ⟨λ_=>rfl,λh=>by simp[hf]at h⟩),O (g.o),O (R.o)⟩
       . clear m;obtain⟨a,l,c,n,r⟩:=g.o.poly2 (i:=4) rfl;have e0:=n.cell;refine Za ?_;exact⟨_,_,_,_,_,_,_,_,rfl,(Dl f λ_=>r),O (g.o),O (R.o)⟩
       . have s:=(f.o.1 (m 0 Y));have A:=(f.o.2.1 (m 1 Y));have HC:=O (Qe.o V _ _ s A);clear m s A;refine Jb rfl rfl λK hK=>?_;go_simp;go_wp2_with(go_at_call 46;refine HC.o.mono ?_;rintro e w5 ⟨v5,rfl,ae,j⟩)
         obtain⟨S,U,_,W,X,G5,G6⟩:=f.o;exact⟨_,_,_,_,_,_,_,_,rfl,O ⟨λh=>(S h).below j,λh=>(U h).below j,λ_=>ae,λh=>(W h).below j,λh=>(X h).below j,λh=>(G5 h).below j,G6⟩,O (g.o.below j),O (R.o.below j)⟩
       . have hf:D 7=false:=DS aj ad;obtain rfl:=D9 f hf;clear m;obtain⟨a,l,c,n,r⟩:=g.o.poly2 (i:=3) rfl;have e0:=n.cell;refine Za ?_;exact⟨_,_,_,_,_,_,_,_,rfl,(Lp (Dj f λ_=>r) ⟨λ_=>rfl,λh=>by simp[hf]at h⟩),O (g.o),O (R.o)⟩
       . clear m;obtain⟨a,l,c,n,r⟩:=g.o.poly2 (i:=4) rfl;have e0:=n.cell;refine Za ?_;exact⟨_,_,_,_,_,_,_,_,rfl,(Dx f λ_=>r),O (g.o),O (R.o)⟩
       . have s:=(f.o.2.2.2.1 (m 3 Y));have A:=(f.o.2.2.2.2.1 (m 4 Y));have HC:=O (Qg.o V _ _ s A);clear m s A;refine Jb rfl rfl λK hK=>?_;go_simp;go_wp2_with(go_at_call 46;refine HC.o.mono ?_;rintro e w5 ⟨v5,rfl,ae,j⟩)
         obtain⟨S,U,G2,W,X,_,G6⟩:=f.o;exact⟨_,_,_,_,_,_,_,_,rfl,O ⟨λh=>(S h).below j,λh=>(U h).below j,λh=>(G2 h).below j,λh=>(W h).below j,λh=>(X h).below j,λ_=>ae,G6⟩,O (g.o.below j),O (R.o.below j)⟩
       . obtain rfl:=f.o.2.2.2.2.2.2.1.1 ad;have hv:=(f.o.2.2.1 (m 2 Y));obtain⟨a1,l1,c1,rfl⟩:=Jf.form (show Jf V _ _ from hv);obtain⟨a,l,c,n,r⟩:=g.o.poly2 (i:=2) rfl;have e0:=n.cell;have f0:=n.frozen;clear m;refine Za ?_;obtain⟨S,U,G2,W,X,G5,_,G7⟩:=f.o;exact⟨_,_,_,_,_,_,_,_,rfl,O ⟨λh=>(S h).set1 n rfl _,λh=>(U h).set1 n rfl _,λh=>(G2 h).set1 n rfl _,λh=>(W h).set1 n rfl _,λh=>(X h).set1 n rfl _,λh=>(G5 h).set1 n rfl _,⟨λh=>by simp at h,λ_=>rfl⟩,G7⟩,O (g.o.putPoly (i:=2) rfl hv),O (R.o.set1 n rfl _)⟩
       . obtain rfl:=D9 f ad;have hv:=((Do f) (m 5 Y));obtain⟨a1,l1,c1,rfl⟩:=Jf.form (show Jf V _ _ from hv);obtain⟨a,l,c,n,r⟩:=g.o.poly2 (i:=3) rfl;have e0:=n.cell;have f0:=n.frozen;clear m;refine Za ?_;obtain⟨S,U,G2,W,X,G5,G6,_⟩:=f.o;exact⟨_,_,_,_,_,_,_,_,rfl,O ⟨λh=>(S h).set1 n rfl _,λh=>(U h).set1 n rfl _,λh=>(G2 h).set1 n rfl _,λh=>(W h).set1 n rfl _,λh=>(X h).set1 n rfl _,λh=>(G5 h).set1 n rfl _,G6,⟨λh=>by simp at h,λ_=>rfl⟩⟩,O (g.o.putPoly (i:=3) rfl hv),O (R.o.set1 n rfl _)⟩
      rintro D af dp ah ⟨tu,tw,tx,ty,tA,tB,y2,y3,rfl,f,g,R⟩;obtain rfl:=f.o.2.2.2.2.2.2.1.2 (ah 6 DQ);obtain rfl:=f.o.2.2.2.2.2.2.2.2 (ah 7 DQ);clear f ah Qn;have Qo:Hid (Mem w dp [some (w.heap.size,.poly q),some (B6,.poly c),some (B9,.poly (Dk o P)),some (B10,.poly (Dk (JO z (Ji o)) P)),some (ak,.poly P)]):=g;clear g;have Qt:Hid (Mem w dp [some (w.heap.size,.poly q),some (B6,.poly c),some (B9,.poly (Dk o P)),some (B10,.poly (Dk (JO z (Ji o)) P))]):=O (Qo.o.take 4);have Qm:=O (show(Eh w0 y0 (k+1)).1=Dk o P/\(Eh w0 y0 (k+1)).2=Dk (JO z (Ji o)) P by rw[Eh];unfold Oi;rw[Qa.o.1,Qa.o.2.1,Qs.o];exact⟨rfl,rfl⟩);have Wd:T+1<=9223372036854775807:=by have:=Qh.o;omega
      clear Qo;go_wp2_with fail
      go_roundw
      case rel=>exact⟨k+1,xa,xc,J,by rw[Qj.o,Qk.o],by rw[Qh.o];go_num,by rw[Qj.o,Qk.o];exact R,by rw[Qm.o.1,Qm.o.2];exact Qt⟩
      case measure=>simp[intOf];have:=Qh.o;omega
  . obtain rfl:k=N:=J
    have Wa:¬(0:Int)<d1:=by have A:=Wj.o;rw[Qa.o.1]at A;have:=Uw.o;omega
    go_wp2_with(go_at_call 20;refine H1.o.mono ?_;clear H1;rintro e w1 ⟨rfl,hq⟩;clear Qd;have Qd:=(boxed_below bj hq).cell)
    have HF:=O (show EY true w.heap.size w1 (E xa ll xc) (yL w0 y0 k)/\Bl w w1 by rw[Qa.o.2.2.1];exact⟨XL.o.below hq,(M6.o.below hq).2.2⟩);go_ret;exact⟨_,rfl,HF.o⟩
end M3
end
section
open Go.RowKit Go.Shelf
attribute [local go_sem] Oper.semAt_some
variable{v:H}{W:F}
theorem _root_.Go.Boxed.bel{W':F}{B:Nat}{t:TypeId}(h:Boxed W B t v)(a:Bl W W'):Boxed W' B t v:=(a.block B h.lt).trans h
theorem Gu(p:List Rat)(a:List Int)(e:p=a.map (λz:Int=>(z:Rat)))(h:a.all (λz=>decide (z.natAbs<100))=true):Cd 1 p:=by
 refine⟨1,DQ,Sm.one 1 J,Ef.cdl λi=>?_⟩;rw[e];by_cases b:i<a.length
 . refine⟨a[i],?_,?_⟩
   . have c:=A4.1 h a[i] (List.getElem_mem b);have d:a[i].natAbs<100:=Bf c;unfold Sm Z;omega
   . unfold cf;rw[CU,Ag b];rfl
 . exact⟨0,Sm.zero 1,by rw[J3 si];rfl⟩
def aP:List Rat:=[1,-1,-1,1]
theorem gD:JV [120,94,51,45,120,94,50,45,120,43,49]=(aP,0,0):=Ds
theorem TH:Jd aP=aP:=Ds
theorem LL:JD aP=aP:=Ds
theorem I0:Ji aP=[-1,-2,3]:=Ds
theorem Oj:JH aP [-1,-2,3]=[-1,1]:=Ds
theorem Ok:Dk aP [-1,1]=[-1,0,1]:=Ds
theorem Ol:Dk [-1,-2,3] [-1,1]=[1,3]:=Ds
theorem gE:Eh [-1,0,1] [1,3] 1=([-1,1],[1]):=Ds
theorem gF:Eh [-1,0,1] [1,3] 2=([1],[]):=Ds
theorem gG:yL [-1,0,1] [1,3] 2=[([1,1],1),([-1,1],2)]:=Ds
theorem TI:Cd 1 aP:=Gu aP [1,-1,-1,1] Ds DQ
theorem gH:Cd 1 [-1,-2,3]:=Gu _ [-1,-2,3] Ds DQ
theorem TJ:M3.ChOk 1 aP [-1,-2,3]:=⟨TH,Ds,TI,gH,DQ,DQ⟩
theorem gI:StOk 1 20 [-1,0,1] [1,3]:=by
 have a:Ji [-1,0,1]=[0,2]:=Ds
 have b:JO [1,3] [0,2]=[1,1]:=Ds
 have c1:Cd 1 [-1,0,1]:=Gu _ [-1,0,1] Ds DQ;have c2:Cd 1 [1,1]:=Gu _ [1,1] Ds DQ;have c3:Cd 1 [0,2]:=Gu _ [0,2] Ds DQ;have c4:Cd 1 [1,3]:=Gu _ [1,3] Ds DQ;refine⟨?_,Ds,c1.mono J,?_,c4.mono J,?_,?_,DQ,?_⟩
 . rw[a,b];exact⟨Ds,Ds,c1,c2,DQ,DQ⟩
 . rw[a];exact c3.mono J
 . rw[a,b];exact c2.mono J
 . rw[a,b];decide
 . rw[a,b];decide
theorem gJ:StOk 1 20 [-1,1] [1]:=by
 have a:Ji [-1,1]=[1]:=Ds
 have b:JO [1] [1]=[]:=Ds
 have c1:Cd 1 [-1,1]:=Gu _ [-1,1] Ds DQ;have c2:Cd 1 []:=Gu _ [] Ds DQ;have c3:Cd 1 [1]:=Gu _ [1] Ds DQ;refine⟨?_,Ds,c1.mono J,?_,c3.mono J,?_,?_,DQ,?_⟩
 . rw[a,b];exact⟨Ds,Ds,c1,c2,DQ,DQ⟩
 . rw[a];exact c3.mono J
 . rw[a,b];exact c2.mono J
 . rw[a,b];decide
 . rw[a,b];decide
theorem gK:PtOk 1 20 2 aP:=by
 refine⟨TH,TI.mono J,?_,?_,DQ,DQ,J,?_,?_⟩
 . rw[LL,I0];exact TJ
 . rw[LL,I0];decide
 . rw[LL,I0,Oj,Ok,Ol];intro n a;rcases n with _|_|n
   . exact⟨DQ,gI⟩
   . rw[show(0+1:Nat)=1 from rfl,gE];exact⟨DQ,gJ⟩
   . omega
 . rw[LL,I0,Oj,Ok,Ol,gF];decide
theorem gL:LK aP 2=[([1,1],1),([-1,1],2)]:=by
 unfold LK;rw[LL,I0,Oj,Ok,Ol,gG]
theorem gM:M3.FrOk 1 aP:=by
 refine⟨?_,?_⟩
 . rw[I0];exact TJ
 . rw[I0];decide
theorem gN:Ka aP=[-1,0,1]:=Ds
theorem gO:E9 [-1,1]=[120,45,49]:=Ds
theorem gP:E9 [-1,0,1]=[120,94,50,45,49]:=Ds
theorem TK:Sqs [-1,1]:=(Gu [-1,1] [-1,1] Ds DQ).sqs J
theorem TL:Sqs [-1,0,1]:=(Gu [-1,0,1] [-1,0,1] Ds DQ).sqs J
theorem EY.two{r:Bool}{base:Nat}{p q:List Rat}{s t:Nat}(h:EY r base W v [(p,s),(q,t)]):∃g cap a l c a' l' c',v=E (some ⟨g,0,none⟩) 2 cap/\g<W.heap.size/\W.cell? ⟨g,0,none⟩=some (E a l c)/\W.cell? ⟨g,1,none⟩=some (.int .i64 (s:Int))/\W.cell? ⟨g,2,none⟩=some (E a' l' c')/\W.cell? ⟨g,3,none⟩=some (.int .i64 (t:Int))/\RowK r W (E a l c) p/\RowK r W (E a' l' c') q:=by
 rcases h with⟨_,h⟩|⟨g,cap,n,rfl,o,b,u,w,z,j⟩
 . simp at h
 . obtain⟨x,d,e,k⟩:=j.2 0 p s rfl;obtain⟨y,f,i,m⟩:=j.2 1 q t rfl;obtain⟨a,l,c,rfl⟩:=k.form;obtain⟨a',l',c',rfl⟩:=m.form;rw[AH Y,Cj]at d e f i;exact⟨g,cap,a,l,c,a',l',c',rfl,(Ab.1 b).1,cell_of b d,cell_of b e,cell_of b f,cell_of b i,k,m⟩
theorem gS(w:F)(af:Ey w):Calls Tryz.prog 15 #[] w λr o=>r=.returned (.bool true)/\Bl w o:=by
 have T:=O af;have S:=O (λ(V:F)=>show Calls Tryz.prog 23 #[L ⟨#[120,94,51,45,120,94,50,45,120,43,49]⟩] V λr o=>∃u,r=.returned (.tuple #[u,.int .i64 0,.int .i64 0])/\Jf o u aP/\Bl V o from
  (R7 ⟨#[120,94,51,45,120,94,50,45,120,43,49]⟩ V).mono (λr o h=>by
   obtain⟨u,e,p,h1,h2,h3⟩:=h;rw[KR,show Jg ⟨#[120,94,51,45,120,94,50,45,120,43,49]⟩=[120,94,51,45,120,94,50,45,120,43,49]from rfl,gD]at h2;obtain⟨rfl,rfl,h4⟩:=h2;exact⟨u,h1,h4,h3⟩))
 have M:=O (BB w.heap.size w);clear af;go_enter Tryz.func15,Tryz.ntmps15
 go_upto_region 2 with(go_at_call 23;refine(S.o _).mono ?_;clear S;rintro e l ⟨u,rfl,D,d⟩;obtain⟨y,l1,c1,rfl⟩:=D.form)
 replace M:=O (Bt M.o d);have f:Bl l (l.alloc (Q #[E y l1 c1] 25)):=Ba l _;have j:=BM l 25 (E y l1 c1);have k:=D.below f;replace M:=O (Bt M.o f);clear f;obtain⟨VP,c⟩:=ex (l.alloc (Q #[E y l1 c1] 25));obtain⟨BP,b⟩:=ex (l.heap.size);rw[c]at k M;rw[c,b]at j;rw[c];rw[b];clear c b;clear D d;have a:=O (M3.gC 1 20 2 _ aP VP k gK);rw[gL]at a;have A:=j.cell;go_upto_region 3 with(go_at_call 18;refine a.o.mono ?_;clear a;rintro e w2 ⟨u2,rfl,ah,s⟩;obtain⟨g,cap,b1,m1,d1,U,m2,W,rfl,B,x0,x1,R,x3,ai,ae⟩:=ah.two)
 replace j:=j.bel s;replace k:=k.below s;replace M:=O (Bt M.o s);have x:=O (show ∀V,Bl w2 V->V.cell? ⟨g,1,none⟩=some (.int .i64 ((1:Nat):Int))/\V.cell? ⟨g,2,none⟩=some (E U m2 W)/\Jf V (I #[E U m2 W]) [-1,1]from λV b=>⟨(b.cell (p:=⟨g,1,none⟩) B).trans x1,(b.cell (p:=⟨g,2,none⟩) B).trans R,_,rfl,ae.below b⟩);clear A x0 x1 R x3 ai ae ah s B;have a:=O (M3.fT 1 _ aP w2 k gM);rw[gN]at a;have A:=j.cell;go_upto_region 4 with(go_at_call 16;refine a.o.mono ?_;clear a;rintro e n ⟨u3,rfl,K,ad⟩;obtain⟨z,N,c3,rfl⟩:=K.form)
 have f:Bl n (n.alloc (Q #[E z N c3] 25)):=Ba n _;have P:=BM n 25 (E z N c3);have rF:=K.below f;have q:=Bt ad f
 replace M:=O (Bt M.o q);obtain⟨i,c⟩:=ex (n.alloc (Q #[E z N c3] 25));obtain⟨BF,b⟩:=ex (n.heap.size);rw[c]at rF M q;rw[c,b]at P;rw[c];rw[b];have v:=O q;clear c b f ad K A j k q;have a:=O λ(V:F) (h:Bl i V)=>KJ _ [-1,1] V (x.o V (Bt v.o h)).2.2 TK (λm=>XD TK Y m) (Yv T.o (Bt M.o h));rw[gO]at a;have t:=O λ(V:F) (h:Bl i V)=>KJ _ [-1,0,1] V (rF.below h) TL (λm=>XD TL Y m) (Yv T.o (Bt M.o h));rw[gP]at t;have hq:Bl i i:=BB _ _;have X:=(P.bel hq).cell;have e1:=(x.o i v.o).1;have e2:=(x.o i v.o).2.1;go_wp2_with(first
  |(go_at_call 11;refine(a.o _ hq).mono ?_;clear a;rintro e x1 ⟨rfl,d⟩;replace hq:=Bt hq d;clear d X;have X:=(P.bel hq).cell)
  |(go_at_call 11;refine(t.o _ hq).mono ?_;clear t;rintro e R ⟨rfl,d⟩;replace hq:=Bt hq d;clear d))
 go_ret;exact⟨rfl,Bt M.o hq⟩
end
section
variable{S:List Rat}{l:List UInt8}{i k n x:Nat}{c:Rat}
theorem TM(h:l.all DY=true):num l<10^l.length:=by
 have:=Yl (LV h);rwa[Kh]at this
def Fr(x:Nat)(c:Rat):Prop:=∃(a b:Nat) (y z:Nat),c=Rat.divInt a b/\a<=10^y/\b<=10^z/\b≠0/\y+z<=x
theorem Fr.mono{y:Nat}(h:Fr x c)(j:x<=y):Fr y c:=by
 obtain⟨a,b,u,v,d,e,f,g,i⟩:=h;exact⟨a,b,u,v,d,e,f,g,J⟩
theorem Fr.one:Fr 0 1:=⟨1,1,0,0,DQ,DQ,DQ,DQ,DQ⟩
theorem gT(r:i<=l.length)(h:Yh l i=.ok c k):Fr (k-i) c:=by
 unfold Yh at h;split at h
 . cases h
 . rename_i ds p a g;have b:=Hi r g;have t:=Gd l a;have q:=TM b.2.2.2.2.2.2.2.2;rw[b.2.2.2.2.2.2.2.1]at q;split at h
   . rename_i d;have d:=Ya d;split at h
     . cases h
     . rename_i f s m n;have e:=Hi J n;have o:=TM e.2.2.2.2.2.2.2.2;rw[e.2.2.2.2.2.2.2.1]at o;split at h
       . cases h
       . rename_i j;cases h;exact⟨num ds,num f,a-p,k-s,rfl,J,J,j,J⟩
   . cases h;exact⟨num ds,1,a-p,0,(OL _).symm,J,DQ,DQ,J⟩
theorem gU(g:i<=l.length)(h:Yc l i=.ok (c,n) k):Fr (k-i) c:=by
 unfold Yc at h;have p:=Gd l i;have d:=YL g;split at h
 . split at h
   . cases h
   . rename_i c' j b;have o:=NK d b;have a:=gT d b;have q:=Gd l j;split at h
     . rename_i e;have e:=Ya e;split at h
       . cases h
       . rename_i s m f;have r:=NL J f;cases h;exact a.mono J
     . cases h;exact a.mono J
 . split at h
   . split at h
     . cases h
     . cases h;exact Fr.one.mono J
   . cases h
def GQ(i:Nat)(S:List Rat):Prop:=S.length=9/\∃D:Int,D≠0/\D.natAbs<=10^i/\∀j,∃z:Int,z.natAbs<=10^i/\cf S j=Rat.divInt z D
theorem GQ.mono(h:GQ i S)(e:i<=k):GQ k S:=by
 obtain⟨a,D,b,f,c⟩:=h;have hp:(10:Nat)^i<=10^k:=Aw J e;exact⟨a,D,b,J,λj=>by obtain⟨z,g,d⟩:=c j;exact⟨z,J,d⟩⟩
theorem GQ.start(i:Nat):GQ i (List.replicate 9 0):=⟨rfl,1,DQ,by have:1<=10^i:=Fe J;simpa using this,λj=>⟨0,Y,by rw[JP,Rat.zero_divInt]⟩⟩
theorem GQ.next(h:GQ i S)(s:Fr x c)(M:n<=8)(b:Bool):GQ (i+x+1) (S.set n (if b then cf S n-c else cf S n+c)):=by
 obtain⟨m,D,g,o,p⟩:=h;obtain⟨a,d,y,z,rfl,r,t,K,N⟩:=s;have f:(d:Int)≠0:=J
 have u:(10:Nat)^i*10^z<=10^(i+x):=by rw[<-CG];exact Aw J J
 have v:(10:Nat)^y*10^i<=10^(i+x):=by rw[<-CG];exact Aw J J
 have e:∀w:Int,w.natAbs<=10^i->(w*(d:Int)).natAbs<=10^(i+x):=λw e=>by
  rw[CX,AR];exact As (CO e t) u
 have B:((a:Int)*D).natAbs<=10^(i+x):=by
  rw[CX,AR];exact As (CO r o) v
 refine⟨by rw[Cs];exact m,D*d,Co g f,by have:=e D o;omega,λj=>?_⟩;rw[XG _ _ _ _ (by rw[m];omega)];by_cases q:j=n
 . rw[BG q];obtain⟨w,k,l⟩:=p n;have A:=e w k;rw[l];cases b with
   |true=>
    refine⟨w*d-a*D,by have:=Int.natAbs_sub_le (w*(d:Int)) ((a:Int)*D);omega,?_⟩;rw[BG rfl,FC,Rat.neg_divInt,FH _ _ g f];congr 1;rw[Int.neg_mul];rfl
   |false=>
    refine⟨w*d+a*D,by have:=Int.natAbs_add_le (w*(d:Int)) ((a:Int)*D);omega,?_⟩;rw[BE DQ,FH _ _ g f]
 . rw[BE q];obtain⟨w,k,l⟩:=p j;exact⟨w*d,by have:=e w k;omega,by rw[l,CZ f]⟩
theorem TN:∀(f:Nat) (b:Bool) (I:Nat) (S d:List Rat) (k:Nat),I<=l.length->GQ I S->Ej l f b I S=.ok d k->GQ (l.length+1) d:=by
 intro f;induction f with
 |zero=>intro b I S d k _ _ h;cases h
 |succ f o=>
  intro b I S d k m r h;cases g:Yc l I with
  |error e p=>rw[MR g]at h;cases h
  |ok a s=>
   obtain⟨c,n⟩:=a;have q:=LY m g;have i:=r.next (gU m g) q.2.2 b;have t:=Gd l s;rw[MS g]at h;split at h
   . rename_i j;have:=Ya j;exact o _ _ _ _ _ J (i.mono J) h
   . split at h
     . rename_i j;have:=Ya j;exact o _ _ _ _ _ J (i.mono J) h
     . split at h
       . cases h;exact i.mono J
       . cases h
theorem gV(h:EX l=.ok S k):GQ (l.length+1) S:=by
 unfold EX at h;have a:=YL (l:=l) (i:=0) J;split at h
 . rename_i b;have:=Ya b;exact TN _ _ _ _ _ _ J (GQ.start _) h
 . exact TN _ _ _ _ _ _ a (GQ.start _) h
theorem gW(a b c:Nat)(h:a*b<64*c):((2:Nat)^a)^b<Z^c:=by
 rw[show Z=2^64 from by decide,<-FJ,<-FJ];exact Nat.pow_lt_pow_right J h
theorem gX(h:n<=43*k)(c:k<=7):(10:Nat)^n<Z^16:=by
 have b:((10:Nat)^43)^k<=(2^143)^k:=CT DQ k;have a:(10:Nat)^n<=10^(43*k):=Aw J h;rw[FJ]at a;exact Cp (As a b) (gW 143 k 16 J)
theorem gY(l:List UInt8):∃D:Int,D≠0/\Sm 16 D/\D7 D 16 (JV l).1:=by
 have a:∃D:Int,D≠0/\Sm 16 D/\D7 D 16 []:=⟨1,DQ,Sm.one _ J,λi=>by rw[Yw];exact CD.zero _ _⟩;by_cases h:300<l.length
 . rw[show JV l=([],1,0)by unfold JV;rw[BG h]];exact a
 . rw[K6 h];cases b:EX l with
   |error e p=>exact a
   |ok S k=>
    rw[show(KO (EStateM.Result.ok S k)).1=Jd S from rfl];obtain⟨_,D,c,g,d⟩:=gV b;have b:=gX (n:=l.length+1) (k:=7) J J;exact⟨D,c,by unfold Sm;omega,λi=>by
     obtain⟨z,j,f⟩:=d i;exact⟨z,by rw[JR];exact f,by unfold Sm;omega⟩⟩
open Go.RowKit Go.Shelf
attribute [local go_sem] Oper.semAt_some
theorem TO(l:List UInt8):Jd (JV l).1=(JV l).1:=by
 by_cases h:300<l.length
 . rw[show JV l=([],1,0)by unfold JV;rw[BG h]];rfl
 . rw[K6 h];cases EX l with
   |error e p=>rfl
   |ok S k=>exact Yi _
theorem Om(s:ByteArray)(hs:s.size<=140737488351232)(w:F):
 Calls Tryz.prog 10 #[L s] w λe c=>∃u,e=.returned u/\RowK false c u (JV (Jg s)).1/\Bl w c:=by
 have a:=O λ(V:F)=>bS s hs V;clear hs;go_enter Tryz.func10,Tryz.ntmps10
 go_wp2_with(go_at_call 29;refine(a.o _).mono ?_;clear a;rintro e j ⟨u,g,i,rfl,⟨rfl,rfl,b,_,_⟩,d⟩;obtain⟨f,l2,c2,rfl⟩:=b.form)
 go_ret;exact⟨_,rfl,b,d⟩
theorem On(s:ByteArray)(w:F):
 Calls Tryz.prog 7 #[L s] w λe y=>∃u,e=.returned u/\Jf y u (JV (Jg s)).1/\Bl w y:=by
 have r:=O λ(V:F)=>R7 s V;have b0:=BM w 25 (E none 0 0);have i:Bl w (w.alloc (Q #[E none 0 0] 25)):=Ba w _;obtain⟨N,m⟩:=ex (w.alloc (Q #[E none 0 0] 25));obtain⟨z,k⟩:=ex (w.heap.size);rw[m]at b0 i;rw[k]at b0;obtain⟨A,t,K,x⟩:=D5 b0 i m k;clear b0 i m k;go_enter Tryz.func7,Tryz.ntmps7
 go_upto_region 1 with fail
 rw[K.o,x.o];go_upto_region 2 with(go_at_call 23;refine(r.o _).mono ?_;clear r;rintro e b ⟨u,R,S,rfl,⟨rfl,rfl,n⟩,g⟩;obtain⟨a,l1,c1,rfl⟩:=n.form)
 have d:Bl b (b.alloc (Q #[E a l1 c1] 25)):=Ba b _;have o:=BM b 25 (E a l1 c1);have c:=(A.o.bel g).bel d;have q:=n.row.below d;have j:=(Bt t.o g).trans (d.mono (Bt t.o g).size);obtain⟨P,f⟩:=ex (b.alloc (Q #[E a l1 c1] 25));obtain⟨M,l⟩:=ex (b.heap.size);rw[f,l]at o;rw[f]at c q j;rw[f,l];have x1:=o.cell;have x0:=c.cell;have f0:=c.frozen;have B:=O (F0 c (E a l1 c1) q);have D:=O (j.setCell (p:=⟨z,0,none⟩) (by rw[x.o];exact Aa _) (E a l1 c1));clear d o c q j f l n g;go_wp2_with fail
 exact BA (v:=I #[E a l1 c1]) (by simp[results,Tryz.results7,go_sem,x0]) rfl ⟨_,rfl,⟨_,rfl,B.o⟩,D.o⟩
end
open Go.RowKit Go.Shelf
theorem Oo(l:List UInt8):Cd 16 (JV l).1:=gY l
theorem Cd.mul{M N:Nat}{p q:List Rat}(h:Cd M p)(g:Cd N q):Cd (M+N+p.length) (Jv p q):=by
 obtain⟨D,d1,b,c⟩:=h;obtain⟨E,d,e,f⟩:=g;have a:D*E≠0:=Co d1 d;exact⟨D*E,a,(b.mul e).mono J,λi=>dZ a (λi j=>(c i).mul (f j)) i⟩
theorem Cd.times{M N:Nat}{p q:List Rat}(h:Cd M p)(f:Cd N q)(hl:M+N+p.length+1<=1000000000):M3.X8 p q:=by
 obtain⟨D,d1,a,b⟩:=h;obtain⟨E,c,d,e⟩:=f;exact dY (Co d1 c) ((a.mul d).mono J) (λi j=>(b i).mul (e j)) hl
namespace M3
theorem TR(a b:H)(ps qs:List Rat)(w:F)(i:Jf w a ps)(j:Jf w b qs)(m:Sqs ps)(n:Sqs qs)(l:X8 ps qs)(k:ps.length+qs.length<=1099511627776):
 Calls Tryz.prog 9 #[a,b] w λe c=>∃u,e=.returned u/\Jf c u (Jv ps qs)/\Bl w c:=by
 refine(aK a b ps qs w i j m n l k).mono ?_;rintro e c ⟨u,d,f,_,g⟩;exact⟨u,d,f,g⟩
theorem ChOk.of{K:Nat}{p q:List Rat}(tp:Jd p=p)(tq:Jd q=q)(cp:Cd K p)(cq:Cd K q){n:Nat}(lp:p.length<=n)(lq:q.length<=n)(hle:4*((n+2)*((K+1)*(n+n+1)+1))<=1000000000)(c:n<=1000):ChOk K p q:=by
 refine⟨tp,tq,cp,cq,?_,J⟩;have a:Dc K p q<=(K+1)*(n+n+1):=Av _ J;have b:(max p.length q.length+2)*(Dc K p q+1)<=(n+2)*((K+1)*(n+n+1)+1):=CO J J;omega
attribute [local go_sem] Oper.semAt_some
theorem gs(s t u:ByteArray)(hs:s.size<=140737488351232)(ht:t.size<=140737488351232)(hu:u.size<=140737488351232)(w:F)(de:Ey w):
 Calls Tryz.prog 3 #[L s,L t,L u] w λr w'=>r=.returned (.bool true)/\Bl w w':=by
 have Qp:Tryz.prog.follows .mixedOrders=true:=by kernel_rfl
 have HT:=O de;have cP:=Oo (Jg s);have cQ:=Oo (Jg t);have cR:=Oo (Jg u);have lP:=(OX (Jg s)).1;have lQ:=(OX (Jg t)).1;have lR:=(OX (Jg u)).1;have tP:=TO (Jg s);have tQ:=TO (Jg t);obtain⟨Qj,Qg,Qd,Ql,Qf,Qi⟩:=I7 (λ(V:F)=>Om s hs V) (λ(V:F)=>Om t ht V) (λ(V:F)=>Om u hu V) (λ(V:F)=>On s V) (λ(V:F)=>On t V) λ(V:F)=>On u V;obtain⟨p,hp⟩:=ex ((JV (Jg s)).1);obtain⟨q,hq⟩:=ex ((JV (Jg t)).1);obtain⟨r,hr⟩:=ex ((JV (Jg u)).1);rw[hp]at cP lP tP Qj Ql;rw[hq]at cQ lQ tQ Qg Qf;rw[hr]at cR lR Qd Qi;have Qn:Cd 41 (Jv p r):=(cP.mul cR).mono J;have Qm:Cd 41 (Jv q r):=(cQ.mul cR).mono J;have Qo:=SJ p r;have Qq:=SJ q r;have Qk:X8 p r:=cP.times cR J;have Qh:X8 q r:=cQ.times cR J;have U:ChOk 16 p q:=ChOk.of tP tQ cP cQ (n:=9) lP lQ DQ J;have W:ChOk 41 (Jv p r) (Jv q r):=ChOk.of (Ym _ _) (Ym _ _) Qn Qm (n:=18) J J DQ J;have cA:=U.gcd;have cB:=W.gcd;have lA:(JH p q).length<=3000:=by
  obtain⟨e,he⟩:=Chn.ends U _ _ _ (Aa _) (Chn.start U.tp U.tq U.lp U.lq U.bd.2.2.1);rw[<-he.gc,LB,Yk he.ta];have:=he.la;omega
 have lB:(JH (Jv p r) (Jv q r)).length<=3000:=by
  obtain⟨e,he⟩:=Chn.ends W _ _ _ (Aa _) (Chn.start W.tp W.tq W.lp W.lq W.bd.2.2.1);rw[<-he.gc,LB,Yk he.ta];have:=he.la;omega
 have sP:=cP.sqs J;have sQ:=cQ.sqs J;have sR:=cR.sqs J;have sA:=cA.sqs U.bd.1;have sB:=cB.sqs W.bd.1;obtain⟨C1,C2,C3,C4,D1,D2,D3,D4⟩:=Ha (λ(V:F) (x y:H) (f:Jf V x p) (T:Jf V y q)=>LG 16 x y p q V f T U) (λ(V:F) (x y:H) (f:Jf V x p) (T:Jf V y r)=>TR x y p r V f T sP sR Qk J) (λ(V:F) (x y:H) (f:Jf V x q) (T:Jf V y r)=>TR x y q r V f T sQ sR Qh J) (λ(V:F) (x y:H) (f:Jf V x (Jv p r)) (T:Jf V y (Jv q r))=>LG 41 x y (Jv p r) (Jv q r) V f T W) (λ(V:F) (x y:H) (f:RowK false V x p) (T:RowK false V y q)=>Sw 16 x y p q V f T U) (λ(V:F) (x y:H) (f:RowK false V x p) (T:RowK false V y r)=>OT x y p r V f T sP sR Qk J) (λ(V:F) (x y:H) (f:RowK false V x q) (T:RowK false V y r)=>OT x y q r V f T sQ sR Qh J) λ(V:F) (x y:H) (f:RowK false V x (Jv p r)) (T:RowK false V y (Jv q r))=>Sw 41 x y (Jv p r) (Jv q r) V f T W;obtain⟨TA,TB,TP,TQ,XA,XB,XP,XQ⟩:=Ha (λ(V:F) (x:H) (f:Jf V x (JH p q)) (hp:Ey V)=>KJ x (JH p q) V f sA (λm=>XD sA lA m) hp) (λ(V:F) (x:H) (f:Jf V x (JH (Jv p r) (Jv q r))) (hp:Ey V)=>KJ x _ V f sB (λm=>XD sB lB m) hp) (λ(V:F) (x:H) (f:Jf V x p) (hp:Ey V)=>KJ x p V f sP (λm=>XD sP J m) hp) (λ(V:F) (x:H) (f:Jf V x q) (hp:Ey V)=>KJ x q V f sQ (λm=>XD sQ J m) hp) (λ(V:F) (x:H) (f:RowK false V x (JH p q)) (hp:Ey V)=>MT x (JH p q) V f sA (λm=>XD sA lA m) (YP _ _) hp) (λ(V:F) (x:H) (f:RowK false V x (JH (Jv p r) (Jv q r))) (hp:Ey V)=>MT x _ V f sB (λm=>XD sB lB m) (YP _ _) hp) (λ(V:F) (x:H) (f:RowK false V x p) (hp:Ey V)=>MT x p V f sP (λm=>XD sP J m) tP hp) λ(V:F) (x:H) (f:RowK false V x q) (hp:Ey V)=>MT x q V f sQ (λm=>XD sQ J m) tQ hp;have AL:=O λ(V:F) (hp:Ey V)=>gS V hp;obtain⟨SA,ce⟩:∃S:ByteArray,⟨(E9 (JH p q)).toArray⟩=S:=⟨_,rfl⟩;obtain⟨SB,cg⟩:∃S:ByteArray,⟨(E9 (JH (Jv p r) (Jv q r))).toArray⟩=S:=⟨_,rfl⟩;obtain⟨SP,ci⟩:∃S:ByteArray,⟨(E9 p).toArray⟩=S:=⟨_,rfl⟩;obtain⟨SQ,cj⟩:∃S:ByteArray,⟨(E9 q).toArray⟩=S:=⟨_,rfl⟩;rw[ce]at TA XA;rw[cg]at TB XB;rw[ci]at TP XP;rw[cj]at TQ XQ;have M1:Hid (Mem w w []):=O (Mem.nil w);clear de cP cQ cR lP lQ lR tP tQ hp hq hr Qn Qm Qo Qq Qk Qh U W cA cB lA lB sP sQ sR sA sB ce cg ci cj hs ht hu;go_enter Tryz.func3,Tryz.ntmps3
 go_upto_region 2 with(go_at_call 7;refine(Ql.o _).mono ?_;clear Ql;rintro e w1 ⟨u1,rfl,az,ck⟩;obtain⟨af,bk,am,rfl⟩:=Jf.form az)
 obtain⟨V1,R⟩:=ex (w1.alloc (Q #[E af bk am] 25));obtain⟨X,P⟩:=ex (w1.heap.size);have d:Mem w (w1.alloc (Q #[E af bk am] 25)) [some (w1.heap.size,.poly p)]:=Mem.push (M1.o.below ck) (.poly p) az;rw[R,P]at d;rw[R];rw[P];have M2:Hid (Mem w V1 [some (X,.poly p)]):=O (d);clear M1;clear d R P;clear az ck;go_upto_region 3 with(go_at_call 7;refine(Qf.o _).mono ?_;clear Qf;rintro e w2 ⟨u2,rfl,bc,cl⟩;obtain⟨ah,bm,an,rfl⟩:=Jf.form bc)
 obtain⟨V2,R⟩:=ex (w2.alloc (Q #[E ah bm an] 25));obtain⟨B2,P⟩:=ex (w2.heap.size);have d:Mem w (w2.alloc (Q #[E ah bm an] 25)) [some (X,.poly p),some (w2.heap.size,.poly q)]:=Mem.push (M2.o.below cl) (.poly q) bc;rw[R,P]at d;rw[R];rw[P];have M3:Hid (Mem w V2 [some (X,.poly p),some (B2,.poly q)]):=O (d);clear M2;clear d R P;clear bc cl;go_upto_region 4 with(go_at_call 7;refine(Qi.o _).mono ?_;clear Qi;rintro e w3 ⟨u3,rfl,bf,cn⟩;obtain⟨ai,bn,ap,rfl⟩:=Jf.form bf)
 obtain⟨V3,R⟩:=ex (w3.alloc (Q #[E ai bn ap] 25));obtain⟨B3,P⟩:=ex (w3.heap.size);have d:Mem w (w3.alloc (Q #[E ai bn ap] 25)) [some (X,.poly p),some (B2,.poly q),some (w3.heap.size,.poly r)]:=Mem.push (M3.o.below cn) (.poly r) bf;rw[R,P]at d;rw[R];rw[P];have M4:Hid (Mem w V3 [some (X,.poly p),some (B2,.poly q),some (B3,.poly r)]):=O (d);clear M3;clear d R P;clear bf cn;obtain⟨a4,l4,c4,n4,r4⟩:=M4.o.poly2 (i:=0) rfl;have Qr:=n4.cell;obtain⟨a5,l5,c5,n5,r5⟩:=M4.o.poly2 (i:=1) rfl;have Qs:=n5.cell;have H1:=O (C1.o V3 _ _ r4 r5);go_upto_region 5 with(go_at_call 8;refine H1.o.mono ?_;clear H1;rintro e w4 ⟨u4,rfl,bg,co⟩;obtain⟨aj,bt,aq,rfl⟩:=Jf.form bg)
 clear n4 Qr r4 n5 Qs r5;obtain⟨V6,R⟩:=ex (w4.alloc (Q #[E aj bt aq] 25));obtain⟨B6,P⟩:=ex (w4.heap.size);have d:Mem w (w4.alloc (Q #[E aj bt aq] 25)) [some (X,.poly p),some (B2,.poly q),some (B3,.poly r),some (w4.heap.size,.poly (JH p q))]:=Mem.push (M4.o.below co) (.poly (JH p q)) bg;rw[R,P]at d;rw[R];rw[P];have M5:Hid (Mem w V6 [some (X,.poly p),some (B2,.poly q),some (B3,.poly r),some (B6,.poly (JH p q))]):=O (d);clear M4;clear d R P;clear bg co;refine Jp Qp [[],[],[0,1],[],[],[3,4,2],[2,5,5],[],[7,6,6,0,1,2,3,4,5,6,7]] (by kernel_rfl) DQ
  (λD ak V=>∃(tc td te tf tg ti tj tb:H) (x7:Option (Nat × Dat)),ak={ tmps:=#[L s,L t,L u,C,C,C,.bool false,G (some ⟨X,0,none⟩),G (some ⟨B2,0,none⟩),G (some ⟨B3,0,none⟩),G (some ⟨B6,0,none⟩),tb,C,C,C,L s,I #[E af bk am],L t,I #[E ah bm an],L u,I #[E ai bn ap],I #[E a4 l4 c4],I #[E a5 l5 c5],I #[E aj bt aq],tc,td,te,tf,tg,ti,tj,C,C,C,C,C,C,C,C,C,C,C,C,C,C,C,C,C,C,C,C,C,C,C,C,C,C,C,C,C,C,C,C,C,C,C,C,C,C,C,C,C,C,C],defers:=[] }/\Hid ((D 0=true->Has V tc (.poly p))/\(D 1=true->Has V td (.poly r))/\(D 2=true->Has V te (.poly (Jv p r)))/\(D 3=true->Has V tf (.poly q))/\(D 4=true->Has V tg (.poly r))/\(D 5=true->Has V ti (.poly (Jv q r)))/\(D 6=true->Has V tj (.poly (JH (Jv p r) (Jv q r))))/\((D 7=false->x7=none)/\(D 7=true->D 8=false->∃B:Nat,tb=G (some ⟨B,0,none⟩)/\x7=some (B,.poly []))/\(D 8=true->∃B:Nat,tb=G (some ⟨B,0,none⟩)/\x7=some (B,.poly (JH (Jv p r) (Jv q r))))))/\Hid (Mem w V [some (X,.poly p),some (B2,.poly q),some (B3,.poly r),some (B6,.poly (JH p q)),x7]))
  ⟨_,_,_,_,_,_,_,_,none,rfl,O ⟨Y,Y,Y,Y,Y,Y,Y,Y⟩,O ((M5.o).none).drew⟩ ?step7 ?fin7
 case step7=>
  rintro D ak V i ds du hi N aw ⟨tc,td,te,tf,tg,ti,tj,tb,x7,rfl,z,d⟩;have f9:i<9:=(Ad.1 hi).1;obtain rfl|rfl|rfl|rfl|rfl|rfl|rfl|rfl|rfl:=Oq i J
  all_goals
   simp only[Af,Ae,Ah]at hi;subst hi
  . clear N;obtain⟨a,l,c,n,r⟩:=d.o.poly2 (i:=0) rfl;have e0:=n.cell;refine Za ?_;exact⟨_,_,_,_,_,_,_,_,_,rfl,(Di z λ_=>r),O (d.o)⟩
  . clear N;obtain⟨a,l,c,n,r⟩:=d.o.poly2 (i:=2) rfl;have e0:=n.cell;refine Za ?_;exact⟨_,_,_,_,_,_,_,_,_,rfl,(Dl z λ_=>r),O (d.o)⟩
  . have h0:=(z.o.1 (N 0 Y));have h1:=(z.o.2.1 (N 1 Y));have A:=O (C2.o V _ _ h0 h1);clear N h0 h1;refine Jb rfl rfl λK hK=>?_;go_simp;go_wp2_with(go_at_call 9;refine A.o.mono ?_;rintro e w5 ⟨v5,rfl,ad,v⟩)
    obtain⟨G0,G1,_,G3,G4,G5,G6,G7⟩:=z.o;exact⟨_,_,_,_,_,_,_,_,_,rfl,O ⟨λh=>(G0 h).below v,λh=>(G1 h).below v,λ_=>ad,λh=>(G3 h).below v,λh=>(G4 h).below v,λh=>(G5 h).below v,λh=>(G6 h).below v,G7⟩,O (d.o.below v)⟩
  . clear N;obtain⟨a,l,c,n,r⟩:=d.o.poly2 (i:=1) rfl;have e0:=n.cell;refine Za ?_;exact⟨_,_,_,_,_,_,_,_,_,rfl,(Dj z λ_=>r),O (d.o)⟩
  . clear N;obtain⟨a,l,c,n,r⟩:=d.o.poly2 (i:=2) rfl;have e0:=n.cell;refine Za ?_;exact⟨_,_,_,_,_,_,_,_,_,rfl,(Dx z λ_=>r),O (d.o)⟩
  . have h0:=(z.o.2.2.2.1 (N 3 Y));have h1:=(z.o.2.2.2.2.1 (N 4 Y));have A:=O (C3.o V _ _ h0 h1);clear N h0 h1;refine Jb rfl rfl λK hK=>?_;go_simp;go_wp2_with(go_at_call 9;refine A.o.mono ?_;rintro e w5 ⟨v5,rfl,ad,v⟩)
    obtain⟨G0,G1,G2,G3,G4,_,G6,G7⟩:=z.o;exact⟨_,_,_,_,_,_,_,_,_,rfl,O ⟨λh=>(G0 h).below v,λh=>(G1 h).below v,λh=>(G2 h).below v,λh=>(G3 h).below v,λh=>(G4 h).below v,λ_=>ad,λh=>(G6 h).below v,G7⟩,O (d.o.below v)⟩
  . have h0:=(z.o.2.2.1 (N 2 Y));have h1:=((Do z) (N 5 Y));have A:=O (C4.o V _ _ h0 h1);clear N h0 h1;refine Jb rfl rfl λK hK=>?_;go_simp;go_wp2_with(go_at_call 8;refine A.o.mono ?_;rintro e w5 ⟨v5,rfl,ad,v⟩)
    obtain⟨G0,G1,G2,G3,G4,G5,_,G7⟩:=z.o;exact⟨_,_,_,_,_,_,_,_,_,rfl,O ⟨λh=>(G0 h).below v,λh=>(G1 h).below v,λh=>(G2 h).below v,λh=>(G3 h).below v,λh=>(G4 h).below v,λh=>(G5 h).below v,λ_=>ad,G7⟩,O (d.o.below v)⟩
  . have hf:D 8=false:=DS du aw;obtain rfl:=D9 z aw;clear N;refine Za ?_;obtain⟨G0,G1,G2,G3,G4,G5,G6,_⟩:=z.o;exact⟨_,_,_,_,_,_,_,_,_,rfl,O ⟨λh=>(G0 h).alloc _,λh=>(G1 h).alloc _,λh=>(G2 h).alloc _,λh=>(G3 h).alloc _,λh=>(G4 h).alloc _,λh=>(G5 h).alloc _,λh=>(G6 h).alloc _,⟨λh=>by simp at h,λ_ _=>⟨_,rfl,rfl⟩,λh=>by simp[hf]at h⟩⟩,O (d.o.fill (i:=4) rfl (.poly []) (He _))⟩
  . obtain⟨B,rfl,rfl⟩:=EE z (N 7 Y) aw;have Qe:=N 7 Y;have hv:=((Du z) (N 6 Y));obtain⟨a1,l1,c1,rfl⟩:=Jf.form (show Jf V _ _ from hv);obtain⟨a,l,c,n,r⟩:=d.o.poly2 (i:=4) rfl;have e0:=n.cell;have f0:=n.frozen;clear N;refine Za ?_;obtain⟨G0,G1,G2,G3,G4,G5,G6,_⟩:=z.o;exact⟨_,_,_,_,_,_,_,_,_,rfl,O ⟨λh=>(G0 h).set1 n rfl _,λh=>(G1 h).set1 n rfl _,λh=>(G2 h).set1 n rfl _,λh=>(G3 h).set1 n rfl _,λh=>(G4 h).set1 n rfl _,λh=>(G5 h).set1 n rfl _,λh=>(G6 h).set1 n rfl _,⟨λh=>by simp[Qe]at h,λ_ h=>by simp at h,λ_=>⟨B,rfl,rfl⟩⟩⟩,O (d.o.putPoly (i:=4) rfl hv)⟩
 rintro D ak V8 bu ⟨tc,td,te,tf,tg,ti,tj,tb,x7,rfl,z,d⟩;obtain⟨B9,rfl,rfl⟩:=z.o.2.2.2.2.2.2.2.2.2 (bu 8 DQ);clear z bu M5;have M6:Hid (Mem w V8 [some (X,.poly p),some (B2,.poly q),some (B3,.poly r),some (B6,.poly (JH p q)),some (B9,.poly (JH (Jv p r) (Jv q r)))]):=d;clear d;obtain⟨ed,fa,ew,dh,r10⟩:=M6.o.poly2 (i:=0) rfl;obtain⟨eh,fb,f6,di,r11⟩:=M6.o.poly2 (i:=1) rfl;obtain⟨ei,fc,f7,dj,r12⟩:=M6.o.poly2 (i:=3) rfl;obtain⟨et,fd,f8,dp,dt⟩:=M6.o.poly2 (i:=4) rfl;have nP:=dh;have rP:=r10;clear dh r10;have nQ:=di;have rQ:=r11;clear di r11;have nA:=dj;have rA:=r12;clear dj r12;have nB:=dp;have rB:=dt;clear dp dt;have M:=O M6.o.2.2;clear M6 C1 C2 C3 C4;have hq:Bl V8 V8:=BB _ _;go_upto_region 7 with(go_at_call 10;refine(Qj.o _).mono ?_;clear Qj;rintro e w6 ⟨u6,rfl,bh,ct⟩;obtain⟨fj,fs,fm,rfl⟩:=bh.form)
 have rX:=bh;replace hq:=Bt hq ct
 clear bh ct;go_upto_region 8 with(go_at_call 10;refine(Qg.o _).mono ?_;clear Qg;rintro e w7 ⟨u7,rfl,bi,ay⟩;obtain⟨fk,ft,fo,rfl⟩:=bi.form)
 replace rX:=rX.below ay;have rY:=bi;replace hq:=Bt hq ay
 clear bi ay;go_upto_region 9 with(go_at_call 10;refine(Qd.o _).mono ?_;clear Qd;rintro e w8 ⟨u8,rfl,bj,ae⟩;obtain⟨fl,fu,fr,rfl⟩:=bj.form)
 replace rX:=rX.below ae;replace rY:=rY.below ae;have rZ:=bj;replace hq:=Bt hq ae
 clear bj ae;replace nP:=nP.bel hq;replace rP:=rP.below hq;replace nQ:=nQ.bel hq;replace rQ:=rQ.below hq;replace nA:=nA.bel hq;replace rA:=rA.below hq;replace nB:=nB.bel hq;replace rB:=rB.below hq;replace M:=O (Bt M.o hq);clear hq;have Qb:=O λ(V:F) (h:Bl w8 V)=>show Ey V from Yv HT.o (Bt M.o h);have A:=O λ(V:F) (h:Bl w8 V)=>show V.cell? _=_/\V.cell? _=_/\V.cell? _=_/\V.cell? _=_ from⟨(nA.bel h).cell,(nB.bel h).cell,(nP.bel h).cell,(nQ.bel h).cell⟩;have hq:Bl w8 w8:=BB _ _;obtain⟨g,j,k,o⟩:=A.o _ hq;go_wp2_with(first
  |(go_at_call 11;refine(TA.o _ _ (rA.below hq) (Qb.o _ hq)).mono ?_;clear TA;rintro e x1 ⟨rfl,b⟩;replace hq:=Bt hq b;clear b g j k o;obtain⟨g,j,k,o⟩:=A.o _ hq)
  |(go_at_call 13;refine(D1.o _ _ _ (rX.below hq) (rY.below hq)).mono ?_;clear D1;rintro e x2 ⟨v1,rfl,dw,b⟩;replace hq:=Bt hq b;clear b g j k o;obtain⟨g,j,k,o⟩:=A.o _ hq)
  |(go_at_call 12;refine(XA.o _ _ dw (Qb.o _ hq)).mono ?_;clear XA;rintro e x3 ⟨rfl,b⟩;replace hq:=Bt hq b;clear b g j k o;obtain⟨g,j,k,o⟩:=A.o _ hq)
  |(go_at_call 11;refine(TB.o _ _ (rB.below hq) (Qb.o _ hq)).mono ?_;clear TB;rintro e x4 ⟨rfl,b⟩;replace hq:=Bt hq b;clear b g j k o;obtain⟨g,j,k,o⟩:=A.o _ hq)
  |(go_at_call 14;refine(D2.o _ _ _ (rX.below hq) (rZ.below hq)).mono ?_;clear D2;rintro e x5 ⟨v2,rfl,Qc,b⟩;replace hq:=Bt hq b;clear b g j k o;obtain⟨g,j,k,o⟩:=A.o _ hq)
  |(go_at_call 14;refine(D3.o _ _ _ (rY.below hq) (rZ.below hq)).mono ?_;clear D3;rintro e x6 ⟨v3,rfl,dx,b⟩;replace hq:=Bt hq b;replace Qc:=Qc.below b;clear b g j k o;obtain⟨g,j,k,o⟩:=A.o _ hq)
  |(go_at_call 13;refine(D4.o _ _ _ Qc dx).mono ?_;clear D4;rintro e x7 ⟨v4,rfl,dz,b⟩;replace hq:=Bt hq b;clear b g j k o;obtain⟨g,j,k,o⟩:=A.o _ hq)
  |(go_at_call 12;refine(XB.o _ _ dz (Qb.o _ hq)).mono ?_;clear XB;rintro e x8 ⟨rfl,b⟩;replace hq:=Bt hq b;clear b g j k o;obtain⟨g,j,k,o⟩:=A.o _ hq)
  |(go_at_call 11;refine(TP.o _ _ (rP.below hq) (Qb.o _ hq)).mono ?_;clear TP;rintro e x9 ⟨rfl,b⟩;replace hq:=Bt hq b;clear b g j k o;obtain⟨g,j,k,o⟩:=A.o _ hq)
  |(go_at_call 12;refine(XP.o _ _ (rX.below hq) (Qb.o _ hq)).mono ?_;clear XP;rintro e fe ⟨rfl,b⟩;replace hq:=Bt hq b;clear b g j k o;obtain⟨g,j,k,o⟩:=A.o _ hq)
  |(go_at_call 11;refine(TQ.o _ _ (rQ.below hq) (Qb.o _ hq)).mono ?_;clear TQ;rintro e fg ⟨rfl,b⟩;replace hq:=Bt hq b;clear b g j k o;obtain⟨g,j,k,o⟩:=A.o _ hq)
  |(go_at_call 12;refine(XQ.o _ _ (rY.below hq) (Qb.o _ hq)).mono ?_;clear XQ;rintro e fh ⟨rfl,b⟩;replace hq:=Bt hq b;clear b g j k o;obtain⟨g,j,k,o⟩:=A.o _ hq)
  |(go_at_call 15;refine(AL.o _ (Qb.o _ hq)).mono ?_;clear AL;rintro e fi ⟨rfl,b⟩;replace hq:=Bt hq b;clear b g j k o;obtain⟨g,j,k,o⟩:=A.o _ hq))
 go_ret;exact⟨rfl,Bt M.o hq⟩
end M3

