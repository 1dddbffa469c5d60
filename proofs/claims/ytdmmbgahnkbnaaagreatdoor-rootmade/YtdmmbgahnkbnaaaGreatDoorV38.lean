import Derived.Test.YtdmmbgahnkbnaaaGreatDoorV37
set_option linter.all false
open Go.Value renaming slice->C
open Go renaming Value->E,World->F
set_option maxRecDepth 99999
set_option maxHeartbeats 0
namespace Go.Proofs.YtdmmbgahnkbnaaaGreatDoor
section
open Go.RowKit Go.Shelf
def Br:type_of% @Lib.wpList_append_run:=@Lib.wpList_append_run
def La(s:List Rat × List Rat):List Rat × List Rat:=(Dr s.1 (Js s.1 (JT s.2 (Jb s.1))),Dr (JT s.2 (Jb s.1)) (Js s.1 (JT s.2 (Jb s.1))))
def DT(w y:List Rat):Nat->List Rat × List Rat
 |0=>(w,y)
 |n+1=>La (DT w y n)
def yP(s:List Rat × List Rat):List Rat:=Js s.1 (JT s.2 (Jb s.1))
def yL(w y:List Rat):Nat->List (List Rat × Nat)
 |0=>[]
 |n+1=>yL w y n++(if 1<(yP (DT w y n)).length then [(yP (DT w y n),n+1)]else [])
theorem Wq(w y:List Rat):∀n,(yL w y n).length<=n:=by
 intro n;induction n with
 |zero=>exact Aa _
 |succ n a=>
  grind[yL]
structure StOk(K M:Nat)(w y:List Rat):Prop where
 ch:M3.ChOk K w (JT y (Jb w))
 ty:Jc y=y
 cw:Cd M w
 cs:Cd M (Jb w)
 cy:Cd M y
 cz:Cd M (JT y (Jb w))
 kM:Dc K w (JT y (Jb w))<=M
 l1:2*((w.length+3)*(M+1))<=1000000000
 l2:2*(((JT y (Jb w)).length+3)*(M+1))<=1000000000
structure PtOk(K M N:Nat)(p:List Rat):Prop where
 tp:Jc p=p
 cp:Cd M p
 ch:M3.ChOk K (Jr p) (Jb (Jr p))
 kM:Dc K (Jr p) (Jb (Jr p))<=M
 l1:2*((p.length+3)*(M+1))<=1000000000
 gt:1<p.length
 nN:N<=1000000000
 st:∀n,n<N->1<(DT (Dr (Jr p) (Js (Jr p) (Jb (Jr p)))) (Dr (Jb (Jr p)) (Js (Jr p) (Jb (Jr p)))) n).1.length/\StOk K M (DT (Dr (Jr p) (Js (Jr p) (Jb (Jr p)))) (Dr (Jb (Jr p)) (Js (Jr p) (Jb (Jr p)))) n).1 (DT (Dr (Jr p) (Js (Jr p) (Jb (Jr p)))) (Dr (Jb (Jr p)) (Js (Jr p) (Jb (Jr p)))) n).2
 en:(DT (Dr (Jr p) (Js (Jr p) (Jb (Jr p)))) (Dr (Jb (Jr p)) (Js (Jr p) (Jb (Jr p)))) N).1.length<=1
def Kv(p:List Rat)(N:Nat):List (List Rat × Nat):=yL (Dr (Jr p) (Js (Jr p) (Jb (Jr p)))) (Dr (Jb (Jr p)) (Js (Jr p) (Jb (Jr p)))) N
namespace M3
def FV(base:Nat)(V:F)(v:E)(L:List (List Rat × Nat)):Prop:=EP true base V v L
section
variable {base:Nat} {V V':World} {v:Value} {L:List (List Rat × Nat)}
def FV.below(h:FV base V v L)(a:Bl V V'):FV base V' v L:=EP.below h a
def FV.drew(h:FV base V v L):FV base V.drew v L:=EP.below h ((BB _ V).drew)
def FV.alloc(h:FV base V v L)(o:Obj):FV base (V.alloc o) v L:=EP.below h (Ba V o)
def FV.set1(h:FV base V v L){B:Nat}{a:Option Addr}{l c:Nat}(q:Boxed V B 25 (C a l c))(_:JP (C a l c)=true)(b:E):FV base (V.setCell ⟨B,0,none⟩ b) v L:=EP.set h q (λ_ _ g=>GD q b g)
end
def oj(a b:E)(ps qs:List Rat)(w:F)(g:Je w a ps)(i:Je w b qs)(j:Sqs ps)(k:Sqs qs)(l:Sqs (JT ps qs)):
 Calls Tryz.prog 30 #[a,b] w λe w'=>∃u,e=.returned u/\Je w' u (JT ps qs)/\Bl w w':=by
 refine(VO a b ps qs w g i j k l).mono ?_;rintro e w' ⟨u,c,d,_,f⟩;exact⟨u,c,d,f⟩
def Ws{M:Nat}{w:List Rat}(h:Cd M (Jb w))(hM:M<=1000000000)(i:Nat):Sq (Gw w i):=by
 have a:=(h.sqs hM).at i;unfold Jb at a;rwa[YD,LG]at a
attribute [local go_sem] Oper.semAt_some
theorem Wt(K M N:Nat)(v:E)(p:List Rat)(w:F)(h:Je w v p)(D:PtOk K M N p):
 Calls Tryz.prog 50 #[v] w λe w'=>∃u,e=.returned u/\EP true w.heap.size w' u (Kv p N)/\Bl w w':=by
 obtain⟨q,hq⟩:=ex (Jr p);obtain⟨c,hc⟩:=ex (Js q (Jb q));obtain⟨w0,ah⟩:=ex (Dr q c);obtain⟨y0,ai⟩:=ex (Dr (Jb q) c);have hM:M<=1000000000:=by
  have h1:=D.l1;grind
 have Qn:=D.ch;have Ue:=D.kM;rw[hq]at Qn Ue;have Ur:q.length=p.length:=by rw[<-hq];exact XY D.tp
 have Qr:Cd M q:=by rw[<-hq];exact D.cp.mon D.tp
 have Uf:Jc q=q:=by rw[<-hq];exact Yo _
 have Uc:Cd M (Jb q):=(show Cd K (Jb q)from Qn.cq).mono (by have:=OJ K q (Jb q);omega);have Qt:Cd M c:=by rw[<-hc];exact Qn.gcd.mono Ue
 have Ug:Jc c=c:=by rw[<-hc];exact JE _ _
 have Qz:Jr c=c:=by rw[<-hc];exact YF Uf (Ju _)
 have Up:2*(((Jb q).length+3)*(M+1))<=1000000000:=by
  have h1:(Jb q).length<=q.length:=Ac (YI _) (by simp[IM]);have h2:((Jb q).length+3)*(M+1)<=(p.length+3)*(M+1):=Ad _ O;have h3:=D.l1;omega
 obtain⟨Ud,Wa,Ul,Wk,Wj,Wb⟩:=IV (λ(V:F) (x:E) (r:List Rat) (z:Je V x r)=>Yv x r V z) (λ(V:F) (x:E) (z:Je V x p)=>show Calls Tryz.prog 83 #[x] V λe w'=>∃u,e=.returned u/\Je w' u q/\Bl V w' by rw[<-hq];exact oZ M x p V z D.tp D.cp hM) (λ(V:F) (x:E) (z:Je V x q)=>OC x q V z (Qr.sqs hM) (Ws Uc hM)) (λ(V:F) (x y:E) (z:Je V x q) (H:Je V y (Jb q))=>show Calls Tryz.prog 29 #[x,y] V λe w'=>∃u,e=.returned u/\Je w' u c/\Bl V w' by rw[<-hc];exact Wp K x y q (Jb q) V z H Qn) (λ(V:F) (x y:E) (z:Je V x q) (H:Je V y c)=>show Calls Tryz.prog 116 #[x,y] V λe w'=>∃u,e=.returned u/\Je w' u w0/\Bl V w' by rw[<-ah];exact OO M x y q c V z H Qr Qt Uf Ug Qz (by rw[Ur];exact D.l1)) (λ(V:F) (x y:E) (z:Je V x (Jb q)) (H:Je V y c)=>show Calls Tryz.prog 116 #[x,y] V λe w'=>∃u,e=.returned u/\Je w' u y0/\Bl V w' by rw[<-ai];exact OO M x y (Jb q) c V z H Uc Qt (Ju _) Ug Qz Up);have Qs:=D.st;have Qw:=D.en;rw[hq,hc,ah,ai]at Qs Qw;obtain⟨Uq,Wc,We⟩:=DX Qs Qw (show Kv p N=yL w0 y0 N by unfold Kv;rw[hq,hc,ah,ai]);rw[We.o];obtain⟨Uy,Uz,Wd⟩:=DX (λ(a b:List Rat) (o:StOk K M a b) (V:F) (x:E) (z:Je V x a)=>OC x a V z (o.cw.sqs hM) (Ws o.cs hM)) (λ(a b:List Rat) (o:StOk K M a b) (V:F) (x y:E) (z:Je V x b) (H:Je V y (Jb a))=>oj x y b (Jb a) V z H (o.cy.sqs hM) (o.cs.sqs hM) (o.cz.sqs hM)) λ(a b:List Rat) (o:StOk K M a b) (V:F) (x y:E) (z:Je V x a) (H:Je V y (JT b (Jb a)))=>Wp K x y a (JT b (Jb a)) V z H o.ch;have X:∀(a b:List Rat),StOk K M a b->Cd M (Js a (JT b (Jb a)))/\Jc (Js a (JT b (Jb a)))=Js a (JT b (Jb a))/\Jr (Js a (JT b (Jb a)))=Js a (JT b (Jb a)):=λa b o=>⟨o.ch.gcd.mono o.kM,JE _ _,YF o.ch.tp o.ch.tq⟩;have Uu:=Z λ(a b:List Rat) (o:StOk K M a b) (V:F) (x y:E) (z:Je V x a) (H:Je V y (Js a (JT b (Jb a))))=>OO M x y a (Js a (JT b (Jb a))) V z H o.cw (X a b o).1 o.ch.tp (X a b o).2.1 (X a b o).2.2 o.l1;have Wg:=Z λ(a b:List Rat) (o:StOk K M a b) (V:F) (x y:E) (z:Je V x (JT b (Jb a))) (H:Je V y (Js a (JT b (Jb a))))=>OO M x y (JT b (Jb a)) (Js a (JT b (Jb a))) V z H o.cz (X a b o).1 o.ch.tq (X a b o).2.1 (X a b o).2.2 o.l2;have Ua:¬(p.length:Int)-1<1:=by have:=D.gt;omega
 obtain⟨d0,bi⟩:=ex ((p.length:Int)-1:Int);rw[bi]at Ua;have Ux:=Z bi;have gy:=D.nN;obtain⟨pa,la,pc,rfl⟩:=h.form;obtain⟨W0,fh,M1⟩:=I7 25 (.poly p) h;clear h D Qn Ue Ur Qr Uf Uc Qt Ug Qz Up Qs Qw X hM hq hc ah ai bi;go_enter Tryz.func50,Tryz.ntmps50
 go_upto_region 1 with fail
 rw[fh.o];obtain⟨a1,l1,c1,n1,r1⟩:=M1.o.poly2 (i:=0) rfl;have Qx:=n1.cell;have G:=Z (Ud.o W0 _ p r1);rw[Ux.o]at G;go_upto_region 3 with(go_at_call 26;refine G.o.mono ?_;rintro e w1 ⟨rfl,hq⟩;clear Qx;have Qx:=(boxed_below n1 hq).cell)
 have M2:=Z (M1.o.below hq);clear M1;clear hq n1 r1 Qx;obtain⟨a2,l2,c2,n2,r2⟩:=M2.o.poly2 (i:=0) rfl;have Qy:=n2.cell;have Qv:=n2.frozen;have G:=Z (Wa.o w1 _ r2);go_upto_region 4 with(go_at_call 83;refine G.o.mono ?_;rintro e w2 ⟨u2,rfl,ce,hq⟩;obtain⟨co,dx,de,rfl⟩:=Je.form ce;clear Qy;have Qy:=(boxed_below n2 hq).cell;clear Qv;have Qv:=(boxed_below n2 hq).frozen)
 obtain⟨V3,R⟩:=ex (w2.setCell ⟨w.heap.size,0,none⟩ (C co dx de));have l:DJ w (w2.setCell ⟨w.heap.size,0,none⟩ (C co dx de)) [some (w.heap.size,.poly q)]:=DJ.putPoly (M2.o.below hq) (i:=0) rfl ce;rw[R]at l;rw[R];have M3:=Z (l);clear M2;clear l R;clear ce hq n2 r2 Qy Qv;refine Yx Dh [[],[],[1],[0,2,2],[],[4,3,3,0,1,2,3,4]] [.poly q,.poly q,.poly (Jb q),.poly c,.ptr,.eq undef] [4,5] (λb v V=>DJ w V [some (w.heap.size,.poly q),nb b v 0 1 (.poly []) (.poly c)]) (M3.o.none).drew (SR (.vl rfl λ_ j=>FP 0 j)<|SR (.vl rfl λ_ j=>FP 0 j)<|SR (.cl λh _=>Ul.o _ _ (h.g 1))<|SR (.cl λh _=>Wk.o _ _ _ (h.g 0) (h.g 2))<|SR (.wr rfl λ_ j=>Ko 1 j)<|SR (.wr rfl λh j=>GS 1 j (h.g 3) (hp:=h.g 4)) Stp.end_)
  λf V5 hF l=>?_
 refine DP ?_;obtain⟨Q,ay⟩:=hF.p 4;have l:=Dw l;simp only[ay]at l;rw[ay];have W:=Z l;clear l hF ay;clear M3;go_upto_region 5 with fail
 refine Yx Dh [[],[],[0,1],[],[3,2],[],[4,5,4],[],[],[7,2,6,0,1,2,7,8],[8,6,9,0,1,2,3,4,5,6,7,8,9]] [.poly q,.poly c,.poly w0,.poly q,.poly (Jb q),.poly c,.poly y0,.ptr,.ptr,.eq undef,.eq undef] [7,8,9,10] (λb v V=>DJ w V [some (w.heap.size,.poly q),some (Q,.poly c),nb b v 0 2 (.poly []) (.poly w0),nb b v 1 3 (.poly []) (.poly y0)]) ((W.o.none).none).drew (SR (.vl rfl λ_ j=>FP 0 j)<|SR (.vl rfl λ_ j=>FP 1 j)<|SR (.cl λh _=>Wj.o _ _ _ (h.g 0) (h.g 1))<|SR (.vl rfl λ_ j=>FP 0 j)<|SR (.cl λh _=>Ul.o _ _ (h.g 3))<|SR (.vl rfl λ_ j=>FP 1 j)<|SR (.cl λh _=>Wb.o _ _ _ (h.g 4) (h.g 5))<|SR (.wr rfl λ_ j=>Ko 2 j)<|SR (.wr rfl λ_ j=>Ko 3 j)<|SR (.wr rfl λh j=>GS 2 j (h.g 2) (hp:=h.g 7))<|SR (.wr rfl λh j=>GS 3 j (h.g 6) (hp:=h.g 8)) Stp.end_)
  λf V8 hF l=>?_
 refine DP ?_;obtain⟨B9,az⟩:=hF.p 7;obtain⟨B10,aq⟩:=hF.p 8;have l:=Dw l;simp only[az,aq]at l;rw[az,aq];have M5:=Z l;clear l hF az aq;clear W;go_wp2;go_loopw [6,7] (λlv tv wr=>∃(k:Nat) (S:Option Addr) (U:Nat),k<=N/\lv=C S (yL w0 y0 k).length U/\tv=.int .i64 ((k+1:Nat):Int)/\Hid (FV w.heap.size wr (C S (yL w0 y0 k).length U) (yL w0 y0 k))/\Hid (DJ w wr [some (w.heap.size,.poly q),some (Q,.poly c),some (B9,.poly ((DT w0 y0 k).1)),some (B10,.poly ((DT w0 y0 k).2))])) λ_ tv _=>N+1-(intOf tv).toNat
 case atStart=>exact⟨0,none,0,As _,rfl,rfl,Z (EP.nil _ _ _),M5⟩
 case round=>
  clear M5;obtain⟨k,S,U,hk,rfl,rfl,XL,M6⟩:=hrel;obtain⟨g,bu⟩:=ex ((DT w0 y0 k).1);obtain⟨s,bz⟩:=ex ((DT w0 y0 k).2);obtain⟨L,hL⟩:=ex (yL w0 y0 k);have A:=Z (show(DT w0 y0 k).1=g/\(DT w0 y0 k).2=s/\yL w0 y0 k=L/\L.length<=k from⟨bu,bz,hL,by rw[<-hL];exact Wq _ _ _⟩);rw[bu,bz]at M6;rw[hL]at XL;clear bu bz hL;rw[A.o.2.2.1];obtain⟨ll,bn⟩:=ex (L.length:Nat);rw[bn]at XL ⊢;have Qi:=Z bn;clear bn;obtain⟨T,hT⟩:=ex (k+1:Nat);rw[hT];have Qg:=Z hT;clear hT;obtain⟨gi,ia,gr,aj,r11⟩:=M6.o.poly2 (i:=2) rfl;have Qc:=aj.cell;have G:=Z (Ud.o wr _ g r11);obtain⟨d1,bj⟩:=ex ((g.length:Int)-1:Int);rw[bj]at G;have Uo:=Z bj;clear bj;by_cases dj:k<N
  . have Us:(0:Int)<d1:=by have h1:=(Uq.o k dj).1;rw[A.o.1]at h1;have:=Uo.o;omega
    have HO:=Z (show StOk K M g s by have h1:=(Uq.o k dj).2;rwa[A.o.1,A.o.2.1]at h1);go_upto_region 10 with(go_at_call 26;refine G.o.mono ?_;rintro e w1 ⟨rfl,hq⟩;clear Qc;have Qc:=(boxed_below aj hq).cell)
    have M7:=Z (M6.o.below hq);have Un:=Z (XL.o.below hq);clear XL hq aj r11 Qc M6;refine Yx Dh [[],[],[1],[0,2,2],[3,3,0,1,2,3]] [.poly s,.poly g,.poly (Jb g),.poly (JT s (Jb g)),.eq undef] [4] (λb _ V=>DJ w V [some (w.heap.size,.poly q),some (Q,.poly c),some (B9,.poly g),some (B10,if b.getD 0 false then .poly (JT s (Jb g))else .poly s)]/\FV w.heap.size V (C S ll U) L) ⟨M7.o.drew,Un.o.drew⟩ (SR (.vl rfl λ_ j=>FP 3 j.1)<|SR (.vl rfl λ_ j=>FP 2 j.1)<|SR (.cl λh _=>Uy.o g s HO.o _ _ (h.g 1))<|SR (.cl λh _=>Uz.o g s HO.o _ _ _ (h.g 0) (h.g 2))<|SR (.wr rfl λh j=>GS 3 j.1 (h.g 3) (hT:=λn m=>⟨m,j.2.set1 n rfl _⟩)) Stp.end_)
     λf fi hF l=>?_
    obtain⟨l,I⟩:=l;replace I:=Z I;refine DP ?_;have l:=Dw l;have M8:=Z l;clear l hF;clear M7;have Ui:=I;clear I Un;obtain⟨P,hP⟩:=ex (Js g (JT s (Jb g)));obtain⟨Qo,Qm,Qd,Qf⟩:=Dt hP (Wd.o g s HO.o) (Uu.o g s HO.o) (Wg.o g s HO.o);rw[hP]at Qm Qd Qf;clear hP;obtain⟨gj,ib,gu,dz,ei⟩:=M8.o.poly2 (i:=2) rfl;have Qu:=dz.cell;obtain⟨gn,ic,gv,ed,fg⟩:=M8.o.poly2 (i:=3) rfl;have Ub:=ed.cell;have G:=Z (Qm.o fi _ _ ei fg);go_upto_region 12 with(go_at_call 29;refine G.o.mono ?_;rintro e w3 ⟨u3,rfl,cj,hq⟩;obtain⟨an,ck,ap,rfl⟩:=Je.form cj)
    have Uk:=Z ((Ui.o.below hq).alloc (.cells #[C an ck ap] 25));clear Ui dz ei Qu ed fg Ub;have Qq:=Uk;clear Uk;obtain⟨fm,R⟩:=ex (w3.alloc (.cells #[C an ck ap] 25));obtain⟨cn,bf⟩:=ex (w3.heap.size);have l:DJ w (w3.alloc (.cells #[C an ck ap] 25)) [some (w.heap.size,.poly q),some (Q,.poly c),some (B9,.poly g),some (B10,.poly (JT s (Jb g))),some (w3.heap.size,.poly P)]:=DJ.push (M8.o.below hq) (.poly P) cj;rw[R,bf]at l;rw[R]at Qq;rw[R];rw[bf];have M9:=Z (l);clear M8;clear l R bf cj hq;obtain⟨gq,ie,gw,ae,am⟩:=M9.o.poly2 (i:=4) rfl;have Qb:=ae.cell;have G:=Z (Ud.o fm _ P am);obtain⟨d2,bm⟩:=ex ((P.length:Int)-1:Int);rw[bm]at G;have Uj:=Z bm;clear bm;by_cases df:1<P.length
    . have Uw:(0:Int)<d2:=by have:=Uj.o;omega
      have Qh:=Z (show yL w0 y0 (k+1)=L++[(P,T)]by rw[yL,A.o.2.2.1];unfold yP;rw[A.o.1,A.o.2.1,Qo.o,BF df,Qg.o]);go_upto_region 13 with(go_at_call 26;refine G.o.mono ?_;rintro e w4 ⟨rfl,hq⟩;clear Qb;have Qb:=(boxed_below ae hq).cell)
      have X4:=Qq.o.below hq;have W:=M9.o.below hq;have r4:=am.below hq;have Uh:=W.2.2.size;obtain⟨v',w',bg,X5,di,dh,gh⟩:=oi true w.heap.size w4 (C S ll U) L X4 (t:=T) r4.row (by have:=A.o.2.2.2;omega) Uh;obtain⟨ya,yc,dt,_,_⟩:=X5.form;rw[Am,show([(P,T)]:List (List Rat × Nat)).length=1 from rfl]at dt;subst dt;have M5:=W.farP di (dh _ w (Aa _) W.2.2) (λi B d e=>by rcases i with _|_|_|_|_|i<;>simp at e<;>(obtain⟨rfl,rfl⟩:=e;show 25≠98;decide));have e4:=(boxed_below ae hq).cell;clear X4 r4 Uh di dh gh hq W ae am Qb;rw[show Hr true=95 from rfl,show EG true=98 from rfl]at bg;go_upto_region 14 with(first
       |(at_builtin;refine Br _ rfl _ _ 95 95 rfl _ _ rfl rfl _ _ bg ?_;clear bg))
      clear e4 M9;have Qk:=Z (M5);clear M5;have Um:Hid (FV w.heap.size w' (C ya (L.length+1) yc) (L++[(P,T)])):=Z X5;clear X5;rw[Qi.o]at Um;refine Yx Dh [[],[],[0,1],[],[],[3,4,2],[2,5,0,1,2],[5,6,0,1,2,3,4,5,6]] [.poly g,.poly P,.poly (Dr g P),.poly (JT s (Jb g)),.poly P,.poly (Dr (JT s (Jb g)) P),.eq undef,.eq undef] [6,7] (λb _ V=>DJ w V [some (w.heap.size,.poly q),some (Q,.poly c),some (B9,if b.getD 0 false then .poly (Dr g P)else .poly g),some (B10,if b.getD 1 false then .poly (Dr (JT s (Jb g)) P)else .poly (JT s (Jb g))),some (cn,.poly P)]/\FV w.heap.size V (C ya (ll+1) yc) (L++[(P,T)])) ⟨Qk.o.drew,Um.o.drew⟩ (SR (.vl rfl λ_ j=>FP 2 j.1)<|SR (.vl rfl λ_ j=>FP 4 j.1)<|SR (.cl λh _=>Qd.o _ _ _ (h.g 0) (h.g 1))<|SR (.vl rfl λ_ j=>FP 3 j.1)<|SR (.vl rfl λ_ j=>FP 4 j.1)<|SR (.cl λh _=>Qf.o _ _ _ (h.g 3) (h.g 4))<|SR (.wr rfl λh j=>GS 2 j.1 (h.g 2) (hT:=λn m=>⟨m,j.2.set1 n rfl _⟩))<|SR (.wr rfl λh j=>GS 3 j.1 (h.g 5) (hT:=λn m=>⟨m,j.2.set1 n rfl _⟩)) Stp.end_)
       λf fo hF l=>?_
      obtain⟨l,I⟩:=l;replace I:=Z I;refine DP ?_;have l:=Dw l;have Ql:=Z l;clear l hF;generalize f 0=ig,f 1=ii,f 2=ij,f 3=il,f 4=io,f 5=iu;clear Qk;have Qp:Hid (DJ w fo [some (w.heap.size,.poly q),some (Q,.poly c),some (B9,.poly (Dr g P)),some (B10,.poly (Dr (JT s (Jb g)) P))]):=Z (Ql.o.take 4);have Qj:=Z (show(DT w0 y0 (k+1)).1=Dr g P/\(DT w0 y0 (k+1)).2=Dr (JT s (Jb g)) P by rw[DT];unfold La;rw[A.o.1,A.o.2.1,Qo.o];exact⟨rfl,rfl⟩);have Uv:T+1<=9223372036854775807:=by have:=Qg.o;omega
      clear Ql;go_wp2_with fail
      go_roundw
      case rel=>exact⟨k+1,ya,yc,O,by rw[Qh.o,Am,Qi.o];rfl,by rw[Qg.o];go_num,by rw[Qh.o,Am,Qi.o];exact I,by rw[Qj.o.1,Qj.o.2];exact Qp⟩
      case measure=>simp[intOf];have:=Qg.o;omega
    . have Uw:¬(0:Int)<d2:=by have:=Uj.o;omega
      have Qh:=Z (show yL w0 y0 (k+1)=L by rw[yL,A.o.2.2.1];unfold yP;rw[A.o.1,A.o.2.1,Qo.o,BE df,CC]);go_upto_region 14 with(go_at_call 26;refine G.o.mono ?_;rintro e w4 ⟨rfl,hq⟩;clear Qb;have Qb:=(boxed_below ae hq).cell)
      have Ut:=Z (Qq.o.below hq);have Qk:=Z (M9.o.below hq);clear M9;clear hq ae am Qb;refine Yx Dh [[],[],[0,1],[],[],[3,4,2],[2,5,0,1,2],[5,6,0,1,2,3,4,5,6]] [.poly g,.poly P,.poly (Dr g P),.poly (JT s (Jb g)),.poly P,.poly (Dr (JT s (Jb g)) P),.eq undef,.eq undef] [6,7] (λb _ V=>DJ w V [some (w.heap.size,.poly q),some (Q,.poly c),some (B9,if b.getD 0 false then .poly (Dr g P)else .poly g),some (B10,if b.getD 1 false then .poly (Dr (JT s (Jb g)) P)else .poly (JT s (Jb g))),some (cn,.poly P)]/\FV w.heap.size V (C S ll U) L) ⟨Qk.o.drew,Ut.o.drew⟩ (SR (.vl rfl λ_ j=>FP 2 j.1)<|SR (.vl rfl λ_ j=>FP 4 j.1)<|SR (.cl λh _=>Qd.o _ _ _ (h.g 0) (h.g 1))<|SR (.vl rfl λ_ j=>FP 3 j.1)<|SR (.vl rfl λ_ j=>FP 4 j.1)<|SR (.cl λh _=>Qf.o _ _ _ (h.g 3) (h.g 4))<|SR (.wr rfl λh j=>GS 2 j.1 (h.g 2) (hT:=λn m=>⟨m,j.2.set1 n rfl _⟩))<|SR (.wr rfl λh j=>GS 3 j.1 (h.g 5) (hT:=λn m=>⟨m,j.2.set1 n rfl _⟩)) Stp.end_)
       λf fx hF l=>?_
      obtain⟨l,I⟩:=l;replace I:=Z I;refine DP ?_;have l:=Dw l;have Ql:=Z l;clear l hF;clear Qk;have Qp:Hid (DJ w fx [some (w.heap.size,.poly q),some (Q,.poly c),some (B9,.poly (Dr g P)),some (B10,.poly (Dr (JT s (Jb g)) P))]):=Z (Ql.o.take 4);have Qj:=Z (show(DT w0 y0 (k+1)).1=Dr g P/\(DT w0 y0 (k+1)).2=Dr (JT s (Jb g)) P by rw[DT];unfold La;rw[A.o.1,A.o.2.1,Qo.o];exact⟨rfl,rfl⟩);have Uv:T+1<=9223372036854775807:=by have:=Qg.o;omega
      clear Ql;go_wp2_with fail
      go_roundw
      case rel=>exact⟨k+1,S,U,O,by rw[Qh.o,Qi.o],by rw[Qg.o];go_num,by rw[Qh.o,Qi.o];exact I,by rw[Qj.o.1,Qj.o.2];exact Qp⟩
      case measure=>simp[intOf];have:=Qg.o;omega
  . obtain rfl:k=N:=O
    have Us:¬(0:Int)<d1:=by have h1:=Wc.o;rw[A.o.1]at h1;have:=Uo.o;omega
    go_wp2_with(go_at_call 26;refine G.o.mono ?_;rintro e w1 ⟨rfl,hq⟩;clear Qc;have Qc:=(boxed_below aj hq).cell)
    have HF:=Z (show EP true w.heap.size w1 (C S ll U) (yL w0 y0 k)/\Bl w w1 by rw[A.o.2.2.1];exact⟨XL.o.below hq,(M6.o.below hq).2.2⟩);go_ret;exact⟨_,rfl,HF.o⟩
end M3
end
section
variable{P g:List Rat}{K M l n:Nat}
theorem oo:∀D:Nat,1<D->∃l,1<l/\l∣D/\∀a:Nat,¬l∣a->Nat.gcd l a=1:=by
 intro D;induction D using Nat.strongRecOn with
 |ind D g=>
  intro hD;by_cases h:∀d,d∣D->d=1\/d=D
  . refine⟨D,hD,Nat.dvd_refl _,λa n=>?_⟩;grind[C7,CO]
  . obtain⟨d,f⟩:=Classical.not_forall.1 h;obtain⟨b,c⟩:=Classical.not_imp.1 f;have j:d≠1/\d≠D:=⟨λe=>c (Or.inl e),λe=>c (Or.inr e)⟩;have k:d<=D:=Nat.le_of_dvd O b;have m:d≠0:=λe=>by subst e;omega
    obtain⟨l,l1,l2,i⟩:=g d O O;exact⟨l,l1,Nat.dvd_trans l2 b,i⟩
theorem RP{P:Nat->Prop}(h:∃a,P a):∃a,P a/\∀i,i<a->¬P i:=by
 obtain⟨a,b⟩:=h;induction a using Nat.strongRecOn with
 |ind a c=>
  grind
theorem oq{l:Int}{f:Nat->Int}{a:Nat}:∀n,a<n->(∀i,i<n->i≠a->l∣f i)->l∣Y6 n f->l∣f a:=by
 have c:∀n,(∀i,i<n->l∣f i)->l∣Y6 n f:=λn=>by
  induction n with
  |zero=>exact λ_=>Int.dvd_zero _
  |succ n b=>exact λh=>by rw[Y6];grind[Int.dvd_add]
 intro n;induction n with
 |zero=>intro h;omega
 |succ n b=>
  intro k h hs;rw[Y6]at hs;by_cases e:a=n
  . subst e;have g:=c a λi hi=>h i O O;have j:=Int.dvd_sub hs g;grind
  . refine b O (λi hi=>h i O) ?_;have j:=Int.dvd_sub hs (h n O λd=>e d.symm);grind
theorem ot(hl:∀a:Nat,¬l∣a->Nat.gcd l a=1){r s:Nat->Int}(p:∀i,n<=i->r i=0)(h:∀k,(l:Int)∣Y6 n λi=>if i<=k then r i*s (k-i)else 0)(e:∃a,¬(l:Int)∣r a)(hs:∃b,¬(l:Int)∣s b):False:=by
 obtain⟨a,f,g⟩:=RP e;obtain⟨b,j,m⟩:=RP hs;have d:a<n:=by
  by_cases c:a<n
  . exact c
  . grind[Int.dvd_zero]
 have c:=oq n d (λi hi o=>by
  grind[Int.dvd_trans,Int.dvd_mul_right,Int.dvd_mul_left,Int.dvd_zero]) (h (a+b))
 grind[dvd_one,Az,CB]
theorem ou{p:List Rat}{L G:Int}(H:∀i,((cf p i).den:Int)∣L)(I:∀u:Int,(∀i,((cf p i).den:Int)∣u)->L∣u)(B:∀i,G∣(cf p i).num)(D:∀v:Int,(∀i,v∣(cf p i).num)->v∣G)(A:G≠0){c:Rat}(M:∀i,∃z:Int,cf p i*c=(z:Rat)):
 ∃t:Int,∀i,∃r:Int,cf p i*((L:Rat)/(G:Rat))=(r:Rat)/\cf p i*c=((r*t:Int):Rat):=by
 have o:(c.den:Int)≠0:=by have:=c.den_nz;omega
 have g:∀i,∃z:Int,cf p i*c=(z:Rat)/\(cf p i).num*c.num=z*((cf p i).den*c.den):=λi=>by
  obtain⟨z,a⟩:=M i;refine⟨z,a,?_⟩;have s:c*(c.den:Rat)=(c.num:Rat):=Hp c;have j:cf p i*((cf p i).den:Rat)=((cf p i).num:Rat):=Hp _;have w:(((cf p i).num*c.num:Int):Rat)=((z*(((cf p i).den:Int)*(c.den:Int)):Int):Rat):=by
   rw[Aq,Aq,Aq,AF,AF,<-s,<-j,<-a];grind
  exact Rat.intCast_inj.1 w
 have k:L∣c.num:=I _ λi=>by
  obtain⟨z,_,e⟩:=g i;have b:((cf p i).den:Int)∣(cf p i).num*c.num:=⟨z*c.den,DH⟩;rw[Int.mul_comm]at b;refine dvd_one b ?_;rw[Az,CN];exact(cf p i).reduced
 have hv:(c.den:Int)∣G:=D _ λi=>by
  obtain⟨z,_,e⟩:=g i;have b:(c.den:Int)∣(cf p i).num*c.num:=⟨z*(cf p i).den,DH⟩;refine dvd_one b ?_;rw[Az,CN];exact c.reduced
 obtain⟨u,k⟩:=k;obtain⟨v,hv⟩:=hv;refine⟨u*v,λi=>?_⟩;obtain⟨e,l⟩:=H i;obtain⟨m,n⟩:=B i;obtain⟨z,x,a⟩:=g i;have K:((cf p i).den:Int)≠0:=by have:=(cf p i).den_nz;omega
 have q:z=m*e*(u*v):=by
  have y:z*(((cf p i).den:Int)*c.den)=m*e*(u*v)*(((cf p i).den:Int)*c.den):=by
   rw[<-a,n,k,hv,l];generalize ((cf p i).den:Int)=d;generalize (c.den:Int)=f;grind
  exact Int.eq_of_mul_eq_mul_right (Cv K o) y
 refine⟨m*e,?_,by rw[x,q]⟩;have N:(G:Rat)≠0:=by exact_mod_cast A
 have j:cf p i*((cf p i).den:Rat)=((cf p i).num:Rat):=Hp _;rw[n,Aq]at j;have P:(L:Rat)=((cf p i).den:Rat)*(e:Rat):=by rw[l,Aq,AF]
 grind
theorem Wu{p:List Rat}(hp:Jc p=p)(b:p≠[]){c:Rat}(f:∀i,∃z:Int,cf p i*c=(z:Rat)):∃t:Int,∀i,∃r:Int,cf (Jp p) i=(r:Rat)/\cf p i*c=((r*t:Int):Rat):=by
 have a:∀i,p.length<=i->cf p i=0:=λi hi=>Ys hi;obtain⟨t,d⟩:=ou (p:=p) (L:=(XP p p.length:Int)) (G:=(Xy p p.length:Int)) (λi=>by
  by_cases hi:i<p.length
  . grind[Int.natCast_dvd_natCast,RB]
  . rw[a i O];exact Int.one_dvd _) (λu e=>CB.2 (RC p _ (λi=>CB.1 (e i)) _)) (λi=>by
  by_cases hi:i<p.length
  . exact CB.2 (RD p _ i hi)
  . rw[a i O];exact Int.dvd_zero _) (λv hv=>by
  have:v.natAbs∣Xy p p.length:=WS p _ (λi=>Cu.2 (hv i)) _
  grind[Int.natAbs_dvd,Int.natCast_dvd_natCast]) (by have:=Ma hp b;omega) f
 refine⟨t,λi=>?_⟩;obtain⟨r,g,j⟩:=d i;grind[Jp,Yy,AF]
theorem Wv{p:List Rat}(hp:Jc p=p)(j:p≠[]){r:Nat->Int}(k:∀i,cf (Jp p) i=(r i:Rat))(hl:1<l):∃i,¬(l:Int)∣r i:=by
 by_cases h:∃i,¬(l:Int)∣r i
 . exact h
 . exfalso
   have m:∀i,(l:Int)∣r i:=λi=>Classical.not_not.1 λa=>h ⟨i,a⟩;have n:(l:Rat)≠0:=by exact_mod_cast (show l≠0 by omega)
   obtain⟨c,D,e⟩:=Xf hp;have G:c≠0:=λg=>by grind
   have b:∀i,cf p i*c=(r i:Rat):=λi=>by rw[<-Yy,<-e,k]
   obtain⟨t,y⟩:=Wu hp j (c:=c/(l:Rat)) (λi=>by
    obtain⟨q,hq⟩:=m i;refine⟨q,?_⟩;have a:c/(l:Rat)*(l:Rat)=c:=Aj n;have d:=b i;rw[hq,Aq,AF]at d;grind)
   obtain⟨z,a,d⟩:=y (p.length-1);have H:=Jt hp j;have s:z=r (p.length-1):=Rat.intCast_inj.1 (by rw[<-a,k]);have o:r (p.length-1)≠0:=λg=>by
    have f:=b (p.length-1);rw[g]at f;grind
   have f:=b (p.length-1);have u:((r (p.length-1):Int):Rat)=(((r (p.length-1))*(t*(l:Int)):Int):Rat):=by
    rw[<-f,Aq,Aq,AF];rw[s,Aq]at d;grind
   have v:=Rat.intCast_inj.1 u;have B:t*(l:Int)=1:=by
    have w:r (p.length-1)*1=r (p.length-1)*(t*(l:Int)):=by rw[FH];exact v
    exact(Int.eq_of_mul_eq_mul_left o w).symm
   have x:(l:Int)∣1:=⟨t,DH⟩;have A:=Int.le_of_dvd DK x;omega
theorem RQ{p:List Rat}(hp:Jc p=p)(b:p≠[]):∀i,∃r:Int,cf (Jp p) i=(r:Rat):=by
 obtain⟨t,j⟩:=Wu hp b (c:=(XP p p.length:Rat)) (λi=>by
  have f:(cf p i).den∣XP p p.length:=by
   by_cases hi:i<p.length
   . exact RB p _ i hi
   . rw[Ys O];exact Nat.one_dvd _
  obtain⟨e,g⟩:=f;refine⟨(cf p i).num*(e:Int),?_⟩;have a:cf p i*((cf p i).den:Rat)=((cf p i).num:Rat):=Hp _;rw[g,Aq,<-a,AF,Rat.natCast_mul];grind)
 intro i;obtain⟨r,d,_⟩:=j i;exact⟨r,d⟩
theorem ow(L:Jc P=P)(j:P≠[])(Q:∀i,∃z:Int,cf P i=(z:Rat))(hg:Jc g=g)(h:Dv g P):
 ∃H:List Rat,Jc H=H/\P=Ji (Jp g) H/\∀i,∃z:Int,cf H i=(z:Rat):=by
 have g0:g≠[]:=λe=>j (by
  obtain⟨c,M⟩:=h;grind[XC,ev])
 obtain⟨B,T,G⟩:=Xf hg;have u:B≠0:=λD=>by grind
 have N:Dv (Jp g) P:=by rw[G];exact h.of_sc u
 obtain⟨H,d,eP⟩:=N.some L;have f:H≠[]:=λe=>j (by rw[eP,e];exact YS _);refine⟨H,d,eP,?_⟩;obtain⟨c,M,m⟩:=Xf d;have w:c≠0:=λD=>by grind
 obtain⟨r,p⟩:=Classical.axiomOfChoice (RQ hg g0);obtain⟨s,hs⟩:=Classical.axiomOfChoice (RQ d f);obtain⟨z,R⟩:=Classical.axiomOfChoice Q;have q:DN c P=Ji (Jp g) (Jp H):=by
  refine YG (JH _ _) (Jq _ _) λx=>?_;have a:ev P x=ev (Jp g) x*ev H x:=by rw[<-Jd,<-eP]
  rw[Jo,Jd,m,Jo,a];grind
 have v:∀k,(z k:Rat)*c=((Y6 (Jp g).length (λi=>if i<=k then r i*s (k-i)else 0):Int):Rat):=λk=>by
  rw[<-R k,<-Yy,q,OH _ _ (Aa _)];refine Q8 λi _=>?_;split
  . grind
  . rfl
 have y:c*(c.den:Rat)=(c.num:Rat):=Hp c;have t:∀k,z k*c.num=(c.den:Int)*Y6 (Jp g).length (λi=>if i<=k then r i*s (k-i)else 0):=λk=>by
  have a:((z k*c.num:Int):Rat)=(((c.den:Int)*Y6 (Jp g).length (λi=>if i<=k then r i*s (k-i)else 0):Int):Rat):=by
   rw[Aq,Aq,<-v k,AF,<-y];grind
  exact Rat.intCast_inj.1 a
 have A:c.num≠0:=λe=>w (Fo.1 e);have U:c.num.natAbs=1:=by
  by_cases a:c.num.natAbs=1
  . exact a
  . exfalso
    have I:c.num.natAbs≠0:=Int.natAbs_ne_zero.2 A;obtain⟨l,l1,l2,S⟩:=oo c.num.natAbs O;refine ot S (r:=r) (s:=s) (n:=(Jp g).length) (λi hi=>?_) (λk=>?_) (Wv hg g0 p l1) (Wv d f hs l1)
    . have b:=p i;rw[Ys hi]at b;exact(Rat.intCast_inj.1 (show((0:Int):Rat)=_ from b)).symm
    . have b:(l:Int)∣(c.den:Int)*Y6 (Jp g).length (λi=>if i<=k then r i*s (k-i)else 0):=by
       rw[<-t k];exact Int.dvd_trans (CB.2 l2) (Int.dvd_mul_left _ _)
      rw[Int.mul_comm]at b;refine dvd_one b ?_;rw[Az,Az];have o:Nat.gcd l c.den∣Nat.gcd c.num.natAbs c.den:=Nat.dvd_gcd (Nat.dvd_trans (C7 _ _) l2) (CO _ _);have K:Nat.gcd c.num.natAbs c.den=1:=c.reduced;rw[K]at o;exact Nat.dvd_one.1 o
 intro i;refine⟨s i*(c.den:Int)*c.num,?_⟩;have a:cf H i*c=(s i:Rat):=by rw[<-hs,m,Yy]
 have I:(c.num:Rat)*(c.num:Rat)=1:=by
  rw[<-Aq];have b:c.num*c.num=1:=by
   grind
  rw[b];rfl
 rw[Aq,Aq,AF,<-a];grind
def Dx:List Int->Int->Int
 |[],_=>0
 |c::t,x=>c+x*Dx t x
def cz(g:List Int)(i:Nat):Int:=g[i]?.getD 0
def Ww(i:Nat):cz [] i=0:=rfl
def OP(c:Int)(t:List Int):cz (c::t) 0=c:=rfl
def Mi(c:Int)(t:List Int)(i:Nat):cz (c::t) (i+1)=cz t i:=rfl
theorem RR{g:List Int}{i:Nat}(h:g.length<=i):cz g i=0:=by unfold cz;grind
def YX:List Int->Int->List Int × Int
 |[],_=>([],0)
 |c::t,k=>((YX t k).2::(YX t k).1,c+k*(YX t k).2)
theorem RS(k x:Int):∀g:List Int,Dx g x=(x-k)*Dx (YX g k).1 x+(YX g k).2:=by
 intro g;induction g with
 |nil=>simp[Dx,YX]
 |cons c t a=>rw[Dx,YX,a];simp only[Dx];grind
theorem Wx(k:Int)(g:List Int):(YX g k).2=Dx g k:=by
 grind[RS]
def RT(k:Int):∀(g:List Int),cz g 0=(YX g k).2-k*cz (YX g k).1 0/\∀i,cz g (i+1)=cz (YX g k).1 i-k*cz (YX g k).1 (i+1):=by
 intro g;induction g with
 |nil=>exact⟨by simp[Ww,YX],λi=>by simp[Ww,YX]⟩
 |cons c t a=>
  rw[YX];refine⟨by rw[OP,OP];omega,λi=>?_⟩;cases i with
  |zero=>rw[Mi,OP,Mi];exact a.1
  |succ i=>rw[Mi,Mi,Mi];exact a.2 i
theorem Wy(k:Int)(g:List Int){m:Nat}(h:∀i,m+1<=i->cz g i=0):∀i,m<=i->cz (YX g k).1 i=0:=by
 have a:∀d i,m<=i->(YX g k).1.length<=i+d->cz (YX g k).1 i=0:=λd=>by
  induction d with
  |zero=>intro i _ b;exact RR O
  |succ d c=>
   intro i hi b;have e:=c (i+1) O O;have f:=(RT k g).2 i;grind
 intro i hi;exact a (YX g k).1.length i hi O
theorem ox:∀(m:Nat) (g:List Int),(∀i,m<=i->cz g i=0)->(∃i,cz g i≠0)->∀b:List Int,b.Nodup->(∀k∈b,Dx g k=0)->b.length<m:=by
 intro m;induction m with
 |zero=>intro g h ⟨i,hi⟩;grind
 |succ m e=>
  intro g h ⟨d,l⟩ b hn hk;cases b with
  |nil=>simp
  |cons a b=>
   rw[List.nodup_cons]at hn;have o:(YX g a).2=0:=by rw[Wx];exact hk a DI
   have hq:∃i,cz (YX g a).1 i≠0:=by
    by_cases c:∃i,cz (YX g a).1 i≠0
    . exact c
    . exfalso
      have f:=RT a g;cases d with
      |zero=>grind
      |succ i=>grind
   have j:=e (YX g a).1 (Wy a g h) hq b hn.2 (λk n=>by
    grind[RS,Int.mul_eq_zero])
   grind
theorem oy(B:Nat):∀(m:Nat) (g:List Int) (M:Nat),(∀i,m<=i->cz g i=0)->∀b:List Int,b.Nodup->b.length=m->(∀k∈b,(Dx g k).natAbs<=M/\k.natAbs<=B)->∀i,(cz g i).natAbs<=M*(2*B+3)^m:=by
 intro m;induction m with
 |zero=>intro g M h b _ _ _ i;rw[h i O];simp
 |succ m s=>
  intro g M h b hn hl hk i;cases b with
  |nil=>simp at hl
  |cons a b=>
   rw[List.nodup_cons]at hn;obtain⟨l,n⟩:=hk a DI;have z:((YX g a).2).natAbs<=M:=by rw[Wx];exact l
   have hq:=s (YX g a).1 (2*M) (Wy a g h) b hn.2 (by simpa using hl) (λk r=>by
    obtain⟨j,c⟩:=hk k (by simp[r]);refine⟨?_,c⟩;have v:=RS a k g;have o:(k-a)*Dx (YX g a).1 k=Dx g k-(YX g a).2:=O
    have p:(k-a).natAbs*(Dx (YX g a).1 k).natAbs<=2*M:=by
     rw[<-Cx,o];omega
    have q:0<(k-a).natAbs:=Int.natAbs_pos.2 λe=>hn.1 (by rwa[show a=k by omega]);exact Ac (Cs _ q) p)
   obtain⟨X,hX⟩:∃X,2*M*(2*B+3)^m=X:=⟨_,rfl⟩;rw[hX]at hq;have w:2*M<=X:=by rw[<-hX];exact A3 _ (Cy O)
   have x:X+B*X<=M*(2*B+3)^(m+1):=by
    have e:M*(2*B+3)^(m+1)*2=X*(2*B+3):=by rw[<-hX,Ck];grind
    have t:X*(2*B+3)=2*(B*X)+3*X:=DH
    omega
   have d:∀y:Int,(a*y).natAbs<=B*y.natAbs:=λy=>by rw[Cx];exact Ad _ n
   have f:=RT a g;cases i with
   |zero=>
    rw[f.1];have j:=d (cz (YX g a).1 0);have c:B*(cz (YX g a).1 0).natAbs<=B*X:=Ai _ (hq 0);omega
   |succ i=>
    rw[f.2];have j:=d (cz (YX g a).1 (i+1));have c:B*(cz (YX g a).1 (i+1)).natAbs<=B*X:=Ai _ (hq (i+1));have u:=hq i;omega
theorem oz{B:Nat}:∀(g:List Int) (k:Int),(∀i,(cz g i).natAbs<=M)->k.natAbs<=B->(Dx g k).natAbs<=M*(B+1)^g.length:=by
 intro g;induction g with
 |nil=>intro k _ _;simp[Dx]
 |cons c t j=>
  intro k h hk;have b:=j k (λi=>h (i+1)) hk;have f:=h 0;rw[OP]at f;rw[Dx,Ah,Ck];obtain⟨a,d⟩:=ex ((B+1)^t.length);rw[d]at b ⊢;have e:1<=a:=by rw[<-d];exact Cy O
  have l:(k*Dx t k).natAbs<=B*(M*a):=by rw[Cx];exact Cw hk b
  have m:M<=M*a:=A3 _ e;grind[]
def Mj(g:List Int):List Rat:=g.map (λz:Int=>(z:Rat))
def RU(g:List Int)(i:Nat):cf (Mj g) i=(cz g i:Rat):=by
 unfold cf Mj cz;rw[Fe];cases g[i]? with
 |none=>rfl
 |some z=>rfl
def RV(k:Int):∀g:List Int,ev (Mj g) (k:Rat)=(Dx g k:Rat):=by
 intro g;induction g with
 |nil=>rfl
 |cons c t a=>
  show(c:Rat)+(k:Rat)*ev (Mj t) (k:Rat)=_;rw[a,Dx,Fc,Aq]
def RW{p:List Rat}(h:∀i,∃z:Int,cf p i=(z:Rat)):∃g:List Int,p=Mj g/\g.length=p.length:=by
 induction p with
 |nil=>exact⟨[],rfl,rfl⟩
 |cons c t e=>
  obtain⟨g,b,d⟩:=e (λi=>by have:=h (i+1);rwa[Yq]at this);obtain⟨z,a⟩:=h 0;rw[Xh]at a;exact⟨z::g,by rw[a,b];rfl,by simp[d]⟩
theorem nodup_range(n:Nat):((List.range n).map (λi:Nat=>(i:Int))).Nodup:=by
 grind[List.nodup_range]
theorem o4(t:Jc P=P)(d:P≠[])(hl:P.length<=n+1)(m:∀i,∃z:Int,z.natAbs<=M/\cf P i=(z:Rat))(hg:Jc g=g)(h:Dv g P):
 ∀i,∃z:Int,z.natAbs<=M*(2*n+1)^(n+1)*(2*(2*n)+3)^(n+1)/\cf (Jp g) i=(z:Rat):=by
 obtain⟨H,G,eP,I⟩:=ow t d (λi=>by obtain⟨z,_,c⟩:=m i;exact⟨z,c⟩) hg h;have g0:g≠[]:=λe=>d (by rw[eP,e];rfl);have o:H≠[]:=λe=>d (by rw[eP,e];exact YS _);obtain⟨a,j,lp⟩:=RW (p:=P) (λi=>by obtain⟨z,_,c⟩:=m i;exact⟨z,c⟩);obtain⟨f,s,lg⟩:=RW (RQ hg g0);obtain⟨K,D,lh⟩:=RW I;have W:(Jp g).length<=n+1:=by
  have b:=JB (J5 g) G (λe=>d (by rw[eP,e];rfl)) o;rw[<-eP]at b;have c:0<H.length:=Ae.2 o;omega
 have A:∀i,(cz a i).natAbs<=M:=λi=>by
  obtain⟨z,b,c⟩:=m i;rw[j,RU]at c;rwa[Rat.intCast_inj.1 c]
 have q:∀k:Int,Dx a k=Dx f k*Dx K k:=λk=>by
  have b:ev P (k:Rat)=ev (Jp g) (k:Rat)*ev H (k:Rat):=by rw[<-Jd,<-eP]
  rw[j,s,D,RV,RV,RV,<-Aq]at b;exact Rat.intCast_inj.1 b
 obtain⟨R,u⟩:=ex ((List.range (2*n+1)).map (λi:Nat=>(i:Int)));have r:R.Nodup:=by rw[<-u];exact nodup_range _
 have U:R.length=2*n+1:=by rw[<-u];simp
 have T:∀k∈R,k.natAbs<=2*n:=λk hk=>by
  grind
 have V:(R.filter λk=>Dx a k==0).length<n+1:=by
  refine ox (n+1) a (λi hi=>RR O) ?_ _ (r.filter _) (λk hk=>by
   grind)
  refine⟨P.length-1,λe=>Jt t d ?_⟩;have b:=RU a (P.length-1);rw[<-j,e]at b;exact b
 have X:(R.filter λk=>Dx a k==0).length+(R.filter λk=>!(Dx a k==0)).length=R.length:=by
  rw[<-List.countP_eq_length_filter,<-List.countP_eq_length_filter];have b:=List.length_eq_countP_add_countP (l:=R) λk=>Dx a k==0;have c:List.countP (λk=>!(Dx a k==0)) R=List.countP (λk=>decide ¬((Dx a k==0)=true)) R:=by congr 1;funext k;cases(Dx a k==0)<;>rfl
  omega
 obtain⟨S,v⟩:=ex ((R.filter λk=>!(Dx a k==0)).take (n+1));have x:S.length=n+1:=by rw[<-v,Ap];omega
 have y:S.Nodup:=by rw[<-v];exact List.Sublist.nodup (List.take_sublist _ _) (r.filter _)
 have B:∀k∈S,Dx a k≠0/\k.natAbs<=2*n:=λk hk=>by
  grind
 have w:=oy (2*n) (n+1) f (M*(2*n+1)^(n+1)) (λi hi=>RR O) S y x (λk hk=>by
  obtain⟨b,c⟩:=B k hk;refine⟨?_,c⟩;have L:=oz a k A c;have N:M*(2*n+1)^a.length<=M*(2*n+1)^(n+1):=Ai _ (AE O O);have Q:(Dx f k).natAbs<=(Dx a k).natAbs:=by
   rw[q k,Cx];refine A3 _ (Int.natAbs_pos.2 λe=>b ?_);rw[q k,e,FB]
  omega)
 intro i;exact⟨cz f i,w i,by rw[s,RU]⟩
theorem Ln.mul{N:Nat}{p q:List Rat}(hp:Ln K p)(hq:Ln N q)(hl:p.length<=1000000000):Ln (K+N+1) (Ji p q):=by
 obtain⟨c,l,e⟩:=hp;obtain⟨d,m,b⟩:=hq;obtain⟨z,e⟩:=Classical.axiomOfChoice e;obtain⟨y,b⟩:=Classical.axiomOfChoice b;refine⟨c*d,Y7 l m,λk=>⟨Y6 p.length λi=>if i<=k then z i*y (k-i)else 0,?_,?_⟩⟩
 . have a:(Y6 p.length λi=>if i<=k then z i*y (k-i)else 0).natAbs<=p.length*(Y^K*Y^N):=OD λi _=>by
    split
    . rw[Cx];have g:=(e i).1;have j:=(b (k-i)).1;unfold Sm at g j;exact Cw O O
    . simp
   unfold Sm;rw[Ck,CQ];have f:0<Y^K*Y^N:=FF (Cy Hf) (Cy Hf);refine Cz a ?_;rw[AP];exact(Nat.mul_lt_mul_left f).2 uo
 . rw[OH p q (Aa _)];have a:∀n,Ds n (λi=>if i<=k then cf p i*cf q (k-i)else 0)*(c*d)=((Y6 n (λi=>if i<=k then z i*y (k-i)else 0):Int):Rat):=λn=>by
    induction n with
    |zero=>simp[Ds,Y6,Rat.zero_mul]
    |succ n o=>
     rw[Ds,Y6,Fc,<-o];split
     . grind
     grind
   exact a _
theorem Ln.slope{p:List Rat}(h:Ln K p)(hl:p.length<=1000000000):Ln (K+1) (Jb p):=by
 obtain⟨c,b,d⟩:=h;refine⟨c,b,λi=>?_⟩;obtain⟨z,a,e⟩:=d (i+1);rw[XK];by_cases hi:i+1<p.length
 . refine⟨z*((i+1:Nat):Int),a.mul (by unfold Sm Y;rw[Az];omega),?_⟩;grind
 . exact⟨0,Sm.zero _,by rw[Ys O,AY,AY];rfl⟩
theorem Dv.lnN{e:Nat}(b:Jc P=P)(o:P≠[])(hl:P.length<=n+1)(D:(2*n+1)^(n+1)*(2*(2*n)+3)^(n+1)<=Y^e)(G:Ln K P)(hg:Jc g=g)(h:Dv g P):Ln (K+e) g:=by
 obtain⟨c,I,k⟩:=Xf b;have r:c≠0:=λs=>by grind
 have y:Jp P≠[]:=by rw[k];exact Ho r b o
 have A:Dv g (Jp P):=by rw[k];exact h.sc c
 have u:=LX b G;have v:=o4 (n:=n) (M:=Y^K-1) (J5 P) y (by rw[JJ b];omega) (λi=>by
  obtain⟨z,l,f⟩:=u i;unfold Sm at l;exact⟨z,O,f⟩) hg A
 have w:Ec (K+e) (Jp g):=λi=>by
  obtain⟨z,l,f⟩:=v i;refine⟨z,?_,f⟩;unfold Sm;have hk:0<Y^K:=Cy Hf;have p:0<Y^e:=Cy Hf;have a:(Y^K-1)*((2*n+1)^(n+1)*(2*(2*n)+3)^(n+1))<=(Y^K-1)*Y^e:=Ai _ D;rw[<-Ct]at a;have m:(Y^K-1)*Y^e<Y^K*Y^e:=(Nat.mul_lt_mul_right p).2 O;grind
 obtain⟨j,L,t⟩:=Xf hg;have q:j≠0:=λs=>by grind
 have a:=w.ln;rw[t]at a;obtain⟨d,B,H⟩:=a;refine⟨j*d,Y7 q B,λi=>?_⟩;obtain⟨z,m,x⟩:=H i;exact⟨z,m,by rw[<-x,Yy];grind⟩
def OQ:(2*24+1)^(24+1)*(2*(2*24)+3)^(24+1)<=Y^5:=by unfold Y;decide
def o7:(2*47+1)^(47+1)*(2*(2*47)+3)^(47+1)<=Y^11:=by unfold Y;decide
theorem Dv.len{a b:List Rat}(g:Jc a=a)(f:Jc b=b)(b0:b≠[])(h:Dv a b):a.length<=b.length/\a≠[]:=by
 obtain⟨c,i,e⟩:=h.some f;have a0:a≠[]:=λd=>b0 (by rw[e,d];rfl);grind[YS,JB,Ae]
theorem Mk{a b:List Rat}(c:Jc a=a)(d:Jc b=b)(a0:a≠[])(b0:b≠[]):cf (Ji a b) ((Ji a b).length-1)=cf a (a.length-1)*cf b (b.length-1):=by
 have l:=JB c d a0 b0;have p1:0<a.length:=Ae.2 a0;have e:0<b.length:=Ae.2 b0;rw[l,show a.length+b.length-1-1=(a.length-1)+(b.length-1)by omega];grind[Ji,YD,PF]
def pB{R:List Rat}(c:Jc R=R)(hl:1<R.length):(Jb R).length=R.length-1/\cf (Jb R) ((Jb R).length-1)=cf R (R.length-1)*(((R.length-1:Nat):Int):Rat):=by
 have R0:R≠[]:=λe=>by rw[e]at hl;simp at hl
 have d:=YW R0;have b:cf (Jb R) (R.length-2)≠0:=by
  rw[XK,show R.length-2+1=R.length-1 by omega];exact Y7 (Jt c R0) (by
   intro e
   have:((R.length-1:Nat):Int)=0:=by exact_mod_cast e
   omega)
 have f:=Q7 b;have a:(Jb R).length=R.length-1:=O
 refine⟨a,?_⟩;rw[a,XK,show R.length-1-1+1=R.length-1 by omega]
def OR{q:List Rat}(tq:Jc q=q)(q0:q≠[])(a:Jr q=q):cf q (q.length-1)=1:=by
 have:=Q9 tq q0;rwa[a]at this
theorem Wz{q R w y:List Rat}(tq:Jc q=q)(q0:q≠[])(lq:q.length<=25)(g:Ln K q)(tR:Jc R=R)(G:Jr R=R)(tw:Jc w=w)(mw:Jr w=w)(ty:Jc y=y)(f:Dv R q)(dw:Dv w q)
(A:∀x,ev y x*ev R x=ev w x*ev (Jb R) x):∃D:Int,D≠0/\Sm (2*K+24) D/\EZ D (2*K+24) y:=by
 by_cases y0:y=[]
 . subst y0;exact RI O
 . obtain⟨P,R0⟩:=f.len tR tq q0;obtain⟨S,w0⟩:=dw.len tw tq q0;have b:Ji y R=Ji w (Jb R):=YG (Jq _ _) (Jq _ _) λx=>by rw[Jd,Jd,A]
   have p0:Ji w (Jb R)≠[]:=by rw[<-b];exact Yt ty tR y0 R0
   have c:Jb R≠[]:=λe=>p0 (by rw[e];exact YS _);have v:1<R.length:=by
    have H:0<(Jb R).length:=Ae.2 c;have:=YW R0;omega
   obtain⟨Q,B⟩:=pB tR v;have t:Ln (K+5) R:=f.lnN (n:=24) tq q0 O OQ g tR;have r:Ln (K+5) w:=dw.lnN (n:=24) tq q0 O OQ g tw;have p:=r.mul (t.slope O) O;have N:=JB tw (Ju R) w0 c;have s:Dv y (Ji w (Jb R)):=⟨R,λx=>by rw[<-b,Jd]⟩;have u:=s.lnN (n:=47) (e:=11) (Jq _ _) p0 O o7 p ty;have a:=Mk ty tR y0 R0;have o:=Mk tw (Ju R) w0 c;rw[b]at a;rw[o,B,OR tw w0 mw,OR tR R0 G]at a;have m:cf y (y.length-1)=(((R.length-1:Nat):Int):Rat):=by
    rw[Cq,Cq,Rat.mul_one]at a;exact a.symm
   obtain⟨E,j,k,l⟩:=RF ty y0 u;refine⟨E,j,k.mono O,λi=>?_⟩;have z:cf y i=cf (Jr y) i*(((R.length-1:Nat):Int):Rat):=by
    unfold Jr;rw[Yy,<-m];have I:(1/cf y (y.length-1))*cf y (y.length-1)=1:=Aj (Jt ty y0);grind
   rw[z];have L:=(l i).mul (E:=1) (M:=1) (d:=(((R.length-1:Nat):Int):Rat)) ⟨((R.length-1:Nat):Int),by rw[AD,show((1:Int):Rat)=1 from rfl];grind,by unfold Sm Y;rw[Az];omega⟩;grind
def EX(q w y:List Rat):Nat->List Rat
 |0=>q
 |n+1=>Jn (EX q w y n) (DT w y n).1
def Im{p q:List Rat}(h:q≠[]):Dr p q=Jn p q:=BE h
section
variable {q w y:List Rat}
def Io(h:Yun q w y)(m:Jr q=q):∀n,Yun (EX q w y n) (DT w y n).1 (DT w y n).2/\Dv (EX q w y n) q/\Jr (EX q w y n)=EX q w y n/\Dv (DT w y n).1 q:=by
 intro n;induction n with
 |zero=>exact⟨h,Dv.refl _,m,h.dv⟩
 |succ n l=>
  obtain⟨a,g,i,j⟩:=l;obtain⟨_,_,o,p,_,s⟩:=a.step;have c:Js (DT w y n).1 (JT (DT w y n).2 (Jb (DT w y n).1))≠[]:=Yd a.tw (Yz _ _) (Or.inl a.w0);have e:(DT w y (n+1)).1=Jn (DT w y n).1 (Js (DT w y n).1 (JT (DT w y n).2 (Jb (DT w y n).1))):=by rw[DT];unfold La;exact Im c
  have f:(DT w y (n+1)).2=Jn (JT (DT w y n).2 (Jb (DT w y n).1)) (Js (DT w y n).1 (JT (DT w y n).2 (Jb (DT w y n).1))):=by rw[DT];unfold La;exact Im c
  have k:Dv (Jn (EX q w y n) (DT w y n).1) (EX q w y n):=by
   refine⟨(DT w y n).1,λx=>?_⟩;have b:=congrArg (λr=>ev r x) p;simp only[Jd]at b;rw[b];exact AU _ _
  have d:Dv (Jn (DT w y n).1 (Js (DT w y n).1 (JT (DT w y n).2 (Jb (DT w y n).1)))) (DT w y n).1:=by
   refine⟨Js (DT w y n).1 (JT (DT w y n).2 (Jb (DT w y n).1)),λx=>?_⟩;have b:=congrArg (λr=>ev r x) s;simp only[Jd]at b;exact b.trans (AU _ _)
  rw[e,f];exact⟨o,k.trans g,(Me a.tR a.R0 i a.tw a.mw a.dv).1,d.trans j⟩
theorem RX(h:Yun q w y)(b:Jr q=q)(n:Nat)(hn:1<(DT w y n).1.length):(EX q w y (n+1)).length<(EX q w y n).length:=by
 obtain⟨a,_,d,_⟩:=Io h b n;obtain⟨_,_,c,e,_,_⟩:=a.step;have l:=JB a.tw (YE (EX q w y n) (DT w y n).1) a.w0 c.R0;grind[EX]
theorem pC(h:Yun q w y)(f:Jr q=q):∃N,N<=q.length/\(DT w y N).1.length<=1/\∀n,n<N->1<(DT w y n).1.length:=by
 have d:∃N,(DT w y N).1.length<=1:=by
  by_cases b:∃N,(DT w y N).1.length<=1
  . exact b
  . exfalso
    have c:∀n,1<(DT w y n).1.length:=λn=>by
     grind
    have a:∀n,(EX q w y n).length+n<=q.length:=λn=>by
     induction n with
     |zero=>exact Aa _
     |succ n e=>have:=RX h f n (c n);omega
    have g:=a (q.length+1);omega
 obtain⟨N,i,j⟩:=RP d;have a:∀n,n<=N->(EX q w y n).length+n<=q.length:=λn=>by
  induction n with
  |zero=>exact λ_=>Aa _
  |succ n e=>
   intro hn;grind[RX]
 grind
end
theorem W4{M K A:Nat}(hM:M<=80000)(hK:K=2*M+24)(hA:A=(K+1)*51+1){p:List Rat}(tp:Jc p=p)(hl:1<p.length)(ai:p.length<=25)(cp:Cd M p):∃N,PtOk K A N p/\N<=25:=by
 obtain⟨q,hq⟩:=ex (Jr p);have tq:Jc q=q:=by rw[<-hq];exact Yo _
 have k:Jr q=q:=by rw[<-hq];exact KJ tp
 have lq:q.length=p.length:=by rw[<-hq];exact XY tp
 have q0:q≠[]:=λe=>by grind
 have cq:Cd M q:=by rw[<-hq];exact cp.mon tp
 have aj:=YW q0;have cs:Cd (M+1) (Jb q):=by
  obtain⟨D,d1,o,r⟩:=cq;refine⟨D,d1,o.mono O,λi=>?_⟩;rw[XK];by_cases hi:i+1<q.length
  . have c:=(r (i+1)).mul (E:=1) (M:=1) (d:=(((i+1:Nat):Int):Rat)) ⟨((i+1:Nat):Int),by rw[AD,show((1:Int):Rat)=1 from rfl];grind,by unfold Sm Y;rw[Az];omega⟩;rwa[FH]at c
  . rw[Ys O,AY];exact CD.zero _ _
 have H:∀a b:List Rat,Jc a=a->Jc b=b->Cd K a->Cd K b->a.length<=25->b.length<=25->M3.ChOk K a b/\Dc K a b<=A:=λa b ta tb ca cb la lb=>by
  have c:Dc K a b<=(K+1)*(25+25+1):=Ai _ O;have s:(max a.length b.length+2)*(Dc K a b+1)<=(25+2)*((K+1)*(25+25+1)+1):=Cw O O;exact⟨⟨ta,tb,ca,cb,O,O⟩,O⟩
 have v:∀n:Nat,n<=25->2*((n+3)*(A+1))<=1000000000:=λn hn=>by
  have:(n+3)*(A+1)<=(25+3)*(A+1):=Ad _ O
  omega
 have I:=Yd tq (Ju q) (Or.inl q0);obtain⟨w,z⟩:=ex (Dr q (Js q (Jb q)));obtain⟨y,B⟩:=ex (Dr (Jb q) (Js q (Jb q)));have u:Yun q w y:=by
  rw[<-z,<-B,Im I,Im I];exact Yun.start tq q0 k
 obtain⟨N,hN,ae,ah⟩:=pC u k;refine⟨N,?_,O⟩;have c0:=H q (Jb q) tq (Ju _) (cq.mono O) (cs.mono O) O O;refine⟨tp,cp.mono O,by rw[hq];exact c0.1,by rw[hq];exact c0.2,v _ O,hl,O,?_,by rw[hq,z,B];exact ae⟩;rw[hq,z,B];intro n hn;refine⟨ah n hn,?_⟩;obtain⟨c,s,Q,f⟩:=Io u k n;obtain⟨s1,s2,g,s4,G,s6⟩:=c.step;obtain⟨k1,T,U,k4⟩:=Io u k (n+1);obtain⟨a,j⟩:=ex ((DT w y n).1);obtain⟨b,S⟩:=ex ((DT w y n).2);obtain⟨R,t⟩:=ex (EX q w y n);have Qf:EX q w y (n+1)=Jn R a:=by rw[EX,t,j]
 rw[Qf]at T U;rw[j,S,t]at c g G;rw[t]at s Q;rw[j]at f;rw[j,S];have la:=(f.len c.tw tq q0).1;have l:=cq.ln;have m:Cd (M+5) a:=by
  have h5:=f.lnN (n:=24) tq q0 O OQ l c.tw;have:=Mb c.tw (h5.mono (L:=M+5) O) O;rwa[c.mw]at this
 have X:=Wz tq q0 O l c.tR Q c.tw c.mw c.ty s f c.eq;have cB:Cd K b:=(show Cd (2*M+24) b from X).mono O;have W:=Wz tq q0 O l g.tR U c.tw c.mw (Yz _ _) T f G;have P:Cd K (JT b (Jb a)):=(show Cd (2*M+24) (JT b (Jb a))from W).mono O;have cS:Cd (M+6) (Jb a):=by
  obtain⟨D,d1,o,r⟩:=m;refine⟨D,d1,o.mono O,λi=>?_⟩;rw[XK];by_cases hi:i+1<a.length
  . have h6:=(r (i+1)).mul (E:=1) (M:=1) (d:=(((i+1:Nat):Int):Rat)) ⟨((i+1:Nat):Int),by rw[AD,show((1:Int):Rat)=1 from rfl];grind,by unfold Sm Y;rw[Az];omega⟩;rwa[FH]at h6
  . rw[Ys O,AY];exact CD.zero _ _
 have V:(JT b (Jb a)).length<=25:=by
  by_cases z0:JT b (Jb a)=[]
  . rw[z0];simp
  . have e1:Ji (JT b (Jb a)) (Jn R a)=Ji a (Jb (Jn R a)):=YG (Jq _ _) (Jq _ _) λx=>by rw[Jd,Jd,G]
    have l1:=JB (Yz b (Jb a)) g.tR z0 g.R0;have l2:=nX a (Jb (Jn R a));have l3:=YW g.R0;grind
 have c1:=H a (JT b (Jb a)) c.tw (Yz _ _) (m.mono O) P O V;exact⟨c1.1,c.ty,m.mono O,cS.mono O,cB.mono O,P.mono O,c1.2,v _ O,v _ V⟩
def pD{p:List Rat}(tp:Jc p=p)(hl:1<p.length)(a:p.length<=25)(cp:Cd 75 p):∃N,PtOk 174 8926 N p/\N<=25:=W4 (M:=75) O rfl rfl tp hl a cp
end
def RY(p w y:List Rat):Nat->List Rat
 |0=>p
 |n+1=>Jn (RY p w y n) (DT w y n).1
section
variable {p q w y:List Rat}
def pE(h:Yun q w y)(c:Jr q=q)(n:Nat):(DT w y (n+1)).1=Jn (DT w y n).1 (yP (DT w y n)):=by
 obtain⟨a,_⟩:=Io h c n;have b:Js (DT w y n).1 (JT (DT w y n).2 (Jb (DT w y n).1))≠[]:=Yd a.tw (Yz _ _) (Or.inl a.w0);rw[DT];unfold La yP;exact Im b
end
theorem Ml{p:List Rat}(tp:Jc p=p)(p0:p≠[]):cf p (p.length-1)≠0/\p=DN (cf p (p.length-1)) (Jr p):=by
 have h:=Jt tp p0;refine⟨h,?_⟩;unfold Jr;rw[LW,show 1/cf p (p.length-1)*cf p (p.length-1)=1 by grind,Ii tp]
theorem W7(k:Rat)(p:List Rat):Jb (DN k p)=DN k (Jb p):=by
 grind[Ju,JH,Iv,XK,Yy]
theorem pF{K:Nat}{q g:List Rat}(tq:Jc q=q)(q0:q≠[])(lq:q.length<=25)(cq:Cd K q)(tg:Jc g=g)(c:Jr g=g)(h:Dv g q):Cd (K+5) g:=by
 have b:=Dv.lnN (n:=24) (e:=5) tq q0 O OQ cq.ln tg h;have a:=Mb tg b O;rw[c]at a;exact a
def Cd.scale{A B:Nat}{p r:List Rat}(hp:Cd A p)(f:Cd B r)(i:Nat):Cd (A+B) (DN (cf r i) p):=by
 obtain⟨D,d1,a,b⟩:=hp;obtain⟨E,c,d,e⟩:=f;exact⟨D*E,Cv d1 c,a.mul d,λj=>by rw[Yy];exact(b j).mul (e i)⟩
structure StR(K M:Nat)(r f:List Rat):Prop where
 tr:Jc r=r
 cr:Cd M r
 tf:Jc f=f
 f0:f≠[]
 mf:Jr f=f
 ca:Cd M f
 lr:(r.length+3)*(M+1)<=1000000000
 lf:(f.length+3)*(M+1)<=1000000000
 r1:r.length<=1000
 f1:f.length<=1000
 ch:M3.ChOk K f (Jn r f)
structure ReOk(K M N:Nat)(p w y:List Rat):Prop where
 fr:M3.FrOk K p
 w0:oY p=w
 nN:N<=1000000000
 st:∀n,n<N->1<(DT w y n).1.length/\StR K M (RY p w y n) (DT w y n).1/\Cd M (DT w y (n+1)).1/\Jc (DT w y (n+1)).1=(DT w y (n+1)).1/\(DT w y (n+1)).1≠[]/\Jr (DT w y (n+1)).1=(DT w y (n+1)).1/\
  Js (DT w y n).1 (RY p w y (n+1))=(DT w y (n+1)).1/\Jn (DT w y n).1 (DT w y (n+1)).1=yP (DT w y n)/\Jr (yP (DT w y n))=yP (DT w y n)/\
  Jc (yP (DT w y n))=yP (DT w y n)/\Cd M (yP (DT w y n))/\(yP (DT w y n)).length<=25
 en:(DT w y N).1.length<=1
section
variable {a b c d p q r w y R:List Rat}
theorem DR.shift(h:DR a b)(f:∀x,ev b x=ev c x+ev a x*ev d x):DR a c:=by
 obtain⟨u,v,e⟩:=h;refine⟨XB u (Ji v d),v,λx=>?_⟩;rw[Yc,Jd];grind
def DR.left(h:DR a (Ji b c)):DR a b:=(h.symm.of_dv ((Dv.refl b).mul c)).symm
def DR.right(h:DR a (Ji b c)):DR a c:=(h.symm.of_dv ((Dv.refl c).mul' b)).symm
theorem W8(a:List Rat):Dv [1] a:=⟨a,λx=>by simp[ev];grind⟩
theorem X0:Jr [1]=[1]:=YG (Yo _) DK λx=>by rw[Ku];simp[cf,ev];grind
theorem RZ(hp:Jc p=p)(hq:Jc q=q)(h:DR p q):Js p q=[1]:=by
 obtain⟨a,b,_⟩:=J6 hp hq;obtain⟨u,v,e⟩:=h;exact Dv.eq (JE _ _) DK (YF hp hq) X0 (a.comb b u v λx=>by rw[<-e x];simp[ev];grind) (W8 _)
theorem Yun.part(h:Yun R w y):DR (Js w (JT y (Jb w))) (Jb (Js w (JT y (Jb w))))/\DR (Js w (JT y (Jb w))) (Jn w (Js w (JT y (Jb w)))):=by
 obtain⟨a,b,_⟩:=J6 h.tw (Yz y (Jb w));have c:=h.step.2.2.2.2.2;obtain⟨P,e⟩:=ex (Js w (JT y (Jb w)));rw[e]at a b c ⊢;obtain⟨w2,g⟩:=ex (Jn w P);rw[g]at c ⊢;have c1:DR P y:=h.cop.of_dv a;obtain⟨t,f⟩:=b;have c2:DR P (Jb w):=c1.shift (d:=t) λx=>by
  have:=f x;rw[Xt]at this;grind
 have c3:DR P (Ji (Jb P) w2):=c2.shift (d:=Jb w2) λx=>by
  grind[Yh,Jd]
 exact⟨c3.left,c3.right⟩
end
def Dp:List (List Rat × Nat)->Rat->Rat
 |[],_=>1
 |a::l,x=>ev a.1 x^a.2*Dp l x
theorem OS(l m:List (List Rat × Nat))(x:Rat):Dp (l++m) x=Dp l x*Dp m x:=by
 induction l with
 |nil=>simp[Dp]
 |cons a l b=>simp only[Ay,Dp,b];grind
theorem pG(a b:Rat)(n:Nat):(a*b)^n=a^n*b^n:=by
 induction n with
 |zero=>simp
 |succ n c=>grind
theorem OT(n:Nat):(1:Rat)^n=1:=by
 induction n with
 |zero=>simp
 |succ n a=>rw[Rat.pow_succ,a];grind
section
variable {q w y:List Rat}
def Y0(h:Yun q w y)(b:Jr q=q)(n:Nat):Jc (yP (DT w y n))=yP (DT w y n)/\Jr (yP (DT w y n))=yP (DT w y n)/\(DT w y n).1=Ji (yP (DT w y n)) (DT w y (n+1)).1/\
 DR (yP (DT w y n)) (Jb (yP (DT w y n)))/\DR (yP (DT w y n)) (DT w y (n+1)).1/\EX q w y n=Ji (DT w y n).1 (EX q w y (n+1)):=by
 have a:=(Io h b n).1;rw[pE h b n];obtain⟨_,_,_,c,_,d⟩:=a.step;obtain⟨c1,c2⟩:=a.part;exact⟨JE _ _,YF a.tw (Yz _ _),d,c1,c2,c⟩
theorem Y2(h:Yun q w y)(n:Jr q=q):∀N,(∀x∈yL w y N,1<x.1.length/\1<=x.2/\x.2<=N/\DR x.1 (Jb x.1)/\Jc x.1=x.1/\Jr x.1=x.1/\Dv x.1 q/\DR x.1 (DT w y N).1)/\
 (yL w y N).Pairwise (λa b=>a.2<b.2/\DR a.1 b.1):=by
 intro N;induction N with
 |zero=>exact⟨λx c=>by simp[yL]at c,by simp[yL]⟩
 |succ N e=>
  obtain⟨o,p,v,r,s,_⟩:=Y0 h n N;have Ll:Dv (DT w y (N+1)).1 (DT w y N).1:=⟨yP (DT w y N),λx=>by
   grind[Jd]⟩
  have g:Dv (yP (DT w y N)) (DT w y N).1:=⟨(DT w y (N+1)).1,λx=>by
   grind[Jd]⟩
  rw[yL];refine⟨λx c=>?_,?_⟩
  . rcases Cp.1 c with c|c
    . obtain⟨i,j,t,k,l,m,u,f⟩:=e.1 x c;exact⟨i,j,O,k,l,m,u,(f.symm.of_dv Ll).symm⟩
    . split at c
      . next hl=>
        simp at c;subst c;exact⟨hl,DI,Aa _,r,o,p,g.trans (Io h n N).2.2.2,s⟩
      . simp at c
  . refine List.pairwise_append.2 ⟨e.2,by split<;>simp,λx c z d=>?_⟩;split at d
    . simp at d;subst d;obtain⟨i,j,t,k,l,m,_,f⟩:=e.1 x c;exact⟨by simp only;omega,(f.symm.of_dv g).symm⟩
    . simp at d
theorem pH(h:Yun q w y)(b:Jr q=q)(x:Rat):∀N,ev q x=Dp (yL w y N) x*(ev (DT w y N).1 x^N*ev (EX q w y N) x):=by
 intro N;induction N with
 |zero=>simp[yL,Dp,EX]
 |succ N o=>
  obtain⟨i,j,k,_,_,l⟩:=Y0 h b N;have d:=congrArg (λr=>ev r x) k;have f:=congrArg (λr=>ev r x) l;simp only[Jd]at d f;rw[o,yL,OS];have e:Dp (if 1<(yP (DT w y N)).length then [(yP (DT w y N),N+1)]else []) x=ev (yP (DT w y N)) x^(N+1):=by
   split
   . simp[Dp]
   . next hl=>
     have n:yP (DT w y N)=[1]:=by
      have g:yP (DT w y N)≠[]:=Yd (Io h b N).1.tw (Yz _ _) (Or.inl (Io h b N).1.w0);have a:=OR i g j;have:=Ae.2 g;generalize yP (DT w y N)=P at *;match P,hl,this,a with
      |[c],_,_,a=>simp[cf]at a;rw[a]
      |_::_::_,hl,_,_=>exact absurd DI hl
     rw[n];have m:ev [1] x=1:=by simp[ev];grind
     rw[m,OT];rfl
  rw[e,f];have hp:(ev (DT w y N).1 x)^(N+1)=ev (yP (DT w y N)) x^(N+1)*ev (DT w y (N+1)).1 x^(N+1):=by rw[d,pG]
  rw[Rat.pow_succ]at hp;grind
def ZA{a:List Rat}(ta:Jc a=a)(ma:Jr a=a)(a0:a≠[])(hl:a.length<=1):a=[1]:=by
 have b:=OR ta a0 ma;have:=Ae.2 a0;match a,hl,this,b with
 |[c],_,_,b=>simp[cf]at b;rw[b]
 |_::_::_,hl,_,_=>simp at hl
theorem pI(h:Yun q w y)(b:Jr q=q):∀N,(∀n,n<N->1<(DT w y n).1.length)->(EX q w y N).length+N<=q.length:=by
 intro N;induction N with
 |zero=>intro _;exact Aa _
 |succ N a=>
  intro hn;grind[RX]
theorem ZB(h:Yun q w y)(b:Jr q=q){N:Nat}(hn:∀n,n<N->1<(DT w y n).1.length)(d:(DT w y N).1.length<=1):N+1<=q.length/\∀x,ev q x=Dp (yL w y N) x:=by
 obtain⟨a,_,e,_⟩:=Io h b N;have g:=ZA a.tw a.mw a.w0 d;have f:EX q w y N=[1]:=by
  have c:Dv (EX q w y N) (Jb (EX q w y N)):=⟨(DT w y N).2,λx=>by
   have:=a.eq x;grind[ev]⟩
  exact Dv.eq a.tR DK e X0 (Md a.tR a.R0 c) (W8 _)
 have hl:=pI h b N hn;grind[ev,pH,OT]
end
variable{u:List Rat}{B e k s x z:Rat}{U:Rat->Prop}
theorem OU{c:Rat}(h:c≠0):0<Yn c:=by
 unfold Yn;split<;>grind
def pJ{c:Rat}(h:0<c):∀n:Nat,0<c^n:=by
 intro n;induction n with
 |zero=>rw[Rat.pow_zero];decide
 |succ n a=>rw[Rat.pow_succ];exact Rat.mul_pos a h
def pK{p q:List Rat}(hq:Jc q=q)(a:q≠[]):0<Ed p q:=pJ (OU (Jt hq a)) _
theorem Ra{a b:List Rat}(tb:Jc b=b)(b0:b≠[]):∃(q:List Rat) (c:Rat),0<c/\∀x,Ed a b*ev a x=ev q x*ev b x-c*ev (XI a b) x:=by
 obtain⟨k,d,hk⟩:=Xf (p:=JU (XQ a b) b) (Yu _);refine⟨Jn (XQ a b) b,1/k,Yl DK d,λx=>?_⟩;have e:=(Y3 (XQ a b) b tb b0).1 x;grind[ev,XQ,Jo,XI,Xt]
def chnL_head(a b:List Rat):∃t,EW a b=a::t:=by
 unfold EW;cases b.length with
 |zero=>exact⟨_,rfl⟩
 |succ n=>
  unfold GH;split
  . exact⟨_,rfl⟩
  . exact⟨_,rfl⟩
theorem pL{a:List Rat}(ta:Jc a=a)(a0:a≠[])(x:Rat):ev (Jn a a) x=1:=by
 have h:=Y1 (u:=Jn a a) (v:=[1]) ta a0 (λx=>by
  rw[<-(JI ta a0 (Dv.refl a)).2 x,Jm];grind) x
 rwa[Jm]at h
theorem Mm:∀(n:Nat) (a b:List Rat),b.length<=n->Jc a=a->Jc b=b->a≠[]->∃g,(EW a b).getLast?=some g/\Jc g=g/\g≠[]/\Dv g a/\Dv g b/\(∀d,Dv d a->Dv d b->Dv d g)/\StC ((EW a b).map λp=>Jn p g):=by
 intro n;induction n with
 |zero=>
  intro a b hn ta _ a0
  have:b=[]:=Ak.1 O
  subst this;exact⟨a,rfl,ta,a0,Dv.refl a,Dv.zero a,λ_ h _=>h,StC.one (c:=1) DK λx=>pL ta a0 x⟩
 |succ n y=>
  intro a b hn ta tb a0;by_cases b0:b=[]
  . grind
  . have hl:=Xo (a:=a) tb b0;obtain⟨g,m,tg,g0,f,k,o,e⟩:=y b (XI a b) O tb (Ij _ _) b0;obtain⟨q,c,c0,H⟩:=Ra (a:=a) tb b0;have w0:=pK (p:=a) tb b0;have z:1/Ed a b*Ed a b=1:=Aj DH;have A:1/c*c=1:=Aj DH;have i:Dv g a:=f.comb k (Ji [1/Ed a b] q) [-(1/Ed a b*c)] λx=>by
     grind[Jd,ev]
    refine⟨g,?_,tg,g0,i,f,λd d1 j=>o d j (j.comb d1 (Ji [1/c] q) [-(1/c*Ed a b)] λx=>?_),?_⟩
    . rw[XM tb b0,List.getLast?_cons,m];rfl
    . grind[Jd,ev]
    . rw[XM tb b0];by_cases l:XI a b=[]
      . rw[l,KL]at e ⊢;obtain⟨_,r,s⟩:=e.o;exact StC.two r s
      . obtain⟨t,w⟩:=chnL_head (XI a b) (XI b (XI a b));rw[XM (Ij _ _) l,w]at e ⊢;have B:=(JI tg g0 i).2;have D:=(JI tg g0 f).2;have G:=(JI tg g0 k).2;refine StC.more (q:=q) w0 c0 (λx=>?_) e;have:=Y1 (u:=Ji [Ed a b] (Jn a g)) (v:=JT (Ji q (Jn b g)) (Ji [c] (Jn (XI a b) g))) tg g0 (λx=>by
         grind[Jd,Xt,Jm]) x
        rwa[Jd,Xt,Jd,Jd,Jm,Jm]at this
theorem Rb:∀(n:Nat) (R w y:List Rat),R.length<=n->Yun R w y->DR w (Jb w):=by
 intro n;induction n with
 |zero=>intro R w y hn h;exact absurd (Ak.1 O) h.R0
 |succ n o=>
  intro R w y hn h;by_cases hl:w.length<=1
  . obtain⟨c,l⟩:=LY h.tw h.w0 hl;refine⟨c,[],λx=>?_⟩;have:=l x;rw[Jm]at this;simp[ev];grind
  . obtain⟨p1,f⟩:=h.part;obtain⟨_,_,b,i,_,e⟩:=h.step;obtain⟨a,k⟩:=ex (Js w (JT y (Jb w)));rw[k]at p1 f b e;obtain⟨w2,m⟩:=ex (Jn w a);rw[m]at f b e;have p:(Jn R w).length<=n:=by
     have:=JB h.tw b.tR h.w0 b.R0;rw[<-i]at this;omega
    have j:=o _ _ _ p b;have g:∀x,ev (Jb w) x=ev (Jb a) x*ev w2 x+ev a x*ev (Jb w2) x:=λx=>by
     have:=Yh a w2 x;rwa[<-e]at this
    have c1:DR a (Jb w):=(p1.mul f).shift (d:=Ji [-1] (Jb w2)) λx=>by
     rw[Jd,Jd,Jm,g];grind
    have c2:DR w2 (Jb w):=(f.symm.mul j).shift (d:=Ji [-1] (Jb a)) λx=>by
     rw[Jd,Jd,Jm,g];grind
    have c3:=(c1.symm.mul c2.symm).symm;rwa[<-e]at c3
def ZC(c:Rat)(p:List Rat)(x:Rat):ev (Jb (DN c p)) x=c*ev (Jb p) x:=by
 rw[XZ,XZ];unfold DN;rw[Sf (YD _),Sg,AU]
def Jw(p:List Rat):List (List Rat):=(Xb p (Jb p)).map λa=>Jn a ((Xb p (Jb p)).getLast?.getD [])
def DL(p:List Rat):List Rat:=Jn (Jr p) (Js (Jr p) (Jb (Jr p)))
def Ep(p:List Rat):List Rat:=Jn (Jb (Jr p)) (Js (Jr p) (Jb (Jr p)))
theorem pM{p:List Rat}(tp:Jc p=p)(p0:p≠[]):StC (Jw p)/\∃f l k,Jw p=f::l/\k≠0/\(∀x,ev f x=k*ev (DL p) x)/\∀f1 l1,l=f1::l1->∃P,0<k*P/\∀x,ev f1 x=P*ev (Ep p) x:=by
 have ts:=Ju p;obtain⟨α,α0,hα⟩:=Xf tp;obtain⟨β,β0,hβ⟩:=Xf ts;obtain⟨y,s⟩:=Ml tp p0;obtain⟨b,hl⟩:=ex (cf p (p.length-1));rw[hl]at y s;have tR:=Yo p;have R0:=Kt tp p0;obtain⟨R,M⟩:=ex (Jr p);rw[M]at s tR R0;have z:=Ju R;have a0:Jp p≠[]:=λe=>p0 (Ak.1 (by rw[<-JJ tp,e];rfl));have A:∀x,ev (Jp p) x=α*b*ev R x:=λx=>by
  rw[hα,Jo];conv=>lhs;rw[s]
  rw[Jo];grind
 have B:∀x,ev (Jp (Jb p)) x=β*b*ev (Jb R) x:=λx=>by
  rw[hβ,Jo];have:=ZC b R x;rw[<-s]at this;rw[this];grind
 obtain⟨g,V,tg,g0,K,L,W,X⟩:=Mm _ (Jp p) (Jp (Jb p)) (Aa _) (J5 _) (J5 _) a0;obtain⟨D,G,_⟩:=J6 tR z;have q:=JE R (Jb R);have r:=Yd tR z (Or.inl R0);have T:=(JI q r D).2;have U:=(JI q r G).2;have Q:Dv (Js R (Jb R)) g:=W _ (by
  obtain⟨c,j⟩:=D;exact⟨DN (α*b) c,λx=>by rw[A,j,Jo];grind⟩) (by obtain⟨c,j⟩:=G;exact⟨DN (β*b) c,λx=>by rw[B,j,Jo];grind⟩)
 have N:∀ {k:Rat},0<k->1/(k*b)*(k*b)=1:=λhk=>Aj (by
  intro e;rcases AM.1 e with e|e
  . grind
  . exact y e)
 have S:Dv g (Js R (Jb R)):=Ik tR z (by
  obtain⟨c,j⟩:=K;refine⟨DN (1/(α*b)) c,λx=>?_⟩;have i:=j x;rw[A]at i
  have:ev R x=1/(α*b)*(α*b*ev R x):=by rw[<-Rat.mul_assoc,N α0,Cq]
  rw[this,i,Jo];grind) (by
  obtain⟨c,j⟩:=L;refine⟨DN (1/(β*b)) c,λx=>?_⟩;have i:=j x;rw[B]at i
  have:ev (Jb R) x=1/(β*b)*(β*b*ev (Jb R) x):=by rw[<-Rat.mul_assoc,N β0,Cq]
  rw[this,i,Jo];grind)
 obtain⟨m,m0,hm⟩:=Dv.anti q tg Q S;have H:∀x,ev g x=m*ev (Js R (Jb R)) x:=λx=>by rw[hm,Jo];grind
 have w:1/m*m=1:=Aj m0;have qa:=(JI tg g0 K).2;have qb:=(JI tg g0 L).2;have I:Jw p=(EW (Jp p) (Jp (Jb p))).map λa=>Jn a g:=by
  unfold Jw Xb;rw[V];rfl
 refine⟨by rw[I];exact X,?_⟩;obtain⟨t,d⟩:=chnL_head (Jp p) (Jp (Jb p));unfold DL Ep;rw[M];refine⟨Jn (Jp p) g,t.map λa=>Jn a g,1/m*(α*b),by rw[I,d];rfl,?_,λx=>?_,λf1 l1 n=>⟨1/m*(β*b),?_,λx=>?_⟩⟩
 . intro e;rcases AM.1 e with e|e
   . rw[e]at w;grind
   . rcases AM.1 e with e|e
     . grind
     . exact y e
 . have:=Y1 (u:=Jn (Jp p) g) (v:=DN (1/m*(α*b)) (Jn R (Js R (Jb R)))) q r (λx=>by
    have o:=qa x;rw[H,A,T]at o;rw[Jo]
    have:ev (Js R (Jb R)) x*ev (Jn (Jp p) g) x=1/m*(m*ev (Js R (Jb R)) x*ev (Jn (Jp p) g) x):=by
     rw[<-Rat.mul_assoc,<-Rat.mul_assoc,w,Cq]
    rw[this,<-o];grind) x
   rw[this,Jo];grind
 . have i:1/m*(α*b)*(1/m*(β*b))=(1/m*b)*(1/m*b)*(α*β):=DH
   rw[i];refine Rat.mul_pos ?_ (Rat.mul_pos α0 β0);have c0:1/m*b≠0:=λe=>by
    rcases AM.1 e with e|e
    . rw[e]at w;grind
    . exact y e
   have:=XJ (f:=[1/m*b]) c0 (λx=>Jm _ x) 0 0;unfold Stb at this;rwa[Jm]at this
 . have hb:f1=Jn (Jp (Jb p)) g:=by
    by_cases b0:Jp (Jb p)=[]
    . rw[b0,KL]at d;injection d with _ d
      rw[<-d]at n;cases n
    . rw[XM (J5 _) b0]at d;injection d with _ d
      obtain⟨t2,ae⟩:=chnL_head (Jp (Jb p)) (XI (Jp p) (Jp (Jb p)));rw[<-d,ae]at n;injection n with n _
      exact n.symm
   rw[hb];have:=Y1 (u:=Jn (Jp (Jb p)) g) (v:=DN (1/m*(β*b)) (Jn (Jb R) (Js R (Jb R)))) q r (λx=>by
    have o:=qb x;rw[H,B,U]at o;rw[Jo]
    have:ev (Js R (Jb R)) x*ev (Jn (Jp (Jb p)) g) x=1/m*(m*ev (Js R (Jb R)) x*ev (Jn (Jp (Jb p)) g) x):=by
     rw[<-Rat.mul_assoc,<-Rat.mul_assoc,w,Cq]
    rw[this,<-o];grind) x
   rw[this,Jo];grind
def J8(b:List Rat):List Rat:=DN (1/Yn (cf b (b.length-1))) b
def Ee:Nat->List Rat->List Rat->List (List Rat)
 |0,a,_=>[a]
 |n+1,a,b=>if b=[]then [a]else a::Ee n (J8 b) (DN (-1) (JU a (J8 b)))
def Mn(n:Nat)(a b:List Rat):∃t,Ee n a b=a::t:=by
 cases n with
 |zero=>exact⟨_,rfl⟩
 |succ n=>
  unfold Ee;split
  . exact⟨_,rfl⟩
  . exact⟨_,rfl⟩
def Kw{b:List Rat}(tb:Jc b=b)(b0:b≠[]):0<1/Yn (cf b (b.length-1)):=Yl DK (OU (Jt tb b0))
def Lb{b:List Rat}{c:Rat}(g:c≠0)(tb:Jc b=b):(DN c b).length=b.length:=by
 have e:DN (1/c) (DN c b)=b:=by rw[LW,AU,Aj g,Ii tb]
 have a:∀(d:Rat) (q:List Rat),(DN d q).length<=q.length:=λd q=>by
  unfold DN;refine Ac (YI _) ?_;unfold XN;simp
 have i:=a c b;have f:=a (1/c) (DN c b);rw[e]at f;omega
theorem ZD{a:List Rat}(ta:Jc a=a)(h:DR a []):∃c,c≠0/\∀x,ev a x=c:=by
 obtain⟨u,v,b⟩:=h;have d:Dv a [1]:=⟨u,λx=>by rw[Jm,<-b x];simp[ev];grind⟩;have f:=(d.len ta DK DK).1;have a0:a≠[]:=λe=>by
  have:=b 0;rw[e]at this;simp[ev]at this;grind
 match a,a0,f with
 |[c],_,_=>
  refine⟨c,λe=>?_,λx=>Jm c x⟩;have:=b 0;rw[e]at this;simp[ev]at this;grind
theorem ZE:∀(n:Nat) (a b:List Rat),b.length<=n->Jc a=a->Jc b=b->DR a b->StC (Ee n a b):=by
 intro n;induction n with
 |zero=>
  intro a b hn ta _ d
  have:b=[]:=Ak.1 O
  subst this;obtain⟨c,c0,f⟩:=ZD ta d;exact StC.one c0 f
 |succ n p=>
  intro a b hn ta tb d;by_cases b0:b=[]
  . subst b0;obtain⟨c,c0,f⟩:=ZD ta d;rw[Ee,BF rfl];exact StC.one c0 f
  . rw[Ee,BE b0];have I:=Kw tb b0;have lb:(J8 b).length=b.length:=Lb DH tb;have i:Jc (J8 b)=J8 b:=JH _ _;have k:J8 b≠[]:=λe=>b0 (Ak.1 (by rw[<-lb,e];rfl));obtain⟨j,sl⟩:=Y3 a (J8 b) i k;have tr:Jc (JU a (J8 b))=JU a (J8 b):=Yu _;have es:∀x,ev (J8 b) x=ev b x*(1/Yn (cf b (b.length-1))):=λx=>Jo _ _ _;have l:DR (J8 b) (DN (-1) (JU a (J8 b))):=by
     obtain⟨u,v,o⟩:=d;have r:Yn (cf b (b.length-1))*(1/Yn (cf b (b.length-1)))=1:=by
      rw[AU];exact Aj (by have:=OU (Jt tb b0);grind)
     refine⟨XB (Ji u (Jn a (J8 b))) (Ji [Yn (cf b (b.length-1))] v),Ji [-1] u,λx=>?_⟩;rw[Yc,Jd,Jd,Jd,Jm,Jm,Jo];have s:=o x;have g:=j x;have w:=es x;have y:ev b x=Yn (cf b (b.length-1))*ev (J8 b) x:=by
      rw[w,AU,Rat.mul_assoc,AU (1/_),r,Rat.mul_one]
     rw[y,g]at s;grind
    have hi:=p (J8 b) (DN (-1) (JU a (J8 b))) (by rw[Lb DK tr];omega) i (JH _ _) l;by_cases r0:DN (-1) (JU a (J8 b))=[]
    . rw[r0]at hi ⊢;have e:Ee n (J8 b) []=[J8 b]:=by cases n<;>rfl
      rw[e]at hi ⊢;obtain⟨_,d,f⟩:=hi.o;exact StC.two d f
    . have H:=JH (-1) (JU a (J8 b));cases n with
      |zero=>
       exact absurd (Ak.1 (by have:=Lb (c:=-1) DK tr;omega)) r0
      |succ n=>
       obtain⟨t,m⟩:=Mn n (J8 (DN (-1) (JU a (J8 b)))) (DN (-1) (JU (J8 b) (J8 (DN (-1) (JU a (J8 b))))));rw[Ee,BE r0,m]at hi ⊢;have G:=OU (Jt H r0);refine StC.more (q:=Jn a (J8 b)) (a:=1) (c:=Yn (cf (DN (-1) (JU a (J8 b))) ((DN (-1) (JU a (J8 b))).length-1))) DK G (λx=>?_) hi;have g:=j x;have z:ev (J8 (DN (-1) (JU a (J8 b)))) x=ev (DN (-1) (JU a (J8 b))) x*(1/Yn (cf (DN (-1) (JU a (J8 b))) ((DN (-1) (JU a (J8 b))).length-1))):=Jo _ _ _;have A:ev (DN (-1) (JU a (J8 b))) x=ev (JU a (J8 b)) x*(-1):=Jo _ _ _;have B:1/Yn (cf (DN (-1) (JU a (J8 b))) ((DN (-1) (JU a (J8 b))).length-1))*Yn (cf (DN (-1) (JU a (J8 b))) ((DN (-1) (JU a (J8 b))).length-1))=1:=Aj DH;rw[z,A];generalize Yn (cf (DN (-1) (JU a (J8 b))) ((DN (-1) (JU a (J8 b))).length-1))=K at *;have D:K*(ev (JU a (J8 b)) x*(-1)*(1/K))=- ev (JU a (J8 b)) x:=by
        have:K*(ev (JU a (J8 b)) x*(-1)*(1/K))=(1/K*K)*(- ev (JU a (J8 b)) x):=DH
        rw[this,B];grind
       rw[D,Cq,g];grind
def Eb(p:List Rat):List (List Rat):=Ee (Jb (DL p)).length (DL p) (Jb (DL p))
theorem Kx{p:List Rat}(tp:Jc p=p)(p0:p≠[]){a b:Rat}(v:a<=b):DM (JD (Jw p) a)+DM (JD (Eb p) b)=DM (JD (Jw p) b)+DM (JD (Eb p) a):=by
 obtain⟨hs,f,l,k,D,N,w,u⟩:=pM tp p0;have d:=Yun.start (Yo p) (Kt tp p0) (KJ tp);have d:Yun (Jr p) (DL p) (Ep p):=d;have M:=Rb _ _ _ _ (Aa _) d;have K:=ZE _ (DL p) (Jb (DL p)) (Aa _) d.tw (Ju _) M;obtain⟨A,S,hA⟩:=JN a;obtain⟨C,T,hC⟩:=JN b;have g:0<=A+C:=DH
 obtain⟨e,U,sg⟩:=RL _ _ _ _ (Aa _) d g;refine glue (B:=A+C) (F:=λx=>DM (JD (Jw p) x)) (G:=λx=>DM (JD (Eb p) x)) ?_ (hA.mono DH) (hC.mono DH) v;refine(((hs.gd g).and (K.gd g)).and sg).mono λx y _ _ _ i=>?_;have d1:=i.1.1;have j:=i.1.2;have s:=i.2;obtain⟨m,c⟩:=Mn (Jb (DL p)).length (DL p) (Jb (DL p));show DM (JD (Jw p) x)+DM (JD (Eb p) y)=DM (JD (Jw p) y)+DM (JD (Eb p) x);unfold Eb;rw[D]at d1 ⊢;rw[c]at j ⊢;refine d1.both j N w λhn f1 l1 o X hl q=>?_;obtain⟨W,P,H⟩:=u f1 l1 hl;obtain⟨Q,R⟩:=s hn;by_cases w0:Jb (DL p)=[]
 . exfalso
   rw[w0]at c;rw[q]at c;simp[Ee]at c
 . obtain⟨n,I⟩:∃n,(Jb (DL p)).length=n+1:=⟨_,(Nat.succ_pred_eq_of_pos (Ae.2 w0)).symm⟩;rw[I,Ee,BE w0]at c;injection c with _ c
   obtain⟨t,L⟩:=Mn n (J8 (Jb (DL p))) (DN (-1) (JU (DL p) (J8 (Jb (DL p)))));rw[L,q]at c;injection c with hg _
   have sp:=Kw (Ju (DL p)) w0;have r:∀z,ev o z=ev (Jb (DL p)) z*(1/Yn (cf (Jb (DL p)) ((Jb (DL p)).length-1))):=λz=>by rw[<-hg];exact Jo _ _ _
   have fin:∀z,e<=ev (Ep p) z*ev (Jb (DL p)) z->0<k*ev f1 z*ev o z:=λz V=>by
    rw[H,r];have:=Rat.mul_pos (Rat.mul_pos P sp) (show 0<ev (Ep p) z*ev (Jb (DL p)) z by grind);grind
   exact⟨fin x Q,fin y R⟩
def Mo(l:List (List Rat)):Prop:=∀p∈l,Jc p=p/\p≠[]
def FW(l:List (List Rat)):List Rat:=l.map λp=>cf p (p.length-1)
def EE(l:List (List Rat)):List Rat:=l.map λp=>(-1)^(p.length-1)*cf p (p.length-1)
theorem Xa{l:List (List Rat)}(h:Mo l):∃B,0<B/\(∀x,B<=x->DM (JD l x)=DM (FW l))/\∀x,x<=-B->DM (JD l x)=DM (EE l):=by
 have j:∃B,0<B/\(∀x,B<=x->∀p∈l,0<ev p x*cf p (p.length-1))/\∀x,x<=-B->∀p∈l,0<ev p x*((-1)^(p.length-1)*cf p (p.length-1)):=by
  induction l with
  |nil=>exact⟨1,DK,(λ_ _ _ hp=>absurd hp (List.not_mem_nil)),(λ_ _ _ hp=>absurd hp (List.not_mem_nil))⟩
  |cons p l e=>
   obtain⟨B,b,c,d⟩:=e λq hq=>h q (AB _ hq);obtain⟨tp,p0⟩:=h p (Ao);obtain⟨C,k,n⟩:=Sv tp p0;obtain⟨D,m,o⟩:=Sw tp p0;refine⟨B+C+D,DH,λx a q hq=>?_,λx a q hq=>?_⟩
   . grind[AU]
   grind[AU]
 obtain⟨B,b,c,d⟩:=j;refine⟨B,b,λx a=>?_,λx a=>?_⟩
 . refine Sx _ _ 0 0 (by simp[JD,FW]) (λi f g=>?_) (Or.inr ⟨rfl,rfl⟩);grind[JD,FW]
 . refine Sx _ _ 0 0 (by simp[JD,EE]) (λi f g=>?_) (Or.inr ⟨rfl,rfl⟩);grind[JD,EE]
theorem pN:∀(n:Nat) (a b g:List Rat),b.length<=n->Jc a=a->Jc b=b->a≠[]->Dv g a->Dv g b->Jc g=g->g≠[]->Mo ((EW a b).map λp=>Jn p g):=by
 intro n;induction n with
 |zero=>
  intro a b g hn ta tb a0 d f tg g0
  have:b=[]:=Ak.1 O
  subst this;intro p hp;rw[KL]at hp;rcases C2.1 hp with⟨q,hq,rfl⟩
  have:q=a:=by simpa using hq
  subst this;exact⟨YE _ _,λe=>a0 (XC ta λx=>by rw[(JI tg g0 d).2,e];simp[ev])⟩
 |succ n k=>
  intro a b g hn ta tb a0 d f tg g0;have j:Jc (Jn a g)=Jn a g/\Jn a g≠[]:=⟨YE _ _,λe=>a0 (XC ta λx=>by rw[(JI tg g0 d).2,e];simp[ev])⟩;by_cases b0:b=[]
  . grind
  . have hl:=Xo (a:=a) tb b0;obtain⟨q,c,c0,m⟩:=Ra (a:=a) tb b0;have l:1/c*c=1:=Aj DH;have i:Dv g (XI a b):=f.comb d (Ji [1/c] q) [-(1/c*Ed a b)] λx=>by
     grind[Jd,ev]
    have hi:=k b (XI a b) g O tb (Ij _ _) b0 f i tg g0;rw[XM tb b0];intro p hp;rcases Fh.1 hp with rfl|hp
    . exact j
    . exact hi p hp
def Yi{p:List Rat}(tp:Jc p=p)(p0:p≠[]):Mo (Jw p):=by
 have a0:Jp p≠[]:=λe=>p0 (Ak.1 (by rw[<-JJ tp,e];rfl));obtain⟨g,c,tg,g0,d,f,_,_⟩:=Mm _ (Jp p) (Jp (Jb p)) (Aa _) (J5 _) (J5 _) a0;have b:Jw p=(EW (Jp p) (Jp (Jb p))).map λa=>Jn a g:=by
  unfold Jw Xb;rw[c];rfl
 rw[b];exact pN _ _ _ g (Aa _) (J5 _) (J5 _) a0 d f tg g0
theorem pO:∀(n:Nat) (a b:List Rat),Jc a=a->Jc b=b->a≠[]->Mo (Ee n a b):=by
 intro n;induction n with
 |zero=>
  intro a b ta _ a0 p hp;grind[Ee]
 |succ n c=>
  intro a b ta tb a0 p hp;by_cases b0:b=[]
  . grind[Ee]
  . rw[Ee,BE b0]at hp;rcases Fh.1 hp with rfl|hp
    . exact⟨ta,a0⟩
    . have d:=Kw tb b0;have lb:(J8 b).length=b.length:=Lb DH tb;exact c _ _ (JH _ _) (JH _ _) (λe=>b0 (Ak.1 (by rw[<-lb];show(DN _ b).length=0;rw[e];rfl))) p hp
def pP{p:List Rat}(tp:Jc p=p)(p0:p≠[]):Mo (Eb p):=by
 have a:Yun (Jr p) (DL p) (Ep p):=Yun.start (Yo p) (Kt tp p0) (KJ tp);exact pO _ _ _ a.tw (Ju _) a.w0
theorem pQ(p:List Rat)(a:0<=B):∃K,0<K/\∀x y,Wi B x->Wi B y->x<=y->Wi (K*((y-x)*(y-x))) (ev p y-ev p x-(y-x)*dv p x):=by
 induction p with
 |nil=>exact⟨1,DK,λx y _ _ _=>by
  have:=Xl (y-x);constructor<;>simp[ev,dv]<;>grind⟩
 |cons c t m=>
  obtain⟨K,j,h⟩:=m;obtain⟨D,hD,k⟩:=XR (Jb t) a;refine⟨B*K+D+1,by have:=Rat.mul_nonneg a (Rat.le_of_lt j);grind,λx y d f l=>?_⟩;have n:=Xl (y-x);have g:Wi ((y-x)*(y-x)) ((y-x)*(y-x)):=⟨DH,DH⟩;have b:=k x d;rw[XZ]at b;have i:=(f.mul (h x y d f l)).add (g.mul b);have e:ev (c::t) y-ev (c::t) x-(y-x)*dv (c::t) x=y*(ev t y-ev t x-(y-x)*dv t x)+(y-x)*(y-x)*dv t x:=by
   rw[Hz,Hz,show dv (c::t) x=ev t x+x*dv t x from rfl];grind
  rw[e];refine i.mono ?_;grind
def J1(p:List Rat)(x y:Rat):Nat:=if ev p x≠0/\ev p x*ev p y<=0 then 1 else 0
theorem X2{p:List Rat}{y:Rat}(h:Stb p x y):J1 p x y=0:=by
 unfold J1 Stb at *;grind
theorem rise_of{w y:List Rat}(i:0<=B)(f:0<k)(s:Sh B λx z=>¬Stb w x z->k<=ev y x*ev (Jb w) x/\k<=ev y z*ev (Jb w) z):Sh B λx z=>¬Stb w x z->x<z->0<ev (Jb w) x*(ev w z-ev w x):=by
 obtain⟨c,n,I⟩:=XR y i;obtain⟨D,R,hD⟩:=XR (Jb w) i;obtain⟨K,S,H⟩:=pQ w i;obtain⟨e,o,L⟩:=small (K:=(c*c)*(D*K)) (r:=k*k/2) (Rat.le_of_lt (Rat.mul_pos (Rat.mul_pos n n) (Rat.mul_pos R S))) (by have:=Rat.mul_pos f f;grind);have T:Sh B λx z=>z-x<=e:=⟨e,o,λ_ _ _ _ _ h=>h⟩;refine(s.and T).mono λx z j P N ⟨p,l⟩ hn ae=>?_;obtain⟨U,_⟩:=p hn;have g:=H x z j P N;rw[<-XZ]at g;have A:=I x j;have G:=hD x j;generalize ev (Jb w) x=d at *;generalize ev y x=v at *;generalize ev w z-ev w x=t at *;obtain⟨u,M⟩:=ex (z-x);rw[M]at l g;have u0:0<u:=DH
 have V:k*k<=(c*c)*(d*d):=by
  have m:=Rat.mul_nonneg (a:=v*d-k) (b:=v*d+k) DH DH;have Q:=Rat.mul_nonneg (a:=c*c-v*v) (b:=d*d) (by have:=Ls A;grind) (Xl d);grind
 have W:u*(d*d)-(D*K)*(u*u)<=d*t:=by
  have m:=(G.mul g).1;grind
 have X:=L u l;have hp:0<(c*c)*(d*t):=by
  have m:=Rat.mul_nonneg (a:=c*c) (b:=d*t-(u*(d*d)-(D*K)*(u*u))) (Xl c) DH;have Q:=Rat.mul_nonneg (a:=u) (b:=(c*c)*(d*d)-k*k) DH DH;have i3:=Rat.mul_nonneg (a:=u) (b:=k*k/2-(c*c)*(D*K)*u) DH DH;have i4:=Rat.mul_pos u0 (Rat.mul_pos f f);grind
 rcases JV (d*t) 0 with q|q
 . have:=Rat.mul_nonneg (a:=c*c) (b:=-(d*t)) (Xl c) DH;grind
 . rcases Rat.le_iff_lt_or_eq.1 q with q|q
   . exact q
   . rw[<-q]at hp;grind
def ZF{R w y:List Rat}(h:Yun R w y)(a:0<=B):Sh B λx z=>¬Stb w x z->x<z->0<ev (Jb w) x*(ev w z-ev w x):=by
 obtain⟨k,b,s⟩:=RL _ _ _ _ (Aa _) h a;exact rise_of a b s
theorem Xg{a b:Rat}(h:0<(a*a)*b):0<b:=by
 rcases JV b 0 with q|q
 . have:=Rat.mul_nonneg (a:=a*a) (b:=-b) (Xl a) DH;grind
 . rcases Rat.le_iff_lt_or_eq.1 q with q|q
   . exact q
   . rw[<-q]at h;grind
theorem pR{a b u v:Rat}(c:0<a*(v-u))(d:0<b*(v-u))(e:u*v<=0):
 (if u*a<0 then 1 else 0)=(if v*b<0 then 1 else 0)+(if u≠0/\u*v<=0 then 1 else 0:Nat):=by
 by_cases u0:u=0
 . subst u0;grind
 . have f:u*a<0:=by
    rcases JV 0 (u*a)with q|q
    . exfalso
      have a0:=(Jy c).1;have q:0<u*a:=by
       rcases Rat.le_iff_lt_or_eq.1 q with q|q
       . exact q
       . grind
      have:=Rat.mul_pos q (show 0<v*a by grind);have:=Xg (a:=a) (b:=u*v) DH;grind
    . grind[AM]
   have g:¬v*b<0:=λq=>by
    have:=Rat.mul_pos (a:=-(v*b)) (b:=-(u*b)) DH DH;have:=Xg (a:=b) (b:=u*v) DH;grind
   grind
theorem pS{w b f1:List Rat}{n:Nat}{c:List (List Rat)}(a:Ee n w b=w::f1::c):b≠[]/\f1=J8 b:=by
 cases n with
 |zero=>
  have d:[w]=w::f1::c:=a;grind
 |succ n=>
  by_cases w0:b=[]
  . grind[Ee]
  . rw[Ee,BE w0]at a;have d:=(List.cons.inj a).2;obtain⟨t,e⟩:=Mn n (J8 b) (DN (-1) (JU w (J8 b)));grind
theorem Y8{p:List Rat}(tp:Jc p=p)(p0:p≠[])(i:0<=B):Sh B λx z=>DM (JD (Eb p) x)=DM (JD (Eb p) z)+J1 (DL p) x z:=by
 have d:Yun (Jr p) (DL p) (Ep p):=Yun.start (Yo p) (Kt tp p0) (KJ tp);have k:=Rb _ _ _ _ (Aa _) d;have j:=ZE _ (DL p) (Jb (DL p)) (Aa _) d.tw (Ju _) k;refine((j.gd i).and (ZF d i)).mono λx z _ _ q ⟨b,hs⟩=>?_;show DM (JD (Eb p) x)=DM (JD (Eb p) z)+J1 (DL p) x z;obtain⟨m,f⟩:=Mn (Jb (DL p)).length (DL p) (Jb (DL p));unfold Eb;rw[f]at b ⊢;by_cases st:Stb (DL p) x z
 . rw[X2 st,b.stay st];rfl
 . cases m with
   |nil=>exact absurd b.o st
   |cons f1 r=>
    obtain⟨w0,hg⟩:=pS f;have sp:=Kw (Ju (DL p)) w0;obtain⟨c,e⟩:∃c,1/Yn (cf (Jb (DL p)) ((Jb (DL p)).length-1))=c:=⟨_,rfl⟩;rw[e]at sp;have l:ev f1 x=ev (Jb (DL p)) x*c:=by rw[hg,<-e];exact Jo _ _ _
    have g:=(b.adj).resolve_left st;obtain⟨s,t⟩:=Jy g;have sm:=b.tail.same _ r f1 (Aa _) g;rw[JX,JX,JX,JX,Iy s,Iy t,sm];clear sm f j k d b hg e w0;have w:ev (DL p) x*ev (DL p) z<=0:=Rat.not_lt.1 st;rcases Rat.le_iff_lt_or_eq.1 q with o|v
    . have n:0<ev f1 x*(ev (DL p) z-ev (DL p) x):=by
       rw[l];have:=Rat.mul_pos (hs st o) sp;grind
      have u:0<ev f1 z*(ev (DL p) z-ev (DL p) x):=Xg (a:=ev f1 x) (by
       have:=Rat.mul_pos (show 0<ev f1 x*ev f1 z from g) n;grind)
      grind[pR,J1]
    grind[Xl,Rat.le_antisymm,J1]
theorem pT{F:Rat->Nat}(h:Sh B λx y=>F y<=F x){a b:Rat}(c:Wi B a)(i:Wi B b)(e:a<=b):F b<=F a:=by
 obtain⟨d,d0,h⟩:=h;obtain⟨n,hn⟩:=steps d0 a b
 have:∀(n:Nat) (a:Rat),Wi B a->a<=b->b-a<=(n:Rat)*d->F b<=F a:=by
  intro n;induction n with
  |zero=>
   intro a c e f;grind
  |succ n l=>
   intro a c e f;have j:((n+1:Nat):Rat)=(n:Rat)+1:=by rw[Rat.natCast_add];rfl
   rw[j]at f;rcases JV (b-a) d with g|g
   . exact h a b c i e g
   . have k:Wi B (a+d):=⟨by have:=c.1;grind,by have:=i.2;grind⟩;grind
 exact this n a c e hn
def pV{p:List Rat}(tp:Jc p=p)(p0:p≠[]){a b:Rat}(c:a<=b):DM (JD (Eb p) b)<=DM (JD (Eb p) a):=by
 obtain⟨A,d,hA⟩:=JN a;obtain⟨C,e,hC⟩:=JN b;refine pT (B:=A+C) (F:=λx=>DM (JD (Eb p) x)) ?_ (hA.mono DH) (hC.mono DH) c;refine(Y8 tp p0 (B:=A+C) DH).mono λx y _ _ _ h=>?_;omega
def pW{p:List Rat}(tp:Jc p=p)(p0:p≠[]){a b:Rat}(c:a<=b):DM (JD (Jw p) b)<=DM (JD (Jw p) a):=by
 have d:=Kx tp p0 c;have e:=pV tp p0 c;omega
theorem Mp{v:List Rat}(h:DR u v)(i:0<=B):Sh B λx z=>J1 (Ji u v) x z=J1 u x z+J1 v x z:=by
 obtain⟨s,t,p⟩:=h;obtain⟨S,k,o⟩:=XR s i;obtain⟨T,l,hT⟩:=XR t i;have d:∀ {r K:Rat},0<K->K*(r/K)=r:=λA=>by grind
 refine((Xj u i (Yl Hb k)).and (Xj v i (Yl Hb l))).mono λx z j _ _ ⟨m,n⟩=>?_;have e:∀y,ev (Ji u v) y=ev u y*ev v y:=λy=>Jd _ _ _;by_cases g:Stb u x z
 . by_cases c:Stb v x z
   . have:Stb (Ji u v) x z:=by
      unfold Stb at *;rw[e,e];have:=Rat.mul_pos g c;grind
     rw[X2 this,X2 g,X2 c]
   . rw[X2 g,A5];unfold J1 Stb at *;rw[e,e];obtain⟨u1,u2⟩:=Jy g;by_cases q:ev v x≠0/\ev v x*ev v z<=0
     . rw[BF q,BF ⟨λf=>by grind,by have:=Rat.mul_nonneg (a:=ev u x*ev u z) (b:=-(ev v x*ev v z)) DH DH;grind⟩]
     grind
 . have c:Stb v x z:=Classical.byContradiction λc=>by
    have D:=KV (p x) (o x j) (m g).1 (by rw[d k];exact Rat.le_refl);have w:=((hT x j).mul (n c).1).2;rw[d l]at w;grind
   rw[X2 c,Cf];unfold J1 Stb at *;rw[e,e];obtain⟨u1,u2⟩:=Jy c;by_cases q:ev u x≠0/\ev u x*ev u z<=0
   . rw[BF q,BF ⟨λf=>by grind,by have:=Rat.mul_nonneg (a:=ev v x*ev v z) (b:=-(ev u x*ev u z)) DH DH;grind⟩]
   grind
theorem DR.of_unit{a:List Rat}(h:Dv a [1])(c:List Rat):DR a c:=by
 obtain⟨d,b⟩:=h;refine⟨d,[],λx=>?_⟩;have:=b x;rw[Jm]at this;simp[ev];grind
def DR.mul_left{a b c:List Rat}(h:DR a c)(d:DR b c):DR (Ji a b) c:=(h.symm.mul d.symm).symm
def DR.of_dv2{a b d:List Rat}(h:DR a b)(c:Dv d b):DR a d:=(h.symm.of_dv c).symm
theorem pX:∀(n:Nat) (R w y:List Rat),R.length<=n->Yun R w y->∀c,DR w c->DR R c:=by
 intro n;induction n with
 |zero=>intro R w y hn h;exact absurd (Ak.1 O) h.R0
 |succ n i=>
  intro R w y hn h c e;by_cases hl:w.length<=1
  . obtain⟨d,m⟩:=LY h.tw h.w0 hl;refine DR.of_unit (Md h.tR h.R0 ⟨Ji d y,λx=>?_⟩) c;have l:=h.eq x;grind[Jd,ev]
  . obtain⟨_,_,a,b,_,k⟩:=h.step;have j:(Jn R w).length<=n:=by
     have:=JB h.tw a.tR h.w0 a.R0;rw[<-b]at this;omega
    have f:Dv (Jn w (Js w (JT y (Jb w)))) w:=⟨Js w (JT y (Jb w)),λx=>by
     grind[Jd]⟩
    have g:=i _ _ _ j a c (e.of_dv f);rw[b];exact e.mul_left g
def DY(u:List Rat):Prop:=DR u (Jb u)
theorem DY.parts{a b:List Rat}(h:DY (Ji a b)):DR a b:=by
 obtain⟨u,v,c⟩:=h;refine⟨XB (Ji u b) (Ji v (Jb b)),Ji v (Jb a),λx=>?_⟩;grind[Yh,Jd,Yc]
theorem DY.of_dv{a b:List Rat}(h:DY b)(tb:Jc b=b)(d:Dv a b):DY a:=by
 obtain⟨c,_,e⟩:=d.some tb;obtain⟨u,v,f⟩:=h;rw[e]at f;refine⟨XB (Ji u c) (Ji v (Jb c)),Ji v c,λx=>?_⟩;grind[Yh,Jd,Yc]
theorem DY.mul{a b:List Rat}(e:DY a)(f:DY b)(h:DR a b):DY (Ji a b):=by
 have c:=Yh a b;have c1:DR a (Jb (Ji a b)):=(DR.mul e h).shift (d:=Ji [-1] (Jb b)) λx=>by
  rw[Jd,Jd,Jm,c];grind
 have c2:DR b (Jb (Ji a b)):=(h.symm.mul f).shift (d:=Ji [-1] (Jb a)) λx=>by
  rw[Jd,Jd,Jm,c];grind
 exact c1.mul_left c2
theorem DY.dv{v:List Rat}(g:Jc u=u)(i:Jc v=v)(M:v≠[])(hv:DY v)(h:∀c,DR u c->DR v c):Dv v u:=by
 have g0:=Yd g i (Or.inr M);have tg:=JE u v;obtain⟨j,l,s,t,n⟩:=J6 g i;obtain⟨d,I⟩:=ex (Js u v);rw[I]at g0 tg j l n;have f:=(JI tg g0 l).2;obtain⟨e,o⟩:=ex (Jn v d);rw[o]at f;have B:v=Ji d e:=YG i (Jq _ _) λx=>by rw[Jd,f]
 have z:DR d e:=DY.parts (by rw[<-B];exact hv);have A:DR u e:=by
  obtain⟨a,b,H⟩:=z;have L:Jc e=e:=by rw[<-o];exact YE _ _
  obtain⟨f1,f2,m,k,f3⟩:=J6 g L;have D:Dv (Js u e) d:=f1.comb (f2.mul' d) s t λx=>by
   rw[n,Jd,f]
  have G:Dv (Js u e) [1]:=D.comb f2 a b λx=>by rw[Jm,H]
  obtain⟨r,p⟩:=G;refine⟨Ji r m,Ji r k,λx=>?_⟩;have K:=p x;rw[Jm,f3]at K;rw[Jd,Jd];grind
 have w:=h e A;have y:DR e e:=w.of_dv ⟨d,λx=>by rw[f];grind⟩;obtain⟨r,p⟩:=y.unit (Dv.refl e);obtain⟨q,hq⟩:=j;refine⟨Ji r q,λx=>?_⟩;grind[Jd,ev]
def YN{p:List Rat}(tp:Jc p=p)(p0:p≠[]):Yun (Jr p) (DL p) (Ep p):=Yun.start (Yo p) (Kt tp p0) (KJ tp)
def Ip{p:List Rat}(tp:Jc p=p)(p0:p≠[]):DY (DL p):=Rb _ _ _ _ (Aa _) (YN tp p0)
def Rc{p:List Rat}(tp:Jc p=p)(p0:p≠[]):Dv (Jr p) p/\Dv p (Jr p):=by
 obtain⟨c,b⟩:=Ml tp p0;have a:Dv (Jr p) p:=⟨[cf p (p.length-1)],λx=>by
  conv=>lhs;rw[b]
  rw[Jo,Jm]⟩
 exact⟨a,⟨[1/cf p (p.length-1)],λx=>by rw[Ku,Jm]⟩⟩
def Ht{p:List Rat}(tp:Jc p=p)(p0:p≠[]):Dv (DL p) p:=(YN tp p0).dv.trans (Rc tp p0).1
def XD{p:List Rat}(tp:Jc p=p)(p0:p≠[])(c:List Rat):DR (DL p) c↔DR p c:=by
 constructor
 . intro h;exact(pX _ _ _ _ (Aa _) (YN tp p0) c h).of_dv (Rc tp p0).2
 . intro h;exact h.of_dv (Ht tp p0)
theorem Re{p q:List Rat}(tp:Jc p=p)(p0:p≠[])(tq:Jc q=q)(q0:q≠[]):
 ∃a b c:List Rat,DR a b/\DR a c/\DR (Ji a b) c/\DL p=Ji a b/\DL q=Ji a c/\DL (Ji p q)=Ji (Ji a b) c/\DL (Js p q)=a:=by
 have e:=YN tp p0;have f:=YN tq q0;have sp:=Ip tp p0;have sq:=Ip tq q0;have s:=Jq p q;have t:Ji p q≠[]:=Yt tp tq p0 q0;have tg:=JE p q;have g0:=Yd tp tq (Or.inl p0);have m:=YN s t;have l:=YN tg g0;obtain⟨o,w,_⟩:=J6 e.tw f.tw;have ta:=JE (DL p) (DL q);have ma:=YF e.tw f.tw;have a0:=Yd e.tw f.tw (Or.inl e.w0);have n:=OL e.tw f.tw a0;obtain⟨mb,_,b0,i⟩:=Me e.tw e.w0 e.mw ta ma o;obtain⟨y,_,c0,j⟩:=Me f.tw f.w0 f.mw ta ma w;have H:∀d,Dv d (DL p)->Dv d (DL q)->Dv d (Js (DL p) (DL q)):=λd g k=>Ik e.tw f.tw g k;obtain⟨a,V⟩:=ex (Js (DL p) (DL q));rw[V]at o w ta ma a0 n mb b0 i y c0 j H;obtain⟨b,K⟩:=ex (Jn (DL p) a);obtain⟨c,L⟩:=ex (Jn (DL q) a);have tb:Jc b=b:=by rw[<-K];exact YE _ _
 have z:Jc c=c:=by rw[<-L];exact YE _ _
 rw[K]at n mb b0 i;rw[L]at n y c0 j;have Q:DR a b:=DY.parts (by rw[<-i];exact sp);have D:DR a c:=DY.parts (by rw[<-j];exact sq);have A:DR (Ji a b) c:=D.mul_left n;have sc:DY c:=sq.of_dv f.tw ⟨a,λx=>by rw[j,Jd];grind⟩;have P:DY (Ji (Ji a b) c):=(by rw[<-i];exact sp:DY (Ji a b)).mul sc A;refine⟨a,b,c,Q,D,A,i,j,?_,?_⟩
 . have r:=Jq (Ji a b) c;have G:Ji a b≠[]:=Yt ta tb a0 b0;have R:Ji (Ji a b) c≠[]:=Yt (Jq _ _) z G c0;have W:Jr (Ji (Ji a b) c)=Ji (Ji a b) c:=by
    have g:=Mk (Jq a b) z G c0;have k:=Mk ta tb a0 b0;rw[k,LZ ta a0 ma,LZ tb b0 mb,LZ z c0 y]at g;exact YG (Yo _) r λx=>by rw[Ku,g];grind
   have B:∀d,DR (DL (Ji p q)) d↔DR (Ji (Ji a b) c) d:=λd=>by
    rw[XD s t];constructor
    . intro h;have g:DR p d:=h.of_dv ((Dv.refl p).mul q);have k:DR q d:=h.of_dv ((Dv.refl q).mul' p);have I:=(XD tp p0 d).2 g;have U:=(XD tq q0 d).2 k;rw[i]at I;exact I.mul_left (U.of_dv ⟨a,λx=>by rw[j,Jd];grind⟩)
    . intro h;have g:DR (DL p) d:=h.of_dv (by rw[i];exact(Dv.refl _).mul c);have k:DR (DL q) d:=h.of_dv (by rw[j];exact⟨b,λx=>by rw[Jd,Jd,Jd];grind⟩);exact((XD tp p0 d).1 g).mul_left ((XD tq q0 d).1 k)
   have d1:=DY.dv (u:=DL (Ji p q)) (v:=Ji (Ji a b) c) m.tw r R P λd h=>(B d).1 h;have S:=DY.dv (u:=Ji (Ji a b) c) (v:=DL (Ji p q)) r m.tw m.w0 (Ip s t) λd h=>(B d).2 h;exact Dv.eq m.tw r m.mw W S d1
 . have X:DY a:=sp.of_dv e.tw o;have sg:=Ip tg g0;obtain⟨M,N,_⟩:=J6 tp tq;have f1:Dv (DL (Js p q)) (DL p):=DY.dv e.tw l.tw l.w0 sg λd h=>((XD tp p0 d).1 h).of_dv ((Ht tg g0).trans M);have f2:Dv (DL (Js p q)) (DL q):=DY.dv f.tw l.tw l.w0 sg λd h=>((XD tq q0 d).1 h).of_dv ((Ht tg g0).trans N);have f3:=H _ f1 f2;have T:Dv a (DL (Js p q)):=DY.dv l.tw ta a0 X λd h=>((XD tg g0 d).1 h).of_dv (Ik tp tq (o.trans (Ht tp p0)) (w.trans (Ht tq q0)));exact Dv.eq l.tw ta l.mw ma f3 T
theorem pZ{p q:List Rat}(tp:Jc p=p)(p0:p≠[])(tq:Jc q=q)(q0:q≠[])(d:0<=B):
 Sh B λx z=>J1 (DL (Ji p q)) x z+J1 (DL (Js p q)) x z=J1 (DL p) x z+J1 (DL q) x z:=by
 obtain⟨a,b,c,e,f,g,i,j,k,l⟩:=Re tp p0 tq q0;refine(((Mp e d).and (Mp f d)).and (Mp g d)).mono λx z _ _ _ ⟨⟨m,n⟩,o⟩=>?_;grind
theorem pd(l:List Rat):∀a,Xk a l<=l.length:=by
 induction l with
 |nil=>intro a;exact Aa _
 |cons b l c=>
  intro a;grind[Xk]
theorem OV(l:List Rat):DM l<=l.length-1:=by
 cases l with
 |nil=>exact Aa _
 |cons a l=>
  grind[pd,DM,Xk]
theorem ZG:∀(n:Nat) (a b:List Rat),b.length<=n->Jc b=b->(EW a b).length<=b.length+1:=by
 intro n;induction n with
 |zero=>
  intro a b hn _
  have:b=[]:=Ak.1 O
  subst this;exact Aa _
 |succ n c=>
  intro a b hn tb;by_cases b0:b=[]
  . grind
  . have hl:=Xo (a:=a) tb b0;grind[Ij,XM]
theorem Rf{p:List Rat}(p0:p≠[]):(Jw p).length<=p.length:=by
 unfold Jw Xb;rw[CK];have a:=ZG _ (Jp p) (Jp (Jb p)) (Aa _) (J5 _);grind[JJ,Ju,YW]
def Rg{p:List Rat}(p0:p≠[]):DM (EE (Jw p))<=p.length-1:=by
 have a:=OV (EE (Jw p));have b:(EE (Jw p)).length=(Jw p).length:=by unfold EE;rw[CK]
 have c:=Rf p0;omega
theorem pg{p q:List Rat}(tp:Jc p=p)(p0:p≠[])(tq:Jc q=q)(q0:q≠[]){a b:Rat}(f:a<=b):
 (DM (JD (Jw (Ji p q)) a)+DM (JD (Jw (Js p q)) a))+(DM (JD (Jw p) b)+DM (JD (Jw q) b))=(DM (JD (Jw (Ji p q)) b)+DM (JD (Jw (Js p q)) b))+(DM (JD (Jw p) a)+DM (JD (Jw q) a)):=by
 have d:=Jq p q;have e:Ji p q≠[]:=Yt tp tq p0 q0;have tg:=JE p q;have g0:=Yd tp tq (Or.inl p0);obtain⟨A,g,hA⟩:=JN a;obtain⟨C,i,hC⟩:=JN b;have c:0<=A+C:=DH
 have h:=glue (B:=A+C) (F:=λx=>DM (JD (Eb (Ji p q)) x)+DM (JD (Eb (Js p q)) x)) (G:=λx=>DM (JD (Eb p) x)+DM (JD (Eb q) x)) (((((Y8 d e c).and (Y8 tg g0 c)).and ((Y8 tp p0 c).and (Y8 tq q0 c))).and (pZ tp p0 tq q0 c)).mono λx z _ _ _ ⟨⟨⟨j,k⟩,l,m⟩,n⟩=>by
  omega) (hA.mono DH) (hC.mono DH) f
 grind[Kx]
theorem ZH{p q:List Rat}(tp:Jc p=p)(p0:p≠[])(tq:Jc q=q)(q0:q≠[])(x:Rat):
 (DM (EE (Jw (Ji p q)))+DM (EE (Jw (Js p q))))+(DM (JD (Jw p) x)+DM (JD (Jw q) x))=(DM (JD (Jw (Ji p q)) x)+DM (JD (Jw (Js p q)) x))+(DM (EE (Jw p))+DM (EE (Jw q))):=by
 have c:=Jq p q;have d:Ji p q≠[]:=Yt tp tq p0 q0;have tg:=JE p q;have g0:=Yd tp tq (Or.inl p0);obtain⟨B1,g,_,f1⟩:=Xa (Yi c d);obtain⟨B2,i,_,f2⟩:=Xa (Yi tg g0);obtain⟨B3,j,_,f3⟩:=Xa (Yi tp p0);obtain⟨B4,k,_,e⟩:=Xa (Yi tq q0);obtain⟨X,f,hX⟩:=JN x;obtain⟨y,l⟩:∃y,-(B1+B2+B3+B4+X)=y:=⟨_,rfl⟩;have h:=pg tp p0 tq q0 (a:=y) (b:=x) (by have:=hX.1;clear f1 f2 f3 e;grind);grind
theorem ph{p q:List Rat}(tp:Jc p=p)(p0:p≠[])(tq:Jc q=q)(q0:q≠[]):
 (DM (EE (Jw (Ji p q)))+DM (EE (Jw (Js p q))))+(DM (FW (Jw p))+DM (FW (Jw q)))=(DM (FW (Jw (Ji p q)))+DM (FW (Jw (Js p q))))+(DM (EE (Jw p))+DM (EE (Jw q))):=by
 have a:=Jq p q;have b:Ji p q≠[]:=Yt tp tq p0 q0;have tg:=JE p q;have g0:=Yd tp tq (Or.inl p0);obtain⟨B1,c,f1,_⟩:=Xa (Yi a b);obtain⟨B2,d,f2,_⟩:=Xa (Yi tg g0);obtain⟨B3,e,f3,_⟩:=Xa (Yi tp p0);obtain⟨B4,f,g,_⟩:=Xa (Yi tq q0);obtain⟨y,i⟩:=ex (B1+B2+B3+B4);have h:=ZH tp p0 tq q0 y;grind
def pi{w:List Rat}(tw:Jc w=w)(w0:w≠[])(mw:Jr w=w)(h:DY w):DL w=w:=by
 have y:=YN tw w0;have d1:Dv (DL w) w:=Ht tw w0;have a:Dv w (DL w):=DY.dv y.tw tw w0 h λc b=>(XD tw w0 c).1 b;exact Dv.eq y.tw tw y.mw mw d1 a
theorem OW{p q:List Rat}(tp:Jc p=p)(p0:p≠[])(tq:Jc q=q)(q0:q≠[])(h:DL p=DL q){a b:Rat}(d:a<=b):
 DM (JD (Jw p) a)+DM (JD (Jw q) b)=DM (JD (Jw p) b)+DM (JD (Jw q) a):=by
 obtain⟨A,e,hA⟩:=JN a;obtain⟨C,f,hC⟩:=JN b;have c:0<=A+C:=DH
 have g:=glue (B:=A+C) (F:=λx=>DM (JD (Eb p) x)) (G:=λx=>DM (JD (Eb q) x)) (((Y8 tp p0 c).and (Y8 tq q0 c)).mono λx z _ _ _ ⟨i,j⟩=>by
  grind) (hA.mono DH) (hC.mono DH) d
 grind[Kx]
theorem pj{p q:List Rat}(tp:Jc p=p)(p0:p≠[])(tq:Jc q=q)(q0:q≠[])(h:DL p=DL q)(x:Rat):
 DM (EE (Jw p))+DM (JD (Jw q) x)=DM (JD (Jw p) x)+DM (EE (Jw q)):=by
 obtain⟨B3,e,_,f3⟩:=Xa (Yi tp p0);obtain⟨B4,f,_,c⟩:=Xa (Yi tq q0);obtain⟨X,d,hX⟩:=JN x;obtain⟨y,i⟩:∃y,-(B3+B4+X)=y:=⟨_,rfl⟩;have g:=OW tp p0 tq q0 h (a:=y) (b:=x) (by have:=hX.1;clear f3 c;grind);grind
theorem pk{p q:List Rat}(tp:Jc p=p)(p0:p≠[])(tq:Jc q=q)(q0:q≠[])(h:DL p=DL q):
 DM (EE (Jw p))+DM (FW (Jw q))=DM (FW (Jw p))+DM (EE (Jw q)):=by
 obtain⟨B3,a,f3,_⟩:=Xa (Yi tp p0);obtain⟨B4,b,c,_⟩:=Xa (Yi tq q0);obtain⟨y,e⟩:=ex (B3+B4);have d:=pj tp p0 tq q0 h y;grind
theorem Rh{p:List Rat}{c:Rat}(a:c≠0)(tp:Jc p=p):DL (DN c p)=DL p:=by
 unfold DL;rw[MZ a tp]
theorem pm(r x z:Rat):J1 [-r,1] x z=if x<r/\r<=z\/r<x/\z<=r then 1 else 0:=by
 have e:∀y,ev [-r,1] y=y-r:=λy=>by simp[ev];grind
 unfold J1;rw[e,e];by_cases h:x<r/\r<=z\/r<x/\z<=r
 . rw[BF h,BF];rcases h with⟨c,d⟩|⟨c,d⟩
   . refine⟨DH,?_⟩;have:=Rat.mul_nonneg (a:=r-x) (b:=z-r) DH DH;grind
   . refine⟨DH,?_⟩;have:=Rat.mul_nonneg (a:=x-r) (b:=r-z) DH DH;grind
 . rw[BE h,BE];rintro⟨c,d⟩;apply h;rcases JV x r with q|q
   . have q:x<r:=by
      rcases Rat.le_iff_lt_or_eq.1 q with q|q
      . exact q
      . grind
     refine Or.inl ⟨q,?_⟩;rcases JV r z with q2|q2
     . exact q2
     . rcases Rat.le_iff_lt_or_eq.1 q2 with q2|q2
       . have:=Rat.mul_pos (a:=r-x) (b:=r-z) DH DH;grind
       . rw[q2];exact Rat.le_refl
   grind[Rat.le_iff_lt_or_eq,JV,Rat.mul_pos]
theorem pn(hs:s*s=1):s=1\/s=-1:=by
 grind
theorem po{K u:Rat}(hs:s*s=1)(h:Wi K u):∀n:Nat,Wi K (s^n*u):=by
 intro n;induction n with
 |zero=>grind
 |succ n a=>
  rw[Rat.pow_succ];rcases pn hs with e|e
  . grind
  . rw[e]at a ⊢;have:=a.neg;grind
theorem pq{M:Rat}(hs:s*s=1)(hM:0<=M):∀p:List Rat,Jc p=p->p≠[]->∀k,cf p (p.length-1)=k->(∀i,i+1<p.length->Wi (M*(k*k)) (k*cf p i))->∀x,1+M<=x->k*k<=s^(p.length-1)*(k*ev p (s*x)):=by
 intro p;induction p with
 |nil=>intro _ h;exact absurd rfl h
 |cons c t o=>
  intro tp p0 k hk g x m;by_cases d:t=[]
  . subst d
    have:c=k:=by rw[<-hk];simp[cf]
    subst this;rw[Jm];simp
  . have hl:=Ae.2 d;obtain⟨n,hn⟩:∃n,t.length=n+1:=⟨t.length-1,O⟩;have j:cf t n=k:=by
     rw[<-hk,Ah,hn,show n+1+1-1=n+1 by omega,Yq]
    have w:cf t n≠0:=by
     have:=Jt tp p0;rwa[hk,<-j]at this
    have q:Jc t=t:=XA (Or.inr DH);have l:=o q d k DH (λi hi=>by
     have:=g (i+1) (by rw[Ah];omega);rwa[Yq]at this) x m
    rw[hn,show n+1-1=n by omega]at l;have f:=g 0 (by rw[Ah];omega);rw[Xh]at f;have r:=(po hs f (n+1)).1;rw[Ah,hn,show n+1+1-1=n+1 by omega,Hz];have e:s^(n+1)*(k*(c+s*x*ev t (s*x)))=s^(n+1)*(k*c)+x*(s^n*(k*ev t (s*x))):=by
     rw[Rat.pow_succ];grind
    rw[e];have u:=Rat.mul_nonneg (a:=x) (b:=s^n*(k*ev t (s*x))-k*k) DH DH;have v:=Rat.mul_nonneg (a:=x-(1+M)) (b:=k*k) DH (Xl k);grind
theorem quiet{p:List Rat}(tp:Jc p=p)(p0:p≠[])(v:0<e)(h:∀x,U x->e<=ev p x*ev p x)(d:0<=B):Sh B λx z=>U x->J1 (DL p) x z=0:=by
 obtain⟨c,m⟩:=Ht tp p0;obtain⟨C,g,hC⟩:=XR c d;obtain⟨f,f0,n⟩:=small (K:=(C*C)*1) (r:=e/2) (Rat.le_of_lt (by have:=Rat.mul_pos g g;grind)) DH;obtain⟨f2,i,l1,l2⟩:=Hq f0 (show(0:Rat)<1 by decide);refine(Xj (DL p) d i).mono λx z q _ _ o l=>?_;refine X2 (Classical.byContradiction λhn=>?_);have j:=(o hn).1;have k:=h x l;rw[m x]at k;have s:=Ls j;have t:=Ls (hC x q);have u:=n f2 l1;have w:=Rat.mul_nonneg (a:=f2*f2-ev (DL p) x*ev (DL p) x) (b:=ev c x*ev c x) DH (Xl _);have y:=Rat.mul_nonneg (a:=f2*f2) (b:=C*C-ev c x*ev c x) (Xl _) DH;have A:=Rat.mul_nonneg (a:=C*C) (b:=f2*(1-f2)) (Xl _) (Rat.mul_nonneg DH DH);grind
theorem pt{F:Rat->Nat}(h:Sh B λx y=>U x->F x=F y){a b:Rat}(c:Wi B a)(j:Wi B b)(f:a<=b)(m:∀x,a<=x->x<=b->U x):F a=F b:=by
 obtain⟨d,d0,h⟩:=h;obtain⟨n,hn⟩:=steps d0 a b
 have:∀(n:Nat) (a':Rat),a<=a'->Wi B a'->a'<=b->b-a'<=(n:Rat)*d->F a'=F b:=by
  intro n;induction n with
  |zero=>
   intro a' _ c f e;grind
  |succ n o=>
   intro a' k c f e;have g:((n+1:Nat):Rat)=(n:Rat)+1:=by rw[Rat.natCast_add];rfl
   rw[g]at e;rcases JV (b-a') d with i|i
   . grind
   . have l:Wi B (a'+d):=⟨by have:=c.1;grind,by have:=j.2;grind⟩;grind
 grind
theorem ZI{p:List Rat}(tp:Jc p=p)(p0:p≠[])(j:0<e){a b:Rat}(i:a<=b)(h:∀x,a<=x->x<=b->e<=ev p x*ev p x):DM (JD (Jw p) a)=DM (JD (Jw p) b):=by
 obtain⟨A,k,hA⟩:=JN a;obtain⟨C,l,hC⟩:=JN b;have d:0<=A+C:=by clear h;grind
 have c:=pt (B:=A+C) (F:=λx=>DM (JD (Eb p) x)) (U:=λx=>a<=x/\x<=b) (((Y8 tp p0 d).and (quiet tp p0 j (U:=λx=>a<=x/\x<=b) (λx f=>h x f.1 f.2) d)).mono λx z _ _ _ ⟨n,o⟩ m=>by
  grind) (hA.mono (by clear h;grind)) (hC.mono (by clear h;grind)) i (λx g c=>⟨g,c⟩)
 grind[Kx]
def DR.ext{v u2 a:List Rat}(h:DR u v)(b:∀x,ev u2 x=ev u x)(c:∀x,ev a x=ev v x):DR u2 a:=by
 obtain⟨s,t,h⟩:=h;exact⟨s,t,λx=>by rw[b,c];exact h x⟩
theorem pu(hk:k≠0)(w:List Rat)(x z:Rat):J1 (DN k w) x z=J1 w x z:=by
 have d:0<k*k:=by
  have:=XJ (f:=[k]) hk (λx=>Jm _ x) 0 0;unfold Stb at this;rwa[Jm]at this
 unfold J1;rw[Jo,Jo];by_cases h:ev w x≠0/\ev w x*ev w z<=0
 . rw[BF h,BF];refine⟨λe=>?_,?_⟩
   . grind
   . have:=Rat.mul_nonneg (a:=k*k) (b:=-(ev w x*ev w z)) DH (by have:=h.2;grind);grind
 . rw[BE h,BE];rintro⟨c,g⟩;refine h ⟨λe=>c (by rw[e];grind),?_⟩;rcases JV (ev w x*ev w z) 0 with q|q
   . exact q
   . rcases Rat.le_iff_lt_or_eq.1 q with q|q
     . have:=Rat.mul_pos d q;grind
     grind
theorem Mq{v:List Rat}(h:DR u v)(a:0<=B):Sh B λx z=>Stb u x z\/Stb v x z:=by
 obtain⟨s,t,k⟩:=h;obtain⟨S,c,j⟩:=XR s a;obtain⟨T,e,hT⟩:=XR t a;have d:∀ {r K:Rat},0<K->K*(r/K)=r:=λn=>by grind
 refine((Xj u a (Yl Hb c)).and (Xj v a (Yl Hb e))).mono λx z b _ _ ⟨g,i⟩=>?_;by_cases f:Stb u x z
 . exact Or.inl f
 . refine Or.inr (Classical.byContradiction λm=>?_);have o:=KV (k x) (j x b) (g f).1 (by rw[d c];exact Rat.le_refl);have l:=((hT x b).mul (i m).1).2;rw[d e]at l;grind
theorem pv:∀(n:Nat) (R w y:List Rat),R.length<=n->Yun R w y->∀ {B:Rat},0<=B->Sh B λx z=>Stb w x z->Stb R x z:=by
 intro n;induction n with
 |zero=>intro R w y hn h;exact absurd (Ak.1 O) h.R0
 |succ n u=>
  intro R w y hn h B l;by_cases hl:w.length<=1
  . obtain⟨d,H⟩:=LY h.tw h.w0 hl;have p:Dv R [1]:=Md h.tR h.R0 ⟨Ji d y,λx=>by
     have G:=h.eq x;grind[Jd,ev]⟩
    have hl:=(p.len h.tR DK DK).1;exact Sh.all λx z _ _ _ _=>RK h.tR h.R0 hl x z
  . obtain⟨_,i⟩:=h.part;obtain⟨_,_,c,f,_,g⟩:=h.step;obtain⟨a,o⟩:=ex (Js w (JT y (Jb w)));rw[o]at i c g;obtain⟨w2,r⟩:=ex (Jn w a);rw[r]at i c g;obtain⟨e,m⟩:=ex (Jn R w);rw[m]at c f;have v:e.length<=n:=by
     have:=JB h.tw c.tR h.w0 c.R0;rw[<-f]at this;omega
    have k:∀x,ev w x=ev a x*ev w2 x:=λx=>by
     have:=Jd a w2 x;rwa[<-g]at this
    have j:∀x,ev R x=ev w x*ev e x:=λx=>by
     have:=Jd w e x;rwa[<-f]at this
    refine((u e w2 _ v c l).and (Mq i l)).mono λx z _ _ _ ⟨s,t⟩ sw=>?_;have A:Stb w2 x z:=by
     rcases t with I|sb
     . unfold Stb at *;rw[k,k]at sw;rcases JV (ev w2 x*ev w2 z) 0 with q|q
       . have:=Rat.mul_nonneg (a:=ev a x*ev a z) (b:=-(ev w2 x*ev w2 z)) DH DH;grind
       . rcases Rat.le_iff_lt_or_eq.1 q with q|q
         . exact q
         . have:ev a x*ev w2 x*(ev a z*ev w2 z)=(ev a x*ev a z)*(ev w2 x*ev w2 z):=DH
           grind
     . exact sb
    have D:=s A;unfold Stb at *;rw[j,j];have:=Rat.mul_pos sw D;grind
theorem px{p:List Rat}(tp:Jc p=p)(p0:p≠[])(b:0<=B):Sh B λx z=>Stb (DL p) x z->Stb p x z:=by
 obtain⟨d,c⟩:=Ml tp p0;have e:∀x,ev p x=ev (Jr p) x*cf p (p.length-1):=λx=>by
  conv=>lhs;rw[c]
  rw[Jo]
 refine(pv _ _ _ _ (Aa _) (YN tp p0) b).mono λx z _ _ _ h s=>?_;have a:=h s;have:=XJ (f:=[cf p (p.length-1)]) d (λx=>Jm _ x) 0 0;unfold Stb at *;rw[Jm]at this;rw[e,e];have:=Rat.mul_pos a this;grind
def Ei(w y:List Rat)(x:Rat):Nat:=if 0<ev w x*ev y x\/ev w x=0 then 1 else 0
theorem py{w y:List Rat}(st:¬Stb w x x):Ei w y x=1/\J1 w x x+Ei w y x<=1:=by
 have u0:ev w x=0:=by
  rcases AM.1 (Rat.le_antisymm (Rat.not_lt.1 st) (Xl (ev w x)))with q|q<;>exact q
 grind[J1,Ei]
theorem pz{w y:List Rat}(r1:0<ev (Jb w) x*(ev w z-ev w x))(l:ev w x*ev w z<=0)(sd:Stb (Jb w) x z)(f:0<ev y x*ev (Jb w) x)(g:0<ev y z*ev (Jb w) z):Ei w y z=1/\J1 w x z+Ei w y x<=1:=by
 unfold Stb at sd;unfold Ei J1;generalize ev (Jb w) x=d at *;generalize ev (Jb w) z=c at *;generalize ev y x=a at *;generalize ev y z=b at *;generalize ev w x=u at *;generalize ev w z=v at *;have k:0<a*(v-u):=Xg (a:=d) (by have:=Rat.mul_pos f r1;grind);have e:0<c*(v-u):=Xg (a:=d) (by have:=Rat.mul_pos sd r1;grind);have r4:0<b*(v-u):=Xg (a:=c) (by have:=Rat.mul_pos g e;grind);by_cases u0:u=0
 . subst u0;grind
 . have i:u*a<0:=by
    rcases JV 0 (u*a)with q|q
    . exfalso
      have q:0<u*a:=by
       rcases Rat.le_iff_lt_or_eq.1 q with q|q
       . exact q
       . grind[Jy]
      have:=Rat.mul_pos q (show 0<v*a by grind);have:=Xg (a:=a) (b:=u*v) DH;grind
    . grind[AM]
   have j:0<v*b\/v=0:=by
    rcases JV (v*b) 0 with t|t
    . rcases Rat.le_iff_lt_or_eq.1 t with t|t
      . exfalso
        have:=Rat.mul_pos (a:=-(v*b)) (b:=-(u*b)) DH DH;have:=Xg (a:=b) (b:=u*v) DH;grind
      grind[Jy]
    . grind[AM]
   grind
theorem p5{w y s f:List Rat}(D:0<k)(A:J1 f x z<=J1 s x z)(m:¬Stb w x z->k<=ev y x*ev (Jb w) x/\k<=ev y z*ev (Jb w) z)(n:¬Stb w x z->x<z->0<ev (Jb w) x*(ev w z-ev w x))(B:Stb f x z->Stb y x z)(o:Stb w x z\/Stb (Jb w) x z)(v:ev y x≠0->ev f x≠0)(l:x<=z):
 J1 w x z+Ei w y x<=Ei w y z+J1 s x z:=by
 by_cases st:Stb w x z
 . rw[X2 st,A5];obtain⟨G,e⟩:=Jy st;by_cases q:Ei w y x<=Ei w y z
   . omega
   ·
    have p:0<ev w x*ev y x:=by
     unfold Ei at q;by_cases r:0<ev w x*ev y x\/ev w x=0
     . grind
     . grind
    have g:¬(0<ev w z*ev y z):=λr=>by
     grind[Ei]
    have L:¬Stb y x z:=λr=>g (by
     have u:=NF (a:=ev w x) (b:=ev y x) (c:=ev w z) (d:=ev y z) st r;rcases JV (ev w z*ev y z) 0 with t|t
     . rcases Rat.le_iff_lt_or_eq.1 t with t|t
       . grind
       . rcases AM.1 t with t|t
         . exact absurd t e
         . exact absurd t (Jy r).2
     . rcases Rat.le_iff_lt_or_eq.1 t with t|t
       . exact t
       . rcases AM.1 t.symm with t|t
         . exact absurd t e
         . exact absurd t (Jy r).2)
    grind[Stb,J1,Jy,Ei]
 . obtain⟨I,K⟩:=m st;have sd:=o.resolve_left st;have H:Ei w y z=1/\J1 w x z+Ei w y x<=1:=by
    rcases Rat.le_iff_lt_or_eq.1 l with j|i
    . exact pz (n st j) (Rat.not_lt.1 st) sd DH DH
    . subst i;exact py st
   omega
theorem p6{p:List Rat}(tp:Jc p=p)(hl:1<p.length)(b:0<=B):
 Sh B λx z=>J1 (DL p) x z+Ei (DL p) (Ep p) x<=Ei (DL p) (Ep p) z+J1 (DL (Jb p)) x z:=by
 have p0:p≠[]:=λe=>by rw[e]at hl;simp at hl
 have ts:=Ju p;have g:Jb p≠[]:=λe=>by have:=Mc tp e;omega
 have a:=YN tp p0;have y0:Ep p≠[]:=λe=>by
  have N:Jb (Jr p)=[]:=XC (Ju _) λx=>by
   have d:=a.eq x;rw[e]at d;have y:=Y1 (u:=Jb (Jr p)) (v:=[]) a.tw a.w0 (λx=>by
    have d:=a.eq x;rw[e]at d;simp only[ev]at d ⊢;grind) x
   rw[y];rfl
  grind[Mc,Yo,XY]
 have ty:=a.ty;have dy:Dv (Ep p) (Jb p):=by
  obtain⟨_,D⟩:=Ml tp p0;obtain⟨_,w,_⟩:=J6 (Yo p) (Ju (Jr p));have g0:=Yd (Yo p) (Ju (Jr p)) (Or.inl (Kt tp p0));have s:=(JI (JE _ _) g0 w).2;refine⟨DN (cf p (p.length-1)) (Js (Jr p) (Jb (Jr p))),λx=>?_⟩;have i:=ZC (cf p (p.length-1)) (Jr p) x;rw[<-D]at i;rw[i,s,Jo];show _=ev (Jn (Jb (Jr p)) (Js (Jr p) (Jb (Jr p)))) x*_;grind
 have n:=YN ty y0;have m:=YN ts g;have dw:Dv (DL (Ep p)) (DL (Jb p)):=DY.dv m.tw n.tw n.w0 (Ip ty y0) λc h=>((XD ts g c).1 h).of_dv ((Ht ty y0).trans dy);obtain⟨e,Q,j⟩:=dw.some m.tw;have o:DR (DL (Ep p)) e:=DY.parts (by rw[<-j];exact Ip ts g);have l:=Mp o b;rw[<-j]at l;obtain⟨k,M,sg⟩:=RL _ _ _ _ (Aa _) a b;have r:=Ip tp p0;refine((((l.and sg).and (ZF a b)).and ((px ty y0 b).and (Mq r b)))).mono λx z _ _ G ⟨⟨⟨P,H⟩,I⟩,K,L⟩=>?_;have t:∀x,ev (Ep p) x≠0->ev (DL (Ep p)) x≠0:=λx h q=>by
  obtain⟨c,A⟩:=Ht ty y0;exact h (by rw[A,q];grind)
 exact p5 (f:=DL (Ep p)) M O H I K L (t x) G
theorem ZJ{P:Rat->Rat->Prop}(o:∀x,P x x)(tr:∀x y z,P x y->P y z->P x z)(h:Sh B P){a b:Rat}(c:Wi B a)(j:Wi B b)(f:a<=b):P a b:=by
 obtain⟨d,d0,h⟩:=h;obtain⟨n,hn⟩:=steps d0 a b
 have:∀(n:Nat) (a:Rat),Wi B a->a<=b->b-a<=(n:Rat)*d->P a b:=by
  intro n;induction n with
  |zero=>
   intro a c f g;have e:a=b:=by
    have:((0:Nat):Rat)=0:=rfl
    rw[this]at g;grind
   rw[e];exact o _
  |succ n m=>
   intro a c f g;have l:((n+1:Nat):Rat)=(n:Rat)+1:=by rw[Rat.natCast_add];rfl
   rw[l]at g;rcases JV (b-a) d with i|i
   . exact h a b c j f i
   . have k:Wi B (a+d):=⟨by have:=c.1;grind,by have:=j.2;grind⟩;exact tr _ _ _ (h a (a+d) c k DH DH) (m (a+d) k DH DH)
 exact this n a c f hn
theorem Ri{p:List Rat}(tp:Jc p=p)(p0:p≠[])(a:0<=B):Sh B λx z=>DM (JD (Jw p) x)=DM (JD (Jw p) z)+J1 (DL p) x z:=by
 refine(Y8 tp p0 a).mono λx z _ _ b h=>?_;grind[Kx]
def p7(w y:List Rat)(x:Rat):Ei w y x<=1:=by unfold Ei;split<;>omega
def qA{p:List Rat}(tp:Jc p=p)(hl:1<p.length){a b:Rat}(f:a<=b):
 DM (JD (Jw p) a)+DM (JD (Jw (Jb p)) b)<=DM (JD (Jw p) b)+DM (JD (Jw (Jb p)) a)+1:=by
 have p0:p≠[]:=λe=>by rw[e]at hl;simp at hl
 have g:Jb p≠[]:=λe=>by have:=Mc tp e;omega
 obtain⟨A,i,hA⟩:=JN a;obtain⟨C,j,hC⟩:=JN b;have c:0<=A+C:=DH
 have:=ZJ (B:=A+C) (P:=λx z=>DM (JD (Jw p) x)+Ei (DL p) (Ep p) x+DM (JD (Jw (Jb p)) z)<=DM (JD (Jw p) z)+Ei (DL p) (Ep p) z+DM (JD (Jw (Jb p)) x))
  (λ_=>Aa _) (λ_ _ _ _ _=>by omega) (((Ri tp p0 c).and ((Ri (Ju p) g c).and (p6 tp hl c))).mono λx z _ _ _ ⟨d,k,l⟩=>by
   show _<=_;omega) (hA.mono DH) (hC.mono DH) f
 have d:=p7 (DL p) (Ep p) b;omega
theorem Rj{a b:Rat}(f:a≠0)(g:b≠0):a*b<0↔¬(a<0↔b<0):=by
 have pos:∀ {c:Rat},c≠0->¬c<0->0<c:=fun {c} d e=>by
  grind
 by_cases d:a<0<;>by_cases e:b<0
 . have:=Rat.mul_pos (a:=-a) (b:=-b) DH DH;simp[d,e];grind
 . have:=Rat.mul_pos (a:=-a) (b:=b) DH (pos g e);simp[d,e];grind
 . have:=Rat.mul_pos (a:=a) (b:=-b) (pos f d) DH;simp[d,e];grind
 grind[Rat.mul_pos]

