import Derived.Test.YtdmmbgahnkbnaaaGreatDoorU37
set_option linter.all false
open Go.Value renaming slice->C
open Go renaming Value->E,World->F
set_option maxRecDepth 99999
set_option maxHeartbeats 0
namespace Go.Proofs.YtdmmbgahnkbnaaaGreatDoor
section
open Go.RowKit Go.Shelf
def LK(s:List Rat × List Rat):List Rat × List Rat:=(Dp s.1 (Ju s.1 (JS s.2 (Jb s.1))),Dp (JS s.2 (Jb s.1)) (Ju s.1 (JS s.2 (Jb s.1))))
def DS(w y:List Rat):Nat->List Rat × List Rat
 |0=>(w,y)
 |n+1=>LK (DS w y n)
def yP(s:List Rat × List Rat):List Rat:=Ju s.1 (JS s.2 (Jb s.1))
def yL(w y:List Rat):Nat->List (List Rat × Nat)
 |0=>[]
 |n+1=>yL w y n++(if 1<(yP (DS w y n)).length then [(yP (DS w y n),n+1)]else [])
theorem WF(w y:List Rat):∀n,(yL w y n).length<=n:=by
 intro n;induction n with
 |zero=>exact Aa _
 |succ n a=>
  grind[yL]
structure StOk(K M:Nat)(w y:List Rat):Prop where
 ch:M3.ChOk K w (JS y (Jb w))
 ty:Jc y=y
 cw:Cd M w
 cs:Cd M (Jb w)
 cy:Cd M y
 cz:Cd M (JS y (Jb w))
 kM:Da K w (JS y (Jb w))<=M
 l1:2*((w.length+3)*(M+1))<=1000000000
 l2:2*(((JS y (Jb w)).length+3)*(M+1))<=1000000000
structure PtOk(K M N:Nat)(p:List Rat):Prop where
 tp:Jc p=p
 cp:Cd M p
 ch:M3.ChOk K (Js p) (Jb (Js p))
 kM:Da K (Js p) (Jb (Js p))<=M
 l1:2*((p.length+3)*(M+1))<=1000000000
 gt:1<p.length
 nN:N<=1000000000
 st:∀n,n<N->1<(DS (Dp (Js p) (Ju (Js p) (Jb (Js p)))) (Dp (Jb (Js p)) (Ju (Js p) (Jb (Js p)))) n).1.length/\StOk K M (DS (Dp (Js p) (Ju (Js p) (Jb (Js p)))) (Dp (Jb (Js p)) (Ju (Js p) (Jb (Js p)))) n).1 (DS (Dp (Js p) (Ju (Js p) (Jb (Js p)))) (Dp (Jb (Js p)) (Ju (Js p) (Jb (Js p)))) n).2
 en:(DS (Dp (Js p) (Ju (Js p) (Jb (Js p)))) (Dp (Jb (Js p)) (Ju (Js p) (Jb (Js p)))) N).1.length<=1
def Kj(p:List Rat)(N:Nat):List (List Rat × Nat):=yL (Dp (Js p) (Ju (Js p) (Jb (Js p)))) (Dp (Jb (Js p)) (Ju (Js p) (Jb (Js p)))) N
namespace M3
def E9(base:Nat)(V:F)(v:E)(L:List (List Rat × Nat)):Prop:=EF true base V v L
section
variable {base:Nat} {V V':World} {v:Value} {L:List (List Rat × Nat)}
def E9.below(h:E9 base V v L)(a:Bl V V'):E9 base V' v L:=EF.below h a
def E9.drew(h:E9 base V v L):E9 base V.drew v L:=EF.below h ((BD _ V).drew)
def E9.alloc(h:E9 base V v L)(o:Obj):E9 base (V.alloc o) v L:=EF.below h (Ba V o)
def E9.set1(h:E9 base V v L){B:Nat}{a:Option Addr}{l c:Nat}(q:Boxed V B 25 (C a l c))(_:JR (C a l c)=true)(b:E):E9 base (V.setCell ⟨B,0,none⟩ b) v L:=EF.set h q (λ_ _ g=>FW q b g)
end
def nS(a b:E)(ps qs:List Rat)(w:F)(g:Jd w a ps)(i:Jd w b qs)(j:Sqs ps)(k:Sqs qs)(l:Sqs (JS ps qs)):
 Calls Tryz.prog 30 #[a,b] w λe w'=>∃u,e=.returned u/\Jd w' u (JS ps qs)/\Bl w w':=by
 refine(UR a b ps qs w g i j k l).mono ?_;rintro e w' ⟨u,c,d,_,f⟩;exact⟨u,c,d,f⟩
def WG{M:Nat}{w:List Rat}(h:Cd M (Jb w))(hM:M<=1000000000)(i:Nat):Sq (Gt w i):=by
 have a:=(h.sqs hM).at i;unfold Jb at a;rwa[Yp,Kz]at a
attribute [local go_sem] Oper.semAt_some
theorem WH(K M N:Nat)(v:E)(p:List Rat)(w:F)(h:Jd w v p)(D:PtOk K M N p):
 Calls Tryz.prog 50 #[v] w λe w'=>∃u,e=.returned u/\EF true w.heap.size w' u (Kj p N)/\Bl w w':=by
 obtain⟨q,hq⟩:=ex (Js p);obtain⟨c,hc⟩:=ex (Ju q (Jb q));obtain⟨w0,ah⟩:=ex (Dp q c);obtain⟨y0,ai⟩:=ex (Dp (Jb q) c);have hM:M<=1000000000:=by
  have h1:=D.l1;grind
 have Qn:=D.ch;have Ue:=D.kM;rw[hq]at Qn Ue;have Ur:q.length=p.length:=by rw[<-hq];exact LG D.tp
 have Qr:Cd M q:=by rw[<-hq];exact D.cp.mon D.tp
 have Uf:Jc q=q:=by rw[<-hq];exact YB _
 have Uc:Cd M (Jb q):=(show Cd K (Jb q)from Qn.cq).mono (by have:=N3 K q (Jb q);omega);have Qt:Cd M c:=by rw[<-hc];exact Qn.gcd.mono Ue
 have Ug:Jc c=c:=by rw[<-hc];exact JT _ _
 have Qz:Js c=c:=by rw[<-hc];exact XU Uf (Jr _)
 have Up:2*(((Jb q).length+3)*(M+1))<=1000000000:=by
  have h1:(Jb q).length<=q.length:=Ac (Yq _) (by simp[IG]);have h2:((Jb q).length+3)*(M+1)<=(p.length+3)*(M+1):=Ad _ O;have h3:=D.l1;omega
 obtain⟨Ud,Wa,Ul,Wk,Wj,Wb⟩:=IM (λ(V:F) (x:E) (r:List Rat) (z:Jd V x r)=>Yo x r V z) (λ(V:F) (x:E) (z:Jd V x p)=>show Calls Tryz.prog 83 #[x] V λe w'=>∃u,e=.returned u/\Jd w' u q/\Bl V w' by rw[<-hq];exact nI M x p V z D.tp D.cp hM) (λ(V:F) (x:E) (z:Jd V x q)=>Nw x q V z (Qr.sqs hM) (WG Uc hM)) (λ(V:F) (x y:E) (z:Jd V x q) (H:Jd V y (Jb q))=>show Calls Tryz.prog 29 #[x,y] V λe w'=>∃u,e=.returned u/\Jd w' u c/\Bl V w' by rw[<-hc];exact WE K x y q (Jb q) V z H Qn) (λ(V:F) (x y:E) (z:Jd V x q) (H:Jd V y c)=>show Calls Tryz.prog 116 #[x,y] V λe w'=>∃u,e=.returned u/\Jd w' u w0/\Bl V w' by rw[<-ah];exact OC M x y q c V z H Qr Qt Uf Ug Qz (by rw[Ur];exact D.l1)) (λ(V:F) (x y:E) (z:Jd V x (Jb q)) (H:Jd V y c)=>show Calls Tryz.prog 116 #[x,y] V λe w'=>∃u,e=.returned u/\Jd w' u y0/\Bl V w' by rw[<-ai];exact OC M x y (Jb q) c V z H Uc Qt (Jr _) Ug Qz Up);have Qs:=D.st;have Qw:=D.en;rw[hq,hc,ah,ai]at Qs Qw;obtain⟨Uq,Wc,We⟩:=DY Qs Qw (show Kj p N=yL w0 y0 N by unfold Kj;rw[hq,hc,ah,ai]);rw[We.o];obtain⟨Uy,Uz,Wd⟩:=DY (λ(a b:List Rat) (o:StOk K M a b) (V:F) (x:E) (z:Jd V x a)=>Nw x a V z (o.cw.sqs hM) (WG o.cs hM)) (λ(a b:List Rat) (o:StOk K M a b) (V:F) (x y:E) (z:Jd V x b) (H:Jd V y (Jb a))=>nS x y b (Jb a) V z H (o.cy.sqs hM) (o.cs.sqs hM) (o.cz.sqs hM)) λ(a b:List Rat) (o:StOk K M a b) (V:F) (x y:E) (z:Jd V x a) (H:Jd V y (JS b (Jb a)))=>WE K x y a (JS b (Jb a)) V z H o.ch;have X:∀(a b:List Rat),StOk K M a b->Cd M (Ju a (JS b (Jb a)))/\Jc (Ju a (JS b (Jb a)))=Ju a (JS b (Jb a))/\Js (Ju a (JS b (Jb a)))=Ju a (JS b (Jb a)):=λa b o=>⟨o.ch.gcd.mono o.kM,JT _ _,XU o.ch.tp o.ch.tq⟩;have Uu:=Z λ(a b:List Rat) (o:StOk K M a b) (V:F) (x y:E) (z:Jd V x a) (H:Jd V y (Ju a (JS b (Jb a))))=>OC M x y a (Ju a (JS b (Jb a))) V z H o.cw (X a b o).1 o.ch.tp (X a b o).2.1 (X a b o).2.2 o.l1;have Wg:=Z λ(a b:List Rat) (o:StOk K M a b) (V:F) (x y:E) (z:Jd V x (JS b (Jb a))) (H:Jd V y (Ju a (JS b (Jb a))))=>OC M x y (JS b (Jb a)) (Ju a (JS b (Jb a))) V z H o.cz (X a b o).1 o.ch.tq (X a b o).2.1 (X a b o).2.2 o.l2;have Ua:¬(p.length:Int)-1<1:=by have:=D.gt;omega
 obtain⟨d0,bi⟩:=ex ((p.length:Int)-1:Int);rw[bi]at Ua;have Ux:=Z bi;have gw:=D.nN;obtain⟨pa,la,pc,rfl⟩:=h.form;obtain⟨W0,fg,M1⟩:=KY 25 (.poly p) h;clear h D Qn Ue Ur Qr Uf Uc Qt Ug Qz Up Qs Qw X hM hq hc ah ai bi;go_enter Tryz.func50,Tryz.ntmps50
 go_upto_region 1 with fail
 rw[fg.o];obtain⟨a1,l1,c1,n1,r1⟩:=M1.o.poly2 (i:=0) rfl;have Qx:=n1.cell;have G:=Z (Ud.o W0 _ p r1);rw[Ux.o]at G;go_upto_region 3 with(go_at_call 26;refine G.o.mono ?_;rintro e w1 ⟨rfl,hq⟩;clear Qx;have Qx:=(boxed_below n1 hq).cell)
 have M2:=Z (M1.o.below hq);clear M1;clear hq n1 r1 Qx;obtain⟨a2,l2,c2,n2,r2⟩:=M2.o.poly2 (i:=0) rfl;have Qy:=n2.cell;have Qv:=n2.frozen;have G:=Z (Wa.o w1 _ r2);go_upto_region 4 with(go_at_call 83;refine G.o.mono ?_;rintro e w2 ⟨u2,rfl,ce,hq⟩;obtain⟨co,dx,de,rfl⟩:=Jd.form ce;clear Qy;have Qy:=(boxed_below n2 hq).cell;clear Qv;have Qv:=(boxed_below n2 hq).frozen)
 obtain⟨V3,R⟩:=ex (w2.setCell ⟨w.heap.size,0,none⟩ (C co dx de));have l:DI w (w2.setCell ⟨w.heap.size,0,none⟩ (C co dx de)) [some (w.heap.size,.poly q)]:=DI.putPoly (M2.o.below hq) (i:=0) rfl ce;rw[R]at l;rw[R];have M3:=Z (l);clear M2;clear l R;clear ce hq n2 r2 Qy Qv;refine Yn Dd [[],[],[1],[0,2,2],[],[4,3,3,0,1,2,3,4]] [.poly q,.poly q,.poly (Jb q),.poly c,.ptr,.eq undef] [4,5] (λb v V=>DI w V [some (w.heap.size,.poly q),nb b v 0 1 (.poly []) (.poly c)]) (M3.o.none).drew (SR (.vl rfl λ_ j=>Ez 0 j)<|SR (.vl rfl λ_ j=>Ez 0 j)<|SR (.cl λh _=>Ul.o _ _ (h.g 1))<|SR (.cl λh _=>Wk.o _ _ _ (h.g 0) (h.g 2))<|SR (.wr rfl λ_ j=>IW 1 j)<|SR (.wr rfl λh j=>E0 1 j (h.g 3) (hp:=h.g 4)) Stp.end_)
  λf V5 hF l=>?_
 refine DO ?_;obtain⟨Q,ay⟩:=hF.p 4;have l:=Dn l;simp only[ay]at l;rw[ay];have W:=Z l;clear l hF ay;clear M3;go_upto_region 5 with fail
 refine Yn Dd [[],[],[0,1],[],[3,2],[],[4,5,4],[],[],[7,2,6,0,1,2,7,8],[8,6,9,0,1,2,3,4,5,6,7,8,9]] [.poly q,.poly c,.poly w0,.poly q,.poly (Jb q),.poly c,.poly y0,.ptr,.ptr,.eq undef,.eq undef] [7,8,9,10] (λb v V=>DI w V [some (w.heap.size,.poly q),some (Q,.poly c),nb b v 0 2 (.poly []) (.poly w0),nb b v 1 3 (.poly []) (.poly y0)]) ((W.o.none).none).drew (SR (.vl rfl λ_ j=>Ez 0 j)<|SR (.vl rfl λ_ j=>Ez 1 j)<|SR (.cl λh _=>Wj.o _ _ _ (h.g 0) (h.g 1))<|SR (.vl rfl λ_ j=>Ez 0 j)<|SR (.cl λh _=>Ul.o _ _ (h.g 3))<|SR (.vl rfl λ_ j=>Ez 1 j)<|SR (.cl λh _=>Wb.o _ _ _ (h.g 4) (h.g 5))<|SR (.wr rfl λ_ j=>IW 2 j)<|SR (.wr rfl λ_ j=>IW 3 j)<|SR (.wr rfl λh j=>E0 2 j (h.g 2) (hp:=h.g 7))<|SR (.wr rfl λh j=>E0 3 j (h.g 6) (hp:=h.g 8)) Stp.end_)
  λf V8 hF l=>?_
 refine DO ?_;obtain⟨B9,az⟩:=hF.p 7;obtain⟨B10,aq⟩:=hF.p 8;have l:=Dn l;simp only[az,aq]at l;rw[az,aq];have M5:=Z l;clear l hF az aq;clear W;go_wp2;go_loopw [6,7] (λlv tv wr=>∃(k:Nat) (S:Option Addr) (U:Nat),k<=N/\lv=C S (yL w0 y0 k).length U/\tv=.int .i64 ((k+1:Nat):Int)/\Hid (E9 w.heap.size wr (C S (yL w0 y0 k).length U) (yL w0 y0 k))/\Hid (DI w wr [some (w.heap.size,.poly q),some (Q,.poly c),some (B9,.poly ((DS w0 y0 k).1)),some (B10,.poly ((DS w0 y0 k).2))])) λ_ tv _=>N+1-(intOf tv).toNat
 case atStart=>exact⟨0,none,0,At _,rfl,rfl,Z (EF.nil _ _ _),M5⟩
 case round=>
  clear M5;obtain⟨k,S,U,hk,rfl,rfl,XL,M6⟩:=hrel;obtain⟨g,bu⟩:=ex ((DS w0 y0 k).1);obtain⟨s,bz⟩:=ex ((DS w0 y0 k).2);obtain⟨L,hL⟩:=ex (yL w0 y0 k);have A:=Z (show(DS w0 y0 k).1=g/\(DS w0 y0 k).2=s/\yL w0 y0 k=L/\L.length<=k from⟨bu,bz,hL,by rw[<-hL];exact WF _ _ _⟩);rw[bu,bz]at M6;rw[hL]at XL;clear bu bz hL;rw[A.o.2.2.1];obtain⟨ll,bn⟩:=ex (L.length:Nat);rw[bn]at XL ⊢;have Qi:=Z bn;clear bn;obtain⟨T,hT⟩:=ex (k+1:Nat);rw[hT];have Qg:=Z hT;clear hT;obtain⟨gh,gy,gq,aj,r11⟩:=M6.o.poly2 (i:=2) rfl;have Qc:=aj.cell;have G:=Z (Ud.o wr _ g r11);obtain⟨d1,bj⟩:=ex ((g.length:Int)-1:Int);rw[bj]at G;have Uo:=Z bj;clear bj;by_cases dj:k<N
  . have Us:(0:Int)<d1:=by have h1:=(Uq.o k dj).1;rw[A.o.1]at h1;have:=Uo.o;omega
    have HO:=Z (show StOk K M g s by have h1:=(Uq.o k dj).2;rwa[A.o.1,A.o.2.1]at h1);go_upto_region 10 with(go_at_call 26;refine G.o.mono ?_;rintro e w1 ⟨rfl,hq⟩;clear Qc;have Qc:=(boxed_below aj hq).cell)
    have M7:=Z (M6.o.below hq);have Un:=Z (XL.o.below hq);clear XL hq aj r11 Qc M6;refine Yn Dd [[],[],[1],[0,2,2],[3,3,0,1,2,3]] [.poly s,.poly g,.poly (Jb g),.poly (JS s (Jb g)),.eq undef] [4] (λb _ V=>DI w V [some (w.heap.size,.poly q),some (Q,.poly c),some (B9,.poly g),some (B10,if b.getD 0 false then .poly (JS s (Jb g))else .poly s)]/\E9 w.heap.size V (C S ll U) L) ⟨M7.o.drew,Un.o.drew⟩ (SR (.vl rfl λ_ j=>Ez 3 j.1)<|SR (.vl rfl λ_ j=>Ez 2 j.1)<|SR (.cl λh _=>Uy.o g s HO.o _ _ (h.g 1))<|SR (.cl λh _=>Uz.o g s HO.o _ _ _ (h.g 0) (h.g 2))<|SR (.wr rfl λh j=>E0 3 j.1 (h.g 3) (hT:=λn m=>⟨m,j.2.set1 n rfl _⟩)) Stp.end_)
     λf fh hF l=>?_
    obtain⟨l,I⟩:=l;replace I:=Z I;refine DO ?_;have l:=Dn l;have M8:=Z l;clear l hF;clear M7;have Ui:=I;clear I Un;obtain⟨P,hP⟩:=ex (Ju g (JS s (Jb g)));obtain⟨Qo,Qm,Qd,Qf⟩:=Do hP (Wd.o g s HO.o) (Uu.o g s HO.o) (Wg.o g s HO.o);rw[hP]at Qm Qd Qf;clear hP;obtain⟨gi,ia,gr,dz,ei⟩:=M8.o.poly2 (i:=2) rfl;have Qu:=dz.cell;obtain⟨gj,ib,gu,ed,f9⟩:=M8.o.poly2 (i:=3) rfl;have Ub:=ed.cell;have G:=Z (Qm.o fh _ _ ei f9);go_upto_region 12 with(go_at_call 29;refine G.o.mono ?_;rintro e w3 ⟨u3,rfl,cj,hq⟩;obtain⟨an,ck,ap,rfl⟩:=Jd.form cj)
    have Uk:=Z ((Ui.o.below hq).alloc (.cells #[C an ck ap] 25));clear Ui dz ei Qu ed f9 Ub;have Qq:=Uk;clear Uk;obtain⟨fi,R⟩:=ex (w3.alloc (.cells #[C an ck ap] 25));obtain⟨cn,bf⟩:=ex (w3.heap.size);have l:DI w (w3.alloc (.cells #[C an ck ap] 25)) [some (w.heap.size,.poly q),some (Q,.poly c),some (B9,.poly g),some (B10,.poly (JS s (Jb g))),some (w3.heap.size,.poly P)]:=DI.push (M8.o.below hq) (.poly P) cj;rw[R,bf]at l;rw[R]at Qq;rw[R];rw[bf];have M9:=Z (l);clear M8;clear l R bf cj hq;obtain⟨gn,ic,gv,ae,am⟩:=M9.o.poly2 (i:=4) rfl;have Qb:=ae.cell;have G:=Z (Ud.o fi _ P am);obtain⟨d2,bm⟩:=ex ((P.length:Int)-1:Int);rw[bm]at G;have Uj:=Z bm;clear bm;by_cases df:1<P.length
    . have Uw:(0:Int)<d2:=by have:=Uj.o;omega
      have Qh:=Z (show yL w0 y0 (k+1)=L++[(P,T)]by rw[yL,A.o.2.2.1];unfold yP;rw[A.o.1,A.o.2.1,Qo.o,BH df,Qg.o]);go_upto_region 13 with(go_at_call 26;refine G.o.mono ?_;rintro e w4 ⟨rfl,hq⟩;clear Qb;have Qb:=(boxed_below ae hq).cell)
      have X4:=Qq.o.below hq;have W:=M9.o.below hq;have r4:=am.below hq;have Uh:=W.2.2.size;obtain⟨v',w',bg,X5,di,dh,fx⟩:=nR true w.heap.size w4 (C S ll U) L X4 (t:=T) r4.row (by have:=A.o.2.2.2;omega) Uh;obtain⟨ya,yc,dt,_,_⟩:=X5.form;rw[Aw,show([(P,T)]:List (List Rat × Nat)).length=1 from rfl]at dt;subst dt;have M5:=W.farP di (dh _ w (Aa _) W.2.2) (λi B d e=>by rcases i with _|_|_|_|_|i<;>simp at e<;>(obtain⟨rfl,rfl⟩:=e;show 25≠98;decide));have e4:=(boxed_below ae hq).cell;clear X4 r4 Uh di dh fx hq W ae am Qb;rw[show Hm true=95 from rfl,show D9 true=98 from rfl]at bg;go_upto_region 14 with(first
       |(at_builtin;refine Lib.wpList_append_run _ rfl _ _ 95 95 rfl _ _ rfl rfl _ _ bg ?_;clear bg))
      clear e4 M9;have Qk:=Z (M5);clear M5;have Um:Hid (E9 w.heap.size w' (C ya (L.length+1) yc) (L++[(P,T)])):=Z X5;clear X5;rw[Qi.o]at Um;refine Yn Dd [[],[],[0,1],[],[],[3,4,2],[2,5,0,1,2],[5,6,0,1,2,3,4,5,6]] [.poly g,.poly P,.poly (Dp g P),.poly (JS s (Jb g)),.poly P,.poly (Dp (JS s (Jb g)) P),.eq undef,.eq undef] [6,7] (λb _ V=>DI w V [some (w.heap.size,.poly q),some (Q,.poly c),some (B9,if b.getD 0 false then .poly (Dp g P)else .poly g),some (B10,if b.getD 1 false then .poly (Dp (JS s (Jb g)) P)else .poly (JS s (Jb g))),some (cn,.poly P)]/\E9 w.heap.size V (C ya (ll+1) yc) (L++[(P,T)])) ⟨Qk.o.drew,Um.o.drew⟩ (SR (.vl rfl λ_ j=>Ez 2 j.1)<|SR (.vl rfl λ_ j=>Ez 4 j.1)<|SR (.cl λh _=>Qd.o _ _ _ (h.g 0) (h.g 1))<|SR (.vl rfl λ_ j=>Ez 3 j.1)<|SR (.vl rfl λ_ j=>Ez 4 j.1)<|SR (.cl λh _=>Qf.o _ _ _ (h.g 3) (h.g 4))<|SR (.wr rfl λh j=>E0 2 j.1 (h.g 2) (hT:=λn m=>⟨m,j.2.set1 n rfl _⟩))<|SR (.wr rfl λh j=>E0 3 j.1 (h.g 5) (hT:=λn m=>⟨m,j.2.set1 n rfl _⟩)) Stp.end_)
       λf fm hF l=>?_
      obtain⟨l,I⟩:=l;replace I:=Z I;refine DO ?_;have l:=Dn l;have Ql:=Z l;clear l hF;generalize f 0=ie,f 1=ig,f 2=ii,f 3=ij,f 4=il,f 5=io;clear Qk;have Qp:Hid (DI w fm [some (w.heap.size,.poly q),some (Q,.poly c),some (B9,.poly (Dp g P)),some (B10,.poly (Dp (JS s (Jb g)) P))]):=Z (Ql.o.take 4);have Qj:=Z (show(DS w0 y0 (k+1)).1=Dp g P/\(DS w0 y0 (k+1)).2=Dp (JS s (Jb g)) P by rw[DS];unfold LK;rw[A.o.1,A.o.2.1,Qo.o];exact⟨rfl,rfl⟩);have Uv:T+1<=9223372036854775807:=by have:=Qg.o;omega
      clear Ql;go_wp2_with fail
      go_roundw
      case rel=>exact⟨k+1,ya,yc,O,by rw[Qh.o,Aw,Qi.o];rfl,by rw[Qg.o];go_num,by rw[Qh.o,Aw,Qi.o];exact I,by rw[Qj.o.1,Qj.o.2];exact Qp⟩
      case measure=>simp[intOf];have:=Qg.o;omega
    . have Uw:¬(0:Int)<d2:=by have:=Uj.o;omega
      have Qh:=Z (show yL w0 y0 (k+1)=L by rw[yL,A.o.2.2.1];unfold yP;rw[A.o.1,A.o.2.1,Qo.o,BG df,CC]);go_upto_region 14 with(go_at_call 26;refine G.o.mono ?_;rintro e w4 ⟨rfl,hq⟩;clear Qb;have Qb:=(boxed_below ae hq).cell)
      have Ut:=Z (Qq.o.below hq);have Qk:=Z (M9.o.below hq);clear M9;clear hq ae am Qb;refine Yn Dd [[],[],[0,1],[],[],[3,4,2],[2,5,0,1,2],[5,6,0,1,2,3,4,5,6]] [.poly g,.poly P,.poly (Dp g P),.poly (JS s (Jb g)),.poly P,.poly (Dp (JS s (Jb g)) P),.eq undef,.eq undef] [6,7] (λb _ V=>DI w V [some (w.heap.size,.poly q),some (Q,.poly c),some (B9,if b.getD 0 false then .poly (Dp g P)else .poly g),some (B10,if b.getD 1 false then .poly (Dp (JS s (Jb g)) P)else .poly (JS s (Jb g))),some (cn,.poly P)]/\E9 w.heap.size V (C S ll U) L) ⟨Qk.o.drew,Ut.o.drew⟩ (SR (.vl rfl λ_ j=>Ez 2 j.1)<|SR (.vl rfl λ_ j=>Ez 4 j.1)<|SR (.cl λh _=>Qd.o _ _ _ (h.g 0) (h.g 1))<|SR (.vl rfl λ_ j=>Ez 3 j.1)<|SR (.vl rfl λ_ j=>Ez 4 j.1)<|SR (.cl λh _=>Qf.o _ _ _ (h.g 3) (h.g 4))<|SR (.wr rfl λh j=>E0 2 j.1 (h.g 2) (hT:=λn m=>⟨m,j.2.set1 n rfl _⟩))<|SR (.wr rfl λh j=>E0 3 j.1 (h.g 5) (hT:=λn m=>⟨m,j.2.set1 n rfl _⟩)) Stp.end_)
       λf fo hF l=>?_
      obtain⟨l,I⟩:=l;replace I:=Z I;refine DO ?_;have l:=Dn l;have Ql:=Z l;clear l hF;clear Qk;have Qp:Hid (DI w fo [some (w.heap.size,.poly q),some (Q,.poly c),some (B9,.poly (Dp g P)),some (B10,.poly (Dp (JS s (Jb g)) P))]):=Z (Ql.o.take 4);have Qj:=Z (show(DS w0 y0 (k+1)).1=Dp g P/\(DS w0 y0 (k+1)).2=Dp (JS s (Jb g)) P by rw[DS];unfold LK;rw[A.o.1,A.o.2.1,Qo.o];exact⟨rfl,rfl⟩);have Uv:T+1<=9223372036854775807:=by have:=Qg.o;omega
      clear Ql;go_wp2_with fail
      go_roundw
      case rel=>exact⟨k+1,S,U,O,by rw[Qh.o,Qi.o],by rw[Qg.o];go_num,by rw[Qh.o,Qi.o];exact I,by rw[Qj.o.1,Qj.o.2];exact Qp⟩
      case measure=>simp[intOf];have:=Qg.o;omega
  . obtain rfl:k=N:=O
    have Us:¬(0:Int)<d1:=by have h1:=Wc.o;rw[A.o.1]at h1;have:=Uo.o;omega
    go_wp2_with(go_at_call 26;refine G.o.mono ?_;rintro e w1 ⟨rfl,hq⟩;clear Qc;have Qc:=(boxed_below aj hq).cell)
    have HF:=Z (show EF true w.heap.size w1 (C S ll U) (yL w0 y0 k)/\Bl w w1 by rw[A.o.2.2.1];exact⟨XL.o.below hq,(M6.o.below hq).2.2⟩);go_ret;exact⟨_,rfl,HF.o⟩
end M3
end
section
variable{P g:List Rat}{K M l n:Nat}
theorem nT:∀D:Nat,1<D->∃l,1<l/\l∣D/\∀a:Nat,¬l∣a->Nat.gcd l a=1:=by
 intro D;induction D using Nat.strongRecOn with
 |ind D g=>
  intro hD;by_cases h:∀d,d∣D->d=1\/d=D
  . refine⟨D,hD,Nat.dvd_refl _,λa n=>?_⟩;grind[C8,CO]
  . obtain⟨d,f⟩:=Classical.not_forall.1 h;obtain⟨b,c⟩:=Classical.not_imp.1 f;have j:d≠1/\d≠D:=⟨λe=>c (Or.inl e),λe=>c (Or.inr e)⟩;have k:d<=D:=Nat.le_of_dvd O b;have m:d≠0:=λe=>by subst e;omega
    obtain⟨l,l1,l2,i⟩:=g d O O;exact⟨l,l1,Nat.dvd_trans l2 b,i⟩
theorem Q6{P:Nat->Prop}(h:∃a,P a):∃a,P a/\∀i,i<a->¬P i:=by
 obtain⟨a,b⟩:=h;induction a using Nat.strongRecOn with
 |ind a c=>
  grind
theorem nU{l:Int}{f:Nat->Int}{a:Nat}:∀n,a<n->(∀i,i<n->i≠a->l∣f i)->l∣Y1 n f->l∣f a:=by
 have c:∀n,(∀i,i<n->l∣f i)->l∣Y1 n f:=λn=>by
  induction n with
  |zero=>exact λ_=>Int.dvd_zero _
  |succ n b=>exact λh=>by rw[Y1];grind[Int.dvd_add]
 intro n;induction n with
 |zero=>intro h;omega
 |succ n b=>
  intro k h hs;rw[Y1]at hs;by_cases e:a=n
  . subst e;have g:=c a λi hi=>h i O O;have j:=Int.dvd_sub hs g;grind
  . refine b O (λi hi=>h i O) ?_;have j:=Int.dvd_sub hs (h n O λd=>e d.symm);grind
theorem nV(hl:∀a:Nat,¬l∣a->Nat.gcd l a=1){r s:Nat->Int}(p:∀i,n<=i->r i=0)(h:∀k,(l:Int)∣Y1 n λi=>if i<=k then r i*s (k-i)else 0)(e:∃a,¬(l:Int)∣r a)(hs:∃b,¬(l:Int)∣s b):False:=by
 obtain⟨a,f,g⟩:=Q6 e;obtain⟨b,j,m⟩:=Q6 hs;have d:a<n:=by
  by_cases c:a<n
  . exact c
  . grind[Int.dvd_zero]
 have c:=nU n d (λi hi o=>by
  grind[Int.dvd_trans,Int.dvd_mul_right,Int.dvd_mul_left,Int.dvd_zero]) (h (a+b))
 grind[dvd_one,Ar,CB]
theorem nW{p:List Rat}{L G:Int}(H:∀i,((cf p i).den:Int)∣L)(I:∀u:Int,(∀i,((cf p i).den:Int)∣u)->L∣u)(B:∀i,G∣(cf p i).num)(D:∀v:Int,(∀i,v∣(cf p i).num)->v∣G)(A:G≠0){c:Rat}(M:∀i,∃z:Int,cf p i*c=(z:Rat)):
 ∃t:Int,∀i,∃r:Int,cf p i*((L:Rat)/(G:Rat))=(r:Rat)/\cf p i*c=((r*t:Int):Rat):=by
 have o:(c.den:Int)≠0:=by have:=c.den_nz;omega
 have g:∀i,∃z:Int,cf p i*c=(z:Rat)/\(cf p i).num*c.num=z*((cf p i).den*c.den):=λi=>by
  obtain⟨z,a⟩:=M i;refine⟨z,a,?_⟩;have s:c*(c.den:Rat)=(c.num:Rat):=Hl c;have j:cf p i*((cf p i).den:Rat)=((cf p i).num:Rat):=Hl _;have w:(((cf p i).num*c.num:Int):Rat)=((z*(((cf p i).den:Int)*(c.den:Int)):Int):Rat):=by
   rw[As,As,As,AE,AE,<-s,<-j,<-a];grind
  exact Rat.intCast_inj.1 w
 have k:L∣c.num:=I _ λi=>by
  obtain⟨z,_,e⟩:=g i;have b:((cf p i).den:Int)∣(cf p i).num*c.num:=⟨z*c.den,DG⟩;rw[Int.mul_comm]at b;refine dvd_one b ?_;rw[Ar,CN];exact(cf p i).reduced
 have hv:(c.den:Int)∣G:=D _ λi=>by
  obtain⟨z,_,e⟩:=g i;have b:(c.den:Int)∣(cf p i).num*c.num:=⟨z*(cf p i).den,DG⟩;refine dvd_one b ?_;rw[Ar,CN];exact c.reduced
 obtain⟨u,k⟩:=k;obtain⟨v,hv⟩:=hv;refine⟨u*v,λi=>?_⟩;obtain⟨e,l⟩:=H i;obtain⟨m,n⟩:=B i;obtain⟨z,x,a⟩:=g i;have K:((cf p i).den:Int)≠0:=by have:=(cf p i).den_nz;omega
 have q:z=m*e*(u*v):=by
  have y:z*(((cf p i).den:Int)*c.den)=m*e*(u*v)*(((cf p i).den:Int)*c.den):=by
   rw[<-a,n,k,hv,l];generalize ((cf p i).den:Int)=d;generalize (c.den:Int)=f;grind
  exact Int.eq_of_mul_eq_mul_right (Cs K o) y
 refine⟨m*e,?_,by rw[x,q]⟩;have N:(G:Rat)≠0:=by exact_mod_cast A
 have j:cf p i*((cf p i).den:Rat)=((cf p i).num:Rat):=Hl _;rw[n,As]at j;have P:(L:Rat)=((cf p i).den:Rat)*(e:Rat):=by rw[l,As,AE]
 grind
theorem WI{p:List Rat}(hp:Jc p=p)(b:p≠[]){c:Rat}(f:∀i,∃z:Int,cf p i*c=(z:Rat)):∃t:Int,∀i,∃r:Int,cf (Jo p) i=(r:Rat)/\cf p i*c=((r*t:Int):Rat):=by
 have a:∀i,p.length<=i->cf p i=0:=λi hi=>Ym hi;obtain⟨t,d⟩:=nW (p:=p) (L:=(XI p p.length:Int)) (G:=(Xv p p.length:Int)) (λi=>by
  by_cases hi:i<p.length
  . grind[Int.natCast_dvd_natCast,QQ]
  . rw[a i O];exact Int.one_dvd _) (λu e=>CB.2 (QR p _ (λi=>CB.1 (e i)) _)) (λi=>by
  by_cases hi:i<p.length
  . exact CB.2 (QS p _ i hi)
  . rw[a i O];exact Int.dvd_zero _) (λv hv=>by
  have:v.natAbs∣Xv p p.length:=Vq p _ (λi=>Cv.2 (hv i)) _
  grind[Int.natAbs_dvd,Int.natCast_dvd_natCast]) (by have:=MO hp b;omega) f
 refine⟨t,λi=>?_⟩;obtain⟨r,g,j⟩:=d i;grind[Jo,Ys,AE]
theorem WJ{p:List Rat}(hp:Jc p=p)(k:p≠[]){r:Nat->Int}(m:∀i,cf (Jo p) i=(r i:Rat))(hl:1<l):∃i,¬(l:Int)∣r i:=by
 by_cases h:∃i,¬(l:Int)∣r i
 . exact h
 . exfalso
   have n:∀i,(l:Int)∣r i:=λi=>Classical.not_not.1 λa=>h ⟨i,a⟩;have g:(l:Rat)≠0:=by exact_mod_cast (show l≠0 by omega)
   obtain⟨c,G,e⟩:=Xz hp;have H:c≠0:=λj=>by grind
   have b:∀i,cf p i*c=(r i:Rat):=λi=>by rw[<-Ys,<-e,m]
   obtain⟨t,y⟩:=WI hp k (c:=c/(l:Rat)) (λi=>by
    obtain⟨q,hq⟩:=n i;refine⟨q,?_⟩;have a:c/(l:Rat)*(l:Rat)=c:=Aj g;have d:=b i;rw[hq,As,AE]at d;grind)
   obtain⟨z,a,d⟩:=y (p.length-1);have I:=Jq hp k;have s:z=r (p.length-1):=Rat.intCast_inj.1 (by rw[<-a,m]);have o:r (p.length-1)≠0:=λj=>by
    have f:=b (p.length-1);rw[j]at f;grind
   have f:=b (p.length-1);have B:c/(l:Rat)*(l:Rat)=c:=Aj g;have u:((r (p.length-1):Int):Rat)=(((r (p.length-1))*(t*(l:Int)):Int):Rat):=by
    rw[<-f,As,As,AE];rw[s,As]at d;grind
   have v:=Rat.intCast_inj.1 u;have D:t*(l:Int)=1:=by
    have w:r (p.length-1)*1=r (p.length-1)*(t*(l:Int)):=by rw[FK];exact v
    exact(Int.eq_of_mul_eq_mul_left o w).symm
   have x:(l:Int)∣1:=⟨t,DG⟩;have A:=Int.le_of_dvd DJ x;omega
theorem Q7{p:List Rat}(hp:Jc p=p)(b:p≠[]):∀i,∃r:Int,cf (Jo p) i=(r:Rat):=by
 obtain⟨t,j⟩:=WI hp b (c:=(XI p p.length:Rat)) (λi=>by
  have f:(cf p i).den∣XI p p.length:=by
   by_cases hi:i<p.length
   . exact QQ p _ i hi
   . rw[Ym O];exact Nat.one_dvd _
  obtain⟨e,g⟩:=f;refine⟨(cf p i).num*(e:Int),?_⟩;have a:cf p i*((cf p i).den:Rat)=((cf p i).num:Rat):=Hl _;rw[g,As,<-a,AE,Rat.natCast_mul];grind)
 intro i;obtain⟨r,d,_⟩:=j i;exact⟨r,d⟩
theorem nX(L:Jc P=P)(j:P≠[])(Q:∀i,∃z:Int,cf P i=(z:Rat))(hg:Jc g=g)(h:Dv g P):
 ∃H:List Rat,Jc H=H/\P=Jj (Jo g) H/\∀i,∃z:Int,cf H i=(z:Rat):=by
 have g0:g≠[]:=λe=>j (by
  obtain⟨c,M⟩:=h;grind[XA,ev])
 obtain⟨B,T,G⟩:=Xz hg;have u:B≠0:=λD=>by grind
 have N:Dv (Jo g) P:=by rw[G];exact h.of_sc u
 obtain⟨H,d,eP⟩:=N.some L;have f:H≠[]:=λe=>j (by rw[eP,e];exact YH _);refine⟨H,d,eP,?_⟩;obtain⟨c,M,m⟩:=Xz d;have y:c≠0:=λD=>by grind
 obtain⟨r,p⟩:=Classical.axiomOfChoice (Q7 hg g0);obtain⟨s,hs⟩:=Classical.axiomOfChoice (Q7 d f);obtain⟨z,R⟩:=Classical.axiomOfChoice Q;have q:DM c P=Jj (Jo g) (Jo H):=by
  refine Xb (JG _ _) (JA _ _) λx=>?_;have a:ev P x=ev (Jo g) x*ev H x:=by rw[<-Je,<-eP]
  rw[Jp,Je,m,Jp,a];grind
 have w:∀k,(z k:Rat)*c=((Y1 (Jo g).length (λi=>if i<=k then r i*s (k-i)else 0):Int):Rat):=λk=>by
  rw[<-R k,<-Ys,q,N0 _ _ (Aa _)];refine QO λi _=>?_;split
  . grind
  . rfl
 have A:c*(c.den:Rat)=(c.num:Rat):=Hl c;have U:(c.den:Int)≠0:=by have:=c.den_nz;omega
 have t:∀k,z k*c.num=(c.den:Int)*Y1 (Jo g).length (λi=>if i<=k then r i*s (k-i)else 0):=λk=>by
  have a:((z k*c.num:Int):Rat)=(((c.den:Int)*Y1 (Jo g).length (λi=>if i<=k then r i*s (k-i)else 0):Int):Rat):=by
   rw[As,As,<-w k,AE,<-A];grind
  exact Rat.intCast_inj.1 a
 have v:c.num≠0:=λe=>y (Fq.1 e);have V:c.num.natAbs=1:=by
  by_cases a:c.num.natAbs=1
  . exact a
  . exfalso
    have I:c.num.natAbs≠0:=Int.natAbs_ne_zero.2 v;obtain⟨l,l1,l2,S⟩:=nT c.num.natAbs O;refine nV S (r:=r) (s:=s) (n:=(Jo g).length) (λi hi=>?_) (λk=>?_) (WJ hg g0 p l1) (WJ d f hs l1)
    . have b:=p i;rw[Ym hi]at b;exact(Rat.intCast_inj.1 (show((0:Int):Rat)=_ from b)).symm
    . have b:(l:Int)∣(c.den:Int)*Y1 (Jo g).length (λi=>if i<=k then r i*s (k-i)else 0):=by
       rw[<-t k];exact Int.dvd_trans (CB.2 l2) (Int.dvd_mul_left _ _)
      rw[Int.mul_comm]at b;refine dvd_one b ?_;rw[Ar,Ar];have o:Nat.gcd l c.den∣Nat.gcd c.num.natAbs c.den:=Nat.dvd_gcd (Nat.dvd_trans (C8 _ _) l2) (CO _ _);have K:Nat.gcd c.num.natAbs c.den=1:=c.reduced;rw[K]at o;exact Nat.dvd_one.1 o
 intro i;refine⟨s i*(c.den:Int)*c.num,?_⟩;have a:cf H i*c=(s i:Rat):=by rw[<-hs,m,Ys]
 have I:(c.num:Rat)*(c.num:Rat)=1:=by
  rw[<-As];have b:c.num*c.num=1:=by
   grind
  rw[b];rfl
 rw[As,As,AE,<-a];grind
def Du:List Int->Int->Int
 |[],_=>0
 |c::t,x=>c+x*Du t x
def cz(g:List Int)(i:Nat):Int:=g[i]?.getD 0
def WK(i:Nat):cz [] i=0:=rfl
def OD(c:Int)(t:List Int):cz (c::t) 0=c:=rfl
def MY(c:Int)(t:List Int)(i:Nat):cz (c::t) (i+1)=cz t i:=rfl
theorem Q8{g:List Int}{i:Nat}(h:g.length<=i):cz g i=0:=by unfold cz;grind
def YP:List Int->Int->List Int × Int
 |[],_=>([],0)
 |c::t,k=>((YP t k).2::(YP t k).1,c+k*(YP t k).2)
theorem Q9(k x:Int):∀g:List Int,Du g x=(x-k)*Du (YP g k).1 x+(YP g k).2:=by
 intro g;induction g with
 |nil=>simp[Du,YP]
 |cons c t a=>rw[Du,YP,a];simp only[Du];grind
theorem WL(k:Int)(g:List Int):(YP g k).2=Du g k:=by
 grind[Q9]
def RA(k:Int):∀(g:List Int),cz g 0=(YP g k).2-k*cz (YP g k).1 0/\∀i,cz g (i+1)=cz (YP g k).1 i-k*cz (YP g k).1 (i+1):=by
 intro g;induction g with
 |nil=>exact⟨by simp[WK,YP],λi=>by simp[WK,YP]⟩
 |cons c t a=>
  rw[YP];refine⟨by rw[OD,OD];omega,λi=>?_⟩;cases i with
  |zero=>rw[MY,OD,MY];exact a.1
  |succ i=>rw[MY,MY,MY];exact a.2 i
theorem WM(k:Int)(g:List Int){m:Nat}(h:∀i,m+1<=i->cz g i=0):∀i,m<=i->cz (YP g k).1 i=0:=by
 have a:∀d i,m<=i->(YP g k).1.length<=i+d->cz (YP g k).1 i=0:=λd=>by
  induction d with
  |zero=>intro i _ b;exact Q8 O
  |succ d c=>
   intro i hi b;have e:=c (i+1) O O;have f:=(RA k g).2 i;grind
 intro i hi;exact a (YP g k).1.length i hi O
theorem nY:∀(m:Nat) (g:List Int),(∀i,m<=i->cz g i=0)->(∃i,cz g i≠0)->∀b:List Int,b.Nodup->(∀k∈b,Du g k=0)->b.length<m:=by
 intro m;induction m with
 |zero=>intro g h ⟨i,hi⟩;grind
 |succ m f=>
  intro g h ⟨e,o⟩ b hn hk;cases b with
  |nil=>simp
  |cons a b=>
   rw[List.nodup_cons]at hn;have q:(YP g a).2=0:=by rw[WL];exact hk a DH
   have hq:∃i,cz (YP g a).1 i≠0:=by
    by_cases c:∃i,cz (YP g a).1 i≠0
    . exact c
    . exfalso
      have j:∀i,cz (YP g a).1 i=0:=λi=>Classical.not_not.1 λd=>c ⟨i,d⟩;have l:=RA a g;cases e with
      |zero=>grind
      |succ i=>grind
   have n:=f (YP g a).1 (WM a g h) hq b hn.2 (λk p=>by
    grind[Q9,Int.mul_eq_zero])
   grind
theorem nZ(B:Nat):∀(m:Nat) (g:List Int) (M:Nat),(∀i,m<=i->cz g i=0)->∀b:List Int,b.Nodup->b.length=m->(∀k∈b,(Du g k).natAbs<=M/\k.natAbs<=B)->∀i,(cz g i).natAbs<=M*(2*B+3)^m:=by
 intro m;induction m with
 |zero=>intro g M h b _ _ _ i;rw[h i O];simp
 |succ m s=>
  intro g M h b hn hl hk i;cases b with
  |nil=>simp at hl
  |cons a b=>
   rw[List.nodup_cons]at hn;obtain⟨l,n⟩:=hk a DH;have z:((YP g a).2).natAbs<=M:=by rw[WL];exact l
   have hq:=s (YP g a).1 (2*M) (WM a g h) b hn.2 (by simpa using hl) (λk r=>by
    obtain⟨j,c⟩:=hk k (by simp[r]);refine⟨?_,c⟩;have v:=Q9 a k g;have o:(k-a)*Du (YP g a).1 k=Du g k-(YP g a).2:=O
    have p:(k-a).natAbs*(Du (YP g a).1 k).natAbs<=2*M:=by
     rw[<-Cq,o];omega
    have q:0<(k-a).natAbs:=Int.natAbs_pos.2 λe=>hn.1 (by rwa[show a=k by omega]);exact Ac (Cc _ q) p)
   obtain⟨X,hX⟩:∃X,2*M*(2*B+3)^m=X:=⟨_,rfl⟩;rw[hX]at hq;have w:2*M<=X:=by rw[<-hX];exact AV _ (Cw O)
   have x:X+B*X<=M*(2*B+3)^(m+1):=by
    have e:M*(2*B+3)^(m+1)*2=X*(2*B+3):=by rw[<-hX,Cg];grind
    have t:X*(2*B+3)=2*(B*X)+3*X:=DG
    omega
   have d:∀y:Int,(a*y).natAbs<=B*y.natAbs:=λy=>by rw[Cq];exact Ad _ n
   have f:=RA a g;cases i with
   |zero=>
    rw[f.1];have j:=d (cz (YP g a).1 0);have c:B*(cz (YP g a).1 0).natAbs<=B*X:=Ah _ (hq 0);omega
   |succ i=>
    rw[f.2];have j:=d (cz (YP g a).1 (i+1));have c:B*(cz (YP g a).1 (i+1)).natAbs<=B*X:=Ah _ (hq (i+1));have u:=hq i;omega
theorem nd{B:Nat}:∀(g:List Int) (k:Int),(∀i,(cz g i).natAbs<=M)->k.natAbs<=B->(Du g k).natAbs<=M*(B+1)^g.length:=by
 intro g;induction g with
 |nil=>intro k _ _;simp[Du]
 |cons c t j=>
  intro k h hk;have b:=j k (λi=>h (i+1)) hk;have f:=h 0;rw[OD]at f;rw[Du,Ai,Cg];obtain⟨a,d⟩:=ex ((B+1)^t.length);rw[d]at b ⊢;have e:1<=a:=by rw[<-d];exact Cw O
  have l:(k*Du t k).natAbs<=B*(M*a):=by rw[Cq];exact Cp hk b
  have m:M<=M*a:=AV _ e;grind[]
def MZ(g:List Int):List Rat:=g.map (λz:Int=>(z:Rat))
def RB(g:List Int)(i:Nat):cf (MZ g) i=(cz g i:Rat):=by
 unfold cf MZ cz;rw[Fg];cases g[i]? with
 |none=>rfl
 |some z=>rfl
def RC(k:Int):∀g:List Int,ev (MZ g) (k:Rat)=(Du g k:Rat):=by
 intro g;induction g with
 |nil=>rfl
 |cons c t a=>
  show(c:Rat)+(k:Rat)*ev (MZ t) (k:Rat)=_;rw[a,Du,Fe,As]
def RD{p:List Rat}(h:∀i,∃z:Int,cf p i=(z:Rat)):∃g:List Int,p=MZ g/\g.length=p.length:=by
 induction p with
 |nil=>exact⟨[],rfl,rfl⟩
 |cons c t e=>
  obtain⟨g,b,d⟩:=e (λi=>by have:=h (i+1);rwa[Yl]at this);obtain⟨z,a⟩:=h 0;rw[Y9]at a;exact⟨z::g,by rw[a,b];rfl,by simp[d]⟩
theorem nodup_range(n:Nat):((List.range n).map (λi:Nat=>(i:Int))).Nodup:=by
 grind[List.nodup_range]
theorem nf(t:Jc P=P)(d:P≠[])(hl:P.length<=n+1)(m:∀i,∃z:Int,z.natAbs<=M/\cf P i=(z:Rat))(hg:Jc g=g)(h:Dv g P):
 ∀i,∃z:Int,z.natAbs<=M*(2*n+1)^(n+1)*(2*(2*n)+3)^(n+1)/\cf (Jo g) i=(z:Rat):=by
 obtain⟨H,G,eP,I⟩:=nX t d (λi=>by obtain⟨z,_,c⟩:=m i;exact⟨z,c⟩) hg h;have g0:g≠[]:=λe=>d (by rw[eP,e];rfl);have o:H≠[]:=λe=>d (by rw[eP,e];exact YH _);obtain⟨a,j,lp⟩:=RD (p:=P) (λi=>by obtain⟨z,_,c⟩:=m i;exact⟨z,c⟩);obtain⟨f,s,lg⟩:=RD (Q7 hg g0);obtain⟨K,D,lh⟩:=RD I;have W:(Jo g).length<=n+1:=by
  have b:=JF (J4 g) G (λe=>d (by rw[eP,e];rfl)) o;rw[<-eP]at b;have c:0<H.length:=Ae.2 o;omega
 have A:∀i,(cz a i).natAbs<=M:=λi=>by
  obtain⟨z,b,c⟩:=m i;rw[j,RB]at c;rwa[Rat.intCast_inj.1 c]
 have q:∀k:Int,Du a k=Du f k*Du K k:=λk=>by
  have b:ev P (k:Rat)=ev (Jo g) (k:Rat)*ev H (k:Rat):=by rw[<-Je,<-eP]
  rw[j,s,D,RC,RC,RC,<-As]at b;exact Rat.intCast_inj.1 b
 obtain⟨R,u⟩:=ex ((List.range (2*n+1)).map (λi:Nat=>(i:Int)));have r:R.Nodup:=by rw[<-u];exact nodup_range _
 have U:R.length=2*n+1:=by rw[<-u];simp
 have T:∀k∈R,k.natAbs<=2*n:=λk hk=>by
  grind
 have V:(R.filter λk=>Du a k==0).length<n+1:=by
  refine nY (n+1) a (λi hi=>Q8 O) ?_ _ (r.filter _) (λk hk=>by
   grind)
  refine⟨P.length-1,λe=>Jq t d ?_⟩;have b:=RB a (P.length-1);rw[<-j,e]at b;exact b
 have X:(R.filter λk=>Du a k==0).length+(R.filter λk=>!(Du a k==0)).length=R.length:=by
  rw[<-List.countP_eq_length_filter,<-List.countP_eq_length_filter];have b:=List.length_eq_countP_add_countP (l:=R) λk=>Du a k==0;have c:List.countP (λk=>!(Du a k==0)) R=List.countP (λk=>decide ¬((Du a k==0)=true)) R:=by congr 1;funext k;cases(Du a k==0)<;>rfl
  omega
 obtain⟨S,v⟩:=ex ((R.filter λk=>!(Du a k==0)).take (n+1));have x:S.length=n+1:=by rw[<-v,Aq];omega
 have y:S.Nodup:=by rw[<-v];exact List.Sublist.nodup (List.take_sublist _ _) (r.filter _)
 have B:∀k∈S,Du a k≠0/\k.natAbs<=2*n:=λk hk=>by
  grind
 have w:=nZ (2*n) (n+1) f (M*(2*n+1)^(n+1)) (λi hi=>Q8 O) S y x (λk hk=>by
  obtain⟨b,c⟩:=B k hk;refine⟨?_,c⟩;have L:=nd a k A c;have N:M*(2*n+1)^a.length<=M*(2*n+1)^(n+1):=Ah _ (An O O);have Q:(Du f k).natAbs<=(Du a k).natAbs:=by
   rw[q k,Cq];refine AV _ (Int.natAbs_pos.2 λe=>b ?_);rw[q k,e,FQ]
  omega)
 intro i;exact⟨cz f i,w i,by rw[s,RB]⟩
theorem Ln.mul{N:Nat}{p q:List Rat}(hp:Ln K p)(hq:Ln N q)(hl:p.length<=1000000000):Ln (K+N+1) (Jj p q):=by
 obtain⟨c,l,e⟩:=hp;obtain⟨d,m,b⟩:=hq;obtain⟨z,e⟩:=Classical.axiomOfChoice e;obtain⟨y,b⟩:=Classical.axiomOfChoice b;refine⟨c*d,Xy l m,λk=>⟨Y1 p.length λi=>if i<=k then z i*y (k-i)else 0,?_,?_⟩⟩
 . have a:(Y1 p.length λi=>if i<=k then z i*y (k-i)else 0).natAbs<=p.length*(Y^K*Y^N):=Nx λi _=>by
    split
    . rw[Cq];have g:=(e i).1;have j:=(b (k-i)).1;unfold Sm at g j;exact Cp O O
    . simp
   unfold Sm;rw[Cg,CI];have f:0<Y^K*Y^N:=FI (Cw Hb) (Cw Hb);refine Cx a ?_;rw[AM];exact(Nat.mul_lt_mul_left f).2 uo
 . rw[N0 p q (Aa _)];have a:∀n,Dr n (λi=>if i<=k then cf p i*cf q (k-i)else 0)*(c*d)=((Y1 n (λi=>if i<=k then z i*y (k-i)else 0):Int):Rat):=λn=>by
    induction n with
    |zero=>simp[Dr,Y1,Rat.zero_mul]
    |succ n o=>
     rw[Dr,Y1,Fe,<-o];split
     . grind
     grind
   exact a _
theorem Ln.slope{p:List Rat}(h:Ln K p)(hl:p.length<=1000000000):Ln (K+1) (Jb p):=by
 obtain⟨c,b,d⟩:=h;refine⟨c,b,λi=>?_⟩;obtain⟨z,a,e⟩:=d (i+1);rw[XE];by_cases hi:i+1<p.length
 . refine⟨z*((i+1:Nat):Int),a.mul (by unfold Sm Y;rw[Ar];omega),?_⟩;grind
 . exact⟨0,Sm.zero _,by rw[Ym O,A7,A7];rfl⟩
theorem Dv.lnN{e:Nat}(b:Jc P=P)(o:P≠[])(hl:P.length<=n+1)(D:(2*n+1)^(n+1)*(2*(2*n)+3)^(n+1)<=Y^e)(G:Ln K P)(hg:Jc g=g)(h:Dv g P):Ln (K+e) g:=by
 obtain⟨c,I,k⟩:=Xz b;have r:c≠0:=λs=>by grind
 have y:Jo P≠[]:=by rw[k];exact Hk r b o
 have A:Dv g (Jo P):=by rw[k];exact h.sc c
 have u:=LH b G;have v:=nf (n:=n) (M:=Y^K-1) (J4 P) y (by rw[JJ b];omega) (λi=>by
  obtain⟨z,l,f⟩:=u i;unfold Sm at l;exact⟨z,O,f⟩) hg A
 have w:EW (K+e) (Jo g):=λi=>by
  obtain⟨z,l,f⟩:=v i;refine⟨z,?_,f⟩;unfold Sm;have hk:0<Y^K:=Cw Hb;have p:0<Y^e:=Cw Hb;have a:(Y^K-1)*((2*n+1)^(n+1)*(2*(2*n)+3)^(n+1))<=(Y^K-1)*Y^e:=Ah _ D;rw[<-Cu]at a;have m:(Y^K-1)*Y^e<Y^K*Y^e:=(Nat.mul_lt_mul_right p).2 O;grind
 obtain⟨j,L,t⟩:=Xz hg;have q:j≠0:=λs=>by grind
 have a:=w.ln;rw[t]at a;obtain⟨d,B,H⟩:=a;refine⟨j*d,Xy q B,λi=>?_⟩;obtain⟨z,m,x⟩:=H i;exact⟨z,m,by rw[<-x,Ys];grind⟩
def OE:(2*24+1)^(24+1)*(2*(2*24)+3)^(24+1)<=Y^5:=by unfold Y;decide
def ng:(2*47+1)^(47+1)*(2*(2*47)+3)^(47+1)<=Y^11:=by unfold Y;decide
theorem Dv.len{a b:List Rat}(g:Jc a=a)(f:Jc b=b)(b0:b≠[])(h:Dv a b):a.length<=b.length/\a≠[]:=by
 obtain⟨c,i,e⟩:=h.some f;have a0:a≠[]:=λd=>b0 (by rw[e,d];rfl);grind[YH,JF,Ae]
theorem OG{a b:List Rat}(c:Jc a=a)(d:Jc b=b)(a0:a≠[])(b0:b≠[]):cf (Jj a b) ((Jj a b).length-1)=cf a (a.length-1)*cf b (b.length-1):=by
 have l:=JF c d a0 b0;have p1:0<a.length:=Ae.2 a0;have e:0<b.length:=Ae.2 b0;rw[l,show a.length+b.length-1-1=(a.length-1)+(b.length-1)by omega];grind[Jj,Yp,Ow]
def nh{R:List Rat}(c:Jc R=R)(hl:1<R.length):(Jb R).length=R.length-1/\cf (Jb R) ((Jb R).length-1)=cf R (R.length-1)*(((R.length-1:Nat):Int):Rat):=by
 have R0:R≠[]:=λe=>by rw[e]at hl;simp at hl
 have d:=YU R0;have b:cf (Jb R) (R.length-2)≠0:=by
  rw[XE,show R.length-2+1=R.length-1 by omega];exact Xy (Jq c R0) (by
   intro e
   have:((R.length-1:Nat):Int)=0:=by exact_mod_cast e
   omega)
 have f:=QN b;have a:(Jb R).length=R.length-1:=O
 refine⟨a,?_⟩;rw[a,XE,show R.length-1-1+1=R.length-1 by omega]
def OH{q:List Rat}(tq:Jc q=q)(q0:q≠[])(a:Js q=q):cf q (q.length-1)=1:=by
 have:=QP tq q0;rwa[a]at this
theorem WN{q R w y:List Rat}(tq:Jc q=q)(q0:q≠[])(lq:q.length<=25)(g:Ln K q)(tR:Jc R=R)(G:Js R=R)(tw:Jc w=w)(mw:Js w=w)(ty:Jc y=y)(f:Dv R q)(dw:Dv w q)
(A:∀x,ev y x*ev R x=ev w x*ev (Jb R) x):∃D:Int,D≠0/\Sm (2*K+24) D/\EK D (2*K+24) y:=by
 by_cases y0:y=[]
 . subst y0;exact QX O
 . obtain⟨P,R0⟩:=f.len tR tq q0;obtain⟨S,w0⟩:=dw.len tw tq q0;have b:Jj y R=Jj w (Jb R):=Xb (JA _ _) (JA _ _) λx=>by rw[Je,Je,A]
   have p0:Jj w (Jb R)≠[]:=by rw[<-b];exact Xn ty tR y0 R0
   have c:Jb R≠[]:=λe=>p0 (by rw[e];exact YH _);have v:1<R.length:=by
    have H:0<(Jb R).length:=Ae.2 c;have:=YU R0;omega
   obtain⟨Q,B⟩:=nh tR v;have t:Ln (K+5) R:=f.lnN (n:=24) tq q0 O OE g tR;have r:Ln (K+5) w:=dw.lnN (n:=24) tq q0 O OE g tw;have p:=r.mul (t.slope O) O;have N:=JF tw (Jr R) w0 c;have s:Dv y (Jj w (Jb R)):=⟨R,λx=>by rw[<-b,Je]⟩;have u:=s.lnN (n:=47) (e:=11) (JA _ _) p0 O ng p ty;have a:=OG ty tR y0 R0;have o:=OG tw (Jr R) w0 c;rw[b]at a;rw[o,B,OH tw w0 mw,OH tR R0 G]at a;have m:cf y (y.length-1)=(((R.length-1:Nat):Int):Rat):=by
    rw[CM,CM,Rat.mul_one]at a;exact a.symm
   obtain⟨E,j,k,l⟩:=QU ty y0 u;refine⟨E,j,k.mono O,λi=>?_⟩;have z:cf y i=cf (Js y) i*(((R.length-1:Nat):Int):Rat):=by
    unfold Js;rw[Ys,<-m];have I:(1/cf y (y.length-1))*cf y (y.length-1)=1:=Aj (Jq ty y0);grind
   rw[z];have L:=(l i).mul (E:=1) (M:=1) (d:=(((R.length-1:Nat):Int):Rat)) ⟨((R.length-1:Nat):Int),by rw[AA,show((1:Int):Rat)=1 from rfl];grind,by unfold Sm Y;rw[Ar];omega⟩;grind
def EP(q w y:List Rat):Nat->List Rat
 |0=>q
 |n+1=>Jm (EP q w y n) (DS w y n).1
def Ie{p q:List Rat}(h:q≠[]):Dp p q=Jm p q:=BG h
section
variable {q w y:List Rat}
def Ig(h:Yun q w y)(m:Js q=q):∀n,Yun (EP q w y n) (DS w y n).1 (DS w y n).2/\Dv (EP q w y n) q/\Js (EP q w y n)=EP q w y n/\Dv (DS w y n).1 q:=by
 intro n;induction n with
 |zero=>exact⟨h,Dv.refl _,m,h.dv⟩
 |succ n l=>
  obtain⟨a,g,i,j⟩:=l;obtain⟨_,_,o,p,_,s⟩:=a.step;have c:Ju (DS w y n).1 (JS (DS w y n).2 (Jb (DS w y n).1))≠[]:=YD a.tw (Yy _ _) (Or.inl a.w0);have e:(DS w y (n+1)).1=Jm (DS w y n).1 (Ju (DS w y n).1 (JS (DS w y n).2 (Jb (DS w y n).1))):=by rw[DS];unfold LK;exact Ie c
  have f:(DS w y (n+1)).2=Jm (JS (DS w y n).2 (Jb (DS w y n).1)) (Ju (DS w y n).1 (JS (DS w y n).2 (Jb (DS w y n).1))):=by rw[DS];unfold LK;exact Ie c
  have k:Dv (Jm (EP q w y n) (DS w y n).1) (EP q w y n):=by
   refine⟨(DS w y n).1,λx=>?_⟩;have b:=congrArg (λr=>ev r x) p;simp only[Je]at b;rw[b];exact AU _ _
  have d:Dv (Jm (DS w y n).1 (Ju (DS w y n).1 (JS (DS w y n).2 (Jb (DS w y n).1)))) (DS w y n).1:=by
   refine⟨Ju (DS w y n).1 (JS (DS w y n).2 (Jb (DS w y n).1)),λx=>?_⟩;have b:=congrArg (λr=>ev r x) s;simp only[Je]at b;exact b.trans (AU _ _)
  rw[e,f];exact⟨o,k.trans g,(MT a.tR a.R0 i a.tw a.mw a.dv).1,d.trans j⟩
theorem RE(h:Yun q w y)(b:Js q=q)(n:Nat)(hn:1<(DS w y n).1.length):(EP q w y (n+1)).length<(EP q w y n).length:=by
 obtain⟨a,_,d,_⟩:=Ig h b n;obtain⟨_,_,c,e,_,_⟩:=a.step;have l:=JF a.tw (Yx (EP q w y n) (DS w y n).1) a.w0 c.R0;grind[EP]
theorem ni(h:Yun q w y)(f:Js q=q):∃N,N<=q.length/\(DS w y N).1.length<=1/\∀n,n<N->1<(DS w y n).1.length:=by
 have d:∃N,(DS w y N).1.length<=1:=by
  by_cases b:∃N,(DS w y N).1.length<=1
  . exact b
  . exfalso
    have c:∀n,1<(DS w y n).1.length:=λn=>by
     grind
    have a:∀n,(EP q w y n).length+n<=q.length:=λn=>by
     induction n with
     |zero=>exact Aa _
     |succ n e=>have:=RE h f n (c n);omega
    have g:=a (q.length+1);omega
 obtain⟨N,i,j⟩:=Q6 d;have a:∀n,n<=N->(EP q w y n).length+n<=q.length:=λn=>by
  induction n with
  |zero=>exact λ_=>Aa _
  |succ n e=>
   intro hn;grind[RE]
 grind
end
theorem WO{M K A:Nat}(hM:M<=80000)(hK:K=2*M+24)(hA:A=(K+1)*51+1){p:List Rat}(tp:Jc p=p)(hl:1<p.length)(ai:p.length<=25)(cp:Cd M p):∃N,PtOk K A N p/\N<=25:=by
 have p0:p≠[]:=λe=>by rw[e]at hl;simp at hl
 obtain⟨q,hq⟩:=ex (Js p);have tq:Jc q=q:=by rw[<-hq];exact YB _
 have k:Js q=q:=by rw[<-hq];exact KA tp
 have lq:q.length=p.length:=by rw[<-hq];exact LG tp
 have q0:q≠[]:=λe=>by grind
 have cq:Cd M q:=by rw[<-hq];exact cp.mon tp
 have aj:=YU q0;have cs:Cd (M+1) (Jb q):=by
  obtain⟨D,d1,o,r⟩:=cq;refine⟨D,d1,o.mono O,λi=>?_⟩;rw[XE];by_cases hi:i+1<q.length
  . have c:=(r (i+1)).mul (E:=1) (M:=1) (d:=(((i+1:Nat):Int):Rat)) ⟨((i+1:Nat):Int),by rw[AA,show((1:Int):Rat)=1 from rfl];grind,by unfold Sm Y;rw[Ar];omega⟩;rwa[FK]at c
  . rw[Ym O,A7];exact CD.zero _ _
 have H:∀a b:List Rat,Jc a=a->Jc b=b->Cd K a->Cd K b->a.length<=25->b.length<=25->M3.ChOk K a b/\Da K a b<=A:=λa b ta tb ca cb la lb=>by
  have c:Da K a b<=(K+1)*(25+25+1):=Ah _ O;have s:(max a.length b.length+2)*(Da K a b+1)<=(25+2)*((K+1)*(25+25+1)+1):=Cp O O;exact⟨⟨ta,tb,ca,cb,O,O⟩,O⟩
 have v:∀n:Nat,n<=25->2*((n+3)*(A+1))<=1000000000:=λn hn=>by
  have:(n+3)*(A+1)<=(25+3)*(A+1):=Ad _ O
  omega
 have I:=YD tq (Jr q) (Or.inl q0);obtain⟨w,z⟩:=ex (Dp q (Ju q (Jb q)));obtain⟨y,B⟩:=ex (Dp (Jb q) (Ju q (Jb q)));have u:Yun q w y:=by
  rw[<-z,<-B,Ie I,Ie I];exact Yun.start tq q0 k
 obtain⟨N,hN,ae,ah⟩:=ni u k;refine⟨N,?_,O⟩;have c0:=H q (Jb q) tq (Jr _) (cq.mono O) (cs.mono O) O O;refine⟨tp,cp.mono O,by rw[hq];exact c0.1,by rw[hq];exact c0.2,v _ O,hl,O,?_,by rw[hq,z,B];exact ae⟩;rw[hq,z,B];intro n hn;refine⟨ah n hn,?_⟩;obtain⟨c,s,Q,f⟩:=Ig u k n;obtain⟨s1,s2,g,s4,G,s6⟩:=c.step;obtain⟨k1,T,U,k4⟩:=Ig u k (n+1);obtain⟨a,j⟩:=ex ((DS w y n).1);obtain⟨b,S⟩:=ex ((DS w y n).2);obtain⟨R,t⟩:=ex (EP q w y n);have Qf:EP q w y (n+1)=Jm R a:=by rw[EP,t,j]
 rw[Qf]at T U;rw[j,S,t]at c g G;rw[t]at s Q;rw[j]at f;rw[j,S];have la:=(f.len c.tw tq q0).1;have l:=cq.ln;have m:Cd (M+5) a:=by
  have h5:=f.lnN (n:=24) tq q0 O OE l c.tw;have:=MP c.tw (h5.mono (L:=M+5) O) O;rwa[c.mw]at this
 have X:=WN tq q0 O l c.tR Q c.tw c.mw c.ty s f c.eq;have cB:Cd K b:=(show Cd (2*M+24) b from X).mono O;have W:=WN tq q0 O l g.tR U c.tw c.mw (Yy _ _) T f G;have P:Cd K (JS b (Jb a)):=(show Cd (2*M+24) (JS b (Jb a))from W).mono O;have cS:Cd (M+6) (Jb a):=by
  obtain⟨D,d1,o,r⟩:=m;refine⟨D,d1,o.mono O,λi=>?_⟩;rw[XE];by_cases hi:i+1<a.length
  . have h6:=(r (i+1)).mul (E:=1) (M:=1) (d:=(((i+1:Nat):Int):Rat)) ⟨((i+1:Nat):Int),by rw[AA,show((1:Int):Rat)=1 from rfl];grind,by unfold Sm Y;rw[Ar];omega⟩;rwa[FK]at h6
  . rw[Ym O,A7];exact CD.zero _ _
 have V:(JS b (Jb a)).length<=25:=by
  by_cases z0:JS b (Jb a)=[]
  . rw[z0];simp
  . have e1:Jj (JS b (Jb a)) (Jm R a)=Jj a (Jb (Jm R a)):=Xb (JA _ _) (JA _ _) λx=>by rw[Je,Je,G]
    have l1:=JF (Yy b (Jb a)) g.tR z0 g.R0;have l2:=Vf a (Jb (Jm R a));have l3:=YU g.R0;grind
 have c1:=H a (JS b (Jb a)) c.tw (Yy _ _) (m.mono O) P O V;exact⟨c1.1,c.ty,m.mono O,cS.mono O,cB.mono O,P.mono O,c1.2,v _ O,v _ V⟩
def nj{p:List Rat}(tp:Jc p=p)(hl:1<p.length)(a:p.length<=25)(cp:Cd 75 p):∃N,PtOk 174 8926 N p/\N<=25:=WO (M:=75) O rfl rfl tp hl a cp
end
def RF(p w y:List Rat):Nat->List Rat
 |0=>p
 |n+1=>Jm (RF p w y n) (DS w y n).1
section
variable {p q w y:List Rat}
def nk(h:Yun q w y)(c:Js q=q)(n:Nat):(DS w y (n+1)).1=Jm (DS w y n).1 (yP (DS w y n)):=by
 obtain⟨a,_⟩:=Ig h c n;have b:Ju (DS w y n).1 (JS (DS w y n).2 (Jb (DS w y n).1))≠[]:=YD a.tw (Yy _ _) (Or.inl a.w0);rw[DS];unfold LK yP;exact Ie b
end
theorem Ma{p:List Rat}(tp:Jc p=p)(p0:p≠[]):cf p (p.length-1)≠0/\p=DM (cf p (p.length-1)) (Js p):=by
 have h:=Jq tp p0;refine⟨h,?_⟩;unfold Js;rw[LF,show 1/cf p (p.length-1)*cf p (p.length-1)=1 by grind,Kh tp]
theorem WP(k:Rat)(p:List Rat):Jb (DM k p)=DM k (Jb p):=by
 grind[Jr,JG,Il,XE,Ys]
theorem nm{K:Nat}{q g:List Rat}(tq:Jc q=q)(q0:q≠[])(lq:q.length<=25)(cq:Cd K q)(tg:Jc g=g)(c:Js g=g)(h:Dv g q):Cd (K+5) g:=by
 have b:=Dv.lnN (n:=24) (e:=5) tq q0 O OE cq.ln tg h;have a:=MP tg b O;rw[c]at a;exact a
def Cd.scale{A B:Nat}{p r:List Rat}(hp:Cd A p)(f:Cd B r)(i:Nat):Cd (A+B) (DM (cf r i) p):=by
 obtain⟨D,d1,a,b⟩:=hp;obtain⟨E,c,d,e⟩:=f;exact⟨D*E,Cs d1 c,a.mul d,λj=>by rw[Ys];exact(b j).mul (e i)⟩
structure StR(K M:Nat)(r f:List Rat):Prop where
 tr:Jc r=r
 cr:Cd M r
 tf:Jc f=f
 f0:f≠[]
 mf:Js f=f
 ca:Cd M f
 lr:(r.length+3)*(M+1)<=1000000000
 lf:(f.length+3)*(M+1)<=1000000000
 r1:r.length<=1000
 f1:f.length<=1000
 ch:M3.ChOk K f (Jm r f)
structure ReOk(K M N:Nat)(p w y:List Rat):Prop where
 fr:M3.FrOk K p
 w0:nH p=w
 nN:N<=1000000000
 st:∀n,n<N->1<(DS w y n).1.length/\StR K M (RF p w y n) (DS w y n).1/\Cd M (DS w y (n+1)).1/\Jc (DS w y (n+1)).1=(DS w y (n+1)).1/\(DS w y (n+1)).1≠[]/\Js (DS w y (n+1)).1=(DS w y (n+1)).1/\
  Ju (DS w y n).1 (RF p w y (n+1))=(DS w y (n+1)).1/\Jm (DS w y n).1 (DS w y (n+1)).1=yP (DS w y n)/\Js (yP (DS w y n))=yP (DS w y n)/\
  Jc (yP (DS w y n))=yP (DS w y n)/\Cd M (yP (DS w y n))/\(yP (DS w y n)).length<=25
 en:(DS w y N).1.length<=1
section
variable {a b c d p q r w y R:List Rat}
theorem DR.shift(h:DR a b)(f:∀x,ev b x=ev c x+ev a x*ev d x):DR a c:=by
 obtain⟨u,v,e⟩:=h;refine⟨X2 u (Jj v d),v,λx=>?_⟩;rw[YQ,Je];grind
def DR.left(h:DR a (Jj b c)):DR a b:=(h.symm.of_dv ((Dv.refl b).mul c)).symm
def DR.right(h:DR a (Jj b c)):DR a c:=(h.symm.of_dv ((Dv.refl c).mul' b)).symm
theorem WR(a:List Rat):Dv [1] a:=⟨a,λx=>by simp[ev];grind⟩
theorem WS:Js [1]=[1]:=Xb (YB _) DJ λx=>by rw[MQ];simp[cf,ev];grind
theorem ns(hp:Jc p=p)(hq:Jc q=q)(h:DR p q):Ju p q=[1]:=by
 obtain⟨a,b,_⟩:=Yw hp hq;obtain⟨u,v,e⟩:=h;exact Dv.eq (JT _ _) DJ (XU hp hq) WS (a.comb b u v λx=>by rw[<-e x];simp[ev];grind) (WR _)
theorem Yun.part(h:Yun R w y):DR (Ju w (JS y (Jb w))) (Jb (Ju w (JS y (Jb w))))/\DR (Ju w (JS y (Jb w))) (Jm w (Ju w (JS y (Jb w)))):=by
 obtain⟨a,b,_⟩:=Yw h.tw (Yy y (Jb w));have c:=h.step.2.2.2.2.2;obtain⟨P,e⟩:=ex (Ju w (JS y (Jb w)));rw[e]at a b c ⊢;obtain⟨w2,g⟩:=ex (Jm w P);rw[g]at c ⊢;have c1:DR P y:=h.cop.of_dv a;obtain⟨t,f⟩:=b;have c2:DR P (Jb w):=c1.shift (d:=t) λx=>by
  have:=f x;rw[XK]at this;grind
 have c3:DR P (Jj (Jb P) w2):=c2.shift (d:=Jb w2) λx=>by
  grind[Yt,Je]
 exact⟨c3.left,c3.right⟩
end
def Dt:List (List Rat × Nat)->Rat->Rat
 |[],_=>1
 |a::l,x=>ev a.1 x^a.2*Dt l x
theorem OI(l m:List (List Rat × Nat))(x:Rat):Dt (l++m) x=Dt l x*Dt m x:=by
 induction l with
 |nil=>simp[Dt]
 |cons a l b=>simp only[Ay,Dt,b];grind
theorem nt(a b:Rat)(n:Nat):(a*b)^n=a^n*b^n:=by
 induction n with
 |zero=>simp
 |succ n c=>grind
theorem OJ(n:Nat):(1:Rat)^n=1:=by
 induction n with
 |zero=>simp
 |succ n a=>rw[Rat.pow_succ,a];grind
section
variable {q w y:List Rat}
def WT(h:Yun q w y)(b:Js q=q)(n:Nat):Jc (yP (DS w y n))=yP (DS w y n)/\Js (yP (DS w y n))=yP (DS w y n)/\(DS w y n).1=Jj (yP (DS w y n)) (DS w y (n+1)).1/\
 DR (yP (DS w y n)) (Jb (yP (DS w y n)))/\DR (yP (DS w y n)) (DS w y (n+1)).1/\EP q w y n=Jj (DS w y n).1 (EP q w y (n+1)):=by
 have a:=(Ig h b n).1;rw[nk h b n];obtain⟨_,_,_,c,_,d⟩:=a.step;obtain⟨c1,c2⟩:=a.part;exact⟨JT _ _,XU a.tw (Yy _ _),d,c1,c2,c⟩
theorem WU(h:Yun q w y)(n:Js q=q):∀N,(∀x∈yL w y N,1<x.1.length/\1<=x.2/\x.2<=N/\DR x.1 (Jb x.1)/\Jc x.1=x.1/\Js x.1=x.1/\Dv x.1 q/\DR x.1 (DS w y N).1)/\
 (yL w y N).Pairwise (λa b=>a.2<b.2/\DR a.1 b.1):=by
 intro N;induction N with
 |zero=>exact⟨λx c=>by simp[yL]at c,by simp[yL]⟩
 |succ N e=>
  obtain⟨p,r,A,s,t,_⟩:=WT h n N;have o:Dv (DS w y (N+1)).1 (DS w y N).1:=⟨yP (DS w y N),λx=>by
   grind[Je]⟩
  have g:Dv (yP (DS w y N)) (DS w y N).1:=⟨(DS w y (N+1)).1,λx=>by
   grind[Je]⟩
  rw[yL];refine⟨λx c=>?_,?_⟩
  . rcases CE.1 c with c|c
    . obtain⟨i,j,u,k,l,m,v,f⟩:=e.1 x c;exact⟨i,j,O,k,l,m,v,(f.symm.of_dv o).symm⟩
    . split at c
      . next hl=>
        simp at c;subst c;exact⟨hl,DH,Aa _,s,p,r,g.trans (Ig h n N).2.2.2,t⟩
      . simp at c
  . refine List.pairwise_append.2 ⟨e.2,by split<;>simp,λx c z d=>?_⟩;split at d
    . simp at d;subst d;obtain⟨i,j,u,k,l,m,_,f⟩:=e.1 x c;exact⟨by simp only;omega,(f.symm.of_dv g).symm⟩
    . simp at d
theorem nu(h:Yun q w y)(b:Js q=q)(x:Rat):∀N,ev q x=Dt (yL w y N) x*(ev (DS w y N).1 x^N*ev (EP q w y N) x):=by
 intro N;induction N with
 |zero=>simp[yL,Dt,EP]
 |succ N o=>
  obtain⟨i,j,k,_,_,l⟩:=WT h b N;have d:=congrArg (λr=>ev r x) k;have f:=congrArg (λr=>ev r x) l;simp only[Je]at d f;rw[o,yL,OI];have e:Dt (if 1<(yP (DS w y N)).length then [(yP (DS w y N),N+1)]else []) x=ev (yP (DS w y N)) x^(N+1):=by
   split
   . simp[Dt]
   . next hl=>
     have n:yP (DS w y N)=[1]:=by
      have g:yP (DS w y N)≠[]:=YD (Ig h b N).1.tw (Yy _ _) (Or.inl (Ig h b N).1.w0);have a:=OH i g j;have:=Ae.2 g;generalize yP (DS w y N)=P at *;match P,hl,this,a with
      |[c],_,_,a=>simp[cf]at a;rw[a]
      |_::_::_,hl,_,_=>exact absurd DH hl
     rw[n];have m:ev [1] x=1:=by simp[ev];grind
     rw[m,OJ];rfl
  rw[e,f];have hp:(ev (DS w y N).1 x)^(N+1)=ev (yP (DS w y N)) x^(N+1)*ev (DS w y (N+1)).1 x^(N+1):=by rw[d,nt]
  rw[Rat.pow_succ]at hp;grind
def WV{a:List Rat}(ta:Jc a=a)(ma:Js a=a)(a0:a≠[])(hl:a.length<=1):a=[1]:=by
 have b:=OH ta a0 ma;have:=Ae.2 a0;match a,hl,this,b with
 |[c],_,_,b=>simp[cf]at b;rw[b]
 |_::_::_,hl,_,_=>simp at hl
theorem nv(h:Yun q w y)(b:Js q=q):∀N,(∀n,n<N->1<(DS w y n).1.length)->(EP q w y N).length+N<=q.length:=by
 intro N;induction N with
 |zero=>intro _;exact Aa _
 |succ N a=>
  intro hn;grind[RE]
theorem WW(h:Yun q w y)(b:Js q=q){N:Nat}(hn:∀n,n<N->1<(DS w y n).1.length)(d:(DS w y N).1.length<=1):N+1<=q.length/\∀x,ev q x=Dt (yL w y N) x:=by
 obtain⟨a,_,e,_⟩:=Ig h b N;have g:=WV a.tw a.mw a.w0 d;have f:EP q w y N=[1]:=by
  have c:Dv (EP q w y N) (Jb (EP q w y N)):=⟨(DS w y N).2,λx=>by
   have:=a.eq x;grind[ev]⟩
  exact Dv.eq a.tR DJ e WS (MS a.tR a.R0 c) (WR _)
 have hl:=nv h b N hn;grind[ev,nu,OJ]
end
variable{u:List Rat}{B e k s x z:Rat}{U:Rat->Prop}
theorem OK{c:Rat}(h:c≠0):0<Yg c:=by
 unfold Yg;split<;>grind
def ny{c:Rat}(h:0<c):∀n:Nat,0<c^n:=by
 intro n;induction n with
 |zero=>rw[Rat.pow_zero];decide
 |succ n a=>rw[Rat.pow_succ];exact Rat.mul_pos a h
def oA{p q:List Rat}(hq:Jc q=q)(a:q≠[]):0<EX p q:=ny (OK (Jq hq a)) _
theorem RG{a b:List Rat}(tb:Jc b=b)(b0:b≠[]):∃(q:List Rat) (c:Rat),0<c/\∀x,EX a b*ev a x=ev q x*ev b x-c*ev (XC a b) x:=by
 obtain⟨k,d,hk⟩:=Xz (p:=JU (XJ a b) b) (Yi _);refine⟨Jm (XJ a b) b,1/k,Yf DJ d,λx=>?_⟩;have e:=(YX (XJ a b) b tb b0).1 x;grind[ev,XJ,Jp,XC,XK]
def chnL_head(a b:List Rat):∃t,EO a b=a::t:=by
 unfold EO;cases b.length with
 |zero=>exact⟨_,rfl⟩
 |succ n=>
  unfold GA;split
  . exact⟨_,rfl⟩
  . exact⟨_,rfl⟩
theorem oB{a:List Rat}(ta:Jc a=a)(a0:a≠[])(x:Rat):ev (Jm a a) x=1:=by
 have h:=YW (u:=Jm a a) (v:=[1]) ta a0 (λx=>by
  rw[<-(JH ta a0 (Dv.refl a)).2 x,Jn];grind) x
 rwa[Jn]at h
theorem Mb:∀(n:Nat) (a b:List Rat),b.length<=n->Jc a=a->Jc b=b->a≠[]->∃g,(EO a b).getLast?=some g/\Jc g=g/\g≠[]/\Dv g a/\Dv g b/\(∀d,Dv d a->Dv d b->Dv d g)/\StC ((EO a b).map λp=>Jm p g):=by
 intro n;induction n with
 |zero=>
  intro a b hn ta _ a0
  have:b=[]:=Ak.1 O
  subst this;exact⟨a,rfl,ta,a0,Dv.refl a,Dv.zero a,λ_ h _=>h,StC.one (c:=1) DJ λx=>oB ta a0 x⟩
 |succ n y=>
  intro a b hn ta tb a0;by_cases b0:b=[]
  . grind
  . have hl:=Xg (a:=a) tb b0;obtain⟨g,m,tg,g0,f,k,o,e⟩:=y b (XC a b) O tb (Ic _ _) b0;obtain⟨q,c,c0,H⟩:=RG (a:=a) tb b0;have w0:=oA (p:=a) tb b0;have z:1/EX a b*EX a b=1:=Aj DG;have A:1/c*c=1:=Aj DG;have i:Dv g a:=f.comb k (Jj [1/EX a b] q) [-(1/EX a b*c)] λx=>by
     grind[Je,ev]
    refine⟨g,?_,tg,g0,i,f,λd d1 j=>o d j (j.comb d1 (Jj [1/c] q) [-(1/c*EX a b)] λx=>?_),?_⟩
    . rw[XF tb b0,List.getLast?_cons,m];rfl
    . grind[Je,ev]
    . rw[XF tb b0];by_cases l:XC a b=[]
      . rw[l,KB]at e ⊢;obtain⟨_,r,s⟩:=e.o;exact StC.two r s
      . obtain⟨t,w⟩:=chnL_head (XC a b) (XC b (XC a b));rw[XF (Ic _ _) l,w]at e ⊢;have B:=(JH tg g0 i).2;have D:=(JH tg g0 f).2;have G:=(JH tg g0 k).2;refine StC.more (q:=q) w0 c0 (λx=>?_) e;have:=YW (u:=Jj [EX a b] (Jm a g)) (v:=JS (Jj q (Jm b g)) (Jj [c] (Jm (XC a b) g))) tg g0 (λx=>by
         grind[Je,XK,Jn]) x
        rwa[Je,XK,Je,Je,Jn,Jn]at this
theorem RH:∀(n:Nat) (R w y:List Rat),R.length<=n->Yun R w y->DR w (Jb w):=by
 intro n;induction n with
 |zero=>intro R w y hn h;exact absurd (Ak.1 O) h.R0
 |succ n o=>
  intro R w y hn h;by_cases hl:w.length<=1
  . obtain⟨c,l⟩:=LJ h.tw h.w0 hl;refine⟨c,[],λx=>?_⟩;have:=l x;rw[Jn]at this;simp[ev];grind
  . obtain⟨p1,f⟩:=h.part;obtain⟨_,_,b,i,_,e⟩:=h.step;obtain⟨a,k⟩:=ex (Ju w (JS y (Jb w)));rw[k]at p1 f b e;obtain⟨w2,m⟩:=ex (Jm w a);rw[m]at f b e;have p:(Jm R w).length<=n:=by
     have:=JF h.tw b.tR h.w0 b.R0;rw[<-i]at this;omega
    have j:=o _ _ _ p b;have g:∀x,ev (Jb w) x=ev (Jb a) x*ev w2 x+ev a x*ev (Jb w2) x:=λx=>by
     have:=Yt a w2 x;rwa[<-e]at this
    have c1:DR a (Jb w):=(p1.mul f).shift (d:=Jj [-1] (Jb w2)) λx=>by
     rw[Je,Je,Jn,g];grind
    have c2:DR w2 (Jb w):=(f.symm.mul j).shift (d:=Jj [-1] (Jb a)) λx=>by
     rw[Je,Je,Jn,g];grind
    have c3:=(c1.symm.mul c2.symm).symm;rwa[<-e]at c3
def WX(c:Rat)(p:List Rat)(x:Rat):ev (Jb (DM c p)) x=c*ev (Jb p) x:=by
 rw[Ip,Ip];unfold DM;rw[R7 (Yp _),R8,AU]
def Jw(p:List Rat):List (List Rat):=(Y7 p (Jb p)).map λa=>Jm a ((Y7 p (Jb p)).getLast?.getD [])
def DK(p:List Rat):List Rat:=Jm (Js p) (Ju (Js p) (Jb (Js p)))
def Eg(p:List Rat):List Rat:=Jm (Jb (Js p)) (Ju (Js p) (Jb (Js p)))
theorem oC{p:List Rat}(tp:Jc p=p)(p0:p≠[]):StC (Jw p)/\∃f l k,Jw p=f::l/\k≠0/\(∀x,ev f x=k*ev (DK p) x)/\∀f1 l1,l=f1::l1->∃P,0<k*P/\∀x,ev f1 x=P*ev (Eg p) x:=by
 have ts:=Jr p;obtain⟨α,α0,hα⟩:=Xz tp;obtain⟨β,β0,hβ⟩:=Xz ts;obtain⟨y,s⟩:=Ma tp p0;obtain⟨b,hl⟩:=ex (cf p (p.length-1));rw[hl]at y s;have tR:=YB p;have R0:=Ki tp p0;obtain⟨R,M⟩:=ex (Js p);rw[M]at s tR R0;have z:=Jr R;have a0:Jo p≠[]:=λe=>p0 (Ak.1 (by rw[<-JJ tp,e];rfl));have A:∀x,ev (Jo p) x=α*b*ev R x:=λx=>by
  rw[hα,Jp];conv=>lhs;rw[s]
  rw[Jp];grind
 have B:∀x,ev (Jo (Jb p)) x=β*b*ev (Jb R) x:=λx=>by
  rw[hβ,Jp];have:=WX b R x;rw[<-s]at this;rw[this];grind
 obtain⟨g,V,tg,g0,K,L,W,X⟩:=Mb _ (Jo p) (Jo (Jb p)) (Aa _) (J4 _) (J4 _) a0;obtain⟨D,G,_⟩:=Yw tR z;have q:=JT R (Jb R);have r:=YD tR z (Or.inl R0);have T:=(JH q r D).2;have U:=(JH q r G).2;have Q:Dv (Ju R (Jb R)) g:=W _ (by
  obtain⟨c,j⟩:=D;exact⟨DM (α*b) c,λx=>by rw[A,j,Jp];grind⟩) (by obtain⟨c,j⟩:=G;exact⟨DM (β*b) c,λx=>by rw[B,j,Jp];grind⟩)
 have N:∀ {k:Rat},0<k->1/(k*b)*(k*b)=1:=λhk=>Aj (by
  intro e;rcases AN.1 e with e|e
  . grind
  . exact y e)
 have S:Dv g (Ju R (Jb R)):=LI tR z (by
  obtain⟨c,j⟩:=K;refine⟨DM (1/(α*b)) c,λx=>?_⟩;have i:=j x;rw[A]at i
  have:ev R x=1/(α*b)*(α*b*ev R x):=by rw[<-Rat.mul_assoc,N α0,CM]
  rw[this,i,Jp];grind) (by
  obtain⟨c,j⟩:=L;refine⟨DM (1/(β*b)) c,λx=>?_⟩;have i:=j x;rw[B]at i
  have:ev (Jb R) x=1/(β*b)*(β*b*ev (Jb R) x):=by rw[<-Rat.mul_assoc,N β0,CM]
  rw[this,i,Jp];grind)
 obtain⟨m,m0,hm⟩:=Dv.anti q tg Q S;have H:∀x,ev g x=m*ev (Ju R (Jb R)) x:=λx=>by rw[hm,Jp];grind
 have w:1/m*m=1:=Aj m0;have qa:=(JH tg g0 K).2;have qb:=(JH tg g0 L).2;have I:Jw p=(EO (Jo p) (Jo (Jb p))).map λa=>Jm a g:=by
  unfold Jw Y7;rw[V];rfl
 refine⟨by rw[I];exact X,?_⟩;obtain⟨t,d⟩:=chnL_head (Jo p) (Jo (Jb p));unfold DK Eg;rw[M];refine⟨Jm (Jo p) g,t.map λa=>Jm a g,1/m*(α*b),by rw[I,d];rfl,?_,λx=>?_,λf1 l1 n=>⟨1/m*(β*b),?_,λx=>?_⟩⟩
 . intro e;rcases AN.1 e with e|e
   . rw[e]at w;grind
   . rcases AN.1 e with e|e
     . grind
     . exact y e
 . have:=YW (u:=Jm (Jo p) g) (v:=DM (1/m*(α*b)) (Jm R (Ju R (Jb R)))) q r (λx=>by
    have o:=qa x;rw[H,A,T]at o;rw[Jp]
    have:ev (Ju R (Jb R)) x*ev (Jm (Jo p) g) x=1/m*(m*ev (Ju R (Jb R)) x*ev (Jm (Jo p) g) x):=by
     rw[<-Rat.mul_assoc,<-Rat.mul_assoc,w,CM]
    rw[this,<-o];grind) x
   rw[this,Jp];grind
 . have i:1/m*(α*b)*(1/m*(β*b))=(1/m*b)*(1/m*b)*(α*β):=DG
   rw[i];refine Rat.mul_pos ?_ (Rat.mul_pos α0 β0);have c0:1/m*b≠0:=λe=>by
    rcases AN.1 e with e|e
    . rw[e]at w;grind
    . exact y e
   have:=XD (f:=[1/m*b]) c0 (λx=>Jn _ x) 0 0;unfold Stb at this;rwa[Jn]at this
 . have hb:f1=Jm (Jo (Jb p)) g:=by
    by_cases b0:Jo (Jb p)=[]
    . rw[b0,KB]at d;injection d with _ d
      rw[<-d]at n;cases n
    . rw[XF (J4 _) b0]at d;injection d with _ d
      obtain⟨t2,ae⟩:=chnL_head (Jo (Jb p)) (XC (Jo p) (Jo (Jb p)));rw[<-d,ae]at n;injection n with n _
      exact n.symm
   rw[hb];have:=YW (u:=Jm (Jo (Jb p)) g) (v:=DM (1/m*(β*b)) (Jm (Jb R) (Ju R (Jb R)))) q r (λx=>by
    have o:=qb x;rw[H,B,U]at o;rw[Jp]
    have:ev (Ju R (Jb R)) x*ev (Jm (Jo (Jb p)) g) x=1/m*(m*ev (Ju R (Jb R)) x*ev (Jm (Jo (Jb p)) g) x):=by
     rw[<-Rat.mul_assoc,<-Rat.mul_assoc,w,CM]
    rw[this,<-o];grind) x
   rw[this,Jp];grind
def J6(b:List Rat):List Rat:=DM (1/Yg (cf b (b.length-1))) b
def EY:Nat->List Rat->List Rat->List (List Rat)
 |0,a,_=>[a]
 |n+1,a,b=>if b=[]then [a]else a::EY n (J6 b) (DM (-1) (JU a (J6 b)))
def Mc(n:Nat)(a b:List Rat):∃t,EY n a b=a::t:=by
 cases n with
 |zero=>exact⟨_,rfl⟩
 |succ n=>
  unfold EY;split
  . exact⟨_,rfl⟩
  . exact⟨_,rfl⟩
def Kk{b:List Rat}(tb:Jc b=b)(b0:b≠[]):0<1/Yg (cf b (b.length-1)):=Yf DJ (OK (Jq tb b0))
def LL{b:List Rat}{c:Rat}(g:c≠0)(tb:Jc b=b):(DM c b).length=b.length:=by
 have e:DM (1/c) (DM c b)=b:=by rw[LF,AU,Aj g,Kh tb]
 have a:∀(d:Rat) (q:List Rat),(DM d q).length<=q.length:=λd q=>by
  unfold DM;refine Ac (Yq _) ?_;unfold XG;simp
 have i:=a c b;have f:=a (1/c) (DM c b);rw[e]at f;omega
theorem WY{a:List Rat}(ta:Jc a=a)(h:DR a []):∃c,c≠0/\∀x,ev a x=c:=by
 obtain⟨u,v,b⟩:=h;have d:Dv a [1]:=⟨u,λx=>by rw[Jn,<-b x];simp[ev];grind⟩;have f:=(d.len ta DJ DJ).1;have a0:a≠[]:=λe=>by
  have:=b 0;rw[e]at this;simp[ev]at this;grind
 match a,a0,f with
 |[c],_,_=>
  refine⟨c,λe=>?_,λx=>Jn c x⟩;have:=b 0;rw[e]at this;simp[ev]at this;grind
theorem WZ:∀(n:Nat) (a b:List Rat),b.length<=n->Jc a=a->Jc b=b->DR a b->StC (EY n a b):=by
 intro n;induction n with
 |zero=>
  intro a b hn ta _ d
  have:b=[]:=Ak.1 O
  subst this;obtain⟨c,c0,f⟩:=WY ta d;exact StC.one c0 f
 |succ n p=>
  intro a b hn ta tb d;by_cases b0:b=[]
  . subst b0;obtain⟨c,c0,f⟩:=WY ta d;rw[EY,BH rfl];exact StC.one c0 f
  . rw[EY,BG b0];have I:=Kk tb b0;have lb:(J6 b).length=b.length:=LL DG tb;have i:Jc (J6 b)=J6 b:=JG _ _;have k:J6 b≠[]:=λe=>b0 (Ak.1 (by rw[<-lb,e];rfl));obtain⟨j,sl⟩:=YX a (J6 b) i k;have tr:Jc (JU a (J6 b))=JU a (J6 b):=Yi _;have es:∀x,ev (J6 b) x=ev b x*(1/Yg (cf b (b.length-1))):=λx=>Jp _ _ _;have l:DR (J6 b) (DM (-1) (JU a (J6 b))):=by
     obtain⟨u,v,o⟩:=d;have r:Yg (cf b (b.length-1))*(1/Yg (cf b (b.length-1)))=1:=by
      rw[AU];exact Aj (by have:=OK (Jq tb b0);grind)
     refine⟨X2 (Jj u (Jm a (J6 b))) (Jj [Yg (cf b (b.length-1))] v),Jj [-1] u,λx=>?_⟩;rw[YQ,Je,Je,Je,Jn,Jn,Jp];have s:=o x;have g:=j x;have w:=es x;have y:ev b x=Yg (cf b (b.length-1))*ev (J6 b) x:=by
      rw[w,AU,Rat.mul_assoc,AU (1/_),r,Rat.mul_one]
     rw[y,g]at s;grind
    have hi:=p (J6 b) (DM (-1) (JU a (J6 b))) (by rw[LL DJ tr];omega) i (JG _ _) l;by_cases r0:DM (-1) (JU a (J6 b))=[]
    . rw[r0]at hi ⊢;have e:EY n (J6 b) []=[J6 b]:=by cases n<;>rfl
      rw[e]at hi ⊢;obtain⟨_,d,f⟩:=hi.o;exact StC.two d f
    . have H:=JG (-1) (JU a (J6 b));cases n with
      |zero=>
       exact absurd (Ak.1 (by have:=LL (c:=-1) DJ tr;omega)) r0
      |succ n=>
       obtain⟨t,m⟩:=Mc n (J6 (DM (-1) (JU a (J6 b)))) (DM (-1) (JU (J6 b) (J6 (DM (-1) (JU a (J6 b))))));rw[EY,BG r0,m]at hi ⊢;have G:=OK (Jq H r0);refine StC.more (q:=Jm a (J6 b)) (a:=1) (c:=Yg (cf (DM (-1) (JU a (J6 b))) ((DM (-1) (JU a (J6 b))).length-1))) DJ G (λx=>?_) hi;have g:=j x;have z:ev (J6 (DM (-1) (JU a (J6 b)))) x=ev (DM (-1) (JU a (J6 b))) x*(1/Yg (cf (DM (-1) (JU a (J6 b))) ((DM (-1) (JU a (J6 b))).length-1))):=Jp _ _ _;have A:ev (DM (-1) (JU a (J6 b))) x=ev (JU a (J6 b)) x*(-1):=Jp _ _ _;have B:1/Yg (cf (DM (-1) (JU a (J6 b))) ((DM (-1) (JU a (J6 b))).length-1))*Yg (cf (DM (-1) (JU a (J6 b))) ((DM (-1) (JU a (J6 b))).length-1))=1:=Aj DG;rw[z,A];generalize Yg (cf (DM (-1) (JU a (J6 b))) ((DM (-1) (JU a (J6 b))).length-1))=K at *;have D:K*(ev (JU a (J6 b)) x*(-1)*(1/K))=- ev (JU a (J6 b)) x:=by
        have:K*(ev (JU a (J6 b)) x*(-1)*(1/K))=(1/K*K)*(- ev (JU a (J6 b)) x):=DG
        rw[this,B];grind
       rw[D,CM,g];grind
def ET(p:List Rat):List (List Rat):=EY (Jb (DK p)).length (DK p) (Jb (DK p))
theorem Kl{p:List Rat}(tp:Jc p=p)(p0:p≠[]){a b:Rat}(v:a<=b):DL (JD (Jw p) a)+DL (JD (ET p) b)=DL (JD (Jw p) b)+DL (JD (ET p) a):=by
 obtain⟨hs,f,l,k,D,N,w,u⟩:=oC tp p0;have d:=Yun.start (YB p) (Ki tp p0) (KA tp);have d:Yun (Js p) (DK p) (Eg p):=d;have M:=RH _ _ _ _ (Aa _) d;have K:=WZ _ (DK p) (Jb (DK p)) (Aa _) d.tw (Jr _) M;obtain⟨A,S,hA⟩:=JN a;obtain⟨C,T,hC⟩:=JN b;have g:0<=A+C:=DG
 obtain⟨e,U,sg⟩:=Q3 _ _ _ _ (Aa _) d g;refine glue (B:=A+C) (F:=λx=>DL (JD (Jw p) x)) (G:=λx=>DL (JD (ET p) x)) ?_ (hA.mono DG) (hC.mono DG) v;refine(((hs.gd g).and (K.gd g)).and sg).mono λx y _ _ _ i=>?_;have d1:=i.1.1;have j:=i.1.2;have s:=i.2;obtain⟨m,c⟩:=Mc (Jb (DK p)).length (DK p) (Jb (DK p));show DL (JD (Jw p) x)+DL (JD (ET p) y)=DL (JD (Jw p) y)+DL (JD (ET p) x);unfold ET;rw[D]at d1 ⊢;rw[c]at j ⊢;refine d1.both j N w λhn f1 l1 o X hl q=>?_;obtain⟨W,P,H⟩:=u f1 l1 hl;obtain⟨Q,R⟩:=s hn;by_cases w0:Jb (DK p)=[]
 . exfalso
   rw[w0]at c;rw[q]at c;simp[EY]at c
 . obtain⟨n,I⟩:∃n,(Jb (DK p)).length=n+1:=⟨_,(Nat.succ_pred_eq_of_pos (Ae.2 w0)).symm⟩;rw[I,EY,BG w0]at c;injection c with _ c
   obtain⟨t,L⟩:=Mc n (J6 (Jb (DK p))) (DM (-1) (JU (DK p) (J6 (Jb (DK p)))));rw[L,q]at c;injection c with hg _
   have sp:=Kk (Jr (DK p)) w0;have r:∀z,ev o z=ev (Jb (DK p)) z*(1/Yg (cf (Jb (DK p)) ((Jb (DK p)).length-1))):=λz=>by rw[<-hg];exact Jp _ _ _
   have fin:∀z,e<=ev (Eg p) z*ev (Jb (DK p)) z->0<k*ev f1 z*ev o z:=λz V=>by
    rw[H,r];have:=Rat.mul_pos (Rat.mul_pos P sp) (show 0<ev (Eg p) z*ev (Jb (DK p)) z by grind);grind
   exact⟨fin x Q,fin y R⟩
def Md(l:List (List Rat)):Prop:=∀p∈l,Jc p=p/\p≠[]
def GS(l:List (List Rat)):List Rat:=l.map λp=>cf p (p.length-1)
def EL(l:List (List Rat)):List Rat:=l.map λp=>(-1)^(p.length-1)*cf p (p.length-1)
theorem Xh{l:List (List Rat)}(h:Md l):∃B,0<B/\(∀x,B<=x->DL (JD l x)=DL (GS l))/\∀x,x<=-B->DL (JD l x)=DL (EL l):=by
 have j:∃B,0<B/\(∀x,B<=x->∀p∈l,0<ev p x*cf p (p.length-1))/\∀x,x<=-B->∀p∈l,0<ev p x*((-1)^(p.length-1)*cf p (p.length-1)):=by
  induction l with
  |nil=>exact⟨1,DJ,(λ_ _ _ hp=>absurd hp (List.not_mem_nil)),(λ_ _ _ hp=>absurd hp (List.not_mem_nil))⟩
  |cons p l e=>
   obtain⟨B,b,c,d⟩:=e λq hq=>h q (A5 _ hq);obtain⟨tp,p0⟩:=h p (AH);obtain⟨C,k,n⟩:=bW tp p0;obtain⟨D,m,o⟩:=bX tp p0;refine⟨B+C+D,DG,λx a q hq=>?_,λx a q hq=>?_⟩
   . grind[AU]
   grind[AU]
 obtain⟨B,b,c,d⟩:=j;refine⟨B,b,λx a=>?_,λx a=>?_⟩
 . refine SL _ _ 0 0 (by simp[JD,GS]) (λi f g=>?_) (Or.inr ⟨rfl,rfl⟩);grind[JD,GS]
 . refine SL _ _ 0 0 (by simp[JD,EL]) (λi f g=>?_) (Or.inr ⟨rfl,rfl⟩);grind[JD,EL]
theorem oD:∀(n:Nat) (a b g:List Rat),b.length<=n->Jc a=a->Jc b=b->a≠[]->Dv g a->Dv g b->Jc g=g->g≠[]->Md ((EO a b).map λp=>Jm p g):=by
 intro n;induction n with
 |zero=>
  intro a b g hn ta tb a0 d f tg g0
  have:b=[]:=Ak.1 O
  subst this;intro p hp;rw[KB]at hp;rcases Fh.1 hp with⟨q,hq,rfl⟩
  have:q=a:=by simpa using hq
  subst this;exact⟨Yx _ _,λe=>a0 (XA ta λx=>by rw[(JH tg g0 d).2,e];simp[ev])⟩
 |succ n k=>
  intro a b g hn ta tb a0 d f tg g0;have j:Jc (Jm a g)=Jm a g/\Jm a g≠[]:=⟨Yx _ _,λe=>a0 (XA ta λx=>by rw[(JH tg g0 d).2,e];simp[ev])⟩;by_cases b0:b=[]
  . grind
  . have hl:=Xg (a:=a) tb b0;obtain⟨q,c,c0,m⟩:=RG (a:=a) tb b0;have l:1/c*c=1:=Aj DG;have i:Dv g (XC a b):=f.comb d (Jj [1/c] q) [-(1/c*EX a b)] λx=>by
     grind[Je,ev]
    have hi:=k b (XC a b) g O tb (Ic _ _) b0 f i tg g0;rw[XF tb b0];intro p hp;rcases Fk.1 hp with rfl|hp
    . exact j
    . exact hi p hp
def Yj{p:List Rat}(tp:Jc p=p)(p0:p≠[]):Md (Jw p):=by
 have a0:Jo p≠[]:=λe=>p0 (Ak.1 (by rw[<-JJ tp,e];rfl));obtain⟨g,c,tg,g0,d,f,_,_⟩:=Mb _ (Jo p) (Jo (Jb p)) (Aa _) (J4 _) (J4 _) a0;have b:Jw p=(EO (Jo p) (Jo (Jb p))).map λa=>Jm a g:=by
  unfold Jw Y7;rw[c];rfl
 rw[b];exact oD _ _ _ g (Aa _) (J4 _) (J4 _) a0 d f tg g0
theorem oE:∀(n:Nat) (a b:List Rat),Jc a=a->Jc b=b->a≠[]->Md (EY n a b):=by
 intro n;induction n with
 |zero=>
  intro a b ta _ a0 p hp;grind[EY]
 |succ n c=>
  intro a b ta tb a0 p hp;by_cases b0:b=[]
  . grind[EY]
  . rw[EY,BG b0]at hp;rcases Fk.1 hp with rfl|hp
    . exact⟨ta,a0⟩
    . have d:=Kk tb b0;have lb:(J6 b).length=b.length:=LL DG tb;exact c _ _ (JG _ _) (JG _ _) (λe=>b0 (Ak.1 (by rw[<-lb];show(DM _ b).length=0;rw[e];rfl))) p hp
def oF{p:List Rat}(tp:Jc p=p)(p0:p≠[]):Md (ET p):=by
 have a:Yun (Js p) (DK p) (Eg p):=Yun.start (YB p) (Ki tp p0) (KA tp);exact oE _ _ _ a.tw (Jr _) a.w0
theorem oG(p:List Rat)(a:0<=B):∃K,0<K/\∀x y,Wi B x->Wi B y->x<=y->Wi (K*((y-x)*(y-x))) (ev p y-ev p x-(y-x)*dv p x):=by
 induction p with
 |nil=>exact⟨1,DJ,λx y _ _ _=>by
  have:=Xo (y-x);constructor<;>simp[ev,dv]<;>grind⟩
 |cons c t m=>
  obtain⟨K,j,h⟩:=m;obtain⟨D,hD,k⟩:=XM (Jb t) a;refine⟨B*K+D+1,by have:=Rat.mul_nonneg a (Rat.le_of_lt j);grind,λx y d f l=>?_⟩;have n:=Xo (y-x);have g:Wi ((y-x)*(y-x)) ((y-x)*(y-x)):=⟨DG,DG⟩;have b:=k x d;rw[Ip]at b;have i:=(f.mul (h x y d f l)).add (g.mul b);have e:ev (c::t) y-ev (c::t) x-(y-x)*dv (c::t) x=y*(ev t y-ev t x-(y-x)*dv t x)+(y-x)*(y-x)*dv t x:=by
   rw[Hq,Hq,show dv (c::t) x=ev t x+x*dv t x from rfl];grind
  rw[e];refine i.mono ?_;grind
def Ye(p:List Rat)(x y:Rat):Nat:=if ev p x≠0/\ev p x*ev p y<=0 then 1 else 0
theorem XY{p:List Rat}{y:Rat}(h:Stb p x y):Ye p x y=0:=by
 unfold Ye Stb at *;grind
theorem rise_of{w y:List Rat}(i:0<=B)(f:0<k)(s:Sh B λx z=>¬Stb w x z->k<=ev y x*ev (Jb w) x/\k<=ev y z*ev (Jb w) z):Sh B λx z=>¬Stb w x z->x<z->0<ev (Jb w) x*(ev w z-ev w x):=by
 obtain⟨c,n,I⟩:=XM y i;obtain⟨D,R,hD⟩:=XM (Jb w) i;obtain⟨K,S,H⟩:=oG w i;obtain⟨e,o,L⟩:=small (K:=(c*c)*(D*K)) (r:=k*k/2) (Rat.le_of_lt (Rat.mul_pos (Rat.mul_pos n n) (Rat.mul_pos R S))) (by have:=Rat.mul_pos f f;grind);have T:Sh B λx z=>z-x<=e:=⟨e,o,λ_ _ _ _ _ h=>h⟩;refine(s.and T).mono λx z j P N ⟨p,l⟩ hn ae=>?_;obtain⟨U,_⟩:=p hn;have g:=H x z j P N;rw[<-Ip]at g;have A:=I x j;have G:=hD x j;generalize ev (Jb w) x=d at *;generalize ev y x=v at *;generalize ev w z-ev w x=t at *;obtain⟨u,M⟩:=ex (z-x);rw[M]at l g;have u0:0<u:=DG
 have V:k*k<=(c*c)*(d*d):=by
  have m:=Rat.mul_nonneg (a:=v*d-k) (b:=v*d+k) DG DG;have Q:=Rat.mul_nonneg (a:=c*c-v*v) (b:=d*d) (by have:=La A;grind) (Xo d);grind
 have W:u*(d*d)-(D*K)*(u*u)<=d*t:=by
  have m:=(G.mul g).1;grind
 have X:=L u l;have hp:0<(c*c)*(d*t):=by
  have m:=Rat.mul_nonneg (a:=c*c) (b:=d*t-(u*(d*d)-(D*K)*(u*u))) (Xo c) DG;have Q:=Rat.mul_nonneg (a:=u) (b:=(c*c)*(d*d)-k*k) DG DG;have i3:=Rat.mul_nonneg (a:=u) (b:=k*k/2-(c*c)*(D*K)*u) DG DG;have i4:=Rat.mul_pos u0 (Rat.mul_pos f f);grind
 rcases JX (d*t) 0 with q|q
 . have:=Rat.mul_nonneg (a:=c*c) (b:=-(d*t)) (Xo c) DG;grind
 . rcases Rat.le_iff_lt_or_eq.1 q with q|q
   . exact q
   . rw[<-q]at hp;grind
def Wf{R w y:List Rat}(h:Yun R w y)(a:0<=B):Sh B λx z=>¬Stb w x z->x<z->0<ev (Jb w) x*(ev w z-ev w x):=by
 obtain⟨k,b,s⟩:=Q3 _ _ _ _ (Aa _) h a;exact rise_of a b s
theorem Xu{a b:Rat}(h:0<(a*a)*b):0<b:=by
 rcases JX b 0 with q|q
 . have:=Rat.mul_nonneg (a:=a*a) (b:=-b) (Xo a) DG;grind
 . rcases Rat.le_iff_lt_or_eq.1 q with q|q
   . exact q
   . rw[<-q]at h;grind
theorem oH{a b u v:Rat}(c:0<a*(v-u))(d:0<b*(v-u))(e:u*v<=0):
 (if u*a<0 then 1 else 0)=(if v*b<0 then 1 else 0)+(if u≠0/\u*v<=0 then 1 else 0:Nat):=by
 by_cases u0:u=0
 . subst u0;grind
 . have f:u*a<0:=by
    rcases JX 0 (u*a)with q|q
    . exfalso
      have a0:=(JC c).1;have q:0<u*a:=by
       rcases Rat.le_iff_lt_or_eq.1 q with q|q
       . exact q
       . grind
      have:=Rat.mul_pos q (show 0<v*a by grind);have:=Xu (a:=a) (b:=u*v) DG;grind
    . grind[AN]
   have g:¬v*b<0:=λq=>by
    have:=Rat.mul_pos (a:=-(v*b)) (b:=-(u*b)) DG DG;have:=Xu (a:=b) (b:=u*v) DG;grind
   grind
theorem oI{w b f1:List Rat}{n:Nat}{c:List (List Rat)}(a:EY n w b=w::f1::c):b≠[]/\f1=J6 b:=by
 cases n with
 |zero=>
  have d:[w]=w::f1::c:=a;grind
 |succ n=>
  by_cases w0:b=[]
  . grind[EY]
  . rw[EY,BG w0]at a;have d:=(List.cons.inj a).2;obtain⟨t,e⟩:=Mc n (J6 b) (DM (-1) (JU w (J6 b)));grind
theorem Y3{p:List Rat}(tp:Jc p=p)(p0:p≠[])(i:0<=B):Sh B λx z=>DL (JD (ET p) x)=DL (JD (ET p) z)+Ye (DK p) x z:=by
 have d:Yun (Js p) (DK p) (Eg p):=Yun.start (YB p) (Ki tp p0) (KA tp);have k:=RH _ _ _ _ (Aa _) d;have j:=WZ _ (DK p) (Jb (DK p)) (Aa _) d.tw (Jr _) k;refine((j.gd i).and (Wf d i)).mono λx z _ _ q ⟨b,hs⟩=>?_;show DL (JD (ET p) x)=DL (JD (ET p) z)+Ye (DK p) x z;obtain⟨m,f⟩:=Mc (Jb (DK p)).length (DK p) (Jb (DK p));unfold ET;rw[f]at b ⊢;by_cases st:Stb (DK p) x z
 . rw[XY st,b.stay st];rfl
 . cases m with
   |nil=>exact absurd b.o st
   |cons f1 r=>
    obtain⟨w0,hg⟩:=oI f;have sp:=Kk (Jr (DK p)) w0;obtain⟨c,e⟩:∃c,1/Yg (cf (Jb (DK p)) ((Jb (DK p)).length-1))=c:=⟨_,rfl⟩;rw[e]at sp;have l:ev f1 x=ev (Jb (DK p)) x*c:=by rw[hg,<-e];exact Jp _ _ _
    have g:=(b.adj).resolve_left st;obtain⟨s,t⟩:=JC g;have sm:=b.tail.same _ r f1 (Aa _) g;rw[JW,JW,JW,JW,Iq s,Iq t,sm];clear sm f j k d b hg e w0;have w:ev (DK p) x*ev (DK p) z<=0:=Rat.not_lt.1 st;rcases Rat.le_iff_lt_or_eq.1 q with o|v
    . have n:0<ev f1 x*(ev (DK p) z-ev (DK p) x):=by
       rw[l];have:=Rat.mul_pos (hs st o) sp;grind
      have u:0<ev f1 z*(ev (DK p) z-ev (DK p) x):=Xu (a:=ev f1 x) (by
       have:=Rat.mul_pos (show 0<ev f1 x*ev f1 z from g) n;grind)
      grind[oH,Ye]
    grind[Xo,Rat.le_antisymm,Ye]
theorem oJ{F:Rat->Nat}(h:Sh B λx y=>F y<=F x){a b:Rat}(c:Wi B a)(i:Wi B b)(e:a<=b):F b<=F a:=by
 obtain⟨d,d0,h⟩:=h;obtain⟨n,hn⟩:=steps d0 a b
 have:∀(n:Nat) (a:Rat),Wi B a->a<=b->b-a<=(n:Rat)*d->F b<=F a:=by
  intro n;induction n with
  |zero=>
   intro a c e f;grind
  |succ n l=>
   intro a c e f;have j:((n+1:Nat):Rat)=(n:Rat)+1:=by rw[Rat.natCast_add];rfl
   rw[j]at f;rcases JX (b-a) d with g|g
   . exact h a b c i e g
   . have k:Wi B (a+d):=⟨by have:=c.1;grind,by have:=i.2;grind⟩;grind
 exact this n a c e hn
def oK{p:List Rat}(tp:Jc p=p)(p0:p≠[]){a b:Rat}(c:a<=b):DL (JD (ET p) b)<=DL (JD (ET p) a):=by
 obtain⟨A,d,hA⟩:=JN a;obtain⟨C,e,hC⟩:=JN b;refine oJ (B:=A+C) (F:=λx=>DL (JD (ET p) x)) ?_ (hA.mono DG) (hC.mono DG) c;refine(Y3 tp p0 (B:=A+C) DG).mono λx y _ _ _ h=>?_;omega
def oL{p:List Rat}(tp:Jc p=p)(p0:p≠[]){a b:Rat}(c:a<=b):DL (JD (Jw p) b)<=DL (JD (Jw p) a):=by
 have d:=Kl tp p0 c;have e:=oK tp p0 c;omega
theorem Me{v:List Rat}(h:DR u v)(i:0<=B):Sh B λx z=>Ye (Jj u v) x z=Ye u x z+Ye v x z:=by
 obtain⟨s,t,p⟩:=h;obtain⟨S,k,o⟩:=XM s i;obtain⟨T,l,hT⟩:=XM t i;have d:∀ {r K:Rat},0<K->K*(r/K)=r:=λA=>by grind
 refine((Xc u i (Yf G8 k)).and (Xc v i (Yf G8 l))).mono λx z j _ _ ⟨m,n⟩=>?_;have e:∀y,ev (Jj u v) y=ev u y*ev v y:=λy=>Je _ _ _;by_cases g:Stb u x z
 . by_cases c:Stb v x z
   . have:Stb (Jj u v) x z:=by
      unfold Stb at *;rw[e,e];have:=Rat.mul_pos g c;grind
     rw[XY this,XY g,XY c]
   . rw[XY g,AW];unfold Ye Stb at *;rw[e,e];obtain⟨u1,u2⟩:=JC g;by_cases q:ev v x≠0/\ev v x*ev v z<=0
     . rw[BH q,BH ⟨λf=>by grind,by have:=Rat.mul_nonneg (a:=ev u x*ev u z) (b:=-(ev v x*ev v z)) DG DG;grind⟩]
     grind
 . have c:Stb v x z:=Classical.byContradiction λc=>by
    have D:=KM (p x) (o x j) (m g).1 (by rw[d k];exact Rat.le_refl);have w:=((hT x j).mul (n c).1).2;rw[d l]at w;grind
   rw[XY c,Cb];unfold Ye Stb at *;rw[e,e];obtain⟨u1,u2⟩:=JC c;by_cases q:ev u x≠0/\ev u x*ev u z<=0
   . rw[BH q,BH ⟨λf=>by grind,by have:=Rat.mul_nonneg (a:=ev v x*ev v z) (b:=-(ev u x*ev u z)) DG DG;grind⟩]
   grind
theorem DR.of_unit{a:List Rat}(h:Dv a [1])(c:List Rat):DR a c:=by
 obtain⟨d,b⟩:=h;refine⟨d,[],λx=>?_⟩;have:=b x;rw[Jn]at this;simp[ev];grind
def DR.mul_left{a b c:List Rat}(h:DR a c)(d:DR b c):DR (Jj a b) c:=(h.symm.mul d.symm).symm
theorem oM:∀(n:Nat) (R w y:List Rat),R.length<=n->Yun R w y->∀c,DR w c->DR R c:=by
 intro n;induction n with
 |zero=>intro R w y hn h;exact absurd (Ak.1 O) h.R0
 |succ n i=>
  intro R w y hn h c e;by_cases hl:w.length<=1
  . obtain⟨d,m⟩:=LJ h.tw h.w0 hl;refine DR.of_unit (MS h.tR h.R0 ⟨Jj d y,λx=>?_⟩) c;have l:=h.eq x;grind[Je,ev]
  . obtain⟨_,_,a,b,_,k⟩:=h.step;have j:(Jm R w).length<=n:=by
     have:=JF h.tw a.tR h.w0 a.R0;rw[<-b]at this;omega
    have f:Dv (Jm w (Ju w (JS y (Jb w)))) w:=⟨Ju w (JS y (Jb w)),λx=>by
     grind[Je]⟩
    have g:=i _ _ _ j a c (e.of_dv f);rw[b];exact e.mul_left g
def Db(u:List Rat):Prop:=DR u (Jb u)
theorem Db.parts{a b:List Rat}(h:Db (Jj a b)):DR a b:=by
 obtain⟨u,v,c⟩:=h;refine⟨X2 (Jj u b) (Jj v (Jb b)),Jj v (Jb a),λx=>?_⟩;grind[Yt,Je,YQ]
theorem Db.of_dv{a b:List Rat}(h:Db b)(tb:Jc b=b)(d:Dv a b):Db a:=by
 obtain⟨c,_,e⟩:=d.some tb;obtain⟨u,v,f⟩:=h;rw[e]at f;refine⟨X2 (Jj u c) (Jj v (Jb c)),Jj v c,λx=>?_⟩;grind[Yt,Je,YQ]
theorem Db.mul{a b:List Rat}(e:Db a)(f:Db b)(h:DR a b):Db (Jj a b):=by
 have c:=Yt a b;have c1:DR a (Jb (Jj a b)):=(DR.mul e h).shift (d:=Jj [-1] (Jb b)) λx=>by
  rw[Je,Je,Jn,c];grind
 have c2:DR b (Jb (Jj a b)):=(h.symm.mul f).shift (d:=Jj [-1] (Jb a)) λx=>by
  rw[Je,Je,Jn,c];grind
 exact c1.mul_left c2
theorem Db.dv{v:List Rat}(g:Jc u=u)(i:Jc v=v)(M:v≠[])(hv:Db v)(h:∀c,DR u c->DR v c):Dv v u:=by
 have g0:=YD g i (Or.inr M);have tg:=JT u v;obtain⟨j,l,s,t,n⟩:=Yw g i;obtain⟨d,I⟩:=ex (Ju u v);rw[I]at g0 tg j l n;have f:=(JH tg g0 l).2;obtain⟨e,o⟩:=ex (Jm v d);rw[o]at f;have B:v=Jj d e:=Xb i (JA _ _) λx=>by rw[Je,f]
 have z:DR d e:=Db.parts (by rw[<-B];exact hv);have A:DR u e:=by
  obtain⟨a,b,H⟩:=z;have L:Jc e=e:=by rw[<-o];exact Yx _ _
  obtain⟨f1,f2,m,k,f3⟩:=Yw g L;have D:Dv (Ju u e) d:=f1.comb (f2.mul' d) s t λx=>by
   rw[n,Je,f]
  have G:Dv (Ju u e) [1]:=D.comb f2 a b λx=>by rw[Jn,H]
  obtain⟨r,p⟩:=G;refine⟨Jj r m,Jj r k,λx=>?_⟩;have K:=p x;rw[Jn,f3]at K;rw[Je,Je];grind
 have w:=h e A;have y:DR e e:=w.of_dv ⟨d,λx=>by rw[f];grind⟩;obtain⟨r,p⟩:=y.unit (Dv.refl e);obtain⟨q,hq⟩:=j;refine⟨Jj r q,λx=>?_⟩;grind[Je,ev]
def Xi{p:List Rat}(tp:Jc p=p)(p0:p≠[]):Yun (Js p) (DK p) (Eg p):=Yun.start (YB p) (Ki tp p0) (KA tp)
def Ih{p:List Rat}(tp:Jc p=p)(p0:p≠[]):Db (DK p):=RH _ _ _ _ (Aa _) (Xi tp p0)
def RI{p:List Rat}(tp:Jc p=p)(p0:p≠[]):Dv (Js p) p/\Dv p (Js p):=by
 obtain⟨c,b⟩:=Ma tp p0;have a:Dv (Js p) p:=⟨[cf p (p.length-1)],λx=>by
  conv=>lhs;rw[b]
  rw[Jp,Jn]⟩
 exact⟨a,⟨[1/cf p (p.length-1)],λx=>by rw[MQ,Jn]⟩⟩
def IC{p:List Rat}(tp:Jc p=p)(p0:p≠[]):Dv (DK p) p:=(Xi tp p0).dv.trans (RI tp p0).1
def XO{p:List Rat}(tp:Jc p=p)(p0:p≠[])(c:List Rat):DR (DK p) c↔DR p c:=by
 constructor
 . intro h;exact(oM _ _ _ _ (Aa _) (Xi tp p0) c h).of_dv (RI tp p0).2
 . intro h;exact h.of_dv (IC tp p0)
theorem oN{p q:List Rat}(tp:Jc p=p)(p0:p≠[])(tq:Jc q=q)(q0:q≠[]):
 ∃a b c:List Rat,DR a b/\DR a c/\DR (Jj a b) c/\DK p=Jj a b/\DK q=Jj a c/\DK (Jj p q)=Jj (Jj a b) c/\DK (Ju p q)=a:=by
 have e:=Xi tp p0;have f:=Xi tq q0;have sp:=Ih tp p0;have sq:=Ih tq q0;have s:=JA p q;have t:Jj p q≠[]:=Xn tp tq p0 q0;have tg:=JT p q;have g0:=YD tp tq (Or.inl p0);have m:=Xi s t;have l:=Xi tg g0;obtain⟨o,w,_⟩:=Yw e.tw f.tw;have ta:=JT (DK p) (DK q);have ma:=XU e.tw f.tw;have a0:=YD e.tw f.tw (Or.inl e.w0);have n:=N9 e.tw f.tw a0;obtain⟨mb,_,b0,i⟩:=MT e.tw e.w0 e.mw ta ma o;obtain⟨y,_,c0,j⟩:=MT f.tw f.w0 f.mw ta ma w;have H:∀d,Dv d (DK p)->Dv d (DK q)->Dv d (Ju (DK p) (DK q)):=λd g k=>LI e.tw f.tw g k;obtain⟨a,V⟩:=ex (Ju (DK p) (DK q));rw[V]at o w ta ma a0 n mb b0 i y c0 j H;obtain⟨b,K⟩:=ex (Jm (DK p) a);obtain⟨c,L⟩:=ex (Jm (DK q) a);have tb:Jc b=b:=by rw[<-K];exact Yx _ _
 have z:Jc c=c:=by rw[<-L];exact Yx _ _
 rw[K]at n mb b0 i;rw[L]at n y c0 j;have Q:DR a b:=Db.parts (by rw[<-i];exact sp);have D:DR a c:=Db.parts (by rw[<-j];exact sq);have A:DR (Jj a b) c:=D.mul_left n;have sc:Db c:=sq.of_dv f.tw ⟨a,λx=>by rw[j,Je];grind⟩;have P:Db (Jj (Jj a b) c):=(by rw[<-i];exact sp:Db (Jj a b)).mul sc A;refine⟨a,b,c,Q,D,A,i,j,?_,?_⟩
 . have r:=JA (Jj a b) c;have G:Jj a b≠[]:=Xn ta tb a0 b0;have R:Jj (Jj a b) c≠[]:=Xn (JA _ _) z G c0;have W:Js (Jj (Jj a b) c)=Jj (Jj a b) c:=by
    have g:=OG (JA a b) z G c0;have k:=OG ta tb a0 b0;rw[k,MX ta a0 ma,MX tb b0 mb,MX z c0 y]at g;exact Xb (YB _) r λx=>by rw[MQ,g];grind
   have B:∀d,DR (DK (Jj p q)) d↔DR (Jj (Jj a b) c) d:=λd=>by
    rw[XO s t];constructor
    . intro h;have g:DR p d:=h.of_dv ((Dv.refl p).mul q);have k:DR q d:=h.of_dv ((Dv.refl q).mul' p);have I:=(XO tp p0 d).2 g;have U:=(XO tq q0 d).2 k;rw[i]at I;exact I.mul_left (U.of_dv ⟨a,λx=>by rw[j,Je];grind⟩)
    . intro h;have g:DR (DK p) d:=h.of_dv (by rw[i];exact(Dv.refl _).mul c);have k:DR (DK q) d:=h.of_dv (by rw[j];exact⟨b,λx=>by rw[Je,Je,Je];grind⟩);exact((XO tp p0 d).1 g).mul_left ((XO tq q0 d).1 k)
   have d1:=Db.dv (u:=DK (Jj p q)) (v:=Jj (Jj a b) c) m.tw r R P λd h=>(B d).1 h;have S:=Db.dv (u:=Jj (Jj a b) c) (v:=DK (Jj p q)) r m.tw m.w0 (Ih s t) λd h=>(B d).2 h;exact Dv.eq m.tw r m.mw W S d1
 . have X:Db a:=sp.of_dv e.tw o;have sg:=Ih tg g0;obtain⟨M,N,_⟩:=Yw tp tq;have f1:Dv (DK (Ju p q)) (DK p):=Db.dv e.tw l.tw l.w0 sg λd h=>((XO tp p0 d).1 h).of_dv ((IC tg g0).trans M);have f2:Dv (DK (Ju p q)) (DK q):=Db.dv f.tw l.tw l.w0 sg λd h=>((XO tq q0 d).1 h).of_dv ((IC tg g0).trans N);have f3:=H _ f1 f2;have T:Dv a (DK (Ju p q)):=Db.dv l.tw ta a0 X λd h=>((XO tg g0 d).1 h).of_dv (LI tp tq (o.trans (IC tp p0)) (w.trans (IC tq q0)));exact Dv.eq l.tw ta l.mw ma f3 T
theorem oO{p q:List Rat}(tp:Jc p=p)(p0:p≠[])(tq:Jc q=q)(q0:q≠[])(d:0<=B):
 Sh B λx z=>Ye (DK (Jj p q)) x z+Ye (DK (Ju p q)) x z=Ye (DK p) x z+Ye (DK q) x z:=by
 obtain⟨a,b,c,e,f,g,i,j,k,l⟩:=oN tp p0 tq q0;refine(((Me e d).and (Me f d)).and (Me g d)).mono λx z _ _ _ ⟨⟨m,n⟩,o⟩=>?_;grind
theorem oP(l:List Rat):∀a,Xd a l<=l.length:=by
 induction l with
 |nil=>intro a;exact Aa _
 |cons b l c=>
  intro a;grind[Xd]
theorem OL(l:List Rat):DL l<=l.length-1:=by
 cases l with
 |nil=>exact Aa _
 |cons a l=>
  grind[oP,DL,Xd]
theorem Wl:∀(n:Nat) (a b:List Rat),b.length<=n->Jc b=b->(EO a b).length<=b.length+1:=by
 intro n;induction n with
 |zero=>
  intro a b hn _
  have:b=[]:=Ak.1 O
  subst this;exact Aa _
 |succ n c=>
  intro a b hn tb;by_cases b0:b=[]
  . grind
  . have hl:=Xg (a:=a) tb b0;grind[Ic,XF]
theorem RJ{p:List Rat}(p0:p≠[]):(Jw p).length<=p.length:=by
 unfold Jw Y7;rw[CR];have a:=Wl _ (Jo p) (Jo (Jb p)) (Aa _) (J4 _);grind[JJ,Jr,YU]
def Wm{p:List Rat}(p0:p≠[]):DL (EL (Jw p))<=p.length-1:=by
 have a:=OL (EL (Jw p));have b:(EL (Jw p)).length=(Jw p).length:=by unfold EL;rw[CR]
 have c:=RJ p0;omega
theorem oQ{p q:List Rat}(tp:Jc p=p)(p0:p≠[])(tq:Jc q=q)(q0:q≠[]){a b:Rat}(f:a<=b):
 (DL (JD (Jw (Jj p q)) a)+DL (JD (Jw (Ju p q)) a))+(DL (JD (Jw p) b)+DL (JD (Jw q) b))=(DL (JD (Jw (Jj p q)) b)+DL (JD (Jw (Ju p q)) b))+(DL (JD (Jw p) a)+DL (JD (Jw q) a)):=by
 have d:=JA p q;have e:Jj p q≠[]:=Xn tp tq p0 q0;have tg:=JT p q;have g0:=YD tp tq (Or.inl p0);obtain⟨A,g,hA⟩:=JN a;obtain⟨C,i,hC⟩:=JN b;have c:0<=A+C:=DG
 have h:=glue (B:=A+C) (F:=λx=>DL (JD (ET (Jj p q)) x)+DL (JD (ET (Ju p q)) x)) (G:=λx=>DL (JD (ET p) x)+DL (JD (ET q) x)) (((((Y3 d e c).and (Y3 tg g0 c)).and ((Y3 tp p0 c).and (Y3 tq q0 c))).and (oO tp p0 tq q0 c)).mono λx z _ _ _ ⟨⟨⟨j,k⟩,l,m⟩,n⟩=>by
  omega) (hA.mono DG) (hC.mono DG) f
 grind[Kl]
theorem oR{p q:List Rat}(tp:Jc p=p)(p0:p≠[])(tq:Jc q=q)(q0:q≠[])(x:Rat):
 (DL (EL (Jw (Jj p q)))+DL (EL (Jw (Ju p q))))+(DL (JD (Jw p) x)+DL (JD (Jw q) x))=(DL (JD (Jw (Jj p q)) x)+DL (JD (Jw (Ju p q)) x))+(DL (EL (Jw p))+DL (EL (Jw q))):=by
 have c:=JA p q;have d:Jj p q≠[]:=Xn tp tq p0 q0;have tg:=JT p q;have g0:=YD tp tq (Or.inl p0);obtain⟨B1,g,_,f1⟩:=Xh (Yj c d);obtain⟨B2,i,_,f2⟩:=Xh (Yj tg g0);obtain⟨B3,j,_,f3⟩:=Xh (Yj tp p0);obtain⟨B4,k,_,e⟩:=Xh (Yj tq q0);obtain⟨X,f,hX⟩:=JN x;obtain⟨y,l⟩:∃y,-(B1+B2+B3+B4+X)=y:=⟨_,rfl⟩;have h:=oQ tp p0 tq q0 (a:=y) (b:=x) (by have:=hX.1;clear f1 f2 f3 e;grind);grind
theorem oS{p q:List Rat}(tp:Jc p=p)(p0:p≠[])(tq:Jc q=q)(q0:q≠[]):
 (DL (EL (Jw (Jj p q)))+DL (EL (Jw (Ju p q))))+(DL (GS (Jw p))+DL (GS (Jw q)))=(DL (GS (Jw (Jj p q)))+DL (GS (Jw (Ju p q))))+(DL (EL (Jw p))+DL (EL (Jw q))):=by
 have a:=JA p q;have b:Jj p q≠[]:=Xn tp tq p0 q0;have tg:=JT p q;have g0:=YD tp tq (Or.inl p0);obtain⟨B1,c,f1,_⟩:=Xh (Yj a b);obtain⟨B2,d,f2,_⟩:=Xh (Yj tg g0);obtain⟨B3,e,f3,_⟩:=Xh (Yj tp p0);obtain⟨B4,f,g,_⟩:=Xh (Yj tq q0);obtain⟨y,i⟩:=ex (B1+B2+B3+B4);have h:=oR tp p0 tq q0 y;grind
theorem OM{p q:List Rat}(tp:Jc p=p)(p0:p≠[])(tq:Jc q=q)(q0:q≠[])(h:DK p=DK q){a b:Rat}(d:a<=b):
 DL (JD (Jw p) a)+DL (JD (Jw q) b)=DL (JD (Jw p) b)+DL (JD (Jw q) a):=by
 obtain⟨A,e,hA⟩:=JN a;obtain⟨C,f,hC⟩:=JN b;have c:0<=A+C:=DG
 have g:=glue (B:=A+C) (F:=λx=>DL (JD (ET p) x)) (G:=λx=>DL (JD (ET q) x)) (((Y3 tp p0 c).and (Y3 tq q0 c)).mono λx z _ _ _ ⟨i,j⟩=>by
  grind) (hA.mono DG) (hC.mono DG) d
 grind[Kl]
theorem oT{p q:List Rat}(tp:Jc p=p)(p0:p≠[])(tq:Jc q=q)(q0:q≠[])(h:DK p=DK q)(x:Rat):
 DL (EL (Jw p))+DL (JD (Jw q) x)=DL (JD (Jw p) x)+DL (EL (Jw q)):=by
 obtain⟨B3,e,_,f3⟩:=Xh (Yj tp p0);obtain⟨B4,f,_,c⟩:=Xh (Yj tq q0);obtain⟨X,d,hX⟩:=JN x;obtain⟨y,i⟩:∃y,-(B3+B4+X)=y:=⟨_,rfl⟩;have g:=OM tp p0 tq q0 h (a:=y) (b:=x) (by have:=hX.1;clear f3 c;grind);grind
theorem oU{p q:List Rat}(tp:Jc p=p)(p0:p≠[])(tq:Jc q=q)(q0:q≠[])(h:DK p=DK q):
 DL (EL (Jw p))+DL (GS (Jw q))=DL (GS (Jw p))+DL (EL (Jw q)):=by
 obtain⟨B3,a,f3,_⟩:=Xh (Yj tp p0);obtain⟨B4,b,c,_⟩:=Xh (Yj tq q0);obtain⟨y,e⟩:=ex (B3+B4);have d:=oT tp p0 tq q0 h y;grind
theorem RK{p:List Rat}{c:Rat}(a:c≠0)(tp:Jc p=p):DK (DM c p)=DK p:=by
 unfold DK;rw[MN a tp]
theorem oV(hs:s*s=1):s=1\/s=-1:=by
 grind
theorem oW{K u:Rat}(hs:s*s=1)(h:Wi K u):∀n:Nat,Wi K (s^n*u):=by
 intro n;induction n with
 |zero=>grind
 |succ n a=>
  rw[Rat.pow_succ];rcases oV hs with e|e
  . grind
  . rw[e]at a ⊢;have:=a.neg;grind
theorem oX{M:Rat}(hs:s*s=1)(hM:0<=M):∀p:List Rat,Jc p=p->p≠[]->∀k,cf p (p.length-1)=k->(∀i,i+1<p.length->Wi (M*(k*k)) (k*cf p i))->∀x,1+M<=x->k*k<=s^(p.length-1)*(k*ev p (s*x)):=by
 intro p;induction p with
 |nil=>intro _ h;exact absurd rfl h
 |cons c t o=>
  intro tp p0 k hk g x m;by_cases d:t=[]
  . subst d
    have:c=k:=by rw[<-hk];simp[cf]
    subst this;rw[Jn];simp
  . have hl:=Ae.2 d;obtain⟨n,hn⟩:∃n,t.length=n+1:=⟨t.length-1,O⟩;have j:cf t n=k:=by
     rw[<-hk,Ai,hn,show n+1+1-1=n+1 by omega,Yl]
    have w:cf t n≠0:=by
     have:=Jq tp p0;rwa[hk,<-j]at this
    have q:Jc t=t:=Mt (Or.inr DG);have l:=o q d k DG (λi hi=>by
     have:=g (i+1) (by rw[Ai];omega);rwa[Yl]at this) x m
    rw[hn,show n+1-1=n by omega]at l;have f:=g 0 (by rw[Ai];omega);rw[Y9]at f;have r:=(oW hs f (n+1)).1;rw[Ai,hn,show n+1+1-1=n+1 by omega,Hq];have e:s^(n+1)*(k*(c+s*x*ev t (s*x)))=s^(n+1)*(k*c)+x*(s^n*(k*ev t (s*x))):=by
     rw[Rat.pow_succ];grind
    rw[e];have u:=Rat.mul_nonneg (a:=x) (b:=s^n*(k*ev t (s*x))-k*k) DG DG;have v:=Rat.mul_nonneg (a:=x-(1+M)) (b:=k*k) DG (Xo k);grind
theorem quiet{p:List Rat}(tp:Jc p=p)(p0:p≠[])(v:0<e)(h:∀x,U x->e<=ev p x*ev p x)(d:0<=B):Sh B λx z=>U x->Ye (DK p) x z=0:=by
 obtain⟨c,m⟩:=IC tp p0;obtain⟨C,g,hC⟩:=XM c d;obtain⟨f,f0,n⟩:=small (K:=(C*C)*1) (r:=e/2) (Rat.le_of_lt (by have:=Rat.mul_pos g g;grind)) DG;obtain⟨f2,i,l1,l2⟩:=IA f0 (show(0:Rat)<1 by decide);refine(Xc (DK p) d i).mono λx z q _ _ o l=>?_;refine XY (Classical.byContradiction λhn=>?_);have j:=(o hn).1;have k:=h x l;rw[m x]at k;have s:=La j;have t:=La (hC x q);have u:=n f2 l1;have w:=Rat.mul_nonneg (a:=f2*f2-ev (DK p) x*ev (DK p) x) (b:=ev c x*ev c x) DG (Xo _);have y:=Rat.mul_nonneg (a:=f2*f2) (b:=C*C-ev c x*ev c x) (Xo _) DG;have A:=Rat.mul_nonneg (a:=C*C) (b:=f2*(1-f2)) (Xo _) (Rat.mul_nonneg DG DG);grind
theorem oY{F:Rat->Nat}(h:Sh B λx y=>U x->F x=F y){a b:Rat}(c:Wi B a)(j:Wi B b)(f:a<=b)(m:∀x,a<=x->x<=b->U x):F a=F b:=by
 obtain⟨d,d0,h⟩:=h;obtain⟨n,hn⟩:=steps d0 a b
 have:∀(n:Nat) (a':Rat),a<=a'->Wi B a'->a'<=b->b-a'<=(n:Rat)*d->F a'=F b:=by
  intro n;induction n with
  |zero=>
   intro a' _ c f e;grind
  |succ n o=>
   intro a' k c f e;have g:((n+1:Nat):Rat)=(n:Rat)+1:=by rw[Rat.natCast_add];rfl
   rw[g]at e;rcases JX (b-a') d with i|i
   . grind
   . have l:Wi B (a'+d):=⟨by have:=c.1;grind,by have:=j.2;grind⟩;grind
 grind
theorem Wn{p:List Rat}(tp:Jc p=p)(p0:p≠[])(j:0<e){a b:Rat}(i:a<=b)(h:∀x,a<=x->x<=b->e<=ev p x*ev p x):DL (JD (Jw p) a)=DL (JD (Jw p) b):=by
 obtain⟨A,k,hA⟩:=JN a;obtain⟨C,l,hC⟩:=JN b;have d:0<=A+C:=by clear h;grind
 have c:=oY (B:=A+C) (F:=λx=>DL (JD (ET p) x)) (U:=λx=>a<=x/\x<=b) (((Y3 tp p0 d).and (quiet tp p0 j (U:=λx=>a<=x/\x<=b) (λx f=>h x f.1 f.2) d)).mono λx z _ _ _ ⟨n,o⟩ m=>by
  grind) (hA.mono (by clear h;grind)) (hC.mono (by clear h;grind)) i (λx g c=>⟨g,c⟩)
 grind[Kl]
def DR.ext{u v u2 a:List Rat}(h:DR u v)(b:∀x,ev u2 x=ev u x)(c:∀x,ev a x=ev v x):DR u2 a:=by
 obtain⟨s,t,h⟩:=h;exact⟨s,t,λx=>by rw[b,c];exact h x⟩
theorem oZ(hk:k≠0)(w:List Rat)(x z:Rat):Ye (DM k w) x z=Ye w x z:=by
 have d:0<k*k:=by
  have:=XD (f:=[k]) hk (λx=>Jn _ x) 0 0;unfold Stb at this;rwa[Jn]at this
 unfold Ye;rw[Jp,Jp];by_cases h:ev w x≠0/\ev w x*ev w z<=0
 . rw[BH h,BH];refine⟨λe=>?_,?_⟩
   . grind
   . have:=Rat.mul_nonneg (a:=k*k) (b:=-(ev w x*ev w z)) DG (by have:=h.2;grind);grind
 . rw[BG h,BG];rintro⟨c,g⟩;refine h ⟨λe=>c (by rw[e];grind),?_⟩;rcases JX (ev w x*ev w z) 0 with q|q
   . exact q
   . rcases Rat.le_iff_lt_or_eq.1 q with q|q
     . have:=Rat.mul_pos d q;grind
     grind
theorem Mf{v:List Rat}(h:DR u v)(a:0<=B):Sh B λx z=>Stb u x z\/Stb v x z:=by
 obtain⟨s,t,k⟩:=h;obtain⟨S,c,j⟩:=XM s a;obtain⟨T,e,hT⟩:=XM t a;have d:∀ {r K:Rat},0<K->K*(r/K)=r:=λn=>by grind
 refine((Xc u a (Yf G8 c)).and (Xc v a (Yf G8 e))).mono λx z b _ _ ⟨g,i⟩=>?_;by_cases f:Stb u x z
 . exact Or.inl f
 . refine Or.inr (Classical.byContradiction λm=>?_);have o:=KM (k x) (j x b) (g f).1 (by rw[d c];exact Rat.le_refl);have l:=((hT x b).mul (i m).1).2;rw[d e]at l;grind
theorem oc:∀(n:Nat) (R w y:List Rat),R.length<=n->Yun R w y->∀ {B:Rat},0<=B->Sh B λx z=>Stb w x z->Stb R x z:=by
 intro n;induction n with
 |zero=>intro R w y hn h;exact absurd (Ak.1 O) h.R0
 |succ n u=>
  intro R w y hn h B l;by_cases hl:w.length<=1
  . obtain⟨d,H⟩:=LJ h.tw h.w0 hl;have p:Dv R [1]:=MS h.tR h.R0 ⟨Jj d y,λx=>by
     have G:=h.eq x;grind[Je,ev]⟩
    have hl:=(p.len h.tR DJ DJ).1;exact Sh.all λx z _ _ _ _=>QZ h.tR h.R0 hl x z
  . obtain⟨_,i⟩:=h.part;obtain⟨_,_,c,f,_,g⟩:=h.step;obtain⟨a,o⟩:=ex (Ju w (JS y (Jb w)));rw[o]at i c g;obtain⟨w2,r⟩:=ex (Jm w a);rw[r]at i c g;obtain⟨e,m⟩:=ex (Jm R w);rw[m]at c f;have v:e.length<=n:=by
     have:=JF h.tw c.tR h.w0 c.R0;rw[<-f]at this;omega
    have k:∀x,ev w x=ev a x*ev w2 x:=λx=>by
     have:=Je a w2 x;rwa[<-g]at this
    have j:∀x,ev R x=ev w x*ev e x:=λx=>by
     have:=Je w e x;rwa[<-f]at this
    refine((u e w2 _ v c l).and (Mf i l)).mono λx z _ _ _ ⟨s,t⟩ sw=>?_;have A:Stb w2 x z:=by
     rcases t with I|sb
     . unfold Stb at *;rw[k,k]at sw;rcases JX (ev w2 x*ev w2 z) 0 with q|q
       . have:=Rat.mul_nonneg (a:=ev a x*ev a z) (b:=-(ev w2 x*ev w2 z)) DG DG;grind
       . rcases Rat.le_iff_lt_or_eq.1 q with q|q
         . exact q
         . have:ev a x*ev w2 x*(ev a z*ev w2 z)=(ev a x*ev a z)*(ev w2 x*ev w2 z):=DG
           grind
     . exact sb
    have D:=s A;unfold Stb at *;rw[j,j];have:=Rat.mul_pos sw D;grind
theorem od{p:List Rat}(tp:Jc p=p)(p0:p≠[])(b:0<=B):Sh B λx z=>Stb (DK p) x z->Stb p x z:=by
 obtain⟨d,c⟩:=Ma tp p0;have e:∀x,ev p x=ev (Js p) x*cf p (p.length-1):=λx=>by
  conv=>lhs;rw[c]
  rw[Jp]
 refine(oc _ _ _ _ (Aa _) (Xi tp p0) b).mono λx z _ _ _ h s=>?_;have a:=h s;have:=XD (f:=[cf p (p.length-1)]) d (λx=>Jn _ x) 0 0;unfold Stb at *;rw[Jn]at this;rw[e,e];have:=Rat.mul_pos a this;grind
def Eb(w y:List Rat)(x:Rat):Nat:=if 0<ev w x*ev y x\/ev w x=0 then 1 else 0
theorem oe{w y:List Rat}(st:¬Stb w x x):Eb w y x=1/\Ye w x x+Eb w y x<=1:=by
 have u0:ev w x=0:=by
  rcases AN.1 (Rat.le_antisymm (Rat.not_lt.1 st) (Xo (ev w x)))with q|q<;>exact q
 grind[Ye,Eb]
theorem og{w y:List Rat}(r1:0<ev (Jb w) x*(ev w z-ev w x))(l:ev w x*ev w z<=0)(sd:Stb (Jb w) x z)(f:0<ev y x*ev (Jb w) x)(g:0<ev y z*ev (Jb w) z):Eb w y z=1/\Ye w x z+Eb w y x<=1:=by
 unfold Stb at sd;unfold Eb Ye;generalize ev (Jb w) x=d at *;generalize ev (Jb w) z=c at *;generalize ev y x=a at *;generalize ev y z=b at *;generalize ev w x=u at *;generalize ev w z=v at *;have k:0<a*(v-u):=Xu (a:=d) (by have:=Rat.mul_pos f r1;grind);have e:0<c*(v-u):=Xu (a:=d) (by have:=Rat.mul_pos sd r1;grind);have r4:0<b*(v-u):=Xu (a:=c) (by have:=Rat.mul_pos g e;grind);by_cases u0:u=0
 . subst u0;grind
 . have i:u*a<0:=by
    rcases JX 0 (u*a)with q|q
    . exfalso
      have q:0<u*a:=by
       rcases Rat.le_iff_lt_or_eq.1 q with q|q
       . exact q
       . grind[JC]
      have:=Rat.mul_pos q (show 0<v*a by grind);have:=Xu (a:=a) (b:=u*v) DG;grind
    . grind[AN]
   have j:0<v*b\/v=0:=by
    rcases JX (v*b) 0 with t|t
    . rcases Rat.le_iff_lt_or_eq.1 t with t|t
      . exfalso
        have:=Rat.mul_pos (a:=-(v*b)) (b:=-(u*b)) DG DG;have:=Xu (a:=b) (b:=u*v) DG;grind
      grind[JC]
    . grind[AN]
   grind
theorem oh{w y s f:List Rat}(D:0<k)(A:Ye f x z<=Ye s x z)(m:¬Stb w x z->k<=ev y x*ev (Jb w) x/\k<=ev y z*ev (Jb w) z)(n:¬Stb w x z->x<z->0<ev (Jb w) x*(ev w z-ev w x))(B:Stb f x z->Stb y x z)(o:Stb w x z\/Stb (Jb w) x z)(v:ev y x≠0->ev f x≠0)(l:x<=z):
 Ye w x z+Eb w y x<=Eb w y z+Ye s x z:=by
 by_cases st:Stb w x z
 . rw[XY st,AW];obtain⟨G,e⟩:=JC st;by_cases q:Eb w y x<=Eb w y z
   . omega
   ·
    have p:0<ev w x*ev y x:=by
     unfold Eb at q;by_cases r:0<ev w x*ev y x\/ev w x=0
     . grind
     . grind
    have g:¬(0<ev w z*ev y z):=λr=>by
     grind[Eb]
    have L:¬Stb y x z:=λr=>g (by
     have u:=Mv (a:=ev w x) (b:=ev y x) (c:=ev w z) (d:=ev y z) st r;rcases JX (ev w z*ev y z) 0 with t|t
     . rcases Rat.le_iff_lt_or_eq.1 t with t|t
       . grind
       . rcases AN.1 t with t|t
         . exact absurd t e
         . exact absurd t (JC r).2
     . rcases Rat.le_iff_lt_or_eq.1 t with t|t
       . exact t
       . rcases AN.1 t.symm with t|t
         . exact absurd t e
         . exact absurd t (JC r).2)
    grind[Stb,Ye,JC,Eb]
 . obtain⟨I,K⟩:=m st;have sd:=o.resolve_left st;have H:Eb w y z=1/\Ye w x z+Eb w y x<=1:=by
    rcases Rat.le_iff_lt_or_eq.1 l with j|i
    . exact og (n st j) (Rat.not_lt.1 st) sd DG DG
    . subst i;exact oe st
   omega
theorem oi{p:List Rat}(tp:Jc p=p)(hl:1<p.length)(b:0<=B):
 Sh B λx z=>Ye (DK p) x z+Eb (DK p) (Eg p) x<=Eb (DK p) (Eg p) z+Ye (DK (Jb p)) x z:=by
 have p0:p≠[]:=λe=>by rw[e]at hl;simp at hl
 have ts:=Jr p;have g:Jb p≠[]:=λe=>by have:=MR tp e;omega
 have a:=Xi tp p0;have y0:Eg p≠[]:=λe=>by
  have N:Jb (Js p)=[]:=XA (Jr _) λx=>by
   have d:=a.eq x;rw[e]at d;have y:=YW (u:=Jb (Js p)) (v:=[]) a.tw a.w0 (λx=>by
    have d:=a.eq x;rw[e]at d;simp only[ev]at d ⊢;grind) x
   rw[y];rfl
  grind[MR,YB,LG]
 have ty:=a.ty;have dy:Dv (Eg p) (Jb p):=by
  obtain⟨_,D⟩:=Ma tp p0;obtain⟨_,w,_⟩:=Yw (YB p) (Jr (Js p));have g0:=YD (YB p) (Jr (Js p)) (Or.inl (Ki tp p0));have s:=(JH (JT _ _) g0 w).2;refine⟨DM (cf p (p.length-1)) (Ju (Js p) (Jb (Js p))),λx=>?_⟩;have i:=WX (cf p (p.length-1)) (Js p) x;rw[<-D]at i;rw[i,s,Jp];show _=ev (Jm (Jb (Js p)) (Ju (Js p) (Jb (Js p)))) x*_;grind
 have n:=Xi ty y0;have m:=Xi ts g;have dw:Dv (DK (Eg p)) (DK (Jb p)):=Db.dv m.tw n.tw n.w0 (Ih ty y0) λc h=>((XO ts g c).1 h).of_dv ((IC ty y0).trans dy);obtain⟨e,Q,j⟩:=dw.some m.tw;have o:DR (DK (Eg p)) e:=Db.parts (by rw[<-j];exact Ih ts g);have l:=Me o b;rw[<-j]at l;obtain⟨k,M,sg⟩:=Q3 _ _ _ _ (Aa _) a b;have r:=Ih tp p0;refine((((l.and sg).and (Wf a b)).and ((od ty y0 b).and (Mf r b)))).mono λx z _ _ G ⟨⟨⟨P,H⟩,I⟩,K,L⟩=>?_;have t:∀x,ev (Eg p) x≠0->ev (DK (Eg p)) x≠0:=λx h q=>by
  obtain⟨c,A⟩:=IC ty y0;exact h (by rw[A,q];grind)
 exact oh (f:=DK (Eg p)) M O H I K L (t x) G
theorem Wo{P:Rat->Rat->Prop}(o:∀x,P x x)(tr:∀x y z,P x y->P y z->P x z)(h:Sh B P){a b:Rat}(c:Wi B a)(j:Wi B b)(f:a<=b):P a b:=by
 obtain⟨d,d0,h⟩:=h;obtain⟨n,hn⟩:=steps d0 a b
 have:∀(n:Nat) (a:Rat),Wi B a->a<=b->b-a<=(n:Rat)*d->P a b:=by
  intro n;induction n with
  |zero=>
   intro a c f g;have e:a=b:=by
    have:((0:Nat):Rat)=0:=rfl
    rw[this]at g;grind
   rw[e];exact o _
  |succ n m=>
   intro a c f g;have l:((n+1:Nat):Rat)=(n:Rat)+1:=by rw[Rat.natCast_add];rfl
   rw[l]at g;rcases JX (b-a) d with i|i
   . exact h a b c j f i
   . have k:Wi B (a+d):=⟨by have:=c.1;grind,by have:=j.2;grind⟩;exact tr _ _ _ (h a (a+d) c k DG DG) (m (a+d) k DG DG)
 exact this n a c f hn
theorem RL{p:List Rat}(tp:Jc p=p)(p0:p≠[])(a:0<=B):Sh B λx z=>DL (JD (Jw p) x)=DL (JD (Jw p) z)+Ye (DK p) x z:=by
 refine(Y3 tp p0 a).mono λx z _ _ b h=>?_;grind[Kl]
def oj(w y:List Rat)(x:Rat):Eb w y x<=1:=by unfold Eb;split<;>omega
def oo{p:List Rat}(tp:Jc p=p)(hl:1<p.length){a b:Rat}(f:a<=b):
 DL (JD (Jw p) a)+DL (JD (Jw (Jb p)) b)<=DL (JD (Jw p) b)+DL (JD (Jw (Jb p)) a)+1:=by
 have p0:p≠[]:=λe=>by rw[e]at hl;simp at hl
 have g:Jb p≠[]:=λe=>by have:=MR tp e;omega
 obtain⟨A,i,hA⟩:=JN a;obtain⟨C,j,hC⟩:=JN b;have c:0<=A+C:=DG
 have:=Wo (B:=A+C) (P:=λx z=>DL (JD (Jw p) x)+Eb (DK p) (Eg p) x+DL (JD (Jw (Jb p)) z)<=DL (JD (Jw p) z)+Eb (DK p) (Eg p) z+DL (JD (Jw (Jb p)) x))
  (λ_=>Aa _) (λ_ _ _ _ _=>by omega) (((RL tp p0 c).and ((RL (Jr p) g c).and (oi tp hl c))).mono λx z _ _ _ ⟨d,k,l⟩=>by
   show _<=_;omega) (hA.mono DG) (hC.mono DG) f
 have d:=oj (DK p) (Eg p) b;omega
theorem RM{a b:Rat}(f:a≠0)(g:b≠0):a*b<0↔¬(a<0↔b<0):=by
 have pos:∀ {c:Rat},c≠0->¬c<0->0<c:=fun {c} d e=>by
  grind
 by_cases d:a<0<;>by_cases e:b<0
 . have:=Rat.mul_pos (a:=-a) (b:=-b) DG DG;simp[d,e];grind
 . have:=Rat.mul_pos (a:=-a) (b:=b) DG (pos g e);simp[d,e];grind
 . have:=Rat.mul_pos (a:=a) (b:=-b) (pos f d) DG;simp[d,e];grind
 grind[Rat.mul_pos]

