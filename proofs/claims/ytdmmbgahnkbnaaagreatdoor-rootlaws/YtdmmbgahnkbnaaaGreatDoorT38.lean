import Derived.Test.YtdmmbgahnkbnaaaGreatDoorT37
set_option linter.all false
open Go.Value renaming slice->C
open Go renaming Value->E,World->F
set_option maxRecDepth 99999
set_option maxHeartbeats 0
namespace Go.Proofs.YtdmmbgahnkbnaaaGreatDoor
section
open Go.RowKit Go.Shelf
def LX(s:List Rat × List Rat):List Rat × List Rat:=(Dt s.1 (Jr s.1 (JR s.2 (Jb s.1))),Dt (JR s.2 (Jb s.1)) (Jr s.1 (JR s.2 (Jb s.1))))
def DW(w y:List Rat):Nat->List Rat × List Rat
 |0=>(w,y)
 |n+1=>LX (DW w y n)
def yP(s:List Rat × List Rat):List Rat:=Jr s.1 (JR s.2 (Jb s.1))
def yL(w y:List Rat):Nat->List (List Rat × Nat)
 |0=>[]
 |n+1=>yL w y n++(if 1<(yP (DW w y n)).length then [(yP (DW w y n),n+1)]else [])
theorem Wf(w y:List Rat):∀n,(yL w y n).length<=n:=by
 intro n;induction n with
 |zero=>exact Aa _
 |succ n a=>
  grind[yL]
structure StOk(K M:Nat)(w y:List Rat):Prop where
 ch:M3.ChOk K w (JR y (Jb w))
 ty:Jc y=y
 cw:Cd M w
 cs:Cd M (Jb w)
 cy:Cd M y
 cz:Cd M (JR y (Jb w))
 kM:Da K w (JR y (Jb w))<=M
 l1:2*((w.length+3)*(M+1))<=1000000000
 l2:2*(((JR y (Jb w)).length+3)*(M+1))<=1000000000
structure PtOk(K M N:Nat)(p:List Rat):Prop where
 tp:Jc p=p
 cp:Cd M p
 ch:M3.ChOk K (Js p) (Jb (Js p))
 kM:Da K (Js p) (Jb (Js p))<=M
 l1:2*((p.length+3)*(M+1))<=1000000000
 gt:1<p.length
 nN:N<=1000000000
 st:∀n,n<N->1<(DW (Dt (Js p) (Jr (Js p) (Jb (Js p)))) (Dt (Jb (Js p)) (Jr (Js p) (Jb (Js p)))) n).1.length/\StOk K M (DW (Dt (Js p) (Jr (Js p) (Jb (Js p)))) (Dt (Jb (Js p)) (Jr (Js p) (Jb (Js p)))) n).1 (DW (Dt (Js p) (Jr (Js p) (Jb (Js p)))) (Dt (Jb (Js p)) (Jr (Js p) (Jb (Js p)))) n).2
 en:(DW (Dt (Js p) (Jr (Js p) (Jb (Js p)))) (Dt (Jb (Js p)) (Jr (Js p) (Jb (Js p)))) N).1.length<=1
def Kr(p:List Rat)(N:Nat):List (List Rat × Nat):=yL (Dt (Js p) (Jr (Js p) (Jb (Js p)))) (Dt (Jb (Js p)) (Jr (Js p) (Jb (Js p)))) N
namespace M3
def FR(base:Nat)(V:F)(v:E)(L:List (List Rat × Nat)):Prop:=EK true base V v L
section
variable {base:Nat} {V V':World} {v:Value} {L:List (List Rat × Nat)}
def FR.below(h:FR base V v L)(a:Bl V V'):FR base V' v L:=EK.below h a
def FR.drew(h:FR base V v L):FR base V.drew v L:=EK.below h ((BB _ V).drew)
def FR.alloc(h:FR base V v L)(o:Obj):FR base (V.alloc o) v L:=EK.below h (Ba V o)
def FR.set1(h:FR base V v L){B:Nat}{a:Option Addr}{l c:Nat}(q:Boxed V B 25 (C a l c))(_:JT (C a l c)=true)(b:E):FR base (V.setCell ⟨B,0,none⟩ b) v L:=EK.set h q (λ_ _ g=>FV q b g)
end
def Wl(a b:E)(ps qs:List Rat)(w:F)(g:Jd w a ps)(i:Jd w b qs)(j:Sqs ps)(k:Sqs qs)(l:Sqs (JR ps qs)):
 Calls Tryz.prog 30 #[a,b] w λe w'=>∃u,e=.returned u/\Jd w' u (JR ps qs)/\Bl w w':=by
 refine(VE a b ps qs w g i j k l).mono ?_;rintro e w' ⟨u,c,d,_,f⟩;exact⟨u,c,d,f⟩
def RJ{M:Nat}{w:List Rat}(h:Cd M (Jb w))(hM:M<=1000000000)(i:Nat):Sq (GD w i):=by
 have a:=(h.sqs hM).at i;unfold Jb at a;rwa[Yp,KO]at a
attribute [local go_sem] Oper.semAt_some
theorem Wm(K M N:Nat)(v:E)(p:List Rat)(w:F)(h:Jd w v p)(D:PtOk K M N p):
 Calls Tryz.prog 50 #[v] w λe w'=>∃u,e=.returned u/\EK true w.heap.size w' u (Kr p N)/\Bl w w':=by
 obtain⟨q,hq⟩:=ex (Js p);obtain⟨c,hc⟩:=ex (Jr q (Jb q));obtain⟨w0,ah⟩:=ex (Dt q c);obtain⟨y0,ai⟩:=ex (Dt (Jb q) c);have hM:M<=1000000000:=by
  have h1:=D.l1;grind
 have Qn:=D.ch;have Ue:=D.kM;rw[hq]at Qn Ue;have Ur:q.length=p.length:=by rw[<-hq];exact XW D.tp
 have Qr:Cd M q:=by rw[<-hq];exact D.cp.mon D.tp
 have Uf:Jc q=q:=by rw[<-hq];exact Yu _
 have Uc:Cd M (Jb q):=(show Cd K (Jb q)from Qn.cq).mono (by have:=OH K q (Jb q);omega);have Qt:Cd M c:=by rw[<-hc];exact Qn.gcd.mono Ue
 have Ug:Jc c=c:=by rw[<-hc];exact JE _ _
 have Qz:Js c=c:=by rw[<-hc];exact YM Uf (Jt _)
 have Up:2*(((Jb q).length+3)*(M+1))<=1000000000:=by
  have h1:(Jb q).length<=q.length:=Ad (Ym _) (by simp[Hv]);have h2:((Jb q).length+3)*(M+1)<=(p.length+3)*(M+1):=Ae _ O;have h3:=D.l1;omega
 obtain⟨Ud,Wa,Ul,Wk,Wj,Wb⟩:=IC (λ(V:F) (x:E) (r:List Rat) (z:Jd V x r)=>JY x r V z) (λ(V:F) (x:E) (z:Jd V x p)=>show Calls Tryz.prog 83 #[x] V λe w'=>∃u,e=.returned u/\Jd w' u q/\Bl V w' by rw[<-hq];exact oK M x p V z D.tp D.cp hM) (λ(V:F) (x:E) (z:Jd V x q)=>LS x q V z (Qr.sqs hM) (RJ Uc hM)) (λ(V:F) (x y:E) (z:Jd V x q) (H:Jd V y (Jb q))=>show Calls Tryz.prog 29 #[x,y] V λe w'=>∃u,e=.returned u/\Jd w' u c/\Bl V w' by rw[<-hc];exact RI K x y q (Jb q) V z H Qn) (λ(V:F) (x y:E) (z:Jd V x q) (H:Jd V y c)=>show Calls Tryz.prog 116 #[x,y] V λe w'=>∃u,e=.returned u/\Jd w' u w0/\Bl V w' by rw[<-ah];exact OM M x y q c V z H Qr Qt Uf Ug Qz (by rw[Ur];exact D.l1)) (λ(V:F) (x y:E) (z:Jd V x (Jb q)) (H:Jd V y c)=>show Calls Tryz.prog 116 #[x,y] V λe w'=>∃u,e=.returned u/\Jd w' u y0/\Bl V w' by rw[<-ai];exact OM M x y (Jb q) c V z H Uc Qt (Jt _) Ug Qz Up);have Qs:=D.st;have Qw:=D.en;rw[hq,hc,ah,ai]at Qs Qw;obtain⟨Uq,Wc,We⟩:=Db Qs Qw (show Kr p N=yL w0 y0 N by unfold Kr;rw[hq,hc,ah,ai]);rw[We.o];obtain⟨Uy,Uz,Wd⟩:=Db (λ(a b:List Rat) (o:StOk K M a b) (V:F) (x:E) (z:Jd V x a)=>LS x a V z (o.cw.sqs hM) (RJ o.cs hM)) (λ(a b:List Rat) (o:StOk K M a b) (V:F) (x y:E) (z:Jd V x b) (H:Jd V y (Jb a))=>Wl x y b (Jb a) V z H (o.cy.sqs hM) (o.cs.sqs hM) (o.cz.sqs hM)) λ(a b:List Rat) (o:StOk K M a b) (V:F) (x y:E) (z:Jd V x a) (H:Jd V y (JR b (Jb a)))=>RI K x y a (JR b (Jb a)) V z H o.ch;have X:∀(a b:List Rat),StOk K M a b->Cd M (Jr a (JR b (Jb a)))/\Jc (Jr a (JR b (Jb a)))=Jr a (JR b (Jb a))/\Js (Jr a (JR b (Jb a)))=Jr a (JR b (Jb a)):=λa b o=>⟨o.ch.gcd.mono o.kM,JE _ _,YM o.ch.tp o.ch.tq⟩;have Uu:=Z λ(a b:List Rat) (o:StOk K M a b) (V:F) (x y:E) (z:Jd V x a) (H:Jd V y (Jr a (JR b (Jb a))))=>OM M x y a (Jr a (JR b (Jb a))) V z H o.cw (X a b o).1 o.ch.tp (X a b o).2.1 (X a b o).2.2 o.l1;have Wg:=Z λ(a b:List Rat) (o:StOk K M a b) (V:F) (x y:E) (z:Jd V x (JR b (Jb a))) (H:Jd V y (Jr a (JR b (Jb a))))=>OM M x y (JR b (Jb a)) (Jr a (JR b (Jb a))) V z H o.cz (X a b o).1 o.ch.tq (X a b o).2.1 (X a b o).2.2 o.l2;have Ua:¬(p.length:Int)-1<1:=by have:=D.gt;omega
 obtain⟨d0,bi⟩:=ex ((p.length:Int)-1:Int);rw[bi]at Ua;have Ux:=Z bi;have gv:=D.nN;obtain⟨pa,la,pc,rfl⟩:=h.form;obtain⟨W0,fe,M1⟩:=Kc 25 (.poly p) h;clear h D Qn Ue Ur Qr Uf Uc Qt Ug Qz Up Qs Qw X hM hq hc ah ai bi;go_enter Tryz.func50,Tryz.ntmps50
 go_upto_region 1 with fail
 rw[fe.o];obtain⟨a1,l1,c1,n1,r1⟩:=M1.o.poly2 (i:=0) J;have Qx:=n1.cell;have G:=Z (Ud.o W0 _ p r1);rw[Ux.o]at G;go_upto_region 3 with(go_at_call 26;refine G.o.mono ?_;rintro e w1 ⟨rfl,hq⟩;clear Qx;have Qx:=(boxed_below n1 hq).cell)
 have M2:=Z (M1.o.below hq);clear M1;clear hq n1 r1 Qx;obtain⟨a2,l2,c2,n2,r2⟩:=M2.o.poly2 (i:=0) J;have Qy:=n2.cell;have Qv:=n2.frozen;have G:=Z (Wa.o w1 _ r2);go_upto_region 4 with(go_at_call 83;refine G.o.mono ?_;rintro e w2 ⟨u2,rfl,ce,hq⟩;obtain⟨co,dx,de,rfl⟩:=Jd.form ce;clear Qy;have Qy:=(boxed_below n2 hq).cell;clear Qv;have Qv:=(boxed_below n2 hq).frozen)
 obtain⟨V3,R⟩:=ex (w2.setCell ⟨w.heap.size,0,none⟩ (C co dx de));have l:DM w (w2.setCell ⟨w.heap.size,0,none⟩ (C co dx de)) [some (w.heap.size,.poly q)]:=DM.putPoly (M2.o.below hq) (i:=0) J ce;rw[R]at l;rw[R];have M3:=Z (l);clear M2;clear l R;clear ce hq n2 r2 Qy Qv;refine YB Dj [[],[],[1],[0,2,2],[],[4,3,3,0,1,2,3,4]] [.poly q,.poly q,.poly (Jb q),.poly c,.ptr,.eq undef] [4,5] (λb v V=>DM w V [some (w.heap.size,.poly q),nb b v 0 1 (.poly []) (.poly c)]) (M3.o.none).drew (Pu (.vl J λ_ j=>E9 0 j)<|Pu (.vl J λ_ j=>E9 0 j)<|Pu (.cl λh _=>Ul.o _ _ (h.g 1))<|Pu (.cl λh _=>Wk.o _ _ _ (h.g 0) (h.g 2))<|Pu (.wr J λ_ j=>Ki 1 j)<|Pu (.wr J λh j=>F8 1 j (h.g 3) (hp:=h.g 4)) Stp.end_)
  λf V5 hF l=>?_
 refine DS ?_;obtain⟨Q,ay⟩:=hF.p 4;have l:=Dz l;simp only[ay]at l;rw[ay];have W:=Z l;clear l hF ay;clear M3;go_upto_region 5 with fail
 refine YB Dj [[],[],[0,1],[],[3,2],[],[4,5,4],[],[],[7,2,6,0,1,2,7,8],[8,6,9,0,1,2,3,4,5,6,7,8,9]] [.poly q,.poly c,.poly w0,.poly q,.poly (Jb q),.poly c,.poly y0,.ptr,.ptr,.eq undef,.eq undef] [7,8,9,10] (λb v V=>DM w V [some (w.heap.size,.poly q),some (Q,.poly c),nb b v 0 2 (.poly []) (.poly w0),nb b v 1 3 (.poly []) (.poly y0)]) ((W.o.none).none).drew (Pu (.vl J λ_ j=>E9 0 j)<|Pu (.vl J λ_ j=>E9 1 j)<|Pu (.cl λh _=>Wj.o _ _ _ (h.g 0) (h.g 1))<|Pu (.vl J λ_ j=>E9 0 j)<|Pu (.cl λh _=>Ul.o _ _ (h.g 3))<|Pu (.vl J λ_ j=>E9 1 j)<|Pu (.cl λh _=>Wb.o _ _ _ (h.g 4) (h.g 5))<|Pu (.wr J λ_ j=>Ki 2 j)<|Pu (.wr J λ_ j=>Ki 3 j)<|Pu (.wr J λh j=>F8 2 j (h.g 2) (hp:=h.g 7))<|Pu (.wr J λh j=>F8 3 j (h.g 6) (hp:=h.g 8)) Stp.end_)
  λf V8 hF l=>?_
 refine DS ?_;obtain⟨B9,az⟩:=hF.p 7;obtain⟨B10,aq⟩:=hF.p 8;have l:=Dz l;simp only[az,aq]at l;rw[az,aq];have M5:=Z l;clear l hF az aq;clear W;go_wp2;go_loopw [6,7] (λlv tv wr=>∃(k:Nat) (S:Option Addr) (U:Nat),k<=N/\lv=C S (yL w0 y0 k).length U/\tv=.int .i64 ((k+1:Nat):Int)/\Hid (FR w.heap.size wr (C S (yL w0 y0 k).length U) (yL w0 y0 k))/\Hid (DM w wr [some (w.heap.size,.poly q),some (Q,.poly c),some (B9,.poly ((DW w0 y0 k).1)),some (B10,.poly ((DW w0 y0 k).2))])) λ_ tv _=>N+1-(intOf tv).toNat
 case atStart=>exact⟨0,none,0,As _,J,J,Z (EK.nil _ _ _),M5⟩
 case round=>
  clear M5;obtain⟨k,S,U,hk,rfl,rfl,XL,M6⟩:=hrel;obtain⟨g,bu⟩:=ex ((DW w0 y0 k).1);obtain⟨s,bz⟩:=ex ((DW w0 y0 k).2);obtain⟨L,hL⟩:=ex (yL w0 y0 k);have A:=Z (show(DW w0 y0 k).1=g/\(DW w0 y0 k).2=s/\yL w0 y0 k=L/\L.length<=k from⟨bu,bz,hL,by rw[<-hL];exact Wf _ _ _⟩);rw[bu,bz]at M6;rw[hL]at XL;clear bu bz hL;rw[A.o.2.2.1];obtain⟨ll,bn⟩:=ex (L.length:Nat);rw[bn]at XL ⊢;have Qi:=Z bn;clear bn;obtain⟨T,hT⟩:=ex (k+1:Nat);rw[hT];have Qg:=Z hT;clear hT;obtain⟨fx,gw,gn,aj,r11⟩:=M6.o.poly2 (i:=2) J;have Qc:=aj.cell;have G:=Z (Ud.o wr _ g r11);obtain⟨d1,bj⟩:=ex ((g.length:Int)-1:Int);rw[bj]at G;have Uo:=Z bj;clear bj;by_cases dj:k<N
  . have Us:(0:Int)<d1:=by have h1:=(Uq.o k dj).1;rw[A.o.1]at h1;have:=Uo.o;omega
    have HO:=Z (show StOk K M g s by have h1:=(Uq.o k dj).2;rwa[A.o.1,A.o.2.1]at h1);go_upto_region 10 with(go_at_call 26;refine G.o.mono ?_;rintro e w1 ⟨rfl,hq⟩;clear Qc;have Qc:=(boxed_below aj hq).cell)
    have M7:=Z (M6.o.below hq);have Un:=Z (XL.o.below hq);clear XL hq aj r11 Qc M6;refine YB Dj [[],[],[1],[0,2,2],[3,3,0,1,2,3]] [.poly s,.poly g,.poly (Jb g),.poly (JR s (Jb g)),.eq undef] [4] (λb _ V=>DM w V [some (w.heap.size,.poly q),some (Q,.poly c),some (B9,.poly g),some (B10,if b.getD 0 false then .poly (JR s (Jb g))else .poly s)]/\FR w.heap.size V (C S ll U) L) ⟨M7.o.drew,Un.o.drew⟩ (Pu (.vl J λ_ j=>E9 3 j.1)<|Pu (.vl J λ_ j=>E9 2 j.1)<|Pu (.cl λh _=>Uy.o g s HO.o _ _ (h.g 1))<|Pu (.cl λh _=>Uz.o g s HO.o _ _ _ (h.g 0) (h.g 2))<|Pu (.wr J λh j=>F8 3 j.1 (h.g 3) (hT:=λn m=>⟨m,j.2.set1 n J _⟩)) Stp.end_)
     λf fg hF l=>?_
    obtain⟨l,I⟩:=l;replace I:=Z I;refine DS ?_;have l:=Dz l;have M8:=Z l;clear l hF;clear M7;have Ui:=I;clear I Un;obtain⟨P,hP⟩:=ex (Jr g (JR s (Jb g)));obtain⟨Qo,Qm,Qd,Qf⟩:=Dr hP (Wd.o g s HO.o) (Uu.o g s HO.o) (Wg.o g s HO.o);rw[hP]at Qm Qd Qf;clear hP;obtain⟨gh,gy,gq,dz,ei⟩:=M8.o.poly2 (i:=2) J;have Qu:=dz.cell;obtain⟨gi,ia,gr,ed,f9⟩:=M8.o.poly2 (i:=3) J;have Ub:=ed.cell;have G:=Z (Qm.o fg _ _ ei f9);go_upto_region 12 with(go_at_call 29;refine G.o.mono ?_;rintro e w3 ⟨u3,rfl,cj,hq⟩;obtain⟨an,ck,ap,rfl⟩:=Jd.form cj)
    have Uk:=Z ((Ui.o.below hq).alloc (.cells #[C an ck ap] 25));clear Ui dz ei Qu ed f9 Ub;have Qq:=Uk;clear Uk;obtain⟨fh,R⟩:=ex (w3.alloc (.cells #[C an ck ap] 25));obtain⟨cn,bf⟩:=ex (w3.heap.size);have l:DM w (w3.alloc (.cells #[C an ck ap] 25)) [some (w.heap.size,.poly q),some (Q,.poly c),some (B9,.poly g),some (B10,.poly (JR s (Jb g))),some (w3.heap.size,.poly P)]:=DM.push (M8.o.below hq) (.poly P) cj;rw[R,bf]at l;rw[R]at Qq;rw[R];rw[bf];have M9:=Z (l);clear M8;clear l R bf cj hq;obtain⟨gj,ib,gu,ae,am⟩:=M9.o.poly2 (i:=4) J;have Qb:=ae.cell;have G:=Z (Ud.o fh _ P am);obtain⟨d2,bm⟩:=ex ((P.length:Int)-1:Int);rw[bm]at G;have Uj:=Z bm;clear bm;by_cases df:1<P.length
    . have Uw:(0:Int)<d2:=by have:=Uj.o;omega
      have Qh:=Z (show yL w0 y0 (k+1)=L++[(P,T)]by rw[yL,A.o.2.2.1];unfold yP;rw[A.o.1,A.o.2.1,Qo.o,BF df,Qg.o]);go_upto_region 13 with(go_at_call 26;refine G.o.mono ?_;rintro e w4 ⟨rfl,hq⟩;clear Qb;have Qb:=(boxed_below ae hq).cell)
      have X4:=Qq.o.below hq;have W:=M9.o.below hq;have r4:=am.below hq;have Uh:=W.2.2.size;obtain⟨v',w',bg,X5,di,dh,fo⟩:=oQ true w.heap.size w4 (C S ll U) L X4 (t:=T) r4.row (by have:=A.o.2.2.2;omega) Uh;obtain⟨ya,yc,dt,_,_⟩:=X5.form;rw[Aw,show([(P,T)]:List (List Rat × Nat)).length=1 from J]at dt;subst dt;have M5:=W.farP di (dh _ w (Aa _) W.2.2) (λi B d e=>by rcases i with _|_|_|_|_|i<;>simp at e<;>(obtain⟨rfl,rfl⟩:=e;show 25≠98;decide));have e4:=(boxed_below ae hq).cell;clear X4 r4 Uh di dh fo hq W ae am Qb;rw[show Hq true=95 from J,show EG true=98 from J]at bg;go_upto_region 14 with(first
       |(at_builtin;refine Lib.wpList_append_run _ J _ _ 95 95 J _ _ J J _ _ bg ?_;clear bg))
      clear e4 M9;have Qk:=Z (M5);clear M5;have Um:Hid (FR w.heap.size w' (C ya (L.length+1) yc) (L++[(P,T)])):=Z X5;clear X5;rw[Qi.o]at Um;refine YB Dj [[],[],[0,1],[],[],[3,4,2],[2,5,0,1,2],[5,6,0,1,2,3,4,5,6]] [.poly g,.poly P,.poly (Dt g P),.poly (JR s (Jb g)),.poly P,.poly (Dt (JR s (Jb g)) P),.eq undef,.eq undef] [6,7] (λb _ V=>DM w V [some (w.heap.size,.poly q),some (Q,.poly c),some (B9,if b.getD 0 false then .poly (Dt g P)else .poly g),some (B10,if b.getD 1 false then .poly (Dt (JR s (Jb g)) P)else .poly (JR s (Jb g))),some (cn,.poly P)]/\FR w.heap.size V (C ya (ll+1) yc) (L++[(P,T)])) ⟨Qk.o.drew,Um.o.drew⟩ (Pu (.vl J λ_ j=>E9 2 j.1)<|Pu (.vl J λ_ j=>E9 4 j.1)<|Pu (.cl λh _=>Qd.o _ _ _ (h.g 0) (h.g 1))<|Pu (.vl J λ_ j=>E9 3 j.1)<|Pu (.vl J λ_ j=>E9 4 j.1)<|Pu (.cl λh _=>Qf.o _ _ _ (h.g 3) (h.g 4))<|Pu (.wr J λh j=>F8 2 j.1 (h.g 2) (hT:=λn m=>⟨m,j.2.set1 n J _⟩))<|Pu (.wr J λh j=>F8 3 j.1 (h.g 5) (hT:=λn m=>⟨m,j.2.set1 n J _⟩)) Stp.end_)
       λf fi hF l=>?_
      obtain⟨l,I⟩:=l;replace I:=Z I;refine DS ?_;have l:=Dz l;have Ql:=Z l;clear l hF;generalize f 0=ic,f 1=ie,f 2=ig,f 3=ii,f 4=ij,f 5=il;clear Qk;have Qp:Hid (DM w fi [some (w.heap.size,.poly q),some (Q,.poly c),some (B9,.poly (Dt g P)),some (B10,.poly (Dt (JR s (Jb g)) P))]):=Z (Ql.o.take 4);have Qj:=Z (show(DW w0 y0 (k+1)).1=Dt g P/\(DW w0 y0 (k+1)).2=Dt (JR s (Jb g)) P by rw[DW];unfold LX;rw[A.o.1,A.o.2.1,Qo.o];exact⟨J,J⟩);have Uv:T+1<=9223372036854775807:=by have:=Qg.o;omega
      clear Ql;go_wp2_with fail
      go_roundw
      case rel=>exact⟨k+1,ya,yc,O,by rw[Qh.o,Aw,Qi.o];rfl,by rw[Qg.o];go_num,by rw[Qh.o,Aw,Qi.o];exact I,by rw[Qj.o.1,Qj.o.2];exact Qp⟩
      case measure=>simp[intOf];have:=Qg.o;omega
    . have Uw:¬(0:Int)<d2:=by have:=Uj.o;omega
      have Qh:=Z (show yL w0 y0 (k+1)=L by rw[yL,A.o.2.2.1];unfold yP;rw[A.o.1,A.o.2.1,Qo.o,BE df,CR]);go_upto_region 14 with(go_at_call 26;refine G.o.mono ?_;rintro e w4 ⟨rfl,hq⟩;clear Qb;have Qb:=(boxed_below ae hq).cell)
      have Ut:=Z (Qq.o.below hq);have Qk:=Z (M9.o.below hq);clear M9;clear hq ae am Qb;refine YB Dj [[],[],[0,1],[],[],[3,4,2],[2,5,0,1,2],[5,6,0,1,2,3,4,5,6]] [.poly g,.poly P,.poly (Dt g P),.poly (JR s (Jb g)),.poly P,.poly (Dt (JR s (Jb g)) P),.eq undef,.eq undef] [6,7] (λb _ V=>DM w V [some (w.heap.size,.poly q),some (Q,.poly c),some (B9,if b.getD 0 false then .poly (Dt g P)else .poly g),some (B10,if b.getD 1 false then .poly (Dt (JR s (Jb g)) P)else .poly (JR s (Jb g))),some (cn,.poly P)]/\FR w.heap.size V (C S ll U) L) ⟨Qk.o.drew,Ut.o.drew⟩ (Pu (.vl J λ_ j=>E9 2 j.1)<|Pu (.vl J λ_ j=>E9 4 j.1)<|Pu (.cl λh _=>Qd.o _ _ _ (h.g 0) (h.g 1))<|Pu (.vl J λ_ j=>E9 3 j.1)<|Pu (.vl J λ_ j=>E9 4 j.1)<|Pu (.cl λh _=>Qf.o _ _ _ (h.g 3) (h.g 4))<|Pu (.wr J λh j=>F8 2 j.1 (h.g 2) (hT:=λn m=>⟨m,j.2.set1 n J _⟩))<|Pu (.wr J λh j=>F8 3 j.1 (h.g 5) (hT:=λn m=>⟨m,j.2.set1 n J _⟩)) Stp.end_)
       λf fm hF l=>?_
      obtain⟨l,I⟩:=l;replace I:=Z I;refine DS ?_;have l:=Dz l;have Ql:=Z l;clear l hF;clear Qk;have Qp:Hid (DM w fm [some (w.heap.size,.poly q),some (Q,.poly c),some (B9,.poly (Dt g P)),some (B10,.poly (Dt (JR s (Jb g)) P))]):=Z (Ql.o.take 4);have Qj:=Z (show(DW w0 y0 (k+1)).1=Dt g P/\(DW w0 y0 (k+1)).2=Dt (JR s (Jb g)) P by rw[DW];unfold LX;rw[A.o.1,A.o.2.1,Qo.o];exact⟨J,J⟩);have Uv:T+1<=9223372036854775807:=by have:=Qg.o;omega
      clear Ql;go_wp2_with fail
      go_roundw
      case rel=>exact⟨k+1,S,U,O,by rw[Qh.o,Qi.o],by rw[Qg.o];go_num,by rw[Qh.o,Qi.o];exact I,by rw[Qj.o.1,Qj.o.2];exact Qp⟩
      case measure=>simp[intOf];have:=Qg.o;omega
  . obtain rfl:k=N:=O
    have Us:¬(0:Int)<d1:=by have h1:=Wc.o;rw[A.o.1]at h1;have:=Uo.o;omega
    go_wp2_with(go_at_call 26;refine G.o.mono ?_;rintro e w1 ⟨rfl,hq⟩;clear Qc;have Qc:=(boxed_below aj hq).cell)
    have HF:=Z (show EK true w.heap.size w1 (C S ll U) (yL w0 y0 k)/\Bl w w1 by rw[A.o.2.2.1];exact⟨XL.o.below hq,(M6.o.below hq).2.2⟩);go_ret;exact⟨_,J,HF.o⟩
end M3
end
section
variable{P g:List Rat}{K M l n:Nat}
theorem oR:∀D:Nat,1<D->∃l,1<l/\l∣D/\∀a:Nat,¬l∣a->Nat.gcd l a=1:=by
 intro D;induction D using Nat.strongRecOn with
 |ind D g=>
  intro hD;by_cases h:∀d,d∣D->d=1\/d=D
  . refine⟨D,hD,Nat.dvd_refl _,λa n=>?_⟩;grind[Fj,CX]
  . obtain⟨d,f⟩:=Classical.not_forall.1 h;obtain⟨b,c⟩:=Classical.not_imp.1 f;have j:d≠1/\d≠D:=⟨λe=>c (Or.inl e),λe=>c (Or.inr e)⟩;have k:d<=D:=Nat.le_of_dvd O b;have m:d≠0:=λe=>by subst e;omega
    obtain⟨l,l1,l2,i⟩:=g d O O;exact⟨l,l1,Nat.dvd_trans l2 b,i⟩
theorem RK{P:Nat->Prop}(h:∃a,P a):∃a,P a/\∀i,i<a->¬P i:=by
 obtain⟨a,b⟩:=h;induction a using Nat.strongRecOn with
 |ind a c=>
  grind
theorem oS{l:Int}{f:Nat->Int}{a:Nat}:∀n,a<n->(∀i,i<n->i≠a->l∣f i)->l∣Y6 n f->l∣f a:=by
 have c:∀n,(∀i,i<n->l∣f i)->l∣Y6 n f:=λn=>by
  induction n with
  |zero=>exact λ_=>Int.dvd_zero _
  |succ n b=>exact λh=>by rw[Y6];grind[Int.dvd_add]
 intro n;induction n with
 |zero=>intro h;omega
 |succ n b=>
  intro k h hs;rw[Y6]at hs;by_cases e:a=n
  . subst e;have g:=c a λi hi=>h i O O;have j:=Int.dvd_sub hs g;grind
  . refine b O (λi hi=>h i O) ?_;have j:=Int.dvd_sub hs (h n O λd=>e d.symm);grind
theorem oT(hl:∀a:Nat,¬l∣a->Nat.gcd l a=1){r s:Nat->Int}(p:∀i,n<=i->r i=0)(h:∀k,(l:Int)∣Y6 n λi=>if i<=k then r i*s (k-i)else 0)(e:∃a,¬(l:Int)∣r a)(hs:∃b,¬(l:Int)∣s b):False:=by
 obtain⟨a,f,g⟩:=RK e;obtain⟨b,j,m⟩:=RK hs;have d:a<n:=by
  by_cases c:a<n
  . exact c
  . grind[Int.dvd_zero]
 have c:=oS n d (λi hi o=>by
  grind[Int.dvd_trans,Int.dvd_mul_right,Int.dvd_mul_left,Int.dvd_zero]) (h (a+b))
 grind[dvd_one,Ay,CJ]
theorem oU{p:List Rat}{L G:Int}(H:∀i,((cf p i).den:Int)∣L)(I:∀u:Int,(∀i,((cf p i).den:Int)∣u)->L∣u)(B:∀i,G∣(cf p i).num)(D:∀v:Int,(∀i,v∣(cf p i).num)->v∣G)(A:G≠0){c:Rat}(M:∀i,∃z:Int,cf p i*c=(z:Rat)):
 ∃t:Int,∀i,∃r:Int,cf p i*((L:Rat)/(G:Rat))=(r:Rat)/\cf p i*c=((r*t:Int):Rat):=by
 have o:(c.den:Int)≠0:=by have:=c.den_nz;omega
 have g:∀i,∃z:Int,cf p i*c=(z:Rat)/\(cf p i).num*c.num=z*((cf p i).den*c.den):=λi=>by
  obtain⟨z,a⟩:=M i;refine⟨z,a,?_⟩;have s:c*(c.den:Rat)=(c.num:Rat):=Ho c;have j:cf p i*((cf p i).den:Rat)=((cf p i).num:Rat):=Ho _;have w:(((cf p i).num*c.num:Int):Rat)=((z*(((cf p i).den:Int)*(c.den:Int)):Int):Rat):=by
   rw[Az,Az,Az,AH,AH,<-s,<-j,<-a];grind
  exact Rat.intCast_inj.1 w
 have k:L∣c.num:=I _ λi=>by
  obtain⟨z,_,e⟩:=g i;have b:((cf p i).den:Int)∣(cf p i).num*c.num:=⟨z*c.den,DK⟩;rw[Int.mul_comm]at b;refine dvd_one b ?_;rw[Ay,CW];exact(cf p i).reduced
 have hv:(c.den:Int)∣G:=D _ λi=>by
  obtain⟨z,_,e⟩:=g i;have b:(c.den:Int)∣(cf p i).num*c.num:=⟨z*(cf p i).den,DK⟩;refine dvd_one b ?_;rw[Ay,CW];exact c.reduced
 obtain⟨u,k⟩:=k;obtain⟨v,hv⟩:=hv;refine⟨u*v,λi=>?_⟩;obtain⟨e,l⟩:=H i;obtain⟨m,n⟩:=B i;obtain⟨z,x,a⟩:=g i;have K:((cf p i).den:Int)≠0:=by have:=(cf p i).den_nz;omega
 have q:z=m*e*(u*v):=by
  have y:z*(((cf p i).den:Int)*c.den)=m*e*(u*v)*(((cf p i).den:Int)*c.den):=by
   rw[<-a,n,k,hv,l];generalize ((cf p i).den:Int)=d;generalize (c.den:Int)=f;grind
  exact Int.eq_of_mul_eq_mul_right (Cw K o) y
 refine⟨m*e,?_,by rw[x,q]⟩;have N:(G:Rat)≠0:=by exact_mod_cast A
 have j:cf p i*((cf p i).den:Rat)=((cf p i).num:Rat):=Ho _;rw[n,Az]at j;have P:(L:Rat)=((cf p i).den:Rat)*(e:Rat):=by rw[l,Az,AH]
 grind
theorem Wn{p:List Rat}(hp:Jc p=p)(b:p≠[]){c:Rat}(f:∀i,∃z:Int,cf p i*c=(z:Rat)):∃t:Int,∀i,∃r:Int,cf (Jp p) i=(r:Rat)/\cf p i*c=((r*t:Int):Rat):=by
 have a:∀i,p.length<=i->cf p i=0:=λi hi=>Ys hi;obtain⟨t,d⟩:=oU (p:=p) (L:=(XK p p.length:Int)) (G:=(Xu p p.length:Int)) (λi=>by
  by_cases hi:i<p.length
  . grind[Int.natCast_dvd_natCast,Q5]
  . rw[a i O];exact Int.one_dvd _) (λu e=>CJ.2 (Q6 p _ (λi=>CJ.1 (e i)) _)) (λi=>by
  by_cases hi:i<p.length
  . exact CJ.2 (Q7 p _ i hi)
  . rw[a i O];exact Int.dvd_zero _) (λv hv=>by
  have:v.natAbs∣Xu p p.length:=WM p _ (λi=>CP.2 (hv i)) _
  grind[Int.natAbs_dvd,Int.natCast_dvd_natCast]) (by have:=MT hp b;omega) f
 refine⟨t,λi=>?_⟩;obtain⟨r,g,j⟩:=d i;grind[Jp,Yw,AH]
theorem Wo{p:List Rat}(hp:Jc p=p)(k:p≠[]){r:Nat->Int}(m:∀i,cf (Jp p) i=(r i:Rat))(hl:1<l):∃i,¬(l:Int)∣r i:=by
 by_cases h:∃i,¬(l:Int)∣r i
 . exact h
 . exfalso
   have n:∀i,(l:Int)∣r i:=λi=>Classical.not_not.1 λa=>h ⟨i,a⟩;have g:(l:Rat)≠0:=by exact_mod_cast (show l≠0 by omega)
   obtain⟨c,G,e⟩:=Xa hp;have H:c≠0:=λj=>by grind
   have b:∀i,cf p i*c=(r i:Rat):=λi=>by rw[<-Yw,<-e,m]
   obtain⟨t,y⟩:=Wn hp k (c:=c/(l:Rat)) (λi=>by
    obtain⟨q,hq⟩:=n i;refine⟨q,?_⟩;have a:c/(l:Rat)*(l:Rat)=c:=Ak g;have d:=b i;rw[hq,Az,AH]at d;grind)
   obtain⟨z,a,d⟩:=y (p.length-1);have I:=Ju hp k;have s:z=r (p.length-1):=Rat.intCast_inj.1 (by rw[<-a,m]);have o:r (p.length-1)≠0:=λj=>by
    have f:=b (p.length-1);rw[j]at f;grind
   have f:=b (p.length-1);have B:c/(l:Rat)*(l:Rat)=c:=Ak g;have u:((r (p.length-1):Int):Rat)=(((r (p.length-1))*(t*(l:Int)):Int):Rat):=by
    rw[<-f,Az,Az,AH];rw[s,Az]at d;grind
   have v:=Rat.intCast_inj.1 u;have D:t*(l:Int)=1:=by
    have w:r (p.length-1)*1=r (p.length-1)*(t*(l:Int)):=by rw[Int.mul_one];exact v
    exact(Int.eq_of_mul_eq_mul_left o w).symm
   have x:(l:Int)∣1:=⟨t,DK⟩;have A:=Int.le_of_dvd DN x;omega
theorem RL{p:List Rat}(hp:Jc p=p)(b:p≠[]):∀i,∃r:Int,cf (Jp p) i=(r:Rat):=by
 obtain⟨t,j⟩:=Wn hp b (c:=(XK p p.length:Rat)) (λi=>by
  have f:(cf p i).den∣XK p p.length:=by
   by_cases hi:i<p.length
   . exact Q5 p _ i hi
   . rw[Ys O];exact Nat.one_dvd _
  obtain⟨e,g⟩:=f;refine⟨(cf p i).num*(e:Int),?_⟩;have a:cf p i*((cf p i).den:Rat)=((cf p i).num:Rat):=Ho _;rw[g,Az,<-a,AH,Rat.natCast_mul];grind)
 intro i;obtain⟨r,d,_⟩:=j i;exact⟨r,d⟩
theorem oV(L:Jc P=P)(j:P≠[])(Q:∀i,∃z:Int,cf P i=(z:Rat))(hg:Jc g=g)(h:Dv g P):
 ∃H:List Rat,Jc H=H/\P=Ji (Jp g) H/\∀i,∃z:Int,cf H i=(z:Rat):=by
 have g0:g≠[]:=λe=>j (by
  obtain⟨c,M⟩:=h;grind[XA,ev])
 obtain⟨B,T,G⟩:=Xa hg;have u:B≠0:=λD=>by grind
 have N:Dv (Jp g) P:=by rw[G];exact h.of_sc u
 obtain⟨H,d,eP⟩:=N.some L;have f:H≠[]:=λe=>j (by rw[eP,e];exact YI _);refine⟨H,d,eP,?_⟩;obtain⟨c,M,m⟩:=Xa d;have y:c≠0:=λD=>by grind
 obtain⟨r,p⟩:=Classical.axiomOfChoice (RL hg g0);obtain⟨s,hs⟩:=Classical.axiomOfChoice (RL d f);obtain⟨z,R⟩:=Classical.axiomOfChoice Q;have q:DQ c P=Ji (Jp g) (Jp H):=by
  refine YO (JK _ _) (Jv _ _) λx=>?_;have a:ev P x=ev (Jp g) x*ev H x:=by rw[<-Je,<-eP]
  rw[Jn,Je,m,Jn,a];grind
 have w:∀k,(z k:Rat)*c=((Y6 (Jp g).length (λi=>if i<=k then r i*s (k-i)else 0):Int):Rat):=λk=>by
  rw[<-R k,<-Yw,q,OE _ _ (Aa _)];refine QZ λi _=>?_;split
  . grind
  . rfl
 have A:c*(c.den:Rat)=(c.num:Rat):=Ho c;have U:(c.den:Int)≠0:=by have:=c.den_nz;omega
 have t:∀k,z k*c.num=(c.den:Int)*Y6 (Jp g).length (λi=>if i<=k then r i*s (k-i)else 0):=λk=>by
  have a:((z k*c.num:Int):Rat)=(((c.den:Int)*Y6 (Jp g).length (λi=>if i<=k then r i*s (k-i)else 0):Int):Rat):=by
   rw[Az,Az,<-w k,AH,<-A];grind
  exact Rat.intCast_inj.1 a
 have v:c.num≠0:=λe=>y (Fy.1 e);have V:c.num.natAbs=1:=by
  by_cases a:c.num.natAbs=1
  . exact a
  . exfalso
    have I:c.num.natAbs≠0:=Int.natAbs_ne_zero.2 v;obtain⟨l,l1,l2,S⟩:=oR c.num.natAbs O;refine oT S (r:=r) (s:=s) (n:=(Jp g).length) (λi hi=>?_) (λk=>?_) (Wo hg g0 p l1) (Wo d f hs l1)
    . have b:=p i;rw[Ys hi]at b;exact(Rat.intCast_inj.1 (show((0:Int):Rat)=_ from b)).symm
    . have b:(l:Int)∣(c.den:Int)*Y6 (Jp g).length (λi=>if i<=k then r i*s (k-i)else 0):=by
       rw[<-t k];exact Int.dvd_trans (CJ.2 l2) (Int.dvd_mul_left _ _)
      rw[Int.mul_comm]at b;refine dvd_one b ?_;rw[Ay,Ay];have o:Nat.gcd l c.den∣Nat.gcd c.num.natAbs c.den:=Nat.dvd_gcd (Nat.dvd_trans (Fj _ _) l2) (CX _ _);have K:Nat.gcd c.num.natAbs c.den=1:=c.reduced;rw[K]at o;exact Nat.dvd_one.1 o
 intro i;refine⟨s i*(c.den:Int)*c.num,?_⟩;have a:cf H i*c=(s i:Rat):=by rw[<-hs,m,Yw]
 have I:(c.num:Rat)*(c.num:Rat)=1:=by
  rw[<-Az];have b:c.num*c.num=1:=by
   grind
  rw[b];rfl
 rw[Az,Az,AH,<-a];grind
def D0:List Int->Int->Int
 |[],_=>0
 |c::t,x=>c+x*D0 t x
def cz(g:List Int)(i:Nat):Int:=g[i]?.getD 0
def Wp(i:Nat):cz [] i=0:=rfl
def ON(c:Int)(t:List Int):cz (c::t) 0=c:=rfl
def Mb(c:Int)(t:List Int)(i:Nat):cz (c::t) (i+1)=cz t i:=rfl
theorem RM{g:List Int}{i:Nat}(h:g.length<=i):cz g i=0:=by unfold cz;grind
def YR:List Int->Int->List Int × Int
 |[],_=>([],0)
 |c::t,k=>((YR t k).2::(YR t k).1,c+k*(YR t k).2)
theorem RO(k x:Int):∀g:List Int,D0 g x=(x-k)*D0 (YR g k).1 x+(YR g k).2:=by
 intro g;induction g with
 |nil=>simp[D0,YR]
 |cons c t a=>rw[D0,YR,a];simp only[D0];grind
theorem Wq(k:Int)(g:List Int):(YR g k).2=D0 g k:=by
 grind[RO]
def RP(k:Int):∀(g:List Int),cz g 0=(YR g k).2-k*cz (YR g k).1 0/\∀i,cz g (i+1)=cz (YR g k).1 i-k*cz (YR g k).1 (i+1):=by
 intro g;induction g with
 |nil=>exact⟨by simp[Wp,YR],λi=>by simp[Wp,YR]⟩
 |cons c t a=>
  rw[YR];refine⟨by rw[ON,ON];omega,λi=>?_⟩;cases i with
  |zero=>rw[Mb,ON,Mb];exact a.1
  |succ i=>rw[Mb,Mb,Mb];exact a.2 i
theorem Ws(k:Int)(g:List Int){m:Nat}(h:∀i,m+1<=i->cz g i=0):∀i,m<=i->cz (YR g k).1 i=0:=by
 have a:∀d i,m<=i->(YR g k).1.length<=i+d->cz (YR g k).1 i=0:=λd=>by
  induction d with
  |zero=>intro i _ b;exact RM O
  |succ d c=>
   intro i hi b;have e:=c (i+1) O O;have f:=(RP k g).2 i;grind
 intro i hi;exact a (YR g k).1.length i hi O
theorem oW:∀(m:Nat) (g:List Int),(∀i,m<=i->cz g i=0)->(∃i,cz g i≠0)->∀b:List Int,b.Nodup->(∀k∈b,D0 g k=0)->b.length<m:=by
 intro m;induction m with
 |zero=>intro g h ⟨i,hi⟩;grind
 |succ m f=>
  intro g h ⟨e,o⟩ b hn hk;cases b with
  |nil=>simp
  |cons a b=>
   rw[List.nodup_cons]at hn;have q:(YR g a).2=0:=by rw[Wq];exact hk a DL
   have hq:∃i,cz (YR g a).1 i≠0:=by
    by_cases c:∃i,cz (YR g a).1 i≠0
    . exact c
    . exfalso
      have j:∀i,cz (YR g a).1 i=0:=λi=>Classical.not_not.1 λd=>c ⟨i,d⟩;have l:=RP a g;cases e with
      |zero=>grind
      |succ i=>grind
   have n:=f (YR g a).1 (Ws a g h) hq b hn.2 (λk p=>by
    grind[RO,Int.mul_eq_zero])
   grind
theorem oX(B:Nat):∀(m:Nat) (g:List Int) (M:Nat),(∀i,m<=i->cz g i=0)->∀b:List Int,b.Nodup->b.length=m->(∀k∈b,(D0 g k).natAbs<=M/\k.natAbs<=B)->∀i,(cz g i).natAbs<=M*(2*B+3)^m:=by
 intro m;induction m with
 |zero=>intro g M h b _ _ _ i;rw[h i O];simp
 |succ m s=>
  intro g M h b hn hl hk i;cases b with
  |nil=>simp at hl
  |cons a b=>
   rw[List.nodup_cons]at hn;obtain⟨l,n⟩:=hk a DL;have z:((YR g a).2).natAbs<=M:=by rw[Wq];exact l
   have hq:=s (YR g a).1 (2*M) (Ws a g h) b hn.2 (by simpa using hl) (λk r=>by
    obtain⟨j,c⟩:=hk k (by simp[r]);refine⟨?_,c⟩;have v:=RO a k g;have o:(k-a)*D0 (YR g a).1 k=D0 g k-(YR g a).2:=O
    have p:(k-a).natAbs*(D0 (YR g a).1 k).natAbs<=2*M:=by
     rw[<-Cv,o];omega
    have q:0<(k-a).natAbs:=Int.natAbs_pos.2 λe=>hn.1 (by rwa[show a=k by omega]);exact Ad (Cl _ q) p)
   obtain⟨X,hX⟩:∃X,2*M*(2*B+3)^m=X:=⟨_,J⟩;rw[hX]at hq;have w:2*M<=X:=by rw[<-hX];exact Cf _ (CE O)
   have x:X+B*X<=M*(2*B+3)^(m+1):=by
    have e:M*(2*B+3)^(m+1)*2=X*(2*B+3):=by rw[<-hX,Ci];grind
    have t:X*(2*B+3)=2*(B*X)+3*X:=DK
    omega
   have d:∀y:Int,(a*y).natAbs<=B*y.natAbs:=λy=>by rw[Cv];exact Ae _ n
   have f:=RP a g;cases i with
   |zero=>
    rw[f.1];have j:=d (cz (YR g a).1 0);have c:B*(cz (YR g a).1 0).natAbs<=B*X:=Ai _ (hq 0);omega
   |succ i=>
    rw[f.2];have j:=d (cz (YR g a).1 (i+1));have c:B*(cz (YR g a).1 (i+1)).natAbs<=B*X:=Ai _ (hq (i+1));have u:=hq i;omega
theorem oY{B:Nat}:∀(g:List Int) (k:Int),(∀i,(cz g i).natAbs<=M)->k.natAbs<=B->(D0 g k).natAbs<=M*(B+1)^g.length:=by
 intro g;induction g with
 |nil=>intro k _ _;simp[D0]
 |cons c t j=>
  intro k h hk;have b:=j k (λi=>h (i+1)) hk;have f:=h 0;rw[ON]at f;rw[D0,Ah,Ci];obtain⟨a,d⟩:=ex ((B+1)^t.length);rw[d]at b ⊢;have e:1<=a:=by rw[<-d];exact CE O
  have l:(k*D0 t k).natAbs<=B*(M*a):=by rw[Cv];exact Cq hk b
  have m:M<=M*a:=Cf _ e;grind[]
def Mc(g:List Int):List Rat:=g.map (λz:Int=>(z:Rat))
def RQ(g:List Int)(i:Nat):cf (Mc g) i=(cz g i:Rat):=by
 unfold cf Mc cz;rw[Fq];cases g[i]? with
 |none=>rfl
 |some z=>rfl
def RR(k:Int):∀g:List Int,ev (Mc g) (k:Rat)=(D0 g k:Rat):=by
 intro g;induction g with
 |nil=>rfl
 |cons c t a=>
  show(c:Rat)+(k:Rat)*ev (Mc t) (k:Rat)=_;rw[a,D0,Fa,Az]
def RS{p:List Rat}(h:∀i,∃z:Int,cf p i=(z:Rat)):∃g:List Int,p=Mc g/\g.length=p.length:=by
 induction p with
 |nil=>exact⟨[],J,J⟩
 |cons c t e=>
  obtain⟨g,b,d⟩:=e (λi=>by have:=h (i+1);rwa[Yo]at this);obtain⟨z,a⟩:=h 0;rw[Xc]at a;exact⟨z::g,by rw[a,b];rfl,by simp[d]⟩
theorem nodup_range(n:Nat):((List.range n).map (λi:Nat=>(i:Int))).Nodup:=by
 grind[List.nodup_range]
theorem oZ(t:Jc P=P)(d:P≠[])(hl:P.length<=n+1)(m:∀i,∃z:Int,z.natAbs<=M/\cf P i=(z:Rat))(hg:Jc g=g)(h:Dv g P):
 ∀i,∃z:Int,z.natAbs<=M*(2*n+1)^(n+1)*(2*(2*n)+3)^(n+1)/\cf (Jp g) i=(z:Rat):=by
 obtain⟨H,G,eP,I⟩:=oV t d (λi=>by obtain⟨z,_,c⟩:=m i;exact⟨z,c⟩) hg h;have g0:g≠[]:=λe=>d (by rw[eP,e];rfl);have o:H≠[]:=λe=>d (by rw[eP,e];exact YI _);obtain⟨a,j,lp⟩:=RS (p:=P) (λi=>by obtain⟨z,_,c⟩:=m i;exact⟨z,c⟩);obtain⟨f,s,lg⟩:=RS (RL hg g0);obtain⟨K,D,lh⟩:=RS I;have W:(Jp g).length<=n+1:=by
  have b:=JC (J5 g) G (λe=>d (by rw[eP,e];rfl)) o;rw[<-eP]at b;have c:0<H.length:=Ac.2 o;omega
 have A:∀i,(cz a i).natAbs<=M:=λi=>by
  obtain⟨z,b,c⟩:=m i;rw[j,RQ]at c;rwa[Rat.intCast_inj.1 c]
 have q:∀k:Int,D0 a k=D0 f k*D0 K k:=λk=>by
  have b:ev P (k:Rat)=ev (Jp g) (k:Rat)*ev H (k:Rat):=by rw[<-Je,<-eP]
  rw[j,s,D,RR,RR,RR,<-Az]at b;exact Rat.intCast_inj.1 b
 obtain⟨R,u⟩:=ex ((List.range (2*n+1)).map (λi:Nat=>(i:Int)));have r:R.Nodup:=by rw[<-u];exact nodup_range _
 have U:R.length=2*n+1:=by rw[<-u];simp
 have T:∀k∈R,k.natAbs<=2*n:=λk hk=>by
  grind
 have V:(R.filter λk=>D0 a k==0).length<n+1:=by
  refine oW (n+1) a (λi hi=>RM O) ?_ _ (r.filter _) (λk hk=>by
   grind)
  refine⟨P.length-1,λe=>Ju t d ?_⟩;have b:=RQ a (P.length-1);rw[<-j,e]at b;exact b
 have X:(R.filter λk=>D0 a k==0).length+(R.filter λk=>!(D0 a k==0)).length=R.length:=by
  rw[<-List.countP_eq_length_filter,<-List.countP_eq_length_filter];have b:=List.length_eq_countP_add_countP (l:=R) λk=>D0 a k==0;have c:List.countP (λk=>!(D0 a k==0)) R=List.countP (λk=>decide ¬((D0 a k==0)=true)) R:=by congr 1;funext k;cases(D0 a k==0)<;>rfl
  omega
 obtain⟨S,v⟩:=ex ((R.filter λk=>!(D0 a k==0)).take (n+1));have x:S.length=n+1:=by rw[<-v,AA];omega
 have y:S.Nodup:=by rw[<-v];exact List.Sublist.nodup (List.take_sublist _ _) (r.filter _)
 have B:∀k∈S,D0 a k≠0/\k.natAbs<=2*n:=λk hk=>by
  grind
 have w:=oX (2*n) (n+1) f (M*(2*n+1)^(n+1)) (λi hi=>RM O) S y x (λk hk=>by
  obtain⟨b,c⟩:=B k hk;refine⟨?_,c⟩;have L:=oY a k A c;have N:M*(2*n+1)^a.length<=M*(2*n+1)^(n+1):=Ai _ (AC O O);have Q:(D0 f k).natAbs<=(D0 a k).natAbs:=by
   rw[q k,Cv];refine Cf _ (Int.natAbs_pos.2 λe=>b ?_);rw[q k,e,FG]
  omega)
 intro i;exact⟨cz f i,w i,by rw[s,RQ]⟩
theorem Ln.mul{N:Nat}{p q:List Rat}(hp:Ln K p)(hq:Ln N q)(hl:p.length<=1000000000):Ln (K+N+1) (Ji p q):=by
 obtain⟨c,l,e⟩:=hp;obtain⟨d,m,b⟩:=hq;obtain⟨z,e⟩:=Classical.axiomOfChoice e;obtain⟨y,b⟩:=Classical.axiomOfChoice b;refine⟨c*d,YU l m,λk=>⟨Y6 p.length λi=>if i<=k then z i*y (k-i)else 0,?_,?_⟩⟩
 . have a:(Y6 p.length λi=>if i<=k then z i*y (k-i)else 0).natAbs<=p.length*(Y^K*Y^N):=OB λi _=>by
    split
    . rw[Cv];have g:=(e i).1;have j:=(b (k-i)).1;unfold Sm at g j;exact Cq O O
    . simp
   unfold Sm;rw[Ci,CM];have f:0<Y^K*Y^N:=FL (CE Hf) (CE Hf);refine CB a ?_;rw[AV];exact(Nat.mul_lt_mul_left f).2 uo
 . rw[OE p q (Aa _)];have a:∀n,Dw n (λi=>if i<=k then cf p i*cf q (k-i)else 0)*(c*d)=((Y6 n (λi=>if i<=k then z i*y (k-i)else 0):Int):Rat):=λn=>by
    induction n with
    |zero=>simp[Dw,Y6,Rat.zero_mul]
    |succ n o=>
     rw[Dw,Y6,Fa,<-o];split
     . grind
     grind
   exact a _
theorem Ln.slope{p:List Rat}(h:Ln K p)(hl:p.length<=1000000000):Ln (K+1) (Jb p):=by
 obtain⟨c,b,d⟩:=h;refine⟨c,b,λi=>?_⟩;obtain⟨z,a,e⟩:=d (i+1);rw[XH];by_cases hi:i+1<p.length
 . refine⟨z*((i+1:Nat):Int),a.mul (by unfold Sm Y;rw[Ay];omega),?_⟩;grind
 . exact⟨0,Sm.zero _,by rw[Ys O,A6,A6];rfl⟩
theorem Dv.lnN{e:Nat}(b:Jc P=P)(o:P≠[])(hl:P.length<=n+1)(D:(2*n+1)^(n+1)*(2*(2*n)+3)^(n+1)<=Y^e)(G:Ln K P)(hg:Jc g=g)(h:Dv g P):Ln (K+e) g:=by
 obtain⟨c,I,k⟩:=Xa b;have r:c≠0:=λs=>by grind
 have y:Jp P≠[]:=by rw[k];exact Hn r b o
 have A:Dv g (Jp P):=by rw[k];exact h.sc c
 have u:=LU b G;have v:=oZ (n:=n) (M:=Y^K-1) (J5 P) y (by rw[JJ b];omega) (λi=>by
  obtain⟨z,l,f⟩:=u i;unfold Sm at l;exact⟨z,O,f⟩) hg A
 have w:EZ (K+e) (Jp g):=λi=>by
  obtain⟨z,l,f⟩:=v i;refine⟨z,?_,f⟩;unfold Sm;have hk:0<Y^K:=CE Hf;have p:0<Y^e:=CE Hf;have a:(Y^K-1)*((2*n+1)^(n+1)*(2*(2*n)+3)^(n+1))<=(Y^K-1)*Y^e:=Ai _ D;rw[<-CA]at a;have m:(Y^K-1)*Y^e<Y^K*Y^e:=(Nat.mul_lt_mul_right p).2 O;grind
 obtain⟨j,L,t⟩:=Xa hg;have q:j≠0:=λs=>by grind
 have a:=w.ln;rw[t]at a;obtain⟨d,B,H⟩:=a;refine⟨j*d,YU q B,λi=>?_⟩;obtain⟨z,m,x⟩:=H i;exact⟨z,m,by rw[<-x,Yw];grind⟩
def OO:(2*24+1)^(24+1)*(2*(2*24)+3)^(24+1)<=Y^5:=by unfold Y;decide
def oc:(2*47+1)^(47+1)*(2*(2*47)+3)^(47+1)<=Y^11:=by unfold Y;decide
theorem Dv.len{a b:List Rat}(g:Jc a=a)(f:Jc b=b)(b0:b≠[])(h:Dv a b):a.length<=b.length/\a≠[]:=by
 obtain⟨c,i,e⟩:=h.some f;have a0:a≠[]:=λd=>b0 (by rw[e,d];rfl);grind[YI,JC,Ac]
theorem Md{a b:List Rat}(c:Jc a=a)(d:Jc b=b)(a0:a≠[])(b0:b≠[]):cf (Ji a b) ((Ji a b).length-1)=cf a (a.length-1)*cf b (b.length-1):=by
 have l:=JC c d a0 b0;have p1:0<a.length:=Ac.2 a0;have e:0<b.length:=Ac.2 b0;rw[l,show a.length+b.length-1-1=(a.length-1)+(b.length-1)by omega];grind[Ji,Yp,O4]
def od{R:List Rat}(c:Jc R=R)(hl:1<R.length):(Jb R).length=R.length-1/\cf (Jb R) ((Jb R).length-1)=cf R (R.length-1)*(((R.length-1:Nat):Int):Rat):=by
 have R0:R≠[]:=λe=>by rw[e]at hl;simp at hl
 have d:=YY R0;have b:cf (Jb R) (R.length-2)≠0:=by
  rw[XH,show R.length-2+1=R.length-1 by omega];exact YU (Ju c R0) (by
   intro e
   have:((R.length-1:Nat):Int)=0:=by exact_mod_cast e
   omega)
 have f:=QY b;have a:(Jb R).length=R.length-1:=O
 refine⟨a,?_⟩;rw[a,XH,show R.length-1-1+1=R.length-1 by omega]
def OP{q:List Rat}(tq:Jc q=q)(q0:q≠[])(a:Js q=q):cf q (q.length-1)=1:=by
 have:=Q3 tq q0;rwa[a]at this
theorem Wt{q R w y:List Rat}(tq:Jc q=q)(q0:q≠[])(lq:q.length<=25)(g:Ln K q)(tR:Jc R=R)(G:Js R=R)(tw:Jc w=w)(mw:Js w=w)(ty:Jc y=y)(f:Dv R q)(dw:Dv w q)
(A:∀x,ev y x*ev R x=ev w x*ev (Jb R) x):∃D:Int,D≠0/\Sm (2*K+24) D/\EO D (2*K+24) y:=by
 by_cases y0:y=[]
 . subst y0;exact RC O
 . obtain⟨P,R0⟩:=f.len tR tq q0;obtain⟨S,w0⟩:=dw.len tw tq q0;have b:Ji y R=Ji w (Jb R):=YO (Jv _ _) (Jv _ _) λx=>by rw[Je,Je,A]
   have p0:Ji w (Jb R)≠[]:=by rw[<-b];exact YN ty tR y0 R0
   have c:Jb R≠[]:=λe=>p0 (by rw[e];exact YI _);have v:1<R.length:=by
    have H:0<(Jb R).length:=Ac.2 c;have:=YY R0;omega
   obtain⟨Q,B⟩:=od tR v;have t:Ln (K+5) R:=f.lnN (n:=24) tq q0 O OO g tR;have r:Ln (K+5) w:=dw.lnN (n:=24) tq q0 O OO g tw;have p:=r.mul (t.slope O) O;have N:=JC tw (Jt R) w0 c;have s:Dv y (Ji w (Jb R)):=⟨R,λx=>by rw[<-b,Je]⟩;have u:=s.lnN (n:=47) (e:=11) (Jv _ _) p0 O oc p ty;have a:=Md ty tR y0 R0;have o:=Md tw (Jt R) w0 c;rw[b]at a;rw[o,B,OP tw w0 mw,OP tR R0 G]at a;have m:cf y (y.length-1)=(((R.length-1:Nat):Int):Rat):=by
    rw[Cs,Cs,Rat.mul_one]at a;exact a.symm
   obtain⟨E,j,k,l⟩:=Q9 ty y0 u;refine⟨E,j,k.mono O,λi=>?_⟩;have z:cf y i=cf (Js y) i*(((R.length-1:Nat):Int):Rat):=by
    unfold Js;rw[Yw,<-m];have I:(1/cf y (y.length-1))*cf y (y.length-1)=1:=Ak (Ju ty y0);grind
   rw[z];have L:=(l i).mul (E:=1) (M:=1) (d:=(((R.length-1:Nat):Int):Rat)) ⟨((R.length-1:Nat):Int),by rw[AP,show((1:Int):Rat)=1 from J];grind,by unfold Sm Y;rw[Ay];omega⟩;grind
def ER(q w y:List Rat):Nat->List Rat
 |0=>q
 |n+1=>Jm (ER q w y n) (DW w y n).1
def Ii{p q:List Rat}(h:q≠[]):Dt p q=Jm p q:=BE h
section
variable {q w y:List Rat}
def Ij(h:Yun q w y)(m:Js q=q):∀n,Yun (ER q w y n) (DW w y n).1 (DW w y n).2/\Dv (ER q w y n) q/\Js (ER q w y n)=ER q w y n/\Dv (DW w y n).1 q:=by
 intro n;induction n with
 |zero=>exact⟨h,Dv.refl _,m,h.dv⟩
 |succ n l=>
  obtain⟨a,g,i,j⟩:=l;obtain⟨_,_,o,p,_,s⟩:=a.step;have c:Jr (DW w y n).1 (JR (DW w y n).2 (Jb (DW w y n).1))≠[]:=J6 a.tw (Yx _ _) (Or.inl a.w0);have e:(DW w y (n+1)).1=Jm (DW w y n).1 (Jr (DW w y n).1 (JR (DW w y n).2 (Jb (DW w y n).1))):=by rw[DW];unfold LX;exact Ii c
  have f:(DW w y (n+1)).2=Jm (JR (DW w y n).2 (Jb (DW w y n).1)) (Jr (DW w y n).1 (JR (DW w y n).2 (Jb (DW w y n).1))):=by rw[DW];unfold LX;exact Ii c
  have k:Dv (Jm (ER q w y n) (DW w y n).1) (ER q w y n):=by
   refine⟨(DW w y n).1,λx=>?_⟩;have b:=congrArg (λr=>ev r x) p;simp only[Je]at b;rw[b];exact AX _ _
  have d:Dv (Jm (DW w y n).1 (Jr (DW w y n).1 (JR (DW w y n).2 (Jb (DW w y n).1)))) (DW w y n).1:=by
   refine⟨Jr (DW w y n).1 (JR (DW w y n).2 (Jb (DW w y n).1)),λx=>?_⟩;have b:=congrArg (λr=>ev r x) s;simp only[Je]at b;exact b.trans (AX _ _)
  rw[e,f];exact⟨o,k.trans g,(MX a.tR a.R0 i a.tw a.mw a.dv).1,d.trans j⟩
theorem RT(h:Yun q w y)(b:Js q=q)(n:Nat)(hn:1<(DW w y n).1.length):(ER q w y (n+1)).length<(ER q w y n).length:=by
 obtain⟨a,_,d,_⟩:=Ij h b n;obtain⟨_,_,c,e,_,_⟩:=a.step;have l:=JC a.tw (YC (ER q w y n) (DW w y n).1) a.w0 c.R0;grind[ER]
theorem oe(h:Yun q w y)(f:Js q=q):∃N,N<=q.length/\(DW w y N).1.length<=1/\∀n,n<N->1<(DW w y n).1.length:=by
 have d:∃N,(DW w y N).1.length<=1:=by
  by_cases b:∃N,(DW w y N).1.length<=1
  . exact b
  . exfalso
    have c:∀n,1<(DW w y n).1.length:=λn=>by
     grind
    have a:∀n,(ER q w y n).length+n<=q.length:=λn=>by
     induction n with
     |zero=>exact Aa _
     |succ n e=>have:=RT h f n (c n);omega
    have g:=a (q.length+1);omega
 obtain⟨N,i,j⟩:=RK d;have a:∀n,n<=N->(ER q w y n).length+n<=q.length:=λn=>by
  induction n with
  |zero=>exact λ_=>Aa _
  |succ n e=>
   intro hn;grind[RT]
 grind
end
theorem Wu{M K A:Nat}(hM:M<=80000)(hK:K=2*M+24)(hA:A=(K+1)*51+1){p:List Rat}(tp:Jc p=p)(hl:1<p.length)(ai:p.length<=25)(cp:Cd M p):∃N,PtOk K A N p/\N<=25:=by
 have p0:p≠[]:=λe=>by rw[e]at hl;simp at hl
 obtain⟨q,hq⟩:=ex (Js p);have tq:Jc q=q:=by rw[<-hq];exact Yu _
 have k:Js q=q:=by rw[<-hq];exact KD tp
 have lq:q.length=p.length:=by rw[<-hq];exact XW tp
 have q0:q≠[]:=λe=>by grind
 have cq:Cd M q:=by rw[<-hq];exact cp.mon tp
 have aj:=YY q0;have cs:Cd (M+1) (Jb q):=by
  obtain⟨D,d1,o,r⟩:=cq;refine⟨D,d1,o.mono O,λi=>?_⟩;rw[XH];by_cases hi:i+1<q.length
  . have c:=(r (i+1)).mul (E:=1) (M:=1) (d:=(((i+1:Nat):Int):Rat)) ⟨((i+1:Nat):Int),by rw[AP,show((1:Int):Rat)=1 from J];grind,by unfold Sm Y;rw[Ay];omega⟩;rwa[Int.mul_one]at c
  . rw[Ys O,A6];exact CD.zero _ _
 have H:∀a b:List Rat,Jc a=a->Jc b=b->Cd K a->Cd K b->a.length<=25->b.length<=25->M3.ChOk K a b/\Da K a b<=A:=λa b ta tb ca cb la lb=>by
  have c:Da K a b<=(K+1)*(25+25+1):=Ai _ O;have s:(max a.length b.length+2)*(Da K a b+1)<=(25+2)*((K+1)*(25+25+1)+1):=Cq O O;exact⟨⟨ta,tb,ca,cb,O,O⟩,O⟩
 have v:∀n:Nat,n<=25->2*((n+3)*(A+1))<=1000000000:=λn hn=>by
  have:(n+3)*(A+1)<=(25+3)*(A+1):=Ae _ O
  omega
 have I:=J6 tq (Jt q) (Or.inl q0);obtain⟨w,z⟩:=ex (Dt q (Jr q (Jb q)));obtain⟨y,B⟩:=ex (Dt (Jb q) (Jr q (Jb q)));have u:Yun q w y:=by
  rw[<-z,<-B,Ii I,Ii I];exact Yun.start tq q0 k
 obtain⟨N,hN,ae,ah⟩:=oe u k;refine⟨N,?_,O⟩;have c0:=H q (Jb q) tq (Jt _) (cq.mono O) (cs.mono O) O O;refine⟨tp,cp.mono O,by rw[hq];exact c0.1,by rw[hq];exact c0.2,v _ O,hl,O,?_,by rw[hq,z,B];exact ae⟩;rw[hq,z,B];intro n hn;refine⟨ah n hn,?_⟩;obtain⟨c,s,Q,f⟩:=Ij u k n;obtain⟨s1,s2,g,s4,G,s6⟩:=c.step;obtain⟨k1,T,U,k4⟩:=Ij u k (n+1);obtain⟨a,j⟩:=ex ((DW w y n).1);obtain⟨b,S⟩:=ex ((DW w y n).2);obtain⟨R,t⟩:=ex (ER q w y n);have Qf:ER q w y (n+1)=Jm R a:=by rw[ER,t,j]
 rw[Qf]at T U;rw[j,S,t]at c g G;rw[t]at s Q;rw[j]at f;rw[j,S];have la:=(f.len c.tw tq q0).1;have l:=cq.ln;have m:Cd (M+5) a:=by
  have h5:=f.lnN (n:=24) tq q0 O OO l c.tw;have:=MU c.tw (h5.mono (L:=M+5) O) O;rwa[c.mw]at this
 have X:=Wt tq q0 O l c.tR Q c.tw c.mw c.ty s f c.eq;have cB:Cd K b:=(show Cd (2*M+24) b from X).mono O;have W:=Wt tq q0 O l g.tR U c.tw c.mw (Yx _ _) T f G;have P:Cd K (JR b (Jb a)):=(show Cd (2*M+24) (JR b (Jb a))from W).mono O;have cS:Cd (M+6) (Jb a):=by
  obtain⟨D,d1,o,r⟩:=m;refine⟨D,d1,o.mono O,λi=>?_⟩;rw[XH];by_cases hi:i+1<a.length
  . have h6:=(r (i+1)).mul (E:=1) (M:=1) (d:=(((i+1:Nat):Int):Rat)) ⟨((i+1:Nat):Int),by rw[AP,show((1:Int):Rat)=1 from J];grind,by unfold Sm Y;rw[Ay];omega⟩;rwa[Int.mul_one]at h6
  . rw[Ys O,A6];exact CD.zero _ _
 have V:(JR b (Jb a)).length<=25:=by
  by_cases z0:JR b (Jb a)=[]
  . rw[z0];simp
  . have e1:Ji (JR b (Jb a)) (Jm R a)=Ji a (Jb (Jm R a)):=YO (Jv _ _) (Jv _ _) λx=>by rw[Je,Je,G]
    have l1:=JC (Yx b (Jb a)) g.tR z0 g.R0;have l2:=WB a (Jb (Jm R a));have l3:=YY g.R0;grind
 have c1:=H a (JR b (Jb a)) c.tw (Yx _ _) (m.mono O) P O V;exact⟨c1.1,c.ty,m.mono O,cS.mono O,cB.mono O,P.mono O,c1.2,v _ O,v _ V⟩
def og{p:List Rat}(tp:Jc p=p)(hl:1<p.length)(a:p.length<=25)(cp:Cd 75 p):∃N,PtOk 174 8926 N p/\N<=25:=Wu (M:=75) O J J tp hl a cp
end
def RU(p w y:List Rat):Nat->List Rat
 |0=>p
 |n+1=>Jm (RU p w y n) (DW w y n).1
section
variable {p q w y:List Rat}
def oh(h:Yun q w y)(c:Js q=q)(n:Nat):(DW w y (n+1)).1=Jm (DW w y n).1 (yP (DW w y n)):=by
 obtain⟨a,_⟩:=Ij h c n;have b:Jr (DW w y n).1 (JR (DW w y n).2 (Jb (DW w y n).1))≠[]:=J6 a.tw (Yx _ _) (Or.inl a.w0);rw[DW];unfold LX yP;exact Ii b
end
theorem Me{p:List Rat}(tp:Jc p=p)(p0:p≠[]):cf p (p.length-1)≠0/\p=DQ (cf p (p.length-1)) (Js p):=by
 have h:=Ju tp p0;refine⟨h,?_⟩;unfold Js;rw[LT,show 1/cf p (p.length-1)*cf p (p.length-1)=1 by grind,KC tp]
theorem Wv(k:Rat)(p:List Rat):Jb (DQ k p)=DQ k (Jb p):=by
 grind[Jt,JK,Is,XH,Yw]
def Ww{K:Nat}{q g:List Rat}(tq:Jc q=q)(q0:q≠[])(lq:q.length<=25)(cq:Cd K q)(tg:Jc g=g)(c:Js g=g)(h:Dv g q):Cd (K+5) g:=by
 have b:=Dv.lnN (n:=24) (e:=5) tq q0 O OO cq.ln tg h;have a:=MU tg b O;rw[c]at a;exact a
def Cd.scale{A B:Nat}{p r:List Rat}(hp:Cd A p)(f:Cd B r)(i:Nat):Cd (A+B) (DQ (cf r i) p):=by
 obtain⟨D,d1,a,b⟩:=hp;obtain⟨E,c,d,e⟩:=f;exact⟨D*E,Cw d1 c,a.mul d,λj=>by rw[Yw];exact(b j).mul (e i)⟩
structure StR(K M:Nat)(r f:List Rat):Prop where
 tr:Jc r=r
 cr:Cd M r
 tf:Jc f=f
 f0:f≠[]
 mf:Js f=f
 ca:Cd M f
 lr:(r.length+3)*(M+1)<=1000000000
 lf:(f.length+3)*(M+1)<=1000000000
 r1:r.length<=1000
 f1:f.length<=1000
 ch:M3.ChOk K f (Jm r f)
structure ReOk(K M N:Nat)(p w y:List Rat):Prop where
 fr:M3.FrOk K p
 w0:oJ p=w
 nN:N<=1000000000
 st:∀n,n<N->1<(DW w y n).1.length/\StR K M (RU p w y n) (DW w y n).1/\Cd M (DW w y (n+1)).1/\Jc (DW w y (n+1)).1=(DW w y (n+1)).1/\(DW w y (n+1)).1≠[]/\Js (DW w y (n+1)).1=(DW w y (n+1)).1/\
  Jr (DW w y n).1 (RU p w y (n+1))=(DW w y (n+1)).1/\Jm (DW w y n).1 (DW w y (n+1)).1=yP (DW w y n)/\Js (yP (DW w y n))=yP (DW w y n)/\
  Jc (yP (DW w y n))=yP (DW w y n)/\Cd M (yP (DW w y n))/\(yP (DW w y n)).length<=25
 en:(DW w y N).1.length<=1
section
variable {a b c d p q r w y R:List Rat}
theorem DT.shift(h:DT a b)(f:∀x,ev b x=ev c x+ev a x*ev d x):DT a c:=by
 obtain⟨u,v,e⟩:=h;refine⟨Xx u (Ji v d),v,λx=>?_⟩;rw[Ye,Je];grind
def DT.left(h:DT a (Ji b c)):DT a b:=(h.symm.of_dv ((Dv.refl b).mul c)).symm
def DT.right(h:DT a (Ji b c)):DT a c:=(h.symm.of_dv ((Dv.refl c).mul' b)).symm
def Wx(a:List Rat):Dv [1] a:=⟨a,λx=>by simp[ev];grind⟩
def Wy:Js [1]=[1]:=YO (Yu _) DN λx=>by rw[LV];simp[cf,ev];grind
theorem Wz(hp:Jc p=p)(hq:Jc q=q)(h:DT p q):Jr p q=[1]:=by
 obtain⟨a,b,_⟩:=Yf hp hq;obtain⟨u,v,e⟩:=h;exact Dv.eq (JE _ _) DN (YM hp hq) Wy (a.comb b u v λx=>by rw[<-e x];simp[ev];grind) (Wx _)
theorem Yun.part(h:Yun R w y):DT (Jr w (JR y (Jb w))) (Jb (Jr w (JR y (Jb w))))/\DT (Jr w (JR y (Jb w))) (Jm w (Jr w (JR y (Jb w)))):=by
 obtain⟨a,b,_⟩:=Yf h.tw (Yx y (Jb w));have c:=h.step.2.2.2.2.2;obtain⟨P,e⟩:=ex (Jr w (JR y (Jb w)));rw[e]at a b c ⊢;obtain⟨w2,g⟩:=ex (Jm w P);rw[g]at c ⊢;have c1:DT P y:=h.cop.of_dv a;obtain⟨t,f⟩:=b;have c2:DT P (Jb w):=c1.shift (d:=t) λx=>by
  have:=f x;rw[Xy]at this;grind
 have c3:DT P (Ji (Jb P) w2):=c2.shift (d:=Jb w2) λx=>by
  grind[Yr,Je]
 exact⟨c3.left,c3.right⟩
end
def Du:List (List Rat × Nat)->Rat->Rat
 |[],_=>1
 |a::l,x=>ev a.1 x^a.2*Du l x
theorem OQ(l m:List (List Rat × Nat))(x:Rat):Du (l++m) x=Du l x*Du m x:=by
 induction l with
 |nil=>simp[Du]
 |cons a l b=>simp only[AB,Du,b];grind
theorem oj(a b:Rat)(n:Nat):(a*b)^n=a^n*b^n:=by
 induction n with
 |zero=>simp
 |succ n c=>grind
theorem OR(n:Nat):(1:Rat)^n=1:=by
 induction n with
 |zero=>simp
 |succ n a=>rw[Rat.pow_succ,a];grind
section
variable {q w y:List Rat}
def W4(h:Yun q w y)(b:Js q=q)(n:Nat):Jc (yP (DW w y n))=yP (DW w y n)/\Js (yP (DW w y n))=yP (DW w y n)/\(DW w y n).1=Ji (yP (DW w y n)) (DW w y (n+1)).1/\
 DT (yP (DW w y n)) (Jb (yP (DW w y n)))/\DT (yP (DW w y n)) (DW w y (n+1)).1/\ER q w y n=Ji (DW w y n).1 (ER q w y (n+1)):=by
 have a:=(Ij h b n).1;rw[oh h b n];obtain⟨_,_,_,c,_,d⟩:=a.step;obtain⟨c1,c2⟩:=a.part;exact⟨JE _ _,YM a.tw (Yx _ _),d,c1,c2,c⟩
theorem W7(h:Yun q w y)(n:Js q=q):∀N,(∀x∈yL w y N,1<x.1.length/\1<=x.2/\x.2<=N/\DT x.1 (Jb x.1)/\Jc x.1=x.1/\Js x.1=x.1/\Dv x.1 q/\DT x.1 (DW w y N).1)/\
 (yL w y N).Pairwise (λa b=>a.2<b.2/\DT a.1 b.1):=by
 intro N;induction N with
 |zero=>exact⟨λx c=>by simp[yL]at c,by simp[yL]⟩
 |succ N e=>
  obtain⟨p,r,A,s,t,_⟩:=W4 h n N;have o:Dv (DW w y (N+1)).1 (DW w y N).1:=⟨yP (DW w y N),λx=>by
   grind[Je]⟩
  have g:Dv (yP (DW w y N)) (DW w y N).1:=⟨(DW w y (N+1)).1,λx=>by
   grind[Je]⟩
  rw[yL];refine⟨λx c=>?_,?_⟩
  . rcases CK.1 c with c|c
    . obtain⟨i,j,u,k,l,m,v,f⟩:=e.1 x c;exact⟨i,j,O,k,l,m,v,(f.symm.of_dv o).symm⟩
    . split at c
      . next hl=>
        simp at c;subst c;exact⟨hl,DL,Aa _,s,p,r,g.trans (Ij h n N).2.2.2,t⟩
      . simp at c
  . refine List.pairwise_append.2 ⟨e.2,by split<;>simp,λx c z d=>?_⟩;split at d
    . simp at d;subst d;obtain⟨i,j,u,k,l,m,_,f⟩:=e.1 x c;exact⟨by simp only;omega,(f.symm.of_dv g).symm⟩
    . simp at d
theorem oo(h:Yun q w y)(b:Js q=q)(x:Rat):∀N,ev q x=Du (yL w y N) x*(ev (DW w y N).1 x^N*ev (ER q w y N) x):=by
 intro N;induction N with
 |zero=>simp[yL,Du,ER]
 |succ N o=>
  obtain⟨i,j,k,_,_,l⟩:=W4 h b N;have d:=congrArg (λr=>ev r x) k;have f:=congrArg (λr=>ev r x) l;simp only[Je]at d f;rw[o,yL,OQ];have e:Du (if 1<(yP (DW w y N)).length then [(yP (DW w y N),N+1)]else []) x=ev (yP (DW w y N)) x^(N+1):=by
   split
   . simp[Du]
   . next hl=>
     have n:yP (DW w y N)=[1]:=by
      have g:yP (DW w y N)≠[]:=J6 (Ij h b N).1.tw (Yx _ _) (Or.inl (Ij h b N).1.w0);have a:=OP i g j;have:=Ac.2 g;generalize yP (DW w y N)=P at *;match P,hl,this,a with
      |[c],_,_,a=>simp[cf]at a;rw[a]
      |_::_::_,hl,_,_=>exact absurd DL hl
     rw[n];have m:ev [1] x=1:=by simp[ev];grind
     rw[m,OR];rfl
  rw[e,f];have hp:(ev (DW w y N).1 x)^(N+1)=ev (yP (DW w y N)) x^(N+1)*ev (DW w y (N+1)).1 x^(N+1):=by rw[d,oj]
  rw[Rat.pow_succ]at hp;grind
def W8{a:List Rat}(ta:Jc a=a)(ma:Js a=a)(a0:a≠[])(hl:a.length<=1):a=[1]:=by
 have b:=OP ta a0 ma;have:=Ac.2 a0;match a,hl,this,b with
 |[c],_,_,b=>simp[cf]at b;rw[b]
 |_::_::_,hl,_,_=>simp at hl
theorem oq(h:Yun q w y)(b:Js q=q):∀N,(∀n,n<N->1<(DW w y n).1.length)->(ER q w y N).length+N<=q.length:=by
 intro N;induction N with
 |zero=>intro _;exact Aa _
 |succ N a=>
  intro hn;grind[RT]
theorem X0(h:Yun q w y)(b:Js q=q){N:Nat}(hn:∀n,n<N->1<(DW w y n).1.length)(d:(DW w y N).1.length<=1):N+1<=q.length/\∀x,ev q x=Du (yL w y N) x:=by
 obtain⟨a,_,e,_⟩:=Ij h b N;have g:=W8 a.tw a.mw a.w0 d;have f:ER q w y N=[1]:=by
  have c:Dv (ER q w y N) (Jb (ER q w y N)):=⟨(DW w y N).2,λx=>by
   have:=a.eq x;grind[ev]⟩
  exact Dv.eq a.tR DN e Wy (MW a.tR a.R0 c) (Wx _)
 have hl:=oq h b N hn;grind[ev,oo,OR]
end
variable{u:List Rat}{B e k s x z:Rat}{U:Rat->Prop}
theorem OS{c:Rat}(h:c≠0):0<Yt c:=by
 unfold Yt;split<;>grind
def ot{c:Rat}(h:0<c):∀n:Nat,0<c^n:=by
 intro n;induction n with
 |zero=>rw[Rat.pow_zero];decide
 |succ n a=>rw[Rat.pow_succ];exact Rat.mul_pos a h
def ou{p q:List Rat}(hq:Jc q=q)(a:q≠[]):0<Ea p q:=ot (OS (Ju hq a)) _
theorem RV{a b:List Rat}(tb:Jc b=b)(b0:b≠[]):∃(q:List Rat) (c:Rat),0<c/\∀x,Ea a b*ev a x=ev q x*ev b x-c*ev (XF a b) x:=by
 obtain⟨k,d,hk⟩:=Xa (p:=JU (XM a b) b) (Yl _);refine⟨Jm (XM a b) b,1/k,Yk DN d,λx=>?_⟩;have e:=(Y3 (XM a b) b tb b0).1 x;grind[ev,XM,Jn,XF,Xy]
def chnL_head(a b:List Rat):∃t,EQ a b=a::t:=by
 unfold EQ;cases b.length with
 |zero=>exact⟨_,J⟩
 |succ n=>
  unfold Eb;split
  . exact⟨_,J⟩
  . exact⟨_,J⟩
theorem ov{a:List Rat}(ta:Jc a=a)(a0:a≠[])(x:Rat):ev (Jm a a) x=1:=by
 have h:=Y1 (u:=Jm a a) (v:=[1]) ta a0 (λx=>by
  rw[<-(JL ta a0 (Dv.refl a)).2 x,Jo];grind) x
 rwa[Jo]at h
theorem Mf:∀(n:Nat) (a b:List Rat),b.length<=n->Jc a=a->Jc b=b->a≠[]->∃g,(EQ a b).getLast?=some g/\Jc g=g/\g≠[]/\Dv g a/\Dv g b/\(∀d,Dv d a->Dv d b->Dv d g)/\StC ((EQ a b).map λp=>Jm p g):=by
 intro n;induction n with
 |zero=>
  intro a b hn ta _ a0
  have:b=[]:=Al.1 O
  subst this;exact⟨a,J,ta,a0,Dv.refl a,Dv.zero a,λ_ h _=>h,StC.one (c:=1) DN λx=>ov ta a0 x⟩
 |succ n y=>
  intro a b hn ta tb a0;by_cases b0:b=[]
  . grind
  . have hl:=Xi (a:=a) tb b0;obtain⟨g,m,tg,g0,f,k,o,e⟩:=y b (XF a b) O tb (Ig _ _) b0;obtain⟨q,c,c0,H⟩:=RV (a:=a) tb b0;have w0:=ou (p:=a) tb b0;have z:1/Ea a b*Ea a b=1:=Ak DK;have A:1/c*c=1:=Ak DK;have i:Dv g a:=f.comb k (Ji [1/Ea a b] q) [-(1/Ea a b*c)] λx=>by
     grind[Je,ev]
    refine⟨g,?_,tg,g0,i,f,λd d1 j=>o d j (j.comb d1 (Ji [1/c] q) [-(1/c*Ea a b)] λx=>?_),?_⟩
    . rw[XI tb b0,List.getLast?_cons,m];rfl
    . grind[Je,ev]
    . rw[XI tb b0];by_cases l:XF a b=[]
      . rw[l,KE]at e ⊢;obtain⟨_,r,s⟩:=e.o;exact StC.two r s
      . obtain⟨t,w⟩:=chnL_head (XF a b) (XF b (XF a b));rw[XI (Ig _ _) l,w]at e ⊢;have B:=(JL tg g0 i).2;have D:=(JL tg g0 f).2;have G:=(JL tg g0 k).2;refine StC.more (q:=q) w0 c0 (λx=>?_) e;have:=Y1 (u:=Ji [Ea a b] (Jm a g)) (v:=JR (Ji q (Jm b g)) (Ji [c] (Jm (XF a b) g))) tg g0 (λx=>by
         grind[Je,Xy,Jo]) x
        rwa[Je,Xy,Je,Je,Jo,Jo]at this
theorem RW:∀(n:Nat) (R w y:List Rat),R.length<=n->Yun R w y->DT w (Jb w):=by
 intro n;induction n with
 |zero=>intro R w y hn h;exact absurd (Al.1 O) h.R0
 |succ n o=>
  intro R w y hn h;by_cases hl:w.length<=1
  . obtain⟨c,l⟩:=LW h.tw h.w0 hl;refine⟨c,[],λx=>?_⟩;have:=l x;rw[Jo]at this;simp[ev];grind
  . obtain⟨p1,f⟩:=h.part;obtain⟨_,_,b,i,_,e⟩:=h.step;obtain⟨a,k⟩:=ex (Jr w (JR y (Jb w)));rw[k]at p1 f b e;obtain⟨w2,m⟩:=ex (Jm w a);rw[m]at f b e;have p:(Jm R w).length<=n:=by
     have:=JC h.tw b.tR h.w0 b.R0;rw[<-i]at this;omega
    have j:=o _ _ _ p b;have g:∀x,ev (Jb w) x=ev (Jb a) x*ev w2 x+ev a x*ev (Jb w2) x:=λx=>by
     have:=Yr a w2 x;rwa[<-e]at this
    have c1:DT a (Jb w):=(p1.mul f).shift (d:=Ji [-1] (Jb w2)) λx=>by
     rw[Je,Je,Jo,g];grind
    have c2:DT w2 (Jb w):=(f.symm.mul j).shift (d:=Ji [-1] (Jb a)) λx=>by
     rw[Je,Je,Jo,g];grind
    have c3:=(c1.symm.mul c2.symm).symm;rwa[<-e]at c3
def Y0(c:Rat)(p:List Rat)(x:Rat):ev (Jb (DQ c p)) x=c*ev (Jb p) x:=by
 rw[Iv,Iv];unfold DQ;rw[SU (Yp _),SV,AX]
def Jq(p:List Rat):List (List Rat):=(YQ p (Jb p)).map λa=>Jm a ((YQ p (Jb p)).getLast?.getD [])
def DO(p:List Rat):List Rat:=Jm (Js p) (Jr (Js p) (Jb (Js p)))
def El(p:List Rat):List Rat:=Jm (Jb (Js p)) (Jr (Js p) (Jb (Js p)))
theorem ow{p:List Rat}(tp:Jc p=p)(p0:p≠[]):StC (Jq p)/\∃f l k,Jq p=f::l/\k≠0/\(∀x,ev f x=k*ev (DO p) x)/\∀f1 l1,l=f1::l1->∃P,0<k*P/\∀x,ev f1 x=P*ev (El p) x:=by
 have ts:=Jt p;obtain⟨α,α0,hα⟩:=Xa tp;obtain⟨β,β0,hβ⟩:=Xa ts;obtain⟨y,s⟩:=Me tp p0;obtain⟨b,hl⟩:=ex (cf p (p.length-1));rw[hl]at y s;have tR:=Yu p;have R0:=Kn tp p0;obtain⟨R,M⟩:=ex (Js p);rw[M]at s tR R0;have z:=Jt R;have a0:Jp p≠[]:=λe=>p0 (Al.1 (by rw[<-JJ tp,e];rfl));have A:∀x,ev (Jp p) x=α*b*ev R x:=λx=>by
  rw[hα,Jn];conv=>lhs;rw[s]
  rw[Jn];grind
 have B:∀x,ev (Jp (Jb p)) x=β*b*ev (Jb R) x:=λx=>by
  rw[hβ,Jn];have:=Y0 b R x;rw[<-s]at this;rw[this];grind
 obtain⟨g,V,tg,g0,K,L,W,X⟩:=Mf _ (Jp p) (Jp (Jb p)) (Aa _) (J5 _) (J5 _) a0;obtain⟨D,G,_⟩:=Yf tR z;have q:=JE R (Jb R);have r:=J6 tR z (Or.inl R0);have T:=(JL q r D).2;have U:=(JL q r G).2;have Q:Dv (Jr R (Jb R)) g:=W _ (by
  obtain⟨c,j⟩:=D;exact⟨DQ (α*b) c,λx=>by rw[A,j,Jn];grind⟩) (by obtain⟨c,j⟩:=G;exact⟨DQ (β*b) c,λx=>by rw[B,j,Jn];grind⟩)
 have N:∀ {k:Rat},0<k->1/(k*b)*(k*b)=1:=λhk=>Ak (by
  intro e;rcases A2.1 e with e|e
  . grind
  . exact y e)
 have S:Dv g (Jr R (Jb R)):=Ko tR z (by
  obtain⟨c,j⟩:=K;refine⟨DQ (1/(α*b)) c,λx=>?_⟩;have i:=j x;rw[A]at i
  have:ev R x=1/(α*b)*(α*b*ev R x):=by rw[<-Rat.mul_assoc,N α0,Cs]
  rw[this,i,Jn];grind) (by
  obtain⟨c,j⟩:=L;refine⟨DQ (1/(β*b)) c,λx=>?_⟩;have i:=j x;rw[B]at i
  have:ev (Jb R) x=1/(β*b)*(β*b*ev (Jb R) x):=by rw[<-Rat.mul_assoc,N β0,Cs]
  rw[this,i,Jn];grind)
 obtain⟨m,m0,hm⟩:=Dv.anti q tg Q S;have H:∀x,ev g x=m*ev (Jr R (Jb R)) x:=λx=>by rw[hm,Jn];grind
 have w:1/m*m=1:=Ak m0;have qa:=(JL tg g0 K).2;have qb:=(JL tg g0 L).2;have I:Jq p=(EQ (Jp p) (Jp (Jb p))).map λa=>Jm a g:=by
  unfold Jq YQ;rw[V];rfl
 refine⟨by rw[I];exact X,?_⟩;obtain⟨t,d⟩:=chnL_head (Jp p) (Jp (Jb p));unfold DO El;rw[M];refine⟨Jm (Jp p) g,t.map λa=>Jm a g,1/m*(α*b),by rw[I,d];rfl,?_,λx=>?_,λf1 l1 n=>⟨1/m*(β*b),?_,λx=>?_⟩⟩
 . intro e;rcases A2.1 e with e|e
   . rw[e]at w;grind
   . rcases A2.1 e with e|e
     . grind
     . exact y e
 . have:=Y1 (u:=Jm (Jp p) g) (v:=DQ (1/m*(α*b)) (Jm R (Jr R (Jb R)))) q r (λx=>by
    have o:=qa x;rw[H,A,T]at o;rw[Jn]
    have:ev (Jr R (Jb R)) x*ev (Jm (Jp p) g) x=1/m*(m*ev (Jr R (Jb R)) x*ev (Jm (Jp p) g) x):=by
     rw[<-Rat.mul_assoc,<-Rat.mul_assoc,w,Cs]
    rw[this,<-o];grind) x
   rw[this,Jn];grind
 . have i:1/m*(α*b)*(1/m*(β*b))=(1/m*b)*(1/m*b)*(α*β):=DK
   rw[i];refine Rat.mul_pos ?_ (Rat.mul_pos α0 β0);have c0:1/m*b≠0:=λe=>by
    rcases A2.1 e with e|e
    . rw[e]at w;grind
    . exact y e
   have:=XG (f:=[1/m*b]) c0 (λx=>Jo _ x) 0 0;unfold Stb at this;rwa[Jo]at this
 . have hb:f1=Jm (Jp (Jb p)) g:=by
    by_cases b0:Jp (Jb p)=[]
    . rw[b0,KE]at d;injection d with _ d
      rw[<-d]at n;cases n
    . rw[XI (J5 _) b0]at d;injection d with _ d
      obtain⟨t2,ae⟩:=chnL_head (Jp (Jb p)) (XF (Jp p) (Jp (Jb p)));rw[<-d,ae]at n;injection n with n _
      exact n.symm
   rw[hb];have:=Y1 (u:=Jm (Jp (Jb p)) g) (v:=DQ (1/m*(β*b)) (Jm (Jb R) (Jr R (Jb R)))) q r (λx=>by
    have o:=qb x;rw[H,B,U]at o;rw[Jn]
    have:ev (Jr R (Jb R)) x*ev (Jm (Jp (Jb p)) g) x=1/m*(m*ev (Jr R (Jb R)) x*ev (Jm (Jp (Jb p)) g) x):=by
     rw[<-Rat.mul_assoc,<-Rat.mul_assoc,w,Cs]
    rw[this,<-o];grind) x
   rw[this,Jn];grind
def J8(b:List Rat):List Rat:=DQ (1/Yt (cf b (b.length-1))) b
def Ec:Nat->List Rat->List Rat->List (List Rat)
 |0,a,_=>[a]
 |n+1,a,b=>if b=[]then [a]else a::Ec n (J8 b) (DQ (-1) (JU a (J8 b)))
def Mg(n:Nat)(a b:List Rat):∃t,Ec n a b=a::t:=by
 cases n with
 |zero=>exact⟨_,J⟩
 |succ n=>
  unfold Ec;split
  . exact⟨_,J⟩
  . exact⟨_,J⟩
def Ks{b:List Rat}(tb:Jc b=b)(b0:b≠[]):0<1/Yt (cf b (b.length-1)):=Yk DN (OS (Ju tb b0))
def LY{b:List Rat}{c:Rat}(g:c≠0)(tb:Jc b=b):(DQ c b).length=b.length:=by
 have e:DQ (1/c) (DQ c b)=b:=by rw[LT,AX,Ak g,KC tb]
 have a:∀(d:Rat) (q:List Rat),(DQ d q).length<=q.length:=λd q=>by
  unfold DQ;refine Ad (Ym _) ?_;unfold XJ;simp
 have i:=a c b;have f:=a (1/c) (DQ c b);rw[e]at f;omega
theorem Y2{a:List Rat}(ta:Jc a=a)(h:DT a []):∃c,c≠0/\∀x,ev a x=c:=by
 obtain⟨u,v,b⟩:=h;have d:Dv a [1]:=⟨u,λx=>by rw[Jo,<-b x];simp[ev];grind⟩;have f:=(d.len ta DN DN).1;have a0:a≠[]:=λe=>by
  have:=b 0;rw[e]at this;simp[ev]at this;grind
 match a,a0,f with
 |[c],_,_=>
  refine⟨c,λe=>?_,λx=>Jo c x⟩;have:=b 0;rw[e]at this;simp[ev]at this;grind
theorem ZA:∀(n:Nat) (a b:List Rat),b.length<=n->Jc a=a->Jc b=b->DT a b->StC (Ec n a b):=by
 intro n;induction n with
 |zero=>
  intro a b hn ta _ d
  have:b=[]:=Al.1 O
  subst this;obtain⟨c,c0,f⟩:=Y2 ta d;exact StC.one c0 f
 |succ n p=>
  intro a b hn ta tb d;by_cases b0:b=[]
  . subst b0;obtain⟨c,c0,f⟩:=Y2 ta d;rw[Ec,BF J];exact StC.one c0 f
  . rw[Ec,BE b0];have I:=Ks tb b0;have lb:(J8 b).length=b.length:=LY DK tb;have i:Jc (J8 b)=J8 b:=JK _ _;have k:J8 b≠[]:=λe=>b0 (Al.1 (by rw[<-lb,e];rfl));obtain⟨j,sl⟩:=Y3 a (J8 b) i k;have tr:Jc (JU a (J8 b))=JU a (J8 b):=Yl _;have es:∀x,ev (J8 b) x=ev b x*(1/Yt (cf b (b.length-1))):=λx=>Jn _ _ _;have l:DT (J8 b) (DQ (-1) (JU a (J8 b))):=by
     obtain⟨u,v,o⟩:=d;have r:Yt (cf b (b.length-1))*(1/Yt (cf b (b.length-1)))=1:=by
      rw[AX];exact Ak (by have:=OS (Ju tb b0);grind)
     refine⟨Xx (Ji u (Jm a (J8 b))) (Ji [Yt (cf b (b.length-1))] v),Ji [-1] u,λx=>?_⟩;rw[Ye,Je,Je,Je,Jo,Jo,Jn];have s:=o x;have g:=j x;have w:=es x;have y:ev b x=Yt (cf b (b.length-1))*ev (J8 b) x:=by
      rw[w,AX,Rat.mul_assoc,AX (1/_),r,Rat.mul_one]
     rw[y,g]at s;grind
    have hi:=p (J8 b) (DQ (-1) (JU a (J8 b))) (by rw[LY DN tr];omega) i (JK _ _) l;by_cases r0:DQ (-1) (JU a (J8 b))=[]
    . rw[r0]at hi ⊢;have e:Ec n (J8 b) []=[J8 b]:=by cases n<;>rfl
      rw[e]at hi ⊢;obtain⟨_,d,f⟩:=hi.o;exact StC.two d f
    . have H:=JK (-1) (JU a (J8 b));cases n with
      |zero=>
       exact absurd (Al.1 (by have:=LY (c:=-1) DN tr;omega)) r0
      |succ n=>
       obtain⟨t,m⟩:=Mg n (J8 (DQ (-1) (JU a (J8 b)))) (DQ (-1) (JU (J8 b) (J8 (DQ (-1) (JU a (J8 b))))));rw[Ec,BE r0,m]at hi ⊢;have G:=OS (Ju H r0);refine StC.more (q:=Jm a (J8 b)) (a:=1) (c:=Yt (cf (DQ (-1) (JU a (J8 b))) ((DQ (-1) (JU a (J8 b))).length-1))) DN G (λx=>?_) hi;have g:=j x;have z:ev (J8 (DQ (-1) (JU a (J8 b)))) x=ev (DQ (-1) (JU a (J8 b))) x*(1/Yt (cf (DQ (-1) (JU a (J8 b))) ((DQ (-1) (JU a (J8 b))).length-1))):=Jn _ _ _;have A:ev (DQ (-1) (JU a (J8 b))) x=ev (JU a (J8 b)) x*(-1):=Jn _ _ _;have B:1/Yt (cf (DQ (-1) (JU a (J8 b))) ((DQ (-1) (JU a (J8 b))).length-1))*Yt (cf (DQ (-1) (JU a (J8 b))) ((DQ (-1) (JU a (J8 b))).length-1))=1:=Ak DK;rw[z,A];generalize Yt (cf (DQ (-1) (JU a (J8 b))) ((DQ (-1) (JU a (J8 b))).length-1))=K at *;have D:K*(ev (JU a (J8 b)) x*(-1)*(1/K))=- ev (JU a (J8 b)) x:=by
        have:K*(ev (JU a (J8 b)) x*(-1)*(1/K))=(1/K*K)*(- ev (JU a (J8 b)) x):=DK
        rw[this,B];grind
       rw[D,Cs,g];grind
def EU(p:List Rat):List (List Rat):=Ec (Jb (DO p)).length (DO p) (Jb (DO p))
theorem Kt{p:List Rat}(tp:Jc p=p)(p0:p≠[]){a b:Rat}(v:a<=b):DP (JF (Jq p) a)+DP (JF (EU p) b)=DP (JF (Jq p) b)+DP (JF (EU p) a):=by
 obtain⟨hs,f,l,k,D,N,w,u⟩:=ow tp p0;have d:=Yun.start (Yu p) (Kn tp p0) (KD tp);have d:Yun (Js p) (DO p) (El p):=d;have M:=RW _ _ _ _ (Aa _) d;have K:=ZA _ (DO p) (Jb (DO p)) (Aa _) d.tw (Jt _) M;obtain⟨A,S,hA⟩:=JN a;obtain⟨C,T,hC⟩:=JN b;have g:0<=A+C:=DK
 obtain⟨e,U,sg⟩:=RF _ _ _ _ (Aa _) d g;refine glue (B:=A+C) (F:=λx=>DP (JF (Jq p) x)) (G:=λx=>DP (JF (EU p) x)) ?_ (hA.mono DK) (hC.mono DK) v;refine(((hs.gd g).and (K.gd g)).and sg).mono λx y _ _ _ i=>?_;have d1:=i.1.1;have j:=i.1.2;have s:=i.2;obtain⟨m,c⟩:=Mg (Jb (DO p)).length (DO p) (Jb (DO p));show DP (JF (Jq p) x)+DP (JF (EU p) y)=DP (JF (Jq p) y)+DP (JF (EU p) x);unfold EU;rw[D]at d1 ⊢;rw[c]at j ⊢;refine d1.both j N w λhn f1 l1 o X hl q=>?_;obtain⟨W,P,H⟩:=u f1 l1 hl;obtain⟨Q,R⟩:=s hn;by_cases w0:Jb (DO p)=[]
 . exfalso
   rw[w0]at c;rw[q]at c;simp[Ec]at c
 . obtain⟨n,I⟩:∃n,(Jb (DO p)).length=n+1:=⟨_,(Nat.succ_pred_eq_of_pos (Ac.2 w0)).symm⟩;rw[I,Ec,BE w0]at c;injection c with _ c
   obtain⟨t,L⟩:=Mg n (J8 (Jb (DO p))) (DQ (-1) (JU (DO p) (J8 (Jb (DO p)))));rw[L,q]at c;injection c with hg _
   have sp:=Ks (Jt (DO p)) w0;have r:∀z,ev o z=ev (Jb (DO p)) z*(1/Yt (cf (Jb (DO p)) ((Jb (DO p)).length-1))):=λz=>by rw[<-hg];exact Jn _ _ _
   have fin:∀z,e<=ev (El p) z*ev (Jb (DO p)) z->0<k*ev f1 z*ev o z:=λz V=>by
    rw[H,r];have:=Rat.mul_pos (Rat.mul_pos P sp) (show 0<ev (El p) z*ev (Jb (DO p)) z by grind);grind
   exact⟨fin x Q,fin y R⟩
def Mh(l:List (List Rat)):Prop:=∀p∈l,Jc p=p/\p≠[]
def EW(l:List (List Rat)):List Rat:=l.map λp=>cf p (p.length-1)
def X2(l:List (List Rat)):List Rat:=l.map λp=>(-1)^(p.length-1)*cf p (p.length-1)
theorem Y9{l:List (List Rat)}(h:Mh l):∃B,0<B/\(∀x,B<=x->DP (JF l x)=DP (EW l))/\∀x,x<=-B->DP (JF l x)=DP (X2 l):=by
 have j:∃B,0<B/\(∀x,B<=x->∀p∈l,0<ev p x*cf p (p.length-1))/\∀x,x<=-B->∀p∈l,0<ev p x*((-1)^(p.length-1)*cf p (p.length-1)):=by
  induction l with
  |nil=>exact⟨1,DN,(λ_ _ _ hp=>absurd hp (List.not_mem_nil)),(λ_ _ _ hp=>absurd hp (List.not_mem_nil))⟩
  |cons p l e=>
   obtain⟨B,b,c,d⟩:=e λq hq=>h q (AR _ hq);obtain⟨tp,p0⟩:=h p (AF);obtain⟨C,k,n⟩:=Sg tp p0;obtain⟨D,m,o⟩:=Si tp p0;refine⟨B+C+D,DK,λx a q hq=>?_,λx a q hq=>?_⟩
   . grind[AX]
   grind[AX]
 obtain⟨B,b,c,d⟩:=j;refine⟨B,b,λx a=>?_,λx a=>?_⟩
 . refine Sj _ _ 0 0 (by simp[JF,EW]) (λi f g=>?_) (Or.inr ⟨J,J⟩);grind[JF,EW]
 . refine Sj _ _ 0 0 (by simp[JF,X2]) (λi f g=>?_) (Or.inr ⟨J,J⟩);grind[JF,X2]
theorem ox:∀(n:Nat) (a b g:List Rat),b.length<=n->Jc a=a->Jc b=b->a≠[]->Dv g a->Dv g b->Jc g=g->g≠[]->Mh ((EQ a b).map λp=>Jm p g):=by
 intro n;induction n with
 |zero=>
  intro a b g hn ta tb a0 d f tg g0
  have:b=[]:=Al.1 O
  subst this;intro p hp;rw[KE]at hp;rcases Fd.1 hp with⟨q,hq,rfl⟩
  have:q=a:=by simpa using hq
  subst this;exact⟨YC _ _,λe=>a0 (XA ta λx=>by rw[(JL tg g0 d).2,e];simp[ev])⟩
 |succ n k=>
  intro a b g hn ta tb a0 d f tg g0;have j:Jc (Jm a g)=Jm a g/\Jm a g≠[]:=⟨YC _ _,λe=>a0 (XA ta λx=>by rw[(JL tg g0 d).2,e];simp[ev])⟩;by_cases b0:b=[]
  . grind
  . have hl:=Xi (a:=a) tb b0;obtain⟨q,c,c0,m⟩:=RV (a:=a) tb b0;have l:1/c*c=1:=Ak DK;have i:Dv g (XF a b):=f.comb d (Ji [1/c] q) [-(1/c*Ea a b)] λx=>by
     grind[Je,ev]
    have hi:=k b (XF a b) g O tb (Ig _ _) b0 f i tg g0;rw[XI tb b0];intro p hp;rcases Fu.1 hp with rfl|hp
    . exact j
    . exact hi p hp
def Yd{p:List Rat}(tp:Jc p=p)(p0:p≠[]):Mh (Jq p):=by
 have a0:Jp p≠[]:=λe=>p0 (Al.1 (by rw[<-JJ tp,e];rfl));obtain⟨g,c,tg,g0,d,f,_,_⟩:=Mf _ (Jp p) (Jp (Jb p)) (Aa _) (J5 _) (J5 _) a0;have b:Jq p=(EQ (Jp p) (Jp (Jb p))).map λa=>Jm a g:=by
  unfold Jq YQ;rw[c];rfl
 rw[b];exact ox _ _ _ g (Aa _) (J5 _) (J5 _) a0 d f tg g0
theorem oy:∀(n:Nat) (a b:List Rat),Jc a=a->Jc b=b->a≠[]->Mh (Ec n a b):=by
 intro n;induction n with
 |zero=>
  intro a b ta _ a0 p hp;grind[Ec]
 |succ n c=>
  intro a b ta tb a0 p hp;by_cases b0:b=[]
  . grind[Ec]
  . rw[Ec,BE b0]at hp;rcases Fu.1 hp with rfl|hp
    . exact⟨ta,a0⟩
    . have d:=Ks tb b0;have lb:(J8 b).length=b.length:=LY DK tb;exact c _ _ (JK _ _) (JK _ _) (λe=>b0 (Al.1 (by rw[<-lb];show(DQ _ b).length=0;rw[e];rfl))) p hp
def oz{p:List Rat}(tp:Jc p=p)(p0:p≠[]):Mh (EU p):=by
 have a:Yun (Js p) (DO p) (El p):=Yun.start (Yu p) (Kn tp p0) (KD tp);exact oy _ _ _ a.tw (Jt _) a.w0
theorem o9(p:List Rat)(a:0<=B):∃K,0<K/\∀x y,Wi B x->Wi B y->x<=y->Wi (K*((y-x)*(y-x))) (ev p y-ev p x-(y-x)*dv p x):=by
 induction p with
 |nil=>exact⟨1,DN,λx y _ _ _=>by
  have:=Xg (y-x);constructor<;>simp[ev,dv]<;>grind⟩
 |cons c t m=>
  obtain⟨K,j,h⟩:=m;obtain⟨D,hD,k⟩:=XN (Jb t) a;refine⟨B*K+D+1,by have:=Rat.mul_nonneg a (Rat.le_of_lt j);grind,λx y d f l=>?_⟩;have n:=Xg (y-x);have g:Wi ((y-x)*(y-x)) ((y-x)*(y-x)):=⟨DK,DK⟩;have b:=k x d;rw[Iv]at b;have i:=(f.mul (h x y d f l)).add (g.mul b);have e:ev (c::t) y-ev (c::t) x-(y-x)*dv (c::t) x=y*(ev t y-ev t x-(y-x)*dv t x)+(y-x)*(y-x)*dv t x:=by
   rw[Hw,Hw,show dv (c::t) x=ev t x+x*dv t x from J];grind
  rw[e];refine i.mono ?_;grind
def J3(p:List Rat)(x y:Rat):Nat:=if ev p x≠0/\ev p x*ev p y<=0 then 1 else 0
theorem X3{p:List Rat}{y:Rat}(h:Stb p x y):J3 p x y=0:=by
 unfold J3 Stb at *;grind
theorem rise_of{w y:List Rat}(i:0<=B)(f:0<k)(s:Sh B λx z=>¬Stb w x z->k<=ev y x*ev (Jb w) x/\k<=ev y z*ev (Jb w) z):Sh B λx z=>¬Stb w x z->x<z->0<ev (Jb w) x*(ev w z-ev w x):=by
 obtain⟨c,n,I⟩:=XN y i;obtain⟨D,R,hD⟩:=XN (Jb w) i;obtain⟨K,S,H⟩:=o9 w i;obtain⟨e,o,L⟩:=small (K:=(c*c)*(D*K)) (r:=k*k/2) (Rat.le_of_lt (Rat.mul_pos (Rat.mul_pos n n) (Rat.mul_pos R S))) (by have:=Rat.mul_pos f f;grind);have T:Sh B λx z=>z-x<=e:=⟨e,o,λ_ _ _ _ _ h=>h⟩;refine(s.and T).mono λx z j P N ⟨p,l⟩ hn ae=>?_;obtain⟨U,_⟩:=p hn;have g:=H x z j P N;rw[<-Iv]at g;have A:=I x j;have G:=hD x j;generalize ev (Jb w) x=d at *;generalize ev y x=v at *;generalize ev w z-ev w x=t at *;obtain⟨u,M⟩:=ex (z-x);rw[M]at l g;have u0:0<u:=DK
 have V:k*k<=(c*c)*(d*d):=by
  have m:=Rat.mul_nonneg (a:=v*d-k) (b:=v*d+k) DK DK;have Q:=Rat.mul_nonneg (a:=c*c-v*v) (b:=d*d) (by have:=Lm A;grind) (Xg d);grind
 have W:u*(d*d)-(D*K)*(u*u)<=d*t:=by
  have m:=(G.mul g).1;grind
 have X:=L u l;have hp:0<(c*c)*(d*t):=by
  have m:=Rat.mul_nonneg (a:=c*c) (b:=d*t-(u*(d*d)-(D*K)*(u*u))) (Xg c) DK;have Q:=Rat.mul_nonneg (a:=u) (b:=(c*c)*(d*d)-k*k) DK DK;have i3:=Rat.mul_nonneg (a:=u) (b:=k*k/2-(c*c)*(D*K)*u) DK DK;have i4:=Rat.mul_pos u0 (Rat.mul_pos f f);grind
 rcases JX (d*t) 0 with q|q
 . have:=Rat.mul_nonneg (a:=c*c) (b:=-(d*t)) (Xg c) DK;grind
 . rcases Rat.le_iff_lt_or_eq.1 q with q|q
   . exact q
   . rw[<-q]at hp;grind
def ZB{R w y:List Rat}(h:Yun R w y)(a:0<=B):Sh B λx z=>¬Stb w x z->x<z->0<ev (Jb w) x*(ev w z-ev w x):=by
 obtain⟨k,b,s⟩:=RF _ _ _ _ (Aa _) h a;exact rise_of a b s
theorem Xb{a b:Rat}(h:0<(a*a)*b):0<b:=by
 rcases JX b 0 with q|q
 . have:=Rat.mul_nonneg (a:=a*a) (b:=-b) (Xg a) DK;grind
 . rcases Rat.le_iff_lt_or_eq.1 q with q|q
   . exact q
   . rw[<-q]at h;grind
theorem pB{a b u v:Rat}(c:0<a*(v-u))(d:0<b*(v-u))(e:u*v<=0):
 (if u*a<0 then 1 else 0)=(if v*b<0 then 1 else 0)+(if u≠0/\u*v<=0 then 1 else 0:Nat):=by
 by_cases u0:u=0
 . subst u0;grind
 . have f:u*a<0:=by
    rcases JX 0 (u*a)with q|q
    . exfalso
      have a0:=(Jz c).1;have q:0<u*a:=by
       rcases Rat.le_iff_lt_or_eq.1 q with q|q
       . exact q
       . grind
      have:=Rat.mul_pos q (show 0<v*a by grind);have:=Xb (a:=a) (b:=u*v) DK;grind
    . grind[A2]
   have g:¬v*b<0:=λq=>by
    have:=Rat.mul_pos (a:=-(v*b)) (b:=-(u*b)) DK DK;have:=Xb (a:=b) (b:=u*v) DK;grind
   grind
theorem pC{w b f1:List Rat}{n:Nat}{c:List (List Rat)}(a:Ec n w b=w::f1::c):b≠[]/\f1=J8 b:=by
 cases n with
 |zero=>
  have d:[w]=w::f1::c:=a;grind
 |succ n=>
  by_cases w0:b=[]
  . grind[Ec]
  . rw[Ec,BE w0]at a;have d:=(List.cons.inj a).2;obtain⟨t,e⟩:=Mg n (J8 b) (DQ (-1) (JU w (J8 b)));grind
theorem Y7{p:List Rat}(tp:Jc p=p)(p0:p≠[])(i:0<=B):Sh B λx z=>DP (JF (EU p) x)=DP (JF (EU p) z)+J3 (DO p) x z:=by
 have d:Yun (Js p) (DO p) (El p):=Yun.start (Yu p) (Kn tp p0) (KD tp);have k:=RW _ _ _ _ (Aa _) d;have j:=ZA _ (DO p) (Jb (DO p)) (Aa _) d.tw (Jt _) k;refine((j.gd i).and (ZB d i)).mono λx z _ _ q ⟨b,hs⟩=>?_;show DP (JF (EU p) x)=DP (JF (EU p) z)+J3 (DO p) x z;obtain⟨m,f⟩:=Mg (Jb (DO p)).length (DO p) (Jb (DO p));unfold EU;rw[f]at b ⊢;by_cases st:Stb (DO p) x z
 . rw[X3 st,b.stay st];rfl
 . cases m with
   |nil=>exact absurd b.o st
   |cons f1 r=>
    obtain⟨w0,hg⟩:=pC f;have sp:=Ks (Jt (DO p)) w0;obtain⟨c,e⟩:∃c,1/Yt (cf (Jb (DO p)) ((Jb (DO p)).length-1))=c:=⟨_,J⟩;rw[e]at sp;have l:ev f1 x=ev (Jb (DO p)) x*c:=by rw[hg,<-e];exact Jn _ _ _
    have g:=(b.adj).resolve_left st;obtain⟨s,t⟩:=Jz g;have sm:=b.tail.same _ r f1 (Aa _) g;rw[JW,JW,JW,JW,Iw s,Iw t,sm];clear sm f j k d b hg e w0;have w:ev (DO p) x*ev (DO p) z<=0:=Rat.not_lt.1 st;rcases Rat.le_iff_lt_or_eq.1 q with o|v
    . have n:0<ev f1 x*(ev (DO p) z-ev (DO p) x):=by
       rw[l];have:=Rat.mul_pos (hs st o) sp;grind
      have u:0<ev f1 z*(ev (DO p) z-ev (DO p) x):=Xb (a:=ev f1 x) (by
       have:=Rat.mul_pos (show 0<ev f1 x*ev f1 z from g) n;grind)
      grind[pB,J3]
    grind[Xg,Rat.le_antisymm,J3]
theorem pD{F:Rat->Nat}(h:Sh B λx y=>F y<=F x){a b:Rat}(c:Wi B a)(i:Wi B b)(e:a<=b):F b<=F a:=by
 obtain⟨d,d0,h⟩:=h;obtain⟨n,hn⟩:=steps d0 a b
 have:∀(n:Nat) (a:Rat),Wi B a->a<=b->b-a<=(n:Rat)*d->F b<=F a:=by
  intro n;induction n with
  |zero=>
   intro a c e f;grind
  |succ n l=>
   intro a c e f;have j:((n+1:Nat):Rat)=(n:Rat)+1:=by rw[Rat.natCast_add];rfl
   rw[j]at f;rcases JX (b-a) d with g|g
   . exact h a b c i e g
   . have k:Wi B (a+d):=⟨by have:=c.1;grind,by have:=i.2;grind⟩;grind
 exact this n a c e hn
def pE{p:List Rat}(tp:Jc p=p)(p0:p≠[]){a b:Rat}(c:a<=b):DP (JF (EU p) b)<=DP (JF (EU p) a):=by
 obtain⟨A,d,hA⟩:=JN a;obtain⟨C,e,hC⟩:=JN b;refine pD (B:=A+C) (F:=λx=>DP (JF (EU p) x)) ?_ (hA.mono DK) (hC.mono DK) c;refine(Y7 tp p0 (B:=A+C) DK).mono λx y _ _ _ h=>?_;omega
def pF{p:List Rat}(tp:Jc p=p)(p0:p≠[]){a b:Rat}(c:a<=b):DP (JF (Jq p) b)<=DP (JF (Jq p) a):=by
 have d:=Kt tp p0 c;have e:=pE tp p0 c;omega
theorem Mi{v:List Rat}(h:DT u v)(i:0<=B):Sh B λx z=>J3 (Ji u v) x z=J3 u x z+J3 v x z:=by
 obtain⟨s,t,p⟩:=h;obtain⟨S,k,o⟩:=XN s i;obtain⟨T,l,hT⟩:=XN t i;have d:∀ {r K:Rat},0<K->K*(r/K)=r:=λA=>by grind
 refine((Xe u i (Yk Hc k)).and (Xe v i (Yk Hc l))).mono λx z j _ _ ⟨m,n⟩=>?_;have e:∀y,ev (Ji u v) y=ev u y*ev v y:=λy=>Je _ _ _;by_cases g:Stb u x z
 . by_cases c:Stb v x z
   . have:Stb (Ji u v) x z:=by
      unfold Stb at *;rw[e,e];have:=Rat.mul_pos g c;grind
     rw[X3 this,X3 g,X3 c]
   . rw[X3 g,AW];unfold J3 Stb at *;rw[e,e];obtain⟨u1,u2⟩:=Jz g;by_cases q:ev v x≠0/\ev v x*ev v z<=0
     . rw[BF q,BF ⟨λf=>by grind,by have:=Rat.mul_nonneg (a:=ev u x*ev u z) (b:=-(ev v x*ev v z)) DK DK;grind⟩]
     grind
 . have c:Stb v x z:=Classical.byContradiction λc=>by
    have D:=KP (p x) (o x j) (m g).1 (by rw[d k];exact Rat.le_refl);have w:=((hT x j).mul (n c).1).2;rw[d l]at w;grind
   rw[X3 c,A8];unfold J3 Stb at *;rw[e,e];obtain⟨u1,u2⟩:=Jz c;by_cases q:ev u x≠0/\ev u x*ev u z<=0
   . rw[BF q,BF ⟨λf=>by grind,by have:=Rat.mul_nonneg (a:=ev v x*ev v z) (b:=-(ev u x*ev u z)) DK DK;grind⟩]
   grind
theorem DT.of_unit{a:List Rat}(h:Dv a [1])(c:List Rat):DT a c:=by
 obtain⟨d,b⟩:=h;refine⟨d,[],λx=>?_⟩;have:=b x;rw[Jo]at this;simp[ev];grind
def DT.mul_left{a b c:List Rat}(h:DT a c)(d:DT b c):DT (Ji a b) c:=(h.symm.mul d.symm).symm
def DT.of_dv2{a b d:List Rat}(h:DT a b)(c:Dv d b):DT a d:=(h.symm.of_dv c).symm
theorem pG:∀(n:Nat) (R w y:List Rat),R.length<=n->Yun R w y->∀c,DT w c->DT R c:=by
 intro n;induction n with
 |zero=>intro R w y hn h;exact absurd (Al.1 O) h.R0
 |succ n i=>
  intro R w y hn h c e;by_cases hl:w.length<=1
  . obtain⟨d,m⟩:=LW h.tw h.w0 hl;refine DT.of_unit (MW h.tR h.R0 ⟨Ji d y,λx=>?_⟩) c;have l:=h.eq x;grind[Je,ev]
  . obtain⟨_,_,a,b,_,k⟩:=h.step;have j:(Jm R w).length<=n:=by
     have:=JC h.tw a.tR h.w0 a.R0;rw[<-b]at this;omega
    have f:Dv (Jm w (Jr w (JR y (Jb w)))) w:=⟨Jr w (JR y (Jb w)),λx=>by
     grind[Je]⟩
    have g:=i _ _ _ j a c (e.of_dv f);rw[b];exact e.mul_left g
def Df(u:List Rat):Prop:=DT u (Jb u)
theorem Df.parts{a b:List Rat}(h:Df (Ji a b)):DT a b:=by
 obtain⟨u,v,c⟩:=h;refine⟨Xx (Ji u b) (Ji v (Jb b)),Ji v (Jb a),λx=>?_⟩;grind[Yr,Je,Ye]
theorem Df.of_dv{a b:List Rat}(h:Df b)(tb:Jc b=b)(d:Dv a b):Df a:=by
 obtain⟨c,_,e⟩:=d.some tb;obtain⟨u,v,f⟩:=h;rw[e]at f;refine⟨Xx (Ji u c) (Ji v (Jb c)),Ji v c,λx=>?_⟩;grind[Yr,Je,Ye]
theorem Df.mul{a b:List Rat}(e:Df a)(f:Df b)(h:DT a b):Df (Ji a b):=by
 have c:=Yr a b;have c1:DT a (Jb (Ji a b)):=(DT.mul e h).shift (d:=Ji [-1] (Jb b)) λx=>by
  rw[Je,Je,Jo,c];grind
 have c2:DT b (Jb (Ji a b)):=(h.symm.mul f).shift (d:=Ji [-1] (Jb a)) λx=>by
  rw[Je,Je,Jo,c];grind
 exact c1.mul_left c2
theorem Df.dv{v:List Rat}(g:Jc u=u)(i:Jc v=v)(M:v≠[])(hv:Df v)(h:∀c,DT u c->DT v c):Dv v u:=by
 have g0:=J6 g i (Or.inr M);have tg:=JE u v;obtain⟨j,l,s,t,n⟩:=Yf g i;obtain⟨d,I⟩:=ex (Jr u v);rw[I]at g0 tg j l n;have f:=(JL tg g0 l).2;obtain⟨e,o⟩:=ex (Jm v d);rw[o]at f;have B:v=Ji d e:=YO i (Jv _ _) λx=>by rw[Je,f]
 have z:DT d e:=Df.parts (by rw[<-B];exact hv);have A:DT u e:=by
  obtain⟨a,b,H⟩:=z;have L:Jc e=e:=by rw[<-o];exact YC _ _
  obtain⟨f1,f2,m,k,f3⟩:=Yf g L;have D:Dv (Jr u e) d:=f1.comb (f2.mul' d) s t λx=>by
   rw[n,Je,f]
  have G:Dv (Jr u e) [1]:=D.comb f2 a b λx=>by rw[Jo,H]
  obtain⟨r,p⟩:=G;refine⟨Ji r m,Ji r k,λx=>?_⟩;have K:=p x;rw[Jo,f3]at K;rw[Je,Je];grind
 have w:=h e A;have y:DT e e:=w.of_dv ⟨d,λx=>by rw[f];grind⟩;obtain⟨r,p⟩:=y.unit (Dv.refl e);obtain⟨q,hq⟩:=j;refine⟨Ji r q,λx=>?_⟩;grind[Je,ev]
def YV{p:List Rat}(tp:Jc p=p)(p0:p≠[]):Yun (Js p) (DO p) (El p):=Yun.start (Yu p) (Kn tp p0) (KD tp)
def Ik{p:List Rat}(tp:Jc p=p)(p0:p≠[]):Df (DO p):=RW _ _ _ _ (Aa _) (YV tp p0)
def RX{p:List Rat}(tp:Jc p=p)(p0:p≠[]):Dv (Js p) p/\Dv p (Js p):=by
 obtain⟨c,b⟩:=Me tp p0;have a:Dv (Js p) p:=⟨[cf p (p.length-1)],λx=>by
  conv=>lhs;rw[b]
  rw[Jn,Jo]⟩
 exact⟨a,⟨[1/cf p (p.length-1)],λx=>by rw[LV,Jo]⟩⟩
def II{p:List Rat}(tp:Jc p=p)(p0:p≠[]):Dv (DO p) p:=(YV tp p0).dv.trans (RX tp p0).1
def XP{p:List Rat}(tp:Jc p=p)(p0:p≠[])(c:List Rat):DT (DO p) c↔DT p c:=by
 constructor
 . intro h;exact(pG _ _ _ _ (Aa _) (YV tp p0) c h).of_dv (RX tp p0).2
 . intro h;exact h.of_dv (II tp p0)
theorem RY{p q:List Rat}(tp:Jc p=p)(p0:p≠[])(tq:Jc q=q)(q0:q≠[]):
 ∃a b c:List Rat,DT a b/\DT a c/\DT (Ji a b) c/\DO p=Ji a b/\DO q=Ji a c/\DO (Ji p q)=Ji (Ji a b) c/\DO (Jr p q)=a:=by
 have e:=YV tp p0;have f:=YV tq q0;have sp:=Ik tp p0;have sq:=Ik tq q0;have s:=Jv p q;have t:Ji p q≠[]:=YN tp tq p0 q0;have tg:=JE p q;have g0:=J6 tp tq (Or.inl p0);have m:=YV s t;have l:=YV tg g0;obtain⟨o,w,_⟩:=Yf e.tw f.tw;have ta:=JE (DO p) (DO q);have ma:=YM e.tw f.tw;have a0:=J6 e.tw f.tw (Or.inl e.w0);have n:=OJ e.tw f.tw a0;obtain⟨mb,_,b0,i⟩:=MX e.tw e.w0 e.mw ta ma o;obtain⟨y,_,c0,j⟩:=MX f.tw f.w0 f.mw ta ma w;have H:∀d,Dv d (DO p)->Dv d (DO q)->Dv d (Jr (DO p) (DO q)):=λd g k=>Ko e.tw f.tw g k;obtain⟨a,V⟩:=ex (Jr (DO p) (DO q));rw[V]at o w ta ma a0 n mb b0 i y c0 j H;obtain⟨b,K⟩:=ex (Jm (DO p) a);obtain⟨c,L⟩:=ex (Jm (DO q) a);have tb:Jc b=b:=by rw[<-K];exact YC _ _
 have z:Jc c=c:=by rw[<-L];exact YC _ _
 rw[K]at n mb b0 i;rw[L]at n y c0 j;have Q:DT a b:=Df.parts (by rw[<-i];exact sp);have D:DT a c:=Df.parts (by rw[<-j];exact sq);have A:DT (Ji a b) c:=D.mul_left n;have sc:Df c:=sq.of_dv f.tw ⟨a,λx=>by rw[j,Je];grind⟩;have P:Df (Ji (Ji a b) c):=(by rw[<-i];exact sp:Df (Ji a b)).mul sc A;refine⟨a,b,c,Q,D,A,i,j,?_,?_⟩
 . have r:=Jv (Ji a b) c;have G:Ji a b≠[]:=YN ta tb a0 b0;have R:Ji (Ji a b) c≠[]:=YN (Jv _ _) z G c0;have W:Js (Ji (Ji a b) c)=Ji (Ji a b) c:=by
    have g:=Md (Jv a b) z G c0;have k:=Md ta tb a0 b0;rw[k,Kq ta a0 ma,Kq tb b0 mb,Kq z c0 y]at g;exact YO (Yu _) r λx=>by rw[LV,g];grind
   have B:∀d,DT (DO (Ji p q)) d↔DT (Ji (Ji a b) c) d:=λd=>by
    rw[XP s t];constructor
    . intro h;have g:DT p d:=h.of_dv ((Dv.refl p).mul q);have k:DT q d:=h.of_dv ((Dv.refl q).mul' p);have I:=(XP tp p0 d).2 g;have U:=(XP tq q0 d).2 k;rw[i]at I;exact I.mul_left (U.of_dv ⟨a,λx=>by rw[j,Je];grind⟩)
    . intro h;have g:DT (DO p) d:=h.of_dv (by rw[i];exact(Dv.refl _).mul c);have k:DT (DO q) d:=h.of_dv (by rw[j];exact⟨b,λx=>by rw[Je,Je,Je];grind⟩);exact((XP tp p0 d).1 g).mul_left ((XP tq q0 d).1 k)
   have d1:=Df.dv (u:=DO (Ji p q)) (v:=Ji (Ji a b) c) m.tw r R P λd h=>(B d).1 h;have S:=Df.dv (u:=Ji (Ji a b) c) (v:=DO (Ji p q)) r m.tw m.w0 (Ik s t) λd h=>(B d).2 h;exact Dv.eq m.tw r m.mw W S d1
 . have X:Df a:=sp.of_dv e.tw o;have sg:=Ik tg g0;obtain⟨M,N,_⟩:=Yf tp tq;have f1:Dv (DO (Jr p q)) (DO p):=Df.dv e.tw l.tw l.w0 sg λd h=>((XP tp p0 d).1 h).of_dv ((II tg g0).trans M);have f2:Dv (DO (Jr p q)) (DO q):=Df.dv f.tw l.tw l.w0 sg λd h=>((XP tq q0 d).1 h).of_dv ((II tg g0).trans N);have f3:=H _ f1 f2;have T:Dv a (DO (Jr p q)):=Df.dv l.tw ta a0 X λd h=>((XP tg g0 d).1 h).of_dv (Ko tp tq (o.trans (II tp p0)) (w.trans (II tq q0)));exact Dv.eq l.tw ta l.mw ma f3 T
theorem pH{p q:List Rat}(tp:Jc p=p)(p0:p≠[])(tq:Jc q=q)(q0:q≠[])(d:0<=B):
 Sh B λx z=>J3 (DO (Ji p q)) x z+J3 (DO (Jr p q)) x z=J3 (DO p) x z+J3 (DO q) x z:=by
 obtain⟨a,b,c,e,f,g,i,j,k,l⟩:=RY tp p0 tq q0;refine(((Mi e d).and (Mi f d)).and (Mi g d)).mono λx z _ _ _ ⟨⟨m,n⟩,o⟩=>?_;grind
theorem pI(l:List Rat):∀a,Xf a l<=l.length:=by
 induction l with
 |nil=>intro a;exact Aa _
 |cons b l c=>
  intro a;grind[Xf]
theorem OT(l:List Rat):DP l<=l.length-1:=by
 cases l with
 |nil=>exact Aa _
 |cons a l=>
  grind[pI,DP,Xf]
theorem ZC:∀(n:Nat) (a b:List Rat),b.length<=n->Jc b=b->(EQ a b).length<=b.length+1:=by
 intro n;induction n with
 |zero=>
  intro a b hn _
  have:b=[]:=Al.1 O
  subst this;exact Aa _
 |succ n c=>
  intro a b hn tb;by_cases b0:b=[]
  . grind
  . have hl:=Xi (a:=a) tb b0;grind[Ig,XI]
theorem RZ{p:List Rat}(p0:p≠[]):(Jq p).length<=p.length:=by
 unfold Jq YQ;rw[Cy];have a:=ZC _ (Jp p) (Jp (Jb p)) (Aa _) (J5 _);grind[JJ,Jt,YY]
def Ra{p:List Rat}(p0:p≠[]):DP (X2 (Jq p))<=p.length-1:=by
 have a:=OT (X2 (Jq p));have b:(X2 (Jq p)).length=(Jq p).length:=by unfold X2;rw[Cy]
 have c:=RZ p0;omega
theorem pJ{p q:List Rat}(tp:Jc p=p)(p0:p≠[])(tq:Jc q=q)(q0:q≠[]){a b:Rat}(f:a<=b):
 (DP (JF (Jq (Ji p q)) a)+DP (JF (Jq (Jr p q)) a))+(DP (JF (Jq p) b)+DP (JF (Jq q) b))=(DP (JF (Jq (Ji p q)) b)+DP (JF (Jq (Jr p q)) b))+(DP (JF (Jq p) a)+DP (JF (Jq q) a)):=by
 have d:=Jv p q;have e:Ji p q≠[]:=YN tp tq p0 q0;have tg:=JE p q;have g0:=J6 tp tq (Or.inl p0);obtain⟨A,g,hA⟩:=JN a;obtain⟨C,i,hC⟩:=JN b;have c:0<=A+C:=DK
 have h:=glue (B:=A+C) (F:=λx=>DP (JF (EU (Ji p q)) x)+DP (JF (EU (Jr p q)) x)) (G:=λx=>DP (JF (EU p) x)+DP (JF (EU q) x)) (((((Y7 d e c).and (Y7 tg g0 c)).and ((Y7 tp p0 c).and (Y7 tq q0 c))).and (pH tp p0 tq q0 c)).mono λx z _ _ _ ⟨⟨⟨j,k⟩,l,m⟩,n⟩=>by
  omega) (hA.mono DK) (hC.mono DK) f
 grind[Kt]
theorem pK{p q:List Rat}(tp:Jc p=p)(p0:p≠[])(tq:Jc q=q)(q0:q≠[])(x:Rat):
 (DP (X2 (Jq (Ji p q)))+DP (X2 (Jq (Jr p q))))+(DP (JF (Jq p) x)+DP (JF (Jq q) x))=(DP (JF (Jq (Ji p q)) x)+DP (JF (Jq (Jr p q)) x))+(DP (X2 (Jq p))+DP (X2 (Jq q))):=by
 have c:=Jv p q;have d:Ji p q≠[]:=YN tp tq p0 q0;have tg:=JE p q;have g0:=J6 tp tq (Or.inl p0);obtain⟨B1,g,_,f1⟩:=Y9 (Yd c d);obtain⟨B2,i,_,f2⟩:=Y9 (Yd tg g0);obtain⟨B3,j,_,f3⟩:=Y9 (Yd tp p0);obtain⟨B4,k,_,e⟩:=Y9 (Yd tq q0);obtain⟨X,f,hX⟩:=JN x;obtain⟨y,l⟩:∃y,-(B1+B2+B3+B4+X)=y:=⟨_,J⟩;have h:=pJ tp p0 tq q0 (a:=y) (b:=x) (by have:=hX.1;clear f1 f2 f3 e;grind);grind
theorem pL{p q:List Rat}(tp:Jc p=p)(p0:p≠[])(tq:Jc q=q)(q0:q≠[]):
 (DP (X2 (Jq (Ji p q)))+DP (X2 (Jq (Jr p q))))+(DP (EW (Jq p))+DP (EW (Jq q)))=(DP (EW (Jq (Ji p q)))+DP (EW (Jq (Jr p q))))+(DP (X2 (Jq p))+DP (X2 (Jq q))):=by
 have a:=Jv p q;have b:Ji p q≠[]:=YN tp tq p0 q0;have tg:=JE p q;have g0:=J6 tp tq (Or.inl p0);obtain⟨B1,c,f1,_⟩:=Y9 (Yd a b);obtain⟨B2,d,f2,_⟩:=Y9 (Yd tg g0);obtain⟨B3,e,f3,_⟩:=Y9 (Yd tp p0);obtain⟨B4,f,g,_⟩:=Y9 (Yd tq q0);obtain⟨y,i⟩:=ex (B1+B2+B3+B4);have h:=pK tp p0 tq q0 y;grind
theorem OU{p q:List Rat}(tp:Jc p=p)(p0:p≠[])(tq:Jc q=q)(q0:q≠[])(h:DO p=DO q){a b:Rat}(d:a<=b):
 DP (JF (Jq p) a)+DP (JF (Jq q) b)=DP (JF (Jq p) b)+DP (JF (Jq q) a):=by
 obtain⟨A,e,hA⟩:=JN a;obtain⟨C,f,hC⟩:=JN b;have c:0<=A+C:=DK
 have g:=glue (B:=A+C) (F:=λx=>DP (JF (EU p) x)) (G:=λx=>DP (JF (EU q) x)) (((Y7 tp p0 c).and (Y7 tq q0 c)).mono λx z _ _ _ ⟨i,j⟩=>by
  grind) (hA.mono DK) (hC.mono DK) d
 grind[Kt]
theorem pM{p q:List Rat}(tp:Jc p=p)(p0:p≠[])(tq:Jc q=q)(q0:q≠[])(h:DO p=DO q)(x:Rat):
 DP (X2 (Jq p))+DP (JF (Jq q) x)=DP (JF (Jq p) x)+DP (X2 (Jq q)):=by
 obtain⟨B3,e,_,f3⟩:=Y9 (Yd tp p0);obtain⟨B4,f,_,c⟩:=Y9 (Yd tq q0);obtain⟨X,d,hX⟩:=JN x;obtain⟨y,i⟩:∃y,-(B3+B4+X)=y:=⟨_,J⟩;have g:=OU tp p0 tq q0 h (a:=y) (b:=x) (by have:=hX.1;clear f3 c;grind);grind
theorem pN{p q:List Rat}(tp:Jc p=p)(p0:p≠[])(tq:Jc q=q)(q0:q≠[])(h:DO p=DO q):
 DP (X2 (Jq p))+DP (EW (Jq q))=DP (EW (Jq p))+DP (X2 (Jq q)):=by
 obtain⟨B3,a,f3,_⟩:=Y9 (Yd tp p0);obtain⟨B4,b,c,_⟩:=Y9 (Yd tq q0);obtain⟨y,e⟩:=ex (B3+B4);have d:=pM tp p0 tq q0 h y;grind
def Rb{p:List Rat}{c:Rat}(a:c≠0)(tp:Jc p=p):DO (DQ c p)=DO p:=by
 unfold DO;rw[MS a tp]
theorem pO(hs:s*s=1):s=1\/s=-1:=by
 grind
theorem pP{K u:Rat}(hs:s*s=1)(h:Wi K u):∀n:Nat,Wi K (s^n*u):=by
 intro n;induction n with
 |zero=>grind
 |succ n a=>
  rw[Rat.pow_succ];rcases pO hs with e|e
  . grind
  . rw[e]at a ⊢;have:=a.neg;grind
theorem pQ{M:Rat}(hs:s*s=1)(hM:0<=M):∀p:List Rat,Jc p=p->p≠[]->∀k,cf p (p.length-1)=k->(∀i,i+1<p.length->Wi (M*(k*k)) (k*cf p i))->∀x,1+M<=x->k*k<=s^(p.length-1)*(k*ev p (s*x)):=by
 intro p;induction p with
 |nil=>intro _ h;exact absurd J h
 |cons c t o=>
  intro tp p0 k hk g x m;by_cases d:t=[]
  . subst d
    have:c=k:=by rw[<-hk];simp[cf]
    subst this;rw[Jo];simp
  . have hl:=Ac.2 d;obtain⟨n,hn⟩:∃n,t.length=n+1:=⟨t.length-1,O⟩;have j:cf t n=k:=by
     rw[<-hk,Ah,hn,show n+1+1-1=n+1 by omega,Yo]
    have w:cf t n≠0:=by
     have:=Ju tp p0;rwa[hk,<-j]at this
    have q:Jc t=t:=Oy (Or.inr DK);have l:=o q d k DK (λi hi=>by
     have:=g (i+1) (by rw[Ah];omega);rwa[Yo]at this) x m
    rw[hn,show n+1-1=n by omega]at l;have f:=g 0 (by rw[Ah];omega);rw[Xc]at f;have r:=(pP hs f (n+1)).1;rw[Ah,hn,show n+1+1-1=n+1 by omega,Hw];have e:s^(n+1)*(k*(c+s*x*ev t (s*x)))=s^(n+1)*(k*c)+x*(s^n*(k*ev t (s*x))):=by
     rw[Rat.pow_succ];grind
    rw[e];have u:=Rat.mul_nonneg (a:=x) (b:=s^n*(k*ev t (s*x))-k*k) DK DK;have v:=Rat.mul_nonneg (a:=x-(1+M)) (b:=k*k) DK (Xg k);grind
theorem quiet{p:List Rat}(tp:Jc p=p)(p0:p≠[])(v:0<e)(h:∀x,U x->e<=ev p x*ev p x)(d:0<=B):Sh B λx z=>U x->J3 (DO p) x z=0:=by
 obtain⟨c,m⟩:=II tp p0;obtain⟨C,g,hC⟩:=XN c d;obtain⟨f,f0,n⟩:=small (K:=(C*C)*1) (r:=e/2) (Rat.le_of_lt (by have:=Rat.mul_pos g g;grind)) DK;obtain⟨f2,i,l1,l2⟩:=Hp f0 (show(0:Rat)<1 by decide);refine(Xe (DO p) d i).mono λx z q _ _ o l=>?_;refine X3 (Classical.byContradiction λhn=>?_);have j:=(o hn).1;have k:=h x l;rw[m x]at k;have s:=Lm j;have t:=Lm (hC x q);have u:=n f2 l1;have w:=Rat.mul_nonneg (a:=f2*f2-ev (DO p) x*ev (DO p) x) (b:=ev c x*ev c x) DK (Xg _);have y:=Rat.mul_nonneg (a:=f2*f2) (b:=C*C-ev c x*ev c x) (Xg _) DK;have A:=Rat.mul_nonneg (a:=C*C) (b:=f2*(1-f2)) (Xg _) (Rat.mul_nonneg DK DK);grind
theorem pR{F:Rat->Nat}(h:Sh B λx y=>U x->F x=F y){a b:Rat}(c:Wi B a)(j:Wi B b)(f:a<=b)(m:∀x,a<=x->x<=b->U x):F a=F b:=by
 obtain⟨d,d0,h⟩:=h;obtain⟨n,hn⟩:=steps d0 a b
 have:∀(n:Nat) (a':Rat),a<=a'->Wi B a'->a'<=b->b-a'<=(n:Rat)*d->F a'=F b:=by
  intro n;induction n with
  |zero=>
   intro a' _ c f e;grind
  |succ n o=>
   intro a' k c f e;have g:((n+1:Nat):Rat)=(n:Rat)+1:=by rw[Rat.natCast_add];rfl
   rw[g]at e;rcases JX (b-a') d with i|i
   . grind
   . have l:Wi B (a'+d):=⟨by have:=c.1;grind,by have:=j.2;grind⟩;grind
 grind
theorem ZD{p:List Rat}(tp:Jc p=p)(p0:p≠[])(j:0<e){a b:Rat}(i:a<=b)(h:∀x,a<=x->x<=b->e<=ev p x*ev p x):DP (JF (Jq p) a)=DP (JF (Jq p) b):=by
 obtain⟨A,k,hA⟩:=JN a;obtain⟨C,l,hC⟩:=JN b;have d:0<=A+C:=by clear h;grind
 have c:=pR (B:=A+C) (F:=λx=>DP (JF (EU p) x)) (U:=λx=>a<=x/\x<=b) (((Y7 tp p0 d).and (quiet tp p0 j (U:=λx=>a<=x/\x<=b) (λx f=>h x f.1 f.2) d)).mono λx z _ _ _ ⟨n,o⟩ m=>by
  grind) (hA.mono (by clear h;grind)) (hC.mono (by clear h;grind)) i (λx g c=>⟨g,c⟩)
 grind[Kt]
def DT.ext{v u2 a:List Rat}(h:DT u v)(b:∀x,ev u2 x=ev u x)(c:∀x,ev a x=ev v x):DT u2 a:=by
 obtain⟨s,t,h⟩:=h;exact⟨s,t,λx=>by rw[b,c];exact h x⟩
theorem pS(hk:k≠0)(w:List Rat)(x z:Rat):J3 (DQ k w) x z=J3 w x z:=by
 have d:0<k*k:=by
  have:=XG (f:=[k]) hk (λx=>Jo _ x) 0 0;unfold Stb at this;rwa[Jo]at this
 unfold J3;rw[Jn,Jn];by_cases h:ev w x≠0/\ev w x*ev w z<=0
 . rw[BF h,BF];refine⟨λe=>?_,?_⟩
   . grind
   . have:=Rat.mul_nonneg (a:=k*k) (b:=-(ev w x*ev w z)) DK (by have:=h.2;grind);grind
 . rw[BE h,BE];rintro⟨c,g⟩;refine h ⟨λe=>c (by rw[e];grind),?_⟩;rcases JX (ev w x*ev w z) 0 with q|q
   . exact q
   . rcases Rat.le_iff_lt_or_eq.1 q with q|q
     . have:=Rat.mul_pos d q;grind
     grind
theorem Mj{v:List Rat}(h:DT u v)(a:0<=B):Sh B λx z=>Stb u x z\/Stb v x z:=by
 obtain⟨s,t,k⟩:=h;obtain⟨S,c,j⟩:=XN s a;obtain⟨T,e,hT⟩:=XN t a;have d:∀ {r K:Rat},0<K->K*(r/K)=r:=λn=>by grind
 refine((Xe u a (Yk Hc c)).and (Xe v a (Yk Hc e))).mono λx z b _ _ ⟨g,i⟩=>?_;by_cases f:Stb u x z
 . exact Or.inl f
 . refine Or.inr (Classical.byContradiction λm=>?_);have o:=KP (k x) (j x b) (g f).1 (by rw[d c];exact Rat.le_refl);have l:=((hT x b).mul (i m).1).2;rw[d e]at l;grind
theorem pT:∀(n:Nat) (R w y:List Rat),R.length<=n->Yun R w y->∀ {B:Rat},0<=B->Sh B λx z=>Stb w x z->Stb R x z:=by
 intro n;induction n with
 |zero=>intro R w y hn h;exact absurd (Al.1 O) h.R0
 |succ n u=>
  intro R w y hn h B l;by_cases hl:w.length<=1
  . obtain⟨d,H⟩:=LW h.tw h.w0 hl;have p:Dv R [1]:=MW h.tR h.R0 ⟨Ji d y,λx=>by
     have G:=h.eq x;grind[Je,ev]⟩
    have hl:=(p.len h.tR DN DN).1;exact Sh.all λx z _ _ _ _=>RE h.tR h.R0 hl x z
  . obtain⟨_,i⟩:=h.part;obtain⟨_,_,c,f,_,g⟩:=h.step;obtain⟨a,o⟩:=ex (Jr w (JR y (Jb w)));rw[o]at i c g;obtain⟨w2,r⟩:=ex (Jm w a);rw[r]at i c g;obtain⟨e,m⟩:=ex (Jm R w);rw[m]at c f;have v:e.length<=n:=by
     have:=JC h.tw c.tR h.w0 c.R0;rw[<-f]at this;omega
    have k:∀x,ev w x=ev a x*ev w2 x:=λx=>by
     have:=Je a w2 x;rwa[<-g]at this
    have j:∀x,ev R x=ev w x*ev e x:=λx=>by
     have:=Je w e x;rwa[<-f]at this
    refine((u e w2 _ v c l).and (Mj i l)).mono λx z _ _ _ ⟨s,t⟩ sw=>?_;have A:Stb w2 x z:=by
     rcases t with I|sb
     . unfold Stb at *;rw[k,k]at sw;rcases JX (ev w2 x*ev w2 z) 0 with q|q
       . have:=Rat.mul_nonneg (a:=ev a x*ev a z) (b:=-(ev w2 x*ev w2 z)) DK DK;grind
       . rcases Rat.le_iff_lt_or_eq.1 q with q|q
         . exact q
         . have:ev a x*ev w2 x*(ev a z*ev w2 z)=(ev a x*ev a z)*(ev w2 x*ev w2 z):=DK
           grind
     . exact sb
    have D:=s A;unfold Stb at *;rw[j,j];have:=Rat.mul_pos sw D;grind
theorem pV{p:List Rat}(tp:Jc p=p)(p0:p≠[])(b:0<=B):Sh B λx z=>Stb (DO p) x z->Stb p x z:=by
 obtain⟨d,c⟩:=Me tp p0;have e:∀x,ev p x=ev (Js p) x*cf p (p.length-1):=λx=>by
  conv=>lhs;rw[c]
  rw[Jn]
 refine(pT _ _ _ _ (Aa _) (YV tp p0) b).mono λx z _ _ _ h s=>?_;have a:=h s;have:=XG (f:=[cf p (p.length-1)]) d (λx=>Jo _ x) 0 0;unfold Stb at *;rw[Jo]at this;rw[e,e];have:=Rat.mul_pos a this;grind
def Ef(w y:List Rat)(x:Rat):Nat:=if 0<ev w x*ev y x\/ev w x=0 then 1 else 0
theorem pW{w y:List Rat}(st:¬Stb w x x):Ef w y x=1/\J3 w x x+Ef w y x<=1:=by
 have u0:ev w x=0:=by
  rcases A2.1 (Rat.le_antisymm (Rat.not_lt.1 st) (Xg (ev w x)))with q|q<;>exact q
 grind[J3,Ef]
theorem pX{w y:List Rat}(r1:0<ev (Jb w) x*(ev w z-ev w x))(l:ev w x*ev w z<=0)(sd:Stb (Jb w) x z)(f:0<ev y x*ev (Jb w) x)(g:0<ev y z*ev (Jb w) z):Ef w y z=1/\J3 w x z+Ef w y x<=1:=by
 unfold Stb at sd;unfold Ef J3;generalize ev (Jb w) x=d at *;generalize ev (Jb w) z=c at *;generalize ev y x=a at *;generalize ev y z=b at *;generalize ev w x=u at *;generalize ev w z=v at *;have k:0<a*(v-u):=Xb (a:=d) (by have:=Rat.mul_pos f r1;grind);have e:0<c*(v-u):=Xb (a:=d) (by have:=Rat.mul_pos sd r1;grind);have r4:0<b*(v-u):=Xb (a:=c) (by have:=Rat.mul_pos g e;grind);by_cases u0:u=0
 . subst u0;grind
 . have i:u*a<0:=by
    rcases JX 0 (u*a)with q|q
    . exfalso
      have q:0<u*a:=by
       rcases Rat.le_iff_lt_or_eq.1 q with q|q
       . exact q
       . grind[Jz]
      have:=Rat.mul_pos q (show 0<v*a by grind);have:=Xb (a:=a) (b:=u*v) DK;grind
    . grind[A2]
   have j:0<v*b\/v=0:=by
    rcases JX (v*b) 0 with t|t
    . rcases Rat.le_iff_lt_or_eq.1 t with t|t
      . exfalso
        have:=Rat.mul_pos (a:=-(v*b)) (b:=-(u*b)) DK DK;have:=Xb (a:=b) (b:=u*v) DK;grind
      grind[Jz]
    . grind[A2]
   grind
theorem pZ{w y s f:List Rat}(D:0<k)(A:J3 f x z<=J3 s x z)(m:¬Stb w x z->k<=ev y x*ev (Jb w) x/\k<=ev y z*ev (Jb w) z)(n:¬Stb w x z->x<z->0<ev (Jb w) x*(ev w z-ev w x))(B:Stb f x z->Stb y x z)(o:Stb w x z\/Stb (Jb w) x z)(v:ev y x≠0->ev f x≠0)(l:x<=z):
 J3 w x z+Ef w y x<=Ef w y z+J3 s x z:=by
 by_cases st:Stb w x z
 . rw[X3 st,AW];obtain⟨G,e⟩:=Jz st;by_cases q:Ef w y x<=Ef w y z
   . omega
   ·
    have p:0<ev w x*ev y x:=by
     unfold Ef at q;by_cases r:0<ev w x*ev y x\/ev w x=0
     . grind
     . grind
    have g:¬(0<ev w z*ev y z):=λr=>by
     grind[Ef]
    have L:¬Stb y x z:=λr=>g (by
     have u:=NA (a:=ev w x) (b:=ev y x) (c:=ev w z) (d:=ev y z) st r;rcases JX (ev w z*ev y z) 0 with t|t
     . rcases Rat.le_iff_lt_or_eq.1 t with t|t
       . grind
       . rcases A2.1 t with t|t
         . exact absurd t e
         . exact absurd t (Jz r).2
     . rcases Rat.le_iff_lt_or_eq.1 t with t|t
       . exact t
       . rcases A2.1 t.symm with t|t
         . exact absurd t e
         . exact absurd t (Jz r).2)
    grind[Stb,J3,Jz,Ef]
 . obtain⟨I,K⟩:=m st;have sd:=o.resolve_left st;have H:Ef w y z=1/\J3 w x z+Ef w y x<=1:=by
    rcases Rat.le_iff_lt_or_eq.1 l with j|i
    . exact pX (n st j) (Rat.not_lt.1 st) sd DK DK
    . subst i;exact pW st
   omega
theorem pd{p:List Rat}(tp:Jc p=p)(hl:1<p.length)(b:0<=B):
 Sh B λx z=>J3 (DO p) x z+Ef (DO p) (El p) x<=Ef (DO p) (El p) z+J3 (DO (Jb p)) x z:=by
 have p0:p≠[]:=λe=>by rw[e]at hl;simp at hl
 have ts:=Jt p;have g:Jb p≠[]:=λe=>by have:=MV tp e;omega
 have a:=YV tp p0;have y0:El p≠[]:=λe=>by
  have N:Jb (Js p)=[]:=XA (Jt _) λx=>by
   have d:=a.eq x;rw[e]at d;have y:=Y1 (u:=Jb (Js p)) (v:=[]) a.tw a.w0 (λx=>by
    have d:=a.eq x;rw[e]at d;simp only[ev]at d ⊢;grind) x
   rw[y];rfl
  grind[MV,Yu,XW]
 have ty:=a.ty;have dy:Dv (El p) (Jb p):=by
  obtain⟨_,D⟩:=Me tp p0;obtain⟨_,w,_⟩:=Yf (Yu p) (Jt (Js p));have g0:=J6 (Yu p) (Jt (Js p)) (Or.inl (Kn tp p0));have s:=(JL (JE _ _) g0 w).2;refine⟨DQ (cf p (p.length-1)) (Jr (Js p) (Jb (Js p))),λx=>?_⟩;have i:=Y0 (cf p (p.length-1)) (Js p) x;rw[<-D]at i;rw[i,s,Jn];show _=ev (Jm (Jb (Js p)) (Jr (Js p) (Jb (Js p)))) x*_;grind
 have n:=YV ty y0;have m:=YV ts g;have dw:Dv (DO (El p)) (DO (Jb p)):=Df.dv m.tw n.tw n.w0 (Ik ty y0) λc h=>((XP ts g c).1 h).of_dv ((II ty y0).trans dy);obtain⟨e,Q,j⟩:=dw.some m.tw;have o:DT (DO (El p)) e:=Df.parts (by rw[<-j];exact Ik ts g);have l:=Mi o b;rw[<-j]at l;obtain⟨k,M,sg⟩:=RF _ _ _ _ (Aa _) a b;have r:=Ik tp p0;refine((((l.and sg).and (ZB a b)).and ((pV ty y0 b).and (Mj r b)))).mono λx z _ _ G ⟨⟨⟨P,H⟩,I⟩,K,L⟩=>?_;have t:∀x,ev (El p) x≠0->ev (DO (El p)) x≠0:=λx h q=>by
  obtain⟨c,A⟩:=II ty y0;exact h (by rw[A,q];grind)
 exact pZ (f:=DO (El p)) M O H I K L (t x) G
theorem ZE{P:Rat->Rat->Prop}(o:∀x,P x x)(tr:∀x y z,P x y->P y z->P x z)(h:Sh B P){a b:Rat}(c:Wi B a)(j:Wi B b)(f:a<=b):P a b:=by
 obtain⟨d,d0,h⟩:=h;obtain⟨n,hn⟩:=steps d0 a b
 have:∀(n:Nat) (a:Rat),Wi B a->a<=b->b-a<=(n:Rat)*d->P a b:=by
  intro n;induction n with
  |zero=>
   intro a c f g;have e:a=b:=by
    have:((0:Nat):Rat)=0:=rfl
    rw[this]at g;grind
   rw[e];exact o _
  |succ n m=>
   intro a c f g;have l:((n+1:Nat):Rat)=(n:Rat)+1:=by rw[Rat.natCast_add];rfl
   rw[l]at g;rcases JX (b-a) d with i|i
   . exact h a b c j f i
   . have k:Wi B (a+d):=⟨by have:=c.1;grind,by have:=j.2;grind⟩;exact tr _ _ _ (h a (a+d) c k DK DK) (m (a+d) k DK DK)
 exact this n a c f hn
theorem Rc{p:List Rat}(tp:Jc p=p)(p0:p≠[])(a:0<=B):Sh B λx z=>DP (JF (Jq p) x)=DP (JF (Jq p) z)+J3 (DO p) x z:=by
 refine(Y7 tp p0 a).mono λx z _ _ b h=>?_;grind[Kt]
def pg(w y:List Rat)(x:Rat):Ef w y x<=1:=by unfold Ef;split<;>omega
def ph{p:List Rat}(tp:Jc p=p)(hl:1<p.length){a b:Rat}(f:a<=b):
 DP (JF (Jq p) a)+DP (JF (Jq (Jb p)) b)<=DP (JF (Jq p) b)+DP (JF (Jq (Jb p)) a)+1:=by
 have p0:p≠[]:=λe=>by rw[e]at hl;simp at hl
 have g:Jb p≠[]:=λe=>by have:=MV tp e;omega
 obtain⟨A,i,hA⟩:=JN a;obtain⟨C,j,hC⟩:=JN b;have c:0<=A+C:=DK
 have:=ZE (B:=A+C) (P:=λx z=>DP (JF (Jq p) x)+Ef (DO p) (El p) x+DP (JF (Jq (Jb p)) z)<=DP (JF (Jq p) z)+Ef (DO p) (El p) z+DP (JF (Jq (Jb p)) x))
  (λ_=>Aa _) (λ_ _ _ _ _=>by omega) (((Rc tp p0 c).and ((Rc (Jt p) g c).and (pd tp hl c))).mono λx z _ _ _ ⟨d,k,l⟩=>by
   show _<=_;omega) (hA.mono DK) (hC.mono DK) f
 have d:=pg (DO p) (El p) b;omega
theorem Re{a b:Rat}(f:a≠0)(g:b≠0):a*b<0↔¬(a<0↔b<0):=by
 have pos:∀ {c:Rat},c≠0->¬c<0->0<c:=fun {c} d e=>by
  grind
 by_cases d:a<0<;>by_cases e:b<0
 . have:=Rat.mul_pos (a:=-a) (b:=-b) DK DK;simp[d,e];grind
 . have:=Rat.mul_pos (a:=-a) (b:=b) DK (pos g e);simp[d,e];grind
 . have:=Rat.mul_pos (a:=a) (b:=-b) (pos f d) DK;simp[d,e];grind
 grind[Rat.mul_pos]

