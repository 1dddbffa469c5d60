import Derived.Test.YthnpdhlepglmlaaGreatDoorV37
set_option linter.all false
open Go.Value renaming slice->C
open Go renaming Value->E,World->F
set_option maxRecDepth 99999
set_option maxHeartbeats 0
namespace Go.Proofs.YthnpdhlepglmlaaGreatDoor
section
open Go.RowKit Go.Shelf
def Bs:=@Lib.wpList_append_run
def ME(s:Ja × Ja):Ja × Ja:=(Ds s.1 (Ju s.1 (JT s.2 (Jb s.1))),Ds (JT s.2 (Jb s.1)) (Ju s.1 (JT s.2 (Jb s.1))))
def DT(w y:Ja):Nat->Ja × Ja
 |0=>(w,y)
 |n+1=>ME (DT w y n)
def yP(s:Ja × Ja):Ja:=Ju s.1 (JT s.2 (Jb s.1))
def yL(w y:Ja):Nat->List (Ja × Nat)
 |0=>[]
 |n+1=>yL w y n++(if 1<(yP (DT w y n)).length then [(yP (DT w y n),n+1)]else [])
theorem Zp(w y:Ja):∀n,(yL w y n).length<=n:=by
 intro n;induction n with
 |zero=>exact Aa _
 |succ n a=>
  grind[yL]
structure StOk(K M:Nat)(w y:Ja):Prop where
 ch:M3.ChOk K w (JT y (Jb w))
 ty:Jc y=y
 cw:Cd M w
 cs:Cd M (Jb w)
 cy:Cd M y
 cz:Cd M (JT y (Jb w))
 kM:Db K w (JT y (Jb w))<=M
 l1:2*((w.length+3)*(M+1))<=1000000000
 l2:2*(((JT y (Jb w)).length+3)*(M+1))<=1000000000
structure PtOk(K M N:Nat)(p:Ja):Prop where
 tp:Jc p=p
 cp:Cd M p
 ch:M3.ChOk K (Jr p) (Jb (Jr p))
 kM:Db K (Jr p) (Jb (Jr p))<=M
 l1:2*((p.length+3)*(M+1))<=1000000000
 gt:1<p.length
 nN:N<=1000000000
 st:∀n,n<N->1<(DT (Ds (Jr p) (Ju (Jr p) (Jb (Jr p)))) (Ds (Jb (Jr p)) (Ju (Jr p) (Jb (Jr p)))) n).1.length/\StOk K M (DT (Ds (Jr p) (Ju (Jr p) (Jb (Jr p)))) (Ds (Jb (Jr p)) (Ju (Jr p) (Jb (Jr p)))) n).1 (DT (Ds (Jr p) (Ju (Jr p) (Jb (Jr p)))) (Ds (Jb (Jr p)) (Ju (Jr p) (Jb (Jr p)))) n).2
 en:(DT (Ds (Jr p) (Ju (Jr p) (Jb (Jr p)))) (Ds (Jb (Jr p)) (Ju (Jr p) (Jb (Jr p)))) N).1.length<=1
def MF(p:Ja)(N:Nat):List (Ja × Nat):=yL (Ds (Jr p) (Ju (Jr p) (Jb (Jr p)))) (Ds (Jb (Jr p)) (Ju (Jr p) (Jb (Jr p)))) N
namespace M3
def GI(base:Nat)(V:F)(v:E)(L:List (Ja × Nat)):Prop:=EL true base V v L
section
variable {base:Nat} {V V':World} {v:Value} {L:List (Ja × Nat)}
def GI.below(h:GI base V v L)(hb:Bl V V'):GI base V' v L:=EL.below h hb
def GI.drew(h:GI base V v L):GI base V.drew v L:=EL.below h ((BB _ V).drew)
def GI.alloc(h:GI base V v L)(o:Obj):GI base (V.alloc o) v L:=EL.below h (Ba V o)
def GI.set1(h:GI base V v L){B:Nat}{a:om}{l c:Nat}(q:Boxed V B 25 (C a l c))(_:JS (C a l c)=true)(b:E):GI base (V.setCell ⟨B,0,none⟩ b) v L:=EL.set h q (λ_ _ g=>GM q b g)
end
def p6(a b:E)(ps qs:Ja)(w:F)(g:Je w a ps)(hb:Je w b qs)(i:Sqs ps)(j:Sqs qs)(k:Sqs (JT ps qs)):
 Calls Tryz.prog 15 #[a,b] w λe w'=>∃u,e=.returned u/\Je w' u (JT ps qs)/\Bl w w':=by
 refine(WN a b ps qs w g hb i j k).mono ?_;rintro e w' ⟨u,c,d,_,f⟩;exact⟨u,c,d,f⟩
def Zq{M:Nat}{w:Ja}(h:Cd M (Jb w))(hM:M<=1000000000)(i:Nat):Sq (IB w i):=by
 have a:=(h.sqs hM).at i;unfold Jb at a;rwa[Yv,Lq]at a
attribute [local go_sem] Oper.semAt_some
theorem p7(K M N:Nat)(v:E)(p:Ja)(w:F)(h:Je w v p)(D:PtOk K M N p):
 Calls Tryz.prog 50 #[v] w λe w'=>∃u,e=.returned u/\EL true w.heap.size w' u (MF p N)/\Bl w w':=by
 obtain⟨q,hq⟩:=ex (Jr p);obtain⟨c,hc⟩:=ex (Ju q (Jb q));obtain⟨w0,ah⟩:=ex (Ds q c);obtain⟨y0,ai⟩:=ex (Ds (Jb q) c);have hM:M<=1000000000:=by
  have h1:=D.l1;grind
 have Qn:=D.ch;have Ue:=D.kM;rw[hq]at Qn Ue;have Ur:q.length=p.length:=by rw[<-hq];exact LV D.tp
 have Qr:Cd M q:=by rw[<-hq];exact D.cp.mon D.tp
 have Uf:Jc q=q:=by rw[<-hq];exact Yp _
 have Uc:Cd M (Jb q):=(show Cd K (Jb q)from Qn.cq).mono (by have:=PE K q (Jb q);omega);have Qt:Cd M c:=by rw[<-hc];exact Qn.gcd.mono Ue
 have Ug:Jc c=c:=by rw[<-hc];exact JF _ _
 have Qz:Jr c=c:=by rw[<-hc];exact YW Uf (Jv _)
 have Up:2*(((Jb q).length+3)*(M+1))<=1000000000:=by
  have h1:(Jb q).length<=q.length:=Ae (YA _) (by simp[I4]);have h2:((Jb q).length+3)*(M+1)<=(p.length+3)*(M+1):=Af _ O;have h3:=D.l1;omega
 obtain⟨Ud,Wa,Ul,Wk,Wj,Wb⟩:=KA (λ(V:F) (x:E) (r:Ja) (z:Je V x r)=>Yo x r V z) (λ(V:F) (x:E) (z:Je V x p)=>show Calls Tryz.prog 108 #[x] V λe w'=>∃u,e=.returned u/\Je w' u q/\Bl V w' by rw[<-hq];exact pt M x p V z D.tp D.cp hM) (λ(V:F) (x:E) (z:Je V x q)=>O8 x q V z (Qr.sqs hM) (Zq Uc hM)) (λ(V:F) (x y:E) (z:Je V x q) (H:Je V y (Jb q))=>show Calls Tryz.prog 109 #[x,y] V λe w'=>∃u,e=.returned u/\Je w' u c/\Bl V w' by rw[<-hc];exact Zo K x y q (Jb q) V z H Qn) (λ(V:F) (x y:E) (z:Je V x q) (H:Je V y c)=>show Calls Tryz.prog 111 #[x,y] V λe w'=>∃u,e=.returned u/\Je w' u w0/\Bl V w' by rw[<-ah];exact PJ M x y q c V z H Qr Qt Uf Ug Qz (by rw[Ur];exact D.l1)) (λ(V:F) (x y:E) (z:Je V x (Jb q)) (H:Je V y c)=>show Calls Tryz.prog 111 #[x,y] V λe w'=>∃u,e=.returned u/\Je w' u y0/\Bl V w' by rw[<-ai];exact PJ M x y (Jb q) c V z H Uc Qt (Jv _) Ug Qz Up);have Qs:=D.st;have Qw:=D.en;rw[hq,hc,ah,ai]at Qs Qw;obtain⟨Uq,Wc,We⟩:=DZ Qs Qw (show MF p N=yL w0 y0 N by unfold MF;rw[hq,hc,ah,ai]);rw[We.o];obtain⟨Uy,Uz,Wd⟩:=DZ (λ(a b:Ja) (o:StOk K M a b) (V:F) (x:E) (z:Je V x a)=>O8 x a V z (o.cw.sqs hM) (Zq o.cs hM)) (λ(a b:Ja) (o:StOk K M a b) (V:F) (x y:E) (z:Je V x b) (H:Je V y (Jb a))=>p6 x y b (Jb a) V z H (o.cy.sqs hM) (o.cs.sqs hM) (o.cz.sqs hM)) λ(a b:Ja) (o:StOk K M a b) (V:F) (x y:E) (z:Je V x a) (H:Je V y (JT b (Jb a)))=>Zo K x y a (JT b (Jb a)) V z H o.ch;have X:∀(a b:Ja),StOk K M a b->Cd M (Ju a (JT b (Jb a)))/\Jc (Ju a (JT b (Jb a)))=Ju a (JT b (Jb a))/\Jr (Ju a (JT b (Jb a)))=Ju a (JT b (Jb a)):=λa b o=>⟨o.ch.gcd.mono o.kM,JF _ _,YW o.ch.tp o.ch.tq⟩;have Uu:=Z λ(a b:Ja) (o:StOk K M a b) (V:F) (x y:E) (z:Je V x a) (H:Je V y (Ju a (JT b (Jb a))))=>PJ M x y a (Ju a (JT b (Jb a))) V z H o.cw (X a b o).1 o.ch.tp (X a b o).2.1 (X a b o).2.2 o.l1;have Wg:=Z λ(a b:Ja) (o:StOk K M a b) (V:F) (x y:E) (z:Je V x (JT b (Jb a))) (H:Je V y (Ju a (JT b (Jb a))))=>PJ M x y (JT b (Jb a)) (Ju a (JT b (Jb a))) V z H o.cz (X a b o).1 o.ch.tq (X a b o).2.1 (X a b o).2.2 o.l2;have Ua:¬(p.length:Int)-1<1:=by have:=D.gt;omega
 obtain⟨d0,bj⟩:=ex ((p.length:Int)-1:Int);rw[bj]at Ua;have Ux:=Z bj;have ic:=D.nN;obtain⟨pa,la,pc,rfl⟩:=h.form;obtain⟨W0,fm,M1⟩:=Iw 25 (.poly p) h;clear h D Qn Ue Ur Qr Uf Uc Qt Ug Qz Up Qs Qw X hM hq hc ah ai bj;go_enter Tryz.func50,Tryz.ntmps50
 go_upto_region 1 with fail
 rw[fm.o];obtain⟨a1,l1,c1,n1,r1⟩:=M1.o.poly2 (i:=0) J;have Qx:=n1.cell;have G:=Z (Ud.o W0 _ p r1);rw[Ux.o]at G;go_upto_region 3 with(go_at_call 75;refine G.o.mono ?_;rintro e w1 ⟨rfl,hq⟩;clear Qx;have Qx:=(boxed_below n1 hq).cell)
 have M2:=Z (M1.o.below hq);clear M1;clear hq n1 r1 Qx;obtain⟨a2,l2,c2,n2,r2⟩:=M2.o.poly2 (i:=0) J;have Qy:=n2.cell;have Qv:=n2.frozen;have G:=Z (Wa.o w1 _ r2);go_upto_region 4 with(go_at_call 108;refine G.o.mono ?_;rintro e w2 ⟨u2,rfl,cn,hq⟩;obtain⟨dh,ei,di,rfl⟩:=Je.form cn;clear Qy;have Qy:=(boxed_below n2 hq).cell;clear Qv;have Qv:=(boxed_below n2 hq).frozen)
 obtain⟨V3,R⟩:=ex (w2.setCell ⟨w.heap.size,0,none⟩ (C dh ei di));have l:DJ w (w2.setCell ⟨w.heap.size,0,none⟩ (C dh ei di)) [some (w.heap.size,.poly q)]:=DJ.putPoly (M2.o.below hq) (i:=0) J cn;rw[R]at l;rw[R];have M3:=Z (l);clear M2;clear l R;clear cn hq n2 r2 Qy Qv;refine YD Di [[],[],[1],[0,2,2],[],[4,3,3,0,1,2,3,4]] [.poly q,.poly q,.poly (Jb q),.poly c,.ptr,.eq undef] [4,5] (λb v V=>DJ w V [some (w.heap.size,.poly q),nb b v 0 1 (.poly []) (.poly c)]) (M3.o.none).drew (SR (.vl J λ_ j=>GG 0 j)<|SR (.vl J λ_ j=>GG 0 j)<|SR (.cl λh _=>Ul.o _ _ (h.g 1))<|SR (.cl λh _=>Wk.o _ _ _ (h.g 0) (h.g 2))<|SR (.wr J λ_ j=>LN 1 j)<|SR (.wr J λh j=>GZ 1 j (h.g 3) (hp:=h.g 4)) Stp.end_)
  λf V5 hF l=>?_
 refine DP ?_;obtain⟨Q,ay⟩:=hF.p 4;have l:=Dw l;simp only[ay]at l;rw[ay];have W:=Z l;clear l hF ay;clear M3;go_upto_region 5 with fail
 refine YD Di [[],[],[0,1],[],[3,2],[],[4,5,4],[],[],[7,2,6,0,1,2,7,8],[8,6,9,0,1,2,3,4,5,6,7,8,9]] [.poly q,.poly c,.poly w0,.poly q,.poly (Jb q),.poly c,.poly y0,.ptr,.ptr,.eq undef,.eq undef] [7,8,9,10] (λb v V=>DJ w V [some (w.heap.size,.poly q),some (Q,.poly c),nb b v 0 2 (.poly []) (.poly w0),nb b v 1 3 (.poly []) (.poly y0)]) ((W.o.none).none).drew (SR (.vl J λ_ j=>GG 0 j)<|SR (.vl J λ_ j=>GG 1 j)<|SR (.cl λh _=>Wj.o _ _ _ (h.g 0) (h.g 1))<|SR (.vl J λ_ j=>GG 0 j)<|SR (.cl λh _=>Ul.o _ _ (h.g 3))<|SR (.vl J λ_ j=>GG 1 j)<|SR (.cl λh _=>Wb.o _ _ _ (h.g 4) (h.g 5))<|SR (.wr J λ_ j=>LN 2 j)<|SR (.wr J λ_ j=>LN 3 j)<|SR (.wr J λh j=>GZ 2 j (h.g 2) (hp:=h.g 7))<|SR (.wr J λh j=>GZ 3 j (h.g 6) (hp:=h.g 8)) Stp.end_)
  λf V8 hF l=>?_
 refine DP ?_;obtain⟨B9,az⟩:=hF.p 7;obtain⟨B10,aq⟩:=hF.p 8;have l:=Dw l;simp only[az,aq]at l;rw[az,aq];have M5:=Z l;clear l hF az aq;clear W;go_wp2;go_loopw [6,7] (λlv tv wr=>∃(k:Nat) (S:om) (U:Nat),k<=N/\lv=C S (yL w0 y0 k).length U/\tv=.int .i64 ((k+1:Nat):Int)/\Hid (GI w.heap.size wr (C S (yL w0 y0 k).length U) (yL w0 y0 k))/\Hid (DJ w wr [some (w.heap.size,.poly q),some (Q,.poly c),some (B9,.poly ((DT w0 y0 k).1)),some (B10,.poly ((DT w0 y0 k).2))])) λ_ tv _=>N+1-(intOf tv).toNat
 case atStart=>exact⟨0,none,0,Ay _,J,J,Z (EL.nil _ _ _),M5⟩
 case round=>
  clear M5;obtain⟨k,S,U,hk,rfl,rfl,XL,M6⟩:=hrel;obtain⟨g,bz⟩:=ex ((DT w0 y0 k).1);obtain⟨s,cj⟩:=ex ((DT w0 y0 k).2);obtain⟨L,hL⟩:=ex (yL w0 y0 k);have A:=Z (show(DT w0 y0 k).1=g/\(DT w0 y0 k).2=s/\yL w0 y0 k=L/\L.length<=k from⟨bz,cj,hL,by rw[<-hL];exact Zp _ _ _⟩);rw[bz,cj]at M6;rw[hL]at XL;clear bz cj hL;rw[A.o.2.2.1];obtain⟨ll,bu⟩:=ex (L.length:Nat);rw[bu]at XL ⊢;have Qi:=Z bu;clear bu;obtain⟨T,hT⟩:=ex (k+1:Nat);rw[hT];have Qg:=Z hT;clear hT;obtain⟨gq,ie,gw,aj,r11⟩:=M6.o.poly2 (i:=2) J;have Qc:=aj.cell;have G:=Z (Ud.o wr _ g r11);obtain⟨d1,bm⟩:=ex ((g.length:Int)-1:Int);rw[bm]at G;have Uo:=Z bm;clear bm;by_cases dz:k<N
  . have Us:(0:Int)<d1:=by have h1:=(Uq.o k dz).1;rw[A.o.1]at h1;have:=Uo.o;omega
    have HO:=Z (show StOk K M g s by have h1:=(Uq.o k dz).2;rwa[A.o.1,A.o.2.1]at h1);go_upto_region 10 with(go_at_call 75;refine G.o.mono ?_;rintro e w1 ⟨rfl,hq⟩;clear Qc;have Qc:=(boxed_below aj hq).cell)
    have M7:=Z (M6.o.below hq);have Un:=Z (XL.o.below hq);clear XL hq aj r11 Qc M6;refine YD Di [[],[],[1],[0,2,2],[3,3,0,1,2,3]] [.poly s,.poly g,.poly (Jb g),.poly (JT s (Jb g)),.eq undef] [4] (λb _ V=>DJ w V [some (w.heap.size,.poly q),some (Q,.poly c),some (B9,.poly g),some (B10,if b.getD 0 false then .poly (JT s (Jb g))else .poly s)]/\GI w.heap.size V (C S ll U) L) ⟨M7.o.drew,Un.o.drew⟩ (SR (.vl J λ_ j=>GG 3 j.1)<|SR (.vl J λ_ j=>GG 2 j.1)<|SR (.cl λh _=>Uy.o g s HO.o _ _ (h.g 1))<|SR (.cl λh _=>Uz.o g s HO.o _ _ _ (h.g 0) (h.g 2))<|SR (.wr J λh j=>GZ 3 j.1 (h.g 3) (hT:=λn m=>⟨m,j.2.set1 n J _⟩)) Stp.end_)
     λf fo hF l=>?_
    obtain⟨l,I⟩:=l;replace I:=Z I;refine DP ?_;have l:=Dw l;have M8:=Z l;clear l hF;clear M7;have Ui:=I;clear I Un;obtain⟨P,hP⟩:=ex (Ju g (JT s (Jb g)));obtain⟨Qo,Qm,Qd,Qf⟩:=Dx hP (Wd.o g s HO.o) (Uu.o g s HO.o) (Wg.o g s HO.o);rw[hP]at Qm Qd Qf;clear hP;obtain⟨gr,ig,gy,f9,fh⟩:=M8.o.poly2 (i:=2) J;have Qu:=f9.cell;obtain⟨gu,ii,ia,fg,fi⟩:=M8.o.poly2 (i:=3) J;have Ub:=fg.cell;have G:=Z (Qm.o fo _ _ fh fi);go_upto_region 12 with(go_at_call 109;refine G.o.mono ?_;rintro e w3 ⟨u3,rfl,co,hq⟩;obtain⟨an,de,ap,rfl⟩:=Je.form co)
    have Uk:=Z ((Ui.o.below hq).alloc (.cells #[C an de ap] 25));clear Ui f9 fh Qu fg fi Ub;have Qq:=Uk;clear Uk;obtain⟨fx,R⟩:=ex (w3.alloc (.cells #[C an de ap] 25));obtain⟨df,bg⟩:=ex (w3.heap.size);have l:DJ w (w3.alloc (.cells #[C an de ap] 25)) [some (w.heap.size,.poly q),some (Q,.poly c),some (B9,.poly g),some (B10,.poly (JT s (Jb g))),some (w3.heap.size,.poly P)]:=DJ.push (M8.o.below hq) (.poly P) co;rw[R,bg]at l;rw[R]at Qq;rw[R];rw[bg];have M9:=Z (l);clear M8;clear l R bg co hq;obtain⟨gv,ij,ib,ae,am⟩:=M9.o.poly2 (i:=4) J;have Qb:=ae.cell;have G:=Z (Ud.o fx _ P am);obtain⟨d2,bn⟩:=ex ((P.length:Int)-1:Int);rw[bn]at G;have Uj:=Z bn;clear bn;by_cases dj:1<P.length
    . have Uw:(0:Int)<d2:=by have:=Uj.o;omega
      have Qh:=Z (show yL w0 y0 (k+1)=L++[(P,T)]by rw[yL,A.o.2.2.1];unfold yP;rw[A.o.1,A.o.2.1,Qo.o,BF dj,Qg.o]);go_upto_region 13 with(go_at_call 75;refine G.o.mono ?_;rintro e w4 ⟨rfl,hq⟩;clear Qb;have Qb:=(boxed_below ae hq).cell)
      have X4:=Qq.o.below hq;have W:=M9.o.below hq;have r4:=am.below hq;have Uh:=W.2.2.size;obtain⟨v',w',bi,X5,dx,dt,gj⟩:=p5 true w.heap.size w4 (C S ll U) L X4 (t:=T) r4.row (by have:=A.o.2.2.2;omega) Uh;obtain⟨ya,yc,ed,_,_⟩:=X5.form;rw[AM,show([(P,T)]:List (Ja × Nat)).length=1 from J]at ed;subst ed;have M5:=W.farP dx (dt _ w (Aa _) W.2.2) (λi B d e=>by rcases i with _|_|_|_|_|i<;>simp at e<;>(obtain⟨rfl,rfl⟩:=e;show 25≠107;decide));have e4:=(boxed_below ae hq).cell;clear X4 r4 Uh dx dt gj hq W ae am Qb;rw[show Ie true=104 from J,show EG true=107 from J]at bi;go_upto_region 14 with(first
       |(at_builtin;refine Bs _ J _ _ 104 104 J _ _ J J _ _ bi ?_;clear bi))
      clear e4 M9;have Qk:=Z (M5);clear M5;have Um:Hid (GI w.heap.size w' (C ya (L.length+1) yc) (L++[(P,T)])):=Z X5;clear X5;rw[Qi.o]at Um;refine YD Di [[],[],[0,1],[],[],[3,4,2],[2,5,0,1,2],[5,6,0,1,2,3,4,5,6]] [.poly g,.poly P,.poly (Ds g P),.poly (JT s (Jb g)),.poly P,.poly (Ds (JT s (Jb g)) P),.eq undef,.eq undef] [6,7] (λb _ V=>DJ w V [some (w.heap.size,.poly q),some (Q,.poly c),some (B9,if b.getD 0 false then .poly (Ds g P)else .poly g),some (B10,if b.getD 1 false then .poly (Ds (JT s (Jb g)) P)else .poly (JT s (Jb g))),some (df,.poly P)]/\GI w.heap.size V (C ya (ll+1) yc) (L++[(P,T)])) ⟨Qk.o.drew,Um.o.drew⟩ (SR (.vl J λ_ j=>GG 2 j.1)<|SR (.vl J λ_ j=>GG 4 j.1)<|SR (.cl λh _=>Qd.o _ _ _ (h.g 0) (h.g 1))<|SR (.vl J λ_ j=>GG 3 j.1)<|SR (.vl J λ_ j=>GG 4 j.1)<|SR (.cl λh _=>Qf.o _ _ _ (h.g 3) (h.g 4))<|SR (.wr J λh j=>GZ 2 j.1 (h.g 2) (hT:=λn m=>⟨m,j.2.set1 n J _⟩))<|SR (.wr J λh j=>GZ 3 j.1 (h.g 5) (hT:=λn m=>⟨m,j.2.set1 n J _⟩)) Stp.end_)
       λf gh hF l=>?_
      obtain⟨l,I⟩:=l;replace I:=Z I;refine DP ?_;have l:=Dw l;have Ql:=Z l;clear l hF;generalize f 0=io,f 1=ir,f 2=iu,f 3=iw,f 4=ix,f 5=iy;clear Qk;have Qp:Hid (DJ w gh [some (w.heap.size,.poly q),some (Q,.poly c),some (B9,.poly (Ds g P)),some (B10,.poly (Ds (JT s (Jb g)) P))]):=Z (Ql.o.take 4);have Qj:=Z (show(DT w0 y0 (k+1)).1=Ds g P/\(DT w0 y0 (k+1)).2=Ds (JT s (Jb g)) P by rw[DT];unfold ME;rw[A.o.1,A.o.2.1,Qo.o];exact⟨J,J⟩);have Uv:T+1<=9223372036854775807:=by have:=Qg.o;omega
      clear Ql;go_wp2_with fail
      go_roundw
      case rel=>exact⟨k+1,ya,yc,O,by rw[Qh.o,AM,Qi.o];rfl,by rw[Qg.o];go_num,by rw[Qh.o,AM,Qi.o];exact I,by rw[Qj.o.1,Qj.o.2];exact Qp⟩
      case measure=>simp[intOf];have:=Qg.o;omega
    . have Uw:¬(0:Int)<d2:=by have:=Uj.o;omega
      have Qh:=Z (show yL w0 y0 (k+1)=L by rw[yL,A.o.2.2.1];unfold yP;rw[A.o.1,A.o.2.1,Qo.o,BE dj,C7]);go_upto_region 14 with(go_at_call 75;refine G.o.mono ?_;rintro e w4 ⟨rfl,hq⟩;clear Qb;have Qb:=(boxed_below ae hq).cell)
      have Ut:=Z (Qq.o.below hq);have Qk:=Z (M9.o.below hq);clear M9;clear hq ae am Qb;refine YD Di [[],[],[0,1],[],[],[3,4,2],[2,5,0,1,2],[5,6,0,1,2,3,4,5,6]] [.poly g,.poly P,.poly (Ds g P),.poly (JT s (Jb g)),.poly P,.poly (Ds (JT s (Jb g)) P),.eq undef,.eq undef] [6,7] (λb _ V=>DJ w V [some (w.heap.size,.poly q),some (Q,.poly c),some (B9,if b.getD 0 false then .poly (Ds g P)else .poly g),some (B10,if b.getD 1 false then .poly (Ds (JT s (Jb g)) P)else .poly (JT s (Jb g))),some (df,.poly P)]/\GI w.heap.size V (C S ll U) L) ⟨Qk.o.drew,Ut.o.drew⟩ (SR (.vl J λ_ j=>GG 2 j.1)<|SR (.vl J λ_ j=>GG 4 j.1)<|SR (.cl λh _=>Qd.o _ _ _ (h.g 0) (h.g 1))<|SR (.vl J λ_ j=>GG 3 j.1)<|SR (.vl J λ_ j=>GG 4 j.1)<|SR (.cl λh _=>Qf.o _ _ _ (h.g 3) (h.g 4))<|SR (.wr J λh j=>GZ 2 j.1 (h.g 2) (hT:=λn m=>⟨m,j.2.set1 n J _⟩))<|SR (.wr J λh j=>GZ 3 j.1 (h.g 5) (hT:=λn m=>⟨m,j.2.set1 n J _⟩)) Stp.end_)
       λf gi hF l=>?_
      obtain⟨l,I⟩:=l;replace I:=Z I;refine DP ?_;have l:=Dw l;have Ql:=Z l;clear l hF;clear Qk;have Qp:Hid (DJ w gi [some (w.heap.size,.poly q),some (Q,.poly c),some (B9,.poly (Ds g P)),some (B10,.poly (Ds (JT s (Jb g)) P))]):=Z (Ql.o.take 4);have Qj:=Z (show(DT w0 y0 (k+1)).1=Ds g P/\(DT w0 y0 (k+1)).2=Ds (JT s (Jb g)) P by rw[DT];unfold ME;rw[A.o.1,A.o.2.1,Qo.o];exact⟨J,J⟩);have Uv:T+1<=9223372036854775807:=by have:=Qg.o;omega
      clear Ql;go_wp2_with fail
      go_roundw
      case rel=>exact⟨k+1,S,U,O,by rw[Qh.o,Qi.o],by rw[Qg.o];go_num,by rw[Qh.o,Qi.o];exact I,by rw[Qj.o.1,Qj.o.2];exact Qp⟩
      case measure=>simp[intOf];have:=Qg.o;omega
  . obtain rfl:k=N:=O
    have Us:¬(0:Int)<d1:=by have h1:=Wc.o;rw[A.o.1]at h1;have:=Uo.o;omega
    go_wp2_with(go_at_call 75;refine G.o.mono ?_;rintro e w1 ⟨rfl,hq⟩;clear Qc;have Qc:=(boxed_below aj hq).cell)
    have HF:=Z (show EL true w.heap.size w1 (C S ll U) (yL w0 y0 k)/\Bl w w1 by rw[A.o.2.2.1];exact⟨XL.o.below hq,(M6.o.below hq).2.2⟩);go_ret;exact⟨_,J,HF.o⟩
end M3
end
section
variable{P g:Ja}{K M l n:Nat}
theorem qA:∀D:Nat,1<D->∃l,1<l/\l∣D/\∀a:Nat,¬l∣a->Nat.gcd l a=1:=by
 intro D;induction D using Nat.strongRecOn with
 |ind D g=>
  intro hD;by_cases h:∀d,d∣D->d=1\/d=D
  . refine⟨D,hD,Nat.dvd_refl _,λa n=>?_⟩;grind[Fy,Fb]
  . obtain⟨d,f⟩:=Classical.not_forall.1 h;obtain⟨b,c⟩:=Classical.not_imp.1 f;have j:d≠1/\d≠D:=⟨λe=>c (An e),λe=>c (Ap e)⟩;have k:d<=D:=Nat.le_of_dvd O b;have m:d≠0:=λe=>by subst e;omega
    obtain⟨l,l1,l2,i⟩:=g d O O;exact⟨l,l1,Nat.dvd_trans l2 b,i⟩
theorem SQ{P:Nat->Prop}(h:∃a,P a):∃a,P a/\∀i,i<a->¬P i:=by
 obtain⟨a,b⟩:=h;induction a using Nat.strongRecOn with
 |ind a c=>
  grind
theorem qB{l:Int}{f:Nat->Int}{a:Nat}:∀n,a<n->(∀i,i<n->i≠a->l∣f i)->l∣Xe n f->l∣f a:=by
 have c:∀n,(∀i,i<n->l∣f i)->l∣Xe n f:=λn=>by
  induction n with
  |zero=>exact λ_=>Int.dvd_zero _
  |succ n b=>exact λh=>by rw[Xe];grind[Int.dvd_add]
 intro n;induction n with
 |zero=>intro h;omega
 |succ n b=>
  intro k h hs;rw[Xe]at hs;by_cases e:a=n
  . subst e;have g:=c a λi hi=>h i O O;have j:=Int.dvd_sub hs g;grind
  . refine b O (λi hi=>h i O) ?_;have j:=Int.dvd_sub hs (h n O λd=>e d.symm);grind
theorem qC(hl:∀a:Nat,¬l∣a->Nat.gcd l a=1){r s:Nat->Int}(o:∀i,n<=i->r i=0)(h:∀k,(l:Int)∣Xe n λi=>if i<=k then r i*s (k-i)else 0)(e:∃a,¬(l:Int)∣r a)(hs:∃b,¬(l:Int)∣s b):False:=by
 obtain⟨a,f,g⟩:=SQ e;obtain⟨b,hb,j⟩:=SQ hs;have d:a<n:=by
  by_cases c:a<n
  . exact c
  . grind[Int.dvd_zero]
 have c:=qB n d (λi hi m=>by
  grind[Int.dvd_trans,Int.dvd_mul_right,Int.dvd_mul_left,Int.dvd_zero]) (h (a+b))
 grind[dvd_one,AR,CS]
theorem qD{p:Ja}{L G:Int}(H:∀i,((cf p i).den:Int)∣L)(I:∀u:Int,(∀i,((cf p i).den:Int)∣u)->L∣u)(B:∀i,G∣(cf p i).num)(D:∀v:Int,(∀i,v∣(cf p i).num)->v∣G)(A:G≠0){c:Rat}(M:∀i,∃z:Int,cf p i*c=(z:Rat)):
 ∃t:Int,∀i,∃r:Int,cf p i*((L:Rat)/(G:Rat))=(r:Rat)/\cf p i*c=((r*t:Int):Rat):=by
 have o:(c.den:Int)≠0:=by have:=c.den_nz;omega
 have g:∀i,∃z:Int,cf p i*c=(z:Rat)/\(cf p i).num*c.num=z*((cf p i).den*c.den):=λi=>by
  obtain⟨z,a⟩:=M i;refine⟨z,a,?_⟩;have s:c*(c.den:Rat)=(c.num:Rat):=IY c;have j:cf p i*((cf p i).den:Rat)=((cf p i).num:Rat):=IY _;have w:(((cf p i).num*c.num:Int):Rat)=((z*(((cf p i).den:Int)*(c.den:Int)):Int):Rat):=by
   rw[AD,AD,AD,AV,AV,<-s,<-j,<-a];grind
  exact Fe.1 w
 have k:L∣c.num:=I _ λi=>by
  obtain⟨z,_,e⟩:=g i;have b:((cf p i).den:Int)∣(cf p i).num*c.num:=⟨z*c.den,DH⟩;rw[Int.mul_comm]at b;refine dvd_one b ?_;rw[AR,Fa];exact(cf p i).reduced
 have hv:(c.den:Int)∣G:=D _ λi=>by
  obtain⟨z,_,e⟩:=g i;have b:(c.den:Int)∣(cf p i).num*c.num:=⟨z*(cf p i).den,DH⟩;refine dvd_one b ?_;rw[AR,Fa];exact c.reduced
 obtain⟨u,k⟩:=k;obtain⟨v,hv⟩:=hv;refine⟨u*v,λi=>?_⟩;obtain⟨e,l⟩:=H i;obtain⟨m,n⟩:=B i;obtain⟨z,x,a⟩:=g i;have K:((cf p i).den:Int)≠0:=by have:=(cf p i).den_nz;omega
 have q:z=m*e*(u*v):=by
  have y:z*(((cf p i).den:Int)*c.den)=m*e*(u*v)*(((cf p i).den:Int)*c.den):=by
   rw[<-a,n,k,hv,l];generalize ((cf p i).den:Int)=d;generalize (c.den:Int)=f;grind
  exact Int.eq_of_mul_eq_mul_right (CG K o) y
 refine⟨m*e,?_,by rw[x,q]⟩;have N:(G:Rat)≠0:=by exact_mod_cast A
 have j:cf p i*((cf p i).den:Rat)=((cf p i).num:Rat):=IY _;rw[n,AD]at j;have P:(L:Rat)=((cf p i).den:Rat)*(e:Rat):=by rw[l,AD,AV]
 grind
theorem Zs{p:Ja}(hp:Jc p=p)(b:p≠[]){c:Rat}(f:∀i,∃z:Int,cf p i*c=(z:Rat)):∃t:Int,∀i,∃r:Int,cf (Jn p) i=(r:Rat)/\cf p i*c=((r*t:Int):Rat):=by
 have a:∀i,p.length<=i->cf p i=0:=λi hi=>Yt hi;obtain⟨t,d⟩:=qD (p:=p) (L:=(XV p p.length:Int)) (G:=(XG p p.length:Int)) (λi=>by
  by_cases hi:i<p.length
  . grind[FK,SA]
  . rw[a i O];exact Int.one_dvd _) (λu e=>CS.2 (SB p _ (λi=>CS.1 (e i)) _)) (λi=>by
  by_cases hi:i<p.length
  . exact CS.2 (SC p _ i hi)
  . rw[a i O];exact Int.dvd_zero _) (λv hv=>by
  have:v.natAbs∣XG p p.length:=ZZ p _ (λi=>Cl.2 (hv i)) _
  grind[Int.natAbs_dvd,FK]) (by have:=NL hp b;omega) f
 refine⟨t,λi=>?_⟩;obtain⟨r,g,j⟩:=d i;grind[Jn,Yx,AV]
theorem Zt{p:Ja}(hp:Jc p=p)(j:p≠[]){r:Nat->Int}(k:∀i,cf (Jn p) i=(r i:Rat))(hl:1<l):∃i,¬(l:Int)∣r i:=by
 by_cases h:∃i,¬(l:Int)∣r i
 . exact h
 . exfalso
   have m:∀i,(l:Int)∣r i:=λi=>Classical.not_not.1 λa=>h ⟨i,a⟩;have n:(l:Rat)≠0:=by exact_mod_cast (show l≠0 by omega)
   obtain⟨c,D,e⟩:=Xg hp;have G:c≠0:=λg=>by grind
   have b:∀i,cf p i*c=(r i:Rat):=λi=>by rw[<-Yx,<-e,k]
   obtain⟨t,y⟩:=Zs hp j (c:=c/(l:Rat)) (λi=>by
    obtain⟨q,hq⟩:=m i;refine⟨q,?_⟩;have a:c/(l:Rat)*(l:Rat)=c:=Ar n;have d:=b i;rw[hq,AD,AV]at d;grind)
   obtain⟨z,a,d⟩:=y (p.length-1);have H:=Jp hp j;have s:z=r (p.length-1):=Fe.1 (by rw[<-a,k]);have o:r (p.length-1)≠0:=λg=>by
    have f:=b (p.length-1);rw[g]at f;grind
   have f:=b (p.length-1);have u:((r (p.length-1):Int):Rat)=(((r (p.length-1))*(t*(l:Int)):Int):Rat):=by
    rw[<-f,AD,AD,AV];rw[s,AD]at d;grind
   have v:=Fe.1 u;have B:t*(l:Int)=1:=by
    have w:r (p.length-1)*1=r (p.length-1)*(t*(l:Int)):=by rw[F8];exact v
    exact(Int.eq_of_mul_eq_mul_left o w).symm
   have x:(l:Int)∣1:=⟨t,DH⟩;have A:=Int.le_of_dvd DK x;omega
theorem ST{p:Ja}(hp:Jc p=p)(b:p≠[]):∀i,∃r:Int,cf (Jn p) i=(r:Rat):=by
 obtain⟨t,j⟩:=Zs hp b (c:=(XV p p.length:Rat)) (λi=>by
  have f:(cf p i).den∣XV p p.length:=by
   by_cases hi:i<p.length
   . exact SA p _ i hi
   . rw[Yt O];exact Nat.one_dvd _
  obtain⟨e,g⟩:=f;refine⟨(cf p i).num*(e:Int),?_⟩;have a:cf p i*((cf p i).den:Rat)=((cf p i).num:Rat):=IY _;rw[g,AD,<-a,AV,Rat.natCast_mul];grind)
 intro i;obtain⟨r,d,_⟩:=j i;exact⟨r,d⟩
theorem qE(L:Jc P=P)(j:P≠[])(Q:∀i,∃z:Int,cf P i=(z:Rat))(hg:Jc g=g)(h:Dv g P):
 ∃H:Ja,Jc H=H/\P=Ji (Jn g) H/\∀i,∃z:Int,cf H i=(z:Rat):=by
 have g0:g≠[]:=λe=>j (by
  obtain⟨c,M⟩:=h;grind[XJ,ev])
 obtain⟨B,T,G⟩:=Xg hg;have u:B≠0:=λD=>by grind
 have N:Dv (Jn g) P:=by rw[G];exact h.of_sc u
 obtain⟨H,d,eP⟩:=N.some L;have f:H≠[]:=λe=>j (by rw[eP,e];exact YK _);refine⟨H,d,eP,?_⟩;obtain⟨c,M,m⟩:=Xg d;have w:c≠0:=λD=>by grind
 obtain⟨r,p⟩:=CM (ST hg g0);obtain⟨s,hs⟩:=CM (ST d f);obtain⟨z,R⟩:=CM Q;have q:DN c P=Ji (Jn g) (Jn H):=by
  refine YM (JH _ _) (Jt _ _) λx=>?_;have a:ev P x=ev (Jn g) x*ev H x:=by rw[<-Jd,<-eP]
  rw[Jo,Jd,m,Jo,a];grind
 have v:∀k,(z k:Rat)*c=((Xe (Jn g).length (λi=>if i<=k then r i*s (k-i)else 0):Int):Rat):=λk=>by
  rw[<-R k,<-Yx,q,PC _ _ (Aa _)];refine R7 λi _=>?_;split
  . grind
  . rfl
 have y:c*(c.den:Rat)=(c.num:Rat):=IY c;have t:∀k,z k*c.num=(c.den:Int)*Xe (Jn g).length (λi=>if i<=k then r i*s (k-i)else 0):=λk=>by
  have a:((z k*c.num:Int):Rat)=(((c.den:Int)*Xe (Jn g).length (λi=>if i<=k then r i*s (k-i)else 0):Int):Rat):=by
   rw[AD,AD,<-v k,AV,<-y];grind
  exact Fe.1 a
 have A:c.num≠0:=λe=>w (FQ.1 e);have U:c.num.natAbs=1:=by
  by_cases a:c.num.natAbs=1
  . exact a
  . exfalso
    have I:c.num.natAbs≠0:=Int.natAbs_ne_zero.2 A;obtain⟨l,l1,l2,S⟩:=qA c.num.natAbs O;refine qC S (r:=r) (s:=s) (n:=(Jn g).length) (λi hi=>?_) (λk=>?_) (Zt hg g0 p l1) (Zt d f hs l1)
    . have b:=p i;rw[Yt hi]at b;exact(Fe.1 (show((0:Int):Rat)=_ from b)).symm
    . have b:(l:Int)∣(c.den:Int)*Xe (Jn g).length (λi=>if i<=k then r i*s (k-i)else 0):=by
       rw[<-t k];exact Int.dvd_trans (CS.2 l2) (Int.dvd_mul_left _ _)
      rw[Int.mul_comm]at b;refine dvd_one b ?_;rw[AR,AR];have o:Nat.gcd l c.den∣Nat.gcd c.num.natAbs c.den:=Nat.dvd_gcd (Nat.dvd_trans (Fy _ _) l2) (Fb _ _);have K:Nat.gcd c.num.natAbs c.den=1:=c.reduced;rw[K]at o;exact Nat.dvd_one.1 o
 intro i;refine⟨s i*(c.den:Int)*c.num,?_⟩;have a:cf H i*c=(s i:Rat):=by rw[<-hs,m,Yx]
 have I:(c.num:Rat)*(c.num:Rat)=1:=by
  rw[<-AD];have b:c.num*c.num=1:=by
   grind
  rw[b];rfl
 rw[AD,AD,AV,<-a];grind
def D4:List Int->Int->Int
 |[],_=>0
 |c::t,x=>c+x*D4 t x
def cz(g:List Int)(i:Nat):Int:=g[i]?.getD 0
theorem qF(i:Nat):cz [] i=0:=rfl
def PK(c:Int)(t:List Int):cz (c::t) 0=c:=rfl
def NW(c:Int)(t:List Int)(i:Nat):cz (c::t) (i+1)=cz t i:=rfl
theorem SU{g:List Int}{i:Nat}(h:g.length<=i):cz g i=0:=by unfold cz;grind
def Xh:List Int->Int->List Int × Int
 |[],_=>([],0)
 |c::t,k=>((Xh t k).2::(Xh t k).1,c+k*(Xh t k).2)
theorem SV(k x:Int):∀g:List Int,D4 g x=(x-k)*D4 (Xh g k).1 x+(Xh g k).2:=by
 intro g;induction g with
 |nil=>simp[D4,Xh]
 |cons c t a=>rw[D4,Xh,a];simp only[D4];grind
theorem Zu(k:Int)(g:List Int):(Xh g k).2=D4 g k:=by
 grind[SV]
theorem SW(k:Int):∀(g:List Int),cz g 0=(Xh g k).2-k*cz (Xh g k).1 0/\∀i,cz g (i+1)=cz (Xh g k).1 i-k*cz (Xh g k).1 (i+1):=by
 intro g;induction g with
 |nil=>grind[qF,Xh]
 |cons c t a=>
  rw[Xh];refine⟨by rw[PK,PK];omega,λi=>?_⟩;cases i with
  |zero=>rw[NW,PK,NW];exact a.1
  |succ i=>rw[NW,NW,NW];exact a.2 i
theorem Zv(k:Int)(g:List Int){m:Nat}(h:∀i,m+1<=i->cz g i=0):∀i,m<=i->cz (Xh g k).1 i=0:=by
 have a:∀d i,m<=i->(Xh g k).1.length<=i+d->cz (Xh g k).1 i=0:=λd=>by
  induction d with
  |zero=>intro i _ b;exact SU O
  |succ d c=>
   intro i hi b;have e:=c (i+1) O O;have f:=(SW k g).2 i;grind
 intro i hi;exact a (Xh g k).1.length i hi O
theorem qG:∀(m:Nat) (g:List Int),(∀i,m<=i->cz g i=0)->(∃i,cz g i≠0)->∀b:List Int,b.Nodup->(∀k∈b,D4 g k=0)->b.length<m:=by
 intro m;induction m with
 |zero=>intro g h ⟨i,hi⟩;grind
 |succ m e=>
  intro g h ⟨d,l⟩ b hn hk;cases b with
  |nil=>simp
  |cons a b=>
   rw[List.nodup_cons]at hn;have o:(Xh g a).2=0:=by rw[Zu];exact hk a DI
   have hq:∃i,cz (Xh g a).1 i≠0:=by
    by_cases c:∃i,cz (Xh g a).1 i≠0
    . exact c
    . exfalso
      have f:=SW a g;cases d with
      |zero=>grind
      |succ i=>grind
   have j:=e (Xh g a).1 (Zv a g h) hq b hn.2 (λk n=>by
    grind[SV,Int.mul_eq_zero])
   grind
theorem qH(B:Nat):∀(m:Nat) (g:List Int) (M:Nat),(∀i,m<=i->cz g i=0)->∀b:List Int,b.Nodup->b.length=m->(∀k∈b,(D4 g k).natAbs<=M/\k.natAbs<=B)->∀i,(cz g i).natAbs<=M*(2*B+3)^m:=by
 intro m;induction m with
 |zero=>intro g M h b _ _ _ i;grind
 |succ m s=>
  intro g M h b hn hl hk i;cases b with
  |nil=>simp at hl
  |cons a b=>
   rw[List.nodup_cons]at hn;obtain⟨l,n⟩:=hk a DI;have z:((Xh g a).2).natAbs<=M:=by rw[Zu];exact l
   have hq:=s (Xh g a).1 (2*M) (Zv a g h) b hn.2 (by simpa using hl) (λk r=>by
    obtain⟨j,c⟩:=hk k (by simp[r]);refine⟨?_,c⟩;have v:=SV a k g;have o:(k-a)*D4 (Xh g a).1 k=D4 g k-(Xh g a).2:=O
    have p:(k-a).natAbs*(D4 (Xh g a).1 k).natAbs<=2*M:=by
     rw[<-Cx,o];omega
    have q:0<(k-a).natAbs:=Int.natAbs_pos.2 λe=>hn.1 DH;exact Ae (CI _ q) p)
   obtain⟨X,hX⟩:∃X,2*M*(2*B+3)^m=X:=⟨_,J⟩;rw[hX]at hq;have w:2*M<=X:=by rw[<-hX];exact Ce _ (CV O)
   have x:X+B*X<=M*(2*B+3)^(m+1):=by
    have e:M*(2*B+3)^(m+1)*2=X*(2*B+3):=by rw[<-hX,Cy];grind
    have t:X*(2*B+3)=2*(B*X)+3*X:=DH
    omega
   have d:∀y:Int,(a*y).natAbs<=B*y.natAbs:=λy=>by rw[Cx];exact Af _ n
   have f:=SW a g;cases i with
   |zero=>
    rw[f.1];have j:=d (cz (Xh g a).1 0);have c:B*(cz (Xh g a).1 0).natAbs<=B*X:=Am _ (hq 0);omega
   |succ i=>
    rw[f.2];have j:=d (cz (Xh g a).1 (i+1));have c:B*(cz (Xh g a).1 (i+1)).natAbs<=B*X:=Am _ (hq (i+1));have u:=hq i;omega
theorem qI{B:Nat}:∀(g:List Int) (k:Int),(∀i,(cz g i).natAbs<=M)->k.natAbs<=B->(D4 g k).natAbs<=M*(B+1)^g.length:=by
 intro g;induction g with
 |nil=>intro k _ _;simp[D4]
 |cons c t j=>
  intro k h hk;have b:=j k (λi=>h (i+1)) hk;have f:=h 0;rw[PK]at f;rw[D4,Al,Cy];obtain⟨a,d⟩:=ex ((B+1)^t.length);rw[d]at b ⊢;have e:1<=a:=by rw[<-d];exact CV O
  have l:(k*D4 t k).natAbs<=B*(M*a):=by rw[Cx];exact CE hk b
  have m:M<=M*a:=Ce _ e;grind[]
def NX(g:List Int):Ja:=g.map (λz:Int=>(z:Rat))
theorem SX(g:List Int)(i:Nat):cf (NX g) i=(cz g i:Rat):=by
 unfold cf NX cz;rw[C3];cases g[i]? with
 |none=>rfl
 |some z=>rfl
def SY(k:Int):∀g:List Int,ev (NX g) (k:Rat)=(D4 g k:Rat):=by
 intro g;induction g with
 |nil=>rfl
 |cons c t a=>
  show(c:Rat)+(k:Rat)*ev (NX t) (k:Rat)=_;rw[a,D4,FC,AD]
def SZ{p:Ja}(h:∀i,∃z:Int,cf p i=(z:Rat)):∃g:List Int,p=NX g/\g.length=p.length:=by
 induction p with
 |nil=>exact⟨[],J,J⟩
 |cons c t e=>
  obtain⟨g,b,d⟩:=e (λi=>by have:=h (i+1);rwa[Yr]at this);obtain⟨z,a⟩:=h 0;rw[Xo]at a;exact⟨z::g,by rw[a,b];rfl,by simp[d]⟩
theorem nodup_range(n:Nat):((List.range n).map (λi:Nat=>(i:Int))).Nodup:=by
 grind[List.nodup_range]
theorem qJ(t:Jc P=P)(d:P≠[])(hl:P.length<=n+1)(j:∀i,∃z:Int,z.natAbs<=M/\cf P i=(z:Rat))(hg:Jc g=g)(h:Dv g P):
 ∀i,∃z:Int,z.natAbs<=M*(2*n+1)^(n+1)*(2*(2*n)+3)^(n+1)/\cf (Jn g) i=(z:Rat):=by
 obtain⟨H,G,eP,I⟩:=qE t d (λi=>by obtain⟨z,_,c⟩:=j i;exact⟨z,c⟩) hg h;have g0:g≠[]:=λe=>d (by rw[eP,e];rfl);have m:H≠[]:=λe=>d (by rw[eP,e];exact YK _);obtain⟨a,s,lp⟩:=SZ (p:=P) (λi=>by obtain⟨z,_,c⟩:=j i;exact⟨z,c⟩);obtain⟨f,r,lg⟩:=SZ (ST hg g0);obtain⟨K,D,lh⟩:=SZ I;have W:(Jn g).length<=n+1:=by
  have b:=JD (J0 g) G (λe=>d (by rw[eP,e];rfl)) m;rw[<-eP]at b;have c:0<H.length:=Ag.2 m;omega
 have A:∀i,(cz a i).natAbs<=M:=λi=>by
  obtain⟨z,b,c⟩:=j i;grind[SX,Fe]
 have o:∀k:Int,D4 a k=D4 f k*D4 K k:=λk=>by
  have b:ev P (k:Rat)=ev (Jn g) (k:Rat)*ev H (k:Rat):=by rw[<-Jd,<-eP]
  rw[s,r,D,SY,SY,SY,<-AD]at b;exact Fe.1 b
 obtain⟨R,u⟩:=ex ((List.range (2*n+1)).map (λi:Nat=>(i:Int)));have q:R.Nodup:=by rw[<-u];exact nodup_range _
 have U:R.length=2*n+1:=by rw[<-u];simp
 have T:∀k∈R,k.natAbs<=2*n:=λk hk=>by
  grind
 have V:(R.filter λk=>D4 a k==0).length<n+1:=by
  refine qG (n+1) a (λi hi=>SU O) ?_ _ (q.filter _) (λk hk=>by
   grind)
  refine⟨P.length-1,λe=>Jp t d ?_⟩;have b:=SX a (P.length-1);rw[<-s,e]at b;exact b
 have X:(R.filter λk=>D4 a k==0).length+(R.filter λk=>!(D4 a k==0)).length=R.length:=by
  rw[<-List.countP_eq_length_filter,<-List.countP_eq_length_filter];have b:=List.length_eq_countP_add_countP (l:=R) λk=>D4 a k==0;have c:List.countP (λk=>!(D4 a k==0)) R=List.countP (λk=>decide ¬((D4 a k==0)=true)) R:=by congr 1;funext k;grind
  omega
 obtain⟨S,v⟩:=ex ((R.filter λk=>!(D4 a k==0)).take (n+1));have x:S.length=n+1:=by rw[<-v,AG];omega
 have y:S.Nodup:=by rw[<-v];exact List.Sublist.nodup (List.take_sublist _ _) (q.filter _)
 have B:∀k∈S,D4 a k≠0/\k.natAbs<=2*n:=λk hk=>by
  grind
 have w:=qH (2*n) (n+1) f (M*(2*n+1)^(n+1)) (λi hi=>SU O) S y x (λk hk=>by
  obtain⟨b,c⟩:=B k hk;refine⟨?_,c⟩;have L:=qI a k A c;have N:M*(2*n+1)^a.length<=M*(2*n+1)^(n+1):=Am _ (AB O O);have Q:(D4 f k).natAbs<=(D4 a k).natAbs:=by
   rw[o k,Cx];refine Ce _ (Int.natAbs_pos.2 λe=>b ?_);rw[o k,e,F0]
  omega)
 intro i;exact⟨cz f i,w i,by rw[r,SX]⟩
theorem Ln.mul{N:Nat}{p q:Ja}(hp:Ln K p)(hq:Ln N q)(hl:p.length<=1000000000):Ln (K+N+1) (Ji p q):=by
 obtain⟨c,j,b⟩:=hp;obtain⟨d,l,a⟩:=hq;obtain⟨z,b⟩:=CM b;obtain⟨y,a⟩:=CM a;refine⟨c*d,Xf j l,λk=>⟨Xe p.length λi=>if i<=k then z i*y (k-i)else 0,?_,?_⟩⟩
 . have e:(Xe p.length λi=>if i<=k then z i*y (k-i)else 0).natAbs<=p.length*(Y^K*Y^N):=O9 λi _=>by
    split
    . rw[Cx];have f:=(b i).1;have g:=(a (k-i)).1;unfold Sm at f g;exact CE O O
    . simp
   grind[Sm,Y,CO,A4,Nat.mul_lt_mul_left]
 . rw[PC p q (Aa _)];have e:∀n,Dt n (λi=>if i<=k then cf p i*cf q (k-i)else 0)*(c*d)=((Xe n (λi=>if i<=k then z i*y (k-i)else 0):Int):Rat):=λn=>by
    induction n with
    |zero=>simp[Dt,Xe,Rat.zero_mul]
    |succ n m=>
     rw[Dt,Xe,FC,<-m];split
     . grind
     grind
   exact e _
theorem Ln.slope{p:Ja}(h:Ln K p)(hl:p.length<=1000000000):Ln (K+1) (Jb p):=by
 obtain⟨c,b,d⟩:=h;refine⟨c,b,λi=>?_⟩;obtain⟨z,a,e⟩:=d (i+1);rw[XQ];by_cases hi:i+1<p.length
 . refine⟨z*((i+1:Nat):Int),a.mul (by unfold Sm Y;omega),?_⟩;grind
 . exact⟨0,Sm.zero _,by grind[Yt]⟩
theorem Dv.lnN{e:Nat}(b:Jc P=P)(o:P≠[])(hl:P.length<=n+1)(D:(2*n+1)^(n+1)*(2*(2*n)+3)^(n+1)<=Y^e)(G:Ln K P)(hg:Jc g=g)(h:Dv g P):Ln (K+e) g:=by
 obtain⟨c,I,j⟩:=Xg b;have r:c≠0:=λs=>by grind
 have y:Jn P≠[]:=by rw[j];exact Hh r b o
 have A:Dv g (Jn P):=by rw[j];exact h.sc c
 have u:=MB b G;have v:=qJ (n:=n) (M:=Y^K-1) (J0 P) y (by rw[JL b];omega) (λi=>by
  obtain⟨z,k,l⟩:=u i;unfold Sm at k;grind) hg A
 have w:Ef (K+e) (Jn g):=λi=>by
  obtain⟨z,k,l⟩:=v i;refine⟨z,?_,l⟩;unfold Sm;have hk:0<Y^K:=CV I9;have p:0<Y^e:=CV I9;have a:(Y^K-1)*((2*n+1)^(n+1)*(2*(2*n)+3)^(n+1))<=(Y^K-1)*Y^e:=Am _ D;rw[<-CJ]at a;have m:(Y^K-1)*Y^e<Y^K*Y^e:=(Nat.mul_lt_mul_right p).2 O;grind
 obtain⟨f,L,t⟩:=Xg hg;have q:f≠0:=λs=>by grind
 have a:=w.ln;rw[t]at a;obtain⟨d,B,H⟩:=a;refine⟨f*d,Xf q B,λi=>?_⟩;obtain⟨z,m,x⟩:=H i;exact⟨z,m,by rw[<-x,Yx];grind⟩
def PL:(2*24+1)^(24+1)*(2*(2*24)+3)^(24+1)<=Y^5:=by unfold Y;decide
def qK:(2*47+1)^(47+1)*(2*(2*47)+3)^(47+1)<=Y^11:=by unfold Y;decide
theorem Dv.len{a b:Ja}(f:Jc a=a)(hb:Jc b=b)(b0:b≠[])(h:Dv a b):a.length<=b.length/\a≠[]:=by
 obtain⟨c,g,e⟩:=h.some hb;have a0:a≠[]:=λd=>b0 (by rw[e,d];rfl);grind[YK,JD,Ag]
theorem NY{a b:Ja}(c:Jc a=a)(hb:Jc b=b)(a0:a≠[])(b0:b≠[]):cf (Ji a b) ((Ji a b).length-1)=cf a (a.length-1)*cf b (b.length-1):=by
 have l:=JD c hb a0 b0;have p1:0<a.length:=Ag.2 a0;have d:0<b.length:=Ag.2 b0;rw[l,show a.length+b.length-1-1=(a.length-1)+(b.length-1)by omega];grind[Ji,Yv,P5]
def qL{R:Ja}(c:Jc R=R)(hl:1<R.length):(Jb R).length=R.length-1/\cf (Jb R) ((Jb R).length-1)=cf R (R.length-1)*(((R.length-1:Nat):Int):Rat):=by
 have R0:R≠[]:=λe=>by rw[e]at hl;simp at hl
 have d:=Y8 R0;have b:cf (Jb R) (R.length-2)≠0:=by
  rw[XQ,show R.length-2+1=R.length-1 by omega];exact Xf (Jp c R0) (by
   intro e
   have:((R.length-1:Nat):Int)=0:=by exact_mod_cast e
   omega)
 have f:=R6 b;have a:(Jb R).length=R.length-1:=O
 refine⟨a,?_⟩;rw[a,XQ,show R.length-1-1+1=R.length-1 by omega]
def PM{q:Ja}(tq:Jc q=q)(q0:q≠[])(a:Jr q=q):cf q (q.length-1)=1:=by
 have:=R8 tq q0;rwa[a]at this
theorem Zw{q R w y:Ja}(tq:Jc q=q)(q0:q≠[])(lq:q.length<=25)(g:Ln K q)(tR:Jc R=R)(G:Jr R=R)(tw:Jc w=w)(mw:Jr w=w)(ty:Jc y=y)(f:Dv R q)(dw:Dv w q)
(A:∀x,ev y x*ev R x=ev w x*ev (Jb R) x):∃D:Int,D≠0/\Sm (2*K+24) D/\EQ D (2*K+24) y:=by
 by_cases y0:y=[]
 . subst y0;exact SK O
 . obtain⟨P,R0⟩:=f.len tR tq q0;obtain⟨S,w0⟩:=dw.len tw tq q0;have b:Ji y R=Ji w (Jb R):=YM (Jt _ _) (Jt _ _) λx=>by rw[Jd,Jd,A]
   have p0:Ji w (Jb R)≠[]:=by rw[<-b];exact YX ty tR y0 R0
   have c:Jb R≠[]:=λe=>p0 (by rw[e];exact YK _);have v:1<R.length:=by
    have H:0<(Jb R).length:=Ag.2 c;have:=Y8 R0;omega
   obtain⟨Q,B⟩:=qL tR v;have t:Ln (K+5) R:=f.lnN (n:=24) tq q0 O PL g tR;have r:Ln (K+5) w:=dw.lnN (n:=24) tq q0 O PL g tw;have p:=r.mul (t.slope O) O;have N:=JD tw (Jv R) w0 c;have s:Dv y (Ji w (Jb R)):=⟨R,λx=>by rw[<-b,Jd]⟩;have u:=s.lnN (n:=47) (e:=11) (Jt _ _) p0 O qK p ty;have a:=NY ty tR y0 R0;have o:=NY tw (Jv R) w0 c;rw[b]at a;rw[o,B,PM tw w0 mw,PM tR R0 G]at a;have m:cf y (y.length-1)=(((R.length-1:Nat):Int):Rat):=by
    rw[FG,FG,Rat.mul_one]at a;exact a.symm
   obtain⟨E,j,k,l⟩:=SG ty y0 u;refine⟨E,j,k.mono O,λi=>?_⟩;have z:cf y i=cf (Jr y) i*(((R.length-1:Nat):Int):Rat):=by
    unfold Jr;rw[Yx,<-m];have I:(1/cf y (y.length-1))*cf y (y.length-1)=1:=Ar (Jp ty y0);grind
   rw[z];have L:=(l i).mul (E:=1) (M:=1) (d:=(((R.length-1:Nat):Int):Rat)) ⟨((R.length-1:Nat):Int),by grind[AC],by unfold Sm Y;omega⟩;grind
def EU(q w y:Ja):Nat->Ja
 |0=>q
 |n+1=>Jm (EU q w y n) (DT w y n).1
def KN{p q:Ja}(h:q≠[]):Ds p q=Jm p q:=BE h
section
variable {q w y:Ja}
def KO(h:Yun q w y)(m:Jr q=q):∀n,Yun (EU q w y n) (DT w y n).1 (DT w y n).2/\Dv (EU q w y n) q/\Jr (EU q w y n)=EU q w y n/\Dv (DT w y n).1 q:=by
 intro n;induction n with
 |zero=>exact⟨h,Dv.refl _,m,h.dv⟩
 |succ n l=>
  obtain⟨a,g,i,j⟩:=l;obtain⟨_,_,o,p,_,s⟩:=a.step;have c:Ju (DT w y n).1 (JT (DT w y n).2 (Jb (DT w y n).1))≠[]:=Yf a.tw (YF _ _) (An a.w0);have e:(DT w y (n+1)).1=Jm (DT w y n).1 (Ju (DT w y n).1 (JT (DT w y n).2 (Jb (DT w y n).1))):=by rw[DT];unfold ME;exact KN c
  have f:(DT w y (n+1)).2=Jm (JT (DT w y n).2 (Jb (DT w y n).1)) (Ju (DT w y n).1 (JT (DT w y n).2 (Jb (DT w y n).1))):=by rw[DT];unfold ME;exact KN c
  have k:Dv (Jm (EU q w y n) (DT w y n).1) (EU q w y n):=by
   refine⟨(DT w y n).1,λx=>?_⟩;have b:=congrArg (λr=>ev r x) p;simp only[Jd]at b;rw[b];exact Ch _ _
  have d:Dv (Jm (DT w y n).1 (Ju (DT w y n).1 (JT (DT w y n).2 (Jb (DT w y n).1)))) (DT w y n).1:=by
   refine⟨Ju (DT w y n).1 (JT (DT w y n).2 (Jb (DT w y n).1)),λx=>?_⟩;have b:=congrArg (λr=>ev r x) s;simp only[Jd]at b;exact b.trans (Ch _ _)
  rw[e,f];exact⟨o,k.trans g,(NQ a.tR a.R0 i a.tw a.mw a.dv).1,d.trans j⟩
theorem Sa(h:Yun q w y)(b:Jr q=q)(n:Nat)(hn:1<(DT w y n).1.length):(EU q w y (n+1)).length<(EU q w y n).length:=by
 obtain⟨a,_,d,_⟩:=KO h b n;obtain⟨_,_,c,e,_,_⟩:=a.step;have l:=JD a.tw (YE (EU q w y n) (DT w y n).1) a.w0 c.R0;grind[EU]
theorem qM(h:Yun q w y)(f:Jr q=q):∃N,N<=q.length/\(DT w y N).1.length<=1/\∀n,n<N->1<(DT w y n).1.length:=by
 have d:∃N,(DT w y N).1.length<=1:=by
  by_cases b:∃N,(DT w y N).1.length<=1
  . exact b
  . exfalso
    have c:∀n,1<(DT w y n).1.length:=λn=>by
     grind
    have a:∀n,(EU q w y n).length+n<=q.length:=λn=>by
     induction n with
     |zero=>exact Aa _
     |succ n e=>have:=Sa h f n (c n);omega
    have g:=a (q.length+1);omega
 obtain⟨N,i,j⟩:=SQ d;have a:∀n,n<=N->(EU q w y n).length+n<=q.length:=λn=>by
  induction n with
  |zero=>exact λ_=>Aa _
  |succ n e=>
   intro hn;grind[Sa]
 grind
end
theorem qN{M K A:Nat}(hM:M<=80000)(hK:K=2*M+24)(hA:A=(K+1)*51+1){p:Ja}(tp:Jc p=p)(hl:1<p.length)(ai:p.length<=25)(cp:Cd M p):∃N,PtOk K A N p/\N<=25:=by
 obtain⟨q,hq⟩:=ex (Jr p);have tq:Jc q=q:=by rw[<-hq];exact Yp _
 have k:Jr q=q:=by rw[<-hq];exact Ks tp
 have lq:q.length=p.length:=by rw[<-hq];exact LV tp
 have q0:q≠[]:=λe=>by grind
 have cq:Cd M q:=by rw[<-hq];exact cp.mon tp
 have aj:=Y8 q0;have cs:Cd (M+1) (Jb q):=by
  obtain⟨D,d1,o,r⟩:=cq;refine⟨D,d1,o.mono O,λi=>?_⟩;rw[XQ];by_cases hi:i+1<q.length
  . have c:=(r (i+1)).mul (E:=1) (M:=1) (d:=(((i+1:Nat):Int):Rat)) ⟨((i+1:Nat):Int),by grind[AC],by unfold Sm Y;omega⟩;rwa[F8]at c
  . grind[Yt,CD.zero]
 have z:∀a b:Ja,Jc a=a->Jc b=b->Cd K a->Cd K b->a.length<=25->b.length<=25->M3.ChOk K a b/\Db K a b<=A:=λa b ta tb ca cb la lb=>by
  have c:Db K a b<=(K+1)*(25+25+1):=Am _ O;have s:(max a.length b.length+2)*(Db K a b+1)<=(25+2)*((K+1)*(25+25+1)+1):=CE O O;exact⟨⟨ta,tb,ca,cb,O,O⟩,O⟩
 have hb:∀n:Nat,n<=25->2*((n+3)*(A+1))<=1000000000:=λn hn=>by
  have:(n+3)*(A+1)<=(25+3)*(A+1):=Af _ O
  omega
 have B:=Yf tq (Jv q) (An q0);obtain⟨w,P⟩:=ex (Ds q (Ju q (Jb q)));obtain⟨y,Q⟩:=ex (Ds (Jb q) (Ju q (Jb q)));have u:Yun q w y:=by
  rw[<-P,<-Q,KN B,KN B];exact Yun.start tq q0 k
 obtain⟨N,hN,ah,ae⟩:=qM u k;refine⟨N,?_,O⟩;have c0:=z q (Jb q) tq (Jv _) (cq.mono O) (cs.mono O) O O;refine⟨tp,cp.mono O,by rw[hq];exact c0.1,by rw[hq];exact c0.2,hb _ O,hl,O,?_,DH⟩;rw[hq,P,Q];intro n hn;refine⟨ae n hn,?_⟩;obtain⟨c,s,H,f⟩:=KO u k n;obtain⟨s1,s2,g,s4,v,s6⟩:=c.step;obtain⟨k1,S,T,k4⟩:=KO u k (n+1);obtain⟨a,j⟩:=ex ((DT w y n).1);obtain⟨b,I⟩:=ex ((DT w y n).2);obtain⟨R,t⟩:=ex (EU q w y n);have X:EU q w y (n+1)=Jm R a:=by rw[EU,t,j]
 rw[X]at S T;rw[j,I,t]at c g v;rw[t]at s H;rw[j]at f;rw[j,I];have la:=(f.len c.tw tq q0).1;have l:=cq.ln;have m:Cd (M+5) a:=by
  have h5:=f.lnN (n:=24) tq q0 O PL l c.tw;have:=NM c.tw (h5.mono (L:=M+5) O) O;rwa[c.mw]at this
 have W:=Zw tq q0 O l c.tR H c.tw c.mw c.ty s f c.eq;have cB:Cd K b:=(show Cd (2*M+24) b from W).mono O;have V:=Zw tq q0 O l g.tR T c.tw c.mw (YF _ _) S f v;have G:Cd K (JT b (Jb a)):=(show Cd (2*M+24) (JT b (Jb a))from V).mono O;have cS:Cd (M+6) (Jb a):=by
  obtain⟨D,d1,o,r⟩:=m;refine⟨D,d1,o.mono O,λi=>?_⟩;rw[XQ];by_cases hi:i+1<a.length
  . have h6:=(r (i+1)).mul (E:=1) (M:=1) (d:=(((i+1:Nat):Int):Rat)) ⟨((i+1:Nat):Int),by grind[AC],by unfold Sm Y;omega⟩;rwa[F8]at h6
  . grind[Yt,CD.zero]
 have U:(JT b (Jb a)).length<=25:=by
  by_cases z0:JT b (Jb a)=[]
  . rw[z0];simp
  . have e1:Ji (JT b (Jb a)) (Jm R a)=Ji a (Jb (Jm R a)):=YM (Jt _ _) (Jt _ _) λx=>by rw[Jd,Jd,v]
    have l1:=JD (YF b (Jb a)) g.tR z0 g.R0;have l2:=oq a (Jb (Jm R a));have l3:=Y8 g.R0;grind
 have c1:=z a (JT b (Jb a)) c.tw (YF _ _) (m.mono O) G O U;exact⟨c1.1,c.ty,m.mono O,cS.mono O,cB.mono O,G.mono O,c1.2,hb _ O,hb _ U⟩
end
def Sb(p w y:Ja):Nat->Ja
 |0=>p
 |n+1=>Jm (Sb p w y n) (DT w y n).1
section
variable {p q w y:Ja}
def qO(h:Yun q w y)(c:Jr q=q)(n:Nat):(DT w y (n+1)).1=Jm (DT w y n).1 (yP (DT w y n)):=by
 obtain⟨a,_⟩:=KO h c n;have b:Ju (DT w y n).1 (JT (DT w y n).2 (Jb (DT w y n).1))≠[]:=Yf a.tw (YF _ _) (An a.w0);rw[DT];unfold ME yP;exact KN b
end
theorem MG{p:Ja}(tp:Jc p=p)(p0:p≠[]):cf p (p.length-1)≠0/\p=DN (cf p (p.length-1)) (Jr p):=by
 have h:=Jp tp p0;refine⟨h,?_⟩;unfold Jr;rw[L9,show 1/cf p (p.length-1)*cf p (p.length-1)=1 by grind,Kr tp]
theorem Zx(k:Rat)(p:Ja):Jb (DN k p)=DN k (Jb p):=by
 grind[Jv,JH,KW,XQ,Yx]
theorem qP{K:Nat}{q g:Ja}(tq:Jc q=q)(q0:q≠[])(lq:q.length<=25)(cq:Cd K q)(tg:Jc g=g)(c:Jr g=g)(h:Dv g q):Cd (K+5) g:=by
 have b:=Dv.lnN (n:=24) (e:=5) tq q0 O PL cq.ln tg h;have a:=NM tg b O;rw[c]at a;exact a
def Cd.scale{A B:Nat}{p r:Ja}(hp:Cd A p)(f:Cd B r)(i:Nat):Cd (A+B) (DN (cf r i) p):=by
 obtain⟨D,d1,a,b⟩:=hp;obtain⟨E,c,d,e⟩:=f;exact⟨D*E,CG d1 c,a.mul d,λj=>by rw[Yx];exact(b j).mul (e i)⟩
structure StR(K M:Nat)(r f:Ja):Prop where
 tr:Jc r=r
 cr:Cd M r
 tf:Jc f=f
 f0:f≠[]
 mf:Jr f=f
 ca:Cd M f
 lr:(r.length+3)*(M+1)<=1000000000
 lf:(f.length+3)*(M+1)<=1000000000
 r1:r.length<=1000
 f1:f.length<=1000
 ch:M3.ChOk K f (Jm r f)
structure ReOk(K M N:Nat)(p w y:Ja):Prop where
 fr:M3.FrOk K p
 w0:pq p=w
 nN:N<=1000000000
 st:∀n,n<N->1<(DT w y n).1.length/\StR K M (Sb p w y n) (DT w y n).1/\Cd M (DT w y (n+1)).1/\Jc (DT w y (n+1)).1=(DT w y (n+1)).1/\(DT w y (n+1)).1≠[]/\Jr (DT w y (n+1)).1=(DT w y (n+1)).1/\
  Ju (DT w y n).1 (Sb p w y (n+1))=(DT w y (n+1)).1/\Jm (DT w y n).1 (DT w y (n+1)).1=yP (DT w y n)/\Jr (yP (DT w y n))=yP (DT w y n)/\
  Jc (yP (DT w y n))=yP (DT w y n)/\Cd M (yP (DT w y n))/\(yP (DT w y n)).length<=25
 en:(DT w y N).1.length<=1
section
variable {a b c d p q r w y R:Ja}
theorem DQ.shift(h:DQ a b)(f:∀x,ev b x=ev c x+ev a x*ev d x):DQ a c:=by
 obtain⟨u,v,e⟩:=h;refine⟨XI u (Ji v d),v,λx=>?_⟩;rw[Yi,Jd];grind
def DQ.left(h:DQ a (Ji b c)):DQ a b:=(h.symm.of_dv ((Dv.refl b).mul c)).symm
def DQ.right(h:DQ a (Ji b c)):DQ a c:=(h.symm.of_dv ((Dv.refl c).mul' b)).symm
theorem Zy(a:Ja):Dv [1] a:=⟨a,λx=>by simp[ev];grind⟩
theorem Zz:Jr [1]=[1]:=YM (Yp _) DK λx=>by rw[LW];simp[cf,ev];grind
theorem PN(hp:Jc p=p)(hq:Jc q=q)(h:DQ p q):Ju p q=[1]:=by
 obtain⟨a,b,_⟩:=Ye hp hq;obtain⟨u,v,e⟩:=h;exact Dv.eq (JF _ _) DK (YW hp hq) Zz (a.comb b u v λx=>by rw[<-e x];simp[ev];grind) (Zy _)
theorem Yun.part(h:Yun R w y):DQ (Ju w (JT y (Jb w))) (Jb (Ju w (JT y (Jb w))))/\DQ (Ju w (JT y (Jb w))) (Jm w (Ju w (JT y (Jb w)))):=by
 obtain⟨a,b,_⟩:=Ye h.tw (YF y (Jb w));have c:=h.step.2.2.2.2.2;obtain⟨P,e⟩:=ex (Ju w (JT y (Jb w)));rw[e]at a b c ⊢;obtain⟨w2,g⟩:=ex (Jm w P);rw[g]at c ⊢;have c1:DQ P y:=h.cop.of_dv a;obtain⟨t,f⟩:=b;have c2:DQ P (Jb w):=c1.shift (d:=t) λx=>by
  have:=f x;rw[X1]at this;grind
 have c3:DQ P (Ji (Jb P) w2):=c2.shift (d:=Jb w2) λx=>by
  grind[Ys,Jd]
 exact⟨c3.left,c3.right⟩
end
def Dk:List (Ja × Nat)->Rat->Rat
 |[],_=>1
 |a::l,x=>ev a.1 x^a.2*Dk l x
theorem PO(l m:List (Ja × Nat))(x:Rat):Dk (l++m) x=Dk l x*Dk m x:=by
 induction l with
 |nil=>simp[Dk]
 |cons a l b=>simp only[AK,Dk,b];grind
theorem qQ(a b:Rat)(n:Nat):(a*b)^n=a^n*b^n:=by
 induction n with
 |zero=>simp
 |succ n c=>grind
theorem PP(n:Nat):(1:Rat)^n=1:=by
 induction n with
 |zero=>simp
 |succ n a=>grind
section
variable {q w y:Ja}
def Z0(h:Yun q w y)(b:Jr q=q)(n:Nat):Jc (yP (DT w y n))=yP (DT w y n)/\Jr (yP (DT w y n))=yP (DT w y n)/\(DT w y n).1=Ji (yP (DT w y n)) (DT w y (n+1)).1/\
 DQ (yP (DT w y n)) (Jb (yP (DT w y n)))/\DQ (yP (DT w y n)) (DT w y (n+1)).1/\EU q w y n=Ji (DT w y n).1 (EU q w y (n+1)):=by
 have a:=(KO h b n).1;rw[qO h b n];obtain⟨_,_,_,c,_,d⟩:=a.step;obtain⟨c1,c2⟩:=a.part;exact⟨JF _ _,YW a.tw (YF _ _),d,c1,c2,c⟩
theorem Z1(h:Yun q w y)(n:Jr q=q):∀N,(∀x∈yL w y N,1<x.1.length/\1<=x.2/\x.2<=N/\DQ x.1 (Jb x.1)/\Jc x.1=x.1/\Jr x.1=x.1/\Dv x.1 q/\DQ x.1 (DT w y N).1)/\
 (yL w y N).Pairwise (λa b=>a.2<b.2/\DQ a.1 b.1):=by
 intro N;induction N with
 |zero=>exact⟨λx c=>by simp[yL]at c,by simp[yL]⟩
 |succ N e=>
  obtain⟨p,r,A,s,t,_⟩:=Z0 h n N;have o:Dv (DT w y (N+1)).1 (DT w y N).1:=⟨yP (DT w y N),λx=>by
   grind[Jd]⟩
  have g:Dv (yP (DT w y N)) (DT w y N).1:=⟨(DT w y (N+1)).1,λx=>by
   grind[Jd]⟩
  rw[yL];refine⟨λx c=>?_,?_⟩
  . rcases CW.1 c with c|c
    . obtain⟨i,j,u,k,l,m,v,f⟩:=e.1 x c;exact⟨i,j,O,k,l,m,v,(f.symm.of_dv o).symm⟩
    . split at c
      . next hl=>
        simp at c;subst c;exact⟨hl,DI,Aa _,s,p,r,g.trans (KO h n N).2.2.2,t⟩
      . simp at c
  . refine FX.2 ⟨e.2,by split<;>simp,λx c z d=>?_⟩;split at d
    . simp at d;subst d;obtain⟨i,j,u,k,l,m,_,f⟩:=e.1 x c;exact⟨by simp only;omega,(f.symm.of_dv g).symm⟩
    . simp at d
theorem qR(h:Yun q w y)(b:Jr q=q)(x:Rat):∀N,ev q x=Dk (yL w y N) x*(ev (DT w y N).1 x^N*ev (EU q w y N) x):=by
 intro N;induction N with
 |zero=>simp[yL,Dk,EU]
 |succ N o=>
  obtain⟨i,j,k,_,_,l⟩:=Z0 h b N;have d:=congrArg (λr=>ev r x) k;have f:=congrArg (λr=>ev r x) l;simp only[Jd]at d f;rw[o,yL,PO];have e:Dk (if 1<(yP (DT w y N)).length then [(yP (DT w y N),N+1)]else []) x=ev (yP (DT w y N)) x^(N+1):=by
   split
   . simp[Dk]
   . next hl=>
     have n:yP (DT w y N)=[1]:=by
      have g:yP (DT w y N)≠[]:=Yf (KO h b N).1.tw (YF _ _) (An (KO h b N).1.w0);have a:=PM i g j;have:=Ag.2 g;generalize yP (DT w y N)=P at *;match P,hl,this,a with
      |[c],_,_,a=>simp[cf]at a;rw[a]
      |_::_::_,hl,_,_=>exact absurd DI hl
     rw[n];have m:ev [1] x=1:=by simp[ev];grind
     rw[m,PP];rfl
  rw[e,f];have hp:(ev (DT w y N).1 x)^(N+1)=ev (yP (DT w y N)) x^(N+1)*ev (DT w y (N+1)).1 x^(N+1):=by rw[d,qQ]
  rw[AO]at hp;grind
theorem Z2{a:Ja}(ta:Jc a=a)(ma:Jr a=a)(a0:a≠[])(hl:a.length<=1):a=[1]:=by
 have b:=PM ta a0 ma;have:=Ag.2 a0;match a,hl,this,b with
 |[c],_,_,b=>grind[cf]
theorem qS(h:Yun q w y)(b:Jr q=q):∀N,(∀n,n<N->1<(DT w y n).1.length)->(EU q w y N).length+N<=q.length:=by
 intro N;induction N with
 |zero=>intro _;exact Aa _
 |succ N a=>
  intro hn;grind[Sa]
theorem Z3(h:Yun q w y)(b:Jr q=q){N:Nat}(hn:∀n,n<N->1<(DT w y n).1.length)(d:(DT w y N).1.length<=1):N+1<=q.length/\∀x,ev q x=Dk (yL w y N) x:=by
 obtain⟨a,_,e,_⟩:=KO h b N;have g:=Z2 a.tw a.mw a.w0 d;have f:EU q w y N=[1]:=by
  have c:Dv (EU q w y N) (Jb (EU q w y N)):=⟨(DT w y N).2,λx=>by
   have:=a.eq x;grind[ev]⟩
  exact Dv.eq a.tR DK e Zz (NP a.tR a.R0 c) (Zy _)
 have hl:=qS h b N hn;grind[ev,qR,PP]
end
variable{u:Ja}{B e k s x z:Rat}{U:Rat->Prop}
theorem Sc{c:Rat}(h:c≠0):0<Yu c:=by
 unfold Yu;split<;>grind
theorem qT{c:Rat}(h:0<c):∀n:Nat,0<c^n:=by
 intro n;induction n with
 |zero=>grind
 |succ n a=>rw[AO];exact Ac a h
def qU{p q:Ja}(hq:Jc q=q)(a:q≠[]):0<Ek p q:=qT (Sc (Jp hq a)) _
theorem Sd{a b:Ja}(tb:Jc b=b)(b0:b≠[]):∃(q:Ja) (c:Rat),0<c/\∀x,Ek a b*ev a x=ev q x*ev b x-c*ev (X6 a b) x:=by
 obtain⟨k,d,hk⟩:=Xg (p:=J5 (XW a b) b) (Yn _);refine⟨Jm (XW a b) b,1/k,Ym DK d,λx=>?_⟩;have e:=(Xb (XW a b) b tb b0).1 x;grind[ev,XW,Jo,X6,X1]
def chnL_head(a b:Ja):∃t,ET a b=a::t:=by
 unfold ET;cases b.length with
 |zero=>exact⟨_,J⟩
 |succ n=>
  unfold Gf;split
  . exact⟨_,J⟩
  . exact⟨_,J⟩
theorem qV{a:Ja}(ta:Jc a=a)(a0:a≠[])(x:Rat):ev (Jm a a) x=1:=by
 have h:=Xa (u:=Jm a a) (v:=[1]) ta a0 (λx=>by
  rw[<-(JK ta a0 (Dv.refl a)).2 x,Jq];grind) x
 rwa[Jq]at h
theorem NZ:∀(n:Nat) (a b:Ja),b.length<=n->Jc a=a->Jc b=b->a≠[]->∃g,(ET a b).getLast?=some g/\Jc g=g/\g≠[]/\Dv g a/\Dv g b/\(∀d,Dv d a->Dv d b->Dv d g)/\StC ((ET a b).map λp=>Jm p g):=by
 intro n;induction n with
 |zero=>
  intro a b hn ta _ a0
  have:b=[]:=Aq.1 O
  subst this;exact⟨a,J,ta,a0,Dv.refl a,Dv.zero a,λ_ h _=>h,StC.one (c:=1) DK λx=>qV ta a0 x⟩
 |succ n w=>
  intro a b hn ta tb a0;by_cases b0:b=[]
  . grind
  . have hl:=Xv (a:=a) tb b0;obtain⟨g,G,tg,g0,f,k,m,e⟩:=w b (X6 a b) O tb (KL _ _) b0;obtain⟨q,c,c0,H⟩:=Sd (a:=a) tb b0;have w0:=qU (p:=a) tb b0;have y:1/Ek a b*Ek a b=1:=Ar DH;have z:1/c*c=1:=Ar DH;have i:Dv g a:=f.comb k (Ji [1/Ek a b] q) [-(1/Ek a b*c)] λx=>by
     grind[Jd,ev]
    refine⟨g,?_,tg,g0,i,f,λd d1 j=>m d j (j.comb d1 (Ji [1/c] q) [-(1/c*Ek a b)] λx=>?_),?_⟩
    . grind[XR]
    . grind[Jd,ev]
    . rw[XR tb b0];by_cases l:X6 a b=[]
      . rw[l,LX]at e ⊢;obtain⟨_,o,r⟩:=e.o;exact StC.two o r
      . obtain⟨t,s⟩:=chnL_head (X6 a b) (X6 b (X6 a b));rw[XR (KL _ _) l,s]at e ⊢;have A:=(JK tg g0 i).2;have B:=(JK tg g0 f).2;have D:=(JK tg g0 k).2;refine StC.more (q:=q) w0 c0 (λx=>?_) e;have:=Xa (u:=Ji [Ek a b] (Jm a g)) (v:=JT (Ji q (Jm b g)) (Ji [c] (Jm (X6 a b) g))) tg g0 (λx=>by
         grind[Jd,X1,Jq]) x
        grind[Jd,X1,Jq]
theorem Se:∀(n:Nat) (R w y:Ja),R.length<=n->Yun R w y->DQ w (Jb w):=by
 intro n;induction n with
 |zero=>intro R w y hn h;exact absurd (Aq.1 O) h.R0
 |succ n m=>
  intro R w y hn h;by_cases hl:w.length<=1
  . obtain⟨c,p⟩:=MC h.tw h.w0 hl;refine⟨c,[],λx=>?_⟩;grind[ev]
  . obtain⟨p1,e⟩:=h.part;obtain⟨_,_,b,i,_,f⟩:=h.step;obtain⟨a,k⟩:=ex (Ju w (JT y (Jb w)));rw[k]at p1 e b f;obtain⟨w2,l⟩:=ex (Jm w a);rw[l]at e b f;have o:(Jm R w).length<=n:=by
     have:=JD h.tw b.tR h.w0 b.R0;rw[<-i]at this;omega
    have j:=m _ _ _ o b;have g:∀x,ev (Jb w) x=ev (Jb a) x*ev w2 x+ev a x*ev (Jb w2) x:=λx=>by
     grind[Ys]
    have c1:DQ a (Jb w):=(p1.mul e).shift (d:=Ji [-1] (Jb w2)) λx=>by
     rw[Jd,Jd,Jq,g];grind
    have c2:DQ w2 (Jb w):=(e.symm.mul j).shift (d:=Ji [-1] (Jb a)) λx=>by
     rw[Jd,Jd,Jq,g];grind
    have c3:=(c1.symm.mul c2.symm).symm;rwa[<-f]at c3
theorem Z4(c:Rat)(p:Ja)(x:Rat):ev (Jb (DN c p)) x=c*ev (Jb p) x:=by
 rw[I5,I5];unfold DN;rw[Tj (Yv _),Tk,Ch]
def Js(p:Ja):List Ja:=(Xk p (Jb p)).map λa=>Jm a ((Xk p (Jb p)).getLast?.getD [])
def DL(p:Ja):Ja:=Jm (Jr p) (Ju (Jr p) (Jb (Jr p)))
def El(p:Ja):Ja:=Jm (Jb (Jr p)) (Ju (Jr p) (Jb (Jr p)))
theorem qW{p:Ja}(tp:Jc p=p)(p0:p≠[]):StC (Js p)/\∃f l k,Js p=f::l/\k≠0/\(∀x,ev f x=k*ev (DL p) x)/\∀f1 l1,l=f1::l1->∃B,0<k*B/\∀x,ev f1 x=B*ev (El p) x:=by
 have ts:=Jv p;obtain⟨α,α0,hα⟩:=Xg tp;obtain⟨β,β0,hβ⟩:=Xg ts;obtain⟨Q,A⟩:=MG tp p0;obtain⟨b,hl⟩:=ex (cf p (p.length-1));rw[hl]at Q A;have tR:=Yp p;have R0:=LU tp p0;obtain⟨R,z⟩:=ex (Jr p);rw[z]at A tR R0;have o:=Jv R;have a0:Jn p≠[]:=λe=>p0 (Aq.1 (by rw[<-JL tp,e];rfl));have I:∀x,ev (Jn p) x=α*b*ev R x:=λx=>by
  grind[Jo]
 have K:∀x,ev (Jn (Jb p)) x=β*b*ev (Jb R) x:=λx=>by
  grind[Jo,Z4]
 obtain⟨g,L,tg,g0,w,y,M,N⟩:=NZ _ (Jn p) (Jn (Jb p)) (Aa _) (J0 _) (J0 _) a0;obtain⟨q,r,_⟩:=Ye tR o;have i:=JF R (Jb R);have j:=Yf tR o (An R0);have U:=(JK i j q).2;have V:=(JK i j r).2;have D:Dv (Ju R (Jb R)) g:=M _ (by
  obtain⟨c,d⟩:=q;exact⟨DN (α*b) c,λx=>by rw[I,d,Jo];grind⟩) (by obtain⟨c,d⟩:=r;exact⟨DN (β*b) c,λx=>by rw[K,d,Jo];grind⟩)
 have i1:∀ {k:Rat},0<k->1/(k*b)*(k*b)=1:=λhk=>Ar (by
  grind)
 have G:Dv g (Ju R (Jb R)):=Kt tR o (by
  obtain⟨c,d⟩:=w;refine⟨DN (1/(α*b)) c,λx=>?_⟩;grind[Jo]) (by obtain⟨c,d⟩:=y;refine⟨DN (1/(β*b)) c,λx=>?_⟩;grind[Jo])
 obtain⟨m,S,P⟩:=Dv.anti i tg D G;have T:∀x,ev g x=m*ev (Ju R (Jb R)) x:=λx=>by rw[P,Jo];grind
 have im:1/m*m=1:=Ar S;have qa:=(JK tg g0 w).2;have qb:=(JK tg g0 y).2;have s:Js p=(ET (Jn p) (Jn (Jb p))).map λa=>Jm a g:=by
  unfold Js Xk;rw[L];rfl
 refine⟨by rw[s];exact N,?_⟩;obtain⟨t,n⟩:=chnL_head (Jn p) (Jn (Jb p));unfold DL El;rw[z];refine⟨Jm (Jn p) g,t.map λa=>Jm a g,1/m*(α*b),by rw[s,n];rfl,?_,λx=>?_,λf1 l1 W=>⟨1/m*(β*b),?_,λx=>?_⟩⟩
 . grind
 . have:=Xa (u:=Jm (Jn p) g) (v:=DN (1/m*(α*b)) (Jm R (Ju R (Jb R)))) i j (λx=>by
    grind[Jo]) x
   rw[this,Jo];grind
 . have H:1/m*(α*b)*(1/m*(β*b))=(1/m*b)*(1/m*b)*(α*β):=DH
   rw[H];refine Ac ?_ (Ac α0 β0);have c0:1/m*b≠0:=λe=>by
    grind
   have:=XO (f:=[1/m*b]) c0 (λx=>Jq _ x) 0 0;unfold Stb at this;rwa[Jq]at this
 . have hb:f1=Jm (Jn (Jb p)) g:=by
    by_cases b0:Jn (Jb p)=[]
    . grind[LX]
    . rw[XR (J0 _) b0]at n;injection n with _ n
      obtain⟨t2,X⟩:=chnL_head (Jn (Jb p)) (X6 (Jn p) (Jn (Jb p)));grind
   rw[hb];have:=Xa (u:=Jm (Jn (Jb p)) g) (v:=DN (1/m*(β*b)) (Jm (Jb R) (Ju R (Jb R)))) i j (λx=>by
    grind[Jo]) x
   rw[this,Jo];grind
def Yy(b:Ja):Ja:=DN (1/Yu (cf b (b.length-1))) b
def Eb:Nat->Ja->Ja->List Ja
 |0,a,_=>[a]
 |n+1,a,b=>if b=[]then [a]else a::Eb n (Yy b) (DN (-1) (J5 a (Yy b)))
def Na(n:Nat)(a b:Ja):∃t,Eb n a b=a::t:=by
 cases n with
 |zero=>exact⟨_,J⟩
 |succ n=>
  unfold Eb;split
  . exact⟨_,J⟩
  . exact⟨_,J⟩
def LY{b:Ja}(tb:Jc b=b)(b0:b≠[]):0<1/Yu (cf b (b.length-1)):=Ym DK (Sc (Jp tb b0))
theorem MH{b:Ja}{c:Rat}(a:c≠0)(tb:Jc b=b):(DN c b).length=b.length:=by
 have e:DN (1/c) (DN c b)=b:=by rw[L9,Ch,Ar a,Kr tb]
 grind[DN,YA,XT]
theorem Z6{a:Ja}(ta:Jc a=a)(h:DQ a []):∃c,c≠0/\∀x,ev a x=c:=by
 obtain⟨u,v,b⟩:=h;have d:Dv a [1]:=⟨u,λx=>by rw[Jq,<-b x];simp[ev];grind⟩;have f:=(d.len ta DK DK).1;have a0:a≠[]:=λe=>by
  have:=b 0;rw[e]at this;simp[ev]at this;grind
 match a,a0,f with
 |[c],_,_=>
  refine⟨c,λe=>?_,λx=>Jq c x⟩;have:=b 0;rw[e]at this;simp[ev]at this;grind
theorem Z7:∀(n:Nat) (a b:Ja),b.length<=n->Jc a=a->Jc b=b->DQ a b->StC (Eb n a b):=by
 intro n;induction n with
 |zero=>
  intro a b hn ta _ d
  have:b=[]:=Aq.1 O
  subst this;obtain⟨c,c0,f⟩:=Z6 ta d;exact StC.one c0 f
 |succ n m=>
  intro a b hn ta tb d;by_cases b0:b=[]
  . subst b0;obtain⟨c,c0,f⟩:=Z6 ta d;rw[Eb,BF J];exact StC.one c0 f
  . rw[Eb,BE b0];have B:=LY tb b0;have lb:(Yy b).length=b.length:=MH DH tb;have g:Jc (Yy b)=Yy b:=JH _ _;have i:Yy b≠[]:=λe=>b0 (Aq.1 (by rw[<-lb,e];rfl));obtain⟨z,sl⟩:=Xb a (Yy b) g i;have tr:Jc (J5 a (Yy b))=J5 a (Yy b):=Yn _;have es:∀x,ev (Yy b) x=ev b x*(1/Yu (cf b (b.length-1))):=λx=>Jo _ _ _;have j:DQ (Yy b) (DN (-1) (J5 a (Yy b))):=by
     obtain⟨u,v,l⟩:=d;have o:Yu (cf b (b.length-1))*(1/Yu (cf b (b.length-1)))=1:=by
      rw[Ch];exact Ar DH
     refine⟨XI (Ji u (Jm a (Yy b))) (Ji [Yu (cf b (b.length-1))] v),Ji [-1] u,λx=>?_⟩;rw[Yi,Jd,Jd,Jd,Jq,Jq,Jo];have p:=l x;have r:=z x;have s:=es x;have w:ev b x=Yu (cf b (b.length-1))*ev (Yy b) x:=by
      rw[s,Ch,Rat.mul_assoc,Ch (1/_),o,Rat.mul_one]
     rw[w,r]at p;grind
    have hi:=m (Yy b) (DN (-1) (J5 a (Yy b))) (by rw[MH DK tr];omega) g (JH _ _) j;by_cases r0:DN (-1) (J5 a (Yy b))=[]
    . rw[r0]at hi ⊢;have e:Eb n (Yy b) []=[Yy b]:=by cases n<;>rfl
      rw[e]at hi ⊢;obtain⟨_,d,f⟩:=hi.o;exact StC.two d f
    . have A:=JH (-1) (J5 a (Yy b));cases n with
      |zero=>
       grind[MH]
      |succ n=>
       obtain⟨t,k⟩:=Na n (Yy (DN (-1) (J5 a (Yy b)))) (DN (-1) (J5 (Yy b) (Yy (DN (-1) (J5 a (Yy b))))));rw[Eb,BE r0,k]at hi ⊢;have y:=Sc (Jp A r0);refine StC.more (q:=Jm a (Yy b)) (a:=1) (c:=Yu (cf (DN (-1) (J5 a (Yy b))) ((DN (-1) (J5 a (Yy b))).length-1))) DK y (λx=>?_) hi;grind[Yy,Jo]
def EZ(p:Ja):List Ja:=Eb (Jb (DL p)).length (DL p) (Jb (DL p))
theorem LZ{p:Ja}(tp:Jc p=p)(p0:p≠[]){a b:Rat}(u:a<=b):DM (JE (Js p) a)+DM (JE (EZ p) b)=DM (JE (Js p) b)+DM (JE (EZ p) a):=by
 obtain⟨hs,f,l,k,w,N,v,s⟩:=qW tp p0;have d:=Yun.start (Yp p) (LU tp p0) (Ks tp);have d:Yun (Jr p) (DL p) (El p):=d;have M:=Se _ _ _ _ (Aa _) d;have K:=Z7 _ (DL p) (Jb (DL p)) (Aa _) d.tw (Jv _) M;obtain⟨A,P,hA⟩:=JI a;obtain⟨C,Q,hC⟩:=JI b;have g:0<=A+C:=DH
 obtain⟨e,R,sg⟩:=SN _ _ _ _ (Aa _) d g;refine glue (B:=A+C) (F:=λx=>DM (JE (Js p) x)) (G:=λx=>DM (JE (EZ p) x)) ?_ (hA.mono DH) (hC.mono DH) u;refine(((hs.gd g).and (K.gd g)).and sg).mono λx y _ _ _ i=>?_;have d1:=i.1.1;have j:=i.1.2;have r:=i.2;obtain⟨m,c⟩:=Na (Jb (DL p)).length (DL p) (Jb (DL p));show DM (JE (Js p) x)+DM (JE (EZ p) y)=DM (JE (Js p) y)+DM (JE (EZ p) x);unfold EZ;rw[w]at d1 ⊢;rw[c]at j ⊢;refine d1.both j N v λhn f1 l1 o U hl H=>?_;obtain⟨T,kk,D⟩:=s f1 l1 hl;obtain⟨V,W⟩:=r hn;by_cases w0:Jb (DL p)=[]
 . grind[Eb]
 . obtain⟨n,I⟩:∃n,(Jb (DL p)).length=n+1:=⟨_,(Nat.succ_pred_eq_of_pos (Ag.2 w0)).symm⟩;rw[I,Eb,BE w0]at c;injection c with _ c
   obtain⟨t,L⟩:=Na n (Yy (Jb (DL p))) (DN (-1) (J5 (DL p) (Yy (Jb (DL p)))));rw[L,H]at c;injection c with hg _
   have sp:=LY (Jv (DL p)) w0;have q:∀z,ev o z=ev (Jb (DL p)) z*(1/Yu (cf (Jb (DL p)) ((Jb (DL p)).length-1))):=λz=>by rw[<-hg];exact Jo _ _ _
   have fin:∀z,e<=ev (El p) z*ev (Jb (DL p)) z->0<k*ev f1 z*ev o z:=λz S=>by
    rw[D,q];have:=Ac (Ac kk sp) (show 0<ev (El p) z*ev (Jb (DL p)) z by grind);grind
   grind
def Nb(l:List Ja):Prop:=∀p∈l,Jc p=p/\p≠[]
def Em(l:List Ja):Ja:=l.map λp=>cf p (p.length-1)
def D7(l:List Ja):Ja:=l.map λp=>(-1)^(p.length-1)*cf p (p.length-1)
theorem YI{l:List Ja}(h:Nb l):∃B,0<B/\(∀x,B<=x->DM (JE l x)=DM (Em l))/\∀x,x<=-B->DM (JE l x)=DM (D7 l):=by
 have key:∃B,0<B/\(∀x,B<=x->∀p∈l,0<ev p x*cf p (p.length-1))/\∀x,x<=-B->∀p∈l,0<ev p x*((-1)^(p.length-1)*cf p (p.length-1)):=by
  induction l with
  |nil=>exact⟨1,DK,(λ_ _ _ hp=>absurd hp (List.not_mem_nil)),(λ_ _ _ hp=>absurd hp (List.not_mem_nil))⟩
  |cons p l e=>
   obtain⟨B,a,b,c⟩:=e λq hq=>h q (AP _ hq);obtain⟨tp,p0⟩:=h p (Au);grind[QB,Tv,Ch]
 obtain⟨B,a,b,c⟩:=key;refine⟨B,a,λx d=>?_,λx d=>?_⟩
 . refine Tw _ _ 0 0 (by simp[JE,Em]) (λi f g=>?_) (Ap ⟨J,J⟩);grind[JE,Em]
 . refine Tw _ _ 0 0 (by simp[JE,D7]) (λi f g=>?_) (Ap ⟨J,J⟩);grind[JE,D7]
theorem qX:∀(n:Nat) (a b g:Ja),b.length<=n->Jc a=a->Jc b=b->a≠[]->Dv g a->Dv g b->Jc g=g->g≠[]->Nb ((ET a b).map λp=>Jm p g):=by
 intro n;induction n with
 |zero=>
  intro a b g hn ta tb a0 d f tg g0
  have:b=[]:=Aq.1 O
  subst this;intro p hp;rw[LX]at hp;rcases Fj.1 hp with⟨q,hq,rfl⟩
  have:q=a:=by simpa using hq
  subst this;exact⟨YE _ _,λe=>a0 (XJ ta λx=>by rw[(JK tg g0 d).2,e];simp[ev])⟩
 |succ n k=>
  intro a b g hn ta tb a0 d f tg g0;have j:Jc (Jm a g)=Jm a g/\Jm a g≠[]:=⟨YE _ _,λe=>a0 (XJ ta λx=>by rw[(JK tg g0 d).2,e];simp[ev])⟩;by_cases b0:b=[]
  . grind
  . have hl:=Xv (a:=a) tb b0;obtain⟨q,c,c0,m⟩:=Sd (a:=a) tb b0;have l:1/c*c=1:=Ar DH;have i:Dv g (X6 a b):=f.comb d (Ji [1/c] q) [-(1/c*Ek a b)] λx=>by
     grind[Jd,ev]
    have hi:=k b (X6 a b) g O tb (KL _ _) b0 f i tg g0;rw[XR tb b0];intro p hp;rcases FI.1 hp with rfl|hp
    . exact j
    . exact hi p hp
def J3{p:Ja}(tp:Jc p=p)(p0:p≠[]):Nb (Js p):=by
 have a0:Jn p≠[]:=λe=>p0 (Aq.1 (by rw[<-JL tp,e];rfl));obtain⟨g,c,tg,g0,d,f,_,_⟩:=NZ _ (Jn p) (Jn (Jb p)) (Aa _) (J0 _) (J0 _) a0;have b:Js p=(ET (Jn p) (Jn (Jb p))).map λa=>Jm a g:=by
  unfold Js Xk;rw[c];rfl
 rw[b];exact qX _ _ _ g (Aa _) (J0 _) (J0 _) a0 d f tg g0
theorem qY:∀(n:Nat) (a b:Ja),Jc a=a->Jc b=b->a≠[]->Nb (Eb n a b):=by
 intro n;induction n with
 |zero=>
  intro a b ta _ a0 p hp;grind[Eb]
 |succ n c=>
  intro a b ta tb a0 p hp;by_cases b0:b=[]
  . grind[Eb]
  . rw[Eb,BE b0]at hp;rcases FI.1 hp with rfl|hp
    . exact⟨ta,a0⟩
    . have d:=LY tb b0;have lb:(Yy b).length=b.length:=MH DH tb;exact c _ _ (JH _ _) (JH _ _) (λe=>b0 (Aq.1 (by rw[<-lb];show(DN _ b).length=0;rw[e];rfl))) p hp
def qZ{p:Ja}(tp:Jc p=p)(p0:p≠[]):Nb (EZ p):=by
 have a:Yun (Jr p) (DL p) (El p):=Yun.start (Yp p) (LU tp p0) (Ks tp);exact qY _ _ _ a.tw (Jv _) a.w0
theorem qe(p:Ja)(a:0<=B):∃K,0<K/\∀x y,Wi B x->Wi B y->x<=y->Wi (K*((y-x)*(y-x))) (ev p y-ev p x-(y-x)*dv p x):=by
 induction p with
 |nil=>exact⟨1,DK,λx y _ _ _=>by
  have:=Xr (y-x);constructor<;>simp[ev,dv]<;>grind⟩
 |cons c t m=>
  obtain⟨K,j,h⟩:=m;obtain⟨D,hD,k⟩:=X2 (Jb t) a;refine⟨B*K+D+1,by have:=Ah a (Ad j);grind,λx y d f l=>?_⟩;have n:=Xr (y-x);have g:Wi ((y-x)*(y-x)) ((y-x)*(y-x)):=⟨DH,DH⟩;have b:=k x d;rw[I5]at b;have i:=(f.mul (h x y d f l)).add (g.mul b);have e:ev (c::t) y-ev (c::t) x-(y-x)*dv (c::t) x=y*(ev t y-ev t x-(y-x)*dv t x)+(y-x)*(y-x)*dv t x:=by
   rw[Iq,Iq,show dv (c::t) x=ev t x+x*dv t x from J];grind
  rw[e];refine i.mono ?_;grind
def J1(p:Ja)(x y:Rat):Nat:=if ev p x≠0/\ev p x*ev p y<=0 then 1 else 0
theorem KP{p:Ja}{y:Rat}(h:Stb p x y):J1 p x y=0:=by
 unfold J1 Stb at *;grind
theorem rise_of{w y:Ja}(i:0<=B)(f:0<k)(s:Sh B λx z=>¬Stb w x z->k<=ev y x*ev (Jb w) x/\k<=ev y z*ev (Jb w) z):Sh B λx z=>¬Stb w x z->x<z->0<ev (Jb w) x*(ev w z-ev w x):=by
 obtain⟨c,n,I⟩:=X2 y i;obtain⟨D,R,hD⟩:=X2 (Jb w) i;obtain⟨K,S,H⟩:=qe w i;obtain⟨e,o,L⟩:=small (K:=(c*c)*(D*K)) (r:=k*k/2) (Ad (Ac (Ac n n) (Ac R S))) (by have:=Ac f f;grind);have T:Sh B λx z=>z-x<=e:=⟨e,o,λ_ _ _ _ _ h=>h⟩;refine(s.and T).mono λx z j P N ⟨p,l⟩ hn ae=>?_;obtain⟨U,_⟩:=p hn;have g:=H x z j P N;rw[<-I5]at g;have A:=I x j;have G:=hD x j;generalize ev (Jb w) x=d at *;generalize ev y x=v at *;generalize ev w z-ev w x=t at *;obtain⟨u,M⟩:=ex (z-x);rw[M]at l g;have u0:0<u:=DH
 have V:k*k<=(c*c)*(d*d):=by
  have m:=Ah (a:=v*d-k) (b:=v*d+k) DH DH;have Q:=Ah (a:=c*c-v*v) (b:=d*d) (by have:=MX A;grind) (Xr d);grind
 have W:u*(d*d)-(D*K)*(u*u)<=d*t:=by
  have m:=(G.mul g).1;grind
 have X:=L u l;have hp:0<(c*c)*(d*t):=by
  have m:=Ah (a:=c*c) (b:=d*t-(u*(d*d)-(D*K)*(u*u))) (Xr c) DH;have Q:=Ah (a:=u) (b:=(c*c)*(d*d)-k*k) DH DH;have i3:=Ah (a:=u) (b:=k*k/2-(c*c)*(D*K)*u) DH DH;have i4:=Ac u0 (Ac f f);grind
 rcases JU (d*t) 0 with q|q
 . have:=Ah (a:=c*c) (b:=-(d*t)) (Xr c) DH;grind
 . rcases Aj.1 q with q|q
   . exact q
   . rw[<-q]at hp;grind
def Z8{R w y:Ja}(h:Yun R w y)(a:0<=B):Sh B λx z=>¬Stb w x z->x<z->0<ev (Jb w) x*(ev w z-ev w x):=by
 obtain⟨k,b,s⟩:=SN _ _ _ _ (Aa _) h a;exact rise_of a b s
theorem Xn{a b:Rat}(h:0<(a*a)*b):0<b:=by
 rcases JU b 0 with q|q
 . have:=Ah (a:=a*a) (b:=-b) (Xr a) DH;grind
 . rcases Aj.1 q with q|q
   . exact q
   . rw[<-q]at h;grind
theorem qf{a b u v:Rat}(c:0<a*(v-u))(d:0<b*(v-u))(e:u*v<=0):
 (if u*a<0 then 1 else 0)=(if v*b<0 then 1 else 0)+(if u≠0/\u*v<=0 then 1 else 0:Nat):=by
 by_cases u0:u=0
 . subst u0;grind
 . have f:u*a<0:=by
    rcases JU 0 (u*a)with q|q
    . exfalso
      have a0:=(JB c).1;have q:0<u*a:=by
       rcases Aj.1 q with q|q
       . exact q
       . grind
      have:=Ac q (show 0<v*a by grind);have:=Xn (a:=a) (b:=u*v) DH;grind
    . grind[CL]
   have g:¬v*b<0:=λq=>by
    have:=Ac (a:=-(v*b)) (b:=-(u*b)) DH DH;have:=Xn (a:=b) (b:=u*v) DH;grind
   grind
theorem qg{w b f1:Ja}{n:Nat}{c:List Ja}(a:Eb n w b=w::f1::c):b≠[]/\f1=Yy b:=by
 cases n with
 |zero=>
  have d:[w]=w::f1::c:=a;grind
 |succ n=>
  by_cases w0:b=[]
  . grind[Eb]
  . rw[Eb,BE w0]at a;have d:=(List.cons.inj a).2;obtain⟨t,e⟩:=Na n (Yy b) (DN (-1) (J5 w (Yy b)));grind
theorem Xi{p:Ja}(tp:Jc p=p)(p0:p≠[])(i:0<=B):Sh B λx z=>DM (JE (EZ p) x)=DM (JE (EZ p) z)+J1 (DL p) x z:=by
 have d:Yun (Jr p) (DL p) (El p):=Yun.start (Yp p) (LU tp p0) (Ks tp);have k:=Se _ _ _ _ (Aa _) d;have j:=Z7 _ (DL p) (Jb (DL p)) (Aa _) d.tw (Jv _) k;refine((j.gd i).and (Z8 d i)).mono λx z _ _ q ⟨b,hs⟩=>?_;show DM (JE (EZ p) x)=DM (JE (EZ p) z)+J1 (DL p) x z;obtain⟨m,f⟩:=Na (Jb (DL p)).length (DL p) (Jb (DL p));unfold EZ;rw[f]at b ⊢;by_cases st:Stb (DL p) x z
 . rw[KP st,b.stay st];rfl
 . cases m with
   |nil=>exact absurd b.o st
   |cons f1 r=>
    obtain⟨w0,hg⟩:=qg f;have sp:=LY (Jv (DL p)) w0;obtain⟨c,e⟩:∃c,1/Yu (cf (Jb (DL p)) ((Jb (DL p)).length-1))=c:=⟨_,J⟩;rw[e]at sp;have l:ev f1 x=ev (Jb (DL p)) x*c:=by rw[hg,<-e];exact Jo _ _ _
    have g:=(b.adj).resolve_left st;obtain⟨s,t⟩:=JB g;have sm:=b.tail.same _ r f1 (Aa _) g;rw[JW,JW,JW,JW,KZ s,KZ t,sm];clear sm f j k d b hg e w0;have w:ev (DL p) x*ev (DL p) z<=0:=CN.1 st;rcases Aj.1 q with o|v
    . have n:0<ev f1 x*(ev (DL p) z-ev (DL p) x):=by
       rw[l];have:=Ac (hs st o) sp;grind
      have u:0<ev f1 z*(ev (DL p) z-ev (DL p) x):=Xn (a:=ev f1 x) (by
       have:=Ac (show 0<ev f1 x*ev f1 z from g) n;grind)
      grind[qf,J1]
    grind[Xr,Rat.le_antisymm,J1]
theorem qh{F:Rat->Nat}(h:Sh B λx y=>F y<=F x){a b:Rat}(c:Wi B a)(hb:Wi B b)(e:a<=b):F b<=F a:=by
 obtain⟨d,d0,h⟩:=h;obtain⟨n,hn⟩:=steps d0 a b
 have:∀(n:Nat) (a:Rat),Wi B a->a<=b->b-a<=(n:Rat)*d->F b<=F a:=by
  intro n;induction n with
  |zero=>
   intro a c e f;grind
  |succ n k=>
   intro a c e f;have i:((n+1:Nat):Rat)=(n:Rat)+1:=by rw[Rat.natCast_add];rfl
   rw[i]at f;rcases JU (b-a) d with g|g
   . exact h a b c hb e g
   . have j:Wi B (a+d):=⟨by have:=c.1;grind,by have:=hb.2;grind⟩;grind
 exact this n a c e hn
def qi{p:Ja}(tp:Jc p=p)(p0:p≠[]){a b:Rat}(c:a<=b):DM (JE (EZ p) b)<=DM (JE (EZ p) a):=by
 obtain⟨A,d,hA⟩:=JI a;obtain⟨C,e,hC⟩:=JI b;refine qh (B:=A+C) (F:=λx=>DM (JE (EZ p) x)) ?_ (hA.mono DH) (hC.mono DH) c;refine(Xi tp p0 (B:=A+C) DH).mono λx y _ _ _ h=>?_;omega
def Sf{p:Ja}(tp:Jc p=p)(p0:p≠[]){a b:Rat}(c:a<=b):DM (JE (Js p) b)<=DM (JE (Js p) a):=by
 have d:=LZ tp p0 c;have e:=qi tp p0 c;omega
theorem Z9{p:Ja}(tp:Jc p=p)(p0:p≠[])(x:Rat):DM (JE (Js p) x)<=DM (D7 (Js p)):=by
 obtain⟨B,d,_,c⟩:=YI (J3 tp p0);obtain⟨X,e,hX⟩:=JI x;have:=Sf tp p0 (a:=-(B+X)) (b:=x) (by have:=hX.1;clear c;grind);grind
theorem aA{p:Ja}(tp:Jc p=p)(p0:p≠[])(x:Rat):DM (Em (Js p))<=DM (JE (Js p) x):=by
 obtain⟨B,d,c,_⟩:=YI (J3 tp p0);obtain⟨X,e,hX⟩:=JI x;have:=Sf tp p0 (a:=x) (b:=B+X) (by have:=hX.2;clear c;grind);grind
theorem Nc{v:Ja}(h:DQ u v)(i:0<=B):Sh B λx z=>J1 (Ji u v) x z=J1 u x z+J1 v x z:=by
 obtain⟨s,t,p⟩:=h;obtain⟨S,k,o⟩:=X2 s i;obtain⟨T,l,hT⟩:=X2 t i;have d:∀ {r K:Rat},0<K->K*(r/K)=r:=λA=>by grind
 refine((Xq u i (Ym IK k)).and (Xq v i (Ym IK l))).mono λx z j _ _ ⟨m,n⟩=>?_;have e:∀y,ev (Ji u v) y=ev u y*ev v y:=λy=>Jd _ _ _;by_cases g:Stb u x z
 . by_cases c:Stb v x z
   . have:Stb (Ji u v) x z:=by
      unfold Stb at *;rw[e,e];have:=Ac g c;grind
     rw[KP this,KP g,KP c]
   . rw[KP g,A7];unfold J1 Stb at *;rw[e,e];obtain⟨u1,u2⟩:=JB g;by_cases q:ev v x≠0/\ev v x*ev v z<=0
     . rw[BF q,BF ⟨λf=>by grind,by have:=Ah (a:=ev u x*ev u z) (b:=-(ev v x*ev v z)) DH DH;grind⟩]
     grind
 . have c:Stb v x z:=A3 λc=>by
    have D:=Ls (p x) (o x j) (m g).1 (by rw[d k];exact At);have w:=((hT x j).mul (n c).1).2;rw[d l]at w;grind
   rw[KP c,Cr];unfold J1 Stb at *;rw[e,e];obtain⟨u1,u2⟩:=JB c;by_cases q:ev u x≠0/\ev u x*ev u z<=0
   . rw[BF q,BF ⟨λf=>by grind,by have:=Ah (a:=ev v x*ev v z) (b:=-(ev u x*ev u z)) DH DH;grind⟩]
   grind
theorem DQ.of_unit{a:Ja}(h:Dv a [1])(c:Ja):DQ a c:=by
 obtain⟨d,b⟩:=h;refine⟨d,[],λx=>?_⟩;grind[ev]
def DQ.mul_left{a b c:Ja}(h:DQ a c)(d:DQ b c):DQ (Ji a b) c:=(h.symm.mul d.symm).symm
def DQ.of_dv2{a b d:Ja}(h:DQ a b)(c:Dv d b):DQ a d:=(h.symm.of_dv c).symm
theorem qj:∀(n:Nat) (R w y:Ja),R.length<=n->Yun R w y->∀c,DQ w c->DQ R c:=by
 intro n;induction n with
 |zero=>intro R w y hn h;exact absurd (Aq.1 O) h.R0
 |succ n i=>
  intro R w y hn h c e;by_cases hl:w.length<=1
  . obtain⟨d,m⟩:=MC h.tw h.w0 hl;refine DQ.of_unit (NP h.tR h.R0 ⟨Ji d y,λx=>?_⟩) c;have l:=h.eq x;grind[Jd,ev]
  . obtain⟨_,_,a,b,_,k⟩:=h.step;have j:(Jm R w).length<=n:=by
     have:=JD h.tw a.tR h.w0 a.R0;rw[<-b]at this;omega
    have f:Dv (Jm w (Ju w (JT y (Jb w)))) w:=⟨Ju w (JT y (Jb w)),λx=>by
     grind[Jd]⟩
    have g:=i _ _ _ j a c (e.of_dv f);rw[b];exact e.mul_left g
def DY(u:Ja):Prop:=DQ u (Jb u)
theorem DY.parts{a b:Ja}(h:DY (Ji a b)):DQ a b:=by
 obtain⟨u,v,c⟩:=h;refine⟨XI (Ji u b) (Ji v (Jb b)),Ji v (Jb a),λx=>?_⟩;grind[Ys,Jd,Yi]
theorem DY.of_dv{a b:Ja}(h:DY b)(tb:Jc b=b)(d:Dv a b):DY a:=by
 obtain⟨c,_,e⟩:=d.some tb;obtain⟨u,v,f⟩:=h;rw[e]at f;refine⟨XI (Ji u c) (Ji v (Jb c)),Ji v c,λx=>?_⟩;grind[Ys,Jd,Yi]
theorem DY.mul{a b:Ja}(e:DY a)(hb:DY b)(h:DQ a b):DY (Ji a b):=by
 have c:=Ys a b;have c1:DQ a (Jb (Ji a b)):=(DQ.mul e h).shift (d:=Ji [-1] (Jb b)) λx=>by
  rw[Jd,Jd,Jq,c];grind
 have c2:DQ b (Jb (Ji a b)):=(h.symm.mul hb).shift (d:=Ji [-1] (Jb a)) λx=>by
  rw[Jd,Jd,Jq,c];grind
 exact c1.mul_left c2
theorem DY.dv{v:Ja}(g:Jc u=u)(i:Jc v=v)(M:v≠[])(hv:DY v)(h:∀c,DQ u c->DQ v c):Dv v u:=by
 have g0:=Yf g i (Ap M);have tg:=JF u v;obtain⟨j,l,s,t,n⟩:=Ye g i;obtain⟨d,I⟩:=ex (Ju u v);rw[I]at g0 tg j l n;have f:=(JK tg g0 l).2;obtain⟨e,o⟩:=ex (Jm v d);rw[o]at f;have B:v=Ji d e:=YM i (Jt _ _) λx=>by rw[Jd,f]
 have z:DQ d e:=DY.parts (by rw[<-B];exact hv);have A:DQ u e:=by
  obtain⟨a,b,H⟩:=z;have L:Jc e=e:=by rw[<-o];exact YE _ _
  obtain⟨f1,f2,m,k,f3⟩:=Ye g L;have D:Dv (Ju u e) d:=f1.comb (f2.mul' d) s t λx=>by
   rw[n,Jd,f]
  have G:Dv (Ju u e) [1]:=D.comb f2 a b λx=>by rw[Jq,H]
  obtain⟨r,p⟩:=G;refine⟨Ji r m,Ji r k,λx=>?_⟩;have K:=p x;rw[Jq,f3]at K;rw[Jd,Jd];grind
 have w:=h e A;have y:DQ e e:=w.of_dv ⟨d,λx=>by rw[f];grind⟩;obtain⟨r,p⟩:=y.unit (Dv.refl e);obtain⟨q,hq⟩:=j;refine⟨Ji r q,λx=>?_⟩;grind[Jd,ev]
def YQ{p:Ja}(tp:Jc p=p)(p0:p≠[]):Yun (Jr p) (DL p) (El p):=Yun.start (Yp p) (LU tp p0) (Ks tp)
def KQ{p:Ja}(tp:Jc p=p)(p0:p≠[]):DY (DL p):=Se _ _ _ _ (Aa _) (YQ tp p0)
def Sg{p:Ja}(tp:Jc p=p)(p0:p≠[]):Dv (Jr p) p/\Dv p (Jr p):=by
 obtain⟨c,b⟩:=MG tp p0;have a:Dv (Jr p) p:=⟨[cf p (p.length-1)],λx=>by
  conv=>lhs;rw[b]
  rw[Jo,Jq]⟩
 exact⟨a,⟨[1/cf p (p.length-1)],λx=>by rw[LW,Jq]⟩⟩
def Ig{p:Ja}(tp:Jc p=p)(p0:p≠[]):Dv (DL p) p:=(YQ tp p0).dv.trans (Sg tp p0).1
def XK{p:Ja}(tp:Jc p=p)(p0:p≠[])(c:Ja):DQ (DL p) c↔DQ p c:=by
 constructor
 . intro h;exact(qj _ _ _ _ (Aa _) (YQ tp p0) c h).of_dv (Sg tp p0).2
 . intro h;exact h.of_dv (Ig tp p0)
theorem Si{p q:Ja}(tp:Jc p=p)(p0:p≠[])(tq:Jc q=q)(q0:q≠[]):
 ∃a b c:Ja,DQ a b/\DQ a c/\DQ (Ji a b) c/\DL p=Ji a b/\DL q=Ji a c/\DL (Ji p q)=Ji (Ji a b) c/\DL (Ju p q)=a:=by
 have e:=YQ tp p0;have f:=YQ tq q0;have sp:=KQ tp p0;have sq:=KQ tq q0;have s:=Jt p q;have t:Ji p q≠[]:=YX tp tq p0 q0;have tg:=JF p q;have g0:=Yf tp tq (An p0);have m:=YQ s t;have l:=YQ tg g0;obtain⟨o,w,_⟩:=Ye e.tw f.tw;have ta:=JF (DL p) (DL q);have ma:=YW e.tw f.tw;have a0:=Yf e.tw f.tw (An e.w0);have n:=PG e.tw f.tw a0;obtain⟨mb,_,b0,i⟩:=NQ e.tw e.w0 e.mw ta ma o;obtain⟨y,_,c0,j⟩:=NQ f.tw f.w0 f.mw ta ma w;have H:∀d,Dv d (DL p)->Dv d (DL q)->Dv d (Ju (DL p) (DL q)):=λd g k=>Kt e.tw f.tw g k;obtain⟨a,U⟩:=ex (Ju (DL p) (DL q));rw[U]at o w ta ma a0 n mb b0 i y c0 j H;obtain⟨b,hb⟩:=ex (Jm (DL p) a);obtain⟨c,K⟩:=ex (Jm (DL q) a);have tb:Jc b=b:=by rw[<-hb];exact YE _ _
 have z:Jc c=c:=by rw[<-K];exact YE _ _
 rw[hb]at n mb b0 i;rw[K]at n y c0 j;have P:DQ a b:=DY.parts (by rw[<-i];exact sp);have D:DQ a c:=DY.parts (by rw[<-j];exact sq);have A:DQ (Ji a b) c:=D.mul_left n;have sc:DY c:=sq.of_dv f.tw ⟨a,λx=>by rw[j,Jd];grind⟩;have N:DY (Ji (Ji a b) c):=(by rw[<-i];exact sp:DY (Ji a b)).mul sc A;refine⟨a,b,c,P,D,A,i,j,?_,?_⟩
 . have r:=Jt (Ji a b) c;have G:Ji a b≠[]:=YX ta tb a0 b0;have Q:Ji (Ji a b) c≠[]:=YX (Jt _ _) z G c0;have V:Jr (Ji (Ji a b) c)=Ji (Ji a b) c:=by
    have g:=NY (Jt a b) z G c0;have k:=NY ta tb a0 b0;rw[k,MD ta a0 ma,MD tb b0 mb,MD z c0 y]at g;exact YM (Yp _) r λx=>by rw[LW,g];grind
   have B:∀d,DQ (DL (Ji p q)) d↔DQ (Ji (Ji a b) c) d:=λd=>by
    rw[XK s t];constructor
    . intro h;have g:DQ p d:=h.of_dv ((Dv.refl p).mul q);have k:DQ q d:=h.of_dv ((Dv.refl q).mul' p);have I:=(XK tp p0 d).2 g;have T:=(XK tq q0 d).2 k;rw[i]at I;exact I.mul_left (T.of_dv ⟨a,λx=>by rw[j,Jd];grind⟩)
    . intro h;have g:DQ (DL p) d:=h.of_dv (by rw[i];exact(Dv.refl _).mul c);have k:DQ (DL q) d:=h.of_dv (by rw[j];exact⟨b,λx=>by rw[Jd,Jd,Jd];grind⟩);exact((XK tp p0 d).1 g).mul_left ((XK tq q0 d).1 k)
   have d1:=DY.dv (u:=DL (Ji p q)) (v:=Ji (Ji a b) c) m.tw r Q N λd h=>(B d).1 h;have R:=DY.dv (u:=Ji (Ji a b) c) (v:=DL (Ji p q)) r m.tw m.w0 (KQ s t) λd h=>(B d).2 h;exact Dv.eq m.tw r m.mw V R d1
 . have W:DY a:=sp.of_dv e.tw o;have sg:=KQ tg g0;obtain⟨L,M,_⟩:=Ye tp tq;have f1:Dv (DL (Ju p q)) (DL p):=DY.dv e.tw l.tw l.w0 sg λd h=>((XK tp p0 d).1 h).of_dv ((Ig tg g0).trans L);have f2:Dv (DL (Ju p q)) (DL q):=DY.dv f.tw l.tw l.w0 sg λd h=>((XK tq q0 d).1 h).of_dv ((Ig tg g0).trans M);have f3:=H _ f1 f2;have S:Dv a (DL (Ju p q)):=DY.dv l.tw ta a0 W λd h=>((XK tg g0 d).1 h).of_dv (Kt tp tq (o.trans (Ig tp p0)) (w.trans (Ig tq q0)));exact Dv.eq l.tw ta l.mw ma f3 S
theorem qm{p q:Ja}(tp:Jc p=p)(p0:p≠[])(tq:Jc q=q)(q0:q≠[])(d:0<=B):
 Sh B λx z=>J1 (DL (Ji p q)) x z+J1 (DL (Ju p q)) x z=J1 (DL p) x z+J1 (DL q) x z:=by
 obtain⟨a,b,c,e,f,g,i,j,k,l⟩:=Si tp p0 tq q0;refine(((Nc e d).and (Nc f d)).and (Nc g d)).mono λx z _ _ _ ⟨⟨m,n⟩,o⟩=>?_;grind
theorem qn(l:Ja):∀a,Xx a l<=l.length:=by
 induction l with
 |nil=>intro a;exact Aa _
 |cons b l c=>
  intro a;grind[Xx]
theorem PQ(l:Ja):DM l<=l.length-1:=by
 cases l with
 |nil=>exact Aa _
 |cons a l=>
  grind[qn,DM,Xx]
theorem aB:∀(n:Nat) (a b:Ja),b.length<=n->Jc b=b->(ET a b).length<=b.length+1:=by
 intro n;induction n with
 |zero=>
  intro a b hn _
  have:b=[]:=Aq.1 O
  subst this;exact Aa _
 |succ n c=>
  intro a b hn tb;by_cases b0:b=[]
  . grind
  . have hl:=Xv (a:=a) tb b0;grind[KL,XR]
theorem Sj{p:Ja}(p0:p≠[]):(Js p).length<=p.length:=by
 unfold Js Xk;rw[CK];have a:=aB _ (Jn p) (Jn (Jb p)) (Aa _) (J0 _);grind[JL,Jv,Y8]
theorem Nd{p:Ja}(p0:p≠[]):DM (D7 (Js p))<=p.length-1:=by
 have a:=PQ (D7 (Js p));have b:(D7 (Js p)).length=(Js p).length:=by unfold D7;rw[CK]
 have c:=Sj p0;omega
theorem qo{p q:Ja}(tp:Jc p=p)(p0:p≠[])(tq:Jc q=q)(q0:q≠[]){a b:Rat}(f:a<=b):
 (DM (JE (Js (Ji p q)) a)+DM (JE (Js (Ju p q)) a))+(DM (JE (Js p) b)+DM (JE (Js q) b))=(DM (JE (Js (Ji p q)) b)+DM (JE (Js (Ju p q)) b))+(DM (JE (Js p) a)+DM (JE (Js q) a)):=by
 have d:=Jt p q;have e:Ji p q≠[]:=YX tp tq p0 q0;have tg:=JF p q;have g0:=Yf tp tq (An p0);obtain⟨A,g,hA⟩:=JI a;obtain⟨C,i,hC⟩:=JI b;have c:0<=A+C:=DH
 have h:=glue (B:=A+C) (F:=λx=>DM (JE (EZ (Ji p q)) x)+DM (JE (EZ (Ju p q)) x)) (G:=λx=>DM (JE (EZ p) x)+DM (JE (EZ q) x)) (((((Xi d e c).and (Xi tg g0 c)).and ((Xi tp p0 c).and (Xi tq q0 c))).and (qm tp p0 tq q0 c)).mono λx z _ _ _ ⟨⟨⟨j,k⟩,l,m⟩,n⟩=>by
  omega) (hA.mono DH) (hC.mono DH) f
 grind[LZ]
theorem aC{p q:Ja}(tp:Jc p=p)(p0:p≠[])(tq:Jc q=q)(q0:q≠[])(x:Rat):
 (DM (D7 (Js (Ji p q)))+DM (D7 (Js (Ju p q))))+(DM (JE (Js p) x)+DM (JE (Js q) x))=(DM (JE (Js (Ji p q)) x)+DM (JE (Js (Ju p q)) x))+(DM (D7 (Js p))+DM (D7 (Js q))):=by
 have c:=Jt p q;have d:Ji p q≠[]:=YX tp tq p0 q0;have tg:=JF p q;have g0:=Yf tp tq (An p0);obtain⟨B1,g,_,f1⟩:=YI (J3 c d);obtain⟨B2,i,_,f2⟩:=YI (J3 tg g0);obtain⟨B3,j,_,f3⟩:=YI (J3 tp p0);obtain⟨B4,k,_,e⟩:=YI (J3 tq q0);obtain⟨X,f,hX⟩:=JI x;obtain⟨y,l⟩:∃y,-(B1+B2+B3+B4+X)=y:=⟨_,J⟩;have h:=qo tp p0 tq q0 (a:=y) (b:=x) (by have:=hX.1;clear f1 f2 f3 e;grind);grind
theorem qp{p q:Ja}(tp:Jc p=p)(p0:p≠[])(tq:Jc q=q)(q0:q≠[]):
 (DM (D7 (Js (Ji p q)))+DM (D7 (Js (Ju p q))))+(DM (Em (Js p))+DM (Em (Js q)))=(DM (Em (Js (Ji p q)))+DM (Em (Js (Ju p q))))+(DM (D7 (Js p))+DM (D7 (Js q))):=by
 have a:=Jt p q;have b:Ji p q≠[]:=YX tp tq p0 q0;have tg:=JF p q;have g0:=Yf tp tq (An p0);obtain⟨B1,c,f1,_⟩:=YI (J3 a b);obtain⟨B2,d,f2,_⟩:=YI (J3 tg g0);obtain⟨B3,e,f3,_⟩:=YI (J3 tp p0);obtain⟨B4,f,g,_⟩:=YI (J3 tq q0);obtain⟨y,i⟩:=ex (B1+B2+B3+B4);have h:=aC tp p0 tq q0 y;grind
def qq{w:Ja}(tw:Jc w=w)(w0:w≠[])(mw:Jr w=w)(h:DY w):DL w=w:=by
 have y:=YQ tw w0;have d1:Dv (DL w) w:=Ig tw w0;have a:Dv w (DL w):=DY.dv y.tw tw w0 h λc b=>(XK tw w0 c).1 b;exact Dv.eq y.tw tw y.mw mw d1 a
theorem Nf{p q:Ja}(tp:Jc p=p)(p0:p≠[])(tq:Jc q=q)(q0:q≠[])(h:DL p=DL q){a b:Rat}(d:a<=b):
 DM (JE (Js p) a)+DM (JE (Js q) b)=DM (JE (Js p) b)+DM (JE (Js q) a):=by
 obtain⟨A,e,hA⟩:=JI a;obtain⟨C,f,hC⟩:=JI b;have c:0<=A+C:=DH
 have g:=glue (B:=A+C) (F:=λx=>DM (JE (EZ p) x)) (G:=λx=>DM (JE (EZ q) x)) (((Xi tp p0 c).and (Xi tq q0 c)).mono λx z _ _ _ ⟨i,j⟩=>by
  grind) (hA.mono DH) (hC.mono DH) d
 grind[LZ]
theorem aD{p q:Ja}(tp:Jc p=p)(p0:p≠[])(tq:Jc q=q)(q0:q≠[])(h:DL p=DL q)(x:Rat):
 DM (D7 (Js p))+DM (JE (Js q) x)=DM (JE (Js p) x)+DM (D7 (Js q)):=by
 obtain⟨B3,e,_,f3⟩:=YI (J3 tp p0);obtain⟨B4,f,_,c⟩:=YI (J3 tq q0);obtain⟨X,d,hX⟩:=JI x;obtain⟨y,i⟩:∃y,-(B3+B4+X)=y:=⟨_,J⟩;have g:=Nf tp p0 tq q0 h (a:=y) (b:=x) (by have:=hX.1;clear f3 c;grind);grind
theorem qr{p q:Ja}(tp:Jc p=p)(p0:p≠[])(tq:Jc q=q)(q0:q≠[])(h:DL p=DL q):
 DM (D7 (Js p))+DM (Em (Js q))=DM (Em (Js p))+DM (D7 (Js q)):=by
 obtain⟨B3,a,f3,_⟩:=YI (J3 tp p0);obtain⟨B4,b,c,_⟩:=YI (J3 tq q0);obtain⟨y,e⟩:=ex (B3+B4);have d:=aD tp p0 tq q0 h y;grind
theorem PR{p:Ja}{c:Rat}(a:c≠0)(tp:Jc p=p):DL (DN c p)=DL p:=by
 unfold DL;rw[NK a tp]
theorem qu(r x z:Rat):J1 [-r,1] x z=if x<r/\r<=z\/r<x/\z<=r then 1 else 0:=by
 have e:∀y,ev [-r,1] y=y-r:=λy=>by simp[ev];grind
 unfold J1;rw[e,e];by_cases h:x<r/\r<=z\/r<x/\z<=r
 . rw[BF h,BF];rcases h with⟨c,d⟩|⟨c,d⟩
   . refine⟨DH,?_⟩;have:=Ah (a:=r-x) (b:=z-r) DH DH;grind
   . refine⟨DH,?_⟩;have:=Ah (a:=x-r) (b:=r-z) DH DH;grind
 . rw[BE h,BE];rintro⟨c,d⟩;apply h;rcases JU x r with q|q
   . have q:x<r:=by
      rcases Aj.1 q with q|q
      . exact q
      . grind
     refine An ⟨q,?_⟩;rcases JU r z with q2|q2
     . exact q2
     . rcases Aj.1 q2 with q2|q2
       . have:=Ac (a:=r-x) (b:=r-z) DH DH;grind
       . rw[q2];exact At
   grind[Aj,JU,Ac]
theorem qx(hs:s*s=1):s=1\/s=-1:=by
 grind
theorem qy{K u:Rat}(hs:s*s=1)(h:Wi K u):∀n:Nat,Wi K (s^n*u):=by
 intro n;induction n with
 |zero=>grind
 |succ n a=>
  rw[AO];rcases qx hs with e|e
  . grind
  . rw[e]at a ⊢;have:=a.neg;grind
theorem q6{M:Rat}(hs:s*s=1)(hM:0<=M):∀p:Ja,Jc p=p->p≠[]->∀k,cf p (p.length-1)=k->(∀i,i+1<p.length->Wi (M*(k*k)) (k*cf p i))->∀x,1+M<=x->k*k<=s^(p.length-1)*(k*ev p (s*x)):=by
 intro p;induction p with
 |nil=>intro _ h;exact absurd J h
 |cons c t o=>
  intro tp p0 k hk g x m;by_cases d:t=[]
  . subst d
    have:c=k:=by rw[<-hk];simp[cf]
    subst this;rw[Jq];simp
  . have hl:=Ag.2 d;obtain⟨n,hn⟩:∃n,t.length=n+1:=⟨t.length-1,O⟩;have j:cf t n=k:=by
     rw[<-hk,Al,hn,show n+1+1-1=n+1 by omega,Yr]
    have w:cf t n≠0:=by
     have:=Jp tp p0;rwa[hk,<-j]at this
    have q:Jc t=t:=N0 (Ap DH);have l:=o q d k DH (λi hi=>by
     have:=g (i+1) DH;rwa[Yr]at this) x m
    rw[hn,show n+1-1=n by omega]at l;have f:=g 0 DH;rw[Xo]at f;have r:=(qy hs f (n+1)).1;rw[Al,hn,show n+1+1-1=n+1 by omega,Iq];have e:s^(n+1)*(k*(c+s*x*ev t (s*x)))=s^(n+1)*(k*c)+x*(s^n*(k*ev t (s*x))):=by
     rw[AO];grind
    rw[e];have u:=Ah (a:=x) (b:=s^n*(k*ev t (s*x))-k*k) DH DH;have v:=Ah (a:=x-(1+M)) (b:=k*k) DH (Xr k);grind
theorem quiet{p:Ja}(tp:Jc p=p)(p0:p≠[])(v:0<e)(h:∀x,U x->e<=ev p x*ev p x)(d:0<=B):Sh B λx z=>U x->J1 (DL p) x z=0:=by
 obtain⟨c,m⟩:=Ig tp p0;obtain⟨C,g,hC⟩:=X2 c d;obtain⟨f,f0,n⟩:=small (K:=(C*C)*1) (r:=e/2) (Ad (by have:=Ac g g;grind)) DH;obtain⟨f2,i,l1,l2⟩:=IZ f0 (show(0:Rat)<1 by decide);refine(Xq (DL p) d i).mono λx z q _ _ o l=>?_;refine KP (A3 λhn=>?_);have j:=(o hn).1;have k:=h x l;rw[m x]at k;have s:=MX j;have t:=MX (hC x q);have u:=n f2 l1;have w:=Ah (a:=f2*f2-ev (DL p) x*ev (DL p) x) (b:=ev c x*ev c x) DH (Xr _);have y:=Ah (a:=f2*f2) (b:=C*C-ev c x*ev c x) (Xr _) DH;have A:=Ah (a:=C*C) (b:=f2*(1-f2)) (Xr _) (Ah DH DH);grind
theorem q7{F:Rat->Nat}(h:Sh B λx y=>U x->F x=F y){a b:Rat}(c:Wi B a)(hb:Wi B b)(f:a<=b)(l:∀x,a<=x->x<=b->U x):F a=F b:=by
 obtain⟨d,d0,h⟩:=h;obtain⟨n,hn⟩:=steps d0 a b
 have:∀(n:Nat) (a':Rat),a<=a'->Wi B a'->a'<=b->b-a'<=(n:Rat)*d->F a'=F b:=by
  intro n;induction n with
  |zero=>
   intro a' _ c f e;grind
  |succ n m=>
   intro a' j c f e;have g:((n+1:Nat):Rat)=(n:Rat)+1:=by rw[Rat.natCast_add];rfl
   rw[g]at e;rcases JU (b-a') d with i|i
   . grind
   . have k:Wi B (a'+d):=⟨by have:=c.1;grind,by have:=hb.2;grind⟩;grind
 grind
theorem aE{p:Ja}(tp:Jc p=p)(p0:p≠[])(j:0<e){a b:Rat}(i:a<=b)(h:∀x,a<=x->x<=b->e<=ev p x*ev p x):DM (JE (Js p) a)=DM (JE (Js p) b):=by
 obtain⟨A,k,hA⟩:=JI a;obtain⟨C,l,hC⟩:=JI b;have d:0<=A+C:=by clear h;grind
 have c:=q7 (B:=A+C) (F:=λx=>DM (JE (EZ p) x)) (U:=λx=>a<=x/\x<=b) (((Xi tp p0 d).and (quiet tp p0 j (U:=λx=>a<=x/\x<=b) (λx f=>h x f.1 f.2) d)).mono λx z _ _ _ ⟨n,o⟩ m=>by
  grind) (hA.mono (by clear h;grind)) (hC.mono (by clear h;grind)) i (λx g c=>⟨g,c⟩)
 grind[LZ]
def DQ.ext{u v u2 a:Ja}(h:DQ u v)(b:∀x,ev u2 x=ev u x)(c:∀x,ev a x=ev v x):DQ u2 a:=by
 obtain⟨s,t,h⟩:=h;exact⟨s,t,λx=>by rw[b,c];exact h x⟩
theorem q8(hk:k≠0)(w:Ja)(x z:Rat):J1 (DN k w) x z=J1 w x z:=by
 have d:0<k*k:=by
  have:=XO (f:=[k]) hk (λx=>Jq _ x) 0 0;unfold Stb at this;rwa[Jq]at this
 unfold J1;rw[Jo,Jo];by_cases h:ev w x≠0/\ev w x*ev w z<=0
 . rw[BF h,BF];refine⟨λe=>?_,?_⟩
   . grind
   . have:=Ah (a:=k*k) (b:=-(ev w x*ev w z)) DH (by have:=h.2;grind);grind
 . rw[BE h,BE];rintro⟨c,g⟩;refine h ⟨λe=>c (by rw[e];grind),?_⟩;rcases JU (ev w x*ev w z) 0 with q|q
   . exact q
   . rcases Aj.1 q with q|q
     . have:=Ac d q;grind
     grind
theorem Ng{v:Ja}(h:DQ u v)(a:0<=B):Sh B λx z=>Stb u x z\/Stb v x z:=by
 obtain⟨s,t,i⟩:=h;obtain⟨S,j,g⟩:=X2 s a;obtain⟨T,k,hT⟩:=X2 t a;have d:∀ {r K:Rat},0<K->K*(r/K)=r:=λm=>by grind
 refine((Xq u a (Ym IK j)).and (Xq v a (Ym IK k))).mono λx z b _ _ ⟨e,f⟩=>?_;by_cases c:Stb u x z
 . exact An c
 . refine Ap (A3 λl=>?_);have n:=Ls (i x) (g x b) (e c).1 DH;have o:=((hT x b).mul (f l).1).2;grind
theorem rA:∀(n:Nat) (R w y:Ja),R.length<=n->Yun R w y->∀ {B:Rat},0<=B->Sh B λx z=>Stb w x z->Stb R x z:=by
 intro n;induction n with
 |zero=>intro R w y hn h;exact absurd (Aq.1 O) h.R0
 |succ n u=>
  intro R w y hn h B l;by_cases hl:w.length<=1
  . obtain⟨d,H⟩:=MC h.tw h.w0 hl;have p:Dv R [1]:=NP h.tR h.R0 ⟨Ji d y,λx=>by
     have G:=h.eq x;grind[Jd,ev]⟩
    have hl:=(p.len h.tR DK DK).1;exact Sh.all λx z _ _ _ _=>SM h.tR h.R0 hl x z
  . obtain⟨_,f⟩:=h.part;obtain⟨_,_,c,g,_,i⟩:=h.step;obtain⟨a,o⟩:=ex (Ju w (JT y (Jb w)));rw[o]at f c i;obtain⟨w2,r⟩:=ex (Jm w a);rw[r]at f c i;obtain⟨e,m⟩:=ex (Jm R w);rw[m]at c g;have v:e.length<=n:=by
     have:=JD h.tw c.tR h.w0 c.R0;rw[<-g]at this;omega
    have k:∀x,ev w x=ev a x*ev w2 x:=λx=>by
     grind[Jd]
    have j:∀x,ev R x=ev w x*ev e x:=λx=>by
     grind[Jd]
    refine((u e w2 _ v c l).and (Ng f l)).mono λx z _ _ _ ⟨s,t⟩ sw=>?_;have A:Stb w2 x z:=by
     rcases t with I|sb
     . unfold Stb at *;rw[k,k]at sw;rcases JU (ev w2 x*ev w2 z) 0 with q|q
       . have:=Ah (a:=ev a x*ev a z) (b:=-(ev w2 x*ev w2 z)) DH DH;grind
       . rcases Aj.1 q with q|q
         . exact q
         . have:ev a x*ev w2 x*(ev a z*ev w2 z)=(ev a x*ev a z)*(ev w2 x*ev w2 z):=DH
           grind
     . exact sb
    have D:=s A;unfold Stb at *;rw[j,j];have:=Ac sw D;grind
theorem rB{p:Ja}(tp:Jc p=p)(p0:p≠[])(b:0<=B):Sh B λx z=>Stb (DL p) x z->Stb p x z:=by
 obtain⟨d,c⟩:=MG tp p0;have e:∀x,ev p x=ev (Jr p) x*cf p (p.length-1):=λx=>by
  conv=>lhs;rw[c]
  rw[Jo]
 refine(rA _ _ _ _ (Aa _) (YQ tp p0) b).mono λx z _ _ _ h s=>?_;have a:=h s;have:=XO (f:=[cf p (p.length-1)]) d (λx=>Jq _ x) 0 0;unfold Stb at *;rw[Jq]at this;rw[e,e];have:=Ac a this;grind
def Eg(w y:Ja)(x:Rat):Nat:=if 0<ev w x*ev y x\/ev w x=0 then 1 else 0
theorem rC{w y:Ja}(st:¬Stb w x x):Eg w y x=1/\J1 w x x+Eg w y x<=1:=by
 have u0:ev w x=0:=by
  rcases CL.1 (Rat.le_antisymm (CN.1 st) (Xr (ev w x)))with q|q<;>exact q
 grind[J1,Eg]
theorem rD{w y:Ja}(r1:0<ev (Jb w) x*(ev w z-ev w x))(l:ev w x*ev w z<=0)(sd:Stb (Jb w) x z)(f:0<ev y x*ev (Jb w) x)(g:0<ev y z*ev (Jb w) z):Eg w y z=1/\J1 w x z+Eg w y x<=1:=by
 unfold Stb at sd;unfold Eg J1;generalize ev (Jb w) x=d at *;generalize ev (Jb w) z=c at *;generalize ev y x=a at *;generalize ev y z=b at *;generalize ev w x=u at *;generalize ev w z=v at *;have k:0<a*(v-u):=Xn (a:=d) (by have:=Ac f r1;grind);have e:0<c*(v-u):=Xn (a:=d) (by have:=Ac sd r1;grind);have r4:0<b*(v-u):=Xn (a:=c) (by have:=Ac g e;grind);by_cases u0:u=0
 . subst u0;grind
 . have i:u*a<0:=by
    rcases JU 0 (u*a)with q|q
    . exfalso
      have q:0<u*a:=by
       rcases Aj.1 q with q|q
       . exact q
       . grind[JB]
      have:=Ac q (show 0<v*a by grind);have:=Xn (a:=a) (b:=u*v) DH;grind
    . grind[CL]
   have j:0<v*b\/v=0:=by
    rcases JU (v*b) 0 with t|t
    . rcases Aj.1 t with t|t
      . exfalso
        have:=Ac (a:=-(v*b)) (b:=-(u*b)) DH DH;have:=Xn (a:=b) (b:=u*v) DH;grind
      grind[JB]
    . grind[CL]
   grind
theorem rE{w y s f:Ja}(D:0<k)(A:J1 f x z<=J1 s x z)(m:¬Stb w x z->k<=ev y x*ev (Jb w) x/\k<=ev y z*ev (Jb w) z)(n:¬Stb w x z->x<z->0<ev (Jb w) x*(ev w z-ev w x))(B:Stb f x z->Stb y x z)(o:Stb w x z\/Stb (Jb w) x z)(v:ev y x≠0->ev f x≠0)(l:x<=z):
 J1 w x z+Eg w y x<=Eg w y z+J1 s x z:=by
 by_cases st:Stb w x z
 . rw[KP st,A7];obtain⟨G,e⟩:=JB st;by_cases q:Eg w y x<=Eg w y z
   . omega
   ·
    have p:0<ev w x*ev y x:=by
     unfold Eg at q;by_cases r:0<ev w x*ev y x\/ev w x=0
     . grind
     . grind
    have g:¬(0<ev w z*ev y z):=λr=>by
     grind[Eg]
    have L:¬Stb y x z:=λr=>g (by
     have u:=N3 (a:=ev w x) (b:=ev y x) (c:=ev w z) (d:=ev y z) st r;rcases JU (ev w z*ev y z) 0 with t|t
     . rcases Aj.1 t with t|t
       . grind
       . rcases CL.1 t with t|t
         . exact absurd t e
         . exact absurd t (JB r).2
     . rcases Aj.1 t with t|t
       . exact t
       . rcases CL.1 t.symm with t|t
         . exact absurd t e
         . exact absurd t (JB r).2)
    grind[Stb,J1,JB,Eg]
 . obtain⟨I,K⟩:=m st;have sd:=o.resolve_left st;have H:Eg w y z=1/\J1 w x z+Eg w y x<=1:=by
    rcases Aj.1 l with j|i
    . exact rD (n st j) (CN.1 st) sd DH DH
    . subst i;exact rC st
   omega
theorem rF{p:Ja}(tp:Jc p=p)(hl:1<p.length)(b:0<=B):
 Sh B λx z=>J1 (DL p) x z+Eg (DL p) (El p) x<=Eg (DL p) (El p) z+J1 (DL (Jb p)) x z:=by
 have p0:p≠[]:=λe=>by rw[e]at hl;simp at hl
 have ts:=Jv p;have d:Jb p≠[]:=λe=>by have:=NO tp e;omega
 have a:=YQ tp p0;have y0:El p≠[]:=λe=>by
  have M:Jb (Jr p)=[]:=XJ (Jv _) λx=>by
   have j:=a.eq x;rw[e]at j;have y:=Xa (u:=Jb (Jr p)) (v:=[]) a.tw a.w0 (λx=>by
    have j:=a.eq x;grind[ev]) x
   rw[y];rfl
  grind[NO,Yp,LV]
 have ty:=a.ty;have dy:Dv (El p) (Jb p):=by
  obtain⟨_,A⟩:=MG tp p0;obtain⟨_,w,_⟩:=Ye (Yp p) (Jv (Jr p));have g0:=Yf (Yp p) (Jv (Jr p)) (An (LU tp p0));have s:=(JK (JF _ _) g0 w).2;refine⟨DN (cf p (p.length-1)) (Ju (Jr p) (Jb (Jr p))),λx=>?_⟩;have g:=Z4 (cf p (p.length-1)) (Jr p) x;rw[<-A]at g;rw[g,s,Jo];show _=ev (Jm (Jb (Jr p)) (Ju (Jr p) (Jb (Jr p)))) x*_;grind
 have n:=YQ ty y0;have m:=YQ ts d;have dw:Dv (DL (El p)) (DL (Jb p)):=DY.dv m.tw n.tw n.w0 (KQ ty y0) λc h=>((XK ts d c).1 h).of_dv ((Ig ty y0).trans dy);obtain⟨e,Q,i⟩:=dw.some m.tw;have o:DQ (DL (El p)) e:=DY.parts (by rw[<-i];exact KQ ts d);have l:=Nc o b;rw[<-i]at l;obtain⟨k,L,sg⟩:=SN _ _ _ _ (Aa _) a b;have r:=KQ tp p0;refine((((l.and sg).and (Z8 a b)).and ((rB ty y0 b).and (Ng r b)))).mono λx z _ _ D ⟨⟨⟨P,G⟩,H⟩,I,K⟩=>?_;have t:∀x,ev (El p) x≠0->ev (DL (El p)) x≠0:=λx h q=>by
  obtain⟨c,N⟩:=Ig ty y0;grind
 exact rE (f:=DL (El p)) L O G H I K (t x) D
theorem aF{P:Rat->Rat->Prop}(m:∀x,P x x)(tr:∀x y z,P x y->P y z->P x z)(h:Sh B P){a b:Rat}(c:Wi B a)(hb:Wi B b)(f:a<=b):P a b:=by
 obtain⟨d,d0,h⟩:=h;obtain⟨n,hn⟩:=steps d0 a b
 have:∀(n:Nat) (a:Rat),Wi B a->a<=b->b-a<=(n:Rat)*d->P a b:=by
  intro n;induction n with
  |zero=>
   intro a c f g;have e:a=b:=by
    have:((0:Nat):Rat)=0:=rfl
    rw[this]at g;grind
   rw[e];exact m _
  |succ n l=>
   intro a c f g;have k:((n+1:Nat):Rat)=(n:Rat)+1:=by rw[Rat.natCast_add];rfl
   rw[k]at g;rcases JU (b-a) d with i|i
   . exact h a b c hb f i
   . have j:Wi B (a+d):=⟨by have:=c.1;grind,by have:=hb.2;grind⟩;exact tr _ _ _ (h a (a+d) c j DH DH) (l (a+d) j DH DH)
 exact this n a c f hn
theorem Sk{p:Ja}(tp:Jc p=p)(p0:p≠[])(a:0<=B):Sh B λx z=>DM (JE (Js p) x)=DM (JE (Js p) z)+J1 (DL p) x z:=by
 grind[Xi,LZ]
def rG(w y:Ja)(x:Rat):Eg w y x<=1:=by unfold Eg;split<;>omega
def rH{p:Ja}(tp:Jc p=p)(hl:1<p.length){a b:Rat}(f:a<=b):
 DM (JE (Js p) a)+DM (JE (Js (Jb p)) b)<=DM (JE (Js p) b)+DM (JE (Js (Jb p)) a)+1:=by
 have p0:p≠[]:=λe=>by rw[e]at hl;simp at hl
 have g:Jb p≠[]:=λe=>by have:=NO tp e;omega
 obtain⟨A,i,hA⟩:=JI a;obtain⟨C,j,hC⟩:=JI b;have c:0<=A+C:=DH
 have:=aF (B:=A+C) (P:=λx z=>DM (JE (Js p) x)+Eg (DL p) (El p) x+DM (JE (Js (Jb p)) z)<=DM (JE (Js p) z)+Eg (DL p) (El p) z+DM (JE (Js (Jb p)) x))
  (λ_=>Aa _) (λ_ _ _ _ _=>by omega) (((Sk tp p0 c).and ((Sk (Jv p) g c).and (rF tp hl c))).mono λx z _ _ _ ⟨d,k,l⟩=>by
   show _<=_;omega) (hA.mono DH) (hC.mono DH) f
 have d:=rG (DL p) (El p) b;omega
theorem Sl{a b:Rat}(f:a≠0)(hb:b≠0):a*b<0↔¬(a<0↔b<0):=by
 have pos:∀ {c:Rat},c≠0->¬c<0->0<c:=fun {c} d e=>by
  grind
 by_cases d:a<0<;>by_cases e:b<0
 . have:=Ac (a:=-a) (b:=-b) DH DH;simp[d,e];grind
 . have:=Ac (a:=-a) (b:=b) DH (pos hb e);simp[d,e];grind
 . have:=Ac (a:=a) (b:=-b) (pos f d) DH;simp[d,e];grind
 grind[Ac]

