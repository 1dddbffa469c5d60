import Derived.Test.YthnpdhlepglmlaaGreatDoorW37
set_option linter.all false
open Go.Value renaming slice->C
open Go renaming Value->E,World->F
set_option maxRecDepth 99999
set_option maxHeartbeats 0
namespace Go.Proofs.YthnpdhlepglmlaaGreatDoor
section
open Go.RowKit Go.Shelf
def Bs:type_of% @Lib.wpList_append_run:=@Lib.wpList_append_run
def Li(s:List Rat × List Rat):List Rat × List Rat:=(Dp s.1 (Jt s.1 (JR s.2 (Jb s.1))),Dp (JR s.2 (Jb s.1)) (Jt s.1 (JR s.2 (Jb s.1))))
def DS(w y:List Rat):Nat->List Rat × List Rat
 |0=>(w,y)
 |n+1=>Li (DS w y n)
def yP(s:List Rat × List Rat):List Rat:=Jt s.1 (JR s.2 (Jb s.1))
def yL(w y:List Rat):Nat->List (List Rat × Nat)
 |0=>[]
 |n+1=>yL w y n++(if 1<(yP (DS w y n)).length then [(yP (DS w y n),n+1)]else [])
theorem W7(w y:List Rat):∀n,(yL w y n).length<=n:=by
 intro n;induction n with
 |zero=>exact Aa _
 |succ n a=>
  grind[yL]
structure StOk(K M:Nat)(w y:List Rat):Prop where
 ch:M3.ChOk K w (JR y (Jb w))
 ty:Jc y=y
 cw:Cd M w
 cs:Cd M (Jb w)
 cy:Cd M y
 cz:Cd M (JR y (Jb w))
 kM:Da K w (JR y (Jb w))<=M
 l1:2*((w.length+3)*(M+1))<=1000000000
 l2:2*(((JR y (Jb w)).length+3)*(M+1))<=1000000000
structure PtOk(K M N:Nat)(p:List Rat):Prop where
 tp:Jc p=p
 cp:Cd M p
 ch:M3.ChOk K (Jr p) (Jb (Jr p))
 kM:Da K (Jr p) (Jb (Jr p))<=M
 l1:2*((p.length+3)*(M+1))<=1000000000
 gt:1<p.length
 nN:N<=1000000000
 st:∀n,n<N->1<(DS (Dp (Jr p) (Jt (Jr p) (Jb (Jr p)))) (Dp (Jb (Jr p)) (Jt (Jr p) (Jb (Jr p)))) n).1.length/\StOk K M (DS (Dp (Jr p) (Jt (Jr p) (Jb (Jr p)))) (Dp (Jb (Jr p)) (Jt (Jr p) (Jb (Jr p)))) n).1 (DS (Dp (Jr p) (Jt (Jr p) (Jb (Jr p)))) (Dp (Jb (Jr p)) (Jt (Jr p) (Jb (Jr p)))) n).2
 en:(DS (Dp (Jr p) (Jt (Jr p) (Jb (Jr p)))) (Dp (Jb (Jr p)) (Jt (Jr p) (Jb (Jr p)))) N).1.length<=1
def Lj(p:List Rat)(N:Nat):List (List Rat × Nat):=yL (Dp (Jr p) (Jt (Jr p) (Jb (Jr p)))) (Dp (Jb (Jr p)) (Jt (Jr p) (Jb (Jr p)))) N
namespace M3
def FR(base:Nat)(V:F)(v:E)(L:List (List Rat × Nat)):Prop:=EK true base V v L
section
variable {base:Nat} {V V':World} {v:Value} {L:List (List Rat × Nat)}
def FR.below(h:FR base V v L)(hb:Bl V V'):FR base V' v L:=EK.below h hb
def FR.drew(h:FR base V v L):FR base V.drew v L:=EK.below h ((BA _ V).drew)
def FR.alloc(h:FR base V v L)(o:Obj):FR base (V.alloc o) v L:=EK.below h (Ba V o)
def FR.set1(h:FR base V v L){B:Nat}{a:Option Addr}{l c:Nat}(q:Boxed V B 25 (C a l c))(_:JU (C a l c)=true)(b:E):FR base (V.setCell ⟨B,0,none⟩ b) v L:=EK.set h q (λ_ _ g=>FP q b g)
end
def W8(a b:E)(ps qs:List Rat)(w:F)(g:Je w a ps)(hb:Je w b qs)(i:Sqs ps)(j:Sqs qs)(k:Sqs (JR ps qs)):
 Calls Tryz.prog 15 #[a,b] w λe w'=>∃u,e=.returned u/\Je w' u (JR ps qs)/\Bl w w':=by
 refine(VW a b ps qs w g hb i j k).mono ?_;rintro e w' ⟨u,c,d,_,f⟩;exact⟨u,c,d,f⟩
def X0{M:Nat}{w:List Rat}(h:Cd M (Jb w))(hM:M<=1000000000)(i:Nat):Sq (Hc w i):=by
 have a:=(h.sqs hM).at i;unfold Jb at a;rwa[Yw,LI]at a
attribute [local go_sem] Oper.semAt_some
theorem o7(K M N:Nat)(v:E)(p:List Rat)(w:F)(h:Je w v p)(D:PtOk K M N p):
 Calls Tryz.prog 50 #[v] w λe w'=>∃u,e=.returned u/\EK true w.heap.size w' u (Lj p N)/\Bl w w':=by
 obtain⟨q,hq⟩:=ex (Jr p);obtain⟨c,hc⟩:=ex (Jt q (Jb q));obtain⟨w0,ah⟩:=ex (Dp q c);obtain⟨y0,ai⟩:=ex (Dp (Jb q) c);have hM:M<=1000000000:=by
  have h1:=D.l1;grind
 have Qn:=D.ch;have Ue:=D.kM;rw[hq]at Qn Ue;have Ur:q.length=p.length:=by rw[<-hq];exact X2 D.tp
 have Qr:Cd M q:=by rw[<-hq];exact D.cp.mon D.tp
 have Uf:Jc q=q:=by rw[<-hq];exact Yf _
 have Uc:Cd M (Jb q):=(show Cd K (Jb q)from Qn.cq).mono (by have:=OZ K q (Jb q);omega);have Qt:Cd M c:=by rw[<-hc];exact Qn.gcd.mono Ue
 have Ug:Jc c=c:=by rw[<-hc];exact JE _ _
 have Qz:Jr c=c:=by rw[<-hc];exact YI Uf (Jv _)
 have Up:2*(((Jb q).length+3)*(M+1))<=1000000000:=by
  have h1:(Jb q).length<=q.length:=Ac (Yz _) (by simp[IY]);have h2:((Jb q).length+3)*(M+1)<=(p.length+3)*(M+1):=Ad _ O;have h3:=D.l1;omega
 obtain⟨Ud,Wa,Ul,Wk,Wj,Wb⟩:=Ie (λ(V:F) (x:E) (r:List Rat) (z:Je V x r)=>Yq x r V z) (λ(V:F) (x:E) (z:Je V x p)=>show Calls Tryz.prog 108 #[x] V λe w'=>∃u,e=.returned u/\Je w' u q/\Bl V w' by rw[<-hq];exact oq M x p V z D.tp D.cp hM) (λ(V:F) (x:E) (z:Je V x q)=>OT x q V z (Qr.sqs hM) (X0 Uc hM)) (λ(V:F) (x y:E) (z:Je V x q) (H:Je V y (Jb q))=>show Calls Tryz.prog 109 #[x,y] V λe w'=>∃u,e=.returned u/\Je w' u c/\Bl V w' by rw[<-hc];exact W4 K x y q (Jb q) V z H Qn) (λ(V:F) (x y:E) (z:Je V x q) (H:Je V y c)=>show Calls Tryz.prog 111 #[x,y] V λe w'=>∃u,e=.returned u/\Je w' u w0/\Bl V w' by rw[<-ah];exact Oe M x y q c V z H Qr Qt Uf Ug Qz (by rw[Ur];exact D.l1)) (λ(V:F) (x y:E) (z:Je V x (Jb q)) (H:Je V y c)=>show Calls Tryz.prog 111 #[x,y] V λe w'=>∃u,e=.returned u/\Je w' u y0/\Bl V w' by rw[<-ai];exact Oe M x y (Jb q) c V z H Uc Qt (Jv _) Ug Qz Up);have Qs:=D.st;have Qw:=D.en;rw[hq,hc,ah,ai]at Qs Qw;obtain⟨Uq,Wc,We⟩:=DY Qs Qw (show Lj p N=yL w0 y0 N by unfold Lj;rw[hq,hc,ah,ai]);rw[We.o];obtain⟨Uy,Uz,Wd⟩:=DY (λ(a b:List Rat) (o:StOk K M a b) (V:F) (x:E) (z:Je V x a)=>OT x a V z (o.cw.sqs hM) (X0 o.cs hM)) (λ(a b:List Rat) (o:StOk K M a b) (V:F) (x y:E) (z:Je V x b) (H:Je V y (Jb a))=>W8 x y b (Jb a) V z H (o.cy.sqs hM) (o.cs.sqs hM) (o.cz.sqs hM)) λ(a b:List Rat) (o:StOk K M a b) (V:F) (x y:E) (z:Je V x a) (H:Je V y (JR b (Jb a)))=>W4 K x y a (JR b (Jb a)) V z H o.ch;have X:∀(a b:List Rat),StOk K M a b->Cd M (Jt a (JR b (Jb a)))/\Jc (Jt a (JR b (Jb a)))=Jt a (JR b (Jb a))/\Jr (Jt a (JR b (Jb a)))=Jt a (JR b (Jb a)):=λa b o=>⟨o.ch.gcd.mono o.kM,JE _ _,YI o.ch.tp o.ch.tq⟩;have Uu:=Z λ(a b:List Rat) (o:StOk K M a b) (V:F) (x y:E) (z:Je V x a) (H:Je V y (Jt a (JR b (Jb a))))=>Oe M x y a (Jt a (JR b (Jb a))) V z H o.cw (X a b o).1 o.ch.tp (X a b o).2.1 (X a b o).2.2 o.l1;have Wg:=Z λ(a b:List Rat) (o:StOk K M a b) (V:F) (x y:E) (z:Je V x (JR b (Jb a))) (H:Je V y (Jt a (JR b (Jb a))))=>Oe M x y (JR b (Jb a)) (Jt a (JR b (Jb a))) V z H o.cz (X a b o).1 o.ch.tq (X a b o).2.1 (X a b o).2.2 o.l2;have Ua:¬(p.length:Int)-1<1:=by have:=D.gt;omega
 obtain⟨d0,bn⟩:=ex ((p.length:Int)-1:Int);rw[bn]at Ua;have Ux:=Z bn;have ic:=D.nN;obtain⟨pa,la,pc,rfl⟩:=h.form;obtain⟨W0,fo,M1⟩:=Ij 25 (.poly p) h;clear h D Qn Ue Ur Qr Uf Uc Qt Ug Qz Up Qs Qw X hM hq hc ah ai bn;go_enter Tryz.func50,Tryz.ntmps50
 go_upto_region 1 with fail
 rw[fo.o];obtain⟨a1,l1,c1,n1,r1⟩:=M1.o.poly2 (i:=0) J;have Qx:=n1.cell;have G:=Z (Ud.o W0 _ p r1);rw[Ux.o]at G;go_upto_region 3 with(go_at_call 75;refine G.o.mono ?_;rintro e w1 ⟨rfl,hq⟩;clear Qx;have Qx:=(boxed_below n1 hq).cell)
 have M2:=Z (M1.o.below hq);clear M1;clear hq n1 r1 Qx;obtain⟨a2,l2,c2,n2,r2⟩:=M2.o.poly2 (i:=0) J;have Qy:=n2.cell;have Qv:=n2.frozen;have G:=Z (Wa.o w1 _ r2);go_upto_region 4 with(go_at_call 108;refine G.o.mono ?_;rintro e w2 ⟨u2,rfl,co,hq⟩;obtain⟨di,f9,dj,rfl⟩:=Je.form co;clear Qy;have Qy:=(boxed_below n2 hq).cell;clear Qv;have Qv:=(boxed_below n2 hq).frozen)
 obtain⟨V3,R⟩:=ex (w2.setCell ⟨w.heap.size,0,none⟩ (C di f9 dj));have l:DI w (w2.setCell ⟨w.heap.size,0,none⟩ (C di f9 dj)) [some (w.heap.size,.poly q)]:=DI.putPoly (M2.o.below hq) (i:=0) J co;rw[R]at l;rw[R];have M3:=Z (l);clear M2;clear l R;clear co hq n2 r2 Qy Qv;refine YE Dh [[],[],[1],[0,2,2],[],[4,3,3,0,1,2,3,4]] [.poly q,.poly q,.poly (Jb q),.poly c,.ptr,.eq undef] [4,5] (λb v V=>DI w V [some (w.heap.size,.poly q),nb b v 0 1 (.poly []) (.poly c)]) (M3.o.none).drew (SR (.vl J λ_ j=>FV 0 j)<|SR (.vl J λ_ j=>FV 0 j)<|SR (.cl λh _=>Ul.o _ _ (h.g 1))<|SR (.cl λh _=>Wk.o _ _ _ (h.g 0) (h.g 2))<|SR (.wr J λ_ j=>Ks 1 j)<|SR (.wr J λh j=>GP 1 j (h.g 3) (hp:=h.g 4)) Stp.end_)
  λf V5 hF l=>?_
 refine DO ?_;obtain⟨Q,bg⟩:=hF.p 4;have l:=Du l;simp only[bg]at l;rw[bg];have W:=Z l;clear l hF bg;clear M3;go_upto_region 5 with fail
 refine YE Dh [[],[],[0,1],[],[3,2],[],[4,5,4],[],[],[7,2,6,0,1,2,7,8],[8,6,9,0,1,2,3,4,5,6,7,8,9]] [.poly q,.poly c,.poly w0,.poly q,.poly (Jb q),.poly c,.poly y0,.ptr,.ptr,.eq undef,.eq undef] [7,8,9,10] (λb v V=>DI w V [some (w.heap.size,.poly q),some (Q,.poly c),nb b v 0 2 (.poly []) (.poly w0),nb b v 1 3 (.poly []) (.poly y0)]) ((W.o.none).none).drew (SR (.vl J λ_ j=>FV 0 j)<|SR (.vl J λ_ j=>FV 1 j)<|SR (.cl λh _=>Wj.o _ _ _ (h.g 0) (h.g 1))<|SR (.vl J λ_ j=>FV 0 j)<|SR (.cl λh _=>Ul.o _ _ (h.g 3))<|SR (.vl J λ_ j=>FV 1 j)<|SR (.cl λh _=>Wb.o _ _ _ (h.g 4) (h.g 5))<|SR (.wr J λ_ j=>Ks 2 j)<|SR (.wr J λ_ j=>Ks 3 j)<|SR (.wr J λh j=>GP 2 j (h.g 2) (hp:=h.g 7))<|SR (.wr J λh j=>GP 3 j (h.g 6) (hp:=h.g 8)) Stp.end_)
  λf V8 hF l=>?_
 refine DO ?_;obtain⟨B9,bi⟩:=hF.p 7;obtain⟨B10,aq⟩:=hF.p 8;have l:=Du l;simp only[bi,aq]at l;rw[bi,aq];have M5:=Z l;clear l hF bi aq;clear W;go_wp2;go_loopw [6,7] (λlv tv wr=>∃(k:Nat) (S:Option Addr) (U:Nat),k<=N/\lv=C S (yL w0 y0 k).length U/\tv=.int .i64 ((k+1:Nat):Int)/\Hid (FR w.heap.size wr (C S (yL w0 y0 k).length U) (yL w0 y0 k))/\Hid (DI w wr [some (w.heap.size,.poly q),some (Q,.poly c),some (B9,.poly ((DS w0 y0 k).1)),some (B10,.poly ((DS w0 y0 k).2))])) λ_ tv _=>N+1-(intOf tv).toNat
 case atStart=>exact⟨0,none,0,Ap _,J,J,Z (EK.nil _ _ _),M5⟩
 case round=>
  clear M5;obtain⟨k,S,U,hk,rfl,rfl,XL,M6⟩:=hrel;obtain⟨g,cj⟩:=ex ((DS w0 y0 k).1);obtain⟨s,cn⟩:=ex ((DS w0 y0 k).2);obtain⟨L,hL⟩:=ex (yL w0 y0 k);have A:=Z (show(DS w0 y0 k).1=g/\(DS w0 y0 k).2=s/\yL w0 y0 k=L/\L.length<=k from⟨cj,cn,hL,by rw[<-hL];exact W7 _ _ _⟩);rw[cj,cn]at M6;rw[hL]at XL;clear cj cn hL;rw[A.o.2.2.1];obtain⟨ll,ce⟩:=ex (L.length:Nat);rw[ce]at XL ⊢;have Qi:=Z ce;clear ce;obtain⟨T,hT⟩:=ex (k+1:Nat);rw[hT];have Qg:=Z hT;clear hT;obtain⟨gq,ie,gw,aj,r11⟩:=M6.o.poly2 (i:=2) J;have Qc:=aj.cell;have G:=Z (Ud.o wr _ g r11);obtain⟨d1,bu⟩:=ex ((g.length:Int)-1:Int);rw[bu]at G;have Uo:=Z bu;clear bu;by_cases ed:k<N
  . have Us:(0:Int)<d1:=by have h1:=(Uq.o k ed).1;rw[A.o.1]at h1;have:=Uo.o;omega
    have HO:=Z (show StOk K M g s by have h1:=(Uq.o k ed).2;rwa[A.o.1,A.o.2.1]at h1);go_upto_region 10 with(go_at_call 75;refine G.o.mono ?_;rintro e w1 ⟨rfl,hq⟩;clear Qc;have Qc:=(boxed_below aj hq).cell)
    have M7:=Z (M6.o.below hq);have Un:=Z (XL.o.below hq);clear XL hq aj r11 Qc M6;refine YE Dh [[],[],[1],[0,2,2],[3,3,0,1,2,3]] [.poly s,.poly g,.poly (Jb g),.poly (JR s (Jb g)),.eq undef] [4] (λb _ V=>DI w V [some (w.heap.size,.poly q),some (Q,.poly c),some (B9,.poly g),some (B10,if b.getD 0 false then .poly (JR s (Jb g))else .poly s)]/\FR w.heap.size V (C S ll U) L) ⟨M7.o.drew,Un.o.drew⟩ (SR (.vl J λ_ j=>FV 3 j.1)<|SR (.vl J λ_ j=>FV 2 j.1)<|SR (.cl λh _=>Uy.o g s HO.o _ _ (h.g 1))<|SR (.cl λh _=>Uz.o g s HO.o _ _ _ (h.g 0) (h.g 2))<|SR (.wr J λh j=>GP 3 j.1 (h.g 3) (hT:=λn m=>⟨m,j.2.set1 n J _⟩)) Stp.end_)
     λf fx hF l=>?_
    obtain⟨l,I⟩:=l;replace I:=Z I;refine DO ?_;have l:=Du l;have M8:=Z l;clear l hF;clear M7;have Ui:=I;clear I Un;obtain⟨P,hP⟩:=ex (Jt g (JR s (Jb g)));obtain⟨Qo,Qm,Qd,Qf⟩:=Ds hP (Wd.o g s HO.o) (Uu.o g s HO.o) (Wg.o g s HO.o);rw[hP]at Qm Qd Qf;clear hP;obtain⟨gr,ig,gy,fg,fi⟩:=M8.o.poly2 (i:=2) J;have Qu:=fg.cell;obtain⟨gu,ii,ia,fh,fm⟩:=M8.o.poly2 (i:=3) J;have Ub:=fh.cell;have G:=Z (Qm.o fx _ _ fi fm);go_upto_region 12 with(go_at_call 109;refine G.o.mono ?_;rintro e w3 ⟨u3,rfl,de,hq⟩;obtain⟨an,df,ap,rfl⟩:=Je.form de)
    have Uk:=Z ((Ui.o.below hq).alloc (.cells #[C an df ap] 25));clear Ui fg fi Qu fh fm Ub;have Qq:=Uk;clear Uk;obtain⟨gh,R⟩:=ex (w3.alloc (.cells #[C an df ap] 25));obtain⟨dh,bj⟩:=ex (w3.heap.size);have l:DI w (w3.alloc (.cells #[C an df ap] 25)) [some (w.heap.size,.poly q),some (Q,.poly c),some (B9,.poly g),some (B10,.poly (JR s (Jb g))),some (w3.heap.size,.poly P)]:=DI.push (M8.o.below hq) (.poly P) de;rw[R,bj]at l;rw[R]at Qq;rw[R];rw[bj];have M9:=Z (l);clear M8;clear l R bj de hq;obtain⟨gv,ij,ib,ae,am⟩:=M9.o.poly2 (i:=4) J;have Qb:=ae.cell;have G:=Z (Ud.o gh _ P am);obtain⟨d2,bz⟩:=ex ((P.length:Int)-1:Int);rw[bz]at G;have Uj:=Z bz;clear bz;by_cases dt:1<P.length
    . have Uw:(0:Int)<d2:=by have:=Uj.o;omega
      have Qh:=Z (show yL w0 y0 (k+1)=L++[(P,T)]by rw[yL,A.o.2.2.1];unfold yP;rw[A.o.1,A.o.2.1,Qo.o,BE dt,Qg.o]);go_upto_region 13 with(go_at_call 75;refine G.o.mono ?_;rintro e w4 ⟨rfl,hq⟩;clear Qb;have Qb:=(boxed_below ae hq).cell)
      have X4:=Qq.o.below hq;have W:=M9.o.below hq;have r4:=am.below hq;have Uh:=W.2.2.size;obtain⟨v',w',bm,X5,dz,dx,gn⟩:=oz true w.heap.size w4 (C S ll U) L X4 (t:=T) r4.row (by have:=A.o.2.2.2;omega) Uh;obtain⟨ya,yc,ei,_,_⟩:=X5.form;rw[AD,show([(P,T)]:List (List Rat × Nat)).length=1 from J]at ei;subst ei;have M5:=W.farP dz (dx _ w (Aa _) W.2.2) (λi B d e=>by rcases i with _|_|_|_|_|i<;>simp at e<;>(obtain⟨rfl,rfl⟩:=e;show 25≠107;decide));have e4:=(boxed_below ae hq).cell;clear X4 r4 Uh dz dx gn hq W ae am Qb;rw[show Hy true=104 from J,show EF true=107 from J]at bm;go_upto_region 14 with(first
       |(at_builtin;refine Bs _ J _ _ 104 104 J _ _ J J _ _ bm ?_;clear bm))
      clear e4 M9;have Qk:=Z (M5);clear M5;have Um:Hid (FR w.heap.size w' (C ya (L.length+1) yc) (L++[(P,T)])):=Z X5;clear X5;rw[Qi.o]at Um;refine YE Dh [[],[],[0,1],[],[],[3,4,2],[2,5,0,1,2],[5,6,0,1,2,3,4,5,6]] [.poly g,.poly P,.poly (Dp g P),.poly (JR s (Jb g)),.poly P,.poly (Dp (JR s (Jb g)) P),.eq undef,.eq undef] [6,7] (λb _ V=>DI w V [some (w.heap.size,.poly q),some (Q,.poly c),some (B9,if b.getD 0 false then .poly (Dp g P)else .poly g),some (B10,if b.getD 1 false then .poly (Dp (JR s (Jb g)) P)else .poly (JR s (Jb g))),some (dh,.poly P)]/\FR w.heap.size V (C ya (ll+1) yc) (L++[(P,T)])) ⟨Qk.o.drew,Um.o.drew⟩ (SR (.vl J λ_ j=>FV 2 j.1)<|SR (.vl J λ_ j=>FV 4 j.1)<|SR (.cl λh _=>Qd.o _ _ _ (h.g 0) (h.g 1))<|SR (.vl J λ_ j=>FV 3 j.1)<|SR (.vl J λ_ j=>FV 4 j.1)<|SR (.cl λh _=>Qf.o _ _ _ (h.g 3) (h.g 4))<|SR (.wr J λh j=>GP 2 j.1 (h.g 2) (hT:=λn m=>⟨m,j.2.set1 n J _⟩))<|SR (.wr J λh j=>GP 3 j.1 (h.g 5) (hT:=λn m=>⟨m,j.2.set1 n J _⟩)) Stp.end_)
       λf gi hF l=>?_
      obtain⟨l,I⟩:=l;replace I:=Z I;refine DO ?_;have l:=Du l;have Ql:=Z l;clear l hF;generalize f 0=il,f 1=io,f 2=ir,f 3=iu,f 4=iw,f 5=ix;clear Qk;have Qp:Hid (DI w gi [some (w.heap.size,.poly q),some (Q,.poly c),some (B9,.poly (Dp g P)),some (B10,.poly (Dp (JR s (Jb g)) P))]):=Z (Ql.o.take 4);have Qj:=Z (show(DS w0 y0 (k+1)).1=Dp g P/\(DS w0 y0 (k+1)).2=Dp (JR s (Jb g)) P by rw[DS];unfold Li;rw[A.o.1,A.o.2.1,Qo.o];exact⟨J,J⟩);have Uv:T+1<=9223372036854775807:=by have:=Qg.o;omega
      clear Ql;go_wp2_with fail
      go_roundw
      case rel=>exact⟨k+1,ya,yc,O,by rw[Qh.o,AD,Qi.o];rfl,by rw[Qg.o];go_num,by rw[Qh.o,AD,Qi.o];exact I,by rw[Qj.o.1,Qj.o.2];exact Qp⟩
      case measure=>simp[intOf];have:=Qg.o;omega
    . have Uw:¬(0:Int)<d2:=by have:=Uj.o;omega
      have Qh:=Z (show yL w0 y0 (k+1)=L by rw[yL,A.o.2.2.1];unfold yP;rw[A.o.1,A.o.2.1,Qo.o,BD dt,CJ]);go_upto_region 14 with(go_at_call 75;refine G.o.mono ?_;rintro e w4 ⟨rfl,hq⟩;clear Qb;have Qb:=(boxed_below ae hq).cell)
      have Ut:=Z (Qq.o.below hq);have Qk:=Z (M9.o.below hq);clear M9;clear hq ae am Qb;refine YE Dh [[],[],[0,1],[],[],[3,4,2],[2,5,0,1,2],[5,6,0,1,2,3,4,5,6]] [.poly g,.poly P,.poly (Dp g P),.poly (JR s (Jb g)),.poly P,.poly (Dp (JR s (Jb g)) P),.eq undef,.eq undef] [6,7] (λb _ V=>DI w V [some (w.heap.size,.poly q),some (Q,.poly c),some (B9,if b.getD 0 false then .poly (Dp g P)else .poly g),some (B10,if b.getD 1 false then .poly (Dp (JR s (Jb g)) P)else .poly (JR s (Jb g))),some (dh,.poly P)]/\FR w.heap.size V (C S ll U) L) ⟨Qk.o.drew,Ut.o.drew⟩ (SR (.vl J λ_ j=>FV 2 j.1)<|SR (.vl J λ_ j=>FV 4 j.1)<|SR (.cl λh _=>Qd.o _ _ _ (h.g 0) (h.g 1))<|SR (.vl J λ_ j=>FV 3 j.1)<|SR (.vl J λ_ j=>FV 4 j.1)<|SR (.cl λh _=>Qf.o _ _ _ (h.g 3) (h.g 4))<|SR (.wr J λh j=>GP 2 j.1 (h.g 2) (hT:=λn m=>⟨m,j.2.set1 n J _⟩))<|SR (.wr J λh j=>GP 3 j.1 (h.g 5) (hT:=λn m=>⟨m,j.2.set1 n J _⟩)) Stp.end_)
       λf gj hF l=>?_
      obtain⟨l,I⟩:=l;replace I:=Z I;refine DO ?_;have l:=Du l;have Ql:=Z l;clear l hF;clear Qk;have Qp:Hid (DI w gj [some (w.heap.size,.poly q),some (Q,.poly c),some (B9,.poly (Dp g P)),some (B10,.poly (Dp (JR s (Jb g)) P))]):=Z (Ql.o.take 4);have Qj:=Z (show(DS w0 y0 (k+1)).1=Dp g P/\(DS w0 y0 (k+1)).2=Dp (JR s (Jb g)) P by rw[DS];unfold Li;rw[A.o.1,A.o.2.1,Qo.o];exact⟨J,J⟩);have Uv:T+1<=9223372036854775807:=by have:=Qg.o;omega
      clear Ql;go_wp2_with fail
      go_roundw
      case rel=>exact⟨k+1,S,U,O,by rw[Qh.o,Qi.o],by rw[Qg.o];go_num,by rw[Qh.o,Qi.o];exact I,by rw[Qj.o.1,Qj.o.2];exact Qp⟩
      case measure=>simp[intOf];have:=Qg.o;omega
  . obtain rfl:k=N:=O
    have Us:¬(0:Int)<d1:=by have h1:=Wc.o;rw[A.o.1]at h1;have:=Uo.o;omega
    go_wp2_with(go_at_call 75;refine G.o.mono ?_;rintro e w1 ⟨rfl,hq⟩;clear Qc;have Qc:=(boxed_below aj hq).cell)
    have HF:=Z (show EK true w.heap.size w1 (C S ll U) (yL w0 y0 k)/\Bl w w1 by rw[A.o.2.2.1];exact⟨XL.o.below hq,(M6.o.below hq).2.2⟩);go_ret;exact⟨_,J,HF.o⟩
end M3
end
section
variable{P g:List Rat}{K M l n:Nat}
theorem o9:∀D:Nat,1<D->∃l,1<l/\l∣D/\∀a:Nat,¬l∣a->Nat.gcd l a=1:=by
 intro D;induction D using Nat.strongRecOn with
 |ind D g=>
  intro hD;by_cases h:∀d,d∣D->d=1\/d=D
  . refine⟨D,hD,Nat.dvd_refl _,λa n=>?_⟩;grind[C8,CO]
  . obtain⟨d,f⟩:=Classical.not_forall.1 h;obtain⟨b,c⟩:=Classical.not_imp.1 f;have j:d≠1/\d≠D:=⟨λe=>c (Or.inl e),λe=>c (Or.inr e)⟩;have k:d<=D:=Nat.le_of_dvd O b;have m:d≠0:=λe=>by subst e;omega
    obtain⟨l,l1,l2,i⟩:=g d O O;exact⟨l,l1,Nat.dvd_trans l2 b,i⟩
theorem RY{P:Nat->Prop}(h:∃a,P a):∃a,P a/\∀i,i<a->¬P i:=by
 obtain⟨a,b⟩:=h;induction a using Nat.strongRecOn with
 |ind a c=>
  grind
theorem pB{l:Int}{f:Nat->Int}{a:Nat}:∀n,a<n->(∀i,i<n->i≠a->l∣f i)->l∣Xb n f->l∣f a:=by
 have c:∀n,(∀i,i<n->l∣f i)->l∣Xb n f:=λn=>by
  induction n with
  |zero=>exact λ_=>Int.dvd_zero _
  |succ n b=>exact λh=>by rw[Xb];grind[Int.dvd_add]
 intro n;induction n with
 |zero=>intro h;omega
 |succ n b=>
  intro k h hs;rw[Xb]at hs;by_cases e:a=n
  . subst e;have g:=c a λi hi=>h i O O;have j:=Int.dvd_sub hs g;grind
  . refine b O (λi hi=>h i O) ?_;have j:=Int.dvd_sub hs (h n O λd=>e d.symm);grind
theorem pC(hl:∀a:Nat,¬l∣a->Nat.gcd l a=1){r s:Nat->Int}(o:∀i,n<=i->r i=0)(h:∀k,(l:Int)∣Xb n λi=>if i<=k then r i*s (k-i)else 0)(e:∃a,¬(l:Int)∣r a)(hs:∃b,¬(l:Int)∣s b):False:=by
 obtain⟨a,f,g⟩:=RY e;obtain⟨b,hb,j⟩:=RY hs;have d:a<n:=by
  by_cases c:a<n
  . exact c
  . grind[Int.dvd_zero]
 have c:=pB n d (λi hi m=>by
  grind[Int.dvd_trans,Int.dvd_mul_right,Int.dvd_mul_left,Int.dvd_zero]) (h (a+b))
 grind[dvd_one,AF,CB]
theorem pD{p:List Rat}{L G:Int}(H:∀i,((cf p i).den:Int)∣L)(I:∀u:Int,(∀i,((cf p i).den:Int)∣u)->L∣u)(B:∀i,G∣(cf p i).num)(D:∀v:Int,(∀i,v∣(cf p i).num)->v∣G)(A:G≠0){c:Rat}(M:∀i,∃z:Int,cf p i*c=(z:Rat)):
 ∃t:Int,∀i,∃r:Int,cf p i*((L:Rat)/(G:Rat))=(r:Rat)/\cf p i*c=((r*t:Int):Rat):=by
 have o:(c.den:Int)≠0:=by have:=c.den_nz;omega
 have g:∀i,∃z:Int,cf p i*c=(z:Rat)/\(cf p i).num*c.num=z*((cf p i).den*c.den):=λi=>by
  obtain⟨z,a⟩:=M i;refine⟨z,a,?_⟩;have s:c*(c.den:Rat)=(c.num:Rat):=Hw c;have j:cf p i*((cf p i).den:Rat)=((cf p i).num:Rat):=Hw _;have w:(((cf p i).num*c.num:Int):Rat)=((z*(((cf p i).den:Int)*(c.den:Int)):Int):Rat):=by
   rw[At,At,At,AG,AG,<-s,<-j,<-a];grind
  exact Rat.intCast_inj.1 w
 have k:L∣c.num:=I _ λi=>by
  obtain⟨z,_,e⟩:=g i;have b:((cf p i).den:Int)∣(cf p i).num*c.num:=⟨z*c.den,DG⟩;rw[Int.mul_comm]at b;refine dvd_one b ?_;rw[AF,CN];exact(cf p i).reduced
 have hv:(c.den:Int)∣G:=D _ λi=>by
  obtain⟨z,_,e⟩:=g i;have b:(c.den:Int)∣(cf p i).num*c.num:=⟨z*(cf p i).den,DG⟩;refine dvd_one b ?_;rw[AF,CN];exact c.reduced
 obtain⟨u,k⟩:=k;obtain⟨v,hv⟩:=hv;refine⟨u*v,λi=>?_⟩;obtain⟨e,l⟩:=H i;obtain⟨m,n⟩:=B i;obtain⟨z,x,a⟩:=g i;have K:((cf p i).den:Int)≠0:=by have:=(cf p i).den_nz;omega
 have q:z=m*e*(u*v):=by
  have y:z*(((cf p i).den:Int)*c.den)=m*e*(u*v)*(((cf p i).den:Int)*c.den):=by
   rw[<-a,n,k,hv,l];generalize ((cf p i).den:Int)=d;generalize (c.den:Int)=f;grind
  exact Int.eq_of_mul_eq_mul_right (Cq K o) y
 refine⟨m*e,?_,by rw[x,q]⟩;have N:(G:Rat)≠0:=by exact_mod_cast A
 have j:cf p i*((cf p i).den:Rat)=((cf p i).num:Rat):=Hw _;rw[n,At]at j;have P:(L:Rat)=((cf p i).den:Rat)*(e:Rat):=by rw[l,At,AG]
 grind
theorem Y0{p:List Rat}(hp:Jc p=p)(b:p≠[]){c:Rat}(f:∀i,∃z:Int,cf p i*c=(z:Rat)):∃t:Int,∀i,∃r:Int,cf (Jo p) i=(r:Rat)/\cf p i*c=((r*t:Int):Rat):=by
 have a:∀i,p.length<=i->cf p i=0:=λi hi=>Yn hi;obtain⟨t,d⟩:=pD (p:=p) (L:=(XR p p.length:Int)) (G:=(XD p p.length:Int)) (λi=>by
  by_cases hi:i<p.length
  . grind[Int.natCast_dvd_natCast,RK]
  . rw[a i O];exact Int.one_dvd _) (λu e=>CB.2 (RL p _ (λi=>CB.1 (e i)) _)) (λi=>by
  by_cases hi:i<p.length
  . exact CB.2 (RM p _ i hi)
  . rw[a i O];exact Int.dvd_zero _) (λv hv=>by
  have:v.natAbs∣XD p p.length:=Wm p _ (λi=>Cu.2 (hv i)) _
  grind[Int.natAbs_dvd,Int.natCast_dvd_natCast]) (by have:=Mi hp b;omega) f
 refine⟨t,λi=>?_⟩;obtain⟨r,g,j⟩:=d i;grind[Jo,YB,AG]
theorem Y2{p:List Rat}(hp:Jc p=p)(j:p≠[]){r:Nat->Int}(k:∀i,cf (Jo p) i=(r i:Rat))(hl:1<l):∃i,¬(l:Int)∣r i:=by
 by_cases h:∃i,¬(l:Int)∣r i
 . exact h
 . exfalso
   have m:∀i,(l:Int)∣r i:=λi=>Classical.not_not.1 λa=>h ⟨i,a⟩;have n:(l:Rat)≠0:=by exact_mod_cast (show l≠0 by omega)
   obtain⟨c,D,e⟩:=Xd hp;have G:c≠0:=λg=>by grind
   have b:∀i,cf p i*c=(r i:Rat):=λi=>by rw[<-YB,<-e,k]
   obtain⟨t,y⟩:=Y0 hp j (c:=c/(l:Rat)) (λi=>by
    obtain⟨q,hq⟩:=m i;refine⟨q,?_⟩;have a:c/(l:Rat)*(l:Rat)=c:=Ak n;have d:=b i;rw[hq,At,AG]at d;grind)
   obtain⟨z,a,d⟩:=y (p.length-1);have H:=Js hp j;have s:z=r (p.length-1):=Rat.intCast_inj.1 (by rw[<-a,k]);have o:r (p.length-1)≠0:=λg=>by
    have f:=b (p.length-1);rw[g]at f;grind
   have f:=b (p.length-1);have u:((r (p.length-1):Int):Rat)=(((r (p.length-1))*(t*(l:Int)):Int):Rat):=by
    rw[<-f,At,At,AG];rw[s,At]at d;grind
   have v:=Rat.intCast_inj.1 u;have B:t*(l:Int)=1:=by
    have w:r (p.length-1)*1=r (p.length-1)*(t*(l:Int)):=by rw[Fv];exact v
    exact(Int.eq_of_mul_eq_mul_left o w).symm
   have x:(l:Int)∣1:=⟨t,DG⟩;have A:=Int.le_of_dvd DJ x;omega
theorem RZ{p:List Rat}(hp:Jc p=p)(b:p≠[]):∀i,∃r:Int,cf (Jo p) i=(r:Rat):=by
 obtain⟨t,j⟩:=Y0 hp b (c:=(XR p p.length:Rat)) (λi=>by
  have f:(cf p i).den∣XR p p.length:=by
   by_cases hi:i<p.length
   . exact RK p _ i hi
   . rw[Yn O];exact Nat.one_dvd _
  obtain⟨e,g⟩:=f;refine⟨(cf p i).num*(e:Int),?_⟩;have a:cf p i*((cf p i).den:Rat)=((cf p i).num:Rat):=Hw _;rw[g,At,<-a,AG,Rat.natCast_mul];grind)
 intro i;obtain⟨r,d,_⟩:=j i;exact⟨r,d⟩
theorem pE(L:Jc P=P)(j:P≠[])(Q:∀i,∃z:Int,cf P i=(z:Rat))(hg:Jc g=g)(h:Dv g P):
 ∃H:List Rat,Jc H=H/\P=Ji (Jo g) H/\∀i,∃z:Int,cf H i=(z:Rat):=by
 have g0:g≠[]:=λe=>j (by
  obtain⟨c,M⟩:=h;grind[XF,ev])
 obtain⟨B,T,G⟩:=Xd hg;have u:B≠0:=λD=>by grind
 have N:Dv (Jo g) P:=by rw[G];exact h.of_sc u
 obtain⟨H,d,eP⟩:=N.some L;have f:H≠[]:=λe=>j (by rw[eP,e];exact YM _);refine⟨H,d,eP,?_⟩;obtain⟨c,M,m⟩:=Xd d;have w:c≠0:=λD=>by grind
 obtain⟨r,p⟩:=Classical.axiomOfChoice (RZ hg g0);obtain⟨s,hs⟩:=Classical.axiomOfChoice (RZ d f);obtain⟨z,R⟩:=Classical.axiomOfChoice Q;have q:DM c P=Ji (Jo g) (Jo H):=by
  refine YL (JH _ _) (Jn _ _) λx=>?_;have a:ev P x=ev (Jo g) x*ev H x:=by rw[<-Jd,<-eP]
  rw[Jp,Jd,m,Jp,a];grind
 have v:∀k,(z k:Rat)*c=((Xb (Jo g).length (λi=>if i<=k then r i*s (k-i)else 0):Int):Rat):=λk=>by
  rw[<-R k,<-YB,q,OX _ _ (Aa _)];refine RH λi _=>?_;split
  . grind
  . rfl
 have y:c*(c.den:Rat)=(c.num:Rat):=Hw c;have t:∀k,z k*c.num=(c.den:Int)*Xb (Jo g).length (λi=>if i<=k then r i*s (k-i)else 0):=λk=>by
  have a:((z k*c.num:Int):Rat)=(((c.den:Int)*Xb (Jo g).length (λi=>if i<=k then r i*s (k-i)else 0):Int):Rat):=by
   rw[At,At,<-v k,AG,<-y];grind
  exact Rat.intCast_inj.1 a
 have A:c.num≠0:=λe=>w (Fn.1 e);have U:c.num.natAbs=1:=by
  by_cases a:c.num.natAbs=1
  . exact a
  . exfalso
    have I:c.num.natAbs≠0:=Int.natAbs_ne_zero.2 A;obtain⟨l,l1,l2,S⟩:=o9 c.num.natAbs O;refine pC S (r:=r) (s:=s) (n:=(Jo g).length) (λi hi=>?_) (λk=>?_) (Y2 hg g0 p l1) (Y2 d f hs l1)
    . have b:=p i;rw[Yn hi]at b;exact(Rat.intCast_inj.1 (show((0:Int):Rat)=_ from b)).symm
    . have b:(l:Int)∣(c.den:Int)*Xb (Jo g).length (λi=>if i<=k then r i*s (k-i)else 0):=by
       rw[<-t k];exact Int.dvd_trans (CB.2 l2) (Int.dvd_mul_left _ _)
      rw[Int.mul_comm]at b;refine dvd_one b ?_;rw[AF,AF];have o:Nat.gcd l c.den∣Nat.gcd c.num.natAbs c.den:=Nat.dvd_gcd (Nat.dvd_trans (C8 _ _) l2) (CO _ _);have K:Nat.gcd c.num.natAbs c.den=1:=c.reduced;rw[K]at o;exact Nat.dvd_one.1 o
 intro i;refine⟨s i*(c.den:Int)*c.num,?_⟩;have a:cf H i*c=(s i:Rat):=by rw[<-hs,m,YB]
 have I:(c.num:Rat)*(c.num:Rat)=1:=by
  rw[<-At];have b:c.num*c.num=1:=by
   grind
  rw[b];rfl
 rw[At,At,AG,<-a];grind
def D0:List Int->Int->Int
 |[],_=>0
 |c::t,x=>c+x*D0 t x
def cz(g:List Int)(i:Nat):Int:=g[i]?.getD 0
theorem pF(i:Nat):cz [] i=0:=rfl
def Of(c:Int)(t:List Int):cz (c::t) 0=c:=rfl
def Mq(c:Int)(t:List Int)(i:Nat):cz (c::t) (i+1)=cz t i:=rfl
theorem Ra{g:List Int}{i:Nat}(h:g.length<=i):cz g i=0:=by unfold cz;grind
def Xe:List Int->Int->List Int × Int
 |[],_=>([],0)
 |c::t,k=>((Xe t k).2::(Xe t k).1,c+k*(Xe t k).2)
theorem Rb(k x:Int):∀g:List Int,D0 g x=(x-k)*D0 (Xe g k).1 x+(Xe g k).2:=by
 intro g;induction g with
 |nil=>simp[D0,Xe]
 |cons c t a=>rw[D0,Xe,a];simp only[D0];grind
theorem ZA(k:Int)(g:List Int):(Xe g k).2=D0 g k:=by
 grind[Rb]
theorem Rc(k:Int):∀(g:List Int),cz g 0=(Xe g k).2-k*cz (Xe g k).1 0/\∀i,cz g (i+1)=cz (Xe g k).1 i-k*cz (Xe g k).1 (i+1):=by
 intro g;induction g with
 |nil=>grind[pF,Xe]
 |cons c t a=>
  rw[Xe];refine⟨by rw[Of,Of];omega,λi=>?_⟩;cases i with
  |zero=>rw[Mq,Of,Mq];exact a.1
  |succ i=>rw[Mq,Mq,Mq];exact a.2 i
theorem ZB(k:Int)(g:List Int){m:Nat}(h:∀i,m+1<=i->cz g i=0):∀i,m<=i->cz (Xe g k).1 i=0:=by
 have a:∀d i,m<=i->(Xe g k).1.length<=i+d->cz (Xe g k).1 i=0:=λd=>by
  induction d with
  |zero=>intro i _ b;exact Ra O
  |succ d c=>
   intro i hi b;have e:=c (i+1) O O;have f:=(Rc k g).2 i;grind
 intro i hi;exact a (Xe g k).1.length i hi O
theorem pG:∀(m:Nat) (g:List Int),(∀i,m<=i->cz g i=0)->(∃i,cz g i≠0)->∀b:List Int,b.Nodup->(∀k∈b,D0 g k=0)->b.length<m:=by
 intro m;induction m with
 |zero=>intro g h ⟨i,hi⟩;grind
 |succ m e=>
  intro g h ⟨d,l⟩ b hn hk;cases b with
  |nil=>simp
  |cons a b=>
   rw[List.nodup_cons]at hn;have o:(Xe g a).2=0:=by rw[ZA];exact hk a DH
   have hq:∃i,cz (Xe g a).1 i≠0:=by
    by_cases c:∃i,cz (Xe g a).1 i≠0
    . exact c
    . exfalso
      have f:=Rc a g;cases d with
      |zero=>grind
      |succ i=>grind
   have j:=e (Xe g a).1 (ZB a g h) hq b hn.2 (λk n=>by
    grind[Rb,Int.mul_eq_zero])
   grind
theorem pH(B:Nat):∀(m:Nat) (g:List Int) (M:Nat),(∀i,m<=i->cz g i=0)->∀b:List Int,b.Nodup->b.length=m->(∀k∈b,(D0 g k).natAbs<=M/\k.natAbs<=B)->∀i,(cz g i).natAbs<=M*(2*B+3)^m:=by
 intro m;induction m with
 |zero=>intro g M h b _ _ _ i;grind
 |succ m s=>
  intro g M h b hn hl hk i;cases b with
  |nil=>simp at hl
  |cons a b=>
   rw[List.nodup_cons]at hn;obtain⟨l,n⟩:=hk a DH;have z:((Xe g a).2).natAbs<=M:=by rw[ZA];exact l
   have hq:=s (Xe g a).1 (2*M) (ZB a g h) b hn.2 (by simpa using hl) (λk r=>by
    obtain⟨j,c⟩:=hk k (by simp[r]);refine⟨?_,c⟩;have v:=Rb a k g;have o:(k-a)*D0 (Xe g a).1 k=D0 g k-(Xe g a).2:=O
    have p:(k-a).natAbs*(D0 (Xe g a).1 k).natAbs<=2*M:=by
     rw[<-Co,o];omega
    have q:0<(k-a).natAbs:=Int.natAbs_pos.2 λe=>hn.1 DG;exact Ac (Cs _ q) p)
   obtain⟨X,hX⟩:∃X,2*M*(2*B+3)^m=X:=⟨_,J⟩;rw[hX]at hq;have w:2*M<=X:=by rw[<-hX];exact AW _ (Cz O)
   have x:X+B*X<=M*(2*B+3)^(m+1):=by
    have e:M*(2*B+3)^(m+1)*2=X*(2*B+3):=by rw[<-hX,Cj];grind
    have t:X*(2*B+3)=2*(B*X)+3*X:=DG
    omega
   have d:∀y:Int,(a*y).natAbs<=B*y.natAbs:=λy=>by rw[Co];exact Ad _ n
   have f:=Rc a g;cases i with
   |zero=>
    rw[f.1];have j:=d (cz (Xe g a).1 0);have c:B*(cz (Xe g a).1 0).natAbs<=B*X:=Ah _ (hq 0);omega
   |succ i=>
    rw[f.2];have j:=d (cz (Xe g a).1 (i+1));have c:B*(cz (Xe g a).1 (i+1)).natAbs<=B*X:=Ah _ (hq (i+1));have u:=hq i;omega
theorem pI{B:Nat}:∀(g:List Int) (k:Int),(∀i,(cz g i).natAbs<=M)->k.natAbs<=B->(D0 g k).natAbs<=M*(B+1)^g.length:=by
 intro g;induction g with
 |nil=>intro k _ _;simp[D0]
 |cons c t j=>
  intro k h hk;have b:=j k (λi=>h (i+1)) hk;have f:=h 0;rw[Of]at f;rw[D0,Ai,Cj];obtain⟨a,d⟩:=ex ((B+1)^t.length);rw[d]at b ⊢;have e:1<=a:=by rw[<-d];exact Cz O
  have l:(k*D0 t k).natAbs<=B*(M*a):=by rw[Co];exact Cn hk b
  have m:M<=M*a:=AW _ e;grind[]
def Mr(g:List Int):List Rat:=g.map (λz:Int=>(z:Rat))
theorem Re(g:List Int)(i:Nat):cf (Mr g) i=(cz g i:Rat):=by
 unfold cf Mr cz;rw[CW];cases g[i]? with
 |none=>rfl
 |some z=>rfl
def Rf(k:Int):∀g:List Int,ev (Mr g) (k:Rat)=(D0 g k:Rat):=by
 intro g;induction g with
 |nil=>rfl
 |cons c t a=>
  show(c:Rat)+(k:Rat)*ev (Mr t) (k:Rat)=_;rw[a,D0,CY,At]
def Rg{p:List Rat}(h:∀i,∃z:Int,cf p i=(z:Rat)):∃g:List Int,p=Mr g/\g.length=p.length:=by
 induction p with
 |nil=>exact⟨[],J,J⟩
 |cons c t e=>
  obtain⟨g,b,d⟩:=e (λi=>by have:=h (i+1);rwa[Ys]at this);obtain⟨z,a⟩:=h 0;rw[Xm]at a;exact⟨z::g,by rw[a,b];rfl,by simp[d]⟩
theorem nodup_range(n:Nat):((List.range n).map (λi:Nat=>(i:Int))).Nodup:=by
 grind[List.nodup_range]
theorem pJ(t:Jc P=P)(d:P≠[])(hl:P.length<=n+1)(j:∀i,∃z:Int,z.natAbs<=M/\cf P i=(z:Rat))(hg:Jc g=g)(h:Dv g P):
 ∀i,∃z:Int,z.natAbs<=M*(2*n+1)^(n+1)*(2*(2*n)+3)^(n+1)/\cf (Jo g) i=(z:Rat):=by
 obtain⟨H,G,eP,I⟩:=pE t d (λi=>by obtain⟨z,_,c⟩:=j i;exact⟨z,c⟩) hg h;have g0:g≠[]:=λe=>d (by rw[eP,e];rfl);have m:H≠[]:=λe=>d (by rw[eP,e];exact YM _);obtain⟨a,s,lp⟩:=Rg (p:=P) (λi=>by obtain⟨z,_,c⟩:=j i;exact⟨z,c⟩);obtain⟨f,r,lg⟩:=Rg (RZ hg g0);obtain⟨K,D,lh⟩:=Rg I;have W:(Jo g).length<=n+1:=by
  have b:=JC (J1 g) G (λe=>d (by rw[eP,e];rfl)) m;rw[<-eP]at b;have c:0<H.length:=Ae.2 m;omega
 have A:∀i,(cz a i).natAbs<=M:=λi=>by
  obtain⟨z,b,c⟩:=j i;grind[Re,Rat.intCast_inj]
 have o:∀k:Int,D0 a k=D0 f k*D0 K k:=λk=>by
  have b:ev P (k:Rat)=ev (Jo g) (k:Rat)*ev H (k:Rat):=by rw[<-Jd,<-eP]
  rw[s,r,D,Rf,Rf,Rf,<-At]at b;exact Rat.intCast_inj.1 b
 obtain⟨R,u⟩:=ex ((List.range (2*n+1)).map (λi:Nat=>(i:Int)));have q:R.Nodup:=by rw[<-u];exact nodup_range _
 have U:R.length=2*n+1:=by rw[<-u];simp
 have T:∀k∈R,k.natAbs<=2*n:=λk hk=>by
  grind
 have V:(R.filter λk=>D0 a k==0).length<n+1:=by
  refine pG (n+1) a (λi hi=>Ra O) ?_ _ (q.filter _) (λk hk=>by
   grind)
  refine⟨P.length-1,λe=>Js t d ?_⟩;have b:=Re a (P.length-1);rw[<-s,e]at b;exact b
 have X:(R.filter λk=>D0 a k==0).length+(R.filter λk=>!(D0 a k==0)).length=R.length:=by
  rw[<-List.countP_eq_length_filter,<-List.countP_eq_length_filter];have b:=List.length_eq_countP_add_countP (l:=R) λk=>D0 a k==0;have c:List.countP (λk=>!(D0 a k==0)) R=List.countP (λk=>decide ¬((D0 a k==0)=true)) R:=by congr 1;funext k;grind
  omega
 obtain⟨S,v⟩:=ex ((R.filter λk=>!(D0 a k==0)).take (n+1));have x:S.length=n+1:=by rw[<-v,Ay];omega
 have y:S.Nodup:=by rw[<-v];exact List.Sublist.nodup (List.take_sublist _ _) (q.filter _)
 have B:∀k∈S,D0 a k≠0/\k.natAbs<=2*n:=λk hk=>by
  grind
 have w:=pH (2*n) (n+1) f (M*(2*n+1)^(n+1)) (λi hi=>Ra O) S y x (λk hk=>by
  obtain⟨b,c⟩:=B k hk;refine⟨?_,c⟩;have L:=pI a k A c;have N:M*(2*n+1)^a.length<=M*(2*n+1)^(n+1):=Ah _ (Aq O O);have Q:(D0 f k).natAbs<=(D0 a k).natAbs:=by
   rw[o k,Co];refine AW _ (Int.natAbs_pos.2 λe=>b ?_);rw[o k,e,Fx]
  omega)
 intro i;exact⟨cz f i,w i,by rw[r,Re]⟩
theorem Ln.mul{N:Nat}{p q:List Rat}(hp:Ln K p)(hq:Ln N q)(hl:p.length<=1000000000):Ln (K+N+1) (Ji p q):=by
 obtain⟨c,j,b⟩:=hp;obtain⟨d,l,a⟩:=hq;obtain⟨z,b⟩:=Classical.axiomOfChoice b;obtain⟨y,a⟩:=Classical.axiomOfChoice a;refine⟨c*d,Xc j l,λk=>⟨Xb p.length λi=>if i<=k then z i*y (k-i)else 0,?_,?_⟩⟩
 . have e:(Xb p.length λi=>if i<=k then z i*y (k-i)else 0).natAbs<=p.length*(Y^K*Y^N):=OU λi _=>by
    split
    . rw[Co];have f:=(b i).1;have g:=(a (k-i)).1;unfold Sm at f g;exact Cn O O
    . simp
   grind[Sm,Y,Cv,AO,Nat.mul_lt_mul_left]
 . rw[OX p q (Aa _)];have e:∀n,Dr n (λi=>if i<=k then cf p i*cf q (k-i)else 0)*(c*d)=((Xb n (λi=>if i<=k then z i*y (k-i)else 0):Int):Rat):=λn=>by
    induction n with
    |zero=>simp[Dr,Xb,Rat.zero_mul]
    |succ n m=>
     rw[Dr,Xb,CY,<-m];split
     . grind
     grind
   exact e _
theorem Ln.slope{p:List Rat}(h:Ln K p)(hl:p.length<=1000000000):Ln (K+1) (Jb p):=by
 obtain⟨c,b,d⟩:=h;refine⟨c,b,λi=>?_⟩;obtain⟨z,a,e⟩:=d (i+1);rw[XM];by_cases hi:i+1<p.length
 . refine⟨z*((i+1:Nat):Int),a.mul (by unfold Sm Y;omega),?_⟩;grind
 . exact⟨0,Sm.zero _,by grind[Yn]⟩
theorem Dv.lnN{e:Nat}(b:Jc P=P)(o:P≠[])(hl:P.length<=n+1)(D:(2*n+1)^(n+1)*(2*(2*n)+3)^(n+1)<=Y^e)(G:Ln K P)(hg:Jc g=g)(h:Dv g P):Ln (K+e) g:=by
 obtain⟨c,I,j⟩:=Xd b;have r:c≠0:=λs=>by grind
 have y:Jo P≠[]:=by rw[j];exact Gh r b o
 have A:Dv g (Jo P):=by rw[j];exact h.sc c
 have u:=Lf b G;have v:=pJ (n:=n) (M:=Y^K-1) (J1 P) y (by rw[JL b];omega) (λi=>by
  obtain⟨z,k,l⟩:=u i;unfold Sm at k;grind) hg A
 have w:Ed (K+e) (Jo g):=λi=>by
  obtain⟨z,k,l⟩:=v i;refine⟨z,?_,l⟩;unfold Sm;have hk:0<Y^K:=Cz Ic;have p:0<Y^e:=Cz Ic;have a:(Y^K-1)*((2*n+1)^(n+1)*(2*(2*n)+3)^(n+1))<=(Y^K-1)*Y^e:=Ah _ D;rw[<-Ct]at a;have m:(Y^K-1)*Y^e<Y^K*Y^e:=(Nat.mul_lt_mul_right p).2 O;grind
 obtain⟨f,L,t⟩:=Xd hg;have q:f≠0:=λs=>by grind
 have a:=w.ln;rw[t]at a;obtain⟨d,B,H⟩:=a;refine⟨f*d,Xc q B,λi=>?_⟩;obtain⟨z,m,x⟩:=H i;exact⟨z,m,by rw[<-x,YB];grind⟩
def Og:(2*24+1)^(24+1)*(2*(2*24)+3)^(24+1)<=Y^5:=by unfold Y;decide
def pK:(2*47+1)^(47+1)*(2*(2*47)+3)^(47+1)<=Y^11:=by unfold Y;decide
theorem Dv.len{a b:List Rat}(f:Jc a=a)(hb:Jc b=b)(b0:b≠[])(h:Dv a b):a.length<=b.length/\a≠[]:=by
 obtain⟨c,g,e⟩:=h.some hb;have a0:a≠[]:=λd=>b0 (by rw[e,d];rfl);grind[YM,JC,Ae]
theorem Ms{a b:List Rat}(c:Jc a=a)(hb:Jc b=b)(a0:a≠[])(b0:b≠[]):cf (Ji a b) ((Ji a b).length-1)=cf a (a.length-1)*cf b (b.length-1):=by
 have l:=JC c hb a0 b0;have p1:0<a.length:=Ae.2 a0;have d:0<b.length:=Ae.2 b0;rw[l,show a.length+b.length-1-1=(a.length-1)+(b.length-1)by omega];grind[Ji,Yw,PL]
def pL{R:List Rat}(c:Jc R=R)(hl:1<R.length):(Jb R).length=R.length-1/\cf (Jb R) ((Jb R).length-1)=cf R (R.length-1)*(((R.length-1:Nat):Int):Rat):=by
 have R0:R≠[]:=λe=>by rw[e]at hl;simp at hl
 have d:=Y6 R0;have b:cf (Jb R) (R.length-2)≠0:=by
  rw[XM,show R.length-2+1=R.length-1 by omega];exact Xc (Js c R0) (by
   intro e
   have:((R.length-1:Nat):Int)=0:=by exact_mod_cast e
   omega)
 have f:=RG b;have a:(Jb R).length=R.length-1:=O
 refine⟨a,?_⟩;rw[a,XM,show R.length-1-1+1=R.length-1 by omega]
def Oh{q:List Rat}(tq:Jc q=q)(q0:q≠[])(a:Jr q=q):cf q (q.length-1)=1:=by
 have:=RI tq q0;rwa[a]at this
theorem ZC{q R w y:List Rat}(tq:Jc q=q)(q0:q≠[])(lq:q.length<=25)(g:Ln K q)(tR:Jc R=R)(G:Jr R=R)(tw:Jc w=w)(mw:Jr w=w)(ty:Jc y=y)(f:Dv R q)(dw:Dv w q)
(A:∀x,ev y x*ev R x=ev w x*ev (Jb R) x):∃D:Int,D≠0/\Sm (2*K+24) D/\EP D (2*K+24) y:=by
 by_cases y0:y=[]
 . subst y0;exact RS O
 . obtain⟨P,R0⟩:=f.len tR tq q0;obtain⟨S,w0⟩:=dw.len tw tq q0;have b:Ji y R=Ji w (Jb R):=YL (Jn _ _) (Jn _ _) λx=>by rw[Jd,Jd,A]
   have p0:Ji w (Jb R)≠[]:=by rw[<-b];exact Yu ty tR y0 R0
   have c:Jb R≠[]:=λe=>p0 (by rw[e];exact YM _);have v:1<R.length:=by
    have H:0<(Jb R).length:=Ae.2 c;have:=Y6 R0;omega
   obtain⟨Q,B⟩:=pL tR v;have t:Ln (K+5) R:=f.lnN (n:=24) tq q0 O Og g tR;have r:Ln (K+5) w:=dw.lnN (n:=24) tq q0 O Og g tw;have p:=r.mul (t.slope O) O;have N:=JC tw (Jv R) w0 c;have s:Dv y (Ji w (Jb R)):=⟨R,λx=>by rw[<-b,Jd]⟩;have u:=s.lnN (n:=47) (e:=11) (Jn _ _) p0 O pK p ty;have a:=Ms ty tR y0 R0;have o:=Ms tw (Jv R) w0 c;rw[b]at a;rw[o,B,Oh tw w0 mw,Oh tR R0 G]at a;have m:cf y (y.length-1)=(((R.length-1:Nat):Int):Rat):=by
    rw[Fg,Fg,Rat.mul_one]at a;exact a.symm
   obtain⟨E,j,k,l⟩:=RP ty y0 u;refine⟨E,j,k.mono O,λi=>?_⟩;have z:cf y i=cf (Jr y) i*(((R.length-1:Nat):Int):Rat):=by
    unfold Jr;rw[YB,<-m];have I:(1/cf y (y.length-1))*cf y (y.length-1)=1:=Ak (Js ty y0);grind
   rw[z];have L:=(l i).mul (E:=1) (M:=1) (d:=(((R.length-1:Nat):Int):Rat)) ⟨((R.length-1:Nat):Int),by grind[An],by unfold Sm Y;omega⟩;grind
def ET(q w y:List Rat):Nat->List Rat
 |0=>q
 |n+1=>Jm (ET q w y n) (DS w y n).1
def Ix{p q:List Rat}(h:q≠[]):Dp p q=Jm p q:=BD h
section
variable {q w y:List Rat}
def Iy(h:Yun q w y)(m:Jr q=q):∀n,Yun (ET q w y n) (DS w y n).1 (DS w y n).2/\Dv (ET q w y n) q/\Jr (ET q w y n)=ET q w y n/\Dv (DS w y n).1 q:=by
 intro n;induction n with
 |zero=>exact⟨h,Dv.refl _,m,h.dv⟩
 |succ n l=>
  obtain⟨a,g,i,j⟩:=l;obtain⟨_,_,o,p,_,s⟩:=a.step;have c:Jt (DS w y n).1 (JR (DS w y n).2 (Jb (DS w y n).1))≠[]:=Yd a.tw (Yj _ _) (Or.inl a.w0);have e:(DS w y (n+1)).1=Jm (DS w y n).1 (Jt (DS w y n).1 (JR (DS w y n).2 (Jb (DS w y n).1))):=by rw[DS];unfold Li;exact Ix c
  have f:(DS w y (n+1)).2=Jm (JR (DS w y n).2 (Jb (DS w y n).1)) (Jt (DS w y n).1 (JR (DS w y n).2 (Jb (DS w y n).1))):=by rw[DS];unfold Li;exact Ix c
  have k:Dv (Jm (ET q w y n) (DS w y n).1) (ET q w y n):=by
   refine⟨(DS w y n).1,λx=>?_⟩;have b:=congrArg (λr=>ev r x) p;simp only[Jd]at b;rw[b];exact A2 _ _
  have d:Dv (Jm (DS w y n).1 (Jt (DS w y n).1 (JR (DS w y n).2 (Jb (DS w y n).1)))) (DS w y n).1:=by
   refine⟨Jt (DS w y n).1 (JR (DS w y n).2 (Jb (DS w y n).1)),λx=>?_⟩;have b:=congrArg (λr=>ev r x) s;simp only[Jd]at b;exact b.trans (A2 _ _)
  rw[e,f];exact⟨o,k.trans g,(Mm a.tR a.R0 i a.tw a.mw a.dv).1,d.trans j⟩
theorem Rh(h:Yun q w y)(b:Jr q=q)(n:Nat)(hn:1<(DS w y n).1.length):(ET q w y (n+1)).length<(ET q w y n).length:=by
 obtain⟨a,_,d,_⟩:=Iy h b n;obtain⟨_,_,c,e,_,_⟩:=a.step;have l:=JC a.tw (YG (ET q w y n) (DS w y n).1) a.w0 c.R0;grind[ET]
theorem pM(h:Yun q w y)(f:Jr q=q):∃N,N<=q.length/\(DS w y N).1.length<=1/\∀n,n<N->1<(DS w y n).1.length:=by
 have d:∃N,(DS w y N).1.length<=1:=by
  by_cases b:∃N,(DS w y N).1.length<=1
  . exact b
  . exfalso
    have c:∀n,1<(DS w y n).1.length:=λn=>by
     grind
    have a:∀n,(ET q w y n).length+n<=q.length:=λn=>by
     induction n with
     |zero=>exact Aa _
     |succ n e=>have:=Rh h f n (c n);omega
    have g:=a (q.length+1);omega
 obtain⟨N,i,j⟩:=RY d;have a:∀n,n<=N->(ET q w y n).length+n<=q.length:=λn=>by
  induction n with
  |zero=>exact λ_=>Aa _
  |succ n e=>
   intro hn;grind[Rh]
 grind
end
theorem pN{M K A:Nat}(hM:M<=80000)(hK:K=2*M+24)(hA:A=(K+1)*51+1){p:List Rat}(tp:Jc p=p)(hl:1<p.length)(ai:p.length<=25)(cp:Cd M p):∃N,PtOk K A N p/\N<=25:=by
 obtain⟨q,hq⟩:=ex (Jr p);have tq:Jc q=q:=by rw[<-hq];exact Yf _
 have k:Jr q=q:=by rw[<-hq];exact It tp
 have lq:q.length=p.length:=by rw[<-hq];exact X2 tp
 have q0:q≠[]:=λe=>by grind
 have cq:Cd M q:=by rw[<-hq];exact cp.mon tp
 have aj:=Y6 q0;have cs:Cd (M+1) (Jb q):=by
  obtain⟨D,d1,o,r⟩:=cq;refine⟨D,d1,o.mono O,λi=>?_⟩;rw[XM];by_cases hi:i+1<q.length
  . have c:=(r (i+1)).mul (E:=1) (M:=1) (d:=(((i+1:Nat):Int):Rat)) ⟨((i+1:Nat):Int),by grind[An],by unfold Sm Y;omega⟩;rwa[Fv]at c
  . grind[Yn,CD.zero]
 have z:∀a b:List Rat,Jc a=a->Jc b=b->Cd K a->Cd K b->a.length<=25->b.length<=25->M3.ChOk K a b/\Da K a b<=A:=λa b ta tb ca cb la lb=>by
  have c:Da K a b<=(K+1)*(25+25+1):=Ah _ O;have s:(max a.length b.length+2)*(Da K a b+1)<=(25+2)*((K+1)*(25+25+1)+1):=Cn O O;exact⟨⟨ta,tb,ca,cb,O,O⟩,O⟩
 have hb:∀n:Nat,n<=25->2*((n+3)*(A+1))<=1000000000:=λn hn=>by
  have:(n+3)*(A+1)<=(25+3)*(A+1):=Ad _ O
  omega
 have B:=Yd tq (Jv q) (Or.inl q0);obtain⟨w,P⟩:=ex (Dp q (Jt q (Jb q)));obtain⟨y,Q⟩:=ex (Dp (Jb q) (Jt q (Jb q)));have u:Yun q w y:=by
  rw[<-P,<-Q,Ix B,Ix B];exact Yun.start tq q0 k
 obtain⟨N,hN,ah,ae⟩:=pM u k;refine⟨N,?_,O⟩;have c0:=z q (Jb q) tq (Jv _) (cq.mono O) (cs.mono O) O O;refine⟨tp,cp.mono O,by rw[hq];exact c0.1,by rw[hq];exact c0.2,hb _ O,hl,O,?_,DG⟩;rw[hq,P,Q];intro n hn;refine⟨ae n hn,?_⟩;obtain⟨c,s,H,f⟩:=Iy u k n;obtain⟨s1,s2,g,s4,v,s6⟩:=c.step;obtain⟨k1,S,T,k4⟩:=Iy u k (n+1);obtain⟨a,j⟩:=ex ((DS w y n).1);obtain⟨b,I⟩:=ex ((DS w y n).2);obtain⟨R,t⟩:=ex (ET q w y n);have X:ET q w y (n+1)=Jm R a:=by rw[ET,t,j]
 rw[X]at S T;rw[j,I,t]at c g v;rw[t]at s H;rw[j]at f;rw[j,I];have la:=(f.len c.tw tq q0).1;have l:=cq.ln;have m:Cd (M+5) a:=by
  have h5:=f.lnN (n:=24) tq q0 O Og l c.tw;have:=Mj c.tw (h5.mono (L:=M+5) O) O;rwa[c.mw]at this
 have W:=ZC tq q0 O l c.tR H c.tw c.mw c.ty s f c.eq;have cB:Cd K b:=(show Cd (2*M+24) b from W).mono O;have V:=ZC tq q0 O l g.tR T c.tw c.mw (Yj _ _) S f v;have G:Cd K (JR b (Jb a)):=(show Cd (2*M+24) (JR b (Jb a))from V).mono O;have cS:Cd (M+6) (Jb a):=by
  obtain⟨D,d1,o,r⟩:=m;refine⟨D,d1,o.mono O,λi=>?_⟩;rw[XM];by_cases hi:i+1<a.length
  . have h6:=(r (i+1)).mul (E:=1) (M:=1) (d:=(((i+1:Nat):Int):Rat)) ⟨((i+1:Nat):Int),by grind[An],by unfold Sm Y;omega⟩;rwa[Fv]at h6
  . grind[Yn,CD.zero]
 have U:(JR b (Jb a)).length<=25:=by
  by_cases z0:JR b (Jb a)=[]
  . rw[z0];simp
  . have e1:Ji (JR b (Jb a)) (Jm R a)=Ji a (Jb (Jm R a)):=YL (Jn _ _) (Jn _ _) λx=>by rw[Jd,Jd,v]
    have l1:=JC (Yj b (Jb a)) g.tR z0 g.R0;have l2:=nj a (Jb (Jm R a));have l3:=Y6 g.R0;grind
 have c1:=z a (JR b (Jb a)) c.tw (Yj _ _) (m.mono O) G O U;exact⟨c1.1,c.ty,m.mono O,cS.mono O,cB.mono O,G.mono O,c1.2,hb _ O,hb _ U⟩
end
def Ri(p w y:List Rat):Nat->List Rat
 |0=>p
 |n+1=>Jm (Ri p w y n) (DS w y n).1
section
variable {p q w y:List Rat}
def pO(h:Yun q w y)(c:Jr q=q)(n:Nat):(DS w y (n+1)).1=Jm (DS w y n).1 (yP (DS w y n)):=by
 obtain⟨a,_⟩:=Iy h c n;have b:Jt (DS w y n).1 (JR (DS w y n).2 (Jb (DS w y n).1))≠[]:=Yd a.tw (Yj _ _) (Or.inl a.w0);rw[DS];unfold Li yP;exact Ix b
end
theorem Lk{p:List Rat}(tp:Jc p=p)(p0:p≠[]):cf p (p.length-1)≠0/\p=DM (cf p (p.length-1)) (Jr p):=by
 have h:=Js tp p0;refine⟨h,?_⟩;unfold Jr;rw[Ld,show 1/cf p (p.length-1)*cf p (p.length-1)=1 by grind,KR tp]
theorem ZD(k:Rat)(p:List Rat):Jb (DM k p)=DM k (Jb p):=by
 grind[Jv,JH,IX,XM,YB]
theorem pP{K:Nat}{q g:List Rat}(tq:Jc q=q)(q0:q≠[])(lq:q.length<=25)(cq:Cd K q)(tg:Jc g=g)(c:Jr g=g)(h:Dv g q):Cd (K+5) g:=by
 have b:=Dv.lnN (n:=24) (e:=5) tq q0 O Og cq.ln tg h;have a:=Mj tg b O;rw[c]at a;exact a
def Cd.scale{A B:Nat}{p r:List Rat}(hp:Cd A p)(f:Cd B r)(i:Nat):Cd (A+B) (DM (cf r i) p):=by
 obtain⟨D,d1,a,b⟩:=hp;obtain⟨E,c,d,e⟩:=f;exact⟨D*E,Cq d1 c,a.mul d,λj=>by rw[YB];exact(b j).mul (e i)⟩
structure StR(K M:Nat)(r f:List Rat):Prop where
 tr:Jc r=r
 cr:Cd M r
 tf:Jc f=f
 f0:f≠[]
 mf:Jr f=f
 ca:Cd M f
 lr:(r.length+3)*(M+1)<=1000000000
 lf:(f.length+3)*(M+1)<=1000000000
 r1:r.length<=1000
 f1:f.length<=1000
 ch:M3.ChOk K f (Jm r f)
structure ReOk(K M N:Nat)(p w y:List Rat):Prop where
 fr:M3.FrOk K p
 w0:oo p=w
 nN:N<=1000000000
 st:∀n,n<N->1<(DS w y n).1.length/\StR K M (Ri p w y n) (DS w y n).1/\Cd M (DS w y (n+1)).1/\Jc (DS w y (n+1)).1=(DS w y (n+1)).1/\(DS w y (n+1)).1≠[]/\Jr (DS w y (n+1)).1=(DS w y (n+1)).1/\
  Jt (DS w y n).1 (Ri p w y (n+1))=(DS w y (n+1)).1/\Jm (DS w y n).1 (DS w y (n+1)).1=yP (DS w y n)/\Jr (yP (DS w y n))=yP (DS w y n)/\
  Jc (yP (DS w y n))=yP (DS w y n)/\Cd M (yP (DS w y n))/\(yP (DS w y n)).length<=25
 en:(DS w y N).1.length<=1
section
variable {a b c d p q r w y R:List Rat}
theorem DP.shift(h:DP a b)(f:∀x,ev b x=ev c x+ev a x*ev d x):DP a c:=by
 obtain⟨u,v,e⟩:=h;refine⟨YK u (Ji v d),v,λx=>?_⟩;rw[Yg,Jd];grind
def DP.left(h:DP a (Ji b c)):DP a b:=(h.symm.of_dv ((Dv.refl b).mul c)).symm
def DP.right(h:DP a (Ji b c)):DP a c:=(h.symm.of_dv ((Dv.refl c).mul' b)).symm
theorem ZE(a:List Rat):Dv [1] a:=⟨a,λx=>by simp[ev];grind⟩
theorem ZF:Jr [1]=[1]:=YL (Yf _) DJ λx=>by rw[Kx];simp[cf,ev];grind
theorem Oi(hp:Jc p=p)(hq:Jc q=q)(h:DP p q):Jt p q=[1]:=by
 obtain⟨a,b,_⟩:=Yc hp hq;obtain⟨u,v,e⟩:=h;exact Dv.eq (JE _ _) DJ (YI hp hq) ZF (a.comb b u v λx=>by rw[<-e x];simp[ev];grind) (ZE _)
theorem Yun.part(h:Yun R w y):DP (Jt w (JR y (Jb w))) (Jb (Jt w (JR y (Jb w))))/\DP (Jt w (JR y (Jb w))) (Jm w (Jt w (JR y (Jb w)))):=by
 obtain⟨a,b,_⟩:=Yc h.tw (Yj y (Jb w));have c:=h.step.2.2.2.2.2;obtain⟨P,e⟩:=ex (Jt w (JR y (Jb w)));rw[e]at a b c ⊢;obtain⟨w2,g⟩:=ex (Jm w P);rw[g]at c ⊢;have c1:DP P y:=h.cop.of_dv a;obtain⟨t,f⟩:=b;have c2:DP P (Jb w):=c1.shift (d:=t) λx=>by
  have:=f x;rw[XA]at this;grind
 have c3:DP P (Ji (Jb P) w2):=c2.shift (d:=Jb w2) λx=>by
  grind[Yt,Jd]
 exact⟨c3.left,c3.right⟩
end
def Dj:List (List Rat × Nat)->Rat->Rat
 |[],_=>1
 |a::l,x=>ev a.1 x^a.2*Dj l x
theorem Oj(l m:List (List Rat × Nat))(x:Rat):Dj (l++m) x=Dj l x*Dj m x:=by
 induction l with
 |nil=>simp[Dj]
 |cons a l b=>simp only[AC,Dj,b];grind
theorem pQ(a b:Rat)(n:Nat):(a*b)^n=a^n*b^n:=by
 induction n with
 |zero=>simp
 |succ n c=>grind
theorem Ol(n:Nat):(1:Rat)^n=1:=by
 induction n with
 |zero=>simp
 |succ n a=>grind
section
variable {q w y:List Rat}
def ZG(h:Yun q w y)(b:Jr q=q)(n:Nat):Jc (yP (DS w y n))=yP (DS w y n)/\Jr (yP (DS w y n))=yP (DS w y n)/\(DS w y n).1=Ji (yP (DS w y n)) (DS w y (n+1)).1/\
 DP (yP (DS w y n)) (Jb (yP (DS w y n)))/\DP (yP (DS w y n)) (DS w y (n+1)).1/\ET q w y n=Ji (DS w y n).1 (ET q w y (n+1)):=by
 have a:=(Iy h b n).1;rw[pO h b n];obtain⟨_,_,_,c,_,d⟩:=a.step;obtain⟨c1,c2⟩:=a.part;exact⟨JE _ _,YI a.tw (Yj _ _),d,c1,c2,c⟩
theorem ZH(h:Yun q w y)(n:Jr q=q):∀N,(∀x∈yL w y N,1<x.1.length/\1<=x.2/\x.2<=N/\DP x.1 (Jb x.1)/\Jc x.1=x.1/\Jr x.1=x.1/\Dv x.1 q/\DP x.1 (DS w y N).1)/\
 (yL w y N).Pairwise (λa b=>a.2<b.2/\DP a.1 b.1):=by
 intro N;induction N with
 |zero=>exact⟨λx c=>by simp[yL]at c,by simp[yL]⟩
 |succ N e=>
  obtain⟨p,r,A,s,t,_⟩:=ZG h n N;have o:Dv (DS w y (N+1)).1 (DS w y N).1:=⟨yP (DS w y N),λx=>by
   grind[Jd]⟩
  have g:Dv (yP (DS w y N)) (DS w y N).1:=⟨(DS w y (N+1)).1,λx=>by
   grind[Jd]⟩
  rw[yL];refine⟨λx c=>?_,?_⟩
  . rcases CC.1 c with c|c
    . obtain⟨i,j,u,k,l,m,v,f⟩:=e.1 x c;exact⟨i,j,O,k,l,m,v,(f.symm.of_dv o).symm⟩
    . split at c
      . next hl=>
        simp at c;subst c;exact⟨hl,DH,Aa _,s,p,r,g.trans (Iy h n N).2.2.2,t⟩
      . simp at c
  . refine List.pairwise_append.2 ⟨e.2,by split<;>simp,λx c z d=>?_⟩;split at d
    . simp at d;subst d;obtain⟨i,j,u,k,l,m,_,f⟩:=e.1 x c;exact⟨by simp only;omega,(f.symm.of_dv g).symm⟩
    . simp at d
theorem pR(h:Yun q w y)(b:Jr q=q)(x:Rat):∀N,ev q x=Dj (yL w y N) x*(ev (DS w y N).1 x^N*ev (ET q w y N) x):=by
 intro N;induction N with
 |zero=>simp[yL,Dj,ET]
 |succ N o=>
  obtain⟨i,j,k,_,_,l⟩:=ZG h b N;have d:=congrArg (λr=>ev r x) k;have f:=congrArg (λr=>ev r x) l;simp only[Jd]at d f;rw[o,yL,Oj];have e:Dj (if 1<(yP (DS w y N)).length then [(yP (DS w y N),N+1)]else []) x=ev (yP (DS w y N)) x^(N+1):=by
   split
   . simp[Dj]
   . next hl=>
     have n:yP (DS w y N)=[1]:=by
      have g:yP (DS w y N)≠[]:=Yd (Iy h b N).1.tw (Yj _ _) (Or.inl (Iy h b N).1.w0);have a:=Oh i g j;have:=Ae.2 g;generalize yP (DS w y N)=P at *;match P,hl,this,a with
      |[c],_,_,a=>simp[cf]at a;rw[a]
      |_::_::_,hl,_,_=>exact absurd DH hl
     rw[n];have m:ev [1] x=1:=by simp[ev];grind
     rw[m,Ol];rfl
  rw[e,f];have hp:(ev (DS w y N).1 x)^(N+1)=ev (yP (DS w y N)) x^(N+1)*ev (DS w y (N+1)).1 x^(N+1):=by rw[d,pQ]
  rw[Rat.pow_succ]at hp;grind
theorem ZI{a:List Rat}(ta:Jc a=a)(ma:Jr a=a)(a0:a≠[])(hl:a.length<=1):a=[1]:=by
 have b:=Oh ta a0 ma;have:=Ae.2 a0;match a,hl,this,b with
 |[c],_,_,b=>grind[cf]
theorem pS(h:Yun q w y)(b:Jr q=q):∀N,(∀n,n<N->1<(DS w y n).1.length)->(ET q w y N).length+N<=q.length:=by
 intro N;induction N with
 |zero=>intro _;exact Aa _
 |succ N a=>
  intro hn;grind[Rh]
theorem ZJ(h:Yun q w y)(b:Jr q=q){N:Nat}(hn:∀n,n<N->1<(DS w y n).1.length)(d:(DS w y N).1.length<=1):N+1<=q.length/\∀x,ev q x=Dj (yL w y N) x:=by
 obtain⟨a,_,e,_⟩:=Iy h b N;have g:=ZI a.tw a.mw a.w0 d;have f:ET q w y N=[1]:=by
  have c:Dv (ET q w y N) (Jb (ET q w y N)):=⟨(DS w y N).2,λx=>by
   have:=a.eq x;grind[ev]⟩
  exact Dv.eq a.tR DJ e ZF (Ml a.tR a.R0 c) (ZE _)
 have hl:=pS h b N hn;grind[ev,pR,Ol]
end
variable{u:List Rat}{B e k s x z:Rat}{U:Rat->Prop}
theorem Rj{c:Rat}(h:c≠0):0<Yv c:=by
 unfold Yv;split<;>grind
theorem pT{c:Rat}(h:0<c):∀n:Nat,0<c^n:=by
 intro n;induction n with
 |zero=>grind
 |succ n a=>rw[Rat.pow_succ];exact Rat.mul_pos a h
def pV{p q:List Rat}(hq:Jc q=q)(a:q≠[]):0<Ej p q:=pT (Rj (Js hq a)) _
theorem Rk{a b:List Rat}(tb:Jc b=b)(b0:b≠[]):∃(q:List Rat) (c:Rat),0<c/\∀x,Ej a b*ev a x=ev q x*ev b x-c*ev (XW a b) x:=by
 obtain⟨k,d,hk⟩:=Xd (p:=J6 (XS a b) b) (Yp _);refine⟨Jm (XS a b) b,1/k,Yo DJ d,λx=>?_⟩;have e:=(Y9 (XS a b) b tb b0).1 x;grind[ev,XS,Jp,XW,XA]
def chnL_head(a b:List Rat):∃t,ES a b=a::t:=by
 unfold ES;cases b.length with
 |zero=>exact⟨_,J⟩
 |succ n=>
  unfold GD;split
  . exact⟨_,J⟩
  . exact⟨_,J⟩
theorem pW{a:List Rat}(ta:Jc a=a)(a0:a≠[])(x:Rat):ev (Jm a a) x=1:=by
 have h:=Y8 (u:=Jm a a) (v:=[1]) ta a0 (λx=>by
  rw[<-(JK ta a0 (Dv.refl a)).2 x,Jq];grind) x
 rwa[Jq]at h
theorem Mt:∀(n:Nat) (a b:List Rat),b.length<=n->Jc a=a->Jc b=b->a≠[]->∃g,(ES a b).getLast?=some g/\Jc g=g/\g≠[]/\Dv g a/\Dv g b/\(∀d,Dv d a->Dv d b->Dv d g)/\StC ((ES a b).map λp=>Jm p g):=by
 intro n;induction n with
 |zero=>
  intro a b hn ta _ a0
  have:b=[]:=Aj.1 O
  subst this;exact⟨a,J,ta,a0,Dv.refl a,Dv.zero a,λ_ h _=>h,StC.one (c:=1) DJ λx=>pW ta a0 x⟩
 |succ n w=>
  intro a b hn ta tb a0;by_cases b0:b=[]
  . grind
  . have hl:=Xs (a:=a) tb b0;obtain⟨g,G,tg,g0,f,k,m,e⟩:=w b (XW a b) O tb (Iu _ _) b0;obtain⟨q,c,c0,H⟩:=Rk (a:=a) tb b0;have w0:=pV (p:=a) tb b0;have y:1/Ej a b*Ej a b=1:=Ak DG;have z:1/c*c=1:=Ak DG;have i:Dv g a:=f.comb k (Ji [1/Ej a b] q) [-(1/Ej a b*c)] λx=>by
     grind[Jd,ev]
    refine⟨g,?_,tg,g0,i,f,λd d1 j=>m d j (j.comb d1 (Ji [1/c] q) [-(1/c*Ej a b)] λx=>?_),?_⟩
    . grind[XN]
    . grind[Jd,ev]
    . rw[XN tb b0];by_cases l:XW a b=[]
      . rw[l,Ky]at e ⊢;obtain⟨_,o,r⟩:=e.o;exact StC.two o r
      . obtain⟨t,s⟩:=chnL_head (XW a b) (XW b (XW a b));rw[XN (Iu _ _) l,s]at e ⊢;have A:=(JK tg g0 i).2;have B:=(JK tg g0 f).2;have D:=(JK tg g0 k).2;refine StC.more (q:=q) w0 c0 (λx=>?_) e;have:=Y8 (u:=Ji [Ej a b] (Jm a g)) (v:=JR (Ji q (Jm b g)) (Ji [c] (Jm (XW a b) g))) tg g0 (λx=>by
         grind[Jd,XA,Jq]) x
        grind[Jd,XA,Jq]
theorem Rl:∀(n:Nat) (R w y:List Rat),R.length<=n->Yun R w y->DP w (Jb w):=by
 intro n;induction n with
 |zero=>intro R w y hn h;exact absurd (Aj.1 O) h.R0
 |succ n m=>
  intro R w y hn h;by_cases hl:w.length<=1
  . obtain⟨c,p⟩:=Lg h.tw h.w0 hl;refine⟨c,[],λx=>?_⟩;grind[ev]
  . obtain⟨p1,e⟩:=h.part;obtain⟨_,_,b,i,_,f⟩:=h.step;obtain⟨a,k⟩:=ex (Jt w (JR y (Jb w)));rw[k]at p1 e b f;obtain⟨w2,l⟩:=ex (Jm w a);rw[l]at e b f;have o:(Jm R w).length<=n:=by
     have:=JC h.tw b.tR h.w0 b.R0;rw[<-i]at this;omega
    have j:=m _ _ _ o b;have g:∀x,ev (Jb w) x=ev (Jb a) x*ev w2 x+ev a x*ev (Jb w2) x:=λx=>by
     grind[Yt]
    have c1:DP a (Jb w):=(p1.mul e).shift (d:=Ji [-1] (Jb w2)) λx=>by
     rw[Jd,Jd,Jq,g];grind
    have c2:DP w2 (Jb w):=(e.symm.mul j).shift (d:=Ji [-1] (Jb a)) λx=>by
     rw[Jd,Jd,Jq,g];grind
    have c3:=(c1.symm.mul c2.symm).symm;rwa[<-f]at c3
theorem ZK(c:Rat)(p:List Rat)(x:Rat):ev (Jb (DM c p)) x=c*ev (Jb p) x:=by
 rw[X6,X6];unfold DM;rw[Sv (Yw _),Sw,A2]
def Ju(p:List Rat):List (List Rat):=(Xh p (Jb p)).map λa=>Jm a ((Xh p (Jb p)).getLast?.getD [])
def DK(p:List Rat):List Rat:=Jm (Jr p) (Jt (Jr p) (Jb (Jr p)))
def Ek(p:List Rat):List Rat:=Jm (Jb (Jr p)) (Jt (Jr p) (Jb (Jr p)))
theorem pX{p:List Rat}(tp:Jc p=p)(p0:p≠[]):StC (Ju p)/\∃f l k,Ju p=f::l/\k≠0/\(∀x,ev f x=k*ev (DK p) x)/\∀f1 l1,l=f1::l1->∃B,0<k*B/\∀x,ev f1 x=B*ev (Ek p) x:=by
 have ts:=Jv p;obtain⟨α,α0,hα⟩:=Xd tp;obtain⟨β,β0,hβ⟩:=Xd ts;obtain⟨Q,A⟩:=Lk tp p0;obtain⟨b,hl⟩:=ex (cf p (p.length-1));rw[hl]at Q A;have tR:=Yf p;have R0:=KS tp p0;obtain⟨R,z⟩:=ex (Jr p);rw[z]at A tR R0;have o:=Jv R;have a0:Jo p≠[]:=λe=>p0 (Aj.1 (by rw[<-JL tp,e];rfl));have I:∀x,ev (Jo p) x=α*b*ev R x:=λx=>by
  grind[Jp]
 have K:∀x,ev (Jo (Jb p)) x=β*b*ev (Jb R) x:=λx=>by
  grind[Jp,ZK]
 obtain⟨g,L,tg,g0,w,y,M,N⟩:=Mt _ (Jo p) (Jo (Jb p)) (Aa _) (J1 _) (J1 _) a0;obtain⟨q,r,_⟩:=Yc tR o;have i:=JE R (Jb R);have j:=Yd tR o (Or.inl R0);have U:=(JK i j q).2;have V:=(JK i j r).2;have D:Dv (Jt R (Jb R)) g:=M _ (by
  obtain⟨c,d⟩:=q;exact⟨DM (α*b) c,λx=>by rw[I,d,Jp];grind⟩) (by obtain⟨c,d⟩:=r;exact⟨DM (β*b) c,λx=>by rw[K,d,Jp];grind⟩)
 have i1:∀ {k:Rat},0<k->1/(k*b)*(k*b)=1:=λhk=>Ak (by
  grind)
 have G:Dv g (Jt R (Jb R)):=Iv tR o (by
  obtain⟨c,d⟩:=w;refine⟨DM (1/(α*b)) c,λx=>?_⟩;grind[Jp]) (by obtain⟨c,d⟩:=y;refine⟨DM (1/(β*b)) c,λx=>?_⟩;grind[Jp])
 obtain⟨m,S,P⟩:=Dv.anti i tg D G;have T:∀x,ev g x=m*ev (Jt R (Jb R)) x:=λx=>by rw[P,Jp];grind
 have im:1/m*m=1:=Ak S;have qa:=(JK tg g0 w).2;have qb:=(JK tg g0 y).2;have s:Ju p=(ES (Jo p) (Jo (Jb p))).map λa=>Jm a g:=by
  unfold Ju Xh;rw[L];rfl
 refine⟨by rw[s];exact N,?_⟩;obtain⟨t,n⟩:=chnL_head (Jo p) (Jo (Jb p));unfold DK Ek;rw[z];refine⟨Jm (Jo p) g,t.map λa=>Jm a g,1/m*(α*b),by rw[s,n];rfl,?_,λx=>?_,λf1 l1 W=>⟨1/m*(β*b),?_,λx=>?_⟩⟩
 . grind
 . have:=Y8 (u:=Jm (Jo p) g) (v:=DM (1/m*(α*b)) (Jm R (Jt R (Jb R)))) i j (λx=>by
    grind[Jp]) x
   rw[this,Jp];grind
 . have H:1/m*(α*b)*(1/m*(β*b))=(1/m*b)*(1/m*b)*(α*β):=DG
   rw[H];refine Rat.mul_pos ?_ (Rat.mul_pos α0 β0);have c0:1/m*b≠0:=λe=>by
    grind
   have:=XK (f:=[1/m*b]) c0 (λx=>Jq _ x) 0 0;unfold Stb at this;rwa[Jq]at this
 . have hb:f1=Jm (Jo (Jb p)) g:=by
    by_cases b0:Jo (Jb p)=[]
    . grind[Ky]
    . rw[XN (J1 _) b0]at n;injection n with _ n
      obtain⟨t2,X⟩:=chnL_head (Jo (Jb p)) (XW (Jo p) (Jo (Jb p)));grind
   rw[hb];have:=Y8 (u:=Jm (Jo (Jb p)) g) (v:=DM (1/m*(β*b)) (Jm (Jb R) (Jt R (Jb R)))) i j (λx=>by
    grind[Jp]) x
   rw[this,Jp];grind
def Yx(b:List Rat):List Rat:=DM (1/Yv (cf b (b.length-1))) b
def EZ:Nat->List Rat->List Rat->List (List Rat)
 |0,a,_=>[a]
 |n+1,a,b=>if b=[]then [a]else a::EZ n (Yx b) (DM (-1) (J6 a (Yx b)))
def Mu(n:Nat)(a b:List Rat):∃t,EZ n a b=a::t:=by
 cases n with
 |zero=>exact⟨_,J⟩
 |succ n=>
  unfold EZ;split
  . exact⟨_,J⟩
  . exact⟨_,J⟩
def Kz{b:List Rat}(tb:Jc b=b)(b0:b≠[]):0<1/Yv (cf b (b.length-1)):=Yo DJ (Rj (Js tb b0))
theorem Ll{b:List Rat}{c:Rat}(a:c≠0)(tb:Jc b=b):(DM c b).length=b.length:=by
 have e:DM (1/c) (DM c b)=b:=by rw[Ld,A2,Ak a,KR tb]
 grind[DM,Yz,XP]
theorem ZL{a:List Rat}(ta:Jc a=a)(h:DP a []):∃c,c≠0/\∀x,ev a x=c:=by
 obtain⟨u,v,b⟩:=h;have d:Dv a [1]:=⟨u,λx=>by rw[Jq,<-b x];simp[ev];grind⟩;have f:=(d.len ta DJ DJ).1;have a0:a≠[]:=λe=>by
  have:=b 0;rw[e]at this;simp[ev]at this;grind
 match a,a0,f with
 |[c],_,_=>
  refine⟨c,λe=>?_,λx=>Jq c x⟩;have:=b 0;rw[e]at this;simp[ev]at this;grind
theorem ZM:∀(n:Nat) (a b:List Rat),b.length<=n->Jc a=a->Jc b=b->DP a b->StC (EZ n a b):=by
 intro n;induction n with
 |zero=>
  intro a b hn ta _ d
  have:b=[]:=Aj.1 O
  subst this;obtain⟨c,c0,f⟩:=ZL ta d;exact StC.one c0 f
 |succ n m=>
  intro a b hn ta tb d;by_cases b0:b=[]
  . subst b0;obtain⟨c,c0,f⟩:=ZL ta d;rw[EZ,BE J];exact StC.one c0 f
  . rw[EZ,BD b0];have B:=Kz tb b0;have lb:(Yx b).length=b.length:=Ll DG tb;have g:Jc (Yx b)=Yx b:=JH _ _;have i:Yx b≠[]:=λe=>b0 (Aj.1 (by rw[<-lb,e];rfl));obtain⟨z,sl⟩:=Y9 a (Yx b) g i;have tr:Jc (J6 a (Yx b))=J6 a (Yx b):=Yp _;have es:∀x,ev (Yx b) x=ev b x*(1/Yv (cf b (b.length-1))):=λx=>Jp _ _ _;have j:DP (Yx b) (DM (-1) (J6 a (Yx b))):=by
     obtain⟨u,v,l⟩:=d;have o:Yv (cf b (b.length-1))*(1/Yv (cf b (b.length-1)))=1:=by
      rw[A2];exact Ak DG
     refine⟨YK (Ji u (Jm a (Yx b))) (Ji [Yv (cf b (b.length-1))] v),Ji [-1] u,λx=>?_⟩;rw[Yg,Jd,Jd,Jd,Jq,Jq,Jp];have p:=l x;have r:=z x;have s:=es x;have w:ev b x=Yv (cf b (b.length-1))*ev (Yx b) x:=by
      rw[s,A2,Rat.mul_assoc,A2 (1/_),o,Rat.mul_one]
     rw[w,r]at p;grind
    have hi:=m (Yx b) (DM (-1) (J6 a (Yx b))) (by rw[Ll DJ tr];omega) g (JH _ _) j;by_cases r0:DM (-1) (J6 a (Yx b))=[]
    . rw[r0]at hi ⊢;have e:EZ n (Yx b) []=[Yx b]:=by cases n<;>rfl
      rw[e]at hi ⊢;obtain⟨_,d,f⟩:=hi.o;exact StC.two d f
    . have A:=JH (-1) (J6 a (Yx b));cases n with
      |zero=>
       grind[Ll]
      |succ n=>
       obtain⟨t,k⟩:=Mu n (Yx (DM (-1) (J6 a (Yx b)))) (DM (-1) (J6 (Yx b) (Yx (DM (-1) (J6 a (Yx b))))));rw[EZ,BD r0,k]at hi ⊢;have y:=Rj (Js A r0);refine StC.more (q:=Jm a (Yx b)) (a:=1) (c:=Yv (cf (DM (-1) (J6 a (Yx b))) ((DM (-1) (J6 a (Yx b))).length-1))) DJ y (λx=>?_) hi;grind[Yx,Jp]
def EY(p:List Rat):List (List Rat):=EZ (Jb (DK p)).length (DK p) (Jb (DK p))
theorem K0{p:List Rat}(tp:Jc p=p)(p0:p≠[]){a b:Rat}(u:a<=b):DL (JF (Ju p) a)+DL (JF (EY p) b)=DL (JF (Ju p) b)+DL (JF (EY p) a):=by
 obtain⟨hs,f,l,k,w,N,v,s⟩:=pX tp p0;have d:=Yun.start (Yf p) (KS tp p0) (It tp);have d:Yun (Jr p) (DK p) (Ek p):=d;have M:=Rl _ _ _ _ (Aa _) d;have K:=ZM _ (DK p) (Jb (DK p)) (Aa _) d.tw (Jv _) M;obtain⟨A,P,hA⟩:=JI a;obtain⟨C,Q,hC⟩:=JI b;have g:0<=A+C:=DG
 obtain⟨e,R,sg⟩:=RV _ _ _ _ (Aa _) d g;refine glue (B:=A+C) (F:=λx=>DL (JF (Ju p) x)) (G:=λx=>DL (JF (EY p) x)) ?_ (hA.mono DG) (hC.mono DG) u;refine(((hs.gd g).and (K.gd g)).and sg).mono λx y _ _ _ i=>?_;have d1:=i.1.1;have j:=i.1.2;have r:=i.2;obtain⟨m,c⟩:=Mu (Jb (DK p)).length (DK p) (Jb (DK p));show DL (JF (Ju p) x)+DL (JF (EY p) y)=DL (JF (Ju p) y)+DL (JF (EY p) x);unfold EY;rw[w]at d1 ⊢;rw[c]at j ⊢;refine d1.both j N v λhn f1 l1 o U hl H=>?_;obtain⟨T,kk,D⟩:=s f1 l1 hl;obtain⟨V,W⟩:=r hn;by_cases w0:Jb (DK p)=[]
 . grind[EZ]
 . obtain⟨n,I⟩:∃n,(Jb (DK p)).length=n+1:=⟨_,(Nat.succ_pred_eq_of_pos (Ae.2 w0)).symm⟩;rw[I,EZ,BD w0]at c;injection c with _ c
   obtain⟨t,L⟩:=Mu n (Yx (Jb (DK p))) (DM (-1) (J6 (DK p) (Yx (Jb (DK p)))));rw[L,H]at c;injection c with hg _
   have sp:=Kz (Jv (DK p)) w0;have q:∀z,ev o z=ev (Jb (DK p)) z*(1/Yv (cf (Jb (DK p)) ((Jb (DK p)).length-1))):=λz=>by rw[<-hg];exact Jp _ _ _
   have fin:∀z,e<=ev (Ek p) z*ev (Jb (DK p)) z->0<k*ev f1 z*ev o z:=λz S=>by
    rw[D,q];have:=Rat.mul_pos (Rat.mul_pos kk sp) (show 0<ev (Ek p) z*ev (Jb (DK p)) z by grind);grind
   grind
def Mv(l:List (List Rat)):Prop:=∀p∈l,Jc p=p/\p≠[]
def El(l:List (List Rat)):List Rat:=l.map λp=>cf p (p.length-1)
def D5(l:List (List Rat)):List Rat:=l.map λp=>(-1)^(p.length-1)*cf p (p.length-1)
theorem YJ{l:List (List Rat)}(h:Mv l):∃B,0<B/\(∀x,B<=x->DL (JF l x)=DL (El l))/\∀x,x<=-B->DL (JF l x)=DL (D5 l):=by
 have key:∃B,0<B/\(∀x,B<=x->∀p∈l,0<ev p x*cf p (p.length-1))/\∀x,x<=-B->∀p∈l,0<ev p x*((-1)^(p.length-1)*cf p (p.length-1)):=by
  induction l with
  |nil=>exact⟨1,DJ,(λ_ _ _ hp=>absurd hp (List.not_mem_nil)),(λ_ _ _ hp=>absurd hp (List.not_mem_nil))⟩
  |cons p l e=>
   obtain⟨B,a,b,c⟩:=e λq hq=>h q (AA _ hq);obtain⟨tp,p0⟩:=h p (Ao);grind[PQ,TH,A2]
 obtain⟨B,a,b,c⟩:=key;refine⟨B,a,λx d=>?_,λx d=>?_⟩
 . refine TI _ _ 0 0 (by simp[JF,El]) (λi f g=>?_) (Or.inr ⟨J,J⟩);grind[JF,El]
 . refine TI _ _ 0 0 (by simp[JF,D5]) (λi f g=>?_) (Or.inr ⟨J,J⟩);grind[JF,D5]
theorem pZ:∀(n:Nat) (a b g:List Rat),b.length<=n->Jc a=a->Jc b=b->a≠[]->Dv g a->Dv g b->Jc g=g->g≠[]->Mv ((ES a b).map λp=>Jm p g):=by
 intro n;induction n with
 |zero=>
  intro a b g hn ta tb a0 d f tg g0
  have:b=[]:=Aj.1 O
  subst this;intro p hp;rw[Ky]at hp;rcases C2.1 hp with⟨q,hq,rfl⟩
  have:q=a:=by simpa using hq
  subst this;exact⟨YG _ _,λe=>a0 (XF ta λx=>by rw[(JK tg g0 d).2,e];simp[ev])⟩
 |succ n k=>
  intro a b g hn ta tb a0 d f tg g0;have j:Jc (Jm a g)=Jm a g/\Jm a g≠[]:=⟨YG _ _,λe=>a0 (XF ta λx=>by rw[(JK tg g0 d).2,e];simp[ev])⟩;by_cases b0:b=[]
  . grind
  . have hl:=Xs (a:=a) tb b0;obtain⟨q,c,c0,m⟩:=Rk (a:=a) tb b0;have l:1/c*c=1:=Ak DG;have i:Dv g (XW a b):=f.comb d (Ji [1/c] q) [-(1/c*Ej a b)] λx=>by
     grind[Jd,ev]
    have hi:=k b (XW a b) g O tb (Iu _ _) b0 f i tg g0;rw[XN tb b0];intro p hp;rcases Fj.1 hp with rfl|hp
    . exact j
    . exact hi p hp
def J4{p:List Rat}(tp:Jc p=p)(p0:p≠[]):Mv (Ju p):=by
 have a0:Jo p≠[]:=λe=>p0 (Aj.1 (by rw[<-JL tp,e];rfl));obtain⟨g,c,tg,g0,d,f,_,_⟩:=Mt _ (Jo p) (Jo (Jb p)) (Aa _) (J1 _) (J1 _) a0;have b:Ju p=(ES (Jo p) (Jo (Jb p))).map λa=>Jm a g:=by
  unfold Ju Xh;rw[c];rfl
 rw[b];exact pZ _ _ _ g (Aa _) (J1 _) (J1 _) a0 d f tg g0
theorem pd:∀(n:Nat) (a b:List Rat),Jc a=a->Jc b=b->a≠[]->Mv (EZ n a b):=by
 intro n;induction n with
 |zero=>
  intro a b ta _ a0 p hp;grind[EZ]
 |succ n c=>
  intro a b ta tb a0 p hp;by_cases b0:b=[]
  . grind[EZ]
  . rw[EZ,BD b0]at hp;rcases Fj.1 hp with rfl|hp
    . exact⟨ta,a0⟩
    . have d:=Kz tb b0;have lb:(Yx b).length=b.length:=Ll DG tb;exact c _ _ (JH _ _) (JH _ _) (λe=>b0 (Aj.1 (by rw[<-lb];show(DM _ b).length=0;rw[e];rfl))) p hp
def pg{p:List Rat}(tp:Jc p=p)(p0:p≠[]):Mv (EY p):=by
 have a:Yun (Jr p) (DK p) (Ek p):=Yun.start (Yf p) (KS tp p0) (It tp);exact pd _ _ _ a.tw (Jv _) a.w0
theorem ph(p:List Rat)(a:0<=B):∃K,0<K/\∀x y,Wi B x->Wi B y->x<=y->Wi (K*((y-x)*(y-x))) (ev p y-ev p x-(y-x)*dv p x):=by
 induction p with
 |nil=>exact⟨1,DJ,λx y _ _ _=>by
  have:=Xi (y-x);constructor<;>simp[ev,dv]<;>grind⟩
 |cons c t m=>
  obtain⟨K,j,h⟩:=m;obtain⟨D,hD,k⟩:=XU (Jb t) a;refine⟨B*K+D+1,by have:=Rat.mul_nonneg a (Rat.le_of_lt j);grind,λx y d f l=>?_⟩;have n:=Xi (y-x);have g:Wi ((y-x)*(y-x)) ((y-x)*(y-x)):=⟨DG,DG⟩;have b:=k x d;rw[X6]at b;have i:=(f.mul (h x y d f l)).add (g.mul b);have e:ev (c::t) y-ev (c::t) x-(y-x)*dv (c::t) x=y*(ev t y-ev t x-(y-x)*dv t x)+(y-x)*(y-x)*dv t x:=by
   rw[IF,IF,show dv (c::t) x=ev t x+x*dv t x from J];grind
  rw[e];refine i.mono ?_;grind
def J2(p:List Rat)(x y:Rat):Nat:=if ev p x≠0/\ev p x*ev p y<=0 then 1 else 0
theorem X8{p:List Rat}{y:Rat}(h:Stb p x y):J2 p x y=0:=by
 unfold J2 Stb at *;grind
theorem rise_of{w y:List Rat}(i:0<=B)(f:0<k)(s:Sh B λx z=>¬Stb w x z->k<=ev y x*ev (Jb w) x/\k<=ev y z*ev (Jb w) z):Sh B λx z=>¬Stb w x z->x<z->0<ev (Jb w) x*(ev w z-ev w x):=by
 obtain⟨c,n,I⟩:=XU y i;obtain⟨D,R,hD⟩:=XU (Jb w) i;obtain⟨K,S,H⟩:=ph w i;obtain⟨e,o,L⟩:=small (K:=(c*c)*(D*K)) (r:=k*k/2) (Rat.le_of_lt (Rat.mul_pos (Rat.mul_pos n n) (Rat.mul_pos R S))) (by have:=Rat.mul_pos f f;grind);have T:Sh B λx z=>z-x<=e:=⟨e,o,λ_ _ _ _ _ h=>h⟩;refine(s.and T).mono λx z j P N ⟨p,l⟩ hn ae=>?_;obtain⟨U,_⟩:=p hn;have g:=H x z j P N;rw[<-X6]at g;have A:=I x j;have G:=hD x j;generalize ev (Jb w) x=d at *;generalize ev y x=v at *;generalize ev w z-ev w x=t at *;obtain⟨u,M⟩:=ex (z-x);rw[M]at l g;have u0:0<u:=DG
 have V:k*k<=(c*c)*(d*d):=by
  have m:=Rat.mul_nonneg (a:=v*d-k) (b:=v*d+k) DG DG;have Q:=Rat.mul_nonneg (a:=c*c-v*v) (b:=d*d) (by have:=L2 A;grind) (Xi d);grind
 have W:u*(d*d)-(D*K)*(u*u)<=d*t:=by
  have m:=(G.mul g).1;grind
 have X:=L u l;have hp:0<(c*c)*(d*t):=by
  have m:=Rat.mul_nonneg (a:=c*c) (b:=d*t-(u*(d*d)-(D*K)*(u*u))) (Xi c) DG;have Q:=Rat.mul_nonneg (a:=u) (b:=(c*c)*(d*d)-k*k) DG DG;have i3:=Rat.mul_nonneg (a:=u) (b:=k*k/2-(c*c)*(D*K)*u) DG DG;have i4:=Rat.mul_pos u0 (Rat.mul_pos f f);grind
 rcases JV (d*t) 0 with q|q
 . have:=Rat.mul_nonneg (a:=c*c) (b:=-(d*t)) (Xi c) DG;grind
 . rcases Rat.le_iff_lt_or_eq.1 q with q|q
   . exact q
   . rw[<-q]at hp;grind
def ZN{R w y:List Rat}(h:Yun R w y)(a:0<=B):Sh B λx z=>¬Stb w x z->x<z->0<ev (Jb w) x*(ev w z-ev w x):=by
 obtain⟨k,b,s⟩:=RV _ _ _ _ (Aa _) h a;exact rise_of a b s
theorem Xl{a b:Rat}(h:0<(a*a)*b):0<b:=by
 rcases JV b 0 with q|q
 . have:=Rat.mul_nonneg (a:=a*a) (b:=-b) (Xi a) DG;grind
 . rcases Rat.le_iff_lt_or_eq.1 q with q|q
   . exact q
   . rw[<-q]at h;grind
theorem pi{a b u v:Rat}(c:0<a*(v-u))(d:0<b*(v-u))(e:u*v<=0):
 (if u*a<0 then 1 else 0)=(if v*b<0 then 1 else 0)+(if u≠0/\u*v<=0 then 1 else 0:Nat):=by
 by_cases u0:u=0
 . subst u0;grind
 . have f:u*a<0:=by
    rcases JV 0 (u*a)with q|q
    . exfalso
      have a0:=(JB c).1;have q:0<u*a:=by
       rcases Rat.le_iff_lt_or_eq.1 q with q|q
       . exact q
       . grind
      have:=Rat.mul_pos q (show 0<v*a by grind);have:=Xl (a:=a) (b:=u*v) DG;grind
    . grind[Cx]
   have g:¬v*b<0:=λq=>by
    have:=Rat.mul_pos (a:=-(v*b)) (b:=-(u*b)) DG DG;have:=Xl (a:=b) (b:=u*v) DG;grind
   grind
theorem pj{w b f1:List Rat}{n:Nat}{c:List (List Rat)}(a:EZ n w b=w::f1::c):b≠[]/\f1=Yx b:=by
 cases n with
 |zero=>
  have d:[w]=w::f1::c:=a;grind
 |succ n=>
  by_cases w0:b=[]
  . grind[EZ]
  . rw[EZ,BD w0]at a;have d:=(List.cons.inj a).2;obtain⟨t,e⟩:=Mu n (Yx b) (DM (-1) (J6 w (Yx b)));grind
theorem Xf{p:List Rat}(tp:Jc p=p)(p0:p≠[])(i:0<=B):Sh B λx z=>DL (JF (EY p) x)=DL (JF (EY p) z)+J2 (DK p) x z:=by
 have d:Yun (Jr p) (DK p) (Ek p):=Yun.start (Yf p) (KS tp p0) (It tp);have k:=Rl _ _ _ _ (Aa _) d;have j:=ZM _ (DK p) (Jb (DK p)) (Aa _) d.tw (Jv _) k;refine((j.gd i).and (ZN d i)).mono λx z _ _ q ⟨b,hs⟩=>?_;show DL (JF (EY p) x)=DL (JF (EY p) z)+J2 (DK p) x z;obtain⟨m,f⟩:=Mu (Jb (DK p)).length (DK p) (Jb (DK p));unfold EY;rw[f]at b ⊢;by_cases st:Stb (DK p) x z
 . rw[X8 st,b.stay st];rfl
 . cases m with
   |nil=>exact absurd b.o st
   |cons f1 r=>
    obtain⟨w0,hg⟩:=pj f;have sp:=Kz (Jv (DK p)) w0;obtain⟨c,e⟩:∃c,1/Yv (cf (Jb (DK p)) ((Jb (DK p)).length-1))=c:=⟨_,J⟩;rw[e]at sp;have l:ev f1 x=ev (Jb (DK p)) x*c:=by rw[hg,<-e];exact Jp _ _ _
    have g:=(b.adj).resolve_left st;obtain⟨s,t⟩:=JB g;have sm:=b.tail.same _ r f1 (Aa _) g;rw[JX,JX,JX,JX,I8 s,I8 t,sm];clear sm f j k d b hg e w0;have w:ev (DK p) x*ev (DK p) z<=0:=Rat.not_lt.1 st;rcases Rat.le_iff_lt_or_eq.1 q with o|v
    . have n:0<ev f1 x*(ev (DK p) z-ev (DK p) x):=by
       rw[l];have:=Rat.mul_pos (hs st o) sp;grind
      have u:0<ev f1 z*(ev (DK p) z-ev (DK p) x):=Xl (a:=ev f1 x) (by
       have:=Rat.mul_pos (show 0<ev f1 x*ev f1 z from g) n;grind)
      grind[pi,J2]
    grind[Xi,Rat.le_antisymm,J2]
theorem pk{F:Rat->Nat}(h:Sh B λx y=>F y<=F x){a b:Rat}(c:Wi B a)(hb:Wi B b)(e:a<=b):F b<=F a:=by
 obtain⟨d,d0,h⟩:=h;obtain⟨n,hn⟩:=steps d0 a b
 have:∀(n:Nat) (a:Rat),Wi B a->a<=b->b-a<=(n:Rat)*d->F b<=F a:=by
  intro n;induction n with
  |zero=>
   intro a c e f;grind
  |succ n k=>
   intro a c e f;have i:((n+1:Nat):Rat)=(n:Rat)+1:=by rw[Rat.natCast_add];rfl
   rw[i]at f;rcases JV (b-a) d with g|g
   . exact h a b c hb e g
   . have j:Wi B (a+d):=⟨by have:=c.1;grind,by have:=hb.2;grind⟩;grind
 exact this n a c e hn
def pm{p:List Rat}(tp:Jc p=p)(p0:p≠[]){a b:Rat}(c:a<=b):DL (JF (EY p) b)<=DL (JF (EY p) a):=by
 obtain⟨A,d,hA⟩:=JI a;obtain⟨C,e,hC⟩:=JI b;refine pk (B:=A+C) (F:=λx=>DL (JF (EY p) x)) ?_ (hA.mono DG) (hC.mono DG) c;refine(Xf tp p0 (B:=A+C) DG).mono λx y _ _ _ h=>?_;omega
def Rm{p:List Rat}(tp:Jc p=p)(p0:p≠[]){a b:Rat}(c:a<=b):DL (JF (Ju p) b)<=DL (JF (Ju p) a):=by
 have d:=K0 tp p0 c;have e:=pm tp p0 c;omega
theorem Rn{p:List Rat}(tp:Jc p=p)(p0:p≠[])(x:Rat):DL (JF (Ju p) x)<=DL (D5 (Ju p)):=by
 obtain⟨B,d,_,c⟩:=YJ (J4 tp p0);obtain⟨X,e,hX⟩:=JI x;have:=Rm tp p0 (a:=-(B+X)) (b:=x) (by have:=hX.1;clear c;grind);grind
theorem Ro{p:List Rat}(tp:Jc p=p)(p0:p≠[])(x:Rat):DL (El (Ju p))<=DL (JF (Ju p) x):=by
 obtain⟨B,d,c,_⟩:=YJ (J4 tp p0);obtain⟨X,e,hX⟩:=JI x;have:=Rm tp p0 (a:=x) (b:=B+X) (by have:=hX.2;clear c;grind);grind
theorem Mw{v:List Rat}(h:DP u v)(i:0<=B):Sh B λx z=>J2 (Ji u v) x z=J2 u x z+J2 v x z:=by
 obtain⟨s,t,p⟩:=h;obtain⟨S,k,o⟩:=XU s i;obtain⟨T,l,hT⟩:=XU t i;have d:∀ {r K:Rat},0<K->K*(r/K)=r:=λA=>by grind
 refine((Xo u i (Yo Hk k)).and (Xo v i (Yo Hk l))).mono λx z j _ _ ⟨m,n⟩=>?_;have e:∀y,ev (Ji u v) y=ev u y*ev v y:=λy=>Jd _ _ _;by_cases g:Stb u x z
 . by_cases c:Stb v x z
   . have:Stb (Ji u v) x z:=by
      unfold Stb at *;rw[e,e];have:=Rat.mul_pos g c;grind
     rw[X8 this,X8 g,X8 c]
   . rw[X8 g,AQ];unfold J2 Stb at *;rw[e,e];obtain⟨u1,u2⟩:=JB g;by_cases q:ev v x≠0/\ev v x*ev v z<=0
     . rw[BE q,BE ⟨λf=>by grind,by have:=Rat.mul_nonneg (a:=ev u x*ev u z) (b:=-(ev v x*ev v z)) DG DG;grind⟩]
     grind
 . have c:Stb v x z:=Classical.byContradiction λc=>by
    have D:=LJ (p x) (o x j) (m g).1 (by rw[d k];exact Rat.le_refl);have w:=((hT x j).mul (n c).1).2;rw[d l]at w;grind
   rw[X8 c,Ca];unfold J2 Stb at *;rw[e,e];obtain⟨u1,u2⟩:=JB c;by_cases q:ev u x≠0/\ev u x*ev u z<=0
   . rw[BE q,BE ⟨λf=>by grind,by have:=Rat.mul_nonneg (a:=ev v x*ev v z) (b:=-(ev u x*ev u z)) DG DG;grind⟩]
   grind
theorem DP.of_unit{a:List Rat}(h:Dv a [1])(c:List Rat):DP a c:=by
 obtain⟨d,b⟩:=h;refine⟨d,[],λx=>?_⟩;grind[ev]
def DP.mul_left{a b c:List Rat}(h:DP a c)(d:DP b c):DP (Ji a b) c:=(h.symm.mul d.symm).symm
def DP.of_dv2{a b d:List Rat}(h:DP a b)(c:Dv d b):DP a d:=(h.symm.of_dv c).symm
theorem pn:∀(n:Nat) (R w y:List Rat),R.length<=n->Yun R w y->∀c,DP w c->DP R c:=by
 intro n;induction n with
 |zero=>intro R w y hn h;exact absurd (Aj.1 O) h.R0
 |succ n i=>
  intro R w y hn h c e;by_cases hl:w.length<=1
  . obtain⟨d,m⟩:=Lg h.tw h.w0 hl;refine DP.of_unit (Ml h.tR h.R0 ⟨Ji d y,λx=>?_⟩) c;have l:=h.eq x;grind[Jd,ev]
  . obtain⟨_,_,a,b,_,k⟩:=h.step;have j:(Jm R w).length<=n:=by
     have:=JC h.tw a.tR h.w0 a.R0;rw[<-b]at this;omega
    have f:Dv (Jm w (Jt w (JR y (Jb w)))) w:=⟨Jt w (JR y (Jb w)),λx=>by
     grind[Jd]⟩
    have g:=i _ _ _ j a c (e.of_dv f);rw[b];exact e.mul_left g
def DX(u:List Rat):Prop:=DP u (Jb u)
theorem DX.parts{a b:List Rat}(h:DX (Ji a b)):DP a b:=by
 obtain⟨u,v,c⟩:=h;refine⟨YK (Ji u b) (Ji v (Jb b)),Ji v (Jb a),λx=>?_⟩;grind[Yt,Jd,Yg]
theorem DX.of_dv{a b:List Rat}(h:DX b)(tb:Jc b=b)(d:Dv a b):DX a:=by
 obtain⟨c,_,e⟩:=d.some tb;obtain⟨u,v,f⟩:=h;rw[e]at f;refine⟨YK (Ji u c) (Ji v (Jb c)),Ji v c,λx=>?_⟩;grind[Yt,Jd,Yg]
theorem DX.mul{a b:List Rat}(e:DX a)(hb:DX b)(h:DP a b):DX (Ji a b):=by
 have c:=Yt a b;have c1:DP a (Jb (Ji a b)):=(DP.mul e h).shift (d:=Ji [-1] (Jb b)) λx=>by
  rw[Jd,Jd,Jq,c];grind
 have c2:DP b (Jb (Ji a b)):=(h.symm.mul hb).shift (d:=Ji [-1] (Jb a)) λx=>by
  rw[Jd,Jd,Jq,c];grind
 exact c1.mul_left c2
theorem DX.dv{v:List Rat}(g:Jc u=u)(i:Jc v=v)(M:v≠[])(hv:DX v)(h:∀c,DP u c->DP v c):Dv v u:=by
 have g0:=Yd g i (Or.inr M);have tg:=JE u v;obtain⟨j,l,s,t,n⟩:=Yc g i;obtain⟨d,I⟩:=ex (Jt u v);rw[I]at g0 tg j l n;have f:=(JK tg g0 l).2;obtain⟨e,o⟩:=ex (Jm v d);rw[o]at f;have B:v=Ji d e:=YL i (Jn _ _) λx=>by rw[Jd,f]
 have z:DP d e:=DX.parts (by rw[<-B];exact hv);have A:DP u e:=by
  obtain⟨a,b,H⟩:=z;have L:Jc e=e:=by rw[<-o];exact YG _ _
  obtain⟨f1,f2,m,k,f3⟩:=Yc g L;have D:Dv (Jt u e) d:=f1.comb (f2.mul' d) s t λx=>by
   rw[n,Jd,f]
  have G:Dv (Jt u e) [1]:=D.comb f2 a b λx=>by rw[Jq,H]
  obtain⟨r,p⟩:=G;refine⟨Ji r m,Ji r k,λx=>?_⟩;have K:=p x;rw[Jq,f3]at K;rw[Jd,Jd];grind
 have w:=h e A;have y:DP e e:=w.of_dv ⟨d,λx=>by rw[f];grind⟩;obtain⟨r,p⟩:=y.unit (Dv.refl e);obtain⟨q,hq⟩:=j;refine⟨Ji r q,λx=>?_⟩;grind[Jd,ev]
def YR{p:List Rat}(tp:Jc p=p)(p0:p≠[]):Yun (Jr p) (DK p) (Ek p):=Yun.start (Yf p) (KS tp p0) (It tp)
def Iz{p:List Rat}(tp:Jc p=p)(p0:p≠[]):DX (DK p):=Rl _ _ _ _ (Aa _) (YR tp p0)
def Om{p:List Rat}(tp:Jc p=p)(p0:p≠[]):Dv (Jr p) p/\Dv p (Jr p):=by
 obtain⟨c,b⟩:=Lk tp p0;have a:Dv (Jr p) p:=⟨[cf p (p.length-1)],λx=>by
  conv=>lhs;rw[b]
  rw[Jp,Jq]⟩
 exact⟨a,⟨[1/cf p (p.length-1)],λx=>by rw[Kx,Jq]⟩⟩
def Hz{p:List Rat}(tp:Jc p=p)(p0:p≠[]):Dv (DK p) p:=(YR tp p0).dv.trans (Om tp p0).1
def XG{p:List Rat}(tp:Jc p=p)(p0:p≠[])(c:List Rat):DP (DK p) c↔DP p c:=by
 constructor
 . intro h;exact(pn _ _ _ _ (Aa _) (YR tp p0) c h).of_dv (Om tp p0).2
 . intro h;exact h.of_dv (Hz tp p0)
theorem Rp{p q:List Rat}(tp:Jc p=p)(p0:p≠[])(tq:Jc q=q)(q0:q≠[]):
 ∃a b c:List Rat,DP a b/\DP a c/\DP (Ji a b) c/\DK p=Ji a b/\DK q=Ji a c/\DK (Ji p q)=Ji (Ji a b) c/\DK (Jt p q)=a:=by
 have e:=YR tp p0;have f:=YR tq q0;have sp:=Iz tp p0;have sq:=Iz tq q0;have s:=Jn p q;have t:Ji p q≠[]:=Yu tp tq p0 q0;have tg:=JE p q;have g0:=Yd tp tq (Or.inl p0);have m:=YR s t;have l:=YR tg g0;obtain⟨o,w,_⟩:=Yc e.tw f.tw;have ta:=JE (DK p) (DK q);have ma:=YI e.tw f.tw;have a0:=Yd e.tw f.tw (Or.inl e.w0);have n:=Ob e.tw f.tw a0;obtain⟨mb,_,b0,i⟩:=Mm e.tw e.w0 e.mw ta ma o;obtain⟨y,_,c0,j⟩:=Mm f.tw f.w0 f.mw ta ma w;have H:∀d,Dv d (DK p)->Dv d (DK q)->Dv d (Jt (DK p) (DK q)):=λd g k=>Iv e.tw f.tw g k;obtain⟨a,U⟩:=ex (Jt (DK p) (DK q));rw[U]at o w ta ma a0 n mb b0 i y c0 j H;obtain⟨b,hb⟩:=ex (Jm (DK p) a);obtain⟨c,K⟩:=ex (Jm (DK q) a);have tb:Jc b=b:=by rw[<-hb];exact YG _ _
 have z:Jc c=c:=by rw[<-K];exact YG _ _
 rw[hb]at n mb b0 i;rw[K]at n y c0 j;have P:DP a b:=DX.parts (by rw[<-i];exact sp);have D:DP a c:=DX.parts (by rw[<-j];exact sq);have A:DP (Ji a b) c:=D.mul_left n;have sc:DX c:=sq.of_dv f.tw ⟨a,λx=>by rw[j,Jd];grind⟩;have N:DX (Ji (Ji a b) c):=(by rw[<-i];exact sp:DX (Ji a b)).mul sc A;refine⟨a,b,c,P,D,A,i,j,?_,?_⟩
 . have r:=Jn (Ji a b) c;have G:Ji a b≠[]:=Yu ta tb a0 b0;have Q:Ji (Ji a b) c≠[]:=Yu (Jn _ _) z G c0;have V:Jr (Ji (Ji a b) c)=Ji (Ji a b) c:=by
    have g:=Ms (Jn a b) z G c0;have k:=Ms ta tb a0 b0;rw[k,Lh ta a0 ma,Lh tb b0 mb,Lh z c0 y]at g;exact YL (Yf _) r λx=>by rw[Kx,g];grind
   have B:∀d,DP (DK (Ji p q)) d↔DP (Ji (Ji a b) c) d:=λd=>by
    rw[XG s t];constructor
    . intro h;have g:DP p d:=h.of_dv ((Dv.refl p).mul q);have k:DP q d:=h.of_dv ((Dv.refl q).mul' p);have I:=(XG tp p0 d).2 g;have T:=(XG tq q0 d).2 k;rw[i]at I;exact I.mul_left (T.of_dv ⟨a,λx=>by rw[j,Jd];grind⟩)
    . intro h;have g:DP (DK p) d:=h.of_dv (by rw[i];exact(Dv.refl _).mul c);have k:DP (DK q) d:=h.of_dv (by rw[j];exact⟨b,λx=>by rw[Jd,Jd,Jd];grind⟩);exact((XG tp p0 d).1 g).mul_left ((XG tq q0 d).1 k)
   have d1:=DX.dv (u:=DK (Ji p q)) (v:=Ji (Ji a b) c) m.tw r Q N λd h=>(B d).1 h;have R:=DX.dv (u:=Ji (Ji a b) c) (v:=DK (Ji p q)) r m.tw m.w0 (Iz s t) λd h=>(B d).2 h;exact Dv.eq m.tw r m.mw V R d1
 . have W:DX a:=sp.of_dv e.tw o;have sg:=Iz tg g0;obtain⟨L,M,_⟩:=Yc tp tq;have f1:Dv (DK (Jt p q)) (DK p):=DX.dv e.tw l.tw l.w0 sg λd h=>((XG tp p0 d).1 h).of_dv ((Hz tg g0).trans L);have f2:Dv (DK (Jt p q)) (DK q):=DX.dv f.tw l.tw l.w0 sg λd h=>((XG tq q0 d).1 h).of_dv ((Hz tg g0).trans M);have f3:=H _ f1 f2;have S:Dv a (DK (Jt p q)):=DX.dv l.tw ta a0 W λd h=>((XG tg g0 d).1 h).of_dv (Iv tp tq (o.trans (Hz tp p0)) (w.trans (Hz tq q0)));exact Dv.eq l.tw ta l.mw ma f3 S
theorem po{p q:List Rat}(tp:Jc p=p)(p0:p≠[])(tq:Jc q=q)(q0:q≠[])(d:0<=B):
 Sh B λx z=>J2 (DK (Ji p q)) x z+J2 (DK (Jt p q)) x z=J2 (DK p) x z+J2 (DK q) x z:=by
 obtain⟨a,b,c,e,f,g,i,j,k,l⟩:=Rp tp p0 tq q0;refine(((Mw e d).and (Mw f d)).and (Mw g d)).mono λx z _ _ _ ⟨⟨m,n⟩,o⟩=>?_;grind
theorem pq(l:List Rat):∀a,Xv a l<=l.length:=by
 induction l with
 |nil=>intro a;exact Aa _
 |cons b l c=>
  intro a;grind[Xv]
theorem On(l:List Rat):DL l<=l.length-1:=by
 cases l with
 |nil=>exact Aa _
 |cons a l=>
  grind[pq,DL,Xv]
theorem ZO:∀(n:Nat) (a b:List Rat),b.length<=n->Jc b=b->(ES a b).length<=b.length+1:=by
 intro n;induction n with
 |zero=>
  intro a b hn _
  have:b=[]:=Aj.1 O
  subst this;exact Aa _
 |succ n c=>
  intro a b hn tb;by_cases b0:b=[]
  . grind
  . have hl:=Xs (a:=a) tb b0;grind[Iu,XN]
theorem Rq{p:List Rat}(p0:p≠[]):(Ju p).length<=p.length:=by
 unfold Ju Xh;rw[Cw];have a:=ZO _ (Jo p) (Jo (Jb p)) (Aa _) (J1 _);grind[JL,Jv,Y6]
def Rr{p:List Rat}(p0:p≠[]):DL (D5 (Ju p))<=p.length-1:=by
 have a:=On (D5 (Ju p));have b:(D5 (Ju p)).length=(Ju p).length:=by unfold D5;rw[Cw]
 have c:=Rq p0;omega
theorem pt{p q:List Rat}(tp:Jc p=p)(p0:p≠[])(tq:Jc q=q)(q0:q≠[]){a b:Rat}(f:a<=b):
 (DL (JF (Ju (Ji p q)) a)+DL (JF (Ju (Jt p q)) a))+(DL (JF (Ju p) b)+DL (JF (Ju q) b))=(DL (JF (Ju (Ji p q)) b)+DL (JF (Ju (Jt p q)) b))+(DL (JF (Ju p) a)+DL (JF (Ju q) a)):=by
 have d:=Jn p q;have e:Ji p q≠[]:=Yu tp tq p0 q0;have tg:=JE p q;have g0:=Yd tp tq (Or.inl p0);obtain⟨A,g,hA⟩:=JI a;obtain⟨C,i,hC⟩:=JI b;have c:0<=A+C:=DG
 have h:=glue (B:=A+C) (F:=λx=>DL (JF (EY (Ji p q)) x)+DL (JF (EY (Jt p q)) x)) (G:=λx=>DL (JF (EY p) x)+DL (JF (EY q) x)) (((((Xf d e c).and (Xf tg g0 c)).and ((Xf tp p0 c).and (Xf tq q0 c))).and (po tp p0 tq q0 c)).mono λx z _ _ _ ⟨⟨⟨j,k⟩,l,m⟩,n⟩=>by
  omega) (hA.mono DG) (hC.mono DG) f
 grind[K0]
theorem ZP{p q:List Rat}(tp:Jc p=p)(p0:p≠[])(tq:Jc q=q)(q0:q≠[])(x:Rat):
 (DL (D5 (Ju (Ji p q)))+DL (D5 (Ju (Jt p q))))+(DL (JF (Ju p) x)+DL (JF (Ju q) x))=(DL (JF (Ju (Ji p q)) x)+DL (JF (Ju (Jt p q)) x))+(DL (D5 (Ju p))+DL (D5 (Ju q))):=by
 have c:=Jn p q;have d:Ji p q≠[]:=Yu tp tq p0 q0;have tg:=JE p q;have g0:=Yd tp tq (Or.inl p0);obtain⟨B1,g,_,f1⟩:=YJ (J4 c d);obtain⟨B2,i,_,f2⟩:=YJ (J4 tg g0);obtain⟨B3,j,_,f3⟩:=YJ (J4 tp p0);obtain⟨B4,k,_,e⟩:=YJ (J4 tq q0);obtain⟨X,f,hX⟩:=JI x;obtain⟨y,l⟩:∃y,-(B1+B2+B3+B4+X)=y:=⟨_,J⟩;have h:=pt tp p0 tq q0 (a:=y) (b:=x) (by have:=hX.1;clear f1 f2 f3 e;grind);grind
theorem pu{p q:List Rat}(tp:Jc p=p)(p0:p≠[])(tq:Jc q=q)(q0:q≠[]):
 (DL (D5 (Ju (Ji p q)))+DL (D5 (Ju (Jt p q))))+(DL (El (Ju p))+DL (El (Ju q)))=(DL (El (Ju (Ji p q)))+DL (El (Ju (Jt p q))))+(DL (D5 (Ju p))+DL (D5 (Ju q))):=by
 have a:=Jn p q;have b:Ji p q≠[]:=Yu tp tq p0 q0;have tg:=JE p q;have g0:=Yd tp tq (Or.inl p0);obtain⟨B1,c,f1,_⟩:=YJ (J4 a b);obtain⟨B2,d,f2,_⟩:=YJ (J4 tg g0);obtain⟨B3,e,f3,_⟩:=YJ (J4 tp p0);obtain⟨B4,f,g,_⟩:=YJ (J4 tq q0);obtain⟨y,i⟩:=ex (B1+B2+B3+B4);have h:=ZP tp p0 tq q0 y;grind
def pv{w:List Rat}(tw:Jc w=w)(w0:w≠[])(mw:Jr w=w)(h:DX w):DK w=w:=by
 have y:=YR tw w0;have d1:Dv (DK w) w:=Hz tw w0;have a:Dv w (DK w):=DX.dv y.tw tw w0 h λc b=>(XG tw w0 c).1 b;exact Dv.eq y.tw tw y.mw mw d1 a
theorem Mx{p q:List Rat}(tp:Jc p=p)(p0:p≠[])(tq:Jc q=q)(q0:q≠[])(h:DK p=DK q){a b:Rat}(d:a<=b):
 DL (JF (Ju p) a)+DL (JF (Ju q) b)=DL (JF (Ju p) b)+DL (JF (Ju q) a):=by
 obtain⟨A,e,hA⟩:=JI a;obtain⟨C,f,hC⟩:=JI b;have c:0<=A+C:=DG
 have g:=glue (B:=A+C) (F:=λx=>DL (JF (EY p) x)) (G:=λx=>DL (JF (EY q) x)) (((Xf tp p0 c).and (Xf tq q0 c)).mono λx z _ _ _ ⟨i,j⟩=>by
  grind) (hA.mono DG) (hC.mono DG) d
 grind[K0]
theorem ZR{p q:List Rat}(tp:Jc p=p)(p0:p≠[])(tq:Jc q=q)(q0:q≠[])(h:DK p=DK q)(x:Rat):
 DL (D5 (Ju p))+DL (JF (Ju q) x)=DL (JF (Ju p) x)+DL (D5 (Ju q)):=by
 obtain⟨B3,e,_,f3⟩:=YJ (J4 tp p0);obtain⟨B4,f,_,c⟩:=YJ (J4 tq q0);obtain⟨X,d,hX⟩:=JI x;obtain⟨y,i⟩:∃y,-(B3+B4+X)=y:=⟨_,J⟩;have g:=Mx tp p0 tq q0 h (a:=y) (b:=x) (by have:=hX.1;clear f3 c;grind);grind
theorem px{p q:List Rat}(tp:Jc p=p)(p0:p≠[])(tq:Jc q=q)(q0:q≠[])(h:DK p=DK q):
 DL (D5 (Ju p))+DL (El (Ju q))=DL (El (Ju p))+DL (D5 (Ju q)):=by
 obtain⟨B3,a,f3,_⟩:=YJ (J4 tp p0);obtain⟨B4,b,c,_⟩:=YJ (J4 tq q0);obtain⟨y,e⟩:=ex (B3+B4);have d:=ZR tp p0 tq q0 h y;grind
theorem Lm{p:List Rat}{c:Rat}(a:c≠0)(tp:Jc p=p):DK (DM c p)=DK p:=by
 unfold DK;rw[Mh a tp]
theorem py(r x z:Rat):J2 [-r,1] x z=if x<r/\r<=z\/r<x/\z<=r then 1 else 0:=by
 have e:∀y,ev [-r,1] y=y-r:=λy=>by simp[ev];grind
 unfold J2;rw[e,e];by_cases h:x<r/\r<=z\/r<x/\z<=r
 . rw[BE h,BE];rcases h with⟨c,d⟩|⟨c,d⟩
   . refine⟨DG,?_⟩;have:=Rat.mul_nonneg (a:=r-x) (b:=z-r) DG DG;grind
   . refine⟨DG,?_⟩;have:=Rat.mul_nonneg (a:=x-r) (b:=r-z) DG DG;grind
 . rw[BD h,BD];rintro⟨c,d⟩;apply h;rcases JV x r with q|q
   . have q:x<r:=by
      rcases Rat.le_iff_lt_or_eq.1 q with q|q
      . exact q
      . grind
     refine Or.inl ⟨q,?_⟩;rcases JV r z with q2|q2
     . exact q2
     . rcases Rat.le_iff_lt_or_eq.1 q2 with q2|q2
       . have:=Rat.mul_pos (a:=r-x) (b:=r-z) DG DG;grind
       . rw[q2];exact Rat.le_refl
   grind[Rat.le_iff_lt_or_eq,JV,Rat.mul_pos]
theorem pz(hs:s*s=1):s=1\/s=-1:=by
 grind
theorem p5{K u:Rat}(hs:s*s=1)(h:Wi K u):∀n:Nat,Wi K (s^n*u):=by
 intro n;induction n with
 |zero=>grind
 |succ n a=>
  rw[Rat.pow_succ];rcases pz hs with e|e
  . grind
  . rw[e]at a ⊢;have:=a.neg;grind
theorem p6{M:Rat}(hs:s*s=1)(hM:0<=M):∀p:List Rat,Jc p=p->p≠[]->∀k,cf p (p.length-1)=k->(∀i,i+1<p.length->Wi (M*(k*k)) (k*cf p i))->∀x,1+M<=x->k*k<=s^(p.length-1)*(k*ev p (s*x)):=by
 intro p;induction p with
 |nil=>intro _ h;exact absurd J h
 |cons c t o=>
  intro tp p0 k hk g x m;by_cases d:t=[]
  . subst d
    have:c=k:=by rw[<-hk];simp[cf]
    subst this;rw[Jq];simp
  . have hl:=Ae.2 d;obtain⟨n,hn⟩:∃n,t.length=n+1:=⟨t.length-1,O⟩;have j:cf t n=k:=by
     rw[<-hk,Ai,hn,show n+1+1-1=n+1 by omega,Ys]
    have w:cf t n≠0:=by
     have:=Js tp p0;rwa[hk,<-j]at this
    have q:Jc t=t:=NO (Or.inr DG);have l:=o q d k DG (λi hi=>by
     have:=g (i+1) DG;rwa[Ys]at this) x m
    rw[hn,show n+1-1=n by omega]at l;have f:=g 0 DG;rw[Xm]at f;have r:=(p5 hs f (n+1)).1;rw[Ai,hn,show n+1+1-1=n+1 by omega,IF];have e:s^(n+1)*(k*(c+s*x*ev t (s*x)))=s^(n+1)*(k*c)+x*(s^n*(k*ev t (s*x))):=by
     rw[Rat.pow_succ];grind
    rw[e];have u:=Rat.mul_nonneg (a:=x) (b:=s^n*(k*ev t (s*x))-k*k) DG DG;have v:=Rat.mul_nonneg (a:=x-(1+M)) (b:=k*k) DG (Xi k);grind
theorem quiet{p:List Rat}(tp:Jc p=p)(p0:p≠[])(v:0<e)(h:∀x,U x->e<=ev p x*ev p x)(d:0<=B):Sh B λx z=>U x->J2 (DK p) x z=0:=by
 obtain⟨c,m⟩:=Hz tp p0;obtain⟨C,g,hC⟩:=XU c d;obtain⟨f,f0,n⟩:=small (K:=(C*C)*1) (r:=e/2) (Rat.le_of_lt (by have:=Rat.mul_pos g g;grind)) DG;obtain⟨f2,i,l1,l2⟩:=Hx f0 (show(0:Rat)<1 by decide);refine(Xo (DK p) d i).mono λx z q _ _ o l=>?_;refine X8 (Classical.byContradiction λhn=>?_);have j:=(o hn).1;have k:=h x l;rw[m x]at k;have s:=L2 j;have t:=L2 (hC x q);have u:=n f2 l1;have w:=Rat.mul_nonneg (a:=f2*f2-ev (DK p) x*ev (DK p) x) (b:=ev c x*ev c x) DG (Xi _);have y:=Rat.mul_nonneg (a:=f2*f2) (b:=C*C-ev c x*ev c x) (Xi _) DG;have A:=Rat.mul_nonneg (a:=C*C) (b:=f2*(1-f2)) (Xi _) (Rat.mul_nonneg DG DG);grind
theorem p7{F:Rat->Nat}(h:Sh B λx y=>U x->F x=F y){a b:Rat}(c:Wi B a)(hb:Wi B b)(f:a<=b)(l:∀x,a<=x->x<=b->U x):F a=F b:=by
 obtain⟨d,d0,h⟩:=h;obtain⟨n,hn⟩:=steps d0 a b
 have:∀(n:Nat) (a':Rat),a<=a'->Wi B a'->a'<=b->b-a'<=(n:Rat)*d->F a'=F b:=by
  intro n;induction n with
  |zero=>
   intro a' _ c f e;grind
  |succ n m=>
   intro a' j c f e;have g:((n+1:Nat):Rat)=(n:Rat)+1:=by rw[Rat.natCast_add];rfl
   rw[g]at e;rcases JV (b-a') d with i|i
   . grind
   . have k:Wi B (a'+d):=⟨by have:=c.1;grind,by have:=hb.2;grind⟩;grind
 grind
theorem ZS{p:List Rat}(tp:Jc p=p)(p0:p≠[])(j:0<e){a b:Rat}(i:a<=b)(h:∀x,a<=x->x<=b->e<=ev p x*ev p x):DL (JF (Ju p) a)=DL (JF (Ju p) b):=by
 obtain⟨A,k,hA⟩:=JI a;obtain⟨C,l,hC⟩:=JI b;have d:0<=A+C:=by clear h;grind
 have c:=p7 (B:=A+C) (F:=λx=>DL (JF (EY p) x)) (U:=λx=>a<=x/\x<=b) (((Xf tp p0 d).and (quiet tp p0 j (U:=λx=>a<=x/\x<=b) (λx f=>h x f.1 f.2) d)).mono λx z _ _ _ ⟨n,o⟩ m=>by
  grind) (hA.mono (by clear h;grind)) (hC.mono (by clear h;grind)) i (λx g c=>⟨g,c⟩)
 grind[K0]
def DP.ext{u v u2 a:List Rat}(h:DP u v)(b:∀x,ev u2 x=ev u x)(c:∀x,ev a x=ev v x):DP u2 a:=by
 obtain⟨s,t,h⟩:=h;exact⟨s,t,λx=>by rw[b,c];exact h x⟩
theorem p9(hk:k≠0)(w:List Rat)(x z:Rat):J2 (DM k w) x z=J2 w x z:=by
 have d:0<k*k:=by
  have:=XK (f:=[k]) hk (λx=>Jq _ x) 0 0;unfold Stb at this;rwa[Jq]at this
 unfold J2;rw[Jp,Jp];by_cases h:ev w x≠0/\ev w x*ev w z<=0
 . rw[BE h,BE];refine⟨λe=>?_,?_⟩
   . grind
   . have:=Rat.mul_nonneg (a:=k*k) (b:=-(ev w x*ev w z)) DG (by have:=h.2;grind);grind
 . rw[BD h,BD];rintro⟨c,g⟩;refine h ⟨λe=>c (by rw[e];grind),?_⟩;rcases JV (ev w x*ev w z) 0 with q|q
   . exact q
   . rcases Rat.le_iff_lt_or_eq.1 q with q|q
     . have:=Rat.mul_pos d q;grind
     grind
theorem My{v:List Rat}(h:DP u v)(a:0<=B):Sh B λx z=>Stb u x z\/Stb v x z:=by
 obtain⟨s,t,i⟩:=h;obtain⟨S,j,g⟩:=XU s a;obtain⟨T,k,hT⟩:=XU t a;have d:∀ {r K:Rat},0<K->K*(r/K)=r:=λm=>by grind
 refine((Xo u a (Yo Hk j)).and (Xo v a (Yo Hk k))).mono λx z b _ _ ⟨e,f⟩=>?_;by_cases c:Stb u x z
 . exact Or.inl c
 . refine Or.inr (Classical.byContradiction λl=>?_);have n:=LJ (i x) (g x b) (e c).1 DG;have o:=((hT x b).mul (f l).1).2;grind
theorem qA:∀(n:Nat) (R w y:List Rat),R.length<=n->Yun R w y->∀ {B:Rat},0<=B->Sh B λx z=>Stb w x z->Stb R x z:=by
 intro n;induction n with
 |zero=>intro R w y hn h;exact absurd (Aj.1 O) h.R0
 |succ n u=>
  intro R w y hn h B l;by_cases hl:w.length<=1
  . obtain⟨d,H⟩:=Lg h.tw h.w0 hl;have p:Dv R [1]:=Ml h.tR h.R0 ⟨Ji d y,λx=>by
     have G:=h.eq x;grind[Jd,ev]⟩
    have hl:=(p.len h.tR DJ DJ).1;exact Sh.all λx z _ _ _ _=>RU h.tR h.R0 hl x z
  . obtain⟨_,f⟩:=h.part;obtain⟨_,_,c,g,_,i⟩:=h.step;obtain⟨a,o⟩:=ex (Jt w (JR y (Jb w)));rw[o]at f c i;obtain⟨w2,r⟩:=ex (Jm w a);rw[r]at f c i;obtain⟨e,m⟩:=ex (Jm R w);rw[m]at c g;have v:e.length<=n:=by
     have:=JC h.tw c.tR h.w0 c.R0;rw[<-g]at this;omega
    have k:∀x,ev w x=ev a x*ev w2 x:=λx=>by
     grind[Jd]
    have j:∀x,ev R x=ev w x*ev e x:=λx=>by
     grind[Jd]
    refine((u e w2 _ v c l).and (My f l)).mono λx z _ _ _ ⟨s,t⟩ sw=>?_;have A:Stb w2 x z:=by
     rcases t with I|sb
     . unfold Stb at *;rw[k,k]at sw;rcases JV (ev w2 x*ev w2 z) 0 with q|q
       . have:=Rat.mul_nonneg (a:=ev a x*ev a z) (b:=-(ev w2 x*ev w2 z)) DG DG;grind
       . rcases Rat.le_iff_lt_or_eq.1 q with q|q
         . exact q
         . have:ev a x*ev w2 x*(ev a z*ev w2 z)=(ev a x*ev a z)*(ev w2 x*ev w2 z):=DG
           grind
     . exact sb
    have D:=s A;unfold Stb at *;rw[j,j];have:=Rat.mul_pos sw D;grind
theorem qB{p:List Rat}(tp:Jc p=p)(p0:p≠[])(b:0<=B):Sh B λx z=>Stb (DK p) x z->Stb p x z:=by
 obtain⟨d,c⟩:=Lk tp p0;have e:∀x,ev p x=ev (Jr p) x*cf p (p.length-1):=λx=>by
  conv=>lhs;rw[c]
  rw[Jp]
 refine(qA _ _ _ _ (Aa _) (YR tp p0) b).mono λx z _ _ _ h s=>?_;have a:=h s;have:=XK (f:=[cf p (p.length-1)]) d (λx=>Jq _ x) 0 0;unfold Stb at *;rw[Jq]at this;rw[e,e];have:=Rat.mul_pos a this;grind
def Ee(w y:List Rat)(x:Rat):Nat:=if 0<ev w x*ev y x\/ev w x=0 then 1 else 0
theorem qC{w y:List Rat}(st:¬Stb w x x):Ee w y x=1/\J2 w x x+Ee w y x<=1:=by
 have u0:ev w x=0:=by
  rcases Cx.1 (Rat.le_antisymm (Rat.not_lt.1 st) (Xi (ev w x)))with q|q<;>exact q
 grind[J2,Ee]
theorem qD{w y:List Rat}(r1:0<ev (Jb w) x*(ev w z-ev w x))(l:ev w x*ev w z<=0)(sd:Stb (Jb w) x z)(f:0<ev y x*ev (Jb w) x)(g:0<ev y z*ev (Jb w) z):Ee w y z=1/\J2 w x z+Ee w y x<=1:=by
 unfold Stb at sd;unfold Ee J2;generalize ev (Jb w) x=d at *;generalize ev (Jb w) z=c at *;generalize ev y x=a at *;generalize ev y z=b at *;generalize ev w x=u at *;generalize ev w z=v at *;have k:0<a*(v-u):=Xl (a:=d) (by have:=Rat.mul_pos f r1;grind);have e:0<c*(v-u):=Xl (a:=d) (by have:=Rat.mul_pos sd r1;grind);have r4:0<b*(v-u):=Xl (a:=c) (by have:=Rat.mul_pos g e;grind);by_cases u0:u=0
 . subst u0;grind
 . have i:u*a<0:=by
    rcases JV 0 (u*a)with q|q
    . exfalso
      have q:0<u*a:=by
       rcases Rat.le_iff_lt_or_eq.1 q with q|q
       . exact q
       . grind[JB]
      have:=Rat.mul_pos q (show 0<v*a by grind);have:=Xl (a:=a) (b:=u*v) DG;grind
    . grind[Cx]
   have j:0<v*b\/v=0:=by
    rcases JV (v*b) 0 with t|t
    . rcases Rat.le_iff_lt_or_eq.1 t with t|t
      . exfalso
        have:=Rat.mul_pos (a:=-(v*b)) (b:=-(u*b)) DG DG;have:=Xl (a:=b) (b:=u*v) DG;grind
      grind[JB]
    . grind[Cx]
   grind
theorem qE{w y s f:List Rat}(D:0<k)(A:J2 f x z<=J2 s x z)(m:¬Stb w x z->k<=ev y x*ev (Jb w) x/\k<=ev y z*ev (Jb w) z)(n:¬Stb w x z->x<z->0<ev (Jb w) x*(ev w z-ev w x))(B:Stb f x z->Stb y x z)(o:Stb w x z\/Stb (Jb w) x z)(v:ev y x≠0->ev f x≠0)(l:x<=z):
 J2 w x z+Ee w y x<=Ee w y z+J2 s x z:=by
 by_cases st:Stb w x z
 . rw[X8 st,AQ];obtain⟨G,e⟩:=JB st;by_cases q:Ee w y x<=Ee w y z
   . omega
   ·
    have p:0<ev w x*ev y x:=by
     unfold Ee at q;by_cases r:0<ev w x*ev y x\/ev w x=0
     . grind
     . grind
    have g:¬(0<ev w z*ev y z):=λr=>by
     grind[Ee]
    have L:¬Stb y x z:=λr=>g (by
     have u:=NT (a:=ev w x) (b:=ev y x) (c:=ev w z) (d:=ev y z) st r;rcases JV (ev w z*ev y z) 0 with t|t
     . rcases Rat.le_iff_lt_or_eq.1 t with t|t
       . grind
       . rcases Cx.1 t with t|t
         . exact absurd t e
         . exact absurd t (JB r).2
     . rcases Rat.le_iff_lt_or_eq.1 t with t|t
       . exact t
       . rcases Cx.1 t.symm with t|t
         . exact absurd t e
         . exact absurd t (JB r).2)
    grind[Stb,J2,JB,Ee]
 . obtain⟨I,K⟩:=m st;have sd:=o.resolve_left st;have H:Ee w y z=1/\J2 w x z+Ee w y x<=1:=by
    rcases Rat.le_iff_lt_or_eq.1 l with j|i
    . exact qD (n st j) (Rat.not_lt.1 st) sd DG DG
    . subst i;exact qC st
   omega
theorem qF{p:List Rat}(tp:Jc p=p)(hl:1<p.length)(b:0<=B):
 Sh B λx z=>J2 (DK p) x z+Ee (DK p) (Ek p) x<=Ee (DK p) (Ek p) z+J2 (DK (Jb p)) x z:=by
 have p0:p≠[]:=λe=>by rw[e]at hl;simp at hl
 have ts:=Jv p;have d:Jb p≠[]:=λe=>by have:=Mk tp e;omega
 have a:=YR tp p0;have y0:Ek p≠[]:=λe=>by
  have M:Jb (Jr p)=[]:=XF (Jv _) λx=>by
   have j:=a.eq x;rw[e]at j;have y:=Y8 (u:=Jb (Jr p)) (v:=[]) a.tw a.w0 (λx=>by
    have j:=a.eq x;grind[ev]) x
   rw[y];rfl
  grind[Mk,Yf,X2]
 have ty:=a.ty;have dy:Dv (Ek p) (Jb p):=by
  obtain⟨_,A⟩:=Lk tp p0;obtain⟨_,w,_⟩:=Yc (Yf p) (Jv (Jr p));have g0:=Yd (Yf p) (Jv (Jr p)) (Or.inl (KS tp p0));have s:=(JK (JE _ _) g0 w).2;refine⟨DM (cf p (p.length-1)) (Jt (Jr p) (Jb (Jr p))),λx=>?_⟩;have g:=ZK (cf p (p.length-1)) (Jr p) x;rw[<-A]at g;rw[g,s,Jp];show _=ev (Jm (Jb (Jr p)) (Jt (Jr p) (Jb (Jr p)))) x*_;grind
 have n:=YR ty y0;have m:=YR ts d;have dw:Dv (DK (Ek p)) (DK (Jb p)):=DX.dv m.tw n.tw n.w0 (Iz ty y0) λc h=>((XG ts d c).1 h).of_dv ((Hz ty y0).trans dy);obtain⟨e,Q,i⟩:=dw.some m.tw;have o:DP (DK (Ek p)) e:=DX.parts (by rw[<-i];exact Iz ts d);have l:=Mw o b;rw[<-i]at l;obtain⟨k,L,sg⟩:=RV _ _ _ _ (Aa _) a b;have r:=Iz tp p0;refine((((l.and sg).and (ZN a b)).and ((qB ty y0 b).and (My r b)))).mono λx z _ _ D ⟨⟨⟨P,G⟩,H⟩,I,K⟩=>?_;have t:∀x,ev (Ek p) x≠0->ev (DK (Ek p)) x≠0:=λx h q=>by
  obtain⟨c,N⟩:=Hz ty y0;grind
 exact qE (f:=DK (Ek p)) L O G H I K (t x) D
theorem ZT{P:Rat->Rat->Prop}(m:∀x,P x x)(tr:∀x y z,P x y->P y z->P x z)(h:Sh B P){a b:Rat}(c:Wi B a)(hb:Wi B b)(f:a<=b):P a b:=by
 obtain⟨d,d0,h⟩:=h;obtain⟨n,hn⟩:=steps d0 a b
 have:∀(n:Nat) (a:Rat),Wi B a->a<=b->b-a<=(n:Rat)*d->P a b:=by
  intro n;induction n with
  |zero=>
   intro a c f g;have e:a=b:=by
    have:((0:Nat):Rat)=0:=rfl
    rw[this]at g;grind
   rw[e];exact m _
  |succ n l=>
   intro a c f g;have k:((n+1:Nat):Rat)=(n:Rat)+1:=by rw[Rat.natCast_add];rfl
   rw[k]at g;rcases JV (b-a) d with i|i
   . exact h a b c hb f i
   . have j:Wi B (a+d):=⟨by have:=c.1;grind,by have:=hb.2;grind⟩;exact tr _ _ _ (h a (a+d) c j DG DG) (l (a+d) j DG DG)
 exact this n a c f hn
theorem Rs{p:List Rat}(tp:Jc p=p)(p0:p≠[])(a:0<=B):Sh B λx z=>DL (JF (Ju p) x)=DL (JF (Ju p) z)+J2 (DK p) x z:=by
 grind[Xf,K0]
def qG(w y:List Rat)(x:Rat):Ee w y x<=1:=by unfold Ee;split<;>omega
def qH{p:List Rat}(tp:Jc p=p)(hl:1<p.length){a b:Rat}(f:a<=b):
 DL (JF (Ju p) a)+DL (JF (Ju (Jb p)) b)<=DL (JF (Ju p) b)+DL (JF (Ju (Jb p)) a)+1:=by
 have p0:p≠[]:=λe=>by rw[e]at hl;simp at hl
 have g:Jb p≠[]:=λe=>by have:=Mk tp e;omega
 obtain⟨A,i,hA⟩:=JI a;obtain⟨C,j,hC⟩:=JI b;have c:0<=A+C:=DG
 have:=ZT (B:=A+C) (P:=λx z=>DL (JF (Ju p) x)+Ee (DK p) (Ek p) x+DL (JF (Ju (Jb p)) z)<=DL (JF (Ju p) z)+Ee (DK p) (Ek p) z+DL (JF (Ju (Jb p)) x))
  (λ_=>Aa _) (λ_ _ _ _ _=>by omega) (((Rs tp p0 c).and ((Rs (Jv p) g c).and (qF tp hl c))).mono λx z _ _ _ ⟨d,k,l⟩=>by
   show _<=_;omega) (hA.mono DG) (hC.mono DG) f
 have d:=qG (DK p) (Ek p) b;omega
theorem Rt{a b:Rat}(f:a≠0)(hb:b≠0):a*b<0↔¬(a<0↔b<0):=by
 have pos:∀ {c:Rat},c≠0->¬c<0->0<c:=fun {c} d e=>by
  grind
 by_cases d:a<0<;>by_cases e:b<0
 . have:=Rat.mul_pos (a:=-a) (b:=-b) DG DG;simp[d,e];grind
 . have:=Rat.mul_pos (a:=-a) (b:=b) DG (pos hb e);simp[d,e];grind
 . have:=Rat.mul_pos (a:=a) (b:=-b) (pos f d) DG;simp[d,e];grind
 grind[Rat.mul_pos]

