import Derived.Test.YteldjhhjnchdeaaGreatDoorT36
set_option linter.all false
open Go renaming undef->C,World->F,Value->H,Calls->R
open Go.Value renaming slice->E,string->I,int->Q
open Go.Proofs.Tryz renaming prog->G
set_option maxRecDepth 99999
set_option maxHeartbeats 0
namespace Go.Proofs.YteldjhhjnchdeaaGreatDoor
open Proofs.Tryz
open Go.RowKit Go.Shelf
attribute [local go_sem] Oper.semAt_some
def KS(s:Ja × Ja):Ja × Ja:=(Df s.1 (JA s.1 (JP s.2 (Jd s.1))),Df (JP s.2 (Jd s.1)) (JA s.1 (JP s.2 (Jd s.1))))
def DR(w y:Ja):Nat->Ja × Ja
 |0=>(w,y)
 |n+1=>KS (DR w y n)
def yP(s:Ja × Ja):Ja:=JA s.1 (JP s.2 (Jd s.1))
def yL(w y:Ja):Nat->List (Ja × Nat)
 |0=>[]
 |n+1=>yL w y n++(if 1<(yP (DR w y n)).length then [(yP (DR w y n),n+1)]else [])
theorem PD(w y:Ja):∀n,(yL w y n).length<=n:=by
 intro n;induction n with
 |zero=>exact Aa _
 |succ n a=>
  grind[yL]
structure StOk(K M:Nat)(w y:Ja):Prop where
 ch:M3.ChOk K w (JP y (Jd w))
 ty:Jb y=y
 cw:Cd M w
 cs:Cd M (Jd w)
 cy:Cd M y
 cz:Cd M (JP y (Jd w))
 kM:DZ K w (JP y (Jd w))<=M
 l1:2*((w.length+3)*(M+1))<=1000000000
 l2:2*(((JP y (Jd w)).length+3)*(M+1))<=1000000000
structure PtOk(K M N:Nat)(p:Ja):Prop where
 tp:Jb p=p
 cp:Cd M p
 ch:M3.ChOk K (Jt p) (Jd (Jt p))
 kM:DZ K (Jt p) (Jd (Jt p))<=M
 l1:2*((p.length+3)*(M+1))<=1000000000
 gt:1<p.length
 nN:N<=1000000000
 st:∀n,n<N->1<(DR (Df (Jt p) (JA (Jt p) (Jd (Jt p)))) (Df (Jd (Jt p)) (JA (Jt p) (Jd (Jt p)))) n).1.length/\StOk K M (DR (Df (Jt p) (JA (Jt p) (Jd (Jt p)))) (Df (Jd (Jt p)) (JA (Jt p) (Jd (Jt p)))) n).1 (DR (Df (Jt p) (JA (Jt p) (Jd (Jt p)))) (Df (Jd (Jt p)) (JA (Jt p) (Jd (Jt p)))) n).2
 en:(DR (Df (Jt p) (JA (Jt p) (Jd (Jt p)))) (Df (Jd (Jt p)) (JA (Jt p) (Jd (Jt p)))) N).1.length<=1
def Hp(p:Ja)(N:Nat):List (Ja × Nat):=yL (Df (Jt p) (JA (Jt p) (Jd (Jt p)))) (Df (Jd (Jt p)) (JA (Jt p) (Jd (Jt p)))) N
namespace M3
def Eh(base:Nat)(V:F)(v:H)(L:List (Ja × Nat)):Prop:=XE true base V v L
section
variable {base:Nat} {V V':World} {v:Value} {L:List (Ja × Nat)}
def Eh.below(h:Eh base V v L)(a:Bl V V'):Eh base V' v L:=XE.below h a
def Eh.drew(h:Eh base V v L):Eh base V.drew v L:=XE.below h ((BB _ V).drew)
def Eh.alloc(h:Eh base V v L)(o:Obj):Eh base (V.alloc o) v L:=XE.below h (Ba V o)
def Eh.set1(h:Eh base V v L){B:Nat}{a:kR}{l c:Nat}(q:Boxed V B 25 (E a l c))(_:JG (E a l c)=true)(b:H):Eh base (V.setCell ⟨B,0,none⟩ b) v L:=XE.set h q (λ_ _ g=>Ej q b g)
end
def iQ(a b:H)(ps qs:Ja)(w:F)(i:Jh w a ps)(j:Jh w b qs)(k:Sqs ps)(l:Sqs qs)(m:Sqs (JP ps qs)):
 R G 48 #[a,b] w λe c=>∃u,e=.returned u/\Jh c u (JP ps qs)/\Bl w c:=by
 refine(Ry a b ps qs w i j k l m).mono ?_;rintro e c ⟨u,d,f,_,g⟩;exact⟨u,d,f,g⟩
def Tp{M:Nat}{w:Ja}(h:Cd M (Jd w))(b:M<=1000000000)(i:Nat):Sq (Ef w i):=by
 have a:=(h.sqs b).at i;unfold Jd at a;rwa[JR,IL]at a
theorem Tq(K M N:Nat)(v:H)(p:Ja)(w:F)(h:Jh w v p)(U:PtOk K M N p):
 R G 18 #[v] w λe S=>∃u,e=.returned u/\XE true w.heap.size S u (Hp p N)/\Bl w S:=by
 obtain⟨q,hq⟩:=ex (Jt p);obtain⟨c,hc⟩:=ex (JA q (Jd q));obtain⟨w0,ae⟩:=ex (Df q c);obtain⟨z,ah⟩:=ex (Df (Jd q) c);have hM:M<=1000000000:=by
  have h1:=U.l1;grind
 have Qn:=U.ch;have Ue:=U.kM;rw[hq]at Qn Ue;have Ur:q.length=p.length:=by rw[<-hq];exact Ya U.tp
 have Qr:Cd M q:=by rw[<-hq];exact U.cp.mon U.tp
 have Uf:Jb q=q:=by rw[<-hq];exact Yx _
 have Uc:Cd M (Jd q):=(show Cd K (Jd q)from Qn.cq).mono (by have:=Hn K q (Jd q);omega);have Qt:Cd M c:=by rw[<-hc];exact Qn.gcd.mono Ue
 have Ug:Jb c=c:=by rw[<-hc];exact JZ _ _
 have Qz:Jt c=c:=by rw[<-hc];exact YX Uf (JB _)
 have Up:2*(((Jd q).length+3)*(M+1))<=1000000000:=by
  have h1:(Jd q).length<=q.length:=Al (Yk _) (by simp[IK]);have h2:((Jd q).length+3)*(M+1)<=(p.length+3)*(M+1):=Af _ O;have h3:=U.l1;omega
 obtain⟨Ud,Wa,Ul,Wi,Wh,Wb⟩:=IW (λ(V:F) (x:H) (r:Ja) (A:Jh V x r)=>YJ x r V A) (λ(V:F) (x:H) (A:Jh V x p)=>show R G 26 #[x] V λe S=>∃u,e=.returned u/\Jh S u q/\Bl V S by rw[<-hq];exact Tn M x p V A U.tp U.cp hM) (λ(V:F) (x:H) (A:Jh V x q)=>Ot x q V A (Qr.sqs hM) (Tp Uc hM)) (λ(V:F) (x y:H) (A:Jh V x q) (X:Jh V y (Jd q))=>show R G 8 #[x,y] V λe S=>∃u,e=.returned u/\Jh S u c/\Bl V S by rw[<-hc];exact O7 K x y q (Jd q) V A X Qn) (λ(V:F) (x y:H) (A:Jh V x q) (X:Jh V y c)=>show R G 46 #[x,y] V λe S=>∃u,e=.returned u/\Jh S u w0/\Bl V S by rw[<-ae];exact LQ M x y q c V A X Qr Qt Uf Ug Qz (by rw[Ur];exact U.l1)) (λ(V:F) (x y:H) (A:Jh V x (Jd q)) (X:Jh V y c)=>show R G 46 #[x,y] V λe S=>∃u,e=.returned u/\Jh S u z/\Bl V S by rw[<-ah];exact LQ M x y (Jd q) c V A X Uc Qt (JB _) Ug Qz Up);have Qs:=U.st;have Qw:=U.en;rw[hq,hc,ae,ah]at Qs Qw;obtain⟨Uq,Wc,We⟩:=Dc Qs Qw (show Hp p N=yL w0 z N by unfold Hp;rw[hq,hc,ae,ah]);rw[We.o];obtain⟨Uy,Uz,Wd⟩:=Dc (λ(a b:Ja) (o:StOk K M a b) (V:F) (x:H) (A:Jh V x a)=>Ot x a V A (o.cw.sqs hM) (Tp o.cs hM)) (λ(a b:Ja) (o:StOk K M a b) (V:F) (x y:H) (A:Jh V x b) (X:Jh V y (Jd a))=>iQ x y b (Jd a) V A X (o.cy.sqs hM) (o.cs.sqs hM) (o.cz.sqs hM)) λ(a b:Ja) (o:StOk K M a b) (V:F) (x y:H) (A:Jh V x a) (X:Jh V y (JP b (Jd a)))=>O7 K x y a (JP b (Jd a)) V A X o.ch;have Qe:∀(a b:Ja),StOk K M a b->Cd M (JA a (JP b (Jd a)))/\Jb (JA a (JP b (Jd a)))=JA a (JP b (Jd a))/\Jt (JA a (JP b (Jd a)))=JA a (JP b (Jd a)):=λa b o=>⟨o.ch.gcd.mono o.kM,JZ _ _,YX o.ch.tp o.ch.tq⟩;have Uu:=Y λ(a b:Ja) (o:StOk K M a b) (V:F) (x y:H) (A:Jh V x a) (X:Jh V y (JA a (JP b (Jd a))))=>LQ M x y a (JA a (JP b (Jd a))) V A X o.cw (Qe a b o).1 o.ch.tp (Qe a b o).2.1 (Qe a b o).2.2 o.l1;have Wg:=Y λ(a b:Ja) (o:StOk K M a b) (V:F) (x y:H) (A:Jh V x (JP b (Jd a))) (X:Jh V y (JA a (JP b (Jd a))))=>LQ M x y (JP b (Jd a)) (JA a (JP b (Jd a))) V A X o.cz (Qe a b o).1 o.ch.tq (Qe a b o).2.1 (Qe a b o).2.2 o.l2;have Ua:¬(p.length:Int)-1<1:=by have:=U.gt;omega
 obtain⟨d0,bc⟩:=ex ((p.length:Int)-1:Int);rw[bc]at Ua;have Ux:=Y bc;have fh:=U.nN;obtain⟨pa,la,pc,rfl⟩:=h.form;obtain⟨W0,dx,M1⟩:=GN 25 (.poly p) h;clear h U Qn Ue Ur Qr Uf Uc Qt Ug Qz Up Qs Qw Qe hM hq hc ae ah bc;go_enter func18,ntmps18
 go_upto_region 1 with fail
 rw[dx.o];obtain⟨a1,l1,c1,n1,r1⟩:=M1.o.poly2 (i:=0) J;have Qx:=n1.cell;have W:=Y (Ud.o W0 _ p r1);rw[Ux.o]at W;go_upto_region 3 with(go_at_call 20;refine W.o.mono ?_;rintro e w1 ⟨rfl,hq⟩;clear Qx;have Qx:=(boxed_below n1 hq).cell)
 have M2:=Y (M1.o.below hq);clear M1;clear hq n1 r1 Qx;obtain⟨a2,l2,c2,n2,r2⟩:=M2.o.poly2 (i:=0) J;have Qy:=n2.cell;have Qv:=n2.frozen;have W:=Y (Wa.o w1 _ r2);go_upto_region 4 with(go_at_call 26;refine W.o.mono ?_;rintro e w2 ⟨u2,rfl,bk,hq⟩;obtain⟨bu,dh,ce,rfl⟩:=Jh.form bk;clear Qy;have Qy:=(boxed_below n2 hq).cell;clear Qv;have Qv:=(boxed_below n2 hq).frozen)
 obtain⟨V3,hV⟩:=ex (w2.setCell ⟨w.heap.size,0,none⟩ (E bu dh ce));have l:DL w (w2.setCell ⟨w.heap.size,0,none⟩ (E bu dh ce)) [some (w.heap.size,.poly q)]:=DL.putPoly (M2.o.below hq) (i:=0) J bk;rw[hV]at l;rw[hV];have M3:=Y (l);clear M2;clear l hV;clear bk hq n2 r2 Qy Qv;refine Xa Di [[],[],[1],[0,2,2],[],[4,3,3,0,1,2,3,4]] [.poly q,.poly q,.poly (Jd q),.poly c,.ptr,.eq C] [4,5] (λb v V=>DL w V [some (w.heap.size,.poly q),nb b v 0 1 (.poly []) (.poly c)]) (M3.o.none).drew (No (.vl J λ_ j=>Ek 0 j)<|No (.vl J λ_ j=>Ek 0 j)<|No (.cl λh _=>Ul.o _ _ (h.g 1))<|No (.cl λh _=>Wi.o _ _ _ (h.g 0) (h.g 2))<|No (.wr J λ_ j=>Il 1 j)<|No (.wr J λh j=>E0 1 j (h.g 3) (hp:=h.g 4)) Stp.end_)
  λf V5 hF l=>?_
 refine DU ?_;obtain⟨B6,ap⟩:=hF.p 4;have l:=ED l;simp only[ap]at l;rw[ap];have M4:=Y l;clear l hF ap;clear M3;go_upto_region 5 with fail
 refine Xa Di [[],[],[0,1],[],[3,2],[],[4,5,4],[],[],[7,2,6,0,1,2,7,8],[8,6,9,0,1,2,3,4,5,6,7,8,9]] [.poly q,.poly c,.poly w0,.poly q,.poly (Jd q),.poly c,.poly z,.ptr,.ptr,.eq C,.eq C] [7,8,9,10] (λb v V=>DL w V [some (w.heap.size,.poly q),some (B6,.poly c),nb b v 0 2 (.poly []) (.poly w0),nb b v 1 3 (.poly []) (.poly z)]) ((M4.o.none).none).drew (No (.vl J λ_ j=>Ek 0 j)<|No (.vl J λ_ j=>Ek 1 j)<|No (.cl λh _=>Wh.o _ _ _ (h.g 0) (h.g 1))<|No (.vl J λ_ j=>Ek 0 j)<|No (.cl λh _=>Ul.o _ _ (h.g 3))<|No (.vl J λ_ j=>Ek 1 j)<|No (.cl λh _=>Wb.o _ _ _ (h.g 4) (h.g 5))<|No (.wr J λ_ j=>Il 2 j)<|No (.wr J λ_ j=>Il 3 j)<|No (.wr J λh j=>E0 2 j (h.g 2) (hp:=h.g 7))<|No (.wr J λh j=>E0 3 j (h.g 6) (hp:=h.g 8)) Stp.end_)
  λf V8 hF l=>?_
 refine DU ?_;obtain⟨B9,aq⟩:=hF.p 7;obtain⟨B10,an⟩:=hF.p 8;have l:=ED l;simp only[aq,an]at l;rw[aq,an];have M5:=Y l;clear l hF aq an;clear M4;go_wp2;go_loopw [6,7] (λlv tv wr=>∃(k:Nat) (xa:kR) (xc:Nat),k<=N/\lv=E xa (yL w0 z k).length xc/\tv=Q .i64 ((k+1:Nat):Int)/\Hid (Eh w.heap.size wr (E xa (yL w0 z k).length xc) (yL w0 z k))/\Hid (DL w wr [some (w.heap.size,.poly q),some (B6,.poly c),some (B9,.poly ((DR w0 z k).1)),some (B10,.poly ((DR w0 z k).2))])) λ_ tv _=>N+1-(intOf tv).toNat
 case atStart=>exact⟨0,none,0,As _,J,J,Y (XE.nil _ _ _),M5⟩
 case round=>
  clear M5;obtain⟨k,xa,xc,hk,rfl,rfl,XL,M6⟩:=hrel;obtain⟨g,bi⟩:=ex ((DR w0 z k).1);obtain⟨s,bj⟩:=ex ((DR w0 z k).2);obtain⟨L,hL⟩:=ex (yL w0 z k);have D:=Y (show(DR w0 z k).1=g/\(DR w0 z k).2=s/\yL w0 z k=L/\L.length<=k from⟨bi,bj,hL,by rw[<-hL];exact PD _ _ _⟩);rw[bi,bj]at M6;rw[hL]at XL;clear bi bj hL;rw[D.o.2.2.1];obtain⟨ll,bh⟩:=ex (L.length:Nat);rw[bh]at XL ⊢;have Qi:=Y bh;clear bh;obtain⟨T,hT⟩:=ex (k+1:Nat);rw[hT];have Qg:=Y hT;clear hT;obtain⟨f6,fi,fd,ai,r11⟩:=M6.o.poly2 (i:=2) J;have Qc:=ai.cell;have W:=Y (Ud.o wr _ g r11);obtain⟨d1,bf⟩:=ex ((g.length:Int)-1:Int);rw[bf]at W;have Uo:=Y bf;clear bf;by_cases co:k<N
  . have Us:(0:Int)<d1:=by have h1:=(Uq.o k co).1;rw[D.o.1]at h1;have:=Uo.o;omega
    have HO:=Y (show StOk K M g s by have h1:=(Uq.o k co).2;rwa[D.o.1,D.o.2.1]at h1);go_upto_region 10 with(go_at_call 20;refine W.o.mono ?_;rintro e w1 ⟨rfl,hq⟩;clear Qc;have Qc:=(boxed_below ai hq).cell)
    have M7:=Y (M6.o.below hq);have Un:=Y (XL.o.below hq);clear XL hq ai r11 Qc M6;refine Xa Di [[],[],[1],[0,2,2],[3,3,0,1,2,3]] [.poly s,.poly g,.poly (Jd g),.poly (JP s (Jd g)),.eq C] [4] (λb _ V=>DL w V [some (w.heap.size,.poly q),some (B6,.poly c),some (B9,.poly g),some (B10,if b.getD 0 false then .poly (JP s (Jd g))else .poly s)]/\Eh w.heap.size V (E xa ll xc) L) ⟨M7.o.drew,Un.o.drew⟩ (No (.vl J λ_ j=>Ek 3 j.1)<|No (.vl J λ_ j=>Ek 2 j.1)<|No (.cl λh _=>Uy.o g s HO.o _ _ (h.g 1))<|No (.cl λh _=>Uz.o g s HO.o _ _ _ (h.g 0) (h.g 2))<|No (.wr J λh j=>E0 3 j.1 (h.g 3) (hT:=λn m=>⟨m,j.2.set1 n J _⟩)) Stp.end_)
     λf dz hF l=>?_
    obtain⟨l,XX⟩:=l;replace XX:=Y XX;refine DU ?_;have l:=ED l;have M8:=Y l;clear l hF;clear M7;have Ui:=XX;clear XX Un;obtain⟨P,hP⟩:=ex (JA g (JP s (Jd g)));obtain⟨Qo,Qm,Qd,Qf⟩:=Do hP (Wd.o g s HO.o) (Uu.o g s HO.o) (Wg.o g s HO.o);rw[hP]at Qm Qd Qf;clear hP;obtain⟨f7,fj,fe,di,dt⟩:=M8.o.poly2 (i:=2) J;have Qu:=di.cell;obtain⟨f8,fk,ff,dj,du⟩:=M8.o.poly2 (i:=3) J;have Ub:=dj.cell;have W:=Y (Qm.o dz _ _ dt du);go_upto_region 12 with(go_at_call 8;refine W.o.mono ?_;rintro e w3 ⟨u3,rfl,bm,hq⟩;obtain⟨ak,bn,am,rfl⟩:=Jh.form bm)
    have Uk:=Y ((Ui.o.below hq).alloc (.cells #[E ak bn am] 25));clear Ui di dt Qu dj du Ub;have Qq:=Uk;clear Uk;obtain⟨ed,hV⟩:=ex (w3.alloc (.cells #[E ak bn am] 25));obtain⟨bt,ay⟩:=ex (w3.heap.size);have l:DL w (w3.alloc (.cells #[E ak bn am] 25)) [some (w.heap.size,.poly q),some (B6,.poly c),some (B9,.poly g),some (B10,.poly (JP s (Jd g))),some (w3.heap.size,.poly P)]:=DL.push (M8.o.below hq) (.poly P) bm;rw[hV,ay]at l;rw[hV]at Qq;rw[hV];rw[ay];have M9:=Y (l);clear M8;clear l hV ay bm hq;obtain⟨f9,fm,fg,ad,aj⟩:=M9.o.poly2 (i:=4) J;have Qb:=ad.cell;have W:=Y (Ud.o ed _ P aj);obtain⟨d2,bg⟩:=ex ((P.length:Int)-1:Int);rw[bg]at W;have Uj:=Y bg;clear bg;by_cases cj:1<P.length
    . have Uw:(0:Int)<d2:=by have:=Uj.o;omega
      have Qh:=Y (show yL w0 z (k+1)=L++[(P,T)]by rw[yL,D.o.2.2.1];unfold yP;rw[D.o.1,D.o.2.1,Qo.o,BL cj,Qg.o]);go_upto_region 13 with(go_at_call 20;refine W.o.mono ?_;rintro e w4 ⟨rfl,hq⟩;clear Qb;have Qb:=(boxed_below ad hq).cell)
      have X4:=Qq.o.below hq;have M4:=M9.o.below hq;have r4:=aj.below hq;have Uh:=M4.2.2.size;obtain⟨v',S,az,X5,cn,ck,ew⟩:=To true w.heap.size w4 (E xa ll xc) L X4 (t:=T) r4.row (by have:=D.o.2.2.2;omega) Uh;obtain⟨ya,yc,de,_,_⟩:=X5.form;rw[At,show([(P,T)]:List (Ja × Nat)).length=1 from J]at de;subst de;have M5:=M4.farP cn (ck _ w (Aa _) M4.2.2) (λi B d e=>by rcases i with _|_|_|_|_|i<;>simp at e<;>(obtain⟨rfl,rfl⟩:=e;show 25≠44;decide));have e4:=(boxed_below ad hq).cell;clear X4 r4 Uh cn ck ew hq M4 ad aj Qb;rw[show GF true=39 from J,show Dz true=44 from J]at az;go_upto_region 14 with(first
       |(at_builtin;refine Bg _ J _ _ 39 39 J _ _ J J _ _ az ?_;clear az))
      clear e4 M9;have Qk:=Y (M5);clear M5;have Um:Hid (Eh w.heap.size S (E ya (L.length+1) yc) (L++[(P,T)])):=Y X5;clear X5;rw[Qi.o]at Um;refine Xa Di [[],[],[0,1],[],[],[3,4,2],[2,5,0,1,2],[5,6,0,1,2,3,4,5,6]] [.poly g,.poly P,.poly (Df g P),.poly (JP s (Jd g)),.poly P,.poly (Df (JP s (Jd g)) P),.eq C,.eq C] [6,7] (λb _ V=>DL w V [some (w.heap.size,.poly q),some (B6,.poly c),some (B9,if b.getD 0 false then .poly (Df g P)else .poly g),some (B10,if b.getD 1 false then .poly (Df (JP s (Jd g)) P)else .poly (JP s (Jd g))),some (bt,.poly P)]/\Eh w.heap.size V (E ya (ll+1) yc) (L++[(P,T)])) ⟨Qk.o.drew,Um.o.drew⟩ (No (.vl J λ_ j=>Ek 2 j.1)<|No (.vl J λ_ j=>Ek 4 j.1)<|No (.cl λh _=>Qd.o _ _ _ (h.g 0) (h.g 1))<|No (.vl J λ_ j=>Ek 3 j.1)<|No (.vl J λ_ j=>Ek 4 j.1)<|No (.cl λh _=>Qf.o _ _ _ (h.g 3) (h.g 4))<|No (.wr J λh j=>E0 2 j.1 (h.g 2) (hT:=λn m=>⟨m,j.2.set1 n J _⟩))<|No (.wr J λh j=>E0 3 j.1 (h.g 5) (hT:=λn m=>⟨m,j.2.set1 n J _⟩)) Stp.end_)
       λf ei hF l=>?_
      obtain⟨l,XX⟩:=l;replace XX:=Y XX;refine DU ?_;have l:=ED l;have Ql:=Y l;clear l hF;generalize f 0=fo,f 1=fs,f 2=ft,f 3=fu,f 4=fw,f 5=fx;clear Qk;have Qp:Hid (DL w ei [some (w.heap.size,.poly q),some (B6,.poly c),some (B9,.poly (Df g P)),some (B10,.poly (Df (JP s (Jd g)) P))]):=Y (Ql.o.take 4);have Qj:=Y (show(DR w0 z (k+1)).1=Df g P/\(DR w0 z (k+1)).2=Df (JP s (Jd g)) P by rw[DR];unfold KS;rw[D.o.1,D.o.2.1,Qo.o];exact⟨J,J⟩);have Uv:T+1<=9223372036854775807:=by have:=Qg.o;omega
      clear Ql;go_wp2_with fail
      go_roundw
      case rel=>exact⟨k+1,ya,yc,O,by rw[Qh.o,At,Qi.o];rfl,by rw[Qg.o];go_num,by rw[Qh.o,At,Qi.o];exact XX,by rw[Qj.o.1,Qj.o.2];exact Qp⟩
      case measure=>simp[intOf];have:=Qg.o;omega
    . have Uw:¬(0:Int)<d2:=by have:=Uj.o;omega
      have Qh:=Y (show yL w0 z (k+1)=L by rw[yL,D.o.2.2.1];unfold yP;rw[D.o.1,D.o.2.1,Qo.o,BH cj,Cj]);go_upto_region 14 with(go_at_call 20;refine W.o.mono ?_;rintro e w4 ⟨rfl,hq⟩;clear Qb;have Qb:=(boxed_below ad hq).cell)
      have Ut:=Y (Qq.o.below hq);have Qk:=Y (M9.o.below hq);clear M9;clear hq ad aj Qb;refine Xa Di [[],[],[0,1],[],[],[3,4,2],[2,5,0,1,2],[5,6,0,1,2,3,4,5,6]] [.poly g,.poly P,.poly (Df g P),.poly (JP s (Jd g)),.poly P,.poly (Df (JP s (Jd g)) P),.eq C,.eq C] [6,7] (λb _ V=>DL w V [some (w.heap.size,.poly q),some (B6,.poly c),some (B9,if b.getD 0 false then .poly (Df g P)else .poly g),some (B10,if b.getD 1 false then .poly (Df (JP s (Jd g)) P)else .poly (JP s (Jd g))),some (bt,.poly P)]/\Eh w.heap.size V (E xa ll xc) L) ⟨Qk.o.drew,Ut.o.drew⟩ (No (.vl J λ_ j=>Ek 2 j.1)<|No (.vl J λ_ j=>Ek 4 j.1)<|No (.cl λh _=>Qd.o _ _ _ (h.g 0) (h.g 1))<|No (.vl J λ_ j=>Ek 3 j.1)<|No (.vl J λ_ j=>Ek 4 j.1)<|No (.cl λh _=>Qf.o _ _ _ (h.g 3) (h.g 4))<|No (.wr J λh j=>E0 2 j.1 (h.g 2) (hT:=λn m=>⟨m,j.2.set1 n J _⟩))<|No (.wr J λh j=>E0 3 j.1 (h.g 5) (hT:=λn m=>⟨m,j.2.set1 n J _⟩)) Stp.end_)
       λf et hF l=>?_
      obtain⟨l,XX⟩:=l;replace XX:=Y XX;refine DU ?_;have l:=ED l;have Ql:=Y l;clear l hF;clear Qk;have Qp:Hid (DL w et [some (w.heap.size,.poly q),some (B6,.poly c),some (B9,.poly (Df g P)),some (B10,.poly (Df (JP s (Jd g)) P))]):=Y (Ql.o.take 4);have Qj:=Y (show(DR w0 z (k+1)).1=Df g P/\(DR w0 z (k+1)).2=Df (JP s (Jd g)) P by rw[DR];unfold KS;rw[D.o.1,D.o.2.1,Qo.o];exact⟨J,J⟩);have Uv:T+1<=9223372036854775807:=by have:=Qg.o;omega
      clear Ql;go_wp2_with fail
      go_roundw
      case rel=>exact⟨k+1,xa,xc,O,by rw[Qh.o,Qi.o],by rw[Qg.o];go_num,by rw[Qh.o,Qi.o];exact XX,by rw[Qj.o.1,Qj.o.2];exact Qp⟩
      case measure=>simp[intOf];have:=Qg.o;omega
  . obtain rfl:k=N:=O
    have Us:¬(0:Int)<d1:=by have h1:=Wc.o;rw[D.o.1]at h1;have:=Uo.o;omega
    go_wp2_with(go_at_call 20;refine W.o.mono ?_;rintro e w1 ⟨rfl,hq⟩;clear Qc;have Qc:=(boxed_below ai hq).cell)
    have HF:=Y (show XE true w.heap.size w1 (E xa ll xc) (yL w0 z k)/\Bl w w1 by rw[D.o.2.2.1];exact⟨XL.o.below hq,(M6.o.below hq).2.2⟩);go_ret;exact⟨_,J,HF.o⟩
end M3
section
variable{P a b:Ja}{K M l n:Nat}{c:Rat}
theorem iR:∀D:Nat,1<D->∃l,1<l/\l∣D/\∀a:Nat,¬l∣a->Nat.gcd l a=1:=by
 intro D;induction D using Nat.strongRecOn with
 |ind D g=>
  intro hD;by_cases h:∀d,d∣D->d=1\/d=D
  . refine⟨D,hD,Nat.dvd_refl _,λa n=>?_⟩;grind[C7,CN]
  . obtain⟨d,f⟩:=Classical.not_forall.1 h;obtain⟨b,c⟩:=Classical.not_imp.1 f;have j:d≠1/\d≠D:=⟨λe=>c (Am e),λe=>c (Ax e)⟩;have k:d<=D:=Nat.le_of_dvd O b;have m:d≠0:=λe=>by subst e;omega
    obtain⟨l,l1,l2,i⟩:=g d O O;exact⟨l,l1,Nat.dvd_trans l2 b,i⟩
theorem PE{P:Nat->Prop}(h:∃a,P a):∃a,P a/\∀i,i<a->¬P i:=by
 obtain⟨a,b⟩:=h;induction a using Nat.strongRecOn with
 |ind a c=>
  grind
theorem iS{l:Int}{f:Nat->Int}{a:Nat}:∀n,a<n->(∀i,i<n->i≠a->l∣f i)->l∣YM n f->l∣f a:=by
 have c:∀n,(∀i,i<n->l∣f i)->l∣YM n f:=λn=>by
  induction n with
  |zero=>exact λ_=>Int.dvd_zero _
  |succ n b=>exact λh=>by rw[YM];grind[Int.dvd_add]
 intro n;induction n with
 |zero=>intro h;omega
 |succ n b=>
  intro m h hs;rw[YM]at hs;by_cases e:a=n
  . subst e;have g:=c a λi k=>h i O O;have j:=Int.dvd_sub hs g;grind
  . refine b O (λi k=>h i O) ?_;have j:=Int.dvd_sub hs (h n O λd=>e d.symm);grind
theorem iT(hl:∀a:Nat,¬l∣a->Nat.gcd l a=1){r s:Nat->Int}(q:∀i,n<=i->r i=0)(h:∀k,(l:Int)∣YM n λi=>if i<=k then r i*s (k-i)else 0)(e:∃a,¬(l:Int)∣r a)(hs:∃b,¬(l:Int)∣s b):False:=by
 obtain⟨a,f,g⟩:=PE e;obtain⟨b,j,m⟩:=PE hs;have d:a<n:=by
  by_cases c:a<n
  . exact c
  . grind[Int.dvd_zero]
 have c:=iS n d (λi o p=>by
  grind[Int.dvd_trans,Int.dvd_mul_right,Int.dvd_mul_left,Int.dvd_zero]) (h (a+b))
 grind[dvd_one,Aw,Cy]
theorem iU{p:Ja}{L G:Int}(M:∀i,((cf p i).den:Int)∣L)(N:∀u:Int,(∀i,((cf p i).den:Int)∣u)->L∣u)(D:∀i,G∣(cf p i).num)(K:∀v:Int,(∀i,v∣(cf p i).num)->v∣G)(B:G≠0)(S:∀i,∃z:Int,cf p i*c=(z:Rat)):
 ∃t:Int,∀i,∃r:Int,cf p i*((L:Rat)/(G:Rat))=(r:Rat)/\cf p i*c=((r*t:Int):Rat):=by
 have q:(c.den:Int)≠0:=by have:=c.den_nz;omega
 have g:∀i,∃z:Int,cf p i*c=(z:Rat)/\(cf p i).num*c.num=z*((cf p i).den*c.den):=λi=>by
  obtain⟨z,a⟩:=S i;refine⟨z,a,?_⟩;have w:c*(c.den:Rat)=(c.num:Rat):=Hk c;have j:cf p i*((cf p i).den:Rat)=((cf p i).num:Rat):=Hk _;have x:(((cf p i).num*c.num:Int):Rat)=((z*(((cf p i).den:Int)*(c.den:Int)):Int):Rat):=by
   rw[AC,AC,AC,AM,AM,<-w,<-j,<-a];grind
  exact CR.1 x
 have k:L∣c.num:=N _ λi=>by
  obtain⟨z,_,e⟩:=g i;have b:((cf p i).den:Int)∣(cf p i).num*c.num:=⟨z*c.den,DX⟩;rw[Int.mul_comm]at b;refine dvd_one b ?_;rw[Aw,CB];exact(cf p i).reduced
 have l:(c.den:Int)∣G:=K _ λi=>by
  obtain⟨z,_,e⟩:=g i;have b:(c.den:Int)∣(cf p i).num*c.num:=⟨z*(cf p i).den,DX⟩;refine dvd_one b ?_;rw[Aw,CB];exact c.reduced
 obtain⟨u,k⟩:=k;obtain⟨v,l⟩:=l;refine⟨u*v,λi=>?_⟩;obtain⟨e,n⟩:=M i;obtain⟨m,o⟩:=D i;obtain⟨z,y,a⟩:=g i;have P:((cf p i).den:Int)≠0:=by have:=(cf p i).den_nz;omega
 have s:z=m*e*(u*v):=by
  have A:z*(((cf p i).den:Int)*c.den)=m*e*(u*v)*(((cf p i).den:Int)*c.den):=by
   rw[<-a,o,k,l,n];generalize ((cf p i).den:Int)=d;generalize (c.den:Int)=f;grind
  exact Int.eq_of_mul_eq_mul_right (AU P q) A
 refine⟨m*e,?_,by rw[y,s]⟩;have T:(G:Rat)≠0:=by exact_mod_cast B
 have j:cf p i*((cf p i).den:Rat)=((cf p i).num:Rat):=Hk _;rw[o,AC]at j;have U:(L:Rat)=((cf p i).den:Rat)*(e:Rat):=by rw[n,AC,AM]
 grind
theorem Tr{p:Ja}(hp:Jb p=p)(d:p≠[])(j:∀i,∃z:Int,cf p i*c=(z:Rat)):∃t:Int,∀i,∃r:Int,cf (Yf p) i=(r:Rat)/\cf p i*c=((r*t:Int):Rat):=by
 have b:∀i,p.length<=i->cf p i=0:=λi a=>JS a;obtain⟨t,e⟩:=iU (p:=p) (L:=(Xi p p.length:Int)) (G:=(Y4 p p.length:Int)) (λi=>by
  by_cases a:i<p.length
  . grind[Fe,Oy]
  . rw[b i O];exact Int.one_dvd _) (λu f=>Cy.2 (Oz p _ (λi=>Cy.1 (f i)) _)) (λi=>by
  by_cases a:i<p.length
  . exact Cy.2 (O0 p _ i a)
  . rw[b i O];exact Int.dvd_zero _) (λv g=>by
  have:v.natAbs∣Y4 p p.length:=TP p _ (λi=>Fq.2 (g i)) _
  grind[Int.natAbs_dvd,Fe]) (by have:=LJ hp d;omega) j
 refine⟨t,λi=>?_⟩;obtain⟨r,k,l⟩:=e i;grind[Yf,Yo,AM]
theorem Ts{p:Ja}(hp:Jb p=p)(k:p≠[]){r:Nat->Int}(m:∀i,cf (Yf p) i=(r i:Rat))(hl:1<l):∃i,¬(l:Int)∣r i:=by
 by_cases h:∃i,¬(l:Int)∣r i
 . exact h
 . exfalso
   have n:∀i,(l:Int)∣r i:=λi=>Classical.not_not.1 λa=>h ⟨i,a⟩;have g:(l:Rat)≠0:=by exact_mod_cast (show l≠0 by omega)
   obtain⟨c,K,e⟩:=Gl hp;have L:c≠0:=λj=>by grind
   have b:∀i,cf p i*c=(r i:Rat):=λi=>by rw[<-Yo,<-e,m]
   obtain⟨t,y⟩:=Tr hp k (c:=c/(l:Rat)) (λi=>by
    obtain⟨q,hq⟩:=n i;refine⟨q,?_⟩;have a:c/(l:Rat)*(l:Rat)=c:=CJ g;have d:=b i;rw[hq,AC,AM]at d;grind)
   obtain⟨z,a,d⟩:=y (p.length-1);have M:=Jv hp k;have s:z=r (p.length-1):=CR.1 (by rw[<-a,m]);have o:r (p.length-1)≠0:=λj=>by
    have f:=b (p.length-1);rw[j]at f;grind
   have f:=b (p.length-1);have B:c/(l:Rat)*(l:Rat)=c:=CJ g;have u:((r (p.length-1):Int):Rat)=(((r (p.length-1))*(t*(l:Int)):Int):Rat):=by
    rw[<-f,AC,AC,AM];rw[s,AC]at d;grind
   have v:=CR.1 u;have D:t*(l:Int)=1:=by
    have w:r (p.length-1)*1=r (p.length-1)*(t*(l:Int)):=by rw[FH];exact v
    exact(Int.eq_of_mul_eq_mul_left o w).symm
   have x:(l:Int)∣1:=⟨t,DX⟩;have A:=Int.le_of_dvd DN x;omega
theorem PF{p:Ja}(hp:Jb p=p)(b:p≠[]):∀i,∃r:Int,cf (Yf p) i=(r:Rat):=by
 obtain⟨t,k⟩:=Tr hp b (c:=(Xi p p.length:Rat)) (λi=>by
  have f:(cf p i).den∣Xi p p.length:=by
   by_cases j:i<p.length
   . exact Oy p _ i j
   . rw[JS O];exact Nat.one_dvd _
  obtain⟨e,g⟩:=f;refine⟨(cf p i).num*(e:Int),?_⟩;have a:cf p i*((cf p i).den:Rat)=((cf p i).num:Rat):=Hk _;rw[g,AC,<-a,AM,Rat.natCast_mul];grind)
 intro i;obtain⟨r,d,_⟩:=k i;exact⟨r,d⟩
theorem iV{g:Ja}(T:Jb P=P)(m:P≠[])(X:∀i,∃z:Int,cf P i=(z:Rat))(hg:Jb g=g)(h:Dv g P):
 ∃H:Ja,Jb H=H/\P=Jy (Yf g) H/\∀i,∃z:Int,cf H i=(z:Rat):=by
 have p:g≠[]:=λe=>m (by
  obtain⟨c,U⟩:=h;grind[KR,ev])
 obtain⟨K,ad,M⟩:=Gl hg;have w:K≠0:=λL=>by grind
 have V:Dv (Yf g) P:=by rw[M];exact h.of_sc w
 obtain⟨H,d,f⟩:=V.some T;have j:H≠[]:=λe=>m (by rw[f,e];exact Y3 _);refine⟨H,d,f,?_⟩;obtain⟨c,U,o⟩:=Gl d;have B:c≠0:=λL=>by grind
 obtain⟨r,t⟩:=Cw (PF hg p);obtain⟨s,hs⟩:=Cw (PF d j);obtain⟨z,hz⟩:=Cw X;have u:Da c P=Jy (Yf g) (Yf H):=by
  refine XY (JQ _ _) (JW _ _) λx=>?_;have a:ev P x=ev (Yf g) x*ev H x:=by rw[<-Jm,<-f]
  rw[Y8,Jm,o,Y8,a];grind
 have A:∀k,(z k:Rat)*c=((YM (Yf g).length (λi=>if i<=k then r i*s (k-i)else 0):Int):Rat):=λk=>by
  rw[<-hz k,<-Yo,u,Mf _ _ (Aa _)];refine Ow λi _=>?_;split
  . grind
  . rfl
 have D:c*(c.den:Rat)=(c.num:Rat):=Hk c;have ae:(c.den:Int)≠0:=by have:=c.den_nz;omega
 have v:∀k,z k*c.num=(c.den:Int)*YM (Yf g).length (λi=>if i<=k then r i*s (k-i)else 0):=λk=>by
  have a:((z k*c.num:Int):Rat)=(((c.den:Int)*YM (Yf g).length (λi=>if i<=k then r i*s (k-i)else 0):Int):Rat):=by
   rw[AC,AC,<-A k,AM,<-D];grind
  exact CR.1 a
 have y:c.num≠0:=λe=>B (CS.1 e);have ah:c.num.natAbs=1:=by
  by_cases a:c.num.natAbs=1
  . exact a
  . exfalso
    have N:c.num.natAbs≠0:=Int.natAbs_ne_zero.2 y;obtain⟨l,l1,l2,l3⟩:=iR c.num.natAbs O;refine iT l3 (r:=r) (s:=s) (n:=(Yf g).length) (λi W=>?_) (λk=>?_) (Ts hg p t l1) (Ts d j hs l1)
    . have b:=t i;rw[JS W]at b;exact(CR.1 (show((0:Int):Rat)=_ from b)).symm
    . have b:(l:Int)∣(c.den:Int)*YM (Yf g).length (λi=>if i<=k then r i*s (k-i)else 0):=by
       rw[<-v k];exact Int.dvd_trans (Cy.2 l2) (Int.dvd_mul_left _ _)
      rw[Int.mul_comm]at b;refine dvd_one b ?_;rw[Aw,Aw];have q:Nat.gcd l c.den∣Nat.gcd c.num.natAbs c.den:=Nat.dvd_gcd (Nat.dvd_trans (C7 _ _) l2) (CN _ _);have S:Nat.gcd c.num.natAbs c.den=1:=c.reduced;rw[S]at q;exact Nat.dvd_one.1 q
 intro i;refine⟨s i*(c.den:Int)*c.num,?_⟩;have a:cf H i*c=(s i:Rat):=by rw[<-hs,o,Yo]
 have N:(c.num:Rat)*(c.num:Rat)=1:=by
  rw[<-AC];have b:c.num*c.num=1:=by
   grind
  rw[b];rfl
 rw[AC,AC,AM,<-a];grind
def Ds:List Int->Int->Int
 |[],_=>0
 |c::t,x=>c+x*Ds t x
def cz(g:List Int)(i:Nat):Int:=g[i]?.getD 0
theorem iW(i:Nat):cz [] i=0:=rfl
def Mm(c:Int)(t:List Int):cz (c::t) 0=c:=rfl
def LR(c:Int)(t:List Int)(i:Nat):cz (c::t) (i+1)=cz t i:=rfl
theorem PG{g:List Int}{i:Nat}(h:g.length<=i):cz g i=0:=by unfold cz;grind
def YH:List Int->Int->List Int × Int
 |[],_=>([],0)
 |c::t,k=>((YH t k).2::(YH t k).1,c+k*(YH t k).2)
theorem PH(k x:Int):∀g:List Int,Ds g x=(x-k)*Ds (YH g k).1 x+(YH g k).2:=by
 intro g;induction g with
 |nil=>simp[Ds,YH]
 |cons c t a=>rw[Ds,YH,a];simp only[Ds];grind
theorem Tt(k:Int)(g:List Int):(YH g k).2=Ds g k:=by
 grind[PH]
theorem PI(k:Int):∀(g:List Int),cz g 0=(YH g k).2-k*cz (YH g k).1 0/\∀i,cz g (i+1)=cz (YH g k).1 i-k*cz (YH g k).1 (i+1):=by
 intro g;induction g with
 |nil=>grind[iW,YH]
 |cons c t a=>
  rw[YH];refine⟨by rw[Mm,Mm];omega,λi=>?_⟩;cases i with
  |zero=>rw[LR,Mm,LR];exact a.1
  |succ i=>rw[LR,LR,LR];exact a.2 i
theorem Tu(k:Int)(g:List Int){m:Nat}(h:∀i,m+1<=i->cz g i=0):∀i,m<=i->cz (YH g k).1 i=0:=by
 have b:∀d i,m<=i->(YH g k).1.length<=i+d->cz (YH g k).1 i=0:=λd=>by
  induction d with
  |zero=>intro i _ c;exact PG O
  |succ d e=>
   intro i a c;have f:=e (i+1) O O;have j:=(PI k g).2 i;grind
 intro i a;exact b (YH g k).1.length i a O
theorem iX:∀(m:Nat) (g:List Int),(∀i,m<=i->cz g i=0)->(∃i,cz g i≠0)->∀b:List Int,b.Nodup->(∀k∈b,Ds g k=0)->b.length<m:=by
 intro m;induction m with
 |zero=>intro g h ⟨i,q⟩;grind
 |succ m l=>
  intro g h ⟨j,r⟩ b d f;cases b with
  |nil=>simp
  |cons a b=>
   rw[List.nodup_cons]at d;have t:(YH g a).2=0:=by rw[Tt];exact f a DK
   have hq:∃i,cz (YH g a).1 i≠0:=by
    by_cases c:∃i,cz (YH g a).1 i≠0
    . exact c
    . exfalso
      have n:∀i,cz (YH g a).1 i=0:=λi=>Classical.not_not.1 λe=>c ⟨i,e⟩;have o:=PI a g;cases j with
      |zero=>grind
      |succ i=>grind
   have p:=l (YH g a).1 (Tu a g h) hq b d.2 (λk s=>by
    grind[PH,Int.mul_eq_zero])
   grind
theorem iY(B:Nat):∀(m:Nat) (g:List Int) (M:Nat),(∀i,m<=i->cz g i=0)->∀b:List Int,b.Nodup->b.length=m->(∀k∈b,(Ds g k).natAbs<=M/\k.natAbs<=B)->∀i,(cz g i).natAbs<=M*(2*B+3)^m:=by
 intro m;induction m with
 |zero=>intro g M h b _ _ _ i;grind
 |succ m v=>
  intro g M h b f hl o i;cases b with
  |nil=>simp at hl
  |cons a b=>
   rw[List.nodup_cons]at f;obtain⟨p,q⟩:=o a DK;have K:((YH g a).2).natAbs<=M:=by rw[Tt];exact p
   have hq:=v (YH g a).1 (2*M) (Tu a g h) b f.2 (by simpa using hl) (λk u=>by
    obtain⟨n,c⟩:=o k (by simp[u]);refine⟨?_,c⟩;have z:=PH a k g;have r:(k-a)*Ds (YH g a).1 k=Ds g k-(YH g a).2:=O
    have s:(k-a).natAbs*(Ds (YH g a).1 k).natAbs<=2*M:=by
     rw[<-Co,r];omega
    have t:0<(k-a).natAbs:=Int.natAbs_pos.2 λe=>f.1 DX;exact Al (Cg _ t) s)
   obtain⟨X,d⟩:∃X,2*M*(2*B+3)^m=X:=⟨_,J⟩;rw[d]at hq;have A:2*M<=X:=by rw[<-d];exact A6 _ (CL O)
   have D:X+B*X<=M*(2*B+3)^(m+1):=by
    have e:M*(2*B+3)^(m+1)*2=X*(2*B+3):=by rw[<-d,Cc];grind
    have w:X*(2*B+3)=2*(B*X)+3*X:=DX
    omega
   have j:∀y:Int,(a*y).natAbs<=B*y.natAbs:=λy=>by rw[Co];exact Af _ q
   have l:=PI a g;cases i with
   |zero=>
    rw[l.1];have n:=j (cz (YH g a).1 0);have c:B*(cz (YH g a).1 0).natAbs<=B*X:=Ai _ (hq 0);omega
   |succ i=>
    rw[l.2];have n:=j (cz (YH g a).1 (i+1));have c:B*(cz (YH g a).1 (i+1)).natAbs<=B*X:=Ai _ (hq (i+1));have x:=hq i;omega
theorem iZ{B:Nat}:∀(g:List Int) (k:Int),(∀i,(cz g i).natAbs<=M)->k.natAbs<=B->(Ds g k).natAbs<=M*(B+1)^g.length:=by
 intro g;induction g with
 |nil=>intro k _ _;simp[Ds]
 |cons c t l=>
  intro k h e;have b:=l k (λi=>h (i+1)) e;have j:=h 0;rw[Mm]at j;rw[Ds,Ak,Cc];obtain⟨a,d⟩:=ex ((B+1)^t.length);rw[d]at b ⊢;have f:1<=a:=by rw[<-d];exact CL O
  have m:(k*Ds t k).natAbs<=B*(M*a):=by rw[Co];exact A9 e b
  have n:M<=M*a:=A6 _ f;grind[]
def LS(g:List Int):Ja:=g.map (λz:Int=>(z:Rat))
theorem PJ(g:List Int)(i:Nat):cf (LS g) i=(cz g i:Rat):=by
 unfold cf LS cz;rw[Fu];cases g[i]? with
 |none=>rfl
 |some z=>rfl
def PK(k:Int):∀g:List Int,ev (LS g) (k:Rat)=(Ds g k:Rat):=by
 intro g;induction g with
 |nil=>rfl
 |cons c t a=>
  show(c:Rat)+(k:Rat)*ev (LS t) (k:Rat)=_;rw[a,Ds,FG,AC]
def PL{p:Ja}(h:∀i,∃z:Int,cf p i=(z:Rat)):∃g:List Int,p=LS g/\g.length=p.length:=by
 induction p with
 |nil=>exact⟨[],J,J⟩
 |cons c t e=>
  obtain⟨g,b,d⟩:=e (λi=>by have:=h (i+1);rwa[Yp]at this);obtain⟨z,a⟩:=h 0;rw[YC]at a;exact⟨z::g,by rw[a,b];rfl,by simp[d]⟩
theorem nodup_range(n:Nat):((List.range n).map (λi:Nat=>(i:Int))).Nodup:=by
 grind[List.nodup_range]
theorem Tv{g:Ja}(v:Jb P=P)(d:P≠[])(hl:P.length<=n+1)(o:∀i,∃z:Int,z.natAbs<=M/\cf P i=(z:Rat))(hg:Jb g=g)(h:Dv g P):
 ∀i,∃z:Int,z.natAbs<=M*(2*n+1)^(n+1)*(2*(2*n)+3)^(n+1)/\cf (Yf g) i=(z:Rat):=by
 obtain⟨H,T,f,U⟩:=iV v d (λi=>by obtain⟨z,_,c⟩:=o i;exact⟨z,c⟩) hg h;have N:g≠[]:=λe=>d (by rw[f,e];rfl);have q:H≠[]:=λe=>d (by rw[f,e];exact Y3 _);obtain⟨a,u,lp⟩:=PL (p:=P) (λi=>by obtain⟨z,_,c⟩:=o i;exact⟨z,c⟩);obtain⟨m,t,lg⟩:=PL (PF hg N);obtain⟨W,L,lh⟩:=PL U;have ai:(Yf g).length<=n+1:=by
  have b:=JH (Hm g) T (λe=>d (by rw[f,e];rfl)) q;rw[<-f]at b;have c:0<H.length:=Ac.2 q;omega
 have D:∀i,(cz a i).natAbs<=M:=λi=>by
  obtain⟨z,b,c⟩:=o i;grind[PJ,CR]
 have r:∀k:Int,Ds a k=Ds m k*Ds W k:=λk=>by
  have b:ev P (k:Rat)=ev (Yf g) (k:Rat)*ev H (k:Rat):=by rw[<-Jm,<-f]
  rw[u,t,L,PK,PK,PK,<-AC]at b;exact CR.1 b
 obtain⟨R,w⟩:=ex ((List.range (2*n+1)).map (λi:Nat=>(i:Int)));have s:R.Nodup:=by rw[<-w];exact nodup_range _
 have ae:R.length=2*n+1:=by rw[<-w];simp
 have ad:∀k∈R,k.natAbs<=2*n:=λk j=>by
  grind
 have ah:(R.filter λk=>Ds a k==0).length<n+1:=by
  refine iX (n+1) a (λi V=>PG O) ?_ _ (s.filter _) (λk j=>by
   grind)
  refine⟨P.length-1,λe=>Jv v d ?_⟩;have b:=PJ a (P.length-1);rw[<-u,e]at b;exact b
 have aj:(R.filter λk=>Ds a k==0).length+(R.filter λk=>!(Ds a k==0)).length=R.length:=by
  rw[<-List.countP_eq_length_filter,<-List.countP_eq_length_filter];have b:=List.length_eq_countP_add_countP (l:=R) λk=>Ds a k==0;have c:List.countP (λk=>!(Ds a k==0)) R=List.countP (λk=>decide ¬((Ds a k==0)=true)) R:=by congr 1;funext k;grind
  omega
 obtain⟨S,x⟩:=ex ((R.filter λk=>!(Ds a k==0)).take (n+1));have A:S.length=n+1:=by rw[<-x,Ah];omega
 have B:S.Nodup:=by rw[<-x];exact List.Sublist.nodup (List.take_sublist _ _) (s.filter _)
 have K:∀k∈S,Ds a k≠0/\k.natAbs<=2*n:=λk j=>by
  grind
 have y:=iY (2*n) (n+1) m (M*(2*n+1)^(n+1)) (λi V=>PG O) S B A (λk j=>by
  obtain⟨b,c⟩:=K k j;refine⟨?_,c⟩;have X:=iZ a k D c;have h4:M*(2*n+1)^a.length<=M*(2*n+1)^(n+1):=Ai _ (Ag O O);have h5:(Ds m k).natAbs<=(Ds a k).natAbs:=by
   rw[r k,Co];refine A6 _ (Int.natAbs_pos.2 λe=>b ?_);rw[r k,e,Int.mul_zero]
  omega)
 intro i;exact⟨cz m i,y i,by rw[t,PJ]⟩
def jA(e:n<=60):(2*n+1)^(n+1)*(2*(2*n)+3)^(n+1)<=Z^15:=by
 have a:(2*n+1)^(n+1)<=121^(n+1):=Cs O _;have b:(2*(2*n)+3)^(n+1)<=243^(n+1):=Cs O _;have c:121^(n+1)<=121^61:=Ag O O;have d:243^(n+1)<=243^61:=Ag O O;refine Al (A9 (Al a c) (Al b d)) ?_;unfold Z;decide
theorem Dv.ln{K:Nat}{P g:Ja}(a:Jb P=P)(k:P≠[])(hl:P.length<=61)(B:Ln K P)(hg:Jb g=g)(h:Dv g P):Ln (K+15) g:=by
 obtain⟨c,L,e⟩:=Gl a;have o:c≠0:=λp=>by grind
 have x:Yf P≠[]:=by rw[e];exact Ir o a k
 have y:Dv g (Yf P):=by rw[e];exact h.sc c
 have r:=It a B;have m:(Yf P).length<=60+1:=by rw[Y5 a];omega
 have s:=Tv (n:=60) (M:=Z^K-1) (Hm P) x m (λi=>by
  obtain⟨z,f,t⟩:=r i;unfold Sm at f;grind) hg y
 have hp:=jA (n:=60) (Aa _);have u:D7 (K+15) (Yf g):=λi=>by
  obtain⟨z,f,t⟩:=s i;grind[Sm,Z]
 obtain⟨b,N,q⟩:=Gl hg;have l:b≠0:=λp=>by grind
 have j:=u.ln;rw[q]at j;obtain⟨d,A,D⟩:=j;refine⟨b*d,Hi l A,λi=>?_⟩;obtain⟨z,v,w⟩:=D i;exact⟨z,v,by rw[<-w,Yo];grind⟩
theorem Ln.mul{N:Nat}{p q:Ja}(hp:Ln K p)(hq:Ln N q)(hl:p.length<=1000000000):Ln (K+N+1) (Jy p q):=by
 obtain⟨c,j,b⟩:=hp;obtain⟨d,l,a⟩:=hq;obtain⟨z,b⟩:=Cw b;obtain⟨y,a⟩:=Cw a;refine⟨c*d,Hi j l,λk=>⟨YM p.length λi=>if i<=k then z i*y (k-i)else 0,?_,?_⟩⟩
 . have e:(YM p.length λi=>if i<=k then z i*y (k-i)else 0).natAbs<=p.length*(Z^K*Z^N):=Mc λi _=>by
    split
    . rw[Co];have f:=(b i).1;have g:=(a (k-i)).1;unfold Sm at f g;exact A9 O O
    . simp
   grind[Sm,Z,Cq,AB,Nat.mul_lt_mul_left]
 . rw[Mf p q (Aa _)];have e:∀n,sumN n (λi=>if i<=k then cf p i*cf q (k-i)else 0)*(c*d)=((YM n (λi=>if i<=k then z i*y (k-i)else 0):Int):Rat):=λn=>by
    induction n with
    |zero=>simp[sumN,YM,Rat.zero_mul]
    |succ n m=>
     rw[sumN,YM,FG,<-m];split
     . grind
     grind
   exact e _
theorem Ln.slope{p:Ja}(h:Ln K p)(hl:p.length<=1000000000):Ln (K+1) (Jd p):=by
 obtain⟨c,b,d⟩:=h;refine⟨c,b,λi=>?_⟩;obtain⟨z,a,e⟩:=d (i+1);rw[Xe];by_cases f:i+1<p.length
 . refine⟨z*((i+1:Nat):Int),a.mul (by unfold Sm Z;omega),?_⟩;grind
 . exact⟨0,Sm.zero _,by grind[JS]⟩
theorem Dv.lnN{e:Nat}{g:Ja}(b:Jb P=P)(o:P≠[])(hl:P.length<=n+1)(D:(2*n+1)^(n+1)*(2*(2*n)+3)^(n+1)<=Z^e)(L:Ln K P)(hg:Jb g=g)(h:Dv g P):Ln (K+e) g:=by
 obtain⟨c,S,j⟩:=Gl b;have r:c≠0:=λs=>by grind
 have y:Yf P≠[]:=by rw[j];exact Ir r b o
 have A:Dv g (Yf P):=by rw[j];exact h.sc c
 have u:=It b L;have v:=Tv (n:=n) (M:=Z^K-1) (Hm P) y (by rw[Y5 b];omega) (λi=>by
  obtain⟨z,k,l⟩:=u i;unfold Sm at k;grind) hg A
 have w:D7 (K+e) (Yf g):=λi=>by
  obtain⟨z,k,l⟩:=v i;refine⟨z,?_,l⟩;unfold Sm;have U:0<Z^K:=CL Gr;have p:0<Z^e:=CL Gr;have a:(Z^K-1)*((2*n+1)^(n+1)*(2*(2*n)+3)^(n+1))<=(Z^K-1)*Z^e:=Ai _ D;rw[<-Ch]at a;have m:(Z^K-1)*Z^e<Z^K*Z^e:=(Nat.mul_lt_mul_right p).2 O;grind
 obtain⟨f,T,t⟩:=Gl hg;have q:f≠0:=λs=>by grind
 have a:=w.ln;rw[t]at a;obtain⟨d,B,N⟩:=a;refine⟨f*d,Hi q B,λi=>?_⟩;obtain⟨z,m,x⟩:=N i;exact⟨z,m,by rw[<-x,Yo];grind⟩
def Mn:(2*24+1)^(24+1)*(2*(2*24)+3)^(24+1)<=Z^5:=by unfold Z;decide
def jB:(2*47+1)^(47+1)*(2*(2*47)+3)^(47+1)<=Z^11:=by unfold Z;decide
theorem Dv.len(i:Jb a=a)(f:Jb b=b)(b0:b≠[])(h:Dv a b):a.length<=b.length/\a≠[]:=by
 obtain⟨c,j,e⟩:=h.some f;have g:a≠[]:=λd=>b0 (by rw[e,d];rfl);grind[Y3,JH,Ac]
theorem Tw(d:Jb a=a)(e:Jb b=b)(c:a≠[])(b0:b≠[]):cf (Jy a b) ((Jy a b).length-1)=cf a (a.length-1)*cf b (b.length-1):=by
 have l:=JH d e c b0;have p1:0<a.length:=Ac.2 c;have f:0<b.length:=Ac.2 b0;rw[l,show a.length+b.length-1-1=(a.length-1)+(b.length-1)by omega];grind[Jy,JR,Mw]
def jC{R:Ja}(c:Jb R=R)(hl:1<R.length):(Jd R).length=R.length-1/\cf (Jd R) ((Jd R).length-1)=cf R (R.length-1)*(((R.length-1:Nat):Int):Rat):=by
 have R0:R≠[]:=λe=>by rw[e]at hl;simp at hl
 have d:=YG R0;have b:cf (Jd R) (R.length-2)≠0:=by
  rw[Xe,show R.length-2+1=R.length-1 by omega];exact Hi (Jv c R0) (by
   intro e
   have:((R.length-1:Nat):Int)=0:=by exact_mod_cast e
   omega)
 have f:=TJ b;have a:(Jd R).length=R.length-1:=O
 refine⟨a,?_⟩;rw[a,Xe,show R.length-1-1+1=R.length-1 by omega]
def Tx{q:Ja}(tq:Jb q=q)(q0:q≠[])(a:Jt q=q):cf q (q.length-1)=1:=by
 have:=Mg tq q0;rwa[a]at this
theorem Ty{q R w y:Ja}(tq:Jb q=q)(q0:q≠[])(lq:q.length<=25)(k:Ln K q)(tR:Jb R=R)(P:Jt R=R)(tw:Jb w=w)(mw:Jt w=w)(ty:Jb y=y)(g:Dv R q)(j:Dv w q)
(L:∀x,ev y x*ev R x=ev w x*ev (Jd R) x):∃D:Int,D≠0/\Sm (2*K+24) D/\Dp D (2*K+24) y:=by
 by_cases a:y=[]
 . subst a;exact O5 O
 . obtain⟨W,R0⟩:=g.len tR tq q0;obtain⟨lw,w0⟩:=j.len tw tq q0;have c:Jy y R=Jy w (Jd R):=XY (JW _ _) (JW _ _) λx=>by rw[Jm,Jm,L]
   have p0:Jy w (Jd R)≠[]:=by rw[<-c];exact iF ty tR a R0
   have f:Jd R≠[]:=λe=>p0 (by rw[e];exact Y3 _);have A:1<R.length:=by
    have S:0<(Jd R).length:=Ac.2 f;have:=YG R0;omega
   obtain⟨X,N⟩:=jC tR A;have v:Ln (K+5) R:=g.lnN (n:=24) tq q0 O Mn k tR;have t:Ln (K+5) w:=j.lnN (n:=24) tq q0 O Mn k tw;have s:=t.mul (v.slope O) O;have V:=JH tw (JB R) w0 f;have u:Dv y (Jy w (Jd R)):=⟨R,λx=>by rw[<-c,Jm]⟩;have z:=u.lnN (n:=47) (e:=11) (JW _ _) p0 O jB s ty;have b:=Tw ty tR a R0;have r:=Tw tw (JB R) w0 f;rw[c]at b;rw[r,N,Tx tw w0 mw,Tx tR R0 P]at b;have p:cf y (y.length-1)=(((R.length-1:Nat):Int):Rat):=by
    rw[FI,FI,Rat.mul_one]at b;exact b.symm
   obtain⟨E,l,m,o⟩:=O2 ty a z;refine⟨E,l,m.mono O,λi=>?_⟩;have B:cf y i=cf (Jt y) i*(((R.length-1:Nat):Int):Rat):=by
    unfold Jt;rw[Yo,<-p];have T:(1/cf y (y.length-1))*cf y (y.length-1)=1:=CJ (Jv ty a);grind
   rw[B];have U:=(o i).mul (E:=1) (M:=1) (d:=(((R.length-1:Nat):Int):Rat)) ⟨((R.length-1:Nat):Int),by grind[Ck],by unfold Sm Z;omega⟩;grind
def EN(q w y:Ja):Nat->Ja
 |0=>q
 |n+1=>JL (EN q w y n) (DR w y n).1
theorem GY{p q:Ja}(h:q≠[]):Df p q=JL p q:=BH h
section
variable {q w y:Ja}
def Hq(h:Yun q w y)(m:Jt q=q):∀n,Yun (EN q w y n) (DR w y n).1 (DR w y n).2/\Dv (EN q w y n) q/\Jt (EN q w y n)=EN q w y n/\Dv (DR w y n).1 q:=by
 intro n;induction n with
 |zero=>exact⟨h,Dv.refl _,m,h.dv⟩
 |succ n l=>
  obtain⟨a,g,i,j⟩:=l;obtain⟨_,_,o,p,_,s⟩:=a.step;have c:JA (DR w y n).1 (JP (DR w y n).2 (Jd (DR w y n).1))≠[]:=XI a.tw (Yi _ _) (Am a.w0);have e:(DR w y (n+1)).1=JL (DR w y n).1 (JA (DR w y n).1 (JP (DR w y n).2 (Jd (DR w y n).1))):=by rw[DR];unfold KS;exact GY c
  have f:(DR w y (n+1)).2=JL (JP (DR w y n).2 (Jd (DR w y n).1)) (JA (DR w y n).1 (JP (DR w y n).2 (Jd (DR w y n).1))):=by rw[DR];unfold KS;exact GY c
  have k:Dv (JL (EN q w y n) (DR w y n).1) (EN q w y n):=by
   refine⟨(DR w y n).1,λx=>?_⟩;have b:=Bw (λr=>ev r x) p;simp only[Jm]at b;rw[b];exact Rat.mul_comm _ _
  have d:Dv (JL (DR w y n).1 (JA (DR w y n).1 (JP (DR w y n).2 (Jd (DR w y n).1)))) (DR w y n).1:=by
   refine⟨JA (DR w y n).1 (JP (DR w y n).2 (Jd (DR w y n).1)),λx=>?_⟩;have b:=Bw (λr=>ev r x) s;simp only[Jm]at b;exact b.trans (Rat.mul_comm _ _)
  rw[e,f];exact⟨o,k.trans g,(LP a.tR a.R0 i a.tw a.mw a.dv).1,d.trans j⟩
theorem Tz(h:Yun q w y)(b:Jt q=q)(n:Nat)(e:1<(DR w y n).1.length):(EN q w y (n+1)).length<(EN q w y n).length:=by
 obtain⟨a,_,d,_⟩:=Hq h b n;obtain⟨_,_,c,f,_,_⟩:=a.step;have l:=JH a.tw (Yq (EN q w y n) (DR w y n).1) a.w0 c.R0;grind[EN]
theorem jD(h:Yun q w y)(f:Jt q=q):∃N,N<=q.length/\(DR w y N).1.length<=1/\∀n,n<N->1<(DR w y n).1.length:=by
 have d:∃N,(DR w y N).1.length<=1:=by
  by_cases b:∃N,(DR w y N).1.length<=1
  . exact b
  . exfalso
    have c:∀n,1<(DR w y n).1.length:=λn=>by
     grind
    have a:∀n,(EN q w y n).length+n<=q.length:=λn=>by
     induction n with
     |zero=>exact Aa _
     |succ n e=>have:=Tz h f n (c n);omega
    have g:=a (q.length+1);omega
 obtain⟨N,i,j⟩:=PE d;have a:∀n,n<=N->(EN q w y n).length+n<=q.length:=λn=>by
  induction n with
  |zero=>exact λ_=>Aa _
  |succ n e=>
   intro k;grind[Tz]
 grind
end
theorem jE{M K A:Nat}(hM:M<=80000)(hK:K=2*M+24)(hA:A=(K+1)*51+1){p:Ja}(tp:Jb p=p)(hl:1<p.length)(ah:p.length<=25)(cp:Cd M p):∃N,PtOk K A N p/\N<=25:=by
 have p0:p≠[]:=λe=>by rw[e]at hl;simp at hl
 obtain⟨q,hq⟩:=ex (Jt p);have tq:Jb q=q:=by rw[<-hq];exact Yx _
 have k:Jt q=q:=by rw[<-hq];exact Is tp
 have lq:q.length=p.length:=by rw[<-hq];exact Ya tp
 have q0:q≠[]:=λe=>by grind
 have cq:Cd M q:=by rw[<-hq];exact cp.mon tp
 have ai:=YG q0;have cs:Cd (M+1) (Jd q):=by
  obtain⟨D,d1,o,r⟩:=cq;refine⟨D,d1,o.mono O,λi=>?_⟩;rw[Xe];by_cases hi:i+1<q.length
  . have c:=(r (i+1)).mul (E:=1) (M:=1) (d:=(((i+1:Nat):Int):Rat)) ⟨((i+1:Nat):Int),by grind[Ck],by unfold Sm Z;omega⟩;rwa[FH]at c
  . grind[JS,CD.zero]
 have B:∀a b:Ja,Jb a=a->Jb b=b->Cd K a->Cd K b->a.length<=25->b.length<=25->M3.ChOk K a b/\DZ K a b<=A:=λa b ta tb ca cb la lb=>by
  have c:DZ K a b<=(K+1)*(25+25+1):=Ai _ O;have s:(max a.length b.length+2)*(DZ K a b+1)<=(25+2)*((K+1)*(25+25+1)+1):=A9 O O;exact⟨⟨ta,tb,ca,cb,O,O⟩,O⟩
 have v:∀n:Nat,n<=25->2*((n+3)*(A+1))<=1000000000:=λn V=>by
  have:(n+3)*(A+1)<=(25+3)*(A+1):=Af _ O
  omega
 have P:=XI tq (JB q) (Am q0);obtain⟨w,W⟩:=ex (Df q (JA q (Jd q)));obtain⟨y,X⟩:=ex (Df (Jd q) (JA q (Jd q)));have u:Yun q w y:=by
  rw[<-W,<-X,GY P,GY P];exact Yun.start tq q0 k
 obtain⟨N,hN,ae,ad⟩:=jD u k;refine⟨N,?_,O⟩;have c0:=B q (Jd q) tq (JB _) (cq.mono O) (cs.mono O) O O;refine⟨tp,cp.mono O,by rw[hq];exact c0.1,by rw[hq];exact c0.2,v _ O,hl,O,?_,DX⟩;rw[hq,W,X];intro n V;refine⟨ad n V,?_⟩;obtain⟨c,s,T,f⟩:=Hq u k n;obtain⟨s1,s2,g,s4,z,s6⟩:=c.step;obtain⟨k1,k2,k3,k4⟩:=Hq u k (n+1);obtain⟨a,j⟩:=ex ((DR w y n).1);obtain⟨b,U⟩:=ex ((DR w y n).2);obtain⟨R,t⟩:=ex (EN q w y n);have Qf:EN q w y (n+1)=JL R a:=by rw[EN,t,j]
 rw[Qf]at k2 k3;rw[j,U,t]at c g z;rw[t]at s T;rw[j]at f;rw[j,U];have la:=(f.len c.tw tq q0).1;have l:=cq.ln;have m:Cd (M+5) a:=by
  have h5:=f.lnN (n:=24) tq q0 O Mn l c.tw;have:=Iu c.tw (h5.mono (L:=M+5) O) O;rwa[c.mw]at this
 have Qe:=Ty tq q0 O l c.tR T c.tw c.mw c.ty s f c.eq;have cB:Cd K b:=(show Cd (2*M+24) b from Qe).mono O;have Qd:=Ty tq q0 O l g.tR k3 c.tw c.mw (Yi _ _) k2 f z;have S:Cd K (JP b (Jd a)):=(show Cd (2*M+24) (JP b (Jd a))from Qd).mono O;have cS:Cd (M+6) (Jd a):=by
  obtain⟨D,d1,o,r⟩:=m;refine⟨D,d1,o.mono O,λi=>?_⟩;rw[Xe];by_cases hi:i+1<a.length
  . have h6:=(r (i+1)).mul (E:=1) (M:=1) (d:=(((i+1:Nat):Int):Rat)) ⟨((i+1:Nat):Int),by grind[Ck],by unfold Sm Z;omega⟩;rwa[FH]at h6
  . grind[JS,CD.zero]
 have lZ:(JP b (Jd a)).length<=25:=by
  by_cases z0:JP b (Jd a)=[]
  . rw[z0];simp
  . have e1:Jy (JP b (Jd a)) (JL R a)=Jy a (Jd (JL R a)):=XY (JW _ _) (JW _ _) λx=>by rw[Jm,Jm,z]
    have l1:=JH (Yi b (Jd a)) g.tR z0 g.R0;have l2:=TE a (Jd (JL R a));have l3:=YG g.R0;grind
 have c1:=B a (JP b (Jd a)) c.tw (Yi _ _) (m.mono O) S O lZ;exact⟨c1.1,c.ty,m.mono O,cS.mono O,cB.mono O,S.mono O,c1.2,v _ O,v _ lZ⟩
def jF{p:Ja}(tp:Jb p=p)(hl:1<p.length)(a:p.length<=25)(cp:Cd 75 p):∃N,PtOk 174 8926 N p/\N<=25:=jE (M:=75) O J J tp hl a cp
end
section
theorem T0(c:Rat)(p:Ja){q:Ja}(hq:Jb q=q)(q0:q≠[]):JL (Da c p) q=Da c (JL p q):=by
 have h:=(LH (c:=c) (d:=1) DN p q hq q0).1;grind[Hj]
def EL(p w y:Ja):Nat->Ja
 |0=>p
 |n+1=>JL (EL p w y n) (DR w y n).1
section
variable {p q w y:Ja}
variable{c:Rat}
def PM(h:Yun q w y)(d:Jt q=q)(e:p=Da c q):∀n,EL p w y n=Da c (EN q w y n):=by
 intro n;induction n with
 |zero=>exact e
 |succ n b=>
  obtain⟨a,_⟩:=Hq h d n;rw[EL,b,EN,T0 c _ a.tw a.w0]
def UA(h:Yun q w y)(c:Jt q=q)(n:Nat):(DR w y (n+1)).1=JL (DR w y n).1 (yP (DR w y n)):=by
 obtain⟨a,_⟩:=Hq h c n;have b:JA (DR w y n).1 (JP (DR w y n).2 (Jd (DR w y n).1))≠[]:=XI a.tw (Yi _ _) (Am a.w0);rw[DR];unfold KS yP;exact GY b
theorem jG(j:c≠0)(h:Yun q w y)(b:Jt q=q)(e:p=Da c q)(n:Nat):
 JA (DR w y n).1 (EL p w y (n+1))=(DR w y (n+1)).1/\JL (DR w y n).1 (DR w y (n+1)).1=yP (DR w y n)/\Jt (yP (DR w y n))=yP (DR w y n):=by
 obtain⟨a,_⟩:=Hq h b n;obtain⟨k,l,_⟩:=a.step;have g:=UA h b n;have i:JA (DR w y n).1 (EL p w y (n+1))=JA (DR w y n).1 (JL (EN q w y n) (DR w y n).1):=by
  rw[PM h b e (n+1),EN];have f:=KP (c:=1) (d:=c) DN j a.tw (Yq (EN q w y n) (DR w y n).1);rw[Hj a.tw]at f;exact f
 refine⟨by rw[i,g];exact k,?_,?_⟩
 . grind[yP]
 . exact YX a.tw (Yi _ _)
end
variable{N:Nat}
theorem UB{p:Ja}(tp:Jb p=p)(p0:p≠[]):cf p (p.length-1)≠0/\p=Da (cf p (p.length-1)) (Jt p):=by
 have h:=Jv tp p0;refine⟨h,?_⟩;unfold Jt;rw[Ov,show 1/cf p (p.length-1)*cf p (p.length-1)=1 by grind,Hj tp]
theorem jH(k:Rat)(p:Ja):Jd (Da k p)=Da k (Jd p):=by
 grind[JB,JQ,Yy,Xe,Yo]
theorem jI{p:Ja}(tp:Jb p=p)(p0:p≠[]):Em p=Df (Jt p) (JA (Jt p) (Jd (Jt p))):=by
 obtain⟨d,_⟩:=UB tp p0;obtain⟨k,a⟩:∃k,1/cf p (p.length-1)=k:=⟨_,J⟩;have b:k≠0:=by rw[<-a];exact GW d
 have c:Jt p=Da k p:=by unfold Jt;rw[a]
 have tq:Jb (Jt p)=Jt p:=Yx _;have q0:Jt p≠[]:=fY tp p0;have e:JA (Jt p) (Jd (Jt p))=JA p (Jd p):=by
  rw[c,jH];exact KP b b tp (JB _)
 have f:JA p (Jd p)≠[]:=XI tp (JB _) (Am p0);grind[Xx,JB,LP,JZ,YX,GY,Em,T0,LI,Yq]
def jJ{K:Nat}{q g:Ja}(tq:Jb q=q)(q0:q≠[])(lq:q.length<=25)(cq:Cd K q)(b:Jb g=g)(d:Jt g=g)(h:Dv g q):Cd (K+5) g:=by
 have c:=Dv.lnN (n:=24) (e:=5) tq q0 O Mn cq.ln b h;have a:=Iu b c O;rw[d]at a;exact a
def LT{q g:Ja}(tq:Jb q=q)(q0:q≠[])(lq:q.length<=25)(cq:Cd 75 q)(b:Jb g=g)(a:Jt g=g)(h:Dv g q):Cd 80 g:=jJ tq q0 lq cq b a h
def Cd.scale{A B:Nat}{p r:Ja}(hp:Cd A p)(f:Cd B r)(i:Nat):Cd (A+B) (Da (cf r i) p):=by
 obtain⟨D,d1,a,b⟩:=hp;obtain⟨E,c,d,e⟩:=f;exact⟨D*E,AU d1 c,a.mul d,λj=>by rw[Yo];exact(b j).mul (e i)⟩
theorem UC{M:Nat}{p:Ja}(h:Cd M p)(hl:p.length<=25):Cd (M+1) (Jd p):=by
 obtain⟨D,d1,a,b⟩:=h;refine⟨D,d1,a.mono O,λi=>?_⟩;rw[Xe];by_cases e:i+1<p.length
 . have c:=(b (i+1)).mul (E:=1) (M:=1) (d:=(((i+1:Nat):Int):Rat)) ⟨((i+1:Nat):Int),by grind[Ck],by unfold Sm Z;omega⟩;rwa[FH]at c
 grind[JS,CD.zero]
structure StR(K M:Nat)(r f:Ja):Prop where
 tr:Jb r=r
 cr:Cd M r
 tf:Jb f=f
 f0:f≠[]
 mf:Jt f=f
 ca:Cd M f
 lr:(r.length+3)*(M+1)<=1000000000
 lf:(f.length+3)*(M+1)<=1000000000
 r1:r.length<=1000
 f1:f.length<=1000
 ch:M3.ChOk K f (JL r f)
structure ReOk(K M N:Nat)(p w y:Ja):Prop where
 fr:M3.FrOk K p
 w0:Em p=w
 nN:N<=1000000000
 st:∀n,n<N->1<(DR w y n).1.length/\StR K M (EL p w y n) (DR w y n).1/\Cd M (DR w y (n+1)).1/\Jb (DR w y (n+1)).1=(DR w y (n+1)).1/\(DR w y (n+1)).1≠[]/\Jt (DR w y (n+1)).1=(DR w y (n+1)).1/\
  JA (DR w y n).1 (EL p w y (n+1))=(DR w y (n+1)).1/\JL (DR w y n).1 (DR w y (n+1)).1=yP (DR w y n)/\Jt (yP (DR w y n))=yP (DR w y n)/\
  Jb (yP (DR w y n))=yP (DR w y n)/\Cd M (yP (DR w y n))/\(yP (DR w y n)).length<=25
 en:(DR w y N).1.length<=1
theorem jK{p w y:Ja}(tp:Jb p=p)(hl:1<p.length)(M:p.length<=25)(cp:Cd 75 p)(k:Df (Jt p) (JA (Jt p) (Jd (Jt p)))=w)(t:Df (Jd (Jt p)) (JA (Jt p) (Jd (Jt p)))=y)
(r:PtOk 174 8926 N p):ReOk 174 8926 N p w y:=by
 have p0:p≠[]:=λe=>by rw[e]at hl;simp at hl
 obtain⟨s,i⟩:=UB tp p0;obtain⟨q,hq⟩:=ex (Jt p);have tq:Jb q=q:=by rw[<-hq];exact Yx _
 have f:Jt q=q:=by rw[<-hq];exact Is tp
 have lq:q.length=p.length:=by rw[<-hq];exact Ya tp
 have q0:q≠[]:=λe=>by grind
 have cq:Cd 75 q:=by rw[<-hq];exact cp.mon tp
 have v:∀a b:Ja,Jb a=a->Jb b=b->Cd 174 a->Cd 174 b->a.length<=25->b.length<=25->M3.ChOk 174 a b/\DZ 174 a b+1<=8926:=λa b ta tb ca cb la lb=>by
  have c:DZ 174 a b<=(174+1)*(25+25+1):=Ai _ O;have o:(max a.length b.length+2)*(DZ 174 a b+1)<=(25+2)*((174+1)*(25+25+1)+1):=A9 O O;exact⟨⟨ta,tb,ca,cb,O,O⟩,O⟩
 have L:∀n:Nat,n<=25->(n+3)*(8926+1)<=1000000000:=λn P=>by
  omega
 have c0:=v p (Jd p) tp (JB _) (cp.mono O) ((UC cp M).mono O) M (by have:=YG p0;omega);have B:=XI tq (JB q) (Am q0);have Ql:=k;have x:=r.st;have A:=r.en;rw[k,t]at x A;rw[hq]at k t i;have g:Yun q w y:=by
  rw[<-k,<-t,GY B,GY B];exact Yun.start tq q0 f
 refine⟨⟨c0.1,?_⟩,(jI tp p0).trans Ql,r.nN,λn P=>?_,A⟩
 . have:(p.length+3)*(DZ 174 p (Jd p)+1)<=(25+3)*8926:=A9 O c0.2
   omega
 . obtain⟨c,o,h3,j⟩:=Hq g f n;obtain⟨d,S,k3,k4⟩:=Hq g f (n+1);obtain⟨a1,a2,D⟩:=jG s g f i n;have z:=LT tq q0 O cq c.tw c.mw j;have W:=LT tq q0 O cq d.tw d.mw k4;have U:=LT tq q0 O cq c.tR h3 o;have V:=LT tq q0 O cq d.tR k3 S;have l:=PM g f i n;have m:=PM g f i (n+1);have la:=(j.len c.tw tq q0).1;have lr:=(o.len c.tR tq q0).1;have ad:=(S.len d.tR tq q0).1;have cR:Cd 155 (EL p w y n):=by rw[l];exact U.scale cp _
   have Qk:Cd 155 (EL p w y (n+1)):=by rw[m];exact V.scale cp _
   have tR:Jb (EL p w y n)=EL p w y n:=by rw[l];exact JQ _ _
   have X:Jb (EL p w y (n+1))=EL p w y (n+1):=by rw[m];exact JQ _ _
   have lR:(EL p w y n).length<=25:=by rw[l,Yh s c.tR];omega
   have T:(EL p w y (n+1)).length<=25:=by rw[m,Yh s d.tR];omega
   have u:Jb (yP (DR w y n))=yP (DR w y n):=JZ _ _;have K:Dv (yP (DR w y n)) (DR w y n).1:=(Xx c.tw (Yi _ _)).1;have cP:=LT tq q0 O cq u D (K.trans j);have lP:=((K.trans j).len u tq q0).1;refine⟨(x n P).1,⟨tR,cR.mono O,c.tw,c.w0,c.mw,z.mono O,L _ lR,L _ O,O,O,?_⟩,W.mono O,d.tw,d.w0,d.mw,a1,a2,D,u,cP.mono O,O⟩;exact(v _ _ c.tw X (z.mono O) (Qk.mono O) O T).1
def jL{p:Ja}(tp:Jb p=p)(hl:p.length=1)(cp:Cd 75 p):ReOk 174 8926 0 p (Em p) []:=by
 have p0:p≠[]:=λe=>by rw[e]at hl;simp at hl
 have d:=YG p0;have f:DZ 174 p (Jd p)<=(174+1)*(25+25+1):=Ai _ O;have g:(max p.length (Jd p).length+2)*(DZ 174 p (Jd p)+1)<=(25+2)*((174+1)*(25+25+1)+1):=A9 O O;have i:(p.length+3)*(DZ 174 p (Jd p)+1)<=(25+3)*8926:=A9 O O;refine⟨⟨⟨tp,JB _,cp.mono O,(UC cp O).mono O,O,O⟩,O⟩,J,O,λn c=>absurd c O,?_⟩;show(Em p).length<=1;have a:JA p (Jd p)≠[]:=XI tp (JB _) (Am p0);have b:=(Xx tp (JB p)).1;have e:=(YT (JZ _ _) a b).2;have hq:Dv (JL p (JA p (Jd p))) p:=⟨JA p (Jd p),λx=>by rw[e,Rat.mul_comm]⟩;unfold Em;rw[GY a,Ya (Yq _ _)];have:=(hq.len (Yq _ _) tp p0).1;omega
theorem jM{p:Ja}(tp:Jb p=p)(n:PtOk 174 8926 N p):Hp p N≠[]:=by
 have hl:=n.gt;have p0:p≠[]:=λe=>by rw[e]at hl;simp at hl
 have b:=n.st;have a:=n.en;unfold Hp;obtain⟨q,hq⟩:=ex (Jt p);have tq:Jb q=q:=by rw[<-hq];exact Yx _
 have i:Jt q=q:=by rw[<-hq];exact Is tp
 have lq:q.length=p.length:=by rw[<-hq];exact Ya tp
 have q0:q≠[]:=λe=>by grind
 rw[hq]at b a ⊢;have f:=XI tq (JB q) (Am q0);have j:=Xx tq (JB q);have k:=LP tq q0 i (JZ _ _) (YX tq (JB q)) j.1;have d:=Yun.start tq q0 i;rw[GY f,GY f]at b a ⊢;obtain⟨g,hg⟩:=ex (JA q (Jd q));have t:Jb g=g:=by rw[<-hg];exact JZ _ _
 rw[hg]at b a k d j f ⊢;have v:1<(JL q g).length:=by
  have c:=JH t (Yq q g) f k.2.2.1;rw[<-k.2.2.2]at c;have z:Jd q≠[]:=λe=>by have:=Tl tq e;omega
  have D:=(j.2.1.len t (JB q) z).1;have K:=YG q0;omega
 obtain⟨w,s⟩:=ex (JL q g);obtain⟨y,x⟩:=ex (JL (Jd q) g);rw[s,x]at b a d ⊢;rw[s]at v;cases N with
 |zero=>exact absurd (show w.length<=1 from a) O
 |succ m=>
  obtain⟨c,_⟩:=Hq d i m;obtain⟨_,_,A,_,_,B⟩:=c.step;have M:=(b m O).1;have r:=UA d i m;unfold yP at r;rw[r]at a;have o:JA (DR w y m).1 (JP (DR w y m).2 (Jd (DR w y m).1))≠[]:=XI c.tw (Yi _ _) (Am c.w0);have l:=JH (JZ _ _) (Yq (DR w y m).1 _) o A.w0;rw[<-B]at l;have L:0<(JA (DR w y m).1 (JP (DR w y m).2 (Jd (DR w y m).1))).length:=Ac.2 o;have u:1<(yP (DR w y m)).length:=by unfold yP;omega
  rw[yL,BL u];simp
end
namespace M3
def UD(K M N:Nat)(v:H)(p w0 c:Ja)(w:F)(h:RowK false w v p)(p0:p≠[])(ae:ReOk K M N p w0 c)(hM:M<=1000000000):
 R G 19 #[v] w λe b=>∃u,e=.returned u/\XE false w.heap.size b u (yL w0 c N)/\Bl w b:=by
 obtain⟨a,la,ca,rfl⟩:=h.form;have bt:¬(la:Int)=0:=by
  have:=h.formsF.1;have:=Ac.2 p0;omega
 have HH:=Y h;have d:=Y (show R G 17 #[E a la ca] w λe b=>∃u,e=.returned u/\RowK false b u w0/\Bl w b by
  have f:=iL K _ p w h ae.fr;rwa[ae.w0]at f)
 have Qw:=Y ae;have Ui:=Y ae.st;clear h ae p0;go_enter func19,ntmps19
 go_wp2_with(go_at_call 17;refine d.o.mono ?_;clear d;rintro e w1 ⟨u1,rfl,az,ap⟩;obtain⟨fa,z,fc,rfl⟩:=az.form)
 obtain⟨Qy,Ue,Ud⟩:=Dc (HH.o.below ap) az ap;clear az ap HH;go_loopw [3,4,5,6,7,8,9] (λlv rv fv nv _ _ _ wr=>∃(k:Nat) (xa:kR) (xc:Nat) (ra:kR) (rl rc:Nat) (fa:kR) (z fc:Nat),k<=N/\lv=E xa (yL w0 c k).length xc/\rv=E ra rl rc/\fv=E fa z fc/\nv=Q .i64 ((k+1:Nat):Int)/\
  Hid (XE false w.heap.size wr (E xa (yL w0 c k).length xc) (yL w0 c k))/\Hid (RowK false wr (E ra rl rc) (EL p w0 c k))/\Hid (RowK false wr (E fa z fc) (DR w0 c k).1)/\Hid (Bl w wr)) λ_ _ _ nv _ _ _ _=>N+1-(intOf nv).toNat
 case atStart=>exact⟨0,none,0,_,_,_,_,_,_,As _,J,J,J,J,Y (XE.nil _ _ _),Qy,Ue,Ud⟩
 case round=>
  clear Qy Ue Ud;obtain⟨k,xa,xc,ra,rl,rc,fa,z,fc,hk,rfl,rfl,rfl,rfl,r,HR,d,B⟩:=hrel;obtain⟨s,hs⟩:=ex ((DR w0 c k).1);obtain⟨L,hL⟩:=ex (yL w0 c k);have j:=Y (show(DR w0 c k).1=s/\yL w0 c k=L/\L.length<=k from⟨hs,hL,by rw[<-hL];exact PD _ _ _⟩);rw[hs]at d;rw[hL]at r;clear hs hL;rw[j.o.2.1];obtain⟨ll,ay⟩:=ex (L.length:Nat);rw[ay]at r ⊢;have Qm:=Y ay;clear ay;obtain⟨T,hT⟩:=ex (k+1:Nat);rw[hT];have A:=Y hT;clear hT;by_cases bg:k<N
  . obtain⟨g1,g2,g3,g4,g5,g6,g7,g8,g9,ah,ai,am⟩:=Ui.o k bg;obtain⟨P,hP⟩:=ex (yP (DR w0 c k));obtain⟨s',ak⟩:∃x,(DR w0 c (k+1)).1=x:=⟨_,J⟩;have Ub:=Y ak;have Uf:=Y hP;rw[j.o.1,ak]at g7 g8;rw[j.o.1]at g1 g2;rw[ak]at g3 g4 g5 g6;rw[hP]at g8 g9 ah ai am;have Uh:(1:Int)<(z:Int):=by have:=d.o.formsF.1;omega
    have H1:=Y (show R G 41 #[E ra rl rc,E fa z fc] wr λe b=>∃u v,e=.returned (.tuple #[u,v])/\RowK false b u (EL p w0 c (k+1))/\RowK false b v (J0 (EL p w0 c k) s)/\Bl wr b by
     have f:=PC M _ _ _ _ wr HR.o d.o g2.cr g2.ca g2.tr g2.tf g2.f0 g2.mf g2.lr g2.r1;rw[EL,j.o.1];exact f)
    have H2:=Y (λ(V:F) (x y:H) (hx:RowK false V x s) (hy:RowK false V y (EL p w0 c (k+1)))=>show R G 13 #[x,y] V λe b=>∃u,e=.returned u/\RowK false b u s'/\Bl V b by
     have f:=Ti K x y s (EL p w0 c (k+1)) V hx hy (by rw[EL,j.o.1];exact g2.ch);rwa[g7]at f)
    have H3:=Y (λ(V:F) (x y:H) (hx:RowK false V x s) (hy:RowK false V y s')=>show R G 41 #[x,y] V λe b=>∃u v,e=.returned (.tuple #[u,v])/\RowK false b u P/\RowK false b v (J0 s s')/\Bl V b by
     have f:=PC M x y s s' V hx hy g2.ca g3 g2.tf g4 g5 g6 g2.lf g2.f1;rwa[g8]at f)
    have H4:=Y (λ(V:F) (x:H) (hx:RowK false V x P)=>show R G 40 #[x] V λe b=>∃u,e=.returned u/\RowK false b u P/\Bl V b by
     have f:=O8 x P V hx ah (ai.sqs hM) (λh0=>by
      rw[FA,FI];exact Sq.of ((ai.smq _).inv (Jv ah h0)) hM) O
     rwa[g9]at f)
    clear g2 g3 g4 g5 g6 g7 g8 g9 ah ai hP ak;have Qt:=Y (show k+1<=1000000001 by have:=Qw.o.nN;omega);have bn:¬(9223372036854775807:Int)<(T:Int)+1:=by have:=A.o;have:=Qt.o;omega
    by_cases aj:1<P.length
    . have Qk:=Y (show yL w0 c (k+1)=L++[(P,T)]by rw[yL,j.o.2.1,Uf.o,BL aj,A.o]);go_upto_region 12 with(first
       |(go_at_call 41;refine H1.o.mono ?_;clear H1;rintro e w2 ⟨u2,v2,rfl,m,_,l⟩;obtain⟨bj,bm,bk,rfl⟩:=m.form;have q:=d.o.below l;have Qj:=r.o.below l;have D:=Bt B.o l;clear l)
       |(go_at_call 13;refine(H2.o _ _ _ q m).mono ?_;clear H2;rintro e w3 ⟨u3,rfl,n,g⟩;obtain⟨na,nl,nc,rfl⟩:=n.form;have Qo:=m.below g;have Ql:=q.below g;have X:=Qj.below g;have S:=Bt D g;clear g D Qj q m)
       |(go_at_call 41;refine(H3.o _ _ _ Ql n).mono ?_;clear H3;rintro e w4 ⟨u4,v4,rfl,o,_,i⟩;obtain⟨oa,ol,oc,rfl⟩:=o.form;have Qi:=Qo.below i;have W:=n.below i;have Qn:=X.below i;have U:=Bt S i;clear i S X Ql Qo n))
      have Ug:(1:Int)<(ol:Int):=by have:=o.formsF.1;omega
      clear g1 am aj;go_upto_region 14 with(first
       |(go_at_call 40;refine(H4.o _ _ o).mono ?_;clear H4;rintro e w5 ⟨u5,rfl,bc,ad⟩;obtain⟨pa,pl,pc,rfl⟩:=bc.form;have Qu:=Qi.below ad;have Qv:=W.below ad;have Uc:=Qn.below ad;have Qs:=Bt U ad;clear ad U Qn W Qi o;obtain⟨v',b,an,X5,aq,bf,bi⟩:=To false w.heap.size w5 (E xa ll xc) L Uc (t:=T) bc (by have:=j.o.2.2;have:=Qt.o;omega) Qs.size;obtain⟨ya,yc,bh,_,_⟩:=X5.form;rw[At,show([(P,T)]:List (Ja × Nat)).length=1 from J]at bh;subst bh;have Qz:=aq.rowK Qu;have Ua:=aq.rowK Qv;have Qx:=bf _ w (Aa _) Qs;clear aq bf bi Qu Qv Uc bc Qs;rw[show GF false=41 from J,show Dz false=46 from J]at an)
       |(at_builtin;refine Bg _ J _ _ 41 41 J _ _ J J _ _ an ?_;clear an))
      obtain⟨HX,Qp,Qq,Qr⟩:=Do X5 Qz Ua Qx;clear X5 Qz Ua Qx r HR d B;rw[Qm.o]at HX ⊢;go_wp2_with fail
      go_roundw
      case rel=>exact⟨k+1,ya,yc,_,_,_,_,_,_,O,by rw[Qk.o,At,Qm.o];rfl,J,J,by rw[A.o];go_num,by rw[Qk.o,At,Qm.o];exact HX,Qp,by rw[Ub.o];exact Qq,Qr⟩
      case measure=>simp[intOf];have:=A.o;omega
    . have Qk:=Y (show yL w0 c (k+1)=L by rw[yL,j.o.2.1,Uf.o,BH aj,Cj]);go_upto_region 12 with(first
       |(go_at_call 41;refine H1.o.mono ?_;clear H1;rintro e w2 ⟨u2,v2,rfl,m,_,l⟩;obtain⟨bj,bm,bk,rfl⟩:=m.form;have q:=d.o.below l;have Qj:=r.o.below l;have D:=Bt B.o l;clear l)
       |(go_at_call 13;refine(H2.o _ _ _ q m).mono ?_;clear H2;rintro e w3 ⟨u3,rfl,n,g⟩;obtain⟨na,nl,nc,rfl⟩:=n.form;have Qo:=m.below g;have Ql:=q.below g;have X:=Qj.below g;have S:=Bt D g;clear g D Qj q m)
       |(go_at_call 41;refine(H3.o _ _ _ Ql n).mono ?_;clear H3;rintro e w4 ⟨u4,v4,rfl,o,_,i⟩;obtain⟨oa,ol,oc,rfl⟩:=o.form;have Qi:=Qo.below i;have W:=n.below i;have Qn:=X.below i;have U:=Bt S i;clear i S X Ql Qo n))
      have Ug:¬(1:Int)<(ol:Int):=by have:=o.formsF.1;omega
      clear g1 am aj;obtain⟨HX,Qp,Qq,Qr⟩:=Do Qn Qi W U;clear Qn Qi W U o r HR d B H4;go_wp2_with fail
      go_roundw
      case rel=>exact⟨k+1,xa,xc,_,_,_,_,_,_,O,by rw[Qk.o,Qm.o],J,J,by rw[A.o];go_num,by rw[Qk.o,Qm.o];exact HX,Qp,by rw[Ub.o];exact Qq,Qr⟩
      case measure=>simp[intOf];have:=A.o;omega
  . have Uh:¬(1:Int)<(z:Int):=by
     have f:=Qw.o.en;have h2:=d.o.formsF.1;have e:k=N:=O
     rw[<-e,j.o.1]at f;omega
    have HE:=Y (show yL w0 c N=L by rw[show N=k by omega];exact j.o.2.1);clear bg;go_wp2_with fail
    go_ret;exact⟨_,J,by rw[HE.o];exact r.o,B.o⟩
def jN(v:H)(p:Ja)(w:F)(h:Jh w v p)(hl:p.length<=1):
 R G 18 #[v] w λe m=>e=.returned (E none 0 0)/\Bl w m:=by
 have f:(p.length:Int)-1<1:=O
 obtain⟨d0,a⟩:=ex ((p.length:Int)-1:Int);rw[a]at f;have j:=Y a;have g:=Y λ(V:F) (x:H) (r:Ja) (k:Jh V x r)=>YJ x r V k;obtain⟨q,la,s,rfl⟩:=h.form;obtain⟨W0,d,c⟩:=GN 25 (.poly p) h;clear h a hl;go_enter func18,ntmps18
 go_upto_region 1 with fail
 rw[d.o];obtain⟨n,l1,c1,l,r1⟩:=c.o.poly2 (i:=0) J;have o:=l.cell;have b:=Y (g.o W0 _ p r1);rw[j.o]at b;go_wp2_with(go_at_call 20;refine b.o.mono ?_;rintro e t ⟨rfl,hq⟩)
 go_ret;exact⟨J,(c.o.below hq).2.2⟩
def jO(v:H)(w:F)(h:RowK false w v []):
 R G 19 #[v] w λe b=>e=.returned (E none 0 0)/\Bl w b:=by
 obtain⟨a,la,ca,rfl⟩:=h.form;have c:(la:Int)=0:=by
  have:=h.formsF.1;simp at this;omega
 clear h;go_enter func19,ntmps19
 go_wp2_with fail
 go_ret;exact⟨J,BB _ _⟩
def jP{w y:Ja}{Q:Ja->Nat->Prop}:∀ {N:Nat},(∀n,n<N->Q (yP (DR w y n)) (n+1))->∀x∈yL w y N,Q x.1 x.2:=by
 intro N;induction N with
 |zero=>intro _ x a;simp[yL]at a
 |succ N b=>
  intro h x a;rw[yL,CA]at a;rcases a with a|a
  . exact b (λn c=>h n O) x a
  . split at a
    . simp at a;subst a;exact h N O
    . simp at a
theorem jQ{W:Ja}(f:Jb W=W)(l:W.length<=25)(g:Cd 75 W):∃L:List (Ja × Nat),L.length<=25/\(∀x∈L,Sqs x.1/\Jb x.1=x.1/\x.1.length<=25/\x.2<=25)/\
 (∀(V:F) (x:H),Jh V x W->R G 18 #[x] V λe c=>∃u,e=.returned u/\XE true V.heap.size c u L/\(L=[]->u=E none 0 0)/\Bl V c)/\
 (∀(V:F) (x:H),RowK false V x W->R G 19 #[x] V λe c=>∃u,e=.returned u/\XE false V.heap.size c u L/\Bl V c):=by
 by_cases hl:1<W.length
 . have W0:W≠[]:=λe=>by rw[e]at hl;simp at hl
   obtain⟨N,j,r⟩:=jF f hl l g;have k:=jK f hl l g J J j;refine⟨Hp W N,?_,?_,λV x b=>(Tq 174 8926 N x W V b j).mono ?_,λV x b=>?_⟩
   . grind[PD,Hp]
   . refine jP (Q:=λa n=>Sqs a/\Jb a=a/\a.length<=25/\n<=25) λn q=>?_;obtain⟨_,_,_,_,_,_,_,_,_,m,o,p⟩:=k.st n q;exact⟨o.sqs O,m,p,O⟩
   . rintro e c ⟨u,rfl,i,d⟩;exact⟨u,J,i,λe=>absurd e (jM f j),d⟩
   . exact UD 174 8926 N x W _ _ V b W0 k O
 . refine⟨[],DK,DK,λV x b=>(jN x W V b O).mono ?_,λV x b=>?_⟩
   . rintro e c ⟨rfl,d⟩;exact⟨_,J,XE.nil _ _ _,λ_=>rfl,d⟩
   . by_cases W0:W=[]
     . subst W0;refine(jO x V b).mono ?_;rintro e c ⟨rfl,d⟩;exact⟨_,J,XE.nil _ _ _,d⟩
     . have i:W.length=1:=by have:=Ac.2 W0;omega
       exact UD 174 8926 0 x W _ _ V b W0 (jL f i g) O
end M3
def Dt(r:Bool)(base:Nat)(W:F)(g cap:Nat)(f:Nat->Int)(L:List (Ja × Nat)):Prop:=
 base<=g/\(∃cs,W.heap[g]?=some (.cells cs (Dz r) (0,0)))/\L.length<=cap/\cap<=maxLen/\
  ∀j p t,L[j]?=some (p,t)->∃x,W.cell? ⟨g,j*2,none⟩=some x/\W.cell? ⟨g,j*2+1,none⟩=some (.int .i64 (f j))/\RowK r W x p
def IG(L:List (Ja × Nat))(j:Nat):Int:=match L[j]? with|some x=>(x.2:Int)|none=>0
section
variable {r:Bool} {base:Nat} {W W':World} {v:Value} {g cap:Nat} {f:Nat->Int} {L:List (Ja × Nat)}
theorem XE.toT(h:XE r base W v L)(b:L≠[]):∃g cap,v=E (some ⟨g,0,none⟩) L.length cap/\Dt r base W g cap (IG L) L:=by
 rcases h with⟨_,h⟩|⟨g,cap,a,c,d,f,i,k,m,l⟩
 . exact absurd h b
 . refine⟨g,cap,c,d,⟨a,f⟩,i,k,λj p t e=>?_⟩;obtain⟨x,n,o,q⟩:=l.2 j p t e;grind[World.cell?,IG]
def Dt.frozen(h:Dt r base W g cap f L)(o:Nat):W.frozen? ⟨g,o,none⟩=false:=by
 obtain⟨_,⟨cs,a⟩,_⟩:=h;simp[World.frozen?,a]
theorem Dt.lt(h:Dt r base W g cap f L):g<W.heap.size:=by
 obtain⟨_,⟨cs,a⟩,_⟩:=h;grind
theorem Dt.keep(h:Dt r base W g cap f L)(i:W'.heap[g]?=W.heap[g]?)(l:∀v qs,RowK r W v qs->RowK r W' v qs):Dt r base W' g cap f L:=by
 obtain⟨a,⟨cs,b⟩,c,d,k⟩:=h;refine⟨a,⟨cs,i.trans b⟩,c,d,λj p t e=>?_⟩;grind[World.cell?]
def Dt.below(h:Dt r base W g cap f L)(a:Bl W W'):Dt r base W' g cap f L:=
 h.keep (a.block g h.lt) λ_ _ q=>q.below a
theorem Dt.far(h:Dt r base W g cap f L)(o:Nat)(u:H):GX r W (W.setCell ⟨g,o,none⟩ u):=λB _ b=>by
 obtain⟨_,⟨cs,a⟩,_⟩:=h;grind[BD]
theorem Dt.put(h:Dt r base W g cap f L){i:Nat}(o:i<L.length)(z:Int):Dt r base (W.setCell ⟨g,i*2+1,none⟩ (Q .i64 z)) g cap (λj=>if j=i then z else f j) L:=by
 have l:=h.far (i*2+1) (Q .i64 z);obtain⟨a,⟨cs,b⟩,c,d,k⟩:=h;refine⟨a,⟨cs.setIfInBounds (i*2+1) (Q .i64 z),?_⟩,c,d,λj p t e=>?_⟩
 . obtain⟨s,q⟩:=Ab.1 b;show(W.heap.modify g _)[g]?=_;grind
 . obtain⟨x,m,u,n⟩:=k j p t e;refine⟨x,(World.cell?_setCell_other _ _ _ _ (by intro e;injection e;omega)).trans m,?_,l.rowK n⟩;grind[World.cell?_setCell_same,World.cell?_setCell_other]
end
def _root_.Go.Boxed.bel{W W':F}{B:Nat}{t:TypeId}{v:H}(h:Boxed W B t v)(a:Bl W W'):Boxed W' B t v:=(a.block B h.lt).trans h
theorem GZ(p:Ja)(a:List Int)(e:p=a.map (λz:Int=>(z:Rat)))(h:a.all (λz=>decide (z.natAbs<100))=true):Cd 1 p:=by
 refine⟨1,DN,Sm.one 1 O,D7.cdl λi=>?_⟩;rw[e];by_cases c:i<a.length
 . refine⟨a[i],?_,?_⟩
   . have b:=AG.1 h a[i] (List.getElem_mem c);have d:=Bf b;unfold Sm Z;omega
   grind[cf]
 . exact⟨0,Sm.zero 1,by rw[JS si];rfl⟩
def aP:Ja:=[1,-1,-1,1]
def jR:J3 [120,94,51,45,120,94,50,45,120,43,49]=(aP,0,0):=Dm
def UE:Jb aP=aP:=Dm
theorem LU:Jt aP=aP:=Dm
theorem Iw:Jd aP=[-1,-2,3]:=Dm
theorem PN:JA aP [-1,-2,3]=[-1,1]:=Dm
theorem PO:Df aP [-1,1]=[-1,0,1]:=Dm
theorem PP:Df [-1,-2,3] [-1,1]=[1,3]:=Dm
theorem jS:DR [-1,0,1] [1,3] 1=([-1,1],[1]):=Dm
theorem jT:DR [-1,0,1] [1,3] 2=([1],[]):=Dm
def jU:yL [-1,0,1] [1,3] 2=[([1,1],1),([-1,1],2)]:=Dm
def UF:Cd 1 aP:=GZ aP [1,-1,-1,1] Dm DN
def jV:Cd 1 [-1,-2,3]:=GZ _ [-1,-2,3] Dm DN
def UG:M3.ChOk 1 aP [-1,-2,3]:=⟨UE,Dm,UF,jV,DN,DN⟩
def jW:StOk 1 20 [-1,0,1] [1,3]:=by
 have a:Jd [-1,0,1]=[0,2]:=Dm
 have b:JP [1,3] [0,2]=[1,1]:=Dm
 have c1:Cd 1 [-1,0,1]:=GZ _ [-1,0,1] Dm DN;have c2:Cd 1 [1,1]:=GZ _ [1,1] Dm DN;have c3:Cd 1 [0,2]:=GZ _ [0,2] Dm DN;have c4:Cd 1 [1,3]:=GZ _ [1,3] Dm DN;refine⟨?_,Dm,c1.mono O,?_,c4.mono O,?_,?_,DN,?_⟩
 . rw[a,b];exact⟨Dm,Dm,c1,c2,DN,DN⟩
 . rw[a];exact c3.mono O
 . rw[a,b];exact c2.mono O
 . rw[a,b];decide
 . rw[a,b];decide
theorem jX:StOk 1 20 [-1,1] [1]:=by
 have a:Jd [-1,1]=[1]:=Dm
 have b:JP [1] [1]=[]:=Dm
 have c1:Cd 1 [-1,1]:=GZ _ [-1,1] Dm DN;have c2:Cd 1 []:=GZ _ [] Dm DN;have c3:Cd 1 [1]:=GZ _ [1] Dm DN;refine⟨?_,Dm,c1.mono O,?_,c3.mono O,?_,?_,DN,?_⟩
 . rw[a,b];exact⟨Dm,Dm,c1,c2,DN,DN⟩
 . rw[a];exact c3.mono O
 . rw[a,b];exact c2.mono O
 . rw[a,b];decide
 . rw[a,b];decide
theorem jY:PtOk 1 20 2 aP:=by
 refine⟨UE,UF.mono O,?_,?_,DN,DN,O,?_,?_⟩
 . rw[LU,Iw];exact UG
 . rw[LU,Iw];decide
 . rw[LU,Iw,PN,PO,PP];intro n a;rcases n with _|_|n
   . exact⟨DN,jW⟩
   . grind[jS,jX]
   . omega
 grind[LU,Iw,PN,PO,PP,jT]
def jZ:Hp aP 2=[([1,1],1),([-1,1],2)]:=by
 unfold Hp;rw[LU,Iw,PN,PO,PP,jU]
def jq:M3.FrOk 1 aP:=by
 refine⟨?_,?_⟩
 . rw[Iw];exact UG
 . rw[Iw];decide
def j0:Em aP=[-1,0,1]:=Dm
def kA:FZ [-1,1]=[120,45,49]:=Dm
def kB:FZ [-1,0,1]=[120,94,50,45,49]:=Dm
def UH:Sqs [-1,1]:=(GZ [-1,1] [-1,1] Dm DN).sqs O
def UI:Sqs [-1,0,1]:=(GZ [-1,0,1] [-1,0,1] Dm DN).sqs O
def XE.two{r:Bool}{base:Nat}{W:F}{v:H}{p q:Ja}{s t:Nat}(h:XE r base W v [(p,s),(q,t)]):∃g cap a l c a' l' c',v=E (some ⟨g,0,none⟩) 2 cap/\g<W.heap.size/\W.cell? ⟨g,0,none⟩=some (E a l c)/\W.cell? ⟨g,1,none⟩=some (Q .i64 (s:Int))/\W.cell? ⟨g,2,none⟩=some (E a' l' c')/\W.cell? ⟨g,3,none⟩=some (Q .i64 (t:Int))/\RowK r W (E a l c) p/\RowK r W (E a' l' c') q:=by
 rcases h with⟨_,h⟩|⟨g,cap,n,rfl,o,b,u,w,z,j⟩
 . simp at h
 . obtain⟨x,d,e,k⟩:=j.2 0 p s J;obtain⟨y,f,i,m⟩:=j.2 1 q t J;obtain⟨a,l,c,rfl⟩:=k.form;obtain⟨a',l',c',rfl⟩:=m.form;rw[Cp DK,Fp]at d e f i;exact⟨g,cap,a,l,c,a',l',c',J,(Ab.1 b).1,cell_of b d,cell_of b e,cell_of b f,cell_of b i,k,m⟩
def kC(w:F)(ah:Gh w):R G 15 #[] w λr o=>r=.returned (.bool true)/\Bl w o:=by
 have S:=Y ah;have P:=Y (λ(V:F)=>show R G 23 #[I ⟨#[120,94,51,45,120,94,50,45,120,43,49]⟩] V λr o=>∃u,r=.returned (.tuple #[u,Q .i64 0,Q .i64 0])/\Jh o u aP/\Bl V o from
  (TA ⟨#[120,94,51,45,120,94,50,45,120,43,49]⟩ V).mono (λr o h=>by
   obtain⟨u,e,p,h1,X,h3⟩:=h;rw[KN,show Jf ⟨#[120,94,51,45,120,94,50,45,120,43,49]⟩=[120,94,51,45,120,94,50,45,120,43,49]from J,jR]at X;obtain⟨rfl,rfl,h4⟩:=X;exact⟨u,h1,h4,h3⟩))
 have M:=Y (BB w.heap.size w);clear ah;go_enter func15,ntmps15
 go_upto_region 2 with(go_at_call 23;refine(P.o _).mono ?_;clear P;rintro e l ⟨u,rfl,B,d⟩;obtain⟨y,l1,c1,rfl⟩:=B.form)
 replace M:=Y (Bt M.o d);have f:Bl l (l.alloc (.cells #[E y l1 c1] 25)):=Ba l _;have j:=BK l 25 (E y l1 c1);have k:=B.below f;replace M:=Y (Bt M.o f);clear f;obtain⟨VP,c⟩:=ex (l.alloc (.cells #[E y l1 c1] 25));obtain⟨BP,b⟩:=ex (l.heap.size);rw[c]at k M;rw[c,b]at j;rw[c];rw[b];clear c b;clear B d;have a:=Y (M3.Tq 1 20 2 _ aP VP k jY);rw[jZ]at a;have A:=j.cell;go_upto_region 3 with(go_at_call 18;refine a.o.mono ?_;clear a;rintro e w2 ⟨u2,rfl,ai,s⟩;obtain⟨g,cap,b1,m1,d1,T,m2,U,rfl,hg,x0,x1,N,x3,aj,ae⟩:=ai.two)
 replace j:=j.bel s;replace k:=k.below s;replace M:=Y (Bt M.o s);have x:=Y (show ∀V,Bl w2 V->V.cell? ⟨g,1,none⟩=some (Q .i64 ((1:Nat):Int))/\V.cell? ⟨g,2,none⟩=some (E T m2 U)/\Jh V (.agg #[E T m2 U]) [-1,1]from λV b=>⟨(b.cell (p:=⟨g,1,none⟩) hg).trans x1,(b.cell (p:=⟨g,2,none⟩) hg).trans N,_,J,ae.below b⟩);clear A x0 x1 N x3 aj ae ai s hg;have a:=Y (M3.iK 1 _ aP w2 k jq);rw[j0]at a;have A:=j.cell;go_upto_region 4 with(go_at_call 16;refine a.o.mono ?_;clear a;rintro e n ⟨u3,rfl,D,ad⟩;obtain⟨z,K,c3,rfl⟩:=D.form)
 have f:Bl n (n.alloc (.cells #[E z K c3] 25)):=Ba n _;have L:=BK n 25 (E z K c3);have rF:=D.below f;have q:=Bt ad f
 replace M:=Y (Bt M.o q);obtain⟨i,c⟩:=ex (n.alloc (.cells #[E z K c3] 25));obtain⟨BF,b⟩:=ex (n.heap.size);rw[c]at rF M q;rw[c,b]at L;rw[c];rw[b];have v:=Y q;clear c b f ad D A j k q;have a:=Y λ(V:F) (h:Bl i V)=>OY _ [-1,1] V (x.o V (Bt v.o h)).2.2 UH (λm=>Ma UH DK m) (Yb S.o (Bt M.o h));rw[kA]at a;have t:=Y λ(V:F) (h:Bl i V)=>OY _ [-1,0,1] V (rF.below h) UI (λm=>Ma UI DK m) (Yb S.o (Bt M.o h));rw[kB]at t;have hq:Bl i i:=BB _ _;have W:=(L.bel hq).cell;have e1:=(x.o i v.o).1;have e2:=(x.o i v.o).2.1;go_wp2_with(first
  |(go_at_call 11;refine(a.o _ hq).mono ?_;clear a;rintro e x1 ⟨rfl,d⟩;replace hq:=Bt hq d;clear d W;have W:=(L.bel hq).cell)
  |(go_at_call 11;refine(t.o _ hq).mono ?_;clear t;rintro e N ⟨rfl,d⟩;replace hq:=Bt hq d;clear d))
 go_ret;exact⟨J,Bt M.o hq⟩
section
variable{S:Ja}{l:List UInt8}{i n x:Nat}{c:Rat}
def UJ(h:l.all DW=true):num l<10^l.length:=by
 have:=Yl (KY h);rwa[I0]at this
def Fr(x:Nat)(c:Rat):Prop:=∃(a b:Nat) (y z:Nat),c=Rat.divInt a b/\a<=10^y/\b<=10^z/\b≠0/\y+z<=x
def Fr.mono{y:Nat}(h:Fr x c)(j:x<=y):Fr y c:=by
 obtain⟨a,b,u,v,d,e,f,g,i⟩:=h;exact⟨a,b,u,v,d,e,f,g,O⟩
theorem Fr.one:Fr 0 1:=⟨1,1,0,0,DN,DN,DN,DN,DN⟩
def kD{k:Nat}(r:i<=l.length)(h:Yv l i=.ok c k):Fr (k-i) c:=by
 unfold Yv at h;split at h
 . cases h
 . rename_i ds p a g;have b:=Gn r g;have t:=GH l a;have u:=Ys (l:=l) (i:=a) O;have q:=UJ b.2.2.2.2.2.2.2.2;rw[b.2.2.2.2.2.2.2.1]at q;split at h
   . rename_i d;have d:=Ye d;split at h
     . cases h
     . rename_i f s m n;have e:=Gn O n;have o:=UJ e.2.2.2.2.2.2.2.2;rw[e.2.2.2.2.2.2.2.1]at o;split at h
       . cases h
       . rename_i j;cases h;exact⟨num ds,num f,a-p,k-s,J,O,O,j,O⟩
   . cases h;exact⟨num ds,1,a-p,0,(Oe _).symm,O,DN,DN,O⟩
def kE{k:Nat}(j:i<=l.length)(h:Yg l i=.ok (c,n) k):Fr (k-i) c:=by
 unfold Yg at h;have p:=GH l i;have d:=Ys j;split at h
 . split at h
   . cases h
   . rename_i c' o b;have f:=NP d b;have a:=kD d b;have q:=GH l o;have r:=Ys f.2;split at h
     . rename_i e;have e:=Ye e;split at h
       . cases h
       . rename_i t m g;have s:=NQ O g;cases h;exact a.mono O
     . cases h;exact a.mono O
 . split at h
   . split at h
     . cases h
     . cases h;exact Fr.one.mono O
   . cases h
def F3(i:Nat)(S:Ja):Prop:=S.length=9/\∃D:Int,D≠0/\D.natAbs<=10^i/\∀j,∃z:Int,z.natAbs<=10^i/\cf S j=Rat.divInt z D
theorem F3.mono{k:Nat}(h:F3 i S)(d:i<=k):F3 k S:=by
 obtain⟨a,D,b,e,c⟩:=h;have hp:(10:Nat)^i<=10^k:=Ag O d;exact⟨a,D,b,O,λj=>by obtain⟨z,f,g⟩:=c j;grind⟩
def F3.start(i:Nat):F3 i (List.replicate 9 0):=⟨J,1,DN,DX,λj=>⟨0,DK,by rw[JT,Rat.zero_divInt]⟩⟩
theorem F3.next(h:F3 i S)(s:Fr x c)(K:n<=8)(b:Bool):F3 (i+x+1) (S.set n (if b then cf S n-c else cf S n+c)):=by
 obtain⟨p,D,q,f,g⟩:=h;obtain⟨a,d,y,z,rfl,r,t,B,L⟩:=s;have o:(d:Int)≠0:=O
 have p1:(10:Nat)^i*10^z<=10^(i+x):=by rw[<-CK];exact Ag O O
 have u:(10:Nat)^y*10^i<=10^(i+x):=by rw[<-CK];exact Ag O O
 have M:(10:Nat)^(i+x+1)=10*10^(i+x):=by rw[Cc,AB]
 have e:∀w:Int,w.natAbs<=10^i->(w*(d:Int)).natAbs<=10^(i+x):=λw e=>by
  rw[Co,Aw];exact Al (A9 e t) p1
 have A:((a:Int)*D).natAbs<=10^(i+x):=by
  rw[Co,Aw];exact Al (A9 r f) u
 refine⟨DX,D*d,AU q o,by have:=e D f;omega,λj=>?_⟩;rw[XJ _ _ _ _ (by rw[p];omega)];by_cases m:j=n
 . rw[BL m];obtain⟨w,k,l⟩:=g n;have v:=e w k;rw[l];cases b with
   |true=>
    refine⟨w*d-a*D,O,?_⟩;grind[Rat.neg_divInt,Fs]
   |false=>
    refine⟨w*d+a*D,O,?_⟩;grind[Fs]
 . rw[BH m];obtain⟨w,k,l⟩:=g j;grind[CM]
def UK:∀(f:Nat) (b:Bool) (I:Nat) (S d:Ja) (k:Nat),I<=l.length->F3 I S->EP l f b I S=.ok d k->F3 (l.length+1) d:=by
 intro f;induction f with
 |zero=>intro b I S d k _ _ h;cases h
 |succ f q=>
  intro b I S d k o r h;cases g:Yg l I with
  |error e p=>rw[MY g]at h;cases h
  |ok a s=>
   obtain⟨c,n⟩:=a;have m:=Lh o g;have i:=r.next (kE o g) m.2.2 b;have t:=GH l s;have u:=Ys m.2.1;rw[MZ g]at h;split at h
   . rename_i j;have:=Ye j;exact q _ _ _ _ _ O (i.mono O) h
   . split at h
     . rename_i j;have:=Ye j;exact q _ _ _ _ _ O (i.mono O) h
     . split at h
       . cases h;exact i.mono O
       . cases h
def kF{k:Nat}(h:EF l=.ok S k):F3 (l.length+1) S:=by
 unfold EF at h;have a:=Ys (l:=l) (i:=0) O;split at h
 . rename_i b;have:=Ye b;exact UK _ _ _ _ _ _ O (F3.start _) h
 . exact UK _ _ _ _ _ _ a (F3.start _) h
def kG(a b c:Nat)(h:a*b<64*c):((2:Nat)^a)^b<Z^c:=by
 rw[show Z=2^64 from by decide,<-Fz,<-Fz];exact Nat.pow_lt_pow_right O h
def kH{k:Nat}(h:n<=43*k)(c:k<=7):(10:Nat)^n<Z^16:=by
 have b:((10:Nat)^43)^k<=(2^143)^k:=Cs DN k;have a:(10:Nat)^n<=10^(43*k):=Ag O h;rw[Fz]at a;exact Cq (Al a b) (kG 143 k 16 O)
theorem kI(l:List UInt8):∃D:Int,D≠0/\Sm 16 D/\Dp D 16 (J3 l).1:=by
 have b:∃D:Int,D≠0/\Sm 16 D/\Dp D 16 []:=⟨1,DN,Sm.one _ O,λi=>by rw[Yt];exact CD.zero _ _⟩;by_cases h:300<l.length
 . grind[J3]
 . rw[LA h];cases a:EF l with
   |error e p=>exact b
   |ok S k=>
    rw[show(K9 (EStateM.Result.ok S k)).1=Jb S from J];obtain⟨_,D,c,g,d⟩:=kF a;have a:=kH (n:=l.length+1) (k:=7) O O;exact⟨D,c,by unfold Sm;omega,λi=>by
     obtain⟨z,j,f⟩:=d i;exact⟨z,by rw[JR];exact f,by unfold Sm;omega⟩⟩
def PQ(l:List UInt8):Jb (J3 l).1=(J3 l).1:=by
 by_cases h:300<l.length
 . rw[show J3 l=([],1,0)by unfold J3;rw[BL h]];rfl
 . rw[LA h];cases EF l with
   |error e p=>rfl
   |ok S k=>exact Ym _
def PR(s:ByteArray)(hs:s.size<=140737488351232)(w:F):
 R G 10 #[I s] w λe c=>∃u,e=.returned u/\RowK false c u (J3 (Jf s)).1/\Bl w c:=by
 have a:=Y λ(V:F)=>dN s hs V;clear hs;go_enter func10,ntmps10
 go_wp2_with(go_at_call 29;refine(a.o _).mono ?_;clear a;rintro e j ⟨u,g,i,rfl,⟨rfl,rfl,b,_,_⟩,d⟩;obtain⟨f,l2,c2,rfl⟩:=b.form)
 go_ret;exact⟨_,J,b,d⟩
def PS(s:ByteArray)(w:F):
 R G 7 #[I s] w λe x=>∃u,e=.returned u/\Jh x u (J3 (Jf s)).1/\Bl w x:=by
 have q:=Y λ(V:F)=>TA s V;have b0:=BK w 25 (E none 0 0);have i:Bl w (w.alloc (.cells #[E none 0 0] 25)):=Ba w _;obtain⟨L,m⟩:=ex (w.alloc (.cells #[E none 0 0] 25));obtain⟨y,k⟩:=ex (w.heap.size);rw[m]at b0 i;rw[k]at b0;obtain⟨z,r,D,t⟩:=Do b0 i m k;clear b0 i m k;go_enter func7,ntmps7
 go_upto_region 1 with fail
 rw[D.o,t.o];go_upto_region 2 with(go_at_call 23;refine(q.o _).mono ?_;clear q;rintro e b ⟨u,N,p1,rfl,⟨rfl,rfl,n⟩,g⟩;obtain⟨a,l1,c1,rfl⟩:=n.form)
 have d:Bl b (b.alloc (.cells #[E a l1 c1] 25)):=Ba b _;have o:=BK b 25 (E a l1 c1);have c:=(z.o.bel g).bel d;have r1:=n.row.below d;have j:=(Bt r.o g).trans (d.mono (Bt r.o g).size);obtain⟨M,f⟩:=ex (b.alloc (.cells #[E a l1 c1] 25));obtain⟨K,l⟩:=ex (b.heap.size);rw[f,l]at o;rw[f]at c r1 j;rw[f,l];have x1:=o.cell;have x0:=c.cell;have f0:=c.frozen;have A:=Y (Ej c (E a l1 c1) r1);have B:=Y (j.setCell (p:=⟨y,0,none⟩) (by rw[t.o];exact Aa _) (E a l1 c1));clear d o c r1 j f l n g;go_wp2_with fail
 exact BA (v:=.agg #[E a l1 c1]) (by simp[results,results7,go_sem,x0]) J ⟨_,J,⟨_,J,A.o⟩,B.o⟩
end
section
variable{M:Nat}
def PT(l:List UInt8):Cd 16 (J3 l).1:=kI l
def Cd.mul{M N:Nat}{p q:Ja}(h:Cd M p)(g:Cd N q):Cd (M+N+p.length) (Jy p q):=by
 obtain⟨D,d1,b,c⟩:=h;obtain⟨E,d,e,f⟩:=g;have a:D*E≠0:=AU d1 d;exact⟨D*E,a,(b.mul e).mono O,λi=>fK a (λi j=>(c i).mul (f j)) i⟩
def Cd.times{N:Nat}{p q:Ja}(h:Cd M p)(f:Cd N q)(hl:M+N+p.length+1<=1000000000):M3.GS p q:=by
 obtain⟨D,d1,a,b⟩:=h;obtain⟨E,c,d,e⟩:=f;exact fJ (AU d1 c) ((a.mul d).mono O) (λi j=>(b i).mul (e j)) hl
theorem Cd.slope{p:Ja}(h:Cd M p)(hl:p.length<=1000000000):Cd (M+1) (Jd p):=by
 obtain⟨D,d1,a,b⟩:=h;refine⟨D,d1,a.mono O,λi=>?_⟩;rw[Xe];by_cases e:i+1<p.length
 . have c:=(b (i+1)).mul (E:=1) (M:=1) (d:=(((i+1:Nat):Int):Rat)) ⟨((i+1:Nat):Int),by rw[Ck,show((1:Int):Rat)=1 from J];grind,by unfold Sm Z;rw[Aw];omega⟩;rwa[FH]at c
 . rw[JS O,CX];exact CD.zero _ _
namespace M3
def UL(a b:H)(ps qs:Ja)(w:F)(i:Jh w a ps)(j:Jh w b qs)(m:Sqs ps)(n:Sqs qs)(l:GS ps qs)(k:ps.length+qs.length<=1099511627776):
 R G 9 #[a,b] w λe c=>∃u,e=.returned u/\Jh c u (Jy ps qs)/\Bl w c:=by
 refine(cD a b ps qs w i j m n l k).mono ?_;rintro e c ⟨u,d,f,_,g⟩;exact⟨u,d,f,g⟩
theorem ChOk.of{K:Nat}{p q:Ja}(tp:Jb p=p)(tq:Jb q=q)(cp:Cd K p)(cq:Cd K q){n:Nat}(lp:p.length<=n)(lq:q.length<=n)(hle:4*((n+2)*((K+1)*(n+n+1)+1))<=1000000000)(c:n<=1000):ChOk K p q:=by
 refine⟨tp,tq,cp,cq,?_,O⟩;have a:DZ K p q<=(K+1)*(n+n+1):=Ai _ O;have b:(max p.length q.length+2)*(DZ K p q+1)<=(n+2)*((K+1)*(n+n+1)+1):=A9 O O;omega
end M3
end
def UM{a b:Ja}(ta:Jb a=a)(tb:Jb b=b){n:Nat}(h:a.length+b.length<=n+1):(Jy a b).length<=n:=by
 by_cases c:a=[]
 . rw[c];exact As _
 . by_cases b0:b=[]
   . rw[b0,Y3];exact As _
   . have:=JH ta tb c b0;omega
def IH(w:F)(g1 c1 g2 c2 B:Nat)(v:H)(L:List (Ja × Nat))(W:Ja)(k:Nat)(V:F):Prop:=
 Dt true 0 V g1 c1 (λj=>if j<k then -9 else IG L j) L/\Dt false 0 V g2 c2 (IG L) L/\Boxed V B 25 v/\Jh V (.agg #[v]) W/\Bl w V
section
variable {r:Bool} {base base':Nat} {V V' w:World} {v:Value} {g cap g' cap' g1 c1 g2 c2 B k:Nat} {f f':Nat->Int} {L:List (Ja × Nat)} {W:Ja}
theorem Dt.zero(h:Dt r base V g cap f L):Dt r 0 V g cap f L:=⟨As _,h.2⟩
def Dt.congr(h:Dt r base V g cap f L)(e:∀j,f j=f' j):Dt r base V g cap f' L:=by
 rw[show f'=f from(funext e).symm];exact h
def Dt.ne(b:Dt true base V g cap f L)(c:Dt false base' V g' cap' f' L):g'≠g:=λe=>by
 obtain⟨_,⟨cs,d⟩,_⟩:=b;obtain⟨_,⟨i,a⟩,_⟩:=c;rw[e,d]at a;simp only[AO,Obj.cells.injEq]at a;exact absurd a.2.1 DN
def Dt.box(a:Dt true base V g cap f L)(b:Boxed V B 25 v)(o:Nat)(u:H):Boxed (V.setCell ⟨g,o,none⟩ u) B 25 v:=
 ((a.far o u).at b DN).trans b
def IH.below(h:IH w g1 c1 g2 c2 B v L W k V)(a:Bl V V'):IH w g1 c1 g2 c2 B v L W k V':=
 ⟨h.1.below a,h.2.1.below a,h.2.2.1.bel a,h.2.2.2.1.below a,Bt h.2.2.2.2 a⟩
def IH.step(h:IH w g1 c1 g2 c2 B v L W k V)(l:k<L.length)(hg:w.heap.size<=g1):IH w g1 c1 g2 c2 B v L W (k+1) (V.setCell ⟨g1,k*2+1,none⟩ (Q .i64 (-9))):=by
 obtain⟨a,c,f,g,i⟩:=h;have d:=a.far (k*2+1) (Q .i64 (-9));refine⟨(a.put l (-9)).congr λj=>?_,c.keep (BD V ⟨g1,_,none⟩ _ g2 (a.ne c)) λ_ _ q=>d.rowK q,a.box f _ _,?_,i.setCell (p:=⟨g1,_,none⟩) hg _⟩
 . by_cases e:j=k
   . subst e;simp
   . by_cases b:j<k
     . rw[BH e,BL b,BL O]
     . rw[BH e,BH b,BH O]
 . obtain⟨x,e,q⟩:=g;exact⟨x,e,d.rowK q⟩
end
namespace M3
def kJ(s t u:ByteArray)(hs:s.size<=140737488351232)(ht:t.size<=140737488351232)(hu:u.size<=140737488351232)(w:F)(bt:Gh w):
 R G 5 #[I s,I t,I u] w λr w'=>r=.returned (.bool true)/\Bl w w':=by
 have HT:=Y bt;have cP:=PT (Jf s);have cQ:=PT (Jf t);have cR:=PT (Jf u);have lP:=(Op (Jf s)).1;have lQ:=(Op (Jf t)).1;have lR:=(Op (Jf u)).1;have tP:=PQ (Jf s);have tQ:=PQ (Jf t);have tR:=PQ (Jf u);obtain⟨Ql,Qi,Qf,Qp,Qh,Qk⟩:=IW (λ(V:F)=>PR s hs V) (λ(V:F)=>PR t ht V) (λ(V:F)=>PR u hu V) (λ(V:F)=>PS s V) (λ(V:F)=>PS t V) λ(V:F)=>PS u V;obtain⟨p,hp⟩:=ex ((J3 (Jf s)).1);obtain⟨q,hq⟩:=ex ((J3 (Jf t)).1);obtain⟨r,hr⟩:=ex ((J3 (Jf u)).1);rw[hp]at cP lP tP Ql Qp;rw[hq]at cQ lQ tQ Qi Qh;rw[hr]at cR lR tR Qf Qk;have Qb:Cd 41 (Jy p q):=(cP.mul cQ).mono O;have Qr:(Jy p q).length<=17:=UM tP tQ O;have Qg:GS p q:=cP.times cQ O;have Qm:=JW p q;obtain⟨A,bf⟩:=ex (Jy p q);rw[bf]at Qb Qr Qm;have cW:Cd 75 (Jy A r):=(Qb.mul cR).mono O;have lW:(Jy A r).length<=25:=UM Qm tR O;have oW:GS A r:=Qb.times cR O;have tW:=JW A r;have sP:=cP.sqs O;have sQ:=cQ.sqs O;have sR:=cR.sqs O;have Qo:=Qb.sqs O;obtain⟨C2,C3,D2,D3,AL⟩:=GL (λ(V:F) (x y:H) (hx:Jh V x p) (hy:Jh V y q)=>UL x y p q V hx hy sP sQ Qg O) (λ(V:F) (x y:H) (hx:Jh V x A) (hy:Jh V y r)=>UL x y A r V hx hy Qo sR oW O) (λ(V:F) (x y:H) (hx:RowK false V x p) (hy:RowK false V y q)=>Ok x y p q V hx hy sP sQ Qg O) (λ(V:F) (x y:H) (hx:RowK false V x A) (hy:RowK false V y r)=>Ok x y A r V hx hy Qo sR oW O) λ(V:F) (hp:Gh V)=>kC V hp;rw[bf]at C2 D2;obtain⟨W,hW⟩:=ex (Jy A r);rw[hW]at C3 D3 cW lW tW;obtain⟨L,hL,bj,bi,bk⟩:=jQ tW lW cW;obtain⟨C4,D4,Qs⟩:=Dc bi bk bj;have M1:Hid (DL w w []):=Y (DL.nil w);clear bt cP cQ cR lP lQ lR tP tQ tR hp hq hr Qb Qr Qg Qm bf cW lW oW tW sP sQ sR Qo hW hs ht hu bj bi bk;go_enter func5,ntmps5
 go_upto_region 2 with(go_at_call 7;refine(Qp.o _).mono ?_;clear Qp;rintro e w1 ⟨u1,rfl,bg,bm⟩;obtain⟨an,aq,ap,rfl⟩:=Jh.form bg)
 obtain⟨V1,hV⟩:=ex (w1.alloc (.cells #[E an aq ap] 25));obtain⟨X,ay⟩:=ex (w1.heap.size);have f:DL w (w1.alloc (.cells #[E an aq ap] 25)) [some (w1.heap.size,.poly p)]:=DL.push (M1.o.below bm) (.poly p) bg;rw[hV,ay]at f;rw[hV];rw[ay];have M2:Hid (DL w V1 [some (X,.poly p)]):=Y (f);clear M1;clear f hV ay;clear bg bm;refine JY Di [[],[],[1],[0,2,2],[3,3,0,1,2,3]] kS DN
  (λD ae V=>∃(ta tb tc td:H) (B:Option (Nat × Dat)),ae={ tmps:=#[I s,I t,I u,C,C,C,.bool false,.pointer (some ⟨X,0,none⟩),C,C,C,C,C,C,I s,.agg #[E an aq ap],ta,tb,tc,td,C,C,C,C,C,C,C,C,C,C,C,C,C,C,C,C,C,C,C,C,C,C,C,C,C,C,C,C,C,C,C,C,C,C,C,C,C,C,C,C,C,C,C,C,C,C,C,C,C,C,C,C,C,C,C,C,C,C,C,C,C,C,C,C,C,C,C,C,C,C,C,C,C,C,C,C,C,C,C,C,C,C,C,C,C,C,C,C,C,C,C,C,C,C],defers:=[] }/\Hid ((D 0=true->Has V ta (.poly p))/\(D 1=true->tb=Value.string t)/\(D 2=true->Has V tc (.poly q))/\(D 3=true->Has V td (.poly A))/\((D 4=false->B=some (X,.poly p))/\(D 4=true->B=some (X,.poly A))))/\Hid (DL w V [B]))
  ⟨_,_,_,_,_,J,Y ⟨DK,DK,DK,DK,⟨λ_=>rfl,DK⟩⟩,Y (M2.o).drew⟩ ?step2 ?fin2
 case step2=>
  rintro D ae V i ds az hi o am ⟨ta,tb,tc,td,B,rfl,b,f⟩;have Qt:i<5:=(Ar.1 hi).1;obtain rfl|rfl|rfl|rfl|rfl:=Mo i O
  all_goals
   simp only[AH,AD,AO]at hi;subst hi
  . have hf:D 4=false:=DQ az am;obtain rfl:=b.o.2.2.2.2.1 hf;clear o;obtain⟨a,l,c,n,r⟩:=f.o.poly2 (i:=0) J;have e0:=n.cell;refine Za ?_;exact⟨_,_,_,_,_,J,Y ⟨λ_=>r,b.o.2.1,b.o.2.2.1,b.o.2.2.2.1,⟨λ_=>rfl,λh=>by simp[hf]at h⟩⟩,Y (f.o)⟩
  . clear o;refine Za ?_;exact⟨_,_,_,_,_,J,(Gt b),Y (f.o)⟩
  . obtain rfl:=(b.o.2.1 (o 1 DK));have N:=Y (Qh.o V);clear o;refine Jj J J λK hK=>?_;go_simp;go_wp2_with(go_at_call 7;refine N.o.mono ?_;rintro e w5 ⟨v5,rfl,ai,z⟩)
    exact⟨_,_,_,_,_,J,Y ⟨λh=>(b.o.1 h).below z,λ_=>rfl,λ_=>ai,λh=>(b.o.2.2.2.1 h).below z,b.o.2.2.2.2⟩,Y (f.o.below z)⟩
  . have h0:=(b.o.1 (o 0 DK));have h1:=(b.o.2.2.1 (o 2 DK));have N:=Y (C2.o V _ _ h0 h1);clear o h0 h1;refine Jj J J λK hK=>?_;go_simp;go_wp2_with(go_at_call 9;refine N.o.mono ?_;rintro e w5 ⟨v5,rfl,ai,z⟩)
    exact⟨_,_,_,_,_,J,Y ⟨λh=>(b.o.1 h).below z,b.o.2.1,λh=>(b.o.2.2.1 h).below z,λ_=>ai,b.o.2.2.2.2⟩,Y (f.o.below z)⟩
  . obtain rfl:=b.o.2.2.2.2.1 am;have hv:=(b.o.2.2.2.1 (o 3 DK));obtain⟨a1,l1,c1,rfl⟩:=Jh.form (show Jh V _ _ from hv);obtain⟨a,l,c,n,r⟩:=f.o.poly2 (i:=0) J;have e0:=n.cell;have f0:=n.frozen;clear o;refine Za ?_;exact⟨_,_,_,_,_,J,Y ⟨λh=>(b.o.1 h).set1 n J _,b.o.2.1,λh=>(b.o.2.2.1 h).set1 n J _,λh=>(b.o.2.2.2.1 h).set1 n J _,⟨λh=>by simp at h,λ_=>rfl⟩⟩,Y (f.o.putPoly (i:=0) J hv)⟩
 rintro D ae V3 ah ⟨ta,tb,tc,td,B,rfl,b,f⟩;obtain rfl:=b.o.2.2.2.2.2 (ah 4 DN);obtain rfl:=b.o.2.1 (ah 1 DN);clear b ah M2;have M3:Hid (DL w V3 [some (X,.poly A)]):=f;clear f;clear Qh C2;go_upto_region 3 with fail
 refine JY Di [[],[],[1],[0,2,2],[3,3,0,1,2,3]] kS DN
  (λD ae V=>∃(te tf tg ti:H) (B:Option (Nat × Dat)),ae={ tmps:=#[I s,I t,I u,C,C,C,.bool false,.pointer (some ⟨X,0,none⟩),C,C,C,C,C,C,I s,.agg #[E an aq ap],ta,I t,tc,td,te,tf,tg,ti,C,C,C,C,C,C,C,C,C,C,C,C,C,C,C,C,C,C,C,C,C,C,C,C,C,C,C,C,C,C,C,C,C,C,C,C,C,C,C,C,C,C,C,C,C,C,C,C,C,C,C,C,C,C,C,C,C,C,C,C,C,C,C,C,C,C,C,C,C,C,C,C,C,C,C,C,C,C,C,C,C,C,C,C,C,C,C,C,C,C],defers:=[] }/\Hid ((D 0=true->Has V te (.poly A))/\(D 1=true->tf=Value.string u)/\(D 2=true->Has V tg (.poly r))/\(D 3=true->Has V ti (.poly W))/\((D 4=false->B=some (X,.poly A))/\(D 4=true->B=some (X,.poly W))))/\Hid (DL w V [B]))
  ⟨_,_,_,_,_,J,Y ⟨DK,DK,DK,DK,⟨λ_=>rfl,DK⟩⟩,Y (M3.o).drew⟩ ?step4 ?fin4
 case step4=>
  rintro D ae V i ds az hi o am ⟨te,tf,tg,ti,B,rfl,b,f⟩;have Qt:i<5:=(Ar.1 hi).1;obtain rfl|rfl|rfl|rfl|rfl:=Mo i O
  all_goals
   simp only[AH,AD,AO]at hi;subst hi
  . have hf:D 4=false:=DQ az am;obtain rfl:=b.o.2.2.2.2.1 hf;clear o;obtain⟨a,l,c,n,r⟩:=f.o.poly2 (i:=0) J;have e0:=n.cell;refine Za ?_;exact⟨_,_,_,_,_,J,Y ⟨λ_=>r,b.o.2.1,b.o.2.2.1,b.o.2.2.2.1,⟨λ_=>rfl,λh=>by simp[hf]at h⟩⟩,Y (f.o)⟩
  . clear o;refine Za ?_;exact⟨_,_,_,_,_,J,(Gt b),Y (f.o)⟩
  . obtain rfl:=(b.o.2.1 (o 1 DK));have N:=Y (Qk.o V);clear o;refine Jj J J λK hK=>?_;go_simp;go_wp2_with(go_at_call 7;refine N.o.mono ?_;rintro e w5 ⟨v5,rfl,ai,z⟩)
    exact⟨_,_,_,_,_,J,Y ⟨λh=>(b.o.1 h).below z,λ_=>rfl,λ_=>ai,λh=>(b.o.2.2.2.1 h).below z,b.o.2.2.2.2⟩,Y (f.o.below z)⟩
  . have h0:=(b.o.1 (o 0 DK));have h1:=(b.o.2.2.1 (o 2 DK));have N:=Y (C3.o V _ _ h0 h1);clear o h0 h1;refine Jj J J λK hK=>?_;go_simp;go_wp2_with(go_at_call 9;refine N.o.mono ?_;rintro e w5 ⟨v5,rfl,ai,z⟩)
    exact⟨_,_,_,_,_,J,Y ⟨λh=>(b.o.1 h).below z,b.o.2.1,λh=>(b.o.2.2.1 h).below z,λ_=>ai,b.o.2.2.2.2⟩,Y (f.o.below z)⟩
  . obtain rfl:=b.o.2.2.2.2.1 am;have hv:=(b.o.2.2.2.1 (o 3 DK));obtain⟨a1,l1,c1,rfl⟩:=Jh.form (show Jh V _ _ from hv);obtain⟨a,l,c,n,r⟩:=f.o.poly2 (i:=0) J;have e0:=n.cell;have f0:=n.frozen;clear o;refine Za ?_;exact⟨_,_,_,_,_,J,Y ⟨λh=>(b.o.1 h).set1 n J _,b.o.2.1,λh=>(b.o.2.2.1 h).set1 n J _,λh=>(b.o.2.2.2.1 h).set1 n J _,⟨λh=>by simp at h,λ_=>rfl⟩⟩,Y (f.o.putPoly (i:=0) J hv)⟩
 rintro D ae V5 ah ⟨te,tf,tg,ti,B,rfl,b,f⟩;obtain rfl:=b.o.2.2.2.2.2 (ah 4 DN);obtain rfl:=b.o.2.1 (ah 1 DN);clear b ah M3;have M4:Hid (DL w V5 [some (X,.poly W)]):=f;clear f;clear Qk C3;obtain⟨a6,l6,c6,n6,r6⟩:=M4.o.poly2 (i:=0) J;have T:=n6;have U:=r6;clear n6 r6;have M:=Y M4.o.2.2;clear M4;have hq:Bl V5 V5:=BB _ _;go_upto_region 5 with(first
  |(go_at_call 10;refine(Ql.o _).mono ?_;clear Ql;rintro e w6 ⟨u6,rfl,Qd,d⟩;replace hq:=Bt hq d;clear d)
  |(go_at_call 10;refine(Qi.o _).mono ?_;clear Qi;rintro e w7 ⟨u7,rfl,bu,d⟩;replace Qd:=Qd.below d;replace hq:=Bt hq d;clear d)
  |(go_at_call 14;refine(D2.o _ _ _ Qd bu).mono ?_;clear D2;rintro e w8 ⟨u8,rfl,Qe,d⟩;replace hq:=Bt hq d;clear d Qd bu)
  |(go_at_call 10;refine(Qf.o _).mono ?_;clear Qf;rintro e w9 ⟨u9,rfl,ce,d⟩;replace Qe:=Qe.below d;replace hq:=Bt hq d;clear d)
  |(go_at_call 14;refine(D3.o _ _ _ Qe ce).mono ?_;clear D3;rintro e dh ⟨u10,rfl,bh,d⟩;replace hq:=Bt hq d;clear d Qe ce;obtain⟨dj,du,dt,rfl⟩:=bh.form))
 have rX:=bh;clear bh;replace T:=T.bel hq;replace U:=U.below hq;replace M:=Y (Bt M.o hq);clear hq;have Qq:=M.o.size;have eA:=T.cell;go_upto_region 6 with(go_at_call 18;refine(C4.o _ _ U).mono ?_;rintro e di ⟨u11,rfl,hP,bc,d⟩)
 replace T:=T.bel d;replace U:=U.below d;replace rX:=rX.below d;replace M:=Y (Bt M.o d);clear d eA;go_upto_region 7 with(go_at_call 19;refine(D4.o _ _ rX).mono ?_;clear D4;rintro e cj ⟨u12,rfl,hZ,d⟩)
 replace T:=T.bel d;replace U:=U.below d;replace hP:=hP.below d;replace M:=Y (Bt M.o d);clear d rX;have HB:=Y Qq;clear Qq;by_cases ak:L=[]
 . subst ak;obtain rfl:=bc J;obtain⟨za,zc,hz,_,_⟩:=hZ.form;simp only[AK]at hz;subst hz;have HM:=M;clear bc hP hZ Qs M HB;go_upto_region 10 with fail
   go_loopw [11] (λi wr=>i=Q .i64 0/\wr=cj) λ_ _=>0
   case atStart=>exact⟨J,J⟩
   case round=>
    obtain⟨rfl,rfl⟩:=hrel;have eA:=T.cell;go_upto_region 16 with(go_at_call 18;refine(C4.o _ _ U).mono ?_;clear C4;rintro e aj ⟨u13,rfl,_,bn,d⟩;obtain rfl:=bn (by first|trivial|rfl))
    have Qc:=Y (show Gh aj from Yb HT.o (Bt HM.o d));replace HM:=Y (Bt HM.o d);have H1:=Y (AL.o aj Qc.o);clear d eA bn T U AL Qc;go_upto_region 17 with fail
    go_loopw [13] (λi wr=>i=Q .i64 0/\wr=aj) λ_ _=>0
    case atStart=>exact⟨J,J⟩
    case round=>
     obtain⟨rfl,rfl⟩:=hrel;go_wp2_with(go_at_call 15;refine H1.o.mono ?_;clear H1;rintro e ck ⟨rfl,d⟩)
     go_ret;exact⟨J,Bt HM.o d⟩
 . obtain⟨g1,c1,rfl,T1⟩:=hP.toT ak;obtain⟨g2,c2,rfl,T2⟩:=hZ.toT ak;have HG:=Y (Al HB.o T1.1);have hI:Hid (IH w g1 c1 g2 c2 _ _ L W 0 cj):=Y ⟨(T1.zero.congr λj=>by simp),T2.zero,T,U,M.o⟩;have co:((L.length:Int)==0)=false:=by
    rw[BG];have:=Ac.2 ak;omega
   have de:L.length<=25:=hL;have Qu:=Y ak;clear bc hP hZ M HB T1 T2 T U ak hL;go_upto_region 10 with fail
   go_loopw [11] (λi wr=>∃k:Nat,k<=L.length/\i=Q .i64 (k:Int)/\Hid (IH w g1 c1 g2 c2 X (E a6 l6 c6) L W k wr)) λi _=>L.length-(intOf i).toNat
   case atStart=>exact⟨0,As _,J,hI⟩
   case round=>
    obtain⟨k,hk,rfl,g⟩:=hrel;by_cases ad:k<L.length
    . obtain⟨⟨p1,v⟩,P⟩:∃x,L[k]?=some x:=⟨_,Aq ad⟩;obtain⟨x,x0,x1,rx⟩:=g.o.1.2.2.2.2 k p1 v P;obtain⟨y,B,y1,ry⟩:=g.o.2.1.2.2.2.2 k p1 v P;obtain⟨sq,tr,ln,tn⟩:=Qs.o (p1,v) (List.mem_of_getElem? P);have Qa:IG L k=(v:Int):=by unfold IG;rw[P]
      replace x1:wr.cell? ⟨g1,k*2+1,none⟩=some (Q .i64 (v:Int)):=x1.trans (by simp[Qa]);rw[Qa]at y1;obtain⟨xa,xl,xc,rfl⟩:=rx.form;obtain⟨ya,yl,yc,rfl⟩:=ry.form;have Qn:=Y λ(V:F) (h:Bl wr V)=>OY (.agg #[E xa xl xc]) p1 V ⟨_,J,rx.below h⟩ sq (λm=>Ma sq O m) (Yb HT.o (Bt g.o.2.2.2.2 h));have Qj:=Y λ(V:F) (h:Bl wr V)=>eT (E ya yl yc) p1 V (ry.below h) sq (λm=>Ma sq O m) tr (Yb HT.o (Bt g.o.2.2.2.2 h));obtain⟨S,hS⟩:∃S:ByteArray,⟨(FZ p1).toArray⟩=S:=⟨_,J⟩;rw[hS]at Qn Qj;have N:=Y λ(V:F) (h:Bl wr V)=>show V.cell? ⟨g1,k*2,none⟩=some (E xa xl xc)/\V.cell? ⟨g1,k*2+1,none⟩=some (Q .i64 (v:Int))/\V.cell? ⟨g2,k*2,none⟩=some (E ya yl yc)/\V.cell? ⟨g2,k*2+1,none⟩=some (Q .i64 (v:Int))from⟨(h.cell (p:=⟨g1,_,none⟩) g.o.1.lt).trans x0,(h.cell (p:=⟨g1,_,none⟩) g.o.1.lt).trans x1,(h.cell (p:=⟨g2,_,none⟩) g.o.2.1.lt).trans B,(h.cell (p:=⟨g2,_,none⟩) g.o.2.1.lt).trans y1⟩;clear hS Qa rx ry sq tr ln tn x0 x1 B y1;have Qv:¬((k:Int)<0):=O
      have Qw:(k:Int)<(L.length:Int):=O
      go_upto_region 12 with fail
      have hq:Bl wr wr.drew:=(BB _ wr).drew;obtain⟨k0,k1,k2,k3⟩:=N.o _ hq;go_region_held3 (λw'=>w'.cell? ⟨g1,k*2,none⟩=some (E xa xl xc)/\w'.cell? ⟨g1,k*2+1,none⟩=some (Q .i64 (v:Int))/\w'.cell? ⟨g2,k*2,none⟩=some (E ya yl yc)/\w'.cell? ⟨g2,k*2+1,none⟩=some (Q .i64 (v:Int))) (exact⟨k0,k1,k2,k3⟩)
       (first
        |(go_at_call 11;refine(Qn.o _ hq).mono ?_;clear Qn;rintro e x5 ⟨rfl,d⟩;replace hq:=Bt hq d;clear d k0 k1 k2 k3;obtain⟨k0,k1,k2,k3⟩:=N.o _ hq)
        |(go_at_call 12;refine(Qj.o _ hq).mono ?_;clear Qj;rintro e x6 ⟨rfl,d⟩;replace hq:=Bt hq d;clear d k0 k1 k2 k3;obtain⟨k0,k1,k2,k3⟩:=N.o _ hq))
      clear k0 k1 k2 k3 N;have HQ:=Y (g.o.below hq);clear g hq;have kf:=HQ.o.1.frozen (k*2+1);obtain⟨_,_,kc,_⟩:=HQ.o.1.2.2.2.2 k p1 v P;go_wp2_with fail
      exact⟨⟨k+1,ad,DK,Y (HQ.o.step ad HG.o)⟩,by simp[intOf];omega⟩
    . obtain rfl:k=L.length:=O
      clear ad hk;have eA:=g.o.2.2.1.cell;have H1:=Y (C4.o _ _ g.o.2.2.2.1);go_upto_region 16 with(go_at_call 18;refine H1.o.mono ?_;clear H1 C4;rintro e aj ⟨u13,rfl,hP,_,d⟩)
      replace g:=Y (g.o.below d);have Qc:=Y (show Gh aj from Yb HT.o g.o.2.2.2.2);obtain⟨g3,c3,rfl,T3⟩:=hP.toT Qu.o;have H3:=Y T3;clear hP d eA T3;go_upto_region 17 with fail
      go_loopw [13] (λi wr=>∃k:Nat,k<=L.length/\i=Q .i64 (k:Int)/\Hid (Bl aj wr)) λi _=>L.length-(intOf i).toNat
      case atStart=>exact⟨0,As _,J,Y (BB _ _)⟩
      case round=>
       obtain⟨k,hk,rfl,HV⟩:=hrel;by_cases ad:k<L.length
       . obtain⟨⟨p1,v⟩,P⟩:∃x,L[k]?=some x:=⟨_,Aq ad⟩;obtain⟨_,_,x1,_⟩:=g.o.1.2.2.2.2 k p1 v P;obtain⟨_,_,y1,_⟩:=g.o.2.1.2.2.2.2 k p1 v P;obtain⟨_,_,z1,_⟩:=H3.o.2.2.2.2 k p1 v P;have Qa:IG L k=(v:Int):=by unfold IG;rw[P]
         replace x1:aj.cell? ⟨g1,k*2+1,none⟩=some (Q .i64 (-9)):=x1.trans (by simp[ad]);rw[Qa]at y1 z1;have hq:Bl wr wr.drew:=(BB _ wr).drew;have hB:=Bt HV.o hq
         replace x1:=(hB.cell (p:=⟨g1,_,none⟩) g.o.1.lt).trans x1;replace y1:=(hB.cell (p:=⟨g2,_,none⟩) g.o.2.1.lt).trans y1;replace z1:=(hB.cell (p:=⟨g3,_,none⟩) H3.o.lt).trans z1;have Qv:¬((k:Int)<0):=O
         have Qw:(k:Int)<(L.length:Int):=O
         clear P Qa;go_upto_region 19 with fail
         go_region_held3 (λw'=>w'.cell? ⟨g1,k*2+1,none⟩=some (Q .i64 (-9))/\w'.cell? ⟨g2,k*2+1,none⟩=some (Q .i64 (v:Int))/\w'.cell? ⟨g3,k*2+1,none⟩=some (Q .i64 (v:Int))) (exact⟨x1,y1,z1⟩) (fail)
         all_goals go_wp2_with fail
         go_roundw
         case rel=>exact⟨k+1,ad,DK,Y hB⟩
         case measure=>simp[intOf];omega
       . have H1:=Y (AL.o wr (Yb Qc.o HV.o));have cn:¬((k:Int)<(L.length:Int)):=O
         go_wp2_with(go_at_call 15;refine H1.o.mono ?_;clear H1;rintro e ck ⟨rfl,d⟩)
         go_ret;exact⟨J,g.o.2.2.2.2.trans ((Bt HV.o d).mono g.o.2.2.2.2.size)⟩
end M3

