import Derived.Test.YtcahejkcdcjjgaaGreatDoorQ28
import Derived.Test.YtcahejkcdcjjgaaGreatDoorQ25
set_option linter.all false
open Go.Value renaming slice->C,bool->D
open Go.Obj renaming cells->F
open Go renaming World->G,Value->K
open Go.Proofs.Tryz renaming prog->H
set_option maxRecDepth 99999
set_option maxHeartbeats 0
namespace Go.Proofs.YtcahejkcdcjjgaaGreatDoor
open Rat renaming divInt->TU
open Proofs.Tryz
open Go.RowKit Go.Shelf
attribute [local go_sem] Oper.semAt_some
section
def MP(W:G):K->Nat
 |C (some p) l _=>val 10000 ((List.range l).map λj=>EY W ⟨p.block,p.off+j,none⟩)
 |_=>0
variable{l n:Nat}{a:TR}
def RN.rowVal{W:G}{c:Nat}(h:RN W (C a l c) n):MP W (C a l c)=n:=by
 obtain⟨f,_,_,_,g⟩:=Jm h;rcases AF l with d|d
 . subst d;have o:n=0:=(Jt O).1 (Ag f.symm);subst o;cases a<;>rfl
 . obtain⟨b,i,rfl,_,_⟩:=g 0 d;show val 10000 ((List.range l).map λj=>EY W ⟨b,i+j,none⟩)=n;have e:(List.range l).map (λj=>EY W ⟨b,i+j,none⟩)=Jb 10000 n:=by
    refine List.ext_getElem (by rw[List.length_map,List.length_range];exact f) λj q k=>?_;obtain⟨p,r,e,_,m⟩:=g j O;cases e;rw[List.getElem_map,List.getElem_range,EY,m,Ak k];rfl
   rw[e,Ji O]
def MQ{m:Nat}(h:n<=m):(Jb 10000 n).length<=(Jb 10000 m).length:=by
 rcases Az (Jb 10000 m).length (Jb 10000 n).length with a|a
 . have:=Ya O a;omega
 . exact a
def Rl(q vb:K)(x y:Int)(w:G)(ha:Jn w q x)(hb:Jn w vb y)(ad:De x<=100000000000)(ae:De y<=100000000000):
 Calls H 125 #[q,vb] w λe w'=>∃u,e=.returned u/\Jn w' u (Int.gcd x y:Nat)/\Bl w w':=by
 obtain⟨a,k,n,rfl,B⟩:=ha;obtain⟨b,lb,o,rfl,E⟩:=hb;obtain⟨s,hs⟩:=ex (decide (x<0));obtain⟨t,ht⟩:=ex (decide (y<0));rw[hs,ht];clear hs ht;obtain⟨W0,i⟩:=ex (((w.alloc (F #[C a k n,D s] 47)).alloc (F #[C b lb o,D t] 47)).alloc (F #[C none 0 0,D false] 47));have r:Bl w W0:=by rw[<-i];exact Xv w _ _ _
 have b0:Jf W0 w.heap.size 47 (C a k n) (D s):=by rw[<-i];exact((Jf.new w _ _ _).alloc _).alloc _
 have b1:Jf W0 (w.heap.size+1) 47 (C b lb o) (D t):=by
  have h:=(Jf.new (w.alloc (F #[C a k n,D s] 47)) 47 (C b lb o) (D t)).alloc (F #[C none 0 0,D false] 47);rw[A1,i]at h;exact h
 have bR:Jf W0 (w.heap.size+1+1) 47 (C none 0 0) (D false):=by
  have h:=Jf.new ((w.alloc (F #[C a k n,D s] 47)).alloc (F #[C b lb o,D t] 47)) 47 (C none 0 0) (D false);rw[A1,A1,i]at h;exact h
 have r0:=RN.below B r;have r1:=RN.below E r;have k0:=b0.c0;have k2:=b1.c0;have P:k<=100000000000:=by rw[RN.len B];exact ad
 have R:lb<=100000000000:=by rw[RN.len E];exact ae
 have N:=Z i;clear i B E ad ae;go_enter func125,ntmps125
 go_upto_region 1 with fail
 rw[N.o];clear N;go_wp2_with fail
 go_loopw [5,6] (λxv I wr=>∃(f:TR) (d c0 X:Nat) (m:TR) (g c1 c:Nat),xv=C f d c0/\I=C m g c1/\Hid (RN wr (C f d c0) X)/\Hid (RN wr (C m g c1) c)/\Hid (Nat.gcd X c=Int.gcd x y)/\(d<=100000000000/\g<=100000000000)/\Bl W0 wr)
  (λ_ I wr=>MP wr I)
 case atStart=>exact⟨a,k,n,x.natAbs,b,lb,o,y.natAbs,J,J,Z r0,Z r1,Z J,⟨P,R⟩,BB _ W0⟩
 case round=>
  clear r0 r1 P R;obtain⟨f,d,c0,X,m,g,c1,c,rfl,rfl,U,j,T,⟨ah,W⟩,z⟩:=hrel;rcases AF g with S|S
  . subst S;have Q:c=0:=(Jt O).1 (Ag (RN.len j.o).symm);have HE:=Z (show X=Int.gcd x y by rw[<-T.o,Q,Nat.gcd_zero_right]);have l:=bR.below z;obtain⟨q0,q1⟩:=l.cp;obtain⟨f0,f1⟩:=l.fp;clear Q;go_wp2_with fail
    have L:=(FH U.o).box l J J (x0:=C f d c0) (x1:=D false);rw[HE.o]at L;have Qj:=Bt r z;have z0:=((l.set0 (C f d c0)).set1 (D false)).c0;have z1:=((l.set0 (C f d c0)).set1 (D false)).c1;exact BA (by simp[results,results125,go_sem,z0,z1]) J ⟨_,J,L,(Qj.setCell (p:=⟨_,0,none⟩) so _).setCell (p:=⟨_,1,none⟩) so _⟩
  . have Qi:c≠0:=λe=>by
     have h:=RN.len j.o;rw[e,Js]at h;simp at h;omega
    have Qk:=Z (MO f d c0 m g c1 X c wr U.o j.o Qi ah W);have M:=AK X (show c>0 by omega);go_wp2_with(go_at_call 157;refine Qk.o.mono ?_;rintro e w2 ⟨u,v,rfl,hu,A,V⟩;obtain⟨ua,uc,rfl⟩:=RN.form hu;obtain⟨q,vc,rfl⟩:=RN.form A)
    have Ql:=RN.below j.o V;refine⟨⟨m,g,c1,c,q,_,vc,X%c,J,J,Z Ql,Z A,Z (by rw[<-T.o,CH c,<-Nat.gcd_rec,CH]),⟨W,?_⟩,Bt z V⟩,?_⟩
    . have h1:=MQ (Nat.le_of_lt M);rw[<-RN.len j.o]at h1;omega
    . rw[RN.rowVal A,RN.rowVal j.o];exact M
def Rm(w:G)(a b c d:K)(p0 p1:K):
 Jf ((((w.alloc (F #[a,b] 47)).alloc (F #[c,d] 47)).alloc (F #[p0,p1] 47)).alloc (F #[p0,p1] 47)) w.heap.size 47 a b/\
 Jf ((((w.alloc (F #[a,b] 47)).alloc (F #[c,d] 47)).alloc (F #[p0,p1] 47)).alloc (F #[p0,p1] 47)) (w.heap.size+1) 47 c d/\
 Jf ((((w.alloc (F #[a,b] 47)).alloc (F #[c,d] 47)).alloc (F #[p0,p1] 47)).alloc (F #[p0,p1] 47)) (w.heap.size+1+1) 47 p0 p1/\
 Jf ((((w.alloc (F #[a,b] 47)).alloc (F #[c,d] 47)).alloc (F #[p0,p1] 47)).alloc (F #[p0,p1] 47)) (w.heap.size+1+1+1) 47 p0 p1:=by
 refine⟨(((Jf.new w _ _ _).alloc _).alloc _).alloc _,?_,?_,?_⟩
 . have h:=((Jf.new (w.alloc (F #[a,b] 47)) 47 c d).alloc (F #[p0,p1] 47)).alloc (F #[p0,p1] 47);rw[A1]at h;exact h
 . have h:=(Jf.new ((w.alloc (F #[a,b] 47)).alloc (F #[c,d] 47)) 47 p0 p1).alloc (F #[p0,p1] 47);rw[A1,A1]at h;exact h
 . have h:=Jf.new (((w.alloc (F #[a,b] 47)).alloc (F #[c,d] 47)).alloc (F #[p0,p1] 47)) 47 p0 p1;rw[A1,A1,A1]at h;exact h
def Rn{W:G}{c:Nat}(h:RN W (C a l c) n)(m:Bool):Jn W (.agg #[C a l c,D (m&&decide (0<l))]) (if m=true then -(n:Int)else(n:Int)):=by
 have hl:=RN.len h;have f:0<l↔n≠0:=by
  rw[hl];constructor
  . intro b g;rw[g,Js]at b;simp at b
  . intro b;exact Cg.2 λe=>b ((Jt O).1 e)
 cases m with
 |false=>
  refine⟨a,l,c,?_,by simp;exact h⟩
  have:decide ((n:Int)<0)=false:=BE O
  simp[this]
 |true=>
  refine⟨a,l,c,?_,by simp;exact h⟩;simp only[Bool.true_and,if_true]
  have:decide (0<l)=decide (-(n:Int)<0):=by
   by_cases d:n=0
   . rw[BE λb=>f.1 b d,BE O]
   . rw[BG (f.2 d),BG O]
  rw[this]
def Ro(a:TR)(la ca:Nat)(b:TR)(lb cb X d:Nat)(s t:Bool)(z r:Int)(w:G)(hu:RN w (C a la ca) X)(hv:RN w (C b lb cb) d)(hY:d≠0)(bg:la<=100000000000)(bh:lb<=100000000000)
(HP:Hid (¬(s=true/\X%d≠0)->(if(!(s==t))=true then -((X/d:Nat):Int)else((X/d:Nat):Int))=z/\((X%d:Nat):Int)=r))
(HN:Hid (s=true/\X%d≠0->(if(!(s==t))=true then -((X/d+1:Nat):Int)else((X/d+1:Nat):Int))=z/\((d-X%d:Nat):Int)=r)):
 Calls H 127 #[.agg #[C a la ca,D s],.agg #[C b lb cb,D t]] w λe k=>∃q o,e=.returned (.tuple #[q,o])/\Jn k q z/\Jn k o r/\Bl w k:=by
 obtain⟨b0,b1,b4,b5⟩:=Rm w (C a la ca) (D s) (C b lb cb) (D t) (C none 0 0) (D false);have Qo:=Lr w (F #[C a la ca,D s] 47) (F #[C b lb cb,D t] 47) (F #[C none 0 0,D false] 47) (F #[C none 0 0,D false] 47);obtain⟨W0,ak⟩:=ex ((((w.alloc (F #[C a la ca,D s] 47)).alloc (F #[C b lb cb,D t] 47)).alloc (F #[C none 0 0,D false] 47)).alloc (F #[C none 0 0,D false] 47));rw[ak]at b0 b1 b4 b5 Qo;have Uj:=Z ak;have Uf:=RN.below hu Qo;have Qw:=RN.below hv Qo;have Uk:=Z (MO a la ca b lb cb X d W0 Uf Qw hY bg bh);have Ug:=Z Qw;have Ul:=Z (RN.len hu).symm;obtain⟨k0,k1⟩:=b0.cp;obtain⟨f,k3⟩:=b1.cp;clear ak hu hv Uf Qw;go_enter func127,ntmps127
 go_upto_region 1 with fail
 rw[Uj.o];go_upto_region 2 with(go_at_call 157;refine Uk.o.mono ?_;rintro e w1 ⟨u1,v1,rfl,ay,az,aj⟩;obtain⟨A,B,rfl⟩:=RN.form ay;obtain⟨va,vc,rfl⟩:=RN.form az)
 obtain⟨lr,aq⟩:=ex ((Jb 10000 (X%d)).length);obtain⟨lq,an⟩:=ex ((Jb 10000 (X/d)).length);have Ue:=Z (show lr=0↔X%d=0 by
  rw[<-aq];exact⟨λh=>(Jt O).1 (Ag h),λh=>by rw[h,Js];rfl⟩)
 rw[aq]at az ⊢;rw[an]at ay ⊢;have bj:lq<=100000000000:=by
  have P:=MQ (m:=X) (n:=X/d) (CF _ _);have h2:=Ul.o;omega
 have Ub:=Z an.symm;clear aq an;obtain⟨k0,k1⟩:=(b0.below aj).cp;obtain⟨f,k3⟩:=(b1.below aj).cp;have Qv:=Z (Ef A lq B (!(s==t)) w1);go_upto_region 3 with(go_at_call 141;refine Qv.o.mono ?_;rintro e w2 ⟨rfl,am⟩)
 obtain⟨L,bf⟩:=ex (((!(s==t))&&decide (0<lq)):Bool);have hI:=Rn (RN.below ay am) (!(s==t));rw[bf]at hI ⊢;obtain⟨W3,ai⟩:=ex (w2.alloc (F #[C A lq B,D L] 47));have Qi:Bl w2 W3:=by rw[<-ai];exact Ba w2 _
 have b8:Jf W3 w2.heap.size 47 (C A lq B) (D L):=by rw[<-ai];exact Jf.new w2 _ _ _
 have Qq:Bl w1 W3:=Bt am Qi;have Qf:Bl W0 W3:=Bt aj Qq;have Qu:=hI.below Qi;have Qy:=RN.below az Qq;have Qg:=Bt Qo Qf;obtain⟨M,bc⟩:=ex (w2.heap.size);have bi:w.heap.size+1+1+1<M:=by
  have P:=(b5.below (Bt aj am)).lt;omega
 rw[ai];rw[bc]at b8 ⊢;clear ai bc bf hI;have p0:=b0.below Qf;have p1:=b1.below Qf;have x:=b4.below Qf;have y:=b5.below Qf;clear b0 b1 b4 b5 k0 k1 f k3;obtain⟨k0,k1⟩:=p0.cp;obtain⟨f,k3⟩:=p1.cp;obtain⟨i,j⟩:=b8.cp;obtain⟨q0,q1⟩:=x.cp;obtain⟨q2,q3⟩:=y.cp;obtain⟨f0,f1⟩:=x.fp;obtain⟨f2,f3⟩:=y.fp;obtain⟨cd,bd⟩:=ex ((!s || decide (lr=0)):Bool);have Qh:=Z bd;clear bd;go_cut [31] λv w4=>v=D cd/\w4=W3
 case first=>
  cases s with
  |false=>
   have e5:cd=true:=by rw[<-Qh.o];rfl
   go_wp2_with fail
   go_meet
   case rel=>exact⟨by rw[e5],J⟩
  |true=>
   by_cases l:lr=0
   . have e5:cd=true:=by rw[<-Qh.o];simp;omega
     have Q:((lr:Int)==0)=true:=by simp;omega
     clear l;go_wp2_with fail
     go_meet
     case rel=>exact⟨by rw[e5],J⟩
   . have e5:cd=false:=by rw[<-Qh.o];simp;omega
     have Q:((lr:Int)==0)=false:=by simp;omega
     clear l;go_wp2_with fail
     go_meet
     case rel=>exact⟨by rw[e5],J⟩
 case rest=>
  obtain⟨rfl,rfl⟩:=hcut;cases cd with
  |true=>
   have hc:¬(s=true/\X%d≠0):=λ⟨P,h2⟩=>by
    have h:=Qh.o;rw[P]at h;simp at h;exact h2 (Ue.o.1 h)
   obtain⟨z1,z2⟩:=HP.o hc;rw[z1]at Qu;have Qv:=Z (Ef va lr vc s);have Qz:(s&&decide (0<lr))=false:=by
    have h:=Qh.o;cases s with
    |false=>rfl
    |true=>simp at h;simp;omega
   rw[Qz]at Qv;have Qt:=Z z2;clear Qz z1 z2 hc;go_wp2_with fail
   go_region_with (first
    |(go_at_call 141;refine(Qv.o _).mono ?_;rintro e w5 ⟨rfl,I⟩;have i:=((b8.drew).below I).c0;have j:=((b8.drew).below I).c1;have q0:=((x.drew).below I).c0;have q1:=((x.drew).below I).c1;have q2:=((y.drew).below I).c0;have q3:=((y.drew).below I).c1;have f0:=((x.drew).below I).f0;have f1:=((x.drew).below I).f1;have f2:=((y.drew).below I).f0;have f3:=((y.drew).below I).f1))
   all_goals
    go_wp2_with fail
    have Qj:Bl wc w5:=((BB _ wc).drew).trans (I.mono (Aa _));have E:=x.below Qj;have U:=y.below Qj;obtain⟨z4,z5⟩:=GY (C A lq B) (D L) (C va lr vc) (D false) E U;obtain⟨Qr,Qp⟩:=z4.cp;obtain⟨Qk,Qn⟩:=z5.cp;have W:Jf ((w5.setCell ⟨w.heap.size+1+1,0,none⟩ (C A lq B)).setCell ⟨w.heap.size+1+1,1,none⟩ (D L)) (w.heap.size+1+1+1) 47 (C none 0 0) (D false):=(U.far sp _).far sp _;have T:=(FH Qy).below Qj;rw[Qt.o]at T;have Ql:=((Qu.below Qj).box E J J (x0:=C A lq B) (x1:=D L)).box W J J (x0:=C va lr vc) (x1:=D false);have Qm:=(T.box E J J (x0:=C A lq B) (x1:=D L)).box W J J (x0:=C va lr vc) (x1:=D false);have Qs:=Bt Qg Qj;exact BA (by simp[results,results127,go_sem,Qr,Qp,Qk,Qn]) J ⟨_,_,J,Ql,Qm,(((Qs.setCell (p:=⟨_,0,none⟩) so _).setCell (p:=⟨_,1,none⟩) so _).setCell (p:=⟨_,0,none⟩) so _).setCell (p:=⟨_,1,none⟩) so _⟩
  |false=>
   have hc:s=true/\X%d≠0:=by
    have h:=Qh.o;simp at h;exact⟨h.1,λe=>h.2 (Ue.o.2 e)⟩
   obtain⟨z1,z2⟩:=HN.o hc;rw[hc.1]at z1;have Ud:Jn wc (.agg #[C A lq B,D L]) (if(!(true==t))=true then -((X/d:Nat):Int)else((X/d:Nat):Int)):=by have h:=Qu;rw[hc.1]at h;exact h
   obtain⟨Ua,Uh,Qt⟩:=DY Ud z1 z2;have bk:=AK X (show d>0 by omega);obtain⟨Uc,Ui,Qe⟩:=DY (FA 1 O O) (λ(V:G) (h:Bl wc V)=>F7 _ _ d (X%d) V (RN.below (RN.below Ug.o Qf) h) (RN.below Qy h) O (by rw[<-RN.len Ug.o];omega)) λ(V:G) (h:Bl wc V)=>CB (CB (b8.below h).c0 (CB (b8.below h).c1 (p1.below h).c0)) (CB (CB (x.below h).c0 (CB (x.below h).c1 (CB (y.below h).c0 (y.below h).c1))) (CB (x.below h).f0 (CB (x.below h).f1 (CB (y.below h).f0 (y.below h).f1))));have n1:¬M=w.heap.size+1+1:=O
   have n2:¬M=w.heap.size+1+1+1:=O
   have n3:¬w.heap.size+1+1=M:=O
   have n4:¬w.heap.size+1+1+1=M:=O
   have n5:¬w.heap.size+1+1=w.heap.size:=O
   have n6:¬w.heap.size=w.heap.size+1+1:=O
   clear hc Ud z1 z2 Qu;cases t with
   |true=>
    have Qx:=Z (show ∀(V:G) (u:K),Bl wc V->Jn V u 1->Calls H 108 #[.agg #[C A lq B,D L],u] V λe k=>∃u,e=.returned u/\Jn k u z/\Bl V k from λV u h hu=>by
     have hx:=Ua.o.below h;simp only[beq_self_eq_true,Bool.not_true,CC,if_false]at hx;have P:=Kb _ u _ 1 V hx hu (by unfold De;rw[A6,<-Ub.o];omega) (GX O O);have h2:=Uh.o;simp only[beq_self_eq_true,Bool.not_true,CC,if_false]at h2;rw[show((X/d:Nat):Int)+1=z from by rw[<-h2];push_cast;rfl]at P;exact P)
    go_upto_region 6 with fail
    have c:Bl wc wc.drew:=(BB _ wc).drew;clear i j f q0 q1 q2 q3 f0 f1 f2 f3;obtain⟨⟨i,j,f⟩,⟨q0,q1,q2,q3⟩,f0,f1,f2,f3⟩:=Qe.o _ c;go_region_held3 (λk=>k.cell? ⟨M,0,none⟩=some (C A lq B)/\k.cell? ⟨M,1,none⟩=some (D L)/\k.cell? ⟨w.heap.size+1,0,none⟩=some (C b lb cb)) (first|(with_reducible exact⟨i,j,f⟩)|(go_keep;done))
     (first
      |(go_at_call 93;refine(Uc.o _).mono ?_;rintro e w5 ⟨u5,rfl,ah,g⟩;replace c:=Bt c g;clear g i j f q0 q1 q2 q3 f0 f1 f2 f3;obtain⟨⟨i,j,f⟩,⟨q0,q1,q2,q3⟩,f0,f1,f2,f3⟩:=Qe.o _ c)
      |(go_at_call 108;refine(Qx.o _ _ c ah).mono ?_;clear ah;rintro e w6 ⟨u6,rfl,l,g⟩;obtain⟨N,R,c5,rfl⟩:=l.form;obtain⟨S,ae⟩:=ex (decide (z<0));rw[ae]at l;rw[ae];clear ae;replace c:=Bt c g;clear g i j f q0 q1 q2 q3 f0 f1 f2 f3;obtain⟨⟨i,j,f⟩,⟨q0,q1,q2,q3⟩,f0,f1,f2,f3⟩:=Qe.o _ c)
      |(go_at_call 144;refine(Ui.o _ c).mono ?_;rintro e V0 ⟨u7,rfl,Q,g⟩;obtain⟨a6,c6,rfl⟩:=RN.form Q;obtain⟨l6,ad⟩:=ex ((Jb 10000 (d-X%d)).length);rw[ad]at Q;rw[ad];clear ad;replace l:=l.below g;replace c:=Bt c g;clear g i j f q0 q1 q2 q3 f0 f1 f2 f3;obtain⟨⟨i,j,f⟩,⟨q0,q1,q2,q3⟩,f0,f1,f2,f3⟩:=Qe.o _ c))
    go_wp2_with fail
    have E:=x.below c;have U:=y.below c;obtain⟨z4,z5⟩:=GY (C N R c5) (D S) (C a6 l6 c6) (D false) E U;obtain⟨Qr,Qp⟩:=z4.cp;obtain⟨Qk,Qn⟩:=z5.cp;have W:Jf ((V0.setCell ⟨w.heap.size+1+1,0,none⟩ (C N R c5)).setCell ⟨w.heap.size+1+1,1,none⟩ (D S)) (w.heap.size+1+1+1) 47 (C none 0 0) (D false):=(U.far sp _).far sp _;have T:=FH Q;rw[Qt.o]at T;have Ql:=(l.box E J J (x0:=C N R c5) (x1:=D S)).box W J J (x0:=C a6 l6 c6) (x1:=D false);have Qm:=(T.box E J J (x0:=C N R c5) (x1:=D S)).box W J J (x0:=C a6 l6 c6) (x1:=D false);have Qs:=Bt Qg c;exact BA (by simp[results,results127,go_sem,Qr,Qp,Qk,Qn]) J ⟨_,_,J,Ql,Qm,(((Qs.setCell (p:=⟨_,0,none⟩) so _).setCell (p:=⟨_,1,none⟩) so _).setCell (p:=⟨_,0,none⟩) so _).setCell (p:=⟨_,1,none⟩) so _⟩
   |false=>
    have Qx:=Z (show ∀(V:G) (u:K),Bl wc V->Jn V u 1->Calls H 158 #[.agg #[C A lq B,D L],u] V λe k=>∃u,e=.returned u/\Jn k u z/\Bl V k from λV u h hu=>by
     have hx:=Ua.o.below h;rw[BM (by rfl)]at hx;have P:=QN _ u _ 1 V hx hu (by unfold De;rw[C7,A6,<-Ub.o];omega) (GX O O);have h2:=Uh.o;rw[BM (by rfl)]at h2;rw[show -((X/d:Nat):Int)-1=z from by rw[<-h2];push_cast;omega]at P;exact P)
    go_upto_region 7 with fail
    have c:Bl wc wc.drew:=(BB _ wc).drew;clear i j f q0 q1 q2 q3 f0 f1 f2 f3;obtain⟨⟨i,j,f⟩,⟨q0,q1,q2,q3⟩,f0,f1,f2,f3⟩:=Qe.o _ c;go_region_held3 (λk=>k.cell? ⟨M,0,none⟩=some (C A lq B)/\k.cell? ⟨M,1,none⟩=some (D L)/\k.cell? ⟨w.heap.size+1,0,none⟩=some (C b lb cb)) (first|(with_reducible exact⟨i,j,f⟩)|(go_keep;done))
     (first
      |(go_at_call 93;refine(Uc.o _).mono ?_;rintro e w5 ⟨u5,rfl,ah,g⟩;replace c:=Bt c g;clear g i j f q0 q1 q2 q3 f0 f1 f2 f3;obtain⟨⟨i,j,f⟩,⟨q0,q1,q2,q3⟩,f0,f1,f2,f3⟩:=Qe.o _ c)
      |(go_at_call 158;refine(Qx.o _ _ c ah).mono ?_;clear ah;rintro e w6 ⟨u6,rfl,l,g⟩;obtain⟨N,R,c5,rfl⟩:=l.form;obtain⟨S,ae⟩:=ex (decide (z<0));rw[ae]at l;rw[ae];clear ae;replace c:=Bt c g;clear g i j f q0 q1 q2 q3 f0 f1 f2 f3;obtain⟨⟨i,j,f⟩,⟨q0,q1,q2,q3⟩,f0,f1,f2,f3⟩:=Qe.o _ c)
      |(go_at_call 144;refine(Ui.o _ c).mono ?_;rintro e V0 ⟨u7,rfl,Q,g⟩;obtain⟨a6,c6,rfl⟩:=RN.form Q;obtain⟨l6,ad⟩:=ex ((Jb 10000 (d-X%d)).length);rw[ad]at Q;rw[ad];clear ad;replace l:=l.below g;replace c:=Bt c g;clear g i j f q0 q1 q2 q3 f0 f1 f2 f3;obtain⟨⟨i,j,f⟩,⟨q0,q1,q2,q3⟩,f0,f1,f2,f3⟩:=Qe.o _ c))
    go_wp2_with fail
    have E:=x.below c;have U:=y.below c;obtain⟨z4,z5⟩:=GY (C N R c5) (D S) (C a6 l6 c6) (D false) E U;obtain⟨Qr,Qp⟩:=z4.cp;obtain⟨Qk,Qn⟩:=z5.cp;have W:Jf ((V0.setCell ⟨w.heap.size+1+1,0,none⟩ (C N R c5)).setCell ⟨w.heap.size+1+1,1,none⟩ (D S)) (w.heap.size+1+1+1) 47 (C none 0 0) (D false):=(U.far sp _).far sp _;have T:=FH Q;rw[Qt.o]at T;have Ql:=(l.box E J J (x0:=C N R c5) (x1:=D S)).box W J J (x0:=C a6 l6 c6) (x1:=D false);have Qm:=(T.box E J J (x0:=C N R c5) (x1:=D S)).box W J J (x0:=C a6 l6 c6) (x1:=D false);have Qs:=Bt Qg c;exact BA (by simp[results,results127,go_sem,Qr,Qp,Qk,Qn]) J ⟨_,_,J,Ql,Qm,(((Qs.setCell (p:=⟨_,0,none⟩) so _).setCell (p:=⟨_,1,none⟩) so _).setCell (p:=⟨_,0,none⟩) so _).setCell (p:=⟨_,1,none⟩) so _⟩
def Gh(j k:K)(x y:Int)(w:G)(n:Jn w j x)(p:Jn w k y)(i:y≠0)(r:De x<=100000000000)(s:De y<=100000000000):
 Calls H 127 #[j,k] w λe d=>∃q o,e=.returned (.tuple #[q,o])/\Jn d q (x/y)/\Jn d o (x%y)/\Bl w d:=by
 obtain⟨a,t,l,rfl,f⟩:=n;obtain⟨b,lb,m,rfl,g⟩:=p;refine Ro a t l b lb m x.natAbs y.natAbs _ _ (x/y) (x%y) w f g O (by rw[RN.len f];exact r) (by rw[RN.len g];exact s) (λc=>Lt i λh=>c ⟨BG h.1,h.2⟩) λc=>Lu i ⟨BX c.1,c.2⟩
def MR(r:K)(x:Int)(w:G)(t:Jn w r x):
 Calls H 98 #[r] w λe u=>e=.returned (.int .i64 x.sign)/\Bl w u:=by
 obtain⟨a,b,l,rfl,j⟩:=t;have k:=RN.len j;have z:=(Jm j).2.2.2.1;have g:Bl w (w.alloc (F #[C a b l,D (decide (x<0))] 47)):=Ba w _;have b0:=Jf.new w 47 (C a b l) (D (decide (x<0)));have n:b=0↔x=0:=by
  rw[k];constructor
  . intro h;have:=(Jt (B:=10000) O).1 (Ag h);omega
  . intro h;rw[h,Int.natAbs_zero,Js];rfl
 have o:=Z n;obtain⟨W0,i⟩:=ex (w.alloc (F #[C a b l,D (decide (x<0))] 47));rw[i]at g b0;have d:=Z i;obtain⟨A,q⟩:=b0.cp;by_cases m:x<0
 . have f:decide (x<0)=true:=BG m;rw[f]at d q ⊢;have c:=Z (Int.sign_eq_neg_one_of_neg m);clear k n i j f b0;go_enter func98,ntmps98
   go_upto_region 1 with fail
   rw[d.o];go_wp2_with fail
   go_ret;exact⟨by rw[c.o];rfl,g⟩
 . have f:decide (x<0)=false:=BE m;rw[f]at d q ⊢;clear k n i j f b0;rcases AF b with p|p
   . subst p;have c:=Z (show x.sign=0 by rw[o.o.1 J];rfl);go_enter func98,ntmps98
     go_upto_region 1 with fail
     rw[d.o];go_wp2_with fail
     go_ret;refine⟨?_,g⟩;rw[c.o];first|rfl|(simp;done)
   . have c:=Z (show x.sign=1 from Int.sign_eq_one_of_pos (by
      have:=o.o;rcases CU x 0 with h|h|h
      . omega
      . have:=this.2 h;omega
      . exact h))
     have s:min (1:Int) (b:Int)=1:=O
     have v:(1:Int)<=(b:Int):=O
     have y:¬((b:Int)<1):=O
     go_enter func98,ntmps98
     go_upto_region 1 with fail
     rw[d.o];go_wp2_with fail
     go_ret;refine⟨?_,g⟩;rw[c.o];first|rfl|(simp[s];done)
end
section
open M3
variable{l:Nat}{a:TR}
def MS{x y:Int}(a:y≠0):(0:Int)<(Int.gcd x y:Nat):=by
 have:=Int.gcd_pos_of_ne_zero_right x a;omega
def Jv.mk{W:G}{s t:Bool}{b:TR}{c k d:Nat}{q:Rat}(e:Jn W (.agg #[C a l c,D s]) q.num)(f:Jn W (.agg #[C b k d,D t]) (q.den:Int)):Jv W (.agg #[C a l c,D s,C b k d,D t]) q:=⟨_,_,_,_,_,_,_,_,J,e,f⟩
def Jn.sign{W:G}{c:Nat}{s:Bool}{z:Int}(h:Jn W (.agg #[C a l c,D s]) z):s=decide (z<0):=by
 obtain⟨b,d,c',e,_⟩:=h;cases e;rfl
def Rp(va vb:K)(x y:Int)(w:G)(ha:Jn w va x)(f:Jn w vb y)(hy:y≠0)(cg:Sok x)(cj:Sok y):
 Calls H 92 #[va,vb] w λe w'=>∃u,e=.returned u/\Jv w' u (TU x y)/\Bl w w':=by
 obtain⟨ga,iu,gn,je,rfl⟩:=Jn.form2 ha;obtain⟨gb,iw,go,jf,rfl⟩:=Jn.form2 f;obtain⟨W0,az,M1⟩:=QG 47 (.big x) ha 47 (.big y) f 49 (.zref) J;obtain⟨r,Qa,Qb⟩:=DY hy cg cj;clear ha f hy cg cj;go_enter func92,ntmps92
 go_upto_region 1 with fail
 rw[az.o];clear az;obtain⟨a1,l1,c1,s1,n1,i1⟩:=M1.o.big (i:=0) J;obtain⟨Ui,Uk⟩:=n1.cp;obtain⟨a2,l2,c2,s2,n2,i2⟩:=M1.o.big (i:=1) J;obtain⟨Uj,Ug⟩:=n2.cp;go_upto_region 2 with(go_at_call 125;refine(Rl _ _ x y _ i1 i2 (by have:=Qa.o.size;omega) (by have:=Qb.o.size;omega)).mono ?_;rintro e w1 ⟨u,rfl,hu,f⟩;obtain⟨bj,dw,bz,f8,rfl⟩:=Jn.form2 hu)
 obtain⟨V3,b⟩:=ex (w1.alloc (F #[C bj dw bz,D f8] 47));obtain⟨g,c⟩:=ex (w1.heap.size);have a:DF w (w1.alloc (F #[C bj dw bz,D f8] 47)) [some (w.heap.size,.big x),some (w.heap.size+1,.big y),some (w.heap.size+1+1,.zref),some (w1.heap.size,.big (((Int.gcd x y:Nat):Int)))]:=DF.push (M1.o.below f) (.big (((Int.gcd x y:Nat):Int))) hu;rw[b,c]at a;rw[b];rw[c];have p:Hid (DF w V3 [some (w.heap.size,.big x),some (w.heap.size+1,.big y),some (w.heap.size+1+1,.zref),some (g,.big (((Int.gcd x y:Nat):Int)))]):=Z (a);clear M1;clear a b c;clear n1 Ui Uk i1 n2 Uj Ug i2 hu f;have HG:=Z (Sok.gcd Qa.o Qb.o);by_cases s:y<0
 . have HL:=Z s;obtain⟨a4,l4,c4,s4,n4,i4⟩:=p.o.big (i:=1) J;obtain⟨Uo,Uf⟩:=n4.cp;have hs:=Jn.sign i4;rw[BG s]at hs;subst hs;clear s;go_upto_region 3 with fail
   clear n4 Uo Uf i4;obtain⟨a5,l5,c5,s5,n5,i5⟩:=p.o.big (i:=3) J;obtain⟨Uc,Ud⟩:=n5.cp;go_upto_region 4 with(go_at_call 126;refine(Kc _ (((Int.gcd x y:Nat):Int)) _ i5).mono ?_;rintro e w6 ⟨u6,rfl,ak,ai⟩;obtain⟨bk,dx,ce,f9,rfl⟩:=Jn.form2 ak;obtain⟨Uc,Ud⟩:=(n5.below ai).cp;obtain⟨Um,Un⟩:=(n5.below ai).fp)
   obtain⟨V6,b⟩:=ex ((w6.setCell ⟨g,0,none⟩ (C bk dx ce)).setCell ⟨g,1,none⟩ (D f9));have a:DF w ((w6.setCell ⟨g,0,none⟩ (C bk dx ce)).setCell ⟨g,1,none⟩ (D f9)) [some (w.heap.size,.big x),some (w.heap.size+1,.big y),some (w.heap.size+1+1,.zref),some (g,.big (-((Int.gcd x y:Nat):Int)))]:=DF.putBig (p.o.below ai) (i:=3) J ak;rw[b]at a;rw[b];have q:Hid (DF w V6 [some (w.heap.size,.big x),some (w.heap.size+1,.big y),some (w.heap.size+1+1,.zref),some (g,.big (-((Int.gcd x y:Nat):Int)))]):=Z (a);clear p;clear a b;clear n5 Uc Ud i5 ak ai Um Un;obtain⟨B,t,A⟩:=DY (show(-((Int.gcd x y:Nat):Int))≠0 by have:=MS (x:=x) r.o;omega) (show(-((Int.gcd x y:Nat):Int))=(if y<0 then -((Int.gcd x y:Nat):Int)else((Int.gcd x y:Nat):Int))by rw[BM HL.o]) HG.o.neg;obtain⟨a7,l7,c7,s7,n7,i7⟩:=q.o.big (i:=0) J;obtain⟨Ue,Up⟩:=n7.cp;obtain⟨a8,l8,c8,s8,n8,i8⟩:=q.o.big (i:=3) J;obtain⟨Uh,Ul⟩:=n8.cp;go_upto_region 5 with(go_at_call 127;refine(Gh _ _ x ((-((Int.gcd x y:Nat):Int))) _ i7 i8 B.o (by have:=Qa.o.size;omega) (by have:=A.o.size;omega)).mono ?_;rintro e m ⟨u1,u2,rfl,j,k,f⟩;obtain⟨E,S,N,W,rfl⟩:=Jn.form2 j;obtain⟨I,T,P,X,rfl⟩:=Jn.form2 k)
   have a:=DF.push (DF.push (q.o.below f) (.big (x/(-((Int.gcd x y:Nat):Int)))) j) (.big (x%(-((Int.gcd x y:Nat):Int)))) (Has.alloc (d:=.big (x%(-((Int.gcd x y:Nat):Int)))) k _);simp only[A1]at a;have a:DF w ((m.alloc (F #[C E S N,D W] 47)).alloc (F #[C I T P,D X] 47)) [some (w.heap.size,.big x),some (w.heap.size+1,.big y),some (w.heap.size+1+1,.zref),some (g,.big (-((Int.gcd x y:Nat):Int))),some (m.heap.size,.big (x/(-((Int.gcd x y:Nat):Int)))),some (m.heap.size+1,.big (x%(-((Int.gcd x y:Nat):Int))))]:=a;obtain⟨fe,b⟩:=ex ((m.alloc (F #[C E S N,D W] 47)).alloc (F #[C I T P,D X] 47));obtain⟨B9,c⟩:=ex (m.heap.size);rw[b,c]at a;rw[b];rw[c];obtain⟨B10,l⟩:=ex (B9+1);rw[l]at a ⊢;have o:Hid (DF w fe [some (w.heap.size,.big x),some (w.heap.size+1,.big y),some (w.heap.size+1+1,.zref),some (g,.big (-((Int.gcd x y:Nat):Int))),some (B9,.big (x/(-((Int.gcd x y:Nat):Int)))),some (B10,.big (x%(-((Int.gcd x y:Nat):Int))))]):=Z (a);clear q;clear a b c l;clear n7 Ue Up i7 n8 Uh Ul i8 j k f;obtain⟨fr,ik,gc,ix,dz,ck⟩:=o.o.big (i:=1) J;obtain⟨Qr,Qk⟩:=dz.cp;obtain⟨ft,il,gg,iy,ed,cn⟩:=o.o.big (i:=3) J;obtain⟨Ub,Qz⟩:=ed.cp;go_upto_region 6 with(go_at_call 127;refine(Gh _ _ y ((-((Int.gcd x y:Nat):Int))) _ ck cn B.o (by have:=Qb.o.size;omega) (by have:=A.o.size;omega)).mono ?_;rintro e n ⟨u1,u2,rfl,j,k,f⟩;obtain⟨L,U,Q,ad,rfl⟩:=Jn.form2 j;obtain⟨M,V,R,ae,rfl⟩:=Jn.form2 k)
   have a:=DF.push (DF.push (o.o.below f) (.big (y/(-((Int.gcd x y:Nat):Int)))) j) (.big (y%(-((Int.gcd x y:Nat):Int)))) (Has.alloc (d:=.big (y%(-((Int.gcd x y:Nat):Int)))) k _);simp only[A1]at a;have a:DF w ((n.alloc (F #[C L U Q,D ad] 47)).alloc (F #[C M V R,D ae] 47)) [some (w.heap.size,.big x),some (w.heap.size+1,.big y),some (w.heap.size+1+1,.zref),some (g,.big (-((Int.gcd x y:Nat):Int))),some (B9,.big (x/(-((Int.gcd x y:Nat):Int)))),some (B10,.big (x%(-((Int.gcd x y:Nat):Int)))),some (n.heap.size,.big (y/(-((Int.gcd x y:Nat):Int)))),some (n.heap.size+1,.big (y%(-((Int.gcd x y:Nat):Int))))]:=a;obtain⟨bc,b⟩:=ex ((n.alloc (F #[C L U Q,D ad] 47)).alloc (F #[C M V R,D ae] 47));obtain⟨aq,c⟩:=ex (n.heap.size);rw[b,c]at a;rw[b];rw[c];obtain⟨fc,l⟩:=ex (aq+1);rw[l]at a ⊢;have z:Hid (DF w bc [some (w.heap.size,.big x),some (w.heap.size+1,.big y),some (w.heap.size+1+1,.zref),some (g,.big (-((Int.gcd x y:Nat):Int))),some (B9,.big (x/(-((Int.gcd x y:Nat):Int)))),some (B10,.big (x%(-((Int.gcd x y:Nat):Int)))),some (aq,.big (y/(-((Int.gcd x y:Nat):Int)))),some (fc,.big (y%(-((Int.gcd x y:Nat):Int))))]):=Z (a);clear o;clear a b c l;clear dz Qr Qk ck ed Ub Qz cn j k f;obtain⟨bf,di,bm,et,fk,fg⟩:=z.o.big (i:=4) J;obtain⟨gp,gq⟩:=fk.cp;obtain⟨bg,dj,bn,ew,fl,fh⟩:=z.o.big (i:=6) J;obtain⟨gr,gt⟩:=fl.cp;have am:=z.o.zref (i:=2) J;obtain⟨Qw,Qp,Qg,Qj⟩:=am.cq;obtain⟨gz,ia,ib,ic⟩:=am.fq;have hr:Jv bc (.agg #[C bf di bm,D et,C bg dj bn,D ew]) (TU x y):=Jv.mk (by rw[XK r.o,<-t.o];exact fg) (by rw[XL r.o,<-t.o];exact fh);have Qf:=z.o.ge 2 J;have hB:=z.o.2.2;go_wp2_with fail
   exact BA (v:=.agg #[C bf di bm,D et,C bg dj bn,D ew]) (by simp[results,results92,go_sem,Qw,Qp,Qg,Qj]) J ⟨_,J,hr.put4 am J J J J _ _ _ _,Jo hB Qf _ _ _ _⟩
 . have HL:=Z s;obtain⟨fu,im,gh,iz,ef,co⟩:=p.o.big (i:=1) J;obtain⟨Qx,Qu⟩:=ef.cp;have hs:=Jn.sign co;rw[BE s]at hs;subst hs;clear s;go_upto_region 4 with fail
   clear ef Qx Qu co;obtain⟨B,t,A⟩:=DY (show((Int.gcd x y:Nat):Int)≠0 by have:=MS (x:=x) r.o;omega) (show((Int.gcd x y:Nat):Int)=(if y<0 then -((Int.gcd x y:Nat):Int)else((Int.gcd x y:Nat):Int))by rw[BJ (by have:=HL.o;omega)]) HG.o;obtain⟨fv,io,gi,ja,eh,cy⟩:=p.o.big (i:=0) J;obtain⟨Qh,Ua⟩:=eh.cp;obtain⟨fw,ip,gj,jb,ei,cz⟩:=p.o.big (i:=3) J;obtain⟨Qt,Qo⟩:=ei.cp;go_upto_region 5 with(go_at_call 127;refine(Gh _ _ x (((Int.gcd x y:Nat):Int)) _ cy cz B.o (by have:=Qa.o.size;omega) (by have:=A.o.size;omega)).mono ?_;rintro e m ⟨u1,u2,rfl,j,k,f⟩;obtain⟨E,S,N,W,rfl⟩:=Jn.form2 j;obtain⟨I,T,P,X,rfl⟩:=Jn.form2 k)
   have a:=DF.push (DF.push (p.o.below f) (.big (x/((Int.gcd x y:Nat):Int))) j) (.big (x%((Int.gcd x y:Nat):Int))) (Has.alloc (d:=.big (x%((Int.gcd x y:Nat):Int))) k _);simp only[A1]at a;have a:DF w ((m.alloc (F #[C E S N,D W] 47)).alloc (F #[C I T P,D X] 47)) [some (w.heap.size,.big x),some (w.heap.size+1,.big y),some (w.heap.size+1+1,.zref),some (g,.big (((Int.gcd x y:Nat):Int))),some (m.heap.size,.big (x/((Int.gcd x y:Nat):Int))),some (m.heap.size+1,.big (x%((Int.gcd x y:Nat):Int)))]:=a;obtain⟨ff,b⟩:=ex ((m.alloc (F #[C E S N,D W] 47)).alloc (F #[C I T P,D X] 47));obtain⟨ah,c⟩:=ex (m.heap.size);rw[b,c]at a;rw[b];rw[c];obtain⟨aj,l⟩:=ex (ah+1);rw[l]at a ⊢;have q:Hid (DF w ff [some (w.heap.size,.big x),some (w.heap.size+1,.big y),some (w.heap.size+1+1,.zref),some (g,.big (((Int.gcd x y:Nat):Int))),some (ah,.big (x/((Int.gcd x y:Nat):Int))),some (aj,.big (x%((Int.gcd x y:Nat):Int)))]):=Z (a);clear p;clear a b c l;clear eh Qh Ua cy ei Qt Qo cz j k f;obtain⟨fx,iq,gk,jc,en,de⟩:=q.o.big (i:=1) J;obtain⟨Qn,Qq⟩:=en.cp;obtain⟨fy,ir,gl,jd,er,dh⟩:=q.o.big (i:=3) J;obtain⟨Qy,Qs⟩:=er.cp;go_upto_region 6 with(go_at_call 127;refine(Gh _ _ y (((Int.gcd x y:Nat):Int)) _ de dh B.o (by have:=Qb.o.size;omega) (by have:=A.o.size;omega)).mono ?_;rintro e n ⟨u1,u2,rfl,j,k,f⟩;obtain⟨L,U,Q,ad,rfl⟩:=Jn.form2 j;obtain⟨M,V,R,ae,rfl⟩:=Jn.form2 k)
   have a:=DF.push (DF.push (q.o.below f) (.big (y/((Int.gcd x y:Nat):Int))) j) (.big (y%((Int.gcd x y:Nat):Int))) (Has.alloc (d:=.big (y%((Int.gcd x y:Nat):Int))) k _);simp only[A1]at a;have a:DF w ((n.alloc (F #[C L U Q,D ad] 47)).alloc (F #[C M V R,D ae] 47)) [some (w.heap.size,.big x),some (w.heap.size+1,.big y),some (w.heap.size+1+1,.zref),some (g,.big (((Int.gcd x y:Nat):Int))),some (ah,.big (x/((Int.gcd x y:Nat):Int))),some (aj,.big (x%((Int.gcd x y:Nat):Int))),some (n.heap.size,.big (y/((Int.gcd x y:Nat):Int))),some (n.heap.size+1,.big (y%((Int.gcd x y:Nat):Int)))]:=a;obtain⟨bd,b⟩:=ex ((n.alloc (F #[C L U Q,D ad] 47)).alloc (F #[C M V R,D ae] 47));obtain⟨ay,c⟩:=ex (n.heap.size);rw[b,c]at a;rw[b];rw[c];obtain⟨fd,l⟩:=ex (ay+1);rw[l]at a ⊢;have o:Hid (DF w bd [some (w.heap.size,.big x),some (w.heap.size+1,.big y),some (w.heap.size+1+1,.zref),some (g,.big (((Int.gcd x y:Nat):Int))),some (ah,.big (x/((Int.gcd x y:Nat):Int))),some (aj,.big (x%((Int.gcd x y:Nat):Int))),some (ay,.big (y/((Int.gcd x y:Nat):Int))),some (fd,.big (y%((Int.gcd x y:Nat):Int)))]):=Z (a);clear q;clear a b c l;clear en Qn Qq de er Qy Qs dh j k f;obtain⟨bh,dt,bt,f6,fm,fi⟩:=o.o.big (i:=4) J;obtain⟨gu,gv⟩:=fm.cp;obtain⟨bi,du,bu,f7,fo,fj⟩:=o.o.big (i:=6) J;obtain⟨gw,gy⟩:=fo.cp;have an:=o.o.zref (i:=2) J;obtain⟨Qv,Ql,Qi,Qm⟩:=an.cq;obtain⟨ie,ig,ii,ij⟩:=an.fq;have hr:Jv bd (.agg #[C bh dt bt,D f6,C bi du bu,D f7]) (TU x y):=Jv.mk (by rw[XK r.o,<-t.o];exact fi) (by rw[XL r.o,<-t.o];exact fj);have Qf:=o.o.ge 2 J;have hB:=o.o.2.2;go_wp2_with fail
   exact BA (v:=.agg #[C bh dt bt,D f6,C bi du bu,D f7]) (by simp[results,results92,go_sem,Qv,Ql,Qi,Qm]) J ⟨_,J,hr.put4 an J J J J _ _ _ _,Jo hB Qf _ _ _ _⟩
def Iw(g:K)(q:Rat)(w:G)(b:Jv w g q):
 Calls H 56 #[g] w λe o=>e=.returned (.int .i64 q.num.sign)/\Bl w o:=by
 obtain⟨n,c⟩:=ex (q.num.sign);rw[c];have j:=Z c;clear c;obtain⟨r,M,u,Q,t,I,v,S,rfl⟩:=Jv.form b;obtain⟨W0,d,f⟩:=EC 49 (.ref q) b;clear b;go_enter func56,ntmps56
 go_upto_region 1 with fail
 rw[d.o];clear d;obtain⟨p,L,c1,P,s,E,d1,R,m,N,l,B⟩:=f.o.ref (i:=0) J;obtain⟨x,y,z,A⟩:=m.cq;have a:=Z (MR _ q.num W0 l);rw[j.o]at a;go_wp2_with(go_at_call 98;refine a.o.mono ?_;clear a;rintro e T ⟨rfl,k⟩)
 go_ret;exact⟨J,Bt f.o.2.2 k⟩
def XG(n:Int)(r:-9223372036854775808<=n)(s:n<=9223372036854775807)(w:G):
 Calls H 62 #[.int .i64 n] w λe I=>∃u,e=.returned u/\Jv I u (n:Rat)/\Bl w I:=by
 have d:=Z λ(V:G)=>FA n r s V;clear r s;obtain⟨W0,f,c⟩:=EC 49 (.zref) J;go_enter func62,ntmps62
 go_upto_region 1 with fail
 rw[f.o];clear f;have a:=c.o.zref (i:=0) J;obtain⟨l,g,j,k⟩:=a.cq;obtain⟨M,N,Q,P⟩:=a.fq;go_wp2_with(first
  |(go_at_call 93;refine(d.o _).mono ?_;clear d;rintro e W ⟨u1,rfl,x,S⟩;obtain⟨m,z,p,B,rfl⟩:=Jn.form2 x)
  |(go_at_call 93;refine(FA 1 O O _).mono ?_;rintro e U ⟨u2,rfl,y,t⟩;obtain⟨o,A,q,E,rfl⟩:=Jn.form2 y;have b:=Bt S t;obtain⟨l,g,j,k⟩:=(a.below b).cq;obtain⟨M,N,Q,P⟩:=(a.below b).fq))
 have T:Jv U (.agg #[C m z p,D B,C o A q,D E]) (n:Rat):=Jv.mk (x.below t) y;have R:=Bt c.o.2.2 b;have L:=c.o.ge 0 J;exact BA (v:=.agg #[C m z p,D B,C o A q,D E]) (by simp[results,results62,go_sem,l,g,j,k]) J ⟨_,J,T.put4 (a.below b) J J J J _ _ _ _,Jo R L _ _ _ _⟩
end
section
variable{qs:X}
def RowK.formsF{W:G}{a:TR}{l cap:Nat}(h:RowK false W (C a l cap) qs):l=qs.length/\l<=cap/\cap<=9223372036854775807/\l<=1099511627776/\∃(s t:Nat->Bool) (k m:Nat->TR) (p n o dd:Nat->Nat),∀j,j<l->Jv W (.agg #[C (k j) (p j) (n j),D (s j),C (m j) (o j) (dd j),D (t j)]) (cf qs j)/\
 ∃b,a=some ⟨b,0,none⟩/\b<W.heap.size/\W.cell? ⟨b,j*4,none⟩=some (C (k j) (p j) (n j))/\W.cell? ⟨b,j*4+1,none⟩=some (D (s j))/\W.cell? ⟨b,j*4+2,none⟩=some (C (m j) (o j) (dd j))/\W.cell? ⟨b,j*4+3,none⟩=some (D (t j)):=by
 obtain⟨r,v,w,A,x,y,z,u,E⟩:=h.pick;refine⟨r,v,w,A,λj=>Gc (y j),λj=>Gc (u j),λj=>Gd (x j),λj=>Gd (z j),λj=>EW (x j),λj=>Ge (x j),λj=>EW (z j),λj=>Ge (z j),λj I=>?_⟩;obtain⟨i,b,q,B,c0,c1,c2,c3⟩:=E j I;obtain⟨L,Q,c',s,M,P,N,t,e,_⟩:=(show Jv W _ _ from i);simp only[B3,C6,C1,and_true]at e;obtain⟨c,d,f,g⟩:=e;rw[c,d,f,g]at i;rw[c]at c0;rw[d]at c1;rw[f]at c2;rw[g]at c3;dsimp only;rw[c,d,f,g];exact⟨i,b,q,B,c0,c1,c2,c3⟩
def sign_zero(q:Rat):(q.num.sign==0)=decide (q=0):=by
 rw[Ce,beq_iff_eq,Bd,Int.sign_eq_zero_iff_zero,Rat.num_eq_zero]
def MT{len k:Nat}(hl:len=qs.length)(c:k<=len)(a:∀j,k<=j->cf qs j=0)(b:k=0\/cf qs (k-1)≠0):JE qs=qs.take k/\(JE qs).length=k:=by
 have e:=KA (p:=qs) (n:=k) O b a;exact⟨e,by rw[e,Ae];omega⟩
def Rq(a:TR)(len cap:Nat)(qs:List Rat)(w:G)(h:RowK false w (C a len cap) qs):
 Calls H 23 #[C a len cap] w λe N=>e=.returned (C a (JE qs).length cap)/\RowK false N (C a (JE qs).length cap) (JE qs)/\Bl w N:=by
 obtain⟨hl,W,X,ad,s,t,T,U,ll,V,kk,dd,A⟩:=h.formsF;obtain⟨o,P,x⟩:=DY hl A h;clear A hl h;go_enter func23,ntmps23
 go_wp2;go_loopw [3] (λv wr=>∃k:Nat,k<=len/\v=.int .i64 (k:Int)/\Hid ((∀j,k<=j->cf qs j=0)/\Bl w wr)) λv _=>(intOf v).toNat
 case atStart=>exact⟨len,Aa _,J,Z ⟨λj Q=>Ed (by have:=o.o;omega),BB _ _⟩⟩
 case round=>
  obtain⟨k,hk,rfl,c⟩:=hrel;cases k with
  |zero=>
   go_wp2;go_ret;obtain⟨r,g⟩:=MT o.o (k:=0) (AH _) c.o.1 (Al J);refine⟨by rw[g];rfl,?_,c.o.2⟩;rw[g,r];exact(x.o.below c.o.2).take O
  |succ k=>
   obtain⟨B,b,rfl,l,E,I,L,M⟩:=P.o k O;have d:=c.o.2;have y:=Z (B.below d);replace E:=(d.cell (p:=⟨b,_,none⟩) l).trans E;replace I:=(d.cell (p:=⟨b,_,none⟩) l).trans I;replace L:=(d.cell (p:=⟨b,_,none⟩) l).trans L;replace M:=(d.cell (p:=⟨b,_,none⟩) l).trans M;have i:=Z (Iw _ _ wr y.o);have m:=sign_zero (cf qs k);clear B d y;by_cases f:cf qs k=0
   . rw[show decide (cf qs k=0)=true from BG f]at m;have q:=Z f;clear f;generalize (cf qs k).num.sign=n at i m;go_wp2_with(go_at_call 56;refine i.o.mono ?_;rintro e S ⟨rfl,u⟩)
     go_roundw
     case rel=>
      refine⟨k,O,sp,Z ⟨λj Q=>?_,Bt c.o.2 u⟩⟩;by_cases R:j=k
      . rw[R];exact q.o
      . exact c.o.1 j O
     case measure=>simp[intOf]
   . rw[show decide (cf qs k=0)=false from BE f]at m;have q:=Z f;clear f;generalize (cf qs k).num.sign=n at i m;go_wp2_with(go_at_call 56;refine i.o.mono ?_;rintro e S ⟨rfl,u⟩)
     go_ret;have z:=Bt c.o.2 u;obtain⟨r,g⟩:=MT o.o (k:=k+1) O c.o.1 (Au q.o);refine⟨by rw[g];rfl,?_,z⟩;rw[g,r];exact(x.o.below z).take O
def Rr(v:K)(qs:X)(w:G)(h:RowK false w v qs):
 Calls H 23 #[v] w λe b=>∃u,e=.returned u/\RowK false b u (JE qs)/\Bl w b:=by
 obtain⟨a,l,c,rfl⟩:=h.form;refine(Rq a l c qs w h).mono ?_;rintro e b ⟨rfl,d,f⟩;exact⟨_,J,d,f⟩
def ES(f:Nat->Rat)(k:Nat):X:=(List.range k).map f
def Y0(f:Nat->Rat)(k:Nat):(ES f k).length=k:=by simp[ES]
def Gi(f:Nat->Rat)(k:Nat):ES f (k+1)=ES f k++[f k]:=by simp[ES,List.range_succ]
def Rs(f:Nat->Rat)(k i:Nat):cf (ES f k) i=if i<k then f i else 0:=M8 k f i
def Ix(r:Bool)(W0:G)(V:G)(o:K)(qs:X):Prop:=Yw r W0.heap.size V o qs/\Bl W0 V
def Ix.below{r:Bool}{W0 V V':G}{o:K}{qs:X}(h:Ix r W0 V o qs)(a:Bl V V'):Ix r W0 V' o qs:=⟨h.1.below a,Bt h.2 a⟩
def DU(W:G)(R:Nat)(s:ByteArray)(I E A:Int):Prop:=W.heap[R]?=some (F #[.string s,.int .i64 I,.int .i64 E,.int .i64 A] 82 (0,0))
section
variable {W W':World} {R:Nat} {s:ByteArray} {I E A:Int}
def DU.lt(h:DU W R s I E A):R<W.heap.size:=(Ab.1 h).1
def DU.c0(h:DU W R s I E A):W.cell? ⟨R,0,none⟩=some (.string s):=by simp[World.cell?,show W.heap[R]?=_ from h]
def DU.c1(h:DU W R s I E A):W.cell? ⟨R,1,none⟩=some (.int .i64 I):=by simp[World.cell?,show W.heap[R]?=_ from h]
def DU.cp(h:DU W R s I E A):type_of% (And.intro h.c0 h.c1):=⟨h.c0,h.c1⟩
def DU.c2(h:DU W R s I E A):W.cell? ⟨R,2,none⟩=some (.int .i64 E):=by simp[World.cell?,show W.heap[R]?=_ from h]
def DU.c3(h:DU W R s I E A):W.cell? ⟨R,3,none⟩=some (.int .i64 A):=by simp[World.cell?,show W.heap[R]?=_ from h]
def DU.cq(h:DU W R s I E A):type_of% (And.intro h.c0 (And.intro h.c1 (And.intro h.c2 h.c3))):=⟨h.c0,h.c1,h.c2,h.c3⟩
def DU.f(h:DU W R s I E A)(o:Nat):W.frozen? ⟨R,o,none⟩=false:=by simp[World.frozen?,show W.heap[R]?=_ from h]
def DU.below(h:DU W R s I E A)(a:Bl W W'):DU W' R s I E A:=(a.block R h.lt).trans h
def DU.set1(h:DU W R s I E A)(x:Int):DU (W.setCell ⟨R,1,none⟩ (.int .i64 x)) R s x E A:=by
 have:=JI (o:=1) h (.int .i64 x);exact this
def DU.set2(h:DU W R s I E A)(x:Int):DU (W.setCell ⟨R,2,none⟩ (.int .i64 x)) R s I x A:=by
 have:=JI (o:=2) h (.int .i64 x);exact this
def DU.set3(h:DU W R s I E A)(x:Int):DU (W.setCell ⟨R,3,none⟩ (.int .i64 x)) R s I E x:=by
 have:=JI (o:=3) h (.int .i64 x);exact this
def DU.drewN(h:DU W R s I E A)(n:Nat):DU (W.drewN n) R s I E A:=h
end
variable{j:Nat}
def JY(W:G)(n:Nat)(r:Option Nat):W.grownBy (W.drewN n) r:=⟨J,J,J,Aa _,λ_ _ _=>rfl⟩
theorem MU{c d:UInt8}(h:c≠d):((c.toNat:Int)==(d.toNat:Int))=false:=by
 rw[BH];intro e;exact h (Cy.1 O)
theorem Jq(s:ByteArray):(Jd s).length=s.size:=by unfold Jd;simp
def MV{f:UInt8->Bool}{s:ByteArray}{I:Nat}(d:I<=j)(e:j<=s.size)(g:∀k (a:k<s.size),I<=k->k<j->f s[k]=true)(i:∀l:j<s.size,f s[j]=false):Yu f (Jd s) I=j:=
 F5 d (by rw[Jq];exact e) (λk a b c=>g k (by rwa[Jq]at a) b c) λa=>i (by rwa[Jq]at a)
def Rt{s:ByteArray}{c:UInt8}(a:j<s.size):YR (Jd s) j c=(s[j]==c):=by
 unfold YR;rw[Ak (by rw[Jq];exact a)];rfl
def Ru{s:ByteArray}{c:UInt8}(a:s.size<=j):YR (Jd s) j c=false:=by
 unfold YR;rw[AJ (by rw[Jq];exact a)];rfl
def FM(W:G)(R:Nat):Nat:=(intOf ((W.cell? ⟨R,1,none⟩).getD undef)).toNat
end
section
variable{l:List UInt8}{d n p:Nat}
def MW(h:l.all DK=true):num l<10^l.length:=by
 have:=JS (F2 h);rwa[Xx]at this
def Xu(l:List UInt8)(p d n:Nat):Prop:=p+d<=l.length/\((l.drop p).take d).all DK=true/\n=num ((l.drop p).take (min 12 d))
theorem Xu.zero(h:p<=l.length):Xu l p 0 0:=⟨O,sp,by simp[num,Da,val]⟩
def MX(l:List UInt8)(p d:Nat)(h:p+d<l.length):(l.drop p).take (d+1)=(l.drop p).take d++[l[p+d]]:=by
 rw[AG (by rw[A5];omega),List.getElem_drop]
def Xu.all{l:List UInt8}{p d n:Nat}(h:Xu l p d n)(hl:p+d<l.length)(a:DK l[p+d]=true):((l.drop p).take (d+1)).all DK=true:=by
 rw[MX l p d hl,CR,h.2.1];simp[a]
def Xu.next1(h:Xu l p d n)(hl:p+d<l.length)(a:DK l[p+d]=true)(b:d<12):Xu l p (d+1) (10*n+(l[p+d].toNat-48)):=by
 refine⟨O,h.all hl a,?_⟩;rw[show min 12 (d+1)=d+1 from by omega,MX l p d hl,F1,h.2.2,show min 12 d=d from by omega];omega
def Xu.next2(h:Xu l p d n)(hl:p+d<l.length)(a:DK l[p+d]=true)(b:12<=d):Xu l p (d+1) n:=by
 refine⟨O,h.all hl a,?_⟩;rw[show min 12 (d+1)=min 12 d from by omega];exact h.2.2
def Xu.lt(h:Xu l p d n):n<10^min 12 d:=by
 have e:((l.drop p).take (min 12 d)).all DK=true:=by
  rw[Ay];intro c b;refine Ay.1 h.2.1 c ?_;rw[show(l.drop p).take (min 12 d)=((l.drop p).take d).take (min 12 d)from by rw[List.take_take];congr 1;omega]at b;exact CW b
 have a:=MW e;rw[Ae,A5,<-h.2.2]at a;have:=h.1;rwa[show min (min 12 d) (l.length-p)=min 12 d from by omega]at a
def Xu.dg(h:Xu l p d n)(a:∀hl:p+d<l.length,DK l[p+d]=false):Dt l p=p+d:=by
 refine F5 O h.1 (λk e b c=>?_) a;have:=Ay.1 h.2.1 (l[k]) ?_
 . exact this
 . rw[List.mem_iff_getElem];refine⟨k-p,by rw[Ae,A5];omega,?_⟩;rw[List.getElem_take,List.getElem_drop];congr 1;omega
def Eb{α:Type}(r:Rd α)(E:Int):Int:=if E=0 then(match r with|.error e _=>(e:Int)|.ok _ _=>0)else E
def Ew{α:Type}(r:Rd α)(E A:Int):Int:=if E=0 then(match r with|.error _ p=>(p:Int)|.ok _ _=>A)else A
end
section
def Rd.pos{α:Type}(r:Rd α):Prop:=∀e p,r=.error e p->e≠0
variable{l:List UInt8}{j:Nat}
theorem Gj{α:Type}{r:Rd α}{a:α}{k:Nat}(h:r=.ok a k)(E A:Int):Eb r E=E/\Ew r E A=A:=by
 grind[Eb,Ew]
def Rv{α:Type}{r:Rd α}{e p:Nat}(h:r=.error e p)(A:Int):Eb r 0=(e:Int)/\Ew r 0 A=(p:Int):=by
 subst h;exact⟨J,J⟩
def Ft{α:Type}(r:Rd α){E:Int}(h:E≠0)(A:Int):Eb r E=E/\Ew r E A=A:=by
 unfold Eb Ew;omega
def Rw{α:Type}{r:Rd α}(hp:r.pos){E:Int}(h:Eb r E=0):E=0/\∃a k,r=.ok a k:=by
 by_cases b:E=0
 . refine⟨b,?_⟩;cases r with
   |ok a k=>exact⟨a,k,J⟩
   |error e p=>
    exfalso
    rw[b,(Rv J 0).1]at h;exact hp e p J O
 . rw[(Ft r b 0).1]at h;exact absurd h b
theorem MY(l:List UInt8)(i:Nat):(Y7 l i).pos:=by
 intro e p h;grind[Y7]
theorem Rx(l:List UInt8)(i:Nat):(YA l i).pos:=by
 intro e p h;unfold YA at h;split at h
 . rename_i b c a;cases h;exact MY l i _ _ a
 . split at h
   . split at h
     . rename_i b c a;cases h;exact MY _ _ _ _ a
     grind
   . cases h
theorem Iy(l:List UInt8)(i:Nat):DJ l (DJ l i)=DJ l i:=NZ _ l i
def EM(l:List UInt8)(i:Nat):Rd Rat:=if YR l (DJ l i) 120 then .ok 1 (DJ l i)else YA l i
def Ry(l:List UInt8)(i:Nat):(EM l i).pos:=by
 unfold EM;split
 . intro e p h;cases h
 . exact Rx l i
theorem MZ(h:D4 l j=false):Dt l j=j:=by
 rcases Az j l.length with a|a
 . refine F5 (Aa _) O (λk _ b c=>by omega) λd=>?_;grind[D4]
 . unfold Dt Yu;rw[At a];rfl
theorem Rz(h:D4 l j=true):YR l j 120=false:=by
 unfold D4 at h;unfold YR;cases b:l[j]? with
 |none=>rfl
 |some c=>
  rw[b]at h;simp only[Option.map_some,CZ]at h;have a:=JU h;rw[BH];intro e;cases e;simp at a
theorem Ma(l:List UInt8)(i:Nat):Yh l i=match EM l i with
 |.error e p=>.error e p
 |.ok c k=>if YR l (DJ l k) 120 then(match Dy l (DJ l k+1)with|.error e p=>.error e p|.ok n m=>.ok (c,n) m)else .ok (c,0) (DJ l k):=by
 unfold Yh EM;grind[Rz,YA,Iy,Y7,MZ]
section
variable {W W':World} {R:Nat} {s:ByteArray} {I E A:Int}
variable{v:K}
theorem Gk(h:DU W R s I E A){cs:Array K}{t:TypeId}{m:Nat × Nat}{b:Nat}(a:W.heap[b]?=some (F cs t m))(c:t≠82):b≠R:=by
 intro e;subst e;have:=a.symm.trans h;grind
theorem Mb(h:DU W R s I E A)(hg:W.grownBy W' (some R)):∀k v ds,Row k W v ds->Row k W' v ds:=by
 intro k v ds c;obtain⟨a,cap,e,_⟩:=id c;subst e;refine c.grown hg λp f hl=>?_;obtain⟨b,i,d,cs,m,g⟩:=c.typ hl;grind[Gk]
def Jv.rd{q:Rat}(a:Jv W v q)(h:DU W R s I E A)(hg:W.grownBy W' (some R)):Jv W' v q:=Dd.keep (r:=false) a (Mb h hg)
theorem RowK.rd{qs:X}(l:RowK false W v qs)(h:DU W R s I E A)(hg:W.grownBy W' (some R)):RowK false W' v qs:=by
 obtain⟨a,cap,e,g,i,j,c⟩:=l;refine⟨a,cap,e,g,i,j,?_⟩;rcases c with c|⟨b,f,d⟩
 . exact Al c
 . refine Au ⟨b,f,d.keep (hg.block b d.lt ?_) (Mb h hg)⟩;obtain⟨cs,k,_⟩:=d;have:=Gk h k (by show(49:TypeId)≠_;decide);grind
end
def EG(w V:G)(R B:Nat)(s:ByteArray)(I E A:Int)(c:Rat):Prop:=
 DU V R s I E A/\(∃a l e f b k d t,JA V B 49 (C a l e) (D f) (C b k d) (D t)/\Jv V (.agg #[C a l e,D f,C b k d,D t]) c)/\w.grownBy V (some R)/\w.heap.size<=B
section
variable {w V V':World} {R B:Nat} {s:ByteArray} {I E A I' E' A':Int} {c:Rat}
def EG.below(h:EG w V R B s I E A c)(e:Bl V V'):EG w V' R B s I E A c:=by
 obtain⟨g,⟨a,l,f,o,b,k,d,t,i,j⟩,m,n⟩:=h;exact⟨g.below e,⟨a,l,f,o,b,k,d,t,i.below e,j.below e⟩,Je m (JJ e _),n⟩
def EG.rd(h:EG w V R B s I E A c)(p:DU V' R s I' E' A')(hg:V.grownBy V' (some R)):EG w V' R B s I' E' A' c:=by
 obtain⟨g,⟨a,l,j,q,b,k,d,t,f,m⟩,n,o⟩:=h;have i:B≠R:=Gk g f DI;exact⟨p,⟨a,l,j,q,b,k,d,t,(hg.block B f.lt λe=>i (AP e)).trans f,m.rd g hg⟩,Je n hg,o⟩
def JR{w V:G}{r:Option Nat}{B:Nat}(h:w.grownBy V r)(s:w.heap.size<=B)(o:Nat)(x:K):w.grownBy (V.setCell ⟨B,o,none⟩ x) r:=by
 have n:=JB V B o x;obtain⟨a,b,c,d,f⟩:=h;obtain⟨g,j,k,l,m⟩:=n;exact⟨g.trans a,j.trans b,k.trans c,AM d l,λi p q=>(m i O (by intro e;cases e;omega)).trans (f i p q)⟩
def EG.put(h:EG w V R B s I E A c){a:TR}{l j:Nat}{m:Bool}{b:TR}{k d:Nat}{t:Bool}{c':Rat}(x:Jv V (.agg #[C a l j,D m,C b k d,D t]) c'):
 EG w (put4 V B (C a l j) (D m) (C b k d) (D t)) R B s I E A c':=by
 obtain⟨o,⟨y,N,z,P,b0,M,d0,Q,n,L⟩,v,f⟩:=h;have i:R≠B:=λe=>Gk o n DI e.symm;refine⟨?_,⟨a,l,j,m,b,k,d,t,n.put _ _ _ _,Dd.keep (r:=false) x λ_ _ _ g=>Row.put4 g n J J J J _ _ _ _⟩,JR (JR (JR (JR v f 0 _) f 1 _) f 2 _) f 3 _,f⟩;have p:=(BF V ⟨B,0,none⟩ (C a l j) R i).trans o;have q:=(BF _ ⟨B,1,none⟩ (D m) R i).trans p;have u:=(BF _ ⟨B,2,none⟩ (C b k d) R i).trans q;exact(BF _ ⟨B,3,none⟩ (D t) R i).trans u
end
end
variable{b:Int}{l:List UInt8}{a n:Nat}
def Sok.word(h:n<1000000000000):Sok (n:Int):=Sok.of (k:=1) (by unfold Sm Y;omega) O
def ET(c:Rat):Prop:=∃x y:Nat,c=TU (x:Int) (y:Int)/\x<1000000000000/\y≠0/\y<1000000000000
theorem ET.one:ET 1:=⟨1,1,DI,O,O,O⟩
def Gl(l:List UInt8)(I:Nat)(E A:Int)(c:Rat)(a:Nat)(d b:Int):Prop:=
 d=Eb (EM l I) E/\b=Ew (EM l I) E A/\ET c/\a<=l.length/\(E=0->∀c0 k,EM l I=.ok c0 k->c=c0/\a=k)
def R0(n:Nat):TU (n:Int) 1=((n:Int):Rat):=by
 rw[<-CQ ((n:Int):Rat)];simp
def Fu(l:List UInt8)(I:Nat)(E A:Int)(c:Rat)(n I':Nat)(E' A':Int):Prop:=
 E'=Eb (Yh l I) E/\A'=Ew (Yh l I) E A/\(E=0->∀c0 a k,Yh l I=.ok (c0,a) k->c=c0/\n=a/\I'=k)
theorem Gl.zero{I:Nat}{E A:Int}{c:Rat}{e:Int}(h:Gl l I E A c a b e)(i:b=0):E=0/\e=A/\EM l I=.ok c a:=by
 have f:=h.1;rw[i]at f;obtain⟨g,c0,k,d⟩:=Rw (Ry l I) f.symm;obtain⟨rfl,rfl⟩:=h.2.2.2.2 g c0 k d;exact⟨g,h.2.1.trans (Gj d E A).2,d⟩
def Gl.set{I:Nat}{E A:Int}{c:Rat}{m:Int}(h:Gl l I E A c a b m)(q:b≠0)(n I':Nat):Fu l I E A c n I' b m:=by
 by_cases d:E=0
 . subst d;cases i:EM l I with
   |ok c0 k=>
    have:=h.1;rw[i,(Gj J 0 A).1]at this;exact absurd this q
   |error e p=>
    have j:Yh l I=.error e p:=by rw[Ma,i]
    have f:=h.1;have g:=h.2.1;rw[i]at f g;exact⟨by rw[j];exact f,by rw[j];exact g,λ_ c0 r k o=>by rw[j]at o;cases o⟩
 . have f:=h.1;have g:=h.2.1;rw[(Ft _ d A).1]at f;rw[(Ft _ d A).2]at g;exact⟨by rw[(Ft _ d A).1];exact f,by rw[(Ft _ d A).2];exact g,λh=>absurd h d⟩
theorem Fu.of{I:Nat}{A:Int}{c:Rat}{I':Nat}(h:Yh l I=.ok (c,n) I'):Fu l I 0 A c n I' 0 A:=by
 refine⟨by rw[(Gj h 0 A).1],by rw[(Gj h 0 A).2],λ_ c0 b k a=>?_⟩;rw[h]at a;cases a;exact⟨J,J,J⟩
def Fu.bad{I:Nat}{A:Int}{e p:Nat}(c:Rat)(n I':Nat)(h:Yh l I=.error e p):Fu l I 0 A c n I' e p:=by
 exact⟨by rw[h];rfl,by rw[h];rfl,λ_ c0 b k a=>by rw[h]at a;cases a⟩
def EG.new{w e:G}{R:Nat}{s:ByteArray}{I E A:Int}{c:Rat}(h:DU w R s I E A)(j:Bl w e){a:TR}{l f:Nat}{g:Bool}{b:TR}{k d:Nat}{t:Bool}(m:Jv e (.agg #[C a l f,D g,C b k d,D t]) c):
 EG w (e.alloc (F #[C a l f,D g,C b k d,D t] 49)) R e.heap.size s I E A c:=by
 have i:Bl e (e.alloc (F #[C a l f,D g,C b k d,D t] 49)):=Ba e _;exact⟨(h.below j).below i,⟨a,l,f,g,b,k,d,t,JA.new _ _ _ _ _ _,m.below i⟩,Je (JJ j _) (JJ i _),j.size⟩

