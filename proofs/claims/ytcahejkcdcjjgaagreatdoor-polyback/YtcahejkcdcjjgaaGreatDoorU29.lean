import Derived.Test.YtcahejkcdcjjgaaGreatDoorU28
import Derived.Test.YtcahejkcdcjjgaaGreatDoorU25
set_option linter.all false
open Go.Value renaming slice->C,bool->F,int->N
open Go.Obj renaming cells->G
open Go renaming World->H,Value->M,Calls->Q
open Go.Proofs.Tryz renaming prog->L
open Go.IntKind renaming i64->P
set_option maxRecDepth 99999
set_option maxHeartbeats 0
namespace Go.Proofs.YtcahejkcdcjjgaaGreatDoor
open Rat renaming divInt->Te
open Proofs.Tryz
open Go.RowKit Go.Shelf
attribute [local go_sem] Oper.semAt_some
section
def Mc(W:H):M->Nat
 |C (some p) l _=>val 10000 ((List.range l).map λj=>El W ⟨p.block,p.off+j,none⟩)
 |_=>0
variable{l n:Nat}{a:Tb}
def RN.rowVal{W:H}{c:Nat}(h:RN W (C a l c) n):Mc W (C a l c)=n:=by
 obtain⟨f,_,_,_,g⟩:=Jm h;rcases AE l with d|d
 . subst d;have o:n=0:=(Jw Y).1 (Ai f.symm);subst o;cases a<;>rfl
 . obtain⟨b,i,rfl,_,_⟩:=g 0 d;show val 10000 ((List.range l).map λj=>El W ⟨b,i+j,none⟩)=n;have e:(List.range l).map (λj=>El W ⟨b,i+j,none⟩)=Jb 10000 n:=by
    refine List.ext_getElem (by rw[List.length_map,List.length_range];exact f) λj q k=>?_;obtain⟨p,r,e,_,m⟩:=g j Y;cases e;rw[List.getElem_map,List.getElem_range,El,m,Aj k];rfl
   rw[e,Jj Y]
def Md{m:Nat}(h:n<=m):(Jb 10000 n).length<=(Jb 10000 m).length:=by
 rcases AH (Jb 10000 m).length (Jb 10000 n).length with a|a
 . have:=Ye Y a;omega
 . exact a
def Ru(q vb:M)(x y:Int)(w:H)(ha:Jo w q x)(hb:Jo w vb y)(ah:DY x<=100000000000)(ai:DY y<=100000000000):
 Q L 125 #[q,vb] w λe w'=>∃u,e=.returned u/\Jo w' u (Int.gcd x y:Nat)/\Bl w w':=by
 obtain⟨a,k,n,rfl,B⟩:=ha;obtain⟨b,lb,o,rfl,D⟩:=hb;obtain⟨s,hs⟩:=ex (decide (x<0));obtain⟨t,ht⟩:=ex (decide (y<0));rw[hs,ht];clear hs ht;obtain⟨W0,i⟩:=ex (((w.alloc (G #[C a k n,F s] 47)).alloc (G #[C b lb o,F t] 47)).alloc (G #[C none 0 0,F false] 47));have r:Bl w W0:=by rw[<-i];exact Xt w _ _ _
 have b0:Jg W0 w.heap.size 47 (C a k n) (F s):=by rw[<-i];exact((Jg.new w _ _ _).alloc _).alloc _
 have b1:Jg W0 (w.heap.size+1) 47 (C b lb o) (F t):=by
  have h:=(Jg.new (w.alloc (G #[C a k n,F s] 47)) 47 (C b lb o) (F t)).alloc (G #[C none 0 0,F false] 47);rw[A1,i]at h;exact h
 have bR:Jg W0 (w.heap.size+1+1) 47 (C none 0 0) (F false):=by
  have h:=Jg.new ((w.alloc (G #[C a k n,F s] 47)).alloc (G #[C b lb o,F t] 47)) 47 (C none 0 0) (F false);rw[A1,A1,i]at h;exact h
 have r0:=RN.below B r;have r1:=RN.below D r;have k0:=b0.c0;have k2:=b1.c0;have S:k<=100000000000:=by rw[RN.len B];exact ah
 have U:lb<=100000000000:=by rw[RN.len D];exact ai
 have R:=Ja i;clear i B D ah ai;go_enter func125,ntmps125
 go_upto_region 1 with fail
 rw[R.o];clear R;go_wp2_with fail
 go_loopw [5,6] (λxv E wr=>∃(f:Tb) (d c0 X:Nat) (m:Tb) (g c1 c:Nat),xv=C f d c0/\E=C m g c1/\Hid (RN wr (C f d c0) X)/\Hid (RN wr (C m g c1) c)/\Hid (Nat.gcd X c=Int.gcd x y)/\(d<=100000000000/\g<=100000000000)/\Bl W0 wr)
  (λ_ E wr=>Mc wr E)
 case atStart=>exact⟨a,k,n,x.natAbs,b,lb,o,y.natAbs,J,J,Ja r0,Ja r1,Ja J,⟨S,U⟩,BB _ W0⟩
 case round=>
  clear r0 r1 S U;obtain⟨f,d,c0,X,m,g,c1,c,rfl,rfl,hX,j,W,⟨aj,ae⟩,z⟩:=hrel;rcases AE g with V|V
  . subst V;have T:c=0:=(Jw Y).1 (Ai (RN.len j.o).symm);have HE:=Ja (show X=Int.gcd x y by rw[<-W.o,T,Nat.gcd_zero_right]);have l:=bR.below z;obtain⟨q0,q1⟩:=l.cp;obtain⟨f0,f1⟩:=l.fp;clear T;go_wp2_with fail
    have I:=(FX hX.o).box l J J (x0:=C f d c0) (x1:=F false);rw[HE.o]at I;have Qj:=Bt r z;have z0:=((l.set0 (C f d c0)).set1 (F false)).c0;have z1:=((l.set0 (C f d c0)).set1 (F false)).c1;exact BA (by simp[results,results125,go_sem,z0,z1]) J ⟨_,J,I,(Qj.setCell (p:=⟨_,0,none⟩) so _).setCell (p:=⟨_,1,none⟩) so _⟩
  . have Qi:c≠0:=λe=>by
     have h:=RN.len j.o;rw[e,Jy]at h;simp at h;omega
    have Qk:=Ja (Mb f d c0 m g c1 X c wr hX.o j.o Qi aj ae);have K:=AJ X (show c>0 by omega);go_wp2_with(go_at_call 157;refine Qk.o.mono ?_;rintro e w2 ⟨u,v,rfl,hu,A,ad⟩;obtain⟨ua,uc,rfl⟩:=RN.form hu;obtain⟨q,vc,rfl⟩:=RN.form A)
    have Ql:=RN.below j.o ad;refine⟨⟨m,g,c1,c,q,_,vc,X%c,J,J,Ja Ql,Ja A,Ja (by rw[<-W.o,CI c,<-Nat.gcd_rec,CI]),⟨ae,?_⟩,Bt z ad⟩,?_⟩
    . have h1:=Md (Nat.le_of_lt K);rw[<-RN.len j.o]at h1;omega
    . rw[RN.rowVal A,RN.rowVal j.o];exact K
def Rv(w:H)(a b c d:M)(p0 p1:M):
 Jg ((((w.alloc (G #[a,b] 47)).alloc (G #[c,d] 47)).alloc (G #[p0,p1] 47)).alloc (G #[p0,p1] 47)) w.heap.size 47 a b/\
 Jg ((((w.alloc (G #[a,b] 47)).alloc (G #[c,d] 47)).alloc (G #[p0,p1] 47)).alloc (G #[p0,p1] 47)) (w.heap.size+1) 47 c d/\
 Jg ((((w.alloc (G #[a,b] 47)).alloc (G #[c,d] 47)).alloc (G #[p0,p1] 47)).alloc (G #[p0,p1] 47)) (w.heap.size+1+1) 47 p0 p1/\
 Jg ((((w.alloc (G #[a,b] 47)).alloc (G #[c,d] 47)).alloc (G #[p0,p1] 47)).alloc (G #[p0,p1] 47)) (w.heap.size+1+1+1) 47 p0 p1:=by
 refine⟨(((Jg.new w _ _ _).alloc _).alloc _).alloc _,?_,?_,?_⟩
 . have h:=((Jg.new (w.alloc (G #[a,b] 47)) 47 c d).alloc (G #[p0,p1] 47)).alloc (G #[p0,p1] 47);rw[A1]at h;exact h
 . have h:=(Jg.new ((w.alloc (G #[a,b] 47)).alloc (G #[c,d] 47)) 47 p0 p1).alloc (G #[p0,p1] 47);rw[A1,A1]at h;exact h
 . have h:=Jg.new (((w.alloc (G #[a,b] 47)).alloc (G #[c,d] 47)).alloc (G #[p0,p1] 47)) 47 p0 p1;rw[A1,A1,A1]at h;exact h
def Rw{W:H}{c:Nat}(h:RN W (C a l c) n)(m:Bool):Jo W (.agg #[C a l c,F (m&&decide (0<l))]) (if m=true then -(n:Int)else(n:Int)):=by
 have hl:=RN.len h;have f:0<l↔n≠0:=by
  rw[hl];constructor
  . intro b g;rw[g,Jy]at b;simp at b
  . intro b;exact Cf.2 λe=>b ((Jw Y).1 e)
 cases m with
 |false=>
  refine⟨a,l,c,?_,by simp;exact h⟩
  have:decide ((n:Int)<0)=false:=BD Y
  simp[this]
 |true=>
  refine⟨a,l,c,?_,by simp;exact h⟩;simp only[Bool.true_and,if_true]
  have:decide (0<l)=decide (-(n:Int)<0):=by
   by_cases d:n=0
   . rw[BD λb=>f.1 b d,BD Y]
   . rw[BG (f.2 d),BG Y]
  rw[this]
def Rx(a:Tb)(la ca:Nat)(b:Tb)(lb cb X d:Nat)(s t:Bool)(z r:Int)(w:H)(hu:RN w (C a la ca) X)(hv:RN w (C b lb cb) d)(hY:d≠0)(bf:la<=100000000000)(bg:lb<=100000000000)
(HP:Hid (¬(s=true/\X%d≠0)->(if(!(s==t))=true then -((X/d:Nat):Int)else((X/d:Nat):Int))=z/\((X%d:Nat):Int)=r))
(HN:Hid (s=true/\X%d≠0->(if(!(s==t))=true then -((X/d+1:Nat):Int)else((X/d+1:Nat):Int))=z/\((d-X%d:Nat):Int)=r)):
 Q L 127 #[.agg #[C a la ca,F s],.agg #[C b lb cb,F t]] w λe k=>∃q o,e=.returned (.tuple #[q,o])/\Jo k q z/\Jo k o r/\Bl w k:=by
 obtain⟨b0,b1,b4,b5⟩:=Rv w (C a la ca) (F s) (C b lb cb) (F t) (C none 0 0) (F false);have Qo:=L8 w (G #[C a la ca,F s] 47) (G #[C b lb cb,F t] 47) (G #[C none 0 0,F false] 47) (G #[C none 0 0,F false] 47);obtain⟨W0,ak⟩:=ex ((((w.alloc (G #[C a la ca,F s] 47)).alloc (G #[C b lb cb,F t] 47)).alloc (G #[C none 0 0,F false] 47)).alloc (G #[C none 0 0,F false] 47));rw[ak]at b0 b1 b4 b5 Qo;have Uj:=Ja ak;have Uf:=RN.below hu Qo;have Qw:=RN.below hv Qo;have Uk:=Ja (Mb a la ca b lb cb X d W0 Uf Qw hY bf bg);have Ug:=Ja Qw;have Ul:=Ja (RN.len hu).symm;obtain⟨k0,k1⟩:=b0.cp;obtain⟨f,k3⟩:=b1.cp;clear ak hu hv Uf Qw;go_enter func127,ntmps127
 go_upto_region 1 with fail
 rw[Uj.o];go_upto_region 2 with(go_at_call 157;refine Uk.o.mono ?_;rintro e w1 ⟨u1,v1,rfl,aq,ay,aj⟩;obtain⟨A,B,rfl⟩:=RN.form aq;obtain⟨va,vc,rfl⟩:=RN.form ay)
 obtain⟨lr,ap⟩:=ex ((Jb 10000 (X%d)).length);obtain⟨lq,an⟩:=ex ((Jb 10000 (X/d)).length);have Ue:=Ja (show lr=0↔X%d=0 by
  rw[<-ap];exact⟨λh=>(Jw Y).1 (Ai h),λh=>by rw[h,Jy];rfl⟩)
 rw[ap]at ay ⊢;rw[an]at aq ⊢;have bi:lq<=100000000000:=by
  have S:=Md (m:=X) (n:=X/d) (CH _ _);have h2:=Ul.o;omega
 have Ub:=Ja an.symm;clear ap an;obtain⟨k0,k1⟩:=(b0.below aj).cp;obtain⟨f,k3⟩:=(b1.below aj).cp;have Qv:=Ja (Ev A lq B (!(s==t)) w1);go_upto_region 3 with(go_at_call 141;refine Qv.o.mono ?_;rintro e w2 ⟨rfl,am⟩)
 obtain⟨I,bd⟩:=ex (((!(s==t))&&decide (0<lq)):Bool);have hI:=Rw (RN.below aq am) (!(s==t));rw[bd]at hI ⊢;obtain⟨W3,ai⟩:=ex (w2.alloc (G #[C A lq B,F I] 47));have Qi:Bl w2 W3:=by rw[<-ai];exact Ba w2 _
 have b8:Jg W3 w2.heap.size 47 (C A lq B) (F I):=by rw[<-ai];exact Jg.new w2 _ _ _
 have Qq:Bl w1 W3:=Bt am Qi;have Qf:Bl W0 W3:=Bt aj Qq;have Qu:=hI.below Qi;have Qy:=RN.below ay Qq;have Qg:=Bt Qo Qf;obtain⟨K,az⟩:=ex (w2.heap.size);have bh:w.heap.size+1+1+1<K:=by
  have S:=(b5.below (Bt aj am)).lt;omega
 rw[ai];rw[az]at b8 ⊢;clear ai az bd hI;have p0:=b0.below Qf;have p1:=b1.below Qf;have x:=b4.below Qf;have y:=b5.below Qf;clear b0 b1 b4 b5 k0 k1 f k3;obtain⟨k0,k1⟩:=p0.cp;obtain⟨f,k3⟩:=p1.cp;obtain⟨i,j⟩:=b8.cp;obtain⟨q0,q1⟩:=x.cp;obtain⟨q2,q3⟩:=y.cp;obtain⟨f0,f1⟩:=x.fp;obtain⟨f2,f3⟩:=y.fp;obtain⟨cd,bc⟩:=ex ((!s || decide (lr=0)):Bool);have Qh:=Ja bc;clear bc;go_cut [31] λv w4=>v=F cd/\w4=W3
 case first=>
  cases s with
  |false=>
   have e5:cd=true:=by rw[<-Qh.o];rfl
   go_wp2_with fail
   go_meet
   case rel=>exact⟨by rw[e5],J⟩
  |true=>
   by_cases l:lr=0
   . have e5:cd=true:=by rw[<-Qh.o];simp;omega
     have T:((lr:Int)==0)=true:=by simp;omega
     clear l;go_wp2_with fail
     go_meet
     case rel=>exact⟨by rw[e5],J⟩
   . have e5:cd=false:=by rw[<-Qh.o];simp;omega
     have T:((lr:Int)==0)=false:=by simp;omega
     clear l;go_wp2_with fail
     go_meet
     case rel=>exact⟨by rw[e5],J⟩
 case rest=>
  obtain⟨rfl,rfl⟩:=hcut;cases cd with
  |true=>
   have hc:¬(s=true/\X%d≠0):=λ⟨S,h2⟩=>by
    have h:=Qh.o;rw[S]at h;simp at h;exact h2 (Ue.o.1 h)
   obtain⟨z1,z2⟩:=HP.o hc;rw[z1]at Qu;have Qv:=Ja (Ev va lr vc s);have Qz:(s&&decide (0<lr))=false:=by
    have h:=Qh.o;cases s with
    |false=>rfl
    |true=>simp at h;simp;omega
   rw[Qz]at Qv;have Qt:=Ja z2;clear Qz z1 z2 hc;go_wp2_with fail
   go_region_with (first
    |(go_at_call 141;refine(Qv.o _).mono ?_;rintro e w5 ⟨rfl,E⟩;have i:=((b8.drew).below E).c0;have j:=((b8.drew).below E).c1;have q0:=((x.drew).below E).c0;have q1:=((x.drew).below E).c1;have q2:=((y.drew).below E).c0;have q3:=((y.drew).below E).c1;have f0:=((x.drew).below E).f0;have f1:=((x.drew).below E).f1;have f2:=((y.drew).below E).f0;have f3:=((y.drew).below E).f1))
   all_goals
    go_wp2_with fail
    have Qj:Bl wc w5:=((BB _ wc).drew).trans (E.mono (Aa _));have D:=x.below Qj;have Qc:=y.below Qj;obtain⟨z4,z5⟩:=Gj (C A lq B) (F I) (C va lr vc) (F false) D Qc;obtain⟨Qr,Qp⟩:=z4.cp;obtain⟨Qk,Qn⟩:=z5.cp;have Qd:Jg ((w5.setCell ⟨w.heap.size+1+1,0,none⟩ (C A lq B)).setCell ⟨w.heap.size+1+1,1,none⟩ (F I)) (w.heap.size+1+1+1) 47 (C none 0 0) (F false):=(Qc.far B5 _).far B5 _;have Qb:=(FX Qy).below Qj;rw[Qt.o]at Qb;have Ql:=((Qu.below Qj).box D J J (x0:=C A lq B) (x1:=F I)).box Qd J J (x0:=C va lr vc) (x1:=F false);have Qm:=(Qb.box D J J (x0:=C A lq B) (x1:=F I)).box Qd J J (x0:=C va lr vc) (x1:=F false);have Qs:=Bt Qg Qj;exact BA (by simp[results,results127,go_sem,Qr,Qp,Qk,Qn]) J ⟨_,_,J,Ql,Qm,(((Qs.setCell (p:=⟨_,0,none⟩) so _).setCell (p:=⟨_,1,none⟩) so _).setCell (p:=⟨_,0,none⟩) so _).setCell (p:=⟨_,1,none⟩) so _⟩
  |false=>
   have hc:s=true/\X%d≠0:=by
    have h:=Qh.o;simp at h;exact⟨h.1,λe=>h.2 (Ue.o.2 e)⟩
   obtain⟨z1,z2⟩:=HN.o hc;rw[hc.1]at z1;have Ud:Jo wc (.agg #[C A lq B,F I]) (if(!(true==t))=true then -((X/d:Nat):Int)else((X/d:Nat):Int)):=by have h:=Qu;rw[hc.1]at h;exact h
   obtain⟨Ua,Uh,Qt⟩:=DO Ud z1 z2;have bj:=AJ X (show d>0 by omega);obtain⟨Uc,Ui,Qe⟩:=DO (EQ 1 Y Y) (λ(V:H) (h:Bl wc V)=>GP _ _ d (X%d) V (RN.below (RN.below Ug.o Qf) h) (RN.below Qy h) Y (by rw[<-RN.len Ug.o];omega)) λ(V:H) (h:Bl wc V)=>CD (CD (b8.below h).c0 (CD (b8.below h).c1 (p1.below h).c0)) (CD (CD (x.below h).c0 (CD (x.below h).c1 (CD (y.below h).c0 (y.below h).c1))) (CD (x.below h).f0 (CD (x.below h).f1 (CD (y.below h).f0 (y.below h).f1))));have n1:¬K=w.heap.size+1+1:=Y
   have n2:¬K=w.heap.size+1+1+1:=Y
   have n3:¬w.heap.size+1+1=K:=Y
   have n4:¬w.heap.size+1+1+1=K:=Y
   have n5:¬w.heap.size+1+1=w.heap.size:=Y
   have n6:¬w.heap.size=w.heap.size+1+1:=Y
   clear hc Ud z1 z2 Qu;cases t with
   |true=>
    have Qx:=Ja (show ∀(V:H) (u:M),Bl wc V->Jo V u 1->Q L 108 #[.agg #[C A lq B,F I],u] V λe k=>∃u,e=.returned u/\Jo k u z/\Bl V k from λV u h hu=>by
     have hx:=Ua.o.below h;simp only[beq_self_eq_true,Bool.not_true,CE,if_false]at hx;have S:=Hq _ u _ 1 V hx hu (by unfold DY;rw[Ci,<-Ub.o];omega) (Gi Y Y);have h2:=Uh.o;simp only[beq_self_eq_true,Bool.not_true,CE,if_false]at h2;rw[show((X/d:Nat):Int)+1=z from by rw[<-h2];push_cast;rfl]at S;exact S)
    go_upto_region 6 with fail
    have c:Bl wc wc.drew:=(BB _ wc).drew;clear i j f q0 q1 q2 q3 f0 f1 f2 f3;obtain⟨⟨i,j,f⟩,⟨q0,q1,q2,q3⟩,f0,f1,f2,f3⟩:=Qe.o _ c;go_region_held3 (λk=>k.cell? ⟨K,0,none⟩=some (C A lq B)/\k.cell? ⟨K,1,none⟩=some (F I)/\k.cell? ⟨w.heap.size+1,0,none⟩=some (C b lb cb)) (first|(with_reducible exact⟨i,j,f⟩)|(go_keep;done))
     (first
      |(go_at_call 93;refine(Uc.o _).mono ?_;rintro e w5 ⟨u5,rfl,ah,g⟩;replace c:=Bt c g;clear g i j f q0 q1 q2 q3 f0 f1 f2 f3;obtain⟨⟨i,j,f⟩,⟨q0,q1,q2,q3⟩,f0,f1,f2,f3⟩:=Qe.o _ c)
      |(go_at_call 108;refine(Qx.o _ _ c ah).mono ?_;clear ah;rintro e w6 ⟨u6,rfl,l,g⟩;obtain⟨R,U,c5,rfl⟩:=l.form;obtain⟨W,ae⟩:=ex (decide (z<0));rw[ae]at l;rw[ae];clear ae;replace c:=Bt c g;clear g i j f q0 q1 q2 q3 f0 f1 f2 f3;obtain⟨⟨i,j,f⟩,⟨q0,q1,q2,q3⟩,f0,f1,f2,f3⟩:=Qe.o _ c)
      |(go_at_call 144;refine(Ui.o _ c).mono ?_;rintro e V0 ⟨u7,rfl,T,g⟩;obtain⟨a6,c6,rfl⟩:=RN.form T;obtain⟨l6,ad⟩:=ex ((Jb 10000 (d-X%d)).length);rw[ad]at T;rw[ad];clear ad;replace l:=l.below g;replace c:=Bt c g;clear g i j f q0 q1 q2 q3 f0 f1 f2 f3;obtain⟨⟨i,j,f⟩,⟨q0,q1,q2,q3⟩,f0,f1,f2,f3⟩:=Qe.o _ c))
    go_wp2_with fail
    have D:=x.below c;have Qc:=y.below c;obtain⟨z4,z5⟩:=Gj (C R U c5) (F W) (C a6 l6 c6) (F false) D Qc;obtain⟨Qr,Qp⟩:=z4.cp;obtain⟨Qk,Qn⟩:=z5.cp;have Qd:Jg ((V0.setCell ⟨w.heap.size+1+1,0,none⟩ (C R U c5)).setCell ⟨w.heap.size+1+1,1,none⟩ (F W)) (w.heap.size+1+1+1) 47 (C none 0 0) (F false):=(Qc.far B5 _).far B5 _;have Qb:=FX T;rw[Qt.o]at Qb;have Ql:=(l.box D J J (x0:=C R U c5) (x1:=F W)).box Qd J J (x0:=C a6 l6 c6) (x1:=F false);have Qm:=(Qb.box D J J (x0:=C R U c5) (x1:=F W)).box Qd J J (x0:=C a6 l6 c6) (x1:=F false);have Qs:=Bt Qg c;exact BA (by simp[results,results127,go_sem,Qr,Qp,Qk,Qn]) J ⟨_,_,J,Ql,Qm,(((Qs.setCell (p:=⟨_,0,none⟩) so _).setCell (p:=⟨_,1,none⟩) so _).setCell (p:=⟨_,0,none⟩) so _).setCell (p:=⟨_,1,none⟩) so _⟩
   |false=>
    have Qx:=Ja (show ∀(V:H) (u:M),Bl wc V->Jo V u 1->Q L 158 #[.agg #[C A lq B,F I],u] V λe k=>∃u,e=.returned u/\Jo k u z/\Bl V k from λV u h hu=>by
     have hx:=Ua.o.below h;rw[BH (by rfl)]at hx;have S:=QZ _ u _ 1 V hx hu (by unfold DY;rw[C4,Ci,<-Ub.o];omega) (Gi Y Y);have h2:=Uh.o;rw[BH (by rfl)]at h2;rw[show -((X/d:Nat):Int)-1=z from by rw[<-h2];push_cast;omega]at S;exact S)
    go_upto_region 7 with fail
    have c:Bl wc wc.drew:=(BB _ wc).drew;clear i j f q0 q1 q2 q3 f0 f1 f2 f3;obtain⟨⟨i,j,f⟩,⟨q0,q1,q2,q3⟩,f0,f1,f2,f3⟩:=Qe.o _ c;go_region_held3 (λk=>k.cell? ⟨K,0,none⟩=some (C A lq B)/\k.cell? ⟨K,1,none⟩=some (F I)/\k.cell? ⟨w.heap.size+1,0,none⟩=some (C b lb cb)) (first|(with_reducible exact⟨i,j,f⟩)|(go_keep;done))
     (first
      |(go_at_call 93;refine(Uc.o _).mono ?_;rintro e w5 ⟨u5,rfl,ah,g⟩;replace c:=Bt c g;clear g i j f q0 q1 q2 q3 f0 f1 f2 f3;obtain⟨⟨i,j,f⟩,⟨q0,q1,q2,q3⟩,f0,f1,f2,f3⟩:=Qe.o _ c)
      |(go_at_call 158;refine(Qx.o _ _ c ah).mono ?_;clear ah;rintro e w6 ⟨u6,rfl,l,g⟩;obtain⟨R,U,c5,rfl⟩:=l.form;obtain⟨W,ae⟩:=ex (decide (z<0));rw[ae]at l;rw[ae];clear ae;replace c:=Bt c g;clear g i j f q0 q1 q2 q3 f0 f1 f2 f3;obtain⟨⟨i,j,f⟩,⟨q0,q1,q2,q3⟩,f0,f1,f2,f3⟩:=Qe.o _ c)
      |(go_at_call 144;refine(Ui.o _ c).mono ?_;rintro e V0 ⟨u7,rfl,T,g⟩;obtain⟨a6,c6,rfl⟩:=RN.form T;obtain⟨l6,ad⟩:=ex ((Jb 10000 (d-X%d)).length);rw[ad]at T;rw[ad];clear ad;replace l:=l.below g;replace c:=Bt c g;clear g i j f q0 q1 q2 q3 f0 f1 f2 f3;obtain⟨⟨i,j,f⟩,⟨q0,q1,q2,q3⟩,f0,f1,f2,f3⟩:=Qe.o _ c))
    go_wp2_with fail
    have D:=x.below c;have Qc:=y.below c;obtain⟨z4,z5⟩:=Gj (C R U c5) (F W) (C a6 l6 c6) (F false) D Qc;obtain⟨Qr,Qp⟩:=z4.cp;obtain⟨Qk,Qn⟩:=z5.cp;have Qd:Jg ((V0.setCell ⟨w.heap.size+1+1,0,none⟩ (C R U c5)).setCell ⟨w.heap.size+1+1,1,none⟩ (F W)) (w.heap.size+1+1+1) 47 (C none 0 0) (F false):=(Qc.far B5 _).far B5 _;have Qb:=FX T;rw[Qt.o]at Qb;have Ql:=(l.box D J J (x0:=C R U c5) (x1:=F W)).box Qd J J (x0:=C a6 l6 c6) (x1:=F false);have Qm:=(Qb.box D J J (x0:=C R U c5) (x1:=F W)).box Qd J J (x0:=C a6 l6 c6) (x1:=F false);have Qs:=Bt Qg c;exact BA (by simp[results,results127,go_sem,Qr,Qp,Qk,Qn]) J ⟨_,_,J,Ql,Qm,(((Qs.setCell (p:=⟨_,0,none⟩) so _).setCell (p:=⟨_,1,none⟩) so _).setCell (p:=⟨_,0,none⟩) so _).setCell (p:=⟨_,1,none⟩) so _⟩
def Gu(j k:M)(x y:Int)(w:H)(n:Jo w j x)(p:Jo w k y)(i:y≠0)(r:DY x<=100000000000)(s:DY y<=100000000000):
 Q L 127 #[j,k] w λe d=>∃q o,e=.returned (.tuple #[q,o])/\Jo d q (x/y)/\Jo d o (x%y)/\Bl w d:=by
 obtain⟨a,t,l,rfl,f⟩:=n;obtain⟨b,lb,m,rfl,g⟩:=p;refine Rx a t l b lb m x.natAbs y.natAbs _ _ (x/y) (x%y) w f g Y (by rw[RN.len f];exact r) (by rw[RN.len g];exact s) (λc=>MA i λh=>c ⟨BG h.1,h.2⟩) λc=>MB i ⟨Bc c.1,c.2⟩
def Ry(r:M)(x:Int)(w:H)(t:Jo w r x):
 Q L 98 #[r] w λe u=>e=.returned (N P x.sign)/\Bl w u:=by
 obtain⟨a,b,l,rfl,j⟩:=t;have k:=RN.len j;have z:=(Jm j).2.2.2.1;have g:Bl w (w.alloc (G #[C a b l,F (decide (x<0))] 47)):=Ba w _;have b0:=Jg.new w 47 (C a b l) (F (decide (x<0)));have n:b=0↔x=0:=by
  rw[k];constructor
  . intro h;have:=(Jw (B:=10000) Y).1 (Ai h);omega
  . intro h;rw[h,Int.natAbs_zero,Jy];rfl
 have o:=Ja n;obtain⟨W0,i⟩:=ex (w.alloc (G #[C a b l,F (decide (x<0))] 47));rw[i]at g b0;have d:=Ja i;obtain⟨A,q⟩:=b0.cp;by_cases m:x<0
 . have f:decide (x<0)=true:=BG m;rw[f]at d q ⊢;have c:=Ja (Int.sign_eq_neg_one_of_neg m);clear k n i j f b0;go_enter func98,ntmps98
   go_upto_region 1 with fail
   rw[d.o];go_wp2_with fail
   go_ret;exact⟨by rw[c.o];rfl,g⟩
 . have f:decide (x<0)=false:=BD m;rw[f]at d q ⊢;clear k n i j f b0;rcases AE b with p|p
   . subst p;have c:=Ja (show x.sign=0 by rw[o.o.1 J];rfl);go_enter func98,ntmps98
     go_upto_region 1 with fail
     rw[d.o];go_wp2_with fail
     go_ret;refine⟨?_,g⟩;rw[c.o];first|rfl|(simp;done)
   . have c:=Ja (show x.sign=1 from Int.sign_eq_one_of_pos (by
      have:=o.o;rcases CV x 0 with h|h|h
      . omega
      . have:=this.2 h;omega
      . exact h))
     have s:min (1:Int) (b:Int)=1:=Y
     have v:(1:Int)<=(b:Int):=Y
     have y:¬((b:Int)<1):=Y
     go_enter func98,ntmps98
     go_upto_region 1 with fail
     rw[d.o];go_wp2_with fail
     go_ret;refine⟨?_,g⟩;rw[c.o];first|rfl|(simp[s];done)
end
section
open M3
variable{l:Nat}{a:Tb}
def Me{x y:Int}(a:y≠0):(0:Int)<(Int.gcd x y:Nat):=by
 have:=Int.gcd_pos_of_ne_zero_right x a;omega
def Jr.mk{W:H}{s t:Bool}{b:Tb}{c k d:Nat}{q:Rat}(e:Jo W (.agg #[C a l c,F s]) q.num)(f:Jo W (.agg #[C b k d,F t]) (q.den:Int)):Jr W (.agg #[C a l c,F s,C b k d,F t]) q:=⟨_,_,_,_,_,_,_,_,J,e,f⟩
def Jo.sign{W:H}{c:Nat}{s:Bool}{z:Int}(h:Jo W (.agg #[C a l c,F s]) z):s=decide (z<0):=by
 obtain⟨b,d,c',e,_⟩:=h;cases e;rfl
def F9(va vb:M)(x y:Int)(w:H)(ha:Jo w va x)(f:Jo w vb y)(hy:y≠0)(ck:Sok x)(cn:Sok y):
 Q L 92 #[va,vb] w λe w'=>∃u,e=.returned u/\Jr w' u (Te x y)/\Bl w w':=by
 obtain⟨ga,iu,gn,je,rfl⟩:=Jo.form2 ha;obtain⟨gb,iw,go,jf,rfl⟩:=Jo.form2 f;obtain⟨W0,bd,M1⟩:=Iz 47 (.big x) ha 47 (.big y) f 49 (.zref) J;obtain⟨r,Qa,Qb⟩:=DO hy ck cn;clear ha f hy ck cn;go_enter func92,ntmps92
 go_upto_region 1 with fail
 rw[bd.o];clear bd;obtain⟨a1,l1,c1,s1,n1,i1⟩:=M1.o.big (i:=0) J;obtain⟨Ui,Uk⟩:=n1.cp;obtain⟨a2,l2,c2,s2,n2,i2⟩:=M1.o.big (i:=1) J;obtain⟨Uj,Ug⟩:=n2.cp;go_upto_region 2 with(go_at_call 125;refine(Ru _ _ x y _ i1 i2 (by have:=Qa.o.size;omega) (by have:=Qb.o.size;omega)).mono ?_;rintro e w1 ⟨u,rfl,hu,f⟩;obtain⟨bm,dx,cg,f9,rfl⟩:=Jo.form2 hu)
 obtain⟨V3,b⟩:=ex (w1.alloc (G #[C bm dx cg,F f9] 47));obtain⟨g,c⟩:=ex (w1.heap.size);have a:C8 w (w1.alloc (G #[C bm dx cg,F f9] 47)) [some (w.heap.size,.big x),some (w.heap.size+1,.big y),some (w.heap.size+1+1,.zref),some (w1.heap.size,.big (((Int.gcd x y:Nat):Int)))]:=C8.push (M1.o.below f) (.big (((Int.gcd x y:Nat):Int))) hu;rw[b,c]at a;rw[b];rw[c];have p:Hid (C8 w V3 [some (w.heap.size,.big x),some (w.heap.size+1,.big y),some (w.heap.size+1+1,.zref),some (g,.big (((Int.gcd x y:Nat):Int)))]):=Ja (a);clear M1;clear a b c;clear n1 Ui Uk i1 n2 Uj Ug i2 hu f;have HG:=Ja (Sok.gcd Qa.o Qb.o);by_cases s:y<0
 . have HL:=Ja s;obtain⟨a4,l4,c4,s4,n4,i4⟩:=p.o.big (i:=1) J;obtain⟨Uo,Uf⟩:=n4.cp;have hs:=Jo.sign i4;rw[BG s]at hs;subst hs;clear s;go_upto_region 3 with fail
   clear n4 Uo Uf i4;obtain⟨a5,l5,c5,s5,n5,i5⟩:=p.o.big (i:=3) J;obtain⟨Uc,Ud⟩:=n5.cp;go_upto_region 4 with(go_at_call 126;refine(K1 _ (((Int.gcd x y:Nat):Int)) _ i5).mono ?_;rintro e w6 ⟨u6,rfl,ap,am⟩;obtain⟨bn,dz,cj,fc,rfl⟩:=Jo.form2 ap;obtain⟨Uc,Ud⟩:=(n5.below am).cp;obtain⟨Um,Un⟩:=(n5.below am).fp)
   obtain⟨V6,b⟩:=ex ((w6.setCell ⟨g,0,none⟩ (C bn dz cj)).setCell ⟨g,1,none⟩ (F fc));have a:C8 w ((w6.setCell ⟨g,0,none⟩ (C bn dz cj)).setCell ⟨g,1,none⟩ (F fc)) [some (w.heap.size,.big x),some (w.heap.size+1,.big y),some (w.heap.size+1+1,.zref),some (g,.big (-((Int.gcd x y:Nat):Int)))]:=C8.putBig (p.o.below am) (i:=3) J ap;rw[b]at a;rw[b];have q:Hid (C8 w V6 [some (w.heap.size,.big x),some (w.heap.size+1,.big y),some (w.heap.size+1+1,.zref),some (g,.big (-((Int.gcd x y:Nat):Int)))]):=Ja (a);clear p;clear a b;clear n5 Uc Ud i5 ap am Um Un;obtain⟨B,t,A⟩:=DO (show(-((Int.gcd x y:Nat):Int))≠0 by have:=Me (x:=x) r.o;omega) (show(-((Int.gcd x y:Nat):Int))=(if y<0 then -((Int.gcd x y:Nat):Int)else((Int.gcd x y:Nat):Int))by rw[BH HL.o]) HG.o.neg;obtain⟨a7,l7,c7,s7,n7,i7⟩:=q.o.big (i:=0) J;obtain⟨Ue,Up⟩:=n7.cp;obtain⟨a8,l8,c8,s8,n8,i8⟩:=q.o.big (i:=3) J;obtain⟨Uh,Ul⟩:=n8.cp;go_upto_region 5 with(go_at_call 127;refine(Gu _ _ x ((-((Int.gcd x y:Nat):Int))) _ i7 i8 B.o (by have:=Qa.o.size;omega) (by have:=A.o.size;omega)).mono ?_;rintro e m ⟨u1,u2,rfl,j,k,f⟩;obtain⟨D,V,R,ae,rfl⟩:=Jo.form2 j;obtain⟨E,W,S,ah,rfl⟩:=Jo.form2 k)
   have a:=C8.push (C8.push (q.o.below f) (.big (x/(-((Int.gcd x y:Nat):Int)))) j) (.big (x%(-((Int.gcd x y:Nat):Int)))) (Has.alloc (d:=.big (x%(-((Int.gcd x y:Nat):Int)))) k _);simp only[A1]at a;have a:C8 w ((m.alloc (G #[C D V R,F ae] 47)).alloc (G #[C E W S,F ah] 47)) [some (w.heap.size,.big x),some (w.heap.size+1,.big y),some (w.heap.size+1+1,.zref),some (g,.big (-((Int.gcd x y:Nat):Int))),some (m.heap.size,.big (x/(-((Int.gcd x y:Nat):Int)))),some (m.heap.size+1,.big (x%(-((Int.gcd x y:Nat):Int))))]:=a;obtain⟨ff,b⟩:=ex ((m.alloc (G #[C D V R,F ae] 47)).alloc (G #[C E W S,F ah] 47));obtain⟨B9,c⟩:=ex (m.heap.size);rw[b,c]at a;rw[b];rw[c];obtain⟨B10,l⟩:=ex (B9+1);rw[l]at a ⊢;have o:Hid (C8 w ff [some (w.heap.size,.big x),some (w.heap.size+1,.big y),some (w.heap.size+1+1,.zref),some (g,.big (-((Int.gcd x y:Nat):Int))),some (B9,.big (x/(-((Int.gcd x y:Nat):Int)))),some (B10,.big (x%(-((Int.gcd x y:Nat):Int))))]):=Ja (a);clear q;clear a b c l;clear n7 Ue Up i7 n8 Uh Ul i8 j k f;obtain⟨fs,ik,gc,ix,eb,co⟩:=o.o.big (i:=1) J;obtain⟨Qr,Qk⟩:=eb.cp;obtain⟨ft,il,gg,iy,ed,cy⟩:=o.o.big (i:=3) J;obtain⟨Ub,Qz⟩:=ed.cp;go_upto_region 6 with(go_at_call 127;refine(Gu _ _ y ((-((Int.gcd x y:Nat):Int))) _ co cy B.o (by have:=Qb.o.size;omega) (by have:=A.o.size;omega)).mono ?_;rintro e n ⟨u1,u2,rfl,j,k,f⟩;obtain⟨I,X,T,ai,rfl⟩:=Jo.form2 j;obtain⟨K,ad,U,aj,rfl⟩:=Jo.form2 k)
   have a:=C8.push (C8.push (o.o.below f) (.big (y/(-((Int.gcd x y:Nat):Int)))) j) (.big (y%(-((Int.gcd x y:Nat):Int)))) (Has.alloc (d:=.big (y%(-((Int.gcd x y:Nat):Int)))) k _);simp only[A1]at a;have a:C8 w ((n.alloc (G #[C I X T,F ai] 47)).alloc (G #[C K ad U,F aj] 47)) [some (w.heap.size,.big x),some (w.heap.size+1,.big y),some (w.heap.size+1+1,.zref),some (g,.big (-((Int.gcd x y:Nat):Int))),some (B9,.big (x/(-((Int.gcd x y:Nat):Int)))),some (B10,.big (x%(-((Int.gcd x y:Nat):Int)))),some (n.heap.size,.big (y/(-((Int.gcd x y:Nat):Int)))),some (n.heap.size+1,.big (y%(-((Int.gcd x y:Nat):Int))))]:=a;obtain⟨bf,b⟩:=ex ((n.alloc (G #[C I X T,F ai] 47)).alloc (G #[C K ad U,F aj] 47));obtain⟨az,c⟩:=ex (n.heap.size);rw[b,c]at a;rw[b];rw[c];obtain⟨fd,l⟩:=ex (az+1);rw[l]at a ⊢;have z:Hid (C8 w bf [some (w.heap.size,.big x),some (w.heap.size+1,.big y),some (w.heap.size+1+1,.zref),some (g,.big (-((Int.gcd x y:Nat):Int))),some (B9,.big (x/(-((Int.gcd x y:Nat):Int)))),some (B10,.big (x%(-((Int.gcd x y:Nat):Int)))),some (az,.big (y/(-((Int.gcd x y:Nat):Int)))),some (fd,.big (y%(-((Int.gcd x y:Nat):Int))))]):=Ja (a);clear o;clear a b c l;clear eb Qr Qk co ed Ub Qz cy j k f;obtain⟨bh,dm,bt,et,fl,fh⟩:=z.o.big (i:=4) J;obtain⟨gp,gq⟩:=fl.cp;obtain⟨bi,dt,bu,ew,fm,fi⟩:=z.o.big (i:=6) J;obtain⟨gr,gt⟩:=fm.cp;have aq:=z.o.zref (i:=2) J;obtain⟨Qw,Qp,Qg,Qj⟩:=aq.cq;obtain⟨gz,ia,ib,ic⟩:=aq.fq;have hr:Jr bf (.agg #[C bh dm bt,F et,C bi dt bu,F ew]) (Te x y):=Jr.mk (by rw[XM r.o,<-t.o];exact fh) (by rw[XN r.o,<-t.o];exact fi);have Qf:=z.o.ge 2 J;have hB:=z.o.2.2;go_wp2_with fail
   exact BA (v:=.agg #[C bh dm bt,F et,C bi dt bu,F ew]) (by simp[results,results92,go_sem,Qw,Qp,Qg,Qj]) J ⟨_,J,hr.put4 aq J J J J _ _ _ _,Ju hB Qf _ _ _ _⟩
 . have HL:=Ja s;obtain⟨fu,im,gh,iz,ef,cz⟩:=p.o.big (i:=1) J;obtain⟨Qx,Qu⟩:=ef.cp;have hs:=Jo.sign cz;rw[BD s]at hs;subst hs;clear s;go_upto_region 4 with fail
   clear ef Qx Qu cz;obtain⟨B,t,A⟩:=DO (show((Int.gcd x y:Nat):Int)≠0 by have:=Me (x:=x) r.o;omega) (show((Int.gcd x y:Nat):Int)=(if y<0 then -((Int.gcd x y:Nat):Int)else((Int.gcd x y:Nat):Int))by rw[BE (by have:=HL.o;omega)]) HG.o;obtain⟨fv,io,gi,ja,eh,de⟩:=p.o.big (i:=0) J;obtain⟨Qh,Ua⟩:=eh.cp;obtain⟨fw,ip,gj,jb,ei,dh⟩:=p.o.big (i:=3) J;obtain⟨Qt,Qo⟩:=ei.cp;go_upto_region 5 with(go_at_call 127;refine(Gu _ _ x (((Int.gcd x y:Nat):Int)) _ de dh B.o (by have:=Qa.o.size;omega) (by have:=A.o.size;omega)).mono ?_;rintro e m ⟨u1,u2,rfl,j,k,f⟩;obtain⟨D,V,R,ae,rfl⟩:=Jo.form2 j;obtain⟨E,W,S,ah,rfl⟩:=Jo.form2 k)
   have a:=C8.push (C8.push (p.o.below f) (.big (x/((Int.gcd x y:Nat):Int))) j) (.big (x%((Int.gcd x y:Nat):Int))) (Has.alloc (d:=.big (x%((Int.gcd x y:Nat):Int))) k _);simp only[A1]at a;have a:C8 w ((m.alloc (G #[C D V R,F ae] 47)).alloc (G #[C E W S,F ah] 47)) [some (w.heap.size,.big x),some (w.heap.size+1,.big y),some (w.heap.size+1+1,.zref),some (g,.big (((Int.gcd x y:Nat):Int))),some (m.heap.size,.big (x/((Int.gcd x y:Nat):Int))),some (m.heap.size+1,.big (x%((Int.gcd x y:Nat):Int)))]:=a;obtain⟨fg,b⟩:=ex ((m.alloc (G #[C D V R,F ae] 47)).alloc (G #[C E W S,F ah] 47));obtain⟨ak,c⟩:=ex (m.heap.size);rw[b,c]at a;rw[b];rw[c];obtain⟨an,l⟩:=ex (ak+1);rw[l]at a ⊢;have q:Hid (C8 w fg [some (w.heap.size,.big x),some (w.heap.size+1,.big y),some (w.heap.size+1+1,.zref),some (g,.big (((Int.gcd x y:Nat):Int))),some (ak,.big (x/((Int.gcd x y:Nat):Int))),some (an,.big (x%((Int.gcd x y:Nat):Int)))]):=Ja (a);clear p;clear a b c l;clear eh Qh Ua de ei Qt Qo dh j k f;obtain⟨fx,iq,gk,jc,en,di⟩:=q.o.big (i:=1) J;obtain⟨Qn,Qq⟩:=en.cp;obtain⟨fy,ir,gl,jd,er,dj⟩:=q.o.big (i:=3) J;obtain⟨Qy,Qs⟩:=er.cp;go_upto_region 6 with(go_at_call 127;refine(Gu _ _ y (((Int.gcd x y:Nat):Int)) _ di dj B.o (by have:=Qb.o.size;omega) (by have:=A.o.size;omega)).mono ?_;rintro e n ⟨u1,u2,rfl,j,k,f⟩;obtain⟨I,X,T,ai,rfl⟩:=Jo.form2 j;obtain⟨K,ad,U,aj,rfl⟩:=Jo.form2 k)
   have a:=C8.push (C8.push (q.o.below f) (.big (y/((Int.gcd x y:Nat):Int))) j) (.big (y%((Int.gcd x y:Nat):Int))) (Has.alloc (d:=.big (y%((Int.gcd x y:Nat):Int))) k _);simp only[A1]at a;have a:C8 w ((n.alloc (G #[C I X T,F ai] 47)).alloc (G #[C K ad U,F aj] 47)) [some (w.heap.size,.big x),some (w.heap.size+1,.big y),some (w.heap.size+1+1,.zref),some (g,.big (((Int.gcd x y:Nat):Int))),some (ak,.big (x/((Int.gcd x y:Nat):Int))),some (an,.big (x%((Int.gcd x y:Nat):Int))),some (n.heap.size,.big (y/((Int.gcd x y:Nat):Int))),some (n.heap.size+1,.big (y%((Int.gcd x y:Nat):Int)))]:=a;obtain⟨bg,b⟩:=ex ((n.alloc (G #[C I X T,F ai] 47)).alloc (G #[C K ad U,F aj] 47));obtain⟨bc,c⟩:=ex (n.heap.size);rw[b,c]at a;rw[b];rw[c];obtain⟨fe,l⟩:=ex (bc+1);rw[l]at a ⊢;have o:Hid (C8 w bg [some (w.heap.size,.big x),some (w.heap.size+1,.big y),some (w.heap.size+1+1,.zref),some (g,.big (((Int.gcd x y:Nat):Int))),some (ak,.big (x/((Int.gcd x y:Nat):Int))),some (an,.big (x%((Int.gcd x y:Nat):Int))),some (bc,.big (y/((Int.gcd x y:Nat):Int))),some (fe,.big (y%((Int.gcd x y:Nat):Int)))]):=Ja (a);clear q;clear a b c l;clear en Qn Qq di er Qy Qs dj j k f;obtain⟨bj,du,bz,f6,fo,fj⟩:=o.o.big (i:=4) J;obtain⟨gu,gv⟩:=fo.cp;obtain⟨bk,dw,ce,f7,fr,fk⟩:=o.o.big (i:=6) J;obtain⟨gw,gy⟩:=fr.cp;have ay:=o.o.zref (i:=2) J;obtain⟨Qv,Ql,Qi,Qm⟩:=ay.cq;obtain⟨ie,ig,ii,ij⟩:=ay.fq;have hr:Jr bg (.agg #[C bj du bz,F f6,C bk dw ce,F f7]) (Te x y):=Jr.mk (by rw[XM r.o,<-t.o];exact fj) (by rw[XN r.o,<-t.o];exact fk);have Qf:=o.o.ge 2 J;have hB:=o.o.2.2;go_wp2_with fail
   exact BA (v:=.agg #[C bj du bz,F f6,C bk dw ce,F f7]) (by simp[results,results92,go_sem,Qv,Ql,Qi,Qm]) J ⟨_,J,hr.put4 ay J J J J _ _ _ _,Ju hB Qf _ _ _ _⟩
def Rz(va vb:M)(p q:Rat)(w:H)(ha:Jr w va p)(hb:Jr w vb q)(aj:Sq p)(ak:Sq q):
 Q L 71 #[va,vb] w λe d=>∃u,e=.returned u/\Jr d u (p+q)/\Bl w d:=by
 obtain⟨bi,cj,bn,cy,bk,ce,bu,de,rfl⟩:=Jr.form ha;obtain⟨bj,ck,bt,cz,bm,cg,bz,dh,rfl⟩:=Jr.form hb;obtain⟨W0,ae,g⟩:=Iz 49 (.ref p) ha 49 (.ref q) hb 49 (.zref) J;have j:=Ja aj;have k:=Ja ak;clear ha hb aj ak;go_enter func71,ntmps71
 go_upto_region 1 with fail
 rw[ae.o];clear ae;obtain⟨a1,l1,c1,s1,b1,k1,d1,t1,E,r1,i1,j1⟩:=g.o.ref (i:=0) J;obtain⟨o,s,x,z⟩:=E.cq;obtain⟨a2,l2,c2,s2,b2,k2,d2,t2,I,r2,i2,j2⟩:=g.o.ref (i:=1) J;obtain⟨r,n,m,B⟩:=I.cq;have b:=g.o.zref (i:=2) J;obtain⟨y,t,D,A⟩:=b.cq;obtain⟨U,T,S,K⟩:=b.fq;obtain⟨H4,H9,Qw,Qu,Qv⟩:=Ei (λ(V:H) (h:Bl W0 V)=>XC _ _ (p.num) ((q.den:Int)) V (i1.below h) (j2.below h) (by have:=j.o.num.size;omega) (by have:=k.o.den.size;omega)) (λ(V:H) (h:Bl W0 V)=>XC _ _ (q.num) ((p.den:Int)) V (i2.below h) (j1.below h) (by have:=k.o.num.size;omega) (by have:=j.o.den.size;omega)) (λ(V:H) (h:Bl W0 V) (v4:M) (c:Jo V v4 (p.num*(q.den:Int))) (v9:M) (f:Jo V v9 (q.num*(p.den:Int)))=>Hq _ _ (p.num*(q.den:Int)) (q.num*(p.den:Int)) V c f (by have:=(j.o.cross k.o).size;omega) (by have:=(k.o.cross j.o).size;omega)) (λ(V:H) (h:Bl W0 V)=>XC _ _ ((p.den:Int)) ((q.den:Int)) V (j1.below h) (j2.below h) (by have:=j.o.den.size;omega) (by have:=k.o.den.size;omega)) λ(V:H) (h:Bl W0 V) (am:M) (l:Jo V am (p.num*(q.den:Int)+q.num*(p.den:Int))) (an:M) (R:Jo V an ((p.den:Int)*(q.den:Int)))=>(by have h:=F9 _ _ (p.num*(q.den:Int)+q.num*(p.den:Int)) ((p.den:Int)*(q.den:Int)) V l R (CR (by have:=p.den_nz;omega) (by have:=q.den_nz;omega)) (j.o.sumN k.o) (j.o.mulD k.o);rw[Hz]at h;exact h);have cn:w.heap.size≠w.heap.size+1+1:=g.o.ne 0 2 J J DB;have co:w.heap.size+1≠w.heap.size+1+1:=g.o.ne 1 2 J J DB;have a:Bl W0 W0.drew:=(BB _ W0).drew;go_region_held3 (λd=>d.cell? ⟨w.heap.size,0,none⟩=some (C a1 l1 c1)/\d.cell? ⟨w.heap.size,1,none⟩=some (F s1)/\d.cell? ⟨w.heap.size,2,none⟩=some (C b1 k1 d1)/\d.cell? ⟨w.heap.size,3,none⟩=some (F t1)/\d.cell? ⟨w.heap.size+1,0,none⟩=some (C a2 l2 c2)/\d.cell? ⟨w.heap.size+1,1,none⟩=some (F s2)/\d.cell? ⟨w.heap.size+1,2,none⟩=some (C b2 k2 d2)/\d.cell? ⟨w.heap.size+1,3,none⟩=some (F t2)) (first|(with_reducible exact⟨o,s,x,z,r,n,m,B⟩)|(go_keep;done)|(refine⟨?_,?_,?_,?_,?_,?_,?_,?_⟩<;>((repeat rw[JB Y]);first|assumption|(go_keep;done))))
  (first
   |(go_at_call 109;refine(H4.o _ a ).mono ?_;clear H4;rintro e w4 ⟨v4,rfl,c,bc⟩;have a:=Bt a bc;obtain⟨o,s,x,z⟩:=(E.below a).cq;obtain⟨r,n,m,B⟩:=(I.below a).cq;obtain⟨y,t,D,A⟩:=(b.below a).cq;obtain⟨U,T,S,K⟩:=(b.below a).fq)
   |(go_at_call 109;refine(H9.o _ a ).mono ?_;clear H9;rintro e w9 ⟨v9,rfl,f,ai⟩;have c:=c.below ai;have a:=Bt a ai;obtain⟨o,s,x,z⟩:=(E.below a).cq;obtain⟨r,n,m,B⟩:=(I.below a).cq;obtain⟨y,t,D,A⟩:=(b.below a).cq;obtain⟨U,T,S,K⟩:=(b.below a).fq)
   |(go_at_call 108;refine(Qw.o _ a _ c _ f).mono ?_;clear Qw;rintro e dj ⟨am,rfl,l,ad⟩;have c:=c.below ad;have f:=f.below ad;have a:=Bt a ad;obtain⟨o,s,x,z⟩:=(E.below a).cq;obtain⟨r,n,m,B⟩:=(I.below a).cq;obtain⟨y,t,D,A⟩:=(b.below a).cq;obtain⟨U,T,S,K⟩:=(b.below a).fq)
   |(go_at_call 109;refine(Qu.o _ a ).mono ?_;clear Qu;rintro e dm ⟨an,rfl,R,X⟩;have c:=c.below X;have f:=f.below X;have l:=l.below X;have a:=Bt a X;obtain⟨o,s,x,z⟩:=(E.below a).cq;obtain⟨r,n,m,B⟩:=(I.below a).cq;obtain⟨y,t,D,A⟩:=(b.below a).cq;obtain⟨U,T,S,K⟩:=(b.below a).fq)
   |(go_at_call 92;refine(Qv.o _ a _ l _ R).mono ?_;clear Qv;rintro e dt ⟨di,rfl,ah,W⟩;obtain⟨ap,bf,ay,bg,aq,bd,az,bh,rfl⟩:=Jr.form ah;have c:=c.below W;have f:=f.below W;have l:=l.below W;have R:=R.below W;have a:=Bt a W;obtain⟨o,s,x,z⟩:=(E.below a).cq;obtain⟨r,n,m,B⟩:=(I.below a).cq;obtain⟨y,t,D,A⟩:=(b.below a).cq;obtain⟨U,T,S,K⟩:=(b.below a).fq))
 all_goals go_wp2_with fail
 have Qy:=Bt g.o.2.2 a;have Qx:=g.o.ge 2 J;exact BA (v:=.agg #[C ap bf ay,F bg,C aq bd az,F bh]) (by simp[results,results71,go_sem,y,t,D,A]) J ⟨_,J,ah.put4 (b.below a) J J J J _ _ _ _,Ju Qy Qx _ _ _ _⟩
def R0(va vb:M)(p q:Rat)(w:H)(T:Jr w va p)(U:Jr w vb q)(ai:Sq p)(aj:Sq q):
 Q L 73 #[va,vb] w λe b=>∃u,e=.returned u/\Jr b u (p*q)/\Bl w b:=by
 obtain⟨bf,bz,bj,ck,bh,bt,bm,co,rfl⟩:=Jr.form T;obtain⟨bg,ce,bk,cn,bi,bu,bn,cy,rfl⟩:=Jr.form U;obtain⟨W0,ad,d⟩:=Iz 49 (.ref p) T 49 (.ref q) U 49 (.zref) J;have j:=Ja ai;have k:=Ja aj;clear T U ai aj;go_enter func73,ntmps73
 go_upto_region 1 with fail
 rw[ad.o];clear ad;obtain⟨a1,l1,c1,s1,b1,k1,d1,t1,D,r1,i1,j1⟩:=d.o.ref (i:=0) J;obtain⟨n,r,t,y⟩:=D.cq;obtain⟨a2,l2,c2,s2,b2,k2,d2,t2,E,r2,i2,j2⟩:=d.o.ref (i:=1) J;obtain⟨o,m,l,A⟩:=E.cq;have c:=d.o.zref (i:=2) J;obtain⟨x,s,B,z⟩:=c.cq;obtain⟨S,R,K,I⟩:=c.fq;obtain⟨X,H9,Qs⟩:=DO (λ(V:H) (h:Bl W0 V)=>XC _ _ (p.num) (q.num) V (i1.below h) (i2.below h) (by have:=j.o.num.size;omega) (by have:=k.o.num.size;omega)) (λ(V:H) (h:Bl W0 V)=>XC _ _ ((p.den:Int)) ((q.den:Int)) V (j1.below h) (j2.below h) (by have:=j.o.den.size;omega) (by have:=k.o.den.size;omega)) λ(V:H) (h:Bl W0 V) (v4:M) (f:Jo V v4 (p.num*q.num)) (v9:M) (g:Jo V v9 ((p.den:Int)*(q.den:Int)))=>(by have h:=F9 _ _ (p.num*q.num) ((p.den:Int)*(q.den:Int)) V f g (CR (by have:=p.den_nz;omega) (by have:=q.den_nz;omega)) (j.o.mulN k.o) (j.o.mulD k.o);rw[K4]at h;exact h);have cg:w.heap.size≠w.heap.size+1+1:=d.o.ne 0 2 J J DB;have cj:w.heap.size+1≠w.heap.size+1+1:=d.o.ne 1 2 J J DB;have a:Bl W0 W0.drew:=(BB _ W0).drew;go_region_held3 (λb=>b.cell? ⟨w.heap.size,0,none⟩=some (C a1 l1 c1)/\b.cell? ⟨w.heap.size,1,none⟩=some (F s1)/\b.cell? ⟨w.heap.size,2,none⟩=some (C b1 k1 d1)/\b.cell? ⟨w.heap.size,3,none⟩=some (F t1)/\b.cell? ⟨w.heap.size+1,0,none⟩=some (C a2 l2 c2)/\b.cell? ⟨w.heap.size+1,1,none⟩=some (F s2)/\b.cell? ⟨w.heap.size+1,2,none⟩=some (C b2 k2 d2)/\b.cell? ⟨w.heap.size+1,3,none⟩=some (F t2)) (first|(with_reducible exact⟨n,r,t,y,o,m,l,A⟩)|(go_keep;done)|(refine⟨?_,?_,?_,?_,?_,?_,?_,?_⟩<;>((repeat rw[JB Y]);first|assumption|(go_keep;done))))
  (first
   |(go_at_call 109;refine(X.o _ a ).mono ?_;clear X;rintro e w4 ⟨v4,rfl,f,aq⟩;have a:=Bt a aq;obtain⟨n,r,t,y⟩:=(D.below a).cq;obtain⟨o,m,l,A⟩:=(E.below a).cq;obtain⟨x,s,B,z⟩:=(c.below a).cq;obtain⟨S,R,K,I⟩:=(c.below a).fq)
   |(go_at_call 109;refine(H9.o _ a ).mono ?_;clear H9;rintro e w9 ⟨v9,rfl,g,ah⟩;have f:=f.below ah;have a:=Bt a ah;obtain⟨n,r,t,y⟩:=(D.below a).cq;obtain⟨o,m,l,A⟩:=(E.below a).cq;obtain⟨x,s,B,z⟩:=(c.below a).cq;obtain⟨S,R,K,I⟩:=(c.below a).fq)
   |(go_at_call 92;refine(Qs.o _ a _ f _ g).mono ?_;clear Qs;rintro e de ⟨cz,rfl,ae,W⟩;obtain⟨ak,az,an,bc,am,ay,ap,bd,rfl⟩:=Jr.form ae;have f:=f.below W;have g:=g.below W;have a:=Bt a W;obtain⟨n,r,t,y⟩:=(D.below a).cq;obtain⟨o,m,l,A⟩:=(E.below a).cq;obtain⟨x,s,B,z⟩:=(c.below a).cq;obtain⟨S,R,K,I⟩:=(c.below a).fq))
 all_goals go_wp2_with fail
 have Qu:=Bt d.o.2.2 a;have Qt:=d.o.ge 2 J;exact BA (v:=.agg #[C ak az an,F bc,C am ay ap,F bd]) (by simp[results,results73,go_sem,x,s,B,z]) J ⟨_,J,ae.put4 (c.below a) J J J J _ _ _ _,Ju Qu Qt _ _ _ _⟩
def R1(g:M)(q:Rat)(w:H)(b:Jr w g q):
 Q L 56 #[g] w λe o=>e=.returned (N P q.num.sign)/\Bl w o:=by
 obtain⟨n,c⟩:=ex (q.num.sign);rw[c];have j:=Ja c;clear c;obtain⟨r,K,u,T,t,E,v,V,rfl⟩:=Jr.form b;obtain⟨W0,d,f⟩:=FH 49 (.ref q) b;clear b;go_enter func56,ntmps56
 go_upto_region 1 with fail
 rw[d.o];clear d;obtain⟨p,I,c1,S,s,D,d1,U,m,R,l,B⟩:=f.o.ref (i:=0) J;obtain⟨x,y,z,A⟩:=m.cq;have a:=Ja (Ry _ q.num W0 l);rw[j.o]at a;go_wp2_with(go_at_call 98;refine a.o.mono ?_;clear a;rintro e W ⟨rfl,k⟩)
 go_ret;exact⟨J,Bt f.o.2.2 k⟩
def Gv(n:Int)(r:-9223372036854775808<=n)(s:n<=9223372036854775807)(w:H):
 Q L 62 #[N P n] w λe E=>∃u,e=.returned u/\Jr E u (n:Rat)/\Bl w E:=by
 have d:=Ja λ(V:H)=>EQ n r s V;clear r s;obtain⟨W0,f,c⟩:=FH 49 (.zref) J;go_enter func62,ntmps62
 go_upto_region 1 with fail
 rw[f.o];clear f;have a:=c.o.zref (i:=0) J;obtain⟨l,g,j,k⟩:=a.cq;obtain⟨K,R,T,S⟩:=a.fq;go_wp2_with(first
  |(go_at_call 93;refine(d.o _).mono ?_;clear d;rintro e w1 ⟨u1,rfl,x,W⟩;obtain⟨m,z,p,B,rfl⟩:=Jo.form2 x)
  |(go_at_call 93;refine(EQ 1 Y Y _).mono ?_;rintro e w2 ⟨u2,rfl,y,t⟩;obtain⟨o,A,q,D,rfl⟩:=Jo.form2 y;have b:=Bt W t;obtain⟨l,g,j,k⟩:=(a.below b).cq;obtain⟨K,R,T,S⟩:=(a.below b).fq))
 have X:Jr w2 (.agg #[C m z p,F B,C o A q,F D]) (n:Rat):=Jr.mk (x.below t) y;have U:=Bt c.o.2.2 b;have I:=c.o.ge 0 J;exact BA (v:=.agg #[C m z p,F B,C o A q,F D]) (by simp[results,results62,go_sem,l,g,j,k]) J ⟨_,J,X.put4 (a.below b) J J J J _ _ _ _,Ju U I _ _ _ _⟩
end
section
variable{qs:Z}
def RowK.formsF{W:H}{a:Tb}{l cap:Nat}(h:RowK false W (C a l cap) qs):l=qs.length/\l<=cap/\cap<=9223372036854775807/\l<=1099511627776/\∃(s t:Nat->Bool) (k m:Nat->Tb) (p n o dd:Nat->Nat),∀j,j<l->Jr W (.agg #[C (k j) (p j) (n j),F (s j),C (m j) (o j) (dd j),F (t j)]) (cf qs j)/\
 ∃b,a=some ⟨b,0,none⟩/\b<W.heap.size/\W.cell? ⟨b,j*4,none⟩=some (C (k j) (p j) (n j))/\W.cell? ⟨b,j*4+1,none⟩=some (F (s j))/\W.cell? ⟨b,j*4+2,none⟩=some (C (m j) (o j) (dd j))/\W.cell? ⟨b,j*4+3,none⟩=some (F (t j)):=by
 obtain⟨r,v,w,A,x,y,z,u,D⟩:=h.pick;refine⟨r,v,w,A,λj=>Gn (y j),λj=>Gn (u j),λj=>Gp (x j),λj=>Gp (z j),λj=>Eg (x j),λj=>Gq (x j),λj=>Eg (z j),λj=>Gq (z j),λj E=>?_⟩;obtain⟨i,b,q,B,c0,c1,c2,c3⟩:=D j E;obtain⟨I,T,c',s,K,S,R,t,e,_⟩:=(show Jr W _ _ from i);simp only[Value.agg.injEq,Array.mk.injEq,List.cons.injEq,and_true]at e;obtain⟨c,d,f,g⟩:=e;rw[c,d,f,g]at i;rw[c]at c0;rw[d]at c1;rw[f]at c2;rw[g]at c3;dsimp only;rw[c,d,f,g];exact⟨i,b,q,B,c0,c1,c2,c3⟩
def R2(q:Rat):(q.num.sign==0)=decide (q=0):=by
 rw[Cc,Bo,BV,Int.sign_eq_zero_iff_zero,Rat.num_eq_zero]
def Mf{len k:Nat}(hl:len=qs.length)(c:k<=len)(a:∀j,k<=j->cf qs j=0)(b:k=0\/cf qs (k-1)≠0):Jv qs=qs.take k/\(Jv qs).length=k:=by
 have e:=Kc (p:=qs) (n:=k) Y b a;exact⟨e,by rw[e,Ae];omega⟩
def R3(a:Tb)(len cap:Nat)(qs:Z)(w:H)(h:RowK false w (C a len cap) qs):
 Q L 23 #[C a len cap] w λe R=>e=.returned (C a (Jv qs).length cap)/\RowK false R (C a (Jv qs).length cap) (Jv qs)/\Bl w R:=by
 obtain⟨hl,ad,ae,ah,s,t,W,X,ll,cc,kk,dd,A⟩:=h.formsF;obtain⟨o,S,x⟩:=DO hl A h;clear A hl h;go_enter func23,ntmps23
 go_wp2;go_loopw [3] (λv wr=>∃k:Nat,k<=len/\v=N P (k:Int)/\Hid ((∀j,k<=j->cf qs j=0)/\Bl w wr)) λv _=>(intOf v).toNat
 case atStart=>exact⟨len,Aa _,J,Ja ⟨λj T=>Xv (by have:=o.o;omega),BB _ _⟩⟩
 case round=>
  obtain⟨k,hk,rfl,c⟩:=hrel;cases k with
  |zero=>
   go_wp2;go_ret;obtain⟨r,g⟩:=Mf o.o (k:=0) (AL _) c.o.1 (Ao J);refine⟨by rw[g];rfl,?_,c.o.2⟩;rw[g,r];exact(x.o.below c.o.2).take Y
  |succ k=>
   obtain⟨B,b,rfl,l,D,E,I,K⟩:=S.o k Y;have d:=c.o.2;have y:=Ja (B.below d);replace D:=(d.cell (p:=⟨b,_,none⟩) l).trans D;replace E:=(d.cell (p:=⟨b,_,none⟩) l).trans E;replace I:=(d.cell (p:=⟨b,_,none⟩) l).trans I;replace K:=(d.cell (p:=⟨b,_,none⟩) l).trans K;have i:=Ja (R1 _ _ wr y.o);have m:=R2 (cf qs k);clear B d y;by_cases f:cf qs k=0
   . rw[show decide (cf qs k=0)=true from BG f]at m;have q:=Ja f;clear f;generalize (cf qs k).num.sign=n at i m;go_wp2_with(go_at_call 56;refine i.o.mono ?_;rintro e V ⟨rfl,u⟩)
     go_roundw
     case rel=>
      refine⟨k,Y,B5,Ja ⟨λj T=>?_,Bt c.o.2 u⟩⟩;by_cases U:j=k
      . rw[U];exact q.o
      . exact c.o.1 j Y
     case measure=>simp[intOf]
   . rw[show decide (cf qs k=0)=false from BD f]at m;have q:=Ja f;clear f;generalize (cf qs k).num.sign=n at i m;go_wp2_with(go_at_call 56;refine i.o.mono ?_;rintro e V ⟨rfl,u⟩)
     go_ret;have z:=Bt c.o.2 u;obtain⟨r,g⟩:=Mf o.o (k:=k+1) Y c.o.1 (Ax q.o);refine⟨by rw[g];rfl,?_,z⟩;rw[g,r];exact(x.o.below z).take Y
def KI(v:M)(qs:Z)(w:H)(h:RowK false w v qs):
 Q L 23 #[v] w λe b=>∃u,e=.returned u/\RowK false b u (Jv qs)/\Bl w b:=by
 obtain⟨a,l,c,rfl⟩:=h.form;refine(R3 a l c qs w h).mono ?_;rintro e b ⟨rfl,d,f⟩;exact⟨_,J,d,f⟩
def Mg{W:H}{B:Nat}(q:JC W B 49 (C none 0 0) (F false) (C none 0 0) (F false)){v:M}{p:Rat}(h:Jr W v p)(x y z u:M):Jr (put4 W B x y z u) v p:=h.put4 q J J J J _ _ _ _
def Mh(v:M)(qs:Z)(i:Int)(w:H)(h:RowK false w v qs):
 Q L 18 #[v,N P i] w λe E=>∃u,e=.returned u/\Jr E u (if i<0 then 0 else cf qs i.toNat)/\Bl w E:=by
 obtain⟨a,l,c,rfl⟩:=h.form;obtain⟨hl,ak,am,an,s,t,T,W,ll,cc,kk,dd,B⟩:=h.formsF;have K:=Ja hl;have o:=Ja B;clear hl B h;have n:Bl w (w.alloc (G #[C none 0 0,F false,C none 0 0,F false] 49)):=Ba w _;have b0:=JC.new w 49 (C none 0 0) (F false) (C none 0 0) (F false);have g:=Ja λ(V:H)=>Gv 0 Y Y V;by_cases d:i<0\/(l:Int)<=i
 . have R:=Ja (show(if i<0 then(0:Rat)else cf qs i.toNat)=((0:Int):Rat)by
    rcases d with d|d
    . rw[BH d];rfl
    . rw[BE Y,Xv (by have:=K.o;omega)];rfl)
   rw[R.o];obtain⟨W0,q⟩:=ex (w.alloc (G #[C none 0 0,F false,C none 0 0,F false] 49));rw[q]at n b0;have A:=Ja q;clear q o;rcases d with d|d
   . go_enter func18,ntmps18
     go_upto_region 1 with fail
     rw[A.o];go_wp2_with(go_at_call 62;refine(g.o _).mono ?_;clear g;rintro e w1 ⟨u,rfl,k,j⟩;have f:=b0.below j;obtain⟨r,x,y,z⟩:=f.cq;obtain⟨f0,f1,f2,f3⟩:=f.fq;obtain⟨S,ah,X,ai,U,ae,ad,aj,rfl⟩:=Jr.form k)
     exact BA (by simp[results,results18,go_sem,r,x,y,z]) J ⟨_,J,Mg f k _ _ _ _,Ju (Bt n j) (Aa _) _ _ _ _⟩
   . have p:¬i<0:=Y
     go_enter func18,ntmps18
     go_upto_region 1 with fail
     rw[A.o];go_wp2_with(go_at_call 62;refine(g.o _).mono ?_;clear g;rintro e w1 ⟨u,rfl,k,j⟩;have f:=b0.below j;obtain⟨r,x,y,z⟩:=f.cq;obtain⟨f0,f1,f2,f3⟩:=f.fq;obtain⟨S,ah,X,ai,U,ae,ad,aj,rfl⟩:=Jr.form k)
     exact BA (by simp[results,results18,go_sem,r,x,y,z]) J ⟨_,J,Mg f k _ _ _ _,Ju (Bt n j) (Aa _) _ _ _ _⟩
 . have p:¬i<0:=Y
   rw[BE p];obtain⟨m,rfl⟩:∃m:Nat,i=(m:Int):=⟨i.toNat,Y⟩;have hm:m<l:=Y
   obtain⟨D,b,rfl,hb,k0,k1,k2,k3⟩:=o.o m hm;have I:=Ja D;rw[CA];clear o D p d g b0 n;generalize s m=s1 at *;generalize t m=t1 at *;generalize T m=a1 at *;generalize W m=b1 at *;generalize ll m=l1 at *;generalize cc m=c1 at *;generalize kk m=k1 at *;generalize dd m=d1 at *;go_enter func18,ntmps18
   go_wp2;exact BA (by simp[results,results18,go_sem]) J ⟨_,J,I.o.below (Ba w _),Ba w _⟩
def XF(f:Nat->Rat)(k:Nat):Z:=(List.range k).map f
def JN(f:Nat->Rat)(k:Nat):(XF f k).length=k:=by simp[XF]
def YP(f:Nat->Rat)(k:Nat):XF f (k+1)=XF f k++[f k]:=by simp[XF,List.range_succ]
def KJ(f:Nat->Rat)(k i:Nat):cf (XF f k) i=if i<k then f i else 0:=NZ k f i
theorem Mi(va vb:M)(ps qs:Z)(w:H)(R:RowK false w va ps)(S:RowK false w vb qs)(aj:Sqs ps)(ak:Sqs qs)(bf:ps.length<1099511627776/\qs.length<1099511627776):
 Q L 30 #[va,vb] w λe w'=>∃u,e=.returned u/\RowK false w' u (Fj ps qs)/\Bl w w':=by
 obtain⟨a,s,ca,rfl⟩:=R.form;obtain⟨b,lb,cb,rfl⟩:=S.form;obtain⟨ah,ay,bc,bt,_⟩:=R.formsF;obtain⟨ai,az,bd,bu,_⟩:=S.formsF;obtain⟨n,hn⟩:=ex (max s lb:Nat);obtain⟨r,HA,HB,HP,HQ,Qm,Ql⟩:=Oc (show s<=n/\lb<=n/\n<1099511627776/\(∀k,k<n->k<s\/k<lb)from⟨Y,Y,Y,λk hk=>by omega⟩) R S aj ak ah ai;clear R S aj ak ah ai ay bc az bd hn bf;go_enter func30,ntmps30
 go_wp2;go_loopw [5,6] (λo i wr=>∃k:Nat,k<=n/\i=N P (k:Int)/\(∃oa oc,o=C oa k oc)/\Hid (Di false w.heap.size wr o (XF (λi=>cf ps i+cf qs i) k)/\Bl w wr)) λ_ i _=>n-(intOf i).toNat
 case atStart=>exact⟨0,AL _,J,⟨_,_,J⟩,Ja ⟨Di.nil _ _ _,BB _ _⟩⟩
 case round=>
  obtain⟨k,hk,rfl,⟨oa,oc,rfl⟩,d⟩:=hrel;by_cases bg:k<n
  . have y:=Ja (Mh _ ps (k:Int) wr (HA.o.below d.o.2));have x:=Ja λ(V:H) (h:Bl wr V)=>Mh _ qs (k:Int) V ((HB.o.below d.o.2).below h);rw[BE Y,CA]at y;rw[show(if(k:Int)<0 then(0:Rat)else cf qs ((k:Int)).toNat)=cf qs k from by rw[BE Y,CA]]at x;have K:=Ja λ(V:H) (u v:M) (hu:Jr V u (cf ps k)) (hv:Jr V v (cf qs k))=>Rz u v (cf ps k) (cf qs k) V hu hv (HP.o.at k) (HQ.o.at k);have Qj:=r.o.2.2.2 k bg;have HK:=Ja (show k+1<=1099511627776 by have:=r.o.2.2.1;omega);by_cases bm:(k:Int)<(s:Int)
    all_goals
     have Qk:(k:Int)<(s:Int)\/(k:Int)<(lb:Int):=Y
    . clear Qj Qk;go_wp2_with(first
       |(go_at_call 18;refine y.o.mono ?_;clear y;rintro e w1 ⟨u1,rfl,c,l⟩;have f:=l)
       |(go_at_call 18;refine(x.o _ f).mono ?_;clear x;rintro e w2 ⟨u2,rfl,I,m⟩;have c:=c.below m;have z:=Bt f m;clear f)
       |(go_at_call 71;refine(K.o _ _ _ c I).mono ?_;clear K;rintro e w3 ⟨u3,rfl,q,B⟩;have g:=Bt z B;clear z c I l m B;obtain⟨am,bi,ap,bj,an,bh,aq,bk,rfl⟩:=Jr.form q;obtain⟨v9,w9,ad,E,ae,D⟩:=XE false w.heap.size w3 _ _ (d.o.1.below g) q (by rw[JN];exact HK.o) (by have:=d.o.2.size;have:=g.size;omega);have t:=Ja E;have U:=Ja (D w.heap.size w (Aa _) (Bt d.o.2 g));clear E ae D q)
       |(at_builtin;refine Bi _ J _ _ 30 30 J _ _ J J _ _ ad ?_))
      obtain⟨W,X,A,_⟩:=t.o.form;go_roundw
      case rel=>
       refine⟨k+1,Y,by go_num,⟨W,X,?_⟩,Ja ⟨?_,U.o⟩⟩
       . rw[<-YP,JN]at A;exact A
       . rw[YP];exact t.o
      case measure=>simp[intOf];omega
    . have bn:(k:Int)<(lb:Int):=Y
      clear Qj Qk;go_wp2_with(first
       |(go_at_call 18;refine y.o.mono ?_;clear y;rintro e w1 ⟨u1,rfl,c,l⟩;have f:=l)
       |(go_at_call 18;refine(x.o _ f).mono ?_;clear x;rintro e w2 ⟨u2,rfl,I,m⟩;have c:=c.below m;have z:=Bt f m;clear f)
       |(go_at_call 71;refine(K.o _ _ _ c I).mono ?_;clear K;rintro e w3 ⟨u3,rfl,q,B⟩;have g:=Bt z B;clear z c I l m B;obtain⟨am,bi,ap,bj,an,bh,aq,bk,rfl⟩:=Jr.form q;obtain⟨v9,w9,ad,E,ae,D⟩:=XE false w.heap.size w3 _ _ (d.o.1.below g) q (by rw[JN];exact HK.o) (by have:=d.o.2.size;have:=g.size;omega);have t:=Ja E;have U:=Ja (D w.heap.size w (Aa _) (Bt d.o.2 g));clear E ae D q)
       |(at_builtin;refine Bi _ J _ _ 30 30 J _ _ J J _ _ ad ?_))
      obtain⟨W,X,A,_⟩:=t.o.form;go_roundw
      case rel=>
       refine⟨k+1,Y,by go_num,⟨W,X,?_⟩,Ja ⟨?_,U.o⟩⟩
       . rw[<-YP,JN]at A;exact A
       . rw[YP];exact t.o
      case measure=>simp[intOf];omega
  . have h1:¬(k:Int)<(s:Int):=by have:=r.o.1;omega
    have h2:¬(k:Int)<(lb:Int):=by have:=r.o.2.1;omega
    have T:=Ja λ(V:H) (h:Bl wr V)=>KI _ _ V ((d.o.1.below h).row (by rw[JN];have:=r.o.2.2.1;omega));have HE:=Ja (show Jv (XF (λi=>cf ps i+cf qs i) k)=Fj ps qs from Yr λj=>by
     rw[KJ,FP];split
     . rfl
     . have:=r.o;have g1:=Qm.o;have g2:=Ql.o;rw[Xv (p:=ps) Y,Xv (p:=qs) Y];grind)
    rw[HE.o]at T;go_wp2_with(go_at_call 23;refine(T.o _ (BB _ _)).mono ?_;clear T;rintro e w1 ⟨u1,rfl,c,l⟩;obtain⟨a8,l8,c8,rfl⟩:=c.form)
    go_ret;exact⟨_,J,c,Bt d.o.2 l⟩
def Ep(r:Bool)(W0:H)(V:H)(o:M)(qs:Z):Prop:=Di r W0.heap.size V o qs/\Bl W0 V
def Ep.below{r:Bool}{W0 V V':H}{o:M}{qs:Z}(h:Ep r W0 V o qs)(a:Bl V V'):Ep r W0 V' o qs:=⟨h.1.below a,Bt h.2 a⟩
theorem R4(va vq:M)(ps:Z)(q:Rat)(w:H)(ha:RowK false w va ps)(hq:Jr w vq q)(ap:Sqs ps)(aq:Sq q)(am:ps.length<1099511627776):
 Q L 72 #[va,vq] w λe w'=>∃u,e=.returned u/\RowK false w' u (Jv (XW q ps))/\Bl w w':=by
 obtain⟨a,E,ca,rfl⟩:=ha.form;obtain⟨a8,l8,c8,s8,b8,k8,d8,t8,rfl⟩:=Jr.form hq;obtain⟨ak,bd,bf,bm,s,t,aa,bb,ll,cc,kk,dd,hc⟩:=ha.formsF;have b0:=JC.new w 49 (C a8 l8 c8) (F s8) (C b8 k8 d8) (F t8);have Qf:Bl w (w.alloc (G #[C a8 l8 c8,F s8,C b8 k8 d8,F t8] 49)):=Ba w _;obtain⟨W0,ai⟩:=ex (w.alloc (G #[C a8 l8 c8,F s8,C b8 k8 d8,F t8] 49));rw[ai]at Qf b0;obtain⟨Qj,HA,HQ,HP,Qi,Qh,Qd,Qo⟩:=Fw ai hc (hq.below Qf) ap aq ak Qf b0;have Ql:=Ja am;clear ha hq ap aq ak bd bf hc ai am b0 Qf;go_enter func72,ntmps72
 go_upto_region 1 with fail
 rw[Qj.o];go_wp2;go_loopw [5,6] (λo i wr=>∃k:Nat,k<=E/\i=N P (k:Int)/\(∃S T,o=C S k T)/\Hid (Ep false W0 wr o (XF (λi=>cf ps i*q) k))) λ_ i _=>E-(intOf i).toNat
 case atStart=>exact⟨0,AL _,J,⟨_,_,J⟩,Ja ⟨Di.nil _ _ _,BB _ _⟩⟩
 case round=>
  obtain⟨k,hk,rfl,⟨S,T,rfl⟩,HR⟩:=hrel;by_cases bg:k<E
  . have bn:(k:Int)<(E:Int):=Y
    obtain⟨R,b,rfl,hb,c0,c1,c2,c3⟩:=HA.o k bg;have Qn:=Ja (show ∀V,Bl W0 V->(V.cell? ⟨b,k*4,none⟩=some (C (aa k) (ll k) (cc k))/\V.cell? ⟨b,k*4+1,none⟩=some (F (s k))/\V.cell? ⟨b,k*4+2,none⟩=some (C (bb k) (kk k) (dd k))/\V.cell? ⟨b,k*4+3,none⟩=some (F (t k)))/\Jr V (.agg #[C (aa k) (ll k) (cc k),F (s k),C (bb k) (kk k) (dd k),F (t k)]) (cf ps k)from λV h=>by
     have X:=Bt Qd.o h;exact⟨⟨(X.cell (p:=⟨b,_,none⟩) hb).trans c0,(X.cell (p:=⟨b,_,none⟩) hb).trans c1,(X.cell (p:=⟨b,_,none⟩) hb).trans c2,(X.cell (p:=⟨b,_,none⟩) hb).trans c3⟩,R.below X⟩)
    have HK:=Ja (show k+1<=1099511627776 by have:=Ql.o;have:=Qh.o;omega);clear R c0 c1 c2 c3 hb;go_wp2_with fail
    have Qm:=HR.o.below ((BB _ wr).drew);refine J3 Dc [[],[],[],[1,2],[3],[],[4,5],[6],[0,7,6],[8,8,0,1,2,3,4,5,6,7,8]] Tc DB
     (λD ae V=>∃(ta tb tc td te tf tg ti U tk:M),ae={ tmps:=#[C (some ⟨b,0,none⟩) E ca,.agg #[C a8 l8 c8,F s8,C b8 k8 d8,F t8],undef,.pointer (some ⟨w.heap.size,0,none⟩),C none 0 0,tk,N P ↑k,N P ↑k,C (some ⟨b,0,none⟩) E ca,N P ↑E,F true,u11,u12,ta,tb,tc,td,te,tf,tg,ti,U,undef,undef],defers:=[] }/\Hid ((D 0=true->ta=C S k T)/\(D 1=true->tb=C (some ⟨b,0,none⟩) E ca)/\(D 2=true->tc=N P (k:Int))/\(D 3=true->td=.pointer (some ⟨b,k*4,none⟩))/\(D 4=true->D 8=false->Jr V te (cf ps k))/\(D 5=true->D 8=false->Jr V tf q)/\(D 6=true->D 8=false->Jr V tg (cf ps k*q))/\(D 7=true->∃a l c,ti=C a l c)/\(D 8=true->∃a l c,U=C a l c)/\((D 9=false->tk=Value.slice S k T)/\(D 9=true->tk=U)))/\Hid ((D 7=false->Ep false W0 V (C S k T) (XF (λi=>cf ps i*q) k))/\(D 7=true->D 8=false->∃(I:H) (x y z u:M),V=I.alloc (G #[x,y,z,u] (DV false))/\(Ep false W0 I (C S k T) (XF (λi=>cf ps i*q) k))/\DU false I (.agg #[x,y,z,u]) (cf ps k*q)/\ti=C (some ⟨I.heap.size,0,none⟩) 1 1)/\(D 8=true->Ep false W0 V U (XF (λi=>cf ps i*q) k++[cf ps k*q]))))
     (E8 ⟨_,_,J,Ja ⟨B5,B5,B5,B5,B5,B5,B5,B5,B5,⟨λ_=>rfl,B5⟩⟩,Ja ⟨λ_=>Qm,B5,B5⟩⟩) ?step1 ?fin1
    case step1=>
     rintro D ae V i ds f R m n ⟨ta,tb,tc,td,te,tf,tg,ti,U,tk,rfl,d,A⟩;have bj:i<10:=(Ar.1 R).1;obtain rfl|rfl|rfl|rfl|rfl|rfl|rfl|rfl|rfl|rfl:=G2 i Y
     all_goals
      simp only[AW,AP,A0]at R;subst R
     . have r:D 8=false:=DG f n;have Qe:D 9=false:=DG f n;obtain rfl:=EH d Qe;clear m;refine DT ?_;exact⟨(ID (Ew d) ⟨λ_=>rfl,λh=>by simp[Qe]at h⟩),Ja ⟨λh=>A.o.1 (by simpa using h),λh B=>A.o.2.1 (by simpa using h) (by simpa using B),λh=>A.o.2.2 (by simpa using h)⟩⟩
     . have r:D 8=false:=DG f (DG (a:=7) f (DG (a:=6) f (DG (a:=4) f (DG (a:=3) f n))));have v:D 7=false:=DG f (DG (a:=6) f (DG (a:=4) f (DG (a:=3) f n)));have g:=A.o.1 v;clear m;refine DT ?_;exact⟨Ja ⟨d.o.1,λ_=>rfl,d.o.2.2.1,d.o.2.2.2.1,d.o.2.2.2.2.1,(ET d),(EU d),(Dy d),(Ej d),⟨λh=>(EH d) (by simpa using h),λh=>d.o.2.2.2.2.2.2.2.2.2.2 (by simpa using h)⟩⟩,Ja ⟨λ_=>g,λh=>by simp[v]at h,λh=>by simp[r]at h⟩⟩
     . have r:D 8=false:=DG f (DG (a:=7) f (DG (a:=6) f (DG (a:=4) f (DG (a:=3) f n))));have v:D 7=false:=DG f (DG (a:=6) f (DG (a:=4) f (DG (a:=3) f n)));have g:=A.o.1 v;clear m;refine DT ?_;exact⟨Ja ⟨d.o.1,d.o.2.1,λ_=>rfl,d.o.2.2.2.1,d.o.2.2.2.2.1,(ET d),(EU d),(Dy d),(Ej d),⟨λh=>(EH d) (by simpa using h),λh=>d.o.2.2.2.2.2.2.2.2.2.2 (by simpa using h)⟩⟩,Ja ⟨λ_=>g,λh=>by simp[v]at h,λh=>by simp[r]at h⟩⟩
     . have r:D 8=false:=DG f (DG (a:=7) f (DG (a:=6) f (DG (a:=4) f n)));have v:D 7=false:=DG f (DG (a:=6) f (DG (a:=4) f n));have g:=A.o.1 v;obtain rfl:=d.o.2.1 (m 1 B5);obtain rfl:=d.o.2.2.1 (m 2 B5);clear m;refine DT ?_;exact⟨Ja ⟨d.o.1,λ_=>rfl,λ_=>rfl,λ_=>rfl,d.o.2.2.2.2.1,(ET d),(EU d),(Dy d),(Ej d),⟨λh=>(EH d) (by simpa using h),λh=>d.o.2.2.2.2.2.2.2.2.2.2 (by simpa using h)⟩⟩,Ja ⟨λ_=>g,λh=>by simp[v]at h,λh=>by simp[r]at h⟩⟩
     . have r:D 8=false:=DG f (DG (a:=7) f (DG (a:=6) f n));have v:D 7=false:=DG f (DG (a:=6) f n);have g:=A.o.1 v;obtain rfl:=d.o.2.2.2.1 (m 3 B5);obtain⟨⟨e0,e1,e2,e3⟩,hr⟩:=Qn.o V g.2;clear m;refine DT ?_;exact⟨Ja ⟨d.o.1,d.o.2.1,d.o.2.2.1,λ_=>rfl,λ_ _=>hr,(ET d),(EU d),(Dy d),(Ej d),⟨λh=>(EH d) (by simpa using h),λh=>d.o.2.2.2.2.2.2.2.2.2.2 (by simpa using h)⟩⟩,Ja ⟨λ_=>g,λh=>by simp[v]at h,λh=>by simp[r]at h⟩⟩
     . have r:D 8=false:=DG f (DG (a:=7) f (DG (a:=6) f n));have v:D 7=false:=DG f (DG (a:=6) f n);have g:=A.o.1 v;have n0:=Qo.o.below g.2;obtain⟨e0,e1,e2,e3⟩:=n0.cq;clear m;refine DT ?_;exact⟨Ja ⟨d.o.1,d.o.2.1,d.o.2.2.1,d.o.2.2.2.1,d.o.2.2.2.2.1,λ_ _=>HQ.o.below g.2,(EU d),(Dy d),(Ej d),⟨λh=>(EH d) (by simpa using h),λh=>d.o.2.2.2.2.2.2.2.2.2.2 (by simpa using h)⟩⟩,Ja ⟨λ_=>g,λh=>by simp[v]at h,λh=>by simp[r]at h⟩⟩
     . have r:D 8=false:=DG f n;have v:D 7=false:=DG f n;have g:=A.o.1 v;have W:=d.o.2.2.2.2.1 (m 4 B5) r;have h1:=ET d (m 5 B5) r;clear m;have HC:=Ja (R0 _ _ (cf ps k) q V W h1 (HP.o.at k) Qi.o);clear W h1;refine JD J J λK hK=>?_;go_simp;go_wp2_with(go_at_call 73;refine HC.o.mono ?_;rintro e w5 ⟨v5,rfl,bi,ad⟩)
       exact E8 ⟨_,_,J,Ja ⟨d.o.1,d.o.2.1,d.o.2.2.1,d.o.2.2.2.1,λh B=>(d.o.2.2.2.2.1 h B).below ad,λh B=>((ET d) h B).below ad,λ_ _=>bi,(Dy d),(Ej d),⟨λh=>(EH d) (by simpa using h),λh=>d.o.2.2.2.2.2.2.2.2.2.2 (by simpa using h)⟩⟩,Ja ⟨λ_=>g.below ad,λh=>by simp[v]at h,λh=>by simp[r]at h⟩⟩
     . have r:D 8=false:=DG f n;have g:=A.o.1 n;have W:=EU d (m 6 B5) r;obtain⟨a9,l9,c9,s9,b9,k9,d9,t9,rfl⟩:=Jr.form W;clear m;refine DT ?_;exact⟨Ja ⟨d.o.1,d.o.2.1,d.o.2.2.1,d.o.2.2.2.1,λh B=>(d.o.2.2.2.2.1 h B).below (Ba V _),λh B=>((ET d) h B).below (Ba V _),λh B=>((EU d) h B).below (Ba V _),λ_=>⟨_,_,_,J⟩,(Ej d),⟨λh=>(EH d) (by simpa using h),λh=>d.o.2.2.2.2.2.2.2.2.2.2 (by simpa using h)⟩⟩,Ja ⟨λh=>by simp at h,λ_ _=>⟨V,_,_,_,_,J,g,W,J⟩,λh=>by simp[r]at h⟩⟩
     . obtain⟨I,x9,y9,z9,u9,rfl,g,bh,bc⟩:=A.o.2.1 (m 7 B5) n;obtain rfl:=d.o.1 (m 0 B5);have Qe:D 9=false:=DG f n;have Qg:=m 7 B5;obtain⟨v5,w5,aj,an,bk,ad⟩:=XE false W0.heap.size I _ _ g.1 bh (by rw[JN];exact HK.o) g.2.size;dsimp only[D6,DV]at aj;subst bc;obtain⟨a6,c6,e6,_⟩:=an.form;subst e6;clear m;refine JD J J λK hK=>?_;refine Lib.wp_append_run _ _ _ 30 30 J _ _ J J _ _ aj (hK _ _ ?_);exact E8 ⟨_,_,J,Ja ⟨λ_=>rfl,d.o.2.1,d.o.2.2.1,d.o.2.2.2.1,λ_ h=>by simp at h,λ_ h=>by simp at h,λ_ h=>by simp at h,(Dy d),λ_=>⟨_,_,_,J⟩,⟨λh=>(EH d) (by simpa using h),λh=>by simp[Qe]at h⟩⟩,Ja ⟨λh=>by simp[Qg]at h,λ_ h=>by simp at h,λ_=>⟨an,ad _ _ (Aa _) g.2⟩⟩⟩
     . clear m;refine DT ?_;exact⟨(ID d ⟨λh=>by simp at h,λ_=>rfl⟩),Ja ⟨λh=>A.o.1 (by simpa using h),λh B=>A.o.2.1 (by simpa using h) (by simpa using B),λh=>A.o.2.2 (by simpa using h)⟩⟩
    case fin1=>
     rintro D ae V ah ⟨ta,tb,tc,td,te,tf,tg,ti,U,tk,rfl,d,A⟩;have HO:=Ja (A.o.2.2 (ah 8 DB));obtain rfl:=d.o.2.2.2.2.2.2.2.2.2.2 (ah 9 DB);clear d A ah;obtain⟨a9,c9,e9,_⟩:=HO.o.1.form;rw[<-YP,JN]at e9;subst e9;go_wp2_with fail
     go_roundw
     case rel=>exact⟨k+1,Y,by go_num,⟨a9,c9,J⟩,Ja (by rw[YP];exact HO.o)⟩
     case measure=>simp[intOf];omega
  . have Qk:k=E:=Y
    subst Qk;have HT:=Ja (KI _ _ wr (HR.o.1.row (by rw[JN];omega)));have HE:=Ja (show Jv (XF (λi=>cf ps i*q) k)=Jv (XW q ps)from Yr λj=>by
     rw[KJ,GI];split
     . rfl
     . rw[Xv (by have:=Qh.o;omega)];grind)
    rw[HE.o]at HT;go_wp2_with(go_at_call 23;refine HT.o.mono ?_;clear HT;rintro e w1 ⟨u1,rfl,ay,az⟩;obtain⟨a7,l7,c7,rfl⟩:=ay.form)
    go_ret;exact⟨_,J,ay,(Bt Qd.o HR.o.2).trans (az.mono (AB Qd.o.size HR.o.2.size))⟩
theorem R5{ps:Z}(h:Sqs ps):Sqs (Jv (XW (-1) ps)):=Sqs.of λi=>by
 rw[YK,GI,show cf ps i*-1=-(cf ps i)from by grind];exact(h.at i).neg
def R6(s t:M)(ps qs:Z)(w:H)(f:RowK false w s ps)(g:RowK false w t qs)(q:Sqs ps)(i:Sqs qs)(c:ps.length<1099511627776/\qs.length<1099511627776):
 Q L 31 #[s,t] w λe v=>∃u,e=.returned u/\RowK false v u (GK ps qs)/\Bl w v:=by
 obtain⟨a,T,K,rfl⟩:=f.form;obtain⟨b,lb,R,rfl⟩:=g.form;obtain⟨x,m,n,d⟩:=Df (show Fj ps (Jv (XW (-1) qs))=GK ps qs from Yr λj=>by rw[FP,YK,FP]) (Gv (-1) Y Y w) (λ(V:H) (u:M) (h:Bl w V) (l:Jr V u ((-1:Int):Rat))=>R4 _ u qs (-1) V (g.below h) l i (Sq.of (k:=1) ⟨(Sm.one 1 Y).neg,Sm.one 1 Y⟩ Y) c.2) λ(V:H) (u:M) (h:Bl w V) (l:RowK false V u (Jv (XW (-1) qs)))=>Mi _ u ps _ V (f.below h) l q (R5 i) ⟨c.1,CQ (J7 _) (by unfold XW;rw[List.length_map];exact c.2)⟩;rw[x.o]at d;clear f g q i c;go_enter func31,ntmps31
 go_wp2_with(first
  |(go_at_call 62;refine m.o.mono ?_;clear m;rintro e U ⟨u1,rfl,B,p⟩)
  |(go_at_call 72;refine(n.o _ _ p B).mono ?_;clear n;rintro e W ⟨u2,rfl,D,z⟩;have o:=Bt p z)
  |(go_at_call 30;refine(d.o _ _ o D).mono ?_;clear d;rintro e X ⟨u3,rfl,r,A⟩;have y:=Bt o A;obtain⟨E,S,I,rfl⟩:=r.form))
 go_ret;exact⟨_,J,r,y⟩
def Gw(vq:M)(n:Nat)(q:Rat)(w:H)(x:Jr w vq q)(hn:n<1099511627775):
 Q L 74 #[N P (n:Int),vq] w λe w'=>∃u,e=.returned u/\RowK false w' u (Jv (Dq n [q]))/\Bl w w':=by
 obtain⟨l,B,p,D,m,A,r,E,rfl⟩:=Jr.form x;have b0:=JC.new w 49 (C l B p) (F D) (C m A r) (F E);have d:Bl w (w.alloc (G #[C l B p,F D,C m A r,F E] 49)):=Ba w _;obtain⟨W0,t⟩:=ex (w.alloc (G #[C l B p,F D,C m A r,F E] 49));rw[t]at d b0;obtain⟨Qe,HQ,K,Qh⟩:=Df t (x.below d) d b0;clear x t b0 d;go_enter func74,ntmps74
 go_upto_region 1 with fail
 rw[Qe.o];go_wp2;go_loopw [5,6] (λo i wr=>∃k:Nat,k<=n/\i=N P (k:Int)/\(∃X oc,o=C X k oc)/\Hid (Ep false W0 wr o (XF (λ_=>0) k))) λ_ i _=>n-(intOf i).toNat
 case atStart=>exact⟨0,AL _,J,⟨_,_,J⟩,Ja ⟨Di.nil _ _ _,BB _ _⟩⟩
 case round=>
  obtain⟨k,hk,rfl,⟨X,oc,rfl⟩,a⟩:=hrel;by_cases ak:k<n
  . have am:(k:Int)<(n:Int):=Y
    have I:=Ja (Gv 0 Y Y wr);have HK:=Ja (show k+1<=1099511627776 by omega);go_wp2_with(first
     |(go_at_call 62;refine I.o.mono ?_;clear I;rintro e w3 ⟨u3,rfl,z,y⟩;obtain⟨ae,ap,ai,aq,ah,an,aj,ay,rfl⟩:=Jr.form z;obtain⟨v9,w9,f,c,v,b⟩:=XE false W0.heap.size w3 _ _ (a.o.1.below y) z (by rw[JN];exact HK.o) (by have:=a.o.2.size;have:=y.size;omega);have R:=Ja c;have Qg:=Ja (b W0.heap.size W0 (Aa _) (Bt a.o.2 y));clear c v b z)
     |(at_builtin;refine Bi _ J _ _ 30 30 J _ _ J J _ _ f ?_))
    obtain⟨a9,c9,T,_⟩:=R.o.form;go_roundw
    case rel=>
     refine⟨k+1,Y,by go_num,⟨a9,c9,?_⟩,Ja ⟨?_,Qg.o⟩⟩
     . rw[As,JN]at T;exact T
     . rw[YP];exact R.o
    case measure=>simp[intOf];omega
  . have Qf:k=n:=Y
    subst Qf;have W:=Qh.o.below a.o.2;obtain⟨e0,e1,e2,e3⟩:=W.cq;obtain⟨v9,w9,f,c,v,b⟩:=XE false W0.heap.size wr _ _ a.o.1 (HQ.o.below a.o.2) (by rw[JN];omega) a.o.2.size;dsimp only[D6,DV]at f;have HE:=Ja (show Jv (XF (λ_=>0) k++[q])=Jv (Dq k [q])from Yr λj=>by
     rw[G5,JN,GJ,KJ];by_cases s:j=k
     . rw[BH s,BH Y,s,AZ,Et]
     . rw[BE s];by_cases U:k<=j
       . rw[BH U,Xv si];split<;>rfl
       . rw[BE U];split<;>rfl)
    have S:=b W0.heap.size W0 (Aa _) a.o.2;have g:=Ja (KI _ _ w9 (c.row (by rw[As,JN];simp;omega)));rw[HE.o]at g;clear c v b W;go_wp2_with(first
     |(at_builtin;refine Bi _ J _ _ 30 30 J _ _ J J _ _ f ?_)
     |(go_at_call 23;refine g.o.mono ?_;clear g;rintro e w1 ⟨u1,rfl,V,ad⟩;obtain⟨a7,l7,c7,rfl⟩:=V.form))
    go_ret;exact⟨_,J,V,(Bt K.o S).trans (ad.mono (AB K.o.size S.size))⟩
def DE(W:H)(R:Nat)(s:ByteArray)(I E A:Int):Prop:=W.heap[R]?=some (G #[.string s,.int P I,.int P E,.int P A] 82 (0,0))
section
variable {W W':World} {R:Nat} {s:ByteArray} {I E A:Int}
def DE.lt(h:DE W R s I E A):R<W.heap.size:=(Ab.1 h).1
def DE.c0(h:DE W R s I E A):W.cell? ⟨R,0,none⟩=some (.string s):=by simp[World.cell?,show W.heap[R]?=_ from h]
def DE.c1(h:DE W R s I E A):W.cell? ⟨R,1,none⟩=some (N P I):=by simp[World.cell?,show W.heap[R]?=_ from h]
def DE.cp(h:DE W R s I E A):type_of% (And.intro h.c0 h.c1):=⟨h.c0,h.c1⟩
def DE.c2(h:DE W R s I E A):W.cell? ⟨R,2,none⟩=some (N P E):=by simp[World.cell?,show W.heap[R]?=_ from h]
def DE.c3(h:DE W R s I E A):W.cell? ⟨R,3,none⟩=some (N P A):=by simp[World.cell?,show W.heap[R]?=_ from h]
def DE.cq(h:DE W R s I E A):type_of% (And.intro h.c0 (And.intro h.c1 (And.intro h.c2 h.c3))):=⟨h.c0,h.c1,h.c2,h.c3⟩
def DE.f(h:DE W R s I E A)(o:Nat):W.frozen? ⟨R,o,none⟩=false:=by simp[World.frozen?,show W.heap[R]?=_ from h]
def DE.below(h:DE W R s I E A)(a:Bl W W'):DE W' R s I E A:=(a.block R h.lt).trans h
def DE.set1(h:DE W R s I E A)(x:Int):DE (W.setCell ⟨R,1,none⟩ (N P x)) R s x E A:=by
 have:=JJ (o:=1) h (N P x);exact this
def DE.set2(h:DE W R s I E A)(x:Int):DE (W.setCell ⟨R,2,none⟩ (N P x)) R s I x A:=by
 have:=JJ (o:=2) h (N P x);exact this
def DE.set3(h:DE W R s I E A)(x:Int):DE (W.setCell ⟨R,3,none⟩ (N P x)) R s I E x:=by
 have:=JJ (o:=3) h (N P x);exact this
def DE.drewN(h:DE W R s I E A)(n:Nat):DE (W.drewN n) R s I E A:=h
end
variable{j:Nat}
def Js(W:H)(n:Nat)(r:Option Nat):W.grownBy (W.drewN n) r:=⟨J,J,J,Aa _,λ_ _ _=>rfl⟩
def GA(R:Nat)(s:ByteArray)(I E A e p:Int)(w:H)(h:DE w R s I E A):
 Q L 48 #[.pointer (some ⟨R,0,none⟩),N P e,N P p] w λr b=>r=.returned (.tuple #[])/\DE b R s I (if E=0 then e else E) (if E=0 then p else A)/\w.grownBy b (some R):=by
 have c2:=h.c2;have f2:=h.f 2;have f3:=h.f 3;have c3:=h.c3;by_cases a:E=0
 . rw[BH a,BH a];go_enter func48,ntmps48
   go_wp2;go_end0;exact⟨J,(h.set2 e).set3 p,Je (Jt w R 2 _) (Jt _ R 3 _)⟩
 . rw[BE a,BE a];have c:(E==0)=false:=by rw[BI];exact a
   go_enter func48,ntmps48
   go_wp2;go_end0;exact⟨J,h,Ya _ _⟩
theorem Gx{c d:UInt8}(h:c≠d):((c.toNat:Int)==(d.toNat:Int))=false:=by
 rw[BI];intro e;exact h (CU.1 Y)
theorem Jf(s:ByteArray):(Jc s).length=s.size:=by unfold Jc;simp
def Gy{f:UInt8->Bool}{s:ByteArray}{I:Nat}(d:I<=j)(e:j<=s.size)(g:∀k (a:k<s.size),I<=k->k<j->f s[k]=true)(i:∀l:j<s.size,f s[j]=false):Yw f (Jc s) I=j:=
 GN d (by rw[Jf];exact e) (λk a b c=>g k (by rwa[Jf]at a) b c) λa=>i (by rwa[Jf]at a)
def Mj{s:ByteArray}{c:UInt8}(a:j<s.size):JP (Jc s) j c=(s[j]==c):=by
 unfold JP;rw[Aj (by rw[Jf];exact a)];rfl
def Mk{s:ByteArray}{c:UInt8}(a:s.size<=j):JP (Jc s) j c=false:=by
 unfold JP;rw[AG (by rw[Jf];exact a)];rfl
def Ds(W:H)(R:Nat):Nat:=(intOf ((W.cell? ⟨R,1,none⟩).getD undef)).toNat
def Ea{W:H}{R:Nat}{s:ByteArray}{I:Nat}{E A:Int}(h:DE W R s I E A):Ds W R=I:=by
 unfold Ds;rw[h.c1];simp[intOf]
def Xd(R:Nat)(s:ByteArray)(I:Nat)(E A:Int)(c:UInt8)(w:H)(h:DE w R s I E A)(hI:I<=s.size)(hs:s.size<=300):
 Q L 47 #[.pointer (some ⟨R,0,none⟩),N .u8 (c.toNat:Int)] w λr z=>r=.returned (F (decide (E=0)&&JP (Jc s) (C7 (Jc s) I) c))/\DE z R s (C7 (Jc s) I:Nat) E A/\w.grownBy z (some R):=by
 have B:=Ja h;clear h;go_enter func47,ntmps47
 go_wp2;go_loopw [5] (λ_ wr=>∃j:Nat,I<=j/\j<=s.size/\Hid (DE wr R s j E A/\w.grownBy wr (some R)/\∀k (o:k<s.size),I<=k->k<j->s[k]=32)) λ_ wr=>s.size-Ds wr R
 case atStart=>exact⟨I,Aa _,hI,Ja ⟨B.o,Ya _ _,λk _ v x=>by omega⟩⟩
 case round=>
  obtain⟨j,v,x,a⟩:=hrel;obtain⟨c0,c1⟩:=a.o.1.cp;have c2:=a.o.1.c2;have f1:=a.o.1.f 1;by_cases y:j<s.size
  . have ae:(j:Int)<(s.size:Int):=Y
    have ad:(0:Int)<=(j:Int):=Y
    by_cases m:s[j]=32
    . have hb:((s[j].toNat:Int)==32)=true:=by rw[m];rfl
      have S:=Ja m;clear m;go_wp2_with fail
      go_quiet (fail)
      go_wp2;go_roundw
      case rel=>
       refine⟨j+1,Y,Y,Ja ⟨?_,Je (Je a.o.2.1 (Js _ _ _)) (Jt _ R 1 _),λk o q t=>?_⟩⟩
       . have:=(a.o.1.drewN nq).set1 ((j:Int)+1);rw[show((j:Int)+1)=((j+1:Nat):Int)from by omega]at this;exact this
       . by_cases e:k=j
         . subst e;exact S.o
         . exact a.o.2.2 k o q Y
      case measure=>
       have W:=Ea a.o.1;have X:Ds ((wr.drewN nq).setCell ⟨R,1,none⟩ (N P ((j:Int)+1))) R=j+1:=by
        have:=(a.o.1.drewN nq).set1 ((j:Int)+1);rw[show((j:Int)+1)=((j+1:Nat):Int)from by omega]at this ⊢;exact Ea this
       show s.size-Ds ((wr.drewN nq).setCell ⟨R,1,none⟩ (N P ((j:Int)+1))) R<s.size-Ds wr R;rw[W,X];omega
    . have hb:((s[j].toNat:Int)==32)=false:=Gx (d:=32) m;have f:=Ja (show C7 (Jc s) I=j from Gy v x (λk o q t=>by rw[a.o.2.2 k o q t];rfl) λ_=>BI.2 m);have l:=Ja (Mj (s:=s) (c:=c) y);clear m;go_wp2_with fail
      go_quiet (fail)
      go_wp2;have i:=Ja (show w.grownBy (wr.drewN nq) (some R)from Je a.o.2.1 (Js _ _ _));have g:=Ja (a.o.1.drewN nq);obtain⟨T,U⟩:=g.o.cp;have V:=g.o.c2;by_cases b:E=0
      . have u:(E==0)=true:=by rw[b];rfl
        by_cases n:s[j]=c
        . have D:((s[j].toNat:Int)==(c.toNat:Int))=true:=by rw[n];exact beq_self_eq_true _
          have p:=Ja (show(decide (E=0)&&(s[j]==c))=true by rw[b,n];simp);clear n b;go_quiet (fail)
          go_wp2;go_ret;exact⟨by rw[f.o,l.o,p.o];rfl,by rw[f.o];exact g.o.drewN _,Je i.o (Js _ _ _)⟩
        . have D:((s[j].toNat:Int)==(c.toNat:Int))=false:=Gx n;have p:=Ja (show(decide (E=0)&&(s[j]==c))=false by rw[BI.2 n,Bool.and_false]);clear n b;go_quiet (fail)
          go_wp2;go_ret;exact⟨by rw[f.o,l.o,p.o];rfl,by rw[f.o];exact g.o.drewN _,Je i.o (Js _ _ _)⟩
      . have u:(E==0)=false:=by rw[BI];exact b
        have p:=Ja (show(decide (E=0)&&(s[j]==c))=false by rw[BD b,Bool.false_and]);clear b;go_quiet (fail)
        go_wp2;go_ret;exact⟨by rw[f.o,l.o,p.o];rfl,by rw[f.o];exact g.o.drewN _,Je i.o (Js _ _ _)⟩
  . have K:j=s.size:=Y
    have hd:decide (j<s.size)=false:=BD Y;have f:=Ja (show C7 (Jc s) I=j from Gy v x (λk o q t=>by rw[a.o.2.2 k o q t];rfl) λh=>by omega);have l:=Ja (Mk (s:=s) (j:=j) (c:=c) Y);clear K y;go_wp2_with fail
    go_quiet (fail)
    go_wp2;have i:=Ja (show w.grownBy (wr.drewN nq) (some R)from Je a.o.2.1 (Js _ _ _));have g:=Ja (a.o.1.drewN nq);obtain⟨T,U⟩:=g.o.cp;have V:=g.o.c2;by_cases b:E=0
    . have u:(E==0)=true:=by rw[b];rfl
      clear b;go_quiet (fail)
      go_wp2;go_ret;exact⟨by rw[f.o,l.o,Bool.and_false];rfl,by rw[f.o];exact g.o.drewN _,Je i.o (Js _ _ _)⟩
    . have u:(E==0)=false:=by rw[BI];exact b
      clear b;go_quiet (fail)
      go_wp2;go_ret;exact⟨by rw[f.o,l.o,Bool.and_false];rfl,by rw[f.o];exact g.o.drewN _,Je i.o (Js _ _ _)⟩
end
section
variable{l:List UInt8}{d n p:Nat}
def Ml(c:UInt8)(w:H):Q L 124 #[N .u8 (c.toNat:Int)] w λr e=>r=.returned (F (DC c))/\e=w:=by
 by_cases b:48<=c.toNat
 . have f:decide ((48:Int)<=(c.toNat:Int))=true:=BG Y;by_cases d:c.toNat<=57
   . have a:=Ja (show DC c=true by simp[DC,b,d]);go_enter func124,ntmps124
     go_wp2;go_ret;exact⟨by rw[a.o];simp;omega,J⟩
   . have a:=Ja (show DC c=false by simp[DC,d]);go_enter func124,ntmps124
     go_wp2;go_ret;exact⟨by rw[a.o];simp;omega,J⟩
 . have a:=Ja (show DC c=false by simp[DC,b]);go_enter func124,ntmps124
   go_wp2;go_ret;exact⟨by rw[a.o];rfl,J⟩
def Yq(R:Nat)(s:ByteArray)(I:Nat)(E A:Int)(c:UInt8)(w:H)(h:DE w R s I E A)(j:I<=s.size)(hs:s.size<=300)(b:Bool)(l:b=(decide (E=0)&&JP (Jc s) (C7 (Jc s) I) c)):
 Q L 45 #[.pointer (some ⟨R,0,none⟩),N .u8 (c.toNat:Int)] w λr m=>r=.returned (F b)/\DE m R s ((C7 (Jc s) I+(if b then 1 else 0):Nat):Int) E A/\w.grownBy m (some R):=by
 have d:=Ja (Xd R s I E A c w h j hs);have k:=Ja (show C7 (Jc s) I<=300 from AB (J9 (by rw[Jf];exact j)) (by rw[Jf];exact hs));rw[<-l]at d;clear h j hs l;cases b
 . go_enter func45,ntmps45
   go_wp2_with first
    |(go_at_call 47;refine d.o.mono ?_;clear d;rintro e n ⟨rfl,a,f⟩;have i:=Ja a;clear a;have g:=Ja f;clear f)
   go_ret;exact⟨J,i.o,g.o⟩
 . go_enter func45,ntmps45
   go_wp2_with first
    |(go_at_call 47;refine d.o.mono ?_;clear d;rintro e n ⟨rfl,a,f⟩;have i:=Ja a;have c1:=a.c1;have f1:=a.f 1;clear a;have g:=Ja f;clear f;have o:=k.o;clear k)
   go_ret;exact⟨J,i.o.set1 _,Je g.o (Jt _ R 1 _)⟩
def Mm(h:l.all DC=true):num l<10^l.length:=by
 have:=JV (GM h);rwa[Xw]at this
def Yb(l:List UInt8)(p d n:Nat):Prop:=p+d<=l.length/\((l.drop p).take d).all DC=true/\n=num ((l.drop p).take (min 12 d))
theorem Yb.zero(h:p<=l.length):Yb l p 0 0:=⟨Y,B5,by simp[num,DR,val]⟩
def Mn(l:List UInt8)(p d:Nat)(h:p+d<l.length):(l.drop p).take (d+1)=(l.drop p).take d++[l[p+d]]:=by
 rw[AM (by rw[AX];omega),List.getElem_drop]
def Yb.all{l:List UInt8}{p d n:Nat}(h:Yb l p d n)(hl:p+d<l.length)(a:DC l[p+d]=true):((l.drop p).take (d+1)).all DC=true:=by
 rw[Mn l p d hl,CS,h.2.1];simp[a]
def Yb.next1(h:Yb l p d n)(hl:p+d<l.length)(a:DC l[p+d]=true)(b:d<12):Yb l p (d+1) (10*n+(l[p+d].toNat-48)):=by
 refine⟨Y,h.all hl a,?_⟩;rw[show min 12 (d+1)=d+1 from by omega,Mn l p d hl,Hg,h.2.2,show min 12 d=d from by omega];omega
def Yb.next2(h:Yb l p d n)(hl:p+d<l.length)(a:DC l[p+d]=true)(b:12<=d):Yb l p (d+1) n:=by
 refine⟨Y,h.all hl a,?_⟩;rw[show min 12 (d+1)=min 12 d from by omega];exact h.2.2
def Yb.lt(h:Yb l p d n):n<10^min 12 d:=by
 have e:((l.drop p).take (min 12 d)).all DC=true:=by
  rw[Am];intro c b;refine Am.1 h.2.1 c ?_;rw[show(l.drop p).take (min 12 d)=((l.drop p).take d).take (min 12 d)from by rw[List.take_take];congr 1;omega]at b;exact CW b
 have a:=Mm e;rw[Ae,AX,<-h.2.2]at a;have:=h.1;rwa[show min (min 12 d) (l.length-p)=min 12 d from by omega]at a
def Yb.lt12(h:Yb l p d n):n<1000000000000:=
 Ak h.lt (Al (n:=10) Y (by omega:min 12 d<=12))
def Yb.lt11(h:Yb l p d n)(a:d<12):n<100000000000:=
 Ak h.lt (Al (n:=10) Y (by omega:min 12 d<=11))
def Yb.dg(h:Yb l p d n)(a:∀hl:p+d<l.length,DC l[p+d]=false):DX l p=p+d:=by
 refine GN Y h.1 (λk e b c=>?_) a;have:=Am.1 h.2.1 (l[k]) ?_
 . exact this
 . rw[List.mem_iff_getElem];refine⟨k-p,by rw[Ae,AX];omega,?_⟩;rw[List.getElem_take,List.getElem_drop];congr 1;omega
def DW{α:Type}(r:Rd α)(E:Int):Int:=if E=0 then(match r with|.error e _=>(e:Int)|.ok _ _=>0)else E
def Db{α:Type}(r:Rd α)(E A:Int):Int:=if E=0 then(match r with|.error _ p=>(p:Int)|.ok _ _=>A)else A
def KK(R:Nat)(s:ByteArray)(I:Nat)(E A:Int)(p:Nat)(w:H)(h:DE w R s I E A)(hI:I<=s.size)(hs:s.size<=300)(hp:C7 (Jc s) I=p):
 Q L 91 #[.pointer (some ⟨R,0,none⟩)] w λr w'=>∃d n:Nat,r=.returned (.tuple #[N P (n:Int),N P (p:Int)])/\DX (Jc s) p=p+d/\Yb (Jc s) p d n/\DE w' R s ((p+d:Nat):Int) (DW (JI (Jc s) I) E) (Db (JI (Jc s) I) E A)/\w.grownBy w' (some R):=by
 have HI:=Ja (Xd R s I E A 32 w h hI hs);rw[hp]at HI;have Qo:p<=s.size:=by rw[<-hp];exact AB (J9 (by rw[Jf];exact hI)) (by rw[Jf];exact Aa _)
 have U:=Ja hp;have B:=Ja λ(x y:Int) (I':Int) (V:H) (hh:DE V R s I' E A)=>GA R s I' E A x y V hh;clear h hI hp;go_enter func91,ntmps91
 go_wp2_with first
  |(go_at_call 47;refine HI.o.mono ?_;clear HI;rintro e w1 ⟨rfl,ah,ai⟩;have Qn:=Ja ah;have c1:=ah.c1;clear ah;have Qp:=Ja ai;clear ai)
 go_loopw [5] (λnv wr=>∃d n:Nat,nv=N P (n:Int)/\p+d<=s.size/\Hid (DE wr R s ((p+d:Nat):Int) E A/\w.grownBy wr (some R)/\Yb (Jc s) p d n)) λ_ wr=>s.size-Ds wr R
 case atStart=>exact⟨0,0,J,Y,Ja ⟨Qn.o,Qp.o,Yb.zero (by rw[Jf];exact Qo)⟩⟩
 case round=>
  clear c1;obtain⟨d,n,rfl,aj,c⟩:=hrel;obtain⟨j,hj⟩:∃j,j=p+d:=⟨_,J⟩;have b:=Ja hj;rw[<-hj]at aj c;have aq:(j:Int)-(p:Int)=(d:Int):=Y
  clear hj;obtain⟨c0,c1⟩:=c.o.1.cp;have f1:=c.o.1.f 1;by_cases ay:j<s.size
  . have az:(j:Int)<(s.size:Int):=Y
    have ap:(0:Int)<=(j:Int):=Y
    by_cases q:DC s[j]=true
    . have W:=Ja (Ml s[j]);rw[q]at W;have am:=Yh q;have Ql:=Ja q;clear q;go_wp2_with fail
      go_quiet ((go_at_call 124;exact Calls.quiet_of_same (W.o _)))
      obtain⟨z,h0⟩:∃k,k=nq:=⟨nq,J⟩;subst h0;have l:=Ja (show DE (wr.drewN z) R s (j:Int) E A/\w.grownBy (wr.drewN z) (some R)/\Yb (Jc s) p d n from⟨c.o.1.drewN z,Je c.o.2.1 (Js _ _ _),c.o.2.2⟩);have Qk:=Ja (Ea c.o.1);clear W;by_cases ae:d<12
      . have ad:(d:Int)<12:=Y
        have hn:=l.o.2.2.lt11 ae;go_wp2;go_quiet (fail)
        have ak:=Ja (show DE ((wr.drewN z).drewN nq) R s (j:Int) E A/\w.grownBy ((wr.drewN z).drewN nq) (some R)/\Yb (Jc s) p d n from⟨l.o.1.drewN nq,Je l.o.2.1 (Js _ _ _),l.o.2.2⟩);go_wp2;go_roundw
        case rel=>
         refine⟨d+1,10*n+(s[j].toNat-48),?_,?_,Ja ⟨?_,?_,?_⟩⟩
         . congr 1;omega
         . have:=b.o;omega
         . have:=(c.o.1.drewN (z+nq)).set1 ((j:Int)+1);rw[show((j:Int)+1)=((p+(d+1):Nat):Int)from by have:=b.o;omega]at this ⊢;exact this
         . exact Je (Je c.o.2.1 (Js _ _ _)) (Jt _ R 1 _)
         . have:=c.o.2.2.next1 (by rw[Jf];have:=b.o;omega) (by simp only[<-b.o];exact Ql.o) ae;simp only[<-b.o]at this;exact this
        case measure=>
         have X:=Ea ((c.o.1.drewN (z+nq)).set1 ((j+1:Nat):Int));rw[show((j+1:Nat):Int)=(j:Int)+1 from by omega]at X;rw[X,Qk.o];omega
      . have ad:¬(d:Int)<12:=Y
        go_wp2;go_roundw
        case rel=>
         refine⟨d+1,n,J,?_,Ja ⟨?_,?_,?_⟩⟩
         . have:=b.o;omega
         . have:=(c.o.1.drewN z).set1 ((j:Int)+1);rw[show((j:Int)+1)=((p+(d+1):Nat):Int)from by have:=b.o;omega]at this ⊢;exact this
         . exact Je (Je c.o.2.1 (Js _ _ _)) (Jt _ R 1 _)
         . exact c.o.2.2.next2 (by rw[Jf];have:=b.o;omega) (by simp only[<-b.o];exact Ql.o) Y
        case measure=>
         have X:=Ea ((c.o.1.drewN z).set1 ((j+1:Nat):Int));rw[show((j+1:Nat):Int)=(j:Int)+1 from by omega]at X;rw[X,Qk.o];omega
    . have W:=Ja (Ml s[j]);have q:=Bool.eq_false_iff.2 q;rw[q]at W;have i:=Ja (show DX (Jc s) p=j by rw[b.o];exact c.o.2.2.dg λhl=>by simp only[<-b.o];exact q);clear q;go_wp2_with fail
      go_quiet ((go_at_call 124;exact Calls.quiet_of_same (W.o _)))
      obtain⟨K,D,T⟩:=DO (c.o.1.drewN nq) (show w.grownBy (wr.drewN nq) (some R)from Je c.o.2.1 (Js _ _ _)) c.o.2.2;clear c;by_cases u:d=0
      . have m:j=p:=by have:=b.o;omega
        have g:=Ja (show JI (Jc s) I=.error 2 p by unfold JI;rw[U.o,i.o,BH m]);have Qm:=Ja u;clear u;go_wp2_with first
         |(go_at_call 48;refine(B.o _ _ _ _ K.o).mono ?_;clear B;rintro e w2 ⟨rfl,f,o⟩;have l:=Ja f;have Qi:=f.c1;clear f;have S:=Ja (Je D.o o);clear o)
        refine BA (v:=.tuple #[N P (n:Int),N P (p:Int)]) (by simp[results,results91,go_sem]) J ⟨d,n,J,by rw[i.o];exact b.o,T.o,?_,S.o⟩;rw[<-b.o];have:=l.o;rw[g.o];exact this
      . by_cases ae:12<d
        . have m:¬j=p:=by have:=b.o;omega
          have Qj:((j:Int)==(p:Int))=false:=by rw[BI];omega
          have ad:(12:Int)<(d:Int):=Y
          have g:=Ja (show JI (Jc s) I=.error 3 p by unfold JI;rw[U.o,i.o,BE m,BH (by have:=b.o;omega)]);clear u;go_wp2_with first
           |(go_at_call 48;refine(B.o _ _ _ _ K.o).mono ?_;clear B;rintro e w2 ⟨rfl,f,o⟩;have l:=Ja f;have Qi:=f.c1;clear f;have S:=Ja (Je D.o o);clear o)
          refine BA (v:=.tuple #[N P (n:Int),N P (p:Int)]) (by simp[results,results91,go_sem]) J ⟨d,n,J,by rw[i.o];exact b.o,T.o,?_,S.o⟩;rw[<-b.o];have:=l.o;rw[g.o];exact this
        . have m:¬j=p:=by have:=b.o;omega
          have Qj:((j:Int)==(p:Int))=false:=by rw[BI];omega
          have ad:¬(12:Int)<(d:Int):=Y
          have t:∃a k,JI (Jc s) I=.ok a k:=by unfold JI;rw[U.o,i.o,BE m,BE (by have:=b.o;omega)];exact⟨_,_,J⟩
          obtain⟨a,k,t⟩:=t;have g:=Ja (show DW (JI (Jc s) I) E=E/\Db (JI (Jc s) I) E A=A by rw[t];unfold DW Db;constructor<;>(by_cases hE:E=0<;>simp[hE]));clear t;clear u;go_wp2;refine BA (v:=.tuple #[N P (n:Int),N P (p:Int)]) (by simp[results,results91,go_sem]) J ⟨d,n,J,by rw[i.o];exact b.o,T.o,?_,D.o⟩;rw[show((p:Int)+(d:Int))=(j:Int)from by have:=b.o;omega,g.o.1,g.o.2];exact K.o
  . have i:=Ja (show DX (Jc s) p=j by rw[b.o];exact c.o.2.2.dg λhl=>absurd hl (by rw[Jf];have:=b.o;omega));have an:decide (j<s.size)=false:=BD Y;go_wp2_with fail
    go_quiet (fail)
    obtain⟨K,D,T⟩:=DO (c.o.1.drewN nq) (show w.grownBy (wr.drewN nq) (some R)from Je c.o.2.1 (Js _ _ _)) c.o.2.2;clear c;by_cases u:d=0
    . have m:j=p:=by have:=b.o;omega
      have g:=Ja (show JI (Jc s) I=.error 2 p by unfold JI;rw[U.o,i.o,BH m]);have Qm:=Ja u;clear u;go_wp2_with first
       |(go_at_call 48;refine(B.o _ _ _ _ K.o).mono ?_;clear B;rintro e w2 ⟨rfl,f,o⟩;have l:=Ja f;have Qi:=f.c1;clear f;have S:=Ja (Je D.o o);clear o)
      refine BA (v:=.tuple #[N P (n:Int),N P (p:Int)]) (by simp[results,results91,go_sem]) J ⟨d,n,J,by rw[i.o];exact b.o,T.o,?_,S.o⟩;rw[<-b.o];have:=l.o;rw[g.o];exact this
    . by_cases ae:12<d
      . have m:¬j=p:=by have:=b.o;omega
        have Qj:((j:Int)==(p:Int))=false:=by rw[BI];omega
        have ad:(12:Int)<(d:Int):=Y
        have g:=Ja (show JI (Jc s) I=.error 3 p by unfold JI;rw[U.o,i.o,BE m,BH (by have:=b.o;omega)]);clear u;go_wp2_with first
         |(go_at_call 48;refine(B.o _ _ _ _ K.o).mono ?_;clear B;rintro e w2 ⟨rfl,f,o⟩;have l:=Ja f;have Qi:=f.c1;clear f;have S:=Ja (Je D.o o);clear o)
        refine BA (v:=.tuple #[N P (n:Int),N P (p:Int)]) (by simp[results,results91,go_sem]) J ⟨d,n,J,by rw[i.o];exact b.o,T.o,?_,S.o⟩;rw[<-b.o];have:=l.o;rw[g.o];exact this
      . have m:¬j=p:=by have:=b.o;omega
        have Qj:((j:Int)==(p:Int))=false:=by rw[BI];omega
        have ad:¬(12:Int)<(d:Int):=Y
        have t:∃a k,JI (Jc s) I=.ok a k:=by unfold JI;rw[U.o,i.o,BE m,BE (by have:=b.o;omega)];exact⟨_,_,J⟩
        obtain⟨a,k,t⟩:=t;have g:=Ja (show DW (JI (Jc s) I) E=E/\Db (JI (Jc s) I) E A=A by rw[t];unfold DW Db;constructor<;>(by_cases hE:E=0<;>simp[hE]));clear t;clear u;go_wp2;refine BA (v:=.tuple #[N P (n:Int),N P (p:Int)]) (by simp[results,results91,go_sem]) J ⟨d,n,J,by rw[i.o];exact b.o,T.o,?_,D.o⟩;rw[show((p:Int)+(d:Int))=(j:Int)from by have:=b.o;omega,g.o.1,g.o.2];exact K.o
end
section
def Rd.pos{α:Type}(r:Rd α):Prop:=∀e p,r=.error e p->e≠0
variable{l:List UInt8}{j k p:Nat}
theorem XT{α:Type}{r:Rd α}{a:α}(h:r=.ok a k)(E A:Int):DW r E=E/\Db r E A=A:=by
 grind[DW,Db]
def R7{α:Type}{r:Rd α}{e:Nat}(h:r=.error e p)(A:Int):DW r 0=(e:Int)/\Db r 0 A=(p:Int):=by
 subst h;exact⟨J,J⟩
def Eb{α:Type}(r:Rd α){E:Int}(h:E≠0)(A:Int):DW r E=E/\Db r E A=A:=by
 unfold DW Db;omega
def KL{α:Type}{r:Rd α}(hp:r.pos){E:Int}(h:DW r E=0):E=0/\∃a k,r=.ok a k:=by
 by_cases b:E=0
 . refine⟨b,?_⟩;cases r with
   |ok a k=>exact⟨a,k,J⟩
   |error e p=>
    exfalso
    rw[b,(R7 J 0).1]at h;exact hp e p J Y
 . rw[(Eb r b 0).1]at h;exact absurd h b
theorem Fc(l:List UInt8)(i:Nat):(JI l i).pos:=by
 intro e p h;grind[JI]
theorem R8(l:List UInt8)(i:Nat):(JW l i).pos:=by
 intro e p h;unfold JW at h;split at h
 . rename_i b c a;cases h;exact Fc l i _ _ a
 . split at h
   . split at h
     . rename_i b c a;cases h;exact Fc _ _ _ _ a
     grind
   . cases h
theorem R9(l:List UInt8)(i:Nat):(Xs l i).pos:=by
 intro e p h;unfold Xs at h;split at h
 . split at h
   . rename_i b c a;cases h;exact Fc _ _ _ _ a
   grind
 . cases h
theorem Fd(l:List UInt8)(i:Nat):C7 l (C7 l i)=C7 l i:=N0 _ l i
def SA(l:List UInt8)(i:Nat):JI l (C7 l i)=JI l i:=by unfold JI;rw[Fd]
def Xn(l:List UInt8)(i:Nat):Rd Rat:=if JP l (C7 l i) 120 then .ok 1 (C7 l i)else JW l i
def Mo(l:List UInt8)(i:Nat):(Xn l i).pos:=by
 unfold Xn;split
 . intro e p h;cases h
 . exact R8 l i
theorem Mp(h:D0 l j=false):DX l j=j:=by
 rcases AH j l.length with a|a
 . refine GN (Aa _) Y (λk _ b c=>by omega) λd=>?_;grind[D0]
 . unfold DX Yw;rw[AA a];rfl
theorem SB(h:D0 l j=true):JP l j 120=false:=by
 unfold D0 at h;unfold JP;cases b:l[j]? with
 |none=>rfl
 |some c=>
  rw[b]at h;simp only[Option.map_some,Option.getD_some]at h;have a:=Yh h;rw[BI];intro e;cases e;simp at a
theorem Y3(l:List UInt8)(i:Nat):JR l i=match Xn l i with
 |.error e p=>.error e p
 |.ok c k=>if JP l (C7 l k) 120 then(match Xs l (C7 l k+1)with|.error e p=>.error e p|.ok n m=>.ok (c,n) m)else .ok (c,0) (C7 l k):=by
 unfold JR Xn;grind[SB,JW,Fd,JI,Mp]
def Yb.of_ok{i d n:Nat}(h:Yb l p d n)(hp:C7 l i=p)(c:DX l p=p+d){ds:List UInt8}{b:Nat}(a:JI l i=.ok (ds,b) k):b=p/\k=p+d/\num ds=n:=by
 unfold JI at a;rw[hp,c]at a;split at a
 . cases a
 . split at a
   . cases a
   . rename_i e f;simp only[EStateM.Result.ok.injEq,Prod.mk.injEq]at a;obtain⟨⟨rfl,rfl⟩,rfl⟩:=a;refine⟨J,J,?_⟩;rw[h.2.2,show p+d-p=d from by omega,show min 12 d=d from by omega]
section
variable {W W':World} {R:Nat} {s:ByteArray} {I E A:Int}
variable{v:M}
theorem Gz(h:DE W R s I E A){cs:Array M}{t:TypeId}{m:Nat × Nat}{b:Nat}(a:W.heap[b]?=some (G cs t m))(c:t≠82):b≠R:=by
 intro e;subst e;have:=a.symm.trans h;grind
theorem Mq(h:DE W R s I E A)(hg:W.grownBy W' (some R)):∀k v ds,Row k W v ds->Row k W' v ds:=by
 intro k v ds c;obtain⟨a,cap,e,_⟩:=id c;subst e;refine c.grown hg λp f hl=>?_;obtain⟨b,i,d,cs,m,g⟩:=c.typ hl;grind[Gz]
def Jr.rd{q:Rat}(a:Jr W v q)(h:DE W R s I E A)(hg:W.grownBy W' (some R)):Jr W' v q:=DU.keep (r:=false) a (Mq h hg)
theorem RowK.rd{qs:Z}(l:RowK false W v qs)(h:DE W R s I E A)(hg:W.grownBy W' (some R)):RowK false W' v qs:=by
 obtain⟨a,cap,e,g,i,j,c⟩:=l;refine⟨a,cap,e,g,i,j,?_⟩;rcases c with c|⟨b,f,d⟩
 . exact Ao c
 . refine Ax ⟨b,f,d.keep (hg.block b d.lt ?_) (Mq h hg)⟩;obtain⟨cs,k,_⟩:=d;have:=Gz h k (by show(49:TypeId)≠_;decide);grind
end
def Dt(w V:H)(R B:Nat)(s:ByteArray)(I E A:Int)(c:Rat):Prop:=
 DE V R s I E A/\(∃a l e f b k d t,JC V B 49 (C a l e) (F f) (C b k d) (F t)/\Jr V (.agg #[C a l e,F f,C b k d,F t]) c)/\w.grownBy V (some R)/\w.heap.size<=B
section
variable {w V V':World} {R B:Nat} {s:ByteArray} {I E A I' E' A':Int} {c:Rat}
def Dt.below(h:Dt w V R B s I E A c)(e:Bl V V'):Dt w V' R B s I E A c:=by
 obtain⟨g,⟨a,l,f,o,b,k,d,t,i,j⟩,m,n⟩:=h;exact⟨g.below e,⟨a,l,f,o,b,k,d,t,i.below e,j.below e⟩,Je m (JK e _),n⟩
def Dt.rd(h:Dt w V R B s I E A c)(p:DE V' R s I' E' A')(hg:V.grownBy V' (some R)):Dt w V' R B s I' E' A' c:=by
 obtain⟨g,⟨a,l,j,q,b,k,d,t,f,m⟩,n,o⟩:=h;have i:B≠R:=Gz g f DB;exact⟨p,⟨a,l,j,q,b,k,d,t,(hg.block B f.lt λe=>i (AU e)).trans f,m.rd g hg⟩,Je n hg,o⟩
def JS{w V:H}{r:Option Nat}{B:Nat}(h:w.grownBy V r)(s:w.heap.size<=B)(o:Nat)(x:M):w.grownBy (V.setCell ⟨B,o,none⟩ x) r:=by
 have n:=Jt V B o x;obtain⟨a,b,c,d,f⟩:=h;obtain⟨g,j,k,l,m⟩:=n;exact⟨g.trans a,j.trans b,k.trans c,AB d l,λi p q=>(m i Y (by intro e;cases e;omega)).trans (f i p q)⟩
def Dt.put(h:Dt w V R B s I E A c){a:Tb}{l j:Nat}{m:Bool}{b:Tb}{k d:Nat}{t:Bool}{c':Rat}(x:Jr V (.agg #[C a l j,F m,C b k d,F t]) c'):
 Dt w (put4 V B (C a l j) (F m) (C b k d) (F t)) R B s I E A c':=by
 obtain⟨o,⟨y,S,z,T,b0,K,d0,U,n,D⟩,v,f⟩:=h;have i:R≠B:=λe=>Gz o n DB e.symm;refine⟨?_,⟨a,l,j,m,b,k,d,t,n.put _ _ _ _,DU.keep (r:=false) x λ_ _ _ g=>Row.put4 g n J J J J _ _ _ _⟩,JS (JS (JS (JS v f 0 _) f 1 _) f 2 _) f 3 _,f⟩;have p:=(BF V ⟨B,0,none⟩ (C a l j) R i).trans o;have q:=(BF _ ⟨B,1,none⟩ (F m) R i).trans p;have u:=(BF _ ⟨B,2,none⟩ (C b k d) R i).trans q;exact(BF _ ⟨B,3,none⟩ (F t) R i).trans u
end
end
variable{g i:Int}{l:List UInt8}{b d n p:Nat}
def Sok.word(h:n<1000000000000):Sok (n:Int):=Sok.of (k:=1) (by unfold Sm O;omega) Y
def Du(c:Rat):Prop:=∃x y:Nat,c=Te (x:Int) (y:Int)/\x<1000000000000/\y≠0/\y<1000000000000
theorem Du.one:Du 1:=⟨1,1,DB,Y,Y,Y⟩
def Y4(l:List UInt8)(I:Nat)(E A:Int)(c:Rat)(a:Nat)(d b:Int):Prop:=
 d=DW (Xn l I) E/\b=Db (Xn l I) E A/\Du c/\a<=l.length/\(E=0->∀c0 k,Xn l I=.ok c0 k->c=c0/\a=k)
def SC{I:Nat}{E A:Int}(b:I<=l.length)(h:(decide (E=0)&&JP l (C7 l I) 120)=true):Y4 l I E A 1 (C7 l I) E A:=by
 rw[AF]at h;have e:Xn l I=.ok 1 (C7 l I):=by unfold Xn;rw[BH h.2]
 refine⟨(XT e E A).1.symm,(XT e E A).2.symm,Du.one,J9 b,λ_ c0 k a=>?_⟩;rw[e]at a;cases a;exact⟨J,J⟩
def Mr{I:Nat}{E:Int}(h:(decide (E=0)&&JP l (C7 l I) 120)=false)(a:E=0):Xn l I=JW l I:=by
 rw[a]at h;simp at h;unfold Xn;rw[h];simp
def KM(n:Nat):Te (n:Int) 1=((n:Int):Rat):=by
 rw[<-Cq ((n:Int):Rat)];simp
def SF{I:Nat}{E A:Int}(h:(decide (E=0)&&JP l (C7 l I) 120)=false)(hp:C7 l I=p)(s:DX l p=p+d)(o:Yb l p d n)
(g:(decide (DW (JI l I) E=0)&&JP l (C7 l (p+d)) 47)=false):Y4 l I E A (Te (n:Int) 1) (C7 l (p+d)) (DW (JI l I) E) (Db (JI l I) E A):=by
 have j:Du (Te (n:Int) 1):=⟨n,1,J,o.lt12,Y,Y⟩;have f:C7 l (p+d)<=l.length:=J9 o.1;by_cases b:E=0
 . rw[Y4,Mr h b];subst b;cases c:JI l I with
   |error e q=>
    have i:JW l I=.error e q:=by unfold JW;rw[c]
    rw[i];exact⟨J,J,j,f,λ_ c0 k m=>by cases m⟩
   |ok a k=>
    obtain⟨ds,t⟩:=a;obtain⟨rfl,rfl,rfl⟩:=o.of_ok hp s c;rw[c,(XT J 0 0).1]at g;simp at g;have i:JW l I=.ok ((num ds:Int):Rat) (C7 l (t+d)):=by unfold JW;rw[c];simp[g]
    rw[i];refine⟨J,J,j,f,λ_ c0 k m=>?_⟩;cases m;exact⟨KM _,J⟩
 . refine⟨?_,?_,j,f,λr=>absurd r b⟩
   . rw[(Eb _ b A).1,(Eb _ b A).1]
   . rw[(Eb _ b A).2,(Eb _ b A).2]
def SG{I:Nat}{E A:Int}{o u:Nat}(h:(decide (E=0)&&JP l (C7 l I) 120)=false)(hp:C7 l I=p)(S:DX l p=p+d)(w:Yb l p d n)
(m:(decide (DW (JI l I) E=0)&&JP l (C7 l (p+d)) 47)=true)(U:C7 l (C7 l (p+d)+1)=b)(T:DX l b=b+o)(i:Yb l b o u)(f v:Int)(r:f=DW (JI l (C7 l (p+d)+1)) (DW (JI l I) E))(hA2:v=Db (JI l (C7 l (p+d)+1)) (DW (JI l I) E) (Db (JI l I) E A)):
 (u=0->Y4 l I E A (Te (n:Int) 1) (b+o) (if f=0 then 4 else f) (if f=0 then(b:Int)else v))/\(u≠0->Y4 l I E A (Te (n:Int) (u:Int)) (b+o) f v):=by
 rw[AF,BV]at m;obtain⟨R,a,k,t⟩:=KL (Fc l I) m.1;obtain⟨ds,V⟩:=a;obtain⟨rfl,rfl,rfl⟩:=w.of_ok hp S t;subst R;have z:Du (Te (num ds:Int) 1):=⟨num ds,1,J,w.lt12,Y,Y⟩;rw[m.1]at r hA2;rw[t,(XT J 0 A).2]at hA2;unfold Y4;rw[Mr h J];cases c:JI l (C7 l (V+d)+1)with
 |error e q=>
  have s:JW l I=.error e q:=by unfold JW;rw[t];simp[m.2,c]
  have W:=Fc _ _ _ _ c;rw[c]at r hA2;have K:f=(e:Int):=r;have D:v=(q:Int):=hA2;have x:¬f=0:=Y
  rw[s,BE x,BE x,K,D];refine⟨λ_=>⟨J,J,z,i.1,λ_ c0 k g=>by cases g⟩,λj=>⟨J,J,⟨num ds,u,J,w.lt12,j,i.lt12⟩,i.1,λ_ c0 k g=>by cases g⟩⟩
 |ok a k=>
  obtain⟨y,B⟩:=a;obtain⟨rfl,rfl,rfl⟩:=i.of_ok U T c;rw[c,(XT J 0 A).1]at r;rw[c,(XT J 0 A).2]at hA2;subst r hA2;rw[BH J,BH J];refine⟨λj=>?_,λj=>?_⟩
  . have s:JW l I=.error 4 B:=by unfold JW;rw[t];simp[m.2,c,j]
    rw[s];exact⟨J,J,z,i.1,λ_ c0 k g=>by cases g⟩
  . have s:JW l I=.ok (Te (num ds) (num y)) (B+o):=by unfold JW;rw[t];simp[m.2,c,j]
    rw[s];refine⟨J,J,⟨num ds,num y,J,w.lt12,j,i.lt12⟩,i.1,λ_ c0 k g=>?_⟩;cases g;exact⟨J,J⟩
def YQ(l:List UInt8)(I:Nat)(E A:Int)(c:Rat)(n I':Nat)(E' A':Int):Prop:=
 E'=DW (JR l I) E/\A'=Db (JR l I) E A/\(E=0->∀c0 a k,JR l I=.ok (c0,a) k->c=c0/\n=a/\I'=k)
theorem Y4.zero{I:Nat}{E A:Int}{c:Rat}(h:Y4 l I E A c b g i)(f:g=0):E=0/\i=A/\Xn l I=.ok c b:=by
 have d:=h.1;rw[f]at d;obtain⟨e,c0,k,a⟩:=KL (Mo l I) d.symm;obtain⟨rfl,rfl⟩:=h.2.2.2.2 e c0 k a;exact⟨e,h.2.1.trans (XT a E A).2,a⟩
def Y4.set{I:Nat}{E A:Int}{c:Rat}(h:Y4 l I E A c b g i)(q:g≠0)(n I':Nat):YQ l I E A c n I' g i:=by
 by_cases a:E=0
 . subst a;cases j:Xn l I with
   |ok c0 k=>
    have:=h.1;rw[j,(XT J 0 A).1]at this;exact absurd this q
   |error e p=>
    have m:JR l I=.error e p:=by rw[Y3,j]
    have d:=h.1;have f:=h.2.1;rw[j]at d f;exact⟨by rw[m];exact d,by rw[m];exact f,λ_ c0 r k o=>by rw[m]at o;cases o⟩
 . have d:=h.1;have f:=h.2.1;rw[(Eb _ a A).1]at d;rw[(Eb _ a A).2]at f;exact⟨by rw[(Eb _ a A).1];exact d,by rw[(Eb _ a A).2];exact f,λh=>absurd h a⟩
theorem YQ.of{I:Nat}{A:Int}{c:Rat}{I':Nat}(h:JR l I=.ok (c,n) I'):YQ l I 0 A c n I' 0 A:=by
 refine⟨by rw[(XT h 0 A).1],by rw[(XT h 0 A).2],λ_ c0 b k a=>?_⟩;rw[h]at a;cases a;exact⟨J,J,J⟩
def YQ.bad{I:Nat}{A:Int}{e:Nat}(c:Rat)(n I':Nat)(h:JR l I=.error e p):YQ l I 0 A c n I' e p:=by
 exact⟨by rw[h];rfl,by rw[h];rfl,λ_ c0 b k a=>by rw[h]at a;cases a⟩
def SH{I:Nat}{E A:Int}{c:Rat}(h:Y4 l I E A c b g i)(d:(decide (g=0)&&JP l (C7 l b) 120)=false):YQ l I E A c 0 (C7 l b) g i:=by
 by_cases a:g=0
 . obtain⟨rfl,rfl,e⟩:=h.zero a;subst a;simp at d;refine YQ.of ?_;rw[Y3,e];simp[d]
 . exact h.set a _ _
def SI{I:Nat}{E A:Int}{c:Rat}(h:Y4 l I E A c b g i)(a:(decide (g=0)&&JP l (C7 l b) 120)=true)(e:(decide (g=0)&&JP l (C7 l (C7 l b+1)) 94)=false):YQ l I E A c 1 (C7 l (C7 l b+1)) g i:=by
 rw[AF,BV]at a;obtain⟨d,a⟩:=a;obtain⟨rfl,rfl,f⟩:=h.zero d;subst d;simp at e;refine YQ.of ?_;rw[Y3,f];simp[a,Xs,e]
def SJ{I:Nat}{E A:Int}{c:Rat}(h:Y4 l I E A c b g i)(m:(decide (g=0)&&JP l (C7 l b) 120)=true)(o:(decide (g=0)&&JP l (C7 l (C7 l b+1)) 94)=true)(hp:C7 l (C7 l (C7 l b+1)+1)=p)(B:DX l p=p+d)(D:Yb l p d n)(j r:Int)
(s:j=DW (JI l (C7 l (C7 l b+1)+1)) g)(hA5:r=Db (JI l (C7 l (C7 l b+1)+1)) g i):(8<n->YQ l I E A c 0 (p+d) (if j=0 then 3 else j) (if j=0 then(p:Int)else r))/\(¬8<n->YQ l I E A c n (p+d) j r):=by
 rw[AF,BV]at m o;obtain⟨w,m⟩:=m;obtain⟨_,o⟩:=o;obtain⟨rfl,rfl,u⟩:=h.zero w;subst w;cases f:JI l (C7 l (C7 l b+1)+1)with
 |error e q=>
  rw[f]at s hA5;have R:=Fc _ _ _ _ f;have z:j=(e:Int):=s;have y:r=(q:Int):=hA5;have v:¬j=0:=Y
  have x:JR l I=.error e q:=by rw[Y3,u];simp[m,Xs,o,f]
  rw[BE v,BE v,z,y];exact⟨λ_=>YQ.bad _ _ _ x,λ_=>YQ.bad _ _ _ x⟩
 |ok a k=>
  obtain⟨K,S⟩:=a;obtain⟨rfl,rfl,rfl⟩:=D.of_ok hp B f;rw[f,(XT J 0 0).1]at s;rw[f,(XT J 0 _).2]at hA5;subst s hA5;rw[BH J,BH J];refine⟨λt=>YQ.bad _ _ _ ?_,λt=>YQ.of ?_⟩
  . rw[Y3,u];simp[m,Xs,o,f,t]
  . rw[Y3,u];simp[m,Xs,o,f,t]
def Dt.new{w e:H}{R:Nat}{s:ByteArray}{I E A:Int}{c:Rat}(h:DE w R s I E A)(j:Bl w e){a:Tb}{l f:Nat}{g:Bool}{b:Tb}{k d:Nat}{t:Bool}(m:Jr e (.agg #[C a l f,F g,C b k d,F t]) c):
 Dt w (e.alloc (G #[C a l f,F g,C b k d,F t] 49)) R e.heap.size s I E A c:=by
 have i:Bl e (e.alloc (G #[C a l f,F g,C b k d,F t] 49)):=Ba e _;exact⟨(h.below j).below i,⟨a,l,f,g,b,k,d,t,JC.new _ _ _ _ _ _,m.below i⟩,Je (JK j _) (JK i _),j.size⟩
def SK(R:Nat)(s:ByteArray)(I:Nat)(E A:Int)(w:H)(h:DE w R s I E A)(hI:I<=s.size)(hs:s.size<=300):
 Q L 46 #[.pointer (some ⟨R,0,none⟩)] w λr w'=>∃(u:M) (c:Rat) (n I':Nat),r=.returned u/\RowK false w' u (Jv (Dq n [c]))/\n<=8/\Du c/\I'<=s.size/\DE w' R s (I':Int) (DW (JR (Jc s) I) E) (Db (JR (Jc s) I) E A)/\(E=0->∀c0 n0 k,JR (Jc s) I=.ok (c0,n0) k->c=c0/\n=n0/\I'=k)/\w.grownBy w' (some R):=by
 have Uk:I<=(Jc s).length:=by rw[Jf];exact hI
 obtain⟨b1,bu⟩:=ex ((decide (E=0)&&JP (Jc s) (C7 (Jc s) I) 120));have Ud:=Ja bu;obtain⟨j,bc⟩:=ex (C7 (Jc s) I);have Qu:=Ja bc;have Uh:j<=s.size:=by rw[<-bc,<-Jf];exact J9 Uk
 have HW:=Ja (Gv 1 Y Y w);have Uq:=Ja λ(V:H) (f:DE V R s I E A)=>Xd R s I E A 120 V f hI hs;rw[bu,bc]at Uq;have HH:=Ja h;have Wg:=Ja Uk;clear h bu bc Uk hI;go_enter func46,ntmps46
 go_upto_region 2 with(first
  |(go_at_call 62;refine HW.o.mono ?_;clear HW;rintro e w1 ⟨u1,rfl,co,dw⟩;obtain⟨er,fc,ew,fd,et,f9,f6,fe,rfl⟩:=Jr.form co))
 have hT:=Dt.new HH.o dw co;obtain⟨W0,bt⟩:=ex (w1.alloc (G #[C er fc ew,F fd,C et f9 f6,F fe] 49));rw[bt]at hT;rw[bt];obtain⟨B,hB⟩:=ex (w1.heap.size);rw[hB]at hT;rw[hB];have HT:=Ja (show Dt w W0 R B s I E A 1 from hT);clear hT co dw bt hB;go_upto_if 15 with(first
  |(go_at_call 47;refine(Uq.o _ HT.o.1).mono ?_;clear Uq;rintro e w2 ⟨rfl,dx,dt⟩;have Qy:=Ja (HT.o.rd dx dt);clear dx dt HT))
 go_cut [4] λv w'=>v=F b1/\∃(c:Rat) (T:Nat) (d g:Int),Hid (Dt w w' R B s (T:Int) d g c/\Y4 (Jc s) I E A c T d g)
 case first=>
  cases b1 with
  |true=>
   go_wp2_with fail
   go_meet
   case rel=>exact⟨J,1,j,E,A,Ja ⟨Qy.o,by rw[<-Qu.o];exact SC Wg.o Ud.o⟩⟩
  |false=>
   obtain⟨d,bk⟩:=ex (DW (JI (Jc s) I) E);obtain⟨g,hA1⟩:=ex (Db (JI (Jc s) I) E A);have HN:=Ja λ(V:H) (f:DE V R s j E A)=>KK R s j E A j V f Uh hs (by rw[<-Qu.o];exact Fd _ _);have Uw:JI (Jc s) j=JI (Jc s) I:=by rw[<-Qu.o];exact SA _ _
   rw[Uw,bk,hA1]at HN;have Ua:=Ja bk;have Ut:=Ja hA1;clear bk hA1 Uw;go_upto_if 22 with(first
    |(go_at_call 91;refine(HN.o _ Qy.o.1).mono ?_;clear HN;rintro e w3 ⟨d1,n1,rfl,di,bh,ap,aj⟩;have X:=Ja (Qy.o.rd ap aj);clear ap aj Qy;have Ux:=Ja di;have Uv:=Ja bh;have Uf:=bh.lt12;have du:j+d1<=s.size:=(by rw[<-Jf];exact bh.1);clear di bh;obtain⟨b2,bz⟩:∃b,b=(decide (d=0)&&JP (Jc s) (C7 (Jc s) (j+d1)) 47):=⟨_,J⟩;have Ul:=Ja bz;have Uo:=Ja λ(V:H) (f:DE V R s ((j+d1:Nat):Int) d g)=>Yq R s (j+d1) d g 47 V f du hs b2 bz;clear bz;obtain⟨I2,bd⟩:=ex (C7 (Jc s) (j+d1));rw[bd]at Uo;have Qp:=Ja bd;have fg:I2<=s.size:=(by rw[<-bd,<-Jf];exact J9 (by rw[Jf];exact du));clear bd)
    |(go_at_call 45;refine(Uo.o _ X.o.1).mono ?_;clear Uo;rintro e w4 ⟨rfl,aq,ak⟩;have S:=Ja (X.o.rd aq ak);clear aq ak X))
   have Qn:=Ja λ(V:H)=>EQ (n1:Int) Y Y V;have Ui:=Ja (Sok.word Uf);cases b2 with
   |false=>
    obtain⟨W,Qz,HY⟩:=DO (λ(V:H)=>EQ 1 Y Y V) Sok.one (show(1:Int)≠0 by omega);go_wp2_with(first
     |(go_at_call 93;refine(Qn.o _).mono ?_;clear Qn;rintro e w6 ⟨eh,rfl,ah,ad⟩;have Qw:=Ja (S.o.below ad);clear ad;have Qo:=Ja ah;clear ah)
     |(go_at_call 93;refine(W.o _).mono ?_;clear W;rintro e w7 ⟨ei,rfl,ai,p⟩;have Qv:=Ja (Qw.o.below p);have Qb:=Ja (Qo.o.below p);clear p;have Qs:=Ja ai;clear ai)
     |(go_at_call 92;refine(F9 _ _ _ _ _ Qb.o Qs.o HY.o Ui.o Qz.o).mono ?_;rintro e w8 ⟨en,rfl,t,ae⟩;have U:=Qv.o.below ae;clear ae;obtain⟨cy,eb,de,ed,cz,dz,dh,ef,rfl⟩:=Jr.form t;have Qt:=Ja (U.put t);obtain⟨_,⟨x0,x1,x2,x3,x4,x5,x6,x7,a,_⟩,_,_⟩:=U;obtain⟨e0,e1,e2,e3⟩:=a.cq;obtain⟨g0,g1,g2,g3⟩:=a.fq;clear a t))
    go_meet
    case rel=>exact⟨J,_,_,_,_,Ja ⟨Qt.o,by have:=SF (A:=A) Ud.o Qu.o Ux.o Uv.o (by rw[Ua.o];exact Ul.o.symm);rw[Qp.o,Ua.o,Ut.o]at this;exact this⟩⟩
   |true=>
    have Um:I2+1<=s.size:=by
     have h5:=Ul.o.symm;rw[AF]at h5;have h6:=JU h5.2;rw[Qp.o,Jf]at h6;omega
    obtain⟨p2,ck⟩:=ex (C7 (Jc s) (I2+1));have Qr:=Ja λ(V:H) (f:DE V R s ((I2+1:Nat):Int) d g)=>KK R s (I2+1) d g p2 V f Um hs ck;have Wd:=Ja ck;clear ck;obtain⟨E2,bm⟩:=ex (DW (JI (Jc s) (I2+1)) d);obtain⟨A2,hA2⟩:=ex (Db (JI (Jc s) (I2+1)) d g);rw[bm,hA2]at Qr;have Wa:=Ja bm;have We:=Ja hA2;clear bm hA2;go_upto_if 29 with(first
     |(go_at_call 91;refine(Qr.o _ S.o.1).mono ?_;clear Qr;rintro e w5 ⟨d2,n2,rfl,dj,cj,ay,am⟩;have K:=Ja (S.o.rd ay am);clear ay am S;have Uy:=Ja dj;have Qr:=Ja cj;have Ue:=cj.lt12;clear dj cj))
    have Qq:=Ja (SG (A:=A) Ud.o Qu.o Ux.o Uv.o (by rw[Ua.o];exact Ul.o.symm) (by rw[Qp.o];exact Wd.o) Uy.o Qr.o E2 A2 (by rw[Qp.o,Ua.o];exact Wa.o.symm) (by rw[Qp.o,Ua.o,Ut.o];exact We.o.symm));by_cases bi:n2=0
    . have Wh:((n2:Int)==0)=true:=by rw[bi];rfl
      have Up:=Ja bi;clear bi;obtain⟨HF,W,Qz,HY⟩:=Df (λ(V:H) (f:DE V R s ((p2+d2:Nat):Int) E2 A2)=>GA R s ((p2+d2:Nat):Int) E2 A2 4 (p2:Int) V f) (λ(V:H)=>EQ 1 Y Y V) Sok.one (show(1:Int)≠0 by omega);go_wp2_with(first
       |(go_at_call 48;refine(HF.o _ K.o.1).mono ?_;clear HF;rintro e ff ⟨rfl,az,an⟩;have Qi:=Ja (K.o.rd az an);clear az an K)
       |(go_at_call 93;refine(Qn.o _).mono ?_;clear Qn;rintro e w6 ⟨eh,rfl,ah,ad⟩;have Qw:=Ja (Qi.o.below ad);clear ad;have Qo:=Ja ah;clear ah)
       |(go_at_call 93;refine(W.o _).mono ?_;clear W;rintro e w7 ⟨ei,rfl,ai,p⟩;have Qv:=Ja (Qw.o.below p);have Qb:=Ja (Qo.o.below p);clear p;have Qs:=Ja ai;clear ai)
       |(go_at_call 92;refine(F9 _ _ _ _ _ Qb.o Qs.o HY.o Ui.o Qz.o).mono ?_;rintro e w8 ⟨en,rfl,t,ae⟩;have U:=Qv.o.below ae;clear ae;obtain⟨cy,eb,de,ed,cz,dz,dh,ef,rfl⟩:=Jr.form t;have Qt:=Ja (U.put t);obtain⟨_,⟨x0,x1,x2,x3,x4,x5,x6,x7,a,_⟩,_,_⟩:=U;obtain⟨e0,e1,e2,e3⟩:=a.cq;obtain⟨g0,g1,g2,g3⟩:=a.fq;clear a t))
      go_meet
      case rel=>exact⟨J,_,_,_,_,Ja ⟨Qt.o,Qq.o.1 Up.o⟩⟩
    . have Wh:((n2:Int)==0)=false:=by rw[BI];omega
      obtain⟨W,Qz,HY⟩:=DO (λ(V:H)=>EQ (n2:Int) Y Y V) (Sok.word Ue) (show(n2:Int)≠0 by omega);go_wp2_with(first
       |(go_at_call 93;refine(Qn.o _).mono ?_;clear Qn;rintro e w6 ⟨eh,rfl,ah,ad⟩;have Qw:=Ja (K.o.below ad);clear ad;have Qo:=Ja ah;clear ah)
       |(go_at_call 93;refine(W.o _).mono ?_;clear W;rintro e w7 ⟨ei,rfl,ai,p⟩;have Qv:=Ja (Qw.o.below p);have Qb:=Ja (Qo.o.below p);clear p;have Qs:=Ja ai;clear ai)
       |(go_at_call 92;refine(F9 _ _ _ _ _ Qb.o Qs.o HY.o Ui.o Qz.o).mono ?_;rintro e w8 ⟨en,rfl,t,ae⟩;have U:=Qv.o.below ae;clear ae;obtain⟨cy,eb,de,ed,cz,dz,dh,ef,rfl⟩:=Jr.form t;have Qt:=Ja (U.put t);obtain⟨_,⟨x0,x1,x2,x3,x4,x5,x6,x7,a,_⟩,_,_⟩:=U;obtain⟨e0,e1,e2,e3⟩:=a.cq;obtain⟨g0,g1,g2,g3⟩:=a.fq;clear a t))
      go_meet
      case rel=>exact⟨J,_,_,_,_,Ja ⟨Qt.o,Qq.o.2 bi⟩⟩
 case rest=>
  obtain⟨rfl,c,T,d,g,z⟩:=hcut;have Us:T<=s.size:=by have:=z.o.2.2.2.2.1;rwa[Jf]at this
  obtain⟨b3,ce⟩:∃b,b=(decide (d=0)&&JP (Jc s) (C7 (Jc s) T) 120):=⟨_,J⟩;have Uc:=Ja ce.symm;obtain⟨I3,bf⟩:=ex (C7 (Jc s) T);have HX:=Ja λ(V:H) (f:DE V R s (T:Int) d g)=>Yq R s T d g 120 V f Us hs b3 ce;rw[bf]at HX;have Ug:I3<=s.size:=by rw[<-bf,<-Jf];exact J9 (by rw[Jf];exact Us)
  have D:=Ja bf;clear bf ce Qy Ud;go_upto_if 40 with(first
   |(go_at_call 45;refine(HX.o _ z.o.1.1).mono ?_;clear HX;rintro e w3 ⟨rfl,ap,aj⟩;have X:=Ja (z.o.1.rd ap aj);clear ap aj))
  cases b3 with
  |false=>
   obtain⟨_,⟨y0,y1,y2,y3,y4,y5,y6,y7,a,y⟩,_,_⟩:=X.o;obtain⟨e0,e1,e2,e3⟩:=a.cq;have l:=Ja (Gw _ 0 c _ y Y);clear a y;go_wp2_with(first
    |(go_at_call 74;refine l.o.mono ?_;clear l;rintro e w9 ⟨u9,rfl,x,q⟩;have m:=Ja (X.o.below q);clear q;have o:=Ja x;clear x;obtain⟨a7,l7,c7,rfl⟩:=o.o.form))
   go_ret;have i:=SH z.o.2 Uc.o;refine⟨_,c,0,_,J,o.o,Y,z.o.2.2.2.1,by rw[D.o];exact Ug,?_,i.2.2,m.o.2.2.1⟩;rw[<-i.1,<-i.2.1];rw[D.o];exact m.o.1
  |true=>
   have Ub:I3+1<=s.size:=by
    have h5:=Uc.o;rw[AF]at h5;have h6:=JU h5.2;rw[D.o,Jf]at h6;omega
   obtain⟨b4,cg⟩:∃b,b=(decide (d=0)&&JP (Jc s) (C7 (Jc s) (I3+1)) 94):=⟨_,J⟩;have Un:=Ja cg.symm;obtain⟨I4,bg⟩:=ex (C7 (Jc s) (I3+1));have HX:=Ja λ(V:H) (f:DE V R s ((I3+1:Nat):Int) d g)=>Yq R s (I3+1) d g 94 V f Ub hs b4 cg;rw[bg]at HX;have Uj:I4<=s.size:=by rw[<-bg,<-Jf];exact J9 (by rw[Jf];exact Ub)
   have Qm:=Ja bg;clear bg cg;go_upto_if 45 with(first
    |(go_at_call 45;refine(HX.o _ X.o.1).mono ?_;clear HX;rintro e w4 ⟨rfl,aq,ak⟩;have S:=Ja (X.o.rd aq ak);clear aq ak))
   cases b4 with
   |false=>
    obtain⟨_,⟨y0,y1,y2,y3,y4,y5,y6,y7,a,y⟩,_,_⟩:=S.o;obtain⟨e0,e1,e2,e3⟩:=a.cq;have l:=Ja (Gw _ 1 c _ y Y);clear a y;go_wp2_with(first
     |(go_at_call 74;refine l.o.mono ?_;clear l;rintro e w9 ⟨u9,rfl,x,q⟩;have m:=Ja (S.o.below q);clear q;have o:=Ja x;clear x;obtain⟨a7,l7,c7,rfl⟩:=o.o.form))
    go_ret;have i:=SI z.o.2 Uc.o (by rw[D.o];exact Un.o);refine⟨_,c,1,_,J,o.o,Y,z.o.2.2.2.1,by rw[D.o,Qm.o];exact Uj,?_,i.2.2,m.o.2.2.1⟩;rw[<-i.1,<-i.2.1];rw[D.o,Qm.o];exact m.o.1
   |true=>
    have Ur:I4+1<=s.size:=by
     have h5:=Un.o;rw[AF]at h5;have h6:=JU h5.2;rw[Qm.o,Jf]at h6;omega
    obtain⟨p5,cn⟩:=ex (C7 (Jc s) (I4+1));have Qx:=Ja λ(V:H) (f:DE V R s ((I4+1:Nat):Int) d g)=>KK R s (I4+1) d g p5 V f Ur hs cn;have Wi:=Ja cn;clear cn;obtain⟨E5,bn⟩:=ex (DW (JI (Jc s) (I4+1)) d);obtain⟨A5,hA5⟩:=ex (Db (JI (Jc s) (I4+1)) d g);rw[bn,hA5]at Qx;have Wb:=Ja bn;have Wc:=Ja hA5;clear bn hA5;go_upto_if 54 with(first
     |(go_at_call 91;refine(Qx.o _ S.o.1).mono ?_;clear Qx;rintro e w5 ⟨d5,n5,rfl,dm,bj,ay,am⟩;have K:=Ja (S.o.rd ay am);clear ay am S;have Uz:=Ja dm;have Qx:=Ja bj;have fh:=bj.lt12;have Uu:p5+d5<=s.size:=(by rw[<-Jf];exact bj.1);clear dm bj))
    have Qq:=Ja (SJ z.o.2 Uc.o (by rw[D.o];exact Un.o) (by rw[D.o,Qm.o];exact Wi.o) Uz.o Qx.o E5 A5 (by rw[D.o,Qm.o];exact Wb.o.symm) (by rw[D.o,Qm.o];exact Wc.o.symm));by_cases h8:8<n5
    . have f7:(8:Int)<(n5:Int):=Y
      have HF:=Ja λ(V:H) (f:DE V R s ((p5+d5:Nat):Int) E5 A5)=>GA R s ((p5+d5:Nat):Int) E5 A5 3 (p5:Int) V f;go_upto_region 21 with(first
       |(go_at_call 48;refine(HF.o _ K.o.1).mono ?_;clear HF;rintro e ff ⟨rfl,az,an⟩;have Qi:=Ja (K.o.rd az an);clear az an K))
      obtain⟨_,⟨y0,y1,y2,y3,y4,y5,y6,y7,a,y⟩,_,_⟩:=Qi.o;obtain⟨e0,e1,e2,e3⟩:=a.cq;have l:=Ja (Gw _ 0 c _ y Y);clear a y;go_wp2_with(first
       |(go_at_call 74;refine l.o.mono ?_;clear l;rintro e w9 ⟨u9,rfl,x,q⟩;have m:=Ja (Qi.o.below q);clear q;have o:=Ja x;clear x;obtain⟨a7,l7,c7,rfl⟩:=o.o.form))
      go_ret;have i:=Qq.o.1 h8;refine⟨_,c,0,p5+d5,J,o.o,Y,z.o.2.2.2.1,Uu,?_,i.2.2,m.o.2.2.1⟩;rw[<-i.1,<-i.2.1];exact m.o.1
    . have f7:¬(8:Int)<(n5:Int):=Y
      obtain⟨_,⟨y0,y1,y2,y3,y4,y5,y6,y7,a,y⟩,_,_⟩:=K.o;obtain⟨e0,e1,e2,e3⟩:=a.cq;have l:=Ja (Gw _ n5 c _ y Y);clear a y;go_wp2_with(first
       |(go_at_call 74;refine l.o.mono ?_;clear l;rintro e w9 ⟨u9,rfl,x,q⟩;have m:=Ja (K.o.below q);clear q;have o:=Ja x;clear x;obtain⟨a7,l7,c7,rfl⟩:=o.o.form))
      go_ret;have i:=Qq.o.2 h8;refine⟨_,c,n5,p5+d5,J,o.o,Y,z.o.2.2.2.1,Uu,?_,i.2.2,m.o.2.2.1⟩;rw[<-i.1,<-i.2.1];exact m.o.1

