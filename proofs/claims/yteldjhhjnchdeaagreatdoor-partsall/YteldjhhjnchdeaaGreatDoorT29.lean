import Derived.Test.YteldjhhjnchdeaaGreatDoorT28
import Derived.Test.YteldjhhjnchdeaaGreatDoorT25
set_option linter.all false
open Go.Value renaming slice->C,bool->F,int->N
open Go.Obj renaming cells->G
open Go renaming World->H,Value->M,Calls->Q
open Go.Proofs.Tryz renaming prog->L
open Go.IntKind renaming i64->P
set_option maxRecDepth 99999
set_option maxHeartbeats 0
namespace Go.Proofs.YteldjhhjnchdeaaGreatDoor
open Rat renaming divInt->kU
open Proofs.Tryz
open Go.RowKit Go.Shelf
attribute [local go_sem] Oper.semAt_some
section
def SI(W:H):M->Nat
 |C (some p) l _=>val 10000 ((List.range l).map λj=>Hy W ⟨p.block,p.off+j,none⟩)
 |_=>0
variable{l n:Nat}{a:kR}
def RN.rowVal{W:H}{c:Nat}(h:RN W (C a l c) n):SI W (C a l c)=n:=by
 obtain⟨f,_,_,_,g⟩:=Js h;rcases AW l with d|d
 . subst d;have m:n=0:=(JF O).1 (Ao f.symm);subst m;cases a<;>rfl
 . obtain⟨b,i,rfl,_,_⟩:=g 0 d;show val 10000 ((List.range l).map λj=>Hy W ⟨b,i+j,none⟩)=n;have e:(List.range l).map (λj=>Hy W ⟨b,i+j,none⟩)=Jc 10000 n:=by
    refine List.ext_getElem (by rw[List.length_map,List.length_range];exact f) λj g1 g2=>?_;obtain⟨o,p,e,_,k⟩:=g j O;cases e;rw[List.getElem_map,List.getElem_range,Hy,k,Aq g2];rfl
   rw[e,Jp O]
def SJ{m:Nat}(h:n<=m):(Jc 10000 n).length<=(Jc 10000 m).length:=by
 rcases AP (Jc 10000 m).length (Jc 10000 n).length with a|a
 . have:=YS O a;omega
 . exact a
def cM(l vb:M)(x y:Int)(w:H)(ha:Ju w l x)(hb:Ju w vb y)(W:D5 x<=100000000000)(ad:D5 y<=100000000000):
 Q L 109 #[l,vb] w λe w'=>∃u,e=.returned u/\Ju w' u (Int.gcd x y:Nat)/\Bl w w':=by
 obtain⟨a,la,ca,rfl,q⟩:=ha;obtain⟨b,lb,cb,rfl,r⟩:=hb;obtain⟨s,hs⟩:=ex (decide (x<0));obtain⟨t,ht⟩:=ex (decide (y<0));rw[hs,ht];clear hs ht;obtain⟨W0,g⟩:=ex (((w.alloc (G #[C a la ca,F s] 83)).alloc (G #[C b lb cb,F t] 83)).alloc (G #[C none 0 0,F false] 83));have m:Bl w W0:=by rw[<-g];exact Gp w _ _ _
 have b0:Jn W0 w.heap.size 83 (C a la ca) (F s):=by rw[<-g];exact((Jn.new w _ _ _).alloc _).alloc _
 have b1:Jn W0 (w.heap.size+1) 83 (C b lb cb) (F t):=by
  have h:=(Jn.new (w.alloc (G #[C a la ca,F s] 83)) 83 (C b lb cb) (F t)).alloc (G #[C none 0 0,F false] 83);rw[A1,g]at h;exact h
 have bR:Jn W0 (w.heap.size+1+1) 83 (C none 0 0) (F false):=by
  have h:=Jn.new ((w.alloc (G #[C a la ca,F s] 83)).alloc (G #[C b lb cb,F t] 83)) 83 (C none 0 0) (F false);rw[A1,A1,g]at h;exact h
 have r0:=RN.below q m;have r1:=RN.below r m;have k0:=b0.c0;have k2:=b1.c0;have E:la<=100000000000:=by rw[RN.len q];exact W
 have K:lb<=100000000000:=by rw[RN.len r];exact ad
 have D:=Y g;clear g q r W ad;go_enter func109,ntmps109
 go_upto_region 1 with fail
 rw[D.o];clear D;go_wp2_with fail
 go_loopw [5,6] (λxv z wr=>∃(f:kR) (d c0 X:Nat) (k:kR) (l1 c1 c:Nat),xv=C f d c0/\z=C k l1 c1/\Hid (RN wr (C f d c0) X)/\Hid (RN wr (C k l1 c1) c)/\Hid (Nat.gcd X c=Int.gcd x y)/\(d<=100000000000/\l1<=100000000000)/\Bl W0 wr)
  (λ_ z wr=>SI wr z)
 case atStart=>exact⟨a,la,ca,x.natAbs,b,lb,cb,y.natAbs,J,J,Y r0,Y r1,Y J,⟨E,K⟩,BB _ W0⟩
 case round=>
  clear r0 r1 E K;obtain⟨f,d,c0,X,k,l1,c1,c,rfl,rfl,T,i,S,⟨ae,V⟩,n⟩:=hrel;rcases AW l1 with R|R
  . subst R;have I:c=0:=(JF O).1 (Ao (RN.len i.o).symm);have HE:=Y (show X=Int.gcd x y by rw[<-S.o,I,Nat.gcd_zero_right]);have j:=bR.below n;obtain⟨q0,q1⟩:=j.cp;obtain⟨f0,f1⟩:=j.fp;clear I;go_wp2_with fail
    have A:=(KD T.o).box j J J (x0:=C f d c0) (x1:=F false);rw[HE.o]at A;have Qj:=Bt m n;have z0:=((j.set0 (C f d c0)).set1 (F false)).c0;have z1:=((j.set0 (C f d c0)).set1 (F false)).c1;exact BA (by simp[results,results109,go_sem,z0,z1]) J ⟨_,J,A,(Qj.setCell (p:=⟨_,0,none⟩) so _).setCell (p:=⟨_,1,none⟩) so _⟩
  . have Qi:c≠0:=λe=>by
     have h:=RN.len i.o;rw[e,JD]at h;simp at h;omega
    have Qk:=Y (SH f d c0 k l1 c1 X c wr T.o i.o Qi ae V);have B:=AZ X (show c>0 by omega);go_wp2_with(go_at_call 139;refine Qk.o.mono ?_;rintro e w2 ⟨u,v,rfl,hu,o,U⟩;obtain⟨ua,uc,rfl⟩:=RN.form hu;obtain⟨l,vc,rfl⟩:=RN.form o)
    have Ql:=RN.below i.o U;refine⟨⟨k,l1,c1,c,l,_,vc,X%c,J,J,Y Ql,Y o,Y (by rw[<-S.o,CB c,<-Nat.gcd_rec,CB]),⟨V,?_⟩,Bt n U⟩,?_⟩
    . have h1:=SJ (FL B);rw[<-RN.len i.o]at h1;omega
    . rw[RN.rowVal o,RN.rowVal i.o];exact B
def cN(w:H)(a b c d:M)(p0 p1:M):
 Jn ((((w.alloc (G #[a,b] 83)).alloc (G #[c,d] 83)).alloc (G #[p0,p1] 83)).alloc (G #[p0,p1] 83)) w.heap.size 83 a b/\
 Jn ((((w.alloc (G #[a,b] 83)).alloc (G #[c,d] 83)).alloc (G #[p0,p1] 83)).alloc (G #[p0,p1] 83)) (w.heap.size+1) 83 c d/\
 Jn ((((w.alloc (G #[a,b] 83)).alloc (G #[c,d] 83)).alloc (G #[p0,p1] 83)).alloc (G #[p0,p1] 83)) (w.heap.size+1+1) 83 p0 p1/\
 Jn ((((w.alloc (G #[a,b] 83)).alloc (G #[c,d] 83)).alloc (G #[p0,p1] 83)).alloc (G #[p0,p1] 83)) (w.heap.size+1+1+1) 83 p0 p1:=by
 refine⟨(((Jn.new w _ _ _).alloc _).alloc _).alloc _,?_,?_,?_⟩
 . have h:=((Jn.new (w.alloc (G #[a,b] 83)) 83 c d).alloc (G #[p0,p1] 83)).alloc (G #[p0,p1] 83);rw[A1]at h;exact h
 . have h:=(Jn.new ((w.alloc (G #[a,b] 83)).alloc (G #[c,d] 83)) 83 p0 p1).alloc (G #[p0,p1] 83);rw[A1,A1]at h;exact h
 . have h:=Jn.new (((w.alloc (G #[a,b] 83)).alloc (G #[c,d] 83)).alloc (G #[p0,p1] 83)) 83 p0 p1;rw[A1,A1,A1]at h;exact h
def cO{W:H}{c:Nat}(h:RN W (C a l c) n)(m:Bool):Ju W (.agg #[C a l c,F (m&&decide (0<l))]) (if m=true then -(n:Int)else(n:Int)):=by
 have hl:=RN.len h;have f:0<l↔n≠0:=by
  rw[hl];constructor
  . intro b g;rw[g,JD]at b;simp at b
  . intro b;exact Ac.2 λe=>b ((JF O).1 e)
 cases m with
 |false=>
  refine⟨a,l,c,?_,by simp;exact h⟩
  have:decide ((n:Int)<0)=false:=BE O
  simp[this]
 |true=>
  refine⟨a,l,c,?_,by simp;exact h⟩;simp only[Bool.true_and,if_true]
  have:decide (0<l)=decide (-(n:Int)<0):=by
   by_cases d:n=0
   . rw[BE λb=>f.1 b d,BE O]
   . rw[BI (f.2 d),BI O]
  rw[this]
def cT(a:kR)(la ca:Nat)(b:kR)(lb cb X c:Nat)(s t:Bool)(z r:Int)(w:H)(hu:RN w (C a la ca) X)(hv:RN w (C b lb cb) c)(hY:c≠0)(bg:la<=100000000000)(bh:lb<=100000000000)
(HP:Hid (¬(s=true/\X%c≠0)->(if(!(s==t))=true then -((X/c:Nat):Int)else((X/c:Nat):Int))=z/\((X%c:Nat):Int)=r))
(HN:Hid (s=true/\X%c≠0->(if(!(s==t))=true then -((X/c+1:Nat):Int)else((X/c+1:Nat):Int))=z/\((c-X%c:Nat):Int)=r)):
 Q L 111 #[.agg #[C a la ca,F s],.agg #[C b lb cb,F t]] w λe j=>∃q o,e=.returned (.tuple #[q,o])/\Ju j q z/\Ju j o r/\Bl w j:=by
 obtain⟨b0,b1,b4,b5⟩:=cN w (C a la ca) (F s) (C b lb cb) (F t) (C none 0 0) (F false);have Qo:=Rk w (G #[C a la ca,F s] 83) (G #[C b lb cb,F t] 83) (G #[C none 0 0,F false] 83) (G #[C none 0 0,F false] 83);obtain⟨W0,ak⟩:=ex ((((w.alloc (G #[C a la ca,F s] 83)).alloc (G #[C b lb cb,F t] 83)).alloc (G #[C none 0 0,F false] 83)).alloc (G #[C none 0 0,F false] 83));rw[ak]at b0 b1 b4 b5 Qo;have Uj:=Y ak;have Uf:=RN.below hu Qo;have Qw:=RN.below hv Qo;have Uk:=Y (SH a la ca b lb cb X c W0 Uf Qw hY bg bh);have Ug:=Y Qw;have Ul:=Y (RN.len hu).symm;obtain⟨k0,k1⟩:=b0.cp;obtain⟨d,k3⟩:=b1.cp;clear ak hu hv Uf Qw;go_enter func111,ntmps111
 go_upto_region 1 with fail
 rw[Uj.o];go_upto_region 2 with(go_at_call 139;refine Uk.o.mono ?_;rintro e w1 ⟨u1,v1,rfl,aq,ay,aj⟩;obtain⟨y,A,rfl⟩:=RN.form aq;obtain⟨va,vc,rfl⟩:=RN.form ay)
 obtain⟨lr,ap⟩:=ex ((Jc 10000 (X%c)).length);obtain⟨lq,an⟩:=ex ((Jc 10000 (X/c)).length);have Ue:=Y (show lr=0↔X%c=0 by
  rw[<-ap];exact⟨λh=>(JF O).1 (Ao h),λh=>by rw[h,JD];rfl⟩)
 rw[ap]at ay ⊢;rw[an]at aq ⊢;have bj:lq<=100000000000:=by
  have R:=SJ (m:=X) (n:=X/c) (Fb _ _);have h2:=Ul.o;omega
 have Ub:=Y an.symm;clear ap an;obtain⟨k0,k1⟩:=(b0.below aj).cp;obtain⟨d,k3⟩:=(b1.below aj).cp;have Qv:=Y (IQ y lq A (!(s==t)) w1);go_upto_region 3 with(go_at_call 112;refine Qv.o.mono ?_;rintro e w2 ⟨rfl,am⟩)
 obtain⟨E,bf⟩:=ex (((!(s==t))&&decide (0<lq)):Bool);have hI:=cO (RN.below aq am) (!(s==t));rw[bf]at hI ⊢;obtain⟨W3,ai⟩:=ex (w2.alloc (G #[C y lq A,F E] 83));have Qi:Bl w2 W3:=by rw[<-ai];exact Ba w2 _
 have b8:Jn W3 w2.heap.size 83 (C y lq A) (F E):=by rw[<-ai];exact Jn.new w2 _ _ _
 have Qq:Bl w1 W3:=Bt am Qi;have Qf:Bl W0 W3:=Bt aj Qq;have Qu:=hI.below Qi;have Qy:=RN.below ay Qq;have Qg:=Bt Qo Qf;obtain⟨I,az⟩:=ex (w2.heap.size);have bi:w.heap.size+1+1+1<I:=by
  have R:=(b5.below (Bt aj am)).lt;omega
 rw[ai];rw[az]at b8 ⊢;clear ai az bf hI;have p0:=b0.below Qf;have p1:=b1.below Qf;have l:=b4.below Qf;have x:=b5.below Qf;clear b0 b1 b4 b5 k0 k1 d k3;obtain⟨k0,k1⟩:=p0.cp;obtain⟨d,k3⟩:=p1.cp;obtain⟨g,i⟩:=b8.cp;obtain⟨q0,q1⟩:=l.cp;obtain⟨q2,q3⟩:=x.cp;obtain⟨f0,f1⟩:=l.fp;obtain⟨f2,f3⟩:=x.fp;obtain⟨cd,bc⟩:=ex ((!s || decide (lr=0)):Bool);have Qh:=Y bc;clear bc;go_cut [31] λv w4=>v=F cd/\w4=W3
 case first=>
  cases s with
  |false=>
   have e5:cd=true:=by rw[<-Qh.o];rfl
   go_wp2_with fail
   go_meet
   case rel=>exact⟨by rw[e5],J⟩
  |true=>
   by_cases k:lr=0
   . have e5:cd=true:=by rw[<-Qh.o];simp;omega
     have S:((lr:Int)==0)=true:=by simp;omega
     clear k;go_wp2_with fail
     go_meet
     case rel=>exact⟨by rw[e5],J⟩
   . have e5:cd=false:=by rw[<-Qh.o];simp;omega
     have S:((lr:Int)==0)=false:=by simp;omega
     clear k;go_wp2_with fail
     go_meet
     case rel=>exact⟨by rw[e5],J⟩
 case rest=>
  obtain⟨rfl,rfl⟩:=hcut;cases cd with
  |true=>
   have hc:¬(s=true/\X%c≠0):=λ⟨R,h2⟩=>by
    have h:=Qh.o;rw[R]at h;simp at h;exact h2 (Ue.o.1 h)
   obtain⟨z1,z2⟩:=HP.o hc;rw[z1]at Qu;have Qv:=Y (IQ va lr vc s);have Qz:(s&&decide (0<lr))=false:=by
    have h:=Qh.o;cases s with
    |false=>rfl
    |true=>simp at h;simp;omega
   rw[Qz]at Qv;have Qt:=Y z2;clear Qz z1 z2 hc;go_wp2_with fail
   go_region_with (first
    |(go_at_call 112;refine(Qv.o _).mono ?_;rintro e w5 ⟨rfl,D⟩;have g:=((b8.drew).below D).c0;have i:=((b8.drew).below D).c1;have q0:=((l.drew).below D).c0;have q1:=((l.drew).below D).c1;have q2:=((x.drew).below D).c0;have q3:=((x.drew).below D).c1;have f0:=((l.drew).below D).f0;have f1:=((l.drew).below D).f1;have f2:=((x.drew).below D).f0;have f3:=((x.drew).below D).f1))
   all_goals
    go_wp2_with fail
    have Qj:Bl wc w5:=((BB _ wc).drew).trans (D.mono (Aa _));have B:=l.below Qj;have Qc:=x.below Qj;obtain⟨z4,z5⟩:=MD (C y lq A) (F E) (C va lr vc) (F false) B Qc;obtain⟨Qr,Qp⟩:=z4.cp;obtain⟨Qk,Qn⟩:=z5.cp;have Qd:Jn ((w5.setCell ⟨w.heap.size+1+1,0,none⟩ (C y lq A)).setCell ⟨w.heap.size+1+1,1,none⟩ (F E)) (w.heap.size+1+1+1) 83 (C none 0 0) (F false):=(Qc.far DK _).far DK _;have W:=(KD Qy).below Qj;rw[Qt.o]at W;have Ql:=((Qu.below Qj).box B J J (x0:=C y lq A) (x1:=F E)).box Qd J J (x0:=C va lr vc) (x1:=F false);have Qm:=(W.box B J J (x0:=C y lq A) (x1:=F E)).box Qd J J (x0:=C va lr vc) (x1:=F false);have Qs:=Bt Qg Qj;exact BA (by simp[results,results111,go_sem,Qr,Qp,Qk,Qn]) J ⟨_,_,J,Ql,Qm,(((Qs.setCell (p:=⟨_,0,none⟩) so _).setCell (p:=⟨_,1,none⟩) so _).setCell (p:=⟨_,0,none⟩) so _).setCell (p:=⟨_,1,none⟩) so _⟩
  |false=>
   have hc:s=true/\X%c≠0:=by
    have h:=Qh.o;simp at h;exact⟨h.1,λe=>h.2 (Ue.o.2 e)⟩
   obtain⟨z1,z2⟩:=HN.o hc;rw[hc.1]at z1;have Ud:Ju wc (.agg #[C y lq A,F E]) (if(!(true==t))=true then -((X/c:Nat):Int)else((X/c:Nat):Int)):=by have h:=Qu;rw[hc.1]at h;exact h
   obtain⟨Ua,Uh,Qt⟩:=Dc Ud z1 z2;have bk:=AZ X (show c>0 by omega);obtain⟨Uc,Ui,Qe⟩:=Dc (Gq 1 O O) (λ(V:H) (h:Bl wc V)=>Li _ _ c (X%c) V (RN.below (RN.below Ug.o Qf) h) (RN.below Qy h) O (by rw[<-RN.len Ug.o];omega)) λ(V:H) (h:Bl wc V)=>CT (CT (b8.below h).c0 (CT (b8.below h).c1 (p1.below h).c0)) (CT (CT (l.below h).c0 (CT (l.below h).c1 (CT (x.below h).c0 (x.below h).c1))) (CT (l.below h).f0 (CT (l.below h).f1 (CT (x.below h).f0 (x.below h).f1))));have n1:¬I=w.heap.size+1+1:=O
   have n2:¬I=w.heap.size+1+1+1:=O
   have n3:¬w.heap.size+1+1=I:=O
   have n4:¬w.heap.size+1+1+1=I:=O
   have n5:¬w.heap.size+1+1=w.heap.size:=O
   have n6:¬w.heap.size=w.heap.size+1+1:=O
   clear hc Ud z1 z2 Qu;cases t with
   |true=>
    have Qx:=Y (show ∀(V:H) (u:M),Bl wc V->Ju V u 1->Q L 81 #[.agg #[C y lq A,F E],u] V λe j=>∃u,e=.returned u/\Ju j u z/\Bl V j from λV u h hu=>by
     have hx:=Ua.o.below h;simp only[beq_self_eq_true,Bool.not_true,CU,if_false]at hx;have R:=NW _ u _ 1 V hx hu (by unfold D5;rw[Aw,<-Ub.o];omega) (MC O O);have h2:=Uh.o;simp only[beq_self_eq_true,Bool.not_true,CU,if_false]at h2;rw[show((X/c:Nat):Int)+1=z from by rw[<-h2];push_cast;rfl]at R;exact R)
    go_upto_region 6 with fail
    have hq:Bl wc wc.drew:=(BB _ wc).drew;clear g i d q0 q1 q2 q3 f0 f1 f2 f3;obtain⟨⟨g,i,d⟩,⟨q0,q1,q2,q3⟩,f0,f1,f2,f3⟩:=Qe.o _ hq;go_region_held3 (λj=>j.cell? ⟨I,0,none⟩=some (C y lq A)/\j.cell? ⟨I,1,none⟩=some (F E)/\j.cell? ⟨w.heap.size+1,0,none⟩=some (C b lb cb)) (first|(with_reducible exact⟨g,i,d⟩)|(go_keep;done))
     (first
      |(go_at_call 79;refine(Uc.o _).mono ?_;rintro e w5 ⟨u5,rfl,ah,f⟩;replace hq:=Bt hq f;clear f g i d q0 q1 q2 q3 f0 f1 f2 f3;obtain⟨⟨g,i,d⟩,⟨q0,q1,q2,q3⟩,f0,f1,f2,f3⟩:=Qe.o _ hq)
      |(go_at_call 81;refine(Qx.o _ _ hq ah).mono ?_;clear ah;rintro e w6 ⟨u6,rfl,k,f⟩;obtain⟨K,T,c5,rfl⟩:=k.form;obtain⟨U,ae⟩:=ex (decide (z<0));rw[ae]at k;rw[ae];clear ae;replace hq:=Bt hq f;clear f g i d q0 q1 q2 q3 f0 f1 f2 f3;obtain⟨⟨g,i,d⟩,⟨q0,q1,q2,q3⟩,f0,f1,f2,f3⟩:=Qe.o _ hq)
      |(go_at_call 115;refine(Ui.o _ hq).mono ?_;rintro e V0 ⟨u7,rfl,S,f⟩;obtain⟨a6,c6,rfl⟩:=RN.form S;obtain⟨l6,ad⟩:=ex ((Jc 10000 (c-X%c)).length);rw[ad]at S;rw[ad];clear ad;replace k:=k.below f;replace hq:=Bt hq f;clear f g i d q0 q1 q2 q3 f0 f1 f2 f3;obtain⟨⟨g,i,d⟩,⟨q0,q1,q2,q3⟩,f0,f1,f2,f3⟩:=Qe.o _ hq))
    go_wp2_with fail
    have B:=l.below hq;have Qc:=x.below hq;obtain⟨z4,z5⟩:=MD (C K T c5) (F U) (C a6 l6 c6) (F false) B Qc;obtain⟨Qr,Qp⟩:=z4.cp;obtain⟨Qk,Qn⟩:=z5.cp;have Qd:Jn ((V0.setCell ⟨w.heap.size+1+1,0,none⟩ (C K T c5)).setCell ⟨w.heap.size+1+1,1,none⟩ (F U)) (w.heap.size+1+1+1) 83 (C none 0 0) (F false):=(Qc.far DK _).far DK _;have W:=KD S;rw[Qt.o]at W;have Ql:=(k.box B J J (x0:=C K T c5) (x1:=F U)).box Qd J J (x0:=C a6 l6 c6) (x1:=F false);have Qm:=(W.box B J J (x0:=C K T c5) (x1:=F U)).box Qd J J (x0:=C a6 l6 c6) (x1:=F false);have Qs:=Bt Qg hq;exact BA (by simp[results,results111,go_sem,Qr,Qp,Qk,Qn]) J ⟨_,_,J,Ql,Qm,(((Qs.setCell (p:=⟨_,0,none⟩) so _).setCell (p:=⟨_,1,none⟩) so _).setCell (p:=⟨_,0,none⟩) so _).setCell (p:=⟨_,1,none⟩) so _⟩
   |false=>
    have Qx:=Y (show ∀(V:H) (u:M),Bl wc V->Ju V u 1->Q L 140 #[.agg #[C y lq A,F E],u] V λe j=>∃u,e=.returned u/\Ju j u z/\Bl V j from λV u h hu=>by
     have hx:=Ua.o.below h;rw[BL (by rfl)]at hx;have R:=aN _ u _ 1 V hx hu (by unfold D5;rw[Fw,Aw,<-Ub.o];omega) (MC O O);have h2:=Uh.o;rw[BL (by rfl)]at h2;rw[show -((X/c:Nat):Int)-1=z from by rw[<-h2];push_cast;omega]at R;exact R)
    go_upto_region 7 with fail
    have hq:Bl wc wc.drew:=(BB _ wc).drew;clear g i d q0 q1 q2 q3 f0 f1 f2 f3;obtain⟨⟨g,i,d⟩,⟨q0,q1,q2,q3⟩,f0,f1,f2,f3⟩:=Qe.o _ hq;go_region_held3 (λj=>j.cell? ⟨I,0,none⟩=some (C y lq A)/\j.cell? ⟨I,1,none⟩=some (F E)/\j.cell? ⟨w.heap.size+1,0,none⟩=some (C b lb cb)) (first|(with_reducible exact⟨g,i,d⟩)|(go_keep;done))
     (first
      |(go_at_call 79;refine(Uc.o _).mono ?_;rintro e w5 ⟨u5,rfl,ah,f⟩;replace hq:=Bt hq f;clear f g i d q0 q1 q2 q3 f0 f1 f2 f3;obtain⟨⟨g,i,d⟩,⟨q0,q1,q2,q3⟩,f0,f1,f2,f3⟩:=Qe.o _ hq)
      |(go_at_call 140;refine(Qx.o _ _ hq ah).mono ?_;clear ah;rintro e w6 ⟨u6,rfl,k,f⟩;obtain⟨K,T,c5,rfl⟩:=k.form;obtain⟨U,ae⟩:=ex (decide (z<0));rw[ae]at k;rw[ae];clear ae;replace hq:=Bt hq f;clear f g i d q0 q1 q2 q3 f0 f1 f2 f3;obtain⟨⟨g,i,d⟩,⟨q0,q1,q2,q3⟩,f0,f1,f2,f3⟩:=Qe.o _ hq)
      |(go_at_call 115;refine(Ui.o _ hq).mono ?_;rintro e V0 ⟨u7,rfl,S,f⟩;obtain⟨a6,c6,rfl⟩:=RN.form S;obtain⟨l6,ad⟩:=ex ((Jc 10000 (c-X%c)).length);rw[ad]at S;rw[ad];clear ad;replace k:=k.below f;replace hq:=Bt hq f;clear f g i d q0 q1 q2 q3 f0 f1 f2 f3;obtain⟨⟨g,i,d⟩,⟨q0,q1,q2,q3⟩,f0,f1,f2,f3⟩:=Qe.o _ hq))
    go_wp2_with fail
    have B:=l.below hq;have Qc:=x.below hq;obtain⟨z4,z5⟩:=MD (C K T c5) (F U) (C a6 l6 c6) (F false) B Qc;obtain⟨Qr,Qp⟩:=z4.cp;obtain⟨Qk,Qn⟩:=z5.cp;have Qd:Jn ((V0.setCell ⟨w.heap.size+1+1,0,none⟩ (C K T c5)).setCell ⟨w.heap.size+1+1,1,none⟩ (F U)) (w.heap.size+1+1+1) 83 (C none 0 0) (F false):=(Qc.far DK _).far DK _;have W:=KD S;rw[Qt.o]at W;have Ql:=(k.box B J J (x0:=C K T c5) (x1:=F U)).box Qd J J (x0:=C a6 l6 c6) (x1:=F false);have Qm:=(W.box B J J (x0:=C K T c5) (x1:=F U)).box Qd J J (x0:=C a6 l6 c6) (x1:=F false);have Qs:=Bt Qg hq;exact BA (by simp[results,results111,go_sem,Qr,Qp,Qk,Qn]) J ⟨_,_,J,Ql,Qm,(((Qs.setCell (p:=⟨_,0,none⟩) so _).setCell (p:=⟨_,1,none⟩) so _).setCell (p:=⟨_,0,none⟩) so _).setCell (p:=⟨_,1,none⟩) so _⟩
def MT(j k:M)(x y:Int)(w:H)(l:Ju w j x)(m:Ju w k y)(i:y≠0)(n:D5 x<=100000000000)(p:D5 y<=100000000000):
 Q L 111 #[j,k] w λe d=>∃q o,e=.returned (.tuple #[q,o])/\Ju d q (x/y)/\Ju d o (x%y)/\Bl w d:=by
 obtain⟨a,la,ca,rfl,f⟩:=l;obtain⟨b,lb,cb,rfl,g⟩:=m;refine cT a la ca b lb cb x.natAbs y.natAbs _ _ (x/y) (x%y) w f g O (by rw[RN.len f];exact n) (by rw[RN.len g];exact p) (λc=>Rm i λh=>c ⟨BI h.1,h.2⟩) λc=>Rn i ⟨Bf c.1,c.2⟩
def cU(p:M)(x:Int)(w:H)(r:Ju w p x):
 Q L 73 #[p] w λe s=>e=.returned (N P x.sign)/\Bl w s:=by
 obtain⟨a,la,ca,rfl,i⟩:=r;have j:=RN.len i;have v:=(Js i).2.2.2.1;have f:Bl w (w.alloc (G #[C a la ca,F (decide (x<0))] 83)):=Ba w _;have b0:=Jn.new w 83 (C a la ca) (F (decide (x<0)));have l:la=0↔x=0:=by
  rw[j];constructor
  . intro h;have:=(JF (B:=10000) O).1 (Ao h);omega
  . intro h;rw[h,Int.natAbs_zero,JD];rfl
 have m:=Y l;obtain⟨W0,g⟩:=ex (w.alloc (G #[C a la ca,F (decide (x<0))] 83));rw[g]at f b0;have c:=Y g;obtain⟨y,o⟩:=b0.cp;by_cases k:x<0
 . have d:decide (x<0)=true:=BI k;rw[d]at c o ⊢;have b:=Y (Int.sign_eq_neg_one_of_neg k);clear j l g i d b0;go_enter func73,ntmps73
   go_upto_region 1 with fail
   rw[c.o];go_wp2_with fail
   go_ret;exact⟨by rw[b.o];rfl,f⟩
 . have d:decide (x<0)=false:=BE k;rw[d]at c o ⊢;clear j l g i d b0;rcases AW la with n|n
   . subst n;have b:=Y (show x.sign=0 by rw[m.o.1 J];rfl);go_enter func73,ntmps73
     go_upto_region 1 with fail
     rw[c.o];go_wp2_with fail
     go_ret;refine⟨?_,f⟩;rw[b.o];first|rfl|(simp;done)
   . have b:=Y (show x.sign=1 from Int.sign_eq_one_of_pos (by
      have:=m.o;rcases Ft x 0 with h|h|h
      . omega
      . have:=this.2 h;omega
      . exact h))
     have q:min (1:Int) (la:Int)=1:=O
     have t:(1:Int)<=(la:Int):=O
     have u:¬((la:Int)<1):=O
     go_enter func73,ntmps73
     go_upto_region 1 with fail
     rw[c.o];go_wp2_with fail
     go_ret;refine⟨?_,f⟩;rw[b.o];first|rfl|(simp[q];done)
end
section
open M3
variable{l:Nat}{a:kR}
def SK{x y:Int}(a:y≠0):(0:Int)<(Int.gcd x y:Nat):=by
 have:=Int.gcd_pos_of_ne_zero_right x a;omega
def Jq.mk{W:H}{s t:Bool}{b:kR}{c k d:Nat}{q:Rat}(e:Ju W (.agg #[C a l c,F s]) q.num)(f:Ju W (.agg #[C b k d,F t]) (q.den:Int)):Jq W (.agg #[C a l c,F s,C b k d,F t]) q:=⟨_,_,_,_,_,_,_,_,J,e,f⟩
def Ju.sign{W:H}{c:Nat}{s:Bool}{z:Int}(h:Ju W (.agg #[C a l c,F s]) z):s=decide (z<0):=by
 obtain⟨a',l',c',e,_⟩:=h;cases e;rfl
def KJ(va vb:M)(x y:Int)(w:H)(ha:Ju w va x)(f:Ju w vb y)(hy:y≠0)(co:Sok x)(de:Sok y):
 Q L 80 #[va,vb] w λe w'=>∃u,e=.returned u/\Jq w' u (kU x y)/\Bl w w':=by
 obtain⟨gv,jn,ii,jy,rfl⟩:=Ju.form2 ha;obtain⟨gw,jo,ij,jz,rfl⟩:=Ju.form2 f;obtain⟨W0,bc,M1⟩:=Gy 83 (.big x) ha 83 (.big y) f 85 (.zref) J;obtain⟨q,Qa,Qb⟩:=Dc hy co de;clear ha f hy co de;go_enter func80,ntmps80
 go_upto_region 1 with fail
 rw[bc.o];clear bc;obtain⟨a1,l1,c1,s1,n1,i1⟩:=M1.o.big (i:=0) J;obtain⟨Ui,Uk⟩:=n1.cp;obtain⟨a2,l2,c2,s2,n2,i2⟩:=M1.o.big (i:=1) J;obtain⟨Uj,Ug⟩:=n2.cp;go_upto_region 2 with(go_at_call 109;refine(cM _ _ x y _ i1 i2 (by have:=Qa.o.size;omega) (by have:=Qb.o.size;omega)).mono ?_;rintro e w1 ⟨u,rfl,hu,f⟩;obtain⟨bm,f6,ck,fo,rfl⟩:=Ju.form2 hu)
 obtain⟨V3,b⟩:=ex (w1.alloc (G #[C bm f6 ck,F fo] 83));obtain⟨g,c⟩:=ex (w1.heap.size);have a:DL w (w1.alloc (G #[C bm f6 ck,F fo] 83)) [some (w.heap.size,.big x),some (w.heap.size+1,.big y),some (w.heap.size+1+1,.zref),some (w1.heap.size,.big (((Int.gcd x y:Nat):Int)))]:=DL.push (M1.o.below f) (.big (((Int.gcd x y:Nat):Int))) hu;rw[b,c]at a;rw[b];rw[c];have p:Hid (DL w V3 [some (w.heap.size,.big x),some (w.heap.size+1,.big y),some (w.heap.size+1+1,.zref),some (g,.big (((Int.gcd x y:Nat):Int)))]):=Y (a);clear M1;clear a b c;clear n1 Ui Uk i1 n2 Uj Ug i2 hu f;have HG:=Y (Sok.gcd Qa.o Qb.o);by_cases r:y<0
 . have HL:=Y r;obtain⟨a4,l4,c4,s4,n4,i4⟩:=p.o.big (i:=1) J;obtain⟨Uo,Uf⟩:=n4.cp;have hs:=Ju.sign i4;rw[BI r]at hs;subst hs;clear r;go_upto_region 3 with fail
   clear n4 Uo Uf i4;obtain⟨a5,l5,c5,s5,n5,i5⟩:=p.o.big (i:=3) J;obtain⟨Uc,Ud⟩:=n5.cp;go_upto_region 4 with(go_at_call 110;refine(Pw _ (((Int.gcd x y:Nat):Int)) _ i5).mono ?_;rintro e w6 ⟨u6,rfl,an,ak⟩;obtain⟨bn,f7,cn,fs,rfl⟩:=Ju.form2 an;obtain⟨Uc,Ud⟩:=(n5.below ak).cp;obtain⟨Um,Un⟩:=(n5.below ak).fp)
   obtain⟨V6,b⟩:=ex ((w6.setCell ⟨g,0,none⟩ (C bn f7 cn)).setCell ⟨g,1,none⟩ (F fs));have a:DL w ((w6.setCell ⟨g,0,none⟩ (C bn f7 cn)).setCell ⟨g,1,none⟩ (F fs)) [some (w.heap.size,.big x),some (w.heap.size+1,.big y),some (w.heap.size+1+1,.zref),some (g,.big (-((Int.gcd x y:Nat):Int)))]:=DL.putBig (p.o.below ak) (i:=3) J an;rw[b]at a;rw[b];have M3:Hid (DL w V6 [some (w.heap.size,.big x),some (w.heap.size+1,.big y),some (w.heap.size+1+1,.zref),some (g,.big (-((Int.gcd x y:Nat):Int)))]):=Y (a);clear p;clear a b;clear n5 Uc Ud i5 an ak Um Un;obtain⟨A,s,z⟩:=Dc (show(-((Int.gcd x y:Nat):Int))≠0 by have:=SK (x:=x) q.o;omega) (show(-((Int.gcd x y:Nat):Int))=(if y<0 then -((Int.gcd x y:Nat):Int)else((Int.gcd x y:Nat):Int))by rw[BL HL.o]) HG.o.neg;obtain⟨a7,l7,c7,s7,n7,i7⟩:=M3.o.big (i:=0) J;obtain⟨Ue,Up⟩:=n7.cp;obtain⟨a8,l8,c8,s8,n8,i8⟩:=M3.o.big (i:=3) J;obtain⟨Uh,Ul⟩:=n8.cp;go_upto_region 5 with(go_at_call 111;refine(MT _ _ x ((-((Int.gcd x y:Nat):Int))) _ i7 i8 A.o (by have:=Qa.o.size;omega) (by have:=z.o.size;omega)).mono ?_;rintro e m ⟨u1,u2,rfl,j,k,f⟩;obtain⟨B,U,K,ad,rfl⟩:=Ju.form2 j;obtain⟨D,V,R,ae,rfl⟩:=Ju.form2 k)
   have a:=DL.push (DL.push (M3.o.below f) (.big (x/(-((Int.gcd x y:Nat):Int)))) j) (.big (x%(-((Int.gcd x y:Nat):Int)))) (Has.alloc (d:=.big (x%(-((Int.gcd x y:Nat):Int)))) k _);simp only[A1]at a;have a:DL w ((m.alloc (G #[C B U K,F ad] 83)).alloc (G #[C D V R,F ae] 83)) [some (w.heap.size,.big x),some (w.heap.size+1,.big y),some (w.heap.size+1+1,.zref),some (g,.big (-((Int.gcd x y:Nat):Int))),some (m.heap.size,.big (x/(-((Int.gcd x y:Nat):Int)))),some (m.heap.size+1,.big (x%(-((Int.gcd x y:Nat):Int))))]:=a;obtain⟨fw,b⟩:=ex ((m.alloc (G #[C B U K,F ad] 83)).alloc (G #[C D V R,F ae] 83));obtain⟨B9,c⟩:=ex (m.heap.size);rw[b,c]at a;rw[b];rw[c];obtain⟨B10,l⟩:=ex (B9+1);rw[l]at a ⊢;have o:Hid (DL w fw [some (w.heap.size,.big x),some (w.heap.size+1,.big y),some (w.heap.size+1+1,.zref),some (g,.big (-((Int.gcd x y:Nat):Int))),some (B9,.big (x/(-((Int.gcd x y:Nat):Int)))),some (B10,.big (x%(-((Int.gcd x y:Nat):Int))))]):=Y (a);clear M3;clear a b c l;clear n7 Ue Up i7 n8 Uh Ul i8 j k f;obtain⟨gl,jg,gy,jp,f8,dh⟩:=o.o.big (i:=1) J;obtain⟨Qr,Qk⟩:=f8.cp;obtain⟨gn,jh,gz,jr,f9,di⟩:=o.o.big (i:=3) J;obtain⟨Ub,Qz⟩:=f9.cp;go_upto_region 6 with(go_at_call 111;refine(MT _ _ y ((-((Int.gcd x y:Nat):Int))) _ dh di A.o (by have:=Qb.o.size;omega) (by have:=z.o.size;omega)).mono ?_;rintro e n ⟨u1,u2,rfl,j,k,f⟩;obtain⟨E,W,S,ah,rfl⟩:=Ju.form2 j;obtain⟨I,X,T,ai,rfl⟩:=Ju.form2 k)
   have a:=DL.push (DL.push (o.o.below f) (.big (y/(-((Int.gcd x y:Nat):Int)))) j) (.big (y%(-((Int.gcd x y:Nat):Int)))) (Has.alloc (d:=.big (y%(-((Int.gcd x y:Nat):Int)))) k _);simp only[A1]at a;have a:DL w ((n.alloc (G #[C E W S,F ah] 83)).alloc (G #[C I X T,F ai] 83)) [some (w.heap.size,.big x),some (w.heap.size+1,.big y),some (w.heap.size+1+1,.zref),some (g,.big (-((Int.gcd x y:Nat):Int))),some (B9,.big (x/(-((Int.gcd x y:Nat):Int)))),some (B10,.big (x%(-((Int.gcd x y:Nat):Int)))),some (n.heap.size,.big (y/(-((Int.gcd x y:Nat):Int)))),some (n.heap.size+1,.big (y%(-((Int.gcd x y:Nat):Int))))]:=a;obtain⟨bf,b⟩:=ex ((n.alloc (G #[C E W S,F ah] 83)).alloc (G #[C I X T,F ai] 83));obtain⟨ay,c⟩:=ex (n.heap.size);rw[b,c]at a;rw[b];rw[c];obtain⟨ft,l⟩:=ex (ay+1);rw[l]at a ⊢;have t:Hid (DL w bf [some (w.heap.size,.big x),some (w.heap.size+1,.big y),some (w.heap.size+1+1,.zref),some (g,.big (-((Int.gcd x y:Nat):Int))),some (B9,.big (x/(-((Int.gcd x y:Nat):Int)))),some (B10,.big (x%(-((Int.gcd x y:Nat):Int)))),some (ay,.big (y/(-((Int.gcd x y:Nat):Int)))),some (ft,.big (y%(-((Int.gcd x y:Nat):Int))))]):=Y (a);clear o;clear a b c l;clear f8 Qr Qk dh f9 Ub Qz di j k f;obtain⟨bh,ed,bt,fi,gh,fy⟩:=t.o.big (i:=4) J;obtain⟨ik,il⟩:=gh.cp;obtain⟨bi,ei,bu,fj,gi,ga⟩:=t.o.big (i:=6) J;obtain⟨im,io⟩:=gi.cp;have ap:=t.o.zref (i:=2) J;obtain⟨Qw,Qp,Qg,Qj⟩:=ap.cq;obtain⟨iy,iz,ja,jb⟩:=ap.fq;have hr:Jq bf (.agg #[C bh ed bt,F fi,C bi ei bu,F fj]) (kU x y):=Jq.mk (by rw[Ls q.o,<-s.o];exact fy) (by rw[Lt q.o,<-s.o];exact ga);have Qf:=t.o.ge 2 J;have hB:=t.o.2.2;go_wp2_with fail
   exact BA (v:=.agg #[C bh ed bt,F fi,C bi ei bu,F fj]) (by simp[results,results80,go_sem,Qw,Qp,Qg,Qj]) J ⟨_,J,hr.put4 ap J J J J _ _ _ _,Jw hB Qf _ _ _ _⟩
 . have HL:=Y r;obtain⟨go,ji,ia,js,fd,dj⟩:=p.o.big (i:=1) J;obtain⟨Qx,Qu⟩:=fd.cp;have hs:=Ju.sign dj;rw[BE r]at hs;subst hs;clear r;go_upto_region 4 with fail
   clear fd Qx Qu dj;obtain⟨A,s,z⟩:=Dc (show((Int.gcd x y:Nat):Int)≠0 by have:=SK (x:=x) q.o;omega) (show((Int.gcd x y:Nat):Int)=(if y<0 then -((Int.gcd x y:Nat):Int)else((Int.gcd x y:Nat):Int))by rw[BH (by have:=HL.o;omega)]) HG.o;obtain⟨gp,jj,ib,jt,fe,dt⟩:=p.o.big (i:=0) J;obtain⟨Qh,Ua⟩:=fe.cp;obtain⟨gq,jk,ic,ju,ff,du⟩:=p.o.big (i:=3) J;obtain⟨Qt,Qo⟩:=ff.cp;go_upto_region 5 with(go_at_call 111;refine(MT _ _ x (((Int.gcd x y:Nat):Int)) _ dt du A.o (by have:=Qa.o.size;omega) (by have:=z.o.size;omega)).mono ?_;rintro e m ⟨u1,u2,rfl,j,k,f⟩;obtain⟨B,U,K,ad,rfl⟩:=Ju.form2 j;obtain⟨D,V,R,ae,rfl⟩:=Ju.form2 k)
   have a:=DL.push (DL.push (p.o.below f) (.big (x/((Int.gcd x y:Nat):Int))) j) (.big (x%((Int.gcd x y:Nat):Int))) (Has.alloc (d:=.big (x%((Int.gcd x y:Nat):Int))) k _);simp only[A1]at a;have a:DL w ((m.alloc (G #[C B U K,F ad] 83)).alloc (G #[C D V R,F ae] 83)) [some (w.heap.size,.big x),some (w.heap.size+1,.big y),some (w.heap.size+1+1,.zref),some (g,.big (((Int.gcd x y:Nat):Int))),some (m.heap.size,.big (x/((Int.gcd x y:Nat):Int))),some (m.heap.size+1,.big (x%((Int.gcd x y:Nat):Int)))]:=a;obtain⟨fx,b⟩:=ex ((m.alloc (G #[C B U K,F ad] 83)).alloc (G #[C D V R,F ae] 83));obtain⟨aj,c⟩:=ex (m.heap.size);rw[b,c]at a;rw[b];rw[c];obtain⟨am,l⟩:=ex (aj+1);rw[l]at a ⊢;have M3:Hid (DL w fx [some (w.heap.size,.big x),some (w.heap.size+1,.big y),some (w.heap.size+1+1,.zref),some (g,.big (((Int.gcd x y:Nat):Int))),some (aj,.big (x/((Int.gcd x y:Nat):Int))),some (am,.big (x%((Int.gcd x y:Nat):Int)))]):=Y (a);clear p;clear a b c l;clear fe Qh Ua dt ff Qt Qo du j k f;obtain⟨gr,jl,ie,jw,fg,dx⟩:=M3.o.big (i:=1) J;obtain⟨Qn,Qq⟩:=fg.cp;obtain⟨gu,jm,ig,jx,fh,dz⟩:=M3.o.big (i:=3) J;obtain⟨Qy,Qs⟩:=fh.cp;go_upto_region 6 with(go_at_call 111;refine(MT _ _ y (((Int.gcd x y:Nat):Int)) _ dx dz A.o (by have:=Qb.o.size;omega) (by have:=z.o.size;omega)).mono ?_;rintro e n ⟨u1,u2,rfl,j,k,f⟩;obtain⟨E,W,S,ah,rfl⟩:=Ju.form2 j;obtain⟨I,X,T,ai,rfl⟩:=Ju.form2 k)
   have a:=DL.push (DL.push (M3.o.below f) (.big (y/((Int.gcd x y:Nat):Int))) j) (.big (y%((Int.gcd x y:Nat):Int))) (Has.alloc (d:=.big (y%((Int.gcd x y:Nat):Int))) k _);simp only[A1]at a;have a:DL w ((n.alloc (G #[C E W S,F ah] 83)).alloc (G #[C I X T,F ai] 83)) [some (w.heap.size,.big x),some (w.heap.size+1,.big y),some (w.heap.size+1+1,.zref),some (g,.big (((Int.gcd x y:Nat):Int))),some (aj,.big (x/((Int.gcd x y:Nat):Int))),some (am,.big (x%((Int.gcd x y:Nat):Int))),some (n.heap.size,.big (y/((Int.gcd x y:Nat):Int))),some (n.heap.size+1,.big (y%((Int.gcd x y:Nat):Int)))]:=a;obtain⟨bg,b⟩:=ex ((n.alloc (G #[C E W S,F ah] 83)).alloc (G #[C I X T,F ai] 83));obtain⟨az,c⟩:=ex (n.heap.size);rw[b,c]at a;rw[b];rw[c];obtain⟨fu,l⟩:=ex (az+1);rw[l]at a ⊢;have o:Hid (DL w bg [some (w.heap.size,.big x),some (w.heap.size+1,.big y),some (w.heap.size+1+1,.zref),some (g,.big (((Int.gcd x y:Nat):Int))),some (aj,.big (x/((Int.gcd x y:Nat):Int))),some (am,.big (x%((Int.gcd x y:Nat):Int))),some (az,.big (y/((Int.gcd x y:Nat):Int))),some (fu,.big (y%((Int.gcd x y:Nat):Int)))]):=Y (a);clear M3;clear a b c l;clear fg Qn Qq dx fh Qy Qs dz j k f;obtain⟨bj,et,ce,fk,gj,gb⟩:=o.o.big (i:=4) J;obtain⟨ir,iu⟩:=gj.cp;obtain⟨bk,ew,cj,fm,gk,gg⟩:=o.o.big (i:=6) J;obtain⟨iw,ix⟩:=gk.cp;have aq:=o.o.zref (i:=2) J;obtain⟨Qv,Ql,Qi,Qm⟩:=aq.cq;obtain⟨jc,jd,je,jf⟩:=aq.fq;have hr:Jq bg (.agg #[C bj et ce,F fk,C bk ew cj,F fm]) (kU x y):=Jq.mk (by rw[Ls q.o,<-s.o];exact gb) (by rw[Lt q.o,<-s.o];exact gg);have Qf:=o.o.ge 2 J;have hB:=o.o.2.2;go_wp2_with fail
   exact BA (v:=.agg #[C bj et ce,F fk,C bk ew cj,F fm]) (by simp[results,results80,go_sem,Qv,Ql,Qi,Qm]) J ⟨_,J,hr.put4 aq J J J J _ _ _ _,Jw hB Qf _ _ _ _⟩
def SL(va vb:M)(p q:Rat)(w:H)(W:Jq w va p)(X:Jq w vb q)(aj:Sq p)(ak:Sq q):
 Q L 43 #[va,vb] w λe b=>∃u,e=.returned u/\Jq b u (p+q)/\Bl w b:=by
 obtain⟨bj,co,bt,dj,bm,ck,ce,du,rfl⟩:=Jq.form W;obtain⟨bk,de,bu,dt,bn,cn,cj,dx,rfl⟩:=Jq.form X;obtain⟨W0,ae,d⟩:=Gy 85 (.ref p) W 85 (.ref q) X 85 (.zref) J;have f:=Y aj;have g:=Y ak;clear W X aj ak;go_enter func43,ntmps43
 go_upto_region 1 with fail
 rw[ae.o];clear ae;obtain⟨a1,l1,c1,s1,b1,k1,d1,t1,B,r1,i1,j1⟩:=d.o.ref (i:=0) J;obtain⟨m,o,s,x⟩:=B.cq;obtain⟨a2,l2,c2,s2,b2,k2,d2,t2,D,r2,i2,j2⟩:=d.o.ref (i:=1) J;obtain⟨n,l,k,z⟩:=D.cq;have a:=d.o.zref (i:=2) J;obtain⟨t,r,A,y⟩:=a.cq;obtain⟨S,R,K,E⟩:=a.fq;obtain⟨H4,H9,Qw,Qu,Qv⟩:=GL (λ(V:H) (h:Bl W0 V)=>X9 _ _ (p.num) ((q.den:Int)) V (i1.below h) (j2.below h) (by have:=f.o.num.size;omega) (by have:=g.o.den.size;omega)) (λ(V:H) (h:Bl W0 V)=>X9 _ _ (q.num) ((p.den:Int)) V (i2.below h) (j1.below h) (by have:=g.o.num.size;omega) (by have:=f.o.den.size;omega)) (λ(V:H) (h:Bl W0 V) (v4:M) (g4:Ju V v4 (p.num*(q.den:Int))) (v9:M) (c:Ju V v9 (q.num*(p.den:Int)))=>NW _ _ (p.num*(q.den:Int)) (q.num*(p.den:Int)) V g4 c (by have:=(f.o.cross g.o).size;omega) (by have:=(g.o.cross f.o).size;omega)) (λ(V:H) (h:Bl W0 V)=>X9 _ _ ((p.den:Int)) ((q.den:Int)) V (j1.below h) (j2.below h) (by have:=f.o.den.size;omega) (by have:=g.o.den.size;omega)) λ(V:H) (h:Bl W0 V) (am:M) (j:Ju V am (p.num*(q.den:Int)+q.num*(p.den:Int))) (an:M) (I:Ju V an ((p.den:Int)*(q.den:Int)))=>(by have h:=KJ _ _ (p.num*(q.den:Int)+q.num*(p.den:Int)) ((p.den:Int)*(q.den:Int)) V j I (AU (by have:=p.den_nz;omega) (by have:=q.den_nz;omega)) (f.o.sumN g.o) (f.o.mulD g.o);rw[Ng]at h;exact h);have dh:w.heap.size≠w.heap.size+1+1:=d.o.ne 0 2 J J DN;have di:w.heap.size+1≠w.heap.size+1+1:=d.o.ne 1 2 J J DN;have hq:Bl W0 W0.drew:=(BB _ W0).drew;go_region_held3 (λb=>b.cell? ⟨w.heap.size,0,none⟩=some (C a1 l1 c1)/\b.cell? ⟨w.heap.size,1,none⟩=some (F s1)/\b.cell? ⟨w.heap.size,2,none⟩=some (C b1 k1 d1)/\b.cell? ⟨w.heap.size,3,none⟩=some (F t1)/\b.cell? ⟨w.heap.size+1,0,none⟩=some (C a2 l2 c2)/\b.cell? ⟨w.heap.size+1,1,none⟩=some (F s2)/\b.cell? ⟨w.heap.size+1,2,none⟩=some (C b2 k2 d2)/\b.cell? ⟨w.heap.size+1,3,none⟩=some (F t2)) (first|(with_reducible exact⟨m,o,s,x,n,l,k,z⟩)|(go_keep;done)|(refine⟨?_,?_,?_,?_,?_,?_,?_,?_⟩<;>((repeat rw[JJ O]);first|assumption|(go_keep;done))))
  (first
   |(go_at_call 82;refine(H4.o _ hq ).mono ?_;clear H4;rintro e w4 ⟨v4,rfl,g4,bc⟩;have hq:=Bt hq bc;obtain⟨m,o,s,x⟩:=(B.below hq).cq;obtain⟨n,l,k,z⟩:=(D.below hq).cq;obtain⟨t,r,A,y⟩:=(a.below hq).cq;obtain⟨S,R,K,E⟩:=(a.below hq).fq)
   |(go_at_call 82;refine(H9.o _ hq ).mono ?_;clear H9;rintro e w9 ⟨v9,rfl,c,ai⟩;have g4:=g4.below ai;have hq:=Bt hq ai;obtain⟨m,o,s,x⟩:=(B.below hq).cq;obtain⟨n,l,k,z⟩:=(D.below hq).cq;obtain⟨t,r,A,y⟩:=(a.below hq).cq;obtain⟨S,R,K,E⟩:=(a.below hq).fq)
   |(go_at_call 81;refine(Qw.o _ hq _ g4 _ c).mono ?_;clear Qw;rintro e ed ⟨am,rfl,j,ad⟩;have g4:=g4.below ad;have c:=c.below ad;have hq:=Bt hq ad;obtain⟨m,o,s,x⟩:=(B.below hq).cq;obtain⟨n,l,k,z⟩:=(D.below hq).cq;obtain⟨t,r,A,y⟩:=(a.below hq).cq;obtain⟨S,R,K,E⟩:=(a.below hq).fq)
   |(go_at_call 82;refine(Qu.o _ hq ).mono ?_;clear Qu;rintro e ei ⟨an,rfl,I,U⟩;have g4:=g4.below U;have c:=c.below U;have j:=j.below U;have hq:=Bt hq U;obtain⟨m,o,s,x⟩:=(B.below hq).cq;obtain⟨n,l,k,z⟩:=(D.below hq).cq;obtain⟨t,r,A,y⟩:=(a.below hq).cq;obtain⟨S,R,K,E⟩:=(a.below hq).fq)
   |(go_at_call 80;refine(Qv.o _ hq _ j _ I).mono ?_;clear Qv;rintro e et ⟨dz,rfl,ah,T⟩;obtain⟨ap,bg,ay,bh,aq,bf,az,bi,rfl⟩:=Jq.form ah;have g4:=g4.below T;have c:=c.below T;have j:=j.below T;have I:=I.below T;have hq:=Bt hq T;obtain⟨m,o,s,x⟩:=(B.below hq).cq;obtain⟨n,l,k,z⟩:=(D.below hq).cq;obtain⟨t,r,A,y⟩:=(a.below hq).cq;obtain⟨S,R,K,E⟩:=(a.below hq).fq))
 all_goals go_wp2_with fail
 have Qy:=Bt d.o.2.2 hq;have Qx:=d.o.ge 2 J;exact BA (v:=.agg #[C ap bg ay,F bh,C aq bf az,F bi]) (by simp[results,results43,go_sem,t,r,A,y]) J ⟨_,J,ah.put4 (a.below hq) J J J J _ _ _ _,Jw Qy Qx _ _ _ _⟩
def OZ(va vb:M)(p q:Rat)(w:H)(R:Jq w va p)(S:Jq w vb q)(ah:Sq p)(ai:Sq q):
 Q L 44 #[va,vb] w λe a=>∃u,e=.returned u/\Jq a u (p*q)/\Bl w a:=by
 obtain⟨bf,ce,bj,co,bh,bt,bm,dh,rfl⟩:=Jq.form R;obtain⟨bg,cj,bk,de,bi,bu,bn,di,rfl⟩:=Jq.form S;obtain⟨W0,X,c⟩:=Gy 85 (.ref p) R 85 (.ref q) S 85 (.zref) J;have f:=Y ah;have g:=Y ai;clear R S ah ai;go_enter func44,ntmps44
 go_upto_region 1 with fail
 rw[X.o];clear X;obtain⟨a1,l1,c1,s1,b1,k1,d1,t1,A,r1,i1,j1⟩:=c.o.ref (i:=0) J;obtain⟨l,n,r,t⟩:=A.cq;obtain⟨a2,l2,c2,s2,b2,k2,d2,t2,B,r2,i2,j2⟩:=c.o.ref (i:=1) J;obtain⟨m,k,j,y⟩:=B.cq;have b:=c.o.zref (i:=2) J;obtain⟨s,o,z,x⟩:=b.cq;obtain⟨K,I,E,D⟩:=b.fq;obtain⟨U,W,Qs⟩:=Dc (λ(V:H) (h:Bl W0 V)=>X9 _ _ (p.num) (q.num) V (i1.below h) (i2.below h) (by have:=f.o.num.size;omega) (by have:=g.o.num.size;omega)) (λ(V:H) (h:Bl W0 V)=>X9 _ _ ((p.den:Int)) ((q.den:Int)) V (j1.below h) (j2.below h) (by have:=f.o.den.size;omega) (by have:=g.o.den.size;omega)) λ(V:H) (h:Bl W0 V) (v4:M) (g4:Ju V v4 (p.num*q.num)) (v9:M) (d:Ju V v9 ((p.den:Int)*(q.den:Int)))=>(by have h:=KJ _ _ (p.num*q.num) ((p.den:Int)*(q.den:Int)) V g4 d (AU (by have:=p.den_nz;omega) (by have:=q.den_nz;omega)) (f.o.mulN g.o) (f.o.mulD g.o);rw[Nf]at h;exact h);have ck:w.heap.size≠w.heap.size+1+1:=c.o.ne 0 2 J J DN;have cn:w.heap.size+1≠w.heap.size+1+1:=c.o.ne 1 2 J J DN;have hq:Bl W0 W0.drew:=(BB _ W0).drew;go_region_held3 (λa=>a.cell? ⟨w.heap.size,0,none⟩=some (C a1 l1 c1)/\a.cell? ⟨w.heap.size,1,none⟩=some (F s1)/\a.cell? ⟨w.heap.size,2,none⟩=some (C b1 k1 d1)/\a.cell? ⟨w.heap.size,3,none⟩=some (F t1)/\a.cell? ⟨w.heap.size+1,0,none⟩=some (C a2 l2 c2)/\a.cell? ⟨w.heap.size+1,1,none⟩=some (F s2)/\a.cell? ⟨w.heap.size+1,2,none⟩=some (C b2 k2 d2)/\a.cell? ⟨w.heap.size+1,3,none⟩=some (F t2)) (first|(with_reducible exact⟨l,n,r,t,m,k,j,y⟩)|(go_keep;done)|(refine⟨?_,?_,?_,?_,?_,?_,?_,?_⟩<;>((repeat rw[JJ O]);first|assumption|(go_keep;done))))
  (first
   |(go_at_call 82;refine(U.o _ hq ).mono ?_;clear U;rintro e w4 ⟨v4,rfl,g4,ap⟩;have hq:=Bt hq ap;obtain⟨l,n,r,t⟩:=(A.below hq).cq;obtain⟨m,k,j,y⟩:=(B.below hq).cq;obtain⟨s,o,z,x⟩:=(b.below hq).cq;obtain⟨K,I,E,D⟩:=(b.below hq).fq)
   |(go_at_call 82;refine(W.o _ hq ).mono ?_;clear W;rintro e w9 ⟨v9,rfl,d,ae⟩;have g4:=g4.below ae;have hq:=Bt hq ae;obtain⟨l,n,r,t⟩:=(A.below hq).cq;obtain⟨m,k,j,y⟩:=(B.below hq).cq;obtain⟨s,o,z,x⟩:=(b.below hq).cq;obtain⟨K,I,E,D⟩:=(b.below hq).fq)
   |(go_at_call 80;refine(Qs.o _ hq _ g4 _ d).mono ?_;clear Qs;rintro e dt ⟨dj,rfl,ad,T⟩;obtain⟨aj,ay,am,az,ak,aq,an,bc,rfl⟩:=Jq.form ad;have g4:=g4.below T;have d:=d.below T;have hq:=Bt hq T;obtain⟨l,n,r,t⟩:=(A.below hq).cq;obtain⟨m,k,j,y⟩:=(B.below hq).cq;obtain⟨s,o,z,x⟩:=(b.below hq).cq;obtain⟨K,I,E,D⟩:=(b.below hq).fq))
 all_goals go_wp2_with fail
 have Qu:=Bt c.o.2.2 hq;have Qt:=c.o.ge 2 J;exact BA (v:=.agg #[C aj ay am,F az,C ak aq an,F bc]) (by simp[results,results44,go_sem,s,o,z,x]) J ⟨_,J,ad.put4 (b.below hq) J J J J _ _ _ _,Jw Qu Qt _ _ _ _⟩
def SM(va vb:M)(p q:Rat)(w:H)(R:Jq w va p)(S:Jq w vb q)(ai:Sq p)(aj:Sq q)(ah:q≠0):
 Q L 77 #[va,vb] w λe a=>∃u,e=.returned u/\Jq a u (p/q)/\Bl w a:=by
 obtain⟨bg,cj,bk,de,bi,bu,bn,di,rfl⟩:=Jq.form R;obtain⟨bh,ck,bm,dh,bj,ce,bt,dj,rfl⟩:=Jq.form S;obtain⟨W0,X,c⟩:=Gy 85 (.ref p) R 85 (.ref q) S 85 (.zref) J;obtain⟨f,g,Qp⟩:=Dc ai aj ah;clear R S ai aj ah;go_enter func77,ntmps77
 go_upto_region 1 with fail
 rw[X.o];clear X;obtain⟨a1,l1,c1,s1,b1,k1,d1,t1,A,r1,i1,j1⟩:=c.o.ref (i:=0) J;obtain⟨l,n,r,t⟩:=A.cq;obtain⟨a2,l2,c2,s2,b2,k2,d2,t2,B,r2,i2,j2⟩:=c.o.ref (i:=1) J;obtain⟨m,k,j,y⟩:=B.cq;have b:=c.o.zref (i:=2) J;obtain⟨s,o,z,x⟩:=b.cq;obtain⟨K,I,E,D⟩:=b.fq;obtain⟨U,W,Qt⟩:=Dc (λ(V:H) (h:Bl W0 V)=>X9 _ _ (p.num) ((q.den:Int)) V (i1.below h) (j2.below h) (by have:=f.o.num.size;omega) (by have:=g.o.den.size;omega)) (λ(V:H) (h:Bl W0 V)=>X9 _ _ ((p.den:Int)) (q.num) V (j1.below h) (i2.below h) (by have:=f.o.den.size;omega) (by have:=g.o.num.size;omega)) λ(V:H) (h:Bl W0 V) (v4:M) (g4:Ju V v4 (p.num*(q.den:Int))) (v9:M) (d:Ju V v9 ((p.den:Int)*q.num))=>(by have h:=KJ _ _ (p.num*(q.den:Int)) ((p.den:Int)*q.num) V g4 d (AU (by have:=p.den_nz;omega) λh=>Qp.o (CS.1 h)) (f.o.cross g.o) (f.o.cross2 g.o);rw[Nd]at h;exact h);have cn:w.heap.size≠w.heap.size+1+1:=c.o.ne 0 2 J J DN;have co:w.heap.size+1≠w.heap.size+1+1:=c.o.ne 1 2 J J DN;have hq:Bl W0 W0.drew:=(BB _ W0).drew;go_region_held3 (λa=>a.cell? ⟨w.heap.size,0,none⟩=some (C a1 l1 c1)/\a.cell? ⟨w.heap.size,1,none⟩=some (F s1)/\a.cell? ⟨w.heap.size,2,none⟩=some (C b1 k1 d1)/\a.cell? ⟨w.heap.size,3,none⟩=some (F t1)/\a.cell? ⟨w.heap.size+1,0,none⟩=some (C a2 l2 c2)/\a.cell? ⟨w.heap.size+1,1,none⟩=some (F s2)/\a.cell? ⟨w.heap.size+1,2,none⟩=some (C b2 k2 d2)/\a.cell? ⟨w.heap.size+1,3,none⟩=some (F t2)) (first|(with_reducible exact⟨l,n,r,t,m,k,j,y⟩)|(go_keep;done)|(refine⟨?_,?_,?_,?_,?_,?_,?_,?_⟩<;>((repeat rw[JJ O]);first|assumption|(go_keep;done))))
  (first
   |(go_at_call 82;refine(U.o _ hq ).mono ?_;clear U;rintro e w4 ⟨v4,rfl,g4,aq⟩;have hq:=Bt hq aq;obtain⟨l,n,r,t⟩:=(A.below hq).cq;obtain⟨m,k,j,y⟩:=(B.below hq).cq;obtain⟨s,o,z,x⟩:=(b.below hq).cq;obtain⟨K,I,E,D⟩:=(b.below hq).fq)
   |(go_at_call 82;refine(W.o _ hq ).mono ?_;clear W;rintro e w9 ⟨v9,rfl,d,ae⟩;have g4:=g4.below ae;have hq:=Bt hq ae;obtain⟨l,n,r,t⟩:=(A.below hq).cq;obtain⟨m,k,j,y⟩:=(B.below hq).cq;obtain⟨s,o,z,x⟩:=(b.below hq).cq;obtain⟨K,I,E,D⟩:=(b.below hq).fq)
   |(go_at_call 80;refine(Qt.o _ hq _ g4 _ d).mono ?_;clear Qt;rintro e du ⟨dt,rfl,ad,T⟩;obtain⟨ak,az,an,bc,am,ay,ap,bf,rfl⟩:=Jq.form ad;have g4:=g4.below T;have d:=d.below T;have hq:=Bt hq T;obtain⟨l,n,r,t⟩:=(A.below hq).cq;obtain⟨m,k,j,y⟩:=(B.below hq).cq;obtain⟨s,o,z,x⟩:=(b.below hq).cq;obtain⟨K,I,E,D⟩:=(b.below hq).fq))
 all_goals go_wp2_with fail
 have Qv:=Bt c.o.2.2 hq;have Qu:=c.o.ge 2 J;exact BA (v:=.agg #[C ak az an,F bc,C am ay ap,F bf]) (by simp[results,results77,go_sem,s,o,z,x]) J ⟨_,J,ad.put4 (b.below hq) J J J J _ _ _ _,Jw Qv Qu _ _ _ _⟩
def Oa(g:M)(q:Rat)(w:H)(b:Jq w g q):
 Q L 36 #[g] w λe m=>e=.returned (N P q.num.sign)/\Bl w m:=by
 obtain⟨n,c⟩:=ex (q.num.sign);rw[c];have j:=Y c;clear c;obtain⟨p,E,t,K,s,D,u,S,rfl⟩:=Jq.form b;obtain⟨W0,d,f⟩:=GN 85 (.ref q) b;clear b;go_enter func36,ntmps36
 go_upto_region 1 with fail
 rw[d.o];clear d;obtain⟨o,l1,c1,I,r,B,d1,R,l,r1,k,A⟩:=f.o.ref (i:=0) J;obtain⟨v,x,y,z⟩:=l.cq;have a:=Y (cU _ q.num W0 k);rw[j.o]at a;go_wp2_with(go_at_call 73;refine a.o.mono ?_;clear a;rintro e T ⟨rfl,hq⟩)
 go_ret;exact⟨J,Bt f.o.2.2 hq⟩
def Ip(n:Int)(q:-9223372036854775808<=n)(r:n<=9223372036854775807)(w:H):
 Q L 42 #[N P n] w λe D=>∃u,e=.returned u/\Jq D u (n:Rat)/\Bl w D:=by
 have c:=Y λ(V:H)=>Gq n q r V;clear q r;obtain⟨W0,d,b⟩:=GN 85 (.zref) J;go_enter func42,ntmps42
 go_upto_region 1 with fail
 rw[d.o];clear d;have a:=b.o.zref (i:=0) J;obtain⟨k,f,g,j⟩:=a.cq;obtain⟨I,K,S,R⟩:=a.fq;go_wp2_with(first
  |(go_at_call 79;refine(c.o _).mono ?_;clear c;rintro e w1 ⟨u1,rfl,t,U⟩;obtain⟨l,y,o,A,rfl⟩:=Ju.form2 t)
  |(go_at_call 79;refine(Gq 1 O O _).mono ?_;rintro e X ⟨u2,rfl,x,s⟩;obtain⟨m,z,p,B,rfl⟩:=Ju.form2 x;have hq:=Bt U s;obtain⟨k,f,g,j⟩:=(a.below hq).cq;obtain⟨I,K,S,R⟩:=(a.below hq).fq))
 have W:Jq X (.agg #[C l y o,F A,C m z p,F B]) (n:Rat):=Jq.mk (t.below s) x;have T:=Bt b.o.2.2 hq;have E:=b.o.ge 0 J;exact BA (v:=.agg #[C l y o,F A,C m z p,F B]) (by simp[results,results42,go_sem,k,f,g,j]) J ⟨_,J,W.put4 (a.below hq) J J J J _ _ _ _,Jw T E _ _ _ _⟩
end
section
variable{qs:Ja}
def RowK.formsF{W:H}{a:kR}{l cap:Nat}(h:RowK false W (C a l cap) qs):l=qs.length/\l<=cap/\cap<=9223372036854775807/\l<=1099511627776/\∃(s t:Nat->Bool) (k m:Nat->kR) (p n o dd:Nat->Nat),∀j,j<l->Jq W (.agg #[C (k j) (p j) (n j),F (s j),C (m j) (o j) (dd j),F (t j)]) (cf qs j)/\
 ∃b,a=some ⟨b,0,none⟩/\b<W.heap.size/\W.cell? ⟨b,j*4,none⟩=some (C (k j) (p j) (n j))/\W.cell? ⟨b,j*4+1,none⟩=some (F (s j))/\W.cell? ⟨b,j*4+2,none⟩=some (C (m j) (o j) (dd j))/\W.cell? ⟨b,j*4+3,none⟩=some (F (t j)):=by
 obtain⟨r,v,w,A,x,y,z,u,D⟩:=h.pick;refine⟨r,v,w,A,λj=>MJ (y j),λj=>MJ (u j),λj=>MK (x j),λj=>MK (z j),λj=>Ht (x j),λj=>MN (x j),λj=>Ht (z j),λj=>MN (z j),λj E=>?_⟩;obtain⟨i,b,q,B,c0,c1,c2,c3⟩:=D j E;obtain⟨a',l',c',s,I,R,K,t,e,_⟩:=(show Jq W _ _ from i);simp only[DF,FJ,FC,and_true]at e;obtain⟨c,d,f,g⟩:=e;rw[c,d,f,g]at i;rw[c]at c0;rw[d]at c1;rw[f]at c2;rw[g]at c3;dsimp only;rw[c,d,f,g];exact⟨i,b,q,B,c0,c1,c2,c3⟩
def cV(q:Rat):(q.num.sign==0)=decide (q=0):=by
 rw[Cu,beq_iff_eq,BZ,Int.sign_eq_zero_iff_zero,CS]
def SN{len k:Nat}(hl:len=qs.length)(c:k<=len)(a:∀j,k<=j->cf qs j=0)(b:k=0\/cf qs (k-1)≠0):Jb qs=qs.take k/\(Jb qs).length=k:=by
 have e:=PV (p:=qs) (n:=k) O b a;exact⟨e,by rw[e,Ah];omega⟩
def cX(a:kR)(len cap:Nat)(qs:Ja)(w:H)(h:RowK false w (C a len cap) qs):
 Q L 45 #[C a len cap] w λe R=>e=.returned (C a (Jb qs).length cap)/\RowK false R (C a (Jb qs).length cap) (Jb qs)/\Bl w R:=by
 obtain⟨hl,ad,ae,ah,s,t,W,X,ll,cc,kk,dd,A⟩:=h.formsF;obtain⟨o,S,x⟩:=Dc hl A h;clear A hl h;go_enter func45,ntmps45
 go_wp2;go_loopw [3] (λv wr=>∃k:Nat,k<=len/\v=N P (k:Int)/\Hid ((∀j,k<=j->cf qs j=0)/\Bl w wr)) λv _=>(intOf v).toNat
 case atStart=>exact⟨len,Aa _,J,Y ⟨λj T=>JS (by have:=o.o;omega),BB _ _⟩⟩
 case round=>
  obtain⟨k,hk,rfl,c⟩:=hrel;cases k with
  |zero=>
   go_wp2;go_ret;obtain⟨r,g⟩:=SN o.o (k:=0) (As _) c.o.1 (Am J);refine⟨by rw[g];rfl,?_,c.o.2⟩;rw[g,r];exact(x.o.below c.o.2).take O
  |succ k=>
   obtain⟨B,b,rfl,l,D,E,I,K⟩:=S.o k O;have d:=c.o.2;have y:=Y (B.below d);replace D:=(d.cell (p:=⟨b,_,none⟩) l).trans D;replace E:=(d.cell (p:=⟨b,_,none⟩) l).trans E;replace I:=(d.cell (p:=⟨b,_,none⟩) l).trans I;replace K:=(d.cell (p:=⟨b,_,none⟩) l).trans K;have i:=Y (Oa _ _ wr y.o);have m:=cV (cf qs k);clear B d y;by_cases f:cf qs k=0
   . rw[show decide (cf qs k=0)=true from BI f]at m;have q:=Y f;clear f;generalize (cf qs k).num.sign=n at i m;go_wp2_with(go_at_call 36;refine i.o.mono ?_;rintro e V ⟨rfl,u⟩)
     go_roundw
     case rel=>
      refine⟨k,O,DK,Y ⟨λj T=>?_,Bt c.o.2 u⟩⟩;by_cases U:j=k
      . rw[U];exact q.o
      . exact c.o.1 j O
     case measure=>simp[intOf]
   . rw[show decide (cf qs k=0)=false from BE f]at m;have q:=Y f;clear f;generalize (cf qs k).num.sign=n at i m;go_wp2_with(go_at_call 36;refine i.o.mono ?_;rintro e V ⟨rfl,u⟩)
     go_ret;have z:=Bt c.o.2 u;obtain⟨r,g⟩:=SN o.o (k:=k+1) O c.o.1 (Ax q.o);refine⟨by rw[g];rfl,?_,z⟩;rw[g,r];exact(x.o.below z).take O
def KK(v:M)(qs:Ja)(w:H)(h:RowK false w v qs):
 Q L 45 #[v] w λe b=>∃u,e=.returned u/\RowK false b u (Jb qs)/\Bl w b:=by
 obtain⟨a,l,c,rfl⟩:=h.form;refine(cX a l c qs w h).mono ?_;rintro e b ⟨rfl,d,f⟩;exact⟨_,J,d,f⟩
def SO{W:H}{B:Nat}(q:JN W B 85 (C none 0 0) (F false) (C none 0 0) (F false)){v:M}{p:Rat}(h:Jq W v p)(x y z u:M):Jq (put4 W B x y z u) v p:=h.put4 q J J J J _ _ _ _
def SP(v:M)(qs:Ja)(i:Int)(w:H)(h:RowK false w v qs):
 Q L 103 #[v,N P i] w λe E=>∃u,e=.returned u/\Jq E u (if i<0 then 0 else cf qs i.toNat)/\Bl w E:=by
 obtain⟨a,l,c,rfl⟩:=h.form;obtain⟨hl,ak,am,an,s,t,T,W,ll,cc,kk,dd,B⟩:=h.formsF;have K:=Y hl;have o:=Y B;clear hl B h;have n:Bl w (w.alloc (G #[C none 0 0,F false,C none 0 0,F false] 85)):=Ba w _;have b0:=JN.new w 85 (C none 0 0) (F false) (C none 0 0) (F false);have g:=Y λ(V:H)=>Ip 0 O O V;by_cases d:i<0\/(l:Int)<=i
 . have R:=Y (show(if i<0 then(0:Rat)else cf qs i.toNat)=((0:Int):Rat)by
    rcases d with d|d
    . rw[BL d];rfl
    . rw[BH O,JS (by have:=K.o;omega)];rfl)
   rw[R.o];obtain⟨W0,q⟩:=ex (w.alloc (G #[C none 0 0,F false,C none 0 0,F false] 85));rw[q]at n b0;have A:=Y q;clear q o;rcases d with d|d
   . go_enter func103,ntmps103
     go_upto_region 1 with fail
     rw[A.o];go_wp2_with(go_at_call 42;refine(g.o _).mono ?_;clear g;rintro e w1 ⟨u,rfl,k,j⟩;have f:=b0.below j;obtain⟨r,x,y,z⟩:=f.cq;obtain⟨f0,f1,f2,f3⟩:=f.fq;obtain⟨S,ah,X,ai,U,ae,ad,aj,rfl⟩:=Jq.form k)
     exact BA (by simp[results,results103,go_sem,r,x,y,z]) J ⟨_,J,SO f k _ _ _ _,Jw (Bt n j) (Aa _) _ _ _ _⟩
   . have p:¬i<0:=O
     go_enter func103,ntmps103
     go_upto_region 1 with fail
     rw[A.o];go_wp2_with(go_at_call 42;refine(g.o _).mono ?_;clear g;rintro e w1 ⟨u,rfl,k,j⟩;have f:=b0.below j;obtain⟨r,x,y,z⟩:=f.cq;obtain⟨f0,f1,f2,f3⟩:=f.fq;obtain⟨S,ah,X,ai,U,ae,ad,aj,rfl⟩:=Jq.form k)
     exact BA (by simp[results,results103,go_sem,r,x,y,z]) J ⟨_,J,SO f k _ _ _ _,Jw (Bt n j) (Aa _) _ _ _ _⟩
 . have p:¬i<0:=O
   rw[BH p];obtain⟨m,rfl⟩:∃m:Nat,i=(m:Int):=⟨i.toNat,O⟩;have hm:m<l:=O
   obtain⟨D,b,rfl,hb,k0,k1,k2,k3⟩:=o.o m hm;have I:=Y D;rw[Cv];clear o D p d g b0 n;generalize s m=s1 at *;generalize t m=t1 at *;generalize T m=a1 at *;generalize W m=b1 at *;generalize ll m=l1 at *;generalize cc m=c1 at *;generalize kk m=k1 at *;generalize dd m=d1 at *;go_enter func103,ntmps103
   go_wp2;exact BA (by simp[results,results103,go_sem]) J ⟨_,J,I.o.below (Ba w _),Ba w _⟩
def Xt(f:Nat->Rat)(k:Nat):Ja:=(List.range k).map f
def JM(f:Nat->Rat)(k:Nat):(Xt f k).length=k:=by simp[Xt]
def YW(f:Nat->Rat)(k:Nat):Xt f (k+1)=Xt f k++[f k]:=by simp[Xt,List.range_succ]
def K6(f:Nat->Rat)(k i:Nat):cf (Xt f k) i=if i<k then f i else 0:=LV k f i
theorem Ob(va vb:M)(ps qs:Ja)(w:H)(K:RowK false w va ps)(R:RowK false w vb qs)(ai:Sqs ps)(aj:Sqs qs)(bf:ps.length<1099511627776/\qs.length<1099511627776):
 Q L 64 #[va,vb] w λe w'=>∃u,e=.returned u/\RowK false w' u (Xm ps qs)/\Bl w w':=by
 obtain⟨a,la,ca,rfl⟩:=K.form;obtain⟨b,lb,cb,rfl⟩:=R.form;obtain⟨ae,aq,az,bt,_⟩:=K.formsF;obtain⟨ah,ay,bc,bu,_⟩:=R.formsF;obtain⟨n,hn⟩:=ex (max la lb:Nat);obtain⟨r,HA,HB,HP,HQ,Qm,Ql⟩:=Np (show la<=n/\lb<=n/\n<1099511627776/\(∀k,k<n->k<la\/k<lb)from⟨O,O,O,λk hk=>by omega⟩) K R ai aj ae ah;clear K R ai aj ae ah aq az ay bc hn bf;go_enter func64,ntmps64
 go_wp2;go_loopw [5,6] (λo i wr=>∃k:Nat,k<=n/\i=N P (k:Int)/\(∃oa oc,o=C oa k oc)/\Hid (EI false w.heap.size wr o (Xt (λi=>cf ps i+cf qs i) k)/\Bl w wr)) λ_ i _=>n-(intOf i).toNat
 case atStart=>exact⟨0,As _,J,⟨_,_,J⟩,Y ⟨EI.nil _ _ _,BB _ _⟩⟩
 case round=>
  obtain⟨k,hk,rfl,⟨oa,oc,rfl⟩,d⟩:=hrel;by_cases bg:k<n
  . have x:=Y (SP _ ps (k:Int) wr (HA.o.below d.o.2));have t:=Y λ(V:H) (h:Bl wr V)=>SP _ qs (k:Int) V ((HB.o.below d.o.2).below h);rw[BH O,Cv]at x;rw[show(if(k:Int)<0 then(0:Rat)else cf qs ((k:Int)).toNat)=cf qs k from by rw[BH O,Cv]]at t;have I:=Y λ(V:H) (u v:M) (hu:Jq V u (cf ps k)) (hv:Jq V v (cf qs k))=>SL u v (cf ps k) (cf qs k) V hu hv (HP.o.at k) (HQ.o.at k);have Qj:=r.o.2.2.2 k bg;have HK:=Y (show k+1<=1099511627776 by have:=r.o.2.2.1;omega);by_cases bm:(k:Int)<(la:Int)
    all_goals
     have Qk:(k:Int)<(la:Int)\/(k:Int)<(lb:Int):=O
    . clear Qj Qk;go_wp2_with(first
       |(go_at_call 103;refine x.o.mono ?_;clear x;rintro e w1 ⟨u1,rfl,c,l⟩;have f:=l)
       |(go_at_call 103;refine(t.o _ f).mono ?_;clear t;rintro e w2 ⟨u2,rfl,E,m⟩;have c:=c.below m;have y:=Bt f m;clear f)
       |(go_at_call 43;refine(I.o _ _ _ c E).mono ?_;clear I;rintro e w3 ⟨u3,rfl,q,A⟩;have g:=Bt y A;clear y c E l m A;obtain⟨ak,bi,an,bj,am,bh,ap,bk,rfl⟩:=Jq.form q;obtain⟨v9,w9,X,D,ad,B⟩:=XN false w.heap.size w3 _ _ (d.o.1.below g) q (by rw[JM];exact HK.o) (by have:=d.o.2.size;have:=g.size;omega);have s:=Y D;have T:=Y (B w.heap.size w (Aa _) (Bt d.o.2 g));clear D ad B q)
       |(at_builtin;refine Bg _ J _ _ 30 30 J _ _ J J _ _ X ?_))
      obtain⟨U,W,z,_⟩:=s.o.form;go_roundw
      case rel=>
       refine⟨k+1,O,by go_num,⟨U,W,?_⟩,Y ⟨?_,T.o⟩⟩
       . rw[<-YW,JM]at z;exact z
       . rw[YW];exact s.o
      case measure=>simp[intOf];omega
    . have bn:(k:Int)<(lb:Int):=O
      clear Qj Qk;go_wp2_with(first
       |(go_at_call 103;refine x.o.mono ?_;clear x;rintro e w1 ⟨u1,rfl,c,l⟩;have f:=l)
       |(go_at_call 103;refine(t.o _ f).mono ?_;clear t;rintro e w2 ⟨u2,rfl,E,m⟩;have c:=c.below m;have y:=Bt f m;clear f)
       |(go_at_call 43;refine(I.o _ _ _ c E).mono ?_;clear I;rintro e w3 ⟨u3,rfl,q,A⟩;have g:=Bt y A;clear y c E l m A;obtain⟨ak,bi,an,bj,am,bh,ap,bk,rfl⟩:=Jq.form q;obtain⟨v9,w9,X,D,ad,B⟩:=XN false w.heap.size w3 _ _ (d.o.1.below g) q (by rw[JM];exact HK.o) (by have:=d.o.2.size;have:=g.size;omega);have s:=Y D;have T:=Y (B w.heap.size w (Aa _) (Bt d.o.2 g));clear D ad B q)
       |(at_builtin;refine Bg _ J _ _ 30 30 J _ _ J J _ _ X ?_))
      obtain⟨U,W,z,_⟩:=s.o.form;go_roundw
      case rel=>
       refine⟨k+1,O,by go_num,⟨U,W,?_⟩,Y ⟨?_,T.o⟩⟩
       . rw[<-YW,JM]at z;exact z
       . rw[YW];exact s.o
      case measure=>simp[intOf];omega
  . have h1:¬(k:Int)<(la:Int):=by have:=r.o.1;omega
    have h2:¬(k:Int)<(lb:Int):=by have:=r.o.2.1;omega
    have S:=Y λ(V:H) (h:Bl wr V)=>KK _ _ V ((d.o.1.below h).row (by rw[JM];have:=r.o.2.2.1;omega));have HE:=Y (show Jb (Xt (λi=>cf ps i+cf qs i) k)=Xm ps qs from Yy λj=>by
     rw[K6,Xv];split
     . rfl
     . have:=r.o;have g1:=Qm.o;have g2:=Ql.o;rw[JS (p:=ps) O,JS (p:=qs) O];grind)
    rw[HE.o]at S;go_wp2_with(go_at_call 45;refine(S.o _ (BB _ _)).mono ?_;clear S;rintro e w1 ⟨u1,rfl,c,l⟩;obtain⟨a8,l8,c8,rfl⟩:=c.form)
    go_ret;exact⟨_,J,c,Bt d.o.2 l⟩
def Ep(r:Bool)(W0:H)(V:H)(o:M)(qs:Ja):Prop:=EI r W0.heap.size V o qs/\Bl W0 V
def Ep.below{r:Bool}{W0 V V':H}{o:M}{qs:Ja}(h:Ep r W0 V o qs)(a:Bl V V'):Ep r W0 V' o qs:=⟨h.1.below a,Bt h.2 a⟩
theorem SQ(va vq:M)(ps:Ja)(q:Rat)(w:H)(ha:RowK false w va ps)(hq:Jq w vq q)(ap:Sqs ps)(aq:Sq q)(am:ps.length<1099511627776):
 Q L 76 #[va,vq] w λe w'=>∃u,e=.returned u/\RowK false w' u (Jb (YD q ps))/\Bl w w':=by
 obtain⟨a,la,ca,rfl⟩:=ha.form;obtain⟨a8,l8,c8,s8,b8,k8,d8,t8,rfl⟩:=Jq.form hq;obtain⟨ak,bf,bg,bn,s,t,aa,bb,ll,cc,kk,dd,hc⟩:=ha.formsF;have b0:=JN.new w 85 (C a8 l8 c8) (F s8) (C b8 k8 d8) (F t8);have Qf:Bl w (w.alloc (G #[C a8 l8 c8,F s8,C b8 k8 d8,F t8] 85)):=Ba w _;obtain⟨W0,ai⟩:=ex (w.alloc (G #[C a8 l8 c8,F s8,C b8 k8 d8,F t8] 85));rw[ai]at Qf b0;obtain⟨Qj,HA,HQ,HP,Qi,Qh,Qd,Qo⟩:=Gw ai hc (hq.below Qf) ap aq ak Qf b0;have Ql:=Y am;clear ha hq ap aq ak bf bg hc ai am b0 Qf;go_enter func76,ntmps76
 go_upto_region 1 with fail
 rw[Qj.o];go_wp2;go_loopw [5,6] (λo i wr=>∃k:Nat,k<=la/\i=N P (k:Int)/\(∃R S,o=C R k S)/\Hid (Ep false W0 wr o (Xt (λi=>cf ps i*q) k))) λ_ i _=>la-(intOf i).toNat
 case atStart=>exact⟨0,As _,J,⟨_,_,J⟩,Y ⟨EI.nil _ _ _,BB _ _⟩⟩
 case round=>
  obtain⟨k,hk,rfl,⟨R,S,rfl⟩,HR⟩:=hrel;by_cases bh:k<la
  . have bt:(k:Int)<(la:Int):=O
    obtain⟨I,b,rfl,X,c0,c1,c2,c3⟩:=HA.o k bh;have Qn:=Y (show ∀V,Bl W0 V->(V.cell? ⟨b,k*4,none⟩=some (C (aa k) (ll k) (cc k))/\V.cell? ⟨b,k*4+1,none⟩=some (F (s k))/\V.cell? ⟨b,k*4+2,none⟩=some (C (bb k) (kk k) (dd k))/\V.cell? ⟨b,k*4+3,none⟩=some (F (t k)))/\Jq V (.agg #[C (aa k) (ll k) (cc k),F (s k),C (bb k) (kk k) (dd k),F (t k)]) (cf ps k)from λV h=>by
     have W:=Bt Qd.o h;exact⟨⟨(W.cell (p:=⟨b,_,none⟩) X).trans c0,(W.cell (p:=⟨b,_,none⟩) X).trans c1,(W.cell (p:=⟨b,_,none⟩) X).trans c2,(W.cell (p:=⟨b,_,none⟩) X).trans c3⟩,I.below W⟩)
    have HK:=Y (show k+1<=1099511627776 by have:=Ql.o;have:=Qh.o;omega);clear I c0 c1 c2 c3 X;go_wp2_with fail
    have Qm:=HR.o.below ((BB _ wr).drew);refine JY Di [[],[],[],[1,2],[3],[],[4,5],[6],[0,7,6],[8,8,0,1,2,3,4,5,6,7,8]] kS DN
     (λD ae V=>∃(ta tb tc td te tf tg ti T tk:M),ae={ tmps:=#[C (some ⟨b,0,none⟩) la ca,.agg #[C a8 l8 c8,F s8,C b8 k8 d8,F t8],undef,.pointer (some ⟨w.heap.size,0,none⟩),C none 0 0,tk,N P ↑k,N P ↑k,C (some ⟨b,0,none⟩) la ca,N P ↑la,F true,u11,u12,ta,tb,tc,td,te,tf,tg,ti,T,undef,undef],defers:=[] }/\Hid ((D 0=true->ta=C R k S)/\(D 1=true->tb=C (some ⟨b,0,none⟩) la ca)/\(D 2=true->tc=N P (k:Int))/\(D 3=true->td=.pointer (some ⟨b,k*4,none⟩))/\(D 4=true->D 8=false->Jq V te (cf ps k))/\(D 5=true->D 8=false->Jq V tf q)/\(D 6=true->D 8=false->Jq V tg (cf ps k*q))/\(D 7=true->∃a l c,ti=C a l c)/\(D 8=true->∃a l c,T=C a l c)/\((D 9=false->tk=Value.slice R k S)/\(D 9=true->tk=T)))/\Hid ((D 7=false->Ep false W0 V (C R k S) (Xt (λi=>cf ps i*q) k))/\(D 7=true->D 8=false->∃(E:H) (x y z u:M),V=E.alloc (G #[x,y,z,u] (Dr false))/\(Ep false W0 E (C R k S) (Xt (λi=>cf ps i*q) k))/\Dy false E (.agg #[x,y,z,u]) (cf ps k*q)/\ti=C (some ⟨E.heap.size,0,none⟩) 1 1)/\(D 8=true->Ep false W0 V T (Xt (λi=>cf ps i*q) k++[cf ps k*q]))))
     (E8 ⟨_,_,J,Y ⟨DK,DK,DK,DK,DK,DK,DK,DK,DK,⟨λ_=>rfl,DK⟩⟩,Y ⟨λ_=>Qm,DK,DK⟩⟩) ?step1 ?fin1
    case step1=>
     rintro D ae V i ds f I m n ⟨ta,tb,tc,td,te,tf,tg,ti,T,tk,rfl,d,A⟩;have bk:i<10:=(Ar.1 I).1;obtain rfl|rfl|rfl|rfl|rfl|rfl|rfl|rfl|rfl|rfl:=Mp i O
     all_goals
      simp only[AH,AD,AO]at I;subst I
     . have r:D 8=false:=DQ f n;have Qe:D 9=false:=DQ f n;obtain rfl:=EQ d Qe;clear m;refine Dd ?_;exact⟨(Nl (Gf d) ⟨λ_=>rfl,λh=>by simp[Qe]at h⟩),Y ⟨λh=>A.o.1 (by simpa using h),λh B=>A.o.2.1 (by simpa using h) (by simpa using B),λh=>A.o.2.2 (by simpa using h)⟩⟩
     . have r:D 8=false:=DQ f (DQ (a:=7) f (DQ (a:=6) f (DQ (a:=4) f (DQ (a:=3) f n))));have v:D 7=false:=DQ f (DQ (a:=6) f (DQ (a:=4) f (DQ (a:=3) f n)));have g:=A.o.1 v;clear m;refine Dd ?_;exact⟨Y ⟨d.o.1,λ_=>rfl,d.o.2.2.1,d.o.2.2.2.1,d.o.2.2.2.2.1,(EU d),(EW d),(EX d),(Eb d),⟨λh=>(EQ d) (by simpa using h),λh=>d.o.2.2.2.2.2.2.2.2.2.2 (by simpa using h)⟩⟩,Y ⟨λ_=>g,λh=>by simp[v]at h,λh=>by simp[r]at h⟩⟩
     . have r:D 8=false:=DQ f (DQ (a:=7) f (DQ (a:=6) f (DQ (a:=4) f (DQ (a:=3) f n))));have v:D 7=false:=DQ f (DQ (a:=6) f (DQ (a:=4) f (DQ (a:=3) f n)));have g:=A.o.1 v;clear m;refine Dd ?_;exact⟨Y ⟨d.o.1,d.o.2.1,λ_=>rfl,d.o.2.2.2.1,d.o.2.2.2.2.1,(EU d),(EW d),(EX d),(Eb d),⟨λh=>(EQ d) (by simpa using h),λh=>d.o.2.2.2.2.2.2.2.2.2.2 (by simpa using h)⟩⟩,Y ⟨λ_=>g,λh=>by simp[v]at h,λh=>by simp[r]at h⟩⟩
     . have r:D 8=false:=DQ f (DQ (a:=7) f (DQ (a:=6) f (DQ (a:=4) f n)));have v:D 7=false:=DQ f (DQ (a:=6) f (DQ (a:=4) f n));have g:=A.o.1 v;obtain rfl:=d.o.2.1 (m 1 DK);obtain rfl:=d.o.2.2.1 (m 2 DK);clear m;refine Dd ?_;exact⟨Y ⟨d.o.1,λ_=>rfl,λ_=>rfl,λ_=>rfl,d.o.2.2.2.2.1,(EU d),(EW d),(EX d),(Eb d),⟨λh=>(EQ d) (by simpa using h),λh=>d.o.2.2.2.2.2.2.2.2.2.2 (by simpa using h)⟩⟩,Y ⟨λ_=>g,λh=>by simp[v]at h,λh=>by simp[r]at h⟩⟩
     . have r:D 8=false:=DQ f (DQ (a:=7) f (DQ (a:=6) f n));have v:D 7=false:=DQ f (DQ (a:=6) f n);have g:=A.o.1 v;obtain rfl:=d.o.2.2.2.1 (m 3 DK);obtain⟨⟨e0,e1,e2,e3⟩,hr⟩:=Qn.o V g.2;clear m;refine Dd ?_;exact⟨Y ⟨d.o.1,d.o.2.1,d.o.2.2.1,λ_=>rfl,λ_ _=>hr,(EU d),(EW d),(EX d),(Eb d),⟨λh=>(EQ d) (by simpa using h),λh=>d.o.2.2.2.2.2.2.2.2.2.2 (by simpa using h)⟩⟩,Y ⟨λ_=>g,λh=>by simp[v]at h,λh=>by simp[r]at h⟩⟩
     . have r:D 8=false:=DQ f (DQ (a:=7) f (DQ (a:=6) f n));have v:D 7=false:=DQ f (DQ (a:=6) f n);have g:=A.o.1 v;have n0:=Qo.o.below g.2;obtain⟨e0,e1,e2,e3⟩:=n0.cq;clear m;refine Dd ?_;exact⟨Y ⟨d.o.1,d.o.2.1,d.o.2.2.1,d.o.2.2.2.1,d.o.2.2.2.2.1,λ_ _=>HQ.o.below g.2,(EW d),(EX d),(Eb d),⟨λh=>(EQ d) (by simpa using h),λh=>d.o.2.2.2.2.2.2.2.2.2.2 (by simpa using h)⟩⟩,Y ⟨λ_=>g,λh=>by simp[v]at h,λh=>by simp[r]at h⟩⟩
     . have r:D 8=false:=DQ f n;have v:D 7=false:=DQ f n;have g:=A.o.1 v;have U:=d.o.2.2.2.2.1 (m 4 DK) r;have h1:=EU d (m 5 DK) r;clear m;have HC:=Y (OZ _ _ (cf ps k) q V U h1 (HP.o.at k) Qi.o);clear U h1;refine Jj J J λK hK=>?_;go_simp;go_wp2_with(go_at_call 44;refine HC.o.mono ?_;rintro e w5 ⟨v5,rfl,bj,ad⟩)
       exact E8 ⟨_,_,J,Y ⟨d.o.1,d.o.2.1,d.o.2.2.1,d.o.2.2.2.1,λh B=>(d.o.2.2.2.2.1 h B).below ad,λh B=>((EU d) h B).below ad,λ_ _=>bj,(EX d),(Eb d),⟨λh=>(EQ d) (by simpa using h),λh=>d.o.2.2.2.2.2.2.2.2.2.2 (by simpa using h)⟩⟩,Y ⟨λ_=>g.below ad,λh=>by simp[v]at h,λh=>by simp[r]at h⟩⟩
     . have r:D 8=false:=DQ f n;have g:=A.o.1 n;have U:=EW d (m 6 DK) r;obtain⟨a9,l9,c9,s9,b9,k9,d9,t9,rfl⟩:=Jq.form U;clear m;refine Dd ?_;exact⟨Y ⟨d.o.1,d.o.2.1,d.o.2.2.1,d.o.2.2.2.1,λh B=>(d.o.2.2.2.2.1 h B).below (Ba V _),λh B=>((EU d) h B).below (Ba V _),λh B=>((EW d) h B).below (Ba V _),λ_=>⟨_,_,_,J⟩,(Eb d),⟨λh=>(EQ d) (by simpa using h),λh=>d.o.2.2.2.2.2.2.2.2.2.2 (by simpa using h)⟩⟩,Y ⟨λh=>by simp at h,λ_ _=>⟨V,_,_,_,_,J,g,U,J⟩,λh=>by simp[r]at h⟩⟩
     . obtain⟨E,x9,y9,z9,u9,rfl,g,bi,bc⟩:=A.o.2.1 (m 7 DK) n;obtain rfl:=d.o.1 (m 0 DK);have Qe:D 9=false:=DQ f n;have Qg:=m 7 DK;obtain⟨v5,w5,aj,an,bm,ad⟩:=XN false W0.heap.size E _ _ g.1 bi (by rw[JM];exact HK.o) g.2.size;dsimp only[E1,Dr]at aj;subst bc;obtain⟨a6,c6,e6,_⟩:=an.form;subst e6;clear m;refine Jj J J λK hK=>?_;refine Lib.wp_append_run _ _ _ 30 30 J _ _ J J _ _ aj (hK _ _ ?_);exact E8 ⟨_,_,J,Y ⟨λ_=>rfl,d.o.2.1,d.o.2.2.1,d.o.2.2.2.1,λ_ h=>by simp at h,λ_ h=>by simp at h,λ_ h=>by simp at h,(EX d),λ_=>⟨_,_,_,J⟩,⟨λh=>(EQ d) (by simpa using h),λh=>by simp[Qe]at h⟩⟩,Y ⟨λh=>by simp[Qg]at h,λ_ h=>by simp at h,λ_=>⟨an,ad _ _ (Aa _) g.2⟩⟩⟩
     . clear m;refine Dd ?_;exact⟨(Nl d ⟨λh=>by simp at h,λ_=>rfl⟩),Y ⟨λh=>A.o.1 (by simpa using h),λh B=>A.o.2.1 (by simpa using h) (by simpa using B),λh=>A.o.2.2 (by simpa using h)⟩⟩
    case fin1=>
     rintro D ae V ah ⟨ta,tb,tc,td,te,tf,tg,ti,T,tk,rfl,d,A⟩;have HO:=Y (A.o.2.2 (ah 8 DN));obtain rfl:=d.o.2.2.2.2.2.2.2.2.2.2 (ah 9 DN);clear d A ah;obtain⟨a9,c9,e9,_⟩:=HO.o.1.form;rw[<-YW,JM]at e9;subst e9;go_wp2_with fail
     go_roundw
     case rel=>exact⟨k+1,O,by go_num,⟨a9,c9,J⟩,Y (by rw[YW];exact HO.o)⟩
     case measure=>simp[intOf];omega
  . have Qk:k=la:=O
    subst Qk;have HT:=Y (KK _ _ wr (HR.o.1.row (by rw[JM];omega)));have HE:=Y (show Jb (Xt (λi=>cf ps i*q) k)=Jb (YD q ps)from Yy λj=>by
     rw[K6,Xc];split
     . rfl
     . rw[JS (by have:=Qh.o;omega)];grind)
    rw[HE.o]at HT;go_wp2_with(go_at_call 45;refine HT.o.mono ?_;clear HT;rintro e w1 ⟨u1,rfl,ay,az⟩;obtain⟨a7,l7,c7,rfl⟩:=ay.form)
    go_ret;exact⟨_,J,ay,(Bt Qd.o HR.o.2).trans (az.mono (Al Qd.o.size HR.o.2.size))⟩
theorem cY{ps:Ja}(h:Sqs ps):Sqs (Jb (YD (-1) ps)):=Sqs.of λi=>by
 rw[JR,Xc,show cf ps i*-1=-(cf ps i)from by grind];exact(h.at i).neg
def SR(s t:M)(ps qs:Ja)(w:H)(f:RowK false w s ps)(g:RowK false w t qs)(q:Sqs ps)(i:Sqs qs)(c:ps.length<1099511627776/\qs.length<1099511627776):
 Q L 63 #[s,t] w λe v=>∃u,e=.returned u/\RowK false v u (JP ps qs)/\Bl w v:=by
 obtain⟨a,la,ca,rfl⟩:=f.form;obtain⟨b,lb,cb,rfl⟩:=g.form;obtain⟨x,m,n,d⟩:=Do (show Xm ps (Jb (YD (-1) qs))=JP ps qs from Yy λj=>by rw[Xv,JR,Xv]) (Ip (-1) O O w) (λ(V:H) (u:M) (h:Bl w V) (l:Jq V u ((-1:Int):Rat))=>SQ _ u qs (-1) V (g.below h) l i (Sq.of (k:=1) ⟨(Sm.one 1 O).neg,Sm.one 1 O⟩ O) c.2) λ(V:H) (u:M) (h:Bl w V) (l:RowK false V u (Jb (YD (-1) qs)))=>Ob _ u ps _ V (f.below h) l q (cY i) ⟨c.1,Cq (Yk _) (by unfold YD;rw[List.length_map];exact c.2)⟩;rw[x.o]at d;clear f g q i c;go_enter func63,ntmps63
 go_wp2_with(first
  |(go_at_call 42;refine m.o.mono ?_;clear m;rintro e R ⟨u1,rfl,B,p⟩)
  |(go_at_call 76;refine(n.o _ _ p B).mono ?_;clear n;rintro e S ⟨u2,rfl,D,z⟩;have o:=Bt p z)
  |(go_at_call 64;refine(d.o _ _ o D).mono ?_;clear d;rintro e T ⟨u3,rfl,r,A⟩;have y:=Bt o A;obtain⟨E,K,I,rfl⟩:=r.form))
 go_ret;exact⟨_,J,r,y⟩
def K7(vq:M)(n:Nat)(q:Rat)(w:H)(hq:Jq w vq q)(hn:n<1099511627775):
 Q L 78 #[N P (n:Int),vq] w λe w'=>∃u,e=.returned u/\RowK false w' u (Jb (Dg n [q]))/\Bl w w':=by
 obtain⟨l,A,p,B,m,z,r,D,rfl⟩:=Jq.form hq;have b0:=JN.new w 85 (C l A p) (F B) (C m z r) (F D);have d:Bl w (w.alloc (G #[C l A p,F B,C m z r,F D] 85)):=Ba w _;obtain⟨W0,t⟩:=ex (w.alloc (G #[C l A p,F B,C m z r,F D] 85));rw[t]at d b0;obtain⟨Qe,HQ,I,Qh⟩:=Do t (hq.below d) d b0;clear hq t b0 d;go_enter func78,ntmps78
 go_upto_region 1 with fail
 rw[Qe.o];go_wp2;go_loopw [5,6] (λo i wr=>∃k:Nat,k<=n/\i=N P (k:Int)/\(∃W X,o=C W k X)/\Hid (Ep false W0 wr o (Xt (λ_=>0) k))) λ_ i _=>n-(intOf i).toNat
 case atStart=>exact⟨0,As _,J,⟨_,_,J⟩,Y ⟨EI.nil _ _ _,BB _ _⟩⟩
 case round=>
  obtain⟨k,hk,rfl,⟨W,X,rfl⟩,a⟩:=hrel;by_cases ak:k<n
  . have am:(k:Int)<(n:Int):=O
    have E:=Y (Ip 0 O O wr);have HK:=Y (show k+1<=1099511627776 by omega);go_wp2_with(first
     |(go_at_call 42;refine E.o.mono ?_;clear E;rintro e w3 ⟨u3,rfl,y,x⟩;obtain⟨ae,ap,ai,aq,ah,an,aj,ay,rfl⟩:=Jq.form y;obtain⟨v9,w9,f,c,v,b⟩:=XN false W0.heap.size w3 _ _ (a.o.1.below x) y (by rw[JM];exact HK.o) (by have:=a.o.2.size;have:=x.size;omega);have K:=Y c;have Qg:=Y (b W0.heap.size W0 (Aa _) (Bt a.o.2 x));clear c v b y)
     |(at_builtin;refine Bg _ J _ _ 30 30 J _ _ J J _ _ f ?_))
    obtain⟨a9,c9,S,_⟩:=K.o.form;go_roundw
    case rel=>
     refine⟨k+1,O,by go_num,⟨a9,c9,?_⟩,Y ⟨?_,Qg.o⟩⟩
     . rw[At,JM]at S;exact S
     . rw[YW];exact K.o
    case measure=>simp[intOf];omega
  . have Qf:k=n:=O
    subst Qf;have V:=Qh.o.below a.o.2;obtain⟨e0,e1,e2,e3⟩:=V.cq;obtain⟨v9,w9,f,c,v,b⟩:=XN false W0.heap.size wr _ _ a.o.1 (HQ.o.below a.o.2) (by rw[JM];omega) a.o.2.size;dsimp only[E1,Dr]at f;have HE:=Y (show Jb (Xt (λ_=>0) k++[q])=Jb (Dg k [q])from Yy λj=>by
     rw[Mr,JM,IM,K6];by_cases s:j=k
     . rw[BL s,BL O,s,A7,YC]
     . rw[BH s];by_cases T:k<=j
       . rw[BL T,JS si];split<;>rfl
       . rw[BH T];split<;>rfl)
    have R:=b W0.heap.size W0 (Aa _) a.o.2;have g:=Y (KK _ _ w9 (c.row (by rw[At,JM];simp;omega)));rw[HE.o]at g;clear c v b V;go_wp2_with(first
     |(at_builtin;refine Bg _ J _ _ 30 30 J _ _ J J _ _ f ?_)
     |(go_at_call 45;refine g.o.mono ?_;clear g;rintro e w1 ⟨u1,rfl,U,ad⟩;obtain⟨a7,l7,c7,rfl⟩:=U.form))
    go_ret;exact⟨_,J,U,(Bt I.o R).trans (ad.mono (Al I.o.size R.size))⟩
def DV(W:H)(R:Nat)(s:ByteArray)(I E A:Int):Prop:=W.heap[R]?=some (G #[.string s,.int P I,.int P E,.int P A] 106 (0,0))
section
variable {W W':World} {R:Nat} {s:ByteArray} {I E A:Int}
def DV.lt(h:DV W R s I E A):R<W.heap.size:=(Ab.1 h).1
def DV.c0(h:DV W R s I E A):W.cell? ⟨R,0,none⟩=some (.string s):=by simp[World.cell?,show W.heap[R]?=_ from h]
def DV.c1(h:DV W R s I E A):W.cell? ⟨R,1,none⟩=some (N P I):=by simp[World.cell?,show W.heap[R]?=_ from h]
def DV.cp(h:DV W R s I E A):type_of% (And.intro h.c0 h.c1):=⟨h.c0,h.c1⟩
def DV.c2(h:DV W R s I E A):W.cell? ⟨R,2,none⟩=some (N P E):=by simp[World.cell?,show W.heap[R]?=_ from h]
def DV.c3(h:DV W R s I E A):W.cell? ⟨R,3,none⟩=some (N P A):=by simp[World.cell?,show W.heap[R]?=_ from h]
def DV.cq(h:DV W R s I E A):type_of% (And.intro h.c0 (And.intro h.c1 (And.intro h.c2 h.c3))):=⟨h.c0,h.c1,h.c2,h.c3⟩
def DV.f(h:DV W R s I E A)(o:Nat):W.frozen? ⟨R,o,none⟩=false:=by simp[World.frozen?,show W.heap[R]?=_ from h]
def DV.below(h:DV W R s I E A)(a:Bl W W'):DV W' R s I E A:=(a.block R h.lt).trans h
def DV.set1(h:DV W R s I E A)(x:Int):DV (W.setCell ⟨R,1,none⟩ (N P x)) R s x E A:=by
 have:=J1 (o:=1) h (N P x);exact this
def DV.set2(h:DV W R s I E A)(x:Int):DV (W.setCell ⟨R,2,none⟩ (N P x)) R s I x A:=by
 have:=J1 (o:=2) h (N P x);exact this
def DV.set3(h:DV W R s I E A)(x:Int):DV (W.setCell ⟨R,3,none⟩ (N P x)) R s I E x:=by
 have:=J1 (o:=3) h (N P x);exact this
def DV.drewN(h:DV W R s I E A)(n:Nat):DV (W.drewN n) R s I E A:=h
end
variable{j:Nat}
def JC(W:H)(n:Nat)(r:Option Nat):W.grownBy (W.drewN n) r:=⟨J,J,J,Aa _,λ_ _ _=>rfl⟩
def K8(R:Nat)(s:ByteArray)(I E A e p:Int)(w:H)(h:DV w R s I E A):
 Q L 66 #[.pointer (some ⟨R,0,none⟩),N P e,N P p] w λr a=>r=.returned (.tuple #[])/\DV a R s I (if E=0 then e else E) (if E=0 then p else A)/\w.grownBy a (some R):=by
 have c2:=h.c2;have f2:=h.f 2;have f3:=h.f 3;have c3:=h.c3;by_cases hE:E=0
 . rw[BL hE,BL hE];go_enter func66,ntmps66
   go_wp2;go_end0;exact⟨J,(h.set2 e).set3 p,Jg (JE w R 2 _) (JE _ R 3 _)⟩
 . rw[BH hE,BH hE];have b:(E==0)=false:=by rw[BG];exact hE
   go_enter func66,ntmps66
   go_wp2;go_end0;exact⟨J,h,YK _ _⟩
theorem MU{c d:UInt8}(h:c≠d):((c.toNat:Int)==(d.toNat:Int))=false:=by
 rw[BG];intro e;exact h (Fo.1 O)
theorem Ji(s:ByteArray):(Jf s).length=s.size:=by unfold Jf;simp
def MV{f:UInt8->Bool}{s:ByteArray}{I:Nat}(b:I<=j)(c:j<=s.size)(d:∀k (a:k<s.size),I<=k->k<j->f s[k]=true)(e:∀g:j<s.size,f s[j]=false):Xy f (Jf s) I=j:=
 Lg b (by rw[Ji];exact c) (λk a g1 g2=>d k (by rwa[Ji]at a) g1 g2) λa=>e (by rwa[Ji]at a)
def SU{s:ByteArray}{c:UInt8}(a:j<s.size):Yd (Jf s) j c=(s[j]==c):=by
 unfold Yd;rw[Aq (by rw[Ji];exact a)];rfl
def SV{s:ByteArray}{c:UInt8}(a:s.size<=j):Yd (Jf s) j c=false:=by
 unfold Yd;rw[AY (by rw[Ji];exact a)];rfl
def E9(W:H)(R:Nat):Nat:=(intOf ((W.cell? ⟨R,1,none⟩).getD undef)).toNat
def Hd{W:H}{R:Nat}{s:ByteArray}{I:Nat}{E A:Int}(h:DV W R s I E A):E9 W R=I:=by
 unfold E9;rw[h.c1];simp[intOf]
def F0(R:Nat)(s:ByteArray)(I:Nat)(E A:Int)(c:UInt8)(w:H)(h:DV w R s I E A)(V:I<=s.size)(hs:s.size<=300):
 Q L 65 #[.pointer (some ⟨R,0,none⟩),N .u8 (c.toNat:Int)] w λr v=>r=.returned (F (decide (E=0)&&Yd (Jf s) (DO (Jf s) I) c))/\DV v R s (DO (Jf s) I:Nat) E A/\w.grownBy v (some R):=by
 have x:=Y h;clear h;go_enter func65,ntmps65
 go_wp2;go_loopw [5] (λ_ wr=>∃j:Nat,I<=j/\j<=s.size/\Hid (DV wr R s j E A/\w.grownBy wr (some R)/\∀k (n:k<s.size),I<=k->k<j->s[k]=32)) λ_ wr=>s.size-E9 wr R
 case atStart=>exact⟨I,Aa _,V,Y ⟨x.o,YK _ _,λk _ q t=>by omega⟩⟩
 case round=>
  obtain⟨j,q,t,a⟩:=hrel;obtain⟨c0,c1⟩:=a.o.1.cp;have c2:=a.o.1.c2;have f1:=a.o.1.f 1;by_cases u:j<s.size
  . have ae:(j:Int)<(s.size:Int):=O
    have ad:(0:Int)<=(j:Int):=O
    by_cases l:s[j]=32
    . have W:((s[j].toNat:Int)==32)=true:=by rw[l];rfl
      have B:=Y l;clear l;go_wp2_with fail
      go_quiet (fail)
      go_wp2;go_roundw
      case rel=>
       refine⟨j+1,O,O,Y ⟨?_,Jg (Jg a.o.2.1 (JC _ _ _)) (JE _ R 1 _),λk n g1 g2=>?_⟩⟩
       . have:=(a.o.1.drewN nq).set1 ((j:Int)+1);rw[show((j:Int)+1)=((j+1:Nat):Int)from by omega]at this;exact this
       . by_cases e:k=j
         . subst e;exact B.o
         . exact a.o.2.2 k n g1 O
      case measure=>
       have T:=Hd a.o.1;have U:E9 ((wr.drewN nq).setCell ⟨R,1,none⟩ (N P ((j:Int)+1))) R=j+1:=by
        have:=(a.o.1.drewN nq).set1 ((j:Int)+1);rw[show((j:Int)+1)=((j+1:Nat):Int)from by omega]at this ⊢;exact Hd this
       show s.size-E9 ((wr.drewN nq).setCell ⟨R,1,none⟩ (N P ((j:Int)+1))) R<s.size-E9 wr R;rw[T,U];omega
    . have W:((s[j].toNat:Int)==32)=false:=MU (d:=32) l;have b:=Y (show DO (Jf s) I=j from MV q t (λk n g1 g2=>by rw[a.o.2.2 k n g1 g2];rfl) λ_=>BG.2 l);have i:=Y (SU (s:=s) (c:=c) u);clear l;go_wp2_with fail
      go_quiet (fail)
      go_wp2;have g:=Y (show w.grownBy (wr.drewN nq) (some R)from Jg a.o.2.1 (JC _ _ _));have f:=Y (a.o.1.drewN nq);obtain⟨D,K⟩:=f.o.cp;have S:=f.o.c2;by_cases hE:E=0
      . have p:(E==0)=true:=by rw[hE];rfl
        by_cases m:s[j]=c
        . have y:((s[j].toNat:Int)==(c.toNat:Int))=true:=by rw[m];exact beq_self_eq_true _
          have o:=Y (show(decide (E=0)&&(s[j]==c))=true by rw[hE,m];simp);clear m hE;go_quiet (fail)
          go_wp2;go_ret;exact⟨by rw[b.o,i.o,o.o];rfl,by rw[b.o];exact f.o.drewN _,Jg g.o (JC _ _ _)⟩
        . have y:((s[j].toNat:Int)==(c.toNat:Int))=false:=MU m;have o:=Y (show(decide (E=0)&&(s[j]==c))=false by rw[BG.2 m,Bool.and_false]);clear m hE;go_quiet (fail)
          go_wp2;go_ret;exact⟨by rw[b.o,i.o,o.o];rfl,by rw[b.o];exact f.o.drewN _,Jg g.o (JC _ _ _)⟩
      . have p:(E==0)=false:=by rw[BG];exact hE
        have o:=Y (show(decide (E=0)&&(s[j]==c))=false by rw[BE hE,Bool.false_and]);clear hE;go_quiet (fail)
        go_wp2;go_ret;exact⟨by rw[b.o,i.o,o.o];rfl,by rw[b.o];exact f.o.drewN _,Jg g.o (JC _ _ _)⟩
  . have z:j=s.size:=O
    have X:decide (j<s.size)=false:=BE O;have b:=Y (show DO (Jf s) I=j from MV q t (λk n g1 g2=>by rw[a.o.2.2 k n g1 g2];rfl) λh=>by omega);have i:=Y (SV (s:=s) (j:=j) (c:=c) O);clear z u;go_wp2_with fail
    go_quiet (fail)
    go_wp2;have g:=Y (show w.grownBy (wr.drewN nq) (some R)from Jg a.o.2.1 (JC _ _ _));have f:=Y (a.o.1.drewN nq);obtain⟨D,K⟩:=f.o.cp;have S:=f.o.c2;by_cases hE:E=0
    . have p:(E==0)=true:=by rw[hE];rfl
      clear hE;go_quiet (fail)
      go_wp2;go_ret;exact⟨by rw[b.o,i.o,Bool.and_false];rfl,by rw[b.o];exact f.o.drewN _,Jg g.o (JC _ _ _)⟩
    . have p:(E==0)=false:=by rw[BG];exact hE
      clear hE;go_quiet (fail)
      go_wp2;go_ret;exact⟨by rw[b.o,i.o,Bool.and_false];rfl,by rw[b.o];exact f.o.drewN _,Jg g.o (JC _ _ _)⟩
end
section
variable{l:List UInt8}{d n p:Nat}
def SW(c:UInt8)(w:H):Q L 130 #[N .u8 (c.toNat:Int)] w λr e=>r=.returned (F (DW c))/\e=w:=by
 by_cases b:48<=c.toNat
 . have g1:decide ((48:Int)<=(c.toNat:Int))=true:=BI O;by_cases d:c.toNat<=57
   . have a:=Y (show DW c=true by simp[DW,b,d]);go_enter func130,ntmps130
     go_wp2;go_ret;exact⟨by rw[a.o];simp;omega,J⟩
   . have a:=Y (show DW c=false by simp[DW,d]);go_enter func130,ntmps130
     go_wp2;go_ret;exact⟨by rw[a.o];simp;omega,J⟩
 . have a:=Y (show DW c=false by simp[DW,b]);go_enter func130,ntmps130
   go_wp2;go_ret;exact⟨by rw[a.o];rfl,J⟩
def Y7(R:Nat)(s:ByteArray)(I:Nat)(E A:Int)(c:UInt8)(w:H)(h:DV w R s I E A)(j:I<=s.size)(hs:s.size<=300)(b:Bool)(l:b=(decide (E=0)&&Yd (Jf s) (DO (Jf s) I) c)):
 Q L 61 #[.pointer (some ⟨R,0,none⟩),N .u8 (c.toNat:Int)] w λr m=>r=.returned (F b)/\DV m R s ((DO (Jf s) I+(if b then 1 else 0):Nat):Int) E A/\w.grownBy m (some R):=by
 have d:=Y (F0 R s I E A c w h j hs);have k:=Y (show DO (Jf s) I<=300 from Al (Ys (by rw[Ji];exact j)) (by rw[Ji];exact hs));rw[<-l]at d;clear h j hs l;cases b
 . go_enter func61,ntmps61
   go_wp2_with first
    |(go_at_call 65;refine d.o.mono ?_;clear d;rintro e n ⟨rfl,a,f⟩;have i:=Y a;clear a;have g:=Y f;clear f)
   go_ret;exact⟨J,i.o,g.o⟩
 . go_enter func61,ntmps61
   go_wp2_with first
    |(go_at_call 65;refine d.o.mono ?_;clear d;rintro e n ⟨rfl,a,f⟩;have i:=Y a;have c1:=a.c1;have f1:=a.f 1;clear a;have g:=Y f;clear f;have o:=k.o;clear k)
   go_ret;exact⟨J,i.o.set1 _,Jg g.o (JE _ R 1 _)⟩
def SX(h:l.all DW=true):num l<10^l.length:=by
 have:=Yl (KY h);rwa[I0]at this
def YL(l:List UInt8)(p d n:Nat):Prop:=p+d<=l.length/\((l.drop p).take d).all DW=true/\n=num ((l.drop p).take (min 12 d))
theorem YL.zero(h:p<=l.length):YL l p 0 0:=⟨O,DK,by simp[num,Dq,val]⟩
def SY(l:List UInt8)(p d:Nat)(h:p+d<l.length):(l.drop p).take (d+1)=(l.drop p).take d++[l[p+d]]:=by
 rw[A0 (by rw[Cm];omega),List.getElem_drop]
def YL.all{l:List UInt8}{p d n:Nat}(h:YL l p d n)(hl:p+d<l.length)(a:DW l[p+d]=true):((l.drop p).take (d+1)).all DW=true:=by
 rw[SY l p d hl,Fm,h.2.1];simp[a]
def YL.next1(h:YL l p d n)(hl:p+d<l.length)(a:DW l[p+d]=true)(b:d<12):YL l p (d+1) (10*n+(l[p+d].toNat-48)):=by
 refine⟨O,h.all hl a,?_⟩;rw[show min 12 (d+1)=d+1 from by omega,SY l p d hl,NH,h.2.2,show min 12 d=d from by omega];omega
def YL.next2(h:YL l p d n)(hl:p+d<l.length)(a:DW l[p+d]=true)(b:12<=d):YL l p (d+1) n:=by
 refine⟨O,h.all hl a,?_⟩;rw[show min 12 (d+1)=min 12 d from by omega];exact h.2.2
def YL.lt(h:YL l p d n):n<10^min 12 d:=by
 have e:((l.drop p).take (min 12 d)).all DW=true:=by
  rw[AG];intro c b;refine AG.1 h.2.1 c ?_;rw[show(l.drop p).take (min 12 d)=((l.drop p).take d).take (min 12 d)from by rw[List.take_take];congr 1;omega]at b;exact Fy b
 have a:=SX e;rw[Ah,Cm,<-h.2.2]at a;have:=h.1;rwa[show min (min 12 d) (l.length-p)=min 12 d from by omega]at a
def YL.lt12(h:YL l p d n):n<1000000000000:=
 Ap h.lt (Ag (n:=10) O (by omega:min 12 d<=12))
def YL.lt11(h:YL l p d n)(a:d<12):n<100000000000:=
 Ap h.lt (Ag (n:=10) O (by omega:min 12 d<=11))
def YL.dg(h:YL l p d n)(a:∀hl:p+d<l.length,DW l[p+d]=false):EB l p=p+d:=by
 refine Lg O h.1 (λk e b c=>?_) a;have:=AG.1 h.2.1 (l[k]) ?_
 . exact this
 . rw[List.mem_iff_getElem];refine⟨k-p,by rw[Ah,Cm];omega,?_⟩;rw[List.getElem_take,List.getElem_drop];congr 1;omega
def D0{α:Type}(r:Rd α)(E:Int):Int:=if E=0 then(match r with|.error e _=>(e:Int)|.ok _ _=>0)else E
def EJ{α:Type}(r:Rd α)(E A:Int):Int:=if E=0 then(match r with|.error _ p=>(p:Int)|.ok _ _=>A)else A
def Oc(R:Nat)(s:ByteArray)(I:Nat)(E A:Int)(p:Nat)(w:H)(h:DV w R s I E A)(hI:I<=s.size)(hs:s.size<=300)(hp:DO (Jf s) I=p):
 Q L 102 #[.pointer (some ⟨R,0,none⟩)] w λr w'=>∃d n:Nat,r=.returned (.tuple #[N P (n:Int),N P (p:Int)])/\EB (Jf s) p=p+d/\YL (Jf s) p d n/\DV w' R s ((p+d:Nat):Int) (D0 (J2 (Jf s) I) E) (EJ (J2 (Jf s) I) E A)/\w.grownBy w' (some R):=by
 have HI:=Y (F0 R s I E A 32 w h hI hs);rw[hp]at HI;have Qo:p<=s.size:=by rw[<-hp];exact Al (Ys (by rw[Ji];exact hI)) (by rw[Ji];exact Aa _)
 have U:=Y hp;have B:=Y λ(x y:Int) (I':Int) (V:H) (hh:DV V R s I' E A)=>K8 R s I' E A x y V hh;clear h hI hp;go_enter func102,ntmps102
 go_wp2_with first
  |(go_at_call 65;refine HI.o.mono ?_;clear HI;rintro e w1 ⟨rfl,ah,ai⟩;have Qn:=Y ah;have c1:=ah.c1;clear ah;have Qp:=Y ai;clear ai)
 go_loopw [5] (λnv wr=>∃d n:Nat,nv=N P (n:Int)/\p+d<=s.size/\Hid (DV wr R s ((p+d:Nat):Int) E A/\w.grownBy wr (some R)/\YL (Jf s) p d n)) λ_ wr=>s.size-E9 wr R
 case atStart=>exact⟨0,0,J,O,Y ⟨Qn.o,Qp.o,YL.zero (by rw[Ji];exact Qo)⟩⟩
 case round=>
  clear c1;obtain⟨d,n,rfl,aj,c⟩:=hrel;obtain⟨j,hj⟩:∃j,j=p+d:=⟨_,J⟩;have b:=Y hj;rw[<-hj]at aj c;have aq:(j:Int)-(p:Int)=(d:Int):=O
  clear hj;obtain⟨c0,c1⟩:=c.o.1.cp;have f1:=c.o.1.f 1;by_cases ay:j<s.size
  . have az:(j:Int)<(s.size:Int):=O
    have ap:(0:Int)<=(j:Int):=O
    by_cases q:DW s[j]=true
    . have W:=Y (SW s[j]);rw[q]at W;have am:=YV q;have Ql:=Y q;clear q;go_wp2_with fail
      go_quiet ((go_at_call 130;exact Calls.quiet_of_same (W.o _)))
      obtain⟨z,h0⟩:∃k,k=nq:=⟨nq,J⟩;subst h0;have l:=Y (show DV (wr.drewN z) R s (j:Int) E A/\w.grownBy (wr.drewN z) (some R)/\YL (Jf s) p d n from⟨c.o.1.drewN z,Jg c.o.2.1 (JC _ _ _),c.o.2.2⟩);have Qk:=Y (Hd c.o.1);clear W;by_cases ae:d<12
      . have ad:(d:Int)<12:=O
        have hn:=l.o.2.2.lt11 ae;go_wp2;go_quiet (fail)
        have ak:=Y (show DV ((wr.drewN z).drewN nq) R s (j:Int) E A/\w.grownBy ((wr.drewN z).drewN nq) (some R)/\YL (Jf s) p d n from⟨l.o.1.drewN nq,Jg l.o.2.1 (JC _ _ _),l.o.2.2⟩);go_wp2;go_roundw
        case rel=>
         refine⟨d+1,10*n+(s[j].toNat-48),?_,?_,Y ⟨?_,?_,?_⟩⟩
         . congr 1;omega
         . have:=b.o;omega
         . have:=(c.o.1.drewN (z+nq)).set1 ((j:Int)+1);rw[show((j:Int)+1)=((p+(d+1):Nat):Int)from by have:=b.o;omega]at this ⊢;exact this
         . exact Jg (Jg c.o.2.1 (JC _ _ _)) (JE _ R 1 _)
         . have:=c.o.2.2.next1 (by rw[Ji];have:=b.o;omega) (by simp only[<-b.o];exact Ql.o) ae;simp only[<-b.o]at this;exact this
        case measure=>
         have X:=Hd ((c.o.1.drewN (z+nq)).set1 ((j+1:Nat):Int));rw[show((j+1:Nat):Int)=(j:Int)+1 from by omega]at X;rw[X,Qk.o];omega
      . have ad:¬(d:Int)<12:=O
        go_wp2;go_roundw
        case rel=>
         refine⟨d+1,n,J,?_,Y ⟨?_,?_,?_⟩⟩
         . have:=b.o;omega
         . have:=(c.o.1.drewN z).set1 ((j:Int)+1);rw[show((j:Int)+1)=((p+(d+1):Nat):Int)from by have:=b.o;omega]at this ⊢;exact this
         . exact Jg (Jg c.o.2.1 (JC _ _ _)) (JE _ R 1 _)
         . exact c.o.2.2.next2 (by rw[Ji];have:=b.o;omega) (by simp only[<-b.o];exact Ql.o) O
        case measure=>
         have X:=Hd ((c.o.1.drewN z).set1 ((j+1:Nat):Int));rw[show((j+1:Nat):Int)=(j:Int)+1 from by omega]at X;rw[X,Qk.o];omega
    . have W:=Y (SW s[j]);have q:=Bool.eq_false_iff.2 q;rw[q]at W;have i:=Y (show EB (Jf s) p=j by rw[b.o];exact c.o.2.2.dg λhl=>by simp only[<-b.o];exact q);clear q;go_wp2_with fail
      go_quiet ((go_at_call 130;exact Calls.quiet_of_same (W.o _)))
      obtain⟨K,D,T⟩:=Dc (c.o.1.drewN nq) (show w.grownBy (wr.drewN nq) (some R)from Jg c.o.2.1 (JC _ _ _)) c.o.2.2;clear c;by_cases u:d=0
      . have m:j=p:=by have:=b.o;omega
        have g:=Y (show J2 (Jf s) I=.error 2 p by unfold J2;rw[U.o,i.o,BL m]);have Qm:=Y u;clear u;go_wp2_with first
         |(go_at_call 66;refine(B.o _ _ _ _ K.o).mono ?_;clear B;rintro e w2 ⟨rfl,f,o⟩;have l:=Y f;have Qi:=f.c1;clear f;have S:=Y (Jg D.o o);clear o)
        refine BA (v:=.tuple #[N P (n:Int),N P (p:Int)]) (by simp[results,results102,go_sem]) J ⟨d,n,J,by rw[i.o];exact b.o,T.o,?_,S.o⟩;rw[<-b.o];have:=l.o;rw[g.o];exact this
      . by_cases ae:12<d
        . have m:¬j=p:=by have:=b.o;omega
          have Qj:((j:Int)==(p:Int))=false:=by rw[BG];omega
          have ad:(12:Int)<(d:Int):=O
          have g:=Y (show J2 (Jf s) I=.error 3 p by unfold J2;rw[U.o,i.o,BH m,BL (by have:=b.o;omega)]);clear u;go_wp2_with first
           |(go_at_call 66;refine(B.o _ _ _ _ K.o).mono ?_;clear B;rintro e w2 ⟨rfl,f,o⟩;have l:=Y f;have Qi:=f.c1;clear f;have S:=Y (Jg D.o o);clear o)
          refine BA (v:=.tuple #[N P (n:Int),N P (p:Int)]) (by simp[results,results102,go_sem]) J ⟨d,n,J,by rw[i.o];exact b.o,T.o,?_,S.o⟩;rw[<-b.o];have:=l.o;rw[g.o];exact this
        . have m:¬j=p:=by have:=b.o;omega
          have Qj:((j:Int)==(p:Int))=false:=by rw[BG];omega
          have ad:¬(12:Int)<(d:Int):=O
          have t:∃a k,J2 (Jf s) I=.ok a k:=by unfold J2;rw[U.o,i.o,BH m,BH (by have:=b.o;omega)];exact⟨_,_,J⟩
          obtain⟨a,k,t⟩:=t;have g:=Y (show D0 (J2 (Jf s) I) E=E/\EJ (J2 (Jf s) I) E A=A by rw[t];unfold D0 EJ;constructor<;>(by_cases hE:E=0<;>simp[hE]));clear t;clear u;go_wp2;refine BA (v:=.tuple #[N P (n:Int),N P (p:Int)]) (by simp[results,results102,go_sem]) J ⟨d,n,J,by rw[i.o];exact b.o,T.o,?_,D.o⟩;rw[show((p:Int)+(d:Int))=(j:Int)from by have:=b.o;omega,g.o.1,g.o.2];exact K.o
  . have i:=Y (show EB (Jf s) p=j by rw[b.o];exact c.o.2.2.dg λhl=>absurd hl (by rw[Ji];have:=b.o;omega));have an:decide (j<s.size)=false:=BE O;go_wp2_with fail
    go_quiet (fail)
    obtain⟨K,D,T⟩:=Dc (c.o.1.drewN nq) (show w.grownBy (wr.drewN nq) (some R)from Jg c.o.2.1 (JC _ _ _)) c.o.2.2;clear c;by_cases u:d=0
    . have m:j=p:=by have:=b.o;omega
      have g:=Y (show J2 (Jf s) I=.error 2 p by unfold J2;rw[U.o,i.o,BL m]);have Qm:=Y u;clear u;go_wp2_with first
       |(go_at_call 66;refine(B.o _ _ _ _ K.o).mono ?_;clear B;rintro e w2 ⟨rfl,f,o⟩;have l:=Y f;have Qi:=f.c1;clear f;have S:=Y (Jg D.o o);clear o)
      refine BA (v:=.tuple #[N P (n:Int),N P (p:Int)]) (by simp[results,results102,go_sem]) J ⟨d,n,J,by rw[i.o];exact b.o,T.o,?_,S.o⟩;rw[<-b.o];have:=l.o;rw[g.o];exact this
    . by_cases ae:12<d
      . have m:¬j=p:=by have:=b.o;omega
        have Qj:((j:Int)==(p:Int))=false:=by rw[BG];omega
        have ad:(12:Int)<(d:Int):=O
        have g:=Y (show J2 (Jf s) I=.error 3 p by unfold J2;rw[U.o,i.o,BH m,BL (by have:=b.o;omega)]);clear u;go_wp2_with first
         |(go_at_call 66;refine(B.o _ _ _ _ K.o).mono ?_;clear B;rintro e w2 ⟨rfl,f,o⟩;have l:=Y f;have Qi:=f.c1;clear f;have S:=Y (Jg D.o o);clear o)
        refine BA (v:=.tuple #[N P (n:Int),N P (p:Int)]) (by simp[results,results102,go_sem]) J ⟨d,n,J,by rw[i.o];exact b.o,T.o,?_,S.o⟩;rw[<-b.o];have:=l.o;rw[g.o];exact this
      . have m:¬j=p:=by have:=b.o;omega
        have Qj:((j:Int)==(p:Int))=false:=by rw[BG];omega
        have ad:¬(12:Int)<(d:Int):=O
        have t:∃a k,J2 (Jf s) I=.ok a k:=by unfold J2;rw[U.o,i.o,BH m,BH (by have:=b.o;omega)];exact⟨_,_,J⟩
        obtain⟨a,k,t⟩:=t;have g:=Y (show D0 (J2 (Jf s) I) E=E/\EJ (J2 (Jf s) I) E A=A by rw[t];unfold D0 EJ;constructor<;>(by_cases hE:E=0<;>simp[hE]));clear t;clear u;go_wp2;refine BA (v:=.tuple #[N P (n:Int),N P (p:Int)]) (by simp[results,results102,go_sem]) J ⟨d,n,J,by rw[i.o];exact b.o,T.o,?_,D.o⟩;rw[show((p:Int)+(d:Int))=(j:Int)from by have:=b.o;omega,g.o.1,g.o.2];exact K.o
end
section
def Rd.pos{α:Type}(r:Rd α):Prop:=∀e p,r=.error e p->e≠0
variable{l:List UInt8}{j k p:Nat}
theorem FM{α:Type}{r:Rd α}{a:α}(h:r=.ok a k)(E A:Int):D0 r E=E/\EJ r E A=A:=by
 grind[D0,EJ]
def cZ{α:Type}{r:Rd α}{e:Nat}(h:r=.error e p)(A:Int):D0 r 0=(e:Int)/\EJ r 0 A=(p:Int):=by
 subst h;exact⟨J,J⟩
def He{α:Type}(r:Rd α){E:Int}(h:E≠0)(A:Int):D0 r E=E/\EJ r E A=A:=by
 unfold D0 EJ;omega
def Od{α:Type}{r:Rd α}(hp:r.pos){E:Int}(h:D0 r E=0):E=0/\∃a k,r=.ok a k:=by
 by_cases hE:E=0
 . refine⟨hE,?_⟩;cases r with
   |ok a k=>exact⟨a,k,J⟩
   |error e p=>
    exfalso
    rw[hE,(cZ J 0).1]at h;exact hp e p J O
 . rw[(He r hE 0).1]at h;exact absurd h hE
theorem KL(l:List UInt8)(i:Nat):(J2 l i).pos:=by
 intro e p h;grind[J2]
theorem cg(l:List UInt8)(i:Nat):(Yv l i).pos:=by
 intro e p h;unfold Yv at h;split at h
 . rename_i b c a;cases h;exact KL l i _ _ a
 . split at h
   . split at h
     . rename_i b c a;cases h;exact KL _ _ _ _ a
     grind
   . cases h
theorem ct(l:List UInt8)(i:Nat):(EO l i).pos:=by
 intro e p h;unfold EO at h;split at h
 . split at h
   . rename_i b c a;cases h;exact KL _ _ _ _ a
   grind
 . cases h
theorem KM(l:List UInt8)(i:Nat):DO l (DO l i)=DO l i:=VY _ l i
def dA(l:List UInt8)(i:Nat):J2 l (DO l i)=J2 l i:=by unfold J2;rw[KM]
def FN(l:List UInt8)(i:Nat):Rd Rat:=if Yd l (DO l i) 120 then .ok 1 (DO l i)else Yv l i
def SZ(l:List UInt8)(i:Nat):(FN l i).pos:=by
 unfold FN;split
 . intro e p h;cases h
 . exact cg l i
theorem Sa(h:F5 l j=false):EB l j=j:=by
 rcases AP j l.length with a|a
 . refine Lg (Aa _) O (λk _ b c=>by omega) λd=>?_;grind[F5]
 . unfold EB Xy;rw[AN a];rfl
theorem dB(h:F5 l j=true):Yd l j 120=false:=by
 unfold F5 at h;unfold Yd;cases b:l[j]? with
 |none=>rfl
 |some c=>
  rw[b]at h;simp only[Option.map_some,Option.getD_some]at h;have a:=YV h;rw[BG];intro e;cases e;simp at a
theorem IA(l:List UInt8)(i:Nat):Yg l i=match FN l i with
 |.error e p=>.error e p
 |.ok c k=>if Yd l (DO l k) 120 then(match EO l (DO l k+1)with|.error e p=>.error e p|.ok n m=>.ok (c,n) m)else .ok (c,0) (DO l k):=by
 unfold Yg FN;grind[dB,Yv,KM,J2,Sa]
def YL.of_ok{i d n:Nat}(h:YL l p d n)(hp:DO l i=p)(c:EB l p=p+d){ds:List UInt8}{b:Nat}(a:J2 l i=.ok (ds,b) k):b=p/\k=p+d/\num ds=n:=by
 unfold J2 at a;rw[hp,c]at a;split at a
 . cases a
 . split at a
   . cases a
   . rename_i e f;simp only[EStateM.Result.ok.injEq,Prod.mk.injEq]at a;obtain⟨⟨rfl,rfl⟩,rfl⟩:=a;refine⟨J,J,?_⟩;rw[h.2.2,show p+d-p=d from by omega,show min 12 d=d from by omega]
section
variable {W W':World} {R:Nat} {s:ByteArray} {I E A:Int}
variable{v:M}
theorem MW(h:DV W R s I E A){cs:Array M}{t:TypeId}{m:Nat × Nat}{b:Nat}(a:W.heap[b]?=some (G cs t m))(c:t≠106):b≠R:=by
 intro e;subst e;have:=a.symm.trans h;grind
theorem Sb(h:DV W R s I E A)(hg:W.grownBy W' (some R)):∀k v ds,Row k W v ds->Row k W' v ds:=by
 intro k v ds c;obtain⟨a,cap,e,_⟩:=id c;subst e;refine c.grown hg λp f hl=>?_;obtain⟨b,i,d,cs,m,g⟩:=c.typ hl;grind[MW]
def Jq.rd{q:Rat}(a:Jq W v q)(h:DV W R s I E A)(hg:W.grownBy W' (some R)):Jq W' v q:=Dy.keep (r:=false) a (Sb h hg)
theorem RowK.rd{qs:Ja}(l:RowK false W v qs)(h:DV W R s I E A)(hg:W.grownBy W' (some R)):RowK false W' v qs:=by
 obtain⟨a,cap,e,g,i,j,c⟩:=l;refine⟨a,cap,e,g,i,j,?_⟩;rcases c with c|⟨b,f,d⟩
 . exact Am c
 . refine Ax ⟨b,f,d.keep (hg.block b d.lt ?_) (Sb h hg)⟩;obtain⟨cs,k,_⟩:=d;have:=MW h k (by show(85:TypeId)≠_;decide);grind
end
def FO(w V:H)(R B:Nat)(s:ByteArray)(I E A:Int)(c:Rat):Prop:=
 DV V R s I E A/\(∃a l ca e b k d t,JN V B 85 (C a l ca) (F e) (C b k d) (F t)/\Jq V (.agg #[C a l ca,F e,C b k d,F t]) c)/\w.grownBy V (some R)/\w.heap.size<=B
section
variable {w V V':World} {R B:Nat} {s:ByteArray} {I E A I' E' A':Int} {c:Rat}
def FO.below(h:FO w V R B s I E A c)(e:Bl V V'):FO w V' R B s I E A c:=by
 obtain⟨f,⟨a,l,ca,n,b,k,d,t,g,i⟩,j,m⟩:=h;exact⟨f.below e,⟨a,l,ca,n,b,k,d,t,g.below e,i.below e⟩,Jg j (J4 e _),m⟩
def FO.rd(h:FO w V R B s I E A c)(o:DV V' R s I' E' A')(hg:V.grownBy V' (some R)):FO w V' R B s I' E' A' c:=by
 obtain⟨g,⟨a,l,ca,p,b,k,d,t,f,j⟩,m,n⟩:=h;have i:B≠R:=MW g f DN;exact⟨o,⟨a,l,ca,p,b,k,d,t,(hg.block B f.lt λe=>i (Cf e)).trans f,j.rd g hg⟩,Jg m hg,n⟩
def Yj{w V:H}{r:Option Nat}{B:Nat}(h:w.grownBy V r)(s:w.heap.size<=B)(o:Nat)(x:M):w.grownBy (V.setCell ⟨B,o,none⟩ x) r:=by
 have n:=JE V B o x;obtain⟨a,b,c,d,f⟩:=h;obtain⟨g,j,k,l,m⟩:=n;exact⟨g.trans a,j.trans b,k.trans c,Al d l,λi p q=>(m i O (by intro e;cases e;omega)).trans (f i p q)⟩
def FO.put(h:FO w V R B s I E A c){a:kR}{l ca:Nat}{j:Bool}{b:kR}{k d:Nat}{t:Bool}{c':Rat}(q:Jq V (.agg #[C a l ca,F j,C b k d,F t]) c'):
 FO w (put4 V B (C a l ca) (F j) (C b k d) (F t)) R B s I E A c':=by
 obtain⟨n,⟨u,z,v,D,b0,y,d0,K,m,x⟩,p,f⟩:=h;have i:R≠B:=λe=>MW n m DN e.symm;refine⟨?_,⟨a,l,ca,j,b,k,d,t,m.put _ _ _ _,Dy.keep (r:=false) q λ_ _ _ g=>Row.put4 g m J J J J _ _ _ _⟩,Yj (Yj (Yj (Yj p f 0 _) f 1 _) f 2 _) f 3 _,f⟩;have o:=(BD V ⟨B,0,none⟩ (C a l ca) R i).trans n;have g1:=(BD _ ⟨B,1,none⟩ (F j) R i).trans o;have g2:=(BD _ ⟨B,2,none⟩ (C b k d) R i).trans g1;exact(BD _ ⟨B,3,none⟩ (F t) R i).trans g2
end
end
variable{g i:Int}{l:List UInt8}{b d n p:Nat}
def Sok.word(h:n<1000000000000):Sok (n:Int):=Sok.of (k:=1) (by unfold Sm Z;omega) O
def FP(c:Rat):Prop:=∃x y:Nat,c=kU (x:Int) (y:Int)/\x<1000000000000/\y≠0/\y<1000000000000
theorem FP.one:FP 1:=⟨1,1,DN,O,O,O⟩
def FQ(l:List UInt8)(I:Nat)(E A:Int)(c:Rat)(a:Nat)(d b:Int):Prop:=
 d=D0 (FN l I) E/\b=EJ (FN l I) E A/\FP c/\a<=l.length/\(E=0->∀c0 k,FN l I=.ok c0 k->c=c0/\a=k)
def dC{I:Nat}{E A:Int}(b:I<=l.length)(h:(decide (E=0)&&Yd l (DO l I) 120)=true):FQ l I E A 1 (DO l I) E A:=by
 rw[AX]at h;have e:FN l I=.ok 1 (DO l I):=by unfold FN;rw[BL h.2]
 refine⟨(FM e E A).1.symm,(FM e E A).2.symm,FP.one,Ys b,λ_ c0 k a=>?_⟩;rw[e]at a;cases a;exact⟨J,J⟩
def Sc{I:Nat}{E:Int}(h:(decide (E=0)&&Yd l (DO l I) 120)=false)(hE:E=0):FN l I=Yv l I:=by
 rw[hE]at h;simp at h;unfold FN;rw[h];simp
def Oe(n:Nat):kU (n:Int) 1=((n:Int):Rat):=by
 rw[<-CV ((n:Int):Rat)];simp
def dD{I:Nat}{E A:Int}(h:(decide (E=0)&&Yd l (DO l I) 120)=false)(hp:DO l I=p)(r:EB l p=p+d)(m:YL l p d n)
(f:(decide (D0 (J2 l I) E=0)&&Yd l (DO l (p+d)) 47)=false):FQ l I E A (kU (n:Int) 1) (DO l (p+d)) (D0 (J2 l I) E) (EJ (J2 l I) E A):=by
 have i:FP (kU (n:Int) 1):=⟨n,1,J,m.lt12,O,O⟩;have c:DO l (p+d)<=l.length:=Ys m.1;by_cases hE:E=0
 . rw[FQ,Sc h hE];subst hE;cases b:J2 l I with
   |error e q=>
    have g:Yv l I=.error e q:=by unfold Yv;rw[b]
    rw[g];exact⟨J,J,i,c,λ_ c0 k j=>by cases j⟩
   |ok a k=>
    obtain⟨ds,s⟩:=a;obtain⟨rfl,rfl,rfl⟩:=m.of_ok hp r b;rw[b,(FM J 0 0).1]at f;simp at f;have g:Yv l I=.ok ((num ds:Int):Rat) (DO l (s+d)):=by unfold Yv;rw[b];simp[f]
    rw[g];refine⟨J,J,i,c,λ_ c0 k j=>?_⟩;cases j;exact⟨Oe _,J⟩
 . refine⟨?_,?_,i,c,λo=>absurd o hE⟩
   . rw[(He _ hE A).1,(He _ hE A).1]
   . rw[(He _ hE A).2,(He _ hE A).2]
def dE{I:Nat}{E A:Int}{o u:Nat}(h:(decide (E=0)&&Yd l (DO l I) 120)=false)(hp:DO l I=p)(R:EB l p=p+d)(w:YL l p d n)
(m:(decide (D0 (J2 l I) E=0)&&Yd l (DO l (p+d)) 47)=true)(T:DO l (DO l (p+d)+1)=b)(S:EB l b=b+o)(i:YL l b o u)(f v:Int)(r:f=D0 (J2 l (DO l (p+d)+1)) (D0 (J2 l I) E))(hA2:v=EJ (J2 l (DO l (p+d)+1)) (D0 (J2 l I) E) (EJ (J2 l I) E A)):
 (u=0->FQ l I E A (kU (n:Int) 1) (b+o) (if f=0 then 4 else f) (if f=0 then(b:Int)else v))/\(u≠0->FQ l I E A (kU (n:Int) (u:Int)) (b+o) f v):=by
 rw[AX,BZ]at m;obtain⟨hE,a,k,t⟩:=Od (KL l I) m.1;obtain⟨ds,U⟩:=a;obtain⟨rfl,rfl,rfl⟩:=w.of_ok hp R t;subst hE;have z:FP (kU (num ds:Int) 1):=⟨num ds,1,J,w.lt12,O,O⟩;rw[m.1]at r hA2;rw[t,(FM J 0 A).2]at hA2;unfold FQ;rw[Sc h J];cases c:J2 l (DO l (U+d)+1)with
 |error e q=>
  have s:Yv l I=.error e q:=by unfold Yv;rw[t];simp[m.2,c]
  have V:=KL _ _ _ _ c;rw[c]at r hA2;have K:f=(e:Int):=r;have D:v=(q:Int):=hA2;have x:¬f=0:=O
  rw[s,BH x,BH x,K,D];refine⟨λ_=>⟨J,J,z,i.1,λ_ c0 k g=>by cases g⟩,λj=>⟨J,J,⟨num ds,u,J,w.lt12,j,i.lt12⟩,i.1,λ_ c0 k g=>by cases g⟩⟩
 |ok a k=>
  obtain⟨y,B⟩:=a;obtain⟨rfl,rfl,rfl⟩:=i.of_ok T S c;rw[c,(FM J 0 A).1]at r;rw[c,(FM J 0 A).2]at hA2;subst r hA2;rw[BL J,BL J];refine⟨λj=>?_,λj=>?_⟩
  . have s:Yv l I=.error 4 B:=by unfold Yv;rw[t];simp[m.2,c,j]
    rw[s];exact⟨J,J,z,i.1,λ_ c0 k g=>by cases g⟩
  . have s:Yv l I=.ok (kU (num ds) (num y)) (B+o):=by unfold Yv;rw[t];simp[m.2,c,j]
    rw[s];refine⟨J,J,⟨num ds,num y,J,w.lt12,j,i.lt12⟩,i.1,λ_ c0 k g=>?_⟩;cases g;exact⟨J,J⟩
def XO(l:List UInt8)(I:Nat)(E A:Int)(c:Rat)(n I':Nat)(E' A':Int):Prop:=
 E'=D0 (Yg l I) E/\A'=EJ (Yg l I) E A/\(E=0->∀c0 a k,Yg l I=.ok (c0,a) k->c=c0/\n=a/\I'=k)
theorem FQ.zero{I:Nat}{E A:Int}{c:Rat}(h:FQ l I E A c b g i)(e:g=0):E=0/\i=A/\FN l I=.ok c b:=by
 have d:=h.1;rw[e]at d;obtain⟨hE,c0,k,a⟩:=Od (SZ l I) d.symm;obtain⟨rfl,rfl⟩:=h.2.2.2.2 hE c0 k a;exact⟨hE,h.2.1.trans (FM a E A).2,a⟩
def FQ.set{I:Nat}{E A:Int}{c:Rat}(h:FQ l I E A c b g i)(o:g≠0)(n I':Nat):XO l I E A c n I' g i:=by
 by_cases hE:E=0
 . subst hE;cases f:FN l I with
   |ok c0 k=>
    have:=h.1;rw[f,(FM J 0 A).1]at this;exact absurd this o
   |error e p=>
    have j:Yg l I=.error e p:=by rw[IA,f]
    have a:=h.1;have d:=h.2.1;rw[f]at a d;exact⟨by rw[j];exact a,by rw[j];exact d,λ_ c0 q k m=>by rw[j]at m;cases m⟩
 . have a:=h.1;have d:=h.2.1;rw[(He _ hE A).1]at a;rw[(He _ hE A).2]at d;exact⟨by rw[(He _ hE A).1];exact a,by rw[(He _ hE A).2];exact d,λh=>absurd h hE⟩
theorem XO.of{I:Nat}{A:Int}{c:Rat}{I':Nat}(h:Yg l I=.ok (c,n) I'):XO l I 0 A c n I' 0 A:=by
 refine⟨by rw[(FM h 0 A).1],by rw[(FM h 0 A).2],λ_ c0 b k a=>?_⟩;rw[h]at a;cases a;exact⟨J,J,J⟩
def XO.bad{I:Nat}{A:Int}{e:Nat}(c:Rat)(n I':Nat)(h:Yg l I=.error e p):XO l I 0 A c n I' e p:=by
 exact⟨by rw[h];rfl,by rw[h];rfl,λ_ c0 b k a=>by rw[h]at a;cases a⟩
def dF{I:Nat}{E A:Int}{c:Rat}(h:FQ l I E A c b g i)(d:(decide (g=0)&&Yd l (DO l b) 120)=false):XO l I E A c 0 (DO l b) g i:=by
 by_cases a:g=0
 . obtain⟨rfl,rfl,e⟩:=h.zero a;subst a;simp at d;refine XO.of ?_;rw[IA,e];simp[d]
 . exact h.set a _ _
def dG{I:Nat}{E A:Int}{c:Rat}(h:FQ l I E A c b g i)(a:(decide (g=0)&&Yd l (DO l b) 120)=true)(e:(decide (g=0)&&Yd l (DO l (DO l b+1)) 94)=false):XO l I E A c 1 (DO l (DO l b+1)) g i:=by
 rw[AX,BZ]at a;obtain⟨d,a⟩:=a;obtain⟨rfl,rfl,f⟩:=h.zero d;subst d;simp at e;refine XO.of ?_;rw[IA,f];simp[a,EO,e]
def dH{I:Nat}{E A:Int}{c:Rat}(h:FQ l I E A c b g i)(m:(decide (g=0)&&Yd l (DO l b) 120)=true)(o:(decide (g=0)&&Yd l (DO l (DO l b+1)) 94)=true)(hp:DO l (DO l (DO l b+1)+1)=p)(B:EB l p=p+d)(D:YL l p d n)(j r:Int)
(s:j=D0 (J2 l (DO l (DO l b+1)+1)) g)(hA5:r=EJ (J2 l (DO l (DO l b+1)+1)) g i):(8<n->XO l I E A c 0 (p+d) (if j=0 then 3 else j) (if j=0 then(p:Int)else r))/\(¬8<n->XO l I E A c n (p+d) j r):=by
 rw[AX,BZ]at m o;obtain⟨w,m⟩:=m;obtain⟨_,o⟩:=o;obtain⟨rfl,rfl,u⟩:=h.zero w;subst w;cases f:J2 l (DO l (DO l b+1)+1)with
 |error e q=>
  rw[f]at s hA5;have R:=KL _ _ _ _ f;have z:j=(e:Int):=s;have y:r=(q:Int):=hA5;have v:¬j=0:=O
  have x:Yg l I=.error e q:=by rw[IA,u];simp[m,EO,o,f]
  rw[BH v,BH v,z,y];exact⟨λ_=>XO.bad _ _ _ x,λ_=>XO.bad _ _ _ x⟩
 |ok a k=>
  obtain⟨K,S⟩:=a;obtain⟨rfl,rfl,rfl⟩:=D.of_ok hp B f;rw[f,(FM J 0 0).1]at s;rw[f,(FM J 0 _).2]at hA5;subst s hA5;rw[BL J,BL J];refine⟨λt=>XO.bad _ _ _ ?_,λt=>XO.of ?_⟩
  . rw[IA,u];simp[m,EO,o,f,t]
  . rw[IA,u];simp[m,EO,o,f,t]
def FO.new{w e:H}{R:Nat}{s:ByteArray}{I E A:Int}{c:Rat}(h:DV w R s I E A)(i:Bl w e){a:kR}{l ca:Nat}{f:Bool}{b:kR}{k d:Nat}{t:Bool}(j:Jq e (.agg #[C a l ca,F f,C b k d,F t]) c):
 FO w (e.alloc (G #[C a l ca,F f,C b k d,F t] 85)) R e.heap.size s I E A c:=by
 have g:Bl e (e.alloc (G #[C a l ca,F f,C b k d,F t] 85)):=Ba e _;exact⟨(h.below i).below g,⟨a,l,ca,f,b,k,d,t,JN.new _ _ _ _ _ _,j.below g⟩,Jg (J4 i _) (J4 g _),i.size⟩
def dI(R:Nat)(s:ByteArray)(I:Nat)(E A:Int)(w:H)(h:DV w R s I E A)(hI:I<=s.size)(hs:s.size<=300):
 Q L 62 #[.pointer (some ⟨R,0,none⟩)] w λr w'=>∃(u:M) (c:Rat) (n I':Nat),r=.returned u/\RowK false w' u (Jb (Dg n [c]))/\n<=8/\FP c/\I'<=s.size/\DV w' R s (I':Int) (D0 (Yg (Jf s) I) E) (EJ (Yg (Jf s) I) E A)/\(E=0->∀c0 n0 k,Yg (Jf s) I=.ok (c0,n0) k->c=c0/\n=n0/\I'=k)/\w.grownBy w' (some R):=by
 have Uk:I<=(Jf s).length:=by rw[Ji];exact hI
 obtain⟨b1,ce⟩:=ex ((decide (E=0)&&Yd (Jf s) (DO (Jf s) I) 120));have Ud:=Y ce;obtain⟨j,bc⟩:=ex (DO (Jf s) I);have Qu:=Y bc;have Uh:j<=s.size:=by rw[<-bc,<-Ji];exact Ys Uk
 have HW:=Y (Ip 1 O O w);have Uq:=Y λ(V:H) (f:DV V R s I E A)=>F0 R s I E A 120 V f hI hs;rw[ce,bc]at Uq;have HH:=Y h;have Wg:=Y Uk;clear h ce bc Uk hI;go_enter func62,ntmps62
 go_upto_region 2 with(first
  |(go_at_call 42;refine HW.o.mono ?_;clear HW;rintro e w1 ⟨u1,rfl,di,f6⟩;obtain⟨fi,ft,fk,fu,fj,fs,fm,fw,rfl⟩:=Jq.form di))
 have hT:=FO.new HH.o f6 di;obtain⟨W0,bu⟩:=ex (w1.alloc (G #[C fi ft fk,F fu,C fj fs fm,F fw] 85));rw[bu]at hT;rw[bu];obtain⟨B,hB⟩:=ex (w1.heap.size);rw[hB]at hT;rw[hB];have HT:=Y (show FO w W0 R B s I E A 1 from hT);clear hT di f6 bu hB;go_upto_if 15 with(first
  |(go_at_call 65;refine(Uq.o _ HT.o.1).mono ?_;clear Uq;rintro e w2 ⟨rfl,f7,et⟩;have Qy:=Y (HT.o.rd f7 et);clear f7 et HT))
 go_cut [4] λv w'=>v=F b1/\∃(c:Rat) (T:Nat) (d g:Int),Hid (FO w w' R B s (T:Int) d g c/\FQ (Jf s) I E A c T d g)
 case first=>
  cases b1 with
  |true=>
   go_wp2_with fail
   go_meet
   case rel=>exact⟨J,1,j,E,A,Y ⟨Qy.o,by rw[<-Qu.o];exact dC Wg.o Ud.o⟩⟩
  |false=>
   obtain⟨d,bm⟩:=ex (D0 (J2 (Jf s) I) E);obtain⟨g,hA1⟩:=ex (EJ (J2 (Jf s) I) E A);have HN:=Y λ(V:H) (f:DV V R s j E A)=>Oc R s j E A j V f Uh hs (by rw[<-Qu.o];exact KM _ _);have Uw:J2 (Jf s) j=J2 (Jf s) I:=by rw[<-Qu.o];exact dA _ _
   rw[Uw,bm,hA1]at HN;have Ua:=Y bm;have Ut:=Y hA1;clear bm hA1 Uw;go_upto_if 22 with(first
    |(go_at_call 102;refine(HN.o _ Qy.o.1).mono ?_;clear HN;rintro e w3 ⟨d1,n1,rfl,dz,bi,ap,aj⟩;have X:=Y (Qy.o.rd ap aj);clear ap aj Qy;have Ux:=Y dz;have Uv:=Y bi;have Uf:=bi.lt12;have ew:j+d1<=s.size:=(by rw[<-Ji];exact bi.1);clear dz bi;obtain⟨b2,cj⟩:∃b,b=(decide (d=0)&&Yd (Jf s) (DO (Jf s) (j+d1)) 47):=⟨_,J⟩;have Ul:=Y cj;have Uo:=Y λ(V:H) (f:DV V R s ((j+d1:Nat):Int) d g)=>Y7 R s (j+d1) d g 47 V f ew hs b2 cj;clear cj;obtain⟨I2,bf⟩:=ex (DO (Jf s) (j+d1));rw[bf]at Uo;have Qp:=Y bf;have fy:I2<=s.size:=(by rw[<-bf,<-Ji];exact Ys (by rw[Ji];exact ew));clear bf)
    |(go_at_call 61;refine(Uo.o _ X.o.1).mono ?_;clear Uo;rintro e w4 ⟨rfl,aq,ak⟩;have S:=Y (X.o.rd aq ak);clear aq ak X))
   have Qn:=Y λ(V:H)=>Gq (n1:Int) O O V;have Ui:=Y (Sok.word Uf);cases b2 with
   |false=>
    obtain⟨W,Qz,HY⟩:=Dc (λ(V:H)=>Gq 1 O O V) Sok.one (show(1:Int)≠0 by omega);go_wp2_with(first
     |(go_at_call 79;refine(Qn.o _).mono ?_;clear Qn;rintro e w6 ⟨ff,rfl,ah,ad⟩;have Qw:=Y (S.o.below ad);clear ad;have Qo:=Y ah;clear ah)
     |(go_at_call 79;refine(W.o _).mono ?_;clear W;rintro e w7 ⟨fg,rfl,ai,p⟩;have Qv:=Y (Qw.o.below p);have Qb:=Y (Qo.o.below p);clear p;have Qs:=Y ai;clear ai)
     |(go_at_call 80;refine(KJ _ _ _ _ _ Qb.o Qs.o HY.o Ui.o Qz.o).mono ?_;rintro e w8 ⟨fh,rfl,t,ae⟩;have U:=Qv.o.below ae;clear ae;obtain⟨dj,f9,du,fd,dt,f8,dx,fe,rfl⟩:=Jq.form t;have Qt:=Y (U.put t);obtain⟨_,⟨x0,x1,x2,x3,x4,x5,x6,x7,a,_⟩,_,_⟩:=U;obtain⟨e0,e1,e2,e3⟩:=a.cq;obtain⟨g0,g1,g2,g3⟩:=a.fq;clear a t))
    go_meet
    case rel=>exact⟨J,_,_,_,_,Y ⟨Qt.o,by have:=dD (A:=A) Ud.o Qu.o Ux.o Uv.o (by rw[Ua.o];exact Ul.o.symm);rw[Qp.o,Ua.o,Ut.o]at this;exact this⟩⟩
   |true=>
    have Um:I2+1<=s.size:=by
     have h5:=Ul.o.symm;rw[AX]at h5;have h6:=Ye h5.2;rw[Qp.o,Ji]at h6;omega
    obtain⟨p2,de⟩:=ex (DO (Jf s) (I2+1));have Qr:=Y λ(V:H) (f:DV V R s ((I2+1:Nat):Int) d g)=>Oc R s (I2+1) d g p2 V f Um hs de;have Wd:=Y de;clear de;obtain⟨E2,bn⟩:=ex (D0 (J2 (Jf s) (I2+1)) d);obtain⟨A2,hA2⟩:=ex (EJ (J2 (Jf s) (I2+1)) d g);rw[bn,hA2]at Qr;have Wa:=Y bn;have We:=Y hA2;clear bn hA2;go_upto_if 29 with(first
     |(go_at_call 102;refine(Qr.o _ S.o.1).mono ?_;clear Qr;rintro e w5 ⟨d2,n2,rfl,ed,co,ay,am⟩;have K:=Y (S.o.rd ay am);clear ay am S;have Uy:=Y ed;have Qr:=Y co;have Ue:=co.lt12;clear ed co))
    have Qq:=Y (dE (A:=A) Ud.o Qu.o Ux.o Uv.o (by rw[Ua.o];exact Ul.o.symm) (by rw[Qp.o];exact Wd.o) Uy.o Qr.o E2 A2 (by rw[Qp.o,Ua.o];exact Wa.o.symm) (by rw[Qp.o,Ua.o,Ut.o];exact We.o.symm));by_cases bj:n2=0
    . have Wh:((n2:Int)==0)=true:=by rw[bj];rfl
      have Up:=Y bj;clear bj;obtain⟨HF,W,Qz,HY⟩:=Do (λ(V:H) (f:DV V R s ((p2+d2:Nat):Int) E2 A2)=>K8 R s ((p2+d2:Nat):Int) E2 A2 4 (p2:Int) V f) (λ(V:H)=>Gq 1 O O V) Sok.one (show(1:Int)≠0 by omega);go_wp2_with(first
       |(go_at_call 66;refine(HF.o _ K.o.1).mono ?_;clear HF;rintro e fx ⟨rfl,az,an⟩;have Qi:=Y (K.o.rd az an);clear az an K)
       |(go_at_call 79;refine(Qn.o _).mono ?_;clear Qn;rintro e w6 ⟨ff,rfl,ah,ad⟩;have Qw:=Y (Qi.o.below ad);clear ad;have Qo:=Y ah;clear ah)
       |(go_at_call 79;refine(W.o _).mono ?_;clear W;rintro e w7 ⟨fg,rfl,ai,p⟩;have Qv:=Y (Qw.o.below p);have Qb:=Y (Qo.o.below p);clear p;have Qs:=Y ai;clear ai)
       |(go_at_call 80;refine(KJ _ _ _ _ _ Qb.o Qs.o HY.o Ui.o Qz.o).mono ?_;rintro e w8 ⟨fh,rfl,t,ae⟩;have U:=Qv.o.below ae;clear ae;obtain⟨dj,f9,du,fd,dt,f8,dx,fe,rfl⟩:=Jq.form t;have Qt:=Y (U.put t);obtain⟨_,⟨x0,x1,x2,x3,x4,x5,x6,x7,a,_⟩,_,_⟩:=U;obtain⟨e0,e1,e2,e3⟩:=a.cq;obtain⟨g0,g1,g2,g3⟩:=a.fq;clear a t))
      go_meet
      case rel=>exact⟨J,_,_,_,_,Y ⟨Qt.o,Qq.o.1 Up.o⟩⟩
    . have Wh:((n2:Int)==0)=false:=by rw[BG];omega
      obtain⟨W,Qz,HY⟩:=Dc (λ(V:H)=>Gq (n2:Int) O O V) (Sok.word Ue) (show(n2:Int)≠0 by omega);go_wp2_with(first
       |(go_at_call 79;refine(Qn.o _).mono ?_;clear Qn;rintro e w6 ⟨ff,rfl,ah,ad⟩;have Qw:=Y (K.o.below ad);clear ad;have Qo:=Y ah;clear ah)
       |(go_at_call 79;refine(W.o _).mono ?_;clear W;rintro e w7 ⟨fg,rfl,ai,p⟩;have Qv:=Y (Qw.o.below p);have Qb:=Y (Qo.o.below p);clear p;have Qs:=Y ai;clear ai)
       |(go_at_call 80;refine(KJ _ _ _ _ _ Qb.o Qs.o HY.o Ui.o Qz.o).mono ?_;rintro e w8 ⟨fh,rfl,t,ae⟩;have U:=Qv.o.below ae;clear ae;obtain⟨dj,f9,du,fd,dt,f8,dx,fe,rfl⟩:=Jq.form t;have Qt:=Y (U.put t);obtain⟨_,⟨x0,x1,x2,x3,x4,x5,x6,x7,a,_⟩,_,_⟩:=U;obtain⟨e0,e1,e2,e3⟩:=a.cq;obtain⟨g0,g1,g2,g3⟩:=a.fq;clear a t))
      go_meet
      case rel=>exact⟨J,_,_,_,_,Y ⟨Qt.o,Qq.o.2 bj⟩⟩
 case rest=>
  obtain⟨rfl,c,T,d,g,z⟩:=hcut;have Us:T<=s.size:=by have:=z.o.2.2.2.2.1;rwa[Ji]at this
  obtain⟨b3,ck⟩:∃b,b=(decide (d=0)&&Yd (Jf s) (DO (Jf s) T) 120):=⟨_,J⟩;have Uc:=Y ck.symm;obtain⟨I3,bg⟩:=ex (DO (Jf s) T);have HX:=Y λ(V:H) (f:DV V R s (T:Int) d g)=>Y7 R s T d g 120 V f Us hs b3 ck;rw[bg]at HX;have Ug:I3<=s.size:=by rw[<-bg,<-Ji];exact Ys (by rw[Ji];exact Us)
  have D:=Y bg;clear bg ck Qy Ud;go_upto_if 40 with(first
   |(go_at_call 61;refine(HX.o _ z.o.1.1).mono ?_;clear HX;rintro e w3 ⟨rfl,ap,aj⟩;have X:=Y (z.o.1.rd ap aj);clear ap aj))
  cases b3 with
  |false=>
   obtain⟨_,⟨y0,y1,y2,y3,y4,y5,y6,y7,a,y⟩,_,_⟩:=X.o;obtain⟨e0,e1,e2,e3⟩:=a.cq;have l:=Y (K7 _ 0 c _ y O);clear a y;go_wp2_with(first
    |(go_at_call 78;refine l.o.mono ?_;clear l;rintro e w9 ⟨u9,rfl,x,q⟩;have m:=Y (X.o.below q);clear q;have o:=Y x;clear x;obtain⟨a7,l7,c7,rfl⟩:=o.o.form))
   go_ret;have i:=dF z.o.2 Uc.o;refine⟨_,c,0,_,J,o.o,O,z.o.2.2.2.1,by rw[D.o];exact Ug,?_,i.2.2,m.o.2.2.1⟩;rw[<-i.1,<-i.2.1];rw[D.o];exact m.o.1
  |true=>
   have Ub:I3+1<=s.size:=by
    have h5:=Uc.o;rw[AX]at h5;have h6:=Ye h5.2;rw[D.o,Ji]at h6;omega
   obtain⟨b4,cn⟩:∃b,b=(decide (d=0)&&Yd (Jf s) (DO (Jf s) (I3+1)) 94):=⟨_,J⟩;have Un:=Y cn.symm;obtain⟨I4,bh⟩:=ex (DO (Jf s) (I3+1));have HX:=Y λ(V:H) (f:DV V R s ((I3+1:Nat):Int) d g)=>Y7 R s (I3+1) d g 94 V f Ub hs b4 cn;rw[bh]at HX;have Uj:I4<=s.size:=by rw[<-bh,<-Ji];exact Ys (by rw[Ji];exact Ub)
   have Qm:=Y bh;clear bh cn;go_upto_if 45 with(first
    |(go_at_call 61;refine(HX.o _ X.o.1).mono ?_;clear HX;rintro e w4 ⟨rfl,aq,ak⟩;have S:=Y (X.o.rd aq ak);clear aq ak))
   cases b4 with
   |false=>
    obtain⟨_,⟨y0,y1,y2,y3,y4,y5,y6,y7,a,y⟩,_,_⟩:=S.o;obtain⟨e0,e1,e2,e3⟩:=a.cq;have l:=Y (K7 _ 1 c _ y O);clear a y;go_wp2_with(first
     |(go_at_call 78;refine l.o.mono ?_;clear l;rintro e w9 ⟨u9,rfl,x,q⟩;have m:=Y (S.o.below q);clear q;have o:=Y x;clear x;obtain⟨a7,l7,c7,rfl⟩:=o.o.form))
    go_ret;have i:=dG z.o.2 Uc.o (by rw[D.o];exact Un.o);refine⟨_,c,1,_,J,o.o,O,z.o.2.2.2.1,by rw[D.o,Qm.o];exact Uj,?_,i.2.2,m.o.2.2.1⟩;rw[<-i.1,<-i.2.1];rw[D.o,Qm.o];exact m.o.1
   |true=>
    have Ur:I4+1<=s.size:=by
     have h5:=Un.o;rw[AX]at h5;have h6:=Ye h5.2;rw[Qm.o,Ji]at h6;omega
    obtain⟨p5,dh⟩:=ex (DO (Jf s) (I4+1));have Qx:=Y λ(V:H) (f:DV V R s ((I4+1:Nat):Int) d g)=>Oc R s (I4+1) d g p5 V f Ur hs dh;have Wi:=Y dh;clear dh;obtain⟨E5,bt⟩:=ex (D0 (J2 (Jf s) (I4+1)) d);obtain⟨A5,hA5⟩:=ex (EJ (J2 (Jf s) (I4+1)) d g);rw[bt,hA5]at Qx;have Wb:=Y bt;have Wc:=Y hA5;clear bt hA5;go_upto_if 54 with(first
     |(go_at_call 102;refine(Qx.o _ S.o.1).mono ?_;clear Qx;rintro e w5 ⟨d5,n5,rfl,ei,bk,ay,am⟩;have K:=Y (S.o.rd ay am);clear ay am S;have Uz:=Y ei;have Qx:=Y bk;have ga:=bk.lt12;have Uu:p5+d5<=s.size:=(by rw[<-Ji];exact bk.1);clear ei bk))
    have Qq:=Y (dH z.o.2 Uc.o (by rw[D.o];exact Un.o) (by rw[D.o,Qm.o];exact Wi.o) Uz.o Qx.o E5 A5 (by rw[D.o,Qm.o];exact Wb.o.symm) (by rw[D.o,Qm.o];exact Wc.o.symm));by_cases h8:8<n5
    . have fo:(8:Int)<(n5:Int):=O
      have HF:=Y λ(V:H) (f:DV V R s ((p5+d5:Nat):Int) E5 A5)=>K8 R s ((p5+d5:Nat):Int) E5 A5 3 (p5:Int) V f;go_upto_region 21 with(first
       |(go_at_call 66;refine(HF.o _ K.o.1).mono ?_;clear HF;rintro e fx ⟨rfl,az,an⟩;have Qi:=Y (K.o.rd az an);clear az an K))
      obtain⟨_,⟨y0,y1,y2,y3,y4,y5,y6,y7,a,y⟩,_,_⟩:=Qi.o;obtain⟨e0,e1,e2,e3⟩:=a.cq;have l:=Y (K7 _ 0 c _ y O);clear a y;go_wp2_with(first
       |(go_at_call 78;refine l.o.mono ?_;clear l;rintro e w9 ⟨u9,rfl,x,q⟩;have m:=Y (Qi.o.below q);clear q;have o:=Y x;clear x;obtain⟨a7,l7,c7,rfl⟩:=o.o.form))
      go_ret;have i:=Qq.o.1 h8;refine⟨_,c,0,p5+d5,J,o.o,O,z.o.2.2.2.1,Uu,?_,i.2.2,m.o.2.2.1⟩;rw[<-i.1,<-i.2.1];exact m.o.1
    . have fo:¬(8:Int)<(n5:Int):=O
      obtain⟨_,⟨y0,y1,y2,y3,y4,y5,y6,y7,a,y⟩,_,_⟩:=K.o;obtain⟨e0,e1,e2,e3⟩:=a.cq;have l:=Y (K7 _ n5 c _ y O);clear a y;go_wp2_with(first
       |(go_at_call 78;refine l.o.mono ?_;clear l;rintro e w9 ⟨u9,rfl,x,q⟩;have m:=Y (K.o.below q);clear q;have o:=Y x;clear x;obtain⟨a7,l7,c7,rfl⟩:=o.o.form))
      go_ret;have i:=Qq.o.2 h8;refine⟨_,c,n5,p5+d5,J,o.o,O,z.o.2.2.2.1,Uu,?_,i.2.2,m.o.2.2.1⟩;rw[<-i.1,<-i.2.1];exact m.o.1

