import Derived.Test.YtakpoihdghihmaaGreatDoorU28
import Derived.Test.YtakpoihdghihmaaGreatDoorU25
set_option linter.all false
open Go.Value renaming slice->C,bool->F,int->N,agg->S
open Go.Obj renaming cells->G
open Go renaming World->H,Value->M,Calls->Q
open Go.Proofs.Tryz renaming prog->L
open Go.IntKind renaming i64->P
set_option maxRecDepth 99999
set_option maxHeartbeats 0
namespace Go.Proofs.YtakpoihdghihmaaGreatDoor
open Rat renaming divInt->nM
open Proofs.Tryz
open Go.RowKit Go.Shelf
attribute [local go_sem] Oper.semAt_some
section
def TT(W:H):M->Nat
 |C (some p) l _=>val 10000 ((List.range l).map λj=>IY W ⟨p.block,p.off+j,none⟩)
 |_=>0
variable{l n:Nat}{a:nJ}
def RN.rowVal{W:H}{c:Nat}(h:RN W (C a l c) n):TT W (C a l c)=n:=by
 obtain⟨f,_,_,_,g⟩:=Ju h;rcases AZ l with d|d
 . subst d;have o:n=0:=(JP O).1 (Al f.symm);subst o;cases a<;>rfl
 . obtain⟨b,i,rfl,_,_⟩:=g 0 d;show val 10000 ((List.range l).map λj=>IY W ⟨b,i+j,none⟩)=n;have e:(List.range l).map (λj=>IY W ⟨b,i+j,none⟩)=Jd 10000 n:=by
    refine List.ext_getElem (by rw[Cq,List.length_range];exact f) λj q k=>?_;obtain⟨p,r,e,_,m⟩:=g j O;cases e;rw[List.getElem_map,List.getElem_range,IY,m,Am k];rfl
   rw[e,Jq O]
def TU{m:Nat}(h:n<=m):(Jd 10000 n).length<=(Jd 10000 m).length:=by
 rcases AQ (Jd 10000 m).length (Jd 10000 n).length with a|a
 . have:=Y4 O a;omega
 . exact a
def fK(l vb:M)(x y:Int)(w:H)(ha:Jw w l x)(hb:Jw w vb y)(ad:D3 x<=100000000000)(ae:D3 y<=100000000000):
 Q L 141 #[l,vb] w λe w'=>∃u,e=.returned u/\Jw w' u (Int.gcd x y:Nat)/\Bl w w':=by
 obtain⟨a,la,ca,rfl,q⟩:=ha;obtain⟨b,lb,cb,rfl,r⟩:=hb;obtain⟨s,hs⟩:=ex (decide (x<0));obtain⟨t,ht⟩:=ex (decide (y<0));rw[hs,ht];clear hs ht;obtain⟨W0,g⟩:=ex (((w.alloc (G #[C a la ca,F s] 45)).alloc (G #[C b lb cb,F t] 45)).alloc (G #[C none 0 0,F false] 45));have m:Bl w W0:=by rw[<-g];exact Hu w _ _ _
 have b0:Jp W0 w.heap.size 45 (C a la ca) (F s):=by rw[<-g];exact((Jp.new w _ _ _).alloc _).alloc _
 have b1:Jp W0 (w.heap.size+1) 45 (C b lb cb) (F t):=by
  have h:=(Jp.new (w.alloc (G #[C a la ca,F s] 45)) 45 (C b lb cb) (F t)).alloc (G #[C none 0 0,F false] 45);rw[Ax,g]at h;exact h
 have bR:Jp W0 (w.heap.size+1+1) 45 (C none 0 0) (F false):=by
  have h:=Jp.new ((w.alloc (G #[C a la ca,F s] 45)).alloc (G #[C b lb cb,F t] 45)) 45 (C none 0 0) (F false);rw[Ax,Ax,g]at h;exact h
 have r0:=RN.below q m;have r1:=RN.below r m;have k0:=b0.c0;have k2:=b1.c0;have E:la<=100000000000:=by rw[RN.len q];exact ad
 have K:lb<=100000000000:=by rw[RN.len r];exact ae
 have D:=Y g;clear g q r ad ae;go_enter func141,ntmps141
 go_upto_region 1 with fail
 rw[D.o];clear D;go_wp2_with fail
 go_loopw [5,6] (λxv z wr=>∃(f:nJ) (d c0 X:Nat) (k:nJ) (l1 c1 c:Nat),xv=C f d c0/\z=C k l1 c1/\Hid (RN wr (C f d c0) X)/\Hid (RN wr (C k l1 c1) c)/\Hid (Nat.gcd X c=Int.gcd x y)/\(d<=100000000000/\l1<=100000000000)/\Bl W0 wr)
  (λ_ z wr=>TT wr z)
 case atStart=>exact⟨a,la,ca,x.natAbs,b,lb,cb,y.natAbs,J,J,Y r0,Y r1,Y J,⟨E,K⟩,BA _ W0⟩
 case round=>
  clear r0 r1 E K;obtain⟨f,d,c0,X,k,l1,c1,c,rfl,rfl,U,i,T,⟨ah,W⟩,n⟩:=hrel;rcases AZ l1 with R|R
  . subst R;have I:c=0:=(JP O).1 (Al (RN.len i.o).symm);have HE:=Y (show X=Int.gcd x y by rw[<-T.o,I,Nat.gcd_zero_right]);have j:=bR.below n;obtain⟨q0,q1⟩:=j.cp;obtain⟨f0,f1⟩:=j.fp;clear I;go_wp2_with fail
    have A:=(Kk U.o).box j J J (x0:=C f d c0) (x1:=F false);rw[HE.o]at A;have Qj:=Bt m n;have z0:=((j.set0 (C f d c0)).set1 (F false)).c0;have z1:=((j.set0 (C f d c0)).set1 (F false)).c1;exact A0 (by simp[results,results141,go_sem,z0,z1]) J ⟨_,J,A,(Qj.setCell (p:=⟨_,0,none⟩) Db _).setCell (p:=⟨_,1,none⟩) Db _⟩
  . have Qi:c≠0:=λe=>by
     have h:=RN.len i.o;rw[e,JG]at h;simp at h;omega
    have Qk:=Y (TS f d c0 k l1 c1 X c wr U.o i.o Qi ah W);have B:=A9 X (show c>0 by omega);go_wp2_with(go_at_call 184;refine Qk.o.mono ?_;rintro e w2 ⟨u,v,rfl,hu,o,V⟩;obtain⟨ua,uc,rfl⟩:=RN.form hu;obtain⟨l,vc,rfl⟩:=RN.form o)
    have Ql:=RN.below i.o V;refine⟨⟨k,l1,c1,c,l,_,vc,X%c,J,J,Y Ql,Y o,Y (by rw[<-T.o,CI c,<-Nat.gcd_rec,CI]),⟨W,?_⟩,Bt n V⟩,?_⟩
    . have h1:=TU (Nat.le_of_lt B);rw[<-RN.len i.o]at h1;omega
    . rw[RN.rowVal o,RN.rowVal i.o];exact B
def fL(w:H)(a b c d:M)(p0 p1:M):
 Jp ((((w.alloc (G #[a,b] 45)).alloc (G #[c,d] 45)).alloc (G #[p0,p1] 45)).alloc (G #[p0,p1] 45)) w.heap.size 45 a b/\
 Jp ((((w.alloc (G #[a,b] 45)).alloc (G #[c,d] 45)).alloc (G #[p0,p1] 45)).alloc (G #[p0,p1] 45)) (w.heap.size+1) 45 c d/\
 Jp ((((w.alloc (G #[a,b] 45)).alloc (G #[c,d] 45)).alloc (G #[p0,p1] 45)).alloc (G #[p0,p1] 45)) (w.heap.size+1+1) 45 p0 p1/\
 Jp ((((w.alloc (G #[a,b] 45)).alloc (G #[c,d] 45)).alloc (G #[p0,p1] 45)).alloc (G #[p0,p1] 45)) (w.heap.size+1+1+1) 45 p0 p1:=by
 refine⟨(((Jp.new w _ _ _).alloc _).alloc _).alloc _,?_,?_,?_⟩
 . have h:=((Jp.new (w.alloc (G #[a,b] 45)) 45 c d).alloc (G #[p0,p1] 45)).alloc (G #[p0,p1] 45);rw[Ax]at h;exact h
 . have h:=(Jp.new ((w.alloc (G #[a,b] 45)).alloc (G #[c,d] 45)) 45 p0 p1).alloc (G #[p0,p1] 45);rw[Ax,Ax]at h;exact h
 . have h:=Jp.new (((w.alloc (G #[a,b] 45)).alloc (G #[c,d] 45)).alloc (G #[p0,p1] 45)) 45 p0 p1;rw[Ax,Ax,Ax]at h;exact h
def fM{W:H}{c:Nat}(h:RN W (C a l c) n)(m:Bool):Jw W (S #[C a l c,F (m&&decide (0<l))]) (if m=true then -(n:Int)else(n:Int)):=by
 have hl:=RN.len h;have f:0<l↔n≠0:=by
  rw[hl];constructor
  . intro b g;rw[g,JG]at b;simp at b
  . intro b;exact Ac.2 λe=>b ((JP O).1 e)
 cases m with
 |false=>
  refine⟨a,l,c,?_,by simp;exact h⟩
  have:decide ((n:Int)<0)=false:=BE O
  simp[this]
 |true=>
  refine⟨a,l,c,?_,by simp;exact h⟩;simp only[Bool.true_and,if_true]
  have:decide (0<l)=decide (-(n:Int)<0):=by
   by_cases d:n=0
   . rw[BE λb=>f.1 b d,BE O]
   . rw[BH (f.2 d),BH O]
  rw[this]
def fN(a:nJ)(la ca:Nat)(b:nJ)(lb cb X c:Nat)(s t:Bool)(z r:Int)(w:H)(hu:RN w (C a la ca) X)(hv:RN w (C b lb cb) c)(hY:c≠0)(bg:la<=100000000000)(bh:lb<=100000000000)
(HP:Hid (¬(s=true/\X%c≠0)->(if(!(s==t))=true then -((X/c:Nat):Int)else((X/c:Nat):Int))=z/\((X%c:Nat):Int)=r))
(HN:Hid (s=true/\X%c≠0->(if(!(s==t))=true then -((X/c+1:Nat):Int)else((X/c+1:Nat):Int))=z/\((c-X%c:Nat):Int)=r)):
 Q L 143 #[S #[C a la ca,F s],S #[C b lb cb,F t]] w λe l=>∃q o,e=.returned (.tuple #[q,o])/\Jw l q z/\Jw l o r/\Bl w l:=by
 obtain⟨b0,b1,b4,b5⟩:=fL w (C a la ca) (F s) (C b lb cb) (F t) (C none 0 0) (F false);have Qo:=Sw w (G #[C a la ca,F s] 45) (G #[C b lb cb,F t] 45) (G #[C none 0 0,F false] 45) (G #[C none 0 0,F false] 45);obtain⟨W0,ak⟩:=ex ((((w.alloc (G #[C a la ca,F s] 45)).alloc (G #[C b lb cb,F t] 45)).alloc (G #[C none 0 0,F false] 45)).alloc (G #[C none 0 0,F false] 45));rw[ak]at b0 b1 b4 b5 Qo;have Uj:=Y ak;have Uf:=RN.below hu Qo;have Qw:=RN.below hv Qo;have Uk:=Y (TS a la ca b lb cb X c W0 Uf Qw hY bg bh);have Ug:=Y Qw;have Ul:=Y (RN.len hu).symm;obtain⟨k0,k1⟩:=b0.cp;obtain⟨d,k3⟩:=b1.cp;clear ak hu hv Uf Qw;go_enter func143,ntmps143
 go_upto_region 1 with fail
 rw[Uj.o];go_upto_region 2 with(go_at_call 184;refine Uk.o.mono ?_;rintro e w1 ⟨u1,v1,rfl,aq,ay,aj⟩;obtain⟨B,D,rfl⟩:=RN.form aq;obtain⟨va,vc,rfl⟩:=RN.form ay)
 obtain⟨lr,ap⟩:=ex ((Jd 10000 (X%c)).length);obtain⟨lq,an⟩:=ex ((Jd 10000 (X/c)).length);have Ue:=Y (show lr=0↔X%c=0 by
  rw[<-ap];exact⟨λh=>(JP O).1 (Al h),λh=>by rw[h,JG];rfl⟩)
 rw[ap]at ay ⊢;rw[an]at aq ⊢;have bj:lq<=100000000000:=by
  have W:=TU (m:=X) (n:=X/c) (Fw _ _);have h2:=Ul.o;omega
 have Ub:=Y an.symm;clear ap an;obtain⟨k0,k1⟩:=(b0.below aj).cp;obtain⟨d,k3⟩:=(b1.below aj).cp;have Qv:=Y (Iu B lq D (!(s==t)) w1);go_upto_region 3 with(go_at_call 144;refine Qv.o.mono ?_;rintro e w2 ⟨rfl,am⟩)
 obtain⟨K,bf⟩:=ex (((!(s==t))&&decide (0<lq)):Bool);have hI:=fM (RN.below aq am) (!(s==t));rw[bf]at hI ⊢;obtain⟨W3,ai⟩:=ex (w2.alloc (G #[C B lq D,F K] 45));have Qi:Bl w2 W3:=by rw[<-ai];exact Ba w2 _
 have b8:Jp W3 w2.heap.size 45 (C B lq D) (F K):=by rw[<-ai];exact Jp.new w2 _ _ _
 have Qq:Bl w1 W3:=Bt am Qi;have Qf:Bl W0 W3:=Bt aj Qq;have Qu:=hI.below Qi;have Qy:=RN.below ay Qq;have Qg:=Bt Qo Qf;obtain⟨R,az⟩:=ex (w2.heap.size);have bi:w.heap.size+1+1+1<R:=by
  have W:=(b5.below (Bt aj am)).lt;omega
 rw[ai];rw[az]at b8 ⊢;clear ai az bf hI;have p0:=b0.below Qf;have p1:=b1.below Qf;have y:=b4.below Qf;have A:=b5.below Qf;clear b0 b1 b4 b5 k0 k1 d k3;obtain⟨k0,k1⟩:=p0.cp;obtain⟨d,k3⟩:=p1.cp;obtain⟨g,i⟩:=b8.cp;obtain⟨q0,j⟩:=y.cp;obtain⟨q2,k⟩:=A.cp;obtain⟨f0,f1⟩:=y.fp;obtain⟨f2,f3⟩:=A.fp;obtain⟨cd,bc⟩:=ex ((!s || decide (lr=0)):Bool);have Qh:=Y bc;clear bc;go_cut [31] λv w4=>v=F cd/\w4=W3
 case first=>
  cases s with
  |false=>
   have e5:cd=true:=by rw[<-Qh.o];rfl
   go_wp2_with fail
   go_meet
   case rel=>exact⟨by rw[e5],J⟩
  |true=>
   by_cases x:lr=0
   . have e5:cd=true:=by rw[<-Qh.o];simp;omega
     have h6:((lr:Int)==0)=true:=by simp;omega
     clear x;go_wp2_with fail
     go_meet
     case rel=>exact⟨by rw[e5],J⟩
   . have e5:cd=false:=by rw[<-Qh.o];simp;omega
     have h6:((lr:Int)==0)=false:=by simp;omega
     clear x;go_wp2_with fail
     go_meet
     case rel=>exact⟨by rw[e5],J⟩
 case rest=>
  obtain⟨rfl,rfl⟩:=hcut;cases cd with
  |true=>
   have hc:¬(s=true/\X%c≠0):=λ⟨W,h2⟩=>by
    have h:=Qh.o;rw[W]at h;simp at h;exact h2 (Ue.o.1 h)
   obtain⟨z1,z2⟩:=HP.o hc;rw[z1]at Qu;have Qv:=Y (Iu va lr vc s);have Qz:(s&&decide (0<lr))=false:=by
    have h:=Qh.o;cases s with
    |false=>rfl
    |true=>simp at h;simp;omega
   rw[Qz]at Qv;have Qt:=Y z2;clear Qz z1 z2 hc;go_wp2_with fail
   go_region_with (first
    |(go_at_call 144;refine(Qv.o _).mono ?_;rintro e w5 ⟨rfl,I⟩;have g:=((b8.drew).below I).c0;have i:=((b8.drew).below I).c1;have q0:=((y.drew).below I).c0;have j:=((y.drew).below I).c1;have q2:=((A.drew).below I).c0;have k:=((A.drew).below I).c1;have f0:=((y.drew).below I).f0;have f1:=((y.drew).below I).f1;have f2:=((A.drew).below I).f0;have f3:=((A.drew).below I).f1))
   all_goals
    go_wp2_with fail
    have Qj:Bl wc w5:=((BA _ wc).drew).trans (I.mono (Aa _));have E:=y.below Qj;have Qc:=A.below Qj;obtain⟨z4,z5⟩:=Mx (C B lq D) (F K) (C va lr vc) (F false) E Qc;obtain⟨Qr,Qp⟩:=z4.cp;obtain⟨Qk,Qn⟩:=z5.cp;have Qd:Jp ((w5.setCell ⟨w.heap.size+1+1,0,none⟩ (C B lq D)).setCell ⟨w.heap.size+1+1,1,none⟩ (F K)) (w.heap.size+1+1+1) 45 (C none 0 0) (F false):=(Qc.far DG _).far DG _;have Qb:=(Kk Qy).below Qj;rw[Qt.o]at Qb;have Ql:=((Qu.below Qj).box E J J (x0:=C B lq D) (x1:=F K)).box Qd J J (x0:=C va lr vc) (x1:=F false);have Qm:=(Qb.box E J J (x0:=C B lq D) (x1:=F K)).box Qd J J (x0:=C va lr vc) (x1:=F false);have Qs:=Bt Qg Qj;exact A0 (by simp[results,results143,go_sem,Qr,Qp,Qk,Qn]) J ⟨_,_,J,Ql,Qm,(((Qs.setCell (p:=⟨_,0,none⟩) Db _).setCell (p:=⟨_,1,none⟩) Db _).setCell (p:=⟨_,0,none⟩) Db _).setCell (p:=⟨_,1,none⟩) Db _⟩
  |false=>
   have hc:s=true/\X%c≠0:=by
    have h:=Qh.o;simp at h;exact⟨h.1,λe=>h.2 (Ue.o.2 e)⟩
   obtain⟨z1,z2⟩:=HN.o hc;rw[hc.1]at z1;have Ud:Jw wc (S #[C B lq D,F K]) (if(!(true==t))=true then -((X/c:Nat):Int)else((X/c:Nat):Int)):=by have h:=Qu;rw[hc.1]at h;exact h
   obtain⟨Ua,Uh,Qt⟩:=DX Ud z1 z2;have bk:=A9 X (show c>0 by omega);obtain⟨Uc,Ui,Qe⟩:=DX (Hb 1 O O) (λ(V:H) (h:Bl wc V)=>MV _ _ c (X%c) V (RN.below (RN.below Ug.o Qf) h) (RN.below Qy h) O (by rw[<-RN.len Ug.o];omega)) λ(V:H) (h:Bl wc V)=>Cy (Cy (b8.below h).c0 (Cy (b8.below h).c1 (p1.below h).c0)) (Cy (Cy (y.below h).c0 (Cy (y.below h).c1 (Cy (A.below h).c0 (A.below h).c1))) (Cy (y.below h).f0 (Cy (y.below h).f1 (Cy (A.below h).f0 (A.below h).f1))));have n1:¬R=w.heap.size+1+1:=O
   have n2:¬R=w.heap.size+1+1+1:=O
   have n3:¬w.heap.size+1+1=R:=O
   have n4:¬w.heap.size+1+1+1=R:=O
   have n5:¬w.heap.size+1+1=w.heap.size:=O
   have n6:¬w.heap.size=w.heap.size+1+1:=O
   clear hc Ud z1 z2 Qu;cases t with
   |true=>
    have Qx:=Y (show ∀(V:H) (u:M),Bl wc V->Jw V u 1->Q L 96 #[S #[C B lq D,F K],u] V λe l=>∃u,e=.returned u/\Jw l u z/\Bl V l from λV u h hu=>by
     have hx:=Ua.o.below h;simp only[beq_self_eq_true,Bool.not_true,C7,if_false]at hx;have W:=OZ _ u _ 1 V hx hu (by unfold D3;rw[AA,<-Ub.o];omega) (Mw O O);have h2:=Uh.o;simp only[beq_self_eq_true,Bool.not_true,C7,if_false]at h2;rw[show((X/c:Nat):Int)+1=z from by rw[<-h2];push_cast;rfl]at W;exact W)
    go_upto_region 6 with fail
    have hq:Bl wc wc.drew:=(BA _ wc).drew;clear g i d q0 j q2 k f0 f1 f2 f3;obtain⟨⟨g,i,d⟩,⟨q0,j,q2,k⟩,f0,f1,f2,f3⟩:=Qe.o _ hq;go_region_held3 (λl=>l.cell? ⟨R,0,none⟩=some (C B lq D)/\l.cell? ⟨R,1,none⟩=some (F K)/\l.cell? ⟨w.heap.size+1,0,none⟩=some (C b lb cb)) (first|(with_reducible exact⟨g,i,d⟩)|(go_keep;done))
     (first
      |(go_at_call 94;refine(Uc.o _).mono ?_;rintro e w5 ⟨u5,rfl,ah,f⟩;replace hq:=Bt hq f;clear f g i d q0 j q2 k f0 f1 f2 f3;obtain⟨⟨g,i,d⟩,⟨q0,j,q2,k⟩,f0,f1,f2,f3⟩:=Qe.o _ hq)
      |(go_at_call 96;refine(Qx.o _ _ hq ah).mono ?_;clear ah;rintro e w6 ⟨u6,rfl,x,f⟩;obtain⟨T,l5,U,rfl⟩:=x.form;obtain⟨s5,ae⟩:=ex (decide (z<0));rw[ae]at x;rw[ae];clear ae;replace hq:=Bt hq f;clear f g i d q0 j q2 k f0 f1 f2 f3;obtain⟨⟨g,i,d⟩,⟨q0,j,q2,k⟩,f0,f1,f2,f3⟩:=Qe.o _ hq)
      |(go_at_call 147;refine(Ui.o _ hq).mono ?_;rintro e V0 ⟨u7,rfl,h6,f⟩;obtain⟨a6,c6,rfl⟩:=RN.form h6;obtain⟨l6,ad⟩:=ex ((Jd 10000 (c-X%c)).length);rw[ad]at h6;rw[ad];clear ad;replace x:=x.below f;replace hq:=Bt hq f;clear f g i d q0 j q2 k f0 f1 f2 f3;obtain⟨⟨g,i,d⟩,⟨q0,j,q2,k⟩,f0,f1,f2,f3⟩:=Qe.o _ hq))
    go_wp2_with fail
    have E:=y.below hq;have Qc:=A.below hq;obtain⟨z4,z5⟩:=Mx (C T l5 U) (F s5) (C a6 l6 c6) (F false) E Qc;obtain⟨Qr,Qp⟩:=z4.cp;obtain⟨Qk,Qn⟩:=z5.cp;have Qd:Jp ((V0.setCell ⟨w.heap.size+1+1,0,none⟩ (C T l5 U)).setCell ⟨w.heap.size+1+1,1,none⟩ (F s5)) (w.heap.size+1+1+1) 45 (C none 0 0) (F false):=(Qc.far DG _).far DG _;have Qb:=Kk h6;rw[Qt.o]at Qb;have Ql:=(x.box E J J (x0:=C T l5 U) (x1:=F s5)).box Qd J J (x0:=C a6 l6 c6) (x1:=F false);have Qm:=(Qb.box E J J (x0:=C T l5 U) (x1:=F s5)).box Qd J J (x0:=C a6 l6 c6) (x1:=F false);have Qs:=Bt Qg hq;exact A0 (by simp[results,results143,go_sem,Qr,Qp,Qk,Qn]) J ⟨_,_,J,Ql,Qm,(((Qs.setCell (p:=⟨_,0,none⟩) Db _).setCell (p:=⟨_,1,none⟩) Db _).setCell (p:=⟨_,0,none⟩) Db _).setCell (p:=⟨_,1,none⟩) Db _⟩
   |false=>
    have Qx:=Y (show ∀(V:H) (u:M),Bl wc V->Jw V u 1->Q L 159 #[S #[C B lq D,F K],u] V λe l=>∃u,e=.returned u/\Jw l u z/\Bl V l from λV u h hu=>by
     have hx:=Ua.o.below h;rw[BG (by rfl)]at hx;have W:=Sp _ u _ 1 V hx hu (by unfold D3;rw[FM,AA,<-Ub.o];omega) (Mw O O);have h2:=Uh.o;rw[BG (by rfl)]at h2;rw[show -((X/c:Nat):Int)-1=z from by rw[<-h2];push_cast;omega]at W;exact W)
    go_upto_region 7 with fail
    have hq:Bl wc wc.drew:=(BA _ wc).drew;clear g i d q0 j q2 k f0 f1 f2 f3;obtain⟨⟨g,i,d⟩,⟨q0,j,q2,k⟩,f0,f1,f2,f3⟩:=Qe.o _ hq;go_region_held3 (λl=>l.cell? ⟨R,0,none⟩=some (C B lq D)/\l.cell? ⟨R,1,none⟩=some (F K)/\l.cell? ⟨w.heap.size+1,0,none⟩=some (C b lb cb)) (first|(with_reducible exact⟨g,i,d⟩)|(go_keep;done))
     (first
      |(go_at_call 94;refine(Uc.o _).mono ?_;rintro e w5 ⟨u5,rfl,ah,f⟩;replace hq:=Bt hq f;clear f g i d q0 j q2 k f0 f1 f2 f3;obtain⟨⟨g,i,d⟩,⟨q0,j,q2,k⟩,f0,f1,f2,f3⟩:=Qe.o _ hq)
      |(go_at_call 159;refine(Qx.o _ _ hq ah).mono ?_;clear ah;rintro e w6 ⟨u6,rfl,x,f⟩;obtain⟨T,l5,U,rfl⟩:=x.form;obtain⟨s5,ae⟩:=ex (decide (z<0));rw[ae]at x;rw[ae];clear ae;replace hq:=Bt hq f;clear f g i d q0 j q2 k f0 f1 f2 f3;obtain⟨⟨g,i,d⟩,⟨q0,j,q2,k⟩,f0,f1,f2,f3⟩:=Qe.o _ hq)
      |(go_at_call 147;refine(Ui.o _ hq).mono ?_;rintro e V0 ⟨u7,rfl,h6,f⟩;obtain⟨a6,c6,rfl⟩:=RN.form h6;obtain⟨l6,ad⟩:=ex ((Jd 10000 (c-X%c)).length);rw[ad]at h6;rw[ad];clear ad;replace x:=x.below f;replace hq:=Bt hq f;clear f g i d q0 j q2 k f0 f1 f2 f3;obtain⟨⟨g,i,d⟩,⟨q0,j,q2,k⟩,f0,f1,f2,f3⟩:=Qe.o _ hq))
    go_wp2_with fail
    have E:=y.below hq;have Qc:=A.below hq;obtain⟨z4,z5⟩:=Mx (C T l5 U) (F s5) (C a6 l6 c6) (F false) E Qc;obtain⟨Qr,Qp⟩:=z4.cp;obtain⟨Qk,Qn⟩:=z5.cp;have Qd:Jp ((V0.setCell ⟨w.heap.size+1+1,0,none⟩ (C T l5 U)).setCell ⟨w.heap.size+1+1,1,none⟩ (F s5)) (w.heap.size+1+1+1) 45 (C none 0 0) (F false):=(Qc.far DG _).far DG _;have Qb:=Kk h6;rw[Qt.o]at Qb;have Ql:=(x.box E J J (x0:=C T l5 U) (x1:=F s5)).box Qd J J (x0:=C a6 l6 c6) (x1:=F false);have Qm:=(Qb.box E J J (x0:=C T l5 U) (x1:=F s5)).box Qd J J (x0:=C a6 l6 c6) (x1:=F false);have Qs:=Bt Qg hq;exact A0 (by simp[results,results143,go_sem,Qr,Qp,Qk,Qn]) J ⟨_,_,J,Ql,Qm,(((Qs.setCell (p:=⟨_,0,none⟩) Db _).setCell (p:=⟨_,1,none⟩) Db _).setCell (p:=⟨_,0,none⟩) Db _).setCell (p:=⟨_,1,none⟩) Db _⟩
def NO(j k:M)(x y:Int)(w:H)(l:Jw w j x)(m:Jw w k y)(i:y≠0)(n:D3 x<=100000000000)(p:D3 y<=100000000000):
 Q L 143 #[j,k] w λe d=>∃q o,e=.returned (.tuple #[q,o])/\Jw d q (x/y)/\Jw d o (x%y)/\Bl w d:=by
 obtain⟨a,la,ca,rfl,f⟩:=l;obtain⟨b,lb,cb,rfl,g⟩:=m;refine fN a la ca b lb cb x.natAbs y.natAbs _ _ (x/y) (x%y) w f g O (by rw[RN.len f];exact n) (by rw[RN.len g];exact p) (λc=>Sy i λh=>c ⟨BH h.1,h.2⟩) λc=>Sz i ⟨Bb c.1,c.2⟩
def TV(p:M)(x:Int)(w:H)(r:Jw w p x):
 Q L 115 #[p] w λe s=>e=.returned (N P x.sign)/\Bl w s:=by
 obtain⟨a,la,ca,rfl,i⟩:=r;have j:=RN.len i;have v:=(Ju i).2.2.2.1;have f:Bl w (w.alloc (G #[C a la ca,F (decide (x<0))] 45)):=Ba w _;have b0:=Jp.new w 45 (C a la ca) (F (decide (x<0)));have l:la=0↔x=0:=by
  rw[j];constructor
  . intro h;have:=(JP (B:=10000) O).1 (Al h);omega
  . intro h;rw[h,Int.natAbs_zero,JG];rfl
 have m:=Y l;obtain⟨W0,g⟩:=ex (w.alloc (G #[C a la ca,F (decide (x<0))] 45));rw[g]at f b0;have c:=Y g;obtain⟨y,o⟩:=b0.cp;by_cases k:x<0
 . have d:decide (x<0)=true:=BH k;rw[d]at c o ⊢;have b:=Y (Int.sign_eq_neg_one_of_neg k);clear j l g i d b0;go_enter func115,ntmps115
   go_upto_region 1 with fail
   rw[c.o];go_wp2_with fail
   go_ret;exact⟨by rw[b.o];rfl,f⟩
 . have d:decide (x<0)=false:=BE k;rw[d]at c o ⊢;clear j l g i d b0;rcases AZ la with n|n
   . subst n;have b:=Y (show x.sign=0 by rw[m.o.1 J];rfl);go_enter func115,ntmps115
     go_upto_region 1 with fail
     rw[c.o];go_wp2_with fail
     go_ret;refine⟨?_,f⟩;rw[b.o];first|rfl|(simp;done)
   . have b:=Y (show x.sign=1 from Int.sign_eq_one_of_pos (by
      have:=m.o;rcases FJ x 0 with h|h|h
      . omega
      . have:=this.2 h;omega
      . exact h))
     have q:min (1:Int) (la:Int)=1:=O
     have t:(1:Int)<=(la:Int):=O
     have u:¬((la:Int)<1):=O
     go_enter func115,ntmps115
     go_upto_region 1 with fail
     rw[c.o];go_wp2_with fail
     go_ret;refine⟨?_,f⟩;rw[b.o];first|rfl|(simp[q];done)
end
section
open M3
variable{l:Nat}{a:nJ}
def TW{x y:Int}(a:y≠0):(0:Int)<(Int.gcd x y:Nat):=by
 have:=Int.gcd_pos_of_ne_zero_right x a;omega
def Jk.mk{W:H}{s t:Bool}{b:nJ}{c k d:Nat}{q:Rat}(e:Jw W (S #[C a l c,F s]) q.num)(f:Jw W (S #[C b k d,F t]) (q.den:Int)):Jk W (S #[C a l c,F s,C b k d,F t]) q:=⟨_,_,_,_,_,_,_,_,J,e,f⟩
def Jw.sign{W:H}{c:Nat}{s:Bool}{z:Int}(h:Jw W (S #[C a l c,F s]) z):s=decide (z<0):=by
 obtain⟨a',l',c',e,_⟩:=h;cases e;rfl
def KF(va vb:M)(x y:Int)(w:H)(ha:Jw w va x)(f:Jw w vb y)(hy:y≠0)(dh:Sok x)(di:Sok y):
 Q L 95 #[va,vb] w λe w'=>∃u,e=.returned u/\Jk w' u (nM x y)/\Bl w w':=by
 obtain⟨gu,jp,ii,kd,rfl⟩:=Jw.form2 ha;obtain⟨gv,jr,ij,ke,rfl⟩:=Jw.form2 f;obtain⟨W0,bg,M1⟩:=Hh 45 (.big x) ha 45 (.big y) f 47 (.zref) J;obtain⟨q,Qa,Qb⟩:=DX hy dh di;clear ha f hy dh di;go_enter func95,ntmps95
 go_upto_region 1 with fail
 rw[bg.o];clear bg;obtain⟨a1,l1,c1,s1,n1,i1⟩:=M1.o.big (i:=0) J;obtain⟨Ui,Uk⟩:=n1.cp;obtain⟨a2,l2,c2,s2,n2,i2⟩:=M1.o.big (i:=1) J;obtain⟨Uj,Ug⟩:=n2.cp;go_upto_region 2 with(go_at_call 141;refine(fK _ _ x y _ i1 i2 (by have:=Qa.o.size;omega) (by have:=Qb.o.size;omega)).mono ?_;rintro e w1 ⟨u,rfl,hu,f⟩;obtain⟨bt,et,co,fk,rfl⟩:=Jw.form2 hu)
 obtain⟨V3,b⟩:=ex (w1.alloc (G #[C bt et co,F fk] 45));obtain⟨g,c⟩:=ex (w1.heap.size);have a:DH w (w1.alloc (G #[C bt et co,F fk] 45)) [some (w.heap.size,.big x),some (w.heap.size+1,.big y),some (w.heap.size+1+1,.zref),some (w1.heap.size,.big (((Int.gcd x y:Nat):Int)))]:=DH.push (M1.o.below f) (.big (((Int.gcd x y:Nat):Int))) hu;rw[b,c]at a;rw[b];rw[c];have p:Hid (DH w V3 [some (w.heap.size,.big x),some (w.heap.size+1,.big y),some (w.heap.size+1+1,.zref),some (g,.big (((Int.gcd x y:Nat):Int)))]):=Y (a);clear M1;clear a b c;clear n1 Ui Uk i1 n2 Uj Ug i2 hu f;have HG:=Y (Sok.gcd Qa.o Qb.o);by_cases r:y<0
 . have HL:=Y r;obtain⟨a4,l4,c4,s4,n4,i4⟩:=p.o.big (i:=1) J;obtain⟨Uo,Uf⟩:=n4.cp;have V:=Jw.sign i4;rw[BH r]at V;subst V;clear r;go_upto_region 3 with fail
   clear n4 Uo Uf i4;obtain⟨a5,l5,c5,s5,n5,i5⟩:=p.o.big (i:=3) J;obtain⟨Uc,Ud⟩:=n5.cp;go_upto_region 4 with(go_at_call 142;refine(Oa _ (((Int.gcd x y:Nat):Int)) _ i5).mono ?_;rintro e w6 ⟨u6,rfl,aq,an⟩;obtain⟨bu,ew,de,fl,rfl⟩:=Jw.form2 aq;obtain⟨Uc,Ud⟩:=(n5.below an).cp;obtain⟨Um,Un⟩:=(n5.below an).fp)
   obtain⟨V6,b⟩:=ex ((w6.setCell ⟨g,0,none⟩ (C bu ew de)).setCell ⟨g,1,none⟩ (F fl));have a:DH w ((w6.setCell ⟨g,0,none⟩ (C bu ew de)).setCell ⟨g,1,none⟩ (F fl)) [some (w.heap.size,.big x),some (w.heap.size+1,.big y),some (w.heap.size+1+1,.zref),some (g,.big (-((Int.gcd x y:Nat):Int)))]:=DH.putBig (p.o.below an) (i:=3) J aq;rw[b]at a;rw[b];have M3:Hid (DH w V6 [some (w.heap.size,.big x),some (w.heap.size+1,.big y),some (w.heap.size+1+1,.zref),some (g,.big (-((Int.gcd x y:Nat):Int)))]):=Y (a);clear p;clear a b;clear n5 Uc Ud i5 aq an Um Un;obtain⟨A,s,z⟩:=DX (show(-((Int.gcd x y:Nat):Int))≠0 by have:=TW (x:=x) q.o;omega) (show(-((Int.gcd x y:Nat):Int))=(if y<0 then -((Int.gcd x y:Nat):Int)else((Int.gcd x y:Nat):Int))by rw[BG HL.o]) HG.o.neg;obtain⟨a7,l7,c7,s7,n7,i7⟩:=M3.o.big (i:=0) J;obtain⟨Ue,Up⟩:=n7.cp;obtain⟨a8,l8,c8,s8,n8,i8⟩:=M3.o.big (i:=3) J;obtain⟨Uh,Ul⟩:=n8.cp;go_upto_region 5 with(go_at_call 143;refine(NO _ _ x ((-((Int.gcd x y:Nat):Int))) _ i7 i8 A.o (by have:=Qa.o.size;omega) (by have:=z.o.size;omega)).mono ?_;rintro e m ⟨u1,u2,rfl,j,k,f⟩;obtain⟨B,W,K,ah,rfl⟩:=Jw.form2 j;obtain⟨D,X,R,ai,rfl⟩:=Jw.form2 k)
   have a:=DH.push (DH.push (M3.o.below f) (.big (x/(-((Int.gcd x y:Nat):Int)))) j) (.big (x%(-((Int.gcd x y:Nat):Int)))) (Has.alloc (d:=.big (x%(-((Int.gcd x y:Nat):Int)))) k _);simp only[Ax]at a;have a:DH w ((m.alloc (G #[C B W K,F ah] 45)).alloc (G #[C D X R,F ai] 45)) [some (w.heap.size,.big x),some (w.heap.size+1,.big y),some (w.heap.size+1+1,.zref),some (g,.big (-((Int.gcd x y:Nat):Int))),some (m.heap.size,.big (x/(-((Int.gcd x y:Nat):Int)))),some (m.heap.size+1,.big (x%(-((Int.gcd x y:Nat):Int))))]:=a;obtain⟨fs,b⟩:=ex ((m.alloc (G #[C B W K,F ah] 45)).alloc (G #[C D X R,F ai] 45));obtain⟨B9,c⟩:=ex (m.heap.size);rw[b,c]at a;rw[b];rw[c];obtain⟨B10,l⟩:=ex (B9+1);rw[l]at a ⊢;have o:Hid (DH w fs [some (w.heap.size,.big x),some (w.heap.size+1,.big y),some (w.heap.size+1+1,.zref),some (g,.big (-((Int.gcd x y:Nat):Int))),some (B9,.big (x/(-((Int.gcd x y:Nat):Int)))),some (B10,.big (x%(-((Int.gcd x y:Nat):Int))))]):=Y (a);clear M3;clear a b c l;clear n7 Ue Up i7 n8 Uh Ul i8 j k f;obtain⟨gk,ji,gw,js,f6,dj⟩:=o.o.big (i:=1) J;obtain⟨Qr,Qk⟩:=f6.cp;obtain⟨gl,jj,gy,jt,f7,dk⟩:=o.o.big (i:=3) J;obtain⟨Ub,Qz⟩:=f7.cp;go_upto_region 6 with(go_at_call 143;refine(NO _ _ y ((-((Int.gcd x y:Nat):Int))) _ dj dk A.o (by have:=Qb.o.size;omega) (by have:=z.o.size;omega)).mono ?_;rintro e n ⟨u1,u2,rfl,j,k,f⟩;obtain⟨E,ad,T,aj,rfl⟩:=Jw.form2 j;obtain⟨I,ae,U,ak,rfl⟩:=Jw.form2 k)
   have a:=DH.push (DH.push (o.o.below f) (.big (y/(-((Int.gcd x y:Nat):Int)))) j) (.big (y%(-((Int.gcd x y:Nat):Int)))) (Has.alloc (d:=.big (y%(-((Int.gcd x y:Nat):Int)))) k _);simp only[Ax]at a;have a:DH w ((n.alloc (G #[C E ad T,F aj] 45)).alloc (G #[C I ae U,F ak] 45)) [some (w.heap.size,.big x),some (w.heap.size+1,.big y),some (w.heap.size+1+1,.zref),some (g,.big (-((Int.gcd x y:Nat):Int))),some (B9,.big (x/(-((Int.gcd x y:Nat):Int)))),some (B10,.big (x%(-((Int.gcd x y:Nat):Int)))),some (n.heap.size,.big (y/(-((Int.gcd x y:Nat):Int)))),some (n.heap.size+1,.big (y%(-((Int.gcd x y:Nat):Int))))]:=a;obtain⟨bh,b⟩:=ex ((n.alloc (G #[C E ad T,F aj] 45)).alloc (G #[C I ae U,F ak] 45));obtain⟨bc,c⟩:=ex (n.heap.size);rw[b,c]at a;rw[b];rw[c];obtain⟨fm,l⟩:=ex (bc+1);rw[l]at a ⊢;have t:Hid (DH w bh [some (w.heap.size,.big x),some (w.heap.size+1,.big y),some (w.heap.size+1+1,.zref),some (g,.big (-((Int.gcd x y:Nat):Int))),some (B9,.big (x/(-((Int.gcd x y:Nat):Int)))),some (B10,.big (x%(-((Int.gcd x y:Nat):Int)))),some (bc,.big (y/(-((Int.gcd x y:Nat):Int)))),some (fm,.big (y%(-((Int.gcd x y:Nat):Int))))]):=Y (a);clear o;clear a b c l;clear f6 Qr Qk dj f7 Ub Qz dk j k f;obtain⟨bj,dz,ce,fg,gg,fv⟩:=t.o.big (i:=4) J;obtain⟨il,io⟩:=gg.cp;obtain⟨bk,ed,cj,fh,gh,fx⟩:=t.o.big (i:=6) J;obtain⟨ir,iu⟩:=gh.cp;have ay:=t.o.zref (i:=2) J;obtain⟨Qw,Qp,Qg,Qj⟩:=ay.cq;obtain⟨ja,jb,jc,jd⟩:=ay.fq;have hr:Jk bh (S #[C bj dz ce,F fg,C bk ed cj,F fh]) (nM x y):=Jk.mk (by rw[Md q.o,<-s.o];exact fv) (by rw[Me q.o,<-s.o];exact fx);have Qf:=t.o.ge 2 J;have hB:=t.o.2.2;go_wp2_with fail
   exact A0 (v:=S #[C bj dz ce,F fg,C bk ed cj,F fh]) (by simp[results,results95,go_sem,Qw,Qp,Qg,Qj]) J ⟨_,J,hr.put4 ay J J J J _ _ _ _,Jn hB Qf _ _ _ _⟩
 . have HL:=Y r;obtain⟨gn,jk,ia,ju,f8,dm⟩:=p.o.big (i:=1) J;obtain⟨Qx,Qu⟩:=f8.cp;have V:=Jw.sign dm;rw[BE r]at V;subst V;clear r;go_upto_region 4 with fail
   clear f8 Qx Qu dm;obtain⟨A,s,z⟩:=DX (show((Int.gcd x y:Nat):Int)≠0 by have:=TW (x:=x) q.o;omega) (show((Int.gcd x y:Nat):Int)=(if y<0 then -((Int.gcd x y:Nat):Int)else((Int.gcd x y:Nat):Int))by rw[BD (by have:=HL.o;omega)]) HG.o;obtain⟨go,jl,ib,jw,f9,dt⟩:=p.o.big (i:=0) J;obtain⟨Qh,Ua⟩:=f9.cp;obtain⟨gp,jm,ic,jx,fc,du⟩:=p.o.big (i:=3) J;obtain⟨Qt,Qo⟩:=fc.cp;go_upto_region 5 with(go_at_call 143;refine(NO _ _ x (((Int.gcd x y:Nat):Int)) _ dt du A.o (by have:=Qa.o.size;omega) (by have:=z.o.size;omega)).mono ?_;rintro e m ⟨u1,u2,rfl,j,k,f⟩;obtain⟨B,W,K,ah,rfl⟩:=Jw.form2 j;obtain⟨D,X,R,ai,rfl⟩:=Jw.form2 k)
   have a:=DH.push (DH.push (p.o.below f) (.big (x/((Int.gcd x y:Nat):Int))) j) (.big (x%((Int.gcd x y:Nat):Int))) (Has.alloc (d:=.big (x%((Int.gcd x y:Nat):Int))) k _);simp only[Ax]at a;have a:DH w ((m.alloc (G #[C B W K,F ah] 45)).alloc (G #[C D X R,F ai] 45)) [some (w.heap.size,.big x),some (w.heap.size+1,.big y),some (w.heap.size+1+1,.zref),some (g,.big (((Int.gcd x y:Nat):Int))),some (m.heap.size,.big (x/((Int.gcd x y:Nat):Int))),some (m.heap.size+1,.big (x%((Int.gcd x y:Nat):Int)))]:=a;obtain⟨ft,b⟩:=ex ((m.alloc (G #[C B W K,F ah] 45)).alloc (G #[C D X R,F ai] 45));obtain⟨am,c⟩:=ex (m.heap.size);rw[b,c]at a;rw[b];rw[c];obtain⟨ap,l⟩:=ex (am+1);rw[l]at a ⊢;have M3:Hid (DH w ft [some (w.heap.size,.big x),some (w.heap.size+1,.big y),some (w.heap.size+1+1,.zref),some (g,.big (((Int.gcd x y:Nat):Int))),some (am,.big (x/((Int.gcd x y:Nat):Int))),some (ap,.big (x%((Int.gcd x y:Nat):Int)))]):=Y (a);clear p;clear a b c l;clear f9 Qh Ua dt fc Qt Qo du j k f;obtain⟨gq,jn,ie,jy,fe,dw⟩:=M3.o.big (i:=1) J;obtain⟨Qn,Qq⟩:=fe.cp;obtain⟨gr,jo,ig,jz,ff,dx⟩:=M3.o.big (i:=3) J;obtain⟨Qy,Qs⟩:=ff.cp;go_upto_region 6 with(go_at_call 143;refine(NO _ _ y (((Int.gcd x y:Nat):Int)) _ dw dx A.o (by have:=Qb.o.size;omega) (by have:=z.o.size;omega)).mono ?_;rintro e n ⟨u1,u2,rfl,j,k,f⟩;obtain⟨E,ad,T,aj,rfl⟩:=Jw.form2 j;obtain⟨I,ae,U,ak,rfl⟩:=Jw.form2 k)
   have a:=DH.push (DH.push (M3.o.below f) (.big (y/((Int.gcd x y:Nat):Int))) j) (.big (y%((Int.gcd x y:Nat):Int))) (Has.alloc (d:=.big (y%((Int.gcd x y:Nat):Int))) k _);simp only[Ax]at a;have a:DH w ((n.alloc (G #[C E ad T,F aj] 45)).alloc (G #[C I ae U,F ak] 45)) [some (w.heap.size,.big x),some (w.heap.size+1,.big y),some (w.heap.size+1+1,.zref),some (g,.big (((Int.gcd x y:Nat):Int))),some (am,.big (x/((Int.gcd x y:Nat):Int))),some (ap,.big (x%((Int.gcd x y:Nat):Int))),some (n.heap.size,.big (y/((Int.gcd x y:Nat):Int))),some (n.heap.size+1,.big (y%((Int.gcd x y:Nat):Int)))]:=a;obtain⟨bi,b⟩:=ex ((n.alloc (G #[C E ad T,F aj] 45)).alloc (G #[C I ae U,F ak] 45));obtain⟨bf,c⟩:=ex (n.heap.size);rw[b,c]at a;rw[b];rw[c];obtain⟨fo,l⟩:=ex (bf+1);rw[l]at a ⊢;have o:Hid (DH w bi [some (w.heap.size,.big x),some (w.heap.size+1,.big y),some (w.heap.size+1+1,.zref),some (g,.big (((Int.gcd x y:Nat):Int))),some (am,.big (x/((Int.gcd x y:Nat):Int))),some (ap,.big (x%((Int.gcd x y:Nat):Int))),some (bf,.big (y/((Int.gcd x y:Nat):Int))),some (fo,.big (y%((Int.gcd x y:Nat):Int)))]):=Y (a);clear M3;clear a b c l;clear fe Qn Qq dw ff Qy Qs dx j k f;obtain⟨bm,ei,ck,fi,gi,ga⟩:=o.o.big (i:=4) J;obtain⟨iw,ix⟩:=gi.cp;obtain⟨bn,eo,cn,fj,gj,gb⟩:=o.o.big (i:=6) J;obtain⟨iy,iz⟩:=gj.cp;have az:=o.o.zref (i:=2) J;obtain⟨Qv,Ql,Qi,Qm⟩:=az.cq;obtain⟨je,jf,jg,jh⟩:=az.fq;have hr:Jk bi (S #[C bm ei ck,F fi,C bn eo cn,F fj]) (nM x y):=Jk.mk (by rw[Md q.o,<-s.o];exact ga) (by rw[Me q.o,<-s.o];exact gb);have Qf:=o.o.ge 2 J;have hB:=o.o.2.2;go_wp2_with fail
   exact A0 (v:=S #[C bm ei ck,F fi,C bn eo cn,F fj]) (by simp[results,results95,go_sem,Qv,Ql,Qi,Qm]) J ⟨_,J,hr.put4 az J J J J _ _ _ _,Jn hB Qf _ _ _ _⟩
def PZ(va vb:M)(p q:Rat)(w:H)(X:Jk w va p)(hb:Jk w vb q)(aj:Sq p)(ak:Sq q):
 Q L 42 #[va,vb] w λe b=>∃u,e=.returned u/\Jk b u (p+q)/\Bl w b:=by
 obtain⟨bj,co,bt,dj,bm,ck,ce,dm,rfl⟩:=Jk.form X;obtain⟨bk,de,bu,dk,bn,cn,cj,dt,rfl⟩:=Jk.form hb;obtain⟨W0,ae,d⟩:=Hh 47 (.ref p) X 47 (.ref q) hb 47 (.zref) J;have f:=Y aj;have g:=Y ak;clear X hb aj ak;go_enter func42,ntmps42
 go_upto_region 1 with fail
 rw[ae.o];clear ae;obtain⟨a1,l1,c1,s1,b1,k1,d1,t1,B,r1,i1,j1⟩:=d.o.ref (i:=0) J;obtain⟨m,o,s,x⟩:=B.cq;obtain⟨a2,l2,c2,s2,b2,k2,d2,t2,D,r2,i2,j2⟩:=d.o.ref (i:=1) J;obtain⟨n,l,k,z⟩:=D.cq;have a:=d.o.zref (i:=2) J;obtain⟨t,r,A,y⟩:=a.cq;obtain⟨T,R,K,E⟩:=a.fq;obtain⟨H4,H9,Qw,Qu,Qv⟩:=Gn (λ(V:H) (h:Bl W0 V)=>XG _ _ (p.num) ((q.den:Int)) V (i1.below h) (j2.below h) (by have:=f.o.num.size;omega) (by have:=g.o.den.size;omega)) (λ(V:H) (h:Bl W0 V)=>XG _ _ (q.num) ((p.den:Int)) V (i2.below h) (j1.below h) (by have:=g.o.num.size;omega) (by have:=f.o.den.size;omega)) (λ(V:H) (h:Bl W0 V) (v4:M) (g4:Jw V v4 (p.num*(q.den:Int))) (v9:M) (c:Jw V v9 (q.num*(p.den:Int)))=>OZ _ _ (p.num*(q.den:Int)) (q.num*(p.den:Int)) V g4 c (by have:=(f.o.cross g.o).size;omega) (by have:=(g.o.cross f.o).size;omega)) (λ(V:H) (h:Bl W0 V)=>XG _ _ ((p.den:Int)) ((q.den:Int)) V (j1.below h) (j2.below h) (by have:=f.o.den.size;omega) (by have:=g.o.den.size;omega)) λ(V:H) (h:Bl W0 V) (am:M) (j:Jw V am (p.num*(q.den:Int)+q.num*(p.den:Int))) (an:M) (I:Jw V an ((p.den:Int)*(q.den:Int)))=>(by have h:=KF _ _ (p.num*(q.den:Int)+q.num*(p.den:Int)) ((p.den:Int)*(q.den:Int)) V j I (AV (by have:=p.den_nz;omega) (by have:=q.den_nz;omega)) (f.o.sumN g.o) (f.o.mulD g.o);rw[Og]at h;exact h);have dh:w.heap.size≠w.heap.size+1+1:=d.o.ne 0 2 J J DK;have di:w.heap.size+1≠w.heap.size+1+1:=d.o.ne 1 2 J J DK;have hq:Bl W0 W0.drew:=(BA _ W0).drew;go_region_held3 (λb=>b.cell? ⟨w.heap.size,0,none⟩=some (C a1 l1 c1)/\b.cell? ⟨w.heap.size,1,none⟩=some (F s1)/\b.cell? ⟨w.heap.size,2,none⟩=some (C b1 k1 d1)/\b.cell? ⟨w.heap.size,3,none⟩=some (F t1)/\b.cell? ⟨w.heap.size+1,0,none⟩=some (C a2 l2 c2)/\b.cell? ⟨w.heap.size+1,1,none⟩=some (F s2)/\b.cell? ⟨w.heap.size+1,2,none⟩=some (C b2 k2 d2)/\b.cell? ⟨w.heap.size+1,3,none⟩=some (F t2)) (first|(with_reducible exact⟨m,o,s,x,n,l,k,z⟩)|(go_keep;done)|(refine⟨?_,?_,?_,?_,?_,?_,?_,?_⟩<;>((repeat rw[JF O]);first|assumption|(go_keep;done))))
  (first
   |(go_at_call 97;refine(H4.o _ hq ).mono ?_;clear H4;rintro e w4 ⟨v4,rfl,g4,bc⟩;have hq:=Bt hq bc;obtain⟨m,o,s,x⟩:=(B.below hq).cq;obtain⟨n,l,k,z⟩:=(D.below hq).cq;obtain⟨t,r,A,y⟩:=(a.below hq).cq;obtain⟨T,R,K,E⟩:=(a.below hq).fq)
   |(go_at_call 97;refine(H9.o _ hq ).mono ?_;clear H9;rintro e w9 ⟨v9,rfl,c,ai⟩;have g4:=g4.below ai;have hq:=Bt hq ai;obtain⟨m,o,s,x⟩:=(B.below hq).cq;obtain⟨n,l,k,z⟩:=(D.below hq).cq;obtain⟨t,r,A,y⟩:=(a.below hq).cq;obtain⟨T,R,K,E⟩:=(a.below hq).fq)
   |(go_at_call 96;refine(Qw.o _ hq _ g4 _ c).mono ?_;clear Qw;rintro e dw ⟨am,rfl,j,ad⟩;have g4:=g4.below ad;have c:=c.below ad;have hq:=Bt hq ad;obtain⟨m,o,s,x⟩:=(B.below hq).cq;obtain⟨n,l,k,z⟩:=(D.below hq).cq;obtain⟨t,r,A,y⟩:=(a.below hq).cq;obtain⟨T,R,K,E⟩:=(a.below hq).fq)
   |(go_at_call 97;refine(Qu.o _ hq ).mono ?_;clear Qu;rintro e dx ⟨an,rfl,I,W⟩;have g4:=g4.below W;have c:=c.below W;have j:=j.below W;have hq:=Bt hq W;obtain⟨m,o,s,x⟩:=(B.below hq).cq;obtain⟨n,l,k,z⟩:=(D.below hq).cq;obtain⟨t,r,A,y⟩:=(a.below hq).cq;obtain⟨T,R,K,E⟩:=(a.below hq).fq)
   |(go_at_call 95;refine(Qv.o _ hq _ j _ I).mono ?_;clear Qv;rintro e dz ⟨du,rfl,ah,U⟩;obtain⟨ap,bg,ay,bh,aq,bf,az,bi,rfl⟩:=Jk.form ah;have g4:=g4.below U;have c:=c.below U;have j:=j.below U;have I:=I.below U;have hq:=Bt hq U;obtain⟨m,o,s,x⟩:=(B.below hq).cq;obtain⟨n,l,k,z⟩:=(D.below hq).cq;obtain⟨t,r,A,y⟩:=(a.below hq).cq;obtain⟨T,R,K,E⟩:=(a.below hq).fq))
 all_goals go_wp2_with fail
 have Qy:=Bt d.o.2.2 hq;have Qx:=d.o.ge 2 J;exact A0 (v:=S #[C ap bg ay,F bh,C aq bf az,F bi]) (by simp[results,results42,go_sem,t,r,A,y]) J ⟨_,J,ah.put4 (a.below hq) J J J J _ _ _ _,Jn Qy Qx _ _ _ _⟩
def NP(va vb:M)(p q:Rat)(w:H)(R:Jk w va p)(T:Jk w vb q)(ai:Sq p)(aj:Sq q):
 Q L 43 #[va,vb] w λe a=>∃u,e=.returned u/\Jk a u (p*q)/\Bl w a:=by
 obtain⟨bg,cj,bk,de,bi,bu,bn,di,rfl⟩:=Jk.form R;obtain⟨bh,ck,bm,dh,bj,ce,bt,dj,rfl⟩:=Jk.form T;obtain⟨W0,ad,c⟩:=Hh 47 (.ref p) R 47 (.ref q) T 47 (.zref) J;have f:=Y ai;have g:=Y aj;clear R T ai aj;go_enter func43,ntmps43
 go_upto_region 1 with fail
 rw[ad.o];clear ad;obtain⟨a1,l1,c1,s1,b1,k1,d1,t1,A,r1,i1,j1⟩:=c.o.ref (i:=0) J;obtain⟨l,n,r,t⟩:=A.cq;obtain⟨a2,l2,c2,s2,b2,k2,d2,t2,B,r2,i2,j2⟩:=c.o.ref (i:=1) J;obtain⟨m,k,j,y⟩:=B.cq;have b:=c.o.zref (i:=2) J;obtain⟨s,o,z,x⟩:=b.cq;obtain⟨K,I,E,D⟩:=b.fq;obtain⟨W,X,Qs⟩:=DX (λ(V:H) (h:Bl W0 V)=>XG _ _ (p.num) (q.num) V (i1.below h) (i2.below h) (by have:=f.o.num.size;omega) (by have:=g.o.num.size;omega)) (λ(V:H) (h:Bl W0 V)=>XG _ _ ((p.den:Int)) ((q.den:Int)) V (j1.below h) (j2.below h) (by have:=f.o.den.size;omega) (by have:=g.o.den.size;omega)) λ(V:H) (h:Bl W0 V) (v4:M) (g4:Jw V v4 (p.num*q.num)) (v9:M) (d:Jw V v9 ((p.den:Int)*(q.den:Int)))=>(by have h:=KF _ _ (p.num*q.num) ((p.den:Int)*(q.den:Int)) V g4 d (AV (by have:=p.den_nz;omega) (by have:=q.den_nz;omega)) (f.o.mulN g.o) (f.o.mulD g.o);rw[Of]at h;exact h);have cn:w.heap.size≠w.heap.size+1+1:=c.o.ne 0 2 J J DK;have co:w.heap.size+1≠w.heap.size+1+1:=c.o.ne 1 2 J J DK;have hq:Bl W0 W0.drew:=(BA _ W0).drew;go_region_held3 (λa=>a.cell? ⟨w.heap.size,0,none⟩=some (C a1 l1 c1)/\a.cell? ⟨w.heap.size,1,none⟩=some (F s1)/\a.cell? ⟨w.heap.size,2,none⟩=some (C b1 k1 d1)/\a.cell? ⟨w.heap.size,3,none⟩=some (F t1)/\a.cell? ⟨w.heap.size+1,0,none⟩=some (C a2 l2 c2)/\a.cell? ⟨w.heap.size+1,1,none⟩=some (F s2)/\a.cell? ⟨w.heap.size+1,2,none⟩=some (C b2 k2 d2)/\a.cell? ⟨w.heap.size+1,3,none⟩=some (F t2)) (first|(with_reducible exact⟨l,n,r,t,m,k,j,y⟩)|(go_keep;done)|(refine⟨?_,?_,?_,?_,?_,?_,?_,?_⟩<;>((repeat rw[JF O]);first|assumption|(go_keep;done))))
  (first
   |(go_at_call 97;refine(W.o _ hq ).mono ?_;clear W;rintro e w4 ⟨v4,rfl,g4,aq⟩;have hq:=Bt hq aq;obtain⟨l,n,r,t⟩:=(A.below hq).cq;obtain⟨m,k,j,y⟩:=(B.below hq).cq;obtain⟨s,o,z,x⟩:=(b.below hq).cq;obtain⟨K,I,E,D⟩:=(b.below hq).fq)
   |(go_at_call 97;refine(X.o _ hq ).mono ?_;clear X;rintro e w9 ⟨v9,rfl,d,ah⟩;have g4:=g4.below ah;have hq:=Bt hq ah;obtain⟨l,n,r,t⟩:=(A.below hq).cq;obtain⟨m,k,j,y⟩:=(B.below hq).cq;obtain⟨s,o,z,x⟩:=(b.below hq).cq;obtain⟨K,I,E,D⟩:=(b.below hq).fq)
   |(go_at_call 95;refine(Qs.o _ hq _ g4 _ d).mono ?_;clear Qs;rintro e dm ⟨dk,rfl,ae,U⟩;obtain⟨ak,az,an,bc,am,ay,ap,bf,rfl⟩:=Jk.form ae;have g4:=g4.below U;have d:=d.below U;have hq:=Bt hq U;obtain⟨l,n,r,t⟩:=(A.below hq).cq;obtain⟨m,k,j,y⟩:=(B.below hq).cq;obtain⟨s,o,z,x⟩:=(b.below hq).cq;obtain⟨K,I,E,D⟩:=(b.below hq).fq))
 all_goals go_wp2_with fail
 have Qu:=Bt c.o.2.2 hq;have Qt:=c.o.ge 2 J;exact A0 (v:=S #[C ak az an,F bc,C am ay ap,F bf]) (by simp[results,results43,go_sem,s,o,z,x]) J ⟨_,J,ae.put4 (b.below hq) J J J J _ _ _ _,Jn Qu Qt _ _ _ _⟩
def Pa(va vb:M)(p q:Rat)(w:H)(R:Jk w va p)(T:Jk w vb q)(aj:Sq p)(ak:Sq q)(ai:q≠0):
 Q L 158 #[va,vb] w λe a=>∃u,e=.returned u/\Jk a u (p/q)/\Bl w a:=by
 obtain⟨bh,ck,bm,dh,bj,ce,bt,dj,rfl⟩:=Jk.form R;obtain⟨bi,cn,bn,di,bk,cj,bu,dk,rfl⟩:=Jk.form T;obtain⟨W0,ad,c⟩:=Hh 47 (.ref p) R 47 (.ref q) T 47 (.zref) J;obtain⟨f,g,Qp⟩:=DX aj ak ai;clear R T aj ak ai;go_enter func158,ntmps158
 go_upto_region 1 with fail
 rw[ad.o];clear ad;obtain⟨a1,l1,c1,s1,b1,k1,d1,t1,A,r1,i1,j1⟩:=c.o.ref (i:=0) J;obtain⟨l,n,r,t⟩:=A.cq;obtain⟨a2,l2,c2,s2,b2,k2,d2,t2,B,r2,i2,j2⟩:=c.o.ref (i:=1) J;obtain⟨m,k,j,y⟩:=B.cq;have b:=c.o.zref (i:=2) J;obtain⟨s,o,z,x⟩:=b.cq;obtain⟨K,I,E,D⟩:=b.fq;obtain⟨W,X,Qt⟩:=DX (λ(V:H) (h:Bl W0 V)=>XG _ _ (p.num) ((q.den:Int)) V (i1.below h) (j2.below h) (by have:=f.o.num.size;omega) (by have:=g.o.den.size;omega)) (λ(V:H) (h:Bl W0 V)=>XG _ _ ((p.den:Int)) (q.num) V (j1.below h) (i2.below h) (by have:=f.o.den.size;omega) (by have:=g.o.num.size;omega)) λ(V:H) (h:Bl W0 V) (v4:M) (g4:Jw V v4 (p.num*(q.den:Int))) (v9:M) (d:Jw V v9 ((p.den:Int)*q.num))=>(by have h:=KF _ _ (p.num*(q.den:Int)) ((p.den:Int)*q.num) V g4 d (AV (by have:=p.den_nz;omega) λh=>Qp.o (C4.1 h)) (f.o.cross g.o) (f.o.cross2 g.o);rw[Oe]at h;exact h);have co:w.heap.size≠w.heap.size+1+1:=c.o.ne 0 2 J J DK;have de:w.heap.size+1≠w.heap.size+1+1:=c.o.ne 1 2 J J DK;have hq:Bl W0 W0.drew:=(BA _ W0).drew;go_region_held3 (λa=>a.cell? ⟨w.heap.size,0,none⟩=some (C a1 l1 c1)/\a.cell? ⟨w.heap.size,1,none⟩=some (F s1)/\a.cell? ⟨w.heap.size,2,none⟩=some (C b1 k1 d1)/\a.cell? ⟨w.heap.size,3,none⟩=some (F t1)/\a.cell? ⟨w.heap.size+1,0,none⟩=some (C a2 l2 c2)/\a.cell? ⟨w.heap.size+1,1,none⟩=some (F s2)/\a.cell? ⟨w.heap.size+1,2,none⟩=some (C b2 k2 d2)/\a.cell? ⟨w.heap.size+1,3,none⟩=some (F t2)) (first|(with_reducible exact⟨l,n,r,t,m,k,j,y⟩)|(go_keep;done)|(refine⟨?_,?_,?_,?_,?_,?_,?_,?_⟩<;>((repeat rw[JF O]);first|assumption|(go_keep;done))))
  (first
   |(go_at_call 97;refine(W.o _ hq ).mono ?_;clear W;rintro e w4 ⟨v4,rfl,g4,ay⟩;have hq:=Bt hq ay;obtain⟨l,n,r,t⟩:=(A.below hq).cq;obtain⟨m,k,j,y⟩:=(B.below hq).cq;obtain⟨s,o,z,x⟩:=(b.below hq).cq;obtain⟨K,I,E,D⟩:=(b.below hq).fq)
   |(go_at_call 97;refine(X.o _ hq ).mono ?_;clear X;rintro e w9 ⟨v9,rfl,d,ah⟩;have g4:=g4.below ah;have hq:=Bt hq ah;obtain⟨l,n,r,t⟩:=(A.below hq).cq;obtain⟨m,k,j,y⟩:=(B.below hq).cq;obtain⟨s,o,z,x⟩:=(b.below hq).cq;obtain⟨K,I,E,D⟩:=(b.below hq).fq)
   |(go_at_call 95;refine(Qt.o _ hq _ g4 _ d).mono ?_;clear Qt;rintro e dt ⟨dm,rfl,ae,U⟩;obtain⟨am,bc,ap,bf,an,az,aq,bg,rfl⟩:=Jk.form ae;have g4:=g4.below U;have d:=d.below U;have hq:=Bt hq U;obtain⟨l,n,r,t⟩:=(A.below hq).cq;obtain⟨m,k,j,y⟩:=(B.below hq).cq;obtain⟨s,o,z,x⟩:=(b.below hq).cq;obtain⟨K,I,E,D⟩:=(b.below hq).fq))
 all_goals go_wp2_with fail
 have Qv:=Bt c.o.2.2 hq;have Qu:=c.o.ge 2 J;exact A0 (v:=S #[C am bc ap,F bf,C an az aq,F bg]) (by simp[results,results158,go_sem,s,o,z,x]) J ⟨_,J,ae.put4 (b.below hq) J J J J _ _ _ _,Jn Qv Qu _ _ _ _⟩
def fO(U W:M)(p q:Rat)(w:H)(v:Jk w U p)(x:Jk w W q)(K:Sq p)(R:Sq q):
 Q L 60 #[U,W] w λe a=>e=.returned (N P (XN (p.num*(q.den:Int)) (q.num*(p.den:Int))))/\Bl w a:=by
 obtain⟨n,z⟩:=ex (XN (p.num*(q.den:Int)) (q.num*(p.den:Int)));have X:=Y z;rw[z];clear z;obtain⟨ae,az,ak,bf,ai,aq,an,bh,rfl⟩:=Jk.form v;obtain⟨ah,bc,am,bg,aj,ay,ap,bi,rfl⟩:=Jk.form x;obtain⟨W0,D,u⟩:=Kf 47 (.ref p) v 47 (.ref q) x;have c:=Y K;have d:=Y R;clear v x K R;go_enter func60,ntmps60
 go_upto_region 1 with fail
 rw[D.o];clear D;obtain⟨a1,l1,c1,s1,b1,k1,d1,t1,s,r1,i1,j1⟩:=u.o.ref (i:=0) J;obtain⟨r,g,l,o⟩:=s.cq;obtain⟨a2,l2,c2,s2,b2,k2,d2,t2,t,r2,i2,j2⟩:=u.o.ref (i:=1) J;obtain⟨f,j,m,k⟩:=t.cq;obtain⟨A,B,E⟩:=DX (λ(V:H) (h:Bl W0 V)=>XG _ _ (p.num) ((q.den:Int)) V (i1.below h) (j2.below h) (by have:=c.o.num.size;omega) (by have:=d.o.den.size;omega)) (λ(V:H) (h:Bl W0 V)=>XG _ _ (q.num) ((p.den:Int)) V (i2.below h) (j1.below h) (by have:=d.o.num.size;omega) (by have:=c.o.den.size;omega)) λ(V:H) (h:Bl W0 V) (v4:M) (g4:Jw V v4 (p.num*(q.den:Int))) (T:M) (b:Jw V T (q.num*(p.den:Int)))=>(by have h:=dF _ _ (p.num*(q.den:Int)) (q.num*(p.den:Int)) V g4 b (by have:=(c.o.cross d.o).size;omega) (by have:=(d.o.cross c.o).size;omega);rw[X.o]at h;exact h);have hq:Bl W0 W0.drew:=(BA _ W0).drew;go_region_held3 (λa=>a.cell? ⟨w.heap.size,0,none⟩=some (C a1 l1 c1)/\a.cell? ⟨w.heap.size,1,none⟩=some (F s1)/\a.cell? ⟨w.heap.size,2,none⟩=some (C b1 k1 d1)/\a.cell? ⟨w.heap.size,3,none⟩=some (F t1)/\a.cell? ⟨w.heap.size+1,0,none⟩=some (C a2 l2 c2)/\a.cell? ⟨w.heap.size+1,1,none⟩=some (F s2)/\a.cell? ⟨w.heap.size+1,2,none⟩=some (C b2 k2 d2)/\a.cell? ⟨w.heap.size+1,3,none⟩=some (F t2)) (first|(with_reducible exact⟨r,g,l,o,f,j,m,k⟩)|(go_keep;done)|(refine⟨?_,?_,?_,?_,?_,?_,?_,?_⟩<;>((repeat rw[JF O]);first|assumption|(go_keep;done))))
  (first
   |(go_at_call 97;refine(A.o _ hq ).mono ?_;clear A;rintro e w4 ⟨v4,rfl,g4,ad⟩;have hq:=Bt hq ad;obtain⟨r,g,l,o⟩:=(s.below hq).cq;obtain⟨f,j,m,k⟩:=(t.below hq).cq)
   |(go_at_call 97;refine(B.o _ hq ).mono ?_;clear B;rintro e w9 ⟨T,rfl,b,I⟩;have g4:=g4.below I;have hq:=Bt hq I;obtain⟨r,g,l,o⟩:=(s.below hq).cq;obtain⟨f,j,m,k⟩:=(t.below hq).cq)
   |(go_at_call 118;refine(E.o _ hq _ g4 _ b).mono ?_;clear E;rintro e bj ⟨rfl,y⟩;have g4:=g4.below y;have b:=b.below y;have hq:=Bt hq y;obtain⟨r,g,l,o⟩:=(s.below hq).cq;obtain⟨f,j,m,k⟩:=(t.below hq).cq))
 all_goals go_wp2_with fail
 go_ret;exact⟨J,Bt u.o.2.2 hq⟩
def fP(I:M)(q:Rat)(w:H)(f:Jk w I q):
 Q L 157 #[I] w λe a=>∃u,e=.returned u/\Jk a u (-q)/\Bl w a:=by
 obtain⟨ae,am,ai,ap,ah,ak,aj,aq,rfl⟩:=Jk.form f;obtain⟨W0,l,b⟩:=Kf 47 (.ref q) f 47 (.zref) J;clear f;go_enter func157,ntmps157
 go_upto_region 1 with fail
 rw[l.o];clear l;obtain⟨a1,l1,c1,s1,d,g,d1,j,D,r1,i1,j1⟩:=b.o.ref (i:=0) J;obtain⟨x,n,r,t⟩:=D.cq;have c:=b.o.zref (i:=1) J;obtain⟨m,o,s,p⟩:=c.cq;obtain⟨T,R,W,U⟩:=c.fq;have k:=Y λ(V:H) (h:Bl W0 V)=>Oa _ q.num V (i1.below h);have an:w.heap.size≠w.heap.size+1:=b.o.ne 0 1 J J DK;have hq:Bl W0 W0.drew:=(BA _ W0).drew;go_region_held3 (λa=>a.cell? ⟨w.heap.size,0,none⟩=some (C a1 l1 c1)/\a.cell? ⟨w.heap.size,1,none⟩=some (F s1)/\a.cell? ⟨w.heap.size,2,none⟩=some (C d g d1)/\a.cell? ⟨w.heap.size,3,none⟩=some (F j)) (first|(with_reducible exact⟨x,n,r,t⟩)|(go_keep;done)|(refine⟨?_,?_,?_,?_⟩<;>((repeat rw[JF O]);first|assumption|(go_keep;done))))
  (first
   |(go_at_call 142;refine(k.o _ hq ).mono ?_;clear k;rintro e w2 ⟨v2,rfl,A,ad⟩;obtain⟨y,B,z,E,rfl⟩:=Jw.form2 A;have hq:=Bt hq ad;obtain⟨x,n,r,t⟩:=(D.below hq).cq;obtain⟨m,o,s,p⟩:=(c.below hq).cq;obtain⟨T,R,W,U⟩:=(c.below hq).fq))
 all_goals go_wp2_with fail
 have hr:Jk w2 (S #[C y B z,F E,C d g d1,F j]) (-q):=Jk.mk A (j1.below hq);have X:=Bt b.o.2.2 hq;have K:=b.o.ge 1 J;exact A0 (v:=S #[C y B z,F E,C d g d1,F j]) (by simp[results,results157,go_sem,m,o,s,p]) J ⟨_,J,hr.put4 (c.below hq) J J J J _ _ _ _,Jn X K _ _ _ _⟩
def Li(g:M)(q:Rat)(w:H)(b:Jk w g q):
 Q L 58 #[g] w λe m=>e=.returned (N P q.num.sign)/\Bl w m:=by
 obtain⟨n,c⟩:=ex (q.num.sign);rw[c];have j:=Y c;clear c;obtain⟨p,E,t,K,s,D,u,T,rfl⟩:=Jk.form b;obtain⟨W0,d,f⟩:=Jx 47 (.ref q) b;clear b;go_enter func58,ntmps58
 go_upto_region 1 with fail
 rw[d.o];clear d;obtain⟨o,l1,c1,I,r,B,d1,R,l,r1,k,A⟩:=f.o.ref (i:=0) J;obtain⟨v,x,y,z⟩:=l.cq;have a:=Y (TV _ q.num W0 k);rw[j.o]at a;go_wp2_with(go_at_call 115;refine a.o.mono ?_;clear a;rintro e U ⟨rfl,hq⟩)
 go_ret;exact⟨J,Bt f.o.2.2 hq⟩
def YD(n:Int)(q:-9223372036854775808<=n)(r:n<=9223372036854775807)(w:H):
 Q L 41 #[N P n] w λe D=>∃u,e=.returned u/\Jk D u (n:Rat)/\Bl w D:=by
 have c:=Y λ(V:H)=>Hb n q r V;clear q r;obtain⟨W0,d,b⟩:=Jx 47 (.zref) J;go_enter func41,ntmps41
 go_upto_region 1 with fail
 rw[d.o];clear d;have a:=b.o.zref (i:=0) J;obtain⟨k,f,g,j⟩:=a.cq;obtain⟨I,K,T,R⟩:=a.fq;go_wp2_with(first
  |(go_at_call 94;refine(c.o _).mono ?_;clear c;rintro e w1 ⟨u1,rfl,t,W⟩;obtain⟨l,y,o,A,rfl⟩:=Jw.form2 t)
  |(go_at_call 94;refine(Hb 1 O O _).mono ?_;rintro e w2 ⟨u2,rfl,x,s⟩;obtain⟨m,z,p,B,rfl⟩:=Jw.form2 x;have hq:=Bt W s;obtain⟨k,f,g,j⟩:=(a.below hq).cq;obtain⟨I,K,T,R⟩:=(a.below hq).fq))
 have X:Jk w2 (S #[C l y o,F A,C m z p,F B]) (n:Rat):=Jk.mk (t.below s) x;have U:=Bt b.o.2.2 hq;have E:=b.o.ge 0 J;exact A0 (v:=S #[C l y o,F A,C m z p,F B]) (by simp[results,results41,go_sem,k,f,g,j]) J ⟨_,J,X.put4 (a.below hq) J J J J _ _ _ _,Jn U E _ _ _ _⟩
end
section
variable{qs:Ja}
def RowK.formsF{W:H}{a:nJ}{l cap:Nat}(h:RowK false W (C a l cap) qs):l=qs.length/\l<=cap/\cap<=9223372036854775807/\l<=1099511627776/\∃(s t:Nat->Bool) (k m:Nat->nJ) (ll n o dd:Nat->Nat),∀j,j<l->Jk W (S #[C (k j) (ll j) (n j),F (s j),C (m j) (o j) (dd j),F (t j)]) (cf qs j)/\
 ∃b,a=some ⟨b,0,none⟩/\b<W.heap.size/\W.cell? ⟨b,j*4,none⟩=some (C (k j) (ll j) (n j))/\W.cell? ⟨b,j*4+1,none⟩=some (F (s j))/\W.cell? ⟨b,j*4+2,none⟩=some (C (m j) (o j) (dd j))/\W.cell? ⟨b,j*4+3,none⟩=some (F (t j)):=by
 obtain⟨q,r,v,w,x,y,z,u,B⟩:=h.pick;refine⟨q,r,v,w,λj=>NC (y j),λj=>NC (u j),λj=>ND (x j),λj=>ND (z j),λj=>Ht (x j),λj=>NE (x j),λj=>Ht (z j),λj=>NE (z j),λj D=>?_⟩;obtain⟨i,b,p,A,c0,c1,c2,c3⟩:=B j D;obtain⟨a',l',c',s,E,K,I,t,e,_⟩:=(show Jk W _ _ from i);simp only[Value.agg.injEq,Array.mk.injEq,List.cons.injEq,and_true]at e;obtain⟨c,d,f,g⟩:=e;rw[c,d,f,g]at i;rw[c]at c0;rw[d]at c1;rw[f]at c2;rw[g]at c3;dsimp only;rw[c,d,f,g];exact⟨i,b,p,A,c0,c1,c2,c3⟩
def sign_zero(q:Rat):(q.num.sign==0)=decide (q=0):=by
 rw[CH,beq_iff_eq,BW,Int.sign_eq_zero_iff_zero,C4]
def TX{len k:Nat}(hl:len=qs.length)(c:k<=len)(a:∀j,k<=j->cf qs j=0)(b:k=0\/cf qs (k-1)≠0):Jc qs=qs.take k/\(Jc qs).length=k:=by
 have e:=Q4 (p:=qs) (n:=k) O b a;exact⟨e,by rw[e,Ai];omega⟩
def fQ(a:nJ)(len cap:Nat)(qs:Ja)(w:H)(h:RowK false w (C a len cap) qs):
 Q L 44 #[C a len cap] w λe R=>e=.returned (C a (Jc qs).length cap)/\RowK false R (C a (Jc qs).length cap) (Jc qs)/\Bl w R:=by
 obtain⟨hl,ad,ae,ah,s,t,X,bb,ll,cc,kk,dd,A⟩:=h.formsF;obtain⟨o,T,x⟩:=DX hl A h;clear A hl h;go_enter func44,ntmps44
 go_wp2;go_loopw [3] (λv wr=>∃k:Nat,k<=len/\v=N P (k:Int)/\Hid ((∀j,k<=j->cf qs j=0)/\Bl w wr)) λv _=>(intOf v).toNat
 case atStart=>exact⟨len,Aa _,J,Y ⟨λj U=>JZ (by have:=o.o;omega),BA _ _⟩⟩
 case round=>
  obtain⟨k,hk,rfl,c⟩:=hrel;cases k with
  |zero=>
   go_wp2;go_ret;obtain⟨r,g⟩:=TX o.o (k:=0) (Ap _) c.o.1 (An J);refine⟨by rw[g];rfl,?_,c.o.2⟩;rw[g,r];exact(x.o.below c.o.2).take O
  |succ k=>
   obtain⟨B,b,rfl,l,D,E,I,K⟩:=T.o k O;have d:=c.o.2;have y:=Y (B.below d);replace D:=(d.cell (p:=⟨b,_,none⟩) l).trans D;replace E:=(d.cell (p:=⟨b,_,none⟩) l).trans E;replace I:=(d.cell (p:=⟨b,_,none⟩) l).trans I;replace K:=(d.cell (p:=⟨b,_,none⟩) l).trans K;have i:=Y (Li _ _ wr y.o);have m:=sign_zero (cf qs k);clear B d y;by_cases f:cf qs k=0
   . rw[show decide (cf qs k=0)=true from BH f]at m;have q:=Y f;clear f;generalize (cf qs k).num.sign=n at i m;go_wp2_with(go_at_call 58;refine i.o.mono ?_;rintro e W ⟨rfl,u⟩)
     go_roundw
     case rel=>
      refine⟨k,O,DG,Y ⟨λj U=>?_,Bt c.o.2 u⟩⟩;by_cases V:j=k
      . rw[V];exact q.o
      . exact c.o.1 j O
     case measure=>simp[intOf]
   . rw[show decide (cf qs k=0)=false from BE f]at m;have q:=Y f;clear f;generalize (cf qs k).num.sign=n at i m;go_wp2_with(go_at_call 58;refine i.o.mono ?_;rintro e W ⟨rfl,u⟩)
     go_ret;have z:=Bt c.o.2 u;obtain⟨r,g⟩:=TX o.o (k:=k+1) O c.o.1 (Au q.o);refine⟨by rw[g];rfl,?_,z⟩;rw[g,r];exact(x.o.below z).take O
def Ks(v:M)(qs:Ja)(w:H)(h:RowK false w v qs):
 Q L 44 #[v] w λe b=>∃u,e=.returned u/\RowK false b u (Jc qs)/\Bl w b:=by
 obtain⟨a,l,c,rfl⟩:=h.form;refine(fQ a l c qs w h).mono ?_;rintro e b ⟨rfl,d,f⟩;exact⟨_,J,d,f⟩
def Pb{W:H}{B:Nat}(q:JB W B 47 (C none 0 0) (F false) (C none 0 0) (F false)){v:M}{p:Rat}(h:Jk W v p)(x y z u:M):Jk (put4 W B x y z u) v p:=h.put4 q J J J J _ _ _ _
def TY(v:M)(qs:Ja)(i:Int)(w:H)(h:RowK false w v qs):
 Q L 151 #[v,N P i] w λe E=>∃u,e=.returned u/\Jk E u (if i<0 then 0 else cf qs i.toNat)/\Bl w E:=by
 obtain⟨a,l,c,rfl⟩:=h.form;obtain⟨hl,am,an,ap,s,t,U,X,ll,cc,kk,dd,B⟩:=h.formsF;have K:=Y hl;have o:=Y B;clear hl B h;have n:Bl w (w.alloc (G #[C none 0 0,F false,C none 0 0,F false] 47)):=Ba w _;have b0:=JB.new w 47 (C none 0 0) (F false) (C none 0 0) (F false);have g:=Y λ(V:H)=>YD 0 O O V;by_cases d:i<0\/(l:Int)<=i
 . have R:=Y (show(if i<0 then(0:Rat)else cf qs i.toNat)=((0:Int):Rat)by
    rcases d with d|d
    . rw[BG d];rfl
    . rw[BD O,JZ (by have:=K.o;omega)];rfl)
   rw[R.o];obtain⟨W0,q⟩:=ex (w.alloc (G #[C none 0 0,F false,C none 0 0,F false] 47));rw[q]at n b0;have A:=Y q;clear q o;rcases d with d|d
   . go_enter func151,ntmps151
     go_upto_region 1 with fail
     rw[A.o];go_wp2_with(go_at_call 41;refine(g.o _).mono ?_;clear g;rintro e w1 ⟨u,rfl,k,j⟩;have f:=b0.below j;obtain⟨r,x,y,z⟩:=f.cq;obtain⟨f0,f1,f2,f3⟩:=f.fq;obtain⟨T,ai,ad,aj,W,ah,ae,ak,rfl⟩:=Jk.form k)
     exact A0 (by simp[results,results151,go_sem,r,x,y,z]) J ⟨_,J,Pb f k _ _ _ _,Jn (Bt n j) (Aa _) _ _ _ _⟩
   . have p:¬i<0:=O
     go_enter func151,ntmps151
     go_upto_region 1 with fail
     rw[A.o];go_wp2_with(go_at_call 41;refine(g.o _).mono ?_;clear g;rintro e w1 ⟨u,rfl,k,j⟩;have f:=b0.below j;obtain⟨r,x,y,z⟩:=f.cq;obtain⟨f0,f1,f2,f3⟩:=f.fq;obtain⟨T,ai,ad,aj,W,ah,ae,ak,rfl⟩:=Jk.form k)
     exact A0 (by simp[results,results151,go_sem,r,x,y,z]) J ⟨_,J,Pb f k _ _ _ _,Jn (Bt n j) (Aa _) _ _ _ _⟩
 . have p:¬i<0:=O
   rw[BD p];obtain⟨m,rfl⟩:∃m:Nat,i=(m:Int):=⟨i.toNat,O⟩;have hm:m<l:=O
   obtain⟨D,b,rfl,hb,k0,k1,k2,k3⟩:=o.o m hm;have I:=Y D;rw[CE];clear o D p d g b0 n;generalize s m=s1 at *;generalize t m=t1 at *;generalize U m=a1 at *;generalize X m=b1 at *;generalize ll m=l1 at *;generalize cc m=c1 at *;generalize kk m=k1 at *;generalize dd m=d1 at *;go_enter func151,ntmps151
   go_wp2;exact A0 (by simp[results,results151,go_sem]) J ⟨_,J,I.o.below (Ba w _),Ba w _⟩
def XH(f:Nat->Rat)(k:Nat):Ja:=(List.range k).map f
def JM(f:Nat->Rat)(k:Nat):(XH f k).length=k:=by simp[XH]
def Y8(f:Nat->Rat)(k:Nat):XH f (k+1)=XH f k++[f k]:=by simp[XH,List.range_succ]
def Lj(f:Nat->Rat)(k i:Nat):cf (XH f k) i=if i<k then f i else 0:=MF k f i
theorem Pc(va vb:M)(ps qs:Ja)(w:H)(K:RowK false w va ps)(R:RowK false w vb qs)(aj:Sqs ps)(ak:Sqs qs)(bg:ps.length<1099511627776/\qs.length<1099511627776):
 Q L 101 #[va,vb] w λe w'=>∃u,e=.returned u/\RowK false w' u (Xc ps qs)/\Bl w w':=by
 obtain⟨a,la,ca,rfl⟩:=K.form;obtain⟨b,lb,cb,rfl⟩:=R.form;obtain⟨ah,ay,bc,bu,_⟩:=K.formsF;obtain⟨ai,az,bf,ce,_⟩:=R.formsF;obtain⟨n,hn⟩:=ex (max la lb:Nat);obtain⟨r,HA,HB,HP,HQ,Qm,Ql⟩:=LQ (show la<=n/\lb<=n/\n<1099511627776/\(∀k,k<n->k<la\/k<lb)from⟨O,O,O,λk hk=>by omega⟩) K R aj ak ah ai;clear K R aj ak ah ai ay bc az bf hn bg;go_enter func101,ntmps101
 go_wp2;go_loopw [5,6] (λo i wr=>∃k:Nat,k<=n/\i=N P (k:Int)/\(∃oa oc,o=C oa k oc)/\Hid (EF false w.heap.size wr o (XH (λi=>cf ps i+cf qs i) k)/\Bl w wr)) λ_ i _=>n-(intOf i).toNat
 case atStart=>exact⟨0,Ap _,J,⟨_,_,J⟩,Y ⟨EF.nil _ _ _,BA _ _⟩⟩
 case round=>
  obtain⟨k,hk,rfl,⟨oa,oc,rfl⟩,d⟩:=hrel;by_cases bh:k<n
  . have x:=Y (TY _ ps (k:Int) wr (HA.o.below d.o.2));have t:=Y λ(V:H) (h:Bl wr V)=>TY _ qs (k:Int) V ((HB.o.below d.o.2).below h);rw[BD O,CE]at x;rw[show(if(k:Int)<0 then(0:Rat)else cf qs ((k:Int)).toNat)=cf qs k from by rw[BD O,CE]]at t;have I:=Y λ(V:H) (u v:M) (hu:Jk V u (cf ps k)) (hv:Jk V v (cf qs k))=>PZ u v (cf ps k) (cf qs k) V hu hv (HP.o.at k) (HQ.o.at k);have Qj:=r.o.2.2.2 k bh;have HK:=Y (show k+1<=1099511627776 by have:=r.o.2.2.1;omega);by_cases bn:(k:Int)<(la:Int)
    all_goals
     have Qk:(k:Int)<(la:Int)\/(k:Int)<(lb:Int):=O
    . clear Qj Qk;go_wp2_with(first
       |(go_at_call 151;refine x.o.mono ?_;clear x;rintro e w1 ⟨u1,rfl,c,l⟩;have f:=l)
       |(go_at_call 151;refine(t.o _ f).mono ?_;clear t;rintro e w2 ⟨u2,rfl,E,m⟩;have c:=c.below m;have y:=Bt f m;clear f)
       |(go_at_call 42;refine(I.o _ _ _ c E).mono ?_;clear I;rintro e w3 ⟨u3,rfl,q,A⟩;have g:=Bt y A;clear y c E l m A;obtain⟨am,bj,ap,bk,an,bi,aq,bm,rfl⟩:=Jk.form q;obtain⟨v9,w9,ad,D,ae,B⟩:=X2 false w.heap.size w3 _ _ (d.o.1.below g) q (by rw[JM];exact HK.o) (by have:=d.o.2.size;have:=g.size;omega);have s:=Y D;have U:=Y (B w.heap.size w (Aa _) (Bt d.o.2 g));clear D ae B q)
       |(at_builtin;refine BS _ J _ _ 29 29 J _ _ J J _ _ ad ?_))
      obtain⟨W,X,z,_⟩:=s.o.form;go_roundw
      case rel=>
       refine⟨k+1,O,by go_num,⟨W,X,?_⟩,Y ⟨?_,U.o⟩⟩
       . rw[<-Y8,JM]at z;exact z
       . rw[Y8];exact s.o
      case measure=>simp[intOf];omega
    . have bt:(k:Int)<(lb:Int):=O
      clear Qj Qk;go_wp2_with(first
       |(go_at_call 151;refine x.o.mono ?_;clear x;rintro e w1 ⟨u1,rfl,c,l⟩;have f:=l)
       |(go_at_call 151;refine(t.o _ f).mono ?_;clear t;rintro e w2 ⟨u2,rfl,E,m⟩;have c:=c.below m;have y:=Bt f m;clear f)
       |(go_at_call 42;refine(I.o _ _ _ c E).mono ?_;clear I;rintro e w3 ⟨u3,rfl,q,A⟩;have g:=Bt y A;clear y c E l m A;obtain⟨am,bj,ap,bk,an,bi,aq,bm,rfl⟩:=Jk.form q;obtain⟨v9,w9,ad,D,ae,B⟩:=X2 false w.heap.size w3 _ _ (d.o.1.below g) q (by rw[JM];exact HK.o) (by have:=d.o.2.size;have:=g.size;omega);have s:=Y D;have U:=Y (B w.heap.size w (Aa _) (Bt d.o.2 g));clear D ae B q)
       |(at_builtin;refine BS _ J _ _ 29 29 J _ _ J J _ _ ad ?_))
      obtain⟨W,X,z,_⟩:=s.o.form;go_roundw
      case rel=>
       refine⟨k+1,O,by go_num,⟨W,X,?_⟩,Y ⟨?_,U.o⟩⟩
       . rw[<-Y8,JM]at z;exact z
       . rw[Y8];exact s.o
      case measure=>simp[intOf];omega
  . have h1:¬(k:Int)<(la:Int):=by have:=r.o.1;omega
    have h2:¬(k:Int)<(lb:Int):=by have:=r.o.2.1;omega
    have T:=Y λ(V:H) (h:Bl wr V)=>Ks _ _ V ((d.o.1.below h).row (by rw[JM];have:=r.o.2.2.1;omega));have HE:=Y (show Jc (XH (λi=>cf ps i+cf qs i) k)=Xc ps qs from YL λj=>by
     rw[Lj,XL];split
     . rfl
     . have:=r.o;have g1:=Qm.o;have g2:=Ql.o;rw[JZ (p:=ps) O,JZ (p:=qs) O];grind)
    rw[HE.o]at T;go_wp2_with(go_at_call 44;refine(T.o _ (BA _ _)).mono ?_;clear T;rintro e w1 ⟨u1,rfl,c,l⟩;obtain⟨a8,l8,c8,rfl⟩:=c.form)
    go_ret;exact⟨_,J,c,Bt d.o.2 l⟩
def E0(r:Bool)(W0:H)(V:H)(o:M)(qs:Ja):Prop:=EF r W0.heap.size V o qs/\Bl W0 V
def E0.below{r:Bool}{W0 V V':H}{o:M}{qs:Ja}(h:E0 r W0 V o qs)(a:Bl V V'):E0 r W0 V' o qs:=⟨h.1.below a,Bt h.2 a⟩
theorem NQ(va vq:M)(ps:Ja)(q:Rat)(w:H)(ha:RowK false w va ps)(hq:Jk w vq q)(ap:Sqs ps)(aq:Sq q)(am:ps.length<1099511627776):
 Q L 111 #[va,vq] w λe w'=>∃u,e=.returned u/\RowK false w' u (Jc (Yv q ps))/\Bl w w':=by
 obtain⟨a,la,ca,rfl⟩:=ha.form;obtain⟨a8,l8,c8,s8,b8,k8,d8,t8,rfl⟩:=Jk.form hq;obtain⟨ak,bf,bg,bn,s,t,aa,bb,ll,cc,kk,dd,hc⟩:=ha.formsF;have b0:=JB.new w 47 (C a8 l8 c8) (F s8) (C b8 k8 d8) (F t8);have Qf:Bl w (w.alloc (G #[C a8 l8 c8,F s8,C b8 k8 d8,F t8] 47)):=Ba w _;obtain⟨W0,ai⟩:=ex (w.alloc (G #[C a8 l8 c8,F s8,C b8 k8 d8,F t8] 47));rw[ai]at Qf b0;obtain⟨Qj,HA,HQ,HP,Qi,Qh,Qd,Qo⟩:=FZ ai hc (hq.below Qf) ap aq ak Qf b0;have Ql:=Y am;clear ha hq ap aq ak bf bg hc ai am b0 Qf;go_enter func111,ntmps111
 go_upto_region 1 with fail
 rw[Qj.o];go_wp2;go_loopw [5,6] (λo i wr=>∃k:Nat,k<=la/\i=N P (k:Int)/\(∃R T,o=C R k T)/\Hid (E0 false W0 wr o (XH (λi=>cf ps i*q) k))) λ_ i _=>la-(intOf i).toNat
 case atStart=>exact⟨0,Ap _,J,⟨_,_,J⟩,Y ⟨EF.nil _ _ _,BA _ _⟩⟩
 case round=>
  obtain⟨k,hk,rfl,⟨R,T,rfl⟩,HR⟩:=hrel;by_cases bh:k<la
  . have bt:(k:Int)<(la:Int):=O
    obtain⟨I,b,rfl,hb,c0,c1,c2,c3⟩:=HA.o k bh;have Qn:=Y (show ∀V,Bl W0 V->(V.cell? ⟨b,k*4,none⟩=some (C (aa k) (ll k) (cc k))/\V.cell? ⟨b,k*4+1,none⟩=some (F (s k))/\V.cell? ⟨b,k*4+2,none⟩=some (C (bb k) (kk k) (dd k))/\V.cell? ⟨b,k*4+3,none⟩=some (F (t k)))/\Jk V (S #[C (aa k) (ll k) (cc k),F (s k),C (bb k) (kk k) (dd k),F (t k)]) (cf ps k)from λV h=>by
     have X:=Bt Qd.o h;exact⟨⟨(X.cell (p:=⟨b,_,none⟩) hb).trans c0,(X.cell (p:=⟨b,_,none⟩) hb).trans c1,(X.cell (p:=⟨b,_,none⟩) hb).trans c2,(X.cell (p:=⟨b,_,none⟩) hb).trans c3⟩,I.below X⟩)
    have HK:=Y (show k+1<=1099511627776 by have:=Ql.o;have:=Qh.o;omega);clear I c0 c1 c2 c3 hb;go_wp2_with fail
    have Qm:=HR.o.below ((BA _ wr).drew);refine J6 Dl [[],[],[],[1,2],[3],[],[4,5],[6],[0,7,6],[8,8,0,1,2,3,4,5,6,7,8]] nK DK
     (λD ae V=>∃(ta tb tc td te tg ti tj U tl:M),ae={ tmps:=#[C (some ⟨b,0,none⟩) la ca,S #[C a8 l8 c8,F s8,C b8 k8 d8,F t8],undef,.pointer (some ⟨w.heap.size,0,none⟩),C none 0 0,tl,N P ↑k,N P ↑k,C (some ⟨b,0,none⟩) la ca,N P ↑la,F true,u11,u12,ta,tb,tc,td,te,tg,ti,tj,U,undef,undef],defers:=[] }/\Hid ((D 0=true->ta=C R k T)/\(D 1=true->tb=C (some ⟨b,0,none⟩) la ca)/\(D 2=true->tc=N P (k:Int))/\(D 3=true->td=.pointer (some ⟨b,k*4,none⟩))/\(D 4=true->D 8=false->Jk V te (cf ps k))/\(D 5=true->D 8=false->Jk V tg q)/\(D 6=true->D 8=false->Jk V ti (cf ps k*q))/\(D 7=true->∃a l c,tj=C a l c)/\(D 8=true->∃a l c,U=C a l c)/\((D 9=false->tl=Value.slice R k T)/\(D 9=true->tl=U)))/\Hid ((D 7=false->E0 false W0 V (C R k T) (XH (λi=>cf ps i*q) k))/\(D 7=true->D 8=false->∃(E:H) (x y z u:M),V=E.alloc (G #[x,y,z,u] (Dn false))/\(E0 false W0 E (C R k T) (XH (λi=>cf ps i*q) k))/\Dr false E (S #[x,y,z,u]) (cf ps k*q)/\tj=C (some ⟨E.heap.size,0,none⟩) 1 1)/\(D 8=true->E0 false W0 V U (XH (λi=>cf ps i*q) k++[cf ps k*q]))))
     (E8 ⟨_,_,J,Y ⟨DG,DG,DG,DG,DG,DG,DG,DG,DG,⟨λ_=>rfl,DG⟩⟩,Y ⟨λ_=>Qm,DG,DG⟩⟩) ?step1 ?fin1
    case step1=>
     rintro D ae V i ds f I m n ⟨ta,tb,tc,td,te,tg,ti,tj,U,tl,rfl,d,A⟩;have bk:i<10:=(Aq.1 I).1;obtain rfl|rfl|rfl|rfl|rfl|rfl|rfl|rfl|rfl|rfl:=Nw i O
     all_goals
      simp only[AO,AJ,AX]at I;subst I
     . have r:D 8=false:=DN f n;have Qe:D 9=false:=DN f n;obtain rfl:=EM d Qe;clear m;refine Da ?_;exact⟨(Oi (GH d) ⟨λ_=>rfl,λh=>by simp[Qe]at h⟩),Y ⟨λh=>A.o.1 (by simpa using h),λh B=>A.o.2.1 (by simpa using h) (by simpa using B),λh=>A.o.2.2 (by simpa using h)⟩⟩
     . have r:D 8=false:=DN f (DN (a:=7) f (DN (a:=6) f (DN (a:=4) f (DN (a:=3) f n))));have v:D 7=false:=DN f (DN (a:=6) f (DN (a:=4) f (DN (a:=3) f n)));have g:=A.o.1 v;clear m;refine Da ?_;exact⟨Y ⟨d.o.1,λ_=>rfl,d.o.2.2.1,d.o.2.2.2.1,d.o.2.2.2.2.1,(EH d),(ER d),(Ec d),(Ed d),⟨λh=>(EM d) (by simpa using h),λh=>d.o.2.2.2.2.2.2.2.2.2.2 (by simpa using h)⟩⟩,Y ⟨λ_=>g,λh=>by simp[v]at h,λh=>by simp[r]at h⟩⟩
     . have r:D 8=false:=DN f (DN (a:=7) f (DN (a:=6) f (DN (a:=4) f (DN (a:=3) f n))));have v:D 7=false:=DN f (DN (a:=6) f (DN (a:=4) f (DN (a:=3) f n)));have g:=A.o.1 v;clear m;refine Da ?_;exact⟨Y ⟨d.o.1,d.o.2.1,λ_=>rfl,d.o.2.2.2.1,d.o.2.2.2.2.1,(EH d),(ER d),(Ec d),(Ed d),⟨λh=>(EM d) (by simpa using h),λh=>d.o.2.2.2.2.2.2.2.2.2.2 (by simpa using h)⟩⟩,Y ⟨λ_=>g,λh=>by simp[v]at h,λh=>by simp[r]at h⟩⟩
     . have r:D 8=false:=DN f (DN (a:=7) f (DN (a:=6) f (DN (a:=4) f n)));have v:D 7=false:=DN f (DN (a:=6) f (DN (a:=4) f n));have g:=A.o.1 v;obtain rfl:=d.o.2.1 (m 1 DG);obtain rfl:=d.o.2.2.1 (m 2 DG);clear m;refine Da ?_;exact⟨Y ⟨d.o.1,λ_=>rfl,λ_=>rfl,λ_=>rfl,d.o.2.2.2.2.1,(EH d),(ER d),(Ec d),(Ed d),⟨λh=>(EM d) (by simpa using h),λh=>d.o.2.2.2.2.2.2.2.2.2.2 (by simpa using h)⟩⟩,Y ⟨λ_=>g,λh=>by simp[v]at h,λh=>by simp[r]at h⟩⟩
     . have r:D 8=false:=DN f (DN (a:=7) f (DN (a:=6) f n));have v:D 7=false:=DN f (DN (a:=6) f n);have g:=A.o.1 v;obtain rfl:=d.o.2.2.2.1 (m 3 DG);obtain⟨⟨e0,e1,e2,e3⟩,hr⟩:=Qn.o V g.2;clear m;refine Da ?_;exact⟨Y ⟨d.o.1,d.o.2.1,d.o.2.2.1,λ_=>rfl,λ_ _=>hr,(EH d),(ER d),(Ec d),(Ed d),⟨λh=>(EM d) (by simpa using h),λh=>d.o.2.2.2.2.2.2.2.2.2.2 (by simpa using h)⟩⟩,Y ⟨λ_=>g,λh=>by simp[v]at h,λh=>by simp[r]at h⟩⟩
     . have r:D 8=false:=DN f (DN (a:=7) f (DN (a:=6) f n));have v:D 7=false:=DN f (DN (a:=6) f n);have g:=A.o.1 v;have n0:=Qo.o.below g.2;obtain⟨e0,e1,e2,e3⟩:=n0.cq;clear m;refine Da ?_;exact⟨Y ⟨d.o.1,d.o.2.1,d.o.2.2.1,d.o.2.2.2.1,d.o.2.2.2.2.1,λ_ _=>HQ.o.below g.2,(ER d),(Ec d),(Ed d),⟨λh=>(EM d) (by simpa using h),λh=>d.o.2.2.2.2.2.2.2.2.2.2 (by simpa using h)⟩⟩,Y ⟨λ_=>g,λh=>by simp[v]at h,λh=>by simp[r]at h⟩⟩
     . have r:D 8=false:=DN f n;have v:D 7=false:=DN f n;have g:=A.o.1 v;have W:=d.o.2.2.2.2.1 (m 4 DG) r;have h1:=EH d (m 5 DG) r;clear m;have HC:=Y (NP _ _ (cf ps k) q V W h1 (HP.o.at k) Qi.o);clear W h1;refine Jo J J λK hK=>?_;go_simp;go_wp2_with(go_at_call 43;refine HC.o.mono ?_;rintro e w5 ⟨v5,rfl,bj,ad⟩)
       exact E8 ⟨_,_,J,Y ⟨d.o.1,d.o.2.1,d.o.2.2.1,d.o.2.2.2.1,λh B=>(d.o.2.2.2.2.1 h B).below ad,λh B=>((EH d) h B).below ad,λ_ _=>bj,(Ec d),(Ed d),⟨λh=>(EM d) (by simpa using h),λh=>d.o.2.2.2.2.2.2.2.2.2.2 (by simpa using h)⟩⟩,Y ⟨λ_=>g.below ad,λh=>by simp[v]at h,λh=>by simp[r]at h⟩⟩
     . have r:D 8=false:=DN f n;have g:=A.o.1 n;have W:=ER d (m 6 DG) r;obtain⟨a9,l9,c9,s9,b9,k9,d9,t9,rfl⟩:=Jk.form W;clear m;refine Da ?_;exact⟨Y ⟨d.o.1,d.o.2.1,d.o.2.2.1,d.o.2.2.2.1,λh B=>(d.o.2.2.2.2.1 h B).below (Ba V _),λh B=>((EH d) h B).below (Ba V _),λh B=>((ER d) h B).below (Ba V _),λ_=>⟨_,_,_,J⟩,(Ed d),⟨λh=>(EM d) (by simpa using h),λh=>d.o.2.2.2.2.2.2.2.2.2.2 (by simpa using h)⟩⟩,Y ⟨λh=>by simp at h,λ_ _=>⟨V,_,_,_,_,J,g,W,J⟩,λh=>by simp[r]at h⟩⟩
     . obtain⟨E,x9,y9,z9,u9,rfl,g,bi,bc⟩:=A.o.2.1 (m 7 DG) n;obtain rfl:=d.o.1 (m 0 DG);have Qe:D 9=false:=DN f n;have Qg:=m 7 DG;obtain⟨v5,w5,aj,an,bm,ad⟩:=X2 false W0.heap.size E _ _ g.1 bi (by rw[JM];exact HK.o) g.2.size;dsimp only[F5,Dn]at aj;subst bc;obtain⟨a6,c6,e6,_⟩:=an.form;subst e6;clear m;refine Jo J J λK hK=>?_;refine Lib.wp_append_run _ _ _ 29 29 J _ _ J J _ _ aj (hK _ _ ?_);exact E8 ⟨_,_,J,Y ⟨λ_=>rfl,d.o.2.1,d.o.2.2.1,d.o.2.2.2.1,λ_ h=>by simp at h,λ_ h=>by simp at h,λ_ h=>by simp at h,(Ec d),λ_=>⟨_,_,_,J⟩,⟨λh=>(EM d) (by simpa using h),λh=>by simp[Qe]at h⟩⟩,Y ⟨λh=>by simp[Qg]at h,λ_ h=>by simp at h,λ_=>⟨an,ad _ _ (Aa _) g.2⟩⟩⟩
     . clear m;refine Da ?_;exact⟨(Oi d ⟨λh=>by simp at h,λ_=>rfl⟩),Y ⟨λh=>A.o.1 (by simpa using h),λh B=>A.o.2.1 (by simpa using h) (by simpa using B),λh=>A.o.2.2 (by simpa using h)⟩⟩
    case fin1=>
     rintro D ae V ah ⟨ta,tb,tc,td,te,tg,ti,tj,U,tl,rfl,d,A⟩;have HO:=Y (A.o.2.2 (ah 8 DK));obtain rfl:=d.o.2.2.2.2.2.2.2.2.2.2 (ah 9 DK);clear d A ah;obtain⟨a9,c9,e9,_⟩:=HO.o.1.form;rw[<-Y8,JM]at e9;subst e9;go_wp2_with fail
     go_roundw
     case rel=>exact⟨k+1,O,by go_num,⟨a9,c9,J⟩,Y (by rw[Y8];exact HO.o)⟩
     case measure=>simp[intOf];omega
  . have Qk:k=la:=O
    subst Qk;have HT:=Y (Ks _ _ wr (HR.o.1.row (by rw[JM];omega)));have HE:=Y (show Jc (XH (λi=>cf ps i*q) k)=Jc (Yv q ps)from YL λj=>by
     rw[Lj,Xq];split
     . rfl
     . rw[JZ (by have:=Qh.o;omega)];grind)
    rw[HE.o]at HT;go_wp2_with(go_at_call 44;refine HT.o.mono ?_;clear HT;rintro e w1 ⟨u1,rfl,ay,az⟩;obtain⟨a7,l7,c7,rfl⟩:=ay.form)
    go_ret;exact⟨_,J,ay,(Bt Qd.o HR.o.2).trans (az.mono (Af Qd.o.size HR.o.2.size))⟩
theorem fR{ps:Ja}(h:Sqs ps):Sqs (Jc (Yv (-1) ps)):=Sqs.of λi=>by
 rw[JT,Xq,show cf ps i*-1=-(cf ps i)from by grind];exact(h.at i).neg
def TZ(s t:M)(ps qs:Ja)(w:H)(f:RowK false w s ps)(g:RowK false w t qs)(q:Sqs ps)(i:Sqs qs)(c:ps.length<1099511627776/\qs.length<1099511627776):
 Q L 100 #[s,t] w λe v=>∃u,e=.returned u/\RowK false v u (Ys ps qs)/\Bl w v:=by
 obtain⟨a,la,ca,rfl⟩:=f.form;obtain⟨b,lb,cb,rfl⟩:=g.form;obtain⟨x,m,n,d⟩:=Di (show Xc ps (Jc (Yv (-1) qs))=Ys ps qs from YL λj=>by rw[XL,JT,XL]) (YD (-1) O O w) (λ(V:H) (u:M) (h:Bl w V) (l:Jk V u ((-1:Int):Rat))=>NQ _ u qs (-1) V (g.below h) l i (Sq.of (k:=1) ⟨(Sm.one 1 O).neg,Sm.one 1 O⟩ O) c.2) λ(V:H) (u:M) (h:Bl w V) (l:RowK false V u (Jc (Yv (-1) qs)))=>Pc _ u ps _ V (f.below h) l q (fR i) ⟨c.1,Cx (JV _) (by unfold Yv;rw[Cq];exact c.2)⟩;rw[x.o]at d;clear f g q i c;go_enter func100,ntmps100
 go_wp2_with(first
  |(go_at_call 41;refine m.o.mono ?_;clear m;rintro e R ⟨u1,rfl,B,p⟩)
  |(go_at_call 111;refine(n.o _ _ p B).mono ?_;clear n;rintro e T ⟨u2,rfl,D,z⟩;have o:=Bt p z)
  |(go_at_call 101;refine(d.o _ _ o D).mono ?_;clear d;rintro e U ⟨u3,rfl,r,A⟩;have y:=Bt o A;obtain⟨E,K,I,rfl⟩:=r.form))
 go_ret;exact⟨_,J,r,y⟩
def Lk(vq:M)(n:Nat)(q:Rat)(w:H)(hq:Jk w vq q)(hn:n<1099511627775):
 Q L 150 #[N P (n:Int),vq] w λe w'=>∃u,e=.returned u/\RowK false w' u (Jc (Df n [q]))/\Bl w w':=by
 obtain⟨l,A,p,B,m,z,r,D,rfl⟩:=Jk.form hq;have b0:=JB.new w 47 (C l A p) (F B) (C m z r) (F D);have d:Bl w (w.alloc (G #[C l A p,F B,C m z r,F D] 47)):=Ba w _;obtain⟨W0,t⟩:=ex (w.alloc (G #[C l A p,F B,C m z r,F D] 47));rw[t]at d b0;obtain⟨Qe,HQ,I,Qh⟩:=Di t (hq.below d) d b0;clear hq t b0 d;go_enter func150,ntmps150
 go_upto_region 1 with fail
 rw[Qe.o];go_wp2;go_loopw [5,6] (λo i wr=>∃k:Nat,k<=n/\i=N P (k:Int)/\(∃X oc,o=C X k oc)/\Hid (E0 false W0 wr o (XH (λ_=>0) k))) λ_ i _=>n-(intOf i).toNat
 case atStart=>exact⟨0,Ap _,J,⟨_,_,J⟩,Y ⟨EF.nil _ _ _,BA _ _⟩⟩
 case round=>
  obtain⟨k,hk,rfl,⟨X,oc,rfl⟩,a⟩:=hrel;by_cases ak:k<n
  . have am:(k:Int)<(n:Int):=O
    have E:=Y (YD 0 O O wr);have HK:=Y (show k+1<=1099511627776 by omega);go_wp2_with(first
     |(go_at_call 41;refine E.o.mono ?_;clear E;rintro e w3 ⟨u3,rfl,y,x⟩;obtain⟨ae,ap,ai,aq,ah,an,aj,ay,rfl⟩:=Jk.form y;obtain⟨v9,w9,f,c,v,b⟩:=X2 false W0.heap.size w3 _ _ (a.o.1.below x) y (by rw[JM];exact HK.o) (by have:=a.o.2.size;have:=x.size;omega);have K:=Y c;have Qg:=Y (b W0.heap.size W0 (Aa _) (Bt a.o.2 x));clear c v b y)
     |(at_builtin;refine BS _ J _ _ 29 29 J _ _ J J _ _ f ?_))
    obtain⟨a9,c9,T,_⟩:=K.o.form;go_roundw
    case rel=>
     refine⟨k+1,O,by go_num,⟨a9,c9,?_⟩,Y ⟨?_,Qg.o⟩⟩
     . rw[Cc,JM]at T;exact T
     . rw[Y8];exact K.o
    case measure=>simp[intOf];omega
  . have Qf:k=n:=O
    subst Qf;have W:=Qh.o.below a.o.2;obtain⟨e0,e1,e2,e3⟩:=W.cq;obtain⟨v9,w9,f,c,v,b⟩:=X2 false W0.heap.size wr _ _ a.o.1 (HQ.o.below a.o.2) (by rw[JM];omega) a.o.2.size;dsimp only[F5,Dn]at f;have HE:=Y (show Jc (XH (λ_=>0) k++[q])=Jc (Df k [q])from YL λj=>by
     rw[Ny,JM,Ir,Lj];by_cases s:j=k
     . rw[BG s,BG O,s,Cv,YE]
     . rw[BD s];by_cases U:k<=j
       . rw[BG U,JZ si];split<;>rfl
       . rw[BD U];split<;>rfl)
    have R:=b W0.heap.size W0 (Aa _) a.o.2;have g:=Y (Ks _ _ w9 (c.row (by rw[Cc,JM];simp;omega)));rw[HE.o]at g;clear c v b W;go_wp2_with(first
     |(at_builtin;refine BS _ J _ _ 29 29 J _ _ J J _ _ f ?_)
     |(go_at_call 44;refine g.o.mono ?_;clear g;rintro e w1 ⟨u1,rfl,V,ad⟩;obtain⟨a7,l7,c7,rfl⟩:=V.form))
    go_ret;exact⟨_,J,V,(Bt I.o R).trans (ad.mono (Af I.o.size R.size))⟩
def DV(W:H)(R:Nat)(s:ByteArray)(I E A:Int):Prop:=W.heap[R]?=some (G #[.string s,.int P I,.int P E,.int P A] 134 (0,0))
section
variable {W W':World} {R:Nat} {s:ByteArray} {I E A:Int}
def DV.lt(h:DV W R s I E A):R<W.heap.size:=(Ab.1 h).1
def DV.c0(h:DV W R s I E A):W.cell? ⟨R,0,none⟩=some (.string s):=by simp[World.cell?,show W.heap[R]?=_ from h]
def DV.c1(h:DV W R s I E A):W.cell? ⟨R,1,none⟩=some (N P I):=by simp[World.cell?,show W.heap[R]?=_ from h]
def DV.cp(h:DV W R s I E A):type_of% (And.intro h.c0 h.c1):=⟨h.c0,h.c1⟩
def DV.c2(h:DV W R s I E A):W.cell? ⟨R,2,none⟩=some (N P E):=by simp[World.cell?,show W.heap[R]?=_ from h]
def DV.c3(h:DV W R s I E A):W.cell? ⟨R,3,none⟩=some (N P A):=by simp[World.cell?,show W.heap[R]?=_ from h]
def DV.cq(h:DV W R s I E A):type_of% (And.intro h.c0 (And.intro h.c1 (And.intro h.c2 h.c3))):=⟨h.c0,h.c1,h.c2,h.c3⟩
def DV.f(h:DV W R s I E A)(o:Nat):W.frozen? ⟨R,o,none⟩=false:=by simp[World.frozen?,show W.heap[R]?=_ from h]
def DV.below(h:DV W R s I E A)(a:Bl W W'):DV W' R s I E A:=(a.block R h.lt).trans h
def DV.set1(h:DV W R s I E A)(x:Int):DV (W.setCell ⟨R,1,none⟩ (N P x)) R s x E A:=by
 have:=JY (o:=1) h (N P x);exact this
def DV.set2(h:DV W R s I E A)(x:Int):DV (W.setCell ⟨R,2,none⟩ (N P x)) R s I x A:=by
 have:=JY (o:=2) h (N P x);exact this
def DV.set3(h:DV W R s I E A)(x:Int):DV (W.setCell ⟨R,3,none⟩ (N P x)) R s I E x:=by
 have:=JY (o:=3) h (N P x);exact this
def DV.drewN(h:DV W R s I E A)(n:Nat):DV (W.drewN n) R s I E A:=h
end
variable{j:Nat}
def JD(W:H)(n:Nat)(r:Option Nat):W.grownBy (W.drewN n) r:=⟨J,J,J,Aa _,λ_ _ _=>rfl⟩
def Ll(R:Nat)(s:ByteArray)(I E A e p:Int)(w:H)(h:DV w R s I E A):
 Q L 103 #[.pointer (some ⟨R,0,none⟩),N P e,N P p] w λr a=>r=.returned (.tuple #[])/\DV a R s I (if E=0 then e else E) (if E=0 then p else A)/\w.grownBy a (some R):=by
 have c2:=h.c2;have f2:=h.f 2;have f3:=h.f 3;have c3:=h.c3;by_cases hE:E=0
 . rw[BG hE,BG hE];go_enter func103,ntmps103
   go_wp2;go_end0;exact⟨J,(h.set2 e).set3 p,Jf (JH w R 2 _) (JH _ R 3 _)⟩
 . rw[BD hE,BD hE];have b:(E==0)=false:=by rw[BI];exact hE
   go_enter func103,ntmps103
   go_wp2;go_end0;exact⟨J,h,YV _ _⟩
theorem NR{c d:UInt8}(h:c≠d):((c.toNat:Int)==(d.toNat:Int))=false:=by
 rw[BI];intro e;exact h (Fh.1 O)
theorem Jl(s:ByteArray):(Je s).length=s.size:=by unfold Je;simp
def NS{f:UInt8->Bool}{s:ByteArray}{I:Nat}(d:I<=j)(e:j<=s.size)(g:∀k (a:k<s.size),I<=k->k<j->f s[k]=true)(i:∀l:j<s.size,f s[j]=false):XP f (Je s) I=j:=
 MS d (by rw[Jl];exact e) (λk a b c=>g k (by rwa[Jl]at a) b c) λa=>i (by rwa[Jl]at a)
def Ta{s:ByteArray}{c:UInt8}(a:j<s.size):Ye (Je s) j c=(s[j]==c):=by
 unfold Ye;rw[Am (by rw[Jl];exact a)];rfl
def Tb{s:ByteArray}{c:UInt8}(a:s.size<=j):Ye (Je s) j c=false:=by
 unfold Ye;rw[A8 (by rw[Jl];exact a)];rfl
def F6(W:H)(R:Nat):Nat:=(intOf ((W.cell? ⟨R,1,none⟩).getD undef)).toNat
def H7{W:H}{R:Nat}{s:ByteArray}{I:Nat}{E A:Int}(h:DV W R s I E A):F6 W R=I:=by
 unfold F6;rw[h.c1];simp[intOf]
def GM(R:Nat)(s:ByteArray)(I:Nat)(E A:Int)(c:UInt8)(w:H)(h:DV w R s I E A)(hI:I<=s.size)(hs:s.size<=300):
 Q L 102 #[.pointer (some ⟨R,0,none⟩),N .u8 (c.toNat:Int)] w λr y=>r=.returned (F (decide (E=0)&&Ye (Je s) (DL (Je s) I) c))/\DV y R s (DL (Je s) I:Nat) E A/\w.grownBy y (some R):=by
 have z:=Y h;clear h;go_enter func102,ntmps102
 go_wp2;go_loopw [5] (λ_ wr=>∃j:Nat,I<=j/\j<=s.size/\Hid (DV wr R s j E A/\w.grownBy wr (some R)/\∀k (n:k<s.size),I<=k->k<j->s[k]=32)) λ_ wr=>s.size-F6 wr R
 case atStart=>exact⟨I,Aa _,hI,Y ⟨z.o,YV _ _,λk _ u v=>by omega⟩⟩
 case round=>
  obtain⟨j,u,v,a⟩:=hrel;obtain⟨c0,c1⟩:=a.o.1.cp;have c2:=a.o.1.c2;have f1:=a.o.1.f 1;by_cases x:j<s.size
  . have ae:(j:Int)<(s.size:Int):=O
    have ad:(0:Int)<=(j:Int):=O
    by_cases l:s[j]=32
    . have hb:((s[j].toNat:Int)==32)=true:=by rw[l];rfl
      have K:=Y l;clear l;go_wp2_with fail
      go_quiet (fail)
      go_wp2;go_roundw
      case rel=>
       refine⟨j+1,O,O,Y ⟨?_,Jf (Jf a.o.2.1 (JD _ _ _)) (JH _ R 1 _),λk n p q=>?_⟩⟩
       . have:=(a.o.1.drewN nq).set1 ((j:Int)+1);rw[show((j:Int)+1)=((j+1:Nat):Int)from by omega]at this;exact this
       . by_cases e:k=j
         . subst e;exact K.o
         . exact a.o.2.2 k n p O
      case measure=>
       have W:=H7 a.o.1;have X:F6 ((wr.drewN nq).setCell ⟨R,1,none⟩ (N P ((j:Int)+1))) R=j+1:=by
        have:=(a.o.1.drewN nq).set1 ((j:Int)+1);rw[show((j:Int)+1)=((j+1:Nat):Int)from by omega]at this ⊢;exact H7 this
       show s.size-F6 ((wr.drewN nq).setCell ⟨R,1,none⟩ (N P ((j:Int)+1))) R<s.size-F6 wr R;rw[W,X];omega
    . have hb:((s[j].toNat:Int)==32)=false:=NR (d:=32) l;have b:=Y (show DL (Je s) I=j from NS u v (λk n p q=>by rw[a.o.2.2 k n p q];rfl) λ_=>BI.2 l);have i:=Y (Ta (s:=s) (c:=c) x);clear l;go_wp2_with fail
      go_quiet (fail)
      go_wp2;have g:=Y (show w.grownBy (wr.drewN nq) (some R)from Jf a.o.2.1 (JD _ _ _));have f:=Y (a.o.1.drewN nq);obtain⟨T,U⟩:=f.o.cp;have V:=f.o.c2;by_cases hE:E=0
      . have t:(E==0)=true:=by rw[hE];rfl
        by_cases m:s[j]=c
        . have B:((s[j].toNat:Int)==(c.toNat:Int))=true:=by rw[m];exact beq_self_eq_true _
          have o:=Y (show(decide (E=0)&&(s[j]==c))=true by rw[hE,m];simp);clear m hE;go_quiet (fail)
          go_wp2;go_ret;exact⟨by rw[b.o,i.o,o.o];rfl,by rw[b.o];exact f.o.drewN _,Jf g.o (JD _ _ _)⟩
        . have B:((s[j].toNat:Int)==(c.toNat:Int))=false:=NR m;have o:=Y (show(decide (E=0)&&(s[j]==c))=false by rw[BI.2 m,Bool.and_false]);clear m hE;go_quiet (fail)
          go_wp2;go_ret;exact⟨by rw[b.o,i.o,o.o];rfl,by rw[b.o];exact f.o.drewN _,Jf g.o (JD _ _ _)⟩
      . have t:(E==0)=false:=by rw[BI];exact hE
        have o:=Y (show(decide (E=0)&&(s[j]==c))=false by rw[BE hE,Bool.false_and]);clear hE;go_quiet (fail)
        go_wp2;go_ret;exact⟨by rw[b.o,i.o,o.o];rfl,by rw[b.o];exact f.o.drewN _,Jf g.o (JD _ _ _)⟩
  . have D:j=s.size:=O
    have hd:decide (j<s.size)=false:=BE O;have b:=Y (show DL (Je s) I=j from NS u v (λk n p q=>by rw[a.o.2.2 k n p q];rfl) λh=>by omega);have i:=Y (Tb (s:=s) (j:=j) (c:=c) O);clear D x;go_wp2_with fail
    go_quiet (fail)
    go_wp2;have g:=Y (show w.grownBy (wr.drewN nq) (some R)from Jf a.o.2.1 (JD _ _ _));have f:=Y (a.o.1.drewN nq);obtain⟨T,U⟩:=f.o.cp;have V:=f.o.c2;by_cases hE:E=0
    . have t:(E==0)=true:=by rw[hE];rfl
      clear hE;go_quiet (fail)
      go_wp2;go_ret;exact⟨by rw[b.o,i.o,Bool.and_false];rfl,by rw[b.o];exact f.o.drewN _,Jf g.o (JD _ _ _)⟩
    . have t:(E==0)=false:=by rw[BI];exact hE
      clear hE;go_quiet (fail)
      go_wp2;go_ret;exact⟨by rw[b.o,i.o,Bool.and_false];rfl,by rw[b.o];exact f.o.drewN _,Jf g.o (JD _ _ _)⟩
end
section
variable{l:List UInt8}{d n p:Nat}
def Tc(c:UInt8)(w:H):Q L 185 #[N .u8 (c.toNat:Int)] w λr e=>r=.returned (F (DU c))/\e=w:=by
 by_cases b:48<=c.toNat
 . have f:decide ((48:Int)<=(c.toNat:Int))=true:=BH O;by_cases d:c.toNat<=57
   . have a:=Y (show DU c=true by simp[DU,b,d]);go_enter func185,ntmps185
     go_wp2;go_ret;exact⟨by rw[a.o];simp;omega,J⟩
   . have a:=Y (show DU c=false by simp[DU,d]);go_enter func185,ntmps185
     go_wp2;go_ret;exact⟨by rw[a.o];simp;omega,J⟩
 . have a:=Y (show DU c=false by simp[DU,b]);go_enter func185,ntmps185
   go_wp2;go_ret;exact⟨by rw[a.o];rfl,J⟩
def Xk(R:Nat)(s:ByteArray)(I:Nat)(E A:Int)(c:UInt8)(w:H)(h:DV w R s I E A)(j:I<=s.size)(k:s.size<=300)(b:Bool)(m:b=(decide (E=0)&&Ye (Je s) (DL (Je s) I) c)):
 Q L 98 #[.pointer (some ⟨R,0,none⟩),N .u8 (c.toNat:Int)] w λr n=>r=.returned (F b)/\DV n R s ((DL (Je s) I+(if b then 1 else 0):Nat):Int) E A/\w.grownBy n (some R):=by
 have d:=Y (GM R s I E A c w h j k);have l:=Y (show DL (Je s) I<=300 from Af (Yx (by rw[Jl];exact j)) (by rw[Jl];exact k));rw[<-m]at d;clear h j k m;cases b
 . go_enter func98,ntmps98
   go_wp2_with first
    |(go_at_call 102;refine d.o.mono ?_;clear d;rintro e o ⟨rfl,a,f⟩;have i:=Y a;clear a;have g:=Y f;clear f)
   go_ret;exact⟨J,i.o,g.o⟩
 . go_enter func98,ntmps98
   go_wp2_with first
    |(go_at_call 102;refine d.o.mono ?_;clear d;rintro e o ⟨rfl,a,f⟩;have i:=Y a;have c1:=a.c1;have f1:=a.f 1;clear a;have g:=Y f;clear f;have p:=l.o;clear l)
   go_ret;exact⟨J,i.o.set1 _,Jf g.o (JH _ R 1 _)⟩
def Td(h:l.all DU=true):num l<10^l.length:=by
 have:=Yw (LJ h);rwa[KW]at this
def YW(l:List UInt8)(p d n:Nat):Prop:=p+d<=l.length/\((l.drop p).take d).all DU=true/\n=num ((l.drop p).take (min 12 d))
theorem YW.zero(h:p<=l.length):YW l p 0 0:=⟨O,DG,by simp[num,Du,val]⟩
def take_snoc(l:List UInt8)(p d:Nat)(h:p+d<l.length):(l.drop p).take (d+1)=(l.drop p).take d++[l[p+d]]:=by
 rw[A7 (by rw[Cs];omega),List.getElem_drop]
def YW.all{l:List UInt8}{p d n:Nat}(h:YW l p d n)(hl:p+d<l.length)(a:DU l[p+d]=true):((l.drop p).take (d+1)).all DU=true:=by
 rw[take_snoc l p d hl,List.all_append,h.2.1];simp[a]
def YW.next1(h:YW l p d n)(hl:p+d<l.length)(a:DU l[p+d]=true)(b:d<12):YW l p (d+1) (10*n+(l[p+d].toNat-48)):=by
 refine⟨O,h.all hl a,?_⟩;rw[show min 12 (d+1)=d+1 from by omega,take_snoc l p d hl,RT,h.2.2,show min 12 d=d from by omega];omega
def YW.next2(h:YW l p d n)(hl:p+d<l.length)(a:DU l[p+d]=true)(b:12<=d):YW l p (d+1) n:=by
 refine⟨O,h.all hl a,?_⟩;rw[show min 12 (d+1)=min 12 d from by omega];exact h.2.2
def YW.lt(h:YW l p d n):n<10^min 12 d:=by
 have e:((l.drop p).take (min 12 d)).all DU=true:=by
  rw[AR];intro c b;refine AR.1 h.2.1 c ?_;rw[show(l.drop p).take (min 12 d)=((l.drop p).take d).take (min 12 d)from by rw[List.take_take];congr 1;omega]at b;exact Fc b
 have a:=Td e;rw[Ai,Cs,<-h.2.2]at a;have:=h.1;rwa[show min (min 12 d) (l.length-p)=min 12 d from by omega]at a
def YW.lt12(h:YW l p d n):n<1000000000000:=
 Aw h.lt (Ak (n:=10) O (by omega:min 12 d<=12))
def YW.lt11(h:YW l p d n)(a:d<12):n<100000000000:=
 Aw h.lt (Ak (n:=10) O (by omega:min 12 d<=11))
def YW.dg(h:YW l p d n)(a:∀hl:p+d<l.length,DU l[p+d]=false):EC l p=p+d:=by
 refine MS O h.1 (λk e b c=>?_) a;have:=AR.1 h.2.1 (l[k]) ?_
 . exact this
 . rw[FP];refine⟨k-p,by rw[Ai,Cs];omega,?_⟩;rw[List.getElem_take,List.getElem_drop];congr 1;omega
def Dz{α:Type}(r:Rd α)(E:Int):Int:=if E=0 then(match r with|.error e _=>(e:Int)|.ok _ _=>0)else E
def EG{α:Type}(r:Rd α)(E A:Int):Int:=if E=0 then(match r with|.error _ p=>(p:Int)|.ok _ _=>A)else A
def Pd(R:Nat)(s:ByteArray)(I:Nat)(E A:Int)(p:Nat)(w:H)(h:DV w R s I E A)(hI:I<=s.size)(hs:s.size<=300)(hp:DL (Je s) I=p):
 Q L 149 #[.pointer (some ⟨R,0,none⟩)] w λr w'=>∃d n:Nat,r=.returned (.tuple #[N P (n:Int),N P (p:Int)])/\EC (Je s) p=p+d/\YW (Je s) p d n/\DV w' R s ((p+d:Nat):Int) (Dz (J3 (Je s) I) E) (EG (J3 (Je s) I) E A)/\w.grownBy w' (some R):=by
 have HI:=Y (GM R s I E A 32 w h hI hs);rw[hp]at HI;have Qo:p<=s.size:=by rw[<-hp];exact Af (Yx (by rw[Jl];exact hI)) (by rw[Jl];exact Aa _)
 have W:=Y hp;have B:=Y λ(x y:Int) (I':Int) (V:H) (hh:DV V R s I' E A)=>Ll R s I' E A x y V hh;clear h hI hp;go_enter func149,ntmps149
 go_wp2_with first
  |(go_at_call 102;refine HI.o.mono ?_;clear HI;rintro e w1 ⟨rfl,ah,ai⟩;have Qn:=Y ah;have c1:=ah.c1;clear ah;have Qp:=Y ai;clear ai)
 go_loopw [5] (λnv wr=>∃d n:Nat,nv=N P (n:Int)/\p+d<=s.size/\Hid (DV wr R s ((p+d:Nat):Int) E A/\w.grownBy wr (some R)/\YW (Je s) p d n)) λ_ wr=>s.size-F6 wr R
 case atStart=>exact⟨0,0,J,O,Y ⟨Qn.o,Qp.o,YW.zero (by rw[Jl];exact Qo)⟩⟩
 case round=>
  clear c1;obtain⟨d,n,rfl,aj,c⟩:=hrel;obtain⟨j,hj⟩:∃j,j=p+d:=⟨_,J⟩;have b:=Y hj;rw[<-hj]at aj c;have aq:(j:Int)-(p:Int)=(d:Int):=O
  clear hj;obtain⟨c0,c1⟩:=c.o.1.cp;have f1:=c.o.1.f 1;by_cases ay:j<s.size
  . have az:(j:Int)<(s.size:Int):=O
    have ap:(0:Int)<=(j:Int):=O
    by_cases q:DU s[j]=true
    . have X:=Y (Tc s[j]);rw[q]at X;have am:=Yo q;have Ql:=Y q;clear q;go_wp2_with fail
      go_quiet ((go_at_call 185;exact Calls.quiet_of_same (X.o _)))
      obtain⟨z,h0⟩:∃k,k=nq:=⟨nq,J⟩;subst h0;have l:=Y (show DV (wr.drewN z) R s (j:Int) E A/\w.grownBy (wr.drewN z) (some R)/\YW (Je s) p d n from⟨c.o.1.drewN z,Jf c.o.2.1 (JD _ _ _),c.o.2.2⟩);have Qk:=Y (H7 c.o.1);clear X;by_cases ae:d<12
      . have ad:(d:Int)<12:=O
        have hn:=l.o.2.2.lt11 ae;go_wp2;go_quiet (fail)
        have ak:=Y (show DV ((wr.drewN z).drewN nq) R s (j:Int) E A/\w.grownBy ((wr.drewN z).drewN nq) (some R)/\YW (Je s) p d n from⟨l.o.1.drewN nq,Jf l.o.2.1 (JD _ _ _),l.o.2.2⟩);go_wp2;go_roundw
        case rel=>
         refine⟨d+1,10*n+(s[j].toNat-48),?_,?_,Y ⟨?_,?_,?_⟩⟩
         . congr 1;omega
         . have:=b.o;omega
         . have:=(c.o.1.drewN (z+nq)).set1 ((j:Int)+1);rw[show((j:Int)+1)=((p+(d+1):Nat):Int)from by have:=b.o;omega]at this ⊢;exact this
         . exact Jf (Jf c.o.2.1 (JD _ _ _)) (JH _ R 1 _)
         . have:=c.o.2.2.next1 (by rw[Jl];have:=b.o;omega) (by simp only[<-b.o];exact Ql.o) ae;simp only[<-b.o]at this;exact this
        case measure=>
         have e2:=H7 ((c.o.1.drewN (z+nq)).set1 ((j+1:Nat):Int));rw[show((j+1:Nat):Int)=(j:Int)+1 from by omega]at e2;rw[e2,Qk.o];omega
      . have ad:¬(d:Int)<12:=O
        go_wp2;go_roundw
        case rel=>
         refine⟨d+1,n,J,?_,Y ⟨?_,?_,?_⟩⟩
         . have:=b.o;omega
         . have:=(c.o.1.drewN z).set1 ((j:Int)+1);rw[show((j:Int)+1)=((p+(d+1):Nat):Int)from by have:=b.o;omega]at this ⊢;exact this
         . exact Jf (Jf c.o.2.1 (JD _ _ _)) (JH _ R 1 _)
         . exact c.o.2.2.next2 (by rw[Jl];have:=b.o;omega) (by simp only[<-b.o];exact Ql.o) O
        case measure=>
         have e2:=H7 ((c.o.1.drewN z).set1 ((j+1:Nat):Int));rw[show((j+1:Nat):Int)=(j:Int)+1 from by omega]at e2;rw[e2,Qk.o];omega
    . have X:=Y (Tc s[j]);have q:=Bool.eq_false_iff.2 q;rw[q]at X;have i:=Y (show EC (Je s) p=j by rw[b.o];exact c.o.2.2.dg λhl=>by simp only[<-b.o];exact q);clear q;go_wp2_with fail
      go_quiet ((go_at_call 185;exact Calls.quiet_of_same (X.o _)))
      obtain⟨K,D,U⟩:=DX (c.o.1.drewN nq) (show w.grownBy (wr.drewN nq) (some R)from Jf c.o.2.1 (JD _ _ _)) c.o.2.2;clear c;by_cases u:d=0
      . have m:j=p:=by have:=b.o;omega
        have g:=Y (show J3 (Je s) I=.error 2 p by unfold J3;rw[W.o,i.o,BG m]);have Qm:=Y u;clear u;go_wp2_with first
         |(go_at_call 103;refine(B.o _ _ _ _ K.o).mono ?_;clear B;rintro e w2 ⟨rfl,f,o⟩;have l:=Y f;have Qi:=f.c1;clear f;have T:=Y (Jf D.o o);clear o)
        refine A0 (v:=.tuple #[N P (n:Int),N P (p:Int)]) (by simp[results,results149,go_sem]) J ⟨d,n,J,by rw[i.o];exact b.o,U.o,?_,T.o⟩;rw[<-b.o];have:=l.o;rw[g.o];exact this
      . by_cases ae:12<d
        . have m:¬j=p:=by have:=b.o;omega
          have Qj:((j:Int)==(p:Int))=false:=by rw[BI];omega
          have ad:(12:Int)<(d:Int):=O
          have g:=Y (show J3 (Je s) I=.error 3 p by unfold J3;rw[W.o,i.o,BD m,BG (by have:=b.o;omega)]);clear u;go_wp2_with first
           |(go_at_call 103;refine(B.o _ _ _ _ K.o).mono ?_;clear B;rintro e w2 ⟨rfl,f,o⟩;have l:=Y f;have Qi:=f.c1;clear f;have T:=Y (Jf D.o o);clear o)
          refine A0 (v:=.tuple #[N P (n:Int),N P (p:Int)]) (by simp[results,results149,go_sem]) J ⟨d,n,J,by rw[i.o];exact b.o,U.o,?_,T.o⟩;rw[<-b.o];have:=l.o;rw[g.o];exact this
        . have m:¬j=p:=by have:=b.o;omega
          have Qj:((j:Int)==(p:Int))=false:=by rw[BI];omega
          have ad:¬(12:Int)<(d:Int):=O
          have t:∃a k,J3 (Je s) I=.ok a k:=by unfold J3;rw[W.o,i.o,BD m,BD (by have:=b.o;omega)];exact⟨_,_,J⟩
          obtain⟨a,k,t⟩:=t;have g:=Y (show Dz (J3 (Je s) I) E=E/\EG (J3 (Je s) I) E A=A by rw[t];unfold Dz EG;constructor<;>(by_cases hE:E=0<;>simp[hE]));clear t;clear u;go_wp2;refine A0 (v:=.tuple #[N P (n:Int),N P (p:Int)]) (by simp[results,results149,go_sem]) J ⟨d,n,J,by rw[i.o];exact b.o,U.o,?_,D.o⟩;rw[show((p:Int)+(d:Int))=(j:Int)from by have:=b.o;omega,g.o.1,g.o.2];exact K.o
  . have i:=Y (show EC (Je s) p=j by rw[b.o];exact c.o.2.2.dg λhl=>absurd hl (by rw[Jl];have:=b.o;omega));have an:decide (j<s.size)=false:=BE O;go_wp2_with fail
    go_quiet (fail)
    obtain⟨K,D,U⟩:=DX (c.o.1.drewN nq) (show w.grownBy (wr.drewN nq) (some R)from Jf c.o.2.1 (JD _ _ _)) c.o.2.2;clear c;by_cases u:d=0
    . have m:j=p:=by have:=b.o;omega
      have g:=Y (show J3 (Je s) I=.error 2 p by unfold J3;rw[W.o,i.o,BG m]);have Qm:=Y u;clear u;go_wp2_with first
       |(go_at_call 103;refine(B.o _ _ _ _ K.o).mono ?_;clear B;rintro e w2 ⟨rfl,f,o⟩;have l:=Y f;have Qi:=f.c1;clear f;have T:=Y (Jf D.o o);clear o)
      refine A0 (v:=.tuple #[N P (n:Int),N P (p:Int)]) (by simp[results,results149,go_sem]) J ⟨d,n,J,by rw[i.o];exact b.o,U.o,?_,T.o⟩;rw[<-b.o];have:=l.o;rw[g.o];exact this
    . by_cases ae:12<d
      . have m:¬j=p:=by have:=b.o;omega
        have Qj:((j:Int)==(p:Int))=false:=by rw[BI];omega
        have ad:(12:Int)<(d:Int):=O
        have g:=Y (show J3 (Je s) I=.error 3 p by unfold J3;rw[W.o,i.o,BD m,BG (by have:=b.o;omega)]);clear u;go_wp2_with first
         |(go_at_call 103;refine(B.o _ _ _ _ K.o).mono ?_;clear B;rintro e w2 ⟨rfl,f,o⟩;have l:=Y f;have Qi:=f.c1;clear f;have T:=Y (Jf D.o o);clear o)
        refine A0 (v:=.tuple #[N P (n:Int),N P (p:Int)]) (by simp[results,results149,go_sem]) J ⟨d,n,J,by rw[i.o];exact b.o,U.o,?_,T.o⟩;rw[<-b.o];have:=l.o;rw[g.o];exact this
      . have m:¬j=p:=by have:=b.o;omega
        have Qj:((j:Int)==(p:Int))=false:=by rw[BI];omega
        have ad:¬(12:Int)<(d:Int):=O
        have t:∃a k,J3 (Je s) I=.ok a k:=by unfold J3;rw[W.o,i.o,BD m,BD (by have:=b.o;omega)];exact⟨_,_,J⟩
        obtain⟨a,k,t⟩:=t;have g:=Y (show Dz (J3 (Je s) I) E=E/\EG (J3 (Je s) I) E A=A by rw[t];unfold Dz EG;constructor<;>(by_cases hE:E=0<;>simp[hE]));clear t;clear u;go_wp2;refine A0 (v:=.tuple #[N P (n:Int),N P (p:Int)]) (by simp[results,results149,go_sem]) J ⟨d,n,J,by rw[i.o];exact b.o,U.o,?_,D.o⟩;rw[show((p:Int)+(d:Int))=(j:Int)from by have:=b.o;omega,g.o.1,g.o.2];exact K.o
end
section
def Rd.pos{α:Type}(r:Rd α):Prop:=∀e p,r=.error e p->e≠0
variable{l:List UInt8}{j k p:Nat}
theorem F7{α:Type}{r:Rd α}{a:α}(h:r=.ok a k)(E A:Int):Dz r E=E/\EG r E A=A:=by
 grind[Dz,EG]
def fS{α:Type}{r:Rd α}{e:Nat}(h:r=.error e p)(A:Int):Dz r 0=(e:Int)/\EG r 0 A=(p:Int):=by
 subst h;exact⟨J,J⟩
def IA{α:Type}(r:Rd α){E:Int}(h:E≠0)(A:Int):Dz r E=E/\EG r E A=A:=by
 unfold Dz EG;omega
def Pe{α:Type}{r:Rd α}(hp:r.pos){E:Int}(h:Dz r E=0):E=0/\∃a k,r=.ok a k:=by
 by_cases hE:E=0
 . refine⟨hE,?_⟩;cases r with
   |ok a k=>exact⟨a,k,J⟩
   |error e p=>
    exfalso
    rw[hE,(fS J 0).1]at h;exact hp e p J O
 . rw[(IA r hE 0).1]at h;exact absurd h hE
theorem Kt(l:List UInt8)(i:Nat):(J3 l i).pos:=by
 intro e p h;grind[J3]
theorem fT(l:List UInt8)(i:Nat):(YG l i).pos:=by
 intro e p h;unfold YG at h;split at h
 . rename_i b c a;cases h;exact Kt l i _ _ a
 . split at h
   . split at h
     . rename_i b c a;cases h;exact Kt _ _ _ _ a
     grind
   . cases h
theorem fU(l:List UInt8)(i:Nat):(EK l i).pos:=by
 intro e p h;unfold EK at h;split at h
 . split at h
   . rename_i b c a;cases h;exact Kt _ _ _ _ a
   grind
 . cases h
theorem Ku(l:List UInt8)(i:Nat):DL l (DL l i)=DL l i:=ZF _ l i
def fV(l:List UInt8)(i:Nat):J3 l (DL l i)=J3 l i:=by unfold J3;rw[Ku]
def F8(l:List UInt8)(i:Nat):Rd Rat:=if Ye l (DL l i) 120 then .ok 1 (DL l i)else YG l i
def Te(l:List UInt8)(i:Nat):(F8 l i).pos:=by
 unfold F8;split
 . intro e p h;cases h
 . exact fT l i
theorem Tf(h:GU l j=false):EC l j=j:=by
 rcases AQ j l.length with a|a
 . refine MS (Aa _) O (λk _ b c=>by omega) λd=>?_;grind[GU]
 . unfold EC XP;rw[AN a];rfl
theorem fX(h:GU l j=true):Ye l j 120=false:=by
 unfold GU at h;unfold Ye;cases b:l[j]? with
 |none=>rfl
 |some c=>
  rw[b]at h;simp only[Option.map_some,Option.getD_some]at h;have a:=Yo h;rw[BI];intro e;cases e;simp at a
theorem Ig(l:List UInt8)(i:Nat):Yh l i=match F8 l i with
 |.error e p=>.error e p
 |.ok c k=>if Ye l (DL l k) 120 then(match EK l (DL l k+1)with|.error e p=>.error e p|.ok n m=>.ok (c,n) m)else .ok (c,0) (DL l k):=by
 unfold Yh F8;grind[fX,YG,Ku,J3,Tf]
def YW.of_ok{i d n:Nat}(h:YW l p d n)(hp:DL l i=p)(c:EC l p=p+d){ds:List UInt8}{b:Nat}(a:J3 l i=.ok (ds,b) k):b=p/\k=p+d/\num ds=n:=by
 unfold J3 at a;rw[hp,c]at a;split at a
 . cases a
 . split at a
   . cases a
   . rename_i e f;simp only[EStateM.Result.ok.injEq,Prod.mk.injEq]at a;obtain⟨⟨rfl,rfl⟩,rfl⟩:=a;refine⟨J,J,?_⟩;rw[h.2.2,show p+d-p=d from by omega,show min 12 d=d from by omega]
section
variable {W W':World} {R:Nat} {s:ByteArray} {I E A:Int}
variable{v:M}
theorem NT(h:DV W R s I E A){cs:Array M}{t:TypeId}{m:Nat × Nat}{b:Nat}(a:W.heap[b]?=some (G cs t m))(c:t≠134):b≠R:=by
 intro e;subst e;have:=a.symm.trans h;grind
theorem Tg(h:DV W R s I E A)(hg:W.grownBy W' (some R)):∀k v ds,Row k W v ds->Row k W' v ds:=by
 intro k v ds c;obtain⟨a,cap,e,_⟩:=id c;subst e;refine c.grown hg λp f hl=>?_;obtain⟨b,i,d,cs,m,g⟩:=c.typ hl;grind[NT]
def Jk.rd{q:Rat}(a:Jk W v q)(h:DV W R s I E A)(hg:W.grownBy W' (some R)):Jk W' v q:=Dr.keep (r:=false) a (Tg h hg)
theorem RowK.rd{qs:Ja}(l:RowK false W v qs)(h:DV W R s I E A)(hg:W.grownBy W' (some R)):RowK false W' v qs:=by
 obtain⟨a,cap,e,g,i,j,c⟩:=l;refine⟨a,cap,e,g,i,j,?_⟩;rcases c with c|⟨b,f,d⟩
 . exact An c
 . refine Au ⟨b,f,d.keep (hg.block b d.lt ?_) (Tg h hg)⟩;obtain⟨cs,k,_⟩:=d;have:=NT h k (by show(47:TypeId)≠_;decide);grind
end
def F9(w V:H)(R B:Nat)(s:ByteArray)(I E A:Int)(c:Rat):Prop:=
 DV V R s I E A/\(∃a l ca sg b k d t,JB V B 47 (C a l ca) (F sg) (C b k d) (F t)/\Jk V (S #[C a l ca,F sg,C b k d,F t]) c)/\w.grownBy V (some R)/\w.heap.size<=B
section
variable {w V V':World} {R B:Nat} {s:ByteArray} {I E A I' E' A':Int} {c:Rat}
def F9.below(h:F9 w V R B s I E A c)(e:Bl V V'):F9 w V' R B s I E A c:=by
 obtain⟨f,⟨a,l,ca,sg,b,k,d,t,g,i⟩,j,m⟩:=h;exact⟨f.below e,⟨a,l,ca,sg,b,k,d,t,g.below e,i.below e⟩,Jf j (Ya e _),m⟩
def F9.rd(h:F9 w V R B s I E A c)(o:DV V' R s I' E' A')(hg:V.grownBy V' (some R)):F9 w V' R B s I' E' A' c:=by
 obtain⟨g,⟨a,l,ca,sg,b,k,d,t,f,j⟩,m,n⟩:=h;have i:B≠R:=NT g f DK;exact⟨o,⟨a,l,ca,sg,b,k,d,t,(hg.block B f.lt λe=>i (Ck e)).trans f,j.rd g hg⟩,Jf m hg,n⟩
def Yl{w V:H}{r:Option Nat}{B:Nat}(h:w.grownBy V r)(s:w.heap.size<=B)(o:Nat)(x:M):w.grownBy (V.setCell ⟨B,o,none⟩ x) r:=by
 have n:=JH V B o x;obtain⟨a,b,c,d,f⟩:=h;obtain⟨g,j,k,l,m⟩:=n;exact⟨g.trans a,j.trans b,k.trans c,Af d l,λi p q=>(m i O (by intro e;cases e;omega)).trans (f i p q)⟩
def F9.put(h:F9 w V R B s I E A c){a:nJ}{l ca:Nat}{sg:Bool}{b:nJ}{k d:Nat}{t:Bool}{c':Rat}(u:Jk V (S #[C a l ca,F sg,C b k d,F t]) c'):
 F9 w (put4 V B (C a l ca) (F sg) (C b k d) (F t)) R B s I E A c':=by
 obtain⟨m,⟨v,D,x,K,b0,z,d0,T,j,y⟩,q,f⟩:=h;have i:R≠B:=λe=>NT m j DK e.symm;refine⟨?_,⟨a,l,ca,sg,b,k,d,t,j.put _ _ _ _,Dr.keep (r:=false) u λ_ _ _ g=>Row.put4 g j J J J J _ _ _ _⟩,Yl (Yl (Yl (Yl q f 0 _) f 1 _) f 2 _) f 3 _,f⟩;have n:=(BC V ⟨B,0,none⟩ (C a l ca) R i).trans m;have o:=(BC _ ⟨B,1,none⟩ (F sg) R i).trans n;have p:=(BC _ ⟨B,2,none⟩ (C b k d) R i).trans o;exact(BC _ ⟨B,3,none⟩ (F t) R i).trans p
end
end
variable{A1 g:Int}{l:List UInt8}{b d n p:Nat}
def Sok.word(h:n<1000000000000):Sok (n:Int):=Sok.of (k:=1) (by unfold Sm Z;omega) O
def GA(c:Rat):Prop:=∃x y:Nat,c=nM (x:Int) (y:Int)/\x<1000000000000/\y≠0/\y<1000000000000
theorem GA.one:GA 1:=⟨1,1,DK,O,O,O⟩
def GC(l:List UInt8)(I:Nat)(E A:Int)(c:Rat)(a:Nat)(b A1:Int):Prop:=
 b=Dz (F8 l I) E/\A1=EG (F8 l I) E A/\GA c/\a<=l.length/\(E=0->∀c0 k,F8 l I=.ok c0 k->c=c0/\a=k)
def fZ{I:Nat}{E A:Int}(b:I<=l.length)(h:(decide (E=0)&&Ye l (DL l I) 120)=true):GC l I E A 1 (DL l I) E A:=by
 rw[AY]at h;have e:F8 l I=.ok 1 (DL l I):=by unfold F8;rw[BG h.2]
 refine⟨(F7 e E A).1.symm,(F7 e E A).2.symm,GA.one,Yx b,λ_ c0 k a=>?_⟩;rw[e]at a;cases a;exact⟨J,J⟩
def Th{I:Nat}{E:Int}(h:(decide (E=0)&&Ye l (DL l I) 120)=false)(hE:E=0):F8 l I=YG l I:=by
 rw[hE]at h;simp at h;unfold F8;rw[h];simp
def Pf(n:Nat):nM (n:Int) 1=((n:Int):Rat):=by
 rw[<-CT ((n:Int):Rat)];simp
def fu{I:Nat}{E A:Int}(h:(decide (E=0)&&Ye l (DL l I) 120)=false)(hp:DL l I=p)(r:EC l p=p+d)(m:YW l p d n)
(f:(decide (Dz (J3 l I) E=0)&&Ye l (DL l (p+d)) 47)=false):GC l I E A (nM (n:Int) 1) (DL l (p+d)) (Dz (J3 l I) E) (EG (J3 l I) E A):=by
 have i:GA (nM (n:Int) 1):=⟨n,1,J,m.lt12,O,O⟩;have c:DL l (p+d)<=l.length:=Yx m.1;by_cases hE:E=0
 . rw[GC,Th h hE];subst hE;cases b:J3 l I with
   |error e q=>
    have g:YG l I=.error e q:=by unfold YG;rw[b]
    rw[g];exact⟨J,J,i,c,λ_ c0 k j=>by cases j⟩
   |ok a k=>
    obtain⟨ds,s⟩:=a;obtain⟨rfl,rfl,rfl⟩:=m.of_ok hp r b;rw[b,(F7 J 0 0).1]at f;simp at f;have g:YG l I=.ok ((num ds:Int):Rat) (DL l (s+d)):=by unfold YG;rw[b];simp[f]
    rw[g];refine⟨J,J,i,c,λ_ c0 k j=>?_⟩;cases j;exact⟨Pf _,J⟩
 . refine⟨?_,?_,i,c,λo=>absurd o hE⟩
   . rw[(IA _ hE A).1,(IA _ hE A).1]
   . rw[(IA _ hE A).2,(IA _ hE A).2]
def fw{I:Nat}{E A:Int}{o u:Nat}(h:(decide (E=0)&&Ye l (DL l I) 120)=false)(hp:DL l I=p)(R:EC l p=p+d)(w:YW l p d n)
(m:(decide (Dz (J3 l I) E=0)&&Ye l (DL l (p+d)) 47)=true)(U:DL l (DL l (p+d)+1)=b)(T:EC l b=b+o)(i:YW l b o u)(f v:Int)(r:f=Dz (J3 l (DL l (p+d)+1)) (Dz (J3 l I) E))(hA2:v=EG (J3 l (DL l (p+d)+1)) (Dz (J3 l I) E) (EG (J3 l I) E A)):
 (u=0->GC l I E A (nM (n:Int) 1) (b+o) (if f=0 then 4 else f) (if f=0 then(b:Int)else v))/\(u≠0->GC l I E A (nM (n:Int) (u:Int)) (b+o) f v):=by
 rw[AY,BW]at m;obtain⟨hE,a,k,t⟩:=Pe (Kt l I) m.1;obtain⟨ds,V⟩:=a;obtain⟨rfl,rfl,rfl⟩:=w.of_ok hp R t;subst hE;have z:GA (nM (num ds:Int) 1):=⟨num ds,1,J,w.lt12,O,O⟩;rw[m.1]at r hA2;rw[t,(F7 J 0 A).2]at hA2;unfold GC;rw[Th h J];cases c:J3 l (DL l (V+d)+1)with
 |error e q=>
  have s:YG l I=.error e q:=by unfold YG;rw[t];simp[m.2,c]
  have W:=Kt _ _ _ _ c;rw[c]at r hA2;have K:f=(e:Int):=r;have D:v=(q:Int):=hA2;have x:¬f=0:=O
  rw[s,BD x,BD x,K,D];refine⟨λ_=>⟨J,J,z,i.1,λ_ c0 k g=>by cases g⟩,λj=>⟨J,J,⟨num ds,u,J,w.lt12,j,i.lt12⟩,i.1,λ_ c0 k g=>by cases g⟩⟩
 |ok a k=>
  obtain⟨y,B⟩:=a;obtain⟨rfl,rfl,rfl⟩:=i.of_ok U T c;rw[c,(F7 J 0 A).1]at r;rw[c,(F7 J 0 A).2]at hA2;subst r hA2;rw[BG J,BG J];refine⟨λj=>?_,λj=>?_⟩
  . have s:YG l I=.error 4 B:=by unfold YG;rw[t];simp[m.2,c,j]
    rw[s];exact⟨J,J,z,i.1,λ_ c0 k g=>by cases g⟩
  . have s:YG l I=.ok (nM (num ds) (num y)) (B+o):=by unfold YG;rw[t];simp[m.2,c,j]
    rw[s];refine⟨J,J,⟨num ds,num y,J,w.lt12,j,i.lt12⟩,i.1,λ_ c0 k g=>?_⟩;cases g;exact⟨J,J⟩
def X3(l:List UInt8)(I:Nat)(E A:Int)(c:Rat)(n I':Nat)(E' A':Int):Prop:=
 E'=Dz (Yh l I) E/\A'=EG (Yh l I) E A/\(E=0->∀c0 a k,Yh l I=.ok (c0,a) k->c=c0/\n=a/\I'=k)
theorem GC.zero{I:Nat}{E A:Int}{c:Rat}(h:GC l I E A c b g A1)(e:g=0):E=0/\A1=A/\F8 l I=.ok c b:=by
 have d:=h.1;rw[e]at d;obtain⟨hE,c0,k,a⟩:=Pe (Te l I) d.symm;obtain⟨rfl,rfl⟩:=h.2.2.2.2 hE c0 k a;exact⟨hE,h.2.1.trans (F7 a E A).2,a⟩
def GC.set{I:Nat}{E A:Int}{c:Rat}(h:GC l I E A c b g A1)(m:g≠0)(n I':Nat):X3 l I E A c n I' g A1:=by
 by_cases hE:E=0
 . subst hE;cases f:F8 l I with
   |ok c0 k=>
    have:=h.1;rw[f,(F7 J 0 A).1]at this;exact absurd this m
   |error e p=>
    have i:Yh l I=.error e p:=by rw[Ig,f]
    have a:=h.1;have d:=h.2.1;rw[f]at a d;exact⟨by rw[i];exact a,by rw[i];exact d,λ_ c0 o k j=>by rw[i]at j;cases j⟩
 . have a:=h.1;have d:=h.2.1;rw[(IA _ hE A).1]at a;rw[(IA _ hE A).2]at d;exact⟨by rw[(IA _ hE A).1];exact a,by rw[(IA _ hE A).2];exact d,λh=>absurd h hE⟩
theorem X3.of{I:Nat}{A:Int}{c:Rat}{I':Nat}(h:Yh l I=.ok (c,n) I'):X3 l I 0 A c n I' 0 A:=by
 refine⟨by rw[(F7 h 0 A).1],by rw[(F7 h 0 A).2],λ_ c0 b k a=>?_⟩;rw[h]at a;cases a;exact⟨J,J,J⟩
def X3.bad{I:Nat}{A:Int}{e:Nat}(c:Rat)(n I':Nat)(h:Yh l I=.error e p):X3 l I 0 A c n I' e p:=by
 exact⟨by rw[h];rfl,by rw[h];rfl,λ_ c0 b k a=>by rw[h]at a;cases a⟩
def fz{I:Nat}{E A:Int}{c:Rat}(h:GC l I E A c b g A1)(d:(decide (g=0)&&Ye l (DL l b) 120)=false):X3 l I E A c 0 (DL l b) g A1:=by
 by_cases a:g=0
 . obtain⟨rfl,rfl,e⟩:=h.zero a;subst a;simp at d;refine X3.of ?_;rw[Ig,e];simp[d]
 . exact h.set a _ _
def gA{I:Nat}{E A:Int}{c:Rat}(h:GC l I E A c b g A1)(a:(decide (g=0)&&Ye l (DL l b) 120)=true)(e:(decide (g=0)&&Ye l (DL l (DL l b+1)) 94)=false):X3 l I E A c 1 (DL l (DL l b+1)) g A1:=by
 rw[AY,BW]at a;obtain⟨d,a⟩:=a;obtain⟨rfl,rfl,f⟩:=h.zero d;subst d;simp at e;refine X3.of ?_;rw[Ig,f];simp[a,EK,e]
def gC{I:Nat}{E A:Int}{c:Rat}(h:GC l I E A c b g A1)(j:(decide (g=0)&&Ye l (DL l b) 120)=true)(m:(decide (g=0)&&Ye l (DL l (DL l b+1)) 94)=true)(hp:DL l (DL l (DL l b+1)+1)=p)(z:EC l p=p+d)(B:YW l p d n)(i o:Int)
(r:i=Dz (J3 l (DL l (DL l b+1)+1)) g)(hA5:o=EG (J3 l (DL l (DL l b+1)+1)) g A1):(8<n->X3 l I E A c 0 (p+d) (if i=0 then 3 else i) (if i=0 then(p:Int)else o))/\(¬8<n->X3 l I E A c n (p+d) i o):=by
 rw[AY,BW]at j m;obtain⟨v,j⟩:=j;obtain⟨_,m⟩:=m;obtain⟨rfl,rfl,t⟩:=h.zero v;subst v;cases f:J3 l (DL l (DL l b+1)+1)with
 |error e q=>
  rw[f]at r hA5;have K:=Kt _ _ _ _ f;have y:i=(e:Int):=r;have x:o=(q:Int):=hA5;have u:¬i=0:=O
  have w:Yh l I=.error e q:=by rw[Ig,t];simp[j,EK,m,f]
  rw[BD u,BD u,y,x];exact⟨λ_=>X3.bad _ _ _ w,λ_=>X3.bad _ _ _ w⟩
 |ok a k=>
  obtain⟨D,R⟩:=a;obtain⟨rfl,rfl,rfl⟩:=B.of_ok hp z f;rw[f,(F7 J 0 0).1]at r;rw[f,(F7 J 0 _).2]at hA5;subst r hA5;rw[BG J,BG J];refine⟨λs=>X3.bad _ _ _ ?_,λs=>X3.of ?_⟩
  . rw[Ig,t];simp[j,EK,m,f,s]
  . rw[Ig,t];simp[j,EK,m,f,s]
def F9.new{w e:H}{R:Nat}{s:ByteArray}{I E A:Int}{c:Rat}(h:DV w R s I E A)(g:Bl w e){a:nJ}{l ca:Nat}{sg:Bool}{b:nJ}{k d:Nat}{t:Bool}(i:Jk e (S #[C a l ca,F sg,C b k d,F t]) c):
 F9 w (e.alloc (G #[C a l ca,F sg,C b k d,F t] 47)) R e.heap.size s I E A c:=by
 have f:Bl e (e.alloc (G #[C a l ca,F sg,C b k d,F t] 47)):=Ba e _;exact⟨(h.below g).below f,⟨a,l,ca,sg,b,k,d,t,JB.new _ _ _ _ _ _,i.below f⟩,Jf (Ya g _) (Ya f _),g.size⟩
def gD(R:Nat)(s:ByteArray)(I:Nat)(E A:Int)(w:H)(h:DV w R s I E A)(hI:I<=s.size)(hs:s.size<=300):
 Q L 99 #[.pointer (some ⟨R,0,none⟩)] w λr w'=>∃(u:M) (c:Rat) (n I':Nat),r=.returned u/\RowK false w' u (Jc (Df n [c]))/\n<=8/\GA c/\I'<=s.size/\DV w' R s (I':Int) (Dz (Yh (Je s) I) E) (EG (Yh (Je s) I) E A)/\(E=0->∀c0 n0 k,Yh (Je s) I=.ok (c0,n0) k->c=c0/\n=n0/\I'=k)/\w.grownBy w' (some R):=by
 have Uk:I<=(Je s).length:=by rw[Jl];exact hI
 obtain⟨b1,ce⟩:=ex ((decide (E=0)&&Ye (Je s) (DL (Je s) I) 120));have Ud:=Y ce;obtain⟨i,bc⟩:=ex (DL (Je s) I);have Qu:=Y bc;have Uh:i<=s.size:=by rw[<-bc,<-Jl];exact Yx Uk
 have HW:=Y (YD 1 O O w);have Uq:=Y λ(V:H) (f:DV V R s I E A)=>GM R s I E A 120 V f hI hs;rw[ce,bc]at Uq;have HH:=Y h;have Wg:=Y Uk;clear h ce bc Uk hI;go_enter func99,ntmps99
 go_upto_region 2 with(first
  |(go_at_call 41;refine HW.o.mono ?_;clear HW;rintro e w1 ⟨u1,rfl,di,ei⟩;obtain⟨fe,fk,fg,fl,ff,fj,fh,fm,rfl⟩:=Jk.form di))
 have hT:=F9.new HH.o ei di;obtain⟨W0,bu⟩:=ex (w1.alloc (G #[C fe fk fg,F fl,C ff fj fh,F fm] 47));rw[bu]at hT;rw[bu];obtain⟨B,hB⟩:=ex (w1.heap.size);rw[hB]at hT;rw[hB];have HT:=Y (show F9 w W0 R B s I E A 1 from hT);clear hT di ei bu hB;go_upto_if 15 with(first
  |(go_at_call 102;refine(Uq.o _ HT.o.1).mono ?_;clear Uq;rintro e w2 ⟨rfl,eo,dz⟩;have Qy:=Y (HT.o.rd eo dz);clear eo dz HT))
 go_cut [4] λv w'=>v=F b1/\∃(c:Rat) (T:Nat) (d A1:Int),Hid (F9 w w' R B s (T:Int) d A1 c/\GC (Je s) I E A c T d A1)
 case first=>
  cases b1 with
  |true=>
   go_wp2_with fail
   go_meet
   case rel=>exact⟨J,1,i,E,A,Y ⟨Qy.o,by rw[<-Qu.o];exact fZ Wg.o Ud.o⟩⟩
  |false=>
   obtain⟨d,bm⟩:=ex (Dz (J3 (Je s) I) E);obtain⟨A1,hA1⟩:=ex (EG (J3 (Je s) I) E A);have HN:=Y λ(V:H) (f:DV V R s i E A)=>Pd R s i E A i V f Uh hs (by rw[<-Qu.o];exact Ku _ _);have Uw:J3 (Je s) i=J3 (Je s) I:=by rw[<-Qu.o];exact fV _ _
   rw[Uw,bm,hA1]at HN;have Ua:=Y bm;have Ut:=Y hA1;clear bm hA1 Uw;go_upto_if 22 with(first
    |(go_at_call 149;refine(HN.o _ Qy.o.1).mono ?_;clear HN;rintro e w3 ⟨d1,n1,rfl,du,bi,ap,aj⟩;have X:=Y (Qy.o.rd ap aj);clear ap aj Qy;have Ux:=Y du;have Uv:=Y bi;have Uf:=bi.lt12;have ed:i+d1<=s.size:=(by rw[<-Jl];exact bi.1);clear du bi;obtain⟨b2,cj⟩:∃b,b=(decide (d=0)&&Ye (Je s) (DL (Je s) (i+d1)) 47):=⟨_,J⟩;have Ul:=Y cj;have Uo:=Y λ(V:H) (f:DV V R s ((i+d1:Nat):Int) d A1)=>Xk R s (i+d1) d A1 47 V f ed hs b2 cj;clear cj;obtain⟨I2,bf⟩:=ex (DL (Je s) (i+d1));rw[bf]at Uo;have Qp:=Y bf;have fs:I2<=s.size:=(by rw[<-bf,<-Jl];exact Yx (by rw[Jl];exact ed));clear bf)
    |(go_at_call 98;refine(Uo.o _ X.o.1).mono ?_;clear Uo;rintro e w4 ⟨rfl,aq,ak⟩;have K:=Y (X.o.rd aq ak);clear aq ak X))
   have Qn:=Y λ(V:H)=>Hb (n1:Int) O O V;have Ui:=Y (Sok.word Uf);cases b2 with
   |false=>
    obtain⟨W,Qz,HY⟩:=DX (λ(V:H)=>Hb 1 O O V) Sok.one (show(1:Int)≠0 by omega);go_wp2_with(first
     |(go_at_call 94;refine(Qn.o _).mono ?_;clear Qn;rintro e w6 ⟨f8,rfl,ah,ad⟩;have Qw:=Y (K.o.below ad);clear ad;have Qo:=Y ah;clear ah)
     |(go_at_call 94;refine(W.o _).mono ?_;clear W;rintro e w7 ⟨f9,rfl,ai,o⟩;have Qv:=Y (Qw.o.below o);have Qb:=Y (Qo.o.below o);clear o;have Qs:=Y ai;clear ai)
     |(go_at_call 95;refine(KF _ _ _ _ _ Qb.o Qs.o HY.o Ui.o Qz.o).mono ?_;rintro e w8 ⟨fc,rfl,q,ae⟩;have U:=Qv.o.below ae;clear ae;obtain⟨dj,ew,dm,f6,dk,et,dt,f7,rfl⟩:=Jk.form q;have Qt:=Y (U.put q);obtain⟨_,⟨x0,x1,x2,x3,x4,x5,x6,x7,a,_⟩,_,_⟩:=U;obtain⟨e0,e1,e2,e3⟩:=a.cq;obtain⟨g0,g1,g2,g3⟩:=a.fq;clear a q))
    go_meet
    case rel=>exact⟨J,_,_,_,_,Y ⟨Qt.o,by have:=fu (A:=A) Ud.o Qu.o Ux.o Uv.o (by rw[Ua.o];exact Ul.o.symm);rw[Qp.o,Ua.o,Ut.o]at this;exact this⟩⟩
   |true=>
    have Um:I2+1<=s.size:=by
     have h5:=Ul.o.symm;rw[AY]at h5;have h6:=Yg h5.2;rw[Qp.o,Jl]at h6;omega
    obtain⟨p2,de⟩:=ex (DL (Je s) (I2+1));have Qr:=Y λ(V:H) (f:DV V R s ((I2+1:Nat):Int) d A1)=>Pd R s (I2+1) d A1 p2 V f Um hs de;have Wd:=Y de;clear de;obtain⟨E2,bn⟩:=ex (Dz (J3 (Je s) (I2+1)) d);obtain⟨A2,hA2⟩:=ex (EG (J3 (Je s) (I2+1)) d A1);rw[bn,hA2]at Qr;have Wa:=Y bn;have We:=Y hA2;clear bn hA2;go_upto_if 29 with(first
     |(go_at_call 149;refine(Qr.o _ K.o.1).mono ?_;clear Qr;rintro e w5 ⟨d2,n2,rfl,dw,co,ay,am⟩;have D:=Y (K.o.rd ay am);clear ay am K;have Uy:=Y dw;have Qr:=Y co;have Ue:=co.lt12;clear dw co))
    have Qq:=Y (fw (A:=A) Ud.o Qu.o Ux.o Uv.o (by rw[Ua.o];exact Ul.o.symm) (by rw[Qp.o];exact Wd.o) Uy.o Qr.o E2 A2 (by rw[Qp.o,Ua.o];exact Wa.o.symm) (by rw[Qp.o,Ua.o,Ut.o];exact We.o.symm));by_cases bj:n2=0
    . have Wh:((n2:Int)==0)=true:=by rw[bj];rfl
      have Up:=Y bj;clear bj;obtain⟨HF,W,Qz,HY⟩:=Di (λ(V:H) (f:DV V R s ((p2+d2:Nat):Int) E2 A2)=>Ll R s ((p2+d2:Nat):Int) E2 A2 4 (p2:Int) V f) (λ(V:H)=>Hb 1 O O V) Sok.one (show(1:Int)≠0 by omega);go_wp2_with(first
       |(go_at_call 103;refine(HF.o _ D.o.1).mono ?_;clear HF;rintro e fo ⟨rfl,az,an⟩;have Qi:=Y (D.o.rd az an);clear az an D)
       |(go_at_call 94;refine(Qn.o _).mono ?_;clear Qn;rintro e w6 ⟨f8,rfl,ah,ad⟩;have Qw:=Y (Qi.o.below ad);clear ad;have Qo:=Y ah;clear ah)
       |(go_at_call 94;refine(W.o _).mono ?_;clear W;rintro e w7 ⟨f9,rfl,ai,o⟩;have Qv:=Y (Qw.o.below o);have Qb:=Y (Qo.o.below o);clear o;have Qs:=Y ai;clear ai)
       |(go_at_call 95;refine(KF _ _ _ _ _ Qb.o Qs.o HY.o Ui.o Qz.o).mono ?_;rintro e w8 ⟨fc,rfl,q,ae⟩;have U:=Qv.o.below ae;clear ae;obtain⟨dj,ew,dm,f6,dk,et,dt,f7,rfl⟩:=Jk.form q;have Qt:=Y (U.put q);obtain⟨_,⟨x0,x1,x2,x3,x4,x5,x6,x7,a,_⟩,_,_⟩:=U;obtain⟨e0,e1,e2,e3⟩:=a.cq;obtain⟨g0,g1,g2,g3⟩:=a.fq;clear a q))
      go_meet
      case rel=>exact⟨J,_,_,_,_,Y ⟨Qt.o,Qq.o.1 Up.o⟩⟩
    . have Wh:((n2:Int)==0)=false:=by rw[BI];omega
      obtain⟨W,Qz,HY⟩:=DX (λ(V:H)=>Hb (n2:Int) O O V) (Sok.word Ue) (show(n2:Int)≠0 by omega);go_wp2_with(first
       |(go_at_call 94;refine(Qn.o _).mono ?_;clear Qn;rintro e w6 ⟨f8,rfl,ah,ad⟩;have Qw:=Y (D.o.below ad);clear ad;have Qo:=Y ah;clear ah)
       |(go_at_call 94;refine(W.o _).mono ?_;clear W;rintro e w7 ⟨f9,rfl,ai,o⟩;have Qv:=Y (Qw.o.below o);have Qb:=Y (Qo.o.below o);clear o;have Qs:=Y ai;clear ai)
       |(go_at_call 95;refine(KF _ _ _ _ _ Qb.o Qs.o HY.o Ui.o Qz.o).mono ?_;rintro e w8 ⟨fc,rfl,q,ae⟩;have U:=Qv.o.below ae;clear ae;obtain⟨dj,ew,dm,f6,dk,et,dt,f7,rfl⟩:=Jk.form q;have Qt:=Y (U.put q);obtain⟨_,⟨x0,x1,x2,x3,x4,x5,x6,x7,a,_⟩,_,_⟩:=U;obtain⟨e0,e1,e2,e3⟩:=a.cq;obtain⟨g0,g1,g2,g3⟩:=a.fq;clear a q))
      go_meet
      case rel=>exact⟨J,_,_,_,_,Y ⟨Qt.o,Qq.o.2 bj⟩⟩
 case rest=>
  obtain⟨rfl,c,T,d,A1,y⟩:=hcut;have Us:T<=s.size:=by have:=y.o.2.2.2.2.1;rwa[Jl]at this
  obtain⟨b3,ck⟩:∃b,b=(decide (d=0)&&Ye (Je s) (DL (Je s) T) 120):=⟨_,J⟩;have Uc:=Y ck.symm;obtain⟨I3,bg⟩:=ex (DL (Je s) T);have HX:=Y λ(V:H) (f:DV V R s (T:Int) d A1)=>Xk R s T d A1 120 V f Us hs b3 ck;rw[bg]at HX;have Ug:I3<=s.size:=by rw[<-bg,<-Jl];exact Yx (by rw[Jl];exact Us)
  have z:=Y bg;clear bg ck Qy Ud;go_upto_if 40 with(first
   |(go_at_call 98;refine(HX.o _ y.o.1.1).mono ?_;clear HX;rintro e w3 ⟨rfl,ap,aj⟩;have X:=Y (y.o.1.rd ap aj);clear ap aj))
  cases b3 with
  |false=>
   obtain⟨_,⟨y0,y1,y2,y3,y4,y5,y6,y7,a,x⟩,_,_⟩:=X.o;obtain⟨e0,e1,e2,e3⟩:=a.cq;have j:=Y (Lk _ 0 c _ x O);clear a x;go_wp2_with(first
    |(go_at_call 150;refine j.o.mono ?_;clear j;rintro e w9 ⟨u9,rfl,t,p⟩;have l:=Y (X.o.below p);clear p;have m:=Y t;clear t;obtain⟨a7,l7,c7,rfl⟩:=m.o.form))
   go_ret;have g:=fz y.o.2 Uc.o;refine⟨_,c,0,_,J,m.o,O,y.o.2.2.2.1,by rw[z.o];exact Ug,?_,g.2.2,l.o.2.2.1⟩;rw[<-g.1,<-g.2.1];rw[z.o];exact l.o.1
  |true=>
   have Ub:I3+1<=s.size:=by
    have h5:=Uc.o;rw[AY]at h5;have h6:=Yg h5.2;rw[z.o,Jl]at h6;omega
   obtain⟨b4,cn⟩:∃b,b=(decide (d=0)&&Ye (Je s) (DL (Je s) (I3+1)) 94):=⟨_,J⟩;have Un:=Y cn.symm;obtain⟨I4,bh⟩:=ex (DL (Je s) (I3+1));have HX:=Y λ(V:H) (f:DV V R s ((I3+1:Nat):Int) d A1)=>Xk R s (I3+1) d A1 94 V f Ub hs b4 cn;rw[bh]at HX;have Uj:I4<=s.size:=by rw[<-bh,<-Jl];exact Yx (by rw[Jl];exact Ub)
   have Qm:=Y bh;clear bh cn;go_upto_if 45 with(first
    |(go_at_call 98;refine(HX.o _ X.o.1).mono ?_;clear HX;rintro e w4 ⟨rfl,aq,ak⟩;have K:=Y (X.o.rd aq ak);clear aq ak))
   cases b4 with
   |false=>
    obtain⟨_,⟨y0,y1,y2,y3,y4,y5,y6,y7,a,x⟩,_,_⟩:=K.o;obtain⟨e0,e1,e2,e3⟩:=a.cq;have j:=Y (Lk _ 1 c _ x O);clear a x;go_wp2_with(first
     |(go_at_call 150;refine j.o.mono ?_;clear j;rintro e w9 ⟨u9,rfl,t,p⟩;have l:=Y (K.o.below p);clear p;have m:=Y t;clear t;obtain⟨a7,l7,c7,rfl⟩:=m.o.form))
    go_ret;have g:=gA y.o.2 Uc.o (by rw[z.o];exact Un.o);refine⟨_,c,1,_,J,m.o,O,y.o.2.2.2.1,by rw[z.o,Qm.o];exact Uj,?_,g.2.2,l.o.2.2.1⟩;rw[<-g.1,<-g.2.1];rw[z.o,Qm.o];exact l.o.1
   |true=>
    have Ur:I4+1<=s.size:=by
     have h5:=Un.o;rw[AY]at h5;have h6:=Yg h5.2;rw[Qm.o,Jl]at h6;omega
    obtain⟨p5,dh⟩:=ex (DL (Je s) (I4+1));have Qx:=Y λ(V:H) (f:DV V R s ((I4+1:Nat):Int) d A1)=>Pd R s (I4+1) d A1 p5 V f Ur hs dh;have Wj:=Y dh;clear dh;obtain⟨E5,bt⟩:=ex (Dz (J3 (Je s) (I4+1)) d);obtain⟨A5,hA5⟩:=ex (EG (J3 (Je s) (I4+1)) d A1);rw[bt,hA5]at Qx;have Wb:=Y bt;have Wc:=Y hA5;clear bt hA5;go_upto_if 54 with(first
     |(go_at_call 149;refine(Qx.o _ K.o.1).mono ?_;clear Qx;rintro e w5 ⟨d5,n5,rfl,dx,bk,ay,am⟩;have D:=Y (K.o.rd ay am);clear ay am K;have Uz:=Y dx;have Qx:=Y bk;have ft:=bk.lt12;have Uu:p5+d5<=s.size:=(by rw[<-Jl];exact bk.1);clear dx bk))
    have Qq:=Y (gC y.o.2 Uc.o (by rw[z.o];exact Un.o) (by rw[z.o,Qm.o];exact Wj.o) Uz.o Qx.o E5 A5 (by rw[z.o,Qm.o];exact Wb.o.symm) (by rw[z.o,Qm.o];exact Wc.o.symm));by_cases h8:8<n5
    . have fi:(8:Int)<(n5:Int):=O
      have HF:=Y λ(V:H) (f:DV V R s ((p5+d5:Nat):Int) E5 A5)=>Ll R s ((p5+d5:Nat):Int) E5 A5 3 (p5:Int) V f;go_upto_region 21 with(first
       |(go_at_call 103;refine(HF.o _ D.o.1).mono ?_;clear HF;rintro e fo ⟨rfl,az,an⟩;have Qi:=Y (D.o.rd az an);clear az an D))
      obtain⟨_,⟨y0,y1,y2,y3,y4,y5,y6,y7,a,x⟩,_,_⟩:=Qi.o;obtain⟨e0,e1,e2,e3⟩:=a.cq;have j:=Y (Lk _ 0 c _ x O);clear a x;go_wp2_with(first
       |(go_at_call 150;refine j.o.mono ?_;clear j;rintro e w9 ⟨u9,rfl,t,p⟩;have l:=Y (Qi.o.below p);clear p;have m:=Y t;clear t;obtain⟨a7,l7,c7,rfl⟩:=m.o.form))
      go_ret;have g:=Qq.o.1 h8;refine⟨_,c,0,p5+d5,J,m.o,O,y.o.2.2.2.1,Uu,?_,g.2.2,l.o.2.2.1⟩;rw[<-g.1,<-g.2.1];exact l.o.1
    . have fi:¬(8:Int)<(n5:Int):=O
      obtain⟨_,⟨y0,y1,y2,y3,y4,y5,y6,y7,a,x⟩,_,_⟩:=D.o;obtain⟨e0,e1,e2,e3⟩:=a.cq;have j:=Y (Lk _ n5 c _ x O);clear a x;go_wp2_with(first
       |(go_at_call 150;refine j.o.mono ?_;clear j;rintro e w9 ⟨u9,rfl,t,p⟩;have l:=Y (D.o.below p);clear p;have m:=Y t;clear t;obtain⟨a7,l7,c7,rfl⟩:=m.o.form))
      go_ret;have g:=Qq.o.2 h8;refine⟨_,c,n5,p5+d5,J,m.o,O,y.o.2.2.2.1,Uu,?_,g.2.2,l.o.2.2.1⟩;rw[<-g.1,<-g.2.1];exact l.o.1

