import Derived.Test.YtcahejkcdcjjgaaGreatDoorV28
import Derived.Test.YtcahejkcdcjjgaaGreatDoorV25
set_option linter.all false
open Go.Value renaming slice->C,bool->F,int->N
open Go.Obj renaming cells->G
open Go renaming World->H,Value->M,Calls->Q
open Go.Proofs.Tryz renaming prog->L
open Go.IntKind renaming i64->P
set_option maxRecDepth 99999
set_option maxHeartbeats 0
namespace Go.Proofs.YtcahejkcdcjjgaaGreatDoor
open Rat renaming divInt->WD
open Proofs.Tryz
open Go.RowKit Go.Shelf
attribute [local go_sem] Oper.semAt_some
section
def Nv(W:H):M->Nat
 |C (some p) l _=>val 10000 ((List.range l).map λj=>FO W ⟨p.block,p.off+j,none⟩)
 |_=>0
variable{l n:Nat}{a:V8}
def RN.rowVal{W:H}{c:Nat}(h:RN W (C a l c) n):Nv W (C a l c)=n:=by
 obtain⟨f,_,_,_,g⟩:=Jn h;rcases AJ l with d|d
 . subst d;have o:n=0:=(Jz O).1 (Ah f.symm);subst o;cases a<;>rfl
 . obtain⟨b,i,rfl,_,_⟩:=g 0 d;show val 10000 ((List.range l).map λj=>FO W ⟨b,i+j,none⟩)=n;have e:(List.range l).map (λj=>FO W ⟨b,i+j,none⟩)=Jb 10000 n:=by
    refine List.ext_getElem (by rw[List.length_map,List.length_range];exact f) λj q k=>?_;obtain⟨p,r,e,_,m⟩:=g j O;cases e;rw[List.getElem_map,List.getElem_range,FO,m,Am k];rfl
   rw[e,Jk O]
def Nw{m:Nat}(h:n<=m):(Jb 10000 n).length<=(Jb 10000 m).length:=by
 rcases AD (Jb 10000 m).length (Jb 10000 n).length with a|a
 . have:=Yj O a;omega
 . exact a
def Tk(o vb:M)(x y:Int)(w:H)(ha:Jp w o x)(hb:Jp w vb y)(ah:Dl x<=100000000000)(ai:Dl y<=100000000000):
 Q L 125 #[o,vb] w λe w'=>∃u,e=.returned u/\Jp w' u (Int.gcd x y:Nat)/\Bl w w':=by
 obtain⟨a,la,m,rfl,A⟩:=ha;obtain⟨b,lb,n,rfl,B⟩:=hb;obtain⟨s,hs⟩:=ex (decide (x<0));obtain⟨t,ht⟩:=ex (decide (y<0));rw[hs,ht];clear hs ht;obtain⟨W0,i⟩:=ex (((w.alloc (G #[C a la m,F s] 47)).alloc (G #[C b lb n,F t] 47)).alloc (G #[C none 0 0,F false] 47));have q:Bl w W0:=by rw[<-i];exact XU w _ _ _
 have b0:Ji W0 w.heap.size 47 (C a la m) (F s):=by rw[<-i];exact((Ji.new w _ _ _).alloc _).alloc _
 have b1:Ji W0 (w.heap.size+1) 47 (C b lb n) (F t):=by
  have h:=(Ji.new (w.alloc (G #[C a la m,F s] 47)) 47 (C b lb n) (F t)).alloc (G #[C none 0 0,F false] 47);rw[A1,i]at h;exact h
 have bR:Ji W0 (w.heap.size+1+1) 47 (C none 0 0) (F false):=by
  have h:=Ji.new ((w.alloc (G #[C a la m,F s] 47)).alloc (G #[C b lb n,F t] 47)) 47 (C none 0 0) (F false);rw[A1,A1,i]at h;exact h
 have r0:=RN.below A q;have r1:=RN.below B q;have k0:=b0.c0;have k2:=b1.c0;have R:la<=100000000000:=by rw[RN.len A];exact ah
 have T:lb<=100000000000:=by rw[RN.len B];exact ai
 have K:=Z i;clear i A B ah ai;go_enter func125,ntmps125
 go_upto_region 1 with fail
 rw[K.o];clear K;go_wp2_with fail
 go_loopw [5,6] (λxv D wr=>∃(f:V8) (d c0 X:Nat) (l:V8) (g c1 c:Nat),xv=C f d c0/\D=C l g c1/\Hid (RN wr (C f d c0) X)/\Hid (RN wr (C l g c1) c)/\Hid (Nat.gcd X c=Int.gcd x y)/\(d<=100000000000/\g<=100000000000)/\Bl W0 wr)
  (λ_ D wr=>Nv wr D)
 case atStart=>exact⟨a,la,m,x.natAbs,b,lb,n,y.natAbs,J,J,Z r0,Z r1,Z J,⟨R,T⟩,BF _ W0⟩
 case round=>
  clear r0 r1 R T;obtain⟨f,d,c0,X,l,g,c1,c,rfl,rfl,W,j,V,⟨aj,ae⟩,r⟩:=hrel;rcases AJ g with U|U
  . subst U;have S:c=0:=(Jz O).1 (Ah (RN.len j.o).symm);have HE:=Z (show X=Int.gcd x y by rw[<-V.o,S,Nat.gcd_zero_right]);have k:=bR.below r;obtain⟨q0,q1⟩:=k.cp;obtain⟨f0,f1⟩:=k.fp;clear S;go_wp2_with fail
    have E:=(F2 W.o).box k J J (x0:=C f d c0) (x1:=F false);rw[HE.o]at E;have Qj:=Bt q r;have z0:=((k.set0 (C f d c0)).set1 (F false)).c0;have z1:=((k.set0 (C f d c0)).set1 (F false)).c1;exact BE (by simp[results,results125,go_sem,z0,z1]) J ⟨_,J,E,(Qj.setCell (p:=⟨_,0,none⟩) so _).setCell (p:=⟨_,1,none⟩) so _⟩
  . have Qi:c≠0:=λe=>by
     have h:=RN.len j.o;rw[e,Jw]at h;simp at h;omega
    have Qk:=Z (Nu f d c0 l g c1 X c wr W.o j.o Qi aj ae);have I:=AN X (show c>0 by omega);go_wp2_with(go_at_call 157;refine Qk.o.mono ?_;rintro e w2 ⟨u,v,rfl,hu,z,ad⟩;obtain⟨ua,uc,rfl⟩:=RN.form hu;obtain⟨o,vc,rfl⟩:=RN.form z)
    have Ql:=RN.below j.o ad;refine⟨⟨l,g,c1,c,o,_,vc,X%c,J,J,Z Ql,Z z,Z (by rw[<-V.o,CK c,<-Nat.gcd_rec,CK]),⟨ae,?_⟩,Bt r ad⟩,?_⟩
    . have h1:=Nw (Nat.le_of_lt I);rw[<-RN.len j.o]at h1;omega
    . rw[RN.rowVal z,RN.rowVal j.o];exact I
def Tl(w:H)(a b c d:M)(p0 p1:M):
 Ji ((((w.alloc (G #[a,b] 47)).alloc (G #[c,d] 47)).alloc (G #[p0,p1] 47)).alloc (G #[p0,p1] 47)) w.heap.size 47 a b/\
 Ji ((((w.alloc (G #[a,b] 47)).alloc (G #[c,d] 47)).alloc (G #[p0,p1] 47)).alloc (G #[p0,p1] 47)) (w.heap.size+1) 47 c d/\
 Ji ((((w.alloc (G #[a,b] 47)).alloc (G #[c,d] 47)).alloc (G #[p0,p1] 47)).alloc (G #[p0,p1] 47)) (w.heap.size+1+1) 47 p0 p1/\
 Ji ((((w.alloc (G #[a,b] 47)).alloc (G #[c,d] 47)).alloc (G #[p0,p1] 47)).alloc (G #[p0,p1] 47)) (w.heap.size+1+1+1) 47 p0 p1:=by
 refine⟨(((Ji.new w _ _ _).alloc _).alloc _).alloc _,?_,?_,?_⟩
 . have h:=((Ji.new (w.alloc (G #[a,b] 47)) 47 c d).alloc (G #[p0,p1] 47)).alloc (G #[p0,p1] 47);rw[A1]at h;exact h
 . have h:=(Ji.new ((w.alloc (G #[a,b] 47)).alloc (G #[c,d] 47)) 47 p0 p1).alloc (G #[p0,p1] 47);rw[A1,A1]at h;exact h
 . have h:=Ji.new (((w.alloc (G #[a,b] 47)).alloc (G #[c,d] 47)).alloc (G #[p0,p1] 47)) 47 p0 p1;rw[A1,A1,A1]at h;exact h
def Tm{W:H}{c:Nat}(h:RN W (C a l c) n)(m:Bool):Jp W (.agg #[C a l c,F (m&&decide (0<l))]) (if m=true then -(n:Int)else(n:Int)):=by
 have hl:=RN.len h;have f:0<l↔n≠0:=by
  rw[hl];constructor
  . intro b g;rw[g,Jw]at b;simp at b
  . intro b;exact Ap.2 λe=>b ((Jz O).1 e)
 cases m with
 |false=>
  refine⟨a,l,c,?_,by simp;exact h⟩
  have:decide ((n:Int)<0)=false:=BI O
  simp[this]
 |true=>
  refine⟨a,l,c,?_,by simp;exact h⟩;simp only[Bool.true_and,if_true]
  have:decide (0<l)=decide (-(n:Int)<0):=by
   by_cases d:n=0
   . rw[BI λb=>f.1 b d,BI O]
   . rw[BM (f.2 d),BM O]
  rw[this]
def Tn(a:V8)(la ca:Nat)(b:V8)(lb cb X d:Nat)(s t:Bool)(z r:Int)(w:H)(hu:RN w (C a la ca) X)(hv:RN w (C b lb cb) d)(hY:d≠0)(bg:la<=100000000000)(bh:lb<=100000000000)
(HP:Hid (¬(s=true/\X%d≠0)->(if(!(s==t))=true then -((X/d:Nat):Int)else((X/d:Nat):Int))=z/\((X%d:Nat):Int)=r))
(HN:Hid (s=true/\X%d≠0->(if(!(s==t))=true then -((X/d+1:Nat):Int)else((X/d+1:Nat):Int))=z/\((d-X%d:Nat):Int)=r)):
 Q L 127 #[.agg #[C a la ca,F s],.agg #[C b lb cb,F t]] w λe k=>∃q o,e=.returned (.tuple #[q,o])/\Jp k q z/\Jp k o r/\Bl w k:=by
 obtain⟨b0,b1,b4,b5⟩:=Tl w (C a la ca) (F s) (C b lb cb) (F t) (C none 0 0) (F false);have Qo:=NQ w (G #[C a la ca,F s] 47) (G #[C b lb cb,F t] 47) (G #[C none 0 0,F false] 47) (G #[C none 0 0,F false] 47);obtain⟨W0,ak⟩:=ex ((((w.alloc (G #[C a la ca,F s] 47)).alloc (G #[C b lb cb,F t] 47)).alloc (G #[C none 0 0,F false] 47)).alloc (G #[C none 0 0,F false] 47));rw[ak]at b0 b1 b4 b5 Qo;have Uj:=Z ak;have Uf:=RN.below hu Qo;have Qw:=RN.below hv Qo;have Uk:=Z (Nu a la ca b lb cb X d W0 Uf Qw hY bg bh);have Ug:=Z Qw;have Ul:=Z (RN.len hu).symm;obtain⟨k0,k1⟩:=b0.cp;obtain⟨f,k3⟩:=b1.cp;clear ak hu hv Uf Qw;go_enter func127,ntmps127
 go_upto_region 1 with fail
 rw[Uj.o];go_upto_region 2 with(go_at_call 157;refine Uk.o.mono ?_;rintro e w1 ⟨u1,v1,rfl,aq,az,aj⟩;obtain⟨A,B,rfl⟩:=RN.form aq;obtain⟨va,vc,rfl⟩:=RN.form az)
 obtain⟨lr,ap⟩:=ex ((Jb 10000 (X%d)).length);obtain⟨lq,an⟩:=ex ((Jb 10000 (X/d)).length);have Ue:=Z (show lr=0↔X%d=0 by
  rw[<-ap];exact⟨λh=>(Jz O).1 (Ah h),λh=>by rw[h,Jw];rfl⟩)
 rw[ap]at az ⊢;rw[an]at aq ⊢;have bj:lq<=100000000000:=by
  have S:=Nw (m:=X) (n:=X/d) (CJ _ _);have h2:=Ul.o;omega
 have Ub:=Z an.symm;clear ap an;obtain⟨k0,k1⟩:=(b0.below aj).cp;obtain⟨f,k3⟩:=(b1.below aj).cp;have Qv:=Z (Fb A lq B (!(s==t)) w1);go_upto_region 3 with(go_at_call 141;refine Qv.o.mono ?_;rintro e w2 ⟨rfl,am⟩)
 obtain⟨I,bf⟩:=ex (((!(s==t))&&decide (0<lq)):Bool);have hI:=Tm (RN.below aq am) (!(s==t));rw[bf]at hI ⊢;obtain⟨W3,ai⟩:=ex (w2.alloc (G #[C A lq B,F I] 47));have Qi:Bl w2 W3:=by rw[<-ai];exact Ba w2 _
 have b8:Ji W3 w2.heap.size 47 (C A lq B) (F I):=by rw[<-ai];exact Ji.new w2 _ _ _
 have Qq:Bl w1 W3:=Bt am Qi;have Qf:Bl W0 W3:=Bt aj Qq;have Qu:=hI.below Qi;have Qy:=RN.below az Qq;have Qg:=Bt Qo Qf;obtain⟨K,bc⟩:=ex (w2.heap.size);have bi:w.heap.size+1+1+1<K:=by
  have S:=(b5.below (Bt aj am)).lt;omega
 rw[ai];rw[bc]at b8 ⊢;clear ai bc bf hI;have p0:=b0.below Qf;have p1:=b1.below Qf;have x:=b4.below Qf;have y:=b5.below Qf;clear b0 b1 b4 b5 k0 k1 f k3;obtain⟨k0,k1⟩:=p0.cp;obtain⟨f,k3⟩:=p1.cp;obtain⟨i,j⟩:=b8.cp;obtain⟨q0,q1⟩:=x.cp;obtain⟨q2,q3⟩:=y.cp;obtain⟨f0,f1⟩:=x.fp;obtain⟨f2,f3⟩:=y.fp;obtain⟨cd,bd⟩:=ex ((!s || decide (lr=0)):Bool);have Qh:=Z bd;clear bd;go_cut [31] λv w4=>v=F cd/\w4=W3
 case first=>
  cases s with
  |false=>
   have e5:cd=true:=by rw[<-Qh.o];rfl
   go_wp2_with fail
   go_meet
   case rel=>exact⟨by rw[e5],J⟩
  |true=>
   by_cases l:lr=0
   . have e5:cd=true:=by rw[<-Qh.o];simp;omega
     have T:((lr:Int)==0)=true:=by simp;omega
     clear l;go_wp2_with fail
     go_meet
     case rel=>exact⟨by rw[e5],J⟩
   . have e5:cd=false:=by rw[<-Qh.o];simp;omega
     have T:((lr:Int)==0)=false:=by simp;omega
     clear l;go_wp2_with fail
     go_meet
     case rel=>exact⟨by rw[e5],J⟩
 case rest=>
  obtain⟨rfl,rfl⟩:=hcut;cases cd with
  |true=>
   have hc:¬(s=true/\X%d≠0):=λ⟨S,h2⟩=>by
    have h:=Qh.o;rw[S]at h;simp at h;exact h2 (Ue.o.1 h)
   obtain⟨z1,z2⟩:=HP.o hc;rw[z1]at Qu;have Qv:=Z (Fb va lr vc s);have Qz:(s&&decide (0<lr))=false:=by
    have h:=Qh.o;cases s with
    |false=>rfl
    |true=>simp at h;simp;omega
   rw[Qz]at Qv;have Qt:=Z z2;clear Qz z1 z2 hc;go_wp2_with fail
   go_region_with (first
    |(go_at_call 141;refine(Qv.o _).mono ?_;rintro e w5 ⟨rfl,E⟩;have i:=((b8.drew).below E).c0;have j:=((b8.drew).below E).c1;have q0:=((x.drew).below E).c0;have q1:=((x.drew).below E).c1;have q2:=((y.drew).below E).c0;have q3:=((y.drew).below E).c1;have f0:=((x.drew).below E).f0;have f1:=((x.drew).below E).f1;have f2:=((y.drew).below E).f0;have f3:=((y.drew).below E).f1))
   all_goals
    go_wp2_with fail
    have Qj:Bl wc w5:=((BF _ wc).drew).trans (E.mono (Aa _));have D:=x.below Qj;have Qc:=y.below Qj;obtain⟨z4,z5⟩:=IV (C A lq B) (F I) (C va lr vc) (F false) D Qc;obtain⟨Qr,Qp⟩:=z4.cp;obtain⟨Qk,Qn⟩:=z5.cp;have Qd:Ji ((w5.setCell ⟨w.heap.size+1+1,0,none⟩ (C A lq B)).setCell ⟨w.heap.size+1+1,1,none⟩ (F I)) (w.heap.size+1+1+1) 47 (C none 0 0) (F false):=(Qc.far DJ _).far DJ _;have Qb:=(F2 Qy).below Qj;rw[Qt.o]at Qb;have Ql:=((Qu.below Qj).box D J J (x0:=C A lq B) (x1:=F I)).box Qd J J (x0:=C va lr vc) (x1:=F false);have Qm:=(Qb.box D J J (x0:=C A lq B) (x1:=F I)).box Qd J J (x0:=C va lr vc) (x1:=F false);have Qs:=Bt Qg Qj;exact BE (by simp[results,results127,go_sem,Qr,Qp,Qk,Qn]) J ⟨_,_,J,Ql,Qm,(((Qs.setCell (p:=⟨_,0,none⟩) so _).setCell (p:=⟨_,1,none⟩) so _).setCell (p:=⟨_,0,none⟩) so _).setCell (p:=⟨_,1,none⟩) so _⟩
  |false=>
   have hc:s=true/\X%d≠0:=by
    have h:=Qh.o;simp at h;exact⟨h.1,λe=>h.2 (Ue.o.2 e)⟩
   obtain⟨z1,z2⟩:=HN.o hc;rw[hc.1]at z1;have Ud:Jp wc (.agg #[C A lq B,F I]) (if(!(true==t))=true then -((X/d:Nat):Int)else((X/d:Nat):Int)):=by have h:=Qu;rw[hc.1]at h;exact h
   obtain⟨Ua,Uh,Qt⟩:=DY Ud z1 z2;have bk:=AN X (show d>0 by omega);obtain⟨Uc,Ui,Qe⟩:=DY (Ew 1 O O) (λ(V:H) (h:Bl wc V)=>Hm _ _ d (X%d) V (RN.below (RN.below Ug.o Qf) h) (RN.below Qy h) O (by rw[<-RN.len Ug.o];omega)) λ(V:H) (h:Bl wc V)=>Cw (Cw (b8.below h).c0 (Cw (b8.below h).c1 (p1.below h).c0)) (Cw (Cw (x.below h).c0 (Cw (x.below h).c1 (Cw (y.below h).c0 (y.below h).c1))) (Cw (x.below h).f0 (Cw (x.below h).f1 (Cw (y.below h).f0 (y.below h).f1))));have n1:¬K=w.heap.size+1+1:=O
   have n2:¬K=w.heap.size+1+1+1:=O
   have n3:¬w.heap.size+1+1=K:=O
   have n4:¬w.heap.size+1+1+1=K:=O
   have n5:¬w.heap.size+1+1=w.heap.size:=O
   have n6:¬w.heap.size=w.heap.size+1+1:=O
   clear hc Ud z1 z2 Qu;cases t with
   |true=>
    have Qx:=Z (show ∀(V:H) (u:M),Bl wc V->Jp V u 1->Q L 108 #[.agg #[C A lq B,F I],u] V λe k=>∃u,e=.returned u/\Jp k u z/\Bl V k from λV u h hu=>by
     have hx:=Ua.o.below h;simp only[beq_self_eq_true,Bool.not_true,Cx,if_false]at hx;have S:=KN _ u _ 1 V hx hu (by unfold Dl;rw[Cb,<-Ub.o];omega) (IU O O);have h2:=Uh.o;simp only[beq_self_eq_true,Bool.not_true,Cx,if_false]at h2;rw[show((X/d:Nat):Int)+1=z from by rw[<-h2];push_cast;rfl]at S;exact S)
    go_upto_region 6 with fail
    have c:Bl wc wc.drew:=(BF _ wc).drew;clear i j f q0 q1 q2 q3 f0 f1 f2 f3;obtain⟨⟨i,j,f⟩,⟨q0,q1,q2,q3⟩,f0,f1,f2,f3⟩:=Qe.o _ c;go_region_held3 (λk=>k.cell? ⟨K,0,none⟩=some (C A lq B)/\k.cell? ⟨K,1,none⟩=some (F I)/\k.cell? ⟨w.heap.size+1,0,none⟩=some (C b lb cb)) (first|(with_reducible exact⟨i,j,f⟩)|(go_keep;done))
     (first
      |(go_at_call 93;refine(Uc.o _).mono ?_;rintro e w5 ⟨u5,rfl,ah,g⟩;replace c:=Bt c g;clear g i j f q0 q1 q2 q3 f0 f1 f2 f3;obtain⟨⟨i,j,f⟩,⟨q0,q1,q2,q3⟩,f0,f1,f2,f3⟩:=Qe.o _ c)
      |(go_at_call 108;refine(Qx.o _ _ c ah).mono ?_;clear ah;rintro e w6 ⟨u6,rfl,l,g⟩;obtain⟨R,U,c5,rfl⟩:=l.form;obtain⟨W,ae⟩:=ex (decide (z<0));rw[ae]at l;rw[ae];clear ae;replace c:=Bt c g;clear g i j f q0 q1 q2 q3 f0 f1 f2 f3;obtain⟨⟨i,j,f⟩,⟨q0,q1,q2,q3⟩,f0,f1,f2,f3⟩:=Qe.o _ c)
      |(go_at_call 144;refine(Ui.o _ c).mono ?_;rintro e V0 ⟨u7,rfl,T,g⟩;obtain⟨a6,c6,rfl⟩:=RN.form T;obtain⟨l6,ad⟩:=ex ((Jb 10000 (d-X%d)).length);rw[ad]at T;rw[ad];clear ad;replace l:=l.below g;replace c:=Bt c g;clear g i j f q0 q1 q2 q3 f0 f1 f2 f3;obtain⟨⟨i,j,f⟩,⟨q0,q1,q2,q3⟩,f0,f1,f2,f3⟩:=Qe.o _ c))
    go_wp2_with fail
    have D:=x.below c;have Qc:=y.below c;obtain⟨z4,z5⟩:=IV (C R U c5) (F W) (C a6 l6 c6) (F false) D Qc;obtain⟨Qr,Qp⟩:=z4.cp;obtain⟨Qk,Qn⟩:=z5.cp;have Qd:Ji ((V0.setCell ⟨w.heap.size+1+1,0,none⟩ (C R U c5)).setCell ⟨w.heap.size+1+1,1,none⟩ (F W)) (w.heap.size+1+1+1) 47 (C none 0 0) (F false):=(Qc.far DJ _).far DJ _;have Qb:=F2 T;rw[Qt.o]at Qb;have Ql:=(l.box D J J (x0:=C R U c5) (x1:=F W)).box Qd J J (x0:=C a6 l6 c6) (x1:=F false);have Qm:=(Qb.box D J J (x0:=C R U c5) (x1:=F W)).box Qd J J (x0:=C a6 l6 c6) (x1:=F false);have Qs:=Bt Qg c;exact BE (by simp[results,results127,go_sem,Qr,Qp,Qk,Qn]) J ⟨_,_,J,Ql,Qm,(((Qs.setCell (p:=⟨_,0,none⟩) so _).setCell (p:=⟨_,1,none⟩) so _).setCell (p:=⟨_,0,none⟩) so _).setCell (p:=⟨_,1,none⟩) so _⟩
   |false=>
    have Qx:=Z (show ∀(V:H) (u:M),Bl wc V->Jp V u 1->Q L 158 #[.agg #[C A lq B,F I],u] V λe k=>∃u,e=.returned u/\Jp k u z/\Bl V k from λV u h hu=>by
     have hx:=Ua.o.below h;rw[BR (by rfl)]at hx;have S:=SW _ u _ 1 V hx hu (by unfold Dl;rw[C7,Cb,<-Ub.o];omega) (IU O O);have h2:=Uh.o;rw[BR (by rfl)]at h2;rw[show -((X/d:Nat):Int)-1=z from by rw[<-h2];push_cast;omega]at S;exact S)
    go_upto_region 7 with fail
    have c:Bl wc wc.drew:=(BF _ wc).drew;clear i j f q0 q1 q2 q3 f0 f1 f2 f3;obtain⟨⟨i,j,f⟩,⟨q0,q1,q2,q3⟩,f0,f1,f2,f3⟩:=Qe.o _ c;go_region_held3 (λk=>k.cell? ⟨K,0,none⟩=some (C A lq B)/\k.cell? ⟨K,1,none⟩=some (F I)/\k.cell? ⟨w.heap.size+1,0,none⟩=some (C b lb cb)) (first|(with_reducible exact⟨i,j,f⟩)|(go_keep;done))
     (first
      |(go_at_call 93;refine(Uc.o _).mono ?_;rintro e w5 ⟨u5,rfl,ah,g⟩;replace c:=Bt c g;clear g i j f q0 q1 q2 q3 f0 f1 f2 f3;obtain⟨⟨i,j,f⟩,⟨q0,q1,q2,q3⟩,f0,f1,f2,f3⟩:=Qe.o _ c)
      |(go_at_call 158;refine(Qx.o _ _ c ah).mono ?_;clear ah;rintro e w6 ⟨u6,rfl,l,g⟩;obtain⟨R,U,c5,rfl⟩:=l.form;obtain⟨W,ae⟩:=ex (decide (z<0));rw[ae]at l;rw[ae];clear ae;replace c:=Bt c g;clear g i j f q0 q1 q2 q3 f0 f1 f2 f3;obtain⟨⟨i,j,f⟩,⟨q0,q1,q2,q3⟩,f0,f1,f2,f3⟩:=Qe.o _ c)
      |(go_at_call 144;refine(Ui.o _ c).mono ?_;rintro e V0 ⟨u7,rfl,T,g⟩;obtain⟨a6,c6,rfl⟩:=RN.form T;obtain⟨l6,ad⟩:=ex ((Jb 10000 (d-X%d)).length);rw[ad]at T;rw[ad];clear ad;replace l:=l.below g;replace c:=Bt c g;clear g i j f q0 q1 q2 q3 f0 f1 f2 f3;obtain⟨⟨i,j,f⟩,⟨q0,q1,q2,q3⟩,f0,f1,f2,f3⟩:=Qe.o _ c))
    go_wp2_with fail
    have D:=x.below c;have Qc:=y.below c;obtain⟨z4,z5⟩:=IV (C R U c5) (F W) (C a6 l6 c6) (F false) D Qc;obtain⟨Qr,Qp⟩:=z4.cp;obtain⟨Qk,Qn⟩:=z5.cp;have Qd:Ji ((V0.setCell ⟨w.heap.size+1+1,0,none⟩ (C R U c5)).setCell ⟨w.heap.size+1+1,1,none⟩ (F W)) (w.heap.size+1+1+1) 47 (C none 0 0) (F false):=(Qc.far DJ _).far DJ _;have Qb:=F2 T;rw[Qt.o]at Qb;have Ql:=(l.box D J J (x0:=C R U c5) (x1:=F W)).box Qd J J (x0:=C a6 l6 c6) (x1:=F false);have Qm:=(Qb.box D J J (x0:=C R U c5) (x1:=F W)).box Qd J J (x0:=C a6 l6 c6) (x1:=F false);have Qs:=Bt Qg c;exact BE (by simp[results,results127,go_sem,Qr,Qp,Qk,Qn]) J ⟨_,_,J,Ql,Qm,(((Qs.setCell (p:=⟨_,0,none⟩) so _).setCell (p:=⟨_,1,none⟩) so _).setCell (p:=⟨_,0,none⟩) so _).setCell (p:=⟨_,1,none⟩) so _⟩
def Ij(j k:M)(x y:Int)(w:H)(n:Jp w j x)(p:Jp w k y)(i:y≠0)(r:Dl x<=100000000000)(s:Dl y<=100000000000):
 Q L 127 #[j,k] w λe d=>∃q o,e=.returned (.tuple #[q,o])/\Jp d q (x/y)/\Jp d o (x%y)/\Bl w d:=by
 obtain⟨a,la,l,rfl,f⟩:=n;obtain⟨b,lb,m,rfl,g⟩:=p;refine Tn a la l b lb m x.natAbs y.natAbs _ _ (x/y) (x%y) w f g O (by rw[RN.len f];exact r) (by rw[RN.len g];exact s) (λc=>NS i λh=>c ⟨BM h.1,h.2⟩) λc=>NT i ⟨Bj c.1,c.2⟩
def To(q:M)(x:Int)(w:H)(s:Jp w q x):
 Q L 98 #[q] w λe t=>e=.returned (N P x.sign)/\Bl w t:=by
 obtain⟨a,la,k,rfl,i⟩:=s;have j:=RN.len i;have y:=(Jn i).2.2.2.1;have f:Bl w (w.alloc (G #[C a la k,F (decide (x<0))] 47)):=Ba w _;have b0:=Ji.new w 47 (C a la k) (F (decide (x<0)));have m:la=0↔x=0:=by
  rw[j];constructor
  . intro h;have:=(Jz (B:=10000) O).1 (Ah h);omega
  . intro h;rw[h,Int.natAbs_zero,Jw];rfl
 have n:=Z m;obtain⟨W0,g⟩:=ex (w.alloc (G #[C a la k,F (decide (x<0))] 47));rw[g]at f b0;have c:=Z g;obtain⟨z,p⟩:=b0.cp;by_cases l:x<0
 . have d:decide (x<0)=true:=BM l;rw[d]at c p ⊢;have b:=Z (Int.sign_eq_neg_one_of_neg l);clear j m g i d b0;go_enter func98,ntmps98
   go_upto_region 1 with fail
   rw[c.o];go_wp2_with fail
   go_ret;exact⟨by rw[b.o];rfl,f⟩
 . have d:decide (x<0)=false:=BI l;rw[d]at c p ⊢;clear j m g i d b0;rcases AJ la with o|o
   . subst o;have b:=Z (show x.sign=0 by rw[n.o.1 J];rfl);go_enter func98,ntmps98
     go_upto_region 1 with fail
     rw[c.o];go_wp2_with fail
     go_ret;refine⟨?_,f⟩;rw[b.o];first|rfl|(simp;done)
   . have b:=Z (show x.sign=1 from Int.sign_eq_one_of_pos (by
      have:=n.o;rcases CW x 0 with h|h|h
      . omega
      . have:=this.2 h;omega
      . exact h))
     have r:min (1:Int) (la:Int)=1:=O
     have u:(1:Int)<=(la:Int):=O
     have v:¬((la:Int)<1):=O
     go_enter func98,ntmps98
     go_upto_region 1 with fail
     rw[c.o];go_wp2_with fail
     go_ret;refine⟨?_,f⟩;rw[b.o];first|rfl|(simp[r];done)
end
section
open M3
variable{l:Nat}{a:V8}
def Nx{x y:Int}(a:y≠0):(0:Int)<(Int.gcd x y:Nat):=by
 have:=Int.gcd_pos_of_ne_zero_right x a;omega
def Jo.mk{W:H}{s t:Bool}{b:V8}{c k d:Nat}{q:Rat}(e:Jp W (.agg #[C a l c,F s]) q.num)(f:Jp W (.agg #[C b k d,F t]) (q.den:Int)):Jo W (.agg #[C a l c,F s,C b k d,F t]) q:=⟨_,_,_,_,_,_,_,_,J,e,f⟩
def Jp.sign{W:H}{c:Nat}{s:Bool}{z:Int}(h:Jp W (.agg #[C a l c,F s]) z):s=decide (z<0):=by
 obtain⟨b,d,c',e,_⟩:=h;cases e;rfl
def F8(va vb:M)(x y:Int)(w:H)(ha:Jp w va x)(f:Jp w vb y)(hy:y≠0)(cn:Sok x)(co:Sok y):
 Q L 92 #[va,vb] w λe w'=>∃u,e=.returned u/\Jo w' u (WD x y)/\Bl w w':=by
 obtain⟨gc,iz,gp,ji,rfl⟩:=Jp.form2 ha;obtain⟨gg,ja,gq,jj,rfl⟩:=Jp.form2 f;obtain⟨W0,bf,M1⟩:=IL 47 (.big x) ha 47 (.big y) f 49 (.zref) J;obtain⟨r,Qa,Qb⟩:=DY hy cn co;clear ha f hy cn co;go_enter func92,ntmps92
 go_upto_region 1 with fail
 rw[bf.o];clear bf;obtain⟨a1,l1,c1,s1,n1,i1⟩:=M1.o.big (i:=0) J;obtain⟨Ui,Uk⟩:=n1.cp;obtain⟨a2,l2,c2,s2,n2,i2⟩:=M1.o.big (i:=1) J;obtain⟨Uj,Ug⟩:=n2.cp;go_upto_region 2 with(go_at_call 125;refine(Tk _ _ x y _ i1 i2 (by have:=Qa.o.size;omega) (by have:=Qb.o.size;omega)).mono ?_;rintro e w1 ⟨u,rfl,hu,f⟩;obtain⟨bn,ed,cj,fd,rfl⟩:=Jp.form2 hu)
 obtain⟨V3,b⟩:=ex (w1.alloc (G #[C bn ed cj,F fd] 47));obtain⟨g,c⟩:=ex (w1.heap.size);have a:DM w (w1.alloc (G #[C bn ed cj,F fd] 47)) [some (w.heap.size,.big x),some (w.heap.size+1,.big y),some (w.heap.size+1+1,.zref),some (w1.heap.size,.big (((Int.gcd x y:Nat):Int)))]:=DM.push (M1.o.below f) (.big (((Int.gcd x y:Nat):Int))) hu;rw[b,c]at a;rw[b];rw[c];have p:Hid (DM w V3 [some (w.heap.size,.big x),some (w.heap.size+1,.big y),some (w.heap.size+1+1,.zref),some (g,.big (((Int.gcd x y:Nat):Int)))]):=Z (a);clear M1;clear a b c;clear n1 Ui Uk i1 n2 Uj Ug i2 hu f;have HG:=Z (Sok.gcd Qa.o Qb.o);by_cases s:y<0
 . have HL:=Z s;obtain⟨a4,l4,c4,s4,n4,i4⟩:=p.o.big (i:=1) J;obtain⟨Uo,Uf⟩:=n4.cp;have hs:=Jp.sign i4;rw[BM s]at hs;subst hs;clear s;go_upto_region 3 with fail
   clear n4 Uo Uf i4;obtain⟨a5,l5,c5,s5,n5,i5⟩:=p.o.big (i:=3) J;obtain⟨Uc,Ud⟩:=n5.cp;go_upto_region 4 with(go_at_call 126;refine(L9 _ (((Int.gcd x y:Nat):Int)) _ i5).mono ?_;rintro e w6 ⟨u6,rfl,ap,am⟩;obtain⟨bt,ef,ck,fe,rfl⟩:=Jp.form2 ap;obtain⟨Uc,Ud⟩:=(n5.below am).cp;obtain⟨Um,Un⟩:=(n5.below am).fp)
   obtain⟨V6,b⟩:=ex ((w6.setCell ⟨g,0,none⟩ (C bt ef ck)).setCell ⟨g,1,none⟩ (F fe));have a:DM w ((w6.setCell ⟨g,0,none⟩ (C bt ef ck)).setCell ⟨g,1,none⟩ (F fe)) [some (w.heap.size,.big x),some (w.heap.size+1,.big y),some (w.heap.size+1+1,.zref),some (g,.big (-((Int.gcd x y:Nat):Int)))]:=DM.putBig (p.o.below am) (i:=3) J ap;rw[b]at a;rw[b];have q:Hid (DM w V6 [some (w.heap.size,.big x),some (w.heap.size+1,.big y),some (w.heap.size+1+1,.zref),some (g,.big (-((Int.gcd x y:Nat):Int)))]):=Z (a);clear p;clear a b;clear n5 Uc Ud i5 ap am Um Un;obtain⟨B,t,A⟩:=DY (show(-((Int.gcd x y:Nat):Int))≠0 by have:=Nx (x:=x) r.o;omega) (show(-((Int.gcd x y:Nat):Int))=(if y<0 then -((Int.gcd x y:Nat):Int)else((Int.gcd x y:Nat):Int))by rw[BR HL.o]) HG.o.neg;obtain⟨a7,l7,c7,s7,n7,i7⟩:=q.o.big (i:=0) J;obtain⟨Ue,Up⟩:=n7.cp;obtain⟨a8,l8,c8,s8,n8,i8⟩:=q.o.big (i:=3) J;obtain⟨Uh,Ul⟩:=n8.cp;go_upto_region 5 with(go_at_call 127;refine(Ij _ _ x ((-((Int.gcd x y:Nat):Int))) _ i7 i8 B.o (by have:=Qa.o.size;omega) (by have:=A.o.size;omega)).mono ?_;rintro e m ⟨u1,u2,rfl,j,k,f⟩;obtain⟨D,V,R,ae,rfl⟩:=Jp.form2 j;obtain⟨E,W,S,ah,rfl⟩:=Jp.form2 k)
   have a:=DM.push (DM.push (q.o.below f) (.big (x/(-((Int.gcd x y:Nat):Int)))) j) (.big (x%(-((Int.gcd x y:Nat):Int)))) (Has.alloc (d:=.big (x%(-((Int.gcd x y:Nat):Int)))) k _);simp only[A1]at a;have a:DM w ((m.alloc (G #[C D V R,F ae] 47)).alloc (G #[C E W S,F ah] 47)) [some (w.heap.size,.big x),some (w.heap.size+1,.big y),some (w.heap.size+1+1,.zref),some (g,.big (-((Int.gcd x y:Nat):Int))),some (m.heap.size,.big (x/(-((Int.gcd x y:Nat):Int)))),some (m.heap.size+1,.big (x%(-((Int.gcd x y:Nat):Int))))]:=a;obtain⟨fh,b⟩:=ex ((m.alloc (G #[C D V R,F ae] 47)).alloc (G #[C E W S,F ah] 47));obtain⟨B9,c⟩:=ex (m.heap.size);rw[b,c]at a;rw[b];rw[c];obtain⟨B10,l⟩:=ex (B9+1);rw[l]at a ⊢;have o:Hid (DM w fh [some (w.heap.size,.big x),some (w.heap.size+1,.big y),some (w.heap.size+1+1,.zref),some (g,.big (-((Int.gcd x y:Nat):Int))),some (B9,.big (x/(-((Int.gcd x y:Nat):Int)))),some (B10,.big (x%(-((Int.gcd x y:Nat):Int))))]):=Z (a);clear q;clear a b c l;clear n7 Ue Up i7 n8 Uh Ul i8 j k f;obtain⟨fu,ip,gh,jb,eh,cz⟩:=o.o.big (i:=1) J;obtain⟨Qr,Qk⟩:=eh.cp;obtain⟨fv,iq,gi,jc,ei,de⟩:=o.o.big (i:=3) J;obtain⟨Ub,Qz⟩:=ei.cp;go_upto_region 6 with(go_at_call 127;refine(Ij _ _ y ((-((Int.gcd x y:Nat):Int))) _ cz de B.o (by have:=Qb.o.size;omega) (by have:=A.o.size;omega)).mono ?_;rintro e n ⟨u1,u2,rfl,j,k,f⟩;obtain⟨I,X,T,ai,rfl⟩:=Jp.form2 j;obtain⟨K,ad,U,aj,rfl⟩:=Jp.form2 k)
   have a:=DM.push (DM.push (o.o.below f) (.big (y/(-((Int.gcd x y:Nat):Int)))) j) (.big (y%(-((Int.gcd x y:Nat):Int)))) (Has.alloc (d:=.big (y%(-((Int.gcd x y:Nat):Int)))) k _);simp only[A1]at a;have a:DM w ((n.alloc (G #[C I X T,F ai] 47)).alloc (G #[C K ad U,F aj] 47)) [some (w.heap.size,.big x),some (w.heap.size+1,.big y),some (w.heap.size+1+1,.zref),some (g,.big (-((Int.gcd x y:Nat):Int))),some (B9,.big (x/(-((Int.gcd x y:Nat):Int)))),some (B10,.big (x%(-((Int.gcd x y:Nat):Int)))),some (n.heap.size,.big (y/(-((Int.gcd x y:Nat):Int)))),some (n.heap.size+1,.big (y%(-((Int.gcd x y:Nat):Int))))]:=a;obtain⟨bg,b⟩:=ex ((n.alloc (G #[C I X T,F ai] 47)).alloc (G #[C K ad U,F aj] 47));obtain⟨bc,c⟩:=ex (n.heap.size);rw[b,c]at a;rw[b];rw[c];obtain⟨ff,l⟩:=ex (bc+1);rw[l]at a ⊢;have z:Hid (DM w bg [some (w.heap.size,.big x),some (w.heap.size+1,.big y),some (w.heap.size+1+1,.zref),some (g,.big (-((Int.gcd x y:Nat):Int))),some (B9,.big (x/(-((Int.gcd x y:Nat):Int)))),some (B10,.big (x%(-((Int.gcd x y:Nat):Int)))),some (bc,.big (y/(-((Int.gcd x y:Nat):Int)))),some (ff,.big (y%(-((Int.gcd x y:Nat):Int))))]):=Z (a);clear o;clear a b c l;clear eh Qr Qk cz ei Ub Qz de j k f;obtain⟨bi,dw,bu,f7,fo,fj⟩:=z.o.big (i:=4) J;obtain⟨gr,gt⟩:=fo.cp;obtain⟨bj,dx,bz,f8,fr,fk⟩:=z.o.big (i:=6) J;obtain⟨gw,gy⟩:=fr.cp;have aq:=z.o.zref (i:=2) J;obtain⟨Qw,Qp,Qg,Qj⟩:=aq.cq;obtain⟨ie,ig,ii,ij⟩:=aq.fq;have hr:Jo bg (.agg #[C bi dw bu,F f7,C bj dx bz,F f8]) (WD x y):=Jo.mk (by rw[Hw r.o,<-t.o];exact fj) (by rw[Hx r.o,<-t.o];exact fk);have Qf:=z.o.ge 2 J;have hB:=z.o.2.2;go_wp2_with fail
   exact BE (v:=.agg #[C bi dw bu,F f7,C bj dx bz,F f8]) (by simp[results,results92,go_sem,Qw,Qp,Qg,Qj]) J ⟨_,J,hr.put4 aq J J J J _ _ _ _,Jq hB Qf _ _ _ _⟩
 . have HL:=Z s;obtain⟨fw,ir,gj,jd,en,dh⟩:=p.o.big (i:=1) J;obtain⟨Qx,Qu⟩:=en.cp;have hs:=Jp.sign dh;rw[BI s]at hs;subst hs;clear s;go_upto_region 4 with fail
   clear en Qx Qu dh;obtain⟨B,t,A⟩:=DY (show((Int.gcd x y:Nat):Int)≠0 by have:=Nx (x:=x) r.o;omega) (show((Int.gcd x y:Nat):Int)=(if y<0 then -((Int.gcd x y:Nat):Int)else((Int.gcd x y:Nat):Int))by rw[BL (by have:=HL.o;omega)]) HG.o;obtain⟨fx,iu,gk,je,er,di⟩:=p.o.big (i:=0) J;obtain⟨Qh,Ua⟩:=er.cp;obtain⟨fy,iw,gl,jf,et,dj⟩:=p.o.big (i:=3) J;obtain⟨Qt,Qo⟩:=et.cp;go_upto_region 5 with(go_at_call 127;refine(Ij _ _ x (((Int.gcd x y:Nat):Int)) _ di dj B.o (by have:=Qa.o.size;omega) (by have:=A.o.size;omega)).mono ?_;rintro e m ⟨u1,u2,rfl,j,k,f⟩;obtain⟨D,V,R,ae,rfl⟩:=Jp.form2 j;obtain⟨E,W,S,ah,rfl⟩:=Jp.form2 k)
   have a:=DM.push (DM.push (p.o.below f) (.big (x/((Int.gcd x y:Nat):Int))) j) (.big (x%((Int.gcd x y:Nat):Int))) (Has.alloc (d:=.big (x%((Int.gcd x y:Nat):Int))) k _);simp only[A1]at a;have a:DM w ((m.alloc (G #[C D V R,F ae] 47)).alloc (G #[C E W S,F ah] 47)) [some (w.heap.size,.big x),some (w.heap.size+1,.big y),some (w.heap.size+1+1,.zref),some (g,.big (((Int.gcd x y:Nat):Int))),some (m.heap.size,.big (x/((Int.gcd x y:Nat):Int))),some (m.heap.size+1,.big (x%((Int.gcd x y:Nat):Int)))]:=a;obtain⟨fi,b⟩:=ex ((m.alloc (G #[C D V R,F ae] 47)).alloc (G #[C E W S,F ah] 47));obtain⟨ak,c⟩:=ex (m.heap.size);rw[b,c]at a;rw[b];rw[c];obtain⟨an,l⟩:=ex (ak+1);rw[l]at a ⊢;have q:Hid (DM w fi [some (w.heap.size,.big x),some (w.heap.size+1,.big y),some (w.heap.size+1+1,.zref),some (g,.big (((Int.gcd x y:Nat):Int))),some (ak,.big (x/((Int.gcd x y:Nat):Int))),some (an,.big (x%((Int.gcd x y:Nat):Int)))]):=Z (a);clear p;clear a b c l;clear er Qh Ua di et Qt Qo dj j k f;obtain⟨ga,ix,gn,jg,ew,dt⟩:=q.o.big (i:=1) J;obtain⟨Qn,Qq⟩:=ew.cp;obtain⟨gb,iy,go,jh,f6,du⟩:=q.o.big (i:=3) J;obtain⟨Qy,Qs⟩:=f6.cp;go_upto_region 6 with(go_at_call 127;refine(Ij _ _ y (((Int.gcd x y:Nat):Int)) _ dt du B.o (by have:=Qb.o.size;omega) (by have:=A.o.size;omega)).mono ?_;rintro e n ⟨u1,u2,rfl,j,k,f⟩;obtain⟨I,X,T,ai,rfl⟩:=Jp.form2 j;obtain⟨K,ad,U,aj,rfl⟩:=Jp.form2 k)
   have a:=DM.push (DM.push (q.o.below f) (.big (y/((Int.gcd x y:Nat):Int))) j) (.big (y%((Int.gcd x y:Nat):Int))) (Has.alloc (d:=.big (y%((Int.gcd x y:Nat):Int))) k _);simp only[A1]at a;have a:DM w ((n.alloc (G #[C I X T,F ai] 47)).alloc (G #[C K ad U,F aj] 47)) [some (w.heap.size,.big x),some (w.heap.size+1,.big y),some (w.heap.size+1+1,.zref),some (g,.big (((Int.gcd x y:Nat):Int))),some (ak,.big (x/((Int.gcd x y:Nat):Int))),some (an,.big (x%((Int.gcd x y:Nat):Int))),some (n.heap.size,.big (y/((Int.gcd x y:Nat):Int))),some (n.heap.size+1,.big (y%((Int.gcd x y:Nat):Int)))]:=a;obtain⟨bh,b⟩:=ex ((n.alloc (G #[C I X T,F ai] 47)).alloc (G #[C K ad U,F aj] 47));obtain⟨bd,c⟩:=ex (n.heap.size);rw[b,c]at a;rw[b];rw[c];obtain⟨fg,l⟩:=ex (bd+1);rw[l]at a ⊢;have o:Hid (DM w bh [some (w.heap.size,.big x),some (w.heap.size+1,.big y),some (w.heap.size+1+1,.zref),some (g,.big (((Int.gcd x y:Nat):Int))),some (ak,.big (x/((Int.gcd x y:Nat):Int))),some (an,.big (x%((Int.gcd x y:Nat):Int))),some (bd,.big (y/((Int.gcd x y:Nat):Int))),some (fg,.big (y%((Int.gcd x y:Nat):Int)))]):=Z (a);clear q;clear a b c l;clear ew Qn Qq dt f6 Qy Qs du j k f;obtain⟨bk,dz,ce,f9,fs,fl⟩:=o.o.big (i:=4) J;obtain⟨gz,ia⟩:=fs.cp;obtain⟨bm,eb,cg,fc,ft,fm⟩:=o.o.big (i:=6) J;obtain⟨ib,ic⟩:=ft.cp;have az:=o.o.zref (i:=2) J;obtain⟨Qv,Ql,Qi,Qm⟩:=az.cq;obtain⟨ik,il,im,io⟩:=az.fq;have hr:Jo bh (.agg #[C bk dz ce,F f9,C bm eb cg,F fc]) (WD x y):=Jo.mk (by rw[Hw r.o,<-t.o];exact fl) (by rw[Hx r.o,<-t.o];exact fm);have Qf:=o.o.ge 2 J;have hB:=o.o.2.2;go_wp2_with fail
   exact BE (v:=.agg #[C bk dz ce,F f9,C bm eb cg,F fc]) (by simp[results,results92,go_sem,Qv,Ql,Qi,Qm]) J ⟨_,J,hr.put4 az J J J J _ _ _ _,Jq hB Qf _ _ _ _⟩
def Ny(va vb:M)(p q:Rat)(w:H)(X:Jo w va p)(hb:Jo w vb q)(aj:Sq p)(ak:Sq q):
 Q L 71 #[va,vb] w λe c=>∃u,e=.returned u/\Jo c u (p+q)/\Bl w c:=by
 obtain⟨bj,ck,bt,de,bm,cg,bz,di,rfl⟩:=Jo.form X;obtain⟨bk,cn,bu,dh,bn,cj,ce,dj,rfl⟩:=Jo.form hb;obtain⟨W0,ae,f⟩:=IL 49 (.ref p) X 49 (.ref q) hb 49 (.zref) J;have g:=Z aj;have j:=Z ak;clear X hb aj ak;go_enter func71,ntmps71
 go_upto_region 1 with fail
 rw[ae.o];clear ae;obtain⟨a1,l1,c1,s1,b1,k1,d1,t1,D,r1,i1,j1⟩:=f.o.ref (i:=0) J;obtain⟨n,r,t,y⟩:=D.cq;obtain⟨a2,l2,c2,s2,b2,k2,d2,t2,E,r2,i2,j2⟩:=f.o.ref (i:=1) J;obtain⟨o,m,l,A⟩:=E.cq;have b:=f.o.zref (i:=2) J;obtain⟨x,s,B,z⟩:=b.cq;obtain⟨T,S,R,I⟩:=b.fq;obtain⟨H4,H9,Qw,Qu,Qv⟩:=Ez (λ(V:H) (h:Bl W0 V)=>Xk _ _ (p.num) ((q.den:Int)) V (i1.below h) (j2.below h) (by have:=g.o.num.size;omega) (by have:=j.o.den.size;omega)) (λ(V:H) (h:Bl W0 V)=>Xk _ _ (q.num) ((p.den:Int)) V (i2.below h) (j1.below h) (by have:=j.o.num.size;omega) (by have:=g.o.den.size;omega)) (λ(V:H) (h:Bl W0 V) (v4:M) (g4:Jp V v4 (p.num*(q.den:Int))) (v9:M) (d:Jp V v9 (q.num*(p.den:Int)))=>KN _ _ (p.num*(q.den:Int)) (q.num*(p.den:Int)) V g4 d (by have:=(g.o.cross j.o).size;omega) (by have:=(j.o.cross g.o).size;omega)) (λ(V:H) (h:Bl W0 V)=>Xk _ _ ((p.den:Int)) ((q.den:Int)) V (j1.below h) (j2.below h) (by have:=g.o.den.size;omega) (by have:=j.o.den.size;omega)) λ(V:H) (h:Bl W0 V) (am:M) (k:Jp V am (p.num*(q.den:Int)+q.num*(p.den:Int))) (an:M) (K:Jp V an ((p.den:Int)*(q.den:Int)))=>(by have h:=F8 _ _ (p.num*(q.den:Int)+q.num*(p.den:Int)) ((p.den:Int)*(q.den:Int)) V k K (CD (by have:=p.den_nz;omega) (by have:=q.den_nz;omega)) (g.o.sumN j.o) (g.o.mulD j.o);rw[KX]at h;exact h);have co:w.heap.size≠w.heap.size+1+1:=f.o.ne 0 2 J J DQ;have cz:w.heap.size+1≠w.heap.size+1+1:=f.o.ne 1 2 J J DQ;have a:Bl W0 W0.drew:=(BF _ W0).drew;go_region_held3 (λc=>c.cell? ⟨w.heap.size,0,none⟩=some (C a1 l1 c1)/\c.cell? ⟨w.heap.size,1,none⟩=some (F s1)/\c.cell? ⟨w.heap.size,2,none⟩=some (C b1 k1 d1)/\c.cell? ⟨w.heap.size,3,none⟩=some (F t1)/\c.cell? ⟨w.heap.size+1,0,none⟩=some (C a2 l2 c2)/\c.cell? ⟨w.heap.size+1,1,none⟩=some (F s2)/\c.cell? ⟨w.heap.size+1,2,none⟩=some (C b2 k2 d2)/\c.cell? ⟨w.heap.size+1,3,none⟩=some (F t2)) (first|(with_reducible exact⟨n,r,t,y,o,m,l,A⟩)|(go_keep;done)|(refine⟨?_,?_,?_,?_,?_,?_,?_,?_⟩<;>((repeat rw[JC O]);first|assumption|(go_keep;done))))
  (first
   |(go_at_call 109;refine(H4.o _ a ).mono ?_;clear H4;rintro e w4 ⟨v4,rfl,g4,bd⟩;have a:=Bt a bd;obtain⟨n,r,t,y⟩:=(D.below a).cq;obtain⟨o,m,l,A⟩:=(E.below a).cq;obtain⟨x,s,B,z⟩:=(b.below a).cq;obtain⟨T,S,R,I⟩:=(b.below a).fq)
   |(go_at_call 109;refine(H9.o _ a ).mono ?_;clear H9;rintro e w9 ⟨v9,rfl,d,ai⟩;have g4:=g4.below ai;have a:=Bt a ai;obtain⟨n,r,t,y⟩:=(D.below a).cq;obtain⟨o,m,l,A⟩:=(E.below a).cq;obtain⟨x,s,B,z⟩:=(b.below a).cq;obtain⟨T,S,R,I⟩:=(b.below a).fq)
   |(go_at_call 108;refine(Qw.o _ a _ g4 _ d).mono ?_;clear Qw;rintro e du ⟨am,rfl,k,ad⟩;have g4:=g4.below ad;have d:=d.below ad;have a:=Bt a ad;obtain⟨n,r,t,y⟩:=(D.below a).cq;obtain⟨o,m,l,A⟩:=(E.below a).cq;obtain⟨x,s,B,z⟩:=(b.below a).cq;obtain⟨T,S,R,I⟩:=(b.below a).fq)
   |(go_at_call 109;refine(Qu.o _ a ).mono ?_;clear Qu;rintro e dw ⟨an,rfl,K,W⟩;have g4:=g4.below W;have d:=d.below W;have k:=k.below W;have a:=Bt a W;obtain⟨n,r,t,y⟩:=(D.below a).cq;obtain⟨o,m,l,A⟩:=(E.below a).cq;obtain⟨x,s,B,z⟩:=(b.below a).cq;obtain⟨T,S,R,I⟩:=(b.below a).fq)
   |(go_at_call 92;refine(Qv.o _ a _ k _ K).mono ?_;clear Qv;rintro e dx ⟨dt,rfl,ah,U⟩;obtain⟨ap,bg,az,bh,aq,bf,bc,bi,rfl⟩:=Jo.form ah;have g4:=g4.below U;have d:=d.below U;have k:=k.below U;have K:=K.below U;have a:=Bt a U;obtain⟨n,r,t,y⟩:=(D.below a).cq;obtain⟨o,m,l,A⟩:=(E.below a).cq;obtain⟨x,s,B,z⟩:=(b.below a).cq;obtain⟨T,S,R,I⟩:=(b.below a).fq))
 all_goals go_wp2_with fail
 have Qy:=Bt f.o.2.2 a;have Qx:=f.o.ge 2 J;exact BE (v:=.agg #[C ap bg az,F bh,C aq bf bc,F bi]) (by simp[results,results71,go_sem,x,s,B,z]) J ⟨_,J,ah.put4 (b.below a) J J J J _ _ _ _,Jq Qy Qx _ _ _ _⟩
def Nz(va vb:M)(p q:Rat)(w:H)(S:Jo w va p)(T:Jo w vb q)(ai:Sq p)(aj:Sq q):
 Q L 73 #[va,vb] w λe b=>∃u,e=.returned u/\Jo b u (p*q)/\Bl w b:=by
 obtain⟨bg,ce,bk,cn,bi,bu,bn,cz,rfl⟩:=Jo.form S;obtain⟨bh,cg,bm,co,bj,bz,bt,de,rfl⟩:=Jo.form T;obtain⟨W0,ad,d⟩:=IL 49 (.ref p) S 49 (.ref q) T 49 (.zref) J;have g:=Z ai;have j:=Z aj;clear S T ai aj;go_enter func73,ntmps73
 go_upto_region 1 with fail
 rw[ad.o];clear ad;obtain⟨a1,l1,c1,s1,b1,k1,d1,t1,B,r1,i1,j1⟩:=d.o.ref (i:=0) J;obtain⟨m,o,s,x⟩:=B.cq;obtain⟨a2,l2,c2,s2,b2,k2,d2,t2,D,r2,i2,j2⟩:=d.o.ref (i:=1) J;obtain⟨n,l,k,z⟩:=D.cq;have c:=d.o.zref (i:=2) J;obtain⟨t,r,A,y⟩:=c.cq;obtain⟨R,K,I,E⟩:=c.fq;obtain⟨W,X,Qs⟩:=DY (λ(V:H) (h:Bl W0 V)=>Xk _ _ (p.num) (q.num) V (i1.below h) (i2.below h) (by have:=g.o.num.size;omega) (by have:=j.o.num.size;omega)) (λ(V:H) (h:Bl W0 V)=>Xk _ _ ((p.den:Int)) ((q.den:Int)) V (j1.below h) (j2.below h) (by have:=g.o.den.size;omega) (by have:=j.o.den.size;omega)) λ(V:H) (h:Bl W0 V) (v4:M) (g4:Jp V v4 (p.num*q.num)) (v9:M) (f:Jp V v9 ((p.den:Int)*(q.den:Int)))=>(by have h:=F8 _ _ (p.num*q.num) ((p.den:Int)*(q.den:Int)) V g4 f (CD (by have:=p.den_nz;omega) (by have:=q.den_nz;omega)) (g.o.mulN j.o) (g.o.mulD j.o);rw[KW]at h;exact h);have cj:w.heap.size≠w.heap.size+1+1:=d.o.ne 0 2 J J DQ;have ck:w.heap.size+1≠w.heap.size+1+1:=d.o.ne 1 2 J J DQ;have a:Bl W0 W0.drew:=(BF _ W0).drew;go_region_held3 (λb=>b.cell? ⟨w.heap.size,0,none⟩=some (C a1 l1 c1)/\b.cell? ⟨w.heap.size,1,none⟩=some (F s1)/\b.cell? ⟨w.heap.size,2,none⟩=some (C b1 k1 d1)/\b.cell? ⟨w.heap.size,3,none⟩=some (F t1)/\b.cell? ⟨w.heap.size+1,0,none⟩=some (C a2 l2 c2)/\b.cell? ⟨w.heap.size+1,1,none⟩=some (F s2)/\b.cell? ⟨w.heap.size+1,2,none⟩=some (C b2 k2 d2)/\b.cell? ⟨w.heap.size+1,3,none⟩=some (F t2)) (first|(with_reducible exact⟨m,o,s,x,n,l,k,z⟩)|(go_keep;done)|(refine⟨?_,?_,?_,?_,?_,?_,?_,?_⟩<;>((repeat rw[JC O]);first|assumption|(go_keep;done))))
  (first
   |(go_at_call 109;refine(W.o _ a ).mono ?_;clear W;rintro e w4 ⟨v4,rfl,g4,aq⟩;have a:=Bt a aq;obtain⟨m,o,s,x⟩:=(B.below a).cq;obtain⟨n,l,k,z⟩:=(D.below a).cq;obtain⟨t,r,A,y⟩:=(c.below a).cq;obtain⟨R,K,I,E⟩:=(c.below a).fq)
   |(go_at_call 109;refine(X.o _ a ).mono ?_;clear X;rintro e w9 ⟨v9,rfl,f,ah⟩;have g4:=g4.below ah;have a:=Bt a ah;obtain⟨m,o,s,x⟩:=(B.below a).cq;obtain⟨n,l,k,z⟩:=(D.below a).cq;obtain⟨t,r,A,y⟩:=(c.below a).cq;obtain⟨R,K,I,E⟩:=(c.below a).fq)
   |(go_at_call 92;refine(Qs.o _ a _ g4 _ f).mono ?_;clear Qs;rintro e di ⟨dh,rfl,ae,U⟩;obtain⟨ak,bc,an,bd,am,az,ap,bf,rfl⟩:=Jo.form ae;have g4:=g4.below U;have f:=f.below U;have a:=Bt a U;obtain⟨m,o,s,x⟩:=(B.below a).cq;obtain⟨n,l,k,z⟩:=(D.below a).cq;obtain⟨t,r,A,y⟩:=(c.below a).cq;obtain⟨R,K,I,E⟩:=(c.below a).fq))
 all_goals go_wp2_with fail
 have Qu:=Bt d.o.2.2 a;have Qt:=d.o.ge 2 J;exact BE (v:=.agg #[C ak bc an,F bd,C am az ap,F bf]) (by simp[results,results73,go_sem,t,r,A,y]) J ⟨_,J,ae.put4 (c.below a) J J J J _ _ _ _,Jq Qu Qt _ _ _ _⟩
def Tp(va vb:M)(p q:Rat)(w:H)(S:Jo w va p)(T:Jo w vb q)(aj:Sq p)(ak:Sq q)(ai:q≠0):
 Q L 75 #[va,vb] w λe b=>∃u,e=.returned u/\Jo b u (p/q)/\Bl w b:=by
 obtain⟨bh,cg,bm,co,bj,bz,bt,de,rfl⟩:=Jo.form S;obtain⟨bi,cj,bn,cz,bk,ce,bu,dh,rfl⟩:=Jo.form T;obtain⟨W0,ad,d⟩:=IL 49 (.ref p) S 49 (.ref q) T 49 (.zref) J;obtain⟨g,j,Qp⟩:=DY aj ak ai;clear S T aj ak ai;go_enter func75,ntmps75
 go_upto_region 1 with fail
 rw[ad.o];clear ad;obtain⟨a1,l1,c1,s1,b1,k1,d1,t1,B,r1,i1,j1⟩:=d.o.ref (i:=0) J;obtain⟨m,o,s,x⟩:=B.cq;obtain⟨a2,l2,c2,s2,b2,k2,d2,t2,D,r2,i2,j2⟩:=d.o.ref (i:=1) J;obtain⟨n,l,k,z⟩:=D.cq;have c:=d.o.zref (i:=2) J;obtain⟨t,r,A,y⟩:=c.cq;obtain⟨R,K,I,E⟩:=c.fq;obtain⟨W,X,Qt⟩:=DY (λ(V:H) (h:Bl W0 V)=>Xk _ _ (p.num) ((q.den:Int)) V (i1.below h) (j2.below h) (by have:=g.o.num.size;omega) (by have:=j.o.den.size;omega)) (λ(V:H) (h:Bl W0 V)=>Xk _ _ ((p.den:Int)) (q.num) V (j1.below h) (i2.below h) (by have:=g.o.den.size;omega) (by have:=j.o.num.size;omega)) λ(V:H) (h:Bl W0 V) (v4:M) (g4:Jp V v4 (p.num*(q.den:Int))) (v9:M) (f:Jp V v9 ((p.den:Int)*q.num))=>(by have h:=F8 _ _ (p.num*(q.den:Int)) ((p.den:Int)*q.num) V g4 f (CD (by have:=p.den_nz;omega) λh=>Qp.o (CU.1 h)) (g.o.cross j.o) (g.o.cross2 j.o);rw[KV]at h;exact h);have ck:w.heap.size≠w.heap.size+1+1:=d.o.ne 0 2 J J DQ;have cn:w.heap.size+1≠w.heap.size+1+1:=d.o.ne 1 2 J J DQ;have a:Bl W0 W0.drew:=(BF _ W0).drew;go_region_held3 (λb=>b.cell? ⟨w.heap.size,0,none⟩=some (C a1 l1 c1)/\b.cell? ⟨w.heap.size,1,none⟩=some (F s1)/\b.cell? ⟨w.heap.size,2,none⟩=some (C b1 k1 d1)/\b.cell? ⟨w.heap.size,3,none⟩=some (F t1)/\b.cell? ⟨w.heap.size+1,0,none⟩=some (C a2 l2 c2)/\b.cell? ⟨w.heap.size+1,1,none⟩=some (F s2)/\b.cell? ⟨w.heap.size+1,2,none⟩=some (C b2 k2 d2)/\b.cell? ⟨w.heap.size+1,3,none⟩=some (F t2)) (first|(with_reducible exact⟨m,o,s,x,n,l,k,z⟩)|(go_keep;done)|(refine⟨?_,?_,?_,?_,?_,?_,?_,?_⟩<;>((repeat rw[JC O]);first|assumption|(go_keep;done))))
  (first
   |(go_at_call 109;refine(W.o _ a ).mono ?_;clear W;rintro e w4 ⟨v4,rfl,g4,az⟩;have a:=Bt a az;obtain⟨m,o,s,x⟩:=(B.below a).cq;obtain⟨n,l,k,z⟩:=(D.below a).cq;obtain⟨t,r,A,y⟩:=(c.below a).cq;obtain⟨R,K,I,E⟩:=(c.below a).fq)
   |(go_at_call 109;refine(X.o _ a ).mono ?_;clear X;rintro e w9 ⟨v9,rfl,f,ah⟩;have g4:=g4.below ah;have a:=Bt a ah;obtain⟨m,o,s,x⟩:=(B.below a).cq;obtain⟨n,l,k,z⟩:=(D.below a).cq;obtain⟨t,r,A,y⟩:=(c.below a).cq;obtain⟨R,K,I,E⟩:=(c.below a).fq)
   |(go_at_call 92;refine(Qt.o _ a _ g4 _ f).mono ?_;clear Qt;rintro e dj ⟨di,rfl,ae,U⟩;obtain⟨am,bd,ap,bf,an,bc,aq,bg,rfl⟩:=Jo.form ae;have g4:=g4.below U;have f:=f.below U;have a:=Bt a U;obtain⟨m,o,s,x⟩:=(B.below a).cq;obtain⟨n,l,k,z⟩:=(D.below a).cq;obtain⟨t,r,A,y⟩:=(c.below a).cq;obtain⟨R,K,I,E⟩:=(c.below a).fq))
 all_goals go_wp2_with fail
 have Qv:=Bt d.o.2.2 a;have Qu:=d.o.ge 2 J;exact BE (v:=.agg #[C am bd ap,F bf,C an bc aq,F bg]) (by simp[results,results75,go_sem,t,r,A,y]) J ⟨_,J,ae.put4 (c.below a) J J J J _ _ _ _,Jq Qv Qu _ _ _ _⟩
def LN(g:M)(q:Rat)(w:H)(b:Jo w g q):
 Q L 56 #[g] w λe o=>e=.returned (N P q.num.sign)/\Bl w o:=by
 obtain⟨n,c⟩:=ex (q.num.sign);rw[c];have j:=Z c;clear c;obtain⟨r,K,u,T,t,E,v,V,rfl⟩:=Jo.form b;obtain⟨W0,d,f⟩:=FC 49 (.ref q) b;clear b;go_enter func56,ntmps56
 go_upto_region 1 with fail
 rw[d.o];clear d;obtain⟨p,I,c1,S,s,D,d1,U,m,R,l,B⟩:=f.o.ref (i:=0) J;obtain⟨x,y,z,A⟩:=m.cq;have a:=Z (To _ q.num W0 l);rw[j.o]at a;go_wp2_with(go_at_call 98;refine a.o.mono ?_;clear a;rintro e W ⟨rfl,k⟩)
 go_ret;exact⟨J,Bt f.o.2.2 k⟩
def Gp(n:Int)(r:-9223372036854775808<=n)(s:n<=9223372036854775807)(w:H):
 Q L 62 #[N P n] w λe E=>∃u,e=.returned u/\Jo E u (n:Rat)/\Bl w E:=by
 have d:=Z λ(V:H)=>Ew n r s V;clear r s;obtain⟨W0,f,c⟩:=FC 49 (.zref) J;go_enter func62,ntmps62
 go_upto_region 1 with fail
 rw[f.o];clear f;have a:=c.o.zref (i:=0) J;obtain⟨l,g,j,k⟩:=a.cq;obtain⟨K,R,T,S⟩:=a.fq;go_wp2_with(first
  |(go_at_call 93;refine(d.o _).mono ?_;clear d;rintro e w1 ⟨u1,rfl,x,W⟩;obtain⟨m,z,p,B,rfl⟩:=Jp.form2 x)
  |(go_at_call 93;refine(Ew 1 O O _).mono ?_;rintro e w2 ⟨u2,rfl,y,t⟩;obtain⟨o,A,q,D,rfl⟩:=Jp.form2 y;have b:=Bt W t;obtain⟨l,g,j,k⟩:=(a.below b).cq;obtain⟨K,R,T,S⟩:=(a.below b).fq))
 have X:Jo w2 (.agg #[C m z p,F B,C o A q,F D]) (n:Rat):=Jo.mk (x.below t) y;have U:=Bt c.o.2.2 b;have I:=c.o.ge 0 J;exact BE (v:=.agg #[C m z p,F B,C o A q,F D]) (by simp[results,results62,go_sem,l,g,j,k]) J ⟨_,J,X.put4 (a.below b) J J J J _ _ _ _,Jq U I _ _ _ _⟩
end
section
variable{qs:U}
def RowK.formsF{W:H}{a:V8}{l cap:Nat}(h:RowK false W (C a l cap) qs):l=qs.length/\l<=cap/\cap<=9223372036854775807/\l<=1099511627776/\∃(s t:Nat->Bool) (k m:Nat->V8) (p n o dd:Nat->Nat),∀j,j<l->Jo W (.agg #[C (k j) (p j) (n j),F (s j),C (m j) (o j) (dd j),F (t j)]) (cf qs j)/\
 ∃b,a=some ⟨b,0,none⟩/\b<W.heap.size/\W.cell? ⟨b,j*4,none⟩=some (C (k j) (p j) (n j))/\W.cell? ⟨b,j*4+1,none⟩=some (F (s j))/\W.cell? ⟨b,j*4+2,none⟩=some (C (m j) (o j) (dd j))/\W.cell? ⟨b,j*4+3,none⟩=some (F (t j)):=by
 obtain⟨r,v,w,A,x,y,z,u,D⟩:=h.pick;refine⟨r,v,w,A,λj=>Ia (y j),λj=>Ia (u j),λj=>Ib (x j),λj=>Ib (z j),λj=>FK (x j),λj=>Ic (x j),λj=>FK (z j),λj=>Ic (z j),λj E=>?_⟩;obtain⟨i,b,q,B,c0,c1,c2,c3⟩:=D j E;obtain⟨I,T,c',s,K,S,R,t,e,_⟩:=(show Jo W _ _ from i);simp only[DE,C6,C1,and_true]at e;obtain⟨c,d,f,g⟩:=e;rw[c,d,f,g]at i;rw[c]at c0;rw[d]at c1;rw[f]at c2;rw[g]at c3;dsimp only;rw[c,d,f,g];exact⟨i,b,q,B,c0,c1,c2,c3⟩
def Tq(q:Rat):(q.num.sign==0)=decide (q=0):=by
 rw[Cg,beq_iff_eq,Bf,Int.sign_eq_zero_iff_zero,CU]
def N0{len k:Nat}(hl:len=qs.length)(c:k<=len)(a:∀j,k<=j->cf qs j=0)(b:k=0\/cf qs (k-1)≠0):Jf qs=qs.take k/\(Jf qs).length=k:=by
 have e:=Lf (p:=qs) (n:=k) O b a;exact⟨e,by rw[e,Af];omega⟩
def Tr(a:V8)(len cap:Nat)(qs:List Rat)(w:H)(h:RowK false w (C a len cap) qs):
 Q L 23 #[C a len cap] w λe R=>e=.returned (C a (Jf qs).length cap)/\RowK false R (C a (Jf qs).length cap) (Jf qs)/\Bl w R:=by
 obtain⟨hl,ad,ae,ah,s,t,W,X,ll,cc,kk,dd,A⟩:=h.formsF;obtain⟨o,S,x⟩:=DY hl A h;clear A hl h;go_enter func23,ntmps23
 go_wp2;go_loopw [3] (λv wr=>∃k:Nat,k<=len/\v=N P (k:Int)/\Hid ((∀j,k<=j->cf qs j=0)/\Bl w wr)) λv _=>(intOf v).toNat
 case atStart=>exact⟨len,Aa _,J,Z ⟨λj T=>JW (by have:=o.o;omega),BF _ _⟩⟩
 case round=>
  obtain⟨k,hk,rfl,c⟩:=hrel;cases k with
  |zero=>
   go_wp2;go_ret;obtain⟨r,g⟩:=N0 o.o (k:=0) (AB _) c.o.1 (An J);refine⟨by rw[g];rfl,?_,c.o.2⟩;rw[g,r];exact(x.o.below c.o.2).take O
  |succ k=>
   obtain⟨B,b,rfl,l,D,E,I,K⟩:=S.o k O;have d:=c.o.2;have y:=Z (B.below d);replace D:=(d.cell (p:=⟨b,_,none⟩) l).trans D;replace E:=(d.cell (p:=⟨b,_,none⟩) l).trans E;replace I:=(d.cell (p:=⟨b,_,none⟩) l).trans I;replace K:=(d.cell (p:=⟨b,_,none⟩) l).trans K;have i:=Z (LN _ _ wr y.o);have m:=Tq (cf qs k);clear B d y;by_cases f:cf qs k=0
   . rw[show decide (cf qs k=0)=true from BM f]at m;have q:=Z f;clear f;generalize (cf qs k).num.sign=n at i m;go_wp2_with(go_at_call 56;refine i.o.mono ?_;rintro e V ⟨rfl,u⟩)
     go_roundw
     case rel=>
      refine⟨k,O,DJ,Z ⟨λj T=>?_,Bt c.o.2 u⟩⟩;by_cases U:j=k
      . rw[U];exact q.o
      . exact c.o.1 j O
     case measure=>simp[intOf]
   . rw[show decide (cf qs k=0)=false from BI f]at m;have q:=Z f;clear f;generalize (cf qs k).num.sign=n at i m;go_wp2_with(go_at_call 56;refine i.o.mono ?_;rintro e V ⟨rfl,u⟩)
     go_ret;have z:=Bt c.o.2 u;obtain⟨r,g⟩:=N0 o.o (k:=k+1) O c.o.1 (Ar q.o);refine⟨by rw[g];rfl,?_,z⟩;rw[g,r];exact(x.o.below z).take O
def Gq(v:M)(qs:U)(w:H)(h:RowK false w v qs):
 Q L 23 #[v] w λe b=>∃u,e=.returned u/\RowK false b u (Jf qs)/\Bl w b:=by
 obtain⟨a,l,c,rfl⟩:=h.form;refine(Tr a l c qs w h).mono ?_;rintro e b ⟨rfl,d,f⟩;exact⟨_,J,d,f⟩
def N1{W:H}{B:Nat}(q:JF W B 49 (C none 0 0) (F false) (C none 0 0) (F false)){v:M}{p:Rat}(h:Jo W v p)(x y z u:M):Jo (put4 W B x y z u) v p:=h.put4 q J J J J _ _ _ _
def N2(v:M)(qs:List Rat)(i:Int)(w:H)(h:RowK false w v qs):
 Q L 18 #[v,N P i] w λe E=>∃u,e=.returned u/\Jo E u (if i<0 then 0 else cf qs i.toNat)/\Bl w E:=by
 obtain⟨a,l,c,rfl⟩:=h.form;obtain⟨hl,ak,am,an,s,t,T,W,ll,cc,kk,dd,B⟩:=h.formsF;have K:=Z hl;have o:=Z B;clear hl B h;have n:Bl w (w.alloc (G #[C none 0 0,F false,C none 0 0,F false] 49)):=Ba w _;have b0:=JF.new w 49 (C none 0 0) (F false) (C none 0 0) (F false);have g:=Z λ(V:H)=>Gp 0 O O V;by_cases d:i<0\/(l:Int)<=i
 . have R:=Z (show(if i<0 then(0:Rat)else cf qs i.toNat)=((0:Int):Rat)by
    rcases d with d|d
    . rw[BR d];rfl
    . rw[BL O,JW (by have:=K.o;omega)];rfl)
   rw[R.o];obtain⟨W0,q⟩:=ex (w.alloc (G #[C none 0 0,F false,C none 0 0,F false] 49));rw[q]at n b0;have A:=Z q;clear q o;rcases d with d|d
   . go_enter func18,ntmps18
     go_upto_region 1 with fail
     rw[A.o];go_wp2_with(go_at_call 62;refine(g.o _).mono ?_;clear g;rintro e w1 ⟨u,rfl,k,j⟩;have f:=b0.below j;obtain⟨r,x,y,z⟩:=f.cq;obtain⟨f0,f1,f2,f3⟩:=f.fq;obtain⟨S,ah,X,ai,U,ae,ad,aj,rfl⟩:=Jo.form k)
     exact BE (by simp[results,results18,go_sem,r,x,y,z]) J ⟨_,J,N1 f k _ _ _ _,Jq (Bt n j) (Aa _) _ _ _ _⟩
   . have p:¬i<0:=O
     go_enter func18,ntmps18
     go_upto_region 1 with fail
     rw[A.o];go_wp2_with(go_at_call 62;refine(g.o _).mono ?_;clear g;rintro e w1 ⟨u,rfl,k,j⟩;have f:=b0.below j;obtain⟨r,x,y,z⟩:=f.cq;obtain⟨f0,f1,f2,f3⟩:=f.fq;obtain⟨S,ah,X,ai,U,ae,ad,aj,rfl⟩:=Jo.form k)
     exact BE (by simp[results,results18,go_sem,r,x,y,z]) J ⟨_,J,N1 f k _ _ _ _,Jq (Bt n j) (Aa _) _ _ _ _⟩
 . have p:¬i<0:=O
   rw[BL p];obtain⟨m,rfl⟩:∃m:Nat,i=(m:Int):=⟨i.toNat,O⟩;have hm:m<l:=O
   obtain⟨D,b,rfl,hb,k0,k1,k2,k3⟩:=o.o m hm;have I:=Z D;rw[Ci];clear o D p d g b0 n;generalize s m=s1 at *;generalize t m=t1 at *;generalize T m=a1 at *;generalize W m=b1 at *;generalize ll m=l1 at *;generalize cc m=c1 at *;generalize kk m=k1 at *;generalize dd m=d1 at *;go_enter func18,ntmps18
   go_wp2;exact BE (by simp[results,results18,go_sem]) J ⟨_,J,I.o.below (Ba w _),Ba w _⟩
def Xr(f:Nat->Rat)(k:Nat):U:=(List.range k).map f
def JG(f:Nat->Rat)(k:Nat):(Xr f k).length=k:=by simp[Xr]
def YJ(f:Nat->Rat)(k:Nat):Xr f (k+1)=Xr f k++[f k]:=by simp[Xr,List.range_succ]
def Ik(f:Nat->Rat)(k i:Nat):cf (Xr f k) i=if i<k then f i else 0:=Oq k f i
theorem Gr(va vb:M)(ps qs:List Rat)(w:H)(K:RowK false w va ps)(R:RowK false w vb qs)(ai:Sqs ps)(aj:Sqs qs)(bf:ps.length<1099511627776/\qs.length<1099511627776):
 Q L 30 #[va,vb] w λe w'=>∃u,e=.returned u/\RowK false w' u (Xb ps qs)/\Bl w w':=by
 obtain⟨a,la,ca,rfl⟩:=K.form;obtain⟨b,lb,cb,rfl⟩:=R.form;obtain⟨ae,aq,bc,bt,_⟩:=K.formsF;obtain⟨ah,az,bd,bu,_⟩:=R.formsF;obtain⟨n,hn⟩:=ex (max la lb:Nat);obtain⟨r,HA,HB,HP,HQ,Qm,Ql⟩:=IB (show la<=n/\lb<=n/\n<1099511627776/\(∀k,k<n->k<la\/k<lb)from⟨O,O,O,λk hk=>by omega⟩) K R ai aj ae ah;clear K R ai aj ae ah aq bc az bd hn bf;go_enter func30,ntmps30
 go_wp2;go_loopw [5,6] (λo i wr=>∃k:Nat,k<=n/\i=N P (k:Int)/\(∃oa oc,o=C oa k oc)/\Hid (Du false w.heap.size wr o (Xr (λi=>cf ps i+cf qs i) k)/\Bl w wr)) λ_ i _=>n-(intOf i).toNat
 case atStart=>exact⟨0,AB _,J,⟨_,_,J⟩,Z ⟨Du.nil _ _ _,BF _ _⟩⟩
 case round=>
  obtain⟨k,hk,rfl,⟨oa,oc,rfl⟩,d⟩:=hrel;by_cases bg:k<n
  . have x:=Z (N2 _ ps (k:Int) wr (HA.o.below d.o.2));have t:=Z λ(V:H) (h:Bl wr V)=>N2 _ qs (k:Int) V ((HB.o.below d.o.2).below h);rw[BL O,Ci]at x;rw[show(if(k:Int)<0 then(0:Rat)else cf qs ((k:Int)).toNat)=cf qs k from by rw[BL O,Ci]]at t;have I:=Z λ(V:H) (u v:M) (hu:Jo V u (cf ps k)) (hv:Jo V v (cf qs k))=>Ny u v (cf ps k) (cf qs k) V hu hv (HP.o.at k) (HQ.o.at k);have Qj:=r.o.2.2.2 k bg;have HK:=Z (show k+1<=1099511627776 by have:=r.o.2.2.1;omega);by_cases bm:(k:Int)<(la:Int)
    all_goals
     have Qk:(k:Int)<(la:Int)\/(k:Int)<(lb:Int):=O
    . clear Qj Qk;go_wp2_with(first
       |(go_at_call 18;refine x.o.mono ?_;clear x;rintro e w1 ⟨u1,rfl,c,l⟩;have f:=l)
       |(go_at_call 18;refine(t.o _ f).mono ?_;clear t;rintro e w2 ⟨u2,rfl,E,m⟩;have c:=c.below m;have y:=Bt f m;clear f)
       |(go_at_call 71;refine(I.o _ _ _ c E).mono ?_;clear I;rintro e w3 ⟨u3,rfl,q,A⟩;have g:=Bt y A;clear y c E l m A;obtain⟨ak,bi,an,bj,am,bh,ap,bk,rfl⟩:=Jo.form q;obtain⟨v9,w9,X,D,ad,B⟩:=XB false w.heap.size w3 _ _ (d.o.1.below g) q (by rw[JG];exact HK.o) (by have:=d.o.2.size;have:=g.size;omega);have s:=Z D;have T:=Z (B w.heap.size w (Aa _) (Bt d.o.2 g));clear D ad B q)
       |(at_builtin;refine Bo _ J _ _ 30 30 J _ _ J J _ _ X ?_))
      obtain⟨U,W,z,_⟩:=s.o.form;go_roundw
      case rel=>
       refine⟨k+1,O,by go_num,⟨U,W,?_⟩,Z ⟨?_,T.o⟩⟩
       . rw[<-YJ,JG]at z;exact z
       . rw[YJ];exact s.o
      case measure=>simp[intOf];omega
    . have bn:(k:Int)<(lb:Int):=O
      clear Qj Qk;go_wp2_with(first
       |(go_at_call 18;refine x.o.mono ?_;clear x;rintro e w1 ⟨u1,rfl,c,l⟩;have f:=l)
       |(go_at_call 18;refine(t.o _ f).mono ?_;clear t;rintro e w2 ⟨u2,rfl,E,m⟩;have c:=c.below m;have y:=Bt f m;clear f)
       |(go_at_call 71;refine(I.o _ _ _ c E).mono ?_;clear I;rintro e w3 ⟨u3,rfl,q,A⟩;have g:=Bt y A;clear y c E l m A;obtain⟨ak,bi,an,bj,am,bh,ap,bk,rfl⟩:=Jo.form q;obtain⟨v9,w9,X,D,ad,B⟩:=XB false w.heap.size w3 _ _ (d.o.1.below g) q (by rw[JG];exact HK.o) (by have:=d.o.2.size;have:=g.size;omega);have s:=Z D;have T:=Z (B w.heap.size w (Aa _) (Bt d.o.2 g));clear D ad B q)
       |(at_builtin;refine Bo _ J _ _ 30 30 J _ _ J J _ _ X ?_))
      obtain⟨U,W,z,_⟩:=s.o.form;go_roundw
      case rel=>
       refine⟨k+1,O,by go_num,⟨U,W,?_⟩,Z ⟨?_,T.o⟩⟩
       . rw[<-YJ,JG]at z;exact z
       . rw[YJ];exact s.o
      case measure=>simp[intOf];omega
  . have h1:¬(k:Int)<(la:Int):=by have:=r.o.1;omega
    have h2:¬(k:Int)<(lb:Int):=by have:=r.o.2.1;omega
    have S:=Z λ(V:H) (h:Bl wr V)=>Gq _ _ V ((d.o.1.below h).row (by rw[JG];have:=r.o.2.2.1;omega));have HE:=Z (show Jf (Xr (λi=>cf ps i+cf qs i) k)=Xb ps qs from Yo λj=>by
     rw[Ik,YW];split
     . rfl
     . have:=r.o;have g1:=Qm.o;have g2:=Ql.o;rw[JW (p:=ps) O,JW (p:=qs) O];grind)
    rw[HE.o]at S;go_wp2_with(go_at_call 23;refine(S.o _ (BF _ _)).mono ?_;clear S;rintro e w1 ⟨u1,rfl,c,l⟩;obtain⟨a8,l8,c8,rfl⟩:=c.form)
    go_ret;exact⟨_,J,c,Bt d.o.2 l⟩
def Ej(r:Bool)(W0:H)(V:H)(o:M)(qs:U):Prop:=Du r W0.heap.size V o qs/\Bl W0 V
def Ej.below{r:Bool}{W0 V V':H}{o:M}{qs:U}(h:Ej r W0 V o qs)(a:Bl V V'):Ej r W0 V' o qs:=⟨h.1.below a,Bt h.2 a⟩
theorem Ts(va vq:M)(ps:List Rat)(q:Rat)(w:H)(ha:RowK false w va ps)(hq:Jo w vq q)(ap:Sqs ps)(aq:Sq q)(am:ps.length<1099511627776):
 Q L 72 #[va,vq] w λe w'=>∃u,e=.returned u/\RowK false w' u (Jf (Ys q ps))/\Bl w w':=by
 obtain⟨a,la,ca,rfl⟩:=ha.form;obtain⟨a8,l8,c8,s8,b8,k8,d8,t8,rfl⟩:=Jo.form hq;obtain⟨ak,bf,bg,bn,s,t,aa,bb,ll,cc,kk,dd,hc⟩:=ha.formsF;have b0:=JF.new w 49 (C a8 l8 c8) (F s8) (C b8 k8 d8) (F t8);have Qf:Bl w (w.alloc (G #[C a8 l8 c8,F s8,C b8 k8 d8,F t8] 49)):=Ba w _;obtain⟨W0,ai⟩:=ex (w.alloc (G #[C a8 l8 c8,F s8,C b8 k8 d8,F t8] 49));rw[ai]at Qf b0;obtain⟨Qj,HA,HQ,HP,Qi,Qh,Qd,Qo⟩:=Ep ai hc (hq.below Qf) ap aq ak Qf b0;have Ql:=Z am;clear ha hq ap aq ak bf bg hc ai am b0 Qf;go_enter func72,ntmps72
 go_upto_region 1 with fail
 rw[Qj.o];go_wp2;go_loopw [5,6] (λo i wr=>∃k:Nat,k<=la/\i=N P (k:Int)/\(∃R S,o=C R k S)/\Hid (Ej false W0 wr o (Xr (λi=>cf ps i*q) k))) λ_ i _=>la-(intOf i).toNat
 case atStart=>exact⟨0,AB _,J,⟨_,_,J⟩,Z ⟨Du.nil _ _ _,BF _ _⟩⟩
 case round=>
  obtain⟨k,hk,rfl,⟨R,S,rfl⟩,HR⟩:=hrel;by_cases bh:k<la
  . have bt:(k:Int)<(la:Int):=O
    obtain⟨I,b,rfl,X,c0,c1,c2,c3⟩:=HA.o k bh;have Qn:=Z (show ∀V,Bl W0 V->(V.cell? ⟨b,k*4,none⟩=some (C (aa k) (ll k) (cc k))/\V.cell? ⟨b,k*4+1,none⟩=some (F (s k))/\V.cell? ⟨b,k*4+2,none⟩=some (C (bb k) (kk k) (dd k))/\V.cell? ⟨b,k*4+3,none⟩=some (F (t k)))/\Jo V (.agg #[C (aa k) (ll k) (cc k),F (s k),C (bb k) (kk k) (dd k),F (t k)]) (cf ps k)from λV h=>by
     have W:=Bt Qd.o h;exact⟨⟨(W.cell (p:=⟨b,_,none⟩) X).trans c0,(W.cell (p:=⟨b,_,none⟩) X).trans c1,(W.cell (p:=⟨b,_,none⟩) X).trans c2,(W.cell (p:=⟨b,_,none⟩) X).trans c3⟩,I.below W⟩)
    have HK:=Z (show k+1<=1099511627776 by have:=Ql.o;have:=Qh.o;omega);clear I c0 c1 c2 c3 X;go_wp2_with fail
    have Qm:=HR.o.below ((BF _ wr).drew);refine Yb Dm [[],[],[],[1,2],[3],[],[4,5],[6],[0,7,6],[8,8,0,1,2,3,4,5,6,7,8]] V9 DQ
     (λD ae V=>∃(ta tb tc td te tf tg ti T tk:M),ae={ tmps:=#[C (some ⟨b,0,none⟩) la ca,.agg #[C a8 l8 c8,F s8,C b8 k8 d8,F t8],undef,.pointer (some ⟨w.heap.size,0,none⟩),C none 0 0,tk,N P ↑k,N P ↑k,C (some ⟨b,0,none⟩) la ca,N P ↑la,F true,u11,u12,ta,tb,tc,td,te,tf,tg,ti,T,undef,undef],defers:=[] }/\Hid ((D 0=true->ta=C R k S)/\(D 1=true->tb=C (some ⟨b,0,none⟩) la ca)/\(D 2=true->tc=N P (k:Int))/\(D 3=true->td=.pointer (some ⟨b,k*4,none⟩))/\(D 4=true->D 8=false->Jo V te (cf ps k))/\(D 5=true->D 8=false->Jo V tf q)/\(D 6=true->D 8=false->Jo V tg (cf ps k*q))/\(D 7=true->∃a l c,ti=C a l c)/\(D 8=true->∃a l c,T=C a l c)/\((D 9=false->tk=Value.slice R k S)/\(D 9=true->tk=T)))/\Hid ((D 7=false->Ej false W0 V (C R k S) (Xr (λi=>cf ps i*q) k))/\(D 7=true->D 8=false->∃(E:H) (x y z u:M),V=E.alloc (G #[x,y,z,u] (Di false))/\(Ej false W0 E (C R k S) (Xr (λi=>cf ps i*q) k))/\Dj false E (.agg #[x,y,z,u]) (cf ps k*q)/\ti=C (some ⟨E.heap.size,0,none⟩) 1 1)/\(D 8=true->Ej false W0 V T (Xr (λi=>cf ps i*q) k++[cf ps k*q]))))
     (E8 ⟨_,_,J,Z ⟨DJ,DJ,DJ,DJ,DJ,DJ,DJ,DJ,DJ,⟨λ_=>rfl,DJ⟩⟩,Z ⟨λ_=>Qm,DJ,DJ⟩⟩) ?step1 ?fin1
    case step1=>
     rintro D ae V i ds f I m n ⟨ta,tb,tc,td,te,tf,tg,ti,T,tk,rfl,d,A⟩;have bk:i<10:=(Ax.1 I).1;obtain rfl|rfl|rfl|rfl|rfl|rfl|rfl|rfl|rfl|rfl:=It i O
     all_goals
      simp only[AZ,AR,A0]at I;subst I
     . have r:D 8=false:=DU f n;have Qe:D 9=false:=DU f n;obtain rfl:=Ee d Qe;clear m;refine De ?_;exact⟨(Kd (Fc d) ⟨λ_=>rfl,λh=>by simp[Qe]at h⟩),Z ⟨λh=>A.o.1 (by simpa using h),λh B=>A.o.2.1 (by simpa using h) (by simpa using B),λh=>A.o.2.2 (by simpa using h)⟩⟩
     . have r:D 8=false:=DU f (DU (a:=7) f (DU (a:=6) f (DU (a:=4) f (DU (a:=3) f n))));have v:D 7=false:=DU f (DU (a:=6) f (DU (a:=4) f (DU (a:=3) f n)));have g:=A.o.1 v;clear m;refine De ?_;exact⟨Z ⟨d.o.1,λ_=>rfl,d.o.2.2.1,d.o.2.2.2.1,d.o.2.2.2.2.1,(E0 d),(E1 d),(E9 d),(FA d),⟨λh=>(Ee d) (by simpa using h),λh=>d.o.2.2.2.2.2.2.2.2.2.2 (by simpa using h)⟩⟩,Z ⟨λ_=>g,λh=>by simp[v]at h,λh=>by simp[r]at h⟩⟩
     . have r:D 8=false:=DU f (DU (a:=7) f (DU (a:=6) f (DU (a:=4) f (DU (a:=3) f n))));have v:D 7=false:=DU f (DU (a:=6) f (DU (a:=4) f (DU (a:=3) f n)));have g:=A.o.1 v;clear m;refine De ?_;exact⟨Z ⟨d.o.1,d.o.2.1,λ_=>rfl,d.o.2.2.2.1,d.o.2.2.2.2.1,(E0 d),(E1 d),(E9 d),(FA d),⟨λh=>(Ee d) (by simpa using h),λh=>d.o.2.2.2.2.2.2.2.2.2.2 (by simpa using h)⟩⟩,Z ⟨λ_=>g,λh=>by simp[v]at h,λh=>by simp[r]at h⟩⟩
     . have r:D 8=false:=DU f (DU (a:=7) f (DU (a:=6) f (DU (a:=4) f n)));have v:D 7=false:=DU f (DU (a:=6) f (DU (a:=4) f n));have g:=A.o.1 v;obtain rfl:=d.o.2.1 (m 1 DJ);obtain rfl:=d.o.2.2.1 (m 2 DJ);clear m;refine De ?_;exact⟨Z ⟨d.o.1,λ_=>rfl,λ_=>rfl,λ_=>rfl,d.o.2.2.2.2.1,(E0 d),(E1 d),(E9 d),(FA d),⟨λh=>(Ee d) (by simpa using h),λh=>d.o.2.2.2.2.2.2.2.2.2.2 (by simpa using h)⟩⟩,Z ⟨λ_=>g,λh=>by simp[v]at h,λh=>by simp[r]at h⟩⟩
     . have r:D 8=false:=DU f (DU (a:=7) f (DU (a:=6) f n));have v:D 7=false:=DU f (DU (a:=6) f n);have g:=A.o.1 v;obtain rfl:=d.o.2.2.2.1 (m 3 DJ);obtain⟨⟨e0,e1,e2,e3⟩,hr⟩:=Qn.o V g.2;clear m;refine De ?_;exact⟨Z ⟨d.o.1,d.o.2.1,d.o.2.2.1,λ_=>rfl,λ_ _=>hr,(E0 d),(E1 d),(E9 d),(FA d),⟨λh=>(Ee d) (by simpa using h),λh=>d.o.2.2.2.2.2.2.2.2.2.2 (by simpa using h)⟩⟩,Z ⟨λ_=>g,λh=>by simp[v]at h,λh=>by simp[r]at h⟩⟩
     . have r:D 8=false:=DU f (DU (a:=7) f (DU (a:=6) f n));have v:D 7=false:=DU f (DU (a:=6) f n);have g:=A.o.1 v;have n0:=Qo.o.below g.2;obtain⟨e0,e1,e2,e3⟩:=n0.cq;clear m;refine De ?_;exact⟨Z ⟨d.o.1,d.o.2.1,d.o.2.2.1,d.o.2.2.2.1,d.o.2.2.2.2.1,λ_ _=>HQ.o.below g.2,(E1 d),(E9 d),(FA d),⟨λh=>(Ee d) (by simpa using h),λh=>d.o.2.2.2.2.2.2.2.2.2.2 (by simpa using h)⟩⟩,Z ⟨λ_=>g,λh=>by simp[v]at h,λh=>by simp[r]at h⟩⟩
     . have r:D 8=false:=DU f n;have v:D 7=false:=DU f n;have g:=A.o.1 v;have U:=d.o.2.2.2.2.1 (m 4 DJ) r;have h1:=E0 d (m 5 DJ) r;clear m;have HC:=Z (Nz _ _ (cf ps k) q V U h1 (HP.o.at k) Qi.o);clear U h1;refine Ju J J λK hK=>?_;go_simp;go_wp2_with(go_at_call 73;refine HC.o.mono ?_;rintro e w5 ⟨v5,rfl,bj,ad⟩)
       exact E8 ⟨_,_,J,Z ⟨d.o.1,d.o.2.1,d.o.2.2.1,d.o.2.2.2.1,λh B=>(d.o.2.2.2.2.1 h B).below ad,λh B=>((E0 d) h B).below ad,λ_ _=>bj,(E9 d),(FA d),⟨λh=>(Ee d) (by simpa using h),λh=>d.o.2.2.2.2.2.2.2.2.2.2 (by simpa using h)⟩⟩,Z ⟨λ_=>g.below ad,λh=>by simp[v]at h,λh=>by simp[r]at h⟩⟩
     . have r:D 8=false:=DU f n;have g:=A.o.1 n;have U:=E1 d (m 6 DJ) r;obtain⟨a9,l9,c9,s9,b9,k9,d9,t9,rfl⟩:=Jo.form U;clear m;refine De ?_;exact⟨Z ⟨d.o.1,d.o.2.1,d.o.2.2.1,d.o.2.2.2.1,λh B=>(d.o.2.2.2.2.1 h B).below (Ba V _),λh B=>((E0 d) h B).below (Ba V _),λh B=>((E1 d) h B).below (Ba V _),λ_=>⟨_,_,_,J⟩,(FA d),⟨λh=>(Ee d) (by simpa using h),λh=>d.o.2.2.2.2.2.2.2.2.2.2 (by simpa using h)⟩⟩,Z ⟨λh=>by simp at h,λ_ _=>⟨V,_,_,_,_,J,g,U,J⟩,λh=>by simp[r]at h⟩⟩
     . obtain⟨E,x9,y9,z9,u9,rfl,g,bi,bd⟩:=A.o.2.1 (m 7 DJ) n;obtain rfl:=d.o.1 (m 0 DJ);have Qe:D 9=false:=DU f n;have Qg:=m 7 DJ;obtain⟨v5,w5,aj,an,bm,ad⟩:=XB false W0.heap.size E _ _ g.1 bi (by rw[JG];exact HK.o) g.2.size;dsimp only[ER,Di]at aj;subst bd;obtain⟨a6,c6,e6,_⟩:=an.form;subst e6;clear m;refine Ju J J λK hK=>?_;refine Lib.wp_append_run _ _ _ 30 30 J _ _ J J _ _ aj (hK _ _ ?_);exact E8 ⟨_,_,J,Z ⟨λ_=>rfl,d.o.2.1,d.o.2.2.1,d.o.2.2.2.1,λ_ h=>by simp at h,λ_ h=>by simp at h,λ_ h=>by simp at h,(E9 d),λ_=>⟨_,_,_,J⟩,⟨λh=>(Ee d) (by simpa using h),λh=>by simp[Qe]at h⟩⟩,Z ⟨λh=>by simp[Qg]at h,λ_ h=>by simp at h,λ_=>⟨an,ad _ _ (Aa _) g.2⟩⟩⟩
     . clear m;refine De ?_;exact⟨(Kd d ⟨λh=>by simp at h,λ_=>rfl⟩),Z ⟨λh=>A.o.1 (by simpa using h),λh B=>A.o.2.1 (by simpa using h) (by simpa using B),λh=>A.o.2.2 (by simpa using h)⟩⟩
    case fin1=>
     rintro D ae V ah ⟨ta,tb,tc,td,te,tf,tg,ti,T,tk,rfl,d,A⟩;have HO:=Z (A.o.2.2 (ah 8 DQ));obtain rfl:=d.o.2.2.2.2.2.2.2.2.2.2 (ah 9 DQ);clear d A ah;obtain⟨a9,c9,e9,_⟩:=HO.o.1.form;rw[<-YJ,JG]at e9;subst e9;go_wp2_with fail
     go_roundw
     case rel=>exact⟨k+1,O,by go_num,⟨a9,c9,J⟩,Z (by rw[YJ];exact HO.o)⟩
     case measure=>simp[intOf];omega
  . have Qk:k=la:=O
    subst Qk;have HT:=Z (Gq _ _ wr (HR.o.1.row (by rw[JG];omega)));have HE:=Z (show Jf (Xr (λi=>cf ps i*q) k)=Jf (Ys q ps)from Yo λj=>by
     rw[Ik,YL];split
     . rfl
     . rw[JW (by have:=Qh.o;omega)];grind)
    rw[HE.o]at HT;go_wp2_with(go_at_call 23;refine HT.o.mono ?_;clear HT;rintro e w1 ⟨u1,rfl,az,bc⟩;obtain⟨a7,l7,c7,rfl⟩:=az.form)
    go_ret;exact⟨_,J,az,(Bt Qd.o HR.o.2).trans (bc.mono (As Qd.o.size HR.o.2.size))⟩
theorem Tt{ps:U}(h:Sqs ps):Sqs (Jf (Ys (-1) ps)):=Sqs.of λi=>by
 rw[J2,YL,show cf ps i*-1=-(cf ps i)from by grind];exact(h.at i).neg
def Il(s t:M)(ps qs:List Rat)(w:H)(f:RowK false w s ps)(g:RowK false w t qs)(q:Sqs ps)(i:Sqs qs)(c:ps.length<1099511627776/\qs.length<1099511627776):
 Q L 31 #[s,t] w λe v=>∃u,e=.returned u/\RowK false v u (Y9 ps qs)/\Bl w v:=by
 obtain⟨a,la,K,rfl⟩:=f.form;obtain⟨b,lb,R,rfl⟩:=g.form;obtain⟨x,m,n,d⟩:=Dr (show Xb ps (Jf (Ys (-1) qs))=Y9 ps qs from Yo λj=>by rw[YW,J2,YW]) (Gp (-1) O O w) (λ(V:H) (u:M) (h:Bl w V) (l:Jo V u ((-1:Int):Rat))=>Ts _ u qs (-1) V (g.below h) l i (Sq.of (k:=1) ⟨(Sm.one 1 O).neg,Sm.one 1 O⟩ O) c.2) λ(V:H) (u:M) (h:Bl w V) (l:RowK false V u (Jf (Ys (-1) qs)))=>Gr _ u ps _ V (f.below h) l q (Tt i) ⟨c.1,Cy (JY _) (by unfold Ys;rw[List.length_map];exact c.2)⟩;rw[x.o]at d;clear f g q i c;go_enter func31,ntmps31
 go_wp2_with(first
  |(go_at_call 62;refine m.o.mono ?_;clear m;rintro e T ⟨u1,rfl,B,p⟩)
  |(go_at_call 72;refine(n.o _ _ p B).mono ?_;clear n;rintro e U ⟨u2,rfl,D,z⟩;have o:=Bt p z)
  |(go_at_call 30;refine(d.o _ _ o D).mono ?_;clear d;rintro e W ⟨u3,rfl,r,A⟩;have y:=Bt o A;obtain⟨E,S,I,rfl⟩:=r.form))
 go_ret;exact⟨_,J,r,y⟩
def Gs(vq:M)(n:Nat)(q:Rat)(w:H)(x:Jo w vq q)(hn:n<1099511627775):
 Q L 74 #[N P (n:Int),vq] w λe w'=>∃u,e=.returned u/\RowK false w' u (Jf (DZ n [q]))/\Bl w w':=by
 obtain⟨l,B,p,D,m,A,r,E,rfl⟩:=Jo.form x;have b0:=JF.new w 49 (C l B p) (F D) (C m A r) (F E);have d:Bl w (w.alloc (G #[C l B p,F D,C m A r,F E] 49)):=Ba w _;obtain⟨W0,t⟩:=ex (w.alloc (G #[C l B p,F D,C m A r,F E] 49));rw[t]at d b0;obtain⟨Qe,HQ,K,Qh⟩:=Dr t (x.below d) d b0;clear x t b0 d;go_enter func74,ntmps74
 go_upto_region 1 with fail
 rw[Qe.o];go_wp2;go_loopw [5,6] (λo i wr=>∃k:Nat,k<=n/\i=N P (k:Int)/\(∃X oc,o=C X k oc)/\Hid (Ej false W0 wr o (Xr (λ_=>0) k))) λ_ i _=>n-(intOf i).toNat
 case atStart=>exact⟨0,AB _,J,⟨_,_,J⟩,Z ⟨Du.nil _ _ _,BF _ _⟩⟩
 case round=>
  obtain⟨k,hk,rfl,⟨X,oc,rfl⟩,a⟩:=hrel;by_cases ak:k<n
  . have am:(k:Int)<(n:Int):=O
    have I:=Z (Gp 0 O O wr);have HK:=Z (show k+1<=1099511627776 by omega);go_wp2_with(first
     |(go_at_call 62;refine I.o.mono ?_;clear I;rintro e w3 ⟨u3,rfl,z,y⟩;obtain⟨ae,ap,ai,aq,ah,an,aj,az,rfl⟩:=Jo.form z;obtain⟨v9,w9,f,c,v,b⟩:=XB false W0.heap.size w3 _ _ (a.o.1.below y) z (by rw[JG];exact HK.o) (by have:=a.o.2.size;have:=y.size;omega);have R:=Z c;have Qg:=Z (b W0.heap.size W0 (Aa _) (Bt a.o.2 y));clear c v b z)
     |(at_builtin;refine Bo _ J _ _ 30 30 J _ _ J J _ _ f ?_))
    obtain⟨a9,c9,T,_⟩:=R.o.form;go_roundw
    case rel=>
     refine⟨k+1,O,by go_num,⟨a9,c9,?_⟩,Z ⟨?_,Qg.o⟩⟩
     . rw[Ay,JG]at T;exact T
     . rw[YJ];exact R.o
    case measure=>simp[intOf];omega
  . have Qf:k=n:=O
    subst Qf;have W:=Qh.o.below a.o.2;obtain⟨e0,e1,e2,e3⟩:=W.cq;obtain⟨v9,w9,f,c,v,b⟩:=XB false W0.heap.size wr _ _ a.o.1 (HQ.o.below a.o.2) (by rw[JG];omega) a.o.2.size;dsimp only[ER,Di]at f;have HE:=Z (show Jf (Xr (λ_=>0) k++[q])=Jf (DZ k [q])from Yo λj=>by
     rw[Iv,JG,FX,Ik];by_cases s:j=k
     . rw[BR s,BR O,s,AY,YV]
     . rw[BL s];by_cases U:k<=j
       . rw[BR U,JW si];split<;>rfl
       . rw[BL U];split<;>rfl)
    have S:=b W0.heap.size W0 (Aa _) a.o.2;have g:=Z (Gq _ _ w9 (c.row (by rw[Ay,JG];simp;omega)));rw[HE.o]at g;clear c v b W;go_wp2_with(first
     |(at_builtin;refine Bo _ J _ _ 30 30 J _ _ J J _ _ f ?_)
     |(go_at_call 23;refine g.o.mono ?_;clear g;rintro e w1 ⟨u1,rfl,V,ad⟩;obtain⟨a7,l7,c7,rfl⟩:=V.form))
    go_ret;exact⟨_,J,V,(Bt K.o S).trans (ad.mono (As K.o.size S.size))⟩
def DR(W:H)(R:Nat)(s:ByteArray)(I E A:Int):Prop:=W.heap[R]?=some (G #[.string s,.int P I,.int P E,.int P A] 82 (0,0))
section
variable {W W':World} {R:Nat} {s:ByteArray} {I E A:Int}
def DR.lt(h:DR W R s I E A):R<W.heap.size:=(Ab.1 h).1
def DR.c0(h:DR W R s I E A):W.cell? ⟨R,0,none⟩=some (.string s):=by simp[World.cell?,show W.heap[R]?=_ from h]
def DR.c1(h:DR W R s I E A):W.cell? ⟨R,1,none⟩=some (N P I):=by simp[World.cell?,show W.heap[R]?=_ from h]
def DR.cp(h:DR W R s I E A):type_of% (And.intro h.c0 h.c1):=⟨h.c0,h.c1⟩
def DR.c2(h:DR W R s I E A):W.cell? ⟨R,2,none⟩=some (N P E):=by simp[World.cell?,show W.heap[R]?=_ from h]
def DR.c3(h:DR W R s I E A):W.cell? ⟨R,3,none⟩=some (N P A):=by simp[World.cell?,show W.heap[R]?=_ from h]
def DR.cq(h:DR W R s I E A):type_of% (And.intro h.c0 (And.intro h.c1 (And.intro h.c2 h.c3))):=⟨h.c0,h.c1,h.c2,h.c3⟩
def DR.f(h:DR W R s I E A)(o:Nat):W.frozen? ⟨R,o,none⟩=false:=by simp[World.frozen?,show W.heap[R]?=_ from h]
def DR.below(h:DR W R s I E A)(a:Bl W W'):DR W' R s I E A:=(a.block R h.lt).trans h
def DR.set1(h:DR W R s I E A)(x:Int):DR (W.setCell ⟨R,1,none⟩ (N P x)) R s x E A:=by
 have:=JK (o:=1) h (N P x);exact this
def DR.set2(h:DR W R s I E A)(x:Int):DR (W.setCell ⟨R,2,none⟩ (N P x)) R s I x A:=by
 have:=JK (o:=2) h (N P x);exact this
def DR.set3(h:DR W R s I E A)(x:Int):DR (W.setCell ⟨R,3,none⟩ (N P x)) R s I E x:=by
 have:=JK (o:=3) h (N P x);exact this
def DR.drewN(h:DR W R s I E A)(n:Nat):DR (W.drewN n) R s I E A:=h
end
variable{j:Nat}
def Jv(W:H)(n:Nat)(r:Option Nat):W.grownBy (W.drewN n) r:=⟨J,J,J,Aa _,λ_ _ _=>rfl⟩
def Gt(R:Nat)(s:ByteArray)(I E A e p:Int)(w:H)(h:DR w R s I E A):
 Q L 48 #[.pointer (some ⟨R,0,none⟩),N P e,N P p] w λr b=>r=.returned (.tuple #[])/\DR b R s I (if E=0 then e else E) (if E=0 then p else A)/\w.grownBy b (some R):=by
 have c2:=h.c2;have f2:=h.f 2;have f3:=h.f 3;have c3:=h.c3;by_cases a:E=0
 . rw[BR a,BR a];go_enter func48,ntmps48
   go_wp2;go_end0;exact⟨J,(h.set2 e).set3 p,Jd (Jy w R 2 _) (Jy _ R 3 _)⟩
 . rw[BL a,BL a];have c:(E==0)=false:=by rw[BJ];exact a
   go_enter func48,ntmps48
   go_wp2;go_end0;exact⟨J,h,Yd _ _⟩
theorem Im{c d:UInt8}(h:c≠d):((c.toNat:Int)==(d.toNat:Int))=false:=by
 rw[BJ];intro e;exact h (CV.1 O)
theorem Jg(s:ByteArray):(Je s).length=s.size:=by unfold Je;simp
def Io{f:UInt8->Bool}{s:ByteArray}{I:Nat}(d:I<=j)(e:j<=s.size)(g:∀k (a:k<s.size),I<=k->k<j->f s[k]=true)(i:∀l:j<s.size,f s[j]=false):YN f (Je s) I=j:=
 Hj d (by rw[Jg];exact e) (λk a b c=>g k (by rwa[Jg]at a) b c) λa=>i (by rwa[Jg]at a)
def N3{s:ByteArray}{c:UInt8}(a:j<s.size):JT (Je s) j c=(s[j]==c):=by
 unfold JT;rw[Am (by rw[Jg];exact a)];rfl
def N4{s:ByteArray}{c:UInt8}(a:s.size<=j):JT (Je s) j c=false:=by
 unfold JT;rw[AM (by rw[Jg];exact a)];rfl
def EF(W:H)(R:Nat):Nat:=(intOf ((W.cell? ⟨R,1,none⟩).getD undef)).toNat
def FF{W:H}{R:Nat}{s:ByteArray}{I:Nat}{E A:Int}(h:DR W R s I E A):EF W R=I:=by
 unfold EF;rw[h.c1];simp[intOf]
def XD(R:Nat)(s:ByteArray)(I:Nat)(E A:Int)(c:UInt8)(w:H)(h:DR w R s I E A)(hI:I<=s.size)(hs:s.size<=300):
 Q L 47 #[.pointer (some ⟨R,0,none⟩),N .u8 (c.toNat:Int)] w λr z=>r=.returned (F (decide (E=0)&&JT (Je s) (DL (Je s) I) c))/\DR z R s (DL (Je s) I:Nat) E A/\w.grownBy z (some R):=by
 have B:=Z h;clear h;go_enter func47,ntmps47
 go_wp2;go_loopw [5] (λ_ wr=>∃j:Nat,I<=j/\j<=s.size/\Hid (DR wr R s j E A/\w.grownBy wr (some R)/\∀k (o:k<s.size),I<=k->k<j->s[k]=32)) λ_ wr=>s.size-EF wr R
 case atStart=>exact⟨I,Aa _,hI,Z ⟨B.o,Yd _ _,λk _ v x=>by omega⟩⟩
 case round=>
  obtain⟨j,v,x,a⟩:=hrel;obtain⟨c0,c1⟩:=a.o.1.cp;have c2:=a.o.1.c2;have f1:=a.o.1.f 1;by_cases y:j<s.size
  . have ae:(j:Int)<(s.size:Int):=O
    have ad:(0:Int)<=(j:Int):=O
    by_cases m:s[j]=32
    . have hb:((s[j].toNat:Int)==32)=true:=by rw[m];rfl
      have S:=Z m;clear m;go_wp2_with fail
      go_quiet (fail)
      go_wp2;go_roundw
      case rel=>
       refine⟨j+1,O,O,Z ⟨?_,Jd (Jd a.o.2.1 (Jv _ _ _)) (Jy _ R 1 _),λk o q t=>?_⟩⟩
       . have:=(a.o.1.drewN nq).set1 ((j:Int)+1);rw[show((j:Int)+1)=((j+1:Nat):Int)from by omega]at this;exact this
       . by_cases e:k=j
         . subst e;exact S.o
         . exact a.o.2.2 k o q O
      case measure=>
       have W:=FF a.o.1;have X:EF ((wr.drewN nq).setCell ⟨R,1,none⟩ (N P ((j:Int)+1))) R=j+1:=by
        have:=(a.o.1.drewN nq).set1 ((j:Int)+1);rw[show((j:Int)+1)=((j+1:Nat):Int)from by omega]at this ⊢;exact FF this
       show s.size-EF ((wr.drewN nq).setCell ⟨R,1,none⟩ (N P ((j:Int)+1))) R<s.size-EF wr R;rw[W,X];omega
    . have hb:((s[j].toNat:Int)==32)=false:=Im (d:=32) m;have f:=Z (show DL (Je s) I=j from Io v x (λk o q t=>by rw[a.o.2.2 k o q t];rfl) λ_=>BJ.2 m);have l:=Z (N3 (s:=s) (c:=c) y);clear m;go_wp2_with fail
      go_quiet (fail)
      go_wp2;have i:=Z (show w.grownBy (wr.drewN nq) (some R)from Jd a.o.2.1 (Jv _ _ _));have g:=Z (a.o.1.drewN nq);obtain⟨T,U⟩:=g.o.cp;have V:=g.o.c2;by_cases b:E=0
      . have u:(E==0)=true:=by rw[b];rfl
        by_cases n:s[j]=c
        . have D:((s[j].toNat:Int)==(c.toNat:Int))=true:=by rw[n];exact beq_self_eq_true _
          have p:=Z (show(decide (E=0)&&(s[j]==c))=true by rw[b,n];simp);clear n b;go_quiet (fail)
          go_wp2;go_ret;exact⟨by rw[f.o,l.o,p.o];rfl,by rw[f.o];exact g.o.drewN _,Jd i.o (Jv _ _ _)⟩
        . have D:((s[j].toNat:Int)==(c.toNat:Int))=false:=Im n;have p:=Z (show(decide (E=0)&&(s[j]==c))=false by rw[BJ.2 n,Bool.and_false]);clear n b;go_quiet (fail)
          go_wp2;go_ret;exact⟨by rw[f.o,l.o,p.o];rfl,by rw[f.o];exact g.o.drewN _,Jd i.o (Jv _ _ _)⟩
      . have u:(E==0)=false:=by rw[BJ];exact b
        have p:=Z (show(decide (E=0)&&(s[j]==c))=false by rw[BI b,Bool.false_and]);clear b;go_quiet (fail)
        go_wp2;go_ret;exact⟨by rw[f.o,l.o,p.o];rfl,by rw[f.o];exact g.o.drewN _,Jd i.o (Jv _ _ _)⟩
  . have K:j=s.size:=O
    have hd:decide (j<s.size)=false:=BI O;have f:=Z (show DL (Je s) I=j from Io v x (λk o q t=>by rw[a.o.2.2 k o q t];rfl) λh=>by omega);have l:=Z (N4 (s:=s) (j:=j) (c:=c) O);clear K y;go_wp2_with fail
    go_quiet (fail)
    go_wp2;have i:=Z (show w.grownBy (wr.drewN nq) (some R)from Jd a.o.2.1 (Jv _ _ _));have g:=Z (a.o.1.drewN nq);obtain⟨T,U⟩:=g.o.cp;have V:=g.o.c2;by_cases b:E=0
    . have u:(E==0)=true:=by rw[b];rfl
      clear b;go_quiet (fail)
      go_wp2;go_ret;exact⟨by rw[f.o,l.o,Bool.and_false];rfl,by rw[f.o];exact g.o.drewN _,Jd i.o (Jv _ _ _)⟩
    . have u:(E==0)=false:=by rw[BJ];exact b
      clear b;go_quiet (fail)
      go_wp2;go_ret;exact⟨by rw[f.o,l.o,Bool.and_false];rfl,by rw[f.o];exact g.o.drewN _,Jd i.o (Jv _ _ _)⟩
end
section
variable{l:List UInt8}{d n p:Nat}
def N5(c:UInt8)(w:H):Q L 124 #[N .u8 (c.toNat:Int)] w λr e=>r=.returned (F (DS c))/\e=w:=by
 by_cases b:48<=c.toNat
 . have f:decide ((48:Int)<=(c.toNat:Int))=true:=BM O;by_cases d:c.toNat<=57
   . have a:=Z (show DS c=true by simp[DS,b,d]);go_enter func124,ntmps124
     go_wp2;go_ret;exact⟨by rw[a.o];simp;omega,J⟩
   . have a:=Z (show DS c=false by simp[DS,d]);go_enter func124,ntmps124
     go_wp2;go_ret;exact⟨by rw[a.o];simp;omega,J⟩
 . have a:=Z (show DS c=false by simp[DS,b]);go_enter func124,ntmps124
   go_wp2;go_ret;exact⟨by rw[a.o];rfl,J⟩
def Yu(R:Nat)(s:ByteArray)(I:Nat)(E A:Int)(c:UInt8)(w:H)(h:DR w R s I E A)(j:I<=s.size)(hs:s.size<=300)(b:Bool)(l:b=(decide (E=0)&&JT (Je s) (DL (Je s) I) c)):
 Q L 45 #[.pointer (some ⟨R,0,none⟩),N .u8 (c.toNat:Int)] w λr m=>r=.returned (F b)/\DR m R s ((DL (Je s) I+(if b then 1 else 0):Nat):Int) E A/\w.grownBy m (some R):=by
 have d:=Z (XD R s I E A c w h j hs);have k:=Z (show DL (Je s) I<=300 from As (Yh (by rw[Jg];exact j)) (by rw[Jg];exact hs));rw[<-l]at d;clear h j hs l;cases b
 . go_enter func45,ntmps45
   go_wp2_with first
    |(go_at_call 47;refine d.o.mono ?_;clear d;rintro e n ⟨rfl,a,f⟩;have i:=Z a;clear a;have g:=Z f;clear f)
   go_ret;exact⟨J,i.o,g.o⟩
 . go_enter func45,ntmps45
   go_wp2_with first
    |(go_at_call 47;refine d.o.mono ?_;clear d;rintro e n ⟨rfl,a,f⟩;have i:=Z a;have c1:=a.c1;have f1:=a.f 1;clear a;have g:=Z f;clear f;have o:=k.o;clear k)
   go_ret;exact⟨J,i.o.set1 _,Jd g.o (Jy _ R 1 _)⟩
def N6(h:l.all DS=true):num l<10^l.length:=by
 have:=J1 (Hh h);rwa[X0]at this
def Ye(l:List UInt8)(p d n:Nat):Prop:=p+d<=l.length/\((l.drop p).take d).all DS=true/\n=num ((l.drop p).take (min 12 d))
theorem Ye.zero(h:p<=l.length):Ye l p 0 0:=⟨O,DJ,by simp[num,Dg,val]⟩
def N7(l:List UInt8)(p d:Nat)(h:p+d<l.length):(l.drop p).take (d+1)=(l.drop p).take d++[l[p+d]]:=by
 rw[AP (by rw[A8];omega),List.getElem_drop]
def Ye.all{l:List UInt8}{p d n:Nat}(h:Ye l p d n)(hl:p+d<l.length)(a:DS l[p+d]=true):((l.drop p).take (d+1)).all DS=true:=by
 rw[N7 l p d hl,CT,h.2.1];simp[a]
def Ye.next1(h:Ye l p d n)(hl:p+d<l.length)(a:DS l[p+d]=true)(b:d<12):Ye l p (d+1) (10*n+(l[p+d].toNat-48)):=by
 refine⟨O,h.all hl a,?_⟩;rw[show min 12 (d+1)=d+1 from by omega,N7 l p d hl,KC,h.2.2,show min 12 d=d from by omega];omega
def Ye.next2(h:Ye l p d n)(hl:p+d<l.length)(a:DS l[p+d]=true)(b:12<=d):Ye l p (d+1) n:=by
 refine⟨O,h.all hl a,?_⟩;rw[show min 12 (d+1)=min 12 d from by omega];exact h.2.2
def Ye.lt(h:Ye l p d n):n<10^min 12 d:=by
 have e:((l.drop p).take (min 12 d)).all DS=true:=by
  rw[Az];intro c b;refine Az.1 h.2.1 c ?_;rw[show(l.drop p).take (min 12 d)=((l.drop p).take d).take (min 12 d)from by rw[List.take_take];congr 1;omega]at b;exact CY b
 have a:=N6 e;rw[Af,A8,<-h.2.2]at a;have:=h.1;rwa[show min (min 12 d) (l.length-p)=min 12 d from by omega]at a
def Ye.lt12(h:Ye l p d n):n<1000000000000:=
 Al h.lt (Ag (n:=10) O (by omega:min 12 d<=12))
def Ye.lt11(h:Ye l p d n)(a:d<12):n<100000000000:=
 Al h.lt (Ag (n:=10) O (by omega:min 12 d<=11))
def Ye.dg(h:Ye l p d n)(a:∀hl:p+d<l.length,DS l[p+d]=false):Dq l p=p+d:=by
 refine Hj O h.1 (λk e b c=>?_) a;have:=Az.1 h.2.1 (l[k]) ?_
 . exact this
 . rw[List.mem_iff_getElem];refine⟨k-p,by rw[Af,A8];omega,?_⟩;rw[List.getElem_take,List.getElem_drop];congr 1;omega
def Dk{α:Type}(r:Rd α)(E:Int):Int:=if E=0 then(match r with|.error e _=>(e:Int)|.ok _ _=>0)else E
def Ds{α:Type}(r:Rd α)(E A:Int):Int:=if E=0 then(match r with|.error _ p=>(p:Int)|.ok _ _=>A)else A
def LO(R:Nat)(s:ByteArray)(I:Nat)(E A:Int)(p:Nat)(w:H)(h:DR w R s I E A)(hI:I<=s.size)(hs:s.size<=300)(hp:DL (Je s) I=p):
 Q L 91 #[.pointer (some ⟨R,0,none⟩)] w λr w'=>∃d n:Nat,r=.returned (.tuple #[N P (n:Int),N P (p:Int)])/\Dq (Je s) p=p+d/\Ye (Je s) p d n/\DR w' R s ((p+d:Nat):Int) (Dk (JL (Je s) I) E) (Ds (JL (Je s) I) E A)/\w.grownBy w' (some R):=by
 have HI:=Z (XD R s I E A 32 w h hI hs);rw[hp]at HI;have Qo:p<=s.size:=by rw[<-hp];exact As (Yh (by rw[Jg];exact hI)) (by rw[Jg];exact Aa _)
 have U:=Z hp;have B:=Z λ(x y:Int) (I':Int) (V:H) (hh:DR V R s I' E A)=>Gt R s I' E A x y V hh;clear h hI hp;go_enter func91,ntmps91
 go_wp2_with first
  |(go_at_call 47;refine HI.o.mono ?_;clear HI;rintro e w1 ⟨rfl,ah,ai⟩;have Qn:=Z ah;have c1:=ah.c1;clear ah;have Qp:=Z ai;clear ai)
 go_loopw [5] (λnv wr=>∃d n:Nat,nv=N P (n:Int)/\p+d<=s.size/\Hid (DR wr R s ((p+d:Nat):Int) E A/\w.grownBy wr (some R)/\Ye (Je s) p d n)) λ_ wr=>s.size-EF wr R
 case atStart=>exact⟨0,0,J,O,Z ⟨Qn.o,Qp.o,Ye.zero (by rw[Jg];exact Qo)⟩⟩
 case round=>
  clear c1;obtain⟨d,n,rfl,aj,c⟩:=hrel;obtain⟨j,hj⟩:∃j,j=p+d:=⟨_,J⟩;have b:=Z hj;rw[<-hj]at aj c;have aq:(j:Int)-(p:Int)=(d:Int):=O
  clear hj;obtain⟨c0,c1⟩:=c.o.1.cp;have f1:=c.o.1.f 1;by_cases az:j<s.size
  . have bc:(j:Int)<(s.size:Int):=O
    have ap:(0:Int)<=(j:Int):=O
    by_cases q:DS s[j]=true
    . have W:=Z (N5 s[j]);rw[q]at W;have am:=Yl q;have Ql:=Z q;clear q;go_wp2_with fail
      go_quiet ((go_at_call 124;exact Calls.quiet_of_same (W.o _)))
      obtain⟨z,h0⟩:∃k,k=nq:=⟨nq,J⟩;subst h0;have l:=Z (show DR (wr.drewN z) R s (j:Int) E A/\w.grownBy (wr.drewN z) (some R)/\Ye (Je s) p d n from⟨c.o.1.drewN z,Jd c.o.2.1 (Jv _ _ _),c.o.2.2⟩);have Qk:=Z (FF c.o.1);clear W;by_cases ae:d<12
      . have ad:(d:Int)<12:=O
        have hn:=l.o.2.2.lt11 ae;go_wp2;go_quiet (fail)
        have ak:=Z (show DR ((wr.drewN z).drewN nq) R s (j:Int) E A/\w.grownBy ((wr.drewN z).drewN nq) (some R)/\Ye (Je s) p d n from⟨l.o.1.drewN nq,Jd l.o.2.1 (Jv _ _ _),l.o.2.2⟩);go_wp2;go_roundw
        case rel=>
         refine⟨d+1,10*n+(s[j].toNat-48),?_,?_,Z ⟨?_,?_,?_⟩⟩
         . congr 1;omega
         . have:=b.o;omega
         . have:=(c.o.1.drewN (z+nq)).set1 ((j:Int)+1);rw[show((j:Int)+1)=((p+(d+1):Nat):Int)from by have:=b.o;omega]at this ⊢;exact this
         . exact Jd (Jd c.o.2.1 (Jv _ _ _)) (Jy _ R 1 _)
         . have:=c.o.2.2.next1 (by rw[Jg];have:=b.o;omega) (by simp only[<-b.o];exact Ql.o) ae;simp only[<-b.o]at this;exact this
        case measure=>
         have X:=FF ((c.o.1.drewN (z+nq)).set1 ((j+1:Nat):Int));rw[show((j+1:Nat):Int)=(j:Int)+1 from by omega]at X;rw[X,Qk.o];omega
      . have ad:¬(d:Int)<12:=O
        go_wp2;go_roundw
        case rel=>
         refine⟨d+1,n,J,?_,Z ⟨?_,?_,?_⟩⟩
         . have:=b.o;omega
         . have:=(c.o.1.drewN z).set1 ((j:Int)+1);rw[show((j:Int)+1)=((p+(d+1):Nat):Int)from by have:=b.o;omega]at this ⊢;exact this
         . exact Jd (Jd c.o.2.1 (Jv _ _ _)) (Jy _ R 1 _)
         . exact c.o.2.2.next2 (by rw[Jg];have:=b.o;omega) (by simp only[<-b.o];exact Ql.o) O
        case measure=>
         have X:=FF ((c.o.1.drewN z).set1 ((j+1:Nat):Int));rw[show((j+1:Nat):Int)=(j:Int)+1 from by omega]at X;rw[X,Qk.o];omega
    . have W:=Z (N5 s[j]);have q:=Bool.eq_false_iff.2 q;rw[q]at W;have i:=Z (show Dq (Je s) p=j by rw[b.o];exact c.o.2.2.dg λhl=>by simp only[<-b.o];exact q);clear q;go_wp2_with fail
      go_quiet ((go_at_call 124;exact Calls.quiet_of_same (W.o _)))
      obtain⟨K,D,T⟩:=DY (c.o.1.drewN nq) (show w.grownBy (wr.drewN nq) (some R)from Jd c.o.2.1 (Jv _ _ _)) c.o.2.2;clear c;by_cases u:d=0
      . have m:j=p:=by have:=b.o;omega
        have g:=Z (show JL (Je s) I=.error 2 p by unfold JL;rw[U.o,i.o,BR m]);have Qm:=Z u;clear u;go_wp2_with first
         |(go_at_call 48;refine(B.o _ _ _ _ K.o).mono ?_;clear B;rintro e w2 ⟨rfl,f,o⟩;have l:=Z f;have Qi:=f.c1;clear f;have S:=Z (Jd D.o o);clear o)
        refine BE (v:=.tuple #[N P (n:Int),N P (p:Int)]) (by simp[results,results91,go_sem]) J ⟨d,n,J,by rw[i.o];exact b.o,T.o,?_,S.o⟩;rw[<-b.o];have:=l.o;rw[g.o];exact this
      . by_cases ae:12<d
        . have m:¬j=p:=by have:=b.o;omega
          have Qj:((j:Int)==(p:Int))=false:=by rw[BJ];omega
          have ad:(12:Int)<(d:Int):=O
          have g:=Z (show JL (Je s) I=.error 3 p by unfold JL;rw[U.o,i.o,BL m,BR (by have:=b.o;omega)]);clear u;go_wp2_with first
           |(go_at_call 48;refine(B.o _ _ _ _ K.o).mono ?_;clear B;rintro e w2 ⟨rfl,f,o⟩;have l:=Z f;have Qi:=f.c1;clear f;have S:=Z (Jd D.o o);clear o)
          refine BE (v:=.tuple #[N P (n:Int),N P (p:Int)]) (by simp[results,results91,go_sem]) J ⟨d,n,J,by rw[i.o];exact b.o,T.o,?_,S.o⟩;rw[<-b.o];have:=l.o;rw[g.o];exact this
        . have m:¬j=p:=by have:=b.o;omega
          have Qj:((j:Int)==(p:Int))=false:=by rw[BJ];omega
          have ad:¬(12:Int)<(d:Int):=O
          have t:∃a k,JL (Je s) I=.ok a k:=by unfold JL;rw[U.o,i.o,BL m,BL (by have:=b.o;omega)];exact⟨_,_,J⟩
          obtain⟨a,k,t⟩:=t;have g:=Z (show Dk (JL (Je s) I) E=E/\Ds (JL (Je s) I) E A=A by rw[t];unfold Dk Ds;constructor<;>(by_cases hE:E=0<;>simp[hE]));clear t;clear u;go_wp2;refine BE (v:=.tuple #[N P (n:Int),N P (p:Int)]) (by simp[results,results91,go_sem]) J ⟨d,n,J,by rw[i.o];exact b.o,T.o,?_,D.o⟩;rw[show((p:Int)+(d:Int))=(j:Int)from by have:=b.o;omega,g.o.1,g.o.2];exact K.o
  . have i:=Z (show Dq (Je s) p=j by rw[b.o];exact c.o.2.2.dg λhl=>absurd hl (by rw[Jg];have:=b.o;omega));have an:decide (j<s.size)=false:=BI O;go_wp2_with fail
    go_quiet (fail)
    obtain⟨K,D,T⟩:=DY (c.o.1.drewN nq) (show w.grownBy (wr.drewN nq) (some R)from Jd c.o.2.1 (Jv _ _ _)) c.o.2.2;clear c;by_cases u:d=0
    . have m:j=p:=by have:=b.o;omega
      have g:=Z (show JL (Je s) I=.error 2 p by unfold JL;rw[U.o,i.o,BR m]);have Qm:=Z u;clear u;go_wp2_with first
       |(go_at_call 48;refine(B.o _ _ _ _ K.o).mono ?_;clear B;rintro e w2 ⟨rfl,f,o⟩;have l:=Z f;have Qi:=f.c1;clear f;have S:=Z (Jd D.o o);clear o)
      refine BE (v:=.tuple #[N P (n:Int),N P (p:Int)]) (by simp[results,results91,go_sem]) J ⟨d,n,J,by rw[i.o];exact b.o,T.o,?_,S.o⟩;rw[<-b.o];have:=l.o;rw[g.o];exact this
    . by_cases ae:12<d
      . have m:¬j=p:=by have:=b.o;omega
        have Qj:((j:Int)==(p:Int))=false:=by rw[BJ];omega
        have ad:(12:Int)<(d:Int):=O
        have g:=Z (show JL (Je s) I=.error 3 p by unfold JL;rw[U.o,i.o,BL m,BR (by have:=b.o;omega)]);clear u;go_wp2_with first
         |(go_at_call 48;refine(B.o _ _ _ _ K.o).mono ?_;clear B;rintro e w2 ⟨rfl,f,o⟩;have l:=Z f;have Qi:=f.c1;clear f;have S:=Z (Jd D.o o);clear o)
        refine BE (v:=.tuple #[N P (n:Int),N P (p:Int)]) (by simp[results,results91,go_sem]) J ⟨d,n,J,by rw[i.o];exact b.o,T.o,?_,S.o⟩;rw[<-b.o];have:=l.o;rw[g.o];exact this
      . have m:¬j=p:=by have:=b.o;omega
        have Qj:((j:Int)==(p:Int))=false:=by rw[BJ];omega
        have ad:¬(12:Int)<(d:Int):=O
        have t:∃a k,JL (Je s) I=.ok a k:=by unfold JL;rw[U.o,i.o,BL m,BL (by have:=b.o;omega)];exact⟨_,_,J⟩
        obtain⟨a,k,t⟩:=t;have g:=Z (show Dk (JL (Je s) I) E=E/\Ds (JL (Je s) I) E A=A by rw[t];unfold Dk Ds;constructor<;>(by_cases hE:E=0<;>simp[hE]));clear t;clear u;go_wp2;refine BE (v:=.tuple #[N P (n:Int),N P (p:Int)]) (by simp[results,results91,go_sem]) J ⟨d,n,J,by rw[i.o];exact b.o,T.o,?_,D.o⟩;rw[show((p:Int)+(d:Int))=(j:Int)from by have:=b.o;omega,g.o.1,g.o.2];exact K.o
end
section
def Rd.pos{α:Type}(r:Rd α):Prop:=∀e p,r=.error e p->e≠0
variable{l:List UInt8}{j k p:Nat}
theorem EG{α:Type}{r:Rd α}{a:α}(h:r=.ok a k)(E A:Int):Dk r E=E/\Ds r E A=A:=by
 grind[Dk,Ds]
def Tu{α:Type}{r:Rd α}{e:Nat}(h:r=.error e p)(A:Int):Dk r 0=(e:Int)/\Ds r 0 A=(p:Int):=by
 subst h;exact⟨J,J⟩
def FG{α:Type}(r:Rd α){E:Int}(h:E≠0)(A:Int):Dk r E=E/\Ds r E A=A:=by
 unfold Dk Ds;omega
def LP{α:Type}{r:Rd α}(hp:r.pos){E:Int}(h:Dk r E=0):E=0/\∃a k,r=.ok a k:=by
 by_cases b:E=0
 . refine⟨b,?_⟩;cases r with
   |ok a k=>exact⟨a,k,J⟩
   |error e p=>
    exfalso
    rw[b,(Tu J 0).1]at h;exact hp e p J O
 . rw[(FG r b 0).1]at h;exact absurd h b
theorem F9(l:List UInt8)(i:Nat):(JL l i).pos:=by
 intro e p h;grind[JL]
theorem Tv(l:List UInt8)(i:Nat):(J9 l i).pos:=by
 intro e p h;unfold J9 at h;split at h
 . rename_i b c a;cases h;exact F9 l i _ _ a
 . split at h
   . split at h
     . rename_i b c a;cases h;exact F9 _ _ _ _ a
     grind
   . cases h
theorem Tw(l:List UInt8)(i:Nat):(Dv l i).pos:=by
 intro e p h;unfold Dv at h;split at h
 . split at h
   . rename_i b c a;cases h;exact F9 _ _ _ _ a
   grind
 . cases h
theorem GA(l:List UInt8)(i:Nat):DL l (DL l i)=DL l i:=PP _ l i
def Tx(l:List UInt8)(i:Nat):JL l (DL l i)=JL l i:=by unfold JL;rw[GA]
def EH(l:List UInt8)(i:Nat):Rd Rat:=if JT l (DL l i) 120 then .ok 1 (DL l i)else J9 l i
def N8(l:List UInt8)(i:Nat):(EH l i).pos:=by
 unfold EH;split
 . intro e p h;cases h
 . exact Tv l i
theorem N9(h:EU l j=false):Dq l j=j:=by
 rcases AD j l.length with a|a
 . refine Hj (Aa _) O (λk _ b c=>by omega) λd=>?_;grind[EU]
 . unfold Dq YN;rw[AC a];rfl
theorem Ty(h:EU l j=true):JT l j 120=false:=by
 unfold EU at h;unfold JT;cases b:l[j]? with
 |none=>rfl
 |some c=>
  rw[b]at h;simp only[Option.map_some,Option.getD_some]at h;have a:=Yl h;rw[BJ];intro e;cases e;simp at a
theorem XN(l:List UInt8)(i:Nat):JZ l i=match EH l i with
 |.error e p=>.error e p
 |.ok c k=>if JT l (DL l k) 120 then(match Dv l (DL l k+1)with|.error e p=>.error e p|.ok n m=>.ok (c,n) m)else .ok (c,0) (DL l k):=by
 unfold JZ EH;grind[Ty,J9,GA,JL,N9]
def Ye.of_ok{i d n:Nat}(h:Ye l p d n)(hp:DL l i=p)(c:Dq l p=p+d){ds:List UInt8}{b:Nat}(a:JL l i=.ok (ds,b) k):b=p/\k=p+d/\num ds=n:=by
 unfold JL at a;rw[hp,c]at a;split at a
 . cases a
 . split at a
   . cases a
   . rename_i e f;simp only[EStateM.Result.ok.injEq,Prod.mk.injEq]at a;obtain⟨⟨rfl,rfl⟩,rfl⟩:=a;refine⟨J,J,?_⟩;rw[h.2.2,show p+d-p=d from by omega,show min 12 d=d from by omega]
section
variable {W W':World} {R:Nat} {s:ByteArray} {I E A:Int}
variable{v:M}
theorem Ip(h:DR W R s I E A){cs:Array M}{t:TypeId}{m:Nat × Nat}{b:Nat}(a:W.heap[b]?=some (G cs t m))(c:t≠82):b≠R:=by
 intro e;subst e;have:=a.symm.trans h;grind
theorem OA(h:DR W R s I E A)(hg:W.grownBy W' (some R)):∀k v ds,Row k W v ds->Row k W' v ds:=by
 intro k v ds c;obtain⟨a,cap,e,_⟩:=id c;subst e;refine c.grown hg λp f hl=>?_;obtain⟨b,i,d,cs,m,g⟩:=c.typ hl;grind[Ip]
def Jo.rd{q:Rat}(a:Jo W v q)(h:DR W R s I E A)(hg:W.grownBy W' (some R)):Jo W' v q:=Dj.keep (r:=false) a (OA h hg)
theorem RowK.rd{qs:U}(l:RowK false W v qs)(h:DR W R s I E A)(hg:W.grownBy W' (some R)):RowK false W' v qs:=by
 obtain⟨a,cap,e,g,i,j,c⟩:=l;refine⟨a,cap,e,g,i,j,?_⟩;rcases c with c|⟨b,f,d⟩
 . exact An c
 . refine Ar ⟨b,f,d.keep (hg.block b d.lt ?_) (OA h hg)⟩;obtain⟨cs,k,_⟩:=d;have:=Ip h k (by show(49:TypeId)≠_;decide);grind
end
def EI(w V:H)(R B:Nat)(s:ByteArray)(I E A:Int)(c:Rat):Prop:=
 DR V R s I E A/\(∃a l e f b k d t,JF V B 49 (C a l e) (F f) (C b k d) (F t)/\Jo V (.agg #[C a l e,F f,C b k d,F t]) c)/\w.grownBy V (some R)/\w.heap.size<=B
section
variable {w V V':World} {R B:Nat} {s:ByteArray} {I E A I' E' A':Int} {c:Rat}
def EI.below(h:EI w V R B s I E A c)(e:Bl V V'):EI w V' R B s I E A c:=by
 obtain⟨g,⟨a,l,f,o,b,k,d,t,i,j⟩,m,n⟩:=h;exact⟨g.below e,⟨a,l,f,o,b,k,d,t,i.below e,j.below e⟩,Jd m (JM e _),n⟩
def EI.rd(h:EI w V R B s I E A c)(p:DR V' R s I' E' A')(hg:V.grownBy V' (some R)):EI w V' R B s I' E' A' c:=by
 obtain⟨g,⟨a,l,j,q,b,k,d,t,f,m⟩,n,o⟩:=h;have i:B≠R:=Ip g f DQ;exact⟨p,⟨a,l,j,q,b,k,d,t,(hg.block B f.lt λe=>i (A3 e)).trans f,m.rd g hg⟩,Jd n hg,o⟩
def JV{w V:H}{r:Option Nat}{B:Nat}(h:w.grownBy V r)(s:w.heap.size<=B)(o:Nat)(x:M):w.grownBy (V.setCell ⟨B,o,none⟩ x) r:=by
 have n:=Jy V B o x;obtain⟨a,b,c,d,f⟩:=h;obtain⟨g,j,k,l,m⟩:=n;exact⟨g.trans a,j.trans b,k.trans c,As d l,λi p q=>(m i O (by intro e;cases e;omega)).trans (f i p q)⟩
def EI.put(h:EI w V R B s I E A c){a:V8}{l j:Nat}{m:Bool}{b:V8}{k d:Nat}{t:Bool}{c':Rat}(x:Jo V (.agg #[C a l j,F m,C b k d,F t]) c'):
 EI w (put4 V B (C a l j) (F m) (C b k d) (F t)) R B s I E A c':=by
 obtain⟨o,⟨y,S,z,T,b0,K,d0,U,n,D⟩,v,f⟩:=h;have i:R≠B:=λe=>Ip o n DQ e.symm;refine⟨?_,⟨a,l,j,m,b,k,d,t,n.put _ _ _ _,Dj.keep (r:=false) x λ_ _ _ g=>Row.put4 g n J J J J _ _ _ _⟩,JV (JV (JV (JV v f 0 _) f 1 _) f 2 _) f 3 _,f⟩;have p:=(BH V ⟨B,0,none⟩ (C a l j) R i).trans o;have q:=(BH _ ⟨B,1,none⟩ (F m) R i).trans p;have u:=(BH _ ⟨B,2,none⟩ (C b k d) R i).trans q;exact(BH _ ⟨B,3,none⟩ (F t) R i).trans u
end
end
variable{g i:Int}{l:List UInt8}{b d n p:Nat}
def Sok.word(h:n<1000000000000):Sok (n:Int):=Sok.of (k:=1) (by unfold Sm Y;omega) O
def EJ(c:Rat):Prop:=∃x y:Nat,c=WD (x:Int) (y:Int)/\x<1000000000000/\y≠0/\y<1000000000000
theorem EJ.one:EJ 1:=⟨1,1,DQ,O,O,O⟩
def Xn(l:List UInt8)(I:Nat)(E A:Int)(c:Rat)(a:Nat)(d b:Int):Prop:=
 d=Dk (EH l I) E/\b=Ds (EH l I) E A/\EJ c/\a<=l.length/\(E=0->∀c0 k,EH l I=.ok c0 k->c=c0/\a=k)
def Tz{I:Nat}{E A:Int}(b:I<=l.length)(h:(decide (E=0)&&JT l (DL l I) 120)=true):Xn l I E A 1 (DL l I) E A:=by
 rw[AL]at h;have e:EH l I=.ok 1 (DL l I):=by unfold EH;rw[BR h.2]
 refine⟨(EG e E A).1.symm,(EG e E A).2.symm,EJ.one,Yh b,λ_ c0 k a=>?_⟩;rw[e]at a;cases a;exact⟨J,J⟩
def OB{I:Nat}{E:Int}(h:(decide (E=0)&&JT l (DL l I) 120)=false)(a:E=0):EH l I=J9 l I:=by
 rw[a]at h;simp at h;unfold EH;rw[h];simp
def OC(n:Nat):WD (n:Int) 1=((n:Int):Rat):=by
 rw[<-CR ((n:Int):Rat)];simp
def T0{I:Nat}{E A:Int}(h:(decide (E=0)&&JT l (DL l I) 120)=false)(hp:DL l I=p)(s:Dq l p=p+d)(o:Ye l p d n)
(g:(decide (Dk (JL l I) E=0)&&JT l (DL l (p+d)) 47)=false):Xn l I E A (WD (n:Int) 1) (DL l (p+d)) (Dk (JL l I) E) (Ds (JL l I) E A):=by
 have j:EJ (WD (n:Int) 1):=⟨n,1,J,o.lt12,O,O⟩;have f:DL l (p+d)<=l.length:=Yh o.1;by_cases b:E=0
 . rw[Xn,OB h b];subst b;cases c:JL l I with
   |error e q=>
    have i:J9 l I=.error e q:=by unfold J9;rw[c]
    rw[i];exact⟨J,J,j,f,λ_ c0 k m=>by cases m⟩
   |ok a k=>
    obtain⟨ds,t⟩:=a;obtain⟨rfl,rfl,rfl⟩:=o.of_ok hp s c;rw[c,(EG J 0 0).1]at g;simp at g;have i:J9 l I=.ok ((num ds:Int):Rat) (DL l (t+d)):=by unfold J9;rw[c];simp[g]
    rw[i];refine⟨J,J,j,f,λ_ c0 k m=>?_⟩;cases m;exact⟨OC _,J⟩
 . refine⟨?_,?_,j,f,λr=>absurd r b⟩
   . rw[(FG _ b A).1,(FG _ b A).1]
   . rw[(FG _ b A).2,(FG _ b A).2]
def UA{I:Nat}{E A:Int}{o u:Nat}(h:(decide (E=0)&&JT l (DL l I) 120)=false)(hp:DL l I=p)(S:Dq l p=p+d)(w:Ye l p d n)
(m:(decide (Dk (JL l I) E=0)&&JT l (DL l (p+d)) 47)=true)(U:DL l (DL l (p+d)+1)=b)(T:Dq l b=b+o)(i:Ye l b o u)(f v:Int)(r:f=Dk (JL l (DL l (p+d)+1)) (Dk (JL l I) E))(hA2:v=Ds (JL l (DL l (p+d)+1)) (Dk (JL l I) E) (Ds (JL l I) E A)):
 (u=0->Xn l I E A (WD (n:Int) 1) (b+o) (if f=0 then 4 else f) (if f=0 then(b:Int)else v))/\(u≠0->Xn l I E A (WD (n:Int) (u:Int)) (b+o) f v):=by
 rw[AL,Bf]at m;obtain⟨R,a,k,t⟩:=LP (F9 l I) m.1;obtain⟨ds,V⟩:=a;obtain⟨rfl,rfl,rfl⟩:=w.of_ok hp S t;subst R;have z:EJ (WD (num ds:Int) 1):=⟨num ds,1,J,w.lt12,O,O⟩;rw[m.1]at r hA2;rw[t,(EG J 0 A).2]at hA2;unfold Xn;rw[OB h J];cases c:JL l (DL l (V+d)+1)with
 |error e q=>
  have s:J9 l I=.error e q:=by unfold J9;rw[t];simp[m.2,c]
  have W:=F9 _ _ _ _ c;rw[c]at r hA2;have K:f=(e:Int):=r;have D:v=(q:Int):=hA2;have x:¬f=0:=O
  rw[s,BL x,BL x,K,D];refine⟨λ_=>⟨J,J,z,i.1,λ_ c0 k g=>by cases g⟩,λj=>⟨J,J,⟨num ds,u,J,w.lt12,j,i.lt12⟩,i.1,λ_ c0 k g=>by cases g⟩⟩
 |ok a k=>
  obtain⟨y,B⟩:=a;obtain⟨rfl,rfl,rfl⟩:=i.of_ok U T c;rw[c,(EG J 0 A).1]at r;rw[c,(EG J 0 A).2]at hA2;subst r hA2;rw[BR J,BR J];refine⟨λj=>?_,λj=>?_⟩
  . have s:J9 l I=.error 4 B:=by unfold J9;rw[t];simp[m.2,c,j]
    rw[s];exact⟨J,J,z,i.1,λ_ c0 k g=>by cases g⟩
  . have s:J9 l I=.ok (WD (num ds) (num y)) (B+o):=by unfold J9;rw[t];simp[m.2,c,j]
    rw[s];refine⟨J,J,⟨num ds,num y,J,w.lt12,j,i.lt12⟩,i.1,λ_ c0 k g=>?_⟩;cases g;exact⟨J,J⟩
def Y2(l:List UInt8)(I:Nat)(E A:Int)(c:Rat)(n I':Nat)(E' A':Int):Prop:=
 E'=Dk (JZ l I) E/\A'=Ds (JZ l I) E A/\(E=0->∀c0 a k,JZ l I=.ok (c0,a) k->c=c0/\n=a/\I'=k)
theorem Xn.zero{I:Nat}{E A:Int}{c:Rat}(h:Xn l I E A c b g i)(f:g=0):E=0/\i=A/\EH l I=.ok c b:=by
 have d:=h.1;rw[f]at d;obtain⟨e,c0,k,a⟩:=LP (N8 l I) d.symm;obtain⟨rfl,rfl⟩:=h.2.2.2.2 e c0 k a;exact⟨e,h.2.1.trans (EG a E A).2,a⟩
def Xn.set{I:Nat}{E A:Int}{c:Rat}(h:Xn l I E A c b g i)(q:g≠0)(n I':Nat):Y2 l I E A c n I' g i:=by
 by_cases a:E=0
 . subst a;cases j:EH l I with
   |ok c0 k=>
    have:=h.1;rw[j,(EG J 0 A).1]at this;exact absurd this q
   |error e p=>
    have m:JZ l I=.error e p:=by rw[XN,j]
    have d:=h.1;have f:=h.2.1;rw[j]at d f;exact⟨by rw[m];exact d,by rw[m];exact f,λ_ c0 r k o=>by rw[m]at o;cases o⟩
 . have d:=h.1;have f:=h.2.1;rw[(FG _ a A).1]at d;rw[(FG _ a A).2]at f;exact⟨by rw[(FG _ a A).1];exact d,by rw[(FG _ a A).2];exact f,λh=>absurd h a⟩
theorem Y2.of{I:Nat}{A:Int}{c:Rat}{I':Nat}(h:JZ l I=.ok (c,n) I'):Y2 l I 0 A c n I' 0 A:=by
 refine⟨by rw[(EG h 0 A).1],by rw[(EG h 0 A).2],λ_ c0 b k a=>?_⟩;rw[h]at a;cases a;exact⟨J,J,J⟩
def Y2.bad{I:Nat}{A:Int}{e:Nat}(c:Rat)(n I':Nat)(h:JZ l I=.error e p):Y2 l I 0 A c n I' e p:=by
 exact⟨by rw[h];rfl,by rw[h];rfl,λ_ c0 b k a=>by rw[h]at a;cases a⟩
def UB{I:Nat}{E A:Int}{c:Rat}(h:Xn l I E A c b g i)(d:(decide (g=0)&&JT l (DL l b) 120)=false):Y2 l I E A c 0 (DL l b) g i:=by
 by_cases a:g=0
 . obtain⟨rfl,rfl,e⟩:=h.zero a;subst a;simp at d;refine Y2.of ?_;rw[XN,e];simp[d]
 . exact h.set a _ _
def UC{I:Nat}{E A:Int}{c:Rat}(h:Xn l I E A c b g i)(a:(decide (g=0)&&JT l (DL l b) 120)=true)(e:(decide (g=0)&&JT l (DL l (DL l b+1)) 94)=false):Y2 l I E A c 1 (DL l (DL l b+1)) g i:=by
 rw[AL,Bf]at a;obtain⟨d,a⟩:=a;obtain⟨rfl,rfl,f⟩:=h.zero d;subst d;simp at e;refine Y2.of ?_;rw[XN,f];simp[a,Dv,e]
def UD{I:Nat}{E A:Int}{c:Rat}(h:Xn l I E A c b g i)(m:(decide (g=0)&&JT l (DL l b) 120)=true)(o:(decide (g=0)&&JT l (DL l (DL l b+1)) 94)=true)(hp:DL l (DL l (DL l b+1)+1)=p)(B:Dq l p=p+d)(D:Ye l p d n)(j r:Int)
(s:j=Dk (JL l (DL l (DL l b+1)+1)) g)(hA5:r=Ds (JL l (DL l (DL l b+1)+1)) g i):(8<n->Y2 l I E A c 0 (p+d) (if j=0 then 3 else j) (if j=0 then(p:Int)else r))/\(¬8<n->Y2 l I E A c n (p+d) j r):=by
 rw[AL,Bf]at m o;obtain⟨w,m⟩:=m;obtain⟨_,o⟩:=o;obtain⟨rfl,rfl,u⟩:=h.zero w;subst w;cases f:JL l (DL l (DL l b+1)+1)with
 |error e q=>
  rw[f]at s hA5;have R:=F9 _ _ _ _ f;have z:j=(e:Int):=s;have y:r=(q:Int):=hA5;have v:¬j=0:=O
  have x:JZ l I=.error e q:=by rw[XN,u];simp[m,Dv,o,f]
  rw[BL v,BL v,z,y];exact⟨λ_=>Y2.bad _ _ _ x,λ_=>Y2.bad _ _ _ x⟩
 |ok a k=>
  obtain⟨K,S⟩:=a;obtain⟨rfl,rfl,rfl⟩:=D.of_ok hp B f;rw[f,(EG J 0 0).1]at s;rw[f,(EG J 0 _).2]at hA5;subst s hA5;rw[BR J,BR J];refine⟨λt=>Y2.bad _ _ _ ?_,λt=>Y2.of ?_⟩
  . rw[XN,u];simp[m,Dv,o,f,t]
  . rw[XN,u];simp[m,Dv,o,f,t]
def EI.new{w e:H}{R:Nat}{s:ByteArray}{I E A:Int}{c:Rat}(h:DR w R s I E A)(j:Bl w e){a:V8}{l f:Nat}{g:Bool}{b:V8}{k d:Nat}{t:Bool}(m:Jo e (.agg #[C a l f,F g,C b k d,F t]) c):
 EI w (e.alloc (G #[C a l f,F g,C b k d,F t] 49)) R e.heap.size s I E A c:=by
 have i:Bl e (e.alloc (G #[C a l f,F g,C b k d,F t] 49)):=Ba e _;exact⟨(h.below j).below i,⟨a,l,f,g,b,k,d,t,JF.new _ _ _ _ _ _,m.below i⟩,Jd (JM j _) (JM i _),j.size⟩
def UE(R:Nat)(s:ByteArray)(I:Nat)(E A:Int)(w:H)(h:DR w R s I E A)(hI:I<=s.size)(hs:s.size<=300):
 Q L 46 #[.pointer (some ⟨R,0,none⟩)] w λr w'=>∃(u:M) (c:Rat) (n I':Nat),r=.returned u/\RowK false w' u (Jf (DZ n [c]))/\n<=8/\EJ c/\I'<=s.size/\DR w' R s (I':Int) (Dk (JZ (Je s) I) E) (Ds (JZ (Je s) I) E A)/\(E=0->∀c0 n0 k,JZ (Je s) I=.ok (c0,n0) k->c=c0/\n=n0/\I'=k)/\w.grownBy w' (some R):=by
 have Uk:I<=(Je s).length:=by rw[Jg];exact hI
 obtain⟨b1,bz⟩:=ex ((decide (E=0)&&JT (Je s) (DL (Je s) I) 120));have Ud:=Z bz;obtain⟨j,bd⟩:=ex (DL (Je s) I);have Qu:=Z bd;have Uh:j<=s.size:=by rw[<-bd,<-Jg];exact Yh Uk
 have HW:=Z (Gp 1 O O w);have Uq:=Z λ(V:H) (f:DR V R s I E A)=>XD R s I E A 120 V f hI hs;rw[bz,bd]at Uq;have HH:=Z h;have Wg:=Z Uk;clear h bz bd Uk hI;go_enter func46,ntmps46
 go_upto_region 2 with(first
  |(go_at_call 62;refine HW.o.mono ?_;clear HW;rintro e w1 ⟨u1,rfl,cz,eb⟩;obtain⟨f6,fe,f8,ff,f7,fd,f9,fg,rfl⟩:=Jo.form cz))
 have hT:=EI.new HH.o eb cz;obtain⟨W0,bu⟩:=ex (w1.alloc (G #[C f6 fe f8,F ff,C f7 fd f9,F fg] 49));rw[bu]at hT;rw[bu];obtain⟨B,hB⟩:=ex (w1.heap.size);rw[hB]at hT;rw[hB];have HT:=Z (show EI w W0 R B s I E A 1 from hT);clear hT cz eb bu hB;go_upto_if 15 with(first
  |(go_at_call 47;refine(Uq.o _ HT.o.1).mono ?_;clear Uq;rintro e w2 ⟨rfl,ed,dx⟩;have Qy:=Z (HT.o.rd ed dx);clear ed dx HT))
 go_cut [4] λv w'=>v=F b1/\∃(c:Rat) (T:Nat) (d g:Int),Hid (EI w w' R B s (T:Int) d g c/\Xn (Je s) I E A c T d g)
 case first=>
  cases b1 with
  |true=>
   go_wp2_with fail
   go_meet
   case rel=>exact⟨J,1,j,E,A,Z ⟨Qy.o,by rw[<-Qu.o];exact Tz Wg.o Ud.o⟩⟩
  |false=>
   obtain⟨d,bm⟩:=ex (Dk (JL (Je s) I) E);obtain⟨g,hA1⟩:=ex (Ds (JL (Je s) I) E A);have HN:=Z λ(V:H) (f:DR V R s j E A)=>LO R s j E A j V f Uh hs (by rw[<-Qu.o];exact GA _ _);have Uw:JL (Je s) j=JL (Je s) I:=by rw[<-Qu.o];exact Tx _ _
   rw[Uw,bm,hA1]at HN;have Ua:=Z bm;have Ut:=Z hA1;clear bm hA1 Uw;go_upto_if 22 with(first
    |(go_at_call 91;refine(HN.o _ Qy.o.1).mono ?_;clear HN;rintro e w3 ⟨d1,n1,rfl,dt,bi,ap,aj⟩;have X:=Z (Qy.o.rd ap aj);clear ap aj Qy;have Ux:=Z dt;have Uv:=Z bi;have Uf:=bi.lt12;have dz:j+d1<=s.size:=(by rw[<-Jg];exact bi.1);clear dt bi;obtain⟨b2,ce⟩:∃b,b=(decide (d=0)&&JT (Je s) (DL (Je s) (j+d1)) 47):=⟨_,J⟩;have Ul:=Z ce;have Uo:=Z λ(V:H) (f:DR V R s ((j+d1:Nat):Int) d g)=>Yu R s (j+d1) d g 47 V f dz hs b2 ce;clear ce;obtain⟨I2,bf⟩:=ex (DL (Je s) (j+d1));rw[bf]at Uo;have Qp:=Z bf;have fi:I2<=s.size:=(by rw[<-bf,<-Jg];exact Yh (by rw[Jg];exact dz));clear bf)
    |(go_at_call 45;refine(Uo.o _ X.o.1).mono ?_;clear Uo;rintro e w4 ⟨rfl,aq,ak⟩;have S:=Z (X.o.rd aq ak);clear aq ak X))
   have Qn:=Z λ(V:H)=>Ew (n1:Int) O O V;have Ui:=Z (Sok.word Uf);cases b2 with
   |false=>
    obtain⟨W,Qz,HY⟩:=DY (λ(V:H)=>Ew 1 O O V) Sok.one (show(1:Int)≠0 by omega);go_wp2_with(first
     |(go_at_call 93;refine(Qn.o _).mono ?_;clear Qn;rintro e w6 ⟨er,rfl,ah,ad⟩;have Qw:=Z (S.o.below ad);clear ad;have Qo:=Z ah;clear ah)
     |(go_at_call 93;refine(W.o _).mono ?_;clear W;rintro e w7 ⟨et,rfl,ai,p⟩;have Qv:=Z (Qw.o.below p);have Qb:=Z (Qo.o.below p);clear p;have Qs:=Z ai;clear ai)
     |(go_at_call 92;refine(F8 _ _ _ _ _ Qb.o Qs.o HY.o Ui.o Qz.o).mono ?_;rintro e w8 ⟨ew,rfl,t,ae⟩;have U:=Qv.o.below ae;clear ae;obtain⟨de,eh,di,ei,dh,ef,dj,en,rfl⟩:=Jo.form t;have Qt:=Z (U.put t);obtain⟨_,⟨x0,x1,x2,x3,x4,x5,x6,x7,a,_⟩,_,_⟩:=U;obtain⟨e0,e1,e2,e3⟩:=a.cq;obtain⟨g0,g1,g2,g3⟩:=a.fq;clear a t))
    go_meet
    case rel=>exact⟨J,_,_,_,_,Z ⟨Qt.o,by have:=T0 (A:=A) Ud.o Qu.o Ux.o Uv.o (by rw[Ua.o];exact Ul.o.symm);rw[Qp.o,Ua.o,Ut.o]at this;exact this⟩⟩
   |true=>
    have Um:I2+1<=s.size:=by
     have h5:=Ul.o.symm;rw[AL]at h5;have h6:=J6 h5.2;rw[Qp.o,Jg]at h6;omega
    obtain⟨p2,cn⟩:=ex (DL (Je s) (I2+1));have Qr:=Z λ(V:H) (f:DR V R s ((I2+1:Nat):Int) d g)=>LO R s (I2+1) d g p2 V f Um hs cn;have Wd:=Z cn;clear cn;obtain⟨E2,bn⟩:=ex (Dk (JL (Je s) (I2+1)) d);obtain⟨A2,hA2⟩:=ex (Ds (JL (Je s) (I2+1)) d g);rw[bn,hA2]at Qr;have Wa:=Z bn;have We:=Z hA2;clear bn hA2;go_upto_if 29 with(first
     |(go_at_call 91;refine(Qr.o _ S.o.1).mono ?_;clear Qr;rintro e w5 ⟨d2,n2,rfl,du,ck,az,am⟩;have K:=Z (S.o.rd az am);clear az am S;have Uy:=Z du;have Qr:=Z ck;have Ue:=ck.lt12;clear du ck))
    have Qq:=Z (UA (A:=A) Ud.o Qu.o Ux.o Uv.o (by rw[Ua.o];exact Ul.o.symm) (by rw[Qp.o];exact Wd.o) Uy.o Qr.o E2 A2 (by rw[Qp.o,Ua.o];exact Wa.o.symm) (by rw[Qp.o,Ua.o,Ut.o];exact We.o.symm));by_cases bj:n2=0
    . have Wh:((n2:Int)==0)=true:=by rw[bj];rfl
      have Up:=Z bj;clear bj;obtain⟨HF,W,Qz,HY⟩:=Dr (λ(V:H) (f:DR V R s ((p2+d2:Nat):Int) E2 A2)=>Gt R s ((p2+d2:Nat):Int) E2 A2 4 (p2:Int) V f) (λ(V:H)=>Ew 1 O O V) Sok.one (show(1:Int)≠0 by omega);go_wp2_with(first
       |(go_at_call 48;refine(HF.o _ K.o.1).mono ?_;clear HF;rintro e fh ⟨rfl,bc,an⟩;have Qi:=Z (K.o.rd bc an);clear bc an K)
       |(go_at_call 93;refine(Qn.o _).mono ?_;clear Qn;rintro e w6 ⟨er,rfl,ah,ad⟩;have Qw:=Z (Qi.o.below ad);clear ad;have Qo:=Z ah;clear ah)
       |(go_at_call 93;refine(W.o _).mono ?_;clear W;rintro e w7 ⟨et,rfl,ai,p⟩;have Qv:=Z (Qw.o.below p);have Qb:=Z (Qo.o.below p);clear p;have Qs:=Z ai;clear ai)
       |(go_at_call 92;refine(F8 _ _ _ _ _ Qb.o Qs.o HY.o Ui.o Qz.o).mono ?_;rintro e w8 ⟨ew,rfl,t,ae⟩;have U:=Qv.o.below ae;clear ae;obtain⟨de,eh,di,ei,dh,ef,dj,en,rfl⟩:=Jo.form t;have Qt:=Z (U.put t);obtain⟨_,⟨x0,x1,x2,x3,x4,x5,x6,x7,a,_⟩,_,_⟩:=U;obtain⟨e0,e1,e2,e3⟩:=a.cq;obtain⟨g0,g1,g2,g3⟩:=a.fq;clear a t))
      go_meet
      case rel=>exact⟨J,_,_,_,_,Z ⟨Qt.o,Qq.o.1 Up.o⟩⟩
    . have Wh:((n2:Int)==0)=false:=by rw[BJ];omega
      obtain⟨W,Qz,HY⟩:=DY (λ(V:H)=>Ew (n2:Int) O O V) (Sok.word Ue) (show(n2:Int)≠0 by omega);go_wp2_with(first
       |(go_at_call 93;refine(Qn.o _).mono ?_;clear Qn;rintro e w6 ⟨er,rfl,ah,ad⟩;have Qw:=Z (K.o.below ad);clear ad;have Qo:=Z ah;clear ah)
       |(go_at_call 93;refine(W.o _).mono ?_;clear W;rintro e w7 ⟨et,rfl,ai,p⟩;have Qv:=Z (Qw.o.below p);have Qb:=Z (Qo.o.below p);clear p;have Qs:=Z ai;clear ai)
       |(go_at_call 92;refine(F8 _ _ _ _ _ Qb.o Qs.o HY.o Ui.o Qz.o).mono ?_;rintro e w8 ⟨ew,rfl,t,ae⟩;have U:=Qv.o.below ae;clear ae;obtain⟨de,eh,di,ei,dh,ef,dj,en,rfl⟩:=Jo.form t;have Qt:=Z (U.put t);obtain⟨_,⟨x0,x1,x2,x3,x4,x5,x6,x7,a,_⟩,_,_⟩:=U;obtain⟨e0,e1,e2,e3⟩:=a.cq;obtain⟨g0,g1,g2,g3⟩:=a.fq;clear a t))
      go_meet
      case rel=>exact⟨J,_,_,_,_,Z ⟨Qt.o,Qq.o.2 bj⟩⟩
 case rest=>
  obtain⟨rfl,c,T,d,g,z⟩:=hcut;have Us:T<=s.size:=by have:=z.o.2.2.2.2.1;rwa[Jg]at this
  obtain⟨b3,cg⟩:∃b,b=(decide (d=0)&&JT (Je s) (DL (Je s) T) 120):=⟨_,J⟩;have Uc:=Z cg.symm;obtain⟨I3,bg⟩:=ex (DL (Je s) T);have HX:=Z λ(V:H) (f:DR V R s (T:Int) d g)=>Yu R s T d g 120 V f Us hs b3 cg;rw[bg]at HX;have Ug:I3<=s.size:=by rw[<-bg,<-Jg];exact Yh (by rw[Jg];exact Us)
  have D:=Z bg;clear bg cg Qy Ud;go_upto_if 40 with(first
   |(go_at_call 45;refine(HX.o _ z.o.1.1).mono ?_;clear HX;rintro e w3 ⟨rfl,ap,aj⟩;have X:=Z (z.o.1.rd ap aj);clear ap aj))
  cases b3 with
  |false=>
   obtain⟨_,⟨y0,y1,y2,y3,y4,y5,y6,y7,a,y⟩,_,_⟩:=X.o;obtain⟨e0,e1,e2,e3⟩:=a.cq;have l:=Z (Gs _ 0 c _ y O);clear a y;go_wp2_with(first
    |(go_at_call 74;refine l.o.mono ?_;clear l;rintro e w9 ⟨u9,rfl,x,q⟩;have m:=Z (X.o.below q);clear q;have o:=Z x;clear x;obtain⟨a7,l7,c7,rfl⟩:=o.o.form))
   go_ret;have i:=UB z.o.2 Uc.o;refine⟨_,c,0,_,J,o.o,O,z.o.2.2.2.1,by rw[D.o];exact Ug,?_,i.2.2,m.o.2.2.1⟩;rw[<-i.1,<-i.2.1];rw[D.o];exact m.o.1
  |true=>
   have Ub:I3+1<=s.size:=by
    have h5:=Uc.o;rw[AL]at h5;have h6:=J6 h5.2;rw[D.o,Jg]at h6;omega
   obtain⟨b4,cj⟩:∃b,b=(decide (d=0)&&JT (Je s) (DL (Je s) (I3+1)) 94):=⟨_,J⟩;have Un:=Z cj.symm;obtain⟨I4,bh⟩:=ex (DL (Je s) (I3+1));have HX:=Z λ(V:H) (f:DR V R s ((I3+1:Nat):Int) d g)=>Yu R s (I3+1) d g 94 V f Ub hs b4 cj;rw[bh]at HX;have Uj:I4<=s.size:=by rw[<-bh,<-Jg];exact Yh (by rw[Jg];exact Ub)
   have Qm:=Z bh;clear bh cj;go_upto_if 45 with(first
    |(go_at_call 45;refine(HX.o _ X.o.1).mono ?_;clear HX;rintro e w4 ⟨rfl,aq,ak⟩;have S:=Z (X.o.rd aq ak);clear aq ak))
   cases b4 with
   |false=>
    obtain⟨_,⟨y0,y1,y2,y3,y4,y5,y6,y7,a,y⟩,_,_⟩:=S.o;obtain⟨e0,e1,e2,e3⟩:=a.cq;have l:=Z (Gs _ 1 c _ y O);clear a y;go_wp2_with(first
     |(go_at_call 74;refine l.o.mono ?_;clear l;rintro e w9 ⟨u9,rfl,x,q⟩;have m:=Z (S.o.below q);clear q;have o:=Z x;clear x;obtain⟨a7,l7,c7,rfl⟩:=o.o.form))
    go_ret;have i:=UC z.o.2 Uc.o (by rw[D.o];exact Un.o);refine⟨_,c,1,_,J,o.o,O,z.o.2.2.2.1,by rw[D.o,Qm.o];exact Uj,?_,i.2.2,m.o.2.2.1⟩;rw[<-i.1,<-i.2.1];rw[D.o,Qm.o];exact m.o.1
   |true=>
    have Ur:I4+1<=s.size:=by
     have h5:=Un.o;rw[AL]at h5;have h6:=J6 h5.2;rw[Qm.o,Jg]at h6;omega
    obtain⟨p5,co⟩:=ex (DL (Je s) (I4+1));have Qx:=Z λ(V:H) (f:DR V R s ((I4+1:Nat):Int) d g)=>LO R s (I4+1) d g p5 V f Ur hs co;have Wi:=Z co;clear co;obtain⟨E5,bt⟩:=ex (Dk (JL (Je s) (I4+1)) d);obtain⟨A5,hA5⟩:=ex (Ds (JL (Je s) (I4+1)) d g);rw[bt,hA5]at Qx;have Wb:=Z bt;have Wc:=Z hA5;clear bt hA5;go_upto_if 54 with(first
     |(go_at_call 91;refine(Qx.o _ S.o.1).mono ?_;clear Qx;rintro e w5 ⟨d5,n5,rfl,dw,bk,az,am⟩;have K:=Z (S.o.rd az am);clear az am S;have Uz:=Z dw;have Qx:=Z bk;have fj:=bk.lt12;have Uu:p5+d5<=s.size:=(by rw[<-Jg];exact bk.1);clear dw bk))
    have Qq:=Z (UD z.o.2 Uc.o (by rw[D.o];exact Un.o) (by rw[D.o,Qm.o];exact Wi.o) Uz.o Qx.o E5 A5 (by rw[D.o,Qm.o];exact Wb.o.symm) (by rw[D.o,Qm.o];exact Wc.o.symm));by_cases h8:8<n5
    . have fc:(8:Int)<(n5:Int):=O
      have HF:=Z λ(V:H) (f:DR V R s ((p5+d5:Nat):Int) E5 A5)=>Gt R s ((p5+d5:Nat):Int) E5 A5 3 (p5:Int) V f;go_upto_region 21 with(first
       |(go_at_call 48;refine(HF.o _ K.o.1).mono ?_;clear HF;rintro e fh ⟨rfl,bc,an⟩;have Qi:=Z (K.o.rd bc an);clear bc an K))
      obtain⟨_,⟨y0,y1,y2,y3,y4,y5,y6,y7,a,y⟩,_,_⟩:=Qi.o;obtain⟨e0,e1,e2,e3⟩:=a.cq;have l:=Z (Gs _ 0 c _ y O);clear a y;go_wp2_with(first
       |(go_at_call 74;refine l.o.mono ?_;clear l;rintro e w9 ⟨u9,rfl,x,q⟩;have m:=Z (Qi.o.below q);clear q;have o:=Z x;clear x;obtain⟨a7,l7,c7,rfl⟩:=o.o.form))
      go_ret;have i:=Qq.o.1 h8;refine⟨_,c,0,p5+d5,J,o.o,O,z.o.2.2.2.1,Uu,?_,i.2.2,m.o.2.2.1⟩;rw[<-i.1,<-i.2.1];exact m.o.1
    . have fc:¬(8:Int)<(n5:Int):=O
      obtain⟨_,⟨y0,y1,y2,y3,y4,y5,y6,y7,a,y⟩,_,_⟩:=K.o;obtain⟨e0,e1,e2,e3⟩:=a.cq;have l:=Z (Gs _ n5 c _ y O);clear a y;go_wp2_with(first
       |(go_at_call 74;refine l.o.mono ?_;clear l;rintro e w9 ⟨u9,rfl,x,q⟩;have m:=Z (K.o.below q);clear q;have o:=Z x;clear x;obtain⟨a7,l7,c7,rfl⟩:=o.o.form))
      go_ret;have i:=Qq.o.2 h8;refine⟨_,c,n5,p5+d5,J,o.o,O,z.o.2.2.2.1,Uu,?_,i.2.2,m.o.2.2.1⟩;rw[<-i.1,<-i.2.1];exact m.o.1

