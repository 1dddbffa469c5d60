import Derived.Test.YtcahejkcdcjjgaaGreatDoorW28
import Derived.Test.YtcahejkcdcjjgaaGreatDoorW25
set_option linter.all false
open Go.Value renaming slice->C,bool->F,int->N
open Go.Obj renaming cells->G
open Go renaming World->H,Value->M,Calls->Q
open Go.Proofs.Tryz renaming prog->L
open Go.IntKind renaming i64->P
set_option maxRecDepth 99999
set_option maxHeartbeats 0
namespace Go.Proofs.YtcahejkcdcjjgaaGreatDoor
open Rat renaming divInt->Zx
open Proofs.Tryz
open Go.RowKit Go.Shelf
attribute [local go_sem] Oper.semAt_some
section
def Ov(W:H):M->Nat
 |C (some p) l _=>val 10000 ((List.range l).map λj=>Fh W ⟨p.block,p.off+j,none⟩)
 |_=>0
variable{l n:Nat}{a:Zu}
def RN.rowVal{W:H}{c:Nat}(h:RN W (C a l c) n):Ov W (C a l c)=n:=by
 obtain⟨f,_,_,_,g⟩:=Jq h;rcases AQ l with d|d
 . subst d;have o:n=0:=(Jz O).1 (Aj f.symm);subst o;cases a<;>rfl
 . obtain⟨b,i,rfl,_,_⟩:=g 0 d;show val 10000 ((List.range l).map λj=>Fh W ⟨b,i+j,none⟩)=n;have e:(List.range l).map (λj=>Fh W ⟨b,i+j,none⟩)=Jb 10000 n:=by
    refine List.ext_getElem (by rw[List.length_map,List.length_range];exact f) λj q k=>?_;obtain⟨p,r,e,_,m⟩:=g j O;cases e;rw[List.getElem_map,List.getElem_range,Fh,m,Aq k];rfl
   rw[e,Jn O]
def Ow{m:Nat}(h:n<=m):(Jb 10000 n).length<=(Jb 10000 m).length:=by
 rcases AF (Jb 10000 m).length (Jb 10000 n).length with a|a
 . have:=Ys O a;omega
 . exact a
def VC(o vb:M)(x y:Int)(w:H)(ha:Jr w o x)(hb:Jr w vb y)(ah:Dr x<=100000000000)(ai:Dr y<=100000000000):
 Q L 125 #[o,vb] w λe w'=>∃u,e=.returned u/\Jr w' u (Int.gcd x y:Nat)/\Bl w w':=by
 obtain⟨a,la,m,rfl,A⟩:=ha;obtain⟨b,lb,n,rfl,B⟩:=hb;obtain⟨s,hs⟩:=ex (decide (x<0));obtain⟨t,ht⟩:=ex (decide (y<0));rw[hs,ht];clear hs ht;obtain⟨W0,i⟩:=ex (((w.alloc (G #[C a la m,F s] 47)).alloc (G #[C b lb n,F t] 47)).alloc (G #[C none 0 0,F false] 47));have q:Bl w W0:=by rw[<-i];exact XZ w _ _ _
 have b0:Ji W0 w.heap.size 47 (C a la m) (F s):=by rw[<-i];exact((Ji.new w _ _ _).alloc _).alloc _
 have b1:Ji W0 (w.heap.size+1) 47 (C b lb n) (F t):=by
  have h:=(Ji.new (w.alloc (G #[C a la m,F s] 47)) 47 (C b lb n) (F t)).alloc (G #[C none 0 0,F false] 47);rw[A1,i]at h;exact h
 have bR:Ji W0 (w.heap.size+1+1) 47 (C none 0 0) (F false):=by
  have h:=Ji.new ((w.alloc (G #[C a la m,F s] 47)).alloc (G #[C b lb n,F t] 47)) 47 (C none 0 0) (F false);rw[A1,A1,i]at h;exact h
 have r0:=RN.below A q;have r1:=RN.below B q;have k0:=b0.c0;have k2:=b1.c0;have R:la<=100000000000:=by rw[RN.len A];exact ah
 have T:lb<=100000000000:=by rw[RN.len B];exact ai
 have K:=Z i;clear i A B ah ai;go_enter func125,ntmps125
 go_upto_region 1 with fail
 rw[K.o];clear K;go_wp2_with fail
 go_loopw [5,6] (λxv D wr=>∃(f:Zu) (d c0 X:Nat) (l:Zu) (g c1 c:Nat),xv=C f d c0/\D=C l g c1/\Hid (RN wr (C f d c0) X)/\Hid (RN wr (C l g c1) c)/\Hid (Nat.gcd X c=Int.gcd x y)/\(d<=100000000000/\g<=100000000000)/\Bl W0 wr)
  (λ_ D wr=>Ov wr D)
 case atStart=>exact⟨a,la,m,x.natAbs,b,lb,n,y.natAbs,J,J,Z r0,Z r1,Z J,⟨R,T⟩,BB _ W0⟩
 case round=>
  clear r0 r1 R T;obtain⟨f,d,c0,X,l,g,c1,c,rfl,rfl,W,j,V,⟨aj,ae⟩,r⟩:=hrel;rcases AQ g with U|U
  . subst U;have S:c=0:=(Jz O).1 (Aj (RN.len j.o).symm);have HE:=Z (show X=Int.gcd x y by rw[<-V.o,S,Nat.gcd_zero_right]);have k:=bR.below r;obtain⟨q0,q1⟩:=k.cp;obtain⟨f0,f1⟩:=k.fp;clear S;go_wp2_with fail
    have E:=(Gf W.o).box k J J (x0:=C f d c0) (x1:=F false);rw[HE.o]at E;have Qj:=Bt q r;have z0:=((k.set0 (C f d c0)).set1 (F false)).c0;have z1:=((k.set0 (C f d c0)).set1 (F false)).c1;exact BA (by simp[results,results125,go_sem,z0,z1]) J ⟨_,J,E,(Qj.setCell (p:=⟨_,0,none⟩) so _).setCell (p:=⟨_,1,none⟩) so _⟩
  . have Qi:c≠0:=λe=>by
     have h:=RN.len j.o;rw[e,Jv]at h;simp at h;omega
    have Qk:=Z (Ou f d c0 l g c1 X c wr W.o j.o Qi aj ae);have I:=AV X (show c>0 by omega);go_wp2_with(go_at_call 157;refine Qk.o.mono ?_;rintro e w2 ⟨u,v,rfl,hu,z,ad⟩;obtain⟨ua,uc,rfl⟩:=RN.form hu;obtain⟨o,vc,rfl⟩:=RN.form z)
    have Ql:=RN.below j.o ad;refine⟨⟨l,g,c1,c,o,_,vc,X%c,J,J,Z Ql,Z z,Z (by rw[<-V.o,CO c,<-Nat.gcd_rec,CO]),⟨ae,?_⟩,Bt r ad⟩,?_⟩
    . have h1:=Ow (Nat.le_of_lt I);rw[<-RN.len j.o]at h1;omega
    . rw[RN.rowVal z,RN.rowVal j.o];exact I
def VE(w:H)(a b c d:M)(p0 p1:M):
 Ji ((((w.alloc (G #[a,b] 47)).alloc (G #[c,d] 47)).alloc (G #[p0,p1] 47)).alloc (G #[p0,p1] 47)) w.heap.size 47 a b/\
 Ji ((((w.alloc (G #[a,b] 47)).alloc (G #[c,d] 47)).alloc (G #[p0,p1] 47)).alloc (G #[p0,p1] 47)) (w.heap.size+1) 47 c d/\
 Ji ((((w.alloc (G #[a,b] 47)).alloc (G #[c,d] 47)).alloc (G #[p0,p1] 47)).alloc (G #[p0,p1] 47)) (w.heap.size+1+1) 47 p0 p1/\
 Ji ((((w.alloc (G #[a,b] 47)).alloc (G #[c,d] 47)).alloc (G #[p0,p1] 47)).alloc (G #[p0,p1] 47)) (w.heap.size+1+1+1) 47 p0 p1:=by
 refine⟨(((Ji.new w _ _ _).alloc _).alloc _).alloc _,?_,?_,?_⟩
 . have h:=((Ji.new (w.alloc (G #[a,b] 47)) 47 c d).alloc (G #[p0,p1] 47)).alloc (G #[p0,p1] 47);rw[A1]at h;exact h
 . have h:=(Ji.new ((w.alloc (G #[a,b] 47)).alloc (G #[c,d] 47)) 47 p0 p1).alloc (G #[p0,p1] 47);rw[A1,A1]at h;exact h
 . have h:=Ji.new (((w.alloc (G #[a,b] 47)).alloc (G #[c,d] 47)).alloc (G #[p0,p1] 47)) 47 p0 p1;rw[A1,A1,A1]at h;exact h
def VF{W:H}{c:Nat}(h:RN W (C a l c) n)(m:Bool):Jr W (.agg #[C a l c,F (m&&decide (0<l))]) (if m=true then -(n:Int)else(n:Int)):=by
 have hl:=RN.len h;have f:0<l↔n≠0:=by
  rw[hl];constructor
  . intro b g;rw[g,Jv]at b;simp at b
  . intro b;exact AP.2 λe=>b ((Jz O).1 e)
 cases m with
 |false=>
  refine⟨a,l,c,?_,by simp;exact h⟩
  have:decide ((n:Int)<0)=false:=BF O
  simp[this]
 |true=>
  refine⟨a,l,c,?_,by simp;exact h⟩;simp only[Bool.true_and,if_true]
  have:decide (0<l)=decide (-(n:Int)<0):=by
   by_cases d:n=0
   . rw[BF λb=>f.1 b d,BF O]
   . rw[BI (f.2 d),BI O]
  rw[this]
def VG(a:Zu)(la ca:Nat)(b:Zu)(lb cb X d:Nat)(s t:Bool)(z r:Int)(w:H)(hu:RN w (C a la ca) X)(hv:RN w (C b lb cb) d)(hY:d≠0)(bg:la<=100000000000)(bh:lb<=100000000000)
(HP:Hid (¬(s=true/\X%d≠0)->(if(!(s==t))=true then -((X/d:Nat):Int)else((X/d:Nat):Int))=z/\((X%d:Nat):Int)=r))
(HN:Hid (s=true/\X%d≠0->(if(!(s==t))=true then -((X/d+1:Nat):Int)else((X/d+1:Nat):Int))=z/\((d-X%d:Nat):Int)=r)):
 Q L 127 #[.agg #[C a la ca,F s],.agg #[C b lb cb,F t]] w λe k=>∃q o,e=.returned (.tuple #[q,o])/\Jr k q z/\Jr k o r/\Bl w k:=by
 obtain⟨b0,b1,b4,b5⟩:=VE w (C a la ca) (F s) (C b lb cb) (F t) (C none 0 0) (F false);have Qo:=OP w (G #[C a la ca,F s] 47) (G #[C b lb cb,F t] 47) (G #[C none 0 0,F false] 47) (G #[C none 0 0,F false] 47);obtain⟨W0,ak⟩:=ex ((((w.alloc (G #[C a la ca,F s] 47)).alloc (G #[C b lb cb,F t] 47)).alloc (G #[C none 0 0,F false] 47)).alloc (G #[C none 0 0,F false] 47));rw[ak]at b0 b1 b4 b5 Qo;have Uj:=Z ak;have Uf:=RN.below hu Qo;have Qw:=RN.below hv Qo;have Uk:=Z (Ou a la ca b lb cb X d W0 Uf Qw hY bg bh);have Ug:=Z Qw;have Ul:=Z (RN.len hu).symm;obtain⟨k0,k1⟩:=b0.cp;obtain⟨f,k3⟩:=b1.cp;clear ak hu hv Uf Qw;go_enter func127,ntmps127
 go_upto_region 1 with fail
 rw[Uj.o];go_upto_region 2 with(go_at_call 157;refine Uk.o.mono ?_;rintro e w1 ⟨u1,v1,rfl,ay,az,aj⟩;obtain⟨A,B,rfl⟩:=RN.form ay;obtain⟨va,vc,rfl⟩:=RN.form az)
 obtain⟨lr,aq⟩:=ex ((Jb 10000 (X%d)).length);obtain⟨lq,ap⟩:=ex ((Jb 10000 (X/d)).length);have Ue:=Z (show lr=0↔X%d=0 by
  rw[<-aq];exact⟨λh=>(Jz O).1 (Aj h),λh=>by rw[h,Jv];rfl⟩)
 rw[aq]at az ⊢;rw[ap]at ay ⊢;have bj:lq<=100000000000:=by
  have S:=Ow (m:=X) (n:=X/d) (CN _ _);have h2:=Ul.o;omega
 have Ub:=Z ap.symm;clear aq ap;obtain⟨k0,k1⟩:=(b0.below aj).cp;obtain⟨f,k3⟩:=(b1.below aj).cp;have Qv:=Z (Fw A lq B (!(s==t)) w1);go_upto_region 3 with(go_at_call 141;refine Qv.o.mono ?_;rintro e w2 ⟨rfl,an⟩)
 obtain⟨I,bf⟩:=ex (((!(s==t))&&decide (0<lq)):Bool);have hI:=VF (RN.below ay an) (!(s==t));rw[bf]at hI ⊢;obtain⟨W3,ai⟩:=ex (w2.alloc (G #[C A lq B,F I] 47));have Qi:Bl w2 W3:=by rw[<-ai];exact Ba w2 _
 have b8:Ji W3 w2.heap.size 47 (C A lq B) (F I):=by rw[<-ai];exact Ji.new w2 _ _ _
 have Qq:Bl w1 W3:=Bt an Qi;have Qf:Bl W0 W3:=Bt aj Qq;have Qu:=hI.below Qi;have Qy:=RN.below az Qq;have Qg:=Bt Qo Qf;obtain⟨K,bc⟩:=ex (w2.heap.size);have bi:w.heap.size+1+1+1<K:=by
  have S:=(b5.below (Bt aj an)).lt;omega
 rw[ai];rw[bc]at b8 ⊢;clear ai bc bf hI;have p0:=b0.below Qf;have p1:=b1.below Qf;have x:=b4.below Qf;have y:=b5.below Qf;clear b0 b1 b4 b5 k0 k1 f k3;obtain⟨k0,k1⟩:=p0.cp;obtain⟨f,k3⟩:=p1.cp;obtain⟨i,j⟩:=b8.cp;obtain⟨q0,q1⟩:=x.cp;obtain⟨q2,q3⟩:=y.cp;obtain⟨f0,f1⟩:=x.fp;obtain⟨f2,f3⟩:=y.fp;obtain⟨cd,bd⟩:=ex ((!s || decide (lr=0)):Bool);have Qh:=Z bd;clear bd;go_cut [31] λv w4=>v=F cd/\w4=W3
 case first=>
  cases s with
  |false=>
   have e5:cd=true:=by rw[<-Qh.o];rfl
   go_wp2_with fail
   go_meet
   case rel=>exact⟨by rw[e5],J⟩
  |true=>
   by_cases l:lr=0
   . have e5:cd=true:=by rw[<-Qh.o];simp;omega
     have T:((lr:Int)==0)=true:=by simp;omega
     clear l;go_wp2_with fail
     go_meet
     case rel=>exact⟨by rw[e5],J⟩
   . have e5:cd=false:=by rw[<-Qh.o];simp;omega
     have T:((lr:Int)==0)=false:=by simp;omega
     clear l;go_wp2_with fail
     go_meet
     case rel=>exact⟨by rw[e5],J⟩
 case rest=>
  obtain⟨rfl,rfl⟩:=hcut;cases cd with
  |true=>
   have hc:¬(s=true/\X%d≠0):=λ⟨S,h2⟩=>by
    have h:=Qh.o;rw[S]at h;simp at h;exact h2 (Ue.o.1 h)
   obtain⟨z1,z2⟩:=HP.o hc;rw[z1]at Qu;have Qv:=Z (Fw va lr vc s);have Qz:(s&&decide (0<lr))=false:=by
    have h:=Qh.o;cases s with
    |false=>rfl
    |true=>simp at h;simp;omega
   rw[Qz]at Qv;have Qt:=Z z2;clear Qz z1 z2 hc;go_wp2_with fail
   go_region_with (first
    |(go_at_call 141;refine(Qv.o _).mono ?_;rintro e w5 ⟨rfl,E⟩;have i:=((b8.drew).below E).c0;have j:=((b8.drew).below E).c1;have q0:=((x.drew).below E).c0;have q1:=((x.drew).below E).c1;have q2:=((y.drew).below E).c0;have q3:=((y.drew).below E).c1;have f0:=((x.drew).below E).f0;have f1:=((x.drew).below E).f1;have f2:=((y.drew).below E).f0;have f3:=((y.drew).below E).f1))
   all_goals
    go_wp2_with fail
    have Qj:Bl wc w5:=((BB _ wc).drew).trans (E.mono (Aa _));have D:=x.below Qj;have Qc:=y.below Qj;obtain⟨z4,z5⟩:=KB (C A lq B) (F I) (C va lr vc) (F false) D Qc;obtain⟨Qr,Qp⟩:=z4.cp;obtain⟨Qk,Qn⟩:=z5.cp;have Qd:Ji ((w5.setCell ⟨w.heap.size+1+1,0,none⟩ (C A lq B)).setCell ⟨w.heap.size+1+1,1,none⟩ (F I)) (w.heap.size+1+1+1) 47 (C none 0 0) (F false):=(Qc.far DJ _).far DJ _;have Qb:=(Gf Qy).below Qj;rw[Qt.o]at Qb;have Ql:=((Qu.below Qj).box D J J (x0:=C A lq B) (x1:=F I)).box Qd J J (x0:=C va lr vc) (x1:=F false);have Qm:=(Qb.box D J J (x0:=C A lq B) (x1:=F I)).box Qd J J (x0:=C va lr vc) (x1:=F false);have Qs:=Bt Qg Qj;exact BA (by simp[results,results127,go_sem,Qr,Qp,Qk,Qn]) J ⟨_,_,J,Ql,Qm,(((Qs.setCell (p:=⟨_,0,none⟩) so _).setCell (p:=⟨_,1,none⟩) so _).setCell (p:=⟨_,0,none⟩) so _).setCell (p:=⟨_,1,none⟩) so _⟩
  |false=>
   have hc:s=true/\X%d≠0:=by
    have h:=Qh.o;simp at h;exact⟨h.1,λe=>h.2 (Ue.o.2 e)⟩
   obtain⟨z1,z2⟩:=HN.o hc;rw[hc.1]at z1;have Ud:Jr wc (.agg #[C A lq B,F I]) (if(!(true==t))=true then -((X/d:Nat):Int)else((X/d:Nat):Int)):=by have h:=Qu;rw[hc.1]at h;exact h
   obtain⟨Ua,Uh,Qt⟩:=Db Ud z1 z2;have bk:=AV X (show d>0 by omega);obtain⟨Uc,Ui,Qe⟩:=Db (FB 1 O O) (λ(V:H) (h:Bl wc V)=>Ie _ _ d (X%d) V (RN.below (RN.below Ug.o Qf) h) (RN.below Qy h) O (by rw[<-RN.len Ug.o];omega)) λ(V:H) (h:Bl wc V)=>CE (CE (b8.below h).c0 (CE (b8.below h).c1 (p1.below h).c0)) (CE (CE (x.below h).c0 (CE (x.below h).c1 (CE (y.below h).c0 (y.below h).c1))) (CE (x.below h).f0 (CE (x.below h).f1 (CE (y.below h).f0 (y.below h).f1))));have n1:¬K=w.heap.size+1+1:=O
   have n2:¬K=w.heap.size+1+1+1:=O
   have n3:¬w.heap.size+1+1=K:=O
   have n4:¬w.heap.size+1+1+1=K:=O
   have n5:¬w.heap.size+1+1=w.heap.size:=O
   have n6:¬w.heap.size=w.heap.size+1+1:=O
   clear hc Ud z1 z2 Qu;cases t with
   |true=>
    have Qx:=Z (show ∀(V:H) (u:M),Bl wc V->Jr V u 1->Q L 108 #[.agg #[C A lq B,F I],u] V λe k=>∃u,e=.returned u/\Jr k u z/\Bl V k from λV u h hu=>by
     have hx:=Ua.o.below h;simp only[beq_self_eq_true,Bool.not_true,Cy,if_false]at hx;have S:=K5 _ u _ 1 V hx hu (by unfold Dr;rw[Ca,<-Ub.o];omega) (KA O O);have h2:=Uh.o;simp only[beq_self_eq_true,Bool.not_true,Cy,if_false]at h2;rw[show((X/d:Nat):Int)+1=z from by rw[<-h2];push_cast;rfl]at S;exact S)
    go_upto_region 6 with fail
    have c:Bl wc wc.drew:=(BB _ wc).drew;clear i j f q0 q1 q2 q3 f0 f1 f2 f3;obtain⟨⟨i,j,f⟩,⟨q0,q1,q2,q3⟩,f0,f1,f2,f3⟩:=Qe.o _ c;go_region_held3 (λk=>k.cell? ⟨K,0,none⟩=some (C A lq B)/\k.cell? ⟨K,1,none⟩=some (F I)/\k.cell? ⟨w.heap.size+1,0,none⟩=some (C b lb cb)) (first|(with_reducible exact⟨i,j,f⟩)|(go_keep;done))
     (first
      |(go_at_call 93;refine(Uc.o _).mono ?_;rintro e w5 ⟨u5,rfl,ah,g⟩;replace c:=Bt c g;clear g i j f q0 q1 q2 q3 f0 f1 f2 f3;obtain⟨⟨i,j,f⟩,⟨q0,q1,q2,q3⟩,f0,f1,f2,f3⟩:=Qe.o _ c)
      |(go_at_call 108;refine(Qx.o _ _ c ah).mono ?_;clear ah;rintro e w6 ⟨u6,rfl,l,g⟩;obtain⟨R,U,c5,rfl⟩:=l.form;obtain⟨W,ae⟩:=ex (decide (z<0));rw[ae]at l;rw[ae];clear ae;replace c:=Bt c g;clear g i j f q0 q1 q2 q3 f0 f1 f2 f3;obtain⟨⟨i,j,f⟩,⟨q0,q1,q2,q3⟩,f0,f1,f2,f3⟩:=Qe.o _ c)
      |(go_at_call 144;refine(Ui.o _ c).mono ?_;rintro e V0 ⟨u7,rfl,T,g⟩;obtain⟨a6,c6,rfl⟩:=RN.form T;obtain⟨l6,ad⟩:=ex ((Jb 10000 (d-X%d)).length);rw[ad]at T;rw[ad];clear ad;replace l:=l.below g;replace c:=Bt c g;clear g i j f q0 q1 q2 q3 f0 f1 f2 f3;obtain⟨⟨i,j,f⟩,⟨q0,q1,q2,q3⟩,f0,f1,f2,f3⟩:=Qe.o _ c))
    go_wp2_with fail
    have D:=x.below c;have Qc:=y.below c;obtain⟨z4,z5⟩:=KB (C R U c5) (F W) (C a6 l6 c6) (F false) D Qc;obtain⟨Qr,Qp⟩:=z4.cp;obtain⟨Qk,Qn⟩:=z5.cp;have Qd:Ji ((V0.setCell ⟨w.heap.size+1+1,0,none⟩ (C R U c5)).setCell ⟨w.heap.size+1+1,1,none⟩ (F W)) (w.heap.size+1+1+1) 47 (C none 0 0) (F false):=(Qc.far DJ _).far DJ _;have Qb:=Gf T;rw[Qt.o]at Qb;have Ql:=(l.box D J J (x0:=C R U c5) (x1:=F W)).box Qd J J (x0:=C a6 l6 c6) (x1:=F false);have Qm:=(Qb.box D J J (x0:=C R U c5) (x1:=F W)).box Qd J J (x0:=C a6 l6 c6) (x1:=F false);have Qs:=Bt Qg c;exact BA (by simp[results,results127,go_sem,Qr,Qp,Qk,Qn]) J ⟨_,_,J,Ql,Qm,(((Qs.setCell (p:=⟨_,0,none⟩) so _).setCell (p:=⟨_,1,none⟩) so _).setCell (p:=⟨_,0,none⟩) so _).setCell (p:=⟨_,1,none⟩) so _⟩
   |false=>
    have Qx:=Z (show ∀(V:H) (u:M),Bl wc V->Jr V u 1->Q L 158 #[.agg #[C A lq B,F I],u] V λe k=>∃u,e=.returned u/\Jr k u z/\Bl V k from λV u h hu=>by
     have hx:=Ua.o.below h;rw[BL (by rfl)]at hx;have S:=Tn _ u _ 1 V hx hu (by unfold Dr;rw[Fd,Ca,<-Ub.o];omega) (KA O O);have h2:=Uh.o;rw[BL (by rfl)]at h2;rw[show -((X/d:Nat):Int)-1=z from by rw[<-h2];push_cast;omega]at S;exact S)
    go_upto_region 7 with fail
    have c:Bl wc wc.drew:=(BB _ wc).drew;clear i j f q0 q1 q2 q3 f0 f1 f2 f3;obtain⟨⟨i,j,f⟩,⟨q0,q1,q2,q3⟩,f0,f1,f2,f3⟩:=Qe.o _ c;go_region_held3 (λk=>k.cell? ⟨K,0,none⟩=some (C A lq B)/\k.cell? ⟨K,1,none⟩=some (F I)/\k.cell? ⟨w.heap.size+1,0,none⟩=some (C b lb cb)) (first|(with_reducible exact⟨i,j,f⟩)|(go_keep;done))
     (first
      |(go_at_call 93;refine(Uc.o _).mono ?_;rintro e w5 ⟨u5,rfl,ah,g⟩;replace c:=Bt c g;clear g i j f q0 q1 q2 q3 f0 f1 f2 f3;obtain⟨⟨i,j,f⟩,⟨q0,q1,q2,q3⟩,f0,f1,f2,f3⟩:=Qe.o _ c)
      |(go_at_call 158;refine(Qx.o _ _ c ah).mono ?_;clear ah;rintro e w6 ⟨u6,rfl,l,g⟩;obtain⟨R,U,c5,rfl⟩:=l.form;obtain⟨W,ae⟩:=ex (decide (z<0));rw[ae]at l;rw[ae];clear ae;replace c:=Bt c g;clear g i j f q0 q1 q2 q3 f0 f1 f2 f3;obtain⟨⟨i,j,f⟩,⟨q0,q1,q2,q3⟩,f0,f1,f2,f3⟩:=Qe.o _ c)
      |(go_at_call 144;refine(Ui.o _ c).mono ?_;rintro e V0 ⟨u7,rfl,T,g⟩;obtain⟨a6,c6,rfl⟩:=RN.form T;obtain⟨l6,ad⟩:=ex ((Jb 10000 (d-X%d)).length);rw[ad]at T;rw[ad];clear ad;replace l:=l.below g;replace c:=Bt c g;clear g i j f q0 q1 q2 q3 f0 f1 f2 f3;obtain⟨⟨i,j,f⟩,⟨q0,q1,q2,q3⟩,f0,f1,f2,f3⟩:=Qe.o _ c))
    go_wp2_with fail
    have D:=x.below c;have Qc:=y.below c;obtain⟨z4,z5⟩:=KB (C R U c5) (F W) (C a6 l6 c6) (F false) D Qc;obtain⟨Qr,Qp⟩:=z4.cp;obtain⟨Qk,Qn⟩:=z5.cp;have Qd:Ji ((V0.setCell ⟨w.heap.size+1+1,0,none⟩ (C R U c5)).setCell ⟨w.heap.size+1+1,1,none⟩ (F W)) (w.heap.size+1+1+1) 47 (C none 0 0) (F false):=(Qc.far DJ _).far DJ _;have Qb:=Gf T;rw[Qt.o]at Qb;have Ql:=(l.box D J J (x0:=C R U c5) (x1:=F W)).box Qd J J (x0:=C a6 l6 c6) (x1:=F false);have Qm:=(Qb.box D J J (x0:=C R U c5) (x1:=F W)).box Qd J J (x0:=C a6 l6 c6) (x1:=F false);have Qs:=Bt Qg c;exact BA (by simp[results,results127,go_sem,Qr,Qp,Qk,Qn]) J ⟨_,_,J,Ql,Qm,(((Qs.setCell (p:=⟨_,0,none⟩) so _).setCell (p:=⟨_,1,none⟩) so _).setCell (p:=⟨_,0,none⟩) so _).setCell (p:=⟨_,1,none⟩) so _⟩
def KI(j k:M)(x y:Int)(w:H)(n:Jr w j x)(p:Jr w k y)(i:y≠0)(r:Dr x<=100000000000)(s:Dr y<=100000000000):
 Q L 127 #[j,k] w λe d=>∃q o,e=.returned (.tuple #[q,o])/\Jr d q (x/y)/\Jr d o (x%y)/\Bl w d:=by
 obtain⟨a,la,l,rfl,f⟩:=n;obtain⟨b,lb,m,rfl,g⟩:=p;refine VG a la l b lb m x.natAbs y.natAbs _ _ (x/y) (x%y) w f g O (by rw[RN.len f];exact r) (by rw[RN.len g];exact s) (λc=>OR i λh=>c ⟨BI h.1,h.2⟩) λc=>OS i ⟨Bh c.1,c.2⟩
def Ox(q:M)(x:Int)(w:H)(s:Jr w q x):
 Q L 98 #[q] w λe t=>e=.returned (N P x.sign)/\Bl w t:=by
 obtain⟨a,la,k,rfl,i⟩:=s;have j:=RN.len i;have y:=(Jq i).2.2.2.1;have f:Bl w (w.alloc (G #[C a la k,F (decide (x<0))] 47)):=Ba w _;have b0:=Ji.new w 47 (C a la k) (F (decide (x<0)));have m:la=0↔x=0:=by
  rw[j];constructor
  . intro h;have:=(Jz (B:=10000) O).1 (Aj h);omega
  . intro h;rw[h,Int.natAbs_zero,Jv];rfl
 have n:=Z m;obtain⟨W0,g⟩:=ex (w.alloc (G #[C a la k,F (decide (x<0))] 47));rw[g]at f b0;have c:=Z g;obtain⟨z,p⟩:=b0.cp;by_cases l:x<0
 . have d:decide (x<0)=true:=BI l;rw[d]at c p ⊢;have b:=Z (Int.sign_eq_neg_one_of_neg l);clear j m g i d b0;go_enter func98,ntmps98
   go_upto_region 1 with fail
   rw[c.o];go_wp2_with fail
   go_ret;exact⟨by rw[b.o];rfl,f⟩
 . have d:decide (x<0)=false:=BF l;rw[d]at c p ⊢;clear j m g i d b0;rcases AQ la with o|o
   . subst o;have b:=Z (show x.sign=0 by rw[n.o.1 J];rfl);go_enter func98,ntmps98
     go_upto_region 1 with fail
     rw[c.o];go_wp2_with fail
     go_ret;refine⟨?_,f⟩;rw[b.o];first|rfl|(simp;done)
   . have b:=Z (show x.sign=1 from Int.sign_eq_one_of_pos (by
      have:=n.o;rcases C1 x 0 with h|h|h
      . omega
      . have:=this.2 h;omega
      . exact h))
     have r:min (1:Int) (la:Int)=1:=O
     have u:(1:Int)<=(la:Int):=O
     have v:¬((la:Int)<1):=O
     go_enter func98,ntmps98
     go_upto_region 1 with fail
     rw[c.o];go_wp2_with fail
     go_ret;refine⟨?_,f⟩;rw[b.o];first|rfl|(simp[r];done)
end
section
open M3
variable{l:Nat}{a:Zu}
def Oy{x y:Int}(a:y≠0):(0:Int)<(Int.gcd x y:Nat):=by
 have:=Int.gcd_pos_of_ne_zero_right x a;omega
def Jj.mk{W:H}{s t:Bool}{b:Zu}{c k d:Nat}{q:Rat}(e:Jr W (.agg #[C a l c,F s]) q.num)(f:Jr W (.agg #[C b k d,F t]) (q.den:Int)):Jj W (.agg #[C a l c,F s,C b k d,F t]) q:=⟨_,_,_,_,_,_,_,_,J,e,f⟩
def Jr.sign{W:H}{c:Nat}{s:Bool}{z:Int}(h:Jr W (.agg #[C a l c,F s]) z):s=decide (z<0):=by
 obtain⟨b,d,c',e,_⟩:=h;cases e;rfl
def Gk(va vb:M)(x y:Int)(w:H)(ha:Jr w va x)(f:Jr w vb y)(hy:y≠0)(cn:Sok x)(co:Sok y):
 Q L 92 #[va,vb] w λe w'=>∃u,e=.returned u/\Jj w' u (Zx x y)/\Bl w w':=by
 obtain⟨gg,iz,gq,ji,rfl⟩:=Jr.form2 ha;obtain⟨gh,ja,gr,jj,rfl⟩:=Jr.form2 f;obtain⟨W0,bf,M1⟩:=I7 47 (.big x) ha 47 (.big y) f 49 (.zref) J;obtain⟨r,Qa,Qb⟩:=Db hy cn co;clear ha f hy cn co;go_enter func92,ntmps92
 go_upto_region 1 with fail
 rw[bf.o];clear bf;obtain⟨a1,l1,c1,s1,n1,i1⟩:=M1.o.big (i:=0) J;obtain⟨Ui,Uk⟩:=n1.cp;obtain⟨a2,l2,c2,s2,n2,i2⟩:=M1.o.big (i:=1) J;obtain⟨Uj,Ug⟩:=n2.cp;go_upto_region 2 with(go_at_call 125;refine(VC _ _ x y _ i1 i2 (by have:=Qa.o.size;omega) (by have:=Qb.o.size;omega)).mono ?_;rintro e w1 ⟨u,rfl,hu,f⟩;obtain⟨bn,eb,cj,fe,rfl⟩:=Jr.form2 hu)
 obtain⟨V3,b⟩:=ex (w1.alloc (G #[C bn eb cj,F fe] 47));obtain⟨g,c⟩:=ex (w1.heap.size);have a:DL w (w1.alloc (G #[C bn eb cj,F fe] 47)) [some (w.heap.size,.big x),some (w.heap.size+1,.big y),some (w.heap.size+1+1,.zref),some (w1.heap.size,.big (((Int.gcd x y:Nat):Int)))]:=DL.push (M1.o.below f) (.big (((Int.gcd x y:Nat):Int))) hu;rw[b,c]at a;rw[b];rw[c];have p:Hid (DL w V3 [some (w.heap.size,.big x),some (w.heap.size+1,.big y),some (w.heap.size+1+1,.zref),some (g,.big (((Int.gcd x y:Nat):Int)))]):=Z (a);clear M1;clear a b c;clear n1 Ui Uk i1 n2 Uj Ug i2 hu f;have HG:=Z (Sok.gcd Qa.o Qb.o);by_cases s:y<0
 . have HL:=Z s;obtain⟨a4,l4,c4,s4,n4,i4⟩:=p.o.big (i:=1) J;obtain⟨Uo,Uf⟩:=n4.cp;have hs:=Jr.sign i4;rw[BI s]at hs;subst hs;clear s;go_upto_region 3 with fail
   clear n4 Uo Uf i4;obtain⟨a5,l5,c5,s5,n5,i5⟩:=p.o.big (i:=3) J;obtain⟨Uc,Ud⟩:=n5.cp;go_upto_region 4 with(go_at_call 126;refine(M9 _ (((Int.gcd x y:Nat):Int)) _ i5).mono ?_;rintro e w6 ⟨u6,rfl,aq,an⟩;obtain⟨bt,ed,ck,ff,rfl⟩:=Jr.form2 aq;obtain⟨Uc,Ud⟩:=(n5.below an).cp;obtain⟨Um,Un⟩:=(n5.below an).fp)
   obtain⟨V6,b⟩:=ex ((w6.setCell ⟨g,0,none⟩ (C bt ed ck)).setCell ⟨g,1,none⟩ (F ff));have a:DL w ((w6.setCell ⟨g,0,none⟩ (C bt ed ck)).setCell ⟨g,1,none⟩ (F ff)) [some (w.heap.size,.big x),some (w.heap.size+1,.big y),some (w.heap.size+1+1,.zref),some (g,.big (-((Int.gcd x y:Nat):Int)))]:=DL.putBig (p.o.below an) (i:=3) J aq;rw[b]at a;rw[b];have q:Hid (DL w V6 [some (w.heap.size,.big x),some (w.heap.size+1,.big y),some (w.heap.size+1+1,.zref),some (g,.big (-((Int.gcd x y:Nat):Int)))]):=Z (a);clear p;clear a b;clear n5 Uc Ud i5 aq an Um Un;obtain⟨B,t,A⟩:=Db (show(-((Int.gcd x y:Nat):Int))≠0 by have:=Oy (x:=x) r.o;omega) (show(-((Int.gcd x y:Nat):Int))=(if y<0 then -((Int.gcd x y:Nat):Int)else((Int.gcd x y:Nat):Int))by rw[BL HL.o]) HG.o.neg;obtain⟨a7,l7,c7,s7,n7,i7⟩:=q.o.big (i:=0) J;obtain⟨Ue,Up⟩:=n7.cp;obtain⟨a8,l8,c8,s8,n8,i8⟩:=q.o.big (i:=3) J;obtain⟨Uh,Ul⟩:=n8.cp;go_upto_region 5 with(go_at_call 127;refine(KI _ _ x ((-((Int.gcd x y:Nat):Int))) _ i7 i8 B.o (by have:=Qa.o.size;omega) (by have:=A.o.size;omega)).mono ?_;rintro e m ⟨u1,u2,rfl,j,k,f⟩;obtain⟨D,V,R,ae,rfl⟩:=Jr.form2 j;obtain⟨E,W,S,ah,rfl⟩:=Jr.form2 k)
   have a:=DL.push (DL.push (q.o.below f) (.big (x/(-((Int.gcd x y:Nat):Int)))) j) (.big (x%(-((Int.gcd x y:Nat):Int)))) (Has.alloc (d:=.big (x%(-((Int.gcd x y:Nat):Int)))) k _);simp only[A1]at a;have a:DL w ((m.alloc (G #[C D V R,F ae] 47)).alloc (G #[C E W S,F ah] 47)) [some (w.heap.size,.big x),some (w.heap.size+1,.big y),some (w.heap.size+1+1,.zref),some (g,.big (-((Int.gcd x y:Nat):Int))),some (m.heap.size,.big (x/(-((Int.gcd x y:Nat):Int)))),some (m.heap.size+1,.big (x%(-((Int.gcd x y:Nat):Int))))]:=a;obtain⟨fi,b⟩:=ex ((m.alloc (G #[C D V R,F ae] 47)).alloc (G #[C E W S,F ah] 47));obtain⟨B9,c⟩:=ex (m.heap.size);rw[b,c]at a;rw[b];rw[c];obtain⟨B10,l⟩:=ex (B9+1);rw[l]at a ⊢;have o:Hid (DL w fi [some (w.heap.size,.big x),some (w.heap.size+1,.big y),some (w.heap.size+1+1,.zref),some (g,.big (-((Int.gcd x y:Nat):Int))),some (B9,.big (x/(-((Int.gcd x y:Nat):Int)))),some (B10,.big (x%(-((Int.gcd x y:Nat):Int))))]):=Z (a);clear q;clear a b c l;clear n7 Ue Up i7 n8 Uh Ul i8 j k f;obtain⟨fv,ip,gi,jb,ef,cy⟩:=o.o.big (i:=1) J;obtain⟨Qr,Qk⟩:=ef.cp;obtain⟨fw,iq,gj,jc,eh,cz⟩:=o.o.big (i:=3) J;obtain⟨Ub,Qz⟩:=eh.cp;go_upto_region 6 with(go_at_call 127;refine(KI _ _ y ((-((Int.gcd x y:Nat):Int))) _ cy cz B.o (by have:=Qb.o.size;omega) (by have:=A.o.size;omega)).mono ?_;rintro e n ⟨u1,u2,rfl,j,k,f⟩;obtain⟨I,X,T,ai,rfl⟩:=Jr.form2 j;obtain⟨K,ad,U,aj,rfl⟩:=Jr.form2 k)
   have a:=DL.push (DL.push (o.o.below f) (.big (y/(-((Int.gcd x y:Nat):Int)))) j) (.big (y%(-((Int.gcd x y:Nat):Int)))) (Has.alloc (d:=.big (y%(-((Int.gcd x y:Nat):Int)))) k _);simp only[A1]at a;have a:DL w ((n.alloc (G #[C I X T,F ai] 47)).alloc (G #[C K ad U,F aj] 47)) [some (w.heap.size,.big x),some (w.heap.size+1,.big y),some (w.heap.size+1+1,.zref),some (g,.big (-((Int.gcd x y:Nat):Int))),some (B9,.big (x/(-((Int.gcd x y:Nat):Int)))),some (B10,.big (x%(-((Int.gcd x y:Nat):Int)))),some (n.heap.size,.big (y/(-((Int.gcd x y:Nat):Int)))),some (n.heap.size+1,.big (y%(-((Int.gcd x y:Nat):Int))))]:=a;obtain⟨bg,b⟩:=ex ((n.alloc (G #[C I X T,F ai] 47)).alloc (G #[C K ad U,F aj] 47));obtain⟨bc,c⟩:=ex (n.heap.size);rw[b,c]at a;rw[b];rw[c];obtain⟨fg,l⟩:=ex (bc+1);rw[l]at a ⊢;have z:Hid (DL w bg [some (w.heap.size,.big x),some (w.heap.size+1,.big y),some (w.heap.size+1+1,.zref),some (g,.big (-((Int.gcd x y:Nat):Int))),some (B9,.big (x/(-((Int.gcd x y:Nat):Int)))),some (B10,.big (x%(-((Int.gcd x y:Nat):Int)))),some (bc,.big (y/(-((Int.gcd x y:Nat):Int)))),some (fg,.big (y%(-((Int.gcd x y:Nat):Int))))]):=Z (a);clear o;clear a b c l;clear ef Qr Qk cy eh Ub Qz cz j k f;obtain⟨bi,du,bu,f7,fr,fk⟩:=z.o.big (i:=4) J;obtain⟨gt,gu⟩:=fr.cp;obtain⟨bj,dw,bz,f8,fs,fl⟩:=z.o.big (i:=6) J;obtain⟨gw,gy⟩:=fs.cp;have ay:=z.o.zref (i:=2) J;obtain⟨Qw,Qp,Qg,Qj⟩:=ay.cq;obtain⟨ie,ig,ii,ij⟩:=ay.fq;have hr:Jj bg (.agg #[C bi du bu,F f7,C bj dw bz,F f8]) (Zx x y):=Jj.mk (by rw[Iq r.o,<-t.o];exact fk) (by rw[Ir r.o,<-t.o];exact fl);have Qf:=z.o.ge 2 J;have hB:=z.o.2.2;go_wp2_with fail
   exact BA (v:=.agg #[C bi du bu,F f7,C bj dw bz,F f8]) (by simp[results,results92,go_sem,Qw,Qp,Qg,Qj]) J ⟨_,J,hr.put4 ay J J J J _ _ _ _,Jo hB Qf _ _ _ _⟩
 . have HL:=Z s;obtain⟨fx,ir,gk,jd,ei,de⟩:=p.o.big (i:=1) J;obtain⟨Qx,Qu⟩:=ei.cp;have hs:=Jr.sign de;rw[BF s]at hs;subst hs;clear s;go_upto_region 4 with fail
   clear ei Qx Qu de;obtain⟨B,t,A⟩:=Db (show((Int.gcd x y:Nat):Int)≠0 by have:=Oy (x:=x) r.o;omega) (show((Int.gcd x y:Nat):Int)=(if y<0 then -((Int.gcd x y:Nat):Int)else((Int.gcd x y:Nat):Int))by rw[BH (by have:=HL.o;omega)]) HG.o;obtain⟨fy,iu,gl,je,en,dh⟩:=p.o.big (i:=0) J;obtain⟨Qh,Ua⟩:=en.cp;obtain⟨ga,iw,gn,jf,er,di⟩:=p.o.big (i:=3) J;obtain⟨Qt,Qo⟩:=er.cp;go_upto_region 5 with(go_at_call 127;refine(KI _ _ x (((Int.gcd x y:Nat):Int)) _ dh di B.o (by have:=Qa.o.size;omega) (by have:=A.o.size;omega)).mono ?_;rintro e m ⟨u1,u2,rfl,j,k,f⟩;obtain⟨D,V,R,ae,rfl⟩:=Jr.form2 j;obtain⟨E,W,S,ah,rfl⟩:=Jr.form2 k)
   have a:=DL.push (DL.push (p.o.below f) (.big (x/((Int.gcd x y:Nat):Int))) j) (.big (x%((Int.gcd x y:Nat):Int))) (Has.alloc (d:=.big (x%((Int.gcd x y:Nat):Int))) k _);simp only[A1]at a;have a:DL w ((m.alloc (G #[C D V R,F ae] 47)).alloc (G #[C E W S,F ah] 47)) [some (w.heap.size,.big x),some (w.heap.size+1,.big y),some (w.heap.size+1+1,.zref),some (g,.big (((Int.gcd x y:Nat):Int))),some (m.heap.size,.big (x/((Int.gcd x y:Nat):Int))),some (m.heap.size+1,.big (x%((Int.gcd x y:Nat):Int)))]:=a;obtain⟨fj,b⟩:=ex ((m.alloc (G #[C D V R,F ae] 47)).alloc (G #[C E W S,F ah] 47));obtain⟨ak,c⟩:=ex (m.heap.size);rw[b,c]at a;rw[b];rw[c];obtain⟨ap,l⟩:=ex (ak+1);rw[l]at a ⊢;have q:Hid (DL w fj [some (w.heap.size,.big x),some (w.heap.size+1,.big y),some (w.heap.size+1+1,.zref),some (g,.big (((Int.gcd x y:Nat):Int))),some (ak,.big (x/((Int.gcd x y:Nat):Int))),some (ap,.big (x%((Int.gcd x y:Nat):Int)))]):=Z (a);clear p;clear a b c l;clear en Qh Ua dh er Qt Qo di j k f;obtain⟨gb,ix,go,jg,et,dj⟩:=q.o.big (i:=1) J;obtain⟨Qn,Qq⟩:=et.cp;obtain⟨gc,iy,gp,jh,ew,dt⟩:=q.o.big (i:=3) J;obtain⟨Qy,Qs⟩:=ew.cp;go_upto_region 6 with(go_at_call 127;refine(KI _ _ y (((Int.gcd x y:Nat):Int)) _ dj dt B.o (by have:=Qb.o.size;omega) (by have:=A.o.size;omega)).mono ?_;rintro e n ⟨u1,u2,rfl,j,k,f⟩;obtain⟨I,X,T,ai,rfl⟩:=Jr.form2 j;obtain⟨K,ad,U,aj,rfl⟩:=Jr.form2 k)
   have a:=DL.push (DL.push (q.o.below f) (.big (y/((Int.gcd x y:Nat):Int))) j) (.big (y%((Int.gcd x y:Nat):Int))) (Has.alloc (d:=.big (y%((Int.gcd x y:Nat):Int))) k _);simp only[A1]at a;have a:DL w ((n.alloc (G #[C I X T,F ai] 47)).alloc (G #[C K ad U,F aj] 47)) [some (w.heap.size,.big x),some (w.heap.size+1,.big y),some (w.heap.size+1+1,.zref),some (g,.big (((Int.gcd x y:Nat):Int))),some (ak,.big (x/((Int.gcd x y:Nat):Int))),some (ap,.big (x%((Int.gcd x y:Nat):Int))),some (n.heap.size,.big (y/((Int.gcd x y:Nat):Int))),some (n.heap.size+1,.big (y%((Int.gcd x y:Nat):Int)))]:=a;obtain⟨bh,b⟩:=ex ((n.alloc (G #[C I X T,F ai] 47)).alloc (G #[C K ad U,F aj] 47));obtain⟨bd,c⟩:=ex (n.heap.size);rw[b,c]at a;rw[b];rw[c];obtain⟨fh,l⟩:=ex (bd+1);rw[l]at a ⊢;have o:Hid (DL w bh [some (w.heap.size,.big x),some (w.heap.size+1,.big y),some (w.heap.size+1+1,.zref),some (g,.big (((Int.gcd x y:Nat):Int))),some (ak,.big (x/((Int.gcd x y:Nat):Int))),some (ap,.big (x%((Int.gcd x y:Nat):Int))),some (bd,.big (y/((Int.gcd x y:Nat):Int))),some (fh,.big (y%((Int.gcd x y:Nat):Int)))]):=Z (a);clear q;clear a b c l;clear et Qn Qq dj ew Qy Qs dt j k f;obtain⟨bk,dx,ce,fc,ft,fm⟩:=o.o.big (i:=4) J;obtain⟨gz,ia⟩:=ft.cp;obtain⟨bm,dz,cg,fd,fu,fo⟩:=o.o.big (i:=6) J;obtain⟨ib,ic⟩:=fu.cp;have az:=o.o.zref (i:=2) J;obtain⟨Qv,Ql,Qi,Qm⟩:=az.cq;obtain⟨ik,il,im,io⟩:=az.fq;have hr:Jj bh (.agg #[C bk dx ce,F fc,C bm dz cg,F fd]) (Zx x y):=Jj.mk (by rw[Iq r.o,<-t.o];exact fm) (by rw[Ir r.o,<-t.o];exact fo);have Qf:=o.o.ge 2 J;have hB:=o.o.2.2;go_wp2_with fail
   exact BA (v:=.agg #[C bk dx ce,F fc,C bm dz cg,F fd]) (by simp[results,results92,go_sem,Qv,Ql,Qi,Qm]) J ⟨_,J,hr.put4 az J J J J _ _ _ _,Jo hB Qf _ _ _ _⟩
def L6(va vb:M)(p q:Rat)(w:H)(X:Jj w va p)(hb:Jj w vb q)(aj:Sq p)(ak:Sq q):
 Q L 71 #[va,vb] w λe c=>∃u,e=.returned u/\Jj c u (p+q)/\Bl w c:=by
 obtain⟨bj,ck,bt,cz,bm,cg,bz,dh,rfl⟩:=Jj.form X;obtain⟨bk,cn,bu,de,bn,cj,ce,di,rfl⟩:=Jj.form hb;obtain⟨W0,ae,f⟩:=I7 49 (.ref p) X 49 (.ref q) hb 49 (.zref) J;have g:=Z aj;have j:=Z ak;clear X hb aj ak;go_enter func71,ntmps71
 go_upto_region 1 with fail
 rw[ae.o];clear ae;obtain⟨a1,l1,c1,s1,b1,k1,d1,t1,D,r1,i1,j1⟩:=f.o.ref (i:=0) J;obtain⟨n,r,t,y⟩:=D.cq;obtain⟨a2,l2,c2,s2,b2,k2,d2,t2,E,r2,i2,j2⟩:=f.o.ref (i:=1) J;obtain⟨o,m,l,A⟩:=E.cq;have b:=f.o.zref (i:=2) J;obtain⟨x,s,B,z⟩:=b.cq;obtain⟨T,S,R,I⟩:=b.fq;obtain⟨H4,H9,Qw,Qu,Qv⟩:=FX (λ(V:H) (h:Bl W0 V)=>GB _ _ (p.num) ((q.den:Int)) V (i1.below h) (j2.below h) (by have:=g.o.num.size;omega) (by have:=j.o.den.size;omega)) (λ(V:H) (h:Bl W0 V)=>GB _ _ (q.num) ((p.den:Int)) V (i2.below h) (j1.below h) (by have:=j.o.num.size;omega) (by have:=g.o.den.size;omega)) (λ(V:H) (h:Bl W0 V) (v4:M) (g4:Jr V v4 (p.num*(q.den:Int))) (v9:M) (d:Jr V v9 (q.num*(p.den:Int)))=>K5 _ _ (p.num*(q.den:Int)) (q.num*(p.den:Int)) V g4 d (by have:=(g.o.cross j.o).size;omega) (by have:=(j.o.cross g.o).size;omega)) (λ(V:H) (h:Bl W0 V)=>GB _ _ ((p.den:Int)) ((q.den:Int)) V (j1.below h) (j2.below h) (by have:=g.o.den.size;omega) (by have:=j.o.den.size;omega)) λ(V:H) (h:Bl W0 V) (an:M) (k:Jr V an (p.num*(q.den:Int)+q.num*(p.den:Int))) (ap:M) (K:Jr V ap ((p.den:Int)*(q.den:Int)))=>(by have h:=Gk _ _ (p.num*(q.den:Int)+q.num*(p.den:Int)) ((p.den:Int)*(q.den:Int)) V k K (Cd (by have:=p.den_nz;omega) (by have:=q.den_nz;omega)) (g.o.sumN j.o) (g.o.mulD j.o);rw[LC]at h;exact h);have co:w.heap.size≠w.heap.size+1+1:=f.o.ne 0 2 J J DP;have cy:w.heap.size+1≠w.heap.size+1+1:=f.o.ne 1 2 J J DP;have a:Bl W0 W0.drew:=(BB _ W0).drew;go_region_held3 (λc=>c.cell? ⟨w.heap.size,0,none⟩=some (C a1 l1 c1)/\c.cell? ⟨w.heap.size,1,none⟩=some (F s1)/\c.cell? ⟨w.heap.size,2,none⟩=some (C b1 k1 d1)/\c.cell? ⟨w.heap.size,3,none⟩=some (F t1)/\c.cell? ⟨w.heap.size+1,0,none⟩=some (C a2 l2 c2)/\c.cell? ⟨w.heap.size+1,1,none⟩=some (F s2)/\c.cell? ⟨w.heap.size+1,2,none⟩=some (C b2 k2 d2)/\c.cell? ⟨w.heap.size+1,3,none⟩=some (F t2)) (first|(with_reducible exact⟨n,r,t,y,o,m,l,A⟩)|(go_keep;done)|(refine⟨?_,?_,?_,?_,?_,?_,?_,?_⟩<;>((repeat rw[JD O]);first|assumption|(go_keep;done))))
  (first
   |(go_at_call 109;refine(H4.o _ a ).mono ?_;clear H4;rintro e w4 ⟨v4,rfl,g4,bd⟩;have a:=Bt a bd;obtain⟨n,r,t,y⟩:=(D.below a).cq;obtain⟨o,m,l,A⟩:=(E.below a).cq;obtain⟨x,s,B,z⟩:=(b.below a).cq;obtain⟨T,S,R,I⟩:=(b.below a).fq)
   |(go_at_call 109;refine(H9.o _ a ).mono ?_;clear H9;rintro e w9 ⟨v9,rfl,d,ai⟩;have g4:=g4.below ai;have a:=Bt a ai;obtain⟨n,r,t,y⟩:=(D.below a).cq;obtain⟨o,m,l,A⟩:=(E.below a).cq;obtain⟨x,s,B,z⟩:=(b.below a).cq;obtain⟨T,S,R,I⟩:=(b.below a).fq)
   |(go_at_call 108;refine(Qw.o _ a _ g4 _ d).mono ?_;clear Qw;rintro e dt ⟨an,rfl,k,ad⟩;have g4:=g4.below ad;have d:=d.below ad;have a:=Bt a ad;obtain⟨n,r,t,y⟩:=(D.below a).cq;obtain⟨o,m,l,A⟩:=(E.below a).cq;obtain⟨x,s,B,z⟩:=(b.below a).cq;obtain⟨T,S,R,I⟩:=(b.below a).fq)
   |(go_at_call 109;refine(Qu.o _ a ).mono ?_;clear Qu;rintro e du ⟨ap,rfl,K,W⟩;have g4:=g4.below W;have d:=d.below W;have k:=k.below W;have a:=Bt a W;obtain⟨n,r,t,y⟩:=(D.below a).cq;obtain⟨o,m,l,A⟩:=(E.below a).cq;obtain⟨x,s,B,z⟩:=(b.below a).cq;obtain⟨T,S,R,I⟩:=(b.below a).fq)
   |(go_at_call 92;refine(Qv.o _ a _ k _ K).mono ?_;clear Qv;rintro e dw ⟨dj,rfl,ah,U⟩;obtain⟨aq,bg,az,bh,ay,bf,bc,bi,rfl⟩:=Jj.form ah;have g4:=g4.below U;have d:=d.below U;have k:=k.below U;have K:=K.below U;have a:=Bt a U;obtain⟨n,r,t,y⟩:=(D.below a).cq;obtain⟨o,m,l,A⟩:=(E.below a).cq;obtain⟨x,s,B,z⟩:=(b.below a).cq;obtain⟨T,S,R,I⟩:=(b.below a).fq))
 all_goals go_wp2_with fail
 have Qy:=Bt f.o.2.2 a;have Qx:=f.o.ge 2 J;exact BA (v:=.agg #[C aq bg az,F bh,C ay bf bc,F bi]) (by simp[results,results71,go_sem,x,s,B,z]) J ⟨_,J,ah.put4 (b.below a) J J J J _ _ _ _,Jo Qy Qx _ _ _ _⟩
def KJ(va vb:M)(p q:Rat)(w:H)(S:Jj w va p)(T:Jj w vb q)(ai:Sq p)(aj:Sq q):
 Q L 73 #[va,vb] w λe b=>∃u,e=.returned u/\Jj b u (p*q)/\Bl w b:=by
 obtain⟨bg,ce,bk,cn,bi,bu,bn,cy,rfl⟩:=Jj.form S;obtain⟨bh,cg,bm,co,bj,bz,bt,cz,rfl⟩:=Jj.form T;obtain⟨W0,ad,d⟩:=I7 49 (.ref p) S 49 (.ref q) T 49 (.zref) J;have g:=Z ai;have j:=Z aj;clear S T ai aj;go_enter func73,ntmps73
 go_upto_region 1 with fail
 rw[ad.o];clear ad;obtain⟨a1,l1,c1,s1,b1,k1,d1,t1,B,r1,i1,j1⟩:=d.o.ref (i:=0) J;obtain⟨m,o,s,x⟩:=B.cq;obtain⟨a2,l2,c2,s2,b2,k2,d2,t2,D,r2,i2,j2⟩:=d.o.ref (i:=1) J;obtain⟨n,l,k,z⟩:=D.cq;have c:=d.o.zref (i:=2) J;obtain⟨t,r,A,y⟩:=c.cq;obtain⟨R,K,I,E⟩:=c.fq;obtain⟨W,X,Qs⟩:=Db (λ(V:H) (h:Bl W0 V)=>GB _ _ (p.num) (q.num) V (i1.below h) (i2.below h) (by have:=g.o.num.size;omega) (by have:=j.o.num.size;omega)) (λ(V:H) (h:Bl W0 V)=>GB _ _ ((p.den:Int)) ((q.den:Int)) V (j1.below h) (j2.below h) (by have:=g.o.den.size;omega) (by have:=j.o.den.size;omega)) λ(V:H) (h:Bl W0 V) (v4:M) (g4:Jr V v4 (p.num*q.num)) (v9:M) (f:Jr V v9 ((p.den:Int)*(q.den:Int)))=>(by have h:=Gk _ _ (p.num*q.num) ((p.den:Int)*(q.den:Int)) V g4 f (Cd (by have:=p.den_nz;omega) (by have:=q.den_nz;omega)) (g.o.mulN j.o) (g.o.mulD j.o);rw[LB]at h;exact h);have cj:w.heap.size≠w.heap.size+1+1:=d.o.ne 0 2 J J DP;have ck:w.heap.size+1≠w.heap.size+1+1:=d.o.ne 1 2 J J DP;have a:Bl W0 W0.drew:=(BB _ W0).drew;go_region_held3 (λb=>b.cell? ⟨w.heap.size,0,none⟩=some (C a1 l1 c1)/\b.cell? ⟨w.heap.size,1,none⟩=some (F s1)/\b.cell? ⟨w.heap.size,2,none⟩=some (C b1 k1 d1)/\b.cell? ⟨w.heap.size,3,none⟩=some (F t1)/\b.cell? ⟨w.heap.size+1,0,none⟩=some (C a2 l2 c2)/\b.cell? ⟨w.heap.size+1,1,none⟩=some (F s2)/\b.cell? ⟨w.heap.size+1,2,none⟩=some (C b2 k2 d2)/\b.cell? ⟨w.heap.size+1,3,none⟩=some (F t2)) (first|(with_reducible exact⟨m,o,s,x,n,l,k,z⟩)|(go_keep;done)|(refine⟨?_,?_,?_,?_,?_,?_,?_,?_⟩<;>((repeat rw[JD O]);first|assumption|(go_keep;done))))
  (first
   |(go_at_call 109;refine(W.o _ a ).mono ?_;clear W;rintro e w4 ⟨v4,rfl,g4,ay⟩;have a:=Bt a ay;obtain⟨m,o,s,x⟩:=(B.below a).cq;obtain⟨n,l,k,z⟩:=(D.below a).cq;obtain⟨t,r,A,y⟩:=(c.below a).cq;obtain⟨R,K,I,E⟩:=(c.below a).fq)
   |(go_at_call 109;refine(X.o _ a ).mono ?_;clear X;rintro e w9 ⟨v9,rfl,f,ah⟩;have g4:=g4.below ah;have a:=Bt a ah;obtain⟨m,o,s,x⟩:=(B.below a).cq;obtain⟨n,l,k,z⟩:=(D.below a).cq;obtain⟨t,r,A,y⟩:=(c.below a).cq;obtain⟨R,K,I,E⟩:=(c.below a).fq)
   |(go_at_call 92;refine(Qs.o _ a _ g4 _ f).mono ?_;clear Qs;rintro e dh ⟨de,rfl,ae,U⟩;obtain⟨ak,bc,ap,bd,an,az,aq,bf,rfl⟩:=Jj.form ae;have g4:=g4.below U;have f:=f.below U;have a:=Bt a U;obtain⟨m,o,s,x⟩:=(B.below a).cq;obtain⟨n,l,k,z⟩:=(D.below a).cq;obtain⟨t,r,A,y⟩:=(c.below a).cq;obtain⟨R,K,I,E⟩:=(c.below a).fq))
 all_goals go_wp2_with fail
 have Qu:=Bt d.o.2.2 a;have Qt:=d.o.ge 2 J;exact BA (v:=.agg #[C ak bc ap,F bd,C an az aq,F bf]) (by simp[results,results73,go_sem,t,r,A,y]) J ⟨_,J,ae.put4 (c.below a) J J J J _ _ _ _,Jo Qu Qt _ _ _ _⟩
def L7(g:M)(q:Rat)(w:H)(b:Jj w g q):
 Q L 56 #[g] w λe o=>e=.returned (N P q.num.sign)/\Bl w o:=by
 obtain⟨n,c⟩:=ex (q.num.sign);rw[c];have j:=Z c;clear c;obtain⟨r,K,u,T,t,E,v,V,rfl⟩:=Jj.form b;obtain⟨W0,d,f⟩:=Ew 49 (.ref q) b;clear b;go_enter func56,ntmps56
 go_upto_region 1 with fail
 rw[d.o];clear d;obtain⟨p,I,c1,S,s,D,d1,U,m,R,l,B⟩:=f.o.ref (i:=0) J;obtain⟨x,y,z,A⟩:=m.cq;have a:=Z (Ox _ q.num W0 l);rw[j.o]at a;go_wp2_with(go_at_call 98;refine a.o.mono ?_;clear a;rintro e W ⟨rfl,k⟩)
 go_ret;exact⟨J,Bt f.o.2.2 k⟩
def Yn(n:Int)(r:-9223372036854775808<=n)(s:n<=9223372036854775807)(w:H):
 Q L 62 #[N P n] w λe E=>∃u,e=.returned u/\Jj E u (n:Rat)/\Bl w E:=by
 have d:=Z λ(V:H)=>FB n r s V;clear r s;obtain⟨W0,f,c⟩:=Ew 49 (.zref) J;go_enter func62,ntmps62
 go_upto_region 1 with fail
 rw[f.o];clear f;have a:=c.o.zref (i:=0) J;obtain⟨l,g,j,k⟩:=a.cq;obtain⟨K,R,T,S⟩:=a.fq;go_wp2_with(first
  |(go_at_call 93;refine(d.o _).mono ?_;clear d;rintro e w1 ⟨u1,rfl,x,W⟩;obtain⟨m,z,p,B,rfl⟩:=Jr.form2 x)
  |(go_at_call 93;refine(FB 1 O O _).mono ?_;rintro e w2 ⟨u2,rfl,y,t⟩;obtain⟨o,A,q,D,rfl⟩:=Jr.form2 y;have b:=Bt W t;obtain⟨l,g,j,k⟩:=(a.below b).cq;obtain⟨K,R,T,S⟩:=(a.below b).fq))
 have X:Jj w2 (.agg #[C m z p,F B,C o A q,F D]) (n:Rat):=Jj.mk (x.below t) y;have U:=Bt c.o.2.2 b;have I:=c.o.ge 0 J;exact BA (v:=.agg #[C m z p,F B,C o A q,F D]) (by simp[results,results62,go_sem,l,g,j,k]) J ⟨_,J,X.put4 (a.below b) J J J J _ _ _ _,Jo U I _ _ _ _⟩
end
section
variable{qs:K}
def RowK.formsF{W:H}{a:Zu}{l cap:Nat}(h:RowK false W (C a l cap) qs):l=qs.length/\l<=cap/\cap<=9223372036854775807/\l<=1099511627776/\∃(s t:Nat->Bool) (k m:Nat->Zu) (p n o dd:Nat->Nat),∀j,j<l->Jj W (.agg #[C (k j) (p j) (n j),F (s j),C (m j) (o j) (dd j),F (t j)]) (cf qs j)/\
 ∃b,a=some ⟨b,0,none⟩/\b<W.heap.size/\W.cell? ⟨b,j*4,none⟩=some (C (k j) (p j) (n j))/\W.cell? ⟨b,j*4+1,none⟩=some (F (s j))/\W.cell? ⟨b,j*4+2,none⟩=some (C (m j) (o j) (dd j))/\W.cell? ⟨b,j*4+3,none⟩=some (F (t j)):=by
 obtain⟨r,v,w,A,x,y,z,u,D⟩:=h.pick;refine⟨r,v,w,A,λj=>KE (y j),λj=>KE (u j),λj=>GC (x j),λj=>GC (z j),λj=>lenV (x j),λj=>GD (x j),λj=>lenV (z j),λj=>GD (z j),λj E=>?_⟩;obtain⟨i,b,q,B,c0,c1,c2,c3⟩:=D j E;obtain⟨I,T,c',s,K,S,R,t,e,_⟩:=(show Jj W _ _ from i);simp only[DE,Fc,C7,and_true]at e;obtain⟨c,d,f,g⟩:=e;rw[c,d,f,g]at i;rw[c]at c0;rw[d]at c1;rw[f]at c2;rw[g]at c3;dsimp only;rw[c,d,f,g];exact⟨i,b,q,B,c0,c1,c2,c3⟩
def sign_zero(q:Rat):(q.num.sign==0)=decide (q=0):=by
 rw[Ci,beq_iff_eq,Bb,Int.sign_eq_zero_iff_zero,Rat.num_eq_zero]
def Oz{len k:Nat}(hl:len=qs.length)(c:k<=len)(a:∀j,k<=j->cf qs j=0)(b:k=0\/cf qs (k-1)≠0):Jg qs=qs.take k/\(Jg qs).length=k:=by
 have e:=MX (p:=qs) (n:=k) O b a;exact⟨e,by rw[e,Ai];omega⟩
def VH(a:Zu)(len cap:Nat)(qs:List Rat)(w:H)(h:RowK false w (C a len cap) qs):
 Q L 23 #[C a len cap] w λe R=>e=.returned (C a (Jg qs).length cap)/\RowK false R (C a (Jg qs).length cap) (Jg qs)/\Bl w R:=by
 obtain⟨hl,ad,ae,ah,s,t,W,X,ll,cc,kk,dd,A⟩:=h.formsF;obtain⟨o,S,x⟩:=Db hl A h;clear A hl h;go_enter func23,ntmps23
 go_wp2;go_loopw [3] (λv wr=>∃k:Nat,k<=len/\v=N P (k:Int)/\Hid ((∀j,k<=j->cf qs j=0)/\Bl w wr)) λv _=>(intOf v).toNat
 case atStart=>exact⟨len,Aa _,J,Z ⟨λj T=>JV (by have:=o.o;omega),BB _ _⟩⟩
 case round=>
  obtain⟨k,hk,rfl,c⟩:=hrel;cases k with
  |zero=>
   go_wp2;go_ret;obtain⟨r,g⟩:=Oz o.o (k:=0) (AJ _) c.o.1 (Ar J);refine⟨by rw[g];rfl,?_,c.o.2⟩;rw[g,r];exact(x.o.below c.o.2).take O
  |succ k=>
   obtain⟨B,b,rfl,l,D,E,I,K⟩:=S.o k O;have d:=c.o.2;have y:=Z (B.below d);replace D:=(d.cell (p:=⟨b,_,none⟩) l).trans D;replace E:=(d.cell (p:=⟨b,_,none⟩) l).trans E;replace I:=(d.cell (p:=⟨b,_,none⟩) l).trans I;replace K:=(d.cell (p:=⟨b,_,none⟩) l).trans K;have i:=Z (L7 _ _ wr y.o);have m:=sign_zero (cf qs k);clear B d y;by_cases f:cf qs k=0
   . rw[show decide (cf qs k=0)=true from BI f]at m;have q:=Z f;clear f;generalize (cf qs k).num.sign=n at i m;go_wp2_with(go_at_call 56;refine i.o.mono ?_;rintro e V ⟨rfl,u⟩)
     go_roundw
     case rel=>
      refine⟨k,O,DJ,Z ⟨λj T=>?_,Bt c.o.2 u⟩⟩;by_cases U:j=k
      . rw[U];exact q.o
      . exact c.o.1 j O
     case measure=>simp[intOf]
   . rw[show decide (cf qs k=0)=false from BF f]at m;have q:=Z f;clear f;generalize (cf qs k).num.sign=n at i m;go_wp2_with(go_at_call 56;refine i.o.mono ?_;rintro e V ⟨rfl,u⟩)
     go_ret;have z:=Bt c.o.2 u;obtain⟨r,g⟩:=Oz o.o (k:=k+1) O c.o.1 (Ax q.o);refine⟨by rw[g];rfl,?_,z⟩;rw[g,r];exact(x.o.below z).take O
def Gl(v:M)(qs:K)(w:H)(h:RowK false w v qs):
 Q L 23 #[v] w λe b=>∃u,e=.returned u/\RowK false b u (Jg qs)/\Bl w b:=by
 obtain⟨a,l,c,rfl⟩:=h.form;refine(VH a l c qs w h).mono ?_;rintro e b ⟨rfl,d,f⟩;exact⟨_,J,d,f⟩
def L8{W:H}{B:Nat}(q:JA W B 49 (C none 0 0) (F false) (C none 0 0) (F false)){v:M}{p:Rat}(h:Jj W v p)(x y z u:M):Jj (put4 W B x y z u) v p:=h.put4 q J J J J _ _ _ _
def O0(v:M)(qs:List Rat)(i:Int)(w:H)(h:RowK false w v qs):
 Q L 18 #[v,N P i] w λe E=>∃u,e=.returned u/\Jj E u (if i<0 then 0 else cf qs i.toNat)/\Bl w E:=by
 obtain⟨a,l,c,rfl⟩:=h.form;obtain⟨hl,ak,an,ap,s,t,T,W,ll,cc,kk,dd,B⟩:=h.formsF;have K:=Z hl;have o:=Z B;clear hl B h;have n:Bl w (w.alloc (G #[C none 0 0,F false,C none 0 0,F false] 49)):=Ba w _;have b0:=JA.new w 49 (C none 0 0) (F false) (C none 0 0) (F false);have g:=Z λ(V:H)=>Yn 0 O O V;by_cases d:i<0\/(l:Int)<=i
 . have R:=Z (show(if i<0 then(0:Rat)else cf qs i.toNat)=((0:Int):Rat)by
    rcases d with d|d
    . rw[BL d];rfl
    . rw[BH O,JV (by have:=K.o;omega)];rfl)
   rw[R.o];obtain⟨W0,q⟩:=ex (w.alloc (G #[C none 0 0,F false,C none 0 0,F false] 49));rw[q]at n b0;have A:=Z q;clear q o;rcases d with d|d
   . go_enter func18,ntmps18
     go_upto_region 1 with fail
     rw[A.o];go_wp2_with(go_at_call 62;refine(g.o _).mono ?_;clear g;rintro e w1 ⟨u,rfl,k,j⟩;have f:=b0.below j;obtain⟨r,x,y,z⟩:=f.cq;obtain⟨f0,f1,f2,f3⟩:=f.fq;obtain⟨S,ah,X,ai,U,ae,ad,aj,rfl⟩:=Jj.form k)
     exact BA (by simp[results,results18,go_sem,r,x,y,z]) J ⟨_,J,L8 f k _ _ _ _,Jo (Bt n j) (Aa _) _ _ _ _⟩
   . have p:¬i<0:=O
     go_enter func18,ntmps18
     go_upto_region 1 with fail
     rw[A.o];go_wp2_with(go_at_call 62;refine(g.o _).mono ?_;clear g;rintro e w1 ⟨u,rfl,k,j⟩;have f:=b0.below j;obtain⟨r,x,y,z⟩:=f.cq;obtain⟨f0,f1,f2,f3⟩:=f.fq;obtain⟨S,ah,X,ai,U,ae,ad,aj,rfl⟩:=Jj.form k)
     exact BA (by simp[results,results18,go_sem,r,x,y,z]) J ⟨_,J,L8 f k _ _ _ _,Jo (Bt n j) (Aa _) _ _ _ _⟩
 . have p:¬i<0:=O
   rw[BH p];obtain⟨m,rfl⟩:∃m:Nat,i=(m:Int):=⟨i.toNat,O⟩;have hm:m<l:=O
   obtain⟨D,b,rfl,hb,k0,k1,k2,k3⟩:=o.o m hm;have I:=Z D;rw[Ck];clear o D p d g b0 n;generalize s m=s1 at *;generalize t m=t1 at *;generalize T m=a1 at *;generalize W m=b1 at *;generalize ll m=l1 at *;generalize cc m=c1 at *;generalize kk m=k1 at *;generalize dd m=d1 at *;go_enter func18,ntmps18
   go_wp2;exact BA (by simp[results,results18,go_sem]) J ⟨_,J,I.o.below (Ba w _),Ba w _⟩
def YQ(f:Nat->Rat)(k:Nat):K:=(List.range k).map f
def JC(f:Nat->Rat)(k:Nat):(YQ f k).length=k:=by simp[YQ]
def Yv(f:Nat->Rat)(k:Nat):YQ f (k+1)=YQ f k++[f k]:=by simp[YQ,List.range_succ]
def IA(f:Nat->Rat)(k i:Nat):cf (YQ f k) i=if i<k then f i else 0:=MV k f i
theorem L9(va vb:M)(ps qs:List Rat)(w:H)(K:RowK false w va ps)(R:RowK false w vb qs)(ai:Sqs ps)(aj:Sqs qs)(bf:ps.length<1099511627776/\qs.length<1099511627776):
 Q L 30 #[va,vb] w λe w'=>∃u,e=.returned u/\RowK false w' u (XY ps qs)/\Bl w w':=by
 obtain⟨a,la,ca,rfl⟩:=K.form;obtain⟨b,lb,cb,rfl⟩:=R.form;obtain⟨ae,ay,bc,bt,_⟩:=K.formsF;obtain⟨ah,az,bd,bu,_⟩:=R.formsF;obtain⟨n,hn⟩:=ex (max la lb:Nat);obtain⟨r,HA,HB,HP,HQ,Qm,Ql⟩:=Iu (show la<=n/\lb<=n/\n<1099511627776/\(∀k,k<n->k<la\/k<lb)from⟨O,O,O,λk hk=>by omega⟩) K R ai aj ae ah;clear K R ai aj ae ah ay bc az bd hn bf;go_enter func30,ntmps30
 go_wp2;go_loopw [5,6] (λo i wr=>∃k:Nat,k<=n/\i=N P (k:Int)/\(∃oa oc,o=C oa k oc)/\Hid (D4 false w.heap.size wr o (YQ (λi=>cf ps i+cf qs i) k)/\Bl w wr)) λ_ i _=>n-(intOf i).toNat
 case atStart=>exact⟨0,AJ _,J,⟨_,_,J⟩,Z ⟨D4.nil _ _ _,BB _ _⟩⟩
 case round=>
  obtain⟨k,hk,rfl,⟨oa,oc,rfl⟩,d⟩:=hrel;by_cases bg:k<n
  . have x:=Z (O0 _ ps (k:Int) wr (HA.o.below d.o.2));have t:=Z λ(V:H) (h:Bl wr V)=>O0 _ qs (k:Int) V ((HB.o.below d.o.2).below h);rw[BH O,Ck]at x;rw[show(if(k:Int)<0 then(0:Rat)else cf qs ((k:Int)).toNat)=cf qs k from by rw[BH O,Ck]]at t;have I:=Z λ(V:H) (u v:M) (hu:Jj V u (cf ps k)) (hv:Jj V v (cf qs k))=>L6 u v (cf ps k) (cf qs k) V hu hv (HP.o.at k) (HQ.o.at k);have Qj:=r.o.2.2.2 k bg;have HK:=Z (show k+1<=1099511627776 by have:=r.o.2.2.1;omega);by_cases bm:(k:Int)<(la:Int)
    all_goals
     have Qk:(k:Int)<(la:Int)\/(k:Int)<(lb:Int):=O
    . clear Qj Qk;go_wp2_with(first
       |(go_at_call 18;refine x.o.mono ?_;clear x;rintro e w1 ⟨u1,rfl,c,l⟩;have f:=l)
       |(go_at_call 18;refine(t.o _ f).mono ?_;clear t;rintro e w2 ⟨u2,rfl,E,m⟩;have c:=c.below m;have y:=Bt f m;clear f)
       |(go_at_call 71;refine(I.o _ _ _ c E).mono ?_;clear I;rintro e w3 ⟨u3,rfl,q,A⟩;have g:=Bt y A;clear y c E l m A;obtain⟨ak,bi,ap,bj,an,bh,aq,bk,rfl⟩:=Jj.form q;obtain⟨v9,w9,X,D,ad,B⟩:=Y9 false w.heap.size w3 _ _ (d.o.1.below g) q (by rw[JC];exact HK.o) (by have:=d.o.2.size;have:=g.size;omega);have s:=Z D;have T:=Z (B w.heap.size w (Aa _) (Bt d.o.2 g));clear D ad B q)
       |(at_builtin;refine Bk _ J _ _ 30 30 J _ _ J J _ _ X ?_))
      obtain⟨U,W,z,_⟩:=s.o.form;go_roundw
      case rel=>
       refine⟨k+1,O,by go_num,⟨U,W,?_⟩,Z ⟨?_,T.o⟩⟩
       . rw[<-Yv,JC]at z;exact z
       . rw[Yv];exact s.o
      case measure=>simp[intOf];omega
    . have bn:(k:Int)<(lb:Int):=O
      clear Qj Qk;go_wp2_with(first
       |(go_at_call 18;refine x.o.mono ?_;clear x;rintro e w1 ⟨u1,rfl,c,l⟩;have f:=l)
       |(go_at_call 18;refine(t.o _ f).mono ?_;clear t;rintro e w2 ⟨u2,rfl,E,m⟩;have c:=c.below m;have y:=Bt f m;clear f)
       |(go_at_call 71;refine(I.o _ _ _ c E).mono ?_;clear I;rintro e w3 ⟨u3,rfl,q,A⟩;have g:=Bt y A;clear y c E l m A;obtain⟨ak,bi,ap,bj,an,bh,aq,bk,rfl⟩:=Jj.form q;obtain⟨v9,w9,X,D,ad,B⟩:=Y9 false w.heap.size w3 _ _ (d.o.1.below g) q (by rw[JC];exact HK.o) (by have:=d.o.2.size;have:=g.size;omega);have s:=Z D;have T:=Z (B w.heap.size w (Aa _) (Bt d.o.2 g));clear D ad B q)
       |(at_builtin;refine Bk _ J _ _ 30 30 J _ _ J J _ _ X ?_))
      obtain⟨U,W,z,_⟩:=s.o.form;go_roundw
      case rel=>
       refine⟨k+1,O,by go_num,⟨U,W,?_⟩,Z ⟨?_,T.o⟩⟩
       . rw[<-Yv,JC]at z;exact z
       . rw[Yv];exact s.o
      case measure=>simp[intOf];omega
  . have h1:¬(k:Int)<(la:Int):=by have:=r.o.1;omega
    have h2:¬(k:Int)<(lb:Int):=by have:=r.o.2.1;omega
    have S:=Z λ(V:H) (h:Bl wr V)=>Gl _ _ V ((d.o.1.below h).row (by rw[JC];have:=r.o.2.2.1;omega));have HE:=Z (show Jg (YQ (λi=>cf ps i+cf qs i) k)=XY ps qs from Yt λj=>by
     rw[IA,Y5];split
     . rfl
     . have:=r.o;have g1:=Qm.o;have g2:=Ql.o;rw[JV (p:=ps) O,JV (p:=qs) O];grind)
    rw[HE.o]at S;go_wp2_with(go_at_call 23;refine(S.o _ (BB _ _)).mono ?_;clear S;rintro e w1 ⟨u1,rfl,c,l⟩;obtain⟨a8,l8,c8,rfl⟩:=c.form)
    go_ret;exact⟨_,J,c,Bt d.o.2 l⟩
def EP(r:Bool)(W0:H)(V:H)(o:M)(qs:K):Prop:=D4 r W0.heap.size V o qs/\Bl W0 V
def EP.below{r:Bool}{W0 V V':H}{o:M}{qs:K}(h:EP r W0 V o qs)(a:Bl V V'):EP r W0 V' o qs:=⟨h.1.below a,Bt h.2 a⟩
theorem VI(va vq:M)(ps:K)(q:Rat)(w:H)(ha:RowK false w va ps)(hq:Jj w vq q)(aq:Sqs ps)(ay:Sq q)(an:ps.length<1099511627776):
 Q L 72 #[va,vq] w λe w'=>∃u,e=.returned u/\RowK false w' u (Jg (YA q ps))/\Bl w w':=by
 obtain⟨a,la,ca,rfl⟩:=ha.form;obtain⟨a8,l8,c8,s8,b8,k8,d8,t8,rfl⟩:=Jj.form hq;obtain⟨ak,bf,bg,bn,s,t,aa,bb,ll,cc,kk,dd,hc⟩:=ha.formsF;have b0:=JA.new w 49 (C a8 l8 c8) (F s8) (C b8 k8 d8) (F t8);have Qf:Bl w (w.alloc (G #[C a8 l8 c8,F s8,C b8 k8 d8,F t8] 49)):=Ba w _;obtain⟨W0,ai⟩:=ex (w.alloc (G #[C a8 l8 c8,F s8,C b8 k8 d8,F t8] 49));rw[ai]at Qf b0;obtain⟨Qj,HA,HQ,HP,Qi,Qh,Qd,Qo⟩:=F1 ai hc (hq.below Qf) aq ay ak Qf b0;have Ql:=Z an;clear ha hq aq ay ak bf bg hc ai an b0 Qf;go_enter func72,ntmps72
 go_upto_region 1 with fail
 rw[Qj.o];go_wp2;go_loopw [5,6] (λo i wr=>∃k:Nat,k<=la/\i=N P (k:Int)/\(∃R S,o=C R k S)/\Hid (EP false W0 wr o (YQ (λi=>cf ps i*q) k))) λ_ i _=>la-(intOf i).toNat
 case atStart=>exact⟨0,AJ _,J,⟨_,_,J⟩,Z ⟨D4.nil _ _ _,BB _ _⟩⟩
 case round=>
  obtain⟨k,hk,rfl,⟨R,S,rfl⟩,HR⟩:=hrel;by_cases bh:k<la
  . have bt:(k:Int)<(la:Int):=O
    obtain⟨I,b,rfl,X,c0,c1,c2,c3⟩:=HA.o k bh;have Qn:=Z (show ∀V,Bl W0 V->(V.cell? ⟨b,k*4,none⟩=some (C (aa k) (ll k) (cc k))/\V.cell? ⟨b,k*4+1,none⟩=some (F (s k))/\V.cell? ⟨b,k*4+2,none⟩=some (C (bb k) (kk k) (dd k))/\V.cell? ⟨b,k*4+3,none⟩=some (F (t k)))/\Jj V (.agg #[C (aa k) (ll k) (cc k),F (s k),C (bb k) (kk k) (dd k),F (t k)]) (cf ps k)from λV h=>by
     have W:=Bt Qd.o h;exact⟨⟨(W.cell (p:=⟨b,_,none⟩) X).trans c0,(W.cell (p:=⟨b,_,none⟩) X).trans c1,(W.cell (p:=⟨b,_,none⟩) X).trans c2,(W.cell (p:=⟨b,_,none⟩) X).trans c3⟩,I.below W⟩)
    have HK:=Z (show k+1<=1099511627776 by have:=Ql.o;have:=Qh.o;omega);clear I c0 c1 c2 c3 X;go_wp2_with fail
    have Qm:=HR.o.below ((BB _ wr).drew);refine JF Di [[],[],[],[1,2],[3],[],[4,5],[6],[0,7,6],[8,8,0,1,2,3,4,5,6,7,8]] Zv DP
     (λD ae V=>∃(ta tb tc td te tf tg ti T tk:M),ae={ tmps:=#[C (some ⟨b,0,none⟩) la ca,.agg #[C a8 l8 c8,F s8,C b8 k8 d8,F t8],undef,.pointer (some ⟨w.heap.size,0,none⟩),C none 0 0,tk,N P ↑k,N P ↑k,C (some ⟨b,0,none⟩) la ca,N P ↑la,F true,u11,u12,ta,tb,tc,td,te,tf,tg,ti,T,undef,undef],defers:=[] }/\Hid ((D 0=true->ta=C R k S)/\(D 1=true->tb=C (some ⟨b,0,none⟩) la ca)/\(D 2=true->tc=N P (k:Int))/\(D 3=true->td=.pointer (some ⟨b,k*4,none⟩))/\(D 4=true->D 8=false->Jj V te (cf ps k))/\(D 5=true->D 8=false->Jj V tf q)/\(D 6=true->D 8=false->Jj V tg (cf ps k*q))/\(D 7=true->∃a l c,ti=C a l c)/\(D 8=true->∃a l c,T=C a l c)/\((D 9=false->tk=Value.slice R k S)/\(D 9=true->tk=T)))/\Hid ((D 7=false->EP false W0 V (C R k S) (YQ (λi=>cf ps i*q) k))/\(D 7=true->D 8=false->∃(E:H) (x y z u:M),V=E.alloc (G #[x,y,z,u] (Dj false))/\(EP false W0 E (C R k S) (YQ (λi=>cf ps i*q) k))/\Dk false E (.agg #[x,y,z,u]) (cf ps k*q)/\ti=C (some ⟨E.heap.size,0,none⟩) 1 1)/\(D 8=true->EP false W0 V T (YQ (λi=>cf ps i*q) k++[cf ps k*q]))))
     (E8 ⟨_,_,J,Z ⟨DJ,DJ,DJ,DJ,DJ,DJ,DJ,DJ,DJ,⟨λ_=>rfl,DJ⟩⟩,Z ⟨λ_=>Qm,DJ,DJ⟩⟩) ?step1 ?fin1
    case step1=>
     rintro D ae V i ds f I m n ⟨ta,tb,tc,td,te,tf,tg,ti,T,tk,rfl,d,A⟩;have bk:i<10:=(Ag.1 I).1;obtain rfl|rfl|rfl|rfl|rfl|rfl|rfl|rfl|rfl|rfl:=Gu i O
     all_goals
      simp only[Ap,Al,Ay]at I;subst I
     . have r:D 8=false:=DN f n;have Qe:D 9=false:=DN f n;obtain rfl:=Dl d Qe;clear m;refine DV ?_;exact⟨(Hf (EM d) ⟨λ_=>rfl,λh=>by simp[Qe]at h⟩),Z ⟨λh=>A.o.1 (by simpa using h),λh B=>A.o.2.1 (by simpa using h) (by simpa using B),λh=>A.o.2.2 (by simpa using h)⟩⟩
     . have r:D 8=false:=DN f (DN (a:=7) f (DN (a:=6) f (DN (a:=4) f (DN (a:=3) f n))));have v:D 7=false:=DN f (DN (a:=6) f (DN (a:=4) f (DN (a:=3) f n)));have g:=A.o.1 v;clear m;refine DV ?_;exact⟨Z ⟨d.o.1,λ_=>rfl,d.o.2.2.1,d.o.2.2.2.1,d.o.2.2.2.2.1,(Do d),(Dq d),(Ds d),(Dt d),⟨λh=>(Dl d) (by simpa using h),λh=>d.o.2.2.2.2.2.2.2.2.2.2 (by simpa using h)⟩⟩,Z ⟨λ_=>g,λh=>by simp[v]at h,λh=>by simp[r]at h⟩⟩
     . have r:D 8=false:=DN f (DN (a:=7) f (DN (a:=6) f (DN (a:=4) f (DN (a:=3) f n))));have v:D 7=false:=DN f (DN (a:=6) f (DN (a:=4) f (DN (a:=3) f n)));have g:=A.o.1 v;clear m;refine DV ?_;exact⟨Z ⟨d.o.1,d.o.2.1,λ_=>rfl,d.o.2.2.2.1,d.o.2.2.2.2.1,(Do d),(Dq d),(Ds d),(Dt d),⟨λh=>(Dl d) (by simpa using h),λh=>d.o.2.2.2.2.2.2.2.2.2.2 (by simpa using h)⟩⟩,Z ⟨λ_=>g,λh=>by simp[v]at h,λh=>by simp[r]at h⟩⟩
     . have r:D 8=false:=DN f (DN (a:=7) f (DN (a:=6) f (DN (a:=4) f n)));have v:D 7=false:=DN f (DN (a:=6) f (DN (a:=4) f n));have g:=A.o.1 v;obtain rfl:=d.o.2.1 (m 1 DJ);obtain rfl:=d.o.2.2.1 (m 2 DJ);clear m;refine DV ?_;exact⟨Z ⟨d.o.1,λ_=>rfl,λ_=>rfl,λ_=>rfl,d.o.2.2.2.2.1,(Do d),(Dq d),(Ds d),(Dt d),⟨λh=>(Dl d) (by simpa using h),λh=>d.o.2.2.2.2.2.2.2.2.2.2 (by simpa using h)⟩⟩,Z ⟨λ_=>g,λh=>by simp[v]at h,λh=>by simp[r]at h⟩⟩
     . have r:D 8=false:=DN f (DN (a:=7) f (DN (a:=6) f n));have v:D 7=false:=DN f (DN (a:=6) f n);have g:=A.o.1 v;obtain rfl:=d.o.2.2.2.1 (m 3 DJ);obtain⟨⟨e0,e1,e2,e3⟩,hr⟩:=Qn.o V g.2;clear m;refine DV ?_;exact⟨Z ⟨d.o.1,d.o.2.1,d.o.2.2.1,λ_=>rfl,λ_ _=>hr,(Do d),(Dq d),(Ds d),(Dt d),⟨λh=>(Dl d) (by simpa using h),λh=>d.o.2.2.2.2.2.2.2.2.2.2 (by simpa using h)⟩⟩,Z ⟨λ_=>g,λh=>by simp[v]at h,λh=>by simp[r]at h⟩⟩
     . have r:D 8=false:=DN f (DN (a:=7) f (DN (a:=6) f n));have v:D 7=false:=DN f (DN (a:=6) f n);have g:=A.o.1 v;have n0:=Qo.o.below g.2;obtain⟨e0,e1,e2,e3⟩:=n0.cq;clear m;refine DV ?_;exact⟨Z ⟨d.o.1,d.o.2.1,d.o.2.2.1,d.o.2.2.2.1,d.o.2.2.2.2.1,λ_ _=>HQ.o.below g.2,(Dq d),(Ds d),(Dt d),⟨λh=>(Dl d) (by simpa using h),λh=>d.o.2.2.2.2.2.2.2.2.2.2 (by simpa using h)⟩⟩,Z ⟨λ_=>g,λh=>by simp[v]at h,λh=>by simp[r]at h⟩⟩
     . have r:D 8=false:=DN f n;have v:D 7=false:=DN f n;have g:=A.o.1 v;have U:=d.o.2.2.2.2.1 (m 4 DJ) r;have h1:=Do d (m 5 DJ) r;clear m;have HC:=Z (KJ _ _ (cf ps k) q V U h1 (HP.o.at k) Qi.o);clear U h1;refine Jf J J λK hK=>?_;go_simp;go_wp2_with(go_at_call 73;refine HC.o.mono ?_;rintro e w5 ⟨v5,rfl,bj,ad⟩)
       exact E8 ⟨_,_,J,Z ⟨d.o.1,d.o.2.1,d.o.2.2.1,d.o.2.2.2.1,λh B=>(d.o.2.2.2.2.1 h B).below ad,λh B=>((Do d) h B).below ad,λ_ _=>bj,(Ds d),(Dt d),⟨λh=>(Dl d) (by simpa using h),λh=>d.o.2.2.2.2.2.2.2.2.2.2 (by simpa using h)⟩⟩,Z ⟨λ_=>g.below ad,λh=>by simp[v]at h,λh=>by simp[r]at h⟩⟩
     . have r:D 8=false:=DN f n;have g:=A.o.1 n;have U:=Dq d (m 6 DJ) r;obtain⟨a9,l9,c9,s9,b9,k9,d9,t9,rfl⟩:=Jj.form U;clear m;refine DV ?_;exact⟨Z ⟨d.o.1,d.o.2.1,d.o.2.2.1,d.o.2.2.2.1,λh B=>(d.o.2.2.2.2.1 h B).below (Ba V _),λh B=>((Do d) h B).below (Ba V _),λh B=>((Dq d) h B).below (Ba V _),λ_=>⟨_,_,_,J⟩,(Dt d),⟨λh=>(Dl d) (by simpa using h),λh=>d.o.2.2.2.2.2.2.2.2.2.2 (by simpa using h)⟩⟩,Z ⟨λh=>by simp at h,λ_ _=>⟨V,_,_,_,_,J,g,U,J⟩,λh=>by simp[r]at h⟩⟩
     . obtain⟨E,x9,y9,z9,u9,rfl,g,bi,bd⟩:=A.o.2.1 (m 7 DJ) n;obtain rfl:=d.o.1 (m 0 DJ);have Qe:D 9=false:=DN f n;have Qg:=m 7 DJ;obtain⟨v5,w5,aj,ap,bm,ad⟩:=Y9 false W0.heap.size E _ _ g.1 bi (by rw[JC];exact HK.o) g.2.size;dsimp only[EW,Dj]at aj;subst bd;obtain⟨a6,c6,e6,_⟩:=ap.form;subst e6;clear m;refine Jf J J λK hK=>?_;refine Lib.wp_append_run _ _ _ 30 30 J _ _ J J _ _ aj (hK _ _ ?_);exact E8 ⟨_,_,J,Z ⟨λ_=>rfl,d.o.2.1,d.o.2.2.1,d.o.2.2.2.1,λ_ h=>by simp at h,λ_ h=>by simp at h,λ_ h=>by simp at h,(Ds d),λ_=>⟨_,_,_,J⟩,⟨λh=>(Dl d) (by simpa using h),λh=>by simp[Qe]at h⟩⟩,Z ⟨λh=>by simp[Qg]at h,λ_ h=>by simp at h,λ_=>⟨ap,ad _ _ (Aa _) g.2⟩⟩⟩
     . clear m;refine DV ?_;exact⟨(Hf d ⟨λh=>by simp at h,λ_=>rfl⟩),Z ⟨λh=>A.o.1 (by simpa using h),λh B=>A.o.2.1 (by simpa using h) (by simpa using B),λh=>A.o.2.2 (by simpa using h)⟩⟩
    case fin1=>
     rintro D ae V ah ⟨ta,tb,tc,td,te,tf,tg,ti,T,tk,rfl,d,A⟩;have HO:=Z (A.o.2.2 (ah 8 DP));obtain rfl:=d.o.2.2.2.2.2.2.2.2.2.2 (ah 9 DP);clear d A ah;obtain⟨a9,c9,e9,_⟩:=HO.o.1.form;rw[<-Yv,JC]at e9;subst e9;go_wp2_with fail
     go_roundw
     case rel=>exact⟨k+1,O,by go_num,⟨a9,c9,J⟩,Z (by rw[Yv];exact HO.o)⟩
     case measure=>simp[intOf];omega
  . have Qk:k=la:=O
    subst Qk;have HT:=Z (Gl _ _ wr (HR.o.1.row (by rw[JC];omega)));have HE:=Z (show Jg (YQ (λi=>cf ps i*q) k)=Jg (YA q ps)from Yt λj=>by
     rw[IA,YU];split
     . rfl
     . rw[JV (by have:=Qh.o;omega)];grind)
    rw[HE.o]at HT;go_wp2_with(go_at_call 23;refine HT.o.mono ?_;clear HT;rintro e w1 ⟨u1,rfl,az,bc⟩;obtain⟨a7,l7,c7,rfl⟩:=az.form)
    go_ret;exact⟨_,J,az,(Bt Qd.o HR.o.2).trans (bc.mono (AK Qd.o.size HR.o.2.size))⟩
theorem VJ{ps:K}(h:Sqs ps):Sqs (Jg (YA (-1) ps)):=Sqs.of λi=>by
 rw[J0,YU,show cf ps i*-1=-(cf ps i)from by grind];exact(h.at i).neg
def VK(s t:M)(ps qs:List Rat)(w:H)(f:RowK false w s ps)(g:RowK false w t qs)(q:Sqs ps)(i:Sqs qs)(c:ps.length<1099511627776/\qs.length<1099511627776):
 Q L 31 #[s,t] w λe v=>∃u,e=.returned u/\RowK false v u (EF ps qs)/\Bl w v:=by
 obtain⟨a,la,K,rfl⟩:=f.form;obtain⟨b,lb,R,rfl⟩:=g.form;obtain⟨x,m,n,d⟩:=Dn (show XY ps (Jg (YA (-1) qs))=EF ps qs from Yt λj=>by rw[Y5,J0,Y5]) (Yn (-1) O O w) (λ(V:H) (u:M) (h:Bl w V) (l:Jj V u ((-1:Int):Rat))=>VI _ u qs (-1) V (g.below h) l i (Sq.of (k:=1) ⟨(Sm.one 1 O).neg,Sm.one 1 O⟩ O) c.2) λ(V:H) (u:M) (h:Bl w V) (l:RowK false V u (Jg (YA (-1) qs)))=>L9 _ u ps _ V (f.below h) l q (VJ i) ⟨c.1,Cz (J3 _) (by unfold YA;rw[List.length_map];exact c.2)⟩;rw[x.o]at d;clear f g q i c;go_enter func31,ntmps31
 go_wp2_with(first
  |(go_at_call 62;refine m.o.mono ?_;clear m;rintro e T ⟨u1,rfl,B,p⟩)
  |(go_at_call 72;refine(n.o _ _ p B).mono ?_;clear n;rintro e U ⟨u2,rfl,D,z⟩;have o:=Bt p z)
  |(go_at_call 30;refine(d.o _ _ o D).mono ?_;clear d;rintro e W ⟨u3,rfl,r,A⟩;have y:=Bt o A;obtain⟨E,S,I,rfl⟩:=r.form))
 go_ret;exact⟨_,J,r,y⟩
def IB(vq:M)(n:Nat)(q:Rat)(w:H)(x:Jj w vq q)(hn:n<1099511627775):
 Q L 74 #[N P (n:Int),vq] w λe w'=>∃u,e=.returned u/\RowK false w' u (Jg (Da n [q]))/\Bl w w':=by
 obtain⟨l,B,p,D,m,A,r,E,rfl⟩:=Jj.form x;have b0:=JA.new w 49 (C l B p) (F D) (C m A r) (F E);have d:Bl w (w.alloc (G #[C l B p,F D,C m A r,F E] 49)):=Ba w _;obtain⟨W0,t⟩:=ex (w.alloc (G #[C l B p,F D,C m A r,F E] 49));rw[t]at d b0;obtain⟨Qe,HQ,K,Qh⟩:=Dn t (x.below d) d b0;clear x t b0 d;go_enter func74,ntmps74
 go_upto_region 1 with fail
 rw[Qe.o];go_wp2;go_loopw [5,6] (λo i wr=>∃k:Nat,k<=n/\i=N P (k:Int)/\(∃X oc,o=C X k oc)/\Hid (EP false W0 wr o (YQ (λ_=>0) k))) λ_ i _=>n-(intOf i).toNat
 case atStart=>exact⟨0,AJ _,J,⟨_,_,J⟩,Z ⟨D4.nil _ _ _,BB _ _⟩⟩
 case round=>
  obtain⟨k,hk,rfl,⟨X,oc,rfl⟩,a⟩:=hrel;by_cases ak:k<n
  . have an:(k:Int)<(n:Int):=O
    have I:=Z (Yn 0 O O wr);have HK:=Z (show k+1<=1099511627776 by omega);go_wp2_with(first
     |(go_at_call 62;refine I.o.mono ?_;clear I;rintro e w3 ⟨u3,rfl,z,y⟩;obtain⟨ae,aq,ai,ay,ah,ap,aj,az,rfl⟩:=Jj.form z;obtain⟨v9,w9,f,c,v,b⟩:=Y9 false W0.heap.size w3 _ _ (a.o.1.below y) z (by rw[JC];exact HK.o) (by have:=a.o.2.size;have:=y.size;omega);have R:=Z c;have Qg:=Z (b W0.heap.size W0 (Aa _) (Bt a.o.2 y));clear c v b z)
     |(at_builtin;refine Bk _ J _ _ 30 30 J _ _ J J _ _ f ?_))
    obtain⟨a9,c9,T,_⟩:=R.o.form;go_roundw
    case rel=>
     refine⟨k+1,O,by go_num,⟨a9,c9,?_⟩,Z ⟨?_,Qg.o⟩⟩
     . rw[AE,JC]at T;exact T
     . rw[Yv];exact R.o
    case measure=>simp[intOf];omega
  . have Qf:k=n:=O
    subst Qf;have W:=Qh.o.below a.o.2;obtain⟨e0,e1,e2,e3⟩:=W.cq;obtain⟨v9,w9,f,c,v,b⟩:=Y9 false W0.heap.size wr _ _ a.o.1 (HQ.o.below a.o.2) (by rw[JC];omega) a.o.2.size;dsimp only[EW,Dj]at f;have HE:=Z (show Jg (YQ (λ_=>0) k++[q])=Jg (Da k [q])from Yt λj=>by
     rw[Kg,JC,Ft,IA];by_cases s:j=k
     . rw[BL s,BL O,s,AX,Yg]
     . rw[BH s];by_cases U:k<=j
       . rw[BL U,JV si];split<;>rfl
       . rw[BH U];split<;>rfl)
    have S:=b W0.heap.size W0 (Aa _) a.o.2;have g:=Z (Gl _ _ w9 (c.row (by rw[AE,JC];simp;omega)));rw[HE.o]at g;clear c v b W;go_wp2_with(first
     |(at_builtin;refine Bk _ J _ _ 30 30 J _ _ J J _ _ f ?_)
     |(go_at_call 23;refine g.o.mono ?_;clear g;rintro e w1 ⟨u1,rfl,V,ad⟩;obtain⟨a7,l7,c7,rfl⟩:=V.form))
    go_ret;exact⟨_,J,V,(Bt K.o S).trans (ad.mono (AK K.o.size S.size))⟩
def DT(W:H)(R:Nat)(s:ByteArray)(I E A:Int):Prop:=W.heap[R]?=some (G #[.string s,.int P I,.int P E,.int P A] 82 (0,0))
section
variable {W W':World} {R:Nat} {s:ByteArray} {I E A:Int}
def DT.lt(h:DT W R s I E A):R<W.heap.size:=(Ab.1 h).1
def DT.c0(h:DT W R s I E A):W.cell? ⟨R,0,none⟩=some (.string s):=by simp[World.cell?,show W.heap[R]?=_ from h]
def DT.c1(h:DT W R s I E A):W.cell? ⟨R,1,none⟩=some (N P I):=by simp[World.cell?,show W.heap[R]?=_ from h]
def DT.cp(h:DT W R s I E A):type_of% (And.intro h.c0 h.c1):=⟨h.c0,h.c1⟩
def DT.c2(h:DT W R s I E A):W.cell? ⟨R,2,none⟩=some (N P E):=by simp[World.cell?,show W.heap[R]?=_ from h]
def DT.c3(h:DT W R s I E A):W.cell? ⟨R,3,none⟩=some (N P A):=by simp[World.cell?,show W.heap[R]?=_ from h]
def DT.cq(h:DT W R s I E A):type_of% (And.intro h.c0 (And.intro h.c1 (And.intro h.c2 h.c3))):=⟨h.c0,h.c1,h.c2,h.c3⟩
def DT.f(h:DT W R s I E A)(o:Nat):W.frozen? ⟨R,o,none⟩=false:=by simp[World.frozen?,show W.heap[R]?=_ from h]
def DT.below(h:DT W R s I E A)(a:Bl W W'):DT W' R s I E A:=(a.block R h.lt).trans h
def DT.set1(h:DT W R s I E A)(x:Int):DT (W.setCell ⟨R,1,none⟩ (N P x)) R s x E A:=by
 have:=JJ (o:=1) h (N P x);exact this
def DT.set2(h:DT W R s I E A)(x:Int):DT (W.setCell ⟨R,2,none⟩ (N P x)) R s I x A:=by
 have:=JJ (o:=2) h (N P x);exact this
def DT.set3(h:DT W R s I E A)(x:Int):DT (W.setCell ⟨R,3,none⟩ (N P x)) R s I E x:=by
 have:=JJ (o:=3) h (N P x);exact this
def DT.drewN(h:DT W R s I E A)(n:Nat):DT (W.drewN n) R s I E A:=h
end
variable{j:Nat}
def Ju(W:H)(n:Nat)(r:Option Nat):W.grownBy (W.drewN n) r:=⟨J,J,J,Aa _,λ_ _ _=>rfl⟩
def IC(R:Nat)(s:ByteArray)(I E A e p:Int)(w:H)(h:DT w R s I E A):
 Q L 48 #[.pointer (some ⟨R,0,none⟩),N P e,N P p] w λr b=>r=.returned (.tuple #[])/\DT b R s I (if E=0 then e else E) (if E=0 then p else A)/\w.grownBy b (some R):=by
 have c2:=h.c2;have f2:=h.f 2;have f3:=h.f 3;have c3:=h.c3;by_cases a:E=0
 . rw[BL a,BL a];go_enter func48,ntmps48
   go_wp2;go_end0;exact⟨J,(h.set2 e).set3 p,Je (Jy w R 2 _) (Jy _ R 3 _)⟩
 . rw[BH a,BH a];have c:(E==0)=false:=by rw[BG];exact a
   go_enter func48,ntmps48
   go_wp2;go_end0;exact⟨J,h,Ym _ _⟩
theorem KK{c d:UInt8}(h:c≠d):((c.toNat:Int)==(d.toNat:Int))=false:=by
 rw[BG];intro e;exact h (CF.1 O)
theorem Jh(s:ByteArray):(Jc s).length=s.size:=by unfold Jc;simp
def KL{f:UInt8->Bool}{s:ByteArray}{I:Nat}(d:I<=j)(e:j<=s.size)(g:∀k (a:k<s.size),I<=k->k<j->f s[k]=true)(i:∀l:j<s.size,f s[j]=false):YX f (Jc s) I=j:=
 Ib d (by rw[Jh];exact e) (λk a b c=>g k (by rwa[Jh]at a) b c) λa=>i (by rwa[Jh]at a)
def O1{s:ByteArray}{c:UInt8}(a:j<s.size):JU (Jc s) j c=(s[j]==c):=by
 unfold JU;rw[Aq (by rw[Jh];exact a)];rfl
def O2{s:ByteArray}{c:UInt8}(a:s.size<=j):JU (Jc s) j c=false:=by
 unfold JU;rw[AU (by rw[Jh];exact a)];rfl
def EX(W:H)(R:Nat):Nat:=(intOf ((W.cell? ⟨R,1,none⟩).getD undef)).toNat
def FQ{W:H}{R:Nat}{s:ByteArray}{I:Nat}{E A:Int}(h:DT W R s I E A):EX W R=I:=by
 unfold EX;rw[h.c1];simp[intOf]
def XD(R:Nat)(s:ByteArray)(I:Nat)(E A:Int)(c:UInt8)(w:H)(h:DT w R s I E A)(hI:I<=s.size)(hs:s.size<=300):
 Q L 47 #[.pointer (some ⟨R,0,none⟩),N .u8 (c.toNat:Int)] w λr z=>r=.returned (F (decide (E=0)&&JU (Jc s) (DM (Jc s) I) c))/\DT z R s (DM (Jc s) I:Nat) E A/\w.grownBy z (some R):=by
 have B:=Z h;clear h;go_enter func47,ntmps47
 go_wp2;go_loopw [5] (λ_ wr=>∃j:Nat,I<=j/\j<=s.size/\Hid (DT wr R s j E A/\w.grownBy wr (some R)/\∀k (o:k<s.size),I<=k->k<j->s[k]=32)) λ_ wr=>s.size-EX wr R
 case atStart=>exact⟨I,Aa _,hI,Z ⟨B.o,Ym _ _,λk _ v x=>by omega⟩⟩
 case round=>
  obtain⟨j,v,x,a⟩:=hrel;obtain⟨c0,c1⟩:=a.o.1.cp;have c2:=a.o.1.c2;have f1:=a.o.1.f 1;by_cases y:j<s.size
  . have ae:(j:Int)<(s.size:Int):=O
    have ad:(0:Int)<=(j:Int):=O
    by_cases m:s[j]=32
    . have hb:((s[j].toNat:Int)==32)=true:=by rw[m];rfl
      have S:=Z m;clear m;go_wp2_with fail
      go_quiet (fail)
      go_wp2;go_roundw
      case rel=>
       refine⟨j+1,O,O,Z ⟨?_,Je (Je a.o.2.1 (Ju _ _ _)) (Jy _ R 1 _),λk o q t=>?_⟩⟩
       . have:=(a.o.1.drewN nq).set1 ((j:Int)+1);rw[show((j:Int)+1)=((j+1:Nat):Int)from by omega]at this;exact this
       . by_cases e:k=j
         . subst e;exact S.o
         . exact a.o.2.2 k o q O
      case measure=>
       have W:=FQ a.o.1;have X:EX ((wr.drewN nq).setCell ⟨R,1,none⟩ (N P ((j:Int)+1))) R=j+1:=by
        have:=(a.o.1.drewN nq).set1 ((j:Int)+1);rw[show((j:Int)+1)=((j+1:Nat):Int)from by omega]at this ⊢;exact FQ this
       show s.size-EX ((wr.drewN nq).setCell ⟨R,1,none⟩ (N P ((j:Int)+1))) R<s.size-EX wr R;rw[W,X];omega
    . have hb:((s[j].toNat:Int)==32)=false:=KK (d:=32) m;have f:=Z (show DM (Jc s) I=j from KL v x (λk o q t=>by rw[a.o.2.2 k o q t];rfl) λ_=>BG.2 m);have l:=Z (O1 (s:=s) (c:=c) y);clear m;go_wp2_with fail
      go_quiet (fail)
      go_wp2;have i:=Z (show w.grownBy (wr.drewN nq) (some R)from Je a.o.2.1 (Ju _ _ _));have g:=Z (a.o.1.drewN nq);obtain⟨T,U⟩:=g.o.cp;have V:=g.o.c2;by_cases b:E=0
      . have u:(E==0)=true:=by rw[b];rfl
        by_cases n:s[j]=c
        . have D:((s[j].toNat:Int)==(c.toNat:Int))=true:=by rw[n];exact beq_self_eq_true _
          have p:=Z (show(decide (E=0)&&(s[j]==c))=true by rw[b,n];simp);clear n b;go_quiet (fail)
          go_wp2;go_ret;exact⟨by rw[f.o,l.o,p.o];rfl,by rw[f.o];exact g.o.drewN _,Je i.o (Ju _ _ _)⟩
        . have D:((s[j].toNat:Int)==(c.toNat:Int))=false:=KK n;have p:=Z (show(decide (E=0)&&(s[j]==c))=false by rw[BG.2 n,Bool.and_false]);clear n b;go_quiet (fail)
          go_wp2;go_ret;exact⟨by rw[f.o,l.o,p.o];rfl,by rw[f.o];exact g.o.drewN _,Je i.o (Ju _ _ _)⟩
      . have u:(E==0)=false:=by rw[BG];exact b
        have p:=Z (show(decide (E=0)&&(s[j]==c))=false by rw[BF b,Bool.false_and]);clear b;go_quiet (fail)
        go_wp2;go_ret;exact⟨by rw[f.o,l.o,p.o];rfl,by rw[f.o];exact g.o.drewN _,Je i.o (Ju _ _ _)⟩
  . have K:j=s.size:=O
    have hd:decide (j<s.size)=false:=BF O;have f:=Z (show DM (Jc s) I=j from KL v x (λk o q t=>by rw[a.o.2.2 k o q t];rfl) λh=>by omega);have l:=Z (O2 (s:=s) (j:=j) (c:=c) O);clear K y;go_wp2_with fail
    go_quiet (fail)
    go_wp2;have i:=Z (show w.grownBy (wr.drewN nq) (some R)from Je a.o.2.1 (Ju _ _ _));have g:=Z (a.o.1.drewN nq);obtain⟨T,U⟩:=g.o.cp;have V:=g.o.c2;by_cases b:E=0
    . have u:(E==0)=true:=by rw[b];rfl
      clear b;go_quiet (fail)
      go_wp2;go_ret;exact⟨by rw[f.o,l.o,Bool.and_false];rfl,by rw[f.o];exact g.o.drewN _,Je i.o (Ju _ _ _)⟩
    . have u:(E==0)=false:=by rw[BG];exact b
      clear b;go_quiet (fail)
      go_wp2;go_ret;exact⟨by rw[f.o,l.o,Bool.and_false];rfl,by rw[f.o];exact g.o.drewN _,Je i.o (Ju _ _ _)⟩
end
section
variable{l:List UInt8}{d n p:Nat}
def O3(c:UInt8)(w:H):Q L 124 #[N .u8 (c.toNat:Int)] w λr e=>r=.returned (F (DS c))/\e=w:=by
 by_cases b:48<=c.toNat
 . have f:decide ((48:Int)<=(c.toNat:Int))=true:=BI O;by_cases d:c.toNat<=57
   . have a:=Z (show DS c=true by simp[DS,b,d]);go_enter func124,ntmps124
     go_wp2;go_ret;exact⟨by rw[a.o];simp;omega,J⟩
   . have a:=Z (show DS c=false by simp[DS,d]);go_enter func124,ntmps124
     go_wp2;go_ret;exact⟨by rw[a.o];simp;omega,J⟩
 . have a:=Z (show DS c=false by simp[DS,b]);go_enter func124,ntmps124
   go_wp2;go_ret;exact⟨by rw[a.o];rfl,J⟩
def YB(R:Nat)(s:ByteArray)(I:Nat)(E A:Int)(c:UInt8)(w:H)(h:DT w R s I E A)(j:I<=s.size)(hs:s.size<=300)(b:Bool)(l:b=(decide (E=0)&&JU (Jc s) (DM (Jc s) I) c)):
 Q L 45 #[.pointer (some ⟨R,0,none⟩),N .u8 (c.toNat:Int)] w λr m=>r=.returned (F b)/\DT m R s ((DM (Jc s) I+(if b then 1 else 0):Nat):Int) E A/\w.grownBy m (some R):=by
 have d:=Z (XD R s I E A c w h j hs);have k:=Z (show DM (Jc s) I<=300 from AK (Yq (by rw[Jh];exact j)) (by rw[Jh];exact hs));rw[<-l]at d;clear h j hs l;cases b
 . go_enter func45,ntmps45
   go_wp2_with first
    |(go_at_call 47;refine d.o.mono ?_;clear d;rintro e n ⟨rfl,a,f⟩;have i:=Z a;clear a;have g:=Z f;clear f)
   go_ret;exact⟨J,i.o,g.o⟩
 . go_enter func45,ntmps45
   go_wp2_with first
    |(go_at_call 47;refine d.o.mono ?_;clear d;rintro e n ⟨rfl,a,f⟩;have i:=Z a;have c1:=a.c1;have f1:=a.f 1;clear a;have g:=Z f;clear f;have o:=k.o;clear k)
   go_ret;exact⟨J,i.o.set1 _,Je g.o (Jy _ R 1 _)⟩
def O4(h:l.all DS=true):num l<10^l.length:=by
 have:=J7 (IY h);rwa[X4]at this
def Yo(l:List UInt8)(p d n:Nat):Prop:=p+d<=l.length/\((l.drop p).take d).all DS=true/\n=num ((l.drop p).take (min 12 d))
theorem Yo.zero(h:p<=l.length):Yo l p 0 0:=⟨O,DJ,by simp[num,Dh,val]⟩
def O5(l:List UInt8)(p d:Nat)(h:p+d<l.length):(l.drop p).take (d+1)=(l.drop p).take d++[l[p+d]]:=by
 rw[AR (by rw[AY];omega),List.getElem_drop]
def Yo.all{l:List UInt8}{p d n:Nat}(h:Yo l p d n)(hl:p+d<l.length)(a:DS l[p+d]=true):((l.drop p).take (d+1)).all DS=true:=by
 rw[O5 l p d hl,CZ,h.2.1];simp[a]
def Yo.next1(h:Yo l p d n)(hl:p+d<l.length)(a:DS l[p+d]=true)(b:d<12):Yo l p (d+1) (10*n+(l[p+d].toNat-48)):=by
 refine⟨O,h.all hl a,?_⟩;rw[show min 12 (d+1)=d+1 from by omega,O5 l p d hl,IX,h.2.2,show min 12 d=d from by omega];omega
def Yo.next2(h:Yo l p d n)(hl:p+d<l.length)(a:DS l[p+d]=true)(b:12<=d):Yo l p (d+1) n:=by
 refine⟨O,h.all hl a,?_⟩;rw[show min 12 (d+1)=min 12 d from by omega];exact h.2.2
def Yo.lt(h:Yo l p d n):n<10^min 12 d:=by
 have e:((l.drop p).take (min 12 d)).all DS=true:=by
  rw[AH];intro c b;refine AH.1 h.2.1 c ?_;rw[show(l.drop p).take (min 12 d)=((l.drop p).take d).take (min 12 d)from by rw[List.take_take];congr 1;omega]at b;exact C3 b
 have a:=O4 e;rw[Ai,AY,<-h.2.2]at a;have:=h.1;rwa[show min (min 12 d) (l.length-p)=min 12 d from by omega]at a
def Yo.lt12(h:Yo l p d n):n<1000000000000:=
 Ao h.lt (Au (n:=10) O (by omega:min 12 d<=12))
def Yo.lt11(h:Yo l p d n)(a:d<12):n<100000000000:=
 Ao h.lt (Au (n:=10) O (by omega:min 12 d<=11))
def Yo.dg(h:Yo l p d n)(a:∀hl:p+d<l.length,DS l[p+d]=false):Dy l p=p+d:=by
 refine Ib O h.1 (λk e b c=>?_) a;have:=AH.1 h.2.1 (l[k]) ?_
 . exact this
 . rw[List.mem_iff_getElem];refine⟨k-p,by rw[Ai,AY];omega,?_⟩;rw[List.getElem_take,List.getElem_drop];congr 1;omega
def Dp{α:Type}(r:Rd α)(E:Int):Int:=if E=0 then(match r with|.error e _=>(e:Int)|.ok _ _=>0)else E
def D5{α:Type}(r:Rd α)(E A:Int):Int:=if E=0 then(match r with|.error _ p=>(p:Int)|.ok _ _=>A)else A
def MA(R:Nat)(s:ByteArray)(I:Nat)(E A:Int)(p:Nat)(w:H)(h:DT w R s I E A)(hI:I<=s.size)(hs:s.size<=300)(hp:DM (Jc s) I=p):
 Q L 91 #[.pointer (some ⟨R,0,none⟩)] w λr w'=>∃d n:Nat,r=.returned (.tuple #[N P (n:Int),N P (p:Int)])/\Dy (Jc s) p=p+d/\Yo (Jc s) p d n/\DT w' R s ((p+d:Nat):Int) (Dp (JM (Jc s) I) E) (D5 (JM (Jc s) I) E A)/\w.grownBy w' (some R):=by
 have HI:=Z (XD R s I E A 32 w h hI hs);rw[hp]at HI;have Qo:p<=s.size:=by rw[<-hp];exact AK (Yq (by rw[Jh];exact hI)) (by rw[Jh];exact Aa _)
 have U:=Z hp;have B:=Z λ(x y:Int) (I':Int) (V:H) (hh:DT V R s I' E A)=>IC R s I' E A x y V hh;clear h hI hp;go_enter func91,ntmps91
 go_wp2_with first
  |(go_at_call 47;refine HI.o.mono ?_;clear HI;rintro e w1 ⟨rfl,ah,ai⟩;have Qn:=Z ah;have c1:=ah.c1;clear ah;have Qp:=Z ai;clear ai)
 go_loopw [5] (λnv wr=>∃d n:Nat,nv=N P (n:Int)/\p+d<=s.size/\Hid (DT wr R s ((p+d:Nat):Int) E A/\w.grownBy wr (some R)/\Yo (Jc s) p d n)) λ_ wr=>s.size-EX wr R
 case atStart=>exact⟨0,0,J,O,Z ⟨Qn.o,Qp.o,Yo.zero (by rw[Jh];exact Qo)⟩⟩
 case round=>
  clear c1;obtain⟨d,n,rfl,aj,c⟩:=hrel;obtain⟨j,hj⟩:∃j,j=p+d:=⟨_,J⟩;have b:=Z hj;rw[<-hj]at aj c;have ay:(j:Int)-(p:Int)=(d:Int):=O
  clear hj;obtain⟨c0,c1⟩:=c.o.1.cp;have f1:=c.o.1.f 1;by_cases az:j<s.size
  . have bc:(j:Int)<(s.size:Int):=O
    have aq:(0:Int)<=(j:Int):=O
    by_cases q:DS s[j]=true
    . have W:=Z (O3 s[j]);rw[q]at W;have an:=J4 q;have Ql:=Z q;clear q;go_wp2_with fail
      go_quiet ((go_at_call 124;exact Calls.quiet_of_same (W.o _)))
      obtain⟨z,h0⟩:∃k,k=nq:=⟨nq,J⟩;subst h0;have l:=Z (show DT (wr.drewN z) R s (j:Int) E A/\w.grownBy (wr.drewN z) (some R)/\Yo (Jc s) p d n from⟨c.o.1.drewN z,Je c.o.2.1 (Ju _ _ _),c.o.2.2⟩);have Qk:=Z (FQ c.o.1);clear W;by_cases ae:d<12
      . have ad:(d:Int)<12:=O
        have hn:=l.o.2.2.lt11 ae;go_wp2;go_quiet (fail)
        have ak:=Z (show DT ((wr.drewN z).drewN nq) R s (j:Int) E A/\w.grownBy ((wr.drewN z).drewN nq) (some R)/\Yo (Jc s) p d n from⟨l.o.1.drewN nq,Je l.o.2.1 (Ju _ _ _),l.o.2.2⟩);go_wp2;go_roundw
        case rel=>
         refine⟨d+1,10*n+(s[j].toNat-48),?_,?_,Z ⟨?_,?_,?_⟩⟩
         . congr 1;omega
         . have:=b.o;omega
         . have:=(c.o.1.drewN (z+nq)).set1 ((j:Int)+1);rw[show((j:Int)+1)=((p+(d+1):Nat):Int)from by have:=b.o;omega]at this ⊢;exact this
         . exact Je (Je c.o.2.1 (Ju _ _ _)) (Jy _ R 1 _)
         . have:=c.o.2.2.next1 (by rw[Jh];have:=b.o;omega) (by simp only[<-b.o];exact Ql.o) ae;simp only[<-b.o]at this;exact this
        case measure=>
         have X:=FQ ((c.o.1.drewN (z+nq)).set1 ((j+1:Nat):Int));rw[show((j+1:Nat):Int)=(j:Int)+1 from by omega]at X;rw[X,Qk.o];omega
      . have ad:¬(d:Int)<12:=O
        go_wp2;go_roundw
        case rel=>
         refine⟨d+1,n,J,?_,Z ⟨?_,?_,?_⟩⟩
         . have:=b.o;omega
         . have:=(c.o.1.drewN z).set1 ((j:Int)+1);rw[show((j:Int)+1)=((p+(d+1):Nat):Int)from by have:=b.o;omega]at this ⊢;exact this
         . exact Je (Je c.o.2.1 (Ju _ _ _)) (Jy _ R 1 _)
         . exact c.o.2.2.next2 (by rw[Jh];have:=b.o;omega) (by simp only[<-b.o];exact Ql.o) O
        case measure=>
         have X:=FQ ((c.o.1.drewN z).set1 ((j+1:Nat):Int));rw[show((j+1:Nat):Int)=(j:Int)+1 from by omega]at X;rw[X,Qk.o];omega
    . have W:=Z (O3 s[j]);have q:=Bool.eq_false_iff.2 q;rw[q]at W;have i:=Z (show Dy (Jc s) p=j by rw[b.o];exact c.o.2.2.dg λhl=>by simp only[<-b.o];exact q);clear q;go_wp2_with fail
      go_quiet ((go_at_call 124;exact Calls.quiet_of_same (W.o _)))
      obtain⟨K,D,T⟩:=Db (c.o.1.drewN nq) (show w.grownBy (wr.drewN nq) (some R)from Je c.o.2.1 (Ju _ _ _)) c.o.2.2;clear c;by_cases u:d=0
      . have m:j=p:=by have:=b.o;omega
        have g:=Z (show JM (Jc s) I=.error 2 p by unfold JM;rw[U.o,i.o,BL m]);have Qm:=Z u;clear u;go_wp2_with first
         |(go_at_call 48;refine(B.o _ _ _ _ K.o).mono ?_;clear B;rintro e w2 ⟨rfl,f,o⟩;have l:=Z f;have Qi:=f.c1;clear f;have S:=Z (Je D.o o);clear o)
        refine BA (v:=.tuple #[N P (n:Int),N P (p:Int)]) (by simp[results,results91,go_sem]) J ⟨d,n,J,by rw[i.o];exact b.o,T.o,?_,S.o⟩;rw[<-b.o];have:=l.o;rw[g.o];exact this
      . by_cases ae:12<d
        . have m:¬j=p:=by have:=b.o;omega
          have Qj:((j:Int)==(p:Int))=false:=by rw[BG];omega
          have ad:(12:Int)<(d:Int):=O
          have g:=Z (show JM (Jc s) I=.error 3 p by unfold JM;rw[U.o,i.o,BH m,BL (by have:=b.o;omega)]);clear u;go_wp2_with first
           |(go_at_call 48;refine(B.o _ _ _ _ K.o).mono ?_;clear B;rintro e w2 ⟨rfl,f,o⟩;have l:=Z f;have Qi:=f.c1;clear f;have S:=Z (Je D.o o);clear o)
          refine BA (v:=.tuple #[N P (n:Int),N P (p:Int)]) (by simp[results,results91,go_sem]) J ⟨d,n,J,by rw[i.o];exact b.o,T.o,?_,S.o⟩;rw[<-b.o];have:=l.o;rw[g.o];exact this
        . have m:¬j=p:=by have:=b.o;omega
          have Qj:((j:Int)==(p:Int))=false:=by rw[BG];omega
          have ad:¬(12:Int)<(d:Int):=O
          have t:∃a k,JM (Jc s) I=.ok a k:=by unfold JM;rw[U.o,i.o,BH m,BH (by have:=b.o;omega)];exact⟨_,_,J⟩
          obtain⟨a,k,t⟩:=t;have g:=Z (show Dp (JM (Jc s) I) E=E/\D5 (JM (Jc s) I) E A=A by rw[t];unfold Dp D5;constructor<;>(by_cases hE:E=0<;>simp[hE]));clear t;clear u;go_wp2;refine BA (v:=.tuple #[N P (n:Int),N P (p:Int)]) (by simp[results,results91,go_sem]) J ⟨d,n,J,by rw[i.o];exact b.o,T.o,?_,D.o⟩;rw[show((p:Int)+(d:Int))=(j:Int)from by have:=b.o;omega,g.o.1,g.o.2];exact K.o
  . have i:=Z (show Dy (Jc s) p=j by rw[b.o];exact c.o.2.2.dg λhl=>absurd hl (by rw[Jh];have:=b.o;omega));have ap:decide (j<s.size)=false:=BF O;go_wp2_with fail
    go_quiet (fail)
    obtain⟨K,D,T⟩:=Db (c.o.1.drewN nq) (show w.grownBy (wr.drewN nq) (some R)from Je c.o.2.1 (Ju _ _ _)) c.o.2.2;clear c;by_cases u:d=0
    . have m:j=p:=by have:=b.o;omega
      have g:=Z (show JM (Jc s) I=.error 2 p by unfold JM;rw[U.o,i.o,BL m]);have Qm:=Z u;clear u;go_wp2_with first
       |(go_at_call 48;refine(B.o _ _ _ _ K.o).mono ?_;clear B;rintro e w2 ⟨rfl,f,o⟩;have l:=Z f;have Qi:=f.c1;clear f;have S:=Z (Je D.o o);clear o)
      refine BA (v:=.tuple #[N P (n:Int),N P (p:Int)]) (by simp[results,results91,go_sem]) J ⟨d,n,J,by rw[i.o];exact b.o,T.o,?_,S.o⟩;rw[<-b.o];have:=l.o;rw[g.o];exact this
    . by_cases ae:12<d
      . have m:¬j=p:=by have:=b.o;omega
        have Qj:((j:Int)==(p:Int))=false:=by rw[BG];omega
        have ad:(12:Int)<(d:Int):=O
        have g:=Z (show JM (Jc s) I=.error 3 p by unfold JM;rw[U.o,i.o,BH m,BL (by have:=b.o;omega)]);clear u;go_wp2_with first
         |(go_at_call 48;refine(B.o _ _ _ _ K.o).mono ?_;clear B;rintro e w2 ⟨rfl,f,o⟩;have l:=Z f;have Qi:=f.c1;clear f;have S:=Z (Je D.o o);clear o)
        refine BA (v:=.tuple #[N P (n:Int),N P (p:Int)]) (by simp[results,results91,go_sem]) J ⟨d,n,J,by rw[i.o];exact b.o,T.o,?_,S.o⟩;rw[<-b.o];have:=l.o;rw[g.o];exact this
      . have m:¬j=p:=by have:=b.o;omega
        have Qj:((j:Int)==(p:Int))=false:=by rw[BG];omega
        have ad:¬(12:Int)<(d:Int):=O
        have t:∃a k,JM (Jc s) I=.ok a k:=by unfold JM;rw[U.o,i.o,BH m,BH (by have:=b.o;omega)];exact⟨_,_,J⟩
        obtain⟨a,k,t⟩:=t;have g:=Z (show Dp (JM (Jc s) I) E=E/\D5 (JM (Jc s) I) E A=A by rw[t];unfold Dp D5;constructor<;>(by_cases hE:E=0<;>simp[hE]));clear t;clear u;go_wp2;refine BA (v:=.tuple #[N P (n:Int),N P (p:Int)]) (by simp[results,results91,go_sem]) J ⟨d,n,J,by rw[i.o];exact b.o,T.o,?_,D.o⟩;rw[show((p:Int)+(d:Int))=(j:Int)from by have:=b.o;omega,g.o.1,g.o.2];exact K.o
end
section
def Rd.pos{α:Type}(r:Rd α):Prop:=∀e p,r=.error e p->e≠0
variable{l:List UInt8}{j k p:Nat}
theorem EY{α:Type}{r:Rd α}{a:α}(h:r=.ok a k)(E A:Int):Dp r E=E/\D5 r E A=A:=by
 grind[Dp,D5]
def VL{α:Type}{r:Rd α}{e:Nat}(h:r=.error e p)(A:Int):Dp r 0=(e:Int)/\D5 r 0 A=(p:Int):=by
 subst h;exact⟨J,J⟩
def FR{α:Type}(r:Rd α){E:Int}(h:E≠0)(A:Int):Dp r E=E/\D5 r E A=A:=by
 unfold Dp D5;omega
def MB{α:Type}{r:Rd α}(hp:r.pos){E:Int}(h:Dp r E=0):E=0/\∃a k,r=.ok a k:=by
 by_cases b:E=0
 . refine⟨b,?_⟩;cases r with
   |ok a k=>exact⟨a,k,J⟩
   |error e p=>
    exfalso
    rw[b,(VL J 0).1]at h;exact hp e p J O
 . rw[(FR r b 0).1]at h;exact absurd h b
theorem Gm(l:List UInt8)(i:Nat):(JM l i).pos:=by
 intro e p h;grind[JM]
theorem VM(l:List UInt8)(i:Nat):(Yi l i).pos:=by
 intro e p h;unfold Yi at h;split at h
 . rename_i b c a;cases h;exact Gm l i _ _ a
 . split at h
   . split at h
     . rename_i b c a;cases h;exact Gm _ _ _ _ a
     grind
   . cases h
theorem VN(l:List UInt8)(i:Nat):(D7 l i).pos:=by
 intro e p h;unfold D7 at h;split at h
 . split at h
   . rename_i b c a;cases h;exact Gm _ _ _ _ a
   grind
 . cases h
theorem Gn(l:List UInt8)(i:Nat):DM l (DM l i)=DM l i:=QK _ l i
def VO(l:List UInt8)(i:Nat):JM l (DM l i)=JM l i:=by unfold JM;rw[Gn]
def EZ(l:List UInt8)(i:Nat):Rd Rat:=if JU l (DM l i) 120 then .ok 1 (DM l i)else Yi l i
def O6(l:List UInt8)(i:Nat):(EZ l i).pos:=by
 unfold EZ;split
 . intro e p h;cases h
 . exact VM l i
theorem O7(h:El l j=false):Dy l j=j:=by
 rcases AF j l.length with a|a
 . refine Ib (Aa _) O (λk _ b c=>by omega) λd=>?_;grind[El]
 . unfold Dy YX;rw[An a];rfl
theorem VQ(h:El l j=true):JU l j 120=false:=by
 unfold El at h;unfold JU;cases b:l[j]? with
 |none=>rfl
 |some c=>
  rw[b]at h;simp only[Option.map_some,CT]at h;have a:=J4 h;rw[BG];intro e;cases e;simp at a
theorem XR(l:List UInt8)(i:Nat):J5 l i=match EZ l i with
 |.error e p=>.error e p
 |.ok c k=>if JU l (DM l k) 120 then(match D7 l (DM l k+1)with|.error e p=>.error e p|.ok n m=>.ok (c,n) m)else .ok (c,0) (DM l k):=by
 unfold J5 EZ;grind[VQ,Yi,Gn,JM,O7]
def Yo.of_ok{i d n:Nat}(h:Yo l p d n)(hp:DM l i=p)(c:Dy l p=p+d){ds:List UInt8}{b:Nat}(a:JM l i=.ok (ds,b) k):b=p/\k=p+d/\num ds=n:=by
 unfold JM at a;rw[hp,c]at a;split at a
 . cases a
 . split at a
   . cases a
   . rename_i e f;simp only[EStateM.Result.ok.injEq,Prod.mk.injEq]at a;obtain⟨⟨rfl,rfl⟩,rfl⟩:=a;refine⟨J,J,?_⟩;rw[h.2.2,show p+d-p=d from by omega,show min 12 d=d from by omega]
section
variable {W W':World} {R:Nat} {s:ByteArray} {I E A:Int}
variable{v:M}
theorem KM(h:DT W R s I E A){cs:Array M}{t:TypeId}{m:Nat × Nat}{b:Nat}(a:W.heap[b]?=some (G cs t m))(c:t≠82):b≠R:=by
 intro e;subst e;have:=a.symm.trans h;grind
theorem O8(h:DT W R s I E A)(hg:W.grownBy W' (some R)):∀k v ds,Row k W v ds->Row k W' v ds:=by
 intro k v ds c;obtain⟨a,cap,e,_⟩:=id c;subst e;refine c.grown hg λp f hl=>?_;obtain⟨b,i,d,cs,m,g⟩:=c.typ hl;grind[KM]
def Jj.rd{q:Rat}(a:Jj W v q)(h:DT W R s I E A)(hg:W.grownBy W' (some R)):Jj W' v q:=Dk.keep (r:=false) a (O8 h hg)
theorem RowK.rd{qs:K}(l:RowK false W v qs)(h:DT W R s I E A)(hg:W.grownBy W' (some R)):RowK false W' v qs:=by
 obtain⟨a,cap,e,g,i,j,c⟩:=l;refine⟨a,cap,e,g,i,j,?_⟩;rcases c with c|⟨b,f,d⟩
 . exact Ar c
 . refine Ax ⟨b,f,d.keep (hg.block b d.lt ?_) (O8 h hg)⟩;obtain⟨cs,k,_⟩:=d;have:=KM h k (by show(49:TypeId)≠_;decide);grind
end
def Ea(w V:H)(R B:Nat)(s:ByteArray)(I E A:Int)(c:Rat):Prop:=
 DT V R s I E A/\(∃a l e f b k d t,JA V B 49 (C a l e) (F f) (C b k d) (F t)/\Jj V (.agg #[C a l e,F f,C b k d,F t]) c)/\w.grownBy V (some R)/\w.heap.size<=B
section
variable {w V V':World} {R B:Nat} {s:ByteArray} {I E A I' E' A':Int} {c:Rat}
def Ea.below(h:Ea w V R B s I E A c)(e:Bl V V'):Ea w V' R B s I E A c:=by
 obtain⟨g,⟨a,l,f,o,b,k,d,t,i,j⟩,m,n⟩:=h;exact⟨g.below e,⟨a,l,f,o,b,k,d,t,i.below e,j.below e⟩,Je m (JN e _),n⟩
def Ea.rd(h:Ea w V R B s I E A c)(p:DT V' R s I' E' A')(hg:V.grownBy V' (some R)):Ea w V' R B s I' E' A' c:=by
 obtain⟨g,⟨a,l,j,q,b,k,d,t,f,m⟩,n,o⟩:=h;have i:B≠R:=KM g f DP;exact⟨p,⟨a,l,j,q,b,k,d,t,(hg.block B f.lt λe=>i (AW e)).trans f,m.rd g hg⟩,Je n hg,o⟩
def JZ{w V:H}{r:Option Nat}{B:Nat}(h:w.grownBy V r)(s:w.heap.size<=B)(o:Nat)(x:M):w.grownBy (V.setCell ⟨B,o,none⟩ x) r:=by
 have n:=Jy V B o x;obtain⟨a,b,c,d,f⟩:=h;obtain⟨g,j,k,l,m⟩:=n;exact⟨g.trans a,j.trans b,k.trans c,AK d l,λi p q=>(m i O (by intro e;cases e;omega)).trans (f i p q)⟩
def Ea.put(h:Ea w V R B s I E A c){a:Zu}{l j:Nat}{m:Bool}{b:Zu}{k d:Nat}{t:Bool}{c':Rat}(x:Jj V (.agg #[C a l j,F m,C b k d,F t]) c'):
 Ea w (put4 V B (C a l j) (F m) (C b k d) (F t)) R B s I E A c':=by
 obtain⟨o,⟨y,S,z,T,b0,K,d0,U,n,D⟩,v,f⟩:=h;have i:R≠B:=λe=>KM o n DP e.symm;refine⟨?_,⟨a,l,j,m,b,k,d,t,n.put _ _ _ _,Dk.keep (r:=false) x λ_ _ _ g=>Row.put4 g n J J J J _ _ _ _⟩,JZ (JZ (JZ (JZ v f 0 _) f 1 _) f 2 _) f 3 _,f⟩;have p:=(BE V ⟨B,0,none⟩ (C a l j) R i).trans o;have q:=(BE _ ⟨B,1,none⟩ (F m) R i).trans p;have u:=(BE _ ⟨B,2,none⟩ (C b k d) R i).trans q;exact(BE _ ⟨B,3,none⟩ (F t) R i).trans u
end
end
variable{g i:Int}{l:List UInt8}{b d n p:Nat}
def Sok.word(h:n<1000000000000):Sok (n:Int):=Sok.of (k:=1) (by unfold Sm Y;omega) O
def Eb(c:Rat):Prop:=∃x y:Nat,c=Zx (x:Int) (y:Int)/\x<1000000000000/\y≠0/\y<1000000000000
theorem Eb.one:Eb 1:=⟨1,1,DP,O,O,O⟩
def Xr(l:List UInt8)(I:Nat)(E A:Int)(c:Rat)(a:Nat)(d b:Int):Prop:=
 d=Dp (EZ l I) E/\b=D5 (EZ l I) E A/\Eb c/\a<=l.length/\(E=0->∀c0 k,EZ l I=.ok c0 k->c=c0/\a=k)
def VR{I:Nat}{E A:Int}(b:I<=l.length)(h:(decide (E=0)&&JU l (DM l I) 120)=true):Xr l I E A 1 (DM l I) E A:=by
 rw[AN]at h;have e:EZ l I=.ok 1 (DM l I):=by unfold EZ;rw[BL h.2]
 refine⟨(EY e E A).1.symm,(EY e E A).2.symm,Eb.one,Yq b,λ_ c0 k a=>?_⟩;rw[e]at a;cases a;exact⟨J,J⟩
def O9{I:Nat}{E:Int}(h:(decide (E=0)&&JU l (DM l I) 120)=false)(a:E=0):EZ l I=Yi l I:=by
 rw[a]at h;simp at h;unfold EZ;rw[h];simp
def PA(n:Nat):Zx (n:Int) 1=((n:Int):Rat):=by
 rw[<-CJ ((n:Int):Rat)];simp
def VS{I:Nat}{E A:Int}(h:(decide (E=0)&&JU l (DM l I) 120)=false)(hp:DM l I=p)(s:Dy l p=p+d)(o:Yo l p d n)
(g:(decide (Dp (JM l I) E=0)&&JU l (DM l (p+d)) 47)=false):Xr l I E A (Zx (n:Int) 1) (DM l (p+d)) (Dp (JM l I) E) (D5 (JM l I) E A):=by
 have j:Eb (Zx (n:Int) 1):=⟨n,1,J,o.lt12,O,O⟩;have f:DM l (p+d)<=l.length:=Yq o.1;by_cases b:E=0
 . rw[Xr,O9 h b];subst b;cases c:JM l I with
   |error e q=>
    have i:Yi l I=.error e q:=by unfold Yi;rw[c]
    rw[i];exact⟨J,J,j,f,λ_ c0 k m=>by cases m⟩
   |ok a k=>
    obtain⟨ds,t⟩:=a;obtain⟨rfl,rfl,rfl⟩:=o.of_ok hp s c;rw[c,(EY J 0 0).1]at g;simp at g;have i:Yi l I=.ok ((num ds:Int):Rat) (DM l (t+d)):=by unfold Yi;rw[c];simp[g]
    rw[i];refine⟨J,J,j,f,λ_ c0 k m=>?_⟩;cases m;exact⟨PA _,J⟩
 . refine⟨?_,?_,j,f,λr=>absurd r b⟩
   . rw[(FR _ b A).1,(FR _ b A).1]
   . rw[(FR _ b A).2,(FR _ b A).2]
def VT{I:Nat}{E A:Int}{o u:Nat}(h:(decide (E=0)&&JU l (DM l I) 120)=false)(hp:DM l I=p)(S:Dy l p=p+d)(w:Yo l p d n)
(m:(decide (Dp (JM l I) E=0)&&JU l (DM l (p+d)) 47)=true)(U:DM l (DM l (p+d)+1)=b)(T:Dy l b=b+o)(i:Yo l b o u)(f v:Int)(r:f=Dp (JM l (DM l (p+d)+1)) (Dp (JM l I) E))(hA2:v=D5 (JM l (DM l (p+d)+1)) (Dp (JM l I) E) (D5 (JM l I) E A)):
 (u=0->Xr l I E A (Zx (n:Int) 1) (b+o) (if f=0 then 4 else f) (if f=0 then(b:Int)else v))/\(u≠0->Xr l I E A (Zx (n:Int) (u:Int)) (b+o) f v):=by
 rw[AN,Bb]at m;obtain⟨R,a,k,t⟩:=MB (Gm l I) m.1;obtain⟨ds,V⟩:=a;obtain⟨rfl,rfl,rfl⟩:=w.of_ok hp S t;subst R;have z:Eb (Zx (num ds:Int) 1):=⟨num ds,1,J,w.lt12,O,O⟩;rw[m.1]at r hA2;rw[t,(EY J 0 A).2]at hA2;unfold Xr;rw[O9 h J];cases c:JM l (DM l (V+d)+1)with
 |error e q=>
  have s:Yi l I=.error e q:=by unfold Yi;rw[t];simp[m.2,c]
  have W:=Gm _ _ _ _ c;rw[c]at r hA2;have K:f=(e:Int):=r;have D:v=(q:Int):=hA2;have x:¬f=0:=O
  rw[s,BH x,BH x,K,D];refine⟨λ_=>⟨J,J,z,i.1,λ_ c0 k g=>by cases g⟩,λj=>⟨J,J,⟨num ds,u,J,w.lt12,j,i.lt12⟩,i.1,λ_ c0 k g=>by cases g⟩⟩
 |ok a k=>
  obtain⟨y,B⟩:=a;obtain⟨rfl,rfl,rfl⟩:=i.of_ok U T c;rw[c,(EY J 0 A).1]at r;rw[c,(EY J 0 A).2]at hA2;subst r hA2;rw[BL J,BL J];refine⟨λj=>?_,λj=>?_⟩
  . have s:Yi l I=.error 4 B:=by unfold Yi;rw[t];simp[m.2,c,j]
    rw[s];exact⟨J,J,z,i.1,λ_ c0 k g=>by cases g⟩
  . have s:Yi l I=.ok (Zx (num ds) (num y)) (B+o):=by unfold Yi;rw[t];simp[m.2,c,j]
    rw[s];refine⟨J,J,⟨num ds,num y,J,w.lt12,j,i.lt12⟩,i.1,λ_ c0 k g=>?_⟩;cases g;exact⟨J,J⟩
def Xa(l:List UInt8)(I:Nat)(E A:Int)(c:Rat)(n I':Nat)(E' A':Int):Prop:=
 E'=Dp (J5 l I) E/\A'=D5 (J5 l I) E A/\(E=0->∀c0 a k,J5 l I=.ok (c0,a) k->c=c0/\n=a/\I'=k)
theorem Xr.zero{I:Nat}{E A:Int}{c:Rat}(h:Xr l I E A c b g i)(f:g=0):E=0/\i=A/\EZ l I=.ok c b:=by
 have d:=h.1;rw[f]at d;obtain⟨e,c0,k,a⟩:=MB (O6 l I) d.symm;obtain⟨rfl,rfl⟩:=h.2.2.2.2 e c0 k a;exact⟨e,h.2.1.trans (EY a E A).2,a⟩
def Xr.set{I:Nat}{E A:Int}{c:Rat}(h:Xr l I E A c b g i)(q:g≠0)(n I':Nat):Xa l I E A c n I' g i:=by
 by_cases a:E=0
 . subst a;cases j:EZ l I with
   |ok c0 k=>
    have:=h.1;rw[j,(EY J 0 A).1]at this;exact absurd this q
   |error e p=>
    have m:J5 l I=.error e p:=by rw[XR,j]
    have d:=h.1;have f:=h.2.1;rw[j]at d f;exact⟨by rw[m];exact d,by rw[m];exact f,λ_ c0 r k o=>by rw[m]at o;cases o⟩
 . have d:=h.1;have f:=h.2.1;rw[(FR _ a A).1]at d;rw[(FR _ a A).2]at f;exact⟨by rw[(FR _ a A).1];exact d,by rw[(FR _ a A).2];exact f,λh=>absurd h a⟩
theorem Xa.of{I:Nat}{A:Int}{c:Rat}{I':Nat}(h:J5 l I=.ok (c,n) I'):Xa l I 0 A c n I' 0 A:=by
 refine⟨by rw[(EY h 0 A).1],by rw[(EY h 0 A).2],λ_ c0 b k a=>?_⟩;rw[h]at a;cases a;exact⟨J,J,J⟩
def Xa.bad{I:Nat}{A:Int}{e:Nat}(c:Rat)(n I':Nat)(h:J5 l I=.error e p):Xa l I 0 A c n I' e p:=by
 exact⟨by rw[h];rfl,by rw[h];rfl,λ_ c0 b k a=>by rw[h]at a;cases a⟩
def VU{I:Nat}{E A:Int}{c:Rat}(h:Xr l I E A c b g i)(d:(decide (g=0)&&JU l (DM l b) 120)=false):Xa l I E A c 0 (DM l b) g i:=by
 by_cases a:g=0
 . obtain⟨rfl,rfl,e⟩:=h.zero a;subst a;simp at d;refine Xa.of ?_;rw[XR,e];simp[d]
 . exact h.set a _ _
def VV{I:Nat}{E A:Int}{c:Rat}(h:Xr l I E A c b g i)(a:(decide (g=0)&&JU l (DM l b) 120)=true)(e:(decide (g=0)&&JU l (DM l (DM l b+1)) 94)=false):Xa l I E A c 1 (DM l (DM l b+1)) g i:=by
 rw[AN,Bb]at a;obtain⟨d,a⟩:=a;obtain⟨rfl,rfl,f⟩:=h.zero d;subst d;simp at e;refine Xa.of ?_;rw[XR,f];simp[a,D7,e]
def VW{I:Nat}{E A:Int}{c:Rat}(h:Xr l I E A c b g i)(m:(decide (g=0)&&JU l (DM l b) 120)=true)(o:(decide (g=0)&&JU l (DM l (DM l b+1)) 94)=true)(hp:DM l (DM l (DM l b+1)+1)=p)(B:Dy l p=p+d)(D:Yo l p d n)(j r:Int)
(s:j=Dp (JM l (DM l (DM l b+1)+1)) g)(hA5:r=D5 (JM l (DM l (DM l b+1)+1)) g i):(8<n->Xa l I E A c 0 (p+d) (if j=0 then 3 else j) (if j=0 then(p:Int)else r))/\(¬8<n->Xa l I E A c n (p+d) j r):=by
 rw[AN,Bb]at m o;obtain⟨w,m⟩:=m;obtain⟨_,o⟩:=o;obtain⟨rfl,rfl,u⟩:=h.zero w;subst w;cases f:JM l (DM l (DM l b+1)+1)with
 |error e q=>
  rw[f]at s hA5;have R:=Gm _ _ _ _ f;have z:j=(e:Int):=s;have y:r=(q:Int):=hA5;have v:¬j=0:=O
  have x:J5 l I=.error e q:=by rw[XR,u];simp[m,D7,o,f]
  rw[BH v,BH v,z,y];exact⟨λ_=>Xa.bad _ _ _ x,λ_=>Xa.bad _ _ _ x⟩
 |ok a k=>
  obtain⟨K,S⟩:=a;obtain⟨rfl,rfl,rfl⟩:=D.of_ok hp B f;rw[f,(EY J 0 0).1]at s;rw[f,(EY J 0 _).2]at hA5;subst s hA5;rw[BL J,BL J];refine⟨λt=>Xa.bad _ _ _ ?_,λt=>Xa.of ?_⟩
  . rw[XR,u];simp[m,D7,o,f,t]
  . rw[XR,u];simp[m,D7,o,f,t]
def Ea.new{w e:H}{R:Nat}{s:ByteArray}{I E A:Int}{c:Rat}(h:DT w R s I E A)(j:Bl w e){a:Zu}{l f:Nat}{g:Bool}{b:Zu}{k d:Nat}{t:Bool}(m:Jj e (.agg #[C a l f,F g,C b k d,F t]) c):
 Ea w (e.alloc (G #[C a l f,F g,C b k d,F t] 49)) R e.heap.size s I E A c:=by
 have i:Bl e (e.alloc (G #[C a l f,F g,C b k d,F t] 49)):=Ba e _;exact⟨(h.below j).below i,⟨a,l,f,g,b,k,d,t,JA.new _ _ _ _ _ _,m.below i⟩,Je (JN j _) (JN i _),j.size⟩
def VX(R:Nat)(s:ByteArray)(I:Nat)(E A:Int)(w:H)(h:DT w R s I E A)(hI:I<=s.size)(hs:s.size<=300):
 Q L 46 #[.pointer (some ⟨R,0,none⟩)] w λr w'=>∃(u:M) (c:Rat) (n I':Nat),r=.returned u/\RowK false w' u (Jg (Da n [c]))/\n<=8/\Eb c/\I'<=s.size/\DT w' R s (I':Int) (Dp (J5 (Jc s) I) E) (D5 (J5 (Jc s) I) E A)/\(E=0->∀c0 n0 k,J5 (Jc s) I=.ok (c0,n0) k->c=c0/\n=n0/\I'=k)/\w.grownBy w' (some R):=by
 have Uk:I<=(Jc s).length:=by rw[Jh];exact hI
 obtain⟨b1,bz⟩:=ex ((decide (E=0)&&JU (Jc s) (DM (Jc s) I) 120));have Ud:=Z bz;obtain⟨j,bd⟩:=ex (DM (Jc s) I);have Qu:=Z bd;have Uh:j<=s.size:=by rw[<-bd,<-Jh];exact Yq Uk
 have HW:=Z (Yn 1 O O w);have Uq:=Z λ(V:H) (f:DT V R s I E A)=>XD R s I E A 120 V f hI hs;rw[bz,bd]at Uq;have HH:=Z h;have Wg:=Z Uk;clear h bz bd Uk hI;go_enter func46,ntmps46
 go_upto_region 2 with(first
  |(go_at_call 62;refine HW.o.mono ?_;clear HW;rintro e w1 ⟨u1,rfl,cy,dz⟩;obtain⟨ew,ff,f8,fg,f7,fe,fc,fh,rfl⟩:=Jj.form cy))
 have hT:=Ea.new HH.o dz cy;obtain⟨W0,bu⟩:=ex (w1.alloc (G #[C ew ff f8,F fg,C f7 fe fc,F fh] 49));rw[bu]at hT;rw[bu];obtain⟨B,hB⟩:=ex (w1.heap.size);rw[hB]at hT;rw[hB];have HT:=Z (show Ea w W0 R B s I E A 1 from hT);clear hT cy dz bu hB;go_upto_if 15 with(first
  |(go_at_call 47;refine(Uq.o _ HT.o.1).mono ?_;clear Uq;rintro e w2 ⟨rfl,eb,dw⟩;have Qy:=Z (HT.o.rd eb dw);clear eb dw HT))
 go_cut [4] λv w'=>v=F b1/\∃(c:Rat) (T:Nat) (d g:Int),Hid (Ea w w' R B s (T:Int) d g c/\Xr (Jc s) I E A c T d g)
 case first=>
  cases b1 with
  |true=>
   go_wp2_with fail
   go_meet
   case rel=>exact⟨J,1,j,E,A,Z ⟨Qy.o,by rw[<-Qu.o];exact VR Wg.o Ud.o⟩⟩
  |false=>
   obtain⟨d,bm⟩:=ex (Dp (JM (Jc s) I) E);obtain⟨g,hA1⟩:=ex (D5 (JM (Jc s) I) E A);have HN:=Z λ(V:H) (f:DT V R s j E A)=>MA R s j E A j V f Uh hs (by rw[<-Qu.o];exact Gn _ _);have Uw:JM (Jc s) j=JM (Jc s) I:=by rw[<-Qu.o];exact VO _ _
   rw[Uw,bm,hA1]at HN;have Ua:=Z bm;have Ut:=Z hA1;clear bm hA1 Uw;go_upto_if 22 with(first
    |(go_at_call 91;refine(HN.o _ Qy.o.1).mono ?_;clear HN;rintro e w3 ⟨d1,n1,rfl,dj,bi,aq,aj⟩;have X:=Z (Qy.o.rd aq aj);clear aq aj Qy;have Ux:=Z dj;have Uv:=Z bi;have Uf:=bi.lt12;have dx:j+d1<=s.size:=(by rw[<-Jh];exact bi.1);clear dj bi;obtain⟨b2,ce⟩:∃b,b=(decide (d=0)&&JU (Jc s) (DM (Jc s) (j+d1)) 47):=⟨_,J⟩;have Ul:=Z ce;have Uo:=Z λ(V:H) (f:DT V R s ((j+d1:Nat):Int) d g)=>YB R s (j+d1) d g 47 V f dx hs b2 ce;clear ce;obtain⟨I2,bf⟩:=ex (DM (Jc s) (j+d1));rw[bf]at Uo;have Qp:=Z bf;have fj:I2<=s.size:=(by rw[<-bf,<-Jh];exact Yq (by rw[Jh];exact dx));clear bf)
    |(go_at_call 45;refine(Uo.o _ X.o.1).mono ?_;clear Uo;rintro e w4 ⟨rfl,ay,ak⟩;have S:=Z (X.o.rd ay ak);clear ay ak X))
   have Qn:=Z λ(V:H)=>FB (n1:Int) O O V;have Ui:=Z (Sok.word Uf);cases b2 with
   |false=>
    obtain⟨W,Qz,HY⟩:=Db (λ(V:H)=>FB 1 O O V) Sok.one (show(1:Int)≠0 by omega);go_wp2_with(first
     |(go_at_call 93;refine(Qn.o _).mono ?_;clear Qn;rintro e w6 ⟨en,rfl,ah,ad⟩;have Qw:=Z (S.o.below ad);clear ad;have Qo:=Z ah;clear ah)
     |(go_at_call 93;refine(W.o _).mono ?_;clear W;rintro e w7 ⟨er,rfl,ai,p⟩;have Qv:=Z (Qw.o.below p);have Qb:=Z (Qo.o.below p);clear p;have Qs:=Z ai;clear ai)
     |(go_at_call 92;refine(Gk _ _ _ _ _ Qb.o Qs.o HY.o Ui.o Qz.o).mono ?_;rintro e w8 ⟨et,rfl,t,ae⟩;have U:=Qv.o.below ae;clear ae;obtain⟨cz,ef,dh,eh,de,ed,di,ei,rfl⟩:=Jj.form t;have Qt:=Z (U.put t);obtain⟨_,⟨x0,x1,x2,x3,x4,x5,x6,x7,a,_⟩,_,_⟩:=U;obtain⟨e0,e1,e2,e3⟩:=a.cq;obtain⟨g0,g1,g2,g3⟩:=a.fq;clear a t))
    go_meet
    case rel=>exact⟨J,_,_,_,_,Z ⟨Qt.o,by have:=VS (A:=A) Ud.o Qu.o Ux.o Uv.o (by rw[Ua.o];exact Ul.o.symm);rw[Qp.o,Ua.o,Ut.o]at this;exact this⟩⟩
   |true=>
    have Um:I2+1<=s.size:=by
     have h5:=Ul.o.symm;rw[AN]at h5;have h6:=Yc h5.2;rw[Qp.o,Jh]at h6;omega
    obtain⟨p2,cn⟩:=ex (DM (Jc s) (I2+1));have Qr:=Z λ(V:H) (f:DT V R s ((I2+1:Nat):Int) d g)=>MA R s (I2+1) d g p2 V f Um hs cn;have Wd:=Z cn;clear cn;obtain⟨E2,bn⟩:=ex (Dp (JM (Jc s) (I2+1)) d);obtain⟨A2,hA2⟩:=ex (D5 (JM (Jc s) (I2+1)) d g);rw[bn,hA2]at Qr;have Wa:=Z bn;have We:=Z hA2;clear bn hA2;go_upto_if 29 with(first
     |(go_at_call 91;refine(Qr.o _ S.o.1).mono ?_;clear Qr;rintro e w5 ⟨d2,n2,rfl,dt,ck,az,an⟩;have K:=Z (S.o.rd az an);clear az an S;have Uy:=Z dt;have Qr:=Z ck;have Ue:=ck.lt12;clear dt ck))
    have Qq:=Z (VT (A:=A) Ud.o Qu.o Ux.o Uv.o (by rw[Ua.o];exact Ul.o.symm) (by rw[Qp.o];exact Wd.o) Uy.o Qr.o E2 A2 (by rw[Qp.o,Ua.o];exact Wa.o.symm) (by rw[Qp.o,Ua.o,Ut.o];exact We.o.symm));by_cases bj:n2=0
    . have Wh:((n2:Int)==0)=true:=by rw[bj];rfl
      have Up:=Z bj;clear bj;obtain⟨HF,W,Qz,HY⟩:=Dn (λ(V:H) (f:DT V R s ((p2+d2:Nat):Int) E2 A2)=>IC R s ((p2+d2:Nat):Int) E2 A2 4 (p2:Int) V f) (λ(V:H)=>FB 1 O O V) Sok.one (show(1:Int)≠0 by omega);go_wp2_with(first
       |(go_at_call 48;refine(HF.o _ K.o.1).mono ?_;clear HF;rintro e fi ⟨rfl,bc,ap⟩;have Qi:=Z (K.o.rd bc ap);clear bc ap K)
       |(go_at_call 93;refine(Qn.o _).mono ?_;clear Qn;rintro e w6 ⟨en,rfl,ah,ad⟩;have Qw:=Z (Qi.o.below ad);clear ad;have Qo:=Z ah;clear ah)
       |(go_at_call 93;refine(W.o _).mono ?_;clear W;rintro e w7 ⟨er,rfl,ai,p⟩;have Qv:=Z (Qw.o.below p);have Qb:=Z (Qo.o.below p);clear p;have Qs:=Z ai;clear ai)
       |(go_at_call 92;refine(Gk _ _ _ _ _ Qb.o Qs.o HY.o Ui.o Qz.o).mono ?_;rintro e w8 ⟨et,rfl,t,ae⟩;have U:=Qv.o.below ae;clear ae;obtain⟨cz,ef,dh,eh,de,ed,di,ei,rfl⟩:=Jj.form t;have Qt:=Z (U.put t);obtain⟨_,⟨x0,x1,x2,x3,x4,x5,x6,x7,a,_⟩,_,_⟩:=U;obtain⟨e0,e1,e2,e3⟩:=a.cq;obtain⟨g0,g1,g2,g3⟩:=a.fq;clear a t))
      go_meet
      case rel=>exact⟨J,_,_,_,_,Z ⟨Qt.o,Qq.o.1 Up.o⟩⟩
    . have Wh:((n2:Int)==0)=false:=by rw[BG];omega
      obtain⟨W,Qz,HY⟩:=Db (λ(V:H)=>FB (n2:Int) O O V) (Sok.word Ue) (show(n2:Int)≠0 by omega);go_wp2_with(first
       |(go_at_call 93;refine(Qn.o _).mono ?_;clear Qn;rintro e w6 ⟨en,rfl,ah,ad⟩;have Qw:=Z (K.o.below ad);clear ad;have Qo:=Z ah;clear ah)
       |(go_at_call 93;refine(W.o _).mono ?_;clear W;rintro e w7 ⟨er,rfl,ai,p⟩;have Qv:=Z (Qw.o.below p);have Qb:=Z (Qo.o.below p);clear p;have Qs:=Z ai;clear ai)
       |(go_at_call 92;refine(Gk _ _ _ _ _ Qb.o Qs.o HY.o Ui.o Qz.o).mono ?_;rintro e w8 ⟨et,rfl,t,ae⟩;have U:=Qv.o.below ae;clear ae;obtain⟨cz,ef,dh,eh,de,ed,di,ei,rfl⟩:=Jj.form t;have Qt:=Z (U.put t);obtain⟨_,⟨x0,x1,x2,x3,x4,x5,x6,x7,a,_⟩,_,_⟩:=U;obtain⟨e0,e1,e2,e3⟩:=a.cq;obtain⟨g0,g1,g2,g3⟩:=a.fq;clear a t))
      go_meet
      case rel=>exact⟨J,_,_,_,_,Z ⟨Qt.o,Qq.o.2 bj⟩⟩
 case rest=>
  obtain⟨rfl,c,T,d,g,z⟩:=hcut;have Us:T<=s.size:=by have:=z.o.2.2.2.2.1;rwa[Jh]at this
  obtain⟨b3,cg⟩:∃b,b=(decide (d=0)&&JU (Jc s) (DM (Jc s) T) 120):=⟨_,J⟩;have Uc:=Z cg.symm;obtain⟨I3,bg⟩:=ex (DM (Jc s) T);have HX:=Z λ(V:H) (f:DT V R s (T:Int) d g)=>YB R s T d g 120 V f Us hs b3 cg;rw[bg]at HX;have Ug:I3<=s.size:=by rw[<-bg,<-Jh];exact Yq (by rw[Jh];exact Us)
  have D:=Z bg;clear bg cg Qy Ud;go_upto_if 40 with(first
   |(go_at_call 45;refine(HX.o _ z.o.1.1).mono ?_;clear HX;rintro e w3 ⟨rfl,aq,aj⟩;have X:=Z (z.o.1.rd aq aj);clear aq aj))
  cases b3 with
  |false=>
   obtain⟨_,⟨y0,y1,y2,y3,y4,y5,y6,y7,a,y⟩,_,_⟩:=X.o;obtain⟨e0,e1,e2,e3⟩:=a.cq;have l:=Z (IB _ 0 c _ y O);clear a y;go_wp2_with(first
    |(go_at_call 74;refine l.o.mono ?_;clear l;rintro e w9 ⟨u9,rfl,x,q⟩;have m:=Z (X.o.below q);clear q;have o:=Z x;clear x;obtain⟨a7,l7,c7,rfl⟩:=o.o.form))
   go_ret;have i:=VU z.o.2 Uc.o;refine⟨_,c,0,_,J,o.o,O,z.o.2.2.2.1,by rw[D.o];exact Ug,?_,i.2.2,m.o.2.2.1⟩;rw[<-i.1,<-i.2.1];rw[D.o];exact m.o.1
  |true=>
   have Ub:I3+1<=s.size:=by
    have h5:=Uc.o;rw[AN]at h5;have h6:=Yc h5.2;rw[D.o,Jh]at h6;omega
   obtain⟨b4,cj⟩:∃b,b=(decide (d=0)&&JU (Jc s) (DM (Jc s) (I3+1)) 94):=⟨_,J⟩;have Un:=Z cj.symm;obtain⟨I4,bh⟩:=ex (DM (Jc s) (I3+1));have HX:=Z λ(V:H) (f:DT V R s ((I3+1:Nat):Int) d g)=>YB R s (I3+1) d g 94 V f Ub hs b4 cj;rw[bh]at HX;have Uj:I4<=s.size:=by rw[<-bh,<-Jh];exact Yq (by rw[Jh];exact Ub)
   have Qm:=Z bh;clear bh cj;go_upto_if 45 with(first
    |(go_at_call 45;refine(HX.o _ X.o.1).mono ?_;clear HX;rintro e w4 ⟨rfl,ay,ak⟩;have S:=Z (X.o.rd ay ak);clear ay ak))
   cases b4 with
   |false=>
    obtain⟨_,⟨y0,y1,y2,y3,y4,y5,y6,y7,a,y⟩,_,_⟩:=S.o;obtain⟨e0,e1,e2,e3⟩:=a.cq;have l:=Z (IB _ 1 c _ y O);clear a y;go_wp2_with(first
     |(go_at_call 74;refine l.o.mono ?_;clear l;rintro e w9 ⟨u9,rfl,x,q⟩;have m:=Z (S.o.below q);clear q;have o:=Z x;clear x;obtain⟨a7,l7,c7,rfl⟩:=o.o.form))
    go_ret;have i:=VV z.o.2 Uc.o (by rw[D.o];exact Un.o);refine⟨_,c,1,_,J,o.o,O,z.o.2.2.2.1,by rw[D.o,Qm.o];exact Uj,?_,i.2.2,m.o.2.2.1⟩;rw[<-i.1,<-i.2.1];rw[D.o,Qm.o];exact m.o.1
   |true=>
    have Ur:I4+1<=s.size:=by
     have h5:=Un.o;rw[AN]at h5;have h6:=Yc h5.2;rw[Qm.o,Jh]at h6;omega
    obtain⟨p5,co⟩:=ex (DM (Jc s) (I4+1));have Qx:=Z λ(V:H) (f:DT V R s ((I4+1:Nat):Int) d g)=>MA R s (I4+1) d g p5 V f Ur hs co;have Wi:=Z co;clear co;obtain⟨E5,bt⟩:=ex (Dp (JM (Jc s) (I4+1)) d);obtain⟨A5,hA5⟩:=ex (D5 (JM (Jc s) (I4+1)) d g);rw[bt,hA5]at Qx;have Wb:=Z bt;have Wc:=Z hA5;clear bt hA5;go_upto_if 54 with(first
     |(go_at_call 91;refine(Qx.o _ S.o.1).mono ?_;clear Qx;rintro e w5 ⟨d5,n5,rfl,du,bk,az,an⟩;have K:=Z (S.o.rd az an);clear az an S;have Uz:=Z du;have Qx:=Z bk;have fk:=bk.lt12;have Uu:p5+d5<=s.size:=(by rw[<-Jh];exact bk.1);clear du bk))
    have Qq:=Z (VW z.o.2 Uc.o (by rw[D.o];exact Un.o) (by rw[D.o,Qm.o];exact Wi.o) Uz.o Qx.o E5 A5 (by rw[D.o,Qm.o];exact Wb.o.symm) (by rw[D.o,Qm.o];exact Wc.o.symm));by_cases h8:8<n5
    . have fd:(8:Int)<(n5:Int):=O
      have HF:=Z λ(V:H) (f:DT V R s ((p5+d5:Nat):Int) E5 A5)=>IC R s ((p5+d5:Nat):Int) E5 A5 3 (p5:Int) V f;go_upto_region 21 with(first
       |(go_at_call 48;refine(HF.o _ K.o.1).mono ?_;clear HF;rintro e fi ⟨rfl,bc,ap⟩;have Qi:=Z (K.o.rd bc ap);clear bc ap K))
      obtain⟨_,⟨y0,y1,y2,y3,y4,y5,y6,y7,a,y⟩,_,_⟩:=Qi.o;obtain⟨e0,e1,e2,e3⟩:=a.cq;have l:=Z (IB _ 0 c _ y O);clear a y;go_wp2_with(first
       |(go_at_call 74;refine l.o.mono ?_;clear l;rintro e w9 ⟨u9,rfl,x,q⟩;have m:=Z (Qi.o.below q);clear q;have o:=Z x;clear x;obtain⟨a7,l7,c7,rfl⟩:=o.o.form))
      go_ret;have i:=Qq.o.1 h8;refine⟨_,c,0,p5+d5,J,o.o,O,z.o.2.2.2.1,Uu,?_,i.2.2,m.o.2.2.1⟩;rw[<-i.1,<-i.2.1];exact m.o.1
    . have fd:¬(8:Int)<(n5:Int):=O
      obtain⟨_,⟨y0,y1,y2,y3,y4,y5,y6,y7,a,y⟩,_,_⟩:=K.o;obtain⟨e0,e1,e2,e3⟩:=a.cq;have l:=Z (IB _ n5 c _ y O);clear a y;go_wp2_with(first
       |(go_at_call 74;refine l.o.mono ?_;clear l;rintro e w9 ⟨u9,rfl,x,q⟩;have m:=Z (K.o.below q);clear q;have o:=Z x;clear x;obtain⟨a7,l7,c7,rfl⟩:=o.o.form))
      go_ret;have i:=Qq.o.2 h8;refine⟨_,c,n5,p5+d5,J,o.o,O,z.o.2.2.2.1,Uu,?_,i.2.2,m.o.2.2.1⟩;rw[<-i.1,<-i.2.1];exact m.o.1

