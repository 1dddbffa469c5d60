import Derived.Test.YtcahodpphikgnaaGreatDoorV30
import Derived.Test.YtcahodpphikgnaaGreatDoorV27
set_option linter.all false
open Go.Value renaming slice->C,bool->D,agg->B
open Go.Obj renaming cells->E
open Go renaming World->F,Value->H
open Go.Proofs.Tryz renaming prog->G
set_option maxRecDepth 99999
set_option maxHeartbeats 0
namespace Go.Proofs.YtcahodpphikgnaaGreatDoor
open Proofs.Tryz
open Go.RowKit Go.Shelf
attribute [local go_sem] Oper.semAt_some
section
def Is(W:F):H->Nat
 |C (some p) l _=>val 10000 ((List.range l).map λj=>Di W ⟨p.block,p.off+j,none⟩)
 |_=>0
variable{c l n:Nat}{a:N8}{W:F}
def RN.rowVal(h:RN W (C a l c) n):Is W (C a l c)=n:=by
 obtain⟨f,_,_,_,g⟩:=Jm h;rcases An l with d|d
 . subst d;have o:n=0:=(Js Y).1 (Ad f.symm);subst o;cases a<;>rfl
 . obtain⟨b,i,rfl,_,_⟩:=g 0 d;show val 10000 ((List.range l).map λj=>Di W ⟨b,i+j,none⟩)=n;have e:(List.range l).map (λj=>Di W ⟨b,i+j,none⟩)=Jb 10000 n:=by
    refine List.ext_getElem (by rw[List.length_map,List.length_range];exact f) λj q k=>?_;obtain⟨p,r,e,_,m⟩:=g j Y;cases e;rw[List.getElem_map,List.getElem_range,Di,m,Ag k];rfl
   rw[e,Je Y]
def It{m:Nat}(h:n<=m):(Jb 10000 n).length<=(Jb 10000 m).length:=by
 rcases As (Jb 10000 m).length (Jb 10000 n).length with a|a
 . have:=J0 Y a;omega
 . exact a
def Ng(q vb:H)(x y:Int)(w:F)(ha:Jk w q x)(hb:Jk w vb y)(ad:C8 x<=100000000000)(ae:C8 y<=100000000000):
 Calls G 61 #[q,vb] w λe w'=>∃u,e=.returned u/\Jk w' u (Int.gcd x y:Nat)/\Bl w w':=by
 obtain⟨a,k,n,rfl,I⟩:=ha;obtain⟨b,lb,o,rfl,K⟩:=hb;obtain⟨s,hs⟩:=ex (decide (x<0));obtain⟨t,ht⟩:=ex (decide (y<0));rw[hs,ht];clear hs ht;obtain⟨W0,i⟩:=ex (((w.alloc (E #[C a k n,D s] 32)).alloc (E #[C b lb o,D t] 32)).alloc (E #[C none 0 0,D false] 32));have r:Bl w W0:=by rw[<-i];exact YX w _ _ _
 have b0:Jd W0 w.heap.size 32 (C a k n) (D s):=by rw[<-i];exact((Jd.new w _ _ _).alloc _).alloc _
 have b1:Jd W0 (w.heap.size+1) 32 (C b lb o) (D t):=by
  have h:=(Jd.new (w.alloc (E #[C a k n,D s] 32)) 32 (C b lb o) (D t)).alloc (E #[C none 0 0,D false] 32);rw[BA,i]at h;exact h
 have bR:Jd W0 (w.heap.size+1+1) 32 (C none 0 0) (D false):=by
  have h:=Jd.new ((w.alloc (E #[C a k n,D s] 32)).alloc (E #[C b lb o,D t] 32)) 32 (C none 0 0) (D false);rw[BA,BA,i]at h;exact h
 have r0:=RN.below I r;have r1:=RN.below K r;have k0:=b0.c0;have k2:=b1.c0;have Q:k<=100000000000:=by rw[RN.len I];exact ad
 have S:lb<=100000000000:=by rw[RN.len K];exact ae
 have P:=Z i;clear i I K ad ae;go_enter func61,ntmps61
 go_upto_region 1 with fail
 rw[P.o];clear P;go_wp2_with fail
 go_loopw [5,6] (λxv L wr=>∃(f:N8) (d c0 X:Nat) (m:N8) (g c1 c:Nat),xv=C f d c0/\L=C m g c1/\Hid (RN wr (C f d c0) X)/\Hid (RN wr (C m g c1) c)/\Hid (Nat.gcd X c=Int.gcd x y)/\(d<=100000000000/\g<=100000000000)/\Bl W0 wr)
  (λ_ L wr=>Is wr L)
 case atStart=>exact⟨a,k,n,x.natAbs,b,lb,o,y.natAbs,J,J,Z r0,Z r1,Z J,⟨Q,S⟩,BC _ W0⟩
 case round=>
  clear r0 r1 Q S;obtain⟨f,d,c0,X,m,g,c1,c,rfl,rfl,V,j,U,⟨ah,aa⟩,z⟩:=hrel;rcases An g with T|T
  . subst T;have R:c=0:=(Js Y).1 (Ad (RN.len j.o).symm);have HE:=Z (show X=Int.gcd x y by rw[<-U.o,R,Nat.gcd_zero_right]);have l:=bR.below z;obtain⟨q0,q1⟩:=l.cp;obtain⟨f0,f1⟩:=l.fp;clear R;go_wp2_with fail
    have M:=(Dz V.o).box l J J (x0:=C f d c0) (x1:=D false);rw[HE.o]at M;have Qj:=Bt r z;have z0:=((l.set0 (C f d c0)).set1 (D false)).c0;have z1:=((l.set0 (C f d c0)).set1 (D false)).c1;exact BB (by simp[results,results61,go_sem,z0,z1]) J ⟨_,J,M,(Qj.setCell (p:=⟨_,0,none⟩) so _).setCell (p:=⟨_,1,none⟩) so _⟩
  . have Qi:c≠0:=λe=>by
     have h:=RN.len j.o;rw[e,Jq]at h;simp at h;omega
    have Qk:=Z (Ir f d c0 m g c1 X c wr V.o j.o Qi ah aa);have N:=At X (show c>0 by omega);go_wp2_with(go_at_call 92;refine Qk.o.mono ?_;rintro e w2 ⟨u,v,rfl,hu,A,W⟩;obtain⟨ua,uc,rfl⟩:=RN.form hu;obtain⟨q,vc,rfl⟩:=RN.form A)
    have Ql:=RN.below j.o W;refine⟨⟨m,g,c1,c,q,_,vc,X%c,J,J,Z Ql,Z A,Z (by rw[<-U.o,Cx c,<-Nat.gcd_rec,Cx]),⟨aa,?_⟩,Bt z W⟩,?_⟩
    . have h1:=It (Nat.le_of_lt N);rw[<-RN.len j.o]at h1;omega
    . rw[RN.rowVal A,RN.rowVal j.o];exact N
def Nh(w:F)(a b c d:H)(p0 p1:H):
 Jd ((((w.alloc (E #[a,b] 32)).alloc (E #[c,d] 32)).alloc (E #[p0,p1] 32)).alloc (E #[p0,p1] 32)) w.heap.size 32 a b/\
 Jd ((((w.alloc (E #[a,b] 32)).alloc (E #[c,d] 32)).alloc (E #[p0,p1] 32)).alloc (E #[p0,p1] 32)) (w.heap.size+1) 32 c d/\
 Jd ((((w.alloc (E #[a,b] 32)).alloc (E #[c,d] 32)).alloc (E #[p0,p1] 32)).alloc (E #[p0,p1] 32)) (w.heap.size+1+1) 32 p0 p1/\
 Jd ((((w.alloc (E #[a,b] 32)).alloc (E #[c,d] 32)).alloc (E #[p0,p1] 32)).alloc (E #[p0,p1] 32)) (w.heap.size+1+1+1) 32 p0 p1:=by
 refine⟨(((Jd.new w _ _ _).alloc _).alloc _).alloc _,?_,?_,?_⟩
 . have h:=((Jd.new (w.alloc (E #[a,b] 32)) 32 c d).alloc (E #[p0,p1] 32)).alloc (E #[p0,p1] 32);rw[BA]at h;exact h
 . have h:=(Jd.new ((w.alloc (E #[a,b] 32)).alloc (E #[c,d] 32)) 32 p0 p1).alloc (E #[p0,p1] 32);rw[BA,BA]at h;exact h
 . have h:=Jd.new (((w.alloc (E #[a,b] 32)).alloc (E #[c,d] 32)).alloc (E #[p0,p1] 32)) 32 p0 p1;rw[BA,BA,BA]at h;exact h
def Ni(h:RN W (C a l c) n)(m:Bool):Jk W (B #[C a l c,D (m&&decide (0<l))]) (if m=true then -(n:Int)else(n:Int)):=by
 have hl:=RN.len h;have f:0<l↔n≠0:=by
  rw[hl];constructor
  . intro b g;rw[g,Jq]at b;simp at b
  . intro b;exact Cz.2 λe=>b ((Js Y).1 e)
 cases m with
 |false=>
  refine⟨a,l,c,?_,by simp;exact h⟩
  have:decide ((n:Int)<0)=false:=BE Y
  simp[this]
 |true=>
  refine⟨a,l,c,?_,by simp;exact h⟩;simp only[Bool.true_and,if_true]
  have:decide (0<l)=decide (-(n:Int)<0):=by
   by_cases d:n=0
   . rw[BE λb=>f.1 b d,BE Y]
   . rw[BF (f.2 d),BF Y]
  rw[this]
def Nj(a:N8)(la ca:Nat)(b:N8)(lb cb X d:Nat)(s t:Bool)(z r:Int)(w:F)(hu:RN w (C a la ca) X)(hv:RN w (C b lb cb) d)(hY:d≠0)(bc:la<=100000000000)(bd:lb<=100000000000)
(HP:Hid (¬(s=true/\X%d≠0)->(if(!(s==t))=true then -((X/d:Nat):Int)else((X/d:Nat):Int))=z/\((X%d:Nat):Int)=r))
(HN:Hid (s=true/\X%d≠0->(if(!(s==t))=true then -((X/d+1:Nat):Int)else((X/d+1:Nat):Int))=z/\((d-X%d:Nat):Int)=r)):
 Calls G 55 #[B #[C a la ca,D s],B #[C b lb cb,D t]] w λe k=>∃q o,e=.returned (.tuple #[q,o])/\Jk k q z/\Jk k o r/\Bl w k:=by
 obtain⟨b0,b1,b4,b5⟩:=Nh w (C a la ca) (D s) (C b lb cb) (D t) (C none 0 0) (D false);have Qo:=Id w (E #[C a la ca,D s] 32) (E #[C b lb cb,D t] 32) (E #[C none 0 0,D false] 32) (E #[C none 0 0,D false] 32);obtain⟨W0,aj⟩:=ex ((((w.alloc (E #[C a la ca,D s] 32)).alloc (E #[C b lb cb,D t] 32)).alloc (E #[C none 0 0,D false] 32)).alloc (E #[C none 0 0,D false] 32));rw[aj]at b0 b1 b4 b5 Qo;have Uj:=Z aj;have Uf:=RN.below hu Qo;have Qw:=RN.below hv Qo;have Uk:=Z (Ir a la ca b lb cb X d W0 Uf Qw hY bc bd);have Ug:=Z Qw;have Ul:=Z (RN.len hu).symm;obtain⟨k0,k1⟩:=b0.cp;obtain⟨f,k3⟩:=b1.cp;clear aj hu hv Uf Qw;go_enter func55,ntmps55
 go_upto_region 1 with fail
 rw[Uj.o];go_upto_region 2 with(go_at_call 92;refine Uk.o.mono ?_;rintro e w1 ⟨u1,v1,rfl,ap,aq,ai⟩;obtain⟨A,I,rfl⟩:=RN.form ap;obtain⟨va,vc,rfl⟩:=RN.form aq)
 obtain⟨lr,an⟩:=ex ((Jb 10000 (X%d)).length);obtain⟨lq,am⟩:=ex ((Jb 10000 (X/d)).length);have Ue:=Z (show lr=0↔X%d=0 by
  rw[<-an];exact⟨λh=>(Js Y).1 (Ad h),λh=>by rw[h,Jq];rfl⟩)
 rw[an]at aq ⊢;rw[am]at ap ⊢;have bg:lq<=100000000000:=by
  have P:=It (m:=X) (n:=X/d) (Cu _ _);have h2:=Ul.o;omega
 have Ub:=Z am.symm;clear an am;obtain⟨k0,k1⟩:=(b0.below ai).cp;obtain⟨f,k3⟩:=(b1.below ai).cp;have Qv:=Z (Dj A lq I (!(s==t)) w1);go_upto_region 3 with(go_at_call 93;refine Qv.o.mono ?_;rintro e w2 ⟨rfl,ak⟩)
 obtain⟨M,az⟩:=ex (((!(s==t))&&decide (0<lq)):Bool);have hI:=Ni (RN.below ap ak) (!(s==t));rw[az]at hI ⊢;obtain⟨W3,ah⟩:=ex (w2.alloc (E #[C A lq I,D M] 32));have Qi:Bl w2 W3:=by rw[<-ah];exact Ba w2 _
 have b8:Jd W3 w2.heap.size 32 (C A lq I) (D M):=by rw[<-ah];exact Jd.new w2 _ _ _
 have Qq:Bl w1 W3:=Bt ak Qi;have Qf:Bl W0 W3:=Bt ai Qq;have Qu:=hI.below Qi;have Qy:=RN.below aq Qq;have Qg:=Bt Qo Qf;obtain⟨B8,aw⟩:=ex (w2.heap.size);have bf:w.heap.size+1+1+1<B8:=by
  have P:=(b5.below (Bt ai ak)).lt;omega
 rw[ah];rw[aw]at b8 ⊢;clear ah aw az hI;have p0:=b0.below Qf;have p1:=b1.below Qf;have x:=b4.below Qf;have y:=b5.below Qf;clear b0 b1 b4 b5 k0 k1 f k3;obtain⟨k0,k1⟩:=p0.cp;obtain⟨f,k3⟩:=p1.cp;obtain⟨i,j⟩:=b8.cp;obtain⟨q0,q1⟩:=x.cp;obtain⟨q2,q3⟩:=y.cp;obtain⟨f0,f1⟩:=x.fp;obtain⟨f2,f3⟩:=y.fp;obtain⟨cd,ay⟩:=ex ((!s || decide (lr=0)):Bool);have Qh:=Z ay;clear ay;go_cut [31] λv w4=>v=D cd/\w4=W3
 case first=>
  cases s with
  |false=>
   have e5:cd=true:=by rw[<-Qh.o];rfl
   go_wp2_with fail
   go_meet
   case rel=>exact⟨by rw[e5],J⟩
  |true=>
   by_cases l:lr=0
   . have e5:cd=true:=by rw[<-Qh.o];simp;omega
     have Q:((lr:Int)==0)=true:=by simp;omega
     clear l;go_wp2_with fail
     go_meet
     case rel=>exact⟨by rw[e5],J⟩
   . have e5:cd=false:=by rw[<-Qh.o];simp;omega
     have Q:((lr:Int)==0)=false:=by simp;omega
     clear l;go_wp2_with fail
     go_meet
     case rel=>exact⟨by rw[e5],J⟩
 case rest=>
  obtain⟨rfl,rfl⟩:=hcut;cases cd with
  |true=>
   have hc:¬(s=true/\X%d≠0):=λ⟨P,h2⟩=>by
    have h:=Qh.o;rw[P]at h;simp at h;exact h2 (Ue.o.1 h)
   obtain⟨z1,z2⟩:=HP.o hc;rw[z1]at Qu;have Qv:=Z (Dj va lr vc s);have Qz:(s&&decide (0<lr))=false:=by
    have h:=Qh.o;cases s with
    |false=>rfl
    |true=>simp at h;simp;omega
   rw[Qz]at Qv;have Qt:=Z z2;clear Qz z1 z2 hc;go_wp2_with fail
   go_region_with (first
    |(go_at_call 93;refine(Qv.o _).mono ?_;rintro e w5 ⟨rfl,L⟩;have i:=((b8.drew).below L).c0;have j:=((b8.drew).below L).c1;have q0:=((x.drew).below L).c0;have q1:=((x.drew).below L).c1;have q2:=((y.drew).below L).c0;have q3:=((y.drew).below L).c1;have f0:=((x.drew).below L).f0;have f1:=((x.drew).below L).f1;have f2:=((y.drew).below L).f0;have f3:=((y.drew).below L).f1))
   all_goals
    go_wp2_with fail
    have Qj:Bl wc w5:=((BC _ wc).drew).trans (L.mono (Aa _));have K:=x.below Qj;have U:=y.below Qj;obtain⟨z4,z5⟩:=E1 (C A lq I) (D M) (C va lr vc) (D false) K U;obtain⟨Qr,Qp⟩:=z4.cp;obtain⟨Qk,Qn⟩:=z5.cp;have W:Jd ((w5.setCell ⟨w.heap.size+1+1,0,none⟩ (C A lq I)).setCell ⟨w.heap.size+1+1,1,none⟩ (D M)) (w.heap.size+1+1+1) 32 (C none 0 0) (D false):=(U.far Br _).far Br _;have T:=(Dz Qy).below Qj;rw[Qt.o]at T;have Ql:=((Qu.below Qj).box K J J (x0:=C A lq I) (x1:=D M)).box W J J (x0:=C va lr vc) (x1:=D false);have Qm:=(T.box K J J (x0:=C A lq I) (x1:=D M)).box W J J (x0:=C va lr vc) (x1:=D false);have Qs:=Bt Qg Qj;exact BB (by simp[results,results55,go_sem,Qr,Qp,Qk,Qn]) J ⟨_,_,J,Ql,Qm,(((Qs.setCell (p:=⟨_,0,none⟩) so _).setCell (p:=⟨_,1,none⟩) so _).setCell (p:=⟨_,0,none⟩) so _).setCell (p:=⟨_,1,none⟩) so _⟩
  |false=>
   have hc:s=true/\X%d≠0:=by
    have h:=Qh.o;simp at h;exact⟨h.1,λe=>h.2 (Ue.o.2 e)⟩
   obtain⟨z1,z2⟩:=HN.o hc;rw[hc.1]at z1;have Ud:Jk wc (B #[C A lq I,D M]) (if(!(true==t))=true then -((X/d:Nat):Int)else((X/d:Nat):Int)):=by have h:=Qu;rw[hc.1]at h;exact h
   obtain⟨Ua,Uh,Qt⟩:=C6 Ud z1 z2;have bh:=At X (show d>0 by omega);obtain⟨Uc,Ui,Qe⟩:=C6 (Dv 1 Y Y) (λ(V:F) (h:Bl wc V)=>Eb _ _ d (X%d) V (RN.below (RN.below Ug.o Qf) h) (RN.below Qy h) Y (by rw[<-RN.len Ug.o];omega)) λ(V:F) (h:Bl wc V)=>Cn (Cn (b8.below h).c0 (Cn (b8.below h).c1 (p1.below h).c0)) (Cn (Cn (x.below h).c0 (Cn (x.below h).c1 (Cn (y.below h).c0 (y.below h).c1))) (Cn (x.below h).f0 (Cn (x.below h).f1 (Cn (y.below h).f0 (y.below h).f1))));have n3:¬w.heap.size+1+1=B8:=Y
   have n4:¬w.heap.size+1+1+1=B8:=Y
   have n5:¬w.heap.size+1+1=w.heap.size:=Y
   clear hc Ud z1 z2 Qu;cases t with
   |true=>
    have Qx:=Z (show ∀(V:F) (u:H),Bl wc V->Jk V u 1->Calls G 66 #[B #[C A lq I,D M],u] V λe k=>∃u,e=.returned u/\Jk k u z/\Bl V k from λV u h hu=>by
     have hx:=Ua.o.below h;simp only[beq_self_eq_true,Bool.not_true,CC,if_false]at hx;have P:=FP _ u _ 1 V hx hu (by unfold C8;rw[Cd,<-Ub.o];omega) (Ew Y Y);have h2:=Uh.o;simp only[beq_self_eq_true,Bool.not_true,CC,if_false]at h2;rw[show((X/d:Nat):Int)+1=z from by rw[<-h2];push_cast;rfl]at P;exact P)
    go_upto_region 6 with fail
    have c:Bl wc wc.drew:=(BC _ wc).drew;clear i j f q0 q1 q2 q3 f0 f1 f2 f3;obtain⟨⟨i,j,f⟩,⟨q0,q1,q2,q3⟩,f0,f1,f2,f3⟩:=Qe.o _ c;go_region_held3 (λk=>k.cell? ⟨B8,0,none⟩=some (C A lq I)/\k.cell? ⟨B8,1,none⟩=some (D M)/\k.cell? ⟨w.heap.size+1,0,none⟩=some (C b lb cb)) (first|(with_reducible exact⟨i,j,f⟩)|(go_keep;done))
     (first
      |(go_at_call 46;refine(Uc.o _).mono ?_;rintro e w5 ⟨u5,rfl,ae,g⟩;replace c:=Bt c g;clear g i j f q0 q1 q2 q3 f0 f1 f2 f3;obtain⟨⟨i,j,f⟩,⟨q0,q1,q2,q3⟩,f0,f1,f2,f3⟩:=Qe.o _ c)
      |(go_at_call 66;refine(Qx.o _ _ c ae).mono ?_;clear ae;rintro e w6 ⟨u6,rfl,l,g⟩;obtain⟨N,R,c5,rfl⟩:=l.form;obtain⟨S,ad⟩:=ex (decide (z<0));rw[ad]at l;rw[ad];clear ad;replace c:=Bt c g;clear g i j f q0 q1 q2 q3 f0 f1 f2 f3;obtain⟨⟨i,j,f⟩,⟨q0,q1,q2,q3⟩,f0,f1,f2,f3⟩:=Qe.o _ c)
      |(go_at_call 94;refine(Ui.o _ c).mono ?_;rintro e V0 ⟨u7,rfl,Q,g⟩;obtain⟨a6,c6,rfl⟩:=RN.form Q;obtain⟨l6,aa⟩:=ex ((Jb 10000 (d-X%d)).length);rw[aa]at Q;rw[aa];clear aa;replace l:=l.below g;replace c:=Bt c g;clear g i j f q0 q1 q2 q3 f0 f1 f2 f3;obtain⟨⟨i,j,f⟩,⟨q0,q1,q2,q3⟩,f0,f1,f2,f3⟩:=Qe.o _ c))
    go_wp2_with fail
    have K:=x.below c;have U:=y.below c;obtain⟨z4,z5⟩:=E1 (C N R c5) (D S) (C a6 l6 c6) (D false) K U;obtain⟨Qr,Qp⟩:=z4.cp;obtain⟨Qk,Qn⟩:=z5.cp;have W:Jd ((V0.setCell ⟨w.heap.size+1+1,0,none⟩ (C N R c5)).setCell ⟨w.heap.size+1+1,1,none⟩ (D S)) (w.heap.size+1+1+1) 32 (C none 0 0) (D false):=(U.far Br _).far Br _;have T:=Dz Q;rw[Qt.o]at T;have Ql:=(l.box K J J (x0:=C N R c5) (x1:=D S)).box W J J (x0:=C a6 l6 c6) (x1:=D false);have Qm:=(T.box K J J (x0:=C N R c5) (x1:=D S)).box W J J (x0:=C a6 l6 c6) (x1:=D false);have Qs:=Bt Qg c;exact BB (by simp[results,results55,go_sem,Qr,Qp,Qk,Qn]) J ⟨_,_,J,Ql,Qm,(((Qs.setCell (p:=⟨_,0,none⟩) so _).setCell (p:=⟨_,1,none⟩) so _).setCell (p:=⟨_,0,none⟩) so _).setCell (p:=⟨_,1,none⟩) so _⟩
   |false=>
    have Qx:=Z (show ∀(V:F) (u:H),Bl wc V->Jk V u 1->Calls G 95 #[B #[C A lq I,D M],u] V λe k=>∃u,e=.returned u/\Jk k u z/\Bl V k from λV u h hu=>by
     have hx:=Ua.o.below h;rw[BW (by rfl)]at hx;have P:=IE _ u _ 1 V hx hu (by unfold C8;rw[CU,Cd,<-Ub.o];omega) (Ew Y Y);have h2:=Uh.o;rw[BW (by rfl)]at h2;rw[show -((X/d:Nat):Int)-1=z from by rw[<-h2];push_cast;omega]at P;exact P)
    go_upto_region 7 with fail
    have c:Bl wc wc.drew:=(BC _ wc).drew;clear i j f q0 q1 q2 q3 f0 f1 f2 f3;obtain⟨⟨i,j,f⟩,⟨q0,q1,q2,q3⟩,f0,f1,f2,f3⟩:=Qe.o _ c;go_region_held3 (λk=>k.cell? ⟨B8,0,none⟩=some (C A lq I)/\k.cell? ⟨B8,1,none⟩=some (D M)/\k.cell? ⟨w.heap.size+1,0,none⟩=some (C b lb cb)) (first|(with_reducible exact⟨i,j,f⟩)|(go_keep;done))
     (first
      |(go_at_call 46;refine(Uc.o _).mono ?_;rintro e w5 ⟨u5,rfl,ae,g⟩;replace c:=Bt c g;clear g i j f q0 q1 q2 q3 f0 f1 f2 f3;obtain⟨⟨i,j,f⟩,⟨q0,q1,q2,q3⟩,f0,f1,f2,f3⟩:=Qe.o _ c)
      |(go_at_call 95;refine(Qx.o _ _ c ae).mono ?_;clear ae;rintro e w6 ⟨u6,rfl,l,g⟩;obtain⟨N,R,c5,rfl⟩:=l.form;obtain⟨S,ad⟩:=ex (decide (z<0));rw[ad]at l;rw[ad];clear ad;replace c:=Bt c g;clear g i j f q0 q1 q2 q3 f0 f1 f2 f3;obtain⟨⟨i,j,f⟩,⟨q0,q1,q2,q3⟩,f0,f1,f2,f3⟩:=Qe.o _ c)
      |(go_at_call 94;refine(Ui.o _ c).mono ?_;rintro e V0 ⟨u7,rfl,Q,g⟩;obtain⟨a6,c6,rfl⟩:=RN.form Q;obtain⟨l6,aa⟩:=ex ((Jb 10000 (d-X%d)).length);rw[aa]at Q;rw[aa];clear aa;replace l:=l.below g;replace c:=Bt c g;clear g i j f q0 q1 q2 q3 f0 f1 f2 f3;obtain⟨⟨i,j,f⟩,⟨q0,q1,q2,q3⟩,f0,f1,f2,f3⟩:=Qe.o _ c))
    go_wp2_with fail
    have K:=x.below c;have U:=y.below c;obtain⟨z4,z5⟩:=E1 (C N R c5) (D S) (C a6 l6 c6) (D false) K U;obtain⟨Qr,Qp⟩:=z4.cp;obtain⟨Qk,Qn⟩:=z5.cp;have W:Jd ((V0.setCell ⟨w.heap.size+1+1,0,none⟩ (C N R c5)).setCell ⟨w.heap.size+1+1,1,none⟩ (D S)) (w.heap.size+1+1+1) 32 (C none 0 0) (D false):=(U.far Br _).far Br _;have T:=Dz Q;rw[Qt.o]at T;have Ql:=(l.box K J J (x0:=C N R c5) (x1:=D S)).box W J J (x0:=C a6 l6 c6) (x1:=D false);have Qm:=(T.box K J J (x0:=C N R c5) (x1:=D S)).box W J J (x0:=C a6 l6 c6) (x1:=D false);have Qs:=Bt Qg c;exact BB (by simp[results,results55,go_sem,Qr,Qp,Qk,Qn]) J ⟨_,_,J,Ql,Qm,(((Qs.setCell (p:=⟨_,0,none⟩) so _).setCell (p:=⟨_,1,none⟩) so _).setCell (p:=⟨_,0,none⟩) so _).setCell (p:=⟨_,1,none⟩) so _⟩
def E9(j k:H)(x y:Int)(w:F)(n:Jk w j x)(p:Jk w k y)(i:y≠0)(r:C8 x<=100000000000)(s:C8 y<=100000000000):
 Calls G 55 #[j,k] w λe d=>∃q o,e=.returned (.tuple #[q,o])/\Jk d q (x/y)/\Jk d o (x%y)/\Bl w d:=by
 obtain⟨a,t,l,rfl,f⟩:=n;obtain⟨b,lb,m,rfl,g⟩:=p;refine Nj a t l b lb m x.natAbs y.natAbs _ _ (x/y) (x%y) w f g Y (by rw[RN.len f];exact r) (by rw[RN.len g];exact s) (λc=>Ig i λh=>c ⟨BF h.1,h.2⟩) λc=>X6 i ⟨BP c.1,c.2⟩
def Iu(r:H)(x:Int)(w:F)(t:Jk w r x):
 Calls G 23 #[r] w λe u=>e=.returned (.int .i64 x.sign)/\Bl w u:=by
 obtain⟨a,b,l,rfl,j⟩:=t;have k:=RN.len j;have v:=(Jm j).2.2.2.1;have g:Bl w (w.alloc (E #[C a b l,D (decide (x<0))] 32)):=Ba w _;have b0:=Jd.new w 32 (C a b l) (D (decide (x<0)));have n:b=0↔x=0:=by
  rw[k];constructor
  . intro h;have:=(Js (B:=10000) Y).1 (Ad h);omega
  . intro h;rw[h,Int.natAbs_zero,Jq];rfl
 have o:=Z n;obtain⟨W0,i⟩:=ex (w.alloc (E #[C a b l,D (decide (x<0))] 32));rw[i]at g b0;have d:=Z i;obtain⟨y,q⟩:=b0.cp;by_cases m:x<0
 . have f:decide (x<0)=true:=BF m;rw[f]at d q ⊢;have c:=Z (Int.sign_eq_neg_one_of_neg m);clear k n i j f b0;go_enter func23,ntmps23
   go_upto_region 1 with fail
   rw[d.o];go_wp2_with fail
   go_ret;exact⟨by rw[c.o];rfl,g⟩
 . have f:decide (x<0)=false:=BE m;rw[f]at d q ⊢;clear k n i j f b0;rcases An b with p|p
   . subst p;have c:=Z (show x.sign=0 by rw[o.o.1 J];rfl);go_enter func23,ntmps23
     go_upto_region 1 with fail
     rw[d.o];go_wp2_with fail
     go_ret;refine⟨?_,g⟩;rw[c.o];first|rfl|(simp;done)
   . have c:=Z (show x.sign=1 from Int.sign_eq_one_of_pos (by
      have:=o.o;rcases CG x 0 with h|h|h
      . omega
      . have:=this.2 h;omega
      . exact h))
     have s:min (1:Int) (b:Int)=1:=Y
     go_enter func23,ntmps23
     go_upto_region 1 with fail
     rw[d.o];go_wp2_with fail
     go_ret;refine⟨?_,g⟩;rw[c.o];first|rfl|(simp[s];done)
end
open M3
variable{s:Bool}{c l:Nat}{a:N8}{W:F}
def Iv{x y:Int}(a:y≠0):(0:Int)<(Int.gcd x y:Nat):=by
 have:=Int.gcd_pos_of_ne_zero_right x a;omega
def Jp.mk{t:Bool}{b:N8}{k d:Nat}{q:Rat}(e:Jk W (B #[C a l c,D s]) q.num)(f:Jk W (B #[C b k d,D t]) (q.den:Int)):Jp W (B #[C a l c,D s,C b k d,D t]) q:=⟨_,_,_,_,_,_,_,_,J,e,f⟩
def Jk.sign{z:Int}(h:Jk W (B #[C a l c,D s]) z):s=decide (z<0):=by
 obtain⟨b,d,c',e,_⟩:=h;cases e;rfl
def FA(va vb:H)(x y:Int)(w:F)(ha:Jk w va x)(f:Jk w vb y)(hy:y≠0)(bu:Sok x)(bz:Sok y):
 Calls G 24 #[va,vb] w λe w'=>∃u,e=.returned u/\Jp w' u (Rat.divInt x y)/\Bl w w':=by
 obtain⟨fk,ii,fw,iu,rfl⟩:=Jk.form2 ha;obtain⟨fl,ij,fx,iw,rfl⟩:=Jk.form2 f;obtain⟨W0,aw,M1⟩:=EN 32 (.big x) ha 32 (.big y) f 34 (.zref) J;obtain⟨r,Qa,Qb⟩:=C6 hy bu bz;clear ha f hy bu bz;go_enter func24,ntmps24
 go_upto_region 1 with fail
 rw[aw.o];clear aw;obtain⟨a1,l1,c1,s1,n1,i1⟩:=M1.o.big (i:=0) J;obtain⟨Uh,Uj⟩:=n1.cp;obtain⟨a2,l2,c2,s2,n2,i2⟩:=M1.o.big (i:=1) J;obtain⟨Ui,Uf⟩:=n2.cp;go_upto_region 2 with(go_at_call 61;refine(Ng _ _ x y _ i1 i2 (by have:=Qa.o.size;omega) (by have:=Qb.o.size;omega)).mono ?_;rintro e w1 ⟨u,rfl,hu,f⟩;obtain⟨bh,dg,bp,ef,rfl⟩:=Jk.form2 hu)
 obtain⟨V3,b⟩:=ex (w1.alloc (E #[C bh dg bp,D ef] 32));obtain⟨g,c⟩:=ex (w1.heap.size);have a:Bu w (w1.alloc (E #[C bh dg bp,D ef] 32)) [some (w.heap.size,.big x),some (w.heap.size+1,.big y),some (w.heap.size+1+1,.zref),some (w1.heap.size,.big (((Int.gcd x y:Nat):Int)))]:=Bu.push (M1.o.below f) (.big (((Int.gcd x y:Nat):Int))) hu;rw[b,c]at a;rw[b];rw[c];have p:Hid (Bu w V3 [some (w.heap.size,.big x),some (w.heap.size+1,.big y),some (w.heap.size+1+1,.zref),some (g,.big (((Int.gcd x y:Nat):Int)))]):=Z (a);clear M1;clear a b c;clear n1 Uh Uj i1 n2 Ui Uf i2 hu f;have HG:=Z (Sok.gcd Qa.o Qb.o);by_cases s:y<0
 . have HL:=Z s;obtain⟨a4,l4,c4,s4,n4,i4⟩:=p.o.big (i:=1) J;have Ue:=n4.c1;have hs:=Jk.sign i4;rw[BF s]at hs;subst hs;clear s;go_upto_region 3 with fail
   clear n4 Ue i4;obtain⟨a5,l5,c5,s5,n5,i5⟩:=p.o.big (i:=3) J;obtain⟨Ub,Uc⟩:=n5.cp;go_upto_region 4 with(go_at_call 62;refine(FQ _ (((Int.gcd x y:Nat):Int)) _ i5).mono ?_;rintro e w6 ⟨u6,rfl,ak,ai⟩;obtain⟨bi,dh,bt,eh,rfl⟩:=Jk.form2 ak;obtain⟨Ub,Uc⟩:=(n5.below ai).cp;obtain⟨Ul,Um⟩:=(n5.below ai).fp)
   obtain⟨V6,b⟩:=ex ((w6.setCell ⟨g,0,none⟩ (C bi dh bt)).setCell ⟨g,1,none⟩ (D eh));have a:Bu w ((w6.setCell ⟨g,0,none⟩ (C bi dh bt)).setCell ⟨g,1,none⟩ (D eh)) [some (w.heap.size,.big x),some (w.heap.size+1,.big y),some (w.heap.size+1+1,.zref),some (g,.big (-((Int.gcd x y:Nat):Int)))]:=Bu.putBig (p.o.below ai) (i:=3) J ak;rw[b]at a;rw[b];have q:Hid (Bu w V6 [some (w.heap.size,.big x),some (w.heap.size+1,.big y),some (w.heap.size+1+1,.zref),some (g,.big (-((Int.gcd x y:Nat):Int)))]):=Z (a);clear p;clear a b;clear n5 Ub Uc i5 ak ai Ul Um;obtain⟨I,t,A⟩:=C6 (show(-((Int.gcd x y:Nat):Int))≠0 by have:=Iv (x:=x) r.o;omega) (show(-((Int.gcd x y:Nat):Int))=(if y<0 then -((Int.gcd x y:Nat):Int)else((Int.gcd x y:Nat):Int))by rw[BW HL.o]) HG.o.neg;obtain⟨a7,l7,c7,s7,n7,i7⟩:=q.o.big (i:=0) J;obtain⟨Ud,Un⟩:=n7.cp;obtain⟨a8,l8,c8,s8,n8,i8⟩:=q.o.big (i:=3) J;obtain⟨Ug,Uk⟩:=n8.cp;go_upto_region 5 with(go_at_call 55;refine(E9 _ _ x ((-((Int.gcd x y:Nat):Int))) _ i7 i8 I.o (by have:=Qa.o.size;omega) (by have:=A.o.size;omega)).mono ?_;rintro e m ⟨u1,u2,rfl,j,k,f⟩;obtain⟨K,T,P,X,rfl⟩:=Jk.form2 j;obtain⟨L,U,Q,aa,rfl⟩:=Jk.form2 k)
   have a:=Bu.push (Bu.push (q.o.below f) (.big (x/(-((Int.gcd x y:Nat):Int)))) j) (.big (x%(-((Int.gcd x y:Nat):Int)))) (Has.alloc (d:=.big (x%(-((Int.gcd x y:Nat):Int)))) k _);simp only[BA]at a;have a:Bu w ((m.alloc (E #[C K T P,D X] 32)).alloc (E #[C L U Q,D aa] 32)) [some (w.heap.size,.big x),some (w.heap.size+1,.big y),some (w.heap.size+1+1,.zref),some (g,.big (-((Int.gcd x y:Nat):Int))),some (m.heap.size,.big (x/(-((Int.gcd x y:Nat):Int)))),some (m.heap.size+1,.big (x%(-((Int.gcd x y:Nat):Int))))]:=a;obtain⟨en,b⟩:=ex ((m.alloc (E #[C K T P,D X] 32)).alloc (E #[C L U Q,D aa] 32));obtain⟨B9,c⟩:=ex (m.heap.size);rw[b,c]at a;rw[b];rw[c];obtain⟨B10,l⟩:=ex (B9+1);rw[l]at a ⊢;have o:Hid (Bu w en [some (w.heap.size,.big x),some (w.heap.size+1,.big y),some (w.heap.size+1+1,.zref),some (g,.big (-((Int.gcd x y:Nat):Int))),some (B9,.big (x/(-((Int.gcd x y:Nat):Int)))),some (B10,.big (x%(-((Int.gcd x y:Nat):Int))))]):=Z (a);clear q;clear a b c l;clear n7 Ud Un i7 n8 Ug Uk i8 j k f;obtain⟨fd,gy,fm,ik,di,ce⟩:=o.o.big (i:=1) J;obtain⟨Qr,Qk⟩:=di.cp;obtain⟨fe,gz,fo,il,dj,cg⟩:=o.o.big (i:=3) J;obtain⟨Ua,Qy⟩:=dj.cp;go_upto_region 6 with(go_at_call 55;refine(E9 _ _ y ((-((Int.gcd x y:Nat):Int))) _ ce cg I.o (by have:=Qb.o.size;omega) (by have:=A.o.size;omega)).mono ?_;rintro e n ⟨u1,u2,rfl,j,k,f⟩;obtain⟨M,V,R,ad,rfl⟩:=Jk.form2 j;obtain⟨N,W,S,ae,rfl⟩:=Jk.form2 k)
   have a:=Bu.push (Bu.push (o.o.below f) (.big (y/(-((Int.gcd x y:Nat):Int)))) j) (.big (y%(-((Int.gcd x y:Nat):Int)))) (Has.alloc (d:=.big (y%(-((Int.gcd x y:Nat):Int)))) k _);simp only[BA]at a;have a:Bu w ((n.alloc (E #[C M V R,D ad] 32)).alloc (E #[C N W S,D ae] 32)) [some (w.heap.size,.big x),some (w.heap.size+1,.big y),some (w.heap.size+1+1,.zref),some (g,.big (-((Int.gcd x y:Nat):Int))),some (B9,.big (x/(-((Int.gcd x y:Nat):Int)))),some (B10,.big (x%(-((Int.gcd x y:Nat):Int)))),some (n.heap.size,.big (y/(-((Int.gcd x y:Nat):Int)))),some (n.heap.size+1,.big (y%(-((Int.gcd x y:Nat):Int))))]:=a;obtain⟨ay,b⟩:=ex ((n.alloc (E #[C M V R,D ad] 32)).alloc (E #[C N W S,D ae] 32));obtain⟨ap,c⟩:=ex (n.heap.size);rw[b,c]at a;rw[b];rw[c];obtain⟨ei,l⟩:=ex (ap+1);rw[l]at a ⊢;have z:Hid (Bu w ay [some (w.heap.size,.big x),some (w.heap.size+1,.big y),some (w.heap.size+1+1,.zref),some (g,.big (-((Int.gcd x y:Nat):Int))),some (B9,.big (x/(-((Int.gcd x y:Nat):Int)))),some (B10,.big (x%(-((Int.gcd x y:Nat):Int)))),some (ap,.big (y/(-((Int.gcd x y:Nat):Int)))),some (ei,.big (y%(-((Int.gcd x y:Nat):Int))))]):=Z (a);clear o;clear a b c l;clear di Qr Qk ce dj Ua Qy cg j k f;obtain⟨bc,cy,bj,e6,f7,et⟩:=z.o.big (i:=4) J;obtain⟨fy,gg⟩:=f7.cp;obtain⟨bd,cz,bk,e7,f8,ew⟩:=z.o.big (i:=6) J;obtain⟨gh,gi⟩:=f8.cp;have am:=z.o.zref (i:=2) J;obtain⟨Qw,Qp,Qg,Qj⟩:=am.cq;obtain⟨go,gp,gq,gr⟩:=am.fq;have hr:Jp ay (B #[C bc cy bj,D e6,C bd cz bk,D e7]) (Rat.divInt x y):=Jp.mk (by rw[Y5 r.o,<-t.o];exact et) (by rw[Y6 r.o,<-t.o];exact ew);have Qf:=z.o.ge 2 J;have hB:=z.o.2.2;go_wp2_with fail
   exact BB (v:=B #[C bc cy bj,D e6,C bd cz bk,D e7]) (by simp[results,results24,go_sem,Qw,Qp,Qg,Qj]) J ⟨_,J,hr.put4 am J J J J _ _ _ _,Jj hB Qf _ _ _ _⟩
 . have HL:=Z s;obtain⟨ff,ia,fr,im,dt,ci⟩:=p.o.big (i:=1) J;have Qu:=dt.c1;have hs:=Jk.sign ci;rw[BE s]at hs;subst hs;clear s;go_upto_region 4 with fail
   clear dt Qu ci;obtain⟨I,t,A⟩:=C6 (show((Int.gcd x y:Nat):Int)≠0 by have:=Iv (x:=x) r.o;omega) (show((Int.gcd x y:Nat):Int)=(if y<0 then -((Int.gcd x y:Nat):Int)else((Int.gcd x y:Nat):Int))by rw[BZ (by have:=HL.o;omega)]) HG.o;obtain⟨fg,ib,fs,io,du,cj⟩:=p.o.big (i:=0) J;obtain⟨Qh,Qz⟩:=du.cp;obtain⟨fh,ic,ft,ip,dw,ck⟩:=p.o.big (i:=3) J;obtain⟨Qt,Qo⟩:=dw.cp;go_upto_region 5 with(go_at_call 55;refine(E9 _ _ x (((Int.gcd x y:Nat):Int)) _ cj ck I.o (by have:=Qa.o.size;omega) (by have:=A.o.size;omega)).mono ?_;rintro e m ⟨u1,u2,rfl,j,k,f⟩;obtain⟨K,T,P,X,rfl⟩:=Jk.form2 j;obtain⟨L,U,Q,aa,rfl⟩:=Jk.form2 k)
   have a:=Bu.push (Bu.push (p.o.below f) (.big (x/((Int.gcd x y:Nat):Int))) j) (.big (x%((Int.gcd x y:Nat):Int))) (Has.alloc (d:=.big (x%((Int.gcd x y:Nat):Int))) k _);simp only[BA]at a;have a:Bu w ((m.alloc (E #[C K T P,D X] 32)).alloc (E #[C L U Q,D aa] 32)) [some (w.heap.size,.big x),some (w.heap.size+1,.big y),some (w.heap.size+1+1,.zref),some (g,.big (((Int.gcd x y:Nat):Int))),some (m.heap.size,.big (x/((Int.gcd x y:Nat):Int))),some (m.heap.size+1,.big (x%((Int.gcd x y:Nat):Int)))]:=a;obtain⟨er,b⟩:=ex ((m.alloc (E #[C K T P,D X] 32)).alloc (E #[C L U Q,D aa] 32));obtain⟨ah,c⟩:=ex (m.heap.size);rw[b,c]at a;rw[b];rw[c];obtain⟨aj,l⟩:=ex (ah+1);rw[l]at a ⊢;have q:Hid (Bu w er [some (w.heap.size,.big x),some (w.heap.size+1,.big y),some (w.heap.size+1+1,.zref),some (g,.big (((Int.gcd x y:Nat):Int))),some (ah,.big (x/((Int.gcd x y:Nat):Int))),some (aj,.big (x%((Int.gcd x y:Nat):Int)))]):=Z (a);clear p;clear a b c l;clear du Qh Qz cj dw Qt Qo ck j k f;obtain⟨fi,ie,fu,iq,dx,cn⟩:=q.o.big (i:=1) J;obtain⟨Qn,Qq⟩:=dx.cp;obtain⟨fj,ig,fv,ir,dz,cw⟩:=q.o.big (i:=3) J;obtain⟨Qx,Qs⟩:=dz.cp;go_upto_region 6 with(go_at_call 55;refine(E9 _ _ y (((Int.gcd x y:Nat):Int)) _ cn cw I.o (by have:=Qb.o.size;omega) (by have:=A.o.size;omega)).mono ?_;rintro e n ⟨u1,u2,rfl,j,k,f⟩;obtain⟨M,V,R,ad,rfl⟩:=Jk.form2 j;obtain⟨N,W,S,ae,rfl⟩:=Jk.form2 k)
   have a:=Bu.push (Bu.push (q.o.below f) (.big (y/((Int.gcd x y:Nat):Int))) j) (.big (y%((Int.gcd x y:Nat):Int))) (Has.alloc (d:=.big (y%((Int.gcd x y:Nat):Int))) k _);simp only[BA]at a;have a:Bu w ((n.alloc (E #[C M V R,D ad] 32)).alloc (E #[C N W S,D ae] 32)) [some (w.heap.size,.big x),some (w.heap.size+1,.big y),some (w.heap.size+1+1,.zref),some (g,.big (((Int.gcd x y:Nat):Int))),some (ah,.big (x/((Int.gcd x y:Nat):Int))),some (aj,.big (x%((Int.gcd x y:Nat):Int))),some (n.heap.size,.big (y/((Int.gcd x y:Nat):Int))),some (n.heap.size+1,.big (y%((Int.gcd x y:Nat):Int)))]:=a;obtain⟨az,b⟩:=ex ((n.alloc (E #[C M V R,D ad] 32)).alloc (E #[C N W S,D ae] 32));obtain⟨aq,c⟩:=ex (n.heap.size);rw[b,c]at a;rw[b];rw[c];obtain⟨ek,l⟩:=ex (aq+1);rw[l]at a ⊢;have o:Hid (Bu w az [some (w.heap.size,.big x),some (w.heap.size+1,.big y),some (w.heap.size+1+1,.zref),some (g,.big (((Int.gcd x y:Nat):Int))),some (ah,.big (x/((Int.gcd x y:Nat):Int))),some (aj,.big (x%((Int.gcd x y:Nat):Int))),some (aq,.big (y/((Int.gcd x y:Nat):Int))),some (ek,.big (y%((Int.gcd x y:Nat):Int)))]):=Z (a);clear q;clear a b c l;clear dx Qn Qq cn dz Qx Qs cw j k f;obtain⟨bf,d8,bm,eb,f9,f4⟩:=o.o.big (i:=4) J;obtain⟨gj,gk⟩:=f9.cp;obtain⟨bg,de,bn,ed,fc,f6⟩:=o.o.big (i:=6) J;obtain⟨gl,gn⟩:=fc.cp;have an:=o.o.zref (i:=2) J;obtain⟨Qv,Ql,Qi,Qm⟩:=an.cq;obtain⟨gt,gu,gv,gw⟩:=an.fq;have hr:Jp az (B #[C bf d8 bm,D eb,C bg de bn,D ed]) (Rat.divInt x y):=Jp.mk (by rw[Y5 r.o,<-t.o];exact f4) (by rw[Y6 r.o,<-t.o];exact f6);have Qf:=o.o.ge 2 J;have hB:=o.o.2.2;go_wp2_with fail
   exact BB (v:=B #[C bf d8 bm,D eb,C bg de bn,D ed]) (by simp[results,results24,go_sem,Qv,Ql,Qi,Qm]) J ⟨_,J,hr.put4 an J J J J _ _ _ _,Jj hB Qf _ _ _ _⟩
def Iw(va vb:H)(p q:Rat)(w:F)(W:Jp w va p)(X:Jp w vb q)(ai:Sq p)(aj:Sq q):
 Calls G 31 #[va,vb] w λe d=>∃u,e=.returned u/\Jp d u (p+q)/\Bl w d:=by
 obtain⟨bg,bz,bk,cj,bi,bt,bn,cn,rfl⟩:=Jp.form W;obtain⟨bh,ce,bm,ck,bj,bu,bp,cw,rfl⟩:=Jp.form X;obtain⟨W0,ad,g⟩:=EN 34 (.ref p) W 34 (.ref q) X 34 (.zref) J;have j:=Z ai;have k:=Z aj;clear W X ai aj;go_enter func31,ntmps31
 go_upto_region 1 with fail
 rw[ad.o];clear ad;obtain⟨a1,l1,c1,s1,b1,k1,d1,t1,L,r1,i1,j1⟩:=g.o.ref (i:=0) J;obtain⟨o,s,x,z⟩:=L.cq;obtain⟨a2,l2,c2,s2,b2,k2,d2,t2,M,r2,i2,j2⟩:=g.o.ref (i:=1) J;obtain⟨r,n,m,I⟩:=M.cq;have b:=g.o.zref (i:=2) J;obtain⟨y,t,K,A⟩:=b.cq;obtain⟨S,R,Q,N⟩:=b.fq;obtain⟨H4,H9,Qw,Qu,Qv⟩:=Dn (λ(V:F) (h:Bl W0 V)=>Yd _ _ (p.num) ((q.den:Int)) V (i1.below h) (j2.below h) (by have:=j.o.num.size;omega) (by have:=k.o.den.size;omega)) (λ(V:F) (h:Bl W0 V)=>Yd _ _ (q.num) ((p.den:Int)) V (i2.below h) (j1.below h) (by have:=k.o.num.size;omega) (by have:=j.o.den.size;omega)) (λ(V:F) (h:Bl W0 V) (v4:H) (c:Jk V v4 (p.num*(q.den:Int))) (v9:H) (f:Jk V v9 (q.num*(p.den:Int)))=>FP _ _ (p.num*(q.den:Int)) (q.num*(p.den:Int)) V c f (by have:=(j.o.cross k.o).size;omega) (by have:=(k.o.cross j.o).size;omega)) (λ(V:F) (h:Bl W0 V)=>Yd _ _ ((p.den:Int)) ((q.den:Int)) V (j1.below h) (j2.below h) (by have:=j.o.den.size;omega) (by have:=k.o.den.size;omega)) λ(V:F) (h:Bl W0 V) (ak:H) (l:Jk V ak (p.num*(q.den:Int)+q.num*(p.den:Int))) (am:H) (P:Jk V am ((p.den:Int)*(q.den:Int)))=>(by have h:=FA _ _ (p.num*(q.den:Int)+q.num*(p.den:Int)) ((p.den:Int)*(q.den:Int)) V l P (CE (by have:=p.den_nz;omega) (by have:=q.den_nz;omega)) (j.o.sumN k.o) (j.o.mulD k.o);rw[Gi]at h;exact h);have cg:w.heap.size≠w.heap.size+1+1:=g.o.ne 0 2 J J Bw;have ci:w.heap.size+1≠w.heap.size+1+1:=g.o.ne 1 2 J J Bw;have a:Bl W0 W0.drew:=(BC _ W0).drew;go_region_held3 (λd=>d.cell? ⟨w.heap.size,0,none⟩=some (C a1 l1 c1)/\d.cell? ⟨w.heap.size,1,none⟩=some (D s1)/\d.cell? ⟨w.heap.size,2,none⟩=some (C b1 k1 d1)/\d.cell? ⟨w.heap.size,3,none⟩=some (D t1)/\d.cell? ⟨w.heap.size+1,0,none⟩=some (C a2 l2 c2)/\d.cell? ⟨w.heap.size+1,1,none⟩=some (D s2)/\d.cell? ⟨w.heap.size+1,2,none⟩=some (C b2 k2 d2)/\d.cell? ⟨w.heap.size+1,3,none⟩=some (D t2)) (first|(with_reducible exact⟨o,s,x,z,r,n,m,I⟩)|(go_keep;done)|(refine⟨?_,?_,?_,?_,?_,?_,?_,?_⟩<;>((repeat rw[Jn Y]);first|assumption|(go_keep;done))))
  (first
   |(go_at_call 67;refine(H4.o _ a ).mono ?_;clear H4;rintro e w4 ⟨v4,rfl,c,ay⟩;have a:=Bt a ay;obtain⟨o,s,x,z⟩:=(L.below a).cq;obtain⟨r,n,m,I⟩:=(M.below a).cq;obtain⟨y,t,K,A⟩:=(b.below a).cq;obtain⟨S,R,Q,N⟩:=(b.below a).fq)
   |(go_at_call 67;refine(H9.o _ a ).mono ?_;clear H9;rintro e w9 ⟨v9,rfl,f,ah⟩;have c:=c.below ah;have a:=Bt a ah;obtain⟨o,s,x,z⟩:=(L.below a).cq;obtain⟨r,n,m,I⟩:=(M.below a).cq;obtain⟨y,t,K,A⟩:=(b.below a).cq;obtain⟨S,R,Q,N⟩:=(b.below a).fq)
   |(go_at_call 66;refine(Qw.o _ a _ c _ f).mono ?_;clear Qw;rintro e cz ⟨ak,rfl,l,aa⟩;have c:=c.below aa;have f:=f.below aa;have a:=Bt a aa;obtain⟨o,s,x,z⟩:=(L.below a).cq;obtain⟨r,n,m,I⟩:=(M.below a).cq;obtain⟨y,t,K,A⟩:=(b.below a).cq;obtain⟨S,R,Q,N⟩:=(b.below a).fq)
   |(go_at_call 67;refine(Qu.o _ a ).mono ?_;clear Qu;rintro e d8 ⟨am,rfl,P,U⟩;have c:=c.below U;have f:=f.below U;have l:=l.below U;have a:=Bt a U;obtain⟨o,s,x,z⟩:=(L.below a).cq;obtain⟨r,n,m,I⟩:=(M.below a).cq;obtain⟨y,t,K,A⟩:=(b.below a).cq;obtain⟨S,R,Q,N⟩:=(b.below a).fq)
   |(go_at_call 24;refine(Qv.o _ a _ l _ P).mono ?_;clear Qv;rintro e de ⟨cy,rfl,ae,T⟩;obtain⟨an,bc,aq,bd,ap,az,aw,bf,rfl⟩:=Jp.form ae;have c:=c.below T;have f:=f.below T;have l:=l.below T;have P:=P.below T;have a:=Bt a T;obtain⟨o,s,x,z⟩:=(L.below a).cq;obtain⟨r,n,m,I⟩:=(M.below a).cq;obtain⟨y,t,K,A⟩:=(b.below a).cq;obtain⟨S,R,Q,N⟩:=(b.below a).fq))
 all_goals go_wp2_with fail
 have Qy:=Bt g.o.2.2 a;have Qx:=g.o.ge 2 J;exact BB (v:=B #[C an bc aq,D bd,C ap az aw,D bf]) (by simp[results,results31,go_sem,y,t,K,A]) J ⟨_,J,ae.put4 (b.below a) J J J J _ _ _ _,Jj Qy Qx _ _ _ _⟩
def Nk(va vb:H)(p q:Rat)(w:F)(R:Jp w va p)(S:Jp w vb q)(ae:Sq p)(ah:Sq q):
 Calls G 33 #[va,vb] w λe b=>∃u,e=.returned u/\Jp b u (p*q)/\Bl w b:=by
 obtain⟨az,bn,bg,bz,bd,bk,bi,cg,rfl⟩:=Jp.form R;obtain⟨bc,bp,bh,ce,bf,bm,bj,ci,rfl⟩:=Jp.form S;obtain⟨W0,X,d⟩:=EN 34 (.ref p) R 34 (.ref q) S 34 (.zref) J;have j:=Z ae;have k:=Z ah;clear R S ae ah;go_enter func33,ntmps33
 go_upto_region 1 with fail
 rw[X.o];clear X;obtain⟨a1,l1,c1,s1,b1,k1,d1,t1,K,r1,i1,j1⟩:=d.o.ref (i:=0) J;obtain⟨n,r,t,y⟩:=K.cq;obtain⟨a2,l2,c2,s2,b2,k2,d2,t2,L,r2,i2,j2⟩:=d.o.ref (i:=1) J;obtain⟨o,m,l,A⟩:=L.cq;have c:=d.o.zref (i:=2) J;obtain⟨x,s,I,z⟩:=c.cq;obtain⟨Q,P,N,M⟩:=c.fq;obtain⟨U,W,Qs⟩:=C6 (λ(V:F) (h:Bl W0 V)=>Yd _ _ (p.num) (q.num) V (i1.below h) (i2.below h) (by have:=j.o.num.size;omega) (by have:=k.o.num.size;omega)) (λ(V:F) (h:Bl W0 V)=>Yd _ _ ((p.den:Int)) ((q.den:Int)) V (j1.below h) (j2.below h) (by have:=j.o.den.size;omega) (by have:=k.o.den.size;omega)) λ(V:F) (h:Bl W0 V) (v4:H) (f:Jk V v4 (p.num*q.num)) (v9:H) (g:Jk V v9 ((p.den:Int)*(q.den:Int)))=>(by have h:=FA _ _ (p.num*q.num) ((p.den:Int)*(q.den:Int)) V f g (CE (by have:=p.den_nz;omega) (by have:=q.den_nz;omega)) (j.o.mulN k.o) (j.o.mulD k.o);rw[FW]at h;exact h);have bt:w.heap.size≠w.heap.size+1+1:=d.o.ne 0 2 J J Bw;have bu:w.heap.size+1≠w.heap.size+1+1:=d.o.ne 1 2 J J Bw;have a:Bl W0 W0.drew:=(BC _ W0).drew;go_region_held3 (λb=>b.cell? ⟨w.heap.size,0,none⟩=some (C a1 l1 c1)/\b.cell? ⟨w.heap.size,1,none⟩=some (D s1)/\b.cell? ⟨w.heap.size,2,none⟩=some (C b1 k1 d1)/\b.cell? ⟨w.heap.size,3,none⟩=some (D t1)/\b.cell? ⟨w.heap.size+1,0,none⟩=some (C a2 l2 c2)/\b.cell? ⟨w.heap.size+1,1,none⟩=some (D s2)/\b.cell? ⟨w.heap.size+1,2,none⟩=some (C b2 k2 d2)/\b.cell? ⟨w.heap.size+1,3,none⟩=some (D t2)) (first|(with_reducible exact⟨n,r,t,y,o,m,l,A⟩)|(go_keep;done)|(refine⟨?_,?_,?_,?_,?_,?_,?_,?_⟩<;>((repeat rw[Jn Y]);first|assumption|(go_keep;done))))
  (first
   |(go_at_call 67;refine(U.o _ a ).mono ?_;clear U;rintro e w4 ⟨v4,rfl,f,an⟩;have a:=Bt a an;obtain⟨n,r,t,y⟩:=(K.below a).cq;obtain⟨o,m,l,A⟩:=(L.below a).cq;obtain⟨x,s,I,z⟩:=(c.below a).cq;obtain⟨Q,P,N,M⟩:=(c.below a).fq)
   |(go_at_call 67;refine(W.o _ a ).mono ?_;clear W;rintro e w9 ⟨v9,rfl,g,ad⟩;have f:=f.below ad;have a:=Bt a ad;obtain⟨n,r,t,y⟩:=(K.below a).cq;obtain⟨o,m,l,A⟩:=(L.below a).cq;obtain⟨x,s,I,z⟩:=(c.below a).cq;obtain⟨Q,P,N,M⟩:=(c.below a).fq)
   |(go_at_call 24;refine(Qs.o _ a _ f _ g).mono ?_;clear Qs;rintro e ck ⟨cj,rfl,aa,T⟩;obtain⟨ai,aq,ak,aw,aj,ap,am,ay,rfl⟩:=Jp.form aa;have f:=f.below T;have g:=g.below T;have a:=Bt a T;obtain⟨n,r,t,y⟩:=(K.below a).cq;obtain⟨o,m,l,A⟩:=(L.below a).cq;obtain⟨x,s,I,z⟩:=(c.below a).cq;obtain⟨Q,P,N,M⟩:=(c.below a).fq))
 all_goals go_wp2_with fail
 have Qu:=Bt d.o.2.2 a;have Qt:=d.o.ge 2 J;exact BB (v:=B #[C ai aq ak,D aw,C aj ap am,D ay]) (by simp[results,results33,go_sem,x,s,I,z]) J ⟨_,J,aa.put4 (c.below a) J J J J _ _ _ _,Jj Qu Qt _ _ _ _⟩
def Nl(va vb:H)(p q:Rat)(w:F)(R:Jp w va p)(S:Jp w vb q)(ah:Sq p)(ai:Sq q)(ae:q≠0):
 Calls G 37 #[va,vb] w λe b=>∃u,e=.returned u/\Jp b u (p/q)/\Bl w b:=by
 obtain⟨bc,bp,bh,ce,bf,bm,bj,ci,rfl⟩:=Jp.form R;obtain⟨bd,bt,bi,cg,bg,bn,bk,cj,rfl⟩:=Jp.form S;obtain⟨W0,X,d⟩:=EN 34 (.ref p) R 34 (.ref q) S 34 (.zref) J;obtain⟨j,k,Qp⟩:=C6 ah ai ae;clear R S ah ai ae;go_enter func37,ntmps37
 go_upto_region 1 with fail
 rw[X.o];clear X;obtain⟨a1,l1,c1,s1,b1,k1,d1,t1,K,r1,i1,j1⟩:=d.o.ref (i:=0) J;obtain⟨n,r,t,y⟩:=K.cq;obtain⟨a2,l2,c2,s2,b2,k2,d2,t2,L,r2,i2,j2⟩:=d.o.ref (i:=1) J;obtain⟨o,m,l,A⟩:=L.cq;have c:=d.o.zref (i:=2) J;obtain⟨x,s,I,z⟩:=c.cq;obtain⟨Q,P,N,M⟩:=c.fq;obtain⟨U,W,Qt⟩:=C6 (λ(V:F) (h:Bl W0 V)=>Yd _ _ (p.num) ((q.den:Int)) V (i1.below h) (j2.below h) (by have:=j.o.num.size;omega) (by have:=k.o.den.size;omega)) (λ(V:F) (h:Bl W0 V)=>Yd _ _ ((p.den:Int)) (q.num) V (j1.below h) (i2.below h) (by have:=j.o.den.size;omega) (by have:=k.o.num.size;omega)) λ(V:F) (h:Bl W0 V) (v4:H) (f:Jk V v4 (p.num*(q.den:Int))) (v9:H) (g:Jk V v9 ((p.den:Int)*q.num))=>(by have h:=FA _ _ (p.num*(q.den:Int)) ((p.den:Int)*q.num) V f g (CE (by have:=p.den_nz;omega) λh=>Qp.o (Rat.num_eq_zero.1 h)) (j.o.cross k.o) (j.o.cross2 k.o);rw[FV]at h;exact h);have bu:w.heap.size≠w.heap.size+1+1:=d.o.ne 0 2 J J Bw;have bz:w.heap.size+1≠w.heap.size+1+1:=d.o.ne 1 2 J J Bw;have a:Bl W0 W0.drew:=(BC _ W0).drew;go_region_held3 (λb=>b.cell? ⟨w.heap.size,0,none⟩=some (C a1 l1 c1)/\b.cell? ⟨w.heap.size,1,none⟩=some (D s1)/\b.cell? ⟨w.heap.size,2,none⟩=some (C b1 k1 d1)/\b.cell? ⟨w.heap.size,3,none⟩=some (D t1)/\b.cell? ⟨w.heap.size+1,0,none⟩=some (C a2 l2 c2)/\b.cell? ⟨w.heap.size+1,1,none⟩=some (D s2)/\b.cell? ⟨w.heap.size+1,2,none⟩=some (C b2 k2 d2)/\b.cell? ⟨w.heap.size+1,3,none⟩=some (D t2)) (first|(with_reducible exact⟨n,r,t,y,o,m,l,A⟩)|(go_keep;done)|(refine⟨?_,?_,?_,?_,?_,?_,?_,?_⟩<;>((repeat rw[Jn Y]);first|assumption|(go_keep;done))))
  (first
   |(go_at_call 67;refine(U.o _ a ).mono ?_;clear U;rintro e w4 ⟨v4,rfl,f,ap⟩;have a:=Bt a ap;obtain⟨n,r,t,y⟩:=(K.below a).cq;obtain⟨o,m,l,A⟩:=(L.below a).cq;obtain⟨x,s,I,z⟩:=(c.below a).cq;obtain⟨Q,P,N,M⟩:=(c.below a).fq)
   |(go_at_call 67;refine(W.o _ a ).mono ?_;clear W;rintro e w9 ⟨v9,rfl,g,ad⟩;have f:=f.below ad;have a:=Bt a ad;obtain⟨n,r,t,y⟩:=(K.below a).cq;obtain⟨o,m,l,A⟩:=(L.below a).cq;obtain⟨x,s,I,z⟩:=(c.below a).cq;obtain⟨Q,P,N,M⟩:=(c.below a).fq)
   |(go_at_call 24;refine(Qt.o _ a _ f _ g).mono ?_;clear Qt;rintro e cn ⟨ck,rfl,aa,T⟩;obtain⟨aj,aw,am,ay,ak,aq,an,az,rfl⟩:=Jp.form aa;have f:=f.below T;have g:=g.below T;have a:=Bt a T;obtain⟨n,r,t,y⟩:=(K.below a).cq;obtain⟨o,m,l,A⟩:=(L.below a).cq;obtain⟨x,s,I,z⟩:=(c.below a).cq;obtain⟨Q,P,N,M⟩:=(c.below a).fq))
 all_goals go_wp2_with fail
 have Qv:=Bt d.o.2.2 a;have Qu:=d.o.ge 2 J;exact BB (v:=B #[C aj aw am,D ay,C ak aq an,D az]) (by simp[results,results37,go_sem,x,s,I,z]) J ⟨_,J,aa.put4 (c.below a) J J J J _ _ _ _,Jj Qv Qu _ _ _ _⟩
def Nm(U W:H)(p q:Rat)(w:F)(y:Jp w U p)(z:Jp w W q)(Q:Sq p)(R:Sq q):
 Calls G 35 #[U,W] w λe b=>e=.returned (.int .i64 (Yp (p.num*(q.den:Int)) (q.num*(p.den:Int))))/\Bl w b:=by
 obtain⟨n,I⟩:=ex (Yp (p.num*(q.den:Int)) (q.num*(p.den:Int)));have X:=Z I;rw[I];clear I;obtain⟨ad,aw,aj,az,ah,ap,am,bd,rfl⟩:=Jp.form y;obtain⟨ae,ay,ak,bc,ai,aq,an,bf,rfl⟩:=Jp.form z;obtain⟨W0,M,x⟩:=IB 34 (.ref p) y 34 (.ref q) z;have f:=Z Q;have g:=Z R;clear y z Q R;go_enter func35,ntmps35
 go_upto_region 1 with fail
 rw[M.o];clear M;obtain⟨a1,l1,c1,s1,b1,k1,d1,t1,u,r1,i1,j1⟩:=x.o.ref (i:=0) J;obtain⟨t,k,o,s⟩:=u.cq;obtain⟨a2,l2,c2,s2,b2,k2,d2,t2,v,r2,i2,j2⟩:=x.o.ref (i:=1) J;obtain⟨j,l,r,m⟩:=v.cq;obtain⟨K,L,N⟩:=C6 (λ(V:F) (h:Bl W0 V)=>Yd _ _ (p.num) ((q.den:Int)) V (i1.below h) (j2.below h) (by have:=f.o.num.size;omega) (by have:=g.o.den.size;omega)) (λ(V:F) (h:Bl W0 V)=>Yd _ _ (q.num) ((p.den:Int)) V (i2.below h) (j1.below h) (by have:=g.o.num.size;omega) (by have:=f.o.den.size;omega)) λ(V:F) (h:Bl W0 V) (S:H) (c:Jk V S (p.num*(q.den:Int))) (T:H) (d:Jk V T (q.num*(p.den:Int)))=>(by have h:=MY _ _ (p.num*(q.den:Int)) (q.num*(p.den:Int)) V c d (by have:=(f.o.cross g.o).size;omega) (by have:=(g.o.cross f.o).size;omega);rw[X.o]at h;exact h);have a:Bl W0 W0.drew:=(BC _ W0).drew;go_region_held3 (λb=>b.cell? ⟨w.heap.size,0,none⟩=some (C a1 l1 c1)/\b.cell? ⟨w.heap.size,1,none⟩=some (D s1)/\b.cell? ⟨w.heap.size,2,none⟩=some (C b1 k1 d1)/\b.cell? ⟨w.heap.size,3,none⟩=some (D t1)/\b.cell? ⟨w.heap.size+1,0,none⟩=some (C a2 l2 c2)/\b.cell? ⟨w.heap.size+1,1,none⟩=some (D s2)/\b.cell? ⟨w.heap.size+1,2,none⟩=some (C b2 k2 d2)/\b.cell? ⟨w.heap.size+1,3,none⟩=some (D t2)) (first|(with_reducible exact⟨t,k,o,s,j,l,r,m⟩)|(go_keep;done)|(refine⟨?_,?_,?_,?_,?_,?_,?_,?_⟩<;>((repeat rw[Jn Y]);first|assumption|(go_keep;done))))
  (first
   |(go_at_call 67;refine(K.o _ a ).mono ?_;clear K;rintro e w4 ⟨S,rfl,c,aa⟩;have a:=Bt a aa;obtain⟨t,k,o,s⟩:=(u.below a).cq;obtain⟨j,l,r,m⟩:=(v.below a).cq)
   |(go_at_call 67;refine(L.o _ a ).mono ?_;clear L;rintro e w9 ⟨T,rfl,d,P⟩;have c:=c.below P;have a:=Bt a P;obtain⟨t,k,o,s⟩:=(u.below a).cq;obtain⟨j,l,r,m⟩:=(v.below a).cq)
   |(go_at_call 69;refine(N.o _ a _ c _ d).mono ?_;clear N;rintro e bg ⟨rfl,A⟩;have c:=c.below A;have d:=d.below A;have a:=Bt a A;obtain⟨t,k,o,s⟩:=(u.below a).cq;obtain⟨j,l,r,m⟩:=(v.below a).cq))
 all_goals go_wp2_with fail
 go_ret;exact⟨J,Bt x.o.2.2 a⟩
def Nn(N:H)(q:Rat)(w:F)(g:Jp w N q):
 Calls G 68 #[N] w λe b=>∃u,e=.returned u/\Jp b u (-q)/\Bl w b:=by
 obtain⟨aa,aj,ae,ak,ad,ai,ah,am,rfl⟩:=Jp.form g;obtain⟨W0,m,d⟩:=IB 34 (.ref q) g 34 (.zref) J;clear g;go_enter func68,ntmps68
 go_upto_region 1 with fail
 rw[m.o];clear m;obtain⟨W,l1,c1,s1,f,j,d1,k,L,r1,i1,j1⟩:=d.o.ref (i:=0) J;obtain⟨y,o,s,x⟩:=L.cq;have c:=d.o.zref (i:=1) J;obtain⟨n,p,t,r⟩:=c.cq;obtain⟨R,Q,T,S⟩:=c.fq;have l:=Z λ(V:F) (h:Bl W0 V)=>FQ _ q.num V (i1.below h);have a:Bl W0 W0.drew:=(BC _ W0).drew;go_region_held3 (λb=>b.cell? ⟨w.heap.size,0,none⟩=some (C W l1 c1)/\b.cell? ⟨w.heap.size,1,none⟩=some (D s1)/\b.cell? ⟨w.heap.size,2,none⟩=some (C f j d1)/\b.cell? ⟨w.heap.size,3,none⟩=some (D k)) (first|(with_reducible exact⟨y,o,s,x⟩)|(go_keep;done)|(refine⟨?_,?_,?_,?_⟩<;>((repeat rw[Jn Y]);first|assumption|(go_keep;done))))
  (first
   |(go_at_call 62;refine(l.o _ a ).mono ?_;clear l;rintro e w2 ⟨v2,rfl,I,X⟩;obtain⟨z,K,A,M,rfl⟩:=Jk.form2 I;have a:=Bt a X;obtain⟨y,o,s,x⟩:=(L.below a).cq;obtain⟨n,p,t,r⟩:=(c.below a).cq;obtain⟨R,Q,T,S⟩:=(c.below a).fq))
 all_goals go_wp2_with fail
 have hr:Jp w2 (B #[C z K A,D M,C f j d1,D k]) (-q):=Jp.mk I (j1.below a);have U:=Bt d.o.2.2 a;have P:=d.o.ge 1 J;exact BB (v:=B #[C z K A,D M,C f j d1,D k]) (by simp[results,results68,go_sem,n,p,t,r]) J ⟨_,J,hr.put4 (c.below a) J J J J _ _ _ _,Jj U P _ _ _ _⟩
def Np(va vb:H)(p q:Rat)(w:F)(z:Jp w va p)(A:Jp w vb q)(W:Sq p)(X:Sq q):
 Calls G 32 #[va,vb] w λe b=>∃u,e=.returned u/\Jp b u (p-q)/\Bl w b:=by
 obtain⟨ap,bi,az,bn,aw,bg,bd,bt,rfl⟩:=Jp.form z;obtain⟨aq,bj,bc,bp,ay,bh,bf,bu,rfl⟩:=Jp.form A;obtain⟨W0,N,c⟩:=EN 34 (.ref p) z 34 (.ref q) A 34 (.zref) J;have Qg:=Z W;have Qj:=Z X;clear z A W X;go_enter func32,ntmps32
 go_upto_region 1 with fail
 rw[N.o];clear N;obtain⟨a1,l1,c1,s1,b1,k1,d1,t1,I,r1,i1,j1⟩:=c.o.ref (i:=0) J;obtain⟨k,m,o,s⟩:=I.cq;obtain⟨a2,l2,c2,s2,b2,k2,d2,t2,K,r2,i2,j2⟩:=c.o.ref (i:=1) J;obtain⟨l,j,g,x⟩:=K.cq;have d:=c.o.zref (i:=2) J;obtain⟨r,n,y,t⟩:=d.cq;obtain⟨S,R,Q,P⟩:=d.fq;have L:=Z λ(V:F) (h:Bl W0 V)=>Nn _ q V (r2.below h);have M:=Z λ(V:F) (h:Bl W0 V) (v2:H) (f:Jp V v2 (-q))=>(by have h:=Iw _ _ p (-q) V (r1.below h) f Qg.o Qj.o.neg;rw[<-Rat.sub_eq_add_neg]at h;exact h);have bk:w.heap.size≠w.heap.size+1+1:=c.o.ne 0 2 J J Bw;have bm:w.heap.size+1≠w.heap.size+1+1:=c.o.ne 1 2 J J Bw;have a:Bl W0 W0.drew:=(BC _ W0).drew;go_region_held3 (λb=>b.cell? ⟨w.heap.size,0,none⟩=some (C a1 l1 c1)/\b.cell? ⟨w.heap.size,1,none⟩=some (D s1)/\b.cell? ⟨w.heap.size,2,none⟩=some (C b1 k1 d1)/\b.cell? ⟨w.heap.size,3,none⟩=some (D t1)/\b.cell? ⟨w.heap.size+1,0,none⟩=some (C a2 l2 c2)/\b.cell? ⟨w.heap.size+1,1,none⟩=some (D s2)/\b.cell? ⟨w.heap.size+1,2,none⟩=some (C b2 k2 d2)/\b.cell? ⟨w.heap.size+1,3,none⟩=some (D t2)) (first|(with_reducible exact⟨k,m,o,s,l,j,g,x⟩)|(go_keep;done)|(refine⟨?_,?_,?_,?_,?_,?_,?_,?_⟩<;>((repeat rw[Jn Y]);first|assumption|(go_keep;done))))
  (first
   |(go_at_call 68;refine(L.o _ a ).mono ?_;clear L;rintro e w2 ⟨v2,rfl,f,ai⟩;have a:=Bt a ai;obtain⟨k,m,o,s⟩:=(I.below a).cq;obtain⟨l,j,g,x⟩:=(K.below a).cq;obtain⟨r,n,y,t⟩:=(d.below a).cq;obtain⟨S,R,Q,P⟩:=(d.below a).fq)
   |(go_at_call 31;refine(M.o _ a _ f).mono ?_;clear M;rintro e w3 ⟨v3,rfl,T,U⟩;obtain⟨aa,ak,ae,am,ad,aj,ah,an,rfl⟩:=Jp.form T;have f:=f.below U;have a:=Bt a U;obtain⟨k,m,o,s⟩:=(I.below a).cq;obtain⟨l,j,g,x⟩:=(K.below a).cq;obtain⟨r,n,y,t⟩:=(d.below a).cq;obtain⟨S,R,Q,P⟩:=(d.below a).fq))
 all_goals go_wp2_with fail
 have Qt:=Bt c.o.2.2 a;have Qs:=c.o.ge 2 J;exact BB (v:=B #[C aa ak ae,D am,C ad aj ah,D an]) (by simp[results,results32,go_sem,r,n,y,t]) J ⟨_,J,T.put4 (d.below a) J J J J _ _ _ _,Jj Qt Qs _ _ _ _⟩
def Nq(g:H)(q:Rat)(w:F)(b:Jp w g q):
 Calls G 36 #[g] w λe o=>e=.returned (.int .i64 q.num.sign)/\Bl w o:=by
 obtain⟨n,c⟩:=ex (q.num.sign);rw[c];have j:=Z c;clear c;obtain⟨r,L,u,P,t,I,v,R,rfl⟩:=Jp.form b;obtain⟨W0,d,f⟩:=DW 34 (.ref q) b;clear b;go_enter func36,ntmps36
 go_upto_region 1 with fail
 rw[d.o];clear d;obtain⟨p,K,c1,N,s,A,d1,Q,m,M,l,z⟩:=f.o.ref (i:=0) J;obtain⟨x,y⟩:=m.cp;have a:=Z (Iu _ q.num W0 l);rw[j.o]at a;go_wp2_with(go_at_call 23;refine a.o.mono ?_;clear a;rintro e S ⟨rfl,k⟩)
 go_ret;exact⟨J,Bt f.o.2.2 k⟩
def Y2(n:Int)(r:-9223372036854775808<=n)(s:n<=9223372036854775807)(w:F):
 Calls G 45 #[.int .i64 n] w λe L=>∃u,e=.returned u/\Jp L u (n:Rat)/\Bl w L:=by
 have d:=Z λ(V:F)=>Dv n r s V;clear r s;obtain⟨W0,f,c⟩:=DW 34 (.zref) J;go_enter func45,ntmps45
 go_upto_region 1 with fail
 rw[f.o];clear f;have a:=c.o.zref (i:=0) J;obtain⟨l,g,j,k⟩:=a.cq;obtain⟨N,P,R,Q⟩:=a.fq;go_wp2_with(first
  |(go_at_call 46;refine(d.o _).mono ?_;clear d;rintro e X ⟨u1,rfl,x,T⟩;obtain⟨m,z,p,I,rfl⟩:=Jk.form2 x)
  |(go_at_call 46;refine(Dv 1 Y Y _).mono ?_;rintro e W ⟨u2,rfl,y,t⟩;obtain⟨o,A,q,K,rfl⟩:=Jk.form2 y;have b:=Bt T t;obtain⟨l,g,j,k⟩:=(a.below b).cq;obtain⟨N,P,R,Q⟩:=(a.below b).fq))
 have U:Jp W (B #[C m z p,D I,C o A q,D K]) (n:Rat):=Jp.mk (x.below t) y;have S:=Bt c.o.2.2 b;have M:=c.o.ge 0 J;exact BB (v:=B #[C m z p,D I,C o A q,D K]) (by simp[results,results45,go_sem,l,g,j,k]) J ⟨_,J,U.put4 (a.below b) J J J J _ _ _ _,Jj S M _ _ _ _⟩

