import Derived.Test.YtcahodpphikgnaaGreatDoorT30
import Derived.Test.YtcahodpphikgnaaGreatDoorT27
set_option linter.all false
open Go.Value renaming slice->C,bool->D,agg->B
open Go.Obj renaming cells->E
open Go renaming World->F
set_option maxRecDepth 99999
set_option maxHeartbeats 0
namespace Go.Proofs.YtcahodpphikgnaaGreatDoor
open Proofs.Tryz
open Go.RowKit Go.Shelf
attribute [local go_sem] Oper.semAt_some
section
def Hq(W:F):Value->Nat
 |C (some p) l _=>val 10000 ((List.range l).map λj=>Dd W ⟨p.block,p.off+j,none⟩)
 |_=>0
variable{c l n:Nat}{a:Nj}{W:F}
def RN.rowVal(h:RN W (C a l c) n):Hq W (C a l c)=n:=by
 obtain⟨f,_,_,_,g⟩:=Jk h;rcases Ag l with d|d
 . subst d;have o:n=0:=(Jq Y).1 (Ad f.symm);subst o;cases a<;>rfl
 . obtain⟨b,i,rfl,_,_⟩:=g 0 d;show val 10000 ((List.range l).map λj=>Dd W ⟨b,i+j,none⟩)=n;have e:(List.range l).map (λj=>Dd W ⟨b,i+j,none⟩)=Jb 10000 n:=by
    refine List.ext_getElem (by rw[List.length_map,List.length_range];exact f) λj q k=>?_;obtain⟨p,r,e,_,m⟩:=g j Y;cases e;rw[List.getElem_map,List.getElem_range,Dd,m,Aj k];rfl
   rw[e,Je Y]
def Hr{m:Nat}(h:n<=m):(Jb 10000 n).length<=(Jb 10000 m).length:=by
 rcases At (Jb 10000 m).length (Jb 10000 n).length with a|a
 . have:=J1 Y a;omega
 . exact a
def NA(q vb:Value)(x y:Int)(w:F)(ha:Jh w q x)(hb:Jh w vb y)(W:C7 x<=100000000000)(aa:C7 y<=100000000000):
 Calls Tryz.prog 61 #[q,vb] w λe w'=>∃u,e=.returned u/\Jh w' u (Int.gcd x y:Nat)/\Bl w w':=by
 obtain⟨a,k,n,rfl,G⟩:=ha;obtain⟨b,lb,o,rfl,H⟩:=hb;obtain⟨s,hs⟩:=ex (decide (x<0));obtain⟨t,ht⟩:=ex (decide (y<0));rw[hs,ht];clear hs ht;obtain⟨W0,i⟩:=ex (((w.alloc (E #[C a k n,D s] 32)).alloc (E #[C b lb o,D t] 32)).alloc (E #[C none 0 0,D false] 32));have r:Bl w W0:=by rw[<-i];exact YT w _ _ _
 have b0:Jd W0 w.heap.size 32 (C a k n) (D s):=by rw[<-i];exact((Jd.new w _ _ _).alloc _).alloc _
 have b1:Jd W0 (w.heap.size+1) 32 (C b lb o) (D t):=by
  have h:=(Jd.new (w.alloc (E #[C a k n,D s] 32)) 32 (C b lb o) (D t)).alloc (E #[C none 0 0,D false] 32);rw[BA,i]at h;exact h
 have bR:Jd W0 (w.heap.size+1+1) 32 (C none 0 0) (D false):=by
  have h:=Jd.new ((w.alloc (E #[C a k n,D s] 32)).alloc (E #[C b lb o,D t] 32)) 32 (C none 0 0) (D false);rw[BA,BA,i]at h;exact h
 have r0:=RN.below G r;have r1:=RN.below H r;have k0:=b0.c0;have k2:=b1.c0;have N:k<=100000000000:=by rw[RN.len G];exact W
 have Q:lb<=100000000000:=by rw[RN.len H];exact aa
 have M:=Z i;clear i G H W aa;go_enter func61,ntmps61
 go_upto_region 1 with fail
 rw[M.o];clear M;go_wp2_with fail
 go_loopw [5,6] (λxv I wr=>∃(f:Nj) (d c0 X:Nat) (m:Nj) (g c1 c:Nat),xv=C f d c0/\I=C m g c1/\Hid (RN wr (C f d c0) X)/\Hid (RN wr (C m g c1) c)/\Hid (Nat.gcd X c=Int.gcd x y)/\(d<=100000000000/\g<=100000000000)/\Bl W0 wr)
  (λ_ I wr=>Hq wr I)
 case atStart=>exact⟨a,k,n,x.natAbs,b,lb,o,y.natAbs,J,J,Z r0,Z r1,Z J,⟨N,Q⟩,BC _ W0⟩
 case round=>
  clear r0 r1 N Q;obtain⟨f,d,c0,X,m,g,c1,c,rfl,rfl,T,j,S,⟨ad,V⟩,z⟩:=hrel;rcases Ag g with R|R
  . subst R;have P:c=0:=(Jq Y).1 (Ad (RN.len j.o).symm);have HE:=Z (show X=Int.gcd x y by rw[<-S.o,P,Nat.gcd_zero_right]);have l:=bR.below z;obtain⟨q0,q1⟩:=l.cp;obtain⟨f0,f1⟩:=l.fp;clear P;go_wp2_with fail
    have K:=(Dl T.o).box l J J (x0:=C f d c0) (x1:=D false);rw[HE.o]at K;have Qj:=Bt r z;have z0:=((l.set0 (C f d c0)).set1 (D false)).c0;have z1:=((l.set0 (C f d c0)).set1 (D false)).c1;exact BB (by simp[results,results61,go_sem,z0,z1]) J ⟨_,J,K,(Qj.setCell (p:=⟨_,0,none⟩) so _).setCell (p:=⟨_,1,none⟩) so _⟩
  . have Qi:c≠0:=λe=>by
     have h:=RN.len j.o;rw[e,Jn]at h;simp at h;omega
    have Qk:=Z (Hp f d c0 m g c1 X c wr T.o j.o Qi ad V);have L:=Au X (show c>0 by omega);go_wp2_with(go_at_call 92;refine Qk.o.mono ?_;rintro e w2 ⟨u,v,rfl,hu,A,U⟩;obtain⟨ua,uc,rfl⟩:=RN.form hu;obtain⟨q,vc,rfl⟩:=RN.form A)
    have Ql:=RN.below j.o U;refine⟨⟨m,g,c1,c,q,_,vc,X%c,J,J,Z Ql,Z A,Z (by rw[<-S.o,CB c,<-Nat.gcd_rec,CB]),⟨V,?_⟩,Bt z U⟩,?_⟩
    . have h1:=Hr (CZ L);rw[<-RN.len j.o]at h1;omega
    . rw[RN.rowVal A,RN.rowVal j.o];exact L
def NB(w:F)(a b c d:Value)(p0 p1:Value):
 Jd ((((w.alloc (E #[a,b] 32)).alloc (E #[c,d] 32)).alloc (E #[p0,p1] 32)).alloc (E #[p0,p1] 32)) w.heap.size 32 a b/\
 Jd ((((w.alloc (E #[a,b] 32)).alloc (E #[c,d] 32)).alloc (E #[p0,p1] 32)).alloc (E #[p0,p1] 32)) (w.heap.size+1) 32 c d/\
 Jd ((((w.alloc (E #[a,b] 32)).alloc (E #[c,d] 32)).alloc (E #[p0,p1] 32)).alloc (E #[p0,p1] 32)) (w.heap.size+1+1) 32 p0 p1/\
 Jd ((((w.alloc (E #[a,b] 32)).alloc (E #[c,d] 32)).alloc (E #[p0,p1] 32)).alloc (E #[p0,p1] 32)) (w.heap.size+1+1+1) 32 p0 p1:=by
 refine⟨(((Jd.new w _ _ _).alloc _).alloc _).alloc _,?_,?_,?_⟩
 . have h:=((Jd.new (w.alloc (E #[a,b] 32)) 32 c d).alloc (E #[p0,p1] 32)).alloc (E #[p0,p1] 32);rw[BA]at h;exact h
 . have h:=(Jd.new ((w.alloc (E #[a,b] 32)).alloc (E #[c,d] 32)) 32 p0 p1).alloc (E #[p0,p1] 32);rw[BA,BA]at h;exact h
 . have h:=Jd.new (((w.alloc (E #[a,b] 32)).alloc (E #[c,d] 32)).alloc (E #[p0,p1] 32)) 32 p0 p1;rw[BA,BA,BA]at h;exact h
def NC(h:RN W (C a l c) n)(m:Bool):Jh W (B #[C a l c,D (m&&decide (0<l))]) (if m=true then -(n:Int)else(n:Int)):=by
 have hl:=RN.len h;have f:0<l↔n≠0:=by
  rw[hl];constructor
  . intro b g;rw[g,Jn]at b;simp at b
  . intro b;exact CD.2 λe=>b ((Jq Y).1 e)
 cases m with
 |false=>
  refine⟨a,l,c,?_,by simp;exact h⟩
  have:decide ((n:Int)<0)=false:=BE Y
  simp[this]
 |true=>
  refine⟨a,l,c,?_,by simp;exact h⟩;simp only[Bool.true_and,if_true]
  have:decide (0<l)=decide (-(n:Int)<0):=by
   by_cases d:n=0
   . rw[BE λb=>f.1 b d,BE Y]
   . rw[BF (f.2 d),BF Y]
  rw[this]
def ND(a:Nj)(la ca:Nat)(b:Nj)(lb W X d:Nat)(s t:Bool)(z r:Int)(w:F)(hu:RN w (C a la ca) X)(hv:RN w (C b lb W) d)(hY:d≠0)(bc:la<=100000000000)(bd:lb<=100000000000)
(HP:Hid (¬(s=true/\X%d≠0)->(if(!(s==t))=true then -((X/d:Nat):Int)else((X/d:Nat):Int))=z/\((X%d:Nat):Int)=r))
(HN:Hid (s=true/\X%d≠0->(if(!(s==t))=true then -((X/d+1:Nat):Int)else((X/d+1:Nat):Int))=z/\((d-X%d:Nat):Int)=r)):
 Calls Tryz.prog 55 #[B #[C a la ca,D s],B #[C b lb W,D t]] w λe k=>∃q o,e=.returned (.tuple #[q,o])/\Jh k q z/\Jh k o r/\Bl w k:=by
 obtain⟨b0,b1,b4,b5⟩:=NB w (C a la ca) (D s) (C b lb W) (D t) (C none 0 0) (D false);have Qo:=Ha w (E #[C a la ca,D s] 32) (E #[C b lb W,D t] 32) (E #[C none 0 0,D false] 32) (E #[C none 0 0,D false] 32);obtain⟨W0,ai⟩:=ex ((((w.alloc (E #[C a la ca,D s] 32)).alloc (E #[C b lb W,D t] 32)).alloc (E #[C none 0 0,D false] 32)).alloc (E #[C none 0 0,D false] 32));rw[ai]at b0 b1 b4 b5 Qo;have Uj:=Z ai;have Uf:=RN.below hu Qo;have Qw:=RN.below hv Qo;have Uk:=Z (Hp a la ca b lb W X d W0 Uf Qw hY bc bd);have Ug:=Z Qw;have Ul:=Z (RN.len hu).symm;obtain⟨k0,k1⟩:=b0.cp;obtain⟨f,k3⟩:=b1.cp;clear ai hu hv Uf Qw;go_enter func55,ntmps55
 go_upto_region 1 with fail
 rw[Uj.o];go_upto_region 2 with(go_at_call 92;refine Uk.o.mono ?_;rintro e w1 ⟨u1,v1,rfl,an,ap,ah⟩;obtain⟨A,G,rfl⟩:=RN.form an;obtain⟨va,vc,rfl⟩:=RN.form ap)
 obtain⟨lr,am⟩:=ex ((Jb 10000 (X%d)).length);obtain⟨lq,ak⟩:=ex ((Jb 10000 (X/d)).length);have Ue:=Z (show lr=0↔X%d=0 by
  rw[<-am];exact⟨λh=>(Jq Y).1 (Ad h),λh=>by rw[h,Jn];rfl⟩)
 rw[am]at ap ⊢;rw[ak]at an ⊢;have bg:lq<=100000000000:=by
  have M:=Hr (m:=X) (n:=X/d) (Cr _ _);have h2:=Ul.o;omega
 have Ub:=Z ak.symm;clear am ak;obtain⟨k0,k1⟩:=(b0.below ah).cp;obtain⟨f,k3⟩:=(b1.below ah).cp;have Qv:=Z (Df A lq G (!(s==t)) w1);go_upto_region 3 with(go_at_call 93;refine Qv.o.mono ?_;rintro e w2 ⟨rfl,aj⟩)
 obtain⟨K,az⟩:=ex (((!(s==t))&&decide (0<lq)):Bool);have hI:=NC (RN.below an aj) (!(s==t));rw[az]at hI ⊢;obtain⟨W3,ag⟩:=ex (w2.alloc (E #[C A lq G,D K] 32));have Qi:Bl w2 W3:=by rw[<-ag];exact Ba w2 _
 have b8:Jd W3 w2.heap.size 32 (C A lq G) (D K):=by rw[<-ag];exact Jd.new w2 _ _ _
 have Qq:Bl w1 W3:=Bt aj Qi;have Qf:Bl W0 W3:=Bt ah Qq;have Qu:=hI.below Qi;have Qy:=RN.below ap Qq;have Qg:=Bt Qo Qf;obtain⟨B8,aq⟩:=ex (w2.heap.size);have bf:w.heap.size+1+1+1<B8:=by
  have M:=(b5.below (Bt ah aj)).lt;omega
 rw[ag];rw[aq]at b8 ⊢;clear ag aq az hI;have p0:=b0.below Qf;have p1:=b1.below Qf;have x:=b4.below Qf;have y:=b5.below Qf;clear b0 b1 b4 b5 k0 k1 f k3;obtain⟨k0,k1⟩:=p0.cp;obtain⟨f,k3⟩:=p1.cp;obtain⟨i,j⟩:=b8.cp;obtain⟨q0,q1⟩:=x.cp;obtain⟨q2,q3⟩:=y.cp;obtain⟨f0,f1⟩:=x.fp;obtain⟨f2,f3⟩:=y.fp;obtain⟨cd,ay⟩:=ex ((!s || decide (lr=0)):Bool);have Qh:=Z ay;clear ay;go_cut [31] λv w4=>v=D cd/\w4=W3
 case first=>
  cases s with
  |false=>
   have e5:cd=true:=by rw[<-Qh.o];rfl
   go_wp2_with fail
   go_meet
   case rel=>exact⟨by rw[e5],J⟩
  |true=>
   by_cases l:lr=0
   . have e5:cd=true:=by rw[<-Qh.o];simp;omega
     have N:((lr:Int)==0)=true:=by simp;omega
     clear l;go_wp2_with fail
     go_meet
     case rel=>exact⟨by rw[e5],J⟩
   . have e5:cd=false:=by rw[<-Qh.o];simp;omega
     have N:((lr:Int)==0)=false:=by simp;omega
     clear l;go_wp2_with fail
     go_meet
     case rel=>exact⟨by rw[e5],J⟩
 case rest=>
  obtain⟨rfl,rfl⟩:=hcut;cases cd with
  |true=>
   have hc:¬(s=true/\X%d≠0):=λ⟨M,h2⟩=>by
    have h:=Qh.o;rw[M]at h;simp at h;exact h2 (Ue.o.1 h)
   obtain⟨z1,z2⟩:=HP.o hc;rw[z1]at Qu;have Qv:=Z (Df va lr vc s);have Qz:(s&&decide (0<lr))=false:=by
    have h:=Qh.o;cases s with
    |false=>rfl
    |true=>simp at h;simp;omega
   rw[Qz]at Qv;have Qt:=Z z2;clear Qz z1 z2 hc;go_wp2_with fail
   go_region_with (first
    |(go_at_call 93;refine(Qv.o _).mono ?_;rintro e w5 ⟨rfl,I⟩;have i:=((b8.drew).below I).c0;have j:=((b8.drew).below I).c1;have q0:=((x.drew).below I).c0;have q1:=((x.drew).below I).c1;have q2:=((y.drew).below I).c0;have q3:=((y.drew).below I).c1;have f0:=((x.drew).below I).f0;have f1:=((x.drew).below I).f1;have f2:=((y.drew).below I).f0;have f3:=((y.drew).below I).f1))
   all_goals
    go_wp2_with fail
    have Qj:Bl wc w5:=((BC _ wc).drew).trans (I.mono (Aa _));have H:=x.below Qj;have S:=y.below Qj;obtain⟨z4,z5⟩:=Ee (C A lq G) (D K) (C va lr vc) (D false) H S;obtain⟨Qr,Qp⟩:=z4.cp;obtain⟨Qk,Qn⟩:=z5.cp;have T:Jd ((w5.setCell ⟨w.heap.size+1+1,0,none⟩ (C A lq G)).setCell ⟨w.heap.size+1+1,1,none⟩ (D K)) (w.heap.size+1+1+1) 32 (C none 0 0) (D false):=(S.far Br _).far Br _;have R:=(Dl Qy).below Qj;rw[Qt.o]at R;have Ql:=((Qu.below Qj).box H J J (x0:=C A lq G) (x1:=D K)).box T J J (x0:=C va lr vc) (x1:=D false);have Qm:=(R.box H J J (x0:=C A lq G) (x1:=D K)).box T J J (x0:=C va lr vc) (x1:=D false);have Qs:=Bt Qg Qj;exact BB (by simp[results,results55,go_sem,Qr,Qp,Qk,Qn]) J ⟨_,_,J,Ql,Qm,(((Qs.setCell (p:=⟨_,0,none⟩) so _).setCell (p:=⟨_,1,none⟩) so _).setCell (p:=⟨_,0,none⟩) so _).setCell (p:=⟨_,1,none⟩) so _⟩
  |false=>
   have hc:s=true/\X%d≠0:=by
    have h:=Qh.o;simp at h;exact⟨h.1,λe=>h.2 (Ue.o.2 e)⟩
   obtain⟨z1,z2⟩:=HN.o hc;rw[hc.1]at z1;have Ud:Jh wc (B #[C A lq G,D K]) (if(!(true==t))=true then -((X/d:Nat):Int)else((X/d:Nat):Int)):=by have h:=Qu;rw[hc.1]at h;exact h
   obtain⟨Ua,Uh,Qt⟩:=DF Ud z1 z2;have bh:=Au X (show d>0 by omega);obtain⟨Uc,Ui,U⟩:=DF (DX 1 Y Y) (λ(V:F) (h:Bl wc V)=>EC _ _ d (X%d) V (RN.below (RN.below Ug.o Qf) h) (RN.below Qy h) Y (by rw[<-RN.len Ug.o];omega)) λ(V:F) (h:Bl wc V)=>Cy (Cy (b8.below h).c0 (Cy (b8.below h).c1 (p1.below h).c0)) (Cy (Cy (x.below h).c0 (Cy (x.below h).c1 (Cy (y.below h).c0 (y.below h).c1))) (Cy (x.below h).f0 (Cy (x.below h).f1 (Cy (y.below h).f0 (y.below h).f1))));have n3:¬w.heap.size+1+1=B8:=Y
   have n4:¬w.heap.size+1+1+1=B8:=Y
   have n5:¬w.heap.size+1+1=w.heap.size:=Y
   clear hc Ud z1 z2 Qu;cases t with
   |true=>
    have Qx:=Z (show ∀(V:F) (u:Value),Bl wc V->Jh V u 1->Calls Tryz.prog 66 #[B #[C A lq G,D K],u] V λe k=>∃u,e=.returned u/\Jh k u z/\Bl V k from λV u h hu=>by
     have hx:=Ua.o.below h;simp only[beq_self_eq_true,Bool.not_true,Co,if_false]at hx;have M:=F4 _ u _ 1 V hx hu (by unfold C7;rw[AW,<-Ub.o];omega) (EY Y Y);have h2:=Uh.o;simp only[beq_self_eq_true,Bool.not_true,Co,if_false]at h2;rw[show((X/d:Nat):Int)+1=z from by rw[<-h2];push_cast;rfl]at M;exact M)
    go_upto_region 6 with fail
    have c:Bl wc wc.drew:=(BC _ wc).drew;clear i j f q0 q1 q2 q3 f0 f1 f2 f3;obtain⟨⟨i,j,f⟩,⟨q0,q1,q2,q3⟩,f0,f1,f2,f3⟩:=U.o _ c;go_region_held3 (λk=>k.cell? ⟨B8,0,none⟩=some (C A lq G)/\k.cell? ⟨B8,1,none⟩=some (D K)/\k.cell? ⟨w.heap.size+1,0,none⟩=some (C b lb W)) (first|(with_reducible exact⟨i,j,f⟩)|(go_keep;done))
     (first
      |(go_at_call 46;refine(Uc.o _).mono ?_;rintro e w5 ⟨u5,rfl,ae,g⟩;replace c:=Bt c g;clear g i j f q0 q1 q2 q3 f0 f1 f2 f3;obtain⟨⟨i,j,f⟩,⟨q0,q1,q2,q3⟩,f0,f1,f2,f3⟩:=U.o _ c)
      |(go_at_call 66;refine(Qx.o _ _ c ae).mono ?_;clear ae;rintro e w6 ⟨u6,rfl,l,g⟩;obtain⟨L,P,c5,rfl⟩:=l.form;obtain⟨Q,ad⟩:=ex (decide (z<0));rw[ad]at l;rw[ad];clear ad;replace c:=Bt c g;clear g i j f q0 q1 q2 q3 f0 f1 f2 f3;obtain⟨⟨i,j,f⟩,⟨q0,q1,q2,q3⟩,f0,f1,f2,f3⟩:=U.o _ c)
      |(go_at_call 94;refine(Ui.o _ c).mono ?_;rintro e V0 ⟨u7,rfl,N,g⟩;obtain⟨a6,c6,rfl⟩:=RN.form N;obtain⟨l6,aa⟩:=ex ((Jb 10000 (d-X%d)).length);rw[aa]at N;rw[aa];clear aa;replace l:=l.below g;replace c:=Bt c g;clear g i j f q0 q1 q2 q3 f0 f1 f2 f3;obtain⟨⟨i,j,f⟩,⟨q0,q1,q2,q3⟩,f0,f1,f2,f3⟩:=U.o _ c))
    go_wp2_with fail
    have H:=x.below c;have S:=y.below c;obtain⟨z4,z5⟩:=Ee (C L P c5) (D Q) (C a6 l6 c6) (D false) H S;obtain⟨Qr,Qp⟩:=z4.cp;obtain⟨Qk,Qn⟩:=z5.cp;have T:Jd ((V0.setCell ⟨w.heap.size+1+1,0,none⟩ (C L P c5)).setCell ⟨w.heap.size+1+1,1,none⟩ (D Q)) (w.heap.size+1+1+1) 32 (C none 0 0) (D false):=(S.far Br _).far Br _;have R:=Dl N;rw[Qt.o]at R;have Ql:=(l.box H J J (x0:=C L P c5) (x1:=D Q)).box T J J (x0:=C a6 l6 c6) (x1:=D false);have Qm:=(R.box H J J (x0:=C L P c5) (x1:=D Q)).box T J J (x0:=C a6 l6 c6) (x1:=D false);have Qs:=Bt Qg c;exact BB (by simp[results,results55,go_sem,Qr,Qp,Qk,Qn]) J ⟨_,_,J,Ql,Qm,(((Qs.setCell (p:=⟨_,0,none⟩) so _).setCell (p:=⟨_,1,none⟩) so _).setCell (p:=⟨_,0,none⟩) so _).setCell (p:=⟨_,1,none⟩) so _⟩
   |false=>
    have Qx:=Z (show ∀(V:F) (u:Value),Bl wc V->Jh V u 1->Calls Tryz.prog 95 #[B #[C A lq G,D K],u] V λe k=>∃u,e=.returned u/\Jh k u z/\Bl V k from λV u h hu=>by
     have hx:=Ua.o.below h;rw[BT (by rfl)]at hx;have M:=Lb _ u _ 1 V hx hu (by unfold C7;rw[CO,AW,<-Ub.o];omega) (EY Y Y);have h2:=Uh.o;rw[BT (by rfl)]at h2;rw[show -((X/d:Nat):Int)-1=z from by rw[<-h2];push_cast;omega]at M;exact M)
    go_upto_region 7 with fail
    have c:Bl wc wc.drew:=(BC _ wc).drew;clear i j f q0 q1 q2 q3 f0 f1 f2 f3;obtain⟨⟨i,j,f⟩,⟨q0,q1,q2,q3⟩,f0,f1,f2,f3⟩:=U.o _ c;go_region_held3 (λk=>k.cell? ⟨B8,0,none⟩=some (C A lq G)/\k.cell? ⟨B8,1,none⟩=some (D K)/\k.cell? ⟨w.heap.size+1,0,none⟩=some (C b lb W)) (first|(with_reducible exact⟨i,j,f⟩)|(go_keep;done))
     (first
      |(go_at_call 46;refine(Uc.o _).mono ?_;rintro e w5 ⟨u5,rfl,ae,g⟩;replace c:=Bt c g;clear g i j f q0 q1 q2 q3 f0 f1 f2 f3;obtain⟨⟨i,j,f⟩,⟨q0,q1,q2,q3⟩,f0,f1,f2,f3⟩:=U.o _ c)
      |(go_at_call 95;refine(Qx.o _ _ c ae).mono ?_;clear ae;rintro e w6 ⟨u6,rfl,l,g⟩;obtain⟨L,P,c5,rfl⟩:=l.form;obtain⟨Q,ad⟩:=ex (decide (z<0));rw[ad]at l;rw[ad];clear ad;replace c:=Bt c g;clear g i j f q0 q1 q2 q3 f0 f1 f2 f3;obtain⟨⟨i,j,f⟩,⟨q0,q1,q2,q3⟩,f0,f1,f2,f3⟩:=U.o _ c)
      |(go_at_call 94;refine(Ui.o _ c).mono ?_;rintro e V0 ⟨u7,rfl,N,g⟩;obtain⟨a6,c6,rfl⟩:=RN.form N;obtain⟨l6,aa⟩:=ex ((Jb 10000 (d-X%d)).length);rw[aa]at N;rw[aa];clear aa;replace l:=l.below g;replace c:=Bt c g;clear g i j f q0 q1 q2 q3 f0 f1 f2 f3;obtain⟨⟨i,j,f⟩,⟨q0,q1,q2,q3⟩,f0,f1,f2,f3⟩:=U.o _ c))
    go_wp2_with fail
    have H:=x.below c;have S:=y.below c;obtain⟨z4,z5⟩:=Ee (C L P c5) (D Q) (C a6 l6 c6) (D false) H S;obtain⟨Qr,Qp⟩:=z4.cp;obtain⟨Qk,Qn⟩:=z5.cp;have T:Jd ((V0.setCell ⟨w.heap.size+1+1,0,none⟩ (C L P c5)).setCell ⟨w.heap.size+1+1,1,none⟩ (D Q)) (w.heap.size+1+1+1) 32 (C none 0 0) (D false):=(S.far Br _).far Br _;have R:=Dl N;rw[Qt.o]at R;have Ql:=(l.box H J J (x0:=C L P c5) (x1:=D Q)).box T J J (x0:=C a6 l6 c6) (x1:=D false);have Qm:=(R.box H J J (x0:=C L P c5) (x1:=D Q)).box T J J (x0:=C a6 l6 c6) (x1:=D false);have Qs:=Bt Qg c;exact BB (by simp[results,results55,go_sem,Qr,Qp,Qk,Qn]) J ⟨_,_,J,Ql,Qm,(((Qs.setCell (p:=⟨_,0,none⟩) so _).setCell (p:=⟨_,1,none⟩) so _).setCell (p:=⟨_,0,none⟩) so _).setCell (p:=⟨_,1,none⟩) so _⟩
def XU(j k:Value)(x y:Int)(w:F)(n:Jh w j x)(p:Jh w k y)(i:y≠0)(r:C7 x<=100000000000)(s:C7 y<=100000000000):
 Calls Tryz.prog 55 #[j,k] w λe d=>∃q o,e=.returned (.tuple #[q,o])/\Jh d q (x/y)/\Jh d o (x%y)/\Bl w d:=by
 obtain⟨a,t,l,rfl,f⟩:=n;obtain⟨b,lb,m,rfl,g⟩:=p;refine ND a t l b lb m x.natAbs y.natAbs _ _ (x/y) (x%y) w f g Y (by rw[RN.len f];exact r) (by rw[RN.len g];exact s) (λc=>Hc i λh=>c ⟨BF h.1,h.2⟩) λc=>X9 i ⟨BZ c.1,c.2⟩
def NE(r:Value)(x:Int)(w:F)(t:Jh w r x):
 Calls Tryz.prog 23 #[r] w λe u=>e=.returned (.int .i64 x.sign)/\Bl w u:=by
 obtain⟨a,b,l,rfl,j⟩:=t;have k:=RN.len j;have v:=(Jk j).2.2.2.1;have g:Bl w (w.alloc (E #[C a b l,D (decide (x<0))] 32)):=Ba w _;have b0:=Jd.new w 32 (C a b l) (D (decide (x<0)));have n:b=0↔x=0:=by
  rw[k];constructor
  . intro h;have:=(Jq (B:=10000) Y).1 (Ad h);omega
  . intro h;rw[h,Int.natAbs_zero,Jn];rfl
 have o:=Z n;obtain⟨W0,i⟩:=ex (w.alloc (E #[C a b l,D (decide (x<0))] 32));rw[i]at g b0;have d:=Z i;obtain⟨y,q⟩:=b0.cp;by_cases m:x<0
 . have f:decide (x<0)=true:=BF m;rw[f]at d q ⊢;have c:=Z (Int.sign_eq_neg_one_of_neg m);clear k n i j f b0;go_enter func23,ntmps23
   go_upto_region 1 with fail
   rw[d.o];go_wp2_with fail
   go_ret;exact⟨by rw[c.o];rfl,g⟩
 . have f:decide (x<0)=false:=BE m;rw[f]at d q ⊢;clear k n i j f b0;rcases Ag b with p|p
   . subst p;have c:=Z (show x.sign=0 by rw[o.o.1 J];rfl);go_enter func23,ntmps23
     go_upto_region 1 with fail
     rw[d.o];go_wp2_with fail
     go_ret;refine⟨?_,g⟩;rw[c.o];first|rfl|(simp;done)
   . have c:=Z (show x.sign=1 from Int.sign_eq_one_of_pos (by
      have:=o.o;rcases CL x 0 with h|h|h
      . omega
      . have:=this.2 h;omega
      . exact h))
     have s:min (1:Int) (b:Int)=1:=Y
     go_enter func23,ntmps23
     go_upto_region 1 with fail
     rw[d.o];go_wp2_with fail
     go_ret;refine⟨?_,g⟩;rw[c.o];first|rfl|(simp[s];done)
end
open M3
variable{s:Bool}{c l:Nat}{a:Nj}{W:F}
def Fk{x y:Int}(a:y≠0):(0:Int)<(Int.gcd x y:Nat):=by
 have:=Int.gcd_pos_of_ne_zero_right x a;omega
def Jy.mk{t:Bool}{b:Nj}{k d:Nat}{q:Rat}(e:Jh W (B #[C a l c,D s]) q.num)(f:Jh W (B #[C b k d,D t]) (q.den:Int)):Jy W (B #[C a l c,D s,C b k d,D t]) q:=⟨_,_,_,_,_,_,_,_,J,e,f⟩
def Jh.sign{z:Int}(h:Jh W (B #[C a l c,D s]) z):s=decide (z<0):=by
 obtain⟨b,d,c',e,_⟩:=h;cases e;rfl
def Ht(va vb:Value)(x y:Int)(w:F)(ha:Jh w va x)(f:Jh w vb y)(hy:y≠0)(bp:Sok x)(bt:Sok y):
 Calls Tryz.prog 24 #[va,vb] w λe w'=>∃u,e=.returned u/\Jy w' u (Rat.divInt x y)/\Bl w w':=by
 obtain⟨fh,ib,ft,io,rfl⟩:=Jh.form2 ha;obtain⟨fi,ic,fu,ip,rfl⟩:=Jh.form2 f;obtain⟨W0,an,M1⟩:=Gn 32 (.big x) ha 32 (.big y) f 34 (.zref) J;obtain⟨r,Qa,Qb⟩:=DF hy bp bt;clear ha f hy bp bt;go_enter func24,ntmps24
 go_upto_region 1 with fail
 rw[an.o];clear an;obtain⟨a1,l1,c1,s1,n1,i1⟩:=M1.o.big (i:=0) J;obtain⟨Uh,Uj⟩:=n1.cp;obtain⟨a2,l2,c2,s2,n2,i2⟩:=M1.o.big (i:=1) J;obtain⟨Ui,Uf⟩:=n2.cp;go_upto_region 2 with(go_at_call 61;refine(NA _ _ x y _ i1 i2 (by have:=Qa.o.size;omega) (by have:=Qb.o.size;omega)).mono ?_;rintro e w1 ⟨u,rfl,hu,f⟩;obtain⟨bf,cz,bm,eb,rfl⟩:=Jh.form2 hu)
 obtain⟨V3,b⟩:=ex (w1.alloc (E #[C bf cz bm,D eb] 32));obtain⟨g,c⟩:=ex (w1.heap.size);have a:Bu w (w1.alloc (E #[C bf cz bm,D eb] 32)) [some (w.heap.size,.big x),some (w.heap.size+1,.big y),some (w.heap.size+1+1,.zref),some (w1.heap.size,.big (((Int.gcd x y:Nat):Int)))]:=Bu.push (M1.o.below f) (.big (((Int.gcd x y:Nat):Int))) hu;rw[b,c]at a;rw[b];rw[c];have p:Hid (Bu w V3 [some (w.heap.size,.big x),some (w.heap.size+1,.big y),some (w.heap.size+1+1,.zref),some (g,.big (((Int.gcd x y:Nat):Int)))]):=Z (a);clear M1;clear a b c;clear n1 Uh Uj i1 n2 Ui Uf i2 hu f;have HG:=Z (Sok.gcd Qa.o Qb.o);by_cases s:y<0
 . have HL:=Z s;obtain⟨a4,l4,c4,s4,n4,i4⟩:=p.o.big (i:=1) J;have Ue:=n4.c1;have hs:=Jh.sign i4;rw[BF s]at hs;subst hs;clear s;go_upto_region 3 with fail
   clear n4 Ue i4;obtain⟨a5,l5,c5,s5,n5,i5⟩:=p.o.big (i:=3) J;obtain⟨Ub,Uc⟩:=n5.cp;go_upto_region 4 with(go_at_call 62;refine(F5 _ (((Int.gcd x y:Nat):Int)) _ i5).mono ?_;rintro e w6 ⟨u6,rfl,ah,ae⟩;obtain⟨bg,de,bn,ed,rfl⟩:=Jh.form2 ah;obtain⟨Ub,Uc⟩:=(n5.below ae).cp;obtain⟨Ul,Um⟩:=(n5.below ae).fp)
   obtain⟨V6,b⟩:=ex ((w6.setCell ⟨g,0,none⟩ (C bg de bn)).setCell ⟨g,1,none⟩ (D ed));have a:Bu w ((w6.setCell ⟨g,0,none⟩ (C bg de bn)).setCell ⟨g,1,none⟩ (D ed)) [some (w.heap.size,.big x),some (w.heap.size+1,.big y),some (w.heap.size+1+1,.zref),some (g,.big (-((Int.gcd x y:Nat):Int)))]:=Bu.putBig (p.o.below ae) (i:=3) J ah;rw[b]at a;rw[b];have q:Hid (Bu w V6 [some (w.heap.size,.big x),some (w.heap.size+1,.big y),some (w.heap.size+1+1,.zref),some (g,.big (-((Int.gcd x y:Nat):Int)))]):=Z (a);clear p;clear a b;clear n5 Ub Uc i5 ah ae Ul Um;obtain⟨G,t,A⟩:=DF (show(-((Int.gcd x y:Nat):Int))≠0 by have:=Fk (x:=x) r.o;omega) (show(-((Int.gcd x y:Nat):Int))=(if y<0 then -((Int.gcd x y:Nat):Int)else((Int.gcd x y:Nat):Int))by rw[BT HL.o]) HG.o.neg;obtain⟨a7,l7,c7,s7,n7,i7⟩:=q.o.big (i:=0) J;obtain⟨Ud,Un⟩:=n7.cp;obtain⟨a8,l8,c8,s8,n8,i8⟩:=q.o.big (i:=3) J;obtain⟨Ug,Uk⟩:=n8.cp;go_upto_region 5 with(go_at_call 55;refine(XU _ _ x ((-((Int.gcd x y:Nat):Int))) _ i7 i8 G.o (by have:=Qa.o.size;omega) (by have:=A.o.size;omega)).mono ?_;rintro e m ⟨u1,u2,rfl,j,k,f⟩;obtain⟨H,R,M,V,rfl⟩:=Jh.form2 j;obtain⟨I,S,N,W,rfl⟩:=Jh.form2 k)
   have a:=Bu.push (Bu.push (q.o.below f) (.big (x/(-((Int.gcd x y:Nat):Int)))) j) (.big (x%(-((Int.gcd x y:Nat):Int)))) (Has.alloc (d:=.big (x%(-((Int.gcd x y:Nat):Int)))) k _);simp only[BA]at a;have a:Bu w ((m.alloc (E #[C H R M,D V] 32)).alloc (E #[C I S N,D W] 32)) [some (w.heap.size,.big x),some (w.heap.size+1,.big y),some (w.heap.size+1+1,.zref),some (g,.big (-((Int.gcd x y:Nat):Int))),some (m.heap.size,.big (x/(-((Int.gcd x y:Nat):Int)))),some (m.heap.size+1,.big (x%(-((Int.gcd x y:Nat):Int))))]:=a;obtain⟨ei,b⟩:=ex ((m.alloc (E #[C H R M,D V] 32)).alloc (E #[C I S N,D W] 32));obtain⟨B9,c⟩:=ex (m.heap.size);rw[b,c]at a;rw[b];rw[c];obtain⟨B10,l⟩:=ex (B9+1);rw[l]at a ⊢;have o:Hid (Bu w ei [some (w.heap.size,.big x),some (w.heap.size+1,.big y),some (w.heap.size+1+1,.zref),some (g,.big (-((Int.gcd x y:Nat):Int))),some (B9,.big (x/(-((Int.gcd x y:Nat):Int)))),some (B10,.big (x%(-((Int.gcd x y:Nat):Int))))]):=Z (a);clear q;clear a b c l;clear n7 Ud Un i7 n8 Ug Uk i8 j k f;obtain⟨f8,gr,fj,ie,dg,bu⟩:=o.o.big (i:=1) J;obtain⟨Qr,Qk⟩:=dg.cp;obtain⟨f9,gt,fk,ig,dh,bz⟩:=o.o.big (i:=3) J;obtain⟨Ua,Qy⟩:=dh.cp;go_upto_region 6 with(go_at_call 55;refine(XU _ _ y ((-((Int.gcd x y:Nat):Int))) _ bu bz G.o (by have:=Qb.o.size;omega) (by have:=A.o.size;omega)).mono ?_;rintro e n ⟨u1,u2,rfl,j,k,f⟩;obtain⟨K,T,P,X,rfl⟩:=Jh.form2 j;obtain⟨L,U,Q,aa,rfl⟩:=Jh.form2 k)
   have a:=Bu.push (Bu.push (o.o.below f) (.big (y/(-((Int.gcd x y:Nat):Int)))) j) (.big (y%(-((Int.gcd x y:Nat):Int)))) (Has.alloc (d:=.big (y%(-((Int.gcd x y:Nat):Int)))) k _);simp only[BA]at a;have a:Bu w ((n.alloc (E #[C K T P,D X] 32)).alloc (E #[C L U Q,D aa] 32)) [some (w.heap.size,.big x),some (w.heap.size+1,.big y),some (w.heap.size+1+1,.zref),some (g,.big (-((Int.gcd x y:Nat):Int))),some (B9,.big (x/(-((Int.gcd x y:Nat):Int)))),some (B10,.big (x%(-((Int.gcd x y:Nat):Int)))),some (n.heap.size,.big (y/(-((Int.gcd x y:Nat):Int)))),some (n.heap.size+1,.big (y%(-((Int.gcd x y:Nat):Int))))]:=a;obtain⟨ap,b⟩:=ex ((n.alloc (E #[C K T P,D X] 32)).alloc (E #[C L U Q,D aa] 32));obtain⟨ak,c⟩:=ex (n.heap.size);rw[b,c]at a;rw[b];rw[c];obtain⟨ef,l⟩:=ex (ak+1);rw[l]at a ⊢;have z:Hid (Bu w ap [some (w.heap.size,.big x),some (w.heap.size+1,.big y),some (w.heap.size+1+1,.zref),some (g,.big (-((Int.gcd x y:Nat):Int))),some (B9,.big (x/(-((Int.gcd x y:Nat):Int)))),some (B10,.big (x%(-((Int.gcd x y:Nat):Int)))),some (ak,.big (y/(-((Int.gcd x y:Nat):Int)))),some (ef,.big (y%(-((Int.gcd x y:Nat):Int))))]):=Z (a);clear o;clear a b c l;clear dg Qr Qk bu dh Ua Qy bz j k f;obtain⟨ay,cn,bh,dx,f4,en⟩:=z.o.big (i:=4) J;obtain⟨fv,fw⟩:=f4.cp;obtain⟨az,co,bi,dz,f5,er⟩:=z.o.big (i:=6) J;obtain⟨fx,fy⟩:=f5.cp;have ai:=z.o.zref (i:=2) J;obtain⟨Qw,Qp,Qg,Qj⟩:=ai.cq;obtain⟨gi,gj,gk,gl⟩:=ai.fq;have hr:Jy ap (B #[C ay cn bh,D dx,C az co bi,D dz]) (Rat.divInt x y):=Jy.mk (by rw[YN r.o,<-t.o];exact en) (by rw[YO r.o,<-t.o];exact er);have Qf:=z.o.ge 2 J;have hB:=z.o.2.2;go_wp2_with fail
   exact BB (v:=B #[C ay cn bh,D dx,C az co bi,D dz]) (by simp[results,results24,go_sem,Qw,Qp,Qg,Qj]) J ⟨_,J,hr.put4 ai J J J J _ _ _ _,Jp hB Qf _ _ _ _⟩
 . have HL:=Z s;obtain⟨fc,gu,fl,ii,di,ce⟩:=p.o.big (i:=1) J;have Qu:=di.c1;have hs:=Jh.sign ce;rw[BE s]at hs;subst hs;clear s;go_upto_region 4 with fail
   clear di Qu ce;obtain⟨G,t,A⟩:=DF (show((Int.gcd x y:Nat):Int)≠0 by have:=Fk (x:=x) r.o;omega) (show((Int.gcd x y:Nat):Int)=(if y<0 then -((Int.gcd x y:Nat):Int)else((Int.gcd x y:Nat):Int))by rw[BR (by have:=HL.o;omega)]) HG.o;obtain⟨fd,gw,fm,ij,dj,cg⟩:=p.o.big (i:=0) J;obtain⟨Qh,Qz⟩:=dj.cp;obtain⟨fe,gy,fo,ik,dt,ci⟩:=p.o.big (i:=3) J;obtain⟨Qt,Qo⟩:=dt.cp;go_upto_region 5 with(go_at_call 55;refine(XU _ _ x (((Int.gcd x y:Nat):Int)) _ cg ci G.o (by have:=Qa.o.size;omega) (by have:=A.o.size;omega)).mono ?_;rintro e m ⟨u1,u2,rfl,j,k,f⟩;obtain⟨H,R,M,V,rfl⟩:=Jh.form2 j;obtain⟨I,S,N,W,rfl⟩:=Jh.form2 k)
   have a:=Bu.push (Bu.push (p.o.below f) (.big (x/((Int.gcd x y:Nat):Int))) j) (.big (x%((Int.gcd x y:Nat):Int))) (Has.alloc (d:=.big (x%((Int.gcd x y:Nat):Int))) k _);simp only[BA]at a;have a:Bu w ((m.alloc (E #[C H R M,D V] 32)).alloc (E #[C I S N,D W] 32)) [some (w.heap.size,.big x),some (w.heap.size+1,.big y),some (w.heap.size+1+1,.zref),some (g,.big (((Int.gcd x y:Nat):Int))),some (m.heap.size,.big (x/((Int.gcd x y:Nat):Int))),some (m.heap.size+1,.big (x%((Int.gcd x y:Nat):Int)))]:=a;obtain⟨ek,b⟩:=ex ((m.alloc (E #[C H R M,D V] 32)).alloc (E #[C I S N,D W] 32));obtain⟨ad,c⟩:=ex (m.heap.size);rw[b,c]at a;rw[b];rw[c];obtain⟨ag,l⟩:=ex (ad+1);rw[l]at a ⊢;have q:Hid (Bu w ek [some (w.heap.size,.big x),some (w.heap.size+1,.big y),some (w.heap.size+1+1,.zref),some (g,.big (((Int.gcd x y:Nat):Int))),some (ad,.big (x/((Int.gcd x y:Nat):Int))),some (ag,.big (x%((Int.gcd x y:Nat):Int)))]):=Z (a);clear p;clear a b c l;clear dj Qh Qz cg dt Qt Qo ci j k f;obtain⟨ff,gz,fr,il,du,cj⟩:=q.o.big (i:=1) J;obtain⟨Qn,Qq⟩:=du.cp;obtain⟨fg,ia,fs,im,dw,ck⟩:=q.o.big (i:=3) J;obtain⟨Qx,Qs⟩:=dw.cp;go_upto_region 6 with(go_at_call 55;refine(XU _ _ y (((Int.gcd x y:Nat):Int)) _ cj ck G.o (by have:=Qb.o.size;omega) (by have:=A.o.size;omega)).mono ?_;rintro e n ⟨u1,u2,rfl,j,k,f⟩;obtain⟨K,T,P,X,rfl⟩:=Jh.form2 j;obtain⟨L,U,Q,aa,rfl⟩:=Jh.form2 k)
   have a:=Bu.push (Bu.push (q.o.below f) (.big (y/((Int.gcd x y:Nat):Int))) j) (.big (y%((Int.gcd x y:Nat):Int))) (Has.alloc (d:=.big (y%((Int.gcd x y:Nat):Int))) k _);simp only[BA]at a;have a:Bu w ((n.alloc (E #[C K T P,D X] 32)).alloc (E #[C L U Q,D aa] 32)) [some (w.heap.size,.big x),some (w.heap.size+1,.big y),some (w.heap.size+1+1,.zref),some (g,.big (((Int.gcd x y:Nat):Int))),some (ad,.big (x/((Int.gcd x y:Nat):Int))),some (ag,.big (x%((Int.gcd x y:Nat):Int))),some (n.heap.size,.big (y/((Int.gcd x y:Nat):Int))),some (n.heap.size+1,.big (y%((Int.gcd x y:Nat):Int)))]:=a;obtain⟨aq,b⟩:=ex ((n.alloc (E #[C K T P,D X] 32)).alloc (E #[C L U Q,D aa] 32));obtain⟨am,c⟩:=ex (n.heap.size);rw[b,c]at a;rw[b];rw[c];obtain⟨eh,l⟩:=ex (am+1);rw[l]at a ⊢;have o:Hid (Bu w aq [some (w.heap.size,.big x),some (w.heap.size+1,.big y),some (w.heap.size+1+1,.zref),some (g,.big (((Int.gcd x y:Nat):Int))),some (ad,.big (x/((Int.gcd x y:Nat):Int))),some (ag,.big (x%((Int.gcd x y:Nat):Int))),some (am,.big (y/((Int.gcd x y:Nat):Int))),some (eh,.big (y%((Int.gcd x y:Nat):Int)))]):=Z (a);clear q;clear a b c l;clear du Qn Qq cj dw Qx Qs ck j k f;obtain⟨bc,cw,bj,e6,f6,et⟩:=o.o.big (i:=4) J;obtain⟨ga,gb⟩:=f6.cp;obtain⟨bd,cy,bk,e7,f7,ew⟩:=o.o.big (i:=6) J;obtain⟨gc,gh⟩:=f7.cp;have aj:=o.o.zref (i:=2) J;obtain⟨Qv,Ql,Qi,Qm⟩:=aj.cq;obtain⟨gn,go,gp,gq⟩:=aj.fq;have hr:Jy aq (B #[C bc cw bj,D e6,C bd cy bk,D e7]) (Rat.divInt x y):=Jy.mk (by rw[YN r.o,<-t.o];exact et) (by rw[YO r.o,<-t.o];exact ew);have Qf:=o.o.ge 2 J;have hB:=o.o.2.2;go_wp2_with fail
   exact BB (v:=B #[C bc cw bj,D e6,C bd cy bk,D e7]) (by simp[results,results24,go_sem,Qv,Ql,Qi,Qm]) J ⟨_,J,hr.put4 aj J J J J _ _ _ _,Jp hB Qf _ _ _ _⟩
def NF(va vb:Value)(p q:Rat)(w:F)(P:Jy w va p)(Q:Jy w vb q)(ad:Sq p)(ae:Sq q):
 Calls Tryz.prog 33 #[va,vb] w λe b=>∃u,e=.returned u/\Jy b u (p*q)/\Bl w b:=by
 obtain⟨ay,bm,bf,bu,bc,bj,bh,ce,rfl⟩:=Jy.form P;obtain⟨az,bn,bg,bz,bd,bk,bi,cg,rfl⟩:=Jy.form Q;obtain⟨W0,U,d⟩:=Gn 34 (.ref p) P 34 (.ref q) Q 34 (.zref) J;have j:=Z ad;have k:=Z ae;clear P Q ad ae;go_enter func33,ntmps33
 go_upto_region 1 with fail
 rw[U.o];clear U;obtain⟨a1,l1,c1,s1,b1,k1,d1,t1,H,r1,i1,j1⟩:=d.o.ref (i:=0) J;obtain⟨n,r,t,y⟩:=H.cq;obtain⟨a2,l2,c2,s2,b2,k2,d2,t2,I,r2,i2,j2⟩:=d.o.ref (i:=1) J;obtain⟨o,m,l,A⟩:=I.cq;have c:=d.o.zref (i:=2) J;obtain⟨x,s,G,z⟩:=c.cq;obtain⟨N,M,L,K⟩:=c.fq;obtain⟨S,T,W⟩:=DF (λ(V:F) (h:Bl W0 V)=>XQ _ _ (p.num) (q.num) V (i1.below h) (i2.below h) (by have:=j.o.num.size;omega) (by have:=k.o.num.size;omega)) (λ(V:F) (h:Bl W0 V)=>XQ _ _ ((p.den:Int)) ((q.den:Int)) V (j1.below h) (j2.below h) (by have:=j.o.den.size;omega) (by have:=k.o.den.size;omega)) λ(V:F) (h:Bl W0 V) (v4:Value) (f:Jh V v4 (p.num*q.num)) (v9:Value) (g:Jh V v9 ((p.den:Int)*(q.den:Int)))=>(by have h:=Ht _ _ (p.num*q.num) ((p.den:Int)*(q.den:Int)) V f g (Int.mul_ne_zero (by have:=p.den_nz;omega) (by have:=q.den_nz;omega)) (j.o.mulN k.o) (j.o.mulD k.o);rw[EH]at h;exact h);have bp:w.heap.size≠w.heap.size+1+1:=d.o.ne 0 2 J J Bz;have bt:w.heap.size+1≠w.heap.size+1+1:=d.o.ne 1 2 J J Bz;have a:Bl W0 W0.drew:=(BC _ W0).drew;go_region_held3 (λb=>b.cell? ⟨w.heap.size,0,none⟩=some (C a1 l1 c1)/\b.cell? ⟨w.heap.size,1,none⟩=some (D s1)/\b.cell? ⟨w.heap.size,2,none⟩=some (C b1 k1 d1)/\b.cell? ⟨w.heap.size,3,none⟩=some (D t1)/\b.cell? ⟨w.heap.size+1,0,none⟩=some (C a2 l2 c2)/\b.cell? ⟨w.heap.size+1,1,none⟩=some (D s2)/\b.cell? ⟨w.heap.size+1,2,none⟩=some (C b2 k2 d2)/\b.cell? ⟨w.heap.size+1,3,none⟩=some (D t2)) (first|(with_reducible exact⟨n,r,t,y,o,m,l,A⟩)|(go_keep;done)|(refine⟨?_,?_,?_,?_,?_,?_,?_,?_⟩<;>((repeat rw[Js Y]);first|assumption|(go_keep;done))))
  (first
   |(go_at_call 67;refine(S.o _ a ).mono ?_;clear S;rintro e w4 ⟨v4,rfl,f,ak⟩;have a:=Bt a ak;obtain⟨n,r,t,y⟩:=(H.below a).cq;obtain⟨o,m,l,A⟩:=(I.below a).cq;obtain⟨x,s,G,z⟩:=(c.below a).cq;obtain⟨N,M,L,K⟩:=(c.below a).fq)
   |(go_at_call 67;refine(T.o _ a ).mono ?_;clear T;rintro e w9 ⟨v9,rfl,g,aa⟩;have f:=f.below aa;have a:=Bt a aa;obtain⟨n,r,t,y⟩:=(H.below a).cq;obtain⟨o,m,l,A⟩:=(I.below a).cq;obtain⟨x,s,G,z⟩:=(c.below a).cq;obtain⟨N,M,L,K⟩:=(c.below a).fq)
   |(go_at_call 24;refine(W.o _ a _ f _ g).mono ?_;clear W;rintro e cj ⟨ci,rfl,X,R⟩;obtain⟨ag,an,ai,ap,ah,am,aj,aq,rfl⟩:=Jy.form X;have f:=f.below R;have g:=g.below R;have a:=Bt a R;obtain⟨n,r,t,y⟩:=(H.below a).cq;obtain⟨o,m,l,A⟩:=(I.below a).cq;obtain⟨x,s,G,z⟩:=(c.below a).cq;obtain⟨N,M,L,K⟩:=(c.below a).fq))
 all_goals go_wp2_with fail
 have Qu:=Bt d.o.2.2 a;have Qt:=d.o.ge 2 J;exact BB (v:=B #[C ag an ai,D ap,C ah am aj,D aq]) (by simp[results,results33,go_sem,x,s,G,z]) J ⟨_,J,X.put4 (c.below a) J J J J _ _ _ _,Jp Qu Qt _ _ _ _⟩
def Hu(S:Value)(q:Rat)(w:F)(k:Jy w S q)(I:Sq q):
 Calls Tryz.prog 18 #[S] w λe T=>∃u,e=.returned u/\Jh T u (q.num/(q.den:Int))/\Bl w T:=by
 obtain⟨aa,an,ae,ap,ad,am,ag,aq,rfl⟩:=Jy.form k;obtain⟨W0,r,f⟩:=EX 34 (.ref q) k 32 (.big 0) (ET _);have s:=Z I;clear k I;go_enter func18,ntmps18
 go_upto_region 1 with fail
 rw[r.o];clear r;obtain⟨a1,l1,c1,s1,b1,k1,d1,t1,P,r1,K,L⟩:=f.o.ref (i:=0) J;obtain⟨Qh,V,W,X⟩:=P.cq;go_upto_region 2 with(go_at_call 55;refine(XU _ _ q.num (q.den:Int) _ K L (by have:=q.den_nz;omega) (by have:=s.o.num.size;omega) (by have:=s.o.den.size;omega)).mono ?_;rintro e b ⟨u1,u2,rfl,l,m,H⟩;obtain⟨x,M,z,Q,rfl⟩:=Jh.form2 l;obtain⟨y,N,A,R,rfl⟩:=Jh.form2 m)
 have a:=Bu.push (Bu.push (f.o.below H) (.big (q.num/(q.den:Int))) l) (.big (q.num%(q.den:Int))) (Has.alloc (d:=.big (q.num%(q.den:Int))) m _);simp only[BA]at a;have a:Bu w ((b.alloc (E #[C x M z,D Q] 32)).alloc (E #[C y N A,D R] 32)) [some (w.heap.size,.ref q),some (w.heap.size+1,.big 0),some (b.heap.size,.big (q.num/(q.den:Int))),some (b.heap.size+1,.big (q.num%(q.den:Int)))]:=a;obtain⟨V3,j⟩:=ex ((b.alloc (E #[C x M z,D Q] 32)).alloc (E #[C y N A,D R] 32));obtain⟨o,g⟩:=ex (b.heap.size);rw[j,g]at a;rw[j];rw[g];obtain⟨U,G⟩:=ex (o+1);rw[G]at a ⊢;have c:Hid (Bu w V3 [some (w.heap.size,.ref q),some (w.heap.size+1,.big 0),some (o,.big (q.num/(q.den:Int))),some (U,.big (q.num%(q.den:Int)))]):=Z (a);clear f;clear a j g G;clear P Qh V W X K r1 L l m H;obtain⟨a4,l4,c4,s4,n4,i4⟩:=c.o.big (i:=2) J;obtain⟨ah,ai⟩:=n4.cp;obtain⟨a5,l5,c5,s5,n,i5⟩:=c.o.big (i:=1) J;obtain⟨Qf,Qg⟩:=n.cp;obtain⟨aj,ak⟩:=n.fp;have t:=c.o.ge 1 J;have hB:=c.o.2.2;go_wp2_with fail
 exact BB (v:=B #[C a4 l4 c4,D s4]) (by simp[results,results18,go_sem,Qf,Qg]) J ⟨_,J,i4.box n J J,(hB.setCell (p:=⟨_,0,none⟩) t _).setCell (p:=⟨_,1,none⟩) t _⟩
def Y3(n:Int)(r:-9223372036854775808<=n)(s:n<=9223372036854775807)(w:F):
 Calls Tryz.prog 45 #[.int .i64 n] w λe I=>∃u,e=.returned u/\Jy I u (n:Rat)/\Bl w I:=by
 have d:=Z λ(V:F)=>DX n r s V;clear r s;obtain⟨W0,f,c⟩:=DO 34 (.zref) J;go_enter func45,ntmps45
 go_upto_region 1 with fail
 rw[f.o];clear f;have a:=c.o.zref (i:=0) J;obtain⟨l,g,j,k⟩:=a.cq;obtain⟨L,M,P,N⟩:=a.fq;go_wp2_with(first
  |(go_at_call 46;refine(d.o _).mono ?_;clear d;rintro e U ⟨u1,rfl,x,R⟩;obtain⟨m,z,p,G,rfl⟩:=Jh.form2 x)
  |(go_at_call 46;refine(DX 1 Y Y _).mono ?_;rintro e T ⟨u2,rfl,y,t⟩;obtain⟨o,A,q,H,rfl⟩:=Jh.form2 y;have b:=Bt R t;obtain⟨l,g,j,k⟩:=(a.below b).cq;obtain⟨L,M,P,N⟩:=(a.below b).fq))
 have S:Jy T (B #[C m z p,D G,C o A q,D H]) (n:Rat):=Jy.mk (x.below t) y;have Q:=Bt c.o.2.2 b;have K:=c.o.ge 0 J;exact BB (v:=B #[C m z p,D G,C o A q,D H]) (by simp[results,results45,go_sem,l,g,j,k]) J ⟨_,J,S.put4 (a.below b) J J J J _ _ _ _,Jp Q K _ _ _ _⟩

