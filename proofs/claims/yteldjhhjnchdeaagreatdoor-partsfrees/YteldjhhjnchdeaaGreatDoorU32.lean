import Derived.Test.YteldjhhjnchdeaaGreatDoorU31
import Derived.Deep.RegionWith
import Derived.Test.YteldjhhjnchdeaaGreatDoorU28
import Derived.Lib.AppendZeros
open Go.Value renaming slice->C,bool->E,agg->B
open Go.Obj renaming cells->F
open Go renaming World->G,Value->I,Calls->L
open Go.Proofs.Tryz renaming prog->H
set_option maxRecDepth 100000
set_option maxHeartbeats 16000000
namespace Go.Proofs.YteldjhhjnchdeaaGreatDoor
open Go.RowKit Go.Shelf
attribute [local go_sem] Oper.semAt_some
def RS(W:G):I->Nat
 |C (some p) l _=>val 10000 ((List.range l).map λj=>IL W ⟨p.block,p.off+j,none⟩)
 |_=>0
variable{s:Bool}{qs:List Rat}{c k l n:Nat}{a:Option Addr}{W:G}
theorem RN.rowVal(h:RN W (C a l c) n):RS W (C a l c)=n:=by
 obtain⟨f,_,_,_,g⟩:=Jw h;rcases AY l with d|d
 . subst d;have m:n=0:=(JD J).1 (Aq f.symm);subst m;cases a<;>rfl
 . obtain⟨b,off,rfl,_,_⟩:=g 0 d;show val 10000 ((List.range l).map λj=>IL W ⟨b,off+j,none⟩)=n;have e:(List.range l).map (λj=>IL W ⟨b,off+j,none⟩)=Jc 10000 n:=by
    refine List.ext_getElem (by rw[FP,List.length_range];exact f) λj p i=>?_;obtain⟨o,q,e,_,k⟩:=g j J;cases e;rw[List.getElem_map,List.getElem_range,IL,k,Ag i];rfl
   rw[e,Jp J]
theorem RT{m:Nat}(h:n<=m):(Jc 10000 n).length<=(Jc 10000 m).length:=by
 rcases AO (Jc 10000 m).length (Jc 10000 n).length with a|a
 . have:=YR J a;omega
 . exact a
theorem aT(l vb:I)(x y:Int)(w:G)(ha:Jt w l x)(hb:Jt w vb y)(V:EM x<=100000000000)(W:EM y<=100000000000):
 L H 109 #[l,vb] w λe w'=>∃u,e=.returned u/\Jt w' u (Int.gcd x y:Nat)/\Bl w w':=by
 obtain⟨a,la,ca,rfl,q⟩:=ha;obtain⟨b,lb,cb,rfl,r⟩:=hb;obtain⟨s,hs⟩:=ex (decide (x<0));obtain⟨t,ht⟩:=ex (decide (y<0));rw[hs,ht];clear hs ht;obtain⟨W0,g⟩:=ex (((w.alloc (F #[C a la ca,E s] 83)).alloc (F #[C b lb cb,E t] 83)).alloc (F #[C none 0 0,E false] 83));have m:Bl w W0:=by rw[<-g];exact Xv w _ _ _
 have b0:Jm W0 w.heap.size 83 (C a la ca) (E s):=by rw[<-g];exact((Jm.new w _ _ _).alloc _).alloc _
 have b1:Jm W0 (w.heap.size+1) 83 (C b lb cb) (E t):=by
  have h:=(Jm.new (w.alloc (F #[C a la ca,E s] 83)) 83 (C b lb cb) (E t)).alloc (F #[C none 0 0,E false] 83);rw[A1,g]at h;exact h
 have bR:Jm W0 (w.heap.size+1+1) 83 (C none 0 0) (E false):=by
  have h:=Jm.new ((w.alloc (F #[C a la ca,E s] 83)).alloc (F #[C b lb cb,E t] 83)) 83 (C none 0 0) (E false);rw[A1,A1,g]at h;exact h
 have r0:=RN.below q m;have r1:=RN.below r m;have k0:=b0.c0;have k2:=b1.c0;have M:la<=100000000000:=by rw[RN.len q];exact V
 have P:lb<=100000000000:=by rw[RN.len r];exact W
 have K:=O g;clear g q r V W;go_enter Tryz.func109,Tryz.ntmps109
 go_upto_region 1 with fail
 rw[K.o];clear K;go_wp2_with fail
 go_loopw [5,6] (λxv z wr=>∃(f:Option Addr) (d c0 X:Nat) (k:Option Addr) (l1 c1 c:Nat),xv=C f d c0/\z=C k l1 c1/\Hid (RN wr (C f d c0) X)/\Hid (RN wr (C k l1 c1) c)/\Hid (Nat.gcd X c=Int.gcd x y)/\(d<=100000000000/\l1<=100000000000)/\Bl W0 wr)
  (λ_ z wr=>RS wr z)
 case atStart=>exact⟨a,la,ca,x.natAbs,b,lb,cb,y.natAbs,rfl,rfl,O r0,O r1,O rfl,⟨M,P⟩,BB _ W0⟩
 case round=>
  clear r0 r1 M P;obtain⟨f,d,c0,X,k,l1,c1,c,rfl,rfl,S,i,R,⟨ad,U⟩,n⟩:=hrel;rcases AY l1 with Q|Q
  . subst Q;have N:c=0:=(JD J).1 (Aq (RN.len i.o).symm);have HE:=O (show X=Int.gcd x y by rw[<-R.o,N,Nat.gcd_zero_right]);have j:=bR.below n;obtain⟨q0,q1⟩:=j.cp;obtain⟨f0,f1⟩:=j.fp;clear N;go_wp2_with fail
    have A:=(KD S.o).box j rfl rfl (x0:=C f d c0) (x1:=E false);rw[HE.o]at A;have Qj:=Bt m n;have z0:=((j.set0 (C f d c0)).set1 (E false)).c0;have z1:=((j.set0 (C f d c0)).set1 (E false)).c1;exact BA (v:=B #[C f d c0,E false]) (by simp[results,Tryz.results109,go_sem,z0,z1]) rfl ⟨_,rfl,A,(Qj.setCell (p:=⟨_,0,none⟩) so _).setCell (p:=⟨_,1,none⟩) so _⟩
  . have Qi:c≠0:=λe=>by
     have h:=RN.len i.o;rw[e,Jz]at h;simp at h;omega
    have Qk:=O (RR f d c0 k l1 c1 X c wr S.o i.o Qi ad U);have D:=A7 X (show c>0 by omega);go_wp2_with(go_at_call 139;refine Qk.o.mono ?_;rintro e w2 ⟨u,v,rfl,hu,o,T⟩;obtain⟨ua,uc,rfl⟩:=RN.form hu;obtain⟨l,vc,rfl⟩:=RN.form o)
    have Ql:=RN.below i.o T;refine⟨⟨k,l1,c1,c,l,_,vc,X%c,rfl,rfl,O Ql,O o,O (by rw[<-R.o,C6 c,<-Nat.gcd_rec,C6]),⟨U,?_⟩,Bt n T⟩,?_⟩
    . have h1:=RT (FU D);rw[<-RN.len i.o]at h1;omega
    . rw[RN.rowVal o,RN.rowVal i.o];exact D
theorem aU(w:G)(c d e f:I)(a b:I):
 Jm ((((w.alloc (F #[c,d] 83)).alloc (F #[e,f] 83)).alloc (F #[a,b] 83)).alloc (F #[a,b] 83)) w.heap.size 83 c d/\
 Jm ((((w.alloc (F #[c,d] 83)).alloc (F #[e,f] 83)).alloc (F #[a,b] 83)).alloc (F #[a,b] 83)) (w.heap.size+1) 83 e f/\
 Jm ((((w.alloc (F #[c,d] 83)).alloc (F #[e,f] 83)).alloc (F #[a,b] 83)).alloc (F #[a,b] 83)) (w.heap.size+1+1) 83 a b/\
 Jm ((((w.alloc (F #[c,d] 83)).alloc (F #[e,f] 83)).alloc (F #[a,b] 83)).alloc (F #[a,b] 83)) (w.heap.size+1+1+1) 83 a b:=by
 refine⟨(((Jm.new w _ _ _).alloc _).alloc _).alloc _,?_,?_,?_⟩
 . have h:=((Jm.new (w.alloc (F #[c,d] 83)) 83 e f).alloc (F #[a,b] 83)).alloc (F #[a,b] 83);rw[A1]at h;exact h
 . have h:=(Jm.new ((w.alloc (F #[c,d] 83)).alloc (F #[e,f] 83)) 83 a b).alloc (F #[a,b] 83);rw[A1,A1]at h;exact h
 . have h:=Jm.new (((w.alloc (F #[c,d] 83)).alloc (F #[e,f] 83)).alloc (F #[a,b] 83)) 83 a b;rw[A1,A1,A1]at h;exact h
theorem aV(h:RN W (C a l c) n)(m:Bool):Jt W (B #[C a l c,E (m&&decide (0<l))]) (if m=true then -(n:Int)else(n:Int)):=by
 have hl:=RN.len h;have f:0<l↔n≠0:=by
  rw[hl];constructor
  . intro b g;rw[g,Jz]at b;simp at b
  . intro b;exact Al.2 λe=>b ((JD J).1 e)
 cases m with
 |false=>
  refine⟨a,l,c,?_,by simp;exact h⟩
  have:decide ((n:Int)<0)=false:=BI J
  simp[this]
 |true=>
  refine⟨a,l,c,?_,by simp;exact h⟩;simp only[Bool.true_and,if_true]
  have:decide (0<l)=decide (-(n:Int)<0):=by
   by_cases d:n=0
   . rw[BI λb=>f.1 b d,BI J]
   . rw[BK (f.2 d),BK J]
  rw[this]
theorem aW(a:Option Addr)(la ca:Nat)(b:Option Addr)(lb cb X c:Nat)(s t:Bool)(z r:Int)(w:G)(hu:RN w (C a la ca) X)(hv:RN w (C b lb cb) c)(hY:c≠0)(bc:la<=100000000000)(bf:lb<=100000000000)
(HP:Hid (¬(s=true/\X%c≠0)->(if(!(s==t))=true then -((X/c:Nat):Int)else((X/c:Nat):Int))=z/\((X%c:Nat):Int)=r))
(HN:Hid (s=true/\X%c≠0->(if(!(s==t))=true then -((X/c+1:Nat):Int)else((X/c+1:Nat):Int))=z/\((c-X%c:Nat):Int)=r)):
 L H 111 #[B #[C a la ca,E s],B #[C b lb cb,E t]] w λe j=>∃q o,e=.returned (.tuple #[q,o])/\Jt j q z/\Jt j o r/\Bl w j:=by
 obtain⟨b0,b1,b4,b5⟩:=aU w (C a la ca) (E s) (C b lb cb) (E t) (C none 0 0) (E false);have Qp:=QV w (F #[C a la ca,E s] 83) (F #[C b lb cb,E t] 83) (F #[C none 0 0,E false] 83) (F #[C none 0 0,E false] 83);obtain⟨W0,aj⟩:=ex ((((w.alloc (F #[C a la ca,E s] 83)).alloc (F #[C b lb cb,E t] 83)).alloc (F #[C none 0 0,E false] 83)).alloc (F #[C none 0 0,E false] 83));rw[aj]at b0 b1 b4 b5 Qp;have Ud:=O aj;have Uj:=RN.below hu Qp;have Ub:=RN.below hv Qp;have Ug:=O (RR a la ca b lb cb X c W0 Uj Ub hY bc bf);have Uk:=O Ub;have Ul:=O (RN.len hu).symm;obtain⟨k0,k1⟩:=b0.cp;obtain⟨d,k3⟩:=b1.cp;clear aj hu hv Uj Ub;go_enter Tryz.func111,Tryz.ntmps111
 go_upto_region 1 with fail
 rw[Ud.o];go_upto_region 2 with(go_at_call 139;refine Ug.o.mono ?_;rintro e w1 ⟨u1,v1,rfl,ap,aq,ai⟩;obtain⟨y,A,rfl⟩:=RN.form ap;obtain⟨va,vc,rfl⟩:=RN.form aq)
 clear Ug Ud;obtain⟨lr,an⟩:=ex ((Jc 10000 (X%c)).length);obtain⟨lq,am⟩:=ex ((Jc 10000 (X/c)).length);have Ui:=O (show lr=0↔X%c=0 by
  rw[<-an];exact⟨λh=>(JD J).1 (Aq h),λh=>by rw[h,Jz];rfl⟩)
 rw[an]at aq ⊢;rw[am]at ap ⊢;have bh:lq<=100000000000:=by
  have T:=RT (m:=X) (n:=X/c) (Fw _ _);have h2:=Ul.o;omega
 have Uf:=O am.symm;clear an am;obtain⟨k0,k1⟩:=(b0.below ai).cp;obtain⟨d,k3⟩:=(b1.below ai).cp;have Qs:=O (Ih y lq A (!(s==t)) w1);go_upto_region 3 with(go_at_call 112;refine Qs.o.mono ?_;rintro e w2 ⟨rfl,ak⟩)
 obtain⟨D,az⟩:=ex (((!(s==t))&&decide (0<lq)):Bool);have hI:=aV (RN.below ap ak) (!(s==t));rw[az]at hI ⊢;obtain⟨W3,ah⟩:=ex (w2.alloc (F #[C y lq A,E D] 83));have Qi:Bl w2 W3:=by rw[<-ah];exact Ba w2 _
 have b8:Jm W3 w2.heap.size 83 (C y lq A) (E D):=by rw[<-ah];exact Jm.new w2 _ _ _
 have Qr:Bl w1 W3:=Bt ak Qi;have Qf:Bl W0 W3:=Bt ai Qr;have Qx:=hI.below Qi;have Uc:=RN.below aq Qr;have Qg:=Bt Qp Qf;obtain⟨B8,aw⟩:=ex (w2.heap.size);have bg:w.heap.size+1+1+1<B8:=by
  have T:=(b5.below (Bt ai ak)).lt;omega
 rw[ah];rw[aw]at b8 ⊢;clear ah aw az hI Qs;have p0:=b0.below Qf;have p1:=b1.below Qf;have l:=b4.below Qf;have x:=b5.below Qf;clear b0 b1 b4 b5 k0 k1 d k3;obtain⟨k0,k1⟩:=p0.cp;obtain⟨d,k3⟩:=p1.cp;obtain⟨g,i⟩:=b8.cp;obtain⟨q0,q1⟩:=l.cp;obtain⟨q2,q3⟩:=x.cp;obtain⟨f0,f1⟩:=l.fp;obtain⟨f2,f3⟩:=x.fp;obtain⟨cd,ay⟩:=ex ((!s || decide (lr=0)):Bool);have Qh:=O ay;clear ay;go_cut [31] λv w4=>v=E cd/\w4=W3
 case first=>
  cases s with
  |false=>
   have e5:cd=true:=by rw[<-Qh.o];rfl
   go_wp2_with fail
   go_meet
   case rel=>exact⟨by rw[e5],rfl⟩
  |true=>
   by_cases k:lr=0
   . have e5:cd=true:=by rw[<-Qh.o];simp;omega
     have U:((lr:Int)==0)=true:=by simp;omega
     clear k;go_wp2_with fail
     go_meet
     case rel=>exact⟨by rw[e5],rfl⟩
   . have e5:cd=false:=by rw[<-Qh.o];simp;omega
     have U:((lr:Int)==0)=false:=by simp;omega
     clear k;go_wp2_with fail
     go_meet
     case rel=>exact⟨by rw[e5],rfl⟩
 case rest=>
  obtain⟨rfl,rfl⟩:=hcut;cases cd with
  |true=>
   have hc:¬(s=true/\X%c≠0):=λ⟨T,h2⟩=>by
    have h:=Qh.o;rw[T]at h;simp at h;exact h2 (Ui.o.1 h)
   obtain⟨z1,z2⟩:=HP.o hc;rw[z1]at Qx;have Qs:=O (Ih va lr vc s);have Ue:(s&&decide (0<lr))=false:=by
    have h:=Qh.o;cases s with
    |false=>rfl
    |true=>simp at h;simp;omega
   rw[Ue]at Qs;have Qv:=O z2;clear Ue z1 z2 hc;go_wp2_with fail
   go_region_with (first
    |(go_at_call 112;refine(Qs.o _).mono ?_;rintro e w5 ⟨rfl,N⟩;have g:=((b8.drew).below N).c0;have i:=((b8.drew).below N).c1;have q0:=((l.drew).below N).c0;have q1:=((l.drew).below N).c1;have q2:=((x.drew).below N).c0;have q3:=((x.drew).below N).c1;have f0:=((l.drew).below N).f0;have f1:=((l.drew).below N).f1;have f2:=((x.drew).below N).f0;have f3:=((x.drew).below N).f1))
   all_goals
    go_wp2_with fail
    have Qj:Bl wc w5:=((BB _ wc).drew).trans (N.mono (Aa _));have K:=l.below Qj;have Qc:=x.below Qj;obtain⟨z4,z5⟩:=L1 (C y lq A) (E D) (C va lr vc) (E false) K Qc;obtain⟨Qt,Qq⟩:=z4.cp;obtain⟨Qk,Qn⟩:=z5.cp;have Qd:Jm ((w5.setCell ⟨w.heap.size+1+1,0,none⟩ (C y lq A)).setCell ⟨w.heap.size+1+1,1,none⟩ (E D)) (w.heap.size+1+1+1) 83 (C none 0 0) (E false):=(Qc.far Y _).far Y _;have Qb:=(KD Uc).below Qj;rw[Qv.o]at Qb;have Ql:=((Qx.below Qj).box K rfl rfl (x0:=C y lq A) (x1:=E D)).box Qd rfl rfl (x0:=C va lr vc) (x1:=E false);have Qm:=(Qb.box K rfl rfl (x0:=C y lq A) (x1:=E D)).box Qd rfl rfl (x0:=C va lr vc) (x1:=E false);have Qu:=Bt Qg Qj;exact BA (v:=.tuple #[B #[C y lq A,E D],B #[C va lr vc,E false]]) (by simp[results,Tryz.results111,go_sem,Qt,Qq,Qk,Qn]) rfl ⟨_,_,rfl,Ql,Qm,(((Qu.setCell (p:=⟨_,0,none⟩) so _).setCell (p:=⟨_,1,none⟩) so _).setCell (p:=⟨_,0,none⟩) so _).setCell (p:=⟨_,1,none⟩) so _⟩
  |false=>
   have hc:s=true/\X%c≠0:=by
    have h:=Qh.o;simp at h;exact⟨h.1,λe=>h.2 (Ui.o.2 e)⟩
   obtain⟨z1,z2⟩:=HN.o hc;rw[hc.1]at z1;have Uh:Jt wc (B #[C y lq A,E D]) (if(!(true==t))=true then -((X/c:Nat):Int)else((X/c:Nat):Int)):=by have h:=Qx;rw[hc.1]at h;exact h
   obtain⟨Qw,Qz,Qv⟩:=Dg Uh z1 z2;have bi:=A7 X (show c>0 by omega);obtain⟨Qy,Ua,Qe⟩:=Dg (Hl 1 J J) (λ(V:G) (h:Bl wc V)=>LY _ _ c (X%c) V (RN.below (RN.below Uk.o Qf) h) (RN.below Uc h) J (by rw[<-RN.len Uk.o];omega)) λ(V:G) (h:Bl wc V)=>And.intro (And.intro (b8.below h).c0 (And.intro (b8.below h).c1 (p1.below h).c0)) (And.intro (And.intro (l.below h).c0 (And.intro (l.below h).c1 (And.intro (x.below h).c0 (x.below h).c1))) (And.intro (l.below h).f0 (And.intro (l.below h).f1 (And.intro (x.below h).f0 (x.below h).f1))));have n3:¬w.heap.size+1+1=B8:=J
   have n4:¬w.heap.size+1+1+1=B8:=J
   have n5:¬w.heap.size+1+1=w.heap.size:=J
   clear hc Uh z1 z2 Qx;cases t with
   |true=>
    have Qo:=O (show ∀(V:G) (u:I),Bl wc V->Jt V u 1->L H 81 #[B #[C y lq A,E D],u] V λe j=>∃u,e=.returned u/\Jt j u z/\Bl V j from λV u h hu=>by
     have hx:=Qw.o.below h;simp only[beq_self_eq_true,Bool.not_true,Ck,if_false]at hx;have T:=NN _ u _ 1 V hx hu (by unfold EM;rw[AP,<-Uf.o];omega) (L0 J J);have h2:=Qz.o;simp only[beq_self_eq_true,Bool.not_true,Ck,if_false]at h2;rw[show((X/c:Nat):Int)+1=z from by rw[<-h2];push_cast;rfl]at T;exact T)
    clear Qw Qz HN HP;go_upto_region 6 with fail
    have hq:Bl wc wc.drew:=(BB _ wc).drew;clear g i d q0 q1 q2 q3 f0 f1 f2 f3;obtain⟨⟨g,i,d⟩,⟨q0,q1,q2,q3⟩,f0,f1,f2,f3⟩:=Qe.o _ hq;go_region_held3 (λj=>j.cell? ⟨B8,0,none⟩=some (C y lq A)/\j.cell? ⟨B8,1,none⟩=some (E D)/\j.cell? ⟨w.heap.size+1,0,none⟩=some (C b lb cb)) (first|(with_reducible exact⟨g,i,d⟩)|(go_keep;done))
     (first
      |(go_at_call 79;refine(Qy.o _).mono ?_;clear Qy;rintro e w5 ⟨u5,rfl,af,f⟩;replace hq:=Bt hq f;clear f g i d q0 q1 q2 q3 f0 f1 f2 f3;obtain⟨⟨g,i,d⟩,⟨q0,q1,q2,q3⟩,f0,f1,f2,f3⟩:=Qe.o _ hq)
      |(go_at_call 81;refine(Qo.o _ _ hq af).mono ?_;clear Qo af;rintro e w6 ⟨u6,rfl,k,f⟩;obtain⟨M,P,c5,rfl⟩:=k.form;obtain⟨Q,ae⟩:=ex (decide (z<0));rw[ae]at k;rw[ae];clear ae;replace hq:=Bt hq f;clear f g i d q0 q1 q2 q3 f0 f1 f2 f3;obtain⟨⟨g,i,d⟩,⟨q0,q1,q2,q3⟩,f0,f1,f2,f3⟩:=Qe.o _ hq)
      |(go_at_call 115;refine(Ua.o _ hq).mono ?_;clear Ua;rintro e V0 ⟨u7,rfl,U,f⟩;obtain⟨R,S,rfl⟩:=RN.form U;obtain⟨W,ad⟩:=ex ((Jc 10000 (c-X%c)).length);rw[ad]at U;rw[ad];clear ad;replace k:=k.below f;replace hq:=Bt hq f;clear f g i d q0 q1 q2 q3 f0 f1 f2 f3;obtain⟨⟨g,i,d⟩,⟨q0,q1,q2,q3⟩,f0,f1,f2,f3⟩:=Qe.o _ hq))
    go_wp2_with fail
    have K:=l.below hq;have Qc:=x.below hq;obtain⟨z4,z5⟩:=L1 (C M P c5) (E Q) (C R W S) (E false) K Qc;obtain⟨Qt,Qq⟩:=z4.cp;obtain⟨Qk,Qn⟩:=z5.cp;have Qd:Jm ((V0.setCell ⟨w.heap.size+1+1,0,none⟩ (C M P c5)).setCell ⟨w.heap.size+1+1,1,none⟩ (E Q)) (w.heap.size+1+1+1) 83 (C none 0 0) (E false):=(Qc.far Y _).far Y _;have Qb:=KD U;rw[Qv.o]at Qb;have Ql:=(k.box K rfl rfl (x0:=C M P c5) (x1:=E Q)).box Qd rfl rfl (x0:=C R W S) (x1:=E false);have Qm:=(Qb.box K rfl rfl (x0:=C M P c5) (x1:=E Q)).box Qd rfl rfl (x0:=C R W S) (x1:=E false);have Qu:=Bt Qg hq;exact BA (v:=.tuple #[B #[C M P c5,E Q],B #[C R W S,E false]]) (by simp[results,Tryz.results111,go_sem,Qt,Qq,Qk,Qn]) rfl ⟨_,_,rfl,Ql,Qm,(((Qu.setCell (p:=⟨_,0,none⟩) so _).setCell (p:=⟨_,1,none⟩) so _).setCell (p:=⟨_,0,none⟩) so _).setCell (p:=⟨_,1,none⟩) so _⟩
   |false=>
    have Qo:=O (show ∀(V:G) (u:I),Bl wc V->Jt V u 1->L H 140 #[B #[C y lq A,E D],u] V λe j=>∃u,e=.returned u/\Jt j u z/\Bl V j from λV u h hu=>by
     have hx:=Qw.o.below h;rw[BG (by rfl)]at hx;have T:=ZX _ u _ 1 V hx hu (by unfold EM;rw[Fq,AP,<-Uf.o];omega) (L0 J J);have h2:=Qz.o;rw[BG (by rfl)]at h2;rw[show -((X/c:Nat):Int)-1=z from by rw[<-h2];push_cast;omega]at T;exact T)
    clear Qw Qz HN HP;go_upto_region 7 with fail
    have hq:Bl wc wc.drew:=(BB _ wc).drew;clear g i d q0 q1 q2 q3 f0 f1 f2 f3;obtain⟨⟨g,i,d⟩,⟨q0,q1,q2,q3⟩,f0,f1,f2,f3⟩:=Qe.o _ hq;go_region_held3 (λj=>j.cell? ⟨B8,0,none⟩=some (C y lq A)/\j.cell? ⟨B8,1,none⟩=some (E D)/\j.cell? ⟨w.heap.size+1,0,none⟩=some (C b lb cb)) (first|(with_reducible exact⟨g,i,d⟩)|(go_keep;done))
     (first
      |(go_at_call 79;refine(Qy.o _).mono ?_;clear Qy;rintro e w5 ⟨u5,rfl,af,f⟩;replace hq:=Bt hq f;clear f g i d q0 q1 q2 q3 f0 f1 f2 f3;obtain⟨⟨g,i,d⟩,⟨q0,q1,q2,q3⟩,f0,f1,f2,f3⟩:=Qe.o _ hq)
      |(go_at_call 140;refine(Qo.o _ _ hq af).mono ?_;clear Qo af;rintro e w6 ⟨u6,rfl,k,f⟩;obtain⟨M,P,c5,rfl⟩:=k.form;obtain⟨Q,ae⟩:=ex (decide (z<0));rw[ae]at k;rw[ae];clear ae;replace hq:=Bt hq f;clear f g i d q0 q1 q2 q3 f0 f1 f2 f3;obtain⟨⟨g,i,d⟩,⟨q0,q1,q2,q3⟩,f0,f1,f2,f3⟩:=Qe.o _ hq)
      |(go_at_call 115;refine(Ua.o _ hq).mono ?_;clear Ua;rintro e V0 ⟨u7,rfl,U,f⟩;obtain⟨R,S,rfl⟩:=RN.form U;obtain⟨W,ad⟩:=ex ((Jc 10000 (c-X%c)).length);rw[ad]at U;rw[ad];clear ad;replace k:=k.below f;replace hq:=Bt hq f;clear f g i d q0 q1 q2 q3 f0 f1 f2 f3;obtain⟨⟨g,i,d⟩,⟨q0,q1,q2,q3⟩,f0,f1,f2,f3⟩:=Qe.o _ hq))
    go_wp2_with fail
    have K:=l.below hq;have Qc:=x.below hq;obtain⟨z4,z5⟩:=L1 (C M P c5) (E Q) (C R W S) (E false) K Qc;obtain⟨Qt,Qq⟩:=z4.cp;obtain⟨Qk,Qn⟩:=z5.cp;have Qd:Jm ((V0.setCell ⟨w.heap.size+1+1,0,none⟩ (C M P c5)).setCell ⟨w.heap.size+1+1,1,none⟩ (E Q)) (w.heap.size+1+1+1) 83 (C none 0 0) (E false):=(Qc.far Y _).far Y _;have Qb:=KD U;rw[Qv.o]at Qb;have Ql:=(k.box K rfl rfl (x0:=C M P c5) (x1:=E Q)).box Qd rfl rfl (x0:=C R W S) (x1:=E false);have Qm:=(Qb.box K rfl rfl (x0:=C M P c5) (x1:=E Q)).box Qd rfl rfl (x0:=C R W S) (x1:=E false);have Qu:=Bt Qg hq;exact BA (v:=.tuple #[B #[C M P c5,E Q],B #[C R W S,E false]]) (by simp[results,Tryz.results111,go_sem,Qt,Qq,Qk,Qn]) rfl ⟨_,_,rfl,Ql,Qm,(((Qu.setCell (p:=⟨_,0,none⟩) so _).setCell (p:=⟨_,1,none⟩) so _).setCell (p:=⟨_,0,none⟩) so _).setCell (p:=⟨_,1,none⟩) so _⟩
theorem MH(j k:I)(x y:Int)(w:G)(l:Jt w j x)(m:Jt w k y)(i:y≠0)(n:EM x<=100000000000)(p:EM y<=100000000000):
 L H 111 #[j,k] w λe d=>∃q o,e=.returned (.tuple #[q,o])/\Jt d q (x/y)/\Jt d o (x%y)/\Bl w d:=by
 obtain⟨a,la,ca,rfl,f⟩:=l;obtain⟨b,lb,cb,rfl,g⟩:=m;refine aW a la ca b lb cb x.natAbs y.natAbs _ _ (x/y) (x%y) w f g J (by rw[RN.len f];exact n) (by rw[RN.len g];exact p) (λc=>QX i λh=>c ⟨BK h.1,h.2⟩) λc=>QY i ⟨Bf c.1,c.2⟩
theorem aX(p:I)(x:Int)(w:G)(r:Jt w p x):
 L H 73 #[p] w λe s=>e=.returned (.int .i64 x.sign)/\Bl w s:=by
 obtain⟨a,la,ca,rfl,i⟩:=r;have j:=RN.len i;have t:=(Jw i).2.2.2.1;have f:Bl w (w.alloc (F #[C a la ca,E (decide (x<0))] 83)):=Ba w _;have b0:=Jm.new w 83 (C a la ca) (E (decide (x<0)));have l:la=0↔x=0:=by
  rw[j];constructor
  . intro h;have:=(JD (B:=10000) J).1 (Aq h);omega
  . intro h;rw[h,Int.natAbs_zero,Jz];rfl
 have m:=O l;obtain⟨W0,g⟩:=ex (w.alloc (F #[C a la ca,E (decide (x<0))] 83));rw[g]at f b0;have c:=O g;obtain⟨u,o⟩:=b0.cp;by_cases k:x<0
 . have d:decide (x<0)=true:=BK k;rw[d]at c o ⊢;have b:=O (Int.sign_eq_neg_one_of_neg k);clear j l g i d b0;go_enter Tryz.func73,Tryz.ntmps73
   go_upto_region 1 with fail
   rw[c.o];go_wp2_with fail
   go_ret;exact⟨by rw[b.o];rfl,f⟩
 . have d:decide (x<0)=false:=BI k;rw[d]at c o ⊢;clear j l g i d b0;rcases AY la with n|n
   . subst n;have b:=O (show x.sign=0 by rw[m.o.1 rfl];rfl);go_enter Tryz.func73,Tryz.ntmps73
     go_upto_region 1 with fail
     rw[c.o];go_wp2_with fail
     go_ret;refine⟨?_,f⟩;rw[b.o];first|rfl|(simp;done)
   . have b:=O (show x.sign=1 from Int.sign_eq_one_of_pos (by
      have:=m.o;rcases FI x 0 with h|h|h
      . omega
      . have:=this.2 h;omega
      . exact h))
     have q:min (1:Int) (la:Int)=1:=J
     go_enter Tryz.func73,Tryz.ntmps73
     go_upto_region 1 with fail
     rw[c.o];go_wp2_with fail
     go_ret;refine⟨?_,f⟩;rw[b.o];first|rfl|(simp[q];done)
theorem RU{x y:Int}(a:y≠0):(0:Int)<(Int.gcd x y:Nat):=by
 have:=Int.gcd_pos_of_ne_zero_right x a;omega
theorem Js.mk{t:Bool}{b:Option Addr}{d:Nat}{q:Rat}(e:Jt W (B #[C a l c,E s]) q.num)(f:Jt W (B #[C b k d,E t]) (q.den:Int)):Js W (B #[C a l c,E s,C b k d,E t]) q:=⟨_,_,_,_,_,_,_,_,rfl,e,f⟩
theorem Jt.sign{z:Int}(h:Jt W (B #[C a l c,E s]) z):s=decide (z<0):=by
 obtain⟨a',l',c',e,_⟩:=h;cases e;rfl
theorem KK(va vb:I)(x y:Int)(w:G)(ha:Jt w va x)(f:Jt w vb y)(hy:y≠0)(cn:Sok x)(co:Sok y):
 L H 80 #[va,vb] w λe w'=>∃u,e=.returned u/\Js w' u (Rat.divInt x y)/\Bl w w':=by
 obtain⟨bk,eh,cj,fi,rfl⟩:=Jt.form2 ha;obtain⟨bm,ei,ck,fj,rfl⟩:=Jt.form2 f;have q:=((((Mem.nil w).push (.big x) ha).push (.big y) (Has.alloc (d:=.big y) f _)).push .zref rfl);simp only[A1]at q;have q:Mem w (((w.alloc (F #[C bk eh cj,E fi] 83)).alloc (F #[C bm ei ck,E fj] 83)).alloc (F #[C none 0 0,E false,C none 0 0,E false] 85)) [some (w.heap.size,.big x),some (w.heap.size+1,.big y),some (w.heap.size+1+1,.zref)]:=q;obtain⟨W0,am⟩:=ex (((w.alloc (F #[C bk eh cj,E fi] 83)).alloc (F #[C bm ei ck,E fj] 83)).alloc (F #[C none 0 0,E false,C none 0 0,E false] 85));have Ud:=O am;rw[am]at q;have M1:Hid (Mem w W0 [some (w.heap.size,.big x),some (w.heap.size+1,.big y),some (w.heap.size+1+1,.zref)]):=O q;obtain⟨r,Qa,Qb⟩:=Dg hy cn co;clear q am ha f hy cn co;go_enter Tryz.func80,Tryz.ntmps80
 go_upto_region 1 with fail
 rw[Ud.o];clear Ud;obtain⟨a1,l1,c1,s1,n1,i1⟩:=M1.o.big (i:=0) rfl;obtain⟨Ui,Uk⟩:=n1.cp;obtain⟨a2,l2,c2,s2,n2,i2⟩:=M1.o.big (i:=1) rfl;obtain⟨Uj,Ug⟩:=n2.cp;go_upto_region 2 with(go_at_call 109;refine(aT _ _ x y _ i1 i2 (by have:=Qa.o.size;omega) (by have:=Qb.o.size;omega)).mono ?_;rintro e w1 ⟨u,rfl,hu,f⟩;obtain⟨bj,ed,ci,fh,rfl⟩:=Jt.form2 hu)
 obtain⟨V3,b⟩:=ex (w1.alloc (F #[C bj ed ci,E fh] 83));obtain⟨g,c⟩:=ex (w1.heap.size);have a:Mem w (w1.alloc (F #[C bj ed ci,E fh] 83)) [some (w.heap.size,.big x),some (w.heap.size+1,.big y),some (w.heap.size+1+1,.zref),some (w1.heap.size,.big (((Int.gcd x y:Nat):Int)))]:=Mem.push (M1.o.below f) (.big (((Int.gcd x y:Nat):Int))) hu;rw[b,c]at a;rw[b];rw[c];have p:Hid (Mem w V3 [some (w.heap.size,.big x),some (w.heap.size+1,.big y),some (w.heap.size+1+1,.zref),some (g,.big (((Int.gcd x y:Nat):Int)))]):=O (a);clear M1;clear a b c;clear n1 Ui Uk i1 n2 Uj Ug i2 hu f;have HG:=O (Sok.gcd Qa.o Qb.o);by_cases s:y<0
 . have HL:=O s;obtain⟨a4,l4,c4,s4,n4,i4⟩:=p.o.big (i:=1) rfl;have Uf:=n4.c1;have hs:=Jt.sign i4;rw[BK s]at hs;subst hs;clear s;go_upto_region 3 with fail
   clear n4 Uf i4;obtain⟨a5,l5,c5,s5,n5,i5⟩:=p.o.big (i:=3) rfl;obtain⟨Ub,Uc⟩:=n5.cp;go_upto_region 4 with(go_at_call 110;refine(PM _ (((Int.gcd x y:Nat):Int)) _ i5).mono ?_;rintro e w6 ⟨u6,rfl,an,aj⟩;obtain⟨bn,et,cl,fk,rfl⟩:=Jt.form2 an;obtain⟨Ub,Uc⟩:=(n5.below aj).cp;obtain⟨Um,Un⟩:=(n5.below aj).fp)
   obtain⟨V6,b⟩:=ex ((w6.setCell ⟨g,0,none⟩ (C bn et cl)).setCell ⟨g,1,none⟩ (E fk));have a:Mem w ((w6.setCell ⟨g,0,none⟩ (C bn et cl)).setCell ⟨g,1,none⟩ (E fk)) [some (w.heap.size,.big x),some (w.heap.size+1,.big y),some (w.heap.size+1+1,.zref),some (g,.big (-((Int.gcd x y:Nat):Int)))]:=Mem.putBig (p.o.below aj) (i:=3) rfl an;rw[b]at a;rw[b];have M3:Hid (Mem w V6 [some (w.heap.size,.big x),some (w.heap.size+1,.big y),some (w.heap.size+1+1,.zref),some (g,.big (-((Int.gcd x y:Nat):Int)))]):=O (a);clear p;clear a b;clear n5 Ub Uc i5 an aj Um Un;obtain⟨D,t,A⟩:=Dg (show(-((Int.gcd x y:Nat):Int))≠0 by have:=RU (x:=x) r.o;omega) (show(-((Int.gcd x y:Nat):Int))=(if y<0 then -((Int.gcd x y:Nat):Int)else((Int.gcd x y:Nat):Int))by rw[BG HL.o]) HG.o.neg;obtain⟨a7,l7,c7,s7,n7,i7⟩:=M3.o.big (i:=0) rfl;obtain⟨Ue,Uo⟩:=n7.cp;obtain⟨a8,l8,c8,s8,n8,i8⟩:=M3.o.big (i:=3) rfl;obtain⟨Uh,Ul⟩:=n8.cp;go_upto_region 5 with(go_at_call 111;refine(MH _ _ x ((-((Int.gcd x y:Nat):Int))) _ i7 i8 D.o (by have:=Qa.o.size;omega) (by have:=A.o.size;omega)).mono ?_;rintro e m ⟨u1,u2,rfl,j,k,f⟩;obtain⟨K,U,Q,ad,rfl⟩:=Jt.form2 j;obtain⟨M,V,R,ae,rfl⟩:=Jt.form2 k)
   have a:=Mem.push (Mem.push (M3.o.below f) (.big (x/(-((Int.gcd x y:Nat):Int)))) j) (.big (x%(-((Int.gcd x y:Nat):Int)))) (Has.alloc (d:=.big (x%(-((Int.gcd x y:Nat):Int)))) k _);simp only[A1]at a;have a:Mem w ((m.alloc (F #[C K U Q,E ad] 83)).alloc (F #[C M V R,E ae] 83)) [some (w.heap.size,.big x),some (w.heap.size+1,.big y),some (w.heap.size+1+1,.zref),some (g,.big (-((Int.gcd x y:Nat):Int))),some (m.heap.size,.big (x/(-((Int.gcd x y:Nat):Int)))),some (m.heap.size+1,.big (x%(-((Int.gcd x y:Nat):Int))))]:=a;obtain⟨fo,b⟩:=ex ((m.alloc (F #[C K U Q,E ad] 83)).alloc (F #[C M V R,E ae] 83));obtain⟨B9,c⟩:=ex (m.heap.size);rw[b,c]at a;rw[b];rw[c];obtain⟨B10,l⟩:=ex (B9+1);rw[l]at a ⊢;have o:Hid (Mem w fo [some (w.heap.size,.big x),some (w.heap.size+1,.big y),some (w.heap.size+1+1,.zref),some (g,.big (-((Int.gcd x y:Nat):Int))),some (B9,.big (x/(-((Int.gcd x y:Nat):Int)))),some (B10,.big (x%(-((Int.gcd x y:Nat):Int))))]):=O (a);clear M3;clear a b c l;clear n7 Ue Uo i7 n8 Uh Ul i8 j k f;obtain⟨gb,iw,gn,jd,ew,ct⟩:=o.o.big (i:=1) rfl;obtain⟨Qr,Qk⟩:=ew.cp;obtain⟨gg,ix,go,je,f6,de⟩:=o.o.big (i:=3) rfl;obtain⟨Ua,Qy⟩:=f6.cp;go_upto_region 6 with(go_at_call 111;refine(MH _ _ y ((-((Int.gcd x y:Nat):Int))) _ ct de D.o (by have:=Qb.o.size;omega) (by have:=A.o.size;omega)).mono ?_;rintro e n ⟨u1,u2,rfl,j,k,f⟩;obtain⟨N,W,S,af,rfl⟩:=Jt.form2 j;obtain⟨P,X,T,ah,rfl⟩:=Jt.form2 k)
   have a:=Mem.push (Mem.push (o.o.below f) (.big (y/(-((Int.gcd x y:Nat):Int)))) j) (.big (y%(-((Int.gcd x y:Nat):Int)))) (Has.alloc (d:=.big (y%(-((Int.gcd x y:Nat):Int)))) k _);simp only[A1]at a;have a:Mem w ((n.alloc (F #[C N W S,E af] 83)).alloc (F #[C P X T,E ah] 83)) [some (w.heap.size,.big x),some (w.heap.size+1,.big y),some (w.heap.size+1+1,.zref),some (g,.big (-((Int.gcd x y:Nat):Int))),some (B9,.big (x/(-((Int.gcd x y:Nat):Int)))),some (B10,.big (x%(-((Int.gcd x y:Nat):Int)))),some (n.heap.size,.big (y/(-((Int.gcd x y:Nat):Int)))),some (n.heap.size+1,.big (y%(-((Int.gcd x y:Nat):Int))))]:=a;obtain⟨az,b⟩:=ex ((n.alloc (F #[C N W S,E af] 83)).alloc (F #[C P X T,E ah] 83));obtain⟨aw,c⟩:=ex (n.heap.size);rw[b,c]at a;rw[b];rw[c];obtain⟨fl,l⟩:=ex (aw+1);rw[l]at a ⊢;have z:Hid (Mem w az [some (w.heap.size,.big x),some (w.heap.size+1,.big y),some (w.heap.size+1+1,.zref),some (g,.big (-((Int.gcd x y:Nat):Int))),some (B9,.big (x/(-((Int.gcd x y:Nat):Int)))),some (B10,.big (x%(-((Int.gcd x y:Nat):Int)))),some (aw,.big (y/(-((Int.gcd x y:Nat):Int)))),some (fl,.big (y%(-((Int.gcd x y:Nat):Int))))]):=O (a);clear o;clear a b c l;clear ew Qr Qk ct f6 Ua Qy de j k f;obtain⟨bf,du,bt,fc,fw,fs⟩:=z.o.big (i:=4) rfl;obtain⟨gw,gy⟩:=fw.cp;obtain⟨bg,dw,bu,fd,fx,ft⟩:=z.o.big (i:=6) rfl;obtain⟨gz,ia⟩:=fx.cp;have ap:=z.o.zref (i:=2) rfl;obtain⟨Qw,Qp,Qg,Qj⟩:=ap.cq;obtain⟨ii,ij,ik,il⟩:=ap.fq;have hr:Js az (B #[C bf du bt,E fc,C bg dw bu,E fd]) (Rat.divInt x y):=Js.mk (by rw[Lg r.o,<-t.o];exact fs) (by rw[Lh r.o,<-t.o];exact ft);have Qf:=z.o.ge 2 rfl;have hB:=z.o.2.2;go_wp2_with fail
   exact BA (v:=B #[C bf du bt,E fc,C bg dw bu,E fd]) (by simp[results,Tryz.results80,go_sem,Qw,Qp,Qg,Qj]) rfl ⟨_,rfl,hr.put4 ap rfl rfl rfl rfl _ _ _ _,Ju hB Qf _ _ _ _⟩
 . have HL:=O s;obtain⟨gh,iy,gp,jf,f7,dh⟩:=p.o.big (i:=1) rfl;have Qu:=f7.c1;have hs:=Jt.sign dh;rw[BI s]at hs;subst hs;clear s;go_upto_region 4 with fail
   clear f7 Qu dh;obtain⟨D,t,A⟩:=Dg (show((Int.gcd x y:Nat):Int)≠0 by have:=RU (x:=x) r.o;omega) (show((Int.gcd x y:Nat):Int)=(if y<0 then -((Int.gcd x y:Nat):Int)else((Int.gcd x y:Nat):Int))by rw[BE (by have:=HL.o;omega)]) HG.o;obtain⟨gi,iz,gq,jg,f8,di⟩:=p.o.big (i:=0) rfl;obtain⟨Qh,Qz⟩:=f8.cp;obtain⟨gj,ja,gr,jh,f9,dj⟩:=p.o.big (i:=3) rfl;obtain⟨Qt,Qo⟩:=f9.cp;go_upto_region 5 with(go_at_call 111;refine(MH _ _ x (((Int.gcd x y:Nat):Int)) _ di dj D.o (by have:=Qa.o.size;omega) (by have:=A.o.size;omega)).mono ?_;rintro e m ⟨u1,u2,rfl,j,k,f⟩;obtain⟨K,U,Q,ad,rfl⟩:=Jt.form2 j;obtain⟨M,V,R,ae,rfl⟩:=Jt.form2 k)
   have a:=Mem.push (Mem.push (p.o.below f) (.big (x/((Int.gcd x y:Nat):Int))) j) (.big (x%((Int.gcd x y:Nat):Int))) (Has.alloc (d:=.big (x%((Int.gcd x y:Nat):Int))) k _);simp only[A1]at a;have a:Mem w ((m.alloc (F #[C K U Q,E ad] 83)).alloc (F #[C M V R,E ae] 83)) [some (w.heap.size,.big x),some (w.heap.size+1,.big y),some (w.heap.size+1+1,.zref),some (g,.big (((Int.gcd x y:Nat):Int))),some (m.heap.size,.big (x/((Int.gcd x y:Nat):Int))),some (m.heap.size+1,.big (x%((Int.gcd x y:Nat):Int)))]:=a;obtain⟨fr,b⟩:=ex ((m.alloc (F #[C K U Q,E ad] 83)).alloc (F #[C M V R,E ae] 83));obtain⟨ai,c⟩:=ex (m.heap.size);rw[b,c]at a;rw[b];rw[c];obtain⟨ak,l⟩:=ex (ai+1);rw[l]at a ⊢;have M3:Hid (Mem w fr [some (w.heap.size,.big x),some (w.heap.size+1,.big y),some (w.heap.size+1+1,.zref),some (g,.big (((Int.gcd x y:Nat):Int))),some (ai,.big (x/((Int.gcd x y:Nat):Int))),some (ak,.big (x%((Int.gcd x y:Nat):Int)))]):=O (a);clear p;clear a b c l;clear f8 Qh Qz di f9 Qt Qo dj j k f;obtain⟨gk,jb,gu,ji,fa,dp⟩:=M3.o.big (i:=1) rfl;obtain⟨Qn,Qq⟩:=fa.cp;obtain⟨gl,jc,gv,jj,fb,dt⟩:=M3.o.big (i:=3) rfl;obtain⟨Qx,Qs⟩:=fb.cp;go_upto_region 6 with(go_at_call 111;refine(MH _ _ y (((Int.gcd x y:Nat):Int)) _ dp dt D.o (by have:=Qb.o.size;omega) (by have:=A.o.size;omega)).mono ?_;rintro e n ⟨u1,u2,rfl,j,k,f⟩;obtain⟨N,W,S,af,rfl⟩:=Jt.form2 j;obtain⟨P,X,T,ah,rfl⟩:=Jt.form2 k)
   have a:=Mem.push (Mem.push (M3.o.below f) (.big (y/((Int.gcd x y:Nat):Int))) j) (.big (y%((Int.gcd x y:Nat):Int))) (Has.alloc (d:=.big (y%((Int.gcd x y:Nat):Int))) k _);simp only[A1]at a;have a:Mem w ((n.alloc (F #[C N W S,E af] 83)).alloc (F #[C P X T,E ah] 83)) [some (w.heap.size,.big x),some (w.heap.size+1,.big y),some (w.heap.size+1+1,.zref),some (g,.big (((Int.gcd x y:Nat):Int))),some (ai,.big (x/((Int.gcd x y:Nat):Int))),some (ak,.big (x%((Int.gcd x y:Nat):Int))),some (n.heap.size,.big (y/((Int.gcd x y:Nat):Int))),some (n.heap.size+1,.big (y%((Int.gcd x y:Nat):Int)))]:=a;obtain⟨bc,b⟩:=ex ((n.alloc (F #[C N W S,E af] 83)).alloc (F #[C P X T,E ah] 83));obtain⟨ay,c⟩:=ex (n.heap.size);rw[b,c]at a;rw[b];rw[c];obtain⟨fm,l⟩:=ex (ay+1);rw[l]at a ⊢;have o:Hid (Mem w bc [some (w.heap.size,.big x),some (w.heap.size+1,.big y),some (w.heap.size+1+1,.zref),some (g,.big (((Int.gcd x y:Nat):Int))),some (ai,.big (x/((Int.gcd x y:Nat):Int))),some (ak,.big (x%((Int.gcd x y:Nat):Int))),some (ay,.big (y/((Int.gcd x y:Nat):Int))),some (fm,.big (y%((Int.gcd x y:Nat):Int)))]):=O (a);clear M3;clear a b c l;clear fa Qn Qq dp fb Qx Qs dt j k f;obtain⟨bh,dx,ce,fe,fy,fu⟩:=o.o.big (i:=4) rfl;obtain⟨ib,ic⟩:=fy.cp;obtain⟨bi,dz,cg,fg,ga,fv⟩:=o.o.big (i:=6) rfl;obtain⟨ie,ig⟩:=ga.cp;have aq:=o.o.zref (i:=2) rfl;obtain⟨Qv,Ql,Qi,Qm⟩:=aq.cq;obtain⟨im,io,ir,iu⟩:=aq.fq;have hr:Js bc (B #[C bh dx ce,E fe,C bi dz cg,E fg]) (Rat.divInt x y):=Js.mk (by rw[Lg r.o,<-t.o];exact fu) (by rw[Lh r.o,<-t.o];exact fv);have Qf:=o.o.ge 2 rfl;have hB:=o.o.2.2;go_wp2_with fail
   exact BA (v:=B #[C bh dx ce,E fe,C bi dz cg,E fg]) (by simp[results,Tryz.results80,go_sem,Qv,Ql,Qi,Qm]) rfl ⟨_,rfl,hr.put4 aq rfl rfl rfl rfl _ _ _ _,Ju hB Qf _ _ _ _⟩
theorem RV(va vb:I)(p q:Rat)(w:G)(ha:Js w va p)(hb:Js w vb q)(ay:Sq p)(az:Sq q):
 L H 43 #[va,vb] w λe c=>∃u,e=.returned u/\Js c u (p+q)/\Bl w c:=by
 obtain⟨af,bg,ak,bi,ai,bc,an,bk,rfl⟩:=Js.form ha;obtain⟨ah,bh,am,bj,aj,bf,ap,bm,rfl⟩:=Js.form hb;have m:=((((Mem.nil w).push (.ref p) ha).push (.ref q) (Has.alloc (d:=.ref q) hb _)).push .zref rfl);simp only[A1]at m;have m:Mem w (((w.alloc (F #[C af bg ak,E bi,C ai bc an,E bk] 85)).alloc (F #[C ah bh am,E bj,C aj bf ap,E bm] 85)).alloc (F #[C none 0 0,E false,C none 0 0,E false] 85)) [some (w.heap.size,.ref p),some (w.heap.size+1,.ref q),some (w.heap.size+1+1,.zref)]:=m;obtain⟨W0,ad⟩:=ex (((w.alloc (F #[C af bg ak,E bi,C ai bc an,E bk] 85)).alloc (F #[C ah bh am,E bj,C aj bf ap,E bm] 85)).alloc (F #[C none 0 0,E false,C none 0 0,E false] 85));have Qu:=O ad;rw[ad]at m;have g:Hid (Mem w W0 [some (w.heap.size,.ref p),some (w.heap.size+1,.ref q),some (w.heap.size+1+1,.zref)]):=O m;have j:=O ay;have k:=O az;clear m ad ha hb ay az;go_enter Tryz.func43,Tryz.ntmps43
 go_upto_region 1 with fail
 rw[Qu.o];clear Qu;obtain⟨a1,l1,c1,s1,b1,k1,d1,t1,N,r1,i1,j1⟩:=g.o.ref (i:=0) rfl;obtain⟨r,t,y,A⟩:=N.cq;obtain⟨a2,l2,c2,s2,b2,k2,d2,t2,P,r2,i2,j2⟩:=g.o.ref (i:=1) rfl;obtain⟨s,o,n,K⟩:=P.cq;have a:=g.o.zref (i:=2) rfl;obtain⟨z,x,M,D⟩:=a.cq;obtain⟨U,T,S,Q⟩:=a.fq;obtain⟨H4,H9,Qx,Qv,Qw⟩:=GY (λ(V:G) (h:Bl W0 V)=>X7 _ _ (p.num) ((q.den:Int)) V (i1.below h) (j2.below h) (by have:=j.o.num.size;omega) (by have:=k.o.den.size;omega)) (λ(V:G) (h:Bl W0 V)=>X7 _ _ (q.num) ((p.den:Int)) V (i2.below h) (j1.below h) (by have:=k.o.num.size;omega) (by have:=j.o.den.size;omega)) (λ(V:G) (h:Bl W0 V) (v4:I) (b:Jt V v4 (p.num*(q.den:Int))) (v9:I) (f:Jt V v9 (q.num*(p.den:Int)))=>NN _ _ (p.num*(q.den:Int)) (q.num*(p.den:Int)) V b f (by have:=(j.o.cross k.o).size;omega) (by have:=(k.o.cross j.o).size;omega)) (λ(V:G) (h:Bl W0 V)=>X7 _ _ ((p.den:Int)) ((q.den:Int)) V (j1.below h) (j2.below h) (by have:=j.o.den.size;omega) (by have:=k.o.den.size;omega)) λ(V:G) (h:Bl W0 V) (bn:I) (l:Jt V bn (p.num*(q.den:Int)+q.num*(p.den:Int))) (bt:I) (R:Jt V bt ((p.den:Int)*(q.den:Int)))=>(by have h:=KK _ _ (p.num*(q.den:Int)+q.num*(p.den:Int)) ((p.den:Int)*(q.den:Int)) V l R (Co (by have:=p.den_nz;omega) (by have:=q.den_nz;omega)) (j.o.sumN k.o) (j.o.mulD k.o);rw[PS]at h;exact h);have ct:w.heap.size≠w.heap.size+1+1:=g.o.ne 0 2 rfl rfl DQ;have de:w.heap.size+1≠w.heap.size+1+1:=g.o.ne 1 2 rfl rfl DQ;have hq:Bl W0 W0.drew:=(BB _ W0).drew;go_region_held3 (λc=>c.cell? ⟨w.heap.size,0,none⟩=some (C a1 l1 c1)/\c.cell? ⟨w.heap.size,1,none⟩=some (E s1)/\c.cell? ⟨w.heap.size,2,none⟩=some (C b1 k1 d1)/\c.cell? ⟨w.heap.size,3,none⟩=some (E t1)/\c.cell? ⟨w.heap.size+1,0,none⟩=some (C a2 l2 c2)/\c.cell? ⟨w.heap.size+1,1,none⟩=some (E s2)/\c.cell? ⟨w.heap.size+1,2,none⟩=some (C b2 k2 d2)/\c.cell? ⟨w.heap.size+1,3,none⟩=some (E t2)) (first|(with_reducible exact⟨r,t,y,A,s,o,n,K⟩)|(go_keep;done)|(refine⟨?_,?_,?_,?_,?_,?_,?_,?_⟩<;>((repeat rw[JH J]);first|assumption|(go_keep;done))))
  (first
   |(go_at_call 82;refine(H4.o _ hq ).mono ?_;clear H4;rintro e w4 ⟨v4,rfl,b,cj⟩;have hq:=Bt hq cj;obtain⟨r,t,y,A⟩:=(N.below hq).cq;obtain⟨s,o,n,K⟩:=(P.below hq).cq;obtain⟨z,x,M,D⟩:=(a.below hq).cq;obtain⟨U,T,S,Q⟩:=(a.below hq).fq)
   |(go_at_call 82;refine(H9.o _ hq ).mono ?_;clear H9;rintro e w9 ⟨v9,rfl,f,aw⟩;have b:=b.below aw;have hq:=Bt hq aw;obtain⟨r,t,y,A⟩:=(N.below hq).cq;obtain⟨s,o,n,K⟩:=(P.below hq).cq;obtain⟨z,x,M,D⟩:=(a.below hq).cq;obtain⟨U,T,S,Q⟩:=(a.below hq).fq)
   |(go_at_call 81;refine(Qx.o _ hq _ b _ f).mono ?_;clear Qx;rintro e di ⟨bn,rfl,l,ae⟩;have b:=b.below ae;have f:=f.below ae;have hq:=Bt hq ae;obtain⟨r,t,y,A⟩:=(N.below hq).cq;obtain⟨s,o,n,K⟩:=(P.below hq).cq;obtain⟨z,x,M,D⟩:=(a.below hq).cq;obtain⟨U,T,S,Q⟩:=(a.below hq).fq)
   |(go_at_call 82;refine(Qv.o _ hq ).mono ?_;clear Qv;rintro e dj ⟨bt,rfl,R,X⟩;have b:=b.below X;have f:=f.below X;have l:=l.below X;have hq:=Bt hq X;obtain⟨r,t,y,A⟩:=(N.below hq).cq;obtain⟨s,o,n,K⟩:=(P.below hq).cq;obtain⟨z,x,M,D⟩:=(a.below hq).cq;obtain⟨U,T,S,Q⟩:=(a.below hq).fq)
   |(go_at_call 80;refine(Qw.o _ hq _ l _ R).mono ?_;clear Qw;rintro e dp ⟨dh,rfl,aq,W⟩;obtain⟨bu,cl,cg,cn,ce,ck,ci,co,rfl⟩:=Js.form aq;have b:=b.below W;have f:=f.below W;have l:=l.below W;have R:=R.below W;have hq:=Bt hq W;obtain⟨r,t,y,A⟩:=(N.below hq).cq;obtain⟨s,o,n,K⟩:=(P.below hq).cq;obtain⟨z,x,M,D⟩:=(a.below hq).cq;obtain⟨U,T,S,Q⟩:=(a.below hq).fq))
 all_goals go_wp2_with fail
 have Qz:=Bt g.o.2.2 hq;have Qy:=g.o.ge 2 rfl;exact BA (v:=B #[C bu cl cg,E cn,C ce ck ci,E co]) (by simp[results,Tryz.results43,go_sem,z,x,M,D]) rfl ⟨_,rfl,aq.put4 (a.below hq) rfl rfl rfl rfl _ _ _ _,Ju Qz Qy _ _ _ _⟩
theorem OC(va vb:I)(p q:Rat)(w:G)(U:Js w va p)(W:Js w vb q)(aq:Sq p)(aw:Sq q):
 L H 44 #[va,vb] w λe a=>∃u,e=.returned u/\Js a u (p*q)/\Bl w a:=by
 obtain⟨ad,bc,ai,bg,af,ay,ak,bi,rfl⟩:=Js.form U;obtain⟨ae,bf,aj,bh,ah,az,am,bj,rfl⟩:=Js.form W;have g:=((((Mem.nil w).push (.ref p) U).push (.ref q) (Has.alloc (d:=.ref q) W _)).push .zref rfl);simp only[A1]at g;have g:Mem w (((w.alloc (F #[C ad bc ai,E bg,C af ay ak,E bi] 85)).alloc (F #[C ae bf aj,E bh,C ah az am,E bj] 85)).alloc (F #[C none 0 0,E false,C none 0 0,E false] 85)) [some (w.heap.size,.ref p),some (w.heap.size+1,.ref q),some (w.heap.size+1+1,.zref)]:=g;obtain⟨W0,T⟩:=ex (((w.alloc (F #[C ad bc ai,E bg,C af ay ak,E bi] 85)).alloc (F #[C ae bf aj,E bh,C ah az am,E bj] 85)).alloc (F #[C none 0 0,E false,C none 0 0,E false] 85));have Qs:=O T;rw[T]at g;have c:Hid (Mem w W0 [some (w.heap.size,.ref p),some (w.heap.size+1,.ref q),some (w.heap.size+1+1,.zref)]):=O g;have k:=O aq;have l:=O aw;clear g T U W aq aw;go_enter Tryz.func44,Tryz.ntmps44
 go_upto_region 1 with fail
 rw[Qs.o];clear Qs;obtain⟨a1,l1,c1,s1,b1,k1,d1,t1,M,r1,i1,j1⟩:=c.o.ref (i:=0) rfl;obtain⟨o,s,x,z⟩:=M.cq;obtain⟨a2,l2,c2,s2,b2,k2,d2,t2,N,r2,i2,j2⟩:=c.o.ref (i:=1) rfl;obtain⟨r,n,m,D⟩:=N.cq;have b:=c.o.zref (i:=2) rfl;obtain⟨y,t,K,A⟩:=b.cq;obtain⟨S,R,Q,P⟩:=b.fq;obtain⟨H4,H9,Qt⟩:=Dg (λ(V:G) (h:Bl W0 V)=>X7 _ _ (p.num) (q.num) V (i1.below h) (i2.below h) (by have:=k.o.num.size;omega) (by have:=l.o.num.size;omega)) (λ(V:G) (h:Bl W0 V)=>X7 _ _ ((p.den:Int)) ((q.den:Int)) V (j1.below h) (j2.below h) (by have:=k.o.den.size;omega) (by have:=l.o.den.size;omega)) λ(V:G) (h:Bl W0 V) (v4:I) (f:Jt V v4 (p.num*q.num)) (v9:I) (j:Jt V v9 ((p.den:Int)*(q.den:Int)))=>(by have h:=KK _ _ (p.num*q.num) ((p.den:Int)*(q.den:Int)) V f j (Co (by have:=p.den_nz;omega) (by have:=q.den_nz;omega)) (k.o.mulN l.o) (k.o.mulD l.o);rw[PR]at h;exact h);have ck:w.heap.size≠w.heap.size+1+1:=c.o.ne 0 2 rfl rfl DQ;have cl:w.heap.size+1≠w.heap.size+1+1:=c.o.ne 1 2 rfl rfl DQ;have hq:Bl W0 W0.drew:=(BB _ W0).drew;go_region_held3 (λa=>a.cell? ⟨w.heap.size,0,none⟩=some (C a1 l1 c1)/\a.cell? ⟨w.heap.size,1,none⟩=some (E s1)/\a.cell? ⟨w.heap.size,2,none⟩=some (C b1 k1 d1)/\a.cell? ⟨w.heap.size,3,none⟩=some (E t1)/\a.cell? ⟨w.heap.size+1,0,none⟩=some (C a2 l2 c2)/\a.cell? ⟨w.heap.size+1,1,none⟩=some (E s2)/\a.cell? ⟨w.heap.size+1,2,none⟩=some (C b2 k2 d2)/\a.cell? ⟨w.heap.size+1,3,none⟩=some (E t2)) (first|(with_reducible exact⟨o,s,x,z,r,n,m,D⟩)|(go_keep;done)|(refine⟨?_,?_,?_,?_,?_,?_,?_,?_⟩<;>((repeat rw[JH J]);first|assumption|(go_keep;done))))
  (first
   |(go_at_call 82;refine(H4.o _ hq ).mono ?_;clear H4;rintro e w4 ⟨v4,rfl,f,bu⟩;have hq:=Bt hq bu;obtain⟨o,s,x,z⟩:=(M.below hq).cq;obtain⟨r,n,m,D⟩:=(N.below hq).cq;obtain⟨y,t,K,A⟩:=(b.below hq).cq;obtain⟨S,R,Q,P⟩:=(b.below hq).fq)
   |(go_at_call 82;refine(H9.o _ hq ).mono ?_;clear H9;rintro e w9 ⟨v9,rfl,j,ap⟩;have f:=f.below ap;have hq:=Bt hq ap;obtain⟨o,s,x,z⟩:=(M.below hq).cq;obtain⟨r,n,m,D⟩:=(N.below hq).cq;obtain⟨y,t,K,A⟩:=(b.below hq).cq;obtain⟨S,R,Q,P⟩:=(b.below hq).fq)
   |(go_at_call 80;refine(Qt.o _ hq _ f _ j).mono ?_;clear Qt;rintro e co ⟨cn,rfl,an,X⟩;obtain⟨bk,cg,bn,ci,bm,ce,bt,cj,rfl⟩:=Js.form an;have f:=f.below X;have j:=j.below X;have hq:=Bt hq X;obtain⟨o,s,x,z⟩:=(M.below hq).cq;obtain⟨r,n,m,D⟩:=(N.below hq).cq;obtain⟨y,t,K,A⟩:=(b.below hq).cq;obtain⟨S,R,Q,P⟩:=(b.below hq).fq))
 all_goals go_wp2_with fail
 have Qv:=Bt c.o.2.2 hq;have Qu:=c.o.ge 2 rfl;exact BA (v:=B #[C bk cg bn,E ci,C bm ce bt,E cj]) (by simp[results,Tryz.results44,go_sem,y,t,K,A]) rfl ⟨_,rfl,an.put4 (b.below hq) rfl rfl rfl rfl _ _ _ _,Ju Qv Qu _ _ _ _⟩
theorem RW(va vb:I)(p q:Rat)(w:G)(U:Js w va p)(W:Js w vb q)(aw:Sq p)(ay:Sq q)(aq:q≠0):
 L H 77 #[va,vb] w λe a=>∃u,e=.returned u/\Js a u (p/q)/\Bl w a:=by
 obtain⟨ad,bf,ai,bh,af,az,ak,bj,rfl⟩:=Js.form U;obtain⟨ae,bg,aj,bi,ah,bc,am,bk,rfl⟩:=Js.form W;have g:=((((Mem.nil w).push (.ref p) U).push (.ref q) (Has.alloc (d:=.ref q) W _)).push .zref rfl);simp only[A1]at g;have g:Mem w (((w.alloc (F #[C ad bf ai,E bh,C af az ak,E bj] 85)).alloc (F #[C ae bg aj,E bi,C ah bc am,E bk] 85)).alloc (F #[C none 0 0,E false,C none 0 0,E false] 85)) [some (w.heap.size,.ref p),some (w.heap.size+1,.ref q),some (w.heap.size+1+1,.zref)]:=g;obtain⟨W0,T⟩:=ex (((w.alloc (F #[C ad bf ai,E bh,C af az ak,E bj] 85)).alloc (F #[C ae bg aj,E bi,C ah bc am,E bk] 85)).alloc (F #[C none 0 0,E false,C none 0 0,E false] 85));have Qt:=O T;rw[T]at g;have c:Hid (Mem w W0 [some (w.heap.size,.ref p),some (w.heap.size+1,.ref q),some (w.heap.size+1+1,.zref)]):=O g;obtain⟨k,l,Qo⟩:=Dg aw ay aq;clear g T U W aw ay aq;go_enter Tryz.func77,Tryz.ntmps77
 go_upto_region 1 with fail
 rw[Qt.o];clear Qt;obtain⟨a1,l1,c1,s1,b1,k1,d1,t1,M,r1,i1,j1⟩:=c.o.ref (i:=0) rfl;obtain⟨o,s,x,z⟩:=M.cq;obtain⟨a2,l2,c2,s2,b2,k2,d2,t2,N,r2,i2,j2⟩:=c.o.ref (i:=1) rfl;obtain⟨r,n,m,D⟩:=N.cq;have b:=c.o.zref (i:=2) rfl;obtain⟨y,t,K,A⟩:=b.cq;obtain⟨S,R,Q,P⟩:=b.fq;obtain⟨H4,H9,Qu⟩:=Dg (λ(V:G) (h:Bl W0 V)=>X7 _ _ (p.num) ((q.den:Int)) V (i1.below h) (j2.below h) (by have:=k.o.num.size;omega) (by have:=l.o.den.size;omega)) (λ(V:G) (h:Bl W0 V)=>X7 _ _ ((p.den:Int)) (q.num) V (j1.below h) (i2.below h) (by have:=k.o.den.size;omega) (by have:=l.o.num.size;omega)) λ(V:G) (h:Bl W0 V) (v4:I) (f:Jt V v4 (p.num*(q.den:Int))) (v9:I) (j:Jt V v9 ((p.den:Int)*q.num))=>(by have h:=KK _ _ (p.num*(q.den:Int)) ((p.den:Int)*q.num) V f j (Co (by have:=p.den_nz;omega) λh=>Qo.o (Fy.1 h)) (k.o.cross l.o) (k.o.cross2 l.o);rw[PQ]at h;exact h);have cl:w.heap.size≠w.heap.size+1+1:=c.o.ne 0 2 rfl rfl DQ;have cn:w.heap.size+1≠w.heap.size+1+1:=c.o.ne 1 2 rfl rfl DQ;have hq:Bl W0 W0.drew:=(BB _ W0).drew;go_region_held3 (λa=>a.cell? ⟨w.heap.size,0,none⟩=some (C a1 l1 c1)/\a.cell? ⟨w.heap.size,1,none⟩=some (E s1)/\a.cell? ⟨w.heap.size,2,none⟩=some (C b1 k1 d1)/\a.cell? ⟨w.heap.size,3,none⟩=some (E t1)/\a.cell? ⟨w.heap.size+1,0,none⟩=some (C a2 l2 c2)/\a.cell? ⟨w.heap.size+1,1,none⟩=some (E s2)/\a.cell? ⟨w.heap.size+1,2,none⟩=some (C b2 k2 d2)/\a.cell? ⟨w.heap.size+1,3,none⟩=some (E t2)) (first|(with_reducible exact⟨o,s,x,z,r,n,m,D⟩)|(go_keep;done)|(refine⟨?_,?_,?_,?_,?_,?_,?_,?_⟩<;>((repeat rw[JH J]);first|assumption|(go_keep;done))))
  (first
   |(go_at_call 82;refine(H4.o _ hq ).mono ?_;clear H4;rintro e w4 ⟨v4,rfl,f,ce⟩;have hq:=Bt hq ce;obtain⟨o,s,x,z⟩:=(M.below hq).cq;obtain⟨r,n,m,D⟩:=(N.below hq).cq;obtain⟨y,t,K,A⟩:=(b.below hq).cq;obtain⟨S,R,Q,P⟩:=(b.below hq).fq)
   |(go_at_call 82;refine(H9.o _ hq ).mono ?_;clear H9;rintro e w9 ⟨v9,rfl,j,ap⟩;have f:=f.below ap;have hq:=Bt hq ap;obtain⟨o,s,x,z⟩:=(M.below hq).cq;obtain⟨r,n,m,D⟩:=(N.below hq).cq;obtain⟨y,t,K,A⟩:=(b.below hq).cq;obtain⟨S,R,Q,P⟩:=(b.below hq).fq)
   |(go_at_call 80;refine(Qu.o _ hq _ f _ j).mono ?_;clear Qu;rintro e ct ⟨co,rfl,an,X⟩;obtain⟨bm,ci,bt,cj,bn,cg,bu,ck,rfl⟩:=Js.form an;have f:=f.below X;have j:=j.below X;have hq:=Bt hq X;obtain⟨o,s,x,z⟩:=(M.below hq).cq;obtain⟨r,n,m,D⟩:=(N.below hq).cq;obtain⟨y,t,K,A⟩:=(b.below hq).cq;obtain⟨S,R,Q,P⟩:=(b.below hq).fq))
 all_goals go_wp2_with fail
 have Qw:=Bt c.o.2.2 hq;have Qv:=c.o.ge 2 rfl;exact BA (v:=B #[C bm ci bt,E cj,C bn cg bu,E ck]) (by simp[results,Tryz.results77,go_sem,y,t,K,A]) rfl ⟨_,rfl,an.put4 (b.below hq) rfl rfl rfl rfl _ _ _ _,Ju Qw Qv _ _ _ _⟩
theorem OD(u:I)(q:Rat)(w:G)(d:Js w u q):
 L H 36 #[u] w λe z=>e=.returned (.int .i64 q.num.sign)/\Bl w z:=by
 obtain⟨n,f⟩:=ex (q.num.sign);rw[f];have v:=O f;clear f;obtain⟨k,r,m,s,l,p,o,t,rfl⟩:=Js.form d;have a:=((Mem.nil w).push (.ref q) d);have a:Mem w (w.alloc (F #[C k r m,E s,C l p o,E t] 85)) [some (w.heap.size,.ref q)]:=a;obtain⟨W0,c⟩:=ex (w.alloc (F #[C k r m,E s,C l p o,E t] 85));have j:=O c;rw[c]at a;have g:Hid (Mem w W0 [some (w.heap.size,.ref q)]):=O a;clear a c d;go_enter Tryz.func36,Tryz.ntmps36
 go_upto_region 1 with fail
 rw[j.o];clear j;obtain⟨A,l1,c1,R,D,P,d1,S,y,Q,x,N⟩:=g.o.ref (i:=0) rfl;obtain⟨K,M⟩:=y.cp;have b:=O (aX _ q.num W0 x);rw[v.o]at b;go_wp2_with(go_at_call 73;refine b.o.mono ?_;clear b;rintro e T ⟨rfl,hq⟩)
 go_ret;exact⟨rfl,Bt g.o.2.2 hq⟩
theorem I0(n:Int)(s:-9223372036854775808<=n)(t:n<=9223372036854775807)(w:G):
 L H 42 #[.int .i64 n] w λe N=>∃u,e=.returned u/\Js N u (n:Rat)/\Bl w N:=by
 have f:=O λ(V:G)=>Hl n s t V;clear s t;have a:=((Mem.nil w).push .zref rfl);have a:Mem w (w.alloc (F #[C none 0 0,E false,C none 0 0,E false] 85)) [some (w.heap.size,.zref)]:=a;obtain⟨W0,d⟩:=ex (w.alloc (F #[C none 0 0,E false,C none 0 0,E false] 85));have j:=O d;rw[d]at a;have c:Hid (Mem w W0 [some (w.heap.size,.zref)]):=O a;clear a d;go_enter Tryz.func42,Tryz.ntmps42
 go_upto_region 1 with fail
 rw[j.o];clear j;have b:=c.o.zref (i:=0) rfl;obtain⟨m,g,k,l⟩:=b.cq;obtain⟨Q,R,T,S⟩:=b.fq;go_wp2_with(first
  |(go_at_call 79;refine(f.o _).mono ?_;clear f;rintro e w1 ⟨u1,rfl,y,W⟩;obtain⟨o,A,q,K,rfl⟩:=Jt.form2 y)
  |(go_at_call 79;refine(Hl 1 J J _).mono ?_;rintro e w2 ⟨u2,rfl,z,x⟩;obtain⟨p,D,r,M,rfl⟩:=Jt.form2 z;have hq:=Bt W x;obtain⟨m,g,k,l⟩:=(b.below hq).cq;obtain⟨Q,R,T,S⟩:=(b.below hq).fq))
 have X:Js w2 (B #[C o A q,E K,C p D r,E M]) (n:Rat):=Js.mk (y.below x) z;have U:=Bt c.o.2.2 hq;have P:=c.o.ge 0 rfl;exact BA (v:=B #[C o A q,E K,C p D r,E M]) (by simp[results,Tryz.results42,go_sem,m,g,k,l]) rfl ⟨_,rfl,X.put4 (b.below hq) rfl rfl rfl rfl _ _ _ _,Ju U P _ _ _ _⟩
theorem RowK.formsF{cap:Nat}(h:RowK false W (C a l cap) qs):l=qs.length/\l<=cap/\cap<=9223372036854775807/\l<=1099511627776/\∃(s t:Nat->Bool) (k m:Nat->Option Addr) (p n o dd:Nat->Nat),∀j,j<l->Js W (B #[C (k j) (p j) (n j),E (s j),C (m j) (o j) (dd j),E (t j)]) (cf qs j)/\
 ∃b,a=some ⟨b,0,none⟩/\b<W.heap.size/\W.cell? ⟨b,j*4,none⟩=some (C (k j) (p j) (n j))/\W.cell? ⟨b,j*4+1,none⟩=some (E (s j))/\W.cell? ⟨b,j*4+2,none⟩=some (C (m j) (o j) (dd j))/\W.cell? ⟨b,j*4+3,none⟩=some (E (t j)):=by
 obtain⟨r,v,w,A,x,y,z,u,K⟩:=h.pick;refine⟨r,v,w,A,λj=>L9 (y j),λj=>L9 (u j),λj=>MA (x j),λj=>MA (z j),λj=>IG (x j),λj=>MB (x j),λj=>IG (z j),λj=>MB (z j),λj M=>?_⟩;obtain⟨i,b,q,D,c0,c1,c2,c3⟩:=K j M;obtain⟨a',l',c',s,N,Q,P,t,e,_⟩:=(show Js W _ _ from i);simp only[Value.agg.injEq,FV,Fx,and_true]at e;obtain⟨c,d,f,g⟩:=e;rw[c,d,f,g]at i;rw[c]at c0;rw[d]at c1;rw[f]at c2;rw[g]at c3;dsimp only;rw[c,d,f,g];exact⟨i,b,q,D,c0,c1,c2,c3⟩
theorem aY(q:Rat):(q.num.sign==0)=decide (q=0):=by
 rw[Cr,beq_iff_eq,BR,Int.sign_eq_zero_iff_zero,Fy]
theorem RX{len:Nat}(hl:len=qs.length)(c:k<=len)(a:∀j,k<=j->cf qs j=0)(b:k=0\/cf qs (k-1)≠0):Jd qs=qs.take k/\(Jd qs).length=k:=by
 have e:=Oq (p:=qs) (n:=k) J b a;exact⟨e,by rw[e,Am];omega⟩
theorem aZ(a:Option Addr)(len cap:Nat)(qs:List Rat)(w:G)(h:RowK false w (C a len cap) qs):
 L H 45 #[C a len cap] w λe Q=>e=.returned (C a (Jd qs).length cap)/\RowK false Q (C a (Jd qs).length cap) (Jd qs)/\Bl w Q:=by
 obtain⟨hl,ad,ae,af,s,t,V,W,ll,X,kk,dd,A⟩:=h.formsF;obtain⟨o,R,x⟩:=Dg hl A h;clear A hl h;go_enter Tryz.func45,Tryz.ntmps45
 go_wp2;go_loopw [3] (λv wr=>∃k:Nat,k<=len/\v=.int .i64 (k:Int)/\Hid ((∀j,k<=j->cf qs j=0)/\Bl w wr)) λv _=>(intOf v).toNat
 case atStart=>exact⟨len,Aa _,rfl,O ⟨λj S=>J1 (by have:=o.o;omega),BB _ _⟩⟩
 case round=>
  obtain⟨k,hk,rfl,c⟩:=hrel;cases k with
  |zero=>
   go_wp2;go_ret;obtain⟨r,g⟩:=RX o.o (k:=0) (AK _) c.o.1 (Or.inl rfl);refine⟨by rw[g];rfl,?_,c.o.2⟩;rw[g,r];exact(x.o.below c.o.2).take J
  |succ k=>
   obtain⟨D,b,rfl,l,K,M,N,P⟩:=R.o k J;have d:=c.o.2;have y:=O (D.below d);replace K:=(d.cell (p:=⟨b,_,none⟩) l).trans K;replace M:=(d.cell (p:=⟨b,_,none⟩) l).trans M;replace N:=(d.cell (p:=⟨b,_,none⟩) l).trans N;replace P:=(d.cell (p:=⟨b,_,none⟩) l).trans P;have i:=O (OD _ _ wr y.o);have m:=aY (cf qs k);clear D d y;by_cases f:cf qs k=0
   . rw[show decide (cf qs k=0)=true from BK f]at m;have q:=O f;clear f;generalize (cf qs k).num.sign=n at i m;go_wp2_with(go_at_call 36;refine i.o.mono ?_;rintro e U ⟨rfl,u⟩)
     go_roundw
     case rel=>
      refine⟨k,J,Y,O ⟨λj S=>?_,Bt c.o.2 u⟩⟩;by_cases T:j=k
      . rw[T];exact q.o
      . exact c.o.1 j J
     case measure=>simp[intOf]
   . rw[show decide (cf qs k=0)=false from BI f]at m;have q:=O f;clear f;generalize (cf qs k).num.sign=n at i m;go_wp2_with(go_at_call 36;refine i.o.mono ?_;rintro e U ⟨rfl,u⟩)
     go_ret;have z:=Bt c.o.2 u;obtain⟨r,g⟩:=RX o.o (k:=k+1) J c.o.1 (Or.inr q.o);refine⟨by rw[g];rfl,?_,z⟩;rw[g,r];exact(x.o.below z).take J
theorem KL(v:I)(qs:List Rat)(w:G)(h:RowK false w v qs):
 L H 45 #[v] w λe b=>∃u,e=.returned u/\RowK false b u (Jd qs)/\Bl w b:=by
 obtain⟨a,l,c,rfl⟩:=h.form;refine(aZ a l c qs w h).mono ?_;rintro e b ⟨rfl,d,f⟩;exact⟨_,rfl,d,f⟩
theorem RY{B:Nat}(q:JM W B 85 (C none 0 0) (E false) (C none 0 0) (E false)){v:I}{p:Rat}(h:Js W v p)(x y z u:I):Js (put4 W B x y z u) v p:=h.put4 q rfl rfl rfl rfl _ _ _ _
theorem RZ(v:I)(qs:List Rat)(i:Int)(w:G)(h:RowK false w v qs):
 L H 103 #[v,.int .i64 i] w λe X=>∃u,e=.returned u/\Js X u (if i<0 then 0 else cf qs i.toNat)/\Bl w X:=by
 obtain⟨a,l,c,rfl⟩:=h.form;obtain⟨hl,ad,ae,af,s,t,aa,bb,ll,cc,kk,dd,T⟩:=h.formsF;have HL:=O hl;have o:=O T;clear hl T h;have n:Bl w (w.alloc (F #[C none 0 0,E false,C none 0 0,E false] 85)):=Ba w _;have b0:=JM.new w 85 (C none 0 0) (E false) (C none 0 0) (E false);have g:=O λ(V:G)=>I0 0 J J V;by_cases d:i<0\/(l:Int)<=i
 . have HZ:=O (show(if i<0 then(0:Rat)else cf qs i.toNat)=((0:Int):Rat)by
    rcases d with d|d
    . rw[BG d];rfl
    . rw[BE J,J1 (by have:=HL.o;omega)];rfl)
   rw[HZ.o];obtain⟨W0,z⟩:=ex (w.alloc (F #[C none 0 0,E false,C none 0 0,E false] 85));rw[z]at n b0;have S:=O z;clear z o;rcases d with d|d
   . go_enter Tryz.func103,Tryz.ntmps103
     go_upto_region 1 with fail
     rw[S.o];go_wp2_with(go_at_call 42;refine(g.o _).mono ?_;clear g;rintro e w1 ⟨u,rfl,k,j⟩;have f:=b0.below j;obtain⟨A,D,K,M⟩:=f.cq;obtain⟨f0,f1,f2,f3⟩:=f.fq;obtain⟨p,P,r,Q,q,N,x,R,rfl⟩:=Js.form k)
     exact BA (v:=B #[C p P r,E Q,C q N x,E R]) (by simp[results,Tryz.results103,go_sem,A,D,K,M]) rfl ⟨_,rfl,RY f k _ _ _ _,Ju (Bt n j) (Aa _) _ _ _ _⟩
   . have y:¬i<0:=J
     go_enter Tryz.func103,Tryz.ntmps103
     go_upto_region 1 with fail
     rw[S.o];go_wp2_with(go_at_call 42;refine(g.o _).mono ?_;clear g;rintro e w1 ⟨u,rfl,k,j⟩;have f:=b0.below j;obtain⟨A,D,K,M⟩:=f.cq;obtain⟨f0,f1,f2,f3⟩:=f.fq;obtain⟨p,P,r,Q,q,N,x,R,rfl⟩:=Js.form k)
     exact BA (v:=B #[C p P r,E Q,C q N x,E R]) (by simp[results,Tryz.results103,go_sem,A,D,K,M]) rfl ⟨_,rfl,RY f k _ _ _ _,Ju (Bt n j) (Aa _) _ _ _ _⟩
 . have y:¬i<0:=J
   rw[BE y];obtain⟨m,rfl⟩:∃m:Nat,i=(m:Int):=⟨i.toNat,J⟩;have hm:m<l:=J
   obtain⟨U,b,rfl,hb,k0,W,k2,k3⟩:=o.o m hm;have HI:=O U;rw[Cy];clear o U y d g b0 n;generalize s m=s1 at *;generalize t m=t1 at *;generalize aa m=a1 at *;generalize bb m=b1 at *;generalize ll m=l1 at *;generalize cc m=c1 at *;generalize kk m=W at *;generalize dd m=d1 at *;go_enter Tryz.func103,Tryz.ntmps103
   go_wp2;exact BA (v:=B #[C a1 l1 c1,E s1,C b1 W d1,E t1]) (by simp[results,Tryz.results103,go_sem]) rfl ⟨_,rfl,HI.o.below (Ba w _),Ba w _⟩
def Xp(f:Nat->Rat)(k:Nat):List Rat:=(List.range k).map f
theorem JJ(f:Nat->Rat)(k:Nat):(Xp f k).length=k:=by simp[Xp]
theorem YW(f:Nat->Rat)(k:Nat):Xp f (k+1)=Xp f k++[f k]:=by simp[Xp,List.range_succ]
theorem K4(f:Nat->Rat)(k i:Nat):cf (Xp f k) i=if i<k then f i else 0:=LL k f i
theorem OE(va vb:I)(ps qs:List Rat)(w:G)(P:RowK false w va ps)(Q:RowK false w vb qs)(af:Sqs ps)(ah:Sqs qs)(ay:ps.length<1099511627776/\qs.length<1099511627776):
 L H 64 #[va,vb] w λe w'=>∃u,e=.returned u/\RowK false w' u (Xz ps qs)/\Bl w w':=by
 obtain⟨a,la,ca,rfl⟩:=P.form;obtain⟨b,lb,cb,rfl⟩:=Q.form;obtain⟨ad,an,aq,bk,_⟩:=P.formsF;obtain⟨ae,ap,aw,bm,_⟩:=Q.formsF;obtain⟨n,hn⟩:=ex (max la lb:Nat);obtain⟨r,HA,HB,HP,HQ,Qm,Ql⟩:=Lm (show la<=n/\lb<=n/\n<1099511627776/\(∀k,k<n->k<la\/k<lb)from⟨J,J,J,λk hk=>by omega⟩) P Q af ah ad ae;clear P Q af ah ad ae an aq ap aw hn ay;go_enter Tryz.func64,Tryz.ntmps64
 go_wp2;go_loopw [5,6] (λo i wr=>∃k:Nat,k<=n/\i=.int .i64 (k:Int)/\(∃oa oc,o=C oa k oc)/\Hid (Ea false w.heap.size wr o (Xp (λi=>cf ps i+cf qs i) k)/\Bl w wr)) λ_ i _=>n-(intOf i).toNat
 case atStart=>exact⟨0,AK _,rfl,⟨_,_,rfl⟩,O ⟨Ea.nil _ _ _,BB _ _⟩⟩
 case round=>
  obtain⟨k,hk,rfl,⟨oa,oc,rfl⟩,d⟩:=hrel;by_cases az:k<n
  . have x:=O (RZ _ ps (k:Int) wr (HA.o.below d.o.2));have t:=O λ(V:G) (h:Bl wr V)=>RZ _ qs (k:Int) V ((HB.o.below d.o.2).below h);rw[BE J,Cy]at x;rw[show(if(k:Int)<0 then(0:Rat)else cf qs ((k:Int)).toNat)=cf qs k from by rw[BE J,Cy]]at t;have N:=O λ(V:G) (u v:I) (hu:Js V u (cf ps k)) (hv:Js V v (cf qs k))=>RV u v (cf ps k) (cf qs k) V hu hv (HP.o.at k) (HQ.o.at k);have Qj:=r.o.2.2.2 k az;have HK:=O (show k+1<=1099511627776 by have:=r.o.2.2.1;omega);by_cases bi:(k:Int)<(la:Int)
    all_goals
     have Qk:(k:Int)<(la:Int)\/(k:Int)<(lb:Int):=J
    . clear Qj Qk;go_wp2_with(first
       |(go_at_call 103;refine x.o.mono ?_;clear x;rintro e w1 ⟨u1,rfl,c,l⟩;have f:=l)
       |(go_at_call 103;refine(t.o _ f).mono ?_;clear t;rintro e w2 ⟨u2,rfl,M,m⟩;have c:=c.below m;have y:=Bt f m;clear f)
       |(go_at_call 43;refine(N.o _ _ _ c M).mono ?_;clear N;rintro e w3 ⟨u3,rfl,q,A⟩;have g:=Bt y A;clear y c M l m A;obtain⟨ai,bf,ak,bg,aj,bc,am,bh,rfl⟩:=Js.form q;obtain⟨v9,w9,W,K,X,D⟩:=XJ false w.heap.size w3 _ _ (d.o.1.below g) q (by rw[JJ];exact HK.o) (by have:=d.o.2.size;have:=g.size;omega);have s:=O K;have S:=O (D w.heap.size w (Aa _) (Bt d.o.2 g));clear K X D q)
       |(at_builtin;refine Bi _ rfl _ _ 30 30 rfl _ _ rfl rfl _ _ W ?_))
      obtain⟨T,U,z,_⟩:=s.o.form;go_roundw
      case rel=>
       refine⟨k+1,J,by go_num,⟨T,U,?_⟩,O ⟨?_,S.o⟩⟩
       . rw[<-YW,JJ]at z;exact z
       . rw[YW];exact s.o
      case measure=>simp[intOf];omega
    . have bj:(k:Int)<(lb:Int):=J
      clear Qj Qk;go_wp2_with(first
       |(go_at_call 103;refine x.o.mono ?_;clear x;rintro e w1 ⟨u1,rfl,c,l⟩;have f:=l)
       |(go_at_call 103;refine(t.o _ f).mono ?_;clear t;rintro e w2 ⟨u2,rfl,M,m⟩;have c:=c.below m;have y:=Bt f m;clear f)
       |(go_at_call 43;refine(N.o _ _ _ c M).mono ?_;clear N;rintro e w3 ⟨u3,rfl,q,A⟩;have g:=Bt y A;clear y c M l m A;obtain⟨ai,bf,ak,bg,aj,bc,am,bh,rfl⟩:=Js.form q;obtain⟨v9,w9,W,K,X,D⟩:=XJ false w.heap.size w3 _ _ (d.o.1.below g) q (by rw[JJ];exact HK.o) (by have:=d.o.2.size;have:=g.size;omega);have s:=O K;have S:=O (D w.heap.size w (Aa _) (Bt d.o.2 g));clear K X D q)
       |(at_builtin;refine Bi _ rfl _ _ 30 30 rfl _ _ rfl rfl _ _ W ?_))
      obtain⟨T,U,z,_⟩:=s.o.form;go_roundw
      case rel=>
       refine⟨k+1,J,by go_num,⟨T,U,?_⟩,O ⟨?_,S.o⟩⟩
       . rw[<-YW,JJ]at z;exact z
       . rw[YW];exact s.o
      case measure=>simp[intOf];omega
  . have h1:¬(k:Int)<(la:Int):=by have:=r.o.1;omega
    have h2:¬(k:Int)<(lb:Int):=by have:=r.o.2.1;omega
    have R:=O λ(V:G) (h:Bl wr V)=>KL _ _ V ((d.o.1.below h).row (by rw[JJ];have:=r.o.2.2.1;omega));have HE:=O (show Jd (Xp (λi=>cf ps i+cf qs i) k)=Xz ps qs from YH λj=>by
     rw[K4,Xr];split
     . rfl
     . have:=r.o;have g1:=Qm.o;have g2:=Ql.o;rw[J1 (p:=ps) J,J1 (p:=qs) J];grind)
    rw[HE.o]at R;go_wp2_with(go_at_call 45;refine(R.o _ (BB _ _)).mono ?_;clear R;rintro e w1 ⟨u1,rfl,c,l⟩;obtain⟨a8,l8,c8,rfl⟩:=c.form)
    go_ret;exact⟨_,rfl,c,Bt d.o.2 l⟩
def F0(r:Bool)(W0:G)(V:G)(o:I)(qs:List Rat):Prop:=Ea r W0.heap.size V o qs/\Bl W0 V
theorem F0.below{r:Bool}{W0 V V':G}{o:I}{qs:List Rat}(h:F0 r W0 V o qs)(a:Bl V V'):F0 r W0 V' o qs:=⟨h.1.below a,Bt h.2 a⟩
theorem Ra(va vq:I)(ps:List Rat)(q:Rat)(w:G)(ha:RowK false w va ps)(hq:Js w vq q)(am:Sqs ps)(an:Sq q)(aj:ps.length<1099511627776):
 L H 76 #[va,vq] w λe w'=>∃u,e=.returned u/\RowK false w' u (Jd (Yp q ps))/\Bl w w':=by
 have Qm:Tryz.prog.follows .mixedOrders=true:=by kernel_rfl
 obtain⟨a,la,ca,rfl⟩:=ha.form;obtain⟨a8,l8,c8,s8,b8,k8,d8,t8,rfl⟩:=Js.form hq;obtain⟨ai,ay,az,bj,s,t,aa,bb,ll,cc,kk,dd,hc⟩:=ha.formsF;have b0:=JM.new w 85 (C a8 l8 c8) (E s8) (C b8 k8 d8) (E t8);have Qf:Bl w (w.alloc (F #[C a8 l8 c8,E s8,C b8 k8 d8,E t8] 85)):=Ba w _;obtain⟨W0,af⟩:=ex (w.alloc (F #[C a8 l8 c8,E s8,C b8 k8 d8,E t8] 85));rw[af]at Qf b0;obtain⟨Qj,HA,HQ,HP,Qi,Qh,Qd,Qp⟩:=Ho af hc (hq.below Qf) am an ai Qf b0;have Ql:=O aj;clear ha hq am an ai ay az hc af aj b0 Qf;go_enter Tryz.func76,Tryz.ntmps76
 go_upto_region 1 with fail
 rw[Qj.o];go_wp2;go_loopw [5,6] (λo i wr=>∃k:Nat,k<=la/\i=.int .i64 (k:Int)/\(∃Q R,o=C Q k R)/\Hid (F0 false W0 wr o (Xp (λi=>cf ps i*q) k))) λ_ i _=>la-(intOf i).toNat
 case atStart=>exact⟨0,AK _,rfl,⟨_,_,rfl⟩,O ⟨Ea.nil _ _ _,BB _ _⟩⟩
 case round=>
  obtain⟨k,hk,rfl,⟨Q,R,rfl⟩,HR⟩:=hrel;by_cases bc:k<la
  . have bk:(k:Int)<(la:Int):=J
    obtain⟨P,b,rfl,W,c0,c1,c2,c3⟩:=HA.o k bc;have Qo:=O (show ∀V,Bl W0 V->(V.cell? ⟨b,k*4,none⟩=some (C (aa k) (ll k) (cc k))/\V.cell? ⟨b,k*4+1,none⟩=some (E (s k))/\V.cell? ⟨b,k*4+2,none⟩=some (C (bb k) (kk k) (dd k))/\V.cell? ⟨b,k*4+3,none⟩=some (E (t k)))/\Js V (B #[C (aa k) (ll k) (cc k),E (s k),C (bb k) (kk k) (dd k),E (t k)]) (cf ps k)from λV h=>by
     have U:=Bt Qd.o h;exact⟨⟨(U.cell (p:=⟨b,_,none⟩) W).trans c0,(U.cell (p:=⟨b,_,none⟩) W).trans c1,(U.cell (p:=⟨b,_,none⟩) W).trans c2,(U.cell (p:=⟨b,_,none⟩) W).trans c3⟩,P.below U⟩)
    have HK:=O (show k+1<=1099511627776 by have:=Ql.o;have:=Qh.o;omega);clear P c0 c1 c2 c3 W;go_wp2_with fail
    have Qn:=HR.o.below ((BB _ wr).drew);refine Jn Qm [[],[],[],[1,2],[3],[],[4,5],[6],[0,7,6],[8,8,0,1,2,3,4,5,6,7,8]] (by kernel_rfl) DQ
     (λD ad V=>∃(ta tb tc td te tf tg ti S tk:I),ad={ tmps:=#[C (some ⟨b,0,none⟩) la ca,B #[C a8 l8 c8,E s8,C b8 k8 d8,E t8],undef,.pointer (some ⟨w.heap.size,0,none⟩),C none 0 0,tk,.int .i64 ↑k,.int .i64 ↑k,C (some ⟨b,0,none⟩) la ca,.int .i64 ↑la,E true,u11,u12,ta,tb,tc,td,te,tf,tg,ti,S,undef,undef],defers:=[] }/\Hid ((D 0=true->ta=C Q k R)/\(D 1=true->tb=C (some ⟨b,0,none⟩) la ca)/\(D 2=true->tc=.int .i64 (k:Int))/\(D 3=true->td=.pointer (some ⟨b,k*4,none⟩))/\(D 4=true->D 8=false->Js V te (cf ps k))/\(D 5=true->D 8=false->Js V tf q)/\(D 6=true->D 8=false->Js V tg (cf ps k*q))/\(D 7=true->∃a l c,ti=C a l c)/\(D 8=true->∃a l c,S=C a l c)/\((D 9=false->tk=Value.slice Q k R)/\(D 9=true->tk=S)))/\Hid ((D 7=false->F0 false W0 V (C Q k R) (Xp (λi=>cf ps i*q) k))/\(D 7=true->D 8=false->∃(N:G) (x y z u:I),V=N.alloc (F #[x,y,z,u] (EB false))/\(F0 false W0 N (C Q k R) (Xp (λi=>cf ps i*q) k))/\EH false N (B #[x,y,z,u]) (cf ps k*q)/\ti=C (some ⟨N.heap.size,0,none⟩) 1 1)/\(D 8=true->F0 false W0 V S (Xp (λi=>cf ps i*q) k++[cf ps k*q]))))
     (E8 ⟨_,_,rfl,O ⟨Y,Y,Y,Y,Y,Y,Y,Y,Y,⟨λ_=>rfl,Y⟩⟩,O ⟨λ_=>Qn,Y,Y⟩⟩) ?step1 ?fin1
    case step1=>
     rintro D ad V i ds f P m n ⟨ta,tb,tc,td,te,tf,tg,ti,S,tk,rfl,d,A⟩;have bh:i<10:=(Ad.1 P).1;obtain rfl|rfl|rfl|rfl|rfl|rfl|rfl|rfl|rfl|rfl:=Mm i J
     all_goals
      simp only[Af,Ae,Ah]at P;subst P
     . have r:D 8=false:=DR f n;have Qe:D 9=false:=DR f n;obtain rfl:=D7 d Qe;clear m;refine DV ?_;exact⟨(Kq (Dh d) ⟨λ_=>rfl,λh=>by simp[Qe]at h⟩),O ⟨λh=>A.o.1 (by simpa using h),λh M=>A.o.2.1 (by simpa using h) (by simpa using M),λh=>A.o.2.2 (by simpa using h)⟩⟩
     . have r:D 8=false:=DR f (DR (a:=7) f (DR (a:=6) f (DR (a:=4) f (DR (a:=3) f n))));have v:D 7=false:=DR f (DR (a:=6) f (DR (a:=4) f (DR (a:=3) f n)));have g:=A.o.1 v;clear m;refine DV ?_;exact⟨O ⟨d.o.1,λ_=>rfl,d.o.2.2.1,d.o.2.2.2.1,d.o.2.2.2.2.1,(Dl d),(Dq d),(Dw d),(Dy d),⟨λh=>(D7 d) (by simpa using h),λh=>d.o.2.2.2.2.2.2.2.2.2.2 (by simpa using h)⟩⟩,O ⟨λ_=>g,λh=>by simp[v]at h,λh=>by simp[r]at h⟩⟩
     . have r:D 8=false:=DR f (DR (a:=7) f (DR (a:=6) f (DR (a:=4) f (DR (a:=3) f n))));have v:D 7=false:=DR f (DR (a:=6) f (DR (a:=4) f (DR (a:=3) f n)));have g:=A.o.1 v;clear m;refine DV ?_;exact⟨O ⟨d.o.1,d.o.2.1,λ_=>rfl,d.o.2.2.2.1,d.o.2.2.2.2.1,(Dl d),(Dq d),(Dw d),(Dy d),⟨λh=>(D7 d) (by simpa using h),λh=>d.o.2.2.2.2.2.2.2.2.2.2 (by simpa using h)⟩⟩,O ⟨λ_=>g,λh=>by simp[v]at h,λh=>by simp[r]at h⟩⟩
     . have r:D 8=false:=DR f (DR (a:=7) f (DR (a:=6) f (DR (a:=4) f n)));have v:D 7=false:=DR f (DR (a:=6) f (DR (a:=4) f n));have g:=A.o.1 v;obtain rfl:=d.o.2.1 (m 1 Y);obtain rfl:=d.o.2.2.1 (m 2 Y);clear m;refine DV ?_;exact⟨O ⟨d.o.1,λ_=>rfl,λ_=>rfl,λ_=>rfl,d.o.2.2.2.2.1,(Dl d),(Dq d),(Dw d),(Dy d),⟨λh=>(D7 d) (by simpa using h),λh=>d.o.2.2.2.2.2.2.2.2.2.2 (by simpa using h)⟩⟩,O ⟨λ_=>g,λh=>by simp[v]at h,λh=>by simp[r]at h⟩⟩
     . have r:D 8=false:=DR f (DR (a:=7) f (DR (a:=6) f n));have v:D 7=false:=DR f (DR (a:=6) f n);have g:=A.o.1 v;obtain rfl:=d.o.2.2.2.1 (m 3 Y);obtain⟨⟨e0,e1,e2,e3⟩,hr⟩:=Qo.o V g.2;clear m;refine DV ?_;exact⟨O ⟨d.o.1,d.o.2.1,d.o.2.2.1,λ_=>rfl,λ_ _=>hr,(Dl d),(Dq d),(Dw d),(Dy d),⟨λh=>(D7 d) (by simpa using h),λh=>d.o.2.2.2.2.2.2.2.2.2.2 (by simpa using h)⟩⟩,O ⟨λ_=>g,λh=>by simp[v]at h,λh=>by simp[r]at h⟩⟩
     . have r:D 8=false:=DR f (DR (a:=7) f (DR (a:=6) f n));have v:D 7=false:=DR f (DR (a:=6) f n);have g:=A.o.1 v;have n0:=Qp.o.below g.2;obtain⟨e0,e1,e2,e3⟩:=n0.cq;clear m;refine DV ?_;exact⟨O ⟨d.o.1,d.o.2.1,d.o.2.2.1,d.o.2.2.2.1,d.o.2.2.2.2.1,λ_ _=>HQ.o.below g.2,(Dq d),(Dw d),(Dy d),⟨λh=>(D7 d) (by simpa using h),λh=>d.o.2.2.2.2.2.2.2.2.2.2 (by simpa using h)⟩⟩,O ⟨λ_=>g,λh=>by simp[v]at h,λh=>by simp[r]at h⟩⟩
     . have r:D 8=false:=DR f n;have v:D 7=false:=DR f n;have g:=A.o.1 v;have T:=d.o.2.2.2.2.1 (m 4 Y) r;have h1:=Dl d (m 5 Y) r;clear m;have HC:=O (OC _ _ (cf ps k) q V T h1 (HP.o.at k) Qi.o);clear T h1;refine Jb rfl rfl λK hK=>?_;go_simp;go_wp2_with(go_at_call 44;refine HC.o.mono ?_;rintro e w5 ⟨v5,rfl,bg,X⟩)
       exact E8 ⟨_,_,rfl,O ⟨d.o.1,d.o.2.1,d.o.2.2.1,d.o.2.2.2.1,λh M=>(d.o.2.2.2.2.1 h M).below X,λh M=>((Dl d) h M).below X,λ_ _=>bg,(Dw d),(Dy d),⟨λh=>(D7 d) (by simpa using h),λh=>d.o.2.2.2.2.2.2.2.2.2.2 (by simpa using h)⟩⟩,O ⟨λ_=>g.below X,λh=>by simp[v]at h,λh=>by simp[r]at h⟩⟩
     . have r:D 8=false:=DR f n;have g:=A.o.1 n;have T:=Dq d (m 6 Y) r;obtain⟨a9,l9,c9,s9,b9,k9,d9,t9,rfl⟩:=Js.form T;clear m;refine DV ?_;exact⟨O ⟨d.o.1,d.o.2.1,d.o.2.2.1,d.o.2.2.2.1,λh M=>(d.o.2.2.2.2.1 h M).below (Ba V _),λh M=>((Dl d) h M).below (Ba V _),λh M=>((Dq d) h M).below (Ba V _),λ_=>⟨_,_,_,rfl⟩,(Dy d),⟨λh=>(D7 d) (by simpa using h),λh=>d.o.2.2.2.2.2.2.2.2.2.2 (by simpa using h)⟩⟩,O ⟨λh=>by simp at h,λ_ _=>⟨V,_,_,_,_,rfl,g,T,rfl⟩,λh=>by simp[r]at h⟩⟩
     . obtain⟨N,x9,y9,z9,u9,rfl,g,bf,aw⟩:=A.o.2.1 (m 7 Y) n;obtain rfl:=d.o.1 (m 0 Y);have Qe:D 9=false:=DR f n;have Qg:=m 7 Y;obtain⟨v5,w5,ah,ak,bi,X⟩:=XJ false W0.heap.size N _ _ g.1 bf (by rw[JJ];exact HK.o) g.2.size;dsimp only[F8,EB]at ah;subst aw;obtain⟨a6,c6,e6,_⟩:=ak.form;subst e6;clear m;refine Jb rfl rfl λK hK=>?_;refine Lib.wp_append_run _ _ _ 30 30 rfl _ _ rfl rfl _ _ ah (hK _ _ ?_);exact E8 ⟨_,_,rfl,O ⟨λ_=>rfl,d.o.2.1,d.o.2.2.1,d.o.2.2.2.1,λ_ h=>by simp at h,λ_ h=>by simp at h,λ_ h=>by simp at h,(Dw d),λ_=>⟨_,_,_,rfl⟩,⟨λh=>(D7 d) (by simpa using h),λh=>by simp[Qe]at h⟩⟩,O ⟨λh=>by simp[Qg]at h,λ_ h=>by simp at h,λ_=>⟨ak,X _ _ (Aa _) g.2⟩⟩⟩
     . clear m;refine DV ?_;exact⟨(Kq d ⟨λh=>by simp at h,λ_=>rfl⟩),O ⟨λh=>A.o.1 (by simpa using h),λh M=>A.o.2.1 (by simpa using h) (by simpa using M),λh=>A.o.2.2 (by simpa using h)⟩⟩
    case fin1=>
     rintro D ad V ae ⟨ta,tb,tc,td,te,tf,tg,ti,S,tk,rfl,d,A⟩;have HO:=O (A.o.2.2 (ae 8 DQ));obtain rfl:=d.o.2.2.2.2.2.2.2.2.2.2 (ae 9 DQ);clear d A ae;obtain⟨a9,c9,e9,_⟩:=HO.o.1.form;rw[<-YW,JJ]at e9;subst e9;go_wp2_with fail
     go_roundw
     case rel=>exact⟨k+1,J,by go_num,⟨a9,c9,rfl⟩,O (by rw[YW];exact HO.o)⟩
     case measure=>simp[intOf];omega
  . have Qk:k=la:=J
    subst Qk;have HT:=O (KL _ _ wr (HR.o.1.row (by rw[JJ];omega)));have HE:=O (show Jd (Xp (λi=>cf ps i*q) k)=Jd (Yp q ps)from YH λj=>by
     rw[K4,Xd];split
     . rfl
     . rw[J1 (by have:=Qh.o;omega)];grind)
    rw[HE.o]at HT;go_wp2_with(go_at_call 45;refine HT.o.mono ?_;clear HT;rintro e w1 ⟨u1,rfl,ap,aq⟩;obtain⟨a7,l7,c7,rfl⟩:=ap.form)
    go_ret;exact⟨_,rfl,ap,(Bt Qd.o HR.o.2).trans (aq.mono (Ar Qd.o.size HR.o.2.size))⟩
theorem ar{ps:List Rat}(h:Sqs ps):Sqs (Jd (Yp (-1) ps)):=Sqs.of λi=>by
 rw[JR,Xd,show cf ps i*-1=-(cf ps i)from by grind];exact(h.at i).neg
theorem Rb(s t:I)(ps qs:List Rat)(w:G)(f:RowK false w s ps)(g:RowK false w t qs)(q:Sqs ps)(i:Sqs qs)(c:ps.length<1099511627776/\qs.length<1099511627776):
 L H 63 #[s,t] w λe v=>∃u,e=.returned u/\RowK false v u (JP ps qs)/\Bl w v:=by
 obtain⟨a,la,ca,rfl⟩:=f.form;obtain⟨b,lb,cb,rfl⟩:=g.form;obtain⟨x,m,n,d⟩:=D0 (show Xz ps (Jd (Yp (-1) qs))=JP ps qs from YH λj=>by rw[Xr,JR,Xr]) (I0 (-1) J J w) (λ(V:G) (u:I) (h:Bl w V) (l:Js V u ((-1:Int):Rat))=>Ra _ u qs (-1) V (g.below h) l i (Sq.of (k:=1) ⟨(Sm.one 1 J).neg,Sm.one 1 J⟩ J) c.2) λ(V:G) (u:I) (h:Bl w V) (l:RowK false V u (Jd (Yp (-1) qs)))=>OE _ u ps _ V (f.below h) l q (ar i) ⟨c.1,Cp (J3 _) (by unfold Yp;rw[FP];exact c.2)⟩;rw[x.o]at d;clear f g q i c;go_enter Tryz.func63,Tryz.ntmps63
 go_wp2_with(first
  |(go_at_call 42;refine m.o.mono ?_;clear m;rintro e Q ⟨u1,rfl,D,p⟩)
  |(go_at_call 76;refine(n.o _ _ p D).mono ?_;clear n;rintro e R ⟨u2,rfl,K,z⟩;have o:=Bt p z)
  |(go_at_call 64;refine(d.o _ _ o K).mono ?_;clear d;rintro e S ⟨u3,rfl,r,A⟩;have y:=Bt o A;obtain⟨M,P,N,rfl⟩:=r.form))
 go_ret;exact⟨_,rfl,r,y⟩
theorem K5(X:I)(n:Nat)(q:Rat)(w:G)(hq:Js w X q)(hn:n<1099511627775):
 L H 78 #[.int .i64 (n:Int),X] w λe w'=>∃u,e=.returned u/\RowK false w' u (Jd (Dp n [q]))/\Bl w w':=by
 obtain⟨l,A,p,D,m,z,r,K,rfl⟩:=Js.form hq;have b0:=JM.new w 85 (C l A p) (E D) (C m z r) (E K);have d:Bl w (w.alloc (F #[C l A p,E D,C m z r,E K] 85)):=Ba w _;obtain⟨W0,t⟩:=ex (w.alloc (F #[C l A p,E D,C m z r,E K] 85));rw[t]at d b0;obtain⟨Qe,HQ,N,Qh⟩:=D0 t (hq.below d) d b0;clear hq t b0 d;go_enter Tryz.func78,Tryz.ntmps78
 go_upto_region 1 with fail
 rw[Qe.o];go_wp2;go_loopw [5,6] (λo i wr=>∃k:Nat,k<=n/\i=.int .i64 (k:Int)/\(∃V W,o=C V k W)/\Hid (F0 false W0 wr o (Xp (λ_=>0) k))) λ_ i _=>n-(intOf i).toNat
 case atStart=>exact⟨0,AK _,rfl,⟨_,_,rfl⟩,O ⟨Ea.nil _ _ _,BB _ _⟩⟩
 case round=>
  obtain⟨k,hk,rfl,⟨V,W,rfl⟩,a⟩:=hrel;by_cases aj:k<n
  . have ak:(k:Int)<(n:Int):=J
    have M:=O (I0 0 J J wr);have HK:=O (show k+1<=1099511627776 by omega);go_wp2_with(first
     |(go_at_call 42;refine M.o.mono ?_;clear M;rintro e w3 ⟨u3,rfl,y,x⟩;obtain⟨ae,an,ah,ap,af,am,ai,aq,rfl⟩:=Js.form y;obtain⟨v9,w9,f,c,v,b⟩:=XJ false W0.heap.size w3 _ _ (a.o.1.below x) y (by rw[JJ];exact HK.o) (by have:=a.o.2.size;have:=x.size;omega);have P:=O c;have Qg:=O (b W0.heap.size W0 (Aa _) (Bt a.o.2 x));clear c v b y)
     |(at_builtin;refine Bi _ rfl _ _ 30 30 rfl _ _ rfl rfl _ _ f ?_))
    obtain⟨a9,c9,R,_⟩:=P.o.form;go_roundw
    case rel=>
     refine⟨k+1,J,by go_num,⟨a9,c9,?_⟩,O ⟨?_,Qg.o⟩⟩
     . rw[Ai,JJ]at R;exact R
     . rw[YW];exact P.o
    case measure=>simp[intOf];omega
  . have Qf:k=n:=J
    subst Qf;have U:=Qh.o.below a.o.2;obtain⟨e0,e1,e2,e3⟩:=U.cq;obtain⟨v9,w9,f,c,v,b⟩:=XJ false W0.heap.size wr _ _ a.o.1 (HQ.o.below a.o.2) (by rw[JJ];omega) a.o.2.size;dsimp only[F8,EB]at f;have HE:=O (show Jd (Xp (λ_=>0) k++[q])=Jd (Dp k [q])from YH λj=>by
     rw[Mo,JJ,Id,K4];by_cases s:j=k
     . rw[BG s,BG J,s,A3,Y1]
     . rw[BE s];by_cases S:k<=j
       . rw[BG S,J1 si];split<;>rfl
       . rw[BE S];split<;>rfl)
    have Q:=b W0.heap.size W0 (Aa _) a.o.2;have g:=O (KL _ _ w9 (c.row (by rw[Ai,JJ];simp;omega)));rw[HE.o]at g;clear c v b U;go_wp2_with(first
     |(at_builtin;refine Bi _ rfl _ _ 30 30 rfl _ _ rfl rfl _ _ f ?_)
     |(go_at_call 45;refine g.o.mono ?_;clear g;rintro e w1 ⟨u1,rfl,T,ad⟩;obtain⟨a7,l7,c7,rfl⟩:=T.form))
    go_ret;exact⟨_,rfl,T,(Bt N.o Q).trans (ad.mono (Ar N.o.size Q.size))⟩
