import Derived.Test.YteldjhhjnchdeaaGreatDoorT31
import Derived.Deep.RegionWith
import Derived.Test.YteldjhhjnchdeaaGreatDoorT28
import Derived.Lib.AppendZeros
open Go.Value renaming slice->C,bool->D,agg->B,pointer->I
open Go.Obj renaming cells->E
open Go renaming World->F,Value->H
open Go.Proofs.Tryz renaming prog->G
set_option maxRecDepth 100000
set_option maxHeartbeats 16000000
namespace Go.Proofs.YteldjhhjnchdeaaGreatDoor
open Go.RowKit Go.Shelf
attribute [local go_sem] Oper.semAt_some
def RV(W:F):H->Nat
 |C (some p) l _=>val 10000 ((List.range l).map λj=>IF W ⟨p.block,p.off+j,none⟩)
 |_=>0
variable{s:Bool}{qs:List Rat}{c k l n:Nat}{a:Option Addr}{W:F}
theorem RN.rowVal(h:RN W (C a l c) n):RV W (C a l c)=n:=by
 obtain⟨f,_,_,_,g⟩:=Ju h;rcases AY l with d|d
 . subst d;have m:n=0:=(JA om).1 (Ap f.symm);subst m;cases a<;>rfl
 . obtain⟨b,off,rfl,_,_⟩:=g 0 d;show val 10000 ((List.range l).map λj=>IF W ⟨b,off+j,none⟩)=n;have e:(List.range l).map (λj=>IF W ⟨b,off+j,none⟩)=Jc 10000 n:=by
    refine List.ext_getElem (by rw[FO,List.length_range];exact f) (λj q i=>?_);obtain⟨p,o,e,_,k⟩:=g j om;cases e;rw[List.getElem_map,List.getElem_range,IF,k,Ah i];rfl
   rw[e,Jo om]
theorem RW{m:Nat}(h:n<=m):(Jc 10000 n).length<=(Jc 10000 m).length:=by
 rcases AO (Jc 10000 m).length (Jc 10000 n).length with a|a
 . have:=YL om a;omega
 . exact a
theorem aJ(l R:H)(x y:Int)(w:F)(ha:Jr w l x)(hb:Jr w R y)(A:ET x<=100000000)(O:ET y<=100000000):
 Calls G 109 #[l,R] w λe S=>∃u,e=.returned u/\Jr S u (Int.gcd x y:Nat)/\Bl w S:=by
 obtain⟨a,la,ca,rfl,r⟩:=ha;obtain⟨b,lb,cb,rfl,q⟩:=hb;obtain⟨s,hs⟩:=ex (decide (x<0));obtain⟨t,W⟩:=ex (decide (y<0));rw[hs,W];clear hs W;obtain⟨W0,g⟩:=ex (((w.alloc (E #[C a la ca,D s] 83)).alloc (E #[C b lb cb,D t] 83)).alloc (E #[C none 0 0,D false] 83));have n:Bl w W0:=by rw[<-g];exact Xn w _ _ _
 have b0:Jn W0 w.heap.size 83 (C a la ca) (D s):=by rw[<-g];exact((Jn.new w _ _ _).alloc _).alloc _
 have b1:Jn W0 (w.heap.size+1) 83 (C b lb cb) (D t):=by
  have h:=(Jn.new (w.alloc (E #[C a la ca,D s] 83)) 83 (C b lb cb) (D t)).alloc (E #[C none 0 0,D false] 83);rw[A1,g]at h;exact h
 have bR:Jn W0 (w.heap.size+1+1) 83 (C none 0 0) (D false):=by
  have h:=Jn.new ((w.alloc (E #[C a la ca,D s] 83)).alloc (E #[C b lb cb,D t] 83)) 83 (C none 0 0) (D false);rw[A1,A1,g]at h;exact h
 have r0:=RN.below r n;have Q:=RN.below q n;have k0:=b0.c0;have k2:=b1.c0;have M:la<=100000000:=by rw[RN.len r];exact A
 have K:lb<=100000000:=by rw[RN.len q];exact O
 have T:=Ja g;clear g r q A O;go_enter Tryz.func109,Tryz.ntmps109
 go_upto_region 1 with fail
 rw[T.o];clear T;go_wp2_with fail
 go_loopw [5,6] (λxv m wr=>∃(f:Option Addr) (d c0 X:Nat) (k:Option Addr) (l1 c1 c:Nat),xv=C f d c0/\m=C k l1 c1/\Hid (RN wr (C f d c0) X)/\Hid (RN wr (C k l1 c1) c)/\Hid (Nat.gcd X c=Int.gcd x y)/\(d<=100000000/\l1<=100000000)/\Bl W0 wr)
  (λ_ m wr=>RV wr m)
 case atStart=>exact⟨a,la,ca,x.natAbs,b,lb,cb,y.natAbs,rfl,rfl,Ja r0,Ja Q,Ja rfl,⟨M,K⟩,BB _ W0⟩
 case round=>
  clear r0 Q M K;obtain⟨f,d,c0,X,k,l1,c1,c,rfl,rfl,Y,i,N,⟨ad,Z⟩,o⟩:=hrel;rcases AY l1 with J|J
  . subst J;have U:c=0:=(JA om).1 (Ap (RN.len i.o).symm);have HE:=Ja (show X=Int.gcd x y by rw[<-N.o,U,Nat.gcd_zero_right]);have j:=bR.below o;obtain⟨q0,q1⟩:=j.cp;obtain⟨f0,f1⟩:=j.fp;clear U;go_wp2_with fail
    have L:=(I8 Y.o).box j rfl rfl (x0:=C f d c0) (x1:=D false);rw[HE.o]at L;have Qi:=Bt n o;have z0:=((j.set0 (C f d c0)).set1 (D false)).c0;have z1:=((j.set0 (C f d c0)).set1 (D false)).c1;exact BA (v:=B #[C f d c0,D false]) (by simp[results,Tryz.results109,go_sem,z0,z1]) rfl ⟨_,rfl,L,(Qi.setCell (p:=⟨_,0,none⟩) so _).setCell (p:=⟨_,1,none⟩) so _⟩
  . have Ql:c≠0:=λe=>by
     have h:=RN.len i.o;rw[e,Jy]at h;simp at h;omega
    have Qk:=Ja (RU f d c0 k l1 c1 X c wr Y.o i.o Ql ad Z);have V:=A7 X (show c>0 by omega);go_wp2_with(go_at_call 139;refine Qk.o.mono ?_;rintro e w2 ⟨u,v,rfl,hu,z,P⟩;obtain⟨ua,uc,rfl⟩:=RN.form hu;obtain⟨l,vc,rfl⟩:=RN.form z)
    have Qj:=RN.below i.o P;refine⟨⟨k,l1,c1,c,l,_,vc,X%c,rfl,rfl,Ja Qj,Ja z,Ja (by rw[<-N.o,C0 c,<-Nat.gcd_rec,C0]),⟨Z,?_⟩,Bt o P⟩,?_⟩
    . have h1:=RW (FT V);rw[<-RN.len i.o]at h1;omega
    . rw[RN.rowVal z,RN.rowVal i.o];exact V
theorem aK(w:F)(c d e f:H)(a b:H):
 Jn ((((w.alloc (E #[c,d] 83)).alloc (E #[e,f] 83)).alloc (E #[a,b] 83)).alloc (E #[a,b] 83)) w.heap.size 83 c d/\
 Jn ((((w.alloc (E #[c,d] 83)).alloc (E #[e,f] 83)).alloc (E #[a,b] 83)).alloc (E #[a,b] 83)) (w.heap.size+1) 83 e f/\
 Jn ((((w.alloc (E #[c,d] 83)).alloc (E #[e,f] 83)).alloc (E #[a,b] 83)).alloc (E #[a,b] 83)) (w.heap.size+1+1) 83 a b/\
 Jn ((((w.alloc (E #[c,d] 83)).alloc (E #[e,f] 83)).alloc (E #[a,b] 83)).alloc (E #[a,b] 83)) (w.heap.size+1+1+1) 83 a b:=by
 refine⟨(((Jn.new w _ _ _).alloc _).alloc _).alloc _,?_,?_,?_⟩
 . have h:=((Jn.new (w.alloc (E #[c,d] 83)) 83 e f).alloc (E #[a,b] 83)).alloc (E #[a,b] 83);rw[A1]at h;exact h
 . have h:=(Jn.new ((w.alloc (E #[c,d] 83)).alloc (E #[e,f] 83)) 83 a b).alloc (E #[a,b] 83);rw[A1,A1]at h;exact h
 . have h:=Jn.new (((w.alloc (E #[c,d] 83)).alloc (E #[e,f] 83)).alloc (E #[a,b] 83)) 83 a b;rw[A1,A1,A1]at h;exact h
theorem aL(h:RN W (C a l c) n)(m:Bool):Jr W (B #[C a l c,D (m&&decide (0<l))]) (if m=true then -(n:Int)else(n:Int)):=by
 have hl:=RN.len h;have d:0<l↔n≠0:=by
  rw[hl];constructor
  . intro b g;rw[g,Jy]at b;simp at b
  . intro b;exact Aq.2 (λe=>b ((JA om).1 e))
 cases m with
 |false=>
  refine⟨a,l,c,?_,by simp;exact h⟩;have:decide ((n:Int)<0)=false:=BI om;simp[this]
 |true=>
  refine⟨a,l,c,?_,by simp;exact h⟩;simp only[Bool.true_and,if_true];have:decide (0<l)=decide (-(n:Int)<0):=by
   by_cases f:n=0
   . rw[BI (λb=>d.1 b f),BI om]
   . rw[BK (d.2 f),BK om]
  rw[this]
theorem aM(a:Option Addr)(la ca:Nat)(b:Option Addr)(lb cb X J:Nat)(s t:Bool)(z r:Int)(w:F)(hu:RN w (C a la ca) X)(hv:RN w (C b lb cb) J)(hY:J≠0)(co:la<=100000000)(cn:lb<=100000000)
(HP:Hid (¬(s=true/\X%J≠0)->(if(!(s==t))=true then -((X/J:Nat):Int)else((X/J:Nat):Int))=z/\((X%J:Nat):Int)=r))
(HN:Hid (s=true/\X%J≠0->(if(!(s==t))=true then -((X/J+1:Nat):Int)else((X/J+1:Nat):Int))=z/\((J-X%J:Nat):Int)=r)):
 Calls G 111 #[B #[C a la ca,D s],B #[C b lb cb,D t]] w λe w'=>∃q o,e=.returned (.tuple #[q,o])/\Jr w' q z/\Jr w' o r/\Bl w w':=by
 have Un:Tryz.prog.follows .mixedOrders=true:=by kernel_rfl
 obtain⟨b0,b1,b4,b5⟩:=aK w (C a la ca) (D s) (C b lb cb) (D t) (C none 0 0) (D false);have Qk:=QY w (E #[C a la ca,D s] 83) (E #[C b lb cb,D t] 83) (E #[C none 0 0,D false] 83) (E #[C none 0 0,D false] 83);obtain⟨W0,ce⟩:=ex ((((w.alloc (E #[C a la ca,D s] 83)).alloc (E #[C b lb cb,D t] 83)).alloc (E #[C none 0 0,D false] 83)).alloc (E #[C none 0 0,D false] 83));rw[ce]at b0 b1 b4 b5 Qk;have Ui:=Ja ce;have Uq:=RN.below hu Qk;have Uc:=RN.below hv Qk;have Ul:=Ja (RU a la ca b lb cb X J W0 Uq Uc hY co cn);have Uo:=Ja Uc;have Ur:=Ja (RN.len hu).symm;obtain⟨k0,k1⟩:=b0.cp;obtain⟨k2,k3⟩:=b1.cp;clear ce hu hv Uq Uc;go_enter Tryz.func111,Tryz.ntmps111
 go_upto_region 1 with fail
 rw[Ui.o];go_upto_region 2 with(go_at_call 139;refine Ul.o.mono ?_;rintro e w1 ⟨u1,v1,rfl,bt,bu,bm⟩;obtain⟨ua,uc,rfl⟩:=RN.form bt;obtain⟨va,vc,rfl⟩:=RN.form bu)
 clear Ul Ui;obtain⟨lr,bn⟩:=ex ((Jc 10000 (X%J)).length);obtain⟨lq,cg⟩:=ex ((Jc 10000 (X/J)).length);have Uk:=Ja (show lr=0↔X%J=0 by
  rw[<-bn];exact⟨λh=>(JA om).1 (Ap h),λh=>by rw[h,Jy];rfl⟩)
 rw[bn]at bu ⊢;rw[cg]at bt ⊢;have de:lq<=100000000:=by
  have h1:=RW (m:=X) (n:=X/J) (Fv _ _);have N:=Ur.o;omega
 have Uj:=Ja cg.symm;clear bn cg;obtain⟨k0,k1⟩:=(b0.below bm).cp;obtain⟨k2,k3⟩:=(b1.below bm).cp;have Qm:=Ja (Ia ua lq uc (!(s==t)) w1);go_upto_region 3 with(go_at_call 112;refine Qm.o.mono ?_;rintro e w2 ⟨rfl,ci⟩)
 obtain⟨m8,ck⟩:=ex (((!(s==t))&&decide (0<lq)):Bool);have hI:=aL (RN.below bt ci) (!(s==t));rw[ck]at hI ⊢;obtain⟨W3,bc⟩:=ex (w2.alloc (E #[C ua lq uc,D m8] 83));have Qv:Bl w2 W3:=by rw[<-bc];exact Ba w2 _
 have b8:Jn W3 w2.heap.size 83 (C ua lq uc) (D m8):=by rw[<-bc];exact Jn.new w2 _ _ _
 have Qu:Bl w1 W3:=Bt ci Qv;have Qg:Bl W0 W3:=Bt bm Qu;have Qz:=hI.below Qv;have Up:=RN.below bu Qu;have Qh:=Bt Qk Qg;obtain⟨B8,cl⟩:=ex (w2.heap.size);rw[bc];rw[cl]at b8 ⊢;clear bc cl ck hI Qm;have p0:=b0.below Qg;have p1:=b1.below Qg;have p4:=b4.below Qg;have p5:=b5.below Qg;clear b0 b1 b4 b5 k0 k1 k2 k3;obtain⟨k0,k1⟩:=p0.cp;obtain⟨k2,k3⟩:=p1.cp;obtain⟨k8,k9⟩:=b8.cp;obtain⟨q0,q1⟩:=p4.cp;obtain⟨q2,q3⟩:=p5.cp;obtain⟨f0,f1⟩:=p4.fp;obtain⟨f2,f3⟩:=p5.fp;obtain⟨cd,cj⟩:=ex ((!s || decide (lr=0)):Bool);have Qi:=Ja cj;clear cj;go_cut [31] (λv w4=>v=D cd/\w4=W3)
 case first=>
  cases s with
  |false=>
   have e5:cd=true:=by rw[<-Qi.o];rfl
   go_wp2_with fail
   go_meet
   case rel=>exact⟨by rw[e5],rfl⟩
  |true=>
   by_cases h5:lr=0
   . have e5:cd=true:=by rw[<-Qi.o];simp;omega
     have h6:((lr:Int)==0)=true:=by simp;omega
     clear h5;go_wp2_with fail
     go_meet
     case rel=>exact⟨by rw[e5],rfl⟩
   . have e5:cd=false:=by rw[<-Qi.o];simp;omega
     have h6:((lr:Int)==0)=false:=by simp;omega
     clear h5;go_wp2_with fail
     go_meet
     case rel=>exact⟨by rw[e5],rfl⟩
 case rest=>
  obtain⟨rfl,rfl⟩:=hcut;cases cd with
  |true=>
   have hc:¬(s=true/\X%J≠0):=λ⟨h1,N⟩=>by
    have h:=Qi.o;rw[h1]at h;simp at h;exact N (Uk.o.1 h)
   obtain⟨z1,z2⟩:=HP.o hc;rw[z1]at Qz;have Qm:=Ja (Ia va lr vc s);have Um:(s&&decide (0<lr))=false:=by
    have h:=Qi.o;cases s with
    |false=>rfl
    |true=>simp at h;simp;omega
   rw[Um]at Qm;have Qy:=Ja z2;clear Um z1 z2 hc;go_wp2_with fail
   go_region_with (first
    |(go_at_call 112;refine(Qm.o _).mono ?_;rintro e w5 ⟨rfl,L⟩;have k8:=((b8.drew).below L).c0;have k9:=((b8.drew).below L).c1;have q0:=((p4.drew).below L).c0;have q1:=((p4.drew).below L).c1;have q2:=((p5.drew).below L).c0;have q3:=((p5.drew).below L).c1;have f0:=((p4.drew).below L).f0;have f1:=((p4.drew).below L).f1;have f2:=((p5.drew).below L).f0;have f3:=((p5.drew).below L).f1))
   all_goals
    go_wp2_with fail
    have Qs:Bl wc w5:=((BB _ wc).drew).trans (L.mono (Aa _));have Qb:=p4.below Qs;have Qe:=p5.below Qs;obtain⟨z4,z5⟩:=L7 (C ua lq uc) (D m8) (C va lr vc) (D false) Qb Qe;obtain⟨Qq,Qt⟩:=z4.cp;obtain⟨Qo,Qp⟩:=z5.cp;have Qc:Jn ((w5.setCell ⟨w.heap.size+1+1,0,none⟩ (C ua lq uc)).setCell ⟨w.heap.size+1+1,1,none⟩ (D m8)) (w.heap.size+1+1+1) 83 (C none 0 0) (D false):=(Qe.far DQ _).far DQ _;have Qd:=(I8 Up).below Qs;rw[Qy.o]at Qd;have Ql:=((Qz.below Qs).box Qb rfl rfl (x0:=C ua lq uc) (x1:=D m8)).box Qc rfl rfl (x0:=C va lr vc) (x1:=D false);have Qn:=(Qd.box Qb rfl rfl (x0:=C ua lq uc) (x1:=D m8)).box Qc rfl rfl (x0:=C va lr vc) (x1:=D false);have Qr:=Bt Qh Qs;exact BA (v:=.tuple #[B #[C ua lq uc,D m8],B #[C va lr vc,D false]]) (by simp[results,Tryz.results111,go_sem,Qq,Qt,Qo,Qp]) rfl ⟨_,_,rfl,Ql,Qn,(((Qr.setCell (p:=⟨_,0,none⟩) so _).setCell (p:=⟨_,1,none⟩) so _).setCell (p:=⟨_,0,none⟩) so _).setCell (p:=⟨_,1,none⟩) so _⟩
  |false=>
   have hc:s=true/\X%J≠0:=by
    have h:=Qi.o;simp at h;exact⟨h.1,λe=>h.2 (Uk.o.2 e)⟩
   obtain⟨z1,z2⟩:=HN.o hc;rw[hc.1]at z1;have Uh:Jr wc (B #[C ua lq uc,D m8]) (if(!(true==t))=true then -((X/J:Nat):Int)else((X/J:Nat):Int)):=by have h:=Qz;rw[hc.1]at h;exact h
   obtain⟨Ub,Qx,Qy⟩:=Dm Uh z1 z2;have ct:=A7 X (show J>0 by omega);have Qw:=Ja (Hl 1 om om);have Ua:=Ja (λ(V:F) (h:Bl wc V)=>Le _ _ J (X%J) V (RN.below (RN.below Uo.o Qg) h) (RN.below Up h) om (by rw[<-RN.len Uo.o];omega));clear hc Uh z1 z2 Qz;cases t with
   |true=>
    have Uf:=Ja (show ∀(V:F) (u:H),Bl wc V->Jr V u 1->Calls G 81 #[B #[C ua lq uc,D m8],u] V λe w'=>∃u,e=.returned u/\Jr w' u z/\Bl V w' from λV u h hu=>by
     have hx:=Ub.o.below h;simp only[beq_self_eq_true,Bool.not_true,A9,if_false]at hx;have h1:=NR _ u _ 1 V hx hu (by unfold ET;rw[AR,<-Uj.o];omega) (L6 om om);have N:=Qx.o;simp only[beq_self_eq_true,Bool.not_true,A9,if_false]at N;rw[show((X/J:Nat):Int)+1=z from by rw[<-N];push_cast;rfl]at h1;exact h1)
    clear Ub Qx HN HP;go_upto_region 6 with fail
    refine Jk Un [[],[],[0,1,1],[],[3],[],[4,5,2],[6],[2,6,0,1,2],[7,8,0,1,2,3,4,5,6,7,8]] (by kernel_rfl) DS
     (λc ac V=>∃ay az am aw bg bf af aq:H,ac={ tmps:=#[B #[C a la ca,D s],B #[C b lb cb,D true],I (some ⟨w.heap.size,0,none⟩),I (some ⟨w.heap.size+1,0,none⟩),I (some ⟨w.heap.size+1+1,0,none⟩),I (some ⟨w.heap.size+1+1+1,0,none⟩),C ua lq uc,C va lr vc,I (some ⟨B8,0,none⟩),u9,u10,u11,u12,u13,u14,u15,u16,u17,u18,u19,u20,u21,u22,u23,u24,u25,u26,u27,u28,u29,u30,D false,u32,u33,u34,u35,u36,I (some ⟨w.heap.size+1,1,none⟩),D true,ay,az,am,aw,bg,bf,af,aq,u47,u48,u49,u50,u51,u52,u53,u54],defers:=[] }/\Hid (c 0=true->ay=B #[C ua lq uc,D m8])/\Hid (c 1=true->c 8=false->Jr V az 1)/\Hid (c 2=true->c 8=false->∃x j c5 l,am=B #[C x j c5,D l]/\Jr V am z)/\Hid (c 3=true->aw=I (some ⟨w.heap.size+1,0,none⟩))/\Hid (c 4=true->bg=C b lb cb)/\Hid (c 5=true->bf=C va lr vc)/\Hid (c 6=true->c 8=false->∃f g d,af=C f g d/\RN V af (J-X%J))/\Hid (c 7=true->∃f g d,af=C f g d/\aq=B #[C f g d,D false])/\Hid (c 8=true->∃Z x j c5 l f g d,am=B #[C x j c5,D l]/\af=C f g d/\Jr Z (B #[C x j c5,D l]) z/\RN Z (C f g d) (J-X%J)/\Bl wc Z/\(c 9=false->V=((Z.setCell ⟨w.heap.size+1+1,0,none⟩ (C x j c5)).setCell ⟨w.heap.size+1+1,1,none⟩ (D l)))/\(c 9=true->V=(((Z.setCell ⟨w.heap.size+1+1,0,none⟩ (C x j c5)).setCell ⟨w.heap.size+1+1,1,none⟩ (D l)).setCell ⟨w.heap.size+1+1+1,0,none⟩ (C f g d)).setCell ⟨w.heap.size+1+1+1,1,none⟩ (D false)))/\Hid (c 8=false->Bl wc V))
     (E8 ⟨rfl,Ja Dl,Ja Dl,Ja Dl,Ja Dl,Ja Dl,Ja Dl,Ja Dl,Ja Dl,Ja Dl,Ja (λ_=>(BB _ wc).drew)⟩) ?step ?fin
    case step=>
     rintro c a2 V i ds A ah k y ⟨ay,az,am,aw,bg,bf,af,aq,rfl,T,U,Y,S,R,Q,P,W,g8,O⟩;have Qf:i<10:=(Ac.1 ah).1;obtain rfl|rfl|rfl|rfl|rfl|rfl|rfl|rfl|rfl|rfl:=IM i om
     all_goals
      simp only[Af,Ae,Ag]at ah;subst ah;clear Qf
     . have M:c 8=false:=by
        cases h:c 8 with
        |false=>rfl
        |true=>rw[A 8 _ rfl h 0 DQ]at y;cases y
       have hq:=O.o M;obtain⟨k8,k9⟩:=(b8.below hq).cp;clear k A;refine D8 ?_;exact⟨Ja (λ_=>rfl),U,Y,S,R,Q,P,W,Ja (λh=>by simp[M]at h),O⟩
     . have M:c 8=false:=by
        cases h:c 8 with
        |false=>rfl
        |true=>rw[A 8 _ rfl h 1 DQ]at y;cases y
       have Ud:c 2=false:=by
        cases h:c 2 with
        |false=>rfl
        |true=>rw[A 2 _ rfl h 1 DQ]at y;cases y
       have hq:=O.o M;clear k A;refine Jv rfl rfl λK hK=>?_;go_simp;go_wp2_with(go_at_call 79;refine(Qw.o _).mono ?_;rintro e w5 ⟨u5,rfl,ad,L⟩)
       exact⟨_,_,_,_,_,_,_,_,rfl,T,Ja (λ_ _=>ad),Ja (λh=>by simp[Ud]at h),S,R,Q,Ja (λh N=>by obtain⟨f,g,d,e,q⟩:=P.o h N;exact⟨f,g,d,e,RN.below q L⟩),W,Ja (λh=>by simp[M]at h),Ja (λ_=>Bt hq L)⟩
     . have M:c 8=false:=by
        cases h:c 8 with
        |false=>rfl
        |true=>rw[A 8 _ rfl h 2 DQ]at y;cases y
       have hq:=O.o M;obtain rfl:=T.o (k 0 DQ);have h1:=U.o (k 1 DQ) M;clear k A;refine Jv rfl rfl λK hK=>?_;go_simp;go_wp2_with(go_at_call 81;refine(Uf.o _ _ hq h1).mono ?_;rintro e w5 ⟨u5,rfl,ad,L⟩;obtain⟨x,j,c5,rfl⟩:=ad.form;obtain⟨l,aj⟩:=ex (decide (z<0));rw[aj]at ad;rw[aj];clear aj)
       exact E8 ⟨rfl,Ja (λ_=>rfl),Ja (λh N=>(U.o h N).below L),Ja (λ_ _=>⟨x,j,c5,l,rfl,ad⟩),S,R,Q,Ja (λh N=>by obtain⟨f,g,d,e,q⟩:=P.o h N;exact⟨f,g,d,e,RN.below q L⟩),W,Ja (λh=>by simp[M]at h),Ja (λ_=>Bt hq L)⟩
     . clear k A;refine D8 ?_;exact⟨T,U,Y,Ja (λ_=>rfl),R,Q,P,W,g8,O⟩
     . have Qj:c 6=false:=by
        cases h:c 6 with
        |false=>rfl
        |true=>rw[A 6 _ rfl h 4 DQ]at y;cases y
       have M:c 8=false:=by
        cases h:c 8 with
        |false=>rfl
        |true=>rw[A 8 _ rfl h 6 DQ]at Qj;cases Qj
       have hq:=O.o M;obtain rfl:=S.o (k 3 DQ);have k2:=(p1.below hq).c0;clear k A;refine D8 ?_;exact⟨T,U,Y,Ja (λ_=>rfl),Ja (λ_=>rfl),Q,P,W,Ja (λh=>by simp[M]at h),O⟩
     . clear k A;refine D8 ?_;exact⟨T,U,Y,S,R,Ja (λ_=>rfl),P,W,g8,O⟩
     . have M:c 8=false:=by
        cases h:c 8 with
        |false=>rfl
        |true=>rw[A 8 _ rfl h 6 DQ]at y;cases y
       have Ug:c 7=false:=by
        cases h:c 7 with
        |false=>rfl
        |true=>rw[A 7 _ rfl h 6 DQ]at y;cases y
       have hq:=O.o M;obtain rfl:=R.o (k 4 DQ);obtain rfl:=Q.o (k 5 DQ);clear k A;refine Jv rfl rfl λK hK=>?_;go_simp;go_wp2_with(go_at_call 115;refine(Ua.o _ hq).mono ?_;rintro e w5 ⟨u5,rfl,ad,L⟩;obtain⟨f,d,rfl⟩:=RN.form ad)
       exact⟨_,_,_,_,_,_,_,_,rfl,T,Ja (λh N=>(U.o h N).below L),Ja (λh N=>by obtain⟨x,j,c5,l,e,q⟩:=Y.o h N;exact⟨x,j,c5,l,e,q.below L⟩),S,Ja (λ_=>rfl),Ja (λ_=>rfl),Ja (λ_ _=>⟨_,_,_,rfl,ad⟩),Ja (λh=>by simp[Ug]at h),Ja (λh=>by simp[M]at h),Ja (λ_=>Bt hq L)⟩
     . obtain⟨f,g,d,e6⟩:∃f g d,af=C f g d:=by
        cases h8:c 8 with
        |false=>obtain⟨f,g,d,e,_⟩:=P.o (k 6 DQ) h8;exact⟨f,g,d,e⟩
        |true=>obtain⟨_,_,_,_,_,f,g,d,_,e,_⟩:=g8.o h8;exact⟨f,g,d,e⟩
       obtain rfl:=e6;clear k A;refine D8 ?_;exact⟨T,U,Y,S,R,Q,P,Ja (λ_=>⟨f,g,d,rfl,rfl⟩),g8,O⟩
     . have Ue:c 9=false:=by
        cases h:c 9 with
        |false=>rfl
        |true=>rw[A 9 _ rfl h 8 DQ]at y;cases y
       have hq:=O.o y;obtain⟨x,j,c5,l,e5,h5⟩:=Y.o (k 2 DQ) y;obtain⟨f,g,d,e6,h6⟩:=P.o (k 6 DQ) y;obtain rfl:=e5;obtain rfl:=e6;obtain⟨q0,q1⟩:=(p4.below hq).cp;obtain⟨f0,f1⟩:=(p4.below hq).fp;clear U Y P;clear k A;refine D8 ?_;exact⟨T,Ja (λ_ h=>by simp at h),Ja (λ_ h=>by simp at h),S,R,Q,Ja (λ_ h=>by simp at h),W,Ja (λ_=>⟨V,x,j,c5,l,f,g,d,rfl,rfl,h5,h6,hq,λ_=>rfl,λh=>by simp[Ue]at h⟩),Ja (λh=>by simp at h)⟩
     . obtain⟨Z,x,j,c5,l,f,g,d,e5,e6,h5,h6,hq,hV,_⟩:=g8.o (k 8 DQ);obtain rfl:=hV y;obtain⟨a7,l7,c7,e7,e8⟩:=W.o (k 7 DQ);obtain rfl:=e8;obtain rfl:=e6;cases e7;obtain rfl:=e5;have bb:=((p5.below hq).far (p:=⟨w.heap.size+1+1,0,none⟩) DQ (C x j c5)).far (p:=⟨w.heap.size+1+1,1,none⟩) DQ (D l);obtain⟨q0,q1⟩:=bb.cp;obtain⟨f0,f1⟩:=bb.fp;have h8:=k 8 DQ;clear hV;clear k A;refine D8 ?_;exact⟨T,Ja (λ_ h=>by simp[h8]at h),Ja (λ_ h=>by simp[h8]at h),S,R,Q,Ja (λ_ h=>by simp[h8]at h),Ja (λ_=>⟨_,_,_,rfl,rfl⟩),Ja (λ_=>⟨Z,x,j,c5,l,f,g,d,rfl,rfl,h5,h6,hq,λh=>by simp at h,λ_=>rfl⟩),Ja (λh=>by simp[h8]at h)⟩
    case fin=>
     rintro c a2 V ai ⟨ay,az,am,aw,bg,bf,af,aq,rfl,T,U,Y,S,R,Q,P,W,g8,O⟩;obtain⟨Z,x,j,c5,l,f,g,d,e5,e6,h5,h6,hq,_,hV⟩:=g8.o (ai 8 DS);obtain rfl:=hV (ai 9 DS);clear T U Y S R Q P W g8 O ai hV e5 e6 Ua Qw;go_wp2_with fail
     have Qb:=p4.below hq;have Qe:=p5.below hq;obtain⟨z4,z5⟩:=L7 (C x j c5) (D l) (C f g d) (D false) Qb Qe;obtain⟨Qq,Qt⟩:=z4.cp;obtain⟨Qo,Qp⟩:=z5.cp;have Qc:Jn ((Z.setCell ⟨w.heap.size+1+1,0,none⟩ (C x j c5)).setCell ⟨w.heap.size+1+1,1,none⟩ (D l)) (w.heap.size+1+1+1) 83 (C none 0 0) (D false):=(Qe.far DQ _).far DQ _;have Qd:=I8 h6;rw[Qy.o]at Qd;have Ql:=(h5.box Qb rfl rfl (x0:=C x j c5) (x1:=D l)).box Qc rfl rfl (x0:=C f g d) (x1:=D false);have Qn:=(Qd.box Qb rfl rfl (x0:=C x j c5) (x1:=D l)).box Qc rfl rfl (x0:=C f g d) (x1:=D false);have Qr:=Bt Qh hq;exact BA (v:=.tuple #[B #[C x j c5,D l],B #[C f g d,D false]]) (by simp[results,Tryz.results111,go_sem,Qq,Qt,Qo,Qp]) rfl ⟨_,_,rfl,Ql,Qn,(((Qr.setCell (p:=⟨_,0,none⟩) so _).setCell (p:=⟨_,1,none⟩) so _).setCell (p:=⟨_,0,none⟩) so _).setCell (p:=⟨_,1,none⟩) so _⟩
   |false=>
    have Uf:=Ja (show ∀(V:F) (u:H),Bl wc V->Jr V u 1->Calls G 140 #[B #[C ua lq uc,D m8],u] V λe w'=>∃u,e=.returned u/\Jr w' u z/\Bl V w' from λV u h hu=>by
     have hx:=Ub.o.below h;rw[BG (by rfl)]at hx;have h1:=ZN _ u _ 1 V hx hu (by unfold ET;rw[Fp,AR,<-Uj.o];omega) (L6 om om);have N:=Qx.o;rw[BG (by rfl)]at N;rw[show -((X/J:Nat):Int)-1=z from by rw[<-N];push_cast;omega]at h1;exact h1)
    clear Ub Qx HN HP;go_upto_region 7 with fail
    refine Jk Un [[],[],[0,1,1],[],[3],[],[4,5,2],[6],[2,6,0,1,2],[7,8,0,1,2,3,4,5,6,7,8]] (by kernel_rfl) DS
     (λc ac V=>∃bi an ak bk ap bj ae bh:H,ac={ tmps:=#[B #[C a la ca,D s],B #[C b lb cb,D false],I (some ⟨w.heap.size,0,none⟩),I (some ⟨w.heap.size+1,0,none⟩),I (some ⟨w.heap.size+1+1,0,none⟩),I (some ⟨w.heap.size+1+1+1,0,none⟩),C ua lq uc,C va lr vc,I (some ⟨B8,0,none⟩),u9,u10,u11,u12,u13,u14,u15,u16,u17,u18,u19,u20,u21,u22,u23,u24,u25,u26,u27,u28,u29,u30,D false,u32,u33,u34,u35,u36,I (some ⟨w.heap.size+1,1,none⟩),D false,u39,u40,u41,u42,u43,u44,u45,u46,bi,an,ak,bk,ap,bj,ae,bh],defers:=[] }/\Hid (c 0=true->bi=B #[C ua lq uc,D m8])/\Hid (c 1=true->c 8=false->Jr V an 1)/\Hid (c 2=true->c 8=false->∃x j c5 l,ak=B #[C x j c5,D l]/\Jr V ak z)/\Hid (c 3=true->bk=I (some ⟨w.heap.size+1,0,none⟩))/\Hid (c 4=true->ap=C b lb cb)/\Hid (c 5=true->bj=C va lr vc)/\Hid (c 6=true->c 8=false->∃f g d,ae=C f g d/\RN V ae (J-X%J))/\Hid (c 7=true->∃f g d,ae=C f g d/\bh=B #[C f g d,D false])/\Hid (c 8=true->∃Z x j c5 l f g d,ak=B #[C x j c5,D l]/\ae=C f g d/\Jr Z (B #[C x j c5,D l]) z/\RN Z (C f g d) (J-X%J)/\Bl wc Z/\(c 9=false->V=((Z.setCell ⟨w.heap.size+1+1,0,none⟩ (C x j c5)).setCell ⟨w.heap.size+1+1,1,none⟩ (D l)))/\(c 9=true->V=(((Z.setCell ⟨w.heap.size+1+1,0,none⟩ (C x j c5)).setCell ⟨w.heap.size+1+1,1,none⟩ (D l)).setCell ⟨w.heap.size+1+1+1,0,none⟩ (C f g d)).setCell ⟨w.heap.size+1+1+1,1,none⟩ (D false)))/\Hid (c 8=false->Bl wc V))
     (E8 ⟨rfl,Ja Dl,Ja Dl,Ja Dl,Ja Dl,Ja Dl,Ja Dl,Ja Dl,Ja Dl,Ja Dl,Ja (λ_=>(BB _ wc).drew)⟩) ?step ?fin
    case step=>
     rintro c a2 V i ds A ah k y ⟨bi,an,ak,bk,ap,bj,ae,bh,rfl,T,U,Y,S,R,Q,P,W,g8,O⟩;have Qf:i<10:=(Ac.1 ah).1;obtain rfl|rfl|rfl|rfl|rfl|rfl|rfl|rfl|rfl|rfl:=IM i om
     all_goals
      simp only[Af,Ae,Ag]at ah;subst ah;clear Qf
     . have M:c 8=false:=by
        cases h:c 8 with
        |false=>rfl
        |true=>rw[A 8 _ rfl h 0 DQ]at y;cases y
       have hq:=O.o M;obtain⟨k8,k9⟩:=(b8.below hq).cp;clear k A;refine D8 ?_;exact⟨Ja (λ_=>rfl),U,Y,S,R,Q,P,W,Ja (λh=>by simp[M]at h),O⟩
     . have M:c 8=false:=by
        cases h:c 8 with
        |false=>rfl
        |true=>rw[A 8 _ rfl h 1 DQ]at y;cases y
       have Ud:c 2=false:=by
        cases h:c 2 with
        |false=>rfl
        |true=>rw[A 2 _ rfl h 1 DQ]at y;cases y
       have hq:=O.o M;clear k A;refine Jv rfl rfl λK hK=>?_;go_simp;go_wp2_with(go_at_call 79;refine(Qw.o _).mono ?_;rintro e w5 ⟨u5,rfl,ad,L⟩)
       exact⟨_,_,_,_,_,_,_,_,rfl,T,Ja (λ_ _=>ad),Ja (λh=>by simp[Ud]at h),S,R,Q,Ja (λh N=>by obtain⟨f,g,d,e,q⟩:=P.o h N;exact⟨f,g,d,e,RN.below q L⟩),W,Ja (λh=>by simp[M]at h),Ja (λ_=>Bt hq L)⟩
     . have M:c 8=false:=by
        cases h:c 8 with
        |false=>rfl
        |true=>rw[A 8 _ rfl h 2 DQ]at y;cases y
       have hq:=O.o M;obtain rfl:=T.o (k 0 DQ);have h1:=U.o (k 1 DQ) M;clear k A;refine Jv rfl rfl λK hK=>?_;go_simp;go_wp2_with(go_at_call 140;refine(Uf.o _ _ hq h1).mono ?_;rintro e w5 ⟨u5,rfl,ad,L⟩;obtain⟨x,j,c5,rfl⟩:=ad.form;obtain⟨l,aj⟩:=ex (decide (z<0));rw[aj]at ad;rw[aj];clear aj)
       exact E8 ⟨rfl,Ja (λ_=>rfl),Ja (λh N=>(U.o h N).below L),Ja (λ_ _=>⟨x,j,c5,l,rfl,ad⟩),S,R,Q,Ja (λh N=>by obtain⟨f,g,d,e,q⟩:=P.o h N;exact⟨f,g,d,e,RN.below q L⟩),W,Ja (λh=>by simp[M]at h),Ja (λ_=>Bt hq L)⟩
     . clear k A;refine D8 ?_;exact⟨T,U,Y,Ja (λ_=>rfl),R,Q,P,W,g8,O⟩
     . have Qj:c 6=false:=by
        cases h:c 6 with
        |false=>rfl
        |true=>rw[A 6 _ rfl h 4 DQ]at y;cases y
       have M:c 8=false:=by
        cases h:c 8 with
        |false=>rfl
        |true=>rw[A 8 _ rfl h 6 DQ]at Qj;cases Qj
       have hq:=O.o M;obtain rfl:=S.o (k 3 DQ);have k2:=(p1.below hq).c0;clear k A;refine D8 ?_;exact⟨T,U,Y,Ja (λ_=>rfl),Ja (λ_=>rfl),Q,P,W,Ja (λh=>by simp[M]at h),O⟩
     . clear k A;refine D8 ?_;exact⟨T,U,Y,S,R,Ja (λ_=>rfl),P,W,g8,O⟩
     . have M:c 8=false:=by
        cases h:c 8 with
        |false=>rfl
        |true=>rw[A 8 _ rfl h 6 DQ]at y;cases y
       have Ug:c 7=false:=by
        cases h:c 7 with
        |false=>rfl
        |true=>rw[A 7 _ rfl h 6 DQ]at y;cases y
       have hq:=O.o M;obtain rfl:=R.o (k 4 DQ);obtain rfl:=Q.o (k 5 DQ);clear k A;refine Jv rfl rfl λK hK=>?_;go_simp;go_wp2_with(go_at_call 115;refine(Ua.o _ hq).mono ?_;rintro e w5 ⟨u5,rfl,ad,L⟩;obtain⟨f,d,rfl⟩:=RN.form ad)
       exact⟨_,_,_,_,_,_,_,_,rfl,T,Ja (λh N=>(U.o h N).below L),Ja (λh N=>by obtain⟨x,j,c5,l,e,q⟩:=Y.o h N;exact⟨x,j,c5,l,e,q.below L⟩),S,Ja (λ_=>rfl),Ja (λ_=>rfl),Ja (λ_ _=>⟨_,_,_,rfl,ad⟩),Ja (λh=>by simp[Ug]at h),Ja (λh=>by simp[M]at h),Ja (λ_=>Bt hq L)⟩
     . obtain⟨f,g,d,e6⟩:∃f g d,ae=C f g d:=by
        cases h8:c 8 with
        |false=>obtain⟨f,g,d,e,_⟩:=P.o (k 6 DQ) h8;exact⟨f,g,d,e⟩
        |true=>obtain⟨_,_,_,_,_,f,g,d,_,e,_⟩:=g8.o h8;exact⟨f,g,d,e⟩
       obtain rfl:=e6;clear k A;refine D8 ?_;exact⟨T,U,Y,S,R,Q,P,Ja (λ_=>⟨f,g,d,rfl,rfl⟩),g8,O⟩
     . have Ue:c 9=false:=by
        cases h:c 9 with
        |false=>rfl
        |true=>rw[A 9 _ rfl h 8 DQ]at y;cases y
       have hq:=O.o y;obtain⟨x,j,c5,l,e5,h5⟩:=Y.o (k 2 DQ) y;obtain⟨f,g,d,e6,h6⟩:=P.o (k 6 DQ) y;obtain rfl:=e5;obtain rfl:=e6;obtain⟨q0,q1⟩:=(p4.below hq).cp;obtain⟨f0,f1⟩:=(p4.below hq).fp;clear U Y P;clear k A;refine D8 ?_;exact⟨T,Ja (λ_ h=>by simp at h),Ja (λ_ h=>by simp at h),S,R,Q,Ja (λ_ h=>by simp at h),W,Ja (λ_=>⟨V,x,j,c5,l,f,g,d,rfl,rfl,h5,h6,hq,λ_=>rfl,λh=>by simp[Ue]at h⟩),Ja (λh=>by simp at h)⟩
     . obtain⟨Z,x,j,c5,l,f,g,d,e5,e6,h5,h6,hq,hV,_⟩:=g8.o (k 8 DQ);obtain rfl:=hV y;obtain⟨a7,l7,c7,e7,e8⟩:=W.o (k 7 DQ);obtain rfl:=e8;obtain rfl:=e6;cases e7;obtain rfl:=e5;have bb:=((p5.below hq).far (p:=⟨w.heap.size+1+1,0,none⟩) DQ (C x j c5)).far (p:=⟨w.heap.size+1+1,1,none⟩) DQ (D l);obtain⟨q0,q1⟩:=bb.cp;obtain⟨f0,f1⟩:=bb.fp;have h8:=k 8 DQ;clear hV;clear k A;refine D8 ?_;exact⟨T,Ja (λ_ h=>by simp[h8]at h),Ja (λ_ h=>by simp[h8]at h),S,R,Q,Ja (λ_ h=>by simp[h8]at h),Ja (λ_=>⟨_,_,_,rfl,rfl⟩),Ja (λ_=>⟨Z,x,j,c5,l,f,g,d,rfl,rfl,h5,h6,hq,λh=>by simp at h,λ_=>rfl⟩),Ja (λh=>by simp[h8]at h)⟩
    case fin=>
     rintro c a2 V ai ⟨bi,an,ak,bk,ap,bj,ae,bh,rfl,T,U,Y,S,R,Q,P,W,g8,O⟩;obtain⟨Z,x,j,c5,l,f,g,d,e5,e6,h5,h6,hq,_,hV⟩:=g8.o (ai 8 DS);obtain rfl:=hV (ai 9 DS);clear T U Y S R Q P W g8 O ai hV e5 e6 Ua Qw;go_wp2_with fail
     have Qb:=p4.below hq;have Qe:=p5.below hq;obtain⟨z4,z5⟩:=L7 (C x j c5) (D l) (C f g d) (D false) Qb Qe;obtain⟨Qq,Qt⟩:=z4.cp;obtain⟨Qo,Qp⟩:=z5.cp;have Qc:Jn ((Z.setCell ⟨w.heap.size+1+1,0,none⟩ (C x j c5)).setCell ⟨w.heap.size+1+1,1,none⟩ (D l)) (w.heap.size+1+1+1) 83 (C none 0 0) (D false):=(Qe.far DQ _).far DQ _;have Qd:=I8 h6;rw[Qy.o]at Qd;have Ql:=(h5.box Qb rfl rfl (x0:=C x j c5) (x1:=D l)).box Qc rfl rfl (x0:=C f g d) (x1:=D false);have Qn:=(Qd.box Qb rfl rfl (x0:=C x j c5) (x1:=D l)).box Qc rfl rfl (x0:=C f g d) (x1:=D false);have Qr:=Bt Qh hq;exact BA (v:=.tuple #[B #[C x j c5,D l],B #[C f g d,D false]]) (by simp[results,Tryz.results111,go_sem,Qq,Qt,Qo,Qp]) rfl ⟨_,_,rfl,Ql,Qn,(((Qr.setCell (p:=⟨_,0,none⟩) so _).setCell (p:=⟨_,1,none⟩) so _).setCell (p:=⟨_,0,none⟩) so _).setCell (p:=⟨_,1,none⟩) so _⟩
theorem MO(g f:H)(x y:Int)(w:F)(l:Jr w g x)(p:Jr w f y)(i:y≠0)(n:ET x<=100000000)(m:ET y<=100000000):
 Calls G 111 #[g,f] w λe d=>∃q o,e=.returned (.tuple #[q,o])/\Jr d q (x/y)/\Jr d o (x%y)/\Bl w d:=by
 obtain⟨a,la,ca,rfl,k⟩:=l;obtain⟨b,lb,cb,rfl,j⟩:=p;refine aM a la ca b lb cb x.natAbs y.natAbs _ _ (x/y) (x%y) w k j om (by rw[RN.len k];exact n) (by rw[RN.len j];exact m) (λc=>Q3 i (λh=>c ⟨BK h.1,h.2⟩)) (λc=>Q4 i ⟨Bf c.1,c.2⟩)
theorem aN(o:H)(x:Int)(w:F)(s:Jr w o x):
 Calls G 73 #[o] w λe q=>e=.returned (.int .i64 x.sign)/\Bl w q:=by
 obtain⟨a,la,ca,rfl,i⟩:=s;have j:=RN.len i;have u:=(Ju i).2.2.2.1;have g:Bl w (w.alloc (E #[C a la ca,D (decide (x<0))] 83)):=Ba w _;have b0:=Jn.new w 83 (C a la ca) (D (decide (x<0)));have k:la=0↔x=0:=by
  rw[j];constructor
  . intro h;have:=(JA (B:=10000) om).1 (Ap h);omega
  . intro h;rw[h,Int.natAbs_zero,Jy];rfl
 have p:=Ja k;obtain⟨W0,f⟩:=ex (w.alloc (E #[C a la ca,D (decide (x<0))] 83));rw[f]at g b0;have c:=Ja f;obtain⟨t,m⟩:=b0.cp;by_cases l:x<0
 . have b:decide (x<0)=true:=BK l;rw[b]at c m ⊢;have d:=Ja (Int.sign_eq_neg_one_of_neg l);clear j k f i b b0;go_enter Tryz.func73,Tryz.ntmps73
   go_upto_region 1 with fail
   rw[c.o];go_wp2_with fail
   go_ret;exact⟨by rw[d.o];rfl,g⟩
 . have b:decide (x<0)=false:=BI l;rw[b]at c m ⊢;clear j k f i b b0;rcases AY la with n|n
   . subst n;have d:=Ja (show x.sign=0 by rw[p.o.1 rfl];rfl);go_enter Tryz.func73,Tryz.ntmps73
     go_upto_region 1 with fail
     rw[c.o];go_wp2_with fail
     go_ret;refine⟨?_,g⟩;rw[d.o];first|rfl|(simp;done)
   . have d:=Ja (show x.sign=1 from Int.sign_eq_one_of_pos (by
      have:=p.o;rcases FH x 0 with h|h|h
      . omega
      . have:=this.2 h;omega
      . exact h))
     have r:min (1:Int) (la:Int)=1:=om
     go_enter Tryz.func73,Tryz.ntmps73
     go_upto_region 1 with fail
     rw[c.o];go_wp2_with fail
     go_ret;refine⟨?_,g⟩;rw[d.o];first|rfl|(simp[r];done)
theorem RX{x y:Int}(a:y≠0):(0:Int)<(Int.gcd x y:Nat):=by
 have:=Int.gcd_pos_of_ne_zero_right x a;omega
theorem Js.mk{t:Bool}{b:Option Addr}{d:Nat}{q:Rat}(e:Jr W (B #[C a l c,D s]) q.num)(f:Jr W (B #[C b k d,D t]) (q.den:Int)):Js W (B #[C a l c,D s,C b k d,D t]) q:=⟨_,_,_,_,_,_,_,_,rfl,e,f⟩
theorem Jr.sign{z:Int}(h:Jr W (B #[C a l c,D s]) z):s=decide (z<0):=by
 obtain⟨a',l',c',e,_⟩:=h;cases e;rfl
theorem KG(va vb:H)(x y:Int)(w:F)(ha:Jr w va x)(f:Jr w vb y)(hy:y≠0)(du:Da x)(dh:Da y):
 Calls G 80 #[va,vb] w λe w'=>∃u,e=.returned u/\Js w' u (Rat.divInt x y)/\Bl w w':=by
 obtain⟨cn,ei,am,dt,rfl⟩:=Jr.form2 ha;obtain⟨az,bj,f9,fe,rfl⟩:=Jr.form2 f;have s:=((((Mem.nil w).push (.big (x)) ha).push (.big (y)) (Has.alloc (d:=.big (y)) f _)).push .zref rfl);simp only[A1]at s;have s:Mem w (((w.alloc (E #[C cn ei am,D dt] 83)).alloc (E #[C az bj f9,D fe] 83)).alloc (E #[C none 0 0,D false,C none 0 0,D false] 85)) [some (w.heap.size,.big (x)),some (w.heap.size+1,.big (y)),some (w.heap.size+1+1,.zref)]:=s;obtain⟨W0,aj⟩:=ex (((w.alloc (E #[C cn ei am,D dt] 83)).alloc (E #[C az bj f9,D fe] 83)).alloc (E #[C none 0 0,D false,C none 0 0,D false] 85));have Ud:=Ja aj;rw[aj]at s;have M1:Hid (Mem w W0 [some (w.heap.size,.big (x)),some (w.heap.size+1,.big (y)),some (w.heap.size+1+1,.zref)]):=Ja s;obtain⟨q,Qa,Qb⟩:=Dm hy du dh;clear s aj ha f hy du dh;go_enter Tryz.func80,Tryz.ntmps80
 go_upto_region 1 with fail
 rw[Ud.o];clear Ud;obtain⟨a1,l1,c1,s1,n1,i1⟩:=M1.o.big (i:=0) rfl;obtain⟨Uh,Uj⟩:=n1.cp;obtain⟨a2,l2,c2,s2,n2,i2⟩:=M1.o.big (i:=1) rfl;obtain⟨Ui,Uf⟩:=n2.cp;go_upto_region 2 with(go_at_call 109;refine(aJ _ _ x y _ i1 i2 (by have:=Qa.o.size;omega) (by have:=Qb.o.size;omega)).mono ?_;rintro e w1 ⟨u,rfl,hu,f⟩;obtain⟨f7,fb,bh,aq,rfl⟩:=Jr.form2 hu)
 obtain⟨V3,b⟩:=ex (w1.alloc (E #[C f7 fb bh,D aq] 83));obtain⟨j,c⟩:=ex (w1.heap.size);have a:Mem w (w1.alloc (E #[C f7 fb bh,D aq] 83)) [some (w.heap.size,.big (x)),some (w.heap.size+1,.big (y)),some (w.heap.size+1+1,.zref),some (w1.heap.size,.big (((Int.gcd x y:Nat):Int)))]:=Mem.push (M1.o.below f) (.big (((Int.gcd x y:Nat):Int))) hu;rw[b,c]at a;rw[b];rw[c];have p:Hid (Mem w V3 [some (w.heap.size,.big (x)),some (w.heap.size+1,.big (y)),some (w.heap.size+1+1,.zref),some (j,.big (((Int.gcd x y:Nat):Int)))]):=Ja (a);clear M1;clear a b c;clear n1 Uh Uj i1 n2 Ui Uf i2 hu f;have HG:=Ja (Da.gcd Qa.o Qb.o);by_cases r:y<0
 . have HL:=Ja r;obtain⟨a4,l4,c4,s4,n4,i4⟩:=p.o.big (i:=1) rfl;have Ul:=n4.c1;have hs:=Jr.sign i4;rw[BK r]at hs;subst hs;clear r;go_upto_region 3 with fail
   clear n4 Ul i4;obtain⟨a5,l5,c5,s5,n5,i5⟩:=p.o.big (i:=3) rfl;obtain⟨Uc,Ub⟩:=n5.cp;go_upto_region 4 with(go_at_call 110;refine(PP _ (((Int.gcd x y:Nat):Int)) _ i5).mono ?_;rintro e w6 ⟨u6,rfl,ak,ad⟩;obtain⟨bk,cg,ew,eh,rfl⟩:=Jr.form2 ak;obtain⟨Uc,Ub⟩:=(n5.below ad).cp;obtain⟨Uk,Um⟩:=(n5.below ad).fp)
   obtain⟨V6,b⟩:=ex ((w6.setCell ⟨j,0,none⟩ (C bk cg ew)).setCell ⟨j,1,none⟩ (D eh));have a:Mem w ((w6.setCell ⟨j,0,none⟩ (C bk cg ew)).setCell ⟨j,1,none⟩ (D eh)) [some (w.heap.size,.big (x)),some (w.heap.size+1,.big (y)),some (w.heap.size+1+1,.zref),some (j,.big (-((Int.gcd x y:Nat):Int)))]:=Mem.putBig (p.o.below ad) (i:=3) rfl ak;rw[b]at a;rw[b];have M3:Hid (Mem w V6 [some (w.heap.size,.big (x)),some (w.heap.size+1,.big (y)),some (w.heap.size+1+1,.zref),some (j,.big (-((Int.gcd x y:Nat):Int)))]):=Ja (a);clear p;clear a b;clear n5 Uc Ub i5 ak ad Uk Um;obtain⟨z,N,S⟩:=Dm (show(-((Int.gcd x y:Nat):Int))≠0 by have:=RX (x:=x) q.o;omega) (show(-((Int.gcd x y:Nat):Int))=(if y<0 then -((Int.gcd x y:Nat):Int)else((Int.gcd x y:Nat):Int))by rw[BG HL.o]) HG.o.neg;obtain⟨a7,l7,c7,s7,n7,i7⟩:=M3.o.big (i:=0) rfl;obtain⟨Ue,Uo⟩:=n7.cp;obtain⟨a8,l8,c8,s8,n8,i8⟩:=M3.o.big (i:=3) rfl;obtain⟨Ug,Un⟩:=n8.cp;go_upto_region 5 with(go_at_call 111;refine(MO _ _ x ((-((Int.gcd x y:Nat):Int))) _ i7 i8 z.o (by have:=Qa.o.size;omega) (by have:=S.o.size;omega)).mono ?_;rintro e n ⟨u1,u2,rfl,k,g,f⟩;obtain⟨X,W,T,L,rfl⟩:=Jr.form2 k;obtain⟨A,K,Z,J,rfl⟩:=Jr.form2 g)
   have a:=Mem.push (Mem.push (M3.o.below f) (.big (x/(-((Int.gcd x y:Nat):Int)))) k) (.big (x%(-((Int.gcd x y:Nat):Int)))) (Has.alloc (d:=.big (x%(-((Int.gcd x y:Nat):Int)))) g _);simp only[A1]at a;have a:Mem w ((n.alloc (E #[C X W T,D L] 83)).alloc (E #[C A K Z,D J] 83)) [some (w.heap.size,.big (x)),some (w.heap.size+1,.big (y)),some (w.heap.size+1+1,.zref),some (j,.big (-((Int.gcd x y:Nat):Int))),some (n.heap.size,.big (x/(-((Int.gcd x y:Nat):Int)))),some (n.heap.size+1,.big (x%(-((Int.gcd x y:Nat):Int))))]:=a;obtain⟨fj,b⟩:=ex ((n.alloc (E #[C X W T,D L] 83)).alloc (E #[C A K Z,D J] 83));obtain⟨B9,c⟩:=ex (n.heap.size);rw[b,c]at a;rw[b];rw[c];obtain⟨B10,m⟩:=ex (B9+1);rw[m]at a ⊢;have o:Hid (Mem w fj [some (w.heap.size,.big (x)),some (w.heap.size+1,.big (y)),some (w.heap.size+1+1,.zref),some (j,.big (-((Int.gcd x y:Nat):Int))),some (B9,.big (x/(-((Int.gcd x y:Nat):Int)))),some (B10,.big (x%(-((Int.gcd x y:Nat):Int))))]):=Ja (a);clear M3;clear a b c m;clear n7 Ue Uo i7 n8 Ug Un i8 k g f;obtain⟨gj,je,ie,jb,ef,dx⟩:=o.o.big (i:=1) rfl;obtain⟨Qr,Qp⟩:=ef.cp;obtain⟨gi,gh,fw,im,bf,cl⟩:=o.o.big (i:=3) rfl;obtain⟨Qm,Ql⟩:=bf.cp;go_upto_region 6 with(go_at_call 111;refine(MO _ _ y ((-((Int.gcd x y:Nat):Int))) _ dx cl z.o (by have:=Qb.o.size;omega) (by have:=S.o.size;omega)).mono ?_;rintro e l ⟨u1,u2,rfl,k,g,f⟩;obtain⟨V,M,P,O,rfl⟩:=Jr.form2 k;obtain⟨U,t,Q,R,rfl⟩:=Jr.form2 g)
   have a:=Mem.push (Mem.push (o.o.below f) (.big (y/(-((Int.gcd x y:Nat):Int)))) k) (.big (y%(-((Int.gcd x y:Nat):Int)))) (Has.alloc (d:=.big (y%(-((Int.gcd x y:Nat):Int)))) g _);simp only[A1]at a;have a:Mem w ((l.alloc (E #[C V M P,D O] 83)).alloc (E #[C U t Q,D R] 83)) [some (w.heap.size,.big (x)),some (w.heap.size+1,.big (y)),some (w.heap.size+1+1,.zref),some (j,.big (-((Int.gcd x y:Nat):Int))),some (B9,.big (x/(-((Int.gcd x y:Nat):Int)))),some (B10,.big (x%(-((Int.gcd x y:Nat):Int)))),some (l.heap.size,.big (y/(-((Int.gcd x y:Nat):Int)))),some (l.heap.size+1,.big (y%(-((Int.gcd x y:Nat):Int))))]:=a;obtain⟨f8,b⟩:=ex ((l.alloc (E #[C V M P,D O] 83)).alloc (E #[C U t Q,D R] 83));obtain⟨bi,c⟩:=ex (l.heap.size);rw[b,c]at a;rw[b];rw[c];obtain⟨fk,m⟩:=ex (bi+1);rw[m]at a ⊢;have Y:Hid (Mem w f8 [some (w.heap.size,.big (x)),some (w.heap.size+1,.big (y)),some (w.heap.size+1+1,.zref),some (j,.big (-((Int.gcd x y:Nat):Int))),some (B9,.big (x/(-((Int.gcd x y:Nat):Int)))),some (B10,.big (x%(-((Int.gcd x y:Nat):Int)))),some (bi,.big (y/(-((Int.gcd x y:Nat):Int)))),some (fk,.big (y%(-((Int.gcd x y:Nat):Int))))]):=Ja (a);clear o;clear a b c m;clear ef Qr Qp dx bf Qm Ql cl k g f;obtain⟨fc,ct,bt,ci,ff,fg⟩:=Y.o.big (i:=4) rfl;obtain⟨gv,ir⟩:=ff.cp;obtain⟨dp,bm,ce,dz,fo,fi⟩:=Y.o.big (i:=6) rfl;obtain⟨ic,gy⟩:=fo.cp;have ai:=Y.o.zref (i:=2) rfl;obtain⟨Qf,Qu,Qi,Qx⟩:=ai.cq;obtain⟨gg,gz,jd,fv⟩:=ai.fq;have hr:Js f8 (B #[C fc ct bt,D ci,C dp bm ce,D dz]) (Rat.divInt x y):=Js.mk (by rw[Lm q.o,<-N.o];exact fg) (by rw[Lo q.o,<-N.o];exact fi);have Ua:=Y.o.ge 2 rfl;have hB:=Y.o.2.2;go_wp2_with fail
   exact BA (v:=B #[C fc ct bt,D ci,C dp bm ce,D dz]) (by simp[results,Tryz.results80,go_sem,Qf,Qu,Qi,Qx]) rfl ⟨_,rfl,hr.put4 ai rfl rfl rfl rfl _ _ _ _,Jt hB Ua _ _ _ _⟩
 . have HL:=Ja r;obtain⟨ik,gl,gw,ii,bn,dw⟩:=p.o.big (i:=1) rfl;have Qo:=bn.c1;have hs:=Jr.sign dw;rw[BI r]at hs;subst hs;clear r;go_upto_region 4 with fail
   clear bn Qo dw;obtain⟨z,N,S⟩:=Dm (show((Int.gcd x y:Nat):Int)≠0 by have:=RX (x:=x) q.o;omega) (show((Int.gcd x y:Nat):Int)=(if y<0 then -((Int.gcd x y:Nat):Int)else((Int.gcd x y:Nat):Int))by rw[BC (by have:=HL.o;omega)]) HG.o;obtain⟨fu,iz,ix,io,et,ed⟩:=p.o.big (i:=0) rfl;obtain⟨Qz,Qy⟩:=et.cp;obtain⟨ja,ga,ib,fx,de,ay⟩:=p.o.big (i:=3) rfl;obtain⟨Qq,Qh⟩:=de.cp;go_upto_region 5 with(go_at_call 111;refine(MO _ _ x (((Int.gcd x y:Nat):Int)) _ ed ay z.o (by have:=Qa.o.size;omega) (by have:=S.o.size;omega)).mono ?_;rintro e n ⟨u1,u2,rfl,k,g,f⟩;obtain⟨X,W,T,L,rfl⟩:=Jr.form2 k;obtain⟨A,K,Z,J,rfl⟩:=Jr.form2 g)
   have a:=Mem.push (Mem.push (p.o.below f) (.big (x/((Int.gcd x y:Nat):Int))) k) (.big (x%((Int.gcd x y:Nat):Int))) (Has.alloc (d:=.big (x%((Int.gcd x y:Nat):Int))) g _);simp only[A1]at a;have a:Mem w ((n.alloc (E #[C X W T,D L] 83)).alloc (E #[C A K Z,D J] 83)) [some (w.heap.size,.big (x)),some (w.heap.size+1,.big (y)),some (w.heap.size+1+1,.zref),some (j,.big (((Int.gcd x y:Nat):Int))),some (n.heap.size,.big (x/((Int.gcd x y:Nat):Int))),some (n.heap.size+1,.big (x%((Int.gcd x y:Nat):Int)))]:=a;obtain⟨fr,b⟩:=ex ((n.alloc (E #[C X W T,D L] 83)).alloc (E #[C A K Z,D J] 83));obtain⟨ae,c⟩:=ex (n.heap.size);rw[b,c]at a;rw[b];rw[c];obtain⟨af,m⟩:=ex (ae+1);rw[m]at a ⊢;have M3:Hid (Mem w fr [some (w.heap.size,.big (x)),some (w.heap.size+1,.big (y)),some (w.heap.size+1+1,.zref),some (j,.big (((Int.gcd x y:Nat):Int))),some (ae,.big (x/((Int.gcd x y:Nat):Int))),some (af,.big (x%((Int.gcd x y:Nat):Int)))]):=Ja (a);clear p;clear a b c m;clear et Qz Qy ed de Qq Qh ay k g f;obtain⟨fy,ij,il,ig,ap,ck⟩:=M3.o.big (i:=1) rfl;obtain⟨Qk,Qv⟩:=ap.cp;obtain⟨iu,gb,gn,gu,f6,bg⟩:=M3.o.big (i:=3) rfl;obtain⟨Qg,Qw⟩:=f6.cp;go_upto_region 6 with(go_at_call 111;refine(MO _ _ y (((Int.gcd x y:Nat):Int)) _ ck bg z.o (by have:=Qb.o.size;omega) (by have:=S.o.size;omega)).mono ?_;rintro e l ⟨u1,u2,rfl,k,g,f⟩;obtain⟨V,M,P,O,rfl⟩:=Jr.form2 k;obtain⟨U,t,Q,R,rfl⟩:=Jr.form2 g)
   have a:=Mem.push (Mem.push (M3.o.below f) (.big (y/((Int.gcd x y:Nat):Int))) k) (.big (y%((Int.gcd x y:Nat):Int))) (Has.alloc (d:=.big (y%((Int.gcd x y:Nat):Int))) g _);simp only[A1]at a;have a:Mem w ((l.alloc (E #[C V M P,D O] 83)).alloc (E #[C U t Q,D R] 83)) [some (w.heap.size,.big (x)),some (w.heap.size+1,.big (y)),some (w.heap.size+1+1,.zref),some (j,.big (((Int.gcd x y:Nat):Int))),some (ae,.big (x/((Int.gcd x y:Nat):Int))),some (af,.big (x%((Int.gcd x y:Nat):Int))),some (l.heap.size,.big (y/((Int.gcd x y:Nat):Int))),some (l.heap.size+1,.big (y%((Int.gcd x y:Nat):Int)))]:=a;obtain⟨fa,b⟩:=ex ((l.alloc (E #[C V M P,D O] 83)).alloc (E #[C U t Q,D R] 83));obtain⟨co,c⟩:=ex (l.heap.size);rw[b,c]at a;rw[b];rw[c];obtain⟨fl,m⟩:=ex (co+1);rw[m]at a ⊢;have o:Hid (Mem w fa [some (w.heap.size,.big (x)),some (w.heap.size+1,.big (y)),some (w.heap.size+1+1,.zref),some (j,.big (((Int.gcd x y:Nat):Int))),some (ae,.big (x/((Int.gcd x y:Nat):Int))),some (af,.big (x%((Int.gcd x y:Nat):Int))),some (co,.big (y/((Int.gcd x y:Nat):Int))),some (fl,.big (y%((Int.gcd x y:Nat):Int)))]):=Ja (a);clear M3;clear a b c m;clear ap Qk Qv ck f6 Qg Qw bg k g f;obtain⟨cj,dj,bc,aw,fh,fs⟩:=o.o.big (i:=4) rfl;obtain⟨jc,gr⟩:=fh.cp;obtain⟨di,fd,an,bu,fm,ft⟩:=o.o.big (i:=6) rfl;obtain⟨gk,gp⟩:=fm.cp;have ah:=o.o.zref (i:=2) rfl;obtain⟨Qt,Qj,Qs,Qn⟩:=ah.cq;obtain⟨iw,go,ia,iy⟩:=ah.fq;have hr:Js fa (B #[C cj dj bc,D aw,C di fd an,D bu]) (Rat.divInt x y):=Js.mk (by rw[Lm q.o,<-N.o];exact fs) (by rw[Lo q.o,<-N.o];exact ft);have Ua:=o.o.ge 2 rfl;have hB:=o.o.2.2;go_wp2_with fail
   exact BA (v:=B #[C cj dj bc,D aw,C di fd an,D bu]) (by simp[results,Tryz.results80,go_sem,Qt,Qj,Qs,Qn]) rfl ⟨_,rfl,hr.put4 ah rfl rfl rfl rfl _ _ _ _,Jt hB Ua _ _ _ _⟩
theorem RY(va vb:H)(p q:Rat)(w:F)(W:Js w va p)(X:Js w vb q)(bf:Sq p)(af:Sq q):
 Calls G 43 #[va,vb] w λe b=>∃u,e=.returned u/\Js b u (p+q)/\Bl w b:=by
 obtain⟨bh,bg,ae,ad,aq,ah,ay,ap,rfl⟩:=Js.form W;obtain⟨ai,am,bj,bk,az,aj,bi,aw,rfl⟩:=Js.form X;have L:=((((Mem.nil w).push (.ref (p)) W).push (.ref (q)) (Has.alloc (d:=.ref (q)) X _)).push .zref rfl);simp only[A1]at L;have L:Mem w (((w.alloc (E #[C bh bg ae,D ad,C aq ah ay,D ap] 85)).alloc (E #[C ai am bj,D bk,C az aj bi,D aw] 85)).alloc (E #[C none 0 0,D false,C none 0 0,D false] 85)) [some (w.heap.size,.ref (p)),some (w.heap.size+1,.ref (q)),some (w.heap.size+1+1,.zref)]:=L;obtain⟨W0,Y⟩:=ex (((w.alloc (E #[C bh bg ae,D ad,C aq ah ay,D ap] 85)).alloc (E #[C ai am bj,D bk,C az aj bi,D aw] 85)).alloc (E #[C none 0 0,D false,C none 0 0,D false] 85));have Qv:=Ja Y;rw[Y]at L;have g:Hid (Mem w W0 [some (w.heap.size,.ref (p)),some (w.heap.size+1,.ref (q)),some (w.heap.size+1+1,.zref)]):=Ja L;have j:=Ja bf;have l:=Ja af;clear L Y W X bf af;go_enter Tryz.func43,Tryz.ntmps43
 go_upto_region 1 with fail
 rw[Qv.o];clear Qv;obtain⟨a1,l1,c1,s1,b1,k1,d1,t1,n,r1,i1,j1⟩:=g.o.ref (i:=0) rfl;obtain⟨m,z,M,K⟩:=n.cq;obtain⟨a2,l2,c2,s2,b2,k2,d2,t2,A,r2,i2,j2⟩:=g.o.ref (i:=1) rfl;obtain⟨s,x,y,J⟩:=A.cq;have a:=g.o.zref (i:=2) rfl;obtain⟨t,N,r,o⟩:=a.cq;obtain⟨T,O,R,S⟩:=a.fq;obtain⟨H4,H9,Qu,Qw,Qx⟩:=Gi (λ(V:F) (h:Bl W0 V)=>X0 _ _ (p.num) ((q.den:Int)) V (i1.below h) (j2.below h) (by have:=j.o.num.size;omega) (by have:=l.o.den.size;omega)) (λ(V:F) (h:Bl W0 V)=>X0 _ _ (q.num) ((p.den:Int)) V (i2.below h) (j1.below h) (by have:=l.o.num.size;omega) (by have:=j.o.den.size;omega)) (λ(V:F) (h:Bl W0 V) (v4:H) (c:Jr V v4 (p.num*(q.den:Int))) (v9:H) (f:Jr V v9 (q.num*(p.den:Int)))=>NR _ _ (p.num*(q.den:Int)) (q.num*(p.den:Int)) V c f (by have:=(j.o.cross l.o).size;omega) (by have:=(l.o.cross j.o).size;omega)) (λ(V:F) (h:Bl W0 V)=>X0 _ _ ((p.den:Int)) ((q.den:Int)) V (j1.below h) (j2.below h) (by have:=j.o.den.size;omega) (by have:=l.o.den.size;omega)) (λ(V:F) (h:Bl W0 V) (bc:H) (k:Jr V bc (p.num*(q.den:Int)+q.num*(p.den:Int))) (bm:H) (P:Jr V bm ((p.den:Int)*(q.den:Int)))=>(by have h:=KG _ _ (p.num*(q.den:Int)+q.num*(p.den:Int)) ((p.den:Int)*(q.den:Int)) V k P (Co (by have:=p.den_nz;omega) (by have:=q.den_nz;omega)) (j.o.sumN l.o) (j.o.mulD l.o);rw[PV]at h;exact h));have ct:w.heap.size≠w.heap.size+1+1:=g.o.ne 0 2 rfl rfl DS;have co:w.heap.size+1≠w.heap.size+1+1:=g.o.ne 1 2 rfl rfl DS;have hq:Bl W0 W0.drew:=(BB _ W0).drew;go_region_held3 (λb=>b.cell? ⟨w.heap.size,0,none⟩=some (C a1 l1 c1)/\b.cell? ⟨w.heap.size,1,none⟩=some (D s1)/\b.cell? ⟨w.heap.size,2,none⟩=some (C b1 k1 d1)/\b.cell? ⟨w.heap.size,3,none⟩=some (D t1)/\b.cell? ⟨w.heap.size+1,0,none⟩=some (C a2 l2 c2)/\b.cell? ⟨w.heap.size+1,1,none⟩=some (D s2)/\b.cell? ⟨w.heap.size+1,2,none⟩=some (C b2 k2 d2)/\b.cell? ⟨w.heap.size+1,3,none⟩=some (D t2)) (first|(with_reducible exact⟨m,z,M,K,s,x,y,J⟩)|(go_keep;done)|(refine⟨?_,?_,?_,?_,?_,?_,?_,?_⟩<;>((repeat rw[JH om]);first|assumption|(go_keep;done))))
  (first
   |(go_at_call 82;refine(H4.o _ hq ).mono ?_;clear H4;rintro e w4 ⟨v4,rfl,c,cj⟩;have hq:=Bt hq cj;obtain⟨m,z,M,K⟩:=(n.below hq).cq;obtain⟨s,x,y,J⟩:=(A.below hq).cq;obtain⟨t,N,r,o⟩:=(a.below hq).cq;obtain⟨T,O,R,S⟩:=(a.below hq).fq)
   |(go_at_call 82;refine(H9.o _ hq ).mono ?_;clear H9;rintro e w9 ⟨v9,rfl,f,ak⟩;have c:=c.below ak;have hq:=Bt hq ak;obtain⟨m,z,M,K⟩:=(n.below hq).cq;obtain⟨s,x,y,J⟩:=(A.below hq).cq;obtain⟨t,N,r,o⟩:=(a.below hq).cq;obtain⟨T,O,R,S⟩:=(a.below hq).fq)
   |(go_at_call 81;refine(Qu.o _ hq _ c _ f).mono ?_;clear Qu;rintro e di ⟨bc,rfl,k,Z⟩;have c:=c.below Z;have f:=f.below Z;have hq:=Bt hq Z;obtain⟨m,z,M,K⟩:=(n.below hq).cq;obtain⟨s,x,y,J⟩:=(A.below hq).cq;obtain⟨t,N,r,o⟩:=(a.below hq).cq;obtain⟨T,O,R,S⟩:=(a.below hq).fq)
   |(go_at_call 82;refine(Qw.o _ hq ).mono ?_;clear Qw;rintro e dh ⟨bm,rfl,P,U⟩;have c:=c.below U;have f:=f.below U;have k:=k.below U;have hq:=Bt hq U;obtain⟨m,z,M,K⟩:=(n.below hq).cq;obtain⟨s,x,y,J⟩:=(A.below hq).cq;obtain⟨t,N,r,o⟩:=(a.below hq).cq;obtain⟨T,O,R,S⟩:=(a.below hq).fq)
   |(go_at_call 80;refine(Qx.o _ hq _ k _ P).mono ?_;clear Qx;rintro e de ⟨cn,rfl,an,Q⟩;obtain⟨bt,bn,ck,ce,cl,ci,cg,bu,rfl⟩:=Js.form an;have c:=c.below Q;have f:=f.below Q;have k:=k.below Q;have P:=P.below Q;have hq:=Bt hq Q;obtain⟨m,z,M,K⟩:=(n.below hq).cq;obtain⟨s,x,y,J⟩:=(A.below hq).cq;obtain⟨t,N,r,o⟩:=(a.below hq).cq;obtain⟨T,O,R,S⟩:=(a.below hq).fq))
 all_goals go_wp2_with fail
 have Qy:=Bt g.o.2.2 hq;have Qz:=g.o.ge 2 rfl;exact BA (v:=B #[C bt bn ck,D ce,C cl ci cg,D bu]) (by simp[results,Tryz.results43,go_sem,t,N,r,o]) rfl ⟨_,rfl,an.put4 (a.below hq) rfl rfl rfl rfl _ _ _ _,Jt Qy Qz _ _ _ _⟩
theorem RZ(va vb:H)(p q:Rat)(w:F)(N:Js w va p)(P:Js w vb q)(an:Sq p)(Y:Sq q):
 Calls G 44 #[va,vb] w λe a=>∃u,e=.returned u/\Js a u (p*q)/\Bl w a:=by
 obtain⟨aq,ap,X,W,aj,Z,bf,ai,rfl⟩:=Js.form N;obtain⟨ad,ah,az,bc,am,ae,aw,ak,rfl⟩:=Js.form P;have g:=((((Mem.nil w).push (.ref (p)) N).push (.ref (q)) (Has.alloc (d:=.ref (q)) P _)).push .zref rfl);simp only[A1]at g;have g:Mem w (((w.alloc (E #[C aq ap X,D W,C aj Z bf,D ai] 85)).alloc (E #[C ad ah az,D bc,C am ae aw,D ak] 85)).alloc (E #[C none 0 0,D false,C none 0 0,D false] 85)) [some (w.heap.size,.ref (p)),some (w.heap.size+1,.ref (q)),some (w.heap.size+1+1,.zref)]:=g;obtain⟨W0,R⟩:=ex (((w.alloc (E #[C aq ap X,D W,C aj Z bf,D ai] 85)).alloc (E #[C ad ah az,D bc,C am ae aw,D ak] 85)).alloc (E #[C none 0 0,D false,C none 0 0,D false] 85));have Qt:=Ja R;rw[R]at g;have c:Hid (Mem w W0 [some (w.heap.size,.ref (p)),some (w.heap.size+1,.ref (q)),some (w.heap.size+1+1,.zref)]):=Ja g;have l:=Ja an;have t:=Ja Y;clear g R N P an Y;go_enter Tryz.func44,Tryz.ntmps44
 go_upto_region 1 with fail
 rw[Qt.o];clear Qt;obtain⟨a1,l1,c1,s1,b1,k1,d1,t1,m,r1,i1,j1⟩:=c.o.ref (i:=0) rfl;obtain⟨y,s,r,z⟩:=m.cq;obtain⟨a2,l2,c2,s2,b2,k2,d2,t2,J,r2,i2,j2⟩:=c.o.ref (i:=1) rfl;obtain⟨k,o,A,M⟩:=J.cq;have b:=c.o.zref (i:=2) rfl;obtain⟨K,n,x,L⟩:=b.cq;obtain⟨Q,S,O,T⟩:=b.fq;obtain⟨H4,H9,Qs⟩:=Dm (λ(V:F) (h:Bl W0 V)=>X0 _ _ (p.num) (q.num) V (i1.below h) (i2.below h) (by have:=l.o.num.size;omega) (by have:=t.o.num.size;omega)) (λ(V:F) (h:Bl W0 V)=>X0 _ _ ((p.den:Int)) ((q.den:Int)) V (j1.below h) (j2.below h) (by have:=l.o.den.size;omega) (by have:=t.o.den.size;omega)) (λ(V:F) (h:Bl W0 V) (v4:H) (f:Jr V v4 (p.num*q.num)) (v9:H) (j:Jr V v9 ((p.den:Int)*(q.den:Int)))=>(by have h:=KG _ _ (p.num*q.num) ((p.den:Int)*(q.den:Int)) V f j (Co (by have:=p.den_nz;omega) (by have:=q.den_nz;omega)) (l.o.mulN t.o) (l.o.mulD t.o);rw[PU]at h;exact h));have cg:w.heap.size≠w.heap.size+1+1:=c.o.ne 0 2 rfl rfl DS;have ce:w.heap.size+1≠w.heap.size+1+1:=c.o.ne 1 2 rfl rfl DS;have hq:Bl W0 W0.drew:=(BB _ W0).drew;go_region_held3 (λa=>a.cell? ⟨w.heap.size,0,none⟩=some (C a1 l1 c1)/\a.cell? ⟨w.heap.size,1,none⟩=some (D s1)/\a.cell? ⟨w.heap.size,2,none⟩=some (C b1 k1 d1)/\a.cell? ⟨w.heap.size,3,none⟩=some (D t1)/\a.cell? ⟨w.heap.size+1,0,none⟩=some (C a2 l2 c2)/\a.cell? ⟨w.heap.size+1,1,none⟩=some (D s2)/\a.cell? ⟨w.heap.size+1,2,none⟩=some (C b2 k2 d2)/\a.cell? ⟨w.heap.size+1,3,none⟩=some (D t2)) (first|(with_reducible exact⟨y,s,r,z,k,o,A,M⟩)|(go_keep;done)|(refine⟨?_,?_,?_,?_,?_,?_,?_,?_⟩<;>((repeat rw[JH om]);first|assumption|(go_keep;done))))
  (first
   |(go_at_call 82;refine(H4.o _ hq ).mono ?_;clear H4;rintro e w4 ⟨v4,rfl,f,bn⟩;have hq:=Bt hq bn;obtain⟨y,s,r,z⟩:=(m.below hq).cq;obtain⟨k,o,A,M⟩:=(J.below hq).cq;obtain⟨K,n,x,L⟩:=(b.below hq).cq;obtain⟨Q,S,O,T⟩:=(b.below hq).fq)
   |(go_at_call 82;refine(H9.o _ hq ).mono ?_;clear H9;rintro e w9 ⟨v9,rfl,j,af⟩;have f:=f.below af;have hq:=Bt hq af;obtain⟨y,s,r,z⟩:=(m.below hq).cq;obtain⟨k,o,A,M⟩:=(J.below hq).cq;obtain⟨K,n,x,L⟩:=(b.below hq).cq;obtain⟨Q,S,O,T⟩:=(b.below hq).fq)
   |(go_at_call 80;refine(Qs.o _ hq _ f _ j).mono ?_;clear Qs;rintro e cj ⟨ci,rfl,ay,U⟩;obtain⟨bh,bg,bt,bj,bu,bm,bk,bi,rfl⟩:=Js.form ay;have f:=f.below U;have j:=j.below U;have hq:=Bt hq U;obtain⟨y,s,r,z⟩:=(m.below hq).cq;obtain⟨k,o,A,M⟩:=(J.below hq).cq;obtain⟨K,n,x,L⟩:=(b.below hq).cq;obtain⟨Q,S,O,T⟩:=(b.below hq).fq))
 all_goals go_wp2_with fail
 have Qu:=Bt c.o.2.2 hq;have Qv:=c.o.ge 2 rfl;exact BA (v:=B #[C bh bg bt,D bj,C bu bm bk,D bi]) (by simp[results,Tryz.results44,go_sem,K,n,x,L]) rfl ⟨_,rfl,ay.put4 (b.below hq) rfl rfl rfl rfl _ _ _ _,Jt Qu Qv _ _ _ _⟩
theorem Ra(va vb:H)(p q:Rat)(w:F)(N:Js w va p)(P:Js w vb q)(an:Sq p)(Y:Sq q)(aq:q≠0):
 Calls G 77 #[va,vb] w λe a=>∃u,e=.returned u/\Js a u (p/q)/\Bl w a:=by
 obtain⟨aw,ap,X,W,aj,Z,bg,ai,rfl⟩:=Js.form N;obtain⟨ad,ah,bc,bf,am,ae,ay,ak,rfl⟩:=Js.form P;have g:=((((Mem.nil w).push (.ref (p)) N).push (.ref (q)) (Has.alloc (d:=.ref (q)) P _)).push .zref rfl);simp only[A1]at g;have g:Mem w (((w.alloc (E #[C aw ap X,D W,C aj Z bg,D ai] 85)).alloc (E #[C ad ah bc,D bf,C am ae ay,D ak] 85)).alloc (E #[C none 0 0,D false,C none 0 0,D false] 85)) [some (w.heap.size,.ref (p)),some (w.heap.size+1,.ref (q)),some (w.heap.size+1+1,.zref)]:=g;obtain⟨W0,Q⟩:=ex (((w.alloc (E #[C aw ap X,D W,C aj Z bg,D ai] 85)).alloc (E #[C ad ah bc,D bf,C am ae ay,D ak] 85)).alloc (E #[C none 0 0,D false,C none 0 0,D false] 85));have Qu:=Ja Q;rw[Q]at g;have c:Hid (Mem w W0 [some (w.heap.size,.ref (p)),some (w.heap.size+1,.ref (q)),some (w.heap.size+1+1,.zref)]):=Ja g;obtain⟨l,t,Qr⟩:=Dm an Y aq;clear g Q N P an Y aq;go_enter Tryz.func77,Tryz.ntmps77
 go_upto_region 1 with fail
 rw[Qu.o];clear Qu;obtain⟨a1,l1,c1,s1,b1,k1,d1,t1,m,r1,i1,j1⟩:=c.o.ref (i:=0) rfl;obtain⟨y,s,r,z⟩:=m.cq;obtain⟨a2,l2,c2,s2,b2,k2,d2,t2,J,r2,i2,j2⟩:=c.o.ref (i:=1) rfl;obtain⟨k,o,A,M⟩:=J.cq;have b:=c.o.zref (i:=2) rfl;obtain⟨K,n,x,L⟩:=b.cq;obtain⟨S,R,O,T⟩:=b.fq;obtain⟨H4,H9,Qt⟩:=Dm (λ(V:F) (h:Bl W0 V)=>X0 _ _ (p.num) ((q.den:Int)) V (i1.below h) (j2.below h) (by have:=l.o.num.size;omega) (by have:=t.o.den.size;omega)) (λ(V:F) (h:Bl W0 V)=>X0 _ _ ((p.den:Int)) (q.num) V (j1.below h) (i2.below h) (by have:=l.o.den.size;omega) (by have:=t.o.num.size;omega)) (λ(V:F) (h:Bl W0 V) (v4:H) (f:Jr V v4 (p.num*(q.den:Int))) (v9:H) (j:Jr V v9 ((p.den:Int)*q.num))=>(by have h:=KG _ _ (p.num*(q.den:Int)) ((p.den:Int)*q.num) V f j (Co (by have:=p.den_nz;omega) (λh=>Qr.o (Fx.1 h))) (l.o.cross t.o) (l.o.cross2 t.o);rw[PT]at h;exact h));have ci:w.heap.size≠w.heap.size+1+1:=c.o.ne 0 2 rfl rfl DS;have cg:w.heap.size+1≠w.heap.size+1+1:=c.o.ne 1 2 rfl rfl DS;have hq:Bl W0 W0.drew:=(BB _ W0).drew;go_region_held3 (λa=>a.cell? ⟨w.heap.size,0,none⟩=some (C a1 l1 c1)/\a.cell? ⟨w.heap.size,1,none⟩=some (D s1)/\a.cell? ⟨w.heap.size,2,none⟩=some (C b1 k1 d1)/\a.cell? ⟨w.heap.size,3,none⟩=some (D t1)/\a.cell? ⟨w.heap.size+1,0,none⟩=some (C a2 l2 c2)/\a.cell? ⟨w.heap.size+1,1,none⟩=some (D s2)/\a.cell? ⟨w.heap.size+1,2,none⟩=some (C b2 k2 d2)/\a.cell? ⟨w.heap.size+1,3,none⟩=some (D t2)) (first|(with_reducible exact⟨y,s,r,z,k,o,A,M⟩)|(go_keep;done)|(refine⟨?_,?_,?_,?_,?_,?_,?_,?_⟩<;>((repeat rw[JH om]);first|assumption|(go_keep;done))))
  (first
   |(go_at_call 82;refine(H4.o _ hq ).mono ?_;clear H4;rintro e w4 ⟨v4,rfl,f,bt⟩;have hq:=Bt hq bt;obtain⟨y,s,r,z⟩:=(m.below hq).cq;obtain⟨k,o,A,M⟩:=(J.below hq).cq;obtain⟨K,n,x,L⟩:=(b.below hq).cq;obtain⟨S,R,O,T⟩:=(b.below hq).fq)
   |(go_at_call 82;refine(H9.o _ hq ).mono ?_;clear H9;rintro e w9 ⟨v9,rfl,j,af⟩;have f:=f.below af;have hq:=Bt hq af;obtain⟨y,s,r,z⟩:=(m.below hq).cq;obtain⟨k,o,A,M⟩:=(J.below hq).cq;obtain⟨K,n,x,L⟩:=(b.below hq).cq;obtain⟨S,R,O,T⟩:=(b.below hq).fq)
   |(go_at_call 80;refine(Qt.o _ hq _ f _ j).mono ?_;clear Qt;rintro e ck ⟨cj,rfl,az,U⟩;obtain⟨bi,bh,bu,bk,ce,bn,bm,bj,rfl⟩:=Js.form az;have f:=f.below U;have j:=j.below U;have hq:=Bt hq U;obtain⟨y,s,r,z⟩:=(m.below hq).cq;obtain⟨k,o,A,M⟩:=(J.below hq).cq;obtain⟨K,n,x,L⟩:=(b.below hq).cq;obtain⟨S,R,O,T⟩:=(b.below hq).fq))
 all_goals go_wp2_with fail
 have Qv:=Bt c.o.2.2 hq;have Qw:=c.o.ge 2 rfl;exact BA (v:=B #[C bi bh bu,D bk,C ce bn bm,D bj]) (by simp[results,Tryz.results77,go_sem,K,n,x,L]) rfl ⟨_,rfl,az.put4 (b.below hq) rfl rfl rfl rfl _ _ _ _,Jt Qv Qw _ _ _ _⟩
theorem OL(s:H)(q:Rat)(w:F)(c:Js w s q):
 Calls G 36 #[s] w λe y=>e=.returned (.int .i64 q.num.sign)/\Bl w y:=by
 obtain⟨n,f⟩:=ex (q.num.sign);rw[f];have x:=Ja f;clear f;obtain⟨t,u,m,g,k,p,r,j,rfl⟩:=Js.form c;have a:=((Mem.nil w).push (.ref (q)) c);have a:Mem w (w.alloc (E #[C t u m,D g,C k p r,D j] 85)) [some (w.heap.size,.ref (q))]:=a;obtain⟨W0,b⟩:=ex (w.alloc (E #[C t u m,D g,C k p r,D j] 85));have o:=Ja b;rw[b]at a;have l:Hid (Mem w W0 [some (w.heap.size,.ref (q))]):=Ja a;clear a b c;go_enter Tryz.func36,Tryz.ntmps36
 go_upto_region 1 with fail
 rw[o.o];clear o;obtain⟨O,l1,c1,M,Q,A,d1,K,z,L,v,R⟩:=l.o.ref (i:=0) rfl;obtain⟨J,N⟩:=z.cp;have d:=Ja (aN _ q.num W0 v);rw[x.o]at d;go_wp2_with(go_at_call 73;refine d.o.mono ?_;clear d;rintro e P ⟨rfl,hq⟩)
 go_ret;exact⟨rfl,Bt l.o.2.2 hq⟩
theorem KH(n:Int)(K:-9223372036854775808<=n)(M:n<=9223372036854775807)(w:F):
 Calls G 42 #[.int .i64 n] w λe J=>∃u,e=.returned u/\Js J u (n:Rat)/\Bl w J:=by
 have z:=Ja (λ(V:F)=>Hl n K M V);clear K M;have b:=((Mem.nil w).push .zref rfl);have b:Mem w (w.alloc (E #[C none 0 0,D false,C none 0 0,D false] 85)) [some (w.heap.size,.zref)]:=b;obtain⟨W0,d⟩:=ex (w.alloc (E #[C none 0 0,D false,C none 0 0,D false] 85));have s:=Ja d;rw[d]at b;have c:Hid (Mem w W0 [some (w.heap.size,.zref)]):=Ja b;clear b d;go_enter Tryz.func42,Tryz.ntmps42
 go_upto_region 1 with fail
 rw[s.o];clear s;have a:=c.o.zref (i:=0) rfl;obtain⟨l,f,L,j⟩:=a.cq;obtain⟨P,W,S,R⟩:=a.fq;go_wp2_with(first
  |(go_at_call 79;refine(z.o _).mono ?_;clear z;rintro e X ⟨u1,rfl,o,O⟩;obtain⟨m,g,A,x,rfl⟩:=Jr.form2 o)
  |(go_at_call 79;refine(Hl 1 om om _).mono ?_;rintro e N ⟨u2,rfl,r,t⟩;obtain⟨k,q,y,p,rfl⟩:=Jr.form2 r;have hq:=Bt O t;obtain⟨l,f,L,j⟩:=(a.below hq).cq;obtain⟨P,W,S,R⟩:=(a.below hq).fq))
 have T:Js N (B #[C m g A,D x,C k q y,D p]) (n:Rat):=Js.mk (o.below t) r;have Q:=Bt c.o.2.2 hq;have U:=c.o.ge 0 rfl;exact BA (v:=B #[C m g A,D x,C k q y,D p]) (by simp[results,Tryz.results42,go_sem,l,f,L,j]) rfl ⟨_,rfl,T.put4 (a.below hq) rfl rfl rfl rfl _ _ _ _,Jt Q U _ _ _ _⟩
theorem RowK.formsF{cap:Nat}(h:RowK false W (C a l cap) qs):l=qs.length/\l<=cap/\cap<=9223372036854775807/\l<=1099511627776/\∃(s t:Nat->Bool) (m p:Nat->Option Addr) (o n k dd:Nat->Nat),∀j,j<l->Js W (B #[C (m j) (o j) (n j),D (s j),C (p j) (k j) (dd j),D (t j)]) (cf qs j)/\
 ∃b,a=some ⟨b,0,none⟩/\b<W.heap.size/\W.cell? ⟨b,j*4,none⟩=some (C (m j) (o j) (n j))/\W.cell? ⟨b,j*4+1,none⟩=some (D (s j))/\W.cell? ⟨b,j*4+2,none⟩=some (C (p j) (k j) (dd j))/\W.cell? ⟨b,j*4+3,none⟩=some (D (t j)):=by
 obtain⟨w,J,L,A,x,y,z,u,r⟩:=h.pick;refine⟨w,J,L,A,λj=>MF (y j),λj=>MF (u j),λj=>MG (x j),λj=>MG (z j),λj=>IA (x j),λj=>MH (x j),λj=>IA (z j),λj=>MH (z j),λj q=>?_⟩;obtain⟨d,b,K,v,c0,c1,c2,c3⟩:=r j q;obtain⟨a',l',c',s,N,M,O,t,e,_⟩:=(show Js W _ _ from d);simp only[Value.agg.injEq,FU,Fw,and_true]at e;obtain⟨f,g,i,c⟩:=e;rw[f,g,i,c]at d;rw[f]at c0;rw[g]at c1;rw[i]at c2;rw[c]at c3;dsimp only;rw[f,g,i,c];exact⟨d,b,K,v,c0,c1,c2,c3⟩
theorem aO(q:Rat):(q.num.sign==0)=decide (q=0):=by
 rw[Cp,beq_iff_eq,BR,Int.sign_eq_zero_iff_zero,Fx]
theorem Rb{len:Nat}(hl:len=qs.length)(c:k<=len)(a:∀j,k<=j->cf qs j=0)(b:k=0\/cf qs (k-1)≠0):Jd qs=qs.take k/\(Jd qs).length=k:=by
 have e:=Ow (p:=qs) (n:=k) om b a;exact⟨e,by rw[e,Al];omega⟩
theorem aQ(a:Option Addr)(len cap:Nat)(qs:List Rat)(w:F)(h:RowK false w (C a len cap) qs):
 Calls G 45 #[C a len cap] w λe O=>e=.returned (C a (Jd qs).length cap)/\RowK false O (C a (Jd qs).length cap) (Jd qs)/\Bl w O:=by
 obtain⟨hl,Y,X,U,s,t,Z,bb,ll,V,T,dd,A⟩:=h.formsF;obtain⟨q,Q,N⟩:=Dm hl A h;clear A hl h;go_enter Tryz.func45,Tryz.ntmps45
 go_wp2;go_loopw [3] (λv wr=>∃k:Nat,k<=len/\v=.int .i64 (k:Int)/\Hid ((∀j,k<=j->cf qs j=0)/\Bl w wr)) (λv _=>(intOf v).toNat)
 case atStart=>exact⟨len,Aa _,rfl,Ja ⟨λj R=>J4 (by have:=q.o;omega),BB _ _⟩⟩
 case round=>
  obtain⟨k,W,rfl,c⟩:=hrel;cases k with
  |zero=>
   go_wp2;go_ret;obtain⟨r,g⟩:=Rb q.o (k:=0) (AK _) c.o.1 (Or.inl rfl);refine⟨by rw[g];rfl,?_,c.o.2⟩;rw[g,r];exact(N.o.below c.o.2).take om
  |succ k=>
   obtain⟨K,b,rfl,m,M,L,x,y⟩:=Q.o k om;have d:=c.o.2;have J:=Ja (K.below d);replace M:=(d.cell (p:=⟨b,_,none⟩) m).trans M;replace L:=(d.cell (p:=⟨b,_,none⟩) m).trans L;replace x:=(d.cell (p:=⟨b,_,none⟩) m).trans x;replace y:=(d.cell (p:=⟨b,_,none⟩) m).trans y;have i:=Ja (OL _ _ wr J.o);have l:=aO (cf qs k);clear K d J;by_cases f:cf qs k=0
   . rw[show decide (cf qs k=0)=true from BK f]at l;have u:=Ja f;clear f;generalize (cf qs k).num.sign=n at i l;go_wp2_with(go_at_call 36;refine i.o.mono ?_;rintro e P ⟨rfl,o⟩)
     go_roundw
     case rel=>
      refine⟨k,om,DQ,Ja ⟨λj R=>?_,Bt c.o.2 o⟩⟩;by_cases S:j=k
      . rw[S];exact u.o
      . exact c.o.1 j om
     case measure=>simp[intOf]
   . rw[show decide (cf qs k=0)=false from BI f]at l;have u:=Ja f;clear f;generalize (cf qs k).num.sign=n at i l;go_wp2_with(go_at_call 36;refine i.o.mono ?_;rintro e P ⟨rfl,o⟩)
     go_ret;have z:=Bt c.o.2 o;obtain⟨r,g⟩:=Rb q.o (k:=k+1) om c.o.1 (Or.inr u.o);refine⟨by rw[g];rfl,?_,z⟩;rw[g,r];exact(N.o.below z).take om
theorem K3(v:H)(qs:List Rat)(w:F)(h:RowK false w v qs):
 Calls G 45 #[v] w λe b=>∃u,e=.returned u/\RowK false b u (Jd qs)/\Bl w b:=by
 obtain⟨a,l,c,rfl⟩:=h.form;refine(aQ a l c qs w h).mono ?_;rintro e b ⟨rfl,d,f⟩;exact⟨_,rfl,d,f⟩
theorem Rc{B:Nat}(q:JK W B 85 (C none 0 0) (D false) (C none 0 0) (D false)){v:H}{p:Rat}(h:Js W v p)(x y z u:H):Js (put4 W B x y z u) v p:=h.put4 q rfl rfl rfl rfl _ _ _ _
theorem Re(v:H)(qs:List Rat)(i:Int)(w:F)(h:RowK false w v qs):
 Calls G 103 #[v,.int .i64 i] w λe T=>∃u,e=.returned u/\Js T u (if i<0 then 0 else cf qs i.toNat)/\Bl w T:=by
 obtain⟨a,l,c,rfl⟩:=h.form;obtain⟨hl,af,ae,ad,s,t,aa,bb,ll,Z,W,dd,Q⟩:=h.formsF;have HL:=Ja hl;have A:=Ja Q;clear hl Q h;have n:Bl w (w.alloc (E #[C none 0 0,D false,C none 0 0,D false] 85)):=Ba w _;have b0:=JK.new w 85 (C none 0 0) (D false) (C none 0 0) (D false);have g:=Ja (λ(V:F)=>KH 0 om om V);by_cases d:i<0\/(l:Int)<=i
 . have HZ:=Ja (show(if i<0 then(0:Rat)else cf qs i.toNat)=((0:Int):Rat)by
    rcases d with d|d
    . rw[BG d];rfl
    . rw[BC om,J4 (by have:=HL.o;omega)];rfl)
   rw[HZ.o];obtain⟨W0,p⟩:=ex (w.alloc (E #[C none 0 0,D false,C none 0 0,D false] 85));rw[p]at n b0;have U:=Ja p;clear p A;rcases d with d|d
   . go_enter Tryz.func103,Tryz.ntmps103
     go_upto_region 1 with fail
     rw[U.o];go_wp2_with(go_at_call 42;refine(g.o _).mono ?_;clear g;rintro e w1 ⟨u,rfl,k,j⟩;have f:=b0.below j;obtain⟨z,P,y,o⟩:=f.cq;obtain⟨f0,f1,f2,f3⟩:=f.fq;obtain⟨r,q,L,K,O,x,M,J,rfl⟩:=Js.form k)
     exact BA (v:=B #[C r q L,D K,C O x M,D J]) (by simp[results,Tryz.results103,go_sem,z,P,y,o]) rfl ⟨_,rfl,Rc f k _ _ _ _,Jt (Bt n j) (Aa _) _ _ _ _⟩
   . have N:¬i<0:=om
     go_enter Tryz.func103,Tryz.ntmps103
     go_upto_region 1 with fail
     rw[U.o];go_wp2_with(go_at_call 42;refine(g.o _).mono ?_;clear g;rintro e w1 ⟨u,rfl,k,j⟩;have f:=b0.below j;obtain⟨z,P,y,o⟩:=f.cq;obtain⟨f0,f1,f2,f3⟩:=f.fq;obtain⟨r,q,L,K,O,x,M,J,rfl⟩:=Js.form k)
     exact BA (v:=B #[C r q L,D K,C O x M,D J]) (by simp[results,Tryz.results103,go_sem,z,P,y,o]) rfl ⟨_,rfl,Rc f k _ _ _ _,Jt (Bt n j) (Aa _) _ _ _ _⟩
 . have N:¬i<0:=om
   rw[BC N];obtain⟨m,rfl⟩:∃m:Nat,i=(m:Int):=⟨i.toNat,om⟩;have hm:m<l:=om
   obtain⟨R,b,rfl,hb,k0,S,k2,k3⟩:=A.o m hm;have HI:=Ja R;rw[Cy];clear A R N d g b0 n;generalize s m=Y at *;generalize t m=X at *;generalize aa m=a1 at *;generalize bb m=b1 at *;generalize ll m=l1 at *;generalize Z m=c1 at *;generalize W m=S at *;generalize dd m=d1 at *;go_enter Tryz.func103,Tryz.ntmps103
   go_wp2;exact BA (v:=B #[C a1 l1 c1,D Y,C b1 S d1,D X]) (by simp[results,Tryz.results103,go_sem]) rfl ⟨_,rfl,HI.o.below (Ba w _),Ba w _⟩
def X9(f:Nat->Rat)(k:Nat):List Rat:=(List.range k).map f
theorem JP(f:Nat->Rat)(k:Nat):(X9 f k).length=k:=by simp[X9]
theorem Xj(f:Nat->Rat)(k:Nat):X9 f (k+1)=X9 f k++[f k]:=by simp[X9,List.range_succ]
theorem MP(f:Nat->Rat)(k i:Nat):cf (X9 f k) i=if i<k then f i else 0:=LQ k f i
theorem IG(X Z:H)(ps qs:List Rat)(w:F)(M:RowK false w X ps)(N:RowK false w Z qs)(ae:Db ps)(af:Db qs)(ay:ps.length<1099511627776/\qs.length<1099511627776):
 Calls G 64 #[X,Z] w λe w'=>∃u,e=.returned u/\RowK false w' u (EX ps qs)/\Bl w w':=by
 obtain⟨a,la,ca,rfl⟩:=M.form;obtain⟨b,lb,cb,rfl⟩:=N.form;obtain⟨ad,am,an,bh,_⟩:=M.formsF;obtain⟨Y,aq,aw,bi,_⟩:=N.formsF;obtain⟨n,hn⟩:=ex (max la lb:Nat);obtain⟨r,HA,HB,HP,HQ,Ql,Qm⟩:=Lt (show la<=n/\lb<=n/\n<1099511627776/\(∀k,k<n->k<la\/k<lb)from⟨om,om,om,λk hk=>by omega⟩) M N ae af ad Y;clear M N ae af ad Y am an aq aw hn ay;go_enter Tryz.func64,Tryz.ntmps64
 go_wp2;go_loopw [5,6] (λo i wr=>∃k:Nat,k<=n/\i=.int .i64 (k:Int)/\(∃oa oc,o=C oa k oc)/\Hid (El false w.heap.size wr o (X9 (λi=>cf ps i+cf qs i) k)/\Bl w wr)) (λ_ i _=>n-(intOf i).toNat)
 case atStart=>exact⟨0,AK _,rfl,⟨_,_,rfl⟩,Ja ⟨El.nil _ _ _,BB _ _⟩⟩
 case round=>
  obtain⟨k,hk,rfl,⟨oa,oc,rfl⟩,d⟩:=hrel;by_cases bg:k<n
  . have t:=Ja (Re _ ps (k:Int) wr (HA.o.below d.o.2));have J:=Ja (λ(V:F) (h:Bl wr V)=>Re _ qs (k:Int) V ((HB.o.below d.o.2).below h));rw[BC om,Cy]at t;rw[show(if(k:Int)<0 then(0:Rat)else cf qs ((k:Int)).toNat)=cf qs k from by rw[BC om,Cy]]at J;have O:=Ja (λ(V:F) (u v:H) (hu:Js V u (cf ps k)) (hv:Js V v (cf qs k))=>RY u v (cf ps k) (cf qs k) V hu hv (HP.o.at k) (HQ.o.at k));have Qk:=r.o.2.2.2 k bg;have HK:=Ja (show k+1<=1099511627776 by have:=r.o.2.2.1;omega);by_cases bj:(k:Int)<(la:Int)
    all_goals
     have Qj:(k:Int)<(la:Int)\/(k:Int)<(lb:Int):=om
    . clear Qk Qj;go_wp2_with(first
       |(go_at_call 103;refine t.o.mono ?_;clear t;rintro e w1 ⟨u1,rfl,c,g⟩;have f:=g)
       |(go_at_call 103;refine(J.o _ f).mono ?_;clear J;rintro e w2 ⟨u2,rfl,x,q⟩;have c:=c.below q;have K:=Bt f q;clear f)
       |(go_at_call 43;refine(O.o _ _ _ c x).mono ?_;clear O;rintro e Q ⟨u3,rfl,m,z⟩;have l:=Bt K z;clear K c x g q z;obtain⟨ai,ah,bc,ak,bf,az,ap,aj,rfl⟩:=Js.form m;obtain⟨v9,w9,P,s,S,y⟩:=KB false w.heap.size Q _ _ (d.o.1.below l) m (by rw[JP];exact HK.o) (by have:=d.o.2.size;have:=l.size;omega);have A:=Ja s;have W:=Ja (y w.heap.size w (Aa _) (Bt d.o.2 l));clear s S y m)
       |(at_builtin;refine Bi _ rfl _ _ 30 30 rfl _ _ rfl rfl _ _ P ?_))
      obtain⟨T,R,L,_⟩:=A.o.form;go_roundw
      case rel=>
       refine⟨k+1,om,by go_num,⟨T,R,?_⟩,Ja ⟨?_,W.o⟩⟩
       . rw[<-Xj,JP]at L;exact L
       . rw[Xj];exact A.o
      case measure=>simp[intOf];omega
    . have bk:(k:Int)<(lb:Int):=om
      clear Qk Qj;go_wp2_with(first
       |(go_at_call 103;refine t.o.mono ?_;clear t;rintro e w1 ⟨u1,rfl,c,g⟩;have f:=g)
       |(go_at_call 103;refine(J.o _ f).mono ?_;clear J;rintro e w2 ⟨u2,rfl,x,q⟩;have c:=c.below q;have K:=Bt f q;clear f)
       |(go_at_call 43;refine(O.o _ _ _ c x).mono ?_;clear O;rintro e Q ⟨u3,rfl,m,z⟩;have l:=Bt K z;clear K c x g q z;obtain⟨ai,ah,bc,ak,bf,az,ap,aj,rfl⟩:=Js.form m;obtain⟨v9,w9,P,s,S,y⟩:=KB false w.heap.size Q _ _ (d.o.1.below l) m (by rw[JP];exact HK.o) (by have:=d.o.2.size;have:=l.size;omega);have A:=Ja s;have W:=Ja (y w.heap.size w (Aa _) (Bt d.o.2 l));clear s S y m)
       |(at_builtin;refine Bi _ rfl _ _ 30 30 rfl _ _ rfl rfl _ _ P ?_))
      obtain⟨T,R,L,_⟩:=A.o.form;go_roundw
      case rel=>
       refine⟨k+1,om,by go_num,⟨T,R,?_⟩,Ja ⟨?_,W.o⟩⟩
       . rw[<-Xj,JP]at L;exact L
       . rw[Xj];exact A.o
      case measure=>simp[intOf];omega
  . have h1:¬(k:Int)<(la:Int):=by have:=r.o.1;omega
    have h2:¬(k:Int)<(lb:Int):=by have:=r.o.2.1;omega
    have U:=Ja (λ(V:F) (h:Bl wr V)=>K3 _ _ V ((d.o.1.below h).row (by rw[JP];have:=r.o.2.2.1;omega)));have HE:=Ja (show Jd (X9 (λi=>cf ps i+cf qs i) k)=EX ps qs from YM λj=>by
     rw[MP,Xw];split
     . rfl
     . have:=r.o;have g1:=Ql.o;have g2:=Qm.o;rw[J4 (p:=ps) om,J4 (p:=qs) om];grind)
    rw[HE.o]at U;go_wp2_with(go_at_call 45;refine(U.o _ (BB _ _)).mono ?_;clear U;rintro e w1 ⟨u1,rfl,c,g⟩;obtain⟨a8,l8,c8,rfl⟩:=c.form)
    go_ret;exact⟨_,rfl,c,Bt d.o.2 g⟩
