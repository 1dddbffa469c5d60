import Derived.Test.YteldjhhjnchdeaaGreatDoorV31
import Derived.Deep.RegionWith
import Derived.Test.YteldjhhjnchdeaaGreatDoorV28
import Derived.Lib.AppendZeros
open Go.Value renaming slice->C,bool->D,agg->B,pointer->I
open Go.Obj renaming cells->E
open Go renaming World->F,Value->H
open Go.Proofs.Tryz renaming prog->G
set_option maxRecDepth 100000
set_option maxHeartbeats 16000000
namespace Go.Proofs.YteldjhhjnchdeaaGreatDoor
open Go.RowKit Go.Shelf
attribute [local go_sem] Oper.semAt_some
def RR(W:F):H->Nat
 |C (some p) l _=>val 10000 ((List.range l).map λj=>II W ⟨p.block,p.off+j,none⟩)
 |_=>0
variable{s:Bool}{qs:List Rat}{c k l n:Nat}{a:Option Addr}{W:F}
theorem RN.rowVal(h:RN W (C a l c) n):RR W (C a l c)=n:=by
 obtain⟨f,_,_,_,g⟩:=Ju h;rcases AY l with d|d
 . subst d;have m:n=0:=(JC Y).1 (Ap f.symm);subst m;cases a<;>rfl
 . obtain⟨b,off,rfl,_,_⟩:=g 0 d;show val 10000 ((List.range l).map λj=>II W ⟨b,off+j,none⟩)=n;have e:(List.range l).map (λj=>II W ⟨b,off+j,none⟩)=Jc 10000 n:=by
    refine List.ext_getElem (by rw[FO,List.length_range];exact f) λj p i=>?_;obtain⟨o,q,e,_,k⟩:=g j Y;cases e;rw[List.getElem_map,List.getElem_range,II,k,Ah i];rfl
   rw[e,Jo Y]
theorem RS{m:Nat}(h:n<=m):(Jc 10000 n).length<=(Jc 10000 m).length:=by
 rcases AO (Jc 10000 m).length (Jc 10000 n).length with a|a
 . have:=YP Y a;omega
 . exact a
theorem aL(l vb:H)(x y:Int)(w:F)(ha:Js w l x)(hb:Js w vb y)(V:EU x<=100000000)(W:EU y<=100000000):
 Calls G 109 #[l,vb] w λe w'=>∃u,e=.returned u/\Js w' u (Int.gcd x y:Nat)/\Bl w w':=by
 obtain⟨a,la,ca,rfl,q⟩:=ha;obtain⟨b,lb,cb,rfl,r⟩:=hb;obtain⟨s,hs⟩:=ex (decide (x<0));obtain⟨t,ht⟩:=ex (decide (y<0));rw[hs,ht];clear hs ht;obtain⟨W0,g⟩:=ex (((w.alloc (E #[C a la ca,D s] 83)).alloc (E #[C b lb cb,D t] 83)).alloc (E #[C none 0 0,D false] 83));have m:Bl w W0:=by rw[<-g];exact Xq w _ _ _
 have b0:Jn W0 w.heap.size 83 (C a la ca) (D s):=by rw[<-g];exact((Jn.new w _ _ _).alloc _).alloc _
 have b1:Jn W0 (w.heap.size+1) 83 (C b lb cb) (D t):=by
  have h:=(Jn.new (w.alloc (E #[C a la ca,D s] 83)) 83 (C b lb cb) (D t)).alloc (E #[C none 0 0,D false] 83);rw[A1,g]at h;exact h
 have bR:Jn W0 (w.heap.size+1+1) 83 (C none 0 0) (D false):=by
  have h:=Jn.new ((w.alloc (E #[C a la ca,D s] 83)).alloc (E #[C b lb cb,D t] 83)) 83 (C none 0 0) (D false);rw[A1,A1,g]at h;exact h
 have r0:=RN.below q m;have r1:=RN.below r m;have k0:=b0.c0;have k2:=b1.c0;have M:la<=100000000:=by rw[RN.len q];exact V
 have P:lb<=100000000:=by rw[RN.len r];exact W
 have L:=J g;clear g q r V W;go_enter Tryz.func109,Tryz.ntmps109
 go_upto_region 1 with fail
 rw[L.o];clear L;go_wp2_with fail
 go_loopw [5,6] (λxv z wr=>∃(f:Option Addr) (d c0 X:Nat) (k:Option Addr) (l1 c1 c:Nat),xv=C f d c0/\z=C k l1 c1/\Hid (RN wr (C f d c0) X)/\Hid (RN wr (C k l1 c1) c)/\Hid (Nat.gcd X c=Int.gcd x y)/\(d<=100000000/\l1<=100000000)/\Bl W0 wr)
  (λ_ z wr=>RR wr z)
 case atStart=>exact⟨a,la,ca,x.natAbs,b,lb,cb,y.natAbs,rfl,rfl,J r0,J r1,J rfl,⟨M,P⟩,BB _ W0⟩
 case round=>
  clear r0 r1 M P;obtain⟨f,d,c0,X,k,l1,c1,c,rfl,rfl,S,i,R,⟨ad,U⟩,n⟩:=hrel;rcases AY l1 with Q|Q
  . subst Q;have N:c=0:=(JC Y).1 (Ap (RN.len i.o).symm);have HE:=J (show X=Int.gcd x y by rw[<-R.o,N,Nat.gcd_zero_right]);have j:=bR.below n;obtain⟨q0,q1⟩:=j.cp;obtain⟨f0,f1⟩:=j.fp;clear N;go_wp2_with fail
    have A:=(I9 S.o).box j rfl rfl (x0:=C f d c0) (x1:=D false);rw[HE.o]at A;have Qj:=Bt m n;have z0:=((j.set0 (C f d c0)).set1 (D false)).c0;have z1:=((j.set0 (C f d c0)).set1 (D false)).c1;exact BA (v:=B #[C f d c0,D false]) (by simp[results,Tryz.results109,go_sem,z0,z1]) rfl ⟨_,rfl,A,(Qj.setCell (p:=⟨_,0,none⟩) so _).setCell (p:=⟨_,1,none⟩) so _⟩
  . have Qi:c≠0:=λe=>by
     have h:=RN.len i.o;rw[e,Jz]at h;simp at h;omega
    have Qk:=J (RQ f d c0 k l1 c1 X c wr S.o i.o Qi ad U);have K:=A7 X (show c>0 by omega);go_wp2_with(go_at_call 139;refine Qk.o.mono ?_;rintro e w2 ⟨u,v,rfl,hu,o,T⟩;obtain⟨ua,uc,rfl⟩:=RN.form hu;obtain⟨l,vc,rfl⟩:=RN.form o)
    have Ql:=RN.below i.o T;refine⟨⟨k,l1,c1,c,l,_,vc,X%c,rfl,rfl,J Ql,J o,J (by rw[<-R.o,C1 c,<-Nat.gcd_rec,C1]),⟨U,?_⟩,Bt n T⟩,?_⟩
    . have h1:=RS (FT K);rw[<-RN.len i.o]at h1;omega
    . rw[RN.rowVal o,RN.rowVal i.o];exact K
theorem aM(w:F)(c d e f:H)(a b:H):
 Jn ((((w.alloc (E #[c,d] 83)).alloc (E #[e,f] 83)).alloc (E #[a,b] 83)).alloc (E #[a,b] 83)) w.heap.size 83 c d/\
 Jn ((((w.alloc (E #[c,d] 83)).alloc (E #[e,f] 83)).alloc (E #[a,b] 83)).alloc (E #[a,b] 83)) (w.heap.size+1) 83 e f/\
 Jn ((((w.alloc (E #[c,d] 83)).alloc (E #[e,f] 83)).alloc (E #[a,b] 83)).alloc (E #[a,b] 83)) (w.heap.size+1+1) 83 a b/\
 Jn ((((w.alloc (E #[c,d] 83)).alloc (E #[e,f] 83)).alloc (E #[a,b] 83)).alloc (E #[a,b] 83)) (w.heap.size+1+1+1) 83 a b:=by
 refine⟨(((Jn.new w _ _ _).alloc _).alloc _).alloc _,?_,?_,?_⟩
 . have h:=((Jn.new (w.alloc (E #[c,d] 83)) 83 e f).alloc (E #[a,b] 83)).alloc (E #[a,b] 83);rw[A1]at h;exact h
 . have h:=(Jn.new ((w.alloc (E #[c,d] 83)).alloc (E #[e,f] 83)) 83 a b).alloc (E #[a,b] 83);rw[A1,A1]at h;exact h
 . have h:=Jn.new (((w.alloc (E #[c,d] 83)).alloc (E #[e,f] 83)).alloc (E #[a,b] 83)) 83 a b;rw[A1,A1,A1]at h;exact h
theorem aN(h:RN W (C a l c) n)(m:Bool):Js W (B #[C a l c,D (m&&decide (0<l))]) (if m=true then -(n:Int)else(n:Int)):=by
 have hl:=RN.len h;have f:0<l↔n≠0:=by
  rw[hl];constructor
  . intro b g;rw[g,Jz]at b;simp at b
  . intro b;exact Ar.2 λe=>b ((JC Y).1 e)
 cases m with
 |false=>
  refine⟨a,l,c,?_,by simp;exact h⟩;have:decide ((n:Int)<0)=false:=BI Y;simp[this]
 |true=>
  refine⟨a,l,c,?_,by simp;exact h⟩;simp only[Bool.true_and,if_true];have:decide (0<l)=decide (-(n:Int)<0):=by
   by_cases d:n=0
   . rw[BI λb=>f.1 b d,BI Y]
   . rw[BK (f.2 d),BK Y]
  rw[this]
theorem aO(a:Option Addr)(la ca:Nat)(b:Option Addr)(lb cb X L:Nat)(s t:Bool)(z r:Int)(w:F)(hu:RN w (C a la ca) X)(hv:RN w (C b lb cb) L)(hY:L≠0)(cn:la<=100000000)(co:lb<=100000000)
(HP:Hid (¬(s=true/\X%L≠0)->(if(!(s==t))=true then -((X/L:Nat):Int)else((X/L:Nat):Int))=z/\((X%L:Nat):Int)=r))
(HN:Hid (s=true/\X%L≠0->(if(!(s==t))=true then -((X/L+1:Nat):Int)else((X/L+1:Nat):Int))=z/\((L-X%L:Nat):Int)=r)):
 Calls G 111 #[B #[C a la ca,D s],B #[C b lb cb,D t]] w λe w'=>∃q o,e=.returned (.tuple #[q,o])/\Js w' q z/\Js w' o r/\Bl w w':=by
 have Uk:Tryz.prog.follows .mixedOrders=true:=by kernel_rfl
 obtain⟨b0,b1,b4,b5⟩:=aM w (C a la ca) (D s) (C b lb cb) (D t) (C none 0 0) (D false);have Qq:=QU w (E #[C a la ca,D s] 83) (E #[C b lb cb,D t] 83) (E #[C none 0 0,D false] 83) (E #[C none 0 0,D false] 83);obtain⟨W0,bm⟩:=ex ((((w.alloc (E #[C a la ca,D s] 83)).alloc (E #[C b lb cb,D t] 83)).alloc (E #[C none 0 0,D false] 83)).alloc (E #[C none 0 0,D false] 83));rw[bm]at b0 b1 b4 b5 Qq;have Ui:=J bm;have Up:=RN.below hu Qq;have Ue:=RN.below hv Qq;have Um:=J (RQ a la ca b lb cb X L W0 Up Ue hY cn co);have Uq:=J Ue;have Ur:=J (RN.len hu).symm;obtain⟨k0,k1⟩:=b0.cp;obtain⟨k2,k3⟩:=b1.cp;clear bm hu hv Up Ue;go_enter Tryz.func111,Tryz.ntmps111
 go_upto_region 1 with fail
 rw[Ui.o];go_upto_region 2 with(go_at_call 139;refine Um.o.mono ?_;rintro e w1 ⟨u1,v1,rfl,ce,cg,bn⟩;obtain⟨ua,uc,rfl⟩:=RN.form ce;obtain⟨va,vc,rfl⟩:=RN.form cg)
 clear Um Ui;obtain⟨lr,bu⟩:=ex ((Jc 10000 (X%L)).length);obtain⟨lq,bt⟩:=ex ((Jc 10000 (X/L)).length);have Uo:=J (show lr=0↔X%L=0 by
  rw[<-bu];exact⟨λh=>(JC Y).1 (Ap h),λh=>by rw[h,Jz];rfl⟩)
 rw[bu]at cg ⊢;rw[bt]at ce ⊢;have ct:lq<=100000000:=by
  have h1:=RS (m:=X) (n:=X/L) (Fw _ _);have P:=Ur.o;omega
 have Ul:=J bt.symm;clear bu bt;obtain⟨k0,k1⟩:=(b0.below bn).cp;obtain⟨k2,k3⟩:=(b1.below bn).cp;have Qt:=J (Ia ua lq uc (!(s==t)) w1);go_upto_region 3 with(go_at_call 112;refine Qt.o.mono ?_;rintro e w2 ⟨rfl,cj⟩)
 obtain⟨m8,cl⟩:=ex (((!(s==t))&&decide (0<lq)):Bool);have hI:=aN (RN.below ce cj) (!(s==t));rw[cl]at hI ⊢;obtain⟨W3,an⟩:=ex (w2.alloc (E #[C ua lq uc,D m8] 83));have Qj:Bl w2 W3:=by rw[<-an];exact Ba w2 _
 have b8:Jn W3 w2.heap.size 83 (C ua lq uc) (D m8):=by rw[<-an];exact Jn.new w2 _ _ _
 have Qs:Bl w1 W3:=Bt cj Qj;have Qg:Bl W0 W3:=Bt bn Qs;have Qy:=hI.below Qj;have Uh:=RN.below cg Qs;have Qh:=Bt Qq Qg;obtain⟨B8,ci⟩:=ex (w2.heap.size);rw[an];rw[ci]at b8 ⊢;clear an ci cl hI Qt;have p0:=b0.below Qg;have p1:=b1.below Qg;have p4:=b4.below Qg;have p5:=b5.below Qg;clear b0 b1 b4 b5 k0 k1 k2 k3;obtain⟨k0,k1⟩:=p0.cp;obtain⟨k2,k3⟩:=p1.cp;obtain⟨k8,k9⟩:=b8.cp;obtain⟨q0,q1⟩:=p4.cp;obtain⟨q2,q3⟩:=p5.cp;obtain⟨f0,f1⟩:=p4.fp;obtain⟨f2,f3⟩:=p5.fp;obtain⟨cd,ck⟩:=ex ((!s || decide (lr=0)):Bool);have Qi:=J ck;clear ck;go_cut [31] λv w4=>v=D cd/\w4=W3
 case first=>
  cases s with
  |false=>
   have e5:cd=true:=by rw[<-Qi.o];rfl
   go_wp2_with fail
   go_meet
   case rel=>exact⟨by rw[e5],rfl⟩
  |true=>
   by_cases h5:lr=0
   . have e5:cd=true:=by rw[<-Qi.o];simp;omega
     have h6:((lr:Int)==0)=true:=by simp;omega
     clear h5;go_wp2_with fail
     go_meet
     case rel=>exact⟨by rw[e5],rfl⟩
   . have e5:cd=false:=by rw[<-Qi.o];simp;omega
     have h6:((lr:Int)==0)=false:=by simp;omega
     clear h5;go_wp2_with fail
     go_meet
     case rel=>exact⟨by rw[e5],rfl⟩
 case rest=>
  obtain⟨rfl,rfl⟩:=hcut;cases cd with
  |true=>
   have hc:¬(s=true/\X%L≠0):=λ⟨h1,P⟩=>by
    have h:=Qi.o;rw[h1]at h;simp at h;exact P (Uo.o.1 h)
   obtain⟨z1,z2⟩:=HP.o hc;rw[z1]at Qy;have Qt:=J (Ia va lr vc s);have Uj:(s&&decide (0<lr))=false:=by
    have h:=Qi.o;cases s with
    |false=>rfl
    |true=>simp at h;simp;omega
   rw[Uj]at Qt;have Qw:=J z2;clear Uj z1 z2 hc;go_wp2_with fail
   go_region_with (first
    |(go_at_call 112;refine(Qt.o _).mono ?_;rintro e w5 ⟨rfl,M⟩;have k8:=((b8.drew).below M).c0;have k9:=((b8.drew).below M).c1;have q0:=((p4.drew).below M).c0;have q1:=((p4.drew).below M).c1;have q2:=((p5.drew).below M).c0;have q3:=((p5.drew).below M).c1;have f0:=((p4.drew).below M).f0;have f1:=((p4.drew).below M).f1;have f2:=((p5.drew).below M).f0;have f3:=((p5.drew).below M).f1))
   all_goals
    go_wp2_with fail
    have Qk:Bl wc w5:=((BB _ wc).drew).trans (M.mono (Aa _));have Qb:=p4.below Qk;have Qd:=p5.below Qk;obtain⟨z4,z5⟩:=L7 (C ua lq uc) (D m8) (C va lr vc) (D false) Qb Qd;obtain⟨Qu,Qr⟩:=z4.cp;obtain⟨Qm,Qp⟩:=z5.cp;have Qe:Jn ((w5.setCell ⟨w.heap.size+1+1,0,none⟩ (C ua lq uc)).setCell ⟨w.heap.size+1+1,1,none⟩ (D m8)) (w.heap.size+1+1+1) 83 (C none 0 0) (D false):=(Qd.far O _).far O _;have Qc:=(I9 Uh).below Qk;rw[Qw.o]at Qc;have Qn:=((Qy.below Qk).box Qb rfl rfl (x0:=C ua lq uc) (x1:=D m8)).box Qe rfl rfl (x0:=C va lr vc) (x1:=D false);have Qo:=(Qc.box Qb rfl rfl (x0:=C ua lq uc) (x1:=D m8)).box Qe rfl rfl (x0:=C va lr vc) (x1:=D false);have Qv:=Bt Qh Qk;exact BA (v:=.tuple #[B #[C ua lq uc,D m8],B #[C va lr vc,D false]]) (by simp[results,Tryz.results111,go_sem,Qu,Qr,Qm,Qp]) rfl ⟨_,_,rfl,Qn,Qo,(((Qv.setCell (p:=⟨_,0,none⟩) so _).setCell (p:=⟨_,1,none⟩) so _).setCell (p:=⟨_,0,none⟩) so _).setCell (p:=⟨_,1,none⟩) so _⟩
  |false=>
   have hc:s=true/\X%L≠0:=by
    have h:=Qi.o;simp at h;exact⟨h.1,λe=>h.2 (Uo.o.2 e)⟩
   obtain⟨z1,z2⟩:=HN.o hc;rw[hc.1]at z1;have Un:Js wc (B #[C ua lq uc,D m8]) (if(!(true==t))=true then -((X/L:Nat):Int)else((X/L:Nat):Int)):=by have h:=Qy;rw[hc.1]at h;exact h
   obtain⟨Qx,Ua,Qw⟩:=Dk Un z1 z2;have de:=A7 X (show L>0 by omega);have Qz:=J (Hk 1 Y Y);have Ub:=J λ(V:F) (h:Bl wc V)=>Le _ _ L (X%L) V (RN.below (RN.below Uq.o Qg) h) (RN.below Uh h) Y (by rw[<-RN.len Uq.o];omega);clear hc Un z1 z2 Qy;cases t with
   |true=>
    have Uf:=J (show ∀(V:F) (u:H),Bl wc V->Js V u 1->Calls G 81 #[B #[C ua lq uc,D m8],u] V λe w'=>∃u,e=.returned u/\Js w' u z/\Bl V w' from λV u h hu=>by
     have hx:=Qx.o.below h;simp only[beq_self_eq_true,Bool.not_true,A9,if_false]at hx;have h1:=NP _ u _ 1 V hx hu (by unfold EU;rw[AP,<-Ul.o];omega) (L6 Y Y);have P:=Ua.o;simp only[beq_self_eq_true,Bool.not_true,A9,if_false]at P;rw[show((X/L:Nat):Int)+1=z from by rw[<-P];push_cast;rfl]at h1;exact h1)
    clear Qx Ua HN HP;go_upto_region 6 with fail
    refine Jl Uk [[],[],[0,1,1],[],[3],[],[4,5,2],[6],[2,6,0,1,2],[7,8,0,1,2,3,4,5,6,7,8]] (by kernel_rfl) DQ
     (λc ac V=>∃ap aq ak aw ay az ae bc:H,ac={ tmps:=#[B #[C a la ca,D s],B #[C b lb cb,D true],I (some ⟨w.heap.size,0,none⟩),I (some ⟨w.heap.size+1,0,none⟩),I (some ⟨w.heap.size+1+1,0,none⟩),I (some ⟨w.heap.size+1+1+1,0,none⟩),C ua lq uc,C va lr vc,I (some ⟨B8,0,none⟩),u9,u10,u11,u12,u13,u14,u15,u16,u17,u18,u19,u20,u21,u22,u23,u24,u25,u26,u27,u28,u29,u30,D false,u32,u33,u34,u35,u36,I (some ⟨w.heap.size+1,1,none⟩),D true,ap,aq,ak,aw,ay,az,ae,bc,u47,u48,u49,u50,u51,u52,u53,u54],defers:=[] }/\Hid (c 0=true->ap=B #[C ua lq uc,D m8])/\Hid (c 1=true->c 8=false->Js V aq 1)/\Hid (c 2=true->c 8=false->∃j l c5 x,ak=B #[C j l c5,D x]/\Js V ak z)/\Hid (c 3=true->aw=I (some ⟨w.heap.size+1,0,none⟩))/\Hid (c 4=true->ay=C b lb cb)/\Hid (c 5=true->az=C va lr vc)/\Hid (c 6=true->c 8=false->∃d g f,ae=C d g f/\RN V ae (L-X%L))/\Hid (c 7=true->∃d g f,ae=C d g f/\bc=B #[C d g f,D false])/\Hid (c 8=true->∃V0 j l c5 x d g f,ak=B #[C j l c5,D x]/\ae=C d g f/\Js V0 (B #[C j l c5,D x]) z/\RN V0 (C d g f) (L-X%L)/\Bl wc V0/\(c 9=false->V=((V0.setCell ⟨w.heap.size+1+1,0,none⟩ (C j l c5)).setCell ⟨w.heap.size+1+1,1,none⟩ (D x)))/\(c 9=true->V=(((V0.setCell ⟨w.heap.size+1+1,0,none⟩ (C j l c5)).setCell ⟨w.heap.size+1+1,1,none⟩ (D x)).setCell ⟨w.heap.size+1+1+1,0,none⟩ (C d g f)).setCell ⟨w.heap.size+1+1+1,1,none⟩ (D false)))/\Hid (c 8=false->Bl wc V))
     (E8 ⟨rfl,J Di,J Di,J Di,J Di,J Di,J Di,J Di,J Di,J Di,J λ_=>(BB _ wc).drew⟩) ?step ?fin
    case step=>
     rintro c a2 V i ds A ai k y ⟨ap,aq,ak,aw,ay,az,ae,bc,rfl,S,T,g2,U,W,g5,R,g7,g8,Q⟩;have Qf:i<10:=(Ac.1 ai).1;obtain rfl|rfl|rfl|rfl|rfl|rfl|rfl|rfl|rfl|rfl:=IQ i Y
     all_goals
      simp only[Af,Ae,Ag]at ai;subst ai;clear Qf
     . have N:c 8=false:=by
        cases h:c 8 with
        |false=>rfl
        |true=>rw[A 8 _ rfl h 0 O]at y;cases y
       have hq:=Q.o N;obtain⟨k8,k9⟩:=(b8.below hq).cp;clear k A;refine EA ?_;exact⟨J λ_=>rfl,T,g2,U,W,g5,R,g7,J (λh=>by simp[N]at h),Q⟩
     . have N:c 8=false:=by
        cases h:c 8 with
        |false=>rfl
        |true=>rw[A 8 _ rfl h 1 O]at y;cases y
       have Ug:c 2=false:=by
        cases h:c 2 with
        |false=>rfl
        |true=>rw[A 2 _ rfl h 1 O]at y;cases y
       have hq:=Q.o N;clear k A;refine Jv rfl rfl λK hK=>?_;go_simp;go_wp2_with(go_at_call 79;refine(Qz.o _).mono ?_;rintro e w5 ⟨u5,rfl,ad,M⟩)
       exact⟨_,_,_,_,_,_,_,_,rfl,S,J λ_ _=>ad,J (λh=>by simp[Ug]at h),U,W,g5,J (λh P=>by obtain⟨d,g,f,e,q⟩:=R.o h P;exact⟨d,g,f,e,RN.below q M⟩),g7,J (λh=>by simp[N]at h),J λ_=>Bt hq M⟩
     . have N:c 8=false:=by
        cases h:c 8 with
        |false=>rfl
        |true=>rw[A 8 _ rfl h 2 O]at y;cases y
       have hq:=Q.o N;obtain rfl:=S.o (k 0 O);have h1:=T.o (k 1 O) N;clear k A;refine Jv rfl rfl λK hK=>?_;go_simp;go_wp2_with(go_at_call 81;refine(Uf.o _ _ hq h1).mono ?_;rintro e w5 ⟨u5,rfl,ad,M⟩;obtain⟨j,l,c5,rfl⟩:=ad.form;obtain⟨x,aj⟩:=ex (decide (z<0));rw[aj]at ad;rw[aj];clear aj)
       exact E8 ⟨rfl,J λ_=>rfl,J λh P=>(T.o h P).below M,J λ_ _=>⟨j,l,c5,x,rfl,ad⟩,U,W,g5,J (λh P=>by obtain⟨d,g,f,e,q⟩:=R.o h P;exact⟨d,g,f,e,RN.below q M⟩),g7,J (λh=>by simp[N]at h),J λ_=>Bt hq M⟩
     . clear k A;refine EA ?_;exact⟨S,T,g2,J λ_=>rfl,W,g5,R,g7,g8,Q⟩
     . have Ql:c 6=false:=by
        cases h:c 6 with
        |false=>rfl
        |true=>rw[A 6 _ rfl h 4 O]at y;cases y
       have N:c 8=false:=by
        cases h:c 8 with
        |false=>rfl
        |true=>rw[A 8 _ rfl h 6 O]at Ql;cases Ql
       have hq:=Q.o N;obtain rfl:=U.o (k 3 O);have k2:=(p1.below hq).c0;clear k A;refine EA ?_;exact⟨S,T,g2,J λ_=>rfl,J λ_=>rfl,g5,R,g7,J (λh=>by simp[N]at h),Q⟩
     . clear k A;refine EA ?_;exact⟨S,T,g2,U,W,J λ_=>rfl,R,g7,g8,Q⟩
     . have N:c 8=false:=by
        cases h:c 8 with
        |false=>rfl
        |true=>rw[A 8 _ rfl h 6 O]at y;cases y
       have Ud:c 7=false:=by
        cases h:c 7 with
        |false=>rfl
        |true=>rw[A 7 _ rfl h 6 O]at y;cases y
       have hq:=Q.o N;obtain rfl:=W.o (k 4 O);obtain rfl:=g5.o (k 5 O);clear k A;refine Jv rfl rfl λK hK=>?_;go_simp;go_wp2_with(go_at_call 115;refine(Ub.o _ hq).mono ?_;rintro e w5 ⟨u5,rfl,ad,M⟩;obtain⟨d,f,rfl⟩:=RN.form ad)
       exact⟨_,_,_,_,_,_,_,_,rfl,S,J λh P=>(T.o h P).below M,J (λh P=>by obtain⟨j,l,c5,x,e,q⟩:=g2.o h P;exact⟨j,l,c5,x,e,q.below M⟩),U,J λ_=>rfl,J λ_=>rfl,J λ_ _=>⟨_,_,_,rfl,ad⟩,J (λh=>by simp[Ud]at h),J (λh=>by simp[N]at h),J λ_=>Bt hq M⟩
     . obtain⟨d,g,f,e6⟩:∃d g f,ae=C d g f:=by
        cases h8:c 8 with
        |false=>obtain⟨d,g,f,e,_⟩:=R.o (k 6 O) h8;exact⟨d,g,f,e⟩
        |true=>obtain⟨_,_,_,_,_,d,g,f,_,e,_⟩:=g8.o h8;exact⟨d,g,f,e⟩
       obtain rfl:=e6;clear k A;refine EA ?_;exact⟨S,T,g2,U,W,g5,R,J λ_=>⟨d,g,f,rfl,rfl⟩,g8,Q⟩
     . have Uc:c 9=false:=by
        cases h:c 9 with
        |false=>rfl
        |true=>rw[A 9 _ rfl h 8 O]at y;cases y
       have hq:=Q.o y;obtain⟨j,l,c5,x,e5,h5⟩:=g2.o (k 2 O) y;obtain⟨d,g,f,e6,h6⟩:=R.o (k 6 O) y;obtain rfl:=e5;obtain rfl:=e6;obtain⟨q0,q1⟩:=(p4.below hq).cp;obtain⟨f0,f1⟩:=(p4.below hq).fp;clear T g2 R;clear k A;refine EA ?_;exact⟨S,J (λ_ h=>by simp at h),J (λ_ h=>by simp at h),U,W,g5,J (λ_ h=>by simp at h),g7,J λ_=>⟨V,j,l,c5,x,d,g,f,rfl,rfl,h5,h6,hq,λ_=>rfl,λh=>by simp[Uc]at h⟩,J λh=>by simp at h⟩
     . obtain⟨V0,j,l,c5,x,d,g,f,e5,e6,h5,h6,hq,hV,_⟩:=g8.o (k 8 O);obtain rfl:=hV y;obtain⟨a7,l7,c7,e7,e8⟩:=g7.o (k 7 O);obtain rfl:=e8;obtain rfl:=e6;cases e7;obtain rfl:=e5;have bb:=((p5.below hq).far (p:=⟨w.heap.size+1+1,0,none⟩) O (C j l c5)).far (p:=⟨w.heap.size+1+1,1,none⟩) O (D x);obtain⟨q0,q1⟩:=bb.cp;obtain⟨f0,f1⟩:=bb.fp;have h8:=k 8 O;clear hV;clear k A;refine EA ?_;exact⟨S,J (λ_ h=>by simp[h8]at h),J (λ_ h=>by simp[h8]at h),U,W,g5,J (λ_ h=>by simp[h8]at h),J λ_=>⟨_,_,_,rfl,rfl⟩,J λ_=>⟨V0,j,l,c5,x,d,g,f,rfl,rfl,h5,h6,hq,λh=>by simp at h,λ_=>rfl⟩,J λh=>by simp[h8]at h⟩
    case fin=>
     rintro c a2 V ah ⟨ap,aq,ak,aw,ay,az,ae,bc,rfl,S,T,g2,U,W,g5,R,g7,g8,Q⟩;obtain⟨V0,j,l,c5,x,d,g,f,e5,e6,h5,h6,hq,_,hV⟩:=g8.o (ah 8 DQ);obtain rfl:=hV (ah 9 DQ);clear S T g2 U W g5 R g7 g8 Q ah hV e5 e6 Ub Qz;go_wp2_with fail
     have Qb:=p4.below hq;have Qd:=p5.below hq;obtain⟨z4,z5⟩:=L7 (C j l c5) (D x) (C d g f) (D false) Qb Qd;obtain⟨Qu,Qr⟩:=z4.cp;obtain⟨Qm,Qp⟩:=z5.cp;have Qe:Jn ((V0.setCell ⟨w.heap.size+1+1,0,none⟩ (C j l c5)).setCell ⟨w.heap.size+1+1,1,none⟩ (D x)) (w.heap.size+1+1+1) 83 (C none 0 0) (D false):=(Qd.far O _).far O _;have Qc:=I9 h6;rw[Qw.o]at Qc;have Qn:=(h5.box Qb rfl rfl (x0:=C j l c5) (x1:=D x)).box Qe rfl rfl (x0:=C d g f) (x1:=D false);have Qo:=(Qc.box Qb rfl rfl (x0:=C j l c5) (x1:=D x)).box Qe rfl rfl (x0:=C d g f) (x1:=D false);have Qv:=Bt Qh hq;exact BA (v:=.tuple #[B #[C j l c5,D x],B #[C d g f,D false]]) (by simp[results,Tryz.results111,go_sem,Qu,Qr,Qm,Qp]) rfl ⟨_,_,rfl,Qn,Qo,(((Qv.setCell (p:=⟨_,0,none⟩) so _).setCell (p:=⟨_,1,none⟩) so _).setCell (p:=⟨_,0,none⟩) so _).setCell (p:=⟨_,1,none⟩) so _⟩
   |false=>
    have Uf:=J (show ∀(V:F) (u:H),Bl wc V->Js V u 1->Calls G 140 #[B #[C ua lq uc,D m8],u] V λe w'=>∃u,e=.returned u/\Js w' u z/\Bl V w' from λV u h hu=>by
     have hx:=Qx.o.below h;rw[BG (by rfl)]at hx;have h1:=ZP _ u _ 1 V hx hu (by unfold EU;rw[Fq,AP,<-Ul.o];omega) (L6 Y Y);have P:=Ua.o;rw[BG (by rfl)]at P;rw[show -((X/L:Nat):Int)-1=z from by rw[<-P];push_cast;omega]at h1;exact h1)
    clear Qx Ua HN HP;go_upto_region 7 with fail
    refine Jl Uk [[],[],[0,1,1],[],[3],[],[4,5,2],[6],[2,6,0,1,2],[7,8,0,1,2,3,4,5,6,7,8]] (by kernel_rfl) DQ
     (λc ac V=>∃bf bg am bh bi bj af bk:H,ac={ tmps:=#[B #[C a la ca,D s],B #[C b lb cb,D false],I (some ⟨w.heap.size,0,none⟩),I (some ⟨w.heap.size+1,0,none⟩),I (some ⟨w.heap.size+1+1,0,none⟩),I (some ⟨w.heap.size+1+1+1,0,none⟩),C ua lq uc,C va lr vc,I (some ⟨B8,0,none⟩),u9,u10,u11,u12,u13,u14,u15,u16,u17,u18,u19,u20,u21,u22,u23,u24,u25,u26,u27,u28,u29,u30,D false,u32,u33,u34,u35,u36,I (some ⟨w.heap.size+1,1,none⟩),D false,u39,u40,u41,u42,u43,u44,u45,u46,bf,bg,am,bh,bi,bj,af,bk],defers:=[] }/\Hid (c 0=true->bf=B #[C ua lq uc,D m8])/\Hid (c 1=true->c 8=false->Js V bg 1)/\Hid (c 2=true->c 8=false->∃j l c5 x,am=B #[C j l c5,D x]/\Js V am z)/\Hid (c 3=true->bh=I (some ⟨w.heap.size+1,0,none⟩))/\Hid (c 4=true->bi=C b lb cb)/\Hid (c 5=true->bj=C va lr vc)/\Hid (c 6=true->c 8=false->∃d g f,af=C d g f/\RN V af (L-X%L))/\Hid (c 7=true->∃d g f,af=C d g f/\bk=B #[C d g f,D false])/\Hid (c 8=true->∃V0 j l c5 x d g f,am=B #[C j l c5,D x]/\af=C d g f/\Js V0 (B #[C j l c5,D x]) z/\RN V0 (C d g f) (L-X%L)/\Bl wc V0/\(c 9=false->V=((V0.setCell ⟨w.heap.size+1+1,0,none⟩ (C j l c5)).setCell ⟨w.heap.size+1+1,1,none⟩ (D x)))/\(c 9=true->V=(((V0.setCell ⟨w.heap.size+1+1,0,none⟩ (C j l c5)).setCell ⟨w.heap.size+1+1,1,none⟩ (D x)).setCell ⟨w.heap.size+1+1+1,0,none⟩ (C d g f)).setCell ⟨w.heap.size+1+1+1,1,none⟩ (D false)))/\Hid (c 8=false->Bl wc V))
     (E8 ⟨rfl,J Di,J Di,J Di,J Di,J Di,J Di,J Di,J Di,J Di,J λ_=>(BB _ wc).drew⟩) ?step ?fin
    case step=>
     rintro c a2 V i ds A ai k y ⟨bf,bg,am,bh,bi,bj,af,bk,rfl,S,T,g2,U,W,g5,R,g7,g8,Q⟩;have Qf:i<10:=(Ac.1 ai).1;obtain rfl|rfl|rfl|rfl|rfl|rfl|rfl|rfl|rfl|rfl:=IQ i Y
     all_goals
      simp only[Af,Ae,Ag]at ai;subst ai;clear Qf
     . have N:c 8=false:=by
        cases h:c 8 with
        |false=>rfl
        |true=>rw[A 8 _ rfl h 0 O]at y;cases y
       have hq:=Q.o N;obtain⟨k8,k9⟩:=(b8.below hq).cp;clear k A;refine EA ?_;exact⟨J λ_=>rfl,T,g2,U,W,g5,R,g7,J (λh=>by simp[N]at h),Q⟩
     . have N:c 8=false:=by
        cases h:c 8 with
        |false=>rfl
        |true=>rw[A 8 _ rfl h 1 O]at y;cases y
       have Ug:c 2=false:=by
        cases h:c 2 with
        |false=>rfl
        |true=>rw[A 2 _ rfl h 1 O]at y;cases y
       have hq:=Q.o N;clear k A;refine Jv rfl rfl λK hK=>?_;go_simp;go_wp2_with(go_at_call 79;refine(Qz.o _).mono ?_;rintro e w5 ⟨u5,rfl,ad,M⟩)
       exact⟨_,_,_,_,_,_,_,_,rfl,S,J λ_ _=>ad,J (λh=>by simp[Ug]at h),U,W,g5,J (λh P=>by obtain⟨d,g,f,e,q⟩:=R.o h P;exact⟨d,g,f,e,RN.below q M⟩),g7,J (λh=>by simp[N]at h),J λ_=>Bt hq M⟩
     . have N:c 8=false:=by
        cases h:c 8 with
        |false=>rfl
        |true=>rw[A 8 _ rfl h 2 O]at y;cases y
       have hq:=Q.o N;obtain rfl:=S.o (k 0 O);have h1:=T.o (k 1 O) N;clear k A;refine Jv rfl rfl λK hK=>?_;go_simp;go_wp2_with(go_at_call 140;refine(Uf.o _ _ hq h1).mono ?_;rintro e w5 ⟨u5,rfl,ad,M⟩;obtain⟨j,l,c5,rfl⟩:=ad.form;obtain⟨x,aj⟩:=ex (decide (z<0));rw[aj]at ad;rw[aj];clear aj)
       exact E8 ⟨rfl,J λ_=>rfl,J λh P=>(T.o h P).below M,J λ_ _=>⟨j,l,c5,x,rfl,ad⟩,U,W,g5,J (λh P=>by obtain⟨d,g,f,e,q⟩:=R.o h P;exact⟨d,g,f,e,RN.below q M⟩),g7,J (λh=>by simp[N]at h),J λ_=>Bt hq M⟩
     . clear k A;refine EA ?_;exact⟨S,T,g2,J λ_=>rfl,W,g5,R,g7,g8,Q⟩
     . have Ql:c 6=false:=by
        cases h:c 6 with
        |false=>rfl
        |true=>rw[A 6 _ rfl h 4 O]at y;cases y
       have N:c 8=false:=by
        cases h:c 8 with
        |false=>rfl
        |true=>rw[A 8 _ rfl h 6 O]at Ql;cases Ql
       have hq:=Q.o N;obtain rfl:=U.o (k 3 O);have k2:=(p1.below hq).c0;clear k A;refine EA ?_;exact⟨S,T,g2,J λ_=>rfl,J λ_=>rfl,g5,R,g7,J (λh=>by simp[N]at h),Q⟩
     . clear k A;refine EA ?_;exact⟨S,T,g2,U,W,J λ_=>rfl,R,g7,g8,Q⟩
     . have N:c 8=false:=by
        cases h:c 8 with
        |false=>rfl
        |true=>rw[A 8 _ rfl h 6 O]at y;cases y
       have Ud:c 7=false:=by
        cases h:c 7 with
        |false=>rfl
        |true=>rw[A 7 _ rfl h 6 O]at y;cases y
       have hq:=Q.o N;obtain rfl:=W.o (k 4 O);obtain rfl:=g5.o (k 5 O);clear k A;refine Jv rfl rfl λK hK=>?_;go_simp;go_wp2_with(go_at_call 115;refine(Ub.o _ hq).mono ?_;rintro e w5 ⟨u5,rfl,ad,M⟩;obtain⟨d,f,rfl⟩:=RN.form ad)
       exact⟨_,_,_,_,_,_,_,_,rfl,S,J λh P=>(T.o h P).below M,J (λh P=>by obtain⟨j,l,c5,x,e,q⟩:=g2.o h P;exact⟨j,l,c5,x,e,q.below M⟩),U,J λ_=>rfl,J λ_=>rfl,J λ_ _=>⟨_,_,_,rfl,ad⟩,J (λh=>by simp[Ud]at h),J (λh=>by simp[N]at h),J λ_=>Bt hq M⟩
     . obtain⟨d,g,f,e6⟩:∃d g f,af=C d g f:=by
        cases h8:c 8 with
        |false=>obtain⟨d,g,f,e,_⟩:=R.o (k 6 O) h8;exact⟨d,g,f,e⟩
        |true=>obtain⟨_,_,_,_,_,d,g,f,_,e,_⟩:=g8.o h8;exact⟨d,g,f,e⟩
       obtain rfl:=e6;clear k A;refine EA ?_;exact⟨S,T,g2,U,W,g5,R,J λ_=>⟨d,g,f,rfl,rfl⟩,g8,Q⟩
     . have Uc:c 9=false:=by
        cases h:c 9 with
        |false=>rfl
        |true=>rw[A 9 _ rfl h 8 O]at y;cases y
       have hq:=Q.o y;obtain⟨j,l,c5,x,e5,h5⟩:=g2.o (k 2 O) y;obtain⟨d,g,f,e6,h6⟩:=R.o (k 6 O) y;obtain rfl:=e5;obtain rfl:=e6;obtain⟨q0,q1⟩:=(p4.below hq).cp;obtain⟨f0,f1⟩:=(p4.below hq).fp;clear T g2 R;clear k A;refine EA ?_;exact⟨S,J (λ_ h=>by simp at h),J (λ_ h=>by simp at h),U,W,g5,J (λ_ h=>by simp at h),g7,J λ_=>⟨V,j,l,c5,x,d,g,f,rfl,rfl,h5,h6,hq,λ_=>rfl,λh=>by simp[Uc]at h⟩,J λh=>by simp at h⟩
     . obtain⟨V0,j,l,c5,x,d,g,f,e5,e6,h5,h6,hq,hV,_⟩:=g8.o (k 8 O);obtain rfl:=hV y;obtain⟨a7,l7,c7,e7,e8⟩:=g7.o (k 7 O);obtain rfl:=e8;obtain rfl:=e6;cases e7;obtain rfl:=e5;have bb:=((p5.below hq).far (p:=⟨w.heap.size+1+1,0,none⟩) O (C j l c5)).far (p:=⟨w.heap.size+1+1,1,none⟩) O (D x);obtain⟨q0,q1⟩:=bb.cp;obtain⟨f0,f1⟩:=bb.fp;have h8:=k 8 O;clear hV;clear k A;refine EA ?_;exact⟨S,J (λ_ h=>by simp[h8]at h),J (λ_ h=>by simp[h8]at h),U,W,g5,J (λ_ h=>by simp[h8]at h),J λ_=>⟨_,_,_,rfl,rfl⟩,J λ_=>⟨V0,j,l,c5,x,d,g,f,rfl,rfl,h5,h6,hq,λh=>by simp at h,λ_=>rfl⟩,J λh=>by simp[h8]at h⟩
    case fin=>
     rintro c a2 V ah ⟨bf,bg,am,bh,bi,bj,af,bk,rfl,S,T,g2,U,W,g5,R,g7,g8,Q⟩;obtain⟨V0,j,l,c5,x,d,g,f,e5,e6,h5,h6,hq,_,hV⟩:=g8.o (ah 8 DQ);obtain rfl:=hV (ah 9 DQ);clear S T g2 U W g5 R g7 g8 Q ah hV e5 e6 Ub Qz;go_wp2_with fail
     have Qb:=p4.below hq;have Qd:=p5.below hq;obtain⟨z4,z5⟩:=L7 (C j l c5) (D x) (C d g f) (D false) Qb Qd;obtain⟨Qu,Qr⟩:=z4.cp;obtain⟨Qm,Qp⟩:=z5.cp;have Qe:Jn ((V0.setCell ⟨w.heap.size+1+1,0,none⟩ (C j l c5)).setCell ⟨w.heap.size+1+1,1,none⟩ (D x)) (w.heap.size+1+1+1) 83 (C none 0 0) (D false):=(Qd.far O _).far O _;have Qc:=I9 h6;rw[Qw.o]at Qc;have Qn:=(h5.box Qb rfl rfl (x0:=C j l c5) (x1:=D x)).box Qe rfl rfl (x0:=C d g f) (x1:=D false);have Qo:=(Qc.box Qb rfl rfl (x0:=C j l c5) (x1:=D x)).box Qe rfl rfl (x0:=C d g f) (x1:=D false);have Qv:=Bt Qh hq;exact BA (v:=.tuple #[B #[C j l c5,D x],B #[C d g f,D false]]) (by simp[results,Tryz.results111,go_sem,Qu,Qr,Qm,Qp]) rfl ⟨_,_,rfl,Qn,Qo,(((Qv.setCell (p:=⟨_,0,none⟩) so _).setCell (p:=⟨_,1,none⟩) so _).setCell (p:=⟨_,0,none⟩) so _).setCell (p:=⟨_,1,none⟩) so _⟩
theorem MP(j k:H)(x y:Int)(w:F)(l:Js w j x)(m:Js w k y)(i:y≠0)(n:EU x<=100000000)(p:EU y<=100000000):
 Calls G 111 #[j,k] w λe d=>∃q o,e=.returned (.tuple #[q,o])/\Js d q (x/y)/\Js d o (x%y)/\Bl w d:=by
 obtain⟨a,la,ca,rfl,f⟩:=l;obtain⟨b,lb,cb,rfl,g⟩:=m;refine aO a la ca b lb cb x.natAbs y.natAbs _ _ (x/y) (x%y) w f g Y (by rw[RN.len f];exact n) (by rw[RN.len g];exact p) (λc=>QW i λh=>c ⟨BK h.1,h.2⟩) λc=>QX i ⟨Bf c.1,c.2⟩
theorem aQ(p:H)(x:Int)(w:F)(r:Js w p x):
 Calls G 73 #[p] w λe s=>e=.returned (.int .i64 x.sign)/\Bl w s:=by
 obtain⟨a,la,ca,rfl,i⟩:=r;have j:=RN.len i;have t:=(Ju i).2.2.2.1;have f:Bl w (w.alloc (E #[C a la ca,D (decide (x<0))] 83)):=Ba w _;have b0:=Jn.new w 83 (C a la ca) (D (decide (x<0)));have l:la=0↔x=0:=by
  rw[j];constructor
  . intro h;have:=(JC (B:=10000) Y).1 (Ap h);omega
  . intro h;rw[h,Int.natAbs_zero,Jz];rfl
 have m:=J l;obtain⟨W0,g⟩:=ex (w.alloc (E #[C a la ca,D (decide (x<0))] 83));rw[g]at f b0;have c:=J g;obtain⟨u,o⟩:=b0.cp;by_cases k:x<0
 . have d:decide (x<0)=true:=BK k;rw[d]at c o ⊢;have b:=J (Int.sign_eq_neg_one_of_neg k);clear j l g i d b0;go_enter Tryz.func73,Tryz.ntmps73
   go_upto_region 1 with fail
   rw[c.o];go_wp2_with fail
   go_ret;exact⟨by rw[b.o];rfl,f⟩
 . have d:decide (x<0)=false:=BI k;rw[d]at c o ⊢;clear j l g i d b0;rcases AY la with n|n
   . subst n;have b:=J (show x.sign=0 by rw[m.o.1 rfl];rfl);go_enter Tryz.func73,Tryz.ntmps73
     go_upto_region 1 with fail
     rw[c.o];go_wp2_with fail
     go_ret;refine⟨?_,f⟩;rw[b.o];first|rfl|(simp;done)
   . have b:=J (show x.sign=1 from Int.sign_eq_one_of_pos (by
      have:=m.o;rcases FH x 0 with h|h|h
      . omega
      . have:=this.2 h;omega
      . exact h))
     have q:min (1:Int) (la:Int)=1:=Y
     go_enter Tryz.func73,Tryz.ntmps73
     go_upto_region 1 with fail
     rw[c.o];go_wp2_with fail
     go_ret;refine⟨?_,f⟩;rw[b.o];first|rfl|(simp[q];done)
theorem RT{x y:Int}(a:y≠0):(0:Int)<(Int.gcd x y:Nat):=by
 have:=Int.gcd_pos_of_ne_zero_right x a;omega
theorem Jr.mk{t:Bool}{b:Option Addr}{d:Nat}{q:Rat}(e:Js W (B #[C a l c,D s]) q.num)(f:Js W (B #[C b k d,D t]) (q.den:Int)):Jr W (B #[C a l c,D s,C b k d,D t]) q:=⟨_,_,_,_,_,_,_,_,rfl,e,f⟩
theorem Js.sign{z:Int}(h:Js W (B #[C a l c,D s]) z):s=decide (z<0):=by
 obtain⟨a',l',c',e,_⟩:=h;cases e;rfl
theorem KF(va vb:H)(x y:Int)(w:F)(ha:Js w va x)(f:Js w vb y)(hy:y≠0)(cn:DY x)(co:DY y):
 Calls G 80 #[va,vb] w λe w'=>∃u,e=.returned u/\Jr w' u (Rat.divInt x y)/\Bl w w':=by
 obtain⟨bk,ef,cj,fg,rfl⟩:=Js.form2 ha;obtain⟨bm,eh,ck,fh,rfl⟩:=Js.form2 f;have q:=((((Mem.nil w).push (.big x) ha).push (.big y) (Has.alloc (d:=.big y) f _)).push .zref rfl);simp only[A1]at q;have q:Mem w (((w.alloc (E #[C bk ef cj,D fg] 83)).alloc (E #[C bm eh ck,D fh] 83)).alloc (E #[C none 0 0,D false,C none 0 0,D false] 85)) [some (w.heap.size,.big x),some (w.heap.size+1,.big y),some (w.heap.size+1+1,.zref)]:=q;obtain⟨W0,am⟩:=ex (((w.alloc (E #[C bk ef cj,D fg] 83)).alloc (E #[C bm eh ck,D fh] 83)).alloc (E #[C none 0 0,D false,C none 0 0,D false] 85));have Ud:=J am;rw[am]at q;have M1:Hid (Mem w W0 [some (w.heap.size,.big x),some (w.heap.size+1,.big y),some (w.heap.size+1+1,.zref)]):=J q;obtain⟨r,Qa,Qb⟩:=Dk hy cn co;clear q am ha f hy cn co;go_enter Tryz.func80,Tryz.ntmps80
 go_upto_region 1 with fail
 rw[Ud.o];clear Ud;obtain⟨a1,l1,c1,s1,n1,i1⟩:=M1.o.big (i:=0) rfl;obtain⟨Ui,Uk⟩:=n1.cp;obtain⟨a2,l2,c2,s2,n2,i2⟩:=M1.o.big (i:=1) rfl;obtain⟨Uj,Ug⟩:=n2.cp;go_upto_region 2 with(go_at_call 109;refine(aL _ _ x y _ i1 i2 (by have:=Qa.o.size;omega) (by have:=Qb.o.size;omega)).mono ?_;rintro e w1 ⟨u,rfl,hu,f⟩;obtain⟨bj,ed,ci,ff,rfl⟩:=Js.form2 hu)
 obtain⟨V3,b⟩:=ex (w1.alloc (E #[C bj ed ci,D ff] 83));obtain⟨g,c⟩:=ex (w1.heap.size);have a:Mem w (w1.alloc (E #[C bj ed ci,D ff] 83)) [some (w.heap.size,.big x),some (w.heap.size+1,.big y),some (w.heap.size+1+1,.zref),some (w1.heap.size,.big (((Int.gcd x y:Nat):Int)))]:=Mem.push (M1.o.below f) (.big (((Int.gcd x y:Nat):Int))) hu;rw[b,c]at a;rw[b];rw[c];have p:Hid (Mem w V3 [some (w.heap.size,.big x),some (w.heap.size+1,.big y),some (w.heap.size+1+1,.zref),some (g,.big (((Int.gcd x y:Nat):Int)))]):=J (a);clear M1;clear a b c;clear n1 Ui Uk i1 n2 Uj Ug i2 hu f;have HG:=J (DY.gcd Qa.o Qb.o);by_cases s:y<0
 . have HL:=J s;obtain⟨a4,l4,c4,s4,n4,i4⟩:=p.o.big (i:=1) rfl;have Uf:=n4.c1;have hs:=Js.sign i4;rw[BK s]at hs;subst hs;clear s;go_upto_region 3 with fail
   clear n4 Uf i4;obtain⟨a5,l5,c5,s5,n5,i5⟩:=p.o.big (i:=3) rfl;obtain⟨Ub,Uc⟩:=n5.cp;go_upto_region 4 with(go_at_call 110;refine(PL _ (((Int.gcd x y:Nat):Int)) _ i5).mono ?_;rintro e w6 ⟨u6,rfl,an,aj⟩;obtain⟨bn,ei,cl,fi,rfl⟩:=Js.form2 an;obtain⟨Ub,Uc⟩:=(n5.below aj).cp;obtain⟨Um,Un⟩:=(n5.below aj).fp)
   obtain⟨V6,b⟩:=ex ((w6.setCell ⟨g,0,none⟩ (C bn ei cl)).setCell ⟨g,1,none⟩ (D fi));have a:Mem w ((w6.setCell ⟨g,0,none⟩ (C bn ei cl)).setCell ⟨g,1,none⟩ (D fi)) [some (w.heap.size,.big x),some (w.heap.size+1,.big y),some (w.heap.size+1+1,.zref),some (g,.big (-((Int.gcd x y:Nat):Int)))]:=Mem.putBig (p.o.below aj) (i:=3) rfl an;rw[b]at a;rw[b];have M3:Hid (Mem w V6 [some (w.heap.size,.big x),some (w.heap.size+1,.big y),some (w.heap.size+1+1,.zref),some (g,.big (-((Int.gcd x y:Nat):Int)))]):=J (a);clear p;clear a b;clear n5 Ub Uc i5 an aj Um Un;obtain⟨K,t,A⟩:=Dk (show(-((Int.gcd x y:Nat):Int))≠0 by have:=RT (x:=x) r.o;omega) (show(-((Int.gcd x y:Nat):Int))=(if y<0 then -((Int.gcd x y:Nat):Int)else((Int.gcd x y:Nat):Int))by rw[BG HL.o]) HG.o.neg;obtain⟨a7,l7,c7,s7,n7,i7⟩:=M3.o.big (i:=0) rfl;obtain⟨Ue,Uo⟩:=n7.cp;obtain⟨a8,l8,c8,s8,n8,i8⟩:=M3.o.big (i:=3) rfl;obtain⟨Uh,Ul⟩:=n8.cp;go_upto_region 5 with(go_at_call 111;refine(MP _ _ x ((-((Int.gcd x y:Nat):Int))) _ i7 i8 K.o (by have:=Qa.o.size;omega) (by have:=A.o.size;omega)).mono ?_;rintro e m ⟨u1,u2,rfl,j,k,f⟩;obtain⟨L,U,Q,ad,rfl⟩:=Js.form2 j;obtain⟨M,V,R,ae,rfl⟩:=Js.form2 k)
   have a:=Mem.push (Mem.push (M3.o.below f) (.big (x/(-((Int.gcd x y:Nat):Int)))) j) (.big (x%(-((Int.gcd x y:Nat):Int)))) (Has.alloc (d:=.big (x%(-((Int.gcd x y:Nat):Int)))) k _);simp only[A1]at a;have a:Mem w ((m.alloc (E #[C L U Q,D ad] 83)).alloc (E #[C M V R,D ae] 83)) [some (w.heap.size,.big x),some (w.heap.size+1,.big y),some (w.heap.size+1+1,.zref),some (g,.big (-((Int.gcd x y:Nat):Int))),some (m.heap.size,.big (x/(-((Int.gcd x y:Nat):Int)))),some (m.heap.size+1,.big (x%(-((Int.gcd x y:Nat):Int))))]:=a;obtain⟨fl,b⟩:=ex ((m.alloc (E #[C L U Q,D ad] 83)).alloc (E #[C M V R,D ae] 83));obtain⟨B9,c⟩:=ex (m.heap.size);rw[b,c]at a;rw[b];rw[c];obtain⟨B10,l⟩:=ex (B9+1);rw[l]at a ⊢;have o:Hid (Mem w fl [some (w.heap.size,.big x),some (w.heap.size+1,.big y),some (w.heap.size+1+1,.zref),some (g,.big (-((Int.gcd x y:Nat):Int))),some (B9,.big (x/(-((Int.gcd x y:Nat):Int)))),some (B10,.big (x%(-((Int.gcd x y:Nat):Int))))]):=J (a);clear M3;clear a b c l;clear n7 Ue Uo i7 n8 Uh Ul i8 j k f;obtain⟨fy,iu,gk,jc,et,ct⟩:=o.o.big (i:=1) rfl;obtain⟨Qr,Qk⟩:=et.cp;obtain⟨ga,iw,gl,jd,ew,de⟩:=o.o.big (i:=3) rfl;obtain⟨Ua,Qy⟩:=ew.cp;go_upto_region 6 with(go_at_call 111;refine(MP _ _ y ((-((Int.gcd x y:Nat):Int))) _ ct de K.o (by have:=Qb.o.size;omega) (by have:=A.o.size;omega)).mono ?_;rintro e n ⟨u1,u2,rfl,j,k,f⟩;obtain⟨N,W,S,af,rfl⟩:=Js.form2 j;obtain⟨P,X,T,ah,rfl⟩:=Js.form2 k)
   have a:=Mem.push (Mem.push (o.o.below f) (.big (y/(-((Int.gcd x y:Nat):Int)))) j) (.big (y%(-((Int.gcd x y:Nat):Int)))) (Has.alloc (d:=.big (y%(-((Int.gcd x y:Nat):Int)))) k _);simp only[A1]at a;have a:Mem w ((n.alloc (E #[C N W S,D af] 83)).alloc (E #[C P X T,D ah] 83)) [some (w.heap.size,.big x),some (w.heap.size+1,.big y),some (w.heap.size+1+1,.zref),some (g,.big (-((Int.gcd x y:Nat):Int))),some (B9,.big (x/(-((Int.gcd x y:Nat):Int)))),some (B10,.big (x%(-((Int.gcd x y:Nat):Int)))),some (n.heap.size,.big (y/(-((Int.gcd x y:Nat):Int)))),some (n.heap.size+1,.big (y%(-((Int.gcd x y:Nat):Int))))]:=a;obtain⟨az,b⟩:=ex ((n.alloc (E #[C N W S,D af] 83)).alloc (E #[C P X T,D ah] 83));obtain⟨aw,c⟩:=ex (n.heap.size);rw[b,c]at a;rw[b];rw[c];obtain⟨fj,l⟩:=ex (aw+1);rw[l]at a ⊢;have z:Hid (Mem w az [some (w.heap.size,.big x),some (w.heap.size+1,.big y),some (w.heap.size+1+1,.zref),some (g,.big (-((Int.gcd x y:Nat):Int))),some (B9,.big (x/(-((Int.gcd x y:Nat):Int)))),some (B10,.big (x%(-((Int.gcd x y:Nat):Int)))),some (aw,.big (y/(-((Int.gcd x y:Nat):Int)))),some (fj,.big (y%(-((Int.gcd x y:Nat):Int))))]):=J (a);clear o;clear a b c l;clear et Qr Qk ct ew Ua Qy de j k f;obtain⟨bf,du,bt,fb,fu,fo⟩:=z.o.big (i:=4) rfl;obtain⟨gv,gw⟩:=fu.cp;obtain⟨bg,dw,bu,fc,fv,fr⟩:=z.o.big (i:=6) rfl;obtain⟨gy,gz⟩:=fv.cp;have ap:=z.o.zref (i:=2) rfl;obtain⟨Qw,Qp,Qg,Qj⟩:=ap.cq;obtain⟨ig,ii,ij,ik⟩:=ap.fq;have hr:Jr az (B #[C bf du bt,D fb,C bg dw bu,D fc]) (Rat.divInt x y):=Jr.mk (by rw[Lm r.o,<-t.o];exact fo) (by rw[Lo r.o,<-t.o];exact fr);have Qf:=z.o.ge 2 rfl;have hB:=z.o.2.2;go_wp2_with fail
   exact BA (v:=B #[C bf du bt,D fb,C bg dw bu,D fc]) (by simp[results,Tryz.results80,go_sem,Qw,Qp,Qg,Qj]) rfl ⟨_,rfl,hr.put4 ap rfl rfl rfl rfl _ _ _ _,Jt hB Qf _ _ _ _⟩
 . have HL:=J s;obtain⟨gb,ix,gn,je,f6,dh⟩:=p.o.big (i:=1) rfl;have Qu:=f6.c1;have hs:=Js.sign dh;rw[BI s]at hs;subst hs;clear s;go_upto_region 4 with fail
   clear f6 Qu dh;obtain⟨K,t,A⟩:=Dk (show((Int.gcd x y:Nat):Int)≠0 by have:=RT (x:=x) r.o;omega) (show((Int.gcd x y:Nat):Int)=(if y<0 then -((Int.gcd x y:Nat):Int)else((Int.gcd x y:Nat):Int))by rw[BC (by have:=HL.o;omega)]) HG.o;obtain⟨gg,iy,go,jf,f7,di⟩:=p.o.big (i:=0) rfl;obtain⟨Qh,Qz⟩:=f7.cp;obtain⟨gh,iz,gp,jg,f8,dj⟩:=p.o.big (i:=3) rfl;obtain⟨Qt,Qo⟩:=f8.cp;go_upto_region 5 with(go_at_call 111;refine(MP _ _ x (((Int.gcd x y:Nat):Int)) _ di dj K.o (by have:=Qa.o.size;omega) (by have:=A.o.size;omega)).mono ?_;rintro e m ⟨u1,u2,rfl,j,k,f⟩;obtain⟨L,U,Q,ad,rfl⟩:=Js.form2 j;obtain⟨M,V,R,ae,rfl⟩:=Js.form2 k)
   have a:=Mem.push (Mem.push (p.o.below f) (.big (x/((Int.gcd x y:Nat):Int))) j) (.big (x%((Int.gcd x y:Nat):Int))) (Has.alloc (d:=.big (x%((Int.gcd x y:Nat):Int))) k _);simp only[A1]at a;have a:Mem w ((m.alloc (E #[C L U Q,D ad] 83)).alloc (E #[C M V R,D ae] 83)) [some (w.heap.size,.big x),some (w.heap.size+1,.big y),some (w.heap.size+1+1,.zref),some (g,.big (((Int.gcd x y:Nat):Int))),some (m.heap.size,.big (x/((Int.gcd x y:Nat):Int))),some (m.heap.size+1,.big (x%((Int.gcd x y:Nat):Int)))]:=a;obtain⟨fm,b⟩:=ex ((m.alloc (E #[C L U Q,D ad] 83)).alloc (E #[C M V R,D ae] 83));obtain⟨ai,c⟩:=ex (m.heap.size);rw[b,c]at a;rw[b];rw[c];obtain⟨ak,l⟩:=ex (ai+1);rw[l]at a ⊢;have M3:Hid (Mem w fm [some (w.heap.size,.big x),some (w.heap.size+1,.big y),some (w.heap.size+1+1,.zref),some (g,.big (((Int.gcd x y:Nat):Int))),some (ai,.big (x/((Int.gcd x y:Nat):Int))),some (ak,.big (x%((Int.gcd x y:Nat):Int)))]):=J (a);clear p;clear a b c l;clear f7 Qh Qz di f8 Qt Qo dj j k f;obtain⟨gi,ja,gr,jh,f9,dp⟩:=M3.o.big (i:=1) rfl;obtain⟨Qn,Qq⟩:=f9.cp;obtain⟨gj,jb,gu,ji,fa,dt⟩:=M3.o.big (i:=3) rfl;obtain⟨Qx,Qs⟩:=fa.cp;go_upto_region 6 with(go_at_call 111;refine(MP _ _ y (((Int.gcd x y:Nat):Int)) _ dp dt K.o (by have:=Qb.o.size;omega) (by have:=A.o.size;omega)).mono ?_;rintro e n ⟨u1,u2,rfl,j,k,f⟩;obtain⟨N,W,S,af,rfl⟩:=Js.form2 j;obtain⟨P,X,T,ah,rfl⟩:=Js.form2 k)
   have a:=Mem.push (Mem.push (M3.o.below f) (.big (y/((Int.gcd x y:Nat):Int))) j) (.big (y%((Int.gcd x y:Nat):Int))) (Has.alloc (d:=.big (y%((Int.gcd x y:Nat):Int))) k _);simp only[A1]at a;have a:Mem w ((n.alloc (E #[C N W S,D af] 83)).alloc (E #[C P X T,D ah] 83)) [some (w.heap.size,.big x),some (w.heap.size+1,.big y),some (w.heap.size+1+1,.zref),some (g,.big (((Int.gcd x y:Nat):Int))),some (ai,.big (x/((Int.gcd x y:Nat):Int))),some (ak,.big (x%((Int.gcd x y:Nat):Int))),some (n.heap.size,.big (y/((Int.gcd x y:Nat):Int))),some (n.heap.size+1,.big (y%((Int.gcd x y:Nat):Int)))]:=a;obtain⟨bc,b⟩:=ex ((n.alloc (E #[C N W S,D af] 83)).alloc (E #[C P X T,D ah] 83));obtain⟨ay,c⟩:=ex (n.heap.size);rw[b,c]at a;rw[b];rw[c];obtain⟨fk,l⟩:=ex (ay+1);rw[l]at a ⊢;have o:Hid (Mem w bc [some (w.heap.size,.big x),some (w.heap.size+1,.big y),some (w.heap.size+1+1,.zref),some (g,.big (((Int.gcd x y:Nat):Int))),some (ai,.big (x/((Int.gcd x y:Nat):Int))),some (ak,.big (x%((Int.gcd x y:Nat):Int))),some (ay,.big (y/((Int.gcd x y:Nat):Int))),some (fk,.big (y%((Int.gcd x y:Nat):Int)))]):=J (a);clear M3;clear a b c l;clear f9 Qn Qq dp fa Qx Qs dt j k f;obtain⟨bh,dx,ce,fd,fw,fs⟩:=o.o.big (i:=4) rfl;obtain⟨ia,ib⟩:=fw.cp;obtain⟨bi,dz,cg,fe,fx,ft⟩:=o.o.big (i:=6) rfl;obtain⟨ic,ie⟩:=fx.cp;have aq:=o.o.zref (i:=2) rfl;obtain⟨Qv,Ql,Qi,Qm⟩:=aq.cq;obtain⟨il,im,io,ir⟩:=aq.fq;have hr:Jr bc (B #[C bh dx ce,D fd,C bi dz cg,D fe]) (Rat.divInt x y):=Jr.mk (by rw[Lm r.o,<-t.o];exact fs) (by rw[Lo r.o,<-t.o];exact ft);have Qf:=o.o.ge 2 rfl;have hB:=o.o.2.2;go_wp2_with fail
   exact BA (v:=B #[C bh dx ce,D fd,C bi dz cg,D fe]) (by simp[results,Tryz.results80,go_sem,Qv,Ql,Qi,Qm]) rfl ⟨_,rfl,hr.put4 aq rfl rfl rfl rfl _ _ _ _,Jt hB Qf _ _ _ _⟩
theorem RU(va vb:H)(p q:Rat)(w:F)(ha:Jr w va p)(hb:Jr w vb q)(ay:Sq p)(az:Sq q):
 Calls G 43 #[va,vb] w λe c=>∃u,e=.returned u/\Jr c u (p+q)/\Bl w c:=by
 obtain⟨af,bg,ak,bi,ai,bc,an,bk,rfl⟩:=Jr.form ha;obtain⟨ah,bh,am,bj,aj,bf,ap,bm,rfl⟩:=Jr.form hb;have m:=((((Mem.nil w).push (.ref p) ha).push (.ref q) (Has.alloc (d:=.ref q) hb _)).push .zref rfl);simp only[A1]at m;have m:Mem w (((w.alloc (E #[C af bg ak,D bi,C ai bc an,D bk] 85)).alloc (E #[C ah bh am,D bj,C aj bf ap,D bm] 85)).alloc (E #[C none 0 0,D false,C none 0 0,D false] 85)) [some (w.heap.size,.ref p),some (w.heap.size+1,.ref q),some (w.heap.size+1+1,.zref)]:=m;obtain⟨W0,ad⟩:=ex (((w.alloc (E #[C af bg ak,D bi,C ai bc an,D bk] 85)).alloc (E #[C ah bh am,D bj,C aj bf ap,D bm] 85)).alloc (E #[C none 0 0,D false,C none 0 0,D false] 85));have Qu:=J ad;rw[ad]at m;have g:Hid (Mem w W0 [some (w.heap.size,.ref p),some (w.heap.size+1,.ref q),some (w.heap.size+1+1,.zref)]):=J m;have j:=J ay;have k:=J az;clear m ad ha hb ay az;go_enter Tryz.func43,Tryz.ntmps43
 go_upto_region 1 with fail
 rw[Qu.o];clear Qu;obtain⟨a1,l1,c1,s1,b1,k1,d1,t1,N,r1,i1,j1⟩:=g.o.ref (i:=0) rfl;obtain⟨r,t,y,A⟩:=N.cq;obtain⟨a2,l2,c2,s2,b2,k2,d2,t2,P,r2,i2,j2⟩:=g.o.ref (i:=1) rfl;obtain⟨s,o,n,L⟩:=P.cq;have a:=g.o.zref (i:=2) rfl;obtain⟨z,x,M,K⟩:=a.cq;obtain⟨U,T,S,Q⟩:=a.fq;obtain⟨H4,H9,Qx,Qv,Qw⟩:=GY (λ(V:F) (h:Bl W0 V)=>XZ _ _ (p.num) ((q.den:Int)) V (i1.below h) (j2.below h) (by have:=j.o.num.size;omega) (by have:=k.o.den.size;omega)) (λ(V:F) (h:Bl W0 V)=>XZ _ _ (q.num) ((p.den:Int)) V (i2.below h) (j1.below h) (by have:=k.o.num.size;omega) (by have:=j.o.den.size;omega)) (λ(V:F) (h:Bl W0 V) (v4:H) (b:Js V v4 (p.num*(q.den:Int))) (v9:H) (f:Js V v9 (q.num*(p.den:Int)))=>NP _ _ (p.num*(q.den:Int)) (q.num*(p.den:Int)) V b f (by have:=(j.o.cross k.o).size;omega) (by have:=(k.o.cross j.o).size;omega)) (λ(V:F) (h:Bl W0 V)=>XZ _ _ ((p.den:Int)) ((q.den:Int)) V (j1.below h) (j2.below h) (by have:=j.o.den.size;omega) (by have:=k.o.den.size;omega)) λ(V:F) (h:Bl W0 V) (bn:H) (l:Js V bn (p.num*(q.den:Int)+q.num*(p.den:Int))) (bt:H) (R:Js V bt ((p.den:Int)*(q.den:Int)))=>(by have h:=KF _ _ (p.num*(q.den:Int)+q.num*(p.den:Int)) ((p.den:Int)*(q.den:Int)) V l R (Co (by have:=p.den_nz;omega) (by have:=q.den_nz;omega)) (j.o.sumN k.o) (j.o.mulD k.o);rw[PR]at h;exact h);have ct:w.heap.size≠w.heap.size+1+1:=g.o.ne 0 2 rfl rfl DQ;have de:w.heap.size+1≠w.heap.size+1+1:=g.o.ne 1 2 rfl rfl DQ;have hq:Bl W0 W0.drew:=(BB _ W0).drew;go_region_held3 (λc=>c.cell? ⟨w.heap.size,0,none⟩=some (C a1 l1 c1)/\c.cell? ⟨w.heap.size,1,none⟩=some (D s1)/\c.cell? ⟨w.heap.size,2,none⟩=some (C b1 k1 d1)/\c.cell? ⟨w.heap.size,3,none⟩=some (D t1)/\c.cell? ⟨w.heap.size+1,0,none⟩=some (C a2 l2 c2)/\c.cell? ⟨w.heap.size+1,1,none⟩=some (D s2)/\c.cell? ⟨w.heap.size+1,2,none⟩=some (C b2 k2 d2)/\c.cell? ⟨w.heap.size+1,3,none⟩=some (D t2)) (first|(with_reducible exact⟨r,t,y,A,s,o,n,L⟩)|(go_keep;done)|(refine⟨?_,?_,?_,?_,?_,?_,?_,?_⟩<;>((repeat rw[JH Y]);first|assumption|(go_keep;done))))
  (first
   |(go_at_call 82;refine(H4.o _ hq ).mono ?_;clear H4;rintro e w4 ⟨v4,rfl,b,cj⟩;have hq:=Bt hq cj;obtain⟨r,t,y,A⟩:=(N.below hq).cq;obtain⟨s,o,n,L⟩:=(P.below hq).cq;obtain⟨z,x,M,K⟩:=(a.below hq).cq;obtain⟨U,T,S,Q⟩:=(a.below hq).fq)
   |(go_at_call 82;refine(H9.o _ hq ).mono ?_;clear H9;rintro e w9 ⟨v9,rfl,f,aw⟩;have b:=b.below aw;have hq:=Bt hq aw;obtain⟨r,t,y,A⟩:=(N.below hq).cq;obtain⟨s,o,n,L⟩:=(P.below hq).cq;obtain⟨z,x,M,K⟩:=(a.below hq).cq;obtain⟨U,T,S,Q⟩:=(a.below hq).fq)
   |(go_at_call 81;refine(Qx.o _ hq _ b _ f).mono ?_;clear Qx;rintro e di ⟨bn,rfl,l,ae⟩;have b:=b.below ae;have f:=f.below ae;have hq:=Bt hq ae;obtain⟨r,t,y,A⟩:=(N.below hq).cq;obtain⟨s,o,n,L⟩:=(P.below hq).cq;obtain⟨z,x,M,K⟩:=(a.below hq).cq;obtain⟨U,T,S,Q⟩:=(a.below hq).fq)
   |(go_at_call 82;refine(Qv.o _ hq ).mono ?_;clear Qv;rintro e dj ⟨bt,rfl,R,X⟩;have b:=b.below X;have f:=f.below X;have l:=l.below X;have hq:=Bt hq X;obtain⟨r,t,y,A⟩:=(N.below hq).cq;obtain⟨s,o,n,L⟩:=(P.below hq).cq;obtain⟨z,x,M,K⟩:=(a.below hq).cq;obtain⟨U,T,S,Q⟩:=(a.below hq).fq)
   |(go_at_call 80;refine(Qw.o _ hq _ l _ R).mono ?_;clear Qw;rintro e dp ⟨dh,rfl,aq,W⟩;obtain⟨bu,cl,cg,cn,ce,ck,ci,co,rfl⟩:=Jr.form aq;have b:=b.below W;have f:=f.below W;have l:=l.below W;have R:=R.below W;have hq:=Bt hq W;obtain⟨r,t,y,A⟩:=(N.below hq).cq;obtain⟨s,o,n,L⟩:=(P.below hq).cq;obtain⟨z,x,M,K⟩:=(a.below hq).cq;obtain⟨U,T,S,Q⟩:=(a.below hq).fq))
 all_goals go_wp2_with fail
 have Qz:=Bt g.o.2.2 hq;have Qy:=g.o.ge 2 rfl;exact BA (v:=B #[C bu cl cg,D cn,C ce ck ci,D co]) (by simp[results,Tryz.results43,go_sem,z,x,M,K]) rfl ⟨_,rfl,aq.put4 (a.below hq) rfl rfl rfl rfl _ _ _ _,Jt Qz Qy _ _ _ _⟩
theorem OJ(va vb:H)(p q:Rat)(w:F)(U:Jr w va p)(W:Jr w vb q)(aq:Sq p)(aw:Sq q):
 Calls G 44 #[va,vb] w λe a=>∃u,e=.returned u/\Jr a u (p*q)/\Bl w a:=by
 obtain⟨ad,bc,ai,bg,af,ay,ak,bi,rfl⟩:=Jr.form U;obtain⟨ae,bf,aj,bh,ah,az,am,bj,rfl⟩:=Jr.form W;have g:=((((Mem.nil w).push (.ref p) U).push (.ref q) (Has.alloc (d:=.ref q) W _)).push .zref rfl);simp only[A1]at g;have g:Mem w (((w.alloc (E #[C ad bc ai,D bg,C af ay ak,D bi] 85)).alloc (E #[C ae bf aj,D bh,C ah az am,D bj] 85)).alloc (E #[C none 0 0,D false,C none 0 0,D false] 85)) [some (w.heap.size,.ref p),some (w.heap.size+1,.ref q),some (w.heap.size+1+1,.zref)]:=g;obtain⟨W0,T⟩:=ex (((w.alloc (E #[C ad bc ai,D bg,C af ay ak,D bi] 85)).alloc (E #[C ae bf aj,D bh,C ah az am,D bj] 85)).alloc (E #[C none 0 0,D false,C none 0 0,D false] 85));have Qs:=J T;rw[T]at g;have c:Hid (Mem w W0 [some (w.heap.size,.ref p),some (w.heap.size+1,.ref q),some (w.heap.size+1+1,.zref)]):=J g;have k:=J aq;have l:=J aw;clear g T U W aq aw;go_enter Tryz.func44,Tryz.ntmps44
 go_upto_region 1 with fail
 rw[Qs.o];clear Qs;obtain⟨a1,l1,c1,s1,b1,k1,d1,t1,M,r1,i1,j1⟩:=c.o.ref (i:=0) rfl;obtain⟨o,s,x,z⟩:=M.cq;obtain⟨a2,l2,c2,s2,b2,k2,d2,t2,N,r2,i2,j2⟩:=c.o.ref (i:=1) rfl;obtain⟨r,n,m,K⟩:=N.cq;have b:=c.o.zref (i:=2) rfl;obtain⟨y,t,L,A⟩:=b.cq;obtain⟨S,R,Q,P⟩:=b.fq;obtain⟨H4,H9,Qt⟩:=Dk (λ(V:F) (h:Bl W0 V)=>XZ _ _ (p.num) (q.num) V (i1.below h) (i2.below h) (by have:=k.o.num.size;omega) (by have:=l.o.num.size;omega)) (λ(V:F) (h:Bl W0 V)=>XZ _ _ ((p.den:Int)) ((q.den:Int)) V (j1.below h) (j2.below h) (by have:=k.o.den.size;omega) (by have:=l.o.den.size;omega)) λ(V:F) (h:Bl W0 V) (v4:H) (f:Js V v4 (p.num*q.num)) (v9:H) (j:Js V v9 ((p.den:Int)*(q.den:Int)))=>(by have h:=KF _ _ (p.num*q.num) ((p.den:Int)*(q.den:Int)) V f j (Co (by have:=p.den_nz;omega) (by have:=q.den_nz;omega)) (k.o.mulN l.o) (k.o.mulD l.o);rw[PQ]at h;exact h);have ck:w.heap.size≠w.heap.size+1+1:=c.o.ne 0 2 rfl rfl DQ;have cl:w.heap.size+1≠w.heap.size+1+1:=c.o.ne 1 2 rfl rfl DQ;have hq:Bl W0 W0.drew:=(BB _ W0).drew;go_region_held3 (λa=>a.cell? ⟨w.heap.size,0,none⟩=some (C a1 l1 c1)/\a.cell? ⟨w.heap.size,1,none⟩=some (D s1)/\a.cell? ⟨w.heap.size,2,none⟩=some (C b1 k1 d1)/\a.cell? ⟨w.heap.size,3,none⟩=some (D t1)/\a.cell? ⟨w.heap.size+1,0,none⟩=some (C a2 l2 c2)/\a.cell? ⟨w.heap.size+1,1,none⟩=some (D s2)/\a.cell? ⟨w.heap.size+1,2,none⟩=some (C b2 k2 d2)/\a.cell? ⟨w.heap.size+1,3,none⟩=some (D t2)) (first|(with_reducible exact⟨o,s,x,z,r,n,m,K⟩)|(go_keep;done)|(refine⟨?_,?_,?_,?_,?_,?_,?_,?_⟩<;>((repeat rw[JH Y]);first|assumption|(go_keep;done))))
  (first
   |(go_at_call 82;refine(H4.o _ hq ).mono ?_;clear H4;rintro e w4 ⟨v4,rfl,f,bu⟩;have hq:=Bt hq bu;obtain⟨o,s,x,z⟩:=(M.below hq).cq;obtain⟨r,n,m,K⟩:=(N.below hq).cq;obtain⟨y,t,L,A⟩:=(b.below hq).cq;obtain⟨S,R,Q,P⟩:=(b.below hq).fq)
   |(go_at_call 82;refine(H9.o _ hq ).mono ?_;clear H9;rintro e w9 ⟨v9,rfl,j,ap⟩;have f:=f.below ap;have hq:=Bt hq ap;obtain⟨o,s,x,z⟩:=(M.below hq).cq;obtain⟨r,n,m,K⟩:=(N.below hq).cq;obtain⟨y,t,L,A⟩:=(b.below hq).cq;obtain⟨S,R,Q,P⟩:=(b.below hq).fq)
   |(go_at_call 80;refine(Qt.o _ hq _ f _ j).mono ?_;clear Qt;rintro e co ⟨cn,rfl,an,X⟩;obtain⟨bk,cg,bn,ci,bm,ce,bt,cj,rfl⟩:=Jr.form an;have f:=f.below X;have j:=j.below X;have hq:=Bt hq X;obtain⟨o,s,x,z⟩:=(M.below hq).cq;obtain⟨r,n,m,K⟩:=(N.below hq).cq;obtain⟨y,t,L,A⟩:=(b.below hq).cq;obtain⟨S,R,Q,P⟩:=(b.below hq).fq))
 all_goals go_wp2_with fail
 have Qv:=Bt c.o.2.2 hq;have Qu:=c.o.ge 2 rfl;exact BA (v:=B #[C bk cg bn,D ci,C bm ce bt,D cj]) (by simp[results,Tryz.results44,go_sem,y,t,L,A]) rfl ⟨_,rfl,an.put4 (b.below hq) rfl rfl rfl rfl _ _ _ _,Jt Qv Qu _ _ _ _⟩
theorem RV(va vb:H)(p q:Rat)(w:F)(U:Jr w va p)(W:Jr w vb q)(aw:Sq p)(ay:Sq q)(aq:q≠0):
 Calls G 77 #[va,vb] w λe a=>∃u,e=.returned u/\Jr a u (p/q)/\Bl w a:=by
 obtain⟨ad,bf,ai,bh,af,az,ak,bj,rfl⟩:=Jr.form U;obtain⟨ae,bg,aj,bi,ah,bc,am,bk,rfl⟩:=Jr.form W;have g:=((((Mem.nil w).push (.ref p) U).push (.ref q) (Has.alloc (d:=.ref q) W _)).push .zref rfl);simp only[A1]at g;have g:Mem w (((w.alloc (E #[C ad bf ai,D bh,C af az ak,D bj] 85)).alloc (E #[C ae bg aj,D bi,C ah bc am,D bk] 85)).alloc (E #[C none 0 0,D false,C none 0 0,D false] 85)) [some (w.heap.size,.ref p),some (w.heap.size+1,.ref q),some (w.heap.size+1+1,.zref)]:=g;obtain⟨W0,T⟩:=ex (((w.alloc (E #[C ad bf ai,D bh,C af az ak,D bj] 85)).alloc (E #[C ae bg aj,D bi,C ah bc am,D bk] 85)).alloc (E #[C none 0 0,D false,C none 0 0,D false] 85));have Qt:=J T;rw[T]at g;have c:Hid (Mem w W0 [some (w.heap.size,.ref p),some (w.heap.size+1,.ref q),some (w.heap.size+1+1,.zref)]):=J g;obtain⟨k,l,Qo⟩:=Dk aw ay aq;clear g T U W aw ay aq;go_enter Tryz.func77,Tryz.ntmps77
 go_upto_region 1 with fail
 rw[Qt.o];clear Qt;obtain⟨a1,l1,c1,s1,b1,k1,d1,t1,M,r1,i1,j1⟩:=c.o.ref (i:=0) rfl;obtain⟨o,s,x,z⟩:=M.cq;obtain⟨a2,l2,c2,s2,b2,k2,d2,t2,N,r2,i2,j2⟩:=c.o.ref (i:=1) rfl;obtain⟨r,n,m,K⟩:=N.cq;have b:=c.o.zref (i:=2) rfl;obtain⟨y,t,L,A⟩:=b.cq;obtain⟨S,R,Q,P⟩:=b.fq;obtain⟨H4,H9,Qu⟩:=Dk (λ(V:F) (h:Bl W0 V)=>XZ _ _ (p.num) ((q.den:Int)) V (i1.below h) (j2.below h) (by have:=k.o.num.size;omega) (by have:=l.o.den.size;omega)) (λ(V:F) (h:Bl W0 V)=>XZ _ _ ((p.den:Int)) (q.num) V (j1.below h) (i2.below h) (by have:=k.o.den.size;omega) (by have:=l.o.num.size;omega)) λ(V:F) (h:Bl W0 V) (v4:H) (f:Js V v4 (p.num*(q.den:Int))) (v9:H) (j:Js V v9 ((p.den:Int)*q.num))=>(by have h:=KF _ _ (p.num*(q.den:Int)) ((p.den:Int)*q.num) V f j (Co (by have:=p.den_nz;omega) λh=>Qo.o (Fy.1 h)) (k.o.cross l.o) (k.o.cross2 l.o);rw[PP]at h;exact h);have cl:w.heap.size≠w.heap.size+1+1:=c.o.ne 0 2 rfl rfl DQ;have cn:w.heap.size+1≠w.heap.size+1+1:=c.o.ne 1 2 rfl rfl DQ;have hq:Bl W0 W0.drew:=(BB _ W0).drew;go_region_held3 (λa=>a.cell? ⟨w.heap.size,0,none⟩=some (C a1 l1 c1)/\a.cell? ⟨w.heap.size,1,none⟩=some (D s1)/\a.cell? ⟨w.heap.size,2,none⟩=some (C b1 k1 d1)/\a.cell? ⟨w.heap.size,3,none⟩=some (D t1)/\a.cell? ⟨w.heap.size+1,0,none⟩=some (C a2 l2 c2)/\a.cell? ⟨w.heap.size+1,1,none⟩=some (D s2)/\a.cell? ⟨w.heap.size+1,2,none⟩=some (C b2 k2 d2)/\a.cell? ⟨w.heap.size+1,3,none⟩=some (D t2)) (first|(with_reducible exact⟨o,s,x,z,r,n,m,K⟩)|(go_keep;done)|(refine⟨?_,?_,?_,?_,?_,?_,?_,?_⟩<;>((repeat rw[JH Y]);first|assumption|(go_keep;done))))
  (first
   |(go_at_call 82;refine(H4.o _ hq ).mono ?_;clear H4;rintro e w4 ⟨v4,rfl,f,ce⟩;have hq:=Bt hq ce;obtain⟨o,s,x,z⟩:=(M.below hq).cq;obtain⟨r,n,m,K⟩:=(N.below hq).cq;obtain⟨y,t,L,A⟩:=(b.below hq).cq;obtain⟨S,R,Q,P⟩:=(b.below hq).fq)
   |(go_at_call 82;refine(H9.o _ hq ).mono ?_;clear H9;rintro e w9 ⟨v9,rfl,j,ap⟩;have f:=f.below ap;have hq:=Bt hq ap;obtain⟨o,s,x,z⟩:=(M.below hq).cq;obtain⟨r,n,m,K⟩:=(N.below hq).cq;obtain⟨y,t,L,A⟩:=(b.below hq).cq;obtain⟨S,R,Q,P⟩:=(b.below hq).fq)
   |(go_at_call 80;refine(Qu.o _ hq _ f _ j).mono ?_;clear Qu;rintro e ct ⟨co,rfl,an,X⟩;obtain⟨bm,ci,bt,cj,bn,cg,bu,ck,rfl⟩:=Jr.form an;have f:=f.below X;have j:=j.below X;have hq:=Bt hq X;obtain⟨o,s,x,z⟩:=(M.below hq).cq;obtain⟨r,n,m,K⟩:=(N.below hq).cq;obtain⟨y,t,L,A⟩:=(b.below hq).cq;obtain⟨S,R,Q,P⟩:=(b.below hq).fq))
 all_goals go_wp2_with fail
 have Qw:=Bt c.o.2.2 hq;have Qv:=c.o.ge 2 rfl;exact BA (v:=B #[C bm ci bt,D cj,C bn cg bu,D ck]) (by simp[results,Tryz.results77,go_sem,y,t,L,A]) rfl ⟨_,rfl,an.put4 (b.below hq) rfl rfl rfl rfl _ _ _ _,Jt Qw Qv _ _ _ _⟩
theorem OK(u:H)(q:Rat)(w:F)(d:Jr w u q):
 Calls G 36 #[u] w λe z=>e=.returned (.int .i64 q.num.sign)/\Bl w z:=by
 obtain⟨n,f⟩:=ex (q.num.sign);rw[f];have v:=J f;clear f;obtain⟨k,r,m,s,l,p,o,t,rfl⟩:=Jr.form d;have a:=((Mem.nil w).push (.ref q) d);have a:Mem w (w.alloc (E #[C k r m,D s,C l p o,D t] 85)) [some (w.heap.size,.ref q)]:=a;obtain⟨W0,c⟩:=ex (w.alloc (E #[C k r m,D s,C l p o,D t] 85));have j:=J c;rw[c]at a;have g:Hid (Mem w W0 [some (w.heap.size,.ref q)]):=J a;clear a c d;go_enter Tryz.func36,Tryz.ntmps36
 go_upto_region 1 with fail
 rw[j.o];clear j;obtain⟨A,l1,c1,R,K,P,d1,S,y,Q,x,N⟩:=g.o.ref (i:=0) rfl;obtain⟨L,M⟩:=y.cp;have b:=J (aQ _ q.num W0 x);rw[v.o]at b;go_wp2_with(go_at_call 73;refine b.o.mono ?_;clear b;rintro e T ⟨rfl,hq⟩)
 go_ret;exact⟨rfl,Bt g.o.2.2 hq⟩
theorem Is(n:Int)(s:-9223372036854775808<=n)(t:n<=9223372036854775807)(w:F):
 Calls G 42 #[.int .i64 n] w λe N=>∃u,e=.returned u/\Jr N u (n:Rat)/\Bl w N:=by
 have f:=J λ(V:F)=>Hk n s t V;clear s t;have a:=((Mem.nil w).push .zref rfl);have a:Mem w (w.alloc (E #[C none 0 0,D false,C none 0 0,D false] 85)) [some (w.heap.size,.zref)]:=a;obtain⟨W0,d⟩:=ex (w.alloc (E #[C none 0 0,D false,C none 0 0,D false] 85));have j:=J d;rw[d]at a;have c:Hid (Mem w W0 [some (w.heap.size,.zref)]):=J a;clear a d;go_enter Tryz.func42,Tryz.ntmps42
 go_upto_region 1 with fail
 rw[j.o];clear j;have b:=c.o.zref (i:=0) rfl;obtain⟨m,g,k,l⟩:=b.cq;obtain⟨Q,R,T,S⟩:=b.fq;go_wp2_with(first
  |(go_at_call 79;refine(f.o _).mono ?_;clear f;rintro e w1 ⟨u1,rfl,y,W⟩;obtain⟨o,A,q,L,rfl⟩:=Js.form2 y)
  |(go_at_call 79;refine(Hk 1 Y Y _).mono ?_;rintro e w2 ⟨u2,rfl,z,x⟩;obtain⟨p,K,r,M,rfl⟩:=Js.form2 z;have hq:=Bt W x;obtain⟨m,g,k,l⟩:=(b.below hq).cq;obtain⟨Q,R,T,S⟩:=(b.below hq).fq))
 have X:Jr w2 (B #[C o A q,D L,C p K r,D M]) (n:Rat):=Jr.mk (y.below x) z;have U:=Bt c.o.2.2 hq;have P:=c.o.ge 0 rfl;exact BA (v:=B #[C o A q,D L,C p K r,D M]) (by simp[results,Tryz.results42,go_sem,m,g,k,l]) rfl ⟨_,rfl,X.put4 (b.below hq) rfl rfl rfl rfl _ _ _ _,Jt U P _ _ _ _⟩
theorem RowK.formsF{cap:Nat}(h:RowK false W (C a l cap) qs):l=qs.length/\l<=cap/\cap<=9223372036854775807/\l<=1099511627776/\∃(s t:Nat->Bool) (k m:Nat->Option Addr) (p n o dd:Nat->Nat),∀j,j<l->Jr W (B #[C (k j) (p j) (n j),D (s j),C (m j) (o j) (dd j),D (t j)]) (cf qs j)/\
 ∃b,a=some ⟨b,0,none⟩/\b<W.heap.size/\W.cell? ⟨b,j*4,none⟩=some (C (k j) (p j) (n j))/\W.cell? ⟨b,j*4+1,none⟩=some (D (s j))/\W.cell? ⟨b,j*4+2,none⟩=some (C (m j) (o j) (dd j))/\W.cell? ⟨b,j*4+3,none⟩=some (D (t j)):=by
 obtain⟨r,v,w,A,x,y,z,u,L⟩:=h.pick;refine⟨r,v,w,A,λj=>MF (y j),λj=>MF (u j),λj=>MG (x j),λj=>MG (z j),λj=>ID (x j),λj=>MH (x j),λj=>ID (z j),λj=>MH (z j),λj M=>?_⟩;obtain⟨i,b,q,K,c0,c1,c2,c3⟩:=L j M;obtain⟨a',l',c',s,N,Q,P,t,e,_⟩:=(show Jr W _ _ from i);simp only[Value.agg.injEq,FU,Fx,and_true]at e;obtain⟨c,d,f,g⟩:=e;rw[c,d,f,g]at i;rw[c]at c0;rw[d]at c1;rw[f]at c2;rw[g]at c3;dsimp only;rw[c,d,f,g];exact⟨i,b,q,K,c0,c1,c2,c3⟩
theorem aR(q:Rat):(q.num.sign==0)=decide (q=0):=by
 rw[Cq,beq_iff_eq,BR,Int.sign_eq_zero_iff_zero,Fy]
theorem RW{len:Nat}(hl:len=qs.length)(c:k<=len)(a:∀j,k<=j->cf qs j=0)(b:k=0\/cf qs (k-1)≠0):Jd qs=qs.take k/\(Jd qs).length=k:=by
 have e:=Ot (p:=qs) (n:=k) Y b a;exact⟨e,by rw[e,Al];omega⟩
theorem aS(a:Option Addr)(len cap:Nat)(qs:List Rat)(w:F)(h:RowK false w (C a len cap) qs):
 Calls G 45 #[C a len cap] w λe Q=>e=.returned (C a (Jd qs).length cap)/\RowK false Q (C a (Jd qs).length cap) (Jd qs)/\Bl w Q:=by
 obtain⟨hl,ad,ae,af,s,t,V,W,ll,X,kk,dd,A⟩:=h.formsF;obtain⟨o,R,x⟩:=Dk hl A h;clear A hl h;go_enter Tryz.func45,Tryz.ntmps45
 go_wp2;go_loopw [3] (λv wr=>∃k:Nat,k<=len/\v=.int .i64 (k:Int)/\Hid ((∀j,k<=j->cf qs j=0)/\Bl w wr)) λv _=>(intOf v).toNat
 case atStart=>exact⟨len,Aa _,rfl,J ⟨λj S=>J1 (by have:=o.o;omega),BB _ _⟩⟩
 case round=>
  obtain⟨k,hk,rfl,c⟩:=hrel;cases k with
  |zero=>
   go_wp2;go_ret;obtain⟨r,g⟩:=RW o.o (k:=0) (AK _) c.o.1 (Or.inl rfl);refine⟨by rw[g];rfl,?_,c.o.2⟩;rw[g,r];exact(x.o.below c.o.2).take Y
  |succ k=>
   obtain⟨K,b,rfl,l,L,M,N,P⟩:=R.o k Y;have d:=c.o.2;have y:=J (K.below d);replace L:=(d.cell (p:=⟨b,_,none⟩) l).trans L;replace M:=(d.cell (p:=⟨b,_,none⟩) l).trans M;replace N:=(d.cell (p:=⟨b,_,none⟩) l).trans N;replace P:=(d.cell (p:=⟨b,_,none⟩) l).trans P;have i:=J (OK _ _ wr y.o);have m:=aR (cf qs k);clear K d y;by_cases f:cf qs k=0
   . rw[show decide (cf qs k=0)=true from BK f]at m;have q:=J f;clear f;generalize (cf qs k).num.sign=n at i m;go_wp2_with(go_at_call 36;refine i.o.mono ?_;rintro e U ⟨rfl,u⟩)
     go_roundw
     case rel=>
      refine⟨k,Y,O,J ⟨λj S=>?_,Bt c.o.2 u⟩⟩;by_cases T:j=k
      . rw[T];exact q.o
      . exact c.o.1 j Y
     case measure=>simp[intOf]
   . rw[show decide (cf qs k=0)=false from BI f]at m;have q:=J f;clear f;generalize (cf qs k).num.sign=n at i m;go_wp2_with(go_at_call 36;refine i.o.mono ?_;rintro e U ⟨rfl,u⟩)
     go_ret;have z:=Bt c.o.2 u;obtain⟨r,g⟩:=RW o.o (k:=k+1) Y c.o.1 (Or.inr q.o);refine⟨by rw[g];rfl,?_,z⟩;rw[g,r];exact(x.o.below z).take Y
theorem KG(v:H)(qs:List Rat)(w:F)(h:RowK false w v qs):
 Calls G 45 #[v] w λe b=>∃u,e=.returned u/\RowK false b u (Jd qs)/\Bl w b:=by
 obtain⟨a,l,c,rfl⟩:=h.form;refine(aS a l c qs w h).mono ?_;rintro e b ⟨rfl,d,f⟩;exact⟨_,rfl,d,f⟩
theorem RX{B:Nat}(q:JL W B 85 (C none 0 0) (D false) (C none 0 0) (D false)){v:H}{p:Rat}(h:Jr W v p)(x y z u:H):Jr (put4 W B x y z u) v p:=h.put4 q rfl rfl rfl rfl _ _ _ _
theorem RY(v:H)(qs:List Rat)(i:Int)(w:F)(h:RowK false w v qs):
 Calls G 103 #[v,.int .i64 i] w λe X=>∃u,e=.returned u/\Jr X u (if i<0 then 0 else cf qs i.toNat)/\Bl w X:=by
 obtain⟨a,l,c,rfl⟩:=h.form;obtain⟨hl,ad,ae,af,s,t,aa,bb,ll,cc,kk,dd,T⟩:=h.formsF;have HL:=J hl;have o:=J T;clear hl T h;have n:Bl w (w.alloc (E #[C none 0 0,D false,C none 0 0,D false] 85)):=Ba w _;have b0:=JL.new w 85 (C none 0 0) (D false) (C none 0 0) (D false);have g:=J λ(V:F)=>Is 0 Y Y V;by_cases d:i<0\/(l:Int)<=i
 . have HZ:=J (show(if i<0 then(0:Rat)else cf qs i.toNat)=((0:Int):Rat)by
    rcases d with d|d
    . rw[BG d];rfl
    . rw[BC Y,J1 (by have:=HL.o;omega)];rfl)
   rw[HZ.o];obtain⟨W0,z⟩:=ex (w.alloc (E #[C none 0 0,D false,C none 0 0,D false] 85));rw[z]at n b0;have S:=J z;clear z o;rcases d with d|d
   . go_enter Tryz.func103,Tryz.ntmps103
     go_upto_region 1 with fail
     rw[S.o];go_wp2_with(go_at_call 42;refine(g.o _).mono ?_;clear g;rintro e w1 ⟨u,rfl,k,j⟩;have f:=b0.below j;obtain⟨A,K,L,M⟩:=f.cq;obtain⟨f0,f1,f2,f3⟩:=f.fq;obtain⟨p,P,r,Q,q,N,x,R,rfl⟩:=Jr.form k)
     exact BA (v:=B #[C p P r,D Q,C q N x,D R]) (by simp[results,Tryz.results103,go_sem,A,K,L,M]) rfl ⟨_,rfl,RX f k _ _ _ _,Jt (Bt n j) (Aa _) _ _ _ _⟩
   . have y:¬i<0:=Y
     go_enter Tryz.func103,Tryz.ntmps103
     go_upto_region 1 with fail
     rw[S.o];go_wp2_with(go_at_call 42;refine(g.o _).mono ?_;clear g;rintro e w1 ⟨u,rfl,k,j⟩;have f:=b0.below j;obtain⟨A,K,L,M⟩:=f.cq;obtain⟨f0,f1,f2,f3⟩:=f.fq;obtain⟨p,P,r,Q,q,N,x,R,rfl⟩:=Jr.form k)
     exact BA (v:=B #[C p P r,D Q,C q N x,D R]) (by simp[results,Tryz.results103,go_sem,A,K,L,M]) rfl ⟨_,rfl,RX f k _ _ _ _,Jt (Bt n j) (Aa _) _ _ _ _⟩
 . have y:¬i<0:=Y
   rw[BC y];obtain⟨m,rfl⟩:∃m:Nat,i=(m:Int):=⟨i.toNat,Y⟩;have hm:m<l:=Y
   obtain⟨U,b,rfl,hb,k0,W,k2,k3⟩:=o.o m hm;have HI:=J U;rw[Cy];clear o U y d g b0 n;generalize s m=s1 at *;generalize t m=t1 at *;generalize aa m=a1 at *;generalize bb m=b1 at *;generalize ll m=l1 at *;generalize cc m=c1 at *;generalize kk m=W at *;generalize dd m=d1 at *;go_enter Tryz.func103,Tryz.ntmps103
   go_wp2;exact BA (v:=B #[C a1 l1 c1,D s1,C b1 W d1,D t1]) (by simp[results,Tryz.results103,go_sem]) rfl ⟨_,rfl,HI.o.below (Ba w _),Ba w _⟩
def Xm(f:Nat->Rat)(k:Nat):List Rat:=(List.range k).map f
theorem JJ(f:Nat->Rat)(k:Nat):(Xm f k).length=k:=by simp[Xm]
theorem YU(f:Nat->Rat)(k:Nat):Xm f (k+1)=Xm f k++[f k]:=by simp[Xm,List.range_succ]
theorem K5(f:Nat->Rat)(k i:Nat):cf (Xm f k) i=if i<k then f i else 0:=LQ k f i
theorem IJ(va vb:H)(ps qs:List Rat)(w:F)(P:RowK false w va ps)(Q:RowK false w vb qs)(af:DZ ps)(ah:DZ qs)(ay:ps.length<1099511627776/\qs.length<1099511627776):
 Calls G 64 #[va,vb] w λe w'=>∃u,e=.returned u/\RowK false w' u (ES ps qs)/\Bl w w':=by
 obtain⟨a,la,ca,rfl⟩:=P.form;obtain⟨b,lb,cb,rfl⟩:=Q.form;obtain⟨ad,an,aq,bk,_⟩:=P.formsF;obtain⟨ae,ap,aw,bm,_⟩:=Q.formsF;obtain⟨n,hn⟩:=ex (max la lb:Nat);obtain⟨r,HA,HB,HP,HQ,Qm,Ql⟩:=Lt (show la<=n/\lb<=n/\n<1099511627776/\(∀k,k<n->k<la\/k<lb)from⟨Y,Y,Y,λk hk=>by omega⟩) P Q af ah ad ae;clear P Q af ah ad ae an aq ap aw hn ay;go_enter Tryz.func64,Tryz.ntmps64
 go_wp2;go_loopw [5,6] (λo i wr=>∃k:Nat,k<=n/\i=.int .i64 (k:Int)/\(∃oa oc,o=C oa k oc)/\Hid (Eh false w.heap.size wr o (Xm (λi=>cf ps i+cf qs i) k)/\Bl w wr)) λ_ i _=>n-(intOf i).toNat
 case atStart=>exact⟨0,AK _,rfl,⟨_,_,rfl⟩,J ⟨Eh.nil _ _ _,BB _ _⟩⟩
 case round=>
  obtain⟨k,hk,rfl,⟨oa,oc,rfl⟩,d⟩:=hrel;by_cases az:k<n
  . have x:=J (RY _ ps (k:Int) wr (HA.o.below d.o.2));have t:=J λ(V:F) (h:Bl wr V)=>RY _ qs (k:Int) V ((HB.o.below d.o.2).below h);rw[BC Y,Cy]at x;rw[show(if(k:Int)<0 then(0:Rat)else cf qs ((k:Int)).toNat)=cf qs k from by rw[BC Y,Cy]]at t;have N:=J λ(V:F) (u v:H) (hu:Jr V u (cf ps k)) (hv:Jr V v (cf qs k))=>RU u v (cf ps k) (cf qs k) V hu hv (HP.o.at k) (HQ.o.at k);have Qj:=r.o.2.2.2 k az;have HK:=J (show k+1<=1099511627776 by have:=r.o.2.2.1;omega);by_cases bi:(k:Int)<(la:Int)
    all_goals
     have Qk:(k:Int)<(la:Int)\/(k:Int)<(lb:Int):=Y
    . clear Qj Qk;go_wp2_with(first
       |(go_at_call 103;refine x.o.mono ?_;clear x;rintro e w1 ⟨u1,rfl,c,l⟩;have f:=l)
       |(go_at_call 103;refine(t.o _ f).mono ?_;clear t;rintro e w2 ⟨u2,rfl,M,m⟩;have c:=c.below m;have y:=Bt f m;clear f)
       |(go_at_call 43;refine(N.o _ _ _ c M).mono ?_;clear N;rintro e w3 ⟨u3,rfl,q,A⟩;have g:=Bt y A;clear y c M l m A;obtain⟨ai,bf,ak,bg,aj,bc,am,bh,rfl⟩:=Jr.form q;obtain⟨v9,w9,W,L,X,K⟩:=XF false w.heap.size w3 _ _ (d.o.1.below g) q (by rw[JJ];exact HK.o) (by have:=d.o.2.size;have:=g.size;omega);have s:=J L;have S:=J (K w.heap.size w (Aa _) (Bt d.o.2 g));clear L X K q)
       |(at_builtin;refine Bi _ rfl _ _ 30 30 rfl _ _ rfl rfl _ _ W ?_))
      obtain⟨T,U,z,_⟩:=s.o.form;go_roundw
      case rel=>
       refine⟨k+1,Y,by go_num,⟨T,U,?_⟩,J ⟨?_,S.o⟩⟩
       . rw[<-YU,JJ]at z;exact z
       . rw[YU];exact s.o
      case measure=>simp[intOf];omega
    . have bj:(k:Int)<(lb:Int):=Y
      clear Qj Qk;go_wp2_with(first
       |(go_at_call 103;refine x.o.mono ?_;clear x;rintro e w1 ⟨u1,rfl,c,l⟩;have f:=l)
       |(go_at_call 103;refine(t.o _ f).mono ?_;clear t;rintro e w2 ⟨u2,rfl,M,m⟩;have c:=c.below m;have y:=Bt f m;clear f)
       |(go_at_call 43;refine(N.o _ _ _ c M).mono ?_;clear N;rintro e w3 ⟨u3,rfl,q,A⟩;have g:=Bt y A;clear y c M l m A;obtain⟨ai,bf,ak,bg,aj,bc,am,bh,rfl⟩:=Jr.form q;obtain⟨v9,w9,W,L,X,K⟩:=XF false w.heap.size w3 _ _ (d.o.1.below g) q (by rw[JJ];exact HK.o) (by have:=d.o.2.size;have:=g.size;omega);have s:=J L;have S:=J (K w.heap.size w (Aa _) (Bt d.o.2 g));clear L X K q)
       |(at_builtin;refine Bi _ rfl _ _ 30 30 rfl _ _ rfl rfl _ _ W ?_))
      obtain⟨T,U,z,_⟩:=s.o.form;go_roundw
      case rel=>
       refine⟨k+1,Y,by go_num,⟨T,U,?_⟩,J ⟨?_,S.o⟩⟩
       . rw[<-YU,JJ]at z;exact z
       . rw[YU];exact s.o
      case measure=>simp[intOf];omega
  . have h1:¬(k:Int)<(la:Int):=by have:=r.o.1;omega
    have h2:¬(k:Int)<(lb:Int):=by have:=r.o.2.1;omega
    have R:=J λ(V:F) (h:Bl wr V)=>KG _ _ V ((d.o.1.below h).row (by rw[JJ];have:=r.o.2.2.1;omega));have HE:=J (show Jd (Xm (λi=>cf ps i+cf qs i) k)=ES ps qs from YB λj=>by
     rw[K5,Xy];split
     . rfl
     . have:=r.o;have g1:=Qm.o;have g2:=Ql.o;rw[J1 (p:=ps) Y,J1 (p:=qs) Y];grind)
    rw[HE.o]at R;go_wp2_with(go_at_call 45;refine(R.o _ (BB _ _)).mono ?_;clear R;rintro e w1 ⟨u1,rfl,c,l⟩;obtain⟨a8,l8,c8,rfl⟩:=c.form)
    go_ret;exact⟨_,rfl,c,Bt d.o.2 l⟩
