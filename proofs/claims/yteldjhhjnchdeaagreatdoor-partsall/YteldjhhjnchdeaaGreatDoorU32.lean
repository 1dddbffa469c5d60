import Derived.Test.YteldjhhjnchdeaaGreatDoorU31
import Derived.Deep.RegionWith
import Derived.Test.YteldjhhjnchdeaaGreatDoorU28
import Derived.Lib.AppendZeros
open Go.Value renaming slice->C,bool->D,agg->B,pointer->I
open Go.Obj renaming cells->E
open Go renaming World->F,Value->H
open Go.Proofs.Tryz renaming prog->G
set_option maxRecDepth 100000
set_option maxHeartbeats 16000000
namespace Go.Proofs.YteldjhhjnchdeaaGreatDoor
open Go.RowKit Go.Shelf
attribute [local go_sem] Oper.semAt_some
def SQ(W:F):H->Nat
 |C (some p) l _=>val 10000 ((List.range l).map λj=>Ip W ⟨p.block,p.off+j,none⟩)
 |_=>0
variable{s:Bool}{qs:List Rat}{c k l n:Nat}{a:Option Addr}{W:F}
theorem RN.rowVal(h:RN W (C a l c) n):SQ W (C a l c)=n:=by
 obtain⟨f,_,_,_,g⟩:=Jy h;rcases A0 l with d|d
 . subst d;have k:n=0:=(JH O).1 (Ar f.symm);subst k;cases a<;>rfl
 . obtain⟨b,off,rfl,_,_⟩:=g 0 d;show val 10000 ((List.range l).map λj=>Ip W ⟨b,off+j,none⟩)=n;have e:(List.range l).map (λj=>Ip W ⟨b,off+j,none⟩)=Jd 10000 n:=by
    refine List.ext_getElem (by rw[FU,List.length_range];exact f) λj g1 g2=>?_;obtain⟨m,o,e,_,i⟩:=g j O;cases e;rw[List.getElem_map,List.getElem_range,Ip,i,Ai g2];rfl
   rw[e,Jp O]
theorem SR{m:Nat}(h:n<=m):(Jd 10000 n).length<=(Jd 10000 m).length:=by
 rcases AR (Jd 10000 m).length (Jd 10000 n).length with a|a
 . have:=Y3 O a;omega
 . exact a
theorem cZ(l vb:H)(x y:Int)(w:F)(ha:Ju w l x)(hb:Ju w vb y)(V:EW x<=100000000)(W:EW y<=100000000):
 Calls G 109 #[l,vb] w λe w'=>∃u,e=.returned u/\Ju w' u (Int.gcd x y:Nat)/\Bl w w':=by
 obtain⟨a,la,ca,rfl,q⟩:=ha;obtain⟨b,lb,cb,rfl,r⟩:=hb;obtain⟨s,hs⟩:=ex (decide (x<0));obtain⟨t,ht⟩:=ex (decide (y<0));rw[hs,ht];clear hs ht;obtain⟨W0,g⟩:=ex (((w.alloc (E #[C a la ca,D s] 83)).alloc (E #[C b lb cb,D t] 83)).alloc (E #[C none 0 0,D false] 83));have m:Bl w W0:=by rw[<-g];exact XH w _ _ _
 have b0:Jo W0 w.heap.size 83 (C a la ca) (D s):=by rw[<-g];exact((Jo.new w _ _ _).alloc _).alloc _
 have b1:Jo W0 (w.heap.size+1) 83 (C b lb cb) (D t):=by
  have h:=(Jo.new (w.alloc (E #[C a la ca,D s] 83)) 83 (C b lb cb) (D t)).alloc (E #[C none 0 0,D false] 83);rw[A1,g]at h;exact h
 have bR:Jo W0 (w.heap.size+1+1) 83 (C none 0 0) (D false):=by
  have h:=Jo.new ((w.alloc (E #[C a la ca,D s] 83)).alloc (E #[C b lb cb,D t] 83)) 83 (C none 0 0) (D false);rw[A1,A1,g]at h;exact h
 have r0:=RN.below q m;have r1:=RN.below r m;have k0:=b0.c0;have k2:=b1.c0;have M:la<=100000000:=by rw[RN.len q];exact V
 have P:lb<=100000000:=by rw[RN.len r];exact W
 have L:=J g;clear g q r V W;go_enter Tryz.func109,Tryz.ntmps109
 go_upto_region 1 with fail
 rw[L.o];clear L;go_wp2_with fail
 go_loopw [5,6] (λxv z wr=>∃(f:Option Addr) (d c0 X:Nat) (k:Option Addr) (l1 c1 c:Nat),xv=C f d c0/\z=C k l1 c1/\Hid (RN wr (C f d c0) X)/\Hid (RN wr (C k l1 c1) c)/\Hid (Nat.gcd X c=Int.gcd x y)/\(d<=100000000/\l1<=100000000)/\Bl W0 wr)
  (λ_ z wr=>SQ wr z)
 case atStart=>exact⟨a,la,ca,x.natAbs,b,lb,cb,y.natAbs,rfl,rfl,J r0,J r1,J rfl,⟨M,P⟩,BB _ W0⟩
 case round=>
  clear r0 r1 M P;obtain⟨f,d,c0,X,k,l1,c1,c,rfl,rfl,S,i,R,⟨ad,U⟩,n⟩:=hrel;rcases A0 l1 with Q|Q
  . subst Q;have N:c=0:=(JH O).1 (Ar (RN.len i.o).symm);have HE:=J (show X=Int.gcd x y by rw[<-R.o,N,Nat.gcd_zero_right]);have j:=bR.below n;obtain⟨q0,q1⟩:=j.cp;obtain⟨f0,f1⟩:=j.fp;clear N;go_wp2_with fail
    have A:=(Kh S.o).box j rfl rfl (x0:=C f d c0) (x1:=D false);rw[HE.o]at A;have Qj:=Bt m n;have z0:=((j.set0 (C f d c0)).set1 (D false)).c0;have z1:=((j.set0 (C f d c0)).set1 (D false)).c1;exact BA (v:=B #[C f d c0,D false]) (by simp[results,Tryz.results109,go_sem,z0,z1]) rfl ⟨_,rfl,A,(Qj.setCell (p:=⟨_,0,none⟩) so _).setCell (p:=⟨_,1,none⟩) so _⟩
  . have Qi:c≠0:=λe=>by
     have h:=RN.len i.o;rw[e,JD]at h;simp at h;omega
    have Qk:=J (SP f d c0 k l1 c1 X c wr S.o i.o Qi ad U);have K:=Ca X (show c>0 by omega);go_wp2_with(go_at_call 139;refine Qk.o.mono ?_;rintro e w2 ⟨u,v,rfl,hu,o,T⟩;obtain⟨ua,uc,rfl⟩:=RN.form hu;obtain⟨l,vc,rfl⟩:=RN.form o)
    have Ql:=RN.below i.o T;refine⟨⟨k,l1,c1,c,l,_,vc,X%c,rfl,rfl,J Ql,J o,J (by rw[<-R.o,CX c,<-Nat.gcd_rec,CX]),⟨U,?_⟩,Bt n T⟩,?_⟩
    . have h1:=SR (F0 K);rw[<-RN.len i.o]at h1;omega
    . rw[RN.rowVal o,RN.rowVal i.o];exact K
theorem cg(w:F)(c d e f:H)(a b:H):
 Jo ((((w.alloc (E #[c,d] 83)).alloc (E #[e,f] 83)).alloc (E #[a,b] 83)).alloc (E #[a,b] 83)) w.heap.size 83 c d/\
 Jo ((((w.alloc (E #[c,d] 83)).alloc (E #[e,f] 83)).alloc (E #[a,b] 83)).alloc (E #[a,b] 83)) (w.heap.size+1) 83 e f/\
 Jo ((((w.alloc (E #[c,d] 83)).alloc (E #[e,f] 83)).alloc (E #[a,b] 83)).alloc (E #[a,b] 83)) (w.heap.size+1+1) 83 a b/\
 Jo ((((w.alloc (E #[c,d] 83)).alloc (E #[e,f] 83)).alloc (E #[a,b] 83)).alloc (E #[a,b] 83)) (w.heap.size+1+1+1) 83 a b:=by
 refine⟨(((Jo.new w _ _ _).alloc _).alloc _).alloc _,?_,?_,?_⟩
 . have h:=((Jo.new (w.alloc (E #[c,d] 83)) 83 e f).alloc (E #[a,b] 83)).alloc (E #[a,b] 83);rw[A1]at h;exact h
 . have h:=(Jo.new ((w.alloc (E #[c,d] 83)).alloc (E #[e,f] 83)) 83 a b).alloc (E #[a,b] 83);rw[A1,A1]at h;exact h
 . have h:=Jo.new (((w.alloc (E #[c,d] 83)).alloc (E #[e,f] 83)).alloc (E #[a,b] 83)) 83 a b;rw[A1,A1,A1]at h;exact h
theorem dA(h:RN W (C a l c) n)(m:Bool):Ju W (B #[C a l c,D (m&&decide (0<l))]) (if m=true then -(n:Int)else(n:Int)):=by
 have hl:=RN.len h;have f:0<l↔n≠0:=by
  rw[hl];constructor
  . intro b g;rw[g,JD]at b;simp at b
  . intro b;exact Ah.2 λe=>b ((JH O).1 e)
 cases m with
 |false=>
  refine⟨a,l,c,?_,by simp;exact h⟩;have:decide ((n:Int)<0)=false:=BI O;simp[this]
 |true=>
  refine⟨a,l,c,?_,by simp;exact h⟩;simp only[Bool.true_and,if_true];have:decide (0<l)=decide (-(n:Int)<0):=by
   by_cases d:n=0
   . rw[BI λb=>f.1 b d,BI O]
   . rw[BK (f.2 d),BK O]
  rw[this]
theorem dB(a:Option Addr)(la ca:Nat)(b:Option Addr)(lb cb X L:Nat)(s t:Bool)(z r:Int)(w:F)(hu:RN w (C a la ca) X)(hv:RN w (C b lb cb) L)(hY:L≠0)(co:la<=100000000)(ct:lb<=100000000)
(HP:Hid (¬(s=true/\X%L≠0)->(if(!(s==t))=true then -((X/L:Nat):Int)else((X/L:Nat):Int))=z/\((X%L:Nat):Int)=r))
(HN:Hid (s=true/\X%L≠0->(if(!(s==t))=true then -((X/L+1:Nat):Int)else((X/L+1:Nat):Int))=z/\((L-X%L:Nat):Int)=r)):
 Calls G 111 #[B #[C a la ca,D s],B #[C b lb cb,D t]] w λe w'=>∃q o,e=.returned (.tuple #[q,o])/\Ju w' q z/\Ju w' o r/\Bl w w':=by
 have Uk:Tryz.prog.follows .mixedOrders=true:=by kernel_rfl
 obtain⟨b0,b1,b4,b5⟩:=cg w (C a la ca) (D s) (C b lb cb) (D t) (C none 0 0) (D false);have Qq:=Rt w (E #[C a la ca,D s] 83) (E #[C b lb cb,D t] 83) (E #[C none 0 0,D false] 83) (E #[C none 0 0,D false] 83);obtain⟨W0,bm⟩:=ex ((((w.alloc (E #[C a la ca,D s] 83)).alloc (E #[C b lb cb,D t] 83)).alloc (E #[C none 0 0,D false] 83)).alloc (E #[C none 0 0,D false] 83));rw[bm]at b0 b1 b4 b5 Qq;have Ui:=J bm;have Up:=RN.below hu Qq;have Ue:=RN.below hv Qq;have Um:=J (SP a la ca b lb cb X L W0 Up Ue hY co ct);have Uq:=J Ue;have Ur:=J (RN.len hu).symm;obtain⟨k0,k1⟩:=b0.cp;obtain⟨k2,k3⟩:=b1.cp;clear bm hu hv Up Ue;go_enter Tryz.func111,Tryz.ntmps111
 go_upto_region 1 with fail
 rw[Ui.o];go_upto_region 2 with(go_at_call 139;refine Um.o.mono ?_;rintro e w1 ⟨u1,v1,rfl,ce,ci,bn⟩;obtain⟨ua,uc,rfl⟩:=RN.form ce;obtain⟨va,vc,rfl⟩:=RN.form ci)
 clear Um Ui;obtain⟨lr,bu⟩:=ex ((Jd 10000 (X%L)).length);obtain⟨lq,bt⟩:=ex ((Jd 10000 (X/L)).length);have Uo:=J (show lr=0↔X%L=0 by
  rw[<-bu];exact⟨λh=>(JH O).1 (Ar h),λh=>by rw[h,JD];rfl⟩)
 rw[bu]at ci ⊢;rw[bt]at ce ⊢;have de:lq<=100000000:=by
  have h1:=SR (m:=X) (n:=X/L) (Fz _ _);have P:=Ur.o;omega
 have Ul:=J bt.symm;clear bu bt;obtain⟨k0,k1⟩:=(b0.below bn).cp;obtain⟨k2,k3⟩:=(b1.below bn).cp;have Qt:=J (KD ua lq uc (!(s==t)) w1);go_upto_region 3 with(go_at_call 112;refine Qt.o.mono ?_;rintro e w2 ⟨rfl,ck⟩)
 obtain⟨m8,cn⟩:=ex (((!(s==t))&&decide (0<lq)):Bool);have hI:=dA (RN.below ce ck) (!(s==t));rw[cn]at hI ⊢;obtain⟨W3,an⟩:=ex (w2.alloc (E #[C ua lq uc,D m8] 83));have Qj:Bl w2 W3:=by rw[<-an];exact Ba w2 _
 have b8:Jo W3 w2.heap.size 83 (C ua lq uc) (D m8):=by rw[<-an];exact Jo.new w2 _ _ _
 have Qs:Bl w1 W3:=Bt ck Qj;have Qg:Bl W0 W3:=Bt bn Qs;have Qy:=hI.below Qj;have Uh:=RN.below ci Qs;have Qh:=Bt Qq Qg;obtain⟨B8,cj⟩:=ex (w2.heap.size);rw[an];rw[cj]at b8 ⊢;clear an cj cn hI Qt;have p0:=b0.below Qg;have p1:=b1.below Qg;have p4:=b4.below Qg;have p5:=b5.below Qg;clear b0 b1 b4 b5 k0 k1 k2 k3;obtain⟨k0,k1⟩:=p0.cp;obtain⟨k2,k3⟩:=p1.cp;obtain⟨k8,k9⟩:=b8.cp;obtain⟨q0,q1⟩:=p4.cp;obtain⟨q2,q3⟩:=p5.cp;obtain⟨f0,f1⟩:=p4.fp;obtain⟨f2,f3⟩:=p5.fp;obtain⟨cd,cl⟩:=ex ((!s || decide (lr=0)):Bool);have Qi:=J cl;clear cl;go_cut [31] λv w4=>v=D cd/\w4=W3
 case first=>
  cases s with
  |false=>
   have e5:cd=true:=by rw[<-Qi.o];rfl
   go_wp2_with fail
   go_meet
   case rel=>exact⟨by rw[e5],rfl⟩
  |true=>
   by_cases h5:lr=0
   . have e5:cd=true:=by rw[<-Qi.o];simp;omega
     have h6:((lr:Int)==0)=true:=by simp;omega
     clear h5;go_wp2_with fail
     go_meet
     case rel=>exact⟨by rw[e5],rfl⟩
   . have e5:cd=false:=by rw[<-Qi.o];simp;omega
     have h6:((lr:Int)==0)=false:=by simp;omega
     clear h5;go_wp2_with fail
     go_meet
     case rel=>exact⟨by rw[e5],rfl⟩
 case rest=>
  obtain⟨rfl,rfl⟩:=hcut;cases cd with
  |true=>
   have hc:¬(s=true/\X%L≠0):=λ⟨h1,P⟩=>by
    have h:=Qi.o;rw[h1]at h;simp at h;exact P (Uo.o.1 h)
   obtain⟨z1,z2⟩:=HP.o hc;rw[z1]at Qy;have Qt:=J (KD va lr vc s);have Uj:(s&&decide (0<lr))=false:=by
    have h:=Qi.o;cases s with
    |false=>rfl
    |true=>simp at h;simp;omega
   rw[Uj]at Qt;have Qw:=J z2;clear Uj z1 z2 hc;go_wp2_with fail
   go_region_with (first
    |(go_at_call 112;refine(Qt.o _).mono ?_;rintro e w5 ⟨rfl,M⟩;have k8:=((b8.drew).below M).c0;have k9:=((b8.drew).below M).c1;have q0:=((p4.drew).below M).c0;have q1:=((p4.drew).below M).c1;have q2:=((p5.drew).below M).c0;have q3:=((p5.drew).below M).c1;have f0:=((p4.drew).below M).f0;have f1:=((p4.drew).below M).f1;have f2:=((p5.drew).below M).f0;have f3:=((p5.drew).below M).f1))
   all_goals
    go_wp2_with fail
    have Qk:Bl wc w5:=((BB _ wc).drew).trans (M.mono (Aa _));have Qb:=p4.below Qk;have Qd:=p5.below Qk;obtain⟨z4,z5⟩:=Ml (C ua lq uc) (D m8) (C va lr vc) (D false) Qb Qd;obtain⟨Qu,Qr⟩:=z4.cp;obtain⟨Qm,Qp⟩:=z5.cp;have Qe:Jo ((w5.setCell ⟨w.heap.size+1+1,0,none⟩ (C ua lq uc)).setCell ⟨w.heap.size+1+1,1,none⟩ (D m8)) (w.heap.size+1+1+1) 83 (C none 0 0) (D false):=(Qd.far Y _).far Y _;have Qc:=(Kh Uh).below Qk;rw[Qw.o]at Qc;have Qn:=((Qy.below Qk).box Qb rfl rfl (x0:=C ua lq uc) (x1:=D m8)).box Qe rfl rfl (x0:=C va lr vc) (x1:=D false);have Qo:=(Qc.box Qb rfl rfl (x0:=C ua lq uc) (x1:=D m8)).box Qe rfl rfl (x0:=C va lr vc) (x1:=D false);have Qv:=Bt Qh Qk;exact BA (v:=.tuple #[B #[C ua lq uc,D m8],B #[C va lr vc,D false]]) (by simp[results,Tryz.results111,go_sem,Qu,Qr,Qm,Qp]) rfl ⟨_,_,rfl,Qn,Qo,(((Qv.setCell (p:=⟨_,0,none⟩) so _).setCell (p:=⟨_,1,none⟩) so _).setCell (p:=⟨_,0,none⟩) so _).setCell (p:=⟨_,1,none⟩) so _⟩
  |false=>
   have hc:s=true/\X%L≠0:=by
    have h:=Qi.o;simp at h;exact⟨h.1,λe=>h.2 (Uo.o.2 e)⟩
   obtain⟨z1,z2⟩:=HN.o hc;rw[hc.1]at z1;have Un:Ju wc (B #[C ua lq uc,D m8]) (if(!(true==t))=true then -((X/L:Nat):Int)else((X/L:Nat):Int)):=by have h:=Qy;rw[hc.1]at h;exact h
   obtain⟨Qx,Ua,Qw⟩:=Di Un z1 z2;have dh:=Ca X (show L>0 by omega);have Qz:=J (IF 1 O O);have Ub:=J λ(V:F) (h:Bl wc V)=>MG _ _ L (X%L) V (RN.below (RN.below Uq.o Qg) h) (RN.below Uh h) O (by rw[<-RN.len Uq.o];omega);clear hc Un z1 z2 Qy;cases t with
   |true=>
    have Uf:=J (show ∀(V:F) (u:H),Bl wc V->Ju V u 1->Calls G 81 #[B #[C ua lq uc,D m8],u] V λe w'=>∃u,e=.returned u/\Ju w' u z/\Bl V w' from λV u h hu=>by
     have hx:=Qx.o.below h;simp only[beq_self_eq_true,Bool.not_true,Ce,if_false]at hx;have h1:=N8 _ u _ 1 V hx hu (by unfold EW;rw[Aw,<-Ul.o];omega) (Mk O O);have P:=Ua.o;simp only[beq_self_eq_true,Bool.not_true,Ce,if_false]at P;rw[show((X/L:Nat):Int)+1=z from by rw[<-P];push_cast;rfl]at h1;exact h1)
    clear Qx Ua HN HP;go_upto_region 6 with fail
    refine Jl Uk [[],[],[0,1,1],[],[3],[],[4,5,2],[6],[2,6,0,1,2],[7,8,0,1,2,3,4,5,6,7,8]] (by kernel_rfl) DP
     (λc ac V=>∃ap aq ak aw ay az ae bc:H,ac={ tmps:=#[B #[C a la ca,D s],B #[C b lb cb,D true],I (some ⟨w.heap.size,0,none⟩),I (some ⟨w.heap.size+1,0,none⟩),I (some ⟨w.heap.size+1+1,0,none⟩),I (some ⟨w.heap.size+1+1+1,0,none⟩),C ua lq uc,C va lr vc,I (some ⟨B8,0,none⟩),u9,u10,u11,u12,u13,u14,u15,u16,u17,u18,u19,u20,u21,u22,u23,u24,u25,u26,u27,u28,u29,u30,D false,u32,u33,u34,u35,u36,I (some ⟨w.heap.size+1,1,none⟩),D true,ap,aq,ak,aw,ay,az,ae,bc,u47,u48,u49,u50,u51,u52,u53,u54],defers:=[] }/\Hid (c 0=true->ap=B #[C ua lq uc,D m8])/\Hid (c 1=true->c 8=false->Ju V aq 1)/\Hid (c 2=true->c 8=false->∃j l c5 x,ak=B #[C j l c5,D x]/\Ju V ak z)/\Hid (c 3=true->aw=I (some ⟨w.heap.size+1,0,none⟩))/\Hid (c 4=true->ay=C b lb cb)/\Hid (c 5=true->az=C va lr vc)/\Hid (c 6=true->c 8=false->∃d g f,ae=C d g f/\RN V ae (L-X%L))/\Hid (c 7=true->∃d g f,ae=C d g f/\bc=B #[C d g f,D false])/\Hid (c 8=true->∃V0 j l c5 x d g f,ak=B #[C j l c5,D x]/\ae=C d g f/\Ju V0 (B #[C j l c5,D x]) z/\RN V0 (C d g f) (L-X%L)/\Bl wc V0/\(c 9=false->V=((V0.setCell ⟨w.heap.size+1+1,0,none⟩ (C j l c5)).setCell ⟨w.heap.size+1+1,1,none⟩ (D x)))/\(c 9=true->V=(((V0.setCell ⟨w.heap.size+1+1,0,none⟩ (C j l c5)).setCell ⟨w.heap.size+1+1,1,none⟩ (D x)).setCell ⟨w.heap.size+1+1+1,0,none⟩ (C d g f)).setCell ⟨w.heap.size+1+1+1,1,none⟩ (D false)))/\Hid (c 8=false->Bl wc V))
     (E8 ⟨rfl,J Dk,J Dk,J Dk,J Dk,J Dk,J Dk,J Dk,J Dk,J Dk,J λ_=>(BB _ wc).drew⟩) ?step ?fin
    case step=>
     rintro c a2 V i ds A ai k y ⟨ap,aq,ak,aw,ay,az,ae,bc,rfl,S,g1,g2,T,U,W,R,g7,g8,Q⟩;have Qf:i<10:=(Ac.1 ai).1;obtain rfl|rfl|rfl|rfl|rfl|rfl|rfl|rfl|rfl|rfl:=I1 i O
     all_goals
      simp only[Af,Ae,Ag]at ai;subst ai;clear Qf
     . have N:c 8=false:=by
        cases h:c 8 with
        |false=>rfl
        |true=>rw[A 8 _ rfl h 0 Y]at y;cases y
       have hq:=Q.o N;obtain⟨k8,k9⟩:=(b8.below hq).cp;clear k A;refine EA ?_;exact⟨J λ_=>rfl,g1,g2,T,U,W,R,g7,J (λh=>by simp[N]at h),Q⟩
     . have N:c 8=false:=by
        cases h:c 8 with
        |false=>rfl
        |true=>rw[A 8 _ rfl h 1 Y]at y;cases y
       have Ug:c 2=false:=by
        cases h:c 2 with
        |false=>rfl
        |true=>rw[A 2 _ rfl h 1 Y]at y;cases y
       have hq:=Q.o N;clear k A;refine Jz rfl rfl λK hK=>?_;go_simp;go_wp2_with(go_at_call 79;refine(Qz.o _).mono ?_;rintro e w5 ⟨u5,rfl,ad,M⟩)
       exact⟨_,_,_,_,_,_,_,_,rfl,S,J λ_ _=>ad,J (λh=>by simp[Ug]at h),T,U,W,J (λh P=>by obtain⟨d,g,f,e,q⟩:=R.o h P;exact⟨d,g,f,e,RN.below q M⟩),g7,J (λh=>by simp[N]at h),J λ_=>Bt hq M⟩
     . have N:c 8=false:=by
        cases h:c 8 with
        |false=>rfl
        |true=>rw[A 8 _ rfl h 2 Y]at y;cases y
       have hq:=Q.o N;obtain rfl:=S.o (k 0 Y);have h1:=g1.o (k 1 Y) N;clear k A;refine Jz rfl rfl λK hK=>?_;go_simp;go_wp2_with(go_at_call 81;refine(Uf.o _ _ hq h1).mono ?_;rintro e w5 ⟨u5,rfl,ad,M⟩;obtain⟨j,l,c5,rfl⟩:=ad.form;obtain⟨x,aj⟩:=ex (decide (z<0));rw[aj]at ad;rw[aj];clear aj)
       exact E8 ⟨rfl,J λ_=>rfl,J λh P=>(g1.o h P).below M,J λ_ _=>⟨j,l,c5,x,rfl,ad⟩,T,U,W,J (λh P=>by obtain⟨d,g,f,e,q⟩:=R.o h P;exact⟨d,g,f,e,RN.below q M⟩),g7,J (λh=>by simp[N]at h),J λ_=>Bt hq M⟩
     . clear k A;refine EA ?_;exact⟨S,g1,g2,J λ_=>rfl,U,W,R,g7,g8,Q⟩
     . have Ql:c 6=false:=by
        cases h:c 6 with
        |false=>rfl
        |true=>rw[A 6 _ rfl h 4 Y]at y;cases y
       have N:c 8=false:=by
        cases h:c 8 with
        |false=>rfl
        |true=>rw[A 8 _ rfl h 6 Y]at Ql;cases Ql
       have hq:=Q.o N;obtain rfl:=T.o (k 3 Y);have k2:=(p1.below hq).c0;clear k A;refine EA ?_;exact⟨S,g1,g2,J λ_=>rfl,J λ_=>rfl,W,R,g7,J (λh=>by simp[N]at h),Q⟩
     . clear k A;refine EA ?_;exact⟨S,g1,g2,T,U,J λ_=>rfl,R,g7,g8,Q⟩
     . have N:c 8=false:=by
        cases h:c 8 with
        |false=>rfl
        |true=>rw[A 8 _ rfl h 6 Y]at y;cases y
       have Ud:c 7=false:=by
        cases h:c 7 with
        |false=>rfl
        |true=>rw[A 7 _ rfl h 6 Y]at y;cases y
       have hq:=Q.o N;obtain rfl:=U.o (k 4 Y);obtain rfl:=W.o (k 5 Y);clear k A;refine Jz rfl rfl λK hK=>?_;go_simp;go_wp2_with(go_at_call 115;refine(Ub.o _ hq).mono ?_;rintro e w5 ⟨u5,rfl,ad,M⟩;obtain⟨d,f,rfl⟩:=RN.form ad)
       exact⟨_,_,_,_,_,_,_,_,rfl,S,J λh P=>(g1.o h P).below M,J (λh P=>by obtain⟨j,l,c5,x,e,q⟩:=g2.o h P;exact⟨j,l,c5,x,e,q.below M⟩),T,J λ_=>rfl,J λ_=>rfl,J λ_ _=>⟨_,_,_,rfl,ad⟩,J (λh=>by simp[Ud]at h),J (λh=>by simp[N]at h),J λ_=>Bt hq M⟩
     . obtain⟨d,g,f,e6⟩:∃d g f,ae=C d g f:=by
        cases h8:c 8 with
        |false=>obtain⟨d,g,f,e,_⟩:=R.o (k 6 Y) h8;exact⟨d,g,f,e⟩
        |true=>obtain⟨_,_,_,_,_,d,g,f,_,e,_⟩:=g8.o h8;exact⟨d,g,f,e⟩
       obtain rfl:=e6;clear k A;refine EA ?_;exact⟨S,g1,g2,T,U,W,R,J λ_=>⟨d,g,f,rfl,rfl⟩,g8,Q⟩
     . have Uc:c 9=false:=by
        cases h:c 9 with
        |false=>rfl
        |true=>rw[A 9 _ rfl h 8 Y]at y;cases y
       have hq:=Q.o y;obtain⟨j,l,c5,x,e5,h5⟩:=g2.o (k 2 Y) y;obtain⟨d,g,f,e6,h6⟩:=R.o (k 6 Y) y;obtain rfl:=e5;obtain rfl:=e6;obtain⟨q0,q1⟩:=(p4.below hq).cp;obtain⟨f0,f1⟩:=(p4.below hq).fp;clear g1 g2 R;clear k A;refine EA ?_;exact⟨S,J (λ_ h=>by simp at h),J (λ_ h=>by simp at h),T,U,W,J (λ_ h=>by simp at h),g7,J λ_=>⟨V,j,l,c5,x,d,g,f,rfl,rfl,h5,h6,hq,λ_=>rfl,λh=>by simp[Uc]at h⟩,J λh=>by simp at h⟩
     . obtain⟨V0,j,l,c5,x,d,g,f,e5,e6,h5,h6,hq,hV,_⟩:=g8.o (k 8 Y);obtain rfl:=hV y;obtain⟨a7,l7,c7,e7,e8⟩:=g7.o (k 7 Y);obtain rfl:=e8;obtain rfl:=e6;cases e7;obtain rfl:=e5;have bb:=((p5.below hq).far (p:=⟨w.heap.size+1+1,0,none⟩) Y (C j l c5)).far (p:=⟨w.heap.size+1+1,1,none⟩) Y (D x);obtain⟨q0,q1⟩:=bb.cp;obtain⟨f0,f1⟩:=bb.fp;have h8:=k 8 Y;clear hV;clear k A;refine EA ?_;exact⟨S,J (λ_ h=>by simp[h8]at h),J (λ_ h=>by simp[h8]at h),T,U,W,J (λ_ h=>by simp[h8]at h),J λ_=>⟨_,_,_,rfl,rfl⟩,J λ_=>⟨V0,j,l,c5,x,d,g,f,rfl,rfl,h5,h6,hq,λh=>by simp at h,λ_=>rfl⟩,J λh=>by simp[h8]at h⟩
    case fin=>
     rintro c a2 V ah ⟨ap,aq,ak,aw,ay,az,ae,bc,rfl,S,g1,g2,T,U,W,R,g7,g8,Q⟩;obtain⟨V0,j,l,c5,x,d,g,f,e5,e6,h5,h6,hq,_,hV⟩:=g8.o (ah 8 DP);obtain rfl:=hV (ah 9 DP);clear S g1 g2 T U W R g7 g8 Q ah hV e5 e6 Ub Qz;go_wp2_with fail
     have Qb:=p4.below hq;have Qd:=p5.below hq;obtain⟨z4,z5⟩:=Ml (C j l c5) (D x) (C d g f) (D false) Qb Qd;obtain⟨Qu,Qr⟩:=z4.cp;obtain⟨Qm,Qp⟩:=z5.cp;have Qe:Jo ((V0.setCell ⟨w.heap.size+1+1,0,none⟩ (C j l c5)).setCell ⟨w.heap.size+1+1,1,none⟩ (D x)) (w.heap.size+1+1+1) 83 (C none 0 0) (D false):=(Qd.far Y _).far Y _;have Qc:=Kh h6;rw[Qw.o]at Qc;have Qn:=(h5.box Qb rfl rfl (x0:=C j l c5) (x1:=D x)).box Qe rfl rfl (x0:=C d g f) (x1:=D false);have Qo:=(Qc.box Qb rfl rfl (x0:=C j l c5) (x1:=D x)).box Qe rfl rfl (x0:=C d g f) (x1:=D false);have Qv:=Bt Qh hq;exact BA (v:=.tuple #[B #[C j l c5,D x],B #[C d g f,D false]]) (by simp[results,Tryz.results111,go_sem,Qu,Qr,Qm,Qp]) rfl ⟨_,_,rfl,Qn,Qo,(((Qv.setCell (p:=⟨_,0,none⟩) so _).setCell (p:=⟨_,1,none⟩) so _).setCell (p:=⟨_,0,none⟩) so _).setCell (p:=⟨_,1,none⟩) so _⟩
   |false=>
    have Uf:=J (show ∀(V:F) (u:H),Bl wc V->Ju V u 1->Calls G 140 #[B #[C ua lq uc,D m8],u] V λe w'=>∃u,e=.returned u/\Ju w' u z/\Bl V w' from λV u h hu=>by
     have hx:=Qx.o.below h;rw[BG (by rfl)]at hx;have h1:=aX _ u _ 1 V hx hu (by unfold EW;rw[Fu,Aw,<-Ul.o];omega) (Mk O O);have P:=Ua.o;rw[BG (by rfl)]at P;rw[show -((X/L:Nat):Int)-1=z from by rw[<-P];push_cast;omega]at h1;exact h1)
    clear Qx Ua HN HP;go_upto_region 7 with fail
    refine Jl Uk [[],[],[0,1,1],[],[3],[],[4,5,2],[6],[2,6,0,1,2],[7,8,0,1,2,3,4,5,6,7,8]] (by kernel_rfl) DP
     (λc ac V=>∃bf bg am bh bi bj af bk:H,ac={ tmps:=#[B #[C a la ca,D s],B #[C b lb cb,D false],I (some ⟨w.heap.size,0,none⟩),I (some ⟨w.heap.size+1,0,none⟩),I (some ⟨w.heap.size+1+1,0,none⟩),I (some ⟨w.heap.size+1+1+1,0,none⟩),C ua lq uc,C va lr vc,I (some ⟨B8,0,none⟩),u9,u10,u11,u12,u13,u14,u15,u16,u17,u18,u19,u20,u21,u22,u23,u24,u25,u26,u27,u28,u29,u30,D false,u32,u33,u34,u35,u36,I (some ⟨w.heap.size+1,1,none⟩),D false,u39,u40,u41,u42,u43,u44,u45,u46,bf,bg,am,bh,bi,bj,af,bk],defers:=[] }/\Hid (c 0=true->bf=B #[C ua lq uc,D m8])/\Hid (c 1=true->c 8=false->Ju V bg 1)/\Hid (c 2=true->c 8=false->∃j l c5 x,am=B #[C j l c5,D x]/\Ju V am z)/\Hid (c 3=true->bh=I (some ⟨w.heap.size+1,0,none⟩))/\Hid (c 4=true->bi=C b lb cb)/\Hid (c 5=true->bj=C va lr vc)/\Hid (c 6=true->c 8=false->∃d g f,af=C d g f/\RN V af (L-X%L))/\Hid (c 7=true->∃d g f,af=C d g f/\bk=B #[C d g f,D false])/\Hid (c 8=true->∃V0 j l c5 x d g f,am=B #[C j l c5,D x]/\af=C d g f/\Ju V0 (B #[C j l c5,D x]) z/\RN V0 (C d g f) (L-X%L)/\Bl wc V0/\(c 9=false->V=((V0.setCell ⟨w.heap.size+1+1,0,none⟩ (C j l c5)).setCell ⟨w.heap.size+1+1,1,none⟩ (D x)))/\(c 9=true->V=(((V0.setCell ⟨w.heap.size+1+1,0,none⟩ (C j l c5)).setCell ⟨w.heap.size+1+1,1,none⟩ (D x)).setCell ⟨w.heap.size+1+1+1,0,none⟩ (C d g f)).setCell ⟨w.heap.size+1+1+1,1,none⟩ (D false)))/\Hid (c 8=false->Bl wc V))
     (E8 ⟨rfl,J Dk,J Dk,J Dk,J Dk,J Dk,J Dk,J Dk,J Dk,J Dk,J λ_=>(BB _ wc).drew⟩) ?step ?fin
    case step=>
     rintro c a2 V i ds A ai k y ⟨bf,bg,am,bh,bi,bj,af,bk,rfl,S,g1,g2,T,U,W,R,g7,g8,Q⟩;have Qf:i<10:=(Ac.1 ai).1;obtain rfl|rfl|rfl|rfl|rfl|rfl|rfl|rfl|rfl|rfl:=I1 i O
     all_goals
      simp only[Af,Ae,Ag]at ai;subst ai;clear Qf
     . have N:c 8=false:=by
        cases h:c 8 with
        |false=>rfl
        |true=>rw[A 8 _ rfl h 0 Y]at y;cases y
       have hq:=Q.o N;obtain⟨k8,k9⟩:=(b8.below hq).cp;clear k A;refine EA ?_;exact⟨J λ_=>rfl,g1,g2,T,U,W,R,g7,J (λh=>by simp[N]at h),Q⟩
     . have N:c 8=false:=by
        cases h:c 8 with
        |false=>rfl
        |true=>rw[A 8 _ rfl h 1 Y]at y;cases y
       have Ug:c 2=false:=by
        cases h:c 2 with
        |false=>rfl
        |true=>rw[A 2 _ rfl h 1 Y]at y;cases y
       have hq:=Q.o N;clear k A;refine Jz rfl rfl λK hK=>?_;go_simp;go_wp2_with(go_at_call 79;refine(Qz.o _).mono ?_;rintro e w5 ⟨u5,rfl,ad,M⟩)
       exact⟨_,_,_,_,_,_,_,_,rfl,S,J λ_ _=>ad,J (λh=>by simp[Ug]at h),T,U,W,J (λh P=>by obtain⟨d,g,f,e,q⟩:=R.o h P;exact⟨d,g,f,e,RN.below q M⟩),g7,J (λh=>by simp[N]at h),J λ_=>Bt hq M⟩
     . have N:c 8=false:=by
        cases h:c 8 with
        |false=>rfl
        |true=>rw[A 8 _ rfl h 2 Y]at y;cases y
       have hq:=Q.o N;obtain rfl:=S.o (k 0 Y);have h1:=g1.o (k 1 Y) N;clear k A;refine Jz rfl rfl λK hK=>?_;go_simp;go_wp2_with(go_at_call 140;refine(Uf.o _ _ hq h1).mono ?_;rintro e w5 ⟨u5,rfl,ad,M⟩;obtain⟨j,l,c5,rfl⟩:=ad.form;obtain⟨x,aj⟩:=ex (decide (z<0));rw[aj]at ad;rw[aj];clear aj)
       exact E8 ⟨rfl,J λ_=>rfl,J λh P=>(g1.o h P).below M,J λ_ _=>⟨j,l,c5,x,rfl,ad⟩,T,U,W,J (λh P=>by obtain⟨d,g,f,e,q⟩:=R.o h P;exact⟨d,g,f,e,RN.below q M⟩),g7,J (λh=>by simp[N]at h),J λ_=>Bt hq M⟩
     . clear k A;refine EA ?_;exact⟨S,g1,g2,J λ_=>rfl,U,W,R,g7,g8,Q⟩
     . have Ql:c 6=false:=by
        cases h:c 6 with
        |false=>rfl
        |true=>rw[A 6 _ rfl h 4 Y]at y;cases y
       have N:c 8=false:=by
        cases h:c 8 with
        |false=>rfl
        |true=>rw[A 8 _ rfl h 6 Y]at Ql;cases Ql
       have hq:=Q.o N;obtain rfl:=T.o (k 3 Y);have k2:=(p1.below hq).c0;clear k A;refine EA ?_;exact⟨S,g1,g2,J λ_=>rfl,J λ_=>rfl,W,R,g7,J (λh=>by simp[N]at h),Q⟩
     . clear k A;refine EA ?_;exact⟨S,g1,g2,T,U,J λ_=>rfl,R,g7,g8,Q⟩
     . have N:c 8=false:=by
        cases h:c 8 with
        |false=>rfl
        |true=>rw[A 8 _ rfl h 6 Y]at y;cases y
       have Ud:c 7=false:=by
        cases h:c 7 with
        |false=>rfl
        |true=>rw[A 7 _ rfl h 6 Y]at y;cases y
       have hq:=Q.o N;obtain rfl:=U.o (k 4 Y);obtain rfl:=W.o (k 5 Y);clear k A;refine Jz rfl rfl λK hK=>?_;go_simp;go_wp2_with(go_at_call 115;refine(Ub.o _ hq).mono ?_;rintro e w5 ⟨u5,rfl,ad,M⟩;obtain⟨d,f,rfl⟩:=RN.form ad)
       exact⟨_,_,_,_,_,_,_,_,rfl,S,J λh P=>(g1.o h P).below M,J (λh P=>by obtain⟨j,l,c5,x,e,q⟩:=g2.o h P;exact⟨j,l,c5,x,e,q.below M⟩),T,J λ_=>rfl,J λ_=>rfl,J λ_ _=>⟨_,_,_,rfl,ad⟩,J (λh=>by simp[Ud]at h),J (λh=>by simp[N]at h),J λ_=>Bt hq M⟩
     . obtain⟨d,g,f,e6⟩:∃d g f,af=C d g f:=by
        cases h8:c 8 with
        |false=>obtain⟨d,g,f,e,_⟩:=R.o (k 6 Y) h8;exact⟨d,g,f,e⟩
        |true=>obtain⟨_,_,_,_,_,d,g,f,_,e,_⟩:=g8.o h8;exact⟨d,g,f,e⟩
       obtain rfl:=e6;clear k A;refine EA ?_;exact⟨S,g1,g2,T,U,W,R,J λ_=>⟨d,g,f,rfl,rfl⟩,g8,Q⟩
     . have Uc:c 9=false:=by
        cases h:c 9 with
        |false=>rfl
        |true=>rw[A 9 _ rfl h 8 Y]at y;cases y
       have hq:=Q.o y;obtain⟨j,l,c5,x,e5,h5⟩:=g2.o (k 2 Y) y;obtain⟨d,g,f,e6,h6⟩:=R.o (k 6 Y) y;obtain rfl:=e5;obtain rfl:=e6;obtain⟨q0,q1⟩:=(p4.below hq).cp;obtain⟨f0,f1⟩:=(p4.below hq).fp;clear g1 g2 R;clear k A;refine EA ?_;exact⟨S,J (λ_ h=>by simp at h),J (λ_ h=>by simp at h),T,U,W,J (λ_ h=>by simp at h),g7,J λ_=>⟨V,j,l,c5,x,d,g,f,rfl,rfl,h5,h6,hq,λ_=>rfl,λh=>by simp[Uc]at h⟩,J λh=>by simp at h⟩
     . obtain⟨V0,j,l,c5,x,d,g,f,e5,e6,h5,h6,hq,hV,_⟩:=g8.o (k 8 Y);obtain rfl:=hV y;obtain⟨a7,l7,c7,e7,e8⟩:=g7.o (k 7 Y);obtain rfl:=e8;obtain rfl:=e6;cases e7;obtain rfl:=e5;have bb:=((p5.below hq).far (p:=⟨w.heap.size+1+1,0,none⟩) Y (C j l c5)).far (p:=⟨w.heap.size+1+1,1,none⟩) Y (D x);obtain⟨q0,q1⟩:=bb.cp;obtain⟨f0,f1⟩:=bb.fp;have h8:=k 8 Y;clear hV;clear k A;refine EA ?_;exact⟨S,J (λ_ h=>by simp[h8]at h),J (λ_ h=>by simp[h8]at h),T,U,W,J (λ_ h=>by simp[h8]at h),J λ_=>⟨_,_,_,rfl,rfl⟩,J λ_=>⟨V0,j,l,c5,x,d,g,f,rfl,rfl,h5,h6,hq,λh=>by simp at h,λ_=>rfl⟩,J λh=>by simp[h8]at h⟩
    case fin=>
     rintro c a2 V ah ⟨bf,bg,am,bh,bi,bj,af,bk,rfl,S,g1,g2,T,U,W,R,g7,g8,Q⟩;obtain⟨V0,j,l,c5,x,d,g,f,e5,e6,h5,h6,hq,_,hV⟩:=g8.o (ah 8 DP);obtain rfl:=hV (ah 9 DP);clear S g1 g2 T U W R g7 g8 Q ah hV e5 e6 Ub Qz;go_wp2_with fail
     have Qb:=p4.below hq;have Qd:=p5.below hq;obtain⟨z4,z5⟩:=Ml (C j l c5) (D x) (C d g f) (D false) Qb Qd;obtain⟨Qu,Qr⟩:=z4.cp;obtain⟨Qm,Qp⟩:=z5.cp;have Qe:Jo ((V0.setCell ⟨w.heap.size+1+1,0,none⟩ (C j l c5)).setCell ⟨w.heap.size+1+1,1,none⟩ (D x)) (w.heap.size+1+1+1) 83 (C none 0 0) (D false):=(Qd.far Y _).far Y _;have Qc:=Kh h6;rw[Qw.o]at Qc;have Qn:=(h5.box Qb rfl rfl (x0:=C j l c5) (x1:=D x)).box Qe rfl rfl (x0:=C d g f) (x1:=D false);have Qo:=(Qc.box Qb rfl rfl (x0:=C j l c5) (x1:=D x)).box Qe rfl rfl (x0:=C d g f) (x1:=D false);have Qv:=Bt Qh hq;exact BA (v:=.tuple #[B #[C j l c5,D x],B #[C d g f,D false]]) (by simp[results,Tryz.results111,go_sem,Qu,Qr,Qm,Qp]) rfl ⟨_,_,rfl,Qn,Qo,(((Qv.setCell (p:=⟨_,0,none⟩) so _).setCell (p:=⟨_,1,none⟩) so _).setCell (p:=⟨_,0,none⟩) so _).setCell (p:=⟨_,1,none⟩) so _⟩
theorem NA(j k:H)(x y:Int)(w:F)(l:Ju w j x)(m:Ju w k y)(i:y≠0)(n:EW x<=100000000)(p:EW y<=100000000):
 Calls G 111 #[j,k] w λe d=>∃q o,e=.returned (.tuple #[q,o])/\Ju d q (x/y)/\Ju d o (x%y)/\Bl w d:=by
 obtain⟨a,la,ca,rfl,f⟩:=l;obtain⟨b,lb,cb,rfl,g⟩:=m;refine dB a la ca b lb cb x.natAbs y.natAbs _ _ (x/y) (x%y) w f g O (by rw[RN.len f];exact n) (by rw[RN.len g];exact p) (λc=>Rv i λh=>c ⟨BK h.1,h.2⟩) λc=>Rw i ⟨Bf c.1,c.2⟩
theorem dC(p:H)(x:Int)(w:F)(r:Ju w p x):
 Calls G 73 #[p] w λe s=>e=.returned (.int .i64 x.sign)/\Bl w s:=by
 obtain⟨a,la,ca,rfl,i⟩:=r;have j:=RN.len i;have t:=(Jy i).2.2.2.1;have f:Bl w (w.alloc (E #[C a la ca,D (decide (x<0))] 83)):=Ba w _;have b0:=Jo.new w 83 (C a la ca) (D (decide (x<0)));have l:la=0↔x=0:=by
  rw[j];constructor
  . intro h;have:=(JH (B:=10000) O).1 (Ar h);omega
  . intro h;rw[h,Int.natAbs_zero,JD];rfl
 have m:=J l;obtain⟨W0,g⟩:=ex (w.alloc (E #[C a la ca,D (decide (x<0))] 83));rw[g]at f b0;have c:=J g;obtain⟨u,o⟩:=b0.cp;by_cases k:x<0
 . have d:decide (x<0)=true:=BK k;rw[d]at c o ⊢;have b:=J (Int.sign_eq_neg_one_of_neg k);clear j l g i d b0;go_enter Tryz.func73,Tryz.ntmps73
   go_upto_region 1 with fail
   rw[c.o];go_wp2_with fail
   go_ret;exact⟨by rw[b.o];rfl,f⟩
 . have d:decide (x<0)=false:=BI k;rw[d]at c o ⊢;clear j l g i d b0;rcases A0 la with n|n
   . subst n;have b:=J (show x.sign=0 by rw[m.o.1 rfl];rfl);go_enter Tryz.func73,Tryz.ntmps73
     go_upto_region 1 with fail
     rw[c.o];go_wp2_with fail
     go_ret;refine⟨?_,f⟩;rw[b.o];first|rfl|(simp;done)
   . have b:=J (show x.sign=1 from Int.sign_eq_one_of_pos (by
      have:=m.o;rcases FO x 0 with h|h|h
      . omega
      . have:=this.2 h;omega
      . exact h))
     have q:min (1:Int) (la:Int)=1:=O
     go_enter Tryz.func73,Tryz.ntmps73
     go_upto_region 1 with fail
     rw[c.o];go_wp2_with fail
     go_ret;refine⟨?_,f⟩;rw[b.o];first|rfl|(simp[q];done)
theorem SU{x y:Int}(a:y≠0):(0:Int)<(Int.gcd x y:Nat):=by
 have:=Int.gcd_pos_of_ne_zero_right x a;omega
theorem Js.mk{t:Bool}{b:Option Addr}{d:Nat}{q:Rat}(e:Ju W (B #[C a l c,D s]) q.num)(f:Ju W (B #[C b k d,D t]) (q.den:Int)):Js W (B #[C a l c,D s,C b k d,D t]) q:=⟨_,_,_,_,_,_,_,_,rfl,e,f⟩
theorem Ju.sign{z:Int}(h:Ju W (B #[C a l c,D s]) z):s=decide (z<0):=by
 obtain⟨a',l',c',e,_⟩:=h;cases e;rfl
theorem Ko(va vb:H)(x y:Int)(w:F)(ha:Ju w va x)(f:Ju w vb y)(hy:y≠0)(co:DY x)(ct:DY y):
 Calls G 80 #[va,vb] w λe w'=>∃u,e=.returned u/\Js w' u (Rat.divInt x y)/\Bl w w':=by
 obtain⟨bk,ew,ck,fo,rfl⟩:=Ju.form2 ha;obtain⟨bm,f6,cl,fs,rfl⟩:=Ju.form2 f;have q:=((((Mem.nil w).push (.big x) ha).push (.big y) (Has.alloc (d:=.big y) f _)).push .zref rfl);simp only[A1]at q;have q:Mem w (((w.alloc (E #[C bk ew ck,D fo] 83)).alloc (E #[C bm f6 cl,D fs] 83)).alloc (E #[C none 0 0,D false,C none 0 0,D false] 85)) [some (w.heap.size,.big x),some (w.heap.size+1,.big y),some (w.heap.size+1+1,.zref)]:=q;obtain⟨W0,am⟩:=ex (((w.alloc (E #[C bk ew ck,D fo] 83)).alloc (E #[C bm f6 cl,D fs] 83)).alloc (E #[C none 0 0,D false,C none 0 0,D false] 85));have Ud:=J am;rw[am]at q;have M1:Hid (Mem w W0 [some (w.heap.size,.big x),some (w.heap.size+1,.big y),some (w.heap.size+1+1,.zref)]):=J q;obtain⟨r,Qa,Qb⟩:=Di hy co ct;clear q am ha f hy co ct;go_enter Tryz.func80,Tryz.ntmps80
 go_upto_region 1 with fail
 rw[Ud.o];clear Ud;obtain⟨a1,l1,c1,s1,n1,i1⟩:=M1.o.big (i:=0) rfl;obtain⟨Ui,Uk⟩:=n1.cp;obtain⟨a2,l2,c2,s2,n2,i2⟩:=M1.o.big (i:=1) rfl;obtain⟨Uj,Ug⟩:=n2.cp;go_upto_region 2 with(go_at_call 109;refine(cZ _ _ x y _ i1 i2 (by have:=Qa.o.size;omega) (by have:=Qb.o.size;omega)).mono ?_;rintro e w1 ⟨u,rfl,hu,f⟩;obtain⟨bj,et,cj,fm,rfl⟩:=Ju.form2 hu)
 obtain⟨V3,b⟩:=ex (w1.alloc (E #[C bj et cj,D fm] 83));obtain⟨g,c⟩:=ex (w1.heap.size);have a:Mem w (w1.alloc (E #[C bj et cj,D fm] 83)) [some (w.heap.size,.big x),some (w.heap.size+1,.big y),some (w.heap.size+1+1,.zref),some (w1.heap.size,.big (((Int.gcd x y:Nat):Int)))]:=Mem.push (M1.o.below f) (.big (((Int.gcd x y:Nat):Int))) hu;rw[b,c]at a;rw[b];rw[c];have p:Hid (Mem w V3 [some (w.heap.size,.big x),some (w.heap.size+1,.big y),some (w.heap.size+1+1,.zref),some (g,.big (((Int.gcd x y:Nat):Int)))]):=J (a);clear M1;clear a b c;clear n1 Ui Uk i1 n2 Uj Ug i2 hu f;have HG:=J (DY.gcd Qa.o Qb.o);by_cases s:y<0
 . have HL:=J s;obtain⟨a4,l4,c4,s4,n4,i4⟩:=p.o.big (i:=1) rfl;have Uf:=n4.c1;have hs:=Ju.sign i4;rw[BK s]at hs;subst hs;clear s;go_upto_region 3 with fail
   clear n4 Uf i4;obtain⟨a5,l5,c5,s5,n5,i5⟩:=p.o.big (i:=3) rfl;obtain⟨Ub,Uc⟩:=n5.cp;go_upto_region 4 with(go_at_call 110;refine(QG _ (((Int.gcd x y:Nat):Int)) _ i5).mono ?_;rintro e w6 ⟨u6,rfl,an,aj⟩;obtain⟨bn,f7,cn,ft,rfl⟩:=Ju.form2 an;obtain⟨Ub,Uc⟩:=(n5.below aj).cp;obtain⟨Um,Un⟩:=(n5.below aj).fp)
   obtain⟨V6,b⟩:=ex ((w6.setCell ⟨g,0,none⟩ (C bn f7 cn)).setCell ⟨g,1,none⟩ (D ft));have a:Mem w ((w6.setCell ⟨g,0,none⟩ (C bn f7 cn)).setCell ⟨g,1,none⟩ (D ft)) [some (w.heap.size,.big x),some (w.heap.size+1,.big y),some (w.heap.size+1+1,.zref),some (g,.big (-((Int.gcd x y:Nat):Int)))]:=Mem.putBig (p.o.below aj) (i:=3) rfl an;rw[b]at a;rw[b];have M3:Hid (Mem w V6 [some (w.heap.size,.big x),some (w.heap.size+1,.big y),some (w.heap.size+1+1,.zref),some (g,.big (-((Int.gcd x y:Nat):Int)))]):=J (a);clear p;clear a b;clear n5 Ub Uc i5 an aj Um Un;obtain⟨K,t,A⟩:=Di (show(-((Int.gcd x y:Nat):Int))≠0 by have:=SU (x:=x) r.o;omega) (show(-((Int.gcd x y:Nat):Int))=(if y<0 then -((Int.gcd x y:Nat):Int)else((Int.gcd x y:Nat):Int))by rw[BG HL.o]) HG.o.neg;obtain⟨a7,l7,c7,s7,n7,i7⟩:=M3.o.big (i:=0) rfl;obtain⟨Ue,Uo⟩:=n7.cp;obtain⟨a8,l8,c8,s8,n8,i8⟩:=M3.o.big (i:=3) rfl;obtain⟨Uh,Ul⟩:=n8.cp;go_upto_region 5 with(go_at_call 111;refine(NA _ _ x ((-((Int.gcd x y:Nat):Int))) _ i7 i8 K.o (by have:=Qa.o.size;omega) (by have:=A.o.size;omega)).mono ?_;rintro e m ⟨u1,u2,rfl,j,k,f⟩;obtain⟨L,U,Q,ad,rfl⟩:=Ju.form2 j;obtain⟨M,V,R,ae,rfl⟩:=Ju.form2 k)
   have a:=Mem.push (Mem.push (M3.o.below f) (.big (x/(-((Int.gcd x y:Nat):Int)))) j) (.big (x%(-((Int.gcd x y:Nat):Int)))) (Has.alloc (d:=.big (x%(-((Int.gcd x y:Nat):Int)))) k _);simp only[A1]at a;have a:Mem w ((m.alloc (E #[C L U Q,D ad] 83)).alloc (E #[C M V R,D ae] 83)) [some (w.heap.size,.big x),some (w.heap.size+1,.big y),some (w.heap.size+1+1,.zref),some (g,.big (-((Int.gcd x y:Nat):Int))),some (m.heap.size,.big (x/(-((Int.gcd x y:Nat):Int)))),some (m.heap.size+1,.big (x%(-((Int.gcd x y:Nat):Int))))]:=a;obtain⟨fx,b⟩:=ex ((m.alloc (E #[C L U Q,D ad] 83)).alloc (E #[C M V R,D ae] 83));obtain⟨B9,c⟩:=ex (m.heap.size);rw[b,c]at a;rw[b];rw[c];obtain⟨B10,l⟩:=ex (B9+1);rw[l]at a ⊢;have o:Hid (Mem w fx [some (w.heap.size,.big x),some (w.heap.size+1,.big y),some (w.heap.size+1+1,.zref),some (g,.big (-((Int.gcd x y:Nat):Int))),some (B9,.big (x/(-((Int.gcd x y:Nat):Int)))),some (B10,.big (x%(-((Int.gcd x y:Nat):Int))))]):=J (a);clear M3;clear a b c l;clear n7 Ue Uo i7 n8 Uh Ul i8 j k f;obtain⟨gn,je,gy,jl,f8,de⟩:=o.o.big (i:=1) rfl;obtain⟨Qr,Qk⟩:=f8.cp;obtain⟨go,jf,gz,jm,f9,dh⟩:=o.o.big (i:=3) rfl;obtain⟨Ua,Qy⟩:=f9.cp;go_upto_region 6 with(go_at_call 111;refine(NA _ _ y ((-((Int.gcd x y:Nat):Int))) _ de dh K.o (by have:=Qb.o.size;omega) (by have:=A.o.size;omega)).mono ?_;rintro e n ⟨u1,u2,rfl,j,k,f⟩;obtain⟨N,W,S,af,rfl⟩:=Ju.form2 j;obtain⟨P,X,T,ah,rfl⟩:=Ju.form2 k)
   have a:=Mem.push (Mem.push (o.o.below f) (.big (y/(-((Int.gcd x y:Nat):Int)))) j) (.big (y%(-((Int.gcd x y:Nat):Int)))) (Has.alloc (d:=.big (y%(-((Int.gcd x y:Nat):Int)))) k _);simp only[A1]at a;have a:Mem w ((n.alloc (E #[C N W S,D af] 83)).alloc (E #[C P X T,D ah] 83)) [some (w.heap.size,.big x),some (w.heap.size+1,.big y),some (w.heap.size+1+1,.zref),some (g,.big (-((Int.gcd x y:Nat):Int))),some (B9,.big (x/(-((Int.gcd x y:Nat):Int)))),some (B10,.big (x%(-((Int.gcd x y:Nat):Int)))),some (n.heap.size,.big (y/(-((Int.gcd x y:Nat):Int)))),some (n.heap.size+1,.big (y%(-((Int.gcd x y:Nat):Int))))]:=a;obtain⟨az,b⟩:=ex ((n.alloc (E #[C N W S,D af] 83)).alloc (E #[C P X T,D ah] 83));obtain⟨aw,c⟩:=ex (n.heap.size);rw[b,c]at a;rw[b];rw[c];obtain⟨fu,l⟩:=ex (aw+1);rw[l]at a ⊢;have z:Hid (Mem w az [some (w.heap.size,.big x),some (w.heap.size+1,.big y),some (w.heap.size+1+1,.zref),some (g,.big (-((Int.gcd x y:Nat):Int))),some (B9,.big (x/(-((Int.gcd x y:Nat):Int)))),some (B10,.big (x%(-((Int.gcd x y:Nat):Int)))),some (aw,.big (y/(-((Int.gcd x y:Nat):Int)))),some (fu,.big (y%(-((Int.gcd x y:Nat):Int))))]):=J (a);clear o;clear a b c l;clear f8 Qr Qk de f9 Ua Qy dh j k f;obtain⟨bf,dx,bt,fh,gi,ga⟩:=z.o.big (i:=4) rfl;obtain⟨ii,ij⟩:=gi.cp;obtain⟨bg,dz,bu,fi,gj,gb⟩:=z.o.big (i:=6) rfl;obtain⟨ik,il⟩:=gj.cp;have ap:=z.o.zref (i:=2) rfl;obtain⟨Qw,Qp,Qg,Qj⟩:=ap.cq;obtain⟨iw,ix,iy,iz⟩:=ap.fq;have hr:Js az (B #[C bf dx bt,D fh,C bg dz bu,D fi]) (Rat.divInt x y):=Js.mk (by rw[MQ r.o,<-t.o];exact ga) (by rw[MR r.o,<-t.o];exact gb);have Qf:=z.o.ge 2 rfl;have hB:=z.o.2.2;go_wp2_with fail
   exact BA (v:=B #[C bf dx bt,D fh,C bg dz bu,D fi]) (by simp[results,Tryz.results80,go_sem,Qw,Qp,Qg,Qj]) rfl ⟨_,rfl,hr.put4 ap rfl rfl rfl rfl _ _ _ _,Jw hB Qf _ _ _ _⟩
 . have HL:=J s;obtain⟨gp,jg,ia,jn,fb,di⟩:=p.o.big (i:=1) rfl;have Qu:=fb.c1;have hs:=Ju.sign di;rw[BI s]at hs;subst hs;clear s;go_upto_region 4 with fail
   clear fb Qu di;obtain⟨K,t,A⟩:=Di (show((Int.gcd x y:Nat):Int)≠0 by have:=SU (x:=x) r.o;omega) (show((Int.gcd x y:Nat):Int)=(if y<0 then -((Int.gcd x y:Nat):Int)else((Int.gcd x y:Nat):Int))by rw[BC (by have:=HL.o;omega)]) HG.o;obtain⟨gr,jh,ib,jo,fd,dj⟩:=p.o.big (i:=0) rfl;obtain⟨Qh,Qz⟩:=fd.cp;obtain⟨gu,ji,ic,jp,fe,dp⟩:=p.o.big (i:=3) rfl;obtain⟨Qt,Qo⟩:=fe.cp;go_upto_region 5 with(go_at_call 111;refine(NA _ _ x (((Int.gcd x y:Nat):Int)) _ dj dp K.o (by have:=Qa.o.size;omega) (by have:=A.o.size;omega)).mono ?_;rintro e m ⟨u1,u2,rfl,j,k,f⟩;obtain⟨L,U,Q,ad,rfl⟩:=Ju.form2 j;obtain⟨M,V,R,ae,rfl⟩:=Ju.form2 k)
   have a:=Mem.push (Mem.push (p.o.below f) (.big (x/((Int.gcd x y:Nat):Int))) j) (.big (x%((Int.gcd x y:Nat):Int))) (Has.alloc (d:=.big (x%((Int.gcd x y:Nat):Int))) k _);simp only[A1]at a;have a:Mem w ((m.alloc (E #[C L U Q,D ad] 83)).alloc (E #[C M V R,D ae] 83)) [some (w.heap.size,.big x),some (w.heap.size+1,.big y),some (w.heap.size+1+1,.zref),some (g,.big (((Int.gcd x y:Nat):Int))),some (m.heap.size,.big (x/((Int.gcd x y:Nat):Int))),some (m.heap.size+1,.big (x%((Int.gcd x y:Nat):Int)))]:=a;obtain⟨fy,b⟩:=ex ((m.alloc (E #[C L U Q,D ad] 83)).alloc (E #[C M V R,D ae] 83));obtain⟨ai,c⟩:=ex (m.heap.size);rw[b,c]at a;rw[b];rw[c];obtain⟨ak,l⟩:=ex (ai+1);rw[l]at a ⊢;have M3:Hid (Mem w fy [some (w.heap.size,.big x),some (w.heap.size+1,.big y),some (w.heap.size+1+1,.zref),some (g,.big (((Int.gcd x y:Nat):Int))),some (ai,.big (x/((Int.gcd x y:Nat):Int))),some (ak,.big (x%((Int.gcd x y:Nat):Int)))]):=J (a);clear p;clear a b c l;clear fd Qh Qz dj fe Qt Qo dp j k f;obtain⟨gv,jj,ie,jr,ff,dt⟩:=M3.o.big (i:=1) rfl;obtain⟨Qn,Qq⟩:=ff.cp;obtain⟨gw,jk,ig,js,fg,du⟩:=M3.o.big (i:=3) rfl;obtain⟨Qx,Qs⟩:=fg.cp;go_upto_region 6 with(go_at_call 111;refine(NA _ _ y (((Int.gcd x y:Nat):Int)) _ dt du K.o (by have:=Qb.o.size;omega) (by have:=A.o.size;omega)).mono ?_;rintro e n ⟨u1,u2,rfl,j,k,f⟩;obtain⟨N,W,S,af,rfl⟩:=Ju.form2 j;obtain⟨P,X,T,ah,rfl⟩:=Ju.form2 k)
   have a:=Mem.push (Mem.push (M3.o.below f) (.big (y/((Int.gcd x y:Nat):Int))) j) (.big (y%((Int.gcd x y:Nat):Int))) (Has.alloc (d:=.big (y%((Int.gcd x y:Nat):Int))) k _);simp only[A1]at a;have a:Mem w ((n.alloc (E #[C N W S,D af] 83)).alloc (E #[C P X T,D ah] 83)) [some (w.heap.size,.big x),some (w.heap.size+1,.big y),some (w.heap.size+1+1,.zref),some (g,.big (((Int.gcd x y:Nat):Int))),some (ai,.big (x/((Int.gcd x y:Nat):Int))),some (ak,.big (x%((Int.gcd x y:Nat):Int))),some (n.heap.size,.big (y/((Int.gcd x y:Nat):Int))),some (n.heap.size+1,.big (y%((Int.gcd x y:Nat):Int)))]:=a;obtain⟨bc,b⟩:=ex ((n.alloc (E #[C N W S,D af] 83)).alloc (E #[C P X T,D ah] 83));obtain⟨ay,c⟩:=ex (n.heap.size);rw[b,c]at a;rw[b];rw[c];obtain⟨fw,l⟩:=ex (ay+1);rw[l]at a ⊢;have o:Hid (Mem w bc [some (w.heap.size,.big x),some (w.heap.size+1,.big y),some (w.heap.size+1+1,.zref),some (g,.big (((Int.gcd x y:Nat):Int))),some (ai,.big (x/((Int.gcd x y:Nat):Int))),some (ak,.big (x%((Int.gcd x y:Nat):Int))),some (ay,.big (y/((Int.gcd x y:Nat):Int))),some (fw,.big (y%((Int.gcd x y:Nat):Int)))]):=J (a);clear M3;clear a b c l;clear ff Qn Qq dt fg Qx Qs du j k f;obtain⟨bh,ed,ce,fj,gk,gg⟩:=o.o.big (i:=4) rfl;obtain⟨im,io⟩:=gk.cp;obtain⟨bi,ei,ci,fk,gl,gh⟩:=o.o.big (i:=6) rfl;obtain⟨ir,iu⟩:=gl.cp;have aq:=o.o.zref (i:=2) rfl;obtain⟨Qv,Ql,Qi,Qm⟩:=aq.cq;obtain⟨ja,jb,jc,jd⟩:=aq.fq;have hr:Js bc (B #[C bh ed ce,D fj,C bi ei ci,D fk]) (Rat.divInt x y):=Js.mk (by rw[MQ r.o,<-t.o];exact gg) (by rw[MR r.o,<-t.o];exact gh);have Qf:=o.o.ge 2 rfl;have hB:=o.o.2.2;go_wp2_with fail
   exact BA (v:=B #[C bh ed ce,D fj,C bi ei ci,D fk]) (by simp[results,Tryz.results80,go_sem,Qv,Ql,Qi,Qm]) rfl ⟨_,rfl,hr.put4 aq rfl rfl rfl rfl _ _ _ _,Jw hB Qf _ _ _ _⟩
theorem SV(va vb:H)(p q:Rat)(w:F)(ha:Js w va p)(hb:Js w vb q)(ay:Sq p)(az:Sq q):
 Calls G 43 #[va,vb] w λe c=>∃u,e=.returned u/\Js c u (p+q)/\Bl w c:=by
 obtain⟨af,bg,ak,bi,ai,bc,an,bk,rfl⟩:=Js.form ha;obtain⟨ah,bh,am,bj,aj,bf,ap,bm,rfl⟩:=Js.form hb;have m:=((((Mem.nil w).push (.ref p) ha).push (.ref q) (Has.alloc (d:=.ref q) hb _)).push .zref rfl);simp only[A1]at m;have m:Mem w (((w.alloc (E #[C af bg ak,D bi,C ai bc an,D bk] 85)).alloc (E #[C ah bh am,D bj,C aj bf ap,D bm] 85)).alloc (E #[C none 0 0,D false,C none 0 0,D false] 85)) [some (w.heap.size,.ref p),some (w.heap.size+1,.ref q),some (w.heap.size+1+1,.zref)]:=m;obtain⟨W0,ad⟩:=ex (((w.alloc (E #[C af bg ak,D bi,C ai bc an,D bk] 85)).alloc (E #[C ah bh am,D bj,C aj bf ap,D bm] 85)).alloc (E #[C none 0 0,D false,C none 0 0,D false] 85));have Qu:=J ad;rw[ad]at m;have g:Hid (Mem w W0 [some (w.heap.size,.ref p),some (w.heap.size+1,.ref q),some (w.heap.size+1+1,.zref)]):=J m;have j:=J ay;have k:=J az;clear m ad ha hb ay az;go_enter Tryz.func43,Tryz.ntmps43
 go_upto_region 1 with fail
 rw[Qu.o];clear Qu;obtain⟨a1,l1,c1,s1,b1,k1,d1,t1,N,r1,i1,j1⟩:=g.o.ref (i:=0) rfl;obtain⟨r,t,y,A⟩:=N.cq;obtain⟨a2,l2,c2,s2,b2,k2,d2,t2,P,r2,i2,j2⟩:=g.o.ref (i:=1) rfl;obtain⟨s,o,n,L⟩:=P.cq;have a:=g.o.zref (i:=2) rfl;obtain⟨z,x,M,K⟩:=a.cq;obtain⟨U,T,S,Q⟩:=a.fq;obtain⟨H4,H9,Qx,Qv,Qw⟩:=Gp (λ(V:F) (h:Bl W0 V)=>IM _ _ (p.num) ((q.den:Int)) V (i1.below h) (j2.below h) (by have:=j.o.num.size;omega) (by have:=k.o.den.size;omega)) (λ(V:F) (h:Bl W0 V)=>IM _ _ (q.num) ((p.den:Int)) V (i2.below h) (j1.below h) (by have:=k.o.num.size;omega) (by have:=j.o.den.size;omega)) (λ(V:F) (h:Bl W0 V) (v4:H) (b:Ju V v4 (p.num*(q.den:Int))) (v9:H) (f:Ju V v9 (q.num*(p.den:Int)))=>N8 _ _ (p.num*(q.den:Int)) (q.num*(p.den:Int)) V b f (by have:=(j.o.cross k.o).size;omega) (by have:=(k.o.cross j.o).size;omega)) (λ(V:F) (h:Bl W0 V)=>IM _ _ ((p.den:Int)) ((q.den:Int)) V (j1.below h) (j2.below h) (by have:=j.o.den.size;omega) (by have:=k.o.den.size;omega)) λ(V:F) (h:Bl W0 V) (bn:H) (l:Ju V bn (p.num*(q.den:Int)+q.num*(p.den:Int))) (bt:H) (R:Ju V bt ((p.den:Int)*(q.den:Int)))=>(by have h:=Ko _ _ (p.num*(q.den:Int)+q.num*(p.den:Int)) ((p.den:Int)*(q.den:Int)) V l R (Co (by have:=p.den_nz;omega) (by have:=q.den_nz;omega)) (j.o.sumN k.o) (j.o.mulD k.o);rw[QM]at h;exact h);have de:w.heap.size≠w.heap.size+1+1:=g.o.ne 0 2 rfl rfl DP;have dh:w.heap.size+1≠w.heap.size+1+1:=g.o.ne 1 2 rfl rfl DP;have hq:Bl W0 W0.drew:=(BB _ W0).drew;go_region_held3 (λc=>c.cell? ⟨w.heap.size,0,none⟩=some (C a1 l1 c1)/\c.cell? ⟨w.heap.size,1,none⟩=some (D s1)/\c.cell? ⟨w.heap.size,2,none⟩=some (C b1 k1 d1)/\c.cell? ⟨w.heap.size,3,none⟩=some (D t1)/\c.cell? ⟨w.heap.size+1,0,none⟩=some (C a2 l2 c2)/\c.cell? ⟨w.heap.size+1,1,none⟩=some (D s2)/\c.cell? ⟨w.heap.size+1,2,none⟩=some (C b2 k2 d2)/\c.cell? ⟨w.heap.size+1,3,none⟩=some (D t2)) (first|(with_reducible exact⟨r,t,y,A,s,o,n,L⟩)|(go_keep;done)|(refine⟨?_,?_,?_,?_,?_,?_,?_,?_⟩<;>((repeat rw[JN O]);first|assumption|(go_keep;done))))
  (first
   |(go_at_call 82;refine(H4.o _ hq ).mono ?_;clear H4;rintro e w4 ⟨v4,rfl,b,ck⟩;have hq:=Bt hq ck;obtain⟨r,t,y,A⟩:=(N.below hq).cq;obtain⟨s,o,n,L⟩:=(P.below hq).cq;obtain⟨z,x,M,K⟩:=(a.below hq).cq;obtain⟨U,T,S,Q⟩:=(a.below hq).fq)
   |(go_at_call 82;refine(H9.o _ hq ).mono ?_;clear H9;rintro e w9 ⟨v9,rfl,f,aw⟩;have b:=b.below aw;have hq:=Bt hq aw;obtain⟨r,t,y,A⟩:=(N.below hq).cq;obtain⟨s,o,n,L⟩:=(P.below hq).cq;obtain⟨z,x,M,K⟩:=(a.below hq).cq;obtain⟨U,T,S,Q⟩:=(a.below hq).fq)
   |(go_at_call 81;refine(Qx.o _ hq _ b _ f).mono ?_;clear Qx;rintro e dj ⟨bn,rfl,l,ae⟩;have b:=b.below ae;have f:=f.below ae;have hq:=Bt hq ae;obtain⟨r,t,y,A⟩:=(N.below hq).cq;obtain⟨s,o,n,L⟩:=(P.below hq).cq;obtain⟨z,x,M,K⟩:=(a.below hq).cq;obtain⟨U,T,S,Q⟩:=(a.below hq).fq)
   |(go_at_call 82;refine(Qv.o _ hq ).mono ?_;clear Qv;rintro e dp ⟨bt,rfl,R,X⟩;have b:=b.below X;have f:=f.below X;have l:=l.below X;have hq:=Bt hq X;obtain⟨r,t,y,A⟩:=(N.below hq).cq;obtain⟨s,o,n,L⟩:=(P.below hq).cq;obtain⟨z,x,M,K⟩:=(a.below hq).cq;obtain⟨U,T,S,Q⟩:=(a.below hq).fq)
   |(go_at_call 80;refine(Qw.o _ hq _ l _ R).mono ?_;clear Qw;rintro e dt ⟨di,rfl,aq,W⟩;obtain⟨bu,cn,ci,co,ce,cl,cj,ct,rfl⟩:=Js.form aq;have b:=b.below W;have f:=f.below W;have l:=l.below W;have R:=R.below W;have hq:=Bt hq W;obtain⟨r,t,y,A⟩:=(N.below hq).cq;obtain⟨s,o,n,L⟩:=(P.below hq).cq;obtain⟨z,x,M,K⟩:=(a.below hq).cq;obtain⟨U,T,S,Q⟩:=(a.below hq).fq))
 all_goals go_wp2_with fail
 have Qz:=Bt g.o.2.2 hq;have Qy:=g.o.ge 2 rfl;exact BA (v:=B #[C bu cn ci,D co,C ce cl cj,D ct]) (by simp[results,Tryz.results43,go_sem,z,x,M,K]) rfl ⟨_,rfl,aq.put4 (a.below hq) rfl rfl rfl rfl _ _ _ _,Jw Qz Qy _ _ _ _⟩
theorem Oy(va vb:H)(p q:Rat)(w:F)(U:Js w va p)(W:Js w vb q)(aq:Sq p)(aw:Sq q):
 Calls G 44 #[va,vb] w λe a=>∃u,e=.returned u/\Js a u (p*q)/\Bl w a:=by
 obtain⟨ad,bc,ai,bg,af,ay,ak,bi,rfl⟩:=Js.form U;obtain⟨ae,bf,aj,bh,ah,az,am,bj,rfl⟩:=Js.form W;have g:=((((Mem.nil w).push (.ref p) U).push (.ref q) (Has.alloc (d:=.ref q) W _)).push .zref rfl);simp only[A1]at g;have g:Mem w (((w.alloc (E #[C ad bc ai,D bg,C af ay ak,D bi] 85)).alloc (E #[C ae bf aj,D bh,C ah az am,D bj] 85)).alloc (E #[C none 0 0,D false,C none 0 0,D false] 85)) [some (w.heap.size,.ref p),some (w.heap.size+1,.ref q),some (w.heap.size+1+1,.zref)]:=g;obtain⟨W0,T⟩:=ex (((w.alloc (E #[C ad bc ai,D bg,C af ay ak,D bi] 85)).alloc (E #[C ae bf aj,D bh,C ah az am,D bj] 85)).alloc (E #[C none 0 0,D false,C none 0 0,D false] 85));have Qs:=J T;rw[T]at g;have c:Hid (Mem w W0 [some (w.heap.size,.ref p),some (w.heap.size+1,.ref q),some (w.heap.size+1+1,.zref)]):=J g;have k:=J aq;have l:=J aw;clear g T U W aq aw;go_enter Tryz.func44,Tryz.ntmps44
 go_upto_region 1 with fail
 rw[Qs.o];clear Qs;obtain⟨a1,l1,c1,s1,b1,k1,d1,t1,M,r1,i1,j1⟩:=c.o.ref (i:=0) rfl;obtain⟨o,s,x,z⟩:=M.cq;obtain⟨a2,l2,c2,s2,b2,k2,d2,t2,N,r2,i2,j2⟩:=c.o.ref (i:=1) rfl;obtain⟨r,n,m,K⟩:=N.cq;have b:=c.o.zref (i:=2) rfl;obtain⟨y,t,L,A⟩:=b.cq;obtain⟨S,R,Q,P⟩:=b.fq;obtain⟨H4,H9,Qt⟩:=Di (λ(V:F) (h:Bl W0 V)=>IM _ _ (p.num) (q.num) V (i1.below h) (i2.below h) (by have:=k.o.num.size;omega) (by have:=l.o.num.size;omega)) (λ(V:F) (h:Bl W0 V)=>IM _ _ ((p.den:Int)) ((q.den:Int)) V (j1.below h) (j2.below h) (by have:=k.o.den.size;omega) (by have:=l.o.den.size;omega)) λ(V:F) (h:Bl W0 V) (v4:H) (f:Ju V v4 (p.num*q.num)) (v9:H) (j:Ju V v9 ((p.den:Int)*(q.den:Int)))=>(by have h:=Ko _ _ (p.num*q.num) ((p.den:Int)*(q.den:Int)) V f j (Co (by have:=p.den_nz;omega) (by have:=q.den_nz;omega)) (k.o.mulN l.o) (k.o.mulD l.o);rw[QL]at h;exact h);have cl:w.heap.size≠w.heap.size+1+1:=c.o.ne 0 2 rfl rfl DP;have cn:w.heap.size+1≠w.heap.size+1+1:=c.o.ne 1 2 rfl rfl DP;have hq:Bl W0 W0.drew:=(BB _ W0).drew;go_region_held3 (λa=>a.cell? ⟨w.heap.size,0,none⟩=some (C a1 l1 c1)/\a.cell? ⟨w.heap.size,1,none⟩=some (D s1)/\a.cell? ⟨w.heap.size,2,none⟩=some (C b1 k1 d1)/\a.cell? ⟨w.heap.size,3,none⟩=some (D t1)/\a.cell? ⟨w.heap.size+1,0,none⟩=some (C a2 l2 c2)/\a.cell? ⟨w.heap.size+1,1,none⟩=some (D s2)/\a.cell? ⟨w.heap.size+1,2,none⟩=some (C b2 k2 d2)/\a.cell? ⟨w.heap.size+1,3,none⟩=some (D t2)) (first|(with_reducible exact⟨o,s,x,z,r,n,m,K⟩)|(go_keep;done)|(refine⟨?_,?_,?_,?_,?_,?_,?_,?_⟩<;>((repeat rw[JN O]);first|assumption|(go_keep;done))))
  (first
   |(go_at_call 82;refine(H4.o _ hq ).mono ?_;clear H4;rintro e w4 ⟨v4,rfl,f,bu⟩;have hq:=Bt hq bu;obtain⟨o,s,x,z⟩:=(M.below hq).cq;obtain⟨r,n,m,K⟩:=(N.below hq).cq;obtain⟨y,t,L,A⟩:=(b.below hq).cq;obtain⟨S,R,Q,P⟩:=(b.below hq).fq)
   |(go_at_call 82;refine(H9.o _ hq ).mono ?_;clear H9;rintro e w9 ⟨v9,rfl,j,ap⟩;have f:=f.below ap;have hq:=Bt hq ap;obtain⟨o,s,x,z⟩:=(M.below hq).cq;obtain⟨r,n,m,K⟩:=(N.below hq).cq;obtain⟨y,t,L,A⟩:=(b.below hq).cq;obtain⟨S,R,Q,P⟩:=(b.below hq).fq)
   |(go_at_call 80;refine(Qt.o _ hq _ f _ j).mono ?_;clear Qt;rintro e ct ⟨co,rfl,an,X⟩;obtain⟨bk,ci,bn,cj,bm,ce,bt,ck,rfl⟩:=Js.form an;have f:=f.below X;have j:=j.below X;have hq:=Bt hq X;obtain⟨o,s,x,z⟩:=(M.below hq).cq;obtain⟨r,n,m,K⟩:=(N.below hq).cq;obtain⟨y,t,L,A⟩:=(b.below hq).cq;obtain⟨S,R,Q,P⟩:=(b.below hq).fq))
 all_goals go_wp2_with fail
 have Qv:=Bt c.o.2.2 hq;have Qu:=c.o.ge 2 rfl;exact BA (v:=B #[C bk ci bn,D cj,C bm ce bt,D ck]) (by simp[results,Tryz.results44,go_sem,y,t,L,A]) rfl ⟨_,rfl,an.put4 (b.below hq) rfl rfl rfl rfl _ _ _ _,Jw Qv Qu _ _ _ _⟩
theorem SW(va vb:H)(p q:Rat)(w:F)(U:Js w va p)(W:Js w vb q)(aw:Sq p)(ay:Sq q)(aq:q≠0):
 Calls G 77 #[va,vb] w λe a=>∃u,e=.returned u/\Js a u (p/q)/\Bl w a:=by
 obtain⟨ad,bf,ai,bh,af,az,ak,bj,rfl⟩:=Js.form U;obtain⟨ae,bg,aj,bi,ah,bc,am,bk,rfl⟩:=Js.form W;have g:=((((Mem.nil w).push (.ref p) U).push (.ref q) (Has.alloc (d:=.ref q) W _)).push .zref rfl);simp only[A1]at g;have g:Mem w (((w.alloc (E #[C ad bf ai,D bh,C af az ak,D bj] 85)).alloc (E #[C ae bg aj,D bi,C ah bc am,D bk] 85)).alloc (E #[C none 0 0,D false,C none 0 0,D false] 85)) [some (w.heap.size,.ref p),some (w.heap.size+1,.ref q),some (w.heap.size+1+1,.zref)]:=g;obtain⟨W0,T⟩:=ex (((w.alloc (E #[C ad bf ai,D bh,C af az ak,D bj] 85)).alloc (E #[C ae bg aj,D bi,C ah bc am,D bk] 85)).alloc (E #[C none 0 0,D false,C none 0 0,D false] 85));have Qt:=J T;rw[T]at g;have c:Hid (Mem w W0 [some (w.heap.size,.ref p),some (w.heap.size+1,.ref q),some (w.heap.size+1+1,.zref)]):=J g;obtain⟨k,l,Qo⟩:=Di aw ay aq;clear g T U W aw ay aq;go_enter Tryz.func77,Tryz.ntmps77
 go_upto_region 1 with fail
 rw[Qt.o];clear Qt;obtain⟨a1,l1,c1,s1,b1,k1,d1,t1,M,r1,i1,j1⟩:=c.o.ref (i:=0) rfl;obtain⟨o,s,x,z⟩:=M.cq;obtain⟨a2,l2,c2,s2,b2,k2,d2,t2,N,r2,i2,j2⟩:=c.o.ref (i:=1) rfl;obtain⟨r,n,m,K⟩:=N.cq;have b:=c.o.zref (i:=2) rfl;obtain⟨y,t,L,A⟩:=b.cq;obtain⟨S,R,Q,P⟩:=b.fq;obtain⟨H4,H9,Qu⟩:=Di (λ(V:F) (h:Bl W0 V)=>IM _ _ (p.num) ((q.den:Int)) V (i1.below h) (j2.below h) (by have:=k.o.num.size;omega) (by have:=l.o.den.size;omega)) (λ(V:F) (h:Bl W0 V)=>IM _ _ ((p.den:Int)) (q.num) V (j1.below h) (i2.below h) (by have:=k.o.den.size;omega) (by have:=l.o.num.size;omega)) λ(V:F) (h:Bl W0 V) (v4:H) (f:Ju V v4 (p.num*(q.den:Int))) (v9:H) (j:Ju V v9 ((p.den:Int)*q.num))=>(by have h:=Ko _ _ (p.num*(q.den:Int)) ((p.den:Int)*q.num) V f j (Co (by have:=p.den_nz;omega) λh=>Qo.o (Fl.1 h)) (k.o.cross l.o) (k.o.cross2 l.o);rw[QK]at h;exact h);have cn:w.heap.size≠w.heap.size+1+1:=c.o.ne 0 2 rfl rfl DP;have co:w.heap.size+1≠w.heap.size+1+1:=c.o.ne 1 2 rfl rfl DP;have hq:Bl W0 W0.drew:=(BB _ W0).drew;go_region_held3 (λa=>a.cell? ⟨w.heap.size,0,none⟩=some (C a1 l1 c1)/\a.cell? ⟨w.heap.size,1,none⟩=some (D s1)/\a.cell? ⟨w.heap.size,2,none⟩=some (C b1 k1 d1)/\a.cell? ⟨w.heap.size,3,none⟩=some (D t1)/\a.cell? ⟨w.heap.size+1,0,none⟩=some (C a2 l2 c2)/\a.cell? ⟨w.heap.size+1,1,none⟩=some (D s2)/\a.cell? ⟨w.heap.size+1,2,none⟩=some (C b2 k2 d2)/\a.cell? ⟨w.heap.size+1,3,none⟩=some (D t2)) (first|(with_reducible exact⟨o,s,x,z,r,n,m,K⟩)|(go_keep;done)|(refine⟨?_,?_,?_,?_,?_,?_,?_,?_⟩<;>((repeat rw[JN O]);first|assumption|(go_keep;done))))
  (first
   |(go_at_call 82;refine(H4.o _ hq ).mono ?_;clear H4;rintro e w4 ⟨v4,rfl,f,ce⟩;have hq:=Bt hq ce;obtain⟨o,s,x,z⟩:=(M.below hq).cq;obtain⟨r,n,m,K⟩:=(N.below hq).cq;obtain⟨y,t,L,A⟩:=(b.below hq).cq;obtain⟨S,R,Q,P⟩:=(b.below hq).fq)
   |(go_at_call 82;refine(H9.o _ hq ).mono ?_;clear H9;rintro e w9 ⟨v9,rfl,j,ap⟩;have f:=f.below ap;have hq:=Bt hq ap;obtain⟨o,s,x,z⟩:=(M.below hq).cq;obtain⟨r,n,m,K⟩:=(N.below hq).cq;obtain⟨y,t,L,A⟩:=(b.below hq).cq;obtain⟨S,R,Q,P⟩:=(b.below hq).fq)
   |(go_at_call 80;refine(Qu.o _ hq _ f _ j).mono ?_;clear Qu;rintro e de ⟨ct,rfl,an,X⟩;obtain⟨bm,cj,bt,ck,bn,ci,bu,cl,rfl⟩:=Js.form an;have f:=f.below X;have j:=j.below X;have hq:=Bt hq X;obtain⟨o,s,x,z⟩:=(M.below hq).cq;obtain⟨r,n,m,K⟩:=(N.below hq).cq;obtain⟨y,t,L,A⟩:=(b.below hq).cq;obtain⟨S,R,Q,P⟩:=(b.below hq).fq))
 all_goals go_wp2_with fail
 have Qw:=Bt c.o.2.2 hq;have Qv:=c.o.ge 2 rfl;exact BA (v:=B #[C bm cj bt,D ck,C bn ci bu,D cl]) (by simp[results,Tryz.results77,go_sem,y,t,L,A]) rfl ⟨_,rfl,an.put4 (b.below hq) rfl rfl rfl rfl _ _ _ _,Jw Qw Qv _ _ _ _⟩
theorem Oz(u:H)(q:Rat)(w:F)(d:Js w u q):
 Calls G 36 #[u] w λe z=>e=.returned (.int .i64 q.num.sign)/\Bl w z:=by
 obtain⟨n,f⟩:=ex (q.num.sign);rw[f];have v:=J f;clear f;obtain⟨k,r,m,s,l,p,o,t,rfl⟩:=Js.form d;have a:=((Mem.nil w).push (.ref q) d);have a:Mem w (w.alloc (E #[C k r m,D s,C l p o,D t] 85)) [some (w.heap.size,.ref q)]:=a;obtain⟨W0,c⟩:=ex (w.alloc (E #[C k r m,D s,C l p o,D t] 85));have j:=J c;rw[c]at a;have g:Hid (Mem w W0 [some (w.heap.size,.ref q)]):=J a;clear a c d;go_enter Tryz.func36,Tryz.ntmps36
 go_upto_region 1 with fail
 rw[j.o];clear j;obtain⟨A,l1,c1,Q,K,P,d1,R,y,r1,x,N⟩:=g.o.ref (i:=0) rfl;obtain⟨L,M⟩:=y.cp;have b:=J (dC _ q.num W0 x);rw[v.o]at b;go_wp2_with(go_at_call 73;refine b.o.mono ?_;clear b;rintro e S ⟨rfl,hq⟩)
 go_ret;exact⟨rfl,Bt g.o.2.2 hq⟩
theorem KT(n:Int)(s:-9223372036854775808<=n)(t:n<=9223372036854775807)(w:F):
 Calls G 42 #[.int .i64 n] w λe N=>∃u,e=.returned u/\Js N u (n:Rat)/\Bl w N:=by
 have f:=J λ(V:F)=>IF n s t V;clear s t;have a:=((Mem.nil w).push .zref rfl);have a:Mem w (w.alloc (E #[C none 0 0,D false,C none 0 0,D false] 85)) [some (w.heap.size,.zref)]:=a;obtain⟨W0,d⟩:=ex (w.alloc (E #[C none 0 0,D false,C none 0 0,D false] 85));have j:=J d;rw[d]at a;have c:Hid (Mem w W0 [some (w.heap.size,.zref)]):=J a;clear a d;go_enter Tryz.func42,Tryz.ntmps42
 go_upto_region 1 with fail
 rw[j.o];clear j;have b:=c.o.zref (i:=0) rfl;obtain⟨m,g,k,l⟩:=b.cq;obtain⟨Q,R,T,S⟩:=b.fq;go_wp2_with(first
  |(go_at_call 79;refine(f.o _).mono ?_;clear f;rintro e w1 ⟨u1,rfl,y,W⟩;obtain⟨o,A,q,L,rfl⟩:=Ju.form2 y)
  |(go_at_call 79;refine(IF 1 O O _).mono ?_;rintro e w2 ⟨u2,rfl,z,x⟩;obtain⟨p,K,r,M,rfl⟩:=Ju.form2 z;have hq:=Bt W x;obtain⟨m,g,k,l⟩:=(b.below hq).cq;obtain⟨Q,R,T,S⟩:=(b.below hq).fq))
 have X:Js w2 (B #[C o A q,D L,C p K r,D M]) (n:Rat):=Js.mk (y.below x) z;have U:=Bt c.o.2.2 hq;have P:=c.o.ge 0 rfl;exact BA (v:=B #[C o A q,D L,C p K r,D M]) (by simp[results,Tryz.results42,go_sem,m,g,k,l]) rfl ⟨_,rfl,X.put4 (b.below hq) rfl rfl rfl rfl _ _ _ _,Jw U P _ _ _ _⟩
theorem RowK.formsF{cap:Nat}(h:RowK false W (C a l cap) qs):l=qs.length/\l<=cap/\cap<=9223372036854775807/\l<=1099511627776/\∃(s t:Nat->Bool) (k m:Nat->Option Addr) (p n o dd:Nat->Nat),∀j,j<l->Js W (B #[C (k j) (p j) (n j),D (s j),C (m j) (o j) (dd j),D (t j)]) (cf qs j)/\
 ∃b,a=some ⟨b,0,none⟩/\b<W.heap.size/\W.cell? ⟨b,j*4,none⟩=some (C (k j) (p j) (n j))/\W.cell? ⟨b,j*4+1,none⟩=some (D (s j))/\W.cell? ⟨b,j*4+2,none⟩=some (C (m j) (o j) (dd j))/\W.cell? ⟨b,j*4+3,none⟩=some (D (t j)):=by
 obtain⟨r,v,w,A,x,y,z,u,L⟩:=h.pick;refine⟨r,v,w,A,λj=>Mt (y j),λj=>Mt (u j),λj=>Mu (x j),λj=>Mu (z j),λj=>Ii (x j),λj=>Mv (x j),λj=>Ii (z j),λj=>Mv (z j),λj M=>?_⟩;obtain⟨i,b,q,K,c0,c1,c2,c3⟩:=L j M;obtain⟨a',l',c',s,N,Q,P,t,e,_⟩:=(show Js W _ _ from i);simp only[Value.agg.injEq,F1,FA,and_true]at e;obtain⟨c,d,f,g⟩:=e;rw[c,d,f,g]at i;rw[c]at c0;rw[d]at c1;rw[f]at c2;rw[g]at c3;dsimp only;rw[c,d,f,g];exact⟨i,b,q,K,c0,c1,c2,c3⟩
theorem dD(q:Rat):(q.num.sign==0)=decide (q=0):=by
 rw[Cw,beq_iff_eq,BR,Int.sign_eq_zero_iff_zero,Fl]
theorem SX{len:Nat}(hl:len=qs.length)(c:k<=len)(a:∀j,k<=j->cf qs j=0)(b:k=0\/cf qs (k-1)≠0):Jc qs=qs.take k/\(Jc qs).length=k:=by
 have e:=Pn (p:=qs) (n:=k) O b a;exact⟨e,by rw[e,Am];omega⟩
theorem dE(a:Option Addr)(len cap:Nat)(qs:List Rat)(w:F)(h:RowK false w (C a len cap) qs):
 Calls G 45 #[C a len cap] w λe Q=>e=.returned (C a (Jc qs).length cap)/\RowK false Q (C a (Jc qs).length cap) (Jc qs)/\Bl w Q:=by
 obtain⟨hl,ad,ae,af,s,t,V,W,ll,X,kk,dd,A⟩:=h.formsF;obtain⟨o,R,x⟩:=Di hl A h;clear A hl h;go_enter Tryz.func45,Tryz.ntmps45
 go_wp2;go_loopw [3] (λv wr=>∃k:Nat,k<=len/\v=.int .i64 (k:Int)/\Hid ((∀j,k<=j->cf qs j=0)/\Bl w wr)) λv _=>(intOf v).toNat
 case atStart=>exact⟨len,Aa _,rfl,J ⟨λj S=>JZ (by have:=o.o;omega),BB _ _⟩⟩
 case round=>
  obtain⟨k,hk,rfl,c⟩:=hrel;cases k with
  |zero=>
   go_wp2;go_ret;obtain⟨r,g⟩:=SX o.o (k:=0) (AC _) c.o.1 (Or.inl rfl);refine⟨by rw[g];rfl,?_,c.o.2⟩;rw[g,r];exact(x.o.below c.o.2).take O
  |succ k=>
   obtain⟨K,b,rfl,l,L,M,N,P⟩:=R.o k O;have d:=c.o.2;have y:=J (K.below d);replace L:=(d.cell (p:=⟨b,_,none⟩) l).trans L;replace M:=(d.cell (p:=⟨b,_,none⟩) l).trans M;replace N:=(d.cell (p:=⟨b,_,none⟩) l).trans N;replace P:=(d.cell (p:=⟨b,_,none⟩) l).trans P;have i:=J (Oz _ _ wr y.o);have m:=dD (cf qs k);clear K d y;by_cases f:cf qs k=0
   . rw[show decide (cf qs k=0)=true from BK f]at m;have q:=J f;clear f;generalize (cf qs k).num.sign=n at i m;go_wp2_with(go_at_call 36;refine i.o.mono ?_;rintro e U ⟨rfl,u⟩)
     go_roundw
     case rel=>
      refine⟨k,O,Y,J ⟨λj S=>?_,Bt c.o.2 u⟩⟩;by_cases T:j=k
      . rw[T];exact q.o
      . exact c.o.1 j O
     case measure=>simp[intOf]
   . rw[show decide (cf qs k=0)=false from BI f]at m;have q:=J f;clear f;generalize (cf qs k).num.sign=n at i m;go_wp2_with(go_at_call 36;refine i.o.mono ?_;rintro e U ⟨rfl,u⟩)
     go_ret;have z:=Bt c.o.2 u;obtain⟨r,g⟩:=SX o.o (k:=k+1) O c.o.1 (Or.inr q.o);refine⟨by rw[g];rfl,?_,z⟩;rw[g,r];exact(x.o.below z).take O
theorem Kp(v:H)(qs:List Rat)(w:F)(h:RowK false w v qs):
 Calls G 45 #[v] w λe b=>∃u,e=.returned u/\RowK false b u (Jc qs)/\Bl w b:=by
 obtain⟨a,l,c,rfl⟩:=h.form;refine(dE a l c qs w h).mono ?_;rintro e b ⟨rfl,d,f⟩;exact⟨_,rfl,d,f⟩
theorem SY{B:Nat}(q:JS W B 85 (C none 0 0) (D false) (C none 0 0) (D false)){v:H}{p:Rat}(h:Js W v p)(x y z u:H):Js (put4 W B x y z u) v p:=h.put4 q rfl rfl rfl rfl _ _ _ _
theorem SZ(v:H)(qs:List Rat)(i:Int)(w:F)(h:RowK false w v qs):
 Calls G 103 #[v,.int .i64 i] w λe X=>∃u,e=.returned u/\Js X u (if i<0 then 0 else cf qs i.toNat)/\Bl w X:=by
 obtain⟨a,l,c,rfl⟩:=h.form;obtain⟨hl,ad,ae,af,s,t,aa,bb,ll,cc,kk,dd,T⟩:=h.formsF;have HL:=J hl;have o:=J T;clear hl T h;have n:Bl w (w.alloc (E #[C none 0 0,D false,C none 0 0,D false] 85)):=Ba w _;have b0:=JS.new w 85 (C none 0 0) (D false) (C none 0 0) (D false);have g:=J λ(V:F)=>KT 0 O O V;by_cases d:i<0\/(l:Int)<=i
 . have HZ:=J (show(if i<0 then(0:Rat)else cf qs i.toNat)=((0:Int):Rat)by
    rcases d with d|d
    . rw[BG d];rfl
    . rw[BC O,JZ (by have:=HL.o;omega)];rfl)
   rw[HZ.o];obtain⟨W0,z⟩:=ex (w.alloc (E #[C none 0 0,D false,C none 0 0,D false] 85));rw[z]at n b0;have S:=J z;clear z o;rcases d with d|d
   . go_enter Tryz.func103,Tryz.ntmps103
     go_upto_region 1 with fail
     rw[S.o];go_wp2_with(go_at_call 42;refine(g.o _).mono ?_;clear g;rintro e w1 ⟨u,rfl,k,j⟩;have f:=b0.below j;obtain⟨A,K,L,M⟩:=f.cq;obtain⟨f0,f1,f2,f3⟩:=f.fq;obtain⟨p,P,r,Q,q,N,x,R,rfl⟩:=Js.form k)
     exact BA (v:=B #[C p P r,D Q,C q N x,D R]) (by simp[results,Tryz.results103,go_sem,A,K,L,M]) rfl ⟨_,rfl,SY f k _ _ _ _,Jw (Bt n j) (Aa _) _ _ _ _⟩
   . have y:¬i<0:=O
     go_enter Tryz.func103,Tryz.ntmps103
     go_upto_region 1 with fail
     rw[S.o];go_wp2_with(go_at_call 42;refine(g.o _).mono ?_;clear g;rintro e w1 ⟨u,rfl,k,j⟩;have f:=b0.below j;obtain⟨A,K,L,M⟩:=f.cq;obtain⟨f0,f1,f2,f3⟩:=f.fq;obtain⟨p,P,r,Q,q,N,x,R,rfl⟩:=Js.form k)
     exact BA (v:=B #[C p P r,D Q,C q N x,D R]) (by simp[results,Tryz.results103,go_sem,A,K,L,M]) rfl ⟨_,rfl,SY f k _ _ _ _,Jw (Bt n j) (Aa _) _ _ _ _⟩
 . have y:¬i<0:=O
   rw[BC y];obtain⟨m,rfl⟩:∃m:Nat,i=(m:Int):=⟨i.toNat,O⟩;have hm:m<l:=O
   obtain⟨U,b,rfl,hb,k0,W,k2,k3⟩:=o.o m hm;have HI:=J U;rw[CE];clear o U y d g b0 n;generalize s m=s1 at *;generalize t m=t1 at *;generalize aa m=a1 at *;generalize bb m=b1 at *;generalize ll m=l1 at *;generalize cc m=c1 at *;generalize kk m=W at *;generalize dd m=d1 at *;go_enter Tryz.func103,Tryz.ntmps103
   go_wp2;exact BA (v:=B #[C a1 l1 c1,D s1,C b1 W d1,D t1]) (by simp[results,Tryz.results103,go_sem]) rfl ⟨_,rfl,HI.o.below (Ba w _),Ba w _⟩
def XA(f:Nat->Rat)(k:Nat):List Rat:=(List.range k).map f
theorem JQ(f:Nat->Rat)(k:Nat):(XA f k).length=k:=by simp[XA]
theorem Y9(f:Nat->Rat)(k:Nat):XA f (k+1)=XA f k++[f k]:=by simp[XA,List.range_succ]
theorem Ld(f:Nat->Rat)(k i:Nat):cf (XA f k) i=if i<k then f i else 0:=L4 k f i
theorem Iq(va vb:H)(ps qs:List Rat)(w:F)(P:RowK false w va ps)(Q:RowK false w vb qs)(af:DZ ps)(ah:DZ qs)(ay:ps.length<1099511627776/\qs.length<1099511627776):
 Calls G 64 #[va,vb] w λe w'=>∃u,e=.returned u/\RowK false w' u (XV ps qs)/\Bl w w':=by
 obtain⟨a,la,ca,rfl⟩:=P.form;obtain⟨b,lb,cb,rfl⟩:=Q.form;obtain⟨ad,an,aq,bk,_⟩:=P.formsF;obtain⟨ae,ap,aw,bm,_⟩:=Q.formsF;obtain⟨n,hn⟩:=ex (max la lb:Nat);obtain⟨r,HA,HB,HP,HQ,Qm,Ql⟩:=MX (show la<=n/\lb<=n/\n<1099511627776/\(∀k,k<n->k<la\/k<lb)from⟨O,O,O,λk hk=>by omega⟩) P Q af ah ad ae;clear P Q af ah ad ae an aq ap aw hn ay;go_enter Tryz.func64,Tryz.ntmps64
 go_wp2;go_loopw [5,6] (λo i wr=>∃k:Nat,k<=n/\i=.int .i64 (k:Int)/\(∃oa oc,o=C oa k oc)/\Hid (Eg false w.heap.size wr o (XA (λi=>cf ps i+cf qs i) k)/\Bl w wr)) λ_ i _=>n-(intOf i).toNat
 case atStart=>exact⟨0,AC _,rfl,⟨_,_,rfl⟩,J ⟨Eg.nil _ _ _,BB _ _⟩⟩
 case round=>
  obtain⟨k,hk,rfl,⟨oa,oc,rfl⟩,d⟩:=hrel;by_cases az:k<n
  . have x:=J (SZ _ ps (k:Int) wr (HA.o.below d.o.2));have t:=J λ(V:F) (h:Bl wr V)=>SZ _ qs (k:Int) V ((HB.o.below d.o.2).below h);rw[BC O,CE]at x;rw[show(if(k:Int)<0 then(0:Rat)else cf qs ((k:Int)).toNat)=cf qs k from by rw[BC O,CE]]at t;have N:=J λ(V:F) (u v:H) (hu:Js V u (cf ps k)) (hv:Js V v (cf qs k))=>SV u v (cf ps k) (cf qs k) V hu hv (HP.o.at k) (HQ.o.at k);have Qj:=r.o.2.2.2 k az;have HK:=J (show k+1<=1099511627776 by have:=r.o.2.2.1;omega);by_cases bi:(k:Int)<(la:Int)
    all_goals
     have Qk:(k:Int)<(la:Int)\/(k:Int)<(lb:Int):=O
    . clear Qj Qk;go_wp2_with(first
       |(go_at_call 103;refine x.o.mono ?_;clear x;rintro e w1 ⟨u1,rfl,c,l⟩;have f:=l)
       |(go_at_call 103;refine(t.o _ f).mono ?_;clear t;rintro e w2 ⟨u2,rfl,M,m⟩;have c:=c.below m;have y:=Bt f m;clear f)
       |(go_at_call 43;refine(N.o _ _ _ c M).mono ?_;clear N;rintro e w3 ⟨u3,rfl,q,A⟩;have g:=Bt y A;clear y c M l m A;obtain⟨ai,bf,ak,bg,aj,bc,am,bh,rfl⟩:=Js.form q;obtain⟨v9,w9,W,L,X,K⟩:=XZ false w.heap.size w3 _ _ (d.o.1.below g) q (by rw[JQ];exact HK.o) (by have:=d.o.2.size;have:=g.size;omega);have s:=J L;have S:=J (K w.heap.size w (Aa _) (Bt d.o.2 g));clear L X K q)
       |(at_builtin;refine Bh _ rfl _ _ 30 30 rfl _ _ rfl rfl _ _ W ?_))
      obtain⟨T,U,z,_⟩:=s.o.form;go_roundw
      case rel=>
       refine⟨k+1,O,by go_num,⟨T,U,?_⟩,J ⟨?_,S.o⟩⟩
       . rw[<-Y9,JQ]at z;exact z
       . rw[Y9];exact s.o
      case measure=>simp[intOf];omega
    . have bj:(k:Int)<(lb:Int):=O
      clear Qj Qk;go_wp2_with(first
       |(go_at_call 103;refine x.o.mono ?_;clear x;rintro e w1 ⟨u1,rfl,c,l⟩;have f:=l)
       |(go_at_call 103;refine(t.o _ f).mono ?_;clear t;rintro e w2 ⟨u2,rfl,M,m⟩;have c:=c.below m;have y:=Bt f m;clear f)
       |(go_at_call 43;refine(N.o _ _ _ c M).mono ?_;clear N;rintro e w3 ⟨u3,rfl,q,A⟩;have g:=Bt y A;clear y c M l m A;obtain⟨ai,bf,ak,bg,aj,bc,am,bh,rfl⟩:=Js.form q;obtain⟨v9,w9,W,L,X,K⟩:=XZ false w.heap.size w3 _ _ (d.o.1.below g) q (by rw[JQ];exact HK.o) (by have:=d.o.2.size;have:=g.size;omega);have s:=J L;have S:=J (K w.heap.size w (Aa _) (Bt d.o.2 g));clear L X K q)
       |(at_builtin;refine Bh _ rfl _ _ 30 30 rfl _ _ rfl rfl _ _ W ?_))
      obtain⟨T,U,z,_⟩:=s.o.form;go_roundw
      case rel=>
       refine⟨k+1,O,by go_num,⟨T,U,?_⟩,J ⟨?_,S.o⟩⟩
       . rw[<-Y9,JQ]at z;exact z
       . rw[Y9];exact s.o
      case measure=>simp[intOf];omega
  . have h1:¬(k:Int)<(la:Int):=by have:=r.o.1;omega
    have h2:¬(k:Int)<(lb:Int):=by have:=r.o.2.1;omega
    have R:=J λ(V:F) (h:Bl wr V)=>Kp _ _ V ((d.o.1.below h).row (by rw[JQ];have:=r.o.2.2.1;omega));have HE:=J (show Jc (XA (λi=>cf ps i+cf qs i) k)=XV ps qs from YG λj=>by
     rw[Ld,XD];split
     . rfl
     . have:=r.o;have g1:=Qm.o;have g2:=Ql.o;rw[JZ (p:=ps) O,JZ (p:=qs) O];grind)
    rw[HE.o]at R;go_wp2_with(go_at_call 45;refine(R.o _ (BB _ _)).mono ?_;clear R;rintro e w1 ⟨u1,rfl,c,l⟩;obtain⟨a8,l8,c8,rfl⟩:=c.form)
    go_ret;exact⟨_,rfl,c,Bt d.o.2 l⟩
