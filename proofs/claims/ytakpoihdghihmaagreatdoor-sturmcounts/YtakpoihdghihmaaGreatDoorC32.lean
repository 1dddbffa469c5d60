import Derived.Test.YtakpoihdghihmaaGreatDoorC31
import Derived.Deep.RegionWith
import Derived.Test.YtakpoihdghihmaaGreatDoorC28
import Derived.Lib.AppendZeros
open Go.Value renaming slice->C,bool->E,agg->B
open Go.Obj renaming cells->F
open Go renaming World->G,Value->I,Calls->L
open Go.Proofs.Tryz renaming prog->H
set_option maxRecDepth 100000
set_option maxHeartbeats 16000000
namespace Go.Proofs.YtakpoihdghihmaaGreatDoor
open Go.RowKit Go.Shelf
attribute [local go_sem] Oper.semAt_some
def TF(W:G):I->Nat
 |C (some p) l _=>val 10000 ((List.range l).map λj=>Ir W ⟨p.block,p.off+j,none⟩)
 |_=>0
variable{s:Bool}{qs:List Rat}{c k l n:Nat}{a:Option Addr}{W:G}
theorem RN.rowVal(h:RN W (C a l c) n):TF W (C a l c)=n:=by
 obtain⟨f,_,_,_,g⟩:=Jw h;rcases A9 l with d|d
 . subst d;have m:n=0:=(JR O).1 (Ao f.symm);subst m;cases a<;>rfl
 . obtain⟨b,off,rfl,_,_⟩:=g 0 d;show val 10000 ((List.range l).map λj=>Ir W ⟨b,off+j,none⟩)=n;have e:(List.range l).map (λj=>Ir W ⟨b,off+j,none⟩)=Je 10000 n:=by
    refine List.ext_getElem (by rw[Cs,List.length_range];exact f) λj p i=>?_;obtain⟨o,q,e,_,k⟩:=g j O;cases e;rw[List.getElem_map,List.getElem_range,Ir,k,Af i];rfl
   rw[e,Jq O]
theorem TG{m:Nat}(h:n<=m):(Je 10000 n).length<=(Je 10000 m).length:=by
 rcases AQ (Je 10000 m).length (Je 10000 n).length with a|a
 . have:=Xc O a;omega
 . exact a
theorem eX(l vb:I)(x y:Int)(w:G)(ha:Jv w l x)(hb:Jv w vb y)(V:EP x<=100000000)(W:EP y<=100000000):
 L H 141 #[l,vb] w λe w'=>∃u,e=.returned u/\Jv w' u (Int.gcd x y:Nat)/\Bl w w':=by
 obtain⟨a,la,ca,rfl,q⟩:=ha;obtain⟨b,lb,cb,rfl,r⟩:=hb;obtain⟨s,hs⟩:=ex (decide (x<0));obtain⟨t,ht⟩:=ex (decide (y<0));rw[hs,ht];clear hs ht;obtain⟨W0,g⟩:=ex (((w.alloc (F #[C a la ca,E s] 45)).alloc (F #[C b lb cb,E t] 45)).alloc (F #[C none 0 0,E false] 45));have m:Bl w W0:=by rw[<-g];exact XS w _ _ _
 have b0:Jp W0 w.heap.size 45 (C a la ca) (E s):=by rw[<-g];exact((Jp.new w _ _ _).alloc _).alloc _
 have b1:Jp W0 (w.heap.size+1) 45 (C b lb cb) (E t):=by
  have h:=(Jp.new (w.alloc (F #[C a la ca,E s] 45)) 45 (C b lb cb) (E t)).alloc (F #[C none 0 0,E false] 45);rw[Ax,g]at h;exact h
 have bR:Jp W0 (w.heap.size+1+1) 45 (C none 0 0) (E false):=by
  have h:=Jp.new ((w.alloc (F #[C a la ca,E s] 45)).alloc (F #[C b lb cb,E t] 45)) 45 (C none 0 0) (E false);rw[Ax,Ax,g]at h;exact h
 have r0:=RN.below q m;have r1:=RN.below r m;have k0:=b0.c0;have k2:=b1.c0;have M:la<=100000000:=by rw[RN.len q];exact V
 have P:lb<=100000000:=by rw[RN.len r];exact W
 have K:=Y g;clear g q r V W;go_enter Tryz.func141,Tryz.ntmps141
 go_upto_region 1 with fail
 rw[K.o];clear K;go_wp2_with fail
 go_loopw [5,6] (λxv z wr=>∃(f:Option Addr) (d c0 X:Nat) (k:Option Addr) (l1 c1 c:Nat),xv=C f d c0/\z=C k l1 c1/\Hid (RN wr (C f d c0) X)/\Hid (RN wr (C k l1 c1) c)/\Hid (Nat.gcd X c=Int.gcd x y)/\(d<=100000000/\l1<=100000000)/\Bl W0 wr)
  (λ_ z wr=>TF wr z)
 case atStart=>exact⟨a,la,ca,x.natAbs,b,lb,cb,y.natAbs,rfl,rfl,Y r0,Y r1,Y rfl,⟨M,P⟩,BA _ W0⟩
 case round=>
  clear r0 r1 M P;obtain⟨f,d,c0,X,k,l1,c1,c,rfl,rfl,S,i,R,⟨ad,U⟩,n⟩:=hrel;rcases A9 l1 with Q|Q
  . subst Q;have N:c=0:=(JR O).1 (Ao (RN.len i.o).symm);have HE:=Y (show X=Int.gcd x y by rw[<-R.o,N,Nat.gcd_zero_right]);have j:=bR.below n;obtain⟨q0,q1⟩:=j.cp;obtain⟨f0,f1⟩:=j.fp;clear N;go_wp2_with fail
    have A:=(K3 S.o).box j rfl rfl (x0:=C f d c0) (x1:=E false);rw[HE.o]at A;have Qj:=Bt m n;have z0:=((j.set0 (C f d c0)).set1 (E false)).c0;have z1:=((j.set0 (C f d c0)).set1 (E false)).c1;exact A0 (v:=B #[C f d c0,E false]) (by simp[results,Tryz.results141,go_sem,z0,z1]) rfl ⟨_,rfl,A,(Qj.setCell (p:=⟨_,0,none⟩) Di _).setCell (p:=⟨_,1,none⟩) Di _⟩
  . have Qi:c≠0:=λe=>by
     have h:=RN.len i.o;rw[e,JH]at h;simp at h;omega
    have Qk:=Y (TE f d c0 k l1 c1 X c wr S.o i.o Qi ad U);have D:=Ci X (show c>0 by omega);go_wp2_with(go_at_call 184;refine Qk.o.mono ?_;rintro e w2 ⟨u,v,rfl,hu,o,T⟩;obtain⟨ua,uc,rfl⟩:=RN.form hu;obtain⟨l,vc,rfl⟩:=RN.form o)
    have Ql:=RN.below i.o T;refine⟨⟨k,l1,c1,c,l,_,vc,X%c,rfl,rfl,Y Ql,Y o,Y (by rw[<-R.o,C4 c,<-Nat.gcd_rec,C4]),⟨U,?_⟩,Bt n T⟩,?_⟩
    . have h1:=TG (F6 D);rw[<-RN.len i.o]at h1;omega
    . rw[RN.rowVal o,RN.rowVal i.o];exact D
theorem eY(w:G)(b c d e:I)(p0 a:I):
 Jp ((((w.alloc (F #[b,c] 45)).alloc (F #[d,e] 45)).alloc (F #[p0,a] 45)).alloc (F #[p0,a] 45)) w.heap.size 45 b c/\
 Jp ((((w.alloc (F #[b,c] 45)).alloc (F #[d,e] 45)).alloc (F #[p0,a] 45)).alloc (F #[p0,a] 45)) (w.heap.size+1) 45 d e/\
 Jp ((((w.alloc (F #[b,c] 45)).alloc (F #[d,e] 45)).alloc (F #[p0,a] 45)).alloc (F #[p0,a] 45)) (w.heap.size+1+1) 45 p0 a/\
 Jp ((((w.alloc (F #[b,c] 45)).alloc (F #[d,e] 45)).alloc (F #[p0,a] 45)).alloc (F #[p0,a] 45)) (w.heap.size+1+1+1) 45 p0 a:=by
 refine⟨(((Jp.new w _ _ _).alloc _).alloc _).alloc _,?_,?_,?_⟩
 . have h:=((Jp.new (w.alloc (F #[b,c] 45)) 45 d e).alloc (F #[p0,a] 45)).alloc (F #[p0,a] 45);rw[Ax]at h;exact h
 . have h:=(Jp.new ((w.alloc (F #[b,c] 45)).alloc (F #[d,e] 45)) 45 p0 a).alloc (F #[p0,a] 45);rw[Ax,Ax]at h;exact h
 . have h:=Jp.new (((w.alloc (F #[b,c] 45)).alloc (F #[d,e] 45)).alloc (F #[p0,a] 45)) 45 p0 a;rw[Ax,Ax,Ax]at h;exact h
theorem eZ(h:RN W (C a l c) n)(m:Bool):Jv W (B #[C a l c,E (m&&decide (0<l))]) (if m=true then -(n:Int)else(n:Int)):=by
 have hl:=RN.len h;have f:0<l↔n≠0:=by
  rw[hl];constructor
  . intro b g;rw[g,JH]at b;simp at b
  . intro b;exact Ae.2 λe=>b ((JR O).1 e)
 cases m with
 |false=>
  refine⟨a,l,c,?_,by simp;exact h⟩
  have:decide ((n:Int)<0)=false:=BF O
  simp[this]
 |true=>
  refine⟨a,l,c,?_,by simp;exact h⟩;simp only[Bool.true_and,if_true]
  have:decide (0<l)=decide (-(n:Int)<0):=by
   by_cases d:n=0
   . rw[BF λb=>f.1 b d,BF O]
   . rw[BJ (f.2 d),BJ O]
  rw[this]
theorem eb(a:Option Addr)(la ca:Nat)(b:Option Addr)(lb cb X c:Nat)(s t:Bool)(z r:Int)(w:G)(hu:RN w (C a la ca) X)(hv:RN w (C b lb cb) c)(hY:c≠0)(az:la<=100000000)(bc:lb<=100000000)
(HP:Hid (¬(s=true/\X%c≠0)->(if(!(s==t))=true then -((X/c:Nat):Int)else((X/c:Nat):Int))=z/\((X%c:Nat):Int)=r))
(HN:Hid (s=true/\X%c≠0->(if(!(s==t))=true then -((X/c+1:Nat):Int)else((X/c+1:Nat):Int))=z/\((c-X%c:Nat):Int)=r)):
 L H 143 #[B #[C a la ca,E s],B #[C b lb cb,E t]] w λe l=>∃q o,e=.returned (.tuple #[q,o])/\Jv l q z/\Jv l o r/\Bl w l:=by
 have bh:Tryz.prog.follows .mixedOrders=true:=by kernel_rfl
 obtain⟨b0,b1,b4,b5⟩:=eY w (C a la ca) (E s) (C b lb cb) (E t) (C none 0 0) (E false);have Qp:=Si w (F #[C a la ca,E s] 45) (F #[C b lb cb,E t] 45) (F #[C none 0 0,E false] 45) (F #[C none 0 0,E false] 45);obtain⟨W0,ai⟩:=ex ((((w.alloc (F #[C a la ca,E s] 45)).alloc (F #[C b lb cb,E t] 45)).alloc (F #[C none 0 0,E false] 45)).alloc (F #[C none 0 0,E false] 45));rw[ai]at b0 b1 b4 b5 Qp;have Ud:=Y ai;have Uj:=RN.below hu Qp;have Ub:=RN.below hv Qp;have Ug:=Y (TE a la ca b lb cb X c W0 Uj Ub hY az bc);have Uk:=Y Ub;have Ul:=Y (RN.len hu).symm;obtain⟨k0,k1⟩:=b0.cp;obtain⟨d,k3⟩:=b1.cp;clear ai hu hv Uj Ub;go_enter Tryz.func143,Tryz.ntmps143
 go_upto_region 1 with fail
 rw[Ud.o];go_upto_region 2 with(go_at_call 184;refine Ug.o.mono ?_;rintro e w1 ⟨u1,v1,rfl,an,ap,aj⟩;obtain⟨D,K,rfl⟩:=RN.form an;obtain⟨va,vc,rfl⟩:=RN.form ap)
 clear Ug Ud;obtain⟨lr,am⟩:=ex ((Je 10000 (X%c)).length);obtain⟨lq,ak⟩:=ex ((Je 10000 (X/c)).length);have Ui:=Y (show lr=0↔X%c=0 by
  rw[<-am];exact⟨λh=>(JR O).1 (Ao h),λh=>by rw[h,JH];rfl⟩)
 rw[am]at ap ⊢;rw[ak]at an ⊢;have bf:lq<=100000000:=by
  have h1:=TG (m:=X) (n:=X/c) (FJ _ _);have h2:=Ul.o;omega
 have Uf:=Y ak.symm;clear am ak;obtain⟨k0,k1⟩:=(b0.below aj).cp;obtain⟨d,k3⟩:=(b1.below aj).cp;have Qs:=Y (KH D lq K (!(s==t)) w1);go_upto_region 3 with(go_at_call 144;refine Qs.o.mono ?_;rintro e w2 ⟨rfl,aw⟩)
 obtain⟨M,ay⟩:=ex (((!(s==t))&&decide (0<lq)):Bool);have hI:=eZ (RN.below an aw) (!(s==t));rw[ay]at hI ⊢;obtain⟨W3,ah⟩:=ex (w2.alloc (F #[C D lq K,E M] 45));have Qi:Bl w2 W3:=by rw[<-ah];exact Ba w2 _
 have b8:Jp W3 w2.heap.size 45 (C D lq K) (E M):=by rw[<-ah];exact Jp.new w2 _ _ _
 have Qr:Bl w1 W3:=Bt aw Qi;have Qf:Bl W0 W3:=Bt aj Qr;have Qx:=hI.below Qi;have Uc:=RN.below ap Qr;have Qg:=Bt Qp Qf;obtain⟨B8,aq⟩:=ex (w2.heap.size);have h9:w.heap.size+1+1+1<B8:=by
  have h1:=(b5.below (Bt aj aw)).lt;omega
 rw[ah];rw[aq]at b8 ⊢;clear ah aq ay hI Qs;have p0:=b0.below Qf;have p1:=b1.below Qf;have y:=b4.below Qf;have A:=b5.below Qf;clear b0 b1 b4 b5 k0 k1 d k3;obtain⟨k0,k1⟩:=p0.cp;obtain⟨d,k3⟩:=p1.cp;obtain⟨g,i⟩:=b8.cp;obtain⟨q0,j⟩:=y.cp;obtain⟨q2,k⟩:=A.cp;obtain⟨f0,f1⟩:=y.fp;obtain⟨f2,f3⟩:=A.fp;obtain⟨cd,ax⟩:=ex ((!s || decide (lr=0)):Bool);have Qh:=Y ax;clear ax;go_cut [31] λv w4=>v=E cd/\w4=W3
 case first=>
  cases s with
  |false=>
   have e5:cd=true:=by rw[<-Qh.o];rfl
   go_wp2_with fail
   go_meet
   case rel=>exact⟨by rw[e5],rfl⟩
  |true=>
   by_cases x:lr=0
   . have e5:cd=true:=by rw[<-Qh.o];simp;omega
     have h6:((lr:Int)==0)=true:=by simp;omega
     clear x;go_wp2_with fail
     go_meet
     case rel=>exact⟨by rw[e5],rfl⟩
   . have e5:cd=false:=by rw[<-Qh.o];simp;omega
     have h6:((lr:Int)==0)=false:=by simp;omega
     clear x;go_wp2_with fail
     go_meet
     case rel=>exact⟨by rw[e5],rfl⟩
 case rest=>
  obtain⟨rfl,rfl⟩:=hcut;cases cd with
  |true=>
   have hc:¬(s=true/\X%c≠0):=λ⟨h1,h2⟩=>by
    have h:=Qh.o;rw[h1]at h;simp at h;exact h2 (Ui.o.1 h)
   obtain⟨z1,z2⟩:=HP.o hc;rw[z1]at Qx;have Qs:=Y (KH va lr vc s);have Ue:(s&&decide (0<lr))=false:=by
    have h:=Qh.o;cases s with
    |false=>rfl
    |true=>simp at h;simp;omega
   rw[Ue]at Qs;have Qv:=Y z2;clear Ue z1 z2 hc;go_wp2_with fail
   go_region_with (first
    |(go_at_call 144;refine(Qs.o _).mono ?_;rintro e w5 ⟨rfl,R⟩;have g:=((b8.drew).below R).c0;have i:=((b8.drew).below R).c1;have q0:=((y.drew).below R).c0;have j:=((y.drew).below R).c1;have q2:=((A.drew).below R).c0;have k:=((A.drew).below R).c1;have f0:=((y.drew).below R).f0;have f1:=((y.drew).below R).f1;have f2:=((A.drew).below R).f0;have f3:=((A.drew).below R).f1))
   all_goals
    go_wp2_with fail
    have Qj:Bl wc w5:=((BA _ wc).drew).trans (R.mono (Aa _));have N:=y.below Qj;have Qc:=A.below Qj;obtain⟨z4,z5⟩:=Mz (C D lq K) (E M) (C va lr vc) (E false) N Qc;obtain⟨Qt,Qq⟩:=z4.cp;obtain⟨Qk,Qn⟩:=z5.cp;have Qd:Jp ((w5.setCell ⟨w.heap.size+1+1,0,none⟩ (C D lq K)).setCell ⟨w.heap.size+1+1,1,none⟩ (E M)) (w.heap.size+1+1+1) 45 (C none 0 0) (E false):=(Qc.far Z _).far Z _;have Qb:=(K3 Uc).below Qj;rw[Qv.o]at Qb;have Ql:=((Qx.below Qj).box N rfl rfl (x0:=C D lq K) (x1:=E M)).box Qd rfl rfl (x0:=C va lr vc) (x1:=E false);have Qm:=(Qb.box N rfl rfl (x0:=C D lq K) (x1:=E M)).box Qd rfl rfl (x0:=C va lr vc) (x1:=E false);have Qu:=Bt Qg Qj;exact A0 (v:=.tuple #[B #[C D lq K,E M],B #[C va lr vc,E false]]) (by simp[results,Tryz.results143,go_sem,Qt,Qq,Qk,Qn]) rfl ⟨_,_,rfl,Ql,Qm,(((Qu.setCell (p:=⟨_,0,none⟩) Di _).setCell (p:=⟨_,1,none⟩) Di _).setCell (p:=⟨_,0,none⟩) Di _).setCell (p:=⟨_,1,none⟩) Di _⟩
  |false=>
   have hc:s=true/\X%c≠0:=by
    have h:=Qh.o;simp at h;exact⟨h.1,λe=>h.2 (Ui.o.2 e)⟩
   obtain⟨z1,z2⟩:=HN.o hc;rw[hc.1]at z1;have Uh:Jv wc (B #[C D lq K,E M]) (if(!(true==t))=true then -((X/c:Nat):Int)else((X/c:Nat):Int)):=by have h:=Qx;rw[hc.1]at h;exact h
   obtain⟨Qw,Qz,Qv⟩:=Df Uh z1 z2;have bg:=Ci X (show c>0 by omega);obtain⟨Qy,Ua,Qe⟩:=Df (IF 1 O O) (λ(V:G) (h:Bl wc V)=>Mc _ _ c (X%c) V (RN.below (RN.below Uk.o Qf) h) (RN.below Uc h) O (by rw[<-RN.len Uk.o];omega)) λ(V:G) (h:Bl wc V)=>And.intro (And.intro (b8.below h).c0 (And.intro (b8.below h).c1 (p1.below h).c0)) (And.intro (And.intro (y.below h).c0 (And.intro (y.below h).c1 (And.intro (A.below h).c0 (A.below h).c1))) (And.intro (y.below h).f0 (And.intro (y.below h).f1 (And.intro (A.below h).f0 (A.below h).f1))));have n1:¬B8=w.heap.size+1+1:=O
   have n2:¬B8=w.heap.size+1+1+1:=O
   have n3:¬w.heap.size+1+1=B8:=O
   have n4:¬w.heap.size+1+1+1=B8:=O
   have n5:¬w.heap.size+1+1=w.heap.size:=O
   have n6:¬w.heap.size=w.heap.size+1+1:=O
   clear hc Uh z1 z2 Qx;cases t with
   |true=>
    have Qo:=Y (show ∀(V:G) (u:I),Bl wc V->Jv V u 1->L H 96 #[B #[C D lq K,E M],u] V λe l=>∃u,e=.returned u/\Jv l u z/\Bl V l from λV u h hu=>by
     have hx:=Qw.o.below h;simp only[beq_self_eq_true,Bool.not_true,Cx,if_false]at hx;have h1:=Of _ u _ 1 V hx hu (by unfold EP;rw[AK,<-Uf.o];omega) (My O O);have h2:=Qz.o;simp only[beq_self_eq_true,Bool.not_true,Cx,if_false]at h2;rw[show((X/c:Nat):Int)+1=z from by rw[<-h2];push_cast;rfl]at h1;exact h1)
    clear Qw Qz HN HP;go_upto_region 6 with fail
    have hq:Bl wc wc.drew:=(BA _ wc).drew;clear g i d q0 j q2 k f0 f1 f2 f3;obtain⟨⟨g,i,d⟩,⟨q0,j,q2,k⟩,f0,f1,f2,f3⟩:=Qe.o _ hq;go_region_held3 (λl=>l.cell? ⟨B8,0,none⟩=some (C D lq K)/\l.cell? ⟨B8,1,none⟩=some (E M)/\l.cell? ⟨w.heap.size+1,0,none⟩=some (C b lb cb)) (first|(with_reducible exact⟨g,i,d⟩)|(go_keep;done))
     (first
      |(go_at_call 94;refine(Qy.o _).mono ?_;clear Qy;rintro e w5 ⟨u5,rfl,af,f⟩;replace hq:=Bt hq f;clear f g i d q0 j q2 k f0 f1 f2 f3;obtain⟨⟨g,i,d⟩,⟨q0,j,q2,k⟩,f0,f1,f2,f3⟩:=Qe.o _ hq)
      |(go_at_call 96;refine(Qo.o _ _ hq af).mono ?_;clear Qo af;rintro e w6 ⟨u6,rfl,x,f⟩;obtain⟨P,S,Q,rfl⟩:=x.form;obtain⟨T,ae⟩:=ex (decide (z<0));rw[ae]at x;rw[ae];clear ae;replace hq:=Bt hq f;clear f g i d q0 j q2 k f0 f1 f2 f3;obtain⟨⟨g,i,d⟩,⟨q0,j,q2,k⟩,f0,f1,f2,f3⟩:=Qe.o _ hq)
      |(go_at_call 147;refine(Ua.o _ hq).mono ?_;clear Ua;rintro e V0 ⟨u7,rfl,h6,f⟩;obtain⟨U,W,rfl⟩:=RN.form h6;obtain⟨l6,ad⟩:=ex ((Je 10000 (c-X%c)).length);rw[ad]at h6;rw[ad];clear ad;replace x:=x.below f;replace hq:=Bt hq f;clear f g i d q0 j q2 k f0 f1 f2 f3;obtain⟨⟨g,i,d⟩,⟨q0,j,q2,k⟩,f0,f1,f2,f3⟩:=Qe.o _ hq))
    go_wp2_with fail
    have N:=y.below hq;have Qc:=A.below hq;obtain⟨z4,z5⟩:=Mz (C P S Q) (E T) (C U l6 W) (E false) N Qc;obtain⟨Qt,Qq⟩:=z4.cp;obtain⟨Qk,Qn⟩:=z5.cp;have Qd:Jp ((V0.setCell ⟨w.heap.size+1+1,0,none⟩ (C P S Q)).setCell ⟨w.heap.size+1+1,1,none⟩ (E T)) (w.heap.size+1+1+1) 45 (C none 0 0) (E false):=(Qc.far Z _).far Z _;have Qb:=K3 h6;rw[Qv.o]at Qb;have Ql:=(x.box N rfl rfl (x0:=C P S Q) (x1:=E T)).box Qd rfl rfl (x0:=C U l6 W) (x1:=E false);have Qm:=(Qb.box N rfl rfl (x0:=C P S Q) (x1:=E T)).box Qd rfl rfl (x0:=C U l6 W) (x1:=E false);have Qu:=Bt Qg hq;exact A0 (v:=.tuple #[B #[C P S Q,E T],B #[C U l6 W,E false]]) (by simp[results,Tryz.results143,go_sem,Qt,Qq,Qk,Qn]) rfl ⟨_,_,rfl,Ql,Qm,(((Qu.setCell (p:=⟨_,0,none⟩) Di _).setCell (p:=⟨_,1,none⟩) Di _).setCell (p:=⟨_,0,none⟩) Di _).setCell (p:=⟨_,1,none⟩) Di _⟩
   |false=>
    have Qo:=Y (show ∀(V:G) (u:I),Bl wc V->Jv V u 1->L H 159 #[B #[C D lq K,E M],u] V λe l=>∃u,e=.returned u/\Jv l u z/\Bl V l from λV u h hu=>by
     have hx:=Qw.o.below h;rw[BC (by rfl)]at hx;have h1:=SY _ u _ 1 V hx hu (by unfold EP;rw[FM,AK,<-Uf.o];omega) (My O O);have h2:=Qz.o;rw[BC (by rfl)]at h2;rw[show -((X/c:Nat):Int)-1=z from by rw[<-h2];push_cast;omega]at h1;exact h1)
    clear Qw Qz HN HP;go_upto_region 7 with fail
    have hq:Bl wc wc.drew:=(BA _ wc).drew;clear g i d q0 j q2 k f0 f1 f2 f3;obtain⟨⟨g,i,d⟩,⟨q0,j,q2,k⟩,f0,f1,f2,f3⟩:=Qe.o _ hq;go_region_held3 (λl=>l.cell? ⟨B8,0,none⟩=some (C D lq K)/\l.cell? ⟨B8,1,none⟩=some (E M)/\l.cell? ⟨w.heap.size+1,0,none⟩=some (C b lb cb)) (first|(with_reducible exact⟨g,i,d⟩)|(go_keep;done))
     (first
      |(go_at_call 94;refine(Qy.o _).mono ?_;clear Qy;rintro e w5 ⟨u5,rfl,af,f⟩;replace hq:=Bt hq f;clear f g i d q0 j q2 k f0 f1 f2 f3;obtain⟨⟨g,i,d⟩,⟨q0,j,q2,k⟩,f0,f1,f2,f3⟩:=Qe.o _ hq)
      |(go_at_call 159;refine(Qo.o _ _ hq af).mono ?_;clear Qo af;rintro e w6 ⟨u6,rfl,x,f⟩;obtain⟨P,S,Q,rfl⟩:=x.form;obtain⟨T,ae⟩:=ex (decide (z<0));rw[ae]at x;rw[ae];clear ae;replace hq:=Bt hq f;clear f g i d q0 j q2 k f0 f1 f2 f3;obtain⟨⟨g,i,d⟩,⟨q0,j,q2,k⟩,f0,f1,f2,f3⟩:=Qe.o _ hq)
      |(go_at_call 147;refine(Ua.o _ hq).mono ?_;clear Ua;rintro e V0 ⟨u7,rfl,h6,f⟩;obtain⟨U,W,rfl⟩:=RN.form h6;obtain⟨l6,ad⟩:=ex ((Je 10000 (c-X%c)).length);rw[ad]at h6;rw[ad];clear ad;replace x:=x.below f;replace hq:=Bt hq f;clear f g i d q0 j q2 k f0 f1 f2 f3;obtain⟨⟨g,i,d⟩,⟨q0,j,q2,k⟩,f0,f1,f2,f3⟩:=Qe.o _ hq))
    go_wp2_with fail
    have N:=y.below hq;have Qc:=A.below hq;obtain⟨z4,z5⟩:=Mz (C P S Q) (E T) (C U l6 W) (E false) N Qc;obtain⟨Qt,Qq⟩:=z4.cp;obtain⟨Qk,Qn⟩:=z5.cp;have Qd:Jp ((V0.setCell ⟨w.heap.size+1+1,0,none⟩ (C P S Q)).setCell ⟨w.heap.size+1+1,1,none⟩ (E T)) (w.heap.size+1+1+1) 45 (C none 0 0) (E false):=(Qc.far Z _).far Z _;have Qb:=K3 h6;rw[Qv.o]at Qb;have Ql:=(x.box N rfl rfl (x0:=C P S Q) (x1:=E T)).box Qd rfl rfl (x0:=C U l6 W) (x1:=E false);have Qm:=(Qb.box N rfl rfl (x0:=C P S Q) (x1:=E T)).box Qd rfl rfl (x0:=C U l6 W) (x1:=E false);have Qu:=Bt Qg hq;exact A0 (v:=.tuple #[B #[C P S Q,E T],B #[C U l6 W,E false]]) (by simp[results,Tryz.results143,go_sem,Qt,Qq,Qk,Qn]) rfl ⟨_,_,rfl,Ql,Qm,(((Qu.setCell (p:=⟨_,0,none⟩) Di _).setCell (p:=⟨_,1,none⟩) Di _).setCell (p:=⟨_,0,none⟩) Di _).setCell (p:=⟨_,1,none⟩) Di _⟩
theorem NR(j k:I)(x y:Int)(w:G)(l:Jv w j x)(m:Jv w k y)(i:y≠0)(n:EP x<=100000000)(p:EP y<=100000000):
 L H 143 #[j,k] w λe d=>∃q o,e=.returned (.tuple #[q,o])/\Jv d q (x/y)/\Jv d o (x%y)/\Bl w d:=by
 obtain⟨a,la,ca,rfl,f⟩:=l;obtain⟨b,lb,cb,rfl,g⟩:=m;refine eb a la ca b lb cb x.natAbs y.natAbs _ _ (x/y) (x%y) w f g O (by rw[RN.len f];exact n) (by rw[RN.len g];exact p) (λc=>Sk i λh=>c ⟨BJ h.1,h.2⟩) λc=>Sl i ⟨Bb c.1,c.2⟩
theorem TH(p:I)(x:Int)(w:G)(r:Jv w p x):
 L H 115 #[p] w λe s=>e=.returned (.int .i64 x.sign)/\Bl w s:=by
 obtain⟨a,la,ca,rfl,i⟩:=r;have j:=RN.len i;have t:=(Jw i).2.2.2.1;have f:Bl w (w.alloc (F #[C a la ca,E (decide (x<0))] 45)):=Ba w _;have b0:=Jp.new w 45 (C a la ca) (E (decide (x<0)));have l:la=0↔x=0:=by
  rw[j];constructor
  . intro h;have:=(JR (B:=10000) O).1 (Ao h);omega
  . intro h;rw[h,Int.natAbs_zero,JH];rfl
 have m:=Y l;obtain⟨W0,g⟩:=ex (w.alloc (F #[C a la ca,E (decide (x<0))] 45));rw[g]at f b0;have c:=Y g;obtain⟨u,o⟩:=b0.cp;by_cases k:x<0
 . have d:decide (x<0)=true:=BJ k;rw[d]at c o ⊢;have b:=Y (C1 k);clear j l g i d b0;go_enter Tryz.func115,Tryz.ntmps115
   go_upto_region 1 with fail
   rw[c.o];go_wp2_with fail
   go_ret;exact⟨by rw[b.o];rfl,f⟩
 . have d:decide (x<0)=false:=BF k;rw[d]at c o ⊢;clear j l g i d b0;rcases A9 la with n|n
   . subst n;have b:=Y (show x.sign=0 by rw[m.o.1 rfl];rfl);go_enter Tryz.func115,Tryz.ntmps115
     go_upto_region 1 with fail
     rw[c.o];go_wp2_with fail
     go_ret;refine⟨?_,f⟩;rw[b.o];first|rfl|(simp;done)
   . have b:=Y (show x.sign=1 from FB (by
      have:=m.o;rcases Ft x 0 with h|h|h
      . omega
      . have:=this.2 h;omega
      . exact h))
     have q:min (1:Int) (la:Int)=1:=O
     go_enter Tryz.func115,Tryz.ntmps115
     go_upto_region 1 with fail
     rw[c.o];go_wp2_with fail
     go_ret;refine⟨?_,f⟩;rw[b.o];first|rfl|(simp[q];done)
theorem TI{x y:Int}(a:y≠0):(0:Int)<(Int.gcd x y:Nat):=by
 have:=Int.gcd_pos_of_ne_zero_right x a;omega
theorem Jl.mk{t:Bool}{b:Option Addr}{d:Nat}{q:Rat}(e:Jv W (B #[C a l c,E s]) q.num)(f:Jv W (B #[C b k d,E t]) (q.den:Int)):Jl W (B #[C a l c,E s,C b k d,E t]) q:=⟨_,_,_,_,_,_,_,_,rfl,e,f⟩
theorem Jv.sign{z:Int}(h:Jv W (B #[C a l c,E s]) z):s=decide (z<0):=by
 obtain⟨a',l',c',e,_⟩:=h;cases e;rfl
theorem Kc(va vb:I)(x y:Int)(w:G)(ha:Jv w va x)(f:Jv w vb y)(hy:y≠0)(co:DY x)(ct:DY y):
 L H 95 #[va,vb] w λe w'=>∃u,e=.returned u/\Jl w' u (Rat.divInt x y)/\Bl w w':=by
 obtain⟨bk,ed,cj,fi,rfl⟩:=Jv.form2 ha;obtain⟨bl,ei,ck,fj,rfl⟩:=Jv.form2 f;have q:=((((Mem.nil w).push (.big x) ha).push (.big y) (Has.alloc (d:=.big y) f _)).push .zref rfl);simp only[Ax]at q;have q:Mem w (((w.alloc (F #[C bk ed cj,E fi] 45)).alloc (F #[C bl ei ck,E fj] 45)).alloc (F #[C none 0 0,E false,C none 0 0,E false] 47)) [some (w.heap.size,.big x),some (w.heap.size+1,.big y),some (w.heap.size+1+1,.zref)]:=q;obtain⟨W0,an⟩:=ex (((w.alloc (F #[C bk ed cj,E fi] 45)).alloc (F #[C bl ei ck,E fj] 45)).alloc (F #[C none 0 0,E false,C none 0 0,E false] 47));have Ud:=Y an;rw[an]at q;have M1:Hid (Mem w W0 [some (w.heap.size,.big x),some (w.heap.size+1,.big y),some (w.heap.size+1+1,.zref)]):=Y q;obtain⟨r,Qa,Qb⟩:=Df hy co ct;clear q an ha f hy co ct;go_enter Tryz.func95,Tryz.ntmps95
 go_upto_region 1 with fail
 rw[Ud.o];clear Ud;obtain⟨a1,l1,c1,s1,n1,i1⟩:=M1.o.big (i:=0) rfl;obtain⟨Ui,Uk⟩:=n1.cp;obtain⟨a2,l2,c2,s2,n2,i2⟩:=M1.o.big (i:=1) rfl;obtain⟨Uj,Ug⟩:=n2.cp;go_upto_region 2 with(go_at_call 141;refine(eX _ _ x y _ i1 i2 (by have:=Qa.o.size;omega) (by have:=Qb.o.size;omega)).mono ?_;rintro e w1 ⟨u,rfl,hu,f⟩;obtain⟨bj,dz,ci,fh,rfl⟩:=Jv.form2 hu)
 obtain⟨V3,b⟩:=ex (w1.alloc (F #[C bj dz ci,E fh] 45));obtain⟨g,c⟩:=ex (w1.heap.size);have a:Mem w (w1.alloc (F #[C bj dz ci,E fh] 45)) [some (w.heap.size,.big x),some (w.heap.size+1,.big y),some (w.heap.size+1+1,.zref),some (w1.heap.size,.big (((Int.gcd x y:Nat):Int)))]:=Mem.push (M1.o.below f) (.big (((Int.gcd x y:Nat):Int))) hu;rw[b,c]at a;rw[b];rw[c];have p:Hid (Mem w V3 [some (w.heap.size,.big x),some (w.heap.size+1,.big y),some (w.heap.size+1+1,.zref),some (g,.big (((Int.gcd x y:Nat):Int)))]):=Y (a);clear M1;clear a b c;clear n1 Ui Uk i1 n2 Uj Ug i2 hu f;have HG:=Y (DY.gcd Qa.o Qb.o);by_cases s:y<0
 . have HL:=Y s;obtain⟨a4,l4,c4,s4,n4,i4⟩:=p.o.big (i:=1) rfl;have Uf:=n4.c1;have U:=Jv.sign i4;rw[BJ s]at U;subst U;clear s;go_upto_region 3 with fail
   clear n4 Uf i4;obtain⟨a5,l5,c5,s5,n5,i5⟩:=p.o.big (i:=3) rfl;obtain⟨Ub,Uc⟩:=n5.cp;go_upto_region 4 with(go_at_call 142;refine(Og _ (((Int.gcd x y:Nat):Int)) _ i5).mono ?_;rintro e w6 ⟨u6,rfl,ap,ak⟩;obtain⟨bm,eo,cn,fk,rfl⟩:=Jv.form2 ap;obtain⟨Ub,Uc⟩:=(n5.below ak).cp;obtain⟨Um,Un⟩:=(n5.below ak).fp)
   obtain⟨V6,b⟩:=ex ((w6.setCell ⟨g,0,none⟩ (C bm eo cn)).setCell ⟨g,1,none⟩ (E fk));have a:Mem w ((w6.setCell ⟨g,0,none⟩ (C bm eo cn)).setCell ⟨g,1,none⟩ (E fk)) [some (w.heap.size,.big x),some (w.heap.size+1,.big y),some (w.heap.size+1+1,.zref),some (g,.big (-((Int.gcd x y:Nat):Int)))]:=Mem.putBig (p.o.below ak) (i:=3) rfl ap;rw[b]at a;rw[b];have M3:Hid (Mem w V6 [some (w.heap.size,.big x),some (w.heap.size+1,.big y),some (w.heap.size+1+1,.zref),some (g,.big (-((Int.gcd x y:Nat):Int)))]):=Y (a);clear p;clear a b;clear n5 Ub Uc i5 ap ak Um Un;obtain⟨D,t,A⟩:=Df (show(-((Int.gcd x y:Nat):Int))≠0 by have:=TI (x:=x) r.o;omega) (show(-((Int.gcd x y:Nat):Int))=(if y<0 then -((Int.gcd x y:Nat):Int)else((Int.gcd x y:Nat):Int))by rw[BC HL.o]) HG.o.neg;obtain⟨a7,l7,c7,s7,n7,i7⟩:=M3.o.big (i:=0) rfl;obtain⟨Ue,Uo⟩:=n7.cp;obtain⟨a8,l8,c8,s8,n8,i8⟩:=M3.o.big (i:=3) rfl;obtain⟨Uh,Ul⟩:=n8.cp;go_upto_region 5 with(go_at_call 143;refine(NR _ _ x ((-((Int.gcd x y:Nat):Int))) _ i7 i8 D.o (by have:=Qa.o.size;omega) (by have:=A.o.size;omega)).mono ?_;rintro e m ⟨u1,u2,rfl,j,k,f⟩;obtain⟨K,V,Q,ae,rfl⟩:=Jv.form2 j;obtain⟨M,W,R,af,rfl⟩:=Jv.form2 k)
   have a:=Mem.push (Mem.push (M3.o.below f) (.big (x/(-((Int.gcd x y:Nat):Int)))) j) (.big (x%(-((Int.gcd x y:Nat):Int)))) (Has.alloc (d:=.big (x%(-((Int.gcd x y:Nat):Int)))) k _);simp only[Ax]at a;have a:Mem w ((m.alloc (F #[C K V Q,E ae] 45)).alloc (F #[C M W R,E af] 45)) [some (w.heap.size,.big x),some (w.heap.size+1,.big y),some (w.heap.size+1+1,.zref),some (g,.big (-((Int.gcd x y:Nat):Int))),some (m.heap.size,.big (x/(-((Int.gcd x y:Nat):Int)))),some (m.heap.size+1,.big (x%(-((Int.gcd x y:Nat):Int))))]:=a;obtain⟨fo,b⟩:=ex ((m.alloc (F #[C K V Q,E ae] 45)).alloc (F #[C M W R,E af] 45));obtain⟨B9,c⟩:=ex (m.heap.size);rw[b,c]at a;rw[b];rw[c];obtain⟨B10,l⟩:=ex (B9+1);rw[l]at a ⊢;have o:Hid (Mem w fo [some (w.heap.size,.big x),some (w.heap.size+1,.big y),some (w.heap.size+1+1,.zref),some (g,.big (-((Int.gcd x y:Nat):Int))),some (B9,.big (x/(-((Int.gcd x y:Nat):Int)))),some (B10,.big (x%(-((Int.gcd x y:Nat):Int))))]):=Y (a);clear M3;clear a b c l;clear n7 Ue Uo i7 n8 Uh Ul i8 j k f;obtain⟨gi,jc,gq,jj,et,de⟩:=o.o.big (i:=1) rfl;obtain⟨Qr,Qk⟩:=et.cp;obtain⟨gj,jd,gr,jk,ew,dh⟩:=o.o.big (i:=3) rfl;obtain⟨Ua,Qy⟩:=ew.cp;go_upto_region 6 with(go_at_call 143;refine(NR _ _ y ((-((Int.gcd x y:Nat):Int))) _ de dh D.o (by have:=Qb.o.size;omega) (by have:=A.o.size;omega)).mono ?_;rintro e n ⟨u1,u2,rfl,j,k,f⟩;obtain⟨N,X,S,ah,rfl⟩:=Jv.form2 j;obtain⟨P,ad,T,ai,rfl⟩:=Jv.form2 k)
   have a:=Mem.push (Mem.push (o.o.below f) (.big (y/(-((Int.gcd x y:Nat):Int)))) j) (.big (y%(-((Int.gcd x y:Nat):Int)))) (Has.alloc (d:=.big (y%(-((Int.gcd x y:Nat):Int)))) k _);simp only[Ax]at a;have a:Mem w ((n.alloc (F #[C N X S,E ah] 45)).alloc (F #[C P ad T,E ai] 45)) [some (w.heap.size,.big x),some (w.heap.size+1,.big y),some (w.heap.size+1+1,.zref),some (g,.big (-((Int.gcd x y:Nat):Int))),some (B9,.big (x/(-((Int.gcd x y:Nat):Int)))),some (B10,.big (x%(-((Int.gcd x y:Nat):Int)))),some (n.heap.size,.big (y/(-((Int.gcd x y:Nat):Int)))),some (n.heap.size+1,.big (y%(-((Int.gcd x y:Nat):Int))))]:=a;obtain⟨az,b⟩:=ex ((n.alloc (F #[C N X S,E ah] 45)).alloc (F #[C P ad T,E ai] 45));obtain⟨ax,c⟩:=ex (n.heap.size);rw[b,c]at a;rw[b];rw[c];obtain⟨fl,l⟩:=ex (ax+1);rw[l]at a ⊢;have z:Hid (Mem w az [some (w.heap.size,.big x),some (w.heap.size+1,.big y),some (w.heap.size+1+1,.zref),some (g,.big (-((Int.gcd x y:Nat):Int))),some (B9,.big (x/(-((Int.gcd x y:Nat):Int)))),some (B10,.big (x%(-((Int.gcd x y:Nat):Int)))),some (ax,.big (y/(-((Int.gcd x y:Nat):Int)))),some (fl,.big (y%(-((Int.gcd x y:Nat):Int))))]):=Y (a);clear o;clear a b c l;clear et Qr Qk de ew Ua Qy dh j k f;obtain⟨bf,dt,bn,fb,ga,ft⟩:=z.o.big (i:=4) rfl;obtain⟨ib,ic⟩:=ga.cp;obtain⟨bg,du,bt,fc,gb,fu⟩:=z.o.big (i:=6) rfl;obtain⟨ie,ig⟩:=gb.cp;have aq:=z.o.zref (i:=2) rfl;obtain⟨Qw,Qp,Qg,Qj⟩:=aq.cq;obtain⟨ir,iu,iw,ix⟩:=aq.fq;have hr:Jl az (B #[C bf dt bn,E fb,C bg du bt,E fc]) (Rat.divInt x y):=Jl.mk (by rw[Mj r.o,<-t.o];exact ft) (by rw[Mk r.o,<-t.o];exact fu);have Qf:=z.o.ge 2 rfl;have hB:=z.o.2.2;go_wp2_with fail
   exact A0 (v:=B #[C bf dt bn,E fb,C bg du bt,E fc]) (by simp[results,Tryz.results95,go_sem,Qw,Qp,Qg,Qj]) rfl ⟨_,rfl,hr.put4 aq rfl rfl rfl rfl _ _ _ _,Jo hB Qf _ _ _ _⟩
 . have HL:=Y s;obtain⟨gk,je,gu,jl,f6,di⟩:=p.o.big (i:=1) rfl;have Qu:=f6.c1;have U:=Jv.sign di;rw[BF s]at U;subst U;clear s;go_upto_region 4 with fail
   clear f6 Qu di;obtain⟨D,t,A⟩:=Df (show((Int.gcd x y:Nat):Int)≠0 by have:=TI (x:=x) r.o;omega) (show((Int.gcd x y:Nat):Int)=(if y<0 then -((Int.gcd x y:Nat):Int)else((Int.gcd x y:Nat):Int))by rw[BB (by have:=HL.o;omega)]) HG.o;obtain⟨gl,jf,gv,jm,f7,dj⟩:=p.o.big (i:=0) rfl;obtain⟨Qh,Qz⟩:=f7.cp;obtain⟨gn,jg,gw,jn,f8,dk⟩:=p.o.big (i:=3) rfl;obtain⟨Qt,Qo⟩:=f8.cp;go_upto_region 5 with(go_at_call 143;refine(NR _ _ x (((Int.gcd x y:Nat):Int)) _ dj dk D.o (by have:=Qa.o.size;omega) (by have:=A.o.size;omega)).mono ?_;rintro e m ⟨u1,u2,rfl,j,k,f⟩;obtain⟨K,V,Q,ae,rfl⟩:=Jv.form2 j;obtain⟨M,W,R,af,rfl⟩:=Jv.form2 k)
   have a:=Mem.push (Mem.push (p.o.below f) (.big (x/((Int.gcd x y:Nat):Int))) j) (.big (x%((Int.gcd x y:Nat):Int))) (Has.alloc (d:=.big (x%((Int.gcd x y:Nat):Int))) k _);simp only[Ax]at a;have a:Mem w ((m.alloc (F #[C K V Q,E ae] 45)).alloc (F #[C M W R,E af] 45)) [some (w.heap.size,.big x),some (w.heap.size+1,.big y),some (w.heap.size+1+1,.zref),some (g,.big (((Int.gcd x y:Nat):Int))),some (m.heap.size,.big (x/((Int.gcd x y:Nat):Int))),some (m.heap.size+1,.big (x%((Int.gcd x y:Nat):Int)))]:=a;obtain⟨fs,b⟩:=ex ((m.alloc (F #[C K V Q,E ae] 45)).alloc (F #[C M W R,E af] 45));obtain⟨aj,c⟩:=ex (m.heap.size);rw[b,c]at a;rw[b];rw[c];obtain⟨am,l⟩:=ex (aj+1);rw[l]at a ⊢;have M3:Hid (Mem w fs [some (w.heap.size,.big x),some (w.heap.size+1,.big y),some (w.heap.size+1+1,.zref),some (g,.big (((Int.gcd x y:Nat):Int))),some (aj,.big (x/((Int.gcd x y:Nat):Int))),some (am,.big (x%((Int.gcd x y:Nat):Int)))]):=Y (a);clear p;clear a b c l;clear f7 Qh Qz dj f8 Qt Qo dk j k f;obtain⟨go,jh,gy,jo,f9,dm⟩:=M3.o.big (i:=1) rfl;obtain⟨Qn,Qq⟩:=f9.cp;obtain⟨gp,ji,ia,jp,fa,dp⟩:=M3.o.big (i:=3) rfl;obtain⟨Qx,Qs⟩:=fa.cp;go_upto_region 6 with(go_at_call 143;refine(NR _ _ y (((Int.gcd x y:Nat):Int)) _ dm dp D.o (by have:=Qb.o.size;omega) (by have:=A.o.size;omega)).mono ?_;rintro e n ⟨u1,u2,rfl,j,k,f⟩;obtain⟨N,X,S,ah,rfl⟩:=Jv.form2 j;obtain⟨P,ad,T,ai,rfl⟩:=Jv.form2 k)
   have a:=Mem.push (Mem.push (M3.o.below f) (.big (y/((Int.gcd x y:Nat):Int))) j) (.big (y%((Int.gcd x y:Nat):Int))) (Has.alloc (d:=.big (y%((Int.gcd x y:Nat):Int))) k _);simp only[Ax]at a;have a:Mem w ((n.alloc (F #[C N X S,E ah] 45)).alloc (F #[C P ad T,E ai] 45)) [some (w.heap.size,.big x),some (w.heap.size+1,.big y),some (w.heap.size+1+1,.zref),some (g,.big (((Int.gcd x y:Nat):Int))),some (aj,.big (x/((Int.gcd x y:Nat):Int))),some (am,.big (x%((Int.gcd x y:Nat):Int))),some (n.heap.size,.big (y/((Int.gcd x y:Nat):Int))),some (n.heap.size+1,.big (y%((Int.gcd x y:Nat):Int)))]:=a;obtain⟨bc,b⟩:=ex ((n.alloc (F #[C N X S,E ah] 45)).alloc (F #[C P ad T,E ai] 45));obtain⟨ay,c⟩:=ex (n.heap.size);rw[b,c]at a;rw[b];rw[c];obtain⟨fm,l⟩:=ex (ay+1);rw[l]at a ⊢;have o:Hid (Mem w bc [some (w.heap.size,.big x),some (w.heap.size+1,.big y),some (w.heap.size+1+1,.zref),some (g,.big (((Int.gcd x y:Nat):Int))),some (aj,.big (x/((Int.gcd x y:Nat):Int))),some (am,.big (x%((Int.gcd x y:Nat):Int))),some (ay,.big (y/((Int.gcd x y:Nat):Int))),some (fm,.big (y%((Int.gcd x y:Nat):Int)))]):=Y (a);clear M3;clear a b c l;clear f9 Qn Qq dm fa Qx Qs dp j k f;obtain⟨bh,dw,bu,fe,gg,fv⟩:=o.o.big (i:=4) rfl;obtain⟨ii,ij⟩:=gg.cp;obtain⟨bi,dx,ce,fg,gh,fx⟩:=o.o.big (i:=6) rfl;obtain⟨il,io⟩:=gh.cp;have aw:=o.o.zref (i:=2) rfl;obtain⟨Qv,Ql,Qi,Qm⟩:=aw.cq;obtain⟨iy,iz,ja,jb⟩:=aw.fq;have hr:Jl bc (B #[C bh dw bu,E fe,C bi dx ce,E fg]) (Rat.divInt x y):=Jl.mk (by rw[Mj r.o,<-t.o];exact fv) (by rw[Mk r.o,<-t.o];exact fx);have Qf:=o.o.ge 2 rfl;have hB:=o.o.2.2;go_wp2_with fail
   exact A0 (v:=B #[C bh dw bu,E fe,C bi dx ce,E fg]) (by simp[results,Tryz.results95,go_sem,Qv,Ql,Qi,Qm]) rfl ⟨_,rfl,hr.put4 aw rfl rfl rfl rfl _ _ _ _,Jo hB Qf _ _ _ _⟩
theorem PU(va vb:I)(p q:Rat)(w:G)(ha:Jl w va p)(hb:Jl w vb q)(ax:Sq p)(ay:Sq q):
 L H 42 #[va,vb] w λe c=>∃u,e=.returned u/\Jl c u (p+q)/\Bl w c:=by
 obtain⟨af,bf,ak,bh,ai,az,an,bj,rfl⟩:=Jl.form ha;obtain⟨ah,bg,am,bi,aj,bc,ap,bk,rfl⟩:=Jl.form hb;have m:=((((Mem.nil w).push (.ref p) ha).push (.ref q) (Has.alloc (d:=.ref q) hb _)).push .zref rfl);simp only[Ax]at m;have m:Mem w (((w.alloc (F #[C af bf ak,E bh,C ai az an,E bj] 47)).alloc (F #[C ah bg am,E bi,C aj bc ap,E bk] 47)).alloc (F #[C none 0 0,E false,C none 0 0,E false] 47)) [some (w.heap.size,.ref p),some (w.heap.size+1,.ref q),some (w.heap.size+1+1,.zref)]:=m;obtain⟨W0,ad⟩:=ex (((w.alloc (F #[C af bf ak,E bh,C ai az an,E bj] 47)).alloc (F #[C ah bg am,E bi,C aj bc ap,E bk] 47)).alloc (F #[C none 0 0,E false,C none 0 0,E false] 47));have Qu:=Y ad;rw[ad]at m;have g:Hid (Mem w W0 [some (w.heap.size,.ref p),some (w.heap.size+1,.ref q),some (w.heap.size+1+1,.zref)]):=Y m;have j:=Y ax;have k:=Y ay;clear m ad ha hb ax ay;go_enter Tryz.func42,Tryz.ntmps42
 go_upto_region 1 with fail
 rw[Qu.o];clear Qu;obtain⟨a1,l1,c1,s1,b1,k1,d1,t1,N,r1,i1,j1⟩:=g.o.ref (i:=0) rfl;obtain⟨r,t,y,A⟩:=N.cq;obtain⟨a2,l2,c2,s2,b2,k2,d2,t2,P,r2,i2,j2⟩:=g.o.ref (i:=1) rfl;obtain⟨s,o,n,K⟩:=P.cq;have a:=g.o.zref (i:=2) rfl;obtain⟨z,x,M,D⟩:=a.cq;obtain⟨U,T,S,Q⟩:=a.fq;obtain⟨H4,H9,Qx,Qv,Qw⟩:=He (λ(V:G) (h:Bl W0 V)=>XJ _ _ (p.num) ((q.den:Int)) V (i1.below h) (j2.below h) (by have:=j.o.num.size;omega) (by have:=k.o.den.size;omega)) (λ(V:G) (h:Bl W0 V)=>XJ _ _ (q.num) ((p.den:Int)) V (i2.below h) (j1.below h) (by have:=k.o.num.size;omega) (by have:=j.o.den.size;omega)) (λ(V:G) (h:Bl W0 V) (v4:I) (b:Jv V v4 (p.num*(q.den:Int))) (v9:I) (f:Jv V v9 (q.num*(p.den:Int)))=>Of _ _ (p.num*(q.den:Int)) (q.num*(p.den:Int)) V b f (by have:=(j.o.cross k.o).size;omega) (by have:=(k.o.cross j.o).size;omega)) (λ(V:G) (h:Bl W0 V)=>XJ _ _ ((p.den:Int)) ((q.den:Int)) V (j1.below h) (j2.below h) (by have:=j.o.den.size;omega) (by have:=k.o.den.size;omega)) λ(V:G) (h:Bl W0 V) (bl:I) (l:Jv V bl (p.num*(q.den:Int)+q.num*(p.den:Int))) (bm:I) (R:Jv V bm ((p.den:Int)*(q.den:Int)))=>(by have h:=Kc _ _ (p.num*(q.den:Int)+q.num*(p.den:Int)) ((p.den:Int)*(q.den:Int)) V l R (Cn (by have:=p.den_nz;omega) (by have:=q.den_nz;omega)) (j.o.sumN k.o) (j.o.mulD k.o);rw[Rh]at h;exact h);have ct:w.heap.size≠w.heap.size+1+1:=g.o.ne 0 2 rfl rfl DO;have de:w.heap.size+1≠w.heap.size+1+1:=g.o.ne 1 2 rfl rfl DO;have hq:Bl W0 W0.drew:=(BA _ W0).drew;go_region_held3 (λc=>c.cell? ⟨w.heap.size,0,none⟩=some (C a1 l1 c1)/\c.cell? ⟨w.heap.size,1,none⟩=some (E s1)/\c.cell? ⟨w.heap.size,2,none⟩=some (C b1 k1 d1)/\c.cell? ⟨w.heap.size,3,none⟩=some (E t1)/\c.cell? ⟨w.heap.size+1,0,none⟩=some (C a2 l2 c2)/\c.cell? ⟨w.heap.size+1,1,none⟩=some (E s2)/\c.cell? ⟨w.heap.size+1,2,none⟩=some (C b2 k2 d2)/\c.cell? ⟨w.heap.size+1,3,none⟩=some (E t2)) (first|(with_reducible exact⟨r,t,y,A,s,o,n,K⟩)|(go_keep;done)|(refine⟨?_,?_,?_,?_,?_,?_,?_,?_⟩<;>((repeat rw[JG O]);first|assumption|(go_keep;done))))
  (first
   |(go_at_call 97;refine(H4.o _ hq ).mono ?_;clear H4;rintro e w4 ⟨v4,rfl,b,ci⟩;have hq:=Bt hq ci;obtain⟨r,t,y,A⟩:=(N.below hq).cq;obtain⟨s,o,n,K⟩:=(P.below hq).cq;obtain⟨z,x,M,D⟩:=(a.below hq).cq;obtain⟨U,T,S,Q⟩:=(a.below hq).fq)
   |(go_at_call 97;refine(H9.o _ hq ).mono ?_;clear H9;rintro e w9 ⟨v9,rfl,f,aw⟩;have b:=b.below aw;have hq:=Bt hq aw;obtain⟨r,t,y,A⟩:=(N.below hq).cq;obtain⟨s,o,n,K⟩:=(P.below hq).cq;obtain⟨z,x,M,D⟩:=(a.below hq).cq;obtain⟨U,T,S,Q⟩:=(a.below hq).fq)
   |(go_at_call 96;refine(Qx.o _ hq _ b _ f).mono ?_;clear Qx;rintro e di ⟨bl,rfl,l,ae⟩;have b:=b.below ae;have f:=f.below ae;have hq:=Bt hq ae;obtain⟨r,t,y,A⟩:=(N.below hq).cq;obtain⟨s,o,n,K⟩:=(P.below hq).cq;obtain⟨z,x,M,D⟩:=(a.below hq).cq;obtain⟨U,T,S,Q⟩:=(a.below hq).fq)
   |(go_at_call 97;refine(Qv.o _ hq ).mono ?_;clear Qv;rintro e dj ⟨bm,rfl,R,X⟩;have b:=b.below X;have f:=f.below X;have l:=l.below X;have hq:=Bt hq X;obtain⟨r,t,y,A⟩:=(N.below hq).cq;obtain⟨s,o,n,K⟩:=(P.below hq).cq;obtain⟨z,x,M,D⟩:=(a.below hq).cq;obtain⟨U,T,S,Q⟩:=(a.below hq).fq)
   |(go_at_call 95;refine(Qw.o _ hq _ l _ R).mono ?_;clear Qw;rintro e dk ⟨dh,rfl,aq,W⟩;obtain⟨bn,ck,bu,cn,bt,cj,ce,co,rfl⟩:=Jl.form aq;have b:=b.below W;have f:=f.below W;have l:=l.below W;have R:=R.below W;have hq:=Bt hq W;obtain⟨r,t,y,A⟩:=(N.below hq).cq;obtain⟨s,o,n,K⟩:=(P.below hq).cq;obtain⟨z,x,M,D⟩:=(a.below hq).cq;obtain⟨U,T,S,Q⟩:=(a.below hq).fq))
 all_goals go_wp2_with fail
 have Qz:=Bt g.o.2.2 hq;have Qy:=g.o.ge 2 rfl;exact A0 (v:=B #[C bn ck bu,E cn,C bt cj ce,E co]) (by simp[results,Tryz.results42,go_sem,z,x,M,D]) rfl ⟨_,rfl,aq.put4 (a.below hq) rfl rfl rfl rfl _ _ _ _,Jo Qz Qy _ _ _ _⟩
theorem NS(va vb:I)(p q:Rat)(w:G)(U:Jl w va p)(W:Jl w vb q)(aq:Sq p)(aw:Sq q):
 L H 43 #[va,vb] w λe a=>∃u,e=.returned u/\Jl a u (p*q)/\Bl w a:=by
 obtain⟨ad,az,ai,bf,af,ax,ak,bh,rfl⟩:=Jl.form U;obtain⟨ae,bc,aj,bg,ah,ay,am,bi,rfl⟩:=Jl.form W;have g:=((((Mem.nil w).push (.ref p) U).push (.ref q) (Has.alloc (d:=.ref q) W _)).push .zref rfl);simp only[Ax]at g;have g:Mem w (((w.alloc (F #[C ad az ai,E bf,C af ax ak,E bh] 47)).alloc (F #[C ae bc aj,E bg,C ah ay am,E bi] 47)).alloc (F #[C none 0 0,E false,C none 0 0,E false] 47)) [some (w.heap.size,.ref p),some (w.heap.size+1,.ref q),some (w.heap.size+1+1,.zref)]:=g;obtain⟨W0,T⟩:=ex (((w.alloc (F #[C ad az ai,E bf,C af ax ak,E bh] 47)).alloc (F #[C ae bc aj,E bg,C ah ay am,E bi] 47)).alloc (F #[C none 0 0,E false,C none 0 0,E false] 47));have Qs:=Y T;rw[T]at g;have c:Hid (Mem w W0 [some (w.heap.size,.ref p),some (w.heap.size+1,.ref q),some (w.heap.size+1+1,.zref)]):=Y g;have k:=Y aq;have l:=Y aw;clear g T U W aq aw;go_enter Tryz.func43,Tryz.ntmps43
 go_upto_region 1 with fail
 rw[Qs.o];clear Qs;obtain⟨a1,l1,c1,s1,b1,k1,d1,t1,M,r1,i1,j1⟩:=c.o.ref (i:=0) rfl;obtain⟨o,s,x,z⟩:=M.cq;obtain⟨a2,l2,c2,s2,b2,k2,d2,t2,N,r2,i2,j2⟩:=c.o.ref (i:=1) rfl;obtain⟨r,n,m,D⟩:=N.cq;have b:=c.o.zref (i:=2) rfl;obtain⟨y,t,K,A⟩:=b.cq;obtain⟨S,R,Q,P⟩:=b.fq;obtain⟨H4,H9,Qt⟩:=Df (λ(V:G) (h:Bl W0 V)=>XJ _ _ (p.num) (q.num) V (i1.below h) (i2.below h) (by have:=k.o.num.size;omega) (by have:=l.o.num.size;omega)) (λ(V:G) (h:Bl W0 V)=>XJ _ _ ((p.den:Int)) ((q.den:Int)) V (j1.below h) (j2.below h) (by have:=k.o.den.size;omega) (by have:=l.o.den.size;omega)) λ(V:G) (h:Bl W0 V) (v4:I) (f:Jv V v4 (p.num*q.num)) (v9:I) (j:Jv V v9 ((p.den:Int)*(q.den:Int)))=>(by have h:=Kc _ _ (p.num*q.num) ((p.den:Int)*(q.den:Int)) V f j (Cn (by have:=p.den_nz;omega) (by have:=q.den_nz;omega)) (k.o.mulN l.o) (k.o.mulD l.o);rw[Rg]at h;exact h);have cj:w.heap.size≠w.heap.size+1+1:=c.o.ne 0 2 rfl rfl DO;have ck:w.heap.size+1≠w.heap.size+1+1:=c.o.ne 1 2 rfl rfl DO;have hq:Bl W0 W0.drew:=(BA _ W0).drew;go_region_held3 (λa=>a.cell? ⟨w.heap.size,0,none⟩=some (C a1 l1 c1)/\a.cell? ⟨w.heap.size,1,none⟩=some (E s1)/\a.cell? ⟨w.heap.size,2,none⟩=some (C b1 k1 d1)/\a.cell? ⟨w.heap.size,3,none⟩=some (E t1)/\a.cell? ⟨w.heap.size+1,0,none⟩=some (C a2 l2 c2)/\a.cell? ⟨w.heap.size+1,1,none⟩=some (E s2)/\a.cell? ⟨w.heap.size+1,2,none⟩=some (C b2 k2 d2)/\a.cell? ⟨w.heap.size+1,3,none⟩=some (E t2)) (first|(with_reducible exact⟨o,s,x,z,r,n,m,D⟩)|(go_keep;done)|(refine⟨?_,?_,?_,?_,?_,?_,?_,?_⟩<;>((repeat rw[JG O]);first|assumption|(go_keep;done))))
  (first
   |(go_at_call 97;refine(H4.o _ hq ).mono ?_;clear H4;rintro e w4 ⟨v4,rfl,f,bn⟩;have hq:=Bt hq bn;obtain⟨o,s,x,z⟩:=(M.below hq).cq;obtain⟨r,n,m,D⟩:=(N.below hq).cq;obtain⟨y,t,K,A⟩:=(b.below hq).cq;obtain⟨S,R,Q,P⟩:=(b.below hq).fq)
   |(go_at_call 97;refine(H9.o _ hq ).mono ?_;clear H9;rintro e w9 ⟨v9,rfl,j,ap⟩;have f:=f.below ap;have hq:=Bt hq ap;obtain⟨o,s,x,z⟩:=(M.below hq).cq;obtain⟨r,n,m,D⟩:=(N.below hq).cq;obtain⟨y,t,K,A⟩:=(b.below hq).cq;obtain⟨S,R,Q,P⟩:=(b.below hq).fq)
   |(go_at_call 95;refine(Qt.o _ hq _ f _ j).mono ?_;clear Qt;rintro e co ⟨cn,rfl,an,X⟩;obtain⟨bj,bu,bl,ce,bk,bt,bm,ci,rfl⟩:=Jl.form an;have f:=f.below X;have j:=j.below X;have hq:=Bt hq X;obtain⟨o,s,x,z⟩:=(M.below hq).cq;obtain⟨r,n,m,D⟩:=(N.below hq).cq;obtain⟨y,t,K,A⟩:=(b.below hq).cq;obtain⟨S,R,Q,P⟩:=(b.below hq).fq))
 all_goals go_wp2_with fail
 have Qv:=Bt c.o.2.2 hq;have Qu:=c.o.ge 2 rfl;exact A0 (v:=B #[C bj bu bl,E ce,C bk bt bm,E ci]) (by simp[results,Tryz.results43,go_sem,y,t,K,A]) rfl ⟨_,rfl,an.put4 (b.below hq) rfl rfl rfl rfl _ _ _ _,Jo Qv Qu _ _ _ _⟩
theorem PV(va vb:I)(p q:Rat)(w:G)(U:Jl w va p)(W:Jl w vb q)(aw:Sq p)(ax:Sq q)(aq:q≠0):
 L H 158 #[va,vb] w λe a=>∃u,e=.returned u/\Jl a u (p/q)/\Bl w a:=by
 obtain⟨ad,bc,ai,bg,af,ay,ak,bi,rfl⟩:=Jl.form U;obtain⟨ae,bf,aj,bh,ah,az,am,bj,rfl⟩:=Jl.form W;have g:=((((Mem.nil w).push (.ref p) U).push (.ref q) (Has.alloc (d:=.ref q) W _)).push .zref rfl);simp only[Ax]at g;have g:Mem w (((w.alloc (F #[C ad bc ai,E bg,C af ay ak,E bi] 47)).alloc (F #[C ae bf aj,E bh,C ah az am,E bj] 47)).alloc (F #[C none 0 0,E false,C none 0 0,E false] 47)) [some (w.heap.size,.ref p),some (w.heap.size+1,.ref q),some (w.heap.size+1+1,.zref)]:=g;obtain⟨W0,T⟩:=ex (((w.alloc (F #[C ad bc ai,E bg,C af ay ak,E bi] 47)).alloc (F #[C ae bf aj,E bh,C ah az am,E bj] 47)).alloc (F #[C none 0 0,E false,C none 0 0,E false] 47));have Qt:=Y T;rw[T]at g;have c:Hid (Mem w W0 [some (w.heap.size,.ref p),some (w.heap.size+1,.ref q),some (w.heap.size+1+1,.zref)]):=Y g;obtain⟨k,l,Qo⟩:=Df aw ax aq;clear g T U W aw ax aq;go_enter Tryz.func158,Tryz.ntmps158
 go_upto_region 1 with fail
 rw[Qt.o];clear Qt;obtain⟨a1,l1,c1,s1,b1,k1,d1,t1,M,r1,i1,j1⟩:=c.o.ref (i:=0) rfl;obtain⟨o,s,x,z⟩:=M.cq;obtain⟨a2,l2,c2,s2,b2,k2,d2,t2,N,r2,i2,j2⟩:=c.o.ref (i:=1) rfl;obtain⟨r,n,m,D⟩:=N.cq;have b:=c.o.zref (i:=2) rfl;obtain⟨y,t,K,A⟩:=b.cq;obtain⟨S,R,Q,P⟩:=b.fq;obtain⟨H4,H9,Qu⟩:=Df (λ(V:G) (h:Bl W0 V)=>XJ _ _ (p.num) ((q.den:Int)) V (i1.below h) (j2.below h) (by have:=k.o.num.size;omega) (by have:=l.o.den.size;omega)) (λ(V:G) (h:Bl W0 V)=>XJ _ _ ((p.den:Int)) (q.num) V (j1.below h) (i2.below h) (by have:=k.o.den.size;omega) (by have:=l.o.num.size;omega)) λ(V:G) (h:Bl W0 V) (v4:I) (f:Jv V v4 (p.num*(q.den:Int))) (v9:I) (j:Jv V v9 ((p.den:Int)*q.num))=>(by have h:=Kc _ _ (p.num*(q.den:Int)) ((p.den:Int)*q.num) V f j (Cn (by have:=p.den_nz;omega) λh=>Qo.o (Fv.1 h)) (k.o.cross l.o) (k.o.cross2 l.o);rw[Rf]at h;exact h);have ck:w.heap.size≠w.heap.size+1+1:=c.o.ne 0 2 rfl rfl DO;have cn:w.heap.size+1≠w.heap.size+1+1:=c.o.ne 1 2 rfl rfl DO;have hq:Bl W0 W0.drew:=(BA _ W0).drew;go_region_held3 (λa=>a.cell? ⟨w.heap.size,0,none⟩=some (C a1 l1 c1)/\a.cell? ⟨w.heap.size,1,none⟩=some (E s1)/\a.cell? ⟨w.heap.size,2,none⟩=some (C b1 k1 d1)/\a.cell? ⟨w.heap.size,3,none⟩=some (E t1)/\a.cell? ⟨w.heap.size+1,0,none⟩=some (C a2 l2 c2)/\a.cell? ⟨w.heap.size+1,1,none⟩=some (E s2)/\a.cell? ⟨w.heap.size+1,2,none⟩=some (C b2 k2 d2)/\a.cell? ⟨w.heap.size+1,3,none⟩=some (E t2)) (first|(with_reducible exact⟨o,s,x,z,r,n,m,D⟩)|(go_keep;done)|(refine⟨?_,?_,?_,?_,?_,?_,?_,?_⟩<;>((repeat rw[JG O]);first|assumption|(go_keep;done))))
  (first
   |(go_at_call 97;refine(H4.o _ hq ).mono ?_;clear H4;rintro e w4 ⟨v4,rfl,f,bt⟩;have hq:=Bt hq bt;obtain⟨o,s,x,z⟩:=(M.below hq).cq;obtain⟨r,n,m,D⟩:=(N.below hq).cq;obtain⟨y,t,K,A⟩:=(b.below hq).cq;obtain⟨S,R,Q,P⟩:=(b.below hq).fq)
   |(go_at_call 97;refine(H9.o _ hq ).mono ?_;clear H9;rintro e w9 ⟨v9,rfl,j,ap⟩;have f:=f.below ap;have hq:=Bt hq ap;obtain⟨o,s,x,z⟩:=(M.below hq).cq;obtain⟨r,n,m,D⟩:=(N.below hq).cq;obtain⟨y,t,K,A⟩:=(b.below hq).cq;obtain⟨S,R,Q,P⟩:=(b.below hq).fq)
   |(go_at_call 95;refine(Qu.o _ hq _ f _ j).mono ?_;clear Qu;rintro e ct ⟨co,rfl,an,X⟩;obtain⟨bk,ce,bm,ci,bl,bu,bn,cj,rfl⟩:=Jl.form an;have f:=f.below X;have j:=j.below X;have hq:=Bt hq X;obtain⟨o,s,x,z⟩:=(M.below hq).cq;obtain⟨r,n,m,D⟩:=(N.below hq).cq;obtain⟨y,t,K,A⟩:=(b.below hq).cq;obtain⟨S,R,Q,P⟩:=(b.below hq).fq))
 all_goals go_wp2_with fail
 have Qw:=Bt c.o.2.2 hq;have Qv:=c.o.ge 2 rfl;exact A0 (v:=B #[C bk ce bm,E ci,C bl bu bn,E cj]) (by simp[results,Tryz.results158,go_sem,y,t,K,A]) rfl ⟨_,rfl,an.put4 (b.below hq) rfl rfl rfl rfl _ _ _ _,Jo Qw Qv _ _ _ _⟩
theorem ec(va vb:I)(p q:Rat)(w:G)(A:Jl w va p)(D:Jl w vb q)(ai:Sq p)(aj:Sq q):
 L H 60 #[va,vb] w λe a=>e=.returned (.int .i64 (XT (p.num*(q.den:Int)) (q.num*(p.den:Int))))/\Bl w a:=by
 obtain⟨n,M⟩:=ex (XT (p.num*(q.den:Int)) (q.num*(p.den:Int)));have HN:=Y M;rw[M];clear M;obtain⟨S,an,X,aq,U,ak,ae,ax,rfl⟩:=Jl.form A;obtain⟨T,ap,ad,aw,W,am,af,ay,rfl⟩:=Jl.form D;have c:=(((Mem.nil w).push (.ref p) A).push (.ref q) (Has.alloc (d:=.ref q) D _));simp only[Ax]at c;have c:Mem w ((w.alloc (F #[C S an X,E aq,C U ak ae,E ax] 47)).alloc (F #[C T ap ad,E aw,C W am af,E ay] 47)) [some (w.heap.size,.ref p),some (w.heap.size+1,.ref q)]:=c;obtain⟨W0,z⟩:=ex ((w.alloc (F #[C S an X,E aq,C U ak ae,E ax] 47)).alloc (F #[C T ap ad,E aw,C W am af,E ay] 47));have Q:=Y z;rw[z]at c;have y:Hid (Mem w W0 [some (w.heap.size,.ref p),some (w.heap.size+1,.ref q)]):=Y c;have g:=Y ai;have j:=Y aj;clear c z A D ai aj;go_enter Tryz.func60,Tryz.ntmps60
 go_upto_region 1 with fail
 rw[Q.o];clear Q;obtain⟨a1,l1,c1,s1,b1,k1,d1,t1,v,r1,i1,j1⟩:=y.o.ref (i:=0) rfl;obtain⟨u,l,r,t⟩:=v.cq;obtain⟨a2,l2,c2,s2,b2,k2,d2,t2,x,r2,i2,j2⟩:=y.o.ref (i:=1) rfl;obtain⟨k,m,s,o⟩:=x.cq;obtain⟨N,P,R⟩:=Df (λ(V:G) (h:Bl W0 V)=>XJ _ _ (p.num) ((q.den:Int)) V (i1.below h) (j2.below h) (by have:=g.o.num.size;omega) (by have:=j.o.den.size;omega)) (λ(V:G) (h:Bl W0 V)=>XJ _ _ (q.num) ((p.den:Int)) V (i2.below h) (j1.below h) (by have:=j.o.num.size;omega) (by have:=g.o.den.size;omega)) λ(V:G) (h:Bl W0 V) (v4:I) (b:Jv V v4 (p.num*(q.den:Int))) (v9:I) (f:Jv V v9 (q.num*(p.den:Int)))=>(by have h:=cN _ _ (p.num*(q.den:Int)) (q.num*(p.den:Int)) V b f (by have:=(g.o.cross j.o).size;omega) (by have:=(j.o.cross g.o).size;omega);rw[HN.o]at h;exact h);have hq:Bl W0 W0.drew:=(BA _ W0).drew;go_region_held3 (λa=>a.cell? ⟨w.heap.size,0,none⟩=some (C a1 l1 c1)/\a.cell? ⟨w.heap.size,1,none⟩=some (E s1)/\a.cell? ⟨w.heap.size,2,none⟩=some (C b1 k1 d1)/\a.cell? ⟨w.heap.size,3,none⟩=some (E t1)/\a.cell? ⟨w.heap.size+1,0,none⟩=some (C a2 l2 c2)/\a.cell? ⟨w.heap.size+1,1,none⟩=some (E s2)/\a.cell? ⟨w.heap.size+1,2,none⟩=some (C b2 k2 d2)/\a.cell? ⟨w.heap.size+1,3,none⟩=some (E t2)) (first|(with_reducible exact⟨u,l,r,t,k,m,s,o⟩)|(go_keep;done)|(refine⟨?_,?_,?_,?_,?_,?_,?_,?_⟩<;>((repeat rw[JG O]);first|assumption|(go_keep;done))))
  (first
   |(go_at_call 97;refine(N.o _ hq ).mono ?_;clear N;rintro e w4 ⟨v4,rfl,b,az⟩;have hq:=Bt hq az;obtain⟨u,l,r,t⟩:=(v.below hq).cq;obtain⟨k,m,s,o⟩:=(x.below hq).cq)
   |(go_at_call 97;refine(P.o _ hq ).mono ?_;clear P;rintro e w9 ⟨v9,rfl,f,ah⟩;have b:=b.below ah;have hq:=Bt hq ah;obtain⟨u,l,r,t⟩:=(v.below hq).cq;obtain⟨k,m,s,o⟩:=(x.below hq).cq)
   |(go_at_call 118;refine(R.o _ hq _ b _ f).mono ?_;clear R;rintro e bc ⟨rfl,K⟩;have b:=b.below K;have f:=f.below K;have hq:=Bt hq K;obtain⟨u,l,r,t⟩:=(v.below hq).cq;obtain⟨k,m,s,o⟩:=(x.below hq).cq))
 all_goals go_wp2_with fail
 go_ret;exact⟨rfl,Bt y.o.2.2 hq⟩
theorem ef(va:I)(q:Rat)(w:G)(j:Jl w va q):
 L H 157 #[va] w λe a=>∃u,e=.returned u/\Jl a u (-q)/\Bl w a:=by
 obtain⟨A,S,M,W,K,R,P,ad,rfl⟩:=Jl.form j;have b:=(((Mem.nil w).push (.ref q) j).push .zref rfl);simp only[Ax]at b;have b:Mem w ((w.alloc (F #[C A S M,E W,C K R P,E ad] 47)).alloc (F #[C none 0 0,E false,C none 0 0,E false] 47)) [some (w.heap.size,.ref q),some (w.heap.size+1,.zref)]:=b;obtain⟨W0,g⟩:=ex ((w.alloc (F #[C A S M,E W,C K R P,E ad] 47)).alloc (F #[C none 0 0,E false,C none 0 0,E false] 47));have p:=Y g;rw[g]at b;have d:Hid (Mem w W0 [some (w.heap.size,.ref q),some (w.heap.size+1,.zref)]):=Y b;clear b g j;go_enter Tryz.func157,Tryz.ntmps157
 go_upto_region 1 with fail
 rw[p.o];clear p;obtain⟨a1,l1,c1,s1,f,k,d1,l,U,r1,i1,j1⟩:=d.o.ref (i:=0) rfl;obtain⟨z,o,t,y⟩:=U.cq;have c:=d.o.zref (i:=1) rfl;obtain⟨n,r,x,s⟩:=c.cq;obtain⟨Ql,Qk,Qn,Qm⟩:=c.fq;have m:=Y λ(V:G) (h:Bl W0 V)=>Og _ q.num V (i1.below h);have hq:Bl W0 W0.drew:=(BA _ W0).drew;go_region_held3 (λa=>a.cell? ⟨w.heap.size,0,none⟩=some (C a1 l1 c1)/\a.cell? ⟨w.heap.size,1,none⟩=some (E s1)/\a.cell? ⟨w.heap.size,2,none⟩=some (C f k d1)/\a.cell? ⟨w.heap.size,3,none⟩=some (E l)) (first|(with_reducible exact⟨z,o,t,y⟩)|(go_keep;done)|(refine⟨?_,?_,?_,?_⟩<;>((repeat rw[JG O]);first|assumption|(go_keep;done))))
  (first
   |(go_at_call 142;refine(m.o _ hq ).mono ?_;clear m;rintro e w2 ⟨v2,rfl,Q,ae⟩;obtain⟨D,T,N,X,rfl⟩:=Jv.form2 Q;have hq:=Bt hq ae;obtain⟨z,o,t,y⟩:=(U.below hq).cq;obtain⟨n,r,x,s⟩:=(c.below hq).cq;obtain⟨Ql,Qk,Qn,Qm⟩:=(c.below hq).fq))
 all_goals go_wp2_with fail
 have hr:Jl w2 (B #[C D T N,E X,C f k d1,E l]) (-q):=Jl.mk Q (j1.below hq);have Qo:=Bt d.o.2.2 hq;have Qj:=d.o.ge 1 rfl;exact A0 (v:=B #[C D T N,E X,C f k d1,E l]) (by simp[results,Tryz.results157,go_sem,n,r,x,s]) rfl ⟨_,rfl,hr.put4 (c.below hq) rfl rfl rfl rfl _ _ _ _,Jo Qo Qj _ _ _ _⟩
theorem L0(u:I)(q:Rat)(w:G)(d:Jl w u q):
 L H 58 #[u] w λe z=>e=.returned (.int .i64 q.num.sign)/\Bl w z:=by
 obtain⟨n,f⟩:=ex (q.num.sign);rw[f];have v:=Y f;clear f;obtain⟨k,r,m,s,l,p,o,t,rfl⟩:=Jl.form d;have a:=((Mem.nil w).push (.ref q) d);have a:Mem w (w.alloc (F #[C k r m,E s,C l p o,E t] 47)) [some (w.heap.size,.ref q)]:=a;obtain⟨W0,c⟩:=ex (w.alloc (F #[C k r m,E s,C l p o,E t] 47));have j:=Y c;rw[c]at a;have g:Hid (Mem w W0 [some (w.heap.size,.ref q)]):=Y a;clear a c d;go_enter Tryz.func58,Tryz.ntmps58
 go_upto_region 1 with fail
 rw[j.o];clear j;obtain⟨A,l1,c1,Q,D,P,d1,R,y,r1,x,N⟩:=g.o.ref (i:=0) rfl;obtain⟨K,M⟩:=y.cp;have b:=Y (TH _ q.num W0 x);rw[v.o]at b;go_wp2_with(go_at_call 115;refine b.o.mono ?_;clear b;rintro e S ⟨rfl,hq⟩)
 go_ret;exact⟨rfl,Bt g.o.2.2 hq⟩
theorem YH(n:Int)(s:-9223372036854775808<=n)(t:n<=9223372036854775807)(w:G):
 L H 41 #[.int .i64 n] w λe N=>∃u,e=.returned u/\Jl N u (n:Rat)/\Bl w N:=by
 have f:=Y λ(V:G)=>IF n s t V;clear s t;have a:=((Mem.nil w).push .zref rfl);have a:Mem w (w.alloc (F #[C none 0 0,E false,C none 0 0,E false] 47)) [some (w.heap.size,.zref)]:=a;obtain⟨W0,d⟩:=ex (w.alloc (F #[C none 0 0,E false,C none 0 0,E false] 47));have j:=Y d;rw[d]at a;have c:Hid (Mem w W0 [some (w.heap.size,.zref)]):=Y a;clear a d;go_enter Tryz.func41,Tryz.ntmps41
 go_upto_region 1 with fail
 rw[j.o];clear j;have b:=c.o.zref (i:=0) rfl;obtain⟨m,g,k,l⟩:=b.cq;obtain⟨Q,R,T,S⟩:=b.fq;go_wp2_with(first
  |(go_at_call 94;refine(f.o _).mono ?_;clear f;rintro e w1 ⟨u1,rfl,y,W⟩;obtain⟨o,A,q,K,rfl⟩:=Jv.form2 y)
  |(go_at_call 94;refine(IF 1 O O _).mono ?_;rintro e w2 ⟨u2,rfl,z,x⟩;obtain⟨p,D,r,M,rfl⟩:=Jv.form2 z;have hq:=Bt W x;obtain⟨m,g,k,l⟩:=(b.below hq).cq;obtain⟨Q,R,T,S⟩:=(b.below hq).fq))
 have X:Jl w2 (B #[C o A q,E K,C p D r,E M]) (n:Rat):=Jl.mk (y.below x) z;have U:=Bt c.o.2.2 hq;have P:=c.o.ge 0 rfl;exact A0 (v:=B #[C o A q,E K,C p D r,E M]) (by simp[results,Tryz.results41,go_sem,m,g,k,l]) rfl ⟨_,rfl,X.put4 (b.below hq) rfl rfl rfl rfl _ _ _ _,Jo U P _ _ _ _⟩
theorem RowK.formsF{cap:Nat}(h:RowK false W (C a l cap) qs):l=qs.length/\l<=cap/\cap<=9223372036854775807/\l<=1099511627776/\∃(s t:Nat->Bool) (k m:Nat->Option Addr) (ll n o dd:Nat->Nat),∀j,j<l->Jl W (B #[C (k j) (ll j) (n j),E (s j),C (m j) (o j) (dd j),E (t j)]) (cf qs j)/\
 ∃b,a=some ⟨b,0,none⟩/\b<W.heap.size/\W.cell? ⟨b,j*4,none⟩=some (C (k j) (ll j) (n j))/\W.cell? ⟨b,j*4+1,none⟩=some (E (s j))/\W.cell? ⟨b,j*4+2,none⟩=some (C (m j) (o j) (dd j))/\W.cell? ⟨b,j*4+3,none⟩=some (E (t j)):=by
 obtain⟨q,r,v,w,x,y,z,u,D⟩:=h.pick;refine⟨q,r,v,w,λj=>NG (y j),λj=>NG (u j),λj=>NH (x j),λj=>NH (z j),λj=>IV (x j),λj=>NI (x j),λj=>IV (z j),λj=>NI (z j),λj K=>?_⟩;obtain⟨i,b,p,A,c0,c1,c2,c3⟩:=D j K;obtain⟨a',l',c',s,M,P,N,t,e,_⟩:=(show Jl W _ _ from i);simp only[Value.agg.injEq,Array.mk.injEq,FR,and_true]at e;obtain⟨c,d,f,g⟩:=e;rw[c,d,f,g]at i;rw[c]at c0;rw[d]at c1;rw[f]at c2;rw[g]at c3;dsimp only;rw[c,d,f,g];exact⟨i,b,p,A,c0,c1,c2,c3⟩
theorem sign_zero(q:Rat):(q.num.sign==0)=decide (q=0):=by
 rw[CE,beq_iff_eq,BQ,Int.sign_eq_zero_iff_zero,Fv]
theorem TJ{len:Nat}(hl:len=qs.length)(c:k<=len)(a:∀j,k<=j->cf qs j=0)(b:k=0\/cf qs (k-1)≠0):Jd qs=qs.take k/\(Jd qs).length=k:=by
 have e:=QV (p:=qs) (n:=k) O b a;exact⟨e,by rw[e,Ak];omega⟩
theorem eh(a:Option Addr)(len cap:Nat)(qs:List Rat)(w:G)(h:RowK false w (C a len cap) qs):
 L H 44 #[C a len cap] w λe Q=>e=.returned (C a (Jd qs).length cap)/\RowK false Q (C a (Jd qs).length cap) (Jd qs)/\Bl w Q:=by
 obtain⟨hl,ad,ae,af,s,t,V,W,ll,X,kk,dd,A⟩:=h.formsF;obtain⟨o,R,x⟩:=Df hl A h;clear A hl h;go_enter Tryz.func44,Tryz.ntmps44
 go_wp2;go_loopw [3] (λv wr=>∃k:Nat,k<=len/\v=.int .i64 (k:Int)/\Hid ((∀j,k<=j->cf qs j=0)/\Bl w wr)) λv _=>(intOf v).toNat
 case atStart=>exact⟨len,Aa _,rfl,Y ⟨λj S=>J3 (by have:=o.o;omega),BA _ _⟩⟩
 case round=>
  obtain⟨k,hk,rfl,c⟩:=hrel;cases k with
  |zero=>
   go_wp2;go_ret;obtain⟨r,g⟩:=TJ o.o (k:=0) (Az _) c.o.1 (Or.inl rfl);refine⟨by rw[g];rfl,?_,c.o.2⟩;rw[g,r];exact(x.o.below c.o.2).take O
  |succ k=>
   obtain⟨D,b,rfl,l,K,M,N,P⟩:=R.o k O;have d:=c.o.2;have y:=Y (D.below d);replace K:=(d.cell (p:=⟨b,_,none⟩) l).trans K;replace M:=(d.cell (p:=⟨b,_,none⟩) l).trans M;replace N:=(d.cell (p:=⟨b,_,none⟩) l).trans N;replace P:=(d.cell (p:=⟨b,_,none⟩) l).trans P;have i:=Y (L0 _ _ wr y.o);have m:=sign_zero (cf qs k);clear D d y;by_cases f:cf qs k=0
   . rw[show decide (cf qs k=0)=true from BJ f]at m;have q:=Y f;clear f;generalize (cf qs k).num.sign=n at i m;go_wp2_with(go_at_call 58;refine i.o.mono ?_;rintro e U ⟨rfl,u⟩)
     go_roundw
     case rel=>
      refine⟨k,O,Z,Y ⟨λj S=>?_,Bt c.o.2 u⟩⟩;by_cases T:j=k
      . rw[T];exact q.o
      . exact c.o.1 j O
     case measure=>simp[intOf]
   . rw[show decide (cf qs k=0)=false from BF f]at m;have q:=Y f;clear f;generalize (cf qs k).num.sign=n at i m;go_wp2_with(go_at_call 58;refine i.o.mono ?_;rintro e U ⟨rfl,u⟩)
     go_ret;have z:=Bt c.o.2 u;obtain⟨r,g⟩:=TJ o.o (k:=k+1) O c.o.1 (Or.inr q.o);refine⟨by rw[g];rfl,?_,z⟩;rw[g,r];exact(x.o.below z).take O
theorem LD(v:I)(qs:List Rat)(w:G)(h:RowK false w v qs):
 L H 44 #[v] w λe b=>∃u,e=.returned u/\RowK false b u (Jd qs)/\Bl w b:=by
 obtain⟨a,l,c,rfl⟩:=h.form;refine(eh a l c qs w h).mono ?_;rintro e b ⟨rfl,d,f⟩;exact⟨_,rfl,d,f⟩
theorem PW{B:Nat}(q:JF W B 47 (C none 0 0) (E false) (C none 0 0) (E false)){v:I}{p:Rat}(h:Jl W v p)(x y z u:I):Jl (put4 W B x y z u) v p:=h.put4 q rfl rfl rfl rfl _ _ _ _
theorem TK(v:I)(qs:List Rat)(i:Int)(w:G)(h:RowK false w v qs):
 L H 151 #[v,.int .i64 i] w λe X=>∃u,e=.returned u/\Jl X u (if i<0 then 0 else cf qs i.toNat)/\Bl w X:=by
 obtain⟨a,l,c,rfl⟩:=h.form;obtain⟨hl,ad,ae,af,s,t,aa,bb,ll,cc,kk,dd,T⟩:=h.formsF;have HL:=Y hl;have o:=Y T;clear hl T h;have n:Bl w (w.alloc (F #[C none 0 0,E false,C none 0 0,E false] 47)):=Ba w _;have b0:=JF.new w 47 (C none 0 0) (E false) (C none 0 0) (E false);have g:=Y λ(V:G)=>YH 0 O O V;by_cases d:i<0\/(l:Int)<=i
 . have HZ:=Y (show(if i<0 then(0:Rat)else cf qs i.toNat)=((0:Int):Rat)by
    rcases d with d|d
    . rw[BC d];rfl
    . rw[BB O,J3 (by have:=HL.o;omega)];rfl)
   rw[HZ.o];obtain⟨W0,z⟩:=ex (w.alloc (F #[C none 0 0,E false,C none 0 0,E false] 47));rw[z]at n b0;have S:=Y z;clear z o;rcases d with d|d
   . go_enter Tryz.func151,Tryz.ntmps151
     go_upto_region 1 with fail
     rw[S.o];go_wp2_with(go_at_call 41;refine(g.o _).mono ?_;clear g;rintro e w1 ⟨u,rfl,k,j⟩;have f:=b0.below j;obtain⟨A,D,K,M⟩:=f.cq;obtain⟨f0,f1,f2,f3⟩:=f.fq;obtain⟨p,P,r,Q,q,N,x,R,rfl⟩:=Jl.form k)
     exact A0 (v:=B #[C p P r,E Q,C q N x,E R]) (by simp[results,Tryz.results151,go_sem,A,D,K,M]) rfl ⟨_,rfl,PW f k _ _ _ _,Jo (Bt n j) (Aa _) _ _ _ _⟩
   . have y:¬i<0:=O
     go_enter Tryz.func151,Tryz.ntmps151
     go_upto_region 1 with fail
     rw[S.o];go_wp2_with(go_at_call 41;refine(g.o _).mono ?_;clear g;rintro e w1 ⟨u,rfl,k,j⟩;have f:=b0.below j;obtain⟨A,D,K,M⟩:=f.cq;obtain⟨f0,f1,f2,f3⟩:=f.fq;obtain⟨p,P,r,Q,q,N,x,R,rfl⟩:=Jl.form k)
     exact A0 (v:=B #[C p P r,E Q,C q N x,E R]) (by simp[results,Tryz.results151,go_sem,A,D,K,M]) rfl ⟨_,rfl,PW f k _ _ _ _,Jo (Bt n j) (Aa _) _ _ _ _⟩
 . have y:¬i<0:=O
   rw[BB y];obtain⟨m,rfl⟩:∃m:Nat,i=(m:Int):=⟨i.toNat,O⟩;have hm:m<l:=O
   obtain⟨U,b,rfl,hb,k0,W,k2,k3⟩:=o.o m hm;have HI:=Y U;rw[CI];clear o U y d g b0 n;generalize s m=s1 at *;generalize t m=t1 at *;generalize aa m=a1 at *;generalize bb m=b1 at *;generalize ll m=l1 at *;generalize cc m=c1 at *;generalize kk m=W at *;generalize dd m=d1 at *;go_enter Tryz.func151,Tryz.ntmps151
   go_wp2;exact A0 (v:=B #[C a1 l1 c1,E s1,C b1 W d1,E t1]) (by simp[results,Tryz.results151,go_sem]) rfl ⟨_,rfl,HI.o.below (Ba w _),Ba w _⟩
def XK(f:Nat->Rat)(k:Nat):List Rat:=(List.range k).map f
theorem JO(f:Nat->Rat)(k:Nat):(XK f k).length=k:=by simp[XK]
theorem Xi(f:Nat->Rat)(k:Nat):XK f (k+1)=XK f k++[f k]:=by simp[XK,List.range_succ]
theorem L1(f:Nat->Rat)(k i:Nat):cf (XK f k) i=if i<k then f i else 0:=MQ k f i
theorem PX(va vb:I)(ps qs:List Rat)(w:G)(P:RowK false w va ps)(Q:RowK false w vb qs)(af:Da ps)(ah:Da qs)(ax:ps.length<1099511627776/\qs.length<1099511627776):
 L H 101 #[va,vb] w λe w'=>∃u,e=.returned u/\RowK false w' u (XR ps qs)/\Bl w w':=by
 obtain⟨a,la,ca,rfl⟩:=P.form;obtain⟨b,lb,cb,rfl⟩:=Q.form;obtain⟨ad,an,aq,bj,_⟩:=P.formsF;obtain⟨ae,ap,aw,bk,_⟩:=Q.formsF;obtain⟨n,hn⟩:=ex (max la lb:Nat);obtain⟨r,HA,HB,HP,HQ,Qm,Ql⟩:=Ky (show la<=n/\lb<=n/\n<1099511627776/\(∀k,k<n->k<la\/k<lb)from⟨O,O,O,λk hk=>by omega⟩) P Q af ah ad ae;clear P Q af ah ad ae an aq ap aw hn ax;go_enter Tryz.func101,Tryz.ntmps101
 go_wp2;go_loopw [5,6] (λo i wr=>∃k:Nat,k<=n/\i=.int .i64 (k:Int)/\(∃oa oc,o=C oa k oc)/\Hid (Ef false w.heap.size wr o (XK (λi=>cf ps i+cf qs i) k)/\Bl w wr)) λ_ i _=>n-(intOf i).toNat
 case atStart=>exact⟨0,Az _,rfl,⟨_,_,rfl⟩,Y ⟨Ef.nil _ _ _,BA _ _⟩⟩
 case round=>
  obtain⟨k,hk,rfl,⟨oa,oc,rfl⟩,d⟩:=hrel;by_cases ay:k<n
  . have x:=Y (TK _ ps (k:Int) wr (HA.o.below d.o.2));have t:=Y λ(V:G) (h:Bl wr V)=>TK _ qs (k:Int) V ((HB.o.below d.o.2).below h);rw[BB O,CI]at x;rw[show(if(k:Int)<0 then(0:Rat)else cf qs ((k:Int)).toNat)=cf qs k from by rw[BB O,CI]]at t;have N:=Y λ(V:G) (u v:I) (hu:Jl V u (cf ps k)) (hv:Jl V v (cf qs k))=>PU u v (cf ps k) (cf qs k) V hu hv (HP.o.at k) (HQ.o.at k);have Qj:=r.o.2.2.2 k ay;have HK:=Y (show k+1<=1099511627776 by have:=r.o.2.2.1;omega);by_cases bh:(k:Int)<(la:Int)
    all_goals
     have Qk:(k:Int)<(la:Int)\/(k:Int)<(lb:Int):=O
    . clear Qj Qk;go_wp2_with(first
       |(go_at_call 151;refine x.o.mono ?_;clear x;rintro e w1 ⟨u1,rfl,c,l⟩;have f:=l)
       |(go_at_call 151;refine(t.o _ f).mono ?_;clear t;rintro e w2 ⟨u2,rfl,M,m⟩;have c:=c.below m;have y:=Bt f m;clear f)
       |(go_at_call 42;refine(N.o _ _ _ c M).mono ?_;clear N;rintro e w3 ⟨u3,rfl,q,A⟩;have g:=Bt y A;clear y c M l m A;obtain⟨ai,bc,ak,bf,aj,az,am,bg,rfl⟩:=Jl.form q;obtain⟨v9,w9,W,K,X,D⟩:=KY false w.heap.size w3 _ _ (d.o.1.below g) q (by rw[JO];exact HK.o) (by have:=d.o.2.size;have:=g.size;omega);have s:=Y K;have S:=Y (D w.heap.size w (Aa _) (Bt d.o.2 g));clear K X D q)
       |(at_builtin;refine BU _ rfl _ _ 29 29 rfl _ _ rfl rfl _ _ W ?_))
      obtain⟨T,U,z,_⟩:=s.o.form;go_roundw
      case rel=>
       refine⟨k+1,O,by go_num,⟨T,U,?_⟩,Y ⟨?_,S.o⟩⟩
       . rw[<-Xi,JO]at z;exact z
       . rw[Xi];exact s.o
      case measure=>simp[intOf];omega
    . have bi:(k:Int)<(lb:Int):=O
      clear Qj Qk;go_wp2_with(first
       |(go_at_call 151;refine x.o.mono ?_;clear x;rintro e w1 ⟨u1,rfl,c,l⟩;have f:=l)
       |(go_at_call 151;refine(t.o _ f).mono ?_;clear t;rintro e w2 ⟨u2,rfl,M,m⟩;have c:=c.below m;have y:=Bt f m;clear f)
       |(go_at_call 42;refine(N.o _ _ _ c M).mono ?_;clear N;rintro e w3 ⟨u3,rfl,q,A⟩;have g:=Bt y A;clear y c M l m A;obtain⟨ai,bc,ak,bf,aj,az,am,bg,rfl⟩:=Jl.form q;obtain⟨v9,w9,W,K,X,D⟩:=KY false w.heap.size w3 _ _ (d.o.1.below g) q (by rw[JO];exact HK.o) (by have:=d.o.2.size;have:=g.size;omega);have s:=Y K;have S:=Y (D w.heap.size w (Aa _) (Bt d.o.2 g));clear K X D q)
       |(at_builtin;refine BU _ rfl _ _ 29 29 rfl _ _ rfl rfl _ _ W ?_))
      obtain⟨T,U,z,_⟩:=s.o.form;go_roundw
      case rel=>
       refine⟨k+1,O,by go_num,⟨T,U,?_⟩,Y ⟨?_,S.o⟩⟩
       . rw[<-Xi,JO]at z;exact z
       . rw[Xi];exact s.o
      case measure=>simp[intOf];omega
  . have h1:¬(k:Int)<(la:Int):=by have:=r.o.1;omega
    have h2:¬(k:Int)<(lb:Int):=by have:=r.o.2.1;omega
    have R:=Y λ(V:G) (h:Bl wr V)=>LD _ _ V ((d.o.1.below h).row (by rw[JO];have:=r.o.2.2.1;omega));have HE:=Y (show Jd (XK (λi=>cf ps i+cf qs i) k)=XR ps qs from YM λj=>by
     rw[L1,XP];split
     . rfl
     . have:=r.o;have g1:=Qm.o;have g2:=Ql.o;rw[J3 (p:=ps) O,J3 (p:=qs) O];grind)
    rw[HE.o]at R;go_wp2_with(go_at_call 44;refine(R.o _ (BA _ _)).mono ?_;clear R;rintro e w1 ⟨u1,rfl,c,l⟩;obtain⟨a8,l8,c8,rfl⟩:=c.form)
    go_ret;exact⟨_,rfl,c,Bt d.o.2 l⟩
def GO(r:Bool)(W0:G)(V:G)(o:I)(qs:List Rat):Prop:=Ef r W0.heap.size V o qs/\Bl W0 V
theorem GO.below{r:Bool}{W0 V V':G}{o:I}{qs:List Rat}(h:GO r W0 V o qs)(a:Bl V V'):GO r W0 V' o qs:=⟨h.1.below a,Bt h.2 a⟩
theorem NT(va vq:I)(ps:List Rat)(q:Rat)(w:G)(ha:RowK false w va ps)(hq:Jl w vq q)(am:Da ps)(an:Sq q)(aj:ps.length<1099511627776):
 L H 111 #[va,vq] w λe w'=>∃u,e=.returned u/\RowK false w' u (Jd (Yr q ps))/\Bl w w':=by
 have Qm:Tryz.prog.follows .mixedOrders=true:=by kernel_rfl
 obtain⟨a,la,ca,rfl⟩:=ha.form;obtain⟨a8,l8,c8,s8,b8,k8,d8,t8,rfl⟩:=Jl.form hq;obtain⟨ai,ax,ay,bi,s,t,aa,bb,ll,cc,kk,dd,hc⟩:=ha.formsF;have b0:=JF.new w 47 (C a8 l8 c8) (E s8) (C b8 k8 d8) (E t8);have Qf:Bl w (w.alloc (F #[C a8 l8 c8,E s8,C b8 k8 d8,E t8] 47)):=Ba w _;obtain⟨W0,af⟩:=ex (w.alloc (F #[C a8 l8 c8,E s8,C b8 k8 d8,E t8] 47));rw[af]at Qf b0;obtain⟨Qj,HA,HQ,HP,Qi,Qh,Qd,Qp⟩:=GX af hc (hq.below Qf) am an ai Qf b0;have Ql:=Y aj;clear ha hq am an ai ax ay hc af aj b0 Qf;go_enter Tryz.func111,Tryz.ntmps111
 go_upto_region 1 with fail
 rw[Qj.o];go_wp2;go_loopw [5,6] (λo i wr=>∃k:Nat,k<=la/\i=.int .i64 (k:Int)/\(∃Q R,o=C Q k R)/\Hid (GO false W0 wr o (XK (λi=>cf ps i*q) k))) λ_ i _=>la-(intOf i).toNat
 case atStart=>exact⟨0,Az _,rfl,⟨_,_,rfl⟩,Y ⟨Ef.nil _ _ _,BA _ _⟩⟩
 case round=>
  obtain⟨k,hk,rfl,⟨Q,R,rfl⟩,HR⟩:=hrel;by_cases az:k<la
  . have bj:(k:Int)<(la:Int):=O
    obtain⟨P,b,rfl,W,c0,c1,c2,c3⟩:=HA.o k az;have Qo:=Y (show ∀V,Bl W0 V->(V.cell? ⟨b,k*4,none⟩=some (C (aa k) (ll k) (cc k))/\V.cell? ⟨b,k*4+1,none⟩=some (E (s k))/\V.cell? ⟨b,k*4+2,none⟩=some (C (bb k) (kk k) (dd k))/\V.cell? ⟨b,k*4+3,none⟩=some (E (t k)))/\Jl V (B #[C (aa k) (ll k) (cc k),E (s k),C (bb k) (kk k) (dd k),E (t k)]) (cf ps k)from λV h=>by
     have U:=Bt Qd.o h;exact⟨⟨(U.cell (p:=⟨b,_,none⟩) W).trans c0,(U.cell (p:=⟨b,_,none⟩) W).trans c1,(U.cell (p:=⟨b,_,none⟩) W).trans c2,(U.cell (p:=⟨b,_,none⟩) W).trans c3⟩,P.below U⟩)
    have HK:=Y (show k+1<=1099511627776 by have:=Ql.o;have:=Qh.o;omega);clear P c0 c1 c2 c3 W;go_wp2_with fail
    have Qn:=HR.o.below ((BA _ wr).drew);refine Jr Qm [[],[],[],[1,2],[3],[],[4,5],[6],[0,7,6],[8,8,0,1,2,3,4,5,6,7,8]] (by kernel_rfl) DO
     (λD ad V=>∃(ta tb tc td te tg ti tj S tl:I),ad={ tmps:=#[C (some ⟨b,0,none⟩) la ca,B #[C a8 l8 c8,E s8,C b8 k8 d8,E t8],undef,.pointer (some ⟨w.heap.size,0,none⟩),C none 0 0,tl,.int .i64 ↑k,.int .i64 ↑k,C (some ⟨b,0,none⟩) la ca,.int .i64 ↑la,E true,u11,u12,ta,tb,tc,td,te,tg,ti,tj,S,undef,undef],defers:=[] }/\Hid ((D 0=true->ta=C Q k R)/\(D 1=true->tb=C (some ⟨b,0,none⟩) la ca)/\(D 2=true->tc=.int .i64 (k:Int))/\(D 3=true->td=.pointer (some ⟨b,k*4,none⟩))/\(D 4=true->D 8=false->Jl V te (cf ps k))/\(D 5=true->D 8=false->Jl V tg q)/\(D 6=true->D 8=false->Jl V ti (cf ps k*q))/\(D 7=true->∃a l c,tj=C a l c)/\(D 8=true->∃a l c,S=C a l c)/\((D 9=false->tl=Value.slice Q k R)/\(D 9=true->tl=S)))/\Hid ((D 7=false->GO false W0 V (C Q k R) (XK (λi=>cf ps i*q) k))/\(D 7=true->D 8=false->∃(N:G) (x y z u:I),V=N.alloc (F #[x,y,z,u] (D5 false))/\(GO false W0 N (C Q k R) (XK (λi=>cf ps i*q) k))/\EF false N (B #[x,y,z,u]) (cf ps k*q)/\tj=C (some ⟨N.heap.size,0,none⟩) 1 1)/\(D 8=true->GO false W0 V S (XK (λi=>cf ps i*q) k++[cf ps k*q]))))
     (E8 ⟨_,_,rfl,Y ⟨Z,Z,Z,Z,Z,Z,Z,Z,Z,⟨λ_=>rfl,Z⟩⟩,Y ⟨λ_=>Qn,Z,Z⟩⟩) ?step1 ?fin1
    case step1=>
     rintro D ad V i ds f P m n ⟨ta,tb,tc,td,te,tg,ti,tj,S,tl,rfl,d,A⟩;have bg:i<10:=(Ad.1 P).1;obtain rfl|rfl|rfl|rfl|rfl|rfl|rfl|rfl|rfl|rfl:=OH i O
     all_goals
      simp only[Aj,Ag,An]at P;subst P
     . have r:D 8=false:=DP f n;have Qe:D 9=false:=DP f n;obtain rfl:=EE d Qe;clear m;refine DT ?_;exact⟨(Lq (Dm d) ⟨λ_=>rfl,λh=>by simp[Qe]at h⟩),Y ⟨λh=>A.o.1 (by simpa using h),λh M=>A.o.2.1 (by simpa using h) (by simpa using M),λh=>A.o.2.2 (by simpa using h)⟩⟩
     . have r:D 8=false:=DP f (DP (a:=7) f (DP (a:=6) f (DP (a:=4) f (DP (a:=3) f n))));have v:D 7=false:=DP f (DP (a:=6) f (DP (a:=4) f (DP (a:=3) f n)));have g:=A.o.1 v;clear m;refine DT ?_;exact⟨Y ⟨d.o.1,λ_=>rfl,d.o.2.2.1,d.o.2.2.2.1,d.o.2.2.2.2.1,(Dp d),(Dw d),(EA d),(D8 d),⟨λh=>(EE d) (by simpa using h),λh=>d.o.2.2.2.2.2.2.2.2.2.2 (by simpa using h)⟩⟩,Y ⟨λ_=>g,λh=>by simp[v]at h,λh=>by simp[r]at h⟩⟩
     . have r:D 8=false:=DP f (DP (a:=7) f (DP (a:=6) f (DP (a:=4) f (DP (a:=3) f n))));have v:D 7=false:=DP f (DP (a:=6) f (DP (a:=4) f (DP (a:=3) f n)));have g:=A.o.1 v;clear m;refine DT ?_;exact⟨Y ⟨d.o.1,d.o.2.1,λ_=>rfl,d.o.2.2.2.1,d.o.2.2.2.2.1,(Dp d),(Dw d),(EA d),(D8 d),⟨λh=>(EE d) (by simpa using h),λh=>d.o.2.2.2.2.2.2.2.2.2.2 (by simpa using h)⟩⟩,Y ⟨λ_=>g,λh=>by simp[v]at h,λh=>by simp[r]at h⟩⟩
     . have r:D 8=false:=DP f (DP (a:=7) f (DP (a:=6) f (DP (a:=4) f n)));have v:D 7=false:=DP f (DP (a:=6) f (DP (a:=4) f n));have g:=A.o.1 v;obtain rfl:=d.o.2.1 (m 1 Z);obtain rfl:=d.o.2.2.1 (m 2 Z);clear m;refine DT ?_;exact⟨Y ⟨d.o.1,λ_=>rfl,λ_=>rfl,λ_=>rfl,d.o.2.2.2.2.1,(Dp d),(Dw d),(EA d),(D8 d),⟨λh=>(EE d) (by simpa using h),λh=>d.o.2.2.2.2.2.2.2.2.2.2 (by simpa using h)⟩⟩,Y ⟨λ_=>g,λh=>by simp[v]at h,λh=>by simp[r]at h⟩⟩
     . have r:D 8=false:=DP f (DP (a:=7) f (DP (a:=6) f n));have v:D 7=false:=DP f (DP (a:=6) f n);have g:=A.o.1 v;obtain rfl:=d.o.2.2.2.1 (m 3 Z);obtain⟨⟨e0,e1,e2,e3⟩,hr⟩:=Qo.o V g.2;clear m;refine DT ?_;exact⟨Y ⟨d.o.1,d.o.2.1,d.o.2.2.1,λ_=>rfl,λ_ _=>hr,(Dp d),(Dw d),(EA d),(D8 d),⟨λh=>(EE d) (by simpa using h),λh=>d.o.2.2.2.2.2.2.2.2.2.2 (by simpa using h)⟩⟩,Y ⟨λ_=>g,λh=>by simp[v]at h,λh=>by simp[r]at h⟩⟩
     . have r:D 8=false:=DP f (DP (a:=7) f (DP (a:=6) f n));have v:D 7=false:=DP f (DP (a:=6) f n);have g:=A.o.1 v;have n0:=Qp.o.below g.2;obtain⟨e0,e1,e2,e3⟩:=n0.cq;clear m;refine DT ?_;exact⟨Y ⟨d.o.1,d.o.2.1,d.o.2.2.1,d.o.2.2.2.1,d.o.2.2.2.2.1,λ_ _=>HQ.o.below g.2,(Dw d),(EA d),(D8 d),⟨λh=>(EE d) (by simpa using h),λh=>d.o.2.2.2.2.2.2.2.2.2.2 (by simpa using h)⟩⟩,Y ⟨λ_=>g,λh=>by simp[v]at h,λh=>by simp[r]at h⟩⟩
     . have r:D 8=false:=DP f n;have v:D 7=false:=DP f n;have g:=A.o.1 v;have T:=d.o.2.2.2.2.1 (m 4 Z) r;have h1:=Dp d (m 5 Z) r;clear m;have HC:=Y (NS _ _ (cf ps k) q V T h1 (HP.o.at k) Qi.o);clear T h1;refine Jb rfl rfl λK hK=>?_;go_simp;go_wp2_with(go_at_call 43;refine HC.o.mono ?_;rintro e w5 ⟨v5,rfl,bf,X⟩)
       exact E8 ⟨_,_,rfl,Y ⟨d.o.1,d.o.2.1,d.o.2.2.1,d.o.2.2.2.1,λh M=>(d.o.2.2.2.2.1 h M).below X,λh M=>((Dp d) h M).below X,λ_ _=>bf,(EA d),(D8 d),⟨λh=>(EE d) (by simpa using h),λh=>d.o.2.2.2.2.2.2.2.2.2.2 (by simpa using h)⟩⟩,Y ⟨λ_=>g.below X,λh=>by simp[v]at h,λh=>by simp[r]at h⟩⟩
     . have r:D 8=false:=DP f n;have g:=A.o.1 n;have T:=Dw d (m 6 Z) r;obtain⟨a9,l9,c9,s9,b9,k9,d9,t9,rfl⟩:=Jl.form T;clear m;refine DT ?_;exact⟨Y ⟨d.o.1,d.o.2.1,d.o.2.2.1,d.o.2.2.2.1,λh M=>(d.o.2.2.2.2.1 h M).below (Ba V _),λh M=>((Dp d) h M).below (Ba V _),λh M=>((Dw d) h M).below (Ba V _),λ_=>⟨_,_,_,rfl⟩,(D8 d),⟨λh=>(EE d) (by simpa using h),λh=>d.o.2.2.2.2.2.2.2.2.2.2 (by simpa using h)⟩⟩,Y ⟨λh=>by simp at h,λ_ _=>⟨V,_,_,_,_,rfl,g,T,rfl⟩,λh=>by simp[r]at h⟩⟩
     . obtain⟨N,x9,y9,z9,u9,rfl,g,bc,aw⟩:=A.o.2.1 (m 7 Z) n;obtain rfl:=d.o.1 (m 0 Z);have Qe:D 9=false:=DP f n;have Qg:=m 7 Z;obtain⟨v5,w5,ah,ak,bh,X⟩:=KY false W0.heap.size N _ _ g.1 bc (by rw[JO];exact HK.o) g.2.size;dsimp only[Gb,D5]at ah;subst aw;obtain⟨a6,c6,e6,_⟩:=ak.form;subst e6;clear m;refine Jb rfl rfl λK hK=>?_;refine Lib.wp_append_run _ _ _ 29 29 rfl _ _ rfl rfl _ _ ah (hK _ _ ?_);exact E8 ⟨_,_,rfl,Y ⟨λ_=>rfl,d.o.2.1,d.o.2.2.1,d.o.2.2.2.1,λ_ h=>by simp at h,λ_ h=>by simp at h,λ_ h=>by simp at h,(EA d),λ_=>⟨_,_,_,rfl⟩,⟨λh=>(EE d) (by simpa using h),λh=>by simp[Qe]at h⟩⟩,Y ⟨λh=>by simp[Qg]at h,λ_ h=>by simp at h,λ_=>⟨ak,X _ _ (Aa _) g.2⟩⟩⟩
     . clear m;refine DT ?_;exact⟨(Lq d ⟨λh=>by simp at h,λ_=>rfl⟩),Y ⟨λh=>A.o.1 (by simpa using h),λh M=>A.o.2.1 (by simpa using h) (by simpa using M),λh=>A.o.2.2 (by simpa using h)⟩⟩
    case fin1=>
     rintro D ad V ae ⟨ta,tb,tc,td,te,tg,ti,tj,S,tl,rfl,d,A⟩;have HO:=Y (A.o.2.2 (ae 8 DO));obtain rfl:=d.o.2.2.2.2.2.2.2.2.2.2 (ae 9 DO);clear d A ae;obtain⟨a9,c9,e9,_⟩:=HO.o.1.form;rw[<-Xi,JO]at e9;subst e9;go_wp2_with fail
     go_roundw
     case rel=>exact⟨k+1,O,by go_num,⟨a9,c9,rfl⟩,Y (by rw[Xi];exact HO.o)⟩
     case measure=>simp[intOf];omega
  . have Qk:k=la:=O
    subst Qk;have HT:=Y (LD _ _ wr (HR.o.1.row (by rw[JO];omega)));have HE:=Y (show Jd (XK (λi=>cf ps i*q) k)=Jd (Yr q ps)from YM λj=>by
     rw[L1,Xx];split
     . rfl
     . rw[J3 (by have:=Qh.o;omega)];grind)
    rw[HE.o]at HT;go_wp2_with(go_at_call 44;refine HT.o.mono ?_;clear HT;rintro e w1 ⟨u1,rfl,ap,aq⟩;obtain⟨a7,l7,c7,rfl⟩:=ap.form)
    go_ret;exact⟨_,rfl,ap,(Bt Qd.o HR.o.2).trans (aq.mono (Am Qd.o.size HR.o.2.size))⟩
