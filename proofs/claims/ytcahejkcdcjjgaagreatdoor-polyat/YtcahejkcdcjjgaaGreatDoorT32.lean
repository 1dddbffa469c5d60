import Derived.Test.YtcahejkcdcjjgaaGreatDoorT31
import Derived.Deep.RegionWith
import Derived.Test.YtcahejkcdcjjgaaGreatDoorT28
import Derived.Lib.AppendZeros
open Go.Value renaming slice->C,bool->D,agg->B,pointer->I
open Go.Obj renaming cells->E
open Go renaming World->F,Value->H
open Go.Proofs.Tryz renaming prog->G
set_option maxRecDepth 100000
set_option maxHeartbeats 16000000
namespace Go.Proofs.YtcahejkcdcjjgaaGreatDoor
open Go.RowKit Go.Shelf
attribute [local go_sem] Oper.semAt_some
def PC(W:F):H->Nat
 |C (some p) l _=>val 10000 ((List.range l).map λj=>GH W ⟨p.block,p.off+j,none⟩)
 |_=>0
variable{s:Bool}{qs:List Rat}{c k l n:Nat}{a:Option Addr}{W:F}
theorem RN.rowVal(h:RN W (C a l c) n):PC W (C a l c)=n:=by
 obtain⟨g,_,_,_,f⟩:=Js h;rcases AQ l with d|d
 . subst d;have m:n=0:=(JB om).1 (Am g.symm);subst m;cases a<;>rfl
 . obtain⟨b,off,rfl,_,_⟩:=f 0 d;show val 10000 ((List.range l).map λj=>GH W ⟨b,off+j,none⟩)=n;have e:(List.range l).map (λj=>GH W ⟨b,off+j,none⟩)=Jc 10000 n:=by
    refine List.ext_getElem (by rw[Fs,List.length_range];exact g) (λj p i=>?_);obtain⟨q,o,e,_,k⟩:=f j om;cases e;rw[List.getElem_map,List.getElem_range,GH,k,Af i];rfl
   rw[e,Jm om]
theorem PD{m:Nat}(h:n<=m):(Jc 10000 n).length<=(Jc 10000 m).length:=by
 rcases AB (Jc 10000 m).length (Jc 10000 n).length with a|a
 . have:=YC om a;omega
 . exact a
theorem VQ(q Q:H)(x y:Int)(w:F)(ha:Jr w q x)(hb:Jr w Q y)(N:EA x<=100000000)(ad:EA y<=100000000):
 Calls G 125 #[q,Q] w λe w'=>∃u,e=.returned u/\Jr w' u (Int.gcd x y:Nat)/\Bl w w':=by
 obtain⟨a,i,n,rfl,A⟩:=ha;obtain⟨b,lb,m,rfl,J⟩:=hb;obtain⟨s,hs⟩:=ex (decide (x<0));obtain⟨t,T⟩:=ex (decide (y<0));rw[hs,T];clear hs T;obtain⟨W0,k⟩:=ex (((w.alloc (E #[C a i n,D s] 47)).alloc (E #[C b lb m,D t] 47)).alloc (E #[C none 0 0,D false] 47));have r:Bl w W0:=by rw[<-k];exact Y6 w _ _ _
 have b0:Jj W0 w.heap.size 47 (C a i n) (D s):=by rw[<-k];exact((Jj.new w _ _ _).alloc _).alloc _
 have b1:Jj W0 (w.heap.size+1) 47 (C b lb m) (D t):=by
  have h:=(Jj.new (w.alloc (E #[C a i n,D s] 47)) 47 (C b lb m) (D t)).alloc (E #[C none 0 0,D false] 47);rw[A1,k]at h;exact h
 have bR:Jj W0 (w.heap.size+1+1) 47 (C none 0 0) (D false):=by
  have h:=Jj.new ((w.alloc (E #[C a i n,D s] 47)).alloc (E #[C b lb m,D t] 47)) 47 (C none 0 0) (D false);rw[A1,A1,k]at h;exact h
 have r0:=RN.below A r;have R:=RN.below J r;have k0:=b0.c0;have k2:=b1.c0;have P:i<=100000000:=by rw[RN.len A];exact N
 have S:lb<=100000000:=by rw[RN.len J];exact ad
 have V:=Ja k;clear k A J N ad;go_enter Tryz.func125,Tryz.ntmps125
 go_upto_region 1 with fail
 rw[V.o];clear V;go_wp2_with fail
 go_loopw [5,6] (λxv z wr=>∃(f:Option Addr) (d c0 X:Nat) (l:Option Addr) (g c1 c:Nat),xv=C f d c0/\z=C l g c1/\Hid (RN wr (C f d c0) X)/\Hid (RN wr (C l g c1) c)/\Hid (Nat.gcd X c=Int.gcd x y)/\(d<=100000000/\g<=100000000)/\Bl W0 wr)
  (λ_ z wr=>PC wr z)
 case atStart=>exact⟨a,i,n,x.natAbs,b,lb,m,y.natAbs,rfl,rfl,Ja r0,Ja R,Ja rfl,⟨P,S⟩,BB _ W0⟩
 case round=>
  clear r0 R P S;obtain⟨f,d,c0,X,l,g,c1,c,rfl,rfl,Y,j,hG,⟨ae,O⟩,L⟩:=hrel;rcases AQ g with Z|Z
  . subst Z;have Qf:c=0:=(JB om).1 (Am (RN.len j.o).symm);have HE:=Ja (show X=Int.gcd x y by rw[<-hG.o,Qf,Nat.gcd_zero_right]);have o:=bR.below L;obtain⟨q0,q1⟩:=o.cp;obtain⟨f0,f1⟩:=o.fp;clear Qf;go_wp2_with fail
    have U:=(Hi Y.o).box o rfl rfl (x0:=C f d c0) (x1:=D false);rw[HE.o]at U;have Qj:=Bt r L;have z0:=((o.set0 (C f d c0)).set1 (D false)).c0;have z1:=((o.set0 (C f d c0)).set1 (D false)).c1;exact BA (v:=B #[C f d c0,D false]) (by simp[results,Tryz.results125,go_sem,z0,z1]) rfl ⟨_,rfl,U,(Qj.setCell (p:=⟨_,0,none⟩) so _).setCell (p:=⟨_,1,none⟩) so _⟩
  . have Ql:c≠0:=λe=>by
     have h:=RN.len j.o;rw[e,Jy]at h;simp at h;omega
    have Qi:=Ja (PB f d c0 l g c1 X c wr Y.o j.o Ql ae O);have M:=A9 X (show c>0 by omega);go_wp2_with(go_at_call 157;refine Qi.o.mono ?_;rintro e w2 ⟨u,v,rfl,hu,K,W⟩;obtain⟨ua,uc,rfl⟩:=RN.form hu;obtain⟨q,vc,rfl⟩:=RN.form K)
    have Qk:=RN.below j.o W;refine⟨⟨l,g,c1,c,q,_,vc,X%c,rfl,rfl,Ja Qk,Ja K,Ja (by rw[<-hG.o,C8 c,<-Nat.gcd_rec,C8]),⟨O,?_⟩,Bt L W⟩,?_⟩
    . have h1:=PD (Fw M);rw[<-RN.len j.o]at h1;omega
    . rw[RN.rowVal K,RN.rowVal j.o];exact M
theorem VR(w:F)(d e c f:H)(b a:H):
 Jj ((((w.alloc (E #[d,e] 47)).alloc (E #[c,f] 47)).alloc (E #[b,a] 47)).alloc (E #[b,a] 47)) w.heap.size 47 d e/\
 Jj ((((w.alloc (E #[d,e] 47)).alloc (E #[c,f] 47)).alloc (E #[b,a] 47)).alloc (E #[b,a] 47)) (w.heap.size+1) 47 c f/\
 Jj ((((w.alloc (E #[d,e] 47)).alloc (E #[c,f] 47)).alloc (E #[b,a] 47)).alloc (E #[b,a] 47)) (w.heap.size+1+1) 47 b a/\
 Jj ((((w.alloc (E #[d,e] 47)).alloc (E #[c,f] 47)).alloc (E #[b,a] 47)).alloc (E #[b,a] 47)) (w.heap.size+1+1+1) 47 b a:=by
 refine⟨(((Jj.new w _ _ _).alloc _).alloc _).alloc _,?_,?_,?_⟩
 . have h:=((Jj.new (w.alloc (E #[d,e] 47)) 47 c f).alloc (E #[b,a] 47)).alloc (E #[b,a] 47);rw[A1]at h;exact h
 . have h:=(Jj.new ((w.alloc (E #[d,e] 47)).alloc (E #[c,f] 47)) 47 b a).alloc (E #[b,a] 47);rw[A1,A1]at h;exact h
 . have h:=Jj.new (((w.alloc (E #[d,e] 47)).alloc (E #[c,f] 47)).alloc (E #[b,a] 47)) 47 b a;rw[A1,A1,A1]at h;exact h
theorem VS(h:RN W (C a l c) n)(m:Bool):Jr W (B #[C a l c,D (m&&decide (0<l))]) (if m=true then -(n:Int)else(n:Int)):=by
 have hl:=RN.len h;have f:0<l↔n≠0:=by
  rw[hl];constructor
  . intro b g;rw[g,Jy]at b;simp at b
  . intro b;exact A3.2 (λe=>b ((JB om).1 e))
 cases m with
 |false=>
  refine⟨a,l,c,?_,by simp;exact h⟩;have:decide ((n:Int)<0)=false:=BF om;simp[this]
 |true=>
  refine⟨a,l,c,?_,by simp;exact h⟩;simp only[Bool.true_and,if_true];have:decide (0<l)=decide (-(n:Int)<0):=by
   by_cases d:n=0
   . rw[BF (λb=>f.1 b d),BF om]
   . rw[BJ (f.2 d),BJ om]
  rw[this]
theorem VT(a:Option Addr)(la ca:Nat)(b:Option Addr)(lb cb X L:Nat)(s t:Bool)(z r:Int)(w:F)(hu:RN w (C a la ca) X)(hv:RN w (C b lb cb) L)(hY:L≠0)(cl:la<=100000000)(ck:lb<=100000000)
(HP:Hid (¬(s=true/\X%L≠0)->(if(!(s==t))=true then -((X/L:Nat):Int)else((X/L:Nat):Int))=z/\((X%L:Nat):Int)=r))
(HN:Hid (s=true/\X%L≠0->(if(!(s==t))=true then -((X/L+1:Nat):Int)else((X/L+1:Nat):Int))=z/\((L-X%L:Nat):Int)=r)):
 Calls G 127 #[B #[C a la ca,D s],B #[C b lb cb,D t]] w λe w'=>∃q o,e=.returned (.tuple #[q,o])/\Jr w' q z/\Jr w' o r/\Bl w w':=by
 have Up:Tryz.prog.follows .mixedOrders=true:=by kernel_rfl
 obtain⟨b0,b1,b4,b5⟩:=VR w (C a la ca) (D s) (C b lb cb) (D t) (C none 0 0) (D false);have Qt:=Og w (E #[C a la ca,D s] 47) (E #[C b lb cb,D t] 47) (E #[C none 0 0,D false] 47) (E #[C none 0 0,D false] 47);obtain⟨W0,bn⟩:=ex ((((w.alloc (E #[C a la ca,D s] 47)).alloc (E #[C b lb cb,D t] 47)).alloc (E #[C none 0 0,D false] 47)).alloc (E #[C none 0 0,D false] 47));rw[bn]at b0 b1 b4 b5 Qt;have Ul:=Ja bn;have Ui:=RN.below hu Qt;have Uf:=RN.below hv Qt;have Un:=Ja (PB a la ca b lb cb X L W0 Ui Uf hY cl ck);have Uh:=Ja Uf;have Ur:=Ja (RN.len hu).symm;obtain⟨k0,k1⟩:=b0.cp;obtain⟨k2,k3⟩:=b1.cp;clear bn hu hv Ui Uf;go_enter Tryz.func127,Tryz.ntmps127
 go_upto_region 1 with fail
 rw[Ul.o];go_upto_region 2 with(go_at_call 157;refine Un.o.mono ?_;rintro e w1 ⟨u1,v1,rfl,bz,ce,bj⟩;obtain⟨ua,uc,rfl⟩:=RN.form bz;obtain⟨va,vc,rfl⟩:=RN.form ce)
 clear Un Ul;obtain⟨lr,bu⟩:=ex ((Jc 10000 (X%L)).length);obtain⟨lq,bm⟩:=ex ((Jc 10000 (X/L)).length);have Um:=Ja (show lr=0↔X%L=0 by
  rw[<-bu];exact⟨λh=>(JB om).1 (Am h),λh=>by rw[h,Jy];rfl⟩)
 rw[bu]at ce ⊢;rw[bm]at bz ⊢;have cn:lq<=100000000:=by
  have h1:=PD (m:=X) (n:=X/L) (C6 _ _);have O:=Ur.o;omega
 have Uj:=Ja bm.symm;clear bu bm;obtain⟨k0,k1⟩:=(b0.below bj).cp;obtain⟨k2,k3⟩:=(b1.below bj).cp;have Qk:=Ja (GV ua lq uc (!(s==t)) w1);go_upto_region 3 with(go_at_call 141;refine Qk.o.mono ?_;rintro e w2 ⟨rfl,bt⟩)
 obtain⟨m8,cj⟩:=ex (((!(s==t))&&decide (0<lq)):Bool);have hI:=VS (RN.below bz bt) (!(s==t));rw[cj]at hI ⊢;obtain⟨W3,bd⟩:=ex (w2.alloc (E #[C ua lq uc,D m8] 47));have Qn:Bl w2 W3:=by rw[<-bd];exact Ba w2 _
 have b8:Jj W3 w2.heap.size 47 (C ua lq uc) (D m8):=by rw[<-bd];exact Jj.new w2 _ _ _
 have Qj:Bl w1 W3:=Bt bt Qn;have Qi:Bl W0 W3:=Bt bj Qj;have Ua:=hI.below Qn;have Uq:=RN.below ce Qj;have Qg:=Bt Qt Qi;obtain⟨B8,cg⟩:=ex (w2.heap.size);have ct:w.heap.size+1+1+1<B8:=by
  have h1:=(b5.below (Bt bj bt)).lt;omega
 rw[bd];rw[cg]at b8 ⊢;clear bd cg cj hI Qk;have p0:=b0.below Qi;have p1:=b1.below Qi;have p4:=b4.below Qi;have p5:=b5.below Qi;clear b0 b1 b4 b5 k0 k1 k2 k3;obtain⟨k0,k1⟩:=p0.cp;obtain⟨k2,k3⟩:=p1.cp;obtain⟨k8,k9⟩:=b8.cp;obtain⟨q0,q1⟩:=p4.cp;obtain⟨q2,q3⟩:=p5.cp;obtain⟨f0,f1⟩:=p4.fp;obtain⟨f2,f3⟩:=p5.fp;obtain⟨cd,ci⟩:=ex ((!s || decide (lr=0)):Bool);have Qh:=Ja ci;clear ci;go_cut [31] (λv w4=>v=D cd/\w4=W3)
 case first=>
  cases s with
  |false=>
   have e5:cd=true:=by rw[<-Qh.o];rfl
   go_wp2_with fail
   go_meet
   case rel=>exact⟨by rw[e5],rfl⟩
  |true=>
   by_cases h5:lr=0
   . have e5:cd=true:=by rw[<-Qh.o];simp;omega
     have h6:((lr:Int)==0)=true:=by simp;omega
     clear h5;go_wp2_with fail
     go_meet
     case rel=>exact⟨by rw[e5],rfl⟩
   . have e5:cd=false:=by rw[<-Qh.o];simp;omega
     have h6:((lr:Int)==0)=false:=by simp;omega
     clear h5;go_wp2_with fail
     go_meet
     case rel=>exact⟨by rw[e5],rfl⟩
 case rest=>
  obtain⟨rfl,rfl⟩:=hcut;cases cd with
  |true=>
   have hc:¬(s=true/\X%L≠0):=λ⟨h1,O⟩=>by
    have h:=Qh.o;rw[h1]at h;simp at h;exact O (Um.o.1 h)
   obtain⟨z1,z2⟩:=HP.o hc;rw[z1]at Ua;have Qk:=Ja (GV va lr vc s);have Uk:(s&&decide (0<lr))=false:=by
    have h:=Qh.o;cases s with
    |false=>rfl
    |true=>simp at h;simp;omega
   rw[Uk]at Qk;have Qy:=Ja z2;clear Uk z1 z2 hc;go_wp2_with fail
   go_region_with (first
    |(go_at_call 141;refine(Qk.o _).mono ?_;rintro e w5 ⟨rfl,M⟩;have k8:=((b8.drew).below M).c0;have k9:=((b8.drew).below M).c1;have q0:=((p4.drew).below M).c0;have q1:=((p4.drew).below M).c1;have q2:=((p5.drew).below M).c0;have q3:=((p5.drew).below M).c1;have f0:=((p4.drew).below M).f0;have f1:=((p4.drew).below M).f1;have f2:=((p5.drew).below M).f0;have f3:=((p5.drew).below M).f1))
   all_goals
    go_wp2_with fail
    have Qr:Bl wc w5:=((BB _ wc).drew).trans (M.mono (Aa _));have Qb:=p4.below Qr;have Qd:=p5.below Qr;obtain⟨z4,z5⟩:=Kf (C ua lq uc) (D m8) (C va lr vc) (D false) Qb Qd;obtain⟨Qq,Ql⟩:=z4.cp;obtain⟨Qs,Qm⟩:=z5.cp;have Qc:Jj ((w5.setCell ⟨w.heap.size+1+1,0,none⟩ (C ua lq uc)).setCell ⟨w.heap.size+1+1,1,none⟩ (D m8)) (w.heap.size+1+1+1) 47 (C none 0 0) (D false):=(Qd.far DO _).far DO _;have Qe:=(Hi Uq).below Qr;rw[Qy.o]at Qe;have Qp:=((Ua.below Qr).box Qb rfl rfl (x0:=C ua lq uc) (x1:=D m8)).box Qc rfl rfl (x0:=C va lr vc) (x1:=D false);have Qv:=(Qe.box Qb rfl rfl (x0:=C ua lq uc) (x1:=D m8)).box Qc rfl rfl (x0:=C va lr vc) (x1:=D false);have Qu:=Bt Qg Qr;exact BA (v:=.tuple #[B #[C ua lq uc,D m8],B #[C va lr vc,D false]]) (by simp[results,Tryz.results127,go_sem,Qq,Ql,Qs,Qm]) rfl ⟨_,_,rfl,Qp,Qv,(((Qu.setCell (p:=⟨_,0,none⟩) so _).setCell (p:=⟨_,1,none⟩) so _).setCell (p:=⟨_,0,none⟩) so _).setCell (p:=⟨_,1,none⟩) so _⟩
  |false=>
   have hc:s=true/\X%L≠0:=by
    have h:=Qh.o;simp at h;exact⟨h.1,λe=>h.2 (Um.o.2 e)⟩
   obtain⟨z1,z2⟩:=HN.o hc;rw[hc.1]at z1;have Uo:Jr wc (B #[C ua lq uc,D m8]) (if(!(true==t))=true then -((X/L:Nat):Int)else((X/L:Nat):Int)):=by have h:=Ua;rw[hc.1]at h;exact h
   obtain⟨Ub,Qz,Qy⟩:=Dm Uo z1 z2;have co:=A9 X (show L>0 by omega);have Qx:=Ja (FS 1 om om);have Qw:=Ja (λ(V:F) (h:Bl wc V)=>KG _ _ L (X%L) V (RN.below (RN.below Uh.o Qi) h) (RN.below Uq h) om (by rw[<-RN.len Uh.o];omega));clear hc Uo z1 z2 Ua;cases t with
   |true=>
    have Ud:=Ja (show ∀(V:F) (u:H),Bl wc V->Jr V u 1->Calls G 108 #[B #[C ua lq uc,D m8],u] V λe w'=>∃u,e=.returned u/\Jr w' u z/\Bl V w' from λV u h hu=>by
     have hx:=Ub.o.below h;simp only[beq_self_eq_true,Bool.not_true,Ca,if_false]at hx;have h1:=LY _ u _ 1 V hx hu (by unfold EA;rw[Ci,<-Uj.o];omega) (Ke om om);have O:=Qz.o;simp only[beq_self_eq_true,Bool.not_true,Ca,if_false]at O;rw[show((X/L:Nat):Int)+1=z from by rw[<-O];push_cast;rfl]at h1;exact h1)
    clear Ub Qz HN HP;go_upto_region 6 with fail
    refine Jn Up [[],[],[0,1,1],[],[3],[],[4,5,2],[6],[2,6,0,1,2],[7,8,0,1,2,3,4,5,6,7,8]] (by kernel_rfl) DR
     (λc ac V=>∃bi aq ak az aw bc ae ap:H,ac={ tmps:=#[B #[C a la ca,D s],B #[C b lb cb,D true],I (some ⟨w.heap.size,0,none⟩),I (some ⟨w.heap.size+1,0,none⟩),I (some ⟨w.heap.size+1+1,0,none⟩),I (some ⟨w.heap.size+1+1+1,0,none⟩),C ua lq uc,C va lr vc,I (some ⟨B8,0,none⟩),u9,u10,u11,u12,u13,u14,u15,u16,u17,u18,u19,u20,u21,u22,u23,u24,u25,u26,u27,u28,u29,u30,D false,u32,u33,u34,u35,u36,I (some ⟨w.heap.size+1,1,none⟩),D true,bi,aq,ak,az,aw,bc,ae,ap,u47,u48,u49,u50,u51,u52,u53,u54],defers:=[] }/\Hid (c 0=true->bi=B #[C ua lq uc,D m8])/\Hid (c 1=true->c 8=false->Jr V aq 1)/\Hid (c 2=true->c 8=false->∃y k c5 l,ak=B #[C y k c5,D l]/\Jr V ak z)/\Hid (c 3=true->az=I (some ⟨w.heap.size+1,0,none⟩))/\Hid (c 4=true->aw=C b lb cb)/\Hid (c 5=true->bc=C va lr vc)/\Hid (c 6=true->c 8=false->∃d g f,ae=C d g f/\RN V ae (L-X%L))/\Hid (c 7=true->∃d g f,ae=C d g f/\ap=B #[C d g f,D false])/\Hid (c 8=true->∃V0 y k c5 l d g f,ak=B #[C y k c5,D l]/\ae=C d g f/\Jr V0 (B #[C y k c5,D l]) z/\RN V0 (C d g f) (L-X%L)/\Bl wc V0/\(c 9=false->V=((V0.setCell ⟨w.heap.size+1+1,0,none⟩ (C y k c5)).setCell ⟨w.heap.size+1+1,1,none⟩ (D l)))/\(c 9=true->V=(((V0.setCell ⟨w.heap.size+1+1,0,none⟩ (C y k c5)).setCell ⟨w.heap.size+1+1,1,none⟩ (D l)).setCell ⟨w.heap.size+1+1+1,0,none⟩ (C d g f)).setCell ⟨w.heap.size+1+1+1,1,none⟩ (D false)))/\Hid (c 8=false->Bl wc V))
     (E8 ⟨rfl,Ja De,Ja De,Ja De,Ja De,Ja De,Ja De,Ja De,Ja De,Ja De,Ja (λ_=>(BB _ wc).drew)⟩) ?step ?fin
    case step=>
     rintro c a2 V i ds J ah x A ⟨bi,aq,ak,az,aw,bc,ae,ap,rfl,W,T,Y,S,U,R,Q,Z,g8,P⟩;have Qf:i<10:=(Ad.1 ah).1;obtain rfl|rfl|rfl|rfl|rfl|rfl|rfl|rfl|rfl|rfl:=F0 i om
     all_goals
      simp only[Ah,Ae,Ak]at ah;subst ah;clear Qf
     . have N:c 8=false:=by
        cases h:c 8 with
        |false=>rfl
        |true=>rw[J 8 _ rfl h 0 DO]at A;cases A
       have j:=P.o N;obtain⟨k8,k9⟩:=(b8.below j).cp;clear x J;refine Du ?_;exact⟨Ja (λ_=>rfl),T,Y,S,U,R,Q,Z,Ja (λh=>by simp[N]at h),P⟩
     . have N:c 8=false:=by
        cases h:c 8 with
        |false=>rfl
        |true=>rw[J 8 _ rfl h 1 DO]at A;cases A
       have Ug:c 2=false:=by
        cases h:c 2 with
        |false=>rfl
        |true=>rw[J 2 _ rfl h 1 DO]at A;cases A
       have j:=P.o N;clear x J;refine Ju rfl rfl λK hK=>?_;go_simp;go_wp2_with(go_at_call 93;refine(Qx.o _).mono ?_;rintro e w5 ⟨u5,rfl,ad,M⟩)
       exact⟨_,_,_,_,_,_,_,_,rfl,W,Ja (λ_ _=>ad),Ja (λh=>by simp[Ug]at h),S,U,R,Ja (λh O=>by obtain⟨d,g,f,e,q⟩:=Q.o h O;exact⟨d,g,f,e,RN.below q M⟩),Z,Ja (λh=>by simp[N]at h),Ja (λ_=>Bt j M)⟩
     . have N:c 8=false:=by
        cases h:c 8 with
        |false=>rfl
        |true=>rw[J 8 _ rfl h 2 DO]at A;cases A
       have j:=P.o N;obtain rfl:=W.o (x 0 DO);have h1:=T.o (x 1 DO) N;clear x J;refine Ju rfl rfl λK hK=>?_;go_simp;go_wp2_with(go_at_call 108;refine(Ud.o _ _ j h1).mono ?_;rintro e w5 ⟨u5,rfl,ad,M⟩;obtain⟨y,k,c5,rfl⟩:=ad.form;obtain⟨l,aj⟩:=ex (decide (z<0));rw[aj]at ad;rw[aj];clear aj)
       exact E8 ⟨rfl,Ja (λ_=>rfl),Ja (λh O=>(T.o h O).below M),Ja (λ_ _=>⟨y,k,c5,l,rfl,ad⟩),S,U,R,Ja (λh O=>by obtain⟨d,g,f,e,q⟩:=Q.o h O;exact⟨d,g,f,e,RN.below q M⟩),Z,Ja (λh=>by simp[N]at h),Ja (λ_=>Bt j M)⟩
     . clear x J;refine Du ?_;exact⟨W,T,Y,Ja (λ_=>rfl),U,R,Q,Z,g8,P⟩
     . have Qo:c 6=false:=by
        cases h:c 6 with
        |false=>rfl
        |true=>rw[J 6 _ rfl h 4 DO]at A;cases A
       have N:c 8=false:=by
        cases h:c 8 with
        |false=>rfl
        |true=>rw[J 8 _ rfl h 6 DO]at Qo;cases Qo
       have j:=P.o N;obtain rfl:=S.o (x 3 DO);have k2:=(p1.below j).c0;clear x J;refine Du ?_;exact⟨W,T,Y,Ja (λ_=>rfl),Ja (λ_=>rfl),R,Q,Z,Ja (λh=>by simp[N]at h),P⟩
     . clear x J;refine Du ?_;exact⟨W,T,Y,S,U,Ja (λ_=>rfl),Q,Z,g8,P⟩
     . have N:c 8=false:=by
        cases h:c 8 with
        |false=>rfl
        |true=>rw[J 8 _ rfl h 6 DO]at A;cases A
       have Uc:c 7=false:=by
        cases h:c 7 with
        |false=>rfl
        |true=>rw[J 7 _ rfl h 6 DO]at A;cases A
       have j:=P.o N;obtain rfl:=U.o (x 4 DO);obtain rfl:=R.o (x 5 DO);clear x J;refine Ju rfl rfl λK hK=>?_;go_simp;go_wp2_with(go_at_call 144;refine(Qw.o _ j).mono ?_;rintro e w5 ⟨u5,rfl,ad,M⟩;obtain⟨d,f,rfl⟩:=RN.form ad)
       exact⟨_,_,_,_,_,_,_,_,rfl,W,Ja (λh O=>(T.o h O).below M),Ja (λh O=>by obtain⟨y,k,c5,l,e,q⟩:=Y.o h O;exact⟨y,k,c5,l,e,q.below M⟩),S,Ja (λ_=>rfl),Ja (λ_=>rfl),Ja (λ_ _=>⟨_,_,_,rfl,ad⟩),Ja (λh=>by simp[Uc]at h),Ja (λh=>by simp[N]at h),Ja (λ_=>Bt j M)⟩
     . obtain⟨d,g,f,e6⟩:∃d g f,ae=C d g f:=by
        cases h8:c 8 with
        |false=>obtain⟨d,g,f,e,_⟩:=Q.o (x 6 DO) h8;exact⟨d,g,f,e⟩
        |true=>obtain⟨_,_,_,_,_,d,g,f,_,e,_⟩:=g8.o h8;exact⟨d,g,f,e⟩
       obtain rfl:=e6;clear x J;refine Du ?_;exact⟨W,T,Y,S,U,R,Q,Ja (λ_=>⟨d,g,f,rfl,rfl⟩),g8,P⟩
     . have Ue:c 9=false:=by
        cases h:c 9 with
        |false=>rfl
        |true=>rw[J 9 _ rfl h 8 DO]at A;cases A
       have j:=P.o A;obtain⟨y,k,c5,l,e5,h5⟩:=Y.o (x 2 DO) A;obtain⟨d,g,f,e6,h6⟩:=Q.o (x 6 DO) A;obtain rfl:=e5;obtain rfl:=e6;obtain⟨q0,q1⟩:=(p4.below j).cp;obtain⟨f0,f1⟩:=(p4.below j).fp;clear T Y Q;clear x J;refine Du ?_;exact⟨W,Ja (λ_ h=>by simp at h),Ja (λ_ h=>by simp at h),S,U,R,Ja (λ_ h=>by simp at h),Z,Ja (λ_=>⟨V,y,k,c5,l,d,g,f,rfl,rfl,h5,h6,j,λ_=>rfl,λh=>by simp[Ue]at h⟩),Ja (λh=>by simp at h)⟩
     . obtain⟨V0,y,k,c5,l,d,g,f,e5,e6,h5,h6,j,hV,_⟩:=g8.o (x 8 DO);obtain rfl:=hV A;obtain⟨a7,l7,c7,e7,e8⟩:=Z.o (x 7 DO);obtain rfl:=e8;obtain rfl:=e6;cases e7;obtain rfl:=e5;have bb:=((p5.below j).far (p:=⟨w.heap.size+1+1,0,none⟩) DO (C y k c5)).far (p:=⟨w.heap.size+1+1,1,none⟩) DO (D l);obtain⟨q0,q1⟩:=bb.cp;obtain⟨f0,f1⟩:=bb.fp;have h8:=x 8 DO;clear hV;clear x J;refine Du ?_;exact⟨W,Ja (λ_ h=>by simp[h8]at h),Ja (λ_ h=>by simp[h8]at h),S,U,R,Ja (λ_ h=>by simp[h8]at h),Ja (λ_=>⟨_,_,_,rfl,rfl⟩),Ja (λ_=>⟨V0,y,k,c5,l,d,g,f,rfl,rfl,h5,h6,j,λh=>by simp at h,λ_=>rfl⟩),Ja (λh=>by simp[h8]at h)⟩
    case fin=>
     rintro c a2 V ai ⟨bi,aq,ak,az,aw,bc,ae,ap,rfl,W,T,Y,S,U,R,Q,Z,g8,P⟩;obtain⟨V0,y,k,c5,l,d,g,f,e5,e6,h5,h6,j,_,hV⟩:=g8.o (ai 8 DR);obtain rfl:=hV (ai 9 DR);clear W T Y S U R Q Z g8 P ai hV e5 e6 Qw Qx;go_wp2_with fail
     have Qb:=p4.below j;have Qd:=p5.below j;obtain⟨z4,z5⟩:=Kf (C y k c5) (D l) (C d g f) (D false) Qb Qd;obtain⟨Qq,Ql⟩:=z4.cp;obtain⟨Qs,Qm⟩:=z5.cp;have Qc:Jj ((V0.setCell ⟨w.heap.size+1+1,0,none⟩ (C y k c5)).setCell ⟨w.heap.size+1+1,1,none⟩ (D l)) (w.heap.size+1+1+1) 47 (C none 0 0) (D false):=(Qd.far DO _).far DO _;have Qe:=Hi h6;rw[Qy.o]at Qe;have Qp:=(h5.box Qb rfl rfl (x0:=C y k c5) (x1:=D l)).box Qc rfl rfl (x0:=C d g f) (x1:=D false);have Qv:=(Qe.box Qb rfl rfl (x0:=C y k c5) (x1:=D l)).box Qc rfl rfl (x0:=C d g f) (x1:=D false);have Qu:=Bt Qg j;exact BA (v:=.tuple #[B #[C y k c5,D l],B #[C d g f,D false]]) (by simp[results,Tryz.results127,go_sem,Qq,Ql,Qs,Qm]) rfl ⟨_,_,rfl,Qp,Qv,(((Qu.setCell (p:=⟨_,0,none⟩) so _).setCell (p:=⟨_,1,none⟩) so _).setCell (p:=⟨_,0,none⟩) so _).setCell (p:=⟨_,1,none⟩) so _⟩
   |false=>
    have Ud:=Ja (show ∀(V:F) (u:H),Bl wc V->Jr V u 1->Calls G 158 #[B #[C ua lq uc,D m8],u] V λe w'=>∃u,e=.returned u/\Jr w' u z/\Bl V w' from λV u h hu=>by
     have hx:=Ub.o.below h;rw[BI (by rfl)]at hx;have h1:=T0 _ u _ 1 V hx hu (by unfold EA;rw[Fa,Ci,<-Uj.o];omega) (Ke om om);have O:=Qz.o;rw[BI (by rfl)]at O;rw[show -((X/L:Nat):Int)-1=z from by rw[<-O];push_cast;omega]at h1;exact h1)
    clear Ub Qz HN HP;go_upto_region 7 with fail
    refine Jn Up [[],[],[0,1,1],[],[3],[],[4,5,2],[6],[2,6,0,1,2],[7,8,0,1,2,3,4,5,6,7,8]] (by kernel_rfl) DR
     (λc ac V=>∃bk bg an bf bh av af ay:H,ac={ tmps:=#[B #[C a la ca,D s],B #[C b lb cb,D false],I (some ⟨w.heap.size,0,none⟩),I (some ⟨w.heap.size+1,0,none⟩),I (some ⟨w.heap.size+1+1,0,none⟩),I (some ⟨w.heap.size+1+1+1,0,none⟩),C ua lq uc,C va lr vc,I (some ⟨B8,0,none⟩),u9,u10,u11,u12,u13,u14,u15,u16,u17,u18,u19,u20,u21,u22,u23,u24,u25,u26,u27,u28,u29,u30,D false,u32,u33,u34,u35,u36,I (some ⟨w.heap.size+1,1,none⟩),D false,u39,u40,u41,u42,u43,u44,u45,u46,bk,bg,an,bf,bh,av,af,ay],defers:=[] }/\Hid (c 0=true->bk=B #[C ua lq uc,D m8])/\Hid (c 1=true->c 8=false->Jr V bg 1)/\Hid (c 2=true->c 8=false->∃y k c5 l,an=B #[C y k c5,D l]/\Jr V an z)/\Hid (c 3=true->bf=I (some ⟨w.heap.size+1,0,none⟩))/\Hid (c 4=true->bh=C b lb cb)/\Hid (c 5=true->av=C va lr vc)/\Hid (c 6=true->c 8=false->∃d g f,af=C d g f/\RN V af (L-X%L))/\Hid (c 7=true->∃d g f,af=C d g f/\ay=B #[C d g f,D false])/\Hid (c 8=true->∃V0 y k c5 l d g f,an=B #[C y k c5,D l]/\af=C d g f/\Jr V0 (B #[C y k c5,D l]) z/\RN V0 (C d g f) (L-X%L)/\Bl wc V0/\(c 9=false->V=((V0.setCell ⟨w.heap.size+1+1,0,none⟩ (C y k c5)).setCell ⟨w.heap.size+1+1,1,none⟩ (D l)))/\(c 9=true->V=(((V0.setCell ⟨w.heap.size+1+1,0,none⟩ (C y k c5)).setCell ⟨w.heap.size+1+1,1,none⟩ (D l)).setCell ⟨w.heap.size+1+1+1,0,none⟩ (C d g f)).setCell ⟨w.heap.size+1+1+1,1,none⟩ (D false)))/\Hid (c 8=false->Bl wc V))
     (E8 ⟨rfl,Ja De,Ja De,Ja De,Ja De,Ja De,Ja De,Ja De,Ja De,Ja De,Ja (λ_=>(BB _ wc).drew)⟩) ?step ?fin
    case step=>
     rintro c a2 V i ds J ah x A ⟨bk,bg,an,bf,bh,av,af,ay,rfl,W,T,Y,S,U,R,Q,Z,g8,P⟩;have Qf:i<10:=(Ad.1 ah).1;obtain rfl|rfl|rfl|rfl|rfl|rfl|rfl|rfl|rfl|rfl:=F0 i om
     all_goals
      simp only[Ah,Ae,Ak]at ah;subst ah;clear Qf
     . have N:c 8=false:=by
        cases h:c 8 with
        |false=>rfl
        |true=>rw[J 8 _ rfl h 0 DO]at A;cases A
       have j:=P.o N;obtain⟨k8,k9⟩:=(b8.below j).cp;clear x J;refine Du ?_;exact⟨Ja (λ_=>rfl),T,Y,S,U,R,Q,Z,Ja (λh=>by simp[N]at h),P⟩
     . have N:c 8=false:=by
        cases h:c 8 with
        |false=>rfl
        |true=>rw[J 8 _ rfl h 1 DO]at A;cases A
       have Ug:c 2=false:=by
        cases h:c 2 with
        |false=>rfl
        |true=>rw[J 2 _ rfl h 1 DO]at A;cases A
       have j:=P.o N;clear x J;refine Ju rfl rfl λK hK=>?_;go_simp;go_wp2_with(go_at_call 93;refine(Qx.o _).mono ?_;rintro e w5 ⟨u5,rfl,ad,M⟩)
       exact⟨_,_,_,_,_,_,_,_,rfl,W,Ja (λ_ _=>ad),Ja (λh=>by simp[Ug]at h),S,U,R,Ja (λh O=>by obtain⟨d,g,f,e,q⟩:=Q.o h O;exact⟨d,g,f,e,RN.below q M⟩),Z,Ja (λh=>by simp[N]at h),Ja (λ_=>Bt j M)⟩
     . have N:c 8=false:=by
        cases h:c 8 with
        |false=>rfl
        |true=>rw[J 8 _ rfl h 2 DO]at A;cases A
       have j:=P.o N;obtain rfl:=W.o (x 0 DO);have h1:=T.o (x 1 DO) N;clear x J;refine Ju rfl rfl λK hK=>?_;go_simp;go_wp2_with(go_at_call 158;refine(Ud.o _ _ j h1).mono ?_;rintro e w5 ⟨u5,rfl,ad,M⟩;obtain⟨y,k,c5,rfl⟩:=ad.form;obtain⟨l,aj⟩:=ex (decide (z<0));rw[aj]at ad;rw[aj];clear aj)
       exact E8 ⟨rfl,Ja (λ_=>rfl),Ja (λh O=>(T.o h O).below M),Ja (λ_ _=>⟨y,k,c5,l,rfl,ad⟩),S,U,R,Ja (λh O=>by obtain⟨d,g,f,e,q⟩:=Q.o h O;exact⟨d,g,f,e,RN.below q M⟩),Z,Ja (λh=>by simp[N]at h),Ja (λ_=>Bt j M)⟩
     . clear x J;refine Du ?_;exact⟨W,T,Y,Ja (λ_=>rfl),U,R,Q,Z,g8,P⟩
     . have Qo:c 6=false:=by
        cases h:c 6 with
        |false=>rfl
        |true=>rw[J 6 _ rfl h 4 DO]at A;cases A
       have N:c 8=false:=by
        cases h:c 8 with
        |false=>rfl
        |true=>rw[J 8 _ rfl h 6 DO]at Qo;cases Qo
       have j:=P.o N;obtain rfl:=S.o (x 3 DO);have k2:=(p1.below j).c0;clear x J;refine Du ?_;exact⟨W,T,Y,Ja (λ_=>rfl),Ja (λ_=>rfl),R,Q,Z,Ja (λh=>by simp[N]at h),P⟩
     . clear x J;refine Du ?_;exact⟨W,T,Y,S,U,Ja (λ_=>rfl),Q,Z,g8,P⟩
     . have N:c 8=false:=by
        cases h:c 8 with
        |false=>rfl
        |true=>rw[J 8 _ rfl h 6 DO]at A;cases A
       have Uc:c 7=false:=by
        cases h:c 7 with
        |false=>rfl
        |true=>rw[J 7 _ rfl h 6 DO]at A;cases A
       have j:=P.o N;obtain rfl:=U.o (x 4 DO);obtain rfl:=R.o (x 5 DO);clear x J;refine Ju rfl rfl λK hK=>?_;go_simp;go_wp2_with(go_at_call 144;refine(Qw.o _ j).mono ?_;rintro e w5 ⟨u5,rfl,ad,M⟩;obtain⟨d,f,rfl⟩:=RN.form ad)
       exact⟨_,_,_,_,_,_,_,_,rfl,W,Ja (λh O=>(T.o h O).below M),Ja (λh O=>by obtain⟨y,k,c5,l,e,q⟩:=Y.o h O;exact⟨y,k,c5,l,e,q.below M⟩),S,Ja (λ_=>rfl),Ja (λ_=>rfl),Ja (λ_ _=>⟨_,_,_,rfl,ad⟩),Ja (λh=>by simp[Uc]at h),Ja (λh=>by simp[N]at h),Ja (λ_=>Bt j M)⟩
     . obtain⟨d,g,f,e6⟩:∃d g f,af=C d g f:=by
        cases h8:c 8 with
        |false=>obtain⟨d,g,f,e,_⟩:=Q.o (x 6 DO) h8;exact⟨d,g,f,e⟩
        |true=>obtain⟨_,_,_,_,_,d,g,f,_,e,_⟩:=g8.o h8;exact⟨d,g,f,e⟩
       obtain rfl:=e6;clear x J;refine Du ?_;exact⟨W,T,Y,S,U,R,Q,Ja (λ_=>⟨d,g,f,rfl,rfl⟩),g8,P⟩
     . have Ue:c 9=false:=by
        cases h:c 9 with
        |false=>rfl
        |true=>rw[J 9 _ rfl h 8 DO]at A;cases A
       have j:=P.o A;obtain⟨y,k,c5,l,e5,h5⟩:=Y.o (x 2 DO) A;obtain⟨d,g,f,e6,h6⟩:=Q.o (x 6 DO) A;obtain rfl:=e5;obtain rfl:=e6;obtain⟨q0,q1⟩:=(p4.below j).cp;obtain⟨f0,f1⟩:=(p4.below j).fp;clear T Y Q;clear x J;refine Du ?_;exact⟨W,Ja (λ_ h=>by simp at h),Ja (λ_ h=>by simp at h),S,U,R,Ja (λ_ h=>by simp at h),Z,Ja (λ_=>⟨V,y,k,c5,l,d,g,f,rfl,rfl,h5,h6,j,λ_=>rfl,λh=>by simp[Ue]at h⟩),Ja (λh=>by simp at h)⟩
     . obtain⟨V0,y,k,c5,l,d,g,f,e5,e6,h5,h6,j,hV,_⟩:=g8.o (x 8 DO);obtain rfl:=hV A;obtain⟨a7,l7,c7,e7,e8⟩:=Z.o (x 7 DO);obtain rfl:=e8;obtain rfl:=e6;cases e7;obtain rfl:=e5;have bb:=((p5.below j).far (p:=⟨w.heap.size+1+1,0,none⟩) DO (C y k c5)).far (p:=⟨w.heap.size+1+1,1,none⟩) DO (D l);obtain⟨q0,q1⟩:=bb.cp;obtain⟨f0,f1⟩:=bb.fp;have h8:=x 8 DO;clear hV;clear x J;refine Du ?_;exact⟨W,Ja (λ_ h=>by simp[h8]at h),Ja (λ_ h=>by simp[h8]at h),S,U,R,Ja (λ_ h=>by simp[h8]at h),Ja (λ_=>⟨_,_,_,rfl,rfl⟩),Ja (λ_=>⟨V0,y,k,c5,l,d,g,f,rfl,rfl,h5,h6,j,λh=>by simp at h,λ_=>rfl⟩),Ja (λh=>by simp[h8]at h)⟩
    case fin=>
     rintro c a2 V ai ⟨bk,bg,an,bf,bh,av,af,ay,rfl,W,T,Y,S,U,R,Q,Z,g8,P⟩;obtain⟨V0,y,k,c5,l,d,g,f,e5,e6,h5,h6,j,_,hV⟩:=g8.o (ai 8 DR);obtain rfl:=hV (ai 9 DR);clear W T Y S U R Q Z g8 P ai hV e5 e6 Qw Qx;go_wp2_with fail
     have Qb:=p4.below j;have Qd:=p5.below j;obtain⟨z4,z5⟩:=Kf (C y k c5) (D l) (C d g f) (D false) Qb Qd;obtain⟨Qq,Ql⟩:=z4.cp;obtain⟨Qs,Qm⟩:=z5.cp;have Qc:Jj ((V0.setCell ⟨w.heap.size+1+1,0,none⟩ (C y k c5)).setCell ⟨w.heap.size+1+1,1,none⟩ (D l)) (w.heap.size+1+1+1) 47 (C none 0 0) (D false):=(Qd.far DO _).far DO _;have Qe:=Hi h6;rw[Qy.o]at Qe;have Qp:=(h5.box Qb rfl rfl (x0:=C y k c5) (x1:=D l)).box Qc rfl rfl (x0:=C d g f) (x1:=D false);have Qv:=(Qe.box Qb rfl rfl (x0:=C y k c5) (x1:=D l)).box Qc rfl rfl (x0:=C d g f) (x1:=D false);have Qu:=Bt Qg j;exact BA (v:=.tuple #[B #[C y k c5,D l],B #[C d g f,D false]]) (by simp[results,Tryz.results127,go_sem,Qq,Ql,Qs,Qm]) rfl ⟨_,_,rfl,Qp,Qv,(((Qu.setCell (p:=⟨_,0,none⟩) so _).setCell (p:=⟨_,1,none⟩) so _).setCell (p:=⟨_,0,none⟩) so _).setCell (p:=⟨_,1,none⟩) so _⟩
theorem Ko(g i:H)(x y:Int)(w:F)(t:Jr w g x)(p:Jr w i y)(k:y≠0)(r:EA x<=100000000)(m:EA y<=100000000):
 Calls G 127 #[g,i] w λe d=>∃q o,e=.returned (.tuple #[q,o])/\Jr d q (x/y)/\Jr d o (x%y)/\Bl w d:=by
 obtain⟨a,s,l,rfl,f⟩:=t;obtain⟨b,lb,n,rfl,j⟩:=p;refine VT a s l b lb n x.natAbs y.natAbs _ _ (x/y) (x%y) w f j om (by rw[RN.len f];exact r) (by rw[RN.len j];exact m) (λc=>Oi k (λh=>c ⟨BJ h.1,h.2⟩)) (λc=>Oj k ⟨Bg c.1,c.2⟩)
theorem PE(r:H)(x:Int)(w:F)(t:Jr w r x):
 Calls G 98 #[r] w λe u=>e=.returned (.int .i64 x.sign)/\Bl w u:=by
 obtain⟨a,b,l,rfl,i⟩:=t;have m:=RN.len i;have y:=(Js i).2.2.2.1;have g:Bl w (w.alloc (E #[C a b l,D (decide (x<0))] 47)):=Ba w _;have b0:=Jj.new w 47 (C a b l) (D (decide (x<0)));have k:b=0↔x=0:=by
  rw[m];constructor
  . intro h;have:=(JB (B:=10000) om).1 (Am h);omega
  . intro h;rw[h,Int.natAbs_zero,Jy];rfl
 have p:=Ja k;obtain⟨W0,j⟩:=ex (w.alloc (E #[C a b l,D (decide (x<0))] 47));rw[j]at g b0;have c:=Ja j;obtain⟨z,o⟩:=b0.cp;by_cases n:x<0
 . have f:decide (x<0)=true:=BJ n;rw[f]at c o ⊢;have d:=Ja (Int.sign_eq_neg_one_of_neg n);clear m k j i f b0;go_enter Tryz.func98,Tryz.ntmps98
   go_upto_region 1 with fail
   rw[c.o];go_wp2_with fail
   go_ret;exact⟨by rw[d.o];rfl,g⟩
 . have f:decide (x<0)=false:=BF n;rw[f]at c o ⊢;clear m k j i f b0;rcases AQ b with q|q
   . subst q;have d:=Ja (show x.sign=0 by rw[p.o.1 rfl];rfl);go_enter Tryz.func98,Tryz.ntmps98
     go_upto_region 1 with fail
     rw[c.o];go_wp2_with fail
     go_ret;refine⟨?_,g⟩;rw[d.o];first|rfl|(simp;done)
   . have d:=Ja (show x.sign=1 from Int.sign_eq_one_of_pos (by
      have:=p.o;rcases Fj x 0 with h|h|h
      . omega
      . have:=this.2 h;omega
      . exact h))
     have s:min (1:Int) (b:Int)=1:=om
     have A:(1:Int)<=(b:Int):=om
     have v:¬((b:Int)<1):=om
     go_enter Tryz.func98,Tryz.ntmps98
     go_upto_region 1 with fail
     rw[c.o];go_wp2_with fail
     go_ret;refine⟨?_,g⟩;rw[d.o];first|rfl|(simp[s];done)
theorem PF{x y:Int}(a:y≠0):(0:Int)<(Int.gcd x y:Nat):=by
 have:=Int.gcd_pos_of_ne_zero_right x a;omega
theorem Jl.mk{t:Bool}{b:Option Addr}{d:Nat}{q:Rat}(f:Jr W (B #[C a l c,D s]) q.num)(e:Jr W (B #[C b k d,D t]) (q.den:Int)):Jl W (B #[C a l c,D s,C b k d,D t]) q:=⟨_,_,_,_,_,_,_,_,rfl,f,e⟩
theorem Jr.sign{z:Int}(h:Jr W (B #[C a l c,D s]) z):s=decide (z<0):=by
 obtain⟨d,b,c',e,_⟩:=h;cases e;rfl
theorem Ho(va vb:H)(x y:Int)(w:F)(ha:Jr w va x)(f:Jr w vb y)(hy:y≠0)(aw:DZ x)(en:DZ y):
 Calls G 92 #[va,vb] w λe w'=>∃u,e=.returned u/\Jl w' u (Rat.divInt x y)/\Bl w w':=by
 obtain⟨bt,ef,bh,er,rfl⟩:=Jr.form2 ha;obtain⟨dw,cj,dz,av,rfl⟩:=Jr.form2 f;have r:=((((Mem.nil w).push (.big (x)) ha).push (.big (y)) (Has.alloc (d:=.big (y)) f _)).push .zref rfl);simp only[A1]at r;have r:Mem w (((w.alloc (E #[C bt ef bh,D er] 47)).alloc (E #[C dw cj dz,D av] 47)).alloc (E #[C none 0 0,D false,C none 0 0,D false] 49)) [some (w.heap.size,.big (x)),some (w.heap.size+1,.big (y)),some (w.heap.size+1+1,.zref)]:=r;obtain⟨W0,ah⟩:=ex (((w.alloc (E #[C bt ef bh,D er] 47)).alloc (E #[C dw cj dz,D av] 47)).alloc (E #[C none 0 0,D false,C none 0 0,D false] 49));have Uc:=Ja ah;rw[ah]at r;have M1:Hid (Mem w W0 [some (w.heap.size,.big (x)),some (w.heap.size+1,.big (y)),some (w.heap.size+1+1,.zref)]):=Ja r;obtain⟨s,Qb,Qa⟩:=Dm hy aw en;clear r ah ha f hy aw en;go_enter Tryz.func92,Tryz.ntmps92
 go_upto_region 1 with fail
 rw[Uc.o];clear Uc;obtain⟨a1,l1,c1,s1,n1,i1⟩:=M1.o.big (i:=0) rfl;obtain⟨Uo,Un⟩:=n1.cp;obtain⟨a2,l2,c2,s2,n2,i2⟩:=M1.o.big (i:=1) rfl;obtain⟨Ug,Up⟩:=n2.cp;go_upto_region 2 with(go_at_call 125;refine(VQ _ _ x y _ i1 i2 (by have:=Qb.o.size;omega) (by have:=Qa.o.size;omega)).mono ?_;rintro e w1 ⟨u,rfl,hu,f⟩;obtain⟨eb,bd,aq,cg,rfl⟩:=Jr.form2 hu)
 obtain⟨V3,b⟩:=ex (w1.alloc (E #[C eb bd aq,D cg] 47));obtain⟨j,c⟩:=ex (w1.heap.size);have a:Mem w (w1.alloc (E #[C eb bd aq,D cg] 47)) [some (w.heap.size,.big (x)),some (w.heap.size+1,.big (y)),some (w.heap.size+1+1,.zref),some (w1.heap.size,.big (((Int.gcd x y:Nat):Int)))]:=Mem.push (M1.o.below f) (.big (((Int.gcd x y:Nat):Int))) hu;rw[b,c]at a;rw[b];rw[c];have p:Hid (Mem w V3 [some (w.heap.size,.big (x)),some (w.heap.size+1,.big (y)),some (w.heap.size+1+1,.zref),some (j,.big (((Int.gcd x y:Nat):Int)))]):=Ja (a);clear M1;clear a b c;clear n1 Uo Un i1 n2 Ug Up i2 hu f;have HG:=Ja (DZ.gcd Qb.o Qa.o);by_cases t:y<0
 . have HL:=Ja t;obtain⟨a4,l4,c4,s4,n4,i4⟩:=p.o.big (i:=1) rfl;obtain⟨Uq,Ul⟩:=n4.cp;have hs:=Jr.sign i4;rw[BJ t]at hs;subst hs;clear t;go_upto_region 3 with fail
   clear n4 Uq Ul i4;obtain⟨a5,l5,c5,s5,n5,i5⟩:=p.o.big (i:=3) rfl;obtain⟨Ue,Ud⟩:=n5.cp;go_upto_region 4 with(go_at_call 126;refine(NW _ (((Int.gcd x y:Nat):Int)) _ i5).mono ?_;rintro e w6 ⟨u6,rfl,af,ae⟩;obtain⟨bu,bn,de,bc,rfl⟩:=Jr.form2 af;obtain⟨Ue,Ud⟩:=(n5.below ae).cp;obtain⟨Uh,Uk⟩:=(n5.below ae).fp)
   obtain⟨V6,b⟩:=ex ((w6.setCell ⟨j,0,none⟩ (C bu bn de)).setCell ⟨j,1,none⟩ (D bc));have a:Mem w ((w6.setCell ⟨j,0,none⟩ (C bu bn de)).setCell ⟨j,1,none⟩ (D bc)) [some (w.heap.size,.big (x)),some (w.heap.size+1,.big (y)),some (w.heap.size+1+1,.zref),some (j,.big (-((Int.gcd x y:Nat):Int)))]:=Mem.putBig (p.o.below ae) (i:=3) rfl af;rw[b]at a;rw[b];have q:Hid (Mem w V6 [some (w.heap.size,.big (x)),some (w.heap.size+1,.big (y)),some (w.heap.size+1+1,.zref),some (j,.big (-((Int.gcd x y:Nat):Int)))]):=Ja (a);clear p;clear a b;clear n5 Ue Ud i5 af ae Uh Uk;obtain⟨S,Z,T⟩:=Dm (show(-((Int.gcd x y:Nat):Int))≠0 by have:=PF (x:=x) s.o;omega) (show(-((Int.gcd x y:Nat):Int))=(if y<0 then -((Int.gcd x y:Nat):Int)else((Int.gcd x y:Nat):Int))by rw[BI HL.o]) HG.o.neg;obtain⟨a7,l7,c7,s7,n7,i7⟩:=q.o.big (i:=0) rfl;obtain⟨Uj,Ui⟩:=n7.cp;obtain⟨a8,l8,c8,s8,n8,i8⟩:=q.o.big (i:=3) rfl;obtain⟨Uf,Um⟩:=n8.cp;go_upto_region 5 with(go_at_call 127;refine(Ko _ _ x ((-((Int.gcd x y:Nat):Int))) _ i7 i8 S.o (by have:=Qb.o.size;omega) (by have:=T.o.size;omega)).mono ?_;rintro e n ⟨u1,u2,rfl,g,k,f⟩;obtain⟨L,z,R,Q,rfl⟩:=Jr.form2 g;obtain⟨K,J,P,M,rfl⟩:=Jr.form2 k)
   have a:=Mem.push (Mem.push (q.o.below f) (.big (x/(-((Int.gcd x y:Nat):Int)))) g) (.big (x%(-((Int.gcd x y:Nat):Int)))) (Has.alloc (d:=.big (x%(-((Int.gcd x y:Nat):Int)))) k _);simp only[A1]at a;have a:Mem w ((n.alloc (E #[C L z R,D Q] 47)).alloc (E #[C K J P,D M] 47)) [some (w.heap.size,.big (x)),some (w.heap.size+1,.big (y)),some (w.heap.size+1+1,.zref),some (j,.big (-((Int.gcd x y:Nat):Int))),some (n.heap.size,.big (x/(-((Int.gcd x y:Nat):Int)))),some (n.heap.size+1,.big (x%(-((Int.gcd x y:Nat):Int))))]:=a;obtain⟨fe,b⟩:=ex ((n.alloc (E #[C L z R,D Q] 47)).alloc (E #[C K J P,D M] 47));obtain⟨B9,c⟩:=ex (n.heap.size);rw[b,c]at a;rw[b];rw[c];obtain⟨B10,l⟩:=ex (B9+1);rw[l]at a ⊢;have o:Hid (Mem w fe [some (w.heap.size,.big (x)),some (w.heap.size+1,.big (y)),some (w.heap.size+1+1,.zref),some (j,.big (-((Int.gcd x y:Nat):Int))),some (B9,.big (x/(-((Int.gcd x y:Nat):Int)))),some (B10,.big (x%(-((Int.gcd x y:Nat):Int))))]):=Ja (a);clear q;clear a b c l;clear n7 Uj Ui i7 n8 Uf Um i8 g k f;obtain⟨fo,ga,iq,gt,dx,ce⟩:=o.o.big (i:=1) rfl;obtain⟨Qx,Qj⟩:=dx.cp;obtain⟨ik,fm,il,go,cy,co⟩:=o.o.big (i:=3) rfl;obtain⟨Qo,Qp⟩:=cy.cp;go_upto_region 6 with(go_at_call 127;refine(Ko _ _ y ((-((Int.gcd x y:Nat):Int))) _ ce co S.o (by have:=Qa.o.size;omega) (by have:=T.o.size;omega)).mono ?_;rintro e m ⟨u1,u2,rfl,g,k,f⟩;obtain⟨O,Y,A,X,rfl⟩:=Jr.form2 g;obtain⟨U,N,W,V,rfl⟩:=Jr.form2 k)
   have a:=Mem.push (Mem.push (o.o.below f) (.big (y/(-((Int.gcd x y:Nat):Int)))) g) (.big (y%(-((Int.gcd x y:Nat):Int)))) (Has.alloc (d:=.big (y%(-((Int.gcd x y:Nat):Int)))) k _);simp only[A1]at a;have a:Mem w ((m.alloc (E #[C O Y A,D X] 47)).alloc (E #[C U N W,D V] 47)) [some (w.heap.size,.big (x)),some (w.heap.size+1,.big (y)),some (w.heap.size+1+1,.zref),some (j,.big (-((Int.gcd x y:Nat):Int))),some (B9,.big (x/(-((Int.gcd x y:Nat):Int)))),some (B10,.big (x%(-((Int.gcd x y:Nat):Int)))),some (m.heap.size,.big (y/(-((Int.gcd x y:Nat):Int)))),some (m.heap.size+1,.big (y%(-((Int.gcd x y:Nat):Int))))]:=a;obtain⟨bj,b⟩:=ex ((m.alloc (E #[C O Y A,D X] 47)).alloc (E #[C U N W,D V] 47));obtain⟨ei,c⟩:=ex (m.heap.size);rw[b,c]at a;rw[b];rw[c];obtain⟨fa,l⟩:=ex (ei+1);rw[l]at a ⊢;have M5:Hid (Mem w bj [some (w.heap.size,.big (x)),some (w.heap.size+1,.big (y)),some (w.heap.size+1+1,.zref),some (j,.big (-((Int.gcd x y:Nat):Int))),some (B9,.big (x/(-((Int.gcd x y:Nat):Int)))),some (B10,.big (x%(-((Int.gcd x y:Nat):Int)))),some (ei,.big (y/(-((Int.gcd x y:Nat):Int)))),some (fa,.big (y%(-((Int.gcd x y:Nat):Int))))]):=Ja (a);clear o;clear a b c l;clear dx Qx Qj ce cy Qo Qp co g k f;obtain⟨ck,ay,bz,az,fb,fi⟩:=M5.o.big (i:=4) rfl;obtain⟨io,gk⟩:=fb.cp;obtain⟨dh,cz,eq,dp,f7,ff⟩:=M5.o.big (i:=6) rfl;obtain⟨gr,ir⟩:=f7.cp;have ai:=M5.o.zref (i:=2) rfl;obtain⟨Qk,Qg,Qw,Qy⟩:=ai.cq;obtain⟨gu,gl,fu,gb⟩:=ai.fq;have hr:Jl bj (B #[C ck ay bz,D az,C dh cz eq,D dp]) (Rat.divInt x y):=Jl.mk (by rw[KP s.o,<-Z.o];exact fi) (by rw[KQ s.o,<-Z.o];exact ff);have Ub:=M5.o.ge 2 rfl;have hB:=M5.o.2.2;go_wp2_with fail
   exact BA (v:=B #[C ck ay bz,D az,C dh cz eq,D dp]) (by simp[results,Tryz.results92,go_sem,Qk,Qg,Qw,Qy]) rfl ⟨_,rfl,hr.put4 ai rfl rfl rfl rfl _ _ _ _,Jp hB Ub _ _ _ _⟩
 . have HL:=Ja t;obtain⟨ii,gg,gw,fv,eh,et⟩:=p.o.big (i:=1) rfl;obtain⟨Ua,Qm⟩:=eh.cp;have hs:=Jr.sign et;rw[BF t]at hs;subst hs;clear t;go_upto_region 4 with fail
   clear eh Ua Qm et;obtain⟨S,Z,T⟩:=Dm (show((Int.gcd x y:Nat):Int)≠0 by have:=PF (x:=x) s.o;omega) (show((Int.gcd x y:Nat):Int)=(if y<0 then -((Int.gcd x y:Nat):Int)else((Int.gcd x y:Nat):Int))by rw[BE (by have:=HL.o;omega)]) HG.o;obtain⟨ig,gj,ic,ib,du,cn⟩:=p.o.big (i:=0) rfl;obtain⟨Qu,Qz⟩:=du.cp;obtain⟨fy,gc,ie,fx,di,cl⟩:=p.o.big (i:=3) rfl;obtain⟨Qq,Qs⟩:=di.cp;go_upto_region 5 with(go_at_call 127;refine(Ko _ _ x (((Int.gcd x y:Nat):Int)) _ cn cl S.o (by have:=Qb.o.size;omega) (by have:=T.o.size;omega)).mono ?_;rintro e n ⟨u1,u2,rfl,g,k,f⟩;obtain⟨L,z,R,Q,rfl⟩:=Jr.form2 g;obtain⟨K,J,P,M,rfl⟩:=Jr.form2 k)
   have a:=Mem.push (Mem.push (p.o.below f) (.big (x/((Int.gcd x y:Nat):Int))) g) (.big (x%((Int.gcd x y:Nat):Int))) (Has.alloc (d:=.big (x%((Int.gcd x y:Nat):Int))) k _);simp only[A1]at a;have a:Mem w ((n.alloc (E #[C L z R,D Q] 47)).alloc (E #[C K J P,D M] 47)) [some (w.heap.size,.big (x)),some (w.heap.size+1,.big (y)),some (w.heap.size+1+1,.zref),some (j,.big (((Int.gcd x y:Nat):Int))),some (n.heap.size,.big (x/((Int.gcd x y:Nat):Int))),some (n.heap.size+1,.big (x%((Int.gcd x y:Nat):Int)))]:=a;obtain⟨fc,b⟩:=ex ((n.alloc (E #[C L z R,D Q] 47)).alloc (E #[C K J P,D M] 47));obtain⟨ad,c⟩:=ex (n.heap.size);rw[b,c]at a;rw[b];rw[c];obtain⟨ak,l⟩:=ex (ad+1);rw[l]at a ⊢;have q:Hid (Mem w fc [some (w.heap.size,.big (x)),some (w.heap.size+1,.big (y)),some (w.heap.size+1+1,.zref),some (j,.big (((Int.gcd x y:Nat):Int))),some (ad,.big (x/((Int.gcd x y:Nat):Int))),some (ak,.big (x%((Int.gcd x y:Nat):Int)))]):=Ja (a);clear p;clear a b c l;clear du Qu Qz cn di Qq Qs cl g k f;obtain⟨ip,fl,fs,gp,cw,dt⟩:=q.o.big (i:=1) rfl;obtain⟨Qn,Qt⟩:=cw.cp;obtain⟨im,ft,ia,gh,bk,bi⟩:=q.o.big (i:=3) rfl;obtain⟨Qf,Qi⟩:=bk.cp;go_upto_region 6 with(go_at_call 127;refine(Ko _ _ y (((Int.gcd x y:Nat):Int)) _ dt bi S.o (by have:=Qa.o.size;omega) (by have:=T.o.size;omega)).mono ?_;rintro e m ⟨u1,u2,rfl,g,k,f⟩;obtain⟨O,Y,A,X,rfl⟩:=Jr.form2 g;obtain⟨U,N,W,V,rfl⟩:=Jr.form2 k)
   have a:=Mem.push (Mem.push (q.o.below f) (.big (y/((Int.gcd x y:Nat):Int))) g) (.big (y%((Int.gcd x y:Nat):Int))) (Has.alloc (d:=.big (y%((Int.gcd x y:Nat):Int))) k _);simp only[A1]at a;have a:Mem w ((m.alloc (E #[C O Y A,D X] 47)).alloc (E #[C U N W,D V] 47)) [some (w.heap.size,.big (x)),some (w.heap.size+1,.big (y)),some (w.heap.size+1+1,.zref),some (j,.big (((Int.gcd x y:Nat):Int))),some (ad,.big (x/((Int.gcd x y:Nat):Int))),some (ak,.big (x%((Int.gcd x y:Nat):Int))),some (m.heap.size,.big (y/((Int.gcd x y:Nat):Int))),some (m.heap.size+1,.big (y%((Int.gcd x y:Nat):Int)))]:=a;obtain⟨bm,b⟩:=ex ((m.alloc (E #[C O Y A,D X] 47)).alloc (E #[C U N W,D V] 47));obtain⟨ed,c⟩:=ex (m.heap.size);rw[b,c]at a;rw[b];rw[c];obtain⟨fh,l⟩:=ex (ed+1);rw[l]at a ⊢;have o:Hid (Mem w bm [some (w.heap.size,.big (x)),some (w.heap.size+1,.big (y)),some (w.heap.size+1+1,.zref),some (j,.big (((Int.gcd x y:Nat):Int))),some (ad,.big (x/((Int.gcd x y:Nat):Int))),some (ak,.big (x%((Int.gcd x y:Nat):Int))),some (ed,.big (y/((Int.gcd x y:Nat):Int))),some (fh,.big (y%((Int.gcd x y:Nat):Int)))]):=Ja (a);clear q;clear a b c l;clear cw Qn Qt dt bk Qf Qi bi g k f;obtain⟨an,bf,ct,bg,fg,fj⟩:=o.o.big (i:=4) rfl;obtain⟨ij,gn⟩:=fg.cp;obtain⟨ew,dj,ci,ap,f8,fd⟩:=o.o.big (i:=6) rfl;obtain⟨fr,fk⟩:=f8.cp;have aj:=o.o.zref (i:=2) rfl;obtain⟨Qh,Ql,Qr,Qv⟩:=aj.cq;obtain⟨gy,gz,fw,gi⟩:=aj.fq;have hr:Jl bm (B #[C an bf ct,D bg,C ew dj ci,D ap]) (Rat.divInt x y):=Jl.mk (by rw[KP s.o,<-Z.o];exact fj) (by rw[KQ s.o,<-Z.o];exact fd);have Ub:=o.o.ge 2 rfl;have hB:=o.o.2.2;go_wp2_with fail
   exact BA (v:=B #[C an bf ct,D bg,C ew dj ci,D ap]) (by simp[results,Tryz.results92,go_sem,Qh,Ql,Qr,Qv]) rfl ⟨_,rfl,hr.put4 aj rfl rfl rfl rfl _ _ _ _,Jp hB Ub _ _ _ _⟩
theorem MT(va vb:H)(p q:Rat)(w:F)(Z:Jl w va p)(X:Jl w vb q)(bd:Sq p)(ak:Sq q):
 Calls G 71 #[va,vb] w λe f=>∃u,e=.returned u/\Jl f u (p+q)/\Bl w f:=by
 obtain⟨bg,bf,aq,bj,an,ai,bk,bc,rfl⟩:=Jl.form Z;obtain⟨av,bi,ay,ah,az,aj,aw,ae,rfl⟩:=Jl.form X;have O:=((((Mem.nil w).push (.ref (p)) Z).push (.ref (q)) (Has.alloc (d:=.ref (q)) X _)).push .zref rfl);simp only[A1]at O;have O:Mem w (((w.alloc (E #[C bg bf aq,D bj,C an ai bk,D bc] 49)).alloc (E #[C av bi ay,D ah,C az aj aw,D ae] 49)).alloc (E #[C none 0 0,D false,C none 0 0,D false] 49)) [some (w.heap.size,.ref (p)),some (w.heap.size+1,.ref (q)),some (w.heap.size+1+1,.zref)]:=O;obtain⟨W0,Y⟩:=ex (((w.alloc (E #[C bg bf aq,D bj,C an ai bk,D bc] 49)).alloc (E #[C av bi ay,D ah,C az aj aw,D ae] 49)).alloc (E #[C none 0 0,D false,C none 0 0,D false] 49));have Qv:=Ja Y;rw[Y]at O;have j:Hid (Mem w W0 [some (w.heap.size,.ref (p)),some (w.heap.size+1,.ref (q)),some (w.heap.size+1+1,.zref)]):=Ja O;have l:=Ja bd;have m:=Ja ak;clear O Y Z X bd ak;go_enter Tryz.func71,Tryz.ntmps71
 go_upto_region 1 with fail
 rw[Qv.o];clear Qv;obtain⟨a1,l1,c1,s1,b1,k1,d1,t1,r,r1,i1,j1⟩:=j.o.ref (i:=0) rfl;obtain⟨N,J,x,n⟩:=r.cq;obtain⟨a2,l2,c2,s2,b2,k2,d2,t2,M,r2,i2,j2⟩:=j.o.ref (i:=1) rfl;obtain⟨t,z,K,y⟩:=M.cq;have b:=j.o.zref (i:=2) rfl;obtain⟨s,o,L,A⟩:=b.cq;obtain⟨U,S,T,R⟩:=b.fq;obtain⟨H4,H9,Qw,Qu,Qx⟩:=GB (λ(V:F) (h:Bl W0 V)=>Gi _ _ (p.num) ((q.den:Int)) V (i1.below h) (j2.below h) (by have:=l.o.num.size;omega) (by have:=m.o.den.size;omega)) (λ(V:F) (h:Bl W0 V)=>Gi _ _ (q.num) ((p.den:Int)) V (i2.below h) (j1.below h) (by have:=m.o.num.size;omega) (by have:=l.o.den.size;omega)) (λ(V:F) (h:Bl W0 V) (v4:H) (c:Jr V v4 (p.num*(q.den:Int))) (v9:H) (g:Jr V v9 (q.num*(p.den:Int)))=>LY _ _ (p.num*(q.den:Int)) (q.num*(p.den:Int)) V c g (by have:=(l.o.cross m.o).size;omega) (by have:=(m.o.cross l.o).size;omega)) (λ(V:F) (h:Bl W0 V)=>Gi _ _ ((p.den:Int)) ((q.den:Int)) V (j1.below h) (j2.below h) (by have:=l.o.den.size;omega) (by have:=m.o.den.size;omega)) (λ(V:F) (h:Bl W0 V) (bm:H) (k:Jr V bm (p.num*(q.den:Int)+q.num*(p.den:Int))) (bh:H) (P:Jr V bh ((p.den:Int)*(q.den:Int)))=>(by have h:=Ho _ _ (p.num*(q.den:Int)+q.num*(p.den:Int)) ((p.den:Int)*(q.den:Int)) V k P (Cs (by have:=p.den_nz;omega) (by have:=q.den_nz;omega)) (l.o.sumN m.o) (l.o.mulD m.o);rw[Lf]at h;exact h));have co:w.heap.size≠w.heap.size+1+1:=j.o.ne 0 2 rfl rfl DR;have cl:w.heap.size+1≠w.heap.size+1+1:=j.o.ne 1 2 rfl rfl DR;have a:Bl W0 W0.drew:=(BB _ W0).drew;go_region_held3 (λf=>f.cell? ⟨w.heap.size,0,none⟩=some (C a1 l1 c1)/\f.cell? ⟨w.heap.size,1,none⟩=some (D s1)/\f.cell? ⟨w.heap.size,2,none⟩=some (C b1 k1 d1)/\f.cell? ⟨w.heap.size,3,none⟩=some (D t1)/\f.cell? ⟨w.heap.size+1,0,none⟩=some (C a2 l2 c2)/\f.cell? ⟨w.heap.size+1,1,none⟩=some (D s2)/\f.cell? ⟨w.heap.size+1,2,none⟩=some (C b2 k2 d2)/\f.cell? ⟨w.heap.size+1,3,none⟩=some (D t2)) (first|(with_reducible exact⟨N,J,x,n,t,z,K,y⟩)|(go_keep;done)|(refine⟨?_,?_,?_,?_,?_,?_,?_,?_⟩<;>((repeat rw[JH om]);first|assumption|(go_keep;done))))
  (first
   |(go_at_call 109;refine(H4.o _ a ).mono ?_;clear H4;rintro e w4 ⟨v4,rfl,c,ce⟩;have a:=Bt a ce;obtain⟨N,J,x,n⟩:=(r.below a).cq;obtain⟨t,z,K,y⟩:=(M.below a).cq;obtain⟨s,o,L,A⟩:=(b.below a).cq;obtain⟨U,S,T,R⟩:=(b.below a).fq)
   |(go_at_call 109;refine(H9.o _ a ).mono ?_;clear H9;rintro e w9 ⟨v9,rfl,g,af⟩;have c:=c.below af;have a:=Bt a af;obtain⟨N,J,x,n⟩:=(r.below a).cq;obtain⟨t,z,K,y⟩:=(M.below a).cq;obtain⟨s,o,L,A⟩:=(b.below a).cq;obtain⟨U,S,T,R⟩:=(b.below a).fq)
   |(go_at_call 108;refine(Qw.o _ a _ c _ g).mono ?_;clear Qw;rintro e cy ⟨bm,rfl,k,ad⟩;have c:=c.below ad;have g:=g.below ad;have a:=Bt a ad;obtain⟨N,J,x,n⟩:=(r.below a).cq;obtain⟨t,z,K,y⟩:=(M.below a).cq;obtain⟨s,o,L,A⟩:=(b.below a).cq;obtain⟨U,S,T,R⟩:=(b.below a).fq)
   |(go_at_call 109;refine(Qu.o _ a ).mono ?_;clear Qu;rintro e cn ⟨bh,rfl,P,W⟩;have c:=c.below W;have g:=g.below W;have k:=k.below W;have a:=Bt a W;obtain⟨N,J,x,n⟩:=(r.below a).cq;obtain⟨t,z,K,y⟩:=(M.below a).cq;obtain⟨s,o,L,A⟩:=(b.below a).cq;obtain⟨U,S,T,R⟩:=(b.below a).fq)
   |(go_at_call 92;refine(Qx.o _ a _ k _ P).mono ?_;clear Qx;rintro e cw ⟨ct,rfl,ap,Q⟩;obtain⟨bu,bt,ck,cj,bz,ci,bn,cg,rfl⟩:=Jl.form ap;have c:=c.below Q;have g:=g.below Q;have k:=k.below Q;have P:=P.below Q;have a:=Bt a Q;obtain⟨N,J,x,n⟩:=(r.below a).cq;obtain⟨t,z,K,y⟩:=(M.below a).cq;obtain⟨s,o,L,A⟩:=(b.below a).cq;obtain⟨U,S,T,R⟩:=(b.below a).fq))
 all_goals go_wp2_with fail
 have Qy:=Bt j.o.2.2 a;have Qz:=j.o.ge 2 rfl;exact BA (v:=B #[C bu bt ck,D cj,C bz ci bn,D cg]) (by simp[results,Tryz.results71,go_sem,s,o,L,A]) rfl ⟨_,rfl,ap.put4 (b.below a) rfl rfl rfl rfl _ _ _ _,Jp Qy Qz _ _ _ _⟩
theorem Kp(va vb:H)(p q:Rat)(w:F)(S:Jl w va p)(O:Jl w vb q)(aw:Sq p)(af:Sq q):
 Calls G 73 #[va,vb] w λe b=>∃u,e=.returned u/\Jl b u (p*q)/\Bl w b:=by
 obtain⟨az,ay,aj,bd,ah,ad,bf,av,rfl⟩:=Jl.form S;obtain⟨ak,bc,ap,Z,aq,ae,an,X,rfl⟩:=Jl.form O;have j:=((((Mem.nil w).push (.ref (p)) S).push (.ref (q)) (Has.alloc (d:=.ref (q)) O _)).push .zref rfl);simp only[A1]at j;have j:Mem w (((w.alloc (E #[C az ay aj,D bd,C ah ad bf,D av] 49)).alloc (E #[C ak bc ap,D Z,C aq ae an,D X] 49)).alloc (E #[C none 0 0,D false,C none 0 0,D false] 49)) [some (w.heap.size,.ref (p)),some (w.heap.size+1,.ref (q)),some (w.heap.size+1+1,.zref)]:=j;obtain⟨W0,P⟩:=ex (((w.alloc (E #[C az ay aj,D bd,C ah ad bf,D av] 49)).alloc (E #[C ak bc ap,D Z,C aq ae an,D X] 49)).alloc (E #[C none 0 0,D false,C none 0 0,D false] 49));have Qs:=Ja P;rw[P]at j;have g:Hid (Mem w W0 [some (w.heap.size,.ref (p)),some (w.heap.size+1,.ref (q)),some (w.heap.size+1+1,.zref)]):=Ja j;have y:=Ja aw;have A:=Ja af;clear j P S O aw af;go_enter Tryz.func73,Tryz.ntmps73
 go_upto_region 1 with fail
 rw[Qs.o];clear Qs;obtain⟨a1,l1,c1,s1,b1,k1,d1,t1,n,r1,i1,j1⟩:=g.o.ref (i:=0) rfl;obtain⟨J,s,L,t⟩:=n.cq;obtain⟨a2,l2,c2,s2,b2,k2,d2,t2,M,r2,i2,j2⟩:=g.o.ref (i:=1) rfl;obtain⟨l,N,z,o⟩:=M.cq;have c:=g.o.zref (i:=2) rfl;obtain⟨m,x,K,r⟩:=c.cq;obtain⟨T,Q,W,R⟩:=c.fq;obtain⟨H4,H9,Qt⟩:=Dm (λ(V:F) (h:Bl W0 V)=>Gi _ _ (p.num) (q.num) V (i1.below h) (i2.below h) (by have:=y.o.num.size;omega) (by have:=A.o.num.size;omega)) (λ(V:F) (h:Bl W0 V)=>Gi _ _ ((p.den:Int)) ((q.den:Int)) V (j1.below h) (j2.below h) (by have:=y.o.den.size;omega) (by have:=A.o.den.size;omega)) (λ(V:F) (h:Bl W0 V) (v4:H) (f:Jr V v4 (p.num*q.num)) (v9:H) (k:Jr V v9 ((p.den:Int)*(q.den:Int)))=>(by have h:=Ho _ _ (p.num*q.num) ((p.den:Int)*(q.den:Int)) V f k (Cs (by have:=p.den_nz;omega) (by have:=q.den_nz;omega)) (y.o.mulN A.o) (y.o.mulD A.o);rw[Le]at h;exact h));have ce:w.heap.size≠w.heap.size+1+1:=g.o.ne 0 2 rfl rfl DR;have bz:w.heap.size+1≠w.heap.size+1+1:=g.o.ne 1 2 rfl rfl DR;have a:Bl W0 W0.drew:=(BB _ W0).drew;go_region_held3 (λb=>b.cell? ⟨w.heap.size,0,none⟩=some (C a1 l1 c1)/\b.cell? ⟨w.heap.size,1,none⟩=some (D s1)/\b.cell? ⟨w.heap.size,2,none⟩=some (C b1 k1 d1)/\b.cell? ⟨w.heap.size,3,none⟩=some (D t1)/\b.cell? ⟨w.heap.size+1,0,none⟩=some (C a2 l2 c2)/\b.cell? ⟨w.heap.size+1,1,none⟩=some (D s2)/\b.cell? ⟨w.heap.size+1,2,none⟩=some (C b2 k2 d2)/\b.cell? ⟨w.heap.size+1,3,none⟩=some (D t2)) (first|(with_reducible exact⟨J,s,L,t,l,N,z,o⟩)|(go_keep;done)|(refine⟨?_,?_,?_,?_,?_,?_,?_,?_⟩<;>((repeat rw[JH om]);first|assumption|(go_keep;done))))
  (first
   |(go_at_call 109;refine(H4.o _ a ).mono ?_;clear H4;rintro e w4 ⟨v4,rfl,f,bk⟩;have a:=Bt a bk;obtain⟨J,s,L,t⟩:=(n.below a).cq;obtain⟨l,N,z,o⟩:=(M.below a).cq;obtain⟨m,x,K,r⟩:=(c.below a).cq;obtain⟨T,Q,W,R⟩:=(c.below a).fq)
   |(go_at_call 109;refine(H9.o _ a ).mono ?_;clear H9;rintro e w9 ⟨v9,rfl,k,Y⟩;have f:=f.below Y;have a:=Bt a Y;obtain⟨J,s,L,t⟩:=(n.below a).cq;obtain⟨l,N,z,o⟩:=(M.below a).cq;obtain⟨m,x,K,r⟩:=(c.below a).cq;obtain⟨T,Q,W,R⟩:=(c.below a).fq)
   |(go_at_call 92;refine(Qt.o _ a _ f _ k).mono ?_;clear Qt;rintro e ci ⟨cg,rfl,ai,U⟩;obtain⟨bi,bh,bu,bt,bj,bn,bg,bm,rfl⟩:=Jl.form ai;have f:=f.below U;have k:=k.below U;have a:=Bt a U;obtain⟨J,s,L,t⟩:=(n.below a).cq;obtain⟨l,N,z,o⟩:=(M.below a).cq;obtain⟨m,x,K,r⟩:=(c.below a).cq;obtain⟨T,Q,W,R⟩:=(c.below a).fq))
 all_goals go_wp2_with fail
 have Qu:=Bt g.o.2.2 a;have Qv:=g.o.ge 2 rfl;exact BA (v:=B #[C bi bh bu,D bt,C bj bn bg,D bm]) (by simp[results,Tryz.results73,go_sem,m,x,K,r]) rfl ⟨_,rfl,ai.put4 (c.below a) rfl rfl rfl rfl _ _ _ _,Jp Qu Qv _ _ _ _⟩
theorem MU(m:H)(q:Rat)(w:F)(d:Jl w m q):
 Calls G 56 #[m] w λe A=>e=.returned (.int .i64 q.num.sign)/\Bl w A:=by
 obtain⟨n,f⟩:=ex (q.num.sign);rw[f];have y:=Ja f;clear f;obtain⟨k,j,s,r,p,l,t,g,rfl⟩:=Jl.form d;have a:=((Mem.nil w).push (.ref (q)) d);have a:Mem w (w.alloc (E #[C k j s,D r,C p l t,D g] 49)) [some (w.heap.size,.ref (q))]:=a;obtain⟨W0,b⟩:=ex (w.alloc (E #[C k j s,D r,C p l t,D g] 49));have u:=Ja b;rw[b]at a;have o:Hid (Mem w W0 [some (w.heap.size,.ref (q))]):=Ja a;clear a b d;go_enter Tryz.func56,Tryz.ntmps56
 go_upto_region 1 with fail
 rw[u.o];clear u;obtain⟨N,Q,c1,V,U,S,d1,R,v,K,z,J⟩:=o.o.ref (i:=0) rfl;obtain⟨L,T,O,M⟩:=v.cq;have c:=Ja (PE _ q.num W0 z);rw[y.o]at c;go_wp2_with(go_at_call 98;refine c.o.mono ?_;clear c;rintro e P ⟨rfl,x⟩)
 go_ret;exact⟨rfl,Bt o.o.2.2 x⟩
theorem Yx(n:Int)(x:-9223372036854775808<=n)(r:n<=9223372036854775807)(w:F):
 Calls G 62 #[.int .i64 n] w λe N=>∃u,e=.returned u/\Jl N u (n:Rat)/\Bl w N:=by
 have z:=Ja (λ(V:F)=>FS n x r V);clear x r;have b:=((Mem.nil w).push .zref rfl);have b:Mem w (w.alloc (E #[C none 0 0,D false,C none 0 0,D false] 49)) [some (w.heap.size,.zref)]:=b;obtain⟨W0,d⟩:=ex (w.alloc (E #[C none 0 0,D false,C none 0 0,D false] 49));have o:=Ja d;rw[d]at b;have f:Hid (Mem w W0 [some (w.heap.size,.zref)]):=Ja b;clear b d;go_enter Tryz.func62,Tryz.ntmps62
 go_upto_region 1 with fail
 rw[o.o];clear o;have a:=f.o.zref (i:=0) rfl;obtain⟨k,j,s,A⟩:=a.cq;obtain⟨R,X,P,Q⟩:=a.fq;go_wp2_with(first
  |(go_at_call 93;refine(z.o _).mono ?_;clear z;rintro e Y ⟨u1,rfl,p,S⟩;obtain⟨l,q,L,K,rfl⟩:=Jr.form2 p)
  |(go_at_call 93;refine(FS 1 om om _).mono ?_;rintro e U ⟨u2,rfl,y,t⟩;obtain⟨g,M,J,m,rfl⟩:=Jr.form2 y;have c:=Bt S t;obtain⟨k,j,s,A⟩:=(a.below c).cq;obtain⟨R,X,P,Q⟩:=(a.below c).fq))
 have O:Jl U (B #[C l q L,D K,C g M J,D m]) (n:Rat):=Jl.mk (p.below t) y;have W:=Bt f.o.2.2 c;have T:=f.o.ge 0 rfl;exact BA (v:=B #[C l q L,D K,C g M J,D m]) (by simp[results,Tryz.results62,go_sem,k,j,s,A]) rfl ⟨_,rfl,O.put4 (a.below c) rfl rfl rfl rfl _ _ _ _,Jp W T _ _ _ _⟩
theorem RowK.formsF{cap:Nat}(h:RowK false W (C a l cap) qs):l=qs.length/\l<=cap/\cap<=9223372036854775807/\l<=1099511627776/\∃(s t:Nat->Bool) (k n:Nat->Option Addr) (m o p dd:Nat->Nat),∀j,j<l->Jl W (B #[C (k j) (m j) (o j),D (s j),C (n j) (p j) (dd j),D (t j)]) (cf qs j)/\
 ∃b,a=some ⟨b,0,none⟩/\b<W.heap.size/\W.cell? ⟨b,j*4,none⟩=some (C (k j) (m j) (o j))/\W.cell? ⟨b,j*4+1,none⟩=some (D (s j))/\W.cell? ⟨b,j*4+2,none⟩=some (C (n j) (p j) (dd j))/\W.cell? ⟨b,j*4+3,none⟩=some (D (t j)):=by
 obtain⟨J,L,r,A,x,y,z,u,v⟩:=h.pick;refine⟨J,L,r,A,λj=>Ki (y j),λj=>Ki (u j),λj=>Gj (x j),λj=>Gj (z j),λj=>lenV (x j),λj=>Gk (x j),λj=>lenV (z j),λj=>Gk (z j),λj q=>?_⟩;obtain⟨f,b,K,w,c0,c1,c2,c3⟩:=v j q;obtain⟨M,Q,c',s,N,P,O,t,e,_⟩:=(show Jl W _ _ from f);simp only[Value.agg.injEq,Fz,C7,and_true]at e;obtain⟨g,c,d,i⟩:=e;rw[g,c,d,i]at f;rw[g]at c0;rw[c]at c1;rw[d]at c2;rw[i]at c3;dsimp only;rw[g,c,d,i];exact⟨f,b,K,w,c0,c1,c2,c3⟩
theorem sign_zero(q:Rat):(q.num.sign==0)=decide (q=0):=by
 rw[Cn,beq_iff_eq,BQ,Int.sign_eq_zero_iff_zero,Rat.num_eq_zero]
theorem PG{len:Nat}(hl:len=qs.length)(c:k<=len)(b:∀j,k<=j->cf qs j=0)(a:k=0\/cf qs (k-1)≠0):Jh qs=qs.take k/\(Jh qs).length=k:=by
 have e:=Mu (p:=qs) (n:=k) om a b;exact⟨e,by rw[e,Ai];omega⟩
theorem VU(a:Option Addr)(len cap:Nat)(qs:List Rat)(w:F)(h:RowK false w (C a len cap) qs):
 Calls G 23 #[C a len cap] w λe O=>e=.returned (C a (Jh qs).length cap)/\RowK false O (C a (Jh qs).length cap) (Jh qs)/\Bl w O:=by
 obtain⟨hl,ad,T,Y,s,t,V,X,W,U,kk,dd,A⟩:=h.formsF;obtain⟨q,S,z⟩:=Dm hl A h;clear A hl h;go_enter Tryz.func23,Tryz.ntmps23
 go_wp2;go_loopw [3] (λv wr=>∃k:Nat,k<=len/\v=.int .i64 (k:Int)/\Hid ((∀j,k<=j->cf qs j=0)/\Bl w wr)) (λv _=>(intOf v).toNat)
 case atStart=>exact⟨len,Aa _,rfl,Ja ⟨λj Q=>J4 (by have:=q.o;omega),BB _ _⟩⟩
 case round=>
  obtain⟨k,Z,rfl,c⟩:=hrel;cases k with
  |zero=>
   go_wp2;go_ret;obtain⟨o,g⟩:=PG q.o (k:=0) (AX _) c.o.1 (Or.inl rfl);refine⟨by rw[g];rfl,?_,c.o.2⟩;rw[g,o];exact(z.o.below c.o.2).take om
  |succ k=>
   obtain⟨y,b,rfl,i,N,K,J,L⟩:=S.o k om;have f:=c.o.2;have x:=Ja (y.below f);replace N:=(f.cell (p:=⟨b,_,none⟩) i).trans N;replace K:=(f.cell (p:=⟨b,_,none⟩) i).trans K;replace J:=(f.cell (p:=⟨b,_,none⟩) i).trans J;replace L:=(f.cell (p:=⟨b,_,none⟩) i).trans L;have m:=Ja (MU _ _ wr x.o);have l:=sign_zero (cf qs k);clear y f x;by_cases d:cf qs k=0
   . rw[show decide (cf qs k=0)=true from BJ d]at l;have r:=Ja d;clear d;generalize (cf qs k).num.sign=n at m l;go_wp2_with(go_at_call 56;refine m.o.mono ?_;rintro e R ⟨rfl,u⟩)
     go_roundw
     case rel=>
      refine⟨k,om,DO,Ja ⟨λj Q=>?_,Bt c.o.2 u⟩⟩;by_cases P:j=k
      . rw[P];exact r.o
      . exact c.o.1 j om
     case measure=>simp[intOf]
   . rw[show decide (cf qs k=0)=false from BF d]at l;have r:=Ja d;clear d;generalize (cf qs k).num.sign=n at m l;go_wp2_with(go_at_call 56;refine m.o.mono ?_;rintro e R ⟨rfl,u⟩)
     go_ret;have M:=Bt c.o.2 u;obtain⟨o,g⟩:=PG q.o (k:=k+1) om c.o.1 (Or.inr r.o);refine⟨by rw[g];rfl,?_,M⟩;rw[g,o];exact(z.o.below M).take om
theorem Hp(v:H)(qs:List Rat)(w:F)(h:RowK false w v qs):
 Calls G 23 #[v] w λe b=>∃u,e=.returned u/\RowK false b u (Jh qs)/\Bl w b:=by
 obtain⟨a,l,c,rfl⟩:=h.form;refine(VU a l c qs w h).mono ?_;rintro e b ⟨rfl,f,d⟩;exact⟨_,rfl,f,d⟩
theorem MV{B:Nat}(q:JE W B 49 (C none 0 0) (D false) (C none 0 0) (D false)){v:H}{p:Rat}(h:Jl W v p)(x y z u:H):Jl (put4 W B x y z u) v p:=h.put4 q rfl rfl rfl rfl _ _ _ _
theorem PH(v:H)(qs:List Rat)(i:Int)(w:F)(h:RowK false w v qs):
 Calls G 18 #[v,.int .i64 i] w λe U=>∃u,e=.returned u/\Jl U u (if i<0 then 0 else cf qs i.toNat)/\Bl w U:=by
 obtain⟨a,l,c,rfl⟩:=h.form;obtain⟨hl,af,ad,ae,s,t,aa,bb,ll,cc,kk,dd,S⟩:=h.formsF;have W:=Ja hl;have J:=Ja S;clear hl S h;have n:Bl w (w.alloc (E #[C none 0 0,D false,C none 0 0,D false] 49)):=Ba w _;have b0:=JE.new w 49 (C none 0 0) (D false) (C none 0 0) (D false);have j:=Ja (λ(V:F)=>Yx 0 om om V);by_cases d:i<0\/(l:Int)<=i
 . have X:=Ja (show(if i<0 then(0:Rat)else cf qs i.toNat)=((0:Int):Rat)by
    rcases d with d|d
    . rw[BI d];rfl
    . rw[BE om,J4 (by have:=W.o;omega)];rfl)
   rw[X.o];obtain⟨W0,A⟩:=ex (w.alloc (E #[C none 0 0,D false,C none 0 0,D false] 49));rw[A]at n b0;have R:=Ja A;clear A J;rcases d with d|d
   . go_enter Tryz.func18,Tryz.ntmps18
     go_upto_region 1 with fail
     rw[R.o];go_wp2_with(go_at_call 62;refine(j.o _).mono ?_;clear j;rintro e Z ⟨u,rfl,g,k⟩;have f:=b0.below k;obtain⟨N,q,r,p⟩:=f.cq;obtain⟨f0,f1,f2,f3⟩:=f.fq;obtain⟨o,z,P,O,y,M,x,K,rfl⟩:=Jl.form g)
     exact BA (v:=B #[C o z P,D O,C y M x,D K]) (by simp[results,Tryz.results18,go_sem,N,q,r,p]) rfl ⟨_,rfl,MV f g _ _ _ _,Jp (Bt n k) (Aa _) _ _ _ _⟩
   . have L:¬i<0:=om
     go_enter Tryz.func18,Tryz.ntmps18
     go_upto_region 1 with fail
     rw[R.o];go_wp2_with(go_at_call 62;refine(j.o _).mono ?_;clear j;rintro e Z ⟨u,rfl,g,k⟩;have f:=b0.below k;obtain⟨N,q,r,p⟩:=f.cq;obtain⟨f0,f1,f2,f3⟩:=f.fq;obtain⟨o,z,P,O,y,M,x,K,rfl⟩:=Jl.form g)
     exact BA (v:=B #[C o z P,D O,C y M x,D K]) (by simp[results,Tryz.results18,go_sem,N,q,r,p]) rfl ⟨_,rfl,MV f g _ _ _ _,Jp (Bt n k) (Aa _) _ _ _ _⟩
 . have L:¬i<0:=om
   rw[BE L];obtain⟨m,rfl⟩:∃m:Nat,i=(m:Int):=⟨i.toNat,om⟩;have Y:m<l:=om
   obtain⟨Q,b,rfl,hb,k0,T,k2,k3⟩:=J.o m Y;have HI:=Ja Q;rw[Cv];clear J Q L d j b0 n;generalize s m=s1 at *;generalize t m=t1 at *;generalize aa m=a1 at *;generalize bb m=b1 at *;generalize ll m=l1 at *;generalize cc m=c1 at *;generalize kk m=T at *;generalize dd m=d1 at *;go_enter Tryz.func18,Tryz.ntmps18
   go_wp2;exact BA (v:=B #[C a1 l1 c1,D s1,C b1 T d1,D t1]) (by simp[results,Tryz.results18,go_sem]) rfl ⟨_,rfl,HI.o.below (Ba w _),Ba w _⟩
def Y0(f:Nat->Rat)(k:Nat):List Rat:=(List.range k).map f
theorem JG(f:Nat->Rat)(k:Nat):(Y0 f k).length=k:=by simp[Y0]
theorem YG(f:Nat->Rat)(k:Nat):Y0 f (k+1)=Y0 f k++[f k]:=by simp[Y0,List.range_succ]
theorem Ij(f:Nat->Rat)(k i:Nat):cf (Y0 f k) i=if i<k then f i else 0:=Ms k f i
theorem GK(va Y:H)(ps qs:List Rat)(w:F)(O:RowK false w va ps)(N:RowK false w Y qs)(ad:Dc ps)(ae:Dc qs)(an:ps.length<1099511627776/\qs.length<1099511627776):
 Calls G 30 #[va,Y] w λe w'=>∃u,e=.returned u/\RowK false w' u (EP ps qs)/\Bl w w':=by
 obtain⟨a,s,ca,rfl⟩:=O.form;obtain⟨b,lb,cb,rfl⟩:=N.form;obtain⟨af,av,aq,bj,_⟩:=O.formsF;obtain⟨Z,bc,aj,bg,_⟩:=N.formsF;obtain⟨n,hn⟩:=ex (max s lb:Nat);obtain⟨r,HA,HB,HP,HQ,Ql,Qm⟩:=KT (show s<=n/\lb<=n/\n<1099511627776/\(∀k,k<n->k<s\/k<lb)from⟨om,om,om,λk hk=>by omega⟩) O N ad ae af Z;clear O N ad ae af Z av aq bc aj hn an;go_enter Tryz.func30,Tryz.ntmps30
 go_wp2;go_loopw [5,6] (λo i wr=>∃k:Nat,k<=n/\i=.int .i64 (k:Int)/\(∃oa oc,o=C oa k oc)/\Hid (EL false w.heap.size wr o (Y0 (λi=>cf ps i+cf qs i) k)/\Bl w wr)) (λ_ i _=>n-(intOf i).toNat)
 case atStart=>exact⟨0,AX _,rfl,⟨_,_,rfl⟩,Ja ⟨EL.nil _ _ _,BB _ _⟩⟩
 case round=>
  obtain⟨k,hk,rfl,⟨oa,oc,rfl⟩,d⟩:=hrel;by_cases az:k<n
  . have J:=Ja (PH _ ps (k:Int) wr (HA.o.below d.o.2));have A:=Ja (λ(V:F) (h:Bl wr V)=>PH _ qs (k:Int) V ((HB.o.below d.o.2).below h));rw[BE om,Cv]at J;rw[show(if(k:Int)<0 then(0:Rat)else cf qs ((k:Int)).toNat)=cf qs k from by rw[BE om,Cv]]at A;have P:=Ja (λ(V:F) (u v:H) (hu:Jl V u (cf ps k)) (hv:Jl V v (cf qs k))=>MT u v (cf ps k) (cf qs k) V hu hv (HP.o.at k) (HQ.o.at k));have Qk:=r.o.2.2.2 k az;have HK:=Ja (show k+1<=1099511627776 by have:=r.o.2.2.1;omega);by_cases bi:(k:Int)<(s:Int)
    all_goals
     have Qj:(k:Int)<(s:Int)\/(k:Int)<(lb:Int):=om
    . clear Qk Qj;go_wp2_with(first
       |(go_at_call 18;refine J.o.mono ?_;clear J;rintro e w1 ⟨u1,rfl,c,q⟩;have l:=q)
       |(go_at_call 18;refine(A.o _ l).mono ?_;clear A;rintro e w2 ⟨u2,rfl,M,g⟩;have c:=c.below g;have t:=Bt l g;clear l)
       |(go_at_call 71;refine(P.o _ _ _ c M).mono ?_;clear P;rintro e W ⟨u3,rfl,m,x⟩;have f:=Bt t x;clear t c M q g x;obtain⟨ak,ai,bf,bd,ap,ay,ah,aw,rfl⟩:=Jl.form m;obtain⟨v9,w9,U,K,X,y⟩:=Xk false w.heap.size W _ _ (d.o.1.below f) m (by rw[JG];exact HK.o) (by have:=d.o.2.size;have:=f.size;omega);have z:=Ja K;have Q:=Ja (y w.heap.size w (Aa _) (Bt d.o.2 f));clear K X y m)
       |(at_builtin;refine Bk _ rfl _ _ 30 30 rfl _ _ rfl rfl _ _ U ?_))
      obtain⟨R,S,L,_⟩:=z.o.form;go_roundw
      case rel=>
       refine⟨k+1,om,by go_num,⟨R,S,?_⟩,Ja ⟨?_,Q.o⟩⟩
       . rw[<-YG,JG]at L;exact L
       . rw[YG];exact z.o
      case measure=>simp[intOf];omega
    . have bh:(k:Int)<(lb:Int):=om
      clear Qk Qj;go_wp2_with(first
       |(go_at_call 18;refine J.o.mono ?_;clear J;rintro e w1 ⟨u1,rfl,c,q⟩;have l:=q)
       |(go_at_call 18;refine(A.o _ l).mono ?_;clear A;rintro e w2 ⟨u2,rfl,M,g⟩;have c:=c.below g;have t:=Bt l g;clear l)
       |(go_at_call 71;refine(P.o _ _ _ c M).mono ?_;clear P;rintro e W ⟨u3,rfl,m,x⟩;have f:=Bt t x;clear t c M q g x;obtain⟨ak,ai,bf,bd,ap,ay,ah,aw,rfl⟩:=Jl.form m;obtain⟨v9,w9,U,K,X,y⟩:=Xk false w.heap.size W _ _ (d.o.1.below f) m (by rw[JG];exact HK.o) (by have:=d.o.2.size;have:=f.size;omega);have z:=Ja K;have Q:=Ja (y w.heap.size w (Aa _) (Bt d.o.2 f));clear K X y m)
       |(at_builtin;refine Bk _ rfl _ _ 30 30 rfl _ _ rfl rfl _ _ U ?_))
      obtain⟨R,S,L,_⟩:=z.o.form;go_roundw
      case rel=>
       refine⟨k+1,om,by go_num,⟨R,S,?_⟩,Ja ⟨?_,Q.o⟩⟩
       . rw[<-YG,JG]at L;exact L
       . rw[YG];exact z.o
      case measure=>simp[intOf];omega
  . have h1:¬(k:Int)<(s:Int):=by have:=r.o.1;omega
    have h2:¬(k:Int)<(lb:Int):=by have:=r.o.2.1;omega
    have T:=Ja (λ(V:F) (h:Bl wr V)=>Hp _ _ V ((d.o.1.below h).row (by rw[JG];have:=r.o.2.2.1;omega)));have HE:=Ja (show Jh (Y0 (λi=>cf ps i+cf qs i) k)=EP ps qs from YD λj=>by
     rw[Ij,Xf];split
     . rfl
     . have:=r.o;have g1:=Ql.o;have g2:=Qm.o;rw[J4 (p:=ps) om,J4 (p:=qs) om];grind)
    rw[HE.o]at T;go_wp2_with(go_at_call 23;refine(T.o _ (BB _ _)).mono ?_;clear T;rintro e w1 ⟨u1,rfl,c,q⟩;obtain⟨a8,l8,c8,rfl⟩:=c.form)
    go_ret;exact⟨_,rfl,c,Bt d.o.2 q⟩
