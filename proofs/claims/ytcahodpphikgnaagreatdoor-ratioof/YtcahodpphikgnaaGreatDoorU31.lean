import Derived.Test.YtcahodpphikgnaaGreatDoorU30
import Derived.Test.YtcahodpphikgnaaGreatDoorU27
set_option linter.all false
open Go.Value renaming slice->C,bool->D
open Go.Obj renaming cells->E
set_option maxRecDepth 99999
set_option maxHeartbeats 0
namespace Go.Proofs.YtcahodpphikgnaaGreatDoor
open Proofs.Tryz
open Go.RowKit Go.Shelf
attribute [local go_sem] Oper.semAt_some
section
def Gj(W:World):Value->Nat
 |C (some p) l _=>val 10000 ((List.range l).map λj=>DL W ⟨p.block,p.off+j,none⟩)
 |_=>0
variable{c l n:Nat}{a:MD}{W:World}
def RN.rowVal(h:RN W (C a l c) n):Gj W (C a l c)=n:=by
 obtain⟨f,_,_,_,g⟩:=Jj h;rcases Am l with d|d
 . subst d;have o:n=0:=(Jo Y).1 (Ad f.symm);subst o;cases a<;>rfl
 . obtain⟨b,i,rfl,_,_⟩:=g 0 d;show val 10000 ((List.range l).map λj=>DL W ⟨b,i+j,none⟩)=n;have e:(List.range l).map (λj=>DL W ⟨b,i+j,none⟩)=Jb 10000 n:=by
    refine List.ext_getElem (by rw[List.length_map,List.length_range];exact f) λj q k=>?_;obtain⟨p,r,e,_,m⟩:=g j Y;cases e;rw[List.getElem_map,List.getElem_range,DL,m,Ag k];rfl
   rw[e,Je Y]
def Gk{m:Nat}(h:n<=m):(Jb 10000 n).length<=(Jb 10000 m).length:=by
 rcases AG (Jb 10000 m).length (Jb 10000 n).length with a|a
 . have:=JW Y a;omega
 . exact a
def Lv(q vb:Value)(x y:Int)(w:World)(ha:Jl w q x)(hb:Jl w vb y)(U:CZ x<=100000000000)(V:CZ y<=100000000000):
 Calls Tryz.prog 61 #[q,vb] w λe w'=>∃u,e=.returned u/\Jl w' u (Int.gcd x y:Nat)/\Bl w w':=by
 obtain⟨a,k,n,rfl,B⟩:=ha;obtain⟨b,lb,o,rfl,F⟩:=hb;obtain⟨s,hs⟩:=ex (decide (x<0));obtain⟨t,W⟩:=ex (decide (y<0));rw[hs,W];clear hs W;obtain⟨W0,i⟩:=ex (((w.alloc (E #[C a k n,D s] 32)).alloc (E #[C b lb o,D t] 32)).alloc (E #[C none 0 0,D false] 32));have r:Bl w W0:=by rw[<-i];exact YM w _ _ _
 have b0:Jd W0 w.heap.size 32 (C a k n) (D s):=by rw[<-i];exact((Jd.new w _ _ _).alloc _).alloc _
 have b1:Jd W0 (w.heap.size+1) 32 (C b lb o) (D t):=by
  have h:=(Jd.new (w.alloc (E #[C a k n,D s] 32)) 32 (C b lb o) (D t)).alloc (E #[C none 0 0,D false] 32);rw[BA,i]at h;exact h
 have bR:Jd W0 (w.heap.size+1+1) 32 (C none 0 0) (D false):=by
  have h:=Jd.new ((w.alloc (E #[C a k n,D s] 32)).alloc (E #[C b lb o,D t] 32)) 32 (C none 0 0) (D false);rw[BA,BA,i]at h;exact h
 have r0:=RN.below B r;have r1:=RN.below F r;have k0:=b0.c0;have k2:=b1.c0;have L:k<=100000000000:=by rw[RN.len B];exact U
 have N:lb<=100000000000:=by rw[RN.len F];exact V
 have K:=Z i;clear i B F U V;go_enter func61,ntmps61
 go_upto_region 1 with fail
 rw[K.o];clear K;go_wp2_with fail
 go_loopw [5,6] (λxv G wr=>∃(f:MD) (d c0 X:Nat) (m:MD) (g c1 c:Nat),xv=C f d c0/\G=C m g c1/\Hid (RN wr (C f d c0) X)/\Hid (RN wr (C m g c1) c)/\Hid (Nat.gcd X c=Int.gcd x y)/\(d<=100000000000/\g<=100000000000)/\Bl W0 wr)
  (λ_ G wr=>Gj wr G)
 case atStart=>exact⟨a,k,n,x.natAbs,b,lb,o,y.natAbs,J,J,Z r0,Z r1,Z J,⟨L,N⟩,BC _ W0⟩
 case round=>
  clear r0 r1 L N;obtain⟨f,d,c0,X,m,g,c1,c,rfl,rfl,R,j,Q,⟨aa,T⟩,z⟩:=hrel;rcases Am g with P|P
  . subst P;have M:c=0:=(Jo Y).1 (Ad (RN.len j.o).symm);have HE:=Z (show X=Int.gcd x y by rw[<-Q.o,M,Nat.gcd_zero_right]);have l:=bR.below z;obtain⟨q0,q1⟩:=l.cp;obtain⟨f0,f1⟩:=l.fp;clear M;go_wp2_with fail
    have H:=(DU R.o).box l J J (x0:=C f d c0) (x1:=D false);rw[HE.o]at H;have Qj:=Bt r z;have z0:=((l.set0 (C f d c0)).set1 (D false)).c0;have z1:=((l.set0 (C f d c0)).set1 (D false)).c1;exact BB (by simp[results,results61,go_sem,z0,z1]) J ⟨_,J,H,(Qj.setCell (p:=⟨_,0,none⟩) so _).setCell (p:=⟨_,1,none⟩) so _⟩
  . have Qi:c≠0:=λe=>by
     have h:=RN.len j.o;rw[e,Jn]at h;simp at h;omega
    have Qk:=Z (Gi f d c0 m g c1 X c wr R.o j.o Qi aa T);have I:=Ar X (show c>0 by omega);go_wp2_with(go_at_call 92;refine Qk.o.mono ?_;rintro e w2 ⟨u,v,rfl,hu,A,S⟩;obtain⟨ua,uc,rfl⟩:=RN.form hu;obtain⟨q,vc,rfl⟩:=RN.form A)
    have Ql:=RN.below j.o S;refine⟨⟨m,g,c1,c,q,_,vc,X%c,J,J,Z Ql,Z A,Z (by rw[<-Q.o,Cw c,<-Nat.gcd_rec,Cw]),⟨T,?_⟩,Bt z S⟩,?_⟩
    . have h1:=Gk (Nat.le_of_lt I);rw[<-RN.len j.o]at h1;omega
    . rw[RN.rowVal A,RN.rowVal j.o];exact I
def Lw(w:World)(a b c d:Value)(p0 p1:Value):
 Jd ((((w.alloc (E #[a,b] 32)).alloc (E #[c,d] 32)).alloc (E #[p0,p1] 32)).alloc (E #[p0,p1] 32)) w.heap.size 32 a b/\
 Jd ((((w.alloc (E #[a,b] 32)).alloc (E #[c,d] 32)).alloc (E #[p0,p1] 32)).alloc (E #[p0,p1] 32)) (w.heap.size+1) 32 c d/\
 Jd ((((w.alloc (E #[a,b] 32)).alloc (E #[c,d] 32)).alloc (E #[p0,p1] 32)).alloc (E #[p0,p1] 32)) (w.heap.size+1+1) 32 p0 p1/\
 Jd ((((w.alloc (E #[a,b] 32)).alloc (E #[c,d] 32)).alloc (E #[p0,p1] 32)).alloc (E #[p0,p1] 32)) (w.heap.size+1+1+1) 32 p0 p1:=by
 refine⟨(((Jd.new w _ _ _).alloc _).alloc _).alloc _,?_,?_,?_⟩
 . have h:=((Jd.new (w.alloc (E #[a,b] 32)) 32 c d).alloc (E #[p0,p1] 32)).alloc (E #[p0,p1] 32);rw[BA]at h;exact h
 . have h:=(Jd.new ((w.alloc (E #[a,b] 32)).alloc (E #[c,d] 32)) 32 p0 p1).alloc (E #[p0,p1] 32);rw[BA,BA]at h;exact h
 . have h:=Jd.new (((w.alloc (E #[a,b] 32)).alloc (E #[c,d] 32)).alloc (E #[p0,p1] 32)) 32 p0 p1;rw[BA,BA,BA]at h;exact h
def Lx(h:RN W (C a l c) n)(m:Bool):Jl W (.agg #[C a l c,D (m&&decide (0<l))]) (if m=true then -(n:Int)else(n:Int)):=by
 have hl:=RN.len h;have f:0<l↔n≠0:=by
  rw[hl];constructor
  . intro b g;rw[g,Jn]at b;simp at b
  . intro b;exact Cy.2 λe=>b ((Jo Y).1 e)
 cases m with
 |false=>
  refine⟨a,l,c,?_,by simp;exact h⟩
  have:decide ((n:Int)<0)=false:=BE Y
  simp[this]
 |true=>
  refine⟨a,l,c,?_,by simp;exact h⟩;simp only[Bool.true_and,if_true]
  have:decide (0<l)=decide (-(n:Int)<0):=by
   by_cases d:n=0
   . rw[BE λb=>f.1 b d,BE Y]
   . rw[BF (f.2 d),BF Y]
  rw[this]
def Ly(a:MD)(la ca:Nat)(b:MD)(lb T X d:Nat)(s t:Bool)(z r:Int)(w:World)(hu:RN w (C a la ca) X)(hv:RN w (C b lb T) d)(hY:d≠0)(az:la<=100000000000)(bc:lb<=100000000000)
(HP:Hid (¬(s=true/\X%d≠0)->(if(!(s==t))=true then -((X/d:Nat):Int)else((X/d:Nat):Int))=z/\((X%d:Nat):Int)=r))
(HN:Hid (s=true/\X%d≠0->(if(!(s==t))=true then -((X/d+1:Nat):Int)else((X/d+1:Nat):Int))=z/\((d-X%d:Nat):Int)=r)):
 Calls Tryz.prog 55 #[.agg #[C a la ca,D s],.agg #[C b lb T,D t]] w λe k=>∃q o,e=.returned (.tuple #[q,o])/\Jl k q z/\Jl k o r/\Bl w k:=by
 obtain⟨b0,b1,b4,b5⟩:=Lw w (C a la ca) (D s) (C b lb T) (D t) (C none 0 0) (D false);have Qo:=GZ w (E #[C a la ca,D s] 32) (E #[C b lb T,D t] 32) (E #[C none 0 0,D false] 32) (E #[C none 0 0,D false] 32);obtain⟨W0,ai⟩:=ex ((((w.alloc (E #[C a la ca,D s] 32)).alloc (E #[C b lb T,D t] 32)).alloc (E #[C none 0 0,D false] 32)).alloc (E #[C none 0 0,D false] 32));rw[ai]at b0 b1 b4 b5 Qo;have Uj:=Z ai;have Uf:=RN.below hu Qo;have Qw:=RN.below hv Qo;have Uk:=Z (Gi a la ca b lb T X d W0 Uf Qw hY az bc);have Ug:=Z Qw;have Ul:=Z (RN.len hu).symm;obtain⟨k0,k1⟩:=b0.cp;obtain⟨f,k3⟩:=b1.cp;clear ai hu hv Uf Qw;go_enter func55,ntmps55
 go_upto_region 1 with fail
 rw[Uj.o];go_upto_region 2 with(go_at_call 92;refine Uk.o.mono ?_;rintro e w1 ⟨u1,v1,rfl,an,ap,ah⟩;obtain⟨A,B,rfl⟩:=RN.form an;obtain⟨va,vc,rfl⟩:=RN.form ap)
 obtain⟨lr,am⟩:=ex ((Jb 10000 (X%d)).length);obtain⟨lq,ak⟩:=ex ((Jb 10000 (X/d)).length);have Ue:=Z (show lr=0↔X%d=0 by
  rw[<-am];exact⟨λh=>(Jo Y).1 (Ad h),λh=>by rw[h,Jn];rfl⟩)
 rw[am]at ap ⊢;rw[ak]at an ⊢;have bf:lq<=100000000000:=by
  have K:=Gk (m:=X) (n:=X/d) (Ct _ _);have U:=Ul.o;omega
 have Ub:=Z ak.symm;clear am ak;obtain⟨k0,k1⟩:=(b0.below ah).cp;obtain⟨f,k3⟩:=(b1.below ah).cp;have Qv:=Z (XY A lq B (!(s==t)) w1);go_upto_region 3 with(go_at_call 93;refine Qv.o.mono ?_;rintro e w2 ⟨rfl,aj⟩)
 obtain⟨H,ay⟩:=ex (((!(s==t))&&decide (0<lq)):Bool);have hI:=Lx (RN.below an aj) (!(s==t));rw[ay]at hI ⊢;obtain⟨W3,ag⟩:=ex (w2.alloc (E #[C A lq B,D H] 32));have Qi:Bl w2 W3:=by rw[<-ag];exact Ba w2 _
 have b8:Jd W3 w2.heap.size 32 (C A lq B) (D H):=by rw[<-ag];exact Jd.new w2 _ _ _
 have Qq:Bl w1 W3:=Bt aj Qi;have Qf:Bl W0 W3:=Bt ah Qq;have Qu:=hI.below Qi;have Qy:=RN.below ap Qq;have Qg:=Bt Qo Qf;obtain⟨W,aq⟩:=ex (w2.heap.size);have bd:w.heap.size+1+1+1<W:=by
  have K:=(b5.below (Bt ah aj)).lt;omega
 rw[ag];rw[aq]at b8 ⊢;clear ag aq ay hI;have p0:=b0.below Qf;have p1:=b1.below Qf;have x:=b4.below Qf;have y:=b5.below Qf;clear b0 b1 b4 b5 k0 k1 f k3;obtain⟨k0,k1⟩:=p0.cp;obtain⟨f,k3⟩:=p1.cp;obtain⟨i,j⟩:=b8.cp;obtain⟨q0,q1⟩:=x.cp;obtain⟨q2,q3⟩:=y.cp;obtain⟨f0,f1⟩:=x.fp;obtain⟨f2,f3⟩:=y.fp;obtain⟨cd,aw⟩:=ex ((!s || decide (lr=0)):Bool);have Qh:=Z aw;clear aw;go_cut [31] λv w4=>v=D cd/\w4=W3
 case first=>
  cases s with
  |false=>
   have e5:cd=true:=by rw[<-Qh.o];rfl
   go_wp2_with fail
   go_meet
   case rel=>exact⟨by rw[e5],J⟩
  |true=>
   by_cases l:lr=0
   . have e5:cd=true:=by rw[<-Qh.o];simp;omega
     have L:((lr:Int)==0)=true:=by simp;omega
     clear l;go_wp2_with fail
     go_meet
     case rel=>exact⟨by rw[e5],J⟩
   . have e5:cd=false:=by rw[<-Qh.o];simp;omega
     have L:((lr:Int)==0)=false:=by simp;omega
     clear l;go_wp2_with fail
     go_meet
     case rel=>exact⟨by rw[e5],J⟩
 case rest=>
  obtain⟨rfl,rfl⟩:=hcut;cases cd with
  |true=>
   have hc:¬(s=true/\X%d≠0):=λ⟨K,U⟩=>by
    have h:=Qh.o;rw[K]at h;simp at h;exact U (Ue.o.1 h)
   obtain⟨z1,z2⟩:=HP.o hc;rw[z1]at Qu;have Qv:=Z (XY va lr vc s);have Qz:(s&&decide (0<lr))=false:=by
    have h:=Qh.o;cases s with
    |false=>rfl
    |true=>simp at h;simp;omega
   rw[Qz]at Qv;have Qt:=Z z2;clear Qz z1 z2 hc;go_wp2_with fail
   go_region_with (first
    |(go_at_call 93;refine(Qv.o _).mono ?_;rintro e w5 ⟨rfl,G⟩;have i:=((b8.drew).below G).c0;have j:=((b8.drew).below G).c1;have q0:=((x.drew).below G).c0;have q1:=((x.drew).below G).c1;have q2:=((y.drew).below G).c0;have q3:=((y.drew).below G).c1;have f0:=((x.drew).below G).f0;have f1:=((x.drew).below G).f1;have f2:=((y.drew).below G).f0;have f3:=((y.drew).below G).f1))
   all_goals
    go_wp2_with fail
    have Qj:Bl wc w5:=((BC _ wc).drew).trans (G.mono (Aa _));have F:=x.below Qj;have Q:=y.below Qj;obtain⟨z4,z5⟩:=EA (C A lq B) (D H) (C va lr vc) (D false) F Q;obtain⟨Qr,Qp⟩:=z4.cp;obtain⟨Qk,Qn⟩:=z5.cp;have R:Jd ((w5.setCell ⟨w.heap.size+1+1,0,none⟩ (C A lq B)).setCell ⟨w.heap.size+1+1,1,none⟩ (D H)) (w.heap.size+1+1+1) 32 (C none 0 0) (D false):=(Q.far Bq _).far Bq _;have P:=(DU Qy).below Qj;rw[Qt.o]at P;have Ql:=((Qu.below Qj).box F J J (x0:=C A lq B) (x1:=D H)).box R J J (x0:=C va lr vc) (x1:=D false);have Qm:=(P.box F J J (x0:=C A lq B) (x1:=D H)).box R J J (x0:=C va lr vc) (x1:=D false);have Qs:=Bt Qg Qj;exact BB (by simp[results,results55,go_sem,Qr,Qp,Qk,Qn]) J ⟨_,_,J,Ql,Qm,(((Qs.setCell (p:=⟨_,0,none⟩) so _).setCell (p:=⟨_,1,none⟩) so _).setCell (p:=⟨_,0,none⟩) so _).setCell (p:=⟨_,1,none⟩) so _⟩
  |false=>
   have hc:s=true/\X%d≠0:=by
    have h:=Qh.o;simp at h;exact⟨h.1,λe=>h.2 (Ue.o.2 e)⟩
   obtain⟨z1,z2⟩:=HN.o hc;rw[hc.1]at z1;have Ud:Jl wc (.agg #[C A lq B,D H]) (if(!(true==t))=true then -((X/d:Nat):Int)else((X/d:Nat):Int)):=by have h:=Qu;rw[hc.1]at h;exact h
   obtain⟨Ua,Uh,Qt⟩:=C3 Ud z1 z2;have bg:=Ar X (show d>0 by omega);obtain⟨Uc,Ui,S⟩:=C3 (ER 1 Y Y) (λ(V:World) (h:Bl wc V)=>Dl _ _ d (X%d) V (RN.below (RN.below Ug.o Qf) h) (RN.below Qy h) Y (by rw[<-RN.len Ug.o];omega)) λ(V:World) (h:Bl wc V)=>Cr (Cr (b8.below h).c0 (Cr (b8.below h).c1 (p1.below h).c0)) (Cr (Cr (x.below h).c0 (Cr (x.below h).c1 (Cr (y.below h).c0 (y.below h).c1))) (Cr (x.below h).f0 (Cr (x.below h).f1 (Cr (y.below h).f0 (y.below h).f1))));have n3:¬w.heap.size+1+1=W:=Y
   have n4:¬w.heap.size+1+1+1=W:=Y
   have n5:¬w.heap.size+1+1=w.heap.size:=Y
   clear hc Ud z1 z2 Qu;cases t with
   |true=>
    have Qx:=Z (show ∀(V:World) (u:Value),Bl wc V->Jl V u 1->Calls Tryz.prog 66 #[.agg #[C A lq B,D H],u] V λe k=>∃u,e=.returned u/\Jl k u z/\Bl V k from λV u h hu=>by
     have hx:=Ua.o.below h;simp only[beq_self_eq_true,Bool.not_true,CB,if_false]at hx;have K:=FQ _ u _ 1 V hx hu (by unfold CZ;rw[A9,<-Ub.o];omega) (D6 Y Y);have U:=Uh.o;simp only[beq_self_eq_true,Bool.not_true,CB,if_false]at U;rw[show((X/d:Nat):Int)+1=z from by rw[<-U];push_cast;rfl]at K;exact K)
    go_upto_region 6 with fail
    have c:Bl wc wc.drew:=(BC _ wc).drew;clear i j f q0 q1 q2 q3 f0 f1 f2 f3;obtain⟨⟨i,j,f⟩,⟨q0,q1,q2,q3⟩,f0,f1,f2,f3⟩:=S.o _ c;go_region_held3 (λk=>k.cell? ⟨W,0,none⟩=some (C A lq B)/\k.cell? ⟨W,1,none⟩=some (D H)/\k.cell? ⟨w.heap.size+1,0,none⟩=some (C b lb T)) (first|(with_reducible exact⟨i,j,f⟩)|(go_keep;done))
     (first
      |(go_at_call 46;refine(Uc.o _).mono ?_;rintro e w5 ⟨u5,rfl,ae,g⟩;replace c:=Bt c g;clear g i j f q0 q1 q2 q3 f0 f1 f2 f3;obtain⟨⟨i,j,f⟩,⟨q0,q1,q2,q3⟩,f0,f1,f2,f3⟩:=S.o _ c)
      |(go_at_call 66;refine(Qx.o _ _ c ae).mono ?_;clear ae;rintro e w6 ⟨u6,rfl,l,g⟩;obtain⟨I,M,c5,rfl⟩:=l.form;obtain⟨N,ad⟩:=ex (decide (z<0));rw[ad]at l;rw[ad];clear ad;replace c:=Bt c g;clear g i j f q0 q1 q2 q3 f0 f1 f2 f3;obtain⟨⟨i,j,f⟩,⟨q0,q1,q2,q3⟩,f0,f1,f2,f3⟩:=S.o _ c)
      |(go_at_call 94;refine(Ui.o _ c).mono ?_;rintro e V0 ⟨u7,rfl,L,g⟩;obtain⟨a6,c6,rfl⟩:=RN.form L;obtain⟨l6,aa⟩:=ex ((Jb 10000 (d-X%d)).length);rw[aa]at L;rw[aa];clear aa;replace l:=l.below g;replace c:=Bt c g;clear g i j f q0 q1 q2 q3 f0 f1 f2 f3;obtain⟨⟨i,j,f⟩,⟨q0,q1,q2,q3⟩,f0,f1,f2,f3⟩:=S.o _ c))
    go_wp2_with fail
    have F:=x.below c;have Q:=y.below c;obtain⟨z4,z5⟩:=EA (C I M c5) (D N) (C a6 l6 c6) (D false) F Q;obtain⟨Qr,Qp⟩:=z4.cp;obtain⟨Qk,Qn⟩:=z5.cp;have R:Jd ((V0.setCell ⟨w.heap.size+1+1,0,none⟩ (C I M c5)).setCell ⟨w.heap.size+1+1,1,none⟩ (D N)) (w.heap.size+1+1+1) 32 (C none 0 0) (D false):=(Q.far Bq _).far Bq _;have P:=DU L;rw[Qt.o]at P;have Ql:=(l.box F J J (x0:=C I M c5) (x1:=D N)).box R J J (x0:=C a6 l6 c6) (x1:=D false);have Qm:=(P.box F J J (x0:=C I M c5) (x1:=D N)).box R J J (x0:=C a6 l6 c6) (x1:=D false);have Qs:=Bt Qg c;exact BB (by simp[results,results55,go_sem,Qr,Qp,Qk,Qn]) J ⟨_,_,J,Ql,Qm,(((Qs.setCell (p:=⟨_,0,none⟩) so _).setCell (p:=⟨_,1,none⟩) so _).setCell (p:=⟨_,0,none⟩) so _).setCell (p:=⟨_,1,none⟩) so _⟩
   |false=>
    have Qx:=Z (show ∀(V:World) (u:Value),Bl wc V->Jl V u 1->Calls Tryz.prog 95 #[.agg #[C A lq B,D H],u] V λe k=>∃u,e=.returned u/\Jl k u z/\Bl V k from λV u h hu=>by
     have hx:=Ua.o.below h;rw[Be (by rfl)]at hx;have K:=Kp _ u _ 1 V hx hu (by unfold CZ;rw[CP,A9,<-Ub.o];omega) (D6 Y Y);have U:=Uh.o;rw[Be (by rfl)]at U;rw[show -((X/d:Nat):Int)-1=z from by rw[<-U];push_cast;omega]at K;exact K)
    go_upto_region 7 with fail
    have c:Bl wc wc.drew:=(BC _ wc).drew;clear i j f q0 q1 q2 q3 f0 f1 f2 f3;obtain⟨⟨i,j,f⟩,⟨q0,q1,q2,q3⟩,f0,f1,f2,f3⟩:=S.o _ c;go_region_held3 (λk=>k.cell? ⟨W,0,none⟩=some (C A lq B)/\k.cell? ⟨W,1,none⟩=some (D H)/\k.cell? ⟨w.heap.size+1,0,none⟩=some (C b lb T)) (first|(with_reducible exact⟨i,j,f⟩)|(go_keep;done))
     (first
      |(go_at_call 46;refine(Uc.o _).mono ?_;rintro e w5 ⟨u5,rfl,ae,g⟩;replace c:=Bt c g;clear g i j f q0 q1 q2 q3 f0 f1 f2 f3;obtain⟨⟨i,j,f⟩,⟨q0,q1,q2,q3⟩,f0,f1,f2,f3⟩:=S.o _ c)
      |(go_at_call 95;refine(Qx.o _ _ c ae).mono ?_;clear ae;rintro e w6 ⟨u6,rfl,l,g⟩;obtain⟨I,M,c5,rfl⟩:=l.form;obtain⟨N,ad⟩:=ex (decide (z<0));rw[ad]at l;rw[ad];clear ad;replace c:=Bt c g;clear g i j f q0 q1 q2 q3 f0 f1 f2 f3;obtain⟨⟨i,j,f⟩,⟨q0,q1,q2,q3⟩,f0,f1,f2,f3⟩:=S.o _ c)
      |(go_at_call 94;refine(Ui.o _ c).mono ?_;rintro e V0 ⟨u7,rfl,L,g⟩;obtain⟨a6,c6,rfl⟩:=RN.form L;obtain⟨l6,aa⟩:=ex ((Jb 10000 (d-X%d)).length);rw[aa]at L;rw[aa];clear aa;replace l:=l.below g;replace c:=Bt c g;clear g i j f q0 q1 q2 q3 f0 f1 f2 f3;obtain⟨⟨i,j,f⟩,⟨q0,q1,q2,q3⟩,f0,f1,f2,f3⟩:=S.o _ c))
    go_wp2_with fail
    have F:=x.below c;have Q:=y.below c;obtain⟨z4,z5⟩:=EA (C I M c5) (D N) (C a6 l6 c6) (D false) F Q;obtain⟨Qr,Qp⟩:=z4.cp;obtain⟨Qk,Qn⟩:=z5.cp;have R:Jd ((V0.setCell ⟨w.heap.size+1+1,0,none⟩ (C I M c5)).setCell ⟨w.heap.size+1+1,1,none⟩ (D N)) (w.heap.size+1+1+1) 32 (C none 0 0) (D false):=(Q.far Bq _).far Bq _;have P:=DU L;rw[Qt.o]at P;have Ql:=(l.box F J J (x0:=C I M c5) (x1:=D N)).box R J J (x0:=C a6 l6 c6) (x1:=D false);have Qm:=(P.box F J J (x0:=C I M c5) (x1:=D N)).box R J J (x0:=C a6 l6 c6) (x1:=D false);have Qs:=Bt Qg c;exact BB (by simp[results,results55,go_sem,Qr,Qp,Qk,Qn]) J ⟨_,_,J,Ql,Qm,(((Qs.setCell (p:=⟨_,0,none⟩) so _).setCell (p:=⟨_,1,none⟩) so _).setCell (p:=⟨_,0,none⟩) so _).setCell (p:=⟨_,1,none⟩) so _⟩
def ED(j k:Value)(x y:Int)(w:World)(n:Jl w j x)(p:Jl w k y)(i:y≠0)(r:CZ x<=100000000000)(s:CZ y<=100000000000):
 Calls Tryz.prog 55 #[j,k] w λe d=>∃q o,e=.returned (.tuple #[q,o])/\Jl d q (x/y)/\Jl d o (x%y)/\Bl w d:=by
 obtain⟨a,t,l,rfl,f⟩:=n;obtain⟨b,lb,m,rfl,g⟩:=p;refine Ly a t l b lb m x.natAbs y.natAbs _ _ (x/y) (x%y) w f g Y (by rw[RN.len f];exact r) (by rw[RN.len g];exact s) (λc=>Gb i λh=>c ⟨BF h.1,h.2⟩) λc=>XV i ⟨BV c.1,c.2⟩
def E2(r:Value)(x:Int)(w:World)(t:Jl w r x):
 Calls Tryz.prog 23 #[r] w λe u=>e=.returned (.int .i64 x.sign)/\Bl w u:=by
 obtain⟨a,b,l,rfl,j⟩:=t;have k:=RN.len j;have v:=(Jj j).2.2.2.1;have g:Bl w (w.alloc (E #[C a b l,D (decide (x<0))] 32)):=Ba w _;have b0:=Jd.new w 32 (C a b l) (D (decide (x<0)));have n:b=0↔x=0:=by
  rw[k];constructor
  . intro h;have:=(Jo (B:=10000) Y).1 (Ad h);omega
  . intro h;rw[h,Int.natAbs_zero,Jn];rfl
 have o:=Z n;obtain⟨W0,i⟩:=ex (w.alloc (E #[C a b l,D (decide (x<0))] 32));rw[i]at g b0;have d:=Z i;obtain⟨y,q⟩:=b0.cp;by_cases m:x<0
 . have f:decide (x<0)=true:=BF m;rw[f]at d q ⊢;have c:=Z (Int.sign_eq_neg_one_of_neg m);clear k n i j f b0;go_enter func23,ntmps23
   go_upto_region 1 with fail
   rw[d.o];go_wp2_with fail
   go_ret;exact⟨by rw[c.o];rfl,g⟩
 . have f:decide (x<0)=false:=BE m;rw[f]at d q ⊢;clear k n i j f b0;rcases Am b with p|p
   . subst p;have c:=Z (show x.sign=0 by rw[o.o.1 J];rfl);go_enter func23,ntmps23
     go_upto_region 1 with fail
     rw[d.o];go_wp2_with fail
     go_ret;refine⟨?_,g⟩;rw[c.o];first|rfl|(simp;done)
   . have c:=Z (show x.sign=1 from Int.sign_eq_one_of_pos (by
      have:=o.o;rcases CD x 0 with h|h|h
      . omega
      . have:=this.2 h;omega
      . exact h))
     have s:min (1:Int) (b:Int)=1:=Y
     go_enter func23,ntmps23
     go_upto_region 1 with fail
     rw[d.o];go_wp2_with fail
     go_ret;refine⟨?_,g⟩;rw[c.o];first|rfl|(simp[s];done)
end
open M3
variable{s:Bool}{c l:Nat}{a:MD}{W:World}
def Gl{x y:Int}(a:y≠0):(0:Int)<(Int.gcd x y:Nat):=by
 have:=Int.gcd_pos_of_ne_zero_right x a;omega
def JZ.mk{t:Bool}{b:MD}{k d:Nat}{q:Rat}(e:Jl W (.agg #[C a l c,D s]) q.num)(f:Jl W (.agg #[C b k d,D t]) (q.den:Int)):JZ W (.agg #[C a l c,D s,C b k d,D t]) q:=⟨_,_,_,_,_,_,_,_,J,e,f⟩
def Jl.sign{z:Int}(h:Jl W (.agg #[C a l c,D s]) z):s=decide (z<0):=by
 obtain⟨b,d,c',e,_⟩:=h;cases e;rfl
def Lz(va vb:Value)(x y:Int)(w:World)(ha:Jl w va x)(f:Jl w vb y)(hy:y≠0)(bk:Sok x)(bm:Sok y):
 Calls Tryz.prog 24 #[va,vb] w λe w'=>∃u,e=.returned u/\JZ w' u (Rat.divInt x y)/\Bl w w':=by
 obtain⟨fd,gu,fm,ig,rfl⟩:=Jl.form2 ha;obtain⟨fe,gv,fo,ii,rfl⟩:=Jl.form2 f;obtain⟨W0,ak,M1⟩:=Ko 32 (.big x) ha 32 (.big y) f 34 (.zref) J;obtain⟨r,Qa,Qb⟩:=C3 hy bk bm;clear ha f hy bk bm;go_enter func24,ntmps24
 go_upto_region 1 with fail
 rw[ak.o];clear ak;obtain⟨a1,l1,c1,s1,n1,i1⟩:=M1.o.big (i:=0) J;obtain⟨Uh,Uj⟩:=n1.cp;obtain⟨a2,l2,c2,s2,n2,i2⟩:=M1.o.big (i:=1) J;obtain⟨Ui,Uf⟩:=n2.cp;go_upto_region 2 with(go_at_call 61;refine(Lv _ _ x y _ i1 i2 (by have:=Qa.o.size;omega) (by have:=Qb.o.size;omega)).mono ?_;rintro e w1 ⟨u,rfl,hu,f⟩;obtain⟨az,co,bi,dw,rfl⟩:=Jl.form2 hu)
 obtain⟨V3,b⟩:=ex (w1.alloc (E #[C az co bi,D dw] 32));obtain⟨g,c⟩:=ex (w1.heap.size);have a:Bu w (w1.alloc (E #[C az co bi,D dw] 32)) [some (w.heap.size,.big x),some (w.heap.size+1,.big y),some (w.heap.size+1+1,.zref),some (w1.heap.size,.big (((Int.gcd x y:Nat):Int)))]:=Bu.push (M1.o.below f) (.big (((Int.gcd x y:Nat):Int))) hu;rw[b,c]at a;rw[b];rw[c];have p:Hid (Bu w V3 [some (w.heap.size,.big x),some (w.heap.size+1,.big y),some (w.heap.size+1+1,.zref),some (g,.big (((Int.gcd x y:Nat):Int)))]):=Z (a);clear M1;clear a b c;clear n1 Uh Uj i1 n2 Ui Uf i2 hu f;have HG:=Z (Sok.gcd Qa.o Qb.o);by_cases s:y<0
 . have HL:=Z s;obtain⟨a4,l4,c4,s4,n4,i4⟩:=p.o.big (i:=1) J;have Ue:=n4.c1;have hs:=Jl.sign i4;rw[BF s]at hs;subst hs;clear s;go_upto_region 3 with fail
   clear n4 Ue i4;obtain⟨a5,l5,c5,s5,n5,i5⟩:=p.o.big (i:=3) J;obtain⟨Ub,Uc⟩:=n5.cp;go_upto_region 4 with(go_at_call 62;refine(FR _ (((Int.gcd x y:Nat):Int)) _ i5).mono ?_;rintro e w6 ⟨u6,rfl,ae,aa⟩;obtain⟨bc,cw,bj,dx,rfl⟩:=Jl.form2 ae;obtain⟨Ub,Uc⟩:=(n5.below aa).cp;obtain⟨Ul,Um⟩:=(n5.below aa).fp)
   obtain⟨V6,b⟩:=ex ((w6.setCell ⟨g,0,none⟩ (C bc cw bj)).setCell ⟨g,1,none⟩ (D dx));have a:Bu w ((w6.setCell ⟨g,0,none⟩ (C bc cw bj)).setCell ⟨g,1,none⟩ (D dx)) [some (w.heap.size,.big x),some (w.heap.size+1,.big y),some (w.heap.size+1+1,.zref),some (g,.big (-((Int.gcd x y:Nat):Int)))]:=Bu.putBig (p.o.below aa) (i:=3) J ae;rw[b]at a;rw[b];have q:Hid (Bu w V6 [some (w.heap.size,.big x),some (w.heap.size+1,.big y),some (w.heap.size+1+1,.zref),some (g,.big (-((Int.gcd x y:Nat):Int)))]):=Z (a);clear p;clear a b;clear n5 Ub Uc i5 ae aa Ul Um;obtain⟨B,t,A⟩:=C3 (show(-((Int.gcd x y:Nat):Int))≠0 by have:=Gl (x:=x) r.o;omega) (show(-((Int.gcd x y:Nat):Int))=(if y<0 then -((Int.gcd x y:Nat):Int)else((Int.gcd x y:Nat):Int))by rw[Be HL.o]) HG.o.neg;obtain⟨a7,l7,c7,s7,n7,i7⟩:=q.o.big (i:=0) J;obtain⟨Ud,Un⟩:=n7.cp;obtain⟨a8,l8,c8,s8,n8,i8⟩:=q.o.big (i:=3) J;obtain⟨Ug,Uk⟩:=n8.cp;go_upto_region 5 with(go_at_call 55;refine(ED _ _ x ((-((Int.gcd x y:Nat):Int))) _ i7 i8 B.o (by have:=Qa.o.size;omega) (by have:=A.o.size;omega)).mono ?_;rintro e m ⟨u1,u2,rfl,j,k,f⟩;obtain⟨F,P,K,T,rfl⟩:=Jl.form2 j;obtain⟨G,Q,L,U,rfl⟩:=Jl.form2 k)
   have a:=Bu.push (Bu.push (q.o.below f) (.big (x/(-((Int.gcd x y:Nat):Int)))) j) (.big (x%(-((Int.gcd x y:Nat):Int)))) (Has.alloc (d:=.big (x%(-((Int.gcd x y:Nat):Int)))) k _);simp only[BA]at a;have a:Bu w ((m.alloc (E #[C F P K,D T] 32)).alloc (E #[C G Q L,D U] 32)) [some (w.heap.size,.big x),some (w.heap.size+1,.big y),some (w.heap.size+1+1,.zref),some (g,.big (-((Int.gcd x y:Nat):Int))),some (m.heap.size,.big (x/(-((Int.gcd x y:Nat):Int)))),some (m.heap.size+1,.big (x%(-((Int.gcd x y:Nat):Int))))]:=a;obtain⟨e7,b⟩:=ex ((m.alloc (E #[C F P K,D T] 32)).alloc (E #[C G Q L,D U] 32));obtain⟨B9,c⟩:=ex (m.heap.size);rw[b,c]at a;rw[b];rw[c];obtain⟨B10,l⟩:=ex (B9+1);rw[l]at a ⊢;have o:Hid (Bu w e7 [some (w.heap.size,.big x),some (w.heap.size+1,.big y),some (w.heap.size+1+1,.zref),some (g,.big (-((Int.gcd x y:Nat):Int))),some (B9,.big (x/(-((Int.gcd x y:Nat):Int)))),some (B10,.big (x%(-((Int.gcd x y:Nat):Int))))]):=Z (a);clear q;clear a b c l;clear n7 Ud Un i7 n8 Ug Uk i8 j k f;obtain⟨ew,gl,ff,gw,cy,bn⟩:=o.o.big (i:=1) J;obtain⟨Qr,Qk⟩:=cy.cp;obtain⟨f5,gn,fg,gy,cz,bp⟩:=o.o.big (i:=3) J;obtain⟨Ua,Qy⟩:=cz.cp;go_upto_region 6 with(go_at_call 55;refine(ED _ _ y ((-((Int.gcd x y:Nat):Int))) _ bn bp B.o (by have:=Qb.o.size;omega) (by have:=A.o.size;omega)).mono ?_;rintro e n ⟨u1,u2,rfl,j,k,f⟩;obtain⟨H,R,M,V,rfl⟩:=Jl.form2 j;obtain⟨I,S,N,W,rfl⟩:=Jl.form2 k)
   have a:=Bu.push (Bu.push (o.o.below f) (.big (y/(-((Int.gcd x y:Nat):Int)))) j) (.big (y%(-((Int.gcd x y:Nat):Int)))) (Has.alloc (d:=.big (y%(-((Int.gcd x y:Nat):Int)))) k _);simp only[BA]at a;have a:Bu w ((n.alloc (E #[C H R M,D V] 32)).alloc (E #[C I S N,D W] 32)) [some (w.heap.size,.big x),some (w.heap.size+1,.big y),some (w.heap.size+1+1,.zref),some (g,.big (-((Int.gcd x y:Nat):Int))),some (B9,.big (x/(-((Int.gcd x y:Nat):Int)))),some (B10,.big (x%(-((Int.gcd x y:Nat):Int)))),some (n.heap.size,.big (y/(-((Int.gcd x y:Nat):Int)))),some (n.heap.size+1,.big (y%(-((Int.gcd x y:Nat):Int))))]:=a;obtain⟨am,b⟩:=ex ((n.alloc (E #[C H R M,D V] 32)).alloc (E #[C I S N,D W] 32));obtain⟨ai,c⟩:=ex (n.heap.size);rw[b,c]at a;rw[b];rw[c];obtain⟨dz,l⟩:=ex (ai+1);rw[l]at a ⊢;have z:Hid (Bu w am [some (w.heap.size,.big x),some (w.heap.size+1,.big y),some (w.heap.size+1+1,.zref),some (g,.big (-((Int.gcd x y:Nat):Int))),some (B9,.big (x/(-((Int.gcd x y:Nat):Int)))),some (B10,.big (x%(-((Int.gcd x y:Nat):Int)))),some (ai,.big (y/(-((Int.gcd x y:Nat):Int)))),some (dz,.big (y%(-((Int.gcd x y:Nat):Int))))]):=Z (a);clear o;clear a b c l;clear cy Qr Qk bn cz Ua Qy bp j k f;obtain⟨ap,ci,bd,di,ek,ed⟩:=z.o.big (i:=4) J;obtain⟨fr,fs⟩:=ek.cp;obtain⟨aq,cj,bf,dj,en,ef⟩:=z.o.big (i:=6) J;obtain⟨ft,fu⟩:=en.cp;have ag:=z.o.zref (i:=2) J;obtain⟨Qw,Qp,Qg,Qj⟩:=ag.cq;obtain⟨ga,gb,gc,gg⟩:=ag.fq;have hr:JZ am (.agg #[C ap ci bd,D di,C aq cj bf,D dj]) (Rat.divInt x y):=JZ.mk (by rw[YU r.o,<-t.o];exact ed) (by rw[YV r.o,<-t.o];exact ef);have Qf:=z.o.ge 2 J;have hB:=z.o.2.2;go_wp2_with fail
   exact BB (v:=.agg #[C ap ci bd,D di,C aq cj bf,D dj]) (by simp[results,results24,go_sem,Qw,Qp,Qg,Qj]) J ⟨_,J,hr.put4 ag J J J J _ _ _ _,Jy hB Qf _ _ _ _⟩
 . have HL:=Z s;obtain⟨f6,go,fh,gz,d8,bt⟩:=p.o.big (i:=1) J;have Qu:=d8.c1;have hs:=Jl.sign bt;rw[BE s]at hs;subst hs;clear s;go_upto_region 4 with fail
   clear d8 Qu bt;obtain⟨B,t,A⟩:=C3 (show((Int.gcd x y:Nat):Int)≠0 by have:=Gl (x:=x) r.o;omega) (show((Int.gcd x y:Nat):Int)=(if y<0 then -((Int.gcd x y:Nat):Int)else((Int.gcd x y:Nat):Int))by rw[Bd (by have:=HL.o;omega)]) HG.o;obtain⟨f7,gp,fi,ia,d9,bu⟩:=p.o.big (i:=0) J;obtain⟨Qh,Qz⟩:=d9.cp;obtain⟨f8,gq,fj,ib,de,bz⟩:=p.o.big (i:=3) J;obtain⟨Qt,Qo⟩:=de.cp;go_upto_region 5 with(go_at_call 55;refine(ED _ _ x (((Int.gcd x y:Nat):Int)) _ bu bz B.o (by have:=Qa.o.size;omega) (by have:=A.o.size;omega)).mono ?_;rintro e m ⟨u1,u2,rfl,j,k,f⟩;obtain⟨F,P,K,T,rfl⟩:=Jl.form2 j;obtain⟨G,Q,L,U,rfl⟩:=Jl.form2 k)
   have a:=Bu.push (Bu.push (p.o.below f) (.big (x/((Int.gcd x y:Nat):Int))) j) (.big (x%((Int.gcd x y:Nat):Int))) (Has.alloc (d:=.big (x%((Int.gcd x y:Nat):Int))) k _);simp only[BA]at a;have a:Bu w ((m.alloc (E #[C F P K,D T] 32)).alloc (E #[C G Q L,D U] 32)) [some (w.heap.size,.big x),some (w.heap.size+1,.big y),some (w.heap.size+1+1,.zref),some (g,.big (((Int.gcd x y:Nat):Int))),some (m.heap.size,.big (x/((Int.gcd x y:Nat):Int))),some (m.heap.size+1,.big (x%((Int.gcd x y:Nat):Int)))]:=a;obtain⟨eb,b⟩:=ex ((m.alloc (E #[C F P K,D T] 32)).alloc (E #[C G Q L,D U] 32));obtain⟨X,c⟩:=ex (m.heap.size);rw[b,c]at a;rw[b];rw[c];obtain⟨ad,l⟩:=ex (X+1);rw[l]at a ⊢;have q:Hid (Bu w eb [some (w.heap.size,.big x),some (w.heap.size+1,.big y),some (w.heap.size+1+1,.zref),some (g,.big (((Int.gcd x y:Nat):Int))),some (X,.big (x/((Int.gcd x y:Nat):Int))),some (ad,.big (x%((Int.gcd x y:Nat):Int)))]):=Z (a);clear p;clear a b c l;clear d9 Qh Qz bu de Qt Qo bz j k f;obtain⟨f9,gr,fk,ic,dg,ce⟩:=q.o.big (i:=1) J;obtain⟨Qn,Qq⟩:=dg.cp;obtain⟨fc,gt,fl,ie,dh,cg⟩:=q.o.big (i:=3) J;obtain⟨Qx,Qs⟩:=dh.cp;go_upto_region 6 with(go_at_call 55;refine(ED _ _ y (((Int.gcd x y:Nat):Int)) _ ce cg B.o (by have:=Qb.o.size;omega) (by have:=A.o.size;omega)).mono ?_;rintro e n ⟨u1,u2,rfl,j,k,f⟩;obtain⟨H,R,M,V,rfl⟩:=Jl.form2 j;obtain⟨I,S,N,W,rfl⟩:=Jl.form2 k)
   have a:=Bu.push (Bu.push (q.o.below f) (.big (y/((Int.gcd x y:Nat):Int))) j) (.big (y%((Int.gcd x y:Nat):Int))) (Has.alloc (d:=.big (y%((Int.gcd x y:Nat):Int))) k _);simp only[BA]at a;have a:Bu w ((n.alloc (E #[C H R M,D V] 32)).alloc (E #[C I S N,D W] 32)) [some (w.heap.size,.big x),some (w.heap.size+1,.big y),some (w.heap.size+1+1,.zref),some (g,.big (((Int.gcd x y:Nat):Int))),some (X,.big (x/((Int.gcd x y:Nat):Int))),some (ad,.big (x%((Int.gcd x y:Nat):Int))),some (n.heap.size,.big (y/((Int.gcd x y:Nat):Int))),some (n.heap.size+1,.big (y%((Int.gcd x y:Nat):Int)))]:=a;obtain⟨an,b⟩:=ex ((n.alloc (E #[C H R M,D V] 32)).alloc (E #[C I S N,D W] 32));obtain⟨aj,c⟩:=ex (n.heap.size);rw[b,c]at a;rw[b];rw[c];obtain⟨e6,l⟩:=ex (aj+1);rw[l]at a ⊢;have o:Hid (Bu w an [some (w.heap.size,.big x),some (w.heap.size+1,.big y),some (w.heap.size+1+1,.zref),some (g,.big (((Int.gcd x y:Nat):Int))),some (X,.big (x/((Int.gcd x y:Nat):Int))),some (ad,.big (x%((Int.gcd x y:Nat):Int))),some (aj,.big (y/((Int.gcd x y:Nat):Int))),some (e6,.big (y%((Int.gcd x y:Nat):Int)))]):=Z (a);clear q;clear a b c l;clear dg Qn Qq ce dh Qx Qs cg j k f;obtain⟨aw,ck,bg,dt,er,eh⟩:=o.o.big (i:=4) J;obtain⟨fv,fw⟩:=er.cp;obtain⟨ay,cn,bh,du,et,ei⟩:=o.o.big (i:=6) J;obtain⟨fx,fy⟩:=et.cp;have ah:=o.o.zref (i:=2) J;obtain⟨Qv,Ql,Qi,Qm⟩:=ah.cq;obtain⟨gh,gi,gj,gk⟩:=ah.fq;have hr:JZ an (.agg #[C aw ck bg,D dt,C ay cn bh,D du]) (Rat.divInt x y):=JZ.mk (by rw[YU r.o,<-t.o];exact eh) (by rw[YV r.o,<-t.o];exact ei);have Qf:=o.o.ge 2 J;have hB:=o.o.2.2;go_wp2_with fail
   exact BB (v:=.agg #[C aw ck bg,D dt,C ay cn bh,D du]) (by simp[results,results24,go_sem,Qv,Ql,Qi,Qm]) J ⟨_,J,hr.put4 ah J J J J _ _ _ _,Jy hB Qf _ _ _ _⟩

