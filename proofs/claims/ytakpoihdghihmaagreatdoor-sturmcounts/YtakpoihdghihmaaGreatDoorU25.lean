import Derived.Test.YtakpoihdghihmaaGreatDoorU22
import Derived.Test.YtakpoihdghihmaaGreatDoorU24
set_option linter.all false
open Go.Value renaming slice->C,bool->E,pointer->L,agg->S
open Go.Obj renaming cells->G
open Go renaming World->H,Value->D,Calls->F,undef->N,Addr->M
open Go.Proofs.Tryz renaming prog->I
set_option maxRecDepth 99999
set_option maxHeartbeats 0
namespace Go.Proofs.YtakpoihdghihmaaGreatDoor
open Rat renaming divInt->nM
open Proofs.Tryz
open Go.RowKit Go.Shelf
attribute [local go_sem] Oper.semAt_some
def KA(B K:D)(x y:Int)(w:H)(X:Jm w B x)(hb:Jm w K y)(q:(Jd Z x.natAbs).length<1000000000000)(r:(Jd Z y.natAbs).length<1000000000000):
 F I 84 #[B,K] w λe d=>∃u,e=.returned u/\Jm d u (Int.gcd x y:Nat)/\Bl w d:=by
 obtain⟨a,la,ca,g,c⟩:=X;cases g;obtain⟨b,lb,cb,g,m⟩:=hb;cases g;have n:=c.len;have o:=m.len;obtain⟨s,v⟩:=ex (decide (x<0));obtain⟨t,z⟩:=ex (decide (y<0));rw[v,z];obtain⟨W0,j⟩:=ex (((w.alloc (G #[E s,C a la ca] 35)).alloc (G #[E t,C b lb cb] 35)).alloc (G #[E false,C none 0 0] 35));obtain⟨i,b0,W,f⟩:=MX j;have Q:=Y (cF a la ca b lb cb _ _ W0 (UN.below c i) (UN.below m i) (by rw[n];exact q) (by rw[o];exact r));have P:=Y λ(V:H) (u:D) (c:UN V u (Nat.gcd x.natAbs y.natAbs))=>show F I 72 #[E false,u] V λe d=>∃u,e=.returned u/\Jm d u (Int.gcd x y:Nat)/\Bl V d from KZ false u _ V c;have k1:=b0.c1;have k3:=W.c1;have T:=Y j;clear c m v z n o q r j;go_enter func84,ntmps84
 go_upto_region 1 with fail
 rw[T.o];have ah:¬(w.heap.size=w.heap.size+1+1):=O
 go_wp2_with(first
  |(go_at_call 134;refine Q.o.mono ?_;rintro e w1 ⟨u1,rfl,A,ad⟩;obtain⟨na,nc,rfl⟩:=UN.form A)
  |(go_at_call 72;refine(P.o _ _ A).mono ?_;rintro e w2 ⟨u2,rfl,l,ae⟩;obtain⟨sa,sl,sc,rfl⟩:=l.form;obtain⟨s2,k⟩:=ex (decide (((Int.gcd x y:Nat):Int)<0));rw[k]at l;rw[k];clear k;have hq:=Bt ad ae;obtain⟨r0,r1⟩:=(f.below hq).cp;obtain⟨f0,f1⟩:=(f.below hq).fp))
 have U:=Bt i hq;have R:=l.box (f.below hq) J J (x0:=E s2) (x1:=C sa sl sc);exact A0 (by simp[results,results84,go_sem,r0,r1]) J ⟨_,J,R,(U.setCell (p:=⟨_,0,none⟩) Db _).setCell (p:=⟨_,1,none⟩) Db _⟩
def Sw(w:H)(a b c d:Obj):Bl w ((((w.alloc a).alloc b).alloc c).alloc d):=
 (((Ba w _).alloc DG _).alloc si _).alloc si _
theorem Sx{x y z r:Int}(d:y≠0)(h:r+y*z=x)(c:0<=r)(e:r<y.natAbs):z=x/y/\r=x%y:=by
 rcases Int.lt_or_gt_of_ne d with g|hp
 . have f:=(Int.ediv_emod_unique (a:=x) (b:=-y) (r:=r) (q:=-z) O).2 ⟨DI,c,O⟩;grind[Int.ediv_neg,Int.emod_neg]
 grind[Int.ediv_emod_unique]
theorem Sy{x y:Int}(b:y≠0)(c:¬(x<0/\x.natAbs%y.natAbs≠0)):
 (if(!(decide (x<0)==decide (y<0)))=true then -((x.natAbs/y.natAbs:Nat):Int)else((x.natAbs/y.natAbs:Nat):Int))=x/y/\((x.natAbs%y.natAbs:Nat):Int)=x%y:=by
 have a:=Ce x.natAbs y.natAbs;have d:=A9 x.natAbs (show y.natAbs>0 by omega);generalize x.natAbs/y.natAbs=Q at *;generalize x.natAbs%y.natAbs=R at *;have e:(y.natAbs:Int)*Q+R=x.natAbs:=by rw[<-a];push_cast;rfl
 apply Sx b _ O O;grind
theorem Sz{x y:Int}(c:y≠0)(a:x<0/\x.natAbs%y.natAbs≠0):
 (if(!(decide (x<0)==decide (y<0)))=true then -((x.natAbs/y.natAbs+1:Nat):Int)else((x.natAbs/y.natAbs+1:Nat):Int))=x/y/\((y.natAbs-x.natAbs%y.natAbs:Nat):Int)=x%y:=by
 have b:=Ce x.natAbs y.natAbs;have e:=A9 x.natAbs (show y.natAbs>0 by omega);generalize x.natAbs/y.natAbs=Q at *;generalize x.natAbs%y.natAbs=R at *;have f:(y.natAbs:Int)*Q+R=x.natAbs:=by rw[<-b];push_cast;rfl
 obtain⟨g,d⟩:=a;apply Sx c _ O O;grind
def Mx{W:H}{B:Nat}{t:TypeId}{c d u0 u1:D}(x0 x1 a b:D)(h:Jp W B t c d)(k:Jp W (B+1) t u0 u1):
 Jp ((((W.setCell ⟨B,0,none⟩ x0).setCell ⟨B,1,none⟩ x1).setCell ⟨B+1,0,none⟩ a).setCell ⟨B+1,1,none⟩ b) B t x0 x1/\Jp ((((W.setCell ⟨B,0,none⟩ x0).setCell ⟨B,1,none⟩ x1).setCell ⟨B+1,0,none⟩ a).setCell ⟨B+1,1,none⟩ b) (B+1) t a b:=
 ⟨(((h.set0 x0).set1 x1).far DG a).far DG b,(((k.far DG x0).far DG x1).set0 a).set1 b⟩
def dG(w:H)(a b c d:D)(p0 p1:D):
 Jp ((((w.alloc (G #[a,b] 35)).alloc (G #[c,d] 35)).alloc (G #[p0,p1] 35)).alloc (G #[p0,p1] 35)) w.heap.size 35 a b/\
 Jp ((((w.alloc (G #[a,b] 35)).alloc (G #[c,d] 35)).alloc (G #[p0,p1] 35)).alloc (G #[p0,p1] 35)) (w.heap.size+1) 35 c d/\
 Jp ((((w.alloc (G #[a,b] 35)).alloc (G #[c,d] 35)).alloc (G #[p0,p1] 35)).alloc (G #[p0,p1] 35)) (w.heap.size+1+1) 35 p0 p1/\
 Jp ((((w.alloc (G #[a,b] 35)).alloc (G #[c,d] 35)).alloc (G #[p0,p1] 35)).alloc (G #[p0,p1] 35)) (w.heap.size+1+1+1) 35 p0 p1:=by
 refine⟨(((Jp.new w _ _ _).alloc _).alloc _).alloc _,?_,?_,?_⟩
 . have h:=((Jp.new (w.alloc (G #[a,b] 35)) 35 c d).alloc (G #[p0,p1] 35)).alloc (G #[p0,p1] 35);rw[Ax]at h;exact h
 . have h:=(Jp.new ((w.alloc (G #[a,b] 35)).alloc (G #[c,d] 35)) 35 p0 p1).alloc (G #[p0,p1] 35);rw[Ax,Ax]at h;exact h
 . have h:=Jp.new (((w.alloc (G #[a,b] 35)).alloc (G #[c,d] 35)).alloc (G #[p0,p1] 35)) 35 p0 p1;rw[Ax,Ax,Ax]at h;exact h
theorem dH(a:Option M)(la ca:Nat)(b:Option M)(lb cb X c:Nat)(s t:Bool)(z r:Int)(w:H)(hu:UN w (C a la ca) X)(hv:UN w (C b lb cb) c)(hY:c≠0)(bh:la<1000000000000)(bi:lb<1000000000000)
(HP:Hid (¬(s=true/\X%c≠0)->(if(!(s==t))=true then -((X/c:Nat):Int)else((X/c:Nat):Int))=z/\((X%c:Nat):Int)=r))
(HN:Hid (s=true/\X%c≠0->(if(!(s==t))=true then -((X/c+1:Nat):Int)else((X/c+1:Nat):Int))=z/\((c-X%c:Nat):Int)=r)):
 F I 135 #[S #[E s,C a la ca],S #[E t,C b lb cb]] w λe d=>∃q o,e=.returned (.tuple #[q,o,E true])/\Jm d q z/\Jm d o r/\Bl w d:=by
 obtain⟨b0,k,K,P⟩:=dG w (E s) (C a la ca) (E t) (C b lb cb) (E false) (C none 0 0);have A:=Sw w (G #[E s,C a la ca] 35) (G #[E t,C b lb cb] 35) (G #[E false,C none 0 0] 35) (G #[E false,C none 0 0] 35);obtain⟨W0,ae⟩:=ex ((((w.alloc (G #[E s,C a la ca] 35)).alloc (G #[E t,C b lb cb] 35)).alloc (G #[E false,C none 0 0] 35)).alloc (G #[E false,C none 0 0] 35));rw[ae]at b0 k K P A;have Qh:=Y ae;have bj:lb≠0:=λe=>hY ((JP Jg).1 (Al (by rw[<-UN.len hv,e])));have Qn:=UN.below hu A;have Qd:=UN.below hv A;have Qm:=Y (O8 a la ca b lb cb X c W0 Qn Qd hY O);have Qw:=Y Qd;have Qq:=Y (UN.len hu).symm;obtain⟨k0,k1⟩:=b0.cp;obtain⟨k2,x⟩:=k.cp;clear ae hu hv Qn Qd;go_enter func135,ntmps135
 go_upto_region 1 with fail
 rw[Qh.o];go_upto_region 4 with(go_at_call 176;refine Qm.o.mono ?_;rintro e w1 ⟨u1,v1,rfl,l,ad,i⟩;obtain⟨ua,uc,rfl⟩:=UN.form l;obtain⟨va,vc,rfl⟩:=UN.form ad)
 clear Qm Qh;obtain⟨k0,k1⟩:=(b0.below i).cp;obtain⟨k2,x⟩:=(k.below i).cp;have Qg:(Jd Z (X%c)).length=0↔X%c=0:=⟨λh=>(JP Jg).1 (Al h),λh=>by rw[h,JG];rfl⟩;have bm:=A9 X (show c>0 by omega);have bk:=XC (m:=X) (n:=X/c) (Fw _ _);have Qk:(Jd Z (X/c)).length<1099511627776:=by
  have f:=(Ju l).2.2.2.1
  have:(Jd Z X).length=la:=by
   have h:=Qq.o;omega
  omega
 obtain⟨lr,az⟩:=ex ((Jd Z (X%c)).length);obtain⟨lq,ay⟩:=ex ((Jd Z (X/c)).length);rw[az]at ad Qg ⊢;rw[ay]at l Qk ⊢;obtain⟨cd,aq⟩:=ex ((s&&decide (0<lr)):Bool);have j:=Y aq;have Qp:=Y Qg;clear aq Qg az ay;go_cut [29] λv y=>v=E cd/\y=w1
 case first=>
  cases s with
  |false=>
   have e5:cd=false:=by rw[<-j.o];rfl
   go_wp2_with fail
   go_meet
   grind
  |true=>
   by_cases h5:0<lr
   . have e5:cd=true:=by rw[<-j.o];simp;omega
     go_wp2_with fail
     go_meet
     grind
   . have e5:cd=false:=by rw[<-j.o];simp;omega
     go_wp2_with fail
     go_meet
     grind
 case rest=>
  obtain⟨rfl,rfl⟩:=hcut;go_upto_if 29 with fail
  go_cut [7,8] λqv rv y=>∃(qa:Option M) (ql qc Q:Nat) (oa:Option M) (ol oc R:Nat),qv=C qa ql qc/\rv=C oa ol oc/\Hid (UN y (C qa ql qc) Q)/\Hid (UN y (C oa ol oc) R)/\Hid ((if(!(s==t))=true then -(Q:Int)else(Q:Int))=z/\(R:Int)=r)/\Bl W0 y
  case first=>
   cases cd with
   |false=>
    have hc:¬(s=true/\X%c≠0):=λ⟨f,h2⟩=>by
     have h:=j.o;rw[f]at h;simp at h;exact h2 (Qp.o.1 h)
    go_wp2_with fail
    go_meet
    case rel=>exact⟨_,_,_,_,_,_,_,_,J,J,Y l,Y ad,Y (HP.o hc),i⟩
   |true=>
    have hc:s=true/\X%c≠0:=by
     have h:=j.o;simp at h;exact⟨h.1,λe=>by have:=Qp.o.2 e;omega⟩
    have HC:=Y hc;clear hc;have Qv:=Y (show ∀V:H,Bl wc V->F I 132 #[C ua lq uc,C (some ⟨V.heap.size,0,none⟩) 1 1] (V.alloc (G #[.int .u64 1] 115)) λe d=>∃u,e=.returned u/\UN d u (X/c+1)/\Below (V.alloc (G #[.int .u64 1] 115)).heap.size (V.alloc (G #[.int .u64 1] 115)) d from λV h=>by
     have Qe:Row .u64 (V.alloc (G #[.int .u64 1] 115)) (C (some ⟨V.heap.size,0,none⟩) 1 1) (Jd Z 1):=by
      rw[O9 O uo];exact(DO.made (xs:=[1]) (BB V (G #[.int .u64 ((1:Nat):Int)] 115))).row 0 1 1 DG O O O
     exact Rq ua lq uc (some ⟨V.heap.size,0,none⟩) 1 1 (X/c) 1 _ (Row.below (Row.below l h) (Ba V _)) Qe Qk O)
    have Qz:=Y λ(V:H) (h:Bl wc V)=>On b lb cb va lr vc c (X%c) V (Row.below (Row.below Qw.o i) h) (Row.below ad h) O;have hq:Bl wc wc.drew:=(BA _ wc).drew;have T:=k.below i;have lx:=T.lt;go_wp2_with fail
    have x:=T.c1;go_region_held3 (λd=>d.cell? ⟨w.heap.size+1,1,none⟩=some (C b lb cb)) (first|exact x|(go_keep;done))
     (first
      |(go_at_call 132;refine(Qv.o _ hq).mono ?_;rintro e w3 ⟨u3,rfl,bc,bg⟩;obtain⟨pa,pc,rfl⟩:=UN.form bc;have hq:=SO hq bg;have x:=(T.below hq).c1)
      |(go_at_call 133;refine(Qz.o _ hq).mono ?_;rintro e w4 ⟨u4,rfl,bf,an⟩;obtain⟨ma,mc,rfl⟩:=UN.form bf;have hq:=Bt hq an;have x:=(T.below hq).c1))
    all_goals go_wp2_with fail
    go_meet
    case rel=>exact⟨_,_,_,_,_,_,_,_,J,J,Y (UN.below bc an),Y bf,Y (HN.o HC.o),Bt i hq⟩
  case rest=>
   obtain⟨qa,ql,qc,Q,oa,ol,oc,R,rfl,rfl,hQ,hR,hZ,W⟩:=hcut;have Qi:=Y (show ∀V:H,Bl wc V->F I 72 #[E (!(s==t)),C qa ql qc] V λe d=>∃u,e=.returned u/\Jm d u z/\Bl V d from λV h=>by
    have f:=KZ (!(s==t)) _ _ V (UN.below hQ.o h);rw[hZ.o.1]at f;exact f)
   have Qj:=Y (show ∀V:H,Bl wc V->F I 72 #[E false,C oa ol oc] V λe d=>∃u,e=.returned u/\Jm d u r/\Bl V d from λV h=>by
    have f:=KZ false _ _ V (UN.below hR.o h);simp only[C7,if_false]at f;rw[hZ.o.2]at f;exact f)
   have k0:=(b0.below W).c0;have k2:=(k.below W).c0;go_wp2_with(first
    |(go_at_call 72;refine(Qi.o _ (BA _ _)).mono ?_;clear Qi;rintro e w5 ⟨u5,rfl,ak,ah⟩;obtain⟨B,l5,U,rfl⟩:=ak.form;obtain⟨s5,ai⟩:=ex (decide (z<0));rw[ai]at ak;rw[ai];clear ai)
    |(go_at_call 72;refine(Qj.o _ ah).mono ?_;clear Qj;rintro e w6 ⟨u6,rfl,am,ap⟩;obtain⟨a6,l6,c6,rfl⟩:=am.form;obtain⟨s6,aj⟩:=ex (decide (r<0));rw[aj]at am;rw[aj];clear aj;have g:=(Bt W ah).trans (ap.mono (Bt W ah).size);obtain⟨q0,q1⟩:=(K.below g).cp;obtain⟨q2,q3⟩:=(P.below g).cp;obtain⟨f0,f1⟩:=(K.below g).fp;obtain⟨f2,f3⟩:=(P.below g).fp))
   have Qf:=K.below g;have Qo:=P.below g;obtain⟨z4,z5⟩:=Mx (E s5) (C B l5 U) (E s6) (C a6 l6 c6) Qf Qo;obtain⟨Qy,Qx⟩:=z4.cp;obtain⟨Qr,Qu⟩:=z5.cp;have Ql:Jp ((w6.setCell ⟨w.heap.size+1+1,0,none⟩ (E s5)).setCell ⟨w.heap.size+1+1,1,none⟩ (C B l5 U)) (w.heap.size+1+1+1) 35 (E false) (C none 0 0):=(Qo.far DG _).far DG _;have Qs:=((ak.below ap).box Qf J J (x0:=E s5) (x1:=C B l5 U)).box Ql J J (x0:=E s6) (x1:=C a6 l6 c6);have Qt:=(am.box Qf J J (x0:=E s5) (x1:=C B l5 U)).box Ql J J (x0:=E s6) (x1:=C a6 l6 c6);have Ua:=Bt A g;exact A0 (by simp[results,results135,go_sem,Qy,Qx,Qr,Qu]) J ⟨_,_,J,Qs,Qt,(((Ua.setCell (p:=⟨_,0,none⟩) Db _).setCell (p:=⟨_,1,none⟩) Db _).setCell (p:=⟨_,0,none⟩) Db _).setCell (p:=⟨_,1,none⟩) Db _⟩
def S0(j k:D)(x y:Int)(w:H)(l:Jm w j x)(m:Jm w k y)(i:y≠0)(n:(Jd Z x.natAbs).length<1000000000000)(p:(Jd Z y.natAbs).length<1000000000000):
 F I 135 #[j,k] w λe d=>∃q o,e=.returned (.tuple #[q,o,E true])/\Jm d q (x/y)/\Jm d o (x%y)/\Bl w d:=by
 obtain⟨a,la,ca,rfl,f⟩:=l;obtain⟨b,lb,cb,rfl,g⟩:=m;refine dH a la ca b lb cb x.natAbs y.natAbs _ _ (x/y) (x%y) w f g O (by rw[UN.len f];exact n) (by rw[UN.len g];exact p) (λc=>Sy i λh=>c ⟨BH h.1,h.2⟩) (λc=>Sz i ⟨Bb c.1,c.2⟩)
section
open M3
def dI(z:Int):(XN z 0=0)↔z=0:=by
 unfold XN;omega
def TA(v:D)(z:Int)(w:H)(h:Jm w v z):
 F I 71 #[v] w λe o=>e=.returned (E (decide (z=0)))/\Bl w o:=by
 obtain⟨a,l,c,rfl⟩:=h.form;obtain⟨s,j⟩:=ex (decide (z<0));rw[j]at h ⊢;clear j;have b0:=Jp.new w 35 (E s) (C a l c);have b:Bl w (w.alloc (G #[E s,C a l c] 35)):=Ba w _;obtain⟨W0,d⟩:=ex (w.alloc (G #[E s,C a l c] 35));rw[d]at b0 b;have k:=Y d;have f:=Y (I5 _ _ z 0 W0 (h.below b) (ET _));obtain⟨p,q⟩:=b0.cp;have g:=Y (dI z);obtain⟨n,i⟩:=ex (XN z 0);rw[i]at f g;clear d i;go_enter func71,ntmps71
 go_upto_region 1 with fail
 rw[k.o];go_wp2_with(go_at_call 64;refine f.o.mono ?_;rintro e r ⟨rfl,m⟩)
 go_ret;refine⟨?_,Bt b m⟩;show Ending.returned (Value.bool (n==0))=_;have e:(n==0)=decide (z=0):=by rw[CH];simp[g.o]
 rw[e]
def dd(y:Int):Int:=if y=0 then 1 else y
def TB(v:D)(x y:Int)(w:H)(h:XD w v x y):
 F I 68 #[v] w λe q=>e=.returned (E (decide (y=0)))/\Bl w q:=by
 obtain⟨s,a,l,c,t,b,k,d,rfl,r,o⟩:=h;have b0:=JB.new w 37 (E s) (C a l c) (E t) (C b k d);have f:Bl w (w.alloc (G #[E s,C a l c,E t,C b k d] 37)):=Ba w _;obtain⟨W0,g⟩:=ex (w.alloc (G #[E s,C a l c,E t,C b k d] 37));rw[g]at b0 f;have m:=Y g;have i:=Y (TA _ _ W0 (o.below f));have u:=b0.c2;have z:=b0.c3;obtain⟨n,j⟩:=ex (decide (y=0));rw[j]at i ⊢;clear g j;go_enter func68,ntmps68
 go_upto_region 1 with fail
 rw[m.o];go_wp2_with(go_at_call 71;refine i.o.mono ?_;rintro e A ⟨rfl,p⟩)
 go_ret;exact⟨J,Bt f p⟩
def dJ(v:D)(x y:Int)(w:H)(h:XD w v x y):
 F I 70 #[v] w λe T=>∃u,e=.returned u/\Jm T u (dd y)/\Bl w T:=by
 have B:=h;obtain⟨s,a,l,c,t,b,k,d,rfl,V,K⟩:=h;obtain⟨W0,i⟩:=ex ((w.alloc (G #[E s,C a l c,E t,C b k d] 37)).alloc (G #[E false,C none 0 0] 35));have b0:JB W0 w.heap.size 37 (E s) (C a l c) (E t) (C b k d):=by rw[<-i];exact(JB.new w _ _ _ _ _).alloc _
 have m:Bl w W0:=by rw[<-i];exact Ox w _ _
 have g:Jp W0 (w.heap.size+1) 35 (E false) (C none 0 0):=by
  have h:=Jp.new (w.alloc (G #[E s,C a l c,E t,C b k d] 37)) 35 (E false) (C none 0 0);rw[Ax,i]at h;exact h
 have j:=Y (TB _ x y W0 (B.below m));have A:=Y i;obtain⟨k0,k1,k2,k3⟩:=b0.cq;have U:=Y (K.below m);clear B V K i;by_cases hq:y=0
 . rw[BH hq]at j;have n:=Y (show dd y=1 by unfold dd;rw[BG hq]);clear hq;go_enter func70,ntmps70
   go_upto_region 1 with fail
   rw[A.o];go_wp2_with(first
    |(go_at_call 68;refine j.o.mono ?_;rintro e X ⟨rfl,f⟩)
    |(go_at_call 29;refine(Kd 1 O O _).mono ?_;rintro e w2 ⟨u2,rfl,z,W⟩;obtain⟨R,sl,sc,rfl⟩:=z.form;obtain⟨Q,r⟩:=ex (decide ((1:Int)<0));rw[r]at z;rw[r];clear r;have hq:=Bt f W;obtain⟨r0,r1⟩:=(g.below hq).cp;obtain⟨f0,f1⟩:=(g.below hq).fp))
   have q:=Bt m hq;have o:=z.box (g.below hq) J J (x0:=E Q) (x1:=C R sl sc);exact A0 (v:=S #[E Q,C R sl sc]) (by simp[results,results70,go_sem,r0,r1]) J ⟨_,J,by rw[n.o];exact o,(q.setCell (p:=⟨_,0,none⟩) Db _).setCell (p:=⟨_,1,none⟩) Db _⟩
 . rw[BE hq]at j;have n:=Y (show y=dd y by unfold dd;rw[BD hq]);clear hq;go_enter func70,ntmps70
   go_upto_region 1 with fail
   rw[A.o];go_wp2_with(go_at_call 68;refine j.o.mono ?_;rintro e X ⟨rfl,f⟩;have m2:=(b0.below f).c2;have m3:=(b0.below f).c3;obtain⟨r0,r1⟩:=(g.below f).cp;obtain⟨f0,f1⟩:=(g.below f).fp)
   have q:=Bt m f;have P:=U.o.below f;rw[n.o]at P;have o:=P.box (g.below f) J J (x0:=E t) (x1:=C b k d);exact A0 (v:=S #[E t,C b k d]) (by simp[results,results70,go_sem,r0,r1]) J ⟨_,J,o,(q.setCell (p:=⟨_,0,none⟩) Db _).setCell (p:=⟨_,1,none⟩) Db _⟩
def dK(q:Rat):dd (denZ q)=q.den:=by
 have:=q.den_pos;unfold dd denZ;omega
def Kl(v:D)(q:Rat)(w:H)(h:Jj w v q):
 F I 68 #[v] w λe b=>e=.returned (E (decide (q.den=1)))/\Bl w b:=by
 have a:=TB v q.num (denZ q) w h.pair;rwa[decide_eq_decide.2 Mc]at a
def F4(v:D)(q:Rat)(w:H)(h:Jj w v q):
 F I 70 #[v] w λe a=>∃u,e=.returned u/\Jm a u (q.den:Int)/\Bl w a:=by
 have b:=dJ v q.num (denZ q) w h.pair;rwa[dK]at b
def GY(R T:D)(x y:Int)(w:H)(g:Jm w R x)(i:Jm w T y)(Q:y≠0)(A:Sok x)(B:Sok y):
 F I 85 #[R,T] w λe U=>∃u,e=.returned u/\Jm U u (x/y)/\Bl w U:=by
 obtain⟨a,la,ca,rfl⟩:=g.form;obtain⟨b,lb,cb,rfl⟩:=i.form;obtain⟨s,z⟩:=ex (decide (x<0));obtain⟨t,K⟩:=ex (decide (y<0));rw[z]at g ⊢;rw[K]at i ⊢;clear z K;obtain⟨W0,m⟩:=ex (((w.alloc (G #[E s,C a la ca] 35)).alloc (G #[E t,C b lb cb] 35)).alloc (G #[E false,C none 0 0] 35));obtain⟨l,b0,b1,bR⟩:=MX m;have V:=Y (S0 _ _ x y W0 (g.below l) (i.below l) Q (by have:=A.words;omega) (by have:=B.words;omega));have X:=Y m;obtain⟨k0,k1⟩:=b0.cp;obtain⟨k2,k3⟩:=b1.cp;clear g i Q A B m;go_enter func85,ntmps85
 go_upto_region 1 with fail
 rw[X.o];go_upto_region 2 with(go_at_call 135;refine V.o.mono ?_;rintro e r ⟨u1,u2,rfl,q,P,v⟩;obtain⟨c,l1,c1,rfl⟩:=q.form;obtain⟨d,n⟩:=ex (decide (x/y<0));rw[n]at q;rw[n];clear n;obtain⟨f,l2,c2,rfl⟩:=P.form;obtain⟨j,o⟩:=ex (decide (x%y<0));rw[o]at P;rw[o];clear o)
 have bq:=(Jp.new r 35 (E d) (C c l1 c1)).alloc (G #[E j,C f l2 c2] 35);have k:=((bR.below v).alloc (G #[E d,C c l1 c1] 35)).alloc (G #[E j,C f l2 c2] 35);have hu:=(q.alloc (G #[E d,C c l1 c1] 35)).alloc (G #[E j,C f l2 c2] 35);have Qc:Bl w ((r.alloc (G #[E d,C c l1 c1] 35)).alloc (G #[E j,C f l2 c2] 35)):=Bt (Bt l v) (Ox r _ _)
 obtain⟨q0,q1⟩:=bq.cp;obtain⟨r0,r1⟩:=k.cp;obtain⟨f0,f1⟩:=k.fp;go_wp2_with fail
 have W:=hu.box k J J (x0:=E d) (x1:=C c l1 c1);exact A0 (by simp[results,results85,go_sem,r0,r1]) J ⟨_,J,W,(Qc.setCell (p:=⟨_,0,none⟩) Db _).setCell (p:=⟨_,1,none⟩) Db _⟩
def PJ(w:H)(s t:Bool)(a b:Option M)(la ca lb cb:Nat)(x y:Int)(c:Jm w (S #[E s,C a la ca]) x)(d:Jm w (S #[E t,C b lb cb]) y):
 DH w (((w.alloc (G #[E s,C a la ca] 35)).alloc (G #[E t,C b lb cb] 35)).alloc (G #[E false,C none 0 0,E false,C none 0 0] 37)) [some (w.heap.size,.int x),some (w.heap.size+1,.int y),some (w.heap.size+1+1,.rat 0)]:=by
 have h:=(((DH.nil w).push (.int x) c).push (.int y) (d.alloc _)).push (.rat 0) (D8 _);rw[Ax,Ax,Ax]at h;exact h
def Jj.mk{W:H}{s t:Bool}{a b:Option M}{l c k d:Nat}{q:Rat}(e:Jm W (S #[E s,C a l c]) q.num)(f:Jm W (S #[E t,C b k d]) (denZ q)):Jj W (S #[E s,C a l c,E t,C b k d]) q:=⟨_,_,_,_,_,_,_,_,J,e,f⟩
def My(T U:D)(q:Rat)(w:H)(g:Jm w T q.num)(d:Jm w U (q.den:Int)):
 F I 86 #[T,U] w λe i=>∃u,e=.returned u/\Jj i u q/\Bl w i:=by
 obtain⟨a,la,ca,rfl⟩:=g.form;obtain⟨b,lb,cb,rfl⟩:=d.form;obtain⟨s,A⟩:=ex (decide (q.num<0));obtain⟨t,B⟩:=ex (decide ((q.den:Int)<0));rw[A]at g ⊢;rw[B]at d ⊢;clear A B;have o:=PJ w s t a b la ca lb cb _ _ g d;obtain⟨W0,c⟩:=ex (((w.alloc (G #[E s,C a la ca] 35)).alloc (G #[E t,C b lb cb] 35)).alloc (G #[E false,C none 0 0,E false,C none 0 0] 37));have b0:Jp W0 w.heap.size 35 (E s) (C a la ca):=by rw[<-c];exact((Jp.new w _ _ _).alloc _).alloc _
 have p:Jp W0 (w.heap.size+1) 35 (E t) (C b lb cb):=by
  have h:=(Jp.new (w.alloc (G #[E s,C a la ca] 35)) 35 (E t) (C b lb cb)).alloc (G #[E false,C none 0 0,E false,C none 0 0] 37);rw[Ax,c]at h;exact h
 have r:JB W0 (w.heap.size+1+1) 37 (E false) (C none 0 0) (E false) (C none 0 0):=by
  have h:=JB.new ((w.alloc (G #[E s,C a la ca] 35)).alloc (G #[E t,C b lb cb] 35)) 37 (E false) (C none 0 0) (E false) (C none 0 0);rw[Ax,Ax,c]at h;exact h
 rw[c]at o;have j:=o.2.2;obtain⟨l,x,X,Qc⟩:=Di (λ(V:H) (u:D) (h:Bl W0 V) (hu:Jm V u 1)=>I5 _ u (q.den:Int) 1 V ((d.below j).below h) hu) (g.below j) (d.below j) c;obtain⟨k0,k1⟩:=b0.cp;obtain⟨K,P⟩:=p.cp;have m:=Y (show(XN (q.den:Int) 1=0)↔q.den=1 by unfold XN;split<;>(try split)<;>omega);obtain⟨n,f⟩:=ex (XN (q.den:Int) 1);rw[f]at l m;clear g d c f o;go_enter func86,ntmps86
 go_upto_region 1 with fail
 rw[Qc.o];have hq:Bl W0 W0.drew:=(BA _ W0).drew;go_region_held3 (λi=>i.cell? ⟨w.heap.size+1,0,none⟩=some (E t)/\i.cell? ⟨w.heap.size+1,1,none⟩=some (C b lb cb)) (refine⟨?_,?_⟩<;>(first|(go_keep;done)|((repeat rw[JF O]);simp[*];done)))
  (first
   |(go_at_call 29;refine(Kd 1 O O _).mono ?_;rintro e w1 ⟨u1,rfl,ah,ad⟩;have hq:=Bt hq ad;obtain⟨K,P⟩:=(p.below hq).cp)
   |(go_at_call 64;refine(l.o _ _ hq ah).mono ?_;clear l;rintro e W ⟨rfl,ae⟩;have hq:=Bt hq ae;obtain⟨k0,k1⟩:=(b0.below hq).cp;obtain⟨K,P⟩:=(p.below hq).cp;obtain⟨r0,r1,Q,R⟩:=(r.below hq).cq;obtain⟨f0,f1,f2,f3⟩:=(r.below hq).fq))
 have y:=Bt j hq;have z:=r.below hq;by_cases f:n=0
 . have k:=Y (show denZ q=0 from Mc.2 (m.o.1 f));subst f;have v:Jj W (S #[E s,C a la ca,E false,C none 0 0]) q:=Jj.mk (x.o.below hq) (by rw[k.o];exact ET _);go_wp2_with fail
   exact A0 (by simp[results,results86,go_sem,r0,r1,Q,R]) J ⟨_,J,v.put4 z J J J J _ _ _ _,Jn y O _ _ _ _⟩
 . have k:=Y (show denZ q=q.den by unfold denZ;rw[BD λh=>f (m.o.2 h)]);have v:Jj W (S #[E s,C a la ca,E t,C b lb cb]) q:=Jj.mk (x.o.below hq) (by rw[k.o];exact X.o.below hq);go_wp2_with fail
   exact A0 (by simp[results,results86,go_sem,r0,r1,Q,R]) J ⟨_,J,v.put4 z J J J J _ _ _ _,Jn y O _ _ _ _⟩
def Km{x y:Int}(a:y≠0):(0:Int)<(Int.gcd x y:Nat):=by
 have:=Int.gcd_pos_of_ne_zero_right x a;omega
theorem TC(va vb:D)(x y:Int)(w:H)(ha:Jm w va x)(r:Jm w vb y)(hy:y≠0)(bg:Sok x)(bh:Sok y):
 F I 65 #[va,vb] w λe c=>∃u,e=.returned u/\Jj c u (nM x y)/\Bl w c:=by
 obtain⟨HX,HY,k⟩:=DX bg bh hy;clear bg bh hy;obtain⟨s,a,la,ca,rfl⟩:=Jm.form2 ha;obtain⟨t,b,lb,cb,rfl⟩:=Jm.form2 r;have M0:=PJ w s t a b la ca lb cb _ _ ha r;obtain⟨W0,ak⟩:=ex (((w.alloc (G #[E s,C a la ca] 35)).alloc (G #[E t,C b lb cb] 35)).alloc (G #[E false,C none 0 0,E false,C none 0 0] 37));have Qp:=Y ak;rw[ak]at M0;have M1:=Y M0;clear M0 ha r ak;go_enter func65,ntmps65
 go_upto_region 1 with fail
 rw[Qp.o];clear Qp;obtain⟨s1,a1,l1,c1,n1,i1⟩:=M1.o.int (i:=0) J;have Qr:=n1.ka;obtain⟨s2,a2,l2,c2,n2,i2⟩:=M1.o.int (i:=1) J;have Qs:=n2.ka;go_upto_region 2 with(go_at_call 84;refine(KA _ _ x y _ i1 i2 (by have:=HX.o.words;omega) (by have:=HY.o.words;omega)).mono ?_;rintro e w1 ⟨u,rfl,p,r⟩;obtain⟨bt,ay,bk,bc,rfl⟩:=Jm.form2 p)
 obtain⟨V3,o⟩:=ex (w1.alloc (G #[E bt,C ay bk bc] 35));obtain⟨d,aj⟩:=ex (w1.heap.size);have m:DH w (w1.alloc (G #[E bt,C ay bk bc] 35)) [some (w.heap.size,.int x),some (w.heap.size+1,.int y),some (w.heap.size+1+1,.rat 0),some (w1.heap.size,.int (((Int.gcd x y:Nat):Int)))]:=DH.push (M1.o.below r) (.int (((Int.gcd x y:Nat):Int))) p;rw[o,aj]at m;rw[o];rw[aj];have q:=Y (m);clear M1;clear m o aj;clear n1 Qr i1 n2 Qs i2 p r;have HG:=Y (Sok.gcd HX.o HY.o);by_cases hn:y<0
 . have Q:=Y hn;clear hn;obtain⟨s4,a4,l4,c4,n4,i4⟩:=q.o.int (i:=1) J;have Qt:=n4.ka;have l:=Y (I5 _ _ y 0 V3 i4 (ET _));rw[show XN y 0=-1 from by unfold XN;rw[BG Q.o]]at l;go_upto_region 3 with(go_at_call 64;refine l.o.mono ?_;rintro e z ⟨rfl,W⟩)
   have M3:=Y (q.o.below W);clear q;clear n4 Qt i4 l W;obtain⟨s5,a5,l5,c5,n5,i5⟩:=M3.o.int (i:=3) J;have Qq:=n5.ka;go_upto_region 4 with(go_at_call 67;refine(Sr _ _ 0 (((Int.gcd x y:Nat):Int)) _ (ET _) i5 (by have:=Sok.zero.words;omega) (by have:=HG.o.words;omega)).mono ?_;rintro e w6 ⟨u6,rfl,aq,ad⟩;obtain⟨bu,az,bm,bf,rfl⟩:=Jm.form2 aq;have Qq:=(n5.below ad).ka;have Qx:=(n5.below ad).fa)
   obtain⟨T,o⟩:=ex ((w6.setCell ⟨d,0,none⟩ (E bu)).setCell ⟨d,1,none⟩ (C az bm bf));have m:DH w ((w6.setCell ⟨d,0,none⟩ (E bu)).setCell ⟨d,1,none⟩ (C az bm bf)) [some (w.heap.size,.int x),some (w.heap.size+1,.int y),some (w.heap.size+1+1,.rat 0),some (d,.int (0-((Int.gcd x y:Nat):Int)))]:=DH.putInt (M3.o.below ad) (i:=3) J aq;rw[o]at m;rw[o];have j:=Y (m);clear M3;clear m o;clear n5 Qq i5 aq ad;clear Qx;obtain⟨R,P,Qo⟩:=DX (show(0-((Int.gcd x y:Nat):Int))≠0 by have:=Km (x:=x) k.o;omega) (show(0-((Int.gcd x y:Nat):Int))=(if y<0 then -((Int.gcd x y:Nat):Int)else((Int.gcd x y:Nat):Int))by rw[BG Q.o];omega) (show Sok (0-((Int.gcd x y:Nat):Int))by rw[Int.zero_sub];exact HG.o.neg);obtain⟨s7,a7,l7,c7,n7,i7⟩:=j.o.int (i:=0) J;have Qm:=n7.ka;obtain⟨s8,a8,l8,c8,n8,i8⟩:=j.o.int (i:=1) J;have Ql:=n8.ka;obtain⟨s9,a9,l9,c9,n9,i9⟩:=j.o.int (i:=3) J;have Qn:=n9.ka;obtain⟨gb,f7,ft,fe,gi,b10,fo,fh,f,r10,fj,fl⟩:=j.o.rat (i:=2) J;have Qa:=f.kb;have Qe:=f.fb;obtain⟨A,B,K⟩:=DX (λ(V:H) (h:Bl T V)=>GY _ _ x ((0-((Int.gcd x y:Nat):Int))) V (i7.below h) (i9.below h) R.o HX.o Qo.o) (λ(V:H) (h:Bl T V)=>GY _ _ y ((0-((Int.gcd x y:Nat):Int))) V (i8.below h) (i9.below h) R.o HY.o Qo.o) λ(V:H) (u v:D) (p:Jm V u (x/(0-((Int.gcd x y:Nat):Int)))) (hv:Jm V v (y/(0-((Int.gcd x y:Nat):Int))))=>My u v (nM x y) V (by rw[Md k.o,<-P.o];exact p) (by rw[Me k.o,<-P.o];exact hv);have Qv:=j.o.ne 0 2 J J DK;have Qw:=j.o.ne 1 2 J J DK;have Qu:=j.o.ne 3 2 J J DK;have hq:Bl T T.drew:=(BA _ T).drew;go_region_held3 (λc=>(c.cell? ⟨w.heap.size,0,none⟩=some (E s7)/\c.cell? ⟨w.heap.size,1,none⟩=some (C a7 l7 c7))/\(c.cell? ⟨w.heap.size+1,0,none⟩=some (E s8)/\c.cell? ⟨w.heap.size+1,1,none⟩=some (C a8 l8 c8))/\c.cell? ⟨d,0,none⟩=some (E s9)/\c.cell? ⟨d,1,none⟩=some (C a9 l9 c9)) (first|grind|(go_keep;done)|grind[JF])
    (first
     |(go_at_call 85;refine(A.o _ hq).mono ?_;clear A;rintro e w2 ⟨u2,rfl,n,am⟩;have hq:=Bt hq am;have Qm:=(n7.below hq).ka;have Ql:=(n8.below hq).ka;have Qn:=(n9.below hq).ka;have Qa:=(f.below hq).kb;have Qe:=(f.below hq).fb)
     |(go_at_call 85;refine(B.o _ hq).mono ?_;clear B;rintro e w3 ⟨u3,rfl,ap,U⟩;have n:=n.below U;have hq:=Bt hq U;have Qm:=(n7.below hq).ka;have Ql:=(n8.below hq).ka;have Qn:=(n9.below hq).ka;have Qa:=(f.below hq).kb;have Qe:=(f.below hq).fb)
     |(go_at_call 86;refine(K.o _ _ _ n ap).mono ?_;clear K;rintro e w4 ⟨u4,rfl,X,an⟩;obtain⟨ew,cn,ed,dj,f6,co,du,dk,rfl⟩:=Jj.form X;have hq:=Bt hq an;have Qm:=(n7.below hq).ka;have Ql:=(n8.below hq).ka;have Qn:=(n9.below hq).ka;have Qa:=(f.below hq).kb;have Qe:=(f.below hq).fb))
   all_goals go_wp2_with fail
   have Qk:=Bt j.o.2.2 hq;exact A0 (by simp[results,results65,go_sem,Qa]) J ⟨_,J,X.put4 (f.below hq) J J J J _ _ _ _,Jn Qk O _ _ _ _⟩
 . have Q:=Y hn;clear hn;obtain⟨gg,f8,fv,ff,bn,bi⟩:=q.o.int (i:=1) J;have Qj:=bn.ka;have l:=Y (I5 _ _ y 0 V3 bi (ET _));rw[show XN y 0=1 from by have h1:=Q.o;have h2:=k.o;unfold XN;omega]at l;go_upto_region 4 with(go_at_call 64;refine l.o.mono ?_;rintro e z ⟨rfl,W⟩)
   have M3:=Y (q.o.below W);clear q;clear bn Qj bi l W;have R:=Y (show((Int.gcd x y:Nat):Int)≠0 by have:=Km (x:=x) k.o;omega);have P:=Y (show((Int.gcd x y:Nat):Int)=(if y<0 then -((Int.gcd x y:Nat):Int)else((Int.gcd x y:Nat):Int))by rw[BD (by have:=Q.o;omega)]);obtain⟨ei,ce,dw,de,ae,dm⟩:=M3.o.int (i:=0) J;have Qc:=ae.ka;obtain⟨eo,cj,dx,dh,ah,dt⟩:=M3.o.int (i:=1) J;have Qf:=ah.ka;obtain⟨et,ck,dz,di,ai,bj⟩:=M3.o.int (i:=3) J;have Qh:=ai.ka;obtain⟨gh,f9,fx,fg,gj,fc,fs,fi,g,ga,fk,fm⟩:=M3.o.rat (i:=2) J;have Qb:=g.kb;have Qg:=g.fb;obtain⟨A,B,K⟩:=DX (λ(V:H) (h:Bl z V)=>GY _ _ x (((Int.gcd x y:Nat):Int)) V (dm.below h) (bj.below h) R.o HX.o HG.o) (λ(V:H) (h:Bl z V)=>GY _ _ y (((Int.gcd x y:Nat):Int)) V (dt.below h) (bj.below h) R.o HY.o HG.o) λ(V:H) (u v:D) (p:Jm V u (x/((Int.gcd x y:Nat):Int))) (hv:Jm V v (y/((Int.gcd x y:Nat):Int)))=>My u v (nM x y) V (by rw[Md k.o,<-P.o];exact p) (by rw[Me k.o,<-P.o];exact hv);have Qv:=M3.o.ne 0 2 J J DK;have Qw:=M3.o.ne 1 2 J J DK;have Qu:=M3.o.ne 3 2 J J DK;have hq:Bl z z.drew:=(BA _ z).drew;go_region_held3 (λc=>(c.cell? ⟨w.heap.size,0,none⟩=some (E ei)/\c.cell? ⟨w.heap.size,1,none⟩=some (C ce dw de))/\(c.cell? ⟨w.heap.size+1,0,none⟩=some (E eo)/\c.cell? ⟨w.heap.size+1,1,none⟩=some (C cj dx dh))/\c.cell? ⟨d,0,none⟩=some (E et)/\c.cell? ⟨d,1,none⟩=some (C ck dz di)) (first|grind|(go_keep;done)|grind[JF])
    (first
     |(go_at_call 85;refine(A.o _ hq).mono ?_;clear A;rintro e w2 ⟨u2,rfl,n,am⟩;have hq:=Bt hq am;have Qc:=(ae.below hq).ka;have Qf:=(ah.below hq).ka;have Qh:=(ai.below hq).ka;have Qb:=(g.below hq).kb;have Qg:=(g.below hq).fb)
     |(go_at_call 85;refine(B.o _ hq).mono ?_;clear B;rintro e w3 ⟨u3,rfl,ap,U⟩;have n:=n.below U;have hq:=Bt hq U;have Qc:=(ae.below hq).ka;have Qf:=(ah.below hq).ka;have Qh:=(ai.below hq).ka;have Qb:=(g.below hq).kb;have Qg:=(g.below hq).fb)
     |(go_at_call 86;refine(K.o _ _ _ n ap).mono ?_;clear K;rintro e w4 ⟨u4,rfl,X,an⟩;obtain⟨ew,cn,ed,dj,f6,co,du,dk,rfl⟩:=Jj.form X;have hq:=Bt hq an;have Qc:=(ae.below hq).ka;have Qf:=(ah.below hq).ka;have Qh:=(ai.below hq).ka;have Qb:=(g.below hq).kb;have Qg:=(g.below hq).fb))
   all_goals go_wp2_with fail
   have Qk:=Bt M3.o.2.2 hq;exact A0 (by simp[results,results65,go_sem,Qb]) J ⟨_,J,X.put4 (g.below hq) J J J J _ _ _ _,Jn Qk O _ _ _ _⟩
def Mz(w:H)(s t i j:Bool)(a b a' e:Option M)(l c k d l' c' g f:Nat)(p q:Rat)(hp:Jj w (S #[E s,C a l c,E t,C b k d]) p)(hq:Jj w (S #[E i,C a' l' c',E j,C e g f]) q):
 DH w (((w.alloc (G #[E s,C a l c,E t,C b k d] 37)).alloc (G #[E i,C a' l' c',E j,C e g f] 37)).alloc (G #[E false,C none 0 0,E false,C none 0 0] 37)) [some (w.heap.size,.rat p),some (w.heap.size+1,.rat q),some (w.heap.size+1+1,.rat 0)]:=by
 have h:=(((DH.nil w).push (.rat p) hp).push (.rat q) (hq.below (Ba w _))).push (.rat 0) (D8 _);rw[Ax,Ax,Ax]at h;exact h
def dL(w:H)(s t i j:Bool)(a b a' e:Option M)(l c k d l' c' g f:Nat)(p q:Rat)(hp:Jj w (S #[E s,C a l c,E t,C b k d]) p)(hq:Jj w (S #[E i,C a' l' c',E j,C e g f]) q):
 DH w ((w.alloc (G #[E s,C a l c,E t,C b k d] 37)).alloc (G #[E i,C a' l' c',E j,C e g f] 37)) [some (w.heap.size,.rat p),some (w.heap.size+1,.rat q)]:=by
 have h:=((DH.nil w).push (.rat p) hp).push (.rat q) (hq.below (Ba w _));rw[Ax]at h;exact h
def M7{q:Rat}(h:q.den=1):q=(q.num:Rat):=Rat.ext J h
def dM{p q:Rat}(hp:p.den=1)(hq:q.den=1):(p+q).num=p.num+q.num/\(p+q).den=1:=by
 have h:p+q=((p.num+q.num:Int):Rat):=by rw[FT,<-M7 hp,<-M7 hq]
 rw[h];exact⟨J,J⟩
def dN{p q:Rat}(hp:p.den=1)(hq:q.den=1):(p*q).num=p.num*q.num/\(p*q).den=1:=by
 have h:p*q=((p.num*q.num:Int):Rat):=by rw[AH,<-M7 hp,<-M7 hq]
 rw[h];exact⟨J,J⟩
def dO(p q:Rat)(hp:Sq p)(hq:Sq q)(a lf d b c:Int)(e:((Int.gcd (p.den:Int) (q.den:Int):Nat):Int)=a)(l:(p.den:Int)/a=lf)(m:(q.den:Int)/a=d)(n:p.num*d+q.num*lf=b)(f:((Int.gcd b a:Nat):Int)=c):
 Sok a/\a≠0/\Sok lf/\Sok d/\Sok b/\Sok c/\c≠0/\Sok (p.num*d)/\Sok (q.num*lf)/\(p+q).num=b/c/\((p+q).den:Int)=lf*(q.den/c):=by
 have hl:=ZV p q a lf d b c e.symm l.symm m.symm n.symm f.symm;have i:a≠0:=by rw[<-e];have:=Km (x:=(p.den:Int)) (y:=q.den) (by have:=q.den_nz;omega);omega
 have sc:Sok a:=by rw[<-e];exact hp.den.gcd hq.den
 have k:Sm 1000000000 lf:=by rw[<-l];exact hp.sm.2.div
 have j:Sm 1000000000 d:=by rw[<-m];exact hq.sm.2.div
 have o:=hp.sm.1.mul j;have r:=hq.sm.1.mul k;have g:Sok b:=by rw[<-n];exact Sok.of (o.add r) O
 refine⟨sc,i,Sok.of k O,Sok.of j O,g,by rw[<-f];exact g.gcd sc,?_,Sok.of o O,Sok.of r O,hl.1,hl.2⟩;rw[<-f];have:=Km (x:=b) i;omega
theorem M8(va vb:D)(p q:Rat)(w:H)(ha:Jj w va p)(hb:Jj w vb q)(de:Sq p)(dh:Sq q):
 F I 34 #[va,vb] w λe m=>∃u,e=.returned u/\Jj m u (p+q)/\Bl w m:=by
 obtain⟨s,a,l,c,t,b,k,d,rfl⟩:=Jj.form ha;obtain⟨s',a',l',c',t',b',k',d',rfl⟩:=Jj.form hb;have M0:=Mz w s t s' t' a b a' b' l c k d l' c' k' d' p q ha hb;obtain⟨W0,bf⟩:=ex (((w.alloc (G #[E s,C a l c,E t,C b k d] 37)).alloc (G #[E s',C a' l' c',E t',C b' k' d'] 37)).alloc (G #[E false,C none 0 0,E false,C none 0 0] 37));have Qo:=Y bf;rw[bf]at M0;obtain⟨M1,HP,P⟩:=DX M0 de dh;clear M0 ha hb bf de dh;go_enter func34,ntmps34
 go_upto_region 1 with fail
 rw[Qo.o];clear Qo;obtain⟨bb,cj⟩:=ex (decide (p.den=1/\q.den=1):Bool);have Qh:=Y cj;clear cj;go_cut [15] λc m=>c=E bb/\Hid (DH w m [some (w.heap.size,.rat p),some (w.heap.size+1,.rat q),some (w.heap.size+1+1,.rat 0)])
 case first=>
  obtain⟨s1,a1,l1,c1,t1,b1,k1,d1,n1,r1,i1,j1⟩:=M1.o.rat (i:=0) J;have Qv:=n1.kb;obtain⟨s2,a2,l2,c2,t2,b2,k2,d2,n2,r2,i2,j2⟩:=M1.o.rat (i:=1) J;have Qx:=n2.kb;have B:=Y (Kl _ p W0 r1);have X:=Y λ(V:H) (h:Bl W0 V)=>Kl _ q V (r2.below h);by_cases T:p.den=1
  . rw[BH T]at B;obtain⟨b2,U⟩:=ex (decide (q.den=1));rw[U]at X;have Qk:=Y (show b2=bb by rw[<-U,<-Qh.o];exact decide_eq_decide.2 ⟨λh=>⟨T,h⟩,λh=>h.2⟩);clear U T;go_wp2_with(first
     |(go_at_call 68;refine B.o.mono ?_;clear B;rintro e W ⟨rfl,ad⟩;have Qv:=(n1.below ad).kb;have Qx:=(n2.below ad).kb)
     |(go_at_call 68;refine(X.o _ ad).mono ?_;clear X;rintro e w2 ⟨rfl,U⟩))
    go_meet
    case rel=>exact⟨by rw[Qk.o],Y ((M1.o.below ad).below U)⟩
  . rw[BE T]at B;have Qk:=Y (show bb=false by rw[<-Qh.o];exact BE λh=>T h.1);clear T;go_wp2_with(go_at_call 68;refine B.o.mono ?_;clear B;rintro e W ⟨rfl,ad⟩)
    go_meet
    case rel=>exact⟨by rw[Qk.o],Y (M1.o.below ad)⟩
 obtain⟨rfl,g⟩:=hcut;have M2:=g;clear M1 g;cases bb with
 |true=>
  have Qi:=Bb Qh.o;have HW:=Y (dM Qi.1 Qi.2);clear Qi Qh;obtain⟨s3,a3,l3,c3,t3,b3,k3,d3,n3,r3,i3,j3⟩:=M2.o.rat (i:=0) J;have gb:=n3.kb;obtain⟨s4,a4,l4,c4,t4,b4,k4,d4,n4,r4,i4,j4⟩:=M2.o.rat (i:=1) J;have gg:=n4.kb;obtain⟨s5,a5,l5,c5,t5,b5,k5,d5,n5,r5,i5,j5⟩:=M2.o.rat (i:=2) J;have Qt:=n5.kb;have Qz:=n5.fb;go_wp2_with(go_at_call 83;refine(Ow _ _ p.num q.num _ i3 i4 (by have:=HP.o.num.words;omega) (by have:=P.o.num.words;omega)).mono ?_;rintro e W ⟨u,rfl,r,hq⟩;obtain⟨bh,am,bg,an,rfl⟩:=Jm.form2 r;have Qt:=(n5.below hq).kb;have Qz:=(n5.below hq).fb)
  have hr:=Jj.mk (by rw[HW.o.1];exact r) (by rw[Mc.2 HW.o.2];exact ET _);have Ql:=Bt M2.o.2.2 hq;exact A0 (by simp[results,results34,go_sem,Qt]) J ⟨_,J,hr.put4 (n5.below hq) J J J J _ _ _ _,Jn Ql O _ _ _ _⟩
 |false=>
  clear Qh;obtain⟨n,ck⟩:=ex (((Int.gcd (p.den:Int) (q.den:Int):Nat):Int):Int);have Qs:=Y ck;clear ck;obtain⟨lf,cn⟩:=ex ((p.den:Int)/n:Int);have Qq:=Y cn;clear cn;obtain⟨A,co⟩:=ex ((q.den:Int)/n:Int);have Qn:=Y co;clear co;obtain⟨K,bm⟩:=ex (p.num*A+q.num*lf:Int);have Qr:=Y bm;clear bm;obtain⟨z,bn⟩:=ex (((Int.gcd K n:Nat):Int):Int);have Qp:=Y bn;clear bn;obtain⟨S1,S2,S3,S4,S5,S6,S7,S8,S9,bj,bk⟩:=dO p q HP.o P.o n lf A K z Qs.o Qq.o Qn.o Qr.o Qp.o;obtain⟨T1,T2,T3,T4,T5,T6,T7,T8⟩:=FZ S1 S2 S3 S4 S5 S6 S7 S8;obtain⟨T9,Qy,Qw⟩:=DX S9 bj bk;clear S1 S2 S3 S4 S5 S6 S7 S8 S9 bj bk;go_upto_region 3 with fail
  refine EU Dl [[],[0],[],[2,1],[1,3,3],[],[5,4,4,0,1,2,3,4,5]] [.rat p,.int ((p.den:Int)),.rat q,.int ((q.den:Int)),.int n,.ptr,.eq N] [5,6] (λb v V=>DH w V [some (w.heap.size,.rat p),some (w.heap.size+1,.rat q),some (w.heap.size+1+1,.rat 0),nb b v 0 1 (.int 0) (.int n)]) (M2.o.none).drew (No (.vl J λ_ j=>F3 0 j)<|No (.cl λh _=>F4 _ p _ (h.g 0))<|No (.vl J λ_ j=>F3 1 j)<|No (.cl λh _=>F4 _ q _ (h.g 2))<|No (.cl λh _=>(by have h:=KA _ _ (p.den:Int) (q.den:Int) _ (h.g 1) (h.g 3) (by have:=HP.o.den.words;omega) (by have:=P.o.den.words;omega);rw[Qs.o]at h;exact h))<|No (.wr J λ_ j=>Hy 3 j)<|No (.wr J λh j=>Gs 3 j (h.g 4) (hp:=h.g 5)) Stp.end_)
   λf V7 hF g=>?_
  refine DT ?_;obtain⟨B8,az⟩:=hF.p 5;have g:=Ei g;simp only[az]at g;rw[az];have M3:=Y g;clear g hF az;clear M2;go_upto_region 4 with fail
  refine EU Dl [[],[0],[],[1,2,1],[],[4,3],[],[5,6,5],[],[],[8,3,7,0,1,2,3,8,9],[9,7,10,0,1,2,3,4,5,6,7,8,9,10]] [.rat p,.int ((p.den:Int)),.int n,.int lf,.rat q,.int ((q.den:Int)),.int n,.int A,.ptr,.ptr,.eq N,.eq N] [8,9,10,11] (λb v V=>DH w V [some (w.heap.size,.rat p),some (w.heap.size+1,.rat q),some (w.heap.size+1+1,.rat 0),some (B8,.int n),nb b v 0 2 (.int 0) (.int lf),nb b v 1 3 (.int 0) (.int A)]) ((M3.o.none).none).drew (No (.vl J λ_ j=>F3 0 j)<|No (.cl λh _=>F4 _ p _ (h.g 0))<|No (.vl J λ_ j=>Gr 3 j)<|No (.cl λh _=>(by have h:=GY _ _ (p.den:Int) n _ (h.g 1) (h.g 2) T2.o HP.o.den T1.o;rw[Qq.o]at h;exact h))<|No (.vl J λ_ j=>F3 1 j)<|No (.cl λh _=>F4 _ q _ (h.g 4))<|No (.vl J λ_ j=>Gr 3 j)<|No (.cl λh _=>(by have h:=GY _ _ (q.den:Int) n _ (h.g 5) (h.g 6) T2.o P.o.den T1.o;rw[Qn.o]at h;exact h))<|No (.wr J λ_ j=>Hy 4 j)<|No (.wr J λ_ j=>Hy 5 j)<|No (.wr J λh j=>Gs 4 j (h.g 3) (hp:=h.g 8))<|No (.wr J λh j=>Gs 5 j (h.g 7) (hp:=h.g 9)) Stp.end_)
   λf gh hF g=>?_
  refine DT ?_;obtain⟨B11,ap⟩:=hF.p 8;obtain⟨B12,aq⟩:=hF.p 9;have g:=Ei g;simp only[ap,aq]at g;rw[ap,aq];have M4:=Y g;clear g hF ap aq;clear M3;go_upto_region 5 with fail
  refine EU Dl [[],[0],[],[1,2],[],[4],[],[5,6,3],[3,7,7],[],[9,8,8,0,1,2,3,4,5,6,7,8,9]] [.eq (L (some ⟨w.heap.size,0,none⟩)),.int (Rat.num (p)),.int A,.int (p.num*A),.eq (L (some ⟨w.heap.size+1,0,none⟩)),.int (Rat.num (q)),.int lf,.int (q.num*lf),.int K,.ptr,.eq N] [9,10] (λb v V=>DH w V [some (w.heap.size,.rat p),some (w.heap.size+1,.rat q),some (w.heap.size+1+1,.rat 0),some (B8,.int n),some (B11,.int lf),some (B12,.int A),nb b v 0 1 (.int 0) (.int K)]) (M4.o.none).drew (No (.vl J λ_ _=>⟨_,by refine DT ?_;go_simp,J⟩)<|No (.vl J λh j=>Kj 0 j (hp:=h.e 0))<|No (.vl J λ_ j=>Gr 5 j)<|No (.cl λh _=>XF _ _ p.num A _ (h.g 1) (h.g 2) (by have:=HP.o.num.words;have:=T4.o.words;omega))<|No (.vl J λ_ _=>⟨_,by refine DT ?_;go_simp,J⟩)<|No (.vl J λh j=>Kj 1 j (hp:=h.e 4))<|No (.vl J λ_ j=>Gr 4 j)<|No (.cl λh _=>XF _ _ q.num lf _ (h.g 5) (h.g 6) (by have:=P.o.num.words;have:=T3.o.words;omega))<|No (.cl λh _=>(by have h:=Ow _ _ (p.num*A) (q.num*lf) _ (h.g 3) (h.g 7) (by have:=T8.o.words;omega) (by have:=T9.o.words;omega);rw[Qr.o]at h;exact h))<|No (.wr J λ_ j=>Hy 6 j)<|No (.wr J λh j=>Gs 6 j (h.g 8) (hp:=h.g 9)) Stp.end_)
   λf dw hF g=>?_
  refine DT ?_;rw[hF.e 0,hF.e 4];obtain⟨ak,ay⟩:=hF.p 9;have g:=Ei g;simp only[ay]at g;rw[ay];have M5:=Y g;clear g hF ay;clear M4;go_upto_region 6 with fail
  obtain⟨iz,gi,ii,gp,dt,dj⟩:=M5.o.int (i:=6) J;have Qj:=dt.ka;obtain⟨ja,gj,ij,gq,du,dk⟩:=M5.o.int (i:=3) J;have Qm:=du.ka;have HC:=Y (KA _ _ K n dw dj dk (by have:=T5.o.words;omega) (by have:=T1.o.words;omega));rw[Qp.o]at HC;go_upto_region 7 with(go_at_call 84;refine HC.o.mono ?_;clear HC;rintro e W ⟨u,rfl,r,hb⟩;obtain⟨bh,am,bg,an,rfl⟩:=Jm.form2 r)
  obtain⟨R,hV⟩:=ex (W.alloc (G #[E bh,C am bg an] 35));obtain⟨bi,bc⟩:=ex (W.heap.size);have g:DH w (W.alloc (G #[E bh,C am bg an] 35)) [some (w.heap.size,.rat p),some (w.heap.size+1,.rat q),some (w.heap.size+1+1,.rat 0),some (B8,.int n),some (B11,.int lf),some (B12,.int A),some (ak,.int K),some (W.heap.size,.int z)]:=DH.push (M5.o.below hb) (.int z) r;rw[hV,bc]at g;rw[hV];rw[bc];have x:=Y (g);clear M5;clear g hV bc;clear dt Qj dj du Qm dk r hb;obtain⟨fs,dx,fj,et,ae,fg⟩:=x.o.int (i:=6) J;have Qe:=ae.ka;obtain⟨ft,dz,fk,ew,ah,dm⟩:=x.o.int (i:=7) J;have Qb:=ah.ka;obtain⟨fv,ed,fl,f6,ai,fh⟩:=x.o.int (i:=4) J;have Qf:=ai.ka;obtain⟨fx,ei,fm,f7,ga,eo,fi,f8,aj,fo,gy,ib⟩:=x.o.rat (i:=1) J;have Qc:=aj.kb;obtain⟨jb,gk,il,gr,jd,gn,ie,gv,o,iy,ia,ic⟩:=x.o.rat (i:=2) J;have Qa:=o.kb;have Qd:=o.fb;obtain⟨B,X,H3,H4,H5⟩:=Gn (λ(V:H) (h:Bl R V)=>GY _ _ K z V (fg.below h) (dm.below h) T7.o T5.o T6.o) (λ(V:H) (h:Bl R V)=>F4 _ q V (fo.below h)) (λ(V:H) (u:D) (h:Bl R V) (r:Jm V u (q.den:Int))=>GY u _ (q.den:Int) z V r (dm.below h) T7.o P.o.den T6.o) (λ(V:H) (u:D) (h:Bl R V) (r:Jm V u ((q.den:Int)/z))=>XF _ u lf ((q.den:Int)/z) V (fh.below h) r (by have T:=T3.o.words;have h2:=(Sok.div (y:=z) P.o.den).words;omega)) λ(V:H) (u v:D) (r:Jm V u (K/z)) (hv:Jm V v (lf*((q.den:Int)/z)))=>My u v (p+q) V (by rw[Qy.o];exact r) (by rw[Qw.o];exact hv);have iw:=x.o.ne 6 2 J J DK;have ix:=x.o.ne 7 2 J J DK;have iu:=x.o.ne 4 2 J J DK;have ir:=x.o.ne 1 2 J J DK;have hq:Bl R R.drew:=(BA _ R).drew;go_region_held3 (λm=>(m.cell? ⟨ak,0,none⟩=some (E fs)/\m.cell? ⟨ak,1,none⟩=some (C dx fj et))/\(m.cell? ⟨bi,0,none⟩=some (E ft)/\m.cell? ⟨bi,1,none⟩=some (C dz fk ew))/\(m.cell? ⟨B11,0,none⟩=some (E fv)/\m.cell? ⟨B11,1,none⟩=some (C ed fl f6))/\m.cell? ⟨w.heap.size+1,0,none⟩=some (E fx)/\m.cell? ⟨w.heap.size+1,1,none⟩=some (C ei fm f7)/\m.cell? ⟨w.heap.size+1,2,none⟩=some (E ga)/\m.cell? ⟨w.heap.size+1,3,none⟩=some (C eo fi f8)) (first|grind|(go_keep;done)|((repeat' apply Cy)<;>((repeat rw[JF O]);grind)))
   (first
    |(go_at_call 85;refine(B.o _ hq).mono ?_;clear B;rintro e w2 ⟨u2,rfl,Q,U⟩;have hq:=Bt hq U;have Qe:=(ae.below hq).ka;have Qb:=(ah.below hq).ka;have Qf:=(ai.below hq).ka;have Qc:=(aj.below hq).kb;have Qa:=(o.below hq).kb;have Qd:=(o.below hq).fb)
    |(go_at_call 70;refine(X.o _ hq).mono ?_;clear X;rintro e w3 ⟨u3,rfl,fc,bt⟩;have Q:=Q.below bt;have hq:=Bt hq bt;have Qe:=(ae.below hq).ka;have Qb:=(ah.below hq).ka;have Qf:=(ai.below hq).ka;have Qc:=(aj.below hq).kb;have Qa:=(o.below hq).kb;have Qd:=(o.below hq).fb)
    |(go_at_call 85;refine(H3.o _ _ hq fc).mono ?_;clear H3;rintro e w4 ⟨u4,rfl,fe,bu⟩;have Q:=Q.below bu;have hq:=Bt hq bu;have Qe:=(ae.below hq).ka;have Qb:=(ah.below hq).ka;have Qf:=(ai.below hq).ka;have Qc:=(aj.below hq).kb;have Qa:=(o.below hq).kb;have Qd:=(o.below hq).fb)
    |(go_at_call 69;refine(H4.o _ _ hq fe).mono ?_;clear H4;rintro e w5 ⟨u5,rfl,ff,ce⟩;have Q:=Q.below ce;have hq:=Bt hq ce;have Qe:=(ae.below hq).ka;have Qb:=(ah.below hq).ka;have Qf:=(ai.below hq).ka;have Qc:=(aj.below hq).kb;have Qa:=(o.below hq).kb;have Qd:=(o.below hq).fb)
    |(go_at_call 86;refine(H5.o _ _ _ Q ff).mono ?_;clear H5;rintro e w6 ⟨u6,rfl,di,f9⟩;obtain⟨jc,gl,io,gu,je,go,ig,gw,rfl⟩:=Jj.form di;have hq:=Bt hq f9;have Qe:=(ae.below hq).ka;have Qb:=(ah.below hq).ka;have Qf:=(ai.below hq).ka;have Qc:=(aj.below hq).kb;have Qa:=(o.below hq).kb;have Qd:=(o.below hq).fb))
  all_goals go_wp2_with fail
  have Ql:=Bt x.o.2.2 hq;have Qu:=x.o.ge 2 J;exact A0 (by simp[results,results34,go_sem,Qa]) J ⟨_,J,di.put4 (o.below hq) J J J J _ _ _ _,Jn Ql Qu _ _ _ _⟩
def dP(p q:Rat)(hp:Sq p)(hq:Sq q)(a up x y:Int)(b:((Int.gcd p.num (q.den:Int):Nat):Int)=a)(c:((Int.gcd q.num (p.den:Int):Nat):Int)=up)(d:p.num/a=x)(e:q.num/up=y):
 Sok a/\a≠0/\Sok up/\up≠0/\Sok x/\Sok y/\(p*q).num=x*y/\((p*q).den:Int)=p.den/up*(q.den/a):=by
 have hl:=ZW p q a up b.symm c.symm;have g:a≠0:=by rw[<-b];have:=Km (x:=p.num) (y:=q.den) (by have:=q.den_nz;omega);omega
 have f:up≠0:=by rw[<-c];have:=Km (x:=q.num) (y:=p.den) (by have:=p.den_nz;omega);omega
 refine⟨by rw[<-b];exact hp.num.gcd hq.den,g,by rw[<-c];exact hq.num.gcd hp.den,f,by rw[<-d];exact hp.num.div,by rw[<-e];exact hq.num.div,?_,hl.2⟩;rw[hl.1,d,e]
theorem Kn(va vb:D)(p q:Rat)(w:H)(ha:Jj w va p)(hb:Jj w vb q)(bi:Sq p)(bj:Sq q):
 F I 91 #[va,vb] w λe g=>∃u,e=.returned u/\Jj g u (p*q)/\Bl w g:=by
 obtain⟨s,a,l,c,t,b,k,d,rfl⟩:=Jj.form ha;obtain⟨s',a',l',c',t',b',k',d',rfl⟩:=Jj.form hb;have M0:=Mz w s t s' t' a b a' b' l c k d l' c' k' d' p q ha hb;obtain⟨W0,ay⟩:=ex (((w.alloc (G #[E s,C a l c,E t,C b k d] 37)).alloc (G #[E s',C a' l' c',E t',C b' k' d'] 37)).alloc (G #[E false,C none 0 0,E false,C none 0 0] 37));have Ql:=Y ay;rw[ay]at M0;obtain⟨M1,P,Q⟩:=DX M0 bi bj;clear M0 ha hb ay bi bj;go_enter func91,ntmps91
 go_upto_region 1 with fail
 rw[Ql.o];clear Ql;obtain⟨bb,bg⟩:=ex (decide (p.den=1/\q.den=1):Bool);have Qh:=Y bg;clear bg;go_cut [13] λc g=>c=E bb/\Hid (DH w g [some (w.heap.size,.rat p),some (w.heap.size+1,.rat q),some (w.heap.size+1+1,.rat 0)])
 case first=>
  obtain⟨s1,a1,l1,c1,t1,b1,k1,d1,n1,r1,i1,j1⟩:=M1.o.rat (i:=0) J;have Qr:=n1.kb;obtain⟨s2,a2,l2,c2,t2,b2,k2,d2,n2,r2,i2,j2⟩:=M1.o.rat (i:=1) J;have Qs:=n2.kb;have H1:=Y (Kl _ p W0 r1);have H2:=Y λ(V:H) (h:Bl W0 V)=>Kl _ q V (r2.below h);by_cases K:p.den=1
  . rw[BH K]at H1;obtain⟨b2,U⟩:=ex (decide (q.den=1));rw[U]at H2;have Qj:=Y (show b2=bb by rw[<-U,<-Qh.o];exact decide_eq_decide.2 ⟨λh=>⟨K,h⟩,λh=>h.2⟩);clear U K;go_wp2_with(first
     |(go_at_call 68;refine H1.o.mono ?_;clear H1;rintro e w1 ⟨rfl,ai⟩;have Qr:=(n1.below ai).kb;have Qs:=(n2.below ai).kb)
     |(go_at_call 68;refine(H2.o _ ai).mono ?_;clear H2;rintro e w2 ⟨rfl,U⟩))
    go_meet
    case rel=>exact⟨by rw[Qj.o],Y ((M1.o.below ai).below U)⟩
  . rw[BE K]at H1;have Qj:=Y (show bb=false by rw[<-Qh.o];exact BE λh=>K h.1);clear K;go_wp2_with(go_at_call 68;refine H1.o.mono ?_;clear H1;rintro e w1 ⟨rfl,ai⟩)
    go_meet
    case rel=>exact⟨by rw[Qj.o],Y (M1.o.below ai)⟩
 obtain⟨rfl,n⟩:=hcut;have M2:=n;clear M1 n;cases bb with
 |true=>
  have Qi:=Bb Qh.o;have HW:=Y (dN Qi.1 Qi.2);clear Qi Qh;obtain⟨s3,a3,l3,c3,t3,b3,k3,d3,n3,r3,i3,j3⟩:=M2.o.rat (i:=0) J;have fh:=n3.kb;obtain⟨s4,a4,l4,c4,t4,b4,k4,d4,n4,r4,i4,j4⟩:=M2.o.rat (i:=1) J;have fi:=n4.kb;obtain⟨s5,a5,l5,c5,t5,b5,k5,d5,n5,r5,i5,j5⟩:=M2.o.rat (i:=2) J;have Qp:=n5.kb;have Qt:=n5.fb;go_wp2_with(go_at_call 69;refine(XF _ _ p.num q.num _ i3 i4 (by have K:=P.o.num.words;have h2:=Q.o.num.words;omega)).mono ?_;rintro e w1 ⟨u,rfl,hu,hq⟩;obtain⟨ic,fk,gp,ft,rfl⟩:=Jm.form2 hu;have Qp:=(n5.below hq).kb;have Qt:=(n5.below hq).fb)
  have hr:=Jj.mk (by rw[HW.o.1];exact hu) (by rw[Mc.2 HW.o.2];exact ET _);have Qk:=Bt M2.o.2.2 hq;exact A0 (by simp[results,results91,go_sem,Qp]) J ⟨_,J,hr.put4 (n5.below hq) J J J J _ _ _ _,Jn Qk O _ _ _ _⟩
 |false=>
  clear Qh;obtain⟨z,bh⟩:=ex (((Int.gcd p.num (q.den:Int):Nat):Int):Int);have Qm:=Y bh;clear bh;obtain⟨up,bk⟩:=ex (((Int.gcd q.num (p.den:Int):Nat):Int):Int);have Qn:=Y bk;clear bk;obtain⟨x,hx⟩:=ex (p.num/z:Int);have HX:=Y hx;clear hx;obtain⟨y,hy⟩:=ex (q.num/up:Int);have HY:=Y hy;clear hy;obtain⟨S1,S2,S3,S4,S5,S6,S7,S8⟩:=dP p q P.o Q.o z up x y Qm.o Qn.o HX.o HY.o;obtain⟨T1,T2,T3,T4,T5,T6,T7,T8⟩:=FZ S1 S2 S3 S4 S5 S6 S7 S8;clear S1 S2 S3 S4 S5 S6 S7 S8;go_upto_region 3 with fail
  refine EU Dl [[],[0],[],[2],[1,3,3],[],[5],[],[7,4],[6,8,8],[],[],[10,4,9,0,1,2,3,4,10,11],[11,9,12,0,1,2,3,4,5,6,7,8,9,10,11,12]] [.eq (L (some ⟨w.heap.size,0,none⟩)),.int (Rat.num (p)),.rat q,.int ((q.den:Int)),.int z,.eq (L (some ⟨w.heap.size+1,0,none⟩)),.int (Rat.num (q)),.rat p,.int ((p.den:Int)),.int up,.ptr,.ptr,.eq N,.eq N] [10,11,12,13] (λb v V=>DH w V [some (w.heap.size,.rat p),some (w.heap.size+1,.rat q),some (w.heap.size+1+1,.rat 0),nb b v 0 2 (.int 0) (.int z),nb b v 1 3 (.int 0) (.int up)]) ((M2.o.none).none).drew (No (.vl J λ_ _=>⟨_,by refine DT ?_;go_simp,J⟩)<|No (.vl J λh j=>Kj 0 j (hp:=h.e 0))<|No (.vl J λ_ j=>F3 1 j)<|No (.cl λh _=>F4 _ q _ (h.g 2))<|No (.cl λh _=>(by have h:=KA _ _ p.num (q.den:Int) _ (h.g 1) (h.g 3) (by have:=P.o.num.words;omega) (by have:=Q.o.den.words;omega);rw[Qm.o]at h;exact h))<|No (.vl J λ_ _=>⟨_,by refine DT ?_;go_simp,J⟩)<|No (.vl J λh j=>Kj 1 j (hp:=h.e 5))<|No (.vl J λ_ j=>F3 0 j)<|No (.cl λh _=>F4 _ p _ (h.g 7))<|No (.cl λh _=>(by have h:=KA _ _ q.num (p.den:Int) _ (h.g 6) (h.g 8) (by have:=Q.o.num.words;omega) (by have:=P.o.den.words;omega);rw[Qn.o]at h;exact h))<|No (.wr J λ_ j=>Hy 3 j)<|No (.wr J λ_ j=>Hy 4 j)<|No (.wr J λh j=>Gs 3 j (h.g 4) (hp:=h.g 10))<|No (.wr J λh j=>Gs 4 j (h.g 9) (hp:=h.g 11)) Stp.end_)
   λf V7 hF n=>?_
  refine DT ?_;rw[hF.e 0,hF.e 5];obtain⟨B8,ap⟩:=hF.p 10;obtain⟨B9,aq⟩:=hF.p 11;have n:=Ei n;simp only[ap,aq]at n;rw[ap,aq];have M3:=Y n;clear n hF ap aq;clear M2;go_upto_region 4 with fail
  refine EU Dl [[],[0],[],[1,2],[],[4],[],[5,6,3],[3,7,7],[],[9,8,8,0,1,2,3,4,5,6,7,8,9]] [.eq (L (some ⟨w.heap.size,0,none⟩)),.int (Rat.num (p)),.int z,.int x,.eq (L (some ⟨w.heap.size+1,0,none⟩)),.int (Rat.num (q)),.int up,.int y,.int (x*y),.ptr,.eq N] [9,10] (λb v V=>DH w V [some (w.heap.size,.rat p),some (w.heap.size+1,.rat q),some (w.heap.size+1+1,.rat 0),some (B8,.int z),some (B9,.int up),nb b v 0 1 (.int 0) (.int (x*y))]) (M3.o.none).drew (No (.vl J λ_ _=>⟨_,by refine DT ?_;go_simp,J⟩)<|No (.vl J λh j=>Kj 0 j (hp:=h.e 0))<|No (.vl J λ_ j=>Gr 3 j)<|No (.cl λh _=>(by have h:=GY _ _ p.num z _ (h.g 1) (h.g 2) T2.o P.o.num T1.o;rw[HX.o]at h;exact h))<|No (.vl J λ_ _=>⟨_,by refine DT ?_;go_simp,J⟩)<|No (.vl J λh j=>Kj 1 j (hp:=h.e 4))<|No (.vl J λ_ j=>Gr 4 j)<|No (.cl λh _=>(by have h:=GY _ _ q.num up _ (h.g 5) (h.g 6) T4.o Q.o.num T3.o;rw[HY.o]at h;exact h))<|No (.cl λh _=>XF _ _ x y _ (h.g 3) (h.g 7) (by have:=T5.o.words;have:=T6.o.words;omega))<|No (.wr J λ_ j=>Hy 5 j)<|No (.wr J λh j=>Gs 5 j (h.g 8) (hp:=h.g 9)) Stp.end_)
   λf A hF n=>?_
  refine DT ?_;rw[hF.e 0,hF.e 4];obtain⟨B12,an⟩:=hF.p 9;have n:=Ei n;simp only[an]at n;rw[an];have o:=Y n;clear n hF an;clear M3;go_upto_region 5 with fail
  obtain⟨f7,bm,dz,cn,W,dm⟩:=o.o.int (i:=5) J;have Qb:=W.ka;obtain⟨f8,bn,ed,co,ff,cj,dw,dj,X,ew,gb,gi⟩:=o.o.rat (i:=0) J;have Qf:=X.kb;obtain⟨f9,bt,ei,de,ad,dt⟩:=o.o.int (i:=4) J;have Qd:=ad.ka;obtain⟨fc,bu,eo,dh,fg,ck,dx,dk,ae,f6,gg,gj⟩:=o.o.rat (i:=1) J;have Qc:=ae.kb;obtain⟨fe,ce,et,di,ah,du⟩:=o.o.int (i:=3) J;have Qe:=ah.ka;obtain⟨ib,fj,go,fs,ig,fm,gl,fx,m,ia,gh,gk⟩:=o.o.rat (i:=2) J;have R:=m.kb;have Qg:=m.fb;obtain⟨H2,H4,H6,H8,H9,Qo⟩:=IU (λ(V:H) (h:Bl A V)=>F4 _ p V (ew.below h)) (λ(V:H) (h:Bl A V) (v2:D) (r:Jm V v2 ((p.den:Int)))=>GY _ _ (p.den:Int) up V r (dt.below h) T4.o P.o.den T3.o) (λ(V:H) (h:Bl A V)=>F4 _ q V (f6.below h)) (λ(V:H) (h:Bl A V) (v6:D) (B:Jm V v6 ((q.den:Int)))=>GY _ _ (q.den:Int) z V B (du.below h) T2.o Q.o.den T1.o) (λ(V:H) (h:Bl A V) (v4:D) (g4:Jm V v4 ((p.den:Int)/up)) (v8:D) (T:Jm V v8 ((q.den:Int)/z))=>XF _ _ ((p.den:Int)/up) ((q.den:Int)/z) V g4 T (by have K:=(Sok.div (y:=up) P.o.den).words;have h2:=(Sok.div (y:=z) Q.o.den).words;omega)) λ(V:H) (h:Bl A V) (v9:D) (g9:Jm V v9 ((p.den:Int)/up*((q.den:Int)/z)))=>My _ _ (p*q) V (by rw[T7.o];exact(dm.below h)) (by rw[T8.o];exact g9);have gy:=o.o.ne 5 2 J J DK;have gr:=o.o.ne 0 2 J J DK;have gw:=o.o.ne 4 2 J J DK;have gu:=o.o.ne 1 2 J J DK;have gv:=o.o.ne 3 2 J J DK;have hq:Bl A A.drew:=(BA _ A).drew;go_region_held3 (λg=>(g.cell? ⟨B12,0,none⟩=some (E f7)/\g.cell? ⟨B12,1,none⟩=some (C bm dz cn))/\(g.cell? ⟨w.heap.size,0,none⟩=some (E f8)/\g.cell? ⟨w.heap.size,1,none⟩=some (C bn ed co)/\g.cell? ⟨w.heap.size,2,none⟩=some (E ff)/\g.cell? ⟨w.heap.size,3,none⟩=some (C cj dw dj))/\(g.cell? ⟨B9,0,none⟩=some (E f9)/\g.cell? ⟨B9,1,none⟩=some (C bt ei de))/\(g.cell? ⟨w.heap.size+1,0,none⟩=some (E fc)/\g.cell? ⟨w.heap.size+1,1,none⟩=some (C bu eo dh)/\g.cell? ⟨w.heap.size+1,2,none⟩=some (E fg)/\g.cell? ⟨w.heap.size+1,3,none⟩=some (C ck dx dk))/\g.cell? ⟨B8,0,none⟩=some (E fe)/\g.cell? ⟨B8,1,none⟩=some (C ce et di)) (first|grind|(go_keep;done)|((repeat' apply Cy)<;>((repeat rw[JF O]);grind)))
   (first
    |(go_at_call 70;refine(H2.o _ hq ).mono ?_;clear H2;rintro e w2 ⟨v2,rfl,r,U⟩;have hq:=Bt hq U;have Qb:=(W.below hq).ka;have Qf:=(X.below hq).kb;have Qd:=(ad.below hq).ka;have Qc:=(ae.below hq).kb;have Qe:=(ah.below hq).ka;have R:=(m.below hq).kb;have Qg:=(m.below hq).fb)
    |(go_at_call 85;refine(H4.o _ hq _ r).mono ?_;clear H4;rintro e w4 ⟨v4,rfl,g4,bf⟩;have r:=r.below bf;have hq:=Bt hq bf;have Qb:=(W.below hq).ka;have Qf:=(X.below hq).kb;have Qd:=(ad.below hq).ka;have Qc:=(ae.below hq).kb;have Qe:=(ah.below hq).ka;have R:=(m.below hq).kb;have Qg:=(m.below hq).fb)
    |(go_at_call 70;refine(H6.o _ hq ).mono ?_;clear H6;rintro e w6 ⟨v6,rfl,B,az⟩;have r:=r.below az;have g4:=g4.below az;have hq:=Bt hq az;have Qb:=(W.below hq).ka;have Qf:=(X.below hq).kb;have Qd:=(ad.below hq).ka;have Qc:=(ae.below hq).kb;have Qe:=(ah.below hq).ka;have R:=(m.below hq).kb;have Qg:=(m.below hq).fb)
    |(go_at_call 85;refine(H8.o _ hq _ B).mono ?_;clear H8;rintro e w8 ⟨v8,rfl,T,am⟩;have r:=r.below am;have g4:=g4.below am;have B:=B.below am;have hq:=Bt hq am;have Qb:=(W.below hq).ka;have Qf:=(X.below hq).kb;have Qd:=(ad.below hq).ka;have Qc:=(ae.below hq).kb;have Qe:=(ah.below hq).ka;have R:=(m.below hq).kb;have Qg:=(m.below hq).fb)
    |(go_at_call 69;refine(H9.o _ hq _ g4 _ T).mono ?_;clear H9;rintro e w9 ⟨v9,rfl,g9,ak⟩;have r:=r.below ak;have g4:=g4.below ak;have B:=B.below ak;have T:=T.below ak;have hq:=Bt hq ak;have Qb:=(W.below hq).ka;have Qf:=(X.below hq).kb;have Qd:=(ad.below hq).ka;have Qc:=(ae.below hq).kb;have Qe:=(ah.below hq).ka;have R:=(m.below hq).kb;have Qg:=(m.below hq).fb)
    |(go_at_call 86;refine(Qo.o _ hq _ g9).mono ?_;clear Qo;rintro e il ⟨ij,rfl,bc,aj⟩;obtain⟨ie,fl,gq,fv,ii,fo,gn,ga,rfl⟩:=Jj.form bc;have r:=r.below aj;have g4:=g4.below aj;have B:=B.below aj;have T:=T.below aj;have g9:=g9.below aj;have hq:=Bt hq aj;have Qb:=(W.below hq).ka;have Qf:=(X.below hq).kb;have Qd:=(ad.below hq).ka;have Qc:=(ae.below hq).kb;have Qe:=(ah.below hq).ka;have R:=(m.below hq).kb;have Qg:=(m.below hq).fb))
  all_goals go_wp2_with fail
  have Qk:=Bt o.o.2.2 hq;have Qq:=o.o.ge 2 J;exact A0 (by simp[results,results91,go_sem,R]) J ⟨_,J,bc.put4 (m.below hq) J J J J _ _ _ _,Jn Qk Qq _ _ _ _⟩
def M9(T U:D)(x y:Int)(w:H)(r:Jm w T x)(v:Jm w U y)(A:Sok x)(B:Sok y):
 F I 28 #[T,U] w λe W=>∃u,e=.returned (.tuple #[u,E (decide (y≠0))])/\Jj W u (nM x y)/\Bl w W:=by
 have HX:=Y A;have HY:=Y B;clear A B;obtain⟨s,a,la,ca,rfl⟩:=Jm.form2 r;obtain⟨t,b,lb,cb,rfl⟩:=Jm.form2 v;have m:=PJ w s t a b la ca lb cb _ _ r v;obtain⟨W0,q⟩:=ex (((w.alloc (G #[E s,C a la ca] 35)).alloc (G #[E t,C b lb cb] 35)).alloc (G #[E false,C none 0 0,E false,C none 0 0] 37));have z:=Y q;rw[q]at m;have f:=Y m;clear m r v q;obtain⟨s1,a1,l1,c1,Q,i1⟩:=f.o.int (i:=0) J;have Qf:=Q.ka;obtain⟨s2,a2,l2,c2,R,P⟩:=f.o.int (i:=1) J;have Qg:=R.ka;obtain⟨s3,a3,l3,c3,t3,b3,k3,d3,d,r3,i3,j3⟩:=f.o.rat (i:=2) J;have j:=d.kb;have n:=d.fb;have k:=Y (TA _ y W0 P);have g:=Y λ(V:H) (h:Bl W0 V) (c:y≠0)=>TC _ _ x y V (i1.below h) (P.below h) c HX.o HY.o;by_cases c:y=0
 . rw[BH c]at k;have l:=Y (BE (p:=y≠0) λh=>h c);rw[l.o];have HE:=Y (show nM x y=0 by rw[c,Rat.divInt_zero]);clear c g;go_enter func28,ntmps28
   go_upto_region 1 with fail
   rw[z.o];go_wp2_with(go_at_call 71;refine k.o.mono ?_;rintro e X ⟨rfl,hq⟩;have j:=(d.below hq).kb;have n:=(d.below hq).fb)
   have hr:Jj X (S #[E false,C none 0 0,E false,C none 0 0]) (nM x y):=by rw[HE.o];exact D8 _
   have o:=Bt f.o.2.2 hq;exact A0 (by simp[results,results28,go_sem,j]) J ⟨_,J,hr.put4 (d.below hq) J J J J _ _ _ _,Jn o O _ _ _ _⟩
 . rw[BE c]at k;have l:=Y (BH (p:=y≠0) c);rw[l.o];have g:=Y λV h=>g.o V h c;clear c;go_enter func28,ntmps28
   go_upto_region 1 with fail
   rw[z.o];go_wp2_with(first
    |(go_at_call 71;refine k.o.mono ?_;rintro e X ⟨rfl,hq⟩;have Qf:=(Q.below hq).ka;have Qg:=(R.below hq).ka;have j:=(d.below hq).kb;have n:=(d.below hq).fb)
    |(go_at_call 65;refine(g.o _ hq).mono ?_;clear g;rintro e w2 ⟨u2,rfl,K,ad⟩;obtain⟨an,ae,am,ai,ap,ah,ak,aj,rfl⟩:=Jj.form K;have hq:=Bt hq ad;have j:=(d.below hq).kb;have n:=(d.below hq).fb))
   have o:=Bt f.o.2.2 hq;have Qe:=f.o.ge 2 J;exact A0 (by simp[results,results28,go_sem,j]) J ⟨_,J,K.put4 (d.below hq) J J J J _ _ _ _,Jn o Qe _ _ _ _⟩
def dQ(p q:Rat):decide ((p.den:Int)*q.num≠0)=decide (q≠0):=by
 refine decide_eq_decide.2 (not_congr ⟨λh=>?_,λh=>?_⟩)
 . rcases Int.mul_eq_zero.1 h with h|h
   . have:=p.den_nz;omega
   . exact C4.1 h
 . rw[h];exact Int.mul_zero _
theorem dR(va vb:D)(p q:Rat)(w:H)(U:Jj w va p)(W:Jj w vb q)(ai:Sq p)(aj:Sq q):
 F I 75 #[va,vb] w λe j=>∃u,e=.returned (.tuple #[u,E (decide (q≠0))])/\Jj j u (p/q)/\Bl w j:=by
 obtain⟨bq,ad⟩:=ex (decide (q≠0));have Qh:=Y ((dQ p q).trans ad);rw[ad];clear ad;obtain⟨s,a,l,c,t,b,k,d,rfl⟩:=Jj.form U;obtain⟨s',a',l',c',t',b',k',d',rfl⟩:=Jj.form W;have R:=Mz w s t s' t' a b a' b' l c k d l' c' k' d' p q U W;obtain⟨W0,T⟩:=ex (((w.alloc (G #[E s,C a l c,E t,C b k d] 37)).alloc (G #[E s',C a' l' c',E t',C b' k' d'] 37)).alloc (G #[E false,C none 0 0,E false,C none 0 0] 37));have Qe:=Y T;rw[T]at R;obtain⟨m,K,P⟩:=DX R ai aj;clear R U W T ai aj;go_enter func75,ntmps75
 go_upto_region 1 with fail
 rw[Qe.o];clear Qe;obtain⟨s1,a1,l1,c1,t1,b1,k1,d1,r,r1,i1,j1⟩:=m.o.rat (i:=0) J;have x:=r.kb;obtain⟨s2,a2,l2,c2,t2,b2,k2,d2,v,r2,i2,j2⟩:=m.o.rat (i:=1) J;have z:=v.kb;obtain⟨s3,a3,l3,c3,t3,b3,k3,d3,f,r3,i3,j3⟩:=m.o.rat (i:=2) J;have o:=f.kb;have y:=f.fb;obtain⟨H3,H4,H6,H9,Qf⟩:=Gn (λ(V:H) (h:Bl W0 V)=>F4 _ q V (r2.below h)) (λ(V:H) (h:Bl W0 V) (v3:D) (g:Jm V v3 ((q.den:Int)))=>XF _ _ p.num (q.den:Int) V (i1.below h) g (by have h1:=K.o.num.words;have h2:=P.o.den.words;omega)) (λ(V:H) (h:Bl W0 V)=>F4 _ p V (r1.below h)) (λ(V:H) (h:Bl W0 V) (v6:D) (n:Jm V v6 ((p.den:Int)))=>XF _ _ (p.den:Int) q.num V n (i2.below h) (by have h1:=K.o.den.words;have h2:=P.o.num.words;omega)) λ(V:H) (h:Bl W0 V) (v4:D) (g4:Jm V v4 (p.num*(q.den:Int))) (v9:D) (A:Jm V v9 ((p.den:Int)*q.num))=>(by have h:=M9 _ _ (p.num*(q.den:Int)) ((p.den:Int)*q.num) V g4 A (K.o.cross P.o) (K.o.cross2 P.o);rw[Qh.o,Oe]at h;exact h);have bc:=m.o.ne 0 2 J J DK;have bf:=m.o.ne 1 2 J J DK;have hq:Bl W0 W0.drew:=(BA _ W0).drew;go_region_held3 (λj=>(j.cell? ⟨w.heap.size,0,none⟩=some (E s1)/\j.cell? ⟨w.heap.size,1,none⟩=some (C a1 l1 c1)/\j.cell? ⟨w.heap.size,2,none⟩=some (E t1)/\j.cell? ⟨w.heap.size,3,none⟩=some (C b1 k1 d1))/\j.cell? ⟨w.heap.size+1,0,none⟩=some (E s2)/\j.cell? ⟨w.heap.size+1,1,none⟩=some (C a2 l2 c2)/\j.cell? ⟨w.heap.size+1,2,none⟩=some (E t2)/\j.cell? ⟨w.heap.size+1,3,none⟩=some (C b2 k2 d2)) (first|grind|(go_keep;done)|((repeat' apply Cy)<;>((repeat rw[JF O]);grind)))
  (first
   |(go_at_call 70;refine(H3.o _ hq ).mono ?_;clear H3;rintro e w3 ⟨v3,rfl,g,ak⟩;have hq:=Bt hq ak;have x:=(r.below hq).kb;have z:=(v.below hq).kb;have o:=(f.below hq).kb;have y:=(f.below hq).fb)
   |(go_at_call 69;refine(H4.o _ hq _ g).mono ?_;clear H4;rintro e w4 ⟨v4,rfl,g4,ah⟩;have g:=g.below ah;have hq:=Bt hq ah;have x:=(r.below hq).kb;have z:=(v.below hq).kb;have o:=(f.below hq).kb;have y:=(f.below hq).fb)
   |(go_at_call 70;refine(H6.o _ hq ).mono ?_;clear H6;rintro e w6 ⟨v6,rfl,n,X⟩;have g:=g.below X;have g4:=g4.below X;have hq:=Bt hq X;have x:=(r.below hq).kb;have z:=(v.below hq).kb;have o:=(f.below hq).kb;have y:=(f.below hq).fb)
   |(go_at_call 69;refine(H9.o _ hq _ n).mono ?_;clear H9;rintro e w9 ⟨v9,rfl,A,Q⟩;have g:=g.below Q;have g4:=g4.below Q;have n:=n.below Q;have hq:=Bt hq Q;have x:=(r.below hq).kb;have z:=(v.below hq).kb;have o:=(f.below hq).kb;have y:=(f.below hq).fb)
   |(go_at_call 28;refine(Qf.o _ hq _ g4 _ A).mono ?_;clear Qf;rintro e bj ⟨bi,rfl,ae,B⟩;obtain⟨bg,am,az,ap,bh,an,ay,aq,rfl⟩:=Jj.form ae;have g:=g.below B;have g4:=g4.below B;have n:=n.below B;have A:=A.below B;have hq:=Bt hq B;have x:=(r.below hq).kb;have z:=(v.below hq).kb;have o:=(f.below hq).kb;have y:=(f.below hq).fb))
 all_goals go_wp2_with fail
 have Qi:=Bt m.o.2.2 hq;have Qg:=m.o.ge 2 J;exact A0 (by simp[results,results75,go_sem,o]) J ⟨_,J,ae.put4 (f.below hq) J J J J _ _ _ _,Jn Qi Qg _ _ _ _⟩
def Ej(p q:Rat):Int:=XN (p.num*q.den) (q.num*p.den)
theorem NA(va vb:D)(p q:Rat)(w:H)(ha:Jj w va p)(hb:Jj w vb q)(aj:Sq p)(ak:Sq q):
 F I 27 #[va,vb] w λe f=>e=.returned (.int .i64 (Ej p q))/\Bl w f:=by
 obtain⟨s,a,l,c,t,b,k,d,rfl⟩:=Jj.form ha;obtain⟨s',a',l',c',t',b',k',d',rfl⟩:=Jj.form hb;have W:=dL w s t s' t' a b a' b' l c k d l' c' k' d' p q ha hb;obtain⟨W0,ad⟩:=ex ((w.alloc (G #[E s,C a l c,E t,C b k d] 37)).alloc (G #[E s',C a' l' c',E t',C b' k' d'] 37));have Qf:=Y ad;rw[ad]at W;have y:=Y W;obtain⟨n,hn⟩:=ex (Ej p q);have HN:=Y hn;rw[hn];have HP:=Y aj;have HQ:=Y ak;clear W ha hb ad aj ak hn;go_enter func27,ntmps27
 go_upto_region 1 with fail
 rw[Qf.o];clear Qf;obtain⟨R,ai⟩:=ex (decide (p.den=1/\q.den=1):Bool);have B:=Y ai;clear ai;go_cut [10] λc f=>c=E R/\Hid (DH w f [some (w.heap.size,.rat p),some (w.heap.size+1,.rat q)])
 case first=>
  obtain⟨s1,a1,l1,c1,t1,b1,k1,d1,n1,r1,i1,j1⟩:=y.o.rat (i:=0) J;have Qh:=n1.kb;obtain⟨s2,a2,l2,c2,t2,b2,k2,d2,n2,r2,i2,j2⟩:=y.o.rat (i:=1) J;have Qi:=n2.kb;have j:=Y (Kl _ p W0 r1);have U:=Y λ(V:H) (h:Bl W0 V)=>Kl _ q V (r2.below h);by_cases r:p.den=1
  . rw[BH r]at j;obtain⟨b2,Q⟩:=ex (decide (q.den=1));rw[Q]at U;have Qe:=Y (show b2=R by rw[<-Q,<-B.o];grind);clear Q r;go_wp2_with(first
     |(go_at_call 68;refine j.o.mono ?_;clear j;rintro e w1 ⟨rfl,u⟩;have Qh:=(n1.below u).kb;have Qi:=(n2.below u).kb)
     |(go_at_call 68;refine(U.o _ u).mono ?_;clear U;rintro e w2 ⟨rfl,Q⟩))
    go_meet
    case rel=>exact⟨by rw[Qe.o],Y ((y.o.below u).below Q)⟩
  . rw[BE r]at j;have Qe:=Y (show R=false by rw[<-B.o];grind);clear r;go_wp2_with(go_at_call 68;refine j.o.mono ?_;clear j;rintro e w1 ⟨rfl,u⟩)
    go_meet
    case rel=>exact⟨by rw[Qe.o],Y (y.o.below u)⟩
 obtain⟨rfl,MM⟩:=hcut;have o:=MM;clear y MM;cases R with
 |true=>
  have X:=Bb B.o;have HE:=Y (show XN p.num q.num=n by rw[<-HN.o];unfold Ej;rw[X.1,X.2];simp);clear X B;obtain⟨s3,a3,l3,c3,t3,b3,k3,d3,n3,r3,i3,j3⟩:=o.o.rat (i:=0) J;have an:=n3.kb;obtain⟨s4,a4,l4,c4,t4,b4,k4,d4,n4,r4,i4,j4⟩:=o.o.rat (i:=1) J;have ap:=n4.kb;have j:=Y (I5 _ _ p.num q.num wc i3 i4);rw[HE.o]at j;go_wp2_with(go_at_call 64;refine j.o.mono ?_;clear j;rintro e w1 ⟨rfl,hq⟩)
  go_ret;exact⟨J,Bt o.o.2.2 hq⟩
 |false=>
  clear B;go_upto_region 3 with fail
  obtain⟨s5,a5,l5,c5,t5,b5,k5,d5,v,r5,i5,j5⟩:=o.o.rat (i:=0) J;have A:=v.kb;obtain⟨s6,a6,l6,c6,t6,b6,k6,d6,x,r6,i6,j6⟩:=o.o.rat (i:=1) J;have z:=x.kb;obtain⟨H3,H4,H8,H9,Qg⟩:=Gn (λ(V:H) (h:Bl wc V)=>F4 _ q V (r6.below h)) (λ(V:H) (h:Bl wc V) (v3:D) (g:Jm V v3 ((q.den:Int)))=>XF _ _ p.num (q.den:Int) V (i5.below h) g (by have r:=HP.o.num.words;have h2:=HQ.o.den.words;omega)) (λ(V:H) (h:Bl wc V)=>F4 _ p V (r5.below h)) (λ(V:H) (h:Bl wc V) (v8:D) (m:Jm V v8 ((p.den:Int)))=>XF _ _ q.num (p.den:Int) V (i6.below h) m (by have r:=HQ.o.num.words;have h2:=HP.o.den.words;omega)) λ(V:H) (h:Bl wc V) (v4:D) (g4:Jm V v4 (p.num*(q.den:Int))) (v9:D) (K:Jm V v9 (q.num*(p.den:Int)))=>(by have h:=I5 _ _ (p.num*(q.den:Int)) (q.num*(p.den:Int)) V g4 K;rw[show XN (p.num*(q.den:Int)) (q.num*(p.den:Int))=n from HN.o]at h;exact h);have hq:Bl wc wc.drew:=(BA _ wc).drew;go_region_held3 (λf=>(f.cell? ⟨w.heap.size,0,none⟩=some (E s5)/\f.cell? ⟨w.heap.size,1,none⟩=some (C a5 l5 c5)/\f.cell? ⟨w.heap.size,2,none⟩=some (E t5)/\f.cell? ⟨w.heap.size,3,none⟩=some (C b5 k5 d5))/\f.cell? ⟨w.heap.size+1,0,none⟩=some (E s6)/\f.cell? ⟨w.heap.size+1,1,none⟩=some (C a6 l6 c6)/\f.cell? ⟨w.heap.size+1,2,none⟩=some (E t6)/\f.cell? ⟨w.heap.size+1,3,none⟩=some (C b6 k6 d6)) (first|grind|(go_keep;done)|((repeat' apply Cy)<;>((repeat rw[JF O]);first|(simp only[*];done)|(go_keep;done))))
   (first
    |(go_at_call 70;refine(H3.o _ hq ).mono ?_;clear H3;rintro e w3 ⟨v3,rfl,g,am⟩;have hq:=Bt hq am;have A:=(v.below hq).kb;have z:=(x.below hq).kb)
    |(go_at_call 69;refine(H4.o _ hq _ g).mono ?_;clear H4;rintro e w4 ⟨v4,rfl,g4,ah⟩;have g:=g.below ah;have hq:=Bt hq ah;have A:=(v.below hq).kb;have z:=(x.below hq).kb)
    |(go_at_call 70;refine(H8.o _ hq ).mono ?_;clear H8;rintro e w8 ⟨v8,rfl,m,ae⟩;have g:=g.below ae;have g4:=g4.below ae;have hq:=Bt hq ae;have A:=(v.below hq).kb;have z:=(x.below hq).kb)
    |(go_at_call 69;refine(H9.o _ hq _ m).mono ?_;clear H9;rintro e w9 ⟨v9,rfl,K,T⟩;have g:=g.below T;have g4:=g4.below T;have m:=m.below T;have hq:=Bt hq T;have A:=(v.below hq).kb;have z:=(x.below hq).kb)
    |(go_at_call 64;refine(Qg.o _ hq _ g4 _ K).mono ?_;clear Qg;rintro e aq ⟨rfl,P⟩;have g:=g.below P;have g4:=g4.below P;have m:=m.below P;have K:=K.below P;have hq:=Bt hq P;have A:=(v.below hq).kb;have z:=(x.below hq).kb))
  all_goals go_wp2_with fail
  go_ret;exact⟨J,Bt o.o.2.2 hq⟩
theorem NB(va vb:D)(p q:Rat)(w:H)(v:Jj w va p)(x:Jj w vb q)(ad:Sq p)(ae:Sq q):
 F I 26 #[va,vb] w λe f=>∃u,e=.returned u/\Jj f u (p-q)/\Bl w f:=by
 obtain⟨s,a,l,c,t,b,k,d,rfl⟩:=Jj.form v;obtain⟨s',a',l',c',t',W,k',d',rfl⟩:=Jj.form x;have n:=Mz w s t s' t' a b a' W l c k d l' c' k' d' p q v x;obtain⟨W0,r⟩:=ex (((w.alloc (G #[E s,C a l c,E t,C b k d] 37)).alloc (G #[E s',C a' l' c',E t',C W k' d'] 37)).alloc (G #[E false,C none 0 0,E false,C none 0 0] 37));have P:=Y r;rw[r]at n;obtain⟨j,HP,K⟩:=DX n ad ae;clear n v x r ad ae;go_enter func26,ntmps26
 go_upto_region 1 with fail
 rw[P.o];clear P;obtain⟨s1,U,l1,c1,t1,X,k1,d1,y,r1,i1,j1⟩:=j.o.rat (i:=0) J;have Q:=y.kb;obtain⟨s2,a2,l2,c2,t2,b2,k2,d2,z,r2,i2,j2⟩:=j.o.rat (i:=1) J;have T:=z.kb;obtain⟨s3,a3,l3,c3,t3,b3,k3,d3,m,r3,i3,j3⟩:=j.o.rat (i:=2) J;have o:=m.kb;have R:=m.fb;have A:=Y λ(V:H) (h:Bl W0 V)=>Sr _ _ 0 q.num V (ET _) (i2.below h) (by have:=Sok.zero.words;omega) (by have:=K.o.num.words;omega);have B:=Y (λ(V:H) (h:Bl W0 V) (s:Bool) (a:Option M) (l c:Nat) (g:Jm V (S #[E s,C a l c]) (0-q.num))=>show F I 34 #[S #[E s1,C U l1 c1,E t1,C X k1 d1],S #[E s,C a l c,E t2,C b2 k2 d2]] V λe f=>∃u,e=.returned u/\Jj f u (p-q)/\Bl V f by
  have h1:=M8 _ _ p (-q) V (r1.below h) (Jj.mk (q:=-q) (by rw[Rat.neg_num,<-Int.zero_sub];exact g) (j2.below h)) HP.o K.o.neg;rw[<-Fq]at h1;exact h1)
 have bh:=j.o.ne 0 2 J J DK;have bi:=j.o.ne 1 2 J J DK;have hq:Bl W0 W0.drew:=(BA _ W0).drew;go_region_held3 (λf=>(f.cell? ⟨w.heap.size,0,none⟩=some (E s1)/\f.cell? ⟨w.heap.size,1,none⟩=some (C U l1 c1)/\f.cell? ⟨w.heap.size,2,none⟩=some (E t1)/\f.cell? ⟨w.heap.size,3,none⟩=some (C X k1 d1))/\f.cell? ⟨w.heap.size+1,0,none⟩=some (E s2)/\f.cell? ⟨w.heap.size+1,1,none⟩=some (C a2 l2 c2)/\f.cell? ⟨w.heap.size+1,2,none⟩=some (E t2)/\f.cell? ⟨w.heap.size+1,3,none⟩=some (C b2 k2 d2)) (first|grind|(go_keep;done)|grind[JF])
  (first
   |(go_at_call 67;refine(A.o _ hq).mono ?_;clear A;rintro e w1 ⟨u1,rfl,ah,aj⟩;obtain⟨bj,am,bf,aq,rfl⟩:=Jm.form2 ah;have hq:=Bt hq aj;have Q:=(y.below hq).kb;have T:=(z.below hq).kb;have o:=(m.below hq).kb;have R:=(m.below hq).fb)
   |(go_at_call 34;refine(B.o _ hq _ _ _ _ ah).mono ?_;clear B;rintro e w2 ⟨u2,rfl,ai,ak⟩;obtain⟨bk,an,bg,ay,bm,ap,bc,az,rfl⟩:=Jj.form ai;have hq:=Bt hq ak;have Q:=(y.below hq).kb;have T:=(z.below hq).kb;have o:=(m.below hq).kb;have R:=(m.below hq).fb))
 all_goals go_wp2_with fail
 have Qg:=Bt j.o.2.2 hq;have Qf:=j.o.ge 2 J;exact A0 (by simp[results,results26,go_sem,o]) J ⟨_,J,ai.put4 (m.below hq) J J J J _ _ _ _,Jn Qg Qf _ _ _ _⟩
end
section
variable{qs:Ja}{cap l:Nat}{a:Option M}
theorem dS(q:Rat):Ej q 0=0↔q=0:=by
 grind[Rat.eq_iff_mul_eq_mul,Ej,XN]
def KB:Sq 0:=Sq.of (k:=1) ⟨Sm.zero _,Sm.one _ O⟩ O
def dT(v:D)(q:Rat)(w:H)(h:Jj w v q)(hq:Sq q):
 F I 93 #[v] w λe r=>e=.returned (E (decide (q=0)))/\Bl w r:=by
 obtain⟨s,a,l,c,t,b,k,d,rfl⟩:=h.form;have b0:=JB.new w 37 (E s) (C a l c) (E t) (C b k d);have f:Bl w (w.alloc (G #[E s,C a l c,E t,C b k d] 37)):=Ba w _;obtain⟨W0,g⟩:=ex (w.alloc (G #[E s,C a l c,E t,C b k d] 37));rw[g]at b0 f;have o:=Y g;have i:=Y (NA _ _ q 0 W0 (h.below f) (D8 _) hq KB);obtain⟨u,x,y,z⟩:=b0.cq;have j:=Y (dS q);obtain⟨n,m⟩:=ex (Ej q 0);rw[m]at i j;clear g m;go_enter func93,ntmps93
 go_upto_region 1 with fail
 rw[o.o];go_wp2_with(go_at_call 27;refine i.o.mono ?_;rintro e A ⟨rfl,p⟩)
 go_ret;refine⟨?_,Bt f p⟩;show Ending.returned (Value.bool (n==0))=_;have e:(n==0)=decide (q=0):=by rw[CH];simp[j.o]
 rw[e]
def dU(c:Nat)(a:Option M)(len cap:Nat)(x y z u:Nat->D)(k:Nat)(W:H):Prop:=
 W.cell? ⟨c,0,none⟩=some (C a len cap)/\(k<len->∃b,a=some ⟨b,0,none⟩/\W.cell? ⟨b,(len-1-k)*4,none⟩=some (x (len-1-k))/\W.cell? ⟨b,(len-1-k)*4+1,none⟩=some (y (len-1-k))/\
  W.cell? ⟨b,(len-1-k)*4+2,none⟩=some (z (len-1-k))/\W.cell? ⟨b,(len-1-k)*4+3,none⟩=some (u (len-1-k)))
def Lc(len:Nat)(x y z u:Nat->D)(k:Nat):Array D:=#[.int .i64 ((len:Int)-1-k),S #[x (len-1-k),y (len-1-k),z (len-1-k),u (len-1-k)]]
def PK(F:Fence)(n:Nat)(B:F.fn 170)(K:F.round=none)(hn:1<=n)(d:Nat)(a:Option M)(len cap:Nat)(x y z u:Nat->D)(ah:len<=1099511627776):
 MW F n I 170 #[L (some ⟨d,0,none⟩)] len (Lc len x y z u) (dU d a len cap x y z u):=λl J P W j w g=>by
 have U:=(j 0 W g).1;refine Bu func170 rfl B ?_ K;simp only[ntmps170,AF,Ah,AK,Nat.reduceAdd,Nat.reduceSub,As,At,AE,Ay,Ar,AC];gi_wp2;gi_loopw [3] (λi wr=>∃k:Nat,k<=len/\i=.int .i64 ((len:Int)-1-k)/\J k wr) λi _=>(intOf i+1).toNat
 case atStart=>exact⟨0,Ap _,DG,g⟩
 case round=>
  obtain⟨k,hk,rfl,hJ⟩:=hrel;obtain⟨T,A⟩:=j k wr hJ;by_cases c:k<len
  . obtain⟨b,rfl,V,ad,ae,X⟩:=A c;obtain⟨fn,tmps,assign,body,q,v⟩:=w k wr hJ c;have f:((len:Int)-1-k)=((len-1-k:Nat):Int):=O
    have R:len-1-k<len:=O
    dsimp only[Lc]at q;rw[f]at q ⊢;generalize o:len-1-k=m at *;have r:=Hid.o (p:=Hid (len-1-k=m)) o;clear o f;gi_wp2;refine v.mono ?_;rintro e Q (⟨rfl,s⟩|⟨rfl,t⟩)
    . gi_wp2;go_roundw
      case rel=>exact⟨k+1,O,by(congr 1;have:=r.o;omega),s⟩
      case measure=>simp[intOf]
    . gi_wp2;refine A0 (results_none rfl _ _ _) rfl ?_;exact⟨⟨_,rfl⟩,.inr ⟨k,c,t⟩⟩
  . obtain rfl:k=len:=O
    gi_wp2;go_end0;exact⟨⟨_,rfl⟩,.inl hJ⟩
def PL(F:Fence)(n:Nat)(b:F.fn 130)(c:F.round=none)(a:Option M)(len cap:Nat)(w:H):
 CallsIn F n I 130 #[C a len cap] w λe d=>e=.returned (.func (.func 170) #[] #[L (some ⟨w.heap.size,0,none⟩)])/\d=w.alloc (G #[C a len cap] 23):=by
 refine Bu func130 J b ?_ c;simp only[ntmps130,AF,Ah,AK,Nat.reduceAdd,Nat.reduceSub,As,At,AE,Ay,Ar,AC];gi_wp2;go_ret;exact⟨J,J⟩
def NC:D->Bool|E b=>b|_=>false
def ND:D->Option M|C a _ _=>a|_=>none
def NE:D->Nat|C _ _ c=>c|_=>0
theorem RowK.pick{r:Bool}{W:H}(h:RowK r W (C a l cap) qs):l=qs.length/\l<=cap/\cap<=9223372036854775807/\l<=1099511627776/\∃x y z u:Nat->D,∀j,j<l->Dr r W (S #[x j,y j,z j,u j]) (cf qs j)/\
 ∃b,a=some ⟨b,0,none⟩/\b<W.heap.size/\W.cell? ⟨b,j*4,none⟩=some (x j)/\W.cell? ⟨b,j*4+1,none⟩=some (y j)/\W.cell? ⟨b,j*4+2,none⟩=some (z j)/\W.cell? ⟨b,j*4+3,none⟩=some (u j):=by
 obtain⟨a',m,e,f,g,i,c⟩:=h;cases e;refine⟨J,f,g,i,?_⟩;rcases c with c|⟨b,n,k⟩
 . exact⟨λ_=>N,λ_=>N,λ_=>N,λ_=>N,λj d=>by rw[c]at d;simp at d⟩
 . obtain⟨cs,c1,c2⟩:=k;refine⟨λj=>cs[j*4]?.getD N,λj=>cs[j*4+1]?.getD N,λj=>cs[j*4+2]?.getD N,λj=>cs[j*4+3]?.getD N,λj d=>?_⟩;grind[cell_of]
def RowK.forms{W:H}(h:RowK true W (C a l cap) qs):l=qs.length/\l<=cap/\cap<=9223372036854775807/\l<=1099511627776/\∃(s t:Nat->Bool) (k m:Nat->Option M) (ll n o dd:Nat->Nat),∀j,j<l->Jj W (S #[E (s j),C (k j) (ll j) (n j),E (t j),C (m j) (o j) (dd j)]) (cf qs j)/\
 ∃b,a=some ⟨b,0,none⟩/\b<W.heap.size/\W.cell? ⟨b,j*4,none⟩=some (E (s j))/\W.cell? ⟨b,j*4+1,none⟩=some (C (k j) (ll j) (n j))/\W.cell? ⟨b,j*4+2,none⟩=some (E (t j))/\W.cell? ⟨b,j*4+3,none⟩=some (C (m j) (o j) (dd j)):=by
 obtain⟨q,r,v,w,x,y,z,u,B⟩:=h.pick;refine⟨q,r,v,w,λj=>NC (x j),λj=>NC (z j),λj=>ND (y j),λj=>ND (u j),λj=>Ht (y j),λj=>NE (y j),λj=>Ht (u j),λj=>NE (u j),λj K=>?_⟩;obtain⟨i,b,p,A,c0,c1,c2,c3⟩:=B j K;obtain⟨s,a',l',c',t,P,R,Q,e,_⟩:=(show Jj W _ _ from i);simp only[Value.agg.injEq,Array.mk.injEq,List.cons.injEq,and_true]at e;obtain⟨c,d,f,g⟩:=e;rw[c,d,f,g]at i;rw[c]at c0;rw[d]at c1;rw[f]at c2;rw[g]at c3;dsimp only;rw[c,d,f,g];exact⟨i,b,p,A,c0,c1,c2,c3⟩
def TD(w:H)(a:Option M)(len cap:Nat)(qs:Ja)(k:Nat)(W:H):Prop:=
 ((((Boxed W w.heap.size 23 (C a len cap)/\Boxed W (w.heap.size+1) 128 (.func (.func 93) #[] #[]))/\Boxed W (w.heap.size+1+1) 23 (C none 0 0))/\Boxed W (w.heap.size+1+1+1) 23 (C a len cap))/\Bl w W)/\∀j,len-k<=j->j<len->cf qs j=0
def TE(w:H)(a:Option M)(len cap:Nat)(qs:Ja)(c:Code)(k:Nat)(W:H):Prop:=
 (Boxed W (w.heap.size+1+1) 23 (C a (len-1-k+1) cap)/\Bl w W)/\(c=.ret/\cf qs (len-1-k)≠0/\∀j,len-k<=j->j<len->cf qs j=0)
def dV(w:H)(a:Option M)(len cap:Nat)(qs:Ja):OwnFrom (w.heap.size+1+1+1+1) (TD w a len cap qs):=
 BP (BP (BP (BP (BP (Bj (boxed_own _ _ λ_=>C a len cap) _) (Bj (boxed_own _ _ λ_=>.func (.func 93) #[] #[]) _)) (Bj (boxed_own _ _ λ_=>C none 0 0) _)) (Bj (boxed_own _ _ λ_=>C a len cap) _)) (C0 (Aa _) O)) (DB _ _)
def dW(w:H)(a:Option M)(len cap:Nat)(qs:Ja)(c:Code):OwnFrom (w.heap.size+1+1+1+1) (TE w a len cap qs c):=
 BP (BP (Bj (boxed_own _ _ λk=>C a (len-1-k+1) cap) _) (C0 (Aa _) O)) (DB _ _)
theorem dX(a:Option M)(len cap:Nat)(qs:Ja)(w:H)(h:RowK true w (C a len cap) qs)(hs:Sqs qs):
 F I 92 #[C a len cap,.func (.func 93) #[] #[]] w λe y=>∃u,e=.returned u/\(RowK true y u (Jc qs)/\Bl w y)/\(u=C none 0 0/\Jc qs=[]\/u=C a (Jc qs).length cap):=by
 obtain⟨hl,ak,am,ai,s,t,A,B,ll,P,T,dd,hc⟩:=h.forms;obtain⟨HL,HC,HS⟩:=DX hl hc hs;clear hc hl hs;refine(BM (n:=3)).1 ?_;refine BN func92 J trivial ?_ J;simp only[ntmps92,AF,Ah,AK,Nat.reduceAdd,Nat.reduceSub,As,At,AE,Ay,Ar,AC];gi_wp2_with(refine⟨trivial,?_⟩;gi_at_call 130;refine(PL Fence.wide _ trivial J _ _ _ _).mono ?_;rintro e y ⟨rfl,rfl⟩)
 have b0:=(((BF w 23 (C a len cap)).alloc (G #[.func (.func 93) #[] #[]] 128)).alloc (G #[C none 0 0] 23)).alloc (G #[C a len cap] 23);have b1:=((BF (w.alloc (G #[C a len cap] 23)) 128 (.func (.func 93) #[] #[])).alloc (G #[C none 0 0] 23)).alloc (G #[C a len cap] 23);have b2:=(BF ((w.alloc (G #[C a len cap] 23)).alloc (G #[.func (.func 93) #[] #[]] 128)) 23 (C none 0 0)).alloc (G #[C a len cap] 23);have b3:=BF (((w.alloc (G #[C a len cap] 23)).alloc (G #[.func (.func 93) #[] #[]] 128)).alloc (G #[C none 0 0] 23)) 23 (C a len cap);simp only[Ax]at b1 b2 b3;have Qd:Bl w ((((w.alloc (G #[C a len cap] 23)).alloc (G #[.func (.func 93) #[] #[]] 128)).alloc (G #[C none 0 0] 23)).alloc (G #[C a len cap] 23)):=(((Ba w _).alloc DG _).alloc si _).alloc si _;have hN:((((w.alloc (G #[C a len cap] 23)).alloc (G #[.func (.func 93) #[] #[]] 128)).alloc (G #[C none 0 0] 23)).alloc (G #[C a len cap] 23)).heap.size=w.heap.size+1+1+1+1:=DG
 refine Rf J O (gf:=170) (lb:=#[L (some ⟨w.heap.size+1+1+1,0,none⟩)]) J trivial (Bi func170 nK J)
  (PK Fence.wide _ trivial J O (w.heap.size+1+1+1) a len cap (λj=>E (s j)) (λj=>C (A j) (ll j) (P j)) (λj=>E (t j)) (λj=>C (B j) (T j) (dd j)) ai) (λ_=>rfl)
  (TD w a len cap qs) (TE w a len cap qs) (by rw[hN];exact dV w a len cap qs) (λc=>by rw[hN];exact dW w a len cap qs c)
  ⟨⟨⟨⟨⟨b0,b1⟩,b2⟩,b3⟩,Qd⟩,λj r Q=>by omega⟩ ?rd
  (λk b=>{ tmps:=#[C a len cap,.func (.func 93) #[] #[],L (some ⟨w.heap.size,0,none⟩),L (some ⟨w.heap.size+1,0,none⟩),L (some ⟨w.heap.size+1+1,0,none⟩),.int .i64 ((len:Int)-1-k),L (some ⟨b,0,none⟩),C a len cap,.func (.func 170) #[] #[L (some ⟨w.heap.size+1+1+1,0,none⟩)],.int .i64 ((len:Int)-1-k),S #[E (s (len-1-k)),C (A (len-1-k)) (ll (len-1-k)) (P (len-1-k)),E (t (len-1-k)),C (B (len-1-k)) (T (len-1-k)) (dd (len-1-k))],N,N,N,N,N,N,N,N],defers:=[] })
  (λk=>G #[E (s (len-1-k)),C (A (len-1-k)) (ll (len-1-k)) (P (len-1-k)),E (t (len-1-k)),C (B (len-1-k)) (T (len-1-k)) (dd (len-1-k))] 37 (0,0)) ?assign ?body ?done ?stop
 case rd=>
  rintro k W ⟨⟨⟨_,c3⟩,f⟩,_⟩;refine⟨c3.cell,λhk=>?_⟩;obtain⟨_,b,ea,R,r,Q,h3,h4⟩:=HC.o (len-1-k) O;exact⟨b,ea,(f.cell (p:=⟨b,_,none⟩) R).trans r,(f.cell (p:=⟨b,_,none⟩) R).trans Q,(f.cell (p:=⟨b,_,none⟩) R).trans h3,(f.cell (p:=⟨b,_,none⟩) R).trans h4⟩
 case assign=>
  intro l k W K v;unfold Lc;gi_wp2;exact v
 case body=>
  rintro l k b W ⟨⟨⟨⟨⟨c0,c1⟩,c2⟩,c3⟩,f⟩,i⟩ hk ap aj ad;have hm:len-1-k<len:=O
  obtain⟨hi,_⟩:=HC.o (len-1-k) hm;have HI:=Y (Jj.below hi f);have o:=Y i;have e1:((len:Int)-1-k)=((len-1-k:Nat):Int):=O
  rw[e1];have Qe:=Y (show len-1-k=len-1-k from J);clear e1 i hi;obtain⟨m,ae⟩:=ex (len-1-k);have U:=Y ae;rw[ae]at ad HI hm ⊢;clear ae Qe;have q0:JB W b 37 (E (s m)) (C (A m) (ll m) (P m)) (E (t m)) (C (B m) (T m) (dd m)):=ad;obtain⟨k0,k1,k2,k3⟩:=q0.cq;have d0:=c0.cell;have d1:=c1.cell;have d2:=c2.cell;have f2:=c2.frozen;clear q0 ad;have z:=Y (Bv l ((BM (n:=3-1-1-1)).2 (dT _ _ W HI.o (HS.o.at m))));by_cases g:cf qs m=0
  . have V:=Y g;rw[show decide (cf qs m=0)=true from BH g]at z;clear g;gi_wp2_with(refine⟨trivial,?_⟩;gi_at_call 93;refine z.o.mono ?_;rintro e y ⟨rfl,d⟩)
    refine⟨(Ke d).from _,⟨⟨⟨⟨boxed_below c0 d,boxed_below c1 d⟩,boxed_below c2 d⟩,boxed_below c3 d⟩,Bt f d⟩,λj r Q=>?_⟩;by_cases x:j=m
    . rw[x];exact V.o
    . have:=U.o;exact o.o j O Q
  . have V:=Y g;rw[show decide (cf qs m=0)=false from BE g]at z;clear g;gi_wp2_with(refine⟨trivial,?_⟩;gi_at_call 93;refine z.o.mono ?_;rintro e y ⟨rfl,d⟩;have d0:=(boxed_below c0 d).cell;have d2:=(boxed_below c2 d).cell;have f2:=(boxed_below c2 d).frozen)
    have ah:=Bt f d;refine⟨((Ke d).trans (BK _ _ _)).from _,⟨?_,ah.setCell (p:=⟨w.heap.size+1+1,0,none⟩) si _⟩,J,by rw[U.o];exact V.o,o.o⟩;rw[U.o];exact(boxed_below c2 d).set _
 case done=>
  rintro D W hD ⟨⟨⟨⟨⟨c0,c1⟩,c2⟩,c3⟩,f⟩,i⟩ v;have d1:=c2.cell;have f1:=c2.frozen;have o:=Y i;clear i;gi_wp2;have Qc:=(BK W ⟨w.heap.size+1+1,0,none⟩ (C none 0 0)).same D _ v J;refine⟨DG,.inl ⟨_,_,J,BU Qc,?_⟩⟩;have X:=(c2.set (C none 0 0)).kept (BX _ D (.deferred none)) (λe=>by grind);have q:=X.cell;have e0:=MG λj=>by
   rcases AQ j len with x|x
   . exact o.o j O x
   . exact JZ (by have:=HL.o;omega)
  refine⟨C none 0 0,by simp[results,results92,go_sem,q],_,J,⟨?_,?_⟩,An ⟨J,e0⟩⟩
  . rw[e0];exact RowK.nil _ _
  . exact(f.setCell (p:=⟨w.heap.size+1+1,0,none⟩) si _).trans (DE (w:=w) (Aa _) _ D _ _ (by simp at hD;omega) Qc J J)
 case stop=>
  rintro D c k W hD hk ⟨⟨c1,f⟩,rfl,g,i⟩ v;have d1:=c1.cell;have o:=Y (show cf qs (len-1-k)≠0/\∀j,len-k<=j->j<len->cf qs j=0 from⟨g,i⟩);clear i g;gi_wp2;refine⟨DG,.inl ⟨_,_,J,BU v,?_⟩⟩;have X:=c1.kept (BX _ D (.deferred none)) (λe=>by grind);have q:=X.cell;have Qb:Bl w (W.putObj D (.deferred none)):=f.trans (DE (w:=w) (Aa _) _ D _ _ (by simp at hD;omega) v J J);have an:=HL.o;have e:Jc qs=qs.take (len-1-k+1):=by
   refine Q4 O (Au o.o.1) λj x=>?_;rcases AQ j len with r|r
   . exact o.o.2 j O r
   . exact JZ O
  have el:(qs.take (len-1-k+1)).length=len-1-k+1:=by rw[Ai];omega
  refine⟨C a (len-1-k+1) cap,by simp[results,results92,go_sem,q],_,J,⟨?_,Qb⟩,Au (by rw[e,el])⟩;rw[e];exact(h.below Qb).take O
def Ld(N:Nat)(v:D):Prop:=∀a l c,v=C (some a) l c->N<=a.block
def NF(N:Nat)(v:D):Prop:=∀a l c,v=S #[C (some a) l c]->N<=a.block
def Ez{W:H}{B:Nat}{c:Nat}(b:Boxed W B 25 (C a l c))(x:D){v:D}(h:RowK true W v qs):RowK true (W.setCell ⟨B,0,none⟩ x) v qs:=
 M3.XE (cs:=#[C a l c]) b (o:=0) J J true DK x v qs h
def KC(v:D)(qs:Ja)(w:H)(h:RowK true w v qs)(k:Sqs qs):
 F I 39 #[v] w λe q=>∃u,e=.returned u/\Jh q u (Jc qs)/\(∀N,Ld N v->NF N u)/\Bl w q:=by
 obtain⟨a,l,c,rfl⟩:=h.form;have b0:=BF w 25 (C none 0 0);have b:Bl w (w.alloc (G #[C none 0 0] 25)):=Ba w _;obtain⟨W0,g⟩:=ex (w.alloc (G #[C none 0 0] 25));rw[g]at b0 b;have s:=Y g;have i:=Y (dX a l c qs W0 (h.below b) k);have o:=b0.cell;have f0:=b0.frozen;clear g h k;go_enter func39,ntmps39
 go_upto_region 1 with fail
 rw[s.o];go_wp2_with(go_at_call 92;refine i.o.mono ?_;clear i;rintro e A ⟨u,rfl,⟨n,j⟩,m⟩;obtain⟨x,z,y,rfl⟩:=n.form;have d:=boxed_below b0 j;have o:=d.cell;have f0:=d.frozen;have r:=Y m;clear m)
 refine A0 (by simp[results,results39,go_sem,o]) J ⟨_,J,⟨_,J,Ez d _ n⟩,?_,(Bt b j).setCell (p:=⟨w.heap.size,0,none⟩) (Aa _) _⟩;intro N t a' l' c' e;simp only[Value.agg.injEq,Array.mk.injEq,List.cons.injEq,and_true]at e;rcases r.o with⟨f,_⟩|f
 . rw[f]at e;cases e
 . rw[f]at e;cases e;exact t _ _ _ J
def YI(v:D)(ps:Ja)(w:H)(h:Jh w v ps):
 F I 30 #[v] w λe c=>e=.returned (.int .i64 ((ps.length:Int)-1))/\Bl w c:=by
 obtain⟨u,rfl,b⟩:=h;obtain⟨a,cap,rfl,d,f,g,_⟩:=b.open;clear b;generalize ps.length=n at *;go_enter func30,ntmps30
 go_wp2;go_ret;exact⟨J,Ba _ _⟩
def PM(v:D)(qs:Ja)(i:Int)(w:H)(h:RowK true w v qs):
 F I 129 #[v,.int .i64 i] w λe k=>∃u,e=.returned u/\Jj k u (if i<0 then 0 else cf qs i.toNat)/\Bl w k:=by
 obtain⟨a,l,c,rfl⟩:=h.form;obtain⟨hl,R,T,U,s,t,q,r,ll,x,B,dd,g⟩:=h.forms;have o:=Y hl;have d:=Y g;clear hl g h;by_cases f:i<0
 . rw[BG f];go_enter func129,ntmps129
   go_wp2;exact A0 (by simp[results,results129,go_sem]) J ⟨_,J,D8 _,(Ba w _).alloc DG _⟩
 . rw[BD f];by_cases y:(l:Int)<=i
   . have p:=Y (show cf qs i.toNat=0 from JZ (by have:=o.o;omega));rw[p.o];go_enter func129,ntmps129
     go_wp2;exact A0 (by simp[results,results129,go_sem]) J ⟨_,J,D8 _,(Ba w _).alloc DG _⟩
   . obtain⟨m,rfl⟩:∃m:Nat,i=(m:Int):=⟨i.toNat,O⟩;have z:m<l:=O
     obtain⟨j,b,rfl,Q,V,A,W,X⟩:=d.o m z;have n:=Y j;rw[CE];clear d j y;generalize s m=s1 at *;generalize t m=t1 at *;generalize q m=K at *;generalize r m=P at *;generalize ll m=l1 at *;generalize x m=c1 at *;generalize B m=A at *;generalize dd m=d1 at *;go_enter func129,ntmps129
     go_wp2;exact A0 (by simp[results,results129,go_sem]) J ⟨_,J,n.o.below (Ba w _),Ba w _⟩
def Tryz.infoRat:(Tryz.prog.info? 37).map (λi=>(i.zero,i.size,i.bytes))=some (some (S #[E false,C none 0 0,E false,C none 0 0]),4,64):=by kernel_rfl
def Y0(n:Nat):Array D:=madeCells #[E false,C none 0 0,E false,C none 0 0] (n*4)
theorem NG{n j:Nat}(a:j<n):(Y0 n)[j*4]?=some (E false)/\(Y0 n)[j*4+1]?=some (C none 0 0)/\(Y0 n)[j*4+2]?=some (E false)/\(Y0 n)[j*4+3]?=some (C none 0 0):=by
 unfold Y0 madeCells;have h:∀k,k<n*4->((Array.range (n*4)).map λi=>(#[Value.bool false,Value.slice none 0 0,Value.bool false,Value.slice none 0 0]:Array D)[i%4]!)[k]?=some ((#[Value.bool false,Value.slice none 0 0,Value.bool false,Value.slice none 0 0]:Array D)[k%4]!):=λk b=>by
  grind
 refine⟨(h _ O).trans ?_,(h _ O).trans ?_,(h _ O).trans ?_,(h _ O).trans ?_⟩
 . grind
 . grind
 . grind
 grind
def Le(n:Nat)(h:n<=2199023255552)(w:H):(Instr.makeSlice 23 (.int .i64 (n:Int)) (.int .i64 (n:Int))).run I w=.ok (C (some ⟨w.heap.size,0,none⟩) n n) (w.alloc (G (Y0 n) 37)):=by
 obtain⟨i,d,b⟩:=Option.map_eq_some_iff.1 Tryz.infoRat;simp only[Prod.mk.injEq]at b;obtain⟨f,e,c⟩:=b;have a:=run_make (P:=I) w 23 37 i _ underlying23 d f .i64 .i64 n n O (Int.le_refl _) (by rw[c];omega) O;simp only[CE,e]at a;exact a
def PN(n:Nat)(w:H):Dh true (w.alloc (G (Y0 n) 37)) w.heap.size (List.replicate n 0):=by
 refine⟨Y0 n,BB w _,λj a=>?_⟩;rw[AW]at a;obtain⟨b,c,d,e⟩:=NG a;exact⟨_,_,_,_,b,c,d,e,by rw[J1];exact D8 _⟩
theorem dY(a b:Option M)(la ca lb cb:Nat)(ps qs:Ja)(w:H)(x:RowK true w (C a la ca) ps)(y:RowK true w (C b lb cb) qs)(ad:Sqs ps)(ae:Sqs qs):
 F I 140 #[C a la ca,C b lb cb,.func (.func 26) #[] #[]] w λe w'=>∃v c,e=.returned v/\RowK true w' v c/\(∀j,cf c j=cf ps j-cf qs j)/\Ld w.heap.size v/\Bl w w':=by
 obtain⟨W,aj,am,bc,_⟩:=x.forms;obtain⟨X,ak,an,bf,_⟩:=y.forms;obtain⟨n,hn⟩:∃n:Nat,max (la:Int) (lb:Int)=(n:Int):=⟨max la lb,O⟩;have bi:n<=1099511627776:=O
 obtain⟨HN,HA,HB,HP,HQ,Qp,Qq⟩:=LQ (show la<=n/\lb<=n from by omega) x y ad ae W X;have Qo:=Le n O w;have o:=PN n w;have s:Bl w (w.alloc (G (Y0 n) 37)):=Ba w _;obtain⟨W0,R⟩:=ex (w.alloc (G (Y0 n) 37));rw[R]at o s Qo;have Qr:=Y o;have Qn:=Y s;clear o s R x y ad ae W X aj am ak an;go_enter func140,ntmps140
 go_wp2;go_loopw [17] (λi wr=>∃(k:Nat) (c:Ja),k<=n/\i=.int .i64 (k:Int)/\Hid (c.length=n/\(∀j,j<k->cf c j=cf ps j-cf qs j)/\Dh true wr w.heap.size c/\Bl w wr)) λi _=>n-(intOf i).toNat
 case atStart=>exact⟨0,_,Ap _,J,Y ⟨AW,λj l=>by omega,Qr.o,Qn.o⟩⟩
 case round=>
  obtain⟨k,c,hk,rfl,d⟩:=hrel;by_cases bg:k<n
  . have bh:(k:Int)<(n:Int):=O
    have q:=Y (PM _ ps (k:Int) wr (HA.o.below d.o.2.2.2));have r:=Y λ(V:H) (h:Bl wr V)=>PM _ qs (k:Int) V ((HB.o.below d.o.2.2.2).below h);rw[BD O,CE]at q;rw[show(if(k:Int)<0 then(0:Rat)else cf qs ((k:Int)).toNat)=cf qs k from by grind]at r;have K:=Y λ(V:H) (u v:D) (hu:Jj V u (cf ps k)) (hv:Jj V v (cf qs k))=>NB u v (cf ps k) (cf qs k) V hu hv (HP.o.at k) (HQ.o.at k);have p:=Y (show k<c.length from by have:=d.o.1;omega);go_wp2_with(first
     |(go_at_call 129;refine q.o.mono ?_;clear q;rintro e w1 ⟨u1,rfl,g,T⟩;have m:=T)
     |(go_at_call 129;refine(r.o _ m).mono ?_;clear r;rintro e w2 ⟨u2,rfl,ah,z⟩;have g:=g.below z;have Q:=Bt m z;clear m)
     |(go_at_call 26;refine(K.o _ _ _ g ah).mono ?_;clear K;rintro e w3 ⟨u3,rfl,ai,U⟩;have P:=Bt Q U;clear Q g ah T z U;have f:=d.o.2.2.1.below P;obtain⟨x0,y0,z0,t0,k0,k1,k2,k3,_⟩:=f.at p.o;have f0:=f.frozen (k*4);have f1:=f.frozen (k*4+1);have f2:=f.frozen (k*4+2);have f3:=f.frozen (k*4+3);obtain⟨bm,ap,bk,ay,bn,aq,bj,az,rfl⟩:=Jj.form ai))
    go_roundw
    case rel=>
     refine⟨k+1,c.set k (cf ps k-cf qs k),O,by go_num,Y ⟨by rw[Fg];exact d.o.1,λj l=>?_,f.set p.o ai,SZ (Bt d.o.2.2.2 P) (Aa _) _ _ _ _⟩⟩;rw[XY _ _ _ _ p.o];by_cases A:j=k
     . rw[BG A,A]
     . rw[BD A];exact d.o.2.1 j O
    case measure=>simp[intOf];omega
  . have Qm:k=n:=O
    subst Qm;go_wp2;go_ret;have t:=d.o;have B:=t.2.2.1.row (n:=k) (cap:=k) O (Aa _) O O;rw[Ad O]at B;refine⟨_,c,J,B,λj=>?_,λa' l' c' e=>by cases e;exact Aa _,t.2.2.2⟩;rcases AQ j k with l|l
    . exact t.2.1 j l
    . have:=HN.o;have h1:=Qp.o;have h2:=Qq.o;rw[JZ O,JZ O,JZ O];grind
def dZ(x y:D)(ps qs:Ja)(w:H)(f:Jh w x ps)(g:Jh w y qs)(r:Sqs ps)(s:Sqs qs)(t:Sqs (Ys ps qs)):
 F I 90 #[x,y] w λe z=>∃u,e=.returned u/\Jh z u (Ys ps qs)/\NF w.heap.size u/\Bl w z:=by
 obtain⟨u,rfl,f⟩:=f;obtain⟨v,rfl,g⟩:=g;obtain⟨a,la,ca,rfl⟩:=f.form;obtain⟨b,lb,cb,rfl⟩:=g.form;obtain⟨W0,d⟩:=ex (((w.alloc (G #[C a la ca] 25)).alloc (G #[C b lb cb] 25)).alloc (G #[C none 0 0] 25));have b0:Boxed W0 w.heap.size 25 (C a la ca):=by rw[<-d];exact((BF w _ _).alloc _).alloc _
 have Q:Boxed W0 (w.heap.size+1) 25 (C b lb cb):=by rw[<-d];have:=(BF (w.alloc (G #[C a la ca] 25)) 25 (C b lb cb)).alloc (G #[C none 0 0] 25);simpa using this
 have R:Boxed W0 (w.heap.size+1+1) 25 (C none 0 0):=by rw[<-d];have:=BF ((w.alloc (G #[C a la ca] 25)).alloc (G #[C b lb cb] 25)) 25 (C none 0 0);simpa using this
 have k:Bl w W0:=by rw[<-d];exact((Ba w _).alloc DG _).alloc si _
 obtain⟨o,q,P,K⟩:=Di (dY a b la ca lb cb ps qs W0 (f.below k) (g.below k) r s) (λ(V:H) (v:D) (c:Ja) (h:RowK true V v c) (hs:Sqs c)=>KC v c V h hs) t d;have k0:=b0.cell;have k1:=Q.cell;clear d f g r s t;go_enter func90,ntmps90
 go_upto_region 1 with fail
 rw[K.o];go_wp2_with(first
  |(go_at_call 140;refine o.o.mono ?_;clear o;rintro e w1 ⟨v1,c,rfl,ae,n,X,U⟩;have B:Sqs c:=Sqs.of (λi=>by rw[n i,<-KR];exact P.o.at i);have A:=Y n;clear n)
  |(go_at_call 39;refine(q.o _ _ c ae B).mono ?_;clear q;rintro e w2 ⟨u2,rfl,m,ad,W⟩;obtain⟨a9,l9,c9,rfl⟩:=m.form;have hq:=Bt U W;have l:=boxed_below R hq;have k2:=l.cell;have f2:=l.frozen))
 have T:Jc c=Ys ps qs:=by
  rw[<-Xd];exact YL λj=>by rw[A.o j,KR]
 rw[T]at m;refine A0 (by simp[results,results90,go_sem,k2]) J ⟨_,J,⟨_,J,Ez l _ m.row⟩,?_,(Bt k hq).setCell (p:=⟨w.heap.size+1+1,0,none⟩) si _⟩;intro a' l' c' e;have:=ad W0.heap.size X a' l' c' e;have h2:=k.size;omega
end
section
variable{r:Bool}{qs:Ja}
def Tryz.infoRef:(Tryz.prog.info? 47).map (λi=>(i.zero,i.size,i.bytes))=some (some (S #[C none 0 0,E false,C none 0 0,E false]),4,64):=by kernel_rfl
def EF(r:Bool)(base:Nat)(W:H)(v:D)(qs:Ja):Prop:=
 (v=C none 0 0/\qs=[])\/∃g cap a,v=C (some ⟨g,0,none⟩) qs.length cap/\base<=g/\W.heap[g]?=some (G a (Dn r) (0,0))/\qs.length<=cap/\cap<=maxLen/\a.size=cap*4/\(∀c∈a.toList,JE c=true)/\Y1 r W (a.toList.take (qs.length*4)) qs
theorem EF.nil(r:Bool)(base:Nat)(W:H):EF r base W (C none 0 0) []:=An ⟨J,J⟩
def EF.below{r:Bool}{base:Nat}{W W':H}{v:D}{qs:Ja}(h:EF r base W v qs)(b:Bl W W'):EF r base W' v qs:=by
 rcases h with h|⟨g,cap,c,d,e,a,f,i,j,k,l⟩
 . exact An h
 . exact Au ⟨g,cap,c,d,e,(b.block g (Ab.1 a).1).trans a,f,i,j,k,l.below b⟩
theorem EF.row{base:Nat}{W:H}{v:D}(h:EF r base W v qs)(hl:qs.length<=1099511627776):RowK r W v qs:=by
 rcases h with⟨rfl,rfl⟩|⟨g,cap,a,rfl,n,b,c,d,o,p,e⟩
 . exact RowK.nil r W
 . refine⟨_,cap,J,c,by unfold maxLen at d;omega,hl,Au ⟨g,J,a,b,λj f=>?_⟩⟩;obtain⟨x,y,z,u,i,k,l,m,q⟩:=e.2 j f;grind[]
theorem EF.form{base:Nat}{W:H}{v:D}(h:EF r base W v qs):∃a c,v=C a qs.length c/\(∀p,a=some p->base<=p.block):=by
 rcases h with⟨rfl,rfl⟩|⟨g,cap,b,rfl,d,_⟩
 . exact⟨none,0,J,λp e=>by cases e⟩
 grind
theorem da(z:Array D)(a:0<z.size)(d:∀c∈z.toList,JE c=true)(n:Nat):∀c∈(Builtin.zeroCells z n).toList,JE c=true:=by
 intro c b;grind[Builtin.zeroCells,A9]
def F5(r:Bool):TypeId:=match r with|true=>22|false=>29
def zK(r:Bool):Array D:=match r with|true=>#[E false,C none 0 0,E false,C none 0 0]|false=>#[C none 0 0,E false,C none 0 0,E false]
def db(r:Bool):Tryz.prog.underlying (F5 r)=some (.slice (Dn r)):=by
 cases r with
 |true=>exact underlying22
 |false=>exact underlying29
def df(r:Bool):∃i,Tryz.prog.info? (Dn r)=some i/\i.zero=some (S (zK r))/\i.size=4/\i.bytes=64:=by
 cases r with
 |true=>
  obtain⟨i,a,b,c,d⟩:=Bs Tryz.infoRat;exact⟨i,a,b,c,d⟩
 |false=>
  obtain⟨i,a,b,c,d⟩:=Bs Tryz.infoRef;exact⟨i,a,b,c,d⟩
theorem TF(r:Bool):(zK r).size=4:=by cases r<;>rfl
theorem dl(r:Bool):∀c∈(zK r).toList,JE c=true:=by
 cases r<;>(intro c a;simp[zK]at a;rcases a with rfl|rfl|rfl|rfl<;>rfl)
theorem X2(r:Bool)(base:Nat)(W:H)(v:D)(qs:Ja)(h:EF r base W v qs){x y z u:D}{q:Rat}(hq:Dr r W (S #[x,y,z,u]) q)(hl:qs.length+1<=1099511627776)(ad:base<=W.heap.size):
 ∃v' Q,(Builtin.append_ #[F5 r,F5 r] (F5 r) #[v,C (some ⟨W.heap.size,0,none⟩) 1 1]).run I (W.alloc (G #[x,y,z,u] (Dn r)))=.ok v' Q/\EF r base Q v' (qs++[q])/\(∀k v ds,Row k W v ds->Row k Q v ds)/\(∀n w0,n<=base->Below n w0 W->Below n w0 Q):=by
 obtain⟨i,hi,hz,B,ai⟩:=df r;have ht:=db r;have p:Bl W (W.alloc (G #[x,y,z,u] (Dn r))):=Ba W _;obtain⟨d,ah⟩:=ex (W.alloc (G #[x,y,z,u] (Dn r)));have aq:d.heap[W.heap.size]?=some (G #[x,y,z,u] (Dn r) (0,0)):=by rw[<-ah];exact BB W _
 rw[ah]at p ⊢;have Qg:=hq.below p;obtain⟨n0,n1,n2,n3⟩:=hq.no;have R:∀j c,[x,y,z,u][j]?=some c->d.cell? ((⟨W.heap.size,0,none⟩:M).add j)=some c:=λj c l=>by
  grind[Xj,cell_of]
 have Qm:(Value.agg (zK r)).cells=zK r:=rfl;have grown:∀(cs:List D) (w:Nat) (m:Nat),m=qs.length+1->Y1 r d (cs++[x,y,z,u]) (qs++[q])->(∀c∈cs,JE c=true)->cs.length=qs.length*4->
  EF r base (d.drew.alloc (G (cs.toArray++[x,y,z,u].toArray++Builtin.zeroCells (zK r) (grownCap d m w (Dn r)-m)) (Dn r))) (C (some ⟨d.heap.size,0,none⟩) m (grownCap d m w (Dn r))) (qs++[q]):=by
  intro cs w m hm l Qf U;subst hm;have ap:=grownCap_ge d (qs.length+1) w (Dn r);have Qp:=grownCap_le_maxLen d (qs.length+1) w (Dn r) (by unfold maxLen;omega);have Qq:Bl d (d.drew.alloc (G (cs.toArray++[x,y,z,u].toArray++Builtin.zeroCells (zK r) (grownCap d (qs.length+1) w (Dn r)-(qs.length+1))) (Dn r))):=((BA _ d).drew).alloc (Aa _) _;refine Au ⟨d.heap.size,_,_,DI,Af ad p.size,BB d.drew _,DI,Qp,?_,?_,?_⟩
  . grind[size_zeroCells,TF,Ah]
  . intro c A;simp only[Array.toList_append,CS]at A;rcases A with(A|A)|A
    . exact Qf c A
    . grind
    grind[da,TF,dl]
  . have e:(cs.toArray++[x,y,z,u].toArray++Builtin.zeroCells (zK r) (grownCap d (qs.length+1) w (Dn r)-(qs.length+1))).toList.take ((qs++[q]).length*4)=cs++[x,y,z,u]:=by
     simp only[Array.toList_append];have T:(qs++[q]).length*4=(cs++[x,y,z,u]).length:=by simp;omega
     rw[T];exact List.take_left
    rw[e];exact l.below Qq
 have fin:∀o,(∀k v ds,Row k W v ds->Row k (d.drew.alloc o) v ds)/\(∀n w0,n<=base->Below n w0 W->Below n w0 (d.drew.alloc o)):=λo=>by
  have Qi:Bl W (d.drew.alloc o):=(p.drew).alloc (by exact p.size) _;refine⟨λk v ds h=>h.below Qi,λn w0 K hb=>hb.trans (Qi.mono (Af K ad))⟩
 rcases h with⟨rfl,rfl⟩|⟨g,cap,f,rfl,h2,h3,h4,h5,h6,h7,h8⟩
 . have t:=run_append_nil (P:=I) d (F5 r) (F5 r) (Dn r) i _ ht hi hz ⟨W.heap.size,0,none⟩ 1 1 [x,y,z,u] (by rw[B];rfl) R O O (by rw[ai];omega);rw[Qm]at t;refine⟨_,_,t,?_,fin _⟩;have:=grown [] 0 1 J (by rw[Ar];exact(Y1.nil r d).snoc Qg) (λc l=>by simp at l) J;simpa using this
 . have X:d.heap[g]?=some (G f (Dn r) (0,0)):=(p.block g (Ab.1 h3).1).trans h3;have U:(f.toList.take (qs.length*4)).length=qs.length*4:=by rw[Ai];have V:f.toList.length=f.size:=CK;omega
   have Qk:=(h8.below p).snoc Qg;have Qf:∀c∈f.toList.take (qs.length*4),JE c=true:=λc l=>h7 c (Fc l);by_cases an:qs.length+1<=cap
   . have t:=run_append_room (P:=I) d (F5 r) (F5 r) (Dn r) i ht hi g qs.length cap f X ⟨W.heap.size,0,none⟩ 1 1 [x,y,z,u] (by rw[B];rfl) R hq.one an (by rw[B];simp;omega);rw[B]at t;obtain⟨s,aj⟩:=ex ((f.toList.take (qs.length*4)++[x,y,z,u]++f.toList.drop (qs.length*4+[x,y,z,u].length)).toArray);rw[aj]at t;have Qo:=setRow_heap d g f s (Dn r) (0,0) X;have Qc:∀k v ds,Row k d v ds->Row k (d.setRow g s) v ds:=λk v ds h=>by
      obtain⟨a,c,e,g1,g2,g3,g4⟩:=h;refine⟨a,c,e,g1,g2,g3,?_⟩;rcases g4 with g4|⟨b,ae,ea,ak,l⟩
      . exact An g4
      . by_cases V:ds=[]
        . exact An V
        . have Qj:0<ds.length:=Ac.2 V;have Qh:b≠g:=λe=>by
           subst e;have h9:=l 0 Qj;simp only[World.cell?,X]at h9;have Ql:f[ae+0]?=some (.int k (ds[0]?.getD 0:Nat)):=by simpa using h9
           have Qn:=h7 _ (Array.mem_toList_iff.2 (Array.mem_of_getElem? Ql));simp[JE]at Qn
          exact Au ⟨b,ae,ea,ak.of (setRow_other d g b s Qh),λj hj=>(cell_setRow_other d g s ⟨b,ae+j,none⟩ Qh).trans (l j hj)⟩
     refine⟨_,_,t,?_,λk v ds h=>Qc k v ds (h.below p),λn w0 K hb=>below_setRow (hb.trans (p.mono (Af K ad))) (Af K h2) s⟩;refine Au ⟨g,cap,s,DI,h2,Qo,DI,h5,?_,?_,?_⟩
     . grind
     . intro c l;grind
     . have e:s.toList.take ((qs++[q]).length*4)=f.toList.take (qs.length*4)++[x,y,z,u]:=by
        rw[<-aj];have T:(qs++[q]).length*4=(f.toList.take (qs.length*4)++[x,y,z,u]).length:=by simp[U];omega
        rw[T];exact List.take_left
       rw[e];exact Qk.keep Qc
   . have am:∀j c,(f.toList.take (qs.length*4))[j]?=some c->d.cell? ((⟨g,0,none⟩:M).add j)=some c:=λj c l=>by
      grind[Xj,cell_of]
     have t:=run_append_grow (P:=I) d (F5 r) (F5 r) (Dn r) i _ ht hi hz ⟨g,0,none⟩ qs.length cap (f.toList.take (qs.length*4)) (by rw[B];exact U) am ⟨W.heap.size,0,none⟩ 1 1 [x,y,z,u] (by rw[B];rfl) R O O (by rw[ai];exact growslice_fits O O);grind
end
namespace M3
def NH{W W':H}{row:Option Nat}(hg:W.grownBy W' row)(z:∀r,row=some r->∃o:Obj,W.heap[r]?=some o/\o.isCells=false){k:IntKind}{v:D}{ds:m4}(h:Row k W v ds):Row k W' v ds:=by
 obtain⟨a,cap,e,n,p,q,c⟩:=h;refine⟨a,cap,e,n,p,q,?_⟩;rcases c with c|⟨b,A,l,d,i⟩
 . exact An c
 . by_cases g:ds=[]
   . exact An g
   . have hl:0<ds.length:=Ac.2 g;have f:some b≠row:=λe=>by
      obtain⟨o,y,x⟩:=z b e.symm;have s:=i 0 hl;cases o with
      |cells cs t m=>cases x
      |_=>simp[World.cell?,y]at s
     exact Au ⟨b,A,l,d.of (hg.block b d.lt f),λj u=>(BQ (w:=W) (hg.block b d.lt f)).trans (i j u)⟩
def YJ{W W':H}{row:Option Nat}(hg:W.grownBy W' row)(d:∀r,row=some r->∃o:Obj,W.heap[r]?=some o/\o.isCells=false){B:Nat}{t:TypeId}{cs:Array D}(h:Bx W B t cs):Bx W' B t cs:=by
 have b:some B≠row:=λe=>by
  obtain⟨o,a,c⟩:=d B e.symm;rw[show W.heap[B]?=_ from h]at a;cases a;cases c
 exact(hg.block B h.lt b).trans h
def Lf{W W':H}{row:Option Nat}(hg:W.grownBy W' row)(g:∀r,row=some r->∃o:Obj,W.heap[r]?=some o/\o.isCells=false){r:Bool}{v:D}{qs:Ja}(h:RowK r W v qs):RowK r W' v qs:=by
 obtain⟨a,cap,e,j,k,l,c⟩:=h;refine⟨a,cap,e,j,k,l,?_⟩;rcases c with c|⟨b,i,f⟩
 . exact An c
 . have m:W'.heap[b]?=W.heap[b]?:=by
    obtain⟨cs,d,_⟩:=f;rw[d];exact YJ hg g d
   exact Au ⟨b,i,f.keep m λ_ _ _ h=>NH hg g h⟩
def DH.own{w W W':H}{bs:List (Option (Nat × Dat))}{row:Option Nat}(M:DH w W bs)(hg:W.grownBy W' row)(b:∀r,row=some r->w.heap.size<=r/\∃o:Obj,W.heap[r]?=some o/\o.isCells=false):DH w W' bs:=by
 have a:∀r,row=some r->∃o:Obj,W.heap[r]?=some o/\o.isCells=false:=λr e=>(b r e).2;refine⟨λi B d h=>?_,M.2.1,M.2.2.grown hg M.2.2.size λk e=>(b k e).1⟩;obtain⟨⟨cs,c,f⟩,g⟩:=M.1 i B d h;exact⟨⟨cs,YJ hg a c,f.keep (λ_ _ _ h=>NH hg a h) (Au λ_ _ h=>Lf hg a h)⟩,g⟩
def dn{w:H}{B:Nat}(b:w.heap.size<=B)(f:Nat->List (Option (Nat × Dat))):OwnFrom B (λk W=>DH w W (f k)):=
 λ_ _ _ _ M hg a=>M.own hg λr e=>⟨Af b (a r e).1,(a r e).2⟩
def DH.with{w W:H}{bs:List (Option (Nat × Dat))}(M:DH w W bs){b:Nat}{cs:Array D}(d:Dat)(m:Bx W b d.ty cs)(n:Has W (S cs) d)(q:w.heap.size<=b)(f:∀(i:Nat) B g,bs[i]?=some (some (B,g))->B≠b):DH w W (bs++[some (b,d)]):=by
 have e:∀(j:Nat) x,(bs++[some (b,d)])[j]?=some (some x)->bs[j]?=some (some x)\/(j=bs.length/\x=(b,d)):=λj x h=>by
  by_cases o:j<bs.length
  . rw[Ft o]at h;exact An h
  . rw[Cr O]at h;obtain⟨k,p⟩:=ex (j-bs.length);rw[p]at h;cases k with
    |zero=>simp at h;exact Au ⟨O,h.symm⟩
    |succ k=>simp at h
 refine⟨λj B d h=>?_,λj k B d1 l a c=>?_,M.2.2⟩
 . rcases e j _ h with h|⟨_,h⟩
   . exact M.1 j B d h
   . cases h;exact⟨⟨cs,m,n⟩,q⟩
 . rcases e j _ a with a|⟨r,a⟩<;>rcases e k _ c with c|⟨s,c⟩
   . exact M.2.1 j k B d1 l a c
   . cases c;exact absurd J (f j _ _ a)
   . cases a;exact absurd J (f k _ _ c)
   . omega
def Hz(w W0 W:H)(bs:List (Option (Nat × Dat))):Prop:=DH w W bs/\KeepsOthers W0 W
def Hz.below{w W0 W W':H}{bs:List (Option (Nat × Dat))}(h:Hz w W0 W bs)(a:Bl W W'):Hz w W0 W' bs:=⟨h.1.below a,h.2.trans (Ke a)⟩
def Hz.drew{w W0 W:H}{bs:List (Option (Nat × Dat))}(h:Hz w W0 W bs):Hz w W0 W.drew bs:=h.below ((BA _ W).drew)
def PO(W:H)(B:Nat)(x y z u:D):KeepsOthers W (put4 W B x y z u):=(((BK _ _ _).trans (BK _ _ _)).trans (BK _ _ _)).trans (BK _ _ _)
def TG(W:H)(B o:Nat)(x y z u:D):KeepsOthers W (putAt W B o x y z u):=(((BK _ _ _).trans (BK _ _ _)).trans (BK _ _ _)).trans (BK _ _ _)
end M3
section
structure ElT(ts ty:TypeId):Prop where
 under:Tryz.prog.underlying ts=some (.slice ty)
 info:∃i z z0,Tryz.prog.info? ty=some i/\i.zero=some z/\z.cells=#[z0]/\i.size=1/\i.bytes<=32
def Ek:D->Option Nat
 |C (some a) _ _=>some a.block
 |_=>none
def Yn(ty:TypeId)(base:Nat)(W:H)(v:D)(cs:List D):Prop:=
 (v=C none 0 0/\cs=[])\/∃g cap a,v=C (some ⟨g,0,none⟩) cs.length cap/\base<=g/\W.heap[g]?=some (G a ty (0,0))/\cs.length<=cap/\cap<=maxLen/\a.size=cap/\a.toList.take cs.length=cs
theorem Yn.nil(ty:TypeId)(base:Nat)(W:H):Yn ty base W (C none 0 0) []:=An ⟨J,J⟩
section
variable {ty:TypeId} {base:Nat} {W W':World} {v:Value} {cs:List Value}
def Yn.keep(h:Yn ty base W v cs)(e:∀g,Ek v=some g->base<=g->(∃a,W.heap[g]?=some (G a ty (0,0)))->W'.heap[g]?=W.heap[g]?):Yn ty base W' v cs:=by
 rcases h with h|⟨g,cap,a,rfl,b,c,d⟩
 . exact An h
 . exact Au ⟨g,cap,a,J,b,(e g J b ⟨a,c⟩).trans c,d⟩
def Yn.below(h:Yn ty base W v cs)(b:Bl W W'):Yn ty base W' v cs:=h.keep λg _ _ ⟨_,a⟩=>b.block g (Ab.1 a).1
theorem Yn.lt(h:Yn ty base W v cs){g:Nat}(e:Ek v=some g):g<W.heap.size/\base<=g:=by
 rcases h with⟨rfl,_⟩|⟨b,cap,a,rfl,c,d,f⟩
 . cases e
 . cases e;grind
def Yn.own(h:Yn ty base W v cs){row:Option Nat}(hg:W.grownBy W' row)(b:∀r,row=some r->∃o:Obj,W.heap[r]?=some o/\o.isCells=false):Yn ty base W' v cs:=h.keep λg _ _ ⟨c,a⟩=>by
 rw[a];exact M3.YJ hg b a
theorem Yn.form(h:Yn ty base W v cs):∃a c,v=C a cs.length c/\cs.length<=c/\c<=maxLen:=by
 rcases h with⟨rfl,rfl⟩|⟨g,cap,b,rfl,_,_,d,e,_⟩
 . exact⟨none,0,J,DG,by unfold maxLen;omega⟩
 grind
theorem Yn.cell(h:Yn ty base W v cs){j:Nat}(a:j<cs.length):∃g cap,v=C (some ⟨g,0,none⟩) cs.length cap/\base<=g/\g<W.heap.size/\W.cell? ⟨g,j,none⟩=some cs[j]:=by
 rcases h with⟨rfl,rfl⟩|⟨g,cap,b,rfl,c,d,e,f,i,k⟩
 . simp at a
 grind[cell_of]
end
variable{ts:TypeId}{Q:D->Ja->Prop}
theorem PP{ty:TypeId}(X:ElT ts ty)(base:Nat)(W:H)(v:D)(cs:List D)(h:Yn ty base W v cs){x:D}(ap:x.oneCell'=true)(hl:cs.length+1<=1099511627776)(y:base<=W.heap.size):
 ∃r q,(Builtin.append_ #[ts,ts] ts #[v,C (some ⟨W.heap.size,0,none⟩) 1 1]).run I (W.alloc (G #[x] ty))=.ok r q/\Yn ty base q r (cs++[x])/\(∀B,B<W.heap.size->Ek v≠some B->q.heap[B]?=W.heap[B]?)/\(∀n w0,n<=base->Below n w0 W->Below n w0 q)/\W.heap.size<=q.heap.size/\(Ek r=Ek v\/∃g,Ek r=some g/\W.heap.size<=g):=by
 have K:=X.under;obtain⟨i,z,z0,A,hz,ad,l,ae⟩:=X.info;have b:Bl W (W.alloc (G #[x] ty)):=Ba W _;obtain⟨a,U⟩:=ex (W.alloc (G #[x] ty));have an:a.heap[W.heap.size]?=some (G #[x] ty (0,0)):=by rw[<-U];exact BB W _
 rw[U]at b ⊢;have s:∀j c',[x][j]?=some c'->a.cell? ((⟨W.heap.size,0,none⟩:M).add j)=some c':=λj c' V=>by
  grind[Xj,cell_of]
 have Qd:∀c'∈[x],c'.oneCell'=true:=λc' V=>by
  grind
 have grown:∀(p:Nat) (m:Nat),m=cs.length+1->
  Yn ty base (a.drew.alloc (G (cs.toArray++[x].toArray++Builtin.zeroCells #[z0] (grownCap a m p ty-m)) ty)) (C (some ⟨a.heap.size,0,none⟩) m (grownCap a m p ty)) (cs++[x]):=by
  intro p m hm;subst hm;have ak:=grownCap_ge a (cs.length+1) p ty;have Qf:=grownCap_le_maxLen a (cs.length+1) p ty (by unfold maxLen;omega);refine Au ⟨a.heap.size,_,_,DI,Af y b.size,BB a.drew _,DI,Qf,?_,?_⟩
  . grind[size_zeroCells]
  . grind
 have fin:∀o,(∀B,B<W.heap.size->Ek v≠some B->(a.drew.alloc o).heap[B]?=W.heap[B]?)/\(∀n w0,n<=base->Below n w0 W->Below n w0 (a.drew.alloc o))/\W.heap.size<=(a.drew.alloc o).heap.size:=λo=>by
  have t:Bl W (a.drew.alloc o):=(b.drew).alloc (by exact b.size) _;exact⟨λB u _=>t.block B u,λn w0 k w=>w.trans (t.mono (Af k y)),t.size⟩
 rcases h with⟨rfl,rfl⟩|⟨g,cap,d,rfl,Q,R,h4,h5,h6,h7⟩
 . have c:=run_append_nil (P:=I) a ts ts ty i _ K A hz ⟨W.heap.size,0,none⟩ 1 1 [x] (by rw[l];rfl) s O O O;rw[ad]at c;have:=grown 0 1 J;exact⟨_,_,c,by simpa using this,(fin _).1,(fin _).2.1,(fin _).2.2,Au ⟨_,J,b.size⟩⟩
 . have T:a.heap[g]?=some (G d ty (0,0)):=(b.block g (Ab.1 R).1).trans R;have h0:d.toList.length=d.size:=CK;have am:(d.toList.take cs.length).length=cs.length:=by rw[Ai];omega
   by_cases aj:cs.length+1<=cap
   . have c:=run_append_room (P:=I) a ts ts ty i K A g cs.length cap d T ⟨W.heap.size,0,none⟩ 1 1 [x] (by rw[l];rfl) s Qd aj (by rw[l];simp;omega);rw[l,FU,h7]at c;obtain⟨f,ah⟩:=ex ((cs++[x]++d.toList.drop (cs.length+[x].length)).toArray);rw[ah]at c;have Qg:=setRow_heap a g d f ty (0,0) T;have Qc:a.heap.size<=(a.setRow g f).heap.size:=(below_setRow (B:=0) (BA _ a) (Ap _) f).size;refine⟨_,_,c,?_,λB u k=>?_,λn w0 k w=>below_setRow (w.trans (b.mono (Af k y))) (Af k Q) f,Af b.size Qc,An J⟩
     . refine Au ⟨g,cap,f,DI,Q,Qg,DI,h5,?_,?_⟩
       . grind
       grind
     . exact(setRow_other a g B f λe=>k (by rw[e];rfl)).trans (b.block B u)
   . have ai:∀j c',cs[j]?=some c'->a.cell? ((⟨g,0,none⟩:M).add j)=some c':=λj c' V=>by
      grind[Xj,cell_of]
     have c:=run_append_grow (P:=I) a ts ts ty i _ K A hz ⟨g,0,none⟩ cs.length cap cs (by rw[l];omega) ai ⟨W.heap.size,0,none⟩ 1 1 [x] (by rw[l];rfl) s O O (Af (Aj _ ae) (growslice_fits O O));rw[ad]at c;exact⟨_,_,c,grown cap _ J,(fin _).1,(fin _).2.1,(fin _).2.2,Au ⟨_,J,b.size⟩⟩
def Tryz.infoIntC:(Tryz.prog.info? 3).map (λi=>(i.zero,i.size,i.bytes))=some (some (.int .i64 0),1,8):=by kernel_rfl
def Tryz.infoPolyC:(Tryz.prog.info? 25).map (λi=>(i.zero,i.size,i.bytes))=some (some (S #[C none 0 0]),1,24):=by kernel_rfl
def Tryz.infoRPoly:(Tryz.prog.info? 29).map (λi=>(i.zero,i.size,i.bytes))=some (some (C none 0 0),1,24):=by kernel_rfl
def PQ{ty:TypeId}{z z0:D}{b:Nat}(c:Tryz.prog.underlying ts=some (.slice ty))(d:(Tryz.prog.info? ty).map (λi=>(i.zero,i.size,i.bytes))=some (some z,1,b))(e:z.cells=#[z0])(f:b<=32):ElT ts ty:=by
 obtain⟨i,g,a⟩:=Option.map_eq_some_iff.1 d;simp only[Prod.mk.injEq]at a;exact⟨c,i,z,z0,g,a.1,e,a.2.1,by rw[a.2.2];exact f⟩
def dq:ElT 43 3:=PQ underlying43 Tryz.infoIntC J O
def eA:ElT 83 29:=PQ underlying83 Tryz.infoRPoly J O
def GL(Q:D->Ja->Prop)(cs:List D)(L:List Ja):Prop:=cs.length=L.length/\∀(j:Nat) p,L[j]?=some p->∃x,cs[j]?=some x/\Q x p
theorem GL.keep{Q':D->Ja->Prop}{cs:List D}{L:List Ja}(h:GL Q cs L)(c:∀x p,Q x p->Q' x p):GL Q' cs L:=⟨h.1,λj p e=>by obtain⟨x,a,b⟩:=h.2 j p e;grind⟩
theorem GL.nil(Q:D->Ja->Prop):GL Q [] []:=⟨J,λj p e=>by simp at e⟩
theorem GL.snoc{cs:List D}{L:List Ja}(h:GL Q cs L){x:D}{p:Ja}(c:Q x p):GL Q (cs++[x]) (L++[p]):=by
 refine⟨by simp[h.1],λj q e=>?_⟩;by_cases b:j<L.length
 . rw[Ft b]at e;obtain⟨y,f,g⟩:=h.2 j q e;grind
 . rw[Cr O]at e;obtain⟨d,a⟩:=ex (j-L.length);rw[a]at e;cases d with
   |succ d=>simp at e
   |zero=>
    simp at e;subst e;exact⟨x,by rw[Cr (by have:=h.1;omega),show j-cs.length=0 by have:=h.1;omega];rfl,c⟩
abbrev Es(W:H)(cs:List D)(L:List Ja):Prop:=GL (λx p=>Jh W (S #[x]) p) cs L
abbrev Ee(W:H)(cs:List D)(L:List Ja):Prop:=GL (λx p=>RowK false W x p) cs L
def eB:ElT 120 25:=PQ underlying120 Tryz.infoPolyC J O
end
def Dp(s:Nat × Int)(a:Int):Nat × Int:=if a=0 then s else(if a=-s.2 then s.1+1 else s.1,a)
def XQ(l:List Int):Nat:=(l.foldl Dp (0,0)).1
def DZ(q:Rat):Int:=q.num.sign
theorem TH{q:Rat}:DZ q=0↔q=0:=by
 unfold DZ;rw[Int.sign_eq_zero_iff_zero];exact C4
theorem eD{q:Rat}:DZ q=1↔0<q:=by
 unfold DZ;rw[Int.sign_eq_one_iff_pos,Rat.lt_iff];simp
theorem eE{q:Rat}:DZ q=-1↔q<0:=by
 unfold DZ;rw[Int.sign_eq_neg_one_iff_neg,Rat.lt_iff];simp
theorem GZ(q:Rat):-1<=DZ q/\DZ q<=1:=by
 grind[DZ]
theorem TI(q:Rat):(q<0/\DZ q=-1)\/(q=0/\DZ q=0)\/(0<q/\DZ q=1):=by
 grind[eE,TH,eD]
theorem NI:∀(l:List Int) (s:Nat × Int),(∀a∈l,-1<=a/\a<=1)->(-1<=s.2/\s.2<=1)->(-1<=(l.foldl Dp s).2/\(l.foldl Dp s).2<=1)/\(l.foldl Dp s).1<=s.1+l.length:=by
 intro l;induction l with
 |nil=>intro s _ h;exact⟨h,Aa _⟩
 |cons a l g=>
  intro s hl f;have d:=hl a CC;have c:-1<=(Dp s a).2/\(Dp s a).2<=1:=by
   unfold Dp;split
   . exact f
   . exact d
  have i:(Dp s a).1<=s.1+1:=by
   unfold Dp;split
   . omega
   . grind
  obtain⟨j,k⟩:=g (Dp s a) (λb e=>hl b (FO _ e)) c;grind
theorem eF{a b:Rat}(g:b≠0):(a*b<0↔DZ b=-DZ a):=by
 rcases TI a with⟨d,e⟩|⟨d,e⟩|⟨d,e⟩<;>rcases TI b with⟨c,f⟩|⟨c,f⟩|⟨c,f⟩<;>rw[e,f]
 . have:=Cb (a:=-a) (b:=-b) DI DI;grind
 . exact absurd c g
 . have:=Cb (a:=-a) (b:=b) DI c;grind
 . rw[d];grind
 . exact absurd c g
 . rw[d];grind
 . have:=Cb (a:=a) (b:=-b) d DI;grind
 . exact absurd c g
 . have:=Cb d c;grind
theorem eH:∀(l:Ja) (n:Nat) (a:Rat),((l.map DZ).foldl Dp (n,DZ a)).1=n+Eb a l:=by
 intro l;induction l with
 |nil=>intro n a;rfl
 |cons b l c=>
  intro n a;grind[Dp,TH,Eb,eF]
def KD(l:Ja):XQ (l.map DZ)=Dc l:=by
 have:=eH l 0 0;rw[CA]at this;exact this
def eI(l:List Int)(a:Int):(l++[a]).foldl Dp (0,0)=Dp (l.foldl Dp (0,0)) a:=by rw[List.foldl_append];rfl
def Ef(s:Nat × Int)(a:Int):Nat × Int:=if a=0 then s else(if s.2≠0/\a≠s.2 then s.1+1 else s.1,a)
def eJ(l:List Int):∀(s:Nat × Int),(∀a∈l,-1<=a/\a<=1)->(-1<=s.2/\s.2<=1)->l.foldl Ef s=l.foldl Dp s:=by
 induction l with
 |nil=>intro s _ _;rfl
 |cons a l j=>
  intro s hl i;have f:=hl a CC;have e:Ef s a=Dp s a:=by
   unfold Ef Dp;by_cases c:a=0
   . rw[BG c,BG c]
   . rw[BD c,BD c];by_cases d:a=-s.2
     . rw[BG d,BG ⟨O,O⟩]
     . rw[BD d,BD O]
  rw[List.foldl_cons,List.foldl_cons,e];refine j _ (λb g=>hl b (FO _ g)) ?_;unfold Dp;split
  . exact i
  . exact f
theorem eK(q:Rat):Ej q 0=DZ q:=by
 have e:Ej q 0=if q.num<0 then -1 else if 0<q.num then 1 else 0:=by
  unfold Ej XN;simp
 grind[DZ]
def EJ(p:Ja):Int:=DZ (cf p (p.length-1))
def El(p:Ja):Int:=if p.length%2=0 then -EJ p else EJ p
theorem eL(q:Rat):DZ (-q)=-DZ q:=by
 unfold DZ;rw[Rat.neg_num,Int.sign_neg]
namespace M3
def Em(s:Int):D:=.int .i64 s
def PR(xs:List Int)(v:D)(base:Nat)(w:H)(h:Yn 3 base w v (xs.map Em))(u:∀s∈xs,-1<=s/\s<=1)(hl:xs.length<=1000000000):
 F I 59 #[v] w λe w'=>e=.returned (.int .i64 (XQ xs:Int))/\Bl w w':=by
 obtain⟨a,c,rfl,ae,ah⟩:=h.form;obtain⟨len,z⟩:=ex (xs.length);have x:(xs.map Em).length=len:=by rw[Cq];exact z
 rw[x];have am:(len:Int)<=1000000000:=O
 have W:=Y (show ∀k (U:k<len),∃g,a=some ⟨g,0,none⟩/\g<w.heap.size/\w.cell? ⟨g,k,none⟩=some (.int .i64 (xs.getD k 0))from λk U=>by
  obtain⟨g,cap,e,_,X,h4⟩:=h.cell (j:=k) O;rw[x]at e;cases e;exact⟨g,J,X,by rw[h4];simp[Em,List.getD,show k<xs.length by omega]⟩)
 obtain⟨HX,P,Q,y⟩:=Di u z (λk=>NI (xs.take k) (0,0) (λs f=>u s (Fc f)) DK) λk=>eJ (xs.take k) (0,0) (λs f=>u s (Fc f)) DK;clear h ae ah u hl z x;go_enter func59,ntmps59
 go_wp2;go_loopw [3,4,5] (λnv lv A wr=>∃k:Nat,k<=len/\A=.int .i64 (k:Int)/\nv=.int .i64 (((xs.take k).foldl Ef (0,0)).1:Int)/\lv=.int .i64 ((xs.take k).foldl Ef (0,0)).2/\Hid (Bl w wr)) λ_ _ A _=>len-(intOf A).toNat
 case atStart=>exact⟨0,Ap _,J,J,J,Y (BA _ _)⟩
 case round=>
  obtain⟨k,U,rfl,rfl,rfl,i⟩:=hrel;by_cases ai:k<len
  . have an:(k:Int)<(len:Int):=O
    obtain⟨g,rfl,hg,T⟩:=W.o k ai;have R:=(i.o.cell (p:=⟨g,k,none⟩) hg).trans T;have K:k<xs.length:=by have:=P.o;omega
    have B:xs.getD k 0=xs[k]:=by simp[List.getD,K]
    rw[B]at R;obtain⟨s,f⟩:=ex (xs[k]);have m:(xs.take (k+1)).foldl Ef (0,0)=Ef ((xs.take k).foldl Ef (0,0)) s:=by
     rw[<-CR K,List.foldl_append,f];rfl
    have t:=Q.o k;rw[<-y.o k,Ai]at t;rw[f]at R;obtain⟨st,V⟩:=ex ((xs.take k).foldl Ef (0,0));rw[V]at m t ⊢;obtain⟨n,l⟩:=st;simp only at t;have b:=Y m;obtain⟨⟨aj,ak⟩,ad⟩:=t;have hn:n<=1000000000:=O
    clear m V f T ad Q y B;by_cases o:s=0
    . have d:Ef (n,l) s=(n,l):=by unfold Ef;rw[BG o]
      rw[d]at b;subst o;go_wp2;go_roundw
      case rel=>exact⟨k+1,O,by go_num,by rw[b.o],by rw[b.o],i⟩
      case measure=>simp[intOf];omega
    . by_cases q:l=0
      . have d:Ef (n,l) s=(n,s):=by unfold Ef;rw[BD o,BD (by simp[q])]
        rw[d]at b;subst q;go_wp2;go_roundw
        case rel=>exact⟨k+1,O,by go_num,by rw[b.o],by rw[b.o],i⟩
        case measure=>simp[intOf];omega
      . by_cases r:s=l
        . have d:Ef (n,l) s=(n,s):=by unfold Ef;rw[BD o,BD (by simp[r])]
          rw[d]at b;subst r;go_wp2;go_roundw
          case rel=>exact⟨k+1,O,by go_num,by rw[b.o],by rw[b.o],i⟩
          case measure=>simp[intOf];omega
        . have d:Ef (n,l) s=(n+1,s):=by unfold Ef;rw[BD o,BG ⟨q,r⟩]
          rw[d]at b;have q1:(l != 0)=true:=by simp[q]
          have q2:(s != l)=true:=by simp[r]
          go_wp2;go_roundw
          case rel=>exact⟨k+1,O,by go_num,by rw[b.o];go_num,by rw[b.o],i⟩
          case measure=>simp[intOf];omega
  . obtain rfl:k=len:=O
    have m:((xs.take k).foldl Ef (0,0)).1=XQ xs:=by rw[y.o k,<-P.o,FC];rfl
    rw[m];go_wp2;go_ret;exact⟨J,i.o⟩
end M3
namespace M3
variable{c l:Nat}{a:Option M}
def row_zero(V:H)(a:Option M):RowK true V (C a 0 0) []:=⟨a,0,J,Aa _,O,DG,An J⟩
def TJ(V:H):Has V (S #[C Option.none 0 0]) (.poly []):=⟨_,J,row_zero V Option.none⟩
def TK(V:H):Jh V (S #[C Option.none 0 0]) []:=⟨_,J,row_zero V Option.none⟩
def DH.poly2{w V:H}{bs:List (Option (Nat × Dat))}(M:DH w V bs){i B:Nat}{ps:Ja}(h:bs[i]?=some (some (B,.poly ps))):∃a l c,Boxed V B 25 (C a l c)/\Jh V (S #[C a l c]) ps:=by
 obtain⟨a,l,c,b,d⟩:=M.poly h;exact⟨a,l,c,b,_,J,d⟩
def NJ{W:H}{B:Nat}(b:Boxed W B 25 (C a l c)){x v:D}{qs:Ja}(h:Jh W v qs):Jh (W.setCell ⟨B,0,Option.none⟩ x) v qs:=by
 obtain⟨u,e,h⟩:=h;exact⟨u,e,Ez b x h⟩
def Has.set1{V:H}{v:D}{d:Dat}(h:Has V v d){B:Nat}(q:Boxed V B 25 (C a l c))(e:JE (C a l c)=true)(b:D):Has (V.setCell ⟨B,0,Option.none⟩ b) v d:=
 h.keep (Sd q e b) (Au λ_ _ g=>Ez q b g)
def F2.set1{V:H}{v:D}{d1 d:Dat}(h:F2 V v d1 d){B:Nat}{a:Option M}{l c:Nat}(q:Boxed V B 25 (C a l c))(f:JE (C a l c)=true)(b:D):F2 (V.setCell ⟨B,0,Option.none⟩ b) v d1 d:=by
 obtain⟨u1,u2,e,g,i⟩:=h;exact⟨u1,u2,e,g.set1 q f b,i.set1 q f b⟩
section
variable {w V:World} {bs:List (Option (Nat × Dat))} {B:Nat} {ρ:Operand->Value} {x y:Operand} {dst:Option Tmp} {ty:TypeId} {ps:String} {af:Array Edge} {gd:Option (Nat × Bool)} {q q0:Rat} {z z0:Int} {p p0:Ja} {v p1 u1:Value} {ds:List Dat} {T:World->Value->Prop}
def Ko(i:Nat)(M:DH w V bs)(b:Has V u1 (.poly p))(h:bs[i]?=some (some (B,.poly p0)):=by rfl)(hp:p1=L (some ⟨B,0,none⟩):=by rfl)(f:ρ x=p1:=by kernel_rfl)(g:ρ y=u1:=by kernel_rfl)(hT:∀ {a l c x},Boxed V B 25 (C a l c)->DH w (V.setCell ⟨B,0,none⟩ x) (bs.set i (some (B,.poly p)))->T (V.setCell ⟨B,0,none⟩ x) N:=by exact λ_ m=>m):Wr ρ { dst:=none,op:=.store 25 x y,type:=ty,pos:=ps,after:=af,guard:=gd } V ds (.eq N) T:=by
 rw[hp]at f;obtain⟨a,l,c,n,r⟩:=M.poly2 h;have o:=n.cell;have f0:=n.frozen;obtain⟨j,l1,c1,e⟩:=Jh.form (show Jh V _ _ from b);rw[e]at b;rw[e]at g;exact⟨.skip,N,_,by go_simp,Au ⟨J,J⟩,J,λd v _ k=>k.set1 n J _,hT n (M.putPoly h b)⟩
def NK(i:Nat)(M:DH w V bs)(h:bs[i]?=some none:=by rfl)(hT:∀ {o},DH w (V.alloc o) (bs.set i (some (V.heap.size,.poly [])))->T (V.alloc o) (L (some ⟨V.heap.size,0,none⟩)):=by exact λm=>m):Wr ρ { dst:=dst,op:=.alloc 25,type:=ty,pos:=ps,after:=af,guard:=gd } V ds .ptr T:=
 ⟨_,L (some ⟨V.heap.size,0,none⟩),_,by go_simp;exact J,An J,J,λ_ _ _ k=>k.alloc _,hT (M.fill h (.poly []) (TJ V))⟩
end
