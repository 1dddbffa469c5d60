import Derived.Test.YtcahejkcdcjjgaaGreatDoorS22
import Derived.Test.YtcahejkcdcjjgaaGreatDoorS24
set_option linter.all false
open Go.Value renaming slice->C,bool->B,pointer->I
open Go.Obj renaming cells->E
open Go renaming World->G,Value->D,Calls->F,undef->L
open Go.Proofs.Tryz renaming prog->H
set_option maxRecDepth 99999
set_option maxHeartbeats 0
namespace Go.Proofs.YtcahejkcdcjjgaaGreatDoor
open Rat renaming divInt->WU
open Proofs.Tryz
open Go.RowKit Go.Shelf
attribute [local go_sem] Oper.semAt_some
section
variable{x y:Int}
def Hq(N P:D)(x y:Int)(w:G)(X:Ji w N x)(hb:Ji w P y)(z:(Jc O x.natAbs).length<1000000000000)(A:(Jc O y.natAbs).length<1000000000000):
 F H 83 #[N,P] w λe d=>∃u,e=.returned u/\Ji d u (Int.gcd x y:Nat)/\Bl w d:=by
 obtain⟨a,la,r,i,c⟩:=X;cases i;obtain⟨b,lb,v,i,n⟩:=hb;cases i;have o:=c.len;have q:=n.len;obtain⟨s,hs⟩:=ex (decide (x<0));obtain⟨t,K⟩:=ex (decide (y<0));rw[hs,K];obtain⟨W0,k⟩:=ex (((w.alloc (E #[B s,C a la r] 36)).alloc (E #[B t,C b lb v] 36)).alloc (E #[B false,C none 0 0] 36));obtain⟨j,b0,W,g⟩:=Id k;have R:=Ja (Sj a la r b lb v _ _ W0 (UN.below c j) (UN.below n j) (by rw[o];exact z) (by rw[q];exact A));have Q:=Ja λ(V:G) (u:D) (c:UN V u (Nat.gcd x.natAbs y.natAbs))=>show F H 112 #[B false,u] V λe d=>∃u,e=.returned u/\Ji d u (Int.gcd x y:Nat)/\Bl V d from GS false u _ V c;have k1:=b0.c1;have k3:=W.c1;have T:=Ja k;clear c n hs K o q z A k;go_enter func83,ntmps83
 go_upto_region 1 with fail
 rw[T.o];have ah:¬(w.heap.size=w.heap.size+1+1):=Z
 go_wp2_with(first
  |(go_at_call 116;refine R.o.mono ?_;rintro e w1 ⟨u1,rfl,M,ad⟩;obtain⟨na,nc,rfl⟩:=UN.form M)
  |(go_at_call 112;refine(Q.o _ _ M).mono ?_;rintro e w2 ⟨u2,rfl,m,ae⟩;obtain⟨sa,sl,sc,rfl⟩:=m.form;obtain⟨s2,l⟩:=ex (decide (((Int.gcd x y:Nat):Int)<0));rw[l]at m;rw[l];clear l;have f:=Bt ad ae;obtain⟨r0,r1⟩:=(g.below f).cp;obtain⟨f0,f1⟩:=(g.below f).fp))
 have U:=Bt j f;have S:=m.box (g.below f) J J (x0:=B s2) (x1:=C sa sl sc);exact BM (by simp[results,results83,go_sem,r0,r1]) J ⟨_,J,S,(U.setCell (p:=⟨_,0,none⟩) so _).setCell (p:=⟨_,1,none⟩) so _⟩
def TE(w:G)(a b c d:Obj):Bl w ((((w.alloc a).alloc b).alloc c).alloc d):=
 (((Ba w _).alloc DQ _).alloc si _).alloc si _
theorem N7{z r:Int}(d:y≠0)(h:r+y*z=x)(c:0<=r)(e:r<y.natAbs):z=x/y/\r=x%y:=by
 rcases Int.lt_or_gt_of_ne d with g|hp
 . have f:=(Int.ediv_emod_unique (a:=x) (b:=-y) (r:=r) (q:=-z) Z).2 ⟨De,c,Z⟩;grind[Int.ediv_neg,Int.emod_neg]
 grind[Int.ediv_emod_unique]
theorem TF(b:y≠0)(c:¬(x<0/\x.natAbs%y.natAbs≠0)):
 (if(!(decide (x<0)==decide (y<0)))=true then -((x.natAbs/y.natAbs:Nat):Int)else((x.natAbs/y.natAbs:Nat):Int))=x/y/\((x.natAbs%y.natAbs:Nat):Int)=x%y:=by
 have a:=A0 x.natAbs y.natAbs;have d:=AY x.natAbs (show y.natAbs>0 by omega);generalize x.natAbs/y.natAbs=Q at *;generalize x.natAbs%y.natAbs=R at *;have e:(y.natAbs:Int)*Q+R=x.natAbs:=by rw[<-a];push_cast;rfl
 apply N7 b _ Z Z;grind
theorem TG(c:y≠0)(a:x<0/\x.natAbs%y.natAbs≠0):
 (if(!(decide (x<0)==decide (y<0)))=true then -((x.natAbs/y.natAbs+1:Nat):Int)else((x.natAbs/y.natAbs+1:Nat):Int))=x/y/\((y.natAbs-x.natAbs%y.natAbs:Nat):Int)=x%y:=by
 have b:=A0 x.natAbs y.natAbs;have e:=AY x.natAbs (show y.natAbs>0 by omega);generalize x.natAbs/y.natAbs=Q at *;generalize x.natAbs%y.natAbs=R at *;have f:(y.natAbs:Int)*Q+R=x.natAbs:=by rw[<-b];push_cast;rfl
 obtain⟨g,d⟩:=a;apply N7 c _ Z Z;grind
def TH{W:G}{B:Nat}{t:TypeId}{c d u0 u1:D}(x0 x1 a b:D)(h:Jo W B t c d)(k:Jo W (B+1) t u0 u1):
 Jo ((((W.setCell ⟨B,0,none⟩ x0).setCell ⟨B,1,none⟩ x1).setCell ⟨B+1,0,none⟩ a).setCell ⟨B+1,1,none⟩ b) B t x0 x1/\Jo ((((W.setCell ⟨B,0,none⟩ x0).setCell ⟨B,1,none⟩ x1).setCell ⟨B+1,0,none⟩ a).setCell ⟨B+1,1,none⟩ b) (B+1) t a b:=
 ⟨(((h.set0 x0).set1 x1).far DQ a).far DQ b,(((k.far DQ x0).far DQ x1).set0 a).set1 b⟩
def TI(w:G)(a b c d:D)(p0 p1:D):
 Jo ((((w.alloc (E #[a,b] 36)).alloc (E #[c,d] 36)).alloc (E #[p0,p1] 36)).alloc (E #[p0,p1] 36)) w.heap.size 36 a b/\
 Jo ((((w.alloc (E #[a,b] 36)).alloc (E #[c,d] 36)).alloc (E #[p0,p1] 36)).alloc (E #[p0,p1] 36)) (w.heap.size+1) 36 c d/\
 Jo ((((w.alloc (E #[a,b] 36)).alloc (E #[c,d] 36)).alloc (E #[p0,p1] 36)).alloc (E #[p0,p1] 36)) (w.heap.size+1+1) 36 p0 p1/\
 Jo ((((w.alloc (E #[a,b] 36)).alloc (E #[c,d] 36)).alloc (E #[p0,p1] 36)).alloc (E #[p0,p1] 36)) (w.heap.size+1+1+1) 36 p0 p1:=by
 refine⟨(((Jo.new w _ _ _).alloc _).alloc _).alloc _,?_,?_,?_⟩
 . have h:=((Jo.new (w.alloc (E #[a,b] 36)) 36 c d).alloc (E #[p0,p1] 36)).alloc (E #[p0,p1] 36);rw[A1]at h;exact h
 . have h:=(Jo.new ((w.alloc (E #[a,b] 36)).alloc (E #[c,d] 36)) 36 p0 p1).alloc (E #[p0,p1] 36);rw[A1,A1]at h;exact h
 . have h:=Jo.new (((w.alloc (E #[a,b] 36)).alloc (E #[c,d] 36)).alloc (E #[p0,p1] 36)) 36 p0 p1;rw[A1,A1,A1]at h;exact h
theorem TJ(a:WO)(la j:Nat)(b:WO)(lb g X Y:Nat)(s t:Bool)(z r:Int)(w:G)(hu:UN w (C a la j) X)(hv:UN w (C b lb g) Y)(hY:Y≠0)(bf:la<1000000000000)(bg:lb<1000000000000)
(HP:Hid (¬(s=true/\X%Y≠0)->(if(!(s==t))=true then -((X/Y:Nat):Int)else((X/Y:Nat):Int))=z/\((X%Y:Nat):Int)=r))
(HN:Hid (s=true/\X%Y≠0->(if(!(s==t))=true then -((X/Y+1:Nat):Int)else((X/Y+1:Nat):Int))=z/\((Y-X%Y:Nat):Int)=r)):
 F H 117 #[.agg #[B s,C a la j],.agg #[B t,C b lb g]] w λe c=>∃q o,e=.returned (.tuple #[q,o,B true])/\Ji c q z/\Ji c o r/\Bl w c:=by
 obtain⟨b0,x,S,T⟩:=TI w (B s) (C a la j) (B t) (C b lb g) (B false) (C none 0 0);have N:=TE w (E #[B s,C a la j] 36) (E #[B t,C b lb g] 36) (E #[B false,C none 0 0] 36) (E #[B false,C none 0 0] 36);obtain⟨W0,ae⟩:=ex ((((w.alloc (E #[B s,C a la j] 36)).alloc (E #[B t,C b lb g] 36)).alloc (E #[B false,C none 0 0] 36)).alloc (E #[B false,C none 0 0] 36));rw[ae]at b0 x S T N;have Qh:=Ja ae;have bh:lb≠0:=λe=>hY ((JC Jb).1 (As (by rw[<-UN.len hv,e])));have Qn:=UN.below hu N;have Qd:=UN.below hv N;have Qm:=Ja (LZ a la j b lb g X Y W0 Qn Qd hY Z);have Qw:=Ja Qd;have Qq:=Ja (UN.len hu).symm;obtain⟨k0,k1⟩:=b0.cp;obtain⟨k2,K⟩:=x.cp;clear ae hu hv Qn Qd;go_enter func117,ntmps117
 go_upto_region 1 with fail
 rw[Qh.o];go_upto_region 4 with(go_at_call 151;refine Qm.o.mono ?_;rintro e w1 ⟨u1,v1,rfl,A,ad,k⟩;obtain⟨ua,uc,rfl⟩:=UN.form A;obtain⟨va,vc,rfl⟩:=UN.form ad)
 clear Qm Qh;obtain⟨k0,k1⟩:=(b0.below k).cp;obtain⟨k2,K⟩:=(x.below k).cp;have Qg:(Jc O (X%Y)).length=0↔X%Y=0:=⟨λh=>(JC Jb).1 (As h),λh=>by rw[h,Jz];rfl⟩;have bj:=AY X (show Y>0 by omega);have bi:=Yv (m:=X) (n:=X/Y) (CT _ _);have Qk:(Jc O (X/Y)).length<1099511627776:=by
  have d:=(Jn A).2.2.2.1
  have:(Jc O X).length=la:=by
   have h:=Qq.o;omega
  omega
 obtain⟨lr,az⟩:=ex ((Jc O (X%Y)).length);obtain⟨lq,ay⟩:=ex ((Jc O (X/Y)).length);rw[az]at ad Qg ⊢;rw[ay]at A Qk ⊢;obtain⟨y,aq⟩:=ex ((s&&decide (0<lr)):Bool);have l:=Ja aq;have Qp:=Ja Qg;clear aq Qg az ay;go_cut [29] λv M=>v=B y/\M=w1
 case first=>
  cases s with
  |false=>
   have e5:y=false:=by rw[<-l.o];rfl
   go_wp2_with fail
   go_meet
   grind
  |true=>
   by_cases h5:0<lr
   . have e5:y=true:=by rw[<-l.o];simp;omega
     go_wp2_with fail
     go_meet
     grind
   . have e5:y=false:=by rw[<-l.o];simp;omega
     go_wp2_with fail
     go_meet
     grind
 case rest=>
  obtain⟨rfl,rfl⟩:=hcut;go_upto_if 29 with fail
  go_cut [7,8] λqv rv M=>∃(qa:WO) (ql qc Q:Nat) (oa:WO) (ol oc R:Nat),qv=C qa ql qc/\rv=C oa ol oc/\Hid (UN M (C qa ql qc) Q)/\Hid (UN M (C oa ol oc) R)/\Hid ((if(!(s==t))=true then -(Q:Int)else(Q:Int))=z/\(R:Int)=r)/\Bl W0 M
  case first=>
   cases y with
   |false=>
    have hc:¬(s=true/\X%Y≠0):=λ⟨d,h2⟩=>by
     have h:=l.o;rw[d]at h;simp at h;exact h2 (Qp.o.1 h)
    go_wp2_with fail
    go_meet
    case rel=>exact⟨_,_,_,_,_,_,_,_,J,J,Ja A,Ja ad,Ja (HP.o hc),k⟩
   |true=>
    have hc:s=true/\X%Y≠0:=by
     have h:=l.o;simp at h;exact⟨h.1,λe=>by have:=Qp.o.2 e;omega⟩
    have HC:=Ja hc;clear hc;have Qv:=Ja (show ∀V:G,Bl wc V->F H 113 #[C ua lq uc,C (some ⟨V.heap.size,0,none⟩) 1 1] (V.alloc (E #[.int .u64 1] 163)) λe c=>∃u,e=.returned u/\UN c u (X/Y+1)/\Below (V.alloc (E #[.int .u64 1] 163)).heap.size (V.alloc (E #[.int .u64 1] 163)) c from λV h=>by
     have Qe:Row .u64 (V.alloc (E #[.int .u64 1] 163)) (C (some ⟨V.heap.size,0,none⟩) 1 1) (Jc O 1):=by
      rw[La Z uo];exact(DU.made (xs:=[1]) (BV V (E #[.int .u64 ((1:Nat):Int)] 163))).row 0 1 1 DQ Z Z Z
     exact M9 ua lq uc (some ⟨V.heap.size,0,none⟩) 1 1 (X/Y) 1 _ (Row.below (Row.below A h) (Ba V _)) Qe Qk Z)
    have Qz:=Ja λ(V:G) (h:Bl wc V)=>LE b lb g va lr vc Y (X%Y) V (Row.below (Row.below Qw.o k) h) (Row.below ad h) Z;have f:Bl wc wc.drew:=(BL _ wc).drew;have U:=x.below k;have lx:=U.lt;go_wp2_with fail
    have K:=U.c1;go_region_held3 (λc=>c.cell? ⟨w.heap.size+1,1,none⟩=some (C b lb g)) (first|exact K|(go_keep;done))
     (first
      |(go_at_call 113;refine(Qv.o _ f).mono ?_;rintro e w3 ⟨u3,rfl,ba,bd⟩;obtain⟨pa,pc,rfl⟩:=UN.form ba;have f:=Nn f bd;have K:=(U.below f).c1)
      |(go_at_call 115;refine(Qz.o _ f).mono ?_;rintro e w4 ⟨u4,rfl,bc,an⟩;obtain⟨ma,mc,rfl⟩:=UN.form bc;have f:=Bt f an;have K:=(U.below f).c1))
    all_goals go_wp2_with fail
    go_meet
    case rel=>exact⟨_,_,_,_,_,_,_,_,J,J,Ja (UN.below ba an),Ja bc,Ja (HN.o HC.o),Bt k f⟩
  case rest=>
   obtain⟨qa,ql,qc,Q,oa,ol,oc,R,rfl,rfl,hQ,hR,hZ,W⟩:=hcut;have Qi:=Ja (show ∀V:G,Bl wc V->F H 112 #[B (!(s==t)),C qa ql qc] V λe c=>∃u,e=.returned u/\Ji c u z/\Bl V c from λV h=>by
    have d:=GS (!(s==t)) _ _ V (UN.below hQ.o h);rw[hZ.o.1]at d;exact d)
   have Qj:=Ja (show ∀V:G,Bl wc V->F H 112 #[B false,C oa ol oc] V λe c=>∃u,e=.returned u/\Ji c u r/\Bl V c from λV h=>by
    have d:=GS false _ _ V (UN.below hR.o h);simp only[CN,if_false]at d;rw[hZ.o.2]at d;exact d)
   have k0:=(b0.below W).c0;have k2:=(x.below W).c0;go_wp2_with(first
    |(go_at_call 112;refine(Qi.o _ (BL _ _)).mono ?_;clear Qi;rintro e w5 ⟨u5,rfl,ak,ah⟩;obtain⟨P,l5,c5,rfl⟩:=ak.form;obtain⟨s5,ai⟩:=ex (decide (z<0));rw[ai]at ak;rw[ai];clear ai)
    |(go_at_call 112;refine(Qj.o _ ah).mono ?_;clear Qj;rintro e w6 ⟨u6,rfl,am,ap⟩;obtain⟨a6,l6,c6,rfl⟩:=am.form;obtain⟨s6,aj⟩:=ex (decide (r<0));rw[aj]at am;rw[aj];clear aj;have i:=(Bt W ah).trans (ap.mono (Bt W ah).size);obtain⟨q0,q1⟩:=(S.below i).cp;obtain⟨q2,q3⟩:=(T.below i).cp;obtain⟨f0,f1⟩:=(S.below i).fp;obtain⟨f2,f3⟩:=(T.below i).fp))
   have Qf:=S.below i;have Qo:=T.below i;obtain⟨z4,z5⟩:=TH (B s5) (C P l5 c5) (B s6) (C a6 l6 c6) Qf Qo;obtain⟨Qy,Qx⟩:=z4.cp;obtain⟨Qr,Qu⟩:=z5.cp;have Ql:Jo ((w6.setCell ⟨w.heap.size+1+1,0,none⟩ (B s5)).setCell ⟨w.heap.size+1+1,1,none⟩ (C P l5 c5)) (w.heap.size+1+1+1) 36 (B false) (C none 0 0):=(Qo.far DQ _).far DQ _;have Qs:=((ak.below ap).box Qf J J (x0:=B s5) (x1:=C P l5 c5)).box Ql J J (x0:=B s6) (x1:=C a6 l6 c6);have Qt:=(am.box Qf J J (x0:=B s5) (x1:=C P l5 c5)).box Ql J J (x0:=B s6) (x1:=C a6 l6 c6);have Ua:=Bt N i;exact BM (by simp[results,results117,go_sem,Qy,Qx,Qr,Qu]) J ⟨_,_,J,Qs,Qt,(((Ua.setCell (p:=⟨_,0,none⟩) so _).setCell (p:=⟨_,1,none⟩) so _).setCell (p:=⟨_,0,none⟩) so _).setCell (p:=⟨_,1,none⟩) so _⟩
def TK(j k:D)(x y:Int)(w:G)(n:Ji w j x)(p:Ji w k y)(i:y≠0)(r:(Jc O x.natAbs).length<1000000000000)(s:(Jc O y.natAbs).length<1000000000000):
 F H 117 #[j,k] w λe d=>∃q o,e=.returned (.tuple #[q,o,B true])/\Ji d q (x/y)/\Ji d o (x%y)/\Bl w d:=by
 obtain⟨a,la,l,rfl,f⟩:=n;obtain⟨b,lb,m,rfl,g⟩:=p;refine TJ a la l b lb m x.natAbs y.natAbs _ _ (x/y) (x%y) w f g Z (by rw[UN.len f];exact r) (by rw[UN.len g];exact s) (λc=>TF i λh=>c ⟨Bi h.1,h.2⟩) (λc=>TG i ⟨B3 c.1,c.2⟩)
end
section
open M3
variable{p q:Rat}
def TL(z:Int):(XI z 0=0)↔z=0:=by
 unfold XI;omega
def N8(v:D)(z:Int)(w:G)(h:Ji w v z):
 F H 100 #[v] w λe m=>e=.returned (B (decide (z=0)))/\Bl w m:=by
 obtain⟨a,l,c,rfl⟩:=h.form;obtain⟨s,hs⟩:=ex (decide (z<0));rw[hs]at h ⊢;clear hs;have b0:=Jo.new w 36 (B s) (C a l c);have b:Bl w (w.alloc (E #[B s,C a l c] 36)):=Ba w _;obtain⟨W0,d⟩:=ex (w.alloc (E #[B s,C a l c] 36));rw[d]at b0 b;have j:=Ja d;have f:=Ja (XJ _ _ z 0 W0 (h.below b) (EB _));obtain⟨o,p⟩:=b0.cp;have g:=Ja (TL z);obtain⟨n,i⟩:=ex (XI z 0);rw[i]at f g;clear d i;go_enter func100,ntmps100
 go_upto_region 1 with fail
 rw[j.o];go_wp2_with(go_at_call 87;refine f.o.mono ?_;rintro e q ⟨rfl,k⟩)
 go_ret;refine⟨?_,Bt b k⟩;show Ending.returned (Value.bool (n==0))=_;have e:(n==0)=decide (z=0):=by rw[CQ];simp[g.o]
 rw[e]
def dd(y:Int):Int:=if y=0 then 1 else y
def N9(v:D)(x y:Int)(w:G)(h:Yw w v x y):
 F H 59 #[v] w λe q=>e=.returned (B (decide (y=0)))/\Bl w q:=by
 obtain⟨s,a,l,c,t,b,k,d,rfl,r,o⟩:=h;have b0:=Jr.new w 38 (B s) (C a l c) (B t) (C b k d);have f:Bl w (w.alloc (E #[B s,C a l c,B t,C b k d] 38)):=Ba w _;obtain⟨W0,g⟩:=ex (w.alloc (E #[B s,C a l c,B t,C b k d] 38));rw[g]at b0 f;have m:=Ja g;have i:=Ja (N8 _ _ W0 (o.below f));have u:=b0.c2;have z:=b0.c3;obtain⟨n,j⟩:=ex (decide (y=0));rw[j]at i ⊢;clear g j;go_enter func59,ntmps59
 go_upto_region 1 with fail
 rw[m.o];go_wp2_with(go_at_call 100;refine i.o.mono ?_;rintro e A ⟨rfl,p⟩)
 go_ret;exact⟨J,Bt f p⟩
def TM(v:D)(x y:Int)(w:G)(h:Yw w v x y):
 F H 82 #[v] w λe V=>∃u,e=.returned u/\Ji V u (dd y)/\Bl w V:=by
 have N:=h;obtain⟨s,a,l,c,t,b,k,d,rfl,X,P⟩:=h;obtain⟨W0,j⟩:=ex ((w.alloc (E #[B s,C a l c,B t,C b k d] 38)).alloc (E #[B false,C none 0 0] 36));have b0:Jr W0 w.heap.size 38 (B s) (C a l c) (B t) (C b k d):=by rw[<-j];exact(Jr.new w _ _ _ _ _).alloc _
 have n:Bl w W0:=by rw[<-j];exact LM w _ _
 have i:Jo W0 (w.heap.size+1) 36 (B false) (C none 0 0):=by
  have h:=Jo.new (w.alloc (E #[B s,C a l c,B t,C b k d] 38)) 36 (B false) (C none 0 0);rw[A1,j]at h;exact h
 have m:=Ja (N9 _ x y W0 (N.below n));have M:=Ja j;obtain⟨k0,k1,k2,k3⟩:=b0.cq;have W:=Ja (P.below n);clear N X P j;by_cases f:y=0
 . rw[Bi f]at m;have o:=Ja (show dd y=1 by unfold dd;rw[Br f]);clear f;go_enter func82,ntmps82
   go_upto_region 1 with fail
   rw[M.o];go_wp2_with(first
    |(go_at_call 59;refine m.o.mono ?_;rintro e w1 ⟨rfl,g⟩)
    |(go_at_call 110;refine(Iq 1 Z Z _).mono ?_;rintro e w2 ⟨u2,rfl,A,ad⟩;obtain⟨S,U,T,rfl⟩:=A.form;obtain⟨R,z⟩:=ex (decide ((1:Int)<0));rw[z]at A;rw[z];clear z;have f:=Bt g ad;obtain⟨r0,K⟩:=(i.below f).cp;obtain⟨f0,f1⟩:=(i.below f).fp))
   have r:=Bt n f;have q:=A.box (i.below f) J J (x0:=B R) (x1:=C S U T);exact BM (v:=.agg #[B R,C S U T]) (by simp[results,results82,go_sem,r0,K]) J ⟨_,J,by rw[o.o];exact q,(r.setCell (p:=⟨_,0,none⟩) so _).setCell (p:=⟨_,1,none⟩) so _⟩
 . rw[Bh f]at m;have o:=Ja (show y=dd y by unfold dd;rw[Bk f]);clear f;go_enter func82,ntmps82
   go_upto_region 1 with fail
   rw[M.o];go_wp2_with(go_at_call 59;refine m.o.mono ?_;rintro e w1 ⟨rfl,g⟩;have m2:=(b0.below g).c2;have m3:=(b0.below g).c3;obtain⟨r0,K⟩:=(i.below g).cp;obtain⟨f0,f1⟩:=(i.below g).fp)
   have r:=Bt n g;have Q:=W.o.below g;rw[o.o]at Q;have q:=Q.box (i.below g) J J (x0:=B t) (x1:=C b k d);exact BM (v:=.agg #[B t,C b k d]) (by simp[results,results82,go_sem,r0,K]) J ⟨_,J,q,(r.setCell (p:=⟨_,0,none⟩) so _).setCell (p:=⟨_,1,none⟩) so _⟩
def TN(q:Rat):dd (denZ q)=q.den:=by
 have:=q.den_pos;unfold dd denZ;omega
def YT(v:D)(q:Rat)(w:G)(h:Jg w v q):
 F H 59 #[v] w λe b=>e=.returned (B (decide (q.den=1)))/\Bl w b:=by
 have a:=N9 v q.num (denZ q) w h.pair;rwa[decide_eq_decide.2 Ih]at a
def Eh(v:D)(q:Rat)(w:G)(h:Jg w v q):
 F H 82 #[v] w λe a=>∃u,e=.returned u/\Ji a u (q.den:Int)/\Bl w a:=by
 have b:=TM v q.num (denZ q) w h.pair;rwa[TN]at b
def Xq(R S:D)(x y:Int)(w:G)(i:Ji w R x)(j:Ji w S y)(Q:y≠0)(K:Sok x)(M:Sok y):
 F H 84 #[R,S] w λe T=>∃u,e=.returned u/\Ji T u (x/y)/\Bl w T:=by
 obtain⟨a,la,ca,rfl⟩:=i.form;obtain⟨b,lb,cb,rfl⟩:=j.form;obtain⟨s,hs⟩:=ex (decide (x<0));obtain⟨t,N⟩:=ex (decide (y<0));rw[hs]at i ⊢;rw[N]at j ⊢;clear hs N;obtain⟨W0,o⟩:=ex (((w.alloc (E #[B s,C a la ca] 36)).alloc (E #[B t,C b lb cb] 36)).alloc (E #[B false,C none 0 0] 36));obtain⟨n,b0,b1,bR⟩:=Id o;have U:=Ja (TK _ _ x y W0 (i.below n) (j.below n) Q (by have:=K.words;omega) (by have:=M.words;omega));have W:=Ja o;obtain⟨k0,k1⟩:=b0.cp;obtain⟨k2,k3⟩:=b1.cp;clear i j Q K M o;go_enter func84,ntmps84
 go_upto_region 1 with fail
 rw[W.o];go_upto_region 2 with(go_at_call 117;refine U.o.mono ?_;rintro e z ⟨u1,u2,rfl,v,P,A⟩;obtain⟨c,d,c1,rfl⟩:=v.form;obtain⟨f,q⟩:=ex (decide (x/y<0));rw[q]at v;rw[q];clear q;obtain⟨g,k,c2,rfl⟩:=P.form;obtain⟨l,r⟩:=ex (decide (x%y<0));rw[r]at P;rw[r];clear r)
 have bq:=(Jo.new z 36 (B f) (C c d c1)).alloc (E #[B l,C g k c2] 36);have m:=((bR.below A).alloc (E #[B f,C c d c1] 36)).alloc (E #[B l,C g k c2] 36);have hu:=(v.alloc (E #[B f,C c d c1] 36)).alloc (E #[B l,C g k c2] 36);have X:Bl w ((z.alloc (E #[B f,C c d c1] 36)).alloc (E #[B l,C g k c2] 36)):=Bt (Bt n A) (LM z _ _)
 obtain⟨q0,q1⟩:=bq.cp;obtain⟨r0,r1⟩:=m.cp;obtain⟨f0,f1⟩:=m.fp;go_wp2_with fail
 have V:=hu.box m J J (x0:=B f) (x1:=C c d c1);exact BM (by simp[results,results84,go_sem,r0,r1]) J ⟨_,J,V,(X.setCell (p:=⟨_,0,none⟩) so _).setCell (p:=⟨_,1,none⟩) so _⟩
def Li(w:G)(s t:Bool)(a b:WO)(la c lb d:Nat)(x y:Int)(e:Ji w (.agg #[B s,C a la c]) x)(f:Ji w (.agg #[B t,C b lb d]) y):
 DS w (((w.alloc (E #[B s,C a la c] 36)).alloc (E #[B t,C b lb d] 36)).alloc (E #[B false,C none 0 0,B false,C none 0 0] 38)) [some (w.heap.size,.int x),some (w.heap.size+1,.int y),some (w.heap.size+1+1,.rat 0)]:=by
 have h:=(((DS.nil w).push (.int x) e).push (.int y) (f.alloc _)).push (.rat 0) (XK _);rw[A1,A1,A1]at h;exact h
def Jg.mk{W:G}{s t:Bool}{a b:WO}{l c k d:Nat}(e:Ji W (.agg #[B s,C a l c]) q.num)(f:Ji W (.agg #[B t,C b k d]) (denZ q)):Jg W (.agg #[B s,C a l c,B t,C b k d]) q:=⟨_,_,_,_,_,_,_,_,J,e,f⟩
def Ix(U W:D)(q:Rat)(w:G)(k:Ji w U q.num)(i:Ji w W (q.den:Int)):
 F H 86 #[U,W] w λe l=>∃u,e=.returned u/\Jg l u q/\Bl w l:=by
 obtain⟨a,la,d,rfl⟩:=k.form;obtain⟨b,lb,f,rfl⟩:=i.form;obtain⟨s,hs⟩:=ex (decide (q.num<0));obtain⟨t,N⟩:=ex (decide ((q.den:Int)<0));rw[hs]at k ⊢;rw[N]at i ⊢;clear hs N;have v:=Li w s t a b la d lb f _ _ k i;obtain⟨W0,g⟩:=ex (((w.alloc (E #[B s,C a la d] 36)).alloc (E #[B t,C b lb f] 36)).alloc (E #[B false,C none 0 0,B false,C none 0 0] 38));have b0:Jo W0 w.heap.size 36 (B s) (C a la d):=by rw[<-g];exact((Jo.new w _ _ _).alloc _).alloc _
 have x:Jo W0 (w.heap.size+1) 36 (B t) (C b lb f):=by
  have h:=(Jo.new (w.alloc (E #[B s,C a la d] 36)) 36 (B t) (C b lb f)).alloc (E #[B false,C none 0 0,B false,C none 0 0] 38);rw[A1,g]at h;exact h
 have y:Jr W0 (w.heap.size+1+1) 38 (B false) (C none 0 0) (B false) (C none 0 0):=by
  have h:=Jr.new ((w.alloc (E #[B s,C a la d] 36)).alloc (E #[B t,C b lb f] 36)) 38 (B false) (C none 0 0) (B false) (C none 0 0);rw[A1,A1,g]at h;exact h
 rw[g]at v;have m:=v.2.2;obtain⟨p,A,HB,Qc⟩:=Dw (λ(V:G) (u:D) (h:Bl W0 V) (hu:Ji V u 1)=>XJ _ u (q.den:Int) 1 V ((i.below m).below h) hu) (k.below m) (i.below m) g;obtain⟨k0,k1⟩:=b0.cp;obtain⟨P,Q⟩:=x.cp;have r:=Ja (show(XI (q.den:Int) 1=0)↔q.den=1 by unfold XI;split<;>(try split)<;>omega);obtain⟨n,j⟩:=ex (XI (q.den:Int) 1);rw[j]at p r;clear k i g j v;go_enter func86,ntmps86
 go_upto_region 1 with fail
 rw[Qc.o];have c:Bl W0 W0.drew:=(BL _ W0).drew;go_region_held3 (λl=>l.cell? ⟨w.heap.size+1,0,none⟩=some (B t)/\l.cell? ⟨w.heap.size+1,1,none⟩=some (C b lb f)) (refine⟨?_,?_⟩<;>(first|(go_keep;done)|((repeat rw[JO Z]);simp[*];done)))
  (first
   |(go_at_call 110;refine(Iq 1 Z Z _).mono ?_;rintro e w1 ⟨u1,rfl,ah,ad⟩;have c:=Bt c ad;obtain⟨P,Q⟩:=(x.below c).cp)
   |(go_at_call 87;refine(p.o _ _ c ah).mono ?_;clear p;rintro e X ⟨rfl,ae⟩;have c:=Bt c ae;obtain⟨k0,k1⟩:=(b0.below c).cp;obtain⟨P,Q⟩:=(x.below c).cp;obtain⟨r0,R,S,T⟩:=(y.below c).cq;obtain⟨f0,f1,f2,f3⟩:=(y.below c).fq))
 have K:=Bt m c;have M:=y.below c;by_cases j:n=0
 . have o:=Ja (show denZ q=0 from Ih.2 (r.o.1 j));subst j;have z:Jg X (.agg #[B s,C a la d,B false,C none 0 0]) q:=Jg.mk (A.o.below c) (by rw[o.o];exact EB _);go_wp2_with fail
   exact BM (by simp[results,results86,go_sem,r0,R,S,T]) J ⟨_,J,z.put4 M J J J J _ _ _ _,Js K Z _ _ _ _⟩
 . have o:=Ja (show denZ q=q.den by unfold denZ;rw[Bk λh=>j (r.o.2 h)]);have z:Jg X (.agg #[B s,C a la d,B t,C b lb f]) q:=Jg.mk (A.o.below c) (by rw[o.o];exact HB.o.below c);go_wp2_with fail
   exact BM (by simp[results,results86,go_sem,r0,R,S,T]) J ⟨_,J,z.put4 M J J J J _ _ _ _,Js K Z _ _ _ _⟩
def GZ{x y:Int}(a:y≠0):(0:Int)<(Int.gcd x y:Nat):=by
 have:=Int.gcd_pos_of_ne_zero_right x a;omega
theorem OA(va vb:D)(x y:Int)(w:G)(ha:Ji w va x)(z:Ji w vb y)(hy:y≠0)(bd:Sok x)(bf:Sok y):
 F H 104 #[va,vb] w λe d=>∃u,e=.returned u/\Jg d u (WU x y)/\Bl w d:=by
 obtain⟨HX,HY,l⟩:=Dm bd bf hy;clear bd bf hy;obtain⟨s,a,la,ca,rfl⟩:=Ji.form2 ha;obtain⟨t,b,lb,cb,rfl⟩:=Ji.form2 z;have M0:=Li w s t a b la ca lb cb _ _ ha z;obtain⟨W0,ak⟩:=ex (((w.alloc (E #[B s,C a la ca] 36)).alloc (E #[B t,C b lb cb] 36)).alloc (E #[B false,C none 0 0,B false,C none 0 0] 38));have Qp:=Ja ak;rw[ak]at M0;have M1:=Ja M0;clear M0 ha z ak;go_enter func104,ntmps104
 go_upto_region 1 with fail
 rw[Qp.o];clear Qp;obtain⟨s1,a1,l1,c1,n1,i1⟩:=M1.o.int (i:=0) J;have Qr:=n1.ka;obtain⟨s2,a2,l2,c2,n2,i2⟩:=M1.o.int (i:=1) J;have Qs:=n2.ka;go_upto_region 2 with(go_at_call 83;refine(Hq _ _ x y _ i1 i2 (by have:=HX.o.words;omega) (by have:=HY.o.words;omega)).mono ?_;rintro e w1 ⟨u,rfl,q,z⟩;obtain⟨bm,ay,bi,ba,rfl⟩:=Ji.form2 q)
 obtain⟨V3,p⟩:=ex (w1.alloc (E #[B bm,C ay bi ba] 36));obtain⟨f,aj⟩:=ex (w1.heap.size);have n:DS w (w1.alloc (E #[B bm,C ay bi ba] 36)) [some (w.heap.size,.int x),some (w.heap.size+1,.int y),some (w.heap.size+1+1,.rat 0),some (w1.heap.size,.int (((Int.gcd x y:Nat):Int)))]:=DS.push (M1.o.below z) (.int (((Int.gcd x y:Nat):Int))) q;rw[p,aj]at n;rw[p];rw[aj];have r:=Ja (n);clear M1;clear n p aj;clear n1 Qr i1 n2 Qs i2 q z;have X:=Ja (Sok.gcd HX.o HY.o);by_cases hn:y<0
 . have Q:=Ja hn;clear hn;obtain⟨s4,a4,l4,c4,n4,i4⟩:=r.o.int (i:=1) J;have Qt:=n4.ka;have m:=Ja (XJ _ _ y 0 V3 i4 (EB _));rw[show XI y 0=-1 from by unfold XI;rw[Br Q.o]]at m;go_upto_region 3 with(go_at_call 87;refine m.o.mono ?_;rintro e A ⟨rfl,U⟩)
   have M3:=Ja (r.o.below U);clear r;clear n4 Qt i4 m U;obtain⟨s5,a5,l5,c5,n5,i5⟩:=M3.o.int (i:=3) J;have Qq:=n5.ka;go_upto_region 4 with(go_at_call 88;refine(N5 _ _ 0 (((Int.gcd x y:Nat):Int)) _ (EB _) i5 (by have:=Sok.zero.words;omega) (by have:=X.o.words;omega)).mono ?_;rintro e w6 ⟨u6,rfl,aq,ad⟩;obtain⟨bn,az,bj,bc,rfl⟩:=Ji.form2 aq;have Qq:=(n5.below ad).ka;have Qx:=(n5.below ad).fa)
   obtain⟨S,p⟩:=ex ((w6.setCell ⟨f,0,none⟩ (B bn)).setCell ⟨f,1,none⟩ (C az bj bc));have n:DS w ((w6.setCell ⟨f,0,none⟩ (B bn)).setCell ⟨f,1,none⟩ (C az bj bc)) [some (w.heap.size,.int x),some (w.heap.size+1,.int y),some (w.heap.size+1+1,.rat 0),some (f,.int (0-((Int.gcd x y:Nat):Int)))]:=DS.putInt (M3.o.below ad) (i:=3) J aq;rw[p]at n;rw[p];have k:=Ja (n);clear M3;clear n p;clear n5 Qq i5 aq ad;clear Qx;obtain⟨R,P,Qo⟩:=Dm (show(0-((Int.gcd x y:Nat):Int))≠0 by have:=GZ (x:=x) l.o;omega) (show(0-((Int.gcd x y:Nat):Int))=(if y<0 then -((Int.gcd x y:Nat):Int)else((Int.gcd x y:Nat):Int))by rw[Br Q.o];omega) (show Sok (0-((Int.gcd x y:Nat):Int))by rw[Int.zero_sub];exact X.o.neg);obtain⟨s7,a7,l7,c7,n7,i7⟩:=k.o.int (i:=0) J;have Qm:=n7.ka;obtain⟨s8,a8,l8,c8,n8,i8⟩:=k.o.int (i:=1) J;have Ql:=n8.ka;obtain⟨s9,a9,l9,c9,n9,i9⟩:=k.o.int (i:=3) J;have Qn:=n9.ka;obtain⟨fl,dz,fh,eh,fr,b10,ff,et,g,r10,f8,fd⟩:=k.o.rat (i:=2) J;have Qa:=g.kb;have Qe:=g.fb;obtain⟨K,M,N⟩:=Dm (λ(V:G) (h:Bl S V)=>Xq _ _ x ((0-((Int.gcd x y:Nat):Int))) V (i7.below h) (i9.below h) R.o HX.o Qo.o) (λ(V:G) (h:Bl S V)=>Xq _ _ y ((0-((Int.gcd x y:Nat):Int))) V (i8.below h) (i9.below h) R.o HY.o Qo.o) λ(V:G) (u v:D) (q:Ji V u (x/(0-((Int.gcd x y:Nat):Int)))) (hv:Ji V v (y/(0-((Int.gcd x y:Nat):Int))))=>Ix u v (WU x y) V (by rw[Mn l.o,<-P.o];exact q) (by rw[Mo l.o,<-P.o];exact hv);have Qv:=k.o.ne 0 2 J J DV;have Qw:=k.o.ne 1 2 J J DV;have Qu:=k.o.ne 3 2 J J DV;have c:Bl S S.drew:=(BL _ S).drew;go_region_held3 (λd=>(d.cell? ⟨w.heap.size,0,none⟩=some (B s7)/\d.cell? ⟨w.heap.size,1,none⟩=some (C a7 l7 c7))/\(d.cell? ⟨w.heap.size+1,0,none⟩=some (B s8)/\d.cell? ⟨w.heap.size+1,1,none⟩=some (C a8 l8 c8))/\d.cell? ⟨f,0,none⟩=some (B s9)/\d.cell? ⟨f,1,none⟩=some (C a9 l9 c9)) (first|grind|(go_keep;done)|grind[JO])
    (first
     |(go_at_call 84;refine(K.o _ c).mono ?_;clear K;rintro e w2 ⟨u2,rfl,o,am⟩;have c:=Bt c am;have Qm:=(n7.below c).ka;have Ql:=(n8.below c).ka;have Qn:=(n9.below c).ka;have Qa:=(g.below c).kb;have Qe:=(g.below c).fb)
     |(go_at_call 84;refine(M.o _ c).mono ?_;clear M;rintro e w3 ⟨u3,rfl,ap,T⟩;have o:=o.below T;have c:=Bt c T;have Qm:=(n7.below c).ka;have Ql:=(n8.below c).ka;have Qn:=(n9.below c).ka;have Qa:=(g.below c).kb;have Qe:=(g.below c).fb)
     |(go_at_call 86;refine(N.o _ _ _ o ap).mono ?_;clear N;rintro e w4 ⟨u4,rfl,W,an⟩;obtain⟨dw,ce,dj,co,dx,cg,de,cr,rfl⟩:=Jg.form W;have c:=Bt c an;have Qm:=(n7.below c).ka;have Ql:=(n8.below c).ka;have Qn:=(n9.below c).ka;have Qa:=(g.below c).kb;have Qe:=(g.below c).fb))
   all_goals go_wp2_with fail
   have Qk:=Bt k.o.2.2 c;exact BM (by simp[results,results104,go_sem,Qa]) J ⟨_,J,W.put4 (g.below c) J J J J _ _ _ _,Js Qk Z _ _ _ _⟩
 . have Q:=Ja hn;clear hn;obtain⟨fm,eb,fi,ei,bk,bg⟩:=r.o.int (i:=1) J;have Qj:=bk.ka;have m:=Ja (XJ _ _ y 0 V3 bg (EB _));rw[show XI y 0=1 from by have h1:=Q.o;have h2:=l.o;unfold XI;omega]at m;go_upto_region 4 with(go_at_call 87;refine m.o.mono ?_;rintro e A ⟨rfl,U⟩)
   have M3:=Ja (r.o.below U);clear r;clear bk Qj bg m U;have R:=Ja (show((Int.gcd x y:Nat):Int)≠0 by have:=GZ (x:=x) l.o;omega);have P:=Ja (show((Int.gcd x y:Nat):Int)=(if y<0 then -((Int.gcd x y:Nat):Int)else((Int.gcd x y:Nat):Int))by rw[Bk (by have:=Q.o;omega)]);obtain⟨dm,bt,df,cj,ae,cy⟩:=M3.o.int (i:=0) J;have Qc:=ae.ka;obtain⟨dt,bu,dh,ck,ah,cz⟩:=M3.o.int (i:=1) J;have Qf:=ah.ka;obtain⟨du,bz,di,cn,ai,bh⟩:=M3.o.int (i:=3) J;have Qh:=ai.ka;obtain⟨fo,ed,fj,en,fs,ef,fg,ew,j,fk,fc,fe⟩:=M3.o.rat (i:=2) J;have Qb:=j.kb;have Qg:=j.fb;obtain⟨K,M,N⟩:=Dm (λ(V:G) (h:Bl A V)=>Xq _ _ x (((Int.gcd x y:Nat):Int)) V (cy.below h) (bh.below h) R.o HX.o X.o) (λ(V:G) (h:Bl A V)=>Xq _ _ y (((Int.gcd x y:Nat):Int)) V (cz.below h) (bh.below h) R.o HY.o X.o) λ(V:G) (u v:D) (q:Ji V u (x/((Int.gcd x y:Nat):Int))) (hv:Ji V v (y/((Int.gcd x y:Nat):Int)))=>Ix u v (WU x y) V (by rw[Mn l.o,<-P.o];exact q) (by rw[Mo l.o,<-P.o];exact hv);have Qv:=M3.o.ne 0 2 J J DV;have Qw:=M3.o.ne 1 2 J J DV;have Qu:=M3.o.ne 3 2 J J DV;have c:Bl A A.drew:=(BL _ A).drew;go_region_held3 (λd=>(d.cell? ⟨w.heap.size,0,none⟩=some (B dm)/\d.cell? ⟨w.heap.size,1,none⟩=some (C bt df cj))/\(d.cell? ⟨w.heap.size+1,0,none⟩=some (B dt)/\d.cell? ⟨w.heap.size+1,1,none⟩=some (C bu dh ck))/\d.cell? ⟨f,0,none⟩=some (B du)/\d.cell? ⟨f,1,none⟩=some (C bz di cn)) (first|grind|(go_keep;done)|grind[JO])
    (first
     |(go_at_call 84;refine(K.o _ c).mono ?_;clear K;rintro e w2 ⟨u2,rfl,o,am⟩;have c:=Bt c am;have Qc:=(ae.below c).ka;have Qf:=(ah.below c).ka;have Qh:=(ai.below c).ka;have Qb:=(j.below c).kb;have Qg:=(j.below c).fb)
     |(go_at_call 84;refine(M.o _ c).mono ?_;clear M;rintro e w3 ⟨u3,rfl,ap,T⟩;have o:=o.below T;have c:=Bt c T;have Qc:=(ae.below c).ka;have Qf:=(ah.below c).ka;have Qh:=(ai.below c).ka;have Qb:=(j.below c).kb;have Qg:=(j.below c).fb)
     |(go_at_call 86;refine(N.o _ _ _ o ap).mono ?_;clear N;rintro e w4 ⟨u4,rfl,W,an⟩;obtain⟨dw,ce,dj,co,dx,cg,de,cr,rfl⟩:=Jg.form W;have c:=Bt c an;have Qc:=(ae.below c).ka;have Qf:=(ah.below c).ka;have Qh:=(ai.below c).ka;have Qb:=(j.below c).kb;have Qg:=(j.below c).fb))
   all_goals go_wp2_with fail
   have Qk:=Bt M3.o.2.2 c;exact BM (by simp[results,results104,go_sem,Qb]) J ⟨_,J,W.put4 (j.below c) J J J J _ _ _ _,Js Qk Z _ _ _ _⟩
def Iy(w:G)(s t m n:Bool)(a b e f:WO)(l c k d j c' i g:Nat)(p q:Rat)(hp:Jg w (.agg #[B s,C a l c,B t,C b k d]) p)(o:Jg w (.agg #[B m,C e j c',B n,C f i g]) q):
 DS w (((w.alloc (E #[B s,C a l c,B t,C b k d] 38)).alloc (E #[B m,C e j c',B n,C f i g] 38)).alloc (E #[B false,C none 0 0,B false,C none 0 0] 38)) [some (w.heap.size,.rat p),some (w.heap.size+1,.rat q),some (w.heap.size+1+1,.rat 0)]:=by
 have h:=(((DS.nil w).push (.rat p) hp).push (.rat q) (o.below (Ba w _))).push (.rat 0) (XK _);rw[A1,A1,A1]at h;exact h
def TQ(w:G)(s t m n:Bool)(a b e f:WO)(l c k d j c' i g:Nat)(p q:Rat)(hp:Jg w (.agg #[B s,C a l c,B t,C b k d]) p)(o:Jg w (.agg #[B m,C e j c',B n,C f i g]) q):
 DS w ((w.alloc (E #[B s,C a l c,B t,C b k d] 38)).alloc (E #[B m,C e j c',B n,C f i g] 38)) [some (w.heap.size,.rat p),some (w.heap.size+1,.rat q)]:=by
 have h:=((DS.nil w).push (.rat p) hp).push (.rat q) (o.below (Ba w _));rw[A1]at h;exact h
def Iz(h:q.den=1):q=(q.num:Rat):=Rat.ext J h
def TR(hp:p.den=1)(a:q.den=1):(p+q).num=p.num+q.num/\(p+q).den=1:=by
 have h:p+q=((p.num+q.num:Int):Rat):=by rw[Rat.intCast_add,<-Iz hp,<-Iz a]
 rw[h];exact⟨J,J⟩
def TS(hp:p.den=1)(a:q.den=1):(p*q).num=p.num*q.num/\(p*q).den=1:=by
 have h:p*q=((p.num*q.num:Int):Rat):=by rw[Rat.intCast_mul,<-Iz hp,<-Iz a]
 rw[h];exact⟨J,J⟩
def TT(p q:Rat)(hp:Sq p)(i:Sq q)(a c e b d:Int)(f:((Int.gcd (p.den:Int) (q.den:Int):Nat):Int)=a)(n:(p.den:Int)/a=c)(o:(q.den:Int)/a=e)(r:p.num*e+q.num*c=b)(g:((Int.gcd b a:Nat):Int)=d):
 Sok a/\a≠0/\Sok c/\Sok e/\Sok b/\Sok d/\d≠0/\Sok (p.num*e)/\Sok (q.num*c)/\(p+q).num=b/d/\((p+q).den:Int)=c*(q.den/d):=by
 have hl:=QL p q a c e b d f.symm n.symm o.symm r.symm g.symm;have k:a≠0:=by rw[<-f];have:=GZ (x:=(p.den:Int)) (y:=q.den) (by have:=q.den_nz;omega);omega
 have u:Sok a:=by rw[<-f];exact hp.den.gcd i.den
 have m:Sm 1000000000 c:=by rw[<-n];exact hp.sm.2.div
 have l:Sm 1000000000 e:=by rw[<-o];exact i.sm.2.div
 have s:=hp.sm.1.mul l;have t:=i.sm.1.mul m;have j:Sok b:=by rw[<-r];exact Sok.of (s.add t) Z
 refine⟨u,k,Sok.of m Z,Sok.of l Z,j,by rw[<-g];exact j.gcd u,?_,Sok.of s Z,Sok.of t Z,hl.1,hl.2⟩;rw[<-g];have:=GZ (x:=b) k;omega
theorem Xx(va vb:D)(p q:Rat)(w:G)(ha:Jg w va p)(hb:Jg w vb q)(cj:Sq p)(ck:Sq q):
 F H 40 #[va,vb] w λe n=>∃u,e=.returned u/\Jg n u (p+q)/\Bl w n:=by
 obtain⟨s,a,l,c,t,b,k,d,rfl⟩:=Jg.form ha;obtain⟨s',a',l',c',t',b',k',d',rfl⟩:=Jg.form hb;have M0:=Iy w s t s' t' a b a' b' l c k d l' c' k' d' p q ha hb;obtain⟨W0,bc⟩:=ex (((w.alloc (E #[B s,C a l c,B t,C b k d] 38)).alloc (E #[B s',C a' l' c',B t',C b' k' d'] 38)).alloc (E #[B false,C none 0 0,B false,C none 0 0] 38));have Qo:=Ja bc;rw[bc]at M0;obtain⟨M1,HP,Q⟩:=Dm M0 cj ck;clear M0 ha hb bc cj ck;go_enter func40,ntmps40
 go_upto_region 1 with fail
 rw[Qo.o];clear Qo;obtain⟨bb,bu⟩:=ex (decide (p.den=1/\q.den=1):Bool);have Qh:=Ja bu;clear bu;go_cut [15] λc n=>c=B bb/\Hid (DS w n [some (w.heap.size,.rat p),some (w.heap.size+1,.rat q),some (w.heap.size+1+1,.rat 0)])
 case first=>
  obtain⟨s1,a1,l1,c1,t1,b1,k1,d1,n1,r1,i1,j1⟩:=M1.o.rat (i:=0) J;have Qv:=n1.kb;obtain⟨s2,a2,l2,c2,t2,b2,k2,d2,n2,r2,i2,j2⟩:=M1.o.rat (i:=1) J;have Qx:=n2.kb;have N:=Ja (YT _ p W0 r1);have X:=Ja λ(V:G) (h:Bl W0 V)=>YT _ q V (r2.below h);by_cases T:p.den=1
  . rw[Bi T]at N;obtain⟨b2,U⟩:=ex (decide (q.den=1));rw[U]at X;have Qk:=Ja (show b2=bb by rw[<-U,<-Qh.o];exact decide_eq_decide.2 ⟨λh=>⟨T,h⟩,λh=>h.2⟩);clear U T;go_wp2_with(first
     |(go_at_call 59;refine N.o.mono ?_;clear N;rintro e W ⟨rfl,ad⟩;have Qv:=(n1.below ad).kb;have Qx:=(n2.below ad).kb)
     |(go_at_call 59;refine(X.o _ ad).mono ?_;clear X;rintro e w2 ⟨rfl,U⟩))
    go_meet
    case rel=>exact⟨by rw[Qk.o],Ja ((M1.o.below ad).below U)⟩
  . rw[Bh T]at N;have Qk:=Ja (show bb=false by rw[<-Qh.o];exact Bh λh=>T h.1);clear T;go_wp2_with(go_at_call 59;refine N.o.mono ?_;clear N;rintro e W ⟨rfl,ad⟩)
    go_meet
    case rel=>exact⟨by rw[Qk.o],Ja (M1.o.below ad)⟩
 obtain⟨rfl,m⟩:=hcut;have M2:=m;clear M1 m;cases bb with
 |true=>
  have Qi:=B3 Qh.o;have HW:=Ja (TR Qi.1 Qi.2);clear Qi Qh;obtain⟨s3,a3,l3,c3,t3,b3,k3,d3,n3,r3,i3,j3⟩:=M2.o.rat (i:=0) J;have fl:=n3.kb;obtain⟨s4,a4,l4,c4,t4,b4,k4,d4,n4,r4,i4,j4⟩:=M2.o.rat (i:=1) J;have fm:=n4.kb;obtain⟨s5,a5,l5,c5,t5,b5,k5,d5,n5,r5,i5,j5⟩:=M2.o.rat (i:=2) J;have Qt:=n5.kb;have Qz:=n5.fb;go_wp2_with(go_at_call 81;refine(LL _ _ p.num q.num _ i3 i4 (by have:=HP.o.num.words;omega) (by have:=Q.o.num.words;omega)).mono ?_;rintro e W ⟨u,rfl,x,g⟩;obtain⟨bf,am,bd,an,rfl⟩:=Ji.form2 x;have Qt:=(n5.below g).kb;have Qz:=(n5.below g).fb)
  have hr:=Jg.mk (by rw[HW.o.1];exact x) (by rw[Ih.2 HW.o.2];exact EB _);have Ql:=Bt M2.o.2.2 g;exact BM (by simp[results,results40,go_sem,Qt]) J ⟨_,J,hr.put4 (n5.below g) J J J J _ _ _ _,Js Ql Z _ _ _ _⟩
 |false=>
  clear Qh;obtain⟨o,bz⟩:=ex (((Int.gcd (p.den:Int) (q.den:Int):Nat):Int):Int);have Qs:=Ja bz;clear bz;obtain⟨z,ce⟩:=ex ((p.den:Int)/o:Int);have Qq:=Ja ce;clear ce;obtain⟨M,cg⟩:=ex ((q.den:Int)/o:Int);have Qn:=Ja cg;clear cg;obtain⟨P,bj⟩:=ex (p.num*M+q.num*z:Int);have Qr:=Ja bj;clear bj;obtain⟨K,bk⟩:=ex (((Int.gcd P o:Nat):Int):Int);have Qp:=Ja bk;clear bk;obtain⟨S1,S2,S3,S4,S5,S6,S7,S8,S9,bh,bi⟩:=TT p q HP.o Q.o o z M P K Qs.o Qq.o Qn.o Qr.o Qp.o;obtain⟨T1,T2,T3,T4,T5,T6,T7,T8⟩:=Gw S1 S2 S3 S4 S5 S6 S7 S8;obtain⟨T9,Qy,Qw⟩:=Dm S9 bh bi;clear S1 S2 S3 S4 S5 S6 S7 S8 S9 bh bi;go_upto_region 3 with fail
  refine Et Dl [[],[0],[],[2,1],[1,3,3],[],[5,4,4,0,1,2,3,4,5]] [.rat p,.int ((p.den:Int)),.rat q,.int ((q.den:Int)),.int o,.ptr,.eq L] [5,6] (λb v V=>DS w V [some (w.heap.size,.rat p),some (w.heap.size+1,.rat q),some (w.heap.size+1+1,.rat 0),nb b v 0 1 (.int 0) (.int o)]) (M2.o.none).drew (WR (.vl J λ_ j=>Eg 0 j)<|WR (.cl λh _=>Eh _ p _ (h.g 0))<|WR (.vl J λ_ j=>Eg 1 j)<|WR (.cl λh _=>Eh _ q _ (h.g 2))<|WR (.cl λh _=>(by have h:=Hq _ _ (p.den:Int) (q.den:Int) _ (h.g 1) (h.g 3) (by have:=HP.o.den.words;omega) (by have:=Q.o.den.words;omega);rw[Qs.o]at h;exact h))<|WR (.wr J λ_ j=>GC 3 j)<|WR (.wr J λh j=>GB 3 j (h.g 4) (hp:=h.g 5)) Stp.end_)
   λf V7 hF m=>?_
  refine Db ?_;obtain⟨B8,az⟩:=hF.p 5;have m:=FI m;simp only[az]at m;rw[az];have M3:=Ja m;clear m hF az;clear M2;go_upto_region 4 with fail
  refine Et Dl [[],[0],[],[1,2,1],[],[4,3],[],[5,6,5],[],[],[8,3,7,0,1,2,3,8,9],[9,7,10,0,1,2,3,4,5,6,7,8,9,10]] [.rat p,.int ((p.den:Int)),.int o,.int z,.rat q,.int ((q.den:Int)),.int o,.int M,.ptr,.ptr,.eq L,.eq L] [8,9,10,11] (λb v V=>DS w V [some (w.heap.size,.rat p),some (w.heap.size+1,.rat q),some (w.heap.size+1+1,.rat 0),some (B8,.int o),nb b v 0 2 (.int 0) (.int z),nb b v 1 3 (.int 0) (.int M)]) ((M3.o.none).none).drew (WR (.vl J λ_ j=>Eg 0 j)<|WR (.cl λh _=>Eh _ p _ (h.g 0))<|WR (.vl J λ_ j=>GX 3 j)<|WR (.cl λh _=>(by have h:=Xq _ _ (p.den:Int) o _ (h.g 1) (h.g 2) T2.o HP.o.den T1.o;rw[Qq.o]at h;exact h))<|WR (.vl J λ_ j=>Eg 1 j)<|WR (.cl λh _=>Eh _ q _ (h.g 4))<|WR (.vl J λ_ j=>GX 3 j)<|WR (.cl λh _=>(by have h:=Xq _ _ (q.den:Int) o _ (h.g 5) (h.g 6) T2.o Q.o.den T1.o;rw[Qn.o]at h;exact h))<|WR (.wr J λ_ j=>GC 4 j)<|WR (.wr J λ_ j=>GC 5 j)<|WR (.wr J λh j=>GB 4 j (h.g 3) (hp:=h.g 8))<|WR (.wr J λh j=>GB 5 j (h.g 7) (hp:=h.g 9)) Stp.end_)
   λf fo hF m=>?_
  refine Db ?_;obtain⟨B11,ap⟩:=hF.p 8;obtain⟨B12,aq⟩:=hF.p 9;have m:=FI m;simp only[ap,aq]at m;rw[ap,aq];have M4:=Ja m;clear m hF ap aq;clear M3;go_upto_region 5 with fail
  refine Et Dl [[],[0],[],[1,2],[],[4],[],[5,6,3],[3,7,7],[],[9,8,8,0,1,2,3,4,5,6,7,8,9]] [.eq (I (some ⟨w.heap.size,0,none⟩)),.int (Rat.num (p)),.int M,.int (p.num*M),.eq (I (some ⟨w.heap.size+1,0,none⟩)),.int (Rat.num (q)),.int z,.int (q.num*z),.int P,.ptr,.eq L] [9,10] (λb v V=>DS w V [some (w.heap.size,.rat p),some (w.heap.size+1,.rat q),some (w.heap.size+1+1,.rat 0),some (B8,.int o),some (B11,.int z),some (B12,.int M),nb b v 0 1 (.int 0) (.int P)]) (M4.o.none).drew (WR (.vl J λ_ _=>⟨_,by refine Db ?_;go_simp,J⟩)<|WR (.vl J λh j=>GY 0 j (hp:=h.e 0))<|WR (.vl J λ_ j=>GX 5 j)<|WR (.cl λh _=>YH _ _ p.num M _ (h.g 1) (h.g 2) (by have:=HP.o.num.words;have:=T4.o.words;omega))<|WR (.vl J λ_ _=>⟨_,by refine Db ?_;go_simp,J⟩)<|WR (.vl J λh j=>GY 1 j (hp:=h.e 4))<|WR (.vl J λ_ j=>GX 4 j)<|WR (.cl λh _=>YH _ _ q.num z _ (h.g 5) (h.g 6) (by have:=Q.o.num.words;have:=T3.o.words;omega))<|WR (.cl λh _=>(by have h:=LL _ _ (p.num*M) (q.num*z) _ (h.g 3) (h.g 7) (by have:=T8.o.words;omega) (by have:=T9.o.words;omega);rw[Qr.o]at h;exact h))<|WR (.wr J λ_ j=>GC 6 j)<|WR (.wr J λh j=>GB 6 j (h.g 8) (hp:=h.g 9)) Stp.end_)
   λf df hF m=>?_
  refine Db ?_;rw[hF.e 0,hF.e 4];obtain⟨ak,ay⟩:=hF.p 9;have m:=FI m;simp only[ay]at m;rw[ay];have M5:=Ja m;clear m hF ay;clear M4;go_upto_region 6 with fail
  obtain⟨gz,fr,go,fx,cz,co⟩:=M5.o.int (i:=6) J;have Qj:=cz.ka;obtain⟨ia,fs,gp,fy,de,cr⟩:=M5.o.int (i:=3) J;have Qm:=de.ka;have HC:=Ja (Hq _ _ P o df co cr (by have:=T5.o.words;omega) (by have:=T1.o.words;omega));rw[Qp.o]at HC;go_upto_region 7 with(go_at_call 83;refine HC.o.mono ?_;clear HC;rintro e W ⟨u,rfl,x,hb⟩;obtain⟨bf,am,bd,an,rfl⟩:=Ji.form2 x)
  obtain⟨S,hV⟩:=ex (W.alloc (E #[B bf,C am bd an] 36));obtain⟨bg,ba⟩:=ex (W.heap.size);have m:DS w (W.alloc (E #[B bf,C am bd an] 36)) [some (w.heap.size,.rat p),some (w.heap.size+1,.rat q),some (w.heap.size+1+1,.rat 0),some (B8,.int o),some (B11,.int z),some (B12,.int M),some (ak,.int P),some (W.heap.size,.int K)]:=DS.push (M5.o.below hb) (.int K) x;rw[hV,ba]at m;rw[hV];rw[ba];have A:=Ja (m);clear M5;clear m hV ba;clear cz Qj co de Qm cr x hb;obtain⟨fg,dh,f8,du,ae,en⟩:=A.o.int (i:=6) J;have Qe:=ae.ka;obtain⟨fh,di,fc,dw,ah,cy⟩:=A.o.int (i:=7) J;have Qb:=ah.ka;obtain⟨fi,dj,fd,dx,ai,et⟩:=A.o.int (i:=4) J;have Qf:=ai.ka;obtain⟨fj,dm,fe,dz,fk,dt,ew,eb,aj,ff,gh,gj⟩:=A.o.rat (i:=1) J;have Qc:=aj.kb;obtain⟨ib,ft,gq,ga,ie,fv,gl,gc,r,gy,gi,gk⟩:=A.o.rat (i:=2) J;have Qa:=r.kb;have Qd:=r.fb;obtain⟨N,X,H3,H4,H5⟩:=Fg (λ(V:G) (h:Bl S V)=>Xq _ _ P K V (en.below h) (cy.below h) T7.o T5.o T6.o) (λ(V:G) (h:Bl S V)=>Eh _ q V (ff.below h)) (λ(V:G) (u:D) (h:Bl S V) (x:Ji V u (q.den:Int))=>Xq u _ (q.den:Int) K V x (cy.below h) T7.o Q.o.den T6.o) (λ(V:G) (u:D) (h:Bl S V) (x:Ji V u ((q.den:Int)/K))=>YH _ u z ((q.den:Int)/K) V (et.below h) x (by have T:=T3.o.words;have h2:=(Sok.div (y:=K) Q.o.den).words;omega)) λ(V:G) (u v:D) (x:Ji V u (P/K)) (hv:Ji V v (z*((q.den:Int)/K)))=>Ix u v (p+q) V (by rw[Qy.o];exact x) (by rw[Qw.o];exact hv);have gv:=A.o.ne 6 2 J J DV;have gw:=A.o.ne 7 2 J J DV;have gu:=A.o.ne 4 2 J J DV;have gt:=A.o.ne 1 2 J J DV;have g:Bl S S.drew:=(BL _ S).drew;go_region_held3 (λn=>(n.cell? ⟨ak,0,none⟩=some (B fg)/\n.cell? ⟨ak,1,none⟩=some (C dh f8 du))/\(n.cell? ⟨bg,0,none⟩=some (B fh)/\n.cell? ⟨bg,1,none⟩=some (C di fc dw))/\(n.cell? ⟨B11,0,none⟩=some (B fi)/\n.cell? ⟨B11,1,none⟩=some (C dj fd dx))/\n.cell? ⟨w.heap.size+1,0,none⟩=some (B fj)/\n.cell? ⟨w.heap.size+1,1,none⟩=some (C dm fe dz)/\n.cell? ⟨w.heap.size+1,2,none⟩=some (B fk)/\n.cell? ⟨w.heap.size+1,3,none⟩=some (C dt ew eb)) (first|grind|(go_keep;done)|((repeat' apply And.intro)<;>((repeat rw[JO Z]);grind)))
   (first
    |(go_at_call 84;refine(N.o _ g).mono ?_;clear N;rintro e w2 ⟨u2,rfl,R,U⟩;have g:=Bt g U;have Qe:=(ae.below g).ka;have Qb:=(ah.below g).ka;have Qf:=(ai.below g).ka;have Qc:=(aj.below g).kb;have Qa:=(r.below g).kb;have Qd:=(r.below g).fb)
    |(go_at_call 82;refine(X.o _ g).mono ?_;clear X;rintro e w3 ⟨u3,rfl,ef,bm⟩;have R:=R.below bm;have g:=Bt g bm;have Qe:=(ae.below g).ka;have Qb:=(ah.below g).ka;have Qf:=(ai.below g).ka;have Qc:=(aj.below g).kb;have Qa:=(r.below g).kb;have Qd:=(r.below g).fb)
    |(go_at_call 84;refine(H3.o _ _ g ef).mono ?_;clear H3;rintro e w4 ⟨u4,rfl,eh,bn⟩;have R:=R.below bn;have g:=Bt g bn;have Qe:=(ae.below g).ka;have Qb:=(ah.below g).ka;have Qf:=(ai.below g).ka;have Qc:=(aj.below g).kb;have Qa:=(r.below g).kb;have Qd:=(r.below g).fb)
    |(go_at_call 85;refine(H4.o _ _ g eh).mono ?_;clear H4;rintro e w5 ⟨u5,rfl,ei,bt⟩;have R:=R.below bt;have g:=Bt g bt;have Qe:=(ae.below g).ka;have Qb:=(ah.below g).ka;have Qf:=(ai.below g).ka;have Qc:=(aj.below g).kb;have Qa:=(r.below g).kb;have Qd:=(r.below g).fb)
    |(go_at_call 86;refine(H5.o _ _ _ R ei).mono ?_;clear H5;rintro e w6 ⟨u6,rfl,cn,ed⟩;obtain⟨ic,fu,gr,gb,ig,fw,gn,gg,rfl⟩:=Jg.form cn;have g:=Bt g ed;have Qe:=(ae.below g).ka;have Qb:=(ah.below g).ka;have Qf:=(ai.below g).ka;have Qc:=(aj.below g).kb;have Qa:=(r.below g).kb;have Qd:=(r.below g).fb))
  all_goals go_wp2_with fail
  have Ql:=Bt A.o.2.2 g;have Qu:=A.o.ge 2 J;exact BM (by simp[results,results40,go_sem,Qa]) J ⟨_,J,cn.put4 (r.below g) J J J J _ _ _ _,Js Ql Qu _ _ _ _⟩
def TU(p q:Rat)(hp:Sq p)(d:Sq q)(a up x y:Int)(b:((Int.gcd p.num (q.den:Int):Nat):Int)=a)(c:((Int.gcd q.num (p.den:Int):Nat):Int)=up)(e:p.num/a=x)(f:q.num/up=y):
 Sok a/\a≠0/\Sok up/\up≠0/\Sok x/\Sok y/\(p*q).num=x*y/\((p*q).den:Int)=p.den/up*(q.den/a):=by
 have hl:=QM p q a up b.symm c.symm;have i:a≠0:=by rw[<-b];have:=GZ (x:=p.num) (y:=q.den) (by have:=q.den_nz;omega);omega
 have g:up≠0:=by rw[<-c];have:=GZ (x:=q.num) (y:=p.den) (by have:=p.den_nz;omega);omega
 refine⟨by rw[<-b];exact hp.num.gcd d.den,i,by rw[<-c];exact d.num.gcd hp.den,g,by rw[<-e];exact hp.num.div,by rw[<-f];exact d.num.div,?_,hl.2⟩;rw[hl.1,e,f]
theorem Ga(va vb:D)(p q:Rat)(w:G)(ha:Jg w va p)(hb:Jg w vb q)(bf:Sq p)(bg:Sq q):
 F H 41 #[va,vb] w λe m=>∃u,e=.returned u/\Jg m u (p*q)/\Bl w m:=by
 obtain⟨s,a,l,c,t,b,k,d,rfl⟩:=Jg.form ha;obtain⟨s',a',l',c',t',b',k',d',rfl⟩:=Jg.form hb;have M0:=Iy w s t s' t' a b a' b' l c k d l' c' k' d' p q ha hb;obtain⟨W0,aq⟩:=ex (((w.alloc (E #[B s,C a l c,B t,C b k d] 38)).alloc (E #[B s',C a' l' c',B t',C b' k' d'] 38)).alloc (E #[B false,C none 0 0,B false,C none 0 0] 38));have Ql:=Ja aq;rw[aq]at M0;obtain⟨M1,P,Q⟩:=Dm M0 bf bg;clear M0 ha hb aq bf bg;go_enter func41,ntmps41
 go_upto_region 1 with fail
 rw[Ql.o];clear Ql;obtain⟨bb,bc⟩:=ex (decide (p.den=1/\q.den=1):Bool);have Qh:=Ja bc;clear bc;go_cut [13] λc m=>c=B bb/\Hid (DS w m [some (w.heap.size,.rat p),some (w.heap.size+1,.rat q),some (w.heap.size+1+1,.rat 0)])
 case first=>
  obtain⟨s1,a1,l1,c1,t1,b1,k1,d1,n1,r1,i1,j1⟩:=M1.o.rat (i:=0) J;have Qr:=n1.kb;obtain⟨s2,a2,l2,c2,t2,b2,k2,d2,n2,r2,i2,j2⟩:=M1.o.rat (i:=1) J;have Qs:=n2.kb;have H1:=Ja (YT _ p W0 r1);have H2:=Ja λ(V:G) (h:Bl W0 V)=>YT _ q V (r2.below h);by_cases N:p.den=1
  . rw[Bi N]at H1;obtain⟨b2,T⟩:=ex (decide (q.den=1));rw[T]at H2;have Qj:=Ja (show b2=bb by rw[<-T,<-Qh.o];exact decide_eq_decide.2 ⟨λh=>⟨N,h⟩,λh=>h.2⟩);clear T N;go_wp2_with(first
     |(go_at_call 59;refine H1.o.mono ?_;clear H1;rintro e w1 ⟨rfl,ah⟩;have Qr:=(n1.below ah).kb;have Qs:=(n2.below ah).kb)
     |(go_at_call 59;refine(H2.o _ ah).mono ?_;clear H2;rintro e w2 ⟨rfl,T⟩))
    go_meet
    case rel=>exact⟨by rw[Qj.o],Ja ((M1.o.below ah).below T)⟩
  . rw[Bh N]at H1;have Qj:=Ja (show bb=false by rw[<-Qh.o];exact Bh λh=>N h.1);clear N;go_wp2_with(go_at_call 59;refine H1.o.mono ?_;clear H1;rintro e w1 ⟨rfl,ah⟩)
    go_meet
    case rel=>exact⟨by rw[Qj.o],Ja (M1.o.below ah)⟩
 obtain⟨rfl,o⟩:=hcut;have M2:=o;clear M1 o;cases bb with
 |true=>
  have Qi:=B3 Qh.o;have HW:=Ja (TS Qi.1 Qi.2);clear Qi Qh;obtain⟨s3,a3,l3,c3,t3,b3,k3,d3,n3,r3,i3,j3⟩:=M2.o.rat (i:=0) J;have en:=n3.kb;obtain⟨s4,a4,l4,c4,t4,b4,k4,d4,n4,r4,i4,j4⟩:=M2.o.rat (i:=1) J;have et:=n4.kb;obtain⟨s5,a5,l5,c5,t5,b5,k5,d5,n5,r5,i5,j5⟩:=M2.o.rat (i:=2) J;have Qp:=n5.kb;have Qt:=n5.fb;go_wp2_with(go_at_call 85;refine(YH _ _ p.num q.num _ i3 i4 (by have N:=P.o.num.words;have h2:=Q.o.num.words;omega)).mono ?_;rintro e w1 ⟨u,rfl,hu,g⟩;obtain⟨gj,f8,fw,fg,rfl⟩:=Ji.form2 hu;have Qp:=(n5.below g).kb;have Qt:=(n5.below g).fb)
  have hr:=Jg.mk (by rw[HW.o.1];exact hu) (by rw[Ih.2 HW.o.2];exact EB _);have Qk:=Bt M2.o.2.2 g;exact BM (by simp[results,results41,go_sem,Qp]) J ⟨_,J,hr.put4 (n5.below g) J J J J _ _ _ _,Js Qk Z _ _ _ _⟩
 |false=>
  clear Qh;obtain⟨A,bd⟩:=ex (((Int.gcd p.num (q.den:Int):Nat):Int):Int);have Qm:=Ja bd;clear bd;obtain⟨up,bh⟩:=ex (((Int.gcd q.num (p.den:Int):Nat):Int):Int);have Qn:=Ja bh;clear bh;obtain⟨x,hx⟩:=ex (p.num/A:Int);have HX:=Ja hx;clear hx;obtain⟨y,hy⟩:=ex (q.num/up:Int);have HY:=Ja hy;clear hy;obtain⟨S1,S2,S3,S4,S5,S6,S7,S8⟩:=TU p q P.o Q.o A up x y Qm.o Qn.o HX.o HY.o;obtain⟨T1,T2,T3,T4,T5,T6,T7,T8⟩:=Gw S1 S2 S3 S4 S5 S6 S7 S8;clear S1 S2 S3 S4 S5 S6 S7 S8;go_upto_region 3 with fail
  refine Et Dl [[],[0],[],[2],[1,3,3],[],[5],[],[7,4],[6,8,8],[],[],[10,4,9,0,1,2,3,4,10,11],[11,9,12,0,1,2,3,4,5,6,7,8,9,10,11,12]] [.eq (I (some ⟨w.heap.size,0,none⟩)),.int (Rat.num (p)),.rat q,.int ((q.den:Int)),.int A,.eq (I (some ⟨w.heap.size+1,0,none⟩)),.int (Rat.num (q)),.rat p,.int ((p.den:Int)),.int up,.ptr,.ptr,.eq L,.eq L] [10,11,12,13] (λb v V=>DS w V [some (w.heap.size,.rat p),some (w.heap.size+1,.rat q),some (w.heap.size+1+1,.rat 0),nb b v 0 2 (.int 0) (.int A),nb b v 1 3 (.int 0) (.int up)]) ((M2.o.none).none).drew (WR (.vl J λ_ _=>⟨_,by refine Db ?_;go_simp,J⟩)<|WR (.vl J λh j=>GY 0 j (hp:=h.e 0))<|WR (.vl J λ_ j=>Eg 1 j)<|WR (.cl λh _=>Eh _ q _ (h.g 2))<|WR (.cl λh _=>(by have h:=Hq _ _ p.num (q.den:Int) _ (h.g 1) (h.g 3) (by have:=P.o.num.words;omega) (by have:=Q.o.den.words;omega);rw[Qm.o]at h;exact h))<|WR (.vl J λ_ _=>⟨_,by refine Db ?_;go_simp,J⟩)<|WR (.vl J λh j=>GY 1 j (hp:=h.e 5))<|WR (.vl J λ_ j=>Eg 0 j)<|WR (.cl λh _=>Eh _ p _ (h.g 7))<|WR (.cl λh _=>(by have h:=Hq _ _ q.num (p.den:Int) _ (h.g 6) (h.g 8) (by have:=Q.o.num.words;omega) (by have:=P.o.den.words;omega);rw[Qn.o]at h;exact h))<|WR (.wr J λ_ j=>GC 3 j)<|WR (.wr J λ_ j=>GC 4 j)<|WR (.wr J λh j=>GB 3 j (h.g 4) (hp:=h.g 10))<|WR (.wr J λh j=>GB 4 j (h.g 9) (hp:=h.g 11)) Stp.end_)
   λf V7 hF o=>?_
  refine Db ?_;rw[hF.e 0,hF.e 5];obtain⟨B8,an⟩:=hF.p 10;obtain⟨B9,ap⟩:=hF.p 11;have o:=FI o;simp only[an,ap]at o;rw[an,ap];have M3:=Ja o;clear o hF an ap;clear M2;go_upto_region 4 with fail
  refine Et Dl [[],[0],[],[1,2],[],[4],[],[5,6,3],[3,7,7],[],[9,8,8,0,1,2,3,4,5,6,7,8,9]] [.eq (I (some ⟨w.heap.size,0,none⟩)),.int (Rat.num (p)),.int A,.int x,.eq (I (some ⟨w.heap.size+1,0,none⟩)),.int (Rat.num (q)),.int up,.int y,.int (x*y),.ptr,.eq L] [9,10] (λb v V=>DS w V [some (w.heap.size,.rat p),some (w.heap.size+1,.rat q),some (w.heap.size+1+1,.rat 0),some (B8,.int A),some (B9,.int up),nb b v 0 1 (.int 0) (.int (x*y))]) (M3.o.none).drew (WR (.vl J λ_ _=>⟨_,by refine Db ?_;go_simp,J⟩)<|WR (.vl J λh j=>GY 0 j (hp:=h.e 0))<|WR (.vl J λ_ j=>GX 3 j)<|WR (.cl λh _=>(by have h:=Xq _ _ p.num A _ (h.g 1) (h.g 2) T2.o P.o.num T1.o;rw[HX.o]at h;exact h))<|WR (.vl J λ_ _=>⟨_,by refine Db ?_;go_simp,J⟩)<|WR (.vl J λh j=>GY 1 j (hp:=h.e 4))<|WR (.vl J λ_ j=>GX 4 j)<|WR (.cl λh _=>(by have h:=Xq _ _ q.num up _ (h.g 5) (h.g 6) T4.o Q.o.num T3.o;rw[HY.o]at h;exact h))<|WR (.cl λh _=>YH _ _ x y _ (h.g 3) (h.g 7) (by have:=T5.o.words;have:=T6.o.words;omega))<|WR (.wr J λ_ j=>GC 5 j)<|WR (.wr J λh j=>GB 5 j (h.g 8) (hp:=h.g 9)) Stp.end_)
   λf K hF o=>?_
  refine Db ?_;rw[hF.e 0,hF.e 4];obtain⟨B12,am⟩:=hF.p 9;have o:=FI o;simp only[am]at o;rw[am];have r:=Ja o;clear o hF am;clear M3;go_upto_region 5 with fail
  obtain⟨dx,bi,dh,bz,U,cr⟩:=r.o.int (i:=5) J;have Qb:=U.ka;obtain⟨dz,bj,di,ce,eh,bt,de,cn,W,du,fk,fo⟩:=r.o.rat (i:=0) J;have Qf:=W.kb;obtain⟨eb,bk,dj,cg,X,cy⟩:=r.o.int (i:=4) J;have Qd:=X.ka;obtain⟨ed,bm,dm,cj,ei,bu,df,co,ad,dw,fl,fr⟩:=r.o.rat (i:=1) J;have Qc:=ad.kb;obtain⟨ef,bn,dt,ck,ae,cz⟩:=r.o.int (i:=3) J;have Qe:=ae.ka;obtain⟨gi,ew,fv,ff,gl,fd,ft,fi,n,gh,fm,fs⟩:=r.o.rat (i:=2) J;have R:=n.kb;have Qg:=n.fb;obtain⟨H2,H4,H6,H8,H9,Qo⟩:=Ik (λ(V:G) (h:Bl K V)=>Eh _ p V (du.below h)) (λ(V:G) (h:Bl K V) (v2:D) (z:Ji V v2 ((p.den:Int)))=>Xq _ _ (p.den:Int) up V z (cy.below h) T4.o P.o.den T3.o) (λ(V:G) (h:Bl K V)=>Eh _ q V (dw.below h)) (λ(V:G) (h:Bl K V) (v6:D) (M:Ji V v6 ((q.den:Int)))=>Xq _ _ (q.den:Int) A V M (cz.below h) T2.o Q.o.den T1.o) (λ(V:G) (h:Bl K V) (v4:D) (g4:Ji V v4 ((p.den:Int)/up)) (v8:D) (S:Ji V v8 ((q.den:Int)/A))=>YH _ _ ((p.den:Int)/up) ((q.den:Int)/A) V g4 S (by have N:=(Sok.div (y:=up) P.o.den).words;have h2:=(Sok.div (y:=A) Q.o.den).words;omega)) λ(V:G) (h:Bl K V) (v9:D) (g9:Ji V v9 ((p.den:Int)/up*((q.den:Int)/A)))=>Ix _ _ (p*q) V (by rw[T7.o];exact(cr.below h)) (by rw[T8.o];exact g9);have gg:=r.o.ne 5 2 J J DV;have fy:=r.o.ne 0 2 J J DV;have gc:=r.o.ne 4 2 J J DV;have ga:=r.o.ne 1 2 J J DV;have gb:=r.o.ne 3 2 J J DV;have g:Bl K K.drew:=(BL _ K).drew;go_region_held3 (λm=>(m.cell? ⟨B12,0,none⟩=some (B dx)/\m.cell? ⟨B12,1,none⟩=some (C bi dh bz))/\(m.cell? ⟨w.heap.size,0,none⟩=some (B dz)/\m.cell? ⟨w.heap.size,1,none⟩=some (C bj di ce)/\m.cell? ⟨w.heap.size,2,none⟩=some (B eh)/\m.cell? ⟨w.heap.size,3,none⟩=some (C bt de cn))/\(m.cell? ⟨B9,0,none⟩=some (B eb)/\m.cell? ⟨B9,1,none⟩=some (C bk dj cg))/\(m.cell? ⟨w.heap.size+1,0,none⟩=some (B ed)/\m.cell? ⟨w.heap.size+1,1,none⟩=some (C bm dm cj)/\m.cell? ⟨w.heap.size+1,2,none⟩=some (B ei)/\m.cell? ⟨w.heap.size+1,3,none⟩=some (C bu df co))/\m.cell? ⟨B8,0,none⟩=some (B ef)/\m.cell? ⟨B8,1,none⟩=some (C bn dt ck)) (first|grind|(go_keep;done)|((repeat' apply And.intro)<;>((repeat rw[JO Z]);grind)))
   (first
    |(go_at_call 82;refine(H2.o _ g ).mono ?_;clear H2;rintro e w2 ⟨v2,rfl,z,T⟩;have g:=Bt g T;have Qb:=(U.below g).ka;have Qf:=(W.below g).kb;have Qd:=(X.below g).ka;have Qc:=(ad.below g).kb;have Qe:=(ae.below g).ka;have R:=(n.below g).kb;have Qg:=(n.below g).fb)
    |(go_at_call 84;refine(H4.o _ g _ z).mono ?_;clear H4;rintro e w4 ⟨v4,rfl,g4,ba⟩;have z:=z.below ba;have g:=Bt g ba;have Qb:=(U.below g).ka;have Qf:=(W.below g).kb;have Qd:=(X.below g).ka;have Qc:=(ad.below g).kb;have Qe:=(ae.below g).ka;have R:=(n.below g).kb;have Qg:=(n.below g).fb)
    |(go_at_call 82;refine(H6.o _ g ).mono ?_;clear H6;rintro e w6 ⟨v6,rfl,M,ay⟩;have z:=z.below ay;have g4:=g4.below ay;have g:=Bt g ay;have Qb:=(U.below g).ka;have Qf:=(W.below g).kb;have Qd:=(X.below g).ka;have Qc:=(ad.below g).kb;have Qe:=(ae.below g).ka;have R:=(n.below g).kb;have Qg:=(n.below g).fb)
    |(go_at_call 84;refine(H8.o _ g _ M).mono ?_;clear H8;rintro e w8 ⟨v8,rfl,S,ak⟩;have z:=z.below ak;have g4:=g4.below ak;have M:=M.below ak;have g:=Bt g ak;have Qb:=(U.below g).ka;have Qf:=(W.below g).kb;have Qd:=(X.below g).ka;have Qc:=(ad.below g).kb;have Qe:=(ae.below g).ka;have R:=(n.below g).kb;have Qg:=(n.below g).fb)
    |(go_at_call 85;refine(H9.o _ g _ g4 _ S).mono ?_;clear H9;rintro e w9 ⟨v9,rfl,g9,aj⟩;have z:=z.below aj;have g4:=g4.below aj;have M:=M.below aj;have S:=S.below aj;have g:=Bt g aj;have Qb:=(U.below g).ka;have Qf:=(W.below g).kb;have Qd:=(X.below g).ka;have Qc:=(ad.below g).kb;have Qe:=(ae.below g).ka;have R:=(n.below g).kb;have Qg:=(n.below g).fb)
    |(go_at_call 86;refine(Qo.o _ g _ g9).mono ?_;clear Qo;rintro e gp ⟨go,rfl,az,ai⟩;obtain⟨gk,fc,fx,fh,gn,fe,fu,fj,rfl⟩:=Jg.form az;have z:=z.below ai;have g4:=g4.below ai;have M:=M.below ai;have S:=S.below ai;have g9:=g9.below ai;have g:=Bt g ai;have Qb:=(U.below g).ka;have Qf:=(W.below g).kb;have Qd:=(X.below g).ka;have Qc:=(ad.below g).kb;have Qe:=(ae.below g).ka;have R:=(n.below g).kb;have Qg:=(n.below g).fb))
  all_goals go_wp2_with fail
  have Qk:=Bt r.o.2.2 g;have Qq:=r.o.ge 2 J;exact BM (by simp[results,results41,go_sem,R]) J ⟨_,J,az.put4 (n.below g) J J J J _ _ _ _,Js Qk Qq _ _ _ _⟩
def OB(U W:D)(x y:Int)(w:G)(v:Ji w U x)(z:Ji w W y)(N:Sok x)(P:Sok y):
 F H 107 #[U,W] w λe X=>∃u,e=.returned (.tuple #[u,B (decide (y≠0))])/\Jg X u (WU x y)/\Bl w X:=by
 have HX:=Ja N;have HY:=Ja P;clear N P;obtain⟨s,a,la,K,rfl⟩:=Ji.form2 v;obtain⟨t,b,lb,M,rfl⟩:=Ji.form2 z;have n:=Li w s t a b la K lb M _ _ v z;obtain⟨W0,r⟩:=ex (((w.alloc (E #[B s,C a la K] 36)).alloc (E #[B t,C b lb M] 36)).alloc (E #[B false,C none 0 0,B false,C none 0 0] 38));have A:=Ja r;rw[r]at n;have g:=Ja n;clear n v z r;obtain⟨s1,a1,l1,c1,S,i1⟩:=g.o.int (i:=0) J;have Qf:=S.ka;obtain⟨s2,a2,l2,c2,T,R⟩:=g.o.int (i:=1) J;have Qg:=T.ka;obtain⟨s3,a3,l3,c3,t3,b3,k3,d3,f,r3,i3,j3⟩:=g.o.rat (i:=2) J;have k:=f.kb;have o:=f.fb;have l:=Ja (N8 _ y W0 R);have j:=Ja λ(V:G) (h:Bl W0 V) (d:y≠0)=>OA _ _ x y V (i1.below h) (R.below h) d HX.o HY.o;by_cases d:y=0
 . rw[Bi d]at l;have m:=Ja (Bh (p:=y≠0) λh=>h d);rw[m.o];have HE:=Ja (show WU x y=0 by rw[d,Rat.divInt_zero]);clear d j;go_enter func107,ntmps107
   go_upto_region 1 with fail
   rw[A.o];go_wp2_with(go_at_call 100;refine l.o.mono ?_;rintro e w1 ⟨rfl,c⟩;have k:=(f.below c).kb;have o:=(f.below c).fb)
   have hr:Jg w1 (.agg #[B false,C none 0 0,B false,C none 0 0]) (WU x y):=by rw[HE.o];exact XK _
   have q:=Bt g.o.2.2 c;exact BM (by simp[results,results107,go_sem,k]) J ⟨_,J,hr.put4 (f.below c) J J J J _ _ _ _,Js q Z _ _ _ _⟩
 . rw[Bh d]at l;have m:=Ja (Bi (p:=y≠0) d);rw[m.o];have j:=Ja λV h=>j.o V h d;clear d;go_enter func107,ntmps107
   go_upto_region 1 with fail
   rw[A.o];go_wp2_with(first
    |(go_at_call 100;refine l.o.mono ?_;rintro e w1 ⟨rfl,c⟩;have Qf:=(S.below c).ka;have Qg:=(T.below c).ka;have k:=(f.below c).kb;have o:=(f.below c).fb)
    |(go_at_call 104;refine(j.o _ c).mono ?_;clear j;rintro e w2 ⟨u2,rfl,Q,ad⟩;obtain⟨an,ae,am,ai,ap,ah,ak,aj,rfl⟩:=Jg.form Q;have c:=Bt c ad;have k:=(f.below c).kb;have o:=(f.below c).fb))
   have q:=Bt g.o.2.2 c;have Qe:=g.o.ge 2 J;exact BM (by simp[results,results107,go_sem,k]) J ⟨_,J,Q.put4 (f.below c) J J J J _ _ _ _,Js q Qe _ _ _ _⟩
def TV(p q:Rat):decide ((p.den:Int)*q.num≠0)=decide (q≠0):=by
 refine decide_eq_decide.2 (not_congr ⟨λh=>?_,λh=>?_⟩)
 . rcases Int.mul_eq_zero.1 h with h|h
   . have:=p.den_nz;omega
   . exact Rat.num_eq_zero.1 h
 . rw[h];exact Int.mul_zero _
theorem TW(va vb:D)(p q:Rat)(w:G)(T:Jg w va p)(U:Jg w vb q)(ah:Sq p)(ai:Sq q):
 F H 70 #[va,vb] w λe m=>∃u,e=.returned (.tuple #[u,B (decide (q≠0))])/\Jg m u (p/q)/\Bl w m:=by
 obtain⟨bq,X⟩:=ex (decide (q≠0));have Qh:=Ja ((TV p q).trans X);rw[X];clear X;obtain⟨s,a,l,c,t,b,k,d,rfl⟩:=Jg.form T;obtain⟨s',a',l',c',t',b',k',d',rfl⟩:=Jg.form U;have R:=Iy w s t s' t' a b a' b' l c k d l' c' k' d' p q T U;obtain⟨W0,S⟩:=ex (((w.alloc (E #[B s,C a l c,B t,C b k d] 38)).alloc (E #[B s',C a' l' c',B t',C b' k' d'] 38)).alloc (E #[B false,C none 0 0,B false,C none 0 0] 38));have Qe:=Ja S;rw[S]at R;obtain⟨n,N,P⟩:=Dm R ah ai;clear R T U S ah ai;go_enter func70,ntmps70
 go_upto_region 1 with fail
 rw[Qe.o];clear Qe;obtain⟨s1,a1,l1,c1,t1,b1,k1,d1,v,r1,i1,j1⟩:=n.o.rat (i:=0) J;have y:=v.kb;obtain⟨s2,a2,l2,c2,t2,b2,k2,d2,x,r2,i2,j2⟩:=n.o.rat (i:=1) J;have A:=x.kb;obtain⟨s3,a3,l3,c3,t3,b3,k3,d3,g,r3,i3,j3⟩:=n.o.rat (i:=2) J;have r:=g.kb;have z:=g.fb;obtain⟨H3,H4,H6,H9,Qf⟩:=Fg (λ(V:G) (h:Bl W0 V)=>Eh _ q V (r2.below h)) (λ(V:G) (h:Bl W0 V) (v3:D) (j:Ji V v3 ((q.den:Int)))=>YH _ _ p.num (q.den:Int) V (i1.below h) j (by have h1:=N.o.num.words;have h2:=P.o.den.words;omega)) (λ(V:G) (h:Bl W0 V)=>Eh _ p V (r1.below h)) (λ(V:G) (h:Bl W0 V) (v6:D) (o:Ji V v6 ((p.den:Int)))=>YH _ _ (p.den:Int) q.num V o (i2.below h) (by have h1:=N.o.den.words;have h2:=P.o.num.words;omega)) λ(V:G) (h:Bl W0 V) (v4:D) (g4:Ji V v4 (p.num*(q.den:Int))) (v9:D) (K:Ji V v9 ((p.den:Int)*q.num))=>(by have h:=OB _ _ (p.num*(q.den:Int)) ((p.den:Int)*q.num) V g4 K (N.o.cross P.o) (N.o.cross2 P.o);rw[Qh.o,Mp]at h;exact h);have az:=n.o.ne 0 2 J J DV;have ba:=n.o.ne 1 2 J J DV;have f:Bl W0 W0.drew:=(BL _ W0).drew;go_region_held3 (λm=>(m.cell? ⟨w.heap.size,0,none⟩=some (B s1)/\m.cell? ⟨w.heap.size,1,none⟩=some (C a1 l1 c1)/\m.cell? ⟨w.heap.size,2,none⟩=some (B t1)/\m.cell? ⟨w.heap.size,3,none⟩=some (C b1 k1 d1))/\m.cell? ⟨w.heap.size+1,0,none⟩=some (B s2)/\m.cell? ⟨w.heap.size+1,1,none⟩=some (C a2 l2 c2)/\m.cell? ⟨w.heap.size+1,2,none⟩=some (B t2)/\m.cell? ⟨w.heap.size+1,3,none⟩=some (C b2 k2 d2)) (first|grind|(go_keep;done)|((repeat' apply And.intro)<;>((repeat rw[JO Z]);grind)))
  (first
   |(go_at_call 82;refine(H3.o _ f ).mono ?_;clear H3;rintro e w3 ⟨v3,rfl,j,aj⟩;have f:=Bt f aj;have y:=(v.below f).kb;have A:=(x.below f).kb;have r:=(g.below f).kb;have z:=(g.below f).fb)
   |(go_at_call 85;refine(H4.o _ f _ j).mono ?_;clear H4;rintro e w4 ⟨v4,rfl,g4,ae⟩;have j:=j.below ae;have f:=Bt f ae;have y:=(v.below f).kb;have A:=(x.below f).kb;have r:=(g.below f).kb;have z:=(g.below f).fb)
   |(go_at_call 82;refine(H6.o _ f ).mono ?_;clear H6;rintro e w6 ⟨v6,rfl,o,W⟩;have j:=j.below W;have g4:=g4.below W;have f:=Bt f W;have y:=(v.below f).kb;have A:=(x.below f).kb;have r:=(g.below f).kb;have z:=(g.below f).fb)
   |(go_at_call 85;refine(H9.o _ f _ o).mono ?_;clear H9;rintro e w9 ⟨v9,rfl,K,Q⟩;have j:=j.below Q;have g4:=g4.below Q;have o:=o.below Q;have f:=Bt f Q;have y:=(v.below f).kb;have A:=(x.below f).kb;have r:=(g.below f).kb;have z:=(g.below f).fb)
   |(go_at_call 107;refine(Qf.o _ f _ g4 _ K).mono ?_;clear Qf;rintro e bg ⟨bf,rfl,ad,M⟩;obtain⟨bc,ak,ay,an,bd,am,aq,ap,rfl⟩:=Jg.form ad;have j:=j.below M;have g4:=g4.below M;have o:=o.below M;have K:=K.below M;have f:=Bt f M;have y:=(v.below f).kb;have A:=(x.below f).kb;have r:=(g.below f).kb;have z:=(g.below f).fb))
 all_goals go_wp2_with fail
 have Qi:=Bt n.o.2.2 f;have Qg:=n.o.ge 2 J;exact BM (by simp[results,results70,go_sem,r]) J ⟨_,J,ad.put4 (g.below f) J J J J _ _ _ _,Js Qi Qg _ _ _ _⟩
def Fk(p q:Rat):Int:=XI (p.num*q.den) (q.num*p.den)
theorem XL(va vb:D)(p q:Rat)(w:G)(ha:Jg w va p)(hb:Jg w vb q)(aj:Sq p)(ak:Sq q):
 F H 42 #[va,vb] w λe g=>e=.returned (.int .i64 (Fk p q))/\Bl w g:=by
 obtain⟨s,a,l,c,t,b,k,d,rfl⟩:=Jg.form ha;obtain⟨s',a',l',c',t',b',k',d',rfl⟩:=Jg.form hb;have U:=TQ w s t s' t' a b a' b' l c k d l' c' k' d' p q ha hb;obtain⟨W0,ad⟩:=ex ((w.alloc (E #[B s,C a l c,B t,C b k d] 38)).alloc (E #[B s',C a' l' c',B t',C b' k' d'] 38));have Qf:=Ja ad;rw[ad]at U;have z:=Ja U;obtain⟨n,hn⟩:=ex (Fk p q);have HN:=Ja hn;rw[hn];have HP:=Ja aj;have HQ:=Ja ak;clear U ha hb ad aj ak hn;go_enter func42,ntmps42
 go_upto_region 1 with fail
 rw[Qf.o];clear Qf;obtain⟨R,ai⟩:=ex (decide (p.den=1/\q.den=1):Bool);have M:=Ja ai;clear ai;go_cut [10] λc g=>c=B R/\Hid (DS w g [some (w.heap.size,.rat p),some (w.heap.size+1,.rat q)])
 case first=>
  obtain⟨s1,a1,l1,c1,t1,b1,k1,d1,n1,r1,i1,j1⟩:=z.o.rat (i:=0) J;have Qh:=n1.kb;obtain⟨s2,a2,l2,c2,t2,b2,k2,d2,n2,r2,i2,j2⟩:=z.o.rat (i:=1) J;have Qi:=n2.kb;have m:=Ja (YT _ p W0 r1);have T:=Ja λ(V:G) (h:Bl W0 V)=>YT _ q V (r2.below h);by_cases u:p.den=1
  . rw[Bi u]at m;obtain⟨b2,Q⟩:=ex (decide (q.den=1));rw[Q]at T;have X:=Ja (show b2=R by rw[<-Q,<-M.o];grind);clear Q u;go_wp2_with(first
     |(go_at_call 59;refine m.o.mono ?_;clear m;rintro e w1 ⟨rfl,v⟩;have Qh:=(n1.below v).kb;have Qi:=(n2.below v).kb)
     |(go_at_call 59;refine(T.o _ v).mono ?_;clear T;rintro e w2 ⟨rfl,Q⟩))
    go_meet
    case rel=>exact⟨by rw[X.o],Ja ((z.o.below v).below Q)⟩
  . rw[Bh u]at m;have X:=Ja (show R=false by rw[<-M.o];grind);clear u;go_wp2_with(go_at_call 59;refine m.o.mono ?_;clear m;rintro e w1 ⟨rfl,v⟩)
    go_meet
    case rel=>exact⟨by rw[X.o],Ja (z.o.below v)⟩
 obtain⟨rfl,MM⟩:=hcut;have r:=MM;clear z MM;cases R with
 |true=>
  have W:=B3 M.o;have HE:=Ja (show XI p.num q.num=n by rw[<-HN.o];unfold Fk;rw[W.1,W.2];simp);clear W M;obtain⟨s3,a3,l3,c3,t3,b3,k3,d3,n3,r3,i3,j3⟩:=r.o.rat (i:=0) J;have an:=n3.kb;obtain⟨s4,a4,l4,c4,t4,b4,k4,d4,n4,r4,i4,j4⟩:=r.o.rat (i:=1) J;have ap:=n4.kb;have m:=Ja (XJ _ _ p.num q.num wc i3 i4);rw[HE.o]at m;go_wp2_with(go_at_call 87;refine m.o.mono ?_;clear m;rintro e w1 ⟨rfl,f⟩)
  go_ret;exact⟨J,Bt r.o.2.2 f⟩
 |false=>
  clear M;go_upto_region 3 with fail
  obtain⟨s5,a5,l5,c5,t5,b5,k5,d5,x,r5,i5,j5⟩:=r.o.rat (i:=0) J;have K:=x.kb;obtain⟨s6,a6,l6,c6,t6,b6,k6,d6,y,r6,i6,j6⟩:=r.o.rat (i:=1) J;have A:=y.kb;obtain⟨H3,H4,H8,H9,Qg⟩:=Fg (λ(V:G) (h:Bl wc V)=>Eh _ q V (r6.below h)) (λ(V:G) (h:Bl wc V) (v3:D) (j:Ji V v3 ((q.den:Int)))=>YH _ _ p.num (q.den:Int) V (i5.below h) j (by have u:=HP.o.num.words;have h2:=HQ.o.den.words;omega)) (λ(V:G) (h:Bl wc V)=>Eh _ p V (r5.below h)) (λ(V:G) (h:Bl wc V) (v8:D) (o:Ji V v8 ((p.den:Int)))=>YH _ _ q.num (p.den:Int) V (i6.below h) o (by have u:=HQ.o.num.words;have h2:=HP.o.den.words;omega)) λ(V:G) (h:Bl wc V) (v4:D) (g4:Ji V v4 (p.num*(q.den:Int))) (v9:D) (N:Ji V v9 (q.num*(p.den:Int)))=>(by have h:=XJ _ _ (p.num*(q.den:Int)) (q.num*(p.den:Int)) V g4 N;rw[show XI (p.num*(q.den:Int)) (q.num*(p.den:Int))=n from HN.o]at h;exact h);have f:Bl wc wc.drew:=(BL _ wc).drew;go_region_held3 (λg=>(g.cell? ⟨w.heap.size,0,none⟩=some (B s5)/\g.cell? ⟨w.heap.size,1,none⟩=some (C a5 l5 c5)/\g.cell? ⟨w.heap.size,2,none⟩=some (B t5)/\g.cell? ⟨w.heap.size,3,none⟩=some (C b5 k5 d5))/\g.cell? ⟨w.heap.size+1,0,none⟩=some (B s6)/\g.cell? ⟨w.heap.size+1,1,none⟩=some (C a6 l6 c6)/\g.cell? ⟨w.heap.size+1,2,none⟩=some (B t6)/\g.cell? ⟨w.heap.size+1,3,none⟩=some (C b6 k6 d6)) (first|grind|(go_keep;done)|((repeat' apply And.intro)<;>((repeat rw[JO Z]);first|(simp only[*];done)|(go_keep;done))))
   (first
    |(go_at_call 82;refine(H3.o _ f ).mono ?_;clear H3;rintro e w3 ⟨v3,rfl,j,am⟩;have f:=Bt f am;have K:=(x.below f).kb;have A:=(y.below f).kb)
    |(go_at_call 85;refine(H4.o _ f _ j).mono ?_;clear H4;rintro e w4 ⟨v4,rfl,g4,ah⟩;have j:=j.below ah;have f:=Bt f ah;have K:=(x.below f).kb;have A:=(y.below f).kb)
    |(go_at_call 82;refine(H8.o _ f ).mono ?_;clear H8;rintro e w8 ⟨v8,rfl,o,ae⟩;have j:=j.below ae;have g4:=g4.below ae;have f:=Bt f ae;have K:=(x.below f).kb;have A:=(y.below f).kb)
    |(go_at_call 85;refine(H9.o _ f _ o).mono ?_;clear H9;rintro e w9 ⟨v9,rfl,N,S⟩;have j:=j.below S;have g4:=g4.below S;have o:=o.below S;have f:=Bt f S;have K:=(x.below f).kb;have A:=(y.below f).kb)
    |(go_at_call 87;refine(Qg.o _ f _ g4 _ N).mono ?_;clear Qg;rintro e aq ⟨rfl,P⟩;have j:=j.below P;have g4:=g4.below P;have o:=o.below P;have N:=N.below P;have f:=Bt f P;have K:=(x.below f).kb;have A:=(y.below f).kb))
  all_goals go_wp2_with fail
  go_ret;exact⟨J,Bt r.o.2.2 f⟩
theorem I0(va vb:D)(p q:Rat)(w:G)(x:Jg w va p)(y:Jg w vb q)(ad:Sq p)(ae:Sq q):
 F H 43 #[va,vb] w λe j=>∃u,e=.returned u/\Jg j u (p-q)/\Bl w j:=by
 obtain⟨s,a,l,c,t,b,k,d,rfl⟩:=Jg.form x;obtain⟨s',T,l',c',t',W,k',d',rfl⟩:=Jg.form y;have o:=Iy w s t s' t' a b T W l c k d l' c' k' d' p q x y;obtain⟨W0,v⟩:=ex (((w.alloc (E #[B s,C a l c,B t,C b k d] 38)).alloc (E #[B s',C T l' c',B t',C W k' d'] 38)).alloc (E #[B false,C none 0 0,B false,C none 0 0] 38));have P:=Ja v;rw[v]at o;obtain⟨m,HP,N⟩:=Dm o ad ae;clear o x y v ad ae;go_enter func43,ntmps43
 go_upto_region 1 with fail
 rw[P.o];clear P;obtain⟨s1,U,l1,c1,t1,X,k1,d1,z,r1,i1,j1⟩:=m.o.rat (i:=0) J;have Q:=z.kb;obtain⟨s2,a2,l2,c2,t2,b2,k2,d2,A,r2,i2,j2⟩:=m.o.rat (i:=1) J;have S:=A.kb;obtain⟨s3,a3,l3,c3,t3,b3,k3,d3,n,r3,i3,j3⟩:=m.o.rat (i:=2) J;have r:=n.kb;have R:=n.fb;have K:=Ja λ(V:G) (h:Bl W0 V)=>N5 _ _ 0 q.num V (EB _) (i2.below h) (by have:=Sok.zero.words;omega) (by have:=N.o.num.words;omega);have M:=Ja (λ(V:G) (h:Bl W0 V) (s:Bool) (a:WO) (l c:Nat) (g:Ji V (.agg #[B s,C a l c]) (0-q.num))=>show F H 40 #[.agg #[B s1,C U l1 c1,B t1,C X k1 d1],.agg #[B s,C a l c,B t2,C b2 k2 d2]] V λe j=>∃u,e=.returned u/\Jg j u (p-q)/\Bl V j by
  have h1:=Xx _ _ p (-q) V (r1.below h) (Jg.mk (q:=-q) (by rw[Rat.neg_num,<-Int.zero_sub];exact g) (j2.below h)) HP.o N.o.neg;rw[<-CE]at h1;exact h1)
 have bf:=m.o.ne 0 2 J J DV;have bg:=m.o.ne 1 2 J J DV;have f:Bl W0 W0.drew:=(BL _ W0).drew;go_region_held3 (λj=>(j.cell? ⟨w.heap.size,0,none⟩=some (B s1)/\j.cell? ⟨w.heap.size,1,none⟩=some (C U l1 c1)/\j.cell? ⟨w.heap.size,2,none⟩=some (B t1)/\j.cell? ⟨w.heap.size,3,none⟩=some (C X k1 d1))/\j.cell? ⟨w.heap.size+1,0,none⟩=some (B s2)/\j.cell? ⟨w.heap.size+1,1,none⟩=some (C a2 l2 c2)/\j.cell? ⟨w.heap.size+1,2,none⟩=some (B t2)/\j.cell? ⟨w.heap.size+1,3,none⟩=some (C b2 k2 d2)) (first|grind|(go_keep;done)|grind[JO])
  (first
   |(go_at_call 88;refine(K.o _ f).mono ?_;clear K;rintro e w1 ⟨u1,rfl,ah,aj⟩;obtain⟨bh,am,bc,aq,rfl⟩:=Ji.form2 ah;have f:=Bt f aj;have Q:=(z.below f).kb;have S:=(A.below f).kb;have r:=(n.below f).kb;have R:=(n.below f).fb)
   |(go_at_call 40;refine(M.o _ f _ _ _ _ ah).mono ?_;clear M;rintro e w2 ⟨u2,rfl,ai,ak⟩;obtain⟨bi,an,bd,ay,bj,ap,ba,az,rfl⟩:=Jg.form ai;have f:=Bt f ak;have Q:=(z.below f).kb;have S:=(A.below f).kb;have r:=(n.below f).kb;have R:=(n.below f).fb))
 all_goals go_wp2_with fail
 have Qg:=Bt m.o.2.2 f;have Qf:=m.o.ge 2 J;exact BM (by simp[results,results43,go_sem,r]) J ⟨_,J,ai.put4 (n.below f) J J J J _ _ _ _,Js Qg Qf _ _ _ _⟩
end
section
variable{qs:Y}{cap l:Nat}{a:WO}{W:G}
theorem TY(q:Rat):Fk q 0=0↔q=0:=by
 grind[Rat.eq_iff_mul_eq_mul,Fk,XI]
def FW:Sq 0:=Sq.of (k:=1) ⟨Sm.zero _,Sm.one _ Z⟩ Z
def OC(v:D)(q:Rat)(w:G)(h:Jg w v q)(r:Sq q):
 F H 51 #[v] w λe u=>e=.returned (B (decide (q=0)))/\Bl w u:=by
 obtain⟨s,a,l,c,t,b,k,d,rfl⟩:=h.form;have b0:=Jr.new w 38 (B s) (C a l c) (B t) (C b k d);have f:Bl w (w.alloc (E #[B s,C a l c,B t,C b k d] 38)):=Ba w _;obtain⟨W0,g⟩:=ex (w.alloc (E #[B s,C a l c,B t,C b k d] 38));rw[g]at b0 f;have o:=Ja g;have i:=Ja (XL _ _ q 0 W0 (h.below f) (XK _) r FW);obtain⟨x,y,z,A⟩:=b0.cq;have j:=Ja (TY q);obtain⟨n,m⟩:=ex (Fk q 0);rw[m]at i j;clear g m;go_enter func51,ntmps51
 go_upto_region 1 with fail
 rw[o.o];go_wp2_with(go_at_call 42;refine i.o.mono ?_;rintro e K ⟨rfl,p⟩)
 go_ret;refine⟨?_,Bt f p⟩;show Ending.returned (Value.bool (n==0))=_;have e:(n==0)=decide (q=0):=by rw[CQ];simp[j.o]
 rw[e]
def Ta(c:Nat)(a:WO)(len cap:Nat)(x y z u:Nat->D)(k:Nat)(W:G):Prop:=
 W.cell? ⟨c,0,none⟩=some (C a len cap)/\(k<len->∃b,a=some ⟨b,0,none⟩/\W.cell? ⟨b,(len-1-k)*4,none⟩=some (x (len-1-k))/\W.cell? ⟨b,(len-1-k)*4+1,none⟩=some (y (len-1-k))/\
  W.cell? ⟨b,(len-1-k)*4+2,none⟩=some (z (len-1-k))/\W.cell? ⟨b,(len-1-k)*4+3,none⟩=some (u (len-1-k)))
def Gb(len:Nat)(x y z u:Nat->D)(k:Nat):Array D:=#[.int .i64 ((len:Int)-1-k),.agg #[x (len-1-k),y (len-1-k),z (len-1-k),u (len-1-k)]]
def I1(F:Fence)(n:Nat)(K:F.fn 94)(M:F.round=none)(hn:1<=n)(d:Nat)(a:WO)(len cap:Nat)(x y z u:Nat->D)(ad:len<=1099511627776):
 GR F n H 94 #[I (some ⟨d,0,none⟩)] len (Gb len x y z u) (Ta d a len cap x y z u):=λl J N W j w g=>by
 have S:=(j 0 W g).1;refine DB func94 rfl K ?_ M;simp only[ntmps94,Ak,Ag,AB,Nat.reduceAdd,Nat.reduceSub,An,Ao,Ax,Ap,Al,Aw];gi_wp2;gi_loopw [3] (λi wr=>∃k:Nat,k<=len/\i=.int .i64 ((len:Int)-1-k)/\J k wr) λi _=>(intOf i+1).toNat
 case atStart=>exact⟨0,AN _,DQ,g⟩
 case round=>
  obtain⟨k,hk,rfl,hJ⟩:=hrel;obtain⟨R,A⟩:=j k wr hJ;by_cases c:k<len
  . obtain⟨b,rfl,T,V,X,U⟩:=A c;obtain⟨fn,tmps,assign,body,q,v⟩:=w k wr hJ c;have f:((len:Int)-1-k)=((len-1-k:Nat):Int):=Z
    have Q:len-1-k<len:=Z
    dsimp only[Gb]at q;rw[f]at q ⊢;generalize o:len-1-k=m at *;have r:=Hid.o (p:=Hid (len-1-k=m)) o;clear o f;gi_wp2;refine v.mono ?_;rintro e P (⟨rfl,s⟩|⟨rfl,t⟩)
    . gi_wp2;go_roundw
      case rel=>exact⟨k+1,Z,by(congr 1;have:=r.o;omega),s⟩
      case measure=>simp[intOf]
    . gi_wp2;refine BM (results_none rfl _ _ _) rfl ?_;exact⟨⟨_,rfl⟩,.inr ⟨k,c,t⟩⟩
  . obtain rfl:k=len:=Z
    gi_wp2;go_end0;exact⟨⟨_,rfl⟩,.inl hJ⟩
def I2(F:Fence)(n:Nat)(b:F.fn 50)(c:F.round=none)(a:WO)(len cap:Nat)(w:G):
 CallsIn F n H 50 #[C a len cap] w λe d=>e=.returned (.func (.func 94) #[] #[I (some ⟨w.heap.size,0,none⟩)])/\d=w.alloc (E #[C a len cap] 23):=by
 refine DB func50 J b ?_ c;simp only[ntmps50,Ak,Ag,AB,Nat.reduceAdd,Nat.reduceSub,An,Ao,Ax,Ap,Al,Aw];gi_wp2;go_ret;exact⟨J,J⟩
def OD:D->Bool|B b=>b|_=>false
def Hr:D->WO|C a _ _=>a|_=>none
def Ht:D->Nat|C _ _ c=>c|_=>0
theorem RowK.pick{r:Bool}(h:RowK r W (C a l cap) qs):l=qs.length/\l<=cap/\cap<=9223372036854775807/\l<=1099511627776/\∃x y z u:Nat->D,∀j,j<l->Dr r W (.agg #[x j,y j,z j,u j]) (cf qs j)/\
 ∃b,a=some ⟨b,0,none⟩/\b<W.heap.size/\W.cell? ⟨b,j*4,none⟩=some (x j)/\W.cell? ⟨b,j*4+1,none⟩=some (y j)/\W.cell? ⟨b,j*4+2,none⟩=some (z j)/\W.cell? ⟨b,j*4+3,none⟩=some (u j):=by
 obtain⟨m,n,e,f,g,i,c⟩:=h;cases e;refine⟨J,f,g,i,?_⟩;rcases c with c|⟨b,o,k⟩
 . exact⟨λ_=>L,λ_=>L,λ_=>L,λ_=>L,λj d=>by rw[c]at d;simp at d⟩
 . obtain⟨cs,c1,c2⟩:=k;refine⟨λj=>cs[j*4]?.getD L,λj=>cs[j*4+1]?.getD L,λj=>cs[j*4+2]?.getD L,λj=>cs[j*4+3]?.getD L,λj d=>?_⟩;grind[cell_of]
def RowK.forms(h:RowK true W (C a l cap) qs):l=qs.length/\l<=cap/\cap<=9223372036854775807/\l<=1099511627776/\∃(s t:Nat->Bool) (k m:Nat->WO) (p n o dd:Nat->Nat),∀j,j<l->Jg W (.agg #[B (s j),C (k j) (p j) (n j),B (t j),C (m j) (o j) (dd j)]) (cf qs j)/\
 ∃b,a=some ⟨b,0,none⟩/\b<W.heap.size/\W.cell? ⟨b,j*4,none⟩=some (B (s j))/\W.cell? ⟨b,j*4+1,none⟩=some (C (k j) (p j) (n j))/\W.cell? ⟨b,j*4+2,none⟩=some (B (t j))/\W.cell? ⟨b,j*4+3,none⟩=some (C (m j) (o j) (dd j)):=by
 obtain⟨r,v,w,A,x,y,z,u,M⟩:=h.pick;refine⟨r,v,w,A,λj=>OD (x j),λj=>OD (z j),λj=>Hr (y j),λj=>Hr (u j),λj=>lenV (y j),λj=>Ht (y j),λj=>lenV (u j),λj=>Ht (u j),λj N=>?_⟩;obtain⟨i,b,q,K,c0,c1,c2,c3⟩:=M j N;obtain⟨s,P,T,c',t,Q,S,R,e,_⟩:=(show Jg W _ _ from i);simp only[Value.agg.injEq,Array.mk.injEq,List.cons.injEq,and_true]at e;obtain⟨c,d,f,g⟩:=e;rw[c,d,f,g]at i;rw[c]at c0;rw[d]at c1;rw[f]at c2;rw[g]at c3;dsimp only;rw[c,d,f,g];exact⟨i,b,q,K,c0,c1,c2,c3⟩
def OE(w:G)(a:WO)(len cap:Nat)(qs:Y)(k:Nat)(W:G):Prop:=
 ((((Boxed W w.heap.size 23 (C a len cap)/\Boxed W (w.heap.size+1) 93 (.func (.func 51) #[] #[]))/\Boxed W (w.heap.size+1+1) 23 (C none 0 0))/\Boxed W (w.heap.size+1+1+1) 23 (C a len cap))/\Bl w W)/\∀j,len-k<=j->j<len->cf qs j=0
def OG(w:G)(a:WO)(len cap:Nat)(qs:Y)(c:Code)(k:Nat)(W:G):Prop:=
 (Boxed W (w.heap.size+1+1) 23 (C a (len-1-k+1) cap)/\Bl w W)/\(c=.ret/\cf qs (len-1-k)≠0/\∀j,len-k<=j->j<len->cf qs j=0)
def Tb(w:G)(a:WO)(len cap:Nat)(qs:Y):OwnFrom (w.heap.size+1+1+1+1) (OE w a len cap qs):=
 Bj (Bj (Bj (Bj (Bj (B5 (boxed_own _ _ λ_=>C a len cap) _) (B5 (boxed_own _ _ λ_=>.func (.func 51) #[] #[]) _)) (B5 (boxed_own _ _ λ_=>C none 0 0) _)) (B5 (boxed_own _ _ λ_=>C a len cap) _)) (DA (Aa _) Z)) (DN _ _)
def Tc(w:G)(a:WO)(len cap:Nat)(qs:Y)(c:Code):OwnFrom (w.heap.size+1+1+1+1) (OG w a len cap qs c):=
 Bj (Bj (B5 (boxed_own _ _ λk=>C a (len-1-k+1) cap) _) (DA (Aa _) Z)) (DN _ _)
theorem Td(a:WO)(len cap:Nat)(qs:Y)(w:G)(h:RowK true w (C a len cap) qs)(hs:Sqs qs):
 F H 106 #[C a len cap,.func (.func 51) #[] #[]] w λe y=>∃u,e=.returned u/\(RowK true y u (Jh qs)/\Bl w y)/\(u=C none 0 0/\Jh qs=[]\/u=C a (Jh qs).length cap):=by
 obtain⟨hl,ak,am,ai,s,t,A,M,S,N,R,dd,hc⟩:=h.forms;obtain⟨HL,HC,HS⟩:=Dm hl hc hs;clear hc hl hs;refine(Be (n:=3)).1 ?_;refine Bn func106 J trivial ?_ J;simp only[ntmps106,Ak,Ag,AB,Nat.reduceAdd,Nat.reduceSub,An,Ao,Ax,Ap,Al,Aw];gi_wp2_with(refine⟨trivial,?_⟩;gi_at_call 50;refine(I2 Fence.wide _ trivial J _ _ _ _).mono ?_;rintro e y ⟨rfl,rfl⟩)
 have b0:=(((Bb w 23 (C a len cap)).alloc (E #[.func (.func 51) #[] #[]] 93)).alloc (E #[C none 0 0] 23)).alloc (E #[C a len cap] 23);have b1:=((Bb (w.alloc (E #[C a len cap] 23)) 93 (.func (.func 51) #[] #[])).alloc (E #[C none 0 0] 23)).alloc (E #[C a len cap] 23);have b2:=(Bb ((w.alloc (E #[C a len cap] 23)).alloc (E #[.func (.func 51) #[] #[]] 93)) 23 (C none 0 0)).alloc (E #[C a len cap] 23);have b3:=Bb (((w.alloc (E #[C a len cap] 23)).alloc (E #[.func (.func 51) #[] #[]] 93)).alloc (E #[C none 0 0] 23)) 23 (C a len cap);simp only[A1]at b1 b2 b3;have Qd:Bl w ((((w.alloc (E #[C a len cap] 23)).alloc (E #[.func (.func 51) #[] #[]] 93)).alloc (E #[C none 0 0] 23)).alloc (E #[C a len cap] 23)):=(((Ba w _).alloc DQ _).alloc si _).alloc si _;have hN:((((w.alloc (E #[C a len cap] 23)).alloc (E #[.func (.func 51) #[] #[]] 93)).alloc (E #[C none 0 0] 23)).alloc (E #[C a len cap] 23)).heap.size=w.heap.size+1+1+1+1:=DQ
 refine XS J Z (gf:=94) (lb:=#[I (some ⟨w.heap.size+1+1+1,0,none⟩)]) J trivial (DF func94 WS J)
  (I1 Fence.wide _ trivial J Z (w.heap.size+1+1+1) a len cap (λj=>B (s j)) (λj=>C (A j) (S j) (N j)) (λj=>B (t j)) (λj=>C (M j) (R j) (dd j)) ai) (λ_=>rfl)
  (OE w a len cap qs) (OG w a len cap qs) (by rw[hN];exact Tb w a len cap qs) (λc=>by rw[hN];exact Tc w a len cap qs c)
  ⟨⟨⟨⟨⟨b0,b1⟩,b2⟩,b3⟩,Qd⟩,λj r P=>by omega⟩ ?rd
  (λk b=>{ tmps:=#[C a len cap,.func (.func 51) #[] #[],I (some ⟨w.heap.size,0,none⟩),I (some ⟨w.heap.size+1,0,none⟩),I (some ⟨w.heap.size+1+1,0,none⟩),.int .i64 ((len:Int)-1-k),I (some ⟨b,0,none⟩),C a len cap,.func (.func 94) #[] #[I (some ⟨w.heap.size+1+1+1,0,none⟩)],.int .i64 ((len:Int)-1-k),.agg #[B (s (len-1-k)),C (A (len-1-k)) (S (len-1-k)) (N (len-1-k)),B (t (len-1-k)),C (M (len-1-k)) (R (len-1-k)) (dd (len-1-k))],L,L,L,L,L,L,L,L],defers:=[] })
  (λk=>E #[B (s (len-1-k)),C (A (len-1-k)) (S (len-1-k)) (N (len-1-k)),B (t (len-1-k)),C (M (len-1-k)) (R (len-1-k)) (dd (len-1-k))] 38 (0,0)) ?assign ?body ?done ?stop
 case rd=>
  rintro k W ⟨⟨⟨_,c3⟩,f⟩,_⟩;refine⟨c3.cell,λhk=>?_⟩;obtain⟨_,b,ea,Q,r,P,h3,h4⟩:=HC.o (len-1-k) Z;exact⟨b,ea,(f.cell (p:=⟨b,_,none⟩) Q).trans r,(f.cell (p:=⟨b,_,none⟩) Q).trans P,(f.cell (p:=⟨b,_,none⟩) Q).trans h3,(f.cell (p:=⟨b,_,none⟩) Q).trans h4⟩
 case assign=>
  intro l k W K v;unfold Gb;gi_wp2;exact v
 case body=>
  rintro l k b W ⟨⟨⟨⟨⟨c0,c1⟩,c2⟩,c3⟩,f⟩,i⟩ hk ap aj ad;have hm:len-1-k<len:=Z
  obtain⟨hi,_⟩:=HC.o (len-1-k) hm;have HI:=Ja (Jg.below hi f);have o:=Ja i;have e1:((len:Int)-1-k)=((len-1-k:Nat):Int):=Z
  rw[e1];have Qe:=Ja (show len-1-k=len-1-k from J);clear e1 i hi;obtain⟨m,ae⟩:=ex (len-1-k);have T:=Ja ae;rw[ae]at ad HI hm ⊢;clear ae Qe;have q0:Jr W b 38 (B (s m)) (C (A m) (S m) (N m)) (B (t m)) (C (M m) (R m) (dd m)):=ad;obtain⟨k0,k1,k2,k3⟩:=q0.cq;have d0:=c0.cell;have d1:=c1.cell;have d2:=c2.cell;have f2:=c2.frozen;clear q0 ad;have z:=Ja (Bu l ((Be (n:=3-1-1-1)).2 (OC _ _ W HI.o (HS.o.at m))));by_cases g:cf qs m=0
  . have U:=Ja g;rw[show decide (cf qs m=0)=true from Bi g]at z;clear g;gi_wp2_with(refine⟨trivial,?_⟩;gi_at_call 51;refine z.o.mono ?_;rintro e y ⟨rfl,d⟩)
    refine⟨(JS d).from _,⟨⟨⟨⟨boxed_below c0 d,boxed_below c1 d⟩,boxed_below c2 d⟩,boxed_below c3 d⟩,Bt f d⟩,λj r P=>?_⟩;by_cases x:j=m
    . rw[x];exact U.o
    . have:=T.o;exact o.o j Z P
  . have U:=Ja g;rw[show decide (cf qs m=0)=false from Bh g]at z;clear g;gi_wp2_with(refine⟨trivial,?_⟩;gi_at_call 51;refine z.o.mono ?_;rintro e y ⟨rfl,d⟩;have d0:=(boxed_below c0 d).cell;have d2:=(boxed_below c2 d).cell;have f2:=(boxed_below c2 d).frozen)
    have ah:=Bt f d;refine⟨((JS d).trans (Bg _ _ _)).from _,⟨?_,ah.setCell (p:=⟨w.heap.size+1+1,0,none⟩) si _⟩,J,by rw[T.o];exact U.o,o.o⟩;rw[T.o];exact(boxed_below c2 d).set _
 case done=>
  rintro D W X ⟨⟨⟨⟨⟨c0,c1⟩,c2⟩,c3⟩,f⟩,i⟩ v;have d1:=c2.cell;have f1:=c2.frozen;have o:=Ja i;clear i;gi_wp2;have Qc:=(Bg W ⟨w.heap.size+1+1,0,none⟩ (C none 0 0)).same D _ v J;refine⟨DQ,.inl ⟨_,_,J,Bq Qc,?_⟩⟩;have V:=(c2.set (C none 0 0)).kept (Bp _ D (.deferred none)) (λe=>by grind);have q:=V.cell;have e0:=KQ λj=>by
   rcases AJ j len with x|x
   . exact o.o j Z x
   . exact J2 (by have:=HL.o;omega)
  refine⟨C none 0 0,by simp[results,results106,go_sem,q],_,J,⟨?_,?_⟩,Az ⟨J,e0⟩⟩
  . rw[e0];exact RowK.nil _ _
  . exact(f.setCell (p:=⟨w.heap.size+1+1,0,none⟩) si _).trans (DP (w:=w) (Aa _) _ D _ _ (by simp at X;omega) Qc J J)
 case stop=>
  rintro D c k W X hk ⟨⟨c1,f⟩,rfl,g,i⟩ v;have d1:=c1.cell;have o:=Ja (show cf qs (len-1-k)≠0/\∀j,len-k<=j->j<len->cf qs j=0 from⟨g,i⟩);clear i g;gi_wp2;refine⟨DQ,.inl ⟨_,_,J,Bq v,?_⟩⟩;have V:=c1.kept (Bp _ D (.deferred none)) (λe=>by grind);have q:=V.cell;have Qb:Bl w (W.putObj D (.deferred none)):=f.trans (DP (w:=w) (Aa _) _ D _ _ (by simp at X;omega) v J J);have an:=HL.o;have e:Jh qs=qs.take (len-1-k+1):=by
   refine PP Z (AE o.o.1) λj x=>?_;rcases AJ j len with r|r
   . exact o.o.2 j Z r
   . exact J2 Z
  have el:(qs.take (len-1-k+1)).length=len-1-k+1:=by rw[Aj];omega
  refine⟨C a (len-1-k+1) cap,by simp[results,results106,go_sem,q],_,J,⟨?_,Qb⟩,AE (by rw[e,el])⟩;rw[e];exact(h.below Qb).take Z
def I3(b:Nat)(v:D):Prop:=∀a l c,v=C (some a) l c->b<=a.block
def I4(b:Nat)(v:D):Prop:=∀a l c,v=.agg #[C (some a) l c]->b<=a.block
def X7{B:Nat}{c:Nat}(b:Boxed W B 25 (C a l c))(x:D){v:D}(h:RowK true W v qs):RowK true (W.setCell ⟨B,0,none⟩ x) v qs:=
 M3.Hl (cs:=#[C a l c]) b (o:=0) J J true DV x v qs h
def X0(v:D)(qs:Y)(w:G)(h:RowK true w v qs)(hs:Sqs qs):
 F H 65 #[v] w λe q=>∃u,e=.returned u/\Jj q u (Jh qs)/\(∀b,I3 b v->I4 b u)/\Bl w q:=by
 obtain⟨a,l,c,rfl⟩:=h.form;have b0:=Bb w 25 (C none 0 0);have d:Bl w (w.alloc (E #[C none 0 0] 25)):=Ba w _;obtain⟨W0,i⟩:=ex (w.alloc (E #[C none 0 0] 25));rw[i]at b0 d;have s:=Ja i;have j:=Ja (Td a l c qs W0 (h.below d) hs);have o:=b0.cell;have f0:=b0.frozen;clear i h hs;go_enter func65,ntmps65
 go_upto_region 1 with fail
 rw[s.o];go_wp2_with(go_at_call 106;refine j.o.mono ?_;clear j;rintro e M ⟨u,rfl,⟨n,k⟩,m⟩;obtain⟨z,K,A,rfl⟩:=n.form;have f:=boxed_below b0 k;have o:=f.cell;have f0:=f.frozen;have r:=Ja m;clear m)
 refine BM (by simp[results,results65,go_sem,o]) J ⟨_,J,⟨_,J,X7 f _ n⟩,?_,(Bt d k).setCell (p:=⟨w.heap.size,0,none⟩) (Aa _) _⟩;intro b t x y c' e;simp only[Value.agg.injEq,Array.mk.injEq,List.cons.injEq,and_true]at e;rcases r.o with⟨g,_⟩|g
 . rw[g]at e;cases e
 . rw[g]at e;cases e;exact t _ _ _ J
def Yn(v:D)(ps:Y)(w:G)(h:Jj w v ps):
 F H 15 #[v] w λe c=>e=.returned (.int .i64 ((ps.length:Int)-1))/\Bl w c:=by
 obtain⟨u,rfl,b⟩:=h;obtain⟨a,cap,rfl,d,f,g,_⟩:=b.open;clear b;generalize ps.length=n at *;go_enter func15,ntmps15
 go_wp2;go_ret;exact⟨J,Ba _ _⟩
def OH(v:D)(qs:Y)(i:Int)(w:G)(h:RowK true w v qs):
 F H 49 #[v,.int .i64 i] w λe k=>∃u,e=.returned u/\Jg k u (if i<0 then 0 else cf qs i.toNat)/\Bl w k:=by
 obtain⟨a,l,c,rfl⟩:=h.form;obtain⟨hl,R,S,T,s,t,q,r,M,x,K,dd,g⟩:=h.forms;have o:=Ja hl;have d:=Ja g;clear hl g h;by_cases f:i<0
 . rw[Br f];go_enter func49,ntmps49
   go_wp2;exact BM (by simp[results,results49,go_sem]) J ⟨_,J,XK _,(Ba w _).alloc DQ _⟩
 . rw[Bk f];by_cases y:(l:Int)<=i
   . have p:=Ja (show cf qs i.toNat=0 from J2 (by have:=o.o;omega));rw[p.o];go_enter func49,ntmps49
     go_wp2;exact BM (by simp[results,results49,go_sem]) J ⟨_,J,XK _,(Ba w _).alloc DQ _⟩
   . obtain⟨m,rfl⟩:∃m:Nat,i=(m:Int):=⟨i.toNat,Z⟩;have z:m<l:=Z
     obtain⟨j,b,rfl,Q,U,A,V,W⟩:=d.o m z;have n:=Ja j;rw[Cw];clear d j y;generalize s m=s1 at *;generalize t m=t1 at *;generalize q m=N at *;generalize r m=P at *;generalize M m=X at *;generalize x m=c1 at *;generalize K m=A at *;generalize dd m=d1 at *;go_enter func49,ntmps49
     go_wp2;exact BM (by simp[results,results49,go_sem]) J ⟨_,J,n.o.below (Ba w _),Ba w _⟩
def Tryz.infoRat:(Tryz.prog.info? 38).map (λi=>(i.zero,i.size,i.bytes))=some (some (.agg #[B false,C none 0 0,B false,C none 0 0]),4,64):=by kernel_rfl
def Yh(n:Nat):Array D:=madeCells #[B false,C none 0 0,B false,C none 0 0] (n*4)
theorem I5{n j:Nat}(a:j<n):(Yh n)[j*4]?=some (B false)/\(Yh n)[j*4+1]?=some (C none 0 0)/\(Yh n)[j*4+2]?=some (B false)/\(Yh n)[j*4+3]?=some (C none 0 0):=by
 unfold Yh madeCells;have h:∀k,k<n*4->((Array.range (n*4)).map λi=>(#[Value.bool false,Value.slice none 0 0,Value.bool false,Value.slice none 0 0]:Array D)[i%4]!)[k]?=some ((#[Value.bool false,Value.slice none 0 0,Value.bool false,Value.slice none 0 0]:Array D)[k%4]!):=λk b=>by
  grind
 refine⟨(h _ Z).trans ?_,(h _ Z).trans ?_,(h _ Z).trans ?_,(h _ Z).trans ?_⟩
 . grind
 . grind
 . grind
 grind
def Hu(n:Nat)(h:n<=2199023255552)(w:G):(Instr.makeSlice 23 (.int .i64 (n:Int)) (.int .i64 (n:Int))).run H w=.ok (C (some ⟨w.heap.size,0,none⟩) n n) (w.alloc (E (Yh n) 38)):=by
 obtain⟨i,d,b⟩:=CP.1 Tryz.infoRat;simp only[Prod.mk.injEq]at b;obtain⟨e,hs,c⟩:=b;have a:=run_make (P:=H) w 23 38 i _ underlying23 d e .i64 .i64 n n Z (Int.le_refl _) (by rw[c];omega) Z;simp only[Cw,hs]at a;exact a
def Lj(n:Nat)(w:G):Dg true (w.alloc (E (Yh n) 38)) w.heap.size (List.replicate n 0):=by
 refine⟨Yh n,BV w _,λj a=>?_⟩;rw[AC]at a;obtain⟨b,c,d,e⟩:=I5 a;exact⟨_,_,_,_,b,c,d,e,by rw[JQ];exact XK _⟩
theorem Te(a b:WO)(la Q lb R:Nat)(ps qs:Y)(w:G)(x:RowK true w (C a la Q) ps)(y:RowK true w (C b lb R) qs)(ad:Sqs ps)(ae:Sqs qs):
 F H 67 #[C a la Q,C b lb R,.func (.func 40) #[] #[]] w λe w'=>∃v c,e=.returned v/\RowK true w' v c/\(∀j,cf c j=cf ps j+cf qs j)/\I3 w.heap.size v/\Bl w w':=by
 obtain⟨W,aj,am,ba,_⟩:=x.forms;obtain⟨X,ak,an,bc,_⟩:=y.forms;obtain⟨n,hn⟩:∃n:Nat,max (la:Int) (lb:Int)=(n:Int):=⟨max la lb,Z⟩;have bg:n<=1099511627776:=Z
 obtain⟨HN,HA,HB,HP,HQ,Qp,Qq⟩:=K5 (show la<=n/\lb<=n from by omega) x y ad ae W X;have Qo:=Hu n Z w;have o:=Lj n w;have s:Bl w (w.alloc (E (Yh n) 38)):=Ba w _;obtain⟨W0,S⟩:=ex (w.alloc (E (Yh n) 38));rw[S]at o s Qo;have Qr:=Ja o;have Qn:=Ja s;clear o s S x y ad ae W X aj am ak an;go_enter func67,ntmps67
 go_wp2;go_loopw [17] (λi wr=>∃(k:Nat) (c:Y),k<=n/\i=.int .i64 (k:Int)/\Hid (c.length=n/\(∀j,j<k->cf c j=cf ps j+cf qs j)/\Dg true wr w.heap.size c/\Bl w wr)) λi _=>n-(intOf i).toNat
 case atStart=>exact⟨0,_,AN _,J,Ja ⟨AC,λj l=>by omega,Qr.o,Qn.o⟩⟩
 case round=>
  obtain⟨k,c,hk,rfl,d⟩:=hrel;by_cases bd:k<n
  . have bf:(k:Int)<(n:Int):=Z
    have q:=Ja (OH _ ps (k:Int) wr (HA.o.below d.o.2.2.2));have r:=Ja λ(V:G) (h:Bl wr V)=>OH _ qs (k:Int) V ((HB.o.below d.o.2.2.2).below h);rw[Bk Z,Cw]at q;rw[show(if(k:Int)<0 then(0:Rat)else cf qs ((k:Int)).toNat)=cf qs k from by grind]at r;have M:=Ja λ(V:G) (u v:D) (hu:Jg V u (cf ps k)) (hv:Jg V v (cf qs k))=>Xx u v (cf ps k) (cf qs k) V hu hv (HP.o.at k) (HQ.o.at k);have p:=Ja (show k<c.length from by have:=d.o.1;omega);go_wp2_with(first
     |(go_at_call 49;refine q.o.mono ?_;clear q;rintro e w1 ⟨u1,rfl,g,T⟩;have m:=T)
     |(go_at_call 49;refine(r.o _ m).mono ?_;clear r;rintro e w2 ⟨u2,rfl,ah,z⟩;have g:=g.below z;have P:=Bt m z;clear m)
     |(go_at_call 40;refine(M.o _ _ _ g ah).mono ?_;clear M;rintro e w3 ⟨u3,rfl,ai,U⟩;have N:=Bt P U;clear P g ah T z U;have f:=d.o.2.2.1.below N;obtain⟨x0,y0,z0,t0,k0,k1,k2,k3,_⟩:=f.at p.o;have f0:=f.frozen (k*4);have f1:=f.frozen (k*4+1);have f2:=f.frozen (k*4+2);have f3:=f.frozen (k*4+3);obtain⟨bj,ap,bi,ay,bk,aq,bh,az,rfl⟩:=Jg.form ai))
    go_roundw
    case rel=>
     refine⟨k+1,c.set k (cf ps k+cf qs k),Z,by go_num,Ja ⟨by rw[CS];exact d.o.1,λj l=>?_,f.set p.o ai,Nw (Bt d.o.2.2.2 N) (Aa _) _ _ _ _⟩⟩;rw[XD _ _ _ _ p.o];by_cases A:j=k
     . rw[Br A,A]
     . rw[Bk A];exact d.o.2.1 j Z
    case measure=>simp[intOf];omega
  . have Qm:k=n:=Z
    subst Qm;go_wp2;go_ret;have t:=d.o;have K:=t.2.2.1.row (n:=k) (cap:=k) Z (Aa _) Z Z;rw[Ad Z]at K;refine⟨_,c,J,K,λj=>?_,λa' l' c' e=>by cases e;exact Aa _,t.2.2.2⟩;rcases AJ j k with l|l
    . exact t.2.1 j l
    . have:=HN.o;have h1:=Qp.o;have h2:=Qq.o;rw[J2 Z,J2 Z,J2 Z];grind
def Gc(A K:D)(ps qs:Y)(w:G)(k:Jj w A ps)(l:Jj w K qs)(t:Sqs ps)(y:Sqs qs)(z:Sqs (Xa ps qs)):
 F H 26 #[A,K] w λe M=>∃u,e=.returned u/\Jj M u (Xa ps qs)/\I4 w.heap.size u/\Bl w M:=by
 obtain⟨u,rfl,k⟩:=k;obtain⟨v,rfl,l⟩:=l;obtain⟨a,la,f,rfl⟩:=k.form;obtain⟨b,lb,g,rfl⟩:=l.form;obtain⟨W0,d⟩:=ex (((w.alloc (E #[C a la f] 25)).alloc (E #[C b lb g] 25)).alloc (E #[C none 0 0] 25));have b0:Boxed W0 w.heap.size 25 (C a la f):=by rw[<-d];exact((Bb w _ _).alloc _).alloc _
 have T:Boxed W0 (w.heap.size+1) 25 (C b lb g):=by rw[<-d];have:=(Bb (w.alloc (E #[C a la f] 25)) 25 (C b lb g)).alloc (E #[C none 0 0] 25);simpa using this
 have U:Boxed W0 (w.heap.size+1+1) 25 (C none 0 0):=by rw[<-d];have:=Bb ((w.alloc (E #[C a la f] 25)).alloc (E #[C b lb g] 25)) 25 (C none 0 0);simpa using this
 have m:Bl w W0:=by rw[<-d];exact((Ba w _).alloc DQ _).alloc si _
 obtain⟨r,s,R,Q⟩:=Dw (Te a b la f lb g ps qs W0 (k.below m) (l.below m) t y) (λ(V:G) (v:D) (c:Y) (h:RowK true V v c) (hs:Sqs c)=>X0 v c V h hs) z d;have k0:=b0.cell;have k1:=T.cell;clear d k l t y z;go_enter func26,ntmps26
 go_upto_region 1 with fail
 rw[Q.o];go_wp2_with(first
  |(go_at_call 67;refine r.o.mono ?_;clear r;rintro e w1 ⟨v1,c,rfl,ai,q,ae,X⟩;have P:Sqs c:=Sqs.of (λi=>by rw[q i,<-Fu];exact R.o.at i);have N:=Ja q;clear q)
  |(go_at_call 65;refine(s.o _ _ c ai P).mono ?_;clear s;rintro e w2 ⟨u2,rfl,o,ah,ad⟩;obtain⟨a9,l9,c9,rfl⟩:=o.form;have x:=Bt X ad;have n:=boxed_below U x;have k2:=n.cell;have f2:=n.frozen))
 have W:Jh c=Xa ps qs:=by
  rw[<-Yz];exact X8 λj=>by rw[N.o j,Fu]
 rw[W]at o;refine BM (by simp[results,results26,go_sem,k2]) J ⟨_,J,⟨_,J,X7 n _ o.row⟩,?_,(Bt m x).setCell (p:=⟨w.heap.size+1+1,0,none⟩) si _⟩;intro S l' c' e;have:=ah W0.heap.size ae S l' c' e;have h2:=m.size;omega
end
section
def Ei(r:Bool)(b:Nat)(W:G)(v:D)(qs:Y):Prop:=
 (v=C none 0 0/\qs=[])\/∃g cap a,v=C (some ⟨g,0,none⟩) qs.length cap/\b<=g/\W.heap[g]?=some (E a (Hj r) (0,0))/\qs.length<=cap/\cap<=maxLen/\a.size=cap*4/\(∀c∈a.toList,Jv c=true)/\YN r W (a.toList.take (qs.length*4)) qs
variable{r:Bool}{qs:Y}{b:Nat}{v:D}{W:G}
theorem Ei.nil(r:Bool)(a:Nat)(W:G):Ei r a W (C none 0 0) []:=Az ⟨J,J⟩
def Ei.below{r:Bool}{a:Nat}{W W':G}{v:D}{qs:Y}(h:Ei r a W v qs)(c:Bl W W'):Ei r a W' v qs:=by
 rcases h with h|⟨g,cap,d,e,f,b,i,j,k,l,m⟩
 . exact Az h
 . exact AE ⟨g,cap,d,e,f,(c.block g (Ab.1 b).1).trans b,i,j,k,l,m.below c⟩
theorem Ei.row(h:Ei r b W v qs)(hl:qs.length<=1099511627776):RowK r W v qs:=by
 rcases h with⟨rfl,rfl⟩|⟨g,cap,a,rfl,o,c,d,e,p,q,f⟩
 . exact RowK.nil r W
 . refine⟨_,cap,J,d,by unfold maxLen at e;omega,hl,AE ⟨g,J,a,c,λj i=>?_⟩⟩;obtain⟨x,y,z,u,k,l,m,n,s⟩:=f.2 j i;grind[]
theorem Ei.form(h:Ei r b W v qs):∃a c,v=C a qs.length c/\(∀p,a=some p->b<=p.block):=by
 rcases h with⟨rfl,rfl⟩|⟨g,cap,d,rfl,f,_⟩
 . exact⟨none,0,J,λp e=>by cases e⟩
 grind
end
section
open M3
def Yf(q:Rat):List UInt8:=if q.den=1 then XP q.num else XP q.num++47::XP (q.den:Int)
theorem OI(a b:List UInt8):(⟨a.toArray⟩:ByteArray)++⟨b.toArray⟩=⟨(a++b).toArray⟩:=by
 apply ByteArray.ext;simp
theorem Hv(z:Int):(XP z).length<=20*(Jc O z.natAbs).length+2:=by
 grind[Hi,XP]
theorem OJ{z:Int}(h:Sok z):(⟨(XP z).toArray⟩:ByteArray).size<=400000000000:=by
 have a:=Hv z;have b:=h.words;show(XP z).toArray.size<=_;grind
theorem OK(a b:List UInt8):(⟨a.toArray⟩:ByteArray)++⟨#[47]⟩++⟨b.toArray⟩=⟨(a++47::b).toArray⟩:=by
 grind[OI]
theorem Tf(va:D)(q:Rat)(w:G)(g:Jg w va q)(j:Sq q)(ae:Lib.TabIs H w "internal/strconv.uint64pow10" .u64 Lib.pow10Tab):
 F H 16 #[va] w λe k=>e=.returned (.string ⟨(Yf q).toArray⟩)/\Bl w k:=by
 obtain⟨n,N⟩:∃S:ByteArray,⟨(XP q.num).toArray⟩=S:=⟨_,J⟩;have az:n.size<=400000000000:=by rw[<-N];exact OJ j.num
 have s:=Ja N;clear N;obtain⟨M,P⟩:∃S:ByteArray,⟨(XP (q.den:Int)).toArray⟩=S:=⟨_,J⟩;have ba:M.size<=400000000000:=by rw[<-P];exact OJ j.den
 have Qi:=Ja P;clear P;have x:=Ja ae;clear ae;by_cases d:q.den=1
 . have u:=Ja d;have v:=Ja (show(⟨(Yf q).toArray⟩:ByteArray)=n by rw[<-s.o];unfold Yf;rw[Br d]);rw[v.o];clear d;obtain⟨aq,ah,ap,aj,ay,ai,an,ak,rfl⟩:=Jg.form g;obtain⟨W0,m,c⟩:=GV 38 (.rat q) g;have Qd:=Ja j;clear g j;go_enter func16,ntmps16
   go_upto_region 1 with fail
   rw[m.o];clear m;obtain⟨s1,a1,l1,c1,t1,b1,k1,d1,p,t,R,j1⟩:=c.o.rat (i:=0) J;obtain⟨K,y,z,A⟩:=p.cq;have b:=Ja (YT _ q W0 t);rw[Bi u.o]at b;have f:=Ja λ(V:G) (h:Bl W0 V)=>Lc _ q.num V (R.below h) (JB x.o (Bt c.o.2.2 h));rw[s.o]at f;go_wp2_with(first
    |(go_at_call 59;refine b.o.mono ?_;clear b;rintro e l ⟨rfl,a⟩;obtain⟨K,y,z,A⟩:=(p.below a).cq)
    |(go_at_call 60;refine(f.o _ a).mono ?_;clear f;rintro e w2 ⟨rfl,Q⟩;have a:=Bt a Q))
   go_ret;exact⟨J,Bt c.o.2.2 a⟩
 . have u:=Ja d;have v:=Ja (show(⟨(Yf q).toArray⟩:ByteArray)=n++⟨#[47]⟩++M by rw[<-s.o,<-Qi.o,OK];unfold Yf;rw[Bk d]);rw[v.o];have HZ:=Ja (show denZ q=q.den by unfold denZ;rw[Bk d]);clear d;have y1:¬9223372036854775807<n.size+1:=Z
   have y2:¬9223372036854775807<n.size+1+M.size:=Z
   obtain⟨aq,ah,ap,aj,ay,ai,an,ak,rfl⟩:=Jg.form g;obtain⟨W0,m,c⟩:=GV 38 (.rat q) g;have Qd:=Ja j;clear g j;go_enter func16,ntmps16
   go_upto_region 1 with fail
   rw[m.o];clear m;obtain⟨s1,a1,l1,c1,t1,b1,k1,d1,p,t,R,j1⟩:=c.o.rat (i:=0) J;obtain⟨K,y,z,A⟩:=p.cq;have b:=Ja (YT _ q W0 t);rw[Bh u.o]at b;go_upto_region 3 with(go_at_call 59;refine b.o.mono ?_;clear b;rintro e l ⟨rfl,ad⟩)
   have r:=Ja (c.o.below ad);clear c;clear p K y z A R t j1 ad;obtain⟨s2,a2,l2,c2,t2,b2,k2,d2,T,r2,i2,j2⟩:=r.o.rat (i:=0) J;obtain⟨W,X,Qk,Qj⟩:=T.cq;have f:=Ja λ(V:G) (h:Bl l V)=>(by have o:=Lc _ q.num V (i2.below h) (JB x.o (Bt r.o.2.2 h));rw[s.o]at o;exact o);have U:=Ja λ(V:G) (h:Bl l V)=>(by have h0:=(j2.below h);rw[HZ.o]at h0;have o:=Lc _ (q.den:Int) V h0 (JB x.o (Bt r.o.2.2 h));rw[Qi.o]at o;exact o);have a:Bl l l.drew:=(BL _ l).drew;go_region_held3 (λk=>k.cell? ⟨w.heap.size,0,none⟩=some (B s2)/\k.cell? ⟨w.heap.size,1,none⟩=some (C a2 l2 c2)/\k.cell? ⟨w.heap.size,2,none⟩=some (B t2)/\k.cell? ⟨w.heap.size,3,none⟩=some (C b2 k2 d2)) (first|grind|(go_keep;done)|(refine⟨?_,?_,?_,?_⟩<;>((repeat rw[JO Z]);first|assumption|(go_keep;done))))
    (first
     |(go_at_call 60;refine(f.o _ a ).mono ?_;clear f;rintro e w2 ⟨rfl,Q⟩;have a:=Bt a Q;obtain⟨W,X,Qk,Qj⟩:=(T.below a).cq)
     |(go_at_call 60;refine(U.o _ a ).mono ?_;clear U;rintro e w6 ⟨rfl,am⟩;have a:=Bt a am;obtain⟨W,X,Qk,Qj⟩:=(T.below a).cq))
   all_goals go_wp2_with fail
   go_ret;exact⟨J,Bt r.o.2.2 a⟩
end
section
variable{c:Rat}
def Tg(b:ByteArray)(n i:Nat)(r:List UInt8)(h:b.size-i=n):ByteArray.toList.loop b i r=r.reverse++b.data.toList.drop i:=by
 induction n generalizing i r with
 |zero=>
  rw[ByteArray.toList.loop,Bk Z,AF (by simpa using(by omega:b.size<=i)),CH]
 |succ n d=>
  have a:i<b.size:=Z
  have c:i<b.data.toList.length:=by simpa using a
  rw[ByteArray.toList.loop,Br a,d (i+1) _ Z,List.reverse_cons,CI,Ay c];have e:b.get! i=b.data.toList[i]:=by
   show b.data[i]! = _;rw[getElem!_pos b.data i a];simp
  rw[e];rfl
theorem I6(b:ByteArray):b.toList=b.data.toList:=by
 show ByteArray.toList.loop b 0 []=_;rw[Tg b _ 0 [] J];rfl
def D7(c:Rat):Rat:=if c<0 then -c else c
def FC(c:Rat)(i:Nat):List UInt8:=if Yf (D7 c)=[49]/\0<i then []else Yf (D7 c)
def FX(i:Nat):List UInt8:=if i=0 then []else if i=1 then [120]else 120::94::Xw i
def Hw(c:Rat)(first:Bool):List UInt8:=if c<0 then [45]else if first then []else [43]
def Xs(c:Rat)(i:Nat)(first:Bool):List UInt8:=Hw c first++FC c i++FX i
def Yi:Y->Nat->List UInt8
 |[],_=>[]
 |c::t,i=>if c=0 then Yi t (i+1)else Yi t (i+1)++Xs c i (Yi t (i+1)).isEmpty
def FD(p:Y):List UInt8:=if Yi p 0=[]then [48]else Yi p 0
theorem neg_num:(c<0)↔c.num<0:=by
 rw[<-Rat.not_le,<-Rat.num_nonneg];omega
theorem Th(h:c<0):Yf c=45::Yf (-c):=by
 grind[neg_num,Yf,Rat.neg_den,Rat.neg_num,XP]
theorem Ti(h:¬c<0):(Yf c).head?≠some 45:=by
 have f:¬c.num<0:=λa=>h (neg_num.2 a);have a:(XP c.num).head?≠some 45:=by
  unfold XP;rw[Bk f];by_cases b:c.num.natAbs=0
  . rw[b];decide
  . obtain⟨d,t,e,_,j,_⟩:=MY b;grind
 have i:XP c.num≠[]:=by
  unfold XP;rw[Bk f];by_cases b:c.num.natAbs=0
  . rw[b];decide
  . obtain⟨d,t,e,_⟩:=MY b;rw[e];simp
 unfold Yf;split
 . exact a
 . cases g:XP c.num with
   |nil=>exact absurd g i
   |cons x t=>rw[g]at a;exact a
theorem OL(h:c<0):D7 c=-c:=by unfold D7;rw[Br h]
theorem OM(h:¬c<0):D7 c=c:=by unfold D7;rw[Bk h]
theorem ON(c:Rat):(D7 c).num=(c.num.natAbs:Int)/\(D7 c).den=c.den:=by
 grind[neg_num,OL,Rat.neg_num,Rat.neg_den,OM]
def OO(p:Y){m:Nat}(h:m<p.length):Yi (p.drop m) m=if cf p m=0 then Yi (p.drop (m+1)) (m+1)else Yi (p.drop (m+1)) (m+1)++Xs (cf p m) m (Yi (p.drop (m+1)) (m+1)).isEmpty:=by
 rw[Ay h,Yi,KO h]
end
namespace M3
def Lk{W W':G}{row:Option Nat}(hg:W.grownBy W' row)(z:∀r,row=some r->∃o:Obj,W.heap[r]?=some o/\o.isCells=false){k:IntKind}{v:D}{ds:U}(h:Row k W v ds):Row k W' v ds:=by
 obtain⟨a,cap,e,n,p,q,c⟩:=h;refine⟨a,cap,e,n,p,q,?_⟩;rcases c with c|⟨b,A,l,d,i⟩
 . exact Az c
 . by_cases g:ds=[]
   . exact Az g
   . have hl:0<ds.length:=AG.2 g;have f:some b≠row:=λe=>by
      obtain⟨o,y,x⟩:=z b e.symm;have s:=i 0 hl;cases o with
      |cells cs t m=>cases x
      |_=>simp[World.cell?,y]at s
     exact AE ⟨b,A,l,d.of (hg.block b d.lt f),λj u=>(Bs (w:=W) (hg.block b d.lt f)).trans (i j u)⟩
variable{cs:Array D}{bs:List (Option (Nat × Dat))}{W W' w:G}
def Xg{row:Option Nat}(hg:W.grownBy W' row)(d:∀r,row=some r->∃o:Obj,W.heap[r]?=some o/\o.isCells=false){B:Nat}{t:TypeId}(h:Bx W B t cs):Bx W' B t cs:=by
 have b:some B≠row:=λe=>by
  obtain⟨o,a,c⟩:=d B e.symm;rw[show W.heap[B]?=_ from h]at a;cases a;cases c
 exact(hg.block B h.lt b).trans h
def Hx{row:Option Nat}(hg:W.grownBy W' row)(g:∀r,row=some r->∃o:Obj,W.heap[r]?=some o/\o.isCells=false){r:Bool}{v:D}{qs:Y}(h:RowK r W v qs):RowK r W' v qs:=by
 obtain⟨a,cap,e,j,k,l,c⟩:=h;refine⟨a,cap,e,j,k,l,?_⟩;rcases c with c|⟨b,i,f⟩
 . exact Az c
 . have m:W'.heap[b]?=W.heap[b]?:=by
    obtain⟨cs,d,_⟩:=f;rw[d];exact Xg hg g d
   exact AE ⟨b,i,f.keep m λ_ _ _ h=>Lk hg g h⟩
def DS.own{row:Option Nat}(M:DS w W bs)(hg:W.grownBy W' row)(b:∀r,row=some r->w.heap.size<=r/\∃o:Obj,W.heap[r]?=some o/\o.isCells=false):DS w W' bs:=by
 have a:∀r,row=some r->∃o:Obj,W.heap[r]?=some o/\o.isCells=false:=λr e=>(b r e).2;refine⟨λi B d h=>?_,M.2.1,M.2.2.grown hg M.2.2.size λk e=>(b k e).1⟩;obtain⟨⟨cs,c,f⟩,g⟩:=M.1 i B d h;exact⟨⟨cs,Xg hg a c,f.keep (λ_ _ _ h=>Lk hg a h) (AE λ_ _ h=>Hx hg a h)⟩,g⟩
def Tj{B:Nat}(b:w.heap.size<=B)(f:Nat->List (Option (Nat × Dat))):OwnFrom B (λk W=>DS w W (f k)):=
 λ_ _ _ _ M hg a=>M.own hg λr e=>⟨At b (a r e).1,(a r e).2⟩
def DS.with(M:DS w W bs){b:Nat}(d:Dat)(m:Bx W b d.ty cs)(n:Has W (.agg cs) d)(q:w.heap.size<=b)(f:∀(i:Nat) B g,bs[i]?=some (some (B,g))->B≠b):DS w W (bs++[some (b,d)]):=by
 have e:∀(j:Nat) x,(bs++[some (b,d)])[j]?=some (some x)->bs[j]?=some (some x)\/(j=bs.length/\x=(b,d)):=λj x h=>by
  by_cases o:j<bs.length
  . rw[List.getElem?_append_left o]at h;exact Az h
  . rw[List.getElem?_append_right Z]at h;obtain⟨k,p⟩:=ex (j-bs.length);rw[p]at h;cases k with
    |zero=>simp at h;exact AE ⟨Z,h.symm⟩
    |succ k=>simp at h
 refine⟨λj B d h=>?_,λj k B d1 l a c=>?_,M.2.2⟩
 . rcases e j _ h with h|⟨_,h⟩
   . exact M.1 j B d h
   . cases h;exact⟨⟨cs,m,n⟩,q⟩
 . rcases e j _ a with a|⟨r,a⟩<;>rcases e k _ c with c|⟨s,c⟩
   . exact M.2.1 j k B d1 l a c
   . cases c;exact absurd J (f j _ _ a)
   . cases a;exact absurd J (f k _ _ c)
   . omega
def FY(w W0 W:G)(bs:List (Option (Nat × Dat))):Prop:=DS w W bs/\KeepsOthers W0 W
def FY.below{w W0 W W':G}{bs:List (Option (Nat × Dat))}(h:FY w W0 W bs)(a:Bl W W'):FY w W0 W' bs:=⟨h.1.below a,h.2.trans (JS a)⟩
def FY.drew{w W0 W:G}{bs:List (Option (Nat × Dat))}(h:FY w W0 W bs):FY w W0 W.drew bs:=h.below ((BL _ W).drew)
def Ll(W:G)(B:Nat)(x y z u:D):KeepsOthers W (put4 W B x y z u):=(((Bg _ _ _).trans (Bg _ _ _)).trans (Bg _ _ _)).trans (Bg _ _ _)
def OP(W:G)(B o:Nat)(x y z u:D):KeepsOthers W (putAt W B o x y z u):=(((Bg _ _ _).trans (Bg _ _ _)).trans (Bg _ _ _)).trans (Bg _ _ _)
