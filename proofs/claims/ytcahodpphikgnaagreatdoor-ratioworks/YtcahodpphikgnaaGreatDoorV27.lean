import Derived.Test.YtcahodpphikgnaaGreatDoorV26
import Derived.Test.YtcahodpphikgnaaGreatDoorV22
set_option linter.all false
open Go.Value renaming slice->B,bool->C
open Go.Obj renaming cells->D
open Go renaming World->E,Value->G,Calls->H
open Go.Proofs.Tryz renaming prog->F
set_option maxRecDepth 99999
set_option maxHeartbeats 0
namespace Go.Proofs.YtcahodpphikgnaaGreatDoor
open Rat renaming divInt->OB
open Proofs.Tryz
open Go.RowKit Go.Shelf
attribute [local go_sem] Oper.semAt_some
section
variable{x y:Int}
def ET(M N:G)(x y:Int)(w:E)(W:Jg w M x)(X:Jg w N y)(z:(Jb O x.natAbs).length<1000000000000)(A:(Jb O y.natAbs).length<1000000000000):
 H F 38 #[M,N] w λe d=>∃u,e=.returned u/\Jg d u (Int.gcd x y:Nat)/\Bl w d:=by
 obtain⟨a,L,r,i,c⟩:=W;cases i;obtain⟨b,lb,v,i,n⟩:=X;cases i;have o:=c.len;have q:=n.len;obtain⟨s,hs⟩:=ex (decide (x<0));obtain⟨t,I⟩:=ex (decide (y<0));rw[hs,I];obtain⟨W0,k⟩:=ex (((w.alloc (D #[C s,B a L r] 25)).alloc (D #[C t,B b lb v] 25)).alloc (D #[C false,B none 0 0] 25));obtain⟨j,b0,U,g⟩:=Ec k;have Q:=Z (NG a L r b lb v _ _ W0 (UN.below c j) (UN.below n j) (by rw[o];exact z) (by rw[q];exact A));have P:=Z λ(V:E) (u:G) (c:UN V u (Nat.gcd x.natAbs y.natAbs))=>show H F 58 #[C false,u] V λe d=>∃u,e=.returned u/\Jg d u (Int.gcd x y:Nat)/\Bl V d from Xi false u _ V c;have k1:=b0.c1;have k3:=U.c1;have S:=Z k;clear c n hs I o q z A k;go_enter func38,ntmps38
 go_upto_region 1 with fail
 rw[S.o];go_wp2_with(first
  |(go_at_call 70;refine Q.o.mono ?_;rintro e w1 ⟨u1,rfl,K,aa⟩;obtain⟨na,nc,rfl⟩:=UN.form K)
  |(go_at_call 58;refine(P.o _ _ K).mono ?_;rintro e w2 ⟨u2,rfl,m,ad⟩;obtain⟨sa,sl,sc,rfl⟩:=m.form;obtain⟨s2,l⟩:=ex (decide (((Int.gcd x y:Nat):Int)<0));rw[l]at m;rw[l];clear l;have f:=Bt aa ad;obtain⟨r0,r1⟩:=(g.below f).cp;obtain⟨f0,f1⟩:=(g.below f).fp))
 have T:=Bt j f;have R:=m.box (g.below f) J J (x0:=C s2) (x1:=B sa sl sc);exact BB (by simp[results,results38,go_sem,r0,r1]) J ⟨_,J,R,(T.setCell (p:=⟨_,0,none⟩) so _).setCell (p:=⟨_,1,none⟩) so _⟩
def Id(w:E)(a b c d:Obj):Bl w ((((w.alloc a).alloc b).alloc c).alloc d):=
 (((Ba w _).alloc Br _).alloc si _).alloc si _
theorem Ie{z r:Int}(d:y≠0)(h:r+y*z=x)(c:0<=r)(e:r<y.natAbs):z=x/y/\r=x%y:=by
 rcases Int.lt_or_gt_of_ne d with g|hp
 . have f:=(Int.ediv_emod_unique (a:=x) (b:=-y) (r:=r) (q:=-z) Y).2 ⟨B7,c,Y⟩;grind[Int.ediv_neg,Int.emod_neg]
 grind[Int.ediv_emod_unique]
theorem Ig(c:y≠0)(d:¬(x<0/\x.natAbs%y.natAbs≠0)):
 (if(!(decide (x<0)==decide (y<0)))=true then -((x.natAbs/y.natAbs:Nat):Int)else((x.natAbs/y.natAbs:Nat):Int))=x/y/\((x.natAbs%y.natAbs:Nat):Int)=x%y:=by
 have b:=Ay x.natAbs y.natAbs;have e:=At x.natAbs (show y.natAbs>0 by omega);generalize x.natAbs/y.natAbs=Q at *;generalize x.natAbs%y.natAbs=a at *;have f:(y.natAbs:Int)*Q+a=x.natAbs:=by rw[<-b];push_cast;rfl
 apply Ie c _ Y Y;grind
theorem X6(d:y≠0)(b:x<0/\x.natAbs%y.natAbs≠0):
 (if(!(decide (x<0)==decide (y<0)))=true then -((x.natAbs/y.natAbs+1:Nat):Int)else((x.natAbs/y.natAbs+1:Nat):Int))=x/y/\((y.natAbs-x.natAbs%y.natAbs:Nat):Int)=x%y:=by
 have c:=Ay x.natAbs y.natAbs;have f:=At x.natAbs (show y.natAbs>0 by omega);generalize x.natAbs/y.natAbs=Q at *;generalize x.natAbs%y.natAbs=a at *;have g:(y.natAbs:Int)*Q+a=x.natAbs:=by rw[<-c];push_cast;rfl
 obtain⟨i,e⟩:=b;apply Ie d _ Y Y;grind
def E1{W:E}{B:Nat}{t:TypeId}{c d u0 u1:G}(x0 x1 a b:G)(h:Jd W B t c d)(k:Jd W (B+1) t u0 u1):
 Jd ((((W.setCell ⟨B,0,none⟩ x0).setCell ⟨B,1,none⟩ x1).setCell ⟨B+1,0,none⟩ a).setCell ⟨B+1,1,none⟩ b) B t x0 x1/\Jd ((((W.setCell ⟨B,0,none⟩ x0).setCell ⟨B,1,none⟩ x1).setCell ⟨B+1,0,none⟩ a).setCell ⟨B+1,1,none⟩ b) (B+1) t a b:=
 ⟨(((h.set0 x0).set1 x1).far Br a).far Br b,(((k.far Br x0).far Br x1).set0 a).set1 b⟩
def NH(w:E)(a b c d:G)(p0 p1:G):
 Jd ((((w.alloc (D #[a,b] 25)).alloc (D #[c,d] 25)).alloc (D #[p0,p1] 25)).alloc (D #[p0,p1] 25)) w.heap.size 25 a b/\
 Jd ((((w.alloc (D #[a,b] 25)).alloc (D #[c,d] 25)).alloc (D #[p0,p1] 25)).alloc (D #[p0,p1] 25)) (w.heap.size+1) 25 c d/\
 Jd ((((w.alloc (D #[a,b] 25)).alloc (D #[c,d] 25)).alloc (D #[p0,p1] 25)).alloc (D #[p0,p1] 25)) (w.heap.size+1+1) 25 p0 p1/\
 Jd ((((w.alloc (D #[a,b] 25)).alloc (D #[c,d] 25)).alloc (D #[p0,p1] 25)).alloc (D #[p0,p1] 25)) (w.heap.size+1+1+1) 25 p0 p1:=by
 refine⟨(((Jd.new w _ _ _).alloc _).alloc _).alloc _,?_,?_,?_⟩
 . have h:=((Jd.new (w.alloc (D #[a,b] 25)) 25 c d).alloc (D #[p0,p1] 25)).alloc (D #[p0,p1] 25);rw[BA]at h;exact h
 . have h:=(Jd.new ((w.alloc (D #[a,b] 25)).alloc (D #[c,d] 25)) 25 p0 p1).alloc (D #[p0,p1] 25);rw[BA,BA]at h;exact h
 . have h:=Jd.new (((w.alloc (D #[a,b] 25)).alloc (D #[c,d] 25)).alloc (D #[p0,p1] 25)) 25 p0 p1;rw[BA,BA,BA]at h;exact h
theorem NI(a:N8)(j l:Nat)(b:N8)(lb i X c:Nat)(s t:Bool)(z r:Int)(w:E)(hu:UN w (B a j l) X)(hv:UN w (B b lb i) c)(hY:c≠0)(bd:j<1000000000000)(bf:lb<1000000000000)
(HP:Hid (¬(s=true/\X%c≠0)->(if(!(s==t))=true then -((X/c:Nat):Int)else((X/c:Nat):Int))=z/\((X%c:Nat):Int)=r))
(HN:Hid (s=true/\X%c≠0->(if(!(s==t))=true then -((X/c+1:Nat):Int)else((X/c+1:Nat):Int))=z/\((c-X%c:Nat):Int)=r)):
 H F 49 #[.agg #[C s,B a j l],.agg #[C t,B b lb i]] w λe d=>∃q o,e=.returned (.tuple #[q,o,C true])/\Jg d q z/\Jg d o r/\Bl w d:=by
 obtain⟨b0,A,R,S⟩:=NH w (C s) (B a j l) (C t) (B b lb i) (C false) (B none 0 0);have N:=Id w (D #[C s,B a j l] 25) (D #[C t,B b lb i] 25) (D #[C false,B none 0 0] 25) (D #[C false,B none 0 0] 25);obtain⟨W0,ad⟩:=ex ((((w.alloc (D #[C s,B a j l] 25)).alloc (D #[C t,B b lb i] 25)).alloc (D #[C false,B none 0 0] 25)).alloc (D #[C false,B none 0 0] 25));rw[ad]at b0 A R S N;have Qh:=Z ad;have bg:lb≠0:=λe=>hY ((Js Jc).1 (Ad (by rw[<-UN.len hv,e])));have Qn:=UN.below hu N;have Qd:=UN.below hv N;have Qm:=Z (GK a j l b lb i X c W0 Qn Qd hY Y);have Qw:=Z Qd;have Qq:=Z (UN.len hu).symm;obtain⟨k0,k1⟩:=b0.cp;obtain⟨k2,L⟩:=A.cp;clear ad hu hv Qn Qd;go_enter func49,ntmps49
 go_upto_region 1 with fail
 rw[Qh.o];go_upto_region 4 with(go_at_call 84;refine Qm.o.mono ?_;rintro e w1 ⟨u1,v1,rfl,K,W,x⟩;obtain⟨ua,uc,rfl⟩:=UN.form K;obtain⟨va,vc,rfl⟩:=UN.form W)
 clear Qm Qh;obtain⟨k0,k1⟩:=(b0.below x).cp;obtain⟨k2,L⟩:=(A.below x).cp;have Qg:(Jb O (X%c)).length=0↔X%c=0:=⟨λh=>(Js Jc).1 (Ad h),λh=>by rw[h,Jq];rfl⟩;have bi:=At X (show c>0 by omega);have bh:=Yc (m:=X) (n:=X/c) (Cu _ _);have Qk:(Jb O (X/c)).length<1099511627776:=by
  have f:=(Jm K).2.2.2.1
  have:(Jb O X).length=j:=by
   have h:=Qq.o;omega
  omega
 obtain⟨lr,aw⟩:=ex ((Jb O (X%c)).length);obtain⟨lq,aq⟩:=ex ((Jb O (X/c)).length);rw[aw]at W Qg ⊢;rw[aq]at K Qk ⊢;obtain⟨I,ap⟩:=ex ((s&&decide (0<lr)):Bool);have y:=Z ap;have Qp:=Z Qg;clear ap Qg aw aq;go_cut [29] λv M=>v=C I/\M=w1
 case first=>
  cases s with
  |false=>
   have e5:I=false:=by rw[<-y.o];rfl
   go_wp2_with fail
   go_meet
   grind
  |true=>
   by_cases h5:0<lr
   . have e5:I=true:=by rw[<-y.o];simp;omega
     go_wp2_with fail
     go_meet
     grind
   . have e5:I=false:=by rw[<-y.o];simp;omega
     go_wp2_with fail
     go_meet
     grind
 case rest=>
  obtain⟨rfl,rfl⟩:=hcut;go_upto_if 29 with fail
  go_cut [7,8] λqv rv M=>∃(qa:N8) (ql qc Q:Nat) (oa:N8) (ol oc aa:Nat),qv=B qa ql qc/\rv=B oa ol oc/\Hid (UN M (B qa ql qc) Q)/\Hid (UN M (B oa ol oc) aa)/\Hid ((if(!(s==t))=true then -(Q:Int)else(Q:Int))=z/\(aa:Int)=r)/\Bl W0 M
  case first=>
   cases I with
   |false=>
    have U:¬(s=true/\X%c≠0):=λ⟨f,h2⟩=>by
     have h:=y.o;rw[f]at h;simp at h;exact h2 (Qp.o.1 h)
    go_wp2_with fail
    go_meet
    case rel=>exact⟨_,_,_,_,_,_,_,_,J,J,Z K,Z W,Z (HP.o U),x⟩
   |true=>
    have U:s=true/\X%c≠0:=by
     have h:=y.o;simp at h;exact⟨h.1,λe=>by have:=Qp.o.2 e;omega⟩
    have HC:=Z U;clear U;have Qv:=Z (show ∀V:E,Bl wc V->H F 75 #[B ua lq uc,B (some ⟨V.heap.size,0,none⟩) 1 1] (V.alloc (D #[.int .u64 1] 94)) λe d=>∃u,e=.returned u/\UN d u (X/c+1)/\Below (V.alloc (D #[.int .u64 1] 94)).heap.size (V.alloc (D #[.int .u64 1] 94)) d from λV h=>by
     have Qe:Row .u64 (V.alloc (D #[.int .u64 1] 94)) (B (some ⟨V.heap.size,0,none⟩) 1 1) (Jb O 1):=by
      rw[XR Y uo];exact(Bv.made (xs:=[1]) (BD V (D #[.int .u64 ((1:Nat):Int)] 94))).row 0 1 1 Br Y Y Y
     exact Gx ua lq uc (some ⟨V.heap.size,0,none⟩) 1 1 (X/c) 1 _ (Row.below (Row.below K h) (Ba V _)) Qe Qk Y)
    have Qz:=Z λ(V:E) (h:Bl wc V)=>Ft b lb i va lr vc c (X%c) V (Row.below (Row.below Qw.o x) h) (Row.below W h) Y;have g:Bl wc wc.drew:=(BC _ wc).drew;have bx:=A.below x;go_wp2_with fail
    have L:=bx.c1;go_region_held3 (λd=>d.cell? ⟨w.heap.size+1,1,none⟩=some (B b lb i)) (first|exact L|(go_keep;done))
     (first
      |(go_at_call 75;refine(Qv.o _ g).mono ?_;rintro e w3 ⟨u3,rfl,ay,bc⟩;obtain⟨pa,pc,rfl⟩:=UN.form ay;have g:=IY g bc;have L:=(bx.below g).c1)
      |(go_at_call 76;refine(Qz.o _ g).mono ?_;rintro e w4 ⟨u4,rfl,az,am⟩;obtain⟨ma,mc,rfl⟩:=UN.form az;have g:=Bt g am;have L:=(bx.below g).c1))
    all_goals go_wp2_with fail
    go_meet
    case rel=>exact⟨_,_,_,_,_,_,_,_,J,J,Z (UN.below ay am),Z az,Z (HN.o HC.o),Bt x g⟩
  case rest=>
   obtain⟨qa,ql,qc,Q,oa,ol,oc,aa,rfl,rfl,hQ,hR,hZ,T⟩:=hcut;have Qi:=Z (show ∀V:E,Bl wc V->H F 58 #[C (!(s==t)),B qa ql qc] V λe d=>∃u,e=.returned u/\Jg d u z/\Bl V d from λV h=>by
    have f:=Xi (!(s==t)) _ _ V (UN.below hQ.o h);rw[hZ.o.1]at f;exact f)
   have Qj:=Z (show ∀V:E,Bl wc V->H F 58 #[C false,B oa ol oc] V λe d=>∃u,e=.returned u/\Jg d u r/\Bl V d from λV h=>by
    have f:=Xi false _ _ V (UN.below hR.o h);simp only[CC,if_false]at f;rw[hZ.o.2]at f;exact f)
   have k0:=(b0.below T).c0;have k2:=(A.below T).c0;go_wp2_with(first
    |(go_at_call 58;refine(Qi.o _ (BC _ _)).mono ?_;clear Qi;rintro e w5 ⟨u5,rfl,aj,ae⟩;obtain⟨P,l5,c5,rfl⟩:=aj.form;obtain⟨s5,ah⟩:=ex (decide (z<0));rw[ah]at aj;rw[ah];clear ah)
    |(go_at_call 58;refine(Qj.o _ ae).mono ?_;clear Qj;rintro e w6 ⟨u6,rfl,ak,an⟩;obtain⟨a6,l6,c6,rfl⟩:=ak.form;obtain⟨s6,ai⟩:=ex (decide (r<0));rw[ai]at ak;rw[ai];clear ai;have k:=(Bt T ae).trans (an.mono (Bt T ae).size);obtain⟨q0,q1⟩:=(R.below k).cp;obtain⟨q2,q3⟩:=(S.below k).cp;obtain⟨f0,f1⟩:=(R.below k).fp;obtain⟨f2,f3⟩:=(S.below k).fp))
   have Qf:=R.below k;have Qo:=S.below k;obtain⟨z4,z5⟩:=E1 (C s5) (B P l5 c5) (C s6) (B a6 l6 c6) Qf Qo;obtain⟨Qy,Qx⟩:=z4.cp;obtain⟨Qr,Qu⟩:=z5.cp;have Ql:Jd ((w6.setCell ⟨w.heap.size+1+1,0,none⟩ (C s5)).setCell ⟨w.heap.size+1+1,1,none⟩ (B P l5 c5)) (w.heap.size+1+1+1) 25 (C false) (B none 0 0):=(Qo.far Br _).far Br _;have Qs:=((aj.below an).box Qf J J (x0:=C s5) (x1:=B P l5 c5)).box Ql J J (x0:=C s6) (x1:=B a6 l6 c6);have Qt:=(ak.box Qf J J (x0:=C s5) (x1:=B P l5 c5)).box Ql J J (x0:=C s6) (x1:=B a6 l6 c6);have Ua:=Bt N k;exact BB (by simp[results,results49,go_sem,Qy,Qx,Qr,Qu]) J ⟨_,_,J,Qs,Qt,(((Ua.setCell (p:=⟨_,0,none⟩) so _).setCell (p:=⟨_,1,none⟩) so _).setCell (p:=⟨_,0,none⟩) so _).setCell (p:=⟨_,1,none⟩) so _⟩
def NJ(j k:G)(x y:Int)(w:E)(n:Jg w j x)(p:Jg w k y)(i:y≠0)(r:(Jb O x.natAbs).length<1000000000000)(s:(Jb O y.natAbs).length<1000000000000):
 H F 49 #[j,k] w λe d=>∃q o,e=.returned (.tuple #[q,o,C true])/\Jg d q (x/y)/\Jg d o (x%y)/\Bl w d:=by
 obtain⟨a,t,l,rfl,f⟩:=n;obtain⟨b,lb,m,rfl,g⟩:=p;refine NI a t l b lb m x.natAbs y.natAbs _ _ (x/y) (x%y) w f g Y (by rw[UN.len f];exact r) (by rw[UN.len g];exact s) (λc=>Ig i λh=>c ⟨BF h.1,h.2⟩) (λc=>X6 i ⟨BP c.1,c.2⟩)
end
open M3
variable{z:Int}{p q:Rat}
def NK(z:Int):(Yp z 0=0)↔z=0:=by
 unfold Yp;omega
def Ih(v:G)(z:Int)(w:E)(h:Jg w v z):
 H F 60 #[v] w λe m=>e=.returned (C (decide (z=0)))/\Bl w m:=by
 obtain⟨a,l,c,rfl⟩:=h.form;obtain⟨s,hs⟩:=ex (decide (z<0));rw[hs]at h ⊢;clear hs;have b0:=Jd.new w 25 (C s) (B a l c);have b:Bl w (w.alloc (D #[C s,B a l c] 25)):=Ba w _;obtain⟨W0,d⟩:=ex (w.alloc (D #[C s,B a l c] 25));rw[d]at b0 b;have j:=Z d;have f:=Z (Y1 _ _ z 0 W0 (h.below b) (X1 _));obtain⟨o,p⟩:=b0.cp;have g:=Z (NK z);obtain⟨n,i⟩:=ex (Yp z 0);rw[i]at f g;clear d i;go_enter func60,ntmps60
 go_upto_region 1 with fail
 rw[j.o];go_wp2_with(go_at_call 39;refine f.o.mono ?_;rintro e q ⟨rfl,k⟩)
 go_ret;refine⟨?_,Bt b k⟩;show Ending.returned (Value.bool (n==0))=_;have e:(n==0)=decide (z=0):=by rw[Cb];simp[g.o]
 rw[e]
def dd(y:Int):Int:=if y=0 then 1 else y
def Ii(v:G)(x y:Int)(w:E)(h:YK w v x y):
 H F 47 #[v] w λe q=>e=.returned (C (decide (y=0)))/\Bl w q:=by
 obtain⟨s,a,l,c,t,b,k,d,rfl,r,o⟩:=h;have b0:=JN.new w 27 (C s) (B a l c) (C t) (B b k d);have f:Bl w (w.alloc (D #[C s,B a l c,C t,B b k d] 27)):=Ba w _;obtain⟨W0,g⟩:=ex (w.alloc (D #[C s,B a l c,C t,B b k d] 27));rw[g]at b0 f;have m:=Z g;have i:=Z (Ih _ _ W0 (o.below f));have u:=b0.c2;have z:=b0.c3;obtain⟨n,j⟩:=ex (decide (y=0));rw[j]at i ⊢;clear g j;go_enter func47,ntmps47
 go_upto_region 1 with fail
 rw[m.o];go_wp2_with(go_at_call 60;refine i.o.mono ?_;rintro e A ⟨rfl,p⟩)
 go_ret;exact⟨J,Bt f p⟩
def NL(v:G)(x y:Int)(w:E)(h:YK w v x y):
 H F 10 #[v] w λe T=>∃u,e=.returned u/\Jg T u (dd y)/\Bl w T:=by
 have L:=h;obtain⟨s,a,l,c,t,b,k,d,rfl,V,M⟩:=h;obtain⟨W0,j⟩:=ex ((w.alloc (D #[C s,B a l c,C t,B b k d] 27)).alloc (D #[C false,B none 0 0] 25));have b0:JN W0 w.heap.size 27 (C s) (B a l c) (C t) (B b k d):=by rw[<-j];exact(JN.new w _ _ _ _ _).alloc _
 have n:Bl w W0:=by rw[<-j];exact F1 w _ _
 have i:Jd W0 (w.heap.size+1) 25 (C false) (B none 0 0):=by
  have h:=Jd.new (w.alloc (D #[C s,B a l c,C t,B b k d] 27)) 25 (C false) (B none 0 0);rw[BA,j]at h;exact h
 have m:=Z (Ii _ x y W0 (L.below n));have K:=Z j;obtain⟨k0,k1,k2,k3⟩:=b0.cq;have U:=Z (M.below n);clear L V M j;by_cases f:y=0
 . rw[BF f]at m;have o:=Z (show dd y=1 by unfold dd;rw[BW f]);clear f;go_enter func10,ntmps10
   go_upto_region 1 with fail
   rw[K.o];go_wp2_with(first
    |(go_at_call 47;refine m.o.mono ?_;rintro e X ⟨rfl,g⟩)
    |(go_at_call 40;refine(Hi 1 Y Y _).mono ?_;rintro e w2 ⟨u2,rfl,A,W⟩;obtain⟨Q,S,R,rfl⟩:=A.form;obtain⟨P,z⟩:=ex (decide ((1:Int)<0));rw[z]at A;rw[z];clear z;have f:=Bt g W;obtain⟨r0,I⟩:=(i.below f).cp;obtain⟨f0,f1⟩:=(i.below f).fp))
   have r:=Bt n f;have q:=A.box (i.below f) J J (x0:=C P) (x1:=B Q S R);exact BB (v:=.agg #[C P,B Q S R]) (by simp[results,results10,go_sem,r0,I]) J ⟨_,J,by rw[o.o];exact q,(r.setCell (p:=⟨_,0,none⟩) so _).setCell (p:=⟨_,1,none⟩) so _⟩
 . rw[BE f]at m;have o:=Z (show y=dd y by unfold dd;rw[BZ f]);clear f;go_enter func10,ntmps10
   go_upto_region 1 with fail
   rw[K.o];go_wp2_with(go_at_call 47;refine m.o.mono ?_;rintro e X ⟨rfl,g⟩;have m2:=(b0.below g).c2;have m3:=(b0.below g).c3;obtain⟨r0,I⟩:=(i.below g).cp;obtain⟨f0,f1⟩:=(i.below g).fp)
   have r:=Bt n g;have N:=U.o.below g;rw[o.o]at N;have q:=N.box (i.below g) J J (x0:=C t) (x1:=B b k d);exact BB (v:=.agg #[C t,B b k d]) (by simp[results,results10,go_sem,r0,I]) J ⟨_,J,q,(r.setCell (p:=⟨_,0,none⟩) so _).setCell (p:=⟨_,1,none⟩) so _⟩
def NM(q:Rat):dd (C2 q)=q.den:=by
 have:=q.den_pos;unfold dd C2;omega
def Yv(v:G)(q:Rat)(w:E)(h:Jo w v q):
 H F 47 #[v] w λe b=>e=.returned (C (decide (q.den=1)))/\Bl w b:=by
 have a:=Ii v q.num (C2 q) w h.pair;rwa[decide_eq_decide.2 XV]at a
def Xp(v:G)(q:Rat)(w:E)(h:Jo w v q):
 H F 10 #[v] w λe a=>∃u,e=.returned u/\Jg a u (q.den:Int)/\Bl w a:=by
 have b:=NL v q.num (C2 q) w h.pair;rwa[NM]at b
def YW(P Q:G)(x y:Int)(w:E)(i:Jg w P x)(j:Jg w Q y)(N:y≠0)(I:Sok x)(K:Sok y):
 H F 63 #[P,Q] w λe R=>∃u,e=.returned u/\Jg R u (x/y)/\Bl w R:=by
 obtain⟨a,la,ca,rfl⟩:=i.form;obtain⟨b,lb,cb,rfl⟩:=j.form;obtain⟨s,hs⟩:=ex (decide (x<0));obtain⟨t,L⟩:=ex (decide (y<0));rw[hs]at i ⊢;rw[L]at j ⊢;clear hs L;obtain⟨W0,o⟩:=ex (((w.alloc (D #[C s,B a la ca] 25)).alloc (D #[C t,B b lb cb] 25)).alloc (D #[C false,B none 0 0] 25));obtain⟨n,b0,W,X⟩:=Ec o;have S:=Z (NJ _ _ x y W0 (i.below n) (j.below n) N (by have:=I.words;omega) (by have:=K.words;omega));have U:=Z o;obtain⟨k0,k1⟩:=b0.cp;obtain⟨k2,k3⟩:=W.cp;clear i j N I K o;go_enter func63,ntmps63
 go_upto_region 1 with fail
 rw[U.o];go_upto_region 2 with(go_at_call 49;refine S.o.mono ?_;rintro e z ⟨u1,u2,rfl,v,M,A⟩;obtain⟨c,d,c1,rfl⟩:=v.form;obtain⟨f,q⟩:=ex (decide (x/y<0));rw[q]at v;rw[q];clear q;obtain⟨g,k,c2,rfl⟩:=M.form;obtain⟨l,r⟩:=ex (decide (x%y<0));rw[r]at M;rw[r];clear r)
 have bq:=(Jd.new z 25 (C f) (B c d c1)).alloc (D #[C l,B g k c2] 25);have m:=((X.below A).alloc (D #[C f,B c d c1] 25)).alloc (D #[C l,B g k c2] 25);have hu:=(v.alloc (D #[C f,B c d c1] 25)).alloc (D #[C l,B g k c2] 25);have V:Bl w ((z.alloc (D #[C f,B c d c1] 25)).alloc (D #[C l,B g k c2] 25)):=Bt (Bt n A) (F1 z _ _)
 obtain⟨q0,q1⟩:=bq.cp;obtain⟨r0,r1⟩:=m.cp;obtain⟨f0,f1⟩:=m.fp;go_wp2_with fail
 have T:=hu.box m J J (x0:=C f) (x1:=B c d c1);exact BB (by simp[results,results63,go_sem,r0,r1]) J ⟨_,J,T,(V.setCell (p:=⟨_,0,none⟩) so _).setCell (p:=⟨_,1,none⟩) so _⟩
def GL(w:E)(s t:Bool)(a b:N8)(e c lb d:Nat)(x y:Int)(f:Jg w (.agg #[C s,B a e c]) x)(g:Jg w (.agg #[C t,B b lb d]) y):
 Bu w (((w.alloc (D #[C s,B a e c] 25)).alloc (D #[C t,B b lb d] 25)).alloc (D #[C false,B none 0 0,C false,B none 0 0] 27)) [some (w.heap.size,.int x),some (w.heap.size+1,.int y),some (w.heap.size+1+1,.rat 0)]:=by
 have h:=(((Bu.nil w).push (.int x) f).push (.int y) (g.alloc _)).push (.rat 0) (DV _);rw[BA,BA,BA]at h;exact h
def Jo.mk{W:E}{s t:Bool}{a b:N8}{l c k d:Nat}(e:Jg W (.agg #[C s,B a l c]) q.num)(f:Jg W (.agg #[C t,B b k d]) (C2 q)):Jo W (.agg #[C s,B a l c,C t,B b k d]) q:=⟨_,_,_,_,_,_,_,_,J,e,f⟩
def E2(T U:G)(q:Rat)(w:E)(l:Jg w T q.num)(j:Jg w U (q.den:Int)):
 H F 64 #[T,U] w λe m=>∃u,e=.returned u/\Jo m u q/\Bl w m:=by
 obtain⟨a,g,d,rfl⟩:=l.form;obtain⟨b,lb,f,rfl⟩:=j.form;obtain⟨s,hs⟩:=ex (decide (q.num<0));obtain⟨t,M⟩:=ex (decide ((q.den:Int)<0));rw[hs]at l ⊢;rw[M]at j ⊢;clear hs M;have x:=GL w s t a b g d lb f _ _ l j;obtain⟨W0,i⟩:=ex (((w.alloc (D #[C s,B a g d] 25)).alloc (D #[C t,B b lb f] 25)).alloc (D #[C false,B none 0 0,C false,B none 0 0] 27));have b0:Jd W0 w.heap.size 25 (C s) (B a g d):=by rw[<-i];exact((Jd.new w _ _ _).alloc _).alloc _
 have y:Jd W0 (w.heap.size+1) 25 (C t) (B b lb f):=by
  have h:=(Jd.new (w.alloc (D #[C s,B a g d] 25)) 25 (C t) (B b lb f)).alloc (D #[C false,B none 0 0,C false,B none 0 0] 27);rw[BA,i]at h;exact h
 have z:JN W0 (w.heap.size+1+1) 27 (C false) (B none 0 0) (C false) (B none 0 0):=by
  have h:=JN.new ((w.alloc (D #[C s,B a g d] 25)).alloc (D #[C t,B b lb f] 25)) 27 (C false) (B none 0 0) (C false) (B none 0 0);rw[BA,BA,i]at h;exact h
 rw[i]at x;have o:=x.2.2;obtain⟨r,I,X,Qc⟩:=Dh (λ(V:E) (u:G) (h:Bl W0 V) (hu:Jg V u 1)=>Y1 _ u (q.den:Int) 1 V ((j.below o).below h) hu) (l.below o) (j.below o) i;obtain⟨k0,k1⟩:=b0.cp;obtain⟨N,P⟩:=y.cp;have v:=Z (show(Yp (q.den:Int) 1=0)↔q.den=1 by unfold Yp;split<;>(try split)<;>omega);obtain⟨n,k⟩:=ex (Yp (q.den:Int) 1);rw[k]at r v;clear l j i k x;go_enter func64,ntmps64
 go_upto_region 1 with fail
 rw[Qc.o];have c:Bl W0 W0.drew:=(BC _ W0).drew;go_region_held3 (λm=>m.cell? ⟨w.heap.size+1,0,none⟩=some (C t)/\m.cell? ⟨w.heap.size+1,1,none⟩=some (B b lb f)) (refine⟨?_,?_⟩<;>(first|(go_keep;done)|((repeat rw[Jn Y]);simp[*];done)))
  (first
   |(go_at_call 40;refine(Hi 1 Y Y _).mono ?_;rintro e w1 ⟨u1,rfl,ae,aa⟩;have c:=Bt c aa;obtain⟨N,P⟩:=(y.below c).cp)
   |(go_at_call 39;refine(r.o _ _ c ae).mono ?_;clear r;rintro e W ⟨rfl,ad⟩;have c:=Bt c ad;obtain⟨k0,k1⟩:=(b0.below c).cp;obtain⟨N,P⟩:=(y.below c).cp;obtain⟨r0,Q,R,S⟩:=(z.below c).cq;obtain⟨f0,f1,f2,f3⟩:=(z.below c).fq))
 have K:=Bt o c;have L:=z.below c;by_cases k:n=0
 . have p:=Z (show C2 q=0 from XV.2 (v.o.1 k));subst k;have A:Jo W (.agg #[C s,B a g d,C false,B none 0 0]) q:=Jo.mk (I.o.below c) (by rw[p.o];exact X1 _);go_wp2_with fail
   exact BB (by simp[results,results64,go_sem,r0,Q,R,S]) J ⟨_,J,A.put4 L J J J J _ _ _ _,Jj K Y _ _ _ _⟩
 . have p:=Z (show C2 q=q.den by unfold C2;rw[BZ λh=>k (v.o.2 h)]);have A:Jo W (.agg #[C s,B a g d,C t,B b lb f]) q:=Jo.mk (I.o.below c) (by rw[p.o];exact X.o.below c);go_wp2_with fail
   exact BB (by simp[results,results64,go_sem,r0,Q,R,S]) J ⟨_,J,A.put4 L J J J J _ _ _ _,Jj K Y _ _ _ _⟩
def Xq{x y:Int}(a:y≠0):(0:Int)<(Int.gcd x y:Nat):=by
 have:=Int.gcd_pos_of_ne_zero_right x a;omega
theorem Ij(va vb:G)(x y:Int)(w:E)(ha:Jg w va x)(A:Jg w vb y)(hy:y≠0)(bc:Sok x)(bd:Sok y):
 H F 44 #[va,vb] w λe d=>∃u,e=.returned u/\Jo d u (OB x y)/\Bl w d:=by
 obtain⟨X,HY,l⟩:=C6 bc bd hy;clear bc bd hy;obtain⟨s,a,la,ca,rfl⟩:=Jg.form2 ha;obtain⟨t,b,lb,cb,rfl⟩:=Jg.form2 A;have M0:=GL w s t a b la ca lb cb _ _ ha A;obtain⟨W0,aj⟩:=ex (((w.alloc (D #[C s,B a la ca] 25)).alloc (D #[C t,B b lb cb] 25)).alloc (D #[C false,B none 0 0,C false,B none 0 0] 27));have Qp:=Z aj;rw[aj]at M0;have M1:=Z M0;clear M0 ha A aj;go_enter func44,ntmps44
 go_upto_region 1 with fail
 rw[Qp.o];clear Qp;obtain⟨s1,a1,l1,c1,n1,i1⟩:=M1.o.int (i:=0) J;have Qr:=n1.ka;obtain⟨s2,a2,l2,c2,n2,i2⟩:=M1.o.int (i:=1) J;have Qs:=n2.ka;go_upto_region 2 with(go_at_call 38;refine(ET _ _ x y _ i1 i2 (by have:=X.o.words;omega) (by have:=HY.o.words;omega)).mono ?_;rintro e w1 ⟨u,rfl,q,A⟩;obtain⟨bk,aq,bh,ay,rfl⟩:=Jg.form2 q)
 obtain⟨V3,p⟩:=ex (w1.alloc (D #[C bk,B aq bh ay] 25));obtain⟨g,ai⟩:=ex (w1.heap.size);have n:Bu w (w1.alloc (D #[C bk,B aq bh ay] 25)) [some (w.heap.size,.int x),some (w.heap.size+1,.int y),some (w.heap.size+1+1,.rat 0),some (w1.heap.size,.int (((Int.gcd x y:Nat):Int)))]:=Bu.push (M1.o.below A) (.int (((Int.gcd x y:Nat):Int))) q;rw[p,ai]at n;rw[p];rw[ai];have r:=Z (n);clear M1;clear n p ai;clear n1 Qr i1 n2 Qs i2 q A;have W:=Z (Sok.gcd X.o HY.o);by_cases hn:y<0
 . have P:=Z hn;clear hn;obtain⟨s4,a4,l4,c4,n4,i4⟩:=r.o.int (i:=1) J;have Qt:=n4.ka;have m:=Z (Y1 _ _ y 0 V3 i4 (X1 _));rw[show Yp y 0=-1 from by unfold Yp;rw[BW P.o]]at m;go_upto_region 3 with(go_at_call 39;refine m.o.mono ?_;rintro e I ⟨rfl,T⟩)
   have f:=Z (r.o.below T);clear r;clear n4 Qt i4 m T;obtain⟨s5,a5,l5,c5,n5,i5⟩:=f.o.int (i:=3) J;have Qq:=n5.ka;go_upto_region 4 with(go_at_call 65;refine(IF _ _ 0 (((Int.gcd x y:Nat):Int)) _ (X1 _) i5 (by have:=Sok.zero.words;omega) (by have:=W.o.words;omega)).mono ?_;rintro e w6 ⟨u6,rfl,ap,aa⟩;obtain⟨bm,aw,bi,az,rfl⟩:=Jg.form2 ap;have Qq:=(n5.below aa).ka;have Qv:=(n5.below aa).fa)
   obtain⟨R,p⟩:=ex ((w6.setCell ⟨g,0,none⟩ (C bm)).setCell ⟨g,1,none⟩ (B aw bi az));have n:Bu w ((w6.setCell ⟨g,0,none⟩ (C bm)).setCell ⟨g,1,none⟩ (B aw bi az)) [some (w.heap.size,.int x),some (w.heap.size+1,.int y),some (w.heap.size+1+1,.rat 0),some (g,.int (0-((Int.gcd x y:Nat):Int)))]:=Bu.putInt (f.o.below aa) (i:=3) J ap;rw[p]at n;rw[p];have z:=Z (n);clear f;clear n p;clear n5 Qq i5 ap aa;clear Qv;obtain⟨Q,N,Qo⟩:=C6 (show(0-((Int.gcd x y:Nat):Int))≠0 by have:=Xq (x:=x) l.o;omega) (show(0-((Int.gcd x y:Nat):Int))=(if y<0 then -((Int.gcd x y:Nat):Int)else((Int.gcd x y:Nat):Int))by rw[BW P.o];omega) (show Sok (0-((Int.gcd x y:Nat):Int))by rw[Int.zero_sub];exact W.o.neg);obtain⟨s7,a7,l7,c7,n7,i7⟩:=z.o.int (i:=0) J;have Qm:=n7.ka;obtain⟨s8,a8,l8,c8,n8,i8⟩:=z.o.int (i:=1) J;have Ql:=n8.ka;obtain⟨s9,a9,l9,c9,n9,i9⟩:=z.o.int (i:=3) J;have Qn:=n9.ka;obtain⟨f9,dw,f4,e7,fe,b10,et,ef,j,r10,ei,en⟩:=z.o.rat (i:=2) J;have Qa:=j.kb;have Qe:=j.fb;obtain⟨K,L,M⟩:=C6 (λ(V:E) (h:Bl R V)=>YW _ _ x ((0-((Int.gcd x y:Nat):Int))) V (i7.below h) (i9.below h) Q.o X.o Qo.o) (λ(V:E) (h:Bl R V)=>YW _ _ y ((0-((Int.gcd x y:Nat):Int))) V (i8.below h) (i9.below h) Q.o HY.o Qo.o) λ(V:E) (u v:G) (q:Jg V u (x/(0-((Int.gcd x y:Nat):Int)))) (hv:Jg V v (y/(0-((Int.gcd x y:Nat):Int))))=>E2 u v (OB x y) V (by rw[Y5 l.o,<-N.o];exact q) (by rw[Y6 l.o,<-N.o];exact hv);have Qu:=z.o.ne 3 2 J J Bw;have c:Bl R R.drew:=(BC _ R).drew;go_region_held3 (λd=>(d.cell? ⟨w.heap.size,0,none⟩=some (C s7)/\d.cell? ⟨w.heap.size,1,none⟩=some (B a7 l7 c7))/\(d.cell? ⟨w.heap.size+1,0,none⟩=some (C s8)/\d.cell? ⟨w.heap.size+1,1,none⟩=some (B a8 l8 c8))/\d.cell? ⟨g,0,none⟩=some (C s9)/\d.cell? ⟨g,1,none⟩=some (B a9 l9 c9)) (first|grind|(go_keep;done)|grind[Jn])
    (first
     |(go_at_call 63;refine(K.o _ c).mono ?_;clear K;rintro e w2 ⟨u2,rfl,o,ak⟩;have c:=Bt c ak;have Qm:=(n7.below c).ka;have Ql:=(n8.below c).ka;have Qn:=(n9.below c).ka;have Qa:=(j.below c).kb;have Qe:=(j.below c).fb)
     |(go_at_call 63;refine(L.o _ c).mono ?_;clear L;rintro e w3 ⟨u3,rfl,an,S⟩;have o:=o.below S;have c:=Bt c S;have Qm:=(n7.below c).ka;have Ql:=(n8.below c).ka;have Qn:=(n9.below c).ka;have Qa:=(j.below c).kb;have Qe:=(j.below c).fb)
     |(go_at_call 64;refine(M.o _ _ _ o an).mono ?_;clear M;rintro e w4 ⟨u4,rfl,U,am⟩;obtain⟨dt,bu,dg,cj,du,bz,cy,ck,rfl⟩:=Jo.form U;have c:=Bt c am;have Qm:=(n7.below c).ka;have Ql:=(n8.below c).ka;have Qn:=(n9.below c).ka;have Qa:=(j.below c).kb;have Qe:=(j.below c).fb))
   all_goals go_wp2_with fail
   have Qk:=Bt z.o.2.2 c;exact BB (by simp[results,results44,go_sem,Qa]) J ⟨_,J,U.put4 (j.below c) J J J J _ _ _ _,Jj Qk Y _ _ _ _⟩
 . have P:=Z hn;clear hn;obtain⟨fc,dx,f6,eb,bj,bf⟩:=r.o.int (i:=1) J;have Qj:=bj.ka;have m:=Z (Y1 _ _ y 0 V3 bf (X1 _));rw[show Yp y 0=1 from by have h1:=P.o;have h2:=l.o;unfold Yp;omega]at m;go_upto_region 4 with(go_at_call 39;refine m.o.mono ?_;rintro e I ⟨rfl,T⟩)
   have f:=Z (r.o.below T);clear r;clear bj Qj bf m T;have Q:=Z (show((Int.gcd x y:Nat):Int)≠0 by have:=Xq (x:=x) l.o;omega);have N:=Z (show((Int.gcd x y:Nat):Int)=(if y<0 then -((Int.gcd x y:Nat):Int)else((Int.gcd x y:Nat):Int))by rw[BZ (by have:=P.o;omega)]);obtain⟨dh,bn,cz,ce,ad,cn⟩:=f.o.int (i:=0) J;have Qc:=ad.ka;obtain⟨di,bp,d8,cg,ae,cw⟩:=f.o.int (i:=1) J;have Qf:=ae.ka;obtain⟨dj,bt,de,ci,ah,bg⟩:=f.o.int (i:=3) J;have Qh:=ah.ka;obtain⟨fd,dz,f7,ed,ff,e6,ew,eh,k,f8,ek,er⟩:=f.o.rat (i:=2) J;have Qb:=k.kb;have Qg:=k.fb;obtain⟨K,L,M⟩:=C6 (λ(V:E) (h:Bl I V)=>YW _ _ x (((Int.gcd x y:Nat):Int)) V (cn.below h) (bg.below h) Q.o X.o W.o) (λ(V:E) (h:Bl I V)=>YW _ _ y (((Int.gcd x y:Nat):Int)) V (cw.below h) (bg.below h) Q.o HY.o W.o) λ(V:E) (u v:G) (q:Jg V u (x/((Int.gcd x y:Nat):Int))) (hv:Jg V v (y/((Int.gcd x y:Nat):Int)))=>E2 u v (OB x y) V (by rw[Y5 l.o,<-N.o];exact q) (by rw[Y6 l.o,<-N.o];exact hv);have Qu:=f.o.ne 3 2 J J Bw;have c:Bl I I.drew:=(BC _ I).drew;go_region_held3 (λd=>(d.cell? ⟨w.heap.size,0,none⟩=some (C dh)/\d.cell? ⟨w.heap.size,1,none⟩=some (B bn cz ce))/\(d.cell? ⟨w.heap.size+1,0,none⟩=some (C di)/\d.cell? ⟨w.heap.size+1,1,none⟩=some (B bp d8 cg))/\d.cell? ⟨g,0,none⟩=some (C dj)/\d.cell? ⟨g,1,none⟩=some (B bt de ci)) (first|grind|(go_keep;done)|grind[Jn])
    (first
     |(go_at_call 63;refine(K.o _ c).mono ?_;clear K;rintro e w2 ⟨u2,rfl,o,ak⟩;have c:=Bt c ak;have Qc:=(ad.below c).ka;have Qf:=(ae.below c).ka;have Qh:=(ah.below c).ka;have Qb:=(k.below c).kb;have Qg:=(k.below c).fb)
     |(go_at_call 63;refine(L.o _ c).mono ?_;clear L;rintro e w3 ⟨u3,rfl,an,S⟩;have o:=o.below S;have c:=Bt c S;have Qc:=(ad.below c).ka;have Qf:=(ae.below c).ka;have Qh:=(ah.below c).ka;have Qb:=(k.below c).kb;have Qg:=(k.below c).fb)
     |(go_at_call 64;refine(M.o _ _ _ o an).mono ?_;clear M;rintro e w4 ⟨u4,rfl,U,am⟩;obtain⟨dt,bu,dg,cj,du,bz,cy,ck,rfl⟩:=Jo.form U;have c:=Bt c am;have Qc:=(ad.below c).ka;have Qf:=(ae.below c).ka;have Qh:=(ah.below c).ka;have Qb:=(k.below c).kb;have Qg:=(k.below c).fb))
   all_goals go_wp2_with fail
   have Qk:=Bt f.o.2.2 c;exact BB (by simp[results,results44,go_sem,Qb]) J ⟨_,J,U.put4 (k.below c) J J J J _ _ _ _,Jj Qk Y _ _ _ _⟩
def E5(w:E)(s t m n:Bool)(a b e f:N8)(l c k d j c' i g:Nat)(p q:Rat)(hp:Jo w (.agg #[C s,B a l c,C t,B b k d]) p)(o:Jo w (.agg #[C m,B e j c',C n,B f i g]) q):
 Bu w (((w.alloc (D #[C s,B a l c,C t,B b k d] 27)).alloc (D #[C m,B e j c',C n,B f i g] 27)).alloc (D #[C false,B none 0 0,C false,B none 0 0] 27)) [some (w.heap.size,.rat p),some (w.heap.size+1,.rat q),some (w.heap.size+1+1,.rat 0)]:=by
 have h:=(((Bu.nil w).push (.rat p) hp).push (.rat q) (o.below (Ba w _))).push (.rat 0) (DV _);rw[BA,BA,BA]at h;exact h
def NN(w:E)(s t m n:Bool)(a b e f:N8)(l c k d j c' i g:Nat)(p q:Rat)(hp:Jo w (.agg #[C s,B a l c,C t,B b k d]) p)(o:Jo w (.agg #[C m,B e j c',C n,B f i g]) q):
 Bu w ((w.alloc (D #[C s,B a l c,C t,B b k d] 27)).alloc (D #[C m,B e j c',C n,B f i g] 27)) [some (w.heap.size,.rat p),some (w.heap.size+1,.rat q)]:=by
 have h:=((Bu.nil w).push (.rat p) hp).push (.rat q) (o.below (Ba w _));rw[BA]at h;exact h
def XY(h:q.den=1):q=(q.num:Rat):=Rat.ext J h
def NO(hp:p.den=1)(a:q.den=1):(p+q).num=p.num+q.num/\(p+q).den=1:=by
 have h:p+q=((p.num+q.num:Int):Rat):=by rw[Rat.intCast_add,<-XY hp,<-XY a]
 rw[h];exact⟨J,J⟩
def NP(hp:p.den=1)(a:q.den=1):(p*q).num=p.num*q.num/\(p*q).den=1:=by
 have h:p*q=((p.num*q.num:Int):Rat):=by rw[Rat.intCast_mul,<-XY hp,<-XY a]
 rw[h];exact⟨J,J⟩
def NQ(p q:Rat)(hp:Sq p)(i:Sq q)(a c e b d:Int)(f:((Int.gcd (p.den:Int) (q.den:Int):Nat):Int)=a)(n:(p.den:Int)/a=c)(o:(q.den:Int)/a=e)(r:p.num*e+q.num*c=b)(g:((Int.gcd b a:Nat):Int)=d):
 Sok a/\a≠0/\Sok c/\Sok e/\Sok b/\Sok d/\d≠0/\Sok (p.num*e)/\Sok (q.num*c)/\(p+q).num=b/d/\((p+q).den:Int)=c*(q.den/d):=by
 have hl:=Ke p q a c e b d f.symm n.symm o.symm r.symm g.symm;have k:a≠0:=by rw[<-f];have:=Xq (x:=(p.den:Int)) (y:=q.den) (by have:=q.den_nz;omega);omega
 have u:Sok a:=by rw[<-f];exact hp.den.gcd i.den
 have m:Sm 1000000000 c:=by rw[<-n];exact hp.sm.2.div
 have l:Sm 1000000000 e:=by rw[<-o];exact i.sm.2.div
 have s:=hp.sm.1.mul l;have t:=i.sm.1.mul m;have j:Sok b:=by rw[<-r];exact Sok.of (s.add t) Y
 refine⟨u,k,Sok.of m Y,Sok.of l Y,j,by rw[<-g];exact j.gcd u,?_,Sok.of s Y,Sok.of t Y,hl.1,hl.2⟩;rw[<-g];have:=Xq (x:=b) k;omega
theorem Ik(va vb:G)(p q:Rat)(w:E)(ha:Jo w va p)(hb:Jo w vb q)(ce:Sq p)(cg:Sq q):
 H F 27 #[va,vb] w λe n=>∃u,e=.returned u/\Jo n u (p+q)/\Bl w n:=by
 obtain⟨s,a,l,c,t,b,k,d,rfl⟩:=Jo.form ha;obtain⟨s',a',l',c',t',b',k',d',rfl⟩:=Jo.form hb;have M0:=E5 w s t s' t' a b a' b' l c k d l' c' k' d' p q ha hb;obtain⟨W0,az⟩:=ex (((w.alloc (D #[C s,B a l c,C t,B b k d] 27)).alloc (D #[C s',B a' l' c',C t',B b' k' d'] 27)).alloc (D #[C false,B none 0 0,C false,B none 0 0] 27));have Qo:=Z az;rw[az]at M0;obtain⟨M1,HP,N⟩:=C6 M0 ce cg;clear M0 ha hb az ce cg;go_enter func27,ntmps27
 go_upto_region 1 with fail
 rw[Qo.o];clear Qo;obtain⟨bb,bp⟩:=ex (decide (p.den=1/\q.den=1):Bool);have Qh:=Z bp;clear bp;go_cut [15] λc n=>c=C bb/\Hid (Bu w n [some (w.heap.size,.rat p),some (w.heap.size+1,.rat q),some (w.heap.size+1+1,.rat 0)])
 case first=>
  obtain⟨s1,a1,l1,c1,t1,b1,k1,d1,n1,r1,i1,j1⟩:=M1.o.rat (i:=0) J;have Qv:=n1.kb;obtain⟨s2,a2,l2,c2,t2,b2,k2,d2,n2,r2,i2,j2⟩:=M1.o.rat (i:=1) J;have Qx:=n2.kb;have L:=Z (Yv _ p W0 r1);have U:=Z λ(V:E) (h:Bl W0 V)=>Yv _ q V (r2.below h);by_cases R:p.den=1
  . rw[BF R]at L;obtain⟨b2,S⟩:=ex (decide (q.den=1));rw[S]at U;have Qk:=Z (show b2=bb by rw[<-S,<-Qh.o];exact decide_eq_decide.2 ⟨λh=>⟨R,h⟩,λh=>h.2⟩);clear S R;go_wp2_with(first
     |(go_at_call 47;refine L.o.mono ?_;clear L;rintro e T ⟨rfl,aa⟩;have Qv:=(n1.below aa).kb;have Qx:=(n2.below aa).kb)
     |(go_at_call 47;refine(U.o _ aa).mono ?_;clear U;rintro e w2 ⟨rfl,S⟩))
    go_meet
    case rel=>exact⟨by rw[Qk.o],Z ((M1.o.below aa).below S)⟩
  . rw[BE R]at L;have Qk:=Z (show bb=false by rw[<-Qh.o];exact BE λh=>R h.1);clear R;go_wp2_with(go_at_call 47;refine L.o.mono ?_;clear L;rintro e T ⟨rfl,aa⟩)
    go_meet
    case rel=>exact⟨by rw[Qk.o],Z (M1.o.below aa)⟩
 obtain⟨rfl,m⟩:=hcut;have W:=m;clear M1 m;cases bb with
 |true=>
  have Qi:=BP Qh.o;have HW:=Z (NO Qi.1 Qi.2);clear Qi Qh;obtain⟨s3,a3,l3,c3,t3,b3,k3,d3,n3,r3,i3,j3⟩:=W.o.rat (i:=0) J;have f9:=n3.kb;obtain⟨s4,a4,l4,c4,t4,b4,k4,d4,n4,r4,i4,j4⟩:=W.o.rat (i:=1) J;have fc:=n4.kb;obtain⟨s5,a5,l5,c5,t5,b5,k5,d5,n5,r5,i5,j5⟩:=W.o.rat (i:=2) J;have Qt:=n5.kb;have Qz:=n5.fb;go_wp2_with(go_at_call 42;refine(F0 _ _ p.num q.num _ i3 i4 (by have:=HP.o.num.words;omega) (by have:=N.o.num.words;omega)).mono ?_;rintro e T ⟨u,rfl,x,g⟩;obtain⟨bd,ak,bc,am,rfl⟩:=Jg.form2 x;have Qt:=(n5.below g).kb;have Qz:=(n5.below g).fb)
  have hr:=Jo.mk (by rw[HW.o.1];exact x) (by rw[XV.2 HW.o.2];exact X1 _);have Ql:=Bt W.o.2.2 g;exact BB (by simp[results,results27,go_sem,Qt]) J ⟨_,J,hr.put4 (n5.below g) J J J J _ _ _ _,Jj Ql Y _ _ _ _⟩
 |false=>
  clear Qh;obtain⟨o,bt⟩:=ex (((Int.gcd (p.den:Int) (q.den:Int):Nat):Int):Int);have Qs:=Z bt;clear bt;obtain⟨z,bu⟩:=ex ((p.den:Int)/o:Int);have Qq:=Z bu;clear bu;obtain⟨K,bz⟩:=ex ((q.den:Int)/o:Int);have Qn:=Z bz;clear bz;obtain⟨M,bi⟩:=ex (p.num*K+q.num*z:Int);have Qr:=Z bi;clear bi;obtain⟨I,bj⟩:=ex (((Int.gcd M o:Nat):Int):Int);have Qp:=Z bj;clear bj;obtain⟨S1,S2,S3,S4,S5,S6,S7,S8,S9,bg,bh⟩:=NQ p q HP.o N.o o z K M I Qs.o Qq.o Qn.o Qr.o Qp.o;obtain⟨T1,T2,T3,T4,T5,T6,T7,T8⟩:=Fo S1 S2 S3 S4 S5 S6 S7 S8;obtain⟨T9,Qy,Qw⟩:=C6 S9 bg bh;clear S1 S2 S3 S4 S5 S6 S7 S8 S9 bg bh;go_upto_region 3 with fail
  refine ER DN [[],[0],[],[2,1],[1,3,3],[],[5,4,4,0,1,2,3,4,5]] [.rat p,.int ((p.den:Int)),.rat q,.int ((q.den:Int)),.int o,.ptr,.eq undef] [5,6] (λb v V=>Bu w V [some (w.heap.size,.rat p),some (w.heap.size+1,.rat q),some (w.heap.size+1+1,.rat 0),nb b v 0 1 (.int 0) (.int o)]) (W.o.none).drew (SB (.vl J λ_ j=>D0 0 j)<|SB (.cl λh _=>Xp _ p _ (h.g 0))<|SB (.vl J λ_ j=>D0 1 j)<|SB (.cl λh _=>Xp _ q _ (h.g 2))<|SB (.cl λh _=>(by have h:=ET _ _ (p.den:Int) (q.den:Int) _ (h.g 1) (h.g 3) (by have:=HP.o.den.words;omega) (by have:=N.o.den.words;omega);rw[Qs.o]at h;exact h))<|SB (.wr J λ_ j=>Dt 3 j)<|SB (.wr J λh j=>Ds 3 j (h.g 4) (hp:=h.g 5)) Stp.end_)
   λf V7 hF m=>?_
  refine DY ?_;obtain⟨B8,aw⟩:=hF.p 5;have m:=ES m;simp only[aw]at m;rw[aw];have M3:=Z m;clear m hF aw;clear W;go_upto_region 4 with fail
  refine ER DN [[],[0],[],[1,2,1],[],[4,3],[],[5,6,5],[],[],[8,3,7,0,1,2,3,8,9],[9,7,10,0,1,2,3,4,5,6,7,8,9,10]] [.rat p,.int ((p.den:Int)),.int o,.int z,.rat q,.int ((q.den:Int)),.int o,.int K,.ptr,.ptr,.eq undef,.eq undef] [8,9,10,11] (λb v V=>Bu w V [some (w.heap.size,.rat p),some (w.heap.size+1,.rat q),some (w.heap.size+1+1,.rat 0),some (B8,.int o),nb b v 0 2 (.int 0) (.int z),nb b v 1 3 (.int 0) (.int K)]) ((M3.o.none).none).drew (SB (.vl J λ_ j=>D0 0 j)<|SB (.cl λh _=>Xp _ p _ (h.g 0))<|SB (.vl J λ_ j=>D3 3 j)<|SB (.cl λh _=>(by have h:=YW _ _ (p.den:Int) o _ (h.g 1) (h.g 2) T2.o HP.o.den T1.o;rw[Qq.o]at h;exact h))<|SB (.vl J λ_ j=>D0 1 j)<|SB (.cl λh _=>Xp _ q _ (h.g 4))<|SB (.vl J λ_ j=>D3 3 j)<|SB (.cl λh _=>(by have h:=YW _ _ (q.den:Int) o _ (h.g 5) (h.g 6) T2.o N.o.den T1.o;rw[Qn.o]at h;exact h))<|SB (.wr J λ_ j=>Dt 4 j)<|SB (.wr J λ_ j=>Dt 5 j)<|SB (.wr J λh j=>Ds 4 j (h.g 3) (hp:=h.g 8))<|SB (.wr J λh j=>Ds 5 j (h.g 7) (hp:=h.g 9)) Stp.end_)
   λf fd hF m=>?_
  refine DY ?_;obtain⟨B11,an⟩:=hF.p 8;obtain⟨B12,ap⟩:=hF.p 9;have m:=ES m;simp only[an,ap]at m;rw[an,ap];have M4:=Z m;clear m hF an ap;clear M3;go_upto_region 5 with fail
  refine ER DN [[],[0],[],[1,2],[],[4],[],[5,6,3],[3,7,7],[],[9,8,8,0,1,2,3,4,5,6,7,8,9]] [.eq (.pointer (some ⟨w.heap.size,0,none⟩)),.int (Rat.num (p)),.int K,.int (p.num*K),.eq (.pointer (some ⟨w.heap.size+1,0,none⟩)),.int (Rat.num (q)),.int z,.int (q.num*z),.int M,.ptr,.eq undef] [9,10] (λb v V=>Bu w V [some (w.heap.size,.rat p),some (w.heap.size+1,.rat q),some (w.heap.size+1+1,.rat 0),some (B8,.int o),some (B11,.int z),some (B12,.int K),nb b v 0 1 (.int 0) (.int M)]) (M4.o.none).drew (SB (.vl J λ_ _=>⟨_,by refine DY ?_;go_simp,J⟩)<|SB (.vl J λh j=>D4 0 j (hp:=h.e 0))<|SB (.vl J λ_ j=>D3 5 j)<|SB (.cl λh _=>Ym _ _ p.num K _ (h.g 1) (h.g 2) (by have:=HP.o.num.words;have:=T4.o.words;omega))<|SB (.vl J λ_ _=>⟨_,by refine DY ?_;go_simp,J⟩)<|SB (.vl J λh j=>D4 1 j (hp:=h.e 4))<|SB (.vl J λ_ j=>D3 4 j)<|SB (.cl λh _=>Ym _ _ q.num z _ (h.g 5) (h.g 6) (by have:=N.o.num.words;have:=T3.o.words;omega))<|SB (.cl λh _=>(by have h:=F0 _ _ (p.num*K) (q.num*z) _ (h.g 3) (h.g 7) (by have:=T8.o.words;omega) (by have:=T9.o.words;omega);rw[Qr.o]at h;exact h))<|SB (.wr J λ_ j=>Dt 6 j)<|SB (.wr J λh j=>Ds 6 j (h.g 8) (hp:=h.g 9)) Stp.end_)
   λf cz hF m=>?_
  refine DY ?_;rw[hF.e 0,hF.e 4];obtain⟨aj,aq⟩:=hF.p 9;have m:=ES m;simp only[aq]at m;rw[aq];have M5:=Z m;clear m hF aq;clear M4;go_upto_region 6 with fail
  obtain⟨gq,fe,gg,fk,cw,cj⟩:=M5.o.int (i:=6) J;have Qj:=cw.ka;obtain⟨gr,ff,gh,fl,cy,ck⟩:=M5.o.int (i:=3) J;have Qm:=cy.ka;have HC:=Z (ET _ _ M o cz cj ck (by have:=T5.o.words;omega) (by have:=T1.o.words;omega));rw[Qp.o]at HC;go_upto_region 7 with(go_at_call 38;refine HC.o.mono ?_;clear HC;rintro e T ⟨u,rfl,x,hb⟩;obtain⟨bd,ak,bc,am,rfl⟩:=Jg.form2 x)
  obtain⟨Q,hV⟩:=ex (T.alloc (D #[C bd,B ak bc am] 25));obtain⟨bf,ay⟩:=ex (T.heap.size);have m:Bu w (T.alloc (D #[C bd,B ak bc am] 25)) [some (w.heap.size,.rat p),some (w.heap.size+1,.rat q),some (w.heap.size+1+1,.rat 0),some (B8,.int o),some (B11,.int z),some (B12,.int K),some (aj,.int M),some (T.heap.size,.int I)]:=Bu.push (M5.o.below hb) (.int I) x;rw[hV,ay]at m;rw[hV];rw[ay];have A:=Z (m);clear M5;clear m hV ay;clear cw Qj cj cy Qm ck x hb;obtain⟨ew,d8,ei,dj,ad,ed⟩:=A.o.int (i:=6) J;have Qe:=ad.ka;obtain⟨f4,de,ek,dt,ae,cn⟩:=A.o.int (i:=7) J;have Qb:=ae.ka;obtain⟨f6,dg,en,du,ah,ef⟩:=A.o.int (i:=4) J;have Qf:=ah.ka;obtain⟨f7,dh,er,dw,f8,di,eh,dx,ai,et,ft,fv⟩:=A.o.rat (i:=1) J;have Qc:=ai.kb;obtain⟨gt,fg,gi,fm,gv,fi,fx,fr,r,gp,fu,fw⟩:=A.o.rat (i:=2) J;have X:=r.kb;have Qd:=r.fb;obtain⟨L,U,H3,H4,H5⟩:=Dn (λ(V:E) (h:Bl Q V)=>YW _ _ M I V (ed.below h) (cn.below h) T7.o T5.o T6.o) (λ(V:E) (h:Bl Q V)=>Xp _ q V (et.below h)) (λ(V:E) (u:G) (h:Bl Q V) (x:Jg V u (q.den:Int))=>YW u _ (q.den:Int) I V x (cn.below h) T7.o N.o.den T6.o) (λ(V:E) (u:G) (h:Bl Q V) (x:Jg V u ((q.den:Int)/I))=>Ym _ u z ((q.den:Int)/I) V (ef.below h) x (by have R:=T3.o.words;have h2:=(Sok.div (y:=I) N.o.den).words;omega)) λ(V:E) (u v:G) (x:Jg V u (M/I)) (hv:Jg V v (z*((q.den:Int)/I)))=>E2 u v (p+q) V (by rw[Qy.o];exact x) (by rw[Qw.o];exact hv);have gn:=A.o.ne 6 2 J J Bw;have go:=A.o.ne 7 2 J J Bw;have gl:=A.o.ne 4 2 J J Bw;have gk:=A.o.ne 1 2 J J Bw;have g:Bl Q Q.drew:=(BC _ Q).drew;go_region_held3 (λn=>(n.cell? ⟨aj,0,none⟩=some (C ew)/\n.cell? ⟨aj,1,none⟩=some (B d8 ei dj))/\(n.cell? ⟨bf,0,none⟩=some (C f4)/\n.cell? ⟨bf,1,none⟩=some (B de ek dt))/\(n.cell? ⟨B11,0,none⟩=some (C f6)/\n.cell? ⟨B11,1,none⟩=some (B dg en du))/\n.cell? ⟨w.heap.size+1,0,none⟩=some (C f7)/\n.cell? ⟨w.heap.size+1,1,none⟩=some (B dh er dw)/\n.cell? ⟨w.heap.size+1,2,none⟩=some (C f8)/\n.cell? ⟨w.heap.size+1,3,none⟩=some (B di eh dx)) (first|grind|(go_keep;done)|((repeat' apply Cn)<;>((repeat rw[Jn Y]);grind)))
   (first
    |(go_at_call 63;refine(L.o _ g).mono ?_;clear L;rintro e w2 ⟨u2,rfl,P,S⟩;have g:=Bt g S;have Qe:=(ad.below g).ka;have Qb:=(ae.below g).ka;have Qf:=(ah.below g).ka;have Qc:=(ai.below g).kb;have X:=(r.below g).kb;have Qd:=(r.below g).fb)
    |(go_at_call 10;refine(U.o _ g).mono ?_;clear U;rintro e w3 ⟨u3,rfl,e6,bk⟩;have P:=P.below bk;have g:=Bt g bk;have Qe:=(ad.below g).ka;have Qb:=(ae.below g).ka;have Qf:=(ah.below g).ka;have Qc:=(ai.below g).kb;have X:=(r.below g).kb;have Qd:=(r.below g).fb)
    |(go_at_call 63;refine(H3.o _ _ g e6).mono ?_;clear H3;rintro e w4 ⟨u4,rfl,e7,bm⟩;have P:=P.below bm;have g:=Bt g bm;have Qe:=(ad.below g).ka;have Qb:=(ae.below g).ka;have Qf:=(ah.below g).ka;have Qc:=(ai.below g).kb;have X:=(r.below g).kb;have Qd:=(r.below g).fb)
    |(go_at_call 51;refine(H4.o _ _ g e7).mono ?_;clear H4;rintro e w5 ⟨u5,rfl,eb,bn⟩;have P:=P.below bn;have g:=Bt g bn;have Qe:=(ad.below g).ka;have Qb:=(ae.below g).ka;have Qf:=(ah.below g).ka;have Qc:=(ai.below g).kb;have X:=(r.below g).kb;have Qd:=(r.below g).fb)
    |(go_at_call 64;refine(H5.o _ _ _ P eb).mono ?_;clear H5;rintro e w6 ⟨u6,rfl,ci,dz⟩;obtain⟨gu,fh,gj,fo,gw,fj,fy,fs,rfl⟩:=Jo.form ci;have g:=Bt g dz;have Qe:=(ad.below g).ka;have Qb:=(ae.below g).ka;have Qf:=(ah.below g).ka;have Qc:=(ai.below g).kb;have X:=(r.below g).kb;have Qd:=(r.below g).fb))
  all_goals go_wp2_with fail
  have Ql:=Bt A.o.2.2 g;have Qu:=A.o.ge 2 J;exact BB (by simp[results,results27,go_sem,X]) J ⟨_,J,ci.put4 (r.below g) J J J J _ _ _ _,Jj Ql Qu _ _ _ _⟩
def NR(p q:Rat)(hp:Sq p)(e:Sq q)(a b x y:Int)(c:((Int.gcd p.num (q.den:Int):Nat):Int)=a)(d:((Int.gcd q.num (p.den:Int):Nat):Int)=b)(f:p.num/a=x)(g:q.num/b=y):
 Sok a/\a≠0/\Sok b/\b≠0/\Sok x/\Sok y/\(p*q).num=x*y/\((p*q).den:Int)=p.den/b*(q.den/a):=by
 have hl:=Kf p q a b c.symm d.symm;have j:a≠0:=by rw[<-c];have:=Xq (x:=p.num) (y:=q.den) (by have:=q.den_nz;omega);omega
 have i:b≠0:=by rw[<-d];have:=Xq (x:=q.num) (y:=p.den) (by have:=p.den_nz;omega);omega
 refine⟨by rw[<-c];exact hp.num.gcd e.den,j,by rw[<-d];exact e.num.gcd hp.den,i,by rw[<-f];exact hp.num.div,by rw[<-g];exact e.num.div,?_,hl.2⟩;rw[hl.1,f,g]
theorem Il(va vb:G)(p q:Rat)(w:E)(ha:Jo w va p)(hb:Jo w vb q)(bd:Sq p)(bf:Sq q):
 H F 29 #[va,vb] w λe m=>∃u,e=.returned u/\Jo m u (p*q)/\Bl w m:=by
 obtain⟨s,a,l,c,t,b,k,d,rfl⟩:=Jo.form ha;obtain⟨s',a',l',c',t',b',k',d',rfl⟩:=Jo.form hb;have M0:=E5 w s t s' t' a b a' b' l c k d l' c' k' d' p q ha hb;obtain⟨W0,ap⟩:=ex (((w.alloc (D #[C s,B a l c,C t,B b k d] 27)).alloc (D #[C s',B a' l' c',C t',B b' k' d'] 27)).alloc (D #[C false,B none 0 0,C false,B none 0 0] 27));have Ql:=Z ap;rw[ap]at M0;obtain⟨M1,P,Q⟩:=C6 M0 bd bf;clear M0 ha hb ap bd bf;go_enter func29,ntmps29
 go_upto_region 1 with fail
 rw[Ql.o];clear Ql;obtain⟨bb,az⟩:=ex (decide (p.den=1/\q.den=1):Bool);have Qh:=Z az;clear az;go_cut [13] λc m=>c=C bb/\Hid (Bu w m [some (w.heap.size,.rat p),some (w.heap.size+1,.rat q),some (w.heap.size+1+1,.rat 0)])
 case first=>
  obtain⟨s1,a1,l1,c1,t1,b1,k1,d1,n1,r1,i1,j1⟩:=M1.o.rat (i:=0) J;have Qr:=n1.kb;obtain⟨s2,a2,l2,c2,t2,b2,k2,d2,n2,r2,i2,j2⟩:=M1.o.rat (i:=1) J;have Qs:=n2.kb;have H1:=Z (Yv _ p W0 r1);have H2:=Z λ(V:E) (h:Bl W0 V)=>Yv _ q V (r2.below h);by_cases N:p.den=1
  . rw[BF N]at H1;obtain⟨b2,T⟩:=ex (decide (q.den=1));rw[T]at H2;have Qj:=Z (show b2=bb by rw[<-T,<-Qh.o];exact decide_eq_decide.2 ⟨λh=>⟨N,h⟩,λh=>h.2⟩);clear T N;go_wp2_with(first
     |(go_at_call 47;refine H1.o.mono ?_;clear H1;rintro e w1 ⟨rfl,ae⟩;have Qr:=(n1.below ae).kb;have Qs:=(n2.below ae).kb)
     |(go_at_call 47;refine(H2.o _ ae).mono ?_;clear H2;rintro e w2 ⟨rfl,T⟩))
    go_meet
    case rel=>exact⟨by rw[Qj.o],Z ((M1.o.below ae).below T)⟩
  . rw[BE N]at H1;have Qj:=Z (show bb=false by rw[<-Qh.o];exact BE λh=>N h.1);clear N;go_wp2_with(go_at_call 47;refine H1.o.mono ?_;clear H1;rintro e w1 ⟨rfl,ae⟩)
    go_meet
    case rel=>exact⟨by rw[Qj.o],Z (M1.o.below ae)⟩
 obtain⟨rfl,o⟩:=hcut;have M2:=o;clear M1 o;cases bb with
 |true=>
  have Qi:=BP Qh.o;have HW:=Z (NP Qi.1 Qi.2);clear Qi Qh;obtain⟨s3,a3,l3,c3,t3,b3,k3,d3,n3,r3,i3,j3⟩:=M2.o.rat (i:=0) J;have ed:=n3.kb;obtain⟨s4,a4,l4,c4,t4,b4,k4,d4,n4,r4,i4,j4⟩:=M2.o.rat (i:=1) J;have ef:=n4.kb;obtain⟨s5,a5,l5,c5,t5,b5,k5,d5,n5,r5,i5,j5⟩:=M2.o.rat (i:=2) J;have Qp:=n5.kb;have Qt:=n5.fb;go_wp2_with(go_at_call 51;refine(Ym _ _ p.num q.num _ i3 i4 (by have N:=P.o.num.words;have h2:=Q.o.num.words;omega)).mono ?_;rintro e w1 ⟨u,rfl,hu,g⟩;obtain⟨fv,ei,fj,ew,rfl⟩:=Jg.form2 hu;have Qp:=(n5.below g).kb;have Qt:=(n5.below g).fb)
  have hr:=Jo.mk (by rw[HW.o.1];exact hu) (by rw[XV.2 HW.o.2];exact X1 _);have Qk:=Bt M2.o.2.2 g;exact BB (by simp[results,results29,go_sem,Qp]) J ⟨_,J,hr.put4 (n5.below g) J J J J _ _ _ _,Jj Qk Y _ _ _ _⟩
 |false=>
  clear Qh;obtain⟨A,bc⟩:=ex (((Int.gcd p.num (q.den:Int):Nat):Int):Int);have Qm:=Z bc;clear bc;obtain⟨I,bg⟩:=ex (((Int.gcd q.num (p.den:Int):Nat):Int):Int);have Qn:=Z bg;clear bg;obtain⟨x,hx⟩:=ex (p.num/A:Int);have HX:=Z hx;clear hx;obtain⟨y,hy⟩:=ex (q.num/I:Int);have HY:=Z hy;clear hy;obtain⟨S1,S2,S3,S4,S5,S6,S7,S8⟩:=NR p q P.o Q.o A I x y Qm.o Qn.o HX.o HY.o;obtain⟨T1,T2,T3,T4,T5,T6,T7,T8⟩:=Fo S1 S2 S3 S4 S5 S6 S7 S8;clear S1 S2 S3 S4 S5 S6 S7 S8;go_upto_region 3 with fail
  refine ER DN [[],[0],[],[2],[1,3,3],[],[5],[],[7,4],[6,8,8],[],[],[10,4,9,0,1,2,3,4,10,11],[11,9,12,0,1,2,3,4,5,6,7,8,9,10,11,12]] [.eq (.pointer (some ⟨w.heap.size,0,none⟩)),.int (Rat.num (p)),.rat q,.int ((q.den:Int)),.int A,.eq (.pointer (some ⟨w.heap.size+1,0,none⟩)),.int (Rat.num (q)),.rat p,.int ((p.den:Int)),.int I,.ptr,.ptr,.eq undef,.eq undef] [10,11,12,13] (λb v V=>Bu w V [some (w.heap.size,.rat p),some (w.heap.size+1,.rat q),some (w.heap.size+1+1,.rat 0),nb b v 0 2 (.int 0) (.int A),nb b v 1 3 (.int 0) (.int I)]) ((M2.o.none).none).drew (SB (.vl J λ_ _=>⟨_,by refine DY ?_;go_simp,J⟩)<|SB (.vl J λh j=>D4 0 j (hp:=h.e 0))<|SB (.vl J λ_ j=>D0 1 j)<|SB (.cl λh _=>Xp _ q _ (h.g 2))<|SB (.cl λh _=>(by have h:=ET _ _ p.num (q.den:Int) _ (h.g 1) (h.g 3) (by have:=P.o.num.words;omega) (by have:=Q.o.den.words;omega);rw[Qm.o]at h;exact h))<|SB (.vl J λ_ _=>⟨_,by refine DY ?_;go_simp,J⟩)<|SB (.vl J λh j=>D4 1 j (hp:=h.e 5))<|SB (.vl J λ_ j=>D0 0 j)<|SB (.cl λh _=>Xp _ p _ (h.g 7))<|SB (.cl λh _=>(by have h:=ET _ _ q.num (p.den:Int) _ (h.g 6) (h.g 8) (by have:=Q.o.num.words;omega) (by have:=P.o.den.words;omega);rw[Qn.o]at h;exact h))<|SB (.wr J λ_ j=>Dt 3 j)<|SB (.wr J λ_ j=>Dt 4 j)<|SB (.wr J λh j=>Ds 3 j (h.g 4) (hp:=h.g 10))<|SB (.wr J λh j=>Ds 4 j (h.g 9) (hp:=h.g 11)) Stp.end_)
   λf V7 hF o=>?_
  refine DY ?_;rw[hF.e 0,hF.e 5];obtain⟨B8,am⟩:=hF.p 10;obtain⟨B9,an⟩:=hF.p 11;have o:=ES o;simp only[am,an]at o;rw[am,an];have M3:=Z o;clear o hF am an;clear M2;go_upto_region 4 with fail
  refine ER DN [[],[0],[],[1,2],[],[4],[],[5,6,3],[3,7,7],[],[9,8,8,0,1,2,3,4,5,6,7,8,9]] [.eq (.pointer (some ⟨w.heap.size,0,none⟩)),.int (Rat.num (p)),.int A,.int x,.eq (.pointer (some ⟨w.heap.size+1,0,none⟩)),.int (Rat.num (q)),.int I,.int y,.int (x*y),.ptr,.eq undef] [9,10] (λb v V=>Bu w V [some (w.heap.size,.rat p),some (w.heap.size+1,.rat q),some (w.heap.size+1+1,.rat 0),some (B8,.int A),some (B9,.int I),nb b v 0 1 (.int 0) (.int (x*y))]) (M3.o.none).drew (SB (.vl J λ_ _=>⟨_,by refine DY ?_;go_simp,J⟩)<|SB (.vl J λh j=>D4 0 j (hp:=h.e 0))<|SB (.vl J λ_ j=>D3 3 j)<|SB (.cl λh _=>(by have h:=YW _ _ p.num A _ (h.g 1) (h.g 2) T2.o P.o.num T1.o;rw[HX.o]at h;exact h))<|SB (.vl J λ_ _=>⟨_,by refine DY ?_;go_simp,J⟩)<|SB (.vl J λh j=>D4 1 j (hp:=h.e 4))<|SB (.vl J λ_ j=>D3 4 j)<|SB (.cl λh _=>(by have h:=YW _ _ q.num I _ (h.g 5) (h.g 6) T4.o Q.o.num T3.o;rw[HY.o]at h;exact h))<|SB (.cl λh _=>Ym _ _ x y _ (h.g 3) (h.g 7) (by have:=T5.o.words;have:=T6.o.words;omega))<|SB (.wr J λ_ j=>Dt 5 j)<|SB (.wr J λh j=>Ds 5 j (h.g 8) (hp:=h.g 9)) Stp.end_)
   λf L hF o=>?_
  refine DY ?_;rw[hF.e 0,hF.e 4];obtain⟨B12,ak⟩:=hF.p 9;have o:=ES o;simp only[ak]at o;rw[ak];have r:=Z o;clear o hF ak;clear M3;go_upto_region 5 with fail
  obtain⟨du,bh,d8,bt,U,ck⟩:=r.o.int (i:=5) J;have Qb:=U.ka;obtain⟨dw,bi,de,bu,e7,bn,cy,ci,W,dj,f8,fd⟩:=r.o.rat (i:=0) J;have Qf:=W.kb;obtain⟨dx,bj,dg,bz,X,cn⟩:=r.o.int (i:=4) J;have Qd:=X.ka;obtain⟨dz,bk,dh,ce,eb,bp,cz,cj,aa,dt,f9,fe⟩:=r.o.rat (i:=1) J;have Qc:=aa.kb;obtain⟨e6,bm,di,cg,ad,cw⟩:=r.o.int (i:=3) J;have Qe:=ad.ka;obtain⟨fu,eh,fi,et,fx,en,fg,f6,n,ft,fc,ff⟩:=r.o.rat (i:=2) J;have R:=n.kb;have Qg:=n.fb;obtain⟨H2,H4,H6,H8,H9,Qo⟩:=Gr (λ(V:E) (h:Bl L V)=>Xp _ p V (dj.below h)) (λ(V:E) (h:Bl L V) (v2:G) (z:Jg V v2 ((p.den:Int)))=>YW _ _ (p.den:Int) I V z (cn.below h) T4.o P.o.den T3.o) (λ(V:E) (h:Bl L V)=>Xp _ q V (dt.below h)) (λ(V:E) (h:Bl L V) (v6:G) (M:Jg V v6 ((q.den:Int)))=>YW _ _ (q.den:Int) A V M (cw.below h) T2.o Q.o.den T1.o) (λ(V:E) (h:Bl L V) (v4:G) (K:Jg V v4 ((p.den:Int)/I)) (v8:G) (S:Jg V v8 ((q.den:Int)/A))=>Ym _ _ ((p.den:Int)/I) ((q.den:Int)/A) V K S (by have N:=(Sok.div (y:=I) P.o.den).words;have h2:=(Sok.div (y:=A) Q.o.den).words;omega)) λ(V:E) (h:Bl L V) (v9:G) (g9:Jg V v9 ((p.den:Int)/I*((q.den:Int)/A)))=>E2 _ _ (p*q) V (by rw[T7.o];exact(ck.below h)) (by rw[T8.o];exact g9);have fs:=r.o.ne 5 2 J J Bw;have fl:=r.o.ne 0 2 J J Bw;have fr:=r.o.ne 4 2 J J Bw;have fm:=r.o.ne 1 2 J J Bw;have fo:=r.o.ne 3 2 J J Bw;have g:Bl L L.drew:=(BC _ L).drew;go_region_held3 (λm=>(m.cell? ⟨B12,0,none⟩=some (C du)/\m.cell? ⟨B12,1,none⟩=some (B bh d8 bt))/\(m.cell? ⟨w.heap.size,0,none⟩=some (C dw)/\m.cell? ⟨w.heap.size,1,none⟩=some (B bi de bu)/\m.cell? ⟨w.heap.size,2,none⟩=some (C e7)/\m.cell? ⟨w.heap.size,3,none⟩=some (B bn cy ci))/\(m.cell? ⟨B9,0,none⟩=some (C dx)/\m.cell? ⟨B9,1,none⟩=some (B bj dg bz))/\(m.cell? ⟨w.heap.size+1,0,none⟩=some (C dz)/\m.cell? ⟨w.heap.size+1,1,none⟩=some (B bk dh ce)/\m.cell? ⟨w.heap.size+1,2,none⟩=some (C eb)/\m.cell? ⟨w.heap.size+1,3,none⟩=some (B bp cz cj))/\m.cell? ⟨B8,0,none⟩=some (C e6)/\m.cell? ⟨B8,1,none⟩=some (B bm di cg)) (first|grind|(go_keep;done)|((repeat' apply Cn)<;>((repeat rw[Jn Y]);grind)))
   (first
    |(go_at_call 10;refine(H2.o _ g ).mono ?_;clear H2;rintro e w2 ⟨v2,rfl,z,T⟩;have g:=Bt g T;have Qb:=(U.below g).ka;have Qf:=(W.below g).kb;have Qd:=(X.below g).ka;have Qc:=(aa.below g).kb;have Qe:=(ad.below g).ka;have R:=(n.below g).kb;have Qg:=(n.below g).fb)
    |(go_at_call 63;refine(H4.o _ g _ z).mono ?_;clear H4;rintro e w4 ⟨v4,rfl,K,ay⟩;have z:=z.below ay;have g:=Bt g ay;have Qb:=(U.below g).ka;have Qf:=(W.below g).kb;have Qd:=(X.below g).ka;have Qc:=(aa.below g).kb;have Qe:=(ad.below g).ka;have R:=(n.below g).kb;have Qg:=(n.below g).fb)
    |(go_at_call 10;refine(H6.o _ g ).mono ?_;clear H6;rintro e w6 ⟨v6,rfl,M,aq⟩;have z:=z.below aq;have K:=K.below aq;have g:=Bt g aq;have Qb:=(U.below g).ka;have Qf:=(W.below g).kb;have Qd:=(X.below g).ka;have Qc:=(aa.below g).kb;have Qe:=(ad.below g).ka;have R:=(n.below g).kb;have Qg:=(n.below g).fb)
    |(go_at_call 63;refine(H8.o _ g _ M).mono ?_;clear H8;rintro e w8 ⟨v8,rfl,S,aj⟩;have z:=z.below aj;have K:=K.below aj;have M:=M.below aj;have g:=Bt g aj;have Qb:=(U.below g).ka;have Qf:=(W.below g).kb;have Qd:=(X.below g).ka;have Qc:=(aa.below g).kb;have Qe:=(ad.below g).ka;have R:=(n.below g).kb;have Qg:=(n.below g).fb)
    |(go_at_call 51;refine(H9.o _ g _ K _ S).mono ?_;clear H9;rintro e w9 ⟨v9,rfl,g9,ai⟩;have z:=z.below ai;have K:=K.below ai;have M:=M.below ai;have S:=S.below ai;have g:=Bt g ai;have Qb:=(U.below g).ka;have Qf:=(W.below g).kb;have Qd:=(X.below g).ka;have Qc:=(aa.below g).kb;have Qe:=(ad.below g).ka;have R:=(n.below g).kb;have Qg:=(n.below g).fb)
    |(go_at_call 64;refine(Qo.o _ g _ g9).mono ?_;clear Qo;rintro e gh ⟨gg,rfl,aw,ah⟩;obtain⟨fw,ek,fk,f4,fy,er,fh,f7,rfl⟩:=Jo.form aw;have z:=z.below ah;have K:=K.below ah;have M:=M.below ah;have S:=S.below ah;have g9:=g9.below ah;have g:=Bt g ah;have Qb:=(U.below g).ka;have Qf:=(W.below g).kb;have Qd:=(X.below g).ka;have Qc:=(aa.below g).kb;have Qe:=(ad.below g).ka;have R:=(n.below g).kb;have Qg:=(n.below g).fb))
  all_goals go_wp2_with fail
  have Qk:=Bt r.o.2.2 g;have Qq:=r.o.ge 2 J;exact BB (by simp[results,results29,go_sem,R]) J ⟨_,J,aw.put4 (n.below g) J J J J _ _ _ _,Jj Qk Qq _ _ _ _⟩
def NS(T U:G)(x y:Int)(w:E)(v:Jg w T x)(z:Jg w U y)(L:Sok x)(M:Sok y):
 H F 22 #[T,U] w λe W=>∃u,e=.returned (.tuple #[u,C (decide (y≠0))])/\Jo W u (OB x y)/\Bl w W:=by
 have HX:=Z L;have HY:=Z M;clear L M;obtain⟨s,a,Q,I,rfl⟩:=Jg.form2 v;obtain⟨t,b,lb,K,rfl⟩:=Jg.form2 z;have n:=GL w s t a b Q I lb K _ _ v z;obtain⟨W0,r⟩:=ex (((w.alloc (D #[C s,B a Q I] 25)).alloc (D #[C t,B b lb K] 25)).alloc (D #[C false,B none 0 0,C false,B none 0 0] 27));have A:=Z r;rw[r]at n;have g:=Z n;clear n v z r;obtain⟨s1,a1,l1,c1,R,i1⟩:=g.o.int (i:=0) J;have Qf:=R.ka;obtain⟨s2,a2,l2,c2,S,P⟩:=g.o.int (i:=1) J;have Qg:=S.ka;obtain⟨s3,a3,l3,c3,t3,b3,k3,d3,f,r3,i3,j3⟩:=g.o.rat (i:=2) J;have k:=f.kb;have o:=f.fb;have l:=Z (Ih _ y W0 P);have j:=Z λ(V:E) (h:Bl W0 V) (d:y≠0)=>Ij _ _ x y V (i1.below h) (P.below h) d HX.o HY.o;by_cases d:y=0
 . rw[BF d]at l;have m:=Z (BE (p:=y≠0) λh=>h d);rw[m.o];have HE:=Z (show OB x y=0 by rw[d,Rat.divInt_zero]);clear d j;go_enter func22,ntmps22
   go_upto_region 1 with fail
   rw[A.o];go_wp2_with(go_at_call 60;refine l.o.mono ?_;rintro e X ⟨rfl,c⟩;have k:=(f.below c).kb;have o:=(f.below c).fb)
   have hr:Jo X (.agg #[C false,B none 0 0,C false,B none 0 0]) (OB x y):=by rw[HE.o];exact DV _
   have q:=Bt g.o.2.2 c;exact BB (by simp[results,results22,go_sem,k]) J ⟨_,J,hr.put4 (f.below c) J J J J _ _ _ _,Jj q Y _ _ _ _⟩
 . rw[BE d]at l;have m:=Z (BF (p:=y≠0) d);rw[m.o];have j:=Z λV h=>j.o V h d;clear d;go_enter func22,ntmps22
   go_upto_region 1 with fail
   rw[A.o];go_wp2_with(first
    |(go_at_call 60;refine l.o.mono ?_;rintro e X ⟨rfl,c⟩;have Qf:=(R.below c).ka;have Qg:=(S.below c).ka;have k:=(f.below c).kb;have o:=(f.below c).fb)
    |(go_at_call 44;refine(j.o _ c).mono ?_;clear j;rintro e w2 ⟨u2,rfl,N,aa⟩;obtain⟨am,ad,ak,ah,an,ae,aj,ai,rfl⟩:=Jo.form N;have c:=Bt c aa;have k:=(f.below c).kb;have o:=(f.below c).fb))
   have q:=Bt g.o.2.2 c;have Qe:=g.o.ge 2 J;exact BB (by simp[results,results22,go_sem,k]) J ⟨_,J,N.put4 (f.below c) J J J J _ _ _ _,Jj q Qe _ _ _ _⟩
def NT(p q:Rat):decide ((p.den:Int)*q.num≠0)=decide (q≠0):=by
 refine decide_eq_decide.2 (not_congr ⟨λh=>?_,λh=>?_⟩)
 . rcases Int.mul_eq_zero.1 h with h|h
   . have:=p.den_nz;omega
   . exact Rat.num_eq_zero.1 h
 . rw[h];exact Int.mul_zero _
theorem NU(va vb:G)(p q:Rat)(w:E)(S:Jo w va p)(T:Jo w vb q)(ae:Sq p)(ah:Sq q):
 H F 30 #[va,vb] w λe m=>∃u,e=.returned (.tuple #[u,C (decide (q≠0))])/\Jo m u (p/q)/\Bl w m:=by
 obtain⟨bq,W⟩:=ex (decide (q≠0));have Qh:=Z ((NT p q).trans W);rw[W];clear W;obtain⟨s,a,l,c,t,b,k,d,rfl⟩:=Jo.form S;obtain⟨s',a',l',c',t',b',k',d',rfl⟩:=Jo.form T;have Q:=E5 w s t s' t' a b a' b' l c k d l' c' k' d' p q S T;obtain⟨W0,R⟩:=ex (((w.alloc (D #[C s,B a l c,C t,B b k d] 27)).alloc (D #[C s',B a' l' c',C t',B b' k' d'] 27)).alloc (D #[C false,B none 0 0,C false,B none 0 0] 27));have Qe:=Z R;rw[R]at Q;obtain⟨o,M,N⟩:=C6 Q ae ah;clear Q S T R ae ah;go_enter func30,ntmps30
 go_upto_region 1 with fail
 rw[Qe.o];clear Qe;obtain⟨s1,a1,l1,c1,t1,b1,k1,d1,x,r1,i1,j1⟩:=o.o.rat (i:=0) J;have z:=x.kb;obtain⟨s2,a2,l2,c2,t2,b2,k2,d2,y,r2,i2,j2⟩:=o.o.rat (i:=1) J;have I:=y.kb;obtain⟨s3,a3,l3,c3,t3,b3,k3,d3,g,r3,i3,j3⟩:=o.o.rat (i:=2) J;have v:=g.kb;have A:=g.fb;obtain⟨X,H4,H6,H9,Qf⟩:=Dn (λ(V:E) (h:Bl W0 V)=>Xp _ q V (r2.below h)) (λ(V:E) (h:Bl W0 V) (v3:G) (j:Jg V v3 ((q.den:Int)))=>Ym _ _ p.num (q.den:Int) V (i1.below h) j (by have h1:=M.o.num.words;have h2:=N.o.den.words;omega)) (λ(V:E) (h:Bl W0 V)=>Xp _ p V (r1.below h)) (λ(V:E) (h:Bl W0 V) (v6:G) (r:Jg V v6 ((p.den:Int)))=>Ym _ _ (p.den:Int) q.num V r (i2.below h) (by have h1:=M.o.den.words;have h2:=N.o.num.words;omega)) λ(V:E) (h:Bl W0 V) (v4:G) (n:Jg V v4 (p.num*(q.den:Int))) (v9:G) (K:Jg V v9 ((p.den:Int)*q.num))=>(by have h:=NS _ _ (p.num*(q.den:Int)) ((p.den:Int)*q.num) V n K (M.o.cross N.o) (M.o.cross2 N.o);rw[Qh.o,FV]at h;exact h);have aw:=o.o.ne 0 2 J J Bw;have ay:=o.o.ne 1 2 J J Bw;have f:Bl W0 W0.drew:=(BC _ W0).drew;go_region_held3 (λm=>(m.cell? ⟨w.heap.size,0,none⟩=some (C s1)/\m.cell? ⟨w.heap.size,1,none⟩=some (B a1 l1 c1)/\m.cell? ⟨w.heap.size,2,none⟩=some (C t1)/\m.cell? ⟨w.heap.size,3,none⟩=some (B b1 k1 d1))/\m.cell? ⟨w.heap.size+1,0,none⟩=some (C s2)/\m.cell? ⟨w.heap.size+1,1,none⟩=some (B a2 l2 c2)/\m.cell? ⟨w.heap.size+1,2,none⟩=some (C t2)/\m.cell? ⟨w.heap.size+1,3,none⟩=some (B b2 k2 d2)) (first|grind|(go_keep;done)|((repeat' apply Cn)<;>((repeat rw[Jn Y]);grind)))
  (first
   |(go_at_call 10;refine(X.o _ f ).mono ?_;clear X;rintro e w3 ⟨v3,rfl,j,ai⟩;have f:=Bt f ai;have z:=(x.below f).kb;have I:=(y.below f).kb;have v:=(g.below f).kb;have A:=(g.below f).fb)
   |(go_at_call 51;refine(H4.o _ f _ j).mono ?_;clear H4;rintro e w4 ⟨v4,rfl,n,ad⟩;have j:=j.below ad;have f:=Bt f ad;have z:=(x.below f).kb;have I:=(y.below f).kb;have v:=(g.below f).kb;have A:=(g.below f).fb)
   |(go_at_call 10;refine(H6.o _ f ).mono ?_;clear H6;rintro e w6 ⟨v6,rfl,r,U⟩;have j:=j.below U;have n:=n.below U;have f:=Bt f U;have z:=(x.below f).kb;have I:=(y.below f).kb;have v:=(g.below f).kb;have A:=(g.below f).fb)
   |(go_at_call 51;refine(H9.o _ f _ r).mono ?_;clear H9;rintro e w9 ⟨v9,rfl,K,P⟩;have j:=j.below P;have n:=n.below P;have r:=r.below P;have f:=Bt f P;have z:=(x.below f).kb;have I:=(y.below f).kb;have v:=(g.below f).kb;have A:=(g.below f).fb)
   |(go_at_call 22;refine(Qf.o _ f _ n _ K).mono ?_;clear Qf;rintro e bf ⟨bd,rfl,aa,L⟩;obtain⟨az,aj,aq,am,bc,ak,ap,an,rfl⟩:=Jo.form aa;have j:=j.below L;have n:=n.below L;have r:=r.below L;have K:=K.below L;have f:=Bt f L;have z:=(x.below f).kb;have I:=(y.below f).kb;have v:=(g.below f).kb;have A:=(g.below f).fb))
 all_goals go_wp2_with fail
 have Qi:=Bt o.o.2.2 f;have Qg:=o.o.ge 2 J;exact BB (by simp[results,results30,go_sem,v]) J ⟨_,J,aa.put4 (g.below f) J J J J _ _ _ _,Jj Qi Qg _ _ _ _⟩
def EU(p q:Rat):Int:=Yp (p.num*q.den) (q.num*p.den)
theorem Im(va vb:G)(p q:Rat)(w:E)(ha:Jo w va p)(hb:Jo w vb q)(ah:Sq p)(ai:Sq q):
 H F 34 #[va,vb] w λe g=>e=.returned (.int .i64 (EU p q))/\Bl w g:=by
 obtain⟨s,a,l,c,t,b,k,d,rfl⟩:=Jo.form ha;obtain⟨s',a',l',c',t',b',k',d',rfl⟩:=Jo.form hb;have T:=NN w s t s' t' a b a' b' l c k d l' c' k' d' p q ha hb;obtain⟨W0,X⟩:=ex ((w.alloc (D #[C s,B a l c,C t,B b k d] 27)).alloc (D #[C s',B a' l' c',C t',B b' k' d'] 27));have Qf:=Z X;rw[X]at T;have A:=Z T;obtain⟨n,hn⟩:=ex (EU p q);have HN:=Z hn;rw[hn];have HP:=Z ah;have HQ:=Z ai;clear T ha hb X ah ai hn;go_enter func34,ntmps34
 go_upto_region 1 with fail
 rw[Qf.o];clear Qf;obtain⟨Q,ae⟩:=ex (decide (p.den=1/\q.den=1):Bool);have L:=Z ae;clear ae;go_cut [10] λc g=>c=C Q/\Hid (Bu w g [some (w.heap.size,.rat p),some (w.heap.size+1,.rat q)])
 case first=>
  obtain⟨s1,a1,l1,c1,t1,b1,k1,d1,n1,r1,i1,j1⟩:=A.o.rat (i:=0) J;have Qh:=n1.kb;obtain⟨s2,a2,l2,c2,t2,b2,k2,d2,n2,r2,i2,j2⟩:=A.o.rat (i:=1) J;have Qi:=n2.kb;have m:=Z (Yv _ p W0 r1);have S:=Z λ(V:E) (h:Bl W0 V)=>Yv _ q V (r2.below h);by_cases v:p.den=1
  . rw[BF v]at m;obtain⟨b2,P⟩:=ex (decide (q.den=1));rw[P]at S;have W:=Z (show b2=Q by rw[<-P,<-L.o];grind);clear P v;go_wp2_with(first
     |(go_at_call 47;refine m.o.mono ?_;clear m;rintro e w1 ⟨rfl,x⟩;have Qh:=(n1.below x).kb;have Qi:=(n2.below x).kb)
     |(go_at_call 47;refine(S.o _ x).mono ?_;clear S;rintro e w2 ⟨rfl,P⟩))
    go_meet
    case rel=>exact⟨by rw[W.o],Z ((A.o.below x).below P)⟩
  . rw[BE v]at m;have W:=Z (show Q=false by rw[<-L.o];grind);clear v;go_wp2_with(go_at_call 47;refine m.o.mono ?_;clear m;rintro e w1 ⟨rfl,x⟩)
    go_meet
    case rel=>exact⟨by rw[W.o],Z (A.o.below x)⟩
 obtain⟨rfl,MM⟩:=hcut;have u:=MM;clear A MM;cases Q with
 |true=>
  have U:=BP L.o;have HE:=Z (show Yp p.num q.num=n by rw[<-HN.o];unfold EU;rw[U.1,U.2];simp);clear U L;obtain⟨s3,a3,l3,c3,t3,b3,k3,d3,n3,r3,i3,j3⟩:=u.o.rat (i:=0) J;have ak:=n3.kb;obtain⟨s4,a4,l4,c4,t4,b4,k4,d4,n4,r4,i4,j4⟩:=u.o.rat (i:=1) J;have am:=n4.kb;have m:=Z (Y1 _ _ p.num q.num wc i3 i4);rw[HE.o]at m;go_wp2_with(go_at_call 39;refine m.o.mono ?_;clear m;rintro e w1 ⟨rfl,f⟩)
  go_ret;exact⟨J,Bt u.o.2.2 f⟩
 |false=>
  clear L;go_upto_region 3 with fail
  obtain⟨s5,a5,l5,c5,t5,b5,k5,d5,y,r5,i5,j5⟩:=u.o.rat (i:=0) J;have K:=y.kb;obtain⟨s6,a6,l6,c6,t6,b6,k6,d6,z,r6,i6,j6⟩:=u.o.rat (i:=1) J;have I:=z.kb;obtain⟨H3,H4,H8,H9,Qg⟩:=Dn (λ(V:E) (h:Bl wc V)=>Xp _ q V (r6.below h)) (λ(V:E) (h:Bl wc V) (v3:G) (j:Jg V v3 ((q.den:Int)))=>Ym _ _ p.num (q.den:Int) V (i5.below h) j (by have v:=HP.o.num.words;have h2:=HQ.o.den.words;omega)) (λ(V:E) (h:Bl wc V)=>Xp _ p V (r5.below h)) (λ(V:E) (h:Bl wc V) (v8:G) (r:Jg V v8 ((p.den:Int)))=>Ym _ _ q.num (p.den:Int) V (i6.below h) r (by have v:=HQ.o.num.words;have h2:=HP.o.den.words;omega)) λ(V:E) (h:Bl wc V) (v4:G) (o:Jg V v4 (p.num*(q.den:Int))) (v9:G) (M:Jg V v9 (q.num*(p.den:Int)))=>(by have h:=Y1 _ _ (p.num*(q.den:Int)) (q.num*(p.den:Int)) V o M;rw[show Yp (p.num*(q.den:Int)) (q.num*(p.den:Int))=n from HN.o]at h;exact h);have f:Bl wc wc.drew:=(BC _ wc).drew;go_region_held3 (λg=>(g.cell? ⟨w.heap.size,0,none⟩=some (C s5)/\g.cell? ⟨w.heap.size,1,none⟩=some (B a5 l5 c5)/\g.cell? ⟨w.heap.size,2,none⟩=some (C t5)/\g.cell? ⟨w.heap.size,3,none⟩=some (B b5 k5 d5))/\g.cell? ⟨w.heap.size+1,0,none⟩=some (C s6)/\g.cell? ⟨w.heap.size+1,1,none⟩=some (B a6 l6 c6)/\g.cell? ⟨w.heap.size+1,2,none⟩=some (C t6)/\g.cell? ⟨w.heap.size+1,3,none⟩=some (B b6 k6 d6)) (first|grind|(go_keep;done)|((repeat' apply Cn)<;>((repeat rw[Jn Y]);first|(simp only[*];done)|(go_keep;done))))
   (first
    |(go_at_call 10;refine(H3.o _ f ).mono ?_;clear H3;rintro e w3 ⟨v3,rfl,j,aj⟩;have f:=Bt f aj;have K:=(y.below f).kb;have I:=(z.below f).kb)
    |(go_at_call 51;refine(H4.o _ f _ j).mono ?_;clear H4;rintro e w4 ⟨v4,rfl,o,ad⟩;have j:=j.below ad;have f:=Bt f ad;have K:=(y.below f).kb;have I:=(z.below f).kb)
    |(go_at_call 10;refine(H8.o _ f ).mono ?_;clear H8;rintro e w8 ⟨v8,rfl,r,aa⟩;have j:=j.below aa;have o:=o.below aa;have f:=Bt f aa;have K:=(y.below f).kb;have I:=(z.below f).kb)
    |(go_at_call 51;refine(H9.o _ f _ r).mono ?_;clear H9;rintro e w9 ⟨v9,rfl,M,R⟩;have j:=j.below R;have o:=o.below R;have r:=r.below R;have f:=Bt f R;have K:=(y.below f).kb;have I:=(z.below f).kb)
    |(go_at_call 39;refine(Qg.o _ f _ o _ M).mono ?_;clear Qg;rintro e an ⟨rfl,N⟩;have j:=j.below N;have o:=o.below N;have r:=r.below N;have M:=M.below N;have f:=Bt f N;have K:=(y.below f).kb;have I:=(z.below f).kb))
  all_goals go_wp2_with fail
  go_ret;exact⟨J,Bt u.o.2.2 f⟩
theorem NV(va vb:G)(p q:Rat)(w:E)(x:Jo w va p)(y:Jo w vb q)(aa:Sq p)(ad:Sq q):
 H F 28 #[va,vb] w λe j=>∃u,e=.returned u/\Jo j u (p-q)/\Bl w j:=by
 obtain⟨s,a,l,c,t,b,k,d,rfl⟩:=Jo.form x;obtain⟨s',R,l',c',t',T,k',X,rfl⟩:=Jo.form y;have o:=E5 w s t s' t' a b R T l c k d l' c' k' X p q x y;obtain⟨W0,v⟩:=ex (((w.alloc (D #[C s,B a l c,C t,B b k d] 27)).alloc (D #[C s',B R l' c',C t',B T k' X] 27)).alloc (D #[C false,B none 0 0,C false,B none 0 0] 27));have M:=Z v;rw[v]at o;obtain⟨n,HP,L⟩:=C6 o aa ad;clear o x y v aa ad;go_enter func28,ntmps28
 go_upto_region 1 with fail
 rw[M.o];clear M;obtain⟨s1,S,l1,c1,t1,U,k1,d1,z,r1,i1,j1⟩:=n.o.rat (i:=0) J;have N:=z.kb;obtain⟨s2,a2,l2,c2,t2,W,k2,d2,A,r2,i2,j2⟩:=n.o.rat (i:=1) J;have Q:=A.kb;obtain⟨s3,a3,l3,c3,t3,b3,k3,d3,m,r3,i3,j3⟩:=n.o.rat (i:=2) J;have r:=m.kb;have P:=m.fb;have I:=Z λ(V:E) (h:Bl W0 V)=>IF _ _ 0 q.num V (X1 _) (i2.below h) (by have:=Sok.zero.words;omega) (by have:=L.o.num.words;omega);have K:=Z (λ(V:E) (h:Bl W0 V) (s:Bool) (a:N8) (l c:Nat) (g:Jg V (.agg #[C s,B a l c]) (0-q.num))=>show H F 27 #[.agg #[C s1,B S l1 c1,C t1,B U k1 d1],.agg #[C s,B a l c,C t2,B W k2 d2]] V λe j=>∃u,e=.returned u/\Jo j u (p-q)/\Bl V j by
  have h1:=Ik _ _ p (-q) V (r1.below h) (Jo.mk (q:=-q) (by rw[Rat.neg_num,<-Int.zero_sub];exact g) (j2.below h)) HP.o L.o.neg;rw[<-Rat.sub_eq_add_neg]at h1;exact h1)
 have f:Bl W0 W0.drew:=(BC _ W0).drew;go_region_held3 (λj=>(j.cell? ⟨w.heap.size,0,none⟩=some (C s1)/\j.cell? ⟨w.heap.size,1,none⟩=some (B S l1 c1)/\j.cell? ⟨w.heap.size,2,none⟩=some (C t1)/\j.cell? ⟨w.heap.size,3,none⟩=some (B U k1 d1))/\j.cell? ⟨w.heap.size+1,0,none⟩=some (C s2)/\j.cell? ⟨w.heap.size+1,1,none⟩=some (B a2 l2 c2)/\j.cell? ⟨w.heap.size+1,2,none⟩=some (C t2)/\j.cell? ⟨w.heap.size+1,3,none⟩=some (B W k2 d2)) (first|grind|(go_keep;done)|grind[Jn])
  (first
   |(go_at_call 65;refine(I.o _ f).mono ?_;clear I;rintro e w1 ⟨u1,rfl,ae,ai⟩;obtain⟨bd,ak,az,ap,rfl⟩:=Jg.form2 ae;have f:=Bt f ai;have N:=(z.below f).kb;have Q:=(A.below f).kb;have r:=(m.below f).kb;have P:=(m.below f).fb)
   |(go_at_call 27;refine(K.o _ f _ _ _ _ ae).mono ?_;clear K;rintro e w2 ⟨u2,rfl,ah,aj⟩;obtain⟨bf,am,bc,aq,bg,an,ay,aw,rfl⟩:=Jo.form ah;have f:=Bt f aj;have N:=(z.below f).kb;have Q:=(A.below f).kb;have r:=(m.below f).kb;have P:=(m.below f).fb))
 all_goals go_wp2_with fail
 have Qg:=Bt n.o.2.2 f;have Qf:=n.o.ge 2 J;exact BB (by simp[results,results28,go_sem,r]) J ⟨_,J,ah.put4 (m.below f) J J J J _ _ _ _,Jj Qg Qf _ _ _ _⟩
def Yh(q:Rat):List UInt8:=if q.den=1 then Yg q.num else Yg q.num++47::Yg (q.den:Int)
theorem NW(a b:List UInt8):(⟨a.toArray⟩:ByteArray)++⟨b.toArray⟩=⟨(a++b).toArray⟩:=by
 apply CL;simp
theorem NX(z:Int):(Yg z).length<=20*(Jb O z.natAbs).length+2:=by
 grind[IA,Yg]
theorem XZ(h:Sok z):(⟨(Yg z).toArray⟩:ByteArray).size<=400000000000:=by
 have a:=NX z;have b:=h.words;show(Yg z).toArray.size<=_;grind
theorem Io(a b:List UInt8):(⟨a.toArray⟩:ByteArray)++⟨#[47]⟩++⟨b.toArray⟩=⟨(a++47::b).toArray⟩:=by
 grind[NW]
theorem Ip:Yg z=[49]↔z=1:=by
 have a:Yg (JW [49])=[49]:=FM Bw;have b:JW [49]=1:=Bw
 grind[KD]
theorem YE(va:G)(q:Rat)(w:E)(g:Jo w va q)(s:Sq q)(ad:Lib.TabIs F w "internal/strconv.uint64pow10" .u64 Lib.pow10Tab):
 H F 11 #[va] w λe j=>e=.returned (.string ⟨(Yh q).toArray⟩)/\Bl w j:=by
 obtain⟨m,L⟩:∃S:ByteArray,⟨(Yg q.num).toArray⟩=S:=⟨_,J⟩;have aw:m.size<=400000000000:=by rw[<-L];exact XZ s.num
 have r:=Z L;clear L;obtain⟨K,M⟩:∃S:ByteArray,⟨(Yg (q.den:Int)).toArray⟩=S:=⟨_,J⟩;have ay:K.size<=400000000000:=by rw[<-M];exact XZ s.den
 have W:=Z M;clear M;have x:=Z ad;clear ad;by_cases d:q.den=1
 . have u:=Z d;have v:=Z (show(⟨(Yh q).toArray⟩:ByteArray)=m by rw[<-r.o];unfold Yh;rw[BW d]);rw[v.o];clear d;obtain⟨ap,ae,an,ai,aq,ah,am,aj,rfl⟩:=Jo.form g;obtain⟨W0,l,c⟩:=DW 27 (.rat q) g;clear g s;go_enter func11,ntmps11
   go_upto_region 1 with fail
   rw[l.o];clear l;obtain⟨s1,a1,l1,c1,t1,b1,k1,d1,o,t,P,j1⟩:=c.o.rat (i:=0) J;obtain⟨I,y,z,A⟩:=o.cq;have b:=Z (Yv _ q W0 t);rw[BF u.o]at b;have f:=Z λ(V:E) (h:Bl W0 V)=>F9 _ q.num V (P.below h) (JE x.o (Bt c.o.2.2 h));rw[r.o]at f;go_wp2_with(first
    |(go_at_call 47;refine b.o.mono ?_;clear b;rintro e k ⟨rfl,a⟩;obtain⟨I,y,z,A⟩:=(o.below a).cq)
    |(go_at_call 13;refine(f.o _ a).mono ?_;clear f;rintro e w2 ⟨rfl,N⟩;have a:=Bt a N))
   go_ret;exact⟨J,Bt c.o.2.2 a⟩
 . have u:=Z d;have v:=Z (show(⟨(Yh q).toArray⟩:ByteArray)=m++⟨#[47]⟩++K by rw[<-r.o,<-W.o,Io];unfold Yh;rw[BZ d]);rw[v.o];have HZ:=Z (show C2 q=q.den by unfold C2;rw[BZ d]);clear d;have y1:¬9223372036854775807<m.size+1:=Y
   have y2:¬9223372036854775807<m.size+1+K.size:=Y
   obtain⟨ap,ae,an,ai,aq,ah,am,aj,rfl⟩:=Jo.form g;obtain⟨W0,l,c⟩:=DW 27 (.rat q) g;clear g s;go_enter func11,ntmps11
   go_upto_region 1 with fail
   rw[l.o];clear l;obtain⟨s1,a1,l1,c1,t1,b1,k1,d1,o,t,P,j1⟩:=c.o.rat (i:=0) J;obtain⟨I,y,z,A⟩:=o.cq;have b:=Z (Yv _ q W0 t);rw[BE u.o]at b;go_upto_region 3 with(go_at_call 47;refine b.o.mono ?_;clear b;rintro e k ⟨rfl,aa⟩)
   have p:=Z (c.o.below aa);clear c;clear o I y z A P t j1 aa;obtain⟨s2,a2,l2,c2,t2,b2,k2,d2,Q,r2,i2,j2⟩:=p.o.rat (i:=0) J;obtain⟨T,U,Qj,X⟩:=Q.cq;have f:=Z λ(V:E) (h:Bl k V)=>(by have n:=F9 _ q.num V (i2.below h) (JE x.o (Bt p.o.2.2 h));rw[r.o]at n;exact n);have R:=Z λ(V:E) (h:Bl k V)=>(by have h0:=(j2.below h);rw[HZ.o]at h0;have n:=F9 _ (q.den:Int) V h0 (JE x.o (Bt p.o.2.2 h));rw[W.o]at n;exact n);have a:Bl k k.drew:=(BC _ k).drew;go_region_held3 (λj=>j.cell? ⟨w.heap.size,0,none⟩=some (C s2)/\j.cell? ⟨w.heap.size,1,none⟩=some (B a2 l2 c2)/\j.cell? ⟨w.heap.size,2,none⟩=some (C t2)/\j.cell? ⟨w.heap.size,3,none⟩=some (B b2 k2 d2)) (first|grind|(go_keep;done)|(refine⟨?_,?_,?_,?_⟩<;>((repeat rw[Jn Y]);first|assumption|(go_keep;done))))
    (first
     |(go_at_call 13;refine(f.o _ a ).mono ?_;clear f;rintro e w2 ⟨rfl,N⟩;have a:=Bt a N;obtain⟨T,U,Qj,X⟩:=(Q.below a).cq)
     |(go_at_call 13;refine(R.o _ a ).mono ?_;clear R;rintro e w6 ⟨rfl,ak⟩;have a:=Bt a ak;obtain⟨T,U,Qj,X⟩:=(Q.below a).cq))
   all_goals go_wp2_with fail
   go_ret;exact⟨J,Bt p.o.2.2 a⟩
theorem Xe(L:G)(q:Rat)(w:E)(f:Jp w L q)(r:Sq q):
 H F 12 #[L] w λe w'=>e=.returned (.string ⟨(Yh q).toArray⟩)/\Bl w w':=by
 obtain⟨y,z⟩:∃S:ByteArray,⟨(Yg q.num).toArray⟩=S:=⟨_,J⟩;have ai:y.size<=400000000000:=by rw[<-z];exact XZ r.num
 have p:=Z z;clear z;obtain⟨l,d⟩:∃S:ByteArray,⟨(Yg (q.den:Int)).toArray⟩=S:=⟨_,J⟩;have aj:l.size<=400000000000:=by rw[<-d];exact XZ r.den
 have k:=Z d;clear d;have o:=Z r;clear r;by_cases m:q.den=1
 . have s:=Z (show(⟨(Yh q).toArray⟩:ByteArray)=y by rw[<-p.o];unfold Yh;rw[BW m]);rw[s.o];have d:l=⟨#[49]⟩:=by rw[<-k.o,m,show Yg ((1:Nat):Int)=[49]from Ip.2 J]
   subst d;clear m;obtain⟨N,aa,R,ad,Q,W,T,ae,rfl⟩:=Jp.form f;obtain⟨W0,g,j⟩:=DW 34 (.ref q) f;clear f;go_enter func12,ntmps12
   go_upto_region 1 with fail
   rw[g.o];clear g;obtain⟨M,X,c1,s1,P,U,d1,t1,n,r1,I,K⟩:=j.o.ref (i:=0) J;obtain⟨x,t,u,v⟩:=n.cq;have b:=Z (Ef _ q.num W0 I (by have:=o.o.num.size;omega));rw[p.o]at b;have c:=Z λ(V:E) (h:Bl W0 V)=>Ef _ (q.den:Int) V (K.below h) (by have:=o.o.den.size;omega);rw[k.o]at c;go_wp2_with(first
    |(go_at_call 14;refine b.o.mono ?_;clear b;rintro e w1 ⟨rfl,a⟩;obtain⟨x,t,u,v⟩:=(n.below a).cq)
    |(go_at_call 14;refine(c.o _ a).mono ?_;clear c;rintro e w2 ⟨rfl,A⟩;have a:=Bt a A))
   go_ret;exact⟨J,Bt j.o.2.2 a⟩
 . have s:=Z (show(⟨(Yh q).toArray⟩:ByteArray)=y++⟨#[47]⟩++l by rw[<-p.o,<-k.o,Io];unfold Yh;rw[BZ m]);rw[s.o];have d:¬l=⟨#[49]⟩:=by
    intro h;rw[<-k.o]at h;grind[Ip]
   have ah:(l.toList == [49])=false:=by
    rw[BQ];intro h;rw[ByteArray.toList_eq]at h;exact d (CL B7)
   clear m;obtain⟨N,aa,R,ad,Q,W,T,ae,rfl⟩:=Jp.form f;obtain⟨W0,g,j⟩:=DW 34 (.ref q) f;clear f;go_enter func12,ntmps12
   go_upto_region 1 with fail
   rw[g.o];clear g;obtain⟨M,X,c1,s1,P,U,d1,t1,n,r1,I,K⟩:=j.o.ref (i:=0) J;obtain⟨x,t,u,v⟩:=n.cq;have b:=Z (Ef _ q.num W0 I (by have:=o.o.num.size;omega));rw[p.o]at b;have c:=Z λ(V:E) (h:Bl W0 V)=>Ef _ (q.den:Int) V (K.below h) (by have:=o.o.den.size;omega);rw[k.o]at c;go_wp2_with(first
    |(go_at_call 14;refine b.o.mono ?_;clear b;rintro e w1 ⟨rfl,a⟩;obtain⟨x,t,u,v⟩:=(n.below a).cq)
    |(go_at_call 14;refine(c.o _ a).mono ?_;clear c;rintro e w2 ⟨rfl,A⟩;have a:=Bt a A))
   go_ret;exact⟨J,Bt j.o.2.2 a⟩

