import Derived.Test.YtcahodpphikgnaaGreatDoorU26
import Derived.Test.YtcahodpphikgnaaGreatDoorU22
set_option linter.all false
open Go.Value renaming slice->B,bool->C
open Go.Obj renaming cells->D
open Go renaming World->E,Value->G,Calls->H
open Go.Proofs.Tryz renaming prog->F
set_option maxRecDepth 99999
set_option maxHeartbeats 0
namespace Go.Proofs.YtcahodpphikgnaaGreatDoor
open Rat renaming divInt->MG
open Proofs.Tryz
open Go.RowKit Go.Shelf
attribute [local go_sem] Oper.semAt_some
section
variable{x y:Int}
def Ez(M N:G)(x y:Int)(w:E)(W:Jg w M x)(X:Jg w N y)(z:(Jb O x.natAbs).length<1000000000000)(A:(Jb O y.natAbs).length<1000000000000):
 H F 38 #[M,N] w λe d=>∃u,e=.returned u/\Jg d u (Int.gcd x y:Nat)/\Bl w d:=by
 obtain⟨a,L,r,i,c⟩:=W;cases i;obtain⟨b,lb,v,i,n⟩:=X;cases i;have o:=c.len;have q:=n.len;obtain⟨s,hs⟩:=ex (decide (x<0));obtain⟨t,I⟩:=ex (decide (y<0));rw[hs,I];obtain⟨W0,k⟩:=ex (((w.alloc (D #[C s,B a L r] 25)).alloc (D #[C t,B b lb v] 25)).alloc (D #[C false,B none 0 0] 25));obtain⟨j,b0,U,g⟩:=Dm k;have Q:=Z (LW a L r b lb v _ _ W0 (UN.below c j) (UN.below n j) (by rw[o];exact z) (by rw[q];exact A));have P:=Z λ(V:E) (u:G) (c:UN V u (Nat.gcd x.natAbs y.natAbs))=>show H F 58 #[C false,u] V λe d=>∃u,e=.returned u/\Jg d u (Int.gcd x y:Nat)/\Bl V d from Y7 false u _ V c;have k1:=b0.c1;have k3:=U.c1;have S:=Z k;clear c n hs I o q z A k;go_enter func38,ntmps38
 go_upto_region 1 with fail
 rw[S.o];go_wp2_with(first
  |(go_at_call 70;refine Q.o.mono ?_;rintro e w1 ⟨u1,rfl,K,aa⟩;obtain⟨na,nc,rfl⟩:=UN.form K)
  |(go_at_call 58;refine(P.o _ _ K).mono ?_;rintro e w2 ⟨u2,rfl,m,ad⟩;obtain⟨sa,sl,sc,rfl⟩:=m.form;obtain⟨s2,l⟩:=ex (decide (((Int.gcd x y:Nat):Int)<0));rw[l]at m;rw[l];clear l;have f:=Bt aa ad;obtain⟨r0,r1⟩:=(g.below f).cp;obtain⟨f0,f1⟩:=(g.below f).fp))
 have T:=Bt j f;have R:=m.box (g.below f) J J (x0:=C s2) (x1:=B sa sl sc);exact BB (by simp[results,results38,go_sem,r0,r1]) J ⟨_,J,R,(T.setCell (p:=⟨_,0,none⟩) so _).setCell (p:=⟨_,1,none⟩) so _⟩
def GZ(w:E)(a b c d:Obj):Bl w ((((w.alloc a).alloc b).alloc c).alloc d):=
 (((Ba w _).alloc Bq _).alloc si _).alloc si _
theorem Ga{z r:Int}(d:y≠0)(h:r+y*z=x)(c:0<=r)(e:r<y.natAbs):z=x/y/\r=x%y:=by
 rcases Int.lt_or_gt_of_ne d with g|hp
 . have f:=(Int.ediv_emod_unique (a:=x) (b:=-y) (r:=r) (q:=-z) Y).2 ⟨B5,c,Y⟩;grind[Int.ediv_neg,Int.emod_neg]
 grind[Int.ediv_emod_unique]
theorem Gb(c:y≠0)(d:¬(x<0/\x.natAbs%y.natAbs≠0)):
 (if(!(decide (x<0)==decide (y<0)))=true then -((x.natAbs/y.natAbs:Nat):Int)else((x.natAbs/y.natAbs:Nat):Int))=x/y/\((x.natAbs%y.natAbs:Nat):Int)=x%y:=by
 have b:=Ax x.natAbs y.natAbs;have e:=Ar x.natAbs (show y.natAbs>0 by omega);generalize x.natAbs/y.natAbs=Q at *;generalize x.natAbs%y.natAbs=a at *;have f:(y.natAbs:Int)*Q+a=x.natAbs:=by rw[<-b];push_cast;rfl
 apply Ga c _ Y Y;grind
theorem XV(d:y≠0)(b:x<0/\x.natAbs%y.natAbs≠0):
 (if(!(decide (x<0)==decide (y<0)))=true then -((x.natAbs/y.natAbs+1:Nat):Int)else((x.natAbs/y.natAbs+1:Nat):Int))=x/y/\((y.natAbs-x.natAbs%y.natAbs:Nat):Int)=x%y:=by
 have c:=Ax x.natAbs y.natAbs;have f:=Ar x.natAbs (show y.natAbs>0 by omega);generalize x.natAbs/y.natAbs=Q at *;generalize x.natAbs%y.natAbs=a at *;have g:(y.natAbs:Int)*Q+a=x.natAbs:=by rw[<-c];push_cast;rfl
 obtain⟨i,e⟩:=b;apply Ga d _ Y Y;grind
def EA{W:E}{B:Nat}{t:TypeId}{c d u0 u1:G}(x0 x1 a b:G)(h:Jd W B t c d)(k:Jd W (B+1) t u0 u1):
 Jd ((((W.setCell ⟨B,0,none⟩ x0).setCell ⟨B,1,none⟩ x1).setCell ⟨B+1,0,none⟩ a).setCell ⟨B+1,1,none⟩ b) B t x0 x1/\Jd ((((W.setCell ⟨B,0,none⟩ x0).setCell ⟨B,1,none⟩ x1).setCell ⟨B+1,0,none⟩ a).setCell ⟨B+1,1,none⟩ b) (B+1) t a b:=
 ⟨(((h.set0 x0).set1 x1).far Bq a).far Bq b,(((k.far Bq x0).far Bq x1).set0 a).set1 b⟩
def LX(w:E)(a b c d:G)(p0 p1:G):
 Jd ((((w.alloc (D #[a,b] 25)).alloc (D #[c,d] 25)).alloc (D #[p0,p1] 25)).alloc (D #[p0,p1] 25)) w.heap.size 25 a b/\
 Jd ((((w.alloc (D #[a,b] 25)).alloc (D #[c,d] 25)).alloc (D #[p0,p1] 25)).alloc (D #[p0,p1] 25)) (w.heap.size+1) 25 c d/\
 Jd ((((w.alloc (D #[a,b] 25)).alloc (D #[c,d] 25)).alloc (D #[p0,p1] 25)).alloc (D #[p0,p1] 25)) (w.heap.size+1+1) 25 p0 p1/\
 Jd ((((w.alloc (D #[a,b] 25)).alloc (D #[c,d] 25)).alloc (D #[p0,p1] 25)).alloc (D #[p0,p1] 25)) (w.heap.size+1+1+1) 25 p0 p1:=by
 refine⟨(((Jd.new w _ _ _).alloc _).alloc _).alloc _,?_,?_,?_⟩
 . have h:=((Jd.new (w.alloc (D #[a,b] 25)) 25 c d).alloc (D #[p0,p1] 25)).alloc (D #[p0,p1] 25);rw[BA]at h;exact h
 . have h:=(Jd.new ((w.alloc (D #[a,b] 25)).alloc (D #[c,d] 25)) 25 p0 p1).alloc (D #[p0,p1] 25);rw[BA,BA]at h;exact h
 . have h:=Jd.new (((w.alloc (D #[a,b] 25)).alloc (D #[c,d] 25)).alloc (D #[p0,p1] 25)) 25 p0 p1;rw[BA,BA,BA]at h;exact h
theorem LY(a:MD)(j l:Nat)(b:MD)(lb i X c:Nat)(s t:Bool)(z r:Int)(w:E)(hu:UN w (B a j l) X)(hv:UN w (B b lb i) c)(hY:c≠0)(bc:j<1000000000000)(bd:lb<1000000000000)
(HP:Hid (¬(s=true/\X%c≠0)->(if(!(s==t))=true then -((X/c:Nat):Int)else((X/c:Nat):Int))=z/\((X%c:Nat):Int)=r))
(HN:Hid (s=true/\X%c≠0->(if(!(s==t))=true then -((X/c+1:Nat):Int)else((X/c+1:Nat):Int))=z/\((c-X%c:Nat):Int)=r)):
 H F 49 #[.agg #[C s,B a j l],.agg #[C t,B b lb i]] w λe d=>∃q o,e=.returned (.tuple #[q,o,C true])/\Jg d q z/\Jg d o r/\Bl w d:=by
 obtain⟨b0,A,R,S⟩:=LX w (C s) (B a j l) (C t) (B b lb i) (C false) (B none 0 0);have N:=GZ w (D #[C s,B a j l] 25) (D #[C t,B b lb i] 25) (D #[C false,B none 0 0] 25) (D #[C false,B none 0 0] 25);obtain⟨W0,ad⟩:=ex ((((w.alloc (D #[C s,B a j l] 25)).alloc (D #[C t,B b lb i] 25)).alloc (D #[C false,B none 0 0] 25)).alloc (D #[C false,B none 0 0] 25));rw[ad]at b0 A R S N;have Qh:=Z ad;have bf:lb≠0:=λe=>hY ((Jo Jc).1 (Ad (by rw[<-UN.len hv,e])));have Qn:=UN.below hu N;have Qd:=UN.below hv N;have Qm:=Z (Ey a j l b lb i X c W0 Qn Qd hY Y);have Qw:=Z Qd;have Qq:=Z (UN.len hu).symm;obtain⟨k0,k1⟩:=b0.cp;obtain⟨k2,L⟩:=A.cp;clear ad hu hv Qn Qd;go_enter func49,ntmps49
 go_upto_region 1 with fail
 rw[Qh.o];go_upto_region 4 with(go_at_call 84;refine Qm.o.mono ?_;rintro e w1 ⟨u1,v1,rfl,K,W,x⟩;obtain⟨ua,uc,rfl⟩:=UN.form K;obtain⟨va,vc,rfl⟩:=UN.form W)
 clear Qm Qh;obtain⟨k0,k1⟩:=(b0.below x).cp;obtain⟨k2,L⟩:=(A.below x).cp;have Qg:(Jb O (X%c)).length=0↔X%c=0:=⟨λh=>(Jo Jc).1 (Ad h),λh=>by rw[h,Jn];rfl⟩;have bh:=Ar X (show c>0 by omega);have bg:=J9 (m:=X) (n:=X/c) (Ct _ _);have Qk:(Jb O (X/c)).length<1099511627776:=by
  have f:=(Jj K).2.2.2.1
  have:(Jb O X).length=j:=by
   have h:=Qq.o;omega
  omega
 obtain⟨lr,aq⟩:=ex ((Jb O (X%c)).length);obtain⟨lq,ap⟩:=ex ((Jb O (X/c)).length);rw[aq]at W Qg ⊢;rw[ap]at K Qk ⊢;obtain⟨I,an⟩:=ex ((s&&decide (0<lr)):Bool);have y:=Z an;have Qp:=Z Qg;clear an Qg aq ap;go_cut [29] λv M=>v=C I/\M=w1
 case first=>
  cases s with
  |false=>
   have e5:I=false:=by rw[<-y.o];rfl
   go_wp2_with fail
   go_meet
   grind
  |true=>
   by_cases h5:0<lr
   . have e5:I=true:=by rw[<-y.o];simp;omega
     go_wp2_with fail
     go_meet
     grind
   . have e5:I=false:=by rw[<-y.o];simp;omega
     go_wp2_with fail
     go_meet
     grind
 case rest=>
  obtain⟨rfl,rfl⟩:=hcut;go_upto_if 29 with fail
  go_cut [7,8] λqv rv M=>∃(qa:MD) (ql qc Q:Nat) (oa:MD) (ol oc aa:Nat),qv=B qa ql qc/\rv=B oa ol oc/\Hid (UN M (B qa ql qc) Q)/\Hid (UN M (B oa ol oc) aa)/\Hid ((if(!(s==t))=true then -(Q:Int)else(Q:Int))=z/\(aa:Int)=r)/\Bl W0 M
  case first=>
   cases I with
   |false=>
    have U:¬(s=true/\X%c≠0):=λ⟨f,h2⟩=>by
     have h:=y.o;rw[f]at h;simp at h;exact h2 (Qp.o.1 h)
    go_wp2_with fail
    go_meet
    case rel=>exact⟨_,_,_,_,_,_,_,_,J,J,Z K,Z W,Z (HP.o U),x⟩
   |true=>
    have U:s=true/\X%c≠0:=by
     have h:=y.o;simp at h;exact⟨h.1,λe=>by have:=Qp.o.2 e;omega⟩
    have HC:=Z U;clear U;have Qv:=Z (show ∀V:E,Bl wc V->H F 75 #[B ua lq uc,B (some ⟨V.heap.size,0,none⟩) 1 1] (V.alloc (D #[.int .u64 1] 94)) λe d=>∃u,e=.returned u/\UN d u (X/c+1)/\Below (V.alloc (D #[.int .u64 1] 94)).heap.size (V.alloc (D #[.int .u64 1] 94)) d from λV h=>by
     have Qe:Row .u64 (V.alloc (D #[.int .u64 1] 94)) (B (some ⟨V.heap.size,0,none⟩) 1 1) (Jb O 1):=by
      rw[XG Y uo];exact(Bs.made (xs:=[1]) (BD V (D #[.int .u64 ((1:Nat):Int)] 94))).row 0 1 1 Bq Y Y Y
     exact Fe ua lq uc (some ⟨V.heap.size,0,none⟩) 1 1 (X/c) 1 _ (Row.below (Row.below K h) (Ba V _)) Qe Qk Y)
    have Qz:=Z λ(V:E) (h:Bl wc V)=>Eb b lb i va lr vc c (X%c) V (Row.below (Row.below Qw.o x) h) (Row.below W h) Y;have g:Bl wc wc.drew:=(BC _ wc).drew;have bx:=A.below x;go_wp2_with fail
    have L:=bx.c1;go_region_held3 (λd=>d.cell? ⟨w.heap.size+1,1,none⟩=some (B b lb i)) (first|exact L|(go_keep;done))
     (first
      |(go_at_call 75;refine(Qv.o _ g).mono ?_;rintro e w3 ⟨u3,rfl,aw,az⟩;obtain⟨pa,pc,rfl⟩:=UN.form aw;have g:=GU g az;have L:=(bx.below g).c1)
      |(go_at_call 76;refine(Qz.o _ g).mono ?_;rintro e w4 ⟨u4,rfl,ay,ak⟩;obtain⟨ma,mc,rfl⟩:=UN.form ay;have g:=Bt g ak;have L:=(bx.below g).c1))
    all_goals go_wp2_with fail
    go_meet
    case rel=>exact⟨_,_,_,_,_,_,_,_,J,J,Z (UN.below aw ak),Z ay,Z (HN.o HC.o),Bt x g⟩
  case rest=>
   obtain⟨qa,ql,qc,Q,oa,ol,oc,aa,rfl,rfl,hQ,hR,hZ,T⟩:=hcut;have Qi:=Z (show ∀V:E,Bl wc V->H F 58 #[C (!(s==t)),B qa ql qc] V λe d=>∃u,e=.returned u/\Jg d u z/\Bl V d from λV h=>by
    have f:=Y7 (!(s==t)) _ _ V (UN.below hQ.o h);rw[hZ.o.1]at f;exact f)
   have Qj:=Z (show ∀V:E,Bl wc V->H F 58 #[C false,B oa ol oc] V λe d=>∃u,e=.returned u/\Jg d u r/\Bl V d from λV h=>by
    have f:=Y7 false _ _ V (UN.below hR.o h);simp only[CB,if_false]at f;rw[hZ.o.2]at f;exact f)
   have k0:=(b0.below T).c0;have k2:=(A.below T).c0;go_wp2_with(first
    |(go_at_call 58;refine(Qi.o _ (BC _ _)).mono ?_;clear Qi;rintro e w5 ⟨u5,rfl,ai,ae⟩;obtain⟨P,l5,c5,rfl⟩:=ai.form;obtain⟨s5,ag⟩:=ex (decide (z<0));rw[ag]at ai;rw[ag];clear ag)
    |(go_at_call 58;refine(Qj.o _ ae).mono ?_;clear Qj;rintro e w6 ⟨u6,rfl,aj,am⟩;obtain⟨a6,l6,c6,rfl⟩:=aj.form;obtain⟨s6,ah⟩:=ex (decide (r<0));rw[ah]at aj;rw[ah];clear ah;have k:=(Bt T ae).trans (am.mono (Bt T ae).size);obtain⟨q0,q1⟩:=(R.below k).cp;obtain⟨q2,q3⟩:=(S.below k).cp;obtain⟨f0,f1⟩:=(R.below k).fp;obtain⟨f2,f3⟩:=(S.below k).fp))
   have Qf:=R.below k;have Qo:=S.below k;obtain⟨z4,z5⟩:=EA (C s5) (B P l5 c5) (C s6) (B a6 l6 c6) Qf Qo;obtain⟨Qy,Qx⟩:=z4.cp;obtain⟨Qr,Qu⟩:=z5.cp;have Ql:Jd ((w6.setCell ⟨w.heap.size+1+1,0,none⟩ (C s5)).setCell ⟨w.heap.size+1+1,1,none⟩ (B P l5 c5)) (w.heap.size+1+1+1) 25 (C false) (B none 0 0):=(Qo.far Bq _).far Bq _;have Qs:=((ai.below am).box Qf J J (x0:=C s5) (x1:=B P l5 c5)).box Ql J J (x0:=C s6) (x1:=B a6 l6 c6);have Qt:=(aj.box Qf J J (x0:=C s5) (x1:=B P l5 c5)).box Ql J J (x0:=C s6) (x1:=B a6 l6 c6);have Ua:=Bt N k;exact BB (by simp[results,results49,go_sem,Qy,Qx,Qr,Qu]) J ⟨_,_,J,Qs,Qt,(((Ua.setCell (p:=⟨_,0,none⟩) so _).setCell (p:=⟨_,1,none⟩) so _).setCell (p:=⟨_,0,none⟩) so _).setCell (p:=⟨_,1,none⟩) so _⟩
def LZ(j k:G)(x y:Int)(w:E)(n:Jg w j x)(p:Jg w k y)(i:y≠0)(r:(Jb O x.natAbs).length<1000000000000)(s:(Jb O y.natAbs).length<1000000000000):
 H F 49 #[j,k] w λe d=>∃q o,e=.returned (.tuple #[q,o,C true])/\Jg d q (x/y)/\Jg d o (x%y)/\Bl w d:=by
 obtain⟨a,t,l,rfl,f⟩:=n;obtain⟨b,lb,m,rfl,g⟩:=p;refine LY a t l b lb m x.natAbs y.natAbs _ _ (x/y) (x%y) w f g Y (by rw[UN.len f];exact r) (by rw[UN.len g];exact s) (λc=>Gb i λh=>c ⟨BF h.1,h.2⟩) (λc=>XV i ⟨BV c.1,c.2⟩)
end
open M3
variable{z:Int}{q:Rat}
def La(z:Int):(Y4 z 0=0)↔z=0:=by
 unfold Y4;omega
def Gc(v:G)(z:Int)(w:E)(h:Jg w v z):
 H F 60 #[v] w λe m=>e=.returned (C (decide (z=0)))/\Bl w m:=by
 obtain⟨a,l,c,rfl⟩:=h.form;obtain⟨s,hs⟩:=ex (decide (z<0));rw[hs]at h ⊢;clear hs;have b0:=Jd.new w 25 (C s) (B a l c);have b:Bl w (w.alloc (D #[C s,B a l c] 25)):=Ba w _;obtain⟨W0,d⟩:=ex (w.alloc (D #[C s,B a l c] 25));rw[d]at b0 b;have j:=Z d;have f:=Z (YR _ _ z 0 W0 (h.below b) (C8 _));obtain⟨o,p⟩:=b0.cp;have g:=Z (La z);obtain⟨n,i⟩:=ex (Y4 z 0);rw[i]at f g;clear d i;go_enter func60,ntmps60
 go_upto_region 1 with fail
 rw[j.o];go_wp2_with(go_at_call 39;refine f.o.mono ?_;rintro e q ⟨rfl,k⟩)
 go_ret;refine⟨?_,Bt b k⟩;show Ending.returned (Value.bool (n==0))=_;have e:(n==0)=decide (z=0):=by rw[Cf];simp[g.o]
 rw[e]
def dd(y:Int):Int:=if y=0 then 1 else y
def Gd(v:G)(x y:Int)(w:E)(h:Yz w v x y):
 H F 47 #[v] w λe q=>e=.returned (C (decide (y=0)))/\Bl w q:=by
 obtain⟨s,a,l,c,t,b,k,d,rfl,r,o⟩:=h;have b0:=JK.new w 27 (C s) (B a l c) (C t) (B b k d);have f:Bl w (w.alloc (D #[C s,B a l c,C t,B b k d] 27)):=Ba w _;obtain⟨W0,g⟩:=ex (w.alloc (D #[C s,B a l c,C t,B b k d] 27));rw[g]at b0 f;have m:=Z g;have i:=Z (Gc _ _ W0 (o.below f));have u:=b0.c2;have z:=b0.c3;obtain⟨n,j⟩:=ex (decide (y=0));rw[j]at i ⊢;clear g j;go_enter func47,ntmps47
 go_upto_region 1 with fail
 rw[m.o];go_wp2_with(go_at_call 60;refine i.o.mono ?_;rintro e A ⟨rfl,p⟩)
 go_ret;exact⟨J,Bt f p⟩
def Lb(v:G)(x y:Int)(w:E)(h:Yz w v x y):
 H F 10 #[v] w λe T=>∃u,e=.returned u/\Jg T u (dd y)/\Bl w T:=by
 have L:=h;obtain⟨s,a,l,c,t,b,k,d,rfl,V,M⟩:=h;obtain⟨W0,j⟩:=ex ((w.alloc (D #[C s,B a l c,C t,B b k d] 27)).alloc (D #[C false,B none 0 0] 25));have b0:JK W0 w.heap.size 27 (C s) (B a l c) (C t) (B b k d):=by rw[<-j];exact(JK.new w _ _ _ _ _).alloc _
 have n:Bl w W0:=by rw[<-j];exact Eg w _ _
 have i:Jd W0 (w.heap.size+1) 25 (C false) (B none 0 0):=by
  have h:=Jd.new (w.alloc (D #[C s,B a l c,C t,B b k d] 27)) 25 (C false) (B none 0 0);rw[BA,j]at h;exact h
 have m:=Z (Gd _ x y W0 (L.below n));have K:=Z j;obtain⟨k0,k1,k2,k3⟩:=b0.cq;have U:=Z (M.below n);clear L V M j;by_cases f:y=0
 . rw[BF f]at m;have o:=Z (show dd y=1 by unfold dd;rw[Be f]);clear f;go_enter func10,ntmps10
   go_upto_region 1 with fail
   rw[K.o];go_wp2_with(first
    |(go_at_call 47;refine m.o.mono ?_;rintro e X ⟨rfl,g⟩)
    |(go_at_call 40;refine(Fq 1 Y Y _).mono ?_;rintro e w2 ⟨u2,rfl,A,W⟩;obtain⟨Q,S,R,rfl⟩:=A.form;obtain⟨P,z⟩:=ex (decide ((1:Int)<0));rw[z]at A;rw[z];clear z;have f:=Bt g W;obtain⟨r0,I⟩:=(i.below f).cp;obtain⟨f0,f1⟩:=(i.below f).fp))
   have r:=Bt n f;have q:=A.box (i.below f) J J (x0:=C P) (x1:=B Q S R);exact BB (v:=.agg #[C P,B Q S R]) (by simp[results,results10,go_sem,r0,I]) J ⟨_,J,by rw[o.o];exact q,(r.setCell (p:=⟨_,0,none⟩) so _).setCell (p:=⟨_,1,none⟩) so _⟩
 . rw[BE f]at m;have o:=Z (show y=dd y by unfold dd;rw[Bd f]);clear f;go_enter func10,ntmps10
   go_upto_region 1 with fail
   rw[K.o];go_wp2_with(go_at_call 47;refine m.o.mono ?_;rintro e X ⟨rfl,g⟩;have m2:=(b0.below g).c2;have m3:=(b0.below g).c3;obtain⟨r0,I⟩:=(i.below g).cp;obtain⟨f0,f1⟩:=(i.below g).fp)
   have r:=Bt n g;have N:=U.o.below g;rw[o.o]at N;have q:=N.box (i.below g) J J (x0:=C t) (x1:=B b k d);exact BB (v:=.agg #[C t,B b k d]) (by simp[results,results10,go_sem,r0,I]) J ⟨_,J,q,(r.setCell (p:=⟨_,0,none⟩) so _).setCell (p:=⟨_,1,none⟩) so _⟩
def Lc(q:Rat):dd (CV q)=q.den:=by
 have:=q.den_pos;unfold dd CV;omega
def YN(v:G)(q:Rat)(w:E)(h:Jr w v q):
 H F 47 #[v] w λe b=>e=.returned (C (decide (q.den=1)))/\Bl w b:=by
 have a:=Gd v q.num (CV q) w h.pair;rwa[decide_eq_decide.2 EW]at a
def DW(v:G)(q:Rat)(w:E)(h:Jr w v q):
 H F 10 #[v] w λe a=>∃u,e=.returned u/\Jg a u (q.den:Int)/\Bl w a:=by
 have b:=Lb v q.num (CV q) w h.pair;rwa[Lc]at b
def XH(P Q:G)(x y:Int)(w:E)(i:Jg w P x)(j:Jg w Q y)(N:y≠0)(I:Sok x)(K:Sok y):
 H F 63 #[P,Q] w λe R=>∃u,e=.returned u/\Jg R u (x/y)/\Bl w R:=by
 obtain⟨a,la,ca,rfl⟩:=i.form;obtain⟨b,lb,cb,rfl⟩:=j.form;obtain⟨s,hs⟩:=ex (decide (x<0));obtain⟨t,L⟩:=ex (decide (y<0));rw[hs]at i ⊢;rw[L]at j ⊢;clear hs L;obtain⟨W0,o⟩:=ex (((w.alloc (D #[C s,B a la ca] 25)).alloc (D #[C t,B b lb cb] 25)).alloc (D #[C false,B none 0 0] 25));obtain⟨n,b0,W,X⟩:=Dm o;have S:=Z (LZ _ _ x y W0 (i.below n) (j.below n) N (by have:=I.words;omega) (by have:=K.words;omega));have U:=Z o;obtain⟨k0,k1⟩:=b0.cp;obtain⟨k2,k3⟩:=W.cp;clear i j N I K o;go_enter func63,ntmps63
 go_upto_region 1 with fail
 rw[U.o];go_upto_region 2 with(go_at_call 49;refine S.o.mono ?_;rintro e z ⟨u1,u2,rfl,v,M,A⟩;obtain⟨c,d,c1,rfl⟩:=v.form;obtain⟨f,q⟩:=ex (decide (x/y<0));rw[q]at v;rw[q];clear q;obtain⟨g,k,c2,rfl⟩:=M.form;obtain⟨l,r⟩:=ex (decide (x%y<0));rw[r]at M;rw[r];clear r)
 have bq:=(Jd.new z 25 (C f) (B c d c1)).alloc (D #[C l,B g k c2] 25);have m:=((X.below A).alloc (D #[C f,B c d c1] 25)).alloc (D #[C l,B g k c2] 25);have hu:=(v.alloc (D #[C f,B c d c1] 25)).alloc (D #[C l,B g k c2] 25);have V:Bl w ((z.alloc (D #[C f,B c d c1] 25)).alloc (D #[C l,B g k c2] 25)):=Bt (Bt n A) (Eg z _ _)
 obtain⟨q0,q1⟩:=bq.cp;obtain⟨r0,r1⟩:=m.cp;obtain⟨f0,f1⟩:=m.fp;go_wp2_with fail
 have T:=hu.box m J J (x0:=C f) (x1:=B c d c1);exact BB (by simp[results,results63,go_sem,r0,r1]) J ⟨_,J,T,(V.setCell (p:=⟨_,0,none⟩) so _).setCell (p:=⟨_,1,none⟩) so _⟩
def E0(w:E)(s t:Bool)(a b:MD)(e c lb d:Nat)(x y:Int)(f:Jg w (.agg #[C s,B a e c]) x)(g:Jg w (.agg #[C t,B b lb d]) y):
 Bu w (((w.alloc (D #[C s,B a e c] 25)).alloc (D #[C t,B b lb d] 25)).alloc (D #[C false,B none 0 0,C false,B none 0 0] 27)) [some (w.heap.size,.int x),some (w.heap.size+1,.int y),some (w.heap.size+1+1,.rat 0)]:=by
 have h:=(((Bu.nil w).push (.int x) f).push (.int y) (g.alloc _)).push (.rat 0) (DG _);rw[BA,BA,BA]at h;exact h
def Jr.mk{W:E}{s t:Bool}{a b:MD}{l c k d:Nat}(e:Jg W (.agg #[C s,B a l c]) q.num)(f:Jg W (.agg #[C t,B b k d]) (CV q)):Jr W (.agg #[C s,B a l c,C t,B b k d]) q:=⟨_,_,_,_,_,_,_,_,J,e,f⟩
def E1(T U:G)(q:Rat)(w:E)(l:Jg w T q.num)(j:Jg w U (q.den:Int)):
 H F 64 #[T,U] w λe m=>∃u,e=.returned u/\Jr m u q/\Bl w m:=by
 obtain⟨a,g,d,rfl⟩:=l.form;obtain⟨b,lb,f,rfl⟩:=j.form;obtain⟨s,hs⟩:=ex (decide (q.num<0));obtain⟨t,M⟩:=ex (decide ((q.den:Int)<0));rw[hs]at l ⊢;rw[M]at j ⊢;clear hs M;have x:=E0 w s t a b g d lb f _ _ l j;obtain⟨W0,i⟩:=ex (((w.alloc (D #[C s,B a g d] 25)).alloc (D #[C t,B b lb f] 25)).alloc (D #[C false,B none 0 0,C false,B none 0 0] 27));have b0:Jd W0 w.heap.size 25 (C s) (B a g d):=by rw[<-i];exact((Jd.new w _ _ _).alloc _).alloc _
 have y:Jd W0 (w.heap.size+1) 25 (C t) (B b lb f):=by
  have h:=(Jd.new (w.alloc (D #[C s,B a g d] 25)) 25 (C t) (B b lb f)).alloc (D #[C false,B none 0 0,C false,B none 0 0] 27);rw[BA,i]at h;exact h
 have z:JK W0 (w.heap.size+1+1) 27 (C false) (B none 0 0) (C false) (B none 0 0):=by
  have h:=JK.new ((w.alloc (D #[C s,B a g d] 25)).alloc (D #[C t,B b lb f] 25)) 27 (C false) (B none 0 0) (C false) (B none 0 0);rw[BA,BA,i]at h;exact h
 rw[i]at x;have o:=x.2.2;obtain⟨r,I,X,Qc⟩:=DS (λ(V:E) (u:G) (h:Bl W0 V) (hu:Jg V u 1)=>YR _ u (q.den:Int) 1 V ((j.below o).below h) hu) (l.below o) (j.below o) i;obtain⟨k0,k1⟩:=b0.cp;obtain⟨N,P⟩:=y.cp;have v:=Z (show(Y4 (q.den:Int) 1=0)↔q.den=1 by unfold Y4;split<;>(try split)<;>omega);obtain⟨n,k⟩:=ex (Y4 (q.den:Int) 1);rw[k]at r v;clear l j i k x;go_enter func64,ntmps64
 go_upto_region 1 with fail
 rw[Qc.o];have c:Bl W0 W0.drew:=(BC _ W0).drew;go_region_held3 (λm=>m.cell? ⟨w.heap.size+1,0,none⟩=some (C t)/\m.cell? ⟨w.heap.size+1,1,none⟩=some (B b lb f)) (refine⟨?_,?_⟩<;>(first|(go_keep;done)|((repeat rw[Ju Y]);simp[*];done)))
  (first
   |(go_at_call 40;refine(Fq 1 Y Y _).mono ?_;rintro e w1 ⟨u1,rfl,ae,aa⟩;have c:=Bt c aa;obtain⟨N,P⟩:=(y.below c).cp)
   |(go_at_call 39;refine(r.o _ _ c ae).mono ?_;clear r;rintro e W ⟨rfl,ad⟩;have c:=Bt c ad;obtain⟨k0,k1⟩:=(b0.below c).cp;obtain⟨N,P⟩:=(y.below c).cp;obtain⟨r0,Q,R,S⟩:=(z.below c).cq;obtain⟨f0,f1,f2,f3⟩:=(z.below c).fq))
 have K:=Bt o c;have L:=z.below c;by_cases k:n=0
 . have p:=Z (show CV q=0 from EW.2 (v.o.1 k));subst k;have A:Jr W (.agg #[C s,B a g d,C false,B none 0 0]) q:=Jr.mk (I.o.below c) (by rw[p.o];exact C8 _);go_wp2_with fail
   exact BB (by simp[results,results64,go_sem,r0,Q,R,S]) J ⟨_,J,A.put4 L J J J J _ _ _ _,Jy K Y _ _ _ _⟩
 . have p:=Z (show CV q=q.den by unfold CV;rw[Bd λh=>k (v.o.2 h)]);have A:Jr W (.agg #[C s,B a g d,C t,B b lb f]) q:=Jr.mk (I.o.below c) (by rw[p.o];exact X.o.below c);go_wp2_with fail
   exact BB (by simp[results,results64,go_sem,r0,Q,R,S]) J ⟨_,J,A.put4 L J J J J _ _ _ _,Jy K Y _ _ _ _⟩
def EB{x y:Int}(a:y≠0):(0:Int)<(Int.gcd x y:Nat):=by
 have:=Int.gcd_pos_of_ne_zero_right x a;omega
theorem Ge(va vb:G)(x y:Int)(w:E)(ha:Jg w va x)(A:Jg w vb y)(hy:y≠0)(az:Sok x)(bc:Sok y):
 H F 44 #[va,vb] w λe d=>∃u,e=.returned u/\Jr d u (MG x y)/\Bl w d:=by
 obtain⟨X,HY,l⟩:=C3 az bc hy;clear az bc hy;obtain⟨s,a,la,ca,rfl⟩:=Jg.form2 ha;obtain⟨t,b,lb,cb,rfl⟩:=Jg.form2 A;have M0:=E0 w s t a b la ca lb cb _ _ ha A;obtain⟨W0,ai⟩:=ex (((w.alloc (D #[C s,B a la ca] 25)).alloc (D #[C t,B b lb cb] 25)).alloc (D #[C false,B none 0 0,C false,B none 0 0] 27));have Qp:=Z ai;rw[ai]at M0;have M1:=Z M0;clear M0 ha A ai;go_enter func44,ntmps44
 go_upto_region 1 with fail
 rw[Qp.o];clear Qp;obtain⟨s1,a1,l1,c1,n1,i1⟩:=M1.o.int (i:=0) J;have Qr:=n1.ka;obtain⟨s2,a2,l2,c2,n2,i2⟩:=M1.o.int (i:=1) J;have Qs:=n2.ka;go_upto_region 2 with(go_at_call 38;refine(Ez _ _ x y _ i1 i2 (by have:=X.o.words;omega) (by have:=HY.o.words;omega)).mono ?_;rintro e w1 ⟨u,rfl,q,A⟩;obtain⟨bj,ap,bg,aw,rfl⟩:=Jg.form2 q)
 obtain⟨V3,p⟩:=ex (w1.alloc (D #[C bj,B ap bg aw] 25));obtain⟨g,ah⟩:=ex (w1.heap.size);have n:Bu w (w1.alloc (D #[C bj,B ap bg aw] 25)) [some (w.heap.size,.int x),some (w.heap.size+1,.int y),some (w.heap.size+1+1,.rat 0),some (w1.heap.size,.int (((Int.gcd x y:Nat):Int)))]:=Bu.push (M1.o.below A) (.int (((Int.gcd x y:Nat):Int))) q;rw[p,ah]at n;rw[p];rw[ah];have r:=Z (n);clear M1;clear n p ah;clear n1 Qr i1 n2 Qs i2 q A;have W:=Z (Sok.gcd X.o HY.o);by_cases hn:y<0
 . have P:=Z hn;clear hn;obtain⟨s4,a4,l4,c4,n4,i4⟩:=r.o.int (i:=1) J;have Qt:=n4.ka;have m:=Z (YR _ _ y 0 V3 i4 (C8 _));rw[show Y4 y 0=-1 from by unfold Y4;rw[Be P.o]]at m;go_upto_region 3 with(go_at_call 39;refine m.o.mono ?_;rintro e I ⟨rfl,T⟩)
   have f:=Z (r.o.below T);clear r;clear n4 Qt i4 m T;obtain⟨s5,a5,l5,c5,n5,i5⟩:=f.o.int (i:=3) J;have Qq:=n5.ka;go_upto_region 4 with(go_at_call 65;refine(Kq _ _ 0 (((Int.gcd x y:Nat):Int)) _ (C8 _) i5 (by have:=Sok.zero.words;omega) (by have:=W.o.words;omega)).mono ?_;rintro e w6 ⟨u6,rfl,an,aa⟩;obtain⟨bk,aq,bh,ay,rfl⟩:=Jg.form2 an;have Qq:=(n5.below aa).ka;have Qv:=(n5.below aa).fa)
   obtain⟨R,p⟩:=ex ((w6.setCell ⟨g,0,none⟩ (C bk)).setCell ⟨g,1,none⟩ (B aq bh ay));have n:Bu w ((w6.setCell ⟨g,0,none⟩ (C bk)).setCell ⟨g,1,none⟩ (B aq bh ay)) [some (w.heap.size,.int x),some (w.heap.size+1,.int y),some (w.heap.size+1+1,.rat 0),some (g,.int (0-((Int.gcd x y:Nat):Int)))]:=Bu.putInt (f.o.below aa) (i:=3) J an;rw[p]at n;rw[p];have z:=Z (n);clear f;clear n p;clear n5 Qq i5 an aa;clear Qv;obtain⟨Q,N,Qo⟩:=C3 (show(0-((Int.gcd x y:Nat):Int))≠0 by have:=EB (x:=x) l.o;omega) (show(0-((Int.gcd x y:Nat):Int))=(if y<0 then -((Int.gcd x y:Nat):Int)else((Int.gcd x y:Nat):Int))by rw[Be P.o];omega) (show Sok (0-((Int.gcd x y:Nat):Int))by rw[Int.zero_sub];exact W.o.neg);obtain⟨s7,a7,l7,c7,n7,i7⟩:=z.o.int (i:=0) J;have Qm:=n7.ka;obtain⟨s8,a8,l8,c8,n8,i8⟩:=z.o.int (i:=1) J;have Ql:=n8.ka;obtain⟨s9,a9,l9,c9,n9,i9⟩:=z.o.int (i:=3) J;have Qn:=n9.ka;obtain⟨f6,dj,er,dx,f9,b10,ek,e7,j,r10,ed,eh⟩:=z.o.rat (i:=2) J;have Qa:=j.kb;have Qe:=j.fb;obtain⟨K,L,M⟩:=C3 (λ(V:E) (h:Bl R V)=>XH _ _ x ((0-((Int.gcd x y:Nat):Int))) V (i7.below h) (i9.below h) Q.o X.o Qo.o) (λ(V:E) (h:Bl R V)=>XH _ _ y ((0-((Int.gcd x y:Nat):Int))) V (i8.below h) (i9.below h) Q.o HY.o Qo.o) λ(V:E) (u v:G) (q:Jg V u (x/(0-((Int.gcd x y:Nat):Int)))) (hv:Jg V v (y/(0-((Int.gcd x y:Nat):Int))))=>E1 u v (MG x y) V (by rw[YU l.o,<-N.o];exact q) (by rw[YV l.o,<-N.o];exact hv);have Qu:=z.o.ne 3 2 J J Bz;have c:Bl R R.drew:=(BC _ R).drew;go_region_held3 (λd=>(d.cell? ⟨w.heap.size,0,none⟩=some (C s7)/\d.cell? ⟨w.heap.size,1,none⟩=some (B a7 l7 c7))/\(d.cell? ⟨w.heap.size+1,0,none⟩=some (C s8)/\d.cell? ⟨w.heap.size+1,1,none⟩=some (B a8 l8 c8))/\d.cell? ⟨g,0,none⟩=some (C s9)/\d.cell? ⟨g,1,none⟩=some (B a9 l9 c9)) (first|grind|(go_keep;done)|grind[Ju])
    (first
     |(go_at_call 63;refine(K.o _ c).mono ?_;clear K;rintro e w2 ⟨u2,rfl,o,aj⟩;have c:=Bt c aj;have Qm:=(n7.below c).ka;have Ql:=(n8.below c).ka;have Qn:=(n9.below c).ka;have Qa:=(j.below c).kb;have Qe:=(j.below c).fb)
     |(go_at_call 63;refine(L.o _ c).mono ?_;clear L;rintro e w3 ⟨u3,rfl,am,S⟩;have o:=o.below S;have c:=Bt c S;have Qm:=(n7.below c).ka;have Ql:=(n8.below c).ka;have Qn:=(n9.below c).ka;have Qa:=(j.below c).kb;have Qe:=(j.below c).fb)
     |(go_at_call 64;refine(M.o _ _ _ o am).mono ?_;clear M;rintro e w4 ⟨u4,rfl,U,ak⟩;obtain⟨dh,bt,d8,ci,di,bu,co,cj,rfl⟩:=Jr.form U;have c:=Bt c ak;have Qm:=(n7.below c).ka;have Ql:=(n8.below c).ka;have Qn:=(n9.below c).ka;have Qa:=(j.below c).kb;have Qe:=(j.below c).fb))
   all_goals go_wp2_with fail
   have Qk:=Bt z.o.2.2 c;exact BB (by simp[results,results44,go_sem,Qa]) J ⟨_,J,U.put4 (j.below c) J J J J _ _ _ _,Jy Qk Y _ _ _ _⟩
 . have P:=Z hn;clear hn;obtain⟨f7,dt,et,dz,bi,bd⟩:=r.o.int (i:=1) J;have Qj:=bi.ka;have m:=Z (YR _ _ y 0 V3 bd (C8 _));rw[show Y4 y 0=1 from by have h1:=P.o;have h2:=l.o;unfold Y4;omega]at m;go_upto_region 4 with(go_at_call 39;refine m.o.mono ?_;rintro e I ⟨rfl,T⟩)
   have f:=Z (r.o.below T);clear r;clear bi Qj bd m T;have Q:=Z (show((Int.gcd x y:Nat):Int)≠0 by have:=EB (x:=x) l.o;omega);have N:=Z (show((Int.gcd x y:Nat):Int)=(if y<0 then -((Int.gcd x y:Nat):Int)else((Int.gcd x y:Nat):Int))by rw[Bd (by have:=P.o;omega)]);obtain⟨d9,bm,cw,bz,ad,ck⟩:=f.o.int (i:=0) J;have Qc:=ad.ka;obtain⟨de,bn,cy,ce,ae,cn⟩:=f.o.int (i:=1) J;have Qf:=ae.ka;obtain⟨dg,bp,cz,cg,ag,bf⟩:=f.o.int (i:=3) J;have Qh:=ag.ka;obtain⟨f8,du,ew,e6,fc,dw,en,eb,k,f5,ef,ei⟩:=f.o.rat (i:=2) J;have Qb:=k.kb;have Qg:=k.fb;obtain⟨K,L,M⟩:=C3 (λ(V:E) (h:Bl I V)=>XH _ _ x (((Int.gcd x y:Nat):Int)) V (ck.below h) (bf.below h) Q.o X.o W.o) (λ(V:E) (h:Bl I V)=>XH _ _ y (((Int.gcd x y:Nat):Int)) V (cn.below h) (bf.below h) Q.o HY.o W.o) λ(V:E) (u v:G) (q:Jg V u (x/((Int.gcd x y:Nat):Int))) (hv:Jg V v (y/((Int.gcd x y:Nat):Int)))=>E1 u v (MG x y) V (by rw[YU l.o,<-N.o];exact q) (by rw[YV l.o,<-N.o];exact hv);have Qu:=f.o.ne 3 2 J J Bz;have c:Bl I I.drew:=(BC _ I).drew;go_region_held3 (λd=>(d.cell? ⟨w.heap.size,0,none⟩=some (C d9)/\d.cell? ⟨w.heap.size,1,none⟩=some (B bm cw bz))/\(d.cell? ⟨w.heap.size+1,0,none⟩=some (C de)/\d.cell? ⟨w.heap.size+1,1,none⟩=some (B bn cy ce))/\d.cell? ⟨g,0,none⟩=some (C dg)/\d.cell? ⟨g,1,none⟩=some (B bp cz cg)) (first|grind|(go_keep;done)|grind[Ju])
    (first
     |(go_at_call 63;refine(K.o _ c).mono ?_;clear K;rintro e w2 ⟨u2,rfl,o,aj⟩;have c:=Bt c aj;have Qc:=(ad.below c).ka;have Qf:=(ae.below c).ka;have Qh:=(ag.below c).ka;have Qb:=(k.below c).kb;have Qg:=(k.below c).fb)
     |(go_at_call 63;refine(L.o _ c).mono ?_;clear L;rintro e w3 ⟨u3,rfl,am,S⟩;have o:=o.below S;have c:=Bt c S;have Qc:=(ad.below c).ka;have Qf:=(ae.below c).ka;have Qh:=(ag.below c).ka;have Qb:=(k.below c).kb;have Qg:=(k.below c).fb)
     |(go_at_call 64;refine(M.o _ _ _ o am).mono ?_;clear M;rintro e w4 ⟨u4,rfl,U,ak⟩;obtain⟨dh,bt,d8,ci,di,bu,co,cj,rfl⟩:=Jr.form U;have c:=Bt c ak;have Qc:=(ad.below c).ka;have Qf:=(ae.below c).ka;have Qh:=(ag.below c).ka;have Qb:=(k.below c).kb;have Qg:=(k.below c).fb))
   all_goals go_wp2_with fail
   have Qk:=Bt f.o.2.2 c;exact BB (by simp[results,results44,go_sem,Qb]) J ⟨_,J,U.put4 (k.below c) J J J J _ _ _ _,Jy Qk Y _ _ _ _⟩
def Ld(w:E)(s t m n:Bool)(a b e f:MD)(l c k d j c' i g:Nat)(p q:Rat)(hp:Jr w (.agg #[C s,B a l c,C t,B b k d]) p)(o:Jr w (.agg #[C m,B e j c',C n,B f i g]) q):
 Bu w (((w.alloc (D #[C s,B a l c,C t,B b k d] 27)).alloc (D #[C m,B e j c',C n,B f i g] 27)).alloc (D #[C false,B none 0 0,C false,B none 0 0] 27)) [some (w.heap.size,.rat p),some (w.heap.size+1,.rat q),some (w.heap.size+1+1,.rat 0)]:=by
 have h:=(((Bu.nil w).push (.rat p) hp).push (.rat q) (o.below (Ba w _))).push (.rat 0) (DG _);rw[BA,BA,BA]at h;exact h
def Le(w:E)(s t m n:Bool)(a b e f:MD)(l c k d j c' i g:Nat)(p q:Rat)(hp:Jr w (.agg #[C s,B a l c,C t,B b k d]) p)(o:Jr w (.agg #[C m,B e j c',C n,B f i g]) q):
 Bu w ((w.alloc (D #[C s,B a l c,C t,B b k d] 27)).alloc (D #[C m,B e j c',C n,B f i g] 27)) [some (w.heap.size,.rat p),some (w.heap.size+1,.rat q)]:=by
 have h:=((Bu.nil w).push (.rat p) hp).push (.rat q) (o.below (Ba w _));rw[BA]at h;exact h
def Gf(h:q.den=1):q=(q.num:Rat):=Rat.ext J h
def Lf{p:Rat}(hp:p.den=1)(a:q.den=1):(p*q).num=p.num*q.num/\(p*q).den=1:=by
 have h:p*q=((p.num*q.num:Int):Rat):=by rw[Rat.intCast_mul,<-Gf hp,<-Gf a]
 rw[h];exact⟨J,J⟩
def Lg(p q:Rat)(hp:Sq p)(e:Sq q)(a b x y:Int)(c:((Int.gcd p.num (q.den:Int):Nat):Int)=a)(d:((Int.gcd q.num (p.den:Int):Nat):Int)=b)(f:p.num/a=x)(g:q.num/b=y):
 Sok a/\a≠0/\Sok b/\b≠0/\Sok x/\Sok y/\(p*q).num=x*y/\((p*q).den:Int)=p.den/b*(q.den/a):=by
 have hl:=Hu p q a b c.symm d.symm;have j:a≠0:=by rw[<-c];have:=EB (x:=p.num) (y:=q.den) (by have:=q.den_nz;omega);omega
 have i:b≠0:=by rw[<-d];have:=EB (x:=q.num) (y:=p.den) (by have:=p.den_nz;omega);omega
 refine⟨by rw[<-c];exact hp.num.gcd e.den,j,by rw[<-d];exact e.num.gcd hp.den,i,by rw[<-f];exact hp.num.div,by rw[<-g];exact e.num.div,?_,hl.2⟩;rw[hl.1,f,g]
theorem Lh(va vb:G)(p q:Rat)(w:E)(ha:Jr w va p)(hb:Jr w vb q)(bc:Sq p)(bd:Sq q):
 H F 29 #[va,vb] w λe m=>∃u,e=.returned u/\Jr m u (p*q)/\Bl w m:=by
 obtain⟨s,a,l,c,t,b,k,d,rfl⟩:=Jr.form ha;obtain⟨s',a',l',c',t',b',k',d',rfl⟩:=Jr.form hb;have M0:=Ld w s t s' t' a b a' b' l c k d l' c' k' d' p q ha hb;obtain⟨W0,an⟩:=ex (((w.alloc (D #[C s,B a l c,C t,B b k d] 27)).alloc (D #[C s',B a' l' c',C t',B b' k' d'] 27)).alloc (D #[C false,B none 0 0,C false,B none 0 0] 27));have Ql:=Z an;rw[an]at M0;obtain⟨M1,P,Q⟩:=C3 M0 bc bd;clear M0 ha hb an bc bd;go_enter func29,ntmps29
 go_upto_region 1 with fail
 rw[Ql.o];clear Ql;obtain⟨bb,ay⟩:=ex (decide (p.den=1/\q.den=1):Bool);have Qh:=Z ay;clear ay;go_cut [13] λc m=>c=C bb/\Hid (Bu w m [some (w.heap.size,.rat p),some (w.heap.size+1,.rat q),some (w.heap.size+1+1,.rat 0)])
 case first=>
  obtain⟨s1,a1,l1,c1,t1,b1,k1,d1,n1,r1,i1,j1⟩:=M1.o.rat (i:=0) J;have Qr:=n1.kb;obtain⟨s2,a2,l2,c2,t2,b2,k2,d2,n2,r2,i2,j2⟩:=M1.o.rat (i:=1) J;have Qs:=n2.kb;have H1:=Z (YN _ p W0 r1);have H2:=Z λ(V:E) (h:Bl W0 V)=>YN _ q V (r2.below h);by_cases N:p.den=1
  . rw[BF N]at H1;obtain⟨b2,T⟩:=ex (decide (q.den=1));rw[T]at H2;have Qj:=Z (show b2=bb by rw[<-T,<-Qh.o];exact decide_eq_decide.2 ⟨λh=>⟨N,h⟩,λh=>h.2⟩);clear T N;go_wp2_with(first
     |(go_at_call 47;refine H1.o.mono ?_;clear H1;rintro e w1 ⟨rfl,ae⟩;have Qr:=(n1.below ae).kb;have Qs:=(n2.below ae).kb)
     |(go_at_call 47;refine(H2.o _ ae).mono ?_;clear H2;rintro e w2 ⟨rfl,T⟩))
    go_meet
    case rel=>exact⟨by rw[Qj.o],Z ((M1.o.below ae).below T)⟩
  . rw[BE N]at H1;have Qj:=Z (show bb=false by rw[<-Qh.o];exact BE λh=>N h.1);clear N;go_wp2_with(go_at_call 47;refine H1.o.mono ?_;clear H1;rintro e w1 ⟨rfl,ae⟩)
    go_meet
    case rel=>exact⟨by rw[Qj.o],Z (M1.o.below ae)⟩
 obtain⟨rfl,o⟩:=hcut;have M2:=o;clear M1 o;cases bb with
 |true=>
  have Qi:=BV Qh.o;have HW:=Z (Lf Qi.1 Qi.2);clear Qi Qh;obtain⟨s3,a3,l3,c3,t3,b3,k3,d3,n3,r3,i3,j3⟩:=M2.o.rat (i:=0) J;have e6:=n3.kb;obtain⟨s4,a4,l4,c4,t4,b4,k4,d4,n4,r4,i4,j4⟩:=M2.o.rat (i:=1) J;have e7:=n4.kb;obtain⟨s5,a5,l5,c5,t5,b5,k5,d5,n5,r5,i5,j5⟩:=M2.o.rat (i:=2) J;have Qp:=n5.kb;have Qt:=n5.fb;go_wp2_with(go_at_call 51;refine(XC _ _ p.num q.num _ i3 i4 (by have N:=P.o.num.words;have h2:=Q.o.num.words;omega)).mono ?_;rintro e w1 ⟨u,rfl,hu,g⟩;obtain⟨fs,ed,fg,en,rfl⟩:=Jg.form2 hu;have Qp:=(n5.below g).kb;have Qt:=(n5.below g).fb)
  have hr:=Jr.mk (by rw[HW.o.1];exact hu) (by rw[EW.2 HW.o.2];exact C8 _);have Qk:=Bt M2.o.2.2 g;exact BB (by simp[results,results29,go_sem,Qp]) J ⟨_,J,hr.put4 (n5.below g) J J J J _ _ _ _,Jy Qk Y _ _ _ _⟩
 |false=>
  clear Qh;obtain⟨A,az⟩:=ex (((Int.gcd p.num (q.den:Int):Nat):Int):Int);have Qm:=Z az;clear az;obtain⟨I,bf⟩:=ex (((Int.gcd q.num (p.den:Int):Nat):Int):Int);have Qn:=Z bf;clear bf;obtain⟨x,hx⟩:=ex (p.num/A:Int);have HX:=Z hx;clear hx;obtain⟨y,hy⟩:=ex (q.num/I:Int);have HY:=Z hy;clear hy;obtain⟨S1,S2,S3,S4,S5,S6,S7,S8⟩:=Lg p q P.o Q.o A I x y Qm.o Qn.o HX.o HY.o;obtain⟨T1,T2,T3,T4,T5,T6,T7,T8⟩:=FY S1 S2 S3 S4 S5 S6 S7 S8;clear S1 S2 S3 S4 S5 S6 S7 S8;go_upto_region 3 with fail
  refine GI DM [[],[0],[],[2],[1,3,3],[],[5],[],[7,4],[6,8,8],[],[],[10,4,9,0,1,2,3,4,10,11],[11,9,12,0,1,2,3,4,5,6,7,8,9,10,11,12]] [.eq (.pointer (some ⟨w.heap.size,0,none⟩)),.int (Rat.num (p)),.rat q,.int ((q.den:Int)),.int A,.eq (.pointer (some ⟨w.heap.size+1,0,none⟩)),.int (Rat.num (q)),.rat p,.int ((p.den:Int)),.int I,.ptr,.ptr,.eq undef,.eq undef] [10,11,12,13] (λb v V=>Bu w V [some (w.heap.size,.rat p),some (w.heap.size+1,.rat q),some (w.heap.size+1+1,.rat 0),nb b v 0 2 (.int 0) (.int A),nb b v 1 3 (.int 0) (.int I)]) ((M2.o.none).none).drew (SB (.vl J λ_ _=>⟨_,by refine DV ?_;go_simp,J⟩)<|SB (.vl J λh j=>D8 0 j (hp:=h.e 0))<|SB (.vl J λ_ j=>GJ 1 j)<|SB (.cl λh _=>DW _ q _ (h.g 2))<|SB (.cl λh _=>(by have h:=Ez _ _ p.num (q.den:Int) _ (h.g 1) (h.g 3) (by have:=P.o.num.words;omega) (by have:=Q.o.den.words;omega);rw[Qm.o]at h;exact h))<|SB (.vl J λ_ _=>⟨_,by refine DV ?_;go_simp,J⟩)<|SB (.vl J λh j=>D8 1 j (hp:=h.e 5))<|SB (.vl J λ_ j=>GJ 0 j)<|SB (.cl λh _=>DW _ p _ (h.g 7))<|SB (.cl λh _=>(by have h:=Ez _ _ q.num (p.den:Int) _ (h.g 6) (h.g 8) (by have:=Q.o.num.words;omega) (by have:=P.o.den.words;omega);rw[Qn.o]at h;exact h))<|SB (.wr J λ_ j=>Ew 3 j)<|SB (.wr J λ_ j=>Ew 4 j)<|SB (.wr J λh j=>Ev 3 j (h.g 4) (hp:=h.g 10))<|SB (.wr J λh j=>Ev 4 j (h.g 9) (hp:=h.g 11)) Stp.end_)
   λf V7 hF o=>?_
  refine DV ?_;rw[hF.e 0,hF.e 5];obtain⟨B8,ak⟩:=hF.p 10;obtain⟨B9,am⟩:=hF.p 11;have o:=GL o;simp only[ak,am]at o;rw[ak,am];have M3:=Z o;clear o hF ak am;clear M2;go_upto_region 4 with fail
  refine GI DM [[],[0],[],[1,2],[],[4],[],[5,6,3],[3,7,7],[],[9,8,8,0,1,2,3,4,5,6,7,8,9]] [.eq (.pointer (some ⟨w.heap.size,0,none⟩)),.int (Rat.num (p)),.int A,.int x,.eq (.pointer (some ⟨w.heap.size+1,0,none⟩)),.int (Rat.num (q)),.int I,.int y,.int (x*y),.ptr,.eq undef] [9,10] (λb v V=>Bu w V [some (w.heap.size,.rat p),some (w.heap.size+1,.rat q),some (w.heap.size+1+1,.rat 0),some (B8,.int A),some (B9,.int I),nb b v 0 1 (.int 0) (.int (x*y))]) (M3.o.none).drew (SB (.vl J λ_ _=>⟨_,by refine DV ?_;go_simp,J⟩)<|SB (.vl J λh j=>D8 0 j (hp:=h.e 0))<|SB (.vl J λ_ j=>GK 3 j)<|SB (.cl λh _=>(by have h:=XH _ _ p.num A _ (h.g 1) (h.g 2) T2.o P.o.num T1.o;rw[HX.o]at h;exact h))<|SB (.vl J λ_ _=>⟨_,by refine DV ?_;go_simp,J⟩)<|SB (.vl J λh j=>D8 1 j (hp:=h.e 4))<|SB (.vl J λ_ j=>GK 4 j)<|SB (.cl λh _=>(by have h:=XH _ _ q.num I _ (h.g 5) (h.g 6) T4.o Q.o.num T3.o;rw[HY.o]at h;exact h))<|SB (.cl λh _=>XC _ _ x y _ (h.g 3) (h.g 7) (by have:=T5.o.words;have:=T6.o.words;omega))<|SB (.wr J λ_ j=>Ew 5 j)<|SB (.wr J λh j=>Ev 5 j (h.g 8) (hp:=h.g 9)) Stp.end_)
   λf L hF o=>?_
  refine DV ?_;rw[hF.e 0,hF.e 4];obtain⟨B12,aj⟩:=hF.p 9;have o:=GL o;simp only[aj]at o;rw[aj];have r:=Z o;clear o hF aj;clear M3;go_upto_region 5 with fail
  obtain⟨di,bg,cy,bp,U,cj⟩:=r.o.int (i:=5) J;have Qb:=U.ka;obtain⟨dj,bh,cz,bt,dx,bm,co,cg,W,dg,f5,f8⟩:=r.o.rat (i:=0) J;have Qf:=W.kb;obtain⟨dt,bi,d8,bu,X,ck⟩:=r.o.int (i:=4) J;have Qd:=X.ka;obtain⟨du,bj,d9,bz,dz,bn,cw,ci,aa,dh,f6,f9⟩:=r.o.rat (i:=1) J;have Qc:=aa.kb;obtain⟨dw,bk,de,ce,ad,cn⟩:=r.o.int (i:=3) J;have Qe:=ad.ka;obtain⟨fr,eb,ff,ek,fu,eh,fd,et,n,fo,f7,fc⟩:=r.o.rat (i:=2) J;have R:=n.kb;have Qg:=n.fb;obtain⟨H2,H4,H6,H8,H9,Qo⟩:=Hz (λ(V:E) (h:Bl L V)=>DW _ p V (dg.below h)) (λ(V:E) (h:Bl L V) (v2:G) (z:Jg V v2 ((p.den:Int)))=>XH _ _ (p.den:Int) I V z (ck.below h) T4.o P.o.den T3.o) (λ(V:E) (h:Bl L V)=>DW _ q V (dh.below h)) (λ(V:E) (h:Bl L V) (v6:G) (M:Jg V v6 ((q.den:Int)))=>XH _ _ (q.den:Int) A V M (cn.below h) T2.o Q.o.den T1.o) (λ(V:E) (h:Bl L V) (v4:G) (K:Jg V v4 ((p.den:Int)/I)) (v8:G) (S:Jg V v8 ((q.den:Int)/A))=>XC _ _ ((p.den:Int)/I) ((q.den:Int)/A) V K S (by have N:=(Sok.div (y:=I) P.o.den).words;have h2:=(Sok.div (y:=A) Q.o.den).words;omega)) λ(V:E) (h:Bl L V) (v9:G) (g9:Jg V v9 ((p.den:Int)/I*((q.den:Int)/A)))=>E1 _ _ (p*q) V (by rw[T7.o];exact(cj.below h)) (by rw[T8.o];exact g9);have fm:=r.o.ne 5 2 J J Bz;have fi:=r.o.ne 0 2 J J Bz;have fl:=r.o.ne 4 2 J J Bz;have fj:=r.o.ne 1 2 J J Bz;have fk:=r.o.ne 3 2 J J Bz;have g:Bl L L.drew:=(BC _ L).drew;go_region_held3 (λm=>(m.cell? ⟨B12,0,none⟩=some (C di)/\m.cell? ⟨B12,1,none⟩=some (B bg cy bp))/\(m.cell? ⟨w.heap.size,0,none⟩=some (C dj)/\m.cell? ⟨w.heap.size,1,none⟩=some (B bh cz bt)/\m.cell? ⟨w.heap.size,2,none⟩=some (C dx)/\m.cell? ⟨w.heap.size,3,none⟩=some (B bm co cg))/\(m.cell? ⟨B9,0,none⟩=some (C dt)/\m.cell? ⟨B9,1,none⟩=some (B bi d8 bu))/\(m.cell? ⟨w.heap.size+1,0,none⟩=some (C du)/\m.cell? ⟨w.heap.size+1,1,none⟩=some (B bj d9 bz)/\m.cell? ⟨w.heap.size+1,2,none⟩=some (C dz)/\m.cell? ⟨w.heap.size+1,3,none⟩=some (B bn cw ci))/\m.cell? ⟨B8,0,none⟩=some (C dw)/\m.cell? ⟨B8,1,none⟩=some (B bk de ce)) (first|grind|(go_keep;done)|((repeat' apply Cr)<;>((repeat rw[Ju Y]);grind)))
   (first
    |(go_at_call 10;refine(H2.o _ g ).mono ?_;clear H2;rintro e w2 ⟨v2,rfl,z,T⟩;have g:=Bt g T;have Qb:=(U.below g).ka;have Qf:=(W.below g).kb;have Qd:=(X.below g).ka;have Qc:=(aa.below g).kb;have Qe:=(ad.below g).ka;have R:=(n.below g).kb;have Qg:=(n.below g).fb)
    |(go_at_call 63;refine(H4.o _ g _ z).mono ?_;clear H4;rintro e w4 ⟨v4,rfl,K,aw⟩;have z:=z.below aw;have g:=Bt g aw;have Qb:=(U.below g).ka;have Qf:=(W.below g).kb;have Qd:=(X.below g).ka;have Qc:=(aa.below g).kb;have Qe:=(ad.below g).ka;have R:=(n.below g).kb;have Qg:=(n.below g).fb)
    |(go_at_call 10;refine(H6.o _ g ).mono ?_;clear H6;rintro e w6 ⟨v6,rfl,M,ap⟩;have z:=z.below ap;have K:=K.below ap;have g:=Bt g ap;have Qb:=(U.below g).ka;have Qf:=(W.below g).kb;have Qd:=(X.below g).ka;have Qc:=(aa.below g).kb;have Qe:=(ad.below g).ka;have R:=(n.below g).kb;have Qg:=(n.below g).fb)
    |(go_at_call 63;refine(H8.o _ g _ M).mono ?_;clear H8;rintro e w8 ⟨v8,rfl,S,ai⟩;have z:=z.below ai;have K:=K.below ai;have M:=M.below ai;have g:=Bt g ai;have Qb:=(U.below g).ka;have Qf:=(W.below g).kb;have Qd:=(X.below g).ka;have Qc:=(aa.below g).kb;have Qe:=(ad.below g).ka;have R:=(n.below g).kb;have Qg:=(n.below g).fb)
    |(go_at_call 51;refine(H9.o _ g _ K _ S).mono ?_;clear H9;rintro e w9 ⟨v9,rfl,g9,ah⟩;have z:=z.below ah;have K:=K.below ah;have M:=M.below ah;have S:=S.below ah;have g:=Bt g ah;have Qb:=(U.below g).ka;have Qf:=(W.below g).kb;have Qd:=(X.below g).ka;have Qc:=(aa.below g).kb;have Qe:=(ad.below g).ka;have R:=(n.below g).kb;have Qg:=(n.below g).fb)
    |(go_at_call 64;refine(Qo.o _ g _ g9).mono ?_;clear Qo;rintro e fx ⟨fw,rfl,aq,ag⟩;obtain⟨ft,ef,fh,er,fv,ei,fe,ew,rfl⟩:=Jr.form aq;have z:=z.below ag;have K:=K.below ag;have M:=M.below ag;have S:=S.below ag;have g9:=g9.below ag;have g:=Bt g ag;have Qb:=(U.below g).ka;have Qf:=(W.below g).kb;have Qd:=(X.below g).ka;have Qc:=(aa.below g).kb;have Qe:=(ad.below g).ka;have R:=(n.below g).kb;have Qg:=(n.below g).fb))
  all_goals go_wp2_with fail
  have Qk:=Bt r.o.2.2 g;have Qq:=r.o.ge 2 J;exact BB (by simp[results,results29,go_sem,R]) J ⟨_,J,aq.put4 (n.below g) J J J J _ _ _ _,Jy Qk Qq _ _ _ _⟩
def Li(T U:G)(x y:Int)(w:E)(v:Jg w T x)(z:Jg w U y)(L:Sok x)(M:Sok y):
 H F 22 #[T,U] w λe W=>∃u,e=.returned (.tuple #[u,C (decide (y≠0))])/\Jr W u (MG x y)/\Bl w W:=by
 have HX:=Z L;have HY:=Z M;clear L M;obtain⟨s,a,Q,I,rfl⟩:=Jg.form2 v;obtain⟨t,b,lb,K,rfl⟩:=Jg.form2 z;have n:=E0 w s t a b Q I lb K _ _ v z;obtain⟨W0,r⟩:=ex (((w.alloc (D #[C s,B a Q I] 25)).alloc (D #[C t,B b lb K] 25)).alloc (D #[C false,B none 0 0,C false,B none 0 0] 27));have A:=Z r;rw[r]at n;have g:=Z n;clear n v z r;obtain⟨s1,a1,l1,c1,R,i1⟩:=g.o.int (i:=0) J;have Qf:=R.ka;obtain⟨s2,a2,l2,c2,S,P⟩:=g.o.int (i:=1) J;have Qg:=S.ka;obtain⟨s3,a3,l3,c3,t3,b3,k3,d3,f,r3,i3,j3⟩:=g.o.rat (i:=2) J;have k:=f.kb;have o:=f.fb;have l:=Z (Gc _ y W0 P);have j:=Z λ(V:E) (h:Bl W0 V) (d:y≠0)=>Ge _ _ x y V (i1.below h) (P.below h) d HX.o HY.o;by_cases d:y=0
 . rw[BF d]at l;have m:=Z (BE (p:=y≠0) λh=>h d);rw[m.o];have HE:=Z (show MG x y=0 by rw[d,Rat.divInt_zero]);clear d j;go_enter func22,ntmps22
   go_upto_region 1 with fail
   rw[A.o];go_wp2_with(go_at_call 60;refine l.o.mono ?_;rintro e X ⟨rfl,c⟩;have k:=(f.below c).kb;have o:=(f.below c).fb)
   have hr:Jr X (.agg #[C false,B none 0 0,C false,B none 0 0]) (MG x y):=by rw[HE.o];exact DG _
   have q:=Bt g.o.2.2 c;exact BB (by simp[results,results22,go_sem,k]) J ⟨_,J,hr.put4 (f.below c) J J J J _ _ _ _,Jy q Y _ _ _ _⟩
 . rw[BE d]at l;have m:=Z (BF (p:=y≠0) d);rw[m.o];have j:=Z λV h=>j.o V h d;clear d;go_enter func22,ntmps22
   go_upto_region 1 with fail
   rw[A.o];go_wp2_with(first
    |(go_at_call 60;refine l.o.mono ?_;rintro e X ⟨rfl,c⟩;have Qf:=(R.below c).ka;have Qg:=(S.below c).ka;have k:=(f.below c).kb;have o:=(f.below c).fb)
    |(go_at_call 44;refine(j.o _ c).mono ?_;clear j;rintro e w2 ⟨u2,rfl,N,aa⟩;obtain⟨ak,ad,aj,ag,am,ae,ai,ah,rfl⟩:=Jr.form N;have c:=Bt c aa;have k:=(f.below c).kb;have o:=(f.below c).fb))
   have q:=Bt g.o.2.2 c;have Qe:=g.o.ge 2 J;exact BB (by simp[results,results22,go_sem,k]) J ⟨_,J,N.put4 (f.below c) J J J J _ _ _ _,Jy q Qe _ _ _ _⟩
def EC(p q:Rat):Int:=Y4 (p.num*q.den) (q.num*p.den)
theorem Lj(va vb:G)(p q:Rat)(w:E)(ha:Jr w va p)(hb:Jr w vb q)(ag:Sq p)(ah:Sq q):
 H F 34 #[va,vb] w λe g=>e=.returned (.int .i64 (EC p q))/\Bl w g:=by
 obtain⟨s,a,l,c,t,b,k,d,rfl⟩:=Jr.form ha;obtain⟨s',a',l',c',t',b',k',d',rfl⟩:=Jr.form hb;have T:=Le w s t s' t' a b a' b' l c k d l' c' k' d' p q ha hb;obtain⟨W0,X⟩:=ex ((w.alloc (D #[C s,B a l c,C t,B b k d] 27)).alloc (D #[C s',B a' l' c',C t',B b' k' d'] 27));have Qf:=Z X;rw[X]at T;have A:=Z T;obtain⟨n,hn⟩:=ex (EC p q);have HN:=Z hn;rw[hn];have HP:=Z ag;have HQ:=Z ah;clear T ha hb X ag ah hn;go_enter func34,ntmps34
 go_upto_region 1 with fail
 rw[Qf.o];clear Qf;obtain⟨Q,ae⟩:=ex (decide (p.den=1/\q.den=1):Bool);have L:=Z ae;clear ae;go_cut [10] λc g=>c=C Q/\Hid (Bu w g [some (w.heap.size,.rat p),some (w.heap.size+1,.rat q)])
 case first=>
  obtain⟨s1,a1,l1,c1,t1,b1,k1,d1,n1,r1,i1,j1⟩:=A.o.rat (i:=0) J;have Qh:=n1.kb;obtain⟨s2,a2,l2,c2,t2,b2,k2,d2,n2,r2,i2,j2⟩:=A.o.rat (i:=1) J;have Qi:=n2.kb;have m:=Z (YN _ p W0 r1);have S:=Z λ(V:E) (h:Bl W0 V)=>YN _ q V (r2.below h);by_cases v:p.den=1
  . rw[BF v]at m;obtain⟨b2,P⟩:=ex (decide (q.den=1));rw[P]at S;have W:=Z (show b2=Q by rw[<-P,<-L.o];grind);clear P v;go_wp2_with(first
     |(go_at_call 47;refine m.o.mono ?_;clear m;rintro e w1 ⟨rfl,x⟩;have Qh:=(n1.below x).kb;have Qi:=(n2.below x).kb)
     |(go_at_call 47;refine(S.o _ x).mono ?_;clear S;rintro e w2 ⟨rfl,P⟩))
    go_meet
    case rel=>exact⟨by rw[W.o],Z ((A.o.below x).below P)⟩
  . rw[BE v]at m;have W:=Z (show Q=false by rw[<-L.o];grind);clear v;go_wp2_with(go_at_call 47;refine m.o.mono ?_;clear m;rintro e w1 ⟨rfl,x⟩)
    go_meet
    case rel=>exact⟨by rw[W.o],Z (A.o.below x)⟩
 obtain⟨rfl,MM⟩:=hcut;have u:=MM;clear A MM;cases Q with
 |true=>
  have U:=BV L.o;have HE:=Z (show Y4 p.num q.num=n by rw[<-HN.o];unfold EC;rw[U.1,U.2];simp);clear U L;obtain⟨s3,a3,l3,c3,t3,b3,k3,d3,n3,r3,i3,j3⟩:=u.o.rat (i:=0) J;have aj:=n3.kb;obtain⟨s4,a4,l4,c4,t4,b4,k4,d4,n4,r4,i4,j4⟩:=u.o.rat (i:=1) J;have ak:=n4.kb;have m:=Z (YR _ _ p.num q.num wc i3 i4);rw[HE.o]at m;go_wp2_with(go_at_call 39;refine m.o.mono ?_;clear m;rintro e w1 ⟨rfl,f⟩)
  go_ret;exact⟨J,Bt u.o.2.2 f⟩
 |false=>
  clear L;go_upto_region 3 with fail
  obtain⟨s5,a5,l5,c5,t5,b5,k5,d5,y,r5,i5,j5⟩:=u.o.rat (i:=0) J;have K:=y.kb;obtain⟨s6,a6,l6,c6,t6,b6,k6,d6,z,r6,i6,j6⟩:=u.o.rat (i:=1) J;have I:=z.kb;obtain⟨H3,H4,H8,H9,Qg⟩:=Du (λ(V:E) (h:Bl wc V)=>DW _ q V (r6.below h)) (λ(V:E) (h:Bl wc V) (v3:G) (j:Jg V v3 ((q.den:Int)))=>XC _ _ p.num (q.den:Int) V (i5.below h) j (by have v:=HP.o.num.words;have h2:=HQ.o.den.words;omega)) (λ(V:E) (h:Bl wc V)=>DW _ p V (r5.below h)) (λ(V:E) (h:Bl wc V) (v8:G) (r:Jg V v8 ((p.den:Int)))=>XC _ _ q.num (p.den:Int) V (i6.below h) r (by have v:=HQ.o.num.words;have h2:=HP.o.den.words;omega)) λ(V:E) (h:Bl wc V) (v4:G) (o:Jg V v4 (p.num*(q.den:Int))) (v9:G) (M:Jg V v9 (q.num*(p.den:Int)))=>(by have h:=YR _ _ (p.num*(q.den:Int)) (q.num*(p.den:Int)) V o M;rw[show Y4 (p.num*(q.den:Int)) (q.num*(p.den:Int))=n from HN.o]at h;exact h);have f:Bl wc wc.drew:=(BC _ wc).drew;go_region_held3 (λg=>(g.cell? ⟨w.heap.size,0,none⟩=some (C s5)/\g.cell? ⟨w.heap.size,1,none⟩=some (B a5 l5 c5)/\g.cell? ⟨w.heap.size,2,none⟩=some (C t5)/\g.cell? ⟨w.heap.size,3,none⟩=some (B b5 k5 d5))/\g.cell? ⟨w.heap.size+1,0,none⟩=some (C s6)/\g.cell? ⟨w.heap.size+1,1,none⟩=some (B a6 l6 c6)/\g.cell? ⟨w.heap.size+1,2,none⟩=some (C t6)/\g.cell? ⟨w.heap.size+1,3,none⟩=some (B b6 k6 d6)) (first|grind|(go_keep;done)|((repeat' apply Cr)<;>((repeat rw[Ju Y]);first|(simp only[*];done)|(go_keep;done))))
   (first
    |(go_at_call 10;refine(H3.o _ f ).mono ?_;clear H3;rintro e w3 ⟨v3,rfl,j,ai⟩;have f:=Bt f ai;have K:=(y.below f).kb;have I:=(z.below f).kb)
    |(go_at_call 51;refine(H4.o _ f _ j).mono ?_;clear H4;rintro e w4 ⟨v4,rfl,o,ad⟩;have j:=j.below ad;have f:=Bt f ad;have K:=(y.below f).kb;have I:=(z.below f).kb)
    |(go_at_call 10;refine(H8.o _ f ).mono ?_;clear H8;rintro e w8 ⟨v8,rfl,r,aa⟩;have j:=j.below aa;have o:=o.below aa;have f:=Bt f aa;have K:=(y.below f).kb;have I:=(z.below f).kb)
    |(go_at_call 51;refine(H9.o _ f _ r).mono ?_;clear H9;rintro e w9 ⟨v9,rfl,M,R⟩;have j:=j.below R;have o:=o.below R;have r:=r.below R;have f:=Bt f R;have K:=(y.below f).kb;have I:=(z.below f).kb)
    |(go_at_call 39;refine(Qg.o _ f _ o _ M).mono ?_;clear Qg;rintro e am ⟨rfl,N⟩;have j:=j.below N;have o:=o.below N;have r:=r.below N;have M:=M.below N;have f:=Bt f N;have K:=(y.below f).kb;have I:=(z.below f).kb))
  all_goals go_wp2_with fail
  go_ret;exact⟨J,Bt u.o.2.2 f⟩
def YK(q:Rat):List UInt8:=if q.den=1 then Ya q.num else Ya q.num++47::Ya (q.den:Int)
theorem Lk(a b:List UInt8):(⟨a.toArray⟩:ByteArray)++⟨b.toArray⟩=⟨(a++b).toArray⟩:=by
 apply CI;simp
theorem Ll(z:Int):(Ya z).length<=20*(Jb O z.natAbs).length+2:=by
 grind[F8,Ya]
theorem XP(h:Sok z):(⟨(Ya z).toArray⟩:ByteArray).size<=400000000000:=by
 have a:=Ll z;have b:=h.words;show(Ya z).toArray.size<=_;grind
theorem Gg(a b:List UInt8):(⟨a.toArray⟩:ByteArray)++⟨#[47]⟩++⟨b.toArray⟩=⟨(a++47::b).toArray⟩:=by
 grind[Lk]
theorem Gh:Ya z=[49]↔z=1:=by
 have a:Ya (JX [49])=[49]:=EO Bz;have b:JX [49]=1:=Bz
 grind[G3]
theorem Dg(va:G)(q:Rat)(w:E)(g:Jr w va q)(s:Sq q)(ad:Lib.TabIs F w "internal/strconv.uint64pow10" .u64 Lib.pow10Tab):
 H F 11 #[va] w λe j=>e=.returned (.string ⟨(YK q).toArray⟩)/\Bl w j:=by
 obtain⟨m,L⟩:∃S:ByteArray,⟨(Ya q.num).toArray⟩=S:=⟨_,J⟩;have aq:m.size<=400000000000:=by rw[<-L];exact XP s.num
 have r:=Z L;clear L;obtain⟨K,M⟩:∃S:ByteArray,⟨(Ya (q.den:Int)).toArray⟩=S:=⟨_,J⟩;have aw:K.size<=400000000000:=by rw[<-M];exact XP s.den
 have W:=Z M;clear M;have x:=Z ad;clear ad;by_cases d:q.den=1
 . have u:=Z d;have v:=Z (show(⟨(YK q).toArray⟩:ByteArray)=m by rw[<-r.o];unfold YK;rw[Be d]);rw[v.o];clear d;obtain⟨an,ae,am,ah,ap,ag,ak,ai,rfl⟩:=Jr.form g;obtain⟨W0,l,c⟩:=DQ 27 (.rat q) g;clear g s;go_enter func11,ntmps11
   go_upto_region 1 with fail
   rw[l.o];clear l;obtain⟨s1,a1,l1,c1,t1,b1,k1,d1,o,t,P,j1⟩:=c.o.rat (i:=0) J;obtain⟨I,y,z,A⟩:=o.cq;have b:=Z (YN _ q W0 t);rw[BF u.o]at b;have f:=Z λ(V:E) (h:Bl W0 V)=>Eo _ q.num V (P.below h) (JM x.o (Bt c.o.2.2 h));rw[r.o]at f;go_wp2_with(first
    |(go_at_call 47;refine b.o.mono ?_;clear b;rintro e k ⟨rfl,a⟩;obtain⟨I,y,z,A⟩:=(o.below a).cq)
    |(go_at_call 13;refine(f.o _ a).mono ?_;clear f;rintro e w2 ⟨rfl,N⟩;have a:=Bt a N))
   go_ret;exact⟨J,Bt c.o.2.2 a⟩
 . have u:=Z d;have v:=Z (show(⟨(YK q).toArray⟩:ByteArray)=m++⟨#[47]⟩++K by rw[<-r.o,<-W.o,Gg];unfold YK;rw[Bd d]);rw[v.o];have HZ:=Z (show CV q=q.den by unfold CV;rw[Bd d]);clear d;have y1:¬9223372036854775807<m.size+1:=Y
   have y2:¬9223372036854775807<m.size+1+K.size:=Y
   obtain⟨an,ae,am,ah,ap,ag,ak,ai,rfl⟩:=Jr.form g;obtain⟨W0,l,c⟩:=DQ 27 (.rat q) g;clear g s;go_enter func11,ntmps11
   go_upto_region 1 with fail
   rw[l.o];clear l;obtain⟨s1,a1,l1,c1,t1,b1,k1,d1,o,t,P,j1⟩:=c.o.rat (i:=0) J;obtain⟨I,y,z,A⟩:=o.cq;have b:=Z (YN _ q W0 t);rw[BE u.o]at b;go_upto_region 3 with(go_at_call 47;refine b.o.mono ?_;clear b;rintro e k ⟨rfl,aa⟩)
   have p:=Z (c.o.below aa);clear c;clear o I y z A P t j1 aa;obtain⟨s2,a2,l2,c2,t2,b2,k2,d2,Q,r2,i2,j2⟩:=p.o.rat (i:=0) J;obtain⟨T,U,Qj,X⟩:=Q.cq;have f:=Z λ(V:E) (h:Bl k V)=>(by have n:=Eo _ q.num V (i2.below h) (JM x.o (Bt p.o.2.2 h));rw[r.o]at n;exact n);have R:=Z λ(V:E) (h:Bl k V)=>(by have h0:=(j2.below h);rw[HZ.o]at h0;have n:=Eo _ (q.den:Int) V h0 (JM x.o (Bt p.o.2.2 h));rw[W.o]at n;exact n);have a:Bl k k.drew:=(BC _ k).drew;go_region_held3 (λj=>j.cell? ⟨w.heap.size,0,none⟩=some (C s2)/\j.cell? ⟨w.heap.size,1,none⟩=some (B a2 l2 c2)/\j.cell? ⟨w.heap.size,2,none⟩=some (C t2)/\j.cell? ⟨w.heap.size,3,none⟩=some (B b2 k2 d2)) (first|grind|(go_keep;done)|(refine⟨?_,?_,?_,?_⟩<;>((repeat rw[Ju Y]);first|assumption|(go_keep;done))))
    (first
     |(go_at_call 13;refine(f.o _ a ).mono ?_;clear f;rintro e w2 ⟨rfl,N⟩;have a:=Bt a N;obtain⟨T,U,Qj,X⟩:=(Q.below a).cq)
     |(go_at_call 13;refine(R.o _ a ).mono ?_;clear R;rintro e w6 ⟨rfl,aj⟩;have a:=Bt a aj;obtain⟨T,U,Qj,X⟩:=(Q.below a).cq))
   all_goals go_wp2_with fail
   go_ret;exact⟨J,Bt p.o.2.2 a⟩
theorem Lm(L:G)(q:Rat)(w:E)(f:JZ w L q)(r:Sq q):
 H F 12 #[L] w λe w'=>e=.returned (.string ⟨(YK q).toArray⟩)/\Bl w w':=by
 obtain⟨y,z⟩:∃S:ByteArray,⟨(Ya q.num).toArray⟩=S:=⟨_,J⟩;have ah:y.size<=400000000000:=by rw[<-z];exact XP r.num
 have p:=Z z;clear z;obtain⟨l,d⟩:∃S:ByteArray,⟨(Ya (q.den:Int)).toArray⟩=S:=⟨_,J⟩;have ai:l.size<=400000000000:=by rw[<-d];exact XP r.den
 have k:=Z d;clear d;have o:=Z r;clear r;by_cases m:q.den=1
 . have s:=Z (show(⟨(YK q).toArray⟩:ByteArray)=y by rw[<-p.o];unfold YK;rw[Be m]);rw[s.o];have d:l=⟨#[49]⟩:=by rw[<-k.o,m,show Ya ((1:Nat):Int)=[49]from Gh.2 J]
   subst d;clear m;obtain⟨N,aa,R,ad,Q,W,T,ae,rfl⟩:=JZ.form f;obtain⟨W0,g,j⟩:=DQ 34 (.ref q) f;clear f;go_enter func12,ntmps12
   go_upto_region 1 with fail
   rw[g.o];clear g;obtain⟨M,X,c1,s1,P,U,d1,t1,n,r1,I,K⟩:=j.o.ref (i:=0) J;obtain⟨x,t,u,v⟩:=n.cq;have b:=Z (Dp _ q.num W0 I (by have:=o.o.num.size;omega));rw[p.o]at b;have c:=Z λ(V:E) (h:Bl W0 V)=>Dp _ (q.den:Int) V (K.below h) (by have:=o.o.den.size;omega);rw[k.o]at c;go_wp2_with(first
    |(go_at_call 14;refine b.o.mono ?_;clear b;rintro e w1 ⟨rfl,a⟩;obtain⟨x,t,u,v⟩:=(n.below a).cq)
    |(go_at_call 14;refine(c.o _ a).mono ?_;clear c;rintro e w2 ⟨rfl,A⟩;have a:=Bt a A))
   go_ret;exact⟨J,Bt j.o.2.2 a⟩
 . have s:=Z (show(⟨(YK q).toArray⟩:ByteArray)=y++⟨#[47]⟩++l by rw[<-p.o,<-k.o,Gg];unfold YK;rw[Bd m]);rw[s.o];have d:¬l=⟨#[49]⟩:=by
    intro h;rw[<-k.o]at h;grind[Gh]
   have ag:(l.toList == [49])=false:=by
    rw[BS];intro h;rw[ByteArray.toList_eq]at h;exact d (CI B5)
   clear m;obtain⟨N,aa,R,ad,Q,W,T,ae,rfl⟩:=JZ.form f;obtain⟨W0,g,j⟩:=DQ 34 (.ref q) f;clear f;go_enter func12,ntmps12
   go_upto_region 1 with fail
   rw[g.o];clear g;obtain⟨M,X,c1,s1,P,U,d1,t1,n,r1,I,K⟩:=j.o.ref (i:=0) J;obtain⟨x,t,u,v⟩:=n.cq;have b:=Z (Dp _ q.num W0 I (by have:=o.o.num.size;omega));rw[p.o]at b;have c:=Z λ(V:E) (h:Bl W0 V)=>Dp _ (q.den:Int) V (K.below h) (by have:=o.o.den.size;omega);rw[k.o]at c;go_wp2_with(first
    |(go_at_call 14;refine b.o.mono ?_;clear b;rintro e w1 ⟨rfl,a⟩;obtain⟨x,t,u,v⟩:=(n.below a).cq)
    |(go_at_call 14;refine(c.o _ a).mono ?_;clear c;rintro e w2 ⟨rfl,A⟩;have a:=Bt a A))
   go_ret;exact⟨J,Bt j.o.2.2 a⟩

