import Derived.Test.YtcahejkcdcjjgaaGreatDoorQ22
import Derived.Test.YtcahejkcdcjjgaaGreatDoorQ24
set_option linter.all false
open Go.Value renaming slice->C,bool->B,pointer->I,agg->M
open Go.Obj renaming cells->E
open Go renaming World->G,Value->D,Calls->F,undef->L
open Go.Proofs.Tryz renaming prog->H
set_option maxRecDepth 99999
set_option maxHeartbeats 0
namespace Go.Proofs.YtcahejkcdcjjgaaGreatDoor
open Rat renaming divInt->TU
open Proofs.Tryz
open Go.RowKit Go.Shelf
attribute [local go_sem] Oper.semAt_some
section
variable{x y:Int}
def Fr(Q R:D)(x y:Int)(w:G)(ha:Jg w Q x)(hb:Jg w R y)(z:(Jb Y x.natAbs).length<1000000000000)(A:(Jb Y y.natAbs).length<1000000000000):
 F H 83 #[Q,R] w λe d=>∃u,e=.returned u/\Jg d u (Int.gcd x y:Nat)/\Bl w d:=by
 obtain⟨a,P,r,i,c⟩:=ha;cases i;obtain⟨b,lb,v,i,n⟩:=hb;cases i;have o:=c.len;have q:=n.len;obtain⟨s,hs⟩:=ex (decide (x<0));obtain⟨t,K⟩:=ex (decide (y<0));rw[hs,K];obtain⟨W0,k⟩:=ex (((w.alloc (E #[B s,C a P r] 36)).alloc (E #[B t,C b lb v] 36)).alloc (E #[B false,C none 0 0] 36));obtain⟨j,b0,b1,g⟩:=F9 k;have T:=Z (Px a P r b lb v _ _ W0 (UN.below c j) (UN.below n j) (by rw[o];exact z) (by rw[q];exact A));have S:=Z λ(V:G) (u:D) (c:UN V u (Nat.gcd x.natAbs y.natAbs))=>show F H 112 #[B false,u] V λe d=>∃u,e=.returned u/\Jg d u (Int.gcd x y:Nat)/\Bl V d from XW false u _ V c;have k1:=b0.c1;have k3:=b1.c1;have W:=Z k;clear c n hs K o q z A k;go_enter func83,ntmps83
 go_upto_region 1 with fail
 rw[W.o];have ah:¬(w.heap.size=w.heap.size+1+1):=O
 go_wp2_with(first
  |(go_at_call 116;refine T.o.mono ?_;rintro e w1 ⟨u1,rfl,N,ad⟩;obtain⟨na,nc,rfl⟩:=UN.form N)
  |(go_at_call 112;refine(S.o _ _ N).mono ?_;rintro e w2 ⟨u2,rfl,m,ae⟩;obtain⟨sa,sl,sc,rfl⟩:=m.form;obtain⟨s2,l⟩:=ex (decide (((Int.gcd x y:Nat):Int)<0));rw[l]at m;rw[l];clear l;have f:=Bt ad ae;obtain⟨r0,r1⟩:=(g.below f).cp;obtain⟨f0,f1⟩:=(g.below f).fp))
 have X:=Bt j f;have U:=m.box (g.below f) J J (x0:=B s2) (x1:=C sa sl sc);exact BA (by simp[results,results83,go_sem,r0,r1]) J ⟨_,J,U,(X.setCell (p:=⟨_,0,none⟩) so _).setCell (p:=⟨_,1,none⟩) so _⟩
def Lr(w:G)(a b c d:Obj):Bl w ((((w.alloc a).alloc b).alloc c).alloc d):=
 (((Ba w _).alloc sp _).alloc si _).alloc si _
theorem Ls{z r:Int}(d:y≠0)(h:r+y*z=x)(c:0<=r)(e:r<y.natAbs):z=x/y/\r=x%y:=by
 rcases Int.lt_or_gt_of_ne d with g|hp
 . have f:=(Int.ediv_emod_unique (a:=x) (b:=-y) (r:=r) (q:=-z) O).2 ⟨DO,c,O⟩;grind[Int.ediv_neg,Int.emod_neg]
 grind[Int.ediv_emod_unique]
theorem Lt(b:y≠0)(c:¬(x<0/\x.natAbs%y.natAbs≠0)):
 (if(!(decide (x<0)==decide (y<0)))=true then -((x.natAbs/y.natAbs:Nat):Int)else((x.natAbs/y.natAbs:Nat):Int))=x/y/\((x.natAbs%y.natAbs:Nat):Int)=x%y:=by
 have a:=AO x.natAbs y.natAbs;have d:=AK x.natAbs (show y.natAbs>0 by omega);generalize x.natAbs/y.natAbs=Q at *;generalize x.natAbs%y.natAbs=R at *;have e:(y.natAbs:Int)*Q+R=x.natAbs:=by rw[<-a];push_cast;rfl
 apply Ls b _ O O;grind
theorem Lu(c:y≠0)(a:x<0/\x.natAbs%y.natAbs≠0):
 (if(!(decide (x<0)==decide (y<0)))=true then -((x.natAbs/y.natAbs+1:Nat):Int)else((x.natAbs/y.natAbs+1:Nat):Int))=x/y/\((y.natAbs-x.natAbs%y.natAbs:Nat):Int)=x%y:=by
 have b:=AO x.natAbs y.natAbs;have e:=AK x.natAbs (show y.natAbs>0 by omega);generalize x.natAbs/y.natAbs=Q at *;generalize x.natAbs%y.natAbs=R at *;have f:(y.natAbs:Int)*Q+R=x.natAbs:=by rw[<-b];push_cast;rfl
 obtain⟨g,d⟩:=a;apply Ls c _ O O;grind
def GY{W:G}{B:Nat}{t:TypeId}{c d u0 u1:D}(x0 x1 a b:D)(h:Jf W B t c d)(k:Jf W (B+1) t u0 u1):
 Jf ((((W.setCell ⟨B,0,none⟩ x0).setCell ⟨B,1,none⟩ x1).setCell ⟨B+1,0,none⟩ a).setCell ⟨B+1,1,none⟩ b) B t x0 x1/\Jf ((((W.setCell ⟨B,0,none⟩ x0).setCell ⟨B,1,none⟩ x1).setCell ⟨B+1,0,none⟩ a).setCell ⟨B+1,1,none⟩ b) (B+1) t a b:=
 ⟨(((h.set0 x0).set1 x1).far sp a).far sp b,(((k.far sp x0).far sp x1).set0 a).set1 b⟩
def QU(w:G)(a b c d:D)(p0 p1:D):
 Jf ((((w.alloc (E #[a,b] 36)).alloc (E #[c,d] 36)).alloc (E #[p0,p1] 36)).alloc (E #[p0,p1] 36)) w.heap.size 36 a b/\
 Jf ((((w.alloc (E #[a,b] 36)).alloc (E #[c,d] 36)).alloc (E #[p0,p1] 36)).alloc (E #[p0,p1] 36)) (w.heap.size+1) 36 c d/\
 Jf ((((w.alloc (E #[a,b] 36)).alloc (E #[c,d] 36)).alloc (E #[p0,p1] 36)).alloc (E #[p0,p1] 36)) (w.heap.size+1+1) 36 p0 p1/\
 Jf ((((w.alloc (E #[a,b] 36)).alloc (E #[c,d] 36)).alloc (E #[p0,p1] 36)).alloc (E #[p0,p1] 36)) (w.heap.size+1+1+1) 36 p0 p1:=by
 refine⟨(((Jf.new w _ _ _).alloc _).alloc _).alloc _,?_,?_,?_⟩
 . have h:=((Jf.new (w.alloc (E #[a,b] 36)) 36 c d).alloc (E #[p0,p1] 36)).alloc (E #[p0,p1] 36);rw[A1]at h;exact h
 . have h:=(Jf.new ((w.alloc (E #[a,b] 36)).alloc (E #[c,d] 36)) 36 p0 p1).alloc (E #[p0,p1] 36);rw[A1,A1]at h;exact h
 . have h:=Jf.new (((w.alloc (E #[a,b] 36)).alloc (E #[c,d] 36)).alloc (E #[p0,p1] 36)) 36 p0 p1;rw[A1,A1,A1]at h;exact h
theorem QV(a:TR)(j l:Nat)(b:TR)(lb i X c:Nat)(s t:Bool)(z r:Int)(w:G)(hu:UN w (C a j l) X)(hv:UN w (C b lb i) c)(hY:c≠0)(bi:j<1000000000000)(bj:lb<1000000000000)
(HP:Hid (¬(s=true/\X%c≠0)->(if(!(s==t))=true then -((X/c:Nat):Int)else((X/c:Nat):Int))=z/\((X%c:Nat):Int)=r))
(HN:Hid (s=true/\X%c≠0->(if(!(s==t))=true then -((X/c+1:Nat):Int)else((X/c+1:Nat):Int))=z/\((c-X%c:Nat):Int)=r)):
 F H 117 #[M #[B s,C a j l],M #[B t,C b lb i]] w λe d=>∃q o,e=.returned (.tuple #[q,o,B true])/\Jg d q z/\Jg d o r/\Bl w d:=by
 obtain⟨b0,A,W,b5⟩:=QU w (B s) (C a j l) (B t) (C b lb i) (B false) (C none 0 0);have T:=Lr w (E #[B s,C a j l] 36) (E #[B t,C b lb i] 36) (E #[B false,C none 0 0] 36) (E #[B false,C none 0 0] 36);obtain⟨W0,ah⟩:=ex ((((w.alloc (E #[B s,C a j l] 36)).alloc (E #[B t,C b lb i] 36)).alloc (E #[B false,C none 0 0] 36)).alloc (E #[B false,C none 0 0] 36));rw[ah]at b0 A W b5 T;have Qh:=Z ah;have bk:lb≠0:=λe=>hY ((Jt Jc).1 (Ag (by rw[<-UN.len hv,e])));have Qn:=UN.below hu T;have Qd:=UN.below hv T;have Qm:=Z (IZ a j l b lb i X c W0 Qn Qd hY O);have Qw:=Z Qd;have Qq:=Z (UN.len hu).symm;obtain⟨k0,k1⟩:=b0.cp;obtain⟨k2,P⟩:=A.cp;clear ah hu hv Qn Qd;go_enter func117,ntmps117
 go_upto_region 1 with fail
 rw[Qh.o];go_upto_region 4 with(go_at_call 151;refine Qm.o.mono ?_;rintro e w1 ⟨u1,v1,rfl,N,ae,x⟩;obtain⟨ua,uc,rfl⟩:=UN.form N;obtain⟨va,vc,rfl⟩:=UN.form ae)
 clear Qm Qh;obtain⟨k0,k1⟩:=(b0.below x).cp;obtain⟨k2,P⟩:=(A.below x).cp;have Qg:(Jb Y (X%c)).length=0↔X%c=0:=⟨λh=>(Jt Jc).1 (Ag h),λh=>by rw[h,Js];rfl⟩;have bn:=AK X (show c>0 by omega);have bm:=Yr (m:=X) (n:=X/c) (CF _ _);have Qk:(Jb Y (X/c)).length<1099511627776:=by
  have f:=(Jm N).2.2.2.1
  have:(Jb Y X).length=j:=by
   have h:=Qq.o;omega
  omega
 obtain⟨lr,bd⟩:=ex ((Jb Y (X%c)).length);obtain⟨lq,bc⟩:=ex ((Jb Y (X/c)).length);rw[bd]at ae Qg ⊢;rw[bc]at N Qk ⊢;obtain⟨K,az⟩:=ex ((s&&decide (0<lr)):Bool);have y:=Z az;have Qp:=Z Qg;clear az Qg bd bc;go_cut [29] λv S=>v=B K/\S=w1
 case first=>
  cases s with
  |false=>
   have e5:K=false:=by rw[<-y.o];rfl
   go_wp2_with fail
   go_meet
   grind
  |true=>
   by_cases h5:0<lr
   . have e5:K=true:=by rw[<-y.o];simp;omega
     go_wp2_with fail
     go_meet
     grind
   . have e5:K=false:=by rw[<-y.o];simp;omega
     go_wp2_with fail
     go_meet
     grind
 case rest=>
  obtain⟨rfl,rfl⟩:=hcut;go_upto_if 29 with fail
  go_cut [7,8] λqv rv S=>∃(qa:TR) (ql qc Q:Nat) (oa:TR) (ol oc R:Nat),qv=C qa ql qc/\rv=C oa ol oc/\Hid (UN S (C qa ql qc) Q)/\Hid (UN S (C oa ol oc) R)/\Hid ((if(!(s==t))=true then -(Q:Int)else(Q:Int))=z/\(R:Int)=r)/\Bl W0 S
  case first=>
   cases K with
   |false=>
    have hc:¬(s=true/\X%c≠0):=λ⟨f,h2⟩=>by
     have h:=y.o;rw[f]at h;simp at h;exact h2 (Qp.o.1 h)
    go_wp2_with fail
    go_meet
    case rel=>exact⟨_,_,_,_,_,_,_,_,J,J,Z N,Z ae,Z (HP.o hc),x⟩
   |true=>
    have hc:s=true/\X%c≠0:=by
     have h:=y.o;simp at h;exact⟨h.1,λe=>by have:=Qp.o.2 e;omega⟩
    have HC:=Z hc;clear hc;have Qv:=Z (show ∀V:G,Bl wc V->F H 113 #[C ua lq uc,C (some ⟨V.heap.size,0,none⟩) 1 1] (V.alloc (E #[.int .u64 1] 163)) λe d=>∃u,e=.returned u/\UN d u (X/c+1)/\Below (V.alloc (E #[.int .u64 1] 163)).heap.size (V.alloc (E #[.int .u64 1] 163)) d from λV h=>by
     have Qe:Row .u64 (V.alloc (E #[.int .u64 1] 163)) (C (some ⟨V.heap.size,0,none⟩) 1 1) (Jb Y 1):=by
      rw[Ia O uo];exact(DG.made (xs:=[1]) (BD V (E #[.int .u64 ((1:Nat):Int)] 163))).row 0 1 1 sp O O O
     exact Kw ua lq uc (some ⟨V.heap.size,0,none⟩) 1 1 (X/c) 1 _ (Row.below (Row.below N h) (Ba V _)) Qe Qk O)
    have Qz:=Z λ(V:G) (h:Bl wc V)=>ID b lb i va lr vc c (X%c) V (Row.below (Row.below Qw.o x) h) (Row.below ae h) O;have g:Bl wc wc.drew:=(BB _ wc).drew;have bx:=A.below x;have lx:=bx.lt;go_wp2_with fail
    have P:=bx.c1;go_region_held3 (λd=>d.cell? ⟨w.heap.size+1,1,none⟩=some (C b lb i)) (first|exact P|(go_keep;done))
     (first
      |(go_at_call 113;refine(Qv.o _ g).mono ?_;rintro e w3 ⟨u3,rfl,bf,bh⟩;obtain⟨pa,pc,rfl⟩:=UN.form bf;have g:=LY g bh;have P:=(bx.below g).c1)
      |(go_at_call 115;refine(Qz.o _ g).mono ?_;rintro e w4 ⟨u4,rfl,bg,aq⟩;obtain⟨ma,mc,rfl⟩:=UN.form bg;have g:=Bt g aq;have P:=(bx.below g).c1))
    all_goals go_wp2_with fail
    go_meet
    case rel=>exact⟨_,_,_,_,_,_,_,_,J,J,Z (UN.below bf aq),Z bg,Z (HN.o HC.o),Bt x g⟩
  case rest=>
   obtain⟨qa,ql,qc,Q,oa,ol,oc,R,rfl,rfl,hQ,hR,hZ,ad⟩:=hcut;have Qi:=Z (show ∀V:G,Bl wc V->F H 112 #[B (!(s==t)),C qa ql qc] V λe d=>∃u,e=.returned u/\Jg d u z/\Bl V d from λV h=>by
    have f:=XW (!(s==t)) _ _ V (UN.below hQ.o h);rw[hZ.o.1]at f;exact f)
   have Qj:=Z (show ∀V:G,Bl wc V->F H 112 #[B false,C oa ol oc] V λe d=>∃u,e=.returned u/\Jg d u r/\Bl V d from λV h=>by
    have f:=XW false _ _ V (UN.below hR.o h);simp only[CC,if_false]at f;rw[hZ.o.2]at f;exact f)
   have k0:=(b0.below ad).c0;have k2:=(A.below ad).c0;go_wp2_with(first
    |(go_at_call 112;refine(Qi.o _ (BB _ _)).mono ?_;clear Qi;rintro e w5 ⟨u5,rfl,am,ai⟩;obtain⟨U,l5,c5,rfl⟩:=am.form;obtain⟨s5,aj⟩:=ex (decide (z<0));rw[aj]at am;rw[aj];clear aj)
    |(go_at_call 112;refine(Qj.o _ ai).mono ?_;clear Qj;rintro e w6 ⟨u6,rfl,an,ay⟩;obtain⟨a6,l6,c6,rfl⟩:=an.form;obtain⟨s6,ak⟩:=ex (decide (r<0));rw[ak]at an;rw[ak];clear ak;have k:=(Bt ad ai).trans (ay.mono (Bt ad ai).size);obtain⟨q0,q1⟩:=(W.below k).cp;obtain⟨q2,q3⟩:=(b5.below k).cp;obtain⟨f0,f1⟩:=(W.below k).fp;obtain⟨f2,f3⟩:=(b5.below k).fp))
   have Qf:=W.below k;have Qo:=b5.below k;obtain⟨z4,z5⟩:=GY (B s5) (C U l5 c5) (B s6) (C a6 l6 c6) Qf Qo;obtain⟨Qy,Qx⟩:=z4.cp;obtain⟨Qr,Qu⟩:=z5.cp;have Ql:Jf ((w6.setCell ⟨w.heap.size+1+1,0,none⟩ (B s5)).setCell ⟨w.heap.size+1+1,1,none⟩ (C U l5 c5)) (w.heap.size+1+1+1) 36 (B false) (C none 0 0):=(Qo.far sp _).far sp _;have Qs:=((am.below ay).box Qf J J (x0:=B s5) (x1:=C U l5 c5)).box Ql J J (x0:=B s6) (x1:=C a6 l6 c6);have Qt:=(an.box Qf J J (x0:=B s5) (x1:=C U l5 c5)).box Ql J J (x0:=B s6) (x1:=C a6 l6 c6);have Ua:=Bt T k;exact BA (by simp[results,results117,go_sem,Qy,Qx,Qr,Qu]) J ⟨_,_,J,Qs,Qt,(((Ua.setCell (p:=⟨_,0,none⟩) so _).setCell (p:=⟨_,1,none⟩) so _).setCell (p:=⟨_,0,none⟩) so _).setCell (p:=⟨_,1,none⟩) so _⟩
def QW(j k:D)(x y:Int)(w:G)(n:Jg w j x)(p:Jg w k y)(i:y≠0)(r:(Jb Y x.natAbs).length<1000000000000)(s:(Jb Y y.natAbs).length<1000000000000):
 F H 117 #[j,k] w λe d=>∃q o,e=.returned (.tuple #[q,o,B true])/\Jg d q (x/y)/\Jg d o (x%y)/\Bl w d:=by
 obtain⟨a,t,l,rfl,f⟩:=n;obtain⟨b,lb,m,rfl,g⟩:=p;refine QV a t l b lb m x.natAbs y.natAbs _ _ (x/y) (x%y) w f g O (by rw[UN.len f];exact r) (by rw[UN.len g];exact s) (λc=>Lt i λh=>c ⟨BG h.1,h.2⟩) (λc=>Lu i ⟨BX c.1,c.2⟩)
end
section
open M3
variable{p q:Rat}
def QX(z:Int):(XI z 0=0)↔z=0:=by
 unfold XI;omega
def Lv(v:D)(z:Int)(w:G)(h:Jg w v z):
 F H 100 #[v] w λe m=>e=.returned (B (decide (z=0)))/\Bl w m:=by
 obtain⟨a,l,c,rfl⟩:=h.form;obtain⟨s,hs⟩:=ex (decide (z<0));rw[hs]at h ⊢;clear hs;have b0:=Jf.new w 36 (B s) (C a l c);have b:Bl w (w.alloc (E #[B s,C a l c] 36)):=Ba w _;obtain⟨W0,d⟩:=ex (w.alloc (E #[B s,C a l c] 36));rw[d]at b0 b;have j:=Z d;have f:=Z (XB _ _ z 0 W0 (h.below b) (Ds _));obtain⟨o,p⟩:=b0.cp;have g:=Z (QX z);obtain⟨n,i⟩:=ex (XI z 0);rw[i]at f g;clear d i;go_enter func100,ntmps100
 go_upto_region 1 with fail
 rw[j.o];go_wp2_with(go_at_call 87;refine f.o.mono ?_;rintro e q ⟨rfl,k⟩)
 go_ret;refine⟨?_,Bt b k⟩;show Ending.returned (Value.bool (n==0))=_;have e:(n==0)=decide (z=0):=by rw[Ce];simp[g.o]
 rw[e]
def dd(y:Int):Int:=if y=0 then 1 else y
def Lw(v:D)(x y:Int)(w:G)(h:Ys w v x y):
 F H 59 #[v] w λe q=>e=.returned (B (decide (y=0)))/\Bl w q:=by
 obtain⟨s,a,l,c,t,b,k,d,rfl,r,o⟩:=h;have b0:=JA.new w 38 (B s) (C a l c) (B t) (C b k d);have f:Bl w (w.alloc (E #[B s,C a l c,B t,C b k d] 38)):=Ba w _;obtain⟨W0,g⟩:=ex (w.alloc (E #[B s,C a l c,B t,C b k d] 38));rw[g]at b0 f;have m:=Z g;have i:=Z (Lv _ _ W0 (o.below f));have u:=b0.c2;have z:=b0.c3;obtain⟨n,j⟩:=ex (decide (y=0));rw[j]at i ⊢;clear g j;go_enter func59,ntmps59
 go_upto_region 1 with fail
 rw[m.o];go_wp2_with(go_at_call 100;refine i.o.mono ?_;rintro e A ⟨rfl,p⟩)
 go_ret;exact⟨J,Bt f p⟩
def QY(v:D)(x y:Int)(w:G)(h:Ys w v x y):
 F H 82 #[v] w λe W=>∃u,e=.returned u/\Jg W u (dd y)/\Bl w W:=by
 have P:=h;obtain⟨s,a,l,c,t,b,k,d,rfl,h1,Q⟩:=h;obtain⟨W0,j⟩:=ex ((w.alloc (E #[B s,C a l c,B t,C b k d] 38)).alloc (E #[B false,C none 0 0] 36));have b0:JA W0 w.heap.size 38 (B s) (C a l c) (B t) (C b k d):=by rw[<-j];exact(JA.new w _ _ _ _ _).alloc _
 have n:Bl w W0:=by rw[<-j];exact IL w _ _
 have i:Jf W0 (w.heap.size+1) 36 (B false) (C none 0 0):=by
  have h:=Jf.new (w.alloc (E #[B s,C a l c,B t,C b k d] 38)) 36 (B false) (C none 0 0);rw[A1,j]at h;exact h
 have m:=Z (Lw _ x y W0 (P.below n));have N:=Z j;obtain⟨k0,k1,k2,k3⟩:=b0.cq;have X:=Z (Q.below n);clear P h1 Q j;by_cases f:y=0
 . rw[BG f]at m;have o:=Z (show dd y=1 by unfold dd;rw[BM f]);clear f;go_enter func82,ntmps82
   go_upto_region 1 with fail
   rw[N.o];go_wp2_with(first
    |(go_at_call 59;refine m.o.mono ?_;rintro e w1 ⟨rfl,g⟩)
    |(go_at_call 110;refine(GQ 1 O O _).mono ?_;rintro e w2 ⟨u2,rfl,A,ad⟩;obtain⟨T,V,U,rfl⟩:=A.form;obtain⟨S,z⟩:=ex (decide ((1:Int)<0));rw[z]at A;rw[z];clear z;have f:=Bt g ad;obtain⟨r0,K⟩:=(i.below f).cp;obtain⟨f0,f1⟩:=(i.below f).fp))
   have r:=Bt n f;have q:=A.box (i.below f) J J (x0:=B S) (x1:=C T V U);exact BA (v:=M #[B S,C T V U]) (by simp[results,results82,go_sem,r0,K]) J ⟨_,J,by rw[o.o];exact q,(r.setCell (p:=⟨_,0,none⟩) so _).setCell (p:=⟨_,1,none⟩) so _⟩
 . rw[BE f]at m;have o:=Z (show y=dd y by unfold dd;rw[BJ f]);clear f;go_enter func82,ntmps82
   go_upto_region 1 with fail
   rw[N.o];go_wp2_with(go_at_call 59;refine m.o.mono ?_;rintro e w1 ⟨rfl,g⟩;have m2:=(b0.below g).c2;have m3:=(b0.below g).c3;obtain⟨r0,K⟩:=(i.below g).cp;obtain⟨f0,f1⟩:=(i.below g).fp)
   have r:=Bt n g;have R:=X.o.below g;rw[o.o]at R;have q:=R.box (i.below g) J J (x0:=B t) (x1:=C b k d);exact BA (v:=M #[B t,C b k d]) (by simp[results,results82,go_sem,r0,K]) J ⟨_,J,q,(r.setCell (p:=⟨_,0,none⟩) so _).setCell (p:=⟨_,1,none⟩) so _⟩
def QZ(q:Rat):dd (denZ q)=q.den:=by
 have:=q.den_pos;unfold dd denZ;omega
def YL(v:D)(q:Rat)(w:G)(h:Jj w v q):
 F H 59 #[v] w λe b=>e=.returned (B (decide (q.den=1)))/\Bl w b:=by
 have a:=Lw v q.num (denZ q) w h.pair;rwa[decide_eq_decide.2 GF]at a
def EF(v:D)(q:Rat)(w:G)(h:Jj w v q):
 F H 82 #[v] w λe a=>∃u,e=.returned u/\Jg a u (q.den:Int)/\Bl w a:=by
 have b:=QY v q.num (denZ q) w h.pair;rwa[QZ]at b
def Xr(S T:D)(x y:Int)(w:G)(i:Jg w S x)(j:Jg w T y)(R:y≠0)(K:Sok x)(N:Sok y):
 F H 84 #[S,T] w λe U=>∃u,e=.returned u/\Jg U u (x/y)/\Bl w U:=by
 obtain⟨a,la,ca,rfl⟩:=i.form;obtain⟨b,lb,cb,rfl⟩:=j.form;obtain⟨s,hs⟩:=ex (decide (x<0));obtain⟨t,P⟩:=ex (decide (y<0));rw[hs]at i ⊢;rw[P]at j ⊢;clear hs P;obtain⟨W0,o⟩:=ex (((w.alloc (E #[B s,C a la ca] 36)).alloc (E #[B t,C b lb cb] 36)).alloc (E #[B false,C none 0 0] 36));obtain⟨n,b0,b1,bR⟩:=F9 o;have V:=Z (QW _ _ x y W0 (i.below n) (j.below n) R (by have:=K.words;omega) (by have:=N.words;omega));have X:=Z o;obtain⟨k0,k1⟩:=b0.cp;obtain⟨k2,k3⟩:=b1.cp;clear i j R K N o;go_enter func84,ntmps84
 go_upto_region 1 with fail
 rw[X.o];go_upto_region 2 with(go_at_call 117;refine V.o.mono ?_;rintro e z ⟨u1,u2,rfl,v,Q,A⟩;obtain⟨c,d,c1,rfl⟩:=v.form;obtain⟨f,q⟩:=ex (decide (x/y<0));rw[q]at v;rw[q];clear q;obtain⟨g,k,c2,rfl⟩:=Q.form;obtain⟨l,r⟩:=ex (decide (x%y<0));rw[r]at Q;rw[r];clear r)
 have bq:=(Jf.new z 36 (B f) (C c d c1)).alloc (E #[B l,C g k c2] 36);have m:=((bR.below A).alloc (E #[B f,C c d c1] 36)).alloc (E #[B l,C g k c2] 36);have hu:=(v.alloc (E #[B f,C c d c1] 36)).alloc (E #[B l,C g k c2] 36);have Qc:Bl w ((z.alloc (E #[B f,C c d c1] 36)).alloc (E #[B l,C g k c2] 36)):=Bt (Bt n A) (IL z _ _)
 obtain⟨q0,q1⟩:=bq.cp;obtain⟨r0,r1⟩:=m.cp;obtain⟨f0,f1⟩:=m.fp;go_wp2_with fail
 have W:=hu.box m J J (x0:=B f) (x1:=C c d c1);exact BA (by simp[results,results84,go_sem,r0,r1]) J ⟨_,J,W,(Qc.setCell (p:=⟨_,0,none⟩) so _).setCell (p:=⟨_,1,none⟩) so _⟩
def Ik(w:G)(s t:Bool)(a b:TR)(e c lb d:Nat)(x y:Int)(f:Jg w (M #[B s,C a e c]) x)(g:Jg w (M #[B t,C b lb d]) y):
 DF w (((w.alloc (E #[B s,C a e c] 36)).alloc (E #[B t,C b lb d] 36)).alloc (E #[B false,C none 0 0,B false,C none 0 0] 38)) [some (w.heap.size,.int x),some (w.heap.size+1,.int y),some (w.heap.size+1+1,.rat 0)]:=by
 have h:=(((DF.nil w).push (.int x) f).push (.int y) (g.alloc _)).push (.rat 0) (Dp _);rw[A1,A1,A1]at h;exact h
def Jj.mk{W:G}{s t:Bool}{a b:TR}{l c k d:Nat}(e:Jg W (M #[B s,C a l c]) q.num)(f:Jg W (M #[B t,C b k d]) (denZ q)):Jj W (M #[B s,C a l c,B t,C b k d]) q:=⟨_,_,_,_,_,_,_,_,J,e,f⟩
def GZ(X vb:D)(q:Rat)(w:G)(l:Jg w X q.num)(j:Jg w vb (q.den:Int)):
 F H 86 #[X,vb] w λe m=>∃u,e=.returned u/\Jj m u q/\Bl w m:=by
 obtain⟨a,g,d,rfl⟩:=l.form;obtain⟨b,lb,f,rfl⟩:=j.form;obtain⟨s,hs⟩:=ex (decide (q.num<0));obtain⟨t,Q⟩:=ex (decide ((q.den:Int)<0));rw[hs]at l ⊢;rw[Q]at j ⊢;clear hs Q;have x:=Ik w s t a b g d lb f _ _ l j;obtain⟨W0,i⟩:=ex (((w.alloc (E #[B s,C a g d] 36)).alloc (E #[B t,C b lb f] 36)).alloc (E #[B false,C none 0 0,B false,C none 0 0] 38));have b0:Jf W0 w.heap.size 36 (B s) (C a g d):=by rw[<-i];exact((Jf.new w _ _ _).alloc _).alloc _
 have y:Jf W0 (w.heap.size+1) 36 (B t) (C b lb f):=by
  have h:=(Jf.new (w.alloc (E #[B s,C a g d] 36)) 36 (B t) (C b lb f)).alloc (E #[B false,C none 0 0,B false,C none 0 0] 38);rw[A1,i]at h;exact h
 have z:JA W0 (w.heap.size+1+1) 38 (B false) (C none 0 0) (B false) (C none 0 0):=by
  have h:=JA.new ((w.alloc (E #[B s,C a g d] 36)).alloc (E #[B t,C b lb f] 36)) 38 (B false) (C none 0 0) (B false) (C none 0 0);rw[A1,A1,i]at h;exact h
 rw[i]at x;have o:=x.2.2;obtain⟨r,K,HB,Qc⟩:=Dl (λ(V:G) (u:D) (h:Bl W0 V) (hu:Jg V u 1)=>XB _ u (q.den:Int) 1 V ((j.below o).below h) hu) (l.below o) (j.below o) i;obtain⟨k0,k1⟩:=b0.cp;obtain⟨R,S⟩:=y.cp;have v:=Z (show(XI (q.den:Int) 1=0)↔q.den=1 by unfold XI;split<;>(try split)<;>omega);obtain⟨n,k⟩:=ex (XI (q.den:Int) 1);rw[k]at r v;clear l j i k x;go_enter func86,ntmps86
 go_upto_region 1 with fail
 rw[Qc.o];have c:Bl W0 W0.drew:=(BB _ W0).drew;go_region_held3 (λm=>m.cell? ⟨w.heap.size+1,0,none⟩=some (B t)/\m.cell? ⟨w.heap.size+1,1,none⟩=some (C b lb f)) (refine⟨?_,?_⟩<;>(first|(go_keep;done)|((repeat rw[JC O]);simp[*];done)))
  (first
   |(go_at_call 110;refine(GQ 1 O O _).mono ?_;rintro e w1 ⟨u1,rfl,ah,ad⟩;have c:=Bt c ad;obtain⟨R,S⟩:=(y.below c).cp)
   |(go_at_call 87;refine(r.o _ _ c ah).mono ?_;clear r;rintro e w2 ⟨rfl,ae⟩;have c:=Bt c ae;obtain⟨k0,k1⟩:=(b0.below c).cp;obtain⟨R,S⟩:=(y.below c).cp;obtain⟨r0,T,U,W⟩:=(z.below c).cq;obtain⟨f0,f1,f2,f3⟩:=(z.below c).fq))
 have N:=Bt o c;have P:=z.below c;by_cases k:n=0
 . have p:=Z (show denZ q=0 from GF.2 (v.o.1 k));subst k;have A:Jj w2 (M #[B s,C a g d,B false,C none 0 0]) q:=Jj.mk (K.o.below c) (by rw[p.o];exact Ds _);go_wp2_with fail
   exact BA (by simp[results,results86,go_sem,r0,T,U,W]) J ⟨_,J,A.put4 P J J J J _ _ _ _,Jo N O _ _ _ _⟩
 . have p:=Z (show denZ q=q.den by unfold denZ;rw[BJ λh=>k (v.o.2 h)]);have A:Jj w2 (M #[B s,C a g d,B t,C b lb f]) q:=Jj.mk (K.o.below c) (by rw[p.o];exact HB.o.below c);go_wp2_with fail
   exact BA (by simp[results,results86,go_sem,r0,T,U,W]) J ⟨_,J,A.put4 P J J J J _ _ _ _,Jo N O _ _ _ _⟩
def X2{x y:Int}(a:y≠0):(0:Int)<(Int.gcd x y:Nat):=by
 have:=Int.gcd_pos_of_ne_zero_right x a;omega
theorem Lx(va vb:D)(x y:Int)(w:G)(ha:Jg w va x)(A:Jg w vb y)(hy:y≠0)(bh:Sok x)(bi:Sok y):
 F H 104 #[va,vb] w λe d=>∃u,e=.returned u/\Jj d u (TU x y)/\Bl w d:=by
 obtain⟨HX,HY,m⟩:=DY bh bi hy;clear bh bi hy;obtain⟨s,a,la,ca,rfl⟩:=Jg.form2 ha;obtain⟨t,b,lb,cb,rfl⟩:=Jg.form2 A;have M0:=Ik w s t a b la ca lb cb _ _ ha A;obtain⟨W0,am⟩:=ex (((w.alloc (E #[B s,C a la ca] 36)).alloc (E #[B t,C b lb cb] 36)).alloc (E #[B false,C none 0 0,B false,C none 0 0] 38));have Qp:=Z am;rw[am]at M0;have M1:=Z M0;clear M0 ha A am;go_enter func104,ntmps104
 go_upto_region 1 with fail
 rw[Qp.o];clear Qp;obtain⟨s1,a1,l1,c1,n1,i1⟩:=M1.o.int (i:=0) J;have Qr:=n1.ka;obtain⟨s2,a2,l2,c2,n2,i2⟩:=M1.o.int (i:=1) J;have Qs:=n2.ka;go_upto_region 2 with(go_at_call 83;refine(Fr _ _ x y _ i1 i2 (by have:=HX.o.words;omega) (by have:=HY.o.words;omega)).mono ?_;rintro e w1 ⟨u,rfl,r,A⟩;obtain⟨bu,bc,bm,bf,rfl⟩:=Jg.form2 r)
 obtain⟨V3,q⟩:=ex (w1.alloc (E #[B bu,C bc bm bf] 36));obtain⟨g,ak⟩:=ex (w1.heap.size);have o:DF w (w1.alloc (E #[B bu,C bc bm bf] 36)) [some (w.heap.size,.int x),some (w.heap.size+1,.int y),some (w.heap.size+1+1,.rat 0),some (w1.heap.size,.int (((Int.gcd x y:Nat):Int)))]:=DF.push (M1.o.below A) (.int (((Int.gcd x y:Nat):Int))) r;rw[q,ak]at o;rw[q];rw[ak];have z:=Z (o);clear M1;clear o q ak;clear n1 Qr i1 n2 Qs i2 r A;have HG:=Z (Sok.gcd HX.o HY.o);by_cases hn:y<0
 . have S:=Z hn;clear hn;obtain⟨s4,a4,l4,c4,n4,i4⟩:=z.o.int (i:=1) J;have Qt:=n4.ka;have n:=Z (XB _ _ y 0 V3 i4 (Ds _));rw[show XI y 0=-1 from by unfold XI;rw[BM S.o]]at n;go_upto_region 3 with(go_at_call 87;refine n.o.mono ?_;rintro e K ⟨rfl,X⟩)
   have f:=Z (z.o.below X);clear z;clear n4 Qt i4 n X;obtain⟨s5,a5,l5,c5,n5,i5⟩:=f.o.int (i:=3) J;have Qq:=n5.ka;go_upto_region 4 with(go_at_call 88;refine(Lm _ _ 0 (((Int.gcd x y:Nat):Int)) _ (Ds _) i5 (by have:=Sok.zero.words;omega) (by have:=HG.o.words;omega)).mono ?_;rintro e w6 ⟨u6,rfl,az,ae⟩;obtain⟨bz,bd,bn,bg,rfl⟩:=Jg.form2 az;have Qq:=(n5.below ae).ka;have Qx:=(n5.below ae).fa)
   obtain⟨U,q⟩:=ex ((w6.setCell ⟨g,0,none⟩ (B bz)).setCell ⟨g,1,none⟩ (C bd bn bg));have o:DF w ((w6.setCell ⟨g,0,none⟩ (B bz)).setCell ⟨g,1,none⟩ (C bd bn bg)) [some (w.heap.size,.int x),some (w.heap.size+1,.int y),some (w.heap.size+1+1,.rat 0),some (g,.int (0-((Int.gcd x y:Nat):Int)))]:=DF.putInt (f.o.below ae) (i:=3) J az;rw[q]at o;rw[q];have l:=Z (o);clear f;clear o q;clear n5 Qq i5 az ae;clear Qx;obtain⟨T,R,Qo⟩:=DY (show(0-((Int.gcd x y:Nat):Int))≠0 by have:=X2 (x:=x) m.o;omega) (show(0-((Int.gcd x y:Nat):Int))=(if y<0 then -((Int.gcd x y:Nat):Int)else((Int.gcd x y:Nat):Int))by rw[BM S.o];omega) (show Sok (0-((Int.gcd x y:Nat):Int))by rw[Int.zero_sub];exact HG.o.neg);obtain⟨s7,a7,l7,c7,n7,i7⟩:=l.o.int (i:=0) J;have Qm:=n7.ka;obtain⟨s8,a8,l8,c8,n8,i8⟩:=l.o.int (i:=1) J;have Ql:=n8.ka;obtain⟨s9,a9,l9,c9,n9,i9⟩:=l.o.int (i:=3) J;have Qn:=n9.ka;obtain⟨fr,er,fk,f7,fv,b10,fi,fc,j,r10,fe,fg⟩:=l.o.rat (i:=2) J;have Qa:=j.kb;have Qe:=j.fb;obtain⟨N,P,Q⟩:=DY (λ(V:G) (h:Bl U V)=>Xr _ _ x ((0-((Int.gcd x y:Nat):Int))) V (i7.below h) (i9.below h) T.o HX.o Qo.o) (λ(V:G) (h:Bl U V)=>Xr _ _ y ((0-((Int.gcd x y:Nat):Int))) V (i8.below h) (i9.below h) T.o HY.o Qo.o) λ(V:G) (u v:D) (r:Jg V u (x/(0-((Int.gcd x y:Nat):Int)))) (hv:Jg V v (y/(0-((Int.gcd x y:Nat):Int))))=>GZ u v (TU x y) V (by rw[XK m.o,<-R.o];exact r) (by rw[XL m.o,<-R.o];exact hv);have Qv:=l.o.ne 0 2 J J DI;have Qw:=l.o.ne 1 2 J J DI;have Qu:=l.o.ne 3 2 J J DI;have c:Bl U U.drew:=(BB _ U).drew;go_region_held3 (λd=>(d.cell? ⟨w.heap.size,0,none⟩=some (B s7)/\d.cell? ⟨w.heap.size,1,none⟩=some (C a7 l7 c7))/\(d.cell? ⟨w.heap.size+1,0,none⟩=some (B s8)/\d.cell? ⟨w.heap.size+1,1,none⟩=some (C a8 l8 c8))/\d.cell? ⟨g,0,none⟩=some (B s9)/\d.cell? ⟨g,1,none⟩=some (C a9 l9 c9)) (first|grind|(go_keep;done)|grind[JC])
    (first
     |(go_at_call 84;refine(N.o _ c).mono ?_;clear N;rintro e w2 ⟨u2,rfl,p,an⟩;have c:=Bt c an;have Qm:=(n7.below c).ka;have Ql:=(n8.below c).ka;have Qn:=(n9.below c).ka;have Qa:=(j.below c).kb;have Qe:=(j.below c).fb)
     |(go_at_call 84;refine(P.o _ c).mono ?_;clear P;rintro e w3 ⟨u3,rfl,ay,W⟩;have p:=p.below W;have c:=Bt c W;have Qm:=(n7.below c).ka;have Ql:=(n8.below c).ka;have Qn:=(n9.below c).ka;have Qa:=(j.below c).kb;have Qe:=(j.below c).fb)
     |(go_at_call 86;refine(Q.o _ _ _ p ay).mono ?_;clear Q;rintro e w4 ⟨u4,rfl,ad,aq⟩;obtain⟨ei,ck,dz,de,en,cn,dt,dh,rfl⟩:=Jj.form ad;have c:=Bt c aq;have Qm:=(n7.below c).ka;have Ql:=(n8.below c).ka;have Qn:=(n9.below c).ka;have Qa:=(j.below c).kb;have Qe:=(j.below c).fb))
   all_goals go_wp2_with fail
   have Qk:=Bt l.o.2.2 c;exact BA (by simp[results,results104,go_sem,Qa]) J ⟨_,J,ad.put4 (j.below c) J J J J _ _ _ _,Jo Qk O _ _ _ _⟩
 . have S:=Z hn;clear hn;obtain⟨ft,et,fl,f8,bt,bj⟩:=z.o.int (i:=1) J;have Qj:=bt.ka;have n:=Z (XB _ _ y 0 V3 bj (Ds _));rw[show XI y 0=1 from by have h1:=S.o;have h2:=m.o;unfold XI;omega]at n;go_upto_region 4 with(go_at_call 87;refine n.o.mono ?_;rintro e K ⟨rfl,X⟩)
   have f:=Z (z.o.below X);clear z;clear bt Qj bj n X;have T:=Z (show((Int.gcd x y:Nat):Int)≠0 by have:=X2 (x:=x) m.o;omega);have R:=Z (show((Int.gcd x y:Nat):Int)=(if y<0 then -((Int.gcd x y:Nat):Int)else((Int.gcd x y:Nat):Int))by rw[BJ (by have:=S.o;omega)]);obtain⟨ed,ce,du,co,ah,di⟩:=f.o.int (i:=0) J;have Qc:=ah.ka;obtain⟨ef,cg,dw,cy,ai,dj⟩:=f.o.int (i:=1) J;have Qf:=ai.ka;obtain⟨eh,cj,dx,cz,aj,bk⟩:=f.o.int (i:=3) J;have Qh:=aj.ka;obtain⟨fu,ew,fm,f9,fw,f6,fj,fd,k,fo,ff,fh⟩:=f.o.rat (i:=2) J;have Qb:=k.kb;have Qg:=k.fb;obtain⟨N,P,Q⟩:=DY (λ(V:G) (h:Bl K V)=>Xr _ _ x (((Int.gcd x y:Nat):Int)) V (di.below h) (bk.below h) T.o HX.o HG.o) (λ(V:G) (h:Bl K V)=>Xr _ _ y (((Int.gcd x y:Nat):Int)) V (dj.below h) (bk.below h) T.o HY.o HG.o) λ(V:G) (u v:D) (r:Jg V u (x/((Int.gcd x y:Nat):Int))) (hv:Jg V v (y/((Int.gcd x y:Nat):Int)))=>GZ u v (TU x y) V (by rw[XK m.o,<-R.o];exact r) (by rw[XL m.o,<-R.o];exact hv);have Qv:=f.o.ne 0 2 J J DI;have Qw:=f.o.ne 1 2 J J DI;have Qu:=f.o.ne 3 2 J J DI;have c:Bl K K.drew:=(BB _ K).drew;go_region_held3 (λd=>(d.cell? ⟨w.heap.size,0,none⟩=some (B ed)/\d.cell? ⟨w.heap.size,1,none⟩=some (C ce du co))/\(d.cell? ⟨w.heap.size+1,0,none⟩=some (B ef)/\d.cell? ⟨w.heap.size+1,1,none⟩=some (C cg dw cy))/\d.cell? ⟨g,0,none⟩=some (B eh)/\d.cell? ⟨g,1,none⟩=some (C cj dx cz)) (first|grind|(go_keep;done)|grind[JC])
    (first
     |(go_at_call 84;refine(N.o _ c).mono ?_;clear N;rintro e w2 ⟨u2,rfl,p,an⟩;have c:=Bt c an;have Qc:=(ah.below c).ka;have Qf:=(ai.below c).ka;have Qh:=(aj.below c).ka;have Qb:=(k.below c).kb;have Qg:=(k.below c).fb)
     |(go_at_call 84;refine(P.o _ c).mono ?_;clear P;rintro e w3 ⟨u3,rfl,ay,W⟩;have p:=p.below W;have c:=Bt c W;have Qc:=(ah.below c).ka;have Qf:=(ai.below c).ka;have Qh:=(aj.below c).ka;have Qb:=(k.below c).kb;have Qg:=(k.below c).fb)
     |(go_at_call 86;refine(Q.o _ _ _ p ay).mono ?_;clear Q;rintro e w4 ⟨u4,rfl,ad,aq⟩;obtain⟨ei,ck,dz,de,en,cn,dt,dh,rfl⟩:=Jj.form ad;have c:=Bt c aq;have Qc:=(ah.below c).ka;have Qf:=(ai.below c).ka;have Qh:=(aj.below c).ka;have Qb:=(k.below c).kb;have Qg:=(k.below c).fb))
   all_goals go_wp2_with fail
   have Qk:=Bt f.o.2.2 c;exact BA (by simp[results,results104,go_sem,Qb]) J ⟨_,J,ad.put4 (k.below c) J J J J _ _ _ _,Jo Qk O _ _ _ _⟩
def Il(w:G)(s t m n:Bool)(a b e f:TR)(l c k d j c' i g:Nat)(p q:Rat)(hp:Jj w (M #[B s,C a l c,B t,C b k d]) p)(o:Jj w (M #[B m,C e j c',B n,C f i g]) q):
 DF w (((w.alloc (E #[B s,C a l c,B t,C b k d] 38)).alloc (E #[B m,C e j c',B n,C f i g] 38)).alloc (E #[B false,C none 0 0,B false,C none 0 0] 38)) [some (w.heap.size,.rat p),some (w.heap.size+1,.rat q),some (w.heap.size+1+1,.rat 0)]:=by
 have h:=(((DF.nil w).push (.rat p) hp).push (.rat q) (o.below (Ba w _))).push (.rat 0) (Dp _);rw[A1,A1,A1]at h;exact h
def Q3(w:G)(s t m n:Bool)(a b e f:TR)(l c k d j c' i g:Nat)(p q:Rat)(hp:Jj w (M #[B s,C a l c,B t,C b k d]) p)(o:Jj w (M #[B m,C e j c',B n,C f i g]) q):
 DF w ((w.alloc (E #[B s,C a l c,B t,C b k d] 38)).alloc (E #[B m,C e j c',B n,C f i g] 38)) [some (w.heap.size,.rat p),some (w.heap.size+1,.rat q)]:=by
 have h:=((DF.nil w).push (.rat p) hp).push (.rat q) (o.below (Ba w _));rw[A1]at h;exact h
def Ga(h:q.den=1):q=(q.num:Rat):=Rat.ext J h
def Q4(hp:p.den=1)(a:q.den=1):(p+q).num=p.num+q.num/\(p+q).den=1:=by
 have h:p+q=((p.num+q.num:Int):Rat):=by rw[Rat.intCast_add,<-Ga hp,<-Ga a]
 rw[h];exact⟨J,J⟩
def Q5(hp:p.den=1)(a:q.den=1):(p*q).num=p.num*q.num/\(p*q).den=1:=by
 have h:p*q=((p.num*q.num:Int):Rat):=by rw[Rat.intCast_mul,<-Ga hp,<-Ga a]
 rw[h];exact⟨J,J⟩
def Q6(p q:Rat)(hp:Sq p)(i:Sq q)(a c e b d:Int)(f:((Int.gcd (p.den:Int) (q.den:Int):Nat):Int)=a)(n:(p.den:Int)/a=c)(o:(q.den:Int)/a=e)(r:p.num*e+q.num*c=b)(g:((Int.gcd b a:Nat):Int)=d):
 Sok a/\a≠0/\Sok c/\Sok e/\Sok b/\Sok d/\d≠0/\Sok (p.num*e)/\Sok (q.num*c)/\(p+q).num=b/d/\((p+q).den:Int)=c*(q.den/d):=by
 have hl:=N2 p q a c e b d f.symm n.symm o.symm r.symm g.symm;have k:a≠0:=by rw[<-f];have:=X2 (x:=(p.den:Int)) (y:=q.den) (by have:=q.den_nz;omega);omega
 have u:Sok a:=by rw[<-f];exact hp.den.gcd i.den
 have m:Sm 1000000000 c:=by rw[<-n];exact hp.sm.2.div
 have l:Sm 1000000000 e:=by rw[<-o];exact i.sm.2.div
 have s:=hp.sm.1.mul l;have t:=i.sm.1.mul m;have j:Sok b:=by rw[<-r];exact Sok.of (s.add t) O
 refine⟨u,k,Sok.of m O,Sok.of l O,j,by rw[<-g];exact j.gcd u,?_,Sok.of s O,Sok.of t O,hl.1,hl.2⟩;rw[<-g];have:=X2 (x:=b) k;omega
theorem Im(va vb:D)(p q:Rat)(w:G)(ha:Jj w va p)(hb:Jj w vb q)(cn:Sq p)(co:Sq q):
 F H 40 #[va,vb] w λe n=>∃u,e=.returned u/\Jj n u (p+q)/\Bl w n:=by
 obtain⟨s,a,l,c,t,b,k,d,rfl⟩:=Jj.form ha;obtain⟨s',a',l',c',t',b',k',d',rfl⟩:=Jj.form hb;have M0:=Il w s t s' t' a b a' b' l c k d l' c' k' d' p q ha hb;obtain⟨W0,bf⟩:=ex (((w.alloc (E #[B s,C a l c,B t,C b k d] 38)).alloc (E #[B s',C a' l' c',B t',C b' k' d'] 38)).alloc (E #[B false,C none 0 0,B false,C none 0 0] 38));have Qo:=Z bf;rw[bf]at M0;obtain⟨M1,HP,R⟩:=DY M0 cn co;clear M0 ha hb bf cn co;go_enter func40,ntmps40
 go_upto_region 1 with fail
 rw[Qo.o];clear Qo;obtain⟨bb,ce⟩:=ex (decide (p.den=1/\q.den=1):Bool);have Qh:=Z ce;clear ce;go_cut [15] λc n=>c=B bb/\Hid (DF w n [some (w.heap.size,.rat p),some (w.heap.size+1,.rat q),some (w.heap.size+1+1,.rat 0)])
 case first=>
  obtain⟨s1,a1,l1,c1,t1,b1,k1,d1,n1,r1,i1,j1⟩:=M1.o.rat (i:=0) J;have Qv:=n1.kb;obtain⟨s2,a2,l2,c2,t2,b2,k2,d2,n2,r2,i2,j2⟩:=M1.o.rat (i:=1) J;have Qx:=n2.kb;have P:=Z (YL _ p W0 r1);have H2:=Z λ(V:G) (h:Bl W0 V)=>YL _ q V (r2.below h);by_cases U:p.den=1
  . rw[BG U]at P;obtain⟨b2,W⟩:=ex (decide (q.den=1));rw[W]at H2;have Qk:=Z (show b2=bb by rw[<-W,<-Qh.o];exact decide_eq_decide.2 ⟨λh=>⟨U,h⟩,λh=>h.2⟩);clear W U;go_wp2_with(first
     |(go_at_call 59;refine P.o.mono ?_;clear P;rintro e X ⟨rfl,ad⟩;have Qv:=(n1.below ad).kb;have Qx:=(n2.below ad).kb)
     |(go_at_call 59;refine(H2.o _ ad).mono ?_;clear H2;rintro e w2 ⟨rfl,W⟩))
    go_meet
    case rel=>exact⟨by rw[Qk.o],Z ((M1.o.below ad).below W)⟩
  . rw[BE U]at P;have Qk:=Z (show bb=false by rw[<-Qh.o];exact BE λh=>U h.1);clear U;go_wp2_with(go_at_call 59;refine P.o.mono ?_;clear P;rintro e X ⟨rfl,ad⟩)
    go_meet
    case rel=>exact⟨by rw[Qk.o],Z (M1.o.below ad)⟩
 obtain⟨rfl,m⟩:=hcut;have M2:=m;clear M1 m;cases bb with
 |true=>
  have Qi:=BX Qh.o;have HW:=Z (Q4 Qi.1 Qi.2);clear Qi Qh;obtain⟨s3,a3,l3,c3,t3,b3,k3,d3,n3,r3,i3,j3⟩:=M2.o.rat (i:=0) J;have fo:=n3.kb;obtain⟨s4,a4,l4,c4,t4,b4,k4,d4,n4,r4,i4,j4⟩:=M2.o.rat (i:=1) J;have fr:=n4.kb;obtain⟨s5,a5,l5,c5,t5,b5,k5,d5,n5,r5,i5,j5⟩:=M2.o.rat (i:=2) J;have Qt:=n5.kb;have Qz:=n5.fb;go_wp2_with(go_at_call 81;refine(IK _ _ p.num q.num _ i3 i4 (by have:=HP.o.num.words;omega) (by have:=R.o.num.words;omega)).mono ?_;rintro e X ⟨u,rfl,x,g⟩;obtain⟨bh,am,bg,an,rfl⟩:=Jg.form2 x;have Qt:=(n5.below g).kb;have Qz:=(n5.below g).fb)
  have hr:=Jj.mk (by rw[HW.o.1];exact x) (by rw[GF.2 HW.o.2];exact Ds _);have Ql:=Bt M2.o.2.2 g;exact BA (by simp[results,results40,go_sem,Qt]) J ⟨_,J,hr.put4 (n5.below g) J J J J _ _ _ _,Jo Ql O _ _ _ _⟩
 |false=>
  clear Qh;obtain⟨o,cg⟩:=ex (((Int.gcd (p.den:Int) (q.den:Int):Nat):Int):Int);have Qs:=Z cg;clear cg;obtain⟨z,cj⟩:=ex ((p.den:Int)/o:Int);have Qq:=Z cj;clear cj;obtain⟨N,ck⟩:=ex ((q.den:Int)/o:Int);have Qn:=Z ck;clear ck;obtain⟨Q,bm⟩:=ex (p.num*N+q.num*z:Int);have Qr:=Z bm;clear bm;obtain⟨K,bn⟩:=ex (((Int.gcd Q o:Nat):Int):Int);have Qp:=Z bn;clear bn;obtain⟨S1,S2,S3,S4,S5,S6,S7,S8,S9,bj,bk⟩:=Q6 p q HP.o R.o o z N Q K Qs.o Qq.o Qn.o Qr.o Qp.o;obtain⟨T1,T2,T3,T4,T5,T6,T7,T8⟩:=GL S1 S2 S3 S4 S5 S6 S7 S8;obtain⟨T9,Qy,Qw⟩:=DY S9 bj bk;clear S1 S2 S3 S4 S5 S6 S7 S8 S9 bj bk;go_upto_region 3 with fail
  refine ED Dj [[],[0],[],[2,1],[1,3,3],[],[5,4,4,0,1,2,3,4,5]] [.rat p,.int ((p.den:Int)),.rat q,.int ((q.den:Int)),.int o,.ptr,.eq L] [5,6] (λb v V=>DF w V [some (w.heap.size,.rat p),some (w.heap.size+1,.rat q),some (w.heap.size+1+1,.rat 0),nb b v 0 1 (.int 0) (.int o)]) (M2.o.none).drew (WB (.vl J λ_ j=>Ea 0 j)<|WB (.cl λh _=>EF _ p _ (h.g 0))<|WB (.vl J λ_ j=>Ea 1 j)<|WB (.cl λh _=>EF _ q _ (h.g 2))<|WB (.cl λh _=>(by have h:=Fr _ _ (p.den:Int) (q.den:Int) _ (h.g 1) (h.g 3) (by have:=HP.o.den.words;omega) (by have:=R.o.den.words;omega);rw[Qs.o]at h;exact h))<|WB (.wr J λ_ j=>Eu 3 j)<|WB (.wr J λh j=>Et 3 j (h.g 4) (hp:=h.g 5)) Stp.end_)
   λf V7 hF m=>?_
  refine DP ?_;obtain⟨B8,bc⟩:=hF.p 5;have m:=FG m;simp only[bc]at m;rw[bc];have M3:=Z m;clear m hF bc;clear M2;go_upto_region 4 with fail
  refine ED Dj [[],[0],[],[1,2,1],[],[4,3],[],[5,6,5],[],[],[8,3,7,0,1,2,3,8,9],[9,7,10,0,1,2,3,4,5,6,7,8,9,10]] [.rat p,.int ((p.den:Int)),.int o,.int z,.rat q,.int ((q.den:Int)),.int o,.int N,.ptr,.ptr,.eq L,.eq L] [8,9,10,11] (λb v V=>DF w V [some (w.heap.size,.rat p),some (w.heap.size+1,.rat q),some (w.heap.size+1+1,.rat 0),some (B8,.int o),nb b v 0 2 (.int 0) (.int z),nb b v 1 3 (.int 0) (.int N)]) ((M3.o.none).none).drew (WB (.vl J λ_ j=>Ea 0 j)<|WB (.cl λh _=>EF _ p _ (h.g 0))<|WB (.vl J λ_ j=>FE 3 j)<|WB (.cl λh _=>(by have h:=Xr _ _ (p.den:Int) o _ (h.g 1) (h.g 2) T2.o HP.o.den T1.o;rw[Qq.o]at h;exact h))<|WB (.vl J λ_ j=>Ea 1 j)<|WB (.cl λh _=>EF _ q _ (h.g 4))<|WB (.vl J λ_ j=>FE 3 j)<|WB (.cl λh _=>(by have h:=Xr _ _ (q.den:Int) o _ (h.g 5) (h.g 6) T2.o R.o.den T1.o;rw[Qn.o]at h;exact h))<|WB (.wr J λ_ j=>Eu 4 j)<|WB (.wr J λ_ j=>Eu 5 j)<|WB (.wr J λh j=>Et 4 j (h.g 3) (hp:=h.g 8))<|WB (.wr J λh j=>Et 5 j (h.g 7) (hp:=h.g 9)) Stp.end_)
   λf ft hF m=>?_
  refine DP ?_;obtain⟨B11,aq⟩:=hF.p 8;obtain⟨B12,ay⟩:=hF.p 9;have m:=FG m;simp only[aq,ay]at m;rw[aq,ay];have M4:=Z m;clear m hF aq ay;clear M3;go_upto_region 5 with fail
  refine ED Dj [[],[0],[],[1,2],[],[4],[],[5,6,3],[3,7,7],[],[9,8,8,0,1,2,3,4,5,6,7,8,9]] [.eq (I (some ⟨w.heap.size,0,none⟩)),.int (Rat.num (p)),.int N,.int (p.num*N),.eq (I (some ⟨w.heap.size+1,0,none⟩)),.int (Rat.num (q)),.int z,.int (q.num*z),.int Q,.ptr,.eq L] [9,10] (λb v V=>DF w V [some (w.heap.size,.rat p),some (w.heap.size+1,.rat q),some (w.heap.size+1+1,.rat 0),some (B8,.int o),some (B11,.int z),some (B12,.int N),nb b v 0 1 (.int 0) (.int Q)]) (M4.o.none).drew (WB (.vl J λ_ _=>⟨_,by refine DP ?_;go_simp,J⟩)<|WB (.vl J λh j=>FF 0 j (hp:=h.e 0))<|WB (.vl J λ_ j=>FE 5 j)<|WB (.cl λh _=>Xn _ _ p.num N _ (h.g 1) (h.g 2) (by have:=HP.o.num.words;have:=T4.o.words;omega))<|WB (.vl J λ_ _=>⟨_,by refine DP ?_;go_simp,J⟩)<|WB (.vl J λh j=>FF 1 j (hp:=h.e 4))<|WB (.vl J λ_ j=>FE 4 j)<|WB (.cl λh _=>Xn _ _ q.num z _ (h.g 5) (h.g 6) (by have:=R.o.num.words;have:=T3.o.words;omega))<|WB (.cl λh _=>(by have h:=IK _ _ (p.num*N) (q.num*z) _ (h.g 3) (h.g 7) (by have:=T8.o.words;omega) (by have:=T9.o.words;omega);rw[Qr.o]at h;exact h))<|WB (.wr J λ_ j=>Eu 6 j)<|WB (.wr J λh j=>Et 6 j (h.g 8) (hp:=h.g 9)) Stp.end_)
   λf dt hF m=>?_
  refine DP ?_;rw[hF.e 0,hF.e 4];obtain⟨ak,az⟩:=hF.p 9;have m:=FG m;simp only[az]at m;rw[az];have M5:=Z m;clear m hF az;clear M4;go_upto_region 6 with fail
  obtain⟨ic,fu,gr,gb,di,cz⟩:=M5.o.int (i:=6) J;have Qj:=di.ka;obtain⟨ie,fv,gt,gc,dj,de⟩:=M5.o.int (i:=3) J;have Qm:=dj.ka;have HC:=Z (Fr _ _ Q o dt cz de (by have:=T5.o.words;omega) (by have:=T1.o.words;omega));rw[Qp.o]at HC;go_upto_region 7 with(go_at_call 83;refine HC.o.mono ?_;clear HC;rintro e X ⟨u,rfl,x,hb⟩;obtain⟨bh,am,bg,an,rfl⟩:=Jg.form2 x)
  obtain⟨T,hV⟩:=ex (X.alloc (E #[B bh,C am bg an] 36));obtain⟨bi,bd⟩:=ex (X.heap.size);have m:DF w (X.alloc (E #[B bh,C am bg an] 36)) [some (w.heap.size,.rat p),some (w.heap.size+1,.rat q),some (w.heap.size+1+1,.rat 0),some (B8,.int o),some (B11,.int z),some (B12,.int N),some (ak,.int Q),some (X.heap.size,.int K)]:=DF.push (M5.o.below hb) (.int K) x;rw[hV,bd]at m;rw[hV];rw[bd];have A:=Z (m);clear M5;clear m hV bd;clear di Qj cz dj Qm de x hb;obtain⟨fi,du,fd,ef,ae,f8⟩:=A.o.int (i:=6) J;have Qe:=ae.ka;obtain⟨fj,dw,fe,eh,ah,dh⟩:=A.o.int (i:=7) J;have Qb:=ah.ka;obtain⟨fk,dx,ff,ei,ai,f9⟩:=A.o.int (i:=4) J;have Qf:=ai.ka;obtain⟨fl,dz,fg,en,fm,ed,fc,er,aj,fh,gk,gn⟩:=A.o.rat (i:=1) J;have Qc:=aj.kb;obtain⟨ig,fw,gu,gg,ij,fy,gp,gi,r,ib,gl,go⟩:=A.o.rat (i:=2) J;have Qa:=r.kb;have Qd:=r.fb;obtain⟨P,H2,H3,H4,H5⟩:=Ej (λ(V:G) (h:Bl T V)=>Xr _ _ Q K V (f8.below h) (dh.below h) T7.o T5.o T6.o) (λ(V:G) (h:Bl T V)=>EF _ q V (fh.below h)) (λ(V:G) (u:D) (h:Bl T V) (x:Jg V u (q.den:Int))=>Xr u _ (q.den:Int) K V x (dh.below h) T7.o R.o.den T6.o) (λ(V:G) (u:D) (h:Bl T V) (x:Jg V u ((q.den:Int)/K))=>Xn _ u z ((q.den:Int)/K) V (f9.below h) x (by have U:=T3.o.words;have h2:=(Sok.div (y:=K) R.o.den).words;omega)) λ(V:G) (u v:D) (x:Jg V u (Q/K)) (hv:Jg V v (z*((q.den:Int)/K)))=>GZ u v (p+q) V (by rw[Qy.o];exact x) (by rw[Qw.o];exact hv);have gz:=A.o.ne 6 2 J J DI;have ia:=A.o.ne 7 2 J J DI;have gy:=A.o.ne 4 2 J J DI;have gw:=A.o.ne 1 2 J J DI;have g:Bl T T.drew:=(BB _ T).drew;go_region_held3 (λn=>(n.cell? ⟨ak,0,none⟩=some (B fi)/\n.cell? ⟨ak,1,none⟩=some (C du fd ef))/\(n.cell? ⟨bi,0,none⟩=some (B fj)/\n.cell? ⟨bi,1,none⟩=some (C dw fe eh))/\(n.cell? ⟨B11,0,none⟩=some (B fk)/\n.cell? ⟨B11,1,none⟩=some (C dx ff ei))/\n.cell? ⟨w.heap.size+1,0,none⟩=some (B fl)/\n.cell? ⟨w.heap.size+1,1,none⟩=some (C dz fg en)/\n.cell? ⟨w.heap.size+1,2,none⟩=some (B fm)/\n.cell? ⟨w.heap.size+1,3,none⟩=some (C ed fc er)) (first|grind|(go_keep;done)|((repeat' apply CB)<;>((repeat rw[JC O]);grind)))
   (first
    |(go_at_call 84;refine(P.o _ g).mono ?_;clear P;rintro e w2 ⟨u2,rfl,S,W⟩;have g:=Bt g W;have Qe:=(ae.below g).ka;have Qb:=(ah.below g).ka;have Qf:=(ai.below g).ka;have Qc:=(aj.below g).kb;have Qa:=(r.below g).kb;have Qd:=(r.below g).fb)
    |(go_at_call 82;refine(H2.o _ g).mono ?_;clear H2;rintro e w3 ⟨u3,rfl,ew,bt⟩;have S:=S.below bt;have g:=Bt g bt;have Qe:=(ae.below g).ka;have Qb:=(ah.below g).ka;have Qf:=(ai.below g).ka;have Qc:=(aj.below g).kb;have Qa:=(r.below g).kb;have Qd:=(r.below g).fb)
    |(go_at_call 84;refine(H3.o _ _ g ew).mono ?_;clear H3;rintro e w4 ⟨u4,rfl,f6,bu⟩;have S:=S.below bu;have g:=Bt g bu;have Qe:=(ae.below g).ka;have Qb:=(ah.below g).ka;have Qf:=(ai.below g).ka;have Qc:=(aj.below g).kb;have Qa:=(r.below g).kb;have Qd:=(r.below g).fb)
    |(go_at_call 85;refine(H4.o _ _ g f6).mono ?_;clear H4;rintro e w5 ⟨u5,rfl,f7,bz⟩;have S:=S.below bz;have g:=Bt g bz;have Qe:=(ae.below g).ka;have Qb:=(ah.below g).ka;have Qf:=(ai.below g).ka;have Qc:=(aj.below g).kb;have Qa:=(r.below g).kb;have Qd:=(r.below g).fb)
    |(go_at_call 86;refine(H5.o _ _ _ S f7).mono ?_;clear H5;rintro e w6 ⟨u6,rfl,cy,et⟩;obtain⟨ii,fx,gv,gh,ik,ga,gq,gj,rfl⟩:=Jj.form cy;have g:=Bt g et;have Qe:=(ae.below g).ka;have Qb:=(ah.below g).ka;have Qf:=(ai.below g).ka;have Qc:=(aj.below g).kb;have Qa:=(r.below g).kb;have Qd:=(r.below g).fb))
  all_goals go_wp2_with fail
  have Ql:=Bt A.o.2.2 g;have Qu:=A.o.ge 2 J;exact BA (by simp[results,results40,go_sem,Qa]) J ⟨_,J,cy.put4 (r.below g) J J J J _ _ _ _,Jo Ql Qu _ _ _ _⟩
def Q7(p q:Rat)(hp:Sq p)(e:Sq q)(a b x y:Int)(c:((Int.gcd p.num (q.den:Int):Nat):Int)=a)(d:((Int.gcd q.num (p.den:Int):Nat):Int)=b)(f:p.num/a=x)(g:q.num/b=y):
 Sok a/\a≠0/\Sok b/\b≠0/\Sok x/\Sok y/\(p*q).num=x*y/\((p*q).den:Int)=p.den/b*(q.den/a):=by
 have hl:=N3 p q a b c.symm d.symm;have j:a≠0:=by rw[<-c];have:=X2 (x:=p.num) (y:=q.den) (by have:=q.den_nz;omega);omega
 have i:b≠0:=by rw[<-d];have:=X2 (x:=q.num) (y:=p.den) (by have:=p.den_nz;omega);omega
 refine⟨by rw[<-c];exact hp.num.gcd e.den,j,by rw[<-d];exact e.num.gcd hp.den,i,by rw[<-f];exact hp.num.div,by rw[<-g];exact e.num.div,?_,hl.2⟩;rw[hl.1,f,g]
theorem Q8(va vb:D)(p q:Rat)(w:G)(ha:Jj w va p)(hb:Jj w vb q)(bk:Sq p)(bm:Sq q):
 F H 41 #[va,vb] w λe m=>∃u,e=.returned u/\Jj m u (p*q)/\Bl w m:=by
 obtain⟨s,a,l,c,t,b,k,d,rfl⟩:=Jj.form ha;obtain⟨s',a',l',c',t',b',k',d',rfl⟩:=Jj.form hb;have M0:=Il w s t s' t' a b a' b' l c k d l' c' k' d' p q ha hb;obtain⟨W0,bd⟩:=ex (((w.alloc (E #[B s,C a l c,B t,C b k d] 38)).alloc (E #[B s',C a' l' c',B t',C b' k' d'] 38)).alloc (E #[B false,C none 0 0,B false,C none 0 0] 38));have Ql:=Z bd;rw[bd]at M0;obtain⟨M1,S,T⟩:=DY M0 bk bm;clear M0 ha hb bd bk bm;go_enter func41,ntmps41
 go_upto_region 1 with fail
 rw[Ql.o];clear Ql;obtain⟨bb,bi⟩:=ex (decide (p.den=1/\q.den=1):Bool);have Qh:=Z bi;clear bi;go_cut [13] λc m=>c=B bb/\Hid (DF w m [some (w.heap.size,.rat p),some (w.heap.size+1,.rat q),some (w.heap.size+1+1,.rat 0)])
 case first=>
  obtain⟨s1,a1,l1,c1,t1,b1,k1,d1,n1,r1,i1,j1⟩:=M1.o.rat (i:=0) J;have Qr:=n1.kb;obtain⟨s2,a2,l2,c2,t2,b2,k2,d2,n2,r2,i2,j2⟩:=M1.o.rat (i:=1) J;have Qs:=n2.kb;have H1:=Z (YL _ p W0 r1);have H2:=Z λ(V:G) (h:Bl W0 V)=>YL _ q V (r2.below h);by_cases R:p.den=1
  . rw[BG R]at H1;obtain⟨b2,X⟩:=ex (decide (q.den=1));rw[X]at H2;have Qj:=Z (show b2=bb by rw[<-X,<-Qh.o];exact decide_eq_decide.2 ⟨λh=>⟨R,h⟩,λh=>h.2⟩);clear X R;go_wp2_with(first
     |(go_at_call 59;refine H1.o.mono ?_;clear H1;rintro e w1 ⟨rfl,ak⟩;have Qr:=(n1.below ak).kb;have Qs:=(n2.below ak).kb)
     |(go_at_call 59;refine(H2.o _ ak).mono ?_;clear H2;rintro e w2 ⟨rfl,X⟩))
    go_meet
    case rel=>exact⟨by rw[Qj.o],Z ((M1.o.below ak).below X)⟩
  . rw[BE R]at H1;have Qj:=Z (show bb=false by rw[<-Qh.o];exact BE λh=>R h.1);clear R;go_wp2_with(go_at_call 59;refine H1.o.mono ?_;clear H1;rintro e w1 ⟨rfl,ak⟩)
    go_meet
    case rel=>exact⟨by rw[Qj.o],Z (M1.o.below ak)⟩
 obtain⟨rfl,o⟩:=hcut;have M2:=o;clear M1 o;cases bb with
 |true=>
  have Qi:=BX Qh.o;have HW:=Z (Q5 Qi.1 Qi.2);clear Qi Qh;obtain⟨s3,a3,l3,c3,t3,b3,k3,d3,n3,r3,i3,j3⟩:=M2.o.rat (i:=0) J;have fd:=n3.kb;obtain⟨s4,a4,l4,c4,t4,b4,k4,d4,n4,r4,i4,j4⟩:=M2.o.rat (i:=1) J;have fe:=n4.kb;obtain⟨s5,a5,l5,c5,t5,b5,k5,d5,n5,r5,i5,j5⟩:=M2.o.rat (i:=2) J;have Qp:=n5.kb;have Qt:=n5.fb;go_wp2_with(go_at_call 85;refine(Xn _ _ p.num q.num _ i3 i4 (by have R:=S.o.num.words;have h2:=T.o.num.words;omega)).mono ?_;rintro e w1 ⟨u,rfl,hu,g⟩;obtain⟨gq,fg,gg,fl,rfl⟩:=Jg.form2 hu;have Qp:=(n5.below g).kb;have Qt:=(n5.below g).fb)
  have hr:=Jj.mk (by rw[HW.o.1];exact hu) (by rw[GF.2 HW.o.2];exact Ds _);have Qk:=Bt M2.o.2.2 g;exact BA (by simp[results,results41,go_sem,Qp]) J ⟨_,J,hr.put4 (n5.below g) J J J J _ _ _ _,Jo Qk O _ _ _ _⟩
 |false=>
  clear Qh;obtain⟨A,bj⟩:=ex (((Int.gcd p.num (q.den:Int):Nat):Int):Int);have Qm:=Z bj;clear bj;obtain⟨K,bn⟩:=ex (((Int.gcd q.num (p.den:Int):Nat):Int):Int);have Qn:=Z bn;clear bn;obtain⟨x,hx⟩:=ex (p.num/A:Int);have HX:=Z hx;clear hx;obtain⟨y,hy⟩:=ex (q.num/K:Int);have HY:=Z hy;clear hy;obtain⟨S1,S2,S3,S4,S5,S6,S7,S8⟩:=Q7 p q S.o T.o A K x y Qm.o Qn.o HX.o HY.o;obtain⟨T1,T2,T3,T4,T5,T6,T7,T8⟩:=GL S1 S2 S3 S4 S5 S6 S7 S8;clear S1 S2 S3 S4 S5 S6 S7 S8;go_upto_region 3 with fail
  refine ED Dj [[],[0],[],[2],[1,3,3],[],[5],[],[7,4],[6,8,8],[],[],[10,4,9,0,1,2,3,4,10,11],[11,9,12,0,1,2,3,4,5,6,7,8,9,10,11,12]] [.eq (I (some ⟨w.heap.size,0,none⟩)),.int (Rat.num (p)),.rat q,.int ((q.den:Int)),.int A,.eq (I (some ⟨w.heap.size+1,0,none⟩)),.int (Rat.num (q)),.rat p,.int ((p.den:Int)),.int K,.ptr,.ptr,.eq L,.eq L] [10,11,12,13] (λb v V=>DF w V [some (w.heap.size,.rat p),some (w.heap.size+1,.rat q),some (w.heap.size+1+1,.rat 0),nb b v 0 2 (.int 0) (.int A),nb b v 1 3 (.int 0) (.int K)]) ((M2.o.none).none).drew (WB (.vl J λ_ _=>⟨_,by refine DP ?_;go_simp,J⟩)<|WB (.vl J λh j=>FF 0 j (hp:=h.e 0))<|WB (.vl J λ_ j=>Ea 1 j)<|WB (.cl λh _=>EF _ q _ (h.g 2))<|WB (.cl λh _=>(by have h:=Fr _ _ p.num (q.den:Int) _ (h.g 1) (h.g 3) (by have:=S.o.num.words;omega) (by have:=T.o.den.words;omega);rw[Qm.o]at h;exact h))<|WB (.vl J λ_ _=>⟨_,by refine DP ?_;go_simp,J⟩)<|WB (.vl J λh j=>FF 1 j (hp:=h.e 5))<|WB (.vl J λ_ j=>Ea 0 j)<|WB (.cl λh _=>EF _ p _ (h.g 7))<|WB (.cl λh _=>(by have h:=Fr _ _ q.num (p.den:Int) _ (h.g 6) (h.g 8) (by have:=T.o.num.words;omega) (by have:=S.o.den.words;omega);rw[Qn.o]at h;exact h))<|WB (.wr J λ_ j=>Eu 3 j)<|WB (.wr J λ_ j=>Eu 4 j)<|WB (.wr J λh j=>Et 3 j (h.g 4) (hp:=h.g 10))<|WB (.wr J λh j=>Et 4 j (h.g 9) (hp:=h.g 11)) Stp.end_)
   λf V7 hF o=>?_
  refine DP ?_;rw[hF.e 0,hF.e 5];obtain⟨B8,az⟩:=hF.p 10;obtain⟨B9,bc⟩:=hF.p 11;have o:=FG o;simp only[az,bc]at o;rw[az,bc];have M3:=Z o;clear o hF az bc;clear M2;go_upto_region 4 with fail
  refine ED Dj [[],[0],[],[1,2],[],[4],[],[5,6,3],[3,7,7],[],[9,8,8,0,1,2,3,4,5,6,7,8,9]] [.eq (I (some ⟨w.heap.size,0,none⟩)),.int (Rat.num (p)),.int A,.int x,.eq (I (some ⟨w.heap.size+1,0,none⟩)),.int (Rat.num (q)),.int K,.int y,.int (x*y),.ptr,.eq L] [9,10] (λb v V=>DF w V [some (w.heap.size,.rat p),some (w.heap.size+1,.rat q),some (w.heap.size+1+1,.rat 0),some (B8,.int A),some (B9,.int K),nb b v 0 1 (.int 0) (.int (x*y))]) (M3.o.none).drew (WB (.vl J λ_ _=>⟨_,by refine DP ?_;go_simp,J⟩)<|WB (.vl J λh j=>FF 0 j (hp:=h.e 0))<|WB (.vl J λ_ j=>FE 3 j)<|WB (.cl λh _=>(by have h:=Xr _ _ p.num A _ (h.g 1) (h.g 2) T2.o S.o.num T1.o;rw[HX.o]at h;exact h))<|WB (.vl J λ_ _=>⟨_,by refine DP ?_;go_simp,J⟩)<|WB (.vl J λh j=>FF 1 j (hp:=h.e 4))<|WB (.vl J λ_ j=>FE 4 j)<|WB (.cl λh _=>(by have h:=Xr _ _ q.num K _ (h.g 5) (h.g 6) T4.o T.o.num T3.o;rw[HY.o]at h;exact h))<|WB (.cl λh _=>Xn _ _ x y _ (h.g 3) (h.g 7) (by have:=T5.o.words;have:=T6.o.words;omega))<|WB (.wr J λ_ j=>Eu 5 j)<|WB (.wr J λh j=>Et 5 j (h.g 8) (hp:=h.g 9)) Stp.end_)
   λf P hF o=>?_
  refine DP ?_;rw[hF.e 0,hF.e 4];obtain⟨B12,ay⟩:=hF.p 9;have o:=FG o;simp only[ay]at o;rw[ay];have r:=Z o;clear o hF ay;clear M3;go_upto_region 5 with fail
  obtain⟨et,bt,dz,cn,ad,dj⟩:=r.o.int (i:=5) J;have Qb:=ad.ka;obtain⟨ew,bu,ed,co,f9,cj,dw,dh,ae,en,ft,fw⟩:=r.o.rat (i:=0) J;have Qf:=ae.kb;obtain⟨f6,bz,ef,cy,ah,dt⟩:=r.o.int (i:=4) J;have Qd:=ah.ka;obtain⟨f7,ce,eh,cz,fc,ck,dx,di,ai,er,fu,fx⟩:=r.o.rat (i:=1) J;have Qc:=ai.kb;obtain⟨f8,cg,ei,de,aj,du⟩:=r.o.int (i:=3) J;have Qe:=aj.ka;obtain⟨gp,ff,gc,fk,gt,fi,ga,fo,n,go,fv,fy⟩:=r.o.rat (i:=2) J;have U:=n.kb;have Qg:=n.fb;obtain⟨H2,H4,H6,H8,H9,Qo⟩:=Hw (λ(V:G) (h:Bl P V)=>EF _ p V (en.below h)) (λ(V:G) (h:Bl P V) (v2:D) (z:Jg V v2 ((p.den:Int)))=>Xr _ _ (p.den:Int) K V z (dt.below h) T4.o S.o.den T3.o) (λ(V:G) (h:Bl P V)=>EF _ q V (er.below h)) (λ(V:G) (h:Bl P V) (v6:D) (Q:Jg V v6 ((q.den:Int)))=>Xr _ _ (q.den:Int) A V Q (du.below h) T2.o T.o.den T1.o) (λ(V:G) (h:Bl P V) (v4:D) (N:Jg V v4 ((p.den:Int)/K)) (v8:D) (W:Jg V v8 ((q.den:Int)/A))=>Xn _ _ ((p.den:Int)/K) ((q.den:Int)/A) V N W (by have R:=(Sok.div (y:=K) S.o.den).words;have h2:=(Sok.div (y:=A) T.o.den).words;omega)) λ(V:G) (h:Bl P V) (v9:D) (g9:Jg V v9 ((p.den:Int)/K*((q.den:Int)/A)))=>GZ _ _ (p*q) V (by rw[T7.o];exact(dj.below h)) (by rw[T8.o];exact g9);have gn:=r.o.ne 5 2 J J DI;have gi:=r.o.ne 0 2 J J DI;have gl:=r.o.ne 4 2 J J DI;have gj:=r.o.ne 1 2 J J DI;have gk:=r.o.ne 3 2 J J DI;have g:Bl P P.drew:=(BB _ P).drew;go_region_held3 (λm=>(m.cell? ⟨B12,0,none⟩=some (B et)/\m.cell? ⟨B12,1,none⟩=some (C bt dz cn))/\(m.cell? ⟨w.heap.size,0,none⟩=some (B ew)/\m.cell? ⟨w.heap.size,1,none⟩=some (C bu ed co)/\m.cell? ⟨w.heap.size,2,none⟩=some (B f9)/\m.cell? ⟨w.heap.size,3,none⟩=some (C cj dw dh))/\(m.cell? ⟨B9,0,none⟩=some (B f6)/\m.cell? ⟨B9,1,none⟩=some (C bz ef cy))/\(m.cell? ⟨w.heap.size+1,0,none⟩=some (B f7)/\m.cell? ⟨w.heap.size+1,1,none⟩=some (C ce eh cz)/\m.cell? ⟨w.heap.size+1,2,none⟩=some (B fc)/\m.cell? ⟨w.heap.size+1,3,none⟩=some (C ck dx di))/\m.cell? ⟨B8,0,none⟩=some (B f8)/\m.cell? ⟨B8,1,none⟩=some (C cg ei de)) (first|grind|(go_keep;done)|((repeat' apply CB)<;>((repeat rw[JC O]);grind)))
   (first
    |(go_at_call 82;refine(H2.o _ g ).mono ?_;clear H2;rintro e w2 ⟨v2,rfl,z,X⟩;have g:=Bt g X;have Qb:=(ad.below g).ka;have Qf:=(ae.below g).kb;have Qd:=(ah.below g).ka;have Qc:=(ai.below g).kb;have Qe:=(aj.below g).ka;have U:=(n.below g).kb;have Qg:=(n.below g).fb)
    |(go_at_call 84;refine(H4.o _ g _ z).mono ?_;clear H4;rintro e w4 ⟨v4,rfl,N,bh⟩;have z:=z.below bh;have g:=Bt g bh;have Qb:=(ad.below g).ka;have Qf:=(ae.below g).kb;have Qd:=(ah.below g).ka;have Qc:=(ai.below g).kb;have Qe:=(aj.below g).ka;have U:=(n.below g).kb;have Qg:=(n.below g).fb)
    |(go_at_call 82;refine(H6.o _ g ).mono ?_;clear H6;rintro e w6 ⟨v6,rfl,Q,bf⟩;have z:=z.below bf;have N:=N.below bf;have g:=Bt g bf;have Qb:=(ad.below g).ka;have Qf:=(ae.below g).kb;have Qd:=(ah.below g).ka;have Qc:=(ai.below g).kb;have Qe:=(aj.below g).ka;have U:=(n.below g).kb;have Qg:=(n.below g).fb)
    |(go_at_call 84;refine(H8.o _ g _ Q).mono ?_;clear H8;rintro e w8 ⟨v8,rfl,W,aq⟩;have z:=z.below aq;have N:=N.below aq;have Q:=Q.below aq;have g:=Bt g aq;have Qb:=(ad.below g).ka;have Qf:=(ae.below g).kb;have Qd:=(ah.below g).ka;have Qc:=(ai.below g).kb;have Qe:=(aj.below g).ka;have U:=(n.below g).kb;have Qg:=(n.below g).fb)
    |(go_at_call 85;refine(H9.o _ g _ N _ W).mono ?_;clear H9;rintro e w9 ⟨v9,rfl,g9,an⟩;have z:=z.below an;have N:=N.below an;have Q:=Q.below an;have W:=W.below an;have g:=Bt g an;have Qb:=(ad.below g).ka;have Qf:=(ae.below g).kb;have Qd:=(ah.below g).ka;have Qc:=(ai.below g).kb;have Qe:=(aj.below g).ka;have U:=(n.below g).kb;have Qg:=(n.below g).fb)
    |(go_at_call 86;refine(Qo.o _ g _ g9).mono ?_;clear Qo;rintro e gw ⟨gv,rfl,bg,am⟩;obtain⟨gr,fh,gh,fm,gu,fj,gb,fr,rfl⟩:=Jj.form bg;have z:=z.below am;have N:=N.below am;have Q:=Q.below am;have W:=W.below am;have g9:=g9.below am;have g:=Bt g am;have Qb:=(ad.below g).ka;have Qf:=(ae.below g).kb;have Qd:=(ah.below g).ka;have Qc:=(ai.below g).kb;have Qe:=(aj.below g).ka;have U:=(n.below g).kb;have Qg:=(n.below g).fb))
  all_goals go_wp2_with fail
  have Qk:=Bt r.o.2.2 g;have Qq:=r.o.ge 2 J;exact BA (by simp[results,results41,go_sem,U]) J ⟨_,J,bg.put4 (n.below g) J J J J _ _ _ _,Jo Qk Qq _ _ _ _⟩
def Q9(X vb:D)(x y:Int)(w:G)(v:Jg w X x)(z:Jg w vb y)(P:Sok x)(Q:Sok y):
 F H 107 #[X,vb] w λe w'=>∃u,e=.returned (.tuple #[u,B (decide (y≠0))])/\Jj w' u (TU x y)/\Bl w w':=by
 have HX:=Z P;have HY:=Z Q;clear P Q;obtain⟨s,a,T,K,rfl⟩:=Jg.form2 v;obtain⟨t,b,lb,N,rfl⟩:=Jg.form2 z;have n:=Ik w s t a b T K lb N _ _ v z;obtain⟨W0,r⟩:=ex (((w.alloc (E #[B s,C a T K] 36)).alloc (E #[B t,C b lb N] 36)).alloc (E #[B false,C none 0 0,B false,C none 0 0] 38));have A:=Z r;rw[r]at n;have g:=Z n;clear n v z r;obtain⟨s1,a1,l1,c1,U,i1⟩:=g.o.int (i:=0) J;have Qf:=U.ka;obtain⟨s2,a2,l2,c2,W,S⟩:=g.o.int (i:=1) J;have Qg:=W.ka;obtain⟨s3,a3,l3,c3,t3,b3,k3,d3,f,r3,i3,j3⟩:=g.o.rat (i:=2) J;have k:=f.kb;have o:=f.fb;have l:=Z (Lv _ y W0 S);have j:=Z λ(V:G) (h:Bl W0 V) (d:y≠0)=>Lx _ _ x y V (i1.below h) (S.below h) d HX.o HY.o;by_cases d:y=0
 . rw[BG d]at l;have m:=Z (BE (p:=y≠0) λh=>h d);rw[m.o];have HE:=Z (show TU x y=0 by rw[d,Rat.divInt_zero]);clear d j;go_enter func107,ntmps107
   go_upto_region 1 with fail
   rw[A.o];go_wp2_with(go_at_call 100;refine l.o.mono ?_;rintro e w1 ⟨rfl,c⟩;have k:=(f.below c).kb;have o:=(f.below c).fb)
   have hr:Jj w1 (M #[B false,C none 0 0,B false,C none 0 0]) (TU x y):=by rw[HE.o];exact Dp _
   have q:=Bt g.o.2.2 c;exact BA (by simp[results,results107,go_sem,k]) J ⟨_,J,hr.put4 (f.below c) J J J J _ _ _ _,Jo q O _ _ _ _⟩
 . rw[BE d]at l;have m:=Z (BG (p:=y≠0) d);rw[m.o];have j:=Z λV h=>j.o V h d;clear d;go_enter func107,ntmps107
   go_upto_region 1 with fail
   rw[A.o];go_wp2_with(first
    |(go_at_call 100;refine l.o.mono ?_;rintro e w1 ⟨rfl,c⟩;have Qf:=(U.below c).ka;have Qg:=(W.below c).ka;have k:=(f.below c).kb;have o:=(f.below c).fb)
    |(go_at_call 104;refine(j.o _ c).mono ?_;clear j;rintro e w2 ⟨u2,rfl,R,ad⟩;obtain⟨an,ae,am,ai,aq,ah,ak,aj,rfl⟩:=Jj.form R;have c:=Bt c ad;have k:=(f.below c).kb;have o:=(f.below c).fb))
   have q:=Bt g.o.2.2 c;have Qe:=g.o.ge 2 J;exact BA (by simp[results,results107,go_sem,k]) J ⟨_,J,R.put4 (f.below c) J J J J _ _ _ _,Jo q Qe _ _ _ _⟩
def FI(p q:Rat):Int:=XI (p.num*q.den) (q.num*p.den)
theorem RA(va vb:D)(p q:Rat)(w:G)(ha:Jj w va p)(hb:Jj w vb q)(aj:Sq p)(ak:Sq q):
 F H 42 #[va,vb] w λe g=>e=.returned (.int .i64 (FI p q))/\Bl w g:=by
 obtain⟨s,a,l,c,t,b,k,d,rfl⟩:=Jj.form ha;obtain⟨s',a',l',c',t',b',k',d',rfl⟩:=Jj.form hb;have X:=Q3 w s t s' t' a b a' b' l c k d l' c' k' d' p q ha hb;obtain⟨W0,ad⟩:=ex ((w.alloc (E #[B s,C a l c,B t,C b k d] 38)).alloc (E #[B s',C a' l' c',B t',C b' k' d'] 38));have Qf:=Z ad;rw[ad]at X;have A:=Z X;obtain⟨n,hn⟩:=ex (FI p q);have HN:=Z hn;rw[hn];have HP:=Z aj;have HQ:=Z ak;clear X ha hb ad aj ak hn;go_enter func42,ntmps42
 go_upto_region 1 with fail
 rw[Qf.o];clear Qf;obtain⟨T,ai⟩:=ex (decide (p.den=1/\q.den=1):Bool);have P:=Z ai;clear ai;go_cut [10] λc g=>c=B T/\Hid (DF w g [some (w.heap.size,.rat p),some (w.heap.size+1,.rat q)])
 case first=>
  obtain⟨s1,a1,l1,c1,t1,b1,k1,d1,n1,r1,i1,j1⟩:=A.o.rat (i:=0) J;have Qh:=n1.kb;obtain⟨s2,a2,l2,c2,t2,b2,k2,d2,n2,r2,i2,j2⟩:=A.o.rat (i:=1) J;have Qi:=n2.kb;have m:=Z (YL _ p W0 r1);have W:=Z λ(V:G) (h:Bl W0 V)=>YL _ q V (r2.below h);by_cases v:p.den=1
  . rw[BG v]at m;obtain⟨b2,S⟩:=ex (decide (q.den=1));rw[S]at W;have Qe:=Z (show b2=T by rw[<-S,<-P.o];grind);clear S v;go_wp2_with(first
     |(go_at_call 59;refine m.o.mono ?_;clear m;rintro e w1 ⟨rfl,x⟩;have Qh:=(n1.below x).kb;have Qi:=(n2.below x).kb)
     |(go_at_call 59;refine(W.o _ x).mono ?_;clear W;rintro e w2 ⟨rfl,S⟩))
    go_meet
    case rel=>exact⟨by rw[Qe.o],Z ((A.o.below x).below S)⟩
  . rw[BE v]at m;have Qe:=Z (show T=false by rw[<-P.o];grind);clear v;go_wp2_with(go_at_call 59;refine m.o.mono ?_;clear m;rintro e w1 ⟨rfl,x⟩)
    go_meet
    case rel=>exact⟨by rw[Qe.o],Z (A.o.below x)⟩
 obtain⟨rfl,MM⟩:=hcut;have u:=MM;clear A MM;cases T with
 |true=>
  have Qd:=BX P.o;have HE:=Z (show XI p.num q.num=n by rw[<-HN.o];unfold FI;rw[Qd.1,Qd.2];simp);clear Qd P;obtain⟨s3,a3,l3,c3,t3,b3,k3,d3,n3,r3,i3,j3⟩:=u.o.rat (i:=0) J;have an:=n3.kb;obtain⟨s4,a4,l4,c4,t4,b4,k4,d4,n4,r4,i4,j4⟩:=u.o.rat (i:=1) J;have aq:=n4.kb;have m:=Z (XB _ _ p.num q.num wc i3 i4);rw[HE.o]at m;go_wp2_with(go_at_call 87;refine m.o.mono ?_;clear m;rintro e w1 ⟨rfl,f⟩)
  go_ret;exact⟨J,Bt u.o.2.2 f⟩
 |false=>
  clear P;go_upto_region 3 with fail
  obtain⟨s5,a5,l5,c5,t5,b5,k5,d5,y,r5,i5,j5⟩:=u.o.rat (i:=0) J;have N:=y.kb;obtain⟨s6,a6,l6,c6,t6,b6,k6,d6,z,r6,i6,j6⟩:=u.o.rat (i:=1) J;have K:=z.kb;obtain⟨H3,H4,H8,H9,Qg⟩:=Ej (λ(V:G) (h:Bl wc V)=>EF _ q V (r6.below h)) (λ(V:G) (h:Bl wc V) (v3:D) (j:Jg V v3 ((q.den:Int)))=>Xn _ _ p.num (q.den:Int) V (i5.below h) j (by have v:=HP.o.num.words;have h2:=HQ.o.den.words;omega)) (λ(V:G) (h:Bl wc V)=>EF _ p V (r5.below h)) (λ(V:G) (h:Bl wc V) (v8:D) (r:Jg V v8 ((p.den:Int)))=>Xn _ _ q.num (p.den:Int) V (i6.below h) r (by have v:=HQ.o.num.words;have h2:=HP.o.den.words;omega)) λ(V:G) (h:Bl wc V) (v4:D) (o:Jg V v4 (p.num*(q.den:Int))) (v9:D) (Q:Jg V v9 (q.num*(p.den:Int)))=>(by have h:=XB _ _ (p.num*(q.den:Int)) (q.num*(p.den:Int)) V o Q;rw[show XI (p.num*(q.den:Int)) (q.num*(p.den:Int))=n from HN.o]at h;exact h);have f:Bl wc wc.drew:=(BB _ wc).drew;go_region_held3 (λg=>(g.cell? ⟨w.heap.size,0,none⟩=some (B s5)/\g.cell? ⟨w.heap.size,1,none⟩=some (C a5 l5 c5)/\g.cell? ⟨w.heap.size,2,none⟩=some (B t5)/\g.cell? ⟨w.heap.size,3,none⟩=some (C b5 k5 d5))/\g.cell? ⟨w.heap.size+1,0,none⟩=some (B s6)/\g.cell? ⟨w.heap.size+1,1,none⟩=some (C a6 l6 c6)/\g.cell? ⟨w.heap.size+1,2,none⟩=some (B t6)/\g.cell? ⟨w.heap.size+1,3,none⟩=some (C b6 k6 d6)) (first|grind|(go_keep;done)|((repeat' apply CB)<;>((repeat rw[JC O]);first|(simp only[*];done)|(go_keep;done))))
   (first
    |(go_at_call 82;refine(H3.o _ f ).mono ?_;clear H3;rintro e w3 ⟨v3,rfl,j,am⟩;have f:=Bt f am;have N:=(y.below f).kb;have K:=(z.below f).kb)
    |(go_at_call 85;refine(H4.o _ f _ j).mono ?_;clear H4;rintro e w4 ⟨v4,rfl,o,ah⟩;have j:=j.below ah;have f:=Bt f ah;have N:=(y.below f).kb;have K:=(z.below f).kb)
    |(go_at_call 82;refine(H8.o _ f ).mono ?_;clear H8;rintro e w8 ⟨v8,rfl,r,ae⟩;have j:=j.below ae;have o:=o.below ae;have f:=Bt f ae;have N:=(y.below f).kb;have K:=(z.below f).kb)
    |(go_at_call 85;refine(H9.o _ f _ r).mono ?_;clear H9;rintro e w9 ⟨v9,rfl,Q,U⟩;have j:=j.below U;have o:=o.below U;have r:=r.below U;have f:=Bt f U;have N:=(y.below f).kb;have K:=(z.below f).kb)
    |(go_at_call 87;refine(Qg.o _ f _ o _ Q).mono ?_;clear Qg;rintro e ay ⟨rfl,R⟩;have j:=j.below R;have o:=o.below R;have r:=r.below R;have Q:=Q.below R;have f:=Bt f R;have N:=(y.below f).kb;have K:=(z.below f).kb))
  all_goals go_wp2_with fail
  go_ret;exact⟨J,Bt u.o.2.2 f⟩
theorem RB(va vb:D)(p q:Rat)(w:G)(x:Jj w va p)(y:Jj w vb q)(ad:Sq p)(ae:Sq q):
 F H 43 #[va,vb] w λe j=>∃u,e=.returned u/\Jj j u (p-q)/\Bl w j:=by
 obtain⟨s,a,l,c,t,b,k,d,rfl⟩:=Jj.form x;obtain⟨s',U,l',c',t',X,k',d',rfl⟩:=Jj.form y;have o:=Il w s t s' t' a b U X l c k d l' c' k' d' p q x y;obtain⟨W0,v⟩:=ex (((w.alloc (E #[B s,C a l c,B t,C b k d] 38)).alloc (E #[B s',C U l' c',B t',C X k' d'] 38)).alloc (E #[B false,C none 0 0,B false,C none 0 0] 38));have Q:=Z v;rw[v]at o;obtain⟨m,HP,P⟩:=DY o ad ae;clear o x y v ad ae;go_enter func43,ntmps43
 go_upto_region 1 with fail
 rw[Q.o];clear Q;obtain⟨s1,W,l1,c1,t1,b1,k1,d1,z,r1,i1,j1⟩:=m.o.rat (i:=0) J;have R:=z.kb;obtain⟨s2,a2,l2,c2,t2,b2,k2,d2,A,r2,i2,j2⟩:=m.o.rat (i:=1) J;have T:=A.kb;obtain⟨s3,a3,l3,c3,t3,b3,k3,d3,n,r3,i3,j3⟩:=m.o.rat (i:=2) J;have r:=n.kb;have S:=n.fb;have K:=Z λ(V:G) (h:Bl W0 V)=>Lm _ _ 0 q.num V (Ds _) (i2.below h) (by have:=Sok.zero.words;omega) (by have:=P.o.num.words;omega);have N:=Z (λ(V:G) (h:Bl W0 V) (s:Bool) (a:TR) (l c:Nat) (g:Jg V (M #[B s,C a l c]) (0-q.num))=>show F H 40 #[M #[B s1,C W l1 c1,B t1,C b1 k1 d1],M #[B s,C a l c,B t2,C b2 k2 d2]] V λe j=>∃u,e=.returned u/\Jj j u (p-q)/\Bl V j by
  have h1:=Im _ _ p (-q) V (r1.below h) (Jj.mk (q:=-q) (by rw[Rat.neg_num,<-Int.zero_sub];exact g) (j2.below h)) HP.o P.o.neg;rw[<-Rat.sub_eq_add_neg]at h1;exact h1)
 have bh:=m.o.ne 0 2 J J DI;have bi:=m.o.ne 1 2 J J DI;have f:Bl W0 W0.drew:=(BB _ W0).drew;go_region_held3 (λj=>(j.cell? ⟨w.heap.size,0,none⟩=some (B s1)/\j.cell? ⟨w.heap.size,1,none⟩=some (C W l1 c1)/\j.cell? ⟨w.heap.size,2,none⟩=some (B t1)/\j.cell? ⟨w.heap.size,3,none⟩=some (C b1 k1 d1))/\j.cell? ⟨w.heap.size+1,0,none⟩=some (B s2)/\j.cell? ⟨w.heap.size+1,1,none⟩=some (C a2 l2 c2)/\j.cell? ⟨w.heap.size+1,2,none⟩=some (B t2)/\j.cell? ⟨w.heap.size+1,3,none⟩=some (C b2 k2 d2)) (first|grind|(go_keep;done)|grind[JC])
  (first
   |(go_at_call 88;refine(K.o _ f).mono ?_;clear K;rintro e w1 ⟨u1,rfl,ah,aj⟩;obtain⟨bj,am,bf,ay,rfl⟩:=Jg.form2 ah;have f:=Bt f aj;have R:=(z.below f).kb;have T:=(A.below f).kb;have r:=(n.below f).kb;have S:=(n.below f).fb)
   |(go_at_call 40;refine(N.o _ f _ _ _ _ ah).mono ?_;clear N;rintro e w2 ⟨u2,rfl,ai,ak⟩;obtain⟨bk,an,bg,az,bm,aq,bd,bc,rfl⟩:=Jj.form ai;have f:=Bt f ak;have R:=(z.below f).kb;have T:=(A.below f).kb;have r:=(n.below f).kb;have S:=(n.below f).fb))
 all_goals go_wp2_with fail
 have Qg:=Bt m.o.2.2 f;have Qf:=m.o.ge 2 J;exact BA (by simp[results,results43,go_sem,r]) J ⟨_,J,ai.put4 (n.below f) J J J J _ _ _ _,Jo Qg Qf _ _ _ _⟩
end
section
variable{qs:X}{cap l:Nat}{a:TR}{W:G}
theorem RC(q:Rat):FI q 0=0↔q=0:=by
 grind[Rat.eq_iff_mul_eq_mul,FI,XI]
def RD:Sq 0:=Sq.of (k:=1) ⟨Sm.zero _,Sm.one _ O⟩ O
def Ly(v:D)(q:Rat)(w:G)(h:Jj w v q)(r:Sq q):
 F H 51 #[v] w λe u=>e=.returned (B (decide (q=0)))/\Bl w u:=by
 obtain⟨s,a,l,c,t,b,k,d,rfl⟩:=h.form;have b0:=JA.new w 38 (B s) (C a l c) (B t) (C b k d);have f:Bl w (w.alloc (E #[B s,C a l c,B t,C b k d] 38)):=Ba w _;obtain⟨W0,g⟩:=ex (w.alloc (E #[B s,C a l c,B t,C b k d] 38));rw[g]at b0 f;have o:=Z g;have i:=Z (RA _ _ q 0 W0 (h.below f) (Dp _) r RD);obtain⟨x,y,z,A⟩:=b0.cq;have j:=Z (RC q);obtain⟨n,m⟩:=ex (FI q 0);rw[m]at i j;clear g m;go_enter func51,ntmps51
 go_upto_region 1 with fail
 rw[o.o];go_wp2_with(go_at_call 42;refine i.o.mono ?_;rintro e K ⟨rfl,p⟩)
 go_ret;refine⟨?_,Bt f p⟩;show Ending.returned (Value.bool (n==0))=_;have e:(n==0)=decide (q=0):=by rw[Ce];simp[j.o]
 rw[e]
def RE(c:Nat)(a:TR)(len cap:Nat)(x y z u:Nat->D)(k:Nat)(W:G):Prop:=
 W.cell? ⟨c,0,none⟩=some (C a len cap)/\(k<len->∃b,a=some ⟨b,0,none⟩/\W.cell? ⟨b,(len-1-k)*4,none⟩=some (x (len-1-k))/\W.cell? ⟨b,(len-1-k)*4+1,none⟩=some (y (len-1-k))/\
  W.cell? ⟨b,(len-1-k)*4+2,none⟩=some (z (len-1-k))/\W.cell? ⟨b,(len-1-k)*4+3,none⟩=some (u (len-1-k)))
def Gb(len:Nat)(x y z u:Nat->D)(k:Nat):Array D:=#[.int .i64 ((len:Int)-1-k),M #[x (len-1-k),y (len-1-k),z (len-1-k),u (len-1-k)]]
def Lz(F:Fence)(n:Nat)(K:F.fn 94)(N:F.round=none)(hn:1<=n)(d:Nat)(a:TR)(len cap:Nat)(x y z u:Nat->D)(ae:len<=1099511627776):
 FZ F n H 94 #[I (some ⟨d,0,none⟩)] len (Gb len x y z u) (RE d a len cap x y z u):=λl J P W j w g=>by
 have T:=(j 0 W g).1;refine B0 func94 rfl K ?_ N;simp only[ntmps94,Aj,Ai,AN,Nat.reduceAdd,Nat.reduceSub,Aw,Ax,AL,AA,Ah,Am];gi_wp2;gi_loopw [3] (λi wr=>∃k:Nat,k<=len/\i=.int .i64 ((len:Int)-1-k)/\J k wr) λi _=>(intOf i+1).toNat
 case atStart=>exact⟨0,AH _,sp,g⟩
 case round=>
  obtain⟨k,hk,rfl,hJ⟩:=hrel;obtain⟨S,A⟩:=j k wr hJ;by_cases c:k<len
  . obtain⟨b,rfl,U,X,ad,V⟩:=A c;obtain⟨fn,tmps,assign,body,q,v⟩:=w k wr hJ c;have f:((len:Int)-1-k)=((len-1-k:Nat):Int):=O
    have R:len-1-k<len:=O
    dsimp only[Gb]at q;rw[f]at q ⊢;generalize o:len-1-k=m at *;have r:=Hid.o (p:=Hid (len-1-k=m)) o;clear o f;gi_wp2;refine v.mono ?_;rintro e Q (⟨rfl,s⟩|⟨rfl,t⟩)
    . gi_wp2;go_roundw
      case rel=>exact⟨k+1,O,by(congr 1;have:=r.o;omega),s⟩
      case measure=>simp[intOf]
    . gi_wp2;refine BA (results_none rfl _ _ _) rfl ?_;exact⟨⟨_,rfl⟩,.inr ⟨k,c,t⟩⟩
  . obtain rfl:k=len:=O
    gi_wp2;go_end0;exact⟨⟨_,rfl⟩,.inl hJ⟩
def L0(F:Fence)(n:Nat)(b:F.fn 50)(c:F.round=none)(a:TR)(len cap:Nat)(w:G):
 CallsIn F n H 50 #[C a len cap] w λe d=>e=.returned (.func (.func 94) #[] #[I (some ⟨w.heap.size,0,none⟩)])/\d=w.alloc (E #[C a len cap] 23):=by
 refine B0 func50 J b ?_ c;simp only[ntmps50,Aj,Ai,AN,Nat.reduceAdd,Nat.reduceSub,Aw,Ax,AL,AA,Ah,Am];gi_wp2;go_ret;exact⟨J,J⟩
def Gc:D->Bool|B b=>b|_=>false
def Gd:D->TR|C a _ _=>a|_=>none
def Ge:D->Nat|C _ _ c=>c|_=>0
theorem RowK.pick{r:Bool}(h:RowK r W (C a l cap) qs):l=qs.length/\l<=cap/\cap<=9223372036854775807/\l<=1099511627776/\∃x y z u:Nat->D,∀j,j<l->Dd r W (M #[x j,y j,z j,u j]) (cf qs j)/\
 ∃b,a=some ⟨b,0,none⟩/\b<W.heap.size/\W.cell? ⟨b,j*4,none⟩=some (x j)/\W.cell? ⟨b,j*4+1,none⟩=some (y j)/\W.cell? ⟨b,j*4+2,none⟩=some (z j)/\W.cell? ⟨b,j*4+3,none⟩=some (u j):=by
 obtain⟨m,n,e,f,g,i,c⟩:=h;cases e;refine⟨J,f,g,i,?_⟩;rcases c with c|⟨b,o,k⟩
 . exact⟨λ_=>L,λ_=>L,λ_=>L,λ_=>L,λj d=>by rw[c]at d;simp at d⟩
 . obtain⟨cs,c1,c2⟩:=k;refine⟨λj=>cs[j*4]?.getD L,λj=>cs[j*4+1]?.getD L,λj=>cs[j*4+2]?.getD L,λj=>cs[j*4+3]?.getD L,λj d=>?_⟩;grind[cell_of]
def RowK.forms(h:RowK true W (C a l cap) qs):l=qs.length/\l<=cap/\cap<=9223372036854775807/\l<=1099511627776/\∃(s t:Nat->Bool) (k m:Nat->TR) (p n o dd:Nat->Nat),∀j,j<l->Jj W (M #[B (s j),C (k j) (p j) (n j),B (t j),C (m j) (o j) (dd j)]) (cf qs j)/\
 ∃b,a=some ⟨b,0,none⟩/\b<W.heap.size/\W.cell? ⟨b,j*4,none⟩=some (B (s j))/\W.cell? ⟨b,j*4+1,none⟩=some (C (k j) (p j) (n j))/\W.cell? ⟨b,j*4+2,none⟩=some (B (t j))/\W.cell? ⟨b,j*4+3,none⟩=some (C (m j) (o j) (dd j)):=by
 obtain⟨r,v,w,A,x,y,z,u,N⟩:=h.pick;refine⟨r,v,w,A,λj=>Gc (x j),λj=>Gc (z j),λj=>Gd (y j),λj=>Gd (u j),λj=>EW (y j),λj=>Ge (y j),λj=>EW (u j),λj=>Ge (u j),λj P=>?_⟩;obtain⟨i,b,q,K,c0,c1,c2,c3⟩:=N j P;obtain⟨s,Q,U,c',t,R,T,S,e,_⟩:=(show Jj W _ _ from i);simp only[B3,C6,C1,and_true]at e;obtain⟨c,d,f,g⟩:=e;rw[c,d,f,g]at i;rw[c]at c0;rw[d]at c1;rw[f]at c2;rw[g]at c3;dsimp only;rw[c,d,f,g];exact⟨i,b,q,K,c0,c1,c2,c3⟩
def L1(w:G)(a:TR)(len cap:Nat)(qs:X)(k:Nat)(W:G):Prop:=
 ((((Boxed W w.heap.size 23 (C a len cap)/\Boxed W (w.heap.size+1) 93 (.func (.func 51) #[] #[]))/\Boxed W (w.heap.size+1+1) 23 (C none 0 0))/\Boxed W (w.heap.size+1+1+1) 23 (C a len cap))/\Bl w W)/\∀j,len-k<=j->j<len->cf qs j=0
def L2(w:G)(a:TR)(len cap:Nat)(qs:X)(c:Code)(k:Nat)(W:G):Prop:=
 (Boxed W (w.heap.size+1+1) 23 (C a (len-1-k+1) cap)/\Bl w W)/\(c=.ret/\cf qs (len-1-k)≠0/\∀j,len-k<=j->j<len->cf qs j=0)
def RF(w:G)(a:TR)(len cap:Nat)(qs:X):OwnFrom (w.heap.size+1+1+1+1) (L1 w a len cap qs):=
 BL (BL (BL (BL (BL (Bf (boxed_own _ _ λ_=>C a len cap) _) (Bf (boxed_own _ _ λ_=>.func (.func 51) #[] #[]) _)) (Bf (boxed_own _ _ λ_=>C none 0 0) _)) (Bf (boxed_own _ _ λ_=>C a len cap) _)) (Bo (Aa _) O)) (DA _ _)
def RG(w:G)(a:TR)(len cap:Nat)(qs:X)(c:Code):OwnFrom (w.heap.size+1+1+1+1) (L2 w a len cap qs c):=
 BL (BL (Bf (boxed_own _ _ λk=>C a (len-1-k+1) cap) _) (Bo (Aa _) O)) (DA _ _)
theorem RH(a:TR)(len cap:Nat)(qs:List Rat)(w:G)(h:RowK true w (C a len cap) qs)(hs:Sqs qs):
 F H 106 #[C a len cap,.func (.func 51) #[] #[]] w λe y=>∃u,e=.returned u/\(RowK true y u (JE qs)/\Bl w y)/\(u=C none 0 0/\JE qs=[]\/u=C a (JE qs).length cap):=by
 obtain⟨hl,ak,am,ai,s,t,A,N,T,P,S,dd,hc⟩:=h.forms;obtain⟨HL,HC,HS⟩:=DY hl hc hs;clear hc hl hs;refine(BK (n:=3)).1 ?_;refine BV func106 J trivial ?_ J;simp only[ntmps106,Aj,Ai,AN,Nat.reduceAdd,Nat.reduceSub,Aw,Ax,AL,AA,Ah,Am];gi_wp2_with(refine⟨trivial,?_⟩;gi_at_call 50;refine(L0 Fence.wide _ trivial J _ _ _ _).mono ?_;rintro e y ⟨rfl,rfl⟩)
 have b0:=(((BI w 23 (C a len cap)).alloc (E #[.func (.func 51) #[] #[]] 93)).alloc (E #[C none 0 0] 23)).alloc (E #[C a len cap] 23);have b1:=((BI (w.alloc (E #[C a len cap] 23)) 93 (.func (.func 51) #[] #[])).alloc (E #[C none 0 0] 23)).alloc (E #[C a len cap] 23);have b2:=(BI ((w.alloc (E #[C a len cap] 23)).alloc (E #[.func (.func 51) #[] #[]] 93)) 23 (C none 0 0)).alloc (E #[C a len cap] 23);have b3:=BI (((w.alloc (E #[C a len cap] 23)).alloc (E #[.func (.func 51) #[] #[]] 93)).alloc (E #[C none 0 0] 23)) 23 (C a len cap);simp only[A1]at b1 b2 b3;have Qd:Bl w ((((w.alloc (E #[C a len cap] 23)).alloc (E #[.func (.func 51) #[] #[]] 93)).alloc (E #[C none 0 0] 23)).alloc (E #[C a len cap] 23)):=(((Ba w _).alloc sp _).alloc si _).alloc si _;have hN:((((w.alloc (E #[C a len cap] 23)).alloc (E #[.func (.func 51) #[] #[]] 93)).alloc (E #[C none 0 0] 23)).alloc (E #[C a len cap] 23)).heap.size=w.heap.size+1+1+1+1:=sp
 refine KY J O (gf:=94) (lb:=#[I (some ⟨w.heap.size+1+1+1,0,none⟩)]) J trivial (DB func94 TS J)
  (Lz Fence.wide _ trivial J O (w.heap.size+1+1+1) a len cap (λj=>B (s j)) (λj=>C (A j) (T j) (P j)) (λj=>B (t j)) (λj=>C (N j) (S j) (dd j)) ai) (λ_=>rfl)
  (L1 w a len cap qs) (L2 w a len cap qs) (by rw[hN];exact RF w a len cap qs) (λc=>by rw[hN];exact RG w a len cap qs c)
  ⟨⟨⟨⟨⟨b0,b1⟩,b2⟩,b3⟩,Qd⟩,λj r Q=>by omega⟩ ?rd
  (λk b=>{ tmps:=#[C a len cap,.func (.func 51) #[] #[],I (some ⟨w.heap.size,0,none⟩),I (some ⟨w.heap.size+1,0,none⟩),I (some ⟨w.heap.size+1+1,0,none⟩),.int .i64 ((len:Int)-1-k),I (some ⟨b,0,none⟩),C a len cap,.func (.func 94) #[] #[I (some ⟨w.heap.size+1+1+1,0,none⟩)],.int .i64 ((len:Int)-1-k),M #[B (s (len-1-k)),C (A (len-1-k)) (T (len-1-k)) (P (len-1-k)),B (t (len-1-k)),C (N (len-1-k)) (S (len-1-k)) (dd (len-1-k))],L,L,L,L,L,L,L,L],defers:=[] })
  (λk=>E #[B (s (len-1-k)),C (A (len-1-k)) (T (len-1-k)) (P (len-1-k)),B (t (len-1-k)),C (N (len-1-k)) (S (len-1-k)) (dd (len-1-k))] 38 (0,0)) ?assign ?body ?done ?stop
 case rd=>
  rintro k W ⟨⟨⟨_,c3⟩,f⟩,_⟩;refine⟨c3.cell,λhk=>?_⟩;obtain⟨_,b,ea,R,r,Q,h3,h4⟩:=HC.o (len-1-k) O;exact⟨b,ea,(f.cell (p:=⟨b,_,none⟩) R).trans r,(f.cell (p:=⟨b,_,none⟩) R).trans Q,(f.cell (p:=⟨b,_,none⟩) R).trans h3,(f.cell (p:=⟨b,_,none⟩) R).trans h4⟩
 case assign=>
  intro l k W K v;unfold Gb;gi_wp2;exact v
 case body=>
  rintro l k b W ⟨⟨⟨⟨⟨c0,c1⟩,c2⟩,c3⟩,f⟩,i⟩ hk aq aj ad;have hm:len-1-k<len:=O
  obtain⟨hi,_⟩:=HC.o (len-1-k) hm;have HI:=Z (Jj.below hi f);have o:=Z i;have e1:((len:Int)-1-k)=((len-1-k:Nat):Int):=O
  rw[e1];have Qe:=Z (show len-1-k=len-1-k from J);clear e1 i hi;obtain⟨m,ae⟩:=ex (len-1-k);have U:=Z ae;rw[ae]at ad HI hm ⊢;clear ae Qe;have q0:JA W b 38 (B (s m)) (C (A m) (T m) (P m)) (B (t m)) (C (N m) (S m) (dd m)):=ad;obtain⟨k0,k1,k2,k3⟩:=q0.cq;have d0:=c0.cell;have d1:=c1.cell;have d2:=c2.cell;have f2:=c2.frozen;clear q0 ad;have z:=Z (Bb l ((BK (n:=3-1-1-1)).2 (Ly _ _ W HI.o (HS.o.at m))));by_cases g:cf qs m=0
  . have V:=Z g;rw[show decide (cf qs m=0)=true from BG g]at z;clear g;gi_wp2_with(refine⟨trivial,?_⟩;gi_at_call 51;refine z.o.mono ?_;rintro e y ⟨rfl,d⟩)
    refine⟨(J5 d).from _,⟨⟨⟨⟨Jk c0 d,Jk c1 d⟩,Jk c2 d⟩,Jk c3 d⟩,Bt f d⟩,λj r Q=>?_⟩;by_cases x:j=m
    . rw[x];exact V.o
    . have:=U.o;exact o.o j O Q
  . have V:=Z g;rw[show decide (cf qs m=0)=false from BE g]at z;clear g;gi_wp2_with(refine⟨trivial,?_⟩;gi_at_call 51;refine z.o.mono ?_;rintro e y ⟨rfl,d⟩;have d0:=(Jk c0 d).cell;have d2:=(Jk c2 d).cell;have f2:=(Jk c2 d).frozen)
    have ah:=Bt f d;refine⟨((J5 d).trans (BT _ _ _)).from _,⟨?_,ah.setCell (p:=⟨w.heap.size+1+1,0,none⟩) si _⟩,J,by rw[U.o];exact V.o,o.o⟩;rw[U.o];exact(Jk c2 d).set _
 case done=>
  rintro D W hD ⟨⟨⟨⟨⟨c0,c1⟩,c2⟩,c3⟩,f⟩,i⟩ v;have d1:=c2.cell;have f1:=c2.frozen;have o:=Z i;clear i;gi_wp2;have Qc:=(BT W ⟨w.heap.size+1+1,0,none⟩ (C none 0 0)).same D _ v J;refine⟨sp,.inl ⟨_,_,J,Bc Qc,?_⟩⟩;have X:=(c2.set (C none 0 0)).kept (BW _ D (.deferred none)) (λe=>by grind);have q:=X.cell;have e0:=Gu λj=>by
   rcases Az j len with x|x
   . exact o.o j O x
   . exact Ed (by have:=HL.o;omega)
  refine⟨C none 0 0,by simp[results,results106,go_sem,q],_,J,⟨?_,?_⟩,Al ⟨J,e0⟩⟩
  . rw[e0];exact RowK.nil _ _
  . exact(f.setCell (p:=⟨w.heap.size+1+1,0,none⟩) si _).trans (belowK_b (w:=w) (Aa _) _ D _ _ (by simp at hD;omega) Qc J J)
 case stop=>
  rintro D c k W hD hk ⟨⟨c1,f⟩,rfl,g,i⟩ v;have d1:=c1.cell;have o:=Z (show cf qs (len-1-k)≠0/\∀j,len-k<=j->j<len->cf qs j=0 from⟨g,i⟩);clear i g;gi_wp2;refine⟨sp,.inl ⟨_,_,J,Bc v,?_⟩⟩;have X:=c1.kept (BW _ D (.deferred none)) (λe=>by grind);have q:=X.cell;have Qb:Bl w (W.putObj D (.deferred none)):=f.trans (belowK_b (w:=w) (Aa _) _ D _ _ (by simp at hD;omega) v J J);have an:=HL.o;have e:JE qs=qs.take (len-1-k+1):=by
   refine KA O (Au o.o.1) λj x=>?_;rcases Az j len with r|r
   . exact o.o.2 j O r
   . exact Ed O
  have el:(qs.take (len-1-k+1)).length=len-1-k+1:=by rw[Ae];omega
  refine⟨C a (len-1-k+1) cap,by simp[results,results106,go_sem,q],_,J,⟨?_,Qb⟩,Au (by rw[e,el])⟩;rw[e];exact(h.below Qb).take O
def Io(b:Nat)(v:D):Prop:=∀a l c,v=C (some a) l c->b<=a.block
def Gf(b:Nat)(v:D):Prop:=∀a l c,v=M #[C (some a) l c]->b<=a.block
def FJ{B:Nat}{c:Nat}(b:Boxed W B 25 (C a l c))(x:D){v:D}(h:RowK true W v qs):RowK true (W.setCell ⟨B,0,none⟩ x) v qs:=
 M3.Ie (cs:=#[C a l c]) b (o:=0) J J true DI x v qs h
def Ip(v:D)(qs:X)(w:G)(h:RowK true w v qs)(hs:Sqs qs):
 F H 65 #[v] w λe q=>∃u,e=.returned u/\Yf q u (JE qs)/\(∀b,Io b v->Gf b u)/\Bl w q:=by
 obtain⟨a,l,c,rfl⟩:=h.form;have b0:=BI w 25 (C none 0 0);have d:Bl w (w.alloc (E #[C none 0 0] 25)):=Ba w _;obtain⟨W0,i⟩:=ex (w.alloc (E #[C none 0 0] 25));rw[i]at b0 d;have s:=Z i;have j:=Z (RH a l c qs W0 (h.below d) hs);have o:=b0.cell;have f0:=b0.frozen;clear i h hs;go_enter func65,ntmps65
 go_upto_region 1 with fail
 rw[s.o];go_wp2_with(go_at_call 106;refine j.o.mono ?_;clear j;rintro e N ⟨u,rfl,⟨n,k⟩,m⟩;obtain⟨z,K,A,rfl⟩:=n.form;have f:=Jk b0 k;have o:=f.cell;have f0:=f.frozen;have r:=Z m;clear m)
 refine BA (by simp[results,results65,go_sem,o]) J ⟨_,J,⟨_,J,FJ f _ n⟩,?_,(Bt d k).setCell (p:=⟨w.heap.size,0,none⟩) (Aa _) _⟩;intro b t x y c' e;simp only[B3,C6,C1,and_true]at e;rcases r.o with⟨g,_⟩|g
 . rw[g]at e;cases e
 . rw[g]at e;cases e;exact t _ _ _ J
def L3(v:D)(ps:X)(w:G)(h:Yf w v ps):
 F H 15 #[v] w λe c=>e=.returned (.int .i64 ((ps.length:Int)-1))/\Bl w c:=by
 obtain⟨u,rfl,b⟩:=h;obtain⟨a,cap,rfl,d,f,g,_⟩:=b.open;clear b;generalize ps.length=n at *;go_enter func15,ntmps15
 go_wp2;go_ret;exact⟨J,Ba _ _⟩
def RI(v:D)(qs:List Rat)(i:Int)(w:G)(h:RowK true w v qs):
 F H 49 #[v,.int .i64 i] w λe k=>∃u,e=.returned u/\Jj k u (if i<0 then 0 else cf qs i.toNat)/\Bl w k:=by
 obtain⟨a,l,c,rfl⟩:=h.form;obtain⟨hl,S,T,U,s,t,q,r,N,x,K,dd,g⟩:=h.forms;have o:=Z hl;have d:=Z g;clear hl g h;by_cases f:i<0
 . rw[BM f];go_enter func49,ntmps49
   go_wp2;exact BA (by simp[results,results49,go_sem]) J ⟨_,J,Dp _,(Ba w _).alloc sp _⟩
 . rw[BJ f];by_cases y:(l:Int)<=i
   . have p:=Z (show cf qs i.toNat=0 from Ed (by have:=o.o;omega));rw[p.o];go_enter func49,ntmps49
     go_wp2;exact BA (by simp[results,results49,go_sem]) J ⟨_,J,Dp _,(Ba w _).alloc sp _⟩
   . obtain⟨m,rfl⟩:∃m:Nat,i=(m:Int):=⟨i.toNat,O⟩;have z:m<l:=O
     obtain⟨j,b,rfl,R,V,A,W,X⟩:=d.o m z;have n:=Z j;rw[CG];clear d j y;generalize s m=s1 at *;generalize t m=t1 at *;generalize q m=P at *;generalize r m=Q at *;generalize N m=l1 at *;generalize x m=c1 at *;generalize K m=A at *;generalize dd m=d1 at *;go_enter func49,ntmps49
     go_wp2;exact BA (by simp[results,results49,go_sem]) J ⟨_,J,n.o.below (Ba w _),Ba w _⟩
def Tryz.infoRat:(Tryz.prog.info? 38).map (λi=>(i.zero,i.size,i.bytes))=some (some (M #[B false,C none 0 0,B false,C none 0 0]),4,64):=by kernel_rfl
def XD(n:Nat):Array D:=madeCells #[B false,C none 0 0,B false,C none 0 0] (n*4)
theorem L4{n j:Nat}(a:j<n):(XD n)[j*4]?=some (B false)/\(XD n)[j*4+1]?=some (C none 0 0)/\(XD n)[j*4+2]?=some (B false)/\(XD n)[j*4+3]?=some (C none 0 0):=by
 unfold XD madeCells;have h:∀k,k<n*4->((Array.range (n*4)).map λi=>(#[Value.bool false,Value.slice none 0 0,Value.bool false,Value.slice none 0 0]:Array D)[i%4]!)[k]?=some ((#[Value.bool false,Value.slice none 0 0,Value.bool false,Value.slice none 0 0]:Array D)[k%4]!):=λk b=>by
  grind
 refine⟨(h _ O).trans ?_,(h _ O).trans ?_,(h _ O).trans ?_,(h _ O).trans ?_⟩
 . grind
 . grind
 . grind
 grind
def L5(n:Nat)(h:n<=2199023255552)(w:G):(Instr.makeSlice 23 (.int .i64 (n:Int)) (.int .i64 (n:Int))).run H w=.ok (C (some ⟨w.heap.size,0,none⟩) n n) (w.alloc (E (XD n) 38)):=by
 obtain⟨i,d,b⟩:=Option.map_eq_some_iff.1 Tryz.infoRat;simp only[Prod.mk.injEq]at b;obtain⟨e,hs,c⟩:=b;have a:=run_make (P:=H) w 23 38 i _ underlying23 d e .i64 .i64 n n O (Int.le_refl _) (by rw[c];omega) O;simp only[CG,hs]at a;exact a
def L6(n:Nat)(w:G):DR true (w.alloc (E (XD n) 38)) w.heap.size (List.replicate n 0):=by
 refine⟨XD n,BD w _,λj a=>?_⟩;rw[AZ]at a;obtain⟨b,c,d,e⟩:=L4 a;exact⟨_,_,_,_,b,c,d,e,by rw[YN];exact Dp _⟩
end
section
variable{r:Bool}{qs:X}{d:Nat}{v:D}{W:G}
def Tryz.infoRef:(Tryz.prog.info? 49).map (λi=>(i.zero,i.size,i.bytes))=some (some (M #[C none 0 0,B false,C none 0 0,B false]),4,64):=by kernel_rfl
def Yw(r:Bool)(b:Nat)(W:G)(v:D)(qs:X):Prop:=
 (v=C none 0 0/\qs=[])\/∃g cap a,v=C (some ⟨g,0,none⟩) qs.length cap/\b<=g/\W.heap[g]?=some (E a (DW r) (0,0))/\qs.length<=cap/\cap<=maxLen/\a.size=cap*4/\(∀c∈a.toList,Jy c=true)/\Yg r W (a.toList.take (qs.length*4)) qs
theorem Yw.nil(r:Bool)(a:Nat)(W:G):Yw r a W (C none 0 0) []:=Al ⟨J,J⟩
def Yw.below{r:Bool}{a:Nat}{W W':G}{v:D}{qs:X}(h:Yw r a W v qs)(c:Bl W W'):Yw r a W' v qs:=by
 rcases h with h|⟨g,cap,d,e,f,b,i,j,k,l,m⟩
 . exact Al h
 . exact Au ⟨g,cap,d,e,f,(c.block g (Ab.1 b).1).trans b,i,j,k,l,m.below c⟩
theorem Yw.row(h:Yw r d W v qs)(hl:qs.length<=1099511627776):RowK r W v qs:=by
 rcases h with⟨rfl,rfl⟩|⟨g,cap,a,rfl,o,b,c,e,p,q,f⟩
 . exact RowK.nil r W
 . refine⟨_,cap,J,c,by unfold maxLen at e;omega,hl,Au ⟨g,J,a,b,λj i=>?_⟩⟩;obtain⟨x,y,z,u,k,l,m,n,s⟩:=f.2 j i;grind[]
theorem Yw.form(h:Yw r d W v qs):∃a c,v=C a qs.length c/\(∀p,a=some p->d<=p.block):=by
 rcases h with⟨rfl,rfl⟩|⟨g,cap,b,rfl,f,_⟩
 . exact⟨none,0,J,λp e=>by cases e⟩
 grind
theorem RJ(z:Array D)(a:0<z.size)(d:∀c∈z.toList,Jy c=true)(n:Nat):∀c∈(Builtin.zeroCells z n).toList,Jy c=true:=by
 intro c b;grind[Builtin.zeroCells,AK]
def Dm(r:Bool):TypeId:=match r with|true=>22|false=>30
def zK(r:Bool):Array D:=match r with|true=>#[B false,C none 0 0,B false,C none 0 0]|false=>#[C none 0 0,B false,C none 0 0,B false]
def L7(r:Bool):Tryz.prog.underlying (Dm r)=some (.slice (DW r)):=by
 cases r with
 |true=>exact underlying22
 |false=>exact underlying30
def L8(r:Bool):∃i,Tryz.prog.info? (DW r)=some i/\i.zero=some (M (zK r))/\i.size=4/\i.bytes=64:=by
 cases r with
 |true=>
  obtain⟨i,a,b,c,d⟩:=Bg Tryz.infoRat;exact⟨i,a,b,c,d⟩
 |false=>
  obtain⟨i,a,b,c,d⟩:=Bg Tryz.infoRef;exact⟨i,a,b,c,d⟩
theorem L9(r:Bool):(zK r).size=4:=by cases r<;>rfl
theorem RK(r:Bool):∀c∈(zK r).toList,Jy c=true:=by
 cases r<;>(intro c a;simp[zK]at a;rcases a with rfl|rfl|rfl|rfl<;>rfl)
theorem MA(r:Bool)(A:Nat)(W:G)(v:D)(qs:List Rat)(h:Yw r A W v qs){x y z u:D}{q:Rat}(hq:Dd r W (M #[x,y,z,u]) q)(hl:qs.length+1<=1099511627776)(ae:A<=W.heap.size):
 ∃v' R,(Builtin.append_ #[Dm r,Dm r] (Dm r) #[v,C (some ⟨W.heap.size,0,none⟩) 1 1]).run H (W.alloc (E #[x,y,z,u] (DW r)))=.ok v' R/\Yw r A R v' (qs++[q])/\(∀k v ds,Row k W v ds->Row k R v ds)/\(∀n w0,n<=A->Below n w0 W->Below n w0 R):=by
 obtain⟨i,hi,hz,N,aj⟩:=L8 r;have ht:=L7 r;have p:Bl W (W.alloc (E #[x,y,z,u] (DW r))):=Ba W _;obtain⟨d,ai⟩:=ex (W.alloc (E #[x,y,z,u] (DW r)));have az:d.heap[W.heap.size]?=some (E #[x,y,z,u] (DW r) (0,0)):=by rw[<-ai];exact BD W _
 rw[ai]at p ⊢;have Qg:=hq.below p;obtain⟨n0,n1,n2,n3⟩:=hq.no;have S:∀j c,[x,y,z,u][j]?=some c->d.cell? ((⟨W.heap.size,0,none⟩:Addr).add j)=some c:=λj c l=>by
  grind[Yj,cell_of]
 have Qm:(Value.agg (zK r)).cells=zK r:=rfl;have grown:∀(cs:List D) (w:Nat) (m:Nat),m=qs.length+1->Yg r d (cs++[x,y,z,u]) (qs++[q])->(∀c∈cs,Jy c=true)->cs.length=qs.length*4->
  Yw r A (d.drew.alloc (E (cs.toArray++[x,y,z,u].toArray++Builtin.zeroCells (zK r) (grownCap d m w (DW r)-m)) (DW r))) (C (some ⟨d.heap.size,0,none⟩) m (grownCap d m w (DW r))) (qs++[q]):=by
  intro cs w m hm l Qf U;subst hm;have ay:=grownCap_ge d (qs.length+1) w (DW r);have Qp:=grownCap_le_maxLen d (qs.length+1) w (DW r) (by unfold maxLen;omega);have Qq:Bl d (d.drew.alloc (E (cs.toArray++[x,y,z,u].toArray++Builtin.zeroCells (zK r) (grownCap d (qs.length+1) w (DW r)-(qs.length+1))) (DW r))):=((BB _ d).drew).alloc (Aa _) _;refine Au ⟨d.heap.size,_,_,DO,AM ae p.size,BD d.drew _,DO,Qp,?_,?_,?_⟩
  . grind[size_zeroCells,L9,Ai]
  . intro c K;simp only[Array.toList_append,Cp]at K;rcases K with(K|K)|K
    . exact Qf c K
    . grind
    grind[RJ,L9,RK]
  . have e:(cs.toArray++[x,y,z,u].toArray++Builtin.zeroCells (zK r) (grownCap d (qs.length+1) w (DW r)-(qs.length+1))).toList.take ((qs++[q]).length*4)=cs++[x,y,z,u]:=by
     simp only[Array.toList_append];have T:(qs++[q]).length*4=(cs++[x,y,z,u]).length:=by simp;omega
     rw[T];exact List.take_left
    rw[e];exact l.below Qq
 have fin:∀o,(∀k v ds,Row k W v ds->Row k (d.drew.alloc o) v ds)/\(∀n w0,n<=A->Below n w0 W->Below n w0 (d.drew.alloc o)):=λo=>by
  have Qi:Bl W (d.drew.alloc o):=(p.drew).alloc (by exact p.size) _;refine⟨λk v ds h=>h.below Qi,λn w0 Q hb=>hb.trans (Qi.mono (AM Q ae))⟩
 rcases h with⟨rfl,rfl⟩|⟨g,cap,f,rfl,h2,h3,h4,h5,h6,h7,h8⟩
 . have t:=run_append_nil (P:=H) d (Dm r) (Dm r) (DW r) i _ ht hi hz ⟨W.heap.size,0,none⟩ 1 1 [x,y,z,u] (by rw[N];rfl) S O O (by rw[aj];omega);rw[Qm]at t;refine⟨_,_,t,?_,fin _⟩;have:=grown [] 0 1 J (by rw[Ah];exact(Yg.nil r d).snoc Qg) (λc l=>by simp at l) J;simpa using this
 . have ad:d.heap[g]?=some (E f (DW r) (0,0)):=(p.block g (Ab.1 h3).1).trans h3;have U:(f.toList.take (qs.length*4)).length=qs.length*4:=by rw[Ae];have X:f.toList.length=f.size:=CK;omega
   have Qk:=(h8.below p).snoc Qg;have Qf:∀c∈f.toList.take (qs.length*4),Jy c=true:=λc l=>h7 c (CW l);by_cases aq:qs.length+1<=cap
   . have t:=run_append_room (P:=H) d (Dm r) (Dm r) (DW r) i ht hi g qs.length cap f ad ⟨W.heap.size,0,none⟩ 1 1 [x,y,z,u] (by rw[N];rfl) S hq.one aq (by rw[N];simp;omega);rw[N]at t;obtain⟨s,ak⟩:=ex ((f.toList.take (qs.length*4)++[x,y,z,u]++f.toList.drop (qs.length*4+[x,y,z,u].length)).toArray);rw[ak]at t;have Qo:=setRow_heap d g f s (DW r) (0,0) ad;have Qc:∀k v ds,Row k d v ds->Row k (d.setRow g s) v ds:=λk v ds h=>by
      obtain⟨a,c,e,g1,g2,g3,V⟩:=h;refine⟨a,c,e,g1,g2,g3,?_⟩;rcases V with V|⟨b,ah,ea,am,l⟩
      . exact Al V
      . by_cases X:ds=[]
        . exact Al X
        . have Qj:0<ds.length:=Cg.2 X;have Qh:b≠g:=λe=>by
           subst e;have h9:=l 0 Qj;simp only[World.cell?,ad]at h9;have Ql:f[ah+0]?=some (.int k (ds[0]?.getD 0:Nat)):=by simpa using h9
           have Qn:=h7 _ (Array.mem_toList_iff.2 (Array.mem_of_getElem? Ql));simp[Jy]at Qn
          exact Au ⟨b,ah,ea,am.of (setRow_other d g b s Qh),λj hj=>(cell_setRow_other d g s ⟨b,ah+j,none⟩ Qh).trans (l j hj)⟩
     refine⟨_,_,t,?_,λk v ds h=>Qc k v ds (h.below p),λn w0 Q hb=>below_setRow (hb.trans (p.mono (AM Q ae))) (AM Q h2) s⟩;refine Au ⟨g,cap,s,DO,h2,Qo,DO,h5,?_,?_,?_⟩
     . grind
     . intro c l;grind
     . have e:s.toList.take ((qs++[q]).length*4)=f.toList.take (qs.length*4)++[x,y,z,u]:=by
        rw[<-ak];have T:(qs++[q]).length*4=(f.toList.take (qs.length*4)++[x,y,z,u]).length:=by simp[U];omega
        rw[T];exact List.take_left
       rw[e];exact Qk.keep Qc
   . have an:∀j c,(f.toList.take (qs.length*4))[j]?=some c->d.cell? ((⟨g,0,none⟩:Addr).add j)=some c:=λj c l=>by
      grind[Yj,cell_of]
     have t:=run_append_grow (P:=H) d (Dm r) (Dm r) (DW r) i _ ht hi hz ⟨g,0,none⟩ qs.length cap (f.toList.take (qs.length*4)) (by rw[N];exact U) an ⟨W.heap.size,0,none⟩ 1 1 [x,y,z,u] (by rw[N];rfl) S O O (by rw[aj];exact growslice_fits O O);grind
end
section
open M3
def JL(q:Rat):List UInt8:=if q.den=1 then Yo q.num else Yo q.num++47::Yo (q.den:Int)
variable{z:Int}
theorem MB(a b:List UInt8):(⟨a.toArray⟩:ByteArray)++⟨b.toArray⟩=⟨(a++b).toArray⟩:=by
 apply CT;simp
theorem XE(z:Int):(Yo z).length<=20*(Jb Y z.natAbs).length+2:=by
 grind[XC,Yo]
theorem Gg(h:Sok z):(⟨(Yo z).toArray⟩:ByteArray).size<=400000000000:=by
 have a:=XE z;have b:=h.words;show(Yo z).toArray.size<=_;grind
theorem Iq(a b:List UInt8):(⟨a.toArray⟩:ByteArray)++⟨#[47]⟩++⟨b.toArray⟩=⟨(a++47::b).toArray⟩:=by
 grind[MB]
theorem MC:Yo z=[49]↔z=1:=by
 have a:Yo (Yb [49])=[49]:=KL DI;have b:Yb [49]=1:=DI
 grind[NT]
theorem Ir(va:D)(q:Rat)(w:G)(g:Jj w va q)(j:Sq q)(ae:Lib.TabIs H w "internal/strconv.uint64pow10" .u64 Lib.pow10Tab):
 F H 16 #[va] w λe k=>e=.returned (.string ⟨(JL q).toArray⟩)/\Bl w k:=by
 obtain⟨n,P⟩:∃S:ByteArray,⟨(Yo q.num).toArray⟩=S:=⟨_,J⟩;have bc:n.size<=400000000000:=by rw[<-P];exact Gg j.num
 have s:=Z P;clear P;obtain⟨N,Q⟩:∃S:ByteArray,⟨(Yo (q.den:Int)).toArray⟩=S:=⟨_,J⟩;have bd:N.size<=400000000000:=by rw[<-Q];exact Gg j.den
 have Qi:=Z Q;clear Q;have x:=Z ae;clear ae;by_cases d:q.den=1
 . have u:=Z d;have v:=Z (show(⟨(JL q).toArray⟩:ByteArray)=n by rw[<-s.o];unfold JL;rw[BM d]);rw[v.o];clear d;obtain⟨ay,ah,aq,aj,az,ai,an,ak,rfl⟩:=Jj.form g;obtain⟨W0,m,c⟩:=EC 38 (.rat q) g;have Qd:=Z j;clear g j;go_enter func16,ntmps16
   go_upto_region 1 with fail
   rw[m.o];clear m;obtain⟨s1,a1,l1,c1,t1,b1,k1,d1,p,t,T,j1⟩:=c.o.rat (i:=0) J;obtain⟨K,y,z,A⟩:=p.cq;have b:=Z (YL _ q W0 t);rw[BG u.o]at b;have f:=Z λ(V:G) (h:Bl W0 V)=>Id _ q.num V (T.below h) (JV x.o (Bt c.o.2.2 h));rw[s.o]at f;go_wp2_with(first
    |(go_at_call 59;refine b.o.mono ?_;clear b;rintro e l ⟨rfl,a⟩;obtain⟨K,y,z,A⟩:=(p.below a).cq)
    |(go_at_call 60;refine(f.o _ a).mono ?_;clear f;rintro e w2 ⟨rfl,R⟩;have a:=Bt a R))
   go_ret;exact⟨J,Bt c.o.2.2 a⟩
 . have u:=Z d;have v:=Z (show(⟨(JL q).toArray⟩:ByteArray)=n++⟨#[47]⟩++N by rw[<-s.o,<-Qi.o,Iq];unfold JL;rw[BJ d]);rw[v.o];have HZ:=Z (show denZ q=q.den by unfold denZ;rw[BJ d]);clear d;have y1:¬9223372036854775807<n.size+1:=O
   have y2:¬9223372036854775807<n.size+1+N.size:=O
   obtain⟨ay,ah,aq,aj,az,ai,an,ak,rfl⟩:=Jj.form g;obtain⟨W0,m,c⟩:=EC 38 (.rat q) g;have Qd:=Z j;clear g j;go_enter func16,ntmps16
   go_upto_region 1 with fail
   rw[m.o];clear m;obtain⟨s1,a1,l1,c1,t1,b1,k1,d1,p,t,T,j1⟩:=c.o.rat (i:=0) J;obtain⟨K,y,z,A⟩:=p.cq;have b:=Z (YL _ q W0 t);rw[BE u.o]at b;go_upto_region 3 with(go_at_call 59;refine b.o.mono ?_;clear b;rintro e l ⟨rfl,ad⟩)
   have r:=Z (c.o.below ad);clear c;clear p K y z A T t j1 ad;obtain⟨s2,a2,l2,c2,t2,b2,k2,d2,U,r2,i2,j2⟩:=r.o.rat (i:=0) J;obtain⟨X,Qh,Qk,Qj⟩:=U.cq;have f:=Z λ(V:G) (h:Bl l V)=>(by have o:=Id _ q.num V (i2.below h) (JV x.o (Bt r.o.2.2 h));rw[s.o]at o;exact o);have W:=Z λ(V:G) (h:Bl l V)=>(by have h0:=(j2.below h);rw[HZ.o]at h0;have o:=Id _ (q.den:Int) V h0 (JV x.o (Bt r.o.2.2 h));rw[Qi.o]at o;exact o);have a:Bl l l.drew:=(BB _ l).drew;go_region_held3 (λk=>k.cell? ⟨w.heap.size,0,none⟩=some (B s2)/\k.cell? ⟨w.heap.size,1,none⟩=some (C a2 l2 c2)/\k.cell? ⟨w.heap.size,2,none⟩=some (B t2)/\k.cell? ⟨w.heap.size,3,none⟩=some (C b2 k2 d2)) (first|grind|(go_keep;done)|(refine⟨?_,?_,?_,?_⟩<;>((repeat rw[JC O]);first|assumption|(go_keep;done))))
    (first
     |(go_at_call 60;refine(f.o _ a ).mono ?_;clear f;rintro e w2 ⟨rfl,R⟩;have a:=Bt a R;obtain⟨X,Qh,Qk,Qj⟩:=(U.below a).cq)
     |(go_at_call 60;refine(W.o _ a ).mono ?_;clear W;rintro e w6 ⟨rfl,am⟩;have a:=Bt a am;obtain⟨X,Qh,Qk,Qj⟩:=(U.below a).cq))
   all_goals go_wp2_with fail
   go_ret;exact⟨J,Bt r.o.2.2 a⟩
theorem Is(P:D)(q:Rat)(w:G)(g:Jv w P q)(r:Sq q):
 F H 17 #[P] w λe w'=>e=.returned (.string ⟨(JL q).toArray⟩)/\Bl w w':=by
 obtain⟨y,z⟩:∃S:ByteArray,⟨(Yo q.num).toArray⟩=S:=⟨_,J⟩;have am:y.size<=400000000000:=by rw[<-z];exact Gg r.num
 have p:=Z z;clear z;obtain⟨m,d⟩:∃S:ByteArray,⟨(Yo (q.den:Int)).toArray⟩=S:=⟨_,J⟩;have an:m.size<=400000000000:=by rw[<-d];exact Gg r.den
 have l:=Z d;clear d;have o:=Z r;clear r;by_cases f:q.den=1
 . have Q:=Z f;have s:=Z (show(⟨(JL q).toArray⟩:ByteArray)=y by rw[<-p.o];unfold JL;rw[BM f]);rw[s.o];have d:m=⟨#[49]⟩:=by rw[<-l.o,f,show Yo ((1:Nat):Int)=[49]from MC.2 J]
   subst d;clear f;obtain⟨T,ah,X,ai,W,ae,ad,aj,rfl⟩:=Jv.form g;obtain⟨W0,j,k⟩:=EC 49 (.ref q) g;clear g;go_enter func17,ntmps17
   go_upto_region 1 with fail
   rw[j.o];clear j;obtain⟨R,l1,c1,s1,U,k1,d1,t1,n,r1,K,N⟩:=k.o.ref (i:=0) J;obtain⟨x,t,u,v⟩:=n.cq;have b:=Z (GC _ q.num W0 K (by have:=o.o.num.size;omega));rw[p.o]at b;have c:=Z λ(V:G) (h:Bl W0 V)=>GC _ (q.den:Int) V (N.below h) (by have:=o.o.den.size;omega);rw[l.o]at c;go_wp2_with(first
    |(go_at_call 61;refine b.o.mono ?_;clear b;rintro e w1 ⟨rfl,a⟩;obtain⟨x,t,u,v⟩:=(n.below a).cq)
    |(go_at_call 61;refine(c.o _ a).mono ?_;clear c;rintro e w2 ⟨rfl,A⟩;have a:=Bt a A))
   go_ret;exact⟨J,Bt k.o.2.2 a⟩
 . have Q:=Z f;have s:=Z (show(⟨(JL q).toArray⟩:ByteArray)=y++⟨#[47]⟩++m by rw[<-p.o,<-l.o,Iq];unfold JL;rw[BJ f]);rw[s.o];have d:¬m=⟨#[49]⟩:=by
    intro h;rw[<-l.o]at h;grind[MC]
   have ak:(m.toList == [49])=false:=by
    rw[BH];intro h;rw[ByteArray.toList_eq]at h;exact d (CT DO)
   clear f;obtain⟨T,ah,X,ai,W,ae,ad,aj,rfl⟩:=Jv.form g;obtain⟨W0,j,k⟩:=EC 49 (.ref q) g;clear g;go_enter func17,ntmps17
   go_upto_region 1 with fail
   rw[j.o];clear j;obtain⟨R,l1,c1,s1,U,k1,d1,t1,n,r1,K,N⟩:=k.o.ref (i:=0) J;obtain⟨x,t,u,v⟩:=n.cq;have b:=Z (GC _ q.num W0 K (by have:=o.o.num.size;omega));rw[p.o]at b;have c:=Z λ(V:G) (h:Bl W0 V)=>GC _ (q.den:Int) V (N.below h) (by have:=o.o.den.size;omega);rw[l.o]at c;go_wp2_with(first
    |(go_at_call 61;refine b.o.mono ?_;clear b;rintro e w1 ⟨rfl,a⟩;obtain⟨x,t,u,v⟩:=(n.below a).cq)
    |(go_at_call 61;refine(c.o _ a).mono ?_;clear c;rintro e w2 ⟨rfl,A⟩;have a:=Bt a A))
   go_ret;exact⟨J,Bt k.o.2.2 a⟩
end
section
variable{c:Rat}
def RL(b:ByteArray)(n i:Nat)(r:List UInt8)(h:b.size-i=n):ByteArray.toList.loop b i r=r.reverse++b.data.toList.drop i:=by
 induction n generalizing i r with
 |zero=>
  rw[ByteArray.toList.loop,BJ O,At (by simpa using(by omega:b.size<=i)),Ca]
 |succ n d=>
  have a:i<b.size:=O
  have c:i<b.data.toList.length:=by simpa using a
  rw[ByteArray.toList.loop,BM a,d (i+1) _ O,List.reverse_cons,A2,AD c];have e:b.get! i=b.data.toList[i]:=by
   show b.data[i]! = _;rw[getElem!_pos b.data i a];simp
  rw[e];rfl
theorem YM(b:ByteArray):b.toList=b.data.toList:=by
 show ByteArray.toList.loop b 0 []=_;rw[RL b _ 0 [] J];rfl
def Yx(c:Rat):Rat:=if c<0 then -c else c
def Yl(c:Rat)(i:Nat):List UInt8:=if JL (Yx c)=[49]/\0<i then []else JL (Yx c)
def XF(i:Nat):List UInt8:=if i=0 then []else if i=1 then [120]else 120::94::Yv i
def Xo(c:Rat)(first:Bool):List UInt8:=if c<0 then [45]else if first then []else [43]
def YZ(c:Rat)(i:Nat)(first:Bool):List UInt8:=Xo c first++Yl c i++XF i
def JM:X->Nat->List UInt8
 |[],_=>[]
 |c::t,i=>if c=0 then JM t (i+1)else JM t (i+1)++YZ c i (JM t (i+1)).isEmpty
def D8(p:X):List UInt8:=if JM p 0=[]then [48]else JM p 0
theorem neg_num:(c<0)↔c.num<0:=by
 rw[<-Rat.not_le,<-Rat.num_nonneg];omega
theorem RM(h:c<0):JL c=45::JL (-c):=by
 grind[neg_num,JL,Rat.neg_den,Rat.neg_num,Yo]
theorem RO(h:¬c<0):(JL c).head?≠some 45:=by
 have f:¬c.num<0:=λa=>h (neg_num.2 a);have a:(Yo c.num).head?≠some 45:=by
  unfold Yo;rw[BJ f];by_cases b:c.num.natAbs=0
  . rw[b];decide
  . obtain⟨d,t,e,_,j,_⟩:=F4 b;grind
 have i:Yo c.num≠[]:=by
  unfold Yo;rw[BJ f];by_cases b:c.num.natAbs=0
  . rw[b];decide
  . obtain⟨d,t,e,_⟩:=F4 b;rw[e];simp
 unfold JL;split
 . exact a
 . cases g:Yo c.num with
   |nil=>exact absurd g i
   |cons x t=>rw[g]at a;exact a
theorem MD(h:c<0):Yx c=-c:=by unfold Yx;rw[BM h]
theorem ME(h:¬c<0):Yx c=c:=by unfold Yx;rw[BJ h]
theorem Fs(c:Rat):(Yx c).num=(c.num.natAbs:Int)/\(Yx c).den=c.den:=by
 grind[neg_num,MD,Rat.neg_num,Rat.neg_den,ME]
theorem RP(c:Rat):JL c≠[]:=by
 unfold JL
 have:Yo c.num≠[]:=by
  unfold Yo;split
  . simp
  . by_cases a:c.num.natAbs=0
    . rw[a];decide
    . obtain⟨d,t,e,_⟩:=F4 a;rw[e];simp
 split
 . exact this
 . simp
theorem MF(c:Rat)(i:Nat)(f:Bool):YZ c i f≠[]:=by
 grind[YZ,Yl,List.append_eq_nil_iff,XF,RP]
def Xb(p:X){m:Nat}(h:m<p.length):JM (p.drop m) m=if cf p m=0 then JM (p.drop (m+1)) (m+1)else JM (p.drop (m+1)) (m+1)++YZ (cf p m) m (JM (p.drop (m+1)) (m+1)).isEmpty:=by
 rw[AD h,JM,M7 h]
end
namespace M3
def MG{W W':G}{row:Option Nat}(hg:W.grownBy W' row)(z:∀r,row=some r->∃o:Obj,W.heap[r]?=some o/\o.isCells=false){k:IntKind}{v:D}{ds:Ja}(h:Row k W v ds):Row k W' v ds:=by
 obtain⟨a,cap,e,n,p,q,c⟩:=h;refine⟨a,cap,e,n,p,q,?_⟩;rcases c with c|⟨b,A,l,d,i⟩
 . exact Al c
 . by_cases g:ds=[]
   . exact Al g
   . have hl:0<ds.length:=Cg.2 g;have f:some b≠row:=λe=>by
      obtain⟨o,y,x⟩:=z b e.symm;have s:=i 0 hl;cases o with
      |cells cs t m=>cases x
      |_=>simp[World.cell?,y]at s
     exact Au ⟨b,A,l,d.of (hg.block b d.lt f),λj u=>(BS (w:=W) (hg.block b d.lt f)).trans (i j u)⟩
variable{cs:Array D}{bs:List (Option (Nat × Dat))}{W W' w:G}
def MH{row:Option Nat}(hg:W.grownBy W' row)(d:∀r,row=some r->∃o:Obj,W.heap[r]?=some o/\o.isCells=false){B:Nat}{t:TypeId}(h:Bx W B t cs):Bx W' B t cs:=by
 have b:some B≠row:=λe=>by
  obtain⟨o,a,c⟩:=d B e.symm;rw[show W.heap[B]?=_ from h]at a;cases a;cases c
 exact(hg.block B h.lt b).trans h
def RQ{row:Option Nat}(hg:W.grownBy W' row)(g:∀r,row=some r->∃o:Obj,W.heap[r]?=some o/\o.isCells=false){r:Bool}{v:D}{qs:X}(h:RowK r W v qs):RowK r W' v qs:=by
 obtain⟨a,cap,e,j,k,l,c⟩:=h;refine⟨a,cap,e,j,k,l,?_⟩;rcases c with c|⟨b,i,f⟩
 . exact Al c
 . have m:W'.heap[b]?=W.heap[b]?:=by
    obtain⟨cs,d,_⟩:=f;rw[d];exact MH hg g d
   exact Au ⟨b,i,f.keep m λ_ _ _ h=>MG hg g h⟩
def DF.own{row:Option Nat}(a:DF w W bs)(hg:W.grownBy W' row)(c:∀r,row=some r->w.heap.size<=r/\∃o:Obj,W.heap[r]?=some o/\o.isCells=false):DF w W' bs:=by
 have b:∀r,row=some r->∃o:Obj,W.heap[r]?=some o/\o.isCells=false:=λr e=>(c r e).2;refine⟨λi B d h=>?_,a.2.1,a.2.2.grown hg a.2.2.size λk e=>(c k e).1⟩;obtain⟨⟨cs,f,g⟩,j⟩:=a.1 i B d h;exact⟨⟨cs,MH hg b f,g.keep (λ_ _ _ h=>MG hg b h) (Au λ_ _ h=>RQ hg b h)⟩,j⟩
def DF.with(e:DF w W bs){b:Nat}(d:Dat)(n:Bx W b d.ty cs)(o:Has W (M cs) d)(r:w.heap.size<=b)(g:∀(i:Nat) B l,bs[i]?=some (some (B,l))->B≠b):DF w W (bs++[some (b,d)]):=by
 have f:∀(j:Nat) x,(bs++[some (b,d)])[j]?=some (some x)->bs[j]?=some (some x)\/(j=bs.length/\x=(b,d)):=λj x h=>by
  by_cases p:j<bs.length
  . rw[List.getElem?_append_left p]at h;exact Al h
  . rw[List.getElem?_append_right O]at h;obtain⟨k,q⟩:=ex (j-bs.length);rw[q]at h;cases k with
    |zero=>simp at h;exact Au ⟨O,h.symm⟩
    |succ k=>simp at h
 refine⟨λj B d h=>?_,λj k B d1 m a c=>?_,e.2.2⟩
 . rcases f j _ h with h|⟨_,h⟩
   . exact e.1 j B d h
   . cases h;exact⟨⟨cs,n,o⟩,r⟩
 . rcases f j _ a with a|⟨s,a⟩<;>rcases f k _ c with c|⟨t,c⟩
   . exact e.2.1 j k B d1 m a c
   . cases c;exact absurd J (g j _ _ a)
   . cases a;exact absurd J (g k _ _ c)
   . omega
def FK(w W0 W:G)(bs:List (Option (Nat × Dat))):Prop:=DF w W bs/\KeepsOthers W0 W
def FK.below{w W0 W W':G}{bs:List (Option (Nat × Dat))}(h:FK w W0 W bs)(a:Bl W W'):FK w W0 W' bs:=⟨h.1.below a,h.2.trans (J5 a)⟩
def FK.drew{w W0 W:G}{bs:List (Option (Nat × Dat))}(h:FK w W0 W bs):FK w W0 W.drew bs:=h.below ((BB _ W).drew)
