import Derived.Test.YtcahejkcdcjjgaaGreatDoorW22
import Derived.Test.YtcahejkcdcjjgaaGreatDoorW24
set_option linter.all false
open Go.Value renaming slice->C,bool->B,pointer->I,agg->N
open Go.Obj renaming cells->E
open Go renaming World->G,Value->D,Calls->F,undef->L
open Go.Proofs.Tryz renaming prog->H
set_option maxRecDepth 99999
set_option maxHeartbeats 0
namespace Go.Proofs.YtcahejkcdcjjgaaGreatDoor
open Rat renaming divInt->Zx
open Proofs.Tryz
open Go.RowKit Go.Shelf
attribute [local go_sem] Oper.semAt_some
section
variable{x y:Int}
def Ht(P Q:D)(x y:Int)(w:G)(ha:Jl w P x)(hb:Jl w Q y)(z:(Jb Y x.natAbs).length<1000000000000)(A:(Jb Y y.natAbs).length<1000000000000):
 F H 83 #[P,Q] w λe d=>∃u,e=.returned u/\Jl d u (Int.gcd x y:Nat)/\Bl w d:=by
 obtain⟨a,la,r,i,c⟩:=ha;cases i;obtain⟨b,lb,v,i,n⟩:=hb;cases i;have o:=c.len;have q:=n.len;obtain⟨s,hs⟩:=ex (decide (x<0));obtain⟨t,K⟩:=ex (decide (y<0));rw[hs,K];obtain⟨W0,k⟩:=ex (((w.alloc (E #[B s,C a la r] 36)).alloc (E #[B t,C b lb v] 36)).alloc (E #[B false,C none 0 0] 36));obtain⟨j,b0,X,g⟩:=Ii k;have S:=Z (TN a la r b lb v _ _ W0 (UN.below c j) (UN.below n j) (by rw[o];exact z) (by rw[q];exact A));have R:=Z λ(V:G) (u:D) (c:UN V u (Nat.gcd x.natAbs y.natAbs))=>show F H 112 #[B false,u] V λe d=>∃u,e=.returned u/\Jl d u (Int.gcd x y:Nat)/\Bl V d from GV false u _ V c;have k1:=b0.c1;have k3:=X.c1;have U:=Z k;clear c n hs K o q z A k;go_enter func83,ntmps83
 go_upto_region 1 with fail
 rw[U.o];have ah:¬(w.heap.size=w.heap.size+1+1):=O
 go_wp2_with(first
  |(go_at_call 116;refine S.o.mono ?_;rintro e w1 ⟨u1,rfl,M,ad⟩;obtain⟨na,nc,rfl⟩:=UN.form M)
  |(go_at_call 112;refine(R.o _ _ M).mono ?_;rintro e w2 ⟨u2,rfl,m,ae⟩;obtain⟨sa,sl,sc,rfl⟩:=m.form;obtain⟨s2,l⟩:=ex (decide (((Int.gcd x y:Nat):Int)<0));rw[l]at m;rw[l];clear l;have f:=Bt ad ae;obtain⟨r0,r1⟩:=(g.below f).cp;obtain⟨f0,f1⟩:=(g.below f).fp))
 have W:=Bt j f;have T:=m.box (g.below f) J J (x0:=B s2) (x1:=C sa sl sc);exact BA (by simp[results,results83,go_sem,r0,r1]) J ⟨_,J,T,(W.setCell (p:=⟨_,0,none⟩) so _).setCell (p:=⟨_,1,none⟩) so _⟩
def OP(w:G)(a b c d:Obj):Bl w ((((w.alloc a).alloc b).alloc c).alloc d):=
 (((Ba w _).alloc DJ _).alloc si _).alloc si _
theorem OQ{z r:Int}(d:y≠0)(h:r+y*z=x)(c:0<=r)(e:r<y.natAbs):z=x/y/\r=x%y:=by
 rcases Int.lt_or_gt_of_ne d with g|hp
 . have f:=(Int.ediv_emod_unique (a:=x) (b:=-y) (r:=r) (q:=-z) O).2 ⟨DY,c,O⟩;grind[Int.ediv_neg,Int.emod_neg]
 grind[Int.ediv_emod_unique]
theorem OR(b:y≠0)(c:¬(x<0/\x.natAbs%y.natAbs≠0)):
 (if(!(decide (x<0)==decide (y<0)))=true then -((x.natAbs/y.natAbs:Nat):Int)else((x.natAbs/y.natAbs:Nat):Int))=x/y/\((x.natAbs%y.natAbs:Nat):Int)=x%y:=by
 have a:=AZ x.natAbs y.natAbs;have d:=AV x.natAbs (show y.natAbs>0 by omega);generalize x.natAbs/y.natAbs=Q at *;generalize x.natAbs%y.natAbs=R at *;have e:(y.natAbs:Int)*Q+R=x.natAbs:=by rw[<-a];push_cast;rfl
 apply OQ b _ O O;grind
theorem OS(c:y≠0)(a:x<0/\x.natAbs%y.natAbs≠0):
 (if(!(decide (x<0)==decide (y<0)))=true then -((x.natAbs/y.natAbs+1:Nat):Int)else((x.natAbs/y.natAbs+1:Nat):Int))=x/y/\((y.natAbs-x.natAbs%y.natAbs:Nat):Int)=x%y:=by
 have b:=AZ x.natAbs y.natAbs;have e:=AV x.natAbs (show y.natAbs>0 by omega);generalize x.natAbs/y.natAbs=Q at *;generalize x.natAbs%y.natAbs=R at *;have f:(y.natAbs:Int)*Q+R=x.natAbs:=by rw[<-b];push_cast;rfl
 obtain⟨g,d⟩:=a;apply OQ c _ O O;grind
def KB{W:G}{B:Nat}{t:TypeId}{c d u0 u1:D}(x0 x1 a b:D)(h:Ji W B t c d)(k:Ji W (B+1) t u0 u1):
 Ji ((((W.setCell ⟨B,0,none⟩ x0).setCell ⟨B,1,none⟩ x1).setCell ⟨B+1,0,none⟩ a).setCell ⟨B+1,1,none⟩ b) B t x0 x1/\Ji ((((W.setCell ⟨B,0,none⟩ x0).setCell ⟨B,1,none⟩ x1).setCell ⟨B+1,0,none⟩ a).setCell ⟨B+1,1,none⟩ b) (B+1) t a b:=
 ⟨(((h.set0 x0).set1 x1).far DJ a).far DJ b,(((k.far DJ x0).far DJ x1).set0 a).set1 b⟩
def Tu(w:G)(a b c d:D)(p0 p1:D):
 Ji ((((w.alloc (E #[a,b] 36)).alloc (E #[c,d] 36)).alloc (E #[p0,p1] 36)).alloc (E #[p0,p1] 36)) w.heap.size 36 a b/\
 Ji ((((w.alloc (E #[a,b] 36)).alloc (E #[c,d] 36)).alloc (E #[p0,p1] 36)).alloc (E #[p0,p1] 36)) (w.heap.size+1) 36 c d/\
 Ji ((((w.alloc (E #[a,b] 36)).alloc (E #[c,d] 36)).alloc (E #[p0,p1] 36)).alloc (E #[p0,p1] 36)) (w.heap.size+1+1) 36 p0 p1/\
 Ji ((((w.alloc (E #[a,b] 36)).alloc (E #[c,d] 36)).alloc (E #[p0,p1] 36)).alloc (E #[p0,p1] 36)) (w.heap.size+1+1+1) 36 p0 p1:=by
 refine⟨(((Ji.new w _ _ _).alloc _).alloc _).alloc _,?_,?_,?_⟩
 . have h:=((Ji.new (w.alloc (E #[a,b] 36)) 36 c d).alloc (E #[p0,p1] 36)).alloc (E #[p0,p1] 36);rw[A1]at h;exact h
 . have h:=(Ji.new ((w.alloc (E #[a,b] 36)).alloc (E #[c,d] 36)) 36 p0 p1).alloc (E #[p0,p1] 36);rw[A1,A1]at h;exact h
 . have h:=Ji.new (((w.alloc (E #[a,b] 36)).alloc (E #[c,d] 36)).alloc (E #[p0,p1] 36)) 36 p0 p1;rw[A1,A1,A1]at h;exact h
theorem Tv(a:Zu)(la k:Nat)(b:Zu)(lb i X c:Nat)(s t:Bool)(z r:Int)(w:G)(hu:UN w (C a la k) X)(hv:UN w (C b lb i) c)(hY:c≠0)(bi:la<1000000000000)(bj:lb<1000000000000)
(HP:Hid (¬(s=true/\X%c≠0)->(if(!(s==t))=true then -((X/c:Nat):Int)else((X/c:Nat):Int))=z/\((X%c:Nat):Int)=r))
(HN:Hid (s=true/\X%c≠0->(if(!(s==t))=true then -((X/c+1:Nat):Int)else((X/c+1:Nat):Int))=z/\((c-X%c:Nat):Int)=r)):
 F H 117 #[N #[B s,C a la k],N #[B t,C b lb i]] w λe d=>∃q o,e=.returned (.tuple #[q,o,B true])/\Jl d q z/\Jl d o r/\Bl w d:=by
 obtain⟨b0,y,U,W⟩:=Tu w (B s) (C a la k) (B t) (C b lb i) (B false) (C none 0 0);have S:=OP w (E #[B s,C a la k] 36) (E #[B t,C b lb i] 36) (E #[B false,C none 0 0] 36) (E #[B false,C none 0 0] 36);obtain⟨W0,ah⟩:=ex ((((w.alloc (E #[B s,C a la k] 36)).alloc (E #[B t,C b lb i] 36)).alloc (E #[B false,C none 0 0] 36)).alloc (E #[B false,C none 0 0] 36));rw[ah]at b0 y U W S;have Qh:=Z ah;have bk:lb≠0:=λe=>hY ((Jz Jd).1 (Aj (by rw[<-UN.len hv,e])));have Qn:=UN.below hu S;have Qd:=UN.below hv S;have Qm:=Z (Lf a la k b lb i X c W0 Qn Qd hY O);have Qw:=Z Qd;have Qq:=Z (UN.len hu).symm;obtain⟨k0,k1⟩:=b0.cp;obtain⟨k2,M⟩:=y.cp;clear ah hu hv Qn Qd;go_enter func117,ntmps117
 go_upto_region 1 with fail
 rw[Qh.o];go_upto_region 4 with(go_at_call 151;refine Qm.o.mono ?_;rintro e w1 ⟨u1,v1,rfl,K,ae,l⟩;obtain⟨ua,uc,rfl⟩:=UN.form K;obtain⟨va,vc,rfl⟩:=UN.form ae)
 clear Qm Qh;obtain⟨k0,k1⟩:=(b0.below l).cp;obtain⟨k2,M⟩:=(y.below l).cp;have Qg:(Jb Y (X%c)).length=0↔X%c=0:=⟨λh=>(Jz Jd).1 (Aj h),λh=>by rw[h,Jv];rfl⟩;have bn:=AV X (show c>0 by omega);have bm:=YO (m:=X) (n:=X/c) (CN _ _);have Qk:(Jb Y (X/c)).length<1099511627776:=by
  have f:=(Jq K).2.2.2.1
  have:(Jb Y X).length=la:=by
   have h:=Qq.o;omega
  omega
 obtain⟨lr,bd⟩:=ex ((Jb Y (X%c)).length);obtain⟨lq,bc⟩:=ex ((Jb Y (X/c)).length);rw[bd]at ae Qg ⊢;rw[bc]at K Qk ⊢;obtain⟨A,az⟩:=ex ((s&&decide (0<lr)):Bool);have x:=Z az;have Qp:=Z Qg;clear az Qg bd bc;go_cut [29] λv P=>v=B A/\P=w1
 case first=>
  cases s with
  |false=>
   have e5:A=false:=by rw[<-x.o];rfl
   go_wp2_with fail
   go_meet
   grind
  |true=>
   by_cases h5:0<lr
   . have e5:A=true:=by rw[<-x.o];simp;omega
     go_wp2_with fail
     go_meet
     grind
   . have e5:A=false:=by rw[<-x.o];simp;omega
     go_wp2_with fail
     go_meet
     grind
 case rest=>
  obtain⟨rfl,rfl⟩:=hcut;go_upto_if 29 with fail
  go_cut [7,8] λqv rv P=>∃(qa:Zu) (ql qc Q:Nat) (oa:Zu) (ol oc R:Nat),qv=C qa ql qc/\rv=C oa ol oc/\Hid (UN P (C qa ql qc) Q)/\Hid (UN P (C oa ol oc) R)/\Hid ((if(!(s==t))=true then -(Q:Int)else(Q:Int))=z/\(R:Int)=r)/\Bl W0 P
  case first=>
   cases A with
   |false=>
    have hc:¬(s=true/\X%c≠0):=λ⟨f,h2⟩=>by
     have h:=x.o;rw[f]at h;simp at h;exact h2 (Qp.o.1 h)
    go_wp2_with fail
    go_meet
    case rel=>exact⟨_,_,_,_,_,_,_,_,J,J,Z K,Z ae,Z (HP.o hc),l⟩
   |true=>
    have hc:s=true/\X%c≠0:=by
     have h:=x.o;simp at h;exact⟨h.1,λe=>by have:=Qp.o.2 e;omega⟩
    have HC:=Z hc;clear hc;have Qv:=Z (show ∀V:G,Bl wc V->F H 113 #[C ua lq uc,C (some ⟨V.heap.size,0,none⟩) 1 1] (V.alloc (E #[.int .u64 1] 163)) λe d=>∃u,e=.returned u/\UN d u (X/c+1)/\Below (V.alloc (E #[.int .u64 1] 163)).heap.size (V.alloc (E #[.int .u64 1] 163)) d from λV h=>by
     have Qe:Row .u64 (V.alloc (E #[.int .u64 1] 163)) (C (some ⟨V.heap.size,0,none⟩) 1 1) (Jb Y 1):=by
      rw[Lg O uo];exact(DO.made (xs:=[1]) (BC V (E #[.int .u64 ((1:Nat):Int)] 163))).row 0 1 1 DJ O O O
     exact NO ua lq uc (some ⟨V.heap.size,0,none⟩) 1 1 (X/c) 1 _ (Row.below (Row.below K h) (Ba V _)) Qe Qk O)
    have Qz:=Z λ(V:G) (h:Bl wc V)=>LM b lb i va lr vc c (X%c) V (Row.below (Row.below Qw.o l) h) (Row.below ae h) O;have g:Bl wc wc.drew:=(BB _ wc).drew;have bx:=y.below l;have lx:=bx.lt;go_wp2_with fail
    have M:=bx.c1;go_region_held3 (λd=>d.cell? ⟨w.heap.size+1,1,none⟩=some (C b lb i)) (first|exact M|(go_keep;done))
     (first
      |(go_at_call 113;refine(Qv.o _ g).mono ?_;rintro e w3 ⟨u3,rfl,bf,bh⟩;obtain⟨pa,pc,rfl⟩:=UN.form bf;have g:=N2 g bh;have M:=(bx.below g).c1)
      |(go_at_call 115;refine(Qz.o _ g).mono ?_;rintro e w4 ⟨u4,rfl,bg,aq⟩;obtain⟨ma,mc,rfl⟩:=UN.form bg;have g:=Bt g aq;have M:=(bx.below g).c1))
    all_goals go_wp2_with fail
    go_meet
    case rel=>exact⟨_,_,_,_,_,_,_,_,J,J,Z (UN.below bf aq),Z bg,Z (HN.o HC.o),Bt l g⟩
  case rest=>
   obtain⟨qa,ql,qc,Q,oa,ol,oc,R,rfl,rfl,hQ,hR,hZ,ad⟩:=hcut;have Qi:=Z (show ∀V:G,Bl wc V->F H 112 #[B (!(s==t)),C qa ql qc] V λe d=>∃u,e=.returned u/\Jl d u z/\Bl V d from λV h=>by
    have f:=GV (!(s==t)) _ _ V (UN.below hQ.o h);rw[hZ.o.1]at f;exact f)
   have Qj:=Z (show ∀V:G,Bl wc V->F H 112 #[B false,C oa ol oc] V λe d=>∃u,e=.returned u/\Jl d u r/\Bl V d from λV h=>by
    have f:=GV false _ _ V (UN.below hR.o h);simp only[Cy,if_false]at f;rw[hZ.o.2]at f;exact f)
   have k0:=(b0.below ad).c0;have k2:=(y.below ad).c0;go_wp2_with(first
    |(go_at_call 112;refine(Qi.o _ (BB _ _)).mono ?_;clear Qi;rintro e w5 ⟨u5,rfl,an,ai⟩;obtain⟨T,l5,c5,rfl⟩:=an.form;obtain⟨s5,aj⟩:=ex (decide (z<0));rw[aj]at an;rw[aj];clear aj)
    |(go_at_call 112;refine(Qj.o _ ai).mono ?_;clear Qj;rintro e w6 ⟨u6,rfl,ap,ay⟩;obtain⟨a6,l6,c6,rfl⟩:=ap.form;obtain⟨s6,ak⟩:=ex (decide (r<0));rw[ak]at ap;rw[ak];clear ak;have j:=(Bt ad ai).trans (ay.mono (Bt ad ai).size);obtain⟨q0,q1⟩:=(U.below j).cp;obtain⟨q2,q3⟩:=(W.below j).cp;obtain⟨f0,f1⟩:=(U.below j).fp;obtain⟨f2,f3⟩:=(W.below j).fp))
   have Qf:=U.below j;have Qo:=W.below j;obtain⟨z4,z5⟩:=KB (B s5) (C T l5 c5) (B s6) (C a6 l6 c6) Qf Qo;obtain⟨Qy,Qx⟩:=z4.cp;obtain⟨Qr,Qu⟩:=z5.cp;have Ql:Ji ((w6.setCell ⟨w.heap.size+1+1,0,none⟩ (B s5)).setCell ⟨w.heap.size+1+1,1,none⟩ (C T l5 c5)) (w.heap.size+1+1+1) 36 (B false) (C none 0 0):=(Qo.far DJ _).far DJ _;have Qs:=((an.below ay).box Qf J J (x0:=B s5) (x1:=C T l5 c5)).box Ql J J (x0:=B s6) (x1:=C a6 l6 c6);have Qt:=(ap.box Qf J J (x0:=B s5) (x1:=C T l5 c5)).box Ql J J (x0:=B s6) (x1:=C a6 l6 c6);have Ua:=Bt S j;exact BA (by simp[results,results117,go_sem,Qy,Qx,Qr,Qu]) J ⟨_,_,J,Qs,Qt,(((Ua.setCell (p:=⟨_,0,none⟩) so _).setCell (p:=⟨_,1,none⟩) so _).setCell (p:=⟨_,0,none⟩) so _).setCell (p:=⟨_,1,none⟩) so _⟩
def Tw(j k:D)(x y:Int)(w:G)(n:Jl w j x)(p:Jl w k y)(i:y≠0)(r:(Jb Y x.natAbs).length<1000000000000)(s:(Jb Y y.natAbs).length<1000000000000):
 F H 117 #[j,k] w λe d=>∃q o,e=.returned (.tuple #[q,o,B true])/\Jl d q (x/y)/\Jl d o (x%y)/\Bl w d:=by
 obtain⟨a,la,l,rfl,f⟩:=n;obtain⟨b,lb,m,rfl,g⟩:=p;refine Tv a la l b lb m x.natAbs y.natAbs _ _ (x/y) (x%y) w f g O (by rw[UN.len f];exact r) (by rw[UN.len g];exact s) (λc=>OR i λh=>c ⟨BI h.1,h.2⟩) (λc=>OS i ⟨Bh c.1,c.2⟩)
end
section
open M3
variable{p q:Rat}
def Tx(z:Int):(D3 z 0=0)↔z=0:=by
 unfold D3;omega
def OT(v:D)(z:Int)(w:G)(h:Jl w v z):
 F H 100 #[v] w λe m=>e=.returned (B (decide (z=0)))/\Bl w m:=by
 obtain⟨a,l,c,rfl⟩:=h.form;obtain⟨s,hs⟩:=ex (decide (z<0));rw[hs]at h ⊢;clear hs;have b0:=Ji.new w 36 (B s) (C a l c);have b:Bl w (w.alloc (E #[B s,C a l c] 36)):=Ba w _;obtain⟨W0,d⟩:=ex (w.alloc (E #[B s,C a l c] 36));rw[d]at b0 b;have j:=Z d;have f:=Z (X8 _ _ z 0 W0 (h.below b) (EN _));obtain⟨o,p⟩:=b0.cp;have g:=Z (Tx z);obtain⟨n,i⟩:=ex (D3 z 0);rw[i]at f g;clear d i;go_enter func100,ntmps100
 go_upto_region 1 with fail
 rw[j.o];go_wp2_with(go_at_call 87;refine f.o.mono ?_;rintro e q ⟨rfl,k⟩)
 go_ret;refine⟨?_,Bt b k⟩;show Ending.returned (Value.bool (n==0))=_;have e:(n==0)=decide (z=0):=by rw[Ci];simp[g.o]
 rw[e]
def dd(y:Int):Int:=if y=0 then 1 else y
def OU(v:D)(x y:Int)(w:G)(h:YP w v x y):
 F H 59 #[v] w λe q=>e=.returned (B (decide (y=0)))/\Bl w q:=by
 obtain⟨s,a,l,c,t,b,k,d,rfl,r,o⟩:=h;have b0:=JA.new w 38 (B s) (C a l c) (B t) (C b k d);have f:Bl w (w.alloc (E #[B s,C a l c,B t,C b k d] 38)):=Ba w _;obtain⟨W0,g⟩:=ex (w.alloc (E #[B s,C a l c,B t,C b k d] 38));rw[g]at b0 f;have m:=Z g;have i:=Z (OT _ _ W0 (o.below f));have u:=b0.c2;have z:=b0.c3;obtain⟨n,j⟩:=ex (decide (y=0));rw[j]at i ⊢;clear g j;go_enter func59,ntmps59
 go_upto_region 1 with fail
 rw[m.o];go_wp2_with(go_at_call 100;refine i.o.mono ?_;rintro e A ⟨rfl,p⟩)
 go_ret;exact⟨J,Bt f p⟩
def Ty(v:D)(x y:Int)(w:G)(h:YP w v x y):
 F H 82 #[v] w λe W=>∃u,e=.returned u/\Jl W u (dd y)/\Bl w W:=by
 have P:=h;obtain⟨s,a,l,c,t,b,k,d,rfl,h1,Q⟩:=h;obtain⟨W0,j⟩:=ex ((w.alloc (E #[B s,C a l c,B t,C b k d] 38)).alloc (E #[B false,C none 0 0] 36));have b0:JA W0 w.heap.size 38 (B s) (C a l c) (B t) (C b k d):=by rw[<-j];exact(JA.new w _ _ _ _ _).alloc _
 have n:Bl w W0:=by rw[<-j];exact LU w _ _
 have i:Ji W0 (w.heap.size+1) 36 (B false) (C none 0 0):=by
  have h:=Ji.new (w.alloc (E #[B s,C a l c,B t,C b k d] 38)) 36 (B false) (C none 0 0);rw[A1,j]at h;exact h
 have m:=Z (OU _ x y W0 (P.below n));have M:=Z j;obtain⟨k0,k1,k2,k3⟩:=b0.cq;have X:=Z (Q.below n);clear P h1 Q j;by_cases f:y=0
 . rw[BI f]at m;have o:=Z (show dd y=1 by unfold dd;rw[BL f]);clear f;go_enter func82,ntmps82
   go_upto_region 1 with fail
   rw[M.o];go_wp2_with(first
    |(go_at_call 59;refine m.o.mono ?_;rintro e w1 ⟨rfl,g⟩)
    |(go_at_call 110;refine(Iz 1 O O _).mono ?_;rintro e w2 ⟨u2,rfl,A,ad⟩;obtain⟨T,V,U,rfl⟩:=A.form;obtain⟨S,z⟩:=ex (decide ((1:Int)<0));rw[z]at A;rw[z];clear z;have f:=Bt g ad;obtain⟨r0,K⟩:=(i.below f).cp;obtain⟨f0,f1⟩:=(i.below f).fp))
   have r:=Bt n f;have q:=A.box (i.below f) J J (x0:=B S) (x1:=C T V U);exact BA (v:=N #[B S,C T V U]) (by simp[results,results82,go_sem,r0,K]) J ⟨_,J,by rw[o.o];exact q,(r.setCell (p:=⟨_,0,none⟩) so _).setCell (p:=⟨_,1,none⟩) so _⟩
 . rw[BF f]at m;have o:=Z (show y=dd y by unfold dd;rw[BH f]);clear f;go_enter func82,ntmps82
   go_upto_region 1 with fail
   rw[M.o];go_wp2_with(go_at_call 59;refine m.o.mono ?_;rintro e w1 ⟨rfl,g⟩;have m2:=(b0.below g).c2;have m3:=(b0.below g).c3;obtain⟨r0,K⟩:=(i.below g).cp;obtain⟨f0,f1⟩:=(i.below g).fp)
   have r:=Bt n g;have R:=X.o.below g;rw[o.o]at R;have q:=R.box (i.below g) J J (x0:=B t) (x1:=C b k d);exact BA (v:=N #[B t,C b k d]) (by simp[results,results82,go_sem,r0,K]) J ⟨_,J,q,(r.setCell (p:=⟨_,0,none⟩) so _).setCell (p:=⟨_,1,none⟩) so _⟩
def Tz(q:Rat):dd (denZ q)=q.den:=by
 have:=q.den_pos;unfold dd denZ;omega
def Xg(v:D)(q:Rat)(w:G)(h:Jk w v q):
 F H 59 #[v] w λe b=>e=.returned (B (decide (q.den=1)))/\Bl w b:=by
 have a:=OU v q.num (denZ q) w h.pair;rwa[decide_eq_decide.2 Ip]at a
def Ez(v:D)(q:Rat)(w:G)(h:Jk w v q):
 F H 82 #[v] w λe a=>∃u,e=.returned u/\Jl a u (q.den:Int)/\Bl w a:=by
 have b:=Ty v q.num (denZ q) w h.pair;rwa[Tz]at b
def XU(S T:D)(x y:Int)(w:G)(i:Jl w S x)(j:Jl w T y)(R:y≠0)(K:Sok x)(M:Sok y):
 F H 84 #[S,T] w λe U=>∃u,e=.returned u/\Jl U u (x/y)/\Bl w U:=by
 obtain⟨a,la,ca,rfl⟩:=i.form;obtain⟨b,lb,cb,rfl⟩:=j.form;obtain⟨s,hs⟩:=ex (decide (x<0));obtain⟨t,P⟩:=ex (decide (y<0));rw[hs]at i ⊢;rw[P]at j ⊢;clear hs P;obtain⟨W0,o⟩:=ex (((w.alloc (E #[B s,C a la ca] 36)).alloc (E #[B t,C b lb cb] 36)).alloc (E #[B false,C none 0 0] 36));obtain⟨n,b0,b1,bR⟩:=Ii o;have V:=Z (Tw _ _ x y W0 (i.below n) (j.below n) R (by have:=K.words;omega) (by have:=M.words;omega));have X:=Z o;obtain⟨k0,k1⟩:=b0.cp;obtain⟨k2,k3⟩:=b1.cp;clear i j R K M o;go_enter func84,ntmps84
 go_upto_region 1 with fail
 rw[X.o];go_upto_region 2 with(go_at_call 117;refine V.o.mono ?_;rintro e z ⟨u1,u2,rfl,v,Q,A⟩;obtain⟨c,d,c1,rfl⟩:=v.form;obtain⟨f,q⟩:=ex (decide (x/y<0));rw[q]at v;rw[q];clear q;obtain⟨g,k,c2,rfl⟩:=Q.form;obtain⟨l,r⟩:=ex (decide (x%y<0));rw[r]at Q;rw[r];clear r)
 have bq:=(Ji.new z 36 (B f) (C c d c1)).alloc (E #[B l,C g k c2] 36);have m:=((bR.below A).alloc (E #[B f,C c d c1] 36)).alloc (E #[B l,C g k c2] 36);have hu:=(v.alloc (E #[B f,C c d c1] 36)).alloc (E #[B l,C g k c2] 36);have Qc:Bl w ((z.alloc (E #[B f,C c d c1] 36)).alloc (E #[B l,C g k c2] 36)):=Bt (Bt n A) (LU z _ _)
 obtain⟨q0,q1⟩:=bq.cp;obtain⟨r0,r1⟩:=m.cp;obtain⟨f0,f1⟩:=m.fp;go_wp2_with fail
 have W:=hu.box m J J (x0:=B f) (x1:=C c d c1);exact BA (by simp[results,results84,go_sem,r0,r1]) J ⟨_,J,W,(Qc.setCell (p:=⟨_,0,none⟩) so _).setCell (p:=⟨_,1,none⟩) so _⟩
def Lr(w:G)(s t:Bool)(a b:Zu)(la c lb d:Nat)(x y:Int)(e:Jl w (N #[B s,C a la c]) x)(f:Jl w (N #[B t,C b lb d]) y):
 DL w (((w.alloc (E #[B s,C a la c] 36)).alloc (E #[B t,C b lb d] 36)).alloc (E #[B false,C none 0 0,B false,C none 0 0] 38)) [some (w.heap.size,.int x),some (w.heap.size+1,.int y),some (w.heap.size+1+1,.rat 0)]:=by
 have h:=(((DL.nil w).push (.int x) e).push (.int y) (f.alloc _)).push (.rat 0) (D9 _);rw[A1,A1,A1]at h;exact h
def Jk.mk{W:G}{s t:Bool}{a b:Zu}{l c k d:Nat}(e:Jl W (N #[B s,C a l c]) q.num)(f:Jl W (N #[B t,C b k d]) (denZ q)):Jk W (N #[B s,C a l c,B t,C b k d]) q:=⟨_,_,_,_,_,_,_,_,J,e,f⟩
def KC(W X:D)(q:Rat)(w:G)(k:Jl w W q.num)(i:Jl w X (q.den:Int)):
 F H 86 #[W,X] w λe l=>∃u,e=.returned u/\Jk l u q/\Bl w l:=by
 obtain⟨a,la,d,rfl⟩:=k.form;obtain⟨b,lb,f,rfl⟩:=i.form;obtain⟨s,hs⟩:=ex (decide (q.num<0));obtain⟨t,P⟩:=ex (decide ((q.den:Int)<0));rw[hs]at k ⊢;rw[P]at i ⊢;clear hs P;have v:=Lr w s t a b la d lb f _ _ k i;obtain⟨W0,g⟩:=ex (((w.alloc (E #[B s,C a la d] 36)).alloc (E #[B t,C b lb f] 36)).alloc (E #[B false,C none 0 0,B false,C none 0 0] 38));have b0:Ji W0 w.heap.size 36 (B s) (C a la d):=by rw[<-g];exact((Ji.new w _ _ _).alloc _).alloc _
 have x:Ji W0 (w.heap.size+1) 36 (B t) (C b lb f):=by
  have h:=(Ji.new (w.alloc (E #[B s,C a la d] 36)) 36 (B t) (C b lb f)).alloc (E #[B false,C none 0 0,B false,C none 0 0] 38);rw[A1,g]at h;exact h
 have y:JA W0 (w.heap.size+1+1) 38 (B false) (C none 0 0) (B false) (C none 0 0):=by
  have h:=JA.new ((w.alloc (E #[B s,C a la d] 36)).alloc (E #[B t,C b lb f] 36)) 38 (B false) (C none 0 0) (B false) (C none 0 0);rw[A1,A1,g]at h;exact h
 rw[g]at v;have m:=v.2.2;obtain⟨p,A,HB,Qc⟩:=Dn (λ(V:G) (u:D) (h:Bl W0 V) (hu:Jl V u 1)=>X8 _ u (q.den:Int) 1 V ((i.below m).below h) hu) (k.below m) (i.below m) g;obtain⟨k0,k1⟩:=b0.cp;obtain⟨Q,R⟩:=x.cp;have r:=Z (show(D3 (q.den:Int) 1=0)↔q.den=1 by unfold D3;split<;>(try split)<;>omega);obtain⟨n,j⟩:=ex (D3 (q.den:Int) 1);rw[j]at p r;clear k i g j v;go_enter func86,ntmps86
 go_upto_region 1 with fail
 rw[Qc.o];have c:Bl W0 W0.drew:=(BB _ W0).drew;go_region_held3 (λl=>l.cell? ⟨w.heap.size+1,0,none⟩=some (B t)/\l.cell? ⟨w.heap.size+1,1,none⟩=some (C b lb f)) (refine⟨?_,?_⟩<;>(first|(go_keep;done)|((repeat rw[JD O]);simp[*];done)))
  (first
   |(go_at_call 110;refine(Iz 1 O O _).mono ?_;rintro e w1 ⟨u1,rfl,ah,ad⟩;have c:=Bt c ad;obtain⟨Q,R⟩:=(x.below c).cp)
   |(go_at_call 87;refine(p.o _ _ c ah).mono ?_;clear p;rintro e w2 ⟨rfl,ae⟩;have c:=Bt c ae;obtain⟨k0,k1⟩:=(b0.below c).cp;obtain⟨Q,R⟩:=(x.below c).cp;obtain⟨r0,S,T,U⟩:=(y.below c).cq;obtain⟨f0,f1,f2,f3⟩:=(y.below c).fq))
 have K:=Bt m c;have M:=y.below c;by_cases j:n=0
 . have o:=Z (show denZ q=0 from Ip.2 (r.o.1 j));subst j;have z:Jk w2 (N #[B s,C a la d,B false,C none 0 0]) q:=Jk.mk (A.o.below c) (by rw[o.o];exact EN _);go_wp2_with fail
   exact BA (by simp[results,results86,go_sem,r0,S,T,U]) J ⟨_,J,z.put4 M J J J J _ _ _ _,Jo K O _ _ _ _⟩
 . have o:=Z (show denZ q=q.den by unfold denZ;rw[BH λh=>j (r.o.2 h)]);have z:Jk w2 (N #[B s,C a la d,B t,C b lb f]) q:=Jk.mk (A.o.below c) (by rw[o.o];exact HB.o.below c);go_wp2_with fail
   exact BA (by simp[results,results86,go_sem,r0,S,T,U]) J ⟨_,J,z.put4 M J J J J _ _ _ _,Jo K O _ _ _ _⟩
def Gg{x y:Int}(a:y≠0):(0:Int)<(Int.gcd x y:Nat):=by
 have:=Int.gcd_pos_of_ne_zero_right x a;omega
theorem OV(va vb:D)(x y:Int)(w:G)(ha:Jl w va x)(A:Jl w vb y)(hy:y≠0)(bh:Sok x)(bi:Sok y):
 F H 104 #[va,vb] w λe d=>∃u,e=.returned u/\Jk d u (Zx x y)/\Bl w d:=by
 obtain⟨HX,HY,m⟩:=Db bh bi hy;clear bh bi hy;obtain⟨s,a,la,ca,rfl⟩:=Jl.form2 ha;obtain⟨t,b,lb,cb,rfl⟩:=Jl.form2 A;have M0:=Lr w s t a b la ca lb cb _ _ ha A;obtain⟨W0,an⟩:=ex (((w.alloc (E #[B s,C a la ca] 36)).alloc (E #[B t,C b lb cb] 36)).alloc (E #[B false,C none 0 0,B false,C none 0 0] 38));have Qp:=Z an;rw[an]at M0;have M1:=Z M0;clear M0 ha A an;go_enter func104,ntmps104
 go_upto_region 1 with fail
 rw[Qp.o];clear Qp;obtain⟨s1,a1,l1,c1,n1,i1⟩:=M1.o.int (i:=0) J;have Qr:=n1.ka;obtain⟨s2,a2,l2,c2,n2,i2⟩:=M1.o.int (i:=1) J;have Qs:=n2.ka;go_upto_region 2 with(go_at_call 83;refine(Ht _ _ x y _ i1 i2 (by have:=HX.o.words;omega) (by have:=HY.o.words;omega)).mono ?_;rintro e w1 ⟨u,rfl,r,A⟩;obtain⟨bu,bc,bm,bf,rfl⟩:=Jl.form2 r)
 obtain⟨V3,q⟩:=ex (w1.alloc (E #[B bu,C bc bm bf] 36));obtain⟨g,ak⟩:=ex (w1.heap.size);have o:DL w (w1.alloc (E #[B bu,C bc bm bf] 36)) [some (w.heap.size,.int x),some (w.heap.size+1,.int y),some (w.heap.size+1+1,.rat 0),some (w1.heap.size,.int (((Int.gcd x y:Nat):Int)))]:=DL.push (M1.o.below A) (.int (((Int.gcd x y:Nat):Int))) r;rw[q,ak]at o;rw[q];rw[ak];have z:=Z (o);clear M1;clear o q ak;clear n1 Qr i1 n2 Qs i2 r A;have HG:=Z (Sok.gcd HX.o HY.o);by_cases hn:y<0
 . have S:=Z hn;clear hn;obtain⟨s4,a4,l4,c4,n4,i4⟩:=z.o.int (i:=1) J;have Qt:=n4.ka;have n:=Z (X8 _ _ y 0 V3 i4 (EN _));rw[show D3 y 0=-1 from by unfold D3;rw[BL S.o]]at n;go_upto_region 3 with(go_at_call 87;refine n.o.mono ?_;rintro e K ⟨rfl,X⟩)
   have f:=Z (z.o.below X);clear z;clear n4 Qt i4 n X;obtain⟨s5,a5,l5,c5,n5,i5⟩:=f.o.int (i:=3) J;have Qq:=n5.ka;go_upto_region 4 with(go_at_call 88;refine(OL _ _ 0 (((Int.gcd x y:Nat):Int)) _ (EN _) i5 (by have:=Sok.zero.words;omega) (by have:=HG.o.words;omega)).mono ?_;rintro e w6 ⟨u6,rfl,az,ae⟩;obtain⟨bz,bd,bn,bg,rfl⟩:=Jl.form2 az;have Qq:=(n5.below ae).ka;have Qx:=(n5.below ae).fa)
   obtain⟨U,q⟩:=ex ((w6.setCell ⟨g,0,none⟩ (B bz)).setCell ⟨g,1,none⟩ (C bd bn bg));have o:DL w ((w6.setCell ⟨g,0,none⟩ (B bz)).setCell ⟨g,1,none⟩ (C bd bn bg)) [some (w.heap.size,.int x),some (w.heap.size+1,.int y),some (w.heap.size+1+1,.rat 0),some (g,.int (0-((Int.gcd x y:Nat):Int)))]:=DL.putInt (f.o.below ae) (i:=3) J az;rw[q]at o;rw[q];have l:=Z (o);clear f;clear o q;clear n5 Qq i5 az ae;clear Qx;obtain⟨T,R,Qo⟩:=Db (show(0-((Int.gcd x y:Nat):Int))≠0 by have:=Gg (x:=x) m.o;omega) (show(0-((Int.gcd x y:Nat):Int))=(if y<0 then -((Int.gcd x y:Nat):Int)else((Int.gcd x y:Nat):Int))by rw[BL S.o];omega) (show Sok (0-((Int.gcd x y:Nat):Int))by rw[Int.zero_sub];exact HG.o.neg);obtain⟨s7,a7,l7,c7,n7,i7⟩:=l.o.int (i:=0) J;have Qm:=n7.ka;obtain⟨s8,a8,l8,c8,n8,i8⟩:=l.o.int (i:=1) J;have Ql:=n8.ka;obtain⟨s9,a9,l9,c9,n9,i9⟩:=l.o.int (i:=3) J;have Qn:=n9.ka;obtain⟨fs,en,fl,f7,fv,b10,fj,fd,j,r10,ff,fh⟩:=l.o.rat (i:=2) J;have Qa:=j.kb;have Qe:=j.fb;obtain⟨M,P,Q⟩:=Db (λ(V:G) (h:Bl U V)=>XU _ _ x ((0-((Int.gcd x y:Nat):Int))) V (i7.below h) (i9.below h) T.o HX.o Qo.o) (λ(V:G) (h:Bl U V)=>XU _ _ y ((0-((Int.gcd x y:Nat):Int))) V (i8.below h) (i9.below h) T.o HY.o Qo.o) λ(V:G) (u v:D) (r:Jl V u (x/(0-((Int.gcd x y:Nat):Int)))) (hv:Jl V v (y/(0-((Int.gcd x y:Nat):Int))))=>KC u v (Zx x y) V (by rw[Iq m.o,<-R.o];exact r) (by rw[Ir m.o,<-R.o];exact hv);have Qv:=l.o.ne 0 2 J J DP;have Qw:=l.o.ne 1 2 J J DP;have Qu:=l.o.ne 3 2 J J DP;have c:Bl U U.drew:=(BB _ U).drew;go_region_held3 (λd=>(d.cell? ⟨w.heap.size,0,none⟩=some (B s7)/\d.cell? ⟨w.heap.size,1,none⟩=some (C a7 l7 c7))/\(d.cell? ⟨w.heap.size+1,0,none⟩=some (B s8)/\d.cell? ⟨w.heap.size+1,1,none⟩=some (C a8 l8 c8))/\d.cell? ⟨g,0,none⟩=some (B s9)/\d.cell? ⟨g,1,none⟩=some (C a9 l9 c9)) (first|grind|(go_keep;done)|grind[JD])
    (first
     |(go_at_call 84;refine(M.o _ c).mono ?_;clear M;rintro e w2 ⟨u2,rfl,p,ap⟩;have c:=Bt c ap;have Qm:=(n7.below c).ka;have Ql:=(n8.below c).ka;have Qn:=(n9.below c).ka;have Qa:=(j.below c).kb;have Qe:=(j.below c).fb)
     |(go_at_call 84;refine(P.o _ c).mono ?_;clear P;rintro e w3 ⟨u3,rfl,ay,W⟩;have p:=p.below W;have c:=Bt c W;have Qm:=(n7.below c).ka;have Ql:=(n8.below c).ka;have Qn:=(n9.below c).ka;have Qa:=(j.below c).kb;have Qe:=(j.below c).fb)
     |(go_at_call 86;refine(Q.o _ _ _ p ay).mono ?_;clear Q;rintro e w4 ⟨u4,rfl,ad,aq⟩;obtain⟨eh,ck,dz,de,ei,cn,dt,dh,rfl⟩:=Jk.form ad;have c:=Bt c aq;have Qm:=(n7.below c).ka;have Ql:=(n8.below c).ka;have Qn:=(n9.below c).ka;have Qa:=(j.below c).kb;have Qe:=(j.below c).fb))
   all_goals go_wp2_with fail
   have Qk:=Bt l.o.2.2 c;exact BA (by simp[results,results104,go_sem,Qa]) J ⟨_,J,ad.put4 (j.below c) J J J J _ _ _ _,Jo Qk O _ _ _ _⟩
 . have S:=Z hn;clear hn;obtain⟨ft,er,fm,f8,bt,bj⟩:=z.o.int (i:=1) J;have Qj:=bt.ka;have n:=Z (X8 _ _ y 0 V3 bj (EN _));rw[show D3 y 0=1 from by have h1:=S.o;have h2:=m.o;unfold D3;omega]at n;go_upto_region 4 with(go_at_call 87;refine n.o.mono ?_;rintro e K ⟨rfl,X⟩)
   have f:=Z (z.o.below X);clear z;clear bt Qj bj n X;have T:=Z (show((Int.gcd x y:Nat):Int)≠0 by have:=Gg (x:=x) m.o;omega);have R:=Z (show((Int.gcd x y:Nat):Int)=(if y<0 then -((Int.gcd x y:Nat):Int)else((Int.gcd x y:Nat):Int))by rw[BH (by have:=S.o;omega)]);obtain⟨eb,ce,du,co,ah,di⟩:=f.o.int (i:=0) J;have Qc:=ah.ka;obtain⟨ed,cg,dw,cy,ai,dj⟩:=f.o.int (i:=1) J;have Qf:=ai.ka;obtain⟨ef,cj,dx,cz,aj,bk⟩:=f.o.int (i:=3) J;have Qh:=aj.ka;obtain⟨fu,et,fo,fc,fw,ew,fk,fe,k,fr,fg,fi⟩:=f.o.rat (i:=2) J;have Qb:=k.kb;have Qg:=k.fb;obtain⟨M,P,Q⟩:=Db (λ(V:G) (h:Bl K V)=>XU _ _ x (((Int.gcd x y:Nat):Int)) V (di.below h) (bk.below h) T.o HX.o HG.o) (λ(V:G) (h:Bl K V)=>XU _ _ y (((Int.gcd x y:Nat):Int)) V (dj.below h) (bk.below h) T.o HY.o HG.o) λ(V:G) (u v:D) (r:Jl V u (x/((Int.gcd x y:Nat):Int))) (hv:Jl V v (y/((Int.gcd x y:Nat):Int)))=>KC u v (Zx x y) V (by rw[Iq m.o,<-R.o];exact r) (by rw[Ir m.o,<-R.o];exact hv);have Qv:=f.o.ne 0 2 J J DP;have Qw:=f.o.ne 1 2 J J DP;have Qu:=f.o.ne 3 2 J J DP;have c:Bl K K.drew:=(BB _ K).drew;go_region_held3 (λd=>(d.cell? ⟨w.heap.size,0,none⟩=some (B eb)/\d.cell? ⟨w.heap.size,1,none⟩=some (C ce du co))/\(d.cell? ⟨w.heap.size+1,0,none⟩=some (B ed)/\d.cell? ⟨w.heap.size+1,1,none⟩=some (C cg dw cy))/\d.cell? ⟨g,0,none⟩=some (B ef)/\d.cell? ⟨g,1,none⟩=some (C cj dx cz)) (first|grind|(go_keep;done)|grind[JD])
    (first
     |(go_at_call 84;refine(M.o _ c).mono ?_;clear M;rintro e w2 ⟨u2,rfl,p,ap⟩;have c:=Bt c ap;have Qc:=(ah.below c).ka;have Qf:=(ai.below c).ka;have Qh:=(aj.below c).ka;have Qb:=(k.below c).kb;have Qg:=(k.below c).fb)
     |(go_at_call 84;refine(P.o _ c).mono ?_;clear P;rintro e w3 ⟨u3,rfl,ay,W⟩;have p:=p.below W;have c:=Bt c W;have Qc:=(ah.below c).ka;have Qf:=(ai.below c).ka;have Qh:=(aj.below c).ka;have Qb:=(k.below c).kb;have Qg:=(k.below c).fb)
     |(go_at_call 86;refine(Q.o _ _ _ p ay).mono ?_;clear Q;rintro e w4 ⟨u4,rfl,ad,aq⟩;obtain⟨eh,ck,dz,de,ei,cn,dt,dh,rfl⟩:=Jk.form ad;have c:=Bt c aq;have Qc:=(ah.below c).ka;have Qf:=(ai.below c).ka;have Qh:=(aj.below c).ka;have Qb:=(k.below c).kb;have Qg:=(k.below c).fb))
   all_goals go_wp2_with fail
   have Qk:=Bt f.o.2.2 c;exact BA (by simp[results,results104,go_sem,Qb]) J ⟨_,J,ad.put4 (k.below c) J J J J _ _ _ _,Jo Qk O _ _ _ _⟩
def Ls(w:G)(s t m n:Bool)(a b e f:Zu)(l c k d j c' i g:Nat)(p q:Rat)(hp:Jk w (N #[B s,C a l c,B t,C b k d]) p)(o:Jk w (N #[B m,C e j c',B n,C f i g]) q):
 DL w (((w.alloc (E #[B s,C a l c,B t,C b k d] 38)).alloc (E #[B m,C e j c',B n,C f i g] 38)).alloc (E #[B false,C none 0 0,B false,C none 0 0] 38)) [some (w.heap.size,.rat p),some (w.heap.size+1,.rat q),some (w.heap.size+1+1,.rat 0)]:=by
 have h:=(((DL.nil w).push (.rat p) hp).push (.rat q) (o.below (Ba w _))).push (.rat 0) (D9 _);rw[A1,A1,A1]at h;exact h
def T0(w:G)(s t m n:Bool)(a b e f:Zu)(l c k d j c' i g:Nat)(p q:Rat)(hp:Jk w (N #[B s,C a l c,B t,C b k d]) p)(o:Jk w (N #[B m,C e j c',B n,C f i g]) q):
 DL w ((w.alloc (E #[B s,C a l c,B t,C b k d] 38)).alloc (E #[B m,C e j c',B n,C f i g] 38)) [some (w.heap.size,.rat p),some (w.heap.size+1,.rat q)]:=by
 have h:=((DL.nil w).push (.rat p) hp).push (.rat q) (o.below (Ba w _));rw[A1]at h;exact h
def KD(h:q.den=1):q=(q.num:Rat):=Rat.ext J h
def UA(hp:p.den=1)(a:q.den=1):(p+q).num=p.num+q.num/\(p+q).den=1:=by
 have h:p+q=((p.num+q.num:Int):Rat):=by rw[Rat.intCast_add,<-KD hp,<-KD a]
 rw[h];exact⟨J,J⟩
def UB(hp:p.den=1)(a:q.den=1):(p*q).num=p.num*q.num/\(p*q).den=1:=by
 have h:p*q=((p.num*q.num:Int):Rat):=by rw[Rat.intCast_mul,<-KD hp,<-KD a]
 rw[h];exact⟨J,J⟩
def UC(p q:Rat)(hp:Sq p)(i:Sq q)(a c e b d:Int)(f:((Int.gcd (p.den:Int) (q.den:Int):Nat):Int)=a)(n:(p.den:Int)/a=c)(o:(q.den:Int)/a=e)(r:p.num*e+q.num*c=b)(g:((Int.gcd b a:Nat):Int)=d):
 Sok a/\a≠0/\Sok c/\Sok e/\Sok b/\Sok d/\d≠0/\Sok (p.num*e)/\Sok (q.num*c)/\(p+q).num=b/d/\((p+q).den:Int)=c*(q.den/d):=by
 have hl:=RD p q a c e b d f.symm n.symm o.symm r.symm g.symm;have k:a≠0:=by rw[<-f];have:=Gg (x:=(p.den:Int)) (y:=q.den) (by have:=q.den_nz;omega);omega
 have u:Sok a:=by rw[<-f];exact hp.den.gcd i.den
 have m:Sm 1000000000 c:=by rw[<-n];exact hp.sm.2.div
 have l:Sm 1000000000 e:=by rw[<-o];exact i.sm.2.div
 have s:=hp.sm.1.mul l;have t:=i.sm.1.mul m;have j:Sok b:=by rw[<-r];exact Sok.of (s.add t) O
 refine⟨u,k,Sok.of m O,Sok.of l O,j,by rw[<-g];exact j.gcd u,?_,Sok.of s O,Sok.of t O,hl.1,hl.2⟩;rw[<-g];have:=Gg (x:=b) k;omega
theorem Hu(va vb:D)(p q:Rat)(w:G)(ha:Jk w va p)(hb:Jk w vb q)(cn:Sq p)(co:Sq q):
 F H 40 #[va,vb] w λe n=>∃u,e=.returned u/\Jk n u (p+q)/\Bl w n:=by
 obtain⟨s,a,l,c,t,b,k,d,rfl⟩:=Jk.form ha;obtain⟨s',a',l',c',t',b',k',d',rfl⟩:=Jk.form hb;have M0:=Ls w s t s' t' a b a' b' l c k d l' c' k' d' p q ha hb;obtain⟨W0,bf⟩:=ex (((w.alloc (E #[B s,C a l c,B t,C b k d] 38)).alloc (E #[B s',C a' l' c',B t',C b' k' d'] 38)).alloc (E #[B false,C none 0 0,B false,C none 0 0] 38));have Qo:=Z bf;rw[bf]at M0;obtain⟨M1,HP,R⟩:=Db M0 cn co;clear M0 ha hb bf cn co;go_enter func40,ntmps40
 go_upto_region 1 with fail
 rw[Qo.o];clear Qo;obtain⟨bb,ce⟩:=ex (decide (p.den=1/\q.den=1):Bool);have Qh:=Z ce;clear ce;go_cut [15] λc n=>c=B bb/\Hid (DL w n [some (w.heap.size,.rat p),some (w.heap.size+1,.rat q),some (w.heap.size+1+1,.rat 0)])
 case first=>
  obtain⟨s1,a1,l1,c1,t1,b1,k1,d1,n1,r1,i1,j1⟩:=M1.o.rat (i:=0) J;have Qv:=n1.kb;obtain⟨s2,a2,l2,c2,t2,b2,k2,d2,n2,r2,i2,j2⟩:=M1.o.rat (i:=1) J;have Qx:=n2.kb;have P:=Z (Xg _ p W0 r1);have H2:=Z λ(V:G) (h:Bl W0 V)=>Xg _ q V (r2.below h);by_cases U:p.den=1
  . rw[BI U]at P;obtain⟨b2,W⟩:=ex (decide (q.den=1));rw[W]at H2;have Qk:=Z (show b2=bb by rw[<-W,<-Qh.o];exact decide_eq_decide.2 ⟨λh=>⟨U,h⟩,λh=>h.2⟩);clear W U;go_wp2_with(first
     |(go_at_call 59;refine P.o.mono ?_;clear P;rintro e X ⟨rfl,ad⟩;have Qv:=(n1.below ad).kb;have Qx:=(n2.below ad).kb)
     |(go_at_call 59;refine(H2.o _ ad).mono ?_;clear H2;rintro e w2 ⟨rfl,W⟩))
    go_meet
    case rel=>exact⟨by rw[Qk.o],Z ((M1.o.below ad).below W)⟩
  . rw[BF U]at P;have Qk:=Z (show bb=false by rw[<-Qh.o];exact BF λh=>U h.1);clear U;go_wp2_with(go_at_call 59;refine P.o.mono ?_;clear P;rintro e X ⟨rfl,ad⟩)
    go_meet
    case rel=>exact⟨by rw[Qk.o],Z (M1.o.below ad)⟩
 obtain⟨rfl,m⟩:=hcut;have M2:=m;clear M1 m;cases bb with
 |true=>
  have Qi:=Bh Qh.o;have HW:=Z (UA Qi.1 Qi.2);clear Qi Qh;obtain⟨s3,a3,l3,c3,t3,b3,k3,d3,n3,r3,i3,j3⟩:=M2.o.rat (i:=0) J;have fr:=n3.kb;obtain⟨s4,a4,l4,c4,t4,b4,k4,d4,n4,r4,i4,j4⟩:=M2.o.rat (i:=1) J;have fs:=n4.kb;obtain⟨s5,a5,l5,c5,t5,b5,k5,d5,n5,r5,i5,j5⟩:=M2.o.rat (i:=2) J;have Qt:=n5.kb;have Qz:=n5.fb;go_wp2_with(go_at_call 81;refine(LT _ _ p.num q.num _ i3 i4 (by have:=HP.o.num.words;omega) (by have:=R.o.num.words;omega)).mono ?_;rintro e X ⟨u,rfl,x,g⟩;obtain⟨bh,an,bg,ap,rfl⟩:=Jl.form2 x;have Qt:=(n5.below g).kb;have Qz:=(n5.below g).fb)
  have hr:=Jk.mk (by rw[HW.o.1];exact x) (by rw[Ip.2 HW.o.2];exact EN _);have Ql:=Bt M2.o.2.2 g;exact BA (by simp[results,results40,go_sem,Qt]) J ⟨_,J,hr.put4 (n5.below g) J J J J _ _ _ _,Jo Ql O _ _ _ _⟩
 |false=>
  clear Qh;obtain⟨o,cg⟩:=ex (((Int.gcd (p.den:Int) (q.den:Int):Nat):Int):Int);have Qs:=Z cg;clear cg;obtain⟨z,cj⟩:=ex ((p.den:Int)/o:Int);have Qq:=Z cj;clear cj;obtain⟨M,ck⟩:=ex ((q.den:Int)/o:Int);have Qn:=Z ck;clear ck;obtain⟨Q,bm⟩:=ex (p.num*M+q.num*z:Int);have Qr:=Z bm;clear bm;obtain⟨K,bn⟩:=ex (((Int.gcd Q o:Nat):Int):Int);have Qp:=Z bn;clear bn;obtain⟨S1,S2,S3,S4,S5,S6,S7,S8,S9,bj,bk⟩:=UC p q HP.o R.o o z M Q K Qs.o Qq.o Qn.o Qr.o Qp.o;obtain⟨T1,T2,T3,T4,T5,T6,T7,T8⟩:=F1 S1 S2 S3 S4 S5 S6 S7 S8;obtain⟨T9,Qy,Qw⟩:=Db S9 bj bk;clear S1 S2 S3 S4 S5 S6 S7 S8 S9 bj bk;go_upto_region 3 with fail
  refine Es Di [[],[0],[],[2,1],[1,3,3],[],[5,4,4,0,1,2,3,4,5]] [.rat p,.int ((p.den:Int)),.rat q,.int ((q.den:Int)),.int o,.ptr,.eq L] [5,6] (λb v V=>DL w V [some (w.heap.size,.rat p),some (w.heap.size+1,.rat q),some (w.heap.size+1+1,.rat 0),nb b v 0 1 (.int 0) (.int o)]) (M2.o.none).drew (No (.vl J λ_ j=>Ex 0 j)<|No (.cl λh _=>Ez _ p _ (h.g 0))<|No (.vl J λ_ j=>Ex 1 j)<|No (.cl λh _=>Ez _ q _ (h.g 2))<|No (.cl λh _=>(by have h:=Ht _ _ (p.den:Int) (q.den:Int) _ (h.g 1) (h.g 3) (by have:=HP.o.den.words;omega) (by have:=R.o.den.words;omega);rw[Qs.o]at h;exact h))<|No (.wr J λ_ j=>F9 3 j)<|No (.wr J λh j=>F8 3 j (h.g 4) (hp:=h.g 5)) Stp.end_)
   λf V7 hF m=>?_
  refine DX ?_;obtain⟨B8,bc⟩:=hF.p 5;have m:=GA m;simp only[bc]at m;rw[bc];have M3:=Z m;clear m hF bc;clear M2;go_upto_region 4 with fail
  refine Es Di [[],[0],[],[1,2,1],[],[4,3],[],[5,6,5],[],[],[8,3,7,0,1,2,3,8,9],[9,7,10,0,1,2,3,4,5,6,7,8,9,10]] [.rat p,.int ((p.den:Int)),.int o,.int z,.rat q,.int ((q.den:Int)),.int o,.int M,.ptr,.ptr,.eq L,.eq L] [8,9,10,11] (λb v V=>DL w V [some (w.heap.size,.rat p),some (w.heap.size+1,.rat q),some (w.heap.size+1+1,.rat 0),some (B8,.int o),nb b v 0 2 (.int 0) (.int z),nb b v 1 3 (.int 0) (.int M)]) ((M3.o.none).none).drew (No (.vl J λ_ j=>Ex 0 j)<|No (.cl λh _=>Ez _ p _ (h.g 0))<|No (.vl J λ_ j=>Gd 3 j)<|No (.cl λh _=>(by have h:=XU _ _ (p.den:Int) o _ (h.g 1) (h.g 2) T2.o HP.o.den T1.o;rw[Qq.o]at h;exact h))<|No (.vl J λ_ j=>Ex 1 j)<|No (.cl λh _=>Ez _ q _ (h.g 4))<|No (.vl J λ_ j=>Gd 3 j)<|No (.cl λh _=>(by have h:=XU _ _ (q.den:Int) o _ (h.g 5) (h.g 6) T2.o R.o.den T1.o;rw[Qn.o]at h;exact h))<|No (.wr J λ_ j=>F9 4 j)<|No (.wr J λ_ j=>F9 5 j)<|No (.wr J λh j=>F8 4 j (h.g 3) (hp:=h.g 8))<|No (.wr J λh j=>F8 5 j (h.g 7) (hp:=h.g 9)) Stp.end_)
   λf ft hF m=>?_
  refine DX ?_;obtain⟨B11,aq⟩:=hF.p 8;obtain⟨B12,ay⟩:=hF.p 9;have m:=GA m;simp only[aq,ay]at m;rw[aq,ay];have M4:=Z m;clear m hF aq ay;clear M3;go_upto_region 5 with fail
  refine Es Di [[],[0],[],[1,2],[],[4],[],[5,6,3],[3,7,7],[],[9,8,8,0,1,2,3,4,5,6,7,8,9]] [.eq (I (some ⟨w.heap.size,0,none⟩)),.int (Rat.num (p)),.int M,.int (p.num*M),.eq (I (some ⟨w.heap.size+1,0,none⟩)),.int (Rat.num (q)),.int z,.int (q.num*z),.int Q,.ptr,.eq L] [9,10] (λb v V=>DL w V [some (w.heap.size,.rat p),some (w.heap.size+1,.rat q),some (w.heap.size+1+1,.rat 0),some (B8,.int o),some (B11,.int z),some (B12,.int M),nb b v 0 1 (.int 0) (.int Q)]) (M4.o.none).drew (No (.vl J λ_ _=>⟨_,by refine DX ?_;go_simp,J⟩)<|No (.vl J λh j=>Ge 0 j (hp:=h.e 0))<|No (.vl J λ_ j=>Gd 5 j)<|No (.cl λh _=>XP _ _ p.num M _ (h.g 1) (h.g 2) (by have:=HP.o.num.words;have:=T4.o.words;omega))<|No (.vl J λ_ _=>⟨_,by refine DX ?_;go_simp,J⟩)<|No (.vl J λh j=>Ge 1 j (hp:=h.e 4))<|No (.vl J λ_ j=>Gd 4 j)<|No (.cl λh _=>XP _ _ q.num z _ (h.g 5) (h.g 6) (by have:=R.o.num.words;have:=T3.o.words;omega))<|No (.cl λh _=>(by have h:=LT _ _ (p.num*M) (q.num*z) _ (h.g 3) (h.g 7) (by have:=T8.o.words;omega) (by have:=T9.o.words;omega);rw[Qr.o]at h;exact h))<|No (.wr J λ_ j=>F9 6 j)<|No (.wr J λh j=>F8 6 j (h.g 8) (hp:=h.g 9)) Stp.end_)
   λf dt hF m=>?_
  refine DX ?_;rw[hF.e 0,hF.e 4];obtain⟨ak,az⟩:=hF.p 9;have m:=GA m;simp only[az]at m;rw[az];have M5:=Z m;clear m hF az;clear M4;go_upto_region 6 with fail
  obtain⟨ie,fu,gr,gb,di,cz⟩:=M5.o.int (i:=6) J;have Qj:=di.ka;obtain⟨ig,fv,gt,gc,dj,de⟩:=M5.o.int (i:=3) J;have Qm:=dj.ka;have HC:=Z (Ht _ _ Q o dt cz de (by have:=T5.o.words;omega) (by have:=T1.o.words;omega));rw[Qp.o]at HC;go_upto_region 7 with(go_at_call 83;refine HC.o.mono ?_;clear HC;rintro e X ⟨u,rfl,x,hb⟩;obtain⟨bh,an,bg,ap,rfl⟩:=Jl.form2 x)
  obtain⟨T,hV⟩:=ex (X.alloc (E #[B bh,C an bg ap] 36));obtain⟨bi,bd⟩:=ex (X.heap.size);have m:DL w (X.alloc (E #[B bh,C an bg ap] 36)) [some (w.heap.size,.rat p),some (w.heap.size+1,.rat q),some (w.heap.size+1+1,.rat 0),some (B8,.int o),some (B11,.int z),some (B12,.int M),some (ak,.int Q),some (X.heap.size,.int K)]:=DL.push (M5.o.below hb) (.int K) x;rw[hV,bd]at m;rw[hV];rw[bd];have A:=Z (m);clear M5;clear m hV bd;clear di Qj cz dj Qm de x hb;obtain⟨fj,du,fe,ed,ae,f8⟩:=A.o.int (i:=6) J;have Qe:=ae.ka;obtain⟨fk,dw,ff,ef,ah,dh⟩:=A.o.int (i:=7) J;have Qb:=ah.ka;obtain⟨fl,dx,fg,eh,ai,fc⟩:=A.o.int (i:=4) J;have Qf:=ai.ka;obtain⟨fm,dz,fh,ei,fo,eb,fd,en,aj,fi,gk,gn⟩:=A.o.rat (i:=1) J;have Qc:=aj.kb;obtain⟨ii,fw,gu,gg,ik,fy,gp,gi,r,ic,gl,go⟩:=A.o.rat (i:=2) J;have Qa:=r.kb;have Qd:=r.fb;obtain⟨P,H2,H3,H4,H5⟩:=FX (λ(V:G) (h:Bl T V)=>XU _ _ Q K V (f8.below h) (dh.below h) T7.o T5.o T6.o) (λ(V:G) (h:Bl T V)=>Ez _ q V (fi.below h)) (λ(V:G) (u:D) (h:Bl T V) (x:Jl V u (q.den:Int))=>XU u _ (q.den:Int) K V x (dh.below h) T7.o R.o.den T6.o) (λ(V:G) (u:D) (h:Bl T V) (x:Jl V u ((q.den:Int)/K))=>XP _ u z ((q.den:Int)/K) V (fc.below h) x (by have U:=T3.o.words;have h2:=(Sok.div (y:=K) R.o.den).words;omega)) λ(V:G) (u v:D) (x:Jl V u (Q/K)) (hv:Jl V v (z*((q.den:Int)/K)))=>KC u v (p+q) V (by rw[Qy.o];exact x) (by rw[Qw.o];exact hv);have ia:=A.o.ne 6 2 J J DP;have ib:=A.o.ne 7 2 J J DP;have gz:=A.o.ne 4 2 J J DP;have gy:=A.o.ne 1 2 J J DP;have g:Bl T T.drew:=(BB _ T).drew;go_region_held3 (λn=>(n.cell? ⟨ak,0,none⟩=some (B fj)/\n.cell? ⟨ak,1,none⟩=some (C du fe ed))/\(n.cell? ⟨bi,0,none⟩=some (B fk)/\n.cell? ⟨bi,1,none⟩=some (C dw ff ef))/\(n.cell? ⟨B11,0,none⟩=some (B fl)/\n.cell? ⟨B11,1,none⟩=some (C dx fg eh))/\n.cell? ⟨w.heap.size+1,0,none⟩=some (B fm)/\n.cell? ⟨w.heap.size+1,1,none⟩=some (C dz fh ei)/\n.cell? ⟨w.heap.size+1,2,none⟩=some (B fo)/\n.cell? ⟨w.heap.size+1,3,none⟩=some (C eb fd en)) (first|grind|(go_keep;done)|((repeat' apply CE)<;>((repeat rw[JD O]);grind)))
   (first
    |(go_at_call 84;refine(P.o _ g).mono ?_;clear P;rintro e w2 ⟨u2,rfl,S,W⟩;have g:=Bt g W;have Qe:=(ae.below g).ka;have Qb:=(ah.below g).ka;have Qf:=(ai.below g).ka;have Qc:=(aj.below g).kb;have Qa:=(r.below g).kb;have Qd:=(r.below g).fb)
    |(go_at_call 82;refine(H2.o _ g).mono ?_;clear H2;rintro e w3 ⟨u3,rfl,et,bt⟩;have S:=S.below bt;have g:=Bt g bt;have Qe:=(ae.below g).ka;have Qb:=(ah.below g).ka;have Qf:=(ai.below g).ka;have Qc:=(aj.below g).kb;have Qa:=(r.below g).kb;have Qd:=(r.below g).fb)
    |(go_at_call 84;refine(H3.o _ _ g et).mono ?_;clear H3;rintro e w4 ⟨u4,rfl,ew,bu⟩;have S:=S.below bu;have g:=Bt g bu;have Qe:=(ae.below g).ka;have Qb:=(ah.below g).ka;have Qf:=(ai.below g).ka;have Qc:=(aj.below g).kb;have Qa:=(r.below g).kb;have Qd:=(r.below g).fb)
    |(go_at_call 85;refine(H4.o _ _ g ew).mono ?_;clear H4;rintro e w5 ⟨u5,rfl,f7,bz⟩;have S:=S.below bz;have g:=Bt g bz;have Qe:=(ae.below g).ka;have Qb:=(ah.below g).ka;have Qf:=(ai.below g).ka;have Qc:=(aj.below g).kb;have Qa:=(r.below g).kb;have Qd:=(r.below g).fb)
    |(go_at_call 86;refine(H5.o _ _ _ S f7).mono ?_;clear H5;rintro e w6 ⟨u6,rfl,cy,er⟩;obtain⟨ij,fx,gw,gh,il,ga,gq,gj,rfl⟩:=Jk.form cy;have g:=Bt g er;have Qe:=(ae.below g).ka;have Qb:=(ah.below g).ka;have Qf:=(ai.below g).ka;have Qc:=(aj.below g).kb;have Qa:=(r.below g).kb;have Qd:=(r.below g).fb))
  all_goals go_wp2_with fail
  have Ql:=Bt A.o.2.2 g;have Qu:=A.o.ge 2 J;exact BA (by simp[results,results40,go_sem,Qa]) J ⟨_,J,cy.put4 (r.below g) J J J J _ _ _ _,Jo Ql Qu _ _ _ _⟩
def UD(p q:Rat)(hp:Sq p)(d:Sq q)(a up x y:Int)(b:((Int.gcd p.num (q.den:Int):Nat):Int)=a)(c:((Int.gcd q.num (p.den:Int):Nat):Int)=up)(e:p.num/a=x)(f:q.num/up=y):
 Sok a/\a≠0/\Sok up/\up≠0/\Sok x/\Sok y/\(p*q).num=x*y/\((p*q).den:Int)=p.den/up*(q.den/a):=by
 have hl:=RE p q a up b.symm c.symm;have i:a≠0:=by rw[<-b];have:=Gg (x:=p.num) (y:=q.den) (by have:=q.den_nz;omega);omega
 have g:up≠0:=by rw[<-c];have:=Gg (x:=q.num) (y:=p.den) (by have:=p.den_nz;omega);omega
 refine⟨by rw[<-b];exact hp.num.gcd d.den,i,by rw[<-c];exact d.num.gcd hp.den,g,by rw[<-e];exact hp.num.div,by rw[<-f];exact d.num.div,?_,hl.2⟩;rw[hl.1,e,f]
theorem Lt(va vb:D)(p q:Rat)(w:G)(ha:Jk w va p)(hb:Jk w vb q)(bi:Sq p)(bj:Sq q):
 F H 41 #[va,vb] w λe m=>∃u,e=.returned u/\Jk m u (p*q)/\Bl w m:=by
 obtain⟨s,a,l,c,t,b,k,d,rfl⟩:=Jk.form ha;obtain⟨s',a',l',c',t',b',k',d',rfl⟩:=Jk.form hb;have M0:=Ls w s t s' t' a b a' b' l c k d l' c' k' d' p q ha hb;obtain⟨W0,az⟩:=ex (((w.alloc (E #[B s,C a l c,B t,C b k d] 38)).alloc (E #[B s',C a' l' c',B t',C b' k' d'] 38)).alloc (E #[B false,C none 0 0,B false,C none 0 0] 38));have Ql:=Z az;rw[az]at M0;obtain⟨M1,Q,R⟩:=Db M0 bi bj;clear M0 ha hb az bi bj;go_enter func41,ntmps41
 go_upto_region 1 with fail
 rw[Ql.o];clear Ql;obtain⟨bb,bg⟩:=ex (decide (p.den=1/\q.den=1):Bool);have Qh:=Z bg;clear bg;go_cut [13] λc m=>c=B bb/\Hid (DL w m [some (w.heap.size,.rat p),some (w.heap.size+1,.rat q),some (w.heap.size+1+1,.rat 0)])
 case first=>
  obtain⟨s1,a1,l1,c1,t1,b1,k1,d1,n1,r1,i1,j1⟩:=M1.o.rat (i:=0) J;have Qr:=n1.kb;obtain⟨s2,a2,l2,c2,t2,b2,k2,d2,n2,r2,i2,j2⟩:=M1.o.rat (i:=1) J;have Qs:=n2.kb;have H1:=Z (Xg _ p W0 r1);have H2:=Z λ(V:G) (h:Bl W0 V)=>Xg _ q V (r2.below h);by_cases P:p.den=1
  . rw[BI P]at H1;obtain⟨b2,U⟩:=ex (decide (q.den=1));rw[U]at H2;have Qj:=Z (show b2=bb by rw[<-U,<-Qh.o];exact decide_eq_decide.2 ⟨λh=>⟨P,h⟩,λh=>h.2⟩);clear U P;go_wp2_with(first
     |(go_at_call 59;refine H1.o.mono ?_;clear H1;rintro e w1 ⟨rfl,ai⟩;have Qr:=(n1.below ai).kb;have Qs:=(n2.below ai).kb)
     |(go_at_call 59;refine(H2.o _ ai).mono ?_;clear H2;rintro e w2 ⟨rfl,U⟩))
    go_meet
    case rel=>exact⟨by rw[Qj.o],Z ((M1.o.below ai).below U)⟩
  . rw[BF P]at H1;have Qj:=Z (show bb=false by rw[<-Qh.o];exact BF λh=>P h.1);clear P;go_wp2_with(go_at_call 59;refine H1.o.mono ?_;clear H1;rintro e w1 ⟨rfl,ai⟩)
    go_meet
    case rel=>exact⟨by rw[Qj.o],Z (M1.o.below ai)⟩
 obtain⟨rfl,o⟩:=hcut;have M2:=o;clear M1 o;cases bb with
 |true=>
  have Qi:=Bh Qh.o;have HW:=Z (UB Qi.1 Qi.2);clear Qi Qh;obtain⟨s3,a3,l3,c3,t3,b3,k3,d3,n3,r3,i3,j3⟩:=M2.o.rat (i:=0) J;have fc:=n3.kb;obtain⟨s4,a4,l4,c4,t4,b4,k4,d4,n4,r4,i4,j4⟩:=M2.o.rat (i:=1) J;have fd:=n4.kb;obtain⟨s5,a5,l5,c5,t5,b5,k5,d5,n5,r5,i5,j5⟩:=M2.o.rat (i:=2) J;have Qp:=n5.kb;have Qt:=n5.fb;go_wp2_with(go_at_call 85;refine(XP _ _ p.num q.num _ i3 i4 (by have P:=Q.o.num.words;have h2:=R.o.num.words;omega)).mono ?_;rintro e w1 ⟨u,rfl,hu,g⟩;obtain⟨go,ff,gb,fk,rfl⟩:=Jl.form2 hu;have Qp:=(n5.below g).kb;have Qt:=(n5.below g).fb)
  have hr:=Jk.mk (by rw[HW.o.1];exact hu) (by rw[Ip.2 HW.o.2];exact EN _);have Qk:=Bt M2.o.2.2 g;exact BA (by simp[results,results41,go_sem,Qp]) J ⟨_,J,hr.put4 (n5.below g) J J J J _ _ _ _,Jo Qk O _ _ _ _⟩
 |false=>
  clear Qh;obtain⟨A,bh⟩:=ex (((Int.gcd p.num (q.den:Int):Nat):Int):Int);have Qm:=Z bh;clear bh;obtain⟨up,bk⟩:=ex (((Int.gcd q.num (p.den:Int):Nat):Int):Int);have Qn:=Z bk;clear bk;obtain⟨x,hx⟩:=ex (p.num/A:Int);have HX:=Z hx;clear hx;obtain⟨y,hy⟩:=ex (q.num/up:Int);have HY:=Z hy;clear hy;obtain⟨S1,S2,S3,S4,S5,S6,S7,S8⟩:=UD p q Q.o R.o A up x y Qm.o Qn.o HX.o HY.o;obtain⟨T1,T2,T3,T4,T5,T6,T7,T8⟩:=F1 S1 S2 S3 S4 S5 S6 S7 S8;clear S1 S2 S3 S4 S5 S6 S7 S8;go_upto_region 3 with fail
  refine Es Di [[],[0],[],[2],[1,3,3],[],[5],[],[7,4],[6,8,8],[],[],[10,4,9,0,1,2,3,4,10,11],[11,9,12,0,1,2,3,4,5,6,7,8,9,10,11,12]] [.eq (I (some ⟨w.heap.size,0,none⟩)),.int (Rat.num (p)),.rat q,.int ((q.den:Int)),.int A,.eq (I (some ⟨w.heap.size+1,0,none⟩)),.int (Rat.num (q)),.rat p,.int ((p.den:Int)),.int up,.ptr,.ptr,.eq L,.eq L] [10,11,12,13] (λb v V=>DL w V [some (w.heap.size,.rat p),some (w.heap.size+1,.rat q),some (w.heap.size+1+1,.rat 0),nb b v 0 2 (.int 0) (.int A),nb b v 1 3 (.int 0) (.int up)]) ((M2.o.none).none).drew (No (.vl J λ_ _=>⟨_,by refine DX ?_;go_simp,J⟩)<|No (.vl J λh j=>Ge 0 j (hp:=h.e 0))<|No (.vl J λ_ j=>Ex 1 j)<|No (.cl λh _=>Ez _ q _ (h.g 2))<|No (.cl λh _=>(by have h:=Ht _ _ p.num (q.den:Int) _ (h.g 1) (h.g 3) (by have:=Q.o.num.words;omega) (by have:=R.o.den.words;omega);rw[Qm.o]at h;exact h))<|No (.vl J λ_ _=>⟨_,by refine DX ?_;go_simp,J⟩)<|No (.vl J λh j=>Ge 1 j (hp:=h.e 5))<|No (.vl J λ_ j=>Ex 0 j)<|No (.cl λh _=>Ez _ p _ (h.g 7))<|No (.cl λh _=>(by have h:=Ht _ _ q.num (p.den:Int) _ (h.g 6) (h.g 8) (by have:=R.o.num.words;omega) (by have:=Q.o.den.words;omega);rw[Qn.o]at h;exact h))<|No (.wr J λ_ j=>F9 3 j)<|No (.wr J λ_ j=>F9 4 j)<|No (.wr J λh j=>F8 3 j (h.g 4) (hp:=h.g 10))<|No (.wr J λh j=>F8 4 j (h.g 9) (hp:=h.g 11)) Stp.end_)
   λf V7 hF o=>?_
  refine DX ?_;rw[hF.e 0,hF.e 5];obtain⟨B8,aq⟩:=hF.p 10;obtain⟨B9,ay⟩:=hF.p 11;have o:=GA o;simp only[aq,ay]at o;rw[aq,ay];have M3:=Z o;clear o hF aq ay;clear M2;go_upto_region 4 with fail
  refine Es Di [[],[0],[],[1,2],[],[4],[],[5,6,3],[3,7,7],[],[9,8,8,0,1,2,3,4,5,6,7,8,9]] [.eq (I (some ⟨w.heap.size,0,none⟩)),.int (Rat.num (p)),.int A,.int x,.eq (I (some ⟨w.heap.size+1,0,none⟩)),.int (Rat.num (q)),.int up,.int y,.int (x*y),.ptr,.eq L] [9,10] (λb v V=>DL w V [some (w.heap.size,.rat p),some (w.heap.size+1,.rat q),some (w.heap.size+1+1,.rat 0),some (B8,.int A),some (B9,.int up),nb b v 0 1 (.int 0) (.int (x*y))]) (M3.o.none).drew (No (.vl J λ_ _=>⟨_,by refine DX ?_;go_simp,J⟩)<|No (.vl J λh j=>Ge 0 j (hp:=h.e 0))<|No (.vl J λ_ j=>Gd 3 j)<|No (.cl λh _=>(by have h:=XU _ _ p.num A _ (h.g 1) (h.g 2) T2.o Q.o.num T1.o;rw[HX.o]at h;exact h))<|No (.vl J λ_ _=>⟨_,by refine DX ?_;go_simp,J⟩)<|No (.vl J λh j=>Ge 1 j (hp:=h.e 4))<|No (.vl J λ_ j=>Gd 4 j)<|No (.cl λh _=>(by have h:=XU _ _ q.num up _ (h.g 5) (h.g 6) T4.o R.o.num T3.o;rw[HY.o]at h;exact h))<|No (.cl λh _=>XP _ _ x y _ (h.g 3) (h.g 7) (by have:=T5.o.words;have:=T6.o.words;omega))<|No (.wr J λ_ j=>F9 5 j)<|No (.wr J λh j=>F8 5 j (h.g 8) (hp:=h.g 9)) Stp.end_)
   λf K hF o=>?_
  refine DX ?_;rw[hF.e 0,hF.e 4];obtain⟨B12,ap⟩:=hF.p 9;have o:=GA o;simp only[ap]at o;rw[ap];have r:=Z o;clear o hF ap;clear M3;go_upto_region 5 with fail
  obtain⟨ei,bm,dw,cj,W,dh⟩:=r.o.int (i:=5) J;have Qb:=W.ka;obtain⟨en,bn,dx,ck,f7,ce,dt,cz,X,ef,fr,fu⟩:=r.o.rat (i:=0) J;have Qf:=X.kb;obtain⟨er,bt,dz,cn,ad,di⟩:=r.o.int (i:=4) J;have Qd:=ad.ka;obtain⟨et,bu,eb,co,f8,cg,du,de,ae,eh,fs,fv⟩:=r.o.rat (i:=1) J;have Qc:=ae.kb;obtain⟨ew,bz,ed,cy,ah,dj⟩:=r.o.int (i:=3) J;have Qe:=ah.ka;obtain⟨gn,fe,ga,fj,gq,fh,fx,fm,n,gl,ft,fw⟩:=r.o.rat (i:=2) J;have S:=n.kb;have Qg:=n.fb;obtain⟨H2,H4,H6,H8,H9,Qo⟩:=GZ (λ(V:G) (h:Bl K V)=>Ez _ p V (ef.below h)) (λ(V:G) (h:Bl K V) (v2:D) (z:Jl V v2 ((p.den:Int)))=>XU _ _ (p.den:Int) up V z (di.below h) T4.o Q.o.den T3.o) (λ(V:G) (h:Bl K V)=>Ez _ q V (eh.below h)) (λ(V:G) (h:Bl K V) (v6:D) (M:Jl V v6 ((q.den:Int)))=>XU _ _ (q.den:Int) A V M (dj.below h) T2.o R.o.den T1.o) (λ(V:G) (h:Bl K V) (v4:D) (g4:Jl V v4 ((p.den:Int)/up)) (v8:D) (T:Jl V v8 ((q.den:Int)/A))=>XP _ _ ((p.den:Int)/up) ((q.den:Int)/A) V g4 T (by have P:=(Sok.div (y:=up) Q.o.den).words;have h2:=(Sok.div (y:=A) R.o.den).words;omega)) λ(V:G) (h:Bl K V) (v9:D) (g9:Jl V v9 ((p.den:Int)/up*((q.den:Int)/A)))=>KC _ _ (p*q) V (by rw[T7.o];exact(dh.below h)) (by rw[T8.o];exact g9);have gk:=r.o.ne 5 2 J J DP;have gg:=r.o.ne 0 2 J J DP;have gj:=r.o.ne 4 2 J J DP;have gh:=r.o.ne 1 2 J J DP;have gi:=r.o.ne 3 2 J J DP;have g:Bl K K.drew:=(BB _ K).drew;go_region_held3 (λm=>(m.cell? ⟨B12,0,none⟩=some (B ei)/\m.cell? ⟨B12,1,none⟩=some (C bm dw cj))/\(m.cell? ⟨w.heap.size,0,none⟩=some (B en)/\m.cell? ⟨w.heap.size,1,none⟩=some (C bn dx ck)/\m.cell? ⟨w.heap.size,2,none⟩=some (B f7)/\m.cell? ⟨w.heap.size,3,none⟩=some (C ce dt cz))/\(m.cell? ⟨B9,0,none⟩=some (B er)/\m.cell? ⟨B9,1,none⟩=some (C bt dz cn))/\(m.cell? ⟨w.heap.size+1,0,none⟩=some (B et)/\m.cell? ⟨w.heap.size+1,1,none⟩=some (C bu eb co)/\m.cell? ⟨w.heap.size+1,2,none⟩=some (B f8)/\m.cell? ⟨w.heap.size+1,3,none⟩=some (C cg du de))/\m.cell? ⟨B8,0,none⟩=some (B ew)/\m.cell? ⟨B8,1,none⟩=some (C bz ed cy)) (first|grind|(go_keep;done)|((repeat' apply CE)<;>((repeat rw[JD O]);grind)))
   (first
    |(go_at_call 82;refine(H2.o _ g ).mono ?_;clear H2;rintro e w2 ⟨v2,rfl,z,U⟩;have g:=Bt g U;have Qb:=(W.below g).ka;have Qf:=(X.below g).kb;have Qd:=(ad.below g).ka;have Qc:=(ae.below g).kb;have Qe:=(ah.below g).ka;have S:=(n.below g).kb;have Qg:=(n.below g).fb)
    |(go_at_call 84;refine(H4.o _ g _ z).mono ?_;clear H4;rintro e w4 ⟨v4,rfl,g4,bf⟩;have z:=z.below bf;have g:=Bt g bf;have Qb:=(W.below g).ka;have Qf:=(X.below g).kb;have Qd:=(ad.below g).ka;have Qc:=(ae.below g).kb;have Qe:=(ah.below g).ka;have S:=(n.below g).kb;have Qg:=(n.below g).fb)
    |(go_at_call 82;refine(H6.o _ g ).mono ?_;clear H6;rintro e w6 ⟨v6,rfl,M,bc⟩;have z:=z.below bc;have g4:=g4.below bc;have g:=Bt g bc;have Qb:=(W.below g).ka;have Qf:=(X.below g).kb;have Qd:=(ad.below g).ka;have Qc:=(ae.below g).kb;have Qe:=(ah.below g).ka;have S:=(n.below g).kb;have Qg:=(n.below g).fb)
    |(go_at_call 84;refine(H8.o _ g _ M).mono ?_;clear H8;rintro e w8 ⟨v8,rfl,T,an⟩;have z:=z.below an;have g4:=g4.below an;have M:=M.below an;have g:=Bt g an;have Qb:=(W.below g).ka;have Qf:=(X.below g).kb;have Qd:=(ad.below g).ka;have Qc:=(ae.below g).kb;have Qe:=(ah.below g).ka;have S:=(n.below g).kb;have Qg:=(n.below g).fb)
    |(go_at_call 85;refine(H9.o _ g _ g4 _ T).mono ?_;clear H9;rintro e w9 ⟨v9,rfl,g9,ak⟩;have z:=z.below ak;have g4:=g4.below ak;have M:=M.below ak;have T:=T.below ak;have g:=Bt g ak;have Qb:=(W.below g).ka;have Qf:=(X.below g).kb;have Qd:=(ad.below g).ka;have Qc:=(ae.below g).kb;have Qe:=(ah.below g).ka;have S:=(n.below g).kb;have Qg:=(n.below g).fb)
    |(go_at_call 86;refine(Qo.o _ g _ g9).mono ?_;clear Qo;rintro e gu ⟨gt,rfl,bd,aj⟩;obtain⟨gp,fg,gc,fl,gr,fi,fy,fo,rfl⟩:=Jk.form bd;have z:=z.below aj;have g4:=g4.below aj;have M:=M.below aj;have T:=T.below aj;have g9:=g9.below aj;have g:=Bt g aj;have Qb:=(W.below g).ka;have Qf:=(X.below g).kb;have Qd:=(ad.below g).ka;have Qc:=(ae.below g).kb;have Qe:=(ah.below g).ka;have S:=(n.below g).kb;have Qg:=(n.below g).fb))
  all_goals go_wp2_with fail
  have Qk:=Bt r.o.2.2 g;have Qq:=r.o.ge 2 J;exact BA (by simp[results,results41,go_sem,S]) J ⟨_,J,bd.put4 (n.below g) J J J J _ _ _ _,Jo Qk Qq _ _ _ _⟩
def UE(W X:D)(x y:Int)(w:G)(v:Jl w W x)(z:Jl w X y)(P:Sok x)(Q:Sok y):
 F H 107 #[W,X] w λe w'=>∃u,e=.returned (.tuple #[u,B (decide (y≠0))])/\Jk w' u (Zx x y)/\Bl w w':=by
 have HX:=Z P;have HY:=Z Q;clear P Q;obtain⟨s,a,la,K,rfl⟩:=Jl.form2 v;obtain⟨t,b,lb,M,rfl⟩:=Jl.form2 z;have n:=Lr w s t a b la K lb M _ _ v z;obtain⟨W0,r⟩:=ex (((w.alloc (E #[B s,C a la K] 36)).alloc (E #[B t,C b lb M] 36)).alloc (E #[B false,C none 0 0,B false,C none 0 0] 38));have A:=Z r;rw[r]at n;have g:=Z n;clear n v z r;obtain⟨s1,a1,l1,c1,T,i1⟩:=g.o.int (i:=0) J;have Qf:=T.ka;obtain⟨s2,a2,l2,c2,U,S⟩:=g.o.int (i:=1) J;have Qg:=U.ka;obtain⟨s3,a3,l3,c3,t3,b3,k3,d3,f,r3,i3,j3⟩:=g.o.rat (i:=2) J;have k:=f.kb;have o:=f.fb;have l:=Z (OT _ y W0 S);have j:=Z λ(V:G) (h:Bl W0 V) (d:y≠0)=>OV _ _ x y V (i1.below h) (S.below h) d HX.o HY.o;by_cases d:y=0
 . rw[BI d]at l;have m:=Z (BF (p:=y≠0) λh=>h d);rw[m.o];have HE:=Z (show Zx x y=0 by rw[d,Rat.divInt_zero]);clear d j;go_enter func107,ntmps107
   go_upto_region 1 with fail
   rw[A.o];go_wp2_with(go_at_call 100;refine l.o.mono ?_;rintro e w1 ⟨rfl,c⟩;have k:=(f.below c).kb;have o:=(f.below c).fb)
   have hr:Jk w1 (N #[B false,C none 0 0,B false,C none 0 0]) (Zx x y):=by rw[HE.o];exact D9 _
   have q:=Bt g.o.2.2 c;exact BA (by simp[results,results107,go_sem,k]) J ⟨_,J,hr.put4 (f.below c) J J J J _ _ _ _,Jo q O _ _ _ _⟩
 . rw[BF d]at l;have m:=Z (BI (p:=y≠0) d);rw[m.o];have j:=Z λV h=>j.o V h d;clear d;go_enter func107,ntmps107
   go_upto_region 1 with fail
   rw[A.o];go_wp2_with(first
    |(go_at_call 100;refine l.o.mono ?_;rintro e w1 ⟨rfl,c⟩;have Qf:=(T.below c).ka;have Qg:=(U.below c).ka;have k:=(f.below c).kb;have o:=(f.below c).fb)
    |(go_at_call 104;refine(j.o _ c).mono ?_;clear j;rintro e w2 ⟨u2,rfl,R,ad⟩;obtain⟨ap,ae,an,ai,aq,ah,ak,aj,rfl⟩:=Jk.form R;have c:=Bt c ad;have k:=(f.below c).kb;have o:=(f.below c).fb))
   have q:=Bt g.o.2.2 c;have Qe:=g.o.ge 2 J;exact BA (by simp[results,results107,go_sem,k]) J ⟨_,J,R.put4 (f.below c) J J J J _ _ _ _,Jo q Qe _ _ _ _⟩
def Gh(p q:Rat):Int:=D3 (p.num*q.den) (q.num*p.den)
theorem UF(va vb:D)(p q:Rat)(w:G)(ha:Jk w va p)(hb:Jk w vb q)(aj:Sq p)(ak:Sq q):
 F H 42 #[va,vb] w λe g=>e=.returned (.int .i64 (Gh p q))/\Bl w g:=by
 obtain⟨s,a,l,c,t,b,k,d,rfl⟩:=Jk.form ha;obtain⟨s',a',l',c',t',b',k',d',rfl⟩:=Jk.form hb;have W:=T0 w s t s' t' a b a' b' l c k d l' c' k' d' p q ha hb;obtain⟨W0,ad⟩:=ex ((w.alloc (E #[B s,C a l c,B t,C b k d] 38)).alloc (E #[B s',C a' l' c',B t',C b' k' d'] 38));have Qf:=Z ad;rw[ad]at W;have z:=Z W;obtain⟨n,hn⟩:=ex (Gh p q);have HN:=Z hn;rw[hn];have HP:=Z aj;have HQ:=Z ak;clear W ha hb ad aj ak hn;go_enter func42,ntmps42
 go_upto_region 1 with fail
 rw[Qf.o];clear Qf;obtain⟨S,ai⟩:=ex (decide (p.den=1/\q.den=1):Bool);have M:=Z ai;clear ai;go_cut [10] λc g=>c=B S/\Hid (DL w g [some (w.heap.size,.rat p),some (w.heap.size+1,.rat q)])
 case first=>
  obtain⟨s1,a1,l1,c1,t1,b1,k1,d1,n1,r1,i1,j1⟩:=z.o.rat (i:=0) J;have Qh:=n1.kb;obtain⟨s2,a2,l2,c2,t2,b2,k2,d2,n2,r2,i2,j2⟩:=z.o.rat (i:=1) J;have Qi:=n2.kb;have m:=Z (Xg _ p W0 r1);have U:=Z λ(V:G) (h:Bl W0 V)=>Xg _ q V (r2.below h);by_cases u:p.den=1
  . rw[BI u]at m;obtain⟨b2,R⟩:=ex (decide (q.den=1));rw[R]at U;have Qe:=Z (show b2=S by rw[<-R,<-M.o];grind);clear R u;go_wp2_with(first
     |(go_at_call 59;refine m.o.mono ?_;clear m;rintro e w1 ⟨rfl,v⟩;have Qh:=(n1.below v).kb;have Qi:=(n2.below v).kb)
     |(go_at_call 59;refine(U.o _ v).mono ?_;clear U;rintro e w2 ⟨rfl,R⟩))
    go_meet
    case rel=>exact⟨by rw[Qe.o],Z ((z.o.below v).below R)⟩
  . rw[BF u]at m;have Qe:=Z (show S=false by rw[<-M.o];grind);clear u;go_wp2_with(go_at_call 59;refine m.o.mono ?_;clear m;rintro e w1 ⟨rfl,v⟩)
    go_meet
    case rel=>exact⟨by rw[Qe.o],Z (z.o.below v)⟩
 obtain⟨rfl,MM⟩:=hcut;have r:=MM;clear z MM;cases S with
 |true=>
  have X:=Bh M.o;have HE:=Z (show D3 p.num q.num=n by rw[<-HN.o];unfold Gh;rw[X.1,X.2];simp);clear X M;obtain⟨s3,a3,l3,c3,t3,b3,k3,d3,n3,r3,i3,j3⟩:=r.o.rat (i:=0) J;have ap:=n3.kb;obtain⟨s4,a4,l4,c4,t4,b4,k4,d4,n4,r4,i4,j4⟩:=r.o.rat (i:=1) J;have aq:=n4.kb;have m:=Z (X8 _ _ p.num q.num wc i3 i4);rw[HE.o]at m;go_wp2_with(go_at_call 87;refine m.o.mono ?_;clear m;rintro e w1 ⟨rfl,f⟩)
  go_ret;exact⟨J,Bt r.o.2.2 f⟩
 |false=>
  clear M;go_upto_region 3 with fail
  obtain⟨s5,a5,l5,c5,t5,b5,k5,d5,x,r5,i5,j5⟩:=r.o.rat (i:=0) J;have K:=x.kb;obtain⟨s6,a6,l6,c6,t6,b6,k6,d6,y,r6,i6,j6⟩:=r.o.rat (i:=1) J;have A:=y.kb;obtain⟨H3,H4,H8,H9,Qg⟩:=FX (λ(V:G) (h:Bl wc V)=>Ez _ q V (r6.below h)) (λ(V:G) (h:Bl wc V) (v3:D) (j:Jl V v3 ((q.den:Int)))=>XP _ _ p.num (q.den:Int) V (i5.below h) j (by have u:=HP.o.num.words;have h2:=HQ.o.den.words;omega)) (λ(V:G) (h:Bl wc V)=>Ez _ p V (r5.below h)) (λ(V:G) (h:Bl wc V) (v8:D) (o:Jl V v8 ((p.den:Int)))=>XP _ _ q.num (p.den:Int) V (i6.below h) o (by have u:=HQ.o.num.words;have h2:=HP.o.den.words;omega)) λ(V:G) (h:Bl wc V) (v4:D) (g4:Jl V v4 (p.num*(q.den:Int))) (v9:D) (P:Jl V v9 (q.num*(p.den:Int)))=>(by have h:=X8 _ _ (p.num*(q.den:Int)) (q.num*(p.den:Int)) V g4 P;rw[show D3 (p.num*(q.den:Int)) (q.num*(p.den:Int))=n from HN.o]at h;exact h);have f:Bl wc wc.drew:=(BB _ wc).drew;go_region_held3 (λg=>(g.cell? ⟨w.heap.size,0,none⟩=some (B s5)/\g.cell? ⟨w.heap.size,1,none⟩=some (C a5 l5 c5)/\g.cell? ⟨w.heap.size,2,none⟩=some (B t5)/\g.cell? ⟨w.heap.size,3,none⟩=some (C b5 k5 d5))/\g.cell? ⟨w.heap.size+1,0,none⟩=some (B s6)/\g.cell? ⟨w.heap.size+1,1,none⟩=some (C a6 l6 c6)/\g.cell? ⟨w.heap.size+1,2,none⟩=some (B t6)/\g.cell? ⟨w.heap.size+1,3,none⟩=some (C b6 k6 d6)) (first|grind|(go_keep;done)|((repeat' apply CE)<;>((repeat rw[JD O]);first|(simp only[*];done)|(go_keep;done))))
   (first
    |(go_at_call 82;refine(H3.o _ f ).mono ?_;clear H3;rintro e w3 ⟨v3,rfl,j,an⟩;have f:=Bt f an;have K:=(x.below f).kb;have A:=(y.below f).kb)
    |(go_at_call 85;refine(H4.o _ f _ j).mono ?_;clear H4;rintro e w4 ⟨v4,rfl,g4,ah⟩;have j:=j.below ah;have f:=Bt f ah;have K:=(x.below f).kb;have A:=(y.below f).kb)
    |(go_at_call 82;refine(H8.o _ f ).mono ?_;clear H8;rintro e w8 ⟨v8,rfl,o,ae⟩;have j:=j.below ae;have g4:=g4.below ae;have f:=Bt f ae;have K:=(x.below f).kb;have A:=(y.below f).kb)
    |(go_at_call 85;refine(H9.o _ f _ o).mono ?_;clear H9;rintro e w9 ⟨v9,rfl,P,T⟩;have j:=j.below T;have g4:=g4.below T;have o:=o.below T;have f:=Bt f T;have K:=(x.below f).kb;have A:=(y.below f).kb)
    |(go_at_call 87;refine(Qg.o _ f _ g4 _ P).mono ?_;clear Qg;rintro e ay ⟨rfl,Q⟩;have j:=j.below Q;have g4:=g4.below Q;have o:=o.below Q;have P:=P.below Q;have f:=Bt f Q;have K:=(x.below f).kb;have A:=(y.below f).kb))
  all_goals go_wp2_with fail
  go_ret;exact⟨J,Bt r.o.2.2 f⟩
theorem UG(va vb:D)(p q:Rat)(w:G)(x:Jk w va p)(y:Jk w vb q)(ad:Sq p)(ae:Sq q):
 F H 43 #[va,vb] w λe j=>∃u,e=.returned u/\Jk j u (p-q)/\Bl w j:=by
 obtain⟨s,a,l,c,t,b,k,d,rfl⟩:=Jk.form x;obtain⟨s',U,l',c',t',X,k',d',rfl⟩:=Jk.form y;have o:=Ls w s t s' t' a b U X l c k d l' c' k' d' p q x y;obtain⟨W0,v⟩:=ex (((w.alloc (E #[B s,C a l c,B t,C b k d] 38)).alloc (E #[B s',C U l' c',B t',C X k' d'] 38)).alloc (E #[B false,C none 0 0,B false,C none 0 0] 38));have Q:=Z v;rw[v]at o;obtain⟨m,HP,P⟩:=Db o ad ae;clear o x y v ad ae;go_enter func43,ntmps43
 go_upto_region 1 with fail
 rw[Q.o];clear Q;obtain⟨s1,W,l1,c1,t1,b1,k1,d1,z,r1,i1,j1⟩:=m.o.rat (i:=0) J;have R:=z.kb;obtain⟨s2,a2,l2,c2,t2,b2,k2,d2,A,r2,i2,j2⟩:=m.o.rat (i:=1) J;have T:=A.kb;obtain⟨s3,a3,l3,c3,t3,b3,k3,d3,n,r3,i3,j3⟩:=m.o.rat (i:=2) J;have r:=n.kb;have S:=n.fb;have K:=Z λ(V:G) (h:Bl W0 V)=>OL _ _ 0 q.num V (EN _) (i2.below h) (by have:=Sok.zero.words;omega) (by have:=P.o.num.words;omega);have M:=Z (λ(V:G) (h:Bl W0 V) (s:Bool) (a:Zu) (l c:Nat) (g:Jl V (N #[B s,C a l c]) (0-q.num))=>show F H 40 #[N #[B s1,C W l1 c1,B t1,C b1 k1 d1],N #[B s,C a l c,B t2,C b2 k2 d2]] V λe j=>∃u,e=.returned u/\Jk j u (p-q)/\Bl V j by
  have h1:=Hu _ _ p (-q) V (r1.below h) (Jk.mk (q:=-q) (by rw[Rat.neg_num,<-Int.zero_sub];exact g) (j2.below h)) HP.o P.o.neg;rw[<-Rat.sub_eq_add_neg]at h1;exact h1)
 have bh:=m.o.ne 0 2 J J DP;have bi:=m.o.ne 1 2 J J DP;have f:Bl W0 W0.drew:=(BB _ W0).drew;go_region_held3 (λj=>(j.cell? ⟨w.heap.size,0,none⟩=some (B s1)/\j.cell? ⟨w.heap.size,1,none⟩=some (C W l1 c1)/\j.cell? ⟨w.heap.size,2,none⟩=some (B t1)/\j.cell? ⟨w.heap.size,3,none⟩=some (C b1 k1 d1))/\j.cell? ⟨w.heap.size+1,0,none⟩=some (B s2)/\j.cell? ⟨w.heap.size+1,1,none⟩=some (C a2 l2 c2)/\j.cell? ⟨w.heap.size+1,2,none⟩=some (B t2)/\j.cell? ⟨w.heap.size+1,3,none⟩=some (C b2 k2 d2)) (first|grind|(go_keep;done)|grind[JD])
  (first
   |(go_at_call 88;refine(K.o _ f).mono ?_;clear K;rintro e w1 ⟨u1,rfl,ah,aj⟩;obtain⟨bj,an,bf,ay,rfl⟩:=Jl.form2 ah;have f:=Bt f aj;have R:=(z.below f).kb;have T:=(A.below f).kb;have r:=(n.below f).kb;have S:=(n.below f).fb)
   |(go_at_call 40;refine(M.o _ f _ _ _ _ ah).mono ?_;clear M;rintro e w2 ⟨u2,rfl,ai,ak⟩;obtain⟨bk,ap,bg,az,bm,aq,bd,bc,rfl⟩:=Jk.form ai;have f:=Bt f ak;have R:=(z.below f).kb;have T:=(A.below f).kb;have r:=(n.below f).kb;have S:=(n.below f).fb))
 all_goals go_wp2_with fail
 have Qg:=Bt m.o.2.2 f;have Qf:=m.o.ge 2 J;exact BA (by simp[results,results43,go_sem,r]) J ⟨_,J,ai.put4 (n.below f) J J J J _ _ _ _,Jo Qg Qf _ _ _ _⟩
end
section
variable{qs:K}{cap l:Nat}{a:Zu}{W:G}
theorem UH(q:Rat):Gh q 0=0↔q=0:=by
 grind[Rat.eq_iff_mul_eq_mul,Gh,D3]
def Fl:Sq 0:=Sq.of (k:=1) ⟨Sm.zero _,Sm.one _ O⟩ O
def OW(v:D)(q:Rat)(w:G)(h:Jk w v q)(r:Sq q):
 F H 51 #[v] w λe u=>e=.returned (B (decide (q=0)))/\Bl w u:=by
 obtain⟨s,a,l,c,t,b,k,d,rfl⟩:=h.form;have b0:=JA.new w 38 (B s) (C a l c) (B t) (C b k d);have f:Bl w (w.alloc (E #[B s,C a l c,B t,C b k d] 38)):=Ba w _;obtain⟨W0,g⟩:=ex (w.alloc (E #[B s,C a l c,B t,C b k d] 38));rw[g]at b0 f;have o:=Z g;have i:=Z (UF _ _ q 0 W0 (h.below f) (D9 _) r Fl);obtain⟨x,y,z,A⟩:=b0.cq;have j:=Z (UH q);obtain⟨n,m⟩:=ex (Gh q 0);rw[m]at i j;clear g m;go_enter func51,ntmps51
 go_upto_region 1 with fail
 rw[o.o];go_wp2_with(go_at_call 42;refine i.o.mono ?_;rintro e K ⟨rfl,p⟩)
 go_ret;refine⟨?_,Bt f p⟩;show Ending.returned (Value.bool (n==0))=_;have e:(n==0)=decide (q=0):=by rw[Ci];simp[j.o]
 rw[e]
def UI(c:Nat)(a:Zu)(len cap:Nat)(x y z u:Nat->D)(k:Nat)(W:G):Prop:=
 W.cell? ⟨c,0,none⟩=some (C a len cap)/\(k<len->∃b,a=some ⟨b,0,none⟩/\W.cell? ⟨b,(len-1-k)*4,none⟩=some (x (len-1-k))/\W.cell? ⟨b,(len-1-k)*4+1,none⟩=some (y (len-1-k))/\
  W.cell? ⟨b,(len-1-k)*4+2,none⟩=some (z (len-1-k))/\W.cell? ⟨b,(len-1-k)*4+3,none⟩=some (u (len-1-k)))
def Hv(len:Nat)(x y z u:Nat->D)(k:Nat):Array D:=#[.int .i64 ((len:Int)-1-k),N #[x (len-1-k),y (len-1-k),z (len-1-k),u (len-1-k)]]
def Lu(F:Fence)(n:Nat)(K:F.fn 94)(M:F.round=none)(hn:1<=n)(d:Nat)(a:Zu)(len cap:Nat)(x y z u:Nat->D)(ae:len<=1099511627776):
 GT F n H 94 #[I (some ⟨d,0,none⟩)] len (Hv len x y z u) (UI d a len cap x y z u):=λl J P W j w g=>by
 have T:=(j 0 W g).1;refine Bu func94 rfl K ?_ M;simp only[ntmps94,Ak,Af,AL,Nat.reduceAdd,Nat.reduceSub,As,At,AG,Aw,Ah,Am];gi_wp2;gi_loopw [3] (λi wr=>∃k:Nat,k<=len/\i=.int .i64 ((len:Int)-1-k)/\J k wr) λi _=>(intOf i+1).toNat
 case atStart=>exact⟨0,AJ _,DJ,g⟩
 case round=>
  obtain⟨k,hk,rfl,hJ⟩:=hrel;obtain⟨S,A⟩:=j k wr hJ;by_cases c:k<len
  . obtain⟨b,rfl,U,X,ad,V⟩:=A c;obtain⟨fn,tmps,assign,body,q,v⟩:=w k wr hJ c;have f:((len:Int)-1-k)=((len-1-k:Nat):Int):=O
    have R:len-1-k<len:=O
    dsimp only[Hv]at q;rw[f]at q ⊢;generalize o:len-1-k=m at *;have r:=Hid.o (p:=Hid (len-1-k=m)) o;clear o f;gi_wp2;refine v.mono ?_;rintro e Q (⟨rfl,s⟩|⟨rfl,t⟩)
    . gi_wp2;go_roundw
      case rel=>exact⟨k+1,O,by(congr 1;have:=r.o;omega),s⟩
      case measure=>simp[intOf]
    . gi_wp2;refine BA (results_none rfl _ _ _) rfl ?_;exact⟨⟨_,rfl⟩,.inr ⟨k,c,t⟩⟩
  . obtain rfl:k=len:=O
    gi_wp2;go_end0;exact⟨⟨_,rfl⟩,.inl hJ⟩
def Lv(F:Fence)(n:Nat)(b:F.fn 50)(c:F.round=none)(a:Zu)(len cap:Nat)(w:G):
 CallsIn F n H 50 #[C a len cap] w λe d=>e=.returned (.func (.func 94) #[] #[I (some ⟨w.heap.size,0,none⟩)])/\d=w.alloc (E #[C a len cap] 23):=by
 refine Bu func50 J b ?_ c;simp only[ntmps50,Ak,Af,AL,Nat.reduceAdd,Nat.reduceSub,As,At,AG,Aw,Ah,Am];gi_wp2;go_ret;exact⟨J,J⟩
def KE:D->Bool|B b=>b|_=>false
def GC:D->Zu|C a _ _=>a|_=>none
def GD:D->Nat|C _ _ c=>c|_=>0
theorem RowK.pick{r:Bool}(h:RowK r W (C a l cap) qs):l=qs.length/\l<=cap/\cap<=9223372036854775807/\l<=1099511627776/\∃x y z u:Nat->D,∀j,j<l->Dk r W (N #[x j,y j,z j,u j]) (cf qs j)/\
 ∃b,a=some ⟨b,0,none⟩/\b<W.heap.size/\W.cell? ⟨b,j*4,none⟩=some (x j)/\W.cell? ⟨b,j*4+1,none⟩=some (y j)/\W.cell? ⟨b,j*4+2,none⟩=some (z j)/\W.cell? ⟨b,j*4+3,none⟩=some (u j):=by
 obtain⟨m,n,e,f,g,i,c⟩:=h;cases e;refine⟨J,f,g,i,?_⟩;rcases c with c|⟨b,o,k⟩
 . exact⟨λ_=>L,λ_=>L,λ_=>L,λ_=>L,λj d=>by rw[c]at d;simp at d⟩
 . obtain⟨cs,c1,c2⟩:=k;refine⟨λj=>cs[j*4]?.getD L,λj=>cs[j*4+1]?.getD L,λj=>cs[j*4+2]?.getD L,λj=>cs[j*4+3]?.getD L,λj d=>?_⟩;grind[cell_of]
def RowK.forms(h:RowK true W (C a l cap) qs):l=qs.length/\l<=cap/\cap<=9223372036854775807/\l<=1099511627776/\∃(s t:Nat->Bool) (k m:Nat->Zu) (p n o dd:Nat->Nat),∀j,j<l->Jk W (N #[B (s j),C (k j) (p j) (n j),B (t j),C (m j) (o j) (dd j)]) (cf qs j)/\
 ∃b,a=some ⟨b,0,none⟩/\b<W.heap.size/\W.cell? ⟨b,j*4,none⟩=some (B (s j))/\W.cell? ⟨b,j*4+1,none⟩=some (C (k j) (p j) (n j))/\W.cell? ⟨b,j*4+2,none⟩=some (B (t j))/\W.cell? ⟨b,j*4+3,none⟩=some (C (m j) (o j) (dd j)):=by
 obtain⟨r,v,w,A,x,y,z,u,M⟩:=h.pick;refine⟨r,v,w,A,λj=>KE (x j),λj=>KE (z j),λj=>GC (y j),λj=>GC (u j),λj=>lenV (y j),λj=>GD (y j),λj=>lenV (u j),λj=>GD (u j),λj P=>?_⟩;obtain⟨i,b,q,K,c0,c1,c2,c3⟩:=M j P;obtain⟨s,Q,U,c',t,R,T,S,e,_⟩:=(show Jk W _ _ from i);simp only[DE,Fc,C7,and_true]at e;obtain⟨c,d,f,g⟩:=e;rw[c,d,f,g]at i;rw[c]at c0;rw[d]at c1;rw[f]at c2;rw[g]at c3;dsimp only;rw[c,d,f,g];exact⟨i,b,q,K,c0,c1,c2,c3⟩
def OX(w:G)(a:Zu)(len cap:Nat)(qs:K)(k:Nat)(W:G):Prop:=
 ((((Boxed W w.heap.size 23 (C a len cap)/\Boxed W (w.heap.size+1) 93 (.func (.func 51) #[] #[]))/\Boxed W (w.heap.size+1+1) 23 (C none 0 0))/\Boxed W (w.heap.size+1+1+1) 23 (C a len cap))/\Bl w W)/\∀j,len-k<=j->j<len->cf qs j=0
def OY(w:G)(a:Zu)(len cap:Nat)(qs:K)(c:Code)(k:Nat)(W:G):Prop:=
 (Boxed W (w.heap.size+1+1) 23 (C a (len-1-k+1) cap)/\Bl w W)/\(c=.ret/\cf qs (len-1-k)≠0/\∀j,len-k<=j->j<len->cf qs j=0)
def UJ(w:G)(a:Zu)(len cap:Nat)(qs:K):OwnFrom (w.heap.size+1+1+1+1) (OX w a len cap qs):=
 BO (BO (BO (BO (BO (Bj (boxed_own _ _ λ_=>C a len cap) _) (Bj (boxed_own _ _ λ_=>.func (.func 51) #[] #[]) _)) (Bj (boxed_own _ _ λ_=>C none 0 0) _)) (Bj (boxed_own _ _ λ_=>C a len cap) _)) (Bs (Aa _) O)) (DG _ _)
def UK(w:G)(a:Zu)(len cap:Nat)(qs:K)(c:Code):OwnFrom (w.heap.size+1+1+1+1) (OY w a len cap qs c):=
 BO (BO (Bj (boxed_own _ _ λk=>C a (len-1-k+1) cap) _) (Bs (Aa _) O)) (DG _ _)
theorem UL(a:Zu)(len cap:Nat)(qs:List Rat)(w:G)(h:RowK true w (C a len cap) qs)(hs:Sqs qs):
 F H 106 #[C a len cap,.func (.func 51) #[] #[]] w λe y=>∃u,e=.returned u/\(RowK true y u (Jg qs)/\Bl w y)/\(u=C none 0 0/\Jg qs=[]\/u=C a (Jg qs).length cap):=by
 obtain⟨hl,ak,an,ai,s,t,A,M,T,P,S,dd,hc⟩:=h.forms;obtain⟨HL,HC,HS⟩:=Db hl hc hs;clear hc hl hs;refine(BK (n:=3)).1 ?_;refine BW func106 J trivial ?_ J;simp only[ntmps106,Ak,Af,AL,Nat.reduceAdd,Nat.reduceSub,As,At,AG,Aw,Ah,Am];gi_wp2_with(refine⟨trivial,?_⟩;gi_at_call 50;refine(Lv Fence.wide _ trivial J _ _ _ _).mono ?_;rintro e y ⟨rfl,rfl⟩)
 have b0:=(((BJ w 23 (C a len cap)).alloc (E #[.func (.func 51) #[] #[]] 93)).alloc (E #[C none 0 0] 23)).alloc (E #[C a len cap] 23);have b1:=((BJ (w.alloc (E #[C a len cap] 23)) 93 (.func (.func 51) #[] #[])).alloc (E #[C none 0 0] 23)).alloc (E #[C a len cap] 23);have b2:=(BJ ((w.alloc (E #[C a len cap] 23)).alloc (E #[.func (.func 51) #[] #[]] 93)) 23 (C none 0 0)).alloc (E #[C a len cap] 23);have b3:=BJ (((w.alloc (E #[C a len cap] 23)).alloc (E #[.func (.func 51) #[] #[]] 93)).alloc (E #[C none 0 0] 23)) 23 (C a len cap);simp only[A1]at b1 b2 b3;have Qd:Bl w ((((w.alloc (E #[C a len cap] 23)).alloc (E #[.func (.func 51) #[] #[]] 93)).alloc (E #[C none 0 0] 23)).alloc (E #[C a len cap] 23)):=(((Ba w _).alloc DJ _).alloc si _).alloc si _;have hN:((((w.alloc (E #[C a len cap] 23)).alloc (E #[.func (.func 51) #[] #[]] 93)).alloc (E #[C none 0 0] 23)).alloc (E #[C a len cap] 23)).heap.size=w.heap.size+1+1+1+1:=DJ
 refine Ih J O (gf:=94) (lb:=#[I (some ⟨w.heap.size+1+1+1,0,none⟩)]) J trivial (B7 func94 Zv J)
  (Lu Fence.wide _ trivial J O (w.heap.size+1+1+1) a len cap (λj=>B (s j)) (λj=>C (A j) (T j) (P j)) (λj=>B (t j)) (λj=>C (M j) (S j) (dd j)) ai) (λ_=>rfl)
  (OX w a len cap qs) (OY w a len cap qs) (by rw[hN];exact UJ w a len cap qs) (λc=>by rw[hN];exact UK w a len cap qs c)
  ⟨⟨⟨⟨⟨b0,b1⟩,b2⟩,b3⟩,Qd⟩,λj r Q=>by omega⟩ ?rd
  (λk b=>{ tmps:=#[C a len cap,.func (.func 51) #[] #[],I (some ⟨w.heap.size,0,none⟩),I (some ⟨w.heap.size+1,0,none⟩),I (some ⟨w.heap.size+1+1,0,none⟩),.int .i64 ((len:Int)-1-k),I (some ⟨b,0,none⟩),C a len cap,.func (.func 94) #[] #[I (some ⟨w.heap.size+1+1+1,0,none⟩)],.int .i64 ((len:Int)-1-k),N #[B (s (len-1-k)),C (A (len-1-k)) (T (len-1-k)) (P (len-1-k)),B (t (len-1-k)),C (M (len-1-k)) (S (len-1-k)) (dd (len-1-k))],L,L,L,L,L,L,L,L],defers:=[] })
  (λk=>E #[B (s (len-1-k)),C (A (len-1-k)) (T (len-1-k)) (P (len-1-k)),B (t (len-1-k)),C (M (len-1-k)) (S (len-1-k)) (dd (len-1-k))] 38 (0,0)) ?assign ?body ?done ?stop
 case rd=>
  rintro k W ⟨⟨⟨_,c3⟩,f⟩,_⟩;refine⟨c3.cell,λhk=>?_⟩;obtain⟨_,b,ea,R,r,Q,h3,h4⟩:=HC.o (len-1-k) O;exact⟨b,ea,(f.cell (p:=⟨b,_,none⟩) R).trans r,(f.cell (p:=⟨b,_,none⟩) R).trans Q,(f.cell (p:=⟨b,_,none⟩) R).trans h3,(f.cell (p:=⟨b,_,none⟩) R).trans h4⟩
 case assign=>
  intro l k W K v;unfold Hv;gi_wp2;exact v
 case body=>
  rintro l k b W ⟨⟨⟨⟨⟨c0,c1⟩,c2⟩,c3⟩,f⟩,i⟩ hk aq aj ad;have hm:len-1-k<len:=O
  obtain⟨hi,_⟩:=HC.o (len-1-k) hm;have HI:=Z (Jk.below hi f);have o:=Z i;have e1:((len:Int)-1-k)=((len-1-k:Nat):Int):=O
  rw[e1];have Qe:=Z (show len-1-k=len-1-k from J);clear e1 i hi;obtain⟨m,ae⟩:=ex (len-1-k);have U:=Z ae;rw[ae]at ad HI hm ⊢;clear ae Qe;have q0:JA W b 38 (B (s m)) (C (A m) (T m) (P m)) (B (t m)) (C (M m) (S m) (dd m)):=ad;obtain⟨k0,k1,k2,k3⟩:=q0.cq;have d0:=c0.cell;have d1:=c1.cell;have d2:=c2.cell;have f2:=c2.frozen;clear q0 ad;have z:=Z (Bc l ((BK (n:=3-1-1-1)).2 (OW _ _ W HI.o (HS.o.at m))));by_cases g:cf qs m=0
  . have V:=Z g;rw[show decide (cf qs m=0)=true from BI g]at z;clear g;gi_wp2_with(refine⟨trivial,?_⟩;gi_at_call 51;refine z.o.mono ?_;rintro e y ⟨rfl,d⟩)
    refine⟨(J6 d).from _,⟨⟨⟨⟨boxed_below c0 d,boxed_below c1 d⟩,boxed_below c2 d⟩,boxed_below c3 d⟩,Bt f d⟩,λj r Q=>?_⟩;by_cases x:j=m
    . rw[x];exact V.o
    . have:=U.o;exact o.o j O Q
  . have V:=Z g;rw[show decide (cf qs m=0)=false from BF g]at z;clear g;gi_wp2_with(refine⟨trivial,?_⟩;gi_at_call 51;refine z.o.mono ?_;rintro e y ⟨rfl,d⟩;have d0:=(boxed_below c0 d).cell;have d2:=(boxed_below c2 d).cell;have f2:=(boxed_below c2 d).frozen)
    have ah:=Bt f d;refine⟨((J6 d).trans (BN _ _ _)).from _,⟨?_,ah.setCell (p:=⟨w.heap.size+1+1,0,none⟩) si _⟩,J,by rw[U.o];exact V.o,o.o⟩;rw[U.o];exact(boxed_below c2 d).set _
 case done=>
  rintro D W hD ⟨⟨⟨⟨⟨c0,c1⟩,c2⟩,c3⟩,f⟩,i⟩ v;have d1:=c2.cell;have f1:=c2.frozen;have o:=Z i;clear i;gi_wp2;have Qc:=(BN W ⟨w.heap.size+1+1,0,none⟩ (C none 0 0)).same D _ v J;refine⟨DJ,.inl ⟨_,_,J,BZ Qc,?_⟩⟩;have X:=(c2.set (C none 0 0)).kept (BX _ D (.deferred none)) (λe=>by grind);have q:=X.cell;have e0:=IM λj=>by
   rcases AF j len with x|x
   . exact o.o j O x
   . exact JV (by have:=HL.o;omega)
  refine⟨C none 0 0,by simp[results,results106,go_sem,q],_,J,⟨?_,?_⟩,Ar ⟨J,e0⟩⟩
  . rw[e0];exact RowK.nil _ _
  . exact(f.setCell (p:=⟨w.heap.size+1+1,0,none⟩) si _).trans (DI (w:=w) (Aa _) _ D _ _ (by simp at hD;omega) Qc J J)
 case stop=>
  rintro D c k W hD hk ⟨⟨c1,f⟩,rfl,g,i⟩ v;have d1:=c1.cell;have o:=Z (show cf qs (len-1-k)≠0/\∀j,len-k<=j->j<len->cf qs j=0 from⟨g,i⟩);clear i g;gi_wp2;refine⟨DJ,.inl ⟨_,_,J,BZ v,?_⟩⟩;have X:=c1.kept (BX _ D (.deferred none)) (λe=>by grind);have q:=X.cell;have Qb:Bl w (W.putObj D (.deferred none)):=f.trans (DI (w:=w) (Aa _) _ D _ _ (by simp at hD;omega) v J J);have ap:=HL.o;have e:Jg qs=qs.take (len-1-k+1):=by
   refine MX O (Ax o.o.1) λj x=>?_;rcases AF j len with r|r
   . exact o.o.2 j O r
   . exact JV O
  have el:(qs.take (len-1-k+1)).length=len-1-k+1:=by rw[Ai];omega
  refine⟨C a (len-1-k+1) cap,by simp[results,results106,go_sem,q],_,J,⟨?_,Qb⟩,Ax (by rw[e,el])⟩;rw[e];exact(h.below Qb).take O
def Lw(b:Nat)(v:D):Prop:=∀a l c,v=C (some a) l c->b<=a.block
def KF(b:Nat)(v:D):Prop:=∀a l c,v=N #[C (some a) l c]->b<=a.block
def EI{B:Nat}{c:Nat}(b:Boxed W B 25 (C a l c))(x:D){v:D}(h:RowK true W v qs):RowK true (W.setCell ⟨B,0,none⟩ x) v qs:=
 M3.XO (cs:=#[C a l c]) b (o:=0) J J true DP x v qs h
def Gi(v:D)(qs:List Rat)(w:G)(h:RowK true w v qs)(hs:Sqs qs):
 F H 65 #[v] w λe q=>∃u,e=.returned u/\JB q u (Jg qs)/\(∀b,Lw b v->KF b u)/\Bl w q:=by
 obtain⟨a,l,c,rfl⟩:=h.form;have b0:=BJ w 25 (C none 0 0);have d:Bl w (w.alloc (E #[C none 0 0] 25)):=Ba w _;obtain⟨W0,i⟩:=ex (w.alloc (E #[C none 0 0] 25));rw[i]at b0 d;have s:=Z i;have j:=Z (UL a l c qs W0 (h.below d) hs);have o:=b0.cell;have f0:=b0.frozen;clear i h hs;go_enter func65,ntmps65
 go_upto_region 1 with fail
 rw[s.o];go_wp2_with(go_at_call 106;refine j.o.mono ?_;clear j;rintro e M ⟨u,rfl,⟨n,k⟩,m⟩;obtain⟨z,K,A,rfl⟩:=n.form;have f:=boxed_below b0 k;have o:=f.cell;have f0:=f.frozen;have r:=Z m;clear m)
 refine BA (by simp[results,results65,go_sem,o]) J ⟨_,J,⟨_,J,EI f _ n⟩,?_,(Bt d k).setCell (p:=⟨w.heap.size,0,none⟩) (Aa _) _⟩;intro b t x y c' e;simp only[DE,Fc,C7,and_true]at e;rcases r.o with⟨g,_⟩|g
 . rw[g]at e;cases e
 . rw[g]at e;cases e;exact t _ _ _ J
def OZ(v:D)(ps:K)(w:G)(h:JB w v ps):
 F H 15 #[v] w λe c=>e=.returned (.int .i64 ((ps.length:Int)-1))/\Bl w c:=by
 obtain⟨u,rfl,b⟩:=h;obtain⟨a,cap,rfl,d,f,g,_⟩:=b.open;clear b;generalize ps.length=n at *;go_enter func15,ntmps15
 go_wp2;go_ret;exact⟨J,Ba _ _⟩
def Oa(v:D)(qs:List Rat)(i:Int)(w:G)(h:RowK true w v qs):
 F H 49 #[v,.int .i64 i] w λe k=>∃u,e=.returned u/\Jk k u (if i<0 then 0 else cf qs i.toNat)/\Bl w k:=by
 obtain⟨a,l,c,rfl⟩:=h.form;obtain⟨hl,S,T,U,s,t,q,r,M,x,K,dd,g⟩:=h.forms;have o:=Z hl;have d:=Z g;clear hl g h;by_cases f:i<0
 . rw[BL f];go_enter func49,ntmps49
   go_wp2;exact BA (by simp[results,results49,go_sem]) J ⟨_,J,D9 _,(Ba w _).alloc DJ _⟩
 . rw[BH f];by_cases y:(l:Int)<=i
   . have p:=Z (show cf qs i.toNat=0 from JV (by have:=o.o;omega));rw[p.o];go_enter func49,ntmps49
     go_wp2;exact BA (by simp[results,results49,go_sem]) J ⟨_,J,D9 _,(Ba w _).alloc DJ _⟩
   . obtain⟨m,rfl⟩:∃m:Nat,i=(m:Int):=⟨i.toNat,O⟩;have z:m<l:=O
     obtain⟨j,b,rfl,R,V,A,W,X⟩:=d.o m z;have n:=Z j;rw[Ck];clear d j y;generalize s m=s1 at *;generalize t m=t1 at *;generalize q m=P at *;generalize r m=Q at *;generalize M m=l1 at *;generalize x m=c1 at *;generalize K m=A at *;generalize dd m=d1 at *;go_enter func49,ntmps49
     go_wp2;exact BA (by simp[results,results49,go_sem]) J ⟨_,J,n.o.below (Ba w _),Ba w _⟩
def Tryz.infoRat:(Tryz.prog.info? 38).map (λi=>(i.zero,i.size,i.bytes))=some (some (N #[B false,C none 0 0,B false,C none 0 0]),4,64):=by kernel_rfl
def YY(n:Nat):Array D:=madeCells #[B false,C none 0 0,B false,C none 0 0] (n*4)
theorem Lx{n j:Nat}(a:j<n):(YY n)[j*4]?=some (B false)/\(YY n)[j*4+1]?=some (C none 0 0)/\(YY n)[j*4+2]?=some (B false)/\(YY n)[j*4+3]?=some (C none 0 0):=by
 unfold YY madeCells;have h:∀k,k<n*4->((Array.range (n*4)).map λi=>(#[Value.bool false,Value.slice none 0 0,Value.bool false,Value.slice none 0 0]:Array D)[i%4]!)[k]?=some ((#[Value.bool false,Value.slice none 0 0,Value.bool false,Value.slice none 0 0]:Array D)[k%4]!):=λk b=>by
  grind
 refine⟨(h _ O).trans ?_,(h _ O).trans ?_,(h _ O).trans ?_,(h _ O).trans ?_⟩
 . grind
 . grind
 . grind
 grind
def KG(n:Nat)(h:n<=2199023255552)(w:G):(Instr.makeSlice 23 (.int .i64 (n:Int)) (.int .i64 (n:Int))).run H w=.ok (C (some ⟨w.heap.size,0,none⟩) n n) (w.alloc (E (YY n) 38)):=by
 obtain⟨i,d,b⟩:=CY.1 Tryz.infoRat;simp only[Prod.mk.injEq]at b;obtain⟨e,hs,c⟩:=b;have a:=run_make (P:=H) w 23 38 i _ underlying23 d e .i64 .i64 n n O (Int.le_refl _) (by rw[c];omega) O;simp only[Ck,hs]at a;exact a
def Ly(n:Nat)(w:G):De true (w.alloc (E (YY n) 38)) w.heap.size (List.replicate n 0):=by
 refine⟨YY n,BC w _,λj a=>?_⟩;rw[AM]at a;obtain⟨b,c,d,e⟩:=Lx a;exact⟨_,_,_,_,b,c,d,e,by rw[J2];exact D9 _⟩
theorem UM(a b:Zu)(la R lb S:Nat)(ps qs:List Rat)(w:G)(x:RowK true w (C a la R) ps)(y:RowK true w (C b lb S) qs)(ae:Sqs ps)(ah:Sqs qs):
 F H 67 #[C a la R,C b lb S,.func (.func 40) #[] #[]] w λe w'=>∃v c,e=.returned v/\RowK true w' v c/\(∀j,cf c j=cf ps j+cf qs j)/\Lw w.heap.size v/\Bl w w':=by
 obtain⟨X,ak,ap,bf,_⟩:=x.forms;obtain⟨ad,an,aq,bg,_⟩:=y.forms;obtain⟨n,hn⟩:∃n:Nat,max (la:Int) (lb:Int)=(n:Int):=⟨max la lb,O⟩;have bj:n<=1099511627776:=O
 obtain⟨HN,HA,HB,HP,HQ,Qp,Qq⟩:=Iu (show la<=n/\lb<=n from by omega) x y ae ah X ad;have Qo:=KG n O w;have o:=Ly n w;have s:Bl w (w.alloc (E (YY n) 38)):=Ba w _;obtain⟨W0,T⟩:=ex (w.alloc (E (YY n) 38));rw[T]at o s Qo;have Qr:=Z o;have Qn:=Z s;clear o s T x y ae ah X ad ak ap an aq;go_enter func67,ntmps67
 go_wp2;go_loopw [17] (λi wr=>∃(k:Nat) (c:List Rat),k<=n/\i=.int .i64 (k:Int)/\Hid (c.length=n/\(∀j,j<k->cf c j=cf ps j+cf qs j)/\De true wr w.heap.size c/\Bl w wr)) λi _=>n-(intOf i).toNat
 case atStart=>exact⟨0,_,AJ _,J,Z ⟨AM,λj l=>by omega,Qr.o,Qn.o⟩⟩
 case round=>
  obtain⟨k,c,hk,rfl,d⟩:=hrel;by_cases bh:k<n
  . have bi:(k:Int)<(n:Int):=O
    have q:=Z (Oa _ ps (k:Int) wr (HA.o.below d.o.2.2.2));have r:=Z λ(V:G) (h:Bl wr V)=>Oa _ qs (k:Int) V ((HB.o.below d.o.2.2.2).below h);rw[BH O,Ck]at q;rw[show(if(k:Int)<0 then(0:Rat)else cf qs ((k:Int)).toNat)=cf qs k from by grind]at r;have M:=Z λ(V:G) (u v:D) (hu:Jk V u (cf ps k)) (hv:Jk V v (cf qs k))=>Hu u v (cf ps k) (cf qs k) V hu hv (HP.o.at k) (HQ.o.at k);have p:=Z (show k<c.length from by have:=d.o.1;omega);go_wp2_with(first
     |(go_at_call 49;refine q.o.mono ?_;clear q;rintro e w1 ⟨u1,rfl,g,U⟩;have m:=U)
     |(go_at_call 49;refine(r.o _ m).mono ?_;clear r;rintro e w2 ⟨u2,rfl,ai,z⟩;have g:=g.below z;have Q:=Bt m z;clear m)
     |(go_at_call 40;refine(M.o _ _ _ g ai).mono ?_;clear M;rintro e w3 ⟨u3,rfl,aj,W⟩;have P:=Bt Q W;clear Q g ai U z W;have f:=d.o.2.2.1.below P;obtain⟨x0,y0,z0,t0,k0,k1,k2,k3,_⟩:=f.at p.o;have f0:=f.frozen (k*4);have f1:=f.frozen (k*4+1);have f2:=f.frozen (k*4+2);have f3:=f.frozen (k*4+3);obtain⟨bn,ay,bm,bc,bt,az,bk,bd,rfl⟩:=Jk.form aj))
    go_roundw
    case rel=>
     refine⟨k+1,c.set k (cf ps k+cf qs k),O,by go_num,Z ⟨by rw[CM];exact d.o.1,λj l=>?_,f.set p.o aj,OA (Bt d.o.2.2.2 P) (Aa _) _ _ _ _⟩⟩;rw[XS _ _ _ _ p.o];by_cases A:j=k
     . rw[BL A,A]
     . rw[BH A];exact d.o.2.1 j O
    case measure=>simp[intOf];omega
  . have Qm:k=n:=O
    subst Qm;go_wp2;go_ret;have t:=d.o;have K:=t.2.2.1.row (n:=k) (cap:=k) O (Aa _) O O;rw[Ac O]at K;refine⟨_,c,J,K,λj=>?_,λa' l' c' e=>by cases e;exact Aa _,t.2.2.2⟩;rcases AF j k with l|l
    . exact t.2.1 j l
    . have:=HN.o;have h1:=Qp.o;have h2:=Qq.o;rw[JV O,JV O,JV O];grind
def UO(A K:D)(ps qs:List Rat)(w:G)(k:JB w A ps)(l:JB w K qs)(t:Sqs ps)(y:Sqs qs)(z:Sqs (XY ps qs)):
 F H 26 #[A,K] w λe M=>∃u,e=.returned u/\JB M u (XY ps qs)/\KF w.heap.size u/\Bl w M:=by
 obtain⟨u,rfl,k⟩:=k;obtain⟨v,rfl,l⟩:=l;obtain⟨a,la,f,rfl⟩:=k.form;obtain⟨b,lb,g,rfl⟩:=l.form;obtain⟨W0,d⟩:=ex (((w.alloc (E #[C a la f] 25)).alloc (E #[C b lb g] 25)).alloc (E #[C none 0 0] 25));have b0:Boxed W0 w.heap.size 25 (C a la f):=by rw[<-d];exact((BJ w _ _).alloc _).alloc _
 have U:Boxed W0 (w.heap.size+1) 25 (C b lb g):=by rw[<-d];have:=(BJ (w.alloc (E #[C a la f] 25)) 25 (C b lb g)).alloc (E #[C none 0 0] 25);simpa using this
 have W:Boxed W0 (w.heap.size+1+1) 25 (C none 0 0):=by rw[<-d];have:=BJ ((w.alloc (E #[C a la f] 25)).alloc (E #[C b lb g] 25)) 25 (C none 0 0);simpa using this
 have m:Bl w W0:=by rw[<-d];exact((Ba w _).alloc DJ _).alloc si _
 obtain⟨r,s,S,R⟩:=Dn (UM a b la f lb g ps qs W0 (k.below m) (l.below m) t y) (λ(V:G) (v:D) (c:List Rat) (h:RowK true V v c) (hs:Sqs c)=>Gi v c V h hs) z d;have k0:=b0.cell;have k1:=U.cell;clear d k l t y z;go_enter func26,ntmps26
 go_upto_region 1 with fail
 rw[R.o];go_wp2_with(first
  |(go_at_call 67;refine r.o.mono ?_;clear r;rintro e w1 ⟨v1,c,rfl,aj,q,ah,ad⟩;have Q:Sqs c:=Sqs.of (λi=>by rw[q i,<-Gw];exact S.o.at i);have P:=Z q;clear q)
  |(go_at_call 65;refine(s.o _ _ c aj Q).mono ?_;clear s;rintro e w2 ⟨u2,rfl,o,ai,ae⟩;obtain⟨a9,l9,c9,rfl⟩:=o.form;have x:=Bt ad ae;have n:=boxed_below W x;have k2:=n.cell;have f2:=n.frozen))
 have X:Jg c=XY ps qs:=by
  rw[<-X1];exact Yt λj=>by rw[P.o j,Gw]
 rw[X]at o;refine BA (by simp[results,results26,go_sem,k2]) J ⟨_,J,⟨_,J,EI n _ o.row⟩,?_,(Bt m x).setCell (p:=⟨w.heap.size+1+1,0,none⟩) si _⟩;intro T l' c' e;have:=ai W0.heap.size ah T l' c' e;have h2:=m.size;omega
end
section
variable{r:Bool}{qs:K}{d:Nat}{v:D}{W:G}
def Tryz.infoRef:(Tryz.prog.info? 49).map (λi=>(i.zero,i.size,i.bytes))=some (some (N #[C none 0 0,B false,C none 0 0,B false]),4,64):=by kernel_rfl
def D4(r:Bool)(b:Nat)(W:G)(v:D)(qs:K):Prop:=
 (v=C none 0 0/\qs=[])\/∃g cap a,v=C (some ⟨g,0,none⟩) qs.length cap/\b<=g/\W.heap[g]?=some (E a (Dj r) (0,0))/\qs.length<=cap/\cap<=maxLen/\a.size=cap*4/\(∀c∈a.toList,Jw c=true)/\YI r W (a.toList.take (qs.length*4)) qs
theorem D4.nil(r:Bool)(a:Nat)(W:G):D4 r a W (C none 0 0) []:=Ar ⟨J,J⟩
def D4.below{r:Bool}{a:Nat}{W W':G}{v:D}{qs:K}(h:D4 r a W v qs)(c:Bl W W'):D4 r a W' v qs:=by
 rcases h with h|⟨g,cap,d,e,f,b,i,j,k,l,m⟩
 . exact Ar h
 . exact Ax ⟨g,cap,d,e,f,(c.block g (Ab.1 b).1).trans b,i,j,k,l,m.below c⟩
theorem D4.row(h:D4 r d W v qs)(hl:qs.length<=1099511627776):RowK r W v qs:=by
 rcases h with⟨rfl,rfl⟩|⟨g,cap,a,rfl,o,b,c,e,p,q,f⟩
 . exact RowK.nil r W
 . refine⟨_,cap,J,c,by unfold maxLen at e;omega,hl,Ax ⟨g,J,a,b,λj i=>?_⟩⟩;obtain⟨x,y,z,u,k,l,m,n,s⟩:=f.2 j i;grind[]
theorem D4.form(h:D4 r d W v qs):∃a c,v=C a qs.length c/\(∀p,a=some p->d<=p.block):=by
 rcases h with⟨rfl,rfl⟩|⟨g,cap,b,rfl,f,_⟩
 . exact⟨none,0,J,λp e=>by cases e⟩
 grind
theorem UP(z:Array D)(a:0<z.size)(d:∀c∈z.toList,Jw c=true)(n:Nat):∀c∈(Builtin.zeroCells z n).toList,Jw c=true:=by
 intro c b;grind[Builtin.zeroCells,AV]
def EW(r:Bool):TypeId:=match r with|true=>22|false=>30
def zK(r:Bool):Array D:=match r with|true=>#[B false,C none 0 0,B false,C none 0 0]|false=>#[C none 0 0,B false,C none 0 0,B false]
def UQ(r:Bool):Tryz.prog.underlying (EW r)=some (.slice (Dj r)):=by
 cases r with
 |true=>exact underlying22
 |false=>exact underlying30
def UR(r:Bool):∃i,Tryz.prog.info? (Dj r)=some i/\i.zero=some (N (zK r))/\i.size=4/\i.bytes=64:=by
 cases r with
 |true=>
  obtain⟨i,a,b,c,d⟩:=Bq Tryz.infoRat;exact⟨i,a,b,c,d⟩
 |false=>
  obtain⟨i,a,b,c,d⟩:=Bq Tryz.infoRef;exact⟨i,a,b,c,d⟩
theorem Ob(r:Bool):(zK r).size=4:=by cases r<;>rfl
theorem US(r:Bool):∀c∈(zK r).toList,Jw c=true:=by
 cases r<;>(intro c a;simp[zK]at a;rcases a with rfl|rfl|rfl|rfl<;>rfl)
theorem Y9(r:Bool)(A:Nat)(W:G)(v:D)(qs:List Rat)(h:D4 r A W v qs){x y z u:D}{q:Rat}(hq:Dk r W (N #[x,y,z,u]) q)(hl:qs.length+1<=1099511627776)(ad:A<=W.heap.size):
 ∃v' R,(Builtin.append_ #[EW r,EW r] (EW r) #[v,C (some ⟨W.heap.size,0,none⟩) 1 1]).run H (W.alloc (E #[x,y,z,u] (Dj r)))=.ok v' R/\D4 r A R v' (qs++[q])/\(∀k v ds,Row k W v ds->Row k R v ds)/\(∀n w0,n<=A->Below n w0 W->Below n w0 R):=by
 obtain⟨i,hi,hz,M,ai⟩:=UR r;have ht:=UQ r;have p:Bl W (W.alloc (E #[x,y,z,u] (Dj r))):=Ba W _;obtain⟨d,ah⟩:=ex (W.alloc (E #[x,y,z,u] (Dj r)));have ay:d.heap[W.heap.size]?=some (E #[x,y,z,u] (Dj r) (0,0)):=by rw[<-ah];exact BC W _
 rw[ah]at p ⊢;have Qg:=hq.below p;obtain⟨n0,n1,n2,n3⟩:=hq.no;have S:∀j c,[x,y,z,u][j]?=some c->d.cell? ((⟨W.heap.size,0,none⟩:Addr).add j)=some c:=λj c l=>by
  grind[X7,cell_of]
 have Qm:(Value.agg (zK r)).cells=zK r:=rfl;have grown:∀(cs:List D) (w:Nat) (m:Nat),m=qs.length+1->YI r d (cs++[x,y,z,u]) (qs++[q])->(∀c∈cs,Jw c=true)->cs.length=qs.length*4->
  D4 r A (d.drew.alloc (E (cs.toArray++[x,y,z,u].toArray++Builtin.zeroCells (zK r) (grownCap d m w (Dj r)-m)) (Dj r))) (C (some ⟨d.heap.size,0,none⟩) m (grownCap d m w (Dj r))) (qs++[q]):=by
  intro cs w m hm l Qf U;subst hm;have aq:=grownCap_ge d (qs.length+1) w (Dj r);have Qp:=grownCap_le_maxLen d (qs.length+1) w (Dj r) (by unfold maxLen;omega);have Qq:Bl d (d.drew.alloc (E (cs.toArray++[x,y,z,u].toArray++Builtin.zeroCells (zK r) (grownCap d (qs.length+1) w (Dj r)-(qs.length+1))) (Dj r))):=((BB _ d).drew).alloc (Aa _) _;refine Ax ⟨d.heap.size,_,_,DY,AK ad p.size,BC d.drew _,DY,Qp,?_,?_,?_⟩
  . grind[size_zeroCells,Ob,Af]
  . intro c K;simp only[Array.toList_append,Cs]at K;rcases K with(K|K)|K
    . exact Qf c K
    . grind
    grind[UP,Ob,US]
  . have e:(cs.toArray++[x,y,z,u].toArray++Builtin.zeroCells (zK r) (grownCap d (qs.length+1) w (Dj r)-(qs.length+1))).toList.take ((qs++[q]).length*4)=cs++[x,y,z,u]:=by
     simp only[Array.toList_append];have T:(qs++[q]).length*4=(cs++[x,y,z,u]).length:=by simp;omega
     rw[T];exact List.take_left
    rw[e];exact l.below Qq
 have fin:∀o,(∀k v ds,Row k W v ds->Row k (d.drew.alloc o) v ds)/\(∀n w0,n<=A->Below n w0 W->Below n w0 (d.drew.alloc o)):=λo=>by
  have Qi:Bl W (d.drew.alloc o):=(p.drew).alloc (by exact p.size) _;refine⟨λk v ds h=>h.below Qi,λn w0 Q hb=>hb.trans (Qi.mono (AK Q ad))⟩
 rcases h with⟨rfl,rfl⟩|⟨g,cap,f,rfl,h2,h3,h4,h5,h6,h7,h8⟩
 . have t:=run_append_nil (P:=H) d (EW r) (EW r) (Dj r) i _ ht hi hz ⟨W.heap.size,0,none⟩ 1 1 [x,y,z,u] (by rw[M];rfl) S O O (by rw[ai];omega);rw[Qm]at t;refine⟨_,_,t,?_,fin _⟩;have:=grown [] 0 1 J (by rw[Ah];exact(YI.nil r d).snoc Qg) (λc l=>by simp at l) J;simpa using this
 . have X:d.heap[g]?=some (E f (Dj r) (0,0)):=(p.block g (Ab.1 h3).1).trans h3;have U:(f.toList.take (qs.length*4)).length=qs.length*4:=by rw[Ai];have V:f.toList.length=f.size:=CR;omega
   have Qk:=(h8.below p).snoc Qg;have Qf:∀c∈f.toList.take (qs.length*4),Jw c=true:=λc l=>h7 c (C3 l);by_cases ap:qs.length+1<=cap
   . have t:=run_append_room (P:=H) d (EW r) (EW r) (Dj r) i ht hi g qs.length cap f X ⟨W.heap.size,0,none⟩ 1 1 [x,y,z,u] (by rw[M];rfl) S hq.one ap (by rw[M];simp;omega);rw[M]at t;obtain⟨s,aj⟩:=ex ((f.toList.take (qs.length*4)++[x,y,z,u]++f.toList.drop (qs.length*4+[x,y,z,u].length)).toArray);rw[aj]at t;have Qo:=setRow_heap d g f s (Dj r) (0,0) X;have Qc:∀k v ds,Row k d v ds->Row k (d.setRow g s) v ds:=λk v ds h=>by
      obtain⟨a,c,e,g1,g2,g3,g4⟩:=h;refine⟨a,c,e,g1,g2,g3,?_⟩;rcases g4 with g4|⟨b,ae,ea,ak,l⟩
      . exact Ar g4
      . by_cases V:ds=[]
        . exact Ar V
        . have Qj:0<ds.length:=AP.2 V;have Qh:b≠g:=λe=>by
           subst e;have h9:=l 0 Qj;simp only[World.cell?,X]at h9;have Ql:f[ae+0]?=some (.int k (ds[0]?.getD 0:Nat)):=by simpa using h9
           have Qn:=h7 _ (Array.mem_toList_iff.2 (Array.mem_of_getElem? Ql));simp[Jw]at Qn
          exact Ax ⟨b,ae,ea,ak.of (setRow_other d g b s Qh),λj hj=>(cell_setRow_other d g s ⟨b,ae+j,none⟩ Qh).trans (l j hj)⟩
     refine⟨_,_,t,?_,λk v ds h=>Qc k v ds (h.below p),λn w0 Q hb=>below_setRow (hb.trans (p.mono (AK Q ad))) (AK Q h2) s⟩;refine Ax ⟨g,cap,s,DY,h2,Qo,DY,h5,?_,?_,?_⟩
     . grind
     . intro c l;grind
     . have e:s.toList.take ((qs++[q]).length*4)=f.toList.take (qs.length*4)++[x,y,z,u]:=by
        rw[<-aj];have T:(qs++[q]).length*4=(f.toList.take (qs.length*4)++[x,y,z,u]).length:=by simp[U];omega
        rw[T];exact List.take_left
       rw[e];exact Qk.keep Qc
   . have an:∀j c,(f.toList.take (qs.length*4))[j]?=some c->d.cell? ((⟨g,0,none⟩:Addr).add j)=some c:=λj c l=>by
      grind[X7,cell_of]
     have t:=run_append_grow (P:=H) d (EW r) (EW r) (Dj r) i _ ht hi hz ⟨g,0,none⟩ qs.length cap (f.toList.take (qs.length*4)) (by rw[M];exact U) an ⟨W.heap.size,0,none⟩ 1 1 [x,y,z,u] (by rw[M];rfl) S O O (by rw[ai];exact growslice_fits O O);grind
end
section
open M3
def JP(q:Rat):List UInt8:=if q.den=1 then YL q.num else YL q.num++47::YL (q.den:Int)
variable{z:Int}
theorem Oc(a b:List UInt8):(⟨a.toArray⟩:ByteArray)++⟨b.toArray⟩=⟨(a++b).toArray⟩:=by
 apply C0;simp
theorem GE(z:Int):(YL z).length<=20*(Jb Y z.natAbs).length+2:=by
 grind[X9,YL]
theorem KH(h:Sok z):(⟨(YL z).toArray⟩:ByteArray).size<=400000000000:=by
 have a:=GE z;have b:=h.words;show(YL z).toArray.size<=_;grind
theorem Lz(a b:List UInt8):(⟨a.toArray⟩:ByteArray)++⟨#[47]⟩++⟨b.toArray⟩=⟨(a++47::b).toArray⟩:=by
 grind[Oc]
theorem Od:YL z=[49]↔z=1:=by
 have a:YL (Yu [49])=[49]:=Mo DP;have b:Yu [49]=1:=DP
 grind[QF]
theorem Oe(va:D)(q:Rat)(w:G)(g:Jk w va q)(j:Sq q)(ae:Lib.TabIs H w "internal/strconv.uint64pow10" .u64 Lib.pow10Tab):
 F H 16 #[va] w λe k=>e=.returned (.string ⟨(JP q).toArray⟩)/\Bl w k:=by
 obtain⟨n,P⟩:∃S:ByteArray,⟨(YL q.num).toArray⟩=S:=⟨_,J⟩;have bc:n.size<=400000000000:=by rw[<-P];exact KH j.num
 have s:=Z P;clear P;obtain⟨M,Q⟩:∃S:ByteArray,⟨(YL (q.den:Int)).toArray⟩=S:=⟨_,J⟩;have bd:M.size<=400000000000:=by rw[<-Q];exact KH j.den
 have Qi:=Z Q;clear Q;have x:=Z ae;clear ae;by_cases d:q.den=1
 . have u:=Z d;have v:=Z (show(⟨(JP q).toArray⟩:ByteArray)=n by rw[<-s.o];unfold JP;rw[BL d]);rw[v.o];clear d;obtain⟨ay,ah,aq,aj,az,ai,ap,ak,rfl⟩:=Jk.form g;obtain⟨W0,m,c⟩:=Ew 38 (.rat q) g;have Qd:=Z j;clear g j;go_enter func16,ntmps16
   go_upto_region 1 with fail
   rw[m.o];clear m;obtain⟨s1,a1,l1,c1,t1,b1,k1,d1,p,t,T,j1⟩:=c.o.rat (i:=0) J;obtain⟨K,y,z,A⟩:=p.cq;have b:=Z (Xg _ q W0 t);rw[BI u.o]at b;have f:=Z λ(V:G) (h:Bl W0 V)=>Lj _ q.num V (T.below h) (JX x.o (Bt c.o.2.2 h));rw[s.o]at f;go_wp2_with(first
    |(go_at_call 59;refine b.o.mono ?_;clear b;rintro e l ⟨rfl,a⟩;obtain⟨K,y,z,A⟩:=(p.below a).cq)
    |(go_at_call 60;refine(f.o _ a).mono ?_;clear f;rintro e w2 ⟨rfl,R⟩;have a:=Bt a R))
   go_ret;exact⟨J,Bt c.o.2.2 a⟩
 . have u:=Z d;have v:=Z (show(⟨(JP q).toArray⟩:ByteArray)=n++⟨#[47]⟩++M by rw[<-s.o,<-Qi.o,Lz];unfold JP;rw[BH d]);rw[v.o];have HZ:=Z (show denZ q=q.den by unfold denZ;rw[BH d]);clear d;have y1:¬9223372036854775807<n.size+1:=O
   have y2:¬9223372036854775807<n.size+1+M.size:=O
   obtain⟨ay,ah,aq,aj,az,ai,ap,ak,rfl⟩:=Jk.form g;obtain⟨W0,m,c⟩:=Ew 38 (.rat q) g;have Qd:=Z j;clear g j;go_enter func16,ntmps16
   go_upto_region 1 with fail
   rw[m.o];clear m;obtain⟨s1,a1,l1,c1,t1,b1,k1,d1,p,t,T,j1⟩:=c.o.rat (i:=0) J;obtain⟨K,y,z,A⟩:=p.cq;have b:=Z (Xg _ q W0 t);rw[BF u.o]at b;go_upto_region 3 with(go_at_call 59;refine b.o.mono ?_;clear b;rintro e l ⟨rfl,ad⟩)
   have r:=Z (c.o.below ad);clear c;clear p K y z A T t j1 ad;obtain⟨s2,a2,l2,c2,t2,b2,k2,d2,U,r2,i2,j2⟩:=r.o.rat (i:=0) J;obtain⟨X,Qh,Qk,Qj⟩:=U.cq;have f:=Z λ(V:G) (h:Bl l V)=>(by have o:=Lj _ q.num V (i2.below h) (JX x.o (Bt r.o.2.2 h));rw[s.o]at o;exact o);have W:=Z λ(V:G) (h:Bl l V)=>(by have h0:=(j2.below h);rw[HZ.o]at h0;have o:=Lj _ (q.den:Int) V h0 (JX x.o (Bt r.o.2.2 h));rw[Qi.o]at o;exact o);have a:Bl l l.drew:=(BB _ l).drew;go_region_held3 (λk=>k.cell? ⟨w.heap.size,0,none⟩=some (B s2)/\k.cell? ⟨w.heap.size,1,none⟩=some (C a2 l2 c2)/\k.cell? ⟨w.heap.size,2,none⟩=some (B t2)/\k.cell? ⟨w.heap.size,3,none⟩=some (C b2 k2 d2)) (first|grind|(go_keep;done)|(refine⟨?_,?_,?_,?_⟩<;>((repeat rw[JD O]);first|assumption|(go_keep;done))))
    (first
     |(go_at_call 60;refine(f.o _ a ).mono ?_;clear f;rintro e w2 ⟨rfl,R⟩;have a:=Bt a R;obtain⟨X,Qh,Qk,Qj⟩:=(U.below a).cq)
     |(go_at_call 60;refine(W.o _ a ).mono ?_;clear W;rintro e w6 ⟨rfl,an⟩;have a:=Bt a an;obtain⟨X,Qh,Qk,Qj⟩:=(U.below a).cq))
   all_goals go_wp2_with fail
   go_ret;exact⟨J,Bt r.o.2.2 a⟩
theorem Of(P:D)(q:Rat)(w:G)(g:Jj w P q)(r:Sq q):
 F H 17 #[P] w λe w'=>e=.returned (.string ⟨(JP q).toArray⟩)/\Bl w w':=by
 obtain⟨y,z⟩:∃S:ByteArray,⟨(YL q.num).toArray⟩=S:=⟨_,J⟩;have an:y.size<=400000000000:=by rw[<-z];exact KH r.num
 have p:=Z z;clear z;obtain⟨m,d⟩:∃S:ByteArray,⟨(YL (q.den:Int)).toArray⟩=S:=⟨_,J⟩;have ap:m.size<=400000000000:=by rw[<-d];exact KH r.den
 have l:=Z d;clear d;have o:=Z r;clear r;by_cases f:q.den=1
 . have Q:=Z f;have s:=Z (show(⟨(JP q).toArray⟩:ByteArray)=y by rw[<-p.o];unfold JP;rw[BL f]);rw[s.o];have d:m=⟨#[49]⟩:=by rw[<-l.o,f,show YL ((1:Nat):Int)=[49]from Od.2 J]
   subst d;clear f;obtain⟨T,ah,X,ai,W,ae,ad,aj,rfl⟩:=Jj.form g;obtain⟨W0,j,k⟩:=Ew 49 (.ref q) g;clear g;go_enter func17,ntmps17
   go_upto_region 1 with fail
   rw[j.o];clear j;obtain⟨R,l1,c1,s1,U,k1,d1,t1,n,r1,K,M⟩:=k.o.ref (i:=0) J;obtain⟨x,t,u,v⟩:=n.cq;have b:=Z (Il _ q.num W0 K (by have:=o.o.num.size;omega));rw[p.o]at b;have c:=Z λ(V:G) (h:Bl W0 V)=>Il _ (q.den:Int) V (M.below h) (by have:=o.o.den.size;omega);rw[l.o]at c;go_wp2_with(first
    |(go_at_call 61;refine b.o.mono ?_;clear b;rintro e w1 ⟨rfl,a⟩;obtain⟨x,t,u,v⟩:=(n.below a).cq)
    |(go_at_call 61;refine(c.o _ a).mono ?_;clear c;rintro e w2 ⟨rfl,A⟩;have a:=Bt a A))
   go_ret;exact⟨J,Bt k.o.2.2 a⟩
 . have Q:=Z f;have s:=Z (show(⟨(JP q).toArray⟩:ByteArray)=y++⟨#[47]⟩++m by rw[<-p.o,<-l.o,Lz];unfold JP;rw[BH f]);rw[s.o];have d:¬m=⟨#[49]⟩:=by
    intro h;rw[<-l.o]at h;grind[Od]
   have ak:(m.toList == [49])=false:=by
    rw[BG];intro h;rw[ByteArray.toList_eq]at h;exact d (C0 DY)
   clear f;obtain⟨T,ah,X,ai,W,ae,ad,aj,rfl⟩:=Jj.form g;obtain⟨W0,j,k⟩:=Ew 49 (.ref q) g;clear g;go_enter func17,ntmps17
   go_upto_region 1 with fail
   rw[j.o];clear j;obtain⟨R,l1,c1,s1,U,k1,d1,t1,n,r1,K,M⟩:=k.o.ref (i:=0) J;obtain⟨x,t,u,v⟩:=n.cq;have b:=Z (Il _ q.num W0 K (by have:=o.o.num.size;omega));rw[p.o]at b;have c:=Z λ(V:G) (h:Bl W0 V)=>Il _ (q.den:Int) V (M.below h) (by have:=o.o.den.size;omega);rw[l.o]at c;go_wp2_with(first
    |(go_at_call 61;refine b.o.mono ?_;clear b;rintro e w1 ⟨rfl,a⟩;obtain⟨x,t,u,v⟩:=(n.below a).cq)
    |(go_at_call 61;refine(c.o _ a).mono ?_;clear c;rintro e w2 ⟨rfl,A⟩;have a:=Bt a A))
   go_ret;exact⟨J,Bt k.o.2.2 a⟩
end
section
variable{c:Rat}
def UT(b:ByteArray)(n i:Nat)(r:List UInt8)(h:b.size-i=n):ByteArray.toList.loop b i r=r.reverse++b.data.toList.drop i:=by
 induction n generalizing i r with
 |zero=>
  rw[ByteArray.toList.loop,BH O,An (by simpa using(by omega:b.size<=i)),Ce]
 |succ n d=>
  have a:i<b.size:=O
  have c:i<b.data.toList.length:=by simpa using a
  rw[ByteArray.toList.loop,BL a,d (i+1) _ O,List.reverse_cons,A7,AD c];have e:b.get! i=b.data.toList[i]:=by
   show b.data[i]! = _;rw[getElem!_pos b.data i a];simp
  rw[e];rfl
theorem Xh(b:ByteArray):b.toList=b.data.toList:=by
 show ByteArray.toList.loop b 0 []=_;rw[UT b _ 0 [] J];rfl
def Y1(c:Rat):Rat:=if c<0 then -c else c
def YF(c:Rat)(i:Nat):List UInt8:=if JP (Y1 c)=[49]/\0<i then []else JP (Y1 c)
def Dz(i:Nat):List UInt8:=if i=0 then []else if i=1 then [120]else 120::94::Y0 i
def XQ(c:Rat)(first:Bool):List UInt8:=if c<0 then [45]else if first then []else [43]
def Xq(c:Rat)(i:Nat)(first:Bool):List UInt8:=XQ c first++YF c i++Dz i
def JR:K->Nat->List UInt8
 |[],_=>[]
 |c::t,i=>if c=0 then JR t (i+1)else JR t (i+1)++Xq c i (JR t (i+1)).isEmpty
def Ei(p:K):List UInt8:=if JR p 0=[]then [48]else JR p 0
theorem neg_num:(c<0)↔c.num<0:=by
 rw[<-Rat.not_le,<-Rat.num_nonneg];omega
theorem UU(h:c<0):JP c=45::JP (-c):=by
 grind[neg_num,JP,Rat.neg_den,Rat.neg_num,YL]
theorem UV(h:¬c<0):(JP c).head?≠some 45:=by
 have f:¬c.num<0:=λa=>h (neg_num.2 a);have a:(YL c.num).head?≠some 45:=by
  unfold YL;rw[BH f];by_cases b:c.num.natAbs=0
  . rw[b];decide
  . obtain⟨d,t,e,_,j,_⟩:=Ia b;grind
 have i:YL c.num≠[]:=by
  unfold YL;rw[BH f];by_cases b:c.num.natAbs=0
  . rw[b];decide
  . obtain⟨d,t,e,_⟩:=Ia b;rw[e];simp
 unfold JP;split
 . exact a
 . cases g:YL c.num with
   |nil=>exact absurd g i
   |cons x t=>rw[g]at a;exact a
theorem Og(h:c<0):Y1 c=-c:=by unfold Y1;rw[BL h]
theorem Oh(h:¬c<0):Y1 c=c:=by unfold Y1;rw[BH h]
theorem Hw(c:Rat):(Y1 c).num=(c.num.natAbs:Int)/\(Y1 c).den=c.den:=by
 grind[neg_num,Og,Rat.neg_num,Rat.neg_den,Oh]
theorem UW(c:Rat):JP c≠[]:=by
 unfold JP
 have:YL c.num≠[]:=by
  unfold YL;split
  . simp
  . by_cases a:c.num.natAbs=0
    . rw[a];decide
    . obtain⟨d,t,e,_⟩:=Ia a;rw[e];simp
 split
 . exact this
 . simp
theorem Oi(c:Rat)(i:Nat)(f:Bool):Xq c i f≠[]:=by
 grind[Xq,YF,List.append_eq_nil_iff,Dz,UW]
def XC(p:K){m:Nat}(h:m<p.length):JR (p.drop m) m=if cf p m=0 then JR (p.drop (m+1)) (m+1)else JR (p.drop (m+1)) (m+1)++Xq (cf p m) m (JR (p.drop (m+1)) (m+1)).isEmpty:=by
 rw[AD h,JR,Kf h]
end
namespace M3
def L0{W W':G}{row:Option Nat}(hg:W.grownBy W' row)(z:∀r,row=some r->∃o:Obj,W.heap[r]?=some o/\o.isCells=false){k:IntKind}{v:D}{ds:Ja}(h:Row k W v ds):Row k W' v ds:=by
 obtain⟨a,cap,e,n,p,q,c⟩:=h;refine⟨a,cap,e,n,p,q,?_⟩;rcases c with c|⟨b,A,l,d,i⟩
 . exact Ar c
 . by_cases g:ds=[]
   . exact Ar g
   . have hl:0<ds.length:=AP.2 g;have f:some b≠row:=λe=>by
      obtain⟨o,y,x⟩:=z b e.symm;have s:=i 0 hl;cases o with
      |cells cs t m=>cases x
      |_=>simp[World.cell?,y]at s
     exact Ax ⟨b,A,l,d.of (hg.block b d.lt f),λj u=>(BR (w:=W) (hg.block b d.lt f)).trans (i j u)⟩
variable{cs:Array D}{bs:List (Option (Nat × Dat))}{W W' w:G}
def Hx{row:Option Nat}(hg:W.grownBy W' row)(d:∀r,row=some r->∃o:Obj,W.heap[r]?=some o/\o.isCells=false){B:Nat}{t:TypeId}(h:Bx W B t cs):Bx W' B t cs:=by
 have b:some B≠row:=λe=>by
  obtain⟨o,a,c⟩:=d B e.symm;rw[show W.heap[B]?=_ from h]at a;cases a;cases c
 exact(hg.block B h.lt b).trans h
def L1{row:Option Nat}(hg:W.grownBy W' row)(g:∀r,row=some r->∃o:Obj,W.heap[r]?=some o/\o.isCells=false){r:Bool}{v:D}{qs:K}(h:RowK r W v qs):RowK r W' v qs:=by
 obtain⟨a,cap,e,j,k,l,c⟩:=h;refine⟨a,cap,e,j,k,l,?_⟩;rcases c with c|⟨b,i,f⟩
 . exact Ar c
 . have m:W'.heap[b]?=W.heap[b]?:=by
    obtain⟨cs,d,_⟩:=f;rw[d];exact Hx hg g d
   exact Ax ⟨b,i,f.keep m λ_ _ _ h=>L0 hg g h⟩
def DL.own{row:Option Nat}(M:DL w W bs)(hg:W.grownBy W' row)(b:∀r,row=some r->w.heap.size<=r/\∃o:Obj,W.heap[r]?=some o/\o.isCells=false):DL w W' bs:=by
 have a:∀r,row=some r->∃o:Obj,W.heap[r]?=some o/\o.isCells=false:=λr e=>(b r e).2;refine⟨λi B d h=>?_,M.2.1,M.2.2.grown hg M.2.2.size λk e=>(b k e).1⟩;obtain⟨⟨cs,c,f⟩,g⟩:=M.1 i B d h;exact⟨⟨cs,Hx hg a c,f.keep (λ_ _ _ h=>L0 hg a h) (Ax λ_ _ h=>L1 hg a h)⟩,g⟩
def UX{B:Nat}(b:w.heap.size<=B)(f:Nat->List (Option (Nat × Dat))):OwnFrom B (λk W=>DL w W (f k)):=
 λ_ _ _ _ M hg a=>M.own hg λr e=>⟨AK b (a r e).1,(a r e).2⟩
def DL.with(M:DL w W bs){b:Nat}(d:Dat)(m:Bx W b d.ty cs)(n:Has W (N cs) d)(q:w.heap.size<=b)(f:∀(i:Nat) B g,bs[i]?=some (some (B,g))->B≠b):DL w W (bs++[some (b,d)]):=by
 have e:∀(j:Nat) x,(bs++[some (b,d)])[j]?=some (some x)->bs[j]?=some (some x)\/(j=bs.length/\x=(b,d)):=λj x h=>by
  by_cases o:j<bs.length
  . rw[List.getElem?_append_left o]at h;exact Ar h
  . rw[List.getElem?_append_right O]at h;obtain⟨k,p⟩:=ex (j-bs.length);rw[p]at h;cases k with
    |zero=>simp at h;exact Ax ⟨O,h.symm⟩
    |succ k=>simp at h
 refine⟨λj B d h=>?_,λj k B d1 l a c=>?_,M.2.2⟩
 . rcases e j _ h with h|⟨_,h⟩
   . exact M.1 j B d h
   . cases h;exact⟨⟨cs,m,n⟩,q⟩
 . rcases e j _ a with a|⟨r,a⟩<;>rcases e k _ c with c|⟨s,c⟩
   . exact M.2.1 j k B d1 l a c
   . cases c;exact absurd J (f j _ _ a)
   . cases a;exact absurd J (f k _ _ c)
   . omega
def FO(w W0 W:G)(bs:List (Option (Nat × Dat))):Prop:=DL w W bs/\KeepsOthers W0 W
def FO.below{w W0 W W':G}{bs:List (Option (Nat × Dat))}(h:FO w W0 W bs)(a:Bl W W'):FO w W0 W' bs:=⟨h.1.below a,h.2.trans (J6 a)⟩
def FO.drew{w W0 W:G}{bs:List (Option (Nat × Dat))}(h:FO w W0 W bs):FO w W0 W.drew bs:=h.below ((BB _ W).drew)
def Oj(W:G)(B:Nat)(x y z u:D):KeepsOthers W (put4 W B x y z u):=(((BN _ _ _).trans (BN _ _ _)).trans (BN _ _ _)).trans (BN _ _ _)
