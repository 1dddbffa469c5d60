import Derived.Test.YthnpdhlepglmlaaGreatDoorV22
import Derived.Test.YthnpdhlepglmlaaGreatDoorV24
set_option linter.all false
open Go.Value renaming slice->C,bool->E,pointer->L,agg->P
open Go.Obj renaming cells->G
open Go renaming World->H,Value->D,Calls->F,undef->N
open Go.Proofs.Tryz renaming prog->I
set_option maxRecDepth 99999
set_option maxHeartbeats 0
namespace Go.Proofs.YthnpdhlepglmlaaGreatDoor
open Rat renaming divInt->yB
open Proofs.Tryz
open Go.RowKit Go.Shelf
attribute [local go_sem] Oper.semAt_some
def Bz:=@decide_eq_decide
def LJ(v z:D)(x y:Int)(w:H)(S:Jk w v x)(hb:Jk w z y)(n:(Jh Y x.natAbs).length<1000000000000)(o:(Jh Y y.natAbs).length<1000000000000):
 F I 95 #[v,z] w λe w'=>∃u,e=.returned u/\Jk w' u (Int.gcd x y:Nat)/\Bl w w':=by
 obtain⟨a,la,ca,f,c⟩:=S;cases f;obtain⟨b,lb,cb,f,hv⟩:=hb;cases f;have l:=c.len;have m:=hv.len;obtain⟨s,hs⟩:=ex (decide (x<0));obtain⟨t,q⟩:=ex (decide (y<0));rw[hs,q];obtain⟨W0,i⟩:=ex (((w.alloc (G #[E s,C a la ca] 48)).alloc (G #[E t,C b lb cb] 48)).alloc (G #[E false,C none 0 0] 48));obtain⟨g,b0,R,d⟩:=OI i;have B:=Z (lI a la ca b lb cb _ _ W0 (UN.below c g) (UN.below hv g) (by rw[l];exact n) (by rw[m];exact o));have A:=Z λ(V:H) (u:D) (c:UN V u (Nat.gcd x.natAbs y.natAbs))=>show F I 105 #[E false,u] V λe w'=>∃u,e=.returned u/\Jk w' u (Int.gcd x y:Nat)/\Bl V w' from LA false u _ V c;have k1:=b0.c1;have k3:=R.c1;have M:=Z i;clear c hv hs q l m n o i;go_enter func95,ntmps95
 go_upto_region 1 with fail
 rw[M.o];go_wp2_with(first
  |(go_at_call 167;refine B.o.mono ?_;rintro e w1 ⟨u1,rfl,r,T⟩;obtain⟨na,nc,rfl⟩:=UN.form r)
  |(go_at_call 105;refine(A.o _ _ r).mono ?_;rintro e w2 ⟨u2,rfl,k,U⟩;obtain⟨X,sl,sc,rfl⟩:=k.form;obtain⟨W,j⟩:=ex (decide (((Int.gcd x y:Nat):Int)<0));rw[j]at k;rw[j];clear j;have hq:=Bt T U;obtain⟨r0,r1⟩:=(d.below hq).cp;obtain⟨f0,f1⟩:=(d.below hq).fp))
 have Q:=Bt g hq;have K:=k.box (d.below hq) J J (x0:=E W) (x1:=C X sl sc);exact BA (by simp[results,results95,go_sem,r0,r1]) J ⟨_,J,K,(Q.setCell (p:=⟨_,0,none⟩) Dh _).setCell (p:=⟨_,1,none⟩) Dh _⟩
def lk(w:H)(a b c d:Obj):Bl w ((((w.alloc a).alloc b).alloc c).alloc d):=
 (((Ba w _).alloc DI _).alloc si _).alloc si _
theorem WC{x y z r:Int}(d:y≠0)(h:r+y*z=x)(c:0<=r)(e:r<y.natAbs):z=x/y/\r=x%y:=by
 rcases Int.lt_or_gt_of_ne d with hn|hp
 . have f:=(Int.ediv_emod_unique (a:=x) (b:=-y) (r:=r) (q:=-z) O).2 ⟨DH,c,O⟩;grind[Int.ediv_neg,Int.emod_neg]
 grind[Int.ediv_emod_unique]
theorem lm{x y:Int}(b:y≠0)(c:¬(x<0/\x.natAbs%y.natAbs≠0)):
 (if(!(decide (x<0)==decide (y<0)))=true then -((x.natAbs/y.natAbs:Nat):Int)else((x.natAbs/y.natAbs:Nat):Int))=x/y/\((x.natAbs%y.natAbs:Nat):Int)=x%y:=by
 have a:=Cv x.natAbs y.natAbs;have d:=CC x.natAbs (show y.natAbs>0 by omega);generalize x.natAbs/y.natAbs=Q at *;generalize x.natAbs%y.natAbs=R at *;have e:(y.natAbs:Int)*Q+R=x.natAbs:=by rw[<-a];push_cast;rfl
 apply WC b _ O O;grind
theorem ls{x y:Int}(c:y≠0)(a:x<0/\x.natAbs%y.natAbs≠0):
 (if(!(decide (x<0)==decide (y<0)))=true then -((x.natAbs/y.natAbs+1:Nat):Int)else((x.natAbs/y.natAbs+1:Nat):Int))=x/y/\((y.natAbs-x.natAbs%y.natAbs:Nat):Int)=x%y:=by
 have b:=Cv x.natAbs y.natAbs;have e:=CC x.natAbs (show y.natAbs>0 by omega);generalize x.natAbs/y.natAbs=Q at *;generalize x.natAbs%y.natAbs=R at *;have f:(y.natAbs:Int)*Q+R=x.natAbs:=by rw[<-b];push_cast;rfl
 obtain⟨g,d⟩:=a;apply WC c _ O O;grind
def lu{W:H}{B:Nat}{t:TypeId}{a b u0 u1:D}(x0 x1 y0 y1:D)(h:JC W B t a b)(k:JC W (B+1) t u0 u1):
 JC ((((W.setCell ⟨B,0,none⟩ x0).setCell ⟨B,1,none⟩ x1).setCell ⟨B+1,0,none⟩ y0).setCell ⟨B+1,1,none⟩ y1) B t x0 x1/\JC ((((W.setCell ⟨B,0,none⟩ x0).setCell ⟨B,1,none⟩ x1).setCell ⟨B+1,0,none⟩ y0).setCell ⟨B+1,1,none⟩ y1) (B+1) t y0 y1:=
 ⟨(((h.set0 x0).set1 x1).far DI y0).far DI y1,(((k.far DI x0).far DI x1).set0 y0).set1 y1⟩
def lw(w:H)(o0 a b c:D)(p0 p1:D):
 JC ((((w.alloc (G #[o0,a] 48)).alloc (G #[b,c] 48)).alloc (G #[p0,p1] 48)).alloc (G #[p0,p1] 48)) w.heap.size 48 o0 a/\
 JC ((((w.alloc (G #[o0,a] 48)).alloc (G #[b,c] 48)).alloc (G #[p0,p1] 48)).alloc (G #[p0,p1] 48)) (w.heap.size+1) 48 b c/\
 JC ((((w.alloc (G #[o0,a] 48)).alloc (G #[b,c] 48)).alloc (G #[p0,p1] 48)).alloc (G #[p0,p1] 48)) (w.heap.size+1+1) 48 p0 p1/\
 JC ((((w.alloc (G #[o0,a] 48)).alloc (G #[b,c] 48)).alloc (G #[p0,p1] 48)).alloc (G #[p0,p1] 48)) (w.heap.size+1+1+1) 48 p0 p1:=by
 refine⟨(((JC.new w _ _ _).alloc _).alloc _).alloc _,?_,?_,?_⟩
 . have h:=((JC.new (w.alloc (G #[o0,a] 48)) 48 b c).alloc (G #[p0,p1] 48)).alloc (G #[p0,p1] 48);rw[Ax]at h;exact h
 . have h:=(JC.new ((w.alloc (G #[o0,a] 48)).alloc (G #[b,c] 48)) 48 p0 p1).alloc (G #[p0,p1] 48);rw[Ax,Ax]at h;exact h
 . have h:=JC.new (((w.alloc (G #[o0,a] 48)).alloc (G #[b,c] 48)).alloc (G #[p0,p1] 48)) 48 p0 p1;rw[Ax,Ax,Ax]at h;exact h
theorem ly(a:om)(la ca:Nat)(b:om)(lb cb X c:Nat)(s t:Bool)(z r:Int)(w:H)(hu:UN w (C a la ca) X)(hv:UN w (C b lb cb) c)(hY:c≠0)(bn:la<1000000000000)(bu:lb<1000000000000)
(HP:Hid (¬(s=true/\X%c≠0)->(if(!(s==t))=true then -((X/c:Nat):Int)else((X/c:Nat):Int))=z/\((X%c:Nat):Int)=r))
(HN:Hid (s=true/\X%c≠0->(if(!(s==t))=true then -((X/c+1:Nat):Int)else((X/c+1:Nat):Int))=z/\((c-X%c:Nat):Int)=r)):
 F I 168 #[P #[E s,C a la ca],P #[E t,C b lb cb]] w λe w'=>∃q o,e=.returned (.tuple #[q,o,E true])/\Jk w' q z/\Jk w' o r/\Bl w w':=by
 obtain⟨b0,j,A,b5⟩:=lw w (E s) (C a la ca) (E t) (C b lb cb) (E false) (C none 0 0);have x:=lk w (G #[E s,C a la ca] 48) (G #[E t,C b lb cb] 48) (G #[E false,C none 0 0] 48) (G #[E false,C none 0 0] 48);obtain⟨W0,ae⟩:=ex ((((w.alloc (G #[E s,C a la ca] 48)).alloc (G #[E t,C b lb cb] 48)).alloc (G #[E false,C none 0 0] 48)).alloc (G #[E false,C none 0 0] 48));rw[ae]at b0 j A b5 x;have Qh:=Z ae;have bz:lb≠0:=λe=>hY ((Yb Jg).1 (AW (by rw[<-UN.len hv,e])));have Qn:=UN.below hu x;have Qd:=UN.below hv x;have Qm:=Z (RU a la ca b lb cb X c W0 Qn Qd hY O);have Qw:=Z Qd;have Qq:=Z (UN.len hu).symm;obtain⟨k0,k1⟩:=b0.cp;obtain⟨k2,l⟩:=j.cp;clear ae hu hv Qn Qd;go_enter func168,ntmps168
 go_upto_region 1 with fail
 rw[Qh.o];go_upto_region 4 with(go_at_call 225;refine Qm.o.mono ?_;rintro e w1 ⟨u1,v1,rfl,k,M,g⟩;obtain⟨ua,uc,rfl⟩:=UN.form k;obtain⟨va,vc,rfl⟩:=UN.form M)
 clear Qm Qh;obtain⟨k0,k1⟩:=(b0.below g).cp;obtain⟨k2,l⟩:=(j.below g).cp;have Qg:(Jh Y (X%c)).length=0↔X%c=0:=⟨λh=>(Yb Jg).1 (AW h),λh=>by rw[h,JV];rfl⟩;have cn:=CC X (show c>0 by omega);have cj:=LC (m:=X) (n:=X/c) (FB _ _);have Qk:(Jh Y (X/c)).length<1099511627776:=by
  have d:=(JM k).2.2.2.1
  have:(Jh Y X).length=la:=by
   have h:=Qq.o;omega
  omega
 obtain⟨lr,bg⟩:=ex ((Jh Y (X%c)).length);obtain⟨lq,az⟩:=ex ((Jh Y (X/c)).length);rw[bg]at M Qg ⊢;rw[az]at k Qk ⊢;obtain⟨cd,ay⟩:=ex ((s&&decide (0<lr)):Bool);have i:=Z ay;have Qp:=Z Qg;clear ay Qg bg az;go_cut [29] λv w2=>v=E cd/\w2=w1
 case first=>
  cases s with
  |false=>
   have e5:cd=false:=by rw[<-i.o];rfl
   go_wp2_with fail
   go_meet
   grind
  |true=>
   by_cases h5:0<lr
   . have e5:cd=true:=by rw[<-i.o];simp;omega
     go_wp2_with fail
     go_meet
     grind
   . have e5:cd=false:=by rw[<-i.o];simp;omega
     go_wp2_with fail
     go_meet
     grind
 case rest=>
  obtain⟨rfl,rfl⟩:=hcut;go_upto_if 29 with fail
  go_cut [7,8] λqv rv w2=>∃(W:om) (ql qc Q:Nat) (T:om) (ol U R:Nat),qv=C W ql qc/\rv=C T ol U/\Hid (UN w2 (C W ql qc) Q)/\Hid (UN w2 (C T ol U) R)/\Hid ((if(!(s==t))=true then -(Q:Int)else(Q:Int))=z/\(R:Int)=r)/\Bl W0 w2
  case first=>
   cases cd with
   |false=>
    have K:¬(s=true/\X%c≠0):=λ⟨d,h2⟩=>by
     have h:=i.o;rw[d]at h;simp at h;exact h2 (Qp.o.1 h)
    go_wp2_with fail
    go_meet
    case rel=>exact⟨_,_,_,_,_,_,_,_,J,J,Z k,Z M,Z (HP.o K),g⟩
   |true=>
    have K:s=true/\X%c≠0:=by
     have h:=i.o;simp at h;exact⟨h.1,λe=>by have:=Qp.o.2 e;omega⟩
    have HC:=Z K;clear K;have Qv:=Z (show ∀V:H,Bl wc V->F I 165 #[C ua lq uc,C (some ⟨V.heap.size,0,none⟩) 1 1] (V.alloc (G #[.int .u64 1] 223)) λe w'=>∃u,e=.returned u/\UN w' u (X/c+1)/\Below (V.alloc (G #[.int .u64 1] 223)).heap.size (V.alloc (G #[.int .u64 1] 223)) w' from λV h=>by
     have Qe:Row .u64 (V.alloc (G #[.int .u64 1] 223)) (C (some ⟨V.heap.size,0,none⟩) 1 1) (Jh Y 1):=by
      rw[RV O uo];exact(DR.made (xs:=[1]) (BD V (G #[.int .u64 ((1:Nat):Int)] 223))).row 0 1 1 DI O O O
     exact U8 ua lq uc (some ⟨V.heap.size,0,none⟩) 1 1 (X/c) 1 _ (Row.below (Row.below k h) (Ba V _)) Qe Qk O)
    have Qz:=Z λ(V:H) (h:Bl wc V)=>RB b lb cb va lr vc c (X%c) V (Row.below (Row.below Qw.o g) h) (Row.below M h) O;have hq:Bl wc wc.drew:=(BB _ wc).drew;have bx:=j.below g;go_wp2_with fail
    have l:=bx.c1;go_region_held3 (λw'=>w'.cell? ⟨w.heap.size+1,1,none⟩=some (C b lb cb)) (first|exact l|(go_keep;done))
     (first
      |(go_at_call 165;refine(Qv.o _ hq).mono ?_;rintro e w3 ⟨u3,rfl,bi,bm⟩;obtain⟨pa,pc,rfl⟩:=UN.form bi;have hq:=Vl hq bm;have l:=(bx.below hq).c1)
      |(go_at_call 166;refine(Qz.o _ hq).mono ?_;rintro e w4 ⟨u4,rfl,bj,ap⟩;obtain⟨ma,mc,rfl⟩:=UN.form bj;have hq:=Bt hq ap;have l:=(bx.below hq).c1))
    all_goals go_wp2_with fail
    go_meet
    case rel=>exact⟨_,_,_,_,_,_,_,_,J,J,Z (UN.below bi ap),Z bj,Z (HN.o HC.o),Bt g hq⟩
  case rest=>
   obtain⟨W,ql,qc,Q,T,ol,U,R,rfl,rfl,hQ,hR,hZ,B⟩:=hcut;have Qi:=Z (show ∀V:H,Bl wc V->F I 105 #[E (!(s==t)),C W ql qc] V λe w'=>∃u,e=.returned u/\Jk w' u z/\Bl V w' from λV h=>by
    have d:=LA (!(s==t)) _ _ V (UN.below hQ.o h);rw[hZ.o.1]at d;exact d)
   have Qj:=Z (show ∀V:H,Bl wc V->F I 105 #[E false,C T ol U] V λe w'=>∃u,e=.returned u/\Jk w' u r/\Bl V w' from λV h=>by
    have d:=LA false _ _ V (UN.below hR.o h);simp only[Fh,if_false]at d;rw[hZ.o.2]at d;exact d)
   have k0:=(b0.below B).c0;have k2:=(j.below B).c0;go_wp2_with(first
    |(go_at_call 105;refine(Qi.o _ (BB _ _)).mono ?_;clear Qi;rintro e w5 ⟨u5,rfl,am,ah⟩;obtain⟨y,S,c5,rfl⟩:=am.form;obtain⟨s5,ai⟩:=ex (decide (z<0));rw[ai]at am;rw[ai];clear ai)
    |(go_at_call 105;refine(Qj.o _ ah).mono ?_;clear Qj;rintro e w6 ⟨u6,rfl,an,aq⟩;obtain⟨a6,l6,c6,rfl⟩:=an.form;obtain⟨s6,aj⟩:=ex (decide (r<0));rw[aj]at an;rw[aj];clear aj;have f:=(Bt B ah).trans (aq.mono (Bt B ah).size);obtain⟨q0,q1⟩:=(A.below f).cp;obtain⟨q2,q3⟩:=(b5.below f).cp;obtain⟨f0,f1⟩:=(A.below f).fp;obtain⟨f2,f3⟩:=(b5.below f).fp))
   have Qf:=A.below f;have Qo:=b5.below f;obtain⟨z4,z5⟩:=lu (E s5) (C y S c5) (E s6) (C a6 l6 c6) Qf Qo;obtain⟨Qy,Qx⟩:=z4.cp;obtain⟨Qr,Qu⟩:=z5.cp;have Ql:JC ((w6.setCell ⟨w.heap.size+1+1,0,none⟩ (E s5)).setCell ⟨w.heap.size+1+1,1,none⟩ (C y S c5)) (w.heap.size+1+1+1) 48 (E false) (C none 0 0):=(Qo.far DI _).far DI _;have Qs:=((am.below aq).box Qf J J (x0:=E s5) (x1:=C y S c5)).box Ql J J (x0:=E s6) (x1:=C a6 l6 c6);have Qt:=(an.box Qf J J (x0:=E s5) (x1:=C y S c5)).box Ql J J (x0:=E s6) (x1:=C a6 l6 c6);have Ua:=Bt x f;exact BA (by simp[results,results168,go_sem,Qy,Qx,Qr,Qu]) J ⟨_,_,J,Qs,Qt,(((Ua.setCell (p:=⟨_,0,none⟩) Dh _).setCell (p:=⟨_,1,none⟩) Dh _).setCell (p:=⟨_,0,none⟩) Dh _).setCell (p:=⟨_,1,none⟩) Dh _⟩
def On(g i:D)(x y:Int)(w:H)(j:Jk w g x)(hb:Jk w i y)(f:y≠0)(k:(Jh Y x.natAbs).length<1000000000000)(l:(Jh Y y.natAbs).length<1000000000000):
 F I 168 #[g,i] w λe w'=>∃q o,e=.returned (.tuple #[q,o,E true])/\Jk w' q (x/y)/\Jk w' o (x%y)/\Bl w w':=by
 obtain⟨a,la,ca,rfl,d⟩:=j;obtain⟨b,lb,cb,rfl,hv⟩:=hb;refine ly a la ca b lb cb x.natAbs y.natAbs _ _ (x/y) (x%y) w d hv O (by rw[UN.len d];exact k) (by rw[UN.len hv];exact l) (λc=>lm f λh=>c ⟨BI h.1,h.2⟩) (λc=>ls f ⟨BW c.1,c.2⟩)
section
open M3
def l0(z:Int):(XU z 0=0)↔z=0:=by
 unfold XU;omega
def WD(v:D)(z:Int)(w:H)(h:Jk w v z):
 F I 102 #[v] w λe w'=>e=.returned (E (decide (z=0)))/\Bl w w':=by
 obtain⟨a,l,c,rfl⟩:=h.form;obtain⟨s,hs⟩:=ex (decide (z<0));rw[hs]at h ⊢;clear hs;have b0:=JC.new w 48 (E s) (C a l c);have b:Bl w (w.alloc (G #[E s,C a l c] 48)):=Ba w _;obtain⟨W0,d⟩:=ex (w.alloc (G #[E s,C a l c] 48));rw[d]at b0 b;have i:=Z d;have f:=Z (KC _ _ z 0 W0 (h.below b) (EX _));obtain⟨k,m⟩:=b0.cp;have g:=Z (l0 z);obtain⟨n,hn⟩:=ex (XU z 0);rw[hn]at f g;clear d hn;go_enter func102,ntmps102
 go_upto_region 1 with fail
 rw[i.o];go_wp2_with(go_at_call 47;refine f.o.mono ?_;rintro e w1 ⟨rfl,j⟩)
 go_ret;refine⟨?_,Bt b j⟩;show Ending.returned (Value.bool (n==0))=_;have e:(n==0)=decide (z=0):=by rw[F3];simp[g.o]
 rw[e]
def dd(y:Int):Int:=if y=0 then 1 else y
def WE(v:D)(x y:Int)(w:H)(h:XA w v x y):
 F I 46 #[v] w λe w'=>e=.returned (E (decide (y=0)))/\Bl w w':=by
 obtain⟨s,a,l,c,t,b,k,d,rfl,p,m⟩:=h;have b0:=JQ.new w 50 (E s) (C a l c) (E t) (C b k d);have f:Bl w (w.alloc (G #[E s,C a l c,E t,C b k d] 50)):=Ba w _;obtain⟨W0,g⟩:=ex (w.alloc (G #[E s,C a l c,E t,C b k d] 50));rw[g]at b0 f;have j:=Z g;have i:=Z (WD _ _ W0 (m.below f));have q:=b0.c2;have r:=b0.c3;obtain⟨n,hn⟩:=ex (decide (y=0));rw[hn]at i ⊢;clear g hn;go_enter func46,ntmps46
 go_upto_region 1 with fail
 rw[j.o];go_wp2_with(go_at_call 102;refine i.o.mono ?_;rintro e w1 ⟨rfl,o⟩)
 go_ret;exact⟨J,Bt f o⟩
def WF(v:D)(x y:Int)(w:H)(h:XA w v x y):
 F I 49 #[v] w λe w'=>∃u,e=.returned u/\Jk w' u (dd y)/\Bl w w':=by
 have B:=h;obtain⟨s,a,l,c,t,b,k,d,rfl,T,K⟩:=h;obtain⟨W0,i⟩:=ex ((w.alloc (G #[E s,C a l c,E t,C b k d] 50)).alloc (G #[E false,C none 0 0] 48));have b0:JQ W0 w.heap.size 50 (E s) (C a l c) (E t) (C b k d):=by rw[<-i];exact(JQ.new w _ _ _ _ _).alloc _
 have m:Bl w W0:=by rw[<-i];exact Mg w _ _
 have g:JC W0 (w.heap.size+1) 48 (E false) (C none 0 0):=by
  have h:=JC.new (w.alloc (G #[E s,C a l c,E t,C b k d] 50)) 48 (E false) (C none 0 0);rw[Ax,i]at h;exact h
 have j:=Z (WE _ x y W0 (B.below m));have A:=Z i;obtain⟨V,W,X,k3⟩:=b0.cq;have S:=Z (K.below m);clear B T K i;by_cases hq:y=0
 . rw[BI hq]at j;have n:=Z (show dd y=1 by unfold dd;rw[BF hq]);clear hq;go_enter func49,ntmps49
   go_upto_region 1 with fail
   rw[A.o];go_wp2_with(first
    |(go_at_call 46;refine j.o.mono ?_;rintro e w1 ⟨rfl,f⟩)
    |(go_at_call 107;refine(GW 1 O O _).mono ?_;rintro e w2 ⟨u2,rfl,z,U⟩;obtain⟨R,sl,sc,rfl⟩:=z.form;obtain⟨Q,r⟩:=ex (decide ((1:Int)<0));rw[r]at z;rw[r];clear r;have hq:=Bt f U;obtain⟨r0,r1⟩:=(g.below hq).cp;obtain⟨f0,f1⟩:=(g.below hq).fp))
   have q:=Bt m hq;have o:=z.box (g.below hq) J J (x0:=E Q) (x1:=C R sl sc);exact BA (v:=P #[E Q,C R sl sc]) (by simp[results,results49,go_sem,r0,r1]) J ⟨_,J,by rw[n.o];exact o,(q.setCell (p:=⟨_,0,none⟩) Dh _).setCell (p:=⟨_,1,none⟩) Dh _⟩
 . rw[BK hq]at j;have n:=Z (show y=dd y by unfold dd;rw[BE hq]);clear hq;go_enter func49,ntmps49
   go_upto_region 1 with fail
   rw[A.o];go_wp2_with(go_at_call 46;refine j.o.mono ?_;rintro e w1 ⟨rfl,f⟩;have m2:=(b0.below f).c2;have m3:=(b0.below f).c3;obtain⟨r0,r1⟩:=(g.below f).cp;obtain⟨f0,f1⟩:=(g.below f).fp)
   have q:=Bt m f;have M:=S.o.below f;rw[n.o]at M;have o:=M.box (g.below f) J J (x0:=E t) (x1:=C b k d);exact BA (v:=P #[E t,C b k d]) (by simp[results,results49,go_sem,r0,r1]) J ⟨_,J,o,(q.setCell (p:=⟨_,0,none⟩) Dh _).setCell (p:=⟨_,1,none⟩) Dh _⟩
def Rb(q:Rat):dd (D0 q)=q.den:=by
 have:=q.den_pos;unfold dd D0;omega
def Kj(v:D)(q:Rat)(w:H)(h:Jf w v q):
 F I 46 #[v] w λe w'=>e=.returned (E (decide (q.den=1)))/\Bl w w':=by
 have a:=WE v q.num (D0 q) w h.pair;rwa[Bz.2 OL]at a
def GL(v:D)(q:Rat)(w:H)(h:Jf w v q):
 F I 49 #[v] w λe w'=>∃u,e=.returned u/\Jk w' u (q.den:Int)/\Bl w w':=by
 have a:=WF v q.num (D0 q) w h.pair;rwa[Rb]at a
def Hz(K M:D)(x y:Int)(w:H)(g:Jk w K x)(hb:Jk w M y)(B:y≠0)(r:Sok x)(v:Sok y):
 F I 96 #[K,M] w λe w'=>∃u,e=.returned u/\Jk w' u (x/y)/\Bl w w':=by
 obtain⟨a,la,ca,rfl⟩:=g.form;obtain⟨b,lb,cb,rfl⟩:=hb.form;obtain⟨s,hs⟩:=ex (decide (x<0));obtain⟨t,z⟩:=ex (decide (y<0));rw[hs]at g ⊢;rw[z]at hb ⊢;clear hs z;obtain⟨W0,l⟩:=ex (((w.alloc (G #[E s,C a la ca] 48)).alloc (G #[E t,C b lb cb] 48)).alloc (G #[E false,C none 0 0] 48));obtain⟨k,b0,U,V⟩:=OI l;have Q:=Z (On _ _ x y W0 (g.below k) (hb.below k) B (by have:=r.words;omega) (by have:=v.words;omega));have S:=Z l;obtain⟨k0,k1⟩:=b0.cp;obtain⟨k2,k3⟩:=U.cp;clear g hb B r v l;go_enter func96,ntmps96
 go_upto_region 1 with fail
 rw[S.o];go_upto_region 2 with(go_at_call 168;refine Q.o.mono ?_;rintro e w1 ⟨u1,u2,rfl,o,A,q⟩;obtain⟨c,l1,c1,rfl⟩:=o.form;obtain⟨d,m⟩:=ex (decide (x/y<0));rw[m]at o;rw[m];clear m;obtain⟨f,l2,c2,rfl⟩:=A.form;obtain⟨i,n⟩:=ex (decide (x%y<0));rw[n]at A;rw[n];clear n)
 have W:=(JC.new w1 48 (E d) (C c l1 c1)).alloc (G #[E i,C f l2 c2] 48);have j:=((V.below q).alloc (G #[E d,C c l1 c1] 48)).alloc (G #[E i,C f l2 c2] 48);have X:=(o.alloc (G #[E d,C c l1 c1] 48)).alloc (G #[E i,C f l2 c2] 48);have T:Bl w ((w1.alloc (G #[E d,C c l1 c1] 48)).alloc (G #[E i,C f l2 c2] 48)):=Bt (Bt k q) (Mg w1 _ _)
 obtain⟨q0,q1⟩:=W.cp;obtain⟨r0,r1⟩:=j.cp;obtain⟨f0,f1⟩:=j.fp;go_wp2_with fail
 have R:=X.box j J J (x0:=E d) (x1:=C c l1 c1);exact BA (by simp[results,results96,go_sem,r0,r1]) J ⟨_,J,R,(T.setCell (p:=⟨_,0,none⟩) Dh _).setCell (p:=⟨_,1,none⟩) Dh _⟩
def Rc(w:H)(s t:Bool)(a b:om)(la ca lb cb:Nat)(x y:Int)(c:Jk w (P #[E s,C a la ca]) x)(hb:Jk w (P #[E t,C b lb cb]) y):
 DJ w (((w.alloc (G #[E s,C a la ca] 48)).alloc (G #[E t,C b lb cb] 48)).alloc (G #[E false,C none 0 0,E false,C none 0 0] 50)) [some (w.heap.size,.int x),some (w.heap.size+1,.int y),some (w.heap.size+1+1,.rat 0)]:=by
 have h:=(((DJ.nil w).push (.int x) c).push (.int y) (hb.alloc _)).push (.rat 0) (XF _);rw[Ax,Ax,Ax]at h;exact h
def Jf.mk{W:H}{s t:Bool}{a b:om}{l c k d:Nat}{q:Rat}(e:Jk W (P #[E s,C a l c]) q.num)(f:Jk W (P #[E t,C b k d]) (D0 q)):Jf W (P #[E s,C a l c,E t,C b k d]) q:=⟨_,_,_,_,_,_,_,_,J,e,f⟩
def Oo(B K:D)(q:Rat)(w:H)(d:Jk w B q.num)(hb:Jk w K (q.den:Int)):
 F I 97 #[B,K] w λe w'=>∃u,e=.returned u/\Jf w' u q/\Bl w w':=by
 obtain⟨a,la,ca,rfl⟩:=d.form;obtain⟨b,lb,cb,rfl⟩:=hb.form;obtain⟨s,hs⟩:=ex (decide (q.num<0));obtain⟨t,v⟩:=ex (decide ((q.den:Int)<0));rw[hs]at d ⊢;rw[v]at hb ⊢;clear hs v;have k:=Rc w s t a b la ca lb cb _ _ d hb;obtain⟨W0,c⟩:=ex (((w.alloc (G #[E s,C a la ca] 48)).alloc (G #[E t,C b lb cb] 48)).alloc (G #[E false,C none 0 0,E false,C none 0 0] 50));have b0:JC W0 w.heap.size 48 (E s) (C a la ca):=by rw[<-c];exact((JC.new w _ _ _).alloc _).alloc _
 have l:JC W0 (w.heap.size+1) 48 (E t) (C b lb cb):=by
  have h:=(JC.new (w.alloc (G #[E s,C a la ca] 48)) 48 (E t) (C b lb cb)).alloc (G #[E false,C none 0 0,E false,C none 0 0] 50);rw[Ax,c]at h;exact h
 have m:JQ W0 (w.heap.size+1+1) 50 (E false) (C none 0 0) (E false) (C none 0 0):=by
  have h:=JQ.new ((w.alloc (G #[E s,C a la ca] 48)).alloc (G #[E t,C b lb cb] 48)) 50 (E false) (C none 0 0) (E false) (C none 0 0);rw[Ax,Ax,c]at h;exact h
 rw[c]at k;have f:=k.2.2;obtain⟨i,p,M,Q⟩:=Dx (λ(V:H) (u:D) (h:Bl W0 V) (T:Jk V u 1)=>KC _ u (q.den:Int) 1 V ((hb.below f).below h) T) (d.below f) (hb.below f) c;obtain⟨W,X⟩:=b0.cp;obtain⟨x,y⟩:=l.cp;have j:=Z (show(XU (q.den:Int) 1=0)↔q.den=1 by unfold XU;split<;>(try split)<;>omega);obtain⟨n,hn⟩:=ex (XU (q.den:Int) 1);rw[hn]at i j;clear d hb c hn k;go_enter func97,ntmps97
 go_upto_region 1 with fail
 rw[Q.o];have hq:Bl W0 W0.drew:=(BB _ W0).drew;go_region_held3 (λw'=>w'.cell? ⟨w.heap.size+1,0,none⟩=some (E t)/\w'.cell? ⟨w.heap.size+1,1,none⟩=some (C b lb cb)) (refine⟨?_,?_⟩<;>(first|(go_keep;done)|((repeat rw[JO O]);simp[*];done)))
  (first
   |(go_at_call 107;refine(GW 1 O O _).mono ?_;rintro e w1 ⟨u1,rfl,U,R⟩;have hq:=Bt hq R;obtain⟨x,y⟩:=(l.below hq).cp)
   |(go_at_call 47;refine(i.o _ _ hq U).mono ?_;clear i;rintro e w2 ⟨rfl,S⟩;have hq:=Bt hq S;obtain⟨W,X⟩:=(b0.below hq).cp;obtain⟨x,y⟩:=(l.below hq).cp;obtain⟨r0,r1,z,A⟩:=(m.below hq).cq;obtain⟨f0,f1,f2,f3⟩:=(m.below hq).fq))
 have r:=Bt f hq;have bw:=m.below hq;by_cases hn:n=0
 . have g:=Z (show D0 q=0 from OL.2 (j.o.1 hn));subst hn;have o:Jf w2 (P #[E s,C a la ca,E false,C none 0 0]) q:=Jf.mk (p.o.below hq) (by rw[g.o];exact EX _);go_wp2_with fail
   exact BA (by simp[results,results97,go_sem,r0,r1,z,A]) J ⟨_,J,o.put4 bw J J J J _ _ _ _,Jw r O _ _ _ _⟩
 . have g:=Z (show D0 q=q.den by unfold D0;rw[BE λh=>hn (j.o.2 h)]);have o:Jf w2 (P #[E s,C a la ca,E t,C b lb cb]) q:=Jf.mk (p.o.below hq) (by rw[g.o];exact M.o.below hq);go_wp2_with fail
   exact BA (by simp[results,results97,go_sem,r0,r1,z,A]) J ⟨_,J,o.put4 bw J J J J _ _ _ _,Jw r O _ _ _ _⟩
def L2{x y:Int}(a:y≠0):(0:Int)<(Int.gcd x y:Nat):=by
 have:=Int.gcd_pos_of_ne_zero_right x a;omega
theorem WG(va vb:D)(x y:Int)(w:H)(ha:Jk w va x)(hb:Jk w vb y)(hy:y≠0)(bn:Sok x)(bu:Sok y):
 F I 100 #[va,vb] w λe w'=>∃u,e=.returned u/\Jf w' u (yB x y)/\Bl w w':=by
 obtain⟨U,W,f⟩:=DZ bn bu hy;clear bn bu hy;obtain⟨s,a,la,ca,rfl⟩:=Jk.form2 ha;obtain⟨t,b,lb,cb,rfl⟩:=Jk.form2 hb;have M0:=Rc w s t a b la ca lb cb _ _ ha hb;obtain⟨W0,an⟩:=ex (((w.alloc (G #[E s,C a la ca] 48)).alloc (G #[E t,C b lb cb] 48)).alloc (G #[E false,C none 0 0,E false,C none 0 0] 50));have Qp:=Z an;rw[an]at M0;have X:=Z M0;clear M0 ha hb an;go_enter func100,ntmps100
 go_upto_region 1 with fail
 rw[Qp.o];clear Qp;obtain⟨s1,a1,l1,c1,n1,i1⟩:=X.o.int (i:=0) J;have Qr:=n1.ka;obtain⟨s2,a2,l2,c2,n2,i2⟩:=X.o.int (i:=1) J;have Qs:=n2.ka;go_upto_region 2 with(go_at_call 95;refine(LJ _ _ x y _ i1 i2 (by have:=U.o.words;omega) (by have:=W.o.words;omega)).mono ?_;rintro e w1 ⟨u,rfl,m,hb⟩;obtain⟨df,bg,cn,bj,rfl⟩:=Jk.form2 m)
 obtain⟨V3,l⟩:=ex (w1.alloc (G #[E df,C bg cn bj] 48));obtain⟨B3,am⟩:=ex (w1.heap.size);have j:DJ w (w1.alloc (G #[E df,C bg cn bj] 48)) [some (w.heap.size,.int x),some (w.heap.size+1,.int y),some (w.heap.size+1+1,.rat 0),some (w1.heap.size,.int (((Int.gcd x y:Nat):Int)))]:=DJ.push (X.o.below hb) (.int (((Int.gcd x y:Nat):Int))) m;rw[l,am]at j;rw[l];rw[am];have n:=Z (j);clear X;clear j l am;clear n1 Qr i1 n2 Qs i2 m hb;have T:=Z (Sok.gcd U.o W.o);by_cases hn:y<0
 . have B:=Z hn;clear hn;obtain⟨s4,a4,l4,c4,n4,i4⟩:=n.o.int (i:=1) J;have Qt:=n4.ka;have g:=Z (KC _ _ y 0 V3 i4 (EX _));rw[show XU y 0=-1 from by unfold XU;rw[BF B.o]]at g;go_upto_region 3 with(go_at_call 47;refine g.o.mono ?_;rintro e p ⟨rfl,R⟩)
   have M3:=Z (n.o.below R);clear n;clear n4 Qt i4 g R;obtain⟨s5,a5,l5,c5,n5,i5⟩:=M3.o.int (i:=3) J;have Qq:=n5.ka;go_upto_region 4 with(go_at_call 93;refine(RZ _ _ 0 (((Int.gcd x y:Nat):Int)) _ (EX _) i5 (by have:=Sok.zero.words;omega) (by have:=T.o.words;omega)).mono ?_;rintro e w6 ⟨u6,rfl,az,ae⟩;obtain⟨dh,bi,co,bm,rfl⟩:=Jk.form2 az;have Qq:=(n5.below ae).ka;have Qv:=(n5.below ae).fa)
   obtain⟨M,l⟩:=ex ((w6.setCell ⟨B3,0,none⟩ (E dh)).setCell ⟨B3,1,none⟩ (C bi co bm));have j:DJ w ((w6.setCell ⟨B3,0,none⟩ (E dh)).setCell ⟨B3,1,none⟩ (C bi co bm)) [some (w.heap.size,.int x),some (w.heap.size+1,.int y),some (w.heap.size+1+1,.rat 0),some (B3,.int (0-((Int.gcd x y:Nat):Int)))]:=DJ.putInt (M3.o.below ae) (i:=3) J az;rw[l]at j;rw[l];have o:=Z (j);clear M3;clear j l;clear n5 Qq i5 az ae;clear Qv;obtain⟨K,A,Qo⟩:=DZ (show(0-((Int.gcd x y:Nat):Int))≠0 by have:=L2 (x:=x) f.o;omega) (show(0-((Int.gcd x y:Nat):Int))=(if y<0 then -((Int.gcd x y:Nat):Int)else((Int.gcd x y:Nat):Int))by rw[BF B.o];omega) (show Sok (0-((Int.gcd x y:Nat):Int))by rw[Int.zero_sub];exact T.o.neg);obtain⟨s7,a7,l7,c7,n7,i7⟩:=o.o.int (i:=0) J;have Qm:=n7.ka;obtain⟨s8,a8,l8,c8,n8,i8⟩:=o.o.int (i:=1) J;have Ql:=n8.ka;obtain⟨s9,a9,l9,c9,n9,i9⟩:=o.o.int (i:=3) J;have Qn:=n9.ka;obtain⟨je,gy,ja,ie,jh,b10,iy,ij,c,r10,ir,iw⟩:=o.o.rat (i:=2) J;have Qa:=c.kb;have Qe:=c.fb;obtain⟨q,r,z⟩:=DZ (λ(V:H) (h:Bl M V)=>Hz _ _ x ((0-((Int.gcd x y:Nat):Int))) V (i7.below h) (i9.below h) K.o U.o Qo.o) (λ(V:H) (h:Bl M V)=>Hz _ _ y ((0-((Int.gcd x y:Nat):Int))) V (i8.below h) (i9.below h) K.o W.o Qo.o) λ(V:H) (u v:D) (m:Jk V u (x/(0-((Int.gcd x y:Nat):Int)))) (hv:Jk V v (y/(0-((Int.gcd x y:Nat):Int))))=>Oo u v (yB x y) V (by rw[UQ f.o,<-A.o];exact m) (by rw[UR f.o,<-A.o];exact hv);have Qu:=o.o.ne 3 2 J J DK;have hq:Bl M M.drew:=(BB _ M).drew;go_region_held3 (λw'=>(w'.cell? ⟨w.heap.size,0,none⟩=some (E s7)/\w'.cell? ⟨w.heap.size,1,none⟩=some (C a7 l7 c7))/\(w'.cell? ⟨w.heap.size+1,0,none⟩=some (E s8)/\w'.cell? ⟨w.heap.size+1,1,none⟩=some (C a8 l8 c8))/\w'.cell? ⟨B3,0,none⟩=some (E s9)/\w'.cell? ⟨B3,1,none⟩=some (C a9 l9 c9)) (first|grind|(go_keep;done)|grind[JO])
    (first
     |(go_at_call 96;refine(q.o _ hq).mono ?_;clear q;rintro e w2 ⟨u2,rfl,k,ap⟩;have hq:=Bt hq ap;have Qm:=(n7.below hq).ka;have Ql:=(n8.below hq).ka;have Qn:=(n9.below hq).ka;have Qa:=(c.below hq).kb;have Qe:=(c.below hq).fb)
     |(go_at_call 96;refine(r.o _ hq).mono ?_;clear r;rintro e w3 ⟨u3,rfl,ay,Q⟩;have k:=k.below Q;have hq:=Bt hq Q;have Qm:=(n7.below hq).ka;have Ql:=(n8.below hq).ka;have Qn:=(n9.below hq).ka;have Qa:=(c.below hq).kb;have Qe:=(c.below hq).fb)
     |(go_at_call 97;refine(z.o _ _ _ k ay).mono ?_;clear z;rintro e w4 ⟨u4,rfl,S,aq⟩;obtain⟨gv,dx,gj,fg,gw,dz,fo,fh,rfl⟩:=Jf.form S;have hq:=Bt hq aq;have Qm:=(n7.below hq).ka;have Ql:=(n8.below hq).ka;have Qn:=(n9.below hq).ka;have Qa:=(c.below hq).kb;have Qe:=(c.below hq).fb))
   all_goals go_wp2_with fail
   have Qk:=Bt o.o.2.2 hq;exact BA (by simp[results,results100,go_sem,Qa]) J ⟨_,J,S.put4 (c.below hq) J J J J _ _ _ _,Jw Qk O _ _ _ _⟩
 . have B:=Z hn;clear hn;obtain⟨jf,ia,jb,ig,de,bz⟩:=n.o.int (i:=1) J;have Qj:=de.ka;have g:=Z (KC _ _ y 0 V3 bz (EX _));rw[show XU y 0=1 from by have h1:=B.o;have h2:=f.o;unfold XU;omega]at g;go_upto_region 4 with(go_at_call 47;refine g.o.mono ?_;rintro e p ⟨rfl,R⟩)
   have M3:=Z (n.o.below R);clear n;clear de Qj bz g R;have K:=Z (show((Int.gcd x y:Nat):Int)≠0 by have:=L2 (x:=x) f.o;omega);have A:=Z (show((Int.gcd x y:Nat):Int)=(if y<0 then -((Int.gcd x y:Nat):Int)else((Int.gcd x y:Nat):Int))by rw[BE (by have:=B.o;omega)]);obtain⟨gq,di,fx,ed,ah,fi⟩:=M3.o.int (i:=0) J;have Qc:=ah.ka;obtain⟨gr,dj,gh,ei,ai,fm⟩:=M3.o.int (i:=1) J;have Qf:=ai.ka;obtain⟨gu,dt,gi,f9,aj,cj⟩:=M3.o.int (i:=3) J;have Qh:=aj.ka;obtain⟨jg,ib,jc,ii,ji,ic,iz,io,d,jd,iu,ix⟩:=M3.o.rat (i:=2) J;have Qb:=d.kb;have Qg:=d.fb;obtain⟨q,r,z⟩:=DZ (λ(V:H) (h:Bl p V)=>Hz _ _ x (((Int.gcd x y:Nat):Int)) V (fi.below h) (cj.below h) K.o U.o T.o) (λ(V:H) (h:Bl p V)=>Hz _ _ y (((Int.gcd x y:Nat):Int)) V (fm.below h) (cj.below h) K.o W.o T.o) λ(V:H) (u v:D) (m:Jk V u (x/((Int.gcd x y:Nat):Int))) (hv:Jk V v (y/((Int.gcd x y:Nat):Int)))=>Oo u v (yB x y) V (by rw[UQ f.o,<-A.o];exact m) (by rw[UR f.o,<-A.o];exact hv);have Qu:=M3.o.ne 3 2 J J DK;have hq:Bl p p.drew:=(BB _ p).drew;go_region_held3 (λw'=>(w'.cell? ⟨w.heap.size,0,none⟩=some (E gq)/\w'.cell? ⟨w.heap.size,1,none⟩=some (C di fx ed))/\(w'.cell? ⟨w.heap.size+1,0,none⟩=some (E gr)/\w'.cell? ⟨w.heap.size+1,1,none⟩=some (C dj gh ei))/\w'.cell? ⟨B3,0,none⟩=some (E gu)/\w'.cell? ⟨B3,1,none⟩=some (C dt gi f9)) (first|grind|(go_keep;done)|grind[JO])
    (first
     |(go_at_call 96;refine(q.o _ hq).mono ?_;clear q;rintro e w2 ⟨u2,rfl,k,ap⟩;have hq:=Bt hq ap;have Qc:=(ah.below hq).ka;have Qf:=(ai.below hq).ka;have Qh:=(aj.below hq).ka;have Qb:=(d.below hq).kb;have Qg:=(d.below hq).fb)
     |(go_at_call 96;refine(r.o _ hq).mono ?_;clear r;rintro e w3 ⟨u3,rfl,ay,Q⟩;have k:=k.below Q;have hq:=Bt hq Q;have Qc:=(ah.below hq).ka;have Qf:=(ai.below hq).ka;have Qh:=(aj.below hq).ka;have Qb:=(d.below hq).kb;have Qg:=(d.below hq).fb)
     |(go_at_call 97;refine(z.o _ _ _ k ay).mono ?_;clear z;rintro e w4 ⟨u4,rfl,S,aq⟩;obtain⟨gv,dx,gj,fg,gw,dz,fo,fh,rfl⟩:=Jf.form S;have hq:=Bt hq aq;have Qc:=(ah.below hq).ka;have Qf:=(ai.below hq).ka;have Qh:=(aj.below hq).ka;have Qb:=(d.below hq).kb;have Qg:=(d.below hq).fb))
   all_goals go_wp2_with fail
   have Qk:=Bt M3.o.2.2 hq;exact BA (by simp[results,results100,go_sem,Qb]) J ⟨_,J,S.put4 (d.below hq) J J J J _ _ _ _,Jw Qk O _ _ _ _⟩
def Oq(w:H)(s t i t':Bool)(a b a' e:om)(l c k d l' c' g f:Nat)(p q:Rat)(hp:Jf w (P #[E s,C a l c,E t,C b k d]) p)(hq:Jf w (P #[E i,C a' l' c',E t',C e g f]) q):
 DJ w (((w.alloc (G #[E s,C a l c,E t,C b k d] 50)).alloc (G #[E i,C a' l' c',E t',C e g f] 50)).alloc (G #[E false,C none 0 0,E false,C none 0 0] 50)) [some (w.heap.size,.rat p),some (w.heap.size+1,.rat q),some (w.heap.size+1+1,.rat 0)]:=by
 have h:=(((DJ.nil w).push (.rat p) hp).push (.rat q) (hq.below (Ba w _))).push (.rat 0) (XF _);rw[Ax,Ax,Ax]at h;exact h
def mA(w:H)(s t i t':Bool)(a b a' e:om)(l c k d l' c' g f:Nat)(p q:Rat)(hp:Jf w (P #[E s,C a l c,E t,C b k d]) p)(hq:Jf w (P #[E i,C a' l' c',E t',C e g f]) q):
 DJ w ((w.alloc (G #[E s,C a l c,E t,C b k d] 50)).alloc (G #[E i,C a' l' c',E t',C e g f] 50)) [some (w.heap.size,.rat p),some (w.heap.size+1,.rat q)]:=by
 have h:=((DJ.nil w).push (.rat p) hp).push (.rat q) (hq.below (Ba w _));rw[Ax]at h;exact h
def Ot{q:Rat}(h:q.den=1):q=(q.num:Rat):=Rat.ext J h
def mB{p q:Rat}(hp:p.den=1)(hq:q.den=1):(p+q).num=p.num+q.num/\(p+q).den=1:=by
 have h:p+q=((p.num+q.num:Int):Rat):=by rw[FC,<-Ot hp,<-Ot hq]
 rw[h];exact⟨J,J⟩
def mC{p q:Rat}(hp:p.den=1)(hq:q.den=1):(p*q).num=p.num*q.num/\(p*q).den=1:=by
 have h:p*q=((p.num*q.num:Int):Rat):=by rw[AD,<-Ot hp,<-Ot hq]
 rw[h];exact⟨J,J⟩
def mD(p q:Rat)(hp:Sq p)(hq:Sq q)(a lf rt ab b:Int)(c:((Int.gcd (p.den:Int) (q.den:Int):Nat):Int)=a)(j:(p.den:Int)/a=lf)(k:(q.den:Int)/a=rt)(l:p.num*rt+q.num*lf=ab)(d:((Int.gcd ab a:Nat):Int)=b):
 Sok a/\a≠0/\Sok lf/\Sok rt/\Sok ab/\Sok b/\b≠0/\Sok (p.num*rt)/\Sok (q.num*lf)/\(p+q).num=ab/b/\((p+q).den:Int)=lf*(q.den/b):=by
 have hl:=gM p q a lf rt ab b c.symm j.symm k.symm l.symm d.symm;have f:a≠0:=by rw[<-c];have:=L2 (x:=(p.den:Int)) (y:=q.den) (by have:=q.den_nz;omega);omega
 have sc:Sok a:=by rw[<-c];exact hp.den.gcd hq.den
 have i:Sm 1000000000 lf:=by rw[<-j];exact hp.sm.2.div
 have g:Sm 1000000000 rt:=by rw[<-k];exact hq.sm.2.div
 have m:=hp.sm.1.mul g;have n:=hq.sm.1.mul i;have e:Sok ab:=by rw[<-l];exact Sok.of (m.add n) O
 refine⟨sc,f,Sok.of i O,Sok.of g O,e,by rw[<-d];exact e.gcd sc,?_,Sok.of m O,Sok.of n O,hl.1,hl.2⟩;rw[<-d];have:=L2 (x:=ab) f;omega
theorem LK(va vb:D)(p q:Rat)(w:H)(ha:Jf w va p)(hb:Jf w vb q)(dt:Sq p)(dx:Sq q):
 F I 43 #[va,vb] w λe w'=>∃u,e=.returned u/\Jf w' u (p+q)/\Bl w w':=by
 obtain⟨s,a,l,c,t,b,k,d,rfl⟩:=Jf.form ha;obtain⟨s',a',l',c',t',b',k',d',rfl⟩:=Jf.form hb;have M0:=Oq w s t s' t' a b a' b' l c k d l' c' k' d' p q ha hb;obtain⟨W0,bg⟩:=ex (((w.alloc (G #[E s,C a l c,E t,C b k d] 50)).alloc (G #[E s',C a' l' c',E t',C b' k' d'] 50)).alloc (G #[E false,C none 0 0,E false,C none 0 0] 50));have Qo:=Z bg;rw[bg]at M0;obtain⟨M1,HP,A⟩:=DZ M0 dt dx;clear M0 ha hb bg dt dx;go_enter func43,ntmps43
 go_upto_region 1 with fail
 rw[Qo.o];clear Qo;obtain⟨bb,df⟩:=ex (decide (p.den=1/\q.den=1):Bool);have Qh:=Z df;clear df;go_cut [15] λc w'=>c=E bb/\Hid (DJ w w' [some (w.heap.size,.rat p),some (w.heap.size+1,.rat q),some (w.heap.size+1+1,.rat 0)])
 case first=>
  obtain⟨s1,a1,l1,c1,t1,b1,k1,d1,n1,r1,i1,j1⟩:=M1.o.rat (i:=0) J;have Qv:=n1.kb;obtain⟨s2,a2,l2,c2,t2,b2,k2,d2,n2,r2,i2,j2⟩:=M1.o.rat (i:=1) J;have Qx:=n2.kb;have z:=Z (Kj _ p W0 r1);have R:=Z λ(V:H) (h:Bl W0 V)=>Kj _ q V (r2.below h);by_cases M:p.den=1
  . rw[BI M]at z;obtain⟨b2,Q⟩:=ex (decide (q.den=1));rw[Q]at R;have Qk:=Z (show b2=bb by rw[<-Q,<-Qh.o];exact Bz.2 ⟨λh=>⟨M,h⟩,λh=>h.2⟩);clear Q M;go_wp2_with(first
     |(go_at_call 46;refine z.o.mono ?_;clear z;rintro e w1 ⟨rfl,U⟩;have Qv:=(n1.below U).kb;have Qx:=(n2.below U).kb)
     |(go_at_call 46;refine(R.o _ U).mono ?_;clear R;rintro e w2 ⟨rfl,Q⟩))
    go_meet
    case rel=>exact⟨by rw[Qk.o],Z ((M1.o.below U).below Q)⟩
  . rw[BK M]at z;have Qk:=Z (show bb=false by rw[<-Qh.o];exact BK λh=>M h.1);clear M;go_wp2_with(go_at_call 46;refine z.o.mono ?_;clear z;rintro e w1 ⟨rfl,U⟩)
    go_meet
    case rel=>exact⟨by rw[Qk.o],Z (M1.o.below U)⟩
 obtain⟨rfl,g⟩:=hcut;have S:=g;clear M1 g;cases bb with
 |true=>
  have Qi:=BW Qh.o;have HW:=Z (mB Qi.1 Qi.2);clear Qi Qh;obtain⟨s3,a3,l3,c3,t3,b3,k3,d3,n3,r3,i3,j3⟩:=S.o.rat (i:=0) J;have jb:=n3.kb;obtain⟨s4,a4,l4,c4,t4,b4,k4,d4,n4,r4,i4,j4⟩:=S.o.rat (i:=1) J;have jc:=n4.kb;obtain⟨s5,a5,l5,c5,t5,b5,k5,d5,n5,r5,i5,j5⟩:=S.o.rat (i:=2) J;have Qt:=n5.kb;have Qz:=n5.fb;go_wp2_with(go_at_call 94;refine(OX _ _ p.num q.num _ i3 i4 (by have:=HP.o.num.words;omega) (by have:=A.o.num.words;omega)).mono ?_;rintro e w1 ⟨u,rfl,o,hq⟩;obtain⟨bj,aj,bi,am,rfl⟩:=Jk.form2 o;have Qt:=(n5.below hq).kb;have Qz:=(n5.below hq).fb)
  have hr:=Jf.mk (by rw[HW.o.1];exact o) (by rw[OL.2 HW.o.2];exact EX _);have Ql:=Bt S.o.2.2 hq;exact BA (by simp[results,results43,go_sem,Qt]) J ⟨_,J,hr.put4 (n5.below hq) J J J J _ _ _ _,Jw Ql O _ _ _ _⟩
 |false=>
  clear Qh;obtain⟨m,dh⟩:=ex (((Int.gcd (p.den:Int) (q.den:Int):Nat):Int):Int);have Qs:=Z dh;clear dh;obtain⟨lf,di⟩:=ex ((p.den:Int)/m:Int);have Qq:=Z di;clear di;obtain⟨rt,dj⟩:=ex ((q.den:Int)/m:Int);have Qn:=Z dj;clear dj;obtain⟨ab,bz⟩:=ex (p.num*rt+q.num*lf:Int);have Qr:=Z bz;clear bz;obtain⟨x,cj⟩:=ex (((Int.gcd ab m:Nat):Int):Int);have Qp:=Z cj;clear cj;obtain⟨S1,S2,S3,S4,S5,S6,S7,S8,S9,bn,bu⟩:=mD p q HP.o A.o m lf rt ab x Qs.o Qq.o Qn.o Qr.o Qp.o;obtain⟨T1,T2,T3,T4,T5,T6,T7,T8⟩:=Iv S1 S2 S3 S4 S5 S6 S7 S8;obtain⟨T9,Qy,Qw⟩:=DZ S9 bn bu;clear S1 S2 S3 S4 S5 S6 S7 S8 S9 bn bu;go_upto_region 3 with fail
  refine YD Di [[],[0],[],[2,1],[1,3,3],[],[5,4,4,0,1,2,3,4,5]] [.rat p,.int ((p.den:Int)),.rat q,.int ((q.den:Int)),.int m,.ptr,.eq N] [5,6] (λb v V=>DJ w V [some (w.heap.size,.rat p),some (w.heap.size+1,.rat q),some (w.heap.size+1+1,.rat 0),nb b v 0 1 (.int 0) (.int m)]) (S.o.none).drew (SR (.vl J λ_ j=>Ej 0 j)<|SR (.cl λh _=>GL _ p _ (h.g 0))<|SR (.vl J λ_ j=>Ej 1 j)<|SR (.cl λh _=>GL _ q _ (h.g 2))<|SR (.cl λh _=>(by have h:=LJ _ _ (p.den:Int) (q.den:Int) _ (h.g 1) (h.g 3) (by have:=HP.o.den.words;omega) (by have:=A.o.den.words;omega);rw[Qs.o]at h;exact h))<|SR (.wr J λ_ j=>Gp 3 j)<|SR (.wr J λh j=>E0 3 j (h.g 4) (hp:=h.g 5)) Stp.end_)
   λf V7 hF g=>?_
  refine DP ?_;obtain⟨B8,ay⟩:=hF.p 5;have g:=Dw g;simp only[ay]at g;rw[ay];have M3:=Z g;clear g hF ay;clear S;go_upto_region 4 with fail
  refine YD Di [[],[0],[],[1,2,1],[],[4,3],[],[5,6,5],[],[],[8,3,7,0,1,2,3,8,9],[9,7,10,0,1,2,3,4,5,6,7,8,9,10]] [.rat p,.int ((p.den:Int)),.int m,.int lf,.rat q,.int ((q.den:Int)),.int m,.int rt,.ptr,.ptr,.eq N,.eq N] [8,9,10,11] (λb v V=>DJ w V [some (w.heap.size,.rat p),some (w.heap.size+1,.rat q),some (w.heap.size+1+1,.rat 0),some (B8,.int m),nb b v 0 2 (.int 0) (.int lf),nb b v 1 3 (.int 0) (.int rt)]) ((M3.o.none).none).drew (SR (.vl J λ_ j=>Ej 0 j)<|SR (.cl λh _=>GL _ p _ (h.g 0))<|SR (.vl J λ_ j=>GD 3 j)<|SR (.cl λh _=>(by have h:=Hz _ _ (p.den:Int) m _ (h.g 1) (h.g 2) T2.o HP.o.den T1.o;rw[Qq.o]at h;exact h))<|SR (.vl J λ_ j=>Ej 1 j)<|SR (.cl λh _=>GL _ q _ (h.g 4))<|SR (.vl J λ_ j=>GD 3 j)<|SR (.cl λh _=>(by have h:=Hz _ _ (q.den:Int) m _ (h.g 5) (h.g 6) T2.o A.o.den T1.o;rw[Qn.o]at h;exact h))<|SR (.wr J λ_ j=>Gp 4 j)<|SR (.wr J λ_ j=>Gp 5 j)<|SR (.wr J λh j=>E0 4 j (h.g 3) (hp:=h.g 8))<|SR (.wr J λh j=>E0 5 j (h.g 7) (hp:=h.g 9)) Stp.end_)
   λf jd hF g=>?_
  refine DP ?_;obtain⟨B11,an⟩:=hF.p 8;obtain⟨B12,ap⟩:=hF.p 9;have g:=Dw g;simp only[an,ap]at g;rw[an,ap];have M4:=Z g;clear g hF an ap;clear M3;go_upto_region 5 with fail
  refine YD Di [[],[0],[],[1,2],[],[4],[],[5,6,3],[3,7,7],[],[9,8,8,0,1,2,3,4,5,6,7,8,9]] [.eq (L (some ⟨w.heap.size,0,none⟩)),.int (Rat.num (p)),.int rt,.int (p.num*rt),.eq (L (some ⟨w.heap.size+1,0,none⟩)),.int (Rat.num (q)),.int lf,.int (q.num*lf),.int ab,.ptr,.eq N] [9,10] (λb v V=>DJ w V [some (w.heap.size,.rat p),some (w.heap.size+1,.rat q),some (w.heap.size+1+1,.rat 0),some (B8,.int m),some (B11,.int lf),some (B12,.int rt),nb b v 0 1 (.int 0) (.int ab)]) (M4.o.none).drew (SR (.vl J λ_ _=>⟨_,by refine DP ?_;go_simp,J⟩)<|SR (.vl J λh j=>L0 0 j (hp:=h.e 0))<|SR (.vl J λ_ j=>GD 5 j)<|SR (.cl λh _=>YY _ _ p.num rt _ (h.g 1) (h.g 2) (by have:=HP.o.num.words;have:=T4.o.words;omega))<|SR (.vl J λ_ _=>⟨_,by refine DP ?_;go_simp,J⟩)<|SR (.vl J λh j=>L0 1 j (hp:=h.e 4))<|SR (.vl J λ_ j=>GD 4 j)<|SR (.cl λh _=>YY _ _ q.num lf _ (h.g 5) (h.g 6) (by have:=A.o.num.words;have:=T3.o.words;omega))<|SR (.cl λh _=>(by have h:=OX _ _ (p.num*rt) (q.num*lf) _ (h.g 3) (h.g 7) (by have:=T8.o.words;omega) (by have:=T9.o.words;omega);rw[Qr.o]at h;exact h))<|SR (.wr J λ_ j=>Gp 6 j)<|SR (.wr J λh j=>E0 6 j (h.g 8) (hp:=h.g 9)) Stp.end_)
   λf fi hF g=>?_
  refine DP ?_;rw[hF.e 0,hF.e 4];obtain⟨ai,aq⟩:=hF.p 9;have g:=Dw g;simp only[aq]at g;rw[aq];have M5:=Z g;clear g hF aq;clear M4;go_upto_region 6 with fail
  obtain⟨kj,je,jy,jk,fg,ed⟩:=M5.o.int (i:=6) J;have Qj:=fg.ka;obtain⟨km,jf,jz,jl,fh,ei⟩:=M5.o.int (i:=3) J;have Qm:=fh.ka;have HC:=Z (LJ _ _ ab m fi ed ei (by have:=T5.o.words;omega) (by have:=T1.o.words;omega));rw[Qp.o]at HC;go_upto_region 7 with(go_at_call 95;refine HC.o.mono ?_;clear HC;rintro e w1 ⟨u,rfl,o,hb⟩;obtain⟨bj,aj,bi,am,rfl⟩:=Jk.form2 o)
  obtain⟨K,hV⟩:=ex (w1.alloc (G #[E bj,C aj bi am] 48));obtain⟨bm,az⟩:=ex (w1.heap.size);have g:DJ w (w1.alloc (G #[E bj,C aj bi am] 48)) [some (w.heap.size,.rat p),some (w.heap.size+1,.rat q),some (w.heap.size+1+1,.rat 0),some (B8,.int m),some (B11,.int lf),some (B12,.int rt),some (ai,.int ab),some (w1.heap.size,.int x)]:=DJ.push (M5.o.below hb) (.int x) o;rw[hV,az]at g;rw[hV];rw[az];have r:=Z (g);clear M5;clear g hV az;clear fg Qj ed fh Qm ei o hb;obtain⟨iw,fm,ii,gj,W,ic⟩:=r.o.int (i:=6) J;have Qe:=W.ka;obtain⟨ix,fo,ij,gq,X,f9⟩:=r.o.int (i:=7) J;have Qb:=X.ka;obtain⟨iy,fx,io,gr,ae,ie⟩:=r.o.int (i:=4) J;have Qf:=ae.ka;obtain⟨iz,gh,ir,gu,ja,gi,ig,gv,ah,iu,jr,jt⟩:=r.o.rat (i:=1) J;have Qc:=ah.kb;obtain⟨kn,jg,kc,jn,kq,ji,jw,jp,n,ki,js,ju⟩:=r.o.rat (i:=2) J;have T:=n.kb;have Qd:=n.fb;obtain⟨z,R,H3,H4,H5⟩:=Hv (λ(V:H) (h:Bl K V)=>Hz _ _ ab x V (ic.below h) (f9.below h) T7.o T5.o T6.o) (λ(V:H) (h:Bl K V)=>GL _ q V (iu.below h)) (λ(V:H) (u:D) (h:Bl K V) (o:Jk V u (q.den:Int))=>Hz u _ (q.den:Int) x V o (f9.below h) T7.o A.o.den T6.o) (λ(V:H) (u:D) (h:Bl K V) (o:Jk V u ((q.den:Int)/x))=>YY _ u lf ((q.den:Int)/x) V (ie.below h) o (by have M:=T3.o.words;have h2:=(Sok.div (y:=x) A.o.den).words;omega)) λ(V:H) (u v:D) (o:Jk V u (ab/x)) (hv:Jk V v (lf*((q.den:Int)/x)))=>Oo u v (p+q) V (by rw[Qy.o];exact o) (by rw[Qw.o];exact hv);have kg:=r.o.ne 6 2 J J DK;have kh:=r.o.ne 7 2 J J DK;have kf:=r.o.ne 4 2 J J DK;have ke:=r.o.ne 1 2 J J DK;have hq:Bl K K.drew:=(BB _ K).drew;go_region_held3 (λw'=>(w'.cell? ⟨ai,0,none⟩=some (E iw)/\w'.cell? ⟨ai,1,none⟩=some (C fm ii gj))/\(w'.cell? ⟨bm,0,none⟩=some (E ix)/\w'.cell? ⟨bm,1,none⟩=some (C fo ij gq))/\(w'.cell? ⟨B11,0,none⟩=some (E iy)/\w'.cell? ⟨B11,1,none⟩=some (C fx io gr))/\w'.cell? ⟨w.heap.size+1,0,none⟩=some (E iz)/\w'.cell? ⟨w.heap.size+1,1,none⟩=some (C gh ir gu)/\w'.cell? ⟨w.heap.size+1,2,none⟩=some (E ja)/\w'.cell? ⟨w.heap.size+1,3,none⟩=some (C gi ig gv)) (first|grind|(go_keep;done)|((repeat' apply Ao)<;>((repeat rw[JO O]);grind)))
   (first
    |(go_at_call 96;refine(z.o _ hq).mono ?_;clear z;rintro e w2 ⟨u2,rfl,B,Q⟩;have hq:=Bt hq Q;have Qe:=(W.below hq).ka;have Qb:=(X.below hq).ka;have Qf:=(ae.below hq).ka;have Qc:=(ah.below hq).kb;have T:=(n.below hq).kb;have Qd:=(n.below hq).fb)
    |(go_at_call 49;refine(R.o _ hq).mono ?_;clear R;rintro e w3 ⟨u3,rfl,gy,cn⟩;have B:=B.below cn;have hq:=Bt hq cn;have Qe:=(W.below hq).ka;have Qb:=(X.below hq).ka;have Qf:=(ae.below hq).ka;have Qc:=(ah.below hq).kb;have T:=(n.below hq).kb;have Qd:=(n.below hq).fb)
    |(go_at_call 96;refine(H3.o _ _ hq gy).mono ?_;clear H3;rintro e w4 ⟨u4,rfl,ia,co⟩;have B:=B.below co;have hq:=Bt hq co;have Qe:=(W.below hq).ka;have Qb:=(X.below hq).ka;have Qf:=(ae.below hq).ka;have Qc:=(ah.below hq).kb;have T:=(n.below hq).kb;have Qd:=(n.below hq).fb)
    |(go_at_call 48;refine(H4.o _ _ hq ia).mono ?_;clear H4;rintro e w5 ⟨u5,rfl,ib,de⟩;have B:=B.below de;have hq:=Bt hq de;have Qe:=(W.below hq).ka;have Qb:=(X.below hq).ka;have Qf:=(ae.below hq).ka;have Qc:=(ah.below hq).kb;have T:=(n.below hq).kb;have Qd:=(n.below hq).fb)
    |(go_at_call 97;refine(H5.o _ _ _ B ib).mono ?_;clear H5;rintro e w6 ⟨u6,rfl,dz,gw⟩;obtain⟨ko,jh,kd,jo,kt,jj,jx,jq,rfl⟩:=Jf.form dz;have hq:=Bt hq gw;have Qe:=(W.below hq).ka;have Qb:=(X.below hq).ka;have Qf:=(ae.below hq).ka;have Qc:=(ah.below hq).kb;have T:=(n.below hq).kb;have Qd:=(n.below hq).fb))
  all_goals go_wp2_with fail
  have Ql:=Bt r.o.2.2 hq;have Qu:=r.o.ge 2 J;exact BA (by simp[results,results43,go_sem,T]) J ⟨_,J,dz.put4 (n.below hq) J J J J _ _ _ _,Jw Ql Qu _ _ _ _⟩
def mE(p q:Rat)(hp:Sq p)(hq:Sq q)(a up x y:Int)(b:((Int.gcd p.num (q.den:Int):Nat):Int)=a)(c:((Int.gcd q.num (p.den:Int):Nat):Int)=up)(d:p.num/a=x)(e:q.num/up=y):
 Sok a/\a≠0/\Sok up/\up≠0/\Sok x/\Sok y/\(p*q).num=x*y/\((p*q).den:Int)=p.den/up*(q.den/a):=by
 have hl:=gN p q a up b.symm c.symm;have g:a≠0:=by rw[<-b];have:=L2 (x:=p.num) (y:=q.den) (by have:=q.den_nz;omega);omega
 have f:up≠0:=by rw[<-c];have:=L2 (x:=q.num) (y:=p.den) (by have:=p.den_nz;omega);omega
 refine⟨by rw[<-b];exact hp.num.gcd hq.den,g,by rw[<-c];exact hq.num.gcd hp.den,f,by rw[<-d];exact hp.num.div,by rw[<-e];exact hq.num.div,?_,hl.2⟩;rw[hl.1,d,e]
theorem LL(va vb:D)(p q:Rat)(w:H)(ha:Jf w va p)(hb:Jf w vb q)(bn:Sq p)(bu:Sq q):
 F I 179 #[va,vb] w λe w'=>∃u,e=.returned u/\Jf w' u (p*q)/\Bl w w':=by
 obtain⟨s,a,l,c,t,b,k,d,rfl⟩:=Jf.form ha;obtain⟨s',a',l',c',t',b',k',d',rfl⟩:=Jf.form hb;have M0:=Oq w s t s' t' a b a' b' l c k d l' c' k' d' p q ha hb;obtain⟨W0,ay⟩:=ex (((w.alloc (G #[E s,C a l c,E t,C b k d] 50)).alloc (G #[E s',C a' l' c',E t',C b' k' d'] 50)).alloc (G #[E false,C none 0 0,E false,C none 0 0] 50));have Ql:=Z ay;rw[ay]at M0;obtain⟨M1,K,M⟩:=DZ M0 bn bu;clear M0 ha hb ay bn bu;go_enter func179,ntmps179
 go_upto_region 1 with fail
 rw[Ql.o];clear Ql;obtain⟨bb,bj⟩:=ex (decide (p.den=1/\q.den=1):Bool);have Qh:=Z bj;clear bj;go_cut [13] λc w'=>c=E bb/\Hid (DJ w w' [some (w.heap.size,.rat p),some (w.heap.size+1,.rat q),some (w.heap.size+1+1,.rat 0)])
 case first=>
  obtain⟨s1,a1,l1,c1,t1,b1,k1,d1,n1,r1,i1,j1⟩:=M1.o.rat (i:=0) J;have Qr:=n1.kb;obtain⟨s2,a2,l2,c2,t2,b2,k2,d2,n2,r2,i2,j2⟩:=M1.o.rat (i:=1) J;have Qs:=n2.kb;have H1:=Z (Kj _ p W0 r1);have H2:=Z λ(V:H) (h:Bl W0 V)=>Kj _ q V (r2.below h);by_cases B:p.den=1
  . rw[BI B]at H1;obtain⟨b2,S⟩:=ex (decide (q.den=1));rw[S]at H2;have Qj:=Z (show b2=bb by rw[<-S,<-Qh.o];exact Bz.2 ⟨λh=>⟨B,h⟩,λh=>h.2⟩);clear S B;go_wp2_with(first
     |(go_at_call 46;refine H1.o.mono ?_;clear H1;rintro e w1 ⟨rfl,ah⟩;have Qr:=(n1.below ah).kb;have Qs:=(n2.below ah).kb)
     |(go_at_call 46;refine(H2.o _ ah).mono ?_;clear H2;rintro e w2 ⟨rfl,S⟩))
    go_meet
    case rel=>exact⟨by rw[Qj.o],Z ((M1.o.below ah).below S)⟩
  . rw[BK B]at H1;have Qj:=Z (show bb=false by rw[<-Qh.o];exact BK λh=>B h.1);clear B;go_wp2_with(go_at_call 46;refine H1.o.mono ?_;clear H1;rintro e w1 ⟨rfl,ah⟩)
    go_meet
    case rel=>exact⟨by rw[Qj.o],Z (M1.o.below ah)⟩
 obtain⟨rfl,m⟩:=hcut;have M2:=m;clear M1 m;cases bb with
 |true=>
  have Qi:=BW Qh.o;have HW:=Z (mC Qi.1 Qi.2);clear Qi Qh;obtain⟨s3,a3,l3,c3,t3,b3,k3,d3,n3,r3,i3,j3⟩:=M2.o.rat (i:=0) J;have ig:=n3.kb;obtain⟨s4,a4,l4,c4,t4,b4,k4,d4,n4,r4,i4,j4⟩:=M2.o.rat (i:=1) J;have ii:=n4.kb;obtain⟨s5,a5,l5,c5,t5,b5,k5,d5,n5,r5,i5,j5⟩:=M2.o.rat (i:=2) J;have Qp:=n5.kb;have Qt:=n5.fb;go_wp2_with(go_at_call 48;refine(YY _ _ p.num q.num _ i3 i4 (by have B:=K.o.num.words;have h2:=M.o.num.words;omega)).mono ?_;rintro e w1 ⟨u,rfl,hu,hq⟩;obtain⟨jw,io,jl,iy,rfl⟩:=Jk.form2 hu;have Qp:=(n5.below hq).kb;have Qt:=(n5.below hq).fb)
  have hr:=Jf.mk (by rw[HW.o.1];exact hu) (by rw[OL.2 HW.o.2];exact EX _);have Qk:=Bt M2.o.2.2 hq;exact BA (by simp[results,results179,go_sem,Qp]) J ⟨_,J,hr.put4 (n5.below hq) J J J J _ _ _ _,Jw Qk O _ _ _ _⟩
 |false=>
  clear Qh;obtain⟨r,bm⟩:=ex (((Int.gcd p.num (q.den:Int):Nat):Int):Int);have Qm:=Z bm;clear bm;obtain⟨up,bz⟩:=ex (((Int.gcd q.num (p.den:Int):Nat):Int):Int);have Qn:=Z bz;clear bz;obtain⟨x,hx⟩:=ex (p.num/r:Int);have HX:=Z hx;clear hx;obtain⟨y,hy⟩:=ex (q.num/up:Int);have HY:=Z hy;clear hy;obtain⟨S1,S2,S3,S4,S5,S6,S7,S8⟩:=mE p q K.o M.o r up x y Qm.o Qn.o HX.o HY.o;obtain⟨T1,T2,T3,T4,T5,T6,T7,T8⟩:=Iv S1 S2 S3 S4 S5 S6 S7 S8;clear S1 S2 S3 S4 S5 S6 S7 S8;go_upto_region 3 with fail
  refine YD Di [[],[0],[],[2],[1,3,3],[],[5],[],[7,4],[6,8,8],[],[],[10,4,9,0,1,2,3,4,10,11],[11,9,12,0,1,2,3,4,5,6,7,8,9,10,11,12]] [.eq (L (some ⟨w.heap.size,0,none⟩)),.int (Rat.num (p)),.rat q,.int ((q.den:Int)),.int r,.eq (L (some ⟨w.heap.size+1,0,none⟩)),.int (Rat.num (q)),.rat p,.int ((p.den:Int)),.int up,.ptr,.ptr,.eq N,.eq N] [10,11,12,13] (λb v V=>DJ w V [some (w.heap.size,.rat p),some (w.heap.size+1,.rat q),some (w.heap.size+1+1,.rat 0),nb b v 0 2 (.int 0) (.int r),nb b v 1 3 (.int 0) (.int up)]) ((M2.o.none).none).drew (SR (.vl J λ_ _=>⟨_,by refine DP ?_;go_simp,J⟩)<|SR (.vl J λh j=>L0 0 j (hp:=h.e 0))<|SR (.vl J λ_ j=>Ej 1 j)<|SR (.cl λh _=>GL _ q _ (h.g 2))<|SR (.cl λh _=>(by have h:=LJ _ _ p.num (q.den:Int) _ (h.g 1) (h.g 3) (by have:=K.o.num.words;omega) (by have:=M.o.den.words;omega);rw[Qm.o]at h;exact h))<|SR (.vl J λ_ _=>⟨_,by refine DP ?_;go_simp,J⟩)<|SR (.vl J λh j=>L0 1 j (hp:=h.e 5))<|SR (.vl J λ_ j=>Ej 0 j)<|SR (.cl λh _=>GL _ p _ (h.g 7))<|SR (.cl λh _=>(by have h:=LJ _ _ q.num (p.den:Int) _ (h.g 6) (h.g 8) (by have:=M.o.num.words;omega) (by have:=K.o.den.words;omega);rw[Qn.o]at h;exact h))<|SR (.wr J λ_ j=>Gp 3 j)<|SR (.wr J λ_ j=>Gp 4 j)<|SR (.wr J λh j=>E0 3 j (h.g 4) (hp:=h.g 10))<|SR (.wr J λh j=>E0 4 j (h.g 9) (hp:=h.g 11)) Stp.end_)
   λf V7 hF m=>?_
  refine DP ?_;rw[hF.e 0,hF.e 5];obtain⟨B8,ap⟩:=hF.p 10;obtain⟨B9,aq⟩:=hF.p 11;have m:=Dw m;simp only[ap,aq]at m;rw[ap,aq];have M3:=Z m;clear m hF ap aq;clear M2;go_upto_region 4 with fail
  refine YD Di [[],[0],[],[1,2],[],[4],[],[5,6,3],[3,7,7],[],[9,8,8,0,1,2,3,4,5,6,7,8,9]] [.eq (L (some ⟨w.heap.size,0,none⟩)),.int (Rat.num (p)),.int r,.int x,.eq (L (some ⟨w.heap.size+1,0,none⟩)),.int (Rat.num (q)),.int up,.int y,.int (x*y),.ptr,.eq N] [9,10] (λb v V=>DJ w V [some (w.heap.size,.rat p),some (w.heap.size+1,.rat q),some (w.heap.size+1+1,.rat 0),some (B8,.int r),some (B9,.int up),nb b v 0 1 (.int 0) (.int (x*y))]) (M3.o.none).drew (SR (.vl J λ_ _=>⟨_,by refine DP ?_;go_simp,J⟩)<|SR (.vl J λh j=>L0 0 j (hp:=h.e 0))<|SR (.vl J λ_ j=>GD 3 j)<|SR (.cl λh _=>(by have h:=Hz _ _ p.num r _ (h.g 1) (h.g 2) T2.o K.o.num T1.o;rw[HX.o]at h;exact h))<|SR (.vl J λ_ _=>⟨_,by refine DP ?_;go_simp,J⟩)<|SR (.vl J λh j=>L0 1 j (hp:=h.e 4))<|SR (.vl J λ_ j=>GD 4 j)<|SR (.cl λh _=>(by have h:=Hz _ _ q.num up _ (h.g 5) (h.g 6) T4.o M.o.num T3.o;rw[HY.o]at h;exact h))<|SR (.cl λh _=>YY _ _ x y _ (h.g 3) (h.g 7) (by have:=T5.o.words;have:=T6.o.words;omega))<|SR (.wr J λ_ j=>Gp 5 j)<|SR (.wr J λh j=>E0 5 j (h.g 8) (hp:=h.g 9)) Stp.end_)
   λf z hF m=>?_
  refine DP ?_;rw[hF.e 0,hF.e 4];obtain⟨B12,an⟩:=hF.p 9;have m:=Dw m;simp only[an]at m;rw[an];have n:=Z m;clear m hF an;clear M3;go_upto_region 5 with fail
  obtain⟨gv,cj,fx,dj,T,fg⟩:=n.o.int (i:=5) J;have Qb:=T.ka;obtain⟨gw,cn,gh,dt,ic,dh,fm,ei,U,gr,jc,jf⟩:=n.o.rat (i:=0) J;have Qf:=U.kb;obtain⟨gy,co,gi,dx,W,fh⟩:=n.o.int (i:=4) J;have Qd:=W.ka;obtain⟨ia,de,gj,dz,ie,di,fo,f9,X,gu,jd,jg⟩:=n.o.rat (i:=1) J;have Qc:=X.kb;obtain⟨ib,df,gq,ed,ae,fi⟩:=n.o.int (i:=3) J;have Qe:=ae.ka;obtain⟨ju,ij,jk,ix,jy,iu,ji,ja,g,jt,je,jh⟩:=n.o.rat (i:=2) J;have Q:=g.kb;have Qg:=g.fb;obtain⟨H2,H4,H6,H8,H9,Qo⟩:=KA (λ(V:H) (h:Bl z V)=>GL _ p V (gr.below h)) (λ(V:H) (h:Bl z V) (v2:D) (o:Jk V v2 ((p.den:Int)))=>Hz _ _ (p.den:Int) up V o (fh.below h) T4.o K.o.den T3.o) (λ(V:H) (h:Bl z V)=>GL _ q V (gu.below h)) (λ(V:H) (h:Bl z V) (v6:D) (A:Jk V v6 ((q.den:Int)))=>Hz _ _ (q.den:Int) r V A (fi.below h) T2.o M.o.den T1.o) (λ(V:H) (h:Bl z V) (v4:D) (g4:Jk V v4 ((p.den:Int)/up)) (v8:D) (R:Jk V v8 ((q.den:Int)/r))=>YY _ _ ((p.den:Int)/up) ((q.den:Int)/r) V g4 R (by have B:=(Sok.div (y:=up) K.o.den).words;have h2:=(Sok.div (y:=r) M.o.den).words;omega)) λ(V:H) (h:Bl z V) (v9:D) (g9:Jk V v9 ((p.den:Int)/up*((q.den:Int)/r)))=>Oo _ _ (p*q) V (by rw[T7.o];exact(fg.below h)) (by rw[T8.o];exact g9);have js:=n.o.ne 5 2 J J DK;have jo:=n.o.ne 0 2 J J DK;have jr:=n.o.ne 4 2 J J DK;have jp:=n.o.ne 1 2 J J DK;have jq:=n.o.ne 3 2 J J DK;have hq:Bl z z.drew:=(BB _ z).drew;go_region_held3 (λw'=>(w'.cell? ⟨B12,0,none⟩=some (E gv)/\w'.cell? ⟨B12,1,none⟩=some (C cj fx dj))/\(w'.cell? ⟨w.heap.size,0,none⟩=some (E gw)/\w'.cell? ⟨w.heap.size,1,none⟩=some (C cn gh dt)/\w'.cell? ⟨w.heap.size,2,none⟩=some (E ic)/\w'.cell? ⟨w.heap.size,3,none⟩=some (C dh fm ei))/\(w'.cell? ⟨B9,0,none⟩=some (E gy)/\w'.cell? ⟨B9,1,none⟩=some (C co gi dx))/\(w'.cell? ⟨w.heap.size+1,0,none⟩=some (E ia)/\w'.cell? ⟨w.heap.size+1,1,none⟩=some (C de gj dz)/\w'.cell? ⟨w.heap.size+1,2,none⟩=some (E ie)/\w'.cell? ⟨w.heap.size+1,3,none⟩=some (C di fo f9))/\w'.cell? ⟨B8,0,none⟩=some (E ib)/\w'.cell? ⟨B8,1,none⟩=some (C df gq ed)) (first|grind|(go_keep;done)|((repeat' apply Ao)<;>((repeat rw[JO O]);grind)))
   (first
    |(go_at_call 49;refine(H2.o _ hq ).mono ?_;clear H2;rintro e w2 ⟨v2,rfl,o,S⟩;have hq:=Bt hq S;have Qb:=(T.below hq).ka;have Qf:=(U.below hq).kb;have Qd:=(W.below hq).ka;have Qc:=(X.below hq).kb;have Qe:=(ae.below hq).ka;have Q:=(g.below hq).kb;have Qg:=(g.below hq).fb)
    |(go_at_call 96;refine(H4.o _ hq _ o).mono ?_;clear H4;rintro e w4 ⟨v4,rfl,g4,bi⟩;have o:=o.below bi;have hq:=Bt hq bi;have Qb:=(T.below hq).ka;have Qf:=(U.below hq).kb;have Qd:=(W.below hq).ka;have Qc:=(X.below hq).kb;have Qe:=(ae.below hq).ka;have Q:=(g.below hq).kb;have Qg:=(g.below hq).fb)
    |(go_at_call 49;refine(H6.o _ hq ).mono ?_;clear H6;rintro e w6 ⟨v6,rfl,A,az⟩;have o:=o.below az;have g4:=g4.below az;have hq:=Bt hq az;have Qb:=(T.below hq).ka;have Qf:=(U.below hq).kb;have Qd:=(W.below hq).ka;have Qc:=(X.below hq).kb;have Qe:=(ae.below hq).ka;have Q:=(g.below hq).kb;have Qg:=(g.below hq).fb)
    |(go_at_call 96;refine(H8.o _ hq _ A).mono ?_;clear H8;rintro e w8 ⟨v8,rfl,R,am⟩;have o:=o.below am;have g4:=g4.below am;have A:=A.below am;have hq:=Bt hq am;have Qb:=(T.below hq).ka;have Qf:=(U.below hq).kb;have Qd:=(W.below hq).ka;have Qc:=(X.below hq).kb;have Qe:=(ae.below hq).ka;have Q:=(g.below hq).kb;have Qg:=(g.below hq).fb)
    |(go_at_call 48;refine(H9.o _ hq _ g4 _ R).mono ?_;clear H9;rintro e w9 ⟨v9,rfl,g9,aj⟩;have o:=o.below aj;have g4:=g4.below aj;have A:=A.below aj;have R:=R.below aj;have hq:=Bt hq aj;have Qb:=(T.below hq).ka;have Qf:=(U.below hq).kb;have Qd:=(W.below hq).ka;have Qc:=(X.below hq).kb;have Qe:=(ae.below hq).ka;have Q:=(g.below hq).kb;have Qg:=(g.below hq).fb)
    |(go_at_call 97;refine(Qo.o _ hq _ g9).mono ?_;clear Qo;rintro e kd ⟨kc,rfl,bg,ai⟩;obtain⟨jx,ir,jn,iz,jz,iw,jj,jb,rfl⟩:=Jf.form bg;have o:=o.below ai;have g4:=g4.below ai;have A:=A.below ai;have R:=R.below ai;have g9:=g9.below ai;have hq:=Bt hq ai;have Qb:=(T.below hq).ka;have Qf:=(U.below hq).kb;have Qd:=(W.below hq).ka;have Qc:=(X.below hq).kb;have Qe:=(ae.below hq).ka;have Q:=(g.below hq).kb;have Qg:=(g.below hq).fb))
  all_goals go_wp2_with fail
  have Qk:=Bt n.o.2.2 hq;have Qq:=n.o.ge 2 J;exact BA (by simp[results,results179,go_sem,Q]) J ⟨_,J,bg.put4 (g.below hq) J J J J _ _ _ _,Jw Qk Qq _ _ _ _⟩
def Kk(R S:D)(x y:Int)(w:H)(r:Jk w R x)(hb:Jk w S y)(z:Sok x)(A:Sok y):
 F I 193 #[R,S] w λe w'=>∃u,e=.returned (.tuple #[u,E (decide (y≠0))])/\Jf w' u (yB x y)/\Bl w w':=by
 have U:=Z z;have W:=Z A;clear z A;obtain⟨s,a,la,ca,rfl⟩:=Jk.form2 r;obtain⟨t,b,lb,cb,rfl⟩:=Jk.form2 hb;have m:=Rc w s t a b la ca lb cb _ _ r hb;obtain⟨W0,q⟩:=ex (((w.alloc (G #[E s,C a la ca] 48)).alloc (G #[E t,C b lb cb] 48)).alloc (G #[E false,C none 0 0,E false,C none 0 0] 50));have v:=Z q;rw[q]at m;have f:=Z m;clear m r hb q;obtain⟨s1,a1,l1,c1,M,i1⟩:=f.o.int (i:=0) J;have Qf:=M.ka;obtain⟨s2,a2,l2,c2,Q,K⟩:=f.o.int (i:=1) J;have Qg:=Q.ka;obtain⟨s3,a3,l3,c3,t3,b3,k3,d3,d,r3,i3,j3⟩:=f.o.rat (i:=2) J;have j:=d.kb;have n:=d.fb;have k:=Z (WD _ y W0 K);have g:=Z λ(V:H) (h:Bl W0 V) (c:y≠0)=>WG _ _ x y V (i1.below h) (K.below h) c U.o W.o;by_cases c:y=0
 . rw[BI c]at k;have l:=Z (BK (p:=y≠0) λh=>h c);rw[l.o];have T:=Z (show yB x y=0 by rw[c,Rat.divInt_zero]);clear c g;go_enter func193,ntmps193
   go_upto_region 1 with fail
   rw[v.o];go_wp2_with(go_at_call 102;refine k.o.mono ?_;rintro e w1 ⟨rfl,hq⟩;have j:=(d.below hq).kb;have n:=(d.below hq).fb)
   have hr:Jf w1 (P #[E false,C none 0 0,E false,C none 0 0]) (yB x y):=by rw[T.o];exact XF _
   have o:=Bt f.o.2.2 hq;exact BA (by simp[results,results193,go_sem,j]) J ⟨_,J,hr.put4 (d.below hq) J J J J _ _ _ _,Jw o O _ _ _ _⟩
 . rw[BK c]at k;have l:=Z (BI (p:=y≠0) c);rw[l.o];have g:=Z λV h=>g.o V h c;clear c;go_enter func193,ntmps193
   go_upto_region 1 with fail
   rw[v.o];go_wp2_with(first
    |(go_at_call 102;refine k.o.mono ?_;rintro e w1 ⟨rfl,hq⟩;have Qf:=(M.below hq).ka;have Qg:=(Q.below hq).ka;have j:=(d.below hq).kb;have n:=(d.below hq).fb)
    |(go_at_call 100;refine(g.o _ hq).mono ?_;clear g;rintro e w2 ⟨u2,rfl,B,ae⟩;obtain⟨aq,ah,ap,aj,ay,ai,an,am,rfl⟩:=Jf.form B;have hq:=Bt hq ae;have j:=(d.below hq).kb;have n:=(d.below hq).fb))
   have o:=Bt f.o.2.2 hq;have X:=f.o.ge 2 J;exact BA (by simp[results,results193,go_sem,j]) J ⟨_,J,B.put4 (d.below hq) J J J J _ _ _ _,Jw o X _ _ _ _⟩
def mF(p q:Rat):decide ((p.den:Int)*q.num≠0)=decide (q≠0):=by
 refine Bz.2 (not_congr ⟨λh=>?_,λh=>?_⟩)
 . rcases Int.mul_eq_zero.1 h with h|h
   . have:=p.den_nz;omega
   . exact FQ.1 h
 . rw[h];exact F0 _
theorem Re(va vb:D)(p q:Rat)(w:H)(S:Jf w va p)(hb:Jf w vb q)(ai:Sq p)(aj:Sq q):
 F I 177 #[va,vb] w λe w'=>∃u,e=.returned (.tuple #[u,E (decide (q≠0))])/\Jf w' u (p/q)/\Bl w w':=by
 obtain⟨bq,U⟩:=ex (decide (q≠0));have Qh:=Z ((mF p q).trans U);rw[U];clear U;obtain⟨s,a,l,c,t,b,k,d,rfl⟩:=Jf.form S;obtain⟨s',a',l',c',t',b',k',d',rfl⟩:=Jf.form hb;have Q:=Oq w s t s' t' a b a' b' l c k d l' c' k' d' p q S hb;obtain⟨W0,R⟩:=ex (((w.alloc (G #[E s,C a l c,E t,C b k d] 50)).alloc (G #[E s',C a' l' c',E t',C b' k' d'] 50)).alloc (G #[E false,C none 0 0,E false,C none 0 0] 50));have Qe:=Z R;rw[R]at Q;obtain⟨j,B,K⟩:=DZ Q ai aj;clear Q S hb R ai aj;go_enter func177,ntmps177
 go_upto_region 1 with fail
 rw[Qe.o];clear Qe;obtain⟨s1,a1,l1,c1,t1,b1,k1,d1,o,r1,i1,j1⟩:=j.o.rat (i:=0) J;have v:=o.kb;obtain⟨s2,a2,l2,c2,t2,b2,k2,d2,r,r2,i2,j2⟩:=j.o.rat (i:=1) J;have y:=r.kb;obtain⟨s3,a3,l3,c3,t3,b3,k3,d3,f,r3,i3,j3⟩:=j.o.rat (i:=2) J;have n:=f.kb;have x:=f.fb;obtain⟨W,X,H6,H9,Qf⟩:=Hv (λ(V:H) (h:Bl W0 V)=>GL _ q V (r2.below h)) (λ(V:H) (h:Bl W0 V) (v3:D) (g:Jk V v3 ((q.den:Int)))=>YY _ _ p.num (q.den:Int) V (i1.below h) g (by have h1:=B.o.num.words;have h2:=K.o.den.words;omega)) (λ(V:H) (h:Bl W0 V)=>GL _ p V (r1.below h)) (λ(V:H) (h:Bl W0 V) (v6:D) (m:Jk V v6 ((p.den:Int)))=>YY _ _ (p.den:Int) q.num V m (i2.below h) (by have h1:=B.o.den.words;have h2:=K.o.num.words;omega)) λ(V:H) (h:Bl W0 V) (v4:D) (g4:Jk V v4 (p.num*(q.den:Int))) (v9:D) (z:Jk V v9 ((p.den:Int)*q.num))=>(by have h:=Kk _ _ (p.num*(q.den:Int)) ((p.den:Int)*q.num) V g4 z (B.o.cross K.o) (B.o.cross2 K.o);rw[Qh.o,gO]at h;exact h);have bi:=j.o.ne 0 2 J J DK;have bj:=j.o.ne 1 2 J J DK;have hq:Bl W0 W0.drew:=(BB _ W0).drew;go_region_held3 (λw'=>(w'.cell? ⟨w.heap.size,0,none⟩=some (E s1)/\w'.cell? ⟨w.heap.size,1,none⟩=some (C a1 l1 c1)/\w'.cell? ⟨w.heap.size,2,none⟩=some (E t1)/\w'.cell? ⟨w.heap.size,3,none⟩=some (C b1 k1 d1))/\w'.cell? ⟨w.heap.size+1,0,none⟩=some (E s2)/\w'.cell? ⟨w.heap.size+1,1,none⟩=some (C a2 l2 c2)/\w'.cell? ⟨w.heap.size+1,2,none⟩=some (E t2)/\w'.cell? ⟨w.heap.size+1,3,none⟩=some (C b2 k2 d2)) (first|grind|(go_keep;done)|((repeat' apply Ao)<;>((repeat rw[JO O]);grind)))
  (first
   |(go_at_call 49;refine(W.o _ hq ).mono ?_;clear W;rintro e w3 ⟨v3,rfl,g,am⟩;have hq:=Bt hq am;have v:=(o.below hq).kb;have y:=(r.below hq).kb;have n:=(f.below hq).kb;have x:=(f.below hq).fb)
   |(go_at_call 48;refine(X.o _ hq _ g).mono ?_;clear X;rintro e w4 ⟨v4,rfl,g4,ah⟩;have g:=g.below ah;have hq:=Bt hq ah;have v:=(o.below hq).kb;have y:=(r.below hq).kb;have n:=(f.below hq).kb;have x:=(f.below hq).fb)
   |(go_at_call 49;refine(H6.o _ hq ).mono ?_;clear H6;rintro e w6 ⟨v6,rfl,m,T⟩;have g:=g.below T;have g4:=g4.below T;have hq:=Bt hq T;have v:=(o.below hq).kb;have y:=(r.below hq).kb;have n:=(f.below hq).kb;have x:=(f.below hq).fb)
   |(go_at_call 48;refine(H9.o _ hq _ m).mono ?_;clear H9;rintro e w9 ⟨v9,rfl,z,M⟩;have g:=g.below M;have g4:=g4.below M;have m:=m.below M;have hq:=Bt hq M;have v:=(o.below hq).kb;have y:=(r.below hq).kb;have n:=(f.below hq).kb;have x:=(f.below hq).fb)
   |(go_at_call 193;refine(Qf.o _ hq _ g4 _ z).mono ?_;clear Qf;rintro e bz ⟨bu,rfl,ae,A⟩;obtain⟨bm,an,bg,aq,bn,ap,az,ay,rfl⟩:=Jf.form ae;have g:=g.below A;have g4:=g4.below A;have m:=m.below A;have z:=z.below A;have hq:=Bt hq A;have v:=(o.below hq).kb;have y:=(r.below hq).kb;have n:=(f.below hq).kb;have x:=(f.below hq).fb))
 all_goals go_wp2_with fail
 have Qi:=Bt j.o.2.2 hq;have Qg:=j.o.ge 2 J;exact BA (by simp[results,results177,go_sem,n]) J ⟨_,J,ae.put4 (f.below hq) J J J J _ _ _ _,Jw Qi Qg _ _ _ _⟩
def Yw(p q:Rat):Int:=XU (p.num*q.den) (q.num*p.den)
theorem Xd(va vb:D)(p q:Rat)(w:H)(ha:Jf w va p)(hb:Jf w vb q)(aj:Sq p)(am:Sq q):
 F I 21 #[va,vb] w λe w'=>e=.returned (.int .i64 (Yw p q))/\Bl w w':=by
 obtain⟨s,a,l,c,t,b,k,d,rfl⟩:=Jf.form ha;obtain⟨s',a',l',c',t',b',k',d',rfl⟩:=Jf.form hb;have T:=mA w s t s' t' a b a' b' l c k d l' c' k' d' p q ha hb;obtain⟨W0,X⟩:=ex ((w.alloc (G #[E s,C a l c,E t,C b k d] 50)).alloc (G #[E s',C a' l' c',E t',C b' k' d'] 50));have Qf:=Z X;rw[X]at T;have x:=Z T;obtain⟨n,hn⟩:=ex (Yw p q);have HN:=Z hn;rw[hn];have HP:=Z aj;have HQ:=Z am;clear T ha hb X aj am hn;go_enter func21,ntmps21
 go_upto_region 1 with fail
 rw[Qf.o];clear Qf;obtain⟨Q,ai⟩:=ex (decide (p.den=1/\q.den=1):Bool);have A:=Z ai;clear ai;go_cut [10] λc w'=>c=E Q/\Hid (DJ w w' [some (w.heap.size,.rat p),some (w.heap.size+1,.rat q)])
 case first=>
  obtain⟨s1,a1,l1,c1,t1,b1,k1,d1,n1,r1,i1,j1⟩:=x.o.rat (i:=0) J;have Qh:=n1.kb;obtain⟨s2,a2,l2,c2,t2,b2,k2,d2,n2,r2,i2,j2⟩:=x.o.rat (i:=1) J;have Qi:=n2.kb;have g:=Z (Kj _ p W0 r1);have S:=Z λ(V:H) (h:Bl W0 V)=>Kj _ q V (r2.below h);by_cases o:p.den=1
  . rw[BI o]at g;obtain⟨b2,M⟩:=ex (decide (q.den=1));rw[M]at S;have W:=Z (show b2=Q by rw[<-M,<-A.o];grind);clear M o;go_wp2_with(first
     |(go_at_call 46;refine g.o.mono ?_;clear g;rintro e w1 ⟨rfl,r⟩;have Qh:=(n1.below r).kb;have Qi:=(n2.below r).kb)
     |(go_at_call 46;refine(S.o _ r).mono ?_;clear S;rintro e w2 ⟨rfl,M⟩))
    go_meet
    case rel=>exact⟨by rw[W.o],Z ((x.o.below r).below M)⟩
  . rw[BK o]at g;have W:=Z (show Q=false by rw[<-A.o];grind);clear o;go_wp2_with(go_at_call 46;refine g.o.mono ?_;clear g;rintro e w1 ⟨rfl,r⟩)
    go_meet
    case rel=>exact⟨by rw[W.o],Z (x.o.below r)⟩
 obtain⟨rfl,MM⟩:=hcut;have m:=MM;clear x MM;cases Q with
 |true=>
  have U:=BW A.o;have HE:=Z (show XU p.num q.num=n by rw[<-HN.o];unfold Yw;rw[U.1,U.2];simp);clear U A;obtain⟨s3,a3,l3,c3,t3,b3,k3,d3,n3,r3,i3,j3⟩:=m.o.rat (i:=0) J;have ap:=n3.kb;obtain⟨s4,a4,l4,c4,t4,b4,k4,d4,n4,r4,i4,j4⟩:=m.o.rat (i:=1) J;have aq:=n4.kb;have g:=Z (KC _ _ p.num q.num wc i3 i4);rw[HE.o]at g;go_wp2_with(go_at_call 47;refine g.o.mono ?_;clear g;rintro e w1 ⟨rfl,hq⟩)
  go_ret;exact⟨J,Bt m.o.2.2 hq⟩
 |false=>
  clear A;go_upto_region 3 with fail
  obtain⟨s5,a5,l5,c5,t5,b5,k5,d5,u,r5,i5,j5⟩:=m.o.rat (i:=0) J;have z:=u.kb;obtain⟨s6,a6,l6,c6,t6,b6,k6,d6,v,r6,i6,j6⟩:=m.o.rat (i:=1) J;have y:=v.kb;obtain⟨H3,H4,H8,H9,Qg⟩:=Hv (λ(V:H) (h:Bl wc V)=>GL _ q V (r6.below h)) (λ(V:H) (h:Bl wc V) (v3:D) (f:Jk V v3 ((q.den:Int)))=>YY _ _ p.num (q.den:Int) V (i5.below h) f (by have o:=HP.o.num.words;have h2:=HQ.o.den.words;omega)) (λ(V:H) (h:Bl wc V)=>GL _ p V (r5.below h)) (λ(V:H) (h:Bl wc V) (v8:D) (j:Jk V v8 ((p.den:Int)))=>YY _ _ q.num (p.den:Int) V (i6.below h) j (by have o:=HQ.o.num.words;have h2:=HP.o.den.words;omega)) λ(V:H) (h:Bl wc V) (v4:D) (g4:Jk V v4 (p.num*(q.den:Int))) (v9:D) (B:Jk V v9 (q.num*(p.den:Int)))=>(by have h:=KC _ _ (p.num*(q.den:Int)) (q.num*(p.den:Int)) V g4 B;rw[show XU (p.num*(q.den:Int)) (q.num*(p.den:Int))=n from HN.o]at h;exact h);have hq:Bl wc wc.drew:=(BB _ wc).drew;go_region_held3 (λw'=>(w'.cell? ⟨w.heap.size,0,none⟩=some (E s5)/\w'.cell? ⟨w.heap.size,1,none⟩=some (C a5 l5 c5)/\w'.cell? ⟨w.heap.size,2,none⟩=some (E t5)/\w'.cell? ⟨w.heap.size,3,none⟩=some (C b5 k5 d5))/\w'.cell? ⟨w.heap.size+1,0,none⟩=some (E s6)/\w'.cell? ⟨w.heap.size+1,1,none⟩=some (C a6 l6 c6)/\w'.cell? ⟨w.heap.size+1,2,none⟩=some (E t6)/\w'.cell? ⟨w.heap.size+1,3,none⟩=some (C b6 k6 d6)) (first|grind|(go_keep;done)|((repeat' apply Ao)<;>((repeat rw[JO O]);first|(simp only[*];done)|(go_keep;done))))
   (first
    |(go_at_call 49;refine(H3.o _ hq ).mono ?_;clear H3;rintro e w3 ⟨v3,rfl,f,an⟩;have hq:=Bt hq an;have z:=(u.below hq).kb;have y:=(v.below hq).kb)
    |(go_at_call 48;refine(H4.o _ hq _ f).mono ?_;clear H4;rintro e w4 ⟨v4,rfl,g4,ah⟩;have f:=f.below ah;have hq:=Bt hq ah;have z:=(u.below hq).kb;have y:=(v.below hq).kb)
    |(go_at_call 49;refine(H8.o _ hq ).mono ?_;clear H8;rintro e w8 ⟨v8,rfl,j,ae⟩;have f:=f.below ae;have g4:=g4.below ae;have hq:=Bt hq ae;have z:=(u.below hq).kb;have y:=(v.below hq).kb)
    |(go_at_call 48;refine(H9.o _ hq _ j).mono ?_;clear H9;rintro e w9 ⟨v9,rfl,B,R⟩;have f:=f.below R;have g4:=g4.below R;have j:=j.below R;have hq:=Bt hq R;have z:=(u.below hq).kb;have y:=(v.below hq).kb)
    |(go_at_call 47;refine(Qg.o _ hq _ g4 _ B).mono ?_;clear Qg;rintro e ay ⟨rfl,K⟩;have f:=f.below K;have g4:=g4.below K;have j:=j.below K;have B:=B.below K;have hq:=Bt hq K;have z:=(u.below hq).kb;have y:=(v.below hq).kb))
  all_goals go_wp2_with fail
  go_ret;exact⟨J,Bt m.o.2.2 hq⟩
theorem L3(va vb:D)(p q:Rat)(w:H)(r:Jf w va p)(hb:Jf w vb q)(ae:Sq p)(ah:Sq q):
 F I 42 #[va,vb] w λe w'=>∃u,e=.returned u/\Jf w' u (p-q)/\Bl w w':=by
 obtain⟨s,a,l,c,t,b,k,d,rfl⟩:=Jf.form r;obtain⟨s',a',l',c',t',S,k',W,rfl⟩:=Jf.form hb;have m:=Oq w s t s' t' a b a' S l c k d l' c' k' W p q r hb;obtain⟨W0,o⟩:=ex (((w.alloc (G #[E s,C a l c,E t,C b k d] 50)).alloc (G #[E s',C a' l' c',E t',C S k' W] 50)).alloc (G #[E false,C none 0 0,E false,C none 0 0] 50));have B:=Z o;rw[o]at m;obtain⟨j,HP,A⟩:=DZ m ae ah;clear m r hb o ae ah;go_enter func42,ntmps42
 go_upto_region 1 with fail
 rw[B.o];clear B;obtain⟨s1,R,l1,c1,t1,T,k1,d1,v,r1,i1,j1⟩:=j.o.rat (i:=0) J;have K:=v.kb;obtain⟨s2,a2,l2,c2,t2,U,k2,X,x,r2,i2,j2⟩:=j.o.rat (i:=1) J;have Q:=x.kb;obtain⟨s3,a3,l3,c3,t3,b3,k3,d3,f,r3,i3,j3⟩:=j.o.rat (i:=2) J;have n:=f.kb;have M:=f.fb;have y:=Z λ(V:H) (h:Bl W0 V)=>RZ _ _ 0 q.num V (EX _) (i2.below h) (by have:=Sok.zero.words;omega) (by have:=A.o.num.words;omega);have z:=Z (λ(V:H) (h:Bl W0 V) (s:Bool) (a:om) (l c:Nat) (g:Jk V (P #[E s,C a l c]) (0-q.num))=>show F I 43 #[P #[E s1,C R l1 c1,E t1,C T k1 d1],P #[E s,C a l c,E t2,C U k2 X]] V λe w'=>∃u,e=.returned u/\Jf w' u (p-q)/\Bl V w' by
  have h1:=LK _ _ p (-q) V (r1.below h) (Jf.mk (q:=-q) (by rw[Rat.neg_num,<-Int.zero_sub];exact g) (j2.below h)) HP.o A.o.neg;rw[<-Rat.sub_eq_add_neg]at h1;exact h1)
 have hq:Bl W0 W0.drew:=(BB _ W0).drew;go_region_held3 (λw'=>(w'.cell? ⟨w.heap.size,0,none⟩=some (E s1)/\w'.cell? ⟨w.heap.size,1,none⟩=some (C R l1 c1)/\w'.cell? ⟨w.heap.size,2,none⟩=some (E t1)/\w'.cell? ⟨w.heap.size,3,none⟩=some (C T k1 d1))/\w'.cell? ⟨w.heap.size+1,0,none⟩=some (E s2)/\w'.cell? ⟨w.heap.size+1,1,none⟩=some (C a2 l2 c2)/\w'.cell? ⟨w.heap.size+1,2,none⟩=some (E t2)/\w'.cell? ⟨w.heap.size+1,3,none⟩=some (C U k2 X)) (first|grind|(go_keep;done)|grind[JO])
  (first
   |(go_at_call 93;refine(y.o _ hq).mono ?_;clear y;rintro e w1 ⟨u1,rfl,ai,am⟩;obtain⟨bu,ap,bm,az,rfl⟩:=Jk.form2 ai;have hq:=Bt hq am;have K:=(v.below hq).kb;have Q:=(x.below hq).kb;have n:=(f.below hq).kb;have M:=(f.below hq).fb)
   |(go_at_call 43;refine(z.o _ hq _ _ _ _ ai).mono ?_;clear z;rintro e w2 ⟨u2,rfl,aj,an⟩;obtain⟨bz,aq,bn,bg,cj,ay,bj,bi,rfl⟩:=Jf.form aj;have hq:=Bt hq an;have K:=(v.below hq).kb;have Q:=(x.below hq).kb;have n:=(f.below hq).kb;have M:=(f.below hq).fb))
 all_goals go_wp2_with fail
 have Qg:=Bt j.o.2.2 hq;have Qf:=j.o.ge 2 J;exact BA (by simp[results,results42,go_sem,n]) J ⟨_,J,aj.put4 (f.below hq) J J J J _ _ _ _,Jw Qg Qf _ _ _ _⟩
end
section
variable{qs:Ja}{cap l:Nat}{a:om}{W:H}
theorem mG(q:Rat):Yw q 0=0↔q=0:=by
 grind[Rat.eq_iff_mul_eq_mul,Yw,XU]
def GF:Sq 0:=Sq.of (k:=1) ⟨Sm.zero _,Sm.one _ O⟩ O
def mH(v:D)(q:Rat)(w:H)(h:Jf w v q)(hq:Sq q):
 F I 56 #[v] w λe w'=>e=.returned (E (decide (q=0)))/\Bl w w':=by
 obtain⟨s,a,l,c,t,b,k,d,rfl⟩:=h.form;have b0:=JQ.new w 50 (E s) (C a l c) (E t) (C b k d);have f:Bl w (w.alloc (G #[E s,C a l c,E t,C b k d] 50)):=Ba w _;obtain⟨W0,g⟩:=ex (w.alloc (G #[E s,C a l c,E t,C b k d] 50));rw[g]at b0 f;have m:=Z g;have i:=Z (Xd _ _ q 0 W0 (h.below f) (XF _) hq GF);obtain⟨p,r,u,x⟩:=b0.cq;have j:=Z (mG q);obtain⟨n,hn⟩:=ex (Yw q 0);rw[hn]at i j;clear g hn;go_enter func56,ntmps56
 go_upto_region 1 with fail
 rw[m.o];go_wp2_with(go_at_call 21;refine i.o.mono ?_;rintro e w1 ⟨rfl,o⟩)
 go_ret;refine⟨?_,Bt f o⟩;show Ending.returned (Value.bool (n==0))=_;have e:(n==0)=decide (q=0):=by rw[F3];simp[j.o]
 rw[e]
def mI(c:Nat)(a:om)(len cap:Nat)(x y z u:Nat->D)(k:Nat)(W:H):Prop:=
 W.cell? ⟨c,0,none⟩=some (C a len cap)/\(k<len->∃b,a=some ⟨b,0,none⟩/\W.cell? ⟨b,(len-1-k)*4,none⟩=some (x (len-1-k))/\W.cell? ⟨b,(len-1-k)*4+1,none⟩=some (y (len-1-k))/\
  W.cell? ⟨b,(len-1-k)*4+2,none⟩=some (z (len-1-k))/\W.cell? ⟨b,(len-1-k)*4+3,none⟩=some (u (len-1-k)))
def Mt(len:Nat)(x y z u:Nat->D)(k:Nat):Array D:=#[.int .i64 ((len:Int)-1-k),P #[x (len-1-k),y (len-1-k),z (len-1-k),u (len-1-k)]]
def Rf(F:Fence)(n:Nat)(B:F.fn 173)(K:F.round=none)(hn:1<=n)(d:Nat)(a:om)(len cap:Nat)(x y z u:Nat->D)(ah:len<=1099511627776):
 Mb F n I 173 #[L (some ⟨d,0,none⟩)] len (Mt len x y z u) (mI d a len cap x y z u):=λl J M W j w g=>by
 have T:=(j 0 W g).1;refine Bn func173 rfl B ?_ K;simp only[ntmps173,Aw,Al,AX,Nat.reduceAdd,Nat.reduceSub,Az,AA,AU,AJ,As,AK];gi_wp2;gi_loopw [3] (λi wr=>∃k:Nat,k<=len/\i=.int .i64 ((len:Int)-1-k)/\J k wr) λi _=>(intOf i+1).toNat
 case atStart=>exact⟨0,Ay _,DI,g⟩
 case round=>
  obtain⟨k,hk,rfl,hJ⟩:=hrel;obtain⟨S,A⟩:=j k wr hJ;by_cases c:k<len
  . obtain⟨b,rfl,U,X,ae,V⟩:=A c;obtain⟨fn,tmps,assign,body,q,v⟩:=w k wr hJ c;have f:((len:Int)-1-k)=((len-1-k:Nat):Int):=O
    have R:len-1-k<len:=O
    dsimp only[Mt]at q;rw[f]at q ⊢;generalize o:len-1-k=m at *;have r:=Hid.o (p:=Hid (len-1-k=m)) o;clear o f;gi_wp2;refine v.mono ?_;rintro e Q (⟨rfl,s⟩|⟨rfl,t⟩)
    . gi_wp2;go_roundw
      case rel=>exact⟨k+1,O,by(congr 1;have:=r.o;omega),s⟩
      case measure=>simp[intOf]
    . gi_wp2;refine BA (results_none rfl _ _ _) rfl ?_;exact⟨⟨_,rfl⟩,.inr ⟨k,c,t⟩⟩
  . obtain rfl:k=len:=O
    gi_wp2;go_end0;exact⟨⟨_,rfl⟩,.inl hJ⟩
def Rg(F:Fence)(n:Nat)(b:F.fn 101)(c:F.round=none)(a:om)(len cap:Nat)(w:H):
 CallsIn F n I 101 #[C a len cap] w λe w'=>e=.returned (.func (.func 173) #[] #[L (some ⟨w.heap.size,0,none⟩)])/\w'=w.alloc (G #[C a len cap] 23):=by
 refine Bn func101 J b ?_ c;simp only[ntmps101,Aw,Al,AX,Nat.reduceAdd,Nat.reduceSub,Az,AA,AU,AJ,As,AK];gi_wp2;go_ret;exact⟨J,J⟩
def WH:D->Bool|E b=>b|_=>false
def WI:D->om|C a _ _=>a|_=>none
def WJ:D->Nat|C _ _ c=>c|_=>0
theorem RowK.pick{r:Bool}(h:RowK r W (C a l cap) qs):l=qs.length/\l<=cap/\cap<=9223372036854775807/\l<=1099511627776/\∃x y z u:Nat->D,∀j,j<l->EN r W (P #[x j,y j,z j,u j]) (cf qs j)/\
 ∃b,a=some ⟨b,0,none⟩/\b<W.heap.size/\W.cell? ⟨b,j*4,none⟩=some (x j)/\W.cell? ⟨b,j*4+1,none⟩=some (y j)/\W.cell? ⟨b,j*4+2,none⟩=some (z j)/\W.cell? ⟨b,j*4+3,none⟩=some (u j):=by
 obtain⟨a',m,e,f,g,i,c⟩:=h;cases e;refine⟨J,f,g,i,?_⟩;rcases c with c|⟨b,n,k⟩
 . exact⟨λ_=>N,λ_=>N,λ_=>N,λ_=>N,λj d=>by rw[c]at d;simp at d⟩
 . obtain⟨cs,c1,c2⟩:=k;refine⟨λj=>cs[j*4]?.getD N,λj=>cs[j*4+1]?.getD N,λj=>cs[j*4+2]?.getD N,λj=>cs[j*4+3]?.getD N,λj d=>?_⟩;grind[cell_of]
def RowK.forms(h:RowK true W (C a l cap) qs):l=qs.length/\l<=cap/\cap<=9223372036854775807/\l<=1099511627776/\∃(s t:Nat->Bool) (i k:Nat->om) (ll m kk dd:Nat->Nat),∀j,j<l->Jf W (P #[E (s j),C (i j) (ll j) (m j),E (t j),C (k j) (kk j) (dd j)]) (cf qs j)/\
 ∃b,a=some ⟨b,0,none⟩/\b<W.heap.size/\W.cell? ⟨b,j*4,none⟩=some (E (s j))/\W.cell? ⟨b,j*4+1,none⟩=some (C (i j) (ll j) (m j))/\W.cell? ⟨b,j*4+2,none⟩=some (E (t j))/\W.cell? ⟨b,j*4+3,none⟩=some (C (k j) (kk j) (dd j)):=by
 obtain⟨o,p,q,r,x,y,z,u,v⟩:=h.pick;refine⟨o,p,q,r,λj=>WH (x j),λj=>WH (z j),λj=>WI (y j),λj=>WI (u j),λj=>UI (y j),λj=>WJ (y j),λj=>UI (u j),λj=>WJ (u j),λj w=>?_⟩;obtain⟨hi,b,n,hb,c0,c1,c2,c3⟩:=v j w;obtain⟨s,a',l',c',t,A,K,B,e,_⟩:=(show Jf W _ _ from hi);simp only[Value.agg.injEq,Array.mk.injEq,List.cons.injEq,and_true]at e;obtain⟨c,d,f,g⟩:=e;rw[c,d,f,g]at hi;rw[c]at c0;rw[d]at c1;rw[f]at c2;rw[g]at c3;dsimp only;rw[c,d,f,g];exact⟨hi,b,n,hb,c0,c1,c2,c3⟩
def WK(w:H)(a:om)(len cap:Nat)(qs:Ja)(k:Nat)(W:H):Prop:=
 ((((Boxed W w.heap.size 23 (C a len cap)/\Boxed W (w.heap.size+1) 113 (.func (.func 56) #[] #[]))/\Boxed W (w.heap.size+1+1) 23 (C none 0 0))/\Boxed W (w.heap.size+1+1+1) 23 (C a len cap))/\Bl w W)/\∀j,len-k<=j->j<len->cf qs j=0
def WL(w:H)(a:om)(len cap:Nat)(qs:Ja)(c:Code)(k:Nat)(W:H):Prop:=
 (Boxed W (w.heap.size+1+1) 23 (C a (len-1-k+1) cap)/\Bl w W)/\(c=.ret/\cf qs (len-1-k)≠0/\∀j,len-k<=j->j<len->cf qs j=0)
def mJ(w:H)(a:om)(len cap:Nat)(qs:Ja):OwnFrom (w.heap.size+1+1+1+1) (WK w a len cap qs):=
 BN (BN (BN (BN (BN (Bh (boxed_own _ _ λ_=>C a len cap) _) (Bh (boxed_own _ _ λ_=>.func (.func 56) #[] #[]) _)) (Bh (boxed_own _ _ λ_=>C none 0 0) _)) (Bh (boxed_own _ _ λ_=>C a len cap) _)) (Br (Aa _) O)) (DF _ _)
def mK(w:H)(a:om)(len cap:Nat)(qs:Ja)(c:Code):OwnFrom (w.heap.size+1+1+1+1) (WL w a len cap qs c):=
 BN (BN (Bh (boxed_own _ _ λk=>C a (len-1-k+1) cap) _) (Br (Aa _) O)) (DF _ _)
theorem mL(a:om)(len cap:Nat)(qs:Ja)(w:H)(h:RowK true w (C a len cap) qs)(hs:Sqs qs):
 F I 55 #[C a len cap,.func (.func 56) #[] #[]] w λe w'=>∃u,e=.returned u/\(RowK true w' u (Jc qs)/\Bl w w')/\(u=C none 0 0/\Jc qs=[]\/u=C a (Jc qs).length cap):=by
 obtain⟨hl,aj,am,ah,s,t,z,A,ll,B,kk,dd,hc⟩:=h.forms;obtain⟨HL,V,HS⟩:=DZ hl hc hs;clear hc hl hs;refine(BJ (n:=3)).1 ?_;refine BO func55 J trivial ?_ J;simp only[ntmps55,Aw,Al,AX,Nat.reduceAdd,Nat.reduceSub,Az,AA,AU,AJ,As,AK];gi_wp2_with(refine⟨trivial,?_⟩;gi_at_call 101;refine(Rg Fence.wide _ trivial J _ _ _ _).mono ?_;rintro e w' ⟨rfl,rfl⟩)
 have b0:=(((BH w 23 (C a len cap)).alloc (G #[.func (.func 56) #[] #[]] 113)).alloc (G #[C none 0 0] 23)).alloc (G #[C a len cap] 23);have b1:=((BH (w.alloc (G #[C a len cap] 23)) 113 (.func (.func 56) #[] #[])).alloc (G #[C none 0 0] 23)).alloc (G #[C a len cap] 23);have b2:=(BH ((w.alloc (G #[C a len cap] 23)).alloc (G #[.func (.func 56) #[] #[]] 113)) 23 (C none 0 0)).alloc (G #[C a len cap] 23);have b3:=BH (((w.alloc (G #[C a len cap] 23)).alloc (G #[.func (.func 56) #[] #[]] 113)).alloc (G #[C none 0 0] 23)) 23 (C a len cap);simp only[Ax]at b1 b2 b3;have Qd:Bl w ((((w.alloc (G #[C a len cap] 23)).alloc (G #[.func (.func 56) #[] #[]] 113)).alloc (G #[C none 0 0] 23)).alloc (G #[C a len cap] 23)):=(((Ba w _).alloc DI _).alloc si _).alloc si _;have hN:((((w.alloc (G #[C a len cap] 23)).alloc (G #[.func (.func 56) #[] #[]] 113)).alloc (G #[C none 0 0] 23)).alloc (G #[C a len cap] 23)).heap.size=w.heap.size+1+1+1+1:=DI
 refine UO J O (gf:=173) (lb:=#[L (some ⟨w.heap.size+1+1+1,0,none⟩)]) J trivial (Be func173 v0 J)
  (Rf Fence.wide _ trivial J O (w.heap.size+1+1+1) a len cap (λj=>E (s j)) (λj=>C (z j) (ll j) (B j)) (λj=>E (t j)) (λj=>C (A j) (kk j) (dd j)) ah) (λ_=>rfl)
  (WK w a len cap qs) (WL w a len cap qs) (by rw[hN];exact mJ w a len cap qs) (λc=>by rw[hN];exact mK w a len cap qs c)
  ⟨⟨⟨⟨⟨b0,b1⟩,b2⟩,b3⟩,Qd⟩,λj r M=>by omega⟩ ?rd
  (λk b=>{ tmps:=#[C a len cap,.func (.func 56) #[] #[],L (some ⟨w.heap.size,0,none⟩),L (some ⟨w.heap.size+1,0,none⟩),L (some ⟨w.heap.size+1+1,0,none⟩),.int .i64 ((len:Int)-1-k),L (some ⟨b,0,none⟩),C a len cap,.func (.func 173) #[] #[L (some ⟨w.heap.size+1+1+1,0,none⟩)],.int .i64 ((len:Int)-1-k),P #[E (s (len-1-k)),C (z (len-1-k)) (ll (len-1-k)) (B (len-1-k)),E (t (len-1-k)),C (A (len-1-k)) (kk (len-1-k)) (dd (len-1-k))],N,N,N,N,N,N,N,N],defers:=[] })
  (λk=>G #[E (s (len-1-k)),C (z (len-1-k)) (ll (len-1-k)) (B (len-1-k)),E (t (len-1-k)),C (A (len-1-k)) (kk (len-1-k)) (dd (len-1-k))] 50 (0,0)) ?assign ?body ?done ?stop
 case rd=>
  rintro k W ⟨⟨⟨_,c3⟩,f⟩,_⟩;refine⟨c3.cell,λhk=>?_⟩;obtain⟨_,b,ea,hb,r,M,h3,h4⟩:=V.o (len-1-k) O;exact⟨b,ea,(f.cell (p:=⟨b,_,none⟩) hb).trans r,(f.cell (p:=⟨b,_,none⟩) hb).trans M,(f.cell (p:=⟨b,_,none⟩) hb).trans h3,(f.cell (p:=⟨b,_,none⟩) hb).trans h4⟩
 case assign=>
  intro l k W K v;unfold Mt;gi_wp2;exact v
 case body=>
  rintro l k b W ⟨⟨⟨⟨⟨c0,c1⟩,c2⟩,c3⟩,f⟩,i⟩ hk ap ai T;have hm:len-1-k<len:=O
  obtain⟨hi,_⟩:=V.o (len-1-k) hm;have X:=Z (Jf.below hi f);have o:=Z i;have e1:((len:Int)-1-k)=((len-1-k:Nat):Int):=O
  rw[e1];clear e1 i hi;obtain⟨m,U⟩:=ex (len-1-k);have Q:=Z U;rw[U]at T X hm ⊢;clear U;have q0:JQ W b 50 (E (s m)) (C (z m) (ll m) (B m)) (E (t m)) (C (A m) (kk m) (dd m)):=T;obtain⟨k0,k1,k2,k3⟩:=q0.cq;have d0:=c0.cell;have d1:=c1.cell;have d2:=c2.cell;have f2:=c2.frozen;clear q0 T;have y:=Z (Bg l ((BJ (n:=3-1-1-1)).2 (mH _ _ W X.o (HS.o.at m))));by_cases g:cf qs m=0
  . have R:=Z g;rw[show decide (cf qs m=0)=true from BI g]at y;clear g;gi_wp2_with(refine⟨trivial,?_⟩;gi_at_call 56;refine y.o.mono ?_;rintro e w' ⟨rfl,d⟩)
    refine⟨(Xs d).from _,⟨⟨⟨⟨boxed_below c0 d,boxed_below c1 d⟩,boxed_below c2 d⟩,boxed_below c3 d⟩,Bt f d⟩,λj r M=>?_⟩;by_cases x:j=m
    . rw[x];exact R.o
    . have:=Q.o;exact o.o j O M
  . have R:=Z g;rw[show decide (cf qs m=0)=false from BK g]at y;clear g;gi_wp2_with(refine⟨trivial,?_⟩;gi_at_call 56;refine y.o.mono ?_;rintro e w' ⟨rfl,d⟩;have d0:=(boxed_below c0 d).cell;have d2:=(boxed_below c2 d).cell;have f2:=(boxed_below c2 d).frozen)
    have ae:=Bt f d;refine⟨((Xs d).trans (BL _ _ _)).from _,⟨?_,ae.setCell (p:=⟨w.heap.size+1+1,0,none⟩) si _⟩,J,by rw[Q.o];exact R.o,o.o⟩;rw[Q.o];exact(boxed_below c2 d).set _
 case done=>
  rintro D W hD ⟨⟨⟨⟨⟨c0,c1⟩,c2⟩,c3⟩,f⟩,i⟩ v;have d1:=c2.cell;have f1:=c2.frozen;have o:=Z i;clear i;gi_wp2;have Qc:=(BL W ⟨w.heap.size+1+1,0,none⟩ (C none 0 0)).same D _ v J;refine⟨DI,.inl ⟨_,_,J,BQ Qc,?_⟩⟩;have S:=(c2.set (C none 0 0)).kept (BR _ D (.deferred none)) (λe=>by grind);have q:=S.cell;have e0:=P0 λj=>by
   rcases Ca j len with x|x
   . exact o.o j O x
   . exact Yt (by have:=HL.o;omega)
  refine⟨C none 0 0,by simp[results,results55,go_sem,q],_,J,⟨?_,?_⟩,An ⟨J,e0⟩⟩
  . rw[e0];exact RowK.nil _ _
  . exact(f.setCell (p:=⟨w.heap.size+1+1,0,none⟩) si _).trans (B0 (w:=w) (Aa _) _ D _ _ (by simp at hD;omega) Qc J J)
 case stop=>
  rintro D c k W hD hk ⟨⟨c1,f⟩,rfl,g,i⟩ v;have d1:=c1.cell;have o:=Z (show cf qs (len-1-k)≠0/\∀j,len-k<=j->j<len->cf qs j=0 from⟨g,i⟩);clear i g;gi_wp2;refine⟨DI,.inl ⟨_,_,J,BQ v,?_⟩⟩;have S:=c1.kept (BR _ D (.deferred none)) (λe=>by grind);have q:=S.cell;have Qb:Bl w (W.putObj D (.deferred none)):=f.trans (B0 (w:=w) (Aa _) _ D _ _ (by simp at hD;omega) v J J);have an:=HL.o;have e:Jc qs=qs.take (len-1-k+1):=by
   refine eI O (Ap o.o.1) λj x=>?_;rcases Ca j len with r|r
   . exact o.o.2 j O r
   . exact Yt O
  have el:(qs.take (len-1-k+1)).length=len-1-k+1:=by rw[AG];omega
  refine⟨C a (len-1-k+1) cap,by simp[results,results55,go_sem,q],_,J,⟨?_,Qb⟩,Ap (by rw[e,el])⟩;rw[e];exact(h.below Qb).take O
def Mu(N:Nat)(v:D):Prop:=∀a l c,v=C (some a) l c->N<=a.block
def Ou(N:Nat)(v:D):Prop:=∀a l c,v=P #[C (some a) l c]->N<=a.block
def GM{B:Nat}{c:Nat}(b:Boxed W B 25 (C a l c))(x:D){v:D}(h:RowK true W v qs):RowK true (W.setCell ⟨B,0,none⟩ x) v qs:=
 M3.Mn (cs:=#[C a l c]) b (o:=0) J J true DK x v qs h
def LM(v:D)(qs:Ja)(w:H)(h:RowK true w v qs)(hs:Sqs qs):
 F I 25 #[v] w λe w'=>∃u,e=.returned u/\Je w' u (Jc qs)/\(∀N,Mu N v->Ou N u)/\Bl w w':=by
 obtain⟨a,l,c,rfl⟩:=h.form;have b0:=BH w 25 (C none 0 0);have b:Bl w (w.alloc (G #[C none 0 0] 25)):=Ba w _;obtain⟨W0,g⟩:=ex (w.alloc (G #[C none 0 0] 25));rw[g]at b0 b;have q:=Z g;have i:=Z (mL a l c qs W0 (h.below b) hs);have n:=b0.cell;have f0:=b0.frozen;clear g h hs;go_enter func25,ntmps25
 go_upto_region 1 with fail
 rw[q.o];go_wp2_with(go_at_call 55;refine i.o.mono ?_;clear i;rintro e w1 ⟨u,rfl,⟨m,j⟩,k⟩;obtain⟨s,x,t,rfl⟩:=m.form;have d:=boxed_below b0 j;have n:=d.cell;have f0:=d.frozen;have o:=Z k;clear k)
 refine BA (by simp[results,results25,go_sem,n]) J ⟨_,J,⟨_,J,GM d _ m⟩,?_,(Bt b j).setCell (p:=⟨w.heap.size,0,none⟩) (Aa _) _⟩;intro N r a' l' c' e;simp only[Value.agg.injEq,Array.mk.injEq,List.cons.injEq,and_true]at e;rcases o.o with⟨f,_⟩|f
 . rw[f]at e;cases e
 . rw[f]at e;cases e;exact r _ _ _ J
def Yo(v:D)(ps:Ja)(w:H)(h:Je w v ps):
 F I 75 #[v] w λe w'=>e=.returned (.int .i64 ((ps.length:Int)-1))/\Bl w w':=by
 obtain⟨u,rfl,b⟩:=h;obtain⟨a,cap,rfl,c,d,f,_⟩:=b.open;clear b;generalize ps.length=n at *;go_enter func75,ntmps75
 go_wp2;go_ret;exact⟨J,Ba _ _⟩
def Rh(v:D)(qs:Ja)(i:Int)(w:H)(h:RowK true w v qs):
 F I 92 #[v,.int .i64 i] w λe w'=>∃u,e=.returned u/\Jf w' u (if i<0 then 0 else cf qs i.toNat)/\Bl w w':=by
 obtain⟨a,l,c,rfl⟩:=h.form;obtain⟨hl,B,K,M,s,t,o,p,ll,q,kk,dd,g⟩:=h.forms;have k:=Z hl;have d:=Z g;clear hl g h;by_cases f:i<0
 . rw[BF f];go_enter func92,ntmps92
   go_wp2;exact BA (by simp[results,results92,go_sem]) J ⟨_,J,XF _,(Ba w _).alloc DI _⟩
 . rw[BE f];by_cases r:(l:Int)<=i
   . have n:=Z (show cf qs i.toNat=0 from Yt (by have:=k.o;omega));rw[n.o];go_enter func92,ntmps92
     go_wp2;exact BA (by simp[results,results92,go_sem]) J ⟨_,J,XF _,(Ba w _).alloc DI _⟩
   . obtain⟨m,rfl⟩:∃m:Nat,i=(m:Int):=⟨i.toNat,O⟩;have x:m<l:=O
     obtain⟨hi,b,rfl,hb,Q,y,R,S⟩:=d.o m x;have j:=Z hi;rw[Fo];clear d hi r;generalize s m=T at *;generalize t m=U at *;generalize o m=z at *;generalize p m=A at *;generalize ll m=l1 at *;generalize q m=c1 at *;generalize kk m=y at *;generalize dd m=d1 at *;go_enter func92,ntmps92
     go_wp2;exact BA (by simp[results,results92,go_sem]) J ⟨_,J,j.o.below (Ba w _),Ba w _⟩
end
namespace M3
variable{c l:Nat}{a:om}
def row_zero(V:H)(a:om):RowK true V (C a 0 0) []:=⟨a,0,J,Aa _,O,DI,An J⟩
def Ri(V:H):Has V (P #[C Option.none 0 0]) (.poly []):=⟨_,J,row_zero V Option.none⟩
def WM(V:H):Je V (P #[C Option.none 0 0]) []:=⟨_,J,row_zero V Option.none⟩
def DJ.poly2{w V:H}{bs:List (Option (Nat × Dat))}(M:DJ w V bs){i B:Nat}{ps:Ja}(h:bs[i]?=some (some (B,.poly ps))):∃a l c,Boxed V B 25 (C a l c)/\Je V (P #[C a l c]) ps:=by
 obtain⟨a,l,c,b,d⟩:=M.poly h;exact⟨a,l,c,b,_,J,d⟩
def Mv{W:H}{B:Nat}(b:Boxed W B 25 (C a l c)){x v:D}{qs:Ja}(h:Je W v qs):Je (W.setCell ⟨B,0,Option.none⟩ x) v qs:=by
 obtain⟨u,e,h⟩:=h;exact⟨u,e,GM b x h⟩
def Has.set1{V:H}{v:D}{d:Dat}(h:Has V v d){B:Nat}(q:Boxed V B 25 (C a l c))(n0:JS (C a l c)=true)(b:D):Has (V.setCell ⟨B,0,Option.none⟩ b) v d:=
 h.keep (Vv q n0 b) (Ap λ_ _ g=>GM q b g)
section
variable {w V:World} {bs:List (Option (Nat × Dat))} {B:Nat} {ρ:Operand->Value} {x y:Operand} {dst:Option Tmp} {ty:TypeId} {ps:String} {af:Array Edge} {gd:Option (Nat × Bool)} {q q0:Rat} {z z0:Int} {p p0:Ja} {v p1 u1:Value} {ds:List Dat} {T:World->Value->Prop}
def GG(i:Nat)(M:DJ w V bs)(h:bs[i]?=some (some (B,.poly p)):=by rfl)(hp:p1=L (some ⟨B,0,none⟩):=by rfl)(b:ρ x=p1:=by kernel_rfl):∃u,(execOp ρ { dst:=dst,op:=.load 25 x,type:=ty,pos:=ps,after:=af,guard:=gd }).run I V=.ok (.value u) V/\Has V u (.poly p):=by
 rw[hp]at b;obtain⟨a,l,c,n,r⟩:=M.poly2 h;have d:=n.cell;exact⟨_,by go_simp,r⟩
def GZ(i:Nat)(M:DJ w V bs)(hv:Has V u1 (.poly p))(h:bs[i]?=some (some (B,.poly p0)):=by rfl)(hp:p1=L (some ⟨B,0,none⟩):=by rfl)(b:ρ x=p1:=by kernel_rfl)(f:ρ y=u1:=by kernel_rfl)(hT:∀ {a l c x},Boxed V B 25 (C a l c)->DJ w (V.setCell ⟨B,0,none⟩ x) (bs.set i (some (B,.poly p)))->T (V.setCell ⟨B,0,none⟩ x) N:=by exact λ_ m=>m):Wr ρ { dst:=none,op:=.store 25 x y,type:=ty,pos:=ps,after:=af,guard:=gd } V ds (.eq N) T:=by
 rw[hp]at b;obtain⟨a,l,c,n,r⟩:=M.poly2 h;have j:=n.cell;have f0:=n.frozen;obtain⟨g,l1,c1,e⟩:=Je.form (show Je V _ _ from hv);rw[e]at hv;rw[e]at f;exact⟨.skip,N,_,by go_simp,Ap ⟨J,J⟩,J,λd v _ k=>k.set1 n J _,hT n (M.putPoly h hv)⟩
def LN(i:Nat)(M:DJ w V bs)(h:bs[i]?=some none:=by rfl)(hT:∀ {o},DJ w (V.alloc o) (bs.set i (some (V.heap.size,.poly [])))->T (V.alloc o) (L (some ⟨V.heap.size,0,none⟩)):=by exact λm=>m):Wr ρ { dst:=dst,op:=.alloc 25,type:=ty,pos:=ps,after:=af,guard:=gd } V ds .ptr T:=
 ⟨_,L (some ⟨V.heap.size,0,none⟩),_,by go_simp;exact J,An J,J,λ_ _ _ k=>k.alloc _,hT (M.fill h (.poly []) (Ri V))⟩
end
end M3
def Tryz.infoRat:(Tryz.prog.info? 50).map (λi=>(i.zero,i.size,i.bytes))=some (some (P #[E false,C none 0 0,E false,C none 0 0]),4,64):=by kernel_rfl
def YH(n:Nat):Array D:=madeCells #[E false,C none 0 0,E false,C none 0 0] (n*4)
theorem Ov{n j:Nat}(a:j<n):(YH n)[j*4]?=some (E false)/\(YH n)[j*4+1]?=some (C none 0 0)/\(YH n)[j*4+2]?=some (E false)/\(YH n)[j*4+3]?=some (C none 0 0):=by
 unfold YH madeCells;have h:∀k,k<n*4->((Array.range (n*4)).map λi=>(#[Value.bool false,Value.slice none 0 0,Value.bool false,Value.slice none 0 0]:Array D)[i%4]!)[k]?=some ((#[Value.bool false,Value.slice none 0 0,Value.bool false,Value.slice none 0 0]:Array D)[k%4]!):=λk hk=>by
  grind
 refine⟨(h _ O).trans ?_,(h _ O).trans ?_,(h _ O).trans ?_,(h _ O).trans ?_⟩
 . grind
 . grind
 . grind
 grind
def Mw(n:Nat)(h:n<=2199023255552)(w:H):(Instr.makeSlice 23 (.int .i64 (n:Int)) (.int .i64 (n:Int))).run I w=.ok (C (some ⟨w.heap.size,0,none⟩) n n) (w.alloc (G (YH n) 50)):=by
 obtain⟨i,hi,b⟩:=Fc.1 Tryz.infoRat;simp only[Prod.mk.injEq]at b;obtain⟨c,hs,hb⟩:=b;have a:=run_make (P:=I) w 23 50 i _ underlying23 hi c .i64 .i64 n n O (Int.le_refl _) (by rw[hb];omega) O;simp only[Fo,hs]at a;exact a
def Rj(n:Nat)(w:H):Dp true (w.alloc (G (YH n) 50)) w.heap.size (List.replicate n 0):=by
 refine⟨YH n,BD w _,λj a=>?_⟩;rw[A2]at a;obtain⟨b,c,d,e⟩:=Ov a;exact⟨_,_,_,_,b,c,d,e,by rw[Ya];exact XF _⟩
theorem mM(a b:om)(la ca lb cb:Nat)(ps qs:Ja)(w:H)(t:RowK true w (C a la ca) ps)(hb:RowK true w (C b lb cb) qs)(U:Sqs ps)(W:Sqs qs):
 F I 41 #[C a la ca,C b lb cb,.func (.func 42) #[] #[]] w λe w'=>∃v zs,e=.returned v/\RowK true w' v zs/\(∀j,cf zs j=cf ps j-cf qs j)/\Mu w.heap.size v/\Bl w w':=by
 obtain⟨S,ah,aj,az,_⟩:=t.forms;obtain⟨T,ai,am,bg,_⟩:=hb.forms;obtain⟨n,hn⟩:∃n:Nat,max (la:Int) (lb:Int)=(n:Int):=⟨max la lb,O⟩;have bm:n<=1099511627776:=O
 obtain⟨HN,HA,HB,HP,HQ,Qp,Qq⟩:=KB (show la<=n/\lb<=n from by omega) t hb U W S T;have Qo:=Mw n O w;have m:=Rj n w;have r:Bl w (w.alloc (G (YH n) 50)):=Ba w _;obtain⟨W0,M⟩:=ex (w.alloc (G (YH n) 50));rw[M]at m r Qo;have Qr:=Z m;have Qn:=Z r;clear m r M t hb U W S T ah aj ai am;go_enter func41,ntmps41
 go_wp2;go_loopw [17] (λi wr=>∃(k:Nat) (zs:Ja),k<=n/\i=.int .i64 (k:Int)/\Hid (zs.length=n/\(∀j,j<k->cf zs j=cf ps j-cf qs j)/\Dp true wr w.heap.size zs/\Bl w wr)) λi _=>n-(intOf i).toNat
 case atStart=>exact⟨0,_,Ay _,J,Z ⟨A2,λj g=>by omega,Qr.o,Qn.o⟩⟩
 case round=>
  obtain⟨k,zs,hk,rfl,c⟩:=hrel;by_cases bi:k<n
  . have bj:(k:Int)<(n:Int):=O
    have p:=Z (Rh _ ps (k:Int) wr (HA.o.below c.o.2.2.2));have q:=Z λ(V:H) (h:Bl wr V)=>Rh _ qs (k:Int) V ((HB.o.below c.o.2.2.2).below h);rw[BE O,Fo]at p;rw[show(if(k:Int)<0 then(0:Rat)else cf qs ((k:Int)).toNat)=cf qs k from by grind]at q;have A:=Z λ(V:H) (u v:D) (hu:Jf V u (cf ps k)) (hv:Jf V v (cf qs k))=>L3 u v (cf ps k) (cf qs k) V hu hv (HP.o.at k) (HQ.o.at k);have o:=Z (show k<zs.length from by have:=c.o.1;omega);go_wp2_with(first
     |(go_at_call 92;refine p.o.mono ?_;clear p;rintro e w1 ⟨u1,rfl,f,Q⟩;have l:=Q)
     |(go_at_call 92;refine(q.o _ l).mono ?_;clear q;rintro e w2 ⟨u2,rfl,X,x⟩;have f:=f.below x;have K:=Bt l x;clear l)
     |(go_at_call 42;refine(A.o _ _ _ f X).mono ?_;clear A;rintro e w3 ⟨u3,rfl,ae,R⟩;have B:=Bt K R;clear K f X Q x R;have d:=c.o.2.2.1.below B;obtain⟨x0,y0,z0,t0,k0,k1,k2,k3,_⟩:=d.at o.o;have f0:=d.frozen (k*4);have f1:=d.frozen (k*4+1);have f2:=d.frozen (k*4+2);have f3:=d.frozen (k*4+3);obtain⟨bz,an,bu,aq,cj,ap,bn,ay,rfl⟩:=Jf.form ae))
    go_roundw
    case rel=>
     refine⟨k+1,zs.set k (cf ps k-cf qs k),O,by go_num,Z ⟨by rw[FO];exact c.o.1,λj g=>?_,d.set o.o ae,Vr (Bt c.o.2.2.2 B) (Aa _) _ _ _ _⟩⟩;rw[G8 _ _ _ _ o.o];by_cases y:j=k
     . rw[BF y,y]
     . rw[BE y];exact c.o.2.1 j O
    case measure=>simp[intOf];omega
  . have Qm:k=n:=O
    subst Qm;go_wp2;go_ret;have s:=c.o;have z:=s.2.2.1.row (n:=k) (cap:=k) O (Aa _) O O;rw[Ai O]at z;refine⟨_,zs,J,z,λj=>?_,λa' l' c' e=>by cases e;exact Aa _,s.2.2.2⟩;rcases Ca j k with g|g
    . exact s.2.1 j g
    . have:=HN.o;have h1:=Qp.o;have h2:=Qq.o;rw[Yt O,Yt O,Yt O];grind
def WN(s t:D)(ps qs:Ja)(w:H)(d:Je w s ps)(hb:Je w t qs)(o:Sqs ps)(q:Sqs qs)(r:Sqs (JT ps qs)):
 F I 15 #[s,t] w λe w'=>∃u,e=.returned u/\Je w' u (JT ps qs)/\Ou w.heap.size u/\Bl w w':=by
 obtain⟨u,rfl,d⟩:=d;obtain⟨v,rfl,hb⟩:=hb;obtain⟨a,la,ca,rfl⟩:=d.form;obtain⟨b,lb,cb,rfl⟩:=hb.form;obtain⟨W0,c⟩:=ex (((w.alloc (G #[C a la ca] 25)).alloc (G #[C b lb cb] 25)).alloc (G #[C none 0 0] 25));have b0:Boxed W0 w.heap.size 25 (C a la ca):=by rw[<-c];exact((BH w _ _).alloc _).alloc _
 have B:Boxed W0 (w.heap.size+1) 25 (C b lb cb):=by rw[<-c];have:=(BH (w.alloc (G #[C a la ca] 25)) 25 (C b lb cb)).alloc (G #[C none 0 0] 25);simpa using this
 have K:Boxed W0 (w.heap.size+1+1) 25 (C none 0 0):=by rw[<-c];have:=BH ((w.alloc (G #[C a la ca] 25)).alloc (G #[C b lb cb] 25)) 25 (C none 0 0);simpa using this
 have f:Bl w W0:=by rw[<-c];exact((Ba w _).alloc DI _).alloc si _
 obtain⟨m,n,A,z⟩:=Dx (mM a b la ca lb cb ps qs W0 (d.below f) (hb.below f) o q) (λ(V:H) (v:D) (zs:Ja) (h:RowK true V v zs) (hs:Sqs zs)=>LM v zs V h hs) r c;have k0:=b0.cell;have k1:=B.cell;clear c d hb o q r;go_enter func15,ntmps15
 go_upto_region 1 with fail
 rw[z.o];go_wp2_with(first
  |(go_at_call 41;refine m.o.mono ?_;clear m;rintro e w1 ⟨v1,zs,rfl,U,l,S,Q⟩;have y:Sqs zs:=Sqs.of (λi=>by rw[l i,<-P8];exact A.o.at i);have x:=Z l;clear l)
  |(go_at_call 25;refine(n.o _ _ zs U y).mono ?_;clear n;rintro e w2 ⟨u2,rfl,k,T,R⟩;obtain⟨X,l9,c9,rfl⟩:=k.form;have hq:=Bt Q R;have g:=boxed_below K hq;have W:=g.cell;have f2:=g.frozen))
 have M:Jc zs=JT ps qs:=by
  rw[<-YF];exact KW λj=>by rw[x.o j,P8]
 rw[M]at k;refine BA (by simp[results,results15,go_sem,W]) J ⟨_,J,⟨_,J,GM g _ k.row⟩,?_,(Bt f hq).setCell (p:=⟨w.heap.size+1+1,0,none⟩) si _⟩;intro a' l' c' e;have:=T W0.heap.size S a' l' c' e;have h2:=f.size;omega
section
def Ow(r:Bool)(base:Nat)(W:H)(v:D)(qs:Ja):Prop:=
 (v=C none 0 0/\qs=[])\/∃g cap cur,v=C (some ⟨g,0,none⟩) qs.length cap/\base<=g/\W.heap[g]?=some (G cur (Hy r) (0,0))/\qs.length<=cap/\cap<=maxLen/\cur.size=cap*4/\(∀c∈cur.toList,JS c=true)/\Gr r W (cur.toList.take (qs.length*4)) qs
variable{r:Bool}{qs:Ja}{base:Nat}{W:H}
theorem Ow.row{v:D}(h:Ow r base W v qs)(hl:qs.length<=1099511627776):RowK r W v qs:=by
 rcases h with⟨rfl,rfl⟩|⟨g,cap,cur,rfl,m,a,b,c,n,o,d⟩
 . exact RowK.nil r W
 . refine⟨_,cap,J,b,by unfold maxLen at c;omega,hl,Ap ⟨g,J,cur,a,λj e=>?_⟩⟩;obtain⟨x,y,z,u,f,i,k,l,p⟩:=d.2 j e;grind[]
theorem Ow.form{v:D}(h:Ow r base W v qs):∃a c,v=C a qs.length c/\(∀p,a=some p->base<=p.block):=by
 rcases h with⟨rfl,rfl⟩|⟨g,cap,cur,rfl,b,_⟩
 . exact⟨none,0,J,λp e=>by cases e⟩
 grind
end
section
open M3
def Yl(q:Rat):List UInt8:=if q.den=1 then YU q.num else YU q.num++47::YU (q.den:Int)
theorem LO(a b:List UInt8):(⟨a.toArray⟩:ByteArray)++⟨b.toArray⟩=⟨(a++b).toArray⟩:=by
 apply FR;simp
theorem Rk(z:Int):(YU z).length<=20*(Jh Y z.natAbs).length+2:=by
 grind[RW,YU]
theorem WO{z:Int}(h:Sok z):(⟨(YU z).toArray⟩:ByteArray).size<=400000000000:=by
 have a:=Rk z;have b:=h.words;show(YU z).toArray.size<=_;grind
theorem WP(a b:List UInt8):(⟨a.toArray⟩:ByteArray)++⟨#[47]⟩++⟨b.toArray⟩=⟨(a++47::b).toArray⟩:=by
 grind[LO]
theorem mN(va:D)(q:Rat)(w:H)(f:Jf w va q)(o:Sq q)(ah:Lib.TabIs I w "internal/strconv.uint64pow10" .u64 Lib.pow10Tab):
 F I 210 #[va] w λe w'=>e=.returned (.string ⟨(Yl q).toArray⟩)/\Bl w w':=by
 obtain⟨j,z⟩:∃S:ByteArray,⟨(YU q.num).toArray⟩=S:=⟨_,J⟩;have bi:j.size<=400000000000:=by rw[<-z];exact WO o.num
 have n:=Z z;clear z;obtain⟨y,A⟩:∃S:ByteArray,⟨(YU (q.den:Int)).toArray⟩=S:=⟨_,J⟩;have bj:y.size<=400000000000:=by rw[<-A];exact WO o.den
 have U:=Z A;clear A;have s:=Z ah;clear ah;by_cases c:q.den=1
 . have p:=Z c;have r:=Z (show(⟨(Yl q).toArray⟩:ByteArray)=j by rw[<-n.o];unfold Yl;rw[BF c]);rw[r.o];clear c;obtain⟨az,ai,ay,am,bg,aj,aq,an,rfl⟩:=Jf.form f;obtain⟨W0,g,b⟩:=Iw 50 (.rat q) f;clear f o;go_enter func210,ntmps210
   go_upto_region 1 with fail
   rw[g.o];clear g;obtain⟨s1,a1,l1,c1,t1,b1,k1,d1,l,r1,K,j1⟩:=b.o.rat (i:=0) J;obtain⟨x,t,u,v⟩:=l.cq;have a:=Z (Kj _ q W0 r1);rw[BI p.o]at a;have d:=Z λ(V:H) (h:Bl W0 V)=>Ob _ q.num V (K.below h) (JX s.o (Bt b.o.2.2 h));rw[n.o]at d;go_wp2_with(first
    |(go_at_call 46;refine a.o.mono ?_;clear a;rintro e w1 ⟨rfl,hq⟩;obtain⟨x,t,u,v⟩:=(l.below hq).cq)
    |(go_at_call 248;refine(d.o _ hq).mono ?_;clear d;rintro e w2 ⟨rfl,B⟩;have hq:=Bt hq B))
   go_ret;exact⟨J,Bt b.o.2.2 hq⟩
 . have p:=Z c;have r:=Z (show(⟨(Yl q).toArray⟩:ByteArray)=j++⟨#[47]⟩++y by rw[<-n.o,<-U.o,WP];unfold Yl;rw[BE c]);rw[r.o];have HZ:=Z (show D0 q=q.den by unfold D0;rw[BE c]);clear c;have y1:¬9223372036854775807<j.size+1:=O
   have y2:¬9223372036854775807<j.size+1+y.size:=O
   obtain⟨az,ai,ay,am,bg,aj,aq,an,rfl⟩:=Jf.form f;obtain⟨W0,g,b⟩:=Iw 50 (.rat q) f;clear f o;go_enter func210,ntmps210
   go_upto_region 1 with fail
   rw[g.o];clear g;obtain⟨s1,a1,l1,c1,t1,b1,k1,d1,l,r1,K,j1⟩:=b.o.rat (i:=0) J;obtain⟨x,t,u,v⟩:=l.cq;have a:=Z (Kj _ q W0 r1);rw[BK p.o]at a;go_upto_region 3 with(go_at_call 46;refine a.o.mono ?_;clear a;rintro e w1 ⟨rfl,ae⟩)
   have m:=Z (b.o.below ae);clear b;clear l x t u v K r1 j1 ae;obtain⟨s2,a2,l2,c2,t2,b2,k2,d2,M,r2,i2,j2⟩:=m.o.rat (i:=0) J;obtain⟨R,T,X,W⟩:=M.cq;have d:=Z λ(V:H) (h:Bl w1 V)=>(by have k:=Ob _ q.num V (i2.below h) (JX s.o (Bt m.o.2.2 h));rw[n.o]at k;exact k);have Q:=Z λ(V:H) (h:Bl w1 V)=>(by have h0:=(j2.below h);rw[HZ.o]at h0;have k:=Ob _ (q.den:Int) V h0 (JX s.o (Bt m.o.2.2 h));rw[U.o]at k;exact k);have hq:Bl w1 w1.drew:=(BB _ w1).drew;go_region_held3 (λw'=>w'.cell? ⟨w.heap.size,0,none⟩=some (E s2)/\w'.cell? ⟨w.heap.size,1,none⟩=some (C a2 l2 c2)/\w'.cell? ⟨w.heap.size,2,none⟩=some (E t2)/\w'.cell? ⟨w.heap.size,3,none⟩=some (C b2 k2 d2)) (first|grind|(go_keep;done)|(refine⟨?_,?_,?_,?_⟩<;>((repeat rw[JO O]);first|assumption|(go_keep;done))))
    (first
     |(go_at_call 248;refine(d.o _ hq ).mono ?_;clear d;rintro e w2 ⟨rfl,B⟩;have hq:=Bt hq B;obtain⟨R,T,X,W⟩:=(M.below hq).cq)
     |(go_at_call 248;refine(Q.o _ hq ).mono ?_;clear Q;rintro e w6 ⟨rfl,ap⟩;have hq:=Bt hq ap;obtain⟨R,T,X,W⟩:=(M.below hq).cq))
   all_goals go_wp2_with fail
   go_ret;exact⟨J,Bt m.o.2.2 hq⟩
end
section
variable{c:Rat}
def mO(b:ByteArray)(n i:Nat)(r:List UInt8)(h:b.size-i=n):ByteArray.toList.loop b i r=r.reverse++b.data.toList.drop i:=by
 induction n generalizing i r with
 |zero=>
  rw[ByteArray.toList.loop,BE O,Cc (by simpa using(by omega:b.size<=i)),C7]
 |succ n c=>
  have hi:i<b.size:=O
  have a:i<b.data.toList.length:=by simpa using hi
  rw[ByteArray.toList.loop,BF hi,c (i+1) _ O,List.reverse_cons,C1,A9 a];have e:b.get! i=b.data.toList[i]:=by
   show b.data[i]! = _;rw[getElem!_pos b.data i hi];simp
  rw[e];rfl
theorem Rl(b:ByteArray):b.toList=b.data.toList:=by
 show ByteArray.toList.loop b 0 []=_;rw[mO b _ 0 [] J];rfl
def Yu(c:Rat):Rat:=if c<0 then -c else c
def Ox(i:Nat):List UInt8:=if i=0 then []else if i=1 then [120]else 120::94::YJ i
theorem neg_num:(c<0)↔c.num<0:=by
 rw[<-Rat.not_le,<-Rat.num_nonneg];omega
theorem mQ(h:c<0):Yu c=-c:=by unfold Yu;rw[BF h]
theorem mR(h:¬c<0):Yu c=c:=by unfold Yu;rw[BE h]
theorem mS(c:Rat):(Yu c).num=(c.num.natAbs:Int)/\(Yu c).den=c.den:=by
 grind[neg_num,mQ,Rat.neg_num,Rat.neg_den,mR]
def mT(c:Rat):Yl c≠[]:=by
 unfold Yl
 have:YU c.num≠[]:=by
  unfold YU;split
  . simp
  . by_cases hn:c.num.natAbs=0
    . rw[hn];decide
    . obtain⟨d,t,e,_⟩:=XP hn;rw[e];simp
 split
 . exact this
 . simp
end
namespace M3
def Oy{W W':H}{row:Option Nat}(hg:W.grownBy W' row)(z:∀r,row=some r->∃o:Obj,W.heap[r]?=some o/\o.isCells=false){k:IntKind}{v:D}{ds:m0}(h:Row k W v ds):Row k W' v ds:=by
 obtain⟨a,cap,e,n,p,q,c⟩:=h;refine⟨a,cap,e,n,p,q,?_⟩;rcases c with c|⟨b,off,l,d,i⟩
 . exact An c
 . by_cases g:ds=[]
   . exact An g
   . have hl:0<ds.length:=Ag.2 g;have f:some b≠row:=λe=>by
      obtain⟨o,y,x⟩:=z b e.symm;have s:=i 0 hl;cases o with
      |cells cs t m=>cases x
      |_=>simp[World.cell?,y]at s
     exact Ap ⟨b,off,l,d.of (hg.block b d.lt f),λj u=>(BS (w:=W) (hg.block b d.lt f)).trans (i j u)⟩
variable{cs:Array D}{W W':H}
def YP{row:Option Nat}(hg:W.grownBy W' row)(d:∀r,row=some r->∃o:Obj,W.heap[r]?=some o/\o.isCells=false){B:Nat}{t:TypeId}(h:Bx W B t cs):Bx W' B t cs:=by
 have b:some B≠row:=λe=>by
  obtain⟨o,a,c⟩:=d B e.symm;rw[show W.heap[B]?=_ from h]at a;cases a;cases c
 exact(hg.block B h.lt b).trans h
def Oz{row:Option Nat}(hg:W.grownBy W' row)(g:∀r,row=some r->∃o:Obj,W.heap[r]?=some o/\o.isCells=false){r:Bool}{v:D}{qs:Ja}(h:RowK r W v qs):RowK r W' v qs:=by
 obtain⟨a,cap,e,j,k,l,c⟩:=h;refine⟨a,cap,e,j,k,l,?_⟩;rcases c with c|⟨b,i,f⟩
 . exact An c
 . have hb:W'.heap[b]?=W.heap[b]?:=by
    obtain⟨cs,d,_⟩:=f;rw[d];exact YP hg g d
   exact Ap ⟨b,i,f.keep hb λ_ _ _ h=>Oy hg g h⟩
def DJ.own{w:H}{bs:List (Option (Nat × Dat))}{row:Option Nat}(M:DJ w W bs)(hg:W.grownBy W' row)(b:∀r,row=some r->w.heap.size<=r/\∃o:Obj,W.heap[r]?=some o/\o.isCells=false):DJ w W' bs:=by
 have a:∀r,row=some r->∃o:Obj,W.heap[r]?=some o/\o.isCells=false:=λr e=>(b r e).2;refine⟨λi B d h=>?_,M.2.1,M.2.2.grown hg M.2.2.size λk e=>(b k e).1⟩;obtain⟨⟨cs,c,f⟩,g⟩:=M.1 i B d h;exact⟨⟨cs,YP hg a c,f.keep (λ_ _ _ h=>Oy hg a h) (Ap λ_ _ h=>Oz hg a h)⟩,g⟩
def mU{w:H}{B:Nat}(b:w.heap.size<=B)(f:Nat->List (Option (Nat × Dat))):OwnFrom B (λk W=>DJ w W (f k)):=
 λ_ _ _ _ M hg a=>M.own hg λr e=>⟨Ae b (a r e).1,(a r e).2⟩
def DJ.with{w:H}{bs:List (Option (Nat × Dat))}(M:DJ w W bs){b:Nat}(d:Dat)(hb:Bx W b d.ty cs)(m:Has W (P cs) d)(o:w.heap.size<=b)(f:∀(i:Nat) B g,bs[i]?=some (some (B,g))->B≠b):DJ w W (bs++[some (b,d)]):=by
 have e:∀(j:Nat) x,(bs++[some (b,d)])[j]?=some (some x)->bs[j]?=some (some x)\/(j=bs.length/\x=(b,d)):=λj x h=>by
  by_cases n:j<bs.length
  . rw[CY n]at h;exact An h
  . rw[Cg O]at h;obtain⟨k,hk⟩:=ex (j-bs.length);rw[hk]at h;cases k with
    |zero=>simp at h;exact Ap ⟨O,h.symm⟩
    |succ k=>simp at h
 refine⟨λj B d h=>?_,λj k B d1 l a c=>?_,M.2.2⟩
 . rcases e j _ h with h|⟨_,h⟩
   . exact M.1 j B d h
   . cases h;exact⟨⟨cs,hb,m⟩,o⟩
 . rcases e j _ a with a|⟨p,a⟩<;>rcases e k _ c with c|⟨q,c⟩
   . exact M.2.1 j k B d1 l a c
   . cases c;exact absurd J (f j _ _ a)
   . cases a;exact absurd J (f k _ _ c)
   . omega
def KF(w W0 W:H)(bs:List (Option (Nat × Dat))):Prop:=DJ w W bs/\KeepsOthers W0 W
def KF.below{w W0 W W':H}{bs:List (Option (Nat × Dat))}(h:KF w W0 W bs)(hb:Bl W W'):KF w W0 W' bs:=⟨h.1.below hb,h.2.trans (Xs hb)⟩
def KF.drew{w W0 W:H}{bs:List (Option (Nat × Dat))}(h:KF w W0 W bs):KF w W0 W.drew bs:=h.below ((BB _ W).drew)
def Rm(W:H)(B:Nat)(x y z u:D):KeepsOthers W (put4 W B x y z u):=(((BL _ _ _).trans (BL _ _ _)).trans (BL _ _ _)).trans (BL _ _ _)
def WR(W:H)(B o:Nat)(x y z u:D):KeepsOthers W (putAt W B o x y z u):=(((BL _ _ _).trans (BL _ _ _)).trans (BL _ _ _)).trans (BL _ _ _)
