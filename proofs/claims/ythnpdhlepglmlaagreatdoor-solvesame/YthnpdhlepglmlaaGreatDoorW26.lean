import Derived.Test.YthnpdhlepglmlaaGreatDoorW22
import Derived.Test.YthnpdhlepglmlaaGreatDoorW24
set_option linter.all false
open Go.Value renaming slice->C,bool->E,pointer->L,agg->P
open Go.Obj renaming cells->G
open Go renaming World->H,Value->D,Calls->F,undef->N
open Go.Proofs.Tryz renaming prog->I
set_option maxRecDepth 99999
set_option maxHeartbeats 0
namespace Go.Proofs.YthnpdhlepglmlaaGreatDoor
open Tryz
open Go.RowKit Go.Shelf
attribute [local go_sem] Oper.semAt_some
def Bz:type_of% @decide_eq_decide:=@decide_eq_decide
def Kq(v z:D)(x y:Int)(w:H)(S:Jk w v x)(hb:Jk w z y)(n:(Jh Y x.natAbs).length<1000000000000)(o:(Jh Y y.natAbs).length<1000000000000):
 F I 95 #[v,z] w λe w'=>∃u,e=.returned u/\Jk w' u (Int.gcd x y:Nat)/\Bl w w':=by
 obtain⟨a,la,ca,f,c⟩:=S;cases f;obtain⟨b,lb,cb,f,hv⟩:=hb;cases f;have l:=c.len;have m:=hv.len;obtain⟨s,hs⟩:=ex (decide (x<0));obtain⟨t,q⟩:=ex (decide (y<0));rw[hs,q];obtain⟨W0,i⟩:=ex (((w.alloc (G #[E s,C a la ca] 48)).alloc (G #[E t,C b lb cb] 48)).alloc (G #[E false,C none 0 0] 48));obtain⟨g,b0,R,d⟩:=Nc i;have B:=Z (jU a la ca b lb cb _ _ W0 (UN.below c g) (UN.below hv g) (by rw[l];exact n) (by rw[m];exact o));have A:=Z λ(V:H) (u:D) (c:UN V u (Nat.gcd x.natAbs y.natAbs))=>show F I 105 #[E false,u] V λe w'=>∃u,e=.returned u/\Jk w' u (Int.gcd x y:Nat)/\Bl V w' from Kh false u _ V c;have k1:=b0.c1;have k3:=R.c1;have M:=Z i;clear c hv hs q l m n o i;go_enter Tryz.func95,Tryz.ntmps95
 go_upto_region 1 with fail
 rw[M.o];go_wp2_with(first
  |(go_at_call 167;refine B.o.mono ?_;rintro e w1 ⟨u1,rfl,r,T⟩;obtain⟨na,nc,rfl⟩:=UN.form r)
  |(go_at_call 105;refine(A.o _ _ r).mono ?_;rintro e w2 ⟨u2,rfl,k,U⟩;obtain⟨X,sl,sc,rfl⟩:=k.form;obtain⟨W,j⟩:=ex (decide (((Int.gcd x y:Nat):Int)<0));rw[j]at k;rw[j];clear j;have hq:=Bt T U;obtain⟨r0,r1⟩:=(d.below hq).cp;obtain⟨f0,f1⟩:=(d.below hq).fp))
 have Q:=Bt g hq;have K:=k.box (d.below hq) rfl rfl (x0:=E W) (x1:=C X sl sc);exact A0 (by simp[results,Tryz.results95,go_sem,r0,r1]) rfl ⟨_,rfl,K,(Q.setCell (p:=⟨_,0,none⟩) Dg _).setCell (p:=⟨_,1,none⟩) Dg _⟩
def kK(w:H)(a b c d:Obj):Bl w ((((w.alloc a).alloc b).alloc c).alloc d):=
 (((Ba w _).alloc DH _).alloc si _).alloc si _
theorem VL{x y z r:Int}(d:y≠0)(h:r+y*z=x)(c:0<=r)(e:r<y.natAbs):z=x/y/\r=x%y:=by
 rcases Int.lt_or_gt_of_ne d with hn|hp
 . have f:=(Int.ediv_emod_unique (a:=x) (b:=-y) (r:=r) (q:=-z) O).2 ⟨DG,c,O⟩;grind[Int.ediv_neg,Int.emod_neg]
 grind[Int.ediv_emod_unique]
theorem kL{x y:Int}(b:y≠0)(c:¬(x<0/\x.natAbs%y.natAbs≠0)):
 (if(!(decide (x<0)==decide (y<0)))=true then -((x.natAbs/y.natAbs:Nat):Int)else((x.natAbs/y.natAbs:Nat):Int))=x/y/\((x.natAbs%y.natAbs:Nat):Int)=x%y:=by
 have a:=Ch x.natAbs y.natAbs;have d:=Cm x.natAbs (show y.natAbs>0 by omega);generalize x.natAbs/y.natAbs=Q at *;generalize x.natAbs%y.natAbs=R at *;have e:(y.natAbs:Int)*Q+R=x.natAbs:=by rw[<-a];push_cast;rfl
 apply VL b _ O O;grind
theorem kN{x y:Int}(c:y≠0)(a:x<0/\x.natAbs%y.natAbs≠0):
 (if(!(decide (x<0)==decide (y<0)))=true then -((x.natAbs/y.natAbs+1:Nat):Int)else((x.natAbs/y.natAbs+1:Nat):Int))=x/y/\((y.natAbs-x.natAbs%y.natAbs:Nat):Int)=x%y:=by
 have b:=Ch x.natAbs y.natAbs;have e:=Cm x.natAbs (show y.natAbs>0 by omega);generalize x.natAbs/y.natAbs=Q at *;generalize x.natAbs%y.natAbs=R at *;have f:(y.natAbs:Int)*Q+R=x.natAbs:=by rw[<-b];push_cast;rfl
 obtain⟨g,d⟩:=a;apply VL c _ O O;grind
def kP{W:H}{B:Nat}{t:TypeId}{a b u0 u1:D}(x0 x1 y0 y1:D)(h:JD W B t a b)(k:JD W (B+1) t u0 u1):
 JD ((((W.setCell ⟨B,0,none⟩ x0).setCell ⟨B,1,none⟩ x1).setCell ⟨B+1,0,none⟩ y0).setCell ⟨B+1,1,none⟩ y1) B t x0 x1/\JD ((((W.setCell ⟨B,0,none⟩ x0).setCell ⟨B,1,none⟩ x1).setCell ⟨B+1,0,none⟩ y0).setCell ⟨B+1,1,none⟩ y1) (B+1) t y0 y1:=
 ⟨(((h.set0 x0).set1 x1).far DH y0).far DH y1,(((k.far DH x0).far DH x1).set0 y0).set1 y1⟩
def kQ(w:H)(a b c d:D)(p0 p1:D):
 JD ((((w.alloc (G #[a,b] 48)).alloc (G #[c,d] 48)).alloc (G #[p0,p1] 48)).alloc (G #[p0,p1] 48)) w.heap.size 48 a b/\
 JD ((((w.alloc (G #[a,b] 48)).alloc (G #[c,d] 48)).alloc (G #[p0,p1] 48)).alloc (G #[p0,p1] 48)) (w.heap.size+1) 48 c d/\
 JD ((((w.alloc (G #[a,b] 48)).alloc (G #[c,d] 48)).alloc (G #[p0,p1] 48)).alloc (G #[p0,p1] 48)) (w.heap.size+1+1) 48 p0 p1/\
 JD ((((w.alloc (G #[a,b] 48)).alloc (G #[c,d] 48)).alloc (G #[p0,p1] 48)).alloc (G #[p0,p1] 48)) (w.heap.size+1+1+1) 48 p0 p1:=by
 refine⟨(((JD.new w _ _ _).alloc _).alloc _).alloc _,?_,?_,?_⟩
 . have h:=((JD.new (w.alloc (G #[a,b] 48)) 48 c d).alloc (G #[p0,p1] 48)).alloc (G #[p0,p1] 48);rw[Ax]at h;exact h
 . have h:=(JD.new ((w.alloc (G #[a,b] 48)).alloc (G #[c,d] 48)) 48 p0 p1).alloc (G #[p0,p1] 48);rw[Ax,Ax]at h;exact h
 . have h:=JD.new (((w.alloc (G #[a,b] 48)).alloc (G #[c,d] 48)).alloc (G #[p0,p1] 48)) 48 p0 p1;rw[Ax,Ax,Ax]at h;exact h
theorem kR(a:Option Addr)(la ca:Nat)(b:Option Addr)(lb cb X c:Nat)(s t:Bool)(z r:Int)(w:H)(hu:UN w (C a la ca) X)(hv:UN w (C b lb cb) c)(hY:c≠0)(bz:la<1000000000000)(ce:lb<1000000000000)
(HP:Hid (¬(s=true/\X%c≠0)->(if(!(s==t))=true then -((X/c:Nat):Int)else((X/c:Nat):Int))=z/\((X%c:Nat):Int)=r))
(HN:Hid (s=true/\X%c≠0->(if(!(s==t))=true then -((X/c+1:Nat):Int)else((X/c+1:Nat):Int))=z/\((c-X%c:Nat):Int)=r)):
 F I 168 #[P #[E s,C a la ca],P #[E t,C b lb cb]] w λe w'=>∃q o,e=.returned (.tuple #[q,o,E true])/\Jk w' q z/\Jk w' o r/\Bl w w':=by
 obtain⟨b0,j,A,b5⟩:=kQ w (E s) (C a la ca) (E t) (C b lb cb) (E false) (C none 0 0);have x:=kK w (G #[E s,C a la ca] 48) (G #[E t,C b lb cb] 48) (G #[E false,C none 0 0] 48) (G #[E false,C none 0 0] 48);obtain⟨W0,ae⟩:=ex ((((w.alloc (G #[E s,C a la ca] 48)).alloc (G #[E t,C b lb cb] 48)).alloc (G #[E false,C none 0 0] 48)).alloc (G #[E false,C none 0 0] 48));rw[ae]at b0 j A b5 x;have Qh:=Z ae;have cj:lb≠0:=λe=>hY ((Yb Jf).1 (AJ (by rw[<-UN.len hv,e])));have Qn:=UN.below hu x;have Qd:=UN.below hv x;have Qm:=Z (QF a la ca b lb cb X c W0 Qn Qd hY O);have Qw:=Z Qd;have Qq:=Z (UN.len hu).symm;obtain⟨k0,k1⟩:=b0.cp;obtain⟨k2,l⟩:=j.cp;clear ae hu hv Qn Qd;go_enter Tryz.func168,Tryz.ntmps168
 go_upto_region 1 with fail
 rw[Qh.o];go_upto_region 4 with(go_at_call 225;refine Qm.o.mono ?_;rintro e w1 ⟨u1,v1,rfl,k,M,g⟩;obtain⟨ua,uc,rfl⟩:=UN.form k;obtain⟨va,vc,rfl⟩:=UN.form M)
 clear Qm Qh;obtain⟨k0,k1⟩:=(b0.below g).cp;obtain⟨k2,l⟩:=(j.below g).cp;have Qg:(Jh Y (X%c)).length=0↔X%c=0:=⟨λh=>(Yb Jf).1 (AJ h),λh=>by rw[h,JW];rfl⟩;have co:=Cm X (show c>0 by omega);have cn:=X1 (m:=X) (n:=X/c) (Fd _ _);have Qk:(Jh Y (X/c)).length<1099511627776:=by
  have d:=(JM k).2.2.2.1
  have:(Jh Y X).length=la:=by
   have h:=Qq.o;omega
  omega
 obtain⟨lr,bj⟩:=ex ((Jh Y (X%c)).length);obtain⟨lq,bi⟩:=ex ((Jh Y (X/c)).length);rw[bj]at M Qg ⊢;rw[bi]at k Qk ⊢;obtain⟨cd,bg⟩:=ex ((s&&decide (0<lr)):Bool);have i:=Z bg;have Qp:=Z Qg;clear bg Qg bj bi;go_cut [29] λv w2=>v=E cd/\w2=w1
 case first=>
  cases s with
  |false=>
   have e5:cd=false:=by rw[<-i.o];rfl
   go_wp2_with fail
   go_meet
   grind
  |true=>
   by_cases h5:0<lr
   . have e5:cd=true:=by rw[<-i.o];simp;omega
     go_wp2_with fail
     go_meet
     grind
   . have e5:cd=false:=by rw[<-i.o];simp;omega
     go_wp2_with fail
     go_meet
     grind
 case rest=>
  obtain⟨rfl,rfl⟩:=hcut;go_upto_if 29 with fail
  go_cut [7,8] λqv rv w2=>∃(W:Option Addr) (ql qc Q:Nat) (T:Option Addr) (ol U R:Nat),qv=C W ql qc/\rv=C T ol U/\Hid (UN w2 (C W ql qc) Q)/\Hid (UN w2 (C T ol U) R)/\Hid ((if(!(s==t))=true then -(Q:Int)else(Q:Int))=z/\(R:Int)=r)/\Bl W0 w2
  case first=>
   cases cd with
   |false=>
    have K:¬(s=true/\X%c≠0):=λ⟨d,h2⟩=>by
     have h:=i.o;rw[d]at h;simp at h;exact h2 (Qp.o.1 h)
    go_wp2_with fail
    go_meet
    case rel=>exact⟨_,_,_,_,_,_,_,_,rfl,rfl,Z k,Z M,Z (HP.o K),g⟩
   |true=>
    have K:s=true/\X%c≠0:=by
     have h:=i.o;simp at h;exact⟨h.1,λe=>by have:=Qp.o.2 e;omega⟩
    have HC:=Z K;clear K;have Qv:=Z (show ∀V:H,Bl wc V->F I 165 #[C ua lq uc,C (some ⟨V.heap.size,0,none⟩) 1 1] (V.alloc (G #[.int .u64 1] 223)) λe w'=>∃u,e=.returned u/\UN w' u (X/c+1)/\Below (V.alloc (G #[.int .u64 1] 223)).heap.size (V.alloc (G #[.int .u64 1] 223)) w' from λV h=>by
     have Qe:Row .u64 (V.alloc (G #[.int .u64 1] 223)) (C (some ⟨V.heap.size,0,none⟩) 1 1) (Jh Y 1):=by
      rw[QG O uo];exact(DQ.made (xs:=[1]) (BC V (G #[.int .u64 ((1:Nat):Int)] 223))).row 0 1 1 DH O O O
     exact Tr ua lq uc (some ⟨V.heap.size,0,none⟩) 1 1 (X/c) 1 _ (Row.below (Row.below k h) (Ba V _)) Qe Qk O)
    have Qz:=Z λ(V:H) (h:Bl wc V)=>Px b lb cb va lr vc c (X%c) V (Row.below (Row.below Qw.o g) h) (Row.below M h) O;have hq:Bl wc wc.drew:=(BA _ wc).drew;have bx:=j.below g;go_wp2_with fail
    have l:=bx.c1;go_region_held3 (λw'=>w'.cell? ⟨w.heap.size+1,1,none⟩=some (C b lb cb)) (first|exact l|(go_keep;done))
     (first
      |(go_at_call 165;refine(Qv.o _ hq).mono ?_;rintro e w3 ⟨u3,rfl,bm,bu⟩;obtain⟨pa,pc,rfl⟩:=UN.form bm;have hq:=U6 hq bu;have l:=(bx.below hq).c1)
      |(go_at_call 166;refine(Qz.o _ hq).mono ?_;rintro e w4 ⟨u4,rfl,bn,ap⟩;obtain⟨ma,mc,rfl⟩:=UN.form bn;have hq:=Bt hq ap;have l:=(bx.below hq).c1))
    all_goals go_wp2_with fail
    go_meet
    case rel=>exact⟨_,_,_,_,_,_,_,_,rfl,rfl,Z (UN.below bm ap),Z bn,Z (HN.o HC.o),Bt g hq⟩
  case rest=>
   obtain⟨W,ql,qc,Q,T,ol,U,R,rfl,rfl,hQ,hR,hZ,B⟩:=hcut;have Qi:=Z (show ∀V:H,Bl wc V->F I 105 #[E (!(s==t)),C W ql qc] V λe w'=>∃u,e=.returned u/\Jk w' u z/\Bl V w' from λV h=>by
    have d:=Kh (!(s==t)) _ _ V (UN.below hQ.o h);rw[hZ.o.1]at d;exact d)
   have Qj:=Z (show ∀V:H,Bl wc V->F I 105 #[E false,C T ol U] V λe w'=>∃u,e=.returned u/\Jk w' u r/\Bl V w' from λV h=>by
    have d:=Kh false _ _ V (UN.below hR.o h);simp only[CQ,if_false]at d;rw[hZ.o.2]at d;exact d)
   have k0:=(b0.below B).c0;have k2:=(j.below B).c0;go_wp2_with(first
    |(go_at_call 105;refine(Qi.o _ (BA _ _)).mono ?_;clear Qi;rintro e w5 ⟨u5,rfl,am,ah⟩;obtain⟨y,S,c5,rfl⟩:=am.form;obtain⟨s5,ai⟩:=ex (decide (z<0));rw[ai]at am;rw[ai];clear ai)
    |(go_at_call 105;refine(Qj.o _ ah).mono ?_;clear Qj;rintro e w6 ⟨u6,rfl,an,aq⟩;obtain⟨a6,l6,c6,rfl⟩:=an.form;obtain⟨s6,aj⟩:=ex (decide (r<0));rw[aj]at an;rw[aj];clear aj;have f:=(Bt B ah).trans (aq.mono (Bt B ah).size);obtain⟨q0,q1⟩:=(A.below f).cp;obtain⟨q2,q3⟩:=(b5.below f).cp;obtain⟨f0,f1⟩:=(A.below f).fp;obtain⟨f2,f3⟩:=(b5.below f).fp))
   have Qf:=A.below f;have Qo:=b5.below f;obtain⟨z4,z5⟩:=kP (E s5) (C y S c5) (E s6) (C a6 l6 c6) Qf Qo;obtain⟨Qy,Qx⟩:=z4.cp;obtain⟨Qr,Qu⟩:=z5.cp;have Ql:JD ((w6.setCell ⟨w.heap.size+1+1,0,none⟩ (E s5)).setCell ⟨w.heap.size+1+1,1,none⟩ (C y S c5)) (w.heap.size+1+1+1) 48 (E false) (C none 0 0):=(Qo.far DH _).far DH _;have Qs:=((am.below aq).box Qf rfl rfl (x0:=E s5) (x1:=C y S c5)).box Ql rfl rfl (x0:=E s6) (x1:=C a6 l6 c6);have Qt:=(an.box Qf rfl rfl (x0:=E s5) (x1:=C y S c5)).box Ql rfl rfl (x0:=E s6) (x1:=C a6 l6 c6);have Ua:=Bt x f;exact A0 (by simp[results,Tryz.results168,go_sem,Qy,Qx,Qr,Qu]) rfl ⟨_,_,rfl,Qs,Qt,(((Ua.setCell (p:=⟨_,0,none⟩) Dg _).setCell (p:=⟨_,1,none⟩) Dg _).setCell (p:=⟨_,0,none⟩) Dg _).setCell (p:=⟨_,1,none⟩) Dg _⟩
def OD(g i:D)(x y:Int)(w:H)(j:Jk w g x)(hb:Jk w i y)(f:y≠0)(k:(Jh Y x.natAbs).length<1000000000000)(l:(Jh Y y.natAbs).length<1000000000000):
 F I 168 #[g,i] w λe w'=>∃q o,e=.returned (.tuple #[q,o,E true])/\Jk w' q (x/y)/\Jk w' o (x%y)/\Bl w w':=by
 obtain⟨a,la,ca,rfl,d⟩:=j;obtain⟨b,lb,cb,rfl,hv⟩:=hb;refine kR a la ca b lb cb x.natAbs y.natAbs _ _ (x/y) (x%y) w d hv O (by rw[UN.len d];exact k) (by rw[UN.len hv];exact l) (λc=>kL f λh=>c ⟨BG h.1,h.2⟩) (λc=>kN f ⟨Be c.1,c.2⟩)
section
open M3
def kS(z:Int):(XQ z 0=0)↔z=0:=by
 unfold XQ;omega
def VM(v:D)(z:Int)(w:H)(h:Jk w v z):
 F I 102 #[v] w λe w'=>e=.returned (E (decide (z=0)))/\Bl w w':=by
 obtain⟨a,l,c,rfl⟩:=h.form;obtain⟨s,hs⟩:=ex (decide (z<0));rw[hs]at h ⊢;clear hs;have b0:=JD.new w 48 (E s) (C a l c);have b:Bl w (w.alloc (G #[E s,C a l c] 48)):=Ba w _;obtain⟨W0,d⟩:=ex (w.alloc (G #[E s,C a l c] 48));rw[d]at b0 b;have i:=Z d;have f:=Z (Ih _ _ z 0 W0 (h.below b) (EW _));obtain⟨k,m⟩:=b0.cp;have g:=Z (kS z);obtain⟨n,hn⟩:=ex (XQ z 0);rw[hn]at f g;clear d hn;go_enter Tryz.func102,Tryz.ntmps102
 go_upto_region 1 with fail
 rw[i.o];go_wp2_with(go_at_call 47;refine f.o.mono ?_;rintro e w1 ⟨rfl,j⟩)
 go_ret;refine⟨?_,Bt b j⟩;show Ending.returned (Value.bool (n==0))=_;have e:(n==0)=decide (z=0):=by rw[Fz];simp[g.o]
 rw[e]
def dd(y:Int):Int:=if y=0 then 1 else y
def VN(v:D)(x y:Int)(w:H)(h:Xx w v x y):
 F I 46 #[v] w λe w'=>e=.returned (E (decide (y=0)))/\Bl w w':=by
 obtain⟨s,a,l,c,t,b,k,d,rfl,p,m⟩:=h;have b0:=JS.new w 50 (E s) (C a l c) (E t) (C b k d);have f:Bl w (w.alloc (G #[E s,C a l c,E t,C b k d] 50)):=Ba w _;obtain⟨W0,g⟩:=ex (w.alloc (G #[E s,C a l c,E t,C b k d] 50));rw[g]at b0 f;have j:=Z g;have i:=Z (VM _ _ W0 (m.below f));have q:=b0.c2;have r:=b0.c3;obtain⟨n,hn⟩:=ex (decide (y=0));rw[hn]at i ⊢;clear g hn;go_enter Tryz.func46,Tryz.ntmps46
 go_upto_region 1 with fail
 rw[j.o];go_wp2_with(go_at_call 102;refine i.o.mono ?_;rintro e w1 ⟨rfl,o⟩)
 go_ret;exact⟨rfl,Bt f o⟩
def VO(v:D)(x y:Int)(w:H)(h:Xx w v x y):
 F I 49 #[v] w λe w'=>∃u,e=.returned u/\Jk w' u (dd y)/\Bl w w':=by
 have B:=h;obtain⟨s,a,l,c,t,b,k,d,rfl,T,K⟩:=h;obtain⟨W0,i⟩:=ex ((w.alloc (G #[E s,C a l c,E t,C b k d] 50)).alloc (G #[E false,C none 0 0] 48));have b0:JS W0 w.heap.size 50 (E s) (C a l c) (E t) (C b k d):=by rw[<-i];exact(JS.new w _ _ _ _ _).alloc _
 have m:Bl w W0:=by rw[<-i];exact MB w _ _
 have g:JD W0 (w.heap.size+1) 48 (E false) (C none 0 0):=by
  have h:=JD.new (w.alloc (G #[E s,C a l c,E t,C b k d] 50)) 48 (E false) (C none 0 0);rw[Ax,i]at h;exact h
 have j:=Z (VN _ x y W0 (B.below m));have A:=Z i;obtain⟨V,W,X,k3⟩:=b0.cq;have S:=Z (K.below m);clear B T K i;by_cases hq:y=0
 . rw[BG hq]at j;have n:=Z (show dd y=1 by unfold dd;rw[BE hq]);clear hq;go_enter Tryz.func49,Tryz.ntmps49
   go_upto_region 1 with fail
   rw[A.o];go_wp2_with(first
    |(go_at_call 46;refine j.o.mono ?_;rintro e w1 ⟨rfl,f⟩)
    |(go_at_call 107;refine(F6 1 O O _).mono ?_;rintro e w2 ⟨u2,rfl,z,U⟩;obtain⟨R,sl,sc,rfl⟩:=z.form;obtain⟨Q,r⟩:=ex (decide ((1:Int)<0));rw[r]at z;rw[r];clear r;have hq:=Bt f U;obtain⟨r0,r1⟩:=(g.below hq).cp;obtain⟨f0,f1⟩:=(g.below hq).fp))
   have q:=Bt m hq;have o:=z.box (g.below hq) rfl rfl (x0:=E Q) (x1:=C R sl sc);exact A0 (v:=P #[E Q,C R sl sc]) (by simp[results,Tryz.results49,go_sem,r0,r1]) rfl ⟨_,rfl,by rw[n.o];exact o,(q.setCell (p:=⟨_,0,none⟩) Dg _).setCell (p:=⟨_,1,none⟩) Dg _⟩
 . rw[BJ hq]at j;have n:=Z (show y=dd y by unfold dd;rw[BD hq]);clear hq;go_enter Tryz.func49,Tryz.ntmps49
   go_upto_region 1 with fail
   rw[A.o];go_wp2_with(go_at_call 46;refine j.o.mono ?_;rintro e w1 ⟨rfl,f⟩;have m2:=(b0.below f).c2;have m3:=(b0.below f).c3;obtain⟨r0,r1⟩:=(g.below f).cp;obtain⟨f0,f1⟩:=(g.below f).fp)
   have q:=Bt m f;have M:=S.o.below f;rw[n.o]at M;have o:=M.box (g.below f) rfl rfl (x0:=E t) (x1:=C b k d);exact A0 (v:=P #[E t,C b k d]) (by simp[results,Tryz.results49,go_sem,r0,r1]) rfl ⟨_,rfl,o,(q.setCell (p:=⟨_,0,none⟩) Dg _).setCell (p:=⟨_,1,none⟩) Dg _⟩
def QN(q:Rat):dd (Dw q)=q.den:=by
 have:=q.den_pos;unfold dd Dw;omega
def KH(v:D)(q:Rat)(w:H)(h:Jg w v q):
 F I 46 #[v] w λe w'=>e=.returned (E (decide (q.den=1)))/\Bl w w':=by
 have a:=VN v q.num (Dw q) w h.pair;rwa[Bz.2 Ng]at a
def FU(v:D)(q:Rat)(w:H)(h:Jg w v q):
 F I 49 #[v] w λe w'=>∃u,e=.returned u/\Jk w' u (q.den:Int)/\Bl w w':=by
 have a:=VO v q.num (Dw q) w h.pair;rwa[QN]at a
def G9(K M:D)(x y:Int)(w:H)(g:Jk w K x)(hb:Jk w M y)(B:y≠0)(r:Sok x)(v:Sok y):
 F I 96 #[K,M] w λe w'=>∃u,e=.returned u/\Jk w' u (x/y)/\Bl w w':=by
 obtain⟨a,la,ca,rfl⟩:=g.form;obtain⟨b,lb,cb,rfl⟩:=hb.form;obtain⟨s,hs⟩:=ex (decide (x<0));obtain⟨t,z⟩:=ex (decide (y<0));rw[hs]at g ⊢;rw[z]at hb ⊢;clear hs z;obtain⟨W0,l⟩:=ex (((w.alloc (G #[E s,C a la ca] 48)).alloc (G #[E t,C b lb cb] 48)).alloc (G #[E false,C none 0 0] 48));obtain⟨k,b0,U,V⟩:=Nc l;have Q:=Z (OD _ _ x y W0 (g.below k) (hb.below k) B (by have:=r.words;omega) (by have:=v.words;omega));have S:=Z l;obtain⟨k0,k1⟩:=b0.cp;obtain⟨k2,k3⟩:=U.cp;clear g hb B r v l;go_enter Tryz.func96,Tryz.ntmps96
 go_upto_region 1 with fail
 rw[S.o];go_upto_region 2 with(go_at_call 168;refine Q.o.mono ?_;rintro e w1 ⟨u1,u2,rfl,o,A,q⟩;obtain⟨c,l1,c1,rfl⟩:=o.form;obtain⟨d,m⟩:=ex (decide (x/y<0));rw[m]at o;rw[m];clear m;obtain⟨f,l2,c2,rfl⟩:=A.form;obtain⟨i,n⟩:=ex (decide (x%y<0));rw[n]at A;rw[n];clear n)
 have W:=(JD.new w1 48 (E d) (C c l1 c1)).alloc (G #[E i,C f l2 c2] 48);have j:=((V.below q).alloc (G #[E d,C c l1 c1] 48)).alloc (G #[E i,C f l2 c2] 48);have X:=(o.alloc (G #[E d,C c l1 c1] 48)).alloc (G #[E i,C f l2 c2] 48);have T:Bl w ((w1.alloc (G #[E d,C c l1 c1] 48)).alloc (G #[E i,C f l2 c2] 48)):=Bt (Bt k q) (MB w1 _ _)
 obtain⟨q0,q1⟩:=W.cp;obtain⟨r0,r1⟩:=j.cp;obtain⟨f0,f1⟩:=j.fp;go_wp2_with fail
 have R:=X.box j rfl rfl (x0:=E d) (x1:=C c l1 c1);exact A0 (by simp[results,Tryz.results96,go_sem,r0,r1]) rfl ⟨_,rfl,R,(T.setCell (p:=⟨_,0,none⟩) Dg _).setCell (p:=⟨_,1,none⟩) Dg _⟩
def QO(w:H)(s t:Bool)(a b:Option Addr)(la ca lb cb:Nat)(x y:Int)(c:Jk w (P #[E s,C a la ca]) x)(hb:Jk w (P #[E t,C b lb cb]) y):
 DI w (((w.alloc (G #[E s,C a la ca] 48)).alloc (G #[E t,C b lb cb] 48)).alloc (G #[E false,C none 0 0,E false,C none 0 0] 50)) [some (w.heap.size,.int x),some (w.heap.size+1,.int y),some (w.heap.size+1+1,.rat 0)]:=by
 have h:=(((DI.nil w).push (.int x) c).push (.int y) (hb.alloc _)).push (.rat 0) (XE _);rw[Ax,Ax,Ax]at h;exact h
def Jg.mk{W:H}{s t:Bool}{a b:Option Addr}{l c k d:Nat}{q:Rat}(e:Jk W (P #[E s,C a l c]) q.num)(f:Jk W (P #[E t,C b k d]) (Dw q)):Jg W (P #[E s,C a l c,E t,C b k d]) q:=⟨_,_,_,_,_,_,_,_,J,e,f⟩
def OE(B K:D)(q:Rat)(w:H)(d:Jk w B q.num)(hb:Jk w K (q.den:Int)):
 F I 97 #[B,K] w λe w'=>∃u,e=.returned u/\Jg w' u q/\Bl w w':=by
 obtain⟨a,la,ca,rfl⟩:=d.form;obtain⟨b,lb,cb,rfl⟩:=hb.form;obtain⟨s,hs⟩:=ex (decide (q.num<0));obtain⟨t,v⟩:=ex (decide ((q.den:Int)<0));rw[hs]at d ⊢;rw[v]at hb ⊢;clear hs v;have k:=QO w s t a b la ca lb cb _ _ d hb;obtain⟨W0,c⟩:=ex (((w.alloc (G #[E s,C a la ca] 48)).alloc (G #[E t,C b lb cb] 48)).alloc (G #[E false,C none 0 0,E false,C none 0 0] 50));have b0:JD W0 w.heap.size 48 (E s) (C a la ca):=by rw[<-c];exact((JD.new w _ _ _).alloc _).alloc _
 have l:JD W0 (w.heap.size+1) 48 (E t) (C b lb cb):=by
  have h:=(JD.new (w.alloc (G #[E s,C a la ca] 48)) 48 (E t) (C b lb cb)).alloc (G #[E false,C none 0 0,E false,C none 0 0] 50);rw[Ax,c]at h;exact h
 have m:JS W0 (w.heap.size+1+1) 50 (E false) (C none 0 0) (E false) (C none 0 0):=by
  have h:=JS.new ((w.alloc (G #[E s,C a la ca] 48)).alloc (G #[E t,C b lb cb] 48)) 50 (E false) (C none 0 0) (E false) (C none 0 0);rw[Ax,Ax,c]at h;exact h
 rw[c]at k;have f:=k.2.2;obtain⟨i,p,M,Q⟩:=Ds (λ(V:H) (u:D) (h:Bl W0 V) (T:Jk V u 1)=>Ih _ u (q.den:Int) 1 V ((hb.below f).below h) T) (d.below f) (hb.below f) c;obtain⟨W,X⟩:=b0.cp;obtain⟨x,y⟩:=l.cp;have j:=Z (show(XQ (q.den:Int) 1=0)↔q.den=1 by unfold XQ;split<;>(try split)<;>omega);obtain⟨n,hn⟩:=ex (XQ (q.den:Int) 1);rw[hn]at i j;clear d hb c hn k;go_enter Tryz.func97,Tryz.ntmps97
 go_upto_region 1 with fail
 rw[Q.o];have hq:Bl W0 W0.drew:=(BA _ W0).drew;go_region_held3 (λw'=>w'.cell? ⟨w.heap.size+1,0,none⟩=some (E t)/\w'.cell? ⟨w.heap.size+1,1,none⟩=some (C b lb cb)) (refine⟨?_,?_⟩<;>(first|(go_keep;done)|((repeat rw[JO O]);simp[*];done)))
  (first
   |(go_at_call 107;refine(F6 1 O O _).mono ?_;rintro e w1 ⟨u1,rfl,U,R⟩;have hq:=Bt hq R;obtain⟨x,y⟩:=(l.below hq).cp)
   |(go_at_call 47;refine(i.o _ _ hq U).mono ?_;clear i;rintro e w2 ⟨rfl,S⟩;have hq:=Bt hq S;obtain⟨W,X⟩:=(b0.below hq).cp;obtain⟨x,y⟩:=(l.below hq).cp;obtain⟨r0,r1,z,A⟩:=(m.below hq).cq;obtain⟨f0,f1,f2,f3⟩:=(m.below hq).fq))
 have r:=Bt f hq;have bw:=m.below hq;by_cases hn:n=0
 . have g:=Z (show Dw q=0 from Ng.2 (j.o.1 hn));subst hn;have o:Jg w2 (P #[E s,C a la ca,E false,C none 0 0]) q:=Jg.mk (p.o.below hq) (by rw[g.o];exact EW _);go_wp2_with fail
   exact A0 (by simp[results,Tryz.results97,go_sem,r0,r1,z,A]) rfl ⟨_,rfl,o.put4 bw rfl rfl rfl rfl _ _ _ _,Jw r O _ _ _ _⟩
 . have g:=Z (show Dw q=q.den by unfold Dw;rw[BD λh=>hn (j.o.2 h)]);have o:Jg w2 (P #[E s,C a la ca,E t,C b lb cb]) q:=Jg.mk (p.o.below hq) (by rw[g.o];exact M.o.below hq);go_wp2_with fail
   exact A0 (by simp[results,Tryz.results97,go_sem,r0,r1,z,A]) rfl ⟨_,rfl,o.put4 bw rfl rfl rfl rfl _ _ _ _,Jw r O _ _ _ _⟩
def LS{x y:Int}(a:y≠0):(0:Int)<(Int.gcd x y:Nat):=by
 have:=Int.gcd_pos_of_ne_zero_right x a;omega
theorem VP(va vb:D)(x y:Int)(w:H)(ha:Jk w va x)(hb:Jk w vb y)(hy:y≠0)(bz:Sok x)(ce:Sok y):
 F I 100 #[va,vb] w λe w'=>∃u,e=.returned u/\Jg w' u (Rat.divInt x y)/\Bl w w':=by
 obtain⟨U,W,f⟩:=DY bz ce hy;clear bz ce hy;obtain⟨s,a,la,ca,rfl⟩:=Jk.form2 ha;obtain⟨t,b,lb,cb,rfl⟩:=Jk.form2 hb;have M0:=QO w s t a b la ca lb cb _ _ ha hb;obtain⟨W0,an⟩:=ex (((w.alloc (G #[E s,C a la ca] 48)).alloc (G #[E t,C b lb cb] 48)).alloc (G #[E false,C none 0 0,E false,C none 0 0] 50));have Qp:=Z an;rw[an]at M0;have X:=Z M0;clear M0 ha hb an;go_enter Tryz.func100,Tryz.ntmps100
 go_upto_region 1 with fail
 rw[Qp.o];clear Qp;obtain⟨s1,a1,l1,c1,n1,i1⟩:=X.o.int (i:=0) rfl;have Qr:=n1.ka;obtain⟨s2,a2,l2,c2,n2,i2⟩:=X.o.int (i:=1) rfl;have Qs:=n2.ka;go_upto_region 2 with(go_at_call 95;refine(Kq _ _ x y _ i1 i2 (by have:=U.o.words;omega) (by have:=W.o.words;omega)).mono ?_;rintro e w1 ⟨u,rfl,m,hb⟩;obtain⟨dh,bj,co,bn,rfl⟩:=Jk.form2 m)
 obtain⟨V3,l⟩:=ex (w1.alloc (G #[E dh,C bj co bn] 48));obtain⟨B3,am⟩:=ex (w1.heap.size);have j:DI w (w1.alloc (G #[E dh,C bj co bn] 48)) [some (w.heap.size,.int x),some (w.heap.size+1,.int y),some (w.heap.size+1+1,.rat 0),some (w1.heap.size,.int (((Int.gcd x y:Nat):Int)))]:=DI.push (X.o.below hb) (.int (((Int.gcd x y:Nat):Int))) m;rw[l,am]at j;rw[l];rw[am];have n:=Z (j);clear X;clear j l am;clear n1 Qr i1 n2 Qs i2 m hb;have T:=Z (Sok.gcd U.o W.o);by_cases hn:y<0
 . have B:=Z hn;clear hn;obtain⟨s4,a4,l4,c4,n4,i4⟩:=n.o.int (i:=1) rfl;have Qt:=n4.ka;have g:=Z (Ih _ _ y 0 V3 i4 (EW _));rw[show XQ y 0=-1 from by unfold XQ;rw[BE B.o]]at g;go_upto_region 3 with(go_at_call 47;refine g.o.mono ?_;rintro e p ⟨rfl,R⟩)
   have M3:=Z (n.o.below R);clear n;clear n4 Qt i4 g R;obtain⟨s5,a5,l5,c5,n5,i5⟩:=M3.o.int (i:=3) rfl;have Qq:=n5.ka;go_upto_region 4 with(go_at_call 93;refine(QL _ _ 0 (((Int.gcd x y:Nat):Int)) _ (EW _) i5 (by have:=Sok.zero.words;omega) (by have:=T.o.words;omega)).mono ?_;rintro e w6 ⟨u6,rfl,bi,ae⟩;obtain⟨di,bm,de,bu,rfl⟩:=Jk.form2 bi;have Qq:=(n5.below ae).ka;have Qv:=(n5.below ae).fa)
   obtain⟨M,l⟩:=ex ((w6.setCell ⟨B3,0,none⟩ (E di)).setCell ⟨B3,1,none⟩ (C bm de bu));have j:DI w ((w6.setCell ⟨B3,0,none⟩ (E di)).setCell ⟨B3,1,none⟩ (C bm de bu)) [some (w.heap.size,.int x),some (w.heap.size+1,.int y),some (w.heap.size+1+1,.rat 0),some (B3,.int (0-((Int.gcd x y:Nat):Int)))]:=DI.putInt (M3.o.below ae) (i:=3) rfl bi;rw[l]at j;rw[l];have o:=Z (j);clear M3;clear j l;clear n5 Qq i5 bi ae;clear Qv;obtain⟨K,A,Qo⟩:=DY (show(0-((Int.gcd x y:Nat):Int))≠0 by have:=LS (x:=x) f.o;omega) (show(0-((Int.gcd x y:Nat):Int))=(if y<0 then -((Int.gcd x y:Nat):Int)else((Int.gcd x y:Nat):Int))by rw[BE B.o];omega) (show Sok (0-((Int.gcd x y:Nat):Int))by rw[Int.zero_sub];exact T.o.neg);obtain⟨s7,a7,l7,c7,n7,i7⟩:=o.o.int (i:=0) rfl;have Qm:=n7.ka;obtain⟨s8,a8,l8,c8,n8,i8⟩:=o.o.int (i:=1) rfl;have Ql:=n8.ka;obtain⟨s9,a9,l9,c9,n9,i9⟩:=o.o.int (i:=3) rfl;have Qn:=n9.ka;obtain⟨jd,gy,iz,ie,jg,b10,ix,ij,c,r10,io,iu⟩:=o.o.rat (i:=2) rfl;have Qa:=c.kb;have Qe:=c.fb;obtain⟨q,r,z⟩:=DY (λ(V:H) (h:Bl M V)=>G9 _ _ x ((0-((Int.gcd x y:Nat):Int))) V (i7.below h) (i9.below h) K.o U.o Qo.o) (λ(V:H) (h:Bl M V)=>G9 _ _ y ((0-((Int.gcd x y:Nat):Int))) V (i8.below h) (i9.below h) K.o W.o Qo.o) λ(V:H) (u v:D) (m:Jk V u (x/(0-((Int.gcd x y:Nat):Int)))) (hv:Jk V v (y/(0-((Int.gcd x y:Nat):Int))))=>OE u v (Rat.divInt x y) V (by rw[Tb f.o,<-A.o];exact m) (by rw[Tc f.o,<-A.o];exact hv);have Qu:=o.o.ne 3 2 rfl rfl DJ;have hq:Bl M M.drew:=(BA _ M).drew;go_region_held3 (λw'=>(w'.cell? ⟨w.heap.size,0,none⟩=some (E s7)/\w'.cell? ⟨w.heap.size,1,none⟩=some (C a7 l7 c7))/\(w'.cell? ⟨w.heap.size+1,0,none⟩=some (E s8)/\w'.cell? ⟨w.heap.size+1,1,none⟩=some (C a8 l8 c8))/\w'.cell? ⟨B3,0,none⟩=some (E s9)/\w'.cell? ⟨B3,1,none⟩=some (C a9 l9 c9)) (first|grind|(go_keep;done)|grind[JO])
    (first
     |(go_at_call 96;refine(q.o _ hq).mono ?_;clear q;rintro e w2 ⟨u2,rfl,k,ap⟩;have hq:=Bt hq ap;have Qm:=(n7.below hq).ka;have Ql:=(n8.below hq).ka;have Qn:=(n9.below hq).ka;have Qa:=(c.below hq).kb;have Qe:=(c.below hq).fb)
     |(go_at_call 96;refine(r.o _ hq).mono ?_;clear r;rintro e w3 ⟨u3,rfl,bg,Q⟩;have k:=k.below Q;have hq:=Bt hq Q;have Qm:=(n7.below hq).ka;have Ql:=(n8.below hq).ka;have Qn:=(n9.below hq).ka;have Qa:=(c.below hq).kb;have Qe:=(c.below hq).fb)
     |(go_at_call 97;refine(z.o _ _ _ k bg).mono ?_;clear z;rintro e w4 ⟨u4,rfl,S,aq⟩;obtain⟨gv,dz,gn,fh,gw,ed,fx,fi,rfl⟩:=Jg.form S;have hq:=Bt hq aq;have Qm:=(n7.below hq).ka;have Ql:=(n8.below hq).ka;have Qn:=(n9.below hq).ka;have Qa:=(c.below hq).kb;have Qe:=(c.below hq).fb))
   all_goals go_wp2_with fail
   have Qk:=Bt o.o.2.2 hq;exact A0 (by simp[results,Tryz.results100,go_sem,Qa]) rfl ⟨_,rfl,S.put4 (c.below hq) rfl rfl rfl rfl _ _ _ _,Jw Qk O _ _ _ _⟩
 . have B:=Z hn;clear hn;obtain⟨je,ia,ja,ig,df,cj⟩:=n.o.int (i:=1) rfl;have Qj:=df.ka;have g:=Z (Ih _ _ y 0 V3 cj (EW _));rw[show XQ y 0=1 from by have h1:=B.o;have h2:=f.o;unfold XQ;omega]at g;go_upto_region 4 with(go_at_call 47;refine g.o.mono ?_;rintro e p ⟨rfl,R⟩)
   have M3:=Z (n.o.below R);clear n;clear df Qj cj g R;have K:=Z (show((Int.gcd x y:Nat):Int)≠0 by have:=LS (x:=x) f.o;omega);have A:=Z (show((Int.gcd x y:Nat):Int)=(if y<0 then -((Int.gcd x y:Nat):Int)else((Int.gcd x y:Nat):Int))by rw[BD (by have:=B.o;omega)]);obtain⟨gq,dj,gh,ei,ah,fm⟩:=M3.o.int (i:=0) rfl;have Qc:=ah.ka;obtain⟨gr,dt,gi,f9,ai,fo⟩:=M3.o.int (i:=1) rfl;have Qf:=ai.ka;obtain⟨gu,dx,gj,fg,aj,cn⟩:=M3.o.int (i:=3) rfl;have Qh:=aj.ka;obtain⟨jf,ib,jb,ii,jh,ic,iy,il,d,jc,ir,iw⟩:=M3.o.rat (i:=2) rfl;have Qb:=d.kb;have Qg:=d.fb;obtain⟨q,r,z⟩:=DY (λ(V:H) (h:Bl p V)=>G9 _ _ x (((Int.gcd x y:Nat):Int)) V (fm.below h) (cn.below h) K.o U.o T.o) (λ(V:H) (h:Bl p V)=>G9 _ _ y (((Int.gcd x y:Nat):Int)) V (fo.below h) (cn.below h) K.o W.o T.o) λ(V:H) (u v:D) (m:Jk V u (x/((Int.gcd x y:Nat):Int))) (hv:Jk V v (y/((Int.gcd x y:Nat):Int)))=>OE u v (Rat.divInt x y) V (by rw[Tb f.o,<-A.o];exact m) (by rw[Tc f.o,<-A.o];exact hv);have Qu:=M3.o.ne 3 2 rfl rfl DJ;have hq:Bl p p.drew:=(BA _ p).drew;go_region_held3 (λw'=>(w'.cell? ⟨w.heap.size,0,none⟩=some (E gq)/\w'.cell? ⟨w.heap.size,1,none⟩=some (C dj gh ei))/\(w'.cell? ⟨w.heap.size+1,0,none⟩=some (E gr)/\w'.cell? ⟨w.heap.size+1,1,none⟩=some (C dt gi f9))/\w'.cell? ⟨B3,0,none⟩=some (E gu)/\w'.cell? ⟨B3,1,none⟩=some (C dx gj fg)) (first|grind|(go_keep;done)|grind[JO])
    (first
     |(go_at_call 96;refine(q.o _ hq).mono ?_;clear q;rintro e w2 ⟨u2,rfl,k,ap⟩;have hq:=Bt hq ap;have Qc:=(ah.below hq).ka;have Qf:=(ai.below hq).ka;have Qh:=(aj.below hq).ka;have Qb:=(d.below hq).kb;have Qg:=(d.below hq).fb)
     |(go_at_call 96;refine(r.o _ hq).mono ?_;clear r;rintro e w3 ⟨u3,rfl,bg,Q⟩;have k:=k.below Q;have hq:=Bt hq Q;have Qc:=(ah.below hq).ka;have Qf:=(ai.below hq).ka;have Qh:=(aj.below hq).ka;have Qb:=(d.below hq).kb;have Qg:=(d.below hq).fb)
     |(go_at_call 97;refine(z.o _ _ _ k bg).mono ?_;clear z;rintro e w4 ⟨u4,rfl,S,aq⟩;obtain⟨gv,dz,gn,fh,gw,ed,fx,fi,rfl⟩:=Jg.form S;have hq:=Bt hq aq;have Qc:=(ah.below hq).ka;have Qf:=(ai.below hq).ka;have Qh:=(aj.below hq).ka;have Qb:=(d.below hq).kb;have Qg:=(d.below hq).fb))
   all_goals go_wp2_with fail
   have Qk:=Bt M3.o.2.2 hq;exact A0 (by simp[results,Tryz.results100,go_sem,Qb]) rfl ⟨_,rfl,S.put4 (d.below hq) rfl rfl rfl rfl _ _ _ _,Jw Qk O _ _ _ _⟩
def OG(w:H)(s t i t':Bool)(a b a' e:Option Addr)(l c k d l' c' g f:Nat)(p q:Rat)(hp:Jg w (P #[E s,C a l c,E t,C b k d]) p)(hq:Jg w (P #[E i,C a' l' c',E t',C e g f]) q):
 DI w (((w.alloc (G #[E s,C a l c,E t,C b k d] 50)).alloc (G #[E i,C a' l' c',E t',C e g f] 50)).alloc (G #[E false,C none 0 0,E false,C none 0 0] 50)) [some (w.heap.size,.rat p),some (w.heap.size+1,.rat q),some (w.heap.size+1+1,.rat 0)]:=by
 have h:=(((DI.nil w).push (.rat p) hp).push (.rat q) (hq.below (Ba w _))).push (.rat 0) (XE _);rw[Ax,Ax,Ax]at h;exact h
def kT(w:H)(s t i t':Bool)(a b a' e:Option Addr)(l c k d l' c' g f:Nat)(p q:Rat)(hp:Jg w (P #[E s,C a l c,E t,C b k d]) p)(hq:Jg w (P #[E i,C a' l' c',E t',C e g f]) q):
 DI w ((w.alloc (G #[E s,C a l c,E t,C b k d] 50)).alloc (G #[E i,C a' l' c',E t',C e g f] 50)) [some (w.heap.size,.rat p),some (w.heap.size+1,.rat q)]:=by
 have h:=((DI.nil w).push (.rat p) hp).push (.rat q) (hq.below (Ba w _));rw[Ax]at h;exact h
def OH{q:Rat}(h:q.den=1):q=(q.num:Rat):=Rat.ext J h
def kU{p q:Rat}(hp:p.den=1)(hq:q.den=1):(p+q).num=p.num+q.num/\(p+q).den=1:=by
 have h:p+q=((p.num+q.num:Int):Rat):=by rw[CY,<-OH hp,<-OH hq]
 rw[h];exact⟨J,J⟩
def kV{p q:Rat}(hp:p.den=1)(hq:q.den=1):(p*q).num=p.num*q.num/\(p*q).den=1:=by
 have h:p*q=((p.num*q.num:Int):Rat):=by rw[At,<-OH hp,<-OH hq]
 rw[h];exact⟨J,J⟩
def kW(p q:Rat)(hp:Sq p)(hq:Sq q)(a lf rt ab b:Int)(c:((Int.gcd (p.den:Int) (q.den:Int):Nat):Int)=a)(j:(p.den:Int)/a=lf)(k:(q.den:Int)/a=rt)(l:p.num*rt+q.num*lf=ab)(d:((Int.gcd ab a:Nat):Int)=b):
 Sok a/\a≠0/\Sok lf/\Sok rt/\Sok ab/\Sok b/\b≠0/\Sok (p.num*rt)/\Sok (q.num*lf)/\(p+q).num=ab/b/\((p+q).den:Int)=lf*(q.den/b):=by
 have hl:=ec p q a lf rt ab b c.symm j.symm k.symm l.symm d.symm;have f:a≠0:=by rw[<-c];have:=LS (x:=(p.den:Int)) (y:=q.den) (by have:=q.den_nz;omega);omega
 have sc:Sok a:=by rw[<-c];exact hp.den.gcd hq.den
 have i:Sm 1000000000 lf:=by rw[<-j];exact hp.sm.2.div
 have g:Sm 1000000000 rt:=by rw[<-k];exact hq.sm.2.div
 have m:=hp.sm.1.mul g;have n:=hq.sm.1.mul i;have e:Sok ab:=by rw[<-l];exact Sok.of (m.add n) O
 refine⟨sc,f,Sok.of i O,Sok.of g O,e,by rw[<-d];exact e.gcd sc,?_,Sok.of m O,Sok.of n O,hl.1,hl.2⟩;rw[<-d];have:=LS (x:=ab) f;omega
theorem KI(va vb:D)(p q:Rat)(w:H)(ha:Jg w va p)(hb:Jg w vb q)(dx:Sq p)(dz:Sq q):
 F I 43 #[va,vb] w λe w'=>∃u,e=.returned u/\Jg w' u (p+q)/\Bl w w':=by
 obtain⟨s,a,l,c,t,b,k,d,rfl⟩:=Jg.form ha;obtain⟨s',a',l',c',t',b',k',d',rfl⟩:=Jg.form hb;have M0:=OG w s t s' t' a b a' b' l c k d l' c' k' d' p q ha hb;obtain⟨W0,bj⟩:=ex (((w.alloc (G #[E s,C a l c,E t,C b k d] 50)).alloc (G #[E s',C a' l' c',E t',C b' k' d'] 50)).alloc (G #[E false,C none 0 0,E false,C none 0 0] 50));have Qo:=Z bj;rw[bj]at M0;obtain⟨M1,HP,A⟩:=DY M0 dx dz;clear M0 ha hb bj dx dz;go_enter Tryz.func43,Tryz.ntmps43
 go_upto_region 1 with fail
 rw[Qo.o];clear Qo;obtain⟨bb,dh⟩:=ex (decide (p.den=1/\q.den=1):Bool);have Qh:=Z dh;clear dh;go_cut [15] λc w'=>c=E bb/\Hid (DI w w' [some (w.heap.size,.rat p),some (w.heap.size+1,.rat q),some (w.heap.size+1+1,.rat 0)])
 case first=>
  obtain⟨s1,a1,l1,c1,t1,b1,k1,d1,n1,r1,i1,j1⟩:=M1.o.rat (i:=0) rfl;have Qv:=n1.kb;obtain⟨s2,a2,l2,c2,t2,b2,k2,d2,n2,r2,i2,j2⟩:=M1.o.rat (i:=1) rfl;have Qx:=n2.kb;have z:=Z (KH _ p W0 r1);have R:=Z λ(V:H) (h:Bl W0 V)=>KH _ q V (r2.below h);by_cases M:p.den=1
  . rw[BG M]at z;obtain⟨b2,Q⟩:=ex (decide (q.den=1));rw[Q]at R;have Qk:=Z (show b2=bb by rw[<-Q,<-Qh.o];exact Bz.2 ⟨λh=>⟨M,h⟩,λh=>h.2⟩);clear Q M;go_wp2_with(first
     |(go_at_call 46;refine z.o.mono ?_;clear z;rintro e w1 ⟨rfl,U⟩;have Qv:=(n1.below U).kb;have Qx:=(n2.below U).kb)
     |(go_at_call 46;refine(R.o _ U).mono ?_;clear R;rintro e w2 ⟨rfl,Q⟩))
    go_meet
    case rel=>exact⟨by rw[Qk.o],Z ((M1.o.below U).below Q)⟩
  . rw[BJ M]at z;have Qk:=Z (show bb=false by rw[<-Qh.o];exact BJ λh=>M h.1);clear M;go_wp2_with(go_at_call 46;refine z.o.mono ?_;clear z;rintro e w1 ⟨rfl,U⟩)
    go_meet
    case rel=>exact⟨by rw[Qk.o],Z (M1.o.below U)⟩
 obtain⟨rfl,g⟩:=hcut;have S:=g;clear M1 g;cases bb with
 |true=>
  have Qi:=Be Qh.o;have HW:=Z (kU Qi.1 Qi.2);clear Qi Qh;obtain⟨s3,a3,l3,c3,t3,b3,k3,d3,n3,r3,i3,j3⟩:=S.o.rat (i:=0) rfl;have ja:=n3.kb;obtain⟨s4,a4,l4,c4,t4,b4,k4,d4,n4,r4,i4,j4⟩:=S.o.rat (i:=1) rfl;have jb:=n4.kb;obtain⟨s5,a5,l5,c5,t5,b5,k5,d5,n5,r5,i5,j5⟩:=S.o.rat (i:=2) rfl;have Qt:=n5.kb;have Qz:=n5.fb;go_wp2_with(go_at_call 94;refine(Nu _ _ p.num q.num _ i3 i4 (by have:=HP.o.num.words;omega) (by have:=A.o.num.words;omega)).mono ?_;rintro e w1 ⟨u,rfl,o,hq⟩;obtain⟨bn,aj,bm,am,rfl⟩:=Jk.form2 o;have Qt:=(n5.below hq).kb;have Qz:=(n5.below hq).fb)
  have hr:=Jg.mk (by rw[HW.o.1];exact o) (by rw[Ng.2 HW.o.2];exact EW _);have Ql:=Bt S.o.2.2 hq;exact A0 (by simp[results,Tryz.results43,go_sem,Qt]) rfl ⟨_,rfl,hr.put4 (n5.below hq) rfl rfl rfl rfl _ _ _ _,Jw Ql O _ _ _ _⟩
 |false=>
  clear Qh;obtain⟨m,di⟩:=ex (((Int.gcd (p.den:Int) (q.den:Int):Nat):Int):Int);have Qs:=Z di;clear di;obtain⟨lf,dj⟩:=ex ((p.den:Int)/m:Int);have Qq:=Z dj;clear dj;obtain⟨rt,dt⟩:=ex ((q.den:Int)/m:Int);have Qn:=Z dt;clear dt;obtain⟨ab,cj⟩:=ex (p.num*rt+q.num*lf:Int);have Qr:=Z cj;clear cj;obtain⟨x,cn⟩:=ex (((Int.gcd ab m:Nat):Int):Int);have Qp:=Z cn;clear cn;obtain⟨S1,S2,S3,S4,S5,S6,S7,S8,S9,bz,ce⟩:=kW p q HP.o A.o m lf rt ab x Qs.o Qq.o Qn.o Qr.o Qp.o;obtain⟨T1,T2,T3,T4,T5,T6,T7,T8⟩:=Ho S1 S2 S3 S4 S5 S6 S7 S8;obtain⟨T9,Qy,Qw⟩:=DY S9 bz ce;clear S1 S2 S3 S4 S5 S6 S7 S8 S9 bz ce;go_upto_region 3 with fail
  refine YE Dh [[],[0],[],[2,1],[1,3,3],[],[5,4,4,0,1,2,3,4,5]] [.rat p,.int ((p.den:Int)),.rat q,.int ((q.den:Int)),.int m,.ptr,.eq N] [5,6] (λb v V=>DI w V [some (w.heap.size,.rat p),some (w.heap.size+1,.rat q),some (w.heap.size+1+1,.rat 0),nb b v 0 1 (.int 0) (.int m)]) (S.o.none).drew (SR (.vl rfl λ_ j=>Ei 0 j)<|SR (.cl λh _=>FU _ p _ (h.g 0))<|SR (.vl rfl λ_ j=>Ei 1 j)<|SR (.cl λh _=>FU _ q _ (h.g 2))<|SR (.cl λh _=>(by have h:=Kq _ _ (p.den:Int) (q.den:Int) _ (h.g 1) (h.g 3) (by have:=HP.o.den.words;omega) (by have:=A.o.den.words;omega);rw[Qs.o]at h;exact h))<|SR (.wr rfl λ_ j=>GN 3 j)<|SR (.wr rfl λh j=>Ey 3 j (h.g 4) (hp:=h.g 5)) Stp.end_)
   λf V7 hF g=>?_
  refine DO ?_;obtain⟨B8,bg⟩:=hF.p 5;have g:=Du g;simp only[bg]at g;rw[bg];have M3:=Z g;clear g hF bg;clear S;go_upto_region 4 with fail
  refine YE Dh [[],[0],[],[1,2,1],[],[4,3],[],[5,6,5],[],[],[8,3,7,0,1,2,3,8,9],[9,7,10,0,1,2,3,4,5,6,7,8,9,10]] [.rat p,.int ((p.den:Int)),.int m,.int lf,.rat q,.int ((q.den:Int)),.int m,.int rt,.ptr,.ptr,.eq N,.eq N] [8,9,10,11] (λb v V=>DI w V [some (w.heap.size,.rat p),some (w.heap.size+1,.rat q),some (w.heap.size+1+1,.rat 0),some (B8,.int m),nb b v 0 2 (.int 0) (.int lf),nb b v 1 3 (.int 0) (.int rt)]) ((M3.o.none).none).drew (SR (.vl rfl λ_ j=>Ei 0 j)<|SR (.cl λh _=>FU _ p _ (h.g 0))<|SR (.vl rfl λ_ j=>FM 3 j)<|SR (.cl λh _=>(by have h:=G9 _ _ (p.den:Int) m _ (h.g 1) (h.g 2) T2.o HP.o.den T1.o;rw[Qq.o]at h;exact h))<|SR (.vl rfl λ_ j=>Ei 1 j)<|SR (.cl λh _=>FU _ q _ (h.g 4))<|SR (.vl rfl λ_ j=>FM 3 j)<|SR (.cl λh _=>(by have h:=G9 _ _ (q.den:Int) m _ (h.g 5) (h.g 6) T2.o A.o.den T1.o;rw[Qn.o]at h;exact h))<|SR (.wr rfl λ_ j=>GN 4 j)<|SR (.wr rfl λ_ j=>GN 5 j)<|SR (.wr rfl λh j=>Ey 4 j (h.g 3) (hp:=h.g 8))<|SR (.wr rfl λh j=>Ey 5 j (h.g 7) (hp:=h.g 9)) Stp.end_)
   λf jc hF g=>?_
  refine DO ?_;obtain⟨B11,an⟩:=hF.p 8;obtain⟨B12,ap⟩:=hF.p 9;have g:=Du g;simp only[an,ap]at g;rw[an,ap];have M4:=Z g;clear g hF an ap;clear M3;go_upto_region 5 with fail
  refine YE Dh [[],[0],[],[1,2],[],[4],[],[5,6,3],[3,7,7],[],[9,8,8,0,1,2,3,4,5,6,7,8,9]] [.eq (L (some ⟨w.heap.size,0,none⟩)),.int (Rat.num (p)),.int rt,.int (p.num*rt),.eq (L (some ⟨w.heap.size+1,0,none⟩)),.int (Rat.num (q)),.int lf,.int (q.num*lf),.int ab,.ptr,.eq N] [9,10] (λb v V=>DI w V [some (w.heap.size,.rat p),some (w.heap.size+1,.rat q),some (w.heap.size+1+1,.rat 0),some (B8,.int m),some (B11,.int lf),some (B12,.int rt),nb b v 0 1 (.int 0) (.int ab)]) (M4.o.none).drew (SR (.vl rfl λ_ _=>⟨_,by refine DO ?_;go_simp,rfl⟩)<|SR (.vl rfl λh j=>LQ 0 j (hp:=h.e 0))<|SR (.vl rfl λ_ j=>FM 5 j)<|SR (.cl λh _=>YX _ _ p.num rt _ (h.g 1) (h.g 2) (by have:=HP.o.num.words;have:=T4.o.words;omega))<|SR (.vl rfl λ_ _=>⟨_,by refine DO ?_;go_simp,rfl⟩)<|SR (.vl rfl λh j=>LQ 1 j (hp:=h.e 4))<|SR (.vl rfl λ_ j=>FM 4 j)<|SR (.cl λh _=>YX _ _ q.num lf _ (h.g 5) (h.g 6) (by have:=A.o.num.words;have:=T3.o.words;omega))<|SR (.cl λh _=>(by have h:=Nu _ _ (p.num*rt) (q.num*lf) _ (h.g 3) (h.g 7) (by have:=T8.o.words;omega) (by have:=T9.o.words;omega);rw[Qr.o]at h;exact h))<|SR (.wr rfl λ_ j=>GN 6 j)<|SR (.wr rfl λh j=>Ey 6 j (h.g 8) (hp:=h.g 9)) Stp.end_)
   λf fm hF g=>?_
  refine DO ?_;rw[hF.e 0,hF.e 4];obtain⟨ai,aq⟩:=hF.p 9;have g:=Du g;simp only[aq]at g;rw[aq];have M5:=Z g;clear g hF aq;clear M4;go_upto_region 6 with fail
  obtain⟨ki,jd,jx,jj,fh,ei⟩:=M5.o.int (i:=6) rfl;have Qj:=fh.ka;obtain⟨kj,je,jy,jk,fi,f9⟩:=M5.o.int (i:=3) rfl;have Qm:=fi.ka;have HC:=Z (Kq _ _ ab m fm ei f9 (by have:=T5.o.words;omega) (by have:=T1.o.words;omega));rw[Qp.o]at HC;go_upto_region 7 with(go_at_call 95;refine HC.o.mono ?_;clear HC;rintro e w1 ⟨u,rfl,o,hb⟩;obtain⟨bn,aj,bm,am,rfl⟩:=Jk.form2 o)
  obtain⟨K,hV⟩:=ex (w1.alloc (G #[E bn,C aj bm am] 48));obtain⟨bu,bi⟩:=ex (w1.heap.size);have g:DI w (w1.alloc (G #[E bn,C aj bm am] 48)) [some (w.heap.size,.rat p),some (w.heap.size+1,.rat q),some (w.heap.size+1+1,.rat 0),some (B8,.int m),some (B11,.int lf),some (B12,.int rt),some (ai,.int ab),some (w1.heap.size,.int x)]:=DI.push (M5.o.below hb) (.int x) o;rw[hV,bi]at g;rw[hV];rw[bi];have r:=Z (g);clear M5;clear g hV bi;clear fh Qj ei fi Qm f9 o hb;obtain⟨iu,fo,ii,gn,W,ic⟩:=r.o.int (i:=6) rfl;have Qe:=W.ka;obtain⟨iw,fx,ij,gq,X,fg⟩:=r.o.int (i:=7) rfl;have Qb:=X.ka;obtain⟨ix,gh,il,gr,ae,ie⟩:=r.o.int (i:=4) rfl;have Qf:=ae.ka;obtain⟨iy,gi,io,gu,iz,gj,ig,gv,ah,ir,jq,js⟩:=r.o.rat (i:=1) rfl;have Qc:=ah.kb;obtain⟨km,jf,jz,jl,ko,jh,ju,jo,n,kh,jr,jt⟩:=r.o.rat (i:=2) rfl;have T:=n.kb;have Qd:=n.fb;obtain⟨z,R,H3,H4,H5⟩:=GZ (λ(V:H) (h:Bl K V)=>G9 _ _ ab x V (ic.below h) (fg.below h) T7.o T5.o T6.o) (λ(V:H) (h:Bl K V)=>FU _ q V (ir.below h)) (λ(V:H) (u:D) (h:Bl K V) (o:Jk V u (q.den:Int))=>G9 u _ (q.den:Int) x V o (fg.below h) T7.o A.o.den T6.o) (λ(V:H) (u:D) (h:Bl K V) (o:Jk V u ((q.den:Int)/x))=>YX _ u lf ((q.den:Int)/x) V (ie.below h) o (by have M:=T3.o.words;have h2:=(Sok.div (y:=x) A.o.den).words;omega)) λ(V:H) (u v:D) (o:Jk V u (ab/x)) (hv:Jk V v (lf*((q.den:Int)/x)))=>OE u v (p+q) V (by rw[Qy.o];exact o) (by rw[Qw.o];exact hv);have kf:=r.o.ne 6 2 rfl rfl DJ;have kg:=r.o.ne 7 2 rfl rfl DJ;have ke:=r.o.ne 4 2 rfl rfl DJ;have kd:=r.o.ne 1 2 rfl rfl DJ;have hq:Bl K K.drew:=(BA _ K).drew;go_region_held3 (λw'=>(w'.cell? ⟨ai,0,none⟩=some (E iu)/\w'.cell? ⟨ai,1,none⟩=some (C fo ii gn))/\(w'.cell? ⟨bu,0,none⟩=some (E iw)/\w'.cell? ⟨bu,1,none⟩=some (C fx ij gq))/\(w'.cell? ⟨B11,0,none⟩=some (E ix)/\w'.cell? ⟨B11,1,none⟩=some (C gh il gr))/\w'.cell? ⟨w.heap.size+1,0,none⟩=some (E iy)/\w'.cell? ⟨w.heap.size+1,1,none⟩=some (C gi io gu)/\w'.cell? ⟨w.heap.size+1,2,none⟩=some (E iz)/\w'.cell? ⟨w.heap.size+1,3,none⟩=some (C gj ig gv)) (first|grind|(go_keep;done)|((repeat' apply And.intro)<;>((repeat rw[JO O]);grind)))
   (first
    |(go_at_call 96;refine(z.o _ hq).mono ?_;clear z;rintro e w2 ⟨u2,rfl,B,Q⟩;have hq:=Bt hq Q;have Qe:=(W.below hq).ka;have Qb:=(X.below hq).ka;have Qf:=(ae.below hq).ka;have Qc:=(ah.below hq).kb;have T:=(n.below hq).kb;have Qd:=(n.below hq).fb)
    |(go_at_call 49;refine(R.o _ hq).mono ?_;clear R;rintro e w3 ⟨u3,rfl,gy,co⟩;have B:=B.below co;have hq:=Bt hq co;have Qe:=(W.below hq).ka;have Qb:=(X.below hq).ka;have Qf:=(ae.below hq).ka;have Qc:=(ah.below hq).kb;have T:=(n.below hq).kb;have Qd:=(n.below hq).fb)
    |(go_at_call 96;refine(H3.o _ _ hq gy).mono ?_;clear H3;rintro e w4 ⟨u4,rfl,ia,de⟩;have B:=B.below de;have hq:=Bt hq de;have Qe:=(W.below hq).ka;have Qb:=(X.below hq).ka;have Qf:=(ae.below hq).ka;have Qc:=(ah.below hq).kb;have T:=(n.below hq).kb;have Qd:=(n.below hq).fb)
    |(go_at_call 48;refine(H4.o _ _ hq ia).mono ?_;clear H4;rintro e w5 ⟨u5,rfl,ib,df⟩;have B:=B.below df;have hq:=Bt hq df;have Qe:=(W.below hq).ka;have Qb:=(X.below hq).ka;have Qf:=(ae.below hq).ka;have Qc:=(ah.below hq).kb;have T:=(n.below hq).kb;have Qd:=(n.below hq).fb)
    |(go_at_call 97;refine(H5.o _ _ _ B ib).mono ?_;clear H5;rintro e w6 ⟨u6,rfl,ed,gw⟩;obtain⟨kn,jg,kc,jn,kq,ji,jw,jp,rfl⟩:=Jg.form ed;have hq:=Bt hq gw;have Qe:=(W.below hq).ka;have Qb:=(X.below hq).ka;have Qf:=(ae.below hq).ka;have Qc:=(ah.below hq).kb;have T:=(n.below hq).kb;have Qd:=(n.below hq).fb))
  all_goals go_wp2_with fail
  have Ql:=Bt r.o.2.2 hq;have Qu:=r.o.ge 2 rfl;exact A0 (by simp[results,Tryz.results43,go_sem,T]) rfl ⟨_,rfl,ed.put4 (n.below hq) rfl rfl rfl rfl _ _ _ _,Jw Ql Qu _ _ _ _⟩
def kX(p q:Rat)(hp:Sq p)(hq:Sq q)(a up x y:Int)(b:((Int.gcd p.num (q.den:Int):Nat):Int)=a)(c:((Int.gcd q.num (p.den:Int):Nat):Int)=up)(d:p.num/a=x)(e:q.num/up=y):
 Sok a/\a≠0/\Sok up/\up≠0/\Sok x/\Sok y/\(p*q).num=x*y/\((p*q).den:Int)=p.den/up*(q.den/a):=by
 have hl:=ef p q a up b.symm c.symm;have g:a≠0:=by rw[<-b];have:=LS (x:=p.num) (y:=q.den) (by have:=q.den_nz;omega);omega
 have f:up≠0:=by rw[<-c];have:=LS (x:=q.num) (y:=p.den) (by have:=p.den_nz;omega);omega
 refine⟨by rw[<-b];exact hp.num.gcd hq.den,g,by rw[<-c];exact hq.num.gcd hp.den,f,by rw[<-d];exact hp.num.div,by rw[<-e];exact hq.num.div,?_,hl.2⟩;rw[hl.1,d,e]
theorem Kr(va vb:D)(p q:Rat)(w:H)(ha:Jg w va p)(hb:Jg w vb q)(bz:Sq p)(ce:Sq q):
 F I 179 #[va,vb] w λe w'=>∃u,e=.returned u/\Jg w' u (p*q)/\Bl w w':=by
 obtain⟨s,a,l,c,t,b,k,d,rfl⟩:=Jg.form ha;obtain⟨s',a',l',c',t',b',k',d',rfl⟩:=Jg.form hb;have M0:=OG w s t s' t' a b a' b' l c k d l' c' k' d' p q ha hb;obtain⟨W0,bg⟩:=ex (((w.alloc (G #[E s,C a l c,E t,C b k d] 50)).alloc (G #[E s',C a' l' c',E t',C b' k' d'] 50)).alloc (G #[E false,C none 0 0,E false,C none 0 0] 50));have Ql:=Z bg;rw[bg]at M0;obtain⟨M1,K,M⟩:=DY M0 bz ce;clear M0 ha hb bg bz ce;go_enter Tryz.func179,Tryz.ntmps179
 go_upto_region 1 with fail
 rw[Ql.o];clear Ql;obtain⟨bb,bn⟩:=ex (decide (p.den=1/\q.den=1):Bool);have Qh:=Z bn;clear bn;go_cut [13] λc w'=>c=E bb/\Hid (DI w w' [some (w.heap.size,.rat p),some (w.heap.size+1,.rat q),some (w.heap.size+1+1,.rat 0)])
 case first=>
  obtain⟨s1,a1,l1,c1,t1,b1,k1,d1,n1,r1,i1,j1⟩:=M1.o.rat (i:=0) rfl;have Qr:=n1.kb;obtain⟨s2,a2,l2,c2,t2,b2,k2,d2,n2,r2,i2,j2⟩:=M1.o.rat (i:=1) rfl;have Qs:=n2.kb;have H1:=Z (KH _ p W0 r1);have H2:=Z λ(V:H) (h:Bl W0 V)=>KH _ q V (r2.below h);by_cases B:p.den=1
  . rw[BG B]at H1;obtain⟨b2,S⟩:=ex (decide (q.den=1));rw[S]at H2;have Qj:=Z (show b2=bb by rw[<-S,<-Qh.o];exact Bz.2 ⟨λh=>⟨B,h⟩,λh=>h.2⟩);clear S B;go_wp2_with(first
     |(go_at_call 46;refine H1.o.mono ?_;clear H1;rintro e w1 ⟨rfl,ah⟩;have Qr:=(n1.below ah).kb;have Qs:=(n2.below ah).kb)
     |(go_at_call 46;refine(H2.o _ ah).mono ?_;clear H2;rintro e w2 ⟨rfl,S⟩))
    go_meet
    case rel=>exact⟨by rw[Qj.o],Z ((M1.o.below ah).below S)⟩
  . rw[BJ B]at H1;have Qj:=Z (show bb=false by rw[<-Qh.o];exact BJ λh=>B h.1);clear B;go_wp2_with(go_at_call 46;refine H1.o.mono ?_;clear H1;rintro e w1 ⟨rfl,ah⟩)
    go_meet
    case rel=>exact⟨by rw[Qj.o],Z (M1.o.below ah)⟩
 obtain⟨rfl,m⟩:=hcut;have M2:=m;clear M1 m;cases bb with
 |true=>
  have Qi:=Be Qh.o;have HW:=Z (kV Qi.1 Qi.2);clear Qi Qh;obtain⟨s3,a3,l3,c3,t3,b3,k3,d3,n3,r3,i3,j3⟩:=M2.o.rat (i:=0) rfl;have ig:=n3.kb;obtain⟨s4,a4,l4,c4,t4,b4,k4,d4,n4,r4,i4,j4⟩:=M2.o.rat (i:=1) rfl;have ii:=n4.kb;obtain⟨s5,a5,l5,c5,t5,b5,k5,d5,n5,r5,i5,j5⟩:=M2.o.rat (i:=2) rfl;have Qp:=n5.kb;have Qt:=n5.fb;go_wp2_with(go_at_call 48;refine(YX _ _ p.num q.num _ i3 i4 (by have B:=K.o.num.words;have h2:=M.o.num.words;omega)).mono ?_;rintro e w1 ⟨u,rfl,hu,hq⟩;obtain⟨ju,il,jk,ix,rfl⟩:=Jk.form2 hu;have Qp:=(n5.below hq).kb;have Qt:=(n5.below hq).fb)
  have hr:=Jg.mk (by rw[HW.o.1];exact hu) (by rw[Ng.2 HW.o.2];exact EW _);have Qk:=Bt M2.o.2.2 hq;exact A0 (by simp[results,Tryz.results179,go_sem,Qp]) rfl ⟨_,rfl,hr.put4 (n5.below hq) rfl rfl rfl rfl _ _ _ _,Jw Qk O _ _ _ _⟩
 |false=>
  clear Qh;obtain⟨r,bu⟩:=ex (((Int.gcd p.num (q.den:Int):Nat):Int):Int);have Qm:=Z bu;clear bu;obtain⟨up,cj⟩:=ex (((Int.gcd q.num (p.den:Int):Nat):Int):Int);have Qn:=Z cj;clear cj;obtain⟨x,hx⟩:=ex (p.num/r:Int);have HX:=Z hx;clear hx;obtain⟨y,hy⟩:=ex (q.num/up:Int);have HY:=Z hy;clear hy;obtain⟨S1,S2,S3,S4,S5,S6,S7,S8⟩:=kX p q K.o M.o r up x y Qm.o Qn.o HX.o HY.o;obtain⟨T1,T2,T3,T4,T5,T6,T7,T8⟩:=Ho S1 S2 S3 S4 S5 S6 S7 S8;clear S1 S2 S3 S4 S5 S6 S7 S8;go_upto_region 3 with fail
  refine YE Dh [[],[0],[],[2],[1,3,3],[],[5],[],[7,4],[6,8,8],[],[],[10,4,9,0,1,2,3,4,10,11],[11,9,12,0,1,2,3,4,5,6,7,8,9,10,11,12]] [.eq (L (some ⟨w.heap.size,0,none⟩)),.int (Rat.num (p)),.rat q,.int ((q.den:Int)),.int r,.eq (L (some ⟨w.heap.size+1,0,none⟩)),.int (Rat.num (q)),.rat p,.int ((p.den:Int)),.int up,.ptr,.ptr,.eq N,.eq N] [10,11,12,13] (λb v V=>DI w V [some (w.heap.size,.rat p),some (w.heap.size+1,.rat q),some (w.heap.size+1+1,.rat 0),nb b v 0 2 (.int 0) (.int r),nb b v 1 3 (.int 0) (.int up)]) ((M2.o.none).none).drew (SR (.vl rfl λ_ _=>⟨_,by refine DO ?_;go_simp,rfl⟩)<|SR (.vl rfl λh j=>LQ 0 j (hp:=h.e 0))<|SR (.vl rfl λ_ j=>Ei 1 j)<|SR (.cl λh _=>FU _ q _ (h.g 2))<|SR (.cl λh _=>(by have h:=Kq _ _ p.num (q.den:Int) _ (h.g 1) (h.g 3) (by have:=K.o.num.words;omega) (by have:=M.o.den.words;omega);rw[Qm.o]at h;exact h))<|SR (.vl rfl λ_ _=>⟨_,by refine DO ?_;go_simp,rfl⟩)<|SR (.vl rfl λh j=>LQ 1 j (hp:=h.e 5))<|SR (.vl rfl λ_ j=>Ei 0 j)<|SR (.cl λh _=>FU _ p _ (h.g 7))<|SR (.cl λh _=>(by have h:=Kq _ _ q.num (p.den:Int) _ (h.g 6) (h.g 8) (by have:=M.o.num.words;omega) (by have:=K.o.den.words;omega);rw[Qn.o]at h;exact h))<|SR (.wr rfl λ_ j=>GN 3 j)<|SR (.wr rfl λ_ j=>GN 4 j)<|SR (.wr rfl λh j=>Ey 3 j (h.g 4) (hp:=h.g 10))<|SR (.wr rfl λh j=>Ey 4 j (h.g 9) (hp:=h.g 11)) Stp.end_)
   λf V7 hF m=>?_
  refine DO ?_;rw[hF.e 0,hF.e 5];obtain⟨B8,ap⟩:=hF.p 10;obtain⟨B9,aq⟩:=hF.p 11;have m:=Du m;simp only[ap,aq]at m;rw[ap,aq];have M3:=Z m;clear m hF ap aq;clear M2;go_upto_region 4 with fail
  refine YE Dh [[],[0],[],[1,2],[],[4],[],[5,6,3],[3,7,7],[],[9,8,8,0,1,2,3,4,5,6,7,8,9]] [.eq (L (some ⟨w.heap.size,0,none⟩)),.int (Rat.num (p)),.int r,.int x,.eq (L (some ⟨w.heap.size+1,0,none⟩)),.int (Rat.num (q)),.int up,.int y,.int (x*y),.ptr,.eq N] [9,10] (λb v V=>DI w V [some (w.heap.size,.rat p),some (w.heap.size+1,.rat q),some (w.heap.size+1+1,.rat 0),some (B8,.int r),some (B9,.int up),nb b v 0 1 (.int 0) (.int (x*y))]) (M3.o.none).drew (SR (.vl rfl λ_ _=>⟨_,by refine DO ?_;go_simp,rfl⟩)<|SR (.vl rfl λh j=>LQ 0 j (hp:=h.e 0))<|SR (.vl rfl λ_ j=>FM 3 j)<|SR (.cl λh _=>(by have h:=G9 _ _ p.num r _ (h.g 1) (h.g 2) T2.o K.o.num T1.o;rw[HX.o]at h;exact h))<|SR (.vl rfl λ_ _=>⟨_,by refine DO ?_;go_simp,rfl⟩)<|SR (.vl rfl λh j=>LQ 1 j (hp:=h.e 4))<|SR (.vl rfl λ_ j=>FM 4 j)<|SR (.cl λh _=>(by have h:=G9 _ _ q.num up _ (h.g 5) (h.g 6) T4.o M.o.num T3.o;rw[HY.o]at h;exact h))<|SR (.cl λh _=>YX _ _ x y _ (h.g 3) (h.g 7) (by have:=T5.o.words;have:=T6.o.words;omega))<|SR (.wr rfl λ_ j=>GN 5 j)<|SR (.wr rfl λh j=>Ey 5 j (h.g 8) (hp:=h.g 9)) Stp.end_)
   λf z hF m=>?_
  refine DO ?_;rw[hF.e 0,hF.e 4];obtain⟨B12,an⟩:=hF.p 9;have m:=Du m;simp only[an]at m;rw[an];have n:=Z m;clear m hF an;clear M3;go_upto_region 5 with fail
  obtain⟨gv,cn,gh,dt,T,fh⟩:=n.o.int (i:=5) rfl;have Qb:=T.ka;obtain⟨gw,co,gi,dx,ic,di,fo,f9,U,gr,jb,je⟩:=n.o.rat (i:=0) rfl;have Qf:=U.kb;obtain⟨gy,de,gj,dz,W,fi⟩:=n.o.int (i:=4) rfl;have Qd:=W.ka;obtain⟨ia,df,gn,ed,ie,dj,fx,fg,X,gu,jc,jf⟩:=n.o.rat (i:=1) rfl;have Qc:=X.kb;obtain⟨ib,dh,gq,ei,ae,fm⟩:=n.o.int (i:=3) rfl;have Qe:=ae.ka;obtain⟨jt,ij,jj,iw,jx,ir,jh,iz,g,js,jd,jg⟩:=n.o.rat (i:=2) rfl;have Q:=g.kb;have Qg:=g.fb;obtain⟨H2,H4,H6,H8,H9,Qo⟩:=Ie (λ(V:H) (h:Bl z V)=>FU _ p V (gr.below h)) (λ(V:H) (h:Bl z V) (v2:D) (o:Jk V v2 ((p.den:Int)))=>G9 _ _ (p.den:Int) up V o (fi.below h) T4.o K.o.den T3.o) (λ(V:H) (h:Bl z V)=>FU _ q V (gu.below h)) (λ(V:H) (h:Bl z V) (v6:D) (A:Jk V v6 ((q.den:Int)))=>G9 _ _ (q.den:Int) r V A (fm.below h) T2.o M.o.den T1.o) (λ(V:H) (h:Bl z V) (v4:D) (g4:Jk V v4 ((p.den:Int)/up)) (v8:D) (R:Jk V v8 ((q.den:Int)/r))=>YX _ _ ((p.den:Int)/up) ((q.den:Int)/r) V g4 R (by have B:=(Sok.div (y:=up) K.o.den).words;have h2:=(Sok.div (y:=r) M.o.den).words;omega)) λ(V:H) (h:Bl z V) (v9:D) (g9:Jk V v9 ((p.den:Int)/up*((q.den:Int)/r)))=>OE _ _ (p*q) V (by rw[T7.o];exact(fh.below h)) (by rw[T8.o];exact g9);have jr:=n.o.ne 5 2 rfl rfl DJ;have jn:=n.o.ne 0 2 rfl rfl DJ;have jq:=n.o.ne 4 2 rfl rfl DJ;have jo:=n.o.ne 1 2 rfl rfl DJ;have jp:=n.o.ne 3 2 rfl rfl DJ;have hq:Bl z z.drew:=(BA _ z).drew;go_region_held3 (λw'=>(w'.cell? ⟨B12,0,none⟩=some (E gv)/\w'.cell? ⟨B12,1,none⟩=some (C cn gh dt))/\(w'.cell? ⟨w.heap.size,0,none⟩=some (E gw)/\w'.cell? ⟨w.heap.size,1,none⟩=some (C co gi dx)/\w'.cell? ⟨w.heap.size,2,none⟩=some (E ic)/\w'.cell? ⟨w.heap.size,3,none⟩=some (C di fo f9))/\(w'.cell? ⟨B9,0,none⟩=some (E gy)/\w'.cell? ⟨B9,1,none⟩=some (C de gj dz))/\(w'.cell? ⟨w.heap.size+1,0,none⟩=some (E ia)/\w'.cell? ⟨w.heap.size+1,1,none⟩=some (C df gn ed)/\w'.cell? ⟨w.heap.size+1,2,none⟩=some (E ie)/\w'.cell? ⟨w.heap.size+1,3,none⟩=some (C dj fx fg))/\w'.cell? ⟨B8,0,none⟩=some (E ib)/\w'.cell? ⟨B8,1,none⟩=some (C dh gq ei)) (first|grind|(go_keep;done)|((repeat' apply And.intro)<;>((repeat rw[JO O]);grind)))
   (first
    |(go_at_call 49;refine(H2.o _ hq ).mono ?_;clear H2;rintro e w2 ⟨v2,rfl,o,S⟩;have hq:=Bt hq S;have Qb:=(T.below hq).ka;have Qf:=(U.below hq).kb;have Qd:=(W.below hq).ka;have Qc:=(X.below hq).kb;have Qe:=(ae.below hq).ka;have Q:=(g.below hq).kb;have Qg:=(g.below hq).fb)
    |(go_at_call 96;refine(H4.o _ hq _ o).mono ?_;clear H4;rintro e w4 ⟨v4,rfl,g4,bm⟩;have o:=o.below bm;have hq:=Bt hq bm;have Qb:=(T.below hq).ka;have Qf:=(U.below hq).kb;have Qd:=(W.below hq).ka;have Qc:=(X.below hq).kb;have Qe:=(ae.below hq).ka;have Q:=(g.below hq).kb;have Qg:=(g.below hq).fb)
    |(go_at_call 49;refine(H6.o _ hq ).mono ?_;clear H6;rintro e w6 ⟨v6,rfl,A,bi⟩;have o:=o.below bi;have g4:=g4.below bi;have hq:=Bt hq bi;have Qb:=(T.below hq).ka;have Qf:=(U.below hq).kb;have Qd:=(W.below hq).ka;have Qc:=(X.below hq).kb;have Qe:=(ae.below hq).ka;have Q:=(g.below hq).kb;have Qg:=(g.below hq).fb)
    |(go_at_call 96;refine(H8.o _ hq _ A).mono ?_;clear H8;rintro e w8 ⟨v8,rfl,R,am⟩;have o:=o.below am;have g4:=g4.below am;have A:=A.below am;have hq:=Bt hq am;have Qb:=(T.below hq).ka;have Qf:=(U.below hq).kb;have Qd:=(W.below hq).ka;have Qc:=(X.below hq).kb;have Qe:=(ae.below hq).ka;have Q:=(g.below hq).kb;have Qg:=(g.below hq).fb)
    |(go_at_call 48;refine(H9.o _ hq _ g4 _ R).mono ?_;clear H9;rintro e w9 ⟨v9,rfl,g9,aj⟩;have o:=o.below aj;have g4:=g4.below aj;have A:=A.below aj;have R:=R.below aj;have hq:=Bt hq aj;have Qb:=(T.below hq).ka;have Qf:=(U.below hq).kb;have Qd:=(W.below hq).ka;have Qc:=(X.below hq).kb;have Qe:=(ae.below hq).ka;have Q:=(g.below hq).kb;have Qg:=(g.below hq).fb)
    |(go_at_call 97;refine(Qo.o _ hq _ g9).mono ?_;clear Qo;rintro e kc ⟨jz,rfl,bj,ai⟩;obtain⟨jw,io,jl,iy,jy,iu,ji,ja,rfl⟩:=Jg.form bj;have o:=o.below ai;have g4:=g4.below ai;have A:=A.below ai;have R:=R.below ai;have g9:=g9.below ai;have hq:=Bt hq ai;have Qb:=(T.below hq).ka;have Qf:=(U.below hq).kb;have Qd:=(W.below hq).ka;have Qc:=(X.below hq).kb;have Qe:=(ae.below hq).ka;have Q:=(g.below hq).kb;have Qg:=(g.below hq).fb))
  all_goals go_wp2_with fail
  have Qk:=Bt n.o.2.2 hq;have Qq:=n.o.ge 2 rfl;exact A0 (by simp[results,Tryz.results179,go_sem,Q]) rfl ⟨_,rfl,bj.put4 (g.below hq) rfl rfl rfl rfl _ _ _ _,Jw Qk Qq _ _ _ _⟩
def KJ(R S:D)(x y:Int)(w:H)(r:Jk w R x)(hb:Jk w S y)(z:Sok x)(A:Sok y):
 F I 193 #[R,S] w λe w'=>∃u,e=.returned (.tuple #[u,E (decide (y≠0))])/\Jg w' u (Rat.divInt x y)/\Bl w w':=by
 have U:=Z z;have W:=Z A;clear z A;obtain⟨s,a,la,ca,rfl⟩:=Jk.form2 r;obtain⟨t,b,lb,cb,rfl⟩:=Jk.form2 hb;have m:=QO w s t a b la ca lb cb _ _ r hb;obtain⟨W0,q⟩:=ex (((w.alloc (G #[E s,C a la ca] 48)).alloc (G #[E t,C b lb cb] 48)).alloc (G #[E false,C none 0 0,E false,C none 0 0] 50));have v:=Z q;rw[q]at m;have f:=Z m;clear m r hb q;obtain⟨s1,a1,l1,c1,M,i1⟩:=f.o.int (i:=0) rfl;have Qf:=M.ka;obtain⟨s2,a2,l2,c2,Q,K⟩:=f.o.int (i:=1) rfl;have Qg:=Q.ka;obtain⟨s3,a3,l3,c3,t3,b3,k3,d3,d,r3,i3,j3⟩:=f.o.rat (i:=2) rfl;have j:=d.kb;have n:=d.fb;have k:=Z (VM _ y W0 K);have g:=Z λ(V:H) (h:Bl W0 V) (c:y≠0)=>VP _ _ x y V (i1.below h) (K.below h) c U.o W.o;by_cases c:y=0
 . rw[BG c]at k;have l:=Z (BJ (p:=y≠0) λh=>h c);rw[l.o];have T:=Z (show Rat.divInt x y=0 by rw[c,Rat.divInt_zero]);clear c g;go_enter Tryz.func193,Tryz.ntmps193
   go_upto_region 1 with fail
   rw[v.o];go_wp2_with(go_at_call 102;refine k.o.mono ?_;rintro e w1 ⟨rfl,hq⟩;have j:=(d.below hq).kb;have n:=(d.below hq).fb)
   have hr:Jg w1 (P #[E false,C none 0 0,E false,C none 0 0]) (Rat.divInt x y):=by rw[T.o];exact XE _
   have o:=Bt f.o.2.2 hq;exact A0 (by simp[results,Tryz.results193,go_sem,j]) rfl ⟨_,rfl,hr.put4 (d.below hq) rfl rfl rfl rfl _ _ _ _,Jw o O _ _ _ _⟩
 . rw[BJ c]at k;have l:=Z (BG (p:=y≠0) c);rw[l.o];have g:=Z λV h=>g.o V h c;clear c;go_enter Tryz.func193,Tryz.ntmps193
   go_upto_region 1 with fail
   rw[v.o];go_wp2_with(first
    |(go_at_call 102;refine k.o.mono ?_;rintro e w1 ⟨rfl,hq⟩;have Qf:=(M.below hq).ka;have Qg:=(Q.below hq).ka;have j:=(d.below hq).kb;have n:=(d.below hq).fb)
    |(go_at_call 100;refine(g.o _ hq).mono ?_;clear g;rintro e w2 ⟨u2,rfl,B,ae⟩;obtain⟨aq,ah,ap,aj,bg,ai,an,am,rfl⟩:=Jg.form B;have hq:=Bt hq ae;have j:=(d.below hq).kb;have n:=(d.below hq).fb))
   have o:=Bt f.o.2.2 hq;have X:=f.o.ge 2 rfl;exact A0 (by simp[results,Tryz.results193,go_sem,j]) rfl ⟨_,rfl,B.put4 (d.below hq) rfl rfl rfl rfl _ _ _ _,Jw o X _ _ _ _⟩
def kY(p q:Rat):decide ((p.den:Int)*q.num≠0)=decide (q≠0):=by
 refine Bz.2 (not_congr ⟨λh=>?_,λh=>?_⟩)
 . rcases Int.mul_eq_zero.1 h with h|h
   . have:=p.den_nz;omega
   . exact Fn.1 h
 . rw[h];exact Fx _
theorem QP(va vb:D)(p q:Rat)(w:H)(S:Jg w va p)(hb:Jg w vb q)(ai:Sq p)(aj:Sq q):
 F I 177 #[va,vb] w λe w'=>∃u,e=.returned (.tuple #[u,E (decide (q≠0))])/\Jg w' u (p/q)/\Bl w w':=by
 obtain⟨bq,U⟩:=ex (decide (q≠0));have Qh:=Z ((kY p q).trans U);rw[U];clear U;obtain⟨s,a,l,c,t,b,k,d,rfl⟩:=Jg.form S;obtain⟨s',a',l',c',t',b',k',d',rfl⟩:=Jg.form hb;have Q:=OG w s t s' t' a b a' b' l c k d l' c' k' d' p q S hb;obtain⟨W0,R⟩:=ex (((w.alloc (G #[E s,C a l c,E t,C b k d] 50)).alloc (G #[E s',C a' l' c',E t',C b' k' d'] 50)).alloc (G #[E false,C none 0 0,E false,C none 0 0] 50));have Qe:=Z R;rw[R]at Q;obtain⟨j,B,K⟩:=DY Q ai aj;clear Q S hb R ai aj;go_enter Tryz.func177,Tryz.ntmps177
 go_upto_region 1 with fail
 rw[Qe.o];clear Qe;obtain⟨s1,a1,l1,c1,t1,b1,k1,d1,o,r1,i1,j1⟩:=j.o.rat (i:=0) rfl;have v:=o.kb;obtain⟨s2,a2,l2,c2,t2,b2,k2,d2,r,r2,i2,j2⟩:=j.o.rat (i:=1) rfl;have y:=r.kb;obtain⟨s3,a3,l3,c3,t3,b3,k3,d3,f,r3,i3,j3⟩:=j.o.rat (i:=2) rfl;have n:=f.kb;have x:=f.fb;obtain⟨W,X,H6,H9,Qf⟩:=GZ (λ(V:H) (h:Bl W0 V)=>FU _ q V (r2.below h)) (λ(V:H) (h:Bl W0 V) (v3:D) (g:Jk V v3 ((q.den:Int)))=>YX _ _ p.num (q.den:Int) V (i1.below h) g (by have h1:=B.o.num.words;have h2:=K.o.den.words;omega)) (λ(V:H) (h:Bl W0 V)=>FU _ p V (r1.below h)) (λ(V:H) (h:Bl W0 V) (v6:D) (m:Jk V v6 ((p.den:Int)))=>YX _ _ (p.den:Int) q.num V m (i2.below h) (by have h1:=B.o.den.words;have h2:=K.o.num.words;omega)) λ(V:H) (h:Bl W0 V) (v4:D) (g4:Jk V v4 (p.num*(q.den:Int))) (v9:D) (z:Jk V v9 ((p.den:Int)*q.num))=>(by have h:=KJ _ _ (p.num*(q.den:Int)) ((p.den:Int)*q.num) V g4 z (B.o.cross K.o) (B.o.cross2 K.o);rw[Qh.o,eh]at h;exact h);have bm:=j.o.ne 0 2 rfl rfl DJ;have bn:=j.o.ne 1 2 rfl rfl DJ;have hq:Bl W0 W0.drew:=(BA _ W0).drew;go_region_held3 (λw'=>(w'.cell? ⟨w.heap.size,0,none⟩=some (E s1)/\w'.cell? ⟨w.heap.size,1,none⟩=some (C a1 l1 c1)/\w'.cell? ⟨w.heap.size,2,none⟩=some (E t1)/\w'.cell? ⟨w.heap.size,3,none⟩=some (C b1 k1 d1))/\w'.cell? ⟨w.heap.size+1,0,none⟩=some (E s2)/\w'.cell? ⟨w.heap.size+1,1,none⟩=some (C a2 l2 c2)/\w'.cell? ⟨w.heap.size+1,2,none⟩=some (E t2)/\w'.cell? ⟨w.heap.size+1,3,none⟩=some (C b2 k2 d2)) (first|grind|(go_keep;done)|((repeat' apply And.intro)<;>((repeat rw[JO O]);grind)))
  (first
   |(go_at_call 49;refine(W.o _ hq ).mono ?_;clear W;rintro e w3 ⟨v3,rfl,g,am⟩;have hq:=Bt hq am;have v:=(o.below hq).kb;have y:=(r.below hq).kb;have n:=(f.below hq).kb;have x:=(f.below hq).fb)
   |(go_at_call 48;refine(X.o _ hq _ g).mono ?_;clear X;rintro e w4 ⟨v4,rfl,g4,ah⟩;have g:=g.below ah;have hq:=Bt hq ah;have v:=(o.below hq).kb;have y:=(r.below hq).kb;have n:=(f.below hq).kb;have x:=(f.below hq).fb)
   |(go_at_call 49;refine(H6.o _ hq ).mono ?_;clear H6;rintro e w6 ⟨v6,rfl,m,T⟩;have g:=g.below T;have g4:=g4.below T;have hq:=Bt hq T;have v:=(o.below hq).kb;have y:=(r.below hq).kb;have n:=(f.below hq).kb;have x:=(f.below hq).fb)
   |(go_at_call 48;refine(H9.o _ hq _ m).mono ?_;clear H9;rintro e w9 ⟨v9,rfl,z,M⟩;have g:=g.below M;have g4:=g4.below M;have m:=m.below M;have hq:=Bt hq M;have v:=(o.below hq).kb;have y:=(r.below hq).kb;have n:=(f.below hq).kb;have x:=(f.below hq).fb)
   |(go_at_call 193;refine(Qf.o _ hq _ g4 _ z).mono ?_;clear Qf;rintro e cj ⟨ce,rfl,ae,A⟩;obtain⟨bu,an,bj,aq,bz,ap,bi,bg,rfl⟩:=Jg.form ae;have g:=g.below A;have g4:=g4.below A;have m:=m.below A;have z:=z.below A;have hq:=Bt hq A;have v:=(o.below hq).kb;have y:=(r.below hq).kb;have n:=(f.below hq).kb;have x:=(f.below hq).fb))
 all_goals go_wp2_with fail
 have Qi:=Bt j.o.2.2 hq;have Qg:=j.o.ge 2 rfl;exact A0 (by simp[results,Tryz.results177,go_sem,n]) rfl ⟨_,rfl,ae.put4 (f.below hq) rfl rfl rfl rfl _ _ _ _,Jw Qi Qg _ _ _ _⟩
def Xq(p q:Rat):Int:=XQ (p.num*q.den) (q.num*p.den)
theorem XI(va vb:D)(p q:Rat)(w:H)(ha:Jg w va p)(hb:Jg w vb q)(aj:Sq p)(am:Sq q):
 F I 21 #[va,vb] w λe w'=>e=.returned (.int .i64 (Xq p q))/\Bl w w':=by
 obtain⟨s,a,l,c,t,b,k,d,rfl⟩:=Jg.form ha;obtain⟨s',a',l',c',t',b',k',d',rfl⟩:=Jg.form hb;have T:=kT w s t s' t' a b a' b' l c k d l' c' k' d' p q ha hb;obtain⟨W0,X⟩:=ex ((w.alloc (G #[E s,C a l c,E t,C b k d] 50)).alloc (G #[E s',C a' l' c',E t',C b' k' d'] 50));have Qf:=Z X;rw[X]at T;have x:=Z T;obtain⟨n,hn⟩:=ex (Xq p q);have HN:=Z hn;rw[hn];have HP:=Z aj;have HQ:=Z am;clear T ha hb X aj am hn;go_enter Tryz.func21,Tryz.ntmps21
 go_upto_region 1 with fail
 rw[Qf.o];clear Qf;obtain⟨Q,ai⟩:=ex (decide (p.den=1/\q.den=1):Bool);have A:=Z ai;clear ai;go_cut [10] λc w'=>c=E Q/\Hid (DI w w' [some (w.heap.size,.rat p),some (w.heap.size+1,.rat q)])
 case first=>
  obtain⟨s1,a1,l1,c1,t1,b1,k1,d1,n1,r1,i1,j1⟩:=x.o.rat (i:=0) rfl;have Qh:=n1.kb;obtain⟨s2,a2,l2,c2,t2,b2,k2,d2,n2,r2,i2,j2⟩:=x.o.rat (i:=1) rfl;have Qi:=n2.kb;have g:=Z (KH _ p W0 r1);have S:=Z λ(V:H) (h:Bl W0 V)=>KH _ q V (r2.below h);by_cases o:p.den=1
  . rw[BG o]at g;obtain⟨b2,M⟩:=ex (decide (q.den=1));rw[M]at S;have W:=Z (show b2=Q by rw[<-M,<-A.o];grind);clear M o;go_wp2_with(first
     |(go_at_call 46;refine g.o.mono ?_;clear g;rintro e w1 ⟨rfl,r⟩;have Qh:=(n1.below r).kb;have Qi:=(n2.below r).kb)
     |(go_at_call 46;refine(S.o _ r).mono ?_;clear S;rintro e w2 ⟨rfl,M⟩))
    go_meet
    case rel=>exact⟨by rw[W.o],Z ((x.o.below r).below M)⟩
  . rw[BJ o]at g;have W:=Z (show Q=false by rw[<-A.o];grind);clear o;go_wp2_with(go_at_call 46;refine g.o.mono ?_;clear g;rintro e w1 ⟨rfl,r⟩)
    go_meet
    case rel=>exact⟨by rw[W.o],Z (x.o.below r)⟩
 obtain⟨rfl,MM⟩:=hcut;have m:=MM;clear x MM;cases Q with
 |true=>
  have U:=Be A.o;have HE:=Z (show XQ p.num q.num=n by rw[<-HN.o];unfold Xq;rw[U.1,U.2];simp);clear U A;obtain⟨s3,a3,l3,c3,t3,b3,k3,d3,n3,r3,i3,j3⟩:=m.o.rat (i:=0) rfl;have ap:=n3.kb;obtain⟨s4,a4,l4,c4,t4,b4,k4,d4,n4,r4,i4,j4⟩:=m.o.rat (i:=1) rfl;have aq:=n4.kb;have g:=Z (Ih _ _ p.num q.num wc i3 i4);rw[HE.o]at g;go_wp2_with(go_at_call 47;refine g.o.mono ?_;clear g;rintro e w1 ⟨rfl,hq⟩)
  go_ret;exact⟨rfl,Bt m.o.2.2 hq⟩
 |false=>
  clear A;go_upto_region 3 with fail
  obtain⟨s5,a5,l5,c5,t5,b5,k5,d5,u,r5,i5,j5⟩:=m.o.rat (i:=0) rfl;have z:=u.kb;obtain⟨s6,a6,l6,c6,t6,b6,k6,d6,v,r6,i6,j6⟩:=m.o.rat (i:=1) rfl;have y:=v.kb;obtain⟨H3,H4,H8,H9,Qg⟩:=GZ (λ(V:H) (h:Bl wc V)=>FU _ q V (r6.below h)) (λ(V:H) (h:Bl wc V) (v3:D) (f:Jk V v3 ((q.den:Int)))=>YX _ _ p.num (q.den:Int) V (i5.below h) f (by have o:=HP.o.num.words;have h2:=HQ.o.den.words;omega)) (λ(V:H) (h:Bl wc V)=>FU _ p V (r5.below h)) (λ(V:H) (h:Bl wc V) (v8:D) (j:Jk V v8 ((p.den:Int)))=>YX _ _ q.num (p.den:Int) V (i6.below h) j (by have o:=HQ.o.num.words;have h2:=HP.o.den.words;omega)) λ(V:H) (h:Bl wc V) (v4:D) (g4:Jk V v4 (p.num*(q.den:Int))) (v9:D) (B:Jk V v9 (q.num*(p.den:Int)))=>(by have h:=Ih _ _ (p.num*(q.den:Int)) (q.num*(p.den:Int)) V g4 B;rw[show XQ (p.num*(q.den:Int)) (q.num*(p.den:Int))=n from HN.o]at h;exact h);have hq:Bl wc wc.drew:=(BA _ wc).drew;go_region_held3 (λw'=>(w'.cell? ⟨w.heap.size,0,none⟩=some (E s5)/\w'.cell? ⟨w.heap.size,1,none⟩=some (C a5 l5 c5)/\w'.cell? ⟨w.heap.size,2,none⟩=some (E t5)/\w'.cell? ⟨w.heap.size,3,none⟩=some (C b5 k5 d5))/\w'.cell? ⟨w.heap.size+1,0,none⟩=some (E s6)/\w'.cell? ⟨w.heap.size+1,1,none⟩=some (C a6 l6 c6)/\w'.cell? ⟨w.heap.size+1,2,none⟩=some (E t6)/\w'.cell? ⟨w.heap.size+1,3,none⟩=some (C b6 k6 d6)) (first|grind|(go_keep;done)|((repeat' apply And.intro)<;>((repeat rw[JO O]);first|(simp only[*];done)|(go_keep;done))))
   (first
    |(go_at_call 49;refine(H3.o _ hq ).mono ?_;clear H3;rintro e w3 ⟨v3,rfl,f,an⟩;have hq:=Bt hq an;have z:=(u.below hq).kb;have y:=(v.below hq).kb)
    |(go_at_call 48;refine(H4.o _ hq _ f).mono ?_;clear H4;rintro e w4 ⟨v4,rfl,g4,ah⟩;have f:=f.below ah;have hq:=Bt hq ah;have z:=(u.below hq).kb;have y:=(v.below hq).kb)
    |(go_at_call 49;refine(H8.o _ hq ).mono ?_;clear H8;rintro e w8 ⟨v8,rfl,j,ae⟩;have f:=f.below ae;have g4:=g4.below ae;have hq:=Bt hq ae;have z:=(u.below hq).kb;have y:=(v.below hq).kb)
    |(go_at_call 48;refine(H9.o _ hq _ j).mono ?_;clear H9;rintro e w9 ⟨v9,rfl,B,R⟩;have f:=f.below R;have g4:=g4.below R;have j:=j.below R;have hq:=Bt hq R;have z:=(u.below hq).kb;have y:=(v.below hq).kb)
    |(go_at_call 47;refine(Qg.o _ hq _ g4 _ B).mono ?_;clear Qg;rintro e bg ⟨rfl,K⟩;have f:=f.below K;have g4:=g4.below K;have j:=j.below K;have B:=B.below K;have hq:=Bt hq K;have z:=(u.below hq).kb;have y:=(v.below hq).kb))
  all_goals go_wp2_with fail
  go_ret;exact⟨rfl,Bt m.o.2.2 hq⟩
theorem LT(va vb:D)(p q:Rat)(w:H)(r:Jg w va p)(hb:Jg w vb q)(ae:Sq p)(ah:Sq q):
 F I 42 #[va,vb] w λe w'=>∃u,e=.returned u/\Jg w' u (p-q)/\Bl w w':=by
 obtain⟨s,a,l,c,t,b,k,d,rfl⟩:=Jg.form r;obtain⟨s',a',l',c',t',S,k',W,rfl⟩:=Jg.form hb;have m:=OG w s t s' t' a b a' S l c k d l' c' k' W p q r hb;obtain⟨W0,o⟩:=ex (((w.alloc (G #[E s,C a l c,E t,C b k d] 50)).alloc (G #[E s',C a' l' c',E t',C S k' W] 50)).alloc (G #[E false,C none 0 0,E false,C none 0 0] 50));have B:=Z o;rw[o]at m;obtain⟨j,HP,A⟩:=DY m ae ah;clear m r hb o ae ah;go_enter Tryz.func42,Tryz.ntmps42
 go_upto_region 1 with fail
 rw[B.o];clear B;obtain⟨s1,R,l1,c1,t1,T,k1,d1,v,r1,i1,j1⟩:=j.o.rat (i:=0) rfl;have K:=v.kb;obtain⟨s2,a2,l2,c2,t2,U,k2,X,x,r2,i2,j2⟩:=j.o.rat (i:=1) rfl;have Q:=x.kb;obtain⟨s3,a3,l3,c3,t3,b3,k3,d3,f,r3,i3,j3⟩:=j.o.rat (i:=2) rfl;have n:=f.kb;have M:=f.fb;have y:=Z λ(V:H) (h:Bl W0 V)=>QL _ _ 0 q.num V (EW _) (i2.below h) (by have:=Sok.zero.words;omega) (by have:=A.o.num.words;omega);have z:=Z (λ(V:H) (h:Bl W0 V) (s:Bool) (a:Option Addr) (l c:Nat) (g:Jk V (P #[E s,C a l c]) (0-q.num))=>show F I 43 #[P #[E s1,C R l1 c1,E t1,C T k1 d1],P #[E s,C a l c,E t2,C U k2 X]] V λe w'=>∃u,e=.returned u/\Jg w' u (p-q)/\Bl V w' by
  have h1:=KI _ _ p (-q) V (r1.below h) (Jg.mk (q:=-q) (by rw[Rat.neg_num,<-Int.zero_sub];exact g) (j2.below h)) HP.o A.o.neg;rw[<-Rat.sub_eq_add_neg]at h1;exact h1)
 have hq:Bl W0 W0.drew:=(BA _ W0).drew;go_region_held3 (λw'=>(w'.cell? ⟨w.heap.size,0,none⟩=some (E s1)/\w'.cell? ⟨w.heap.size,1,none⟩=some (C R l1 c1)/\w'.cell? ⟨w.heap.size,2,none⟩=some (E t1)/\w'.cell? ⟨w.heap.size,3,none⟩=some (C T k1 d1))/\w'.cell? ⟨w.heap.size+1,0,none⟩=some (E s2)/\w'.cell? ⟨w.heap.size+1,1,none⟩=some (C a2 l2 c2)/\w'.cell? ⟨w.heap.size+1,2,none⟩=some (E t2)/\w'.cell? ⟨w.heap.size+1,3,none⟩=some (C U k2 X)) (first|grind|(go_keep;done)|grind[JO])
  (first
   |(go_at_call 93;refine(y.o _ hq).mono ?_;clear y;rintro e w1 ⟨u1,rfl,ai,am⟩;obtain⟨ce,ap,bu,bi,rfl⟩:=Jk.form2 ai;have hq:=Bt hq am;have K:=(v.below hq).kb;have Q:=(x.below hq).kb;have n:=(f.below hq).kb;have M:=(f.below hq).fb)
   |(go_at_call 43;refine(z.o _ hq _ _ _ _ ai).mono ?_;clear z;rintro e w2 ⟨u2,rfl,aj,an⟩;obtain⟨cj,aq,bz,bj,cn,bg,bn,bm,rfl⟩:=Jg.form aj;have hq:=Bt hq an;have K:=(v.below hq).kb;have Q:=(x.below hq).kb;have n:=(f.below hq).kb;have M:=(f.below hq).fb))
 all_goals go_wp2_with fail
 have Qg:=Bt j.o.2.2 hq;have Qf:=j.o.ge 2 rfl;exact A0 (by simp[results,Tryz.results42,go_sem,n]) rfl ⟨_,rfl,aj.put4 (f.below hq) rfl rfl rfl rfl _ _ _ _,Jw Qg Qf _ _ _ _⟩
end
section
variable{qs:List Rat}{cap l:Nat}{a:Option Addr}{W:H}
theorem kZ(q:Rat):Xq q 0=0↔q=0:=by
 grind[Rat.eq_iff_mul_eq_mul,Xq,XQ]
def FO:Sq 0:=Sq.of (k:=1) ⟨Sm.zero _,Sm.one _ O⟩ O
def kl(v:D)(q:Rat)(w:H)(h:Jg w v q)(hq:Sq q):
 F I 56 #[v] w λe w'=>e=.returned (E (decide (q=0)))/\Bl w w':=by
 obtain⟨s,a,l,c,t,b,k,d,rfl⟩:=h.form;have b0:=JS.new w 50 (E s) (C a l c) (E t) (C b k d);have f:Bl w (w.alloc (G #[E s,C a l c,E t,C b k d] 50)):=Ba w _;obtain⟨W0,g⟩:=ex (w.alloc (G #[E s,C a l c,E t,C b k d] 50));rw[g]at b0 f;have m:=Z g;have i:=Z (XI _ _ q 0 W0 (h.below f) (XE _) hq FO);obtain⟨p,r,u,x⟩:=b0.cq;have j:=Z (kZ q);obtain⟨n,hn⟩:=ex (Xq q 0);rw[hn]at i j;clear g hn;go_enter Tryz.func56,Tryz.ntmps56
 go_upto_region 1 with fail
 rw[m.o];go_wp2_with(go_at_call 21;refine i.o.mono ?_;rintro e w1 ⟨rfl,o⟩)
 go_ret;refine⟨?_,Bt f o⟩;show Ending.returned (Value.bool (n==0))=_;have e:(n==0)=decide (q=0):=by rw[Fz];simp[j.o]
 rw[e]
def kr(c:Nat)(a:Option Addr)(len cap:Nat)(x y z u:Nat->D)(k:Nat)(W:H):Prop:=
 W.cell? ⟨c,0,none⟩=some (C a len cap)/\(k<len->∃b,a=some ⟨b,0,none⟩/\W.cell? ⟨b,(len-1-k)*4,none⟩=some (x (len-1-k))/\W.cell? ⟨b,(len-1-k)*4+1,none⟩=some (y (len-1-k))/\
  W.cell? ⟨b,(len-1-k)*4+2,none⟩=some (z (len-1-k))/\W.cell? ⟨b,(len-1-k)*4+3,none⟩=some (u (len-1-k)))
def MQ(len:Nat)(x y z u:Nat->D)(k:Nat):Array D:=#[.int .i64 ((len:Int)-1-k),P #[x (len-1-k),y (len-1-k),z (len-1-k),u (len-1-k)]]
def QQ(F:Fence)(n:Nat)(B:F.fn 173)(K:F.round=none)(hn:1<=n)(d:Nat)(a:Option Addr)(len cap:Nat)(x y z u:Nat->D)(ah:len<=1099511627776):
 L6 F n I 173 #[L (some ⟨d,0,none⟩)] len (MQ len x y z u) (kr d a len cap x y z u):=λl J M W j w g=>by
 have T:=(j 0 W g).1;refine Bk Tryz.func173 rfl B ?_ K;simp only[Tryz.ntmps173,Am,Ai,AH,Nat.reduceAdd,Nat.reduceSub,Ar,As,AE,Az,Al,AC];gi_wp2;gi_loopw [3] (λi wr=>∃k:Nat,k<=len/\i=.int .i64 ((len:Int)-1-k)/\J k wr) λi _=>(intOf i+1).toNat
 case atStart=>exact⟨0,Ap _,DH,g⟩
 case round=>
  obtain⟨k,hk,rfl,hJ⟩:=hrel;obtain⟨S,A⟩:=j k wr hJ;by_cases c:k<len
  . obtain⟨b,rfl,U,X,ae,V⟩:=A c;obtain⟨fn,tmps,assign,body,q,v⟩:=w k wr hJ c;have f:((len:Int)-1-k)=((len-1-k:Nat):Int):=O
    have R:len-1-k<len:=O
    dsimp only[MQ]at q;rw[f]at q ⊢;generalize o:len-1-k=m at *;have r:=Hid.o (p:=Hid (len-1-k=m)) o;clear o f;gi_wp2;refine v.mono ?_;rintro e Q (⟨rfl,s⟩|⟨rfl,t⟩)
    . gi_wp2;go_roundw
      case rel=>exact⟨k+1,O,by(congr 1;have:=r.o;omega),s⟩
      case measure=>simp[intOf]
    . gi_wp2;refine A0 (results_none rfl _ _ _) rfl ?_;exact⟨⟨_,rfl⟩,.inr ⟨k,c,t⟩⟩
  . obtain rfl:k=len:=O
    gi_wp2;go_end0;exact⟨⟨_,rfl⟩,.inl hJ⟩
def QR(F:Fence)(n:Nat)(b:F.fn 101)(c:F.round=none)(a:Option Addr)(len cap:Nat)(w:H):
 CallsIn F n I 101 #[C a len cap] w λe w'=>e=.returned (.func (.func 173) #[] #[L (some ⟨w.heap.size,0,none⟩)])/\w'=w.alloc (G #[C a len cap] 23):=by
 refine Bk Tryz.func101 rfl b ?_ c;simp only[Tryz.ntmps101,Am,Ai,AH,Nat.reduceAdd,Nat.reduceSub,Ar,As,AE,Az,Al,AC];gi_wp2;go_ret;exact⟨rfl,rfl⟩
def VQ:D->Bool|E b=>b|_=>false
def VR:D->Option Addr|C a _ _=>a|_=>none
def VS:D->Nat|C _ _ c=>c|_=>0
theorem RowK.pick{r:Bool}(h:RowK r W (C a l cap) qs):l=qs.length/\l<=cap/\cap<=9223372036854775807/\l<=1099511627776/\∃x y z u:Nat->D,∀j,j<l->EM r W (P #[x j,y j,z j,u j]) (cf qs j)/\
 ∃b,a=some ⟨b,0,none⟩/\b<W.heap.size/\W.cell? ⟨b,j*4,none⟩=some (x j)/\W.cell? ⟨b,j*4+1,none⟩=some (y j)/\W.cell? ⟨b,j*4+2,none⟩=some (z j)/\W.cell? ⟨b,j*4+3,none⟩=some (u j):=by
 obtain⟨a',m,e,f,g,i,c⟩:=h;cases e;refine⟨J,f,g,i,?_⟩;rcases c with c|⟨b,n,k⟩
 . exact⟨λ_=>N,λ_=>N,λ_=>N,λ_=>N,λj d=>by rw[c]at d;simp at d⟩
 . obtain⟨cs,c1,c2⟩:=k;refine⟨λj=>cs[j*4]?.getD N,λj=>cs[j*4+1]?.getD N,λj=>cs[j*4+2]?.getD N,λj=>cs[j*4+3]?.getD N,λj d=>?_⟩;grind[cell_of]
def RowK.forms(h:RowK true W (C a l cap) qs):l=qs.length/\l<=cap/\cap<=9223372036854775807/\l<=1099511627776/\∃(s t:Nat->Bool) (i k:Nat->Option Addr) (ll m kk dd:Nat->Nat),∀j,j<l->Jg W (P #[E (s j),C (i j) (ll j) (m j),E (t j),C (k j) (kk j) (dd j)]) (cf qs j)/\
 ∃b,a=some ⟨b,0,none⟩/\b<W.heap.size/\W.cell? ⟨b,j*4,none⟩=some (E (s j))/\W.cell? ⟨b,j*4+1,none⟩=some (C (i j) (ll j) (m j))/\W.cell? ⟨b,j*4+2,none⟩=some (E (t j))/\W.cell? ⟨b,j*4+3,none⟩=some (C (k j) (kk j) (dd j)):=by
 obtain⟨o,p,q,r,x,y,z,u,v⟩:=h.pick;refine⟨o,p,q,r,λj=>VQ (x j),λj=>VQ (z j),λj=>VR (y j),λj=>VR (u j),λj=>TU (y j),λj=>VS (y j),λj=>TU (u j),λj=>VS (u j),λj w=>?_⟩;obtain⟨hi,b,n,hb,c0,c1,c2,c3⟩:=v j w;obtain⟨s,a',l',c',t,A,K,B,e,_⟩:=(show Jg W _ _ from hi);simp only[Value.agg.injEq,Array.mk.injEq,List.cons.injEq,and_true]at e;obtain⟨c,d,f,g⟩:=e;rw[c,d,f,g]at hi;rw[c]at c0;rw[d]at c1;rw[f]at c2;rw[g]at c3;dsimp only;rw[c,d,f,g];exact⟨hi,b,n,hb,c0,c1,c2,c3⟩
def VT(w:H)(a:Option Addr)(len cap:Nat)(qs:List Rat)(k:Nat)(W:H):Prop:=
 ((((Boxed W w.heap.size 23 (C a len cap)/\Boxed W (w.heap.size+1) 113 (.func (.func 56) #[] #[]))/\Boxed W (w.heap.size+1+1) 23 (C none 0 0))/\Boxed W (w.heap.size+1+1+1) 23 (C a len cap))/\Bl w W)/\∀j,len-k<=j->j<len->cf qs j=0
def VU(w:H)(a:Option Addr)(len cap:Nat)(qs:List Rat)(c:Code)(k:Nat)(W:H):Prop:=
 (Boxed W (w.heap.size+1+1) 23 (C a (len-1-k+1) cap)/\Bl w W)/\(c=.ret/\cf qs (len-1-k)≠0/\∀j,len-k<=j->j<len->cf qs j=0)
def ks(w:H)(a:Option Addr)(len cap:Nat)(qs:List Rat):OwnFrom (w.heap.size+1+1+1+1) (VT w a len cap qs):=
 BM (BM (BM (BM (BM (Bg (boxed_own _ _ λ_=>C a len cap) _) (Bg (boxed_own _ _ λ_=>.func (.func 56) #[] #[]) _)) (Bg (boxed_own _ _ λ_=>C none 0 0) _)) (Bg (boxed_own _ _ λ_=>C a len cap) _)) (Br (Aa _) O)) (DE _ _)
def kt(w:H)(a:Option Addr)(len cap:Nat)(qs:List Rat)(c:Code):OwnFrom (w.heap.size+1+1+1+1) (VU w a len cap qs c):=
 BM (BM (Bg (boxed_own _ _ λk=>C a (len-1-k+1) cap) _) (Br (Aa _) O)) (DE _ _)
theorem ku(a:Option Addr)(len cap:Nat)(qs:List Rat)(w:H)(h:RowK true w (C a len cap) qs)(hs:Sqs qs):
 F I 55 #[C a len cap,.func (.func 56) #[] #[]] w λe w'=>∃u,e=.returned u/\(RowK true w' u (Jc qs)/\Bl w w')/\(u=C none 0 0/\Jc qs=[]\/u=C a (Jc qs).length cap):=by
 obtain⟨hl,aj,am,ah,s,t,z,A,ll,B,kk,dd,hc⟩:=h.forms;obtain⟨HL,V,HS⟩:=DY hl hc hs;clear hc hl hs;refine(BH (n:=3)).1 ?_;refine BN Tryz.func55 rfl trivial ?_ rfl;simp only[Tryz.ntmps55,Am,Ai,AH,Nat.reduceAdd,Nat.reduceSub,Ar,As,AE,Az,Al,AC];gi_wp2_with(refine⟨trivial,?_⟩;gi_at_call 101;refine(QR Fence.wide _ trivial rfl _ _ _ _).mono ?_;rintro e w' ⟨rfl,rfl⟩)
 have b0:=(((BF w 23 (C a len cap)).alloc (G #[.func (.func 56) #[] #[]] 113)).alloc (G #[C none 0 0] 23)).alloc (G #[C a len cap] 23);have b1:=((BF (w.alloc (G #[C a len cap] 23)) 113 (.func (.func 56) #[] #[])).alloc (G #[C none 0 0] 23)).alloc (G #[C a len cap] 23);have b2:=(BF ((w.alloc (G #[C a len cap] 23)).alloc (G #[.func (.func 56) #[] #[]] 113)) 23 (C none 0 0)).alloc (G #[C a len cap] 23);have b3:=BF (((w.alloc (G #[C a len cap] 23)).alloc (G #[.func (.func 56) #[] #[]] 113)).alloc (G #[C none 0 0] 23)) 23 (C a len cap);simp only[Ax]at b1 b2 b3;have Qd:Bl w ((((w.alloc (G #[C a len cap] 23)).alloc (G #[.func (.func 56) #[] #[]] 113)).alloc (G #[C none 0 0] 23)).alloc (G #[C a len cap] 23)):=(((Ba w _).alloc DH _).alloc si _).alloc si _;have hN:((((w.alloc (G #[C a len cap] 23)).alloc (G #[.func (.func 56) #[] #[]] 113)).alloc (G #[C none 0 0] 23)).alloc (G #[C a len cap] 23)).heap.size=w.heap.size+1+1+1+1:=DH
 refine TZ rfl O (gf:=173) (lb:=#[L (some ⟨w.heap.size+1+1+1,0,none⟩)]) rfl trivial (BW Tryz.func173 (by kernel_rfl) rfl)
  (QQ Fence.wide _ trivial rfl O (w.heap.size+1+1+1) a len cap (λj=>E (s j)) (λj=>C (z j) (ll j) (B j)) (λj=>E (t j)) (λj=>C (A j) (kk j) (dd j)) ah) (λ_=>rfl)
  (VT w a len cap qs) (VU w a len cap qs) (by rw[hN];exact ks w a len cap qs) (λc=>by rw[hN];exact kt w a len cap qs c)
  ⟨⟨⟨⟨⟨b0,b1⟩,b2⟩,b3⟩,Qd⟩,λj r M=>by omega⟩ ?rd
  (λk b=>{ tmps:=#[C a len cap,.func (.func 56) #[] #[],L (some ⟨w.heap.size,0,none⟩),L (some ⟨w.heap.size+1,0,none⟩),L (some ⟨w.heap.size+1+1,0,none⟩),.int .i64 ((len:Int)-1-k),L (some ⟨b,0,none⟩),C a len cap,.func (.func 173) #[] #[L (some ⟨w.heap.size+1+1+1,0,none⟩)],.int .i64 ((len:Int)-1-k),P #[E (s (len-1-k)),C (z (len-1-k)) (ll (len-1-k)) (B (len-1-k)),E (t (len-1-k)),C (A (len-1-k)) (kk (len-1-k)) (dd (len-1-k))],N,N,N,N,N,N,N,N],defers:=[] })
  (λk=>G #[E (s (len-1-k)),C (z (len-1-k)) (ll (len-1-k)) (B (len-1-k)),E (t (len-1-k)),C (A (len-1-k)) (kk (len-1-k)) (dd (len-1-k))] 50 (0,0)) ?assign ?body ?done ?stop
 case rd=>
  rintro k W ⟨⟨⟨_,c3⟩,f⟩,_⟩;refine⟨c3.cell,λhk=>?_⟩;obtain⟨_,b,ea,hb,r,M,h3,h4⟩:=V.o (len-1-k) O;exact⟨b,ea,(f.cell (p:=⟨b,_,none⟩) hb).trans r,(f.cell (p:=⟨b,_,none⟩) hb).trans M,(f.cell (p:=⟨b,_,none⟩) hb).trans h3,(f.cell (p:=⟨b,_,none⟩) hb).trans h4⟩
 case assign=>
  intro l k W K v;unfold MQ;gi_wp2;exact v
 case body=>
  rintro l k b W ⟨⟨⟨⟨⟨c0,c1⟩,c2⟩,c3⟩,f⟩,i⟩ hk ap ai T;have hm:len-1-k<len:=O
  obtain⟨hi,_⟩:=V.o (len-1-k) hm;have X:=Z (Jg.below hi f);have o:=Z i;have e1:((len:Int)-1-k)=((len-1-k:Nat):Int):=O
  rw[e1];clear e1 i hi;obtain⟨m,U⟩:=ex (len-1-k);have Q:=Z U;rw[U]at T X hm ⊢;clear U;have q0:JS W b 50 (E (s m)) (C (z m) (ll m) (B m)) (E (t m)) (C (A m) (kk m) (dd m)):=T;obtain⟨k0,k1,k2,k3⟩:=q0.cq;have d0:=c0.cell;have d1:=c1.cell;have d2:=c2.cell;have f2:=c2.frozen;clear q0 T;have y:=Z (Bf l ((BH (n:=3-1-1-1)).2 (kl _ _ W X.o (HS.o.at m))));by_cases g:cf qs m=0
  . have R:=Z g;rw[show decide (cf qs m=0)=true from BG g]at y;clear g;gi_wp2_with(refine⟨trivial,?_⟩;gi_at_call 56;refine y.o.mono ?_;rintro e w' ⟨rfl,d⟩)
    refine⟨(Xp d).from _,⟨⟨⟨⟨boxed_below c0 d,boxed_below c1 d⟩,boxed_below c2 d⟩,boxed_below c3 d⟩,Bt f d⟩,λj r M=>?_⟩;by_cases x:j=m
    . rw[x];exact R.o
    . have:=Q.o;exact o.o j O M
  . have R:=Z g;rw[show decide (cf qs m=0)=false from BJ g]at y;clear g;gi_wp2_with(refine⟨trivial,?_⟩;gi_at_call 56;refine y.o.mono ?_;rintro e w' ⟨rfl,d⟩;have d0:=(boxed_below c0 d).cell;have d2:=(boxed_below c2 d).cell;have f2:=(boxed_below c2 d).frozen)
    have ae:=Bt f d;refine⟨((Xp d).trans (BK _ _ _)).from _,⟨?_,ae.setCell (p:=⟨w.heap.size+1+1,0,none⟩) si _⟩,rfl,by rw[Q.o];exact R.o,o.o⟩;rw[Q.o];exact(boxed_below c2 d).set _
 case done=>
  rintro D W hD ⟨⟨⟨⟨⟨c0,c1⟩,c2⟩,c3⟩,f⟩,i⟩ v;have d1:=c2.cell;have f1:=c2.frozen;have o:=Z i;clear i;gi_wp2;have Qc:=(BK W ⟨w.heap.size+1+1,0,none⟩ (C none 0 0)).same D _ v rfl;refine⟨DH,.inl ⟨_,_,rfl,BP Qc,?_⟩⟩;have S:=(c2.set (C none 0 0)).kept (BQ _ D (.deferred none)) (λe=>by grind);have q:=S.cell;have e0:=PG λj=>by
   rcases A5 j len with x|x
   . exact o.o j O x
   . exact Yn (by have:=HL.o;omega)
  refine⟨C none 0 0,by simp[results,Tryz.results55,go_sem,q],_,rfl,⟨?_,?_⟩,Or.inl ⟨rfl,e0⟩⟩
  . rw[e0];exact RowK.nil _ _
  . exact(f.setCell (p:=⟨w.heap.size+1+1,0,none⟩) si _).trans (B0 (w:=w) (Aa _) _ D _ _ (by simp at hD;omega) Qc rfl rfl)
 case stop=>
  rintro D c k W hD hk ⟨⟨c1,f⟩,rfl,g,i⟩ v;have d1:=c1.cell;have o:=Z (show cf qs (len-1-k)≠0/\∀j,len-k<=j->j<len->cf qs j=0 from⟨g,i⟩);clear i g;gi_wp2;refine⟨DH,.inl ⟨_,_,rfl,BP v,?_⟩⟩;have S:=c1.kept (BQ _ D (.deferred none)) (λe=>by grind);have q:=S.cell;have Qb:Bl w (W.putObj D (.deferred none)):=f.trans (B0 (w:=w) (Aa _) _ D _ _ (by simp at hD;omega) v rfl rfl);have an:=HL.o;have e:Jc qs=qs.take (len-1-k+1):=by
   refine cg O (Or.inr o.o.1) λj x=>?_;rcases A5 j len with r|r
   . exact o.o.2 j O r
   . exact Yn O
  have el:(qs.take (len-1-k+1)).length=len-1-k+1:=by rw[Ay];omega
  refine⟨C a (len-1-k+1) cap,by simp[results,Tryz.results55,go_sem,q],_,rfl,⟨?_,Qb⟩,Or.inr (by rw[e,el])⟩;rw[e];exact(h.below Qb).take O
def LU(N:Nat)(v:D):Prop:=∀a l c,v=C (some a) l c->N<=a.block
def MR(N:Nat)(v:D):Prop:=∀a l c,v=P #[C (some a) l c]->N<=a.block
def FP{B:Nat}{c:Nat}(b:Boxed W B 25 (C a l c))(x:D){v:D}(h:RowK true W v qs):RowK true (W.setCell ⟨B,0,none⟩ x) v qs:=
 M3.MI (cs:=#[C a l c]) b (o:=0) J J true DJ x v qs h
def KL(v:D)(qs:List Rat)(w:H)(h:RowK true w v qs)(hs:Sqs qs):
 F I 25 #[v] w λe w'=>∃u,e=.returned u/\Je w' u (Jc qs)/\(∀N,LU N v->MR N u)/\Bl w w':=by
 obtain⟨a,l,c,rfl⟩:=h.form;have b0:=BF w 25 (C none 0 0);have b:Bl w (w.alloc (G #[C none 0 0] 25)):=Ba w _;obtain⟨W0,g⟩:=ex (w.alloc (G #[C none 0 0] 25));rw[g]at b0 b;have q:=Z g;have i:=Z (ku a l c qs W0 (h.below b) hs);have n:=b0.cell;have f0:=b0.frozen;clear g h hs;go_enter Tryz.func25,Tryz.ntmps25
 go_upto_region 1 with fail
 rw[q.o];go_wp2_with(go_at_call 55;refine i.o.mono ?_;clear i;rintro e w1 ⟨u,rfl,⟨m,j⟩,k⟩;obtain⟨s,x,t,rfl⟩:=m.form;have d:=boxed_below b0 j;have n:=d.cell;have f0:=d.frozen;have o:=Z k;clear k)
 refine A0 (by simp[results,Tryz.results25,go_sem,n]) rfl ⟨_,rfl,⟨_,rfl,FP d _ m⟩,?_,(Bt b j).setCell (p:=⟨w.heap.size,0,none⟩) (Aa _) _⟩;intro N r a' l' c' e;simp only[Value.agg.injEq,Array.mk.injEq,List.cons.injEq,and_true]at e;rcases o.o with⟨f,_⟩|f
 . rw[f]at e;cases e
 . rw[f]at e;cases e;exact r _ _ _ rfl
def Yq(v:D)(ps:List Rat)(w:H)(h:Je w v ps):
 F I 75 #[v] w λe w'=>e=.returned (.int .i64 ((ps.length:Int)-1))/\Bl w w':=by
 obtain⟨u,rfl,b⟩:=h;obtain⟨a,cap,rfl,c,d,f,_⟩:=b.open;clear b;generalize ps.length=n at *;go_enter Tryz.func75,Tryz.ntmps75
 go_wp2;go_ret;exact⟨rfl,Ba _ _⟩
def MS(v:D)(qs:List Rat)(i:Int)(w:H)(h:RowK true w v qs):
 F I 92 #[v,.int .i64 i] w λe w'=>∃u,e=.returned u/\Jg w' u (if i<0 then 0 else cf qs i.toNat)/\Bl w w':=by
 obtain⟨a,l,c,rfl⟩:=h.form;obtain⟨hl,B,K,M,s,t,o,p,ll,q,kk,dd,g⟩:=h.forms;have k:=Z hl;have d:=Z g;clear hl g h;by_cases f:i<0
 . rw[BE f];go_enter Tryz.func92,Tryz.ntmps92
   go_wp2;exact A0 (by simp[results,Tryz.results92,go_sem]) rfl ⟨_,rfl,XE _,(Ba w _).alloc DH _⟩
 . rw[BD f];by_cases r:(l:Int)<=i
   . have n:=Z (show cf qs i.toNat=0 from Yn (by have:=k.o;omega));rw[n.o];go_enter Tryz.func92,Tryz.ntmps92
     go_wp2;exact A0 (by simp[results,Tryz.results92,go_sem]) rfl ⟨_,rfl,XE _,(Ba w _).alloc DH _⟩
   . obtain⟨m,rfl⟩:∃m:Nat,i=(m:Int):=⟨i.toNat,O⟩;have x:m<l:=O
     obtain⟨hi,b,rfl,hb,Q,y,R,S⟩:=d.o m x;have j:=Z hi;rw[CM];clear d hi r;generalize s m=T at *;generalize t m=U at *;generalize o m=z at *;generalize p m=A at *;generalize ll m=l1 at *;generalize q m=c1 at *;generalize kk m=y at *;generalize dd m=d1 at *;go_enter Tryz.func92,Tryz.ntmps92
     go_wp2;exact A0 (by simp[results,Tryz.results92,go_sem]) rfl ⟨_,rfl,j.o.below (Ba w _),Ba w _⟩
end
namespace M3
variable{c l:Nat}{a:Option Addr}
def row_zero(V:H)(a:Option Addr):RowK true V (C a 0 0) []:=⟨a,0,J,Aa _,O,DH,Or.inl J⟩
def OI(V:H):Has V (P #[C Option.none 0 0]) (.poly []):=⟨_,J,row_zero V Option.none⟩
def VV(V:H):Je V (P #[C Option.none 0 0]) []:=⟨_,J,row_zero V Option.none⟩
def DI.poly2{w V:H}{bs:List (Option (Nat × Dat))}(M:DI w V bs){i B:Nat}{ps:List Rat}(h:bs[i]?=some (some (B,.poly ps))):∃a l c,Boxed V B 25 (C a l c)/\Je V (P #[C a l c]) ps:=by
 obtain⟨a,l,c,b,d⟩:=M.poly h;exact⟨a,l,c,b,_,J,d⟩
def MT{W:H}{B:Nat}(b:Boxed W B 25 (C a l c)){x v:D}{qs:List Rat}(h:Je W v qs):Je (W.setCell ⟨B,0,Option.none⟩ x) v qs:=by
 obtain⟨u,e,h⟩:=h;exact⟨u,e,FP b x h⟩
def Has.set1{V:H}{v:D}{d:Dat}(h:Has V v d){B:Nat}(q:Boxed V B 25 (C a l c))(e:JU (C a l c)=true)(b:D):Has (V.setCell ⟨B,0,Option.none⟩ b) v d:=
 h.keep (VF q e b) (Or.inr λ_ _ g=>FP q b g)
section
variable {w V:World} {bs:List (Option (Nat × Dat))} {B:Nat} {ρ:Operand->Value} {x y:Operand} {dst:Option Tmp} {ty:TypeId} {ps:String} {af:Array Edge} {gd:Option (Nat × Bool)} {q q0:Rat} {z z0:Int} {p p0:List Rat} {v p1 u1:Value} {ds:List Dat} {T:World->Value->Prop}
def FV(i:Nat)(M:DI w V bs)(h:bs[i]?=some (some (B,.poly p)):=by rfl)(hp:p1=L (some ⟨B,0,none⟩):=by rfl)(b:ρ x=p1:=by kernel_rfl):∃u,(execOp ρ { dst:=dst,op:=.load 25 x,type:=ty,pos:=ps,after:=af,guard:=gd }).run I V=.ok (.value u) V/\Has V u (.poly p):=by
 rw[hp]at b;obtain⟨a,l,c,n,r⟩:=M.poly2 h;have d:=n.cell;exact⟨_,by go_simp,r⟩
def GP(i:Nat)(M:DI w V bs)(hv:Has V u1 (.poly p))(h:bs[i]?=some (some (B,.poly p0)):=by rfl)(hp:p1=L (some ⟨B,0,none⟩):=by rfl)(b:ρ x=p1:=by kernel_rfl)(f:ρ y=u1:=by kernel_rfl)(hT:∀ {a l c x},Boxed V B 25 (C a l c)->DI w (V.setCell ⟨B,0,none⟩ x) (bs.set i (some (B,.poly p)))->T (V.setCell ⟨B,0,none⟩ x) N:=by exact λ_ m=>m):Wr ρ { dst:=none,op:=.store 25 x y,type:=ty,pos:=ps,after:=af,guard:=gd } V ds (.eq N) T:=by
 rw[hp]at b;obtain⟨a,l,c,n,r⟩:=M.poly2 h;have j:=n.cell;have f0:=n.frozen;obtain⟨g,l1,c1,e⟩:=Je.form (show Je V _ _ from hv);rw[e]at hv;rw[e]at f;exact⟨.skip,N,_,by go_simp,Or.inr ⟨J,J⟩,J,λd v _ k=>k.set1 n J _,hT n (M.putPoly h hv)⟩
def Ks(i:Nat)(M:DI w V bs)(h:bs[i]?=some none:=by rfl)(hT:∀ {o},DI w (V.alloc o) (bs.set i (some (V.heap.size,.poly [])))->T (V.alloc o) (L (some ⟨V.heap.size,0,none⟩)):=by exact λm=>m):Wr ρ { dst:=dst,op:=.alloc 25,type:=ty,pos:=ps,after:=af,guard:=gd } V ds .ptr T:=
 ⟨_,L (some ⟨V.heap.size,0,none⟩),_,by go_simp;exact J,Or.inl J,J,λ_ _ _ k=>k.alloc _,hT (M.fill h (.poly []) (OI V))⟩
end
end M3
def Tryz.infoRat:(Tryz.prog.info? 50).map (λi=>(i.zero,i.size,i.bytes))=some (some (P #[E false,C none 0 0,E false,C none 0 0]),4,64):=by kernel_rfl
def YD(n:Nat):Array D:=madeCells #[E false,C none 0 0,E false,C none 0 0] (n*4)
theorem OJ{n j:Nat}(a:j<n):(YD n)[j*4]?=some (E false)/\(YD n)[j*4+1]?=some (C none 0 0)/\(YD n)[j*4+2]?=some (E false)/\(YD n)[j*4+3]?=some (C none 0 0):=by
 unfold YD madeCells;have h:∀k,k<n*4->((Array.range (n*4)).map λi=>(#[Value.bool false,Value.slice none 0 0,Value.bool false,Value.slice none 0 0]:Array D)[i%4]!)[k]?=some ((#[Value.bool false,Value.slice none 0 0,Value.bool false,Value.slice none 0 0]:Array D)[k%4]!):=λk hk=>by
  grind
 refine⟨(h _ O).trans ?_,(h _ O).trans ?_,(h _ O).trans ?_,(h _ O).trans ?_⟩
 . grind
 . grind
 . grind
 grind
def LV(n:Nat)(h:n<=2199023255552)(w:H):(Instr.makeSlice 23 (.int .i64 (n:Int)) (.int .i64 (n:Int))).run I w=.ok (C (some ⟨w.heap.size,0,none⟩) n n) (w.alloc (G (YD n) 50)):=by
 obtain⟨i,hi,b⟩:=CP.1 Tryz.infoRat;simp only[Prod.mk.injEq]at b;obtain⟨c,hs,hb⟩:=b;have a:=run_make (P:=I) w 23 50 i _ Tryz.underlying23 hi c .i64 .i64 n n O (Int.le_refl _) (by rw[hb];omega) O;simp only[CM,hs]at a;exact a
def OK(n:Nat)(w:H):Dn true (w.alloc (G (YD n) 50)) w.heap.size (List.replicate n 0):=by
 refine⟨YD n,BC w _,λj a=>?_⟩;rw[AK]at a;obtain⟨b,c,d,e⟩:=OJ a;exact⟨_,_,_,_,b,c,d,e,by rw[Ya];exact XE _⟩
theorem kv(a b:Option Addr)(la ca lb cb:Nat)(ps qs:List Rat)(w:H)(t:RowK true w (C a la ca) ps)(hb:RowK true w (C b lb cb) qs)(U:Sqs ps)(W:Sqs qs):
 F I 41 #[C a la ca,C b lb cb,.func (.func 43) #[] #[]] w λe w'=>∃v zs,e=.returned v/\RowK true w' v zs/\(∀j,cf zs j=cf ps j+cf qs j)/\LU w.heap.size v/\Bl w w':=by
 obtain⟨S,ah,aj,bi,_⟩:=t.forms;obtain⟨T,ai,am,bj,_⟩:=hb.forms;obtain⟨n,hn⟩:∃n:Nat,max (la:Int) (lb:Int)=(n:Int):=⟨max la lb,O⟩;have bu:n<=1099511627776:=O
 obtain⟨HN,HA,HB,HP,HQ,Qp,Qq⟩:=Ig (show la<=n/\lb<=n from by omega) t hb U W S T;have Qo:=LV n O w;have m:=OK n w;have r:Bl w (w.alloc (G (YD n) 50)):=Ba w _;obtain⟨W0,M⟩:=ex (w.alloc (G (YD n) 50));rw[M]at m r Qo;have Qr:=Z m;have Qn:=Z r;clear m r M t hb U W S T ah aj ai am;go_enter Tryz.func41,Tryz.ntmps41
 go_wp2;go_loopw [17] (λi wr=>∃(k:Nat) (zs:List Rat),k<=n/\i=.int .i64 (k:Int)/\Hid (zs.length=n/\(∀j,j<k->cf zs j=cf ps j+cf qs j)/\Dn true wr w.heap.size zs/\Bl w wr)) λi _=>n-(intOf i).toNat
 case atStart=>exact⟨0,_,Ap _,rfl,Z ⟨AK,λj g=>by omega,Qr.o,Qn.o⟩⟩
 case round=>
  obtain⟨k,zs,hk,rfl,c⟩:=hrel;by_cases bm:k<n
  . have bn:(k:Int)<(n:Int):=O
    have p:=Z (MS _ ps (k:Int) wr (HA.o.below c.o.2.2.2));have q:=Z λ(V:H) (h:Bl wr V)=>MS _ qs (k:Int) V ((HB.o.below c.o.2.2.2).below h);rw[BD O,CM]at p;rw[show(if(k:Int)<0 then(0:Rat)else cf qs ((k:Int)).toNat)=cf qs k from by grind]at q;have A:=Z λ(V:H) (u v:D) (hu:Jg V u (cf ps k)) (hv:Jg V v (cf qs k))=>KI u v (cf ps k) (cf qs k) V hu hv (HP.o.at k) (HQ.o.at k);have o:=Z (show k<zs.length from by have:=c.o.1;omega);go_wp2_with(first
     |(go_at_call 92;refine p.o.mono ?_;clear p;rintro e w1 ⟨u1,rfl,f,Q⟩;have l:=Q)
     |(go_at_call 92;refine(q.o _ l).mono ?_;clear q;rintro e w2 ⟨u2,rfl,X,x⟩;have f:=f.below x;have K:=Bt l x;clear l)
     |(go_at_call 43;refine(A.o _ _ _ f X).mono ?_;clear A;rintro e w3 ⟨u3,rfl,ae,R⟩;have B:=Bt K R;clear K f X Q x R;have d:=c.o.2.2.1.below B;obtain⟨x0,y0,z0,t0,k0,k1,k2,k3,_⟩:=d.at o.o;have f0:=d.frozen (k*4);have f1:=d.frozen (k*4+1);have f2:=d.frozen (k*4+2);have f3:=d.frozen (k*4+3);obtain⟨cj,an,ce,aq,cn,ap,bz,bg,rfl⟩:=Jg.form ae))
    go_roundw
    case rel=>
     refine⟨k+1,zs.set k (cf ps k+cf qs k),O,by go_num,Z ⟨by rw[Fc];exact c.o.1,λj g=>?_,d.set o.o ae,QI (Bt c.o.2.2.2 B) (Aa _) _ _ _ _⟩⟩;rw[GG _ _ _ _ o.o];by_cases y:j=k
     . rw[BE y,y]
     . rw[BD y];exact c.o.2.1 j O
    case measure=>simp[intOf];omega
  . have Qm:k=n:=O
    subst Qm;go_wp2;go_ret;have s:=c.o;have z:=s.2.2.1.row (n:=k) (cap:=k) O (Aa _) O O;rw[Af O]at z;refine⟨_,zs,rfl,z,λj=>?_,λa' l' c' e=>by cases e;exact Aa _,s.2.2.2⟩;rcases A5 j k with g|g
    . exact s.2.1 j g
    . have:=HN.o;have h1:=Qp.o;have h2:=Qq.o;rw[Yn O,Yn O,Yn O];grind
def kw(s t:D)(ps qs:List Rat)(w:H)(d:Je w s ps)(hb:Je w t qs)(o:Sqs ps)(q:Sqs qs)(r:Sqs (YK ps qs)):
 F I 17 #[s,t] w λe w'=>∃u,e=.returned u/\Je w' u (YK ps qs)/\MR w.heap.size u/\Bl w w':=by
 obtain⟨u,rfl,d⟩:=d;obtain⟨v,rfl,hb⟩:=hb;obtain⟨a,la,ca,rfl⟩:=d.form;obtain⟨b,lb,cb,rfl⟩:=hb.form;obtain⟨W0,c⟩:=ex (((w.alloc (G #[C a la ca] 25)).alloc (G #[C b lb cb] 25)).alloc (G #[C none 0 0] 25));have b0:Boxed W0 w.heap.size 25 (C a la ca):=by rw[<-c];exact((BF w _ _).alloc _).alloc _
 have B:Boxed W0 (w.heap.size+1) 25 (C b lb cb):=by rw[<-c];have:=(BF (w.alloc (G #[C a la ca] 25)) 25 (C b lb cb)).alloc (G #[C none 0 0] 25);simpa using this
 have K:Boxed W0 (w.heap.size+1+1) 25 (C none 0 0):=by rw[<-c];have:=BF ((w.alloc (G #[C a la ca] 25)).alloc (G #[C b lb cb] 25)) 25 (C none 0 0);simpa using this
 have f:Bl w W0:=by rw[<-c];exact((Ba w _).alloc DH _).alloc si _
 obtain⟨m,n,A,z⟩:=Ds (kv a b la ca lb cb ps qs W0 (d.below f) (hb.below f) o q) (λ(V:H) (v:D) (zs:List Rat) (h:RowK true V v zs) (hs:Sqs zs)=>KL v zs V h hs) r c;have k0:=b0.cell;have k1:=B.cell;clear c d hb o q r;go_enter Tryz.func17,Tryz.ntmps17
 go_upto_region 1 with fail
 rw[z.o];go_wp2_with(first
  |(go_at_call 41;refine m.o.mono ?_;clear m;rintro e w1 ⟨v1,zs,rfl,U,l,S,Q⟩;have y:Sqs zs:=Sqs.of (λi=>by rw[l i,<-L1];exact A.o.at i);have x:=Z l;clear l)
  |(go_at_call 25;refine(n.o _ _ zs U y).mono ?_;clear n;rintro e w2 ⟨u2,rfl,k,T,R⟩;obtain⟨X,l9,c9,rfl⟩:=k.form;have hq:=Bt Q R;have g:=boxed_below K hq;have W:=g.cell;have f2:=g.frozen))
 have M:Jc zs=YK ps qs:=by
  rw[<-X3];exact IX λj=>by rw[x.o j,L1]
 rw[M]at k;refine A0 (by simp[results,Tryz.results17,go_sem,W]) rfl ⟨_,rfl,⟨_,rfl,FP g _ k.row⟩,?_,(Bt f hq).setCell (p:=⟨w.heap.size+1+1,0,none⟩) si _⟩;intro a' l' c' e;have:=T W0.heap.size S a' l' c' e;have h2:=f.size;omega
theorem ky(a b:Option Addr)(la ca lb cb:Nat)(ps qs:List Rat)(w:H)(t:RowK true w (C a la ca) ps)(hb:RowK true w (C b lb cb) qs)(U:Sqs ps)(W:Sqs qs):
 F I 41 #[C a la ca,C b lb cb,.func (.func 42) #[] #[]] w λe w'=>∃v zs,e=.returned v/\RowK true w' v zs/\(∀j,cf zs j=cf ps j-cf qs j)/\LU w.heap.size v/\Bl w w':=by
 obtain⟨S,ah,aj,bi,_⟩:=t.forms;obtain⟨T,ai,am,bj,_⟩:=hb.forms;obtain⟨n,hn⟩:∃n:Nat,max (la:Int) (lb:Int)=(n:Int):=⟨max la lb,O⟩;have bu:n<=1099511627776:=O
 obtain⟨HN,HA,HB,HP,HQ,Qp,Qq⟩:=Ig (show la<=n/\lb<=n from by omega) t hb U W S T;have Qo:=LV n O w;have m:=OK n w;have r:Bl w (w.alloc (G (YD n) 50)):=Ba w _;obtain⟨W0,M⟩:=ex (w.alloc (G (YD n) 50));rw[M]at m r Qo;have Qr:=Z m;have Qn:=Z r;clear m r M t hb U W S T ah aj ai am;go_enter Tryz.func41,Tryz.ntmps41
 go_wp2;go_loopw [17] (λi wr=>∃(k:Nat) (zs:List Rat),k<=n/\i=.int .i64 (k:Int)/\Hid (zs.length=n/\(∀j,j<k->cf zs j=cf ps j-cf qs j)/\Dn true wr w.heap.size zs/\Bl w wr)) λi _=>n-(intOf i).toNat
 case atStart=>exact⟨0,_,Ap _,rfl,Z ⟨AK,λj g=>by omega,Qr.o,Qn.o⟩⟩
 case round=>
  obtain⟨k,zs,hk,rfl,c⟩:=hrel;by_cases bm:k<n
  . have bn:(k:Int)<(n:Int):=O
    have p:=Z (MS _ ps (k:Int) wr (HA.o.below c.o.2.2.2));have q:=Z λ(V:H) (h:Bl wr V)=>MS _ qs (k:Int) V ((HB.o.below c.o.2.2.2).below h);rw[BD O,CM]at p;rw[show(if(k:Int)<0 then(0:Rat)else cf qs ((k:Int)).toNat)=cf qs k from by grind]at q;have A:=Z λ(V:H) (u v:D) (hu:Jg V u (cf ps k)) (hv:Jg V v (cf qs k))=>LT u v (cf ps k) (cf qs k) V hu hv (HP.o.at k) (HQ.o.at k);have o:=Z (show k<zs.length from by have:=c.o.1;omega);go_wp2_with(first
     |(go_at_call 92;refine p.o.mono ?_;clear p;rintro e w1 ⟨u1,rfl,f,Q⟩;have l:=Q)
     |(go_at_call 92;refine(q.o _ l).mono ?_;clear q;rintro e w2 ⟨u2,rfl,X,x⟩;have f:=f.below x;have K:=Bt l x;clear l)
     |(go_at_call 42;refine(A.o _ _ _ f X).mono ?_;clear A;rintro e w3 ⟨u3,rfl,ae,R⟩;have B:=Bt K R;clear K f X Q x R;have d:=c.o.2.2.1.below B;obtain⟨x0,y0,z0,t0,k0,k1,k2,k3,_⟩:=d.at o.o;have f0:=d.frozen (k*4);have f1:=d.frozen (k*4+1);have f2:=d.frozen (k*4+2);have f3:=d.frozen (k*4+3);obtain⟨cj,an,ce,aq,cn,ap,bz,bg,rfl⟩:=Jg.form ae))
    go_roundw
    case rel=>
     refine⟨k+1,zs.set k (cf ps k-cf qs k),O,by go_num,Z ⟨by rw[Fc];exact c.o.1,λj g=>?_,d.set o.o ae,QI (Bt c.o.2.2.2 B) (Aa _) _ _ _ _⟩⟩;rw[GG _ _ _ _ o.o];by_cases y:j=k
     . rw[BE y,y]
     . rw[BD y];exact c.o.2.1 j O
    case measure=>simp[intOf];omega
  . have Qm:k=n:=O
    subst Qm;go_wp2;go_ret;have s:=c.o;have z:=s.2.2.1.row (n:=k) (cap:=k) O (Aa _) O O;rw[Af O]at z;refine⟨_,zs,rfl,z,λj=>?_,λa' l' c' e=>by cases e;exact Aa _,s.2.2.2⟩;rcases A5 j k with g|g
    . exact s.2.1 j g
    . have:=HN.o;have h1:=Qp.o;have h2:=Qq.o;rw[Yn O,Yn O,Yn O];grind
def VW(s t:D)(ps qs:List Rat)(w:H)(d:Je w s ps)(hb:Je w t qs)(o:Sqs ps)(q:Sqs qs)(r:Sqs (JR ps qs)):
 F I 15 #[s,t] w λe w'=>∃u,e=.returned u/\Je w' u (JR ps qs)/\MR w.heap.size u/\Bl w w':=by
 obtain⟨u,rfl,d⟩:=d;obtain⟨v,rfl,hb⟩:=hb;obtain⟨a,la,ca,rfl⟩:=d.form;obtain⟨b,lb,cb,rfl⟩:=hb.form;obtain⟨W0,c⟩:=ex (((w.alloc (G #[C a la ca] 25)).alloc (G #[C b lb cb] 25)).alloc (G #[C none 0 0] 25));have b0:Boxed W0 w.heap.size 25 (C a la ca):=by rw[<-c];exact((BF w _ _).alloc _).alloc _
 have B:Boxed W0 (w.heap.size+1) 25 (C b lb cb):=by rw[<-c];have:=(BF (w.alloc (G #[C a la ca] 25)) 25 (C b lb cb)).alloc (G #[C none 0 0] 25);simpa using this
 have K:Boxed W0 (w.heap.size+1+1) 25 (C none 0 0):=by rw[<-c];have:=BF ((w.alloc (G #[C a la ca] 25)).alloc (G #[C b lb cb] 25)) 25 (C none 0 0);simpa using this
 have f:Bl w W0:=by rw[<-c];exact((Ba w _).alloc DH _).alloc si _
 obtain⟨m,n,A,z⟩:=Ds (ky a b la ca lb cb ps qs W0 (d.below f) (hb.below f) o q) (λ(V:H) (v:D) (zs:List Rat) (h:RowK true V v zs) (hs:Sqs zs)=>KL v zs V h hs) r c;have k0:=b0.cell;have k1:=B.cell;clear c d hb o q r;go_enter Tryz.func15,Tryz.ntmps15
 go_upto_region 1 with fail
 rw[z.o];go_wp2_with(first
  |(go_at_call 41;refine m.o.mono ?_;clear m;rintro e w1 ⟨v1,zs,rfl,U,l,S,Q⟩;have y:Sqs zs:=Sqs.of (λi=>by rw[l i,<-NS];exact A.o.at i);have x:=Z l;clear l)
  |(go_at_call 25;refine(n.o _ _ zs U y).mono ?_;clear n;rintro e w2 ⟨u2,rfl,k,T,R⟩;obtain⟨X,l9,c9,rfl⟩:=k.form;have hq:=Bt Q R;have g:=boxed_below K hq;have W:=g.cell;have f2:=g.frozen))
 have M:Jc zs=JR ps qs:=by
  rw[<-Yj];exact IX λj=>by rw[x.o j,NS]
 rw[M]at k;refine A0 (by simp[results,Tryz.results15,go_sem,W]) rfl ⟨_,rfl,⟨_,rfl,FP g _ k.row⟩,?_,(Bt f hq).setCell (p:=⟨w.heap.size+1+1,0,none⟩) si _⟩;intro a' l' c' e;have:=T W0.heap.size S a' l' c' e;have h2:=f.size;omega
section
def OL(r:Bool)(base:Nat)(W:H)(v:D)(qs:List Rat):Prop:=
 (v=C none 0 0/\qs=[])\/∃g cap cur,v=C (some ⟨g,0,none⟩) qs.length cap/\base<=g/\W.heap[g]?=some (G cur (G8 r) (0,0))/\qs.length<=cap/\cap<=maxLen/\cur.size=cap*4/\(∀c∈cur.toList,JU c=true)/\GO r W (cur.toList.take (qs.length*4)) qs
variable{r:Bool}{qs:List Rat}{base:Nat}{W:H}
theorem OL.row{v:D}(h:OL r base W v qs)(hl:qs.length<=1099511627776):RowK r W v qs:=by
 rcases h with⟨rfl,rfl⟩|⟨g,cap,cur,rfl,m,a,b,c,n,o,d⟩
 . exact RowK.nil r W
 . refine⟨_,cap,J,b,by unfold maxLen at c;omega,hl,Or.inr ⟨g,J,cur,a,λj e=>?_⟩⟩;obtain⟨x,y,z,u,f,i,k,l,p⟩:=d.2 j e;grind[]
theorem OL.form{v:D}(h:OL r base W v qs):∃a c,v=C a qs.length c/\(∀p,a=some p->base<=p.block):=by
 rcases h with⟨rfl,rfl⟩|⟨g,cap,cur,rfl,b,_⟩
 . exact⟨none,0,J,λp e=>by cases e⟩
 grind
end
section
open M3
def Ha(q:Rat):List UInt8:=if q.den=1 then D8 q.num else D8 q.num++47::D8 (q.den:Int)
theorem Kt(a b:List UInt8):(⟨a.toArray⟩:ByteArray)++⟨b.toArray⟩=⟨(a++b).toArray⟩:=by
 apply Fy;simp
theorem QS(z:Int):(D8 z).length<=20*(Jh Y z.natAbs).length+2:=by
 grind[QH,D8]
theorem VX{z:Int}(h:Sok z):(⟨(D8 z).toArray⟩:ByteArray).size<=400000000000:=by
 have a:=QS z;have b:=h.words;show(D8 z).toArray.size<=_;grind
theorem VY(a b:List UInt8):(⟨a.toArray⟩:ByteArray)++⟨#[47]⟩++⟨b.toArray⟩=⟨(a++47::b).toArray⟩:=by
 grind[Kt]
theorem kz(va:D)(q:Rat)(w:H)(f:Jg w va q)(o:Sq q)(ah:Lib.TabIs I w "internal/strconv.uint64pow10" .u64 Lib.pow10Tab):
 F I 210 #[va] w λe w'=>e=.returned (.string ⟨(Ha q).toArray⟩)/\Bl w w':=by
 obtain⟨j,z⟩:∃S:ByteArray,⟨(D8 q.num).toArray⟩=S:=⟨_,rfl⟩;have bm:j.size<=400000000000:=by rw[<-z];exact VX o.num
 have n:=Z z;clear z;obtain⟨y,A⟩:∃S:ByteArray,⟨(D8 (q.den:Int)).toArray⟩=S:=⟨_,rfl⟩;have bn:y.size<=400000000000:=by rw[<-A];exact VX o.den
 have U:=Z A;clear A;have s:=Z ah;clear ah;by_cases c:q.den=1
 . have p:=Z c;have r:=Z (show(⟨(Ha q).toArray⟩:ByteArray)=j by rw[<-n.o];unfold Ha;rw[BE c]);rw[r.o];clear c;obtain⟨bi,ai,bg,am,bj,aj,aq,an,rfl⟩:=Jg.form f;obtain⟨W0,g,b⟩:=Ij 50 (.rat q) f;clear f o;go_enter Tryz.func210,Tryz.ntmps210
   go_upto_region 1 with fail
   rw[g.o];clear g;obtain⟨s1,a1,l1,c1,t1,b1,k1,d1,l,r1,K,j1⟩:=b.o.rat (i:=0) rfl;obtain⟨x,t,u,v⟩:=l.cq;have a:=Z (KH _ q W0 r1);rw[BG p.o]at a;have d:=Z λ(V:H) (h:Bl W0 V)=>Ny _ q.num V (K.below h) (JQ s.o (Bt b.o.2.2 h));rw[n.o]at d;go_wp2_with(first
    |(go_at_call 46;refine a.o.mono ?_;clear a;rintro e w1 ⟨rfl,hq⟩;obtain⟨x,t,u,v⟩:=(l.below hq).cq)
    |(go_at_call 248;refine(d.o _ hq).mono ?_;clear d;rintro e w2 ⟨rfl,B⟩;have hq:=Bt hq B))
   go_ret;exact⟨rfl,Bt b.o.2.2 hq⟩
 . have p:=Z c;have r:=Z (show(⟨(Ha q).toArray⟩:ByteArray)=j++⟨#[47]⟩++y by rw[<-n.o,<-U.o,VY];unfold Ha;rw[BD c]);rw[r.o];have HZ:=Z (show Dw q=q.den by unfold Dw;rw[BD c]);clear c;have y1:¬9223372036854775807<j.size+1:=O
   have y2:¬9223372036854775807<j.size+1+y.size:=O
   obtain⟨bi,ai,bg,am,bj,aj,aq,an,rfl⟩:=Jg.form f;obtain⟨W0,g,b⟩:=Ij 50 (.rat q) f;clear f o;go_enter Tryz.func210,Tryz.ntmps210
   go_upto_region 1 with fail
   rw[g.o];clear g;obtain⟨s1,a1,l1,c1,t1,b1,k1,d1,l,r1,K,j1⟩:=b.o.rat (i:=0) rfl;obtain⟨x,t,u,v⟩:=l.cq;have a:=Z (KH _ q W0 r1);rw[BJ p.o]at a;go_upto_region 3 with(go_at_call 46;refine a.o.mono ?_;clear a;rintro e w1 ⟨rfl,ae⟩)
   have m:=Z (b.o.below ae);clear b;clear l x t u v K r1 j1 ae;obtain⟨s2,a2,l2,c2,t2,b2,k2,d2,M,r2,i2,j2⟩:=m.o.rat (i:=0) rfl;obtain⟨R,T,X,W⟩:=M.cq;have d:=Z λ(V:H) (h:Bl w1 V)=>(by have k:=Ny _ q.num V (i2.below h) (JQ s.o (Bt m.o.2.2 h));rw[n.o]at k;exact k);have Q:=Z λ(V:H) (h:Bl w1 V)=>(by have h0:=(j2.below h);rw[HZ.o]at h0;have k:=Ny _ (q.den:Int) V h0 (JQ s.o (Bt m.o.2.2 h));rw[U.o]at k;exact k);have hq:Bl w1 w1.drew:=(BA _ w1).drew;go_region_held3 (λw'=>w'.cell? ⟨w.heap.size,0,none⟩=some (E s2)/\w'.cell? ⟨w.heap.size,1,none⟩=some (C a2 l2 c2)/\w'.cell? ⟨w.heap.size,2,none⟩=some (E t2)/\w'.cell? ⟨w.heap.size,3,none⟩=some (C b2 k2 d2)) (first|grind|(go_keep;done)|(refine⟨?_,?_,?_,?_⟩<;>((repeat rw[JO O]);first|assumption|(go_keep;done))))
    (first
     |(go_at_call 248;refine(d.o _ hq ).mono ?_;clear d;rintro e w2 ⟨rfl,B⟩;have hq:=Bt hq B;obtain⟨R,T,X,W⟩:=(M.below hq).cq)
     |(go_at_call 248;refine(Q.o _ hq ).mono ?_;clear Q;rintro e w6 ⟨rfl,ap⟩;have hq:=Bt hq ap;obtain⟨R,T,X,W⟩:=(M.below hq).cq))
   all_goals go_wp2_with fail
   go_ret;exact⟨rfl,Bt m.o.2.2 hq⟩
end
section
variable{c:Rat}
def lB(b:ByteArray)(n i:Nat)(r:List UInt8)(h:b.size-i=n):ByteArray.toList.loop b i r=r.reverse++b.data.toList.drop i:=by
 induction n generalizing i r with
 |zero=>
  rw[ByteArray.toList.loop,BD O,AV (by simpa using(by omega:b.size<=i)),CJ]
 |succ n c=>
  have hi:i<b.size:=O
  have a:i<b.data.toList.length:=by simpa using hi
  rw[ByteArray.toList.loop,BE hi,c (i+1) _ O,List.reverse_cons,CG,AR a];have e:b.get! i=b.data.toList[i]:=by
   show b.data[i]! = _;rw[getElem!_pos b.data i hi];simp
  rw[e];rfl
theorem QT(b:ByteArray):b.toList=b.data.toList:=by
 show ByteArray.toList.loop b 0 []=_;rw[lB b _ 0 [] J];rfl
def Yv(c:Rat):Rat:=if c<0 then -c else c
def OM(i:Nat):List UInt8:=if i=0 then []else if i=1 then [120]else 120::94::YW i
theorem neg_num:(c<0)↔c.num<0:=by
 rw[<-Rat.not_le,<-Rat.num_nonneg];omega
theorem lC(h:c<0):Yv c=-c:=by unfold Yv;rw[BE h]
theorem lD(h:¬c<0):Yv c=c:=by unfold Yv;rw[BD h]
theorem lE(c:Rat):(Yv c).num=(c.num.natAbs:Int)/\(Yv c).den=c.den:=by
 grind[neg_num,lC,Rat.neg_num,Rat.neg_den,lD]
end
namespace M3
def ON{W W':H}{row:Option Nat}(hg:W.grownBy W' row)(z:∀r,row=some r->∃o:Obj,W.heap[r]?=some o/\o.isCells=false){k:IntKind}{v:D}{ds:List Nat}(h:Row k W v ds):Row k W' v ds:=by
 obtain⟨a,cap,e,n,p,q,c⟩:=h;refine⟨a,cap,e,n,p,q,?_⟩;rcases c with c|⟨b,A,l,d,i⟩
 . exact Or.inl c
 . by_cases g:ds=[]
   . exact Or.inl g
   . have hl:0<ds.length:=Ae.2 g;have f:some b≠row:=λe=>by
      obtain⟨o,y,x⟩:=z b e.symm;have s:=i 0 hl;cases o with
      |cells cs t m=>cases x
      |_=>simp[World.cell?,y]at s
     exact Or.inr ⟨b,A,l,d.of (hg.block b d.lt f),λj u=>(BR (w:=W) (hg.block b d.lt f)).trans (i j u)⟩
variable{cs:Array D}{W W':H}
def YQ{row:Option Nat}(hg:W.grownBy W' row)(d:∀r,row=some r->∃o:Obj,W.heap[r]?=some o/\o.isCells=false){B:Nat}{t:TypeId}(h:Bx W B t cs):Bx W' B t cs:=by
 have b:some B≠row:=λe=>by
  obtain⟨o,a,c⟩:=d B e.symm;rw[show W.heap[B]?=_ from h]at a;cases a;cases c
 exact(hg.block B h.lt b).trans h
def OO{row:Option Nat}(hg:W.grownBy W' row)(g:∀r,row=some r->∃o:Obj,W.heap[r]?=some o/\o.isCells=false){r:Bool}{v:D}{qs:List Rat}(h:RowK r W v qs):RowK r W' v qs:=by
 obtain⟨a,cap,e,j,k,l,c⟩:=h;refine⟨a,cap,e,j,k,l,?_⟩;rcases c with c|⟨b,i,f⟩
 . exact Or.inl c
 . have hb:W'.heap[b]?=W.heap[b]?:=by
    obtain⟨cs,d,_⟩:=f;rw[d];exact YQ hg g d
   exact Or.inr ⟨b,i,f.keep hb λ_ _ _ h=>ON hg g h⟩
def DI.own{w:H}{bs:List (Option (Nat × Dat))}{row:Option Nat}(M:DI w W bs)(hg:W.grownBy W' row)(b:∀r,row=some r->w.heap.size<=r/\∃o:Obj,W.heap[r]?=some o/\o.isCells=false):DI w W' bs:=by
 have a:∀r,row=some r->∃o:Obj,W.heap[r]?=some o/\o.isCells=false:=λr e=>(b r e).2;refine⟨λi B d h=>?_,M.2.1,M.2.2.grown hg M.2.2.size λk e=>(b k e).1⟩;obtain⟨⟨cs,c,f⟩,g⟩:=M.1 i B d h;exact⟨⟨cs,YQ hg a c,f.keep (λ_ _ _ h=>ON hg a h) (Or.inr λ_ _ h=>OO hg a h)⟩,g⟩
def lF{w:H}{B:Nat}(b:w.heap.size<=B)(f:Nat->List (Option (Nat × Dat))):OwnFrom B (λk W=>DI w W (f k)):=
 λ_ _ _ _ M hg a=>M.own hg λr e=>⟨Ac b (a r e).1,(a r e).2⟩
def DI.with{w:H}{bs:List (Option (Nat × Dat))}(M:DI w W bs){b:Nat}(d:Dat)(hb:Bx W b d.ty cs)(m:Has W (P cs) d)(o:w.heap.size<=b)(f:∀(i:Nat) B g,bs[i]?=some (some (B,g))->B≠b):DI w W (bs++[some (b,d)]):=by
 have e:∀(j:Nat) x,(bs++[some (b,d)])[j]?=some (some x)->bs[j]?=some (some x)\/(j=bs.length/\x=(b,d)):=λj x h=>by
  by_cases n:j<bs.length
  . rw[CE n]at h;exact Or.inl h
  . rw[AY O]at h;obtain⟨k,hk⟩:=ex (j-bs.length);rw[hk]at h;cases k with
    |zero=>simp at h;exact Or.inr ⟨O,h.symm⟩
    |succ k=>simp at h
 refine⟨λj B d h=>?_,λj k B d1 l a c=>?_,M.2.2⟩
 . rcases e j _ h with h|⟨_,h⟩
   . exact M.1 j B d h
   . cases h;exact⟨⟨cs,hb,m⟩,o⟩
 . rcases e j _ a with a|⟨p,a⟩<;>rcases e k _ c with c|⟨q,c⟩
   . exact M.2.1 j k B d1 l a c
   . cases c;exact absurd J (f j _ _ a)
   . cases a;exact absurd J (f k _ _ c)
   . omega
def Il(w W0 W:H)(bs:List (Option (Nat × Dat))):Prop:=DI w W bs/\KeepsOthers W0 W
def Il.below{w W0 W W':H}{bs:List (Option (Nat × Dat))}(h:Il w W0 W bs)(hb:Bl W W'):Il w W0 W' bs:=⟨h.1.below hb,h.2.trans (Xp hb)⟩
def Il.drew{w W0 W:H}{bs:List (Option (Nat × Dat))}(h:Il w W0 W bs):Il w W0 W.drew bs:=h.below ((BA _ W).drew)
def QU(W:H)(B:Nat)(x y z u:D):KeepsOthers W (put4 W B x y z u):=(((BK _ _ _).trans (BK _ _ _)).trans (BK _ _ _)).trans (BK _ _ _)
def VZ(W:H)(B o:Nat)(x y z u:D):KeepsOthers W (putAt W B o x y z u):=(((BK _ _ _).trans (BK _ _ _)).trans (BK _ _ _)).trans (BK _ _ _)
