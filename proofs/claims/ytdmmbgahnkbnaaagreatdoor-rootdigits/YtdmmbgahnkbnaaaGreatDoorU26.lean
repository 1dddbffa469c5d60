import Derived.Test.YtdmmbgahnkbnaaaGreatDoorU22
import Derived.Test.YtdmmbgahnkbnaaaGreatDoorU24
import Derived.Deep.RegionHeld3
import Derived.Deep.OwnRows
set_option linter.all false
open Go.Value renaming slice->C,bool->E,pointer->L,agg->P
open Go.Obj renaming cells->G
open Go renaming World->H,Value->D,Calls->F,undef->N
open Go.Proofs.Tryz renaming prog->I
set_option maxRecDepth 99999
set_option maxHeartbeats 0
namespace Go.Proofs.YtdmmbgahnkbnaaaGreatDoor
open Go.RowKit Go.Shelf
attribute [local go_sem] Oper.semAt_some
def C0:type_of% @decide_eq_decide:=@decide_eq_decide
def Ka(v z:D)(x y:Int)(w:H)(S:Ji w v x)(T:Ji w z y)(n:(Jh Y x.natAbs).length<1000000000000)(o:(Jh Y y.natAbs).length<1000000000000):
 F I 155 #[v,z] w λe w'=>∃u,e=.returned u/\Ji w' u (Int.gcd x y:Nat)/\Bl w w':=by
 obtain⟨a,la,ca,f,c⟩:=S;cases f;obtain⟨b,lb,cb,f,hv⟩:=T;cases f;have l:=c.len;have m:=hv.len;obtain⟨s,hs⟩:=ex (decide (x<0));obtain⟨t,q⟩:=ex (decide (y<0));rw[hs,q];obtain⟨W0,i⟩:=ex (((w.alloc (G #[E s,C a la ca] 39)).alloc (G #[E t,C b lb cb] 39)).alloc (G #[E false,C none 0 0] 39));obtain⟨g,b0,R,d⟩:=ND i;have B:=Z (g8 a la ca b lb cb _ _ W0 (UN.below c g) (UN.below hv g) (by rw[l];exact n) (by rw[m];exact o));have A:=Z λ(V:H) (u:D) (c:UN V u (Nat.gcd x.natAbs y.natAbs))=>show F I 94 #[E false,u] V λe w'=>∃u,e=.returned u/\Ji w' u (Int.gcd x y:Nat)/\Bl V w' from KQ false u _ V c;have k1:=b0.c1;have k3:=R.c1;have M:=Z i;clear c hv hs q l m n o i;go_enter Tryz.func155,Tryz.ntmps155
 go_upto_region 1 with fail
 rw[M.o];go_wp2_with(first
  |(go_at_call 220;refine B.o.mono ?_;rintro e w1 ⟨u1,rfl,r,U⟩;obtain⟨na,nc,rfl⟩:=UN.form r)
  |(go_at_call 94;refine(A.o _ _ r).mono ?_;rintro e w2 ⟨u2,rfl,k,W⟩;obtain⟨sa,sl,sc,rfl⟩:=k.form;obtain⟨X,j⟩:=ex (decide (((Int.gcd x y:Nat):Int)<0));rw[j]at k;rw[j];clear j;have hq:=Bt U W;obtain⟨r0,r1⟩:=(d.below hq).cp;obtain⟨f0,f1⟩:=(d.below hq).fp))
 have Q:=Bt g hq;have K:=k.box (d.below hq) rfl rfl (x0:=E X) (x1:=C sa sl sc);exact BC (by simp[results,Tryz.results155,go_sem,r0,r1]) rfl ⟨_,rfl,K,(Q.setCell (p:=⟨_,0,none⟩) Df _).setCell (p:=⟨_,1,none⟩) Df _⟩
def iP(w:H)(a b c d:Obj):Bl w ((((w.alloc a).alloc b).alloc c).alloc d):=
 (((Ba w _).alloc DH _).alloc si _).alloc si _
theorem UF{x y z r:Int}(d:y≠0)(h:r+y*z=x)(c:0<=r)(e:r<y.natAbs):z=x/y/\r=x%y:=by
 rcases Int.lt_or_gt_of_ne d with hn|hp
 . have f:=(Int.ediv_emod_unique (a:=x) (b:=-y) (r:=r) (q:=-z) O).2 ⟨DG,c,O⟩;grind[Int.ediv_neg,Int.emod_neg]
 grind[Int.ediv_emod_unique]
theorem iQ{x y:Int}(b:y≠0)(c:¬(x<0/\x.natAbs%y.natAbs≠0)):
 (if(!(decide (x<0)==decide (y<0)))=true then -((x.natAbs/y.natAbs:Nat):Int)else((x.natAbs/y.natAbs:Nat):Int))=x/y/\((x.natAbs%y.natAbs:Nat):Int)=x%y:=by
 have a:=Ci x.natAbs y.natAbs;have d:=Co x.natAbs (show y.natAbs>0 by omega);generalize x.natAbs/y.natAbs=Q at *;generalize x.natAbs%y.natAbs=R at *;have e:(y.natAbs:Int)*Q+R=x.natAbs:=by rw[<-a];push_cast;rfl
 apply UF b _ O O;grind
theorem iR{x y:Int}(c:y≠0)(a:x<0/\x.natAbs%y.natAbs≠0):
 (if(!(decide (x<0)==decide (y<0)))=true then -((x.natAbs/y.natAbs+1:Nat):Int)else((x.natAbs/y.natAbs+1:Nat):Int))=x/y/\((y.natAbs-x.natAbs%y.natAbs:Nat):Int)=x%y:=by
 have b:=Ci x.natAbs y.natAbs;have e:=Co x.natAbs (show y.natAbs>0 by omega);generalize x.natAbs/y.natAbs=Q at *;generalize x.natAbs%y.natAbs=R at *;have f:(y.natAbs:Int)*Q+R=x.natAbs:=by rw[<-b];push_cast;rfl
 obtain⟨g,d⟩:=a;apply UF c _ O O;grind
def iS{W:H}{B:Nat}{t:TypeId}{a b u0 u1:D}(x0 x1 y0 y1:D)(h:JB W B t a b)(k:JB W (B+1) t u0 u1):
 JB ((((W.setCell ⟨B,0,none⟩ x0).setCell ⟨B,1,none⟩ x1).setCell ⟨B+1,0,none⟩ y0).setCell ⟨B+1,1,none⟩ y1) B t x0 x1/\JB ((((W.setCell ⟨B,0,none⟩ x0).setCell ⟨B,1,none⟩ x1).setCell ⟨B+1,0,none⟩ y0).setCell ⟨B+1,1,none⟩ y1) (B+1) t y0 y1:=
 ⟨(((h.set0 x0).set1 x1).far DH y0).far DH y1,(((k.far DH x0).far DH x1).set0 y0).set1 y1⟩
def iT(w:H)(a b c d:D)(p0 p1:D):
 JB ((((w.alloc (G #[a,b] 39)).alloc (G #[c,d] 39)).alloc (G #[p0,p1] 39)).alloc (G #[p0,p1] 39)) w.heap.size 39 a b/\
 JB ((((w.alloc (G #[a,b] 39)).alloc (G #[c,d] 39)).alloc (G #[p0,p1] 39)).alloc (G #[p0,p1] 39)) (w.heap.size+1) 39 c d/\
 JB ((((w.alloc (G #[a,b] 39)).alloc (G #[c,d] 39)).alloc (G #[p0,p1] 39)).alloc (G #[p0,p1] 39)) (w.heap.size+1+1) 39 p0 p1/\
 JB ((((w.alloc (G #[a,b] 39)).alloc (G #[c,d] 39)).alloc (G #[p0,p1] 39)).alloc (G #[p0,p1] 39)) (w.heap.size+1+1+1) 39 p0 p1:=by
 refine⟨(((JB.new w _ _ _).alloc _).alloc _).alloc _,?_,?_,?_⟩
 . have h:=((JB.new (w.alloc (G #[a,b] 39)) 39 c d).alloc (G #[p0,p1] 39)).alloc (G #[p0,p1] 39);rw[Ax]at h;exact h
 . have h:=(JB.new ((w.alloc (G #[a,b] 39)).alloc (G #[c,d] 39)) 39 p0 p1).alloc (G #[p0,p1] 39);rw[Ax,Ax]at h;exact h
 . have h:=JB.new (((w.alloc (G #[a,b] 39)).alloc (G #[c,d] 39)).alloc (G #[p0,p1] 39)) 39 p0 p1;rw[Ax,Ax,Ax]at h;exact h
theorem iU(a:Option Addr)(la ca:Nat)(b:Option Addr)(lb cb X c:Nat)(s t:Bool)(z r:Int)(w:H)(hu:UN w (C a la ca) X)(hv:UN w (C b lb cb) c)(hY:c≠0)(bm:la<1000000000000)(bn:lb<1000000000000)
(HP:Hid (¬(s=true/\X%c≠0)->(if(!(s==t))=true then -((X/c:Nat):Int)else((X/c:Nat):Int))=z/\((X%c:Nat):Int)=r))
(HN:Hid (s=true/\X%c≠0->(if(!(s==t))=true then -((X/c+1:Nat):Int)else((X/c+1:Nat):Int))=z/\((c-X%c:Nat):Int)=r)):
 F I 169 #[P #[E s,C a la ca],P #[E t,C b lb cb]] w λe w'=>∃q o,e=.returned (.tuple #[q,o,E true])/\Ji w' q z/\Ji w' o r/\Bl w w':=by
 obtain⟨b0,j,A,b5⟩:=iT w (E s) (C a la ca) (E t) (C b lb cb) (E false) (C none 0 0);have x:=iP w (G #[E s,C a la ca] 39) (G #[E t,C b lb cb] 39) (G #[E false,C none 0 0] 39) (G #[E false,C none 0 0] 39);obtain⟨W0,ae⟩:=ex ((((w.alloc (G #[E s,C a la ca] 39)).alloc (G #[E t,C b lb cb] 39)).alloc (G #[E false,C none 0 0] 39)).alloc (G #[E false,C none 0 0] 39));rw[ae]at b0 j A b5 x;have Qh:=Z ae;have bu:lb≠0:=λe=>hY ((J8 Jf).1 (AG (by rw[<-UN.len hv,e])));have Qn:=UN.below hu x;have Qd:=UN.below hv x;have Qm:=Z (Pp a la ca b lb cb X c W0 Qn Qd hY O);have Qw:=Z Qd;have Qq:=Z (UN.len hu).symm;obtain⟨k0,k1⟩:=b0.cp;obtain⟨k2,l⟩:=j.cp;clear ae hu hv Qn Qd;go_enter Tryz.func169,Tryz.ntmps169
 go_upto_region 1 with fail
 rw[Qh.o];go_upto_region 4 with(go_at_call 224;refine Qm.o.mono ?_;rintro e w1 ⟨u1,v1,rfl,k,M,g⟩;obtain⟨ua,uc,rfl⟩:=UN.form k;obtain⟨va,vc,rfl⟩:=UN.form M)
 clear Qm Qh;obtain⟨k0,k1⟩:=(b0.below g).cp;obtain⟨k2,l⟩:=(j.below g).cp;have Qg:(Jh Y (X%c)).length=0↔X%c=0:=⟨λh=>(J8 Jf).1 (AG h),λh=>by rw[h,JV];rfl⟩;have ce:=Co X (show c>0 by omega);have bz:=XS (m:=X) (n:=X/c) (Fd _ _);have Qk:(Jh Y (X/c)).length<1099511627776:=by
  have d:=(Jz k).2.2.2.1
  have:(Jh Y X).length=la:=by
   have h:=Qq.o;omega
  omega
 obtain⟨lr,bf⟩:=ex ((Jh Y (X%c)).length);obtain⟨lq,az⟩:=ex ((Jh Y (X/c)).length);rw[bf]at M Qg ⊢;rw[az]at k Qk ⊢;obtain⟨cd,ay⟩:=ex ((s&&decide (0<lr)):Bool);have i:=Z ay;have Qp:=Z Qg;clear ay Qg bf az;go_cut [29] λv w2=>v=E cd/\w2=w1
 case first=>
  cases s with
  |false=>
   have e5:cd=false:=by rw[<-i.o];rfl
   go_wp2_with fail
   go_meet
   grind
  |true=>
   by_cases h5:0<lr
   . have e5:cd=true:=by rw[<-i.o];simp;omega
     go_wp2_with fail
     go_meet
     grind
   . have e5:cd=false:=by rw[<-i.o];simp;omega
     go_wp2_with fail
     go_meet
     grind
 case rest=>
  obtain⟨rfl,rfl⟩:=hcut;go_upto_if 29 with fail
  go_cut [7,8] λqv rv w2=>∃(W:Option Addr) (ql qc Q:Nat) (T:Option Addr) (ol U R:Nat),qv=C W ql qc/\rv=C T ol U/\Hid (UN w2 (C W ql qc) Q)/\Hid (UN w2 (C T ol U) R)/\Hid ((if(!(s==t))=true then -(Q:Int)else(Q:Int))=z/\(R:Int)=r)/\Bl W0 w2
  case first=>
   cases cd with
   |false=>
    have K:¬(s=true/\X%c≠0):=λ⟨d,h2⟩=>by
     have h:=i.o;rw[d]at h;simp at h;exact h2 (Qp.o.1 h)
    go_wp2_with fail
    go_meet
    case rel=>exact⟨_,_,_,_,_,_,_,_,rfl,rfl,Z k,Z M,Z (HP.o K),g⟩
   |true=>
    have K:s=true/\X%c≠0:=by
     have h:=i.o;simp at h;exact⟨h.1,λe=>by have:=Qp.o.2 e;omega⟩
    have HC:=Z K;clear K;have Qv:=Z (show ∀V:H,Bl wc V->F I 100 #[C ua lq uc,C (some ⟨V.heap.size,0,none⟩) 1 1] (V.alloc (G #[.int .u64 1] 141)) λe w'=>∃u,e=.returned u/\UN w' u (X/c+1)/\Below (V.alloc (G #[.int .u64 1] 141)).heap.size (V.alloc (G #[.int .u64 1] 141)) w' from λV h=>by
     have Qe:Row .u64 (V.alloc (G #[.int .u64 1] 141)) (C (some ⟨V.heap.size,0,none⟩) 1 1) (Jh Y 1):=by
      rw[Pq O uo];exact(DP.made (xs:=[1]) (BF V (G #[.int .u64 ((1:Nat):Int)] 141))).row 0 1 1 DH O O O
     exact S0 ua lq uc (some ⟨V.heap.size,0,none⟩) 1 1 (X/c) 1 _ (Row.below (Row.below k h) (Ba V _)) Qe Qk O)
    have Qz:=Z λ(V:H) (h:Bl wc V)=>PX b lb cb va lr vc c (X%c) V (Row.below (Row.below Qw.o g) h) (Row.below M h) O;have hq:Bl wc wc.drew:=(BD _ wc).drew;have bx:=j.below g;have lx:=bx.lt;go_wp2_with fail
    have l:=bx.c1;go_region_held3 (λw'=>w'.cell? ⟨w.heap.size+1,1,none⟩=some (C b lb cb)) (first|exact l|(go_keep;done))
     (first
      |(go_at_call 100;refine(Qv.o _ hq).mono ?_;rintro e w3 ⟨u3,rfl,bg,bj⟩;obtain⟨pa,pc,rfl⟩:=UN.form bg;have hq:=Tm hq bj;have l:=(bx.below hq).c1)
      |(go_at_call 102;refine(Qz.o _ hq).mono ?_;rintro e w4 ⟨u4,rfl,bi,ap⟩;obtain⟨ma,mc,rfl⟩:=UN.form bi;have hq:=Bt hq ap;have l:=(bx.below hq).c1))
    all_goals go_wp2_with fail
    go_meet
    case rel=>exact⟨_,_,_,_,_,_,_,_,rfl,rfl,Z (UN.below bg ap),Z bi,Z (HN.o HC.o),Bt g hq⟩
  case rest=>
   obtain⟨W,ql,qc,Q,T,ol,U,R,rfl,rfl,hQ,hR,hZ,B⟩:=hcut;have Qi:=Z (show ∀V:H,Bl wc V->F I 94 #[E (!(s==t)),C W ql qc] V λe w'=>∃u,e=.returned u/\Ji w' u z/\Bl V w' from λV h=>by
    have d:=KQ (!(s==t)) _ _ V (UN.below hQ.o h);rw[hZ.o.1]at d;exact d)
   have Qj:=Z (show ∀V:H,Bl wc V->F I 94 #[E false,C T ol U] V λe w'=>∃u,e=.returned u/\Ji w' u r/\Bl V w' from λV h=>by
    have d:=KQ false _ _ V (UN.below hR.o h);simp only[CS,if_false]at d;rw[hZ.o.2]at d;exact d)
   have k0:=(b0.below B).c0;have k2:=(j.below B).c0;go_wp2_with(first
    |(go_at_call 94;refine(Qi.o _ (BD _ _)).mono ?_;clear Qi;rintro e w5 ⟨u5,rfl,am,ah⟩;obtain⟨y,S,c5,rfl⟩:=am.form;obtain⟨s5,ai⟩:=ex (decide (z<0));rw[ai]at am;rw[ai];clear ai)
    |(go_at_call 94;refine(Qj.o _ ah).mono ?_;clear Qj;rintro e w6 ⟨u6,rfl,an,aq⟩;obtain⟨a6,l6,c6,rfl⟩:=an.form;obtain⟨s6,aj⟩:=ex (decide (r<0));rw[aj]at an;rw[aj];clear aj;have f:=(Bt B ah).trans (aq.mono (Bt B ah).size);obtain⟨q0,q1⟩:=(A.below f).cp;obtain⟨q2,q3⟩:=(b5.below f).cp;obtain⟨f0,f1⟩:=(A.below f).fp;obtain⟨f2,f3⟩:=(b5.below f).fp))
   have Qf:=A.below f;have Qo:=b5.below f;obtain⟨z4,z5⟩:=iS (E s5) (C y S c5) (E s6) (C a6 l6 c6) Qf Qo;obtain⟨Qy,Qx⟩:=z4.cp;obtain⟨Qr,Qu⟩:=z5.cp;have Ql:JB ((w6.setCell ⟨w.heap.size+1+1,0,none⟩ (E s5)).setCell ⟨w.heap.size+1+1,1,none⟩ (C y S c5)) (w.heap.size+1+1+1) 39 (E false) (C none 0 0):=(Qo.far DH _).far DH _;have Qs:=((am.below aq).box Qf rfl rfl (x0:=E s5) (x1:=C y S c5)).box Ql rfl rfl (x0:=E s6) (x1:=C a6 l6 c6);have Qt:=(an.box Qf rfl rfl (x0:=E s5) (x1:=C y S c5)).box Ql rfl rfl (x0:=E s6) (x1:=C a6 l6 c6);have Ua:=Bt x f;exact BC (by simp[results,Tryz.results169,go_sem,Qy,Qx,Qr,Qu]) rfl ⟨_,_,rfl,Qs,Qt,(((Ua.setCell (p:=⟨_,0,none⟩) Df _).setCell (p:=⟨_,1,none⟩) Df _).setCell (p:=⟨_,0,none⟩) Df _).setCell (p:=⟨_,1,none⟩) Df _⟩
def Nc(g i:D)(x y:Int)(w:H)(j:Ji w g x)(k:Ji w i y)(f:y≠0)(l:(Jh Y x.natAbs).length<1000000000000)(m:(Jh Y y.natAbs).length<1000000000000):
 F I 169 #[g,i] w λe w'=>∃q o,e=.returned (.tuple #[q,o,E true])/\Ji w' q (x/y)/\Ji w' o (x%y)/\Bl w w':=by
 obtain⟨a,la,ca,rfl,d⟩:=j;obtain⟨b,lb,cb,rfl,hv⟩:=k;refine iU a la ca b lb cb x.natAbs y.natAbs _ _ (x/y) (x%y) w d hv O (by rw[UN.len d];exact l) (by rw[UN.len hv];exact m) (λc=>iQ f λh=>c ⟨BK h.1,h.2⟩) (λc=>iR f ⟨BZ c.1,c.2⟩)
section
open M3
def iV(z:Int):(XH z 0=0)↔z=0:=by
 unfold XH;omega
def UG(v:D)(z:Int)(w:H)(h:Ji w v z):
 F I 99 #[v] w λe w'=>e=.returned (E (decide (z=0)))/\Bl w w':=by
 obtain⟨a,l,c,rfl⟩:=h.form;obtain⟨s,hs⟩:=ex (decide (z<0));rw[hs]at h ⊢;clear hs;have b0:=JB.new w 39 (E s) (C a l c);have b:Bl w (w.alloc (G #[E s,C a l c] 39)):=Ba w _;obtain⟨W0,d⟩:=ex (w.alloc (G #[E s,C a l c] 39));rw[d]at b0 b;have i:=Z d;have f:=Z (IQ _ _ z 0 W0 (h.below b) (ER _));obtain⟨k,m⟩:=b0.cp;have g:=Z (iV z);obtain⟨n,hn⟩:=ex (XH z 0);rw[hn]at f g;clear d hn;go_enter Tryz.func99,Tryz.ntmps99
 go_upto_region 1 with fail
 rw[i.o];go_wp2_with(go_at_call 86;refine f.o.mono ?_;rintro e w1 ⟨rfl,j⟩)
 go_ret;refine⟨?_,Bt b j⟩;show Ending.returned (Value.bool (n==0))=_;have e:(n==0)=decide (z=0):=by rw[FD];simp[g.o]
 rw[e]
def dd(y:Int):Int:=if y=0 then 1 else y
def UH(v:D)(x y:Int)(w:H)(h:Xm w v x y):
 F I 64 #[v] w λe w'=>e=.returned (E (decide (y=0)))/\Bl w w':=by
 obtain⟨s,a,l,c,t,b,k,d,rfl,p,m⟩:=h;have b0:=JO.new w 41 (E s) (C a l c) (E t) (C b k d);have f:Bl w (w.alloc (G #[E s,C a l c,E t,C b k d] 41)):=Ba w _;obtain⟨W0,g⟩:=ex (w.alloc (G #[E s,C a l c,E t,C b k d] 41));rw[g]at b0 f;have j:=Z g;have i:=Z (UG _ _ W0 (m.below f));have q:=b0.c2;have r:=b0.c3;obtain⟨n,hn⟩:=ex (decide (y=0));rw[hn]at i ⊢;clear g hn;go_enter Tryz.func64,Tryz.ntmps64
 go_upto_region 1 with fail
 rw[j.o];go_wp2_with(go_at_call 99;refine i.o.mono ?_;rintro e w1 ⟨rfl,o⟩)
 go_ret;exact⟨rfl,Bt f o⟩
def UI(v:D)(x y:Int)(w:H)(h:Xm w v x y):
 F I 88 #[v] w λe w'=>∃u,e=.returned u/\Ji w' u (dd y)/\Bl w w':=by
 have B:=h;obtain⟨s,a,l,c,t,b,k,d,rfl,T,K⟩:=h;obtain⟨W0,i⟩:=ex ((w.alloc (G #[E s,C a l c,E t,C b k d] 41)).alloc (G #[E false,C none 0 0] 39));have b0:JO W0 w.heap.size 41 (E s) (C a l c) (E t) (C b k d):=by rw[<-i];exact(JO.new w _ _ _ _ _).alloc _
 have m:Bl w W0:=by rw[<-i];exact Ll w _ _
 have g:JB W0 (w.heap.size+1) 39 (E false) (C none 0 0):=by
  have h:=JB.new (w.alloc (G #[E s,C a l c,E t,C b k d] 41)) 39 (E false) (C none 0 0);rw[Ax,i]at h;exact h
 have j:=Z (UH _ x y W0 (B.below m));have A:=Z i;obtain⟨V,W,X,k3⟩:=b0.cq;have S:=Z (K.below m);clear B T K i;by_cases hq:y=0
 . rw[BK hq]at j;have n:=Z (show dd y=1 by unfold dd;rw[BH hq]);clear hq;go_enter Tryz.func88,Tryz.ntmps88
   go_upto_region 1 with fail
   rw[A.o];go_wp2_with(first
    |(go_at_call 64;refine j.o.mono ?_;rintro e w1 ⟨rfl,f⟩)
    |(go_at_call 35;refine(Ex 1 O O _).mono ?_;rintro e w2 ⟨u2,rfl,z,U⟩;obtain⟨R,sl,sc,rfl⟩:=z.form;obtain⟨Q,r⟩:=ex (decide ((1:Int)<0));rw[r]at z;rw[r];clear r;have hq:=Bt f U;obtain⟨r0,r1⟩:=(g.below hq).cp;obtain⟨f0,f1⟩:=(g.below hq).fp))
   have q:=Bt m hq;have o:=z.box (g.below hq) rfl rfl (x0:=E Q) (x1:=C R sl sc);exact BC (v:=P #[E Q,C R sl sc]) (by simp[results,Tryz.results88,go_sem,r0,r1]) rfl ⟨_,rfl,by rw[n.o];exact o,(q.setCell (p:=⟨_,0,none⟩) Df _).setCell (p:=⟨_,1,none⟩) Df _⟩
 . rw[BL hq]at j;have n:=Z (show y=dd y by unfold dd;rw[BG hq]);clear hq;go_enter Tryz.func88,Tryz.ntmps88
   go_upto_region 1 with fail
   rw[A.o];go_wp2_with(go_at_call 64;refine j.o.mono ?_;rintro e w1 ⟨rfl,f⟩;have m2:=(b0.below f).c2;have m3:=(b0.below f).c3;obtain⟨r0,r1⟩:=(g.below f).cp;obtain⟨f0,f1⟩:=(g.below f).fp)
   have q:=Bt m f;have M:=S.o.below f;rw[n.o]at M;have o:=M.box (g.below f) rfl rfl (x0:=E t) (x1:=C b k d);exact BC (v:=P #[E t,C b k d]) (by simp[results,Tryz.results88,go_sem,r0,r1]) rfl ⟨_,rfl,o,(q.setCell (p:=⟨_,0,none⟩) Df _).setCell (p:=⟨_,1,none⟩) Df _⟩
def Pw(q:Rat):dd (D3 q)=q.den:=by
 have:=q.den_pos;unfold dd D3;omega
def K9(v:D)(q:Rat)(w:H)(h:Jg w v q):
 F I 64 #[v] w λe w'=>e=.returned (E (decide (q.den=1)))/\Bl w w':=by
 have a:=UH v q.num (D3 q) w h.pair;rwa[C0.2 NG]at a
def FU(v:D)(q:Rat)(w:H)(h:Jg w v q):
 F I 88 #[v] w λe w'=>∃u,e=.returned u/\Ji w' u (q.den:Int)/\Bl w w':=by
 have a:=UI v q.num (D3 q) w h.pair;rwa[Pw]at a
def Gs(M Q:D)(x y:Int)(w:H)(g:Ji w M x)(i:Ji w Q y)(K:y≠0)(v:Sok x)(z:Sok y):
 F I 156 #[M,Q] w λe w'=>∃u,e=.returned u/\Ji w' u (x/y)/\Bl w w':=by
 obtain⟨a,la,ca,rfl⟩:=g.form;obtain⟨b,lb,cb,rfl⟩:=i.form;obtain⟨s,hs⟩:=ex (decide (x<0));obtain⟨t,A⟩:=ex (decide (y<0));rw[hs]at g ⊢;rw[A]at i ⊢;clear hs A;obtain⟨W0,m⟩:=ex (((w.alloc (G #[E s,C a la ca] 39)).alloc (G #[E t,C b lb cb] 39)).alloc (G #[E false,C none 0 0] 39));obtain⟨l,b0,V,W⟩:=ND m;have R:=Z (Nc _ _ x y W0 (g.below l) (i.below l) K (by have:=v.words;omega) (by have:=z.words;omega));have T:=Z m;obtain⟨k0,k1⟩:=b0.cp;obtain⟨k2,k3⟩:=V.cp;clear g i K v z m;go_enter Tryz.func156,Tryz.ntmps156
 go_upto_region 1 with fail
 rw[T.o];go_upto_region 2 with(go_at_call 169;refine R.o.mono ?_;rintro e w1 ⟨u1,u2,rfl,q,B,r⟩;obtain⟨c,l1,c1,rfl⟩:=q.form;obtain⟨d,n⟩:=ex (decide (x/y<0));rw[n]at q;rw[n];clear n;obtain⟨f,l2,c2,rfl⟩:=B.form;obtain⟨j,o⟩:=ex (decide (x%y<0));rw[o]at B;rw[o];clear o)
 have X:=(JB.new w1 39 (E d) (C c l1 c1)).alloc (G #[E j,C f l2 c2] 39);have k:=((W.below r).alloc (G #[E d,C c l1 c1] 39)).alloc (G #[E j,C f l2 c2] 39);have hu:=(q.alloc (G #[E d,C c l1 c1] 39)).alloc (G #[E j,C f l2 c2] 39);have U:Bl w ((w1.alloc (G #[E d,C c l1 c1] 39)).alloc (G #[E j,C f l2 c2] 39)):=Bt (Bt l r) (Ll w1 _ _)
 obtain⟨q0,q1⟩:=X.cp;obtain⟨r0,r1⟩:=k.cp;obtain⟨f0,f1⟩:=k.fp;go_wp2_with fail
 have S:=hu.box k rfl rfl (x0:=E d) (x1:=C c l1 c1);exact BC (by simp[results,Tryz.results156,go_sem,r0,r1]) rfl ⟨_,rfl,S,(U.setCell (p:=⟨_,0,none⟩) Df _).setCell (p:=⟨_,1,none⟩) Df _⟩
def Px(w:H)(s t:Bool)(a b:Option Addr)(la ca lb cb:Nat)(x y:Int)(c:Ji w (P #[E s,C a la ca]) x)(d:Ji w (P #[E t,C b lb cb]) y):
 DI w (((w.alloc (G #[E s,C a la ca] 39)).alloc (G #[E t,C b lb cb] 39)).alloc (G #[E false,C none 0 0,E false,C none 0 0] 41)) [some (w.heap.size,.int x),some (w.heap.size+1,.int y),some (w.heap.size+1+1,.rat 0)]:=by
 have h:=(((DI.nil w).push (.int x) c).push (.int y) (d.alloc _)).push (.rat 0) (Xx _);rw[Ax,Ax,Ax]at h;exact h
def Jg.mk{W:H}{s t:Bool}{a b:Option Addr}{l c k d:Nat}{q:Rat}(e:Ji W (P #[E s,C a l c]) q.num)(f:Ji W (P #[E t,C b k d]) (D3 q)):Jg W (P #[E s,C a l c,E t,C b k d]) q:=⟨_,_,_,_,_,_,_,_,rfl,e,f⟩
def Nd(K M:D)(q:Rat)(w:H)(f:Ji w K q.num)(d:Ji w M (q.den:Int)):
 F I 157 #[K,M] w λe w'=>∃u,e=.returned u/\Jg w' u q/\Bl w w':=by
 obtain⟨a,la,ca,rfl⟩:=f.form;obtain⟨b,lb,cb,rfl⟩:=d.form;obtain⟨s,hs⟩:=ex (decide (q.num<0));obtain⟨t,x⟩:=ex (decide ((q.den:Int)<0));rw[hs]at f ⊢;rw[x]at d ⊢;clear hs x;have l:=Px w s t a b la ca lb cb _ _ f d;obtain⟨W0,c⟩:=ex (((w.alloc (G #[E s,C a la ca] 39)).alloc (G #[E t,C b lb cb] 39)).alloc (G #[E false,C none 0 0,E false,C none 0 0] 41));have b0:JB W0 w.heap.size 39 (E s) (C a la ca):=by rw[<-c];exact((JB.new w _ _ _).alloc _).alloc _
 have m:JB W0 (w.heap.size+1) 39 (E t) (C b lb cb):=by
  have h:=(JB.new (w.alloc (G #[E s,C a la ca] 39)) 39 (E t) (C b lb cb)).alloc (G #[E false,C none 0 0,E false,C none 0 0] 41);rw[Ax,c]at h;exact h
 have o:JO W0 (w.heap.size+1+1) 41 (E false) (C none 0 0) (E false) (C none 0 0):=by
  have h:=JO.new ((w.alloc (G #[E s,C a la ca] 39)).alloc (G #[E t,C b lb cb] 39)) 41 (E false) (C none 0 0) (E false) (C none 0 0);rw[Ax,Ax,c]at h;exact h
 rw[c]at l;have g:=l.2.2;obtain⟨j,r,Q,R⟩:=Do (λ(V:H) (u:D) (h:Bl W0 V) (U:Ji V u 1)=>IQ _ u (q.den:Int) 1 V ((d.below g).below h) U) (f.below g) (d.below g) c;obtain⟨X,k1⟩:=b0.cp;obtain⟨y,z⟩:=m.cp;have k:=Z (show(XH (q.den:Int) 1=0)↔q.den=1 by unfold XH;split<;>(try split)<;>omega);obtain⟨n,hn⟩:=ex (XH (q.den:Int) 1);rw[hn]at j k;clear f d c hn l;go_enter Tryz.func157,Tryz.ntmps157
 go_upto_region 1 with fail
 rw[R.o];have hq:Bl W0 W0.drew:=(BD _ W0).drew;go_region_held3 (λw'=>w'.cell? ⟨w.heap.size+1,0,none⟩=some (E t)/\w'.cell? ⟨w.heap.size+1,1,none⟩=some (C b lb cb)) (refine⟨?_,?_⟩<;>(first|(go_keep;done)|((repeat rw[JP O]);simp[*];done)))
  (first
   |(go_at_call 35;refine(Ex 1 O O _).mono ?_;rintro e w1 ⟨u1,rfl,W,S⟩;have hq:=Bt hq S;obtain⟨y,z⟩:=(m.below hq).cp)
   |(go_at_call 86;refine(j.o _ _ hq W).mono ?_;clear j;rintro e w2 ⟨rfl,T⟩;have hq:=Bt hq T;obtain⟨X,k1⟩:=(b0.below hq).cp;obtain⟨y,z⟩:=(m.below hq).cp;obtain⟨r0,r1,A,B⟩:=(o.below hq).cq;obtain⟨f0,f1,f2,f3⟩:=(o.below hq).fq))
 have v:=Bt g hq;have bw:=o.below hq;by_cases hn:n=0
 . have i:=Z (show D3 q=0 from NG.2 (k.o.1 hn));subst hn;have p:Jg w2 (P #[E s,C a la ca,E false,C none 0 0]) q:=Jg.mk (r.o.below hq) (by rw[i.o];exact ER _);go_wp2_with fail
   exact BC (by simp[results,Tryz.results157,go_sem,r0,r1,A,B]) rfl ⟨_,rfl,p.put4 bw rfl rfl rfl rfl _ _ _ _,Jt v O _ _ _ _⟩
 . have i:=Z (show D3 q=q.den by unfold D3;rw[BG λh=>hn (k.o.2 h)]);have p:Jg w2 (P #[E s,C a la ca,E t,C b lb cb]) q:=Jg.mk (r.o.below hq) (by rw[i.o];exact Q.o.below hq);go_wp2_with fail
   exact BC (by simp[results,Tryz.results157,go_sem,r0,r1,A,B]) rfl ⟨_,rfl,p.put4 bw rfl rfl rfl rfl _ _ _ _,Jt v O _ _ _ _⟩
def LA{x y:Int}(a:y≠0):(0:Int)<(Int.gcd x y:Nat):=by
 have:=Int.gcd_pos_of_ne_zero_right x a;omega
theorem UJ(va vb:D)(x y:Int)(w:H)(ha:Ji w va x)(p:Ji w vb y)(hy:y≠0)(bm:Sok x)(bn:Sok y):
 F I 93 #[va,vb] w λe w'=>∃u,e=.returned u/\Jg w' u (Rat.divInt x y)/\Bl w w':=by
 obtain⟨W,X,g⟩:=DY bm bn hy;clear bm bn hy;obtain⟨s,a,la,ca,rfl⟩:=Ji.form2 ha;obtain⟨t,b,lb,cb,rfl⟩:=Ji.form2 p;have M0:=Px w s t a b la ca lb cb _ _ ha p;obtain⟨W0,an⟩:=ex (((w.alloc (G #[E s,C a la ca] 39)).alloc (G #[E t,C b lb cb] 39)).alloc (G #[E false,C none 0 0,E false,C none 0 0] 41));have Qp:=Z an;rw[an]at M0;have M1:=Z M0;clear M0 ha p an;go_enter Tryz.func93,Tryz.ntmps93
 go_upto_region 1 with fail
 rw[Qp.o];clear Qp;obtain⟨s1,a1,l1,c1,n1,i1⟩:=M1.o.int (i:=0) rfl;have Qr:=n1.ka;obtain⟨s2,a2,l2,c2,n2,i2⟩:=M1.o.int (i:=1) rfl;have Qs:=n2.ka;go_upto_region 2 with(go_at_call 155;refine(Ka _ _ x y _ i1 i2 (by have:=W.o.words;omega) (by have:=X.o.words;omega)).mono ?_;rintro e w1 ⟨u,rfl,n,p⟩;obtain⟨cn,bf,ce,bi,rfl⟩:=Ji.form2 n)
 obtain⟨V3,m⟩:=ex (w1.alloc (G #[E cn,C bf ce bi] 39));obtain⟨B3,am⟩:=ex (w1.heap.size);have k:DI w (w1.alloc (G #[E cn,C bf ce bi] 39)) [some (w.heap.size,.int x),some (w.heap.size+1,.int y),some (w.heap.size+1+1,.rat 0),some (w1.heap.size,.int (((Int.gcd x y:Nat):Int)))]:=DI.push (M1.o.below p) (.int (((Int.gcd x y:Nat):Int))) n;rw[m,am]at k;rw[m];rw[am];have o:=Z (k);clear M1;clear k m am;clear n1 Qr i1 n2 Qs i2 n p;have U:=Z (Sok.gcd W.o X.o);by_cases hn:y<0
 . have K:=Z hn;clear hn;obtain⟨s4,a4,l4,c4,n4,i4⟩:=o.o.int (i:=1) rfl;have Qt:=n4.ka;have j:=Z (IQ _ _ y 0 V3 i4 (ER _));rw[show XH y 0=-1 from by unfold XH;rw[BH K.o]]at j;go_upto_region 3 with(go_at_call 86;refine j.o.mono ?_;rintro e q ⟨rfl,S⟩)
   have M3:=Z (o.o.below S);clear o;clear n4 Qt i4 j S;obtain⟨s5,a5,l5,c5,n5,i5⟩:=M3.o.int (i:=3) rfl;have Qq:=n5.ka;go_upto_region 4 with(go_at_call 105;refine(Pt _ _ 0 (((Int.gcd x y:Nat):Int)) _ (ER _) i5 (by have:=Sok.zero.words;omega) (by have:=U.o.words;omega)).mono ?_;rintro e w6 ⟨u6,rfl,az,ae⟩;obtain⟨co,bg,cj,bj,rfl⟩:=Ji.form2 az;have Qq:=(n5.below ae).ka;have Qx:=(n5.below ae).fa)
   obtain⟨Q,m⟩:=ex ((w6.setCell ⟨B3,0,none⟩ (E co)).setCell ⟨B3,1,none⟩ (C bg cj bj));have k:DI w ((w6.setCell ⟨B3,0,none⟩ (E co)).setCell ⟨B3,1,none⟩ (C bg cj bj)) [some (w.heap.size,.int x),some (w.heap.size+1,.int y),some (w.heap.size+1+1,.rat 0),some (B3,.int (0-((Int.gcd x y:Nat):Int)))]:=DI.putInt (M3.o.below ae) (i:=3) rfl az;rw[m]at k;rw[m];have f:=Z (k);clear M3;clear k m;clear n5 Qq i5 az ae;clear Qx;obtain⟨M,B,Qo⟩:=DY (show(0-((Int.gcd x y:Nat):Int))≠0 by have:=LA (x:=x) g.o;omega) (show(0-((Int.gcd x y:Nat):Int))=(if y<0 then -((Int.gcd x y:Nat):Int)else((Int.gcd x y:Nat):Int))by rw[BH K.o];omega) (show Sok (0-((Int.gcd x y:Nat):Int))by rw[Int.zero_sub];exact U.o.neg);obtain⟨s7,a7,l7,c7,n7,i7⟩:=f.o.int (i:=0) rfl;have Qm:=n7.ka;obtain⟨s8,a8,l8,c8,n8,i8⟩:=f.o.int (i:=1) rfl;have Ql:=n8.ka;obtain⟨s9,a9,l9,c9,n9,i9⟩:=f.o.int (i:=3) rfl;have Qn:=n9.ka;obtain⟨iz,gr,iu,gy,jc,b10,io,ic,c,r10,ig,ij⟩:=f.o.rat (i:=2) rfl;have Qa:=c.kb;have Qe:=c.fb;obtain⟨r,z,A⟩:=DY (λ(V:H) (h:Bl Q V)=>Gs _ _ x ((0-((Int.gcd x y:Nat):Int))) V (i7.below h) (i9.below h) M.o W.o Qo.o) (λ(V:H) (h:Bl Q V)=>Gs _ _ y ((0-((Int.gcd x y:Nat):Int))) V (i8.below h) (i9.below h) M.o X.o Qo.o) λ(V:H) (u v:D) (n:Ji V u (x/(0-((Int.gcd x y:Nat):Int)))) (hv:Ji V v (y/(0-((Int.gcd x y:Nat):Int))))=>Nd u v (Rat.divInt x y) V (by rw[Sg g.o,<-B.o];exact n) (by rw[Si g.o,<-B.o];exact hv);have Qv:=f.o.ne 0 2 rfl rfl DJ;have Qw:=f.o.ne 1 2 rfl rfl DJ;have Qu:=f.o.ne 3 2 rfl rfl DJ;have hq:Bl Q Q.drew:=(BD _ Q).drew;go_region_held3 (λw'=>(w'.cell? ⟨w.heap.size,0,none⟩=some (E s7)/\w'.cell? ⟨w.heap.size,1,none⟩=some (C a7 l7 c7))/\(w'.cell? ⟨w.heap.size+1,0,none⟩=some (E s8)/\w'.cell? ⟨w.heap.size+1,1,none⟩=some (C a8 l8 c8))/\w'.cell? ⟨B3,0,none⟩=some (E s9)/\w'.cell? ⟨B3,1,none⟩=some (C a9 l9 c9)) (first|grind|(go_keep;done)|grind[JP])
    (first
     |(go_at_call 156;refine(r.o _ hq).mono ?_;clear r;rintro e w2 ⟨u2,rfl,l,ap⟩;have hq:=Bt hq ap;have Qm:=(n7.below hq).ka;have Ql:=(n8.below hq).ka;have Qn:=(n9.below hq).ka;have Qa:=(c.below hq).kb;have Qe:=(c.below hq).fb)
     |(go_at_call 156;refine(z.o _ hq).mono ?_;clear z;rintro e w3 ⟨u3,rfl,ay,R⟩;have l:=l.below R;have hq:=Bt hq R;have Qm:=(n7.below hq).ka;have Ql:=(n8.below hq).ka;have Qn:=(n9.below hq).ka;have Qa:=(c.below hq).kb;have Qe:=(c.below hq).fb)
     |(go_at_call 157;refine(A.o _ _ _ l ay).mono ?_;clear A;rintro e w4 ⟨u4,rfl,T,aq⟩;obtain⟨gn,di,fx,ed,gq,dj,fh,ei,rfl⟩:=Jg.form T;have hq:=Bt hq aq;have Qm:=(n7.below hq).ka;have Ql:=(n8.below hq).ka;have Qn:=(n9.below hq).ka;have Qa:=(c.below hq).kb;have Qe:=(c.below hq).fb))
   all_goals go_wp2_with fail
   have Qk:=Bt f.o.2.2 hq;exact BC (by simp[results,Tryz.results93,go_sem,Qa]) rfl ⟨_,rfl,T.put4 (c.below hq) rfl rfl rfl rfl _ _ _ _,Jt Qk O _ _ _ _⟩
 . have K:=Z hn;clear hn;obtain⟨ja,gu,iw,ia,ck,bu⟩:=o.o.int (i:=1) rfl;have Qj:=ck.ka;have j:=Z (IQ _ _ y 0 V3 bu (ER _));rw[show XH y 0=1 from by have h1:=K.o;have h2:=g.o;unfold XH;omega]at j;go_upto_region 4 with(go_at_call 86;refine j.o.mono ?_;rintro e q ⟨rfl,S⟩)
   have M3:=Z (o.o.below S);clear o;clear ck Qj bu j S;have M:=Z (show((Int.gcd x y:Nat):Int)≠0 by have:=LA (x:=x) g.o;omega);have B:=Z (show((Int.gcd x y:Nat):Int)=(if y<0 then -((Int.gcd x y:Nat):Int)else((Int.gcd x y:Nat):Int))by rw[BG (by have:=K.o;omega)]);obtain⟨gh,de,fi,dt,ah,f9⟩:=M3.o.int (i:=0) rfl;have Qc:=ah.ka;obtain⟨gi,df,fm,dx,ai,fg⟩:=M3.o.int (i:=1) rfl;have Qf:=ai.ka;obtain⟨gj,dh,fo,dz,aj,bz⟩:=M3.o.int (i:=3) rfl;have Qh:=aj.ka;obtain⟨jb,gv,ix,ib,jd,gw,ir,ie,d,iy,ii,il⟩:=M3.o.rat (i:=2) rfl;have Qb:=d.kb;have Qg:=d.fb;obtain⟨r,z,A⟩:=DY (λ(V:H) (h:Bl q V)=>Gs _ _ x (((Int.gcd x y:Nat):Int)) V (f9.below h) (bz.below h) M.o W.o U.o) (λ(V:H) (h:Bl q V)=>Gs _ _ y (((Int.gcd x y:Nat):Int)) V (fg.below h) (bz.below h) M.o X.o U.o) λ(V:H) (u v:D) (n:Ji V u (x/((Int.gcd x y:Nat):Int))) (hv:Ji V v (y/((Int.gcd x y:Nat):Int)))=>Nd u v (Rat.divInt x y) V (by rw[Sg g.o,<-B.o];exact n) (by rw[Si g.o,<-B.o];exact hv);have Qv:=M3.o.ne 0 2 rfl rfl DJ;have Qw:=M3.o.ne 1 2 rfl rfl DJ;have Qu:=M3.o.ne 3 2 rfl rfl DJ;have hq:Bl q q.drew:=(BD _ q).drew;go_region_held3 (λw'=>(w'.cell? ⟨w.heap.size,0,none⟩=some (E gh)/\w'.cell? ⟨w.heap.size,1,none⟩=some (C de fi dt))/\(w'.cell? ⟨w.heap.size+1,0,none⟩=some (E gi)/\w'.cell? ⟨w.heap.size+1,1,none⟩=some (C df fm dx))/\w'.cell? ⟨B3,0,none⟩=some (E gj)/\w'.cell? ⟨B3,1,none⟩=some (C dh fo dz)) (first|grind|(go_keep;done)|grind[JP])
    (first
     |(go_at_call 156;refine(r.o _ hq).mono ?_;clear r;rintro e w2 ⟨u2,rfl,l,ap⟩;have hq:=Bt hq ap;have Qc:=(ah.below hq).ka;have Qf:=(ai.below hq).ka;have Qh:=(aj.below hq).ka;have Qb:=(d.below hq).kb;have Qg:=(d.below hq).fb)
     |(go_at_call 156;refine(z.o _ hq).mono ?_;clear z;rintro e w3 ⟨u3,rfl,ay,R⟩;have l:=l.below R;have hq:=Bt hq R;have Qc:=(ah.below hq).ka;have Qf:=(ai.below hq).ka;have Qh:=(aj.below hq).ka;have Qb:=(d.below hq).kb;have Qg:=(d.below hq).fb)
     |(go_at_call 157;refine(A.o _ _ _ l ay).mono ?_;clear A;rintro e w4 ⟨u4,rfl,T,aq⟩;obtain⟨gn,di,fx,ed,gq,dj,fh,ei,rfl⟩:=Jg.form T;have hq:=Bt hq aq;have Qc:=(ah.below hq).ka;have Qf:=(ai.below hq).ka;have Qh:=(aj.below hq).ka;have Qb:=(d.below hq).kb;have Qg:=(d.below hq).fb))
   all_goals go_wp2_with fail
   have Qk:=Bt M3.o.2.2 hq;exact BC (by simp[results,Tryz.results93,go_sem,Qb]) rfl ⟨_,rfl,T.put4 (d.below hq) rfl rfl rfl rfl _ _ _ _,Jt Qk O _ _ _ _⟩
def Nf(w:H)(s t i j:Bool)(a b a' e:Option Addr)(l c k d l' c' g f:Nat)(p q:Rat)(hp:Jg w (P #[E s,C a l c,E t,C b k d]) p)(hq:Jg w (P #[E i,C a' l' c',E j,C e g f]) q):
 DI w (((w.alloc (G #[E s,C a l c,E t,C b k d] 41)).alloc (G #[E i,C a' l' c',E j,C e g f] 41)).alloc (G #[E false,C none 0 0,E false,C none 0 0] 41)) [some (w.heap.size,.rat p),some (w.heap.size+1,.rat q),some (w.heap.size+1+1,.rat 0)]:=by
 have h:=(((DI.nil w).push (.rat p) hp).push (.rat q) (hq.below (Ba w _))).push (.rat 0) (Xx _);rw[Ax,Ax,Ax]at h;exact h
def iW(w:H)(s t i j:Bool)(a b a' e:Option Addr)(l c k d l' c' g f:Nat)(p q:Rat)(hp:Jg w (P #[E s,C a l c,E t,C b k d]) p)(hq:Jg w (P #[E i,C a' l' c',E j,C e g f]) q):
 DI w ((w.alloc (G #[E s,C a l c,E t,C b k d] 41)).alloc (G #[E i,C a' l' c',E j,C e g f] 41)) [some (w.heap.size,.rat p),some (w.heap.size+1,.rat q)]:=by
 have h:=((DI.nil w).push (.rat p) hp).push (.rat q) (hq.below (Ba w _));rw[Ax]at h;exact h
def Ng{q:Rat}(h:q.den=1):q=(q.num:Rat):=Rat.ext rfl h
def iX{p q:Rat}(hp:p.den=1)(hq:q.den=1):(p+q).num=p.num+q.num/\(p+q).den=1:=by
 have h:p+q=((p.num+q.num:Int):Rat):=by rw[Fe,<-Ng hp,<-Ng hq]
 rw[h];exact⟨rfl,rfl⟩
def iY{p q:Rat}(hp:p.den=1)(hq:q.den=1):(p*q).num=p.num*q.num/\(p*q).den=1:=by
 have h:p*q=((p.num*q.num:Int):Rat):=by rw[As,<-Ng hp,<-Ng hq]
 rw[h];exact⟨rfl,rfl⟩
def iZ(p q:Rat)(hp:Sq p)(hq:Sq q)(a lf rt ab b:Int)(c:((Int.gcd (p.den:Int) (q.den:Int):Nat):Int)=a)(j:(p.den:Int)/a=lf)(k:(q.den:Int)/a=rt)(l:p.num*rt+q.num*lf=ab)(d:((Int.gcd ab a:Nat):Int)=b):
 Sok a/\a≠0/\Sok lf/\Sok rt/\Sok ab/\Sok b/\b≠0/\Sok (p.num*rt)/\Sok (q.num*lf)/\(p+q).num=ab/b/\((p+q).den:Int)=lf*(q.den/b):=by
 have hl:=dK p q a lf rt ab b c.symm j.symm k.symm l.symm d.symm;have f:a≠0:=by rw[<-c];have:=LA (x:=(p.den:Int)) (y:=q.den) (by have:=q.den_nz;omega);omega
 have sc:Sok a:=by rw[<-c];exact hp.den.gcd hq.den
 have i:Sm 1000000000 lf:=by rw[<-j];exact hp.sm.2.div
 have g:Sm 1000000000 rt:=by rw[<-k];exact hq.sm.2.div
 have m:=hp.sm.1.mul g;have n:=hq.sm.1.mul i;have e:Sok ab:=by rw[<-l];exact Sok.of (m.add n) O
 refine⟨sc,f,Sok.of i O,Sok.of g O,e,by rw[<-d];exact e.gcd sc,?_,Sok.of m O,Sok.of n O,hl.1,hl.2⟩;rw[<-d];have:=LA (x:=ab) f;omega
theorem Kb(va vb:D)(p q:Rat)(w:H)(ha:Jg w va p)(U:Jg w vb q)(di:Sq p)(dj:Sq q):
 F I 104 #[va,vb] w λe w'=>∃u,e=.returned u/\Jg w' u (p+q)/\Bl w w':=by
 obtain⟨s,a,l,c,t,b,k,d,rfl⟩:=Jg.form ha;obtain⟨s',a',l',c',t',b',k',d',rfl⟩:=Jg.form U;have M0:=Nf w s t s' t' a b a' b' l c k d l' c' k' d' p q ha U;obtain⟨W0,bg⟩:=ex (((w.alloc (G #[E s,C a l c,E t,C b k d] 41)).alloc (G #[E s',C a' l' c',E t',C b' k' d'] 41)).alloc (G #[E false,C none 0 0,E false,C none 0 0] 41));have Qo:=Z bg;rw[bg]at M0;obtain⟨M1,HP,A⟩:=DY M0 di dj;clear M0 ha U bg di dj;go_enter Tryz.func104,Tryz.ntmps104
 go_upto_region 1 with fail
 rw[Qo.o];clear Qo;obtain⟨bb,co⟩:=ex (decide (p.den=1/\q.den=1):Bool);have Qh:=Z co;clear co;go_cut [15] λc w'=>c=E bb/\Hid (DI w w' [some (w.heap.size,.rat p),some (w.heap.size+1,.rat q),some (w.heap.size+1+1,.rat 0)])
 case first=>
  obtain⟨s1,a1,l1,c1,t1,b1,k1,d1,n1,r1,i1,j1⟩:=M1.o.rat (i:=0) rfl;have Qv:=n1.kb;obtain⟨s2,a2,l2,c2,t2,b2,k2,d2,n2,r2,i2,j2⟩:=M1.o.rat (i:=1) rfl;have Qx:=n2.kb;have z:=Z (K9 _ p W0 r1);have R:=Z λ(V:H) (h:Bl W0 V)=>K9 _ q V (r2.below h);by_cases M:p.den=1
  . rw[BK M]at z;obtain⟨b2,Q⟩:=ex (decide (q.den=1));rw[Q]at R;have Qk:=Z (show b2=bb by rw[<-Q,<-Qh.o];exact C0.2 ⟨λh=>⟨M,h⟩,λh=>h.2⟩);clear Q M;go_wp2_with(first
     |(go_at_call 64;refine z.o.mono ?_;clear z;rintro e w1 ⟨rfl,W⟩;have Qv:=(n1.below W).kb;have Qx:=(n2.below W).kb)
     |(go_at_call 64;refine(R.o _ W).mono ?_;clear R;rintro e w2 ⟨rfl,Q⟩))
    go_meet
    case rel=>exact⟨by rw[Qk.o],Z ((M1.o.below W).below Q)⟩
  . rw[BL M]at z;have Qk:=Z (show bb=false by rw[<-Qh.o];exact BL λh=>M h.1);clear M;go_wp2_with(go_at_call 64;refine z.o.mono ?_;clear z;rintro e w1 ⟨rfl,W⟩)
    go_meet
    case rel=>exact⟨by rw[Qk.o],Z (M1.o.below W)⟩
 obtain⟨rfl,g⟩:=hcut;have S:=g;clear M1 g;cases bb with
 |true=>
  have Qi:=BZ Qh.o;have HW:=Z (iX Qi.1 Qi.2);clear Qi Qh;obtain⟨s3,a3,l3,c3,t3,b3,k3,d3,n3,r3,i3,j3⟩:=S.o.rat (i:=0) rfl;have ix:=n3.kb;obtain⟨s4,a4,l4,c4,t4,b4,k4,d4,n4,r4,i4,j4⟩:=S.o.rat (i:=1) rfl;have iy:=n4.kb;obtain⟨s5,a5,l5,c5,t5,b5,k5,d5,n5,r5,i5,j5⟩:=S.o.rat (i:=2) rfl;have Qt:=n5.kb;have Qz:=n5.fb;go_wp2_with(go_at_call 39;refine(Lk _ _ p.num q.num _ i3 i4 (by have:=HP.o.num.words;omega) (by have:=A.o.num.words;omega)).mono ?_;rintro e w1 ⟨u,rfl,o,hq⟩;obtain⟨bj,am,bi,an,rfl⟩:=Ji.form2 o;have Qt:=(n5.below hq).kb;have Qz:=(n5.below hq).fb)
  have hr:=Jg.mk (by rw[HW.o.1];exact o) (by rw[NG.2 HW.o.2];exact ER _);have Ql:=Bt S.o.2.2 hq;exact BC (by simp[results,Tryz.results104,go_sem,Qt]) rfl ⟨_,rfl,hr.put4 (n5.below hq) rfl rfl rfl rfl _ _ _ _,Jt Ql O _ _ _ _⟩
 |false=>
  clear Qh;obtain⟨m,de⟩:=ex (((Int.gcd (p.den:Int) (q.den:Int):Nat):Int):Int);have Qs:=Z de;clear de;obtain⟨lf,df⟩:=ex ((p.den:Int)/m:Int);have Qq:=Z df;clear df;obtain⟨rt,dh⟩:=ex ((q.den:Int)/m:Int);have Qn:=Z dh;clear dh;obtain⟨ab,bz⟩:=ex (p.num*rt+q.num*lf:Int);have Qr:=Z bz;clear bz;obtain⟨x,ce⟩:=ex (((Int.gcd ab m:Nat):Int):Int);have Qp:=Z ce;clear ce;obtain⟨S1,S2,S3,S4,S5,S6,S7,S8,S9,bn,bu⟩:=iZ p q HP.o A.o m lf rt ab x Qs.o Qq.o Qn.o Qr.o Qp.o;obtain⟨T1,T2,T3,T4,T5,T6,T7,T8⟩:=IP S1 S2 S3 S4 S5 S6 S7 S8;obtain⟨T9,Qy,Qw⟩:=DY S9 bn bu;clear S1 S2 S3 S4 S5 S6 S7 S8 S9 bn bu;go_upto_region 3 with fail
  refine Yn Dd [[],[0],[],[2,1],[1,3,3],[],[5,4,4,0,1,2,3,4,5]] [.rat p,.int ((p.den:Int)),.rat q,.int ((q.den:Int)),.int m,.ptr,.eq N] [5,6] (λb v V=>DI w V [some (w.heap.size,.rat p),some (w.heap.size+1,.rat q),some (w.heap.size+1+1,.rat 0),nb b v 0 1 (.int 0) (.int m)]) (S.o.none).drew (SR (.vl rfl λ_ j=>EC 0 j)<|SR (.cl λh _=>FU _ p _ (h.g 0))<|SR (.vl rfl λ_ j=>EC 1 j)<|SR (.cl λh _=>FU _ q _ (h.g 2))<|SR (.cl λh _=>(by have h:=Ka _ _ (p.den:Int) (q.den:Int) _ (h.g 1) (h.g 3) (by have:=HP.o.den.words;omega) (by have:=A.o.den.words;omega);rw[Qs.o]at h;exact h))<|SR (.wr rfl λ_ j=>GK 3 j)<|SR (.wr rfl λh j=>Et 3 j (h.g 4) (hp:=h.g 5)) Stp.end_)
   λf V7 hF g=>?_
  refine DO ?_;obtain⟨B8,az⟩:=hF.p 5;have g:=Dn g;simp only[az]at g;rw[az];have M3:=Z g;clear g hF az;clear S;go_upto_region 4 with fail
  refine Yn Dd [[],[0],[],[1,2,1],[],[4,3],[],[5,6,5],[],[],[8,3,7,0,1,2,3,8,9],[9,7,10,0,1,2,3,4,5,6,7,8,9,10]] [.rat p,.int ((p.den:Int)),.int m,.int lf,.rat q,.int ((q.den:Int)),.int m,.int rt,.ptr,.ptr,.eq N,.eq N] [8,9,10,11] (λb v V=>DI w V [some (w.heap.size,.rat p),some (w.heap.size+1,.rat q),some (w.heap.size+1+1,.rat 0),some (B8,.int m),nb b v 0 2 (.int 0) (.int lf),nb b v 1 3 (.int 0) (.int rt)]) ((M3.o.none).none).drew (SR (.vl rfl λ_ j=>EC 0 j)<|SR (.cl λh _=>FU _ p _ (h.g 0))<|SR (.vl rfl λ_ j=>Ek 3 j)<|SR (.cl λh _=>(by have h:=Gs _ _ (p.den:Int) m _ (h.g 1) (h.g 2) T2.o HP.o.den T1.o;rw[Qq.o]at h;exact h))<|SR (.vl rfl λ_ j=>EC 1 j)<|SR (.cl λh _=>FU _ q _ (h.g 4))<|SR (.vl rfl λ_ j=>Ek 3 j)<|SR (.cl λh _=>(by have h:=Gs _ _ (q.den:Int) m _ (h.g 5) (h.g 6) T2.o A.o.den T1.o;rw[Qn.o]at h;exact h))<|SR (.wr rfl λ_ j=>GK 4 j)<|SR (.wr rfl λ_ j=>GK 5 j)<|SR (.wr rfl λh j=>Et 4 j (h.g 3) (hp:=h.g 8))<|SR (.wr rfl λh j=>Et 5 j (h.g 7) (hp:=h.g 9)) Stp.end_)
   λf iz hF g=>?_
  refine DO ?_;obtain⟨B11,ap⟩:=hF.p 8;obtain⟨B12,aq⟩:=hF.p 9;have g:=Dn g;simp only[ap,aq]at g;rw[ap,aq];have M4:=Z g;clear g hF ap aq;clear M3;go_upto_region 5 with fail
  refine Yn Dd [[],[0],[],[1,2],[],[4],[],[5,6,3],[3,7,7],[],[9,8,8,0,1,2,3,4,5,6,7,8,9]] [.eq (L (some ⟨w.heap.size,0,none⟩)),.int (Rat.num (p)),.int rt,.int (p.num*rt),.eq (L (some ⟨w.heap.size+1,0,none⟩)),.int (Rat.num (q)),.int lf,.int (q.num*lf),.int ab,.ptr,.eq N] [9,10] (λb v V=>DI w V [some (w.heap.size,.rat p),some (w.heap.size+1,.rat q),some (w.heap.size+1+1,.rat 0),some (B8,.int m),some (B11,.int lf),some (B12,.int rt),nb b v 0 1 (.int 0) (.int ab)]) (M4.o.none).drew (SR (.vl rfl λ_ _=>⟨_,by refine DO ?_;go_simp,rfl⟩)<|SR (.vl rfl λh j=>K8 0 j (hp:=h.e 0))<|SR (.vl rfl λ_ j=>Ek 5 j)<|SR (.cl λh _=>YO _ _ p.num rt _ (h.g 1) (h.g 2) (by have:=HP.o.num.words;have:=T4.o.words;omega))<|SR (.vl rfl λ_ _=>⟨_,by refine DO ?_;go_simp,rfl⟩)<|SR (.vl rfl λh j=>K8 1 j (hp:=h.e 4))<|SR (.vl rfl λ_ j=>Ek 4 j)<|SR (.cl λh _=>YO _ _ q.num lf _ (h.g 5) (h.g 6) (by have:=A.o.num.words;have:=T3.o.words;omega))<|SR (.cl λh _=>(by have h:=Lk _ _ (p.num*rt) (q.num*lf) _ (h.g 3) (h.g 7) (by have:=T8.o.words;omega) (by have:=T9.o.words;omega);rw[Qr.o]at h;exact h))<|SR (.wr rfl λ_ j=>GK 6 j)<|SR (.wr rfl λh j=>Et 6 j (h.g 8) (hp:=h.g 9)) Stp.end_)
   λf fg hF g=>?_
  refine DO ?_;rw[hF.e 0,hF.e 4];obtain⟨aj,ay⟩:=hF.p 9;have g:=Dn g;simp only[ay]at g;rw[ay];have M5:=Z g;clear g hF ay;clear M4;go_upto_region 6 with fail
  obtain⟨kf,ja,jt,jg,ei,dx⟩:=M5.o.int (i:=6) rfl;have Qj:=ei.ka;obtain⟨kg,jb,ju,jh,f9,dz⟩:=M5.o.int (i:=3) rfl;have Qm:=f9.ka;have HC:=Z (Ka _ _ ab m fg dx dz (by have:=T5.o.words;omega) (by have:=T1.o.words;omega));rw[Qp.o]at HC;go_upto_region 7 with(go_at_call 155;refine HC.o.mono ?_;clear HC;rintro e w1 ⟨u,rfl,o,U⟩;obtain⟨bj,am,bi,an,rfl⟩:=Ji.form2 o)
  obtain⟨K,hV⟩:=ex (w1.alloc (G #[E bj,C am bi an] 39));obtain⟨bm,bf⟩:=ex (w1.heap.size);have g:DI w (w1.alloc (G #[E bj,C am bi an] 39)) [some (w.heap.size,.rat p),some (w.heap.size+1,.rat q),some (w.heap.size+1+1,.rat 0),some (B8,.int m),some (B11,.int lf),some (B12,.int rt),some (aj,.int ab),some (w1.heap.size,.int x)]:=DI.push (M5.o.below U) (.int x) o;rw[hV,bf]at g;rw[hV];rw[bf];have r:=Z (g);clear M5;clear g hV bf;clear ei Qj dx f9 Qm dz o U;obtain⟨il,fh,ic,gh,X,gy⟩:=r.o.int (i:=6) rfl;have Qe:=X.ka;obtain⟨io,fi,ie,gi,ae,ed⟩:=r.o.int (i:=7) rfl;have Qb:=ae.ka;obtain⟨ir,fm,ig,gj,ah,ia⟩:=r.o.int (i:=4) rfl;have Qf:=ah.ka;obtain⟨iu,fo,ii,gn,iw,fx,ib,gq,ai,ij,jn,jp⟩:=r.o.rat (i:=1) rfl;have Qc:=ai.kb;obtain⟨kh,jc,jw,ji,kj,je,jr,jk,n,ke,jo,jq⟩:=r.o.rat (i:=2) rfl;have T:=n.kb;have Qd:=n.fb;obtain⟨z,R,H3,H4,H5⟩:=IL (λ(V:H) (h:Bl K V)=>Gs _ _ ab x V (gy.below h) (ed.below h) T7.o T5.o T6.o) (λ(V:H) (h:Bl K V)=>FU _ q V (ij.below h)) (λ(V:H) (u:D) (h:Bl K V) (o:Ji V u (q.den:Int))=>Gs u _ (q.den:Int) x V o (ed.below h) T7.o A.o.den T6.o) (λ(V:H) (u:D) (h:Bl K V) (o:Ji V u ((q.den:Int)/x))=>YO _ u lf ((q.den:Int)/x) V (ia.below h) o (by have M:=T3.o.words;have h2:=(Sok.div (y:=x) A.o.den).words;omega)) λ(V:H) (u v:D) (o:Ji V u (ab/x)) (hv:Ji V v (lf*((q.den:Int)/x)))=>Nd u v (p+q) V (by rw[Qy.o];exact o) (by rw[Qw.o];exact hv);have kc:=r.o.ne 6 2 rfl rfl DJ;have kd:=r.o.ne 7 2 rfl rfl DJ;have jz:=r.o.ne 4 2 rfl rfl DJ;have jy:=r.o.ne 1 2 rfl rfl DJ;have hq:Bl K K.drew:=(BD _ K).drew;go_region_held3 (λw'=>(w'.cell? ⟨aj,0,none⟩=some (E il)/\w'.cell? ⟨aj,1,none⟩=some (C fh ic gh))/\(w'.cell? ⟨bm,0,none⟩=some (E io)/\w'.cell? ⟨bm,1,none⟩=some (C fi ie gi))/\(w'.cell? ⟨B11,0,none⟩=some (E ir)/\w'.cell? ⟨B11,1,none⟩=some (C fm ig gj))/\w'.cell? ⟨w.heap.size+1,0,none⟩=some (E iu)/\w'.cell? ⟨w.heap.size+1,1,none⟩=some (C fo ii gn)/\w'.cell? ⟨w.heap.size+1,2,none⟩=some (E iw)/\w'.cell? ⟨w.heap.size+1,3,none⟩=some (C fx ib gq)) (first|grind|(go_keep;done)|((repeat' apply And.intro)<;>((repeat rw[JP O]);grind)))
   (first
    |(go_at_call 156;refine(z.o _ hq).mono ?_;clear z;rintro e w2 ⟨u2,rfl,B,Q⟩;have hq:=Bt hq Q;have Qe:=(X.below hq).ka;have Qb:=(ae.below hq).ka;have Qf:=(ah.below hq).ka;have Qc:=(ai.below hq).kb;have T:=(n.below hq).kb;have Qd:=(n.below hq).fb)
    |(go_at_call 88;refine(R.o _ hq).mono ?_;clear R;rintro e w3 ⟨u3,rfl,gu,cj⟩;have B:=B.below cj;have hq:=Bt hq cj;have Qe:=(X.below hq).ka;have Qb:=(ae.below hq).ka;have Qf:=(ah.below hq).ka;have Qc:=(ai.below hq).kb;have T:=(n.below hq).kb;have Qd:=(n.below hq).fb)
    |(go_at_call 156;refine(H3.o _ _ hq gu).mono ?_;clear H3;rintro e w4 ⟨u4,rfl,gv,ck⟩;have B:=B.below ck;have hq:=Bt hq ck;have Qe:=(X.below hq).ka;have Qb:=(ae.below hq).ka;have Qf:=(ah.below hq).ka;have Qc:=(ai.below hq).kb;have T:=(n.below hq).kb;have Qd:=(n.below hq).fb)
    |(go_at_call 87;refine(H4.o _ _ hq gv).mono ?_;clear H4;rintro e w5 ⟨u5,rfl,gw,cn⟩;have B:=B.below cn;have hq:=Bt hq cn;have Qe:=(X.below hq).ka;have Qb:=(ae.below hq).ka;have Qf:=(ah.below hq).ka;have Qc:=(ai.below hq).kb;have T:=(n.below hq).kb;have Qd:=(n.below hq).fb)
    |(go_at_call 157;refine(H5.o _ _ _ B gw).mono ?_;clear H5;rintro e w6 ⟨u6,rfl,dt,gr⟩;obtain⟨ki,jd,jx,jj,km,jf,js,jl,rfl⟩:=Jg.form dt;have hq:=Bt hq gr;have Qe:=(X.below hq).ka;have Qb:=(ae.below hq).ka;have Qf:=(ah.below hq).ka;have Qc:=(ai.below hq).kb;have T:=(n.below hq).kb;have Qd:=(n.below hq).fb))
  all_goals go_wp2_with fail
  have Ql:=Bt r.o.2.2 hq;have Qu:=r.o.ge 2 rfl;exact BC (by simp[results,Tryz.results104,go_sem,T]) rfl ⟨_,rfl,dt.put4 (n.below hq) rfl rfl rfl rfl _ _ _ _,Jt Ql Qu _ _ _ _⟩
def ik(p q:Rat)(hp:Sq p)(hq:Sq q)(a up x y:Int)(b:((Int.gcd p.num (q.den:Int):Nat):Int)=a)(c:((Int.gcd q.num (p.den:Int):Nat):Int)=up)(d:p.num/a=x)(e:q.num/up=y):
 Sok a/\a≠0/\Sok up/\up≠0/\Sok x/\Sok y/\(p*q).num=x*y/\((p*q).den:Int)=p.den/up*(q.den/a):=by
 have hl:=dL p q a up b.symm c.symm;have g:a≠0:=by rw[<-b];have:=LA (x:=p.num) (y:=q.den) (by have:=q.den_nz;omega);omega
 have f:up≠0:=by rw[<-c];have:=LA (x:=q.num) (y:=p.den) (by have:=p.den_nz;omega);omega
 refine⟨by rw[<-b];exact hp.num.gcd hq.den,g,by rw[<-c];exact hq.num.gcd hp.den,f,by rw[<-d];exact hp.num.div,by rw[<-e];exact hq.num.div,?_,hl.2⟩;rw[hl.1,d,e]
theorem Kc(va vb:D)(p q:Rat)(w:H)(ha:Jg w va p)(hb:Jg w vb q)(bm:Sq p)(bn:Sq q):
 F I 78 #[va,vb] w λe w'=>∃u,e=.returned u/\Jg w' u (p*q)/\Bl w w':=by
 obtain⟨s,a,l,c,t,b,k,d,rfl⟩:=Jg.form ha;obtain⟨s',a',l',c',t',b',k',d',rfl⟩:=Jg.form hb;have M0:=Nf w s t s' t' a b a' b' l c k d l' c' k' d' p q ha hb;obtain⟨W0,ay⟩:=ex (((w.alloc (G #[E s,C a l c,E t,C b k d] 41)).alloc (G #[E s',C a' l' c',E t',C b' k' d'] 41)).alloc (G #[E false,C none 0 0,E false,C none 0 0] 41));have Ql:=Z ay;rw[ay]at M0;obtain⟨M1,K,M⟩:=DY M0 bm bn;clear M0 ha hb ay bm bn;go_enter Tryz.func78,Tryz.ntmps78
 go_upto_region 1 with fail
 rw[Ql.o];clear Ql;obtain⟨bb,bi⟩:=ex (decide (p.den=1/\q.den=1):Bool);have Qh:=Z bi;clear bi;go_cut [13] λc w'=>c=E bb/\Hid (DI w w' [some (w.heap.size,.rat p),some (w.heap.size+1,.rat q),some (w.heap.size+1+1,.rat 0)])
 case first=>
  obtain⟨s1,a1,l1,c1,t1,b1,k1,d1,n1,r1,i1,j1⟩:=M1.o.rat (i:=0) rfl;have Qr:=n1.kb;obtain⟨s2,a2,l2,c2,t2,b2,k2,d2,n2,r2,i2,j2⟩:=M1.o.rat (i:=1) rfl;have Qs:=n2.kb;have H1:=Z (K9 _ p W0 r1);have H2:=Z λ(V:H) (h:Bl W0 V)=>K9 _ q V (r2.below h);by_cases B:p.den=1
  . rw[BK B]at H1;obtain⟨b2,S⟩:=ex (decide (q.den=1));rw[S]at H2;have Qj:=Z (show b2=bb by rw[<-S,<-Qh.o];exact C0.2 ⟨λh=>⟨B,h⟩,λh=>h.2⟩);clear S B;go_wp2_with(first
     |(go_at_call 64;refine H1.o.mono ?_;clear H1;rintro e w1 ⟨rfl,ah⟩;have Qr:=(n1.below ah).kb;have Qs:=(n2.below ah).kb)
     |(go_at_call 64;refine(H2.o _ ah).mono ?_;clear H2;rintro e w2 ⟨rfl,S⟩))
    go_meet
    case rel=>exact⟨by rw[Qj.o],Z ((M1.o.below ah).below S)⟩
  . rw[BL B]at H1;have Qj:=Z (show bb=false by rw[<-Qh.o];exact BL λh=>B h.1);clear B;go_wp2_with(go_at_call 64;refine H1.o.mono ?_;clear H1;rintro e w1 ⟨rfl,ah⟩)
    go_meet
    case rel=>exact⟨by rw[Qj.o],Z (M1.o.below ah)⟩
 obtain⟨rfl,m⟩:=hcut;have M2:=m;clear M1 m;cases bb with
 |true=>
  have Qi:=BZ Qh.o;have HW:=Z (iY Qi.1 Qi.2);clear Qi Qh;obtain⟨s3,a3,l3,c3,t3,b3,k3,d3,n3,r3,i3,j3⟩:=M2.o.rat (i:=0) rfl;have ia:=n3.kb;obtain⟨s4,a4,l4,c4,t4,b4,k4,d4,n4,r4,i4,j4⟩:=M2.o.rat (i:=1) rfl;have ib:=n4.kb;obtain⟨s5,a5,l5,c5,t5,b5,k5,d5,n5,r5,i5,j5⟩:=M2.o.rat (i:=2) rfl;have Qp:=n5.kb;have Qt:=n5.fb;go_wp2_with(go_at_call 87;refine(YO _ _ p.num q.num _ i3 i4 (by have B:=K.o.num.words;have h2:=M.o.num.words;omega)).mono ?_;rintro e w1 ⟨u,rfl,hu,hq⟩;obtain⟨jq,ie,jg,io,rfl⟩:=Ji.form2 hu;have Qp:=(n5.below hq).kb;have Qt:=(n5.below hq).fb)
  have hr:=Jg.mk (by rw[HW.o.1];exact hu) (by rw[NG.2 HW.o.2];exact ER _);have Qk:=Bt M2.o.2.2 hq;exact BC (by simp[results,Tryz.results78,go_sem,Qp]) rfl ⟨_,rfl,hr.put4 (n5.below hq) rfl rfl rfl rfl _ _ _ _,Jt Qk O _ _ _ _⟩
 |false=>
  clear Qh;obtain⟨r,bj⟩:=ex (((Int.gcd p.num (q.den:Int):Nat):Int):Int);have Qm:=Z bj;clear bj;obtain⟨up,bu⟩:=ex (((Int.gcd q.num (p.den:Int):Nat):Int):Int);have Qn:=Z bu;clear bu;obtain⟨x,hx⟩:=ex (p.num/r:Int);have HX:=Z hx;clear hx;obtain⟨y,hy⟩:=ex (q.num/up:Int);have HY:=Z hy;clear hy;obtain⟨S1,S2,S3,S4,S5,S6,S7,S8⟩:=ik p q K.o M.o r up x y Qm.o Qn.o HX.o HY.o;obtain⟨T1,T2,T3,T4,T5,T6,T7,T8⟩:=IP S1 S2 S3 S4 S5 S6 S7 S8;clear S1 S2 S3 S4 S5 S6 S7 S8;go_upto_region 3 with fail
  refine Yn Dd [[],[0],[],[2],[1,3,3],[],[5],[],[7,4],[6,8,8],[],[],[10,4,9,0,1,2,3,4,10,11],[11,9,12,0,1,2,3,4,5,6,7,8,9,10,11,12]] [.eq (L (some ⟨w.heap.size,0,none⟩)),.int (Rat.num (p)),.rat q,.int ((q.den:Int)),.int r,.eq (L (some ⟨w.heap.size+1,0,none⟩)),.int (Rat.num (q)),.rat p,.int ((p.den:Int)),.int up,.ptr,.ptr,.eq N,.eq N] [10,11,12,13] (λb v V=>DI w V [some (w.heap.size,.rat p),some (w.heap.size+1,.rat q),some (w.heap.size+1+1,.rat 0),nb b v 0 2 (.int 0) (.int r),nb b v 1 3 (.int 0) (.int up)]) ((M2.o.none).none).drew (SR (.vl rfl λ_ _=>⟨_,by refine DO ?_;go_simp,rfl⟩)<|SR (.vl rfl λh j=>K8 0 j (hp:=h.e 0))<|SR (.vl rfl λ_ j=>EC 1 j)<|SR (.cl λh _=>FU _ q _ (h.g 2))<|SR (.cl λh _=>(by have h:=Ka _ _ p.num (q.den:Int) _ (h.g 1) (h.g 3) (by have:=K.o.num.words;omega) (by have:=M.o.den.words;omega);rw[Qm.o]at h;exact h))<|SR (.vl rfl λ_ _=>⟨_,by refine DO ?_;go_simp,rfl⟩)<|SR (.vl rfl λh j=>K8 1 j (hp:=h.e 5))<|SR (.vl rfl λ_ j=>EC 0 j)<|SR (.cl λh _=>FU _ p _ (h.g 7))<|SR (.cl λh _=>(by have h:=Ka _ _ q.num (p.den:Int) _ (h.g 6) (h.g 8) (by have:=M.o.num.words;omega) (by have:=K.o.den.words;omega);rw[Qn.o]at h;exact h))<|SR (.wr rfl λ_ j=>GK 3 j)<|SR (.wr rfl λ_ j=>GK 4 j)<|SR (.wr rfl λh j=>Et 3 j (h.g 4) (hp:=h.g 10))<|SR (.wr rfl λh j=>Et 4 j (h.g 9) (hp:=h.g 11)) Stp.end_)
   λf V7 hF m=>?_
  refine DO ?_;rw[hF.e 0,hF.e 5];obtain⟨B8,ap⟩:=hF.p 10;obtain⟨B9,aq⟩:=hF.p 11;have m:=Dn m;simp only[ap,aq]at m;rw[ap,aq];have M3:=Z m;clear m hF ap aq;clear M2;go_upto_region 4 with fail
  refine Yn Dd [[],[0],[],[1,2],[],[4],[],[5,6,3],[3,7,7],[],[9,8,8,0,1,2,3,4,5,6,7,8,9]] [.eq (L (some ⟨w.heap.size,0,none⟩)),.int (Rat.num (p)),.int r,.int x,.eq (L (some ⟨w.heap.size+1,0,none⟩)),.int (Rat.num (q)),.int up,.int y,.int (x*y),.ptr,.eq N] [9,10] (λb v V=>DI w V [some (w.heap.size,.rat p),some (w.heap.size+1,.rat q),some (w.heap.size+1+1,.rat 0),some (B8,.int r),some (B9,.int up),nb b v 0 1 (.int 0) (.int (x*y))]) (M3.o.none).drew (SR (.vl rfl λ_ _=>⟨_,by refine DO ?_;go_simp,rfl⟩)<|SR (.vl rfl λh j=>K8 0 j (hp:=h.e 0))<|SR (.vl rfl λ_ j=>Ek 3 j)<|SR (.cl λh _=>(by have h:=Gs _ _ p.num r _ (h.g 1) (h.g 2) T2.o K.o.num T1.o;rw[HX.o]at h;exact h))<|SR (.vl rfl λ_ _=>⟨_,by refine DO ?_;go_simp,rfl⟩)<|SR (.vl rfl λh j=>K8 1 j (hp:=h.e 4))<|SR (.vl rfl λ_ j=>Ek 4 j)<|SR (.cl λh _=>(by have h:=Gs _ _ q.num up _ (h.g 5) (h.g 6) T4.o M.o.num T3.o;rw[HY.o]at h;exact h))<|SR (.cl λh _=>YO _ _ x y _ (h.g 3) (h.g 7) (by have:=T5.o.words;have:=T6.o.words;omega))<|SR (.wr rfl λ_ j=>GK 5 j)<|SR (.wr rfl λh j=>Et 5 j (h.g 8) (hp:=h.g 9)) Stp.end_)
   λf z hF m=>?_
  refine DO ?_;rw[hF.e 0,hF.e 4];obtain⟨B12,an⟩:=hF.p 9;have m:=Dn m;simp only[an]at m;rw[an];have n:=Z m;clear m hF an;clear M3;go_upto_region 5 with fail
  obtain⟨gn,bz,fi,df,T,ed⟩:=n.o.int (i:=5) rfl;have Qb:=T.ka;obtain⟨gq,ce,fm,dh,gw,co,fg,dx,U,gi,ix,ja⟩:=n.o.rat (i:=0) rfl;have Qf:=U.kb;obtain⟨gr,cj,fo,di,W,ei⟩:=n.o.int (i:=4) rfl;have Qd:=W.ka;obtain⟨gu,ck,fx,dj,gy,de,fh,dz,X,gj,iy,jb⟩:=n.o.rat (i:=1) rfl;have Qc:=X.kb;obtain⟨gv,cn,gh,dt,ae,f9⟩:=n.o.int (i:=3) rfl;have Qe:=ae.ka;obtain⟨jp,ic,jf,il,js,ii,jd,iu,g,jo,iz,jc⟩:=n.o.rat (i:=2) rfl;have Q:=g.kb;have Qg:=g.fb;obtain⟨H2,H4,H6,H8,H9,Qo⟩:=IM (λ(V:H) (h:Bl z V)=>FU _ p V (gi.below h)) (λ(V:H) (h:Bl z V) (v2:D) (o:Ji V v2 ((p.den:Int)))=>Gs _ _ (p.den:Int) up V o (ei.below h) T4.o K.o.den T3.o) (λ(V:H) (h:Bl z V)=>FU _ q V (gj.below h)) (λ(V:H) (h:Bl z V) (v6:D) (A:Ji V v6 ((q.den:Int)))=>Gs _ _ (q.den:Int) r V A (f9.below h) T2.o M.o.den T1.o) (λ(V:H) (h:Bl z V) (v4:D) (g4:Ji V v4 ((p.den:Int)/up)) (v8:D) (R:Ji V v8 ((q.den:Int)/r))=>YO _ _ ((p.den:Int)/up) ((q.den:Int)/r) V g4 R (by have B:=(Sok.div (y:=up) K.o.den).words;have h2:=(Sok.div (y:=r) M.o.den).words;omega)) λ(V:H) (h:Bl z V) (v9:D) (g9:Ji V v9 ((p.den:Int)/up*((q.den:Int)/r)))=>Nd _ _ (p*q) V (by rw[T7.o];exact(ed.below h)) (by rw[T8.o];exact g9);have jn:=n.o.ne 5 2 rfl rfl DJ;have ji:=n.o.ne 0 2 rfl rfl DJ;have jl:=n.o.ne 4 2 rfl rfl DJ;have jj:=n.o.ne 1 2 rfl rfl DJ;have jk:=n.o.ne 3 2 rfl rfl DJ;have hq:Bl z z.drew:=(BD _ z).drew;go_region_held3 (λw'=>(w'.cell? ⟨B12,0,none⟩=some (E gn)/\w'.cell? ⟨B12,1,none⟩=some (C bz fi df))/\(w'.cell? ⟨w.heap.size,0,none⟩=some (E gq)/\w'.cell? ⟨w.heap.size,1,none⟩=some (C ce fm dh)/\w'.cell? ⟨w.heap.size,2,none⟩=some (E gw)/\w'.cell? ⟨w.heap.size,3,none⟩=some (C co fg dx))/\(w'.cell? ⟨B9,0,none⟩=some (E gr)/\w'.cell? ⟨B9,1,none⟩=some (C cj fo di))/\(w'.cell? ⟨w.heap.size+1,0,none⟩=some (E gu)/\w'.cell? ⟨w.heap.size+1,1,none⟩=some (C ck fx dj)/\w'.cell? ⟨w.heap.size+1,2,none⟩=some (E gy)/\w'.cell? ⟨w.heap.size+1,3,none⟩=some (C de fh dz))/\w'.cell? ⟨B8,0,none⟩=some (E gv)/\w'.cell? ⟨B8,1,none⟩=some (C cn gh dt)) (first|grind|(go_keep;done)|((repeat' apply And.intro)<;>((repeat rw[JP O]);grind)))
   (first
    |(go_at_call 88;refine(H2.o _ hq ).mono ?_;clear H2;rintro e w2 ⟨v2,rfl,o,S⟩;have hq:=Bt hq S;have Qb:=(T.below hq).ka;have Qf:=(U.below hq).kb;have Qd:=(W.below hq).ka;have Qc:=(X.below hq).kb;have Qe:=(ae.below hq).ka;have Q:=(g.below hq).kb;have Qg:=(g.below hq).fb)
    |(go_at_call 156;refine(H4.o _ hq _ o).mono ?_;clear H4;rintro e w4 ⟨v4,rfl,g4,bg⟩;have o:=o.below bg;have hq:=Bt hq bg;have Qb:=(T.below hq).ka;have Qf:=(U.below hq).kb;have Qd:=(W.below hq).ka;have Qc:=(X.below hq).kb;have Qe:=(ae.below hq).ka;have Q:=(g.below hq).kb;have Qg:=(g.below hq).fb)
    |(go_at_call 88;refine(H6.o _ hq ).mono ?_;clear H6;rintro e w6 ⟨v6,rfl,A,az⟩;have o:=o.below az;have g4:=g4.below az;have hq:=Bt hq az;have Qb:=(T.below hq).ka;have Qf:=(U.below hq).kb;have Qd:=(W.below hq).ka;have Qc:=(X.below hq).kb;have Qe:=(ae.below hq).ka;have Q:=(g.below hq).kb;have Qg:=(g.below hq).fb)
    |(go_at_call 156;refine(H8.o _ hq _ A).mono ?_;clear H8;rintro e w8 ⟨v8,rfl,R,am⟩;have o:=o.below am;have g4:=g4.below am;have A:=A.below am;have hq:=Bt hq am;have Qb:=(T.below hq).ka;have Qf:=(U.below hq).kb;have Qd:=(W.below hq).ka;have Qc:=(X.below hq).kb;have Qe:=(ae.below hq).ka;have Q:=(g.below hq).kb;have Qg:=(g.below hq).fb)
    |(go_at_call 87;refine(H9.o _ hq _ g4 _ R).mono ?_;clear H9;rintro e w9 ⟨v9,rfl,g9,aj⟩;have o:=o.below aj;have g4:=g4.below aj;have A:=A.below aj;have R:=R.below aj;have hq:=Bt hq aj;have Qb:=(T.below hq).ka;have Qf:=(U.below hq).kb;have Qd:=(W.below hq).ka;have Qc:=(X.below hq).kb;have Qe:=(ae.below hq).ka;have Q:=(g.below hq).kb;have Qg:=(g.below hq).fb)
    |(go_at_call 157;refine(Qo.o _ hq _ g9).mono ?_;clear Qo;rintro e jw ⟨ju,rfl,bf,ai⟩;obtain⟨jr,ig,jh,ir,jt,ij,je,iw,rfl⟩:=Jg.form bf;have o:=o.below ai;have g4:=g4.below ai;have A:=A.below ai;have R:=R.below ai;have g9:=g9.below ai;have hq:=Bt hq ai;have Qb:=(T.below hq).ka;have Qf:=(U.below hq).kb;have Qd:=(W.below hq).ka;have Qc:=(X.below hq).kb;have Qe:=(ae.below hq).ka;have Q:=(g.below hq).kb;have Qg:=(g.below hq).fb))
  all_goals go_wp2_with fail
  have Qk:=Bt n.o.2.2 hq;have Qq:=n.o.ge 2 rfl;exact BC (by simp[results,Tryz.results78,go_sem,Q]) rfl ⟨_,rfl,bf.put4 (g.below hq) rfl rfl rfl rfl _ _ _ _,Jt Qk Qq _ _ _ _⟩
def IV(S T:D)(x y:Int)(w:H)(r:Ji w S x)(v:Ji w T y)(A:Sok x)(B:Sok y):
 F I 38 #[S,T] w λe w'=>∃u,e=.returned (.tuple #[u,E (decide (y≠0))])/\Jg w' u (Rat.divInt x y)/\Bl w w':=by
 have W:=Z A;have X:=Z B;clear A B;obtain⟨s,a,la,ca,rfl⟩:=Ji.form2 r;obtain⟨t,b,lb,cb,rfl⟩:=Ji.form2 v;have m:=Px w s t a b la ca lb cb _ _ r v;obtain⟨W0,q⟩:=ex (((w.alloc (G #[E s,C a la ca] 39)).alloc (G #[E t,C b lb cb] 39)).alloc (G #[E false,C none 0 0,E false,C none 0 0] 41));have z:=Z q;rw[q]at m;have f:=Z m;clear m r v q;obtain⟨s1,a1,l1,c1,Q,i1⟩:=f.o.int (i:=0) rfl;have Qf:=Q.ka;obtain⟨s2,a2,l2,c2,R,M⟩:=f.o.int (i:=1) rfl;have Qg:=R.ka;obtain⟨s3,a3,l3,c3,t3,b3,k3,d3,d,r3,i3,j3⟩:=f.o.rat (i:=2) rfl;have j:=d.kb;have n:=d.fb;have k:=Z (UG _ y W0 M);have g:=Z λ(V:H) (h:Bl W0 V) (c:y≠0)=>UJ _ _ x y V (i1.below h) (M.below h) c W.o X.o;by_cases c:y=0
 . rw[BK c]at k;have l:=Z (BL (p:=y≠0) λh=>h c);rw[l.o];have U:=Z (show Rat.divInt x y=0 by rw[c,Rat.divInt_zero]);clear c g;go_enter Tryz.func38,Tryz.ntmps38
   go_upto_region 1 with fail
   rw[z.o];go_wp2_with(go_at_call 99;refine k.o.mono ?_;rintro e w1 ⟨rfl,hq⟩;have j:=(d.below hq).kb;have n:=(d.below hq).fb)
   have hr:Jg w1 (P #[E false,C none 0 0,E false,C none 0 0]) (Rat.divInt x y):=by rw[U.o];exact Xx _
   have o:=Bt f.o.2.2 hq;exact BC (by simp[results,Tryz.results38,go_sem,j]) rfl ⟨_,rfl,hr.put4 (d.below hq) rfl rfl rfl rfl _ _ _ _,Jt o O _ _ _ _⟩
 . rw[BL c]at k;have l:=Z (BK (p:=y≠0) c);rw[l.o];have g:=Z λV h=>g.o V h c;clear c;go_enter Tryz.func38,Tryz.ntmps38
   go_upto_region 1 with fail
   rw[z.o];go_wp2_with(first
    |(go_at_call 99;refine k.o.mono ?_;rintro e w1 ⟨rfl,hq⟩;have Qf:=(Q.below hq).ka;have Qg:=(R.below hq).ka;have j:=(d.below hq).kb;have n:=(d.below hq).fb)
    |(go_at_call 93;refine(g.o _ hq).mono ?_;clear g;rintro e w2 ⟨u2,rfl,K,ae⟩;obtain⟨aq,ah,ap,aj,ay,ai,an,am,rfl⟩:=Jg.form K;have hq:=Bt hq ae;have j:=(d.below hq).kb;have n:=(d.below hq).fb))
   have o:=Bt f.o.2.2 hq;have Qe:=f.o.ge 2 rfl;exact BC (by simp[results,Tryz.results38,go_sem,j]) rfl ⟨_,rfl,K.put4 (d.below hq) rfl rfl rfl rfl _ _ _ _,Jt o Qe _ _ _ _⟩
def im(p q:Rat):decide ((p.den:Int)*q.num≠0)=decide (q≠0):=by
 refine C0.2 (not_congr ⟨λh=>?_,λh=>?_⟩)
 . rcases Int.mul_eq_zero.1 h with h|h
   . have:=p.den_nz;omega
   . exact Fq.1 h
 . rw[h];exact FQ _
theorem Py(va vb:D)(p q:Rat)(w:H)(S:Jg w va p)(T:Jg w vb q)(ai:Sq p)(aj:Sq q):
 F I 164 #[va,vb] w λe w'=>∃u,e=.returned (.tuple #[u,E (decide (q≠0))])/\Jg w' u (p/q)/\Bl w w':=by
 obtain⟨bq,W⟩:=ex (decide (q≠0));have Qh:=Z ((im p q).trans W);rw[W];clear W;obtain⟨s,a,l,c,t,b,k,d,rfl⟩:=Jg.form S;obtain⟨s',a',l',c',t',b',k',d',rfl⟩:=Jg.form T;have Q:=Nf w s t s' t' a b a' b' l c k d l' c' k' d' p q S T;obtain⟨W0,R⟩:=ex (((w.alloc (G #[E s,C a l c,E t,C b k d] 41)).alloc (G #[E s',C a' l' c',E t',C b' k' d'] 41)).alloc (G #[E false,C none 0 0,E false,C none 0 0] 41));have Qe:=Z R;rw[R]at Q;obtain⟨j,B,K⟩:=DY Q ai aj;clear Q S T R ai aj;go_enter Tryz.func164,Tryz.ntmps164
 go_upto_region 1 with fail
 rw[Qe.o];clear Qe;obtain⟨s1,a1,l1,c1,t1,b1,k1,d1,o,r1,i1,j1⟩:=j.o.rat (i:=0) rfl;have v:=o.kb;obtain⟨s2,a2,l2,c2,t2,b2,k2,d2,r,r2,i2,j2⟩:=j.o.rat (i:=1) rfl;have y:=r.kb;obtain⟨s3,a3,l3,c3,t3,b3,k3,d3,f,r3,i3,j3⟩:=j.o.rat (i:=2) rfl;have n:=f.kb;have x:=f.fb;obtain⟨X,H4,H6,H9,Qf⟩:=IL (λ(V:H) (h:Bl W0 V)=>FU _ q V (r2.below h)) (λ(V:H) (h:Bl W0 V) (v3:D) (g:Ji V v3 ((q.den:Int)))=>YO _ _ p.num (q.den:Int) V (i1.below h) g (by have h1:=B.o.num.words;have h2:=K.o.den.words;omega)) (λ(V:H) (h:Bl W0 V)=>FU _ p V (r1.below h)) (λ(V:H) (h:Bl W0 V) (v6:D) (m:Ji V v6 ((p.den:Int)))=>YO _ _ (p.den:Int) q.num V m (i2.below h) (by have h1:=B.o.den.words;have h2:=K.o.num.words;omega)) λ(V:H) (h:Bl W0 V) (v4:D) (g4:Ji V v4 (p.num*(q.den:Int))) (v9:D) (z:Ji V v9 ((p.den:Int)*q.num))=>(by have h:=IV _ _ (p.num*(q.den:Int)) ((p.den:Int)*q.num) V g4 z (B.o.cross K.o) (B.o.cross2 K.o);rw[Qh.o,dM]at h;exact h);have bg:=j.o.ne 0 2 rfl rfl DJ;have bi:=j.o.ne 1 2 rfl rfl DJ;have hq:Bl W0 W0.drew:=(BD _ W0).drew;go_region_held3 (λw'=>(w'.cell? ⟨w.heap.size,0,none⟩=some (E s1)/\w'.cell? ⟨w.heap.size,1,none⟩=some (C a1 l1 c1)/\w'.cell? ⟨w.heap.size,2,none⟩=some (E t1)/\w'.cell? ⟨w.heap.size,3,none⟩=some (C b1 k1 d1))/\w'.cell? ⟨w.heap.size+1,0,none⟩=some (E s2)/\w'.cell? ⟨w.heap.size+1,1,none⟩=some (C a2 l2 c2)/\w'.cell? ⟨w.heap.size+1,2,none⟩=some (E t2)/\w'.cell? ⟨w.heap.size+1,3,none⟩=some (C b2 k2 d2)) (first|grind|(go_keep;done)|((repeat' apply And.intro)<;>((repeat rw[JP O]);grind)))
  (first
   |(go_at_call 88;refine(X.o _ hq ).mono ?_;clear X;rintro e w3 ⟨v3,rfl,g,am⟩;have hq:=Bt hq am;have v:=(o.below hq).kb;have y:=(r.below hq).kb;have n:=(f.below hq).kb;have x:=(f.below hq).fb)
   |(go_at_call 87;refine(H4.o _ hq _ g).mono ?_;clear H4;rintro e w4 ⟨v4,rfl,g4,ah⟩;have g:=g.below ah;have hq:=Bt hq ah;have v:=(o.below hq).kb;have y:=(r.below hq).kb;have n:=(f.below hq).kb;have x:=(f.below hq).fb)
   |(go_at_call 88;refine(H6.o _ hq ).mono ?_;clear H6;rintro e w6 ⟨v6,rfl,m,U⟩;have g:=g.below U;have g4:=g4.below U;have hq:=Bt hq U;have v:=(o.below hq).kb;have y:=(r.below hq).kb;have n:=(f.below hq).kb;have x:=(f.below hq).fb)
   |(go_at_call 87;refine(H9.o _ hq _ m).mono ?_;clear H9;rintro e w9 ⟨v9,rfl,z,M⟩;have g:=g.below M;have g4:=g4.below M;have m:=m.below M;have hq:=Bt hq M;have v:=(o.below hq).kb;have y:=(r.below hq).kb;have n:=(f.below hq).kb;have x:=(f.below hq).fb)
   |(go_at_call 38;refine(Qf.o _ hq _ g4 _ z).mono ?_;clear Qf;rintro e bu ⟨bn,rfl,ae,A⟩;obtain⟨bj,an,bf,aq,bm,ap,az,ay,rfl⟩:=Jg.form ae;have g:=g.below A;have g4:=g4.below A;have m:=m.below A;have z:=z.below A;have hq:=Bt hq A;have v:=(o.below hq).kb;have y:=(r.below hq).kb;have n:=(f.below hq).kb;have x:=(f.below hq).fb))
 all_goals go_wp2_with fail
 have Qi:=Bt j.o.2.2 hq;have Qg:=j.o.ge 2 rfl;exact BC (by simp[results,Tryz.results164,go_sem,n]) rfl ⟨_,rfl,ae.put4 (f.below hq) rfl rfl rfl rfl _ _ _ _,Jt Qi Qg _ _ _ _⟩
def Xf(p q:Rat):Int:=XH (p.num*q.den) (q.num*p.den)
theorem XT(va vb:D)(p q:Rat)(w:H)(ha:Jg w va p)(hb:Jg w vb q)(aj:Sq p)(am:Sq q):
 F I 32 #[va,vb] w λe w'=>e=.returned (.int .i64 (Xf p q))/\Bl w w':=by
 obtain⟨s,a,l,c,t,b,k,d,rfl⟩:=Jg.form ha;obtain⟨s',a',l',c',t',b',k',d',rfl⟩:=Jg.form hb;have T:=iW w s t s' t' a b a' b' l c k d l' c' k' d' p q ha hb;obtain⟨W0,X⟩:=ex ((w.alloc (G #[E s,C a l c,E t,C b k d] 41)).alloc (G #[E s',C a' l' c',E t',C b' k' d'] 41));have Qf:=Z X;rw[X]at T;have x:=Z T;obtain⟨n,hn⟩:=ex (Xf p q);have HN:=Z hn;rw[hn];have HP:=Z aj;have HQ:=Z am;clear T ha hb X aj am hn;go_enter Tryz.func32,Tryz.ntmps32
 go_upto_region 1 with fail
 rw[Qf.o];clear Qf;obtain⟨Q,ai⟩:=ex (decide (p.den=1/\q.den=1):Bool);have A:=Z ai;clear ai;go_cut [10] λc w'=>c=E Q/\Hid (DI w w' [some (w.heap.size,.rat p),some (w.heap.size+1,.rat q)])
 case first=>
  obtain⟨s1,a1,l1,c1,t1,b1,k1,d1,n1,r1,i1,j1⟩:=x.o.rat (i:=0) rfl;have Qh:=n1.kb;obtain⟨s2,a2,l2,c2,t2,b2,k2,d2,n2,r2,i2,j2⟩:=x.o.rat (i:=1) rfl;have Qi:=n2.kb;have g:=Z (K9 _ p W0 r1);have S:=Z λ(V:H) (h:Bl W0 V)=>K9 _ q V (r2.below h);by_cases o:p.den=1
  . rw[BK o]at g;obtain⟨b2,M⟩:=ex (decide (q.den=1));rw[M]at S;have W:=Z (show b2=Q by rw[<-M,<-A.o];grind);clear M o;go_wp2_with(first
     |(go_at_call 64;refine g.o.mono ?_;clear g;rintro e w1 ⟨rfl,r⟩;have Qh:=(n1.below r).kb;have Qi:=(n2.below r).kb)
     |(go_at_call 64;refine(S.o _ r).mono ?_;clear S;rintro e w2 ⟨rfl,M⟩))
    go_meet
    case rel=>exact⟨by rw[W.o],Z ((x.o.below r).below M)⟩
  . rw[BL o]at g;have W:=Z (show Q=false by rw[<-A.o];grind);clear o;go_wp2_with(go_at_call 64;refine g.o.mono ?_;clear g;rintro e w1 ⟨rfl,r⟩)
    go_meet
    case rel=>exact⟨by rw[W.o],Z (x.o.below r)⟩
 obtain⟨rfl,MM⟩:=hcut;have m:=MM;clear x MM;cases Q with
 |true=>
  have U:=BZ A.o;have HE:=Z (show XH p.num q.num=n by rw[<-HN.o];unfold Xf;rw[U.1,U.2];simp);clear U A;obtain⟨s3,a3,l3,c3,t3,b3,k3,d3,n3,r3,i3,j3⟩:=m.o.rat (i:=0) rfl;have ap:=n3.kb;obtain⟨s4,a4,l4,c4,t4,b4,k4,d4,n4,r4,i4,j4⟩:=m.o.rat (i:=1) rfl;have aq:=n4.kb;have g:=Z (IQ _ _ p.num q.num wc i3 i4);rw[HE.o]at g;go_wp2_with(go_at_call 86;refine g.o.mono ?_;clear g;rintro e w1 ⟨rfl,hq⟩)
  go_ret;exact⟨rfl,Bt m.o.2.2 hq⟩
 |false=>
  clear A;go_upto_region 3 with fail
  obtain⟨s5,a5,l5,c5,t5,b5,k5,d5,u,r5,i5,j5⟩:=m.o.rat (i:=0) rfl;have z:=u.kb;obtain⟨s6,a6,l6,c6,t6,b6,k6,d6,v,r6,i6,j6⟩:=m.o.rat (i:=1) rfl;have y:=v.kb;obtain⟨H3,H4,H8,H9,Qg⟩:=IL (λ(V:H) (h:Bl wc V)=>FU _ q V (r6.below h)) (λ(V:H) (h:Bl wc V) (v3:D) (f:Ji V v3 ((q.den:Int)))=>YO _ _ p.num (q.den:Int) V (i5.below h) f (by have o:=HP.o.num.words;have h2:=HQ.o.den.words;omega)) (λ(V:H) (h:Bl wc V)=>FU _ p V (r5.below h)) (λ(V:H) (h:Bl wc V) (v8:D) (j:Ji V v8 ((p.den:Int)))=>YO _ _ q.num (p.den:Int) V (i6.below h) j (by have o:=HQ.o.num.words;have h2:=HP.o.den.words;omega)) λ(V:H) (h:Bl wc V) (v4:D) (g4:Ji V v4 (p.num*(q.den:Int))) (v9:D) (B:Ji V v9 (q.num*(p.den:Int)))=>(by have h:=IQ _ _ (p.num*(q.den:Int)) (q.num*(p.den:Int)) V g4 B;rw[show XH (p.num*(q.den:Int)) (q.num*(p.den:Int))=n from HN.o]at h;exact h);have hq:Bl wc wc.drew:=(BD _ wc).drew;go_region_held3 (λw'=>(w'.cell? ⟨w.heap.size,0,none⟩=some (E s5)/\w'.cell? ⟨w.heap.size,1,none⟩=some (C a5 l5 c5)/\w'.cell? ⟨w.heap.size,2,none⟩=some (E t5)/\w'.cell? ⟨w.heap.size,3,none⟩=some (C b5 k5 d5))/\w'.cell? ⟨w.heap.size+1,0,none⟩=some (E s6)/\w'.cell? ⟨w.heap.size+1,1,none⟩=some (C a6 l6 c6)/\w'.cell? ⟨w.heap.size+1,2,none⟩=some (E t6)/\w'.cell? ⟨w.heap.size+1,3,none⟩=some (C b6 k6 d6)) (first|grind|(go_keep;done)|((repeat' apply And.intro)<;>((repeat rw[JP O]);first|(simp only[*];done)|(go_keep;done))))
   (first
    |(go_at_call 88;refine(H3.o _ hq ).mono ?_;clear H3;rintro e w3 ⟨v3,rfl,f,an⟩;have hq:=Bt hq an;have z:=(u.below hq).kb;have y:=(v.below hq).kb)
    |(go_at_call 87;refine(H4.o _ hq _ f).mono ?_;clear H4;rintro e w4 ⟨v4,rfl,g4,ah⟩;have f:=f.below ah;have hq:=Bt hq ah;have z:=(u.below hq).kb;have y:=(v.below hq).kb)
    |(go_at_call 88;refine(H8.o _ hq ).mono ?_;clear H8;rintro e w8 ⟨v8,rfl,j,ae⟩;have f:=f.below ae;have g4:=g4.below ae;have hq:=Bt hq ae;have z:=(u.below hq).kb;have y:=(v.below hq).kb)
    |(go_at_call 87;refine(H9.o _ hq _ j).mono ?_;clear H9;rintro e w9 ⟨v9,rfl,B,R⟩;have f:=f.below R;have g4:=g4.below R;have j:=j.below R;have hq:=Bt hq R;have z:=(u.below hq).kb;have y:=(v.below hq).kb)
    |(go_at_call 86;refine(Qg.o _ hq _ g4 _ B).mono ?_;clear Qg;rintro e ay ⟨rfl,K⟩;have f:=f.below K;have g4:=g4.below K;have j:=j.below K;have B:=B.below K;have hq:=Bt hq K;have z:=(u.below hq).kb;have y:=(v.below hq).kb))
  all_goals go_wp2_with fail
  go_ret;exact⟨rfl,Bt m.o.2.2 hq⟩
theorem I3(va vb:D)(p q:Rat)(w:H)(r:Jg w va p)(v:Jg w vb q)(ae:Sq p)(ah:Sq q):
 F I 41 #[va,vb] w λe w'=>∃u,e=.returned u/\Jg w' u (p-q)/\Bl w w':=by
 obtain⟨s,a,l,c,t,b,k,d,rfl⟩:=Jg.form r;obtain⟨s',a',l',c',t',T,k',X,rfl⟩:=Jg.form v;have m:=Nf w s t s' t' a b a' T l c k d l' c' k' X p q r v;obtain⟨W0,o⟩:=ex (((w.alloc (G #[E s,C a l c,E t,C b k d] 41)).alloc (G #[E s',C a' l' c',E t',C T k' X] 41)).alloc (G #[E false,C none 0 0,E false,C none 0 0] 41));have K:=Z o;rw[o]at m;obtain⟨f,HP,B⟩:=DY m ae ah;clear m r v o ae ah;go_enter Tryz.func41,Tryz.ntmps41
 go_upto_region 1 with fail
 rw[K.o];clear K;obtain⟨s1,S,l1,c1,t1,U,k1,d1,x,r1,i1,j1⟩:=f.o.rat (i:=0) rfl;have M:=x.kb;obtain⟨s2,a2,l2,c2,t2,W,k2,d2,y,r2,i2,j2⟩:=f.o.rat (i:=1) rfl;have R:=y.kb;obtain⟨s3,a3,l3,c3,t3,b3,k3,d3,j,r3,i3,j3⟩:=f.o.rat (i:=2) rfl;have n:=j.kb;have Q:=j.fb;have z:=Z λ(V:H) (h:Bl W0 V)=>Pt _ _ 0 q.num V (ER _) (i2.below h) (by have:=Sok.zero.words;omega) (by have:=B.o.num.words;omega);have A:=Z (λ(V:H) (h:Bl W0 V) (s:Bool) (a:Option Addr) (l c:Nat) (g:Ji V (P #[E s,C a l c]) (0-q.num))=>show F I 104 #[P #[E s1,C S l1 c1,E t1,C U k1 d1],P #[E s,C a l c,E t2,C W k2 d2]] V λe w'=>∃u,e=.returned u/\Jg w' u (p-q)/\Bl V w' by
  have h1:=Kb _ _ p (-q) V (r1.below h) (Jg.mk (q:=-q) (by rw[Rat.neg_num,<-Int.zero_sub];exact g) (j2.below h)) HP.o B.o.neg;rw[<-Rat.sub_eq_add_neg]at h1;exact h1)
 have bn:=f.o.ne 0 2 rfl rfl DJ;have bu:=f.o.ne 1 2 rfl rfl DJ;have hq:Bl W0 W0.drew:=(BD _ W0).drew;go_region_held3 (λw'=>(w'.cell? ⟨w.heap.size,0,none⟩=some (E s1)/\w'.cell? ⟨w.heap.size,1,none⟩=some (C S l1 c1)/\w'.cell? ⟨w.heap.size,2,none⟩=some (E t1)/\w'.cell? ⟨w.heap.size,3,none⟩=some (C U k1 d1))/\w'.cell? ⟨w.heap.size+1,0,none⟩=some (E s2)/\w'.cell? ⟨w.heap.size+1,1,none⟩=some (C a2 l2 c2)/\w'.cell? ⟨w.heap.size+1,2,none⟩=some (E t2)/\w'.cell? ⟨w.heap.size+1,3,none⟩=some (C W k2 d2)) (first|grind|(go_keep;done)|grind[JP])
  (first
   |(go_at_call 105;refine(z.o _ hq).mono ?_;clear z;rintro e w1 ⟨u1,rfl,ai,am⟩;obtain⟨bz,ap,bj,az,rfl⟩:=Ji.form2 ai;have hq:=Bt hq am;have M:=(x.below hq).kb;have R:=(y.below hq).kb;have n:=(j.below hq).kb;have Q:=(j.below hq).fb)
   |(go_at_call 104;refine(A.o _ hq _ _ _ _ ai).mono ?_;clear A;rintro e w2 ⟨u2,rfl,aj,an⟩;obtain⟨ce,aq,bm,bf,cj,ay,bi,bg,rfl⟩:=Jg.form aj;have hq:=Bt hq an;have M:=(x.below hq).kb;have R:=(y.below hq).kb;have n:=(j.below hq).kb;have Q:=(j.below hq).fb))
 all_goals go_wp2_with fail
 have Qg:=Bt f.o.2.2 hq;have Qf:=f.o.ge 2 rfl;exact BC (by simp[results,Tryz.results41,go_sem,n]) rfl ⟨_,rfl,aj.put4 (j.below hq) rfl rfl rfl rfl _ _ _ _,Jt Qg Qf _ _ _ _⟩
end
section
variable{qs:List Rat}{cap l:Nat}{a:Option Addr}{W:H}
theorem jA(q:Rat):Xf q 0=0↔q=0:=by
 grind[Rat.eq_iff_mul_eq_mul,Xf,XH]
def FV:Sq 0:=Sq.of (k:=1) ⟨Sm.zero _,Sm.one _ O⟩ O
def jB(v:D)(q:Rat)(w:H)(h:Jg w v q)(hq:Sq q):
 F I 108 #[v] w λe w'=>e=.returned (E (decide (q=0)))/\Bl w w':=by
 obtain⟨s,a,l,c,t,b,k,d,rfl⟩:=h.form;have b0:=JO.new w 41 (E s) (C a l c) (E t) (C b k d);have f:Bl w (w.alloc (G #[E s,C a l c,E t,C b k d] 41)):=Ba w _;obtain⟨W0,g⟩:=ex (w.alloc (G #[E s,C a l c,E t,C b k d] 41));rw[g]at b0 f;have m:=Z g;have i:=Z (XT _ _ q 0 W0 (h.below f) (Xx _) hq FV);obtain⟨p,r,u,x⟩:=b0.cq;have j:=Z (jA q);obtain⟨n,hn⟩:=ex (Xf q 0);rw[hn]at i j;clear g hn;go_enter Tryz.func108,Tryz.ntmps108
 go_upto_region 1 with fail
 rw[m.o];go_wp2_with(go_at_call 32;refine i.o.mono ?_;rintro e w1 ⟨rfl,o⟩)
 go_ret;refine⟨?_,Bt f o⟩;show Ending.returned (Value.bool (n==0))=_;have e:(n==0)=decide (q=0):=by rw[FD];simp[j.o]
 rw[e]
def jC(c:Nat)(a:Option Addr)(len cap:Nat)(x y z u:Nat->D)(k:Nat)(W:H):Prop:=
 W.cell? ⟨c,0,none⟩=some (C a len cap)/\(k<len->∃b,a=some ⟨b,0,none⟩/\W.cell? ⟨b,(len-1-k)*4,none⟩=some (x (len-1-k))/\W.cell? ⟨b,(len-1-k)*4+1,none⟩=some (y (len-1-k))/\
  W.cell? ⟨b,(len-1-k)*4+2,none⟩=some (z (len-1-k))/\W.cell? ⟨b,(len-1-k)*4+3,none⟩=some (u (len-1-k)))
def L4(len:Nat)(x y z u:Nat->D)(k:Nat):Array D:=#[.int .i64 ((len:Int)-1-k),P #[x (len-1-k),y (len-1-k),z (len-1-k),u (len-1-k)]]
def Pz(F:Fence)(n:Nat)(B:F.fn 239)(K:F.round=none)(hn:1<=n)(d:Nat)(a:Option Addr)(len cap:Nat)(x y z u:Nat->D)(ah:len<=1099511627776):
 Le F n I 239 #[L (some ⟨d,0,none⟩)] len (L4 len x y z u) (jC d a len cap x y z u):=λl J M W j w g=>by
 have T:=(j 0 W g).1;refine Br Tryz.func239 rfl B ?_ K;simp only[Tryz.ntmps239,Am,Ai,AF,Nat.reduceAdd,Nat.reduceSub,Ao,Ap,AC,Au,Al,Ay];gi_wp2;gi_loopw [3] (λi wr=>∃k:Nat,k<=len/\i=.int .i64 ((len:Int)-1-k)/\J k wr) λi _=>(intOf i+1).toNat
 case atStart=>exact⟨0,At _,DH,g⟩
 case round=>
  obtain⟨k,hk,rfl,hJ⟩:=hrel;obtain⟨S,A⟩:=j k wr hJ;by_cases c:k<len
  . obtain⟨b,rfl,U,X,ae,V⟩:=A c;obtain⟨fn,tmps,assign,body,q,v⟩:=w k wr hJ c;have f:((len:Int)-1-k)=((len-1-k:Nat):Int):=O
    have R:len-1-k<len:=O
    dsimp only[L4]at q;rw[f]at q ⊢;generalize o:len-1-k=m at *;have r:=Hid.o (p:=Hid (len-1-k=m)) o;clear o f;gi_wp2;refine v.mono ?_;rintro e Q (⟨rfl,s⟩|⟨rfl,t⟩)
    . gi_wp2;go_roundw
      case rel=>exact⟨k+1,O,by(congr 1;have:=r.o;omega),s⟩
      case measure=>simp[intOf]
    . gi_wp2;refine BC (results_none rfl _ _ _) rfl ?_;exact⟨⟨_,rfl⟩,.inr ⟨k,c,t⟩⟩
  . obtain rfl:k=len:=O
    gi_wp2;go_end0;exact⟨⟨_,rfl⟩,.inl hJ⟩
def P0(F:Fence)(n:Nat)(b:F.fn 186)(c:F.round=none)(a:Option Addr)(len cap:Nat)(w:H):
 CallsIn F n I 186 #[C a len cap] w λe w'=>e=.returned (.func (.func 239) #[] #[L (some ⟨w.heap.size,0,none⟩)])/\w'=w.alloc (G #[C a len cap] 23):=by
 refine Br Tryz.func186 rfl b ?_ c;simp only[Tryz.ntmps186,Am,Ai,AF,Nat.reduceAdd,Nat.reduceSub,Ao,Ap,AC,Au,Al,Ay];gi_wp2;go_ret;exact⟨rfl,rfl⟩
def UK:D->Bool|E b=>b|_=>false
def UL:D->Option Addr|C a _ _=>a|_=>none
def UM:D->Nat|C _ _ c=>c|_=>0
theorem RowK.pick{r:Bool}(h:RowK r W (C a l cap) qs):l=qs.length/\l<=cap/\cap<=9223372036854775807/\l<=1099511627776/\∃x y z u:Nat->D,∀j,j<l->EI r W (P #[x j,y j,z j,u j]) (cf qs j)/\
 ∃b,a=some ⟨b,0,none⟩/\b<W.heap.size/\W.cell? ⟨b,j*4,none⟩=some (x j)/\W.cell? ⟨b,j*4+1,none⟩=some (y j)/\W.cell? ⟨b,j*4+2,none⟩=some (z j)/\W.cell? ⟨b,j*4+3,none⟩=some (u j):=by
 obtain⟨a',m,e,f,g,i,c⟩:=h;cases e;refine⟨rfl,f,g,i,?_⟩;rcases c with c|⟨b,n,k⟩
 . exact⟨λ_=>N,λ_=>N,λ_=>N,λ_=>N,λj d=>by rw[c]at d;simp at d⟩
 . obtain⟨cs,c1,c2⟩:=k;refine⟨λj=>cs[j*4]?.getD N,λj=>cs[j*4+1]?.getD N,λj=>cs[j*4+2]?.getD N,λj=>cs[j*4+3]?.getD N,λj d=>?_⟩;grind[cell_of]
def RowK.forms(h:RowK true W (C a l cap) qs):l=qs.length/\l<=cap/\cap<=9223372036854775807/\l<=1099511627776/\∃(s t:Nat->Bool) (i k:Nat->Option Addr) (ll m n dd:Nat->Nat),∀j,j<l->Jg W (P #[E (s j),C (i j) (ll j) (m j),E (t j),C (k j) (n j) (dd j)]) (cf qs j)/\
 ∃b,a=some ⟨b,0,none⟩/\b<W.heap.size/\W.cell? ⟨b,j*4,none⟩=some (E (s j))/\W.cell? ⟨b,j*4+1,none⟩=some (C (i j) (ll j) (m j))/\W.cell? ⟨b,j*4+2,none⟩=some (E (t j))/\W.cell? ⟨b,j*4+3,none⟩=some (C (k j) (n j) (dd j)):=by
 obtain⟨p,q,r,v,x,y,z,u,A⟩:=h.pick;refine⟨p,q,r,v,λj=>UK (x j),λj=>UK (z j),λj=>UL (y j),λj=>UL (u j),λj=>SZ (y j),λj=>UM (y j),λj=>SZ (u j),λj=>UM (u j),λj B=>?_⟩;obtain⟨hi,b,o,w,c0,c1,c2,c3⟩:=A j B;obtain⟨s,a',l',c',t,K,Q,M,e,_⟩:=(show Jg W _ _ from hi);simp only[Value.agg.injEq,Array.mk.injEq,List.cons.injEq,and_true]at e;obtain⟨c,d,f,g⟩:=e;rw[c,d,f,g]at hi;rw[c]at c0;rw[d]at c1;rw[f]at c2;rw[g]at c3;dsimp only;rw[c,d,f,g];exact⟨hi,b,o,w,c0,c1,c2,c3⟩
def UO(w:H)(a:Option Addr)(len cap:Nat)(qs:List Rat)(k:Nat)(W:H):Prop:=
 ((((Boxed W w.heap.size 23 (C a len cap)/\Boxed W (w.heap.size+1) 156 (.func (.func 108) #[] #[]))/\Boxed W (w.heap.size+1+1) 23 (C none 0 0))/\Boxed W (w.heap.size+1+1+1) 23 (C a len cap))/\Bl w W)/\∀j,len-k<=j->j<len->cf qs j=0
def UP(w:H)(a:Option Addr)(len cap:Nat)(qs:List Rat)(c:Code)(k:Nat)(W:H):Prop:=
 (Boxed W (w.heap.size+1+1) 23 (C a (len-1-k+1) cap)/\Bl w W)/\(c=.ret/\cf qs (len-1-k)≠0/\∀j,len-k<=j->j<len->cf qs j=0)
def jD(w:H)(a:Option Addr)(len cap:Nat)(qs:List Rat):OwnFrom (w.heap.size+1+1+1+1) (UO w a len cap qs):=
 BO (BO (BO (BO (BO (Bh (boxed_own _ _ λ_=>C a len cap) _) (Bh (boxed_own _ _ λ_=>.func (.func 108) #[] #[]) _)) (Bh (boxed_own _ _ λ_=>C none 0 0) _)) (Bh (boxed_own _ _ λ_=>C a len cap) _)) (Bs (Aa _) O)) (DF _ _)
def jE(w:H)(a:Option Addr)(len cap:Nat)(qs:List Rat)(c:Code):OwnFrom (w.heap.size+1+1+1+1) (UP w a len cap qs c):=
 BO (BO (Bh (boxed_own _ _ λk=>C a (len-1-k+1) cap) _) (Bs (Aa _) O)) (DF _ _)
theorem jF(a:Option Addr)(len cap:Nat)(qs:List Rat)(w:H)(h:RowK true w (C a len cap) qs)(hs:Sqs qs):
 F I 107 #[C a len cap,.func (.func 108) #[] #[]] w λe w'=>∃u,e=.returned u/\(RowK true w' u (Jc qs)/\Bl w w')/\(u=C none 0 0/\Jc qs=[]\/u=C a (Jc qs).length cap):=by
 obtain⟨hl,aj,am,ah,s,t,z,A,ll,B,R,dd,hc⟩:=h.forms;obtain⟨HL,HC,HS⟩:=DY hl hc hs;clear hc hl hs;refine(BJ (n:=3)).1 ?_;refine BQ Tryz.func107 rfl trivial ?_ rfl;simp only[Tryz.ntmps107,Am,Ai,AF,Nat.reduceAdd,Nat.reduceSub,Ao,Ap,AC,Au,Al,Ay];gi_wp2_with(refine⟨trivial,?_⟩;gi_at_call 186;refine(P0 Fence.wide _ trivial rfl _ _ _ _).mono ?_;rintro e w' ⟨rfl,rfl⟩)
 have b0:=(((BI w 23 (C a len cap)).alloc (G #[.func (.func 108) #[] #[]] 156)).alloc (G #[C none 0 0] 23)).alloc (G #[C a len cap] 23);have b1:=((BI (w.alloc (G #[C a len cap] 23)) 156 (.func (.func 108) #[] #[])).alloc (G #[C none 0 0] 23)).alloc (G #[C a len cap] 23);have b2:=(BI ((w.alloc (G #[C a len cap] 23)).alloc (G #[.func (.func 108) #[] #[]] 156)) 23 (C none 0 0)).alloc (G #[C a len cap] 23);have b3:=BI (((w.alloc (G #[C a len cap] 23)).alloc (G #[.func (.func 108) #[] #[]] 156)).alloc (G #[C none 0 0] 23)) 23 (C a len cap);simp only[Ax]at b1 b2 b3;have Qd:Bl w ((((w.alloc (G #[C a len cap] 23)).alloc (G #[.func (.func 108) #[] #[]] 156)).alloc (G #[C none 0 0] 23)).alloc (G #[C a len cap] 23)):=(((Ba w _).alloc DH _).alloc si _).alloc si _;have hN:((((w.alloc (G #[C a len cap] 23)).alloc (G #[.func (.func 108) #[] #[]] 156)).alloc (G #[C none 0 0] 23)).alloc (G #[C a len cap] 23)).heap.size=w.heap.size+1+1+1+1:=DH
 refine Se rfl O (gf:=239) (lb:=#[L (some ⟨w.heap.size+1+1+1,0,none⟩)]) rfl trivial (Bo Tryz.func239 (by kernel_rfl) rfl)
  (Pz Fence.wide _ trivial rfl O (w.heap.size+1+1+1) a len cap (λj=>E (s j)) (λj=>C (z j) (ll j) (B j)) (λj=>E (t j)) (λj=>C (A j) (R j) (dd j)) ah) (λ_=>rfl)
  (UO w a len cap qs) (UP w a len cap qs) (by rw[hN];exact jD w a len cap qs) (λc=>by rw[hN];exact jE w a len cap qs c)
  ⟨⟨⟨⟨⟨b0,b1⟩,b2⟩,b3⟩,Qd⟩,λj r M=>by omega⟩ ?rd
  (λk b=>{ tmps:=#[C a len cap,.func (.func 108) #[] #[],L (some ⟨w.heap.size,0,none⟩),L (some ⟨w.heap.size+1,0,none⟩),L (some ⟨w.heap.size+1+1,0,none⟩),.int .i64 ((len:Int)-1-k),L (some ⟨b,0,none⟩),C a len cap,.func (.func 239) #[] #[L (some ⟨w.heap.size+1+1+1,0,none⟩)],.int .i64 ((len:Int)-1-k),P #[E (s (len-1-k)),C (z (len-1-k)) (ll (len-1-k)) (B (len-1-k)),E (t (len-1-k)),C (A (len-1-k)) (R (len-1-k)) (dd (len-1-k))],N,N,N,N,N,N,N,N],defers:=[] })
  (λk=>G #[E (s (len-1-k)),C (z (len-1-k)) (ll (len-1-k)) (B (len-1-k)),E (t (len-1-k)),C (A (len-1-k)) (R (len-1-k)) (dd (len-1-k))] 41 (0,0)) ?assign ?body ?done ?stop
 case rd=>
  rintro k W ⟨⟨⟨_,c3⟩,f⟩,_⟩;refine⟨c3.cell,λhk=>?_⟩;obtain⟨_,b,ea,Q,r,M,h3,h4⟩:=HC.o (len-1-k) O;exact⟨b,ea,(f.cell (p:=⟨b,_,none⟩) Q).trans r,(f.cell (p:=⟨b,_,none⟩) Q).trans M,(f.cell (p:=⟨b,_,none⟩) Q).trans h3,(f.cell (p:=⟨b,_,none⟩) Q).trans h4⟩
 case assign=>
  intro l k W K v;unfold L4;gi_wp2;exact v
 case body=>
  rintro l k b W ⟨⟨⟨⟨⟨c0,c1⟩,c2⟩,c3⟩,f⟩,i⟩ hk ap ai V;have hm:len-1-k<len:=O
  obtain⟨hi,_⟩:=HC.o (len-1-k) hm;have HI:=Z (Jg.below hi f);have o:=Z i;have e1:((len:Int)-1-k)=((len-1-k:Nat):Int):=O
  rw[e1];have Qe:=Z (show len-1-k=len-1-k from rfl);clear e1 i hi;obtain⟨m,X⟩:=ex (len-1-k);have S:=Z X;rw[X]at V HI hm ⊢;clear X Qe;have q0:JO W b 41 (E (s m)) (C (z m) (ll m) (B m)) (E (t m)) (C (A m) (R m) (dd m)):=V;obtain⟨k0,k1,k2,k3⟩:=q0.cq;have d0:=c0.cell;have d1:=c1.cell;have d2:=c2.cell;have f2:=c2.frozen;clear q0 V;have y:=Z (Bg l ((BJ (n:=3-1-1-1)).2 (jB _ _ W HI.o (HS.o.at m))));by_cases g:cf qs m=0
  . have T:=Z g;rw[show decide (cf qs m=0)=true from BK g]at y;clear g;gi_wp2_with(refine⟨trivial,?_⟩;gi_at_call 108;refine y.o.mono ?_;rintro e w' ⟨rfl,d⟩)
    refine⟨(Xe d).from _,⟨⟨⟨⟨boxed_below c0 d,boxed_below c1 d⟩,boxed_below c2 d⟩,boxed_below c3 d⟩,Bt f d⟩,λj r M=>?_⟩;by_cases x:j=m
    . rw[x];exact T.o
    . have:=S.o;exact o.o j O M
  . have T:=Z g;rw[show decide (cf qs m=0)=false from BL g]at y;clear g;gi_wp2_with(refine⟨trivial,?_⟩;gi_at_call 108;refine y.o.mono ?_;rintro e w' ⟨rfl,d⟩;have d0:=(boxed_below c0 d).cell;have d2:=(boxed_below c2 d).cell;have f2:=(boxed_below c2 d).frozen)
    have ae:=Bt f d;refine⟨((Xe d).trans (BM _ _ _)).from _,⟨?_,ae.setCell (p:=⟨w.heap.size+1+1,0,none⟩) si _⟩,rfl,by rw[S.o];exact T.o,o.o⟩;rw[S.o];exact(boxed_below c2 d).set _
 case done=>
  rintro D W hD ⟨⟨⟨⟨⟨c0,c1⟩,c2⟩,c3⟩,f⟩,i⟩ v;have d1:=c2.cell;have f1:=c2.frozen;have o:=Z i;clear i;gi_wp2;have Qc:=(BM W ⟨w.heap.size+1+1,0,none⟩ (C none 0 0)).same D _ v rfl;refine⟨DH,.inl ⟨_,_,rfl,BS Qc,?_⟩⟩;have U:=(c2.set (C none 0 0)).kept (BT _ D (.deferred none)) (λe=>by grind);have q:=U.cell;have e0:=On λj=>by
   rcases A6 j len with x|x
   . exact o.o j O x
   . exact Ym (by have:=HL.o;omega)
  refine⟨C none 0 0,by simp[results,Tryz.results107,go_sem,q],_,rfl,⟨?_,?_⟩,Or.inl ⟨rfl,e0⟩⟩
  . rw[e0];exact RowK.nil _ _
  . exact(f.setCell (p:=⟨w.heap.size+1+1,0,none⟩) si _).trans (DA (w:=w) (Aa _) _ D _ _ (by simp at hD;omega) Qc rfl rfl)
 case stop=>
  rintro D c k W hD hk ⟨⟨c1,f⟩,rfl,g,i⟩ v;have d1:=c1.cell;have o:=Z (show cf qs (len-1-k)≠0/\∀j,len-k<=j->j<len->cf qs j=0 from⟨g,i⟩);clear i g;gi_wp2;refine⟨DH,.inl ⟨_,_,rfl,BS v,?_⟩⟩;have U:=c1.kept (BT _ D (.deferred none)) (λe=>by grind);have q:=U.cell;have Qb:Bl w (W.putObj D (.deferred none)):=f.trans (DA (w:=w) (Aa _) _ D _ _ (by simp at hD;omega) v rfl rfl);have an:=HL.o;have e:Jc qs=qs.take (len-1-k+1):=by
   refine aZ O (Or.inr o.o.1) λj x=>?_;rcases A6 j len with r|r
   . exact o.o.2 j O r
   . exact Ym O
  have el:(qs.take (len-1-k+1)).length=len-1-k+1:=by rw[Aq];omega
  refine⟨C a (len-1-k+1) cap,by simp[results,Tryz.results107,go_sem,q],_,rfl,⟨?_,Qb⟩,Or.inr (by rw[e,el])⟩;rw[e];exact(h.below Qb).take O
def L5(N:Nat)(v:D):Prop:=∀a l c,v=C (some a) l c->N<=a.block
def Nh(N:Nat)(v:D):Prop:=∀a l c,v=P #[C (some a) l c]->N<=a.block
def FW{B:Nat}{c:Nat}(b:Boxed W B 25 (C a l c))(x:D){v:D}(h:RowK true W v qs):RowK true (W.setCell ⟨B,0,none⟩ x) v qs:=
 M3.Lu (cs:=#[C a l c]) b (o:=0) rfl rfl true DJ x v qs h
def Kd(v:D)(qs:List Rat)(w:H)(h:RowK true w v qs)(hs:Sqs qs):
 F I 43 #[v] w λe w'=>∃u,e=.returned u/\Jd w' u (Jc qs)/\(∀N,L5 N v->Nh N u)/\Bl w w':=by
 obtain⟨a,l,c,rfl⟩:=h.form;have b0:=BI w 25 (C none 0 0);have b:Bl w (w.alloc (G #[C none 0 0] 25)):=Ba w _;obtain⟨W0,g⟩:=ex (w.alloc (G #[C none 0 0] 25));rw[g]at b0 b;have q:=Z g;have i:=Z (jF a l c qs W0 (h.below b) hs);have n:=b0.cell;have f0:=b0.frozen;clear g h hs;go_enter Tryz.func43,Tryz.ntmps43
 go_upto_region 1 with fail
 rw[q.o];go_wp2_with(go_at_call 107;refine i.o.mono ?_;clear i;rintro e w1 ⟨u,rfl,⟨m,j⟩,k⟩;obtain⟨s,x,t,rfl⟩:=m.form;have d:=boxed_below b0 j;have n:=d.cell;have f0:=d.frozen;have o:=Z k;clear k)
 refine BC (by simp[results,Tryz.results43,go_sem,n]) rfl ⟨_,rfl,⟨_,rfl,FW d _ m⟩,?_,(Bt b j).setCell (p:=⟨w.heap.size,0,none⟩) (Aa _) _⟩;intro N r a' l' c' e;simp only[Value.agg.injEq,Array.mk.injEq,List.cons.injEq,and_true]at e;rcases o.o with⟨f,_⟩|f
 . rw[f]at e;cases e
 . rw[f]at e;cases e;exact r _ _ _ rfl
def Yo(v:D)(ps:List Rat)(w:H)(h:Jd w v ps):
 F I 26 #[v] w λe w'=>e=.returned (.int .i64 ((ps.length:Int)-1))/\Bl w w':=by
 obtain⟨u,rfl,b⟩:=h;obtain⟨a,cap,rfl,c,d,f,_⟩:=b.open;clear b;generalize ps.length=n at *;go_enter Tryz.func26,Tryz.ntmps26
 go_wp2;go_ret;exact⟨rfl,Ba _ _⟩
def P1(v:D)(qs:List Rat)(i:Int)(w:H)(h:RowK true w v qs):
 F I 165 #[v,.int .i64 i] w λe w'=>∃u,e=.returned u/\Jg w' u (if i<0 then 0 else cf qs i.toNat)/\Bl w w':=by
 obtain⟨a,l,c,rfl⟩:=h.form;obtain⟨hl,M,Q,R,s,t,o,p,ll,q,z,dd,g⟩:=h.forms;have k:=Z hl;have d:=Z g;clear hl g h;by_cases f:i<0
 . rw[BH f];go_enter Tryz.func165,Tryz.ntmps165
   go_wp2;exact BC (by simp[results,Tryz.results165,go_sem]) rfl ⟨_,rfl,Xx _,(Ba w _).alloc DH _⟩
 . rw[BG f];by_cases r:(l:Int)<=i
   . have n:=Z (show cf qs i.toNat=0 from Ym (by have:=k.o;omega));rw[n.o];go_enter Tryz.func165,Tryz.ntmps165
     go_wp2;exact BC (by simp[results,Tryz.results165,go_sem]) rfl ⟨_,rfl,Xx _,(Ba w _).alloc DH _⟩
   . obtain⟨m,rfl⟩:∃m:Nat,i=(m:Int):=⟨i.toNat,O⟩;have x:m<l:=O
     obtain⟨hi,b,rfl,K,S,y,T,U⟩:=d.o m x;have j:=Z hi;rw[CY];clear d hi r;generalize s m=V at *;generalize t m=W at *;generalize o m=A at *;generalize p m=B at *;generalize ll m=l1 at *;generalize q m=c1 at *;generalize z m=y at *;generalize dd m=d1 at *;go_enter Tryz.func165,Tryz.ntmps165
     go_wp2;exact BC (by simp[results,Tryz.results165,go_sem]) rfl ⟨_,rfl,j.o.below (Ba w _),Ba w _⟩
end
namespace M3
variable{c l:Nat}{a:Option Addr}
def row_zero(V:H)(a:Option Addr):RowK true V (C a 0 0) []:=⟨a,0,rfl,Aa _,O,DH,Or.inl rfl⟩
def P2(V:H):Has V (P #[C Option.none 0 0]) (.poly []):=⟨_,rfl,row_zero V Option.none⟩
def UQ(V:H):Jd V (P #[C Option.none 0 0]) []:=⟨_,rfl,row_zero V Option.none⟩
def DI.poly2{w V:H}{bs:List (Option (Nat × Dat))}(M:DI w V bs){i B:Nat}{ps:List Rat}(h:bs[i]?=some (some (B,.poly ps))):∃a l c,Boxed V B 25 (C a l c)/\Jd V (P #[C a l c]) ps:=by
 obtain⟨a,l,c,b,d⟩:=M.poly h;exact⟨a,l,c,b,_,rfl,d⟩
def L6{W:H}{B:Nat}(b:Boxed W B 25 (C a l c)){x v:D}{qs:List Rat}(h:Jd W v qs):Jd (W.setCell ⟨B,0,Option.none⟩ x) v qs:=by
 obtain⟨u,e,h⟩:=h;exact⟨u,e,FW b x h⟩
def Has.set1{V:H}{v:D}{d:Dat}(h:Has V v d){B:Nat}(q:Boxed V B 25 (C a l c))(e:JR (C a l c)=true)(b:D):Has (V.setCell ⟨B,0,Option.none⟩ b) v d:=
 h.keep (Tx q e b) (Or.inr λ_ _ g=>FW q b g)
section
variable {w V:World} {bs:List (Option (Nat × Dat))} {B:Nat} {ρ:Operand->Value} {x y:Operand} {dst:Option Tmp} {ty:TypeId} {ps:String} {af:Array Edge} {gd:Option (Nat × Bool)} {q q0:Rat} {z z0:Int} {p p0:List Rat} {v p1 u1:Value} {ds:List Dat} {T:World->Value->Prop}
def Ez(i:Nat)(M:DI w V bs)(h:bs[i]?=some (some (B,.poly p)):=by rfl)(hp:p1=L (some ⟨B,0,none⟩):=by rfl)(b:ρ x=p1:=by kernel_rfl):∃u,(execOp ρ { dst:=dst,op:=.load 25 x,type:=ty,pos:=ps,after:=af,guard:=gd }).run I V=.ok (.value u) V/\Has V u (.poly p):=by
 rw[hp]at b;obtain⟨a,l,c,n,r⟩:=M.poly2 h;have d:=n.cell;exact⟨_,by go_simp,r⟩
def E0(i:Nat)(M:DI w V bs)(hv:Has V u1 (.poly p))(h:bs[i]?=some (some (B,.poly p0)):=by rfl)(hp:p1=L (some ⟨B,0,none⟩):=by rfl)(b:ρ x=p1:=by kernel_rfl)(f:ρ y=u1:=by kernel_rfl)(hT:∀ {a l c x},Boxed V B 25 (C a l c)->DI w (V.setCell ⟨B,0,none⟩ x) (bs.set i (some (B,.poly p)))->T (V.setCell ⟨B,0,none⟩ x) N:=by exact λ_ m=>m):Wr ρ { dst:=none,op:=.store 25 x y,type:=ty,pos:=ps,after:=af,guard:=gd } V ds (.eq N) T:=by
 rw[hp]at b;obtain⟨a,l,c,n,r⟩:=M.poly2 h;have j:=n.cell;have f0:=n.frozen;obtain⟨g,l1,c1,e⟩:=Jd.form (show Jd V _ _ from hv);rw[e]at hv;rw[e]at f;exact⟨.skip,N,_,by go_simp,Or.inr ⟨rfl,rfl⟩,rfl,λd v _ k=>k.set1 n rfl _,hT n (M.putPoly h hv)⟩
def IW(i:Nat)(M:DI w V bs)(h:bs[i]?=some none:=by rfl)(hT:∀ {o},DI w (V.alloc o) (bs.set i (some (V.heap.size,.poly [])))->T (V.alloc o) (L (some ⟨V.heap.size,0,none⟩)):=by exact λm=>m):Wr ρ { dst:=dst,op:=.alloc 25,type:=ty,pos:=ps,after:=af,guard:=gd } V ds .ptr T:=
 ⟨_,L (some ⟨V.heap.size,0,none⟩),_,by go_simp;exact rfl,Or.inl rfl,rfl,λ_ _ _ k=>k.alloc _,hT (M.fill h (.poly []) (P2 V))⟩
end
end M3
def Tryz.infoRat:(Tryz.prog.info? 41).map (λi=>(i.zero,i.size,i.bytes))=some (some (P #[E false,C none 0 0,E false,C none 0 0]),4,64):=by kernel_rfl
def YC(n:Nat):Array D:=madeCells #[E false,C none 0 0,E false,C none 0 0] (n*4)
theorem Ni{n j:Nat}(a:j<n):(YC n)[j*4]?=some (E false)/\(YC n)[j*4+1]?=some (C none 0 0)/\(YC n)[j*4+2]?=some (E false)/\(YC n)[j*4+3]?=some (C none 0 0):=by
 unfold YC madeCells;have h:∀k,k<n*4->((Array.range (n*4)).map λi=>(#[Value.bool false,Value.slice none 0 0,Value.bool false,Value.slice none 0 0]:Array D)[i%4]!)[k]?=some ((#[Value.bool false,Value.slice none 0 0,Value.bool false,Value.slice none 0 0]:Array D)[k%4]!):=λk hk=>by
  grind
 refine⟨(h _ O).trans ?_,(h _ O).trans ?_,(h _ O).trans ?_,(h _ O).trans ?_⟩
 . grind
 . grind
 . grind
 grind
def L7(n:Nat)(h:n<=2199023255552)(w:H):(Instr.makeSlice 23 (.int .i64 (n:Int)) (.int .i64 (n:Int))).run I w=.ok (C (some ⟨w.heap.size,0,none⟩) n n) (w.alloc (G (YC n) 41)):=by
 obtain⟨i,hi,b⟩:=CP.1 Tryz.infoRat;simp only[Prod.mk.injEq]at b;obtain⟨d,hs,c⟩:=b;have a:=run_make (P:=I) w 23 41 i _ Tryz.underlying23 hi d .i64 .i64 n n O (Int.le_refl _) (by rw[c];omega) O;simp only[CY,hs]at a;exact a
def P3(n:Nat)(w:H):Dl true (w.alloc (G (YC n) 41)) w.heap.size (List.replicate n 0):=by
 refine⟨YC n,BF w _,λj a=>?_⟩;rw[AJ]at a;obtain⟨b,c,d,e⟩:=Ni a;exact⟨_,_,_,_,b,c,d,e,by rw[J7];exact Xx _⟩
theorem jG(a b:Option Addr)(la ca lb cb:Nat)(ps qs:List Rat)(w:H)(t:RowK true w (C a la ca) ps)(x:RowK true w (C b lb cb) qs)(W:Sqs ps)(X:Sqs qs):
 F I 84 #[C a la ca,C b lb cb,.func (.func 41) #[] #[]] w λe w'=>∃v zs,e=.returned v/\RowK true w' v zs/\(∀j,cf zs j=cf ps j-cf qs j)/\L5 w.heap.size v/\Bl w w':=by
 obtain⟨T,ai,am,bf,_⟩:=t.forms;obtain⟨U,aj,an,bg,_⟩:=x.forms;obtain⟨n,hn⟩:∃n:Nat,max (la:Int) (lb:Int)=(n:Int):=⟨max la lb,O⟩;have bm:n<=1099511627776:=O
 obtain⟨HN,HA,HB,HP,HQ,Qp,Qq⟩:=Iu (show la<=n/\lb<=n from by omega) t x W X T U;have Qo:=L7 n O w;have m:=P3 n w;have r:Bl w (w.alloc (G (YC n) 41)):=Ba w _;obtain⟨W0,Q⟩:=ex (w.alloc (G (YC n) 41));rw[Q]at m r Qo;have Qr:=Z m;have Qn:=Z r;clear m r Q t x W X T U ai am aj an;go_enter Tryz.func84,Tryz.ntmps84
 go_wp2;go_loopw [17] (λi wr=>∃(k:Nat) (zs:List Rat),k<=n/\i=.int .i64 (k:Int)/\Hid (zs.length=n/\(∀j,j<k->cf zs j=cf ps j-cf qs j)/\Dl true wr w.heap.size zs/\Bl w wr)) λi _=>n-(intOf i).toNat
 case atStart=>exact⟨0,_,At _,rfl,Z ⟨AJ,λj g=>by omega,Qr.o,Qn.o⟩⟩
 case round=>
  obtain⟨k,zs,hk,rfl,c⟩:=hrel;by_cases bi:k<n
  . have bj:(k:Int)<(n:Int):=O
    have p:=Z (P1 _ ps (k:Int) wr (HA.o.below c.o.2.2.2));have q:=Z λ(V:H) (h:Bl wr V)=>P1 _ qs (k:Int) V ((HB.o.below c.o.2.2.2).below h);rw[BG O,CY]at p;rw[show(if(k:Int)<0 then(0:Rat)else cf qs ((k:Int)).toNat)=cf qs k from by grind]at q;have B:=Z λ(V:H) (u v:D) (hu:Jg V u (cf ps k)) (hv:Jg V v (cf qs k))=>I3 u v (cf ps k) (cf qs k) V hu hv (HP.o.at k) (HQ.o.at k);have o:=Z (show k<zs.length from by have:=c.o.1;omega);go_wp2_with(first
     |(go_at_call 165;refine p.o.mono ?_;clear p;rintro e w1 ⟨u1,rfl,f,R⟩;have l:=R)
     |(go_at_call 165;refine(q.o _ l).mono ?_;clear q;rintro e w2 ⟨u2,rfl,ae,y⟩;have f:=f.below y;have M:=Bt l y;clear l)
     |(go_at_call 41;refine(B.o _ _ _ f ae).mono ?_;clear B;rintro e w3 ⟨u3,rfl,ah,S⟩;have K:=Bt M S;clear M f ae R y S;have d:=c.o.2.2.1.below K;obtain⟨x0,y0,z0,t0,k0,k1,k2,k3,_⟩:=d.at o.o;have f0:=d.frozen (k*4);have f1:=d.frozen (k*4+1);have f2:=d.frozen (k*4+2);have f3:=d.frozen (k*4+3);obtain⟨bz,ap,bu,ay,ce,aq,bn,az,rfl⟩:=Jg.form ah))
    go_roundw
    case rel=>
     refine⟨k+1,zs.set k (cf ps k-cf qs k),O,by go_num,Z ⟨by rw[Fc];exact c.o.1,λj g=>?_,d.set o.o ah,Tt (Bt c.o.2.2.2 K) (Aa _) _ _ _ _⟩⟩;rw[GU _ _ _ _ o.o];by_cases z:j=k
     . rw[BH z,z]
     . rw[BG z];exact c.o.2.1 j O
    case measure=>simp[intOf];omega
  . have Qm:k=n:=O
    subst Qm;go_wp2;go_ret;have s:=c.o;have A:=s.2.2.1.row (n:=k) (cap:=k) O (Aa _) O O;rw[Af O]at A;refine⟨_,zs,rfl,A,λj=>?_,λa' l' c' e=>by cases e;exact Aa _,s.2.2.2⟩;rcases A6 j k with g|g
    . exact s.2.1 j g
    . have:=HN.o;have h1:=Qp.o;have h2:=Qq.o;rw[Ym O,Ym O,Ym O];grind
def UR(t x:D)(ps qs:List Rat)(w:H)(d:Jd w t ps)(f:Jd w x qs)(q:Sqs ps)(r:Sqs qs)(s:Sqs (JS ps qs)):
 F I 30 #[t,x] w λe w'=>∃u,e=.returned u/\Jd w' u (JS ps qs)/\Nh w.heap.size u/\Bl w w':=by
 obtain⟨u,rfl,d⟩:=d;obtain⟨v,rfl,f⟩:=f;obtain⟨a,la,ca,rfl⟩:=d.form;obtain⟨b,lb,cb,rfl⟩:=f.form;obtain⟨W0,c⟩:=ex (((w.alloc (G #[C a la ca] 25)).alloc (G #[C b lb cb] 25)).alloc (G #[C none 0 0] 25));have b0:Boxed W0 w.heap.size 25 (C a la ca):=by rw[<-c];exact((BI w _ _).alloc _).alloc _
 have K:Boxed W0 (w.heap.size+1) 25 (C b lb cb):=by rw[<-c];have:=(BI (w.alloc (G #[C a la ca] 25)) 25 (C b lb cb)).alloc (G #[C none 0 0] 25);simpa using this
 have M:Boxed W0 (w.heap.size+1+1) 25 (C none 0 0):=by rw[<-c];have:=BI ((w.alloc (G #[C a la ca] 25)).alloc (G #[C b lb cb] 25)) 25 (C none 0 0);simpa using this
 have g:Bl w W0:=by rw[<-c];exact((Ba w _).alloc DH _).alloc si _
 obtain⟨n,o,B,A⟩:=Do (jG a b la ca lb cb ps qs W0 (d.below g) (f.below g) q r) (λ(V:H) (v:D) (zs:List Rat) (h:RowK true V v zs) (hs:Sqs zs)=>Kd v zs V h hs) s c;have k0:=b0.cell;have k1:=K.cell;clear c d f q r s;go_enter Tryz.func30,Tryz.ntmps30
 go_upto_region 1 with fail
 rw[A.o];go_wp2_with(first
  |(go_at_call 84;refine n.o.mono ?_;clear n;rintro e w1 ⟨v1,zs,rfl,W,m,T,R⟩;have z:Sqs zs:=Sqs.of (λi=>by rw[m i,<-Oz];exact B.o.at i);have y:=Z m;clear m)
  |(go_at_call 43;refine(o.o _ _ zs W z).mono ?_;clear o;rintro e w2 ⟨u2,rfl,l,U,S⟩;obtain⟨a9,l9,c9,rfl⟩:=l.form;have hq:=Bt R S;have k:=boxed_below M hq;have X:=k.cell;have f2:=k.frozen))
 have Q:Jc zs=JS ps qs:=by
  rw[<-Yy];exact Il λj=>by rw[y.o j,Oz]
 rw[Q]at l;refine BC (by simp[results,Tryz.results30,go_sem,X]) rfl ⟨_,rfl,⟨_,rfl,FW k _ l.row⟩,?_,(Bt g hq).setCell (p:=⟨w.heap.size+1+1,0,none⟩) si _⟩;intro a' l' c' e;have:=U W0.heap.size T a' l' c' e;have h2:=g.size;omega
section
def Nj(r:Bool)(base:Nat)(W:H)(v:D)(qs:List Rat):Prop:=
 (v=C none 0 0/\qs=[])\/∃g cap cur,v=C (some ⟨g,0,none⟩) qs.length cap/\base<=g/\W.heap[g]?=some (G cur (Gr r) (0,0))/\qs.length<=cap/\cap<=maxLen/\cur.size=cap*4/\(∀c∈cur.toList,JR c=true)/\GL r W (cur.toList.take (qs.length*4)) qs
variable{r:Bool}{qs:List Rat}{base:Nat}{W:H}
theorem Nj.row{v:D}(h:Nj r base W v qs)(hl:qs.length<=1099511627776):RowK r W v qs:=by
 rcases h with⟨rfl,rfl⟩|⟨g,cap,cur,rfl,m,a,b,c,n,o,d⟩
 . exact RowK.nil r W
 . refine⟨_,cap,rfl,b,by unfold maxLen at c;omega,hl,Or.inr ⟨g,rfl,cur,a,λj e=>?_⟩⟩;obtain⟨x,y,z,u,f,i,k,l,p⟩:=d.2 j e;grind[]
theorem Nj.form{v:D}(h:Nj r base W v qs):∃a c,v=C a qs.length c/\(∀p,a=some p->base<=p.block):=by
 rcases h with⟨rfl,rfl⟩|⟨g,cap,cur,rfl,b,_⟩
 . exact⟨none,0,rfl,λp e=>by cases e⟩
 grind
end
section
open M3
theorem Nk(a b:List UInt8):(⟨a.toArray⟩:ByteArray)++⟨b.toArray⟩=⟨(a++b).toArray⟩:=by
 apply Fs;simp
theorem jH(a b:List UInt8):(⟨a.toArray⟩:ByteArray)++⟨#[47]⟩++⟨b.toArray⟩=⟨(a++47::b).toArray⟩:=by
 grind[Nk]
end
section
variable{c:Rat}
def jI(b:ByteArray)(n i:Nat)(r:List UInt8)(h:b.size-i=n):ByteArray.toList.loop b i r=r.reverse++b.data.toList.drop i:=by
 induction n generalizing i r with
 |zero=>
  rw[ByteArray.toList.loop,BG O,AR (by simpa using(by omega:b.size<=i)),CC]
 |succ n c=>
  have hi:i<b.size:=O
  have a:i<b.data.toList.length:=by simpa using hi
  rw[ByteArray.toList.loop,BH hi,c (i+1) _ O,List.reverse_cons,Cz,AK a];have e:b.get! i=b.data.toList[i]:=by
   show b.data[i]! = _;rw[getElem!_pos b.data i hi];simp
  rw[e];rfl
theorem P4(b:ByteArray):b.toList=b.data.toList:=by
 show ByteArray.toList.loop b 0 []=_;rw[jI b _ 0 [] rfl];rfl
def Yg(c:Rat):Rat:=if c<0 then -c else c
def Nl(i:Nat):List UInt8:=if i=0 then []else if i=1 then [120]else 120::94::Yz i
theorem neg_num:(c<0)↔c.num<0:=by
 rw[<-Rat.not_le,<-Rat.num_nonneg];omega
theorem jJ(h:c<0):Yg c=-c:=by unfold Yg;rw[BH h]
theorem jK(h:¬c<0):Yg c=c:=by unfold Yg;rw[BG h]
theorem jL(c:Rat):(Yg c).num=(c.num.natAbs:Int)/\(Yg c).den=c.den:=by
 grind[neg_num,jJ,Rat.neg_num,Rat.neg_den,jK]
end
namespace M3
def Nm{W W':H}{row:Option Nat}(hg:W.grownBy W' row)(z:∀r,row=some r->∃o:Obj,W.heap[r]?=some o/\o.isCells=false){k:IntKind}{v:D}{ds:List Nat}(h:Row k W v ds):Row k W' v ds:=by
 obtain⟨a,cap,e,n,p,q,c⟩:=h;refine⟨a,cap,e,n,p,q,?_⟩;rcases c with c|⟨b,A,l,d,i⟩
 . exact Or.inl c
 . by_cases g:ds=[]
   . exact Or.inl g
   . have hl:0<ds.length:=Ae.2 g;have f:some b≠row:=λe=>by
      obtain⟨o,y,x⟩:=z b e.symm;have s:=i 0 hl;cases o with
      |cells cs t m=>cases x
      |_=>simp[World.cell?,y]at s
     exact Or.inr ⟨b,A,l,d.of (hg.block b d.lt f),λj u=>(BU (w:=W) (hg.block b d.lt f)).trans (i j u)⟩
variable{cs:Array D}{W W':H}
def YL{row:Option Nat}(hg:W.grownBy W' row)(d:∀r,row=some r->∃o:Obj,W.heap[r]?=some o/\o.isCells=false){B:Nat}{t:TypeId}(h:Bx W B t cs):Bx W' B t cs:=by
 have b:some B≠row:=λe=>by
  obtain⟨o,a,c⟩:=d B e.symm;rw[show W.heap[B]?=_ from h]at a;cases a;cases c
 exact(hg.block B h.lt b).trans h
def Nn{row:Option Nat}(hg:W.grownBy W' row)(g:∀r,row=some r->∃o:Obj,W.heap[r]?=some o/\o.isCells=false){r:Bool}{v:D}{qs:List Rat}(h:RowK r W v qs):RowK r W' v qs:=by
 obtain⟨a,cap,e,j,k,l,c⟩:=h;refine⟨a,cap,e,j,k,l,?_⟩;rcases c with c|⟨b,i,f⟩
 . exact Or.inl c
 . have m:W'.heap[b]?=W.heap[b]?:=by
    obtain⟨cs,d,_⟩:=f;rw[d];exact YL hg g d
   exact Or.inr ⟨b,i,f.keep m λ_ _ _ h=>Nm hg g h⟩
def DI.own{w:H}{bs:List (Option (Nat × Dat))}{row:Option Nat}(M:DI w W bs)(hg:W.grownBy W' row)(b:∀r,row=some r->w.heap.size<=r/\∃o:Obj,W.heap[r]?=some o/\o.isCells=false):DI w W' bs:=by
 have a:∀r,row=some r->∃o:Obj,W.heap[r]?=some o/\o.isCells=false:=λr e=>(b r e).2;refine⟨λi B d h=>?_,M.2.1,M.2.2.grown hg M.2.2.size λk e=>(b k e).1⟩;obtain⟨⟨cs,c,f⟩,g⟩:=M.1 i B d h;exact⟨⟨cs,YL hg a c,f.keep (λ_ _ _ h=>Nm hg a h) (Or.inr λ_ _ h=>Nn hg a h)⟩,g⟩
def jM{w:H}{B:Nat}(b:w.heap.size<=B)(f:Nat->List (Option (Nat × Dat))):OwnFrom B (λk W=>DI w W (f k)):=
 λ_ _ _ _ M hg a=>M.own hg λr e=>⟨Ac b (a r e).1,(a r e).2⟩
def DI.with{w:H}{bs:List (Option (Nat × Dat))}(M:DI w W bs){b:Nat}(d:Dat)(m:Bx W b d.ty cs)(n:Has W (P cs) d)(p:w.heap.size<=b)(f:∀(i:Nat) B g,bs[i]?=some (some (B,g))->B≠b):DI w W (bs++[some (b,d)]):=by
 have e:∀(j:Nat) x,(bs++[some (b,d)])[j]?=some (some x)->bs[j]?=some (some x)\/(j=bs.length/\x=(b,d)):=λj x h=>by
  by_cases o:j<bs.length
  . rw[CG o]at h;exact Or.inl h
  . rw[AZ O]at h;obtain⟨k,hk⟩:=ex (j-bs.length);rw[hk]at h;cases k with
    |zero=>simp at h;exact Or.inr ⟨O,h.symm⟩
    |succ k=>simp at h
 refine⟨λj B d h=>?_,λj k B d1 l a c=>?_,M.2.2⟩
 . rcases e j _ h with h|⟨_,h⟩
   . exact M.1 j B d h
   . cases h;exact⟨⟨cs,m,n⟩,p⟩
 . rcases e j _ a with a|⟨q,a⟩<;>rcases e k _ c with c|⟨r,c⟩
   . exact M.2.1 j k B d1 l a c
   . cases c;exact absurd rfl (f j _ _ a)
   . cases a;exact absurd rfl (f k _ _ c)
   . omega
def IX(w W0 W:H)(bs:List (Option (Nat × Dat))):Prop:=DI w W bs/\KeepsOthers W0 W
def IX.below{w W0 W W':H}{bs:List (Option (Nat × Dat))}(h:IX w W0 W bs)(a:Bl W W'):IX w W0 W' bs:=⟨h.1.below a,h.2.trans (Xe a)⟩
def IX.drew{w W0 W:H}{bs:List (Option (Nat × Dat))}(h:IX w W0 W bs):IX w W0 W.drew bs:=h.below ((BD _ W).drew)
def P5(W:H)(B:Nat)(x y z u:D):KeepsOthers W (put4 W B x y z u):=(((BM _ _ _).trans (BM _ _ _)).trans (BM _ _ _)).trans (BM _ _ _)
def US(W:H)(B o:Nat)(x y z u:D):KeepsOthers W (putAt W B o x y z u):=(((BM _ _ _).trans (BM _ _ _)).trans (BM _ _ _)).trans (BM _ _ _)
