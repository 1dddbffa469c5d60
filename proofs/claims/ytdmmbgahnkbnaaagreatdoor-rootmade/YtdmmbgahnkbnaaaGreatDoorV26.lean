import Derived.Test.YtdmmbgahnkbnaaaGreatDoorV22
import Derived.Test.YtdmmbgahnkbnaaaGreatDoorV24
import Derived.Deep.RegionHeld3
import Derived.Deep.OwnRows
set_option linter.all false
open Go.Value renaming slice->C,bool->E,pointer->L,agg->S
open Go.Obj renaming cells->G
open Go renaming World->H,Value->D,Calls->F,undef->N
open Go.Proofs.Tryz renaming prog->I
set_option maxRecDepth 99999
set_option maxHeartbeats 0
namespace Go.Proofs.YtdmmbgahnkbnaaaGreatDoor
open Go.RowKit Go.Shelf
attribute [local go_sem] Oper.semAt_some
def C0:type_of% @decide_eq_decide:=@decide_eq_decide
def Kk(v z:D)(x y:Int)(w:H)(R:Jj w v x)(T:Jj w z y)(n:(Jh Y x.natAbs).length<1000000000000)(o:(Jh Y y.natAbs).length<1000000000000):
 F I 155 #[v,z] w λe w'=>∃u,e=.returned u/\Jj w' u (Int.gcd x y:Nat)/\Bl w w':=by
 obtain⟨a,la,ca,f,c⟩:=R;cases f;obtain⟨b,lb,cb,f,hv⟩:=T;cases f;have l:=c.len;have m:=hv.len;obtain⟨s,hs⟩:=ex (decide (x<0));obtain⟨t,q⟩:=ex (decide (y<0));rw[hs,q];obtain⟨W0,i⟩:=ex (((w.alloc (G #[E s,C a la ca] 39)).alloc (G #[E t,C b lb cb] 39)).alloc (G #[E false,C none 0 0] 39));obtain⟨g,b0,Q,d⟩:=NM i;have B:=Z (iW a la ca b lb cb _ _ W0 (UN.below c g) (UN.below hv g) (by rw[l];exact n) (by rw[m];exact o));have A:=Z λ(V:H) (u:D) (c:UN V u (Nat.gcd x.natAbs y.natAbs))=>show F I 94 #[E false,u] V λe w'=>∃u,e=.returned u/\Jj w' u (Int.gcd x y:Nat)/\Bl V w' from Kb false u _ V c;have k1:=b0.c1;have k3:=Q.c1;have M:=Z i;clear c hv hs q l m n o i;go_enter Tryz.func155,Tryz.ntmps155
 go_upto_region 1 with fail
 rw[M.o];go_wp2_with(first
  |(go_at_call 220;refine B.o.mono ?_;rintro e w1 ⟨u1,rfl,r,U⟩;obtain⟨na,nc,rfl⟩:=UN.form r)
  |(go_at_call 94;refine(A.o _ _ r).mono ?_;rintro e w2 ⟨u2,rfl,k,W⟩;obtain⟨sa,sl,sc,rfl⟩:=k.form;obtain⟨X,j⟩:=ex (decide (((Int.gcd x y:Nat):Int)<0));rw[j]at k;rw[j];clear j;have hq:=Bt U W;obtain⟨r0,r1⟩:=(d.below hq).cp;obtain⟨f0,f1⟩:=(d.below hq).fp))
 have P:=Bt g hq;have K:=k.box (d.below hq) rfl rfl (x0:=E X) (x1:=C sa sl sc);exact BA (by simp[results,Tryz.results155,go_sem,r0,r1]) rfl ⟨_,rfl,K,(P.setCell (p:=⟨_,0,none⟩) Di _).setCell (p:=⟨_,1,none⟩) Di _⟩
def jM(w:H)(a b c d:Obj):Bl w ((((w.alloc a).alloc b).alloc c).alloc d):=
 (((Ba w _).alloc DI _).alloc si _).alloc si _
theorem VD{x y z r:Int}(d:y≠0)(h:r+y*z=x)(c:0<=r)(e:r<y.natAbs):z=x/y/\r=x%y:=by
 rcases Int.lt_or_gt_of_ne d with hn|hp
 . have f:=(Int.ediv_emod_unique (a:=x) (b:=-y) (r:=r) (q:=-z) O).2 ⟨DH,c,O⟩;grind[Int.ediv_neg,Int.emod_neg]
 grind[Int.ediv_emod_unique]
theorem jN{x y:Int}(b:y≠0)(c:¬(x<0/\x.natAbs%y.natAbs≠0)):
 (if(!(decide (x<0)==decide (y<0)))=true then -((x.natAbs/y.natAbs:Nat):Int)else((x.natAbs/y.natAbs:Nat):Int))=x/y/\((x.natAbs%y.natAbs:Nat):Int)=x%y:=by
 have a:=Ci x.natAbs y.natAbs;have d:=Cl x.natAbs (show y.natAbs>0 by omega);generalize x.natAbs/y.natAbs=Q at *;generalize x.natAbs%y.natAbs=R at *;have e:(y.natAbs:Int)*Q+R=x.natAbs:=by rw[<-a];push_cast;rfl
 apply VD b _ O O;grind
theorem jO{x y:Int}(c:y≠0)(a:x<0/\x.natAbs%y.natAbs≠0):
 (if(!(decide (x<0)==decide (y<0)))=true then -((x.natAbs/y.natAbs+1:Nat):Int)else((x.natAbs/y.natAbs+1:Nat):Int))=x/y/\((y.natAbs-x.natAbs%y.natAbs:Nat):Int)=x%y:=by
 have b:=Ci x.natAbs y.natAbs;have e:=Cl x.natAbs (show y.natAbs>0 by omega);generalize x.natAbs/y.natAbs=Q at *;generalize x.natAbs%y.natAbs=R at *;have f:(y.natAbs:Int)*Q+R=x.natAbs:=by rw[<-b];push_cast;rfl
 obtain⟨g,d⟩:=a;apply VD c _ O O;grind
def jP{W:H}{B:Nat}{t:TypeId}{a b u0 u1:D}(x0 x1 y0 y1:D)(h:JC W B t a b)(k:JC W (B+1) t u0 u1):
 JC ((((W.setCell ⟨B,0,none⟩ x0).setCell ⟨B,1,none⟩ x1).setCell ⟨B+1,0,none⟩ y0).setCell ⟨B+1,1,none⟩ y1) B t x0 x1/\JC ((((W.setCell ⟨B,0,none⟩ x0).setCell ⟨B,1,none⟩ x1).setCell ⟨B+1,0,none⟩ y0).setCell ⟨B+1,1,none⟩ y1) (B+1) t y0 y1:=
 ⟨(((h.set0 x0).set1 x1).far DI y0).far DI y1,(((k.far DI x0).far DI x1).set0 y0).set1 y1⟩
def jQ(w:H)(a b c d:D)(p0 p1:D):
 JC ((((w.alloc (G #[a,b] 39)).alloc (G #[c,d] 39)).alloc (G #[p0,p1] 39)).alloc (G #[p0,p1] 39)) w.heap.size 39 a b/\
 JC ((((w.alloc (G #[a,b] 39)).alloc (G #[c,d] 39)).alloc (G #[p0,p1] 39)).alloc (G #[p0,p1] 39)) (w.heap.size+1) 39 c d/\
 JC ((((w.alloc (G #[a,b] 39)).alloc (G #[c,d] 39)).alloc (G #[p0,p1] 39)).alloc (G #[p0,p1] 39)) (w.heap.size+1+1) 39 p0 p1/\
 JC ((((w.alloc (G #[a,b] 39)).alloc (G #[c,d] 39)).alloc (G #[p0,p1] 39)).alloc (G #[p0,p1] 39)) (w.heap.size+1+1+1) 39 p0 p1:=by
 refine⟨(((JC.new w _ _ _).alloc _).alloc _).alloc _,?_,?_,?_⟩
 . have h:=((JC.new (w.alloc (G #[a,b] 39)) 39 c d).alloc (G #[p0,p1] 39)).alloc (G #[p0,p1] 39);rw[Ax]at h;exact h
 . have h:=(JC.new ((w.alloc (G #[a,b] 39)).alloc (G #[c,d] 39)) 39 p0 p1).alloc (G #[p0,p1] 39);rw[Ax,Ax]at h;exact h
 . have h:=JC.new (((w.alloc (G #[a,b] 39)).alloc (G #[c,d] 39)).alloc (G #[p0,p1] 39)) 39 p0 p1;rw[Ax,Ax,Ax]at h;exact h
theorem jR(a:Option Addr)(la ca:Nat)(b:Option Addr)(lb cb X c:Nat)(s t:Bool)(z r:Int)(w:H)(hu:UN w (C a la ca) X)(hv:UN w (C b lb cb) c)(hY:c≠0)(bm:la<1000000000000)(bn:lb<1000000000000)
(HP:Hid (¬(s=true/\X%c≠0)->(if(!(s==t))=true then -((X/c:Nat):Int)else((X/c:Nat):Int))=z/\((X%c:Nat):Int)=r))
(HN:Hid (s=true/\X%c≠0->(if(!(s==t))=true then -((X/c+1:Nat):Int)else((X/c+1:Nat):Int))=z/\((c-X%c:Nat):Int)=r)):
 F I 169 #[S #[E s,C a la ca],S #[E t,C b lb cb]] w λe w'=>∃q o,e=.returned (.tuple #[q,o,E true])/\Jj w' q z/\Jj w' o r/\Bl w w':=by
 obtain⟨b0,j,A,b5⟩:=jQ w (E s) (C a la ca) (E t) (C b lb cb) (E false) (C none 0 0);have x:=jM w (G #[E s,C a la ca] 39) (G #[E t,C b lb cb] 39) (G #[E false,C none 0 0] 39) (G #[E false,C none 0 0] 39);obtain⟨W0,ae⟩:=ex ((((w.alloc (G #[E s,C a la ca] 39)).alloc (G #[E t,C b lb cb] 39)).alloc (G #[E false,C none 0 0] 39)).alloc (G #[E false,C none 0 0] 39));rw[ae]at b0 j A b5 x;have Qh:=Z ae;have bu:lb≠0:=λe=>hY ((J9 Jg).1 (AH (by rw[<-UN.len hv,e])));have Qn:=UN.below hu x;have Qd:=UN.below hv x;have Qm:=Z (P7 a la ca b lb cb X c W0 Qn Qd hY O);have Qw:=Z Qd;have Qq:=Z (UN.len hu).symm;obtain⟨k0,k1⟩:=b0.cp;obtain⟨k2,l⟩:=j.cp;clear ae hu hv Qn Qd;go_enter Tryz.func169,Tryz.ntmps169
 go_upto_region 1 with fail
 rw[Qh.o];go_upto_region 4 with(go_at_call 224;refine Qm.o.mono ?_;rintro e w1 ⟨u1,v1,rfl,k,M,g⟩;obtain⟨ua,uc,rfl⟩:=UN.form k;obtain⟨va,vc,rfl⟩:=UN.form M)
 clear Qm Qh;obtain⟨k0,k1⟩:=(b0.below g).cp;obtain⟨k2,l⟩:=(j.below g).cp;have Qg:(Jh Y (X%c)).length=0↔X%c=0:=⟨λh=>(J9 Jg).1 (AH h),λh=>by rw[h,JW];rfl⟩;have ce:=Cl X (show c>0 by omega);have bz:=XV (m:=X) (n:=X/c) (Fb _ _);have Qk:(Jh Y (X/c)).length<1099511627776:=by
  have d:=(JK k).2.2.2.1
  have:(Jh Y X).length=la:=by
   have h:=Qq.o;omega
  omega
 obtain⟨lr,bf⟩:=ex ((Jh Y (X%c)).length);obtain⟨lq,az⟩:=ex ((Jh Y (X/c)).length);rw[bf]at M Qg ⊢;rw[az]at k Qk ⊢;obtain⟨cd,ay⟩:=ex ((s&&decide (0<lr)):Bool);have i:=Z ay;have Qp:=Z Qg;clear ay Qg bf az;go_cut [29] λv w2=>v=E cd/\w2=w1
 case first=>
  cases s with
  |false=>
   have e5:cd=false:=by rw[<-i.o];rfl
   go_wp2_with fail
   go_meet
   grind
  |true=>
   by_cases h5:0<lr
   . have e5:cd=true:=by rw[<-i.o];simp;omega
     go_wp2_with fail
     go_meet
     grind
   . have e5:cd=false:=by rw[<-i.o];simp;omega
     go_wp2_with fail
     go_meet
     grind
 case rest=>
  obtain⟨rfl,rfl⟩:=hcut;go_upto_if 29 with fail
  go_cut [7,8] λqv rv w2=>∃(W:Option Addr) (ql qc Q:Nat) (T:Option Addr) (ol U R:Nat),qv=C W ql qc/\rv=C T ol U/\Hid (UN w2 (C W ql qc) Q)/\Hid (UN w2 (C T ol U) R)/\Hid ((if(!(s==t))=true then -(Q:Int)else(Q:Int))=z/\(R:Int)=r)/\Bl W0 w2
  case first=>
   cases cd with
   |false=>
    have K:¬(s=true/\X%c≠0):=λ⟨d,h2⟩=>by
     have h:=i.o;rw[d]at h;simp at h;exact h2 (Qp.o.1 h)
    go_wp2_with fail
    go_meet
    case rel=>exact⟨_,_,_,_,_,_,_,_,rfl,rfl,Z k,Z M,Z (HP.o K),g⟩
   |true=>
    have K:s=true/\X%c≠0:=by
     have h:=i.o;simp at h;exact⟨h.1,λe=>by have:=Qp.o.2 e;omega⟩
    have HC:=Z K;clear K;have Qv:=Z (show ∀V:H,Bl wc V->F I 100 #[C ua lq uc,C (some ⟨V.heap.size,0,none⟩) 1 1] (V.alloc (G #[.int .u64 1] 141)) λe w'=>∃u,e=.returned u/\UN w' u (X/c+1)/\Below (V.alloc (G #[.int .u64 1] 141)).heap.size (V.alloc (G #[.int .u64 1] 141)) w' from λV h=>by
     have Qe:Row .u64 (V.alloc (G #[.int .u64 1] 141)) (C (some ⟨V.heap.size,0,none⟩) 1 1) (Jh Y 1):=by
      rw[P8 O uo];exact(DS.made (xs:=[1]) (BD V (G #[.int .u64 ((1:Nat):Int)] 141))).row 0 1 1 DI O O O
     exact Ti ua lq uc (some ⟨V.heap.size,0,none⟩) 1 1 (X/c) 1 _ (Row.below (Row.below k h) (Ba V _)) Qe Qk O)
    have Qz:=Z λ(V:H) (h:Bl wc V)=>Po b lb cb va lr vc c (X%c) V (Row.below (Row.below Qw.o g) h) (Row.below M h) O;have hq:Bl wc wc.drew:=(BB _ wc).drew;have bx:=j.below g;go_wp2_with fail
    have l:=bx.c1;go_region_held3 (λw'=>w'.cell? ⟨w.heap.size+1,1,none⟩=some (C b lb cb)) (first|exact l|(go_keep;done))
     (first
      |(go_at_call 100;refine(Qv.o _ hq).mono ?_;rintro e w3 ⟨u3,rfl,bg,bj⟩;obtain⟨pa,pc,rfl⟩:=UN.form bg;have hq:=UV hq bj;have l:=(bx.below hq).c1)
      |(go_at_call 102;refine(Qz.o _ hq).mono ?_;rintro e w4 ⟨u4,rfl,bi,ap⟩;obtain⟨ma,mc,rfl⟩:=UN.form bi;have hq:=Bt hq ap;have l:=(bx.below hq).c1))
    all_goals go_wp2_with fail
    go_meet
    case rel=>exact⟨_,_,_,_,_,_,_,_,rfl,rfl,Z (UN.below bg ap),Z bi,Z (HN.o HC.o),Bt g hq⟩
  case rest=>
   obtain⟨W,ql,qc,Q,T,ol,U,R,rfl,rfl,hQ,hR,hZ,B⟩:=hcut;have Qi:=Z (show ∀V:H,Bl wc V->F I 94 #[E (!(s==t)),C W ql qc] V λe w'=>∃u,e=.returned u/\Jj w' u z/\Bl V w' from λV h=>by
    have d:=Kb (!(s==t)) _ _ V (UN.below hQ.o h);rw[hZ.o.1]at d;exact d)
   have Qj:=Z (show ∀V:H,Bl wc V->F I 94 #[E false,C T ol U] V λe w'=>∃u,e=.returned u/\Jj w' u r/\Bl V w' from λV h=>by
    have d:=Kb false _ _ V (UN.below hR.o h);simp only[CR,if_false]at d;rw[hZ.o.2]at d;exact d)
   have k0:=(b0.below B).c0;have k2:=(j.below B).c0;go_wp2_with(first
    |(go_at_call 94;refine(Qi.o _ (BB _ _)).mono ?_;clear Qi;rintro e w5 ⟨u5,rfl,am,ah⟩;obtain⟨y,P,c5,rfl⟩:=am.form;obtain⟨s5,ai⟩:=ex (decide (z<0));rw[ai]at am;rw[ai];clear ai)
    |(go_at_call 94;refine(Qj.o _ ah).mono ?_;clear Qj;rintro e w6 ⟨u6,rfl,an,aq⟩;obtain⟨a6,l6,c6,rfl⟩:=an.form;obtain⟨s6,aj⟩:=ex (decide (r<0));rw[aj]at an;rw[aj];clear aj;have f:=(Bt B ah).trans (aq.mono (Bt B ah).size);obtain⟨q0,q1⟩:=(A.below f).cp;obtain⟨q2,q3⟩:=(b5.below f).cp;obtain⟨f0,f1⟩:=(A.below f).fp;obtain⟨f2,f3⟩:=(b5.below f).fp))
   have Qf:=A.below f;have Qo:=b5.below f;obtain⟨z4,z5⟩:=jP (E s5) (C y P c5) (E s6) (C a6 l6 c6) Qf Qo;obtain⟨Qy,Qx⟩:=z4.cp;obtain⟨Qr,Qu⟩:=z5.cp;have Ql:JC ((w6.setCell ⟨w.heap.size+1+1,0,none⟩ (E s5)).setCell ⟨w.heap.size+1+1,1,none⟩ (C y P c5)) (w.heap.size+1+1+1) 39 (E false) (C none 0 0):=(Qo.far DI _).far DI _;have Qs:=((am.below aq).box Qf rfl rfl (x0:=E s5) (x1:=C y P c5)).box Ql rfl rfl (x0:=E s6) (x1:=C a6 l6 c6);have Qt:=(an.box Qf rfl rfl (x0:=E s5) (x1:=C y P c5)).box Ql rfl rfl (x0:=E s6) (x1:=C a6 l6 c6);have Ua:=Bt x f;exact BA (by simp[results,Tryz.results169,go_sem,Qy,Qx,Qr,Qu]) rfl ⟨_,_,rfl,Qs,Qt,(((Ua.setCell (p:=⟨_,0,none⟩) Di _).setCell (p:=⟨_,1,none⟩) Di _).setCell (p:=⟨_,0,none⟩) Di _).setCell (p:=⟨_,1,none⟩) Di _⟩
def Nt(g i:D)(x y:Int)(w:H)(j:Jj w g x)(k:Jj w i y)(f:y≠0)(l:(Jh Y x.natAbs).length<1000000000000)(m:(Jh Y y.natAbs).length<1000000000000):
 F I 169 #[g,i] w λe w'=>∃q o,e=.returned (.tuple #[q,o,E true])/\Jj w' q (x/y)/\Jj w' o (x%y)/\Bl w w':=by
 obtain⟨a,la,ca,rfl,d⟩:=j;obtain⟨b,lb,cb,rfl,hv⟩:=k;refine jR a la ca b lb cb x.natAbs y.natAbs _ _ (x/y) (x%y) w d hv O (by rw[UN.len d];exact l) (by rw[UN.len hv];exact m) (λc=>jN f λh=>c ⟨BJ h.1,h.2⟩) (λc=>jO f ⟨BW c.1,c.2⟩)
section
open M3
def jS(z:Int):(XO z 0=0)↔z=0:=by
 unfold XO;omega
def VE(v:D)(z:Int)(w:H)(h:Jj w v z):
 F I 99 #[v] w λe w'=>e=.returned (E (decide (z=0)))/\Bl w w':=by
 obtain⟨a,l,c,rfl⟩:=h.form;obtain⟨s,hs⟩:=ex (decide (z<0));rw[hs]at h ⊢;clear hs;have b0:=JC.new w 39 (E s) (C a l c);have b:Bl w (w.alloc (G #[E s,C a l c] 39)):=Ba w _;obtain⟨W0,d⟩:=ex (w.alloc (G #[E s,C a l c] 39));rw[d]at b0 b;have i:=Z d;have f:=Z (IY _ _ z 0 W0 (h.below b) (EY _));obtain⟨k,m⟩:=b0.cp;have g:=Z (jS z);obtain⟨n,hn⟩:=ex (XO z 0);rw[hn]at f g;clear d hn;go_enter Tryz.func99,Tryz.ntmps99
 go_upto_region 1 with fail
 rw[i.o];go_wp2_with(go_at_call 86;refine f.o.mono ?_;rintro e w1 ⟨rfl,j⟩)
 go_ret;refine⟨?_,Bt b j⟩;show Ending.returned (Value.bool (n==0))=_;have e:(n==0)=decide (z=0):=by rw[FC];simp[g.o]
 rw[e]
def dd(y:Int):Int:=if y=0 then 1 else y
def VF(v:D)(x y:Int)(w:H)(h:Xq w v x y):
 F I 64 #[v] w λe w'=>e=.returned (E (decide (y=0)))/\Bl w w':=by
 obtain⟨s,a,l,c,t,b,k,d,rfl,p,m⟩:=h;have b0:=JQ.new w 41 (E s) (C a l c) (E t) (C b k d);have f:Bl w (w.alloc (G #[E s,C a l c,E t,C b k d] 41)):=Ba w _;obtain⟨W0,g⟩:=ex (w.alloc (G #[E s,C a l c,E t,C b k d] 41));rw[g]at b0 f;have j:=Z g;have i:=Z (VE _ _ W0 (m.below f));have q:=b0.c2;have r:=b0.c3;obtain⟨n,hn⟩:=ex (decide (y=0));rw[hn]at i ⊢;clear g hn;go_enter Tryz.func64,Tryz.ntmps64
 go_upto_region 1 with fail
 rw[j.o];go_wp2_with(go_at_call 99;refine i.o.mono ?_;rintro e w1 ⟨rfl,o⟩)
 go_ret;exact⟨rfl,Bt f o⟩
def VG(v:D)(x y:Int)(w:H)(h:Xq w v x y):
 F I 88 #[v] w λe w'=>∃u,e=.returned u/\Jj w' u (dd y)/\Bl w w':=by
 have B:=h;obtain⟨s,a,l,c,t,b,k,d,rfl,T,K⟩:=h;obtain⟨W0,i⟩:=ex ((w.alloc (G #[E s,C a l c,E t,C b k d] 41)).alloc (G #[E false,C none 0 0] 39));have b0:JQ W0 w.heap.size 41 (E s) (C a l c) (E t) (C b k d):=by rw[<-i];exact(JQ.new w _ _ _ _ _).alloc _
 have m:Bl w W0:=by rw[<-i];exact L3 w _ _
 have g:JC W0 (w.heap.size+1) 39 (E false) (C none 0 0):=by
  have h:=JC.new (w.alloc (G #[E s,C a l c,E t,C b k d] 41)) 39 (E false) (C none 0 0);rw[Ax,i]at h;exact h
 have j:=Z (VF _ x y W0 (B.below m));have A:=Z i;obtain⟨V,W,X,k3⟩:=b0.cq;have R:=Z (K.below m);clear B T K i;by_cases hq:y=0
 . rw[BJ hq]at j;have n:=Z (show dd y=1 by unfold dd;rw[BF hq]);clear hq;go_enter Tryz.func88,Tryz.ntmps88
   go_upto_region 1 with fail
   rw[A.o];go_wp2_with(first
    |(go_at_call 64;refine j.o.mono ?_;rintro e w1 ⟨rfl,f⟩)
    |(go_at_call 35;refine(FM 1 O O _).mono ?_;rintro e w2 ⟨u2,rfl,z,U⟩;obtain⟨Q,sl,sc,rfl⟩:=z.form;obtain⟨P,r⟩:=ex (decide ((1:Int)<0));rw[r]at z;rw[r];clear r;have hq:=Bt f U;obtain⟨r0,r1⟩:=(g.below hq).cp;obtain⟨f0,f1⟩:=(g.below hq).fp))
   have q:=Bt m hq;have o:=z.box (g.below hq) rfl rfl (x0:=E P) (x1:=C Q sl sc);exact BA (v:=S #[E P,C Q sl sc]) (by simp[results,Tryz.results88,go_sem,r0,r1]) rfl ⟨_,rfl,by rw[n.o];exact o,(q.setCell (p:=⟨_,0,none⟩) Di _).setCell (p:=⟨_,1,none⟩) Di _⟩
 . rw[BM hq]at j;have n:=Z (show y=dd y by unfold dd;rw[BE hq]);clear hq;go_enter Tryz.func88,Tryz.ntmps88
   go_upto_region 1 with fail
   rw[A.o];go_wp2_with(go_at_call 64;refine j.o.mono ?_;rintro e w1 ⟨rfl,f⟩;have m2:=(b0.below f).c2;have m3:=(b0.below f).c3;obtain⟨r0,r1⟩:=(g.below f).cp;obtain⟨f0,f1⟩:=(g.below f).fp)
   have q:=Bt m f;have M:=R.o.below f;rw[n.o]at M;have o:=M.box (g.below f) rfl rfl (x0:=E t) (x1:=C b k d);exact BA (v:=S #[E t,C b k d]) (by simp[results,Tryz.results88,go_sem,r0,r1]) rfl ⟨_,rfl,o,(q.setCell (p:=⟨_,0,none⟩) Di _).setCell (p:=⟨_,1,none⟩) Di _⟩
def QD(q:Rat):dd (D7 q)=q.den:=by
 have:=q.den_pos;unfold dd D7;omega
def LQ(v:D)(q:Rat)(w:H)(h:Jf w v q):
 F I 64 #[v] w λe w'=>e=.returned (E (decide (q.den=1)))/\Bl w w':=by
 have a:=VF v q.num (D7 q) w h.pair;rwa[C0.2 NQ]at a
def FZ(v:D)(q:Rat)(w:H)(h:Jf w v q):
 F I 88 #[v] w λe w'=>∃u,e=.returned u/\Jj w' u (q.den:Int)/\Bl w w':=by
 have a:=VG v q.num (D7 q) w h.pair;rwa[QD]at a
def Gu(M P:D)(x y:Int)(w:H)(g:Jj w M x)(i:Jj w P y)(K:y≠0)(v:Sok x)(z:Sok y):
 F I 156 #[M,P] w λe w'=>∃u,e=.returned u/\Jj w' u (x/y)/\Bl w w':=by
 obtain⟨a,la,ca,rfl⟩:=g.form;obtain⟨b,lb,cb,rfl⟩:=i.form;obtain⟨s,hs⟩:=ex (decide (x<0));obtain⟨t,A⟩:=ex (decide (y<0));rw[hs]at g ⊢;rw[A]at i ⊢;clear hs A;obtain⟨W0,m⟩:=ex (((w.alloc (G #[E s,C a la ca] 39)).alloc (G #[E t,C b lb cb] 39)).alloc (G #[E false,C none 0 0] 39));obtain⟨l,b0,V,W⟩:=NM m;have Q:=Z (Nt _ _ x y W0 (g.below l) (i.below l) K (by have:=v.words;omega) (by have:=z.words;omega));have T:=Z m;obtain⟨k0,k1⟩:=b0.cp;obtain⟨k2,k3⟩:=V.cp;clear g i K v z m;go_enter Tryz.func156,Tryz.ntmps156
 go_upto_region 1 with fail
 rw[T.o];go_upto_region 2 with(go_at_call 169;refine Q.o.mono ?_;rintro e w1 ⟨u1,u2,rfl,q,B,r⟩;obtain⟨c,l1,c1,rfl⟩:=q.form;obtain⟨d,n⟩:=ex (decide (x/y<0));rw[n]at q;rw[n];clear n;obtain⟨f,l2,c2,rfl⟩:=B.form;obtain⟨j,o⟩:=ex (decide (x%y<0));rw[o]at B;rw[o];clear o)
 have X:=(JC.new w1 39 (E d) (C c l1 c1)).alloc (G #[E j,C f l2 c2] 39);have k:=((W.below r).alloc (G #[E d,C c l1 c1] 39)).alloc (G #[E j,C f l2 c2] 39);have hu:=(q.alloc (G #[E d,C c l1 c1] 39)).alloc (G #[E j,C f l2 c2] 39);have U:Bl w ((w1.alloc (G #[E d,C c l1 c1] 39)).alloc (G #[E j,C f l2 c2] 39)):=Bt (Bt l r) (L3 w1 _ _)
 obtain⟨q0,q1⟩:=X.cp;obtain⟨r0,r1⟩:=k.cp;obtain⟨f0,f1⟩:=k.fp;go_wp2_with fail
 have R:=hu.box k rfl rfl (x0:=E d) (x1:=C c l1 c1);exact BA (by simp[results,Tryz.results156,go_sem,r0,r1]) rfl ⟨_,rfl,R,(U.setCell (p:=⟨_,0,none⟩) Di _).setCell (p:=⟨_,1,none⟩) Di _⟩
def QE(w:H)(s t:Bool)(a b:Option Addr)(la ca lb cb:Nat)(x y:Int)(c:Jj w (S #[E s,C a la ca]) x)(d:Jj w (S #[E t,C b lb cb]) y):
 DJ w (((w.alloc (G #[E s,C a la ca] 39)).alloc (G #[E t,C b lb cb] 39)).alloc (G #[E false,C none 0 0,E false,C none 0 0] 41)) [some (w.heap.size,.int x),some (w.heap.size+1,.int y),some (w.heap.size+1+1,.rat 0)]:=by
 have h:=(((DJ.nil w).push (.int x) c).push (.int y) (d.alloc _)).push (.rat 0) (Xx _);rw[Ax,Ax,Ax]at h;exact h
def Jf.mk{W:H}{s t:Bool}{a b:Option Addr}{l c k d:Nat}{q:Rat}(e:Jj W (S #[E s,C a l c]) q.num)(f:Jj W (S #[E t,C b k d]) (D7 q)):Jf W (S #[E s,C a l c,E t,C b k d]) q:=⟨_,_,_,_,_,_,_,_,rfl,e,f⟩
def Nu(K M:D)(q:Rat)(w:H)(f:Jj w K q.num)(d:Jj w M (q.den:Int)):
 F I 157 #[K,M] w λe w'=>∃u,e=.returned u/\Jf w' u q/\Bl w w':=by
 obtain⟨a,la,ca,rfl⟩:=f.form;obtain⟨b,lb,cb,rfl⟩:=d.form;obtain⟨s,hs⟩:=ex (decide (q.num<0));obtain⟨t,x⟩:=ex (decide ((q.den:Int)<0));rw[hs]at f ⊢;rw[x]at d ⊢;clear hs x;have l:=QE w s t a b la ca lb cb _ _ f d;obtain⟨W0,c⟩:=ex (((w.alloc (G #[E s,C a la ca] 39)).alloc (G #[E t,C b lb cb] 39)).alloc (G #[E false,C none 0 0,E false,C none 0 0] 41));have b0:JC W0 w.heap.size 39 (E s) (C a la ca):=by rw[<-c];exact((JC.new w _ _ _).alloc _).alloc _
 have m:JC W0 (w.heap.size+1) 39 (E t) (C b lb cb):=by
  have h:=(JC.new (w.alloc (G #[E s,C a la ca] 39)) 39 (E t) (C b lb cb)).alloc (G #[E false,C none 0 0,E false,C none 0 0] 41);rw[Ax,c]at h;exact h
 have o:JQ W0 (w.heap.size+1+1) 41 (E false) (C none 0 0) (E false) (C none 0 0):=by
  have h:=JQ.new ((w.alloc (G #[E s,C a la ca] 39)).alloc (G #[E t,C b lb cb] 39)) 41 (E false) (C none 0 0) (E false) (C none 0 0);rw[Ax,Ax,c]at h;exact h
 rw[c]at l;have g:=l.2.2;obtain⟨j,r,P,Q⟩:=Dt (λ(V:H) (u:D) (h:Bl W0 V) (U:Jj V u 1)=>IY _ u (q.den:Int) 1 V ((d.below g).below h) U) (f.below g) (d.below g) c;obtain⟨X,k1⟩:=b0.cp;obtain⟨y,z⟩:=m.cp;have k:=Z (show(XO (q.den:Int) 1=0)↔q.den=1 by unfold XO;split<;>(try split)<;>omega);obtain⟨n,hn⟩:=ex (XO (q.den:Int) 1);rw[hn]at j k;clear f d c hn l;go_enter Tryz.func157,Tryz.ntmps157
 go_upto_region 1 with fail
 rw[Q.o];have hq:Bl W0 W0.drew:=(BB _ W0).drew;go_region_held3 (λw'=>w'.cell? ⟨w.heap.size+1,0,none⟩=some (E t)/\w'.cell? ⟨w.heap.size+1,1,none⟩=some (C b lb cb)) (refine⟨?_,?_⟩<;>(first|(go_keep;done)|((repeat rw[JR O]);simp[*];done)))
  (first
   |(go_at_call 35;refine(FM 1 O O _).mono ?_;rintro e w1 ⟨u1,rfl,W,R⟩;have hq:=Bt hq R;obtain⟨y,z⟩:=(m.below hq).cp)
   |(go_at_call 86;refine(j.o _ _ hq W).mono ?_;clear j;rintro e w2 ⟨rfl,T⟩;have hq:=Bt hq T;obtain⟨X,k1⟩:=(b0.below hq).cp;obtain⟨y,z⟩:=(m.below hq).cp;obtain⟨r0,r1,A,B⟩:=(o.below hq).cq;obtain⟨f0,f1,f2,f3⟩:=(o.below hq).fq))
 have v:=Bt g hq;have bw:=o.below hq;by_cases hn:n=0
 . have i:=Z (show D7 q=0 from NQ.2 (k.o.1 hn));subst hn;have p:Jf w2 (S #[E s,C a la ca,E false,C none 0 0]) q:=Jf.mk (r.o.below hq) (by rw[i.o];exact EY _);go_wp2_with fail
   exact BA (by simp[results,Tryz.results157,go_sem,r0,r1,A,B]) rfl ⟨_,rfl,p.put4 bw rfl rfl rfl rfl _ _ _ _,Jv v O _ _ _ _⟩
 . have i:=Z (show D7 q=q.den by unfold D7;rw[BE λh=>hn (k.o.2 h)]);have p:Jf w2 (S #[E s,C a la ca,E t,C b lb cb]) q:=Jf.mk (r.o.below hq) (by rw[i.o];exact P.o.below hq);go_wp2_with fail
   exact BA (by simp[results,Tryz.results157,go_sem,r0,r1,A,B]) rfl ⟨_,rfl,p.put4 bw rfl rfl rfl rfl _ _ _ _,Jv v O _ _ _ _⟩
def LR{x y:Int}(a:y≠0):(0:Int)<(Int.gcd x y:Nat):=by
 have:=Int.gcd_pos_of_ne_zero_right x a;omega
theorem VH(va vb:D)(x y:Int)(w:H)(ha:Jj w va x)(p:Jj w vb y)(hy:y≠0)(bm:Sok x)(bn:Sok y):
 F I 93 #[va,vb] w λe w'=>∃u,e=.returned u/\Jf w' u (Rat.divInt x y)/\Bl w w':=by
 obtain⟨W,X,f⟩:=DX bm bn hy;clear bm bn hy;obtain⟨s,a,la,ca,rfl⟩:=Jj.form2 ha;obtain⟨t,b,lb,cb,rfl⟩:=Jj.form2 p;have M0:=QE w s t a b la ca lb cb _ _ ha p;obtain⟨W0,an⟩:=ex (((w.alloc (G #[E s,C a la ca] 39)).alloc (G #[E t,C b lb cb] 39)).alloc (G #[E false,C none 0 0,E false,C none 0 0] 41));have Qp:=Z an;rw[an]at M0;have M1:=Z M0;clear M0 ha p an;go_enter Tryz.func93,Tryz.ntmps93
 go_upto_region 1 with fail
 rw[Qp.o];clear Qp;obtain⟨s1,a1,l1,c1,n1,i1⟩:=M1.o.int (i:=0) rfl;have Qr:=n1.ka;obtain⟨s2,a2,l2,c2,n2,i2⟩:=M1.o.int (i:=1) rfl;have Qs:=n2.ka;go_upto_region 2 with(go_at_call 155;refine(Kk _ _ x y _ i1 i2 (by have:=W.o.words;omega) (by have:=X.o.words;omega)).mono ?_;rintro e w1 ⟨u,rfl,m,p⟩;obtain⟨cn,bf,ce,bi,rfl⟩:=Jj.form2 m)
 obtain⟨V3,l⟩:=ex (w1.alloc (G #[E cn,C bf ce bi] 39));obtain⟨B3,am⟩:=ex (w1.heap.size);have j:DJ w (w1.alloc (G #[E cn,C bf ce bi] 39)) [some (w.heap.size,.int x),some (w.heap.size+1,.int y),some (w.heap.size+1+1,.rat 0),some (w1.heap.size,.int (((Int.gcd x y:Nat):Int)))]:=DJ.push (M1.o.below p) (.int (((Int.gcd x y:Nat):Int))) m;rw[l,am]at j;rw[l];rw[am];have n:=Z (j);clear M1;clear j l am;clear n1 Qr i1 n2 Qs i2 m p;have U:=Z (Sok.gcd W.o X.o);by_cases hn:y<0
 . have K:=Z hn;clear hn;obtain⟨s4,a4,l4,c4,n4,i4⟩:=n.o.int (i:=1) rfl;have Qt:=n4.ka;have g:=Z (IY _ _ y 0 V3 i4 (EY _));rw[show XO y 0=-1 from by unfold XO;rw[BF K.o]]at g;go_upto_region 3 with(go_at_call 86;refine g.o.mono ?_;rintro e q ⟨rfl,R⟩)
   have M3:=Z (n.o.below R);clear n;clear n4 Qt i4 g R;obtain⟨s5,a5,l5,c5,n5,i5⟩:=M3.o.int (i:=3) rfl;have Qq:=n5.ka;go_upto_region 4 with(go_at_call 105;refine(QC _ _ 0 (((Int.gcd x y:Nat):Int)) _ (EY _) i5 (by have:=Sok.zero.words;omega) (by have:=U.o.words;omega)).mono ?_;rintro e w6 ⟨u6,rfl,az,ae⟩;obtain⟨co,bg,cj,bj,rfl⟩:=Jj.form2 az;have Qq:=(n5.below ae).ka;have Qv:=(n5.below ae).fa)
   obtain⟨P,l⟩:=ex ((w6.setCell ⟨B3,0,none⟩ (E co)).setCell ⟨B3,1,none⟩ (C bg cj bj));have j:DJ w ((w6.setCell ⟨B3,0,none⟩ (E co)).setCell ⟨B3,1,none⟩ (C bg cj bj)) [some (w.heap.size,.int x),some (w.heap.size+1,.int y),some (w.heap.size+1+1,.rat 0),some (B3,.int (0-((Int.gcd x y:Nat):Int)))]:=DJ.putInt (M3.o.below ae) (i:=3) rfl az;rw[l]at j;rw[l];have o:=Z (j);clear M3;clear j l;clear n5 Qq i5 az ae;clear Qv;obtain⟨M,B,Qo⟩:=DX (show(0-((Int.gcd x y:Nat):Int))≠0 by have:=LR (x:=x) f.o;omega) (show(0-((Int.gcd x y:Nat):Int))=(if y<0 then -((Int.gcd x y:Nat):Int)else((Int.gcd x y:Nat):Int))by rw[BF K.o];omega) (show Sok (0-((Int.gcd x y:Nat):Int))by rw[Int.zero_sub];exact U.o.neg);obtain⟨s7,a7,l7,c7,n7,i7⟩:=o.o.int (i:=0) rfl;have Qm:=n7.ka;obtain⟨s8,a8,l8,c8,n8,i8⟩:=o.o.int (i:=1) rfl;have Ql:=n8.ka;obtain⟨s9,a9,l9,c9,n9,i9⟩:=o.o.int (i:=3) rfl;have Qn:=n9.ka;obtain⟨jb,gu,ix,ia,je,b10,iu,ie,c,r10,ii,il⟩:=o.o.rat (i:=2) rfl;have Qa:=c.kb;have Qe:=c.fb;obtain⟨r,z,A⟩:=DX (λ(V:H) (h:Bl P V)=>Gu _ _ x ((0-((Int.gcd x y:Nat):Int))) V (i7.below h) (i9.below h) M.o W.o Qo.o) (λ(V:H) (h:Bl P V)=>Gu _ _ y ((0-((Int.gcd x y:Nat):Int))) V (i8.below h) (i9.below h) M.o X.o Qo.o) λ(V:H) (u v:D) (m:Jj V u (x/(0-((Int.gcd x y:Nat):Int)))) (hv:Jj V v (y/(0-((Int.gcd x y:Nat):Int))))=>Nu u v (Rat.divInt x y) V (by rw[TS f.o,<-B.o];exact m) (by rw[TT f.o,<-B.o];exact hv);have Qu:=o.o.ne 3 2 rfl rfl DK;have hq:Bl P P.drew:=(BB _ P).drew;go_region_held3 (λw'=>(w'.cell? ⟨w.heap.size,0,none⟩=some (E s7)/\w'.cell? ⟨w.heap.size,1,none⟩=some (C a7 l7 c7))/\(w'.cell? ⟨w.heap.size+1,0,none⟩=some (E s8)/\w'.cell? ⟨w.heap.size+1,1,none⟩=some (C a8 l8 c8))/\w'.cell? ⟨B3,0,none⟩=some (E s9)/\w'.cell? ⟨B3,1,none⟩=some (C a9 l9 c9)) (first|grind|(go_keep;done)|grind[JR])
    (first
     |(go_at_call 156;refine(r.o _ hq).mono ?_;clear r;rintro e w2 ⟨u2,rfl,k,ap⟩;have hq:=Bt hq ap;have Qm:=(n7.below hq).ka;have Ql:=(n8.below hq).ka;have Qn:=(n9.below hq).ka;have Qa:=(c.below hq).kb;have Qe:=(c.below hq).fb)
     |(go_at_call 156;refine(z.o _ hq).mono ?_;clear z;rintro e w3 ⟨u3,rfl,ay,Q⟩;have k:=k.below Q;have hq:=Bt hq Q;have Qm:=(n7.below hq).ka;have Ql:=(n8.below hq).ka;have Qn:=(n9.below hq).ka;have Qa:=(c.below hq).kb;have Qe:=(c.below hq).fb)
     |(go_at_call 157;refine(A.o _ _ _ k ay).mono ?_;clear A;rintro e w4 ⟨u4,rfl,T,aq⟩;obtain⟨gq,di,gh,ed,gr,dj,fi,ei,rfl⟩:=Jf.form T;have hq:=Bt hq aq;have Qm:=(n7.below hq).ka;have Ql:=(n8.below hq).ka;have Qn:=(n9.below hq).ka;have Qa:=(c.below hq).kb;have Qe:=(c.below hq).fb))
   all_goals go_wp2_with fail
   have Qk:=Bt o.o.2.2 hq;exact BA (by simp[results,Tryz.results93,go_sem,Qa]) rfl ⟨_,rfl,T.put4 (c.below hq) rfl rfl rfl rfl _ _ _ _,Jv Qk O _ _ _ _⟩
 . have K:=Z hn;clear hn;obtain⟨jc,gv,iy,ib,ck,bu⟩:=n.o.int (i:=1) rfl;have Qj:=ck.ka;have g:=Z (IY _ _ y 0 V3 bu (EY _));rw[show XO y 0=1 from by have h1:=K.o;have h2:=f.o;unfold XO;omega]at g;go_upto_region 4 with(go_at_call 86;refine g.o.mono ?_;rintro e q ⟨rfl,R⟩)
   have M3:=Z (n.o.below R);clear n;clear ck Qj bu g R;have M:=Z (show((Int.gcd x y:Nat):Int)≠0 by have:=LR (x:=x) f.o;omega);have B:=Z (show((Int.gcd x y:Nat):Int)=(if y<0 then -((Int.gcd x y:Nat):Int)else((Int.gcd x y:Nat):Int))by rw[BE (by have:=K.o;omega)]);obtain⟨gi,de,fm,dt,ah,fg⟩:=M3.o.int (i:=0) rfl;have Qc:=ah.ka;obtain⟨gj,df,fo,dx,ai,fh⟩:=M3.o.int (i:=1) rfl;have Qf:=ai.ka;obtain⟨gn,dh,fx,dz,aj,bz⟩:=M3.o.int (i:=3) rfl;have Qh:=aj.ka;obtain⟨jd,gw,iz,ic,jf,gy,iw,ig,d,ja,ij,io⟩:=M3.o.rat (i:=2) rfl;have Qb:=d.kb;have Qg:=d.fb;obtain⟨r,z,A⟩:=DX (λ(V:H) (h:Bl q V)=>Gu _ _ x (((Int.gcd x y:Nat):Int)) V (fg.below h) (bz.below h) M.o W.o U.o) (λ(V:H) (h:Bl q V)=>Gu _ _ y (((Int.gcd x y:Nat):Int)) V (fh.below h) (bz.below h) M.o X.o U.o) λ(V:H) (u v:D) (m:Jj V u (x/((Int.gcd x y:Nat):Int))) (hv:Jj V v (y/((Int.gcd x y:Nat):Int)))=>Nu u v (Rat.divInt x y) V (by rw[TS f.o,<-B.o];exact m) (by rw[TT f.o,<-B.o];exact hv);have Qu:=M3.o.ne 3 2 rfl rfl DK;have hq:Bl q q.drew:=(BB _ q).drew;go_region_held3 (λw'=>(w'.cell? ⟨w.heap.size,0,none⟩=some (E gi)/\w'.cell? ⟨w.heap.size,1,none⟩=some (C de fm dt))/\(w'.cell? ⟨w.heap.size+1,0,none⟩=some (E gj)/\w'.cell? ⟨w.heap.size+1,1,none⟩=some (C df fo dx))/\w'.cell? ⟨B3,0,none⟩=some (E gn)/\w'.cell? ⟨B3,1,none⟩=some (C dh fx dz)) (first|grind|(go_keep;done)|grind[JR])
    (first
     |(go_at_call 156;refine(r.o _ hq).mono ?_;clear r;rintro e w2 ⟨u2,rfl,k,ap⟩;have hq:=Bt hq ap;have Qc:=(ah.below hq).ka;have Qf:=(ai.below hq).ka;have Qh:=(aj.below hq).ka;have Qb:=(d.below hq).kb;have Qg:=(d.below hq).fb)
     |(go_at_call 156;refine(z.o _ hq).mono ?_;clear z;rintro e w3 ⟨u3,rfl,ay,Q⟩;have k:=k.below Q;have hq:=Bt hq Q;have Qc:=(ah.below hq).ka;have Qf:=(ai.below hq).ka;have Qh:=(aj.below hq).ka;have Qb:=(d.below hq).kb;have Qg:=(d.below hq).fb)
     |(go_at_call 157;refine(A.o _ _ _ k ay).mono ?_;clear A;rintro e w4 ⟨u4,rfl,T,aq⟩;obtain⟨gq,di,gh,ed,gr,dj,fi,ei,rfl⟩:=Jf.form T;have hq:=Bt hq aq;have Qc:=(ah.below hq).ka;have Qf:=(ai.below hq).ka;have Qh:=(aj.below hq).ka;have Qb:=(d.below hq).kb;have Qg:=(d.below hq).fb))
   all_goals go_wp2_with fail
   have Qk:=Bt M3.o.2.2 hq;exact BA (by simp[results,Tryz.results93,go_sem,Qb]) rfl ⟨_,rfl,T.put4 (d.below hq) rfl rfl rfl rfl _ _ _ _,Jv Qk O _ _ _ _⟩
def Nv(w:H)(s t i j:Bool)(a b a' e:Option Addr)(l c k d l' c' g f:Nat)(p q:Rat)(hp:Jf w (S #[E s,C a l c,E t,C b k d]) p)(hq:Jf w (S #[E i,C a' l' c',E j,C e g f]) q):
 DJ w (((w.alloc (G #[E s,C a l c,E t,C b k d] 41)).alloc (G #[E i,C a' l' c',E j,C e g f] 41)).alloc (G #[E false,C none 0 0,E false,C none 0 0] 41)) [some (w.heap.size,.rat p),some (w.heap.size+1,.rat q),some (w.heap.size+1+1,.rat 0)]:=by
 have h:=(((DJ.nil w).push (.rat p) hp).push (.rat q) (hq.below (Ba w _))).push (.rat 0) (Xx _);rw[Ax,Ax,Ax]at h;exact h
def jT(w:H)(s t i j:Bool)(a b a' e:Option Addr)(l c k d l' c' g f:Nat)(p q:Rat)(hp:Jf w (S #[E s,C a l c,E t,C b k d]) p)(hq:Jf w (S #[E i,C a' l' c',E j,C e g f]) q):
 DJ w ((w.alloc (G #[E s,C a l c,E t,C b k d] 41)).alloc (G #[E i,C a' l' c',E j,C e g f] 41)) [some (w.heap.size,.rat p),some (w.heap.size+1,.rat q)]:=by
 have h:=((DJ.nil w).push (.rat p) hp).push (.rat q) (hq.below (Ba w _));rw[Ax]at h;exact h
def Nw{q:Rat}(h:q.den=1):q=(q.num:Rat):=Rat.ext rfl h
def jU{p q:Rat}(hp:p.den=1)(hq:q.den=1):(p+q).num=p.num+q.num/\(p+q).den=1:=by
 have h:p+q=((p.num+q.num:Int):Rat):=by rw[Fc,<-Nw hp,<-Nw hq]
 rw[h];exact⟨rfl,rfl⟩
def jV{p q:Rat}(hp:p.den=1)(hq:q.den=1):(p*q).num=p.num*q.num/\(p*q).den=1:=by
 have h:p*q=((p.num*q.num:Int):Rat):=by rw[Aq,<-Nw hp,<-Nw hq]
 rw[h];exact⟨rfl,rfl⟩
def jW(p q:Rat)(hp:Sq p)(hq:Sq q)(a lf rt ab b:Int)(c:((Int.gcd (p.den:Int) (q.den:Int):Nat):Int)=a)(j:(p.den:Int)/a=lf)(k:(q.den:Int)/a=rt)(l:p.num*rt+q.num*lf=ab)(d:((Int.gcd ab a:Nat):Int)=b):
 Sok a/\a≠0/\Sok lf/\Sok rt/\Sok ab/\Sok b/\b≠0/\Sok (p.num*rt)/\Sok (q.num*lf)/\(p+q).num=ab/b/\((p+q).den:Int)=lf*(q.den/b):=by
 have hl:=dn p q a lf rt ab b c.symm j.symm k.symm l.symm d.symm;have f:a≠0:=by rw[<-c];have:=LR (x:=(p.den:Int)) (y:=q.den) (by have:=q.den_nz;omega);omega
 have sc:Sok a:=by rw[<-c];exact hp.den.gcd hq.den
 have i:Sm 1000000000 lf:=by rw[<-j];exact hp.sm.2.div
 have g:Sm 1000000000 rt:=by rw[<-k];exact hq.sm.2.div
 have m:=hp.sm.1.mul g;have n:=hq.sm.1.mul i;have e:Sok ab:=by rw[<-l];exact Sok.of (m.add n) O
 refine⟨sc,f,Sok.of i O,Sok.of g O,e,by rw[<-d];exact e.gcd sc,?_,Sok.of m O,Sok.of n O,hl.1,hl.2⟩;rw[<-d];have:=LR (x:=ab) f;omega
theorem Kl(va vb:D)(p q:Rat)(w:H)(ha:Jf w va p)(U:Jf w vb q)(di:Sq p)(dj:Sq q):
 F I 104 #[va,vb] w λe w'=>∃u,e=.returned u/\Jf w' u (p+q)/\Bl w w':=by
 obtain⟨s,a,l,c,t,b,k,d,rfl⟩:=Jf.form ha;obtain⟨s',a',l',c',t',b',k',d',rfl⟩:=Jf.form U;have M0:=Nv w s t s' t' a b a' b' l c k d l' c' k' d' p q ha U;obtain⟨W0,bg⟩:=ex (((w.alloc (G #[E s,C a l c,E t,C b k d] 41)).alloc (G #[E s',C a' l' c',E t',C b' k' d'] 41)).alloc (G #[E false,C none 0 0,E false,C none 0 0] 41));have Qo:=Z bg;rw[bg]at M0;obtain⟨M1,HP,A⟩:=DX M0 di dj;clear M0 ha U bg di dj;go_enter Tryz.func104,Tryz.ntmps104
 go_upto_region 1 with fail
 rw[Qo.o];clear Qo;obtain⟨bb,co⟩:=ex (decide (p.den=1/\q.den=1):Bool);have Qh:=Z co;clear co;go_cut [15] λc w'=>c=E bb/\Hid (DJ w w' [some (w.heap.size,.rat p),some (w.heap.size+1,.rat q),some (w.heap.size+1+1,.rat 0)])
 case first=>
  obtain⟨s1,a1,l1,c1,t1,b1,k1,d1,n1,r1,i1,j1⟩:=M1.o.rat (i:=0) rfl;have Qv:=n1.kb;obtain⟨s2,a2,l2,c2,t2,b2,k2,d2,n2,r2,i2,j2⟩:=M1.o.rat (i:=1) rfl;have Qx:=n2.kb;have z:=Z (LQ _ p W0 r1);have Q:=Z λ(V:H) (h:Bl W0 V)=>LQ _ q V (r2.below h);by_cases M:p.den=1
  . rw[BJ M]at z;obtain⟨b2,P⟩:=ex (decide (q.den=1));rw[P]at Q;have Qk:=Z (show b2=bb by rw[<-P,<-Qh.o];exact C0.2 ⟨λh=>⟨M,h⟩,λh=>h.2⟩);clear P M;go_wp2_with(first
     |(go_at_call 64;refine z.o.mono ?_;clear z;rintro e w1 ⟨rfl,W⟩;have Qv:=(n1.below W).kb;have Qx:=(n2.below W).kb)
     |(go_at_call 64;refine(Q.o _ W).mono ?_;clear Q;rintro e w2 ⟨rfl,P⟩))
    go_meet
    case rel=>exact⟨by rw[Qk.o],Z ((M1.o.below W).below P)⟩
  . rw[BM M]at z;have Qk:=Z (show bb=false by rw[<-Qh.o];exact BM λh=>M h.1);clear M;go_wp2_with(go_at_call 64;refine z.o.mono ?_;clear z;rintro e w1 ⟨rfl,W⟩)
    go_meet
    case rel=>exact⟨by rw[Qk.o],Z (M1.o.below W)⟩
 obtain⟨rfl,g⟩:=hcut;have R:=g;clear M1 g;cases bb with
 |true=>
  have Qi:=BW Qh.o;have HW:=Z (jU Qi.1 Qi.2);clear Qi Qh;obtain⟨s3,a3,l3,c3,t3,b3,k3,d3,n3,r3,i3,j3⟩:=R.o.rat (i:=0) rfl;have iz:=n3.kb;obtain⟨s4,a4,l4,c4,t4,b4,k4,d4,n4,r4,i4,j4⟩:=R.o.rat (i:=1) rfl;have ja:=n4.kb;obtain⟨s5,a5,l5,c5,t5,b5,k5,d5,n5,r5,i5,j5⟩:=R.o.rat (i:=2) rfl;have Qt:=n5.kb;have Qz:=n5.fb;go_wp2_with(go_at_call 39;refine(Nc _ _ p.num q.num _ i3 i4 (by have:=HP.o.num.words;omega) (by have:=A.o.num.words;omega)).mono ?_;rintro e w1 ⟨u,rfl,o,hq⟩;obtain⟨bj,am,bi,an,rfl⟩:=Jj.form2 o;have Qt:=(n5.below hq).kb;have Qz:=(n5.below hq).fb)
  have hr:=Jf.mk (by rw[HW.o.1];exact o) (by rw[NQ.2 HW.o.2];exact EY _);have Ql:=Bt R.o.2.2 hq;exact BA (by simp[results,Tryz.results104,go_sem,Qt]) rfl ⟨_,rfl,hr.put4 (n5.below hq) rfl rfl rfl rfl _ _ _ _,Jv Ql O _ _ _ _⟩
 |false=>
  clear Qh;obtain⟨m,de⟩:=ex (((Int.gcd (p.den:Int) (q.den:Int):Nat):Int):Int);have Qs:=Z de;clear de;obtain⟨lf,df⟩:=ex ((p.den:Int)/m:Int);have Qq:=Z df;clear df;obtain⟨rt,dh⟩:=ex ((q.den:Int)/m:Int);have Qn:=Z dh;clear dh;obtain⟨ab,bz⟩:=ex (p.num*rt+q.num*lf:Int);have Qr:=Z bz;clear bz;obtain⟨x,ce⟩:=ex (((Int.gcd ab m:Nat):Int):Int);have Qp:=Z ce;clear ce;obtain⟨S1,S2,S3,S4,S5,S6,S7,S8,S9,bn,bu⟩:=jW p q HP.o A.o m lf rt ab x Qs.o Qq.o Qn.o Qr.o Qp.o;obtain⟨T1,T2,T3,T4,T5,T6,T7,T8⟩:=IX S1 S2 S3 S4 S5 S6 S7 S8;obtain⟨T9,Qy,Qw⟩:=DX S9 bn bu;clear S1 S2 S3 S4 S5 S6 S7 S8 S9 bn bu;go_upto_region 3 with fail
  refine Yx Dh [[],[0],[],[2,1],[1,3,3],[],[5,4,4,0,1,2,3,4,5]] [.rat p,.int ((p.den:Int)),.rat q,.int ((q.den:Int)),.int m,.ptr,.eq N] [5,6] (λb v V=>DJ w V [some (w.heap.size,.rat p),some (w.heap.size+1,.rat q),some (w.heap.size+1+1,.rat 0),nb b v 0 1 (.int 0) (.int m)]) (R.o.none).drew (SR (.vl rfl λ_ j=>EK 0 j)<|SR (.cl λh _=>FZ _ p _ (h.g 0))<|SR (.vl rfl λ_ j=>EK 1 j)<|SR (.cl λh _=>FZ _ q _ (h.g 2))<|SR (.cl λh _=>(by have h:=Kk _ _ (p.den:Int) (q.den:Int) _ (h.g 1) (h.g 3) (by have:=HP.o.den.words;omega) (by have:=A.o.den.words;omega);rw[Qs.o]at h;exact h))<|SR (.wr rfl λ_ j=>GQ 3 j)<|SR (.wr rfl λh j=>FN 3 j (h.g 4) (hp:=h.g 5)) Stp.end_)
   λf V7 hF g=>?_
  refine DP ?_;obtain⟨B8,az⟩:=hF.p 5;have g:=Dw g;simp only[az]at g;rw[az];have M3:=Z g;clear g hF az;clear R;go_upto_region 4 with fail
  refine Yx Dh [[],[0],[],[1,2,1],[],[4,3],[],[5,6,5],[],[],[8,3,7,0,1,2,3,8,9],[9,7,10,0,1,2,3,4,5,6,7,8,9,10]] [.rat p,.int ((p.den:Int)),.int m,.int lf,.rat q,.int ((q.den:Int)),.int m,.int rt,.ptr,.ptr,.eq N,.eq N] [8,9,10,11] (λb v V=>DJ w V [some (w.heap.size,.rat p),some (w.heap.size+1,.rat q),some (w.heap.size+1+1,.rat 0),some (B8,.int m),nb b v 0 2 (.int 0) (.int lf),nb b v 1 3 (.int 0) (.int rt)]) ((M3.o.none).none).drew (SR (.vl rfl λ_ j=>EK 0 j)<|SR (.cl λh _=>FZ _ p _ (h.g 0))<|SR (.vl rfl λ_ j=>Fqq 3 j)<|SR (.cl λh _=>(by have h:=Gu _ _ (p.den:Int) m _ (h.g 1) (h.g 2) T2.o HP.o.den T1.o;rw[Qq.o]at h;exact h))<|SR (.vl rfl λ_ j=>EK 1 j)<|SR (.cl λh _=>FZ _ q _ (h.g 4))<|SR (.vl rfl λ_ j=>Fqq 3 j)<|SR (.cl λh _=>(by have h:=Gu _ _ (q.den:Int) m _ (h.g 5) (h.g 6) T2.o A.o.den T1.o;rw[Qn.o]at h;exact h))<|SR (.wr rfl λ_ j=>GQ 4 j)<|SR (.wr rfl λ_ j=>GQ 5 j)<|SR (.wr rfl λh j=>FN 4 j (h.g 3) (hp:=h.g 8))<|SR (.wr rfl λh j=>FN 5 j (h.g 7) (hp:=h.g 9)) Stp.end_)
   λf jb hF g=>?_
  refine DP ?_;obtain⟨B11,ap⟩:=hF.p 8;obtain⟨B12,aq⟩:=hF.p 9;have g:=Dw g;simp only[ap,aq]at g;rw[ap,aq];have M4:=Z g;clear g hF ap aq;clear M3;go_upto_region 5 with fail
  refine Yx Dh [[],[0],[],[1,2],[],[4],[],[5,6,3],[3,7,7],[],[9,8,8,0,1,2,3,4,5,6,7,8,9]] [.eq (L (some ⟨w.heap.size,0,none⟩)),.int (Rat.num (p)),.int rt,.int (p.num*rt),.eq (L (some ⟨w.heap.size+1,0,none⟩)),.int (Rat.num (q)),.int lf,.int (q.num*lf),.int ab,.ptr,.eq N] [9,10] (λb v V=>DJ w V [some (w.heap.size,.rat p),some (w.heap.size+1,.rat q),some (w.heap.size+1+1,.rat 0),some (B8,.int m),some (B11,.int lf),some (B12,.int rt),nb b v 0 1 (.int 0) (.int ab)]) (M4.o.none).drew (SR (.vl rfl λ_ _=>⟨_,by refine DP ?_;go_simp,rfl⟩)<|SR (.vl rfl λh j=>LO 0 j (hp:=h.e 0))<|SR (.vl rfl λ_ j=>Fqq 5 j)<|SR (.cl λh _=>YR _ _ p.num rt _ (h.g 1) (h.g 2) (by have:=HP.o.num.words;have:=T4.o.words;omega))<|SR (.vl rfl λ_ _=>⟨_,by refine DP ?_;go_simp,rfl⟩)<|SR (.vl rfl λh j=>LO 1 j (hp:=h.e 4))<|SR (.vl rfl λ_ j=>Fqq 4 j)<|SR (.cl λh _=>YR _ _ q.num lf _ (h.g 5) (h.g 6) (by have:=A.o.num.words;have:=T3.o.words;omega))<|SR (.cl λh _=>(by have h:=Nc _ _ (p.num*rt) (q.num*lf) _ (h.g 3) (h.g 7) (by have:=T8.o.words;omega) (by have:=T9.o.words;omega);rw[Qr.o]at h;exact h))<|SR (.wr rfl λ_ j=>GQ 6 j)<|SR (.wr rfl λh j=>FN 6 j (h.g 8) (hp:=h.g 9)) Stp.end_)
   λf fh hF g=>?_
  refine DP ?_;rw[hF.e 0,hF.e 4];obtain⟨aj,ay⟩:=hF.p 9;have g:=Dw g;simp only[ay]at g;rw[ay];have M5:=Z g;clear g hF ay;clear M4;go_upto_region 6 with fail
  obtain⟨kh,jc,jw,ji,ei,dx⟩:=M5.o.int (i:=6) rfl;have Qj:=ei.ka;obtain⟨ki,jd,jx,jj,fg,dz⟩:=M5.o.int (i:=3) rfl;have Qm:=fg.ka;have HC:=Z (Kk _ _ ab m fh dx dz (by have:=T5.o.words;omega) (by have:=T1.o.words;omega));rw[Qp.o]at HC;go_upto_region 7 with(go_at_call 155;refine HC.o.mono ?_;clear HC;rintro e w1 ⟨u,rfl,o,U⟩;obtain⟨bj,am,bi,an,rfl⟩:=Jj.form2 o)
  obtain⟨K,hV⟩:=ex (w1.alloc (G #[E bj,C am bi an] 39));obtain⟨bm,bf⟩:=ex (w1.heap.size);have g:DJ w (w1.alloc (G #[E bj,C am bi an] 39)) [some (w.heap.size,.rat p),some (w.heap.size+1,.rat q),some (w.heap.size+1+1,.rat 0),some (B8,.int m),some (B11,.int lf),some (B12,.int rt),some (aj,.int ab),some (w1.heap.size,.int x)]:=DJ.push (M5.o.below U) (.int x) o;rw[hV,bf]at g;rw[hV];rw[bf];have r:=Z (g);clear M5;clear g hV bf;clear ei Qj dx fg Qm dz o U;obtain⟨io,fi,ie,gi,X,ia⟩:=r.o.int (i:=6) rfl;have Qe:=X.ka;obtain⟨iu,fm,ig,gj,ae,ed⟩:=r.o.int (i:=7) rfl;have Qb:=ae.ka;obtain⟨iw,fo,ii,gn,ah,ib⟩:=r.o.int (i:=4) rfl;have Qf:=ah.ka;obtain⟨ix,fx,ij,gq,iy,gh,ic,gr,ai,il,jp,jr⟩:=r.o.rat (i:=1) rfl;have Qc:=ai.kb;obtain⟨kj,je,jy,jk,kn,jg,jt,jn,n,kg,jq,js⟩:=r.o.rat (i:=2) rfl;have T:=n.kb;have Qd:=n.fb;obtain⟨z,Q,H3,H4,H5⟩:=IE (λ(V:H) (h:Bl K V)=>Gu _ _ ab x V (ia.below h) (ed.below h) T7.o T5.o T6.o) (λ(V:H) (h:Bl K V)=>FZ _ q V (il.below h)) (λ(V:H) (u:D) (h:Bl K V) (o:Jj V u (q.den:Int))=>Gu u _ (q.den:Int) x V o (ed.below h) T7.o A.o.den T6.o) (λ(V:H) (u:D) (h:Bl K V) (o:Jj V u ((q.den:Int)/x))=>YR _ u lf ((q.den:Int)/x) V (ib.below h) o (by have M:=T3.o.words;have h2:=(Sok.div (y:=x) A.o.den).words;omega)) λ(V:H) (u v:D) (o:Jj V u (ab/x)) (hv:Jj V v (lf*((q.den:Int)/x)))=>Nu u v (p+q) V (by rw[Qy.o];exact o) (by rw[Qw.o];exact hv);have ke:=r.o.ne 6 2 rfl rfl DK;have kf:=r.o.ne 7 2 rfl rfl DK;have kd:=r.o.ne 4 2 rfl rfl DK;have kc:=r.o.ne 1 2 rfl rfl DK;have hq:Bl K K.drew:=(BB _ K).drew;go_region_held3 (λw'=>(w'.cell? ⟨aj,0,none⟩=some (E io)/\w'.cell? ⟨aj,1,none⟩=some (C fi ie gi))/\(w'.cell? ⟨bm,0,none⟩=some (E iu)/\w'.cell? ⟨bm,1,none⟩=some (C fm ig gj))/\(w'.cell? ⟨B11,0,none⟩=some (E iw)/\w'.cell? ⟨B11,1,none⟩=some (C fo ii gn))/\w'.cell? ⟨w.heap.size+1,0,none⟩=some (E ix)/\w'.cell? ⟨w.heap.size+1,1,none⟩=some (C fx ij gq)/\w'.cell? ⟨w.heap.size+1,2,none⟩=some (E iy)/\w'.cell? ⟨w.heap.size+1,3,none⟩=some (C gh ic gr)) (first|grind|(go_keep;done)|((repeat' apply And.intro)<;>((repeat rw[JR O]);grind)))
   (first
    |(go_at_call 156;refine(z.o _ hq).mono ?_;clear z;rintro e w2 ⟨u2,rfl,B,P⟩;have hq:=Bt hq P;have Qe:=(X.below hq).ka;have Qb:=(ae.below hq).ka;have Qf:=(ah.below hq).ka;have Qc:=(ai.below hq).kb;have T:=(n.below hq).kb;have Qd:=(n.below hq).fb)
    |(go_at_call 88;refine(Q.o _ hq).mono ?_;clear Q;rintro e w3 ⟨u3,rfl,gv,cj⟩;have B:=B.below cj;have hq:=Bt hq cj;have Qe:=(X.below hq).ka;have Qb:=(ae.below hq).ka;have Qf:=(ah.below hq).ka;have Qc:=(ai.below hq).kb;have T:=(n.below hq).kb;have Qd:=(n.below hq).fb)
    |(go_at_call 156;refine(H3.o _ _ hq gv).mono ?_;clear H3;rintro e w4 ⟨u4,rfl,gw,ck⟩;have B:=B.below ck;have hq:=Bt hq ck;have Qe:=(X.below hq).ka;have Qb:=(ae.below hq).ka;have Qf:=(ah.below hq).ka;have Qc:=(ai.below hq).kb;have T:=(n.below hq).kb;have Qd:=(n.below hq).fb)
    |(go_at_call 87;refine(H4.o _ _ hq gw).mono ?_;clear H4;rintro e w5 ⟨u5,rfl,gy,cn⟩;have B:=B.below cn;have hq:=Bt hq cn;have Qe:=(X.below hq).ka;have Qb:=(ae.below hq).ka;have Qf:=(ah.below hq).ka;have Qc:=(ai.below hq).kb;have T:=(n.below hq).kb;have Qd:=(n.below hq).fb)
    |(go_at_call 157;refine(H5.o _ _ _ B gy).mono ?_;clear H5;rintro e w6 ⟨u6,rfl,dt,gu⟩;obtain⟨km,jf,jz,jl,ko,jh,ju,jo,rfl⟩:=Jf.form dt;have hq:=Bt hq gu;have Qe:=(X.below hq).ka;have Qb:=(ae.below hq).ka;have Qf:=(ah.below hq).ka;have Qc:=(ai.below hq).kb;have T:=(n.below hq).kb;have Qd:=(n.below hq).fb))
  all_goals go_wp2_with fail
  have Ql:=Bt r.o.2.2 hq;have Qu:=r.o.ge 2 rfl;exact BA (by simp[results,Tryz.results104,go_sem,T]) rfl ⟨_,rfl,dt.put4 (n.below hq) rfl rfl rfl rfl _ _ _ _,Jv Ql Qu _ _ _ _⟩
def jX(p q:Rat)(hp:Sq p)(hq:Sq q)(a up x y:Int)(b:((Int.gcd p.num (q.den:Int):Nat):Int)=a)(c:((Int.gcd q.num (p.den:Int):Nat):Int)=up)(d:p.num/a=x)(e:q.num/up=y):
 Sok a/\a≠0/\Sok up/\up≠0/\Sok x/\Sok y/\(p*q).num=x*y/\((p*q).den:Int)=p.den/up*(q.den/a):=by
 have hl:=du p q a up b.symm c.symm;have g:a≠0:=by rw[<-b];have:=LR (x:=p.num) (y:=q.den) (by have:=q.den_nz;omega);omega
 have f:up≠0:=by rw[<-c];have:=LR (x:=q.num) (y:=p.den) (by have:=p.den_nz;omega);omega
 refine⟨by rw[<-b];exact hp.num.gcd hq.den,g,by rw[<-c];exact hq.num.gcd hp.den,f,by rw[<-d];exact hp.num.div,by rw[<-e];exact hq.num.div,?_,hl.2⟩;rw[hl.1,d,e]
theorem Km(va vb:D)(p q:Rat)(w:H)(ha:Jf w va p)(hb:Jf w vb q)(bm:Sq p)(bn:Sq q):
 F I 78 #[va,vb] w λe w'=>∃u,e=.returned u/\Jf w' u (p*q)/\Bl w w':=by
 obtain⟨s,a,l,c,t,b,k,d,rfl⟩:=Jf.form ha;obtain⟨s',a',l',c',t',b',k',d',rfl⟩:=Jf.form hb;have M0:=Nv w s t s' t' a b a' b' l c k d l' c' k' d' p q ha hb;obtain⟨W0,ay⟩:=ex (((w.alloc (G #[E s,C a l c,E t,C b k d] 41)).alloc (G #[E s',C a' l' c',E t',C b' k' d'] 41)).alloc (G #[E false,C none 0 0,E false,C none 0 0] 41));have Ql:=Z ay;rw[ay]at M0;obtain⟨M1,K,M⟩:=DX M0 bm bn;clear M0 ha hb ay bm bn;go_enter Tryz.func78,Tryz.ntmps78
 go_upto_region 1 with fail
 rw[Ql.o];clear Ql;obtain⟨bb,bi⟩:=ex (decide (p.den=1/\q.den=1):Bool);have Qh:=Z bi;clear bi;go_cut [13] λc w'=>c=E bb/\Hid (DJ w w' [some (w.heap.size,.rat p),some (w.heap.size+1,.rat q),some (w.heap.size+1+1,.rat 0)])
 case first=>
  obtain⟨s1,a1,l1,c1,t1,b1,k1,d1,n1,r1,i1,j1⟩:=M1.o.rat (i:=0) rfl;have Qr:=n1.kb;obtain⟨s2,a2,l2,c2,t2,b2,k2,d2,n2,r2,i2,j2⟩:=M1.o.rat (i:=1) rfl;have Qs:=n2.kb;have H1:=Z (LQ _ p W0 r1);have H2:=Z λ(V:H) (h:Bl W0 V)=>LQ _ q V (r2.below h);by_cases B:p.den=1
  . rw[BJ B]at H1;obtain⟨b2,R⟩:=ex (decide (q.den=1));rw[R]at H2;have Qj:=Z (show b2=bb by rw[<-R,<-Qh.o];exact C0.2 ⟨λh=>⟨B,h⟩,λh=>h.2⟩);clear R B;go_wp2_with(first
     |(go_at_call 64;refine H1.o.mono ?_;clear H1;rintro e w1 ⟨rfl,ah⟩;have Qr:=(n1.below ah).kb;have Qs:=(n2.below ah).kb)
     |(go_at_call 64;refine(H2.o _ ah).mono ?_;clear H2;rintro e w2 ⟨rfl,R⟩))
    go_meet
    case rel=>exact⟨by rw[Qj.o],Z ((M1.o.below ah).below R)⟩
  . rw[BM B]at H1;have Qj:=Z (show bb=false by rw[<-Qh.o];exact BM λh=>B h.1);clear B;go_wp2_with(go_at_call 64;refine H1.o.mono ?_;clear H1;rintro e w1 ⟨rfl,ah⟩)
    go_meet
    case rel=>exact⟨by rw[Qj.o],Z (M1.o.below ah)⟩
 obtain⟨rfl,m⟩:=hcut;have M2:=m;clear M1 m;cases bb with
 |true=>
  have Qi:=BW Qh.o;have HW:=Z (jV Qi.1 Qi.2);clear Qi Qh;obtain⟨s3,a3,l3,c3,t3,b3,k3,d3,n3,r3,i3,j3⟩:=M2.o.rat (i:=0) rfl;have ib:=n3.kb;obtain⟨s4,a4,l4,c4,t4,b4,k4,d4,n4,r4,i4,j4⟩:=M2.o.rat (i:=1) rfl;have ic:=n4.kb;obtain⟨s5,a5,l5,c5,t5,b5,k5,d5,n5,r5,i5,j5⟩:=M2.o.rat (i:=2) rfl;have Qp:=n5.kb;have Qt:=n5.fb;go_wp2_with(go_at_call 87;refine(YR _ _ p.num q.num _ i3 i4 (by have B:=K.o.num.words;have h2:=M.o.num.words;omega)).mono ?_;rintro e w1 ⟨u,rfl,hu,hq⟩;obtain⟨js,ig,ji,iu,rfl⟩:=Jj.form2 hu;have Qp:=(n5.below hq).kb;have Qt:=(n5.below hq).fb)
  have hr:=Jf.mk (by rw[HW.o.1];exact hu) (by rw[NQ.2 HW.o.2];exact EY _);have Qk:=Bt M2.o.2.2 hq;exact BA (by simp[results,Tryz.results78,go_sem,Qp]) rfl ⟨_,rfl,hr.put4 (n5.below hq) rfl rfl rfl rfl _ _ _ _,Jv Qk O _ _ _ _⟩
 |false=>
  clear Qh;obtain⟨r,bj⟩:=ex (((Int.gcd p.num (q.den:Int):Nat):Int):Int);have Qm:=Z bj;clear bj;obtain⟨up,bu⟩:=ex (((Int.gcd q.num (p.den:Int):Nat):Int):Int);have Qn:=Z bu;clear bu;obtain⟨x,hx⟩:=ex (p.num/r:Int);have HX:=Z hx;clear hx;obtain⟨y,hy⟩:=ex (q.num/up:Int);have HY:=Z hy;clear hy;obtain⟨S1,S2,S3,S4,S5,S6,S7,S8⟩:=jX p q K.o M.o r up x y Qm.o Qn.o HX.o HY.o;obtain⟨T1,T2,T3,T4,T5,T6,T7,T8⟩:=IX S1 S2 S3 S4 S5 S6 S7 S8;clear S1 S2 S3 S4 S5 S6 S7 S8;go_upto_region 3 with fail
  refine Yx Dh [[],[0],[],[2],[1,3,3],[],[5],[],[7,4],[6,8,8],[],[],[10,4,9,0,1,2,3,4,10,11],[11,9,12,0,1,2,3,4,5,6,7,8,9,10,11,12]] [.eq (L (some ⟨w.heap.size,0,none⟩)),.int (Rat.num (p)),.rat q,.int ((q.den:Int)),.int r,.eq (L (some ⟨w.heap.size+1,0,none⟩)),.int (Rat.num (q)),.rat p,.int ((p.den:Int)),.int up,.ptr,.ptr,.eq N,.eq N] [10,11,12,13] (λb v V=>DJ w V [some (w.heap.size,.rat p),some (w.heap.size+1,.rat q),some (w.heap.size+1+1,.rat 0),nb b v 0 2 (.int 0) (.int r),nb b v 1 3 (.int 0) (.int up)]) ((M2.o.none).none).drew (SR (.vl rfl λ_ _=>⟨_,by refine DP ?_;go_simp,rfl⟩)<|SR (.vl rfl λh j=>LO 0 j (hp:=h.e 0))<|SR (.vl rfl λ_ j=>EK 1 j)<|SR (.cl λh _=>FZ _ q _ (h.g 2))<|SR (.cl λh _=>(by have h:=Kk _ _ p.num (q.den:Int) _ (h.g 1) (h.g 3) (by have:=K.o.num.words;omega) (by have:=M.o.den.words;omega);rw[Qm.o]at h;exact h))<|SR (.vl rfl λ_ _=>⟨_,by refine DP ?_;go_simp,rfl⟩)<|SR (.vl rfl λh j=>LO 1 j (hp:=h.e 5))<|SR (.vl rfl λ_ j=>EK 0 j)<|SR (.cl λh _=>FZ _ p _ (h.g 7))<|SR (.cl λh _=>(by have h:=Kk _ _ q.num (p.den:Int) _ (h.g 6) (h.g 8) (by have:=M.o.num.words;omega) (by have:=K.o.den.words;omega);rw[Qn.o]at h;exact h))<|SR (.wr rfl λ_ j=>GQ 3 j)<|SR (.wr rfl λ_ j=>GQ 4 j)<|SR (.wr rfl λh j=>FN 3 j (h.g 4) (hp:=h.g 10))<|SR (.wr rfl λh j=>FN 4 j (h.g 9) (hp:=h.g 11)) Stp.end_)
   λf V7 hF m=>?_
  refine DP ?_;rw[hF.e 0,hF.e 5];obtain⟨B8,ap⟩:=hF.p 10;obtain⟨B9,aq⟩:=hF.p 11;have m:=Dw m;simp only[ap,aq]at m;rw[ap,aq];have M3:=Z m;clear m hF ap aq;clear M2;go_upto_region 4 with fail
  refine Yx Dh [[],[0],[],[1,2],[],[4],[],[5,6,3],[3,7,7],[],[9,8,8,0,1,2,3,4,5,6,7,8,9]] [.eq (L (some ⟨w.heap.size,0,none⟩)),.int (Rat.num (p)),.int r,.int x,.eq (L (some ⟨w.heap.size+1,0,none⟩)),.int (Rat.num (q)),.int up,.int y,.int (x*y),.ptr,.eq N] [9,10] (λb v V=>DJ w V [some (w.heap.size,.rat p),some (w.heap.size+1,.rat q),some (w.heap.size+1+1,.rat 0),some (B8,.int r),some (B9,.int up),nb b v 0 1 (.int 0) (.int (x*y))]) (M3.o.none).drew (SR (.vl rfl λ_ _=>⟨_,by refine DP ?_;go_simp,rfl⟩)<|SR (.vl rfl λh j=>LO 0 j (hp:=h.e 0))<|SR (.vl rfl λ_ j=>Fqq 3 j)<|SR (.cl λh _=>(by have h:=Gu _ _ p.num r _ (h.g 1) (h.g 2) T2.o K.o.num T1.o;rw[HX.o]at h;exact h))<|SR (.vl rfl λ_ _=>⟨_,by refine DP ?_;go_simp,rfl⟩)<|SR (.vl rfl λh j=>LO 1 j (hp:=h.e 4))<|SR (.vl rfl λ_ j=>Fqq 4 j)<|SR (.cl λh _=>(by have h:=Gu _ _ q.num up _ (h.g 5) (h.g 6) T4.o M.o.num T3.o;rw[HY.o]at h;exact h))<|SR (.cl λh _=>YR _ _ x y _ (h.g 3) (h.g 7) (by have:=T5.o.words;have:=T6.o.words;omega))<|SR (.wr rfl λ_ j=>GQ 5 j)<|SR (.wr rfl λh j=>FN 5 j (h.g 8) (hp:=h.g 9)) Stp.end_)
   λf z hF m=>?_
  refine DP ?_;rw[hF.e 0,hF.e 4];obtain⟨B12,an⟩:=hF.p 9;have m:=Dw m;simp only[an]at m;rw[an];have n:=Z m;clear m hF an;clear M3;go_upto_region 5 with fail
  obtain⟨gq,bz,fm,df,T,ed⟩:=n.o.int (i:=5) rfl;have Qb:=T.ka;obtain⟨gr,ce,fo,dh,gy,co,fh,dx,U,gj,iz,jc⟩:=n.o.rat (i:=0) rfl;have Qf:=U.kb;obtain⟨gu,cj,fx,di,W,ei⟩:=n.o.int (i:=4) rfl;have Qd:=W.ka;obtain⟨gv,ck,gh,dj,ia,de,fi,dz,X,gn,ja,jd⟩:=n.o.rat (i:=1) rfl;have Qc:=X.kb;obtain⟨gw,cn,gi,dt,ae,fg⟩:=n.o.int (i:=3) rfl;have Qe:=ae.ka;obtain⟨jr,ie,jh,io,ju,ij,jf,ix,g,jq,jb,je⟩:=n.o.rat (i:=2) rfl;have P:=g.kb;have Qg:=g.fb;obtain⟨H2,H4,H6,H8,H9,Qo⟩:=IV (λ(V:H) (h:Bl z V)=>FZ _ p V (gj.below h)) (λ(V:H) (h:Bl z V) (v2:D) (o:Jj V v2 ((p.den:Int)))=>Gu _ _ (p.den:Int) up V o (ei.below h) T4.o K.o.den T3.o) (λ(V:H) (h:Bl z V)=>FZ _ q V (gn.below h)) (λ(V:H) (h:Bl z V) (v6:D) (A:Jj V v6 ((q.den:Int)))=>Gu _ _ (q.den:Int) r V A (fg.below h) T2.o M.o.den T1.o) (λ(V:H) (h:Bl z V) (v4:D) (g4:Jj V v4 ((p.den:Int)/up)) (v8:D) (Q:Jj V v8 ((q.den:Int)/r))=>YR _ _ ((p.den:Int)/up) ((q.den:Int)/r) V g4 Q (by have B:=(Sok.div (y:=up) K.o.den).words;have h2:=(Sok.div (y:=r) M.o.den).words;omega)) λ(V:H) (h:Bl z V) (v9:D) (g9:Jj V v9 ((p.den:Int)/up*((q.den:Int)/r)))=>Nu _ _ (p*q) V (by rw[T7.o];exact(ed.below h)) (by rw[T8.o];exact g9);have jp:=n.o.ne 5 2 rfl rfl DK;have jk:=n.o.ne 0 2 rfl rfl DK;have jo:=n.o.ne 4 2 rfl rfl DK;have jl:=n.o.ne 1 2 rfl rfl DK;have jn:=n.o.ne 3 2 rfl rfl DK;have hq:Bl z z.drew:=(BB _ z).drew;go_region_held3 (λw'=>(w'.cell? ⟨B12,0,none⟩=some (E gq)/\w'.cell? ⟨B12,1,none⟩=some (C bz fm df))/\(w'.cell? ⟨w.heap.size,0,none⟩=some (E gr)/\w'.cell? ⟨w.heap.size,1,none⟩=some (C ce fo dh)/\w'.cell? ⟨w.heap.size,2,none⟩=some (E gy)/\w'.cell? ⟨w.heap.size,3,none⟩=some (C co fh dx))/\(w'.cell? ⟨B9,0,none⟩=some (E gu)/\w'.cell? ⟨B9,1,none⟩=some (C cj fx di))/\(w'.cell? ⟨w.heap.size+1,0,none⟩=some (E gv)/\w'.cell? ⟨w.heap.size+1,1,none⟩=some (C ck gh dj)/\w'.cell? ⟨w.heap.size+1,2,none⟩=some (E ia)/\w'.cell? ⟨w.heap.size+1,3,none⟩=some (C de fi dz))/\w'.cell? ⟨B8,0,none⟩=some (E gw)/\w'.cell? ⟨B8,1,none⟩=some (C cn gi dt)) (first|grind|(go_keep;done)|((repeat' apply And.intro)<;>((repeat rw[JR O]);grind)))
   (first
    |(go_at_call 88;refine(H2.o _ hq ).mono ?_;clear H2;rintro e w2 ⟨v2,rfl,o,R⟩;have hq:=Bt hq R;have Qb:=(T.below hq).ka;have Qf:=(U.below hq).kb;have Qd:=(W.below hq).ka;have Qc:=(X.below hq).kb;have Qe:=(ae.below hq).ka;have P:=(g.below hq).kb;have Qg:=(g.below hq).fb)
    |(go_at_call 156;refine(H4.o _ hq _ o).mono ?_;clear H4;rintro e w4 ⟨v4,rfl,g4,bg⟩;have o:=o.below bg;have hq:=Bt hq bg;have Qb:=(T.below hq).ka;have Qf:=(U.below hq).kb;have Qd:=(W.below hq).ka;have Qc:=(X.below hq).kb;have Qe:=(ae.below hq).ka;have P:=(g.below hq).kb;have Qg:=(g.below hq).fb)
    |(go_at_call 88;refine(H6.o _ hq ).mono ?_;clear H6;rintro e w6 ⟨v6,rfl,A,az⟩;have o:=o.below az;have g4:=g4.below az;have hq:=Bt hq az;have Qb:=(T.below hq).ka;have Qf:=(U.below hq).kb;have Qd:=(W.below hq).ka;have Qc:=(X.below hq).kb;have Qe:=(ae.below hq).ka;have P:=(g.below hq).kb;have Qg:=(g.below hq).fb)
    |(go_at_call 156;refine(H8.o _ hq _ A).mono ?_;clear H8;rintro e w8 ⟨v8,rfl,Q,am⟩;have o:=o.below am;have g4:=g4.below am;have A:=A.below am;have hq:=Bt hq am;have Qb:=(T.below hq).ka;have Qf:=(U.below hq).kb;have Qd:=(W.below hq).ka;have Qc:=(X.below hq).kb;have Qe:=(ae.below hq).ka;have P:=(g.below hq).kb;have Qg:=(g.below hq).fb)
    |(go_at_call 87;refine(H9.o _ hq _ g4 _ Q).mono ?_;clear H9;rintro e w9 ⟨v9,rfl,g9,aj⟩;have o:=o.below aj;have g4:=g4.below aj;have A:=A.below aj;have Q:=Q.below aj;have hq:=Bt hq aj;have Qb:=(T.below hq).ka;have Qf:=(U.below hq).kb;have Qd:=(W.below hq).ka;have Qc:=(X.below hq).kb;have Qe:=(ae.below hq).ka;have P:=(g.below hq).kb;have Qg:=(g.below hq).fb)
    |(go_at_call 157;refine(Qo.o _ hq _ g9).mono ?_;clear Qo;rintro e jy ⟨jx,rfl,bf,ai⟩;obtain⟨jt,ii,jj,iw,jw,il,jg,iy,rfl⟩:=Jf.form bf;have o:=o.below ai;have g4:=g4.below ai;have A:=A.below ai;have Q:=Q.below ai;have g9:=g9.below ai;have hq:=Bt hq ai;have Qb:=(T.below hq).ka;have Qf:=(U.below hq).kb;have Qd:=(W.below hq).ka;have Qc:=(X.below hq).kb;have Qe:=(ae.below hq).ka;have P:=(g.below hq).kb;have Qg:=(g.below hq).fb))
  all_goals go_wp2_with fail
  have Qk:=Bt n.o.2.2 hq;have Qq:=n.o.ge 2 rfl;exact BA (by simp[results,Tryz.results78,go_sem,P]) rfl ⟨_,rfl,bf.put4 (g.below hq) rfl rfl rfl rfl _ _ _ _,Jv Qk Qq _ _ _ _⟩
def Ib(R T:D)(x y:Int)(w:H)(r:Jj w R x)(v:Jj w T y)(A:Sok x)(B:Sok y):
 F I 38 #[R,T] w λe w'=>∃u,e=.returned (.tuple #[u,E (decide (y≠0))])/\Jf w' u (Rat.divInt x y)/\Bl w w':=by
 have W:=Z A;have X:=Z B;clear A B;obtain⟨s,a,la,ca,rfl⟩:=Jj.form2 r;obtain⟨t,b,lb,cb,rfl⟩:=Jj.form2 v;have m:=QE w s t a b la ca lb cb _ _ r v;obtain⟨W0,q⟩:=ex (((w.alloc (G #[E s,C a la ca] 39)).alloc (G #[E t,C b lb cb] 39)).alloc (G #[E false,C none 0 0,E false,C none 0 0] 41));have z:=Z q;rw[q]at m;have f:=Z m;clear m r v q;obtain⟨s1,a1,l1,c1,P,i1⟩:=f.o.int (i:=0) rfl;have Qf:=P.ka;obtain⟨s2,a2,l2,c2,Q,M⟩:=f.o.int (i:=1) rfl;have Qg:=Q.ka;obtain⟨s3,a3,l3,c3,t3,b3,k3,d3,d,r3,i3,j3⟩:=f.o.rat (i:=2) rfl;have j:=d.kb;have n:=d.fb;have k:=Z (VE _ y W0 M);have g:=Z λ(V:H) (h:Bl W0 V) (c:y≠0)=>VH _ _ x y V (i1.below h) (M.below h) c W.o X.o;by_cases c:y=0
 . rw[BJ c]at k;have l:=Z (BM (p:=y≠0) λh=>h c);rw[l.o];have U:=Z (show Rat.divInt x y=0 by rw[c,Rat.divInt_zero]);clear c g;go_enter Tryz.func38,Tryz.ntmps38
   go_upto_region 1 with fail
   rw[z.o];go_wp2_with(go_at_call 99;refine k.o.mono ?_;rintro e w1 ⟨rfl,hq⟩;have j:=(d.below hq).kb;have n:=(d.below hq).fb)
   have hr:Jf w1 (S #[E false,C none 0 0,E false,C none 0 0]) (Rat.divInt x y):=by rw[U.o];exact Xx _
   have o:=Bt f.o.2.2 hq;exact BA (by simp[results,Tryz.results38,go_sem,j]) rfl ⟨_,rfl,hr.put4 (d.below hq) rfl rfl rfl rfl _ _ _ _,Jv o O _ _ _ _⟩
 . rw[BM c]at k;have l:=Z (BJ (p:=y≠0) c);rw[l.o];have g:=Z λV h=>g.o V h c;clear c;go_enter Tryz.func38,Tryz.ntmps38
   go_upto_region 1 with fail
   rw[z.o];go_wp2_with(first
    |(go_at_call 99;refine k.o.mono ?_;rintro e w1 ⟨rfl,hq⟩;have Qf:=(P.below hq).ka;have Qg:=(Q.below hq).ka;have j:=(d.below hq).kb;have n:=(d.below hq).fb)
    |(go_at_call 93;refine(g.o _ hq).mono ?_;clear g;rintro e w2 ⟨u2,rfl,K,ae⟩;obtain⟨aq,ah,ap,aj,ay,ai,an,am,rfl⟩:=Jf.form K;have hq:=Bt hq ae;have j:=(d.below hq).kb;have n:=(d.below hq).fb))
   have o:=Bt f.o.2.2 hq;have Qe:=f.o.ge 2 rfl;exact BA (by simp[results,Tryz.results38,go_sem,j]) rfl ⟨_,rfl,K.put4 (d.below hq) rfl rfl rfl rfl _ _ _ _,Jv o Qe _ _ _ _⟩
def jY(p q:Rat):decide ((p.den:Int)*q.num≠0)=decide (q≠0):=by
 refine C0.2 (not_congr ⟨λh=>?_,λh=>?_⟩)
 . rcases Int.mul_eq_zero.1 h with h|h
   . have:=p.den_nz;omega
   . exact Fo.1 h
 . rw[h];exact FB _
theorem QF(va vb:D)(p q:Rat)(w:H)(R:Jf w va p)(T:Jf w vb q)(ai:Sq p)(aj:Sq q):
 F I 164 #[va,vb] w λe w'=>∃u,e=.returned (.tuple #[u,E (decide (q≠0))])/\Jf w' u (p/q)/\Bl w w':=by
 obtain⟨bq,W⟩:=ex (decide (q≠0));have Qh:=Z ((jY p q).trans W);rw[W];clear W;obtain⟨s,a,l,c,t,b,k,d,rfl⟩:=Jf.form R;obtain⟨s',a',l',c',t',b',k',d',rfl⟩:=Jf.form T;have P:=Nv w s t s' t' a b a' b' l c k d l' c' k' d' p q R T;obtain⟨W0,Q⟩:=ex (((w.alloc (G #[E s,C a l c,E t,C b k d] 41)).alloc (G #[E s',C a' l' c',E t',C b' k' d'] 41)).alloc (G #[E false,C none 0 0,E false,C none 0 0] 41));have Qe:=Z Q;rw[Q]at P;obtain⟨j,B,K⟩:=DX P ai aj;clear P R T Q ai aj;go_enter Tryz.func164,Tryz.ntmps164
 go_upto_region 1 with fail
 rw[Qe.o];clear Qe;obtain⟨s1,a1,l1,c1,t1,b1,k1,d1,o,r1,i1,j1⟩:=j.o.rat (i:=0) rfl;have v:=o.kb;obtain⟨s2,a2,l2,c2,t2,b2,k2,d2,r,r2,i2,j2⟩:=j.o.rat (i:=1) rfl;have y:=r.kb;obtain⟨s3,a3,l3,c3,t3,b3,k3,d3,f,r3,i3,j3⟩:=j.o.rat (i:=2) rfl;have n:=f.kb;have x:=f.fb;obtain⟨X,H4,H6,H9,Qf⟩:=IE (λ(V:H) (h:Bl W0 V)=>FZ _ q V (r2.below h)) (λ(V:H) (h:Bl W0 V) (v3:D) (g:Jj V v3 ((q.den:Int)))=>YR _ _ p.num (q.den:Int) V (i1.below h) g (by have h1:=B.o.num.words;have h2:=K.o.den.words;omega)) (λ(V:H) (h:Bl W0 V)=>FZ _ p V (r1.below h)) (λ(V:H) (h:Bl W0 V) (v6:D) (m:Jj V v6 ((p.den:Int)))=>YR _ _ (p.den:Int) q.num V m (i2.below h) (by have h1:=B.o.den.words;have h2:=K.o.num.words;omega)) λ(V:H) (h:Bl W0 V) (v4:D) (g4:Jj V v4 (p.num*(q.den:Int))) (v9:D) (z:Jj V v9 ((p.den:Int)*q.num))=>(by have h:=Ib _ _ (p.num*(q.den:Int)) ((p.den:Int)*q.num) V g4 z (B.o.cross K.o) (B.o.cross2 K.o);rw[Qh.o,eA]at h;exact h);have bg:=j.o.ne 0 2 rfl rfl DK;have bi:=j.o.ne 1 2 rfl rfl DK;have hq:Bl W0 W0.drew:=(BB _ W0).drew;go_region_held3 (λw'=>(w'.cell? ⟨w.heap.size,0,none⟩=some (E s1)/\w'.cell? ⟨w.heap.size,1,none⟩=some (C a1 l1 c1)/\w'.cell? ⟨w.heap.size,2,none⟩=some (E t1)/\w'.cell? ⟨w.heap.size,3,none⟩=some (C b1 k1 d1))/\w'.cell? ⟨w.heap.size+1,0,none⟩=some (E s2)/\w'.cell? ⟨w.heap.size+1,1,none⟩=some (C a2 l2 c2)/\w'.cell? ⟨w.heap.size+1,2,none⟩=some (E t2)/\w'.cell? ⟨w.heap.size+1,3,none⟩=some (C b2 k2 d2)) (first|grind|(go_keep;done)|((repeat' apply And.intro)<;>((repeat rw[JR O]);grind)))
  (first
   |(go_at_call 88;refine(X.o _ hq ).mono ?_;clear X;rintro e w3 ⟨v3,rfl,g,am⟩;have hq:=Bt hq am;have v:=(o.below hq).kb;have y:=(r.below hq).kb;have n:=(f.below hq).kb;have x:=(f.below hq).fb)
   |(go_at_call 87;refine(H4.o _ hq _ g).mono ?_;clear H4;rintro e w4 ⟨v4,rfl,g4,ah⟩;have g:=g.below ah;have hq:=Bt hq ah;have v:=(o.below hq).kb;have y:=(r.below hq).kb;have n:=(f.below hq).kb;have x:=(f.below hq).fb)
   |(go_at_call 88;refine(H6.o _ hq ).mono ?_;clear H6;rintro e w6 ⟨v6,rfl,m,U⟩;have g:=g.below U;have g4:=g4.below U;have hq:=Bt hq U;have v:=(o.below hq).kb;have y:=(r.below hq).kb;have n:=(f.below hq).kb;have x:=(f.below hq).fb)
   |(go_at_call 87;refine(H9.o _ hq _ m).mono ?_;clear H9;rintro e w9 ⟨v9,rfl,z,M⟩;have g:=g.below M;have g4:=g4.below M;have m:=m.below M;have hq:=Bt hq M;have v:=(o.below hq).kb;have y:=(r.below hq).kb;have n:=(f.below hq).kb;have x:=(f.below hq).fb)
   |(go_at_call 38;refine(Qf.o _ hq _ g4 _ z).mono ?_;clear Qf;rintro e bu ⟨bn,rfl,ae,A⟩;obtain⟨bj,an,bf,aq,bm,ap,az,ay,rfl⟩:=Jf.form ae;have g:=g.below A;have g4:=g4.below A;have m:=m.below A;have z:=z.below A;have hq:=Bt hq A;have v:=(o.below hq).kb;have y:=(r.below hq).kb;have n:=(f.below hq).kb;have x:=(f.below hq).fb))
 all_goals go_wp2_with fail
 have Qi:=Bt j.o.2.2 hq;have Qg:=j.o.ge 2 rfl;exact BA (by simp[results,Tryz.results164,go_sem,n]) rfl ⟨_,rfl,ae.put4 (f.below hq) rfl rfl rfl rfl _ _ _ _,Jv Qi Qg _ _ _ _⟩
def Xe(p q:Rat):Int:=XO (p.num*q.den) (q.num*p.den)
theorem XF(va vb:D)(p q:Rat)(w:H)(ha:Jf w va p)(hb:Jf w vb q)(aj:Sq p)(am:Sq q):
 F I 32 #[va,vb] w λe w'=>e=.returned (.int .i64 (Xe p q))/\Bl w w':=by
 obtain⟨s,a,l,c,t,b,k,d,rfl⟩:=Jf.form ha;obtain⟨s',a',l',c',t',b',k',d',rfl⟩:=Jf.form hb;have T:=jT w s t s' t' a b a' b' l c k d l' c' k' d' p q ha hb;obtain⟨W0,X⟩:=ex ((w.alloc (G #[E s,C a l c,E t,C b k d] 41)).alloc (G #[E s',C a' l' c',E t',C b' k' d'] 41));have Qf:=Z X;rw[X]at T;have x:=Z T;obtain⟨n,hn⟩:=ex (Xe p q);have HN:=Z hn;rw[hn];have HP:=Z aj;have HQ:=Z am;clear T ha hb X aj am hn;go_enter Tryz.func32,Tryz.ntmps32
 go_upto_region 1 with fail
 rw[Qf.o];clear Qf;obtain⟨P,ai⟩:=ex (decide (p.den=1/\q.den=1):Bool);have A:=Z ai;clear ai;go_cut [10] λc w'=>c=E P/\Hid (DJ w w' [some (w.heap.size,.rat p),some (w.heap.size+1,.rat q)])
 case first=>
  obtain⟨s1,a1,l1,c1,t1,b1,k1,d1,n1,r1,i1,j1⟩:=x.o.rat (i:=0) rfl;have Qh:=n1.kb;obtain⟨s2,a2,l2,c2,t2,b2,k2,d2,n2,r2,i2,j2⟩:=x.o.rat (i:=1) rfl;have Qi:=n2.kb;have g:=Z (LQ _ p W0 r1);have R:=Z λ(V:H) (h:Bl W0 V)=>LQ _ q V (r2.below h);by_cases o:p.den=1
  . rw[BJ o]at g;obtain⟨b2,M⟩:=ex (decide (q.den=1));rw[M]at R;have W:=Z (show b2=P by rw[<-M,<-A.o];grind);clear M o;go_wp2_with(first
     |(go_at_call 64;refine g.o.mono ?_;clear g;rintro e w1 ⟨rfl,r⟩;have Qh:=(n1.below r).kb;have Qi:=(n2.below r).kb)
     |(go_at_call 64;refine(R.o _ r).mono ?_;clear R;rintro e w2 ⟨rfl,M⟩))
    go_meet
    case rel=>exact⟨by rw[W.o],Z ((x.o.below r).below M)⟩
  . rw[BM o]at g;have W:=Z (show P=false by rw[<-A.o];grind);clear o;go_wp2_with(go_at_call 64;refine g.o.mono ?_;clear g;rintro e w1 ⟨rfl,r⟩)
    go_meet
    case rel=>exact⟨by rw[W.o],Z (x.o.below r)⟩
 obtain⟨rfl,MM⟩:=hcut;have m:=MM;clear x MM;cases P with
 |true=>
  have U:=BW A.o;have HE:=Z (show XO p.num q.num=n by rw[<-HN.o];unfold Xe;rw[U.1,U.2];simp);clear U A;obtain⟨s3,a3,l3,c3,t3,b3,k3,d3,n3,r3,i3,j3⟩:=m.o.rat (i:=0) rfl;have ap:=n3.kb;obtain⟨s4,a4,l4,c4,t4,b4,k4,d4,n4,r4,i4,j4⟩:=m.o.rat (i:=1) rfl;have aq:=n4.kb;have g:=Z (IY _ _ p.num q.num wc i3 i4);rw[HE.o]at g;go_wp2_with(go_at_call 86;refine g.o.mono ?_;clear g;rintro e w1 ⟨rfl,hq⟩)
  go_ret;exact⟨rfl,Bt m.o.2.2 hq⟩
 |false=>
  clear A;go_upto_region 3 with fail
  obtain⟨s5,a5,l5,c5,t5,b5,k5,d5,u,r5,i5,j5⟩:=m.o.rat (i:=0) rfl;have z:=u.kb;obtain⟨s6,a6,l6,c6,t6,b6,k6,d6,v,r6,i6,j6⟩:=m.o.rat (i:=1) rfl;have y:=v.kb;obtain⟨H3,H4,H8,H9,Qg⟩:=IE (λ(V:H) (h:Bl wc V)=>FZ _ q V (r6.below h)) (λ(V:H) (h:Bl wc V) (v3:D) (f:Jj V v3 ((q.den:Int)))=>YR _ _ p.num (q.den:Int) V (i5.below h) f (by have o:=HP.o.num.words;have h2:=HQ.o.den.words;omega)) (λ(V:H) (h:Bl wc V)=>FZ _ p V (r5.below h)) (λ(V:H) (h:Bl wc V) (v8:D) (j:Jj V v8 ((p.den:Int)))=>YR _ _ q.num (p.den:Int) V (i6.below h) j (by have o:=HQ.o.num.words;have h2:=HP.o.den.words;omega)) λ(V:H) (h:Bl wc V) (v4:D) (g4:Jj V v4 (p.num*(q.den:Int))) (v9:D) (B:Jj V v9 (q.num*(p.den:Int)))=>(by have h:=IY _ _ (p.num*(q.den:Int)) (q.num*(p.den:Int)) V g4 B;rw[show XO (p.num*(q.den:Int)) (q.num*(p.den:Int))=n from HN.o]at h;exact h);have hq:Bl wc wc.drew:=(BB _ wc).drew;go_region_held3 (λw'=>(w'.cell? ⟨w.heap.size,0,none⟩=some (E s5)/\w'.cell? ⟨w.heap.size,1,none⟩=some (C a5 l5 c5)/\w'.cell? ⟨w.heap.size,2,none⟩=some (E t5)/\w'.cell? ⟨w.heap.size,3,none⟩=some (C b5 k5 d5))/\w'.cell? ⟨w.heap.size+1,0,none⟩=some (E s6)/\w'.cell? ⟨w.heap.size+1,1,none⟩=some (C a6 l6 c6)/\w'.cell? ⟨w.heap.size+1,2,none⟩=some (E t6)/\w'.cell? ⟨w.heap.size+1,3,none⟩=some (C b6 k6 d6)) (first|grind|(go_keep;done)|((repeat' apply And.intro)<;>((repeat rw[JR O]);first|(simp only[*];done)|(go_keep;done))))
   (first
    |(go_at_call 88;refine(H3.o _ hq ).mono ?_;clear H3;rintro e w3 ⟨v3,rfl,f,an⟩;have hq:=Bt hq an;have z:=(u.below hq).kb;have y:=(v.below hq).kb)
    |(go_at_call 87;refine(H4.o _ hq _ f).mono ?_;clear H4;rintro e w4 ⟨v4,rfl,g4,ah⟩;have f:=f.below ah;have hq:=Bt hq ah;have z:=(u.below hq).kb;have y:=(v.below hq).kb)
    |(go_at_call 88;refine(H8.o _ hq ).mono ?_;clear H8;rintro e w8 ⟨v8,rfl,j,ae⟩;have f:=f.below ae;have g4:=g4.below ae;have hq:=Bt hq ae;have z:=(u.below hq).kb;have y:=(v.below hq).kb)
    |(go_at_call 87;refine(H9.o _ hq _ j).mono ?_;clear H9;rintro e w9 ⟨v9,rfl,B,Q⟩;have f:=f.below Q;have g4:=g4.below Q;have j:=j.below Q;have hq:=Bt hq Q;have z:=(u.below hq).kb;have y:=(v.below hq).kb)
    |(go_at_call 86;refine(Qg.o _ hq _ g4 _ B).mono ?_;clear Qg;rintro e ay ⟨rfl,K⟩;have f:=f.below K;have g4:=g4.below K;have j:=j.below K;have B:=B.below K;have hq:=Bt hq K;have z:=(u.below hq).kb;have y:=(v.below hq).kb))
  all_goals go_wp2_with fail
  go_ret;exact⟨rfl,Bt m.o.2.2 hq⟩
theorem KA(va vb:D)(p q:Rat)(w:H)(r:Jf w va p)(v:Jf w vb q)(ae:Sq p)(ah:Sq q):
 F I 41 #[va,vb] w λe w'=>∃u,e=.returned u/\Jf w' u (p-q)/\Bl w w':=by
 obtain⟨s,a,l,c,t,b,k,d,rfl⟩:=Jf.form r;obtain⟨s',a',l',c',t',T,k',X,rfl⟩:=Jf.form v;have m:=Nv w s t s' t' a b a' T l c k d l' c' k' X p q r v;obtain⟨W0,o⟩:=ex (((w.alloc (G #[E s,C a l c,E t,C b k d] 41)).alloc (G #[E s',C a' l' c',E t',C T k' X] 41)).alloc (G #[E false,C none 0 0,E false,C none 0 0] 41));have K:=Z o;rw[o]at m;obtain⟨j,HP,B⟩:=DX m ae ah;clear m r v o ae ah;go_enter Tryz.func41,Tryz.ntmps41
 go_upto_region 1 with fail
 rw[K.o];clear K;obtain⟨s1,R,l1,c1,t1,U,k1,d1,x,r1,i1,j1⟩:=j.o.rat (i:=0) rfl;have M:=x.kb;obtain⟨s2,a2,l2,c2,t2,W,k2,d2,y,r2,i2,j2⟩:=j.o.rat (i:=1) rfl;have Q:=y.kb;obtain⟨s3,a3,l3,c3,t3,b3,k3,d3,f,r3,i3,j3⟩:=j.o.rat (i:=2) rfl;have n:=f.kb;have P:=f.fb;have z:=Z λ(V:H) (h:Bl W0 V)=>QC _ _ 0 q.num V (EY _) (i2.below h) (by have:=Sok.zero.words;omega) (by have:=B.o.num.words;omega);have A:=Z (λ(V:H) (h:Bl W0 V) (s:Bool) (a:Option Addr) (l c:Nat) (g:Jj V (S #[E s,C a l c]) (0-q.num))=>show F I 104 #[S #[E s1,C R l1 c1,E t1,C U k1 d1],S #[E s,C a l c,E t2,C W k2 d2]] V λe w'=>∃u,e=.returned u/\Jf w' u (p-q)/\Bl V w' by
  have h1:=Kl _ _ p (-q) V (r1.below h) (Jf.mk (q:=-q) (by rw[Rat.neg_num,<-Int.zero_sub];exact g) (j2.below h)) HP.o B.o.neg;rw[<-Rat.sub_eq_add_neg]at h1;exact h1)
 have hq:Bl W0 W0.drew:=(BB _ W0).drew;go_region_held3 (λw'=>(w'.cell? ⟨w.heap.size,0,none⟩=some (E s1)/\w'.cell? ⟨w.heap.size,1,none⟩=some (C R l1 c1)/\w'.cell? ⟨w.heap.size,2,none⟩=some (E t1)/\w'.cell? ⟨w.heap.size,3,none⟩=some (C U k1 d1))/\w'.cell? ⟨w.heap.size+1,0,none⟩=some (E s2)/\w'.cell? ⟨w.heap.size+1,1,none⟩=some (C a2 l2 c2)/\w'.cell? ⟨w.heap.size+1,2,none⟩=some (E t2)/\w'.cell? ⟨w.heap.size+1,3,none⟩=some (C W k2 d2)) (first|grind|(go_keep;done)|grind[JR])
  (first
   |(go_at_call 105;refine(z.o _ hq).mono ?_;clear z;rintro e w1 ⟨u1,rfl,ai,am⟩;obtain⟨bn,ap,bj,az,rfl⟩:=Jj.form2 ai;have hq:=Bt hq am;have M:=(x.below hq).kb;have Q:=(y.below hq).kb;have n:=(f.below hq).kb;have P:=(f.below hq).fb)
   |(go_at_call 104;refine(A.o _ hq _ _ _ _ ai).mono ?_;clear A;rintro e w2 ⟨u2,rfl,aj,an⟩;obtain⟨bu,aq,bm,bf,bz,ay,bi,bg,rfl⟩:=Jf.form aj;have hq:=Bt hq an;have M:=(x.below hq).kb;have Q:=(y.below hq).kb;have n:=(f.below hq).kb;have P:=(f.below hq).fb))
 all_goals go_wp2_with fail
 have Qg:=Bt j.o.2.2 hq;have Qf:=j.o.ge 2 rfl;exact BA (by simp[results,Tryz.results41,go_sem,n]) rfl ⟨_,rfl,aj.put4 (f.below hq) rfl rfl rfl rfl _ _ _ _,Jv Qg Qf _ _ _ _⟩
end
section
variable{qs:List Rat}{cap l:Nat}{a:Option Addr}{W:H}
theorem jZ(q:Rat):Xe q 0=0↔q=0:=by
 grind[Rat.eq_iff_mul_eq_mul,Xe,XO]
def FO:Sq 0:=Sq.of (k:=1) ⟨Sm.zero _,Sm.one _ O⟩ O
def jm(v:D)(q:Rat)(w:H)(h:Jf w v q)(hq:Sq q):
 F I 108 #[v] w λe w'=>e=.returned (E (decide (q=0)))/\Bl w w':=by
 obtain⟨s,a,l,c,t,b,k,d,rfl⟩:=h.form;have b0:=JQ.new w 41 (E s) (C a l c) (E t) (C b k d);have f:Bl w (w.alloc (G #[E s,C a l c,E t,C b k d] 41)):=Ba w _;obtain⟨W0,g⟩:=ex (w.alloc (G #[E s,C a l c,E t,C b k d] 41));rw[g]at b0 f;have m:=Z g;have i:=Z (XF _ _ q 0 W0 (h.below f) (Xx _) hq FO);obtain⟨p,r,u,x⟩:=b0.cq;have j:=Z (jZ q);obtain⟨n,hn⟩:=ex (Xe q 0);rw[hn]at i j;clear g hn;go_enter Tryz.func108,Tryz.ntmps108
 go_upto_region 1 with fail
 rw[m.o];go_wp2_with(go_at_call 32;refine i.o.mono ?_;rintro e w1 ⟨rfl,o⟩)
 go_ret;refine⟨?_,Bt f o⟩;show Ending.returned (Value.bool (n==0))=_;have e:(n==0)=decide (q=0):=by rw[FC];simp[j.o]
 rw[e]
def kA(c:Nat)(a:Option Addr)(len cap:Nat)(x y z u:Nat->D)(k:Nat)(W:H):Prop:=
 W.cell? ⟨c,0,none⟩=some (C a len cap)/\(k<len->∃b,a=some ⟨b,0,none⟩/\W.cell? ⟨b,(len-1-k)*4,none⟩=some (x (len-1-k))/\W.cell? ⟨b,(len-1-k)*4+1,none⟩=some (y (len-1-k))/\
  W.cell? ⟨b,(len-1-k)*4+2,none⟩=some (z (len-1-k))/\W.cell? ⟨b,(len-1-k)*4+3,none⟩=some (u (len-1-k)))
def MF(len:Nat)(x y z u:Nat->D)(k:Nat):Array D:=#[.int .i64 ((len:Int)-1-k),S #[x (len-1-k),y (len-1-k),z (len-1-k),u (len-1-k)]]
def QG(F:Fence)(n:Nat)(B:F.fn 239)(K:F.round=none)(hn:1<=n)(d:Nat)(a:Option Addr)(len cap:Nat)(x y z u:Nat->D)(ah:len<=1099511627776):
 Lx F n I 239 #[L (some ⟨d,0,none⟩)] len (MF len x y z u) (kA d a len cap x y z u):=λl J M W j w g=>by
 have T:=(j 0 W g).1;refine Bo Tryz.func239 rfl B ?_ K;simp only[Tryz.ntmps239,Ar,Ah,AG,Nat.reduceAdd,Nat.reduceSub,At,Au,AC,Aw,Al,Ay];gi_wp2;gi_loopw [3] (λi wr=>∃k:Nat,k<=len/\i=.int .i64 ((len:Int)-1-k)/\J k wr) λi _=>(intOf i+1).toNat
 case atStart=>exact⟨0,As _,DI,g⟩
 case round=>
  obtain⟨k,hk,rfl,hJ⟩:=hrel;obtain⟨R,A⟩:=j k wr hJ;by_cases c:k<len
  . obtain⟨b,rfl,U,X,ae,V⟩:=A c;obtain⟨fn,tmps,assign,body,q,v⟩:=w k wr hJ c;have f:((len:Int)-1-k)=((len-1-k:Nat):Int):=O
    have Q:len-1-k<len:=O
    dsimp only[MF]at q;rw[f]at q ⊢;generalize o:len-1-k=m at *;have r:=Hid.o (p:=Hid (len-1-k=m)) o;clear o f;gi_wp2;refine v.mono ?_;rintro e P (⟨rfl,s⟩|⟨rfl,t⟩)
    . gi_wp2;go_roundw
      case rel=>exact⟨k+1,O,by(congr 1;have:=r.o;omega),s⟩
      case measure=>simp[intOf]
    . gi_wp2;refine BA (results_none rfl _ _ _) rfl ?_;exact⟨⟨_,rfl⟩,.inr ⟨k,c,t⟩⟩
  . obtain rfl:k=len:=O
    gi_wp2;go_end0;exact⟨⟨_,rfl⟩,.inl hJ⟩
def QH(F:Fence)(n:Nat)(b:F.fn 186)(c:F.round=none)(a:Option Addr)(len cap:Nat)(w:H):
 CallsIn F n I 186 #[C a len cap] w λe w'=>e=.returned (.func (.func 239) #[] #[L (some ⟨w.heap.size,0,none⟩)])/\w'=w.alloc (G #[C a len cap] 23):=by
 refine Bo Tryz.func186 rfl b ?_ c;simp only[Tryz.ntmps186,Ar,Ah,AG,Nat.reduceAdd,Nat.reduceSub,At,Au,AC,Aw,Al,Ay];gi_wp2;go_ret;exact⟨rfl,rfl⟩
def VI:D->Bool|E b=>b|_=>false
def VJ:D->Option Addr|C a _ _=>a|_=>none
def VK:D->Nat|C _ _ c=>c|_=>0
theorem RowK.pick{r:Bool}(h:RowK r W (C a l cap) qs):l=qs.length/\l<=cap/\cap<=9223372036854775807/\l<=1099511627776/\∃x y z u:Nat->D,∀j,j<l->ED r W (S #[x j,y j,z j,u j]) (cf qs j)/\
 ∃b,a=some ⟨b,0,none⟩/\b<W.heap.size/\W.cell? ⟨b,j*4,none⟩=some (x j)/\W.cell? ⟨b,j*4+1,none⟩=some (y j)/\W.cell? ⟨b,j*4+2,none⟩=some (z j)/\W.cell? ⟨b,j*4+3,none⟩=some (u j):=by
 obtain⟨a',m,e,f,g,i,c⟩:=h;cases e;refine⟨rfl,f,g,i,?_⟩;rcases c with c|⟨b,n,k⟩
 . exact⟨λ_=>N,λ_=>N,λ_=>N,λ_=>N,λj d=>by rw[c]at d;simp at d⟩
 . obtain⟨cs,c1,c2⟩:=k;refine⟨λj=>cs[j*4]?.getD N,λj=>cs[j*4+1]?.getD N,λj=>cs[j*4+2]?.getD N,λj=>cs[j*4+3]?.getD N,λj d=>?_⟩;grind[cell_of]
def RowK.forms(h:RowK true W (C a l cap) qs):l=qs.length/\l<=cap/\cap<=9223372036854775807/\l<=1099511627776/\∃(s t:Nat->Bool) (i k:Nat->Option Addr) (ll m n dd:Nat->Nat),∀j,j<l->Jf W (S #[E (s j),C (i j) (ll j) (m j),E (t j),C (k j) (n j) (dd j)]) (cf qs j)/\
 ∃b,a=some ⟨b,0,none⟩/\b<W.heap.size/\W.cell? ⟨b,j*4,none⟩=some (E (s j))/\W.cell? ⟨b,j*4+1,none⟩=some (C (i j) (ll j) (m j))/\W.cell? ⟨b,j*4+2,none⟩=some (E (t j))/\W.cell? ⟨b,j*4+3,none⟩=some (C (k j) (n j) (dd j)):=by
 obtain⟨p,q,r,v,x,y,z,u,A⟩:=h.pick;refine⟨p,q,r,v,λj=>VI (x j),λj=>VI (z j),λj=>VJ (y j),λj=>VJ (u j),λj=>TL (y j),λj=>VK (y j),λj=>TL (u j),λj=>VK (u j),λj B=>?_⟩;obtain⟨hi,b,o,w,c0,c1,c2,c3⟩:=A j B;obtain⟨s,a',l',c',t,K,P,M,e,_⟩:=(show Jf W _ _ from hi);simp only[Value.agg.injEq,Array.mk.injEq,List.cons.injEq,and_true]at e;obtain⟨c,d,f,g⟩:=e;rw[c,d,f,g]at hi;rw[c]at c0;rw[d]at c1;rw[f]at c2;rw[g]at c3;dsimp only;rw[c,d,f,g];exact⟨hi,b,o,w,c0,c1,c2,c3⟩
def VL(w:H)(a:Option Addr)(len cap:Nat)(qs:List Rat)(k:Nat)(W:H):Prop:=
 ((((Boxed W w.heap.size 23 (C a len cap)/\Boxed W (w.heap.size+1) 156 (.func (.func 108) #[] #[]))/\Boxed W (w.heap.size+1+1) 23 (C none 0 0))/\Boxed W (w.heap.size+1+1+1) 23 (C a len cap))/\Bl w W)/\∀j,len-k<=j->j<len->cf qs j=0
def VM(w:H)(a:Option Addr)(len cap:Nat)(qs:List Rat)(c:Code)(k:Nat)(W:H):Prop:=
 (Boxed W (w.heap.size+1+1) 23 (C a (len-1-k+1) cap)/\Bl w W)/\(c=.ret/\cf qs (len-1-k)≠0/\∀j,len-k<=j->j<len->cf qs j=0)
def kB(w:H)(a:Option Addr)(len cap:Nat)(qs:List Rat):OwnFrom (w.heap.size+1+1+1+1) (VL w a len cap qs):=
 BN (BN (BN (BN (BN (Bg (boxed_own _ _ λ_=>C a len cap) _) (Bg (boxed_own _ _ λ_=>.func (.func 108) #[] #[]) _)) (Bg (boxed_own _ _ λ_=>C none 0 0) _)) (Bg (boxed_own _ _ λ_=>C a len cap) _)) (Bv (Aa _) O)) (DG _ _)
def kC(w:H)(a:Option Addr)(len cap:Nat)(qs:List Rat)(c:Code):OwnFrom (w.heap.size+1+1+1+1) (VM w a len cap qs c):=
 BN (BN (Bg (boxed_own _ _ λk=>C a (len-1-k+1) cap) _) (Bv (Aa _) O)) (DG _ _)
theorem kD(a:Option Addr)(len cap:Nat)(qs:List Rat)(w:H)(h:RowK true w (C a len cap) qs)(hs:Sqs qs):
 F I 107 #[C a len cap,.func (.func 108) #[] #[]] w λe w'=>∃u,e=.returned u/\(RowK true w' u (Jc qs)/\Bl w w')/\(u=C none 0 0/\Jc qs=[]\/u=C a (Jc qs).length cap):=by
 obtain⟨hl,aj,am,ah,s,t,z,A,ll,B,Q,dd,hc⟩:=h.forms;obtain⟨HL,HC,HS⟩:=DX hl hc hs;clear hc hl hs;refine(BI (n:=3)).1 ?_;refine BO Tryz.func107 rfl trivial ?_ rfl;simp only[Tryz.ntmps107,Ar,Ah,AG,Nat.reduceAdd,Nat.reduceSub,At,Au,AC,Aw,Al,Ay];gi_wp2_with(refine⟨trivial,?_⟩;gi_at_call 186;refine(QH Fence.wide _ trivial rfl _ _ _ _).mono ?_;rintro e w' ⟨rfl,rfl⟩)
 have b0:=(((BG w 23 (C a len cap)).alloc (G #[.func (.func 108) #[] #[]] 156)).alloc (G #[C none 0 0] 23)).alloc (G #[C a len cap] 23);have b1:=((BG (w.alloc (G #[C a len cap] 23)) 156 (.func (.func 108) #[] #[])).alloc (G #[C none 0 0] 23)).alloc (G #[C a len cap] 23);have b2:=(BG ((w.alloc (G #[C a len cap] 23)).alloc (G #[.func (.func 108) #[] #[]] 156)) 23 (C none 0 0)).alloc (G #[C a len cap] 23);have b3:=BG (((w.alloc (G #[C a len cap] 23)).alloc (G #[.func (.func 108) #[] #[]] 156)).alloc (G #[C none 0 0] 23)) 23 (C a len cap);simp only[Ax]at b1 b2 b3;have Qd:Bl w ((((w.alloc (G #[C a len cap] 23)).alloc (G #[.func (.func 108) #[] #[]] 156)).alloc (G #[C none 0 0] 23)).alloc (G #[C a len cap] 23)):=(((Ba w _).alloc DI _).alloc si _).alloc si _;have hN:((((w.alloc (G #[C a len cap] 23)).alloc (G #[.func (.func 108) #[] #[]] 156)).alloc (G #[C none 0 0] 23)).alloc (G #[C a len cap] 23)).heap.size=w.heap.size+1+1+1+1:=DI
 refine TQ rfl O (gf:=239) (lb:=#[L (some ⟨w.heap.size+1+1+1,0,none⟩)]) rfl trivial (Bn Tryz.func239 (by kernel_rfl) rfl)
  (QG Fence.wide _ trivial rfl O (w.heap.size+1+1+1) a len cap (λj=>E (s j)) (λj=>C (z j) (ll j) (B j)) (λj=>E (t j)) (λj=>C (A j) (Q j) (dd j)) ah) (λ_=>rfl)
  (VL w a len cap qs) (VM w a len cap qs) (by rw[hN];exact kB w a len cap qs) (λc=>by rw[hN];exact kC w a len cap qs c)
  ⟨⟨⟨⟨⟨b0,b1⟩,b2⟩,b3⟩,Qd⟩,λj r M=>by omega⟩ ?rd
  (λk b=>{ tmps:=#[C a len cap,.func (.func 108) #[] #[],L (some ⟨w.heap.size,0,none⟩),L (some ⟨w.heap.size+1,0,none⟩),L (some ⟨w.heap.size+1+1,0,none⟩),.int .i64 ((len:Int)-1-k),L (some ⟨b,0,none⟩),C a len cap,.func (.func 239) #[] #[L (some ⟨w.heap.size+1+1+1,0,none⟩)],.int .i64 ((len:Int)-1-k),S #[E (s (len-1-k)),C (z (len-1-k)) (ll (len-1-k)) (B (len-1-k)),E (t (len-1-k)),C (A (len-1-k)) (Q (len-1-k)) (dd (len-1-k))],N,N,N,N,N,N,N,N],defers:=[] })
  (λk=>G #[E (s (len-1-k)),C (z (len-1-k)) (ll (len-1-k)) (B (len-1-k)),E (t (len-1-k)),C (A (len-1-k)) (Q (len-1-k)) (dd (len-1-k))] 41 (0,0)) ?assign ?body ?done ?stop
 case rd=>
  rintro k W ⟨⟨⟨_,c3⟩,f⟩,_⟩;refine⟨c3.cell,λhk=>?_⟩;obtain⟨_,b,ea,P,r,M,h3,h4⟩:=HC.o (len-1-k) O;exact⟨b,ea,(f.cell (p:=⟨b,_,none⟩) P).trans r,(f.cell (p:=⟨b,_,none⟩) P).trans M,(f.cell (p:=⟨b,_,none⟩) P).trans h3,(f.cell (p:=⟨b,_,none⟩) P).trans h4⟩
 case assign=>
  intro l k W K v;unfold MF;gi_wp2;exact v
 case body=>
  rintro l k b W ⟨⟨⟨⟨⟨c0,c1⟩,c2⟩,c3⟩,f⟩,i⟩ hk ap ai V;have hm:len-1-k<len:=O
  obtain⟨hi,_⟩:=HC.o (len-1-k) hm;have HI:=Z (Jf.below hi f);have o:=Z i;have e1:((len:Int)-1-k)=((len-1-k:Nat):Int):=O
  rw[e1];clear e1 i hi;obtain⟨m,X⟩:=ex (len-1-k);have R:=Z X;rw[X]at V HI hm ⊢;clear X;have q0:JQ W b 41 (E (s m)) (C (z m) (ll m) (B m)) (E (t m)) (C (A m) (Q m) (dd m)):=V;obtain⟨k0,k1,k2,k3⟩:=q0.cq;have d0:=c0.cell;have d1:=c1.cell;have d2:=c2.cell;have f2:=c2.frozen;clear q0 V;have y:=Z (Bf l ((BI (n:=3-1-1-1)).2 (jm _ _ W HI.o (HS.o.at m))));by_cases g:cf qs m=0
  . have T:=Z g;rw[show decide (cf qs m=0)=true from BJ g]at y;clear g;gi_wp2_with(refine⟨trivial,?_⟩;gi_at_call 108;refine y.o.mono ?_;rintro e w' ⟨rfl,d⟩)
    refine⟨(Xm d).from _,⟨⟨⟨⟨boxed_below c0 d,boxed_below c1 d⟩,boxed_below c2 d⟩,boxed_below c3 d⟩,Bt f d⟩,λj r M=>?_⟩;by_cases x:j=m
    . rw[x];exact T.o
    . have:=R.o;exact o.o j O M
  . have T:=Z g;rw[show decide (cf qs m=0)=false from BM g]at y;clear g;gi_wp2_with(refine⟨trivial,?_⟩;gi_at_call 108;refine y.o.mono ?_;rintro e w' ⟨rfl,d⟩;have d0:=(boxed_below c0 d).cell;have d2:=(boxed_below c2 d).cell;have f2:=(boxed_below c2 d).frozen)
    have ae:=Bt f d;refine⟨((Xm d).trans (BK _ _ _)).from _,⟨?_,ae.setCell (p:=⟨w.heap.size+1+1,0,none⟩) si _⟩,rfl,by rw[R.o];exact T.o,o.o⟩;rw[R.o];exact(boxed_below c2 d).set _
 case done=>
  rintro D W hD ⟨⟨⟨⟨⟨c0,c1⟩,c2⟩,c3⟩,f⟩,i⟩ v;have d1:=c2.cell;have f1:=c2.frozen;have o:=Z i;clear i;gi_wp2;have Qc:=(BK W ⟨w.heap.size+1+1,0,none⟩ (C none 0 0)).same D _ v rfl;refine⟨DI,.inl ⟨_,_,rfl,BQ Qc,?_⟩⟩;have U:=(c2.set (C none 0 0)).kept (BR _ D (.deferred none)) (λe=>by grind);have q:=U.cell;have e0:=PA λj=>by
   rcases A4 j len with x|x
   . exact o.o j O x
   . exact Ys (by have:=HL.o;omega)
  refine⟨C none 0 0,by simp[results,Tryz.results107,go_sem,q],_,rfl,⟨?_,?_⟩,Or.inl ⟨rfl,e0⟩⟩
  . rw[e0];exact RowK.nil _ _
  . exact(f.setCell (p:=⟨w.heap.size+1+1,0,none⟩) si _).trans (DA (w:=w) (Aa _) _ D _ _ (by simp at hD;omega) Qc rfl rfl)
 case stop=>
  rintro D c k W hD hk ⟨⟨c1,f⟩,rfl,g,i⟩ v;have d1:=c1.cell;have o:=Z (show cf qs (len-1-k)≠0/\∀j,len-k<=j->j<len->cf qs j=0 from⟨g,i⟩);clear i g;gi_wp2;refine⟨DI,.inl ⟨_,_,rfl,BQ v,?_⟩⟩;have U:=c1.kept (BR _ D (.deferred none)) (λe=>by grind);have q:=U.cell;have Qb:Bl w (W.putObj D (.deferred none)):=f.trans (DA (w:=w) (Aa _) _ D _ _ (by simp at hD;omega) v rfl rfl);have an:=HL.o;have e:Jc qs=qs.take (len-1-k+1):=by
   refine bY O (Or.inr o.o.1) λj x=>?_;rcases A4 j len with r|r
   . exact o.o.2 j O r
   . exact Ys O
  have el:(qs.take (len-1-k+1)).length=len-1-k+1:=by rw[Ap];omega
  refine⟨C a (len-1-k+1) cap,by simp[results,Tryz.results107,go_sem,q],_,rfl,⟨?_,Qb⟩,Or.inr (by rw[e,el])⟩;rw[e];exact(h.below Qb).take O
def MG(N:Nat)(v:D):Prop:=∀a l c,v=C (some a) l c->N<=a.block
def KB(N:Nat)(v:D):Prop:=∀a l c,v=S #[C (some a) l c]->N<=a.block
def GD{B:Nat}{c:Nat}(b:Boxed W B 25 (C a l c))(x:D){v:D}(h:RowK true W v qs):RowK true (W.setCell ⟨B,0,none⟩ x) v qs:=
 M3.L9 (cs:=#[C a l c]) b (o:=0) rfl rfl true DK x v qs h
def Kn(v:D)(qs:List Rat)(w:H)(h:RowK true w v qs)(hs:Sqs qs):
 F I 43 #[v] w λe w'=>∃u,e=.returned u/\Je w' u (Jc qs)/\(∀N,MG N v->KB N u)/\Bl w w':=by
 obtain⟨a,l,c,rfl⟩:=h.form;have b0:=BG w 25 (C none 0 0);have b:Bl w (w.alloc (G #[C none 0 0] 25)):=Ba w _;obtain⟨W0,g⟩:=ex (w.alloc (G #[C none 0 0] 25));rw[g]at b0 b;have q:=Z g;have i:=Z (kD a l c qs W0 (h.below b) hs);have n:=b0.cell;have f0:=b0.frozen;clear g h hs;go_enter Tryz.func43,Tryz.ntmps43
 go_upto_region 1 with fail
 rw[q.o];go_wp2_with(go_at_call 107;refine i.o.mono ?_;clear i;rintro e w1 ⟨u,rfl,⟨m,j⟩,k⟩;obtain⟨s,x,t,rfl⟩:=m.form;have d:=boxed_below b0 j;have n:=d.cell;have f0:=d.frozen;have o:=Z k;clear k)
 refine BA (by simp[results,Tryz.results43,go_sem,n]) rfl ⟨_,rfl,⟨_,rfl,GD d _ m⟩,?_,(Bt b j).setCell (p:=⟨w.heap.size,0,none⟩) (Aa _) _⟩;intro N r a' l' c' e;simp only[Value.agg.injEq,Array.mk.injEq,List.cons.injEq,and_true]at e;rcases o.o with⟨f,_⟩|f
 . rw[f]at e;cases e
 . rw[f]at e;cases e;exact r _ _ _ rfl
def Yv(v:D)(ps:List Rat)(w:H)(h:Je w v ps):
 F I 26 #[v] w λe w'=>e=.returned (.int .i64 ((ps.length:Int)-1))/\Bl w w':=by
 obtain⟨u,rfl,b⟩:=h;obtain⟨a,cap,rfl,c,d,f,_⟩:=b.open;clear b;generalize ps.length=n at *;go_enter Tryz.func26,Tryz.ntmps26
 go_wp2;go_ret;exact⟨rfl,Ba _ _⟩
def QI(v:D)(qs:List Rat)(i:Int)(w:H)(h:RowK true w v qs):
 F I 165 #[v,.int .i64 i] w λe w'=>∃u,e=.returned u/\Jf w' u (if i<0 then 0 else cf qs i.toNat)/\Bl w w':=by
 obtain⟨a,l,c,rfl⟩:=h.form;obtain⟨hl,M,P,Q,s,t,o,p,ll,q,z,dd,g⟩:=h.forms;have k:=Z hl;have d:=Z g;clear hl g h;by_cases f:i<0
 . rw[BF f];go_enter Tryz.func165,Tryz.ntmps165
   go_wp2;exact BA (by simp[results,Tryz.results165,go_sem]) rfl ⟨_,rfl,Xx _,(Ba w _).alloc DI _⟩
 . rw[BE f];by_cases r:(l:Int)<=i
   . have n:=Z (show cf qs i.toNat=0 from Ys (by have:=k.o;omega));rw[n.o];go_enter Tryz.func165,Tryz.ntmps165
     go_wp2;exact BA (by simp[results,Tryz.results165,go_sem]) rfl ⟨_,rfl,Xx _,(Ba w _).alloc DI _⟩
   . obtain⟨m,rfl⟩:∃m:Nat,i=(m:Int):=⟨i.toNat,O⟩;have x:m<l:=O
     obtain⟨hi,b,rfl,K,R,y,T,U⟩:=d.o m x;have j:=Z hi;rw[CX];clear d hi r;generalize s m=V at *;generalize t m=W at *;generalize o m=A at *;generalize p m=B at *;generalize ll m=l1 at *;generalize q m=c1 at *;generalize z m=y at *;generalize dd m=d1 at *;go_enter Tryz.func165,Tryz.ntmps165
     go_wp2;exact BA (by simp[results,Tryz.results165,go_sem]) rfl ⟨_,rfl,j.o.below (Ba w _),Ba w _⟩
end
namespace M3
variable{c l:Nat}{a:Option Addr}
def row_zero(V:H)(a:Option Addr):RowK true V (C a 0 0) []:=⟨a,0,rfl,Aa _,O,DI,Or.inl rfl⟩
def QJ(V:H):Has V (S #[C Option.none 0 0]) (.poly []):=⟨_,rfl,row_zero V Option.none⟩
def VN(V:H):Je V (S #[C Option.none 0 0]) []:=⟨_,rfl,row_zero V Option.none⟩
def DJ.poly2{w V:H}{bs:List (Option (Nat × Dat))}(M:DJ w V bs){i B:Nat}{ps:List Rat}(h:bs[i]?=some (some (B,.poly ps))):∃a l c,Boxed V B 25 (C a l c)/\Je V (S #[C a l c]) ps:=by
 obtain⟨a,l,c,b,d⟩:=M.poly h;exact⟨a,l,c,b,_,rfl,d⟩
def LS{W:H}{B:Nat}(b:Boxed W B 25 (C a l c)){x v:D}{qs:List Rat}(h:Je W v qs):Je (W.setCell ⟨B,0,Option.none⟩ x) v qs:=by
 obtain⟨u,e,h⟩:=h;exact⟨u,e,GD b x h⟩
def Has.set1{V:H}{v:D}{d:Dat}(h:Has V v d){B:Nat}(q:Boxed V B 25 (C a l c))(e:JP (C a l c)=true)(b:D):Has (V.setCell ⟨B,0,Option.none⟩ b) v d:=
 h.keep (P9 q e b) (Or.inr λ_ _ g=>GD q b g)
section
variable {w V:World} {bs:List (Option (Nat × Dat))} {B:Nat} {ρ:Operand->Value} {x y:Operand} {dst:Option Tmp} {ty:TypeId} {ps:String} {af:Array Edge} {gd:Option (Nat × Bool)} {q q0:Rat} {z z0:Int} {p p0:List Rat} {v p1 u1:Value} {ds:List Dat} {T:World->Value->Prop}
def FP(i:Nat)(M:DJ w V bs)(h:bs[i]?=some (some (B,.poly p)):=by rfl)(hp:p1=L (some ⟨B,0,none⟩):=by rfl)(b:ρ x=p1:=by kernel_rfl):∃u,(execOp ρ { dst:=dst,op:=.load 25 x,type:=ty,pos:=ps,after:=af,guard:=gd }).run I V=.ok (.value u) V/\Has V u (.poly p):=by
 rw[hp]at b;obtain⟨a,l,c,n,r⟩:=M.poly2 h;have d:=n.cell;exact⟨_,by go_simp,r⟩
def GS(i:Nat)(M:DJ w V bs)(hv:Has V u1 (.poly p))(h:bs[i]?=some (some (B,.poly p0)):=by rfl)(hp:p1=L (some ⟨B,0,none⟩):=by rfl)(b:ρ x=p1:=by kernel_rfl)(f:ρ y=u1:=by kernel_rfl)(hT:∀ {a l c x},Boxed V B 25 (C a l c)->DJ w (V.setCell ⟨B,0,none⟩ x) (bs.set i (some (B,.poly p)))->T (V.setCell ⟨B,0,none⟩ x) N:=by exact λ_ m=>m):Wr ρ { dst:=none,op:=.store 25 x y,type:=ty,pos:=ps,after:=af,guard:=gd } V ds (.eq N) T:=by
 rw[hp]at b;obtain⟨a,l,c,n,r⟩:=M.poly2 h;have j:=n.cell;have f0:=n.frozen;obtain⟨g,l1,c1,e⟩:=Je.form (show Je V _ _ from hv);rw[e]at hv;rw[e]at f;exact⟨.skip,N,_,by go_simp,Or.inr ⟨rfl,rfl⟩,rfl,λd v _ k=>k.set1 n rfl _,hT n (M.putPoly h hv)⟩
def Ko(i:Nat)(M:DJ w V bs)(h:bs[i]?=some none:=by rfl)(hT:∀ {o},DJ w (V.alloc o) (bs.set i (some (V.heap.size,.poly [])))->T (V.alloc o) (L (some ⟨V.heap.size,0,none⟩)):=by exact λm=>m):Wr ρ { dst:=dst,op:=.alloc 25,type:=ty,pos:=ps,after:=af,guard:=gd } V ds .ptr T:=
 ⟨_,L (some ⟨V.heap.size,0,none⟩),_,by go_simp;exact rfl,Or.inl rfl,rfl,λ_ _ _ k=>k.alloc _,hT (M.fill h (.poly []) (QJ V))⟩
end
end M3
def Tryz.infoRat:(Tryz.prog.info? 41).map (λi=>(i.zero,i.size,i.bytes))=some (some (S #[E false,C none 0 0,E false,C none 0 0]),4,64):=by kernel_rfl
def YH(n:Nat):Array D:=madeCells #[E false,C none 0 0,E false,C none 0 0] (n*4)
theorem Nx{n j:Nat}(a:j<n):(YH n)[j*4]?=some (E false)/\(YH n)[j*4+1]?=some (C none 0 0)/\(YH n)[j*4+2]?=some (E false)/\(YH n)[j*4+3]?=some (C none 0 0):=by
 unfold YH madeCells;have h:∀k,k<n*4->((Array.range (n*4)).map λi=>(#[Value.bool false,Value.slice none 0 0,Value.bool false,Value.slice none 0 0]:Array D)[i%4]!)[k]?=some ((#[Value.bool false,Value.slice none 0 0,Value.bool false,Value.slice none 0 0]:Array D)[k%4]!):=λk hk=>by
  grind
 refine⟨(h _ O).trans ?_,(h _ O).trans ?_,(h _ O).trans ?_,(h _ O).trans ?_⟩
 . grind
 . grind
 . grind
 grind
def MH(n:Nat)(h:n<=2199023255552)(w:H):(Instr.makeSlice 23 (.int .i64 (n:Int)) (.int .i64 (n:Int))).run I w=.ok (C (some ⟨w.heap.size,0,none⟩) n n) (w.alloc (G (YH n) 41)):=by
 obtain⟨i,hi,b⟩:=CP.1 Tryz.infoRat;simp only[Fg]at b;obtain⟨d,hs,c⟩:=b;have a:=run_make (P:=I) w 23 41 i _ Tryz.underlying23 hi d .i64 .i64 n n O (Int.le_refl _) (by rw[c];omega) O;simp only[CX,hs]at a;exact a
def QK(n:Nat)(w:H):Dm true (w.alloc (G (YH n) 41)) w.heap.size (List.replicate n 0):=by
 refine⟨YH n,BD w _,λj a=>?_⟩;rw[AK]at a;obtain⟨b,c,d,e⟩:=Nx a;exact⟨_,_,_,_,b,c,d,e,by rw[Yg];exact Xx _⟩
theorem kE(a b:Option Addr)(la ca lb cb:Nat)(ps qs:List Rat)(w:H)(t:RowK true w (C a la ca) ps)(x:RowK true w (C b lb cb) qs)(W:Sqs ps)(X:Sqs qs):
 F I 84 #[C a la ca,C b lb cb,.func (.func 41) #[] #[]] w λe w'=>∃v zs,e=.returned v/\RowK true w' v zs/\(∀j,cf zs j=cf ps j-cf qs j)/\MG w.heap.size v/\Bl w w':=by
 obtain⟨T,ai,am,bf,_⟩:=t.forms;obtain⟨U,aj,an,bg,_⟩:=x.forms;obtain⟨n,hn⟩:∃n:Nat,max (la:Int) (lb:Int)=(n:Int):=⟨max la lb,O⟩;have bm:n<=1099511627776:=O
 obtain⟨HN,HA,HB,HP,HQ,Qp,Qq⟩:=IW (show la<=n/\lb<=n from by omega) t x W X T U;have Qo:=MH n O w;have m:=QK n w;have r:Bl w (w.alloc (G (YH n) 41)):=Ba w _;obtain⟨W0,P⟩:=ex (w.alloc (G (YH n) 41));rw[P]at m r Qo;have Qr:=Z m;have Qn:=Z r;clear m r P t x W X T U ai am aj an;go_enter Tryz.func84,Tryz.ntmps84
 go_wp2;go_loopw [17] (λi wr=>∃(k:Nat) (zs:List Rat),k<=n/\i=.int .i64 (k:Int)/\Hid (zs.length=n/\(∀j,j<k->cf zs j=cf ps j-cf qs j)/\Dm true wr w.heap.size zs/\Bl w wr)) λi _=>n-(intOf i).toNat
 case atStart=>exact⟨0,_,As _,rfl,Z ⟨AK,λj g=>by omega,Qr.o,Qn.o⟩⟩
 case round=>
  obtain⟨k,zs,hk,rfl,c⟩:=hrel;by_cases bi:k<n
  . have bj:(k:Int)<(n:Int):=O
    have p:=Z (QI _ ps (k:Int) wr (HA.o.below c.o.2.2.2));have q:=Z λ(V:H) (h:Bl wr V)=>QI _ qs (k:Int) V ((HB.o.below c.o.2.2.2).below h);rw[BE O,CX]at p;rw[show(if(k:Int)<0 then(0:Rat)else cf qs ((k:Int)).toNat)=cf qs k from by grind]at q;have B:=Z λ(V:H) (u v:D) (hu:Jf V u (cf ps k)) (hv:Jf V v (cf qs k))=>KA u v (cf ps k) (cf qs k) V hu hv (HP.o.at k) (HQ.o.at k);have o:=Z (show k<zs.length from by have:=c.o.1;omega);go_wp2_with(first
     |(go_at_call 165;refine p.o.mono ?_;clear p;rintro e w1 ⟨u1,rfl,f,Q⟩;have l:=Q)
     |(go_at_call 165;refine(q.o _ l).mono ?_;clear q;rintro e w2 ⟨u2,rfl,ae,y⟩;have f:=f.below y;have M:=Bt l y;clear l)
     |(go_at_call 41;refine(B.o _ _ _ f ae).mono ?_;clear B;rintro e w3 ⟨u3,rfl,ah,R⟩;have K:=Bt M R;clear M f ae Q y R;have d:=c.o.2.2.1.below K;obtain⟨x0,y0,z0,t0,k0,k1,k2,k3,_⟩:=d.at o.o;have f0:=d.frozen (k*4);have f1:=d.frozen (k*4+1);have f2:=d.frozen (k*4+2);have f3:=d.frozen (k*4+3);obtain⟨bz,ap,bu,ay,ce,aq,bn,az,rfl⟩:=Jf.form ah))
    go_roundw
    case rel=>
     refine⟨k+1,zs.set k (cf ps k-cf qs k),O,by go_num,Z ⟨by rw[Fm];exact c.o.1,λj g=>?_,d.set o.o ah,U4 (Bt c.o.2.2.2 K) (Aa _) _ _ _ _⟩⟩;rw[Gk _ _ _ _ o.o];by_cases z:j=k
     . rw[BF z,z]
     . rw[BE z];exact c.o.2.1 j O
    case measure=>simp[intOf];omega
  . have Qm:k=n:=O
    subst Qm;go_wp2;go_ret;have s:=c.o;have A:=s.2.2.1.row (n:=k) (cap:=k) O (Aa _) O O;rw[Af O]at A;refine⟨_,zs,rfl,A,λj=>?_,λa' l' c' e=>by cases e;exact Aa _,s.2.2.2⟩;rcases A4 j k with g|g
    . exact s.2.1 j g
    . have:=HN.o;have h1:=Qp.o;have h2:=Qq.o;rw[Ys O,Ys O,Ys O];grind
def VO(t x:D)(ps qs:List Rat)(w:H)(d:Je w t ps)(f:Je w x qs)(q:Sqs ps)(r:Sqs qs)(s:Sqs (JT ps qs)):
 F I 30 #[t,x] w λe w'=>∃u,e=.returned u/\Je w' u (JT ps qs)/\KB w.heap.size u/\Bl w w':=by
 obtain⟨u,rfl,d⟩:=d;obtain⟨v,rfl,f⟩:=f;obtain⟨a,la,ca,rfl⟩:=d.form;obtain⟨b,lb,cb,rfl⟩:=f.form;obtain⟨W0,c⟩:=ex (((w.alloc (G #[C a la ca] 25)).alloc (G #[C b lb cb] 25)).alloc (G #[C none 0 0] 25));have b0:Boxed W0 w.heap.size 25 (C a la ca):=by rw[<-c];exact((BG w _ _).alloc _).alloc _
 have K:Boxed W0 (w.heap.size+1) 25 (C b lb cb):=by rw[<-c];have:=(BG (w.alloc (G #[C a la ca] 25)) 25 (C b lb cb)).alloc (G #[C none 0 0] 25);simpa using this
 have M:Boxed W0 (w.heap.size+1+1) 25 (C none 0 0):=by rw[<-c];have:=BG ((w.alloc (G #[C a la ca] 25)).alloc (G #[C b lb cb] 25)) 25 (C none 0 0);simpa using this
 have g:Bl w W0:=by rw[<-c];exact((Ba w _).alloc DI _).alloc si _
 obtain⟨n,o,B,A⟩:=Dt (kE a b la ca lb cb ps qs W0 (d.below g) (f.below g) q r) (λ(V:H) (v:D) (zs:List Rat) (h:RowK true V v zs) (hs:Sqs zs)=>Kn v zs V h hs) s c;have k0:=b0.cell;have k1:=K.cell;clear c d f q r s;go_enter Tryz.func30,Tryz.ntmps30
 go_upto_region 1 with fail
 rw[A.o];go_wp2_with(first
  |(go_at_call 84;refine n.o.mono ?_;clear n;rintro e w1 ⟨v1,zs,rfl,W,m,T,Q⟩;have z:Sqs zs:=Sqs.of (λi=>by rw[m i,<-PI];exact B.o.at i);have y:=Z m;clear m)
  |(go_at_call 43;refine(o.o _ _ zs W z).mono ?_;clear o;rintro e w2 ⟨u2,rfl,l,U,R⟩;obtain⟨a9,l9,c9,rfl⟩:=l.form;have hq:=Bt Q R;have k:=boxed_below M hq;have X:=k.cell;have f2:=k.frozen))
 have P:Jc zs=JT ps qs:=by
  rw[<-Yz];exact Iv λj=>by rw[y.o j,PI]
 rw[P]at l;refine BA (by simp[results,Tryz.results30,go_sem,X]) rfl ⟨_,rfl,⟨_,rfl,GD k _ l.row⟩,?_,(Bt g hq).setCell (p:=⟨w.heap.size+1+1,0,none⟩) si _⟩;intro a' l' c' e;have:=U W0.heap.size T a' l' c' e;have h2:=g.size;omega
section
variable{r:Bool}{qs:List Rat}{base:Nat}{W:H}
def Tryz.infoRef:(Tryz.prog.info? 52).map (λi=>(i.zero,i.size,i.bytes))=some (some (S #[C none 0 0,E false,C none 0 0,E false]),4,64):=by kernel_rfl
def ET(r:Bool)(base:Nat)(W:H)(v:D)(qs:List Rat):Prop:=
 (v=C none 0 0/\qs=[])\/∃g cap cur,v=C (some ⟨g,0,none⟩) qs.length cap/\base<=g/\W.heap[g]?=some (G cur (Dn r) (0,0))/\qs.length<=cap/\cap<=maxLen/\cur.size=cap*4/\(∀c∈cur.toList,JP c=true)/\Xd r W (cur.toList.take (qs.length*4)) qs
theorem ET.nil(r:Bool)(base:Nat)(W:H):ET r base W (C none 0 0) []:=Or.inl ⟨rfl,rfl⟩
def ET.below{r:Bool}{base:Nat}{W W':H}{v:D}{qs:List Rat}(h:ET r base W v qs)(b:Bl W W'):ET r base W' v qs:=by
 rcases h with h|⟨g,cap,cur,c,d,a,e,f,i,j,k⟩
 . exact Or.inl h
 . exact Or.inr ⟨g,cap,cur,c,d,(b.block g (Ab.1 a).1).trans a,e,f,i,j,k.below b⟩
theorem ET.row{v:D}(h:ET r base W v qs)(hl:qs.length<=1099511627776):RowK r W v qs:=by
 rcases h with⟨rfl,rfl⟩|⟨g,cap,cur,rfl,m,a,b,c,n,o,d⟩
 . exact RowK.nil r W
 . refine⟨_,cap,rfl,b,by unfold maxLen at c;omega,hl,Or.inr ⟨g,rfl,cur,a,λj e=>?_⟩⟩;obtain⟨x,y,z,u,f,i,k,l,p⟩:=d.2 j e;grind[]
theorem ET.form{v:D}(h:ET r base W v qs):∃a c,v=C a qs.length c/\(∀p,a=some p->base<=p.block):=by
 rcases h with⟨rfl,rfl⟩|⟨g,cap,cur,rfl,b,_⟩
 . exact⟨none,0,rfl,λp e=>by cases e⟩
 grind
theorem kF(z:Array D)(a:0<z.size)(d:∀c∈z.toList,JP c=true)(n:Nat):∀c∈(Builtin.zeroCells z n).toList,JP c=true:=by
 intro c b;grind[Builtin.zeroCells,Cl]
def Ew(r:Bool):TypeId:=match r with|true=>22|false=>29
def zK(r:Bool):Array D:=match r with|true=>#[E false,C none 0 0,E false,C none 0 0]|false=>#[C none 0 0,E false,C none 0 0,E false]
def VP(r:Bool):Tryz.prog.underlying (Ew r)=some (.slice (Dn r)):=by
 cases r with
 |true=>exact Tryz.underlying22
 |false=>exact Tryz.underlying29
def VQ(r:Bool):∃i,Tryz.prog.info? (Dn r)=some i/\i.zero=some (S (zK r))/\i.size=4/\i.bytes=64:=by
 cases r with
 |true=>
  obtain⟨i,a,b,c,d⟩:=Bs Tryz.infoRat;exact⟨i,a,b,c,d⟩
 |false=>
  obtain⟨i,a,b,c,d⟩:=Bs Tryz.infoRef;exact⟨i,a,b,c,d⟩
theorem VR(r:Bool):(zK r).size=4:=by cases r<;>rfl
theorem kG(r:Bool):∀c∈(zK r).toList,JP c=true:=by
 cases r<;>(intro c a;simp[zK]at a;rcases a with rfl|rfl|rfl|rfl<;>rfl)
theorem kH(r:Bool)(base:Nat)(W:H)(v:D)(qs:List Rat)(h:ET r base W v qs){x y z u:D}{q:Rat}(hq:ED r W (S #[x,y,z,u]) q)(hl:qs.length+1<=1099511627776)(T:base<=W.heap.size):
 ∃v' w',(Builtin.append_ #[Ew r,Ew r] (Ew r) #[v,C (some ⟨W.heap.size,0,none⟩) 1 1]).run I (W.alloc (G #[x,y,z,u] (Dn r)))=.ok v' w'/\ET r base w' v' (qs++[q])/\(∀k v ds,Row k W v ds->Row k w' v ds)/\(∀n w0,n<=base->Below n w0 W->Below n w0 w'):=by
 obtain⟨i,hi,hz,w,ah⟩:=VQ r;have U:=VP r;have l:Bl W (W.alloc (G #[x,y,z,u] (Dn r))):=Ba W _;obtain⟨d,ae⟩:=ex (W.alloc (G #[x,y,z,u] (Dn r)));have aq:d.heap[W.heap.size]?=some (G #[x,y,z,u] (Dn r) (0,0)):=by rw[<-ae];exact BD W _
 rw[ae]at l ⊢;have Qg:=hq.below l;obtain⟨n0,n1,n2,n3⟩:=hq.no;have A:∀j c,[x,y,z,u][j]?=some c->d.cell? ((⟨W.heap.size,0,none⟩:Addr).add j)=some c:=λj c f=>by
  grind[Yk,cell_of]
 have Qm:(Value.agg (zK r)).cells=zK r:=rfl;have grown:∀(cs:List D) (old:Nat) (m:Nat),m=qs.length+1->Xd r d (cs++[x,y,z,u]) (qs++[q])->(∀c∈cs,JP c=true)->cs.length=qs.length*4->
  ET r base (d.drew.alloc (G (cs.toArray++[x,y,z,u].toArray++Builtin.zeroCells (zK r) (grownCap d m old (Dn r)-m)) (Dn r))) (C (some ⟨d.heap.size,0,none⟩) m (grownCap d m old (Dn r))) (qs++[q]):=by
  intro cs old m hm f Qf K;subst hm;have ap:=grownCap_ge d (qs.length+1) old (Dn r);have Qp:=grownCap_le_maxLen d (qs.length+1) old (Dn r) (by unfold maxLen;omega);have Qq:Bl d (d.drew.alloc (G (cs.toArray++[x,y,z,u].toArray++Builtin.zeroCells (zK r) (grownCap d (qs.length+1) old (Dn r)-(qs.length+1))) (Dn r))):=((BB _ d).drew).alloc (Aa _) _;refine Or.inr ⟨d.heap.size,_,_,DH,Ac T l.size,BD d.drew _,DH,Qp,?_,?_,?_⟩
  . grind[size_zeroCells,VR,Ah]
  . intro c t;simp only[Array.toList_append,Cp]at t;rcases t with(t|t)|t
    . exact Qf c t
    . grind
    grind[kF,VR,kG]
  . have e:(cs.toArray++[x,y,z,u].toArray++Builtin.zeroCells (zK r) (grownCap d (qs.length+1) old (Dn r)-(qs.length+1))).toList.take ((qs++[q]).length*4)=cs++[x,y,z,u]:=by
     simp only[Array.toList_append];have B:(qs++[q]).length*4=(cs++[x,y,z,u]).length:=by simp;omega
     rw[B];exact List.take_left
    rw[e];exact f.below Qq
 have fin:∀o,(∀k v ds,Row k W v ds->Row k (d.drew.alloc o) v ds)/\(∀n w0,n<=base->Below n w0 W->Below n w0 (d.drew.alloc o)):=λo=>by
  have Qi:Bl W (d.drew.alloc o):=(l.drew).alloc (by exact l.size) _;refine⟨λk v ds h=>h.below Qi,λn w0 hn R=>R.trans (Qi.mono (Ac hn T))⟩
 rcases h with⟨rfl,rfl⟩|⟨g,cap,cur,rfl,h2,h3,h4,h5,h6,h7,h8⟩
 . have s:=run_append_nil (P:=I) d (Ew r) (Ew r) (Dn r) i _ U hi hz ⟨W.heap.size,0,none⟩ 1 1 [x,y,z,u] (by rw[w];rfl) A O O (by rw[ah];omega);rw[Qm]at s;refine⟨_,_,s,?_,fin _⟩;have:=grown [] 0 1 rfl (by rw[Al];exact(Xd.nil r d).snoc Qg) (λc f=>by simp at f) rfl;simpa using this
 . have Q:d.heap[g]?=some (G cur (Dn r) (0,0)):=(l.block g (Ab.1 h3).1).trans h3;have K:(cur.toList.take (qs.length*4)).length=qs.length*4:=by rw[Ap];have M:cur.toList.length=cur.size:=Fi;omega
   have Qk:=(h8.below l).snoc Qg;have Qf:∀c∈cur.toList.take (qs.length*4),JP c=true:=λc f=>h7 c (Fw f);by_cases an:qs.length+1<=cap
   . have s:=run_append_room (P:=I) d (Ew r) (Ew r) (Dn r) i U hi g qs.length cap cur Q ⟨W.heap.size,0,none⟩ 1 1 [x,y,z,u] (by rw[w];rfl) A hq.one an (by rw[w];simp;omega);rw[w]at s;obtain⟨p,ai⟩:=ex ((cur.toList.take (qs.length*4)++[x,y,z,u]++cur.toList.drop (qs.length*4+[x,y,z,u].length)).toArray);rw[ai]at s;have Qo:=setRow_heap d g cur p (Dn r) (0,0) Q;have X:∀k v ds,Row k d v ds->Row k (d.setRow g p) v ds:=λk v ds h=>by
      obtain⟨a,c,e,g1,g2,g3,g4⟩:=h;refine⟨a,c,e,g1,g2,g3,?_⟩;rcases g4 with g4|⟨b,V,ea,aj,f⟩
      . exact Or.inl g4
      . by_cases M:ds=[]
        . exact Or.inl M
        . have Qj:0<ds.length:=Ae.2 M;have Qh:b≠g:=λe=>by
           subst e;have h9:=f 0 Qj;simp only[World.cell?,Q]at h9;have Ql:cur[V+0]?=some (.int k (ds[0]?.getD 0:Nat)):=by simpa using h9
           have Qn:=h7 _ (Array.mem_toList_iff.2 (Array.mem_of_getElem? Ql));simp[JP]at Qn
          exact Or.inr ⟨b,V,ea,aj.of (setRow_other d g b p Qh),λj hj=>(cell_setRow_other d g p ⟨b,V+j,none⟩ Qh).trans (f j hj)⟩
     refine⟨_,_,s,?_,λk v ds h=>X k v ds (h.below l),λn w0 hn R=>below_setRow (R.trans (l.mono (Ac hn T))) (Ac hn h2) p⟩;refine Or.inr ⟨g,cap,p,DH,h2,Qo,DH,h5,?_,?_,?_⟩
     . grind
     . intro c f;grind
     . have e:p.toList.take ((qs++[q]).length*4)=cur.toList.take (qs.length*4)++[x,y,z,u]:=by
        rw[<-ai];have B:(qs++[q]).length*4=(cur.toList.take (qs.length*4)++[x,y,z,u]).length:=by simp[K];omega
        rw[B];exact List.take_left
       rw[e];exact Qk.keep X
   . have am:∀j c,(cur.toList.take (qs.length*4))[j]?=some c->d.cell? ((⟨g,0,none⟩:Addr).add j)=some c:=λj c f=>by
      grind[Yk,cell_of]
     have s:=run_append_grow (P:=I) d (Ew r) (Ew r) (Dn r) i _ U hi hz ⟨g,0,none⟩ qs.length cap (cur.toList.take (qs.length*4)) (by rw[w];exact K) am ⟨W.heap.size,0,none⟩ 1 1 [x,y,z,u] (by rw[w];rfl) A O O (by rw[ah];exact growslice_fits O O);grind
end
section
open M3
theorem Ny(a b:List UInt8):(⟨a.toArray⟩:ByteArray)++⟨b.toArray⟩=⟨(a++b).toArray⟩:=by
 apply ByteArray.ext;simp
theorem kI(a b:List UInt8):(⟨a.toArray⟩:ByteArray)++⟨#[47]⟩++⟨b.toArray⟩=⟨(a++47::b).toArray⟩:=by
 grind[Ny]
end
section
variable{c:Rat}
def kJ(b:ByteArray)(n i:Nat)(r:List UInt8)(h:b.size-i=n):ByteArray.toList.loop b i r=r.reverse++b.data.toList.drop i:=by
 induction n generalizing i r with
 |zero=>
  rw[ByteArray.toList.loop,BE O,AX (by simpa using(by omega:b.size<=i)),CC]
 |succ n c=>
  have hi:i<b.size:=O
  have a:i<b.data.toList.length:=by simpa using hi
  rw[ByteArray.toList.loop,BF hi,c (i+1) _ O,List.reverse_cons,CM,AQ a];have e:b.get! i=b.data.toList[i]:=by
   show b.data[i]! = _;rw[getElem!_pos b.data i hi];simp
  rw[e];rfl
theorem QL(b:ByteArray):b.toList=b.data.toList:=by
 show ByteArray.toList.loop b 0 []=_;rw[kJ b _ 0 [] rfl];rfl
def Yn(c:Rat):Rat:=if c<0 then -c else c
def Nz(i:Nat):List UInt8:=if i=0 then []else if i=1 then [120]else 120::94::YY i
theorem neg_num:(c<0)↔c.num<0:=by
 rw[<-Rat.not_le,<-Rat.num_nonneg];omega
theorem kK(h:c<0):Yn c=-c:=by unfold Yn;rw[BF h]
theorem kL(h:¬c<0):Yn c=c:=by unfold Yn;rw[BE h]
theorem kN(c:Rat):(Yn c).num=(c.num.natAbs:Int)/\(Yn c).den=c.den:=by
 grind[neg_num,kK,Rat.neg_num,Rat.neg_den,kL]
end
namespace M3
def N0{W W':H}{row:Option Nat}(hg:W.grownBy W' row)(z:∀r,row=some r->∃o:Obj,W.heap[r]?=some o/\o.isCells=false){k:IntKind}{v:D}{ds:List Nat}(h:Row k W v ds):Row k W' v ds:=by
 obtain⟨a,cap,e,n,p,q,c⟩:=h;refine⟨a,cap,e,n,p,q,?_⟩;rcases c with c|⟨b,A,l,d,i⟩
 . exact Or.inl c
 . by_cases g:ds=[]
   . exact Or.inl g
   . have hl:0<ds.length:=Ae.2 g;have f:some b≠row:=λe=>by
      obtain⟨o,y,x⟩:=z b e.symm;have s:=i 0 hl;cases o with
      |cells cs t m=>cases x
      |_=>simp[World.cell?,y]at s
     exact Or.inr ⟨b,A,l,d.of (hg.block b d.lt f),λj u=>(BT (w:=W) (hg.block b d.lt f)).trans (i j u)⟩
variable{cs:Array D}{W W':H}
def YM{row:Option Nat}(hg:W.grownBy W' row)(d:∀r,row=some r->∃o:Obj,W.heap[r]?=some o/\o.isCells=false){B:Nat}{t:TypeId}(h:Bx W B t cs):Bx W' B t cs:=by
 have b:some B≠row:=λe=>by
  obtain⟨o,a,c⟩:=d B e.symm;rw[show W.heap[B]?=_ from h]at a;cases a;cases c
 exact(hg.block B h.lt b).trans h
def N1{row:Option Nat}(hg:W.grownBy W' row)(g:∀r,row=some r->∃o:Obj,W.heap[r]?=some o/\o.isCells=false){r:Bool}{v:D}{qs:List Rat}(h:RowK r W v qs):RowK r W' v qs:=by
 obtain⟨a,cap,e,j,k,l,c⟩:=h;refine⟨a,cap,e,j,k,l,?_⟩;rcases c with c|⟨b,i,f⟩
 . exact Or.inl c
 . have m:W'.heap[b]?=W.heap[b]?:=by
    obtain⟨cs,d,_⟩:=f;rw[d];exact YM hg g d
   exact Or.inr ⟨b,i,f.keep m λ_ _ _ h=>N0 hg g h⟩
def DJ.own{w:H}{bs:List (Option (Nat × Dat))}{row:Option Nat}(M:DJ w W bs)(hg:W.grownBy W' row)(b:∀r,row=some r->w.heap.size<=r/\∃o:Obj,W.heap[r]?=some o/\o.isCells=false):DJ w W' bs:=by
 have a:∀r,row=some r->∃o:Obj,W.heap[r]?=some o/\o.isCells=false:=λr e=>(b r e).2;refine⟨λi B d h=>?_,M.2.1,M.2.2.grown hg M.2.2.size λk e=>(b k e).1⟩;obtain⟨⟨cs,c,f⟩,g⟩:=M.1 i B d h;exact⟨⟨cs,YM hg a c,f.keep (λ_ _ _ h=>N0 hg a h) (Or.inr λ_ _ h=>N1 hg a h)⟩,g⟩
def kP{w:H}{B:Nat}(b:w.heap.size<=B)(f:Nat->List (Option (Nat × Dat))):OwnFrom B (λk W=>DJ w W (f k)):=
 λ_ _ _ _ M hg a=>M.own hg λr e=>⟨Ac b (a r e).1,(a r e).2⟩
def DJ.with{w:H}{bs:List (Option (Nat × Dat))}(M:DJ w W bs){b:Nat}(d:Dat)(m:Bx W b d.ty cs)(n:Has W (S cs) d)(p:w.heap.size<=b)(f:∀(i:Nat) B g,bs[i]?=some (some (B,g))->B≠b):DJ w W (bs++[some (b,d)]):=by
 have e:∀(j:Nat) x,(bs++[some (b,d)])[j]?=some (some x)->bs[j]?=some (some x)\/(j=bs.length/\x=(b,d)):=λj x h=>by
  by_cases o:j<bs.length
  . rw[CE o]at h;exact Or.inl h
  . rw[A7 O]at h;obtain⟨k,hk⟩:=ex (j-bs.length);rw[hk]at h;cases k with
    |zero=>simp at h;exact Or.inr ⟨O,h.symm⟩
    |succ k=>simp at h
 refine⟨λj B d h=>?_,λj k B d1 l a c=>?_,M.2.2⟩
 . rcases e j _ h with h|⟨_,h⟩
   . exact M.1 j B d h
   . cases h;exact⟨⟨cs,m,n⟩,p⟩
 . rcases e j _ a with a|⟨q,a⟩<;>rcases e k _ c with c|⟨r,c⟩
   . exact M.2.1 j k B d1 l a c
   . cases c;exact absurd rfl (f j _ _ a)
   . cases a;exact absurd rfl (f k _ _ c)
   . omega
def Ic(w W0 W:H)(bs:List (Option (Nat × Dat))):Prop:=DJ w W bs/\KeepsOthers W0 W
def Ic.below{w W0 W W':H}{bs:List (Option (Nat × Dat))}(h:Ic w W0 W bs)(a:Bl W W'):Ic w W0 W' bs:=⟨h.1.below a,h.2.trans (Xm a)⟩
def Ic.drew{w W0 W:H}{bs:List (Option (Nat × Dat))}(h:Ic w W0 W bs):Ic w W0 W.drew bs:=h.below ((BB _ W).drew)
def QM(W:H)(B:Nat)(x y z u:D):KeepsOthers W (put4 W B x y z u):=(((BK _ _ _).trans (BK _ _ _)).trans (BK _ _ _)).trans (BK _ _ _)
def VS(W:H)(B o:Nat)(x y z u:D):KeepsOthers W (putAt W B o x y z u):=(((BK _ _ _).trans (BK _ _ _)).trans (BK _ _ _)).trans (BK _ _ _)
