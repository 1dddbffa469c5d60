import Derived.Test.YtakpoihdghihmaaGreatDoorR22
import Derived.Test.YtakpoihdghihmaaGreatDoorR24
import Derived.Deep.RegionHeld3
open Go.Value renaming slice->C,bool->E,pointer->G,agg->M
open Go.Obj renaming cells->F
open Go renaming World->H,Value->L
open Go.Proofs.Tryz renaming prog->I
set_option maxRecDepth 100000
set_option maxHeartbeats 16000000
namespace Go.Proofs.YtakpoihdghihmaaGreatDoor
open Go.RowKit Go.Shelf
attribute [local go_sem] Oper.semAt_some
theorem B0:type_of% @decide_eq_decide:=@decide_eq_decide
variable{x y:Int}{p q:Rat}{W:H}
theorem IX(N P:L)(x y:Int)(w:H)(X:Jk w N x)(hb:Jk w P y)(q:(Ji Y x.natAbs).length<1000000000000)(r:(Ji Y y.natAbs).length<1000000000000):
 Calls I 84 #[N,P] w λe f=>∃u,e=.returned u/\Jk f u (Int.gcd x y:Nat)/\Bl w f:=by
 obtain⟨a,la,ca,j,d⟩:=X;cases j;obtain⟨b,lb,cb,j,m⟩:=hb;cases j;have n:=d.len;have o:=m.len;obtain⟨s,z⟩:=ex (decide (x<0));obtain⟨t,A⟩:=ex (decide (y<0));rw[z,A];obtain⟨W0,c⟩:=ex (((w.alloc (F #[E s,C a la ca] 35)).alloc (F #[E t,C b lb cb] 35)).alloc (F #[E false,C none 0 0] 35));have g:Bl w W0:=by rw[<-c];exact IH w _ _ _
 have b0:Jt W0 w.heap.size 35 (E s) (C a la ca):=by rw[<-c];exact((Jt.new w _ _ _).alloc _).alloc _
 have W:Jt W0 (w.heap.size+1) 35 (E t) (C b lb cb):=by
  have h:=(Jt.new (w.alloc (F #[E s,C a la ca] 35)) 35 (E t) (C b lb cb)).alloc (F #[E false,C none 0 0] 35);rw[Ax,c]at h;exact h
 have i:Jt W0 (w.heap.size+1+1) 35 (E false) (C none 0 0):=by
  have h:=Jt.new ((w.alloc (F #[E s,C a la ca] 35)).alloc (F #[E t,C b lb cb] 35)) 35 (E false) (C none 0 0);rw[Ax,Ax,c]at h;exact h
 have R:=Ja (WP a la ca b lb cb _ _ W0 (UN.below d g) (UN.below m g) (by rw[n];exact q) (by rw[o];exact r));have Q:=Ja λ(V:H) (u:L) (d:UN V u (Nat.gcd x.natAbs y.natAbs))=>show Calls I 72 #[E false,u] V λe f=>∃u,e=.returned u/\Jk f u (Int.gcd x y:Nat)/\Bl V f from Ir false u _ V d;have k1:=b0.c1;have k3:=W.c1;have T:=Ja c;clear d m z A n o q r c;go_enter Tryz.func84,Tryz.ntmps84
 go_upto_region 1 with fail
 rw[T.o];go_wp2_with(first
  |(go_at_call 134;refine R.o.mono ?_;rintro e w1 ⟨u1,rfl,B,ad⟩;obtain⟨na,nc,rfl⟩:=UN.form B)
  |(go_at_call 72;refine(Q.o _ _ B).mono ?_;rintro e w2 ⟨u2,rfl,l,ae⟩;obtain⟨K,sl,sc,rfl⟩:=l.form;obtain⟨D,k⟩:=ex (decide (((Int.gcd x y:Nat):Int)<0));rw[k]at l;rw[k];clear k;have hq:=Bt ad ae;obtain⟨r0,r1⟩:=(i.below hq).cp;obtain⟨f0,f1⟩:=(i.below hq).fp))
 have U:=Bt g hq;have S:=l.box (i.below hq) rfl rfl (x0:=E D) (x1:=C K sl sc);exact BB (v:=M #[E D,C K sl sc]) (by simp[results,Tryz.results84,go_sem,r0,r1]) rfl ⟨_,rfl,S,(U.setCell (p:=⟨_,0,none⟩) Dd _).setCell (p:=⟨_,1,none⟩) Dd _⟩
theorem WU(w:H)(a b c d:Obj):Bl w ((((w.alloc a).alloc b).alloc c).alloc d):=
 (((Ba w _).alloc Z _).alloc si _).alloc si _
theorem P8{z r:Int}(e:y≠0)(h:r+y*z=x)(d:0<=r)(f:r<y.natAbs):z=x/y/\r=x%y:=by
 rcases Int.lt_or_gt_of_ne e with g|hp
 . have c:=(Int.ediv_emod_unique (a:=x) (b:=-y) (r:=r) (q:=-z) O).2 ⟨by rw[Int.neg_mul_neg];exact h,d,O⟩;rw[Int.ediv_neg,Int.emod_neg]at c;exact⟨O,c.2.symm⟩
 . have c:=(Int.ediv_emod_unique (a:=x) (b:=y) (r:=r) (q:=z) hp).2 ⟨h,d,O⟩;exact⟨c.1.symm,c.2.symm⟩
theorem WV(j:y≠0)(f:¬(x<0/\x.natAbs%y.natAbs≠0)):
 (if(!(decide (x<0)==decide (y<0)))=true then -((x.natAbs/y.natAbs:Nat):Int)else((x.natAbs/y.natAbs:Nat):Int))=x/y/\((x.natAbs%y.natAbs:Nat):Int)=x%y:=by
 have i:=Ci x.natAbs y.natAbs;have k:=Cp x.natAbs (show y.natAbs>0 by omega);generalize x.natAbs/y.natAbs=Q at *;generalize x.natAbs%y.natAbs=R at *;have d:(y.natAbs:Int)*Q+R=x.natAbs:=by rw[<-i];push_cast;rfl
 apply P8 j _ O O;by_cases c:x<0<;>by_cases e:y<0
 . have g:R=0:=by
    rcases Cg R with h|h
    . exact h
    . exact absurd ⟨c,O⟩ f
   have a:(y.natAbs:Int)=-y:=O
   have b:(x.natAbs:Int)=-x:=O
   rw[a,b,Int.neg_mul]at d;simp[c,e];omega
 . have g:R=0:=by
    rcases Cg R with h|h
    . exact h
    . exact absurd ⟨c,O⟩ f
   have a:(y.natAbs:Int)=y:=O
   have b:(x.natAbs:Int)=-x:=O
   rw[a,b]at d;simp[c,e,Int.mul_neg];omega
 . have a:(y.natAbs:Int)=-y:=O
   have b:(x.natAbs:Int)=x:=O
   rw[a,b,Int.neg_mul]at d;simp[c,e,Int.mul_neg];omega
 . have a:(y.natAbs:Int)=y:=O
   have b:(x.natAbs:Int)=x:=O
   rw[a,b]at d;simp[c,e];omega
theorem WW(j:y≠0)(g:x<0/\x.natAbs%y.natAbs≠0):
 (if(!(decide (x<0)==decide (y<0)))=true then -((x.natAbs/y.natAbs+1:Nat):Int)else((x.natAbs/y.natAbs+1:Nat):Int))=x/y/\((y.natAbs-x.natAbs%y.natAbs:Nat):Int)=x%y:=by
 have i:=Ci x.natAbs y.natAbs;have l:=Cp x.natAbs (show y.natAbs>0 by omega);generalize x.natAbs/y.natAbs=Q at *;generalize x.natAbs%y.natAbs=R at *;have c:(y.natAbs:Int)*Q+R=x.natAbs:=by rw[<-i];push_cast;rfl
 obtain⟨e,k⟩:=g;apply P8 j _ O O;have d:(x.natAbs:Int)=-x:=O
 by_cases f:y<0
 . have a:(y.natAbs:Int)=-y:=O
   have b:((y.natAbs-R:Nat):Int)=-y-R:=O
   rw[a,d,Int.neg_mul]at c;rw[b];simp[e,f,Int.mul_add];omega
 . have a:(y.natAbs:Int)=y:=O
   have b:((y.natAbs-R:Nat):Int)=y-R:=O
   rw[a,d]at c;rw[b];simp[e,f,Int.mul_neg,Int.mul_add];omega
theorem WX{B:Nat}{t:TypeId}{c d u0 u1:L}(x0 x1 a b:L)(h:Jt W B t c d)(k:Jt W (B+1) t u0 u1):
 Jt ((((W.setCell ⟨B,0,none⟩ x0).setCell ⟨B,1,none⟩ x1).setCell ⟨B+1,0,none⟩ a).setCell ⟨B+1,1,none⟩ b) B t x0 x1/\Jt ((((W.setCell ⟨B,0,none⟩ x0).setCell ⟨B,1,none⟩ x1).setCell ⟨B+1,0,none⟩ a).setCell ⟨B+1,1,none⟩ b) (B+1) t a b:=
 ⟨(((h.set0 x0).set1 x1).far Z a).far Z b,(((k.far Z x0).far Z x1).set0 a).set1 b⟩
theorem WY(w:H)(b c d e:L)(p0 a:L):
 Jt ((((w.alloc (F #[b,c] 35)).alloc (F #[d,e] 35)).alloc (F #[p0,a] 35)).alloc (F #[p0,a] 35)) w.heap.size 35 b c/\
 Jt ((((w.alloc (F #[b,c] 35)).alloc (F #[d,e] 35)).alloc (F #[p0,a] 35)).alloc (F #[p0,a] 35)) (w.heap.size+1) 35 d e/\
 Jt ((((w.alloc (F #[b,c] 35)).alloc (F #[d,e] 35)).alloc (F #[p0,a] 35)).alloc (F #[p0,a] 35)) (w.heap.size+1+1) 35 p0 a/\
 Jt ((((w.alloc (F #[b,c] 35)).alloc (F #[d,e] 35)).alloc (F #[p0,a] 35)).alloc (F #[p0,a] 35)) (w.heap.size+1+1+1) 35 p0 a:=by
 refine⟨(((Jt.new w _ _ _).alloc _).alloc _).alloc _,?_,?_,?_⟩
 . have h:=((Jt.new (w.alloc (F #[b,c] 35)) 35 d e).alloc (F #[p0,a] 35)).alloc (F #[p0,a] 35);rw[Ax]at h;exact h
 . have h:=(Jt.new ((w.alloc (F #[b,c] 35)).alloc (F #[d,e] 35)) 35 p0 a).alloc (F #[p0,a] 35);rw[Ax,Ax]at h;exact h
 . have h:=Jt.new (((w.alloc (F #[b,c] 35)).alloc (F #[d,e] 35)).alloc (F #[p0,a] 35)) 35 p0 a;rw[Ax,Ax,Ax]at h;exact h
theorem WZ(a:Option Addr)(la ca:Nat)(b:Option Addr)(lb cb X c:Nat)(s t:Bool)(z r:Int)(w:H)(hu:UN w (C a la ca) X)(hv:UN w (C b lb cb) c)(hY:c≠0)(bc:la<1000000000000)(bf:lb<1000000000000)
(HP:Hid (¬(s=true/\X%c≠0)->(if(!(s==t))=true then -((X/c:Nat):Int)else((X/c:Nat):Int))=z/\((X%c:Nat):Int)=r))
(HN:Hid (s=true/\X%c≠0->(if(!(s==t))=true then -((X/c+1:Nat):Int)else((X/c+1:Nat):Int))=z/\((c-X%c:Nat):Int)=r)):
 Calls I 135 #[M #[E s,C a la ca],M #[E t,C b lb cb]] w λe d=>∃q o,e=.returned (.tuple #[q,o,E true])/\Jk d q z/\Jk d o r/\Bl w d:=by
 obtain⟨b0,l,U,W⟩:=WY w (E s) (C a la ca) (E t) (C b lb cb) (E false) (C none 0 0);have S:=WU w (F #[E s,C a la ca] 35) (F #[E t,C b lb cb] 35) (F #[E false,C none 0 0] 35) (F #[E false,C none 0 0] 35);obtain⟨W0,af⟩:=ex ((((w.alloc (F #[E s,C a la ca] 35)).alloc (F #[E t,C b lb cb] 35)).alloc (F #[E false,C none 0 0] 35)).alloc (F #[E false,C none 0 0] 35));rw[af]at b0 l U W S;have Qh:=Ja af;have bg:lb≠0:=λe=>hY ((Ym Jf).1 (AD (by rw[<-UN.len hv,e])));have Qn:=UN.below hu S;have Qd:=UN.below hv S;have Qm:=Ja (NX a la ca b lb cb X c W0 Qn Qd hY O);have Qw:=Ja Qd;have Qq:=Ja (UN.len hu).symm;obtain⟨k0,k1⟩:=b0.cp;obtain⟨k2,D⟩:=l.cp;clear af hu hv Qn Qd;go_enter Tryz.func135,Tryz.ntmps135
 go_upto_region 1 with fail
 rw[Qh.o];go_upto_region 4 with(go_at_call 176;refine Qm.o.mono ?_;rintro e w1 ⟨u1,v1,rfl,B,ae,i⟩;obtain⟨ua,uc,rfl⟩:=UN.form B;obtain⟨va,vc,rfl⟩:=UN.form ae)
 clear Qm Qh;obtain⟨k0,k1⟩:=(b0.below i).cp;obtain⟨k2,D⟩:=(l.below i).cp;have Qg:(Ji Y (X%c)).length=0↔X%c=0:=⟨λh=>(Ym Jf).1 (AD h),λh=>by rw[h,JR];rfl⟩;have bi:=Cp X (show c>0 by omega);have bh:=Xg (m:=X) (n:=X/c) (FC _ _);have Qk:(Ji Y (X/c)).length<1099511627776:=by
  have f:=(JH B).2.2.2.1
  have:(Ji Y X).length=la:=by
   have h:=Qq.o;omega
  omega
 obtain⟨lr,ax⟩:=ex ((Ji Y (X%c)).length);obtain⟨lq,aw⟩:=ex ((Ji Y (X/c)).length);rw[ax]at ae Qg ⊢;rw[aw]at B Qk ⊢;obtain⟨y,aq⟩:=ex ((s&&decide (0<lr)):Bool);have j:=Ja aq;have Qp:=Ja Qg;clear aq Qg ax aw;go_cut [29] λv P=>v=E y/\P=w1
 case first=>
  cases s with
  |false=>
   have A:y=false:=by rw[<-j.o];rfl
   go_wp2_with fail
   go_meet
   case rel=>exact⟨by rw[A],rfl⟩
  |true=>
   by_cases h5:0<lr
   . have A:y=true:=by rw[<-j.o];simp;omega
     go_wp2_with fail
     go_meet
     case rel=>exact⟨by rw[A],rfl⟩
   . have A:y=false:=by rw[<-j.o];simp;omega
     go_wp2_with fail
     go_meet
     case rel=>exact⟨by rw[A],rfl⟩
 case rest=>
  obtain⟨rfl,rfl⟩:=hcut;go_upto_if 29 with fail
  go_cut [7,8] λqv rv P=>∃(qa:Option Addr) (ql qc Q:Nat) (oa:Option Addr) (ol oc R:Nat),qv=C qa ql qc/\rv=C oa ol oc/\Hid (UN P (C qa ql qc) Q)/\Hid (UN P (C oa ol oc) R)/\Hid ((if(!(s==t))=true then -(Q:Int)else(Q:Int))=z/\(R:Int)=r)/\Bl W0 P
  case first=>
   cases y with
   |false=>
    have hc:¬(s=true/\X%c≠0):=λ⟨f,h2⟩=>by
     have h:=j.o;rw[f]at h;simp at h;exact h2 (Qp.o.1 h)
    go_wp2_with fail
    go_meet
    case rel=>exact⟨_,_,_,_,_,_,_,_,rfl,rfl,Ja B,Ja ae,Ja (HP.o hc),i⟩
   |true=>
    have hc:s=true/\X%c≠0:=by
     have h:=j.o;simp at h;exact⟨h.1,λe=>by have:=Qp.o.2 e;omega⟩
    have HC:=Ja hc;clear hc;have Qv:=Ja (show ∀V:H,Bl wc V->Calls I 132 #[C ua lq uc,C (some ⟨V.heap.size,0,none⟩) 1 1] (V.alloc (F #[.int .u64 1] 115)) λe d=>∃u,e=.returned u/\UN d u (X/c+1)/\Below (V.alloc (F #[.int .u64 1] 115)).heap.size (V.alloc (F #[.int .u64 1] 115)) d from λV h=>by
     have Qe:Row .u64 (V.alloc (F #[.int .u64 1] 115)) (C (some ⟨V.heap.size,0,none⟩) 1 1) (Ji Y 1):=by
      rw[NY O uo];exact(DJ.made (xs:=[1]) (BE V (F #[.int .u64 ((1:Nat):Int)] 115))).row 0 1 1 Z O O O
     exact PU ua lq uc (some ⟨V.heap.size,0,none⟩) 1 1 (X/c) 1 _ (Row.below (Row.below B h) (Ba V _)) Qe Qk O)
    have Qz:=Ja λ(V:H) (h:Bl wc V)=>NF b lb cb va lr vc c (X%c) V (Row.below (Row.below Qw.o i) h) (Row.below ae h) O;have hq:Bl wc wc.drew:=(BF _ wc).drew;have bx:=l.below i;go_wp2_with fail
    have D:=bx.c1;go_region_held3 (λd=>d.cell? ⟨w.heap.size+1,1,none⟩=some (C b lb cb)) (first|exact D|(go_keep;done))
     (first
      |(go_at_call 132;refine(Qv.o _ hq).mono ?_;rintro e w3 ⟨u3,rfl,ay,ba⟩;obtain⟨pa,pc,rfl⟩:=UN.form ay;have hq:=Pw hq ba;have D:=(bx.below hq).c1)
      |(go_at_call 133;refine(Qz.o _ hq).mono ?_;rintro e w4 ⟨u4,rfl,az,an⟩;obtain⟨ma,mc,rfl⟩:=UN.form az;have hq:=Bt hq an;have D:=(bx.below hq).c1))
    all_goals go_wp2_with fail
    go_meet
    case rel=>exact⟨_,_,_,_,_,_,_,_,rfl,rfl,Ja (UN.below ay an),Ja az,Ja (HN.o HC.o),Bt i hq⟩
  case rest=>
   obtain⟨qa,ql,qc,Q,oa,ol,oc,R,rfl,rfl,hQ,hR,hZ,ad⟩:=hcut;have Qi:=Ja (show ∀V:H,Bl wc V->Calls I 72 #[E (!(s==t)),C qa ql qc] V λe d=>∃u,e=.returned u/\Jk d u z/\Bl V d from λV h=>by
    have f:=Ir (!(s==t)) _ _ V (UN.below hQ.o h);rw[hZ.o.1]at f;exact f)
   have Qj:=Ja (show ∀V:H,Bl wc V->Calls I 72 #[E false,C oa ol oc] V λe d=>∃u,e=.returned u/\Jk d u r/\Bl V d from λV h=>by
    have f:=Ir false _ _ V (UN.below hR.o h);simp only[CB,if_false]at f;rw[hZ.o.2]at f;exact f)
   have k0:=(b0.below ad).c0;have k2:=(l.below ad).c0;go_wp2_with(first
    |(go_at_call 72;refine(Qi.o _ (BF _ _)).mono ?_;clear Qi;rintro e w5 ⟨u5,rfl,ak,ah⟩;obtain⟨k,K,x,rfl⟩:=ak.form;obtain⟨N,ai⟩:=ex (decide (z<0));rw[ai]at ak;rw[ai];clear ai)
    |(go_at_call 72;refine(Qj.o _ ah).mono ?_;clear Qj;rintro e w6 ⟨u6,rfl,am,ap⟩;obtain⟨T,l6,c6,rfl⟩:=am.form;obtain⟨s6,aj⟩:=ex (decide (r<0));rw[aj]at am;rw[aj];clear aj;have g:=(Bt ad ah).trans (ap.mono (Bt ad ah).size);obtain⟨q0,q1⟩:=(U.below g).cp;obtain⟨q2,q3⟩:=(W.below g).cp;obtain⟨f0,f1⟩:=(U.below g).fp;obtain⟨f2,f3⟩:=(W.below g).fp))
   have Qf:=U.below g;have Qo:=W.below g;obtain⟨z4,z5⟩:=WX (E N) (C k K x) (E s6) (C T l6 c6) Qf Qo;obtain⟨Qy,Qx⟩:=z4.cp;obtain⟨Qr,Qu⟩:=z5.cp;have Ql:Jt ((w6.setCell ⟨w.heap.size+1+1,0,none⟩ (E N)).setCell ⟨w.heap.size+1+1,1,none⟩ (C k K x)) (w.heap.size+1+1+1) 35 (E false) (C none 0 0):=(Qo.far Z _).far Z _;have Qs:=((ak.below ap).box Qf rfl rfl (x0:=E N) (x1:=C k K x)).box Ql rfl rfl (x0:=E s6) (x1:=C T l6 c6);have Qt:=(am.box Qf rfl rfl (x0:=E N) (x1:=C k K x)).box Ql rfl rfl (x0:=E s6) (x1:=C T l6 c6);have Ua:=Bt S g;exact BB (v:=.tuple #[M #[E N,C k K x],M #[E s6,C T l6 c6],E true]) (by simp[results,Tryz.results135,go_sem,Qy,Qx,Qr,Qu]) rfl ⟨_,_,rfl,Qs,Qt,(((Ua.setCell (p:=⟨_,0,none⟩) Dd _).setCell (p:=⟨_,1,none⟩) Dd _).setCell (p:=⟨_,0,none⟩) Dd _).setCell (p:=⟨_,1,none⟩) Dd _⟩
theorem P9(j k:L)(x y:Int)(w:H)(l:Jk w j x)(m:Jk w k y)(i:y≠0)(n:(Ji Y x.natAbs).length<1000000000000)(p:(Ji Y y.natAbs).length<1000000000000):
 Calls I 135 #[j,k] w λe d=>∃q o,e=.returned (.tuple #[q,o,E true])/\Jk d q (x/y)/\Jk d o (x%y)/\Bl w d:=by
 obtain⟨a,la,ca,rfl,f⟩:=l;obtain⟨b,lb,cb,rfl,g⟩:=m;refine WZ a la ca b lb cb x.natAbs y.natAbs _ _ (x/y) (x%y) w f g O (by rw[UN.len f];exact n) (by rw[UN.len g];exact p) (λc=>WV i λh=>c ⟨BJ h.1,h.2⟩) λc=>WW i ⟨Be c.1,c.2⟩
theorem Wf(z:Int):(D4 z 0=0)↔z=0:=by
 unfold D4;split<;>(try split)<;>omega
theorem QA(v:L)(z:Int)(w:H)(h:Jk w v z):
 Calls I 71 #[v] w λe o=>e=.returned (E (decide (z=0)))/\Bl w o:=by
 obtain⟨a,l,c,rfl⟩:=h.form;obtain⟨s,j⟩:=ex (decide (z<0));rw[j]at h ⊢;clear j;have b0:=Jt.new w 35 (E s) (C a l c);have b:Bl w (w.alloc (F #[E s,C a l c] 35)):=Ba w _;obtain⟨W0,d⟩:=ex (w.alloc (F #[E s,C a l c] 35));rw[d]at b0 b;have k:=Ja d;have f:=Ja (IQ _ _ z 0 W0 (h.below b) (XW _));obtain⟨p,q⟩:=b0.cp;have g:=Ja (Wf z);obtain⟨n,i⟩:=ex (D4 z 0);rw[i]at f g;clear d i;go_enter Tryz.func71,Tryz.ntmps71
 go_upto_region 1 with fail
 rw[k.o];go_wp2_with(go_at_call 64;refine f.o.mono ?_;rintro e r ⟨rfl,m⟩)
 go_ret;refine⟨?_,Bt b m⟩;show Ending.returned (Value.bool (n==0))=_;have e:(n==0)=decide (z=0):=by rw[Fc];simp[g.o]
 rw[e]
def dd(y:Int):Int:=if y=0 then 1 else y
theorem QB(v:L)(x y:Int)(w:H)(h:Iv w v x y):
 Calls I 68 #[v] w λe q=>e=.returned (E (decide (y=0)))/\Bl w q:=by
 obtain⟨s,a,l,c,t,b,k,d,rfl,r,o⟩:=h;have b0:=JM.new w 37 (E s) (C a l c) (E t) (C b k d);have f:Bl w (w.alloc (F #[E s,C a l c,E t,C b k d] 37)):=Ba w _;obtain⟨W0,g⟩:=ex (w.alloc (F #[E s,C a l c,E t,C b k d] 37));rw[g]at b0 f;have m:=Ja g;have i:=Ja (QA _ _ W0 (o.below f));have u:=b0.c2;have z:=b0.c3;obtain⟨n,j⟩:=ex (decide (y=0));rw[j]at i ⊢;clear g j;go_enter Tryz.func68,Tryz.ntmps68
 go_upto_region 1 with fail
 rw[m.o];go_wp2_with(go_at_call 71;refine i.o.mono ?_;rintro e A ⟨rfl,p⟩)
 go_ret;exact⟨rfl,Bt f p⟩
theorem Wv(v:L)(x y:Int)(w:H)(h:Iv w v x y):
 Calls I 70 #[v] w λe Q=>∃u,e=.returned u/\Jk Q u (dd y)/\Bl w Q:=by
 have B:=h;obtain⟨s,a,l,c,t,b,k,d,rfl,S,D⟩:=h;obtain⟨W0,i⟩:=ex ((w.alloc (F #[E s,C a l c,E t,C b k d] 37)).alloc (F #[E false,C none 0 0] 35));have b0:JM W0 w.heap.size 37 (E s) (C a l c) (E t) (C b k d):=by rw[<-i];exact(JM.new w _ _ _ _ _).alloc _
 have m:Bl w W0:=by rw[<-i];exact NM w _ _
 have g:Jt W0 (w.heap.size+1) 35 (E false) (C none 0 0):=by
  have h:=Jt.new (w.alloc (F #[E s,C a l c,E t,C b k d] 37)) 35 (E false) (C none 0 0);rw[Ax,i]at h;exact h
 have j:=Ja (QB _ x y W0 (B.below m));have A:=Ja i;obtain⟨V,W,X,k3⟩:=b0.cq;have R:=Ja (D.below m);clear B S D i;by_cases hq:y=0
 . rw[BJ hq]at j;have n:=Ja (show dd y=1 by unfold dd;rw[BC hq]);clear hq;go_enter Tryz.func70,Tryz.ntmps70
   go_upto_region 1 with fail
   rw[A.o];go_wp2_with(first
    |(go_at_call 68;refine j.o.mono ?_;rintro e U ⟨rfl,f⟩)
    |(go_at_call 29;refine(Iu 1 O O _).mono ?_;rintro e w2 ⟨u2,rfl,z,T⟩;obtain⟨P,sl,sc,rfl⟩:=z.form;obtain⟨N,r⟩:=ex (decide ((1:Int)<0));rw[r]at z;rw[r];clear r;have hq:=Bt f T;obtain⟨r0,r1⟩:=(g.below hq).cp;obtain⟨f0,f1⟩:=(g.below hq).fp))
   have q:=Bt m hq;have o:=z.box (g.below hq) rfl rfl (x0:=E N) (x1:=C P sl sc);exact BB (v:=M #[E N,C P sl sc]) (by simp[results,Tryz.results70,go_sem,r0,r1]) rfl ⟨_,rfl,by rw[n.o];exact o,(q.setCell (p:=⟨_,0,none⟩) Dd _).setCell (p:=⟨_,1,none⟩) Dd _⟩
 . rw[BL hq]at j;have n:=Ja (show y=dd y by unfold dd;rw[BA hq]);clear hq;go_enter Tryz.func70,Tryz.ntmps70
   go_upto_region 1 with fail
   rw[A.o];go_wp2_with(go_at_call 68;refine j.o.mono ?_;rintro e U ⟨rfl,f⟩;have m2:=(b0.below f).c2;have m3:=(b0.below f).c3;obtain⟨r0,r1⟩:=(g.below f).cp;obtain⟨f0,f1⟩:=(g.below f).fp)
   have q:=Bt m f;have K:=R.o.below f;rw[n.o]at K;have o:=K.box (g.below f) rfl rfl (x0:=E t) (x1:=C b k d);exact BB (v:=M #[E t,C b k d]) (by simp[results,Tryz.results70,go_sem,r0,r1]) rfl ⟨_,rfl,o,(q.setCell (p:=⟨_,0,none⟩) Dd _).setCell (p:=⟨_,1,none⟩) Dd _⟩
theorem Ww(q:Rat):dd (Dp q)=q.den:=by
 have:=q.den_pos;unfold dd Dp;split<;>(try split at *)<;>omega
theorem Iw(v:L)(q:Rat)(w:H)(h:Jh w v q):
 Calls I 68 #[v] w λe b=>e=.returned (E (decide (q.den=1)))/\Bl w b:=by
 have a:=QB v q.num (Dp q) w h.pair;rwa[B0.2 LA]at a
theorem Ew(v:L)(q:Rat)(w:H)(h:Jh w v q):
 Calls I 70 #[v] w λe a=>∃u,e=.returned u/\Jk a u (q.den:Int)/\Bl w a:=by
 have b:=Wv v q.num (Dp q) w h.pair;rwa[Ww]at b
theorem F6(Q R:L)(x y:Int)(w:H)(i:Jk w Q x)(j:Jk w R y)(P:y≠0)(B:Sok x)(D:Sok y):
 Calls I 85 #[Q,R] w λe S=>∃u,e=.returned u/\Jk S u (x/y)/\Bl w S:=by
 obtain⟨a,la,ca,rfl⟩:=i.form;obtain⟨b,lb,cb,rfl⟩:=j.form;obtain⟨s,A⟩:=ex (decide (x<0));obtain⟨t,K⟩:=ex (decide (y<0));rw[A]at i ⊢;rw[K]at j ⊢;clear A K;obtain⟨W0,d⟩:=ex (((w.alloc (F #[E s,C a la ca] 35)).alloc (F #[E t,C b lb cb] 35)).alloc (F #[E false,C none 0 0] 35));have l:Bl w W0:=by rw[<-d];exact IH w _ _ _
 have b0:Jt W0 w.heap.size 35 (E s) (C a la ca):=by rw[<-d];exact((Jt.new w _ _ _).alloc _).alloc _
 have X:Jt W0 (w.heap.size+1) 35 (E t) (C b lb cb):=by
  have h:=(Jt.new (w.alloc (F #[E s,C a la ca] 35)) 35 (E t) (C b lb cb)).alloc (F #[E false,C none 0 0] 35);rw[Ax,d]at h;exact h
 have bR:Jt W0 (w.heap.size+1+1) 35 (E false) (C none 0 0):=by
  have h:=Jt.new ((w.alloc (F #[E s,C a la ca] 35)).alloc (F #[E t,C b lb cb] 35)) 35 (E false) (C none 0 0);rw[Ax,Ax,d]at h;exact h
 have T:=Ja (P9 _ _ x y W0 (i.below l) (j.below l) P (by have:=B.words;omega) (by have:=D.words;omega));have V:=Ja d;obtain⟨k0,k1⟩:=b0.cp;obtain⟨k2,k3⟩:=X.cp;clear i j P B D d;go_enter Tryz.func85,Tryz.ntmps85
 go_upto_region 1 with fail
 rw[V.o];go_upto_region 2 with(go_at_call 135;refine T.o.mono ?_;rintro e r ⟨u1,u2,rfl,q,N,z⟩;obtain⟨c,l1,c1,rfl⟩:=q.form;obtain⟨f,n⟩:=ex (decide (x/y<0));rw[n]at q;rw[n];clear n;obtain⟨g,l2,c2,rfl⟩:=N.form;obtain⟨k,o⟩:=ex (decide (x%y<0));rw[o]at N;rw[o];clear o)
 have bq:=(Jt.new r 35 (E f) (C c l1 c1)).alloc (F #[E k,C g l2 c2] 35);have m:=((bR.below z).alloc (F #[E f,C c l1 c1] 35)).alloc (F #[E k,C g l2 c2] 35);have hu:=(q.alloc (F #[E f,C c l1 c1] 35)).alloc (F #[E k,C g l2 c2] 35);have W:Bl w ((r.alloc (F #[E f,C c l1 c1] 35)).alloc (F #[E k,C g l2 c2] 35)):=Bt (Bt l z) (NM r _ _)
 obtain⟨q0,q1⟩:=bq.cp;obtain⟨r0,r1⟩:=m.cp;obtain⟨f0,f1⟩:=m.fp;go_wp2_with fail
 have U:=hu.box m rfl rfl (x0:=E f) (x1:=C c l1 c1);exact BB (v:=M #[E f,C c l1 c1]) (by simp[results,Tryz.results85,go_sem,r0,r1]) rfl ⟨_,rfl,U,(W.setCell (p:=⟨_,0,none⟩) Dd _).setCell (p:=⟨_,1,none⟩) Dd _⟩
theorem NZ(w:H)(s t:Bool)(a b:Option Addr)(la ca lb cb:Nat)(x y:Int)(c:Jk w (M #[E s,C a la ca]) x)(d:Jk w (M #[E t,C b lb cb]) y):
 Mem w (((w.alloc (F #[E s,C a la ca] 35)).alloc (F #[E t,C b lb cb] 35)).alloc (F #[E false,C none 0 0,E false,C none 0 0] 37)) [some (w.heap.size,.int x),some (w.heap.size+1,.int y),some (w.heap.size+1+1,.rat 0)]:=by
 have h:=(((Mem.nil w).push (.int x) c).push (.int y) (d.alloc _)).push (.rat 0) (XY _);rw[Ax,Ax,Ax]at h;exact h
theorem Jh.mk{s t:Bool}{a b:Option Addr}{l c k d:Nat}(e:Jk W (M #[E s,C a l c]) q.num)(f:Jk W (M #[E t,C b k d]) (Dp q)):Jh W (M #[E s,C a l c,E t,C b k d]) q:=⟨_,_,_,_,_,_,_,_,rfl,e,f⟩
theorem LQ(R S:L)(q:Rat)(w:H)(g:Jk w R q.num)(d:Jk w S (q.den:Int)):
 Calls I 86 #[R,S] w λe i=>∃u,e=.returned u/\Jh i u q/\Bl w i:=by
 obtain⟨a,la,ca,rfl⟩:=g.form;obtain⟨b,lb,cb,rfl⟩:=d.form;obtain⟨s,B⟩:=ex (decide (q.num<0));obtain⟨t,D⟩:=ex (decide ((q.den:Int)<0));rw[B]at g ⊢;rw[D]at d ⊢;clear B D;have o:=NZ w s t a b la ca lb cb _ _ g d;obtain⟨W0,c⟩:=ex (((w.alloc (F #[E s,C a la ca] 35)).alloc (F #[E t,C b lb cb] 35)).alloc (F #[E false,C none 0 0,E false,C none 0 0] 37));have b0:Jt W0 w.heap.size 35 (E s) (C a la ca):=by rw[<-c];exact((Jt.new w _ _ _).alloc _).alloc _
 have p:Jt W0 (w.heap.size+1) 35 (E t) (C b lb cb):=by
  have h:=(Jt.new (w.alloc (F #[E s,C a la ca] 35)) 35 (E t) (C b lb cb)).alloc (F #[E false,C none 0 0,E false,C none 0 0] 37);rw[Ax,c]at h;exact h
 have r:JM W0 (w.heap.size+1+1) 37 (E false) (C none 0 0) (E false) (C none 0 0):=by
  have h:=JM.new ((w.alloc (F #[E s,C a la ca] 35)).alloc (F #[E t,C b lb cb] 35)) 37 (E false) (C none 0 0) (E false) (C none 0 0);rw[Ax,Ax,c]at h;exact h
 rw[c]at o;have j:=o.2.2;obtain⟨l,y,U,W⟩:=Dr (λ(V:H) (u:L) (h:Bl W0 V) (hu:Jk V u 1)=>IQ _ u (q.den:Int) 1 V ((d.below j).below h) hu) (g.below j) (d.below j) c;obtain⟨k0,k1⟩:=b0.cp;obtain⟨K,N⟩:=p.cp;have m:=Ja (show(D4 (q.den:Int) 1=0)↔q.den=1 by unfold D4;split<;>(try split)<;>omega);obtain⟨n,f⟩:=ex (D4 (q.den:Int) 1);rw[f]at l m;clear g d c f o;go_enter Tryz.func86,Tryz.ntmps86
 go_upto_region 1 with fail
 rw[W.o];have hq:Bl W0 W0.drew:=(BF _ W0).drew;go_region_held3 (λi=>i.cell? ⟨w.heap.size+1,0,none⟩=some (E t)/\i.cell? ⟨w.heap.size+1,1,none⟩=some (C b lb cb)) (refine⟨?_,?_⟩<;>(first|(go_keep;done)|((repeat rw[Ya O]);simp[*];done)))
  (first
   |(go_at_call 29;refine(Iu 1 O O _).mono ?_;rintro e w1 ⟨u1,rfl,ae,X⟩;have hq:=Bt hq X;obtain⟨K,N⟩:=(p.below hq).cp)
   |(go_at_call 64;refine(l.o _ _ hq ae).mono ?_;clear l;rintro e T ⟨rfl,ad⟩;have hq:=Bt hq ad;obtain⟨k0,k1⟩:=(b0.below hq).cp;obtain⟨K,N⟩:=(p.below hq).cp;obtain⟨r0,r1,P,Q⟩:=(r.below hq).cq;obtain⟨f0,f1,f2,f3⟩:=(r.below hq).fq))
 have z:=Bt j hq;have A:=r.below hq;by_cases f:n=0
 . have k:=Ja (show Dp q=0 from LA.2 (m.o.1 f));subst f;have x:Jh T (M #[E s,C a la ca,E false,C none 0 0]) q:=Jh.mk (y.o.below hq) (by rw[k.o];exact XW _);go_wp2_with fail
   exact BB (v:=M #[E s,C a la ca,E false,C none 0 0]) (by simp[results,Tryz.results86,go_sem,r0,r1,P,Q]) rfl ⟨_,rfl,x.put4 A rfl rfl rfl rfl _ _ _ _,JB z O _ _ _ _⟩
 . have k:=Ja (show Dp q=q.den by unfold Dp;rw[BA λh=>f (m.o.2 h)]);have x:Jh T (M #[E s,C a la ca,E t,C b lb cb]) q:=Jh.mk (y.o.below hq) (by rw[k.o];exact U.o.below hq);go_wp2_with fail
   exact BB (v:=M #[E s,C a la ca,E t,C b lb cb]) (by simp[results,Tryz.results86,go_sem,r0,r1,P,Q]) rfl ⟨_,rfl,x.put4 A rfl rfl rfl rfl _ _ _ _,JB z O _ _ _ _⟩
theorem Ix(a:y≠0):(0:Int)<(Int.gcd x y:Nat):=by
 have:=Int.gcd_pos_of_ne_zero_right x a;omega
theorem QC(va vb:L)(x y:Int)(w:H)(ha:Jk w va x)(A:Jk w vb y)(hy:y≠0)(bk:Sok x)(bl:Sok y):
 Calls I 65 #[va,vb] w λe c=>∃u,e=.returned u/\Jh c u (Rat.divInt x y)/\Bl w c:=by
 obtain⟨W,X,l⟩:=Db bk bl hy;clear bk bl hy;obtain⟨s,a,la,ca,rfl⟩:=Jk.form2 ha;obtain⟨t,b,lb,cb,rfl⟩:=Jk.form2 A;have M0:=NZ w s t a b la ca lb cb _ _ ha A;obtain⟨W0,ap⟩:=ex (((w.alloc (F #[E s,C a la ca] 35)).alloc (F #[E t,C b lb cb] 35)).alloc (F #[E false,C none 0 0,E false,C none 0 0] 37));have Uk:=Ja ap;rw[ap]at M0;have M1:Hid (Mem w W0 [some (w.heap.size,.int x),some (w.heap.size+1,.int y),some (w.heap.size+1+1,.rat 0)]):=Ja M0;clear M0 ha A ap;go_enter Tryz.func65,Tryz.ntmps65
 go_upto_region 1 with fail
 rw[Uk.o];clear Uk;obtain⟨s1,a1,l1,c1,n1,i1⟩:=M1.o.int (i:=0) rfl;obtain⟨Un,Up⟩:=n1.cp;obtain⟨s2,a2,l2,c2,n2,i2⟩:=M1.o.int (i:=1) rfl;obtain⟨Uo,Um⟩:=n2.cp;go_upto_region 2 with(go_at_call 84;refine(IX _ _ x y _ i1 i2 (by have:=W.o.words;omega) (by have:=X.o.words;omega)).mono ?_;rintro e w1 ⟨u,rfl,q,A⟩;obtain⟨ce,bg,bt,bi,rfl⟩:=Jk.form2 q)
 obtain⟨V3,p⟩:=ex (w1.alloc (F #[E ce,C bg bt bi] 35));obtain⟨d,an⟩:=ex (w1.heap.size);have n:Mem w (w1.alloc (F #[E ce,C bg bt bi] 35)) [some (w.heap.size,.int x),some (w.heap.size+1,.int y),some (w.heap.size+1+1,.rat 0),some (w1.heap.size,.int (((Int.gcd x y:Nat):Int)))]:=Mem.push (M1.o.below A) (.int (((Int.gcd x y:Nat):Int))) q;rw[p,an]at n;rw[p];rw[an];have r:Hid (Mem w V3 [some (w.heap.size,.int x),some (w.heap.size+1,.int y),some (w.heap.size+1+1,.rat 0),some (d,.int (((Int.gcd x y:Nat):Int)))]):=Ja (n);clear M1;clear n p an;clear n1 Un Up i1 n2 Uo Um i2 q A;have U:=Ja (Sok.gcd W.o X.o);by_cases hn:y<0
 . have P:=Ja hn;clear hn;obtain⟨s4,a4,l4,c4,n4,i4⟩:=r.o.int (i:=1) rfl;obtain⟨Uu,Ul⟩:=n4.cp;have m:=Ja (IQ _ _ y 0 V3 i4 (XW _));rw[show D4 y 0=-1 from by unfold D4;rw[BC P.o]]at m;go_upto_region 3 with(go_at_call 64;refine m.o.mono ?_;rintro e k ⟨rfl,S⟩)
   have M3:Hid (Mem w k [some (w.heap.size,.int x),some (w.heap.size+1,.int y),some (w.heap.size+1+1,.rat 0),some (d,.int (((Int.gcd x y:Nat):Int)))]):=Ja (r.o.below S);clear r;clear n4 Uu Ul i4 m S;obtain⟨s5,a5,l5,c5,n5,i5⟩:=M3.o.int (i:=3) rfl;obtain⟨Ui,Uj⟩:=n5.cp;go_upto_region 4 with(go_at_call 67;refine(P4 _ _ 0 (((Int.gcd x y:Nat):Int)) _ (XW _) i5 (by have:=Sok.zero.words;omega) (by have:=U.o.words;omega)).mono ?_;rintro e w6 ⟨u6,rfl,ay,ad⟩;obtain⟨ci,bh,bu,bj,rfl⟩:=Jk.form2 ay;obtain⟨Ui,Uj⟩:=(n5.below ad).cp;obtain⟨Ur,Ut⟩:=(n5.below ad).fp)
   obtain⟨z,p⟩:=ex ((w6.setCell ⟨d,0,none⟩ (E ci)).setCell ⟨d,1,none⟩ (C bh bu bj));have n:Mem w ((w6.setCell ⟨d,0,none⟩ (E ci)).setCell ⟨d,1,none⟩ (C bh bu bj)) [some (w.heap.size,.int x),some (w.heap.size+1,.int y),some (w.heap.size+1+1,.rat 0),some (d,.int (0-((Int.gcd x y:Nat):Int)))]:=Mem.putInt (M3.o.below ad) (i:=3) rfl ay;rw[p]at n;rw[p];have j:Hid (Mem w z [some (w.heap.size,.int x),some (w.heap.size+1,.int y),some (w.heap.size+1+1,.rat 0),some (d,.int (0-((Int.gcd x y:Nat):Int)))]):=Ja (n);clear M3;clear n p;clear n5 Ui Uj i5 ay ad;clear Ur Ut;obtain⟨Q,N,Uh⟩:=Db (show(0-((Int.gcd x y:Nat):Int))≠0 by have:=Ix (x:=x) l.o;omega) (show(0-((Int.gcd x y:Nat):Int))=(if y<0 then -((Int.gcd x y:Nat):Int)else((Int.gcd x y:Nat):Int))by rw[BC P.o];omega) (show Sok (0-((Int.gcd x y:Nat):Int))by rw[Int.zero_sub];exact U.o.neg);obtain⟨s7,a7,l7,c7,n7,i7⟩:=j.o.int (i:=0) rfl;obtain⟨Qy,Ud⟩:=n7.cp;obtain⟨s8,a8,l8,c8,n8,i8⟩:=j.o.int (i:=1) rfl;obtain⟨Qz,Ua⟩:=n8.cp;obtain⟨s9,a9,l9,c9,n9,i9⟩:=j.o.int (i:=3) rfl;obtain⟨Uc,Ub⟩:=n9.cp;obtain⟨fi,dm,fc,dx,fl,b10,fa,ei,f,r10,et,f8⟩:=j.o.rat (i:=2) rfl;obtain⟨Qa,Qn,Qe,Qf⟩:=f.cq;obtain⟨Qq,Qt,Qv,Qo⟩:=f.fq;obtain⟨B,D,K⟩:=Db (λ(V:H) (h:Bl z V)=>F6 _ _ x ((0-((Int.gcd x y:Nat):Int))) V (i7.below h) (i9.below h) Q.o W.o Uh.o) (λ(V:H) (h:Bl z V)=>F6 _ _ y ((0-((Int.gcd x y:Nat):Int))) V (i8.below h) (i9.below h) Q.o X.o Uh.o) λ(V:H) (u v:L) (q:Jk V u (x/(0-((Int.gcd x y:Nat):Int)))) (hv:Jk V v (y/(0-((Int.gcd x y:Nat):Int))))=>LQ u v (Rat.divInt x y) V (by rw[PN l.o,<-N.o];exact q) (by rw[PO l.o,<-N.o];exact hv);have Us:w.heap.size≠w.heap.size+1+1:=j.o.ne 0 2 rfl rfl DF;have Uv:w.heap.size+1≠w.heap.size+1+1:=j.o.ne 1 2 rfl rfl DF;have Uq:d≠w.heap.size+1+1:=j.o.ne 3 2 rfl rfl DF;have hq:Bl z z.drew:=(BF _ z).drew;go_region_held3 (λc=>c.cell? ⟨w.heap.size,0,none⟩=some (E s7)/\c.cell? ⟨w.heap.size,1,none⟩=some (C a7 l7 c7)/\c.cell? ⟨w.heap.size+1,0,none⟩=some (E s8)/\c.cell? ⟨w.heap.size+1,1,none⟩=some (C a8 l8 c8)/\c.cell? ⟨d,0,none⟩=some (E s9)/\c.cell? ⟨d,1,none⟩=some (C a9 l9 c9)) (first|(with_reducible exact⟨Qy,Ud,Qz,Ua,Uc,Ub⟩)|(go_keep;done)|(refine⟨?_,?_,?_,?_,?_,?_⟩<;>((repeat rw[Ya O]);first|assumption|(go_keep;done))))
    (first
     |(go_at_call 85;refine(B.o _ hq).mono ?_;clear B;rintro e w2 ⟨u2,rfl,o,aq⟩;have hq:=Bt hq aq;obtain⟨Qy,Ud⟩:=(n7.below hq).cp;obtain⟨Qz,Ua⟩:=(n8.below hq).cp;obtain⟨Uc,Ub⟩:=(n9.below hq).cp;obtain⟨Qa,Qn,Qe,Qf⟩:=(f.below hq).cq;obtain⟨Qq,Qt,Qv,Qo⟩:=(f.below hq).fq)
     |(go_at_call 85;refine(D.o _ hq).mono ?_;clear D;rintro e w3 ⟨u3,rfl,ax,R⟩;have o:=o.below R;have hq:=Bt hq R;obtain⟨Qy,Ud⟩:=(n7.below hq).cp;obtain⟨Qz,Ua⟩:=(n8.below hq).cp;obtain⟨Uc,Ub⟩:=(n9.below hq).cp;obtain⟨Qa,Qn,Qe,Qf⟩:=(f.below hq).cq;obtain⟨Qq,Qt,Qv,Qo⟩:=(f.below hq).fq)
     |(go_at_call 86;refine(K.o _ _ _ o ax).mono ?_;clear K;rintro e w4 ⟨u4,rfl,T,aw⟩;obtain⟨bc,ai,ba,ak,bf,aj,az,am,rfl⟩:=Jh.form T;have hq:=Bt hq aw;obtain⟨Qy,Ud⟩:=(n7.below hq).cp;obtain⟨Qz,Ua⟩:=(n8.below hq).cp;obtain⟨Uc,Ub⟩:=(n9.below hq).cp;obtain⟨Qa,Qn,Qe,Qf⟩:=(f.below hq).cq;obtain⟨Qq,Qt,Qv,Qo⟩:=(f.below hq).fq))
   all_goals go_wp2_with fail
   have Ug:=Bt j.o.2.2 hq;exact BB (v:=M #[E bc,C ai ba ak,E bf,C aj az am]) (by simp[results,Tryz.results65,go_sem,Qa,Qn,Qe,Qf]) rfl ⟨_,rfl,T.put4 (f.below hq) rfl rfl rfl rfl _ _ _ _,JB Ug O _ _ _ _⟩
 . have P:=Ja hn;clear hn;obtain⟨fj,dp,fe,dz,bz,bm⟩:=r.o.int (i:=1) rfl;obtain⟨Uf,Ue⟩:=bz.cp;have m:=Ja (IQ _ _ y 0 V3 bm (XW _));rw[show D4 y 0=1 from by have h1:=P.o;have h2:=l.o;unfold D4;rw[BA O,BC O]]at m;go_upto_region 4 with(go_at_call 64;refine m.o.mono ?_;rintro e k ⟨rfl,S⟩)
   have M3:Hid (Mem w k [some (w.heap.size,.int x),some (w.heap.size+1,.int y),some (w.heap.size+1+1,.rat 0),some (d,.int (((Int.gcd x y:Nat):Int)))]):=Ja (r.o.below S);clear r;clear bz Uf Ue bm m S;have Q:=Ja (show((Int.gcd x y:Nat):Int)≠0 by have:=Ix (x:=x) l.o;omega);have N:=Ja (show((Int.gcd x y:Nat):Int)=(if y<0 then -((Int.gcd x y:Nat):Int)else((Int.gcd x y:Nat):Int))by rw[BA (by have:=P.o;omega)]);obtain⟨di,cj,de,cn,ae,da⟩:=M3.o.int (i:=0) rfl;obtain⟨Ql,Qk⟩:=ae.cp;obtain⟨dj,ck,df,co,af,db⟩:=M3.o.int (i:=1) rfl;obtain⟨Qc,Qj⟩:=af.cp;obtain⟨dk,cl,dh,ct,ah,bn⟩:=M3.o.int (i:=3) rfl;obtain⟨Qb,Qg⟩:=ah.cp;obtain⟨fk,dt,fg,ed,fm,du,fb,eo,g,fh,ew,f9⟩:=M3.o.rat (i:=2) rfl;obtain⟨Qh,Qd,Qm,Qi⟩:=g.cq;obtain⟨Qs,Qw,Qr,Qu⟩:=g.fq;obtain⟨B,D,K⟩:=Db (λ(V:H) (h:Bl k V)=>F6 _ _ x (((Int.gcd x y:Nat):Int)) V (da.below h) (bn.below h) Q.o W.o U.o) (λ(V:H) (h:Bl k V)=>F6 _ _ y (((Int.gcd x y:Nat):Int)) V (db.below h) (bn.below h) Q.o X.o U.o) λ(V:H) (u v:L) (q:Jk V u (x/((Int.gcd x y:Nat):Int))) (hv:Jk V v (y/((Int.gcd x y:Nat):Int)))=>LQ u v (Rat.divInt x y) V (by rw[PN l.o,<-N.o];exact q) (by rw[PO l.o,<-N.o];exact hv);have Us:w.heap.size≠w.heap.size+1+1:=M3.o.ne 0 2 rfl rfl DF;have Uv:w.heap.size+1≠w.heap.size+1+1:=M3.o.ne 1 2 rfl rfl DF;have Uq:d≠w.heap.size+1+1:=M3.o.ne 3 2 rfl rfl DF;have hq:Bl k k.drew:=(BF _ k).drew;go_region_held3 (λc=>c.cell? ⟨w.heap.size,0,none⟩=some (E di)/\c.cell? ⟨w.heap.size,1,none⟩=some (C cj de cn)/\c.cell? ⟨w.heap.size+1,0,none⟩=some (E dj)/\c.cell? ⟨w.heap.size+1,1,none⟩=some (C ck df co)/\c.cell? ⟨d,0,none⟩=some (E dk)/\c.cell? ⟨d,1,none⟩=some (C cl dh ct)) (first|(with_reducible exact⟨Ql,Qk,Qc,Qj,Qb,Qg⟩)|(go_keep;done)|(refine⟨?_,?_,?_,?_,?_,?_⟩<;>((repeat rw[Ya O]);first|assumption|(go_keep;done))))
    (first
     |(go_at_call 85;refine(B.o _ hq).mono ?_;clear B;rintro e w2 ⟨u2,rfl,o,aq⟩;have hq:=Bt hq aq;obtain⟨Ql,Qk⟩:=(ae.below hq).cp;obtain⟨Qc,Qj⟩:=(af.below hq).cp;obtain⟨Qb,Qg⟩:=(ah.below hq).cp;obtain⟨Qh,Qd,Qm,Qi⟩:=(g.below hq).cq;obtain⟨Qs,Qw,Qr,Qu⟩:=(g.below hq).fq)
     |(go_at_call 85;refine(D.o _ hq).mono ?_;clear D;rintro e w3 ⟨u3,rfl,ax,R⟩;have o:=o.below R;have hq:=Bt hq R;obtain⟨Ql,Qk⟩:=(ae.below hq).cp;obtain⟨Qc,Qj⟩:=(af.below hq).cp;obtain⟨Qb,Qg⟩:=(ah.below hq).cp;obtain⟨Qh,Qd,Qm,Qi⟩:=(g.below hq).cq;obtain⟨Qs,Qw,Qr,Qu⟩:=(g.below hq).fq)
     |(go_at_call 86;refine(K.o _ _ _ o ax).mono ?_;clear K;rintro e w4 ⟨u4,rfl,T,aw⟩;obtain⟨bc,ai,ba,ak,bf,aj,az,am,rfl⟩:=Jh.form T;have hq:=Bt hq aw;obtain⟨Ql,Qk⟩:=(ae.below hq).cp;obtain⟨Qc,Qj⟩:=(af.below hq).cp;obtain⟨Qb,Qg⟩:=(ah.below hq).cp;obtain⟨Qh,Qd,Qm,Qi⟩:=(g.below hq).cq;obtain⟨Qs,Qw,Qr,Qu⟩:=(g.below hq).fq))
   all_goals go_wp2_with fail
   have Ug:=Bt M3.o.2.2 hq;exact BB (v:=M #[E bc,C ai ba ak,E bf,C aj az am]) (by simp[results,Tryz.results65,go_sem,Qh,Qd,Qm,Qi]) rfl ⟨_,rfl,T.put4 (g.below hq) rfl rfl rfl rfl _ _ _ _,JB Ug O _ _ _ _⟩
theorem LR(w:H)(s t i j:Bool)(a b a' e:Option Addr)(l c k d l' c' g f:Nat)(p q:Rat)(hp:Jh w (M #[E s,C a l c,E t,C b k d]) p)(hq:Jh w (M #[E i,C a' l' c',E j,C e g f]) q):
 Mem w (((w.alloc (F #[E s,C a l c,E t,C b k d] 37)).alloc (F #[E i,C a' l' c',E j,C e g f] 37)).alloc (F #[E false,C none 0 0,E false,C none 0 0] 37)) [some (w.heap.size,.rat p),some (w.heap.size+1,.rat q),some (w.heap.size+1+1,.rat 0)]:=by
 have h:=(((Mem.nil w).push (.rat p) hp).push (.rat q) (hq.below (Ba w _))).push (.rat 0) (XY _);rw[Ax,Ax,Ax]at h;exact h
theorem Wx(w:H)(s t i j:Bool)(a b a' e:Option Addr)(l c k d l' c' g f:Nat)(p q:Rat)(hp:Jh w (M #[E s,C a l c,E t,C b k d]) p)(hq:Jh w (M #[E i,C a' l' c',E j,C e g f]) q):
 Mem w ((w.alloc (F #[E s,C a l c,E t,C b k d] 37)).alloc (F #[E i,C a' l' c',E j,C e g f] 37)) [some (w.heap.size,.rat p),some (w.heap.size+1,.rat q)]:=by
 have h:=((Mem.nil w).push (.rat p) hp).push (.rat q) (hq.below (Ba w _));rw[Ax]at h;exact h
theorem LS(h:q.den=1):q=(q.num:Rat):=Rat.ext rfl h
theorem Wy(hp:p.den=1)(hq:q.den=1):(p+q).num=p.num+q.num/\(p+q).den=1:=by
 have h:p+q=((p.num+q.num:Int):Rat):=by rw[FP,<-LS hp,<-LS hq]
 rw[h];exact⟨rfl,rfl⟩
theorem Wz(hp:p.den=1)(hq:q.den=1):(p*q).num=p.num*q.num/\(p*q).den=1:=by
 have h:p*q=((p.num*q.num:Int):Rat):=by rw[AB,<-LS hp,<-LS hq]
 rw[h];exact⟨rfl,rfl⟩
theorem W4(p q:Rat)(hp:Sq p)(hq:Sq q)(a lf d b c:Int)(e:((Int.gcd (p.den:Int) (q.den:Int):Nat):Int)=a)(l:(p.den:Int)/a=lf)(m:(q.den:Int)/a=d)(n:p.num*d+q.num*lf=b)(f:((Int.gcd b a:Nat):Int)=c):
 Sok a/\a≠0/\Sok lf/\Sok d/\Sok b/\Sok c/\c≠0/\Sok (p.num*d)/\Sok (q.num*lf)/\(p+q).num=b/c/\((p+q).den:Int)=lf*(q.den/c):=by
 have hl:=Tz p q a lf d b c e.symm l.symm m.symm n.symm f.symm;have i:a≠0:=by rw[<-e];have:=Ix (x:=(p.den:Int)) (y:=q.den) (by have:=q.den_nz;omega);omega
 have sc:Sok a:=by rw[<-e];exact hp.den.gcd hq.den
 have k:Sm 1000000000 lf:=by rw[<-l];exact hp.sm.2.div
 have j:Sm 1000000000 d:=by rw[<-m];exact hq.sm.2.div
 have o:=hp.sm.1.mul j;have r:=hq.sm.1.mul k;have g:Sok b:=by rw[<-n];exact Sok.of (o.add r) O
 refine⟨sc,i,Sok.of k O,Sok.of j O,g,by rw[<-f];exact g.gcd sc,?_,Sok.of o O,Sok.of r O,hl.1,hl.2⟩;rw[<-f];have:=Ix (x:=b) i;omega
theorem LT(va vb:L)(p q:Rat)(w:H)(ha:Jh w va p)(hb:Jh w vb q)(ck:Sq p)(cl:Sq q):
 Calls I 34 #[va,vb] w λe w'=>∃u,e=.returned u/\Jh w' u (p+q)/\Bl w w':=by
 obtain⟨s,a,l,c,t,b,k,d,rfl⟩:=Jh.form ha;obtain⟨s',a',l',c',t',b',k',d',rfl⟩:=Jh.form hb;have M0:=LR w s t s' t' a b a' b' l c k d l' c' k' d' p q ha hb;obtain⟨W0,bi⟩:=ex (((w.alloc (F #[E s,C a l c,E t,C b k d] 37)).alloc (F #[E s',C a' l' c',E t',C b' k' d'] 37)).alloc (F #[E false,C none 0 0,E false,C none 0 0] 37));have Ug:=Ja bi;rw[bi]at M0;have M1:Hid (Mem w W0 [some (w.heap.size,.rat p),some (w.heap.size+1,.rat q),some (w.heap.size+1+1,.rat 0)]):=Ja M0;have Qy:Tryz.prog.follows .mixedOrders=true:=by kernel_rfl
 have HP:=Ja ck;have HQ:=Ja cl;clear M0 ha hb bi ck cl;go_enter Tryz.func34,Tryz.ntmps34
 go_upto_region 1 with fail
 rw[Ug.o];clear Ug;obtain⟨bb,bz⟩:=ex (decide (p.den=1/\q.den=1):Bool);have Qu:=Ja bz;clear bz;go_cut [15] λc w'=>c=E bb/\Hid (Mem w w' [some (w.heap.size,.rat p),some (w.heap.size+1,.rat q),some (w.heap.size+1+1,.rat 0)])
 case first=>
  obtain⟨s1,a1,l1,c1,t1,b1,k1,d1,n1,r1,i1,j1⟩:=M1.o.rat (i:=0) rfl;obtain⟨Ut,Uv,Uz,Wa⟩:=n1.cq;obtain⟨s2,a2,l2,c2,t2,b2,k2,d2,n2,r2,i2,j2⟩:=M1.o.rat (i:=1) rfl;obtain⟨Uu,Ur,Uq,Wc⟩:=n2.cq;have H1:=Ja (Iw _ p W0 r1);have H2:=Ja λ(V:H) (h:Bl W0 V)=>Iw _ q V (r2.below h);by_cases S:p.den=1
  . rw[BJ S]at H1;obtain⟨b2,ak⟩:=ex (decide (q.den=1));rw[ak]at H2;have Qz:=Ja (show b2=bb by rw[<-ak,<-Qu.o];exact B0.2 ⟨λh=>⟨S,h⟩,λh=>h.2⟩);clear ak S;go_wp2_with(first
     |(go_at_call 68;refine H1.o.mono ?_;clear H1;rintro e w1 ⟨rfl,an⟩;obtain⟨Ut,Uv,Uz,Wa⟩:=(n1.below an).cq;obtain⟨Uu,Ur,Uq,Wc⟩:=(n2.below an).cq)
     |(go_at_call 68;refine(H2.o _ an).mono ?_;clear H2;rintro e w2 ⟨rfl,ak⟩))
    go_meet
    case rel=>exact⟨by rw[Qz.o],Ja ((M1.o.below an).below ak)⟩
  . rw[BL S]at H1;have Qz:=Ja (show bb=false by rw[<-Qu.o];exact BL λh=>S h.1);clear S;go_wp2_with(go_at_call 68;refine H1.o.mono ?_;clear H1;rintro e w1 ⟨rfl,an⟩)
    go_meet
    case rel=>exact⟨by rw[Qz.o],Ja (M1.o.below an)⟩
 obtain⟨rfl,m⟩:=hcut;have M2:Hid (Mem w wc [some (w.heap.size,.rat p),some (w.heap.size+1,.rat q),some (w.heap.size+1+1,.rat 0)]):=m;clear M1 m;cases bb with
 |true=>
  have Qv:=Be Qu.o;have HW:=Ja (Wy Qv.1 Qv.2);clear Qv Qu;obtain⟨s3,a3,l3,c3,t3,b3,k3,d3,n3,r3,i3,j3⟩:=M2.o.rat (i:=0) rfl;obtain⟨gp,gq⟩:=n3.cp;obtain⟨s4,a4,l4,c4,t4,b4,k4,d4,n4,r4,i4,j4⟩:=M2.o.rat (i:=1) rfl;obtain⟨gr,gu⟩:=n4.cp;obtain⟨s5,a5,l5,c5,t5,b5,k5,d5,n5,r5,i5,j5⟩:=M2.o.rat (i:=2) rfl;obtain⟨Un,Ue,Uk,Um⟩:=n5.cq;obtain⟨Ux,Uy,Up,Uw⟩:=n5.fq;go_wp2_with(go_at_call 83;refine(NL _ _ p.num q.num _ i3 i4 (by have:=HP.o.num.words;omega) (by have:=HQ.o.num.words;omega)).mono ?_;rintro e w1 ⟨u,rfl,hu,hq⟩;obtain⟨bf,az,bc,ba,rfl⟩:=Jk.form2 hu;obtain⟨Un,Ue,Uk,Um⟩:=(n5.below hq).cq;obtain⟨Ux,Uy,Up,Uw⟩:=(n5.below hq).fq)
  have hr:Jh w1 (M #[E bf,C az bc ba,E false,C none 0 0]) (p+q):=Jh.mk (by rw[HW.o.1];exact hu) (by rw[LA.2 HW.o.2];exact XW _);have Uc:=Bt M2.o.2.2 hq;exact BB (v:=M #[E bf,C az bc ba,E false,C none 0 0]) (by simp[results,Tryz.results34,go_sem,Un,Ue,Uk,Um]) rfl ⟨_,rfl,hr.put4 (n5.below hq) rfl rfl rfl rfl _ _ _ _,JB Uc O _ _ _ _⟩
 |false=>
  clear Qu;obtain⟨cm,ce⟩:=ex (((Int.gcd (p.den:Int) (q.den:Int):Nat):Int):Int);have Ul:=Ja ce;clear ce;obtain⟨lf,ci⟩:=ex ((p.den:Int)/cm:Int);have Ui:=Ja ci;clear ci;obtain⟨rt,cj⟩:=ex ((q.den:Int)/cm:Int);have Ud:=Ja cj;clear cj;obtain⟨ab,bm⟩:=ex (p.num*rt+q.num*lf:Int);have Uj:=Ja bm;clear bm;obtain⟨ag,bn⟩:=ex (((Int.gcd ab cm:Nat):Int):Int);have Uh:=Ja bn;clear bn;obtain⟨S1,S2,S3,S4,S5,S6,S7,S8,S9,bj,bk⟩:=W4 p q HP.o HQ.o cm lf rt ab ag Ul.o Ui.o Ud.o Uj.o Uh.o;obtain⟨T1,T2,T3,T4,T5,T6,T7,T8⟩:=Hd S1 S2 S3 S4 S5 S6 S7 S8;obtain⟨T9,Wb,Us⟩:=Db S9 bj bk;clear S1 S2 S3 S4 S5 S6 S7 S8 S9 bj bk;go_upto_region 3 with fail
  refine Jn Qy [[],[0],[],[2,1],[1,3,3],[],[5,4,4,0,1,2,3,4,5]] (by kernel_rfl) DF
   (λD ah V=>∃(ta tb tc td te tz:L) (x5:Option (Nat × Dat)),ah={ tmps:=#[M #[E s,C a l c,E t,C b k d],M #[E s',C a' l' c',E t',C b' k' d'],G (some ⟨w.heap.size,0,none⟩),G (some ⟨w.heap.size+1,0,none⟩),G (some ⟨w.heap.size+1+1,0,none⟩),tz,undef,undef,undef,undef,u10,u11,u12,u13,u14,E false,u16,u17,u18,u19,u20,u21,ta,tb,tc,td,te,u27,u28,u29,u30,u31,u32,u33,u34,u35,u36,u37,u38,u39,u40,u41,u42,u43,u44,u45,u46,u47,u48,u49,u50,u51,u52,u53,u54,u55,u56],defers:=[] }/\Hid ((D 0=true->Has V ta (.rat p))/\(D 1=true->Has V tb (.int ((p.den:Int))))/\(D 2=true->Has V tc (.rat q))/\(D 3=true->Has V td (.int ((q.den:Int))))/\(D 4=true->Has V te (.int cm))/\((D 5=false->x5=none)/\(D 5=true->D 6=false->∃B:Nat,tz=G (some ⟨B,0,none⟩)/\x5=some (B,.int 0))/\(D 6=true->∃B:Nat,tz=G (some ⟨B,0,none⟩)/\x5=some (B,.int cm))))/\Hid (Mem w V [some (w.heap.size,.rat p),some (w.heap.size+1,.rat q),some (w.heap.size+1+1,.rat 0),x5]))
   ⟨_,_,_,_,_,_,none,rfl,Ja ⟨Z,Z,Z,Z,Z,Z⟩,Ja ((M2.o).none).drew⟩ ?step6 ?fin6
  case step6=>
   rintro D ah V i ds ap hi o ae ⟨ta,tb,tc,td,te,tz,x5,rfl,g,m⟩;have Uf:i<7:=(Ac.1 hi).1;obtain rfl|rfl|rfl|rfl|rfl|rfl|rfl:=Hv i O
   all_goals
    simp only[Ai,Ag,Ak]at hi;subst hi
   . clear o;obtain⟨s,a,l,c,t,b,k,d,n,r,i,j⟩:=m.o.rat (i:=0) rfl;obtain⟨e0,e1,e2,e3⟩:=n.cq;refine Za ?_;exact⟨_,_,_,_,_,_,_,rfl,(De g λ_=>r),Ja (m.o)⟩
   . have R:=(g.o.1 (o 0 Z));have U:=Ja (Ew _ p V R);clear o R;refine Jc rfl rfl λK hK=>?_;go_simp;go_wp2_with(go_at_call 70;refine U.o.mono ?_;rintro e w5 ⟨v5,rfl,ad,f⟩)
     obtain⟨x,_,z,P,A,Q⟩:=g.o;exact⟨_,_,_,_,_,_,_,rfl,Ja ⟨λh=>(x h).below f,λ_=>ad,λh=>(z h).below f,λh=>(P h).below f,λh=>(A h).below f,Q⟩,Ja (m.o.below f)⟩
   . clear o;obtain⟨s,a,l,c,t,b,k,d,n,r,i,j⟩:=m.o.rat (i:=1) rfl;obtain⟨e0,e1,e2,e3⟩:=n.cq;refine Za ?_;exact⟨_,_,_,_,_,_,_,rfl,(DZ g λ_=>r),Ja (m.o)⟩
   . have R:=(g.o.2.2.1 (o 2 Z));have U:=Ja (Ew _ q V R);clear o R;refine Jc rfl rfl λK hK=>?_;go_simp;go_wp2_with(go_at_call 70;refine U.o.mono ?_;rintro e w5 ⟨v5,rfl,ad,f⟩)
     obtain⟨x,N,z,_,A,Q⟩:=g.o;exact⟨_,_,_,_,_,_,_,rfl,Ja ⟨λh=>(x h).below f,λh=>(N h).below f,λh=>(z h).below f,λ_=>ad,λh=>(A h).below f,Q⟩,Ja (m.o.below f)⟩
   . have R:=(g.o.2.1 (o 1 Z));have S:=(g.o.2.2.2.1 (o 3 Z));have U:=Ja ((by have h:=IX _ _ (p.den:Int) (q.den:Int) V R S (by have:=HP.o.den.words;omega) (by have:=HQ.o.den.words;omega);rw[Ul.o]at h;exact h));clear o R S;refine Jc rfl rfl λK hK=>?_;go_simp;go_wp2_with(go_at_call 84;refine U.o.mono ?_;rintro e w5 ⟨v5,rfl,ad,f⟩)
     obtain⟨x,N,z,P,_,Q⟩:=g.o;exact⟨_,_,_,_,_,_,_,rfl,Ja ⟨λh=>(x h).below f,λh=>(N h).below f,λh=>(z h).below f,λh=>(P h).below f,λ_=>ad,Q⟩,Ja (m.o.below f)⟩
   . have hf:D 6=false:=DI ap ae;obtain rfl:=Dn g ae;clear o;refine Za ?_;obtain⟨x,N,z,P,A,_⟩:=g.o;exact⟨_,_,_,_,_,_,_,rfl,Ja ⟨λh=>(x h).alloc _,λh=>(N h).alloc _,λh=>(z h).alloc _,λh=>(P h).alloc _,λh=>(A h).alloc _,⟨λh=>by simp at h,λ_ _=>⟨_,rfl,rfl⟩,λh=>by simp[hf]at h⟩⟩,Ja (m.o.fill (i:=3) rfl (.int 0) (XW _))⟩
   . obtain⟨B,rfl,rfl⟩:=ED g (o 5 Z) ae;have Qa:=o 5 Z;have hv:=(g.o.2.2.2.2.1 (o 4 Z));obtain⟨s1,a1,l1,c1,rfl⟩:=Jk.form2 (show Jk V _ _ from hv);obtain⟨s,a,l,c,n,i⟩:=m.o.int (i:=3) rfl;have e0:=n.c0;have f0:=n.f0;have e1:=n.c1;have f1:=n.f1;clear o;refine Za ?_;obtain⟨x,N,z,P,A,_⟩:=g.o;exact⟨_,_,_,_,_,_,_,rfl,Ja ⟨λh=>(x h).set2 n rfl rfl _ _,λh=>(N h).set2 n rfl rfl _ _,λh=>(z h).set2 n rfl rfl _ _,λh=>(P h).set2 n rfl rfl _ _,λh=>(A h).set2 n rfl rfl _ _,⟨λh=>by simp[Qa]at h,λ_ h=>by simp at h,λ_=>⟨B,rfl,rfl⟩⟩⟩,Ja (m.o.putInt (i:=3) rfl hv)⟩
  rintro D ah V7 ai ⟨ta,tb,tc,td,te,tz,x5,rfl,g,m⟩;obtain⟨B8,rfl,rfl⟩:=g.o.2.2.2.2.2.2.2 (ai 6 DF);clear g ai M2;have M3:Hid (Mem w V7 [some (w.heap.size,.rat p),some (w.heap.size+1,.rat q),some (w.heap.size+1+1,.rat 0),some (B8,.int cm)]):=m;clear m;go_upto_region 4 with fail
  refine Jn Qy [[],[0],[],[1,2,1],[],[4,3],[],[5,6,5],[],[],[8,3,7,0,1,2,3,8,9],[9,7,10,0,1,2,3,4,5,6,7,8,9,10]] (by kernel_rfl) DF
   (λD ah V=>∃(tg ti tj tk tl tm tn tp tA tB:L) (x8 x9:Option (Nat × Dat)),ah={ tmps:=#[M #[E s,C a l c,E t,C b k d],M #[E s',C a' l' c',E t',C b' k' d'],G (some ⟨w.heap.size,0,none⟩),G (some ⟨w.heap.size+1,0,none⟩),G (some ⟨w.heap.size+1+1,0,none⟩),G (some ⟨B8,0,none⟩),tA,tB,undef,undef,u10,u11,u12,u13,u14,E false,u16,u17,u18,u19,u20,u21,ta,tb,tc,td,te,tg,ti,tj,tk,tl,tm,tn,tp,u35,u36,u37,u38,u39,u40,u41,u42,u43,u44,u45,u46,u47,u48,u49,u50,u51,u52,u53,u54,u55,u56],defers:=[] }/\Hid ((D 0=true->Has V tg (.rat p))/\(D 1=true->Has V ti (.int ((p.den:Int))))/\(D 2=true->Has V tj (.int cm))/\(D 3=true->Has V tk (.int lf))/\(D 4=true->Has V tl (.rat q))/\(D 5=true->Has V tm (.int ((q.den:Int))))/\(D 6=true->Has V tn (.int cm))/\(D 7=true->Has V tp (.int rt))/\((D 8=false->x8=none)/\(D 8=true->D 10=false->∃B:Nat,tA=G (some ⟨B,0,none⟩)/\x8=some (B,.int 0))/\(D 10=true->∃B:Nat,tA=G (some ⟨B,0,none⟩)/\x8=some (B,.int lf)))/\((D 9=false->x9=none)/\(D 9=true->D 11=false->∃B:Nat,tB=G (some ⟨B,0,none⟩)/\x9=some (B,.int 0))/\(D 11=true->∃B:Nat,tB=G (some ⟨B,0,none⟩)/\x9=some (B,.int rt))))/\Hid (Mem w V [some (w.heap.size,.rat p),some (w.heap.size+1,.rat q),some (w.heap.size+1+1,.rat 0),some (B8,.int cm),x8,x9]))
   ⟨_,_,_,_,_,_,_,_,_,_,none,none,rfl,Ja ⟨Z,Z,Z,Z,Z,Z,Z,Z,Z,Z⟩,Ja (((M3.o).none).none).drew⟩ ?step9 ?fin9
  case step9=>
   rintro D ah V i ds ap hi o ae ⟨tg,ti,tj,tk,tl,tm,tn,tp,tA,tB,x8,x9,rfl,g,m⟩;have Uf:i<12:=(Ac.1 hi).1;obtain rfl|rfl|rfl|rfl|rfl|rfl|rfl|rfl|rfl|rfl|rfl|rfl:=Hw i O
   all_goals
    simp only[Ai,Ag,Ak]at hi;subst hi
   . clear o;obtain⟨s,a,l,c,t,b,k,d,n,r,i,j⟩:=m.o.rat (i:=0) rfl;obtain⟨e0,e1,e2,e3⟩:=n.cq;refine Za ?_;exact⟨_,_,_,_,_,_,_,_,_,_,_,_,rfl,(De g λ_=>r),Ja (m.o)⟩
   . have R:=(g.o.1 (o 0 Z));have U:=Ja (Ew _ p V R);clear o R;refine Jc rfl rfl λK hK=>?_;go_simp;go_wp2_with(go_at_call 70;refine U.o.mono ?_;rintro e w5 ⟨v5,rfl,ad,f⟩)
     obtain⟨x,_,z,P,A,Q,T,W,X⟩:=g.o;exact⟨_,_,_,_,_,_,_,_,_,_,_,_,rfl,Ja ⟨λh=>(x h).below f,λ_=>ad,λh=>(z h).below f,λh=>(P h).below f,λh=>(A h).below f,λh=>(Q h).below f,λh=>(T h).below f,λh=>(W h).below f,X⟩,Ja (m.o.below f)⟩
   . clear o;obtain⟨s,a,l,c,n,i⟩:=m.o.int (i:=3) rfl;obtain⟨e0,e1⟩:=n.cp;refine Za ?_;exact⟨_,_,_,_,_,_,_,_,_,_,_,_,rfl,(DZ g λ_=>i),Ja (m.o)⟩
   . have R:=(g.o.2.1 (o 1 Z));have S:=(g.o.2.2.1 (o 2 Z));have U:=Ja ((by have h:=F6 _ _ (p.den:Int) cm V R S T2.o HP.o.den T1.o;rw[Ui.o]at h;exact h));clear o R S;refine Jc rfl rfl λK hK=>?_;go_simp;go_wp2_with(go_at_call 85;refine U.o.mono ?_;rintro e w5 ⟨v5,rfl,ad,f⟩)
     obtain⟨x,N,z,_,A,Q,T,W,X⟩:=g.o;exact⟨_,_,_,_,_,_,_,_,_,_,_,_,rfl,Ja ⟨λh=>(x h).below f,λh=>(N h).below f,λh=>(z h).below f,λ_=>ad,λh=>(A h).below f,λh=>(Q h).below f,λh=>(T h).below f,λh=>(W h).below f,X⟩,Ja (m.o.below f)⟩
   . clear o;obtain⟨s,a,l,c,t,b,k,d,n,r,i,j⟩:=m.o.rat (i:=1) rfl;obtain⟨e0,e1,e2,e3⟩:=n.cq;refine Za ?_;exact⟨_,_,_,_,_,_,_,_,_,_,_,_,rfl,(Du g λ_=>r),Ja (m.o)⟩
   . have R:=(g.o.2.2.2.2.1 (o 4 Z));have U:=Ja (Ew _ q V R);clear o R;refine Jc rfl rfl λK hK=>?_;go_simp;go_wp2_with(go_at_call 70;refine U.o.mono ?_;rintro e w5 ⟨v5,rfl,ad,f⟩)
     obtain⟨x,N,z,P,A,_,T,W,X⟩:=g.o;exact⟨_,_,_,_,_,_,_,_,_,_,_,_,rfl,Ja ⟨λh=>(x h).below f,λh=>(N h).below f,λh=>(z h).below f,λh=>(P h).below f,λh=>(A h).below f,λ_=>ad,λh=>(T h).below f,λh=>(W h).below f,X⟩,Ja (m.o.below f)⟩
   . clear o;obtain⟨s,a,l,c,n,i⟩:=m.o.int (i:=3) rfl;obtain⟨e0,e1⟩:=n.cp;refine Za ?_;exact⟨_,_,_,_,_,_,_,_,_,_,_,_,rfl,(Dz g λ_=>i),Ja (m.o)⟩
   . have R:=((Dn g) (o 5 Z));have S:=((ED g) (o 6 Z));have U:=Ja ((by have h:=F6 _ _ (q.den:Int) cm V R S T2.o HQ.o.den T1.o;rw[Ud.o]at h;exact h));clear o R S;refine Jc rfl rfl λK hK=>?_;go_simp;go_wp2_with(go_at_call 85;refine U.o.mono ?_;rintro e w5 ⟨v5,rfl,ad,f⟩)
     obtain⟨x,N,z,P,A,Q,T,_,X⟩:=g.o;exact⟨_,_,_,_,_,_,_,_,_,_,_,_,rfl,Ja ⟨λh=>(x h).below f,λh=>(N h).below f,λh=>(z h).below f,λh=>(P h).below f,λh=>(A h).below f,λh=>(Q h).below f,λh=>(T h).below f,λ_=>ad,X⟩,Ja (m.o.below f)⟩
   . have hf:D 10=false:=DI ap ae;obtain rfl:=g.o.2.2.2.2.2.2.2.2.1.1 ae;clear o;refine Za ?_;obtain⟨x,N,z,P,A,Q,T,W,_,G9⟩:=g.o;exact⟨_,_,_,_,_,_,_,_,_,_,_,_,rfl,Ja ⟨λh=>(x h).alloc _,λh=>(N h).alloc _,λh=>(z h).alloc _,λh=>(P h).alloc _,λh=>(A h).alloc _,λh=>(Q h).alloc _,λh=>(T h).alloc _,λh=>(W h).alloc _,⟨λh=>by simp at h,λ_ _=>⟨_,rfl,rfl⟩,λh=>by simp[hf]at h⟩,G9⟩,Ja (m.o.fill (i:=4) rfl (.int 0) (XW _))⟩
   . have hf:D 11=false:=DI ap ae;obtain rfl:=F3 g ae;clear o;refine Za ?_;obtain⟨x,N,z,P,A,Q,T,W,X,_⟩:=g.o;exact⟨_,_,_,_,_,_,_,_,_,_,_,_,rfl,Ja ⟨λh=>(x h).alloc _,λh=>(N h).alloc _,λh=>(z h).alloc _,λh=>(P h).alloc _,λh=>(A h).alloc _,λh=>(Q h).alloc _,λh=>(T h).alloc _,λh=>(W h).alloc _,X,⟨λh=>by simp at h,λ_ _=>⟨_,rfl,rfl⟩,λh=>by simp[hf]at h⟩⟩,Ja (m.o.fill (i:=5) rfl (.int 0) (XW _))⟩
   . obtain⟨B,rfl,rfl⟩:=g.o.2.2.2.2.2.2.2.2.1.2.1 (o 8 Z) ae;have Qa:=o 8 Z;have hv:=(g.o.2.2.2.1 (o 3 Z));obtain⟨s1,a1,l1,c1,rfl⟩:=Jk.form2 (show Jk V _ _ from hv);obtain⟨s,a,l,c,n,i⟩:=m.o.int (i:=4) rfl;have e0:=n.c0;have f0:=n.f0;have e1:=n.c1;have f1:=n.f1;clear o;refine Za ?_;obtain⟨x,N,z,P,A,Q,T,W,_,G9⟩:=g.o;exact⟨_,_,_,_,_,_,_,_,_,_,_,_,rfl,Ja ⟨λh=>(x h).set2 n rfl rfl _ _,λh=>(N h).set2 n rfl rfl _ _,λh=>(z h).set2 n rfl rfl _ _,λh=>(P h).set2 n rfl rfl _ _,λh=>(A h).set2 n rfl rfl _ _,λh=>(Q h).set2 n rfl rfl _ _,λh=>(T h).set2 n rfl rfl _ _,λh=>(W h).set2 n rfl rfl _ _,⟨λh=>by simp[Qa]at h,λ_ h=>by simp at h,λ_=>⟨B,rfl,rfl⟩⟩,G9⟩,Ja (m.o.putInt (i:=4) rfl hv)⟩
   . obtain⟨B,rfl,rfl⟩:=EE g (o 9 Z) ae;have Qa:=o 9 Z;have hv:=((ET g) (o 7 Z));obtain⟨s1,a1,l1,c1,rfl⟩:=Jk.form2 (show Jk V _ _ from hv);obtain⟨s,a,l,c,n,i⟩:=m.o.int (i:=5) rfl;have e0:=n.c0;have f0:=n.f0;have e1:=n.c1;have f1:=n.f1;clear o;refine Za ?_;obtain⟨x,N,z,P,A,Q,T,W,X,_⟩:=g.o;exact⟨_,_,_,_,_,_,_,_,_,_,_,_,rfl,Ja ⟨λh=>(x h).set2 n rfl rfl _ _,λh=>(N h).set2 n rfl rfl _ _,λh=>(z h).set2 n rfl rfl _ _,λh=>(P h).set2 n rfl rfl _ _,λh=>(A h).set2 n rfl rfl _ _,λh=>(Q h).set2 n rfl rfl _ _,λh=>(T h).set2 n rfl rfl _ _,λh=>(W h).set2 n rfl rfl _ _,X,⟨λh=>by simp[Qa]at h,λ_ h=>by simp at h,λ_=>⟨B,rfl,rfl⟩⟩⟩,Ja (m.o.putInt (i:=5) rfl hv)⟩
  rintro D ah df ai ⟨tg,ti,tj,tk,tl,tm,tn,tp,tA,tB,x8,x9,rfl,g,m⟩;obtain⟨B11,rfl,rfl⟩:=g.o.2.2.2.2.2.2.2.2.1.2.2 (ai 10 DF);obtain⟨B12,rfl,rfl⟩:=g.o.2.2.2.2.2.2.2.2.2.2.2 (ai 11 DF);clear g ai M3;have M4:Hid (Mem w df [some (w.heap.size,.rat p),some (w.heap.size+1,.rat q),some (w.heap.size+1+1,.rat 0),some (B8,.int cm),some (B11,.int lf),some (B12,.int rt)]):=m;clear m;go_upto_region 5 with fail
  refine Jn Qy [[],[0],[],[1,2],[],[4],[],[5,6,3],[3,7,7],[],[9,8,8,0,1,2,3,4,5,6,7,8,9]] (by kernel_rfl) DF
   (λD ah V=>∃(tq tr ts tt tu tv tw tx ty tC:L) (x9:Option (Nat × Dat)),ah={ tmps:=#[M #[E s,C a l c,E t,C b k d],M #[E s',C a' l' c',E t',C b' k' d'],G (some ⟨w.heap.size,0,none⟩),G (some ⟨w.heap.size+1,0,none⟩),G (some ⟨w.heap.size+1+1,0,none⟩),G (some ⟨B8,0,none⟩),G (some ⟨B11,0,none⟩),G (some ⟨B12,0,none⟩),tC,undef,u10,u11,u12,u13,u14,E false,u16,u17,u18,u19,u20,u21,ta,tb,tc,td,te,tg,ti,tj,tk,tl,tm,tn,tp,tq,tr,ts,tt,tu,tv,tw,tx,ty,u44,u45,u46,u47,u48,u49,u50,u51,u52,u53,u54,u55,u56],defers:=[] }/\Hid ((D 0=true->tq=G (some ⟨w.heap.size,0,none⟩))/\(D 1=true->Has V tr (.int (Rat.num (p))))/\(D 2=true->Has V ts (.int rt))/\(D 3=true->Has V tt (.int (p.num*rt)))/\(D 4=true->tu=G (some ⟨w.heap.size+1,0,none⟩))/\(D 5=true->Has V tv (.int (Rat.num (q))))/\(D 6=true->Has V tw (.int lf))/\(D 7=true->Has V tx (.int (q.num*lf)))/\(D 8=true->Has V ty (.int ab))/\((D 9=false->x9=none)/\(D 9=true->D 10=false->∃B:Nat,tC=G (some ⟨B,0,none⟩)/\x9=some (B,.int 0))/\(D 10=true->∃B:Nat,tC=G (some ⟨B,0,none⟩)/\x9=some (B,.int ab))))/\Hid (Mem w V [some (w.heap.size,.rat p),some (w.heap.size+1,.rat q),some (w.heap.size+1+1,.rat 0),some (B8,.int cm),some (B11,.int lf),some (B12,.int rt),x9]))
   ⟨_,_,_,_,_,_,_,_,_,_,none,rfl,Ja ⟨Z,Z,Z,Z,Z,Z,Z,Z,Z,Z⟩,Ja ((M4.o).none).drew⟩ ?step13 ?fin13
  case step13=>
   rintro D ah V i ds ap hi o ae ⟨tq,tr,ts,tt,tu,tv,tw,tx,ty,tC,x9,rfl,g,m⟩;have Uf:i<11:=(Ac.1 hi).1;obtain rfl|rfl|rfl|rfl|rfl|rfl|rfl|rfl|rfl|rfl|rfl:=Gm i O
   all_goals
    simp only[Ai,Ag,Ak]at hi;subst hi
   . clear o;refine Za ?_;exact⟨_,_,_,_,_,_,_,_,_,_,_,rfl,(De g),Ja (m.o)⟩
   . obtain rfl:=(g.o.1 (o 0 Z));clear o;obtain⟨s,a,l,c,t,b,k,d,n,r,i,j⟩:=m.o.rat (i:=0) rfl;obtain⟨e0,e1,e2,e3⟩:=n.cq;refine Za ?_;exact⟨_,_,_,_,_,_,_,_,_,_,_,rfl,(Dh (De g) λ_=>i),Ja (m.o)⟩
   . clear o;obtain⟨s,a,l,c,n,i⟩:=m.o.int (i:=5) rfl;obtain⟨e0,e1⟩:=n.cp;refine Za ?_;exact⟨_,_,_,_,_,_,_,_,_,_,_,rfl,(DZ g λ_=>i),Ja (m.o)⟩
   . have R:=(g.o.2.1 (o 1 Z));have S:=(g.o.2.2.1 (o 2 Z));have U:=Ja (Xh _ _ p.num rt V R S (by have S:=HP.o.num.words;have h2:=T4.o.words;omega));clear o R S;refine Jc rfl rfl λK hK=>?_;go_simp;go_wp2_with(go_at_call 69;refine U.o.mono ?_;rintro e w5 ⟨v5,rfl,ad,f⟩)
     obtain⟨x,N,z,_,A,Q,T,W,X,G9⟩:=g.o;exact⟨_,_,_,_,_,_,_,_,_,_,_,rfl,Ja ⟨x,λh=>(N h).below f,λh=>(z h).below f,λ_=>ad,A,λh=>(Q h).below f,λh=>(T h).below f,λh=>(W h).below f,λh=>(X h).below f,G9⟩,Ja (m.o.below f)⟩
   . clear o;refine Za ?_;exact⟨_,_,_,_,_,_,_,_,_,_,_,rfl,(Du g),Ja (m.o)⟩
   . obtain rfl:=(g.o.2.2.2.2.1 (o 4 Z));clear o;obtain⟨s,a,l,c,t,b,k,d,n,r,i,j⟩:=m.o.rat (i:=1) rfl;obtain⟨e0,e1,e2,e3⟩:=n.cq;refine Za ?_;exact⟨_,_,_,_,_,_,_,_,_,_,_,rfl,(Dw (Du g) λ_=>i),Ja (m.o)⟩
   . clear o;obtain⟨s,a,l,c,n,i⟩:=m.o.int (i:=4) rfl;obtain⟨e0,e1⟩:=n.cp;refine Za ?_;exact⟨_,_,_,_,_,_,_,_,_,_,_,rfl,(Dz g λ_=>i),Ja (m.o)⟩
   . have R:=((Dn g) (o 5 Z));have S:=((ED g) (o 6 Z));have U:=Ja (Xh _ _ q.num lf V R S (by have S:=HQ.o.num.words;have h2:=T3.o.words;omega));clear o R S;refine Jc rfl rfl λK hK=>?_;go_simp;go_wp2_with(go_at_call 69;refine U.o.mono ?_;rintro e w5 ⟨v5,rfl,ad,f⟩)
     obtain⟨x,N,z,P,A,Q,T,_,X,G9⟩:=g.o;exact⟨_,_,_,_,_,_,_,_,_,_,_,rfl,Ja ⟨x,λh=>(N h).below f,λh=>(z h).below f,λh=>(P h).below f,A,λh=>(Q h).below f,λh=>(T h).below f,λ_=>ad,λh=>(X h).below f,G9⟩,Ja (m.o.below f)⟩
   . have R:=(g.o.2.2.2.1 (o 3 Z));have S:=((ET g) (o 7 Z));have U:=Ja ((by have h:=NL _ _ (p.num*rt) (q.num*lf) V R S (by have:=T8.o.words;omega) (by have:=T9.o.words;omega);rw[Uj.o]at h;exact h));clear o R S;refine Jc rfl rfl λK hK=>?_;go_simp;go_wp2_with(go_at_call 83;refine U.o.mono ?_;rintro e w5 ⟨v5,rfl,ad,f⟩)
     obtain⟨x,N,z,P,A,Q,T,W,_,G9⟩:=g.o;exact⟨_,_,_,_,_,_,_,_,_,_,_,rfl,Ja ⟨x,λh=>(N h).below f,λh=>(z h).below f,λh=>(P h).below f,A,λh=>(Q h).below f,λh=>(T h).below f,λh=>(W h).below f,λ_=>ad,G9⟩,Ja (m.o.below f)⟩
   . have hf:D 10=false:=DI ap ae;obtain rfl:=F3 g ae;clear o;refine Za ?_;obtain⟨x,N,z,P,A,Q,T,W,X,_⟩:=g.o;exact⟨_,_,_,_,_,_,_,_,_,_,_,rfl,Ja ⟨x,λh=>(N h).alloc _,λh=>(z h).alloc _,λh=>(P h).alloc _,A,λh=>(Q h).alloc _,λh=>(T h).alloc _,λh=>(W h).alloc _,λh=>(X h).alloc _,⟨λh=>by simp at h,λ_ _=>⟨_,rfl,rfl⟩,λh=>by simp[hf]at h⟩⟩,Ja (m.o.fill (i:=6) rfl (.int 0) (XW _))⟩
   . obtain⟨B,rfl,rfl⟩:=EE g (o 9 Z) ae;have Qa:=o 9 Z;have hv:=((Ed g) (o 8 Z));obtain⟨s1,a1,l1,c1,rfl⟩:=Jk.form2 (show Jk V _ _ from hv);obtain⟨s,a,l,c,n,i⟩:=m.o.int (i:=6) rfl;have e0:=n.c0;have f0:=n.f0;have e1:=n.c1;have f1:=n.f1;clear o;refine Za ?_;obtain⟨x,N,z,P,A,Q,T,W,X,_⟩:=g.o;exact⟨_,_,_,_,_,_,_,_,_,_,_,rfl,Ja ⟨x,λh=>(N h).set2 n rfl rfl _ _,λh=>(z h).set2 n rfl rfl _ _,λh=>(P h).set2 n rfl rfl _ _,A,λh=>(Q h).set2 n rfl rfl _ _,λh=>(T h).set2 n rfl rfl _ _,λh=>(W h).set2 n rfl rfl _ _,λh=>(X h).set2 n rfl rfl _ _,⟨λh=>by simp[Qa]at h,λ_ h=>by simp at h,λ_=>⟨B,rfl,rfl⟩⟩⟩,Ja (m.o.putInt (i:=6) rfl hv)⟩
  rintro D ah bl ai ⟨tq,tr,ts,tt,tu,tv,tw,tx,ty,tC,x9,rfl,g,m⟩;obtain⟨am,rfl,rfl⟩:=g.o.2.2.2.2.2.2.2.2.2.2.2 (ai 10 DF);clear g ai M4;have M5:Hid (Mem w bl [some (w.heap.size,.rat p),some (w.heap.size+1,.rat q),some (w.heap.size+1+1,.rat 0),some (B8,.int cm),some (B11,.int lf),some (B12,.int rt),some (am,.int ab)]):=m;clear m;go_upto_region 6 with fail
  obtain⟨iu,gg,ic,gk,db,co⟩:=M5.o.int (i:=6) rfl;obtain⟨Ub,Qw⟩:=db.cp;obtain⟨iw,gh,ie,gl,de,ct⟩:=M5.o.int (i:=3) rfl;obtain⟨Ua,Qx⟩:=de.cp;have U:=Ja (IX _ _ ab cm bl co ct (by have:=T5.o.words;omega) (by have:=T1.o.words;omega));rw[Uh.o]at U;go_upto_region 7 with(go_at_call 84;refine U.o.mono ?_;clear U;rintro e w1 ⟨u,rfl,hu,hb⟩;obtain⟨bf,az,bc,ba,rfl⟩:=Jk.form2 hu)
  obtain⟨aj,hV⟩:=ex (w1.alloc (F #[E bf,C az bc ba] 35));obtain⟨bg,bh⟩:=ex (w1.heap.size);have m:Mem w (w1.alloc (F #[E bf,C az bc ba] 35)) [some (w.heap.size,.rat p),some (w.heap.size+1,.rat q),some (w.heap.size+1+1,.rat 0),some (B8,.int cm),some (B11,.int lf),some (B12,.int rt),some (am,.int ab),some (w1.heap.size,.int ag)]:=Mem.push (M5.o.below hb) (.int ag) hu;rw[hV,bh]at m;rw[hV];rw[bh];have M6:Hid (Mem w aj [some (w.heap.size,.rat p),some (w.heap.size+1,.rat q),some (w.heap.size+1+1,.rat 0),some (B8,.int cm),some (B11,.int lf),some (B12,.int rt),some (am,.int ab),some (bg,.int ag)]):=Ja (m);clear M5;clear m hV bh;clear db Ub Qw co de Ua Qx ct hu hb;obtain⟨fo,dh,fh,du,aq,fb⟩:=M6.o.int (i:=6) rfl;obtain⟨Qb,Qo⟩:=aq.cp;obtain⟨fs,di,fi,dx,aw,da⟩:=M6.o.int (i:=7) rfl;obtain⟨Qn,Qf⟩:=aw.cp;obtain⟨ft,dj,fj,dz,ax,fc⟩:=M6.o.int (i:=4) rfl;obtain⟨Qh,Qc⟩:=ax.cp;obtain⟨fv,dk,fk,ed,ga,dp,fe,eo,ay,fm,gv,gy⟩:=M6.o.rat (i:=1) rfl;obtain⟨Qd,Qi,Qj,Qm⟩:=ay.cq;obtain⟨ix,gi,ig,gn,iy,gj,ib,go,af,ir,gw,ia⟩:=M6.o.rat (i:=2) rfl;obtain⟨Qe,Qk,Ql,Qg⟩:=af.cq;obtain⟨Qq,Qr,Qp,Qs⟩:=af.fq;obtain⟨H1,H2,H3,H4,H5⟩:=Gb (λ(V:H) (h:Bl aj V)=>F6 _ _ ab ag V (fb.below h) (da.below h) T7.o T5.o T6.o) (λ(V:H) (h:Bl aj V)=>Ew _ q V (fm.below h)) (λ(V:H) (u:L) (h:Bl aj V) (hu:Jk V u (q.den:Int))=>F6 u _ (q.den:Int) ag V hu (da.below h) T7.o HQ.o.den T6.o) (λ(V:H) (u:L) (h:Bl aj V) (hu:Jk V u ((q.den:Int)/ag))=>Xh _ u lf ((q.den:Int)/ag) V (fc.below h) hu (by have S:=T3.o.words;have h2:=(Sok.div (y:=ag) HQ.o.den).words;omega)) λ(V:H) (u v:L) (hu:Jk V u (ab/ag)) (hv:Jk V v (lf*((q.den:Int)/ag)))=>LQ u v (p+q) V (by rw[Wb.o];exact hu) (by rw[Us.o];exact hv);have il:am≠w.heap.size+1+1:=M6.o.ne 6 2 rfl rfl DF;have io:bg≠w.heap.size+1+1:=M6.o.ne 7 2 rfl rfl DF;have ij:B11≠w.heap.size+1+1:=M6.o.ne 4 2 rfl rfl DF;have ii:w.heap.size+1≠w.heap.size+1+1:=M6.o.ne 1 2 rfl rfl DF;have hq:Bl aj aj.drew:=(BF _ aj).drew;go_region_held3 (λw'=>w'.cell? ⟨am,0,none⟩=some (E fo)/\w'.cell? ⟨am,1,none⟩=some (C dh fh du)/\w'.cell? ⟨bg,0,none⟩=some (E fs)/\w'.cell? ⟨bg,1,none⟩=some (C di fi dx)/\w'.cell? ⟨B11,0,none⟩=some (E ft)/\w'.cell? ⟨B11,1,none⟩=some (C dj fj dz)/\w'.cell? ⟨w.heap.size+1,0,none⟩=some (E fv)/\w'.cell? ⟨w.heap.size+1,1,none⟩=some (C dk fk ed)/\w'.cell? ⟨w.heap.size+1,2,none⟩=some (E ga)/\w'.cell? ⟨w.heap.size+1,3,none⟩=some (C dp fe eo)) (first|(with_reducible exact⟨Qb,Qo,Qn,Qf,Qh,Qc,Qd,Qi,Qj,Qm⟩)|(go_keep;done)|(refine⟨?_,?_,?_,?_,?_,?_,?_,?_,?_,?_⟩<;>((repeat rw[Ya O]);first|assumption|(go_keep;done))))
   (first
    |(go_at_call 85;refine(H1.o _ hq).mono ?_;clear H1;rintro e w2 ⟨u2,rfl,Qt,ak⟩;have hq:=Bt hq ak;obtain⟨Qb,Qo⟩:=(aq.below hq).cp;obtain⟨Qn,Qf⟩:=(aw.below hq).cp;obtain⟨Qh,Qc⟩:=(ax.below hq).cp;obtain⟨Qd,Qi,Qj,Qm⟩:=(ay.below hq).cq;obtain⟨Qe,Qk,Ql,Qg⟩:=(af.below hq).cq;obtain⟨Qq,Qr,Qp,Qs⟩:=(af.below hq).fq)
    |(go_at_call 70;refine(H2.o _ hq).mono ?_;clear H2;rintro e w3 ⟨u3,rfl,f8,bt⟩;have Qt:=Qt.below bt;have hq:=Bt hq bt;obtain⟨Qb,Qo⟩:=(aq.below hq).cp;obtain⟨Qn,Qf⟩:=(aw.below hq).cp;obtain⟨Qh,Qc⟩:=(ax.below hq).cp;obtain⟨Qd,Qi,Qj,Qm⟩:=(ay.below hq).cq;obtain⟨Qe,Qk,Ql,Qg⟩:=(af.below hq).cq;obtain⟨Qq,Qr,Qp,Qs⟩:=(af.below hq).fq)
    |(go_at_call 85;refine(H3.o _ _ hq f8).mono ?_;clear H3;rintro e w4 ⟨u4,rfl,f9,bu⟩;have Qt:=Qt.below bu;have hq:=Bt hq bu;obtain⟨Qb,Qo⟩:=(aq.below hq).cp;obtain⟨Qn,Qf⟩:=(aw.below hq).cp;obtain⟨Qh,Qc⟩:=(ax.below hq).cp;obtain⟨Qd,Qi,Qj,Qm⟩:=(ay.below hq).cq;obtain⟨Qe,Qk,Ql,Qg⟩:=(af.below hq).cq;obtain⟨Qq,Qr,Qp,Qs⟩:=(af.below hq).fq)
    |(go_at_call 69;refine(H4.o _ _ hq f9).mono ?_;clear H4;rintro e w5 ⟨u5,rfl,fa,f⟩;have Qt:=Qt.below f;have hq:=Bt hq f;obtain⟨Qb,Qo⟩:=(aq.below hq).cp;obtain⟨Qn,Qf⟩:=(aw.below hq).cp;obtain⟨Qh,Qc⟩:=(ax.below hq).cp;obtain⟨Qd,Qi,Qj,Qm⟩:=(ay.below hq).cq;obtain⟨Qe,Qk,Ql,Qg⟩:=(af.below hq).cq;obtain⟨Qq,Qr,Qp,Qs⟩:=(af.below hq).fq)
    |(go_at_call 86;refine(H5.o _ _ _ Qt fa).mono ?_;clear H5;rintro e w6 ⟨u6,rfl,cn,ew⟩;obtain⟨fx,dm,fl,ei,gb,dt,fg,et,rfl⟩:=Jh.form cn;have hq:=Bt hq ew;obtain⟨Qb,Qo⟩:=(aq.below hq).cp;obtain⟨Qn,Qf⟩:=(aw.below hq).cp;obtain⟨Qh,Qc⟩:=(ax.below hq).cp;obtain⟨Qd,Qi,Qj,Qm⟩:=(ay.below hq).cq;obtain⟨Qe,Qk,Ql,Qg⟩:=(af.below hq).cq;obtain⟨Qq,Qr,Qp,Qs⟩:=(af.below hq).fq))
  all_goals go_wp2_with fail
  have Uc:=Bt M6.o.2.2 hq;have Uo:=M6.o.ge 2 rfl;exact BB (v:=M #[E fx,C dm fl ei,E gb,C dt fg et]) (by simp[results,Tryz.results34,go_sem,Qe,Qk,Ql,Qg]) rfl ⟨_,rfl,cn.put4 (af.below hq) rfl rfl rfl rfl _ _ _ _,JB Uc Uo _ _ _ _⟩
