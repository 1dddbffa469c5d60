import Derived.Test.YteldjhhjnchdeaaGreatDoorT22
import Derived.Test.YteldjhhjnchdeaaGreatDoorT24
import Derived.Deep.RegionHeld3
open Go.Value renaming slice->C,bool->E,pointer->G,agg->L
open Go.Obj renaming cells->F
open Go renaming World->H,Value->J
open Go.Proofs.Tryz renaming prog->I
set_option maxRecDepth 100000
set_option maxHeartbeats 16000000
namespace Go.Proofs.YteldjhhjnchdeaaGreatDoor
open Go.RowKit Go.Shelf
attribute [local go_sem] Oper.semAt_some
theorem DL:type_of% @decide_eq_decide:=@decide_eq_decide
variable{x y:Int}{p q:Rat}{W:H}
theorem Io(r A:J)(x y:Int)(w:H)(Q:Jl w r x)(W:Jl w A y)(n:(Jc DR x.natAbs).length<1000000000000)(q:(Jc DR y.natAbs).length<1000000000000):
 Calls I 90 #[r,A] w λe d=>∃u,e=.returned u/\Jl d u (Int.gcd x y:Nat)/\Bl w d:=by
 obtain⟨a,la,ca,i,f⟩:=Q;cases i;obtain⟨b,lb,cb,i,l⟩:=W;cases i;have B:=f.len;have z:=l.len;obtain⟨s,hs⟩:=ex (decide (x<0));obtain⟨t,K⟩:=ex (decide (y<0));rw[hs,K];obtain⟨W0,c⟩:=ex (((w.alloc (F #[E s,C a la ca] 63)).alloc (F #[E t,C b lb cb] 63)).alloc (F #[E false,C none 0 0] 63));have g:Bl w W0:=by rw[<-c];exact Xn w _ _ _
 have b0:Jn W0 w.heap.size 63 (E s) (C a la ca):=by rw[<-c];exact((Jn.new w _ _ _).alloc _).alloc _
 have X:Jn W0 (w.heap.size+1) 63 (E t) (C b lb cb):=by
  have h:=(Jn.new (w.alloc (F #[E s,C a la ca] 63)) 63 (E t) (C b lb cb)).alloc (F #[E false,C none 0 0] 63);rw[A1,c]at h;exact h
 have k:Jn W0 (w.heap.size+1+1) 63 (E false) (C none 0 0):=by
  have h:=Jn.new ((w.alloc (F #[E s,C a la ca] 63)).alloc (F #[E t,C b lb cb] 63)) 63 (E false) (C none 0 0);rw[A1,A1,c]at h;exact h
 have U:=Ja (ZI a la ca b lb cb _ _ W0 (UN.below f g) (UN.below l g) (by rw[B];exact n) (by rw[z];exact q));have P:=Ja (λ(V:H) (u:J) (f:UN V u (Nat.gcd x.natAbs y.natAbs))=>show Calls I 119 #[E false,u] V λe d=>∃u,e=.returned u/\Jl d u (Int.gcd x y:Nat)/\Bl V d from I1 false u _ V f);have k1:=b0.c1;have Z:=X.c1;have N:=Ja c;clear f l hs K B z n q c;go_enter Tryz.func90,Tryz.ntmps90
 go_upto_region 1 with fail
 rw[N.o];go_wp2_with(first
  |(go_at_call 122;refine U.o.mono ?_;rintro e w1 ⟨u1,rfl,o,S⟩;obtain⟨na,nc,rfl⟩:=UN.form o)
  |(go_at_call 119;refine(P.o _ _ o).mono ?_;rintro e w2 ⟨u2,rfl,j,R⟩;obtain⟨D,sl,sc,rfl⟩:=j.form;obtain⟨M,m⟩:=ex (decide (((Int.gcd x y:Nat):Int)<0));rw[m]at j;rw[m];clear m;have hq:=Bt S R;obtain⟨r0,T⟩:=(k.below hq).cp;obtain⟨f0,f1⟩:=(k.below hq).fp))
 have Y:=Bt g hq;have O:=j.box (k.below hq) rfl rfl (x0:=E M) (x1:=C D sl sc);exact BA (v:=L #[E M,C D sl sc]) (by simp[results,Tryz.results90,go_sem,r0,T]) rfl ⟨_,rfl,O,(Y.setCell (p:=⟨_,0,none⟩) so _).setCell (p:=⟨_,1,none⟩) so _⟩
theorem QY(w:H)(c d b a:Obj):Bl w ((((w.alloc c).alloc d).alloc b).alloc a):=
 (((Ba w _).alloc DQ _).alloc si _).alloc si _
theorem QZ{z r:Int}(e:y≠0)(h:r+y*z=x)(d:0<=r)(f:r<y.natAbs):z=x/y/\r=x%y:=by
 rcases Int.lt_or_gt_of_ne e with g|hp
 . have c:=(Int.ediv_emod_unique (a:=x) (b:=-y) (r:=r) (q:=-z) om).2 ⟨by rw[Int.neg_mul_neg];exact h,d,om⟩;rw[Int.ediv_neg,Int.emod_neg]at c;exact⟨om,c.2.symm⟩
 . have c:=(Int.ediv_emod_unique (a:=x) (b:=y) (r:=r) (q:=z) hp).2 ⟨h,d,om⟩;exact⟨c.1.symm,c.2.symm⟩
theorem Q3(g:y≠0)(f:¬(x<0/\x.natAbs%y.natAbs≠0)):
 (if(!(decide (x<0)==decide (y<0)))=true then -((x.natAbs/y.natAbs:Nat):Int)else((x.natAbs/y.natAbs:Nat):Int))=x/y/\((x.natAbs%y.natAbs:Nat):Int)=x%y:=by
 have i:=Cc x.natAbs y.natAbs;have k:=A7 x.natAbs (show y.natAbs>0 by omega);generalize x.natAbs/y.natAbs=Q at *;generalize x.natAbs%y.natAbs=R at *;have d:(y.natAbs:Int)*Q+R=x.natAbs:=by rw[<-i];push_cast;rfl
 apply QZ g _ om om;by_cases c:x<0<;>by_cases e:y<0
 . have j:R=0:=by
    rcases AY R with h|h
    . exact h
    . exact absurd ⟨c,om⟩ f
   have a:(y.natAbs:Int)=-y:=om
   have b:(x.natAbs:Int)=-x:=om
   rw[a,b,Int.neg_mul]at d;simp[c,e];omega
 . have j:R=0:=by
    rcases AY R with h|h
    . exact h
    . exact absurd ⟨c,om⟩ f
   have a:(y.natAbs:Int)=y:=om
   have b:(x.natAbs:Int)=-x:=om
   rw[a,b]at d;simp[c,e,Int.mul_neg];omega
 . have a:(y.natAbs:Int)=-y:=om
   have b:(x.natAbs:Int)=x:=om
   rw[a,b,Int.neg_mul]at d;simp[c,e,Int.mul_neg];omega
 . have a:(y.natAbs:Int)=y:=om
   have b:(x.natAbs:Int)=x:=om
   rw[a,b]at d;simp[c,e];omega
theorem Q4(g:y≠0)(j:x<0/\x.natAbs%y.natAbs≠0):
 (if(!(decide (x<0)==decide (y<0)))=true then -((x.natAbs/y.natAbs+1:Nat):Int)else((x.natAbs/y.natAbs+1:Nat):Int))=x/y/\((y.natAbs-x.natAbs%y.natAbs:Nat):Int)=x%y:=by
 have i:=Cc x.natAbs y.natAbs;have k:=A7 x.natAbs (show y.natAbs>0 by omega);generalize x.natAbs/y.natAbs=Q at *;generalize x.natAbs%y.natAbs=R at *;have c:(y.natAbs:Int)*Q+R=x.natAbs:=by rw[<-i];push_cast;rfl
 obtain⟨e,l⟩:=j;apply QZ g _ om om;have f:(x.natAbs:Int)=-x:=om
 by_cases d:y<0
 . have a:(y.natAbs:Int)=-y:=om
   have b:((y.natAbs-R:Nat):Int)=-y-R:=om
   rw[a,f,Int.neg_mul]at c;rw[b];simp[e,d,Int.mul_add];omega
 . have a:(y.natAbs:Int)=y:=om
   have b:((y.natAbs-R:Nat):Int)=y-R:=om
   rw[a,f]at c;rw[b];simp[e,d,Int.mul_neg,Int.mul_add];omega
theorem L7{B:Nat}{t:TypeId}{c d u0 u1:J}(x0 x1 b a:J)(h:Jn W B t c d)(k:Jn W (B+1) t u0 u1):
 Jn ((((W.setCell ⟨B,0,none⟩ x0).setCell ⟨B,1,none⟩ x1).setCell ⟨B+1,0,none⟩ b).setCell ⟨B+1,1,none⟩ a) B t x0 x1/\Jn ((((W.setCell ⟨B,0,none⟩ x0).setCell ⟨B,1,none⟩ x1).setCell ⟨B+1,0,none⟩ b).setCell ⟨B+1,1,none⟩ a) (B+1) t b a:=
 ⟨(((h.set0 x0).set1 x1).far DQ b).far DQ a,(((k.far DQ x0).far DQ x1).set0 b).set1 a⟩
theorem ZU(w:H)(c d e f:J)(a b:J):
 Jn ((((w.alloc (F #[c,d] 63)).alloc (F #[e,f] 63)).alloc (F #[a,b] 63)).alloc (F #[a,b] 63)) w.heap.size 63 c d/\
 Jn ((((w.alloc (F #[c,d] 63)).alloc (F #[e,f] 63)).alloc (F #[a,b] 63)).alloc (F #[a,b] 63)) (w.heap.size+1) 63 e f/\
 Jn ((((w.alloc (F #[c,d] 63)).alloc (F #[e,f] 63)).alloc (F #[a,b] 63)).alloc (F #[a,b] 63)) (w.heap.size+1+1) 63 a b/\
 Jn ((((w.alloc (F #[c,d] 63)).alloc (F #[e,f] 63)).alloc (F #[a,b] 63)).alloc (F #[a,b] 63)) (w.heap.size+1+1+1) 63 a b:=by
 refine⟨(((Jn.new w _ _ _).alloc _).alloc _).alloc _,?_,?_,?_⟩
 . have h:=((Jn.new (w.alloc (F #[c,d] 63)) 63 e f).alloc (F #[a,b] 63)).alloc (F #[a,b] 63);rw[A1]at h;exact h
 . have h:=(Jn.new ((w.alloc (F #[c,d] 63)).alloc (F #[e,f] 63)) 63 a b).alloc (F #[a,b] 63);rw[A1,A1]at h;exact h
 . have h:=Jn.new (((w.alloc (F #[c,d] 63)).alloc (F #[e,f] 63)).alloc (F #[a,b] 63)) 63 a b;rw[A1,A1,A1]at h;exact h
theorem ZV(a:Option Addr)(la ca:Nat)(b:Option Addr)(lb cb X c:Nat)(s t:Bool)(z r:Int)(w:H)(hu:UN w (C a la ca) X)(hv:UN w (C b lb cb) c)(hY:c≠0)(bh:la<1000000000000)(bf:lb<1000000000000)
(HP:Hid (¬(s=true/\X%c≠0)->(if(!(s==t))=true then -((X/c:Nat):Int)else((X/c:Nat):Int))=z/\((X%c:Nat):Int)=r))
(HN:Hid (s=true/\X%c≠0->(if(!(s==t))=true then -((X/c+1:Nat):Int)else((X/c+1:Nat):Int))=z/\((c-X%c:Nat):Int)=r)):
 Calls I 123 #[L #[E s,C a la ca],L #[E t,C b lb cb]] w λe d=>∃q o,e=.returned (.tuple #[q,o,E true])/\Jl d q z/\Jl d o r/\Bl w d:=by
 obtain⟨b0,A,S,Y⟩:=ZU w (E s) (C a la ca) (E t) (C b lb cb) (E false) (C none 0 0);have N:=QY w (F #[E s,C a la ca] 63) (F #[E t,C b lb cb] 63) (F #[E false,C none 0 0] 63) (F #[E false,C none 0 0] 63);obtain⟨W0,ah⟩:=ex ((((w.alloc (F #[E s,C a la ca] 63)).alloc (F #[E t,C b lb cb] 63)).alloc (F #[E false,C none 0 0] 63)).alloc (F #[E false,C none 0 0] 63));rw[ah]at b0 A S Y N;have Qk:=Ja ah;have bg:lb≠0:=λe=>hY ((JA Jf).1 (Ap (by rw[<-UN.len hv,e])));have Qp:=UN.below hu N;have Qe:=UN.below hv N;have Qo:=Ja (OB a la ca b lb cb X c W0 Qp Qe hY om);have Qy:=Ja Qe;have Qu:=Ja (UN.len hu).symm;obtain⟨k0,k1⟩:=b0.cp;obtain⟨k2,B⟩:=A.cp;clear ah hu hv Qp Qe;go_enter Tryz.func123,Tryz.ntmps123
 go_upto_region 1 with fail
 rw[Qk.o];go_upto_region 4 with(go_at_call 146;refine Qo.o.mono ?_;rintro e w1 ⟨u1,v1,rfl,k,T,i⟩;obtain⟨ua,uc,rfl⟩:=UN.form k;obtain⟨va,vc,rfl⟩:=UN.form T)
 clear Qo Qk;obtain⟨k0,k1⟩:=(b0.below i).cp;obtain⟨k2,B⟩:=(A.below i).cp;have Qd:(Jc DR (X%c)).length=0↔X%c=0:=⟨λh=>(JA Jf).1 (Ap h),λh=>by rw[h,Jy];rfl⟩;have bi:=A7 X (show c>0 by omega);have bj:=Xh (m:=X) (n:=X/c) (Fv _ _);have Qh:(Jc DR (X/c)).length<1099511627776:=by
  have f:=(Ju k).2.2.2.1;have:(Jc DR X).length=la:=by
   have h:=Qu.o;omega
  omega
 obtain⟨lr,am⟩:=ex ((Jc DR (X%c)).length);obtain⟨lq,aw⟩:=ex ((Jc DR (X/c)).length);rw[am]at T Qd ⊢;rw[aw]at k Qh ⊢;obtain⟨cd,az⟩:=ex ((s&&decide (0<lr)):Bool);have y:=Ja az;have Ql:=Ja Qd;clear az Qd am aw;go_cut [29] (λv l=>v=E cd/\l=w1)
 case first=>
  cases s with
  |false=>
   have x:cd=false:=by rw[<-y.o];rfl
   go_wp2_with fail
   go_meet
   case rel=>exact⟨by rw[x],rfl⟩
  |true=>
   by_cases h5:0<lr
   . have x:cd=true:=by rw[<-y.o];simp;omega
     go_wp2_with fail
     go_meet
     case rel=>exact⟨by rw[x],rfl⟩
   . have x:cd=false:=by rw[<-y.o];simp;omega
     go_wp2_with fail
     go_meet
     case rel=>exact⟨by rw[x],rfl⟩
 case rest=>
  obtain⟨rfl,rfl⟩:=hcut;go_upto_if 29 with fail
  go_cut [7,8] (λqv rv l=>∃(U:Option Addr) (ql M Q:Nat) (Z:Option Addr) (ol W R:Nat),qv=C U ql M/\rv=C Z ol W/\Hid (UN l (C U ql M) Q)/\Hid (UN l (C Z ol W) R)/\Hid ((if(!(s==t))=true then -(Q:Int)else(Q:Int))=z/\(R:Int)=r)/\Bl W0 l)
  case first=>
   cases cd with
   |false=>
    have O:¬(s=true/\X%c≠0):=λ⟨f,h2⟩=>by
     have h:=y.o;rw[f]at h;simp at h;exact h2 (Ql.o.1 h)
    go_wp2_with fail
    go_meet
    case rel=>exact⟨_,_,_,_,_,_,_,_,rfl,rfl,Ja k,Ja T,Ja (HP.o O),i⟩
   |true=>
    have O:s=true/\X%c≠0:=by
     have h:=y.o;simp at h;exact⟨h.1,λe=>by have:=Ql.o.2 e;omega⟩
    have HC:=Ja O;clear O;have Qw:=Ja (show ∀V:H,Bl wc V->Calls I 142 #[C ua lq uc,C (some ⟨V.heap.size,0,none⟩) 1 1] (V.alloc (F #[.int .u64 1] 156)) λe d=>∃u,e=.returned u/\UN d u (X/c+1)/\Below (V.alloc (F #[.int .u64 1] 156)).heap.size (V.alloc (F #[.int .u64 1] 156)) d from λV h=>by
     have Qg:Row .u64 (V.alloc (F #[.int .u64 1] 156)) (C (some ⟨V.heap.size,0,none⟩) 1 1) (Jc DR 1):=by
      rw[OC om uo];exact(DX.made (xs:=[1]) (BE V (F #[.int .u64 ((1:Nat):Int)] 156))).row 0 1 1 DQ om om om
     exact Ph ua lq uc (some ⟨V.heap.size,0,none⟩) 1 1 (X/c) 1 _ (Row.below (Row.below k h) (Ba V _)) Qg Qh om)
    have Qx:=Ja (λ(V:H) (h:Bl wc V)=>Nn b lb cb va lr vc c (X%c) V (Row.below (Row.below Qy.o i) h) (Row.below T h) om);have hq:Bl wc wc.drew:=(BB _ wc).drew;have bx:=A.below i;go_wp2_with fail
    have B:=bx.c1;go_region_held3 (λd=>d.cell? ⟨w.heap.size+1,1,none⟩=some (C b lb cb)) (first|exact B|(go_keep;done))
     (first
      |(go_at_call 142;refine(Qw.o _ hq).mono ?_;rintro e w3 ⟨u3,rfl,ap,bc⟩;obtain⟨pa,pc,rfl⟩:=UN.form ap;have hq:=QJ hq bc;have B:=(bx.below hq).c1)
      |(go_at_call 143;refine(Qx.o _ hq).mono ?_;rintro e w4 ⟨u4,rfl,ay,aq⟩;obtain⟨ma,mc,rfl⟩:=UN.form ay;have hq:=Bt hq aq;have B:=(bx.below hq).c1))
    all_goals go_wp2_with fail
    go_meet
    case rel=>exact⟨_,_,_,_,_,_,_,_,rfl,rfl,Ja (UN.below ap aq),Ja ay,Ja (HN.o HC.o),Bt i hq⟩
  case rest=>
   obtain⟨U,ql,M,Q,Z,ol,W,R,rfl,rfl,hQ,hR,hZ,ad⟩:=hcut;have Qi:=Ja (show ∀V:H,Bl wc V->Calls I 119 #[E (!(s==t)),C U ql M] V λe d=>∃u,e=.returned u/\Jl d u z/\Bl V d from λV h=>by
    have f:=I1 (!(s==t)) _ _ V (UN.below hQ.o h);rw[hZ.o.1]at f;exact f)
   have Qn:=Ja (show ∀V:H,Bl wc V->Calls I 119 #[E false,C Z ol W] V λe d=>∃u,e=.returned u/\Jl d u r/\Bl V d from λV h=>by
    have f:=I1 false _ _ V (UN.below hR.o h);simp only[A9,if_false]at f;rw[hZ.o.2]at f;exact f)
   have k0:=(b0.below ad).c0;have k2:=(A.below ad).c0;go_wp2_with(first
    |(go_at_call 119;refine(Qi.o _ (BB _ _)).mono ?_;clear Qi;rintro e w5 ⟨u5,rfl,ae,ai⟩;obtain⟨K,j,c5,rfl⟩:=ae.form;obtain⟨D,af⟩:=ex (decide (z<0));rw[af]at ae;rw[af];clear af)
    |(go_at_call 119;refine(Qn.o _ ai).mono ?_;clear Qn;rintro e w6 ⟨u6,rfl,aj,an⟩;obtain⟨a6,l6,c6,rfl⟩:=aj.form;obtain⟨P,ak⟩:=ex (decide (r<0));rw[ak]at aj;rw[ak];clear ak;have g:=(Bt ad ai).trans (an.mono (Bt ad ai).size);obtain⟨q0,q1⟩:=(S.below g).cp;obtain⟨q2,q3⟩:=(Y.below g).cp;obtain⟨f0,f1⟩:=(S.below g).fp;obtain⟨f2,f3⟩:=(Y.below g).fp))
   have Qf:=S.below g;have Qj:=Y.below g;obtain⟨z4,z5⟩:=L7 (E D) (C K j c5) (E P) (C a6 l6 c6) Qf Qj;obtain⟨Qv,Ua⟩:=z4.cp;obtain⟨Qs,Qt⟩:=z5.cp;have Qm:Jn ((w6.setCell ⟨w.heap.size+1+1,0,none⟩ (E D)).setCell ⟨w.heap.size+1+1,1,none⟩ (C K j c5)) (w.heap.size+1+1+1) 63 (E false) (C none 0 0):=(Qj.far DQ _).far DQ _;have Qq:=((ae.below an).box Qf rfl rfl (x0:=E D) (x1:=C K j c5)).box Qm rfl rfl (x0:=E P) (x1:=C a6 l6 c6);have Qr:=(aj.box Qf rfl rfl (x0:=E D) (x1:=C K j c5)).box Qm rfl rfl (x0:=E P) (x1:=C a6 l6 c6);have Qz:=Bt N g;exact BA (v:=.tuple #[L #[E D,C K j c5],L #[E P,C a6 l6 c6],E true]) (by simp[results,Tryz.results123,go_sem,Qv,Ua,Qs,Qt]) rfl ⟨_,_,rfl,Qq,Qr,(((Qz.setCell (p:=⟨_,0,none⟩) so _).setCell (p:=⟨_,1,none⟩) so _).setCell (p:=⟨_,0,none⟩) so _).setCell (p:=⟨_,1,none⟩) so _⟩
theorem Q5(g f:J)(x y:Int)(w:H)(l:Jl w g x)(p:Jl w f y)(i:y≠0)(n:(Jc DR x.natAbs).length<1000000000000)(m:(Jc DR y.natAbs).length<1000000000000):
 Calls I 123 #[g,f] w λe d=>∃q o,e=.returned (.tuple #[q,o,E true])/\Jl d q (x/y)/\Jl d o (x%y)/\Bl w d:=by
 obtain⟨a,la,ca,rfl,k⟩:=l;obtain⟨b,lb,cb,rfl,j⟩:=p;refine ZV a la ca b lb cb x.natAbs y.natAbs _ _ (x/y) (x%y) w k j om (by rw[UN.len k];exact n) (by rw[UN.len j];exact m) (λc=>Q3 i (λh=>c ⟨BK h.1,h.2⟩)) (λc=>Q4 i ⟨Bf c.1,c.2⟩)
theorem ZW(z:Int):(Ef z 0=0)↔z=0:=by
 unfold Ef;split<;>(try split)<;>omega
theorem Q6(v:J)(z:Int)(w:H)(h:Jl w v z):
 Calls I 117 #[v] w λe m=>e=.returned (E (decide (z=0)))/\Bl w m:=by
 obtain⟨a,l,c,rfl⟩:=h.form;obtain⟨s,hs⟩:=ex (decide (z<0));rw[hs]at h ⊢;clear hs;have b0:=Jn.new w 63 (E s) (C a l c);have d:Bl w (w.alloc (F #[E s,C a l c] 63)):=Ba w _;obtain⟨W0,b⟩:=ex (w.alloc (F #[E s,C a l c] 63));rw[b]at b0 d;have k:=Ja b;have f:=Ja (Ii _ _ z 0 W0 (h.below d) (EP _));obtain⟨p,o⟩:=b0.cp;have g:=Ja (ZW z);obtain⟨n,i⟩:=ex (Ef z 0);rw[i]at f g;clear b i;go_enter Tryz.func117,Tryz.ntmps117
 go_upto_region 1 with fail
 rw[k.o];go_wp2_with(go_at_call 104;refine f.o.mono ?_;rintro e q ⟨rfl,j⟩)
 go_ret;refine⟨?_,Bt d j⟩;show Ending.returned (Value.bool (n==0))=_;have e:(n==0)=decide (z=0):=by rw[Cp];simp[g.o]
 rw[e]
def dd(y:Int):Int:=if y=0 then 1 else y
theorem Q7(v:J)(x y:Int)(w:H)(h:Gz w v x y):
 Calls I 89 #[v] w λe p=>e=.returned (E (decide (y=0)))/\Bl w p:=by
 obtain⟨s,a,l,c,t,b,k,d,rfl,u,q⟩:=h;have b0:=JK.new w 65 (E s) (C a l c) (E t) (C b k d);have g:Bl w (w.alloc (F #[E s,C a l c,E t,C b k d] 65)):=Ba w _;obtain⟨W0,f⟩:=ex (w.alloc (F #[E s,C a l c,E t,C b k d] 65));rw[f]at b0 g;have o:=Ja f;have i:=Ja (Q6 _ _ W0 (q.below g));have r:=b0.c2;have z:=b0.c3;obtain⟨n,j⟩:=ex (decide (y=0));rw[j]at i ⊢;clear f j;go_enter Tryz.func89,Tryz.ntmps89
 go_upto_region 1 with fail
 rw[o.o];go_wp2_with(go_at_call 117;refine i.o.mono ?_;rintro e A ⟨rfl,m⟩)
 go_ret;exact⟨rfl,Bt g m⟩
theorem ZX(v:J)(x y:Int)(w:H)(h:Gz w v x y):
 Calls I 86 #[v] w λe D=>∃u,e=.returned u/\Jl D u (dd y)/\Bl w D:=by
 have B:=h;obtain⟨s,a,l,c,t,b,k,d,rfl,R,O⟩:=h;obtain⟨W0,i⟩:=ex ((w.alloc (F #[E s,C a l c,E t,C b k d] 65)).alloc (F #[E false,C none 0 0] 63));have b0:JK W0 w.heap.size 65 (E s) (C a l c) (E t) (C b k d):=by rw[<-i];exact(JK.new w _ _ _ _ _).alloc _
 have m:Bl w W0:=by rw[<-i];exact Nw w _ _
 have g:Jn W0 (w.heap.size+1) 63 (E false) (C none 0 0):=by
  have h:=Jn.new (w.alloc (F #[E s,C a l c,E t,C b k d] 65)) 63 (E false) (C none 0 0);rw[A1,i]at h;exact h
 have j:=Ja (Q7 _ x y W0 (B.below m));have N:=Ja i;obtain⟨W,V,U,X⟩:=b0.cq;have Q:=Ja (O.below m);clear B R O i;by_cases hq:y=0
 . rw[BK hq]at j;have q:=Ja (show dd y=1 by unfold dd;rw[BG hq]);clear hq;go_enter Tryz.func86,Tryz.ntmps86
   go_upto_region 1 with fail
   rw[N.o];go_wp2_with(first
    |(go_at_call 89;refine j.o.mono ?_;rintro e S ⟨rfl,f⟩)
    |(go_at_call 95;refine(I6 1 om om _).mono ?_;rintro e Z ⟨u2,rfl,z,T⟩;obtain⟨K,sl,sc,rfl⟩:=z.form;obtain⟨M,A⟩:=ex (decide ((1:Int)<0));rw[A]at z;rw[A];clear A;have hq:=Bt f T;obtain⟨r0,n⟩:=(g.below hq).cp;obtain⟨f0,f1⟩:=(g.below hq).fp))
   have r:=Bt m hq;have o:=z.box (g.below hq) rfl rfl (x0:=E M) (x1:=C K sl sc);exact BA (v:=L #[E M,C K sl sc]) (by simp[results,Tryz.results86,go_sem,r0,n]) rfl ⟨_,rfl,by rw[q.o];exact o,(r.setCell (p:=⟨_,0,none⟩) so _).setCell (p:=⟨_,1,none⟩) so _⟩
 . rw[BI hq]at j;have q:=Ja (show y=dd y by unfold dd;rw[BC hq]);clear hq;go_enter Tryz.func86,Tryz.ntmps86
   go_upto_region 1 with fail
   rw[N.o];go_wp2_with(go_at_call 89;refine j.o.mono ?_;rintro e S ⟨rfl,f⟩;have m2:=(b0.below f).c2;have Y:=(b0.below f).c3;obtain⟨r0,n⟩:=(g.below f).cp;obtain⟨f0,f1⟩:=(g.below f).fp)
   have r:=Bt m f;have P:=Q.o.below f;rw[q.o]at P;have o:=P.box (g.below f) rfl rfl (x0:=E t) (x1:=C b k d);exact BA (v:=L #[E t,C b k d]) (by simp[results,Tryz.results86,go_sem,r0,n]) rfl ⟨_,rfl,o,(r.setCell (p:=⟨_,0,none⟩) so _).setCell (p:=⟨_,1,none⟩) so _⟩
theorem ZY(q:Rat):dd (EA q)=q.den:=by
 have:=q.den_pos;unfold dd EA;split<;>(try split at *)<;>omega
theorem XK(v:J)(q:Rat)(w:H)(h:Jj w v q):
 Calls I 89 #[v] w λe b=>e=.returned (E (decide (q.den=1)))/\Bl w b:=by
 have a:=Q7 v q.num (EA q) w h.pair;rwa[DL.2 Ll]at a
theorem GA(v:J)(q:Rat)(w:H)(h:Jj w v q):
 Calls I 86 #[v] w λe a=>∃u,e=.returned u/\Jl a u (q.den:Int)/\Bl w a:=by
 have b:=ZX v q.num (EA q) w h.pair;rwa[ZY]at b
theorem GZ(D N:J)(x y:Int)(w:H)(g:Jl w D x)(j:Jl w N y)(A:y≠0)(z:Da x)(K:Da y):
 Calls I 91 #[D,N] w λe O=>∃u,e=.returned u/\Jl O u (x/y)/\Bl w O:=by
 obtain⟨a,la,ca,rfl⟩:=g.form;obtain⟨b,lb,cb,rfl⟩:=j.form;obtain⟨s,hs⟩:=ex (decide (x<0));obtain⟨t,P⟩:=ex (decide (y<0));rw[hs]at g ⊢;rw[P]at j ⊢;clear hs P;obtain⟨W0,c⟩:=ex (((w.alloc (F #[E s,C a la ca] 63)).alloc (F #[E t,C b lb cb] 63)).alloc (F #[E false,C none 0 0] 63));have m:Bl w W0:=by rw[<-c];exact Xn w _ _ _
 have b0:Jn W0 w.heap.size 63 (E s) (C a la ca):=by rw[<-c];exact((Jn.new w _ _ _).alloc _).alloc _
 have X:Jn W0 (w.heap.size+1) 63 (E t) (C b lb cb):=by
  have h:=(Jn.new (w.alloc (F #[E s,C a la ca] 63)) 63 (E t) (C b lb cb)).alloc (F #[E false,C none 0 0] 63);rw[A1,c]at h;exact h
 have T:Jn W0 (w.heap.size+1+1) 63 (E false) (C none 0 0):=by
  have h:=Jn.new ((w.alloc (F #[E s,C a la ca] 63)).alloc (F #[E t,C b lb cb] 63)) 63 (E false) (C none 0 0);rw[A1,A1,c]at h;exact h
 have R:=Ja (Q5 _ _ x y W0 (g.below m) (j.below m) A (by have:=z.words;omega) (by have:=K.words;omega));have S:=Ja c;obtain⟨k0,k1⟩:=b0.cp;obtain⟨Z,k3⟩:=X.cp;clear g j A z K c;go_enter Tryz.func91,Tryz.ntmps91
 go_upto_region 1 with fail
 rw[S.o];go_upto_region 2 with(go_at_call 123;refine R.o.mono ?_;rintro e o ⟨u1,u2,rfl,n,B,M⟩;obtain⟨f,l1,c1,rfl⟩:=n.form;obtain⟨d,l⟩:=ex (decide (x/y<0));rw[l]at n;rw[l];clear l;obtain⟨i,l2,c2,rfl⟩:=B.form;obtain⟨k,r⟩:=ex (decide (x%y<0));rw[r]at B;rw[r];clear r)
 have V:=(Jn.new o 63 (E d) (C f l1 c1)).alloc (F #[E k,C i l2 c2] 63);have q:=((T.below M).alloc (F #[E d,C f l1 c1] 63)).alloc (F #[E k,C i l2 c2] 63);have Y:=(n.alloc (F #[E d,C f l1 c1] 63)).alloc (F #[E k,C i l2 c2] 63);have W:Bl w ((o.alloc (F #[E d,C f l1 c1] 63)).alloc (F #[E k,C i l2 c2] 63)):=Bt (Bt m M) (Nw o _ _)
 obtain⟨q0,q1⟩:=V.cp;obtain⟨r0,U⟩:=q.cp;obtain⟨f0,f1⟩:=q.fp;go_wp2_with fail
 have Q:=Y.box q rfl rfl (x0:=E d) (x1:=C f l1 c1);exact BA (v:=L #[E d,C f l1 c1]) (by simp[results,Tryz.results91,go_sem,r0,U]) rfl ⟨_,rfl,Q,(W.setCell (p:=⟨_,0,none⟩) so _).setCell (p:=⟨_,1,none⟩) so _⟩
theorem OG(w:H)(s t:Bool)(a b:Option Addr)(la ca lb cb:Nat)(x y:Int)(c:Jl w (L #[E s,C a la ca]) x)(d:Jl w (L #[E t,C b lb cb]) y):
 Mem w (((w.alloc (F #[E s,C a la ca] 63)).alloc (F #[E t,C b lb cb] 63)).alloc (F #[E false,C none 0 0,E false,C none 0 0] 65)) [some (w.heap.size,.int x),some (w.heap.size+1,.int y),some (w.heap.size+1+1,.rat 0)]:=by
 have h:=(((Mem.nil w).push (.int x) c).push (.int y) (d.alloc _)).push (.rat 0) (Ek _);rw[A1,A1,A1]at h;exact h
theorem Jj.mk{s t:Bool}{a b:Option Addr}{l c k d:Nat}(e:Jl W (L #[E s,C a l c]) q.num)(f:Jl W (L #[E t,C b k d]) (EA q)):Jj W (L #[E s,C a l c,E t,C b k d]) q:=⟨_,_,_,_,_,_,_,_,rfl,e,f⟩
theorem L8(K P:J)(q:Rat)(w:H)(g:Jl w K q.num)(d:Jl w P (q.den:Int)):
 Calls I 92 #[K,P] w λe i=>∃u,e=.returned u/\Jj i u q/\Bl w i:=by
 obtain⟨a,la,ca,rfl⟩:=g.form;obtain⟨b,lb,cb,rfl⟩:=d.form;obtain⟨s,hs⟩:=ex (decide (q.num<0));obtain⟨t,R⟩:=ex (decide ((q.den:Int)<0));rw[hs]at g ⊢;rw[R]at d ⊢;clear hs R;have o:=OG w s t a b la ca lb cb _ _ g d;obtain⟨W0,c⟩:=ex (((w.alloc (F #[E s,C a la ca] 63)).alloc (F #[E t,C b lb cb] 63)).alloc (F #[E false,C none 0 0,E false,C none 0 0] 65));have b0:Jn W0 w.heap.size 63 (E s) (C a la ca):=by rw[<-c];exact((Jn.new w _ _ _).alloc _).alloc _
 have x:Jn W0 (w.heap.size+1) 63 (E t) (C b lb cb):=by
  have h:=(Jn.new (w.alloc (F #[E s,C a la ca] 63)) 63 (E t) (C b lb cb)).alloc (F #[E false,C none 0 0,E false,C none 0 0] 65);rw[A1,c]at h;exact h
 have k:JK W0 (w.heap.size+1+1) 65 (E false) (C none 0 0) (E false) (C none 0 0):=by
  have h:=JK.new ((w.alloc (F #[E s,C a la ca] 63)).alloc (F #[E t,C b lb cb] 63)) 65 (E false) (C none 0 0) (E false) (C none 0 0);rw[A1,A1,c]at h;exact h
 rw[c]at o;have j:=o.2.2;obtain⟨l,N,U,Z⟩:=EC (λ(V:H) (u:J) (h:Bl W0 V) (hu:Jl V u 1)=>Ii _ u (q.den:Int) 1 V ((d.below j).below h) hu) (g.below j) (d.below j) c;obtain⟨X,W⟩:=b0.cp;obtain⟨y,A⟩:=x.cp;have r:=Ja (show(Ef (q.den:Int) 1=0)↔q.den=1 by unfold Ef;split<;>(try split)<;>omega);obtain⟨n,f⟩:=ex (Ef (q.den:Int) 1);rw[f]at l r;clear g d c f o;go_enter Tryz.func92,Tryz.ntmps92
 go_upto_region 1 with fail
 rw[Z.o];have hq:Bl W0 W0.drew:=(BB _ W0).drew;go_region_held3 (λi=>i.cell? ⟨w.heap.size+1,0,none⟩=some (E t)/\i.cell? ⟨w.heap.size+1,1,none⟩=some (C b lb cb)) (refine⟨?_,?_⟩<;>(first|(go_keep;done)|((repeat rw[JH om]);simp[*];done)))
  (first
   |(go_at_call 95;refine(I6 1 om om _).mono ?_;rintro e w1 ⟨u1,rfl,S,Y⟩;have hq:=Bt hq Y;obtain⟨y,A⟩:=(x.below hq).cp)
   |(go_at_call 104;refine(l.o _ _ hq S).mono ?_;clear l;rintro e D ⟨rfl,T⟩;have hq:=Bt hq T;obtain⟨X,W⟩:=(b0.below hq).cp;obtain⟨y,A⟩:=(x.below hq).cp;obtain⟨r0,O,Q,M⟩:=(k.below hq).cq;obtain⟨f0,f1,f2,f3⟩:=(k.below hq).fq))
 have B:=Bt j hq;have z:=k.below hq;by_cases f:n=0
 . have m:=Ja (show EA q=0 from Ll.2 (r.o.1 f));subst f;have p:Jj D (L #[E s,C a la ca,E false,C none 0 0]) q:=Jj.mk (N.o.below hq) (by rw[m.o];exact EP _);go_wp2_with fail
   exact BA (v:=L #[E s,C a la ca,E false,C none 0 0]) (by simp[results,Tryz.results92,go_sem,r0,O,Q,M]) rfl ⟨_,rfl,p.put4 z rfl rfl rfl rfl _ _ _ _,Jt B om _ _ _ _⟩
 . have m:=Ja (show EA q=q.den by unfold EA;rw[BC (λh=>f (r.o.2 h))]);have p:Jj D (L #[E s,C a la ca,E t,C b lb cb]) q:=Jj.mk (N.o.below hq) (by rw[m.o];exact U.o.below hq);go_wp2_with fail
   exact BA (v:=L #[E s,C a la ca,E t,C b lb cb]) (by simp[results,Tryz.results92,go_sem,r0,O,Q,M]) rfl ⟨_,rfl,p.put4 z rfl rfl rfl rfl _ _ _ _,Jt B om _ _ _ _⟩
theorem I9(a:y≠0):(0:Int)<(Int.gcd x y:Nat):=by
 have:=Int.gcd_pos_of_ne_zero_right x a;omega
theorem Q8(va vb:J)(x y:Int)(w:H)(ha:Jl w va x)(z:Jl w vb y)(hy:y≠0)(bt:Da x)(bn:Da y):
 Calls I 118 #[va,vb] w λe c=>∃u,e=.returned u/\Jj c u (Rat.divInt x y)/\Bl w c:=by
 obtain⟨HX,HY,l⟩:=Dm bt bn hy;clear bt bn hy;obtain⟨s,a,la,ca,rfl⟩:=Jl.form2 ha;obtain⟨t,b,lb,cb,rfl⟩:=Jl.form2 z;have M0:=OG w s t a b la ca lb cb _ _ ha z;obtain⟨W0,az⟩:=ex (((w.alloc (F #[E s,C a la ca] 63)).alloc (F #[E t,C b lb cb] 63)).alloc (F #[E false,C none 0 0,E false,C none 0 0] 65));have Uj:=Ja az;rw[az]at M0;have S:Hid (Mem w W0 [some (w.heap.size,.int (x)),some (w.heap.size+1,.int (y)),some (w.heap.size+1+1,.rat (0))]):=Ja M0;clear M0 ha z az;go_enter Tryz.func118,Tryz.ntmps118
 go_upto_region 1 with fail
 rw[Uj.o];clear Uj;obtain⟨s1,a1,l1,c1,n1,i1⟩:=S.o.int (i:=0) rfl;obtain⟨Um,Up⟩:=n1.cp;obtain⟨s2,a2,l2,c2,n2,i2⟩:=S.o.int (i:=1) rfl;obtain⟨Uo,Ul⟩:=n2.cp;go_upto_region 2 with(go_at_call 90;refine(Io _ _ x y _ i1 i2 (by have:=HX.o.words;omega) (by have:=HY.o.words;omega)).mono ?_;rintro e w1 ⟨u,rfl,o,z⟩;obtain⟨bi,cg,ci,bm,rfl⟩:=Jl.form2 o)
 obtain⟨V3,p⟩:=ex (w1.alloc (F #[E bi,C cg ci bm] 63));obtain⟨d,ay⟩:=ex (w1.heap.size);have m:Mem w (w1.alloc (F #[E bi,C cg ci bm] 63)) [some (w.heap.size,.int (x)),some (w.heap.size+1,.int (y)),some (w.heap.size+1+1,.rat (0)),some (w1.heap.size,.int (((Int.gcd x y:Nat):Int)))]:=Mem.push (S.o.below z) (.int (((Int.gcd x y:Nat):Int))) o;rw[p,ay]at m;rw[p];rw[ay];have r:Hid (Mem w V3 [some (w.heap.size,.int (x)),some (w.heap.size+1,.int (y)),some (w.heap.size+1+1,.rat (0)),some (d,.int (((Int.gcd x y:Nat):Int)))]):=Ja (m);clear S;clear m p ay;clear n1 Um Up i1 n2 Uo Ul i2 o z;have HG:=Ja (Da.gcd HX.o HY.o);by_cases hn:y<0
 . have M:=Ja hn;clear hn;obtain⟨s4,a4,l4,c4,n4,i4⟩:=r.o.int (i:=1) rfl;obtain⟨Uv,Ut⟩:=n4.cp;have n:=Ja (Ii _ _ y 0 V3 i4 (EP _));rw[show Ef y 0=-1 from by unfold Ef;rw[BG M.o]]at n;go_upto_region 3 with(go_at_call 104;refine n.o.mono ?_;rintro e k ⟨rfl,O⟩)
   have M3:Hid (Mem w k [some (w.heap.size,.int (x)),some (w.heap.size+1,.int (y)),some (w.heap.size+1+1,.rat (0)),some (d,.int (((Int.gcd x y:Nat):Int)))]):=Ja (r.o.below O);clear r;clear n4 Uv Ut i4 n O;obtain⟨s5,a5,l5,c5,n5,i5⟩:=M3.o.int (i:=3) rfl;obtain⟨Ui,Uh⟩:=n5.cp;go_upto_region 4 with(go_at_call 88;refine(QR _ _ 0 (((Int.gcd x y:Nat):Int)) _ (EP _) i5 (by have:=Da.zero.words;omega) (by have:=HG.o.words;omega)).mono ?_;rintro e w6 ⟨u6,rfl,bg,ad⟩;obtain⟨bj,bh,bk,cj,rfl⟩:=Jl.form2 bg;obtain⟨Ui,Uh⟩:=(n5.below ad).cp;obtain⟨Us,Uu⟩:=(n5.below ad).fp)
   obtain⟨A,p⟩:=ex ((w6.setCell ⟨d,0,none⟩ (E bj)).setCell ⟨d,1,none⟩ (C bh bk cj));have m:Mem w ((w6.setCell ⟨d,0,none⟩ (E bj)).setCell ⟨d,1,none⟩ (C bh bk cj)) [some (w.heap.size,.int (x)),some (w.heap.size+1,.int (y)),some (w.heap.size+1+1,.rat (0)),some (d,.int (0-((Int.gcd x y:Nat):Int)))]:=Mem.putInt (M3.o.below ad) (i:=3) rfl bg;rw[p]at m;rw[p];have j:Hid (Mem w A [some (w.heap.size,.int (x)),some (w.heap.size+1,.int (y)),some (w.heap.size+1+1,.rat (0)),some (d,.int (0-((Int.gcd x y:Nat):Int)))]):=Ja (m);clear M3;clear m p;clear n5 Ui Uh i5 bg ad;clear Us Uu;obtain⟨N,D,Uk⟩:=Dm (show(0-((Int.gcd x y:Nat):Int))≠0 by have:=I9 (x:=x) l.o;omega) (show(0-((Int.gcd x y:Nat):Int))=(if y<0 then -((Int.gcd x y:Nat):Int)else((Int.gcd x y:Nat):Int))by rw[BG M.o];omega) (show Da (0-((Int.gcd x y:Nat):Int))by rw[Int.zero_sub];exact HG.o.neg);obtain⟨s7,a7,l7,c7,n7,i7⟩:=j.o.int (i:=0) rfl;obtain⟨Y,Ud⟩:=n7.cp;obtain⟨s8,a8,l8,c8,n8,i8⟩:=j.o.int (i:=1) rfl;obtain⟨Qz,X⟩:=n8.cp;obtain⟨s9,a9,l9,c9,n9,i9⟩:=j.o.int (i:=3) rfl;obtain⟨Ua,Uc⟩:=n9.cp;obtain⟨fg,fh,fa,ff,fk,b10,fd,fb,g,r10,f8,et⟩:=j.o.rat (i:=2) rfl;obtain⟨Qi,Qk,Qm,Qf⟩:=g.cq;obtain⟨Qr,Qo,Qw,Qu⟩:=g.fq;obtain⟨K,R,Q⟩:=Dm (λ(V:H) (h:Bl A V)=>GZ _ _ x ((0-((Int.gcd x y:Nat):Int))) V (i7.below h) (i9.below h) N.o HX.o Uk.o) (λ(V:H) (h:Bl A V)=>GZ _ _ y ((0-((Int.gcd x y:Nat):Int))) V (i8.below h) (i9.below h) N.o HY.o Uk.o) (λ(V:H) (u v:J) (o:Jl V u (x/(0-((Int.gcd x y:Nat):Int)))) (hv:Jl V v (y/(0-((Int.gcd x y:Nat):Int))))=>L8 u v (Rat.divInt x y) V (by rw[Lm l.o,<-D.o];exact o) (by rw[Lo l.o,<-D.o];exact hv));have Ur:w.heap.size≠w.heap.size+1+1:=j.o.ne 0 2 rfl rfl DS;have Uq:w.heap.size+1≠w.heap.size+1+1:=j.o.ne 1 2 rfl rfl DS;have Un:d≠w.heap.size+1+1:=j.o.ne 3 2 rfl rfl DS;have hq:Bl A A.drew:=(BB _ A).drew;go_region_held3 (λc=>c.cell? ⟨w.heap.size,0,none⟩=some (E s7)/\c.cell? ⟨w.heap.size,1,none⟩=some (C a7 l7 c7)/\c.cell? ⟨w.heap.size+1,0,none⟩=some (E s8)/\c.cell? ⟨w.heap.size+1,1,none⟩=some (C a8 l8 c8)/\c.cell? ⟨d,0,none⟩=some (E s9)/\c.cell? ⟨d,1,none⟩=some (C a9 l9 c9)) (first|(with_reducible exact⟨Y,Ud,Qz,X,Ua,Uc⟩)|(go_keep;done)|(refine⟨?_,?_,?_,?_,?_,?_⟩<;>((repeat rw[JH om]);first|assumption|(go_keep;done))))
    (first
     |(go_at_call 91;refine(K.o _ hq).mono ?_;clear K;rintro e w2 ⟨u2,rfl,q,ak⟩;have hq:=Bt hq ak;obtain⟨Y,Ud⟩:=(n7.below hq).cp;obtain⟨Qz,X⟩:=(n8.below hq).cp;obtain⟨Ua,Uc⟩:=(n9.below hq).cp;obtain⟨Qi,Qk,Qm,Qf⟩:=(g.below hq).cq;obtain⟨Qr,Qo,Qw,Qu⟩:=(g.below hq).fq)
     |(go_at_call 91;refine(R.o _ hq).mono ?_;clear R;rintro e w3 ⟨u3,rfl,aj,B⟩;have q:=q.below B;have hq:=Bt hq B;obtain⟨Y,Ud⟩:=(n7.below hq).cp;obtain⟨Qz,X⟩:=(n8.below hq).cp;obtain⟨Ua,Uc⟩:=(n9.below hq).cp;obtain⟨Qi,Qk,Qm,Qf⟩:=(g.below hq).cq;obtain⟨Qr,Qo,Qw,Qu⟩:=(g.below hq).fq)
     |(go_at_call 92;refine(Q.o _ _ _ q aj).mono ?_;clear Q;rintro e w4 ⟨u4,rfl,P,am⟩;obtain⟨ah,aq,ap,an,aw,bf,bc,ai,rfl⟩:=Jj.form P;have hq:=Bt hq am;obtain⟨Y,Ud⟩:=(n7.below hq).cp;obtain⟨Qz,X⟩:=(n8.below hq).cp;obtain⟨Ua,Uc⟩:=(n9.below hq).cp;obtain⟨Qi,Qk,Qm,Qf⟩:=(g.below hq).cq;obtain⟨Qr,Qo,Qw,Qu⟩:=(g.below hq).fq))
   all_goals go_wp2_with fail
   have Ug:=Bt j.o.2.2 hq;exact BA (v:=L #[E ah,C aq ap an,E aw,C bf bc ai]) (by simp[results,Tryz.results118,go_sem,Qi,Qk,Qm,Qf]) rfl ⟨_,rfl,P.put4 (g.below hq) rfl rfl rfl rfl _ _ _ _,Jt Ug om _ _ _ _⟩
 . have M:=Ja hn;clear hn;obtain⟨fl,f6,fo,fe,ce,bu⟩:=r.o.int (i:=1) rfl;obtain⟨Uf,Ue⟩:=ce.cp;have n:=Ja (Ii _ _ y 0 V3 bu (EP _));rw[show Ef y 0=1 from by have h1:=M.o;have h2:=l.o;unfold Ef;rw[BC om,BG om]]at n;go_upto_region 4 with(go_at_call 104;refine n.o.mono ?_;rintro e k ⟨rfl,O⟩)
   have M3:Hid (Mem w k [some (w.heap.size,.int (x)),some (w.heap.size+1,.int (y)),some (w.heap.size+1+1,.rat (0)),some (d,.int (((Int.gcd x y:Nat):Int)))]):=Ja (r.o.below O);clear r;clear ce Uf Ue bu n O;have N:=Ja (show((Int.gcd x y:Nat):Int)≠0 by have:=I9 (x:=x) l.o;omega);have D:=Ja (show((Int.gcd x y:Nat):Int)=(if y<0 then -((Int.gcd x y:Nat):Int)else((Int.gcd x y:Nat):Int))by rw[BC (by have:=M.o;omega)]);obtain⟨dx,de,ct,cn,W,dh⟩:=M3.o.int (i:=0) rfl;obtain⟨Qg,T⟩:=W.cp;obtain⟨dt,co,du,dz,af,dw⟩:=M3.o.int (i:=1) rfl;obtain⟨Z,Qn⟩:=af.cp;obtain⟨cl,di,dp,dj,ae,ck⟩:=M3.o.int (i:=3) rfl;obtain⟨Qj,Qd⟩:=ae.cp;obtain⟨ei,fm,f9,ef,fi,fj,f7,fc,f,ed,eh,ew⟩:=M3.o.rat (i:=2) rfl;obtain⟨Ql,Qa,U,Qh⟩:=f.cq;obtain⟨Qv,Qt,Qs,Qq⟩:=f.fq;obtain⟨K,R,Q⟩:=Dm (λ(V:H) (h:Bl k V)=>GZ _ _ x (((Int.gcd x y:Nat):Int)) V (dh.below h) (ck.below h) N.o HX.o HG.o) (λ(V:H) (h:Bl k V)=>GZ _ _ y (((Int.gcd x y:Nat):Int)) V (dw.below h) (ck.below h) N.o HY.o HG.o) (λ(V:H) (u v:J) (o:Jl V u (x/((Int.gcd x y:Nat):Int))) (hv:Jl V v (y/((Int.gcd x y:Nat):Int)))=>L8 u v (Rat.divInt x y) V (by rw[Lm l.o,<-D.o];exact o) (by rw[Lo l.o,<-D.o];exact hv));have Ur:w.heap.size≠w.heap.size+1+1:=M3.o.ne 0 2 rfl rfl DS;have Uq:w.heap.size+1≠w.heap.size+1+1:=M3.o.ne 1 2 rfl rfl DS;have Un:d≠w.heap.size+1+1:=M3.o.ne 3 2 rfl rfl DS;have hq:Bl k k.drew:=(BB _ k).drew;go_region_held3 (λc=>c.cell? ⟨w.heap.size,0,none⟩=some (E dx)/\c.cell? ⟨w.heap.size,1,none⟩=some (C de ct cn)/\c.cell? ⟨w.heap.size+1,0,none⟩=some (E dt)/\c.cell? ⟨w.heap.size+1,1,none⟩=some (C co du dz)/\c.cell? ⟨d,0,none⟩=some (E cl)/\c.cell? ⟨d,1,none⟩=some (C di dp dj)) (first|(with_reducible exact⟨Qg,T,Z,Qn,Qj,Qd⟩)|(go_keep;done)|(refine⟨?_,?_,?_,?_,?_,?_⟩<;>((repeat rw[JH om]);first|assumption|(go_keep;done))))
    (first
     |(go_at_call 91;refine(K.o _ hq).mono ?_;clear K;rintro e w2 ⟨u2,rfl,q,ak⟩;have hq:=Bt hq ak;obtain⟨Qg,T⟩:=(W.below hq).cp;obtain⟨Z,Qn⟩:=(af.below hq).cp;obtain⟨Qj,Qd⟩:=(ae.below hq).cp;obtain⟨Ql,Qa,U,Qh⟩:=(f.below hq).cq;obtain⟨Qv,Qt,Qs,Qq⟩:=(f.below hq).fq)
     |(go_at_call 91;refine(R.o _ hq).mono ?_;clear R;rintro e w3 ⟨u3,rfl,aj,B⟩;have q:=q.below B;have hq:=Bt hq B;obtain⟨Qg,T⟩:=(W.below hq).cp;obtain⟨Z,Qn⟩:=(af.below hq).cp;obtain⟨Qj,Qd⟩:=(ae.below hq).cp;obtain⟨Ql,Qa,U,Qh⟩:=(f.below hq).cq;obtain⟨Qv,Qt,Qs,Qq⟩:=(f.below hq).fq)
     |(go_at_call 92;refine(Q.o _ _ _ q aj).mono ?_;clear Q;rintro e w4 ⟨u4,rfl,P,am⟩;obtain⟨ah,aq,ap,an,aw,bf,bc,ai,rfl⟩:=Jj.form P;have hq:=Bt hq am;obtain⟨Qg,T⟩:=(W.below hq).cp;obtain⟨Z,Qn⟩:=(af.below hq).cp;obtain⟨Qj,Qd⟩:=(ae.below hq).cp;obtain⟨Ql,Qa,U,Qh⟩:=(f.below hq).cq;obtain⟨Qv,Qt,Qs,Qq⟩:=(f.below hq).fq))
   all_goals go_wp2_with fail
   have Ug:=Bt M3.o.2.2 hq;exact BA (v:=L #[E ah,C aq ap an,E aw,C bf bc ai]) (by simp[results,Tryz.results118,go_sem,Ql,Qa,U,Qh]) rfl ⟨_,rfl,P.put4 (f.below hq) rfl rfl rfl rfl _ _ _ _,Jt Ug om _ _ _ _⟩
theorem L9(w:H)(s t i f:Bool)(a b a' j:Option Addr)(l c k d l' c' g e:Nat)(p q:Rat)(hp:Jj w (L #[E s,C a l c,E t,C b k d]) p)(hq:Jj w (L #[E i,C a' l' c',E f,C j g e]) q):
 Mem w (((w.alloc (F #[E s,C a l c,E t,C b k d] 65)).alloc (F #[E i,C a' l' c',E f,C j g e] 65)).alloc (F #[E false,C none 0 0,E false,C none 0 0] 65)) [some (w.heap.size,.rat p),some (w.heap.size+1,.rat q),some (w.heap.size+1+1,.rat 0)]:=by
 have h:=(((Mem.nil w).push (.rat p) hp).push (.rat q) (hq.below (Ba w _))).push (.rat 0) (Ek _);rw[A1,A1,A1]at h;exact h
theorem ZZ(w:H)(s t i f:Bool)(a b a' j:Option Addr)(l c k d l' c' g e:Nat)(p q:Rat)(hp:Jj w (L #[E s,C a l c,E t,C b k d]) p)(hq:Jj w (L #[E i,C a' l' c',E f,C j g e]) q):
 Mem w ((w.alloc (F #[E s,C a l c,E t,C b k d] 65)).alloc (F #[E i,C a' l' c',E f,C j g e] 65)) [some (w.heap.size,.rat p),some (w.heap.size+1,.rat q)]:=by
 have h:=((Mem.nil w).push (.rat p) hp).push (.rat q) (hq.below (Ba w _));rw[A1]at h;exact h
theorem MA(h:q.den=1):q=(q.num:Rat):=Rat.ext rfl h
theorem Zd(hp:p.den=1)(hq:q.den=1):(p+q).num=p.num+q.num/\(p+q).den=1:=by
 have h:p+q=((p.num+q.num:Int):Rat):=by rw[Rat.intCast_add,<-MA hp,<-MA hq]
 rw[h];exact⟨rfl,rfl⟩
theorem Ze(hp:p.den=1)(hq:q.den=1):(p*q).num=p.num*q.num/\(p*q).den=1:=by
 have h:p*q=((p.num*q.num:Int):Rat):=by rw[CE,<-MA hp,<-MA hq]
 rw[h];exact⟨rfl,rfl⟩
theorem Zf(p q:Rat)(hp:Sq p)(hq:Sq q)(a c e b d:Int)(g:((Int.gcd (p.den:Int) (q.den:Int):Nat):Int)=a)(r:(p.den:Int)/a=c)(s:(q.den:Int)/a=e)(m:p.num*e+q.num*c=b)(f:((Int.gcd b a:Nat):Int)=d):
 Da a/\a≠0/\Da c/\Da e/\Da b/\Da d/\d≠0/\Da (p.num*e)/\Da (q.num*c)/\(p+q).num=b/d/\((p+q).den:Int)=c*(q.den/d):=by
 have hl:=UU p q a c e b d g.symm r.symm s.symm m.symm f.symm;have l:a≠0:=by rw[<-g];have:=I9 (x:=(p.den:Int)) (y:=q.den) (by have:=q.den_nz;omega);omega
 have sc:Da a:=by rw[<-g];exact hp.den.gcd hq.den
 have o:Sm 1000000 c:=by rw[<-r];exact hp.sm.2.div
 have k:Sm 1000000 e:=by rw[<-s];exact hq.sm.2.div
 have i:=hp.sm.1.mul k;have n:=hq.sm.1.mul o;have j:Da b:=by rw[<-m];exact Da.of (i.add n) om
 refine⟨sc,l,Da.of o om,Da.of k om,j,by rw[<-f];exact j.gcd sc,?_,Da.of i om,Da.of n om,hl.1,hl.2⟩;rw[<-f];have:=I9 (x:=b) l;omega
theorem MB(va vb:J)(p q:Rat)(w:H)(ha:Jj w va p)(hb:Jj w vb q)(de:Sq p)(bm:Sq q):
 Calls I 87 #[va,vb] w λe Y=>∃u,e=.returned u/\Jj Y u (p+q)/\Bl w Y:=by
 obtain⟨s,a,l,c,t,b,k,d,rfl⟩:=Jj.form ha;obtain⟨s',a',l',c',t',b',k',d',rfl⟩:=Jj.form hb;have M0:=L9 w s t s' t' a b a' b' l c k d l' c' k' d' p q ha hb;obtain⟨W0,bj⟩:=ex (((w.alloc (F #[E s,C a l c,E t,C b k d] 65)).alloc (F #[E s',C a' l' c',E t',C b' k' d'] 65)).alloc (F #[E false,C none 0 0,E false,C none 0 0] 65));have Uk:=Ja bj;rw[bj]at M0;have M1:Hid (Mem w W0 [some (w.heap.size,.rat (p)),some (w.heap.size+1,.rat (q)),some (w.heap.size+1+1,.rat (0))]):=Ja M0;have Qw:Tryz.prog.follows .mixedOrders=true:=by kernel_rfl
 have HP:=Ja de;have HQ:=Ja bm;clear M0 ha hb bj de bm;go_enter Tryz.func87,Tryz.ntmps87
 go_upto_region 1 with fail
 rw[Uk.o];clear Uk;obtain⟨bb,cj⟩:=ex (decide (p.den=1/\q.den=1):Bool);have Qu:=Ja cj;clear cj;go_cut [15] (λc Y=>c=E bb/\Hid (Mem w Y [some (w.heap.size,.rat (p)),some (w.heap.size+1,.rat (q)),some (w.heap.size+1+1,.rat (0))]))
 case first=>
  obtain⟨s1,a1,l1,c1,t1,b1,k1,d1,n1,r1,i1,j1⟩:=M1.o.rat (i:=0) rfl;obtain⟨Uq,Us,Wc,Uv⟩:=n1.cq;obtain⟨s2,a2,l2,c2,t2,b2,k2,d2,n2,r2,i2,j2⟩:=M1.o.rat (i:=1) rfl;obtain⟨Ur,Up,Uu,Wb⟩:=n2.cq;have H1:=Ja (XK _ p W0 r1);have H2:=Ja (λ(V:H) (h:Bl W0 V)=>XK _ q V (r2.below h));by_cases Q:p.den=1
  . rw[BK Q]at H1;obtain⟨b2,aj⟩:=ex (decide (q.den=1));rw[aj]at H2;have Ua:=Ja (show b2=bb by rw[<-aj,<-Qu.o];exact DL.2 ⟨λh=>⟨Q,h⟩,λh=>h.2⟩);clear aj Q;go_wp2_with(first
     |(go_at_call 89;refine H1.o.mono ?_;clear H1;rintro e w1 ⟨rfl,am⟩;obtain⟨Uq,Us,Wc,Uv⟩:=(n1.below am).cq;obtain⟨Ur,Up,Uu,Wb⟩:=(n2.below am).cq)
     |(go_at_call 89;refine(H2.o _ am).mono ?_;clear H2;rintro e w2 ⟨rfl,aj⟩))
    go_meet
    case rel=>exact⟨by rw[Ua.o],Ja ((M1.o.below am).below aj)⟩
  . rw[BI Q]at H1;have Ua:=Ja (show bb=false by rw[<-Qu.o];exact BI (λh=>Q h.1));clear Q;go_wp2_with(go_at_call 89;refine H1.o.mono ?_;clear H1;rintro e w1 ⟨rfl,am⟩)
    go_meet
    case rel=>exact⟨by rw[Ua.o],Ja (M1.o.below am)⟩
 obtain⟨rfl,m⟩:=hcut;have M2:Hid (Mem w wc [some (w.heap.size,.rat (p)),some (w.heap.size+1,.rat (q)),some (w.heap.size+1+1,.rat (0))]):=m;clear M1 m;cases bb with
 |true=>
  have Qy:=Bf Qu.o;have HW:=Ja (Zd Qy.1 Qy.2);clear Qy Qu;obtain⟨s3,a3,l3,c3,t3,b3,k3,d3,n3,r3,i3,j3⟩:=M2.o.rat (i:=0) rfl;obtain⟨ib,gb⟩:=n3.cp;obtain⟨s4,a4,l4,c4,t4,b4,k4,d4,n4,r4,i4,j4⟩:=M2.o.rat (i:=1) rfl;obtain⟨ie,gu⟩:=n4.cp;obtain⟨s5,a5,l5,c5,t5,b5,k5,d5,n5,r5,i5,j5⟩:=M2.o.rat (i:=2) rfl;obtain⟨Uj,Uh,Ul,Ui⟩:=n5.cq;obtain⟨Uw,Uy,Ux,Uo⟩:=n5.fq;go_wp2_with(go_at_call 121;refine(Nv _ _ p.num q.num _ i3 i4 (by have:=HP.o.num.words;omega) (by have:=HQ.o.num.words;omega)).mono ?_;rintro e w1 ⟨u,rfl,hu,hq⟩;obtain⟨az,bf,bg,bc,rfl⟩:=Jl.form2 hu;obtain⟨Uj,Uh,Ul,Ui⟩:=(n5.below hq).cq;obtain⟨Uw,Uy,Ux,Uo⟩:=(n5.below hq).fq)
  have hr:Jj w1 (L #[E az,C bf bg bc,E false,C none 0 0]) (p+q):=Jj.mk (by rw[HW.o.1];exact hu) (by rw[Ll.2 HW.o.2];exact EP _);have Uc:=Bt M2.o.2.2 hq;exact BA (v:=L #[E az,C bf bg bc,E false,C none 0 0]) (by simp[results,Tryz.results87,go_sem,Uj,Uh,Ul,Ui]) rfl ⟨_,rfl,hr.put4 (n5.below hq) rfl rfl rfl rfl _ _ _ _,Jt Uc om _ _ _ _⟩
 |false=>
  clear Qu;obtain⟨X,cn⟩:=ex (((Int.gcd (p.den:Int) (q.den:Int):Nat):Int):Int);have Ue:=Ja cn;clear cn;obtain⟨Z,bt⟩:=ex ((p.den:Int)/X:Int);have Ug:=Ja bt;clear bt;obtain⟨rt,bu⟩:=ex ((q.den:Int)/X:Int);have Uf:=Ja bu;clear bu;obtain⟨ab,ce⟩:=ex (p.num*rt+q.num*Z:Int);have Un:=Ja ce;clear ce;obtain⟨ag,bk⟩:=ex (((Int.gcd ab X:Nat):Int):Int);have Ud:=Ja bk;clear bk;obtain⟨S1,S2,S3,S4,S5,S6,S7,S8,S9,cl,dh⟩:=Zf p q HP.o HQ.o X Z rt ab ag Ue.o Ug.o Uf.o Un.o Ud.o;obtain⟨T1,T2,T3,T4,T5,T6,T7,T8⟩:=Gy S1 S2 S3 S4 S5 S6 S7 S8;obtain⟨T9,Uz,Ut⟩:=Dm S9 cl dh;clear S1 S2 S3 S4 S5 S6 S7 S8 S9 cl dh;go_upto_region 3 with fail
  refine Jk Qw [[],[0],[],[2,1],[1,3,3],[],[5,4,4,0,1,2,3,4,5]] (by kernel_rfl) DS
   (λD af V=>∃(ta tb tc td te tz:J) (x5:Option (Nat × Dat)),af={ tmps:=#[L #[E s,C a l c,E t,C b k d],L #[E s',C a' l' c',E t',C b' k' d'],G (some ⟨w.heap.size,0,none⟩),G (some ⟨w.heap.size+1,0,none⟩),G (some ⟨w.heap.size+1+1,0,none⟩),tz,undef,undef,undef,undef,u10,u11,u12,u13,u14,E false,u16,u17,u18,u19,u20,u21,ta,tb,tc,td,te,u27,u28,u29,u30,u31,u32,u33,u34,u35,u36,u37,u38,u39,u40,u41,u42,u43,u44,u45,u46,u47,u48,u49,u50,u51,u52,u53,u54,u55,u56],defers:=[] }/\Hid ((D 0=true->Has V ta (.rat (p)))/\(D 1=true->Has V tb (.int ((p.den:Int))))/\(D 2=true->Has V tc (.rat (q)))/\(D 3=true->Has V td (.int ((q.den:Int))))/\(D 4=true->Has V te (.int (X)))/\((D 5=false->x5=none)/\(D 5=true->D 6=false->∃B:Nat,tz=G (some ⟨B,0,none⟩)/\x5=some (B,.int 0))/\(D 6=true->∃B:Nat,tz=G (some ⟨B,0,none⟩)/\x5=some (B,.int (X)))))/\Hid (Mem w V [some (w.heap.size,.rat (p)),some (w.heap.size+1,.rat (q)),some (w.heap.size+1+1,.rat (0)),x5]))
   ⟨_,_,_,_,_,_,none,rfl,Ja ⟨DQ,DQ,DQ,DQ,DQ,DQ⟩,Ja ((M2.o).none).drew⟩ ?step6 ?fin6
  case step6=>
   rintro D af V i ds aw hi o ad ⟨ta,tb,tc,td,te,tz,x5,rfl,g,m⟩;have Um:i<7:=(Ac.1 hi).1;obtain rfl|rfl|rfl|rfl|rfl|rfl|rfl:=IL i om
   all_goals
    simp only[Af,Ae,Ag]at hi;subst hi
   . clear o;obtain⟨s,a,l,c,t,b,k,d,n,r,i,j⟩:=m.o.rat (i:=0) rfl;obtain⟨e0,e1,e2,e3⟩:=n.cq;refine Za ?_;exact⟨_,_,_,_,_,_,_,rfl,(Dh g λ_=>r),Ja (m.o)⟩
   . have P:=(g.o.1 (o 0 DQ));have S:=Ja (GA _ p V P);clear o P;refine Jb rfl rfl λK hK=>?_;go_simp;go_wp2_with(go_at_call 86;refine S.o.mono ?_;rintro e w5 ⟨v5,rfl,U,f⟩)
     obtain⟨x,_,z,O,A,N⟩:=g.o;exact⟨_,_,_,_,_,_,_,rfl,Ja ⟨λh=>(x h).below f,λ_=>U,λh=>(z h).below f,λh=>(O h).below f,λh=>(A h).below f,N⟩,Ja (m.o.below f)⟩
   . clear o;obtain⟨s,a,l,c,t,b,k,d,n,r,i,j⟩:=m.o.rat (i:=1) rfl;obtain⟨e0,e1,e2,e3⟩:=n.cq;refine Za ?_;exact⟨_,_,_,_,_,_,_,rfl,(Dg g λ_=>r),Ja (m.o)⟩
   . have P:=(g.o.2.2.1 (o 2 DQ));have S:=Ja (GA _ q V P);clear o P;refine Jb rfl rfl λK hK=>?_;go_simp;go_wp2_with(go_at_call 86;refine S.o.mono ?_;rintro e w5 ⟨v5,rfl,U,f⟩)
     obtain⟨x,M,z,_,A,N⟩:=g.o;exact⟨_,_,_,_,_,_,_,rfl,Ja ⟨λh=>(x h).below f,λh=>(M h).below f,λh=>(z h).below f,λ_=>U,λh=>(A h).below f,N⟩,Ja (m.o.below f)⟩
   . have P:=(g.o.2.1 (o 1 DQ));have Q:=(g.o.2.2.2.1 (o 3 DQ));have S:=Ja ((by have h:=Io _ _ (p.den:Int) (q.den:Int) V P Q (by have:=HP.o.den.words;omega) (by have:=HQ.o.den.words;omega);rw[Ue.o]at h;exact h));clear o P Q;refine Jb rfl rfl λK hK=>?_;go_simp;go_wp2_with(go_at_call 90;refine S.o.mono ?_;rintro e w5 ⟨v5,rfl,U,f⟩)
     obtain⟨x,M,z,O,_,N⟩:=g.o;exact⟨_,_,_,_,_,_,_,rfl,Ja ⟨λh=>(x h).below f,λh=>(M h).below f,λh=>(z h).below f,λh=>(O h).below f,λ_=>U,N⟩,Ja (m.o.below f)⟩
   . have hf:D 6=false:=DU aw ad;obtain rfl:=Ds g ad;clear o;refine Za ?_;obtain⟨x,M,z,O,A,_⟩:=g.o;exact⟨_,_,_,_,_,_,_,rfl,Ja ⟨λh=>(x h).alloc _,λh=>(M h).alloc _,λh=>(z h).alloc _,λh=>(O h).alloc _,λh=>(A h).alloc _,⟨λh=>by simp at h,λ_ _=>⟨_,rfl,rfl⟩,λh=>by simp[hf]at h⟩⟩,Ja (m.o.fill (i:=3) rfl (.int 0) (EP _))⟩
   . obtain⟨B,rfl,rfl⟩:=Dy g (o 5 DQ) ad;have Qa:=o 5 DQ;have hv:=(g.o.2.2.2.2.1 (o 4 DQ));obtain⟨s1,a1,l1,c1,rfl⟩:=Jl.form2 (show Jl V _ _ from hv);obtain⟨s,a,l,c,n,i⟩:=m.o.int (i:=3) rfl;have e0:=n.c0;have f0:=n.f0;have e1:=n.c1;have f1:=n.f1;clear o;refine Za ?_;obtain⟨x,M,z,O,A,_⟩:=g.o;exact⟨_,_,_,_,_,_,_,rfl,Ja ⟨λh=>(x h).set2 n rfl rfl _ _,λh=>(M h).set2 n rfl rfl _ _,λh=>(z h).set2 n rfl rfl _ _,λh=>(O h).set2 n rfl rfl _ _,λh=>(A h).set2 n rfl rfl _ _,⟨λh=>by simp[Qa]at h,λ_ h=>by simp at h,λ_=>⟨B,rfl,rfl⟩⟩⟩,Ja (m.o.putInt (i:=3) rfl hv)⟩
  rintro D af V7 ah ⟨ta,tb,tc,td,te,tz,x5,rfl,g,m⟩;obtain⟨B8,rfl,rfl⟩:=g.o.2.2.2.2.2.2.2 (ah 6 DS);clear g ah M2;have M3:Hid (Mem w V7 [some (w.heap.size,.rat (p)),some (w.heap.size+1,.rat (q)),some (w.heap.size+1+1,.rat (0)),some (B8,.int (X))]):=m;clear m;go_upto_region 4 with fail
  refine Jk Qw [[],[0],[],[1,2,1],[],[4,3],[],[5,6,5],[],[],[8,3,7,0,1,2,3,8,9],[9,7,10,0,1,2,3,4,5,6,7,8,9,10]] (by kernel_rfl) DS
   (λD af V=>∃(tf tg ti tj tk tl tm tn tA tB:J) (x8 x9:Option (Nat × Dat)),af={ tmps:=#[L #[E s,C a l c,E t,C b k d],L #[E s',C a' l' c',E t',C b' k' d'],G (some ⟨w.heap.size,0,none⟩),G (some ⟨w.heap.size+1,0,none⟩),G (some ⟨w.heap.size+1+1,0,none⟩),G (some ⟨B8,0,none⟩),tA,tB,undef,undef,u10,u11,u12,u13,u14,E false,u16,u17,u18,u19,u20,u21,ta,tb,tc,td,te,tf,tg,ti,tj,tk,tl,tm,tn,u35,u36,u37,u38,u39,u40,u41,u42,u43,u44,u45,u46,u47,u48,u49,u50,u51,u52,u53,u54,u55,u56],defers:=[] }/\Hid ((D 0=true->Has V tf (.rat (p)))/\(D 1=true->Has V tg (.int ((p.den:Int))))/\(D 2=true->Has V ti (.int (X)))/\(D 3=true->Has V tj (.int (Z)))/\(D 4=true->Has V tk (.rat (q)))/\(D 5=true->Has V tl (.int ((q.den:Int))))/\(D 6=true->Has V tm (.int (X)))/\(D 7=true->Has V tn (.int (rt)))/\((D 8=false->x8=none)/\(D 8=true->D 10=false->∃B:Nat,tA=G (some ⟨B,0,none⟩)/\x8=some (B,.int 0))/\(D 10=true->∃B:Nat,tA=G (some ⟨B,0,none⟩)/\x8=some (B,.int (Z))))/\((D 9=false->x9=none)/\(D 9=true->D 11=false->∃B:Nat,tB=G (some ⟨B,0,none⟩)/\x9=some (B,.int 0))/\(D 11=true->∃B:Nat,tB=G (some ⟨B,0,none⟩)/\x9=some (B,.int (rt)))))/\Hid (Mem w V [some (w.heap.size,.rat (p)),some (w.heap.size+1,.rat (q)),some (w.heap.size+1+1,.rat (0)),some (B8,.int (X)),x8,x9]))
   ⟨_,_,_,_,_,_,_,_,_,_,none,none,rfl,Ja ⟨DQ,DQ,DQ,DQ,DQ,DQ,DQ,DQ,DQ,DQ⟩,Ja (((M3.o).none).none).drew⟩ ?step9 ?fin9
  case step9=>
   rintro D af V i ds aw hi o ad ⟨tf,tg,ti,tj,tk,tl,tm,tn,tA,tB,x8,x9,rfl,g,m⟩;have Um:i<12:=(Ac.1 hi).1;obtain rfl|rfl|rfl|rfl|rfl|rfl|rfl|rfl|rfl|rfl|rfl|rfl:=IP i om
   all_goals
    simp only[Af,Ae,Ag]at hi;subst hi
   . clear o;obtain⟨s,a,l,c,t,b,k,d,n,r,i,j⟩:=m.o.rat (i:=0) rfl;obtain⟨e0,e1,e2,e3⟩:=n.cq;refine Za ?_;exact⟨_,_,_,_,_,_,_,_,_,_,_,_,rfl,(Dh g λ_=>r),Ja (m.o)⟩
   . have P:=(g.o.1 (o 0 DQ));have S:=Ja (GA _ p V P);clear o P;refine Jb rfl rfl λK hK=>?_;go_simp;go_wp2_with(go_at_call 86;refine S.o.mono ?_;rintro e w5 ⟨v5,rfl,U,f⟩)
     obtain⟨x,_,z,O,A,N,R,T,W⟩:=g.o;exact⟨_,_,_,_,_,_,_,_,_,_,_,_,rfl,Ja ⟨λh=>(x h).below f,λ_=>U,λh=>(z h).below f,λh=>(O h).below f,λh=>(A h).below f,λh=>(N h).below f,λh=>(R h).below f,λh=>(T h).below f,W⟩,Ja (m.o.below f)⟩
   . clear o;obtain⟨s,a,l,c,n,i⟩:=m.o.int (i:=3) rfl;obtain⟨e0,e1⟩:=n.cp;refine Za ?_;exact⟨_,_,_,_,_,_,_,_,_,_,_,_,rfl,(Dg g λ_=>i),Ja (m.o)⟩
   . have P:=(g.o.2.1 (o 1 DQ));have Q:=(g.o.2.2.1 (o 2 DQ));have S:=Ja ((by have h:=GZ _ _ (p.den:Int) X V P Q T2.o HP.o.den T1.o;rw[Ug.o]at h;exact h));clear o P Q;refine Jb rfl rfl λK hK=>?_;go_simp;go_wp2_with(go_at_call 91;refine S.o.mono ?_;rintro e w5 ⟨v5,rfl,U,f⟩)
     obtain⟨x,M,z,_,A,N,R,T,W⟩:=g.o;exact⟨_,_,_,_,_,_,_,_,_,_,_,_,rfl,Ja ⟨λh=>(x h).below f,λh=>(M h).below f,λh=>(z h).below f,λ_=>U,λh=>(A h).below f,λh=>(N h).below f,λh=>(R h).below f,λh=>(T h).below f,W⟩,Ja (m.o.below f)⟩
   . clear o;obtain⟨s,a,l,c,t,b,k,d,n,r,i,j⟩:=m.o.rat (i:=1) rfl;obtain⟨e0,e1,e2,e3⟩:=n.cq;refine Za ?_;exact⟨_,_,_,_,_,_,_,_,_,_,_,_,rfl,(Dx g λ_=>r),Ja (m.o)⟩
   . have P:=(g.o.2.2.2.2.1 (o 4 DQ));have S:=Ja (GA _ q V P);clear o P;refine Jb rfl rfl λK hK=>?_;go_simp;go_wp2_with(go_at_call 86;refine S.o.mono ?_;rintro e w5 ⟨v5,rfl,U,f⟩)
     obtain⟨x,M,z,O,A,_,R,T,W⟩:=g.o;exact⟨_,_,_,_,_,_,_,_,_,_,_,_,rfl,Ja ⟨λh=>(x h).below f,λh=>(M h).below f,λh=>(z h).below f,λh=>(O h).below f,λh=>(A h).below f,λ_=>U,λh=>(R h).below f,λh=>(T h).below f,W⟩,Ja (m.o.below f)⟩
   . clear o;obtain⟨s,a,l,c,n,i⟩:=m.o.int (i:=3) rfl;obtain⟨e0,e1⟩:=n.cp;refine Za ?_;exact⟨_,_,_,_,_,_,_,_,_,_,_,_,rfl,(Dw g λ_=>i),Ja (m.o)⟩
   . have P:=((Ds g) (o 5 DQ));have Q:=((Dy g) (o 6 DQ));have S:=Ja ((by have h:=GZ _ _ (q.den:Int) X V P Q T2.o HQ.o.den T1.o;rw[Uf.o]at h;exact h));clear o P Q;refine Jb rfl rfl λK hK=>?_;go_simp;go_wp2_with(go_at_call 91;refine S.o.mono ?_;rintro e w5 ⟨v5,rfl,U,f⟩)
     obtain⟨x,M,z,O,A,N,R,_,W⟩:=g.o;exact⟨_,_,_,_,_,_,_,_,_,_,_,_,rfl,Ja ⟨λh=>(x h).below f,λh=>(M h).below f,λh=>(z h).below f,λh=>(O h).below f,λh=>(A h).below f,λh=>(N h).below f,λh=>(R h).below f,λ_=>U,W⟩,Ja (m.o.below f)⟩
   . have hf:D 10=false:=DU aw ad;obtain rfl:=g.o.2.2.2.2.2.2.2.2.1.1 ad;clear o;refine Za ?_;obtain⟨x,M,z,O,A,N,R,T,_,G9⟩:=g.o;exact⟨_,_,_,_,_,_,_,_,_,_,_,_,rfl,Ja ⟨λh=>(x h).alloc _,λh=>(M h).alloc _,λh=>(z h).alloc _,λh=>(O h).alloc _,λh=>(A h).alloc _,λh=>(N h).alloc _,λh=>(R h).alloc _,λh=>(T h).alloc _,⟨λh=>by simp at h,λ_ _=>⟨_,rfl,rfl⟩,λh=>by simp[hf]at h⟩,G9⟩,Ja (m.o.fill (i:=4) rfl (.int 0) (EP _))⟩
   . have hf:D 11=false:=DU aw ad;obtain rfl:=EU g ad;clear o;refine Za ?_;obtain⟨x,M,z,O,A,N,R,T,W,_⟩:=g.o;exact⟨_,_,_,_,_,_,_,_,_,_,_,_,rfl,Ja ⟨λh=>(x h).alloc _,λh=>(M h).alloc _,λh=>(z h).alloc _,λh=>(O h).alloc _,λh=>(A h).alloc _,λh=>(N h).alloc _,λh=>(R h).alloc _,λh=>(T h).alloc _,W,⟨λh=>by simp at h,λ_ _=>⟨_,rfl,rfl⟩,λh=>by simp[hf]at h⟩⟩,Ja (m.o.fill (i:=5) rfl (.int 0) (EP _))⟩
   . obtain⟨B,rfl,rfl⟩:=g.o.2.2.2.2.2.2.2.2.1.2.1 (o 8 DQ) ad;have Qa:=o 8 DQ;have hv:=(g.o.2.2.2.1 (o 3 DQ));obtain⟨s1,a1,l1,c1,rfl⟩:=Jl.form2 (show Jl V _ _ from hv);obtain⟨s,a,l,c,n,i⟩:=m.o.int (i:=4) rfl;have e0:=n.c0;have f0:=n.f0;have e1:=n.c1;have f1:=n.f1;clear o;refine Za ?_;obtain⟨x,M,z,O,A,N,R,T,_,G9⟩:=g.o;exact⟨_,_,_,_,_,_,_,_,_,_,_,_,rfl,Ja ⟨λh=>(x h).set2 n rfl rfl _ _,λh=>(M h).set2 n rfl rfl _ _,λh=>(z h).set2 n rfl rfl _ _,λh=>(O h).set2 n rfl rfl _ _,λh=>(A h).set2 n rfl rfl _ _,λh=>(N h).set2 n rfl rfl _ _,λh=>(R h).set2 n rfl rfl _ _,λh=>(T h).set2 n rfl rfl _ _,⟨λh=>by simp[Qa]at h,λ_ h=>by simp at h,λ_=>⟨B,rfl,rfl⟩⟩,G9⟩,Ja (m.o.putInt (i:=4) rfl hv)⟩
   . obtain⟨B,rfl,rfl⟩:=EJ g (o 9 DQ) ad;have Qa:=o 9 DQ;have hv:=((D9 g) (o 7 DQ));obtain⟨s1,a1,l1,c1,rfl⟩:=Jl.form2 (show Jl V _ _ from hv);obtain⟨s,a,l,c,n,i⟩:=m.o.int (i:=5) rfl;have e0:=n.c0;have f0:=n.f0;have e1:=n.c1;have f1:=n.f1;clear o;refine Za ?_;obtain⟨x,M,z,O,A,N,R,T,W,_⟩:=g.o;exact⟨_,_,_,_,_,_,_,_,_,_,_,_,rfl,Ja ⟨λh=>(x h).set2 n rfl rfl _ _,λh=>(M h).set2 n rfl rfl _ _,λh=>(z h).set2 n rfl rfl _ _,λh=>(O h).set2 n rfl rfl _ _,λh=>(A h).set2 n rfl rfl _ _,λh=>(N h).set2 n rfl rfl _ _,λh=>(R h).set2 n rfl rfl _ _,λh=>(T h).set2 n rfl rfl _ _,W,⟨λh=>by simp[Qa]at h,λ_ h=>by simp at h,λ_=>⟨B,rfl,rfl⟩⟩⟩,Ja (m.o.putInt (i:=5) rfl hv)⟩
  rintro D af fi ah ⟨tf,tg,ti,tj,tk,tl,tm,tn,tA,tB,x8,x9,rfl,g,m⟩;obtain⟨B11,rfl,rfl⟩:=g.o.2.2.2.2.2.2.2.2.1.2.2 (ah 10 DS);obtain⟨B12,rfl,rfl⟩:=g.o.2.2.2.2.2.2.2.2.2.2.2 (ah 11 DS);clear g ah M3;have M4:Hid (Mem w fi [some (w.heap.size,.rat (p)),some (w.heap.size+1,.rat (q)),some (w.heap.size+1+1,.rat (0)),some (B8,.int (X)),some (B11,.int (Z)),some (B12,.int (rt))]):=m;clear m;go_upto_region 5 with fail
  refine Jk Qw [[],[0],[],[1,2],[],[4],[],[5,6,3],[3,7,7],[],[9,8,8,0,1,2,3,4,5,6,7,8,9]] (by kernel_rfl) DS
   (λD af V=>∃(tp tq tr ts tt tu tv tw tx tC:J) (x9:Option (Nat × Dat)),af={ tmps:=#[L #[E s,C a l c,E t,C b k d],L #[E s',C a' l' c',E t',C b' k' d'],G (some ⟨w.heap.size,0,none⟩),G (some ⟨w.heap.size+1,0,none⟩),G (some ⟨w.heap.size+1+1,0,none⟩),G (some ⟨B8,0,none⟩),G (some ⟨B11,0,none⟩),G (some ⟨B12,0,none⟩),tC,undef,u10,u11,u12,u13,u14,E false,u16,u17,u18,u19,u20,u21,ta,tb,tc,td,te,tf,tg,ti,tj,tk,tl,tm,tn,tp,tq,tr,ts,tt,tu,tv,tw,tx,u44,u45,u46,u47,u48,u49,u50,u51,u52,u53,u54,u55,u56],defers:=[] }/\Hid ((D 0=true->tp=G (some ⟨w.heap.size,0,none⟩))/\(D 1=true->Has V tq (.int (Rat.num (p))))/\(D 2=true->Has V tr (.int (rt)))/\(D 3=true->Has V ts (.int (p.num*rt)))/\(D 4=true->tt=G (some ⟨w.heap.size+1,0,none⟩))/\(D 5=true->Has V tu (.int (Rat.num (q))))/\(D 6=true->Has V tv (.int (Z)))/\(D 7=true->Has V tw (.int (q.num*Z)))/\(D 8=true->Has V tx (.int (ab)))/\((D 9=false->x9=none)/\(D 9=true->D 10=false->∃B:Nat,tC=G (some ⟨B,0,none⟩)/\x9=some (B,.int 0))/\(D 10=true->∃B:Nat,tC=G (some ⟨B,0,none⟩)/\x9=some (B,.int (ab)))))/\Hid (Mem w V [some (w.heap.size,.rat (p)),some (w.heap.size+1,.rat (q)),some (w.heap.size+1+1,.rat (0)),some (B8,.int (X)),some (B11,.int (Z)),some (B12,.int (rt)),x9]))
   ⟨_,_,_,_,_,_,_,_,_,_,none,rfl,Ja ⟨DQ,DQ,DQ,DQ,DQ,DQ,DQ,DQ,DQ,DQ⟩,Ja ((M4.o).none).drew⟩ ?step13 ?fin13
  case step13=>
   rintro D af V i ds aw hi o ad ⟨tp,tq,tr,ts,tt,tu,tv,tw,tx,tC,x9,rfl,g,m⟩;have Um:i<11:=(Ac.1 hi).1;obtain rfl|rfl|rfl|rfl|rfl|rfl|rfl|rfl|rfl|rfl|rfl:=Ex i om
   all_goals
    simp only[Af,Ae,Ag]at hi;subst hi
   . clear o;refine Za ?_;exact⟨_,_,_,_,_,_,_,_,_,_,_,rfl,(Dh g),Ja (m.o)⟩
   . obtain rfl:=(g.o.1 (o 0 DQ));clear o;obtain⟨s,a,l,c,t,b,k,d,n,r,i,j⟩:=m.o.rat (i:=0) rfl;obtain⟨e0,e1,e2,e3⟩:=n.cq;refine Za ?_;exact⟨_,_,_,_,_,_,_,_,_,_,_,rfl,(Dp (Dh g) λ_=>i),Ja (m.o)⟩
   . clear o;obtain⟨s,a,l,c,n,i⟩:=m.o.int (i:=5) rfl;obtain⟨e0,e1⟩:=n.cp;refine Za ?_;exact⟨_,_,_,_,_,_,_,_,_,_,_,rfl,(Dg g λ_=>i),Ja (m.o)⟩
   . have P:=(g.o.2.1 (o 1 DQ));have Q:=(g.o.2.2.1 (o 2 DQ));have S:=Ja (Xi _ _ p.num rt V P Q (by have Q:=HP.o.num.words;have h2:=T4.o.words;omega));clear o P Q;refine Jb rfl rfl λK hK=>?_;go_simp;go_wp2_with(go_at_call 85;refine S.o.mono ?_;rintro e w5 ⟨v5,rfl,U,f⟩)
     obtain⟨x,M,z,_,A,N,R,T,W,G9⟩:=g.o;exact⟨_,_,_,_,_,_,_,_,_,_,_,rfl,Ja ⟨x,λh=>(M h).below f,λh=>(z h).below f,λ_=>U,A,λh=>(N h).below f,λh=>(R h).below f,λh=>(T h).below f,λh=>(W h).below f,G9⟩,Ja (m.o.below f)⟩
   . clear o;refine Za ?_;exact⟨_,_,_,_,_,_,_,_,_,_,_,rfl,(Dx g),Ja (m.o)⟩
   . obtain rfl:=(g.o.2.2.2.2.1 (o 4 DQ));clear o;obtain⟨s,a,l,c,t,b,k,d,n,r,i,j⟩:=m.o.rat (i:=1) rfl;obtain⟨e0,e1,e2,e3⟩:=n.cq;refine Za ?_;exact⟨_,_,_,_,_,_,_,_,_,_,_,rfl,(D0 (Dx g) λ_=>i),Ja (m.o)⟩
   . clear o;obtain⟨s,a,l,c,n,i⟩:=m.o.int (i:=4) rfl;obtain⟨e0,e1⟩:=n.cp;refine Za ?_;exact⟨_,_,_,_,_,_,_,_,_,_,_,rfl,(Dw g λ_=>i),Ja (m.o)⟩
   . have P:=((Ds g) (o 5 DQ));have Q:=((Dy g) (o 6 DQ));have S:=Ja (Xi _ _ q.num Z V P Q (by have Q:=HQ.o.num.words;have h2:=T3.o.words;omega));clear o P Q;refine Jb rfl rfl λK hK=>?_;go_simp;go_wp2_with(go_at_call 85;refine S.o.mono ?_;rintro e w5 ⟨v5,rfl,U,f⟩)
     obtain⟨x,M,z,O,A,N,R,_,W,G9⟩:=g.o;exact⟨_,_,_,_,_,_,_,_,_,_,_,rfl,Ja ⟨x,λh=>(M h).below f,λh=>(z h).below f,λh=>(O h).below f,A,λh=>(N h).below f,λh=>(R h).below f,λ_=>U,λh=>(W h).below f,G9⟩,Ja (m.o.below f)⟩
   . have P:=(g.o.2.2.2.1 (o 3 DQ));have Q:=((D9 g) (o 7 DQ));have S:=Ja ((by have h:=Nv _ _ (p.num*rt) (q.num*Z) V P Q (by have:=T8.o.words;omega) (by have:=T9.o.words;omega);rw[Un.o]at h;exact h));clear o P Q;refine Jb rfl rfl λK hK=>?_;go_simp;go_wp2_with(go_at_call 121;refine S.o.mono ?_;rintro e w5 ⟨v5,rfl,U,f⟩)
     obtain⟨x,M,z,O,A,N,R,T,_,G9⟩:=g.o;exact⟨_,_,_,_,_,_,_,_,_,_,_,rfl,Ja ⟨x,λh=>(M h).below f,λh=>(z h).below f,λh=>(O h).below f,A,λh=>(N h).below f,λh=>(R h).below f,λh=>(T h).below f,λ_=>U,G9⟩,Ja (m.o.below f)⟩
   . have hf:D 10=false:=DU aw ad;obtain rfl:=EU g ad;clear o;refine Za ?_;obtain⟨x,M,z,O,A,N,R,T,W,_⟩:=g.o;exact⟨_,_,_,_,_,_,_,_,_,_,_,rfl,Ja ⟨x,λh=>(M h).alloc _,λh=>(z h).alloc _,λh=>(O h).alloc _,A,λh=>(N h).alloc _,λh=>(R h).alloc _,λh=>(T h).alloc _,λh=>(W h).alloc _,⟨λh=>by simp at h,λ_ _=>⟨_,rfl,rfl⟩,λh=>by simp[hf]at h⟩⟩,Ja (m.o.fill (i:=6) rfl (.int 0) (EP _))⟩
   . obtain⟨B,rfl,rfl⟩:=EJ g (o 9 DQ) ad;have Qa:=o 9 DQ;have hv:=((EF g) (o 8 DQ));obtain⟨s1,a1,l1,c1,rfl⟩:=Jl.form2 (show Jl V _ _ from hv);obtain⟨s,a,l,c,n,i⟩:=m.o.int (i:=6) rfl;have e0:=n.c0;have f0:=n.f0;have e1:=n.c1;have f1:=n.f1;clear o;refine Za ?_;obtain⟨x,M,z,O,A,N,R,T,W,_⟩:=g.o;exact⟨_,_,_,_,_,_,_,_,_,_,_,rfl,Ja ⟨x,λh=>(M h).set2 n rfl rfl _ _,λh=>(z h).set2 n rfl rfl _ _,λh=>(O h).set2 n rfl rfl _ _,A,λh=>(N h).set2 n rfl rfl _ _,λh=>(R h).set2 n rfl rfl _ _,λh=>(T h).set2 n rfl rfl _ _,λh=>(W h).set2 n rfl rfl _ _,⟨λh=>by simp[Qa]at h,λ_ h=>by simp at h,λ_=>⟨B,rfl,rfl⟩⟩⟩,Ja (m.o.putInt (i:=6) rfl hv)⟩
  rintro D af dj ah ⟨tp,tq,tr,ts,tt,tu,tv,tw,tx,tC,x9,rfl,g,m⟩;obtain⟨ak,rfl,rfl⟩:=g.o.2.2.2.2.2.2.2.2.2.2.2 (ah 10 DS);clear g ah M4;have M5:Hid (Mem w dj [some (w.heap.size,.rat (p)),some (w.heap.size+1,.rat (q)),some (w.heap.size+1+1,.rat (0)),some (B8,.int (X)),some (B11,.int (Z)),some (B12,.int (rt)),some (ak,.int (ab))]):=m;clear m;go_upto_region 6 with fail
  obtain⟨gl,gg,fy,gz,di,ck⟩:=M5.o.int (i:=6) rfl;obtain⟨Qx,Qz⟩:=di.cp;obtain⟨io,ij,ii,ia,co,ct⟩:=M5.o.int (i:=3) rfl;obtain⟨Qv,Ub⟩:=co.cp;have S:=Ja (Io _ _ ab X dj ck ct (by have:=T5.o.words;omega) (by have:=T1.o.words;omega));rw[Ud.o]at S;go_upto_region 7 with(go_at_call 90;refine S.o.mono ?_;clear S;rintro e w1 ⟨u,rfl,hu,hb⟩;obtain⟨az,bf,bg,bc,rfl⟩:=Jl.form2 hu)
  obtain⟨ai,hV⟩:=ex (w1.alloc (F #[E az,C bf bg bc] 63));obtain⟨bh,bi⟩:=ex (w1.heap.size);have m:Mem w (w1.alloc (F #[E az,C bf bg bc] 63)) [some (w.heap.size,.rat (p)),some (w.heap.size+1,.rat (q)),some (w.heap.size+1+1,.rat (0)),some (B8,.int (X)),some (B11,.int (Z)),some (B12,.int (rt)),some (ak,.int (ab)),some (w1.heap.size,.int (ag))]:=Mem.push (M5.o.below hb) (.int (ag)) hu;rw[hV,bi]at m;rw[hV];rw[bi];have M6:Hid (Mem w ai [some (w.heap.size,.rat (p)),some (w.heap.size+1,.rat (q)),some (w.heap.size+1+1,.rat (0)),some (B8,.int (X)),some (B11,.int (Z)),some (B12,.int (rt)),some (ak,.int (ab)),some (bh,.int (ag))]):=Ja (m);clear M5;clear m hV bi;clear di Qx Qz ck co Qv Ub ct hu hb;obtain⟨f6,dt,fv,fu,ay,ew⟩:=M6.o.int (i:=6) rfl;obtain⟨Qb,Qo⟩:=ay.cp;obtain⟨fc,f9,fe,fl,an,cg⟩:=M6.o.int (i:=7) rfl;obtain⟨Qk,Qe⟩:=an.cp;obtain⟨fk,fh,fx,ei,ap,fg⟩:=M6.o.int (i:=4) rfl;obtain⟨Qc,Qi⟩:=ap.cp;obtain⟨f7,eh,fs,f8,ef,du,dw,fr,aq,dx,ic,gh⟩:=M6.o.rat (i:=1) rfl;obtain⟨Qd,Qg,Qj,Qm⟩:=aq.cq;obtain⟨gi,gy,gk,gn,gw,ik,gr,gp,ae,ga,ig,go⟩:=M6.o.rat (i:=2) rfl;obtain⟨Qh,Qn,Qf,Ql⟩:=ae.cq;obtain⟨Qr,Qq,Qp,Qs⟩:=ae.fq;obtain⟨H1,H2,H3,H4,H5⟩:=Gi (λ(V:H) (h:Bl ai V)=>GZ _ _ ab ag V (ew.below h) (cg.below h) T7.o T5.o T6.o) (λ(V:H) (h:Bl ai V)=>GA _ q V (dx.below h)) (λ(V:H) (u:J) (h:Bl ai V) (hu:Jl V u (q.den:Int))=>GZ u _ (q.den:Int) ag V hu (cg.below h) T7.o HQ.o.den T6.o) (λ(V:H) (u:J) (h:Bl ai V) (hu:Jl V u ((q.den:Int)/ag))=>Xi _ u Z ((q.den:Int)/ag) V (fg.below h) hu (by have Q:=T3.o.words;have h2:=(Da.div (y:=ag) HQ.o.den).words;omega)) (λ(V:H) (u v:J) (hu:Jl V u (ab/ag)) (hv:Jl V v (Z*((q.den:Int)/ag)))=>L8 u v (p+q) V (by rw[Uz.o];exact hu) (by rw[Ut.o];exact hv));have gj:ak≠w.heap.size+1+1:=M6.o.ne 6 2 rfl rfl DS;have gv:bh≠w.heap.size+1+1:=M6.o.ne 7 2 rfl rfl DS;have im:B11≠w.heap.size+1+1:=M6.o.ne 4 2 rfl rfl DS;have il:w.heap.size+1≠w.heap.size+1+1:=M6.o.ne 1 2 rfl rfl DS;have hq:Bl ai ai.drew:=(BB _ ai).drew;go_region_held3 (λY=>Y.cell? ⟨ak,0,none⟩=some (E f6)/\Y.cell? ⟨ak,1,none⟩=some (C dt fv fu)/\Y.cell? ⟨bh,0,none⟩=some (E fc)/\Y.cell? ⟨bh,1,none⟩=some (C f9 fe fl)/\Y.cell? ⟨B11,0,none⟩=some (E fk)/\Y.cell? ⟨B11,1,none⟩=some (C fh fx ei)/\Y.cell? ⟨w.heap.size+1,0,none⟩=some (E f7)/\Y.cell? ⟨w.heap.size+1,1,none⟩=some (C eh fs f8)/\Y.cell? ⟨w.heap.size+1,2,none⟩=some (E ef)/\Y.cell? ⟨w.heap.size+1,3,none⟩=some (C du dw fr)) (first|(with_reducible exact⟨Qb,Qo,Qk,Qe,Qc,Qi,Qd,Qg,Qj,Qm⟩)|(go_keep;done)|(refine⟨?_,?_,?_,?_,?_,?_,?_,?_,?_,?_⟩<;>((repeat rw[JH om]);first|assumption|(go_keep;done))))
   (first
    |(go_at_call 91;refine(H1.o _ hq).mono ?_;clear H1;rintro e w2 ⟨u2,rfl,Qt,aj⟩;have hq:=Bt hq aj;obtain⟨Qb,Qo⟩:=(ay.below hq).cp;obtain⟨Qk,Qe⟩:=(an.below hq).cp;obtain⟨Qc,Qi⟩:=(ap.below hq).cp;obtain⟨Qd,Qg,Qj,Qm⟩:=(aq.below hq).cq;obtain⟨Qh,Qn,Qf,Ql⟩:=(ae.below hq).cq;obtain⟨Qr,Qq,Qp,Qs⟩:=(ae.below hq).fq)
    |(go_at_call 86;refine(H2.o _ hq).mono ?_;clear H2;rintro e w3 ⟨u3,rfl,ff,ci⟩;have Qt:=Qt.below ci;have hq:=Bt hq ci;obtain⟨Qb,Qo⟩:=(ay.below hq).cp;obtain⟨Qk,Qe⟩:=(an.below hq).cp;obtain⟨Qc,Qi⟩:=(ap.below hq).cp;obtain⟨Qd,Qg,Qj,Qm⟩:=(aq.below hq).cq;obtain⟨Qh,Qn,Qf,Ql⟩:=(ae.below hq).cq;obtain⟨Qr,Qq,Qp,Qs⟩:=(ae.below hq).fq)
    |(go_at_call 91;refine(H3.o _ _ hq ff).mono ?_;clear H3;rintro e w4 ⟨u4,rfl,fw,bn⟩;have Qt:=Qt.below bn;have hq:=Bt hq bn;obtain⟨Qb,Qo⟩:=(ay.below hq).cp;obtain⟨Qk,Qe⟩:=(an.below hq).cp;obtain⟨Qc,Qi⟩:=(ap.below hq).cp;obtain⟨Qd,Qg,Qj,Qm⟩:=(aq.below hq).cq;obtain⟨Qh,Qn,Qf,Ql⟩:=(ae.below hq).cq;obtain⟨Qr,Qq,Qp,Qs⟩:=(ae.below hq).fq)
    |(go_at_call 85;refine(H4.o _ _ hq fw).mono ?_;clear H4;rintro e w5 ⟨u5,rfl,fb,f⟩;have Qt:=Qt.below f;have hq:=Bt hq f;obtain⟨Qb,Qo⟩:=(ay.below hq).cp;obtain⟨Qk,Qe⟩:=(an.below hq).cp;obtain⟨Qc,Qi⟩:=(ap.below hq).cp;obtain⟨Qd,Qg,Qj,Qm⟩:=(aq.below hq).cq;obtain⟨Qh,Qn,Qf,Ql⟩:=(ae.below hq).cq;obtain⟨Qr,Qq,Qp,Qs⟩:=(ae.below hq).fq)
    |(go_at_call 92;refine(H5.o _ _ _ Qt fb).mono ?_;clear H5;rintro e w6 ⟨u6,rfl,dp,ed⟩;obtain⟨fd,et,fm,fj,fo,fa,ft,dz,rfl⟩:=Jj.form dp;have hq:=Bt hq ed;obtain⟨Qb,Qo⟩:=(ay.below hq).cp;obtain⟨Qk,Qe⟩:=(an.below hq).cp;obtain⟨Qc,Qi⟩:=(ap.below hq).cp;obtain⟨Qd,Qg,Qj,Qm⟩:=(aq.below hq).cq;obtain⟨Qh,Qn,Qf,Ql⟩:=(ae.below hq).cq;obtain⟨Qr,Qq,Qp,Qs⟩:=(ae.below hq).fq))
  all_goals go_wp2_with fail
  have Uc:=Bt M6.o.2.2 hq;have Wa:=M6.o.ge 2 rfl;exact BA (v:=L #[E fd,C et fm fj,E fo,C fa ft dz]) (by simp[results,Tryz.results87,go_sem,Qh,Qn,Qf,Ql]) rfl ⟨_,rfl,dp.put4 (ae.below hq) rfl rfl rfl rfl _ _ _ _,Jt Uc Wa _ _ _ _⟩
