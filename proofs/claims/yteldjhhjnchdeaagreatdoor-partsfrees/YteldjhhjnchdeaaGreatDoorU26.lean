import Derived.Test.YteldjhhjnchdeaaGreatDoorU22
import Derived.Test.YteldjhhjnchdeaaGreatDoorU24
import Derived.Deep.RegionHeld3
open Go.Value renaming slice->C,bool->E,pointer->G,agg->M
open Go.Obj renaming cells->F
open Go renaming World->H,Value->L
open Go.Proofs.Tryz renaming prog->I
set_option maxRecDepth 100000
set_option maxHeartbeats 16000000
namespace Go.Proofs.YteldjhhjnchdeaaGreatDoor
open Go.RowKit Go.Shelf
attribute [local go_sem] Oper.semAt_some
theorem DL:type_of% @decide_eq_decide:=@decide_eq_decide
variable{x y:Int}{p q:Rat}{W:H}
theorem Iw(K N:L)(x y:Int)(w:H)(W:Jk w K x)(X:Jk w N y)(q:(Jc Z x.natAbs).length<1000000000000)(r:(Jc Z y.natAbs).length<1000000000000):
 Calls I 90 #[K,N] w λe f=>∃u,e=.returned u/\Jk f u (Int.gcd x y:Nat)/\Bl w f:=by
 obtain⟨a,la,ca,j,d⟩:=W;cases j;obtain⟨b,lb,cb,j,m⟩:=X;cases j;have n:=d.len;have o:=m.len;obtain⟨s,hs⟩:=ex (decide (x<0));obtain⟨t,z⟩:=ex (decide (y<0));rw[hs,z];obtain⟨W0,c⟩:=ex (((w.alloc (F #[E s,C a la ca] 63)).alloc (F #[E t,C b lb cb] 63)).alloc (F #[E false,C none 0 0] 63));have g:Bl w W0:=by rw[<-c];exact Xv w _ _ _
 have b0:Jm W0 w.heap.size 63 (E s) (C a la ca):=by rw[<-c];exact((Jm.new w _ _ _).alloc _).alloc _
 have U:Jm W0 (w.heap.size+1) 63 (E t) (C b lb cb):=by
  have h:=(Jm.new (w.alloc (F #[E s,C a la ca] 63)) 63 (E t) (C b lb cb)).alloc (F #[E false,C none 0 0] 63);rw[A1,c]at h;exact h
 have i:Jm W0 (w.heap.size+1+1) 63 (E false) (C none 0 0):=by
  have h:=Jm.new ((w.alloc (F #[E s,C a la ca] 63)).alloc (F #[E t,C b lb cb] 63)) 63 (E false) (C none 0 0);rw[A1,A1,c]at h;exact h
 have Q:=O (ZS a la ca b lb cb _ _ W0 (UN.below d g) (UN.below m g) (by rw[n];exact q) (by rw[o];exact r));have P:=O λ(V:H) (u:L) (d:UN V u (Nat.gcd x.natAbs y.natAbs))=>show Calls I 119 #[E false,u] V λe f=>∃u,e=.returned u/\Jk f u (Int.gcd x y:Nat)/\Bl V f from I9 false u _ V d;have k1:=b0.c1;have k3:=U.c1;have S:=O c;clear d m hs z n o q r c;go_enter Tryz.func90,Tryz.ntmps90
 go_upto_region 1 with fail
 rw[S.o];go_wp2_with(first
  |(go_at_call 122;refine Q.o.mono ?_;rintro e w1 ⟨u1,rfl,A,ad⟩;obtain⟨na,nc,rfl⟩:=UN.form A)
  |(go_at_call 119;refine(P.o _ _ A).mono ?_;rintro e w2 ⟨u2,rfl,l,ae⟩;obtain⟨D,sl,sc,rfl⟩:=l.form;obtain⟨B,k⟩:=ex (decide (((Int.gcd x y:Nat):Int)<0));rw[k]at l;rw[k];clear k;have hq:=Bt ad ae;obtain⟨r0,r1⟩:=(i.below hq).cp;obtain⟨f0,f1⟩:=(i.below hq).fp))
 have T:=Bt g hq;have R:=l.box (i.below hq) rfl rfl (x0:=E B) (x1:=C D sl sc);exact BA (v:=M #[E B,C D sl sc]) (by simp[results,Tryz.results90,go_sem,r0,r1]) rfl ⟨_,rfl,R,(T.setCell (p:=⟨_,0,none⟩) so _).setCell (p:=⟨_,1,none⟩) so _⟩
theorem QV(w:H)(a b c d:Obj):Bl w ((((w.alloc a).alloc b).alloc c).alloc d):=
 (((Ba w _).alloc Y _).alloc si _).alloc si _
theorem QW{z r:Int}(e:y≠0)(h:r+y*z=x)(d:0<=r)(f:r<y.natAbs):z=x/y/\r=x%y:=by
 rcases Int.lt_or_gt_of_ne e with g|hp
 . have c:=(Int.ediv_emod_unique (a:=x) (b:=-y) (r:=r) (q:=-z) J).2 ⟨by rw[Int.neg_mul_neg];exact h,d,J⟩;rw[Int.ediv_neg,Int.emod_neg]at c;exact⟨J,c.2.symm⟩
 . have c:=(Int.ediv_emod_unique (a:=x) (b:=y) (r:=r) (q:=z) hp).2 ⟨h,d,J⟩;exact⟨c.1.symm,c.2.symm⟩
theorem QX(j:y≠0)(f:¬(x<0/\x.natAbs%y.natAbs≠0)):
 (if(!(decide (x<0)==decide (y<0)))=true then -((x.natAbs/y.natAbs:Nat):Int)else((x.natAbs/y.natAbs:Nat):Int))=x/y/\((x.natAbs%y.natAbs:Nat):Int)=x%y:=by
 have i:=Cb x.natAbs y.natAbs;have k:=A7 x.natAbs (show y.natAbs>0 by omega);generalize x.natAbs/y.natAbs=Q at *;generalize x.natAbs%y.natAbs=R at *;have d:(y.natAbs:Int)*Q+R=x.natAbs:=by rw[<-i];push_cast;rfl
 apply QW j _ J J;by_cases c:x<0<;>by_cases e:y<0
 . have g:R=0:=by
    rcases AY R with h|h
    . exact h
    . exact absurd ⟨c,J⟩ f
   have a:(y.natAbs:Int)=-y:=J
   have b:(x.natAbs:Int)=-x:=J
   rw[a,b,Int.neg_mul]at d;simp[c,e];omega
 . have g:R=0:=by
    rcases AY R with h|h
    . exact h
    . exact absurd ⟨c,J⟩ f
   have a:(y.natAbs:Int)=y:=J
   have b:(x.natAbs:Int)=-x:=J
   rw[a,b]at d;simp[c,e,Int.mul_neg];omega
 . have a:(y.natAbs:Int)=-y:=J
   have b:(x.natAbs:Int)=x:=J
   rw[a,b,Int.neg_mul]at d;simp[c,e,Int.mul_neg];omega
 . have a:(y.natAbs:Int)=y:=J
   have b:(x.natAbs:Int)=x:=J
   rw[a,b]at d;simp[c,e];omega
theorem QY(j:y≠0)(g:x<0/\x.natAbs%y.natAbs≠0):
 (if(!(decide (x<0)==decide (y<0)))=true then -((x.natAbs/y.natAbs+1:Nat):Int)else((x.natAbs/y.natAbs+1:Nat):Int))=x/y/\((y.natAbs-x.natAbs%y.natAbs:Nat):Int)=x%y:=by
 have i:=Cb x.natAbs y.natAbs;have l:=A7 x.natAbs (show y.natAbs>0 by omega);generalize x.natAbs/y.natAbs=Q at *;generalize x.natAbs%y.natAbs=R at *;have c:(y.natAbs:Int)*Q+R=x.natAbs:=by rw[<-i];push_cast;rfl
 obtain⟨e,k⟩:=g;apply QW j _ J J;have d:(x.natAbs:Int)=-x:=J
 by_cases f:y<0
 . have a:(y.natAbs:Int)=-y:=J
   have b:((y.natAbs-R:Nat):Int)=-y-R:=J
   rw[a,d,Int.neg_mul]at c;rw[b];simp[e,f,Int.mul_add];omega
 . have a:(y.natAbs:Int)=y:=J
   have b:((y.natAbs-R:Nat):Int)=y-R:=J
   rw[a,d]at c;rw[b];simp[e,f,Int.mul_neg,Int.mul_add];omega
theorem L1{B:Nat}{t:TypeId}{c d u0 u1:L}(x0 x1 a b:L)(h:Jm W B t c d)(k:Jm W (B+1) t u0 u1):
 Jm ((((W.setCell ⟨B,0,none⟩ x0).setCell ⟨B,1,none⟩ x1).setCell ⟨B+1,0,none⟩ a).setCell ⟨B+1,1,none⟩ b) B t x0 x1/\Jm ((((W.setCell ⟨B,0,none⟩ x0).setCell ⟨B,1,none⟩ x1).setCell ⟨B+1,0,none⟩ a).setCell ⟨B+1,1,none⟩ b) (B+1) t a b:=
 ⟨(((h.set0 x0).set1 x1).far Y a).far Y b,(((k.far Y x0).far Y x1).set0 a).set1 b⟩
theorem Zg(w:H)(c d e f:L)(a b:L):
 Jm ((((w.alloc (F #[c,d] 63)).alloc (F #[e,f] 63)).alloc (F #[a,b] 63)).alloc (F #[a,b] 63)) w.heap.size 63 c d/\
 Jm ((((w.alloc (F #[c,d] 63)).alloc (F #[e,f] 63)).alloc (F #[a,b] 63)).alloc (F #[a,b] 63)) (w.heap.size+1) 63 e f/\
 Jm ((((w.alloc (F #[c,d] 63)).alloc (F #[e,f] 63)).alloc (F #[a,b] 63)).alloc (F #[a,b] 63)) (w.heap.size+1+1) 63 a b/\
 Jm ((((w.alloc (F #[c,d] 63)).alloc (F #[e,f] 63)).alloc (F #[a,b] 63)).alloc (F #[a,b] 63)) (w.heap.size+1+1+1) 63 a b:=by
 refine⟨(((Jm.new w _ _ _).alloc _).alloc _).alloc _,?_,?_,?_⟩
 . have h:=((Jm.new (w.alloc (F #[c,d] 63)) 63 e f).alloc (F #[a,b] 63)).alloc (F #[a,b] 63);rw[A1]at h;exact h
 . have h:=(Jm.new ((w.alloc (F #[c,d] 63)).alloc (F #[e,f] 63)) 63 a b).alloc (F #[a,b] 63);rw[A1,A1]at h;exact h
 . have h:=Jm.new (((w.alloc (F #[c,d] 63)).alloc (F #[e,f] 63)).alloc (F #[a,b] 63)) 63 a b;rw[A1,A1,A1]at h;exact h
theorem Zh(a:Option Addr)(la ca:Nat)(b:Option Addr)(lb cb X c:Nat)(s t:Bool)(z r:Int)(w:H)(hu:UN w (C a la ca) X)(hv:UN w (C b lb cb) c)(hY:c≠0)(bf:la<1000000000000)(bg:lb<1000000000000)
(HP:Hid (¬(s=true/\X%c≠0)->(if(!(s==t))=true then -((X/c:Nat):Int)else((X/c:Nat):Int))=z/\((X%c:Nat):Int)=r))
(HN:Hid (s=true/\X%c≠0->(if(!(s==t))=true then -((X/c+1:Nat):Int)else((X/c+1:Nat):Int))=z/\((c-X%c:Nat):Int)=r)):
 Calls I 123 #[M #[E s,C a la ca],M #[E t,C b lb cb]] w λe d=>∃q o,e=.returned (.tuple #[q,o,E true])/\Jk d q z/\Jk d o r/\Bl w d:=by
 obtain⟨b0,l,S,T⟩:=Zg w (E s) (C a la ca) (E t) (C b lb cb) (E false) (C none 0 0);have N:=QV w (F #[E s,C a la ca] 63) (F #[E t,C b lb cb] 63) (F #[E false,C none 0 0] 63) (F #[E false,C none 0 0] 63);obtain⟨W0,ae⟩:=ex ((((w.alloc (F #[E s,C a la ca] 63)).alloc (F #[E t,C b lb cb] 63)).alloc (F #[E false,C none 0 0] 63)).alloc (F #[E false,C none 0 0] 63));rw[ae]at b0 l S T N;have Qh:=O ae;have bh:lb≠0:=λe=>hY ((JD Je).1 (Aq (by rw[<-UN.len hv,e])));have Qn:=UN.below hu N;have Qd:=UN.below hv N;have Qm:=O (Ny a la ca b lb cb X c W0 Qn Qd hY J);have Qw:=O Qd;have Qq:=O (UN.len hu).symm;obtain⟨k0,k1⟩:=b0.cp;obtain⟨k2,A⟩:=l.cp;clear ae hu hv Qn Qd;go_enter Tryz.func123,Tryz.ntmps123
 go_upto_region 1 with fail
 rw[Qh.o];go_upto_region 4 with(go_at_call 146;refine Qm.o.mono ?_;rintro e w1 ⟨u1,v1,rfl,y,ad,i⟩;obtain⟨ua,uc,rfl⟩:=UN.form y;obtain⟨va,vc,rfl⟩:=UN.form ad)
 clear Qm Qh;obtain⟨k0,k1⟩:=(b0.below i).cp;obtain⟨k2,A⟩:=(l.below i).cp;have Qg:(Jc Z (X%c)).length=0↔X%c=0:=⟨λh=>(JD Je).1 (Aq h),λh=>by rw[h,Jz];rfl⟩;have bj:=A7 X (show c>0 by omega);have bi:=Xn (m:=X) (n:=X/c) (Fw _ _);have Qk:(Jc Z (X/c)).length<1099511627776:=by
  have f:=(Jw y).2.2.2.1
  have:(Jc Z X).length=la:=by
   have h:=Qq.o;omega
  omega
 obtain⟨lr,aw⟩:=ex ((Jc Z (X%c)).length);obtain⟨lq,aq⟩:=ex ((Jc Z (X/c)).length);rw[aw]at ad Qg ⊢;rw[aq]at y Qk ⊢;obtain⟨cd,ap⟩:=ex ((s&&decide (0<lr)):Bool);have j:=O ap;have Qp:=O Qg;clear ap Qg aw aq;go_cut [29] λv K=>v=E cd/\K=w1
 case first=>
  cases s with
  |false=>
   have x:cd=false:=by rw[<-j.o];rfl
   go_wp2_with fail
   go_meet
   case rel=>exact⟨by rw[x],rfl⟩
  |true=>
   by_cases h5:0<lr
   . have x:cd=true:=by rw[<-j.o];simp;omega
     go_wp2_with fail
     go_meet
     case rel=>exact⟨by rw[x],rfl⟩
   . have x:cd=false:=by rw[<-j.o];simp;omega
     go_wp2_with fail
     go_meet
     case rel=>exact⟨by rw[x],rfl⟩
 case rest=>
  obtain⟨rfl,rfl⟩:=hcut;go_upto_if 29 with fail
  go_cut [7,8] λqv rv K=>∃(qa:Option Addr) (ql qc Q:Nat) (oa:Option Addr) (ol oc R:Nat),qv=C qa ql qc/\rv=C oa ol oc/\Hid (UN K (C qa ql qc) Q)/\Hid (UN K (C oa ol oc) R)/\Hid ((if(!(s==t))=true then -(Q:Int)else(Q:Int))=z/\(R:Int)=r)/\Bl W0 K
  case first=>
   cases cd with
   |false=>
    have hc:¬(s=true/\X%c≠0):=λ⟨f,h2⟩=>by
     have h:=j.o;rw[f]at h;simp at h;exact h2 (Qp.o.1 h)
    go_wp2_with fail
    go_meet
    case rel=>exact⟨_,_,_,_,_,_,_,_,rfl,rfl,O y,O ad,O (HP.o hc),i⟩
   |true=>
    have hc:s=true/\X%c≠0:=by
     have h:=j.o;simp at h;exact⟨h.1,λe=>by have:=Qp.o.2 e;omega⟩
    have HC:=O hc;clear hc;have Qv:=O (show ∀V:H,Bl wc V->Calls I 142 #[C ua lq uc,C (some ⟨V.heap.size,0,none⟩) 1 1] (V.alloc (F #[.int .u64 1] 156)) λe d=>∃u,e=.returned u/\UN d u (X/c+1)/\Below (V.alloc (F #[.int .u64 1] 156)).heap.size (V.alloc (F #[.int .u64 1] 156)) d from λV h=>by
     have Qe:Row .u64 (V.alloc (F #[.int .u64 1] 156)) (C (some ⟨V.heap.size,0,none⟩) 1 1) (Jc Z 1):=by
      rw[Nz J uo];exact(DU.made (xs:=[1]) (BD V (F #[.int .u64 ((1:Nat):Int)] 156))).row 0 1 1 Y J J J
     exact Pe ua lq uc (some ⟨V.heap.size,0,none⟩) 1 1 (X/c) 1 _ (Row.below (Row.below y h) (Ba V _)) Qe Qk J)
    have Qz:=O λ(V:H) (h:Bl wc V)=>Nd b lb cb va lr vc c (X%c) V (Row.below (Row.below Qw.o i) h) (Row.below ad h) J;have hq:Bl wc wc.drew:=(BB _ wc).drew;have bx:=l.below i;go_wp2_with fail
    have A:=bx.c1;go_region_held3 (λd=>d.cell? ⟨w.heap.size+1,1,none⟩=some (C b lb cb)) (first|exact A|(go_keep;done))
     (first
      |(go_at_call 142;refine(Qv.o _ hq).mono ?_;rintro e w3 ⟨u3,rfl,ay,bc⟩;obtain⟨pa,pc,rfl⟩:=UN.form ay;have hq:=QG hq bc;have A:=(bx.below hq).c1)
      |(go_at_call 143;refine(Qz.o _ hq).mono ?_;rintro e w4 ⟨u4,rfl,az,am⟩;obtain⟨ma,mc,rfl⟩:=UN.form az;have hq:=Bt hq am;have A:=(bx.below hq).c1))
    all_goals go_wp2_with fail
    go_meet
    case rel=>exact⟨_,_,_,_,_,_,_,_,rfl,rfl,O (UN.below ay am),O az,O (HN.o HC.o),Bt i hq⟩
  case rest=>
   obtain⟨qa,ql,qc,Q,oa,ol,oc,R,rfl,rfl,hQ,hR,hZ,W⟩:=hcut;have Qi:=O (show ∀V:H,Bl wc V->Calls I 119 #[E (!(s==t)),C qa ql qc] V λe d=>∃u,e=.returned u/\Jk d u z/\Bl V d from λV h=>by
    have f:=I9 (!(s==t)) _ _ V (UN.below hQ.o h);rw[hZ.o.1]at f;exact f)
   have Qj:=O (show ∀V:H,Bl wc V->Calls I 119 #[E false,C oa ol oc] V λe d=>∃u,e=.returned u/\Jk d u r/\Bl V d from λV h=>by
    have f:=I9 false _ _ V (UN.below hR.o h);simp only[Ck,if_false]at f;rw[hZ.o.2]at f;exact f)
   have k0:=(b0.below W).c0;have k2:=(l.below W).c0;go_wp2_with(first
    |(go_at_call 119;refine(Qi.o _ (BB _ _)).mono ?_;clear Qi;rintro e w5 ⟨u5,rfl,aj,af⟩;obtain⟨k,B,c5,rfl⟩:=aj.form;obtain⟨D,ah⟩:=ex (decide (z<0));rw[ah]at aj;rw[ah];clear ah)
    |(go_at_call 119;refine(Qj.o _ af).mono ?_;clear Qj;rintro e w6 ⟨u6,rfl,ak,an⟩;obtain⟨P,l6,U,rfl⟩:=ak.form;obtain⟨s6,ai⟩:=ex (decide (r<0));rw[ai]at ak;rw[ai];clear ai;have g:=(Bt W af).trans (an.mono (Bt W af).size);obtain⟨q0,q1⟩:=(S.below g).cp;obtain⟨q2,q3⟩:=(T.below g).cp;obtain⟨f0,f1⟩:=(S.below g).fp;obtain⟨f2,f3⟩:=(T.below g).fp))
   have Qf:=S.below g;have Qo:=T.below g;obtain⟨z4,z5⟩:=L1 (E D) (C k B c5) (E s6) (C P l6 U) Qf Qo;obtain⟨Qy,Qx⟩:=z4.cp;obtain⟨Qr,Qu⟩:=z5.cp;have Ql:Jm ((w6.setCell ⟨w.heap.size+1+1,0,none⟩ (E D)).setCell ⟨w.heap.size+1+1,1,none⟩ (C k B c5)) (w.heap.size+1+1+1) 63 (E false) (C none 0 0):=(Qo.far Y _).far Y _;have Qs:=((aj.below an).box Qf rfl rfl (x0:=E D) (x1:=C k B c5)).box Ql rfl rfl (x0:=E s6) (x1:=C P l6 U);have Qt:=(ak.box Qf rfl rfl (x0:=E D) (x1:=C k B c5)).box Ql rfl rfl (x0:=E s6) (x1:=C P l6 U);have Ua:=Bt N g;exact BA (v:=.tuple #[M #[E D,C k B c5],M #[E s6,C P l6 U],E true]) (by simp[results,Tryz.results123,go_sem,Qy,Qx,Qr,Qu]) rfl ⟨_,_,rfl,Qs,Qt,(((Ua.setCell (p:=⟨_,0,none⟩) so _).setCell (p:=⟨_,1,none⟩) so _).setCell (p:=⟨_,0,none⟩) so _).setCell (p:=⟨_,1,none⟩) so _⟩
theorem QZ(j k:L)(x y:Int)(w:H)(l:Jk w j x)(m:Jk w k y)(i:y≠0)(n:(Jc Z x.natAbs).length<1000000000000)(p:(Jc Z y.natAbs).length<1000000000000):
 Calls I 123 #[j,k] w λe d=>∃q o,e=.returned (.tuple #[q,o,E true])/\Jk d q (x/y)/\Jk d o (x%y)/\Bl w d:=by
 obtain⟨a,la,ca,rfl,f⟩:=l;obtain⟨b,lb,cb,rfl,g⟩:=m;refine Zh a la ca b lb cb x.natAbs y.natAbs _ _ (x/y) (x%y) w f g J (by rw[UN.len f];exact n) (by rw[UN.len g];exact p) (λc=>QX i λh=>c ⟨BK h.1,h.2⟩) λc=>QY i ⟨Bf c.1,c.2⟩
theorem Zi(z:Int):(EX z 0=0)↔z=0:=by
 unfold EX;split<;>(try split)<;>omega
theorem Q3(v:L)(z:Int)(w:H)(h:Jk w v z):
 Calls I 117 #[v] w λe m=>e=.returned (E (decide (z=0)))/\Bl w m:=by
 obtain⟨a,l,c,rfl⟩:=h.form;obtain⟨s,hs⟩:=ex (decide (z<0));rw[hs]at h ⊢;clear hs;have b0:=Jm.new w 63 (E s) (C a l c);have b:Bl w (w.alloc (F #[E s,C a l c] 63)):=Ba w _;obtain⟨W0,d⟩:=ex (w.alloc (F #[E s,C a l c] 63));rw[d]at b0 b;have j:=O d;have f:=O (Ir _ _ z 0 W0 (h.below b) (EJ _));obtain⟨o,p⟩:=b0.cp;have g:=O (Zi z);obtain⟨n,i⟩:=ex (EX z 0);rw[i]at f g;clear d i;go_enter Tryz.func117,Tryz.ntmps117
 go_upto_region 1 with fail
 rw[j.o];go_wp2_with(go_at_call 104;refine f.o.mono ?_;rintro e q ⟨rfl,k⟩)
 go_ret;refine⟨?_,Bt b k⟩;show Ending.returned (Value.bool (n==0))=_;have e:(n==0)=decide (z=0):=by rw[Cr];simp[g.o]
 rw[e]
def dd(y:Int):Int:=if y=0 then 1 else y
theorem Q4(v:L)(x y:Int)(w:H)(h:KC w v x y):
 Calls I 89 #[v] w λe q=>e=.returned (E (decide (y=0)))/\Bl w q:=by
 obtain⟨s,a,l,c,t,b,k,d,rfl,r,o⟩:=h;have b0:=JM.new w 65 (E s) (C a l c) (E t) (C b k d);have f:Bl w (w.alloc (F #[E s,C a l c,E t,C b k d] 65)):=Ba w _;obtain⟨W0,g⟩:=ex (w.alloc (F #[E s,C a l c,E t,C b k d] 65));rw[g]at b0 f;have m:=O g;have i:=O (Q3 _ _ W0 (o.below f));have u:=b0.c2;have z:=b0.c3;obtain⟨n,j⟩:=ex (decide (y=0));rw[j]at i ⊢;clear g j;go_enter Tryz.func89,Tryz.ntmps89
 go_upto_region 1 with fail
 rw[m.o];go_wp2_with(go_at_call 117;refine i.o.mono ?_;rintro e A ⟨rfl,p⟩)
 go_ret;exact⟨rfl,Bt f p⟩
theorem Zj(v:L)(x y:Int)(w:H)(h:KC w v x y):
 Calls I 86 #[v] w λe R=>∃u,e=.returned u/\Jk R u (dd y)/\Bl w R:=by
 have D:=h;obtain⟨s,a,l,c,t,b,k,d,rfl,T,K⟩:=h;obtain⟨W0,i⟩:=ex ((w.alloc (F #[E s,C a l c,E t,C b k d] 65)).alloc (F #[E false,C none 0 0] 63));have b0:JM W0 w.heap.size 65 (E s) (C a l c) (E t) (C b k d):=by rw[<-i];exact(JM.new w _ _ _ _ _).alloc _
 have m:Bl w W0:=by rw[<-i];exact Nm w _ _
 have g:Jm W0 (w.heap.size+1) 63 (E false) (C none 0 0):=by
  have h:=Jm.new (w.alloc (F #[E s,C a l c,E t,C b k d] 65)) 63 (E false) (C none 0 0);rw[A1,i]at h;exact h
 have j:=O (Q4 _ x y W0 (D.below m));have B:=O i;obtain⟨W,X,k2,k3⟩:=b0.cq;have S:=O (K.below m);clear D T K i;by_cases hq:y=0
 . rw[BK hq]at j;have n:=O (show dd y=1 by unfold dd;rw[BG hq]);clear hq;go_enter Tryz.func86,Tryz.ntmps86
   go_upto_region 1 with fail
   rw[B.o];go_wp2_with(first
    |(go_at_call 89;refine j.o.mono ?_;rintro e V ⟨rfl,f⟩)
    |(go_at_call 95;refine(KA 1 J J _).mono ?_;rintro e w2 ⟨u2,rfl,z,U⟩;obtain⟨Q,sl,sc,rfl⟩:=z.form;obtain⟨P,r⟩:=ex (decide ((1:Int)<0));rw[r]at z;rw[r];clear r;have hq:=Bt f U;obtain⟨r0,A⟩:=(g.below hq).cp;obtain⟨f0,f1⟩:=(g.below hq).fp))
   have q:=Bt m hq;have o:=z.box (g.below hq) rfl rfl (x0:=E P) (x1:=C Q sl sc);exact BA (v:=M #[E P,C Q sl sc]) (by simp[results,Tryz.results86,go_sem,r0,A]) rfl ⟨_,rfl,by rw[n.o];exact o,(q.setCell (p:=⟨_,0,none⟩) so _).setCell (p:=⟨_,1,none⟩) so _⟩
 . rw[BI hq]at j;have n:=O (show y=dd y by unfold dd;rw[BE hq]);clear hq;go_enter Tryz.func86,Tryz.ntmps86
   go_upto_region 1 with fail
   rw[B.o];go_wp2_with(go_at_call 89;refine j.o.mono ?_;rintro e V ⟨rfl,f⟩;have m2:=(b0.below f).c2;have m3:=(b0.below f).c3;obtain⟨r0,A⟩:=(g.below f).cp;obtain⟨f0,f1⟩:=(g.below f).fp)
   have q:=Bt m f;have N:=S.o.below f;rw[n.o]at N;have o:=N.box (g.below f) rfl rfl (x0:=E t) (x1:=C b k d);exact BA (v:=M #[E t,C b k d]) (by simp[results,Tryz.results86,go_sem,r0,A]) rfl ⟨_,rfl,o,(q.setCell (p:=⟨_,0,none⟩) so _).setCell (p:=⟨_,1,none⟩) so _⟩
theorem Zk(q:Rat):dd (Dz q)=q.den:=by
 have:=q.den_pos;unfold dd Dz;split<;>(try split at *)<;>omega
theorem XT(v:L)(q:Rat)(w:H)(h:Jj w v q):
 Calls I 89 #[v] w λe b=>e=.returned (E (decide (q.den=1)))/\Bl w b:=by
 have a:=Q4 v q.num (Dz q) w h.pair;rwa[DL.2 Lf]at a
theorem F7(v:L)(q:Rat)(w:H)(h:Jj w v q):
 Calls I 86 #[v] w λe a=>∃u,e=.returned u/\Jk a u (q.den:Int)/\Bl w a:=by
 have b:=Zj v q.num (Dz q) w h.pair;rwa[Zk]at b
theorem Gb(P Q:L)(x y:Int)(w:H)(i:Jk w P x)(j:Jk w Q y)(N:y≠0)(A:Sok x)(B:Sok y):
 Calls I 91 #[P,Q] w λe R=>∃u,e=.returned u/\Jk R u (x/y)/\Bl w R:=by
 obtain⟨a,la,ca,rfl⟩:=i.form;obtain⟨b,lb,cb,rfl⟩:=j.form;obtain⟨s,hs⟩:=ex (decide (x<0));obtain⟨t,D⟩:=ex (decide (y<0));rw[hs]at i ⊢;rw[D]at j ⊢;clear hs D;obtain⟨W0,d⟩:=ex (((w.alloc (F #[E s,C a la ca] 63)).alloc (F #[E t,C b lb cb] 63)).alloc (F #[E false,C none 0 0] 63));have l:Bl w W0:=by rw[<-d];exact Xv w _ _ _
 have b0:Jm W0 w.heap.size 63 (E s) (C a la ca):=by rw[<-d];exact((Jm.new w _ _ _).alloc _).alloc _
 have W:Jm W0 (w.heap.size+1) 63 (E t) (C b lb cb):=by
  have h:=(Jm.new (w.alloc (F #[E s,C a la ca] 63)) 63 (E t) (C b lb cb)).alloc (F #[E false,C none 0 0] 63);rw[A1,d]at h;exact h
 have X:Jm W0 (w.heap.size+1+1) 63 (E false) (C none 0 0):=by
  have h:=Jm.new ((w.alloc (F #[E s,C a la ca] 63)).alloc (F #[E t,C b lb cb] 63)) 63 (E false) (C none 0 0);rw[A1,A1,d]at h;exact h
 have S:=O (QZ _ _ x y W0 (i.below l) (j.below l) N (by have:=A.words;omega) (by have:=B.words;omega));have U:=O d;obtain⟨k0,k1⟩:=b0.cp;obtain⟨k2,k3⟩:=W.cp;clear i j N A B d;go_enter Tryz.func91,Tryz.ntmps91
 go_upto_region 1 with fail
 rw[U.o];go_upto_region 2 with(go_at_call 123;refine S.o.mono ?_;rintro e r ⟨u1,u2,rfl,q,K,z⟩;obtain⟨c,l1,c1,rfl⟩:=q.form;obtain⟨f,n⟩:=ex (decide (x/y<0));rw[n]at q;rw[n];clear n;obtain⟨g,l2,c2,rfl⟩:=K.form;obtain⟨k,o⟩:=ex (decide (x%y<0));rw[o]at K;rw[o];clear o)
 have bq:=(Jm.new r 63 (E f) (C c l1 c1)).alloc (F #[E k,C g l2 c2] 63);have m:=((X.below z).alloc (F #[E f,C c l1 c1] 63)).alloc (F #[E k,C g l2 c2] 63);have hu:=(q.alloc (F #[E f,C c l1 c1] 63)).alloc (F #[E k,C g l2 c2] 63);have V:Bl w ((r.alloc (F #[E f,C c l1 c1] 63)).alloc (F #[E k,C g l2 c2] 63)):=Bt (Bt l z) (Nm r _ _)
 obtain⟨q0,q1⟩:=bq.cp;obtain⟨r0,r1⟩:=m.cp;obtain⟨f0,f1⟩:=m.fp;go_wp2_with fail
 have T:=hu.box m rfl rfl (x0:=E f) (x1:=C c l1 c1);exact BA (v:=M #[E f,C c l1 c1]) (by simp[results,Tryz.results91,go_sem,r0,r1]) rfl ⟨_,rfl,T,(V.setCell (p:=⟨_,0,none⟩) so _).setCell (p:=⟨_,1,none⟩) so _⟩
theorem N2(w:H)(s t:Bool)(a b:Option Addr)(la ca lb cb:Nat)(x y:Int)(c:Jk w (M #[E s,C a la ca]) x)(d:Jk w (M #[E t,C b lb cb]) y):
 Mem w (((w.alloc (F #[E s,C a la ca] 63)).alloc (F #[E t,C b lb cb] 63)).alloc (F #[E false,C none 0 0,E false,C none 0 0] 65)) [some (w.heap.size,.int x),some (w.heap.size+1,.int y),some (w.heap.size+1+1,.rat 0)]:=by
 have h:=(((Mem.nil w).push (.int x) c).push (.int y) (d.alloc _)).push (.rat 0) (Ee _);rw[A1,A1,A1]at h;exact h
theorem Jj.mk{s t:Bool}{a b:Option Addr}{l c k d:Nat}(e:Jk W (M #[E s,C a l c]) q.num)(f:Jk W (M #[E t,C b k d]) (Dz q)):Jj W (M #[E s,C a l c,E t,C b k d]) q:=⟨_,_,_,_,_,_,_,_,rfl,e,f⟩
theorem L2(R S:L)(q:Rat)(w:H)(g:Jk w R q.num)(d:Jk w S (q.den:Int)):
 Calls I 92 #[R,S] w λe i=>∃u,e=.returned u/\Jj i u q/\Bl w i:=by
 obtain⟨a,la,ca,rfl⟩:=g.form;obtain⟨b,lb,cb,rfl⟩:=d.form;obtain⟨s,hs⟩:=ex (decide (q.num<0));obtain⟨t,B⟩:=ex (decide ((q.den:Int)<0));rw[hs]at g ⊢;rw[B]at d ⊢;clear hs B;have o:=N2 w s t a b la ca lb cb _ _ g d;obtain⟨W0,c⟩:=ex (((w.alloc (F #[E s,C a la ca] 63)).alloc (F #[E t,C b lb cb] 63)).alloc (F #[E false,C none 0 0,E false,C none 0 0] 65));have b0:Jm W0 w.heap.size 63 (E s) (C a la ca):=by rw[<-c];exact((Jm.new w _ _ _).alloc _).alloc _
 have p:Jm W0 (w.heap.size+1) 63 (E t) (C b lb cb):=by
  have h:=(Jm.new (w.alloc (F #[E s,C a la ca] 63)) 63 (E t) (C b lb cb)).alloc (F #[E false,C none 0 0,E false,C none 0 0] 65);rw[A1,c]at h;exact h
 have r:JM W0 (w.heap.size+1+1) 65 (E false) (C none 0 0) (E false) (C none 0 0):=by
  have h:=JM.new ((w.alloc (F #[E s,C a la ca] 63)).alloc (F #[E t,C b lb cb] 63)) 65 (E false) (C none 0 0) (E false) (C none 0 0);rw[A1,A1,c]at h;exact h
 rw[c]at o;have j:=o.2.2;obtain⟨l,y,U,W⟩:=D0 (λ(V:H) (u:L) (h:Bl W0 V) (hu:Jk V u 1)=>Ir _ u (q.den:Int) 1 V ((d.below j).below h) hu) (g.below j) (d.below j) c;obtain⟨k0,k1⟩:=b0.cp;obtain⟨D,K⟩:=p.cp;have m:=O (show(EX (q.den:Int) 1=0)↔q.den=1 by unfold EX;split<;>(try split)<;>omega);obtain⟨n,f⟩:=ex (EX (q.den:Int) 1);rw[f]at l m;clear g d c f o;go_enter Tryz.func92,Tryz.ntmps92
 go_upto_region 1 with fail
 rw[W.o];have hq:Bl W0 W0.drew:=(BB _ W0).drew;go_region_held3 (λi=>i.cell? ⟨w.heap.size+1,0,none⟩=some (E t)/\i.cell? ⟨w.heap.size+1,1,none⟩=some (C b lb cb)) (refine⟨?_,?_⟩<;>(first|(go_keep;done)|((repeat rw[JH J]);simp[*];done)))
  (first
   |(go_at_call 95;refine(KA 1 J J _).mono ?_;rintro e w1 ⟨u1,rfl,ae,X⟩;have hq:=Bt hq X;obtain⟨D,K⟩:=(p.below hq).cp)
   |(go_at_call 104;refine(l.o _ _ hq ae).mono ?_;clear l;rintro e T ⟨rfl,ad⟩;have hq:=Bt hq ad;obtain⟨k0,k1⟩:=(b0.below hq).cp;obtain⟨D,K⟩:=(p.below hq).cp;obtain⟨r0,N,P,Q⟩:=(r.below hq).cq;obtain⟨f0,f1,f2,f3⟩:=(r.below hq).fq))
 have z:=Bt j hq;have A:=r.below hq;by_cases f:n=0
 . have k:=O (show Dz q=0 from Lf.2 (m.o.1 f));subst f;have x:Jj T (M #[E s,C a la ca,E false,C none 0 0]) q:=Jj.mk (y.o.below hq) (by rw[k.o];exact EJ _);go_wp2_with fail
   exact BA (v:=M #[E s,C a la ca,E false,C none 0 0]) (by simp[results,Tryz.results92,go_sem,r0,N,P,Q]) rfl ⟨_,rfl,x.put4 A rfl rfl rfl rfl _ _ _ _,Ju z J _ _ _ _⟩
 . have k:=O (show Dz q=q.den by unfold Dz;rw[BE λh=>f (m.o.2 h)]);have x:Jj T (M #[E s,C a la ca,E t,C b lb cb]) q:=Jj.mk (y.o.below hq) (by rw[k.o];exact U.o.below hq);go_wp2_with fail
   exact BA (v:=M #[E s,C a la ca,E t,C b lb cb]) (by simp[results,Tryz.results92,go_sem,r0,N,P,Q]) rfl ⟨_,rfl,x.put4 A rfl rfl rfl rfl _ _ _ _,Ju z J _ _ _ _⟩
theorem KE(a:y≠0):(0:Int)<(Int.gcd x y:Nat):=by
 have:=Int.gcd_pos_of_ne_zero_right x a;omega
theorem Q5(va vb:L)(x y:Int)(w:H)(ha:Jk w va x)(A:Jk w vb y)(hy:y≠0)(bn:Sok x)(bt:Sok y):
 Calls I 118 #[va,vb] w λe c=>∃u,e=.returned u/\Jj c u (Rat.divInt x y)/\Bl w c:=by
 obtain⟨W,X,l⟩:=Dg bn bt hy;clear bn bt hy;obtain⟨s,a,la,ca,rfl⟩:=Jk.form2 ha;obtain⟨t,b,lb,cb,rfl⟩:=Jk.form2 A;have M0:=N2 w s t a b la ca lb cb _ _ ha A;obtain⟨W0,ap⟩:=ex (((w.alloc (F #[E s,C a la ca] 63)).alloc (F #[E t,C b lb cb] 63)).alloc (F #[E false,C none 0 0,E false,C none 0 0] 65));have Uk:=O ap;rw[ap]at M0;have M1:Hid (Mem w W0 [some (w.heap.size,.int x),some (w.heap.size+1,.int y),some (w.heap.size+1+1,.rat 0)]):=O M0;clear M0 ha A ap;go_enter Tryz.func118,Tryz.ntmps118
 go_upto_region 1 with fail
 rw[Uk.o];clear Uk;obtain⟨s1,a1,l1,c1,n1,i1⟩:=M1.o.int (i:=0) rfl;obtain⟨Un,Up⟩:=n1.cp;obtain⟨s2,a2,l2,c2,n2,i2⟩:=M1.o.int (i:=1) rfl;obtain⟨Uo,Um⟩:=n2.cp;go_upto_region 2 with(go_at_call 90;refine(Iw _ _ x y _ i1 i2 (by have:=W.o.words;omega) (by have:=X.o.words;omega)).mono ?_;rintro e w1 ⟨u,rfl,q,A⟩;obtain⟨ck,bi,cg,bk,rfl⟩:=Jk.form2 q)
 obtain⟨V3,p⟩:=ex (w1.alloc (F #[E ck,C bi cg bk] 63));obtain⟨d,an⟩:=ex (w1.heap.size);have n:Mem w (w1.alloc (F #[E ck,C bi cg bk] 63)) [some (w.heap.size,.int x),some (w.heap.size+1,.int y),some (w.heap.size+1+1,.rat 0),some (w1.heap.size,.int (((Int.gcd x y:Nat):Int)))]:=Mem.push (M1.o.below A) (.int (((Int.gcd x y:Nat):Int))) q;rw[p,an]at n;rw[p];rw[an];have r:Hid (Mem w V3 [some (w.heap.size,.int x),some (w.heap.size+1,.int y),some (w.heap.size+1+1,.rat 0),some (d,.int (((Int.gcd x y:Nat):Int)))]):=O (n);clear M1;clear n p an;clear n1 Un Up i1 n2 Uo Um i2 q A;have U:=O (Sok.gcd W.o X.o);by_cases hn:y<0
 . have P:=O hn;clear hn;obtain⟨s4,a4,l4,c4,n4,i4⟩:=r.o.int (i:=1) rfl;obtain⟨Uu,Ul⟩:=n4.cp;have m:=O (Ir _ _ y 0 V3 i4 (EJ _));rw[show EX y 0=-1 from by unfold EX;rw[BG P.o]]at m;go_upto_region 3 with(go_at_call 104;refine m.o.mono ?_;rintro e k ⟨rfl,S⟩)
   have M3:Hid (Mem w k [some (w.heap.size,.int x),some (w.heap.size+1,.int y),some (w.heap.size+1+1,.rat 0),some (d,.int (((Int.gcd x y:Nat):Int)))]):=O (r.o.below S);clear r;clear n4 Uu Ul i4 m S;obtain⟨s5,a5,l5,c5,n5,i5⟩:=M3.o.int (i:=3) rfl;obtain⟨Ui,Uj⟩:=n5.cp;go_upto_region 4 with(go_at_call 88;refine(QO _ _ 0 (((Int.gcd x y:Nat):Int)) _ (EJ _) i5 (by have:=Sok.zero.words;omega) (by have:=U.o.words;omega)).mono ?_;rintro e w6 ⟨u6,rfl,az,ad⟩;obtain⟨cl,bj,ci,bm,rfl⟩:=Jk.form2 az;obtain⟨Ui,Uj⟩:=(n5.below ad).cp;obtain⟨Ur,Ut⟩:=(n5.below ad).fp)
   obtain⟨z,p⟩:=ex ((w6.setCell ⟨d,0,none⟩ (E cl)).setCell ⟨d,1,none⟩ (C bj ci bm));have n:Mem w ((w6.setCell ⟨d,0,none⟩ (E cl)).setCell ⟨d,1,none⟩ (C bj ci bm)) [some (w.heap.size,.int x),some (w.heap.size+1,.int y),some (w.heap.size+1+1,.rat 0),some (d,.int (0-((Int.gcd x y:Nat):Int)))]:=Mem.putInt (M3.o.below ad) (i:=3) rfl az;rw[p]at n;rw[p];have j:Hid (Mem w z [some (w.heap.size,.int x),some (w.heap.size+1,.int y),some (w.heap.size+1+1,.rat 0),some (d,.int (0-((Int.gcd x y:Nat):Int)))]):=O (n);clear M3;clear n p;clear n5 Ui Uj i5 az ad;clear Ur Ut;obtain⟨Q,N,Uh⟩:=Dg (show(0-((Int.gcd x y:Nat):Int))≠0 by have:=KE (x:=x) l.o;omega) (show(0-((Int.gcd x y:Nat):Int))=(if y<0 then -((Int.gcd x y:Nat):Int)else((Int.gcd x y:Nat):Int))by rw[BG P.o];omega) (show Sok (0-((Int.gcd x y:Nat):Int))by rw[Int.zero_sub];exact U.o.neg);obtain⟨s7,a7,l7,c7,n7,i7⟩:=j.o.int (i:=0) rfl;obtain⟨Qy,Ud⟩:=n7.cp;obtain⟨s8,a8,l8,c8,n8,i8⟩:=j.o.int (i:=1) rfl;obtain⟨Qz,Ua⟩:=n8.cp;obtain⟨s9,a9,l9,c9,n9,i9⟩:=j.o.int (i:=3) rfl;obtain⟨Uc,Ub⟩:=n9.cp;obtain⟨fm,eh,fi,f6,fs,b10,fg,f9,f,r10,fb,fd⟩:=j.o.rat (i:=2) rfl;obtain⟨Qa,Qn,Qe,Qf⟩:=f.cq;obtain⟨Qq,Qt,Qv,Qo⟩:=f.fq;obtain⟨B,D,K⟩:=Dg (λ(V:H) (h:Bl z V)=>Gb _ _ x ((0-((Int.gcd x y:Nat):Int))) V (i7.below h) (i9.below h) Q.o W.o Uh.o) (λ(V:H) (h:Bl z V)=>Gb _ _ y ((0-((Int.gcd x y:Nat):Int))) V (i8.below h) (i9.below h) Q.o X.o Uh.o) λ(V:H) (u v:L) (q:Jk V u (x/(0-((Int.gcd x y:Nat):Int)))) (hv:Jk V v (y/(0-((Int.gcd x y:Nat):Int))))=>L2 u v (Rat.divInt x y) V (by rw[Lg l.o,<-N.o];exact q) (by rw[Lh l.o,<-N.o];exact hv);have Us:w.heap.size≠w.heap.size+1+1:=j.o.ne 0 2 rfl rfl DQ;have Uv:w.heap.size+1≠w.heap.size+1+1:=j.o.ne 1 2 rfl rfl DQ;have Uq:d≠w.heap.size+1+1:=j.o.ne 3 2 rfl rfl DQ;have hq:Bl z z.drew:=(BB _ z).drew;go_region_held3 (λc=>c.cell? ⟨w.heap.size,0,none⟩=some (E s7)/\c.cell? ⟨w.heap.size,1,none⟩=some (C a7 l7 c7)/\c.cell? ⟨w.heap.size+1,0,none⟩=some (E s8)/\c.cell? ⟨w.heap.size+1,1,none⟩=some (C a8 l8 c8)/\c.cell? ⟨d,0,none⟩=some (E s9)/\c.cell? ⟨d,1,none⟩=some (C a9 l9 c9)) (first|(with_reducible exact⟨Qy,Ud,Qz,Ua,Uc,Ub⟩)|(go_keep;done)|(refine⟨?_,?_,?_,?_,?_,?_⟩<;>((repeat rw[JH J]);first|assumption|(go_keep;done))))
    (first
     |(go_at_call 91;refine(B.o _ hq).mono ?_;clear B;rintro e w2 ⟨u2,rfl,o,aq⟩;have hq:=Bt hq aq;obtain⟨Qy,Ud⟩:=(n7.below hq).cp;obtain⟨Qz,Ua⟩:=(n8.below hq).cp;obtain⟨Uc,Ub⟩:=(n9.below hq).cp;obtain⟨Qa,Qn,Qe,Qf⟩:=(f.below hq).cq;obtain⟨Qq,Qt,Qv,Qo⟩:=(f.below hq).fq)
     |(go_at_call 91;refine(D.o _ hq).mono ?_;clear D;rintro e w3 ⟨u3,rfl,ay,R⟩;have o:=o.below R;have hq:=Bt hq R;obtain⟨Qy,Ud⟩:=(n7.below hq).cp;obtain⟨Qz,Ua⟩:=(n8.below hq).cp;obtain⟨Uc,Ub⟩:=(n9.below hq).cp;obtain⟨Qa,Qn,Qe,Qf⟩:=(f.below hq).cq;obtain⟨Qq,Qt,Qv,Qo⟩:=(f.below hq).fq)
     |(go_at_call 92;refine(K.o _ _ _ o ay).mono ?_;clear K;rintro e w4 ⟨u4,rfl,T,aw⟩;obtain⟨bg,ai,bf,ak,bh,aj,bc,am,rfl⟩:=Jj.form T;have hq:=Bt hq aw;obtain⟨Qy,Ud⟩:=(n7.below hq).cp;obtain⟨Qz,Ua⟩:=(n8.below hq).cp;obtain⟨Uc,Ub⟩:=(n9.below hq).cp;obtain⟨Qa,Qn,Qe,Qf⟩:=(f.below hq).cq;obtain⟨Qq,Qt,Qv,Qo⟩:=(f.below hq).fq))
   all_goals go_wp2_with fail
   have Ug:=Bt j.o.2.2 hq;exact BA (v:=M #[E bg,C ai bf ak,E bh,C aj bc am]) (by simp[results,Tryz.results118,go_sem,Qa,Qn,Qe,Qf]) rfl ⟨_,rfl,T.put4 (f.below hq) rfl rfl rfl rfl _ _ _ _,Ju Ug J _ _ _ _⟩
 . have P:=O hn;clear hn;obtain⟨fo,ei,fj,f7,cj,bu⟩:=r.o.int (i:=1) rfl;obtain⟨Uf,Ue⟩:=cj.cp;have m:=O (Ir _ _ y 0 V3 bu (EJ _));rw[show EX y 0=1 from by have h1:=P.o;have h2:=l.o;unfold EX;rw[BE J,BG J]]at m;go_upto_region 4 with(go_at_call 104;refine m.o.mono ?_;rintro e k ⟨rfl,S⟩)
   have M3:Hid (Mem w k [some (w.heap.size,.int x),some (w.heap.size+1,.int y),some (w.heap.size+1+1,.rat 0),some (d,.int (((Int.gcd x y:Nat):Int)))]):=O (r.o.below S);clear r;clear cj Uf Ue bu m S;have Q:=O (show((Int.gcd x y:Nat):Int)≠0 by have:=KE (x:=x) l.o;omega);have N:=O (show((Int.gcd x y:Nat):Int)=(if y<0 then -((Int.gcd x y:Nat):Int)else((Int.gcd x y:Nat):Int))by rw[BE (by have:=P.o;omega)]);obtain⟨dx,cn,dt,de,ae,dj⟩:=M3.o.int (i:=0) rfl;obtain⟨Ql,Qk⟩:=ae.cp;obtain⟨dz,co,du,dh,af,dp⟩:=M3.o.int (i:=1) rfl;obtain⟨Qc,Qj⟩:=af.cp;obtain⟨ed,ct,dw,di,ah,ce⟩:=M3.o.int (i:=3) rfl;obtain⟨Qb,Qg⟩:=ah.cp;obtain⟨fr,et,fk,f8,ft,ew,fh,fa,g,fl,fc,fe⟩:=M3.o.rat (i:=2) rfl;obtain⟨Qh,Qd,Qm,Qi⟩:=g.cq;obtain⟨Qs,Qw,Qr,Qu⟩:=g.fq;obtain⟨B,D,K⟩:=Dg (λ(V:H) (h:Bl k V)=>Gb _ _ x (((Int.gcd x y:Nat):Int)) V (dj.below h) (ce.below h) Q.o W.o U.o) (λ(V:H) (h:Bl k V)=>Gb _ _ y (((Int.gcd x y:Nat):Int)) V (dp.below h) (ce.below h) Q.o X.o U.o) λ(V:H) (u v:L) (q:Jk V u (x/((Int.gcd x y:Nat):Int))) (hv:Jk V v (y/((Int.gcd x y:Nat):Int)))=>L2 u v (Rat.divInt x y) V (by rw[Lg l.o,<-N.o];exact q) (by rw[Lh l.o,<-N.o];exact hv);have Us:w.heap.size≠w.heap.size+1+1:=M3.o.ne 0 2 rfl rfl DQ;have Uv:w.heap.size+1≠w.heap.size+1+1:=M3.o.ne 1 2 rfl rfl DQ;have Uq:d≠w.heap.size+1+1:=M3.o.ne 3 2 rfl rfl DQ;have hq:Bl k k.drew:=(BB _ k).drew;go_region_held3 (λc=>c.cell? ⟨w.heap.size,0,none⟩=some (E dx)/\c.cell? ⟨w.heap.size,1,none⟩=some (C cn dt de)/\c.cell? ⟨w.heap.size+1,0,none⟩=some (E dz)/\c.cell? ⟨w.heap.size+1,1,none⟩=some (C co du dh)/\c.cell? ⟨d,0,none⟩=some (E ed)/\c.cell? ⟨d,1,none⟩=some (C ct dw di)) (first|(with_reducible exact⟨Ql,Qk,Qc,Qj,Qb,Qg⟩)|(go_keep;done)|(refine⟨?_,?_,?_,?_,?_,?_⟩<;>((repeat rw[JH J]);first|assumption|(go_keep;done))))
    (first
     |(go_at_call 91;refine(B.o _ hq).mono ?_;clear B;rintro e w2 ⟨u2,rfl,o,aq⟩;have hq:=Bt hq aq;obtain⟨Ql,Qk⟩:=(ae.below hq).cp;obtain⟨Qc,Qj⟩:=(af.below hq).cp;obtain⟨Qb,Qg⟩:=(ah.below hq).cp;obtain⟨Qh,Qd,Qm,Qi⟩:=(g.below hq).cq;obtain⟨Qs,Qw,Qr,Qu⟩:=(g.below hq).fq)
     |(go_at_call 91;refine(D.o _ hq).mono ?_;clear D;rintro e w3 ⟨u3,rfl,ay,R⟩;have o:=o.below R;have hq:=Bt hq R;obtain⟨Ql,Qk⟩:=(ae.below hq).cp;obtain⟨Qc,Qj⟩:=(af.below hq).cp;obtain⟨Qb,Qg⟩:=(ah.below hq).cp;obtain⟨Qh,Qd,Qm,Qi⟩:=(g.below hq).cq;obtain⟨Qs,Qw,Qr,Qu⟩:=(g.below hq).fq)
     |(go_at_call 92;refine(K.o _ _ _ o ay).mono ?_;clear K;rintro e w4 ⟨u4,rfl,T,aw⟩;obtain⟨bg,ai,bf,ak,bh,aj,bc,am,rfl⟩:=Jj.form T;have hq:=Bt hq aw;obtain⟨Ql,Qk⟩:=(ae.below hq).cp;obtain⟨Qc,Qj⟩:=(af.below hq).cp;obtain⟨Qb,Qg⟩:=(ah.below hq).cp;obtain⟨Qh,Qd,Qm,Qi⟩:=(g.below hq).cq;obtain⟨Qs,Qw,Qr,Qu⟩:=(g.below hq).fq))
   all_goals go_wp2_with fail
   have Ug:=Bt M3.o.2.2 hq;exact BA (v:=M #[E bg,C ai bf ak,E bh,C aj bc am]) (by simp[results,Tryz.results118,go_sem,Qh,Qd,Qm,Qi]) rfl ⟨_,rfl,T.put4 (g.below hq) rfl rfl rfl rfl _ _ _ _,Ju Ug J _ _ _ _⟩
theorem L3(w:H)(s t i j:Bool)(a b a' e:Option Addr)(l c k d l' c' g f:Nat)(p q:Rat)(hp:Jj w (M #[E s,C a l c,E t,C b k d]) p)(hq:Jj w (M #[E i,C a' l' c',E j,C e g f]) q):
 Mem w (((w.alloc (F #[E s,C a l c,E t,C b k d] 65)).alloc (F #[E i,C a' l' c',E j,C e g f] 65)).alloc (F #[E false,C none 0 0,E false,C none 0 0] 65)) [some (w.heap.size,.rat p),some (w.heap.size+1,.rat q),some (w.heap.size+1+1,.rat 0)]:=by
 have h:=(((Mem.nil w).push (.rat p) hp).push (.rat q) (hq.below (Ba w _))).push (.rat 0) (Ee _);rw[A1,A1,A1]at h;exact h
theorem Zl(w:H)(s t i j:Bool)(a b a' e:Option Addr)(l c k d l' c' g f:Nat)(p q:Rat)(hp:Jj w (M #[E s,C a l c,E t,C b k d]) p)(hq:Jj w (M #[E i,C a' l' c',E j,C e g f]) q):
 Mem w ((w.alloc (F #[E s,C a l c,E t,C b k d] 65)).alloc (F #[E i,C a' l' c',E j,C e g f] 65)) [some (w.heap.size,.rat p),some (w.heap.size+1,.rat q)]:=by
 have h:=((Mem.nil w).push (.rat p) hp).push (.rat q) (hq.below (Ba w _));rw[A1]at h;exact h
theorem L4(h:q.den=1):q=(q.num:Rat):=Rat.ext rfl h
theorem Zm(hp:p.den=1)(hq:q.den=1):(p+q).num=p.num+q.num/\(p+q).den=1:=by
 have h:p+q=((p.num+q.num:Int):Rat):=by rw[Rat.intCast_add,<-L4 hp,<-L4 hq]
 rw[h];exact⟨rfl,rfl⟩
theorem Zn(hp:p.den=1)(hq:q.den=1):(p*q).num=p.num*q.num/\(p*q).den=1:=by
 have h:p*q=((p.num*q.num:Int):Rat):=by rw[CG,<-L4 hp,<-L4 hq]
 rw[h];exact⟨rfl,rfl⟩
theorem Zo(p q:Rat)(hp:Sq p)(hq:Sq q)(a c e b d:Int)(f:((Int.gcd (p.den:Int) (q.den:Int):Nat):Int)=a)(m:(p.den:Int)/a=c)(n:(q.den:Int)/a=e)(o:p.num*e+q.num*c=b)(g:((Int.gcd b a:Nat):Int)=d):
 Sok a/\a≠0/\Sok c/\Sok e/\Sok b/\Sok d/\d≠0/\Sok (p.num*e)/\Sok (q.num*c)/\(p+q).num=b/d/\((p+q).den:Int)=c*(q.den/d):=by
 have hl:=U3 p q a c e b d f.symm m.symm n.symm o.symm g.symm;have j:a≠0:=by rw[<-f];have:=KE (x:=(p.den:Int)) (y:=q.den) (by have:=q.den_nz;omega);omega
 have sc:Sok a:=by rw[<-f];exact hp.den.gcd hq.den
 have l:Sm 1000000000 c:=by rw[<-m];exact hp.sm.2.div
 have k:Sm 1000000000 e:=by rw[<-n];exact hq.sm.2.div
 have r:=hp.sm.1.mul k;have s:=hq.sm.1.mul l;have i:Sok b:=by rw[<-o];exact Sok.of (r.add s) J
 refine⟨sc,j,Sok.of l J,Sok.of k J,i,by rw[<-g];exact i.gcd sc,?_,Sok.of r J,Sok.of s J,hl.1,hl.2⟩;rw[<-g];have:=KE (x:=b) j;omega
theorem N3(va vb:L)(p q:Rat)(w:H)(ha:Jj w va p)(hb:Jj w vb q)(co:Sq p)(ct:Sq q):
 Calls I 87 #[va,vb] w λe w'=>∃u,e=.returned u/\Jj w' u (p+q)/\Bl w w':=by
 obtain⟨s,a,l,c,t,b,k,d,rfl⟩:=Jj.form ha;obtain⟨s',a',l',c',t',b',k',d',rfl⟩:=Jj.form hb;have M0:=L3 w s t s' t' a b a' b' l c k d l' c' k' d' p q ha hb;obtain⟨W0,bk⟩:=ex (((w.alloc (F #[E s,C a l c,E t,C b k d] 65)).alloc (F #[E s',C a' l' c',E t',C b' k' d'] 65)).alloc (F #[E false,C none 0 0,E false,C none 0 0] 65));have Ug:=O bk;rw[bk]at M0;have M1:Hid (Mem w W0 [some (w.heap.size,.rat p),some (w.heap.size+1,.rat q),some (w.heap.size+1+1,.rat 0)]):=O M0;have Qy:Tryz.prog.follows .mixedOrders=true:=by kernel_rfl
 have HP:=O co;have HQ:=O ct;clear M0 ha hb bk co ct;go_enter Tryz.func87,Tryz.ntmps87
 go_upto_region 1 with fail
 rw[Ug.o];clear Ug;obtain⟨bb,cj⟩:=ex (decide (p.den=1/\q.den=1):Bool);have Qu:=O cj;clear cj;go_cut [15] λc w'=>c=E bb/\Hid (Mem w w' [some (w.heap.size,.rat p),some (w.heap.size+1,.rat q),some (w.heap.size+1+1,.rat 0)])
 case first=>
  obtain⟨s1,a1,l1,c1,t1,b1,k1,d1,n1,r1,i1,j1⟩:=M1.o.rat (i:=0) rfl;obtain⟨Ut,Uv,Uz,Wa⟩:=n1.cq;obtain⟨s2,a2,l2,c2,t2,b2,k2,d2,n2,r2,i2,j2⟩:=M1.o.rat (i:=1) rfl;obtain⟨Uu,Ur,Uq,Wc⟩:=n2.cq;have H1:=O (XT _ p W0 r1);have H2:=O λ(V:H) (h:Bl W0 V)=>XT _ q V (r2.below h);by_cases S:p.den=1
  . rw[BK S]at H1;obtain⟨b2,ak⟩:=ex (decide (q.den=1));rw[ak]at H2;have Qz:=O (show b2=bb by rw[<-ak,<-Qu.o];exact DL.2 ⟨λh=>⟨S,h⟩,λh=>h.2⟩);clear ak S;go_wp2_with(first
     |(go_at_call 89;refine H1.o.mono ?_;clear H1;rintro e w1 ⟨rfl,an⟩;obtain⟨Ut,Uv,Uz,Wa⟩:=(n1.below an).cq;obtain⟨Uu,Ur,Uq,Wc⟩:=(n2.below an).cq)
     |(go_at_call 89;refine(H2.o _ an).mono ?_;clear H2;rintro e w2 ⟨rfl,ak⟩))
    go_meet
    case rel=>exact⟨by rw[Qz.o],O ((M1.o.below an).below ak)⟩
  . rw[BI S]at H1;have Qz:=O (show bb=false by rw[<-Qu.o];exact BI λh=>S h.1);clear S;go_wp2_with(go_at_call 89;refine H1.o.mono ?_;clear H1;rintro e w1 ⟨rfl,an⟩)
    go_meet
    case rel=>exact⟨by rw[Qz.o],O (M1.o.below an)⟩
 obtain⟨rfl,m⟩:=hcut;have M2:Hid (Mem w wc [some (w.heap.size,.rat p),some (w.heap.size+1,.rat q),some (w.heap.size+1+1,.rat 0)]):=m;clear M1 m;cases bb with
 |true=>
  have Qv:=Bf Qu.o;have HW:=O (Zm Qv.1 Qv.2);clear Qv Qu;obtain⟨s3,a3,l3,c3,t3,b3,k3,d3,n3,r3,i3,j3⟩:=M2.o.rat (i:=0) rfl;obtain⟨gp,gq⟩:=n3.cp;obtain⟨s4,a4,l4,c4,t4,b4,k4,d4,n4,r4,i4,j4⟩:=M2.o.rat (i:=1) rfl;obtain⟨gr,gu⟩:=n4.cp;obtain⟨s5,a5,l5,c5,t5,b5,k5,d5,n5,r5,i5,j5⟩:=M2.o.rat (i:=2) rfl;obtain⟨Un,Ue,Uk,Um⟩:=n5.cq;obtain⟨Ux,Uy,Up,Uw⟩:=n5.fq;go_wp2_with(go_at_call 121;refine(Nl _ _ p.num q.num _ i3 i4 (by have:=HP.o.num.words;omega) (by have:=HQ.o.num.words;omega)).mono ?_;rintro e w1 ⟨u,rfl,hu,hq⟩;obtain⟨bh,bc,bg,bf,rfl⟩:=Jk.form2 hu;obtain⟨Un,Ue,Uk,Um⟩:=(n5.below hq).cq;obtain⟨Ux,Uy,Up,Uw⟩:=(n5.below hq).fq)
  have hr:Jj w1 (M #[E bh,C bc bg bf,E false,C none 0 0]) (p+q):=Jj.mk (by rw[HW.o.1];exact hu) (by rw[Lf.2 HW.o.2];exact EJ _);have Uc:=Bt M2.o.2.2 hq;exact BA (v:=M #[E bh,C bc bg bf,E false,C none 0 0]) (by simp[results,Tryz.results87,go_sem,Un,Ue,Uk,Um]) rfl ⟨_,rfl,hr.put4 (n5.below hq) rfl rfl rfl rfl _ _ _ _,Ju Uc J _ _ _ _⟩
 |false=>
  clear Qu;obtain⟨cm,ck⟩:=ex (((Int.gcd (p.den:Int) (q.den:Int):Nat):Int):Int);have Ul:=O ck;clear ck;obtain⟨lf,cl⟩:=ex ((p.den:Int)/cm:Int);have Ui:=O cl;clear cl;obtain⟨rt,cn⟩:=ex ((q.den:Int)/cm:Int);have Ud:=O cn;clear cn;obtain⟨ab,bu⟩:=ex (p.num*rt+q.num*lf:Int);have Uj:=O bu;clear bu;obtain⟨ag,ce⟩:=ex (((Int.gcd ab cm:Nat):Int):Int);have Uh:=O ce;clear ce;obtain⟨S1,S2,S3,S4,S5,S6,S7,S8,S9,bm,bn⟩:=Zo p q HP.o HQ.o cm lf rt ab ag Ul.o Ui.o Ud.o Uj.o Uh.o;obtain⟨T1,T2,T3,T4,T5,T6,T7,T8⟩:=Ho S1 S2 S3 S4 S5 S6 S7 S8;obtain⟨T9,Wb,Us⟩:=Dg S9 bm bn;clear S1 S2 S3 S4 S5 S6 S7 S8 S9 bm bn;go_upto_region 3 with fail
  refine Jn Qy [[],[0],[],[2,1],[1,3,3],[],[5,4,4,0,1,2,3,4,5]] (by kernel_rfl) DQ
   (λD ah V=>∃(ta tb tc td te ty:L) (x5:Option (Nat × Dat)),ah={ tmps:=#[M #[E s,C a l c,E t,C b k d],M #[E s',C a' l' c',E t',C b' k' d'],G (some ⟨w.heap.size,0,none⟩),G (some ⟨w.heap.size+1,0,none⟩),G (some ⟨w.heap.size+1+1,0,none⟩),ty,undef,undef,undef,undef,u10,u11,u12,u13,u14,E false,u16,u17,u18,u19,u20,u21,ta,tb,tc,td,te,u27,u28,u29,u30,u31,u32,u33,u34,u35,u36,u37,u38,u39,u40,u41,u42,u43,u44,u45,u46,u47,u48,u49,u50,u51,u52,u53,u54,u55,u56],defers:=[] }/\Hid ((D 0=true->Has V ta (.rat p))/\(D 1=true->Has V tb (.int ((p.den:Int))))/\(D 2=true->Has V tc (.rat q))/\(D 3=true->Has V td (.int ((q.den:Int))))/\(D 4=true->Has V te (.int cm))/\((D 5=false->x5=none)/\(D 5=true->D 6=false->∃B:Nat,ty=G (some ⟨B,0,none⟩)/\x5=some (B,.int 0))/\(D 6=true->∃B:Nat,ty=G (some ⟨B,0,none⟩)/\x5=some (B,.int cm))))/\Hid (Mem w V [some (w.heap.size,.rat p),some (w.heap.size+1,.rat q),some (w.heap.size+1+1,.rat 0),x5]))
   ⟨_,_,_,_,_,_,none,rfl,O ⟨Y,Y,Y,Y,Y,Y⟩,O ((M2.o).none).drew⟩ ?step6 ?fin6
  case step6=>
   rintro D ah V i ds ap hi o ae ⟨ta,tb,tc,td,te,ty,x5,rfl,g,m⟩;have Uf:i<7:=(Ad.1 hi).1;obtain rfl|rfl|rfl|rfl|rfl|rfl|rfl:=IX i J
   all_goals
    simp only[Af,Ae,Ah]at hi;subst hi
   . clear o;obtain⟨s,a,l,c,t,b,k,d,n,r,i,j⟩:=m.o.rat (i:=0) rfl;obtain⟨e0,e1,e2,e3⟩:=n.cq;refine Za ?_;exact⟨_,_,_,_,_,_,_,rfl,(Dh g λ_=>r),O (m.o)⟩
   . have R:=(g.o.1 (o 0 Y));have U:=O (F7 _ p V R);clear o R;refine Jb rfl rfl λK hK=>?_;go_simp;go_wp2_with(go_at_call 86;refine U.o.mono ?_;rintro e w5 ⟨v5,rfl,ad,f⟩)
     obtain⟨x,_,z,P,A,Q⟩:=g.o;exact⟨_,_,_,_,_,_,_,rfl,O ⟨λh=>(x h).below f,λ_=>ad,λh=>(z h).below f,λh=>(P h).below f,λh=>(A h).below f,Q⟩,O (m.o.below f)⟩
   . clear o;obtain⟨s,a,l,c,t,b,k,d,n,r,i,j⟩:=m.o.rat (i:=1) rfl;obtain⟨e0,e1,e2,e3⟩:=n.cq;refine Za ?_;exact⟨_,_,_,_,_,_,_,rfl,(Df g λ_=>r),O (m.o)⟩
   . have R:=(g.o.2.2.1 (o 2 Y));have U:=O (F7 _ q V R);clear o R;refine Jb rfl rfl λK hK=>?_;go_simp;go_wp2_with(go_at_call 86;refine U.o.mono ?_;rintro e w5 ⟨v5,rfl,ad,f⟩)
     obtain⟨x,N,z,_,A,Q⟩:=g.o;exact⟨_,_,_,_,_,_,_,rfl,O ⟨λh=>(x h).below f,λh=>(N h).below f,λh=>(z h).below f,λ_=>ad,λh=>(A h).below f,Q⟩,O (m.o.below f)⟩
   . have R:=(g.o.2.1 (o 1 Y));have S:=(g.o.2.2.2.1 (o 3 Y));have U:=O ((by have h:=Iw _ _ (p.den:Int) (q.den:Int) V R S (by have:=HP.o.den.words;omega) (by have:=HQ.o.den.words;omega);rw[Ul.o]at h;exact h));clear o R S;refine Jb rfl rfl λK hK=>?_;go_simp;go_wp2_with(go_at_call 90;refine U.o.mono ?_;rintro e w5 ⟨v5,rfl,ad,f⟩)
     obtain⟨x,N,z,P,_,Q⟩:=g.o;exact⟨_,_,_,_,_,_,_,rfl,O ⟨λh=>(x h).below f,λh=>(N h).below f,λh=>(z h).below f,λh=>(P h).below f,λ_=>ad,Q⟩,O (m.o.below f)⟩
   . have hf:D 6=false:=DR ap ae;obtain rfl:=Dl g ae;clear o;refine Za ?_;obtain⟨x,N,z,P,A,_⟩:=g.o;exact⟨_,_,_,_,_,_,_,rfl,O ⟨λh=>(x h).alloc _,λh=>(N h).alloc _,λh=>(z h).alloc _,λh=>(P h).alloc _,λh=>(A h).alloc _,⟨λh=>by simp at h,λ_ _=>⟨_,rfl,rfl⟩,λh=>by simp[hf]at h⟩⟩,O (m.o.fill (i:=3) rfl (.int 0) (EJ _))⟩
   . obtain⟨B,rfl,rfl⟩:=Dq g (o 5 Y) ae;have Qa:=o 5 Y;have hv:=(g.o.2.2.2.2.1 (o 4 Y));obtain⟨s1,a1,l1,c1,rfl⟩:=Jk.form2 (show Jk V _ _ from hv);obtain⟨s,a,l,c,n,i⟩:=m.o.int (i:=3) rfl;have e0:=n.c0;have f0:=n.f0;have e1:=n.c1;have f1:=n.f1;clear o;refine Za ?_;obtain⟨x,N,z,P,A,_⟩:=g.o;exact⟨_,_,_,_,_,_,_,rfl,O ⟨λh=>(x h).set2 n rfl rfl _ _,λh=>(N h).set2 n rfl rfl _ _,λh=>(z h).set2 n rfl rfl _ _,λh=>(P h).set2 n rfl rfl _ _,λh=>(A h).set2 n rfl rfl _ _,⟨λh=>by simp[Qa]at h,λ_ h=>by simp at h,λ_=>⟨B,rfl,rfl⟩⟩⟩,O (m.o.putInt (i:=3) rfl hv)⟩
  rintro D ah V7 ai ⟨ta,tb,tc,td,te,ty,x5,rfl,g,m⟩;obtain⟨B8,rfl,rfl⟩:=g.o.2.2.2.2.2.2.2 (ai 6 DQ);clear g ai M2;have M3:Hid (Mem w V7 [some (w.heap.size,.rat p),some (w.heap.size+1,.rat q),some (w.heap.size+1+1,.rat 0),some (B8,.int cm)]):=m;clear m;go_upto_region 4 with fail
  refine Jn Qy [[],[0],[],[1,2,1],[],[4,3],[],[5,6,5],[],[],[8,3,7,0,1,2,3,8,9],[9,7,10,0,1,2,3,4,5,6,7,8,9,10]] (by kernel_rfl) DQ
   (λD ah V=>∃(tf tg ti tj tk tl tm tn tz tA:L) (x8 x9:Option (Nat × Dat)),ah={ tmps:=#[M #[E s,C a l c,E t,C b k d],M #[E s',C a' l' c',E t',C b' k' d'],G (some ⟨w.heap.size,0,none⟩),G (some ⟨w.heap.size+1,0,none⟩),G (some ⟨w.heap.size+1+1,0,none⟩),G (some ⟨B8,0,none⟩),tz,tA,undef,undef,u10,u11,u12,u13,u14,E false,u16,u17,u18,u19,u20,u21,ta,tb,tc,td,te,tf,tg,ti,tj,tk,tl,tm,tn,u35,u36,u37,u38,u39,u40,u41,u42,u43,u44,u45,u46,u47,u48,u49,u50,u51,u52,u53,u54,u55,u56],defers:=[] }/\Hid ((D 0=true->Has V tf (.rat p))/\(D 1=true->Has V tg (.int ((p.den:Int))))/\(D 2=true->Has V ti (.int cm))/\(D 3=true->Has V tj (.int lf))/\(D 4=true->Has V tk (.rat q))/\(D 5=true->Has V tl (.int ((q.den:Int))))/\(D 6=true->Has V tm (.int cm))/\(D 7=true->Has V tn (.int rt))/\((D 8=false->x8=none)/\(D 8=true->D 10=false->∃B:Nat,tz=G (some ⟨B,0,none⟩)/\x8=some (B,.int 0))/\(D 10=true->∃B:Nat,tz=G (some ⟨B,0,none⟩)/\x8=some (B,.int lf)))/\((D 9=false->x9=none)/\(D 9=true->D 11=false->∃B:Nat,tA=G (some ⟨B,0,none⟩)/\x9=some (B,.int 0))/\(D 11=true->∃B:Nat,tA=G (some ⟨B,0,none⟩)/\x9=some (B,.int rt))))/\Hid (Mem w V [some (w.heap.size,.rat p),some (w.heap.size+1,.rat q),some (w.heap.size+1+1,.rat 0),some (B8,.int cm),x8,x9]))
   ⟨_,_,_,_,_,_,_,_,_,_,none,none,rfl,O ⟨Y,Y,Y,Y,Y,Y,Y,Y,Y,Y⟩,O (((M3.o).none).none).drew⟩ ?step9 ?fin9
  case step9=>
   rintro D ah V i ds ap hi o ae ⟨tf,tg,ti,tj,tk,tl,tm,tn,tz,tA,x8,x9,rfl,g,m⟩;have Uf:i<12:=(Ad.1 hi).1;obtain rfl|rfl|rfl|rfl|rfl|rfl|rfl|rfl|rfl|rfl|rfl|rfl:=IY i J
   all_goals
    simp only[Af,Ae,Ah]at hi;subst hi
   . clear o;obtain⟨s,a,l,c,t,b,k,d,n,r,i,j⟩:=m.o.rat (i:=0) rfl;obtain⟨e0,e1,e2,e3⟩:=n.cq;refine Za ?_;exact⟨_,_,_,_,_,_,_,_,_,_,_,_,rfl,(Dh g λ_=>r),O (m.o)⟩
   . have R:=(g.o.1 (o 0 Y));have U:=O (F7 _ p V R);clear o R;refine Jb rfl rfl λK hK=>?_;go_simp;go_wp2_with(go_at_call 86;refine U.o.mono ?_;rintro e w5 ⟨v5,rfl,ad,f⟩)
     obtain⟨x,_,z,P,A,Q,T,W,X⟩:=g.o;exact⟨_,_,_,_,_,_,_,_,_,_,_,_,rfl,O ⟨λh=>(x h).below f,λ_=>ad,λh=>(z h).below f,λh=>(P h).below f,λh=>(A h).below f,λh=>(Q h).below f,λh=>(T h).below f,λh=>(W h).below f,X⟩,O (m.o.below f)⟩
   . clear o;obtain⟨s,a,l,c,n,i⟩:=m.o.int (i:=3) rfl;obtain⟨e0,e1⟩:=n.cp;refine Za ?_;exact⟨_,_,_,_,_,_,_,_,_,_,_,_,rfl,(Df g λ_=>i),O (m.o)⟩
   . have R:=(g.o.2.1 (o 1 Y));have S:=(g.o.2.2.1 (o 2 Y));have U:=O ((by have h:=Gb _ _ (p.den:Int) cm V R S T2.o HP.o.den T1.o;rw[Ui.o]at h;exact h));clear o R S;refine Jb rfl rfl λK hK=>?_;go_simp;go_wp2_with(go_at_call 91;refine U.o.mono ?_;rintro e w5 ⟨v5,rfl,ad,f⟩)
     obtain⟨x,N,z,_,A,Q,T,W,X⟩:=g.o;exact⟨_,_,_,_,_,_,_,_,_,_,_,_,rfl,O ⟨λh=>(x h).below f,λh=>(N h).below f,λh=>(z h).below f,λ_=>ad,λh=>(A h).below f,λh=>(Q h).below f,λh=>(T h).below f,λh=>(W h).below f,X⟩,O (m.o.below f)⟩
   . clear o;obtain⟨s,a,l,c,t,b,k,d,n,r,i,j⟩:=m.o.rat (i:=1) rfl;obtain⟨e0,e1,e2,e3⟩:=n.cq;refine Za ?_;exact⟨_,_,_,_,_,_,_,_,_,_,_,_,rfl,(D9 g λ_=>r),O (m.o)⟩
   . have R:=(g.o.2.2.2.2.1 (o 4 Y));have U:=O (F7 _ q V R);clear o R;refine Jb rfl rfl λK hK=>?_;go_simp;go_wp2_with(go_at_call 86;refine U.o.mono ?_;rintro e w5 ⟨v5,rfl,ad,f⟩)
     obtain⟨x,N,z,P,A,_,T,W,X⟩:=g.o;exact⟨_,_,_,_,_,_,_,_,_,_,_,_,rfl,O ⟨λh=>(x h).below f,λh=>(N h).below f,λh=>(z h).below f,λh=>(P h).below f,λh=>(A h).below f,λ_=>ad,λh=>(T h).below f,λh=>(W h).below f,X⟩,O (m.o.below f)⟩
   . clear o;obtain⟨s,a,l,c,n,i⟩:=m.o.int (i:=3) rfl;obtain⟨e0,e1⟩:=n.cp;refine Za ?_;exact⟨_,_,_,_,_,_,_,_,_,_,_,_,rfl,(D6 g λ_=>i),O (m.o)⟩
   . have R:=((Dl g) (o 5 Y));have S:=((Dq g) (o 6 Y));have U:=O ((by have h:=Gb _ _ (q.den:Int) cm V R S T2.o HQ.o.den T1.o;rw[Ud.o]at h;exact h));clear o R S;refine Jb rfl rfl λK hK=>?_;go_simp;go_wp2_with(go_at_call 91;refine U.o.mono ?_;rintro e w5 ⟨v5,rfl,ad,f⟩)
     obtain⟨x,N,z,P,A,Q,T,_,X⟩:=g.o;exact⟨_,_,_,_,_,_,_,_,_,_,_,_,rfl,O ⟨λh=>(x h).below f,λh=>(N h).below f,λh=>(z h).below f,λh=>(P h).below f,λh=>(A h).below f,λh=>(Q h).below f,λh=>(T h).below f,λ_=>ad,X⟩,O (m.o.below f)⟩
   . have hf:D 10=false:=DR ap ae;obtain rfl:=g.o.2.2.2.2.2.2.2.2.1.1 ae;clear o;refine Za ?_;obtain⟨x,N,z,P,A,Q,T,W,_,G9⟩:=g.o;exact⟨_,_,_,_,_,_,_,_,_,_,_,_,rfl,O ⟨λh=>(x h).alloc _,λh=>(N h).alloc _,λh=>(z h).alloc _,λh=>(P h).alloc _,λh=>(A h).alloc _,λh=>(Q h).alloc _,λh=>(T h).alloc _,λh=>(W h).alloc _,⟨λh=>by simp at h,λ_ _=>⟨_,rfl,rfl⟩,λh=>by simp[hf]at h⟩,G9⟩,O (m.o.fill (i:=4) rfl (.int 0) (EJ _))⟩
   . have hf:D 11=false:=DR ap ae;obtain rfl:=D7 g ae;clear o;refine Za ?_;obtain⟨x,N,z,P,A,Q,T,W,X,_⟩:=g.o;exact⟨_,_,_,_,_,_,_,_,_,_,_,_,rfl,O ⟨λh=>(x h).alloc _,λh=>(N h).alloc _,λh=>(z h).alloc _,λh=>(P h).alloc _,λh=>(A h).alloc _,λh=>(Q h).alloc _,λh=>(T h).alloc _,λh=>(W h).alloc _,X,⟨λh=>by simp at h,λ_ _=>⟨_,rfl,rfl⟩,λh=>by simp[hf]at h⟩⟩,O (m.o.fill (i:=5) rfl (.int 0) (EJ _))⟩
   . obtain⟨B,rfl,rfl⟩:=g.o.2.2.2.2.2.2.2.2.1.2.1 (o 8 Y) ae;have Qa:=o 8 Y;have hv:=(g.o.2.2.2.1 (o 3 Y));obtain⟨s1,a1,l1,c1,rfl⟩:=Jk.form2 (show Jk V _ _ from hv);obtain⟨s,a,l,c,n,i⟩:=m.o.int (i:=4) rfl;have e0:=n.c0;have f0:=n.f0;have e1:=n.c1;have f1:=n.f1;clear o;refine Za ?_;obtain⟨x,N,z,P,A,Q,T,W,_,G9⟩:=g.o;exact⟨_,_,_,_,_,_,_,_,_,_,_,_,rfl,O ⟨λh=>(x h).set2 n rfl rfl _ _,λh=>(N h).set2 n rfl rfl _ _,λh=>(z h).set2 n rfl rfl _ _,λh=>(P h).set2 n rfl rfl _ _,λh=>(A h).set2 n rfl rfl _ _,λh=>(Q h).set2 n rfl rfl _ _,λh=>(T h).set2 n rfl rfl _ _,λh=>(W h).set2 n rfl rfl _ _,⟨λh=>by simp[Qa]at h,λ_ h=>by simp at h,λ_=>⟨B,rfl,rfl⟩⟩,G9⟩,O (m.o.putInt (i:=4) rfl hv)⟩
   . obtain⟨B,rfl,rfl⟩:=Dm g (o 9 Y) ae;have Qa:=o 9 Y;have hv:=((Dw g) (o 7 Y));obtain⟨s1,a1,l1,c1,rfl⟩:=Jk.form2 (show Jk V _ _ from hv);obtain⟨s,a,l,c,n,i⟩:=m.o.int (i:=5) rfl;have e0:=n.c0;have f0:=n.f0;have e1:=n.c1;have f1:=n.f1;clear o;refine Za ?_;obtain⟨x,N,z,P,A,Q,T,W,X,_⟩:=g.o;exact⟨_,_,_,_,_,_,_,_,_,_,_,_,rfl,O ⟨λh=>(x h).set2 n rfl rfl _ _,λh=>(N h).set2 n rfl rfl _ _,λh=>(z h).set2 n rfl rfl _ _,λh=>(P h).set2 n rfl rfl _ _,λh=>(A h).set2 n rfl rfl _ _,λh=>(Q h).set2 n rfl rfl _ _,λh=>(T h).set2 n rfl rfl _ _,λh=>(W h).set2 n rfl rfl _ _,X,⟨λh=>by simp[Qa]at h,λ_ h=>by simp at h,λ_=>⟨B,rfl,rfl⟩⟩⟩,O (m.o.putInt (i:=5) rfl hv)⟩
  rintro D ah du ai ⟨tf,tg,ti,tj,tk,tl,tm,tn,tz,tA,x8,x9,rfl,g,m⟩;obtain⟨B11,rfl,rfl⟩:=g.o.2.2.2.2.2.2.2.2.1.2.2 (ai 10 DQ);obtain⟨B12,rfl,rfl⟩:=g.o.2.2.2.2.2.2.2.2.2.2.2 (ai 11 DQ);clear g ai M3;have M4:Hid (Mem w du [some (w.heap.size,.rat p),some (w.heap.size+1,.rat q),some (w.heap.size+1+1,.rat 0),some (B8,.int cm),some (B11,.int lf),some (B12,.int rt)]):=m;clear m;go_upto_region 5 with fail
  refine Jn Qy [[],[0],[],[1,2],[],[4],[],[5,6,3],[3,7,7],[],[9,8,8,0,1,2,3,4,5,6,7,8,9]] (by kernel_rfl) DQ
   (λD ah V=>∃(tp tq tr ts tt tu tv tw tx tB:L) (x9:Option (Nat × Dat)),ah={ tmps:=#[M #[E s,C a l c,E t,C b k d],M #[E s',C a' l' c',E t',C b' k' d'],G (some ⟨w.heap.size,0,none⟩),G (some ⟨w.heap.size+1,0,none⟩),G (some ⟨w.heap.size+1+1,0,none⟩),G (some ⟨B8,0,none⟩),G (some ⟨B11,0,none⟩),G (some ⟨B12,0,none⟩),tB,undef,u10,u11,u12,u13,u14,E false,u16,u17,u18,u19,u20,u21,ta,tb,tc,td,te,tf,tg,ti,tj,tk,tl,tm,tn,tp,tq,tr,ts,tt,tu,tv,tw,tx,u44,u45,u46,u47,u48,u49,u50,u51,u52,u53,u54,u55,u56],defers:=[] }/\Hid ((D 0=true->tp=G (some ⟨w.heap.size,0,none⟩))/\(D 1=true->Has V tq (.int (Rat.num (p))))/\(D 2=true->Has V tr (.int rt))/\(D 3=true->Has V ts (.int (p.num*rt)))/\(D 4=true->tt=G (some ⟨w.heap.size+1,0,none⟩))/\(D 5=true->Has V tu (.int (Rat.num (q))))/\(D 6=true->Has V tv (.int lf))/\(D 7=true->Has V tw (.int (q.num*lf)))/\(D 8=true->Has V tx (.int ab))/\((D 9=false->x9=none)/\(D 9=true->D 10=false->∃B:Nat,tB=G (some ⟨B,0,none⟩)/\x9=some (B,.int 0))/\(D 10=true->∃B:Nat,tB=G (some ⟨B,0,none⟩)/\x9=some (B,.int ab))))/\Hid (Mem w V [some (w.heap.size,.rat p),some (w.heap.size+1,.rat q),some (w.heap.size+1+1,.rat 0),some (B8,.int cm),some (B11,.int lf),some (B12,.int rt),x9]))
   ⟨_,_,_,_,_,_,_,_,_,_,none,rfl,O ⟨Y,Y,Y,Y,Y,Y,Y,Y,Y,Y⟩,O ((M4.o).none).drew⟩ ?step13 ?fin13
  case step13=>
   rintro D ah V i ds ap hi o ae ⟨tp,tq,tr,ts,tt,tu,tv,tw,tx,tB,x9,rfl,g,m⟩;have Uf:i<11:=(Ad.1 hi).1;obtain rfl|rfl|rfl|rfl|rfl|rfl|rfl|rfl|rfl|rfl|rfl:=GJ i J
   all_goals
    simp only[Af,Ae,Ah]at hi;subst hi
   . clear o;refine Za ?_;exact⟨_,_,_,_,_,_,_,_,_,_,_,rfl,(Dh g),O (m.o)⟩
   . obtain rfl:=(g.o.1 (o 0 Y));clear o;obtain⟨s,a,l,c,t,b,k,d,n,r,i,j⟩:=m.o.rat (i:=0) rfl;obtain⟨e0,e1,e2,e3⟩:=n.cq;refine Za ?_;exact⟨_,_,_,_,_,_,_,_,_,_,_,rfl,(Dn (Dh g) λ_=>i),O (m.o)⟩
   . clear o;obtain⟨s,a,l,c,n,i⟩:=m.o.int (i:=5) rfl;obtain⟨e0,e1⟩:=n.cp;refine Za ?_;exact⟨_,_,_,_,_,_,_,_,_,_,_,rfl,(Df g λ_=>i),O (m.o)⟩
   . have R:=(g.o.2.1 (o 1 Y));have S:=(g.o.2.2.1 (o 2 Y));have U:=O (Xo _ _ p.num rt V R S (by have S:=HP.o.num.words;have h2:=T4.o.words;omega));clear o R S;refine Jb rfl rfl λK hK=>?_;go_simp;go_wp2_with(go_at_call 85;refine U.o.mono ?_;rintro e w5 ⟨v5,rfl,ad,f⟩)
     obtain⟨x,N,z,_,A,Q,T,W,X,G9⟩:=g.o;exact⟨_,_,_,_,_,_,_,_,_,_,_,rfl,O ⟨x,λh=>(N h).below f,λh=>(z h).below f,λ_=>ad,A,λh=>(Q h).below f,λh=>(T h).below f,λh=>(W h).below f,λh=>(X h).below f,G9⟩,O (m.o.below f)⟩
   . clear o;refine Za ?_;exact⟨_,_,_,_,_,_,_,_,_,_,_,rfl,(D9 g),O (m.o)⟩
   . obtain rfl:=(g.o.2.2.2.2.1 (o 4 Y));clear o;obtain⟨s,a,l,c,t,b,k,d,n,r,i,j⟩:=m.o.rat (i:=1) rfl;obtain⟨e0,e1,e2,e3⟩:=n.cq;refine Za ?_;exact⟨_,_,_,_,_,_,_,_,_,_,_,rfl,(EE (D9 g) λ_=>i),O (m.o)⟩
   . clear o;obtain⟨s,a,l,c,n,i⟩:=m.o.int (i:=4) rfl;obtain⟨e0,e1⟩:=n.cp;refine Za ?_;exact⟨_,_,_,_,_,_,_,_,_,_,_,rfl,(D6 g λ_=>i),O (m.o)⟩
   . have R:=((Dl g) (o 5 Y));have S:=((Dq g) (o 6 Y));have U:=O (Xo _ _ q.num lf V R S (by have S:=HQ.o.num.words;have h2:=T3.o.words;omega));clear o R S;refine Jb rfl rfl λK hK=>?_;go_simp;go_wp2_with(go_at_call 85;refine U.o.mono ?_;rintro e w5 ⟨v5,rfl,ad,f⟩)
     obtain⟨x,N,z,P,A,Q,T,_,X,G9⟩:=g.o;exact⟨_,_,_,_,_,_,_,_,_,_,_,rfl,O ⟨x,λh=>(N h).below f,λh=>(z h).below f,λh=>(P h).below f,A,λh=>(Q h).below f,λh=>(T h).below f,λ_=>ad,λh=>(X h).below f,G9⟩,O (m.o.below f)⟩
   . have R:=(g.o.2.2.2.1 (o 3 Y));have S:=((Dw g) (o 7 Y));have U:=O ((by have h:=Nl _ _ (p.num*rt) (q.num*lf) V R S (by have:=T8.o.words;omega) (by have:=T9.o.words;omega);rw[Uj.o]at h;exact h));clear o R S;refine Jb rfl rfl λK hK=>?_;go_simp;go_wp2_with(go_at_call 121;refine U.o.mono ?_;rintro e w5 ⟨v5,rfl,ad,f⟩)
     obtain⟨x,N,z,P,A,Q,T,W,_,G9⟩:=g.o;exact⟨_,_,_,_,_,_,_,_,_,_,_,rfl,O ⟨x,λh=>(N h).below f,λh=>(z h).below f,λh=>(P h).below f,A,λh=>(Q h).below f,λh=>(T h).below f,λh=>(W h).below f,λ_=>ad,G9⟩,O (m.o.below f)⟩
   . have hf:D 10=false:=DR ap ae;obtain rfl:=D7 g ae;clear o;refine Za ?_;obtain⟨x,N,z,P,A,Q,T,W,X,_⟩:=g.o;exact⟨_,_,_,_,_,_,_,_,_,_,_,rfl,O ⟨x,λh=>(N h).alloc _,λh=>(z h).alloc _,λh=>(P h).alloc _,A,λh=>(Q h).alloc _,λh=>(T h).alloc _,λh=>(W h).alloc _,λh=>(X h).alloc _,⟨λh=>by simp at h,λ_ _=>⟨_,rfl,rfl⟩,λh=>by simp[hf]at h⟩⟩,O (m.o.fill (i:=6) rfl (.int 0) (EJ _))⟩
   . obtain⟨B,rfl,rfl⟩:=Dm g (o 9 Y) ae;have Qa:=o 9 Y;have hv:=((Dy g) (o 8 Y));obtain⟨s1,a1,l1,c1,rfl⟩:=Jk.form2 (show Jk V _ _ from hv);obtain⟨s,a,l,c,n,i⟩:=m.o.int (i:=6) rfl;have e0:=n.c0;have f0:=n.f0;have e1:=n.c1;have f1:=n.f1;clear o;refine Za ?_;obtain⟨x,N,z,P,A,Q,T,W,X,_⟩:=g.o;exact⟨_,_,_,_,_,_,_,_,_,_,_,rfl,O ⟨x,λh=>(N h).set2 n rfl rfl _ _,λh=>(z h).set2 n rfl rfl _ _,λh=>(P h).set2 n rfl rfl _ _,A,λh=>(Q h).set2 n rfl rfl _ _,λh=>(T h).set2 n rfl rfl _ _,λh=>(W h).set2 n rfl rfl _ _,λh=>(X h).set2 n rfl rfl _ _,⟨λh=>by simp[Qa]at h,λ_ h=>by simp at h,λ_=>⟨B,rfl,rfl⟩⟩⟩,O (m.o.putInt (i:=6) rfl hv)⟩
  rintro D ah bt ai ⟨tp,tq,tr,ts,tt,tu,tv,tw,tx,tB,x9,rfl,g,m⟩;obtain⟨am,rfl,rfl⟩:=g.o.2.2.2.2.2.2.2.2.2.2.2 (ai 10 DQ);clear g ai M4;have M5:Hid (Mem w bt [some (w.heap.size,.rat p),some (w.heap.size+1,.rat q),some (w.heap.size+1+1,.rat 0),some (B8,.int cm),some (B11,.int lf),some (B12,.int rt),some (am,.int ab)]):=m;clear m;go_upto_region 6 with fail
  obtain⟨im,gg,ib,gk,dp,dh⟩:=M5.o.int (i:=6) rfl;obtain⟨Ub,Qw⟩:=dp.cp;obtain⟨io,gh,ic,gl,dt,di⟩:=M5.o.int (i:=3) rfl;obtain⟨Ua,Qx⟩:=dt.cp;have U:=O (Iw _ _ ab cm bt dh di (by have:=T5.o.words;omega) (by have:=T1.o.words;omega));rw[Uh.o]at U;go_upto_region 7 with(go_at_call 90;refine U.o.mono ?_;clear U;rintro e w1 ⟨u,rfl,hu,hb⟩;obtain⟨bh,bc,bg,bf,rfl⟩:=Jk.form2 hu)
  obtain⟨aj,hV⟩:=ex (w1.alloc (F #[E bh,C bc bg bf] 63));obtain⟨bi,bj⟩:=ex (w1.heap.size);have m:Mem w (w1.alloc (F #[E bh,C bc bg bf] 63)) [some (w.heap.size,.rat p),some (w.heap.size+1,.rat q),some (w.heap.size+1+1,.rat 0),some (B8,.int cm),some (B11,.int lf),some (B12,.int rt),some (am,.int ab),some (w1.heap.size,.int ag)]:=Mem.push (M5.o.below hb) (.int ag) hu;rw[hV,bj]at m;rw[hV];rw[bj];have M6:Hid (Mem w aj [some (w.heap.size,.rat p),some (w.heap.size+1,.rat q),some (w.heap.size+1+1,.rat 0),some (B8,.int cm),some (B11,.int lf),some (B12,.int rt),some (am,.int ab),some (bi,.int ag)]):=O (m);clear M5;clear m hV bj;clear dp Ub Qw dh dt Ua Qx di hu hb;obtain⟨fu,dw,fl,ew,aq,fh⟩:=M6.o.int (i:=6) rfl;obtain⟨Qb,Qo⟩:=aq.cp;obtain⟨fv,dx,fm,f6,aw,dj⟩:=M6.o.int (i:=7) rfl;obtain⟨Qn,Qf⟩:=aw.cp;obtain⟨fw,dz,fo,f7,ay,fi⟩:=M6.o.int (i:=4) rfl;obtain⟨Qh,Qc⟩:=ay.cp;obtain⟨fx,ed,fr,f8,ga,ei,fj,fa,az,ft,gv,gy⟩:=M6.o.rat (i:=1) rfl;obtain⟨Qd,Qi,Qj,Qm⟩:=az.cq;obtain⟨ir,gi,ie,gn,iu,gj,ia,go,af,il,gw,gz⟩:=M6.o.rat (i:=2) rfl;obtain⟨Qe,Qk,Ql,Qg⟩:=af.cq;obtain⟨Qq,Qr,Qp,Qs⟩:=af.fq;obtain⟨H1,H2,H3,H4,H5⟩:=GY (λ(V:H) (h:Bl aj V)=>Gb _ _ ab ag V (fh.below h) (dj.below h) T7.o T5.o T6.o) (λ(V:H) (h:Bl aj V)=>F7 _ q V (ft.below h)) (λ(V:H) (u:L) (h:Bl aj V) (hu:Jk V u (q.den:Int))=>Gb u _ (q.den:Int) ag V hu (dj.below h) T7.o HQ.o.den T6.o) (λ(V:H) (u:L) (h:Bl aj V) (hu:Jk V u ((q.den:Int)/ag))=>Xo _ u lf ((q.den:Int)/ag) V (fi.below h) hu (by have S:=T3.o.words;have h2:=(Sok.div (y:=ag) HQ.o.den).words;omega)) λ(V:H) (u v:L) (hu:Jk V u (ab/ag)) (hv:Jk V v (lf*((q.den:Int)/ag)))=>L2 u v (p+q) V (by rw[Wb.o];exact hu) (by rw[Us.o];exact hv);have ij:am≠w.heap.size+1+1:=M6.o.ne 6 2 rfl rfl DQ;have ik:bi≠w.heap.size+1+1:=M6.o.ne 7 2 rfl rfl DQ;have ii:B11≠w.heap.size+1+1:=M6.o.ne 4 2 rfl rfl DQ;have ig:w.heap.size+1≠w.heap.size+1+1:=M6.o.ne 1 2 rfl rfl DQ;have hq:Bl aj aj.drew:=(BB _ aj).drew;go_region_held3 (λw'=>w'.cell? ⟨am,0,none⟩=some (E fu)/\w'.cell? ⟨am,1,none⟩=some (C dw fl ew)/\w'.cell? ⟨bi,0,none⟩=some (E fv)/\w'.cell? ⟨bi,1,none⟩=some (C dx fm f6)/\w'.cell? ⟨B11,0,none⟩=some (E fw)/\w'.cell? ⟨B11,1,none⟩=some (C dz fo f7)/\w'.cell? ⟨w.heap.size+1,0,none⟩=some (E fx)/\w'.cell? ⟨w.heap.size+1,1,none⟩=some (C ed fr f8)/\w'.cell? ⟨w.heap.size+1,2,none⟩=some (E ga)/\w'.cell? ⟨w.heap.size+1,3,none⟩=some (C ei fj fa)) (first|(with_reducible exact⟨Qb,Qo,Qn,Qf,Qh,Qc,Qd,Qi,Qj,Qm⟩)|(go_keep;done)|(refine⟨?_,?_,?_,?_,?_,?_,?_,?_,?_,?_⟩<;>((repeat rw[JH J]);first|assumption|(go_keep;done))))
   (first
    |(go_at_call 91;refine(H1.o _ hq).mono ?_;clear H1;rintro e w2 ⟨u2,rfl,Qt,ak⟩;have hq:=Bt hq ak;obtain⟨Qb,Qo⟩:=(aq.below hq).cp;obtain⟨Qn,Qf⟩:=(aw.below hq).cp;obtain⟨Qh,Qc⟩:=(ay.below hq).cp;obtain⟨Qd,Qi,Qj,Qm⟩:=(az.below hq).cq;obtain⟨Qe,Qk,Ql,Qg⟩:=(af.below hq).cq;obtain⟨Qq,Qr,Qp,Qs⟩:=(af.below hq).fq)
    |(go_at_call 86;refine(H2.o _ hq).mono ?_;clear H2;rintro e w3 ⟨u3,rfl,fd,cg⟩;have Qt:=Qt.below cg;have hq:=Bt hq cg;obtain⟨Qb,Qo⟩:=(aq.below hq).cp;obtain⟨Qn,Qf⟩:=(aw.below hq).cp;obtain⟨Qh,Qc⟩:=(ay.below hq).cp;obtain⟨Qd,Qi,Qj,Qm⟩:=(az.below hq).cq;obtain⟨Qe,Qk,Ql,Qg⟩:=(af.below hq).cq;obtain⟨Qq,Qr,Qp,Qs⟩:=(af.below hq).fq)
    |(go_at_call 91;refine(H3.o _ _ hq fd).mono ?_;clear H3;rintro e w4 ⟨u4,rfl,fe,ci⟩;have Qt:=Qt.below ci;have hq:=Bt hq ci;obtain⟨Qb,Qo⟩:=(aq.below hq).cp;obtain⟨Qn,Qf⟩:=(aw.below hq).cp;obtain⟨Qh,Qc⟩:=(ay.below hq).cp;obtain⟨Qd,Qi,Qj,Qm⟩:=(az.below hq).cq;obtain⟨Qe,Qk,Ql,Qg⟩:=(af.below hq).cq;obtain⟨Qq,Qr,Qp,Qs⟩:=(af.below hq).fq)
    |(go_at_call 85;refine(H4.o _ _ hq fe).mono ?_;clear H4;rintro e w5 ⟨u5,rfl,fg,f⟩;have Qt:=Qt.below f;have hq:=Bt hq f;obtain⟨Qb,Qo⟩:=(aq.below hq).cp;obtain⟨Qn,Qf⟩:=(aw.below hq).cp;obtain⟨Qh,Qc⟩:=(ay.below hq).cp;obtain⟨Qd,Qi,Qj,Qm⟩:=(az.below hq).cq;obtain⟨Qe,Qk,Ql,Qg⟩:=(af.below hq).cq;obtain⟨Qq,Qr,Qp,Qs⟩:=(af.below hq).fq)
    |(go_at_call 92;refine(H5.o _ _ _ Qt fg).mono ?_;clear H5;rintro e w6 ⟨u6,rfl,de,fc⟩;obtain⟨fy,eh,fs,f9,gb,et,fk,fb,rfl⟩:=Jj.form de;have hq:=Bt hq fc;obtain⟨Qb,Qo⟩:=(aq.below hq).cp;obtain⟨Qn,Qf⟩:=(aw.below hq).cp;obtain⟨Qh,Qc⟩:=(ay.below hq).cp;obtain⟨Qd,Qi,Qj,Qm⟩:=(az.below hq).cq;obtain⟨Qe,Qk,Ql,Qg⟩:=(af.below hq).cq;obtain⟨Qq,Qr,Qp,Qs⟩:=(af.below hq).fq))
  all_goals go_wp2_with fail
  have Uc:=Bt M6.o.2.2 hq;have Uo:=M6.o.ge 2 rfl;exact BA (v:=M #[E fy,C eh fs f9,E gb,C et fk fb]) (by simp[results,Tryz.results87,go_sem,Qe,Qk,Ql,Qg]) rfl ⟨_,rfl,de.put4 (af.below hq) rfl rfl rfl rfl _ _ _ _,Ju Uc Uo _ _ _ _⟩
