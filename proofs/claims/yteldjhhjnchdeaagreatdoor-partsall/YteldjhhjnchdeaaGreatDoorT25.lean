import Derived.Test.YteldjhhjnchdeaaGreatDoorT22
import Derived.Test.YteldjhhjnchdeaaGreatDoorT24
set_option linter.all false
open Go.Value renaming slice->C,bool->E,pointer->L,agg->S
open Go.Obj renaming cells->G
open Go renaming World->H,Value->D,Calls->F,undef->N
open Go.Proofs.Tryz renaming prog->I
set_option maxRecDepth 99999
set_option maxHeartbeats 0
namespace Go.Proofs.YteldjhhjnchdeaaGreatDoor
open Rat renaming divInt->kU
open Proofs.Tryz
open Go.RowKit Go.Shelf
attribute [local go_sem] Oper.semAt_some
def Ii(A B:D)(x y:Int)(w:H)(U:Jk w A x)(W:Jk w B y)(q:(Jc Z x.natAbs).length<1000000000000)(r:(Jc Z y.natAbs).length<1000000000000):
 F I 90 #[A,B] w λe d=>∃u,e=.returned u/\Jk d u (Int.gcd x y:Nat)/\Bl w d:=by
 obtain⟨a,la,ca,g,c⟩:=U;cases g;obtain⟨b,lb,cb,g,m⟩:=W;cases g;have n:=c.len;have o:=m.len;obtain⟨s,hs⟩:=ex (decide (x<0));obtain⟨t,v⟩:=ex (decide (y<0));rw[hs,v];obtain⟨W0,j⟩:=ex (((w.alloc (G #[E s,C a la ca] 63)).alloc (G #[E t,C b lb cb] 63)).alloc (G #[E false,C none 0 0] 63));obtain⟨i,b0,T,f⟩:=Lk j;have M:=Y (aC a la ca b lb cb _ _ W0 (UN.below c i) (UN.below m i) (by rw[n];exact q) (by rw[o];exact r));have K:=Y λ(V:H) (u:D) (c:UN V u (Nat.gcd x.natAbs y.natAbs))=>show F I 119 #[E false,u] V λe d=>∃u,e=.returned u/\Jk d u (Int.gcd x y:Nat)/\Bl V d from I5 false u _ V c;have k1:=b0.c1;have k3:=T.c1;have Q:=Y j;clear c m hs v n o q r j;go_enter func90,ntmps90
 go_upto_region 1 with fail
 rw[Q.o];have ae:¬(w.heap.size=w.heap.size+1+1):=O
 go_wp2_with(first
  |(go_at_call 122;refine M.o.mono ?_;rintro e w1 ⟨u1,rfl,z,X⟩;obtain⟨na,nc,rfl⟩:=UN.form z)
  |(go_at_call 119;refine(K.o _ _ z).mono ?_;rintro e w2 ⟨u2,rfl,l,ad⟩;obtain⟨sa,sl,sc,rfl⟩:=l.form;obtain⟨s2,k⟩:=ex (decide (((Int.gcd x y:Nat):Int)<0));rw[k]at l;rw[k];clear k;have hq:=Bt X ad;obtain⟨r0,r1⟩:=(f.below hq).cp;obtain⟨f0,f1⟩:=(f.below hq).fp))
 have R:=Bt i hq;have P:=l.box (f.below hq) J J (x0:=E s2) (x1:=C sa sl sc);exact BA (by simp[results,results90,go_sem,r0,r1]) J ⟨_,J,P,(R.setCell (p:=⟨_,0,none⟩) so _).setCell (p:=⟨_,1,none⟩) so _⟩
def Rk(w:H)(a b c d:Obj):Bl w ((((w.alloc a).alloc b).alloc c).alloc d):=
 (((Ba w _).alloc DK _).alloc si _).alloc si _
theorem Rl{x y z r:Int}(d:y≠0)(h:r+y*z=x)(c:0<=r)(e:r<y.natAbs):z=x/y/\r=x%y:=by
 rcases Int.lt_or_gt_of_ne d with g|hp
 . have f:=(Int.ediv_emod_unique (a:=x) (b:=-y) (r:=r) (q:=-z) O).2 ⟨DX,c,O⟩;grind[Int.ediv_neg,Int.emod_neg]
 grind[Int.ediv_emod_unique]
theorem Rm{x y:Int}(b:y≠0)(c:¬(x<0/\x.natAbs%y.natAbs≠0)):
 (if(!(decide (x<0)==decide (y<0)))=true then -((x.natAbs/y.natAbs:Nat):Int)else((x.natAbs/y.natAbs:Nat):Int))=x/y/\((x.natAbs%y.natAbs:Nat):Int)=x%y:=by
 have a:=A4 x.natAbs y.natAbs;have d:=AZ x.natAbs (show y.natAbs>0 by omega);generalize x.natAbs/y.natAbs=Q at *;generalize x.natAbs%y.natAbs=R at *;have e:(y.natAbs:Int)*Q+R=x.natAbs:=by rw[<-a];push_cast;rfl
 apply Rl b _ O O;grind
theorem Rn{x y:Int}(c:y≠0)(a:x<0/\x.natAbs%y.natAbs≠0):
 (if(!(decide (x<0)==decide (y<0)))=true then -((x.natAbs/y.natAbs+1:Nat):Int)else((x.natAbs/y.natAbs+1:Nat):Int))=x/y/\((y.natAbs-x.natAbs%y.natAbs:Nat):Int)=x%y:=by
 have b:=A4 x.natAbs y.natAbs;have e:=AZ x.natAbs (show y.natAbs>0 by omega);generalize x.natAbs/y.natAbs=Q at *;generalize x.natAbs%y.natAbs=R at *;have f:(y.natAbs:Int)*Q+R=x.natAbs:=by rw[<-b];push_cast;rfl
 obtain⟨g,d⟩:=a;apply Rl c _ O O;grind
def MD{W:H}{B:Nat}{t:TypeId}{c d u0 u1:D}(x0 x1 a b:D)(h:Jn W B t c d)(k:Jn W (B+1) t u0 u1):
 Jn ((((W.setCell ⟨B,0,none⟩ x0).setCell ⟨B,1,none⟩ x1).setCell ⟨B+1,0,none⟩ a).setCell ⟨B+1,1,none⟩ b) B t x0 x1/\Jn ((((W.setCell ⟨B,0,none⟩ x0).setCell ⟨B,1,none⟩ x1).setCell ⟨B+1,0,none⟩ a).setCell ⟨B+1,1,none⟩ b) (B+1) t a b:=
 ⟨(((h.set0 x0).set1 x1).far DK a).far DK b,(((k.far DK x0).far DK x1).set0 a).set1 b⟩
def aU(w:H)(a b c d:D)(p0 p1:D):
 Jn ((((w.alloc (G #[a,b] 63)).alloc (G #[c,d] 63)).alloc (G #[p0,p1] 63)).alloc (G #[p0,p1] 63)) w.heap.size 63 a b/\
 Jn ((((w.alloc (G #[a,b] 63)).alloc (G #[c,d] 63)).alloc (G #[p0,p1] 63)).alloc (G #[p0,p1] 63)) (w.heap.size+1) 63 c d/\
 Jn ((((w.alloc (G #[a,b] 63)).alloc (G #[c,d] 63)).alloc (G #[p0,p1] 63)).alloc (G #[p0,p1] 63)) (w.heap.size+1+1) 63 p0 p1/\
 Jn ((((w.alloc (G #[a,b] 63)).alloc (G #[c,d] 63)).alloc (G #[p0,p1] 63)).alloc (G #[p0,p1] 63)) (w.heap.size+1+1+1) 63 p0 p1:=by
 refine⟨(((Jn.new w _ _ _).alloc _).alloc _).alloc _,?_,?_,?_⟩
 . have h:=((Jn.new (w.alloc (G #[a,b] 63)) 63 c d).alloc (G #[p0,p1] 63)).alloc (G #[p0,p1] 63);rw[A1]at h;exact h
 . have h:=(Jn.new ((w.alloc (G #[a,b] 63)).alloc (G #[c,d] 63)) 63 p0 p1).alloc (G #[p0,p1] 63);rw[A1,A1]at h;exact h
 . have h:=Jn.new (((w.alloc (G #[a,b] 63)).alloc (G #[c,d] 63)).alloc (G #[p0,p1] 63)) 63 p0 p1;rw[A1,A1,A1]at h;exact h
theorem aV(a:kR)(la ca:Nat)(b:kR)(lb cb X c:Nat)(s t:Bool)(z r:Int)(w:H)(hu:UN w (C a la ca) X)(hv:UN w (C b lb cb) c)(hY:c≠0)(bg:la<1000000000000)(bh:lb<1000000000000)
(HP:Hid (¬(s=true/\X%c≠0)->(if(!(s==t))=true then -((X/c:Nat):Int)else((X/c:Nat):Int))=z/\((X%c:Nat):Int)=r))
(HN:Hid (s=true/\X%c≠0->(if(!(s==t))=true then -((X/c+1:Nat):Int)else((X/c+1:Nat):Int))=z/\((c-X%c:Nat):Int)=r)):
 F I 123 #[S #[E s,C a la ca],S #[E t,C b lb cb]] w λe d=>∃q o,e=.returned (.tuple #[q,o,E true])/\Jk d q z/\Jk d o r/\Bl w d:=by
 obtain⟨b0,k,K,M⟩:=aU w (E s) (C a la ca) (E t) (C b lb cb) (E false) (C none 0 0);have A:=Rk w (G #[E s,C a la ca] 63) (G #[E t,C b lb cb] 63) (G #[E false,C none 0 0] 63) (G #[E false,C none 0 0] 63);obtain⟨W0,ad⟩:=ex ((((w.alloc (G #[E s,C a la ca] 63)).alloc (G #[E t,C b lb cb] 63)).alloc (G #[E false,C none 0 0] 63)).alloc (G #[E false,C none 0 0] 63));rw[ad]at b0 k K M A;have Qh:=Y ad;have bi:lb≠0:=λe=>hY ((JF Je).1 (Ao (by rw[<-UN.len hv,e])));have Qn:=UN.below hu A;have Qd:=UN.below hv A;have Qm:=Y (OH a la ca b lb cb X c W0 Qn Qd hY O);have Qw:=Y Qd;have Qq:=Y (UN.len hu).symm;obtain⟨k0,k1⟩:=b0.cp;obtain⟨k2,x⟩:=k.cp;clear ad hu hv Qn Qd;go_enter func123,ntmps123
 go_upto_region 1 with fail
 rw[Qh.o];go_upto_region 4 with(go_at_call 146;refine Qm.o.mono ?_;rintro e w1 ⟨u1,v1,rfl,l,W,i⟩;obtain⟨ua,uc,rfl⟩:=UN.form l;obtain⟨va,vc,rfl⟩:=UN.form W)
 clear Qm Qh;obtain⟨k0,k1⟩:=(b0.below i).cp;obtain⟨k2,x⟩:=(k.below i).cp;have Qg:(Jc Z (X%c)).length=0↔X%c=0:=⟨λh=>(JF Je).1 (Ao h),λh=>by rw[h,JD];rfl⟩;have bk:=AZ X (show c>0 by omega);have bj:=Xq (m:=X) (n:=X/c) (Fb _ _);have Qk:(Jc Z (X/c)).length<1099511627776:=by
  have f:=(Js l).2.2.2.1
  have:(Jc Z X).length=la:=by
   have h:=Qq.o;omega
  omega
 obtain⟨lr,ay⟩:=ex ((Jc Z (X%c)).length);obtain⟨lq,aq⟩:=ex ((Jc Z (X/c)).length);rw[ay]at W Qg ⊢;rw[aq]at l Qk ⊢;obtain⟨cd,ap⟩:=ex ((s&&decide (0<lr)):Bool);have j:=Y ap;have Qp:=Y Qg;clear ap Qg ay aq;go_cut [29] λv y=>v=E cd/\y=w1
 case first=>
  cases s with
  |false=>
   have e5:cd=false:=by rw[<-j.o];rfl
   go_wp2_with fail
   go_meet
   grind
  |true=>
   by_cases h5:0<lr
   . have e5:cd=true:=by rw[<-j.o];simp;omega
     go_wp2_with fail
     go_meet
     grind
   . have e5:cd=false:=by rw[<-j.o];simp;omega
     go_wp2_with fail
     go_meet
     grind
 case rest=>
  obtain⟨rfl,rfl⟩:=hcut;go_upto_if 29 with fail
  go_cut [7,8] λqv rv y=>∃(qa:kR) (ql qc Q:Nat) (oa:kR) (ol oc R:Nat),qv=C qa ql qc/\rv=C oa ol oc/\Hid (UN y (C qa ql qc) Q)/\Hid (UN y (C oa ol oc) R)/\Hid ((if(!(s==t))=true then -(Q:Int)else(Q:Int))=z/\(R:Int)=r)/\Bl W0 y
  case first=>
   cases cd with
   |false=>
    have U:¬(s=true/\X%c≠0):=λ⟨f,h2⟩=>by
     have h:=j.o;rw[f]at h;simp at h;exact h2 (Qp.o.1 h)
    go_wp2_with fail
    go_meet
    case rel=>exact⟨_,_,_,_,_,_,_,_,J,J,Y l,Y W,Y (HP.o U),i⟩
   |true=>
    have U:s=true/\X%c≠0:=by
     have h:=j.o;simp at h;exact⟨h.1,λe=>by have:=Qp.o.2 e;omega⟩
    have HC:=Y U;clear U;have Qv:=Y (show ∀V:H,Bl wc V->F I 142 #[C ua lq uc,C (some ⟨V.heap.size,0,none⟩) 1 1] (V.alloc (G #[.int .u64 1] 156)) λe d=>∃u,e=.returned u/\UN d u (X/c+1)/\Below (V.alloc (G #[.int .u64 1] 156)).heap.size (V.alloc (G #[.int .u64 1] 156)) d from λV h=>by
     have Qe:Row .u64 (V.alloc (G #[.int .u64 1] 156)) (C (some ⟨V.heap.size,0,none⟩) 1 1) (Jc Z 1):=by
      rw[OI O uo];exact(DP.made (xs:=[1]) (BC V (G #[.int .u64 ((1:Nat):Int)] 156))).row 0 1 1 DK O O O
     exact QB ua lq uc (some ⟨V.heap.size,0,none⟩) 1 1 (X/c) 1 _ (Row.below (Row.below l h) (Ba V _)) Qe Qk O)
    have Qz:=Y λ(V:H) (h:Bl wc V)=>Nt b lb cb va lr vc c (X%c) V (Row.below (Row.below Qw.o i) h) (Row.below W h) O;have hq:Bl wc wc.drew:=(BB _ wc).drew;have P:=k.below i;have lx:=P.lt;go_wp2_with fail
    have x:=P.c1;go_region_held3 (λd=>d.cell? ⟨w.heap.size+1,1,none⟩=some (C b lb cb)) (first|exact x|(go_keep;done))
     (first
      |(go_at_call 142;refine(Qv.o _ hq).mono ?_;rintro e w3 ⟨u3,rfl,az,bf⟩;obtain⟨pa,pc,rfl⟩:=UN.form az;have hq:=RF hq bf;have x:=(P.below hq).c1)
      |(go_at_call 143;refine(Qz.o _ hq).mono ?_;rintro e w4 ⟨u4,rfl,bc,am⟩;obtain⟨ma,mc,rfl⟩:=UN.form bc;have hq:=Bt hq am;have x:=(P.below hq).c1))
    all_goals go_wp2_with fail
    go_meet
    case rel=>exact⟨_,_,_,_,_,_,_,_,J,J,Y (UN.below az am),Y bc,Y (HN.o HC.o),Bt i hq⟩
  case rest=>
   obtain⟨qa,ql,qc,Q,oa,ol,oc,R,rfl,rfl,hQ,hR,hZ,T⟩:=hcut;have Qi:=Y (show ∀V:H,Bl wc V->F I 119 #[E (!(s==t)),C qa ql qc] V λe d=>∃u,e=.returned u/\Jk d u z/\Bl V d from λV h=>by
    have f:=I5 (!(s==t)) _ _ V (UN.below hQ.o h);rw[hZ.o.1]at f;exact f)
   have Qj:=Y (show ∀V:H,Bl wc V->F I 119 #[E false,C oa ol oc] V λe d=>∃u,e=.returned u/\Jk d u r/\Bl V d from λV h=>by
    have f:=I5 false _ _ V (UN.below hR.o h);simp only[CU,if_false]at f;rw[hZ.o.2]at f;exact f)
   have k0:=(b0.below T).c0;have k2:=(k.below T).c0;go_wp2_with(first
    |(go_at_call 119;refine(Qi.o _ (BB _ _)).mono ?_;clear Qi;rintro e w5 ⟨u5,rfl,aj,ae⟩;obtain⟨B,l5,c5,rfl⟩:=aj.form;obtain⟨s5,ah⟩:=ex (decide (z<0));rw[ah]at aj;rw[ah];clear ah)
    |(go_at_call 119;refine(Qj.o _ ae).mono ?_;clear Qj;rintro e w6 ⟨u6,rfl,ak,an⟩;obtain⟨a6,l6,c6,rfl⟩:=ak.form;obtain⟨s6,ai⟩:=ex (decide (r<0));rw[ai]at ak;rw[ai];clear ai;have g:=(Bt T ae).trans (an.mono (Bt T ae).size);obtain⟨q0,q1⟩:=(K.below g).cp;obtain⟨q2,q3⟩:=(M.below g).cp;obtain⟨f0,f1⟩:=(K.below g).fp;obtain⟨f2,f3⟩:=(M.below g).fp))
   have Qf:=K.below g;have Qo:=M.below g;obtain⟨z4,z5⟩:=MD (E s5) (C B l5 c5) (E s6) (C a6 l6 c6) Qf Qo;obtain⟨Qy,Qx⟩:=z4.cp;obtain⟨Qr,Qu⟩:=z5.cp;have Ql:Jn ((w6.setCell ⟨w.heap.size+1+1,0,none⟩ (E s5)).setCell ⟨w.heap.size+1+1,1,none⟩ (C B l5 c5)) (w.heap.size+1+1+1) 63 (E false) (C none 0 0):=(Qo.far DK _).far DK _;have Qs:=((aj.below an).box Qf J J (x0:=E s5) (x1:=C B l5 c5)).box Ql J J (x0:=E s6) (x1:=C a6 l6 c6);have Qt:=(ak.box Qf J J (x0:=E s5) (x1:=C B l5 c5)).box Ql J J (x0:=E s6) (x1:=C a6 l6 c6);have Ua:=Bt A g;exact BA (by simp[results,results123,go_sem,Qy,Qx,Qr,Qu]) J ⟨_,_,J,Qs,Qt,(((Ua.setCell (p:=⟨_,0,none⟩) so _).setCell (p:=⟨_,1,none⟩) so _).setCell (p:=⟨_,0,none⟩) so _).setCell (p:=⟨_,1,none⟩) so _⟩
def Ro(j k:D)(x y:Int)(w:H)(l:Jk w j x)(m:Jk w k y)(i:y≠0)(n:(Jc Z x.natAbs).length<1000000000000)(p:(Jc Z y.natAbs).length<1000000000000):
 F I 123 #[j,k] w λe d=>∃q o,e=.returned (.tuple #[q,o,E true])/\Jk d q (x/y)/\Jk d o (x%y)/\Bl w d:=by
 obtain⟨a,la,ca,rfl,f⟩:=l;obtain⟨b,lb,cb,rfl,g⟩:=m;refine aV a la ca b lb cb x.natAbs y.natAbs _ _ (x/y) (x%y) w f g O (by rw[UN.len f];exact n) (by rw[UN.len g];exact p) (λc=>Rm i λh=>c ⟨BI h.1,h.2⟩) (λc=>Rn i ⟨Bf c.1,c.2⟩)
section
open M3
def aW(z:Int):(EC z 0=0)↔z=0:=by
 unfold EC;omega
def Rp(v:D)(z:Int)(w:H)(h:Jk w v z):
 F I 117 #[v] w λe m=>e=.returned (E (decide (z=0)))/\Bl w m:=by
 obtain⟨a,l,c,rfl⟩:=h.form;obtain⟨s,hs⟩:=ex (decide (z<0));rw[hs]at h ⊢;clear hs;have b0:=Jn.new w 63 (E s) (C a l c);have b:Bl w (w.alloc (G #[E s,C a l c] 63)):=Ba w _;obtain⟨W0,d⟩:=ex (w.alloc (G #[E s,C a l c] 63));rw[d]at b0 b;have j:=Y d;have f:=Y (Ia _ _ z 0 W0 (h.below b) (EY _));obtain⟨o,p⟩:=b0.cp;have g:=Y (aW z);obtain⟨n,i⟩:=ex (EC z 0);rw[i]at f g;clear d i;go_enter func117,ntmps117
 go_upto_region 1 with fail
 rw[j.o];go_wp2_with(go_at_call 104;refine f.o.mono ?_;rintro e q ⟨rfl,k⟩)
 go_ret;refine⟨?_,Bt b k⟩;show Ending.returned (Value.bool (n==0))=_;have e:(n==0)=decide (z=0):=by rw[Cu];simp[g.o]
 rw[e]
def dd(y:Int):Int:=if y=0 then 1 else y
def Rq(v:D)(x y:Int)(w:H)(h:Xr w v x y):
 F I 89 #[v] w λe q=>e=.returned (E (decide (y=0)))/\Bl w q:=by
 obtain⟨s,a,l,c,t,b,k,d,rfl,r,o⟩:=h;have b0:=JN.new w 65 (E s) (C a l c) (E t) (C b k d);have f:Bl w (w.alloc (G #[E s,C a l c,E t,C b k d] 65)):=Ba w _;obtain⟨W0,g⟩:=ex (w.alloc (G #[E s,C a l c,E t,C b k d] 65));rw[g]at b0 f;have m:=Y g;have i:=Y (Rp _ _ W0 (o.below f));have u:=b0.c2;have z:=b0.c3;obtain⟨n,j⟩:=ex (decide (y=0));rw[j]at i ⊢;clear g j;go_enter func89,ntmps89
 go_upto_region 1 with fail
 rw[m.o];go_wp2_with(go_at_call 117;refine i.o.mono ?_;rintro e A ⟨rfl,p⟩)
 go_ret;exact⟨J,Bt f p⟩
def aX(v:D)(x y:Int)(w:H)(h:Xr w v x y):
 F I 86 #[v] w λe R=>∃u,e=.returned u/\Jk R u (dd y)/\Bl w R:=by
 have B:=h;obtain⟨s,a,l,c,t,b,k,d,rfl,U,K⟩:=h;obtain⟨W0,i⟩:=ex ((w.alloc (G #[E s,C a l c,E t,C b k d] 65)).alloc (G #[E false,C none 0 0] 63));have b0:JN W0 w.heap.size 65 (E s) (C a l c) (E t) (C b k d):=by rw[<-i];exact(JN.new w _ _ _ _ _).alloc _
 have m:Bl w W0:=by rw[<-i];exact N1 w _ _
 have g:Jn W0 (w.heap.size+1) 63 (E false) (C none 0 0):=by
  have h:=Jn.new (w.alloc (G #[E s,C a l c,E t,C b k d] 65)) 63 (E false) (C none 0 0);rw[A1,i]at h;exact h
 have j:=Y (Rq _ x y W0 (B.below m));have A:=Y i;obtain⟨X,k1,k2,k3⟩:=b0.cq;have T:=Y (K.below m);clear B U K i;by_cases hq:y=0
 . rw[BI hq]at j;have n:=Y (show dd y=1 by unfold dd;rw[BL hq]);clear hq;go_enter func86,ntmps86
   go_upto_region 1 with fail
   rw[A.o];go_wp2_with(first
    |(go_at_call 89;refine j.o.mono ?_;rintro e W ⟨rfl,f⟩)
    |(go_at_call 95;refine(Jx 1 O O _).mono ?_;rintro e w2 ⟨u2,rfl,z,V⟩;obtain⟨Q,sl,sc,rfl⟩:=z.form;obtain⟨P,r⟩:=ex (decide ((1:Int)<0));rw[r]at z;rw[r];clear r;have hq:=Bt f V;obtain⟨r0,r1⟩:=(g.below hq).cp;obtain⟨f0,f1⟩:=(g.below hq).fp))
   have q:=Bt m hq;have o:=z.box (g.below hq) J J (x0:=E P) (x1:=C Q sl sc);exact BA (v:=S #[E P,C Q sl sc]) (by simp[results,results86,go_sem,r0,r1]) J ⟨_,J,by rw[n.o];exact o,(q.setCell (p:=⟨_,0,none⟩) so _).setCell (p:=⟨_,1,none⟩) so _⟩
 . rw[BE hq]at j;have n:=Y (show y=dd y by unfold dd;rw[BH hq]);clear hq;go_enter func86,ntmps86
   go_upto_region 1 with fail
   rw[A.o];go_wp2_with(go_at_call 89;refine j.o.mono ?_;rintro e W ⟨rfl,f⟩;have m2:=(b0.below f).c2;have m3:=(b0.below f).c3;obtain⟨r0,r1⟩:=(g.below f).cp;obtain⟨f0,f1⟩:=(g.below f).fp)
   have q:=Bt m f;have M:=T.o.below f;rw[n.o]at M;have o:=M.box (g.below f) J J (x0:=E t) (x1:=C b k d);exact BA (v:=S #[E t,C b k d]) (by simp[results,results86,go_sem,r0,r1]) J ⟨_,J,o,(q.setCell (p:=⟨_,0,none⟩) so _).setCell (p:=⟨_,1,none⟩) so _⟩
def aY(q:Rat):dd (denZ q)=q.den:=by
 have:=q.den_pos;unfold dd denZ;omega
def XR(v:D)(q:Rat)(w:H)(h:Jl w v q):
 F I 89 #[v] w λe b=>e=.returned (E (decide (q.den=1)))/\Bl w b:=by
 have a:=Rq v q.num (denZ q) w h.pair;rwa[decide_eq_decide.2 Lr]at a
def Ez(v:D)(q:Rat)(w:H)(h:Jl w v q):
 F I 86 #[v] w λe a=>∃u,e=.returned u/\Jk a u (q.den:Int)/\Bl w a:=by
 have b:=aX v q.num (denZ q) w h.pair;rwa[aY]at b
def F9(P Q:D)(x y:Int)(w:H)(g:Jk w P x)(i:Jk w Q y)(M:y≠0)(z:Sok x)(A:Sok y):
 F I 91 #[P,Q] w λe R=>∃u,e=.returned u/\Jk R u (x/y)/\Bl w R:=by
 obtain⟨a,la,ca,rfl⟩:=g.form;obtain⟨b,lb,cb,rfl⟩:=i.form;obtain⟨s,hs⟩:=ex (decide (x<0));obtain⟨t,B⟩:=ex (decide (y<0));rw[hs]at g ⊢;rw[B]at i ⊢;clear hs B;obtain⟨W0,m⟩:=ex (((w.alloc (G #[E s,C a la ca] 63)).alloc (G #[E t,C b lb cb] 63)).alloc (G #[E false,C none 0 0] 63));obtain⟨l,b0,X,bR⟩:=Lk m;have T:=Y (Ro _ _ x y W0 (g.below l) (i.below l) M (by have:=z.words;omega) (by have:=A.words;omega));have V:=Y m;obtain⟨k0,k1⟩:=b0.cp;obtain⟨k2,k3⟩:=X.cp;clear g i M z A m;go_enter func91,ntmps91
 go_upto_region 1 with fail
 rw[V.o];go_upto_region 2 with(go_at_call 123;refine T.o.mono ?_;rintro e r ⟨u1,u2,rfl,q,K,v⟩;obtain⟨c,l1,c1,rfl⟩:=q.form;obtain⟨d,n⟩:=ex (decide (x/y<0));rw[n]at q;rw[n];clear n;obtain⟨f,l2,c2,rfl⟩:=K.form;obtain⟨j,o⟩:=ex (decide (x%y<0));rw[o]at K;rw[o];clear o)
 have bq:=(Jn.new r 63 (E d) (C c l1 c1)).alloc (G #[E j,C f l2 c2] 63);have k:=((bR.below v).alloc (G #[E d,C c l1 c1] 63)).alloc (G #[E j,C f l2 c2] 63);have hu:=(q.alloc (G #[E d,C c l1 c1] 63)).alloc (G #[E j,C f l2 c2] 63);have W:Bl w ((r.alloc (G #[E d,C c l1 c1] 63)).alloc (G #[E j,C f l2 c2] 63)):=Bt (Bt l v) (N1 r _ _)
 obtain⟨q0,q1⟩:=bq.cp;obtain⟨r0,r1⟩:=k.cp;obtain⟨f0,f1⟩:=k.fp;go_wp2_with fail
 have U:=hu.box k J J (x0:=E d) (x1:=C c l1 c1);exact BA (by simp[results,results91,go_sem,r0,r1]) J ⟨_,J,U,(W.setCell (p:=⟨_,0,none⟩) so _).setCell (p:=⟨_,1,none⟩) so _⟩
def OP(w:H)(s t:Bool)(a b:kR)(la ca lb cb:Nat)(x y:Int)(c:Jk w (S #[E s,C a la ca]) x)(d:Jk w (S #[E t,C b lb cb]) y):
 DL w (((w.alloc (G #[E s,C a la ca] 63)).alloc (G #[E t,C b lb cb] 63)).alloc (G #[E false,C none 0 0,E false,C none 0 0] 65)) [some (w.heap.size,.int x),some (w.heap.size+1,.int y),some (w.heap.size+1+1,.rat 0)]:=by
 have h:=(((DL.nil w).push (.int x) c).push (.int y) (d.alloc _)).push (.rat 0) (ER _);rw[A1,A1,A1]at h;exact h
def Jl.mk{W:H}{s t:Bool}{a b:kR}{l c k d:Nat}{q:Rat}(e:Jk W (S #[E s,C a l c]) q.num)(f:Jk W (S #[E t,C b k d]) (denZ q)):Jl W (S #[E s,C a l c,E t,C b k d]) q:=⟨_,_,_,_,_,_,_,_,J,e,f⟩
def ME(Q R:D)(q:Rat)(w:H)(g:Jk w Q q.num)(d:Jk w R (q.den:Int)):
 F I 92 #[Q,R] w λe i=>∃u,e=.returned u/\Jl i u q/\Bl w i:=by
 obtain⟨a,la,ca,rfl⟩:=g.form;obtain⟨b,lb,cb,rfl⟩:=d.form;obtain⟨s,hs⟩:=ex (decide (q.num<0));obtain⟨t,A⟩:=ex (decide ((q.den:Int)<0));rw[hs]at g ⊢;rw[A]at d ⊢;clear hs A;have o:=OP w s t a b la ca lb cb _ _ g d;obtain⟨W0,c⟩:=ex (((w.alloc (G #[E s,C a la ca] 63)).alloc (G #[E t,C b lb cb] 63)).alloc (G #[E false,C none 0 0,E false,C none 0 0] 65));have b0:Jn W0 w.heap.size 63 (E s) (C a la ca):=by rw[<-c];exact((Jn.new w _ _ _).alloc _).alloc _
 have p:Jn W0 (w.heap.size+1) 63 (E t) (C b lb cb):=by
  have h:=(Jn.new (w.alloc (G #[E s,C a la ca] 63)) 63 (E t) (C b lb cb)).alloc (G #[E false,C none 0 0,E false,C none 0 0] 65);rw[A1,c]at h;exact h
 have r:JN W0 (w.heap.size+1+1) 65 (E false) (C none 0 0) (E false) (C none 0 0):=by
  have h:=JN.new ((w.alloc (G #[E s,C a la ca] 63)).alloc (G #[E t,C b lb cb] 63)) 65 (E false) (C none 0 0) (E false) (C none 0 0);rw[A1,A1,c]at h;exact h
 rw[c]at o;have j:=o.2.2;obtain⟨l,x,U,W⟩:=Do (λ(V:H) (u:D) (h:Bl W0 V) (hu:Jk V u 1)=>Ia _ u (q.den:Int) 1 V ((d.below j).below h) hu) (g.below j) (d.below j) c;obtain⟨k0,k1⟩:=b0.cp;obtain⟨B,K⟩:=p.cp;have m:=Y (show(EC (q.den:Int) 1=0)↔q.den=1 by unfold EC;split<;>(try split)<;>omega);obtain⟨n,f⟩:=ex (EC (q.den:Int) 1);rw[f]at l m;clear g d c f o;go_enter func92,ntmps92
 go_upto_region 1 with fail
 rw[W.o];have hq:Bl W0 W0.drew:=(BB _ W0).drew;go_region_held3 (λi=>i.cell? ⟨w.heap.size+1,0,none⟩=some (E t)/\i.cell? ⟨w.heap.size+1,1,none⟩=some (C b lb cb)) (refine⟨?_,?_⟩<;>(first|(go_keep;done)|((repeat rw[JJ O]);simp[*];done)))
  (first
   |(go_at_call 95;refine(Jx 1 O O _).mono ?_;rintro e w1 ⟨u1,rfl,ae,X⟩;have hq:=Bt hq X;obtain⟨B,K⟩:=(p.below hq).cp)
   |(go_at_call 104;refine(l.o _ _ hq ae).mono ?_;clear l;rintro e T ⟨rfl,ad⟩;have hq:=Bt hq ad;obtain⟨k0,k1⟩:=(b0.below hq).cp;obtain⟨B,K⟩:=(p.below hq).cp;obtain⟨r0,r1,M,P⟩:=(r.below hq).cq;obtain⟨f0,f1,f2,f3⟩:=(r.below hq).fq))
 have y:=Bt j hq;have z:=r.below hq;by_cases f:n=0
 . have k:=Y (show denZ q=0 from Lr.2 (m.o.1 f));subst f;have v:Jl T (S #[E s,C a la ca,E false,C none 0 0]) q:=Jl.mk (x.o.below hq) (by rw[k.o];exact EY _);go_wp2_with fail
   exact BA (by simp[results,results92,go_sem,r0,r1,M,P]) J ⟨_,J,v.put4 z J J J J _ _ _ _,Jw y O _ _ _ _⟩
 . have k:=Y (show denZ q=q.den by unfold denZ;rw[BH λh=>f (m.o.2 h)]);have v:Jl T (S #[E s,C a la ca,E t,C b lb cb]) q:=Jl.mk (x.o.below hq) (by rw[k.o];exact U.o.below hq);go_wp2_with fail
   exact BA (by simp[results,results92,go_sem,r0,r1,M,P]) J ⟨_,J,v.put4 z J J J J _ _ _ _,Jw y O _ _ _ _⟩
def KE{x y:Int}(a:y≠0):(0:Int)<(Int.gcd x y:Nat):=by
 have:=Int.gcd_pos_of_ne_zero_right x a;omega
theorem Rr(va vb:D)(x y:Int)(w:H)(ha:Jk w va x)(r:Jk w vb y)(hy:y≠0)(bg:Sok x)(bh:Sok y):
 F I 118 #[va,vb] w λe c=>∃u,e=.returned u/\Jl c u (kU x y)/\Bl w c:=by
 obtain⟨HX,HY,k⟩:=Dc bg bh hy;clear bg bh hy;obtain⟨s,a,la,ca,rfl⟩:=Jk.form2 ha;obtain⟨t,b,lb,cb,rfl⟩:=Jk.form2 r;have M0:=OP w s t a b la ca lb cb _ _ ha r;obtain⟨W0,ak⟩:=ex (((w.alloc (G #[E s,C a la ca] 63)).alloc (G #[E t,C b lb cb] 63)).alloc (G #[E false,C none 0 0,E false,C none 0 0] 65));have Qp:=Y ak;rw[ak]at M0;have M1:=Y M0;clear M0 ha r ak;go_enter func118,ntmps118
 go_upto_region 1 with fail
 rw[Qp.o];clear Qp;obtain⟨s1,a1,l1,c1,n1,i1⟩:=M1.o.int (i:=0) J;have Qr:=n1.ka;obtain⟨s2,a2,l2,c2,n2,i2⟩:=M1.o.int (i:=1) J;have Qs:=n2.ka;go_upto_region 2 with(go_at_call 90;refine(Ii _ _ x y _ i1 i2 (by have:=HX.o.words;omega) (by have:=HY.o.words;omega)).mono ?_;rintro e w1 ⟨u,rfl,p,r⟩;obtain⟨bt,ay,bk,bc,rfl⟩:=Jk.form2 p)
 obtain⟨V3,o⟩:=ex (w1.alloc (G #[E bt,C ay bk bc] 63));obtain⟨d,aj⟩:=ex (w1.heap.size);have m:DL w (w1.alloc (G #[E bt,C ay bk bc] 63)) [some (w.heap.size,.int x),some (w.heap.size+1,.int y),some (w.heap.size+1+1,.rat 0),some (w1.heap.size,.int (((Int.gcd x y:Nat):Int)))]:=DL.push (M1.o.below r) (.int (((Int.gcd x y:Nat):Int))) p;rw[o,aj]at m;rw[o];rw[aj];have q:=Y (m);clear M1;clear m o aj;clear n1 Qr i1 n2 Qs i2 p r;have X:=Y (Sok.gcd HX.o HY.o);by_cases hn:y<0
 . have P:=Y hn;clear hn;obtain⟨s4,a4,l4,c4,n4,i4⟩:=q.o.int (i:=1) J;have Qt:=n4.ka;have l:=Y (Ia _ _ y 0 V3 i4 (EY _));rw[show EC y 0=-1 from by unfold EC;rw[BL P.o]]at l;go_upto_region 3 with(go_at_call 104;refine l.o.mono ?_;rintro e z ⟨rfl,U⟩)
   have M3:=Y (q.o.below U);clear q;clear n4 Qt i4 l U;obtain⟨s5,a5,l5,c5,n5,i5⟩:=M3.o.int (i:=3) J;have Qq:=n5.ka;go_upto_region 4 with(go_at_call 88;refine(Rg _ _ 0 (((Int.gcd x y:Nat):Int)) _ (EY _) i5 (by have:=Sok.zero.words;omega) (by have:=X.o.words;omega)).mono ?_;rintro e w6 ⟨u6,rfl,aq,ad⟩;obtain⟨bu,az,bm,bf,rfl⟩:=Jk.form2 aq;have Qq:=(n5.below ad).ka;have Qx:=(n5.below ad).fa)
   obtain⟨R,o⟩:=ex ((w6.setCell ⟨d,0,none⟩ (E bu)).setCell ⟨d,1,none⟩ (C az bm bf));have m:DL w ((w6.setCell ⟨d,0,none⟩ (E bu)).setCell ⟨d,1,none⟩ (C az bm bf)) [some (w.heap.size,.int x),some (w.heap.size+1,.int y),some (w.heap.size+1+1,.rat 0),some (d,.int (0-((Int.gcd x y:Nat):Int)))]:=DL.putInt (M3.o.below ad) (i:=3) J aq;rw[o]at m;rw[o];have j:=Y (m);clear M3;clear m o;clear n5 Qq i5 aq ad;clear Qx;obtain⟨Q,M,Qo⟩:=Dc (show(0-((Int.gcd x y:Nat):Int))≠0 by have:=KE (x:=x) k.o;omega) (show(0-((Int.gcd x y:Nat):Int))=(if y<0 then -((Int.gcd x y:Nat):Int)else((Int.gcd x y:Nat):Int))by rw[BL P.o];omega) (show Sok (0-((Int.gcd x y:Nat):Int))by rw[Int.zero_sub];exact X.o.neg);obtain⟨s7,a7,l7,c7,n7,i7⟩:=j.o.int (i:=0) J;have Qm:=n7.ka;obtain⟨s8,a8,l8,c8,n8,i8⟩:=j.o.int (i:=1) J;have Ql:=n8.ka;obtain⟨s9,a9,l9,c9,n9,i9⟩:=j.o.int (i:=3) J;have Qn:=n9.ka;obtain⟨gi,fe,ga,fi,gl,b10,fx,fm,f,r10,fs,fu⟩:=j.o.rat (i:=2) J;have Qa:=f.kb;have Qe:=f.fb;obtain⟨A,B,K⟩:=Dc (λ(V:H) (h:Bl R V)=>F9 _ _ x ((0-((Int.gcd x y:Nat):Int))) V (i7.below h) (i9.below h) Q.o HX.o Qo.o) (λ(V:H) (h:Bl R V)=>F9 _ _ y ((0-((Int.gcd x y:Nat):Int))) V (i8.below h) (i9.below h) Q.o HY.o Qo.o) λ(V:H) (u v:D) (p:Jk V u (x/(0-((Int.gcd x y:Nat):Int)))) (hv:Jk V v (y/(0-((Int.gcd x y:Nat):Int))))=>ME u v (kU x y) V (by rw[Ls k.o,<-M.o];exact p) (by rw[Lt k.o,<-M.o];exact hv);have Qv:=j.o.ne 0 2 J J DN;have Qw:=j.o.ne 1 2 J J DN;have Qu:=j.o.ne 3 2 J J DN;have hq:Bl R R.drew:=(BB _ R).drew;go_region_held3 (λc=>(c.cell? ⟨w.heap.size,0,none⟩=some (E s7)/\c.cell? ⟨w.heap.size,1,none⟩=some (C a7 l7 c7))/\(c.cell? ⟨w.heap.size+1,0,none⟩=some (E s8)/\c.cell? ⟨w.heap.size+1,1,none⟩=some (C a8 l8 c8))/\c.cell? ⟨d,0,none⟩=some (E s9)/\c.cell? ⟨d,1,none⟩=some (C a9 l9 c9)) (first|grind|(go_keep;done)|grind[JJ])
    (first
     |(go_at_call 91;refine(A.o _ hq).mono ?_;clear A;rintro e w2 ⟨u2,rfl,n,am⟩;have hq:=Bt hq am;have Qm:=(n7.below hq).ka;have Ql:=(n8.below hq).ka;have Qn:=(n9.below hq).ka;have Qa:=(f.below hq).kb;have Qe:=(f.below hq).fb)
     |(go_at_call 91;refine(B.o _ hq).mono ?_;clear B;rintro e w3 ⟨u3,rfl,ap,T⟩;have n:=n.below T;have hq:=Bt hq T;have Qm:=(n7.below hq).ka;have Ql:=(n8.below hq).ka;have Qn:=(n9.below hq).ka;have Qa:=(f.below hq).kb;have Qe:=(f.below hq).fb)
     |(go_at_call 92;refine(K.o _ _ _ n ap).mono ?_;clear K;rintro e w4 ⟨u4,rfl,W,an⟩;obtain⟨f9,cn,ew,dj,fd,co,dz,dt,rfl⟩:=Jl.form W;have hq:=Bt hq an;have Qm:=(n7.below hq).ka;have Ql:=(n8.below hq).ka;have Qn:=(n9.below hq).ka;have Qa:=(f.below hq).kb;have Qe:=(f.below hq).fb))
   all_goals go_wp2_with fail
   have Qk:=Bt j.o.2.2 hq;exact BA (by simp[results,results118,go_sem,Qa]) J ⟨_,J,W.put4 (f.below hq) J J J J _ _ _ _,Jw Qk O _ _ _ _⟩
 . have P:=Y hn;clear hn;obtain⟨gj,ff,gb,fj,bn,bi⟩:=q.o.int (i:=1) J;have Qj:=bn.ka;have l:=Y (Ia _ _ y 0 V3 bi (EY _));rw[show EC y 0=1 from by have h1:=P.o;have h2:=k.o;unfold EC;omega]at l;go_upto_region 4 with(go_at_call 104;refine l.o.mono ?_;rintro e z ⟨rfl,U⟩)
   have M3:=Y (q.o.below U);clear q;clear bn Qj bi l U;have Q:=Y (show((Int.gcd x y:Nat):Int)≠0 by have:=KE (x:=x) k.o;omega);have M:=Y (show((Int.gcd x y:Nat):Int)=(if y<0 then -((Int.gcd x y:Nat):Int)else((Int.gcd x y:Nat):Int))by rw[BH (by have:=P.o;omega)]);obtain⟨f6,ce,ed,de,ae,du⟩:=M3.o.int (i:=0) J;have Qc:=ae.ka;obtain⟨f7,cj,ei,dh,ah,dx⟩:=M3.o.int (i:=1) J;have Qf:=ah.ka;obtain⟨f8,ck,et,di,ai,bj⟩:=M3.o.int (i:=3) J;have Qh:=ai.ka;obtain⟨gk,fg,gg,fk,gn,fh,fy,fo,g,gh,ft,fw⟩:=M3.o.rat (i:=2) J;have Qb:=g.kb;have Qg:=g.fb;obtain⟨A,B,K⟩:=Dc (λ(V:H) (h:Bl z V)=>F9 _ _ x (((Int.gcd x y:Nat):Int)) V (du.below h) (bj.below h) Q.o HX.o X.o) (λ(V:H) (h:Bl z V)=>F9 _ _ y (((Int.gcd x y:Nat):Int)) V (dx.below h) (bj.below h) Q.o HY.o X.o) λ(V:H) (u v:D) (p:Jk V u (x/((Int.gcd x y:Nat):Int))) (hv:Jk V v (y/((Int.gcd x y:Nat):Int)))=>ME u v (kU x y) V (by rw[Ls k.o,<-M.o];exact p) (by rw[Lt k.o,<-M.o];exact hv);have Qv:=M3.o.ne 0 2 J J DN;have Qw:=M3.o.ne 1 2 J J DN;have Qu:=M3.o.ne 3 2 J J DN;have hq:Bl z z.drew:=(BB _ z).drew;go_region_held3 (λc=>(c.cell? ⟨w.heap.size,0,none⟩=some (E f6)/\c.cell? ⟨w.heap.size,1,none⟩=some (C ce ed de))/\(c.cell? ⟨w.heap.size+1,0,none⟩=some (E f7)/\c.cell? ⟨w.heap.size+1,1,none⟩=some (C cj ei dh))/\c.cell? ⟨d,0,none⟩=some (E f8)/\c.cell? ⟨d,1,none⟩=some (C ck et di)) (first|grind|(go_keep;done)|grind[JJ])
    (first
     |(go_at_call 91;refine(A.o _ hq).mono ?_;clear A;rintro e w2 ⟨u2,rfl,n,am⟩;have hq:=Bt hq am;have Qc:=(ae.below hq).ka;have Qf:=(ah.below hq).ka;have Qh:=(ai.below hq).ka;have Qb:=(g.below hq).kb;have Qg:=(g.below hq).fb)
     |(go_at_call 91;refine(B.o _ hq).mono ?_;clear B;rintro e w3 ⟨u3,rfl,ap,T⟩;have n:=n.below T;have hq:=Bt hq T;have Qc:=(ae.below hq).ka;have Qf:=(ah.below hq).ka;have Qh:=(ai.below hq).ka;have Qb:=(g.below hq).kb;have Qg:=(g.below hq).fb)
     |(go_at_call 92;refine(K.o _ _ _ n ap).mono ?_;clear K;rintro e w4 ⟨u4,rfl,W,an⟩;obtain⟨f9,cn,ew,dj,fd,co,dz,dt,rfl⟩:=Jl.form W;have hq:=Bt hq an;have Qc:=(ae.below hq).ka;have Qf:=(ah.below hq).ka;have Qh:=(ai.below hq).ka;have Qb:=(g.below hq).kb;have Qg:=(g.below hq).fb))
   all_goals go_wp2_with fail
   have Qk:=Bt M3.o.2.2 hq;exact BA (by simp[results,results118,go_sem,Qb]) J ⟨_,J,W.put4 (g.below hq) J J J J _ _ _ _,Jw Qk O _ _ _ _⟩
def MF(w:H)(s t i j:Bool)(a b a' e:kR)(l c k d l' c' g f:Nat)(p q:Rat)(hp:Jl w (S #[E s,C a l c,E t,C b k d]) p)(hq:Jl w (S #[E i,C a' l' c',E j,C e g f]) q):
 DL w (((w.alloc (G #[E s,C a l c,E t,C b k d] 65)).alloc (G #[E i,C a' l' c',E j,C e g f] 65)).alloc (G #[E false,C none 0 0,E false,C none 0 0] 65)) [some (w.heap.size,.rat p),some (w.heap.size+1,.rat q),some (w.heap.size+1+1,.rat 0)]:=by
 have h:=(((DL.nil w).push (.rat p) hp).push (.rat q) (hq.below (Ba w _))).push (.rat 0) (ER _);rw[A1,A1,A1]at h;exact h
def aZ(w:H)(s t i j:Bool)(a b a' e:kR)(l c k d l' c' g f:Nat)(p q:Rat)(hp:Jl w (S #[E s,C a l c,E t,C b k d]) p)(hq:Jl w (S #[E i,C a' l' c',E j,C e g f]) q):
 DL w ((w.alloc (G #[E s,C a l c,E t,C b k d] 65)).alloc (G #[E i,C a' l' c',E j,C e g f] 65)) [some (w.heap.size,.rat p),some (w.heap.size+1,.rat q)]:=by
 have h:=((DL.nil w).push (.rat p) hp).push (.rat q) (hq.below (Ba w _));rw[A1]at h;exact h
def MG{q:Rat}(h:q.den=1):q=(q.num:Rat):=Rat.ext J h
def ag{p q:Rat}(hp:p.den=1)(hq:q.den=1):(p+q).num=p.num+q.num/\(p+q).den=1:=by
 have h:p+q=((p.num+q.num:Int):Rat):=by rw[FG,<-MG hp,<-MG hq]
 rw[h];exact⟨J,J⟩
def ar{p q:Rat}(hp:p.den=1)(hq:q.den=1):(p*q).num=p.num*q.num/\(p*q).den=1:=by
 have h:p*q=((p.num*q.num:Int):Rat):=by rw[AC,<-MG hp,<-MG hq]
 rw[h];exact⟨J,J⟩
def bA(p q:Rat)(hp:Sq p)(hq:Sq q)(a lf d b c:Int)(e:((Int.gcd (p.den:Int) (q.den:Int):Nat):Int)=a)(l:(p.den:Int)/a=lf)(m:(q.den:Int)/a=d)(n:p.num*d+q.num*lf=b)(f:((Int.gcd b a:Nat):Int)=c):
 Sok a/\a≠0/\Sok lf/\Sok d/\Sok b/\Sok c/\c≠0/\Sok (p.num*d)/\Sok (q.num*lf)/\(p+q).num=b/c/\((p+q).den:Int)=lf*(q.den/c):=by
 have hl:=Vq p q a lf d b c e.symm l.symm m.symm n.symm f.symm;have i:a≠0:=by rw[<-e];have:=KE (x:=(p.den:Int)) (y:=q.den) (by have:=q.den_nz;omega);omega
 have sc:Sok a:=by rw[<-e];exact hp.den.gcd hq.den
 have k:Sm 1000000000 lf:=by rw[<-l];exact hp.sm.2.div
 have j:Sm 1000000000 d:=by rw[<-m];exact hq.sm.2.div
 have o:=hp.sm.1.mul j;have r:=hq.sm.1.mul k;have g:Sok b:=by rw[<-n];exact Sok.of (o.add r) O
 refine⟨sc,i,Sok.of k O,Sok.of j O,g,by rw[<-f];exact g.gcd sc,?_,Sok.of o O,Sok.of r O,hl.1,hl.2⟩;rw[<-f];have:=KE (x:=b) i;omega
theorem OQ(va vb:D)(p q:Rat)(w:H)(ha:Jl w va p)(hb:Jl w vb q)(de:Sq p)(dh:Sq q):
 F I 87 #[va,vb] w λe m=>∃u,e=.returned u/\Jl m u (p+q)/\Bl w m:=by
 obtain⟨s,a,l,c,t,b,k,d,rfl⟩:=Jl.form ha;obtain⟨s',a',l',c',t',b',k',d',rfl⟩:=Jl.form hb;have M0:=MF w s t s' t' a b a' b' l c k d l' c' k' d' p q ha hb;obtain⟨W0,bf⟩:=ex (((w.alloc (G #[E s,C a l c,E t,C b k d] 65)).alloc (G #[E s',C a' l' c',E t',C b' k' d'] 65)).alloc (G #[E false,C none 0 0,E false,C none 0 0] 65));have Qo:=Y bf;rw[bf]at M0;obtain⟨M1,HP,M⟩:=Dc M0 de dh;clear M0 ha hb bf de dh;go_enter func87,ntmps87
 go_upto_region 1 with fail
 rw[Qo.o];clear Qo;obtain⟨bb,cj⟩:=ex (decide (p.den=1/\q.den=1):Bool);have Qh:=Y cj;clear cj;go_cut [15] λc m=>c=E bb/\Hid (DL w m [some (w.heap.size,.rat p),some (w.heap.size+1,.rat q),some (w.heap.size+1+1,.rat 0)])
 case first=>
  obtain⟨s1,a1,l1,c1,t1,b1,k1,d1,n1,r1,i1,j1⟩:=M1.o.rat (i:=0) J;have Qv:=n1.kb;obtain⟨s2,a2,l2,c2,t2,b2,k2,d2,n2,r2,i2,j2⟩:=M1.o.rat (i:=1) J;have Qx:=n2.kb;have B:=Y (XR _ p W0 r1);have W:=Y λ(V:H) (h:Bl W0 V)=>XR _ q V (r2.below h);by_cases R:p.den=1
  . rw[BI R]at B;obtain⟨b2,T⟩:=ex (decide (q.den=1));rw[T]at W;have Qk:=Y (show b2=bb by rw[<-T,<-Qh.o];exact decide_eq_decide.2 ⟨λh=>⟨R,h⟩,λh=>h.2⟩);clear T R;go_wp2_with(first
     |(go_at_call 89;refine B.o.mono ?_;clear B;rintro e U ⟨rfl,ad⟩;have Qv:=(n1.below ad).kb;have Qx:=(n2.below ad).kb)
     |(go_at_call 89;refine(W.o _ ad).mono ?_;clear W;rintro e w2 ⟨rfl,T⟩))
    go_meet
    case rel=>exact⟨by rw[Qk.o],Y ((M1.o.below ad).below T)⟩
  . rw[BE R]at B;have Qk:=Y (show bb=false by rw[<-Qh.o];exact BE λh=>R h.1);clear R;go_wp2_with(go_at_call 89;refine B.o.mono ?_;clear B;rintro e U ⟨rfl,ad⟩)
    go_meet
    case rel=>exact⟨by rw[Qk.o],Y (M1.o.below ad)⟩
 obtain⟨rfl,g⟩:=hcut;have X:=g;clear M1 g;cases bb with
 |true=>
  have Qi:=Bf Qh.o;have HW:=Y (ag Qi.1 Qi.2);clear Qi Qh;obtain⟨s3,a3,l3,c3,t3,b3,k3,d3,n3,r3,i3,j3⟩:=X.o.rat (i:=0) J;have gi:=n3.kb;obtain⟨s4,a4,l4,c4,t4,b4,k4,d4,n4,r4,i4,j4⟩:=X.o.rat (i:=1) J;have gj:=n4.kb;obtain⟨s5,a5,l5,c5,t5,b5,k5,d5,n5,r5,i5,j5⟩:=X.o.rat (i:=2) J;have Qt:=n5.kb;have Qz:=n5.fb;go_wp2_with(go_at_call 121;refine(N0 _ _ p.num q.num _ i3 i4 (by have:=HP.o.num.words;omega) (by have:=M.o.num.words;omega)).mono ?_;rintro e U ⟨u,rfl,r,hq⟩;obtain⟨bh,am,bg,an,rfl⟩:=Jk.form2 r;have Qt:=(n5.below hq).kb;have Qz:=(n5.below hq).fb)
  have hr:=Jl.mk (by rw[HW.o.1];exact r) (by rw[Lr.2 HW.o.2];exact EY _);have Ql:=Bt X.o.2.2 hq;exact BA (by simp[results,results87,go_sem,Qt]) J ⟨_,J,hr.put4 (n5.below hq) J J J J _ _ _ _,Jw Ql O _ _ _ _⟩
 |false=>
  clear Qh;obtain⟨n,ck⟩:=ex (((Int.gcd (p.den:Int) (q.den:Int):Nat):Int):Int);have Qs:=Y ck;clear ck;obtain⟨lf,cn⟩:=ex ((p.den:Int)/n:Int);have Qq:=Y cn;clear cn;obtain⟨A,co⟩:=ex ((q.den:Int)/n:Int);have Qn:=Y co;clear co;obtain⟨K,bm⟩:=ex (p.num*A+q.num*lf:Int);have Qr:=Y bm;clear bm;obtain⟨z,bn⟩:=ex (((Int.gcd K n:Nat):Int):Int);have Qp:=Y bn;clear bn;obtain⟨S1,S2,S3,S4,S5,S6,S7,S8,S9,bj,bk⟩:=bA p q HP.o M.o n lf A K z Qs.o Qq.o Qn.o Qr.o Qp.o;obtain⟨T1,T2,T3,T4,T5,T6,T7,T8⟩:=Gw S1 S2 S3 S4 S5 S6 S7 S8;obtain⟨T9,Qy,Qw⟩:=Dc S9 bj bk;clear S1 S2 S3 S4 S5 S6 S7 S8 S9 bj bk;go_upto_region 3 with fail
  refine Xa Di [[],[0],[],[2,1],[1,3,3],[],[5,4,4,0,1,2,3,4,5]] [.rat p,.int ((p.den:Int)),.rat q,.int ((q.den:Int)),.int n,.ptr,.eq N] [5,6] (λb v V=>DL w V [some (w.heap.size,.rat p),some (w.heap.size+1,.rat q),some (w.heap.size+1+1,.rat 0),nb b v 0 1 (.int 0) (.int n)]) (X.o.none).drew (No (.vl J λ_ j=>GO 0 j)<|No (.cl λh _=>Ez _ p _ (h.g 0))<|No (.vl J λ_ j=>GO 1 j)<|No (.cl λh _=>Ez _ q _ (h.g 2))<|No (.cl λh _=>(by have h:=Ii _ _ (p.den:Int) (q.den:Int) _ (h.g 1) (h.g 3) (by have:=HP.o.den.words;omega) (by have:=M.o.den.words;omega);rw[Qs.o]at h;exact h))<|No (.wr J λ_ j=>Gz 3 j)<|No (.wr J λh j=>GQ 3 j (h.g 4) (hp:=h.g 5)) Stp.end_)
   λf V7 hF g=>?_
  refine DU ?_;obtain⟨B8,az⟩:=hF.p 5;have g:=ED g;simp only[az]at g;rw[az];have M3:=Y g;clear g hF az;clear X;go_upto_region 4 with fail
  refine Xa Di [[],[0],[],[1,2,1],[],[4,3],[],[5,6,5],[],[],[8,3,7,0,1,2,3,8,9],[9,7,10,0,1,2,3,4,5,6,7,8,9,10]] [.rat p,.int ((p.den:Int)),.int n,.int lf,.rat q,.int ((q.den:Int)),.int n,.int A,.ptr,.ptr,.eq N,.eq N] [8,9,10,11] (λb v V=>DL w V [some (w.heap.size,.rat p),some (w.heap.size+1,.rat q),some (w.heap.size+1+1,.rat 0),some (B8,.int n),nb b v 0 2 (.int 0) (.int lf),nb b v 1 3 (.int 0) (.int A)]) ((M3.o.none).none).drew (No (.vl J λ_ j=>GO 0 j)<|No (.cl λh _=>Ez _ p _ (h.g 0))<|No (.vl J λ_ j=>GP 3 j)<|No (.cl λh _=>(by have h:=F9 _ _ (p.den:Int) n _ (h.g 1) (h.g 2) T2.o HP.o.den T1.o;rw[Qq.o]at h;exact h))<|No (.vl J λ_ j=>GO 1 j)<|No (.cl λh _=>Ez _ q _ (h.g 4))<|No (.vl J λ_ j=>GP 3 j)<|No (.cl λh _=>(by have h:=F9 _ _ (q.den:Int) n _ (h.g 5) (h.g 6) T2.o M.o.den T1.o;rw[Qn.o]at h;exact h))<|No (.wr J λ_ j=>Gz 4 j)<|No (.wr J λ_ j=>Gz 5 j)<|No (.wr J λh j=>GQ 4 j (h.g 3) (hp:=h.g 8))<|No (.wr J λh j=>GQ 5 j (h.g 7) (hp:=h.g 9)) Stp.end_)
   λf gk hF g=>?_
  refine DU ?_;obtain⟨B11,ap⟩:=hF.p 8;obtain⟨B12,aq⟩:=hF.p 9;have g:=ED g;simp only[ap,aq]at g;rw[ap,aq];have M4:=Y g;clear g hF ap aq;clear M3;go_upto_region 5 with fail
  refine Xa Di [[],[0],[],[1,2],[],[4],[],[5,6,3],[3,7,7],[],[9,8,8,0,1,2,3,4,5,6,7,8,9]] [.eq (L (some ⟨w.heap.size,0,none⟩)),.int (Rat.num (p)),.int A,.int (p.num*A),.eq (L (some ⟨w.heap.size+1,0,none⟩)),.int (Rat.num (q)),.int lf,.int (q.num*lf),.int K,.ptr,.eq N] [9,10] (λb v V=>DL w V [some (w.heap.size,.rat p),some (w.heap.size+1,.rat q),some (w.heap.size+1+1,.rat 0),some (B8,.int n),some (B11,.int lf),some (B12,.int A),nb b v 0 1 (.int 0) (.int K)]) (M4.o.none).drew (No (.vl J λ_ _=>⟨_,by refine DU ?_;go_simp,J⟩)<|No (.vl J λh j=>KC 0 j (hp:=h.e 0))<|No (.vl J λ_ j=>GP 5 j)<|No (.cl λh _=>Xs _ _ p.num A _ (h.g 1) (h.g 2) (by have:=HP.o.num.words;have:=T4.o.words;omega))<|No (.vl J λ_ _=>⟨_,by refine DU ?_;go_simp,J⟩)<|No (.vl J λh j=>KC 1 j (hp:=h.e 4))<|No (.vl J λ_ j=>GP 4 j)<|No (.cl λh _=>Xs _ _ q.num lf _ (h.g 5) (h.g 6) (by have:=M.o.num.words;have:=T3.o.words;omega))<|No (.cl λh _=>(by have h:=N0 _ _ (p.num*A) (q.num*lf) _ (h.g 3) (h.g 7) (by have:=T8.o.words;omega) (by have:=T9.o.words;omega);rw[Qr.o]at h;exact h))<|No (.wr J λ_ j=>Gz 6 j)<|No (.wr J λh j=>GQ 6 j (h.g 8) (hp:=h.g 9)) Stp.end_)
   λf ed hF g=>?_
  refine DU ?_;rw[hF.e 0,hF.e 4];obtain⟨ak,ay⟩:=hF.p 9;have g:=ED g;simp only[ay]at g;rw[ay];have M5:=Y g;clear g hF ay;clear M4;go_upto_region 6 with fail
  obtain⟨iz,gl,ik,gu,dx,dj⟩:=M5.o.int (i:=6) J;have Qj:=dx.ka;obtain⟨ja,gn,il,gv,dz,dt⟩:=M5.o.int (i:=3) J;have Qm:=dz.ka;have HC:=Y (Ii _ _ K n ed dj dt (by have:=T5.o.words;omega) (by have:=T1.o.words;omega));rw[Qp.o]at HC;go_upto_region 7 with(go_at_call 90;refine HC.o.mono ?_;clear HC;rintro e U ⟨u,rfl,r,hb⟩;obtain⟨bh,am,bg,an,rfl⟩:=Jk.form2 r)
  obtain⟨Q,hV⟩:=ex (U.alloc (G #[E bh,C am bg an] 63));obtain⟨bi,bc⟩:=ex (U.heap.size);have g:DL w (U.alloc (G #[E bh,C am bg an] 63)) [some (w.heap.size,.rat p),some (w.heap.size+1,.rat q),some (w.heap.size+1+1,.rat 0),some (B8,.int n),some (B11,.int lf),some (B12,.int A),some (ak,.int K),some (U.heap.size,.int z)]:=DL.push (M5.o.below hb) (.int z) r;rw[hV,bc]at g;rw[hV];rw[bc];have x:=Y (g);clear M5;clear g hV bc;clear dx Qj dj dz Qm dt r hb;obtain⟨fy,ei,fs,f8,ae,fk⟩:=x.o.int (i:=6) J;have Qe:=ae.ka;obtain⟨ga,et,ft,f9,ah,du⟩:=x.o.int (i:=7) J;have Qb:=ah.ka;obtain⟨gb,ew,fu,fd,ai,fm⟩:=x.o.int (i:=4) J;have Qf:=ai.ka;obtain⟨gg,f6,fw,fe,gh,f7,fo,ff,aj,fx,ib,ie⟩:=x.o.rat (i:=1) J;have Qc:=aj.kb;obtain⟨jb,go,im,gw,jd,gq,ii,gz,o,iy,ic,ig⟩:=x.o.rat (i:=2) J;have Qa:=o.kb;have Qd:=o.fb;obtain⟨B,W,H3,H4,H5⟩:=GL (λ(V:H) (h:Bl Q V)=>F9 _ _ K z V (fk.below h) (du.below h) T7.o T5.o T6.o) (λ(V:H) (h:Bl Q V)=>Ez _ q V (fx.below h)) (λ(V:H) (u:D) (h:Bl Q V) (r:Jk V u (q.den:Int))=>F9 u _ (q.den:Int) z V r (du.below h) T7.o M.o.den T6.o) (λ(V:H) (u:D) (h:Bl Q V) (r:Jk V u ((q.den:Int)/z))=>Xs _ u lf ((q.den:Int)/z) V (fm.below h) r (by have R:=T3.o.words;have h2:=(Sok.div (y:=z) M.o.den).words;omega)) λ(V:H) (u v:D) (r:Jk V u (K/z)) (hv:Jk V v (lf*((q.den:Int)/z)))=>ME u v (p+q) V (by rw[Qy.o];exact r) (by rw[Qw.o];exact hv);have iw:=x.o.ne 6 2 J J DN;have ix:=x.o.ne 7 2 J J DN;have iu:=x.o.ne 4 2 J J DN;have ir:=x.o.ne 1 2 J J DN;have hq:Bl Q Q.drew:=(BB _ Q).drew;go_region_held3 (λm=>(m.cell? ⟨ak,0,none⟩=some (E fy)/\m.cell? ⟨ak,1,none⟩=some (C ei fs f8))/\(m.cell? ⟨bi,0,none⟩=some (E ga)/\m.cell? ⟨bi,1,none⟩=some (C et ft f9))/\(m.cell? ⟨B11,0,none⟩=some (E gb)/\m.cell? ⟨B11,1,none⟩=some (C ew fu fd))/\m.cell? ⟨w.heap.size+1,0,none⟩=some (E gg)/\m.cell? ⟨w.heap.size+1,1,none⟩=some (C f6 fw fe)/\m.cell? ⟨w.heap.size+1,2,none⟩=some (E gh)/\m.cell? ⟨w.heap.size+1,3,none⟩=some (C f7 fo ff)) (first|grind|(go_keep;done)|((repeat' apply CT)<;>((repeat rw[JJ O]);grind)))
   (first
    |(go_at_call 91;refine(B.o _ hq).mono ?_;clear B;rintro e w2 ⟨u2,rfl,P,T⟩;have hq:=Bt hq T;have Qe:=(ae.below hq).ka;have Qb:=(ah.below hq).ka;have Qf:=(ai.below hq).ka;have Qc:=(aj.below hq).kb;have Qa:=(o.below hq).kb;have Qd:=(o.below hq).fb)
    |(go_at_call 86;refine(W.o _ hq).mono ?_;clear W;rintro e w3 ⟨u3,rfl,fh,bt⟩;have P:=P.below bt;have hq:=Bt hq bt;have Qe:=(ae.below hq).ka;have Qb:=(ah.below hq).ka;have Qf:=(ai.below hq).ka;have Qc:=(aj.below hq).kb;have Qa:=(o.below hq).kb;have Qd:=(o.below hq).fb)
    |(go_at_call 91;refine(H3.o _ _ hq fh).mono ?_;clear H3;rintro e w4 ⟨u4,rfl,fi,bu⟩;have P:=P.below bu;have hq:=Bt hq bu;have Qe:=(ae.below hq).ka;have Qb:=(ah.below hq).ka;have Qf:=(ai.below hq).ka;have Qc:=(aj.below hq).kb;have Qa:=(o.below hq).kb;have Qd:=(o.below hq).fb)
    |(go_at_call 85;refine(H4.o _ _ hq fi).mono ?_;clear H4;rintro e w5 ⟨u5,rfl,fj,ce⟩;have P:=P.below ce;have hq:=Bt hq ce;have Qe:=(ae.below hq).ka;have Qb:=(ah.below hq).ka;have Qf:=(ai.below hq).ka;have Qc:=(aj.below hq).kb;have Qa:=(o.below hq).kb;have Qd:=(o.below hq).fb)
    |(go_at_call 92;refine(H5.o _ _ _ P fj).mono ?_;clear H5;rintro e w6 ⟨u6,rfl,di,fg⟩;obtain⟨jc,gp,io,gy,je,gr,ij,ia,rfl⟩:=Jl.form di;have hq:=Bt hq fg;have Qe:=(ae.below hq).ka;have Qb:=(ah.below hq).ka;have Qf:=(ai.below hq).ka;have Qc:=(aj.below hq).kb;have Qa:=(o.below hq).kb;have Qd:=(o.below hq).fb))
  all_goals go_wp2_with fail
  have Ql:=Bt x.o.2.2 hq;have Qu:=x.o.ge 2 J;exact BA (by simp[results,results87,go_sem,Qa]) J ⟨_,J,di.put4 (o.below hq) J J J J _ _ _ _,Jw Ql Qu _ _ _ _⟩
def bB(p q:Rat)(hp:Sq p)(hq:Sq q)(a up x y:Int)(b:((Int.gcd p.num (q.den:Int):Nat):Int)=a)(c:((Int.gcd q.num (p.den:Int):Nat):Int)=up)(d:p.num/a=x)(e:q.num/up=y):
 Sok a/\a≠0/\Sok up/\up≠0/\Sok x/\Sok y/\(p*q).num=x*y/\((p*q).den:Int)=p.den/up*(q.den/a):=by
 have hl:=Vr p q a up b.symm c.symm;have g:a≠0:=by rw[<-b];have:=KE (x:=p.num) (y:=q.den) (by have:=q.den_nz;omega);omega
 have f:up≠0:=by rw[<-c];have:=KE (x:=q.num) (y:=p.den) (by have:=p.den_nz;omega);omega
 refine⟨by rw[<-b];exact hp.num.gcd hq.den,g,by rw[<-c];exact hq.num.gcd hp.den,f,by rw[<-d];exact hp.num.div,by rw[<-e];exact hq.num.div,?_,hl.2⟩;rw[hl.1,d,e]
theorem Kz(va vb:D)(p q:Rat)(w:H)(ha:Jl w va p)(hb:Jl w vb q)(bg:Sq p)(bh:Sq q):
 F I 52 #[va,vb] w λe g=>∃u,e=.returned u/\Jl g u (p*q)/\Bl w g:=by
 obtain⟨s,a,l,c,t,b,k,d,rfl⟩:=Jl.form ha;obtain⟨s',a',l',c',t',b',k',d',rfl⟩:=Jl.form hb;have M0:=MF w s t s' t' a b a' b' l c k d l' c' k' d' p q ha hb;obtain⟨W0,ap⟩:=ex (((w.alloc (G #[E s,C a l c,E t,C b k d] 65)).alloc (G #[E s',C a' l' c',E t',C b' k' d'] 65)).alloc (G #[E false,C none 0 0,E false,C none 0 0] 65));have Ql:=Y ap;rw[ap]at M0;obtain⟨M1,K,M⟩:=Dc M0 bg bh;clear M0 ha hb ap bg bh;go_enter func52,ntmps52
 go_upto_region 1 with fail
 rw[Ql.o];clear Ql;obtain⟨bb,bc⟩:=ex (decide (p.den=1/\q.den=1):Bool);have Qh:=Y bc;clear bc;go_cut [13] λc g=>c=E bb/\Hid (DL w g [some (w.heap.size,.rat p),some (w.heap.size+1,.rat q),some (w.heap.size+1+1,.rat 0)])
 case first=>
  obtain⟨s1,a1,l1,c1,t1,b1,k1,d1,n1,r1,i1,j1⟩:=M1.o.rat (i:=0) J;have Qr:=n1.kb;obtain⟨s2,a2,l2,c2,t2,b2,k2,d2,n2,r2,i2,j2⟩:=M1.o.rat (i:=1) J;have Qs:=n2.kb;have H1:=Y (XR _ p W0 r1);have H2:=Y λ(V:H) (h:Bl W0 V)=>XR _ q V (r2.below h);by_cases B:p.den=1
  . rw[BI B]at H1;obtain⟨b2,R⟩:=ex (decide (q.den=1));rw[R]at H2;have Qj:=Y (show b2=bb by rw[<-R,<-Qh.o];exact decide_eq_decide.2 ⟨λh=>⟨B,h⟩,λh=>h.2⟩);clear R B;go_wp2_with(first
     |(go_at_call 89;refine H1.o.mono ?_;clear H1;rintro e w1 ⟨rfl,ae⟩;have Qr:=(n1.below ae).kb;have Qs:=(n2.below ae).kb)
     |(go_at_call 89;refine(H2.o _ ae).mono ?_;clear H2;rintro e w2 ⟨rfl,R⟩))
    go_meet
    case rel=>exact⟨by rw[Qj.o],Y ((M1.o.below ae).below R)⟩
  . rw[BE B]at H1;have Qj:=Y (show bb=false by rw[<-Qh.o];exact BE λh=>B h.1);clear B;go_wp2_with(go_at_call 89;refine H1.o.mono ?_;clear H1;rintro e w1 ⟨rfl,ae⟩)
    go_meet
    case rel=>exact⟨by rw[Qj.o],Y (M1.o.below ae)⟩
 obtain⟨rfl,n⟩:=hcut;have M2:=n;clear M1 n;cases bb with
 |true=>
  have Qi:=Bf Qh.o;have HW:=Y (ar Qi.1 Qi.2);clear Qi Qh;obtain⟨s3,a3,l3,c3,t3,b3,k3,d3,n3,r3,i3,j3⟩:=M2.o.rat (i:=0) J;have fj:=n3.kb;obtain⟨s4,a4,l4,c4,t4,b4,k4,d4,n4,r4,i4,j4⟩:=M2.o.rat (i:=1) J;have fk:=n4.kb;obtain⟨s5,a5,l5,c5,t5,b5,k5,d5,n5,r5,i5,j5⟩:=M2.o.rat (i:=2) J;have Qp:=n5.kb;have Qt:=n5.fb;go_wp2_with(go_at_call 85;refine(Xs _ _ p.num q.num _ i3 i4 (by have B:=K.o.num.words;have h2:=M.o.num.words;omega)).mono ?_;rintro e w1 ⟨u,rfl,hu,hq⟩;obtain⟨ic,fo,gq,fx,rfl⟩:=Jk.form2 hu;have Qp:=(n5.below hq).kb;have Qt:=(n5.below hq).fb)
  have hr:=Jl.mk (by rw[HW.o.1];exact hu) (by rw[Lr.2 HW.o.2];exact EY _);have Qk:=Bt M2.o.2.2 hq;exact BA (by simp[results,results52,go_sem,Qp]) J ⟨_,J,hr.put4 (n5.below hq) J J J J _ _ _ _,Jw Qk O _ _ _ _⟩
 |false=>
  clear Qh;obtain⟨r,bf⟩:=ex (((Int.gcd p.num (q.den:Int):Nat):Int):Int);have Qm:=Y bf;clear bf;obtain⟨up,bi⟩:=ex (((Int.gcd q.num (p.den:Int):Nat):Int):Int);have Qn:=Y bi;clear bi;obtain⟨x,hx⟩:=ex (p.num/r:Int);have HX:=Y hx;clear hx;obtain⟨y,hy⟩:=ex (q.num/up:Int);have HY:=Y hy;clear hy;obtain⟨S1,S2,S3,S4,S5,S6,S7,S8⟩:=bB p q K.o M.o r up x y Qm.o Qn.o HX.o HY.o;obtain⟨T1,T2,T3,T4,T5,T6,T7,T8⟩:=Gw S1 S2 S3 S4 S5 S6 S7 S8;clear S1 S2 S3 S4 S5 S6 S7 S8;go_upto_region 3 with fail
  refine Xa Di [[],[0],[],[2],[1,3,3],[],[5],[],[7,4],[6,8,8],[],[],[10,4,9,0,1,2,3,4,10,11],[11,9,12,0,1,2,3,4,5,6,7,8,9,10,11,12]] [.eq (L (some ⟨w.heap.size,0,none⟩)),.int (Rat.num (p)),.rat q,.int ((q.den:Int)),.int r,.eq (L (some ⟨w.heap.size+1,0,none⟩)),.int (Rat.num (q)),.rat p,.int ((p.den:Int)),.int up,.ptr,.ptr,.eq N,.eq N] [10,11,12,13] (λb v V=>DL w V [some (w.heap.size,.rat p),some (w.heap.size+1,.rat q),some (w.heap.size+1+1,.rat 0),nb b v 0 2 (.int 0) (.int r),nb b v 1 3 (.int 0) (.int up)]) ((M2.o.none).none).drew (No (.vl J λ_ _=>⟨_,by refine DU ?_;go_simp,J⟩)<|No (.vl J λh j=>KC 0 j (hp:=h.e 0))<|No (.vl J λ_ j=>GO 1 j)<|No (.cl λh _=>Ez _ q _ (h.g 2))<|No (.cl λh _=>(by have h:=Ii _ _ p.num (q.den:Int) _ (h.g 1) (h.g 3) (by have:=K.o.num.words;omega) (by have:=M.o.den.words;omega);rw[Qm.o]at h;exact h))<|No (.vl J λ_ _=>⟨_,by refine DU ?_;go_simp,J⟩)<|No (.vl J λh j=>KC 1 j (hp:=h.e 5))<|No (.vl J λ_ j=>GO 0 j)<|No (.cl λh _=>Ez _ p _ (h.g 7))<|No (.cl λh _=>(by have h:=Ii _ _ q.num (p.den:Int) _ (h.g 6) (h.g 8) (by have:=M.o.num.words;omega) (by have:=K.o.den.words;omega);rw[Qn.o]at h;exact h))<|No (.wr J λ_ j=>Gz 3 j)<|No (.wr J λ_ j=>Gz 4 j)<|No (.wr J λh j=>GQ 3 j (h.g 4) (hp:=h.g 10))<|No (.wr J λh j=>GQ 4 j (h.g 9) (hp:=h.g 11)) Stp.end_)
   λf V7 hF n=>?_
  refine DU ?_;rw[hF.e 0,hF.e 5];obtain⟨B8,am⟩:=hF.p 10;obtain⟨B9,an⟩:=hF.p 11;have n:=ED n;simp only[am,an]at n;rw[am,an];have M3:=Y n;clear n hF am an;clear M2;go_upto_region 4 with fail
  refine Xa Di [[],[0],[],[1,2],[],[4],[],[5,6,3],[3,7,7],[],[9,8,8,0,1,2,3,4,5,6,7,8,9]] [.eq (L (some ⟨w.heap.size,0,none⟩)),.int (Rat.num (p)),.int r,.int x,.eq (L (some ⟨w.heap.size+1,0,none⟩)),.int (Rat.num (q)),.int up,.int y,.int (x*y),.ptr,.eq N] [9,10] (λb v V=>DL w V [some (w.heap.size,.rat p),some (w.heap.size+1,.rat q),some (w.heap.size+1+1,.rat 0),some (B8,.int r),some (B9,.int up),nb b v 0 1 (.int 0) (.int (x*y))]) (M3.o.none).drew (No (.vl J λ_ _=>⟨_,by refine DU ?_;go_simp,J⟩)<|No (.vl J λh j=>KC 0 j (hp:=h.e 0))<|No (.vl J λ_ j=>GP 3 j)<|No (.cl λh _=>(by have h:=F9 _ _ p.num r _ (h.g 1) (h.g 2) T2.o K.o.num T1.o;rw[HX.o]at h;exact h))<|No (.vl J λ_ _=>⟨_,by refine DU ?_;go_simp,J⟩)<|No (.vl J λh j=>KC 1 j (hp:=h.e 4))<|No (.vl J λ_ j=>GP 4 j)<|No (.cl λh _=>(by have h:=F9 _ _ q.num up _ (h.g 5) (h.g 6) T4.o M.o.num T3.o;rw[HY.o]at h;exact h))<|No (.cl λh _=>Xs _ _ x y _ (h.g 3) (h.g 7) (by have:=T5.o.words;have:=T6.o.words;omega))<|No (.wr J λ_ j=>Gz 5 j)<|No (.wr J λh j=>GQ 5 j (h.g 8) (hp:=h.g 9)) Stp.end_)
   λf z hF n=>?_
  refine DU ?_;rw[hF.e 0,hF.e 4];obtain⟨B12,ak⟩:=hF.p 9;have n:=ED n;simp only[ak]at n;rw[ak];have o:=Y n;clear n hF ak;clear M3;go_upto_region 5 with fail
  obtain⟨f9,bj,ed,cj,T,dj⟩:=o.o.int (i:=5) J;have Qb:=T.ka;obtain⟨fd,bk,ei,ck,fh,bu,dx,dh,U,f7,gg,gj⟩:=o.o.rat (i:=0) J;have Qf:=U.kb;obtain⟨fe,bm,et,cn,W,dt⟩:=o.o.int (i:=4) J;have Qd:=W.ka;obtain⟨ff,bn,ew,co,fi,ce,dz,di,X,f8,gh,gk⟩:=o.o.rat (i:=1) J;have Qc:=X.kb;obtain⟨fg,bt,f6,de,ad,du⟩:=o.o.int (i:=3) J;have Qe:=ad.ka;obtain⟨ib,fm,gp,fw,ig,ft,gn,ga,m,ia,gi,gl⟩:=o.o.rat (i:=2) J;have P:=m.kb;have Qg:=m.fb;obtain⟨H2,H4,H6,H8,H9,Qo⟩:=IW (λ(V:H) (h:Bl z V)=>Ez _ p V (f7.below h)) (λ(V:H) (h:Bl z V) (v2:D) (g2:Jk V v2 ((p.den:Int)))=>F9 _ _ (p.den:Int) up V g2 (dt.below h) T4.o K.o.den T3.o) (λ(V:H) (h:Bl z V)=>Ez _ q V (f8.below h)) (λ(V:H) (h:Bl z V) (v6:D) (A:Jk V v6 ((q.den:Int)))=>F9 _ _ (q.den:Int) r V A (du.below h) T2.o M.o.den T1.o) (λ(V:H) (h:Bl z V) (v4:D) (g4:Jk V v4 ((p.den:Int)/up)) (v8:D) (Q:Jk V v8 ((q.den:Int)/r))=>Xs _ _ ((p.den:Int)/up) ((q.den:Int)/r) V g4 Q (by have B:=(Sok.div (y:=up) K.o.den).words;have h2:=(Sok.div (y:=r) M.o.den).words;omega)) λ(V:H) (h:Bl z V) (v9:D) (g9:Jk V v9 ((p.den:Int)/up*((q.den:Int)/r)))=>ME _ _ (p*q) V (by rw[T7.o];exact(dj.below h)) (by rw[T8.o];exact g9);have gz:=o.o.ne 5 2 J J DN;have gu:=o.o.ne 0 2 J J DN;have gy:=o.o.ne 4 2 J J DN;have gv:=o.o.ne 1 2 J J DN;have gw:=o.o.ne 3 2 J J DN;have hq:Bl z z.drew:=(BB _ z).drew;go_region_held3 (λg=>(g.cell? ⟨B12,0,none⟩=some (E f9)/\g.cell? ⟨B12,1,none⟩=some (C bj ed cj))/\(g.cell? ⟨w.heap.size,0,none⟩=some (E fd)/\g.cell? ⟨w.heap.size,1,none⟩=some (C bk ei ck)/\g.cell? ⟨w.heap.size,2,none⟩=some (E fh)/\g.cell? ⟨w.heap.size,3,none⟩=some (C bu dx dh))/\(g.cell? ⟨B9,0,none⟩=some (E fe)/\g.cell? ⟨B9,1,none⟩=some (C bm et cn))/\(g.cell? ⟨w.heap.size+1,0,none⟩=some (E ff)/\g.cell? ⟨w.heap.size+1,1,none⟩=some (C bn ew co)/\g.cell? ⟨w.heap.size+1,2,none⟩=some (E fi)/\g.cell? ⟨w.heap.size+1,3,none⟩=some (C ce dz di))/\g.cell? ⟨B8,0,none⟩=some (E fg)/\g.cell? ⟨B8,1,none⟩=some (C bt f6 de)) (first|grind|(go_keep;done)|((repeat' apply CT)<;>((repeat rw[JJ O]);grind)))
   (first
    |(go_at_call 86;refine(H2.o _ hq ).mono ?_;clear H2;rintro e w2 ⟨v2,rfl,g2,R⟩;have hq:=Bt hq R;have Qb:=(T.below hq).ka;have Qf:=(U.below hq).kb;have Qd:=(W.below hq).ka;have Qc:=(X.below hq).kb;have Qe:=(ad.below hq).ka;have P:=(m.below hq).kb;have Qg:=(m.below hq).fb)
    |(go_at_call 91;refine(H4.o _ hq _ g2).mono ?_;clear H4;rintro e w4 ⟨v4,rfl,g4,az⟩;have g2:=g2.below az;have hq:=Bt hq az;have Qb:=(T.below hq).ka;have Qf:=(U.below hq).kb;have Qd:=(W.below hq).ka;have Qc:=(X.below hq).kb;have Qe:=(ad.below hq).ka;have P:=(m.below hq).kb;have Qg:=(m.below hq).fb)
    |(go_at_call 86;refine(H6.o _ hq ).mono ?_;clear H6;rintro e w6 ⟨v6,rfl,A,aq⟩;have g2:=g2.below aq;have g4:=g4.below aq;have hq:=Bt hq aq;have Qb:=(T.below hq).ka;have Qf:=(U.below hq).kb;have Qd:=(W.below hq).ka;have Qc:=(X.below hq).kb;have Qe:=(ad.below hq).ka;have P:=(m.below hq).kb;have Qg:=(m.below hq).fb)
    |(go_at_call 91;refine(H8.o _ hq _ A).mono ?_;clear H8;rintro e w8 ⟨v8,rfl,Q,aj⟩;have g2:=g2.below aj;have g4:=g4.below aj;have A:=A.below aj;have hq:=Bt hq aj;have Qb:=(T.below hq).ka;have Qf:=(U.below hq).kb;have Qd:=(W.below hq).ka;have Qc:=(X.below hq).kb;have Qe:=(ad.below hq).ka;have P:=(m.below hq).kb;have Qg:=(m.below hq).fb)
    |(go_at_call 85;refine(H9.o _ hq _ g4 _ Q).mono ?_;clear H9;rintro e w9 ⟨v9,rfl,g9,ai⟩;have g2:=g2.below ai;have g4:=g4.below ai;have A:=A.below ai;have Q:=Q.below ai;have hq:=Bt hq ai;have Qb:=(T.below hq).ka;have Qf:=(U.below hq).kb;have Qd:=(W.below hq).ka;have Qc:=(X.below hq).kb;have Qe:=(ad.below hq).ka;have P:=(m.below hq).kb;have Qg:=(m.below hq).fb)
    |(go_at_call 92;refine(Qo.o _ hq _ g9).mono ?_;clear Qo;rintro e ik ⟨ij,rfl,ay,ah⟩;obtain⟨ie,fs,gr,fy,ii,fu,go,gb,rfl⟩:=Jl.form ay;have g2:=g2.below ah;have g4:=g4.below ah;have A:=A.below ah;have Q:=Q.below ah;have g9:=g9.below ah;have hq:=Bt hq ah;have Qb:=(T.below hq).ka;have Qf:=(U.below hq).kb;have Qd:=(W.below hq).ka;have Qc:=(X.below hq).kb;have Qe:=(ad.below hq).ka;have P:=(m.below hq).kb;have Qg:=(m.below hq).fb))
  all_goals go_wp2_with fail
  have Qk:=Bt o.o.2.2 hq;have Qq:=o.o.ge 2 J;exact BA (by simp[results,results52,go_sem,P]) J ⟨_,J,ay.put4 (m.below hq) J J J J _ _ _ _,Jw Qk Qq _ _ _ _⟩
def MH(R T:D)(x y:Int)(w:H)(r:Jk w R x)(v:Jk w T y)(A:Sok x)(B:Sok y):
 F I 84 #[R,T] w λe U=>∃u,e=.returned (.tuple #[u,E (decide (y≠0))])/\Jl U u (kU x y)/\Bl w U:=by
 have HX:=Y A;have HY:=Y B;clear A B;obtain⟨s,a,la,ca,rfl⟩:=Jk.form2 r;obtain⟨t,b,lb,cb,rfl⟩:=Jk.form2 v;have m:=OP w s t a b la ca lb cb _ _ r v;obtain⟨W0,q⟩:=ex (((w.alloc (G #[E s,C a la ca] 63)).alloc (G #[E t,C b lb cb] 63)).alloc (G #[E false,C none 0 0,E false,C none 0 0] 65));have z:=Y q;rw[q]at m;have f:=Y m;clear m r v q;obtain⟨s1,a1,l1,c1,P,i1⟩:=f.o.int (i:=0) J;have Qf:=P.ka;obtain⟨s2,a2,l2,c2,Q,M⟩:=f.o.int (i:=1) J;have Qg:=Q.ka;obtain⟨s3,a3,l3,c3,t3,b3,k3,d3,d,r3,i3,j3⟩:=f.o.rat (i:=2) J;have j:=d.kb;have n:=d.fb;have k:=Y (Rp _ y W0 M);have g:=Y λ(V:H) (h:Bl W0 V) (c:y≠0)=>Rr _ _ x y V (i1.below h) (M.below h) c HX.o HY.o;by_cases c:y=0
 . rw[BI c]at k;have l:=Y (BE (p:=y≠0) λh=>h c);rw[l.o];have X:=Y (show kU x y=0 by rw[c,Rat.divInt_zero]);clear c g;go_enter func84,ntmps84
   go_upto_region 1 with fail
   rw[z.o];go_wp2_with(go_at_call 117;refine k.o.mono ?_;rintro e W ⟨rfl,hq⟩;have j:=(d.below hq).kb;have n:=(d.below hq).fb)
   have hr:Jl W (S #[E false,C none 0 0,E false,C none 0 0]) (kU x y):=by rw[X.o];exact ER _
   have o:=Bt f.o.2.2 hq;exact BA (by simp[results,results84,go_sem,j]) J ⟨_,J,hr.put4 (d.below hq) J J J J _ _ _ _,Jw o O _ _ _ _⟩
 . rw[BE c]at k;have l:=Y (BI (p:=y≠0) c);rw[l.o];have g:=Y λV h=>g.o V h c;clear c;go_enter func84,ntmps84
   go_upto_region 1 with fail
   rw[z.o];go_wp2_with(first
    |(go_at_call 117;refine k.o.mono ?_;rintro e W ⟨rfl,hq⟩;have Qf:=(P.below hq).ka;have Qg:=(Q.below hq).ka;have j:=(d.below hq).kb;have n:=(d.below hq).fb)
    |(go_at_call 118;refine(g.o _ hq).mono ?_;clear g;rintro e w2 ⟨u2,rfl,K,ad⟩;obtain⟨an,ae,am,ai,ap,ah,ak,aj,rfl⟩:=Jl.form K;have hq:=Bt hq ad;have j:=(d.below hq).kb;have n:=(d.below hq).fb))
   have o:=Bt f.o.2.2 hq;have Qe:=f.o.ge 2 J;exact BA (by simp[results,results84,go_sem,j]) J ⟨_,J,K.put4 (d.below hq) J J J J _ _ _ _,Jw o Qe _ _ _ _⟩
def bC(p q:Rat):decide ((p.den:Int)*q.num≠0)=decide (q≠0):=by
 refine decide_eq_decide.2 (not_congr ⟨λh=>?_,λh=>?_⟩)
 . rcases Int.mul_eq_zero.1 h with h|h
   . have:=p.den_nz;omega
   . exact CS.1 h
 . rw[h];exact Int.mul_zero _
theorem Rs(va vb:D)(p q:Rat)(w:H)(T:Jl w va p)(U:Jl w vb q)(ah:Sq p)(ai:Sq q):
 F I 50 #[va,vb] w λe j=>∃u,e=.returned (.tuple #[u,E (decide (q≠0))])/\Jl j u (p/q)/\Bl w j:=by
 obtain⟨bq,X⟩:=ex (decide (q≠0));have Qh:=Y ((bC p q).trans X);rw[X];clear X;obtain⟨s,a,l,c,t,b,k,d,rfl⟩:=Jl.form T;obtain⟨s',a',l',c',t',b',k',d',rfl⟩:=Jl.form U;have Q:=MF w s t s' t' a b a' b' l c k d l' c' k' d' p q T U;obtain⟨W0,R⟩:=ex (((w.alloc (G #[E s,C a l c,E t,C b k d] 65)).alloc (G #[E s',C a' l' c',E t',C b' k' d'] 65)).alloc (G #[E false,C none 0 0,E false,C none 0 0] 65));have Qe:=Y R;rw[R]at Q;obtain⟨m,K,M⟩:=Dc Q ah ai;clear Q T U R ah ai;go_enter func50,ntmps50
 go_upto_region 1 with fail
 rw[Qe.o];clear Qe;obtain⟨s1,a1,l1,c1,t1,b1,k1,d1,r,r1,i1,j1⟩:=m.o.rat (i:=0) J;have x:=r.kb;obtain⟨s2,a2,l2,c2,t2,b2,k2,d2,v,r2,i2,j2⟩:=m.o.rat (i:=1) J;have z:=v.kb;obtain⟨s3,a3,l3,c3,t3,b3,k3,d3,f,r3,i3,j3⟩:=m.o.rat (i:=2) J;have o:=f.kb;have y:=f.fb;obtain⟨H3,H4,H6,H9,Qf⟩:=GL (λ(V:H) (h:Bl W0 V)=>Ez _ q V (r2.below h)) (λ(V:H) (h:Bl W0 V) (v3:D) (g:Jk V v3 ((q.den:Int)))=>Xs _ _ p.num (q.den:Int) V (i1.below h) g (by have h1:=K.o.num.words;have h2:=M.o.den.words;omega)) (λ(V:H) (h:Bl W0 V)=>Ez _ p V (r1.below h)) (λ(V:H) (h:Bl W0 V) (v6:D) (n:Jk V v6 ((p.den:Int)))=>Xs _ _ (p.den:Int) q.num V n (i2.below h) (by have h1:=K.o.den.words;have h2:=M.o.num.words;omega)) λ(V:H) (h:Bl W0 V) (v4:D) (g4:Jk V v4 (p.num*(q.den:Int))) (v9:D) (A:Jk V v9 ((p.den:Int)*q.num))=>(by have h:=MH _ _ (p.num*(q.den:Int)) ((p.den:Int)*q.num) V g4 A (K.o.cross M.o) (K.o.cross2 M.o);rw[Qh.o,Nd]at h;exact h);have az:=m.o.ne 0 2 J J DN;have bc:=m.o.ne 1 2 J J DN;have hq:Bl W0 W0.drew:=(BB _ W0).drew;go_region_held3 (λj=>(j.cell? ⟨w.heap.size,0,none⟩=some (E s1)/\j.cell? ⟨w.heap.size,1,none⟩=some (C a1 l1 c1)/\j.cell? ⟨w.heap.size,2,none⟩=some (E t1)/\j.cell? ⟨w.heap.size,3,none⟩=some (C b1 k1 d1))/\j.cell? ⟨w.heap.size+1,0,none⟩=some (E s2)/\j.cell? ⟨w.heap.size+1,1,none⟩=some (C a2 l2 c2)/\j.cell? ⟨w.heap.size+1,2,none⟩=some (E t2)/\j.cell? ⟨w.heap.size+1,3,none⟩=some (C b2 k2 d2)) (first|grind|(go_keep;done)|((repeat' apply CT)<;>((repeat rw[JJ O]);grind)))
  (first
   |(go_at_call 86;refine(H3.o _ hq ).mono ?_;clear H3;rintro e w3 ⟨v3,rfl,g,aj⟩;have hq:=Bt hq aj;have x:=(r.below hq).kb;have z:=(v.below hq).kb;have o:=(f.below hq).kb;have y:=(f.below hq).fb)
   |(go_at_call 85;refine(H4.o _ hq _ g).mono ?_;clear H4;rintro e w4 ⟨v4,rfl,g4,ae⟩;have g:=g.below ae;have hq:=Bt hq ae;have x:=(r.below hq).kb;have z:=(v.below hq).kb;have o:=(f.below hq).kb;have y:=(f.below hq).fb)
   |(go_at_call 86;refine(H6.o _ hq ).mono ?_;clear H6;rintro e w6 ⟨v6,rfl,n,W⟩;have g:=g.below W;have g4:=g4.below W;have hq:=Bt hq W;have x:=(r.below hq).kb;have z:=(v.below hq).kb;have o:=(f.below hq).kb;have y:=(f.below hq).fb)
   |(go_at_call 85;refine(H9.o _ hq _ n).mono ?_;clear H9;rintro e w9 ⟨v9,rfl,A,P⟩;have g:=g.below P;have g4:=g4.below P;have n:=n.below P;have hq:=Bt hq P;have x:=(r.below hq).kb;have z:=(v.below hq).kb;have o:=(f.below hq).kb;have y:=(f.below hq).fb)
   |(go_at_call 84;refine(Qf.o _ hq _ g4 _ A).mono ?_;clear Qf;rintro e bi ⟨bh,rfl,ad,B⟩;obtain⟨bf,ak,ay,an,bg,am,aq,ap,rfl⟩:=Jl.form ad;have g:=g.below B;have g4:=g4.below B;have n:=n.below B;have A:=A.below B;have hq:=Bt hq B;have x:=(r.below hq).kb;have z:=(v.below hq).kb;have o:=(f.below hq).kb;have y:=(f.below hq).fb))
 all_goals go_wp2_with fail
 have Qi:=Bt m.o.2.2 hq;have Qg:=m.o.ge 2 J;exact BA (by simp[results,results50,go_sem,o]) J ⟨_,J,ad.put4 (f.below hq) J J J J _ _ _ _,Jw Qi Qg _ _ _ _⟩
def Ha(p q:Rat):Int:=EC (p.num*q.den) (q.num*p.den)
theorem Rt(va vb:D)(p q:Rat)(w:H)(ha:Jl w va p)(hb:Jl w vb q)(aj:Sq p)(ak:Sq q):
 F I 68 #[va,vb] w λe f=>e=.returned (.int .i64 (Ha p q))/\Bl w f:=by
 obtain⟨s,a,l,c,t,b,k,d,rfl⟩:=Jl.form ha;obtain⟨s',a',l',c',t',b',k',d',rfl⟩:=Jl.form hb;have U:=aZ w s t s' t' a b a' b' l c k d l' c' k' d' p q ha hb;obtain⟨W0,ad⟩:=ex ((w.alloc (G #[E s,C a l c,E t,C b k d] 65)).alloc (G #[E s',C a' l' c',E t',C b' k' d'] 65));have Qf:=Y ad;rw[ad]at U;have y:=Y U;obtain⟨n,hn⟩:=ex (Ha p q);have HN:=Y hn;rw[hn];have HP:=Y aj;have HQ:=Y ak;clear U ha hb ad aj ak hn;go_enter func68,ntmps68
 go_upto_region 1 with fail
 rw[Qf.o];clear Qf;obtain⟨Q,ai⟩:=ex (decide (p.den=1/\q.den=1):Bool);have B:=Y ai;clear ai;go_cut [10] λc f=>c=E Q/\Hid (DL w f [some (w.heap.size,.rat p),some (w.heap.size+1,.rat q)])
 case first=>
  obtain⟨s1,a1,l1,c1,t1,b1,k1,d1,n1,r1,i1,j1⟩:=y.o.rat (i:=0) J;have Qh:=n1.kb;obtain⟨s2,a2,l2,c2,t2,b2,k2,d2,n2,r2,i2,j2⟩:=y.o.rat (i:=1) J;have Qi:=n2.kb;have j:=Y (XR _ p W0 r1);have T:=Y λ(V:H) (h:Bl W0 V)=>XR _ q V (r2.below h);by_cases r:p.den=1
  . rw[BI r]at j;obtain⟨b2,P⟩:=ex (decide (q.den=1));rw[P]at T;have X:=Y (show b2=Q by rw[<-P,<-B.o];grind);clear P r;go_wp2_with(first
     |(go_at_call 89;refine j.o.mono ?_;clear j;rintro e w1 ⟨rfl,u⟩;have Qh:=(n1.below u).kb;have Qi:=(n2.below u).kb)
     |(go_at_call 89;refine(T.o _ u).mono ?_;clear T;rintro e w2 ⟨rfl,P⟩))
    go_meet
    case rel=>exact⟨by rw[X.o],Y ((y.o.below u).below P)⟩
  . rw[BE r]at j;have X:=Y (show Q=false by rw[<-B.o];grind);clear r;go_wp2_with(go_at_call 89;refine j.o.mono ?_;clear j;rintro e w1 ⟨rfl,u⟩)
    go_meet
    case rel=>exact⟨by rw[X.o],Y (y.o.below u)⟩
 obtain⟨rfl,MM⟩:=hcut;have o:=MM;clear y MM;cases Q with
 |true=>
  have W:=Bf B.o;have HE:=Y (show EC p.num q.num=n by rw[<-HN.o];unfold Ha;rw[W.1,W.2];simp);clear W B;obtain⟨s3,a3,l3,c3,t3,b3,k3,d3,n3,r3,i3,j3⟩:=o.o.rat (i:=0) J;have an:=n3.kb;obtain⟨s4,a4,l4,c4,t4,b4,k4,d4,n4,r4,i4,j4⟩:=o.o.rat (i:=1) J;have ap:=n4.kb;have j:=Y (Ia _ _ p.num q.num wc i3 i4);rw[HE.o]at j;go_wp2_with(go_at_call 104;refine j.o.mono ?_;clear j;rintro e w1 ⟨rfl,hq⟩)
  go_ret;exact⟨J,Bt o.o.2.2 hq⟩
 |false=>
  clear B;go_upto_region 3 with fail
  obtain⟨s5,a5,l5,c5,t5,b5,k5,d5,v,r5,i5,j5⟩:=o.o.rat (i:=0) J;have A:=v.kb;obtain⟨s6,a6,l6,c6,t6,b6,k6,d6,x,r6,i6,j6⟩:=o.o.rat (i:=1) J;have z:=x.kb;obtain⟨H3,H4,H8,H9,Qg⟩:=GL (λ(V:H) (h:Bl wc V)=>Ez _ q V (r6.below h)) (λ(V:H) (h:Bl wc V) (v3:D) (g:Jk V v3 ((q.den:Int)))=>Xs _ _ p.num (q.den:Int) V (i5.below h) g (by have r:=HP.o.num.words;have h2:=HQ.o.den.words;omega)) (λ(V:H) (h:Bl wc V)=>Ez _ p V (r5.below h)) (λ(V:H) (h:Bl wc V) (v8:D) (m:Jk V v8 ((p.den:Int)))=>Xs _ _ q.num (p.den:Int) V (i6.below h) m (by have r:=HQ.o.num.words;have h2:=HP.o.den.words;omega)) λ(V:H) (h:Bl wc V) (v4:D) (g4:Jk V v4 (p.num*(q.den:Int))) (v9:D) (K:Jk V v9 (q.num*(p.den:Int)))=>(by have h:=Ia _ _ (p.num*(q.den:Int)) (q.num*(p.den:Int)) V g4 K;rw[show EC (p.num*(q.den:Int)) (q.num*(p.den:Int))=n from HN.o]at h;exact h);have hq:Bl wc wc.drew:=(BB _ wc).drew;go_region_held3 (λf=>(f.cell? ⟨w.heap.size,0,none⟩=some (E s5)/\f.cell? ⟨w.heap.size,1,none⟩=some (C a5 l5 c5)/\f.cell? ⟨w.heap.size,2,none⟩=some (E t5)/\f.cell? ⟨w.heap.size,3,none⟩=some (C b5 k5 d5))/\f.cell? ⟨w.heap.size+1,0,none⟩=some (E s6)/\f.cell? ⟨w.heap.size+1,1,none⟩=some (C a6 l6 c6)/\f.cell? ⟨w.heap.size+1,2,none⟩=some (E t6)/\f.cell? ⟨w.heap.size+1,3,none⟩=some (C b6 k6 d6)) (first|grind|(go_keep;done)|((repeat' apply CT)<;>((repeat rw[JJ O]);first|(simp only[*];done)|(go_keep;done))))
   (first
    |(go_at_call 86;refine(H3.o _ hq ).mono ?_;clear H3;rintro e w3 ⟨v3,rfl,g,am⟩;have hq:=Bt hq am;have A:=(v.below hq).kb;have z:=(x.below hq).kb)
    |(go_at_call 85;refine(H4.o _ hq _ g).mono ?_;clear H4;rintro e w4 ⟨v4,rfl,g4,ah⟩;have g:=g.below ah;have hq:=Bt hq ah;have A:=(v.below hq).kb;have z:=(x.below hq).kb)
    |(go_at_call 86;refine(H8.o _ hq ).mono ?_;clear H8;rintro e w8 ⟨v8,rfl,m,ae⟩;have g:=g.below ae;have g4:=g4.below ae;have hq:=Bt hq ae;have A:=(v.below hq).kb;have z:=(x.below hq).kb)
    |(go_at_call 85;refine(H9.o _ hq _ m).mono ?_;clear H9;rintro e w9 ⟨v9,rfl,K,R⟩;have g:=g.below R;have g4:=g4.below R;have m:=m.below R;have hq:=Bt hq R;have A:=(v.below hq).kb;have z:=(x.below hq).kb)
    |(go_at_call 104;refine(Qg.o _ hq _ g4 _ K).mono ?_;clear Qg;rintro e aq ⟨rfl,M⟩;have g:=g.below M;have g4:=g4.below M;have m:=m.below M;have K:=K.below M;have hq:=Bt hq M;have A:=(v.below hq).kb;have z:=(x.below hq).kb))
  all_goals go_wp2_with fail
  go_ret;exact⟨J,Bt o.o.2.2 hq⟩
theorem MI(va vb:D)(p q:Rat)(w:H)(v:Jl w va p)(x:Jl w vb q)(ad:Sq p)(ae:Sq q):
 F I 51 #[va,vb] w λe f=>∃u,e=.returned u/\Jl f u (p-q)/\Bl w f:=by
 obtain⟨s,a,l,c,t,b,k,d,rfl⟩:=Jl.form v;obtain⟨s',a',l',c',t',U,k',d',rfl⟩:=Jl.form x;have n:=MF w s t s' t' a b a' U l c k d l' c' k' d' p q v x;obtain⟨W0,r⟩:=ex (((w.alloc (G #[E s,C a l c,E t,C b k d] 65)).alloc (G #[E s',C a' l' c',E t',C U k' d'] 65)).alloc (G #[E false,C none 0 0,E false,C none 0 0] 65));have M:=Y r;rw[r]at n;obtain⟨j,HP,K⟩:=Dc n ad ae;clear n v x r ad ae;go_enter func51,ntmps51
 go_upto_region 1 with fail
 rw[M.o];clear M;obtain⟨s1,T,l1,c1,t1,W,k1,d1,y,r1,i1,j1⟩:=j.o.rat (i:=0) J;have P:=y.kb;obtain⟨s2,a2,l2,c2,t2,X,k2,d2,z,r2,i2,j2⟩:=j.o.rat (i:=1) J;have R:=z.kb;obtain⟨s3,a3,l3,c3,t3,b3,k3,d3,m,r3,i3,j3⟩:=j.o.rat (i:=2) J;have o:=m.kb;have Q:=m.fb;have A:=Y λ(V:H) (h:Bl W0 V)=>Rg _ _ 0 q.num V (EY _) (i2.below h) (by have:=Sok.zero.words;omega) (by have:=K.o.num.words;omega);have B:=Y (λ(V:H) (h:Bl W0 V) (s:Bool) (a:kR) (l c:Nat) (g:Jk V (S #[E s,C a l c]) (0-q.num))=>show F I 87 #[S #[E s1,C T l1 c1,E t1,C W k1 d1],S #[E s,C a l c,E t2,C X k2 d2]] V λe f=>∃u,e=.returned u/\Jl f u (p-q)/\Bl V f by
  have h1:=OQ _ _ p (-q) V (r1.below h) (Jl.mk (q:=-q) (by rw[Rat.neg_num,<-Int.zero_sub];exact g) (j2.below h)) HP.o K.o.neg;rw[<-C9]at h1;exact h1)
 have bh:=j.o.ne 0 2 J J DN;have bi:=j.o.ne 1 2 J J DN;have hq:Bl W0 W0.drew:=(BB _ W0).drew;go_region_held3 (λf=>(f.cell? ⟨w.heap.size,0,none⟩=some (E s1)/\f.cell? ⟨w.heap.size,1,none⟩=some (C T l1 c1)/\f.cell? ⟨w.heap.size,2,none⟩=some (E t1)/\f.cell? ⟨w.heap.size,3,none⟩=some (C W k1 d1))/\f.cell? ⟨w.heap.size+1,0,none⟩=some (E s2)/\f.cell? ⟨w.heap.size+1,1,none⟩=some (C a2 l2 c2)/\f.cell? ⟨w.heap.size+1,2,none⟩=some (E t2)/\f.cell? ⟨w.heap.size+1,3,none⟩=some (C X k2 d2)) (first|grind|(go_keep;done)|grind[JJ])
  (first
   |(go_at_call 88;refine(A.o _ hq).mono ?_;clear A;rintro e w1 ⟨u1,rfl,ah,aj⟩;obtain⟨bj,am,bf,aq,rfl⟩:=Jk.form2 ah;have hq:=Bt hq aj;have P:=(y.below hq).kb;have R:=(z.below hq).kb;have o:=(m.below hq).kb;have Q:=(m.below hq).fb)
   |(go_at_call 87;refine(B.o _ hq _ _ _ _ ah).mono ?_;clear B;rintro e w2 ⟨u2,rfl,ai,ak⟩;obtain⟨bk,an,bg,ay,bm,ap,bc,az,rfl⟩:=Jl.form ai;have hq:=Bt hq ak;have P:=(y.below hq).kb;have R:=(z.below hq).kb;have o:=(m.below hq).kb;have Q:=(m.below hq).fb))
 all_goals go_wp2_with fail
 have Qg:=Bt j.o.2.2 hq;have Qf:=j.o.ge 2 J;exact BA (by simp[results,results51,go_sem,o]) J ⟨_,J,ai.put4 (m.below hq) J J J J _ _ _ _,Jw Qg Qf _ _ _ _⟩
end
section
variable{qs:Ja}{cap l:Nat}{a:kR}{W:H}
theorem bD(q:Rat):Ha q 0=0↔q=0:=by
 grind[Rat.eq_iff_mul_eq_mul,Ha,EC]
def Ij:Sq 0:=Sq.of (k:=1) ⟨Sm.zero _,Sm.one _ O⟩ O
def Ru(v:D)(q:Rat)(w:H)(h:Jl w v q)(hq:Sq q):
 F I 31 #[v] w λe r=>e=.returned (E (decide (q=0)))/\Bl w r:=by
 obtain⟨s,a,l,c,t,b,k,d,rfl⟩:=h.form;have b0:=JN.new w 65 (E s) (C a l c) (E t) (C b k d);have f:Bl w (w.alloc (G #[E s,C a l c,E t,C b k d] 65)):=Ba w _;obtain⟨W0,g⟩:=ex (w.alloc (G #[E s,C a l c,E t,C b k d] 65));rw[g]at b0 f;have o:=Y g;have i:=Y (Rt _ _ q 0 W0 (h.below f) (ER _) hq Ij);obtain⟨u,x,y,z⟩:=b0.cq;have j:=Y (bD q);obtain⟨n,m⟩:=ex (Ha q 0);rw[m]at i j;clear g m;go_enter func31,ntmps31
 go_upto_region 1 with fail
 rw[o.o];go_wp2_with(go_at_call 68;refine i.o.mono ?_;rintro e A ⟨rfl,p⟩)
 go_ret;refine⟨?_,Bt f p⟩;show Ending.returned (Value.bool (n==0))=_;have e:(n==0)=decide (q=0):=by rw[Cu];simp[j.o]
 rw[e]
def bE(c:Nat)(a:kR)(len cap:Nat)(x y z u:Nat->D)(k:Nat)(W:H):Prop:=
 W.cell? ⟨c,0,none⟩=some (C a len cap)/\(k<len->∃b,a=some ⟨b,0,none⟩/\W.cell? ⟨b,(len-1-k)*4,none⟩=some (x (len-1-k))/\W.cell? ⟨b,(len-1-k)*4+1,none⟩=some (y (len-1-k))/\
  W.cell? ⟨b,(len-1-k)*4+2,none⟩=some (z (len-1-k))/\W.cell? ⟨b,(len-1-k)*4+3,none⟩=some (u (len-1-k)))
def K0(len:Nat)(x y z u:Nat->D)(k:Nat):Array D:=#[.int .i64 ((len:Int)-1-k),S #[x (len-1-k),y (len-1-k),z (len-1-k),u (len-1-k)]]
def OR(F:Fence)(n:Nat)(B:F.fn 67)(K:F.round=none)(hn:1<=n)(d:Nat)(a:kR)(len cap:Nat)(x y z u:Nat->D)(ae:len<=1099511627776):
 Kb F n I 67 #[L (some ⟨d,0,none⟩)] len (K0 len x y z u) (bE d a len cap x y z u):=λl J M W j w g=>by
 have T:=(j 0 W g).1;refine Bv func67 rfl B ?_ K;simp only[ntmps67,An,Ak,AK,Nat.reduceAdd,Nat.reduceSub,Ay,Az,AJ,AA,Aj,Au];gi_wp2;gi_loopw [3] (λi wr=>∃k:Nat,k<=len/\i=.int .i64 ((len:Int)-1-k)/\J k wr) λi _=>(intOf i+1).toNat
 case atStart=>exact⟨0,As _,DK,g⟩
 case round=>
  obtain⟨k,hk,rfl,hJ⟩:=hrel;obtain⟨R,A⟩:=j k wr hJ;by_cases c:k<len
  . obtain⟨b,rfl,U,X,ad,V⟩:=A c;obtain⟨fn,tmps,assign,body,q,v⟩:=w k wr hJ c;have f:((len:Int)-1-k)=((len-1-k:Nat):Int):=O
    have Q:len-1-k<len:=O
    dsimp only[K0]at q;rw[f]at q ⊢;generalize o:len-1-k=m at *;have r:=Hid.o (p:=Hid (len-1-k=m)) o;clear o f;gi_wp2;refine v.mono ?_;rintro e P (⟨rfl,s⟩|⟨rfl,t⟩)
    . gi_wp2;go_roundw
      case rel=>exact⟨k+1,O,by(congr 1;have:=r.o;omega),s⟩
      case measure=>simp[intOf]
    . gi_wp2;refine BA (results_none rfl _ _ _) rfl ?_;exact⟨⟨_,rfl⟩,.inr ⟨k,c,t⟩⟩
  . obtain rfl:k=len:=O
    gi_wp2;go_end0;exact⟨⟨_,rfl⟩,.inl hJ⟩
def OS(F:Fence)(n:Nat)(b:F.fn 30)(c:F.round=none)(a:kR)(len cap:Nat)(w:H):
 CallsIn F n I 30 #[C a len cap] w λe d=>e=.returned (.func (.func 67) #[] #[L (some ⟨w.heap.size,0,none⟩)])/\d=w.alloc (G #[C a len cap] 23):=by
 refine Bv func30 J b ?_ c;simp only[ntmps30,An,Ak,AK,Nat.reduceAdd,Nat.reduceSub,Ay,Az,AJ,AA,Aj,Au];gi_wp2;go_ret;exact⟨J,J⟩
def MJ:D->Bool|E b=>b|_=>false
def MK:D->kR|C a _ _=>a|_=>none
def MN:D->Nat|C _ _ c=>c|_=>0
theorem RowK.pick{r:Bool}(h:RowK r W (C a l cap) qs):l=qs.length/\l<=cap/\cap<=9223372036854775807/\l<=1099511627776/\∃x y z u:Nat->D,∀j,j<l->Dy r W (S #[x j,y j,z j,u j]) (cf qs j)/\
 ∃b,a=some ⟨b,0,none⟩/\b<W.heap.size/\W.cell? ⟨b,j*4,none⟩=some (x j)/\W.cell? ⟨b,j*4+1,none⟩=some (y j)/\W.cell? ⟨b,j*4+2,none⟩=some (z j)/\W.cell? ⟨b,j*4+3,none⟩=some (u j):=by
 obtain⟨a',cap',e,f,g,i,c⟩:=h;cases e;refine⟨J,f,g,i,?_⟩;rcases c with c|⟨b,m,k⟩
 . exact⟨λ_=>N,λ_=>N,λ_=>N,λ_=>N,λj d=>by rw[c]at d;simp at d⟩
 . obtain⟨cs,c1,c2⟩:=k;refine⟨λj=>cs[j*4]?.getD N,λj=>cs[j*4+1]?.getD N,λj=>cs[j*4+2]?.getD N,λj=>cs[j*4+3]?.getD N,λj d=>?_⟩;grind[cell_of]
def RowK.forms(h:RowK true W (C a l cap) qs):l=qs.length/\l<=cap/\cap<=9223372036854775807/\l<=1099511627776/\∃(s t:Nat->Bool) (k m:Nat->kR) (p n o dd:Nat->Nat),∀j,j<l->Jl W (S #[E (s j),C (k j) (p j) (n j),E (t j),C (m j) (o j) (dd j)]) (cf qs j)/\
 ∃b,a=some ⟨b,0,none⟩/\b<W.heap.size/\W.cell? ⟨b,j*4,none⟩=some (E (s j))/\W.cell? ⟨b,j*4+1,none⟩=some (C (k j) (p j) (n j))/\W.cell? ⟨b,j*4+2,none⟩=some (E (t j))/\W.cell? ⟨b,j*4+3,none⟩=some (C (m j) (o j) (dd j)):=by
 obtain⟨r,v,w,A,x,y,z,u,K⟩:=h.pick;refine⟨r,v,w,A,λj=>MJ (x j),λj=>MJ (z j),λj=>MK (y j),λj=>MK (u j),λj=>Ht (y j),λj=>MN (y j),λj=>Ht (u j),λj=>MN (u j),λj M=>?_⟩;obtain⟨i,b,q,B,c0,c1,c2,c3⟩:=K j M;obtain⟨s,a',l',c',t,P,R,Q,e,_⟩:=(show Jl W _ _ from i);simp only[DF,FJ,FC,and_true]at e;obtain⟨c,d,f,g⟩:=e;rw[c,d,f,g]at i;rw[c]at c0;rw[d]at c1;rw[f]at c2;rw[g]at c3;dsimp only;rw[c,d,f,g];exact⟨i,b,q,B,c0,c1,c2,c3⟩
def Rv(w:H)(a:kR)(len cap:Nat)(qs:Ja)(k:Nat)(W:H):Prop:=
 ((((Boxed W w.heap.size 23 (C a len cap)/\Boxed W (w.heap.size+1) 75 (.func (.func 31) #[] #[]))/\Boxed W (w.heap.size+1+1) 23 (C none 0 0))/\Boxed W (w.heap.size+1+1+1) 23 (C a len cap))/\Bl w W)/\∀j,len-k<=j->j<len->cf qs j=0
def Rw(w:H)(a:kR)(len cap:Nat)(qs:Ja)(c:Code)(k:Nat)(W:H):Prop:=
 (Boxed W (w.heap.size+1+1) 23 (C a (len-1-k+1) cap)/\Bl w W)/\(c=.ret/\cf qs (len-1-k)≠0/\∀j,len-k<=j->j<len->cf qs j=0)
def bF(w:H)(a:kR)(len cap:Nat)(qs:Ja):OwnFrom (w.heap.size+1+1+1+1) (Rv w a len cap qs):=
 BN (BN (BN (BN (BN (Bi (boxed_own _ _ λ_=>C a len cap) _) (Bi (boxed_own _ _ λ_=>.func (.func 31) #[] #[]) _)) (Bi (boxed_own _ _ λ_=>C none 0 0) _)) (Bi (boxed_own _ _ λ_=>C a len cap) _)) (Bu (Aa _) O)) (DH _ _)
def bG(w:H)(a:kR)(len cap:Nat)(qs:Ja)(c:Code):OwnFrom (w.heap.size+1+1+1+1) (Rw w a len cap qs c):=
 BN (BN (Bi (boxed_own _ _ λk=>C a (len-1-k+1) cap) _) (Bu (Aa _) O)) (DH _ _)
theorem bH(a:kR)(len cap:Nat)(qs:Ja)(w:H)(h:RowK true w (C a len cap) qs)(hs:Sqs qs):
 F I 60 #[C a len cap,.func (.func 31) #[] #[]] w λe y=>∃u,e=.returned u/\(RowK true y u (Jb qs)/\Bl w y)/\(u=C none 0 0/\Jb qs=[]\/u=C a (Jb qs).length cap):=by
 obtain⟨hl,ak,am,ai,s,t,A,B,T,M,R,dd,hc⟩:=h.forms;obtain⟨HL,HC,HS⟩:=Dc hl hc hs;clear hc hl hs;refine(BJ (n:=3)).1 ?_;refine BU func60 J trivial ?_ J;simp only[ntmps60,An,Ak,AK,Nat.reduceAdd,Nat.reduceSub,Ay,Az,AJ,AA,Aj,Au];gi_wp2_with(refine⟨trivial,?_⟩;gi_at_call 30;refine(OS Fence.wide _ trivial J _ _ _ _).mono ?_;rintro e y ⟨rfl,rfl⟩)
 have b0:=(((BK w 23 (C a len cap)).alloc (G #[.func (.func 31) #[] #[]] 75)).alloc (G #[C none 0 0] 23)).alloc (G #[C a len cap] 23);have b1:=((BK (w.alloc (G #[C a len cap] 23)) 75 (.func (.func 31) #[] #[])).alloc (G #[C none 0 0] 23)).alloc (G #[C a len cap] 23);have b2:=(BK ((w.alloc (G #[C a len cap] 23)).alloc (G #[.func (.func 31) #[] #[]] 75)) 23 (C none 0 0)).alloc (G #[C a len cap] 23);have b3:=BK (((w.alloc (G #[C a len cap] 23)).alloc (G #[.func (.func 31) #[] #[]] 75)).alloc (G #[C none 0 0] 23)) 23 (C a len cap);simp only[A1]at b1 b2 b3;have Qd:Bl w ((((w.alloc (G #[C a len cap] 23)).alloc (G #[.func (.func 31) #[] #[]] 75)).alloc (G #[C none 0 0] 23)).alloc (G #[C a len cap] 23)):=(((Ba w _).alloc DK _).alloc si _).alloc si _;have hN:((((w.alloc (G #[C a len cap] 23)).alloc (G #[.func (.func 31) #[] #[]] 75)).alloc (G #[C none 0 0] 23)).alloc (G #[C a len cap] 23)).heap.size=w.heap.size+1+1+1+1:=DK
 refine Ps J O (gf:=67) (lb:=#[L (some ⟨w.heap.size+1+1+1,0,none⟩)]) J trivial (DB func67 kS J)
  (OR Fence.wide _ trivial J O (w.heap.size+1+1+1) a len cap (λj=>E (s j)) (λj=>C (A j) (T j) (M j)) (λj=>E (t j)) (λj=>C (B j) (R j) (dd j)) ai) (λ_=>rfl)
  (Rv w a len cap qs) (Rw w a len cap qs) (by rw[hN];exact bF w a len cap qs) (λc=>by rw[hN];exact bG w a len cap qs c)
  ⟨⟨⟨⟨⟨b0,b1⟩,b2⟩,b3⟩,Qd⟩,λj r P=>by omega⟩ ?rd
  (λk b=>{ tmps:=#[C a len cap,.func (.func 31) #[] #[],L (some ⟨w.heap.size,0,none⟩),L (some ⟨w.heap.size+1,0,none⟩),L (some ⟨w.heap.size+1+1,0,none⟩),.int .i64 ((len:Int)-1-k),L (some ⟨b,0,none⟩),C a len cap,.func (.func 67) #[] #[L (some ⟨w.heap.size+1+1+1,0,none⟩)],.int .i64 ((len:Int)-1-k),S #[E (s (len-1-k)),C (A (len-1-k)) (T (len-1-k)) (M (len-1-k)),E (t (len-1-k)),C (B (len-1-k)) (R (len-1-k)) (dd (len-1-k))],N,N,N,N,N,N,N,N],defers:=[] })
  (λk=>G #[E (s (len-1-k)),C (A (len-1-k)) (T (len-1-k)) (M (len-1-k)),E (t (len-1-k)),C (B (len-1-k)) (R (len-1-k)) (dd (len-1-k))] 65 (0,0)) ?assign ?body ?done ?stop
 case rd=>
  rintro k W ⟨⟨⟨_,c3⟩,f⟩,_⟩;refine⟨c3.cell,λhk=>?_⟩;obtain⟨_,b,ea,Q,r,P,h3,h4⟩:=HC.o (len-1-k) O;exact⟨b,ea,(f.cell (p:=⟨b,_,none⟩) Q).trans r,(f.cell (p:=⟨b,_,none⟩) Q).trans P,(f.cell (p:=⟨b,_,none⟩) Q).trans h3,(f.cell (p:=⟨b,_,none⟩) Q).trans h4⟩
 case assign=>
  intro l k W K v;unfold K0;gi_wp2;exact v
 case body=>
  rintro l k b W ⟨⟨⟨⟨⟨c0,c1⟩,c2⟩,c3⟩,f⟩,i⟩ hk ap aj ad;have hm:len-1-k<len:=O
  obtain⟨hi,_⟩:=HC.o (len-1-k) hm;have HI:=Y (Jl.below hi f);have o:=Y i;have e1:((len:Int)-1-k)=((len-1-k:Nat):Int):=O
  rw[e1];have Qe:=Y (show len-1-k=len-1-k from J);clear e1 i hi;obtain⟨m,ae⟩:=ex (len-1-k);have U:=Y ae;rw[ae]at ad HI hm ⊢;clear ae Qe;have q0:JN W b 65 (E (s m)) (C (A m) (T m) (M m)) (E (t m)) (C (B m) (R m) (dd m)):=ad;obtain⟨k0,k1,k2,k3⟩:=q0.cq;have d0:=c0.cell;have d1:=c1.cell;have d2:=c2.cell;have f2:=c2.frozen;clear q0 ad;have z:=Y (Be l ((BJ (n:=3-1-1-1)).2 (Ru _ _ W HI.o (HS.o.at m))));by_cases g:cf qs m=0
  . have V:=Y g;rw[show decide (cf qs m=0)=true from BI g]at z;clear g;gi_wp2_with(refine⟨trivial,?_⟩;gi_at_call 31;refine z.o.mono ?_;rintro e y ⟨rfl,d⟩)
    refine⟨(Yn d).from _,⟨⟨⟨⟨boxed_below c0 d,boxed_below c1 d⟩,boxed_below c2 d⟩,boxed_below c3 d⟩,Bt f d⟩,λj r P=>?_⟩;by_cases x:j=m
    . rw[x];exact V.o
    . have:=U.o;exact o.o j O P
  . have V:=Y g;rw[show decide (cf qs m=0)=false from BE g]at z;clear g;gi_wp2_with(refine⟨trivial,?_⟩;gi_at_call 31;refine z.o.mono ?_;rintro e y ⟨rfl,d⟩;have d0:=(boxed_below c0 d).cell;have d2:=(boxed_below c2 d).cell;have f2:=(boxed_below c2 d).frozen)
    have ah:=Bt f d;refine⟨((Yn d).trans (BM _ _ _)).from _,⟨?_,ah.setCell (p:=⟨w.heap.size+1+1,0,none⟩) si _⟩,J,by rw[U.o];exact V.o,o.o⟩;rw[U.o];exact(boxed_below c2 d).set _
 case done=>
  rintro D W hD ⟨⟨⟨⟨⟨c0,c1⟩,c2⟩,c3⟩,f⟩,i⟩ v;have d1:=c2.cell;have f1:=c2.frozen;have o:=Y i;clear i;gi_wp2;have Qc:=(BM W ⟨w.heap.size+1+1,0,none⟩ (C none 0 0)).same D _ v J;refine⟨DK,.inl ⟨_,_,J,BX Qc,?_⟩⟩;have X:=(c2.set (C none 0 0)).kept (BV _ D (.deferred none)) (λe=>by grind);have q:=X.cell;have e0:=LW λj=>by
   rcases AP j len with x|x
   . exact o.o j O x
   . exact JS (by have:=HL.o;omega)
  refine⟨C none 0 0,by simp[results,results60,go_sem,q],_,J,⟨?_,?_⟩,Am ⟨J,e0⟩⟩
  . rw[e0];exact RowK.nil _ _
  . exact(f.setCell (p:=⟨w.heap.size+1+1,0,none⟩) si _).trans (DJ (w:=w) (Aa _) _ D _ _ (by simp at hD;omega) Qc J J)
 case stop=>
  rintro D c k W hD hk ⟨⟨c1,f⟩,rfl,g,i⟩ v;have d1:=c1.cell;have o:=Y (show cf qs (len-1-k)≠0/\∀j,len-k<=j->j<len->cf qs j=0 from⟨g,i⟩);clear i g;gi_wp2;refine⟨DK,.inl ⟨_,_,J,BX v,?_⟩⟩;have X:=c1.kept (BV _ D (.deferred none)) (λe=>by grind);have q:=X.cell;have Qb:Bl w (W.putObj D (.deferred none)):=f.trans (DJ (w:=w) (Aa _) _ D _ _ (by simp at hD;omega) v J J);have an:=HL.o;have e:Jb qs=qs.take (len-1-k+1):=by
   refine PV O (Ax o.o.1) λj x=>?_;rcases AP j len with r|r
   . exact o.o.2 j O r
   . exact JS O
  have el:(qs.take (len-1-k+1)).length=len-1-k+1:=by rw[Ah];omega
  refine⟨C a (len-1-k+1) cap,by simp[results,results60,go_sem,q],_,J,⟨?_,Qb⟩,Ax (by rw[e,el])⟩;rw[e];exact(h.below Qb).take O
def K1(N:Nat)(v:D):Prop:=∀a l c,v=C (some a) l c->N<=a.block
def MO(N:Nat)(v:D):Prop:=∀a l c,v=S #[C (some a) l c]->N<=a.block
def Ej{B:Nat}{c:Nat}(b:Boxed W B 25 (C a l c))(x:D){v:D}(h:RowK true W v qs):RowK true (W.setCell ⟨B,0,none⟩ x) v qs:=
 M3.L8 (cs:=#[C a l c]) b (o:=0) J J true DN x v qs h
def Ik(v:D)(qs:Ja)(w:H)(h:RowK true w v qs)(hs:Sqs qs):
 F I 27 #[v] w λe o=>∃u,e=.returned u/\Jh o u (Jb qs)/\(∀N,K1 N v->MO N u)/\Bl w o:=by
 obtain⟨a,l,c,rfl⟩:=h.form;have b0:=BK w 25 (C none 0 0);have b:Bl w (w.alloc (G #[C none 0 0] 25)):=Ba w _;obtain⟨W0,g⟩:=ex (w.alloc (G #[C none 0 0] 25));rw[g]at b0 b;have r:=Y g;have i:=Y (bH a l c qs W0 (h.below b) hs);have n:=b0.cell;have f0:=b0.frozen;clear g h hs;go_enter func27,ntmps27
 go_upto_region 1 with fail
 rw[r.o];go_wp2_with(go_at_call 60;refine i.o.mono ?_;clear i;rintro e z ⟨u,rfl,⟨m,j⟩,k⟩;obtain⟨t,y,x,rfl⟩:=m.form;have d:=boxed_below b0 j;have n:=d.cell;have f0:=d.frozen;have q:=Y k;clear k)
 refine BA (by simp[results,results27,go_sem,n]) J ⟨_,J,⟨_,J,Ej d _ m⟩,?_,(Bt b j).setCell (p:=⟨w.heap.size,0,none⟩) (Aa _) _⟩;intro N s a' l' c' e;simp only[DF,FJ,FC,and_true]at e;rcases q.o with⟨f,_⟩|f
 . rw[f]at e;cases e
 . rw[f]at e;cases e;exact s _ _ _ J
def YJ(v:D)(ps:Ja)(w:H)(h:Jh w v ps):
 F I 20 #[v] w λe c=>e=.returned (.int .i64 ((ps.length:Int)-1))/\Bl w c:=by
 obtain⟨u,rfl,b⟩:=h;obtain⟨a,cap,rfl,d,f,g,_⟩:=b.open;clear b;generalize ps.length=n at *;go_enter func20,ntmps20
 go_wp2;go_ret;exact⟨J,Ba _ _⟩
def OT(v:D)(qs:Ja)(i:Int)(w:H)(h:RowK true w v qs):
 F I 100 #[v,.int .i64 i] w λe k=>∃u,e=.returned u/\Jl k u (if i<0 then 0 else cf qs i.toNat)/\Bl w k:=by
 obtain⟨a,l,c,rfl⟩:=h.form;obtain⟨hl,R,T,U,s,t,q,r,K,x,B,dd,g⟩:=h.forms;have o:=Y hl;have d:=Y g;clear hl g h;by_cases f:i<0
 . rw[BL f];go_enter func100,ntmps100
   go_wp2;exact BA (by simp[results,results100,go_sem]) J ⟨_,J,ER _,(Ba w _).alloc DK _⟩
 . rw[BH f];by_cases y:(l:Int)<=i
   . have p:=Y (show cf qs i.toNat=0 from JS (by have:=o.o;omega));rw[p.o];go_enter func100,ntmps100
     go_wp2;exact BA (by simp[results,results100,go_sem]) J ⟨_,J,ER _,(Ba w _).alloc DK _⟩
   . obtain⟨m,rfl⟩:∃m:Nat,i=(m:Int):=⟨i.toNat,O⟩;have z:m<l:=O
     obtain⟨j,b,rfl,Q,V,A,W,X⟩:=d.o m z;have n:=Y j;rw[Cv];clear d j y;generalize s m=s1 at *;generalize t m=t1 at *;generalize q m=M at *;generalize r m=P at *;generalize K m=l1 at *;generalize x m=c1 at *;generalize B m=A at *;generalize dd m=d1 at *;go_enter func100,ntmps100
     go_wp2;exact BA (by simp[results,results100,go_sem]) J ⟨_,J,n.o.below (Ba w _),Ba w _⟩
end
namespace M3
variable{c l:Nat}{a:kR}
def row_zero(V:H)(a:kR):RowK true V (C a 0 0) []:=⟨a,0,J,Aa _,O,DK,Am J⟩
def MP(V:H):Has V (S #[C Option.none 0 0]) (.poly []):=⟨_,J,row_zero V Option.none⟩
def Rx(V:H):Jh V (S #[C Option.none 0 0]) []:=⟨_,J,row_zero V Option.none⟩
def DL.poly2{w V:H}{bs:List (Option (Nat × Dat))}(M:DL w V bs){i B:Nat}{ps:Ja}(h:bs[i]?=some (some (B,.poly ps))):∃a l c,Boxed V B 25 (C a l c)/\Jh V (S #[C a l c]) ps:=by
 obtain⟨a,l,c,b,d⟩:=M.poly h;exact⟨a,l,c,b,_,J,d⟩
def K3{W:H}{B:Nat}(b:Boxed W B 25 (C a l c)){x v:D}{qs:Ja}(h:Jh W v qs):Jh (W.setCell ⟨B,0,Option.none⟩ x) v qs:=by
 obtain⟨u,e,h⟩:=h;exact⟨u,e,Ej b x h⟩
def Has.set1{V:H}{v:D}{d:Dat}(h:Has V v d){B:Nat}(q:Boxed V B 25 (C a l c))(e:JG (C a l c)=true)(b:D):Has (V.setCell ⟨B,0,Option.none⟩ b) v d:=
 h.keep (RR q e b) (Ax λ_ _ g=>Ej q b g)
def Ey.set1{V:H}{v:D}{d1 d:Dat}(h:Ey V v d1 d){B:Nat}{a:kR}{l c:Nat}(q:Boxed V B 25 (C a l c))(f:JG (C a l c)=true)(b:D):Ey (V.setCell ⟨B,0,Option.none⟩ b) v d1 d:=by
 obtain⟨u1,u2,e,g,i⟩:=h;exact⟨u1,u2,e,g.set1 q f b,i.set1 q f b⟩
section
variable {w V:World} {bs:List (Option (Nat × Dat))} {B:Nat} {ρ:Operand->Value} {x y:Operand} {dst:Option Tmp} {ty:TypeId} {ps:String} {af:Array Edge} {gd:Option (Nat × Bool)} {q q0:Rat} {z z0:Int} {p p0:Ja} {v p1 u1:Value} {ds:List Dat} {T:World->Value->Prop}
def Ek(i:Nat)(M:DL w V bs)(h:bs[i]?=some (some (B,.poly p)):=by rfl)(hp:p1=L (some ⟨B,0,none⟩):=by rfl)(b:ρ x=p1:=by kernel_rfl):∃u,(execOp ρ { dst:=dst,op:=.load 25 x,type:=ty,pos:=ps,after:=af,guard:=gd }).run I V=.ok (.value u) V/\Has V u (.poly p):=by
 rw[hp]at b;obtain⟨a,l,c,n,r⟩:=M.poly2 h;have d:=n.cell;exact⟨_,by go_simp,r⟩
def E0(i:Nat)(M:DL w V bs)(b:Has V u1 (.poly p))(h:bs[i]?=some (some (B,.poly p0)):=by rfl)(hp:p1=L (some ⟨B,0,none⟩):=by rfl)(f:ρ x=p1:=by kernel_rfl)(g:ρ y=u1:=by kernel_rfl)(hT:∀ {a l c x},Boxed V B 25 (C a l c)->DL w (V.setCell ⟨B,0,none⟩ x) (bs.set i (some (B,.poly p)))->T (V.setCell ⟨B,0,none⟩ x) N:=by exact λ_ m=>m):Wr ρ { dst:=none,op:=.store 25 x y,type:=ty,pos:=ps,after:=af,guard:=gd } V ds (.eq N) T:=by
 rw[hp]at f;obtain⟨a,l,c,n,r⟩:=M.poly2 h;have o:=n.cell;have f0:=n.frozen;obtain⟨j,l1,c1,e⟩:=Jh.form (show Jh V _ _ from b);rw[e]at b;rw[e]at g;exact⟨.skip,N,_,by go_simp,Ax ⟨J,J⟩,J,λd v _ k=>k.set1 n J _,hT n (M.putPoly h b)⟩
def Il(i:Nat)(M:DL w V bs)(h:bs[i]?=some none:=by rfl)(hT:∀ {o},DL w (V.alloc o) (bs.set i (some (V.heap.size,.poly [])))->T (V.alloc o) (L (some ⟨V.heap.size,0,none⟩)):=by exact λm=>m):Wr ρ { dst:=dst,op:=.alloc 25,type:=ty,pos:=ps,after:=af,guard:=gd } V ds .ptr T:=
 ⟨_,L (some ⟨V.heap.size,0,none⟩),_,by go_simp;exact J,Am J,J,λ_ _ _ k=>k.alloc _,hT (M.fill h (.poly []) (MP V))⟩
end
end M3
def Tryz.infoRat:(Tryz.prog.info? 65).map (λi=>(i.zero,i.size,i.bytes))=some (some (S #[E false,C none 0 0,E false,C none 0 0]),4,64):=by kernel_rfl
def YB(n:Nat):Array D:=madeCells #[E false,C none 0 0,E false,C none 0 0] (n*4)
theorem MQ{n j:Nat}(a:j<n):(YB n)[j*4]?=some (E false)/\(YB n)[j*4+1]?=some (C none 0 0)/\(YB n)[j*4+2]?=some (E false)/\(YB n)[j*4+3]?=some (C none 0 0):=by
 unfold YB madeCells;have h:∀k,k<n*4->((Array.range (n*4)).map λi=>(#[Value.bool false,Value.slice none 0 0,Value.bool false,Value.slice none 0 0]:Array D)[i%4]!)[k]?=some ((#[Value.bool false,Value.slice none 0 0,Value.bool false,Value.slice none 0 0]:Array D)[k%4]!):=λk b=>by
  grind
 refine⟨(h _ O).trans ?_,(h _ O).trans ?_,(h _ O).trans ?_,(h _ O).trans ?_⟩
 . grind
 . grind
 . grind
 grind
def K4(n:Nat)(h:n<=2199023255552)(w:H):(Instr.makeSlice 23 (.int .i64 (n:Int)) (.int .i64 (n:Int))).run I w=.ok (C (some ⟨w.heap.size,0,none⟩) n n) (w.alloc (G (YB n) 65)):=by
 obtain⟨i,d,b⟩:=Fk.1 Tryz.infoRat;simp only[Prod.mk.injEq]at b;obtain⟨e,hs,c⟩:=b;have a:=run_make (P:=I) w 23 65 i _ underlying23 d e .i64 .i64 n n O (Int.le_refl _) (by rw[c];omega) O;simp only[Cv,hs]at a;exact a
def OU(n:Nat)(w:H):Dj true (w.alloc (G (YB n) 65)) w.heap.size (List.replicate n 0):=by
 refine⟨YB n,BC w _,λj a=>?_⟩;rw[AE]at a;obtain⟨b,c,d,e⟩:=MQ a;exact⟨_,_,_,_,b,c,d,e,by rw[JT];exact ER _⟩
theorem bI(a b:kR)(la ca lb cb:Nat)(ps qs:Ja)(w:H)(x:RowK true w (C a la ca) ps)(y:RowK true w (C b lb cb) qs)(X:Sqs ps)(ad:Sqs qs):
 F I 83 #[C a la ca,C b lb cb,.func (.func 51) #[] #[]] w λe w'=>∃v c,e=.returned v/\RowK true w' v c/\(∀j,cf c j=cf ps j-cf qs j)/\K1 w.heap.size v/\Bl w w':=by
 obtain⟨U,ai,ak,az,_⟩:=x.forms;obtain⟨W,aj,am,bc,_⟩:=y.forms;obtain⟨n,hn⟩:∃n:Nat,max (la:Int) (lb:Int)=(n:Int):=⟨max la lb,O⟩;have bh:n<=1099511627776:=O
 obtain⟨HN,HA,HB,HP,HQ,Qp,Qq⟩:=Np (show la<=n/\lb<=n from by omega) x y X ad U W;have Qo:=K4 n O w;have o:=OU n w;have s:Bl w (w.alloc (G (YB n) 65)):=Ba w _;obtain⟨W0,Q⟩:=ex (w.alloc (G (YB n) 65));rw[Q]at o s Qo;have Qr:=Y o;have Qn:=Y s;clear o s Q x y X ad U W ai ak aj am;go_enter func83,ntmps83
 go_wp2;go_loopw [17] (λi wr=>∃(k:Nat) (c:Ja),k<=n/\i=.int .i64 (k:Int)/\Hid (c.length=n/\(∀j,j<k->cf c j=cf ps j-cf qs j)/\Dj true wr w.heap.size c/\Bl w wr)) λi _=>n-(intOf i).toNat
 case atStart=>exact⟨0,_,As _,J,Y ⟨AE,λj l=>by omega,Qr.o,Qn.o⟩⟩
 case round=>
  obtain⟨k,c,hk,rfl,d⟩:=hrel;by_cases bf:k<n
  . have bg:(k:Int)<(n:Int):=O
    have q:=Y (OT _ ps (k:Int) wr (HA.o.below d.o.2.2.2));have r:=Y λ(V:H) (h:Bl wr V)=>OT _ qs (k:Int) V ((HB.o.below d.o.2.2.2).below h);rw[BH O,Cv]at q;rw[show(if(k:Int)<0 then(0:Rat)else cf qs ((k:Int)).toNat)=cf qs k from by grind]at r;have K:=Y λ(V:H) (u v:D) (hu:Jl V u (cf ps k)) (hv:Jl V v (cf qs k))=>MI u v (cf ps k) (cf qs k) V hu hv (HP.o.at k) (HQ.o.at k);have p:=Y (show k<c.length from by have:=d.o.1;omega);go_wp2_with(first
     |(go_at_call 100;refine q.o.mono ?_;clear q;rintro e w1 ⟨u1,rfl,g,R⟩;have m:=R)
     |(go_at_call 100;refine(r.o _ m).mono ?_;clear r;rintro e w2 ⟨u2,rfl,ae,z⟩;have g:=g.below z;have P:=Bt m z;clear m)
     |(go_at_call 51;refine(K.o _ _ _ g ae).mono ?_;clear K;rintro e w3 ⟨u3,rfl,ah,T⟩;have M:=Bt P T;clear P g ae R z T;have f:=d.o.2.2.1.below M;obtain⟨x0,y0,z0,t0,k0,k1,k2,k3,_⟩:=f.at p.o;have f0:=f.frozen (k*4);have f1:=f.frozen (k*4+1);have f2:=f.frozen (k*4+2);have f3:=f.frozen (k*4+3);obtain⟨bk,an,bj,aq,bm,ap,bi,ay,rfl⟩:=Jl.form ah))
    go_roundw
    case rel=>
     refine⟨k+1,c.set k (cf ps k-cf qs k),O,by go_num,Y ⟨by rw[C0];exact d.o.1,λj l=>?_,f.set p.o ah,RM (Bt d.o.2.2.2 M) (Aa _) _ _ _ _⟩⟩;rw[XJ _ _ _ _ p.o];by_cases A:j=k
     . rw[BL A,A]
     . rw[BH A];exact d.o.2.1 j O
    case measure=>simp[intOf];omega
  . have Qm:k=n:=O
    subst Qm;go_wp2;go_ret;have t:=d.o;have B:=t.2.2.1.row (n:=k) (cap:=k) O (Aa _) O O;rw[Ad O]at B;refine⟨_,c,J,B,λj=>?_,λa' l' c' e=>by cases e;exact Aa _,t.2.2.2⟩;rcases AP j k with l|l
    . exact t.2.1 j l
    . have:=HN.o;have h1:=Qp.o;have h2:=Qq.o;rw[JS O,JS O,JS O];grind
def Ry(x y:D)(ps qs:Ja)(w:H)(f:Jh w x ps)(g:Jh w y qs)(r:Sqs ps)(s:Sqs qs)(t:Sqs (JP ps qs)):
 F I 48 #[x,y] w λe z=>∃u,e=.returned u/\Jh z u (JP ps qs)/\MO w.heap.size u/\Bl w z:=by
 obtain⟨u,rfl,f⟩:=f;obtain⟨v,rfl,g⟩:=g;obtain⟨a,la,ca,rfl⟩:=f.form;obtain⟨b,lb,cb,rfl⟩:=g.form;obtain⟨W0,d⟩:=ex (((w.alloc (G #[C a la ca] 25)).alloc (G #[C b lb cb] 25)).alloc (G #[C none 0 0] 25));have b0:Boxed W0 w.heap.size 25 (C a la ca):=by rw[<-d];exact((BK w _ _).alloc _).alloc _
 have P:Boxed W0 (w.heap.size+1) 25 (C b lb cb):=by rw[<-d];have:=(BK (w.alloc (G #[C a la ca] 25)) 25 (C b lb cb)).alloc (G #[C none 0 0] 25);simpa using this
 have Q:Boxed W0 (w.heap.size+1+1) 25 (C none 0 0):=by rw[<-d];have:=BK ((w.alloc (G #[C a la ca] 25)).alloc (G #[C b lb cb] 25)) 25 (C none 0 0);simpa using this
 have k:Bl w W0:=by rw[<-d];exact((Ba w _).alloc DK _).alloc si _
 obtain⟨o,q,M,K⟩:=Do (bI a b la ca lb cb ps qs W0 (f.below k) (g.below k) r s) (λ(V:H) (v:D) (c:Ja) (h:RowK true V v c) (hs:Sqs c)=>Ik v c V h hs) t d;have k0:=b0.cell;have k1:=P.cell;clear d f g r s t;go_enter func48,ntmps48
 go_upto_region 1 with fail
 rw[K.o];go_wp2_with(first
  |(go_at_call 83;refine o.o.mono ?_;clear o;rintro e w1 ⟨v1,c,rfl,ad,n,W,T⟩;have B:Sqs c:=Sqs.of (λi=>by rw[n i,<-Iy];exact M.o.at i);have A:=Y n;clear n)
  |(go_at_call 27;refine(q.o _ _ c ad B).mono ?_;clear q;rintro e w2 ⟨u2,rfl,m,X,U⟩;obtain⟨a9,l9,c9,rfl⟩:=m.form;have hq:=Bt T U;have l:=boxed_below Q hq;have k2:=l.cell;have f2:=l.frozen))
 have R:Jb c=JP ps qs:=by
  rw[<-Yi];exact Yy λj=>by rw[A.o j,Iy]
 rw[R]at m;refine BA (by simp[results,results48,go_sem,k2]) J ⟨_,J,⟨_,J,Ej l _ m.row⟩,?_,(Bt k hq).setCell (p:=⟨w.heap.size+1+1,0,none⟩) si _⟩;intro a' l' c' e;have:=X W0.heap.size W a' l' c' e;have h2:=k.size;omega
section
variable{r:Bool}{qs:Ja}{base:Nat}{W:H}
def Tryz.infoRef:(Tryz.prog.info? 85).map (λi=>(i.zero,i.size,i.bytes))=some (some (S #[C none 0 0,E false,C none 0 0,E false]),4,64):=by kernel_rfl
def EI(r:Bool)(base:Nat)(W:H)(v:D)(qs:Ja):Prop:=
 (v=C none 0 0/\qs=[])\/∃g cap a,v=C (some ⟨g,0,none⟩) qs.length cap/\base<=g/\W.heap[g]?=some (G a (Dr r) (0,0))/\qs.length<=cap/\cap<=maxLen/\a.size=cap*4/\(∀c∈a.toList,JG c=true)/\YQ r W (a.toList.take (qs.length*4)) qs
theorem EI.nil(r:Bool)(base:Nat)(W:H):EI r base W (C none 0 0) []:=Am ⟨J,J⟩
def EI.below{r:Bool}{base:Nat}{W W':H}{v:D}{qs:Ja}(h:EI r base W v qs)(b:Bl W W'):EI r base W' v qs:=by
 rcases h with h|⟨g,cap,c,d,e,a,f,i,j,k,l⟩
 . exact Am h
 . exact Ax ⟨g,cap,c,d,e,(b.block g (Ab.1 a).1).trans a,f,i,j,k,l.below b⟩
theorem EI.row{v:D}(h:EI r base W v qs)(hl:qs.length<=1099511627776):RowK r W v qs:=by
 rcases h with⟨rfl,rfl⟩|⟨g,cap,a,rfl,n,b,c,d,o,p,e⟩
 . exact RowK.nil r W
 . refine⟨_,cap,J,c,by unfold maxLen at d;omega,hl,Ax ⟨g,J,a,b,λj f=>?_⟩⟩;obtain⟨x,y,z,u,i,k,l,m,q⟩:=e.2 j f;grind[]
theorem EI.form{v:D}(h:EI r base W v qs):∃a c,v=C a qs.length c/\(∀p,a=some p->base<=p.block):=by
 rcases h with⟨rfl,rfl⟩|⟨g,cap,b,rfl,d,_⟩
 . exact⟨none,0,J,λp e=>by cases e⟩
 grind
theorem bJ(z:Array D)(a:0<z.size)(d:∀c∈z.toList,JG c=true)(n:Nat):∀c∈(Builtin.zeroCells z n).toList,JG c=true:=by
 intro c b;grind[Builtin.zeroCells,AZ]
def E1(r:Bool):TypeId:=match r with|true=>22|false=>30
def zK(r:Bool):Array D:=match r with|true=>#[E false,C none 0 0,E false,C none 0 0]|false=>#[C none 0 0,E false,C none 0 0,E false]
def bK(r:Bool):Tryz.prog.underlying (E1 r)=some (.slice (Dr r)):=by
 cases r with
 |true=>exact underlying22
 |false=>exact underlying30
def bL(r:Bool):∃i,Tryz.prog.info? (Dr r)=some i/\i.zero=some (S (zK r))/\i.size=4/\i.bytes=64:=by
 cases r with
 |true=>
  obtain⟨i,a,b,c,d⟩:=Bn Tryz.infoRat;exact⟨i,a,b,c,d⟩
 |false=>
  obtain⟨i,a,b,c,d⟩:=Bn Tryz.infoRef;exact⟨i,a,b,c,d⟩
theorem Rz(r:Bool):(zK r).size=4:=by cases r<;>rfl
theorem bM(r:Bool):∀c∈(zK r).toList,JG c=true:=by
 cases r<;>(intro c a;simp[zK]at a;rcases a with rfl|rfl|rfl|rfl<;>rfl)
theorem XN(r:Bool)(base:Nat)(W:H)(v:D)(qs:Ja)(h:EI r base W v qs){x y z u:D}{q:Rat}(hq:Dy r W (S #[x,y,z,u]) q)(hl:qs.length+1<=1099511627776)(ad:base<=W.heap.size):
 ∃v' M,(Builtin.append_ #[E1 r,E1 r] (E1 r) #[v,C (some ⟨W.heap.size,0,none⟩) 1 1]).run I (W.alloc (G #[x,y,z,u] (Dr r)))=.ok v' M/\EI r base M v' (qs++[q])/\(∀k v ds,Row k W v ds->Row k M v ds)/\(∀n w0,n<=base->Below n w0 W->Below n w0 M):=by
 obtain⟨i,hi,hz,B,ai⟩:=bL r;have ht:=bK r;have p:Bl W (W.alloc (G #[x,y,z,u] (Dr r))):=Ba W _;obtain⟨d,ah⟩:=ex (W.alloc (G #[x,y,z,u] (Dr r)));have aq:d.heap[W.heap.size]?=some (G #[x,y,z,u] (Dr r) (0,0)):=by rw[<-ah];exact BC W _
 rw[ah]at p ⊢;have Qg:=hq.below p;obtain⟨n0,n1,n2,n3⟩:=hq.no;have Q:∀j c,[x,y,z,u][j]?=some c->d.cell? ((⟨W.heap.size,0,none⟩:Addr).add j)=some c:=λj c l=>by
  grind[Y6,cell_of]
 have Qm:(Value.agg (zK r)).cells=zK r:=rfl;have grown:∀(cs:List D) (w:Nat) (m:Nat),m=qs.length+1->YQ r d (cs++[x,y,z,u]) (qs++[q])->(∀c∈cs,JG c=true)->cs.length=qs.length*4->
  EI r base (d.drew.alloc (G (cs.toArray++[x,y,z,u].toArray++Builtin.zeroCells (zK r) (grownCap d m w (Dr r)-m)) (Dr r))) (C (some ⟨d.heap.size,0,none⟩) m (grownCap d m w (Dr r))) (qs++[q]):=by
  intro cs w m hm l Qf T;subst hm;have ap:=grownCap_ge d (qs.length+1) w (Dr r);have Qp:=grownCap_le_maxLen d (qs.length+1) w (Dr r) (by unfold maxLen;omega);have Qq:Bl d (d.drew.alloc (G (cs.toArray++[x,y,z,u].toArray++Builtin.zeroCells (zK r) (grownCap d (qs.length+1) w (Dr r)-(qs.length+1))) (Dr r))):=((BB _ d).drew).alloc (Aa _) _;refine Ax ⟨d.heap.size,_,_,DX,Al ad p.size,BC d.drew _,DX,Qp,?_,?_,?_⟩
  . grind[size_zeroCells,Rz,Ak]
  . intro c A;simp only[Array.toList_append,CA]at A;rcases A with(A|A)|A
    . exact Qf c A
    . grind
    grind[bJ,Rz,bM]
  . have e:(cs.toArray++[x,y,z,u].toArray++Builtin.zeroCells (zK r) (grownCap d (qs.length+1) w (Dr r)-(qs.length+1))).toList.take ((qs++[q]).length*4)=cs++[x,y,z,u]:=by
     simp only[Array.toList_append];have R:(qs++[q]).length*4=(cs++[x,y,z,u]).length:=by simp;omega
     rw[R];exact List.take_left
    rw[e];exact l.below Qq
 have fin:∀o,(∀k v ds,Row k W v ds->Row k (d.drew.alloc o) v ds)/\(∀n w0,n<=base->Below n w0 W->Below n w0 (d.drew.alloc o)):=λo=>by
  have Qi:Bl W (d.drew.alloc o):=(p.drew).alloc (by exact p.size) _;refine⟨λk v ds h=>h.below Qi,λn w0 K X=>X.trans (Qi.mono (Al K ad))⟩
 rcases h with⟨rfl,rfl⟩|⟨g,cap,f,rfl,h2,h3,h4,h5,h6,h7,h8⟩
 . have t:=run_append_nil (P:=I) d (E1 r) (E1 r) (Dr r) i _ ht hi hz ⟨W.heap.size,0,none⟩ 1 1 [x,y,z,u] (by rw[B];rfl) Q O O (by rw[ai];omega);rw[Qm]at t;refine⟨_,_,t,?_,fin _⟩;have:=grown [] 0 1 J (by rw[Aj];exact(YQ.nil r d).snoc Qg) (λc l=>by simp at l) J;simpa using this
 . have V:d.heap[g]?=some (G f (Dr r) (0,0)):=(p.block g (Ab.1 h3).1).trans h3;have T:(f.toList.take (qs.length*4)).length=qs.length*4:=by rw[Ah];have U:f.toList.length=f.size:=C1;omega
   have Qk:=(h8.below p).snoc Qg;have Qf:∀c∈f.toList.take (qs.length*4),JG c=true:=λc l=>h7 c (Fy l);by_cases an:qs.length+1<=cap
   . have t:=run_append_room (P:=I) d (E1 r) (E1 r) (Dr r) i ht hi g qs.length cap f V ⟨W.heap.size,0,none⟩ 1 1 [x,y,z,u] (by rw[B];rfl) Q hq.one an (by rw[B];simp;omega);rw[B]at t;obtain⟨s,aj⟩:=ex ((f.toList.take (qs.length*4)++[x,y,z,u]++f.toList.drop (qs.length*4+[x,y,z,u].length)).toArray);rw[aj]at t;have Qo:=setRow_heap d g f s (Dr r) (0,0) V;have Qc:∀k v ds,Row k d v ds->Row k (d.setRow g s) v ds:=λk v ds h=>by
      obtain⟨a,c,e,g1,g2,g3,g4⟩:=h;refine⟨a,c,e,g1,g2,g3,?_⟩;rcases g4 with g4|⟨b,ae,ea,ak,l⟩
      . exact Am g4
      . by_cases U:ds=[]
        . exact Am U
        . have Qj:0<ds.length:=Ac.2 U;have Qh:b≠g:=λe=>by
           subst e;have h9:=l 0 Qj;simp only[World.cell?,V]at h9;have Ql:f[ae+0]?=some (.int k (ds[0]?.getD 0:Nat)):=by simpa using h9
           have Qn:=h7 _ (Array.mem_toList_iff.2 (Array.mem_of_getElem? Ql));simp[JG]at Qn
          exact Ax ⟨b,ae,ea,ak.of (setRow_other d g b s Qh),λj hj=>(cell_setRow_other d g s ⟨b,ae+j,none⟩ Qh).trans (l j hj)⟩
     refine⟨_,_,t,?_,λk v ds h=>Qc k v ds (h.below p),λn w0 K X=>below_setRow (X.trans (p.mono (Al K ad))) (Al K h2) s⟩;refine Ax ⟨g,cap,s,DX,h2,Qo,DX,h5,?_,?_,?_⟩
     . grind
     . intro c l;grind
     . have e:s.toList.take ((qs++[q]).length*4)=f.toList.take (qs.length*4)++[x,y,z,u]:=by
        rw[<-aj];have R:(qs++[q]).length*4=(f.toList.take (qs.length*4)++[x,y,z,u]).length:=by simp[T];omega
        rw[R];exact List.take_left
       rw[e];exact Qk.keep Qc
   . have am:∀j c,(f.toList.take (qs.length*4))[j]?=some c->d.cell? ((⟨g,0,none⟩:Addr).add j)=some c:=λj c l=>by
      grind[Y6,cell_of]
     have t:=run_append_grow (P:=I) d (E1 r) (E1 r) (Dr r) i _ ht hi hz ⟨g,0,none⟩ qs.length cap (f.toList.take (qs.length*4)) (by rw[B];exact T) am ⟨W.heap.size,0,none⟩ 1 1 [x,y,z,u] (by rw[B];rfl) Q O O (by rw[ai];exact growslice_fits O O);grind
end
section
open M3
def J8(q:Rat):List UInt8:=if q.den=1 then Xl q.num else Xl q.num++47::Xl (q.den:Int)
theorem R1(a b:List UInt8):(⟨a.toArray⟩:ByteArray)++⟨b.toArray⟩=⟨(a++b).toArray⟩:=by
 apply ByteArray.ext;simp
theorem Im(z:Int):(Xl z).length<=20*(Jc Z z.natAbs).length+2:=by
 grind[Ih,Xl]
theorem MR{z:Int}(h:Sok z):(⟨(Xl z).toArray⟩:ByteArray).size<=400000000000:=by
 have a:=Im z;have b:=h.words;show(Xl z).toArray.size<=_;grind
theorem OV(a b:List UInt8):(⟨a.toArray⟩:ByteArray)++⟨#[47]⟩++⟨b.toArray⟩=⟨(a++47::b).toArray⟩:=by
 grind[R1]
theorem R2{z:Int}:Xl z=[49]↔z=1:=by
 have a:Xl (Xg [49])=[49]:=Pi DN;have b:Xg [49]=1:=DN
 grind[VK]
theorem bN(va:D)(q:Rat)(w:H)(f:Jl w va q)(g:Sq q)(ae:Lib.TabIs I w "internal/strconv.uint64pow10" .u64 Lib.pow10Tab):
 F I 71 #[va] w λe j=>e=.returned (.string ⟨(J8 q).toArray⟩)/\Bl w j:=by
 obtain⟨m,B⟩:∃S:ByteArray,⟨(Xl q.num).toArray⟩=S:=⟨_,J⟩;have az:m.size<=400000000000:=by rw[<-B];exact MR g.num
 have r:=Y B;clear B;obtain⟨A,K⟩:∃S:ByteArray,⟨(Xl (q.den:Int)).toArray⟩=S:=⟨_,J⟩;have bc:A.size<=400000000000:=by rw[<-K];exact MR g.den
 have W:=Y K;clear K;have u:=Y ae;clear ae;by_cases c:q.den=1
 . have s:=Y c;have t:=Y (show(⟨(J8 q).toArray⟩:ByteArray)=m by rw[<-r.o];unfold J8;rw[BL c]);rw[t.o];clear c;obtain⟨aq,ah,ap,aj,ay,ai,an,ak,rfl⟩:=Jl.form f;obtain⟨W0,l,b⟩:=GN 65 (.rat q) f;have Qd:=Y g;clear f g;go_enter func71,ntmps71
   go_upto_region 1 with fail
   rw[l.o];clear l;obtain⟨s1,a1,l1,c1,t1,b1,k1,d1,o,r1,P,j1⟩:=b.o.rat (i:=0) J;obtain⟨z,v,x,y⟩:=o.cq;have a:=Y (XR _ q W0 r1);rw[BI s.o]at a;have d:=Y λ(V:H) (h:Bl W0 V)=>OJ _ q.num V (P.below h) (Yb u.o (Bt b.o.2.2 h));rw[r.o]at d;go_wp2_with(first
    |(go_at_call 89;refine a.o.mono ?_;clear a;rintro e k ⟨rfl,hq⟩;obtain⟨z,v,x,y⟩:=(o.below hq).cq)
    |(go_at_call 107;refine(d.o _ hq).mono ?_;clear d;rintro e w2 ⟨rfl,M⟩;have hq:=Bt hq M))
   go_ret;exact⟨J,Bt b.o.2.2 hq⟩
 . have s:=Y c;have t:=Y (show(⟨(J8 q).toArray⟩:ByteArray)=m++⟨#[47]⟩++A by rw[<-r.o,<-W.o,OV];unfold J8;rw[BH c]);rw[t.o];have HZ:=Y (show denZ q=q.den by unfold denZ;rw[BH c]);clear c;have y1:¬9223372036854775807<m.size+1:=O
   have y2:¬9223372036854775807<m.size+1+A.size:=O
   obtain⟨aq,ah,ap,aj,ay,ai,an,ak,rfl⟩:=Jl.form f;obtain⟨W0,l,b⟩:=GN 65 (.rat q) f;have Qd:=Y g;clear f g;go_enter func71,ntmps71
   go_upto_region 1 with fail
   rw[l.o];clear l;obtain⟨s1,a1,l1,c1,t1,b1,k1,d1,o,r1,P,j1⟩:=b.o.rat (i:=0) J;obtain⟨z,v,x,y⟩:=o.cq;have a:=Y (XR _ q W0 r1);rw[BE s.o]at a;go_upto_region 3 with(go_at_call 89;refine a.o.mono ?_;clear a;rintro e k ⟨rfl,ad⟩)
   have p:=Y (b.o.below ad);clear b;clear o z v x y P r1 j1 ad;obtain⟨s2,a2,l2,c2,t2,b2,k2,d2,Q,r2,i2,j2⟩:=p.o.rat (i:=0) J;obtain⟨T,U,Qk,X⟩:=Q.cq;have d:=Y λ(V:H) (h:Bl k V)=>(by have n:=OJ _ q.num V (i2.below h) (Yb u.o (Bt p.o.2.2 h));rw[r.o]at n;exact n);have R:=Y λ(V:H) (h:Bl k V)=>(by have h0:=(j2.below h);rw[HZ.o]at h0;have n:=OJ _ (q.den:Int) V h0 (Yb u.o (Bt p.o.2.2 h));rw[W.o]at n;exact n);have hq:Bl k k.drew:=(BB _ k).drew;go_region_held3 (λj=>j.cell? ⟨w.heap.size,0,none⟩=some (E s2)/\j.cell? ⟨w.heap.size,1,none⟩=some (C a2 l2 c2)/\j.cell? ⟨w.heap.size,2,none⟩=some (E t2)/\j.cell? ⟨w.heap.size,3,none⟩=some (C b2 k2 d2)) (first|grind|(go_keep;done)|(refine⟨?_,?_,?_,?_⟩<;>((repeat rw[JJ O]);first|assumption|(go_keep;done))))
    (first
     |(go_at_call 107;refine(d.o _ hq ).mono ?_;clear d;rintro e w2 ⟨rfl,M⟩;have hq:=Bt hq M;obtain⟨T,U,Qk,X⟩:=(Q.below hq).cq)
     |(go_at_call 107;refine(R.o _ hq ).mono ?_;clear R;rintro e w6 ⟨rfl,am⟩;have hq:=Bt hq am;obtain⟨T,U,Qk,X⟩:=(Q.below hq).cq))
   all_goals go_wp2_with fail
   go_ret;exact⟨J,Bt p.o.2.2 hq⟩
theorem bO(K:D)(q:Rat)(w:H)(f:Jq w K q)(p:Sq q):
 F I 37 #[K] w λe w'=>e=.returned (.string ⟨(J8 q).toArray⟩)/\Bl w w':=by
 obtain⟨x,y⟩:∃S:ByteArray,⟨(Xl q.num).toArray⟩=S:=⟨_,J⟩;have ak:x.size<=400000000000:=by rw[<-y];exact MR p.num
 have o:=Y y;clear y;obtain⟨l,c⟩:∃S:ByteArray,⟨(Xl (q.den:Int)).toArray⟩=S:=⟨_,J⟩;have am:l.size<=400000000000:=by rw[<-c];exact MR p.den
 have k:=Y c;clear c;have n:=Y p;clear p;by_cases d:q.den=1
 . have M:=Y d;have r:=Y (show(⟨(J8 q).toArray⟩:ByteArray)=x by rw[<-o.o];unfold J8;rw[BL d]);rw[r.o];have c:l=⟨#[49]⟩:=by rw[<-k.o,d,show Xl ((1:Nat):Int)=[49]from R2.2 J]
   subst c;clear d;obtain⟨Q,ae,U,ah,T,ad,W,ai,rfl⟩:=Jq.form f;obtain⟨W0,g,j⟩:=GN 85 (.ref q) f;clear f;go_enter func37,ntmps37
   go_upto_region 1 with fail
   rw[g.o];clear g;obtain⟨P,l1,c1,s1,R,X,d1,t1,m,r1,A,B⟩:=j.o.ref (i:=0) J;obtain⟨v,s,t,u⟩:=m.cq;have a:=Y (Lo _ q.num W0 A (by have:=n.o.num.size;omega));rw[o.o]at a;have b:=Y λ(V:H) (h:Bl W0 V)=>Lo _ (q.den:Int) V (B.below h) (by have:=n.o.den.size;omega);rw[k.o]at b;go_wp2_with(first
    |(go_at_call 74;refine a.o.mono ?_;clear a;rintro e w1 ⟨rfl,hq⟩;obtain⟨v,s,t,u⟩:=(m.below hq).cq)
    |(go_at_call 74;refine(b.o _ hq).mono ?_;clear b;rintro e w2 ⟨rfl,z⟩;have hq:=Bt hq z))
   go_ret;exact⟨J,Bt j.o.2.2 hq⟩
 . have M:=Y d;have r:=Y (show(⟨(J8 q).toArray⟩:ByteArray)=x++⟨#[47]⟩++l by rw[<-o.o,<-k.o,OV];unfold J8;rw[BH d]);rw[r.o];have c:¬l=⟨#[49]⟩:=by
    intro h;rw[<-k.o]at h;grind[R2]
   have aj:(l.toList == [49])=false:=by
    rw[BG];intro h;rw[ByteArray.toList_eq]at h;exact c (ByteArray.ext DX)
   clear d;obtain⟨Q,ae,U,ah,T,ad,W,ai,rfl⟩:=Jq.form f;obtain⟨W0,g,j⟩:=GN 85 (.ref q) f;clear f;go_enter func37,ntmps37
   go_upto_region 1 with fail
   rw[g.o];clear g;obtain⟨P,l1,c1,s1,R,X,d1,t1,m,r1,A,B⟩:=j.o.ref (i:=0) J;obtain⟨v,s,t,u⟩:=m.cq;have a:=Y (Lo _ q.num W0 A (by have:=n.o.num.size;omega));rw[o.o]at a;have b:=Y λ(V:H) (h:Bl W0 V)=>Lo _ (q.den:Int) V (B.below h) (by have:=n.o.den.size;omega);rw[k.o]at b;go_wp2_with(first
    |(go_at_call 74;refine a.o.mono ?_;clear a;rintro e w1 ⟨rfl,hq⟩;obtain⟨v,s,t,u⟩:=(m.below hq).cq)
    |(go_at_call 74;refine(b.o _ hq).mono ?_;clear b;rintro e w2 ⟨rfl,z⟩;have hq:=Bt hq z))
   go_ret;exact⟨J,Bt j.o.2.2 hq⟩
end
section
variable{c:Rat}
def bP(b:ByteArray)(n i:Nat)(r:List UInt8)(h:b.size-i=n):ByteArray.toList.loop b i r=r.reverse++b.data.toList.drop i:=by
 induction n generalizing i r with
 |zero=>
  rw[ByteArray.toList.loop,BH O,AN (by simpa using(by omega:b.size<=i)),Cj]
 |succ n d=>
  have a:i<b.size:=O
  have c:i<b.data.toList.length:=by simpa using a
  rw[ByteArray.toList.loop,BL a,d (i+1) _ O,List.reverse_cons,Ce,AV c];have e:b.get! i=b.data.toList[i]:=by
   show b.data[i]! = _;rw[getElem!_pos b.data i a];simp
  rw[e];rfl
theorem XS(b:ByteArray):b.toList=b.data.toList:=by
 show ByteArray.toList.loop b 0 []=_;rw[bP b _ 0 [] J];rfl
def YE(c:Rat):Rat:=if c<0 then -c else c
def Xb(c:Rat)(i:Nat):List UInt8:=if J8 (YE c)=[49]/\0<i then []else J8 (YE c)
def EE(i:Nat):List UInt8:=if i=0 then []else if i=1 then [120]else 120::94::Xz i
def Ee(c:Rat)(first:Bool):List UInt8:=if c<0 then [45]else if first then []else [43]
def EZ(c:Rat)(i:Nat)(first:Bool):List UInt8:=Ee c first++Xb c i++EE i
def J9:Ja->Nat->List UInt8
 |[],_=>[]
 |c::t,i=>if c=0 then J9 t (i+1)else J9 t (i+1)++EZ c i (J9 t (i+1)).isEmpty
def FZ(p:Ja):List UInt8:=if J9 p 0=[]then [48]else J9 p 0
theorem neg_num:(c<0)↔c.num<0:=by
 rw[<-Rat.not_le,<-Rat.num_nonneg];omega
theorem bQ(h:c<0):J8 c=45::J8 (-c):=by
 grind[neg_num,J8,Rat.neg_den,Rat.neg_num,Xl]
theorem bS(h:¬c<0):(J8 c).head?≠some 45:=by
 have f:¬c.num<0:=λa=>h (neg_num.2 a);have a:(Xl c.num).head?≠some 45:=by
  unfold Xl;rw[BH f];by_cases b:c.num.natAbs=0
  . rw[b];decide
  . obtain⟨d,t,e,_,j,_⟩:=Ld b;grind
 have i:Xl c.num≠[]:=by
  unfold Xl;rw[BH f];by_cases b:c.num.natAbs=0
  . rw[b];decide
  . obtain⟨d,t,e,_⟩:=Ld b;rw[e];simp
 unfold J8;split
 . exact a
 . cases g:Xl c.num with
   |nil=>exact absurd g i
   |cons x t=>rw[g]at a;exact a
theorem R3(h:c<0):YE c=-c:=by unfold YE;rw[BL h]
theorem R4(h:¬c<0):YE c=c:=by unfold YE;rw[BH h]
theorem K5(c:Rat):(YE c).num=(c.num.natAbs:Int)/\(YE c).den=c.den:=by
 grind[neg_num,R3,Rat.neg_num,Rat.neg_den,R4]
theorem bT(c:Rat):J8 c≠[]:=by
 unfold J8
 have:Xl c.num≠[]:=by
  unfold Xl;split
  . simp
  . by_cases a:c.num.natAbs=0
    . rw[a];decide
    . obtain⟨d,t,e,_⟩:=Ld a;rw[e];simp
 split
 . exact this
 . simp
theorem R5(c:Rat)(i:Nat)(f:Bool):EZ c i f≠[]:=by
 grind[EZ,Xb,List.append_eq_nil_iff,EE,bT]
def KF(p:Ja){m:Nat}(h:m<p.length):J9 (p.drop m) m=if cf p m=0 then J9 (p.drop (m+1)) (m+1)else J9 (p.drop (m+1)) (m+1)++EZ (cf p m) m (J9 (p.drop (m+1)) (m+1)).isEmpty:=by
 rw[AV h,J9,UP h]
end
namespace M3
def R6{W W':H}{row:Option Nat}(hg:W.grownBy W' row)(z:∀r,row=some r->∃o:Obj,W.heap[r]?=some o/\o.isCells=false){k:IntKind}{v:D}{ds:kQ}(h:Row k W v ds):Row k W' v ds:=by
 obtain⟨a,cap,e,n,p,q,c⟩:=h;refine⟨a,cap,e,n,p,q,?_⟩;rcases c with c|⟨b,A,l,d,i⟩
 . exact Am c
 . by_cases g:ds=[]
   . exact Am g
   . have hl:0<ds.length:=Ac.2 g;have f:some b≠row:=λe=>by
      obtain⟨o,y,x⟩:=z b e.symm;have s:=i 0 hl;cases o with
      |cells cs t m=>cases x
      |_=>simp[World.cell?,y]at s
     exact Ax ⟨b,A,l,d.of (hg.block b d.lt f),λj u=>(BR (w:=W) (hg.block b d.lt f)).trans (i j u)⟩
variable{cs:Array D}{W W':H}
def Io{row:Option Nat}(hg:W.grownBy W' row)(d:∀r,row=some r->∃o:Obj,W.heap[r]?=some o/\o.isCells=false){B:Nat}{t:TypeId}(h:Bx W B t cs):Bx W' B t cs:=by
 have b:some B≠row:=λe=>by
  obtain⟨o,a,c⟩:=d B e.symm;rw[show W.heap[B]?=_ from h]at a;cases a;cases c
 exact(hg.block B h.lt b).trans h
def MS{row:Option Nat}(hg:W.grownBy W' row)(f:∀r,row=some r->∃o:Obj,W.heap[r]?=some o/\o.isCells=false){r:Bool}{v:D}{qs:Ja}(h:RowK r W v qs):RowK r W' v qs:=by
 obtain⟨a,cap,e,i,j,k,c⟩:=h;refine⟨a,cap,e,i,j,k,?_⟩;rcases c with c|⟨b,g,d⟩
 . exact Am c
 . have l:W'.heap[b]?=W.heap[b]?:=by
    obtain⟨cs,g1,_⟩:=d;rw[g1];exact Io hg f g1
   exact Ax ⟨b,g,d.keep l λ_ _ _ h=>R6 hg f h⟩
def DL.own{w:H}{bs:List (Option (Nat × Dat))}{row:Option Nat}(M:DL w W bs)(hg:W.grownBy W' row)(b:∀r,row=some r->w.heap.size<=r/\∃o:Obj,W.heap[r]?=some o/\o.isCells=false):DL w W' bs:=by
 have a:∀r,row=some r->∃o:Obj,W.heap[r]?=some o/\o.isCells=false:=λr e=>(b r e).2;refine⟨λi B d h=>?_,M.2.1,M.2.2.grown hg M.2.2.size λk e=>(b k e).1⟩;obtain⟨⟨cs,c,f⟩,g⟩:=M.1 i B d h;exact⟨⟨cs,Io hg a c,f.keep (λ_ _ _ h=>R6 hg a h) (Ax λ_ _ h=>MS hg a h)⟩,g⟩
def DL.with{w:H}{bs:List (Option (Nat × Dat))}(M:DL w W bs){b:Nat}(d:Dat)(m:Bx W b d.ty cs)(n:Has W (S cs) d)(q:w.heap.size<=b)(f:∀(i:Nat) B g,bs[i]?=some (some (B,g))->B≠b):DL w W (bs++[some (b,d)]):=by
 have e:∀(j:Nat) x,(bs++[some (b,d)])[j]?=some (some x)->bs[j]?=some (some x)\/(j=bs.length/\x=(b,d)):=λj x h=>by
  by_cases o:j<bs.length
  . rw[List.getElem?_append_left o]at h;exact Am h
  . rw[Cz O]at h;obtain⟨k,p⟩:=ex (j-bs.length);rw[p]at h;cases k with
    |zero=>simp at h;exact Ax ⟨O,h.symm⟩
    |succ k=>simp at h
 refine⟨λj B d h=>?_,λj k B d1 l a c=>?_,M.2.2⟩
 . rcases e j _ h with h|⟨_,h⟩
   . exact M.1 j B d h
   . cases h;exact⟨⟨cs,m,n⟩,q⟩
 . rcases e j _ a with a|⟨r,a⟩<;>rcases e k _ c with c|⟨s,c⟩
   . exact M.2.1 j k B d1 l a c
   . cases c;exact absurd J (f j _ _ a)
   . cases a;exact absurd J (f k _ _ c)
   . omega
def KG(w W0 W:H)(bs:List (Option (Nat × Dat))):Prop:=DL w W bs/\KeepsOthers W0 W
def KG.below{w W0 W W':H}{bs:List (Option (Nat × Dat))}(h:KG w W0 W bs)(a:Bl W W'):KG w W0 W' bs:=⟨h.1.below a,h.2.trans (Yn a)⟩
def KG.drew{w W0 W:H}{bs:List (Option (Nat × Dat))}(h:KG w W0 W bs):KG w W0 W.drew bs:=h.below ((BB _ W).drew)
def bU(W:H)(B:Nat)(x y z u:D):KeepsOthers W (put4 W B x y z u):=(((BM _ _ _).trans (BM _ _ _)).trans (BM _ _ _)).trans (BM _ _ _)
def R7(W:H)(B o:Nat)(x y z u:D):KeepsOthers W (putAt W B o x y z u):=(((BM _ _ _).trans (BM _ _ _)).trans (BM _ _ _)).trans (BM _ _ _)
