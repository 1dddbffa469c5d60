import Derived.Test.YtcahejkcdcjjgaaGreatDoorQ21
set_option linter.all false
open Go.IntKind renaming u64->B,i64->TY
open Go.Value renaming int->C,slice->D
open Go.Obj renaming cells->E
set_option maxRecDepth 99999
set_option maxHeartbeats 0
namespace Go.Proofs.YtcahejkcdcjjgaaGreatDoor
open Proofs.Tryz
open Go.RowKit Go.Shelf
attribute [local go_sem] Oper.semAt_some
def Lc{W:World}{B:Nat}{t:TypeId}{c d u0 u1:Value}(x0 x1 a b:Value)(h:Jf W B t c d)(k:Jf W (B+1) t u0 u1):
 Jf ((((W.setCell ⟨B,0,none⟩ x0).setCell ⟨B,1,none⟩ x1).setCell ⟨B+1,0,none⟩ a).setCell ⟨B+1,1,none⟩ b).drew B t x0 x1/\Jf ((((W.setCell ⟨B,0,none⟩ x0).setCell ⟨B,1,none⟩ x1).setCell ⟨B+1,0,none⟩ a).setCell ⟨B+1,1,none⟩ b).drew (B+1) t a b:=
 ⟨((((h.set0 x0).set1 x1).far sp a).far sp b).drew,((((k.far sp x0).far sp x1).set0 a).set1 b).drew⟩
def Pv(S ao u G ca:Nat)(b:TR)(lb cb x y d s H K:Nat)(w:World)(h1:(u:Int)-1=G)(bc:S<w.heap.size)
(ka:w.cell? ⟨S,ao+G,none⟩=some (C B (d:Nat)))(bd:d<Y)(hs:s<=63)(HS:Hid ((64:Int)-(Lib.bitLen d:Int)=(s:Int)))(bt:u<=1099511627776)(bm:G<u)
(ai:Hid (∀V:World,Bl w V->Calls Tryz.prog 177 #[D (some ⟨S,ao,none⟩) u ca,C .i64 (u:Nat),C B (s:Nat)] V λe z=>e=.returned (C B (H:Nat))/\Bl V z))
(aj:Hid (∀V:World,Bl w V->Calls Tryz.prog 177 #[D b lb cb,C .i64 (u:Nat),C B (s:Nat)] V λe z=>e=.returned (C B (K:Nat))/\Bl V z))
(N:H<Y)(az:K<=H)(ay:Hid (∀sg h l a nb k c,D5 H K sg h l a nb k c->c<=l->nb+c<=h-l->X9 x y a nb k c)):
 Calls Tryz.prog 149 #[D (some ⟨S,ao,none⟩) u ca,D b lb cb] w λe z=>∃j g a nb:Nat,e=.returned (.tuple #[.agg #[C B (j:Nat),C B (g:Nat)],.agg #[C B (a:Nat),C B (nb:Nat)]])/\(j<Y/\g<Y/\a<Y/\nb<Y)/\(g=0\/X9 x y j g a nb)/\Bl w z:=by
 have i1:TY.wrap ((u:Int)-1)=(G:Int):=by rw[h1];exact BO _ O
 have i3:TY.wrap (G:Int)=(G:Int):=BO _ O;have ck:B.wrap (s:Int)=(s:Int):=Bh _ O;obtain⟨W0,T⟩:=ex ((w.alloc (E #[C B 0,C B 0] 180)).alloc (E #[C B 0,C B 0] 180));have Qk:Bl w W0:=by rw[<-T];exact(Ba w _).alloc sp _
 have b4:Jf W0 w.heap.size 180 (C B 0) (C B 0):=by rw[<-T];exact(Jf.new w _ _ _).alloc _
 have b5:Jf W0 (w.heap.size+1) 180 (C B 0) (C B 0):=by
  have h:=Jf.new (w.alloc (E #[C B 0,C B 0] 180)) 180 (C B 0) (C B 0);rw[A1,T]at h;exact h
 have Qv:=(Qk.cell (p:=⟨S,ao+G,none⟩) bc).trans ka;have Qn:=Z T;have Qm:=Z (show ∀V:World,Calls Tryz.prog 176 #[C B (d:Nat)] V λe z=>e=.returned (C .i64 (s:Nat))/\z=V from λV=>by
  have h:=Tryz.bits_LeadingZeros64 (d:Nat) V O (by unfold Y at bd;omega);rw[CG,HS.o]at h;exact h)
 clear T ka HS;go_enter func149,ntmps149
 go_upto_region 1 with fail
 try rw[Qn.o]
 go_upto_region 2 with(go_at_call 176;refine(Qm.o _).mono ?_;rintro e z ⟨rfl,e1⟩;have e2:=e1.symm;subst e2;clear e1)
 have i:=Qk;go_upto_region 3 with(first
  |(go_at_call 177;refine(ai.o _ i).mono ?_;clear ai;rintro e w1 ⟨rfl,ad⟩;have i:=Bt i ad)
  |(go_at_call 177;refine(aj.o _ i).mono ?_;clear aj;rintro e o ⟨rfl,ae⟩;have i:=Bt i ae))
 go_wp2_with fail
 obtain⟨M,t⟩:=ex (((o.alloc (E #[C B 0,C B 0] 180)).alloc (E #[C B 1,C B 0] 180)).alloc (E #[C B 0,C B 1] 180));have Qp:Bl w M:=by rw[<-t];exact((i.alloc i.size _).alloc (by have:=i.size;simp;omega) _).alloc (by have:=i.size;simp;omega) _
 have I:Jf M o.heap.size 180 (C B (0:Nat)) (C B (0:Nat)):=by rw[<-t];exact((Jf.new o _ _ _).alloc _).alloc _
 have A:Jf M (o.heap.size+1) 180 (C B (1:Nat)) (C B (0:Nat)):=by
  have h:=(Jf.new (o.alloc (E #[C B 0,C B 0] 180)) 180 (C B 1) (C B 0)).alloc (E #[C B 0,C B 1] 180);rw[A1,t]at h;exact h
 have F:Jf M (o.heap.size+1+1) 180 (C B (0:Nat)) (C B (1:Nat)):=by
  have h:=Jf.new ((o.alloc (E #[C B 0,C B 0] 180)).alloc (E #[C B 1,C B 0] 180)) 180 (C B 0) (C B 1);rw[A1,A1,t]at h;exact h
 have X:=Bt ad ae;have m:Jf M w.heap.size 180 (C B 0) (C B 0):=by rw[<-t];exact(((b4.below X).alloc _).alloc _).alloc _
 have n:Jf M (w.heap.size+1) 180 (C B 0) (C B 0):=by rw[<-t];exact(((b5.below X).alloc _).alloc _).alloc _
 have Qw:w.heap.size+1<o.heap.size:=by have:=(b5.below X).lt;exact this
 rw[t];obtain⟨B9,ak⟩:=ex (o.heap.size);rw[ak]at I A F Qw ⊢;clear t X b4 b5 ad ae i Qk ak Qv Qm Qn;go_loopw [7,8] (λhv lv wr=>∃h l j g a nb k c:Nat,hv=C B (h:Nat)/\lv=C B (l:Nat)/\Hid (∃sg,D5 H K sg h l a nb k c)/\Hid (g=0\/X9 x y j g a nb)/\(h<Y/\j<Y/\g<Y/\a<Y/\nb<Y/\k<Y/\c<Y)/\
  Jf wr B9 180 (C B (j:Nat)) (C B (g:Nat))/\Jf wr (B9+1) 180 (C B (a:Nat)) (C B (nb:Nat))/\Jf wr (B9+1+1) 180 (C B (k:Nat)) (C B (c:Nat))/\Jf wr w.heap.size 180 (C B 0) (C B 0)/\Jf wr (w.heap.size+1) 180 (C B 0) (C B 0)/\Bl w wr) (λ_ lv _=>(intOf lv).toNat)
 case atStart=>exact⟨H,K,0,0,1,0,0,1,J,J,⟨1,D5.start az⟩,Al J,⟨N,by unfold Y;omega,by unfold Y;omega,by unfold Y;omega,by unfold Y;omega,by unfold Y;omega,by unfold Y;omega⟩,I,A,F,m,n,Qp⟩
 case round=>
  clear I A F m n Qp;obtain⟨h,l,j,g,a,nb,k,c,rfl,rfl,ah,HO,⟨z1,z2,z3,z4,z5,z6,z7⟩,I,A,F,m,n,hB⟩:=hrel;obtain⟨sg,hle⟩:=ah.o;have bu:=hle.2.2.2.2.2.2.2;have cj:=hle.2.2.2.2.2.2.1;obtain⟨de,dh⟩:=I.cp;obtain⟨cn,co⟩:=A.cp;obtain⟨cy,cz⟩:=F.cp;by_cases c1:c<=l
  . obtain⟨y1,y2⟩:=hle.small O;obtain⟨e,he⟩:∃e:Nat,(h:Int)-(l:Int)=(e:Int):=⟨h-l,O⟩;obtain⟨f,hf⟩:∃f:Nat,(nb:Int)+(c:Int)=(f:Int):=⟨nb+c,O⟩;have we:B.wrap (e:Int)=(e:Int):=Bh _ (by unfold Y at z1;omega);have wf:B.wrap (f:Int)=(f:Int):=Bh _ (by unfold Y at N;omega);by_cases c2:f<=e
    . have Qi:=Z (ay.o _ _ _ _ _ _ _ hle c1 O);have R:=hle.step (show 1<=l by omega);have L:=Z R;obtain⟨q,i⟩:=ex (h/l);obtain⟨r,hr⟩:=ex (h%l);rw[i,hr]at R L;have cg:r<l:=by rw[<-hr];exact AK _ O
      have ce:(h:Int)/(l:Int)=(q:Int):=O
      have Uc:(h:Int)%(l:Int)=(r:Int):=O
      have Ql:a+q*k<=K:=by
       have h1:=R.2.2.1;have h2:=Ch (a+q*k) (show 0<l by omega);omega
      have Qo:nb+q*c<=H:=by
       have h1:=R.2.1;have h2:=Ch (nb+q*c) (show 0<l by omega);omega
      obtain⟨P,hP⟩:=ex (q*k);obtain⟨Q,aq⟩:=ex (q*c);rw[hP]at Ql L;rw[aq]at Qo L;obtain⟨U,am⟩:=ex (a+P);obtain⟨W,an⟩:=ex (nb+Q);rw[am]at Ql L;rw[an]at Qo L;have p1:(q:Int)*(k:Int)=(P:Int):=O
      have p2:(q:Int)*(c:Int)=(Q:Int):=O
      have p3:(a:Int)+(P:Int)=(U:Int):=O
      have p4:(nb:Int)+(Q:Int)=(W:Int):=O
      have v1:B.wrap (P:Int)=(P:Int):=Bh _ (by unfold Y at N;omega);have v2:B.wrap (Q:Int)=(Q:Int):=Bh _ (by unfold Y at N;omega);have v3:B.wrap (U:Int)=(U:Int):=Bh _ (by unfold Y at N;omega);have v4:B.wrap (W:Int)=(W:Int):=Bh _ (by unfold Y at N;omega);have bz:q<=h:=by rw[<-i];exact CF _ _
      have v5:B.wrap (q:Int)=(q:Int):=Bh _ (by unfold Y at z1;omega);have bn:¬(l=0):=O
      obtain⟨bj,bk⟩:=I.fp;obtain⟨bf,bg⟩:=A.fp;obtain⟨bh,bi⟩:=F.fp;clear R hle hP aq am an i hr y1 y2 ah HO;go_upto_region 6 with fail
      go_quiet (fail)
      go_wp2_with fail
      go_region
      go_wp2_with fail
      have g9:Jf (wr.drewN (nq+1)) B9 180 (C B (j:Nat)) (C B (g:Nat)):=I;have Ub:Jf (wr.drewN (nq+1)) (B9+1) 180 (C B (a:Nat)) (C B (nb:Nat)):=A;have Qs:Jf (wr.drewN (nq+1)) (B9+1+1) 180 (C B (k:Nat)) (C B (c:Nat)):=F;have g4:Jf (wr.drewN (nq+1)) w.heap.size 180 (C B 0) (C B 0):=m;have g5:Jf (wr.drewN (nq+1)) (w.heap.size+1) 180 (C B 0) (C B 0):=n;have gB:Bl w (wr.drewN (nq+1)):=Fm hB _;rw[Uc];refine⟨⟨l,r,a,nb,k,c,U,W,J,J,⟨_,L.o⟩,Au Qi.o,⟨O,z4,z5,z6,z7,O,O⟩,?_,?_,?_,?_,?_,?_⟩,by simp[intOf];omega⟩
      . exact(((((g9.set0 _).set1 _).far sp _).far sp _).far so _).far so _
      . exact(((((Ub.far sp _).far sp _).set0 _).set1 _).far sp _).far sp _
      . exact(((((Qs.far so _).far so _).far sp _).far sp _).set0 _).set1 _
      . exact(((((g4.far so _).far so _).far so _).far so _).far so _).far so _
      . exact(((((g5.far so _).far so _).far so _).far so _).far so _).far so _
      . exact(((((gB.setCell (p:=⟨_,0,none⟩) so _).setCell (p:=⟨_,1,none⟩) so _).setCell (p:=⟨_,0,none⟩) so _).setCell (p:=⟨_,1,none⟩) so _).setCell (p:=⟨_,0,none⟩) so _).setCell (p:=⟨_,1,none⟩) so _
    . clear hle;obtain⟨Qx,Qq⟩:=m.cp;obtain⟨Qy,Qu⟩:=n.cp;obtain⟨Qr,Qt⟩:=m.fp;obtain⟨Qz,Ua⟩:=n.fp;have n1:¬(w.heap.size+1=w.heap.size):=O
      have n2:¬(B9=w.heap.size):=O
      have n3:¬(B9+1=w.heap.size):=O
      have n4:¬(B9=w.heap.size+1):=O
      have n5:¬(B9+1=w.heap.size+1):=O
      go_wp2_with fail
      go_region
      go_wp2_with fail
      obtain⟨q4,q5⟩:=Lc (C B (j:Nat)) (C B (g:Nat)) (C B (a:Nat)) (C B (nb:Nat)) m n;obtain⟨Qh,Qj⟩:=q4.cp;obtain⟨Qg,Qf⟩:=q5.cp;exact BA (v:=.tuple #[.agg #[C B (j:Nat),C B (g:Nat)],.agg #[C B (a:Nat),C B (nb:Nat)]]) (by simp[results,results149,go_sem,Qh,Qj,Qg,Qf]) J ⟨j,g,a,nb,J,⟨z2,z3,z4,z5⟩,HO.o,((((hB.setCell (p:=⟨_,0,none⟩) so _).setCell (p:=⟨_,1,none⟩) so _).setCell (p:=⟨_,0,none⟩) so _).setCell (p:=⟨_,1,none⟩) so _).drew⟩
  . clear hle;obtain⟨Qx,Qq⟩:=m.cp;obtain⟨Qy,Qu⟩:=n.cp;obtain⟨Qr,Qt⟩:=m.fp;obtain⟨Qz,Ua⟩:=n.fp;have n1:¬(w.heap.size+1=w.heap.size):=O
    have n2:¬(B9=w.heap.size):=O
    have n3:¬(B9+1=w.heap.size):=O
    have n4:¬(B9=w.heap.size+1):=O
    have n5:¬(B9+1=w.heap.size+1):=O
    go_wp2_with fail
    go_region
    go_wp2_with fail
    obtain⟨q4,q5⟩:=Lc (C B (j:Nat)) (C B (g:Nat)) (C B (a:Nat)) (C B (nb:Nat)) m n;obtain⟨Qh,Qj⟩:=q4.cp;obtain⟨Qg,Qf⟩:=q5.cp;exact BA (v:=.tuple #[.agg #[C B (j:Nat),C B (g:Nat)],.agg #[C B (a:Nat),C B (nb:Nat)]]) (by simp[results,results149,go_sem,Qh,Qj,Qg,Qf]) J ⟨j,g,a,nb,J,⟨z2,z3,z4,z5⟩,HO.o,((((hB.setCell (p:=⟨_,0,none⟩) so _).setCell (p:=⟨_,1,none⟩) so _).setCell (p:=⟨_,0,none⟩) so _).setCell (p:=⟨_,1,none⟩) so _).drew⟩
def Pw(a:TR)(c i:Nat)(b:TR)(lb j x y:Nat)(w:World)(M:Row B w (D a c i) (Jb Y x))(N:Row B w (D b lb j) (Jb Y y))(L:y<=x)(aq:2<=lb):
 Calls Tryz.prog 149 #[D a c i,D b lb j] w λe w'=>∃r o n nb:Nat,e=.returned (.tuple #[.agg #[C B (r:Nat),C B (o:Nat)],.agg #[C B (n:Nat),C B (nb:Nat)]])/\(r<Y/\o<Y/\n<Y/\nb<Y)/\(o=0\/X9 x y r o n nb)/\Bl w w':=by
 obtain⟨ah,aj,az,q,ae⟩:=Jm M;obtain⟨ai,ak,bc,an,am⟩:=Jm N;have Q:lb<=c:=by rw[ah,ai];exact Yr L
 obtain⟨k,I⟩:∃k,c=k+2:=⟨c-2,O⟩;obtain⟨z,A,rfl,ad,ka⟩:=ae (k+1) O;have f:=Jh Jc x;have K:(Jb Y x).length=k+2:=O
 have H:(Jb Y x)[k+1]?.getD 0≠0:=by
  intro e;have h3:=Jl Y (Jb Y x) (k+1);rw[Ac O,e,A8,AX,Ji Jc]at h3;have h4:=JX f (k+1);have G:=Yp Jc K O;rw[show k+2-1=k+1 from J]at G;omega
 have g:(Jb Y x)[k+1]?.getD 0<Y:=f.getD uo _;obtain⟨d,m⟩:=ex ((Jb Y x)[k+1]?.getD 0);rw[m]at ka H g;obtain⟨R,T,F⟩:=bitLen_spec d H (by rw[<-Em];exact g);have hL:Lib.bitLen d<=64:=by
  rcases Az 64 (Lib.bitLen d)with h|h
  . exfalso
    have G:2^64<=2^(Lib.bitLen d-1):=Ap O O;rw[Em]at g;omega
  . exact h
 obtain⟨s,hs⟩:∃s,s=64-Lib.bitLen d:=⟨_,J⟩;obtain⟨t,v2⟩:=LU (s:=s) f K m T F R hL hs;rw[Ji Jc]at t v2;have P:d<2^(64-s):=by rw[hs,show 64-(64-Lib.bitLen d)=Lib.bitLen d from by omega];exact F
 have p:0<Y^k*2^(64-s):=DC (C5 uo) (AW _);have hH:X1 x k s<Y:=by
  unfold X1;rw[Aq p];have hp:=X0 (s:=s) O;have U:Y*(Y^k*2^(64-s))*2^s=Y^(k+2):=by
   rw[Cf,Cf,AC (2^(64-s)),hp,A9,A9,AC Y,Cf]
  rw[<-U]at t;exact Nat.lt_of_mul_lt_mul_right t
 have u:=λ(V:World) (h:Bl w V)=>Lb (some ⟨z,A,none⟩) c i (Jb Y x) k (k+1) c s V (Row.below M h) f I O O O (Aa _) q (λ_=>by rw[m];exact P);have v:=λ(V:World) (h:Bl w V)=>Lb b lb j (Jb Y y) k (k+1) c s V (Row.below N h) (Jh Jc y) I O O O Q q (λe=>by
  have ay:=JX (Jh Jc y) (k+1);have h6:=Jl Y (Jb Y y) (k+1);rw[Ac O,Ji Jc]at h6;have h7:=Jl Y (Jb Y x) (k+1);rw[Ac O,Ji Jc,m]at h7;have h8:=JX f (k+1);have h9:(Jb Y y)[k+1]?.getD 0<=d:=by
   rcases Az d ((Jb Y y)[k+1]?.getD 0)with h|h
   . exfalso
     have:=Ar (Y^(k+1)) (show d+1<=(Jb Y y)[k+1]?.getD 0 from h);rw[CM,Nat.mul_one]at this;omega
   . exact h
  omega)
 rw[Ji Jc]at u v;refine Pv z A c (k+1) i b lb j x y d s (X1 x k s) (X1 y k s) w O ad ka g O (show _=_ by omega) q O u v hH (Nat.div_le_div_right L) ?_;intro sg h l n nb f xb hle W X;refine hle.out (S:=Y^k*2^(64-s)) (al:=x%(Y^k*2^(64-s))) (be:=y%(Y^k*2^(64-s))) ?_ ?_ (AK _ p) (AK _ p) W X
 . grind[X1,AO]
 grind[X1,AO]
def EY(W:World)(p:Addr):Nat:=match W.cell? p with|some (.int _ z)=>z.toNat|_=>0
def rowVal(W:World):Value->Nat
 |D (some p) l _=>val Y ((List.range l).map λj=>EY W ⟨p.block,p.off+j,none⟩)
 |_=>0
def UN.rowVal{W:World}{a:TR}{l c n:Nat}(h:UN W (D a l c) n):rowVal W (D a l c)=n:=by
 obtain⟨g,_,_,_,i⟩:=Jm h;rcases AF l with d|d
 . subst d;have k:=(Jt Jc).1 (Ag g.symm);subst k;cases a<;>rfl
 . obtain⟨b,f,rfl,_,_⟩:=i 0 d;show val Y ((List.range l).map λj=>EY W ⟨b,f+j,none⟩)=n;have e:(List.range l).map (λj=>EY W ⟨b,f+j,none⟩)=Jb Y n:=by
    refine List.ext_getElem DO λj m o=>?_;grind[EY]
   rw[e,Ji Jc]
def Px(a:TR)(la ca:Nat)(b:TR)(lb cb x y:Nat)(w:World)(ra:Row B w (D a la ca) (Jb Y x))(rb:Row B w (D b lb cb) (Jb Y y))(ay:la<1000000000000)(az:lb<1000000000000):
 Calls Tryz.prog 116 #[D a la ca,D b lb cb] w λe q=>∃u,e=.returned u/\UN q u (Nat.gcd x y)/\Bl w q:=by
 have Q:=Z (IE _ _ (Jb Y x) (Jb Y y) w ra rb (Jh Jc x) (Jh Jc y) (JT Jc x) (JT Jc y));rw[Ji Jc,Ji Jc]at Q;obtain⟨cm,ad⟩:=ex (Ym x y:Int);rw[ad]at Q;obtain⟨Qj,Qm,Qh⟩:=DY ad ra rb;clear ad ra rb;go_enter func116,ntmps116
 go_upto_if 14 with(go_at_call 114;refine Q.o.mono ?_;rintro e w1 ⟨rfl,H⟩)
 go_cut [0,1] λrv M wr=>∃(i:TR) (g c0 X:Nat) (j:TR) (f c1 d:Nat),rv=D i g c0/\M=D j f c1/\Hid (UN wr (D i g c0) X)/\Hid (UN wr (D j f c1) d)/\Hid (d<=X/\Nat.gcd X d=Nat.gcd x y)/\g<1000000000000/\Bl w wr
 case first=>
  by_cases Qw:cm<0
  . have Qx:x<y:=by
     have h:=Qj.o;unfold Ym at h;omega
    go_wp2_with fail
    go_meet
    case rel=>exact⟨_,_,_,y,_,_,_,x,J,J,Z (UN.below Qh.o H),Z (UN.below Qm.o H),Z ⟨O,CH _ _⟩,az,H⟩
  . have Qx:¬(x<y):=λh=>by
     have t:=Qj.o;rw[Xe h]at t;omega
    go_wp2_with fail
    go_meet
    case rel=>exact⟨_,_,_,x,_,_,_,y,J,J,Z (UN.below Qm.o H),Z (UN.below Qh.o H),Z ⟨O,J⟩,ay,H⟩
 case rest=>
  obtain⟨i,g,c0,X,j,f,c1,d,rfl,rfl,t,S,N,h4,h5⟩:=hcut;clear Q Qj Qm Qh H;go_wp2_with fail
  go_loopw [0,1] (λrv M wr=>∃(i:TR) (g c0 X:Nat) (j:TR) (f c1 d:Nat),rv=D i g c0/\M=D j f c1/\Hid (UN wr (D i g c0) X)/\Hid (UN wr (D j f c1) d)/\Hid (d<=X/\Nat.gcd X d=Nat.gcd x y)/\g<1000000000000/\Bl w wr)
   (λrv M wr=>rowVal wr rv+rowVal wr M)
  case atStart=>exact⟨i,g,c0,X,j,f,c1,d,J,J,t,S,N,h4,h5⟩
  case round=>
   clear t S N h4 h5;obtain⟨i,g,c0,X,j,f,c1,d,rfl,rfl,z,n,F,bc,T⟩:=hrel;have bf:f<=g:=by rw[UN.len z.o,UN.len n.o];exact Yr F.o.1
   by_cases bd:1<f
   . have Qw:(1:Int)<(f:Int):=O
     have Qe:d≠0:=λe=>by
      have h:=UN.len n.o;rw[e,Js]at h;simp at h;omega
     have Qu:=Z (Pw i g c0 j f c1 X d _ z.o n.o F.o.1 O);go_upto_region 5 with(go_at_call 149;refine Qu.o.mono ?_;rintro e m ⟨A,s,K,nb,rfl,⟨b1,b2,b3,b4⟩,ah,o⟩)
     obtain⟨r,P⟩:=ex ((m.alloc (E #[C B (A:Nat),C B (s:Nat)] 180)).alloc (E #[C B (K:Nat),C B (nb:Nat)] 180));have Ql:=Bt T o;have L:Bl wr r:=by rw[<-P];exact(o.alloc o.size _).alloc (by have:=o.size;simp;omega) _
     have Qd:=Bt T L;have m5:Jf r m.heap.size 180 (C B (A:Nat)) (C B (s:Nat)):=by rw[<-P];exact(Jf.new m _ _ _).alloc _
     have m6:Jf r (m.heap.size+1) 180 (C B (K:Nat)) (C B (nb:Nat)):=by
      have h:=Jf.new (m.alloc (E #[C B (A:Nat),C B (s:Nat)] 180)) 180 (C B (K:Nat)) (C B (nb:Nat));rw[A1,P]at h;exact h
     have Qn:=UN.below z.o L;have R:=UN.below n.o L;rw[P];clear P Qu o Ql;obtain⟨k0,k1⟩:=m5.cp;obtain⟨k2,k3⟩:=m6.cp;by_cases W:s=0
     . subst W;have Qk:=Z (IZ i g c0 j f c1 X d r Qn R Qe O);clear ah;go_wp2_with(go_at_call 151;refine Qk.o.mono ?_;rintro e w4 ⟨u,v,rfl,hu,I,U⟩;obtain⟨ua,uc,rfl⟩:=UN.form hu;obtain⟨va,vc,rfl⟩:=UN.form I)
       have Qi:=AK X (show d>0 by omega);have Qq:=UN.below R U;refine⟨⟨j,f,c1,d,va,_,vc,X%d,J,J,Z Qq,Z I,Z ⟨O,by rw[<-F.o.2,CH d,<-Nat.gcd_rec,CH]⟩,O,Bt Qd U⟩,?_⟩;rw[UN.rowVal Qq,UN.rowVal I,UN.rowVal z.o,UN.rowVal n.o];have:=F.o.1;omega
     . have G:=ah.resolve_left W;have Qs:nb*d≠0:=by
        have:=G.2.2.2;exact C3 O Qe
       obtain⟨Qr,Qp,Qa,Qo,Qg⟩:=Ej (λ(V:World) (h:Bl r V)=>La A s i g c0 j f c1 X d V (UN.below Qn h) (UN.below R h) b1 b2 O O (C3 W Qe)) (λ(V:World) (h:Bl r V)=>La K nb i g c0 j f c1 X d V (UN.below Qn h) (UN.below R h) b3 b4 O O Qs) (G.less W O) G.gcd G.2.2.1;have Qf:=Z (show Y2 (A*X) (s*d)<=X by
        have e1:=G.1;have e2:=Cc (Y2 (A*X) (s*d)) G.2.2.2;omega)
       clear G ah Qs;generalize Y2 (A*X) (s*d)=D1 at *;generalize Y2 (K*X) (nb*d)=D2 at *;have k:Bl r r.drew:=(BB _ r).drew;go_upto_region 6 with fail
       go_region_held3 (λq=>q.cell? ⟨m.heap.size,0,none⟩=some (C B (A:Nat))/\q.cell? ⟨m.heap.size,1,none⟩=some (C B (s:Nat))/\q.cell? ⟨m.heap.size+1,0,none⟩=some (C B (K:Nat))/\q.cell? ⟨m.heap.size+1,1,none⟩=some (C B (nb:Nat))) (exact⟨k0,k1,k2,k3⟩)
        (first
         |(go_at_call 150;refine(Qr.o _ k).mono ?_;clear Qr;rintro e w4 ⟨u4,rfl,am,U⟩;obtain⟨xa,xc,rfl⟩:=UN.form am;have k:=Bt k U;obtain⟨k0,k1⟩:=(m5.below k).cp;obtain⟨k2,k3⟩:=(m6.below k).cp)
         |(go_at_call 150;refine(Qp.o _ k).mono ?_;clear Qp;rintro e w5 ⟨u5,rfl,ai,aj⟩;obtain⟨ya,yc,rfl⟩:=UN.form ai;have k:=Bt k aj;obtain⟨k0,k1⟩:=(m5.below k).cp;obtain⟨k2,k3⟩:=(m6.below k).cp))
       all_goals go_wp2_with fail
       have an:=UN.below am aj;refine⟨⟨xa,_,xc,D1,ya,_,yc,D2,J,J,Z an,Z ai,Z ⟨Nat.le_of_lt Qg.o,Qo.o.trans F.o.2⟩,?_,Bt Qd k⟩,?_⟩
       . have t:=Yr Qf.o;rw[<-UN.len z.o]at t;omega
       . rw[UN.rowVal an,UN.rowVal ai,UN.rowVal z.o,UN.rowVal n.o];exact Qa.o
   . rcases AF f with h0|h0
     . subst h0;have Qt:=(Jt Jc).1 (Ag (UN.len n.o).symm);have HC:=Z (K0 i g c0 _ wr z.o);have HE:=Z (show X=Nat.gcd x y by rw[<-F.o.2,Qt,Nat.gcd_zero_right]);clear Qt;go_wp2_with(go_at_call 131;refine HC.o.mono ?_;rintro e m ⟨za,zc,rfl,hz,o⟩)
       go_ret;exact⟨_,J,by rw[<-HE.o];exact hz,Bt T o⟩
     . obtain rfl:f=1:=O
       obtain⟨ae,bg,bh⟩:=IW (UN.len n.o).symm;obtain⟨bb,bo,rfl,aq,kb⟩:=(Jm n.o).2.2.2.2 0 O;rw[ae]at kb;have Qy:wr.cell? ⟨bb,bo,none⟩=some (C B (d:Nat)):=kb;have Qk:=Z (IZ i g c0 (some ⟨bb,bo,none⟩) 1 c1 X d wr z.o n.o O O);have Qi:=AK X (show d>0 by omega);have HE:=Z (show Nat.gcd d (X%d)=Nat.gcd x y by rw[<-F.o.2,CH d,<-Nat.gcd_rec,CH]);have Qv:=Z (show ∀(V:World) (v:TR) (l c:Nat),UN V (D v l c) (X%d)->Calls Tryz.prog 152 #[D (some ⟨V.heap.size,0,none⟩) 1 1,D v l c] (V.alloc (E #[C B (d:Nat)] 163)) λe q=>∃u,e=.returned u/\UN q u (Nat.gcd x y)/\Below (V.alloc (E #[C B (d:Nat)] 163)).heap.size (V.alloc (E #[C B (d:Nat)] 163)) q from λV v l c h=>by
        have t:=(DG.made (xs:=[d]) (BD V (E #[C B (d:Nat)] 163))).row 0 1 1 sp O O O;have S:Row B (V.alloc (E #[C B (d:Nat)] 163)) (D (some ⟨V.heap.size,0,none⟩) 1 1) (Jb Y d):=by rw[ae];exact t
        have N:=Pp (some ⟨V.heap.size,0,none⟩) 1 v l c d (X%d) _ S (UN.below h (Ba V _)) O;rw[HE.o]at N;exact N)
       clear kb ae;go_upto_region 12 with(go_at_call 151;refine Qk.o.mono ?_;rintro e m ⟨u,v,rfl,hu,I,o⟩;obtain⟨ua,uc,rfl⟩:=UN.form hu;obtain⟨va,vc,rfl⟩:=UN.form I)
       have bi:=(o.cell (p:=⟨bb,bo,none⟩) aq).trans Qy;go_wp2_with(go_at_call 152;refine(Qv.o _ _ _ _ I).mono ?_;rintro e w3 ⟨u3,rfl,ak,L⟩;obtain⟨ta,tc,rfl⟩:=UN.form ak)
       go_ret;have Ql:=Bt T o;exact⟨_,J,ak,LY Ql L⟩

