import Derived.Test.YtcahodpphikgnaaGreatDoorV25
set_option linter.all false
open Go.IntKind renaming u64->B,i64->OD
open Go.Value renaming int->C,slice->D
open Go.Obj renaming cells->E
set_option maxRecDepth 99999
set_option maxHeartbeats 0
namespace Go.Proofs.YtcahodpphikgnaaGreatDoor
open Proofs.Tryz
open Go.RowKit Go.Shelf
attribute [local go_sem] Oper.semAt_some
def Ic{W:World}{B:Nat}{t:TypeId}{c d u0 u1:Value}(x0 x1 a b:Value)(h:Jd W B t c d)(k:Jd W (B+1) t u0 u1):
 Jd ((((W.setCell ⟨B,0,none⟩ x0).setCell ⟨B,1,none⟩ x1).setCell ⟨B+1,0,none⟩ a).setCell ⟨B+1,1,none⟩ b).drew B t x0 x1/\Jd ((((W.setCell ⟨B,0,none⟩ x0).setCell ⟨B,1,none⟩ x1).setCell ⟨B+1,0,none⟩ a).setCell ⟨B+1,1,none⟩ b).drew (B+1) t a b:=
 ⟨((((h.set0 x0).set1 x1).far Br a).far Br b).drew,((((k.far Br x0).far Br x1).set0 a).set1 b).drew⟩
def NE(S ao u H ca:Nat)(b:N8)(lb cb x y d s A K:Nat)(w:World)(h1:(u:Int)-1=H)(aw:S<w.heap.size)
(ka:w.cell? ⟨S,ao+H,none⟩=some (C B (d:Nat)))(ay:d<O)(hs:s<=63)(HS:Hid ((64:Int)-(Lib.bitLen d:Int)=(s:Int)))(bk:u<=1099511627776)(bi:H<u)
(ah:Hid (∀V:World,Bl w V->Calls Tryz.prog 125 #[D (some ⟨S,ao,none⟩) u ca,C .i64 (u:Nat),C B (s:Nat)] V λe z=>e=.returned (C B (A:Nat))/\Bl V z))
(ai:Hid (∀V:World,Bl w V->Calls Tryz.prog 125 #[D b lb cb,C .i64 (u:Nat),C B (s:Nat)] V λe z=>e=.returned (C B (K:Nat))/\Bl V z))
(N:A<O)(aq:K<=A)(ap:Hid (∀sg h l a nb k c,XB A K sg h l a nb k c->c<=l->nb+c<=h-l->Xs x y a nb k c)):
 Calls Tryz.prog 100 #[D (some ⟨S,ao,none⟩) u ca,D b lb cb] w λe z=>∃j g a nb:Nat,e=.returned (.tuple #[.agg #[C B (j:Nat),C B (g:Nat)],.agg #[C B (a:Nat),C B (nb:Nat)]])/\(j<O/\g<O/\a<O/\nb<O)/\(g=0\/Xs x y j g a nb)/\Bl w z:=by
 have i1:OD.wrap ((u:Int)-1)=(H:Int):=by rw[h1];exact BH _ Y
 have i3:OD.wrap (H:Int)=(H:Int):=BH _ Y;have bz:B.wrap (s:Int)=(s:Int):=Bb _ Y;obtain⟨W0,T⟩:=ex ((w.alloc (E #[C B 0,C B 0] 124)).alloc (E #[C B 0,C B 0] 124));have Qk:Bl w W0:=by rw[<-T];exact(Ba w _).alloc Br _
 have b4:Jd W0 w.heap.size 124 (C B 0) (C B 0):=by rw[<-T];exact(Jd.new w _ _ _).alloc _
 have b5:Jd W0 (w.heap.size+1) 124 (C B 0) (C B 0):=by
  have h:=Jd.new (w.alloc (E #[C B 0,C B 0] 124)) 124 (C B 0) (C B 0);rw[BA,T]at h;exact h
 have Qv:=(Qk.cell (p:=⟨S,ao+H,none⟩) aw).trans ka;have Qn:=Z T;have Qm:=Z (show ∀V:World,Calls Tryz.prog 113 #[C B (d:Nat)] V λe z=>e=.returned (C .i64 (s:Nat))/\z=V from λV=>by
  have h:=Tryz.bits_LeadingZeros64 (d:Nat) V Y (by unfold O at ay;omega);rw[Int.toNat_natCast,HS.o]at h;exact h)
 clear T ka HS;go_enter func100,ntmps100
 go_upto_region 1 with fail
 try rw[Qn.o]
 go_upto_region 2 with(go_at_call 113;refine(Qm.o _).mono ?_;rintro e z ⟨rfl,e1⟩;have e2:=e1.symm;subst e2;clear e1)
 have i:=Qk;go_upto_region 3 with(first
  |(go_at_call 125;refine(ah.o _ i).mono ?_;clear ah;rintro e w1 ⟨rfl,aa⟩;have i:=Bt i aa)
  |(go_at_call 125;refine(ai.o _ i).mono ?_;clear ai;rintro e o ⟨rfl,ad⟩;have i:=Bt i ad))
 go_wp2_with fail
 obtain⟨M,t⟩:=ex (((o.alloc (E #[C B 0,C B 0] 124)).alloc (E #[C B 1,C B 0] 124)).alloc (E #[C B 0,C B 1] 124));have Qp:Bl w M:=by rw[<-t];exact((i.alloc i.size _).alloc (by have:=i.size;simp;omega) _).alloc (by have:=i.size;simp;omega) _
 have I:Jd M o.heap.size 124 (C B (0:Nat)) (C B (0:Nat)):=by rw[<-t];exact((Jd.new o _ _ _).alloc _).alloc _
 have F:Jd M (o.heap.size+1) 124 (C B (1:Nat)) (C B (0:Nat)):=by
  have h:=(Jd.new (o.alloc (E #[C B 0,C B 0] 124)) 124 (C B 1) (C B 0)).alloc (E #[C B 0,C B 1] 124);rw[BA,t]at h;exact h
 have G:Jd M (o.heap.size+1+1) 124 (C B (0:Nat)) (C B (1:Nat)):=by
  have h:=Jd.new ((o.alloc (E #[C B 0,C B 0] 124)).alloc (E #[C B 1,C B 0] 124)) 124 (C B 0) (C B 1);rw[BA,BA,t]at h;exact h
 have X:=Bt aa ad;have m:Jd M w.heap.size 124 (C B 0) (C B 0):=by rw[<-t];exact(((b4.below X).alloc _).alloc _).alloc _
 have n:Jd M (w.heap.size+1) 124 (C B 0) (C B 0):=by rw[<-t];exact(((b5.below X).alloc _).alloc _).alloc _
 have Qw:w.heap.size+1<o.heap.size:=by have:=(b5.below X).lt;exact this
 rw[t];obtain⟨B9,aj⟩:=ex (o.heap.size);rw[aj]at I F G Qw ⊢;clear t X b4 b5 aa ad i Qk aj Qv Qm Qn;go_loopw [7,8] (λhv lv wr=>∃h l j g a nb k c:Nat,hv=C B (h:Nat)/\lv=C B (l:Nat)/\Hid (∃sg,XB A K sg h l a nb k c)/\Hid (g=0\/Xs x y j g a nb)/\(h<O/\j<O/\g<O/\a<O/\nb<O/\k<O/\c<O)/\
  Jd wr B9 124 (C B (j:Nat)) (C B (g:Nat))/\Jd wr (B9+1) 124 (C B (a:Nat)) (C B (nb:Nat))/\Jd wr (B9+1+1) 124 (C B (k:Nat)) (C B (c:Nat))/\Jd wr w.heap.size 124 (C B 0) (C B 0)/\Jd wr (w.heap.size+1) 124 (C B 0) (C B 0)/\Bl w wr) (λ_ lv _=>(intOf lv).toNat)
 case atStart=>exact⟨A,K,0,0,1,0,0,1,J,J,⟨1,XB.start aq⟩,Ar J,⟨N,by unfold O;omega,by unfold O;omega,by unfold O;omega,by unfold O;omega,by unfold O;omega,by unfold O;omega⟩,I,F,G,m,n,Qp⟩
 case round=>
  clear I F G m n Qp;obtain⟨h,l,j,g,a,nb,k,c,rfl,rfl,ae,HO,⟨z1,z2,z3,z4,z5,z6,z7⟩,I,F,G,m,n,hB⟩:=hrel;obtain⟨sg,hle⟩:=ae.o;have bm:=hle.2.2.2.2.2.2.2;have bu:=hle.2.2.2.2.2.2.1;obtain⟨ck,cn⟩:=I.cp;obtain⟨ce,cg⟩:=F.cp;obtain⟨ci,cj⟩:=G.cp;by_cases c1:c<=l
  . obtain⟨y1,y2⟩:=hle.small Y;obtain⟨e,he⟩:∃e:Nat,(h:Int)-(l:Int)=(e:Int):=⟨h-l,Y⟩;obtain⟨f,hf⟩:∃f:Nat,(nb:Int)+(c:Int)=(f:Int):=⟨nb+c,Y⟩;have we:B.wrap (e:Int)=(e:Int):=Bb _ (by unfold O at z1;omega);have wf:B.wrap (f:Int)=(f:Int):=Bb _ (by unfold O at N;omega);by_cases c2:f<=e
    . have Qi:=Z (ap.o _ _ _ _ _ _ _ hle c1 Y);have R:=hle.step (show 1<=l by omega);have L:=Z R;obtain⟨q,i⟩:=ex (h/l);obtain⟨r,hr⟩:=ex (h%l);rw[i,hr]at R L;have bt:r<l:=by rw[<-hr];exact At _ Y
      have bp:(h:Int)/(l:Int)=(q:Int):=Y
      have Uc:(h:Int)%(l:Int)=(r:Int):=Y
      have Ql:a+q*k<=K:=by
       have h1:=R.2.2.1;have h2:=A4 (a+q*k) (show 0<l by omega);omega
      have Qo:nb+q*c<=A:=by
       have h1:=R.2.1;have h2:=A4 (nb+q*c) (show 0<l by omega);omega
      obtain⟨P,hP⟩:=ex (q*k);obtain⟨Q,an⟩:=ex (q*c);rw[hP]at Ql L;rw[an]at Qo L;obtain⟨U,ak⟩:=ex (a+P);obtain⟨W,am⟩:=ex (nb+Q);rw[ak]at Ql L;rw[am]at Qo L;have p1:(q:Int)*(k:Int)=(P:Int):=Y
      have p2:(q:Int)*(c:Int)=(Q:Int):=Y
      have p3:(a:Int)+(P:Int)=(U:Int):=Y
      have p4:(nb:Int)+(Q:Int)=(W:Int):=Y
      have v1:B.wrap (P:Int)=(P:Int):=Bb _ (by unfold O at N;omega);have v2:B.wrap (Q:Int)=(Q:Int):=Bb _ (by unfold O at N;omega);have v3:B.wrap (U:Int)=(U:Int):=Bb _ (by unfold O at N;omega);have v4:B.wrap (W:Int)=(W:Int):=Bb _ (by unfold O at N;omega);have bn:q<=h:=by rw[<-i];exact Cu _ _
      have v5:B.wrap (q:Int)=(q:Int):=Bb _ (by unfold O at z1;omega);have bj:¬(l=0):=Y
      obtain⟨bg,bh⟩:=I.fp;obtain⟨az,bc⟩:=F.fp;obtain⟨bd,bf⟩:=G.fp;clear R hle hP an ak am i hr y1 y2 ae HO;go_upto_region 6 with fail
      go_quiet (fail)
      go_wp2_with fail
      go_region
      go_wp2_with fail
      have g9:Jd (wr.drewN (nq+1)) B9 124 (C B (j:Nat)) (C B (g:Nat)):=I;have Ub:Jd (wr.drewN (nq+1)) (B9+1) 124 (C B (a:Nat)) (C B (nb:Nat)):=F;have Qs:Jd (wr.drewN (nq+1)) (B9+1+1) 124 (C B (k:Nat)) (C B (c:Nat)):=G;have g4:Jd (wr.drewN (nq+1)) w.heap.size 124 (C B 0) (C B 0):=m;have g5:Jd (wr.drewN (nq+1)) (w.heap.size+1) 124 (C B 0) (C B 0):=n;have gB:Bl w (wr.drewN (nq+1)):=XQ hB _;rw[Uc];refine⟨⟨l,r,a,nb,k,c,U,W,J,J,⟨_,L.o⟩,AL Qi.o,⟨Y,z4,z5,z6,z7,Y,Y⟩,?_,?_,?_,?_,?_,?_⟩,by simp[intOf];omega⟩
      . exact(((((g9.set0 _).set1 _).far Br _).far Br _).far so _).far so _
      . exact(((((Ub.far Br _).far Br _).set0 _).set1 _).far Br _).far Br _
      . exact(((((Qs.far so _).far so _).far Br _).far Br _).set0 _).set1 _
      . exact(((((g4.far so _).far so _).far so _).far so _).far so _).far so _
      . exact(((((g5.far so _).far so _).far so _).far so _).far so _).far so _
      . exact(((((gB.setCell (p:=⟨_,0,none⟩) so _).setCell (p:=⟨_,1,none⟩) so _).setCell (p:=⟨_,0,none⟩) so _).setCell (p:=⟨_,1,none⟩) so _).setCell (p:=⟨_,0,none⟩) so _).setCell (p:=⟨_,1,none⟩) so _
    . clear hle;obtain⟨Qx,Qq⟩:=m.cp;obtain⟨Qy,Qu⟩:=n.cp;obtain⟨Qr,Qt⟩:=m.fp;obtain⟨Qz,Ua⟩:=n.fp;go_wp2_with fail
      go_region
      go_wp2_with fail
      obtain⟨q4,q5⟩:=Ic (C B (j:Nat)) (C B (g:Nat)) (C B (a:Nat)) (C B (nb:Nat)) m n;obtain⟨Qh,Qj⟩:=q4.cp;obtain⟨Qg,Qf⟩:=q5.cp;exact BB (v:=.tuple #[.agg #[C B (j:Nat),C B (g:Nat)],.agg #[C B (a:Nat),C B (nb:Nat)]]) (by simp[results,results100,go_sem,Qh,Qj,Qg,Qf]) J ⟨j,g,a,nb,J,⟨z2,z3,z4,z5⟩,HO.o,((((hB.setCell (p:=⟨_,0,none⟩) so _).setCell (p:=⟨_,1,none⟩) so _).setCell (p:=⟨_,0,none⟩) so _).setCell (p:=⟨_,1,none⟩) so _).drew⟩
  . clear hle;obtain⟨Qx,Qq⟩:=m.cp;obtain⟨Qy,Qu⟩:=n.cp;obtain⟨Qr,Qt⟩:=m.fp;obtain⟨Qz,Ua⟩:=n.fp;go_wp2_with fail
    go_region
    go_wp2_with fail
    obtain⟨q4,q5⟩:=Ic (C B (j:Nat)) (C B (g:Nat)) (C B (a:Nat)) (C B (nb:Nat)) m n;obtain⟨Qh,Qj⟩:=q4.cp;obtain⟨Qg,Qf⟩:=q5.cp;exact BB (v:=.tuple #[.agg #[C B (j:Nat),C B (g:Nat)],.agg #[C B (a:Nat),C B (nb:Nat)]]) (by simp[results,results100,go_sem,Qh,Qj,Qg,Qf]) J ⟨j,g,a,nb,J,⟨z2,z3,z4,z5⟩,HO.o,((((hB.setCell (p:=⟨_,0,none⟩) so _).setCell (p:=⟨_,1,none⟩) so _).setCell (p:=⟨_,0,none⟩) so _).setCell (p:=⟨_,1,none⟩) so _).drew⟩
def NF(a:N8)(c i:Nat)(b:N8)(lb j x y:Nat)(w:World)(M:Row B w (D a c i) (Jb O x))(N:Row B w (D b lb j) (Jb O y))(L:y<=x)(an:2<=lb):
 Calls Tryz.prog 100 #[D a c i,D b lb j] w λe w'=>∃r o n nb:Nat,e=.returned (.tuple #[.agg #[C B (r:Nat),C B (o:Nat)],.agg #[C B (n:Nat),C B (nb:Nat)]])/\(r<O/\o<O/\n<O/\nb<O)/\(o=0\/Xs x y r o n nb)/\Bl w w':=by
 obtain⟨ae,ai,ap,q,ad⟩:=Jm M;obtain⟨ah,aj,aq,am,ak⟩:=Jm N;have Q:lb<=c:=by rw[ae,ah];exact Yc L
 obtain⟨k,I⟩:∃k,c=k+2:=⟨c-2,Y⟩;obtain⟨z,A,rfl,aa,ka⟩:=ad (k+1) Y;have f:=Jf Jc x;have K:(Jb O x).length=k+2:=Y
 have H:(Jb O x)[k+1]?.getD 0≠0:=by
  intro e;have h3:=Ji O (Jb O x) (k+1);rw[Ab Y,e,AU,AK,Je Jc]at h3;have h4:=JU f (k+1);have G:=J8 Jc K Y;rw[show k+2-1=k+1 from J]at G;omega
 have g:(Jb O x)[k+1]?.getD 0<O:=f.getD uo _;obtain⟨d,m⟩:=ex ((Jb O x)[k+1]?.getD 0);rw[m]at ka H g;obtain⟨R,T,F⟩:=bitLen_spec d H (by rw[<-Xx];exact g);have hL:Lib.bitLen d<=64:=by
  rcases As 64 (Lib.bitLen d)with h|h
  . exfalso
    have G:2^64<=2^(Lib.bitLen d-1):=Al Y Y;rw[Xx]at g;omega
  . exact h
 obtain⟨s,hs⟩:∃s,s=64-Lib.bitLen d:=⟨_,J⟩;obtain⟨t,v2⟩:=IU (s:=s) f K m T F R hL hs;rw[Je Jc]at t v2;have P:d<2^(64-s):=by rw[hs,show 64-(64-Lib.bitLen d)=Lib.bitLen d from by omega];exact F
 have p:0<O^k*2^(64-s):=Bq (CT uo) (AG _);have hH:Xo x k s<O:=by
  unfold Xo;rw[Ah p];have hp:=Xm (s:=s) Y;have U:O*(O^k*2^(64-s))*2^s=O^(k+2):=by
   rw[A0,A0,Am (2^(64-s)),hp,AV,AV,Am O,A0]
  rw[<-U]at t;exact Nat.lt_of_mul_lt_mul_right t
 have u:=λ(V:World) (h:Bl w V)=>Ib (some ⟨z,A,none⟩) c i (Jb O x) k (k+1) c s V (Row.below M h) f I Y Y Y (Aa _) q (λ_=>by rw[m];exact P);have v:=λ(V:World) (h:Bl w V)=>Ib b lb j (Jb O y) k (k+1) c s V (Row.below N h) (Jf Jc y) I Y Y Y Q q (λe=>by
  have h6:=Ji O (Jb O y) (k+1);rw[Ab Y,Je Jc]at h6;have h7:=Ji O (Jb O x) (k+1);rw[Ab Y,Je Jc,m]at h7;have h8:=JU f (k+1);have h9:(Jb O y)[k+1]?.getD 0<=d:=by
   rcases As d ((Jb O y)[k+1]?.getD 0)with h|h
   . exfalso
     have:=Ai (O^(k+1)) (show d+1<=(Jb O y)[k+1]?.getD 0 from h);rw[CB,Nat.mul_one]at this;omega
   . exact h
  omega)
 rw[Je Jc]at u v;refine NE z A c (k+1) i b lb j x y d s (Xo x k s) (Xo y k s) w Y aa ka g Y (show _=_ by omega) q Y u v hH (Nat.div_le_div_right L) ?_;intro sg h l n nb f xb hle W X;refine hle.out (S:=O^k*2^(64-s)) (al:=x%(O^k*2^(64-s))) (be:=y%(O^k*2^(64-s))) ?_ ?_ (At _ p) (At _ p) W X
 . grind[Xo,Ay]
 grind[Xo,Ay]
def Di(W:World)(p:Addr):Nat:=match W.cell? p with|some (.int _ z)=>z.toNat|_=>0
def rowVal(W:World):Value->Nat
 |D (some p) l _=>val O ((List.range l).map λj=>Di W ⟨p.block,p.off+j,none⟩)
 |_=>0
def UN.rowVal{W:World}{a:N8}{l c n:Nat}(h:UN W (D a l c) n):rowVal W (D a l c)=n:=by
 obtain⟨g,_,_,_,i⟩:=Jm h;rcases An l with d|d
 . subst d;have k:=(Js Jc).1 (Ad g.symm);subst k;cases a<;>rfl
 . obtain⟨b,f,rfl,_,_⟩:=i 0 d;show val O ((List.range l).map λj=>Di W ⟨b,f+j,none⟩)=n;have e:(List.range l).map (λj=>Di W ⟨b,f+j,none⟩)=Jb O n:=by
    refine List.ext_getElem B7 λj m o=>?_;grind[Di]
   rw[e,Je Jc]
def NG(a:N8)(la ca:Nat)(b:N8)(lb cb x y:Nat)(w:World)(ra:Row B w (D a la ca) (Jb O x))(rb:Row B w (D b lb cb) (Jb O y))(ap:la<1000000000000)(aq:lb<1000000000000):
 Calls Tryz.prog 70 #[D a la ca,D b lb cb] w λe q=>∃u,e=.returned u/\UN q u (Nat.gcd x y)/\Bl w q:=by
 have Q:=Z (Fu _ _ (Jb O x) (Jb O y) w ra rb (Jf Jc x) (Jf Jc y) (JM Jc x) (JM Jc y));rw[Je Jc,Je Jc]at Q;obtain⟨cm,aa⟩:=ex (J6 x y:Int);rw[aa]at Q;obtain⟨Qj,Qm,Qh⟩:=C6 aa ra rb;clear aa ra rb;go_enter func70,ntmps70
 go_upto_if 14 with(go_at_call 72;refine Q.o.mono ?_;rintro e w1 ⟨rfl,H⟩)
 go_cut [0,1] λrv M wr=>∃(i:N8) (g c0 X:Nat) (j:N8) (f c1 d:Nat),rv=D i g c0/\M=D j f c1/\Hid (UN wr (D i g c0) X)/\Hid (UN wr (D j f c1) d)/\Hid (d<=X/\Nat.gcd X d=Nat.gcd x y)/\g<1000000000000/\Bl w wr
 case first=>
  by_cases Qw:cm<0
  . have Qx:x<y:=by
     have h:=Qj.o;unfold J6 at h;omega
    go_wp2_with fail
    go_meet
    case rel=>exact⟨_,_,_,y,_,_,_,x,J,J,Z (UN.below Qh.o H),Z (UN.below Qm.o H),Z ⟨Y,Cx _ _⟩,aq,H⟩
  . have Qx:¬(x<y):=λh=>by
     have t:=Qj.o;rw[YM h]at t;omega
    go_wp2_with fail
    go_meet
    case rel=>exact⟨_,_,_,x,_,_,_,y,J,J,Z (UN.below Qm.o H),Z (UN.below Qh.o H),Z ⟨Y,J⟩,ap,H⟩
 case rest=>
  obtain⟨i,g,c0,X,j,f,c1,d,rfl,rfl,t,S,N,h4,h5⟩:=hcut;clear Q Qj Qm Qh H;go_wp2_with fail
  go_loopw [0,1] (λrv M wr=>∃(i:N8) (g c0 X:Nat) (j:N8) (f c1 d:Nat),rv=D i g c0/\M=D j f c1/\Hid (UN wr (D i g c0) X)/\Hid (UN wr (D j f c1) d)/\Hid (d<=X/\Nat.gcd X d=Nat.gcd x y)/\g<1000000000000/\Bl w wr)
   (λrv M wr=>rowVal wr rv+rowVal wr M)
  case atStart=>exact⟨i,g,c0,X,j,f,c1,d,J,J,t,S,N,h4,h5⟩
  case round=>
   clear t S N h4 h5;obtain⟨i,g,c0,X,j,f,c1,d,rfl,rfl,z,n,F,aw,T⟩:=hrel;have az:f<=g:=by rw[UN.len z.o,UN.len n.o];exact Yc F.o.1
   by_cases ay:1<f
   . have Qw:(1:Int)<(f:Int):=Y
     have Qe:d≠0:=λe=>by
      have h:=UN.len n.o;rw[e,Jq]at h;simp at h;omega
     have Qu:=Z (NF i g c0 j f c1 X d _ z.o n.o F.o.1 Y);go_upto_region 5 with(go_at_call 100;refine Qu.o.mono ?_;rintro e m ⟨A,s,K,nb,rfl,⟨b1,b2,b3,b4⟩,ae,o⟩)
     obtain⟨r,P⟩:=ex ((m.alloc (E #[C B (A:Nat),C B (s:Nat)] 124)).alloc (E #[C B (K:Nat),C B (nb:Nat)] 124));have Ql:=Bt T o;have L:Bl wr r:=by rw[<-P];exact(o.alloc o.size _).alloc (by have:=o.size;simp;omega) _
     have Qd:=Bt T L;have m5:Jd r m.heap.size 124 (C B (A:Nat)) (C B (s:Nat)):=by rw[<-P];exact(Jd.new m _ _ _).alloc _
     have m6:Jd r (m.heap.size+1) 124 (C B (K:Nat)) (C B (nb:Nat)):=by
      have h:=Jd.new (m.alloc (E #[C B (A:Nat),C B (s:Nat)] 124)) 124 (C B (K:Nat)) (C B (nb:Nat));rw[BA,P]at h;exact h
     have Qn:=UN.below z.o L;have R:=UN.below n.o L;rw[P];clear P Qu o Ql;obtain⟨k0,k1⟩:=m5.cp;obtain⟨k2,k3⟩:=m6.cp;by_cases W:s=0
     . subst W;have Qk:=Z (GK i g c0 j f c1 X d r Qn R Qe Y);clear ae;go_wp2_with(go_at_call 84;refine Qk.o.mono ?_;rintro e w4 ⟨u,v,rfl,hu,I,U⟩;obtain⟨ua,uc,rfl⟩:=UN.form hu;obtain⟨va,vc,rfl⟩:=UN.form I)
       have Qi:=At X (show d>0 by omega);have Qq:=UN.below R U;refine⟨⟨j,f,c1,d,va,_,vc,X%d,J,J,Z Qq,Z I,Z ⟨Y,by rw[<-F.o.2,Cx d,<-Nat.gcd_rec,Cx]⟩,Y,Bt Qd U⟩,?_⟩;rw[UN.rowVal Qq,UN.rowVal I,UN.rowVal z.o,UN.rowVal n.o];have:=F.o.1;omega
     . have G:=ae.resolve_left W;have Qs:nb*d≠0:=by
        have:=G.2.2.2;exact CQ Y Qe
       obtain⟨Qr,Qp,Qa,Qo,Qg⟩:=Dn (λ(V:World) (h:Bl r V)=>Ia A s i g c0 j f c1 X d V (UN.below Qn h) (UN.below R h) b1 b2 Y Y (CQ W Qe)) (λ(V:World) (h:Bl r V)=>Ia K nb i g c0 j f c1 X d V (UN.below Qn h) (UN.below R h) b3 b4 Y Y Qs) (G.less W Y) G.gcd G.2.2.1;have Qf:=Z (show YF (A*X) (s*d)<=X by
        have e1:=G.1;have e2:=Cp (YF (A*X) (s*d)) G.2.2.2;omega)
       clear G ae Qs;generalize YF (A*X) (s*d)=D1 at *;generalize YF (K*X) (nb*d)=D2 at *;have k:Bl r r.drew:=(BC _ r).drew;go_upto_region 6 with fail
       go_region_held3 (λq=>q.cell? ⟨m.heap.size,0,none⟩=some (C B (A:Nat))/\q.cell? ⟨m.heap.size,1,none⟩=some (C B (s:Nat))/\q.cell? ⟨m.heap.size+1,0,none⟩=some (C B (K:Nat))/\q.cell? ⟨m.heap.size+1,1,none⟩=some (C B (nb:Nat))) (exact⟨k0,k1,k2,k3⟩)
        (first
         |(go_at_call 101;refine(Qr.o _ k).mono ?_;clear Qr;rintro e w4 ⟨u4,rfl,ak,U⟩;obtain⟨xa,xc,rfl⟩:=UN.form ak;have k:=Bt k U;obtain⟨k0,k1⟩:=(m5.below k).cp;obtain⟨k2,k3⟩:=(m6.below k).cp)
         |(go_at_call 101;refine(Qp.o _ k).mono ?_;clear Qp;rintro e w5 ⟨u5,rfl,ah,ai⟩;obtain⟨ya,yc,rfl⟩:=UN.form ah;have k:=Bt k ai;obtain⟨k0,k1⟩:=(m5.below k).cp;obtain⟨k2,k3⟩:=(m6.below k).cp))
       all_goals go_wp2_with fail
       have am:=UN.below ak ai;refine⟨⟨xa,_,xc,D1,ya,_,yc,D2,J,J,Z am,Z ah,Z ⟨Nat.le_of_lt Qg.o,Qo.o.trans F.o.2⟩,?_,Bt Qd k⟩,?_⟩
       . have t:=Yc Qf.o;rw[<-UN.len z.o]at t;omega
       . rw[UN.rowVal am,UN.rowVal ah,UN.rowVal z.o,UN.rowVal n.o];exact Qa.o
   . rcases An f with h0|h0
     . subst h0;have Qt:=(Js Jc).1 (Ad (UN.len n.o).symm);have HC:=Z (Ha i g c0 _ wr z.o);have HE:=Z (show X=Nat.gcd x y by rw[<-F.o.2,Qt,Nat.gcd_zero_right]);clear Qt;go_wp2_with(go_at_call 78;refine HC.o.mono ?_;rintro e m ⟨za,zc,rfl,hz,o⟩)
       go_ret;exact⟨_,J,by rw[<-HE.o];exact hz,Bt T o⟩
     . obtain rfl:f=1:=Y
       obtain⟨ad,bc,bd⟩:=Xy (UN.len n.o).symm;obtain⟨bb,bo,rfl,an,kb⟩:=(Jm n.o).2.2.2.2 0 Y;rw[ad]at kb;have Qy:wr.cell? ⟨bb,bo,none⟩=some (C B (d:Nat)):=kb;have Qk:=Z (GK i g c0 (some ⟨bb,bo,none⟩) 1 c1 X d wr z.o n.o Y Y);have Qi:=At X (show d>0 by omega);have HE:=Z (show Nat.gcd d (X%d)=Nat.gcd x y by rw[<-F.o.2,Cx d,<-Nat.gcd_rec,Cx]);have Qv:=Z (show ∀(V:World) (v:N8) (l c:Nat),UN V (D v l c) (X%d)->Calls Tryz.prog 102 #[D (some ⟨V.heap.size,0,none⟩) 1 1,D v l c] (V.alloc (E #[C B (d:Nat)] 94)) λe q=>∃u,e=.returned u/\UN q u (Nat.gcd x y)/\Below (V.alloc (E #[C B (d:Nat)] 94)).heap.size (V.alloc (E #[C B (d:Nat)] 94)) q from λV v l c h=>by
        have t:=(Bv.made (xs:=[d]) (BD V (E #[C B (d:Nat)] 94))).row 0 1 1 Br Y Y Y;have S:Row B (V.alloc (E #[C B (d:Nat)] 94)) (D (some ⟨V.heap.size,0,none⟩) 1 1) (Jb O d):=by rw[ad];exact t
        have N:=Mz (some ⟨V.heap.size,0,none⟩) 1 v l c d (X%d) _ S (UN.below h (Ba V _)) Y;rw[HE.o]at N;exact N)
       clear kb ad;go_upto_region 12 with(go_at_call 84;refine Qk.o.mono ?_;rintro e m ⟨u,v,rfl,hu,I,o⟩;obtain⟨ua,uc,rfl⟩:=UN.form hu;obtain⟨va,vc,rfl⟩:=UN.form I)
       have bf:=(o.cell (p:=⟨bb,bo,none⟩) an).trans Qy;go_wp2_with(go_at_call 102;refine(Qv.o _ _ _ _ I).mono ?_;rintro e w3 ⟨u3,rfl,aj,L⟩;obtain⟨ta,tc,rfl⟩:=UN.form aj)
       go_ret;have Ql:=Bt T o;exact⟨_,J,aj,IY Ql L⟩

