import Derived.Test.YthnpdhlepglmlaaGreatDoorW21
set_option linter.all false
open Go.IntKind renaming u64->B
open Go.Value renaming int->C,slice->D
open Go.Obj renaming cells->E
set_option maxRecDepth 99999
set_option maxHeartbeats 0
namespace Go.Proofs.YthnpdhlepglmlaaGreatDoor
open Tryz
open Go.RowKit Go.Shelf
attribute [local go_sem] Oper.semAt_some
def VA{W:World}{B:Nat}{t:TypeId}{a b u0 u1:Value}(x0 x1 y0 y1:Value)(h:JD W B t a b)(k:JD W (B+1) t u0 u1):
 JD ((((W.setCell ⟨B,0,none⟩ x0).setCell ⟨B,1,none⟩ x1).setCell ⟨B+1,0,none⟩ y0).setCell ⟨B+1,1,none⟩ y1).drew B t x0 x1/\JD ((((W.setCell ⟨B,0,none⟩ x0).setCell ⟨B,1,none⟩ x1).setCell ⟨B+1,0,none⟩ y0).setCell ⟨B+1,1,none⟩ y1).drew (B+1) t y0 y1:=
 ⟨((((h.set0 x0).set1 x1).far DH y0).far DH y1).drew,((((k.far DH x0).far DH x1).set0 y0).set1 y1).drew⟩
def jS(ab R la t ca:Nat)(b:Option Addr)(lb cb x y d s H L:Nat)(w:World)(h1:(la:Int)-1=t)(bm:ab<w.heap.size)
(ka:w.cell? ⟨ab,R+t,none⟩=some (C B (d:Nat)))(bn:d<Y)(hs:s<=63)(HS:Hid ((64:Int)-(Lib.bitLen d:Int)=(s:Int)))(dh:la<=1099511627776)(de:t<la)
(aj:Hid (∀V:World,Bl w V->Calls Tryz.prog 255 #[D (some ⟨ab,R,none⟩) la ca,C .i64 (la:Nat),C B (s:Nat)] V λe w'=>e=.returned (C B (H:Nat))/\Bl V w'))
(am:Hid (∀V:World,Bl w V->Calls Tryz.prog 255 #[D b lb cb,C .i64 (la:Nat),C B (s:Nat)] V λe w'=>e=.returned (C B (L:Nat))/\Bl V w'))
(F:H<Y)(bj:L<=H)(bi:Hid (∀sg h l a nb i c,Gv H L sg h l a nb i c->c<=l->nb+c<=h-l->Ia x y a nb i c)):
 Calls Tryz.prog 223 #[D (some ⟨ab,R,none⟩) la ca,D b lb cb] w λe w'=>∃g pb a nb:Nat,e=.returned (.tuple #[.agg #[C B (g:Nat),C B (pb:Nat)],.agg #[C B (a:Nat),C B (nb:Nat)]])/\(g<Y/\pb<Y/\a<Y/\nb<Y)/\(pb=0\/Ia x y g pb a nb)/\Bl w w':=by
 have i1:IntKind.i64.wrap ((la:Int)-1)=(t:Int):=by rw[h1];exact BT _ O
 have i3:IntKind.i64.wrap (t:Int)=(t:Int):=BT _ O;have ed:IntKind.u64.wrap (s:Int)=(s:Int):=Bi _ O;obtain⟨W0,K⟩:=ex ((w.alloc (E #[C B 0,C B 0] 261)).alloc (E #[C B 0,C B 0] 261));have Qk:Bl w W0:=by rw[<-K];exact(Ba w _).alloc DH _
 have b4:JD W0 w.heap.size 261 (C B 0) (C B 0):=by rw[<-K];exact(JD.new w _ _ _).alloc _
 have b5:JD W0 (w.heap.size+1) 261 (C B 0) (C B 0):=by
  have h:=JD.new (w.alloc (E #[C B 0,C B 0] 261)) 261 (C B 0) (C B 0);rw[Ax,K]at h;exact h
 have Qv:=(Qk.cell (p:=⟨ab,R+t,none⟩) bm).trans ka;have Qn:=Z K;have Qm:=Z (show ∀V:World,Calls Tryz.prog 254 #[C B (d:Nat)] V λe w'=>e=.returned (C .i64 (s:Nat))/\w'=V from λV=>by
  have h:=Tryz.bits_LeadingZeros64 (d:Nat) V O (by unfold Y at bn;omega);rw[CM,HS.o]at h;exact h)
 clear K ka HS;go_enter Tryz.func223,Tryz.ntmps223
 go_upto_region 1 with fail
 try rw[Qn.o]
 go_upto_region 2 with(go_at_call 254;refine(Qm.o _).mono ?_;rintro e w' ⟨rfl,e1⟩;have e2:=e1.symm;subst e2;clear e1)
 have hq:=Qk;go_upto_region 3 with(first
  |(go_at_call 255;refine(aj.o _ hq).mono ?_;clear aj;rintro e w1 ⟨rfl,ae⟩;have hq:=Bt hq ae)
  |(go_at_call 255;refine(am.o _ hq).mono ?_;clear am;rintro e w2 ⟨rfl,ah⟩;have hq:=Bt hq ah))
 go_wp2_with fail
 obtain⟨A,m⟩:=ex (((w2.alloc (E #[C B 0,C B 0] 261)).alloc (E #[C B 1,C B 0] 261)).alloc (E #[C B 0,C B 1] 261));have Qp:Bl w A:=by rw[<-m];exact((hq.alloc hq.size _).alloc (by have:=hq.size;simp;omega) _).alloc (by have:=hq.size;simp;omega) _
 have u:JD A w2.heap.size 261 (C B (0:Nat)) (C B (0:Nat)):=by rw[<-m];exact((JD.new w2 _ _ _).alloc _).alloc _
 have n:JD A (w2.heap.size+1) 261 (C B (1:Nat)) (C B (0:Nat)):=by
  have h:=(JD.new (w2.alloc (E #[C B 0,C B 0] 261)) 261 (C B 1) (C B 0)).alloc (E #[C B 0,C B 1] 261);rw[Ax,m]at h;exact h
 have o:JD A (w2.heap.size+1+1) 261 (C B (0:Nat)) (C B (1:Nat)):=by
  have h:=JD.new ((w2.alloc (E #[C B 0,C B 0] 261)).alloc (E #[C B 1,C B 0] 261)) 261 (C B 0) (C B 1);rw[Ax,Ax,m]at h;exact h
 have Q:=Bt ae ah;have j:JD A w.heap.size 261 (C B 0) (C B 0):=by rw[<-m];exact(((b4.below Q).alloc _).alloc _).alloc _
 have k:JD A (w.heap.size+1) 261 (C B 0) (C B 0):=by rw[<-m];exact(((b5.below Q).alloc _).alloc _).alloc _
 have Qw:w.heap.size+1<w2.heap.size:=by have:=(b5.below Q).lt;exact this
 rw[m];obtain⟨B9,an⟩:=ex (w2.heap.size);rw[an]at u n o Qw ⊢;clear m Q b4 b5 ae ah hq Qk an Qv Qm Qn;go_loopw [7,8] (λhv lv wr=>∃h l g pb a nb i c:Nat,hv=C B (h:Nat)/\lv=C B (l:Nat)/\Hid (∃sg,Gv H L sg h l a nb i c)/\Hid (pb=0\/Ia x y g pb a nb)/\(h<Y/\g<Y/\pb<Y/\a<Y/\nb<Y/\i<Y/\c<Y)/\
  JD wr B9 261 (C B (g:Nat)) (C B (pb:Nat))/\JD wr (B9+1) 261 (C B (a:Nat)) (C B (nb:Nat))/\JD wr (B9+1+1) 261 (C B (i:Nat)) (C B (c:Nat))/\JD wr w.heap.size 261 (C B 0) (C B 0)/\JD wr (w.heap.size+1) 261 (C B 0) (C B 0)/\Bl w wr) (λ_ lv _=>(intOf lv).toNat)
 case atStart=>exact⟨H,L,0,0,1,0,0,1,rfl,rfl,⟨1,Gv.start bj⟩,Or.inl rfl,⟨F,by unfold Y;omega,by unfold Y;omega,by unfold Y;omega,by unfold Y;omega,by unfold Y;omega,by unfold Y;omega⟩,u,n,o,j,k,Qp⟩
 case round=>
  clear u n o j k Qp;obtain⟨h,l,g,pb,a,nb,i,c,rfl,rfl,ai,S,⟨z1,z2,z3,z4,z5,z6,z7⟩,u,n,o,j,k,hB⟩:=hrel;obtain⟨sg,hle⟩:=ai.o;have di:=hle.2.2.2.2.2.2.2;have dz:=hle.2.2.2.2.2.2.1;obtain⟨fi,fm⟩:=u.cp;obtain⟨ei,f9⟩:=n.cp;obtain⟨fg,fh⟩:=o.cp;by_cases c1:c<=l
  . obtain⟨y1,y2⟩:=hle.small O;obtain⟨e,he⟩:∃e:Nat,(h:Int)-(l:Int)=(e:Int):=⟨h-l,O⟩;obtain⟨f,hf⟩:∃f:Nat,(nb:Int)+(c:Int)=(f:Int):=⟨nb+c,O⟩;have we:IntKind.u64.wrap (e:Int)=(e:Int):=Bi _ (by unfold Y at z1;omega);have wf:IntKind.u64.wrap (f:Int)=(f:Int):=Bi _ (by unfold Y at F;omega);by_cases c2:f<=e
    . have Qi:=Z (bi.o _ _ _ _ _ _ _ hle c1 O);have I:=hle.step (show 1<=l by omega);have z:=Z I;obtain⟨q,hq⟩:=ex (h/l);obtain⟨r,hr⟩:=ex (h%l);rw[hq,hr]at I z;have dx:r<l:=by rw[<-hr];exact Cm _ O
      have dt:(h:Int)/(l:Int)=(q:Int):=O
      have Uc:(h:Int)%(l:Int)=(r:Int):=O
      have Ql:a+q*i<=L:=by
       have h1:=I.2.2.1;have h2:=AW (a+q*i) (show 0<l by omega);omega
      have Qo:nb+q*c<=H:=by
       have h1:=I.2.1;have h2:=AW (nb+q*c) (show 0<l by omega);omega
      obtain⟨P,hP⟩:=ex (q*i);obtain⟨G,bg⟩:=ex (q*c);rw[hP]at Ql z;rw[bg]at Qo z;obtain⟨M,ap⟩:=ex (a+P);obtain⟨N,aq⟩:=ex (nb+G);rw[ap]at Ql z;rw[aq]at Qo z;have p1:(q:Int)*(i:Int)=(P:Int):=O
      have p2:(q:Int)*(c:Int)=(G:Int):=O
      have p3:(a:Int)+(P:Int)=(M:Int):=O
      have p4:(nb:Int)+(G:Int)=(N:Int):=O
      have v1:IntKind.u64.wrap (P:Int)=(P:Int):=Bi _ (by unfold Y at F;omega);have v2:IntKind.u64.wrap (G:Int)=(G:Int):=Bi _ (by unfold Y at F;omega);have v3:IntKind.u64.wrap (M:Int)=(M:Int):=Bi _ (by unfold Y at F;omega);have v4:IntKind.u64.wrap (N:Int)=(N:Int):=Bi _ (by unfold Y at F;omega);have dj:q<=h:=by rw[<-hq];exact Fd _ _
      have v5:IntKind.u64.wrap (q:Int)=(q:Int):=Bi _ (by unfold Y at z1;omega);have df:¬(l=0):=O
      obtain⟨cn,co⟩:=u.fp;obtain⟨bu,bz⟩:=n.fp;obtain⟨ce,cj⟩:=o.fp;clear I hle hP bg ap aq hq hr y1 y2 ai S;go_upto_region 6 with fail
      go_quiet (fail)
      go_wp2_with fail
      go_region
      go_wp2_with fail
      have g9:JD (wr.drewN (nq+1)) B9 261 (C B (g:Nat)) (C B (pb:Nat)):=u;have Ub:JD (wr.drewN (nq+1)) (B9+1) 261 (C B (a:Nat)) (C B (nb:Nat)):=n;have Qs:JD (wr.drewN (nq+1)) (B9+1+1) 261 (C B (i:Nat)) (C B (c:Nat)):=o;have g4:JD (wr.drewN (nq+1)) w.heap.size 261 (C B 0) (C B 0):=j;have g5:JD (wr.drewN (nq+1)) (w.heap.size+1) 261 (C B 0) (C B 0):=k;have gB:Bl w (wr.drewN (nq+1)):=MG hB _;rw[Uc];refine⟨⟨l,r,a,nb,i,c,M,N,rfl,rfl,⟨_,z.o⟩,Or.inr Qi.o,⟨O,z4,z5,z6,z7,O,O⟩,?_,?_,?_,?_,?_,?_⟩,by simp[intOf];omega⟩
      . exact(((((g9.set0 _).set1 _).far DH _).far DH _).far Dg _).far Dg _
      . exact(((((Ub.far DH _).far DH _).set0 _).set1 _).far DH _).far DH _
      . exact(((((Qs.far Dg _).far Dg _).far DH _).far DH _).set0 _).set1 _
      . exact(((((g4.far Dg _).far Dg _).far Dg _).far Dg _).far Dg _).far Dg _
      . exact(((((g5.far Dg _).far Dg _).far Dg _).far Dg _).far Dg _).far Dg _
      . exact(((((gB.setCell (p:=⟨_,0,none⟩) Dg _).setCell (p:=⟨_,1,none⟩) Dg _).setCell (p:=⟨_,0,none⟩) Dg _).setCell (p:=⟨_,1,none⟩) Dg _).setCell (p:=⟨_,0,none⟩) Dg _).setCell (p:=⟨_,1,none⟩) Dg _
    . clear hle;obtain⟨Qx,Qq⟩:=j.cp;obtain⟨Qy,Qu⟩:=k.cp;obtain⟨Qr,Qt⟩:=j.fp;obtain⟨Qz,Ua⟩:=k.fp;go_wp2_with fail
      go_region
      go_wp2_with fail
      obtain⟨q4,q5⟩:=VA (C B (g:Nat)) (C B (pb:Nat)) (C B (a:Nat)) (C B (nb:Nat)) j k;obtain⟨W,X⟩:=q4.cp;obtain⟨U,T⟩:=q5.cp;exact A0 (v:=.tuple #[.agg #[C B (g:Nat),C B (pb:Nat)],.agg #[C B (a:Nat),C B (nb:Nat)]]) (by simp[results,Tryz.results223,go_sem,W,X,U,T]) rfl ⟨g,pb,a,nb,rfl,⟨z2,z3,z4,z5⟩,S.o,((((hB.setCell (p:=⟨_,0,none⟩) Dg _).setCell (p:=⟨_,1,none⟩) Dg _).setCell (p:=⟨_,0,none⟩) Dg _).setCell (p:=⟨_,1,none⟩) Dg _).drew⟩
  . clear hle;obtain⟨Qx,Qq⟩:=j.cp;obtain⟨Qy,Qu⟩:=k.cp;obtain⟨Qr,Qt⟩:=j.fp;obtain⟨Qz,Ua⟩:=k.fp;go_wp2_with fail
    go_region
    go_wp2_with fail
    obtain⟨q4,q5⟩:=VA (C B (g:Nat)) (C B (pb:Nat)) (C B (a:Nat)) (C B (nb:Nat)) j k;obtain⟨W,X⟩:=q4.cp;obtain⟨U,T⟩:=q5.cp;exact A0 (v:=.tuple #[.agg #[C B (g:Nat),C B (pb:Nat)],.agg #[C B (a:Nat),C B (nb:Nat)]]) (by simp[results,Tryz.results223,go_sem,W,X,U,T]) rfl ⟨g,pb,a,nb,rfl,⟨z2,z3,z4,z5⟩,S.o,((((hB.setCell (p:=⟨_,0,none⟩) Dg _).setCell (p:=⟨_,1,none⟩) Dg _).setCell (p:=⟨_,0,none⟩) Dg _).setCell (p:=⟨_,1,none⟩) Dg _).drew⟩
def jT(a:Option Addr)(la ca:Nat)(b:Option Addr)(lb cb x y:Nat)(w:World)(F:Row B w (D a la ca) (Jh Y x))(G:Row B w (D b lb cb) (Jh Y y))(A:y<=x)(aq:2<=lb):
 Calls Tryz.prog 223 #[D a la ca,D b lb cb] w λe w'=>∃n pb i nb:Nat,e=.returned (.tuple #[.agg #[C B (n:Nat),C B (pb:Nat)],.agg #[C B (i:Nat),C B (nb:Nat)]])/\(n<Y/\pb<Y/\i<Y/\nb<Y)/\(pb=0\/Ia x y n pb i nb)/\Bl w w':=by
 obtain⟨ah,aj,bg,m,ae⟩:=JM F;obtain⟨ai,am,bi,ap,an⟩:=JM G;have I:lb<=la:=by rw[ah,ai];exact X1 A
 obtain⟨k,hk⟩:∃k,la=k+2:=⟨la-2,O⟩;obtain⟨ab,r,rfl,X,ka⟩:=ae (k+1) O;have c:=JA Jf x;have z:(Jh Y x).length=k+2:=O
 have v:(Jh Y x)[k+1]?.getD 0≠0:=by
  intro e;have Q:=JN Y (Jh Y x) (k+1);rw[Af O,e,CI,Ca,Jz Jf]at Q;have h4:=Y5 c (k+1);have u:=PZ Jf z O;rw[show k+2-1=k+1 from J]at u;omega
 have f:(Jh Y x)[k+1]?.getD 0<Y:=c.getD uo _;obtain⟨d,g⟩:=ex ((Jh Y x)[k+1]?.getD 0);rw[g]at ka v f;obtain⟨K,L,t⟩:=bitLen_spec d v (by rw[<-Kk];exact f);have W:Lib.bitLen d<=64:=by
  rcases A5 64 (Lib.bitLen d)with h|h
  . exfalso
    have u:2^64<=2^(Lib.bitLen d-1):=Aq O O;rw[Kk]at f;omega
  . exact h
 obtain⟨s,hs⟩:∃s,s=64-Lib.bitLen d:=⟨_,J⟩;obtain⟨o,v2⟩:=U0 (s:=s) c z g L t K W hs;rw[Jz Jf]at o v2;have H:d<2^(64-s):=by rw[hs,show 64-(64-Lib.bitLen d)=Lib.bitLen d from by omega];exact t
 have j:0<Y^k*2^(64-s):=DF (Cz uo) (A9 _);have U:Gb x k s<Y:=by
  unfold Gb;rw[AU j];have hp:=MC (s:=s) O;have M:Y*(Y^k*2^(64-s))*2^s=Y^(k+2):=by
   rw[Ct,Ct,AO (2^(64-s)),hp,Cj,Cj,AO Y,Ct]
  rw[<-M]at o;exact Nat.lt_of_mul_lt_mul_right o
 have p:=λ(V:World) (h:Bl w V)=>U9 (some ⟨ab,r,none⟩) la ca (Jh Y x) k (k+1) la s V (Row.below F h) c hk O O O (Aa _) m (λ_=>by rw[g];exact H);have q:=λ(V:World) (h:Bl w V)=>U9 b lb cb (Jh Y y) k (k+1) la s V (Row.below G h) (JA Jf y) hk O O O I m (λe=>by
  have R:=JN Y (Jh Y y) (k+1);rw[Af O,Jz Jf]at R;have T:=JN Y (Jh Y x) (k+1);rw[Af O,Jz Jf,g]at T;have h8:=Y5 c (k+1);have h9:(Jh Y y)[k+1]?.getD 0<=d:=by
   rcases A5 d ((Jh Y y)[k+1]?.getD 0)with h|h
   . exfalso
     have:=Ah (Y^(k+1)) (show d+1<=(Jh Y y)[k+1]?.getD 0 from h);rw[CS,Nat.mul_one]at this;omega
   . exact h
  omega)
 rw[Jz Jf]at p q;refine jS ab r la (k+1) ca b lb cb x y d s (Gb x k s) (Gb y k s) w O X ka f O (show _=_ by omega) m O p q U (Nat.div_le_div_right A) ?_;intro sg h l i nb c xb hle N P;refine hle.out (S:=Y^k*2^(64-s)) (al:=x%(Y^k*2^(64-s))) (be:=y%(Y^k*2^(64-s))) ?_ ?_ (Cm _ j) (Cm _ j) N P
 . grind[Gb,Ch]
 grind[Gb,Ch]
def Nx(W:World)(p:Addr):Nat:=match W.cell? p with|some (.int _ z)=>z.toNat|_=>0
def rowVal(W:World):Value->Nat
 |D (some p) l _=>val Y ((List.range l).map λj=>Nx W ⟨p.block,p.off+j,none⟩)
 |_=>0
def UN.rowVal{W:World}{a:Option Addr}{l c n:Nat}(h:UN W (D a l c) n):rowVal W (D a l c)=n:=by
 obtain⟨g,_,_,_,i⟩:=JM h;rcases AN l with d|d
 . subst d;have hn:=(Yb Jf).1 (AJ g.symm);subst hn;cases a<;>rfl
 . obtain⟨b,f,rfl,_,_⟩:=i 0 d;show val Y ((List.range l).map λj=>Nx W ⟨b,f+j,none⟩)=n;have e:(List.range l).map (λj=>Nx W ⟨b,f+j,none⟩)=Jh Y n:=by
    refine List.ext_getElem DG λj k m=>?_;grind[Nx]
   rw[e,Jz Jf]
def jU(a:Option Addr)(la ca:Nat)(b:Option Addr)(lb cb x y:Nat)(w:World)(ra:Row B w (D a la ca) (Jh Y x))(rb:Row B w (D b lb cb) (Jh Y y))(bi:la<1000000000000)(bj:lb<1000000000000):
 Calls Tryz.prog 167 #[D a la ca,D b lb cb] w λe w'=>∃u,e=.returned u/\UN w' u (Nat.gcd x y)/\Bl w w':=by
 have G:=Z (Py _ _ (Jh Y x) (Jh Y y) w ra rb (JA Jf x) (JA Jf y) (Jx Jf x) (Jx Jf y));rw[Jz Jf,Jz Jf]at G;obtain⟨cm,ae⟩:=ex (D7 x y:Int);rw[ae]at G;obtain⟨R,U,Q⟩:=DY ae ra rb;clear ae ra rb;go_enter Tryz.func167,Tryz.ntmps167
 go_upto_if 14 with(go_at_call 104;refine G.o.mono ?_;rintro e w1 ⟨rfl,r⟩)
 go_cut [0,1] λrv z wr=>∃(a0:Option Addr) (f c0 X:Nat) (g:Option Addr) (l1 c1 d:Nat),rv=D a0 f c0/\z=D g l1 c1/\Hid (UN wr (D a0 f c0) X)/\Hid (UN wr (D g l1 c1) d)/\Hid (d<=X/\Nat.gcd X d=Nat.gcd x y)/\f<1000000000000/\Bl w wr
 case first=>
  by_cases Qw:cm<0
  . have Qx:x<y:=by
     have h:=R.o;unfold D7 at h;omega
    go_wp2_with fail
    go_meet
    case rel=>exact⟨_,_,_,y,_,_,_,x,rfl,rfl,Z (UN.below Q.o r),Z (UN.below U.o r),Z ⟨O,CN _ _⟩,bj,r⟩
  . have Qx:¬(x<y):=λh=>by
     have m:=R.o;rw[LK h]at m;omega
    go_wp2_with fail
    go_meet
    case rel=>exact⟨_,_,_,x,_,_,_,y,rfl,rfl,Z (UN.below U.o r),Z (UN.below Q.o r),Z ⟨O,rfl⟩,bi,r⟩
 case rest=>
  obtain⟨a0,f,c0,X,g,l1,c1,d,rfl,rfl,m,I,A,h4,h5⟩:=hcut;clear G R U Q r;go_wp2_with fail
  go_loopw [0,1] (λrv z wr=>∃(a0:Option Addr) (f c0 X:Nat) (g:Option Addr) (l1 c1 d:Nat),rv=D a0 f c0/\z=D g l1 c1/\Hid (UN wr (D a0 f c0) X)/\Hid (UN wr (D g l1 c1) d)/\Hid (d<=X/\Nat.gcd X d=Nat.gcd x y)/\f<1000000000000/\Bl w wr)
   (λrv z wr=>rowVal wr rv+rowVal wr z)
  case atStart=>exact⟨a0,f,c0,X,g,l1,c1,d,rfl,rfl,m,I,A,h4,h5⟩
  case round=>
   clear m I A h4 h5;obtain⟨a0,f,c0,X,g,l1,c1,d,rfl,rfl,hX,i,o,bm,K⟩:=hrel;have bu:l1<=f:=by rw[UN.len hX.o,UN.len i.o];exact X1 o.o.1
   by_cases bn:1<l1
   . have Qw:(1:Int)<(l1:Int):=O
     have P:d≠0:=λe=>by
      have h:=UN.len i.o;rw[e,JW]at h;simp at h;omega
     have Qu:=Z (jT a0 f c0 g l1 c1 X d _ hX.o i.o o.o.1 O);go_upto_region 5 with(go_at_call 223;refine Qu.o.mono ?_;rintro e w2 ⟨n,pb,s,nb,rfl,⟨b1,b2,b3,b4⟩,ai,j⟩)
     obtain⟨k,F⟩:=ex ((w2.alloc (E #[C B (n:Nat),C B (pb:Nat)] 261)).alloc (E #[C B (s:Nat),C B (nb:Nat)] 261));have T:=Bt K j;have t:Bl wr k:=by rw[<-F];exact(j.alloc j.size _).alloc (by have:=j.size;simp;omega) _
     have Qd:=Bt K t;have m5:JD k w2.heap.size 261 (C B (n:Nat)) (C B (pb:Nat)):=by rw[<-F];exact(JD.new w2 _ _ _).alloc _
     have m6:JD k (w2.heap.size+1) 261 (C B (s:Nat)) (C B (nb:Nat)):=by
      have h:=JD.new (w2.alloc (E #[C B (n:Nat),C B (pb:Nat)] 261)) 261 (C B (s:Nat)) (C B (nb:Nat));rw[Ax,F]at h;exact h
     have W:=UN.below hX.o t;have H:=UN.below i.o t;rw[F];clear F Qu j T;obtain⟨k0,k1⟩:=m5.cp;obtain⟨k2,k3⟩:=m6.cp;by_cases M:pb=0
     . subst M;have S:=Z (QF a0 f c0 g l1 c1 X d k W H P O);clear ai;go_wp2_with(go_at_call 225;refine S.o.mono ?_;rintro e w4 ⟨u,v,rfl,hu,hv,L⟩;obtain⟨ua,uc,rfl⟩:=UN.form hu;obtain⟨va,vc,rfl⟩:=UN.form hv)
       have Qi:=Cm X (show d>0 by omega);have Qq:=UN.below H L;refine⟨⟨g,l1,c1,d,va,_,vc,X%d,rfl,rfl,Z Qq,Z hv,Z ⟨O,by rw[<-o.o.2,CN d,<-Nat.gcd_rec,CN]⟩,O,Bt Qd L⟩,?_⟩;rw[UN.rowVal Qq,UN.rowVal hv,UN.rowVal hX.o,UN.rowVal i.o];have:=o.o.1;omega
     . have q:=ai.resolve_left M;have Qs:nb*d≠0:=by
        have:=q.2.2.2;exact Nat.mul_ne_zero O P
       obtain⟨Qr,Qp,Qa,Qo,Qg⟩:=GZ (λ(V:World) (h:Bl k V)=>U8 n pb a0 f c0 g l1 c1 X d V (UN.below W h) (UN.below H h) b1 b2 O O (Nat.mul_ne_zero M P)) (λ(V:World) (h:Bl k V)=>U8 s nb a0 f c0 g l1 c1 X d V (UN.below W h) (UN.below H h) b3 b4 O O Qs) (q.less M O) q.gcd q.2.2.1;have Qf:=Z (show ED (n*X) (pb*d)<=X by
        have e1:=q.1;have e2:=Cs (ED (n*X) (pb*d)) q.2.2.2;omega)
       clear q ai Qs;generalize ED (n*X) (pb*d)=D1 at *;generalize ED (s*X) (nb*d)=D2 at *;have hq:Bl k k.drew:=(BA _ k).drew;go_upto_region 6 with fail
       go_region_held3 (λw'=>w'.cell? ⟨w2.heap.size,0,none⟩=some (C B (n:Nat))/\w'.cell? ⟨w2.heap.size,1,none⟩=some (C B (pb:Nat))/\w'.cell? ⟨w2.heap.size+1,0,none⟩=some (C B (s:Nat))/\w'.cell? ⟨w2.heap.size+1,1,none⟩=some (C B (nb:Nat))) (exact⟨k0,k1,k2,k3⟩)
        (first
         |(go_at_call 224;refine(Qr.o _ hq).mono ?_;clear Qr;rintro e w4 ⟨u4,rfl,ap,L⟩;obtain⟨xa,xc,rfl⟩:=UN.form ap;have hq:=Bt hq L;obtain⟨k0,k1⟩:=(m5.below hq).cp;obtain⟨k2,k3⟩:=(m6.below hq).cp)
         |(go_at_call 224;refine(Qp.o _ hq).mono ?_;clear Qp;rintro e w5 ⟨u5,rfl,aj,am⟩;obtain⟨ya,yc,rfl⟩:=UN.form aj;have hq:=Bt hq am;obtain⟨k0,k1⟩:=(m5.below hq).cp;obtain⟨k2,k3⟩:=(m6.below hq).cp))
       all_goals go_wp2_with fail
       have aq:=UN.below ap am;refine⟨⟨xa,_,xc,D1,ya,_,yc,D2,rfl,rfl,Z aq,Z aj,Z ⟨Nat.le_of_lt Qg.o,Qo.o.trans o.o.2⟩,?_,Bt Qd hq⟩,?_⟩
       . have m:=X1 Qf.o;rw[<-UN.len hX.o]at m;omega
       . rw[UN.rowVal aq,UN.rowVal aj,UN.rowVal hX.o,UN.rowVal i.o];exact Qa.o
   . rcases AN l1 with h0|h0
     . subst h0;have Qt:=(Yb Jf).1 (AJ (UN.len i.o).symm);have HC:=Z (Tw a0 f c0 _ wr hX.o);have N:=Z (show X=Nat.gcd x y by rw[<-o.o.2,Qt,Nat.gcd_zero_right]);clear Qt;go_wp2_with(go_at_call 226;refine HC.o.mono ?_;rintro e w2 ⟨za,zc,rfl,hz,j⟩)
       go_ret;exact⟨_,rfl,by rw[<-N.o];exact hz,Bt K j⟩
     . obtain rfl:l1=1:=O
       obtain⟨ah,bz,ce⟩:=QC (UN.len i.o).symm;obtain⟨bb,bo,rfl,bg,kb⟩:=(JM i.o).2.2.2.2 0 O;rw[ah]at kb;have Qy:wr.cell? ⟨bb,bo,none⟩=some (C B (d:Nat)):=kb;have S:=Z (QF a0 f c0 (some ⟨bb,bo,none⟩) 1 c1 X d wr hX.o i.o O O);have Qi:=Cm X (show d>0 by omega);have N:=Z (show Nat.gcd d (X%d)=Nat.gcd x y by rw[<-o.o.2,CN d,<-Nat.gcd_rec,CN]);have Qv:=Z (show ∀(V:World) (v:Option Addr) (l c:Nat),UN V (D v l c) (X%d)->Calls Tryz.prog 227 #[D (some ⟨V.heap.size,0,none⟩) 1 1,D v l c] (V.alloc (E #[C B (d:Nat)] 223)) λe w'=>∃u,e=.returned u/\UN w' u (Nat.gcd x y)/\Below (V.alloc (E #[C B (d:Nat)] 223)).heap.size (V.alloc (E #[C B (d:Nat)] 223)) w' from λV v l c h=>by
        have m:=(DQ.made (xs:=[d]) (BC V (E #[C B (d:Nat)] 223))).row 0 1 1 DH O O O;have I:Row B (V.alloc (E #[C B (d:Nat)] 223)) (D (some ⟨V.heap.size,0,none⟩) 1 1) (Jh Y d):=by rw[ah];exact m
        have A:=jN (some ⟨V.heap.size,0,none⟩) 1 v l c d (X%d) _ I (UN.below h (Ba V _)) O;rw[N.o]at A;exact A)
       clear kb ah;go_upto_region 12 with(go_at_call 225;refine S.o.mono ?_;rintro e w2 ⟨u,v,rfl,hu,hv,j⟩;obtain⟨ua,uc,rfl⟩:=UN.form hu;obtain⟨va,vc,rfl⟩:=UN.form hv)
       have cj:=(j.cell (p:=⟨bb,bo,none⟩) bg).trans Qy;go_wp2_with(go_at_call 227;refine(Qv.o _ _ _ _ hv).mono ?_;rintro e w3 ⟨u3,rfl,an,t⟩;obtain⟨ta,tc,rfl⟩:=UN.form an)
       go_ret;have T:=Bt K j;exact⟨_,rfl,an,U6 T t⟩

