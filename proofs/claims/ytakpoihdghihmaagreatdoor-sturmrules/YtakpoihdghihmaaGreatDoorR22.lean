import Derived.Test.YtakpoihdghihmaaGreatDoorR21
import Derived.Deep.RegionHeld3
import Derived.BigRegion
open Go.IntKind renaming u64->B
open Go.Value renaming int->C,slice->D
open Go.Obj renaming cells->E
set_option maxRecDepth 100000
set_option maxHeartbeats 16000000
namespace Go.Proofs.YtakpoihdghihmaaGreatDoor
open Go.RowKit Go.Shelf
section
attribute [local go_sem] Oper.semAt_some
theorem P0{W:World}{B:Nat}{t:TypeId}{c d u0 u1:Value}(x0 x1 a b:Value)(h:Jt W B t c d)(k:Jt W (B+1) t u0 u1):
 Jt ((((W.setCell ⟨B,0,none⟩ x0).setCell ⟨B,1,none⟩ x1).setCell ⟨B+1,0,none⟩ a).setCell ⟨B+1,1,none⟩ b).drew B t x0 x1/\Jt ((((W.setCell ⟨B,0,none⟩ x0).setCell ⟨B,1,none⟩ x1).setCell ⟨B+1,0,none⟩ a).setCell ⟨B+1,1,none⟩ b).drew (B+1) t a b:=
 ⟨((((h.set0 x0).set1 x1).far Z a).far Z b).drew,((((k.far Z x0).far Z x1).set0 a).set1 b).drew⟩
theorem WN(N U la z ca:Nat)(b:Option Addr)(lb cb x y d s H L:Nat)(w:World)(h1:(la:Int)-1=z)(aw:N<w.heap.size)
(ka:w.cell? ⟨N,U+z,none⟩=some (C B (d:Nat)))(ax:d<Y)(hs:s<=63)(HS:Hid ((64:Int)-(Lib.bitLen d:Int)=(s:Int)))(bj:la<=1099511627776)(bh:z<la)
(ai:Hid (∀V:World,Bl w V->Calls Tryz.prog 201 #[D (some ⟨N,U,none⟩) la ca,C .i64 (la:Nat),C B (s:Nat)] V λe o=>e=.returned (C B (H:Nat))/\Bl V o))
(aj:Hid (∀V:World,Bl w V->Calls Tryz.prog 201 #[D b lb cb,C .i64 (la:Nat),C B (s:Nat)] V λe o=>e=.returned (C B (L:Nat))/\Bl V o))
(I:H<Y)(aq:L<=H)(ap:Hid (∀sg h l a nb i c,F1 H L sg h l a nb i c->c<=l->nb+c<=h-l->Gn x y a nb i c)):
 Calls Tryz.prog 174 #[D (some ⟨N,U,none⟩) la ca,D b lb cb] w λe o=>∃g pb a nb:Nat,e=.returned (.tuple #[.agg #[C B (g:Nat),C B (pb:Nat)],.agg #[C B (a:Nat),C B (nb:Nat)]])/\(g<Y/\pb<Y/\a<Y/\nb<Y)/\(pb=0\/Gn x y g pb a nb)/\Bl w o:=by
 have i1:IntKind.i64.wrap ((la:Int)-1)=(z:Int):=by rw[h1];exact BW _ O
 have i3:IntKind.i64.wrap (z:Int)=(z:Int):=BW _ O;have bu:IntKind.u64.wrap (s:Int)=(s:Int):=Bk _ O;obtain⟨W0,Q⟩:=ex ((w.alloc (E #[C B 0,C B 0] 202)).alloc (E #[C B 0,C B 0] 202));have Qk:Bl w W0:=by rw[<-Q];exact(Ba w _).alloc Z _
 have b4:Jt W0 w.heap.size 202 (C B 0) (C B 0):=by rw[<-Q];exact(Jt.new w _ _ _).alloc _
 have b5:Jt W0 (w.heap.size+1) 202 (C B 0) (C B 0):=by
  have h:=Jt.new (w.alloc (E #[C B 0,C B 0] 202)) 202 (C B 0) (C B 0);rw[Ax,Q]at h;exact h
 have Qv:=(Qk.cell (p:=⟨N,U+z,none⟩) aw).trans ka;have Qn:=Ja Q;have Qm:=Ja (show ∀V:World,Calls Tryz.prog 200 #[C B (d:Nat)] V λe o=>e=.returned (C .i64 (s:Nat))/\o=V from λV=>by
  have h:=Tryz.bits_LeadingZeros64 (d:Nat) V O (by unfold Y at ax;omega);rw[CT,HS.o]at h;exact h)
 clear Q ka HS;go_enter Tryz.func174,Tryz.ntmps174
 go_upto_region 1 with fail
 try rw[Qn.o]
 go_upto_region 2 with(go_at_call 200;refine(Qm.o _).mono ?_;rintro e o ⟨rfl,e1⟩;have e2:=e1.symm;subst e2;clear e1)
 have hq:Bl w W0:=Qk;go_upto_region 3 with(first
  |(go_at_call 201;refine(ai.o _ hq).mono ?_;clear ai;rintro e w1 ⟨rfl,ae⟩;have hq:=Bt hq ae)
  |(go_at_call 201;refine(aj.o _ hq).mono ?_;clear aj;rintro e m ⟨rfl,af⟩;have hq:=Bt hq af))
 go_wp2_with fail
 obtain⟨G,n⟩:=ex (((m.alloc (E #[C B 0,C B 0] 202)).alloc (E #[C B 1,C B 0] 202)).alloc (E #[C B 0,C B 1] 202));have Qp:Bl w G:=by rw[<-n];exact((hq.alloc hq.size _).alloc (by have:=hq.size;simp;omega) _).alloc (by have:=hq.size;simp;omega) _
 have A:Jt G m.heap.size 202 (C B (0:Nat)) (C B (0:Nat)):=by rw[<-n];exact((Jt.new m _ _ _).alloc _).alloc _
 have t:Jt G (m.heap.size+1) 202 (C B (1:Nat)) (C B (0:Nat)):=by
  have h:=(Jt.new (m.alloc (E #[C B 0,C B 0] 202)) 202 (C B 1) (C B 0)).alloc (E #[C B 0,C B 1] 202);rw[Ax,n]at h;exact h
 have u:Jt G (m.heap.size+1+1) 202 (C B (0:Nat)) (C B (1:Nat)):=by
  have h:=Jt.new ((m.alloc (E #[C B 0,C B 0] 202)).alloc (E #[C B 1,C B 0] 202)) 202 (C B 0) (C B 1);rw[Ax,Ax,n]at h;exact h
 have T:Bl W0 m:=Bt ae af;have j:Jt G w.heap.size 202 (C B 0) (C B 0):=by rw[<-n];exact(((b4.below T).alloc _).alloc _).alloc _
 have k:Jt G (w.heap.size+1) 202 (C B 0) (C B 0):=by rw[<-n];exact(((b5.below T).alloc _).alloc _).alloc _
 have Qw:w.heap.size+1<m.heap.size:=by have:=(b5.below T).lt;exact this
 rw[n];obtain⟨B9,ak⟩:=ex (m.heap.size);rw[ak]at A t u Qw ⊢;clear n T b4 b5 ae af hq Qk ak Qv Qm Qn;go_loopw [7,8] (λhv lv wr=>∃h l g pb a nb i c:Nat,hv=C B (h:Nat)/\lv=C B (l:Nat)/\Hid (∃sg,F1 H L sg h l a nb i c)/\Hid (pb=0\/Gn x y g pb a nb)/\(h<Y/\g<Y/\pb<Y/\a<Y/\nb<Y/\i<Y/\c<Y)/\
  Jt wr B9 202 (C B (g:Nat)) (C B (pb:Nat))/\Jt wr (B9+1) 202 (C B (a:Nat)) (C B (nb:Nat))/\Jt wr (B9+1+1) 202 (C B (i:Nat)) (C B (c:Nat))/\Jt wr w.heap.size 202 (C B 0) (C B 0)/\Jt wr (w.heap.size+1) 202 (C B 0) (C B 0)/\Bl w wr)
  (λ_ lv _=>(intOf lv).toNat)
 case atStart=>exact⟨H,L,0,0,1,0,0,1,rfl,rfl,⟨1,F1.start aq⟩,Or.inl rfl,⟨I,by unfold Y;omega,by unfold Y;omega,by unfold Y;omega,by unfold Y;omega,by unfold Y;omega,by unfold Y;omega⟩,A,t,u,j,k,Qp⟩
 case round=>
  clear A t u j k Qp;obtain⟨h,l,g,pb,a,nb,i,c,rfl,rfl,ah,X,⟨z1,z2,z3,z4,z5,z6,z7⟩,A,t,u,j,k,hB⟩:=hrel;obtain⟨sg,hle⟩:=ah.o;have bk:l<=h:=hle.2.2.2.2.2.2.2;have bt:1<=c:=hle.2.2.2.2.2.2.1;obtain⟨ck,cl⟩:=A.cp;obtain⟨bz,ce⟩:=t.cp;obtain⟨ci,cj⟩:=u.cp;by_cases c1:c<=l
  . obtain⟨y1,y2⟩:=hle.small O;obtain⟨e,he⟩:∃e:Nat,(h:Int)-(l:Int)=(e:Int):=⟨h-l,O⟩;obtain⟨f,hf⟩:∃f:Nat,(nb:Int)+(c:Int)=(f:Int):=⟨nb+c,O⟩;have we:IntKind.u64.wrap (e:Int)=(e:Int):=Bk _ (by unfold Y at z1;omega);have wf:IntKind.u64.wrap (f:Int)=(f:Int):=Bk _ (by unfold Y at I;omega);by_cases c2:f<=e
    . have Qi:=Ja (ap.o _ _ _ _ _ _ _ hle c1 O);have M:=hle.step (show 1<=l by omega);have F:=Ja M;obtain⟨q,hq⟩:=ex (h/l);obtain⟨r,W⟩:=ex (h%l);rw[hq,W]at M F;have bn:r<l:=by rw[<-W];exact Cp _ O
      have bm:(h:Int)/(l:Int)=(q:Int):=by rw[<-hq];exact(Fi h l).symm
      have Uc:(h:Int)%(l:Int)=(r:Int):=by rw[<-W];exact(Int.natCast_emod h l).symm
      have Ql:a+q*i<=L:=by
       have h1:=M.2.2.1;have h2:=Ce (a+q*i) (show 0<l by omega);omega
      have Qo:nb+q*c<=H:=by
       have h1:=M.2.1;have h2:=Ce (nb+q*c) (show 0<l by omega);omega
      obtain⟨P,hP⟩:=ex (q*i);obtain⟨K,ad⟩:=ex (q*c);rw[hP]at Ql F;rw[ad]at Qo F;obtain⟨R,am⟩:=ex (a+P);obtain⟨S,an⟩:=ex (nb+K);rw[am]at Ql F;rw[an]at Qo F;have p1:(q:Int)*(i:Int)=(P:Int):=by rw[<-hP];exact(FO q i).symm
      have p2:(q:Int)*(c:Int)=(K:Int):=by rw[<-ad];exact(FO q c).symm
      have p3:(a:Int)+(P:Int)=(R:Int):=O
      have p4:(nb:Int)+(K:Int)=(S:Int):=O
      have v1:IntKind.u64.wrap (P:Int)=(P:Int):=Bk _ (by unfold Y at I;omega);have v2:IntKind.u64.wrap (K:Int)=(K:Int):=Bk _ (by unfold Y at I;omega);have v3:IntKind.u64.wrap (R:Int)=(R:Int):=Bk _ (by unfold Y at I;omega);have v4:IntKind.u64.wrap (S:Int)=(S:Int):=Bk _ (by unfold Y at I;omega);have bl:q<=h:=by rw[<-hq];exact FC _ _
      have v5:IntKind.u64.wrap (q:Int)=(q:Int):=Bk _ (by unfold Y at z1;omega);have bi:¬(l=0):=O
      obtain⟨bf,bg⟩:=A.fp;obtain⟨ay,az⟩:=t.fp;obtain⟨ba,bc⟩:=u.fp;clear M hle hP ad am an hq W y1 y2 ah X;go_upto_region 6 with fail
      go_quiet (fail)
      go_wp2_with fail
      go_region
      go_wp2_with fail
      have g9:Jt (wr.drewN (nq+1)) B9 202 (C B (g:Nat)) (C B (pb:Nat)):=A;have Ub:Jt (wr.drewN (nq+1)) (B9+1) 202 (C B (a:Nat)) (C B (nb:Nat)):=t;have Qs:Jt (wr.drewN (nq+1)) (B9+1+1) 202 (C B (i:Nat)) (C B (c:Nat)):=u;have g4:Jt (wr.drewN (nq+1)) w.heap.size 202 (C B 0) (C B 0):=j;have g5:Jt (wr.drewN (nq+1)) (w.heap.size+1) 202 (C B 0) (C B 0):=k;have gB:Bl w (wr.drewN (nq+1)):=Kb hB _;rw[Uc];refine⟨⟨l,r,a,nb,i,c,R,S,rfl,rfl,⟨_,F.o⟩,Or.inr Qi.o,⟨O,z4,z5,z6,z7,O,O⟩,?_,?_,?_,?_,?_,?_⟩,by simp[intOf];omega⟩
      . exact(((((g9.set0 _).set1 _).far Z _).far Z _).far Dd _).far Dd _
      . exact(((((Ub.far Z _).far Z _).set0 _).set1 _).far Z _).far Z _
      . exact(((((Qs.far Dd _).far Dd _).far Z _).far Z _).set0 _).set1 _
      . exact(((((g4.far Dd _).far Dd _).far Dd _).far Dd _).far Dd _).far Dd _
      . exact(((((g5.far Dd _).far Dd _).far Dd _).far Dd _).far Dd _).far Dd _
      . exact(((((gB.setCell (p:=⟨_,0,none⟩) Dd _).setCell (p:=⟨_,1,none⟩) Dd _).setCell (p:=⟨_,0,none⟩) Dd _).setCell (p:=⟨_,1,none⟩) Dd _).setCell (p:=⟨_,0,none⟩) Dd _).setCell (p:=⟨_,1,none⟩) Dd _
    . clear hle;obtain⟨Qx,Qq⟩:=j.cp;obtain⟨Qy,Qu⟩:=k.cp;obtain⟨Qr,Qt⟩:=j.fp;obtain⟨Qz,Ua⟩:=k.fp;go_wp2_with fail
      go_region
      go_wp2_with fail
      obtain⟨q4,q5⟩:=P0 (C B (g:Nat)) (C B (pb:Nat)) (C B (a:Nat)) (C B (nb:Nat)) j k;obtain⟨Qh,Qj⟩:=q4.cp;obtain⟨Qg,Qf⟩:=q5.cp;exact BB (v:=.tuple #[.agg #[C B (g:Nat),C B (pb:Nat)],.agg #[C B (a:Nat),C B (nb:Nat)]]) (by simp[results,Tryz.results174,go_sem,Qh,Qj,Qg,Qf]) rfl ⟨g,pb,a,nb,rfl,⟨z2,z3,z4,z5⟩,X.o,((((hB.setCell (p:=⟨_,0,none⟩) Dd _).setCell (p:=⟨_,1,none⟩) Dd _).setCell (p:=⟨_,0,none⟩) Dd _).setCell (p:=⟨_,1,none⟩) Dd _).drew⟩
  . clear hle;obtain⟨Qx,Qq⟩:=j.cp;obtain⟨Qy,Qu⟩:=k.cp;obtain⟨Qr,Qt⟩:=j.fp;obtain⟨Qz,Ua⟩:=k.fp;go_wp2_with fail
    go_region
    go_wp2_with fail
    obtain⟨q4,q5⟩:=P0 (C B (g:Nat)) (C B (pb:Nat)) (C B (a:Nat)) (C B (nb:Nat)) j k;obtain⟨Qh,Qj⟩:=q4.cp;obtain⟨Qg,Qf⟩:=q5.cp;exact BB (v:=.tuple #[.agg #[C B (g:Nat),C B (pb:Nat)],.agg #[C B (a:Nat),C B (nb:Nat)]]) (by simp[results,Tryz.results174,go_sem,Qh,Qj,Qg,Qf]) rfl ⟨g,pb,a,nb,rfl,⟨z2,z3,z4,z5⟩,X.o,((((hB.setCell (p:=⟨_,0,none⟩) Dd _).setCell (p:=⟨_,1,none⟩) Dd _).setCell (p:=⟨_,0,none⟩) Dd _).setCell (p:=⟨_,1,none⟩) Dd _).drew⟩
end
theorem WO(a:Option Addr)(la ca:Nat)(b:Option Addr)(lb cb x y:Nat)(w:World)(K:Row B w (D a la ca) (Ji Y x))(L:Row B w (D b lb cb) (Ji Y y))(H:y<=x)(an:2<=lb):
 Calls Tryz.prog 174 #[D a la ca,D b lb cb] w λe w'=>∃n pb i nb:Nat,e=.returned (.tuple #[.agg #[C B (n:Nat),C B (pb:Nat)],.agg #[C B (i:Nat),C B (nb:Nat)]])/\(n<Y/\pb<Y/\i<Y/\nb<Y)/\(pb=0\/Gn x y n pb i nb)/\Bl w w':=by
 obtain⟨af,ai,ap,m,ae⟩:=JH K;obtain⟨ah,aj,aq,am,ak⟩:=JH L;have N:lb<=la:=by rw[af,ah];exact Xg H
 obtain⟨k,A⟩:∃k,la=k+2:=⟨la-2,O⟩;obtain⟨r,t,rfl,ad,I⟩:=ae (k+1) O;have c:=JE Jf x;have F:(Ji Y x).length=k+2:=O
 have z:(Ji Y x)[k+1]?.getD 0≠0:=by
  intro e;have W:=Jw Y (Ji Y x) (k+1);rw[Ad O,e,CG,Cj,JC Jf]at W;have h4:=YC c (k+1);have v:=Mg Jf F O;rw[show k+2-1=k+1 from rfl]at v;omega
 have f:(Ji Y x)[k+1]?.getD 0<Y:=c.getD uo _;obtain⟨d,g⟩:=ex ((Ji Y x)[k+1]?.getD 0);rw[g]at I z f;obtain⟨P,Q,u⟩:=bitLen_spec d z (by rw[<-Hh];exact f);have hL:Lib.bitLen d<=64:=by
  rcases A6 64 (Lib.bitLen d)with h|h
  . exfalso
    have v:2^64<=2^(Lib.bitLen d-1):=AF O O;rw[Hh]at f;omega
  . exact h
 obtain⟨s,G⟩:∃s,s=64-Lib.bitLen d:=⟨_,rfl⟩;obtain⟨o,v2⟩:=Pr (s:=s) c F g Q u P hL G;rw[JC Jf]at o v2;have M:d<2^(64-s):=by rw[G,show 64-(64-Lib.bitLen d)=Lib.bitLen d from by omega];exact u
 have j:0<Y^k*2^(64-s):=FQ (CL uo) (Cb _);have hH:FV x k s<Y:=by
  unfold FV;rw[A7 j];have hp:=KY (s:=s) O;have R:Y*(Y^k*2^(64-s))*2^s=Y^(k+2):=by
   rw[AH,AH,At (2^(64-s)),hp,A4,A4,At Y,AH]
  rw[<-R]at o;exact Nat.lt_of_mul_lt_mul_right o
 have p:=λ(V:World) (h:Bl w V)=>Pz (some ⟨r,t,none⟩) la ca (Ji Y x) k (k+1) la s V (Row.below K h) c A O O O (Aa _) m (λ_=>by rw[g];exact M);have q:=λ(V:World) (h:Bl w V)=>Pz b lb cb (Ji Y y) k (k+1) la s V (Row.below L h) (JE Jf y) A O O O N m (λe=>by
  have X:=Jw Y (Ji Y y) (k+1);rw[Ad O,JC Jf]at X;have h7:=Jw Y (Ji Y x) (k+1);rw[Ad O,JC Jf,g]at h7;have h8:=YC c (k+1);have h9:(Ji Y y)[k+1]?.getD 0<=d:=by
   rcases A6 d ((Ji Y y)[k+1]?.getD 0)with h|h
   . exfalso
     have:=Aq (Y^(k+1)) (show d+1<=(Ji Y y)[k+1]?.getD 0 from h);rw[AN,Ft]at this;omega
   . exact h
  omega)
 rw[JC Jf]at p q;refine WN r t la (k+1) ca b lb cb x y d s (FV x k s) (FV y k s) w O ad I f O (show _=_ by omega) m O p q hH (Nat.div_le_div_right H) ?_;intro sg h l i nb c xb hle T U;refine hle.out (S:=Y^k*2^(64-s)) (al:=x%(Y^k*2^(64-s))) (be:=y%(Y^k*2^(64-s))) ?_ ?_ (Cp _ j) (Cp _ j) T U
 . unfold FV;rw[At];exact(Ci x _).symm
 . unfold FV;rw[At];exact(Ci y _).symm
attribute [local go_sem] Oper.semAt_some
def LP(W:World)(p:Addr):Nat:=match W.cell? p with|some (.int _ z)=>z.toNat|_=>0
def rowVal(W:World):Value->Nat
 |D (some p) l _=>val Y ((List.range l).map λj=>LP W ⟨p.block,p.off+j,none⟩)
 |_=>0
theorem UN.rowVal{W:World}{a:Option Addr}{l c n:Nat}(h:UN W (D a l c) n):rowVal W (D a l c)=n:=by
 obtain⟨f,_,_,_,g⟩:=JH h;rcases Cg l with d|d
 . subst d;have m:n=0:=(Ym Jf).1 (AD f.symm);subst m;cases a<;>rfl
 . obtain⟨b,off,rfl,_,_⟩:=g 0 d;show val Y ((List.range l).map λj=>LP W ⟨b,off+j,none⟩)=n;have e:(List.range l).map (λj=>LP W ⟨b,off+j,none⟩)=Ji Y n:=by
    refine List.ext_getElem (by rw[CQ,List.length_range];exact f) λj p i=>?_;obtain⟨o,q,e,_,k⟩:=g j O;cases e;rw[List.getElem_map,List.getElem_range,LP,k,Am i];rfl
   rw[e,JC Jf]
theorem WP(a:Option Addr)(la ca:Nat)(b:Option Addr)(lb cb x y:Nat)(w:World)(ra:Row B w (D a la ca) (Ji Y x))(rb:Row B w (D b lb cb) (Ji Y y))(ap:la<1000000000000)(aq:lb<1000000000000):
 Calls Tryz.prog 134 #[D a la ca,D b lb cb] w λe o=>∃u,e=.returned u/\UN o u (Nat.gcd x y)/\Bl w o:=by
 have N:=Ja (NG _ _ (Ji Y x) (Ji Y y) w ra rb (JE Jf x) (JE Jf y) (Ip Jf x) (Ip Jf y));rw[JC Jf,JC Jf]at N;obtain⟨cm,ad⟩:=ex (XJ x y:Int);rw[ad]at N;obtain⟨Qj,Qm,Qh⟩:=Db ad ra rb;clear ad ra rb;go_enter Tryz.func134,Tryz.ntmps134
 go_upto_if 14 with(go_at_call 126;refine N.o.mono ?_;rintro e w1 ⟨rfl,A⟩)
 go_cut [0,1] λM I wr=>∃(g:Option Addr) (f c0 X:Nat) (i:Option Addr) (l1 c1 d:Nat),M=D g f c0/\I=D i l1 c1/\Hid (UN wr (D g f c0) X)/\Hid (UN wr (D i l1 c1) d)/\Hid (d<=X/\Nat.gcd X d=Nat.gcd x y)/\f<1000000000000/\Bl w wr
 case first=>
  by_cases Qw:cm<0
  . have Qx:x<y:=by
     have h:=Qj.o;unfold XJ at h;split at h
     . assumption
     . split at h<;>omega
    go_wp2_with fail
    go_meet
    case rel=>exact⟨_,_,_,y,_,_,_,x,rfl,rfl,Ja (UN.below Qh.o A),Ja (UN.below Qm.o A),Ja ⟨O,CZ _ _⟩,aq,A⟩
  . have Qx:¬(x<y):=λh=>by
     have q:=Qj.o;rw[ID h]at q;omega
    go_wp2_with fail
    go_meet
    case rel=>exact⟨_,_,_,x,_,_,_,y,rfl,rfl,Ja (UN.below Qm.o A),Ja (UN.below Qh.o A),Ja ⟨O,rfl⟩,ap,A⟩
 case rest=>
  obtain⟨g,f,c0,X,i,l1,c1,d,rfl,rfl,q,Q,K,h4,h5⟩:=hcut;clear N Qj Qm Qh A;go_wp2_with fail
  go_loopw [0,1] (λM I wr=>∃(g:Option Addr) (f c0 X:Nat) (i:Option Addr) (l1 c1 d:Nat),M=D g f c0/\I=D i l1 c1/\Hid (UN wr (D g f c0) X)/\Hid (UN wr (D i l1 c1) d)/\Hid (d<=X/\Nat.gcd X d=Nat.gcd x y)/\f<1000000000000/\Bl w wr)
   (λM I wr=>rowVal wr M+rowVal wr I)
  case atStart=>exact⟨g,f,c0,X,i,l1,c1,d,rfl,rfl,q,Q,K,h4,h5⟩
  case round=>
   clear q Q K h4 h5;obtain⟨g,f,c0,X,i,l1,c1,d,rfl,rfl,r,m,t,aw,R⟩:=hrel;have ay:l1<=f:=by rw[UN.len r.o,UN.len m.o];exact Xg t.o.1
   by_cases ax:1<l1
   . have Qw:(1:Int)<(l1:Int):=O
     have W:d≠0:=λe=>by
      have h:=UN.len m.o;rw[e,JR]at h;simp at h;omega
     have Qu:=Ja (WO g f c0 i l1 c1 X d _ r.o m.o t.o.1 O);go_upto_region 5 with(go_at_call 174;refine Qu.o.mono ?_;rintro e j ⟨s,pb,G,nb,rfl,⟨b1,b2,b3,b4⟩,af,n⟩)
     obtain⟨k,L⟩:=ex ((j.alloc (E #[C B (s:Nat),C B (pb:Nat)] 202)).alloc (E #[C B (G:Nat),C B (nb:Nat)] 202));have Ql:Bl w j:=Bt R n;have H:Bl wr k:=by rw[<-L];exact(n.alloc n.size _).alloc (by have:=n.size;simp;omega) _
     have Qd:Bl w k:=Bt R H;have m5:Jt k j.heap.size 202 (C B (s:Nat)) (C B (pb:Nat)):=by rw[<-L];exact(Jt.new j _ _ _).alloc _
     have m6:Jt k (j.heap.size+1) 202 (C B (G:Nat)) (C B (nb:Nat)):=by
      have h:=Jt.new (j.alloc (E #[C B (s:Nat),C B (pb:Nat)] 202)) 202 (C B (G:Nat)) (C B (nb:Nat));rw[Ax,L]at h;exact h
     have Qn:=UN.below r.o H;have P:=UN.below m.o H;rw[L];clear L Qu n Ql;obtain⟨k0,k1⟩:=m5.cp;obtain⟨k2,k3⟩:=m6.cp;by_cases T:pb=0
     . subst T;have Qk:=Ja (NX g f c0 i l1 c1 X d k Qn P W O);clear af;go_wp2_with(go_at_call 176;refine Qk.o.mono ?_;rintro e w4 ⟨u,v,rfl,hu,F,S⟩;obtain⟨ua,uc,rfl⟩:=UN.form hu;obtain⟨va,vc,rfl⟩:=UN.form F)
       have Qi:=Cp X (show d>0 by omega);have Qq:=UN.below P S;refine⟨⟨i,l1,c1,d,va,_,vc,X%d,rfl,rfl,Ja Qq,Ja F,Ja ⟨O,by rw[<-t.o.2,CZ d,<-Nat.gcd_rec,CZ]⟩,O,Bt Qd S⟩,?_⟩;rw[UN.rowVal Qq,UN.rowVal F,UN.rowVal r.o,UN.rowVal m.o];have:=t.o.1;omega
     . have z:=af.resolve_left T;have Qs:nb*d≠0:=by
        have:=z.2.2.2;exact Nat.mul_ne_zero O W
       obtain⟨Qr,Qp,Qa,Qo,Qg⟩:=Gb (λ(V:World) (h:Bl k V)=>Py s pb g f c0 i l1 c1 X d V (UN.below Qn h) (UN.below P h) b1 b2 O O (Nat.mul_ne_zero T W)) (λ(V:World) (h:Bl k V)=>Py G nb g f c0 i l1 c1 X d V (UN.below Qn h) (UN.below P h) b3 b4 O O Qs) (z.less T O) z.gcd z.2.2.1;have Qf:=Ja (show Xc (s*X) (pb*d)<=X by
        have e1:=z.1;have e2:=C3 (Xc (s*X) (pb*d)) z.2.2.2;omega)
       clear z af Qs;generalize Xc (s*X) (pb*d)=D1 at *;generalize Xc (G*X) (nb*d)=D2 at *;have hq:Bl k k.drew:=(BF _ k).drew;go_upto_region 6 with fail
       go_region_held3 (λo=>o.cell? ⟨j.heap.size,0,none⟩=some (C B (s:Nat))/\o.cell? ⟨j.heap.size,1,none⟩=some (C B (pb:Nat))/\o.cell? ⟨j.heap.size+1,0,none⟩=some (C B (G:Nat))/\o.cell? ⟨j.heap.size+1,1,none⟩=some (C B (nb:Nat))) (exact⟨k0,k1,k2,k3⟩)
        (first
         |(go_at_call 175;refine(Qr.o _ hq).mono ?_;clear Qr;rintro e w4 ⟨u4,rfl,ak,S⟩;obtain⟨xa,xc,rfl⟩:=UN.form ak;have hq:=Bt hq S;obtain⟨k0,k1⟩:=(m5.below hq).cp;obtain⟨k2,k3⟩:=(m6.below hq).cp)
         |(go_at_call 175;refine(Qp.o _ hq).mono ?_;clear Qp;rintro e w5 ⟨u5,rfl,ah,ai⟩;obtain⟨ya,yc,rfl⟩:=UN.form ah;have hq:=Bt hq ai;obtain⟨k0,k1⟩:=(m5.below hq).cp;obtain⟨k2,k3⟩:=(m6.below hq).cp))
       all_goals go_wp2_with fail
       have am:=UN.below ak ai;refine⟨⟨xa,_,xc,D1,ya,_,yc,D2,rfl,rfl,Ja am,Ja ah,Ja ⟨Nat.le_of_lt Qg.o,Qo.o.trans t.o.2⟩,?_,Bt Qd hq⟩,?_⟩
       . have q:=Xg Qf.o;rw[<-UN.len r.o]at q;omega
       . rw[UN.rowVal am,UN.rowVal ah,UN.rowVal r.o,UN.rowVal m.o];exact Qa.o
   . rcases Cg l1 with h0|h0
     . subst h0;have Qt:d=0:=(Ym Jf).1 (AD (UN.len m.o).symm);have HC:=Ja (PZ g f c0 _ wr r.o);have U:=Ja (show X=Nat.gcd x y by rw[<-t.o.2,Qt,Nat.gcd_zero_right]);clear Qt;go_wp2_with(go_at_call 177;refine HC.o.mono ?_;rintro e j ⟨za,zc,rfl,hz,n⟩)
       go_ret;exact⟨_,rfl,by rw[<-U.o];exact hz,Bt R n⟩
     . obtain rfl:l1=1:=O
       obtain⟨ae,az,ba⟩:=NW (UN.len m.o).symm;obtain⟨bb,bo,rfl,an,kb⟩:=(JH m.o).2.2.2.2 0 O;rw[ae]at kb;have Qy:wr.cell? ⟨bb,bo,none⟩=some (C B (d:Nat)):=kb;have Qk:=Ja (NX g f c0 (some ⟨bb,bo,none⟩) 1 c1 X d wr r.o m.o O O);have Qi:=Cp X (show d>0 by omega);have U:=Ja (show Nat.gcd d (X%d)=Nat.gcd x y by rw[<-t.o.2,CZ d,<-Nat.gcd_rec,CZ]);have Qv:=Ja (show ∀(V:World) (v:Option Addr) (l c:Nat),UN V (D v l c) (X%d)->Calls Tryz.prog 178 #[D (some ⟨V.heap.size,0,none⟩) 1 1,D v l c] (V.alloc (E #[C B (d:Nat)] 115)) λe o=>∃u,e=.returned u/\UN o u (Nat.gcd x y)/\Below (V.alloc (E #[C B (d:Nat)] 115)).heap.size (V.alloc (E #[C B (d:Nat)] 115)) o from λV v l c h=>by
        have q:=(DJ.made (xs:=[d]) (BE V (E #[C B (d:Nat)] 115))).row 0 1 1 Z O O O;have Q:Row B (V.alloc (E #[C B (d:Nat)] 115)) (D (some ⟨V.heap.size,0,none⟩) 1 1) (Ji Y d):=by rw[ae];exact q
        have K:=WI (some ⟨V.heap.size,0,none⟩) 1 v l c d (X%d) _ Q (UN.below h (Ba V _)) O;rw[U.o]at K;exact K)
       clear kb ae;go_upto_region 12 with(go_at_call 176;refine Qk.o.mono ?_;rintro e j ⟨u,v,rfl,hu,F,n⟩;obtain⟨ua,uc,rfl⟩:=UN.form hu;obtain⟨va,vc,rfl⟩:=UN.form F)
       have bc:=(n.cell (p:=⟨bb,bo,none⟩) an).trans Qy;go_wp2_with(go_at_call 178;refine(Qv.o _ _ _ _ F).mono ?_;rintro e w3 ⟨u3,rfl,aj,H⟩;obtain⟨ta,tc,rfl⟩:=UN.form aj)
       go_ret;have Ql:Bl w j:=Bt R n;exact⟨_,rfl,aj,Pw Ql H⟩

