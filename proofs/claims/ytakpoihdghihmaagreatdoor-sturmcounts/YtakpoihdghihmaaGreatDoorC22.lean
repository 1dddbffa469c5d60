import Derived.Test.YtakpoihdghihmaaGreatDoorC21
import Derived.Deep.RegionHeld3
import Derived.BigRegion
open Go.IntKind renaming u64->B
open Go.Value renaming int->C,slice->D
open Go.Obj renaming cells->E
set_option maxRecDepth 100000
set_option maxHeartbeats 16000000
namespace Go.Proofs.YtakpoihdghihmaaGreatDoor
attribute [local go_sem] Oper.semAt_some
open Go.RowKit Go.Shelf
section
theorem SQ{W:World}{B:Nat}{t:TypeId}{c d u0 u1:Value}(x0 x1 a b:Value)(h:Jp W B t c d)(k:Jp W (B+1) t u0 u1):
 Jp ((((W.setCell ⟨B,0,none⟩ x0).setCell ⟨B,1,none⟩ x1).setCell ⟨B+1,0,none⟩ a).setCell ⟨B+1,1,none⟩ b).drew B t x0 x1/\Jp ((((W.setCell ⟨B,0,none⟩ x0).setCell ⟨B,1,none⟩ x1).setCell ⟨B+1,0,none⟩ a).setCell ⟨B+1,1,none⟩ b).drew (B+1) t a b:=
 ⟨((((h.set0 x0).set1 x1).far Z a).far Z b).drew,((((k.far Z x0).far Z x1).set0 a).set1 b).drew⟩
theorem bU(N U la z ca:Nat)(b:Option Addr)(lb cb x y d s H L:Nat)(w:World)(h1:(la:Int)-1=z)(aw:N<w.heap.size)
(ka:w.cell? ⟨N,U+z,none⟩=some (C B (d:Nat)))(ax:d<DN)(hs:s<=63)(HS:Hid ((64:Int)-(Lib.bitLen d:Int)=(s:Int)))(bk:la<=1099511627776)(bi:z<la)
(ai:Hid (∀V:World,Bl w V->Calls Tryz.prog 201 #[D (some ⟨N,U,none⟩) la ca,C .i64 (la:Nat),C B (s:Nat)] V λe o=>e=.returned (C B (H:Nat))/\Bl V o))
(aj:Hid (∀V:World,Bl w V->Calls Tryz.prog 201 #[D b lb cb,C .i64 (la:Nat),C B (s:Nat)] V λe o=>e=.returned (C B (L:Nat))/\Bl V o))
(I:H<DN)(aq:L<=H)(ap:Hid (∀sg h l a nb i c,Hc H L sg h l a nb i c->c<=l->nb+c<=h-l->IR x y a nb i c)):
 Calls Tryz.prog 174 #[D (some ⟨N,U,none⟩) la ca,D b lb cb] w λe o=>∃g pb a nb:Nat,e=.returned (.tuple #[.agg #[C B (g:Nat),C B (pb:Nat)],.agg #[C B (a:Nat),C B (nb:Nat)]])/\(g<DN/\pb<DN/\a<DN/\nb<DN)/\(pb=0\/IR x y g pb a nb)/\Bl w o:=by
 have i1:IntKind.i64.wrap ((la:Int)-1)=(z:Int):=by rw[h1];exact BT _ O
 have i3:IntKind.i64.wrap (z:Int)=(z:Int):=BT _ O;have ce:IntKind.u64.wrap (s:Int)=(s:Int):=Br _ O;obtain⟨W0,Q⟩:=ex ((w.alloc (E #[C B 0,C B 0] 202)).alloc (E #[C B 0,C B 0] 202));have Qk:Bl w W0:=by rw[<-Q];exact(Ba w _).alloc Z _
 have b4:Jp W0 w.heap.size 202 (C B 0) (C B 0):=by rw[<-Q];exact(Jp.new w _ _ _).alloc _
 have b5:Jp W0 (w.heap.size+1) 202 (C B 0) (C B 0):=by
  have h:=Jp.new (w.alloc (E #[C B 0,C B 0] 202)) 202 (C B 0) (C B 0);rw[Ax,Q]at h;exact h
 have Qv:=(Qk.cell (p:=⟨N,U+z,none⟩) aw).trans ka;have Qn:=Y Q;have Qm:=Y (show ∀V:World,Calls Tryz.prog 200 #[C B (d:Nat)] V λe o=>e=.returned (C .i64 (s:Nat))/\o=V from λV=>by
  have h:=Tryz.bits_LeadingZeros64 (d:Nat) V O (by unfold DN at ax;omega);rw[CI,HS.o]at h;exact h)
 clear Q ka HS;go_enter Tryz.func174,Tryz.ntmps174
 go_upto_region 1 with fail
 try rw[Qn.o]
 go_upto_region 2 with(go_at_call 200;refine(Qm.o _).mono ?_;rintro e o ⟨rfl,e1⟩;have e2:=e1.symm;subst e2;clear e1)
 have hq:Bl w W0:=Qk;go_upto_region 3 with(first
  |(go_at_call 201;refine(ai.o _ hq).mono ?_;clear ai;rintro e w1 ⟨rfl,ae⟩;have hq:=Bt hq ae)
  |(go_at_call 201;refine(aj.o _ hq).mono ?_;clear aj;rintro e m ⟨rfl,af⟩;have hq:=Bt hq af))
 go_wp2_with fail
 obtain⟨G,n⟩:=ex (((m.alloc (E #[C B 0,C B 0] 202)).alloc (E #[C B 1,C B 0] 202)).alloc (E #[C B 0,C B 1] 202));have Qp:Bl w G:=by rw[<-n];exact((hq.alloc hq.size _).alloc (by have:=hq.size;simp;omega) _).alloc (by have:=hq.size;simp;omega) _
 have A:Jp G m.heap.size 202 (C B (0:Nat)) (C B (0:Nat)):=by rw[<-n];exact((Jp.new m _ _ _).alloc _).alloc _
 have t:Jp G (m.heap.size+1) 202 (C B (1:Nat)) (C B (0:Nat)):=by
  have h:=(Jp.new (m.alloc (E #[C B 0,C B 0] 202)) 202 (C B 1) (C B 0)).alloc (E #[C B 0,C B 1] 202);rw[Ax,n]at h;exact h
 have u:Jp G (m.heap.size+1+1) 202 (C B (0:Nat)) (C B (1:Nat)):=by
  have h:=Jp.new ((m.alloc (E #[C B 0,C B 0] 202)).alloc (E #[C B 1,C B 0] 202)) 202 (C B 0) (C B 1);rw[Ax,Ax,n]at h;exact h
 have T:Bl W0 m:=Bt ae af;have j:Jp G w.heap.size 202 (C B 0) (C B 0):=by rw[<-n];exact(((b4.below T).alloc _).alloc _).alloc _
 have k:Jp G (w.heap.size+1) 202 (C B 0) (C B 0):=by rw[<-n];exact(((b5.below T).alloc _).alloc _).alloc _
 have Qw:w.heap.size+1<m.heap.size:=by have:=(b5.below T).lt;exact this
 rw[n];obtain⟨B9,ak⟩:=ex (m.heap.size);rw[ak]at A t u Qw ⊢;clear n T b4 b5 ae af hq Qk ak Qv Qm Qn;go_loopw [7,8] (λhv lv wr=>∃h l g pb a nb i c:Nat,hv=C B (h:Nat)/\lv=C B (l:Nat)/\Hid (∃sg,Hc H L sg h l a nb i c)/\Hid (pb=0\/IR x y g pb a nb)/\(h<DN/\g<DN/\pb<DN/\a<DN/\nb<DN/\i<DN/\c<DN)/\
  Jp wr B9 202 (C B (g:Nat)) (C B (pb:Nat))/\Jp wr (B9+1) 202 (C B (a:Nat)) (C B (nb:Nat))/\Jp wr (B9+1+1) 202 (C B (i:Nat)) (C B (c:Nat))/\Jp wr w.heap.size 202 (C B 0) (C B 0)/\Jp wr (w.heap.size+1) 202 (C B 0) (C B 0)/\Bl w wr)
  (λ_ lv _=>(intOf lv).toNat)
 case atStart=>exact⟨H,L,0,0,1,0,0,1,rfl,rfl,⟨1,Hc.start aq⟩,Or.inl rfl,⟨I,by unfold DN;omega,by unfold DN;omega,by unfold DN;omega,by unfold DN;omega,by unfold DN;omega,by unfold DN;omega⟩,A,t,u,j,k,Qp⟩
 case round=>
  clear A t u j k Qp;obtain⟨h,l,g,pb,a,nb,i,c,rfl,rfl,ah,X,⟨z1,z2,z3,z4,z5,z6,z7⟩,A,t,u,j,k,hB⟩:=hrel;obtain⟨sg,hle⟩:=ah.o;have bl:l<=h:=hle.2.2.2.2.2.2.2;have bu:1<=c:=hle.2.2.2.2.2.2.1;obtain⟨co,ct⟩:=A.cp;obtain⟨ci,cj⟩:=t.cp;obtain⟨ck,cn⟩:=u.cp;by_cases c1:c<=l
  . obtain⟨y1,y2⟩:=hle.small O;obtain⟨e,he⟩:∃e:Nat,(h:Int)-(l:Int)=(e:Int):=⟨h-l,O⟩;obtain⟨f,hf⟩:∃f:Nat,(nb:Int)+(c:Int)=(f:Int):=⟨nb+c,O⟩;have we:IntKind.u64.wrap (e:Int)=(e:Int):=Br _ (by unfold DN at z1;omega);have wf:IntKind.u64.wrap (f:Int)=(f:Int):=Br _ (by unfold DN at I;omega);by_cases c2:f<=e
    . have Qi:=Y (ap.o _ _ _ _ _ _ _ hle c1 O);have M:=hle.step (show 1<=l by omega);have F:=Y M;obtain⟨q,hq⟩:=ex (h/l);obtain⟨r,W⟩:=ex (h%l);rw[hq,W]at M F;have bt:r<l:=by rw[<-W];exact Ci _ O
      have bn:(h:Int)/(l:Int)=(q:Int):=by rw[<-hq];exact(FD h l).symm
      have Uc:(h:Int)%(l:Int)=(r:Int):=by rw[<-W];exact(Int.natCast_emod h l).symm
      have Ql:a+q*i<=L:=by
       have h1:=M.2.2.1;have h2:=Co (a+q*i) (show 0<l by omega);omega
      have Qo:nb+q*c<=H:=by
       have h1:=M.2.1;have h2:=Co (nb+q*c) (show 0<l by omega);omega
      obtain⟨P,hP⟩:=ex (q*i);obtain⟨K,ad⟩:=ex (q*c);rw[hP]at Ql F;rw[ad]at Qo F;obtain⟨R,am⟩:=ex (a+P);obtain⟨S,an⟩:=ex (nb+K);rw[am]at Ql F;rw[an]at Qo F;have p1:(q:Int)*(i:Int)=(P:Int):=by rw[<-hP];exact(Fo q i).symm
      have p2:(q:Int)*(c:Int)=(K:Int):=by rw[<-ad];exact(Fo q c).symm
      have p3:(a:Int)+(P:Int)=(R:Int):=O
      have p4:(nb:Int)+(K:Int)=(S:Int):=O
      have v1:IntKind.u64.wrap (P:Int)=(P:Int):=Br _ (by unfold DN at I;omega);have v2:IntKind.u64.wrap (K:Int)=(K:Int):=Br _ (by unfold DN at I;omega);have v3:IntKind.u64.wrap (R:Int)=(R:Int):=Br _ (by unfold DN at I;omega);have v4:IntKind.u64.wrap (S:Int)=(S:Int):=Br _ (by unfold DN at I;omega);have bm:q<=h:=by rw[<-hq];exact FJ _ _
      have v5:IntKind.u64.wrap (q:Int)=(q:Int):=Br _ (by unfold DN at z1;omega);have bj:¬(l=0):=O
      obtain⟨bg,bh⟩:=A.fp;obtain⟨ay,az⟩:=t.fp;obtain⟨bc,bf⟩:=u.fp;clear M hle hP ad am an hq W y1 y2 ah X;go_upto_region 6 with fail
      go_quiet (fail)
      go_wp2_with fail
      go_region
      go_wp2_with fail
      have g9:Jp (wr.drewN (nq+1)) B9 202 (C B (g:Nat)) (C B (pb:Nat)):=A;have Ub:Jp (wr.drewN (nq+1)) (B9+1) 202 (C B (a:Nat)) (C B (nb:Nat)):=t;have Qs:Jp (wr.drewN (nq+1)) (B9+1+1) 202 (C B (i:Nat)) (C B (c:Nat)):=u;have g4:Jp (wr.drewN (nq+1)) w.heap.size 202 (C B 0) (C B 0):=j;have g5:Jp (wr.drewN (nq+1)) (w.heap.size+1) 202 (C B 0) (C B 0):=k;have gB:Bl w (wr.drewN (nq+1)):=Lv hB _;rw[Uc];refine⟨⟨l,r,a,nb,i,c,R,S,rfl,rfl,⟨_,F.o⟩,Or.inr Qi.o,⟨O,z4,z5,z6,z7,O,O⟩,?_,?_,?_,?_,?_,?_⟩,by simp[intOf];omega⟩
      . exact(((((g9.set0 _).set1 _).far Z _).far Z _).far Di _).far Di _
      . exact(((((Ub.far Z _).far Z _).set0 _).set1 _).far Z _).far Z _
      . exact(((((Qs.far Di _).far Di _).far Z _).far Z _).set0 _).set1 _
      . exact(((((g4.far Di _).far Di _).far Di _).far Di _).far Di _).far Di _
      . exact(((((g5.far Di _).far Di _).far Di _).far Di _).far Di _).far Di _
      . exact(((((gB.setCell (p:=⟨_,0,none⟩) Di _).setCell (p:=⟨_,1,none⟩) Di _).setCell (p:=⟨_,0,none⟩) Di _).setCell (p:=⟨_,1,none⟩) Di _).setCell (p:=⟨_,0,none⟩) Di _).setCell (p:=⟨_,1,none⟩) Di _
    . clear hle;obtain⟨Qx,Qq⟩:=j.cp;obtain⟨Qy,Qu⟩:=k.cp;obtain⟨Qr,Qt⟩:=j.fp;obtain⟨Qz,Ua⟩:=k.fp;go_wp2_with fail
      go_region
      go_wp2_with fail
      obtain⟨q4,q5⟩:=SQ (C B (g:Nat)) (C B (pb:Nat)) (C B (a:Nat)) (C B (nb:Nat)) j k;obtain⟨Qh,Qj⟩:=q4.cp;obtain⟨Qg,Qf⟩:=q5.cp;exact A0 (v:=.tuple #[.agg #[C B (g:Nat),C B (pb:Nat)],.agg #[C B (a:Nat),C B (nb:Nat)]]) (by simp[results,Tryz.results174,go_sem,Qh,Qj,Qg,Qf]) rfl ⟨g,pb,a,nb,rfl,⟨z2,z3,z4,z5⟩,X.o,((((hB.setCell (p:=⟨_,0,none⟩) Di _).setCell (p:=⟨_,1,none⟩) Di _).setCell (p:=⟨_,0,none⟩) Di _).setCell (p:=⟨_,1,none⟩) Di _).drew⟩
  . clear hle;obtain⟨Qx,Qq⟩:=j.cp;obtain⟨Qy,Qu⟩:=k.cp;obtain⟨Qr,Qt⟩:=j.fp;obtain⟨Qz,Ua⟩:=k.fp;go_wp2_with fail
    go_region
    go_wp2_with fail
    obtain⟨q4,q5⟩:=SQ (C B (g:Nat)) (C B (pb:Nat)) (C B (a:Nat)) (C B (nb:Nat)) j k;obtain⟨Qh,Qj⟩:=q4.cp;obtain⟨Qg,Qf⟩:=q5.cp;exact A0 (v:=.tuple #[.agg #[C B (g:Nat),C B (pb:Nat)],.agg #[C B (a:Nat),C B (nb:Nat)]]) (by simp[results,Tryz.results174,go_sem,Qh,Qj,Qg,Qf]) rfl ⟨g,pb,a,nb,rfl,⟨z2,z3,z4,z5⟩,X.o,((((hB.setCell (p:=⟨_,0,none⟩) Di _).setCell (p:=⟨_,1,none⟩) Di _).setCell (p:=⟨_,0,none⟩) Di _).setCell (p:=⟨_,1,none⟩) Di _).drew⟩
end
theorem bV(a:Option Addr)(la ca:Nat)(b:Option Addr)(lb cb x y:Nat)(w:World)(K:Row B w (D a la ca) (Je DN x))(L:Row B w (D b lb cb) (Je DN y))(H:y<=x)(an:2<=lb):
 Calls Tryz.prog 174 #[D a la ca,D b lb cb] w λe w'=>∃n pb i nb:Nat,e=.returned (.tuple #[.agg #[C B (n:Nat),C B (pb:Nat)],.agg #[C B (i:Nat),C B (nb:Nat)]])/\(n<DN/\pb<DN/\i<DN/\nb<DN)/\(pb=0\/IR x y n pb i nb)/\Bl w w':=by
 obtain⟨af,ai,ap,m,ae⟩:=Jw K;obtain⟨ah,aj,aq,am,ak⟩:=Jw L;have N:lb<=la:=by rw[af,ah];exact XG H
 obtain⟨k,A⟩:∃k,la=k+2:=⟨la-2,O⟩;obtain⟨r,t,rfl,ad,I⟩:=ae (k+1) O;have c:=Ju Jg x;have F:(Je DN x).length=k+2:=O
 have z:(Je DN x)[k+1]?.getD 0≠0:=by
  intro e;have W:=Jt DN (Je DN x) (k+1);rw[Ac O,e,CF,Ct,Jq Jg]at W;have h4:=YV c (k+1);have v:=XC Jg F O;rw[show k+2-1=k+1 from rfl]at v;omega
 have f:(Je DN x)[k+1]?.getD 0<DN:=c.getD uo _;obtain⟨d,g⟩:=ex ((Je DN x)[k+1]?.getD 0);rw[g]at I z f;obtain⟨P,Q,u⟩:=bitLen_spec d z (by rw[<-Iq];exact f);have hL:Lib.bitLen d<=64:=by
  rcases AQ 64 (Lib.bitLen d)with h|h
  . exfalso
    have v:2^64<=2^(Lib.bitLen d-1):=Aw O O;rw[Iq]at f;omega
  . exact h
 obtain⟨s,G⟩:∃s,s=64-Lib.bitLen d:=⟨_,rfl⟩;obtain⟨o,v2⟩:=SI (s:=s) c F g Q u P hL G;rw[Jq Jg]at o v2;have M:d<2^(64-s):=by rw[G,show 64-(64-Lib.bitLen d)=Lib.bitLen d from by omega];exact u
 have j:0<DN^k*2^(64-s):=DM (C6 uo) (Cm _);have hH:Gt x k s<DN:=by
  unfold Gt;rw[Ca j];have hp:=Ls (s:=s) O;have R:DN*(DN^k*2^(64-s))*2^s=DN^(k+2):=by
   rw[AA,AA,At (2^(64-s)),hp,AZ,AZ,At DN,AA]
  rw[<-R]at o;exact Nat.lt_of_mul_lt_mul_right o
 have p:=λ(V:World) (h:Bl w V)=>SP (some ⟨r,t,none⟩) la ca (Je DN x) k (k+1) la s V (Row.below K h) c A O O O (Aa _) m (λ_=>by rw[g];exact M);have q:=λ(V:World) (h:Bl w V)=>SP b lb cb (Je DN y) k (k+1) la s V (Row.below L h) (Ju Jg y) A O O O N m (λe=>by
  have X:=Jt DN (Je DN y) (k+1);rw[Ac O,Jq Jg]at X;have h7:=Jt DN (Je DN x) (k+1);rw[Ac O,Jq Jg,g]at h7;have h8:=YV c (k+1);have h9:(Je DN y)[k+1]?.getD 0<=d:=by
   rcases AQ d ((Je DN y)[k+1]?.getD 0)with h|h
   . exfalso
     have:=Ap (DN^(k+1)) (show d+1<=(Je DN y)[k+1]?.getD 0 from h);rw[AB,FC]at this;omega
   . exact h
  omega)
 rw[Jq Jg]at p q;refine bU r t la (k+1) ca b lb cb x y d s (Gt x k s) (Gt y k s) w O ad I f O (show _=_ by omega) m O p q hH (Nat.div_le_div_right H) ?_;intro sg h l i nb c xb hle T U;refine hle.out (S:=DN^k*2^(64-s)) (al:=x%(DN^k*2^(64-s))) (be:=y%(DN^k*2^(64-s))) ?_ ?_ (Ci _ j) (Ci _ j) T U
 . unfold Gt;rw[At];exact(Cl x _).symm
 . unfold Gt;rw[At];exact(Cl y _).symm
def Ir(W:World)(p:Addr):Nat:=match W.cell? p with|some (.int _ z)=>z.toNat|_=>0
def rowVal(W:World):Value->Nat
 |D (some p) l _=>val DN ((List.range l).map λj=>Ir W ⟨p.block,p.off+j,none⟩)
 |_=>0
theorem UN.rowVal{W:World}{a:Option Addr}{l c n:Nat}(h:UN W (D a l c) n):rowVal W (D a l c)=n:=by
 obtain⟨f,_,_,_,g⟩:=Jw h;rcases A9 l with d|d
 . subst d;have m:n=0:=(JR Jg).1 (Ao f.symm);subst m;cases a<;>rfl
 . obtain⟨b,off,rfl,_,_⟩:=g 0 d;show val DN ((List.range l).map λj=>Ir W ⟨b,off+j,none⟩)=n;have e:(List.range l).map (λj=>Ir W ⟨b,off+j,none⟩)=Je DN n:=by
    refine List.ext_getElem (by rw[Cs,List.length_range];exact f) λj p i=>?_;obtain⟨o,q,e,_,k⟩:=g j O;cases e;rw[List.getElem_map,List.getElem_range,Ir,k,Af i];rfl
   rw[e,Jq Jg]
theorem bW(a:Option Addr)(la ca:Nat)(b:Option Addr)(lb cb x y:Nat)(w:World)(ra:Row B w (D a la ca) (Je DN x))(rb:Row B w (D b lb cb) (Je DN y))(ap:la<1000000000000)(aq:lb<1000000000000):
 Calls Tryz.prog 134 #[D a la ca,D b lb cb] w λe o=>∃u,e=.returned u/\UN o u (Nat.gcd x y)/\Bl w o:=by
 have N:=Y (Ov _ _ (Je DN x) (Je DN y) w ra rb (Ju Jg x) (Ju Jg y) (Xb Jg x) (Xb Jg y));rw[Jq Jg,Jq Jg]at N;obtain⟨cm,ad⟩:=ex (Xz x y:Int);rw[ad]at N;obtain⟨Qj,Qm,Qh⟩:=Df ad ra rb;clear ad ra rb;go_enter Tryz.func134,Tryz.ntmps134
 go_upto_if 14 with(go_at_call 126;refine N.o.mono ?_;rintro e w1 ⟨rfl,A⟩)
 go_cut [0,1] λM I wr=>∃(g:Option Addr) (f c0 X:Nat) (i:Option Addr) (l1 c1 d:Nat),M=D g f c0/\I=D i l1 c1/\Hid (UN wr (D g f c0) X)/\Hid (UN wr (D i l1 c1) d)/\Hid (d<=X/\Nat.gcd X d=Nat.gcd x y)/\f<1000000000000/\Bl w wr
 case first=>
  by_cases Qw:cm<0
  . have Qx:x<y:=by
     have h:=Qj.o;unfold Xz at h;split at h
     . assumption
     . split at h<;>omega
    go_wp2_with fail
    go_meet
    case rel=>exact⟨_,_,_,y,_,_,_,x,rfl,rfl,Y (UN.below Qh.o A),Y (UN.below Qm.o A),Y ⟨O,C4 _ _⟩,aq,A⟩
  . have Qx:¬(x<y):=λh=>by
     have q:=Qj.o;rw[Hr h]at q;omega
    go_wp2_with fail
    go_meet
    case rel=>exact⟨_,_,_,x,_,_,_,y,rfl,rfl,Y (UN.below Qm.o A),Y (UN.below Qh.o A),Y ⟨O,rfl⟩,ap,A⟩
 case rest=>
  obtain⟨g,f,c0,X,i,l1,c1,d,rfl,rfl,q,Q,K,h4,h5⟩:=hcut;clear N Qj Qm Qh A;go_wp2_with fail
  go_loopw [0,1] (λM I wr=>∃(g:Option Addr) (f c0 X:Nat) (i:Option Addr) (l1 c1 d:Nat),M=D g f c0/\I=D i l1 c1/\Hid (UN wr (D g f c0) X)/\Hid (UN wr (D i l1 c1) d)/\Hid (d<=X/\Nat.gcd X d=Nat.gcd x y)/\f<1000000000000/\Bl w wr)
   (λM I wr=>rowVal wr M+rowVal wr I)
  case atStart=>exact⟨g,f,c0,X,i,l1,c1,d,rfl,rfl,q,Q,K,h4,h5⟩
  case round=>
   clear q Q K h4 h5;obtain⟨g,f,c0,X,i,l1,c1,d,rfl,rfl,r,m,t,aw,R⟩:=hrel;have ay:l1<=f:=by rw[UN.len r.o,UN.len m.o];exact XG t.o.1
   by_cases ax:1<l1
   . have Qw:(1:Int)<(l1:Int):=O
     have W:d≠0:=λe=>by
      have h:=UN.len m.o;rw[e,JH]at h;simp at h;omega
     have Qu:=Y (bV g f c0 i l1 c1 X d _ r.o m.o t.o.1 O);go_upto_region 5 with(go_at_call 174;refine Qu.o.mono ?_;rintro e j ⟨s,pb,G,nb,rfl,⟨b1,b2,b3,b4⟩,af,n⟩)
     obtain⟨k,L⟩:=ex ((j.alloc (E #[C B (s:Nat),C B (pb:Nat)] 202)).alloc (E #[C B (G:Nat),C B (nb:Nat)] 202));have Ql:Bl w j:=Bt R n;have H:Bl wr k:=by rw[<-L];exact(n.alloc n.size _).alloc (by have:=n.size;simp;omega) _
     have Qd:Bl w k:=Bt R H;have m5:Jp k j.heap.size 202 (C B (s:Nat)) (C B (pb:Nat)):=by rw[<-L];exact(Jp.new j _ _ _).alloc _
     have m6:Jp k (j.heap.size+1) 202 (C B (G:Nat)) (C B (nb:Nat)):=by
      have h:=Jp.new (j.alloc (E #[C B (s:Nat),C B (pb:Nat)] 202)) 202 (C B (G:Nat)) (C B (nb:Nat));rw[Ax,L]at h;exact h
     have Qn:=UN.below r.o H;have P:=UN.below m.o H;rw[L];clear L Qu n Ql;obtain⟨k0,k1⟩:=m5.cp;obtain⟨k2,k3⟩:=m6.cp;by_cases T:pb=0
     . subst T;have Qk:=Y (PB g f c0 i l1 c1 X d k Qn P W O);clear af;go_wp2_with(go_at_call 176;refine Qk.o.mono ?_;rintro e w4 ⟨u,v,rfl,hu,F,S⟩;obtain⟨ua,uc,rfl⟩:=UN.form hu;obtain⟨va,vc,rfl⟩:=UN.form F)
       have Qi:=Ci X (show d>0 by omega);have Qq:=UN.below P S;refine⟨⟨i,l1,c1,d,va,_,vc,X%d,rfl,rfl,Y Qq,Y F,Y ⟨O,by rw[<-t.o.2,C4 d,<-Nat.gcd_rec,C4]⟩,O,Bt Qd S⟩,?_⟩;rw[UN.rowVal Qq,UN.rowVal F,UN.rowVal r.o,UN.rowVal m.o];have:=t.o.1;omega
     . have z:=af.resolve_left T;have Qs:nb*d≠0:=by
        have:=z.2.2.2;exact F4 O W
       obtain⟨Qr,Qp,Qa,Qo,Qg⟩:=He (λ(V:World) (h:Bl k V)=>SO s pb g f c0 i l1 c1 X d V (UN.below Qn h) (UN.below P h) b1 b2 O O (F4 T W)) (λ(V:World) (h:Bl k V)=>SO G nb g f c0 i l1 c1 X d V (UN.below Qn h) (UN.below P h) b3 b4 O O Qs) (z.less T O) z.gcd z.2.2.1;have Qf:=Y (show XD (s*X) (pb*d)<=X by
        have e1:=z.1;have e2:=Fk (XD (s*X) (pb*d)) z.2.2.2;omega)
       clear z af Qs;generalize XD (s*X) (pb*d)=D1 at *;generalize XD (G*X) (nb*d)=D2 at *;have hq:Bl k k.drew:=(BA _ k).drew;go_upto_region 6 with fail
       go_region_held3 (λo=>o.cell? ⟨j.heap.size,0,none⟩=some (C B (s:Nat))/\o.cell? ⟨j.heap.size,1,none⟩=some (C B (pb:Nat))/\o.cell? ⟨j.heap.size+1,0,none⟩=some (C B (G:Nat))/\o.cell? ⟨j.heap.size+1,1,none⟩=some (C B (nb:Nat))) (exact⟨k0,k1,k2,k3⟩)
        (first
         |(go_at_call 175;refine(Qr.o _ hq).mono ?_;clear Qr;rintro e w4 ⟨u4,rfl,ak,S⟩;obtain⟨xa,xc,rfl⟩:=UN.form ak;have hq:=Bt hq S;obtain⟨k0,k1⟩:=(m5.below hq).cp;obtain⟨k2,k3⟩:=(m6.below hq).cp)
         |(go_at_call 175;refine(Qp.o _ hq).mono ?_;clear Qp;rintro e w5 ⟨u5,rfl,ah,ai⟩;obtain⟨ya,yc,rfl⟩:=UN.form ah;have hq:=Bt hq ai;obtain⟨k0,k1⟩:=(m5.below hq).cp;obtain⟨k2,k3⟩:=(m6.below hq).cp))
       all_goals go_wp2_with fail
       have am:=UN.below ak ai;refine⟨⟨xa,_,xc,D1,ya,_,yc,D2,rfl,rfl,Y am,Y ah,Y ⟨F6 Qg.o,Qo.o.trans t.o.2⟩,?_,Bt Qd hq⟩,?_⟩
       . have q:=XG Qf.o;rw[<-UN.len r.o]at q;omega
       . rw[UN.rowVal am,UN.rowVal ah,UN.rowVal r.o,UN.rowVal m.o];exact Qa.o
   . rcases A9 l1 with h0|h0
     . subst h0;have Qt:d=0:=(JR Jg).1 (Ao (UN.len m.o).symm);have HC:=Y (Rt g f c0 _ wr r.o);have U:=Y (show X=Nat.gcd x y by rw[<-t.o.2,Qt,Nat.gcd_zero_right]);clear Qt;go_wp2_with(go_at_call 177;refine HC.o.mono ?_;rintro e j ⟨za,zc,rfl,hz,n⟩)
       go_ret;exact⟨_,rfl,by rw[<-U.o];exact hz,Bt R n⟩
     . obtain rfl:l1=1:=O
       obtain⟨ae,az,bc⟩:=PA (UN.len m.o).symm;obtain⟨bb,bo,rfl,an,kb⟩:=(Jw m.o).2.2.2.2 0 O;rw[ae]at kb;have Qy:wr.cell? ⟨bb,bo,none⟩=some (C B (d:Nat)):=kb;have Qk:=Y (PB g f c0 (some ⟨bb,bo,none⟩) 1 c1 X d wr r.o m.o O O);have Qi:=Ci X (show d>0 by omega);have U:=Y (show Nat.gcd d (X%d)=Nat.gcd x y by rw[<-t.o.2,C4 d,<-Nat.gcd_rec,C4]);have Qv:=Y (show ∀(V:World) (v:Option Addr) (l c:Nat),UN V (D v l c) (X%d)->Calls Tryz.prog 178 #[D (some ⟨V.heap.size,0,none⟩) 1 1,D v l c] (V.alloc (E #[C B (d:Nat)] 115)) λe o=>∃u,e=.returned u/\UN o u (Nat.gcd x y)/\Below (V.alloc (E #[C B (d:Nat)] 115)).heap.size (V.alloc (E #[C B (d:Nat)] 115)) o from λV v l c h=>by
        have q:=(DV.made (xs:=[d]) (BE V (E #[C B (d:Nat)] 115))).row 0 1 1 Z O O O;have Q:Row B (V.alloc (E #[C B (d:Nat)] 115)) (D (some ⟨V.heap.size,0,none⟩) 1 1) (Je DN d):=by rw[ae];exact q
        have K:=bO (some ⟨V.heap.size,0,none⟩) 1 v l c d (X%d) _ Q (UN.below h (Ba V _)) O;rw[U.o]at K;exact K)
       clear kb ae;go_upto_region 12 with(go_at_call 176;refine Qk.o.mono ?_;rintro e j ⟨u,v,rfl,hu,F,n⟩;obtain⟨ua,uc,rfl⟩:=UN.form hu;obtain⟨va,vc,rfl⟩:=UN.form F)
       have bf:=(n.cell (p:=⟨bb,bo,none⟩) an).trans Qy;go_wp2_with(go_at_call 178;refine(Qv.o _ _ _ _ F).mono ?_;rintro e w3 ⟨u3,rfl,aj,H⟩;obtain⟨ta,tc,rfl⟩:=UN.form aj)
       go_ret;have Ql:Bl w j:=Bt R n;exact⟨_,rfl,aj,SM Ql H⟩

