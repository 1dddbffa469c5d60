import Derived.Test.YtakpoihdghihmaaGreatDoorQ21
import Derived.Deep.RegionHeld3
import Derived.BigRegion
open Go.IntKind renaming u64->B
open Go.Value renaming int->C,slice->D
open Go.Obj renaming cells->E
set_option maxRecDepth 100000
set_option maxHeartbeats 16000000
namespace Go.Proofs.YtakpoihdghihmaaGreatDoor
open Go.RowKit Go.Shelf
section
attribute [local go_sem] Oper.semAt_some
theorem PA{W:World}{B:Nat}{t:TypeId}{c d u0 u1:Value}(x0 x1 a b:Value)(h:Jn W B t c d)(k:Jn W (B+1) t u0 u1):
 Jn ((((W.setCell ⟨B,0,none⟩ x0).setCell ⟨B,1,none⟩ x1).setCell ⟨B+1,0,none⟩ a).setCell ⟨B+1,1,none⟩ b).drew B t x0 x1/\Jn ((((W.setCell ⟨B,0,none⟩ x0).setCell ⟨B,1,none⟩ x1).setCell ⟨B+1,0,none⟩ a).setCell ⟨B+1,1,none⟩ b).drew (B+1) t a b:=
 ⟨((((h.set0 x0).set1 x1).far Z a).far Z b).drew,((((k.far Z x0).far Z x1).set0 a).set1 b).drew⟩
theorem U9(N U la z ca:Nat)(b:Option Addr)(lb cb x y d s H L:Nat)(w:World)(h1:(la:Int)-1=z)(aw:N<w.heap.size)
(ka:w.cell? ⟨N,U+z,none⟩=some (C B (d:Nat)))(ax:d<O)(hs:s<=63)(HS:Hid ((64:Int)-(Lib.bitLen d:Int)=(s:Int)))(bj:la<=1099511627776)(bh:z<la)
(ai:Hid (∀V:World,Bl w V->Calls Tryz.prog 201 #[D (some ⟨N,U,none⟩) la ca,C .i64 (la:Nat),C B (s:Nat)] V λe o=>e=.returned (C B (H:Nat))/\Bl V o))
(aj:Hid (∀V:World,Bl w V->Calls Tryz.prog 201 #[D b lb cb,C .i64 (la:Nat),C B (s:Nat)] V λe o=>e=.returned (C B (L:Nat))/\Bl V o))
(I:H<O)(aq:L<=H)(ap:Hid (∀sg h l a nb i c,FU H L sg h l a nb i c->c<=l->nb+c<=h-l->GO x y a nb i c)):
 Calls Tryz.prog 174 #[D (some ⟨N,U,none⟩) la ca,D b lb cb] w λe o=>∃g pb a nb:Nat,e=.returned (.tuple #[.agg #[C B (g:Nat),C B (pb:Nat)],.agg #[C B (a:Nat),C B (nb:Nat)]])/\(g<O/\pb<O/\a<O/\nb<O)/\(pb=0\/GO x y g pb a nb)/\Bl w o:=by
 have i1:IntKind.i64.wrap ((la:Int)-1)=(z:Int):=by rw[h1];exact Bf _ Y
 have i3:IntKind.i64.wrap (z:Int)=(z:Int):=Bf _ Y;have bu:IntKind.u64.wrap (s:Int)=(s:Int):=Br _ Y;obtain⟨W0,Q⟩:=ex ((w.alloc (E #[C B 0,C B 0] 202)).alloc (E #[C B 0,C B 0] 202));have Qk:Bl w W0:=by rw[<-Q];exact(Ba w _).alloc Z _
 have b4:Jn W0 w.heap.size 202 (C B 0) (C B 0):=by rw[<-Q];exact(Jn.new w _ _ _).alloc _
 have b5:Jn W0 (w.heap.size+1) 202 (C B 0) (C B 0):=by
  have h:=Jn.new (w.alloc (E #[C B 0,C B 0] 202)) 202 (C B 0) (C B 0);rw[Ax,Q]at h;exact h
 have Qv:=(Qk.cell (p:=⟨N,U+z,none⟩) aw).trans ka;have Qn:=Ja Q;have Qm:=Ja (show ∀V:World,Calls Tryz.prog 200 #[C B (d:Nat)] V λe o=>e=.returned (C .i64 (s:Nat))/\o=V from λV=>by
  have h:=Tryz.bits_LeadingZeros64 (d:Nat) V Y (by unfold O at ax;omega);rw[CS,HS.o]at h;exact h)
 clear Q ka HS;go_enter Tryz.func174,Tryz.ntmps174
 go_upto_region 1 with fail
 try rw[Qn.o]
 go_upto_region 2 with(go_at_call 200;refine(Qm.o _).mono ?_;rintro e o ⟨rfl,e1⟩;have e2:=e1.symm;subst e2;clear e1)
 have hq:Bl w W0:=Qk;go_upto_region 3 with(first
  |(go_at_call 201;refine(ai.o _ hq).mono ?_;clear ai;rintro e w1 ⟨rfl,ae⟩;have hq:=Bt hq ae)
  |(go_at_call 201;refine(aj.o _ hq).mono ?_;clear aj;rintro e m ⟨rfl,af⟩;have hq:=Bt hq af))
 go_wp2_with fail
 obtain⟨G,n⟩:=ex (((m.alloc (E #[C B 0,C B 0] 202)).alloc (E #[C B 1,C B 0] 202)).alloc (E #[C B 0,C B 1] 202));have Qp:Bl w G:=by rw[<-n];exact((hq.alloc hq.size _).alloc (by have:=hq.size;simp;omega) _).alloc (by have:=hq.size;simp;omega) _
 have A:Jn G m.heap.size 202 (C B (0:Nat)) (C B (0:Nat)):=by rw[<-n];exact((Jn.new m _ _ _).alloc _).alloc _
 have t:Jn G (m.heap.size+1) 202 (C B (1:Nat)) (C B (0:Nat)):=by
  have h:=(Jn.new (m.alloc (E #[C B 0,C B 0] 202)) 202 (C B 1) (C B 0)).alloc (E #[C B 0,C B 1] 202);rw[Ax,n]at h;exact h
 have u:Jn G (m.heap.size+1+1) 202 (C B (0:Nat)) (C B (1:Nat)):=by
  have h:=Jn.new ((m.alloc (E #[C B 0,C B 0] 202)).alloc (E #[C B 1,C B 0] 202)) 202 (C B 0) (C B 1);rw[Ax,Ax,n]at h;exact h
 have T:Bl W0 m:=Bt ae af;have j:Jn G w.heap.size 202 (C B 0) (C B 0):=by rw[<-n];exact(((b4.below T).alloc _).alloc _).alloc _
 have k:Jn G (w.heap.size+1) 202 (C B 0) (C B 0):=by rw[<-n];exact(((b5.below T).alloc _).alloc _).alloc _
 have Qw:w.heap.size+1<m.heap.size:=by have:=(b5.below T).lt;exact this
 rw[n];obtain⟨B9,ak⟩:=ex (m.heap.size);rw[ak]at A t u Qw ⊢;clear n T b4 b5 ae af hq Qk ak Qv Qm Qn;go_loopw [7,8] (λhv lv wr=>∃h l g pb a nb i c:Nat,hv=C B (h:Nat)/\lv=C B (l:Nat)/\Hid (∃sg,FU H L sg h l a nb i c)/\Hid (pb=0\/GO x y g pb a nb)/\(h<O/\g<O/\pb<O/\a<O/\nb<O/\i<O/\c<O)/\
  Jn wr B9 202 (C B (g:Nat)) (C B (pb:Nat))/\Jn wr (B9+1) 202 (C B (a:Nat)) (C B (nb:Nat))/\Jn wr (B9+1+1) 202 (C B (i:Nat)) (C B (c:Nat))/\Jn wr w.heap.size 202 (C B 0) (C B 0)/\Jn wr (w.heap.size+1) 202 (C B 0) (C B 0)/\Bl w wr)
  (λ_ lv _=>(intOf lv).toNat)
 case atStart=>exact⟨H,L,0,0,1,0,0,1,rfl,rfl,⟨1,FU.start aq⟩,Or.inl rfl,⟨I,by unfold O;omega,by unfold O;omega,by unfold O;omega,by unfold O;omega,by unfold O;omega,by unfold O;omega⟩,A,t,u,j,k,Qp⟩
 case round=>
  clear A t u j k Qp;obtain⟨h,l,g,pb,a,nb,i,c,rfl,rfl,ah,X,⟨z1,z2,z3,z4,z5,z6,z7⟩,A,t,u,j,k,hB⟩:=hrel;obtain⟨sg,hle⟩:=ah.o;have bk:l<=h:=hle.2.2.2.2.2.2.2;have bt:1<=c:=hle.2.2.2.2.2.2.1;obtain⟨ck,cl⟩:=A.cp;obtain⟨bz,ce⟩:=t.cp;obtain⟨ci,cj⟩:=u.cp;by_cases c1:c<=l
  . obtain⟨y1,y2⟩:=hle.small Y;obtain⟨e,he⟩:∃e:Nat,(h:Int)-(l:Int)=(e:Int):=⟨h-l,Y⟩;obtain⟨f,hf⟩:∃f:Nat,(nb:Int)+(c:Int)=(f:Int):=⟨nb+c,Y⟩;have we:IntKind.u64.wrap (e:Int)=(e:Int):=Br _ (by unfold O at z1;omega);have wf:IntKind.u64.wrap (f:Int)=(f:Int):=Br _ (by unfold O at I;omega);by_cases c2:f<=e
    . have Qi:=Ja (ap.o _ _ _ _ _ _ _ hle c1 Y);have M:=hle.step (show 1<=l by omega);have F:=Ja M;obtain⟨q,hq⟩:=ex (h/l);obtain⟨r,W⟩:=ex (h%l);rw[hq,W]at M F;have bn:r<l:=by rw[<-W];exact Cp _ Y
      have bm:(h:Int)/(l:Int)=(q:Int):=by rw[<-hq];exact(Fj h l).symm
      have Uc:(h:Int)%(l:Int)=(r:Int):=by rw[<-W];exact(Int.natCast_emod h l).symm
      have Ql:a+q*i<=L:=by
       have h1:=M.2.2.1;have h2:=Cf (a+q*i) (show 0<l by omega);omega
      have Qo:nb+q*c<=H:=by
       have h1:=M.2.1;have h2:=Cf (nb+q*c) (show 0<l by omega);omega
      obtain⟨P,hP⟩:=ex (q*i);obtain⟨K,ad⟩:=ex (q*c);rw[hP]at Ql F;rw[ad]at Qo F;obtain⟨R,am⟩:=ex (a+P);obtain⟨S,an⟩:=ex (nb+K);rw[am]at Ql F;rw[an]at Qo F;have p1:(q:Int)*(i:Int)=(P:Int):=by rw[<-hP];exact(Int.natCast_mul q i).symm
      have p2:(q:Int)*(c:Int)=(K:Int):=by rw[<-ad];exact(Int.natCast_mul q c).symm
      have p3:(a:Int)+(P:Int)=(R:Int):=Y
      have p4:(nb:Int)+(K:Int)=(S:Int):=Y
      have v1:IntKind.u64.wrap (P:Int)=(P:Int):=Br _ (by unfold O at I;omega);have v2:IntKind.u64.wrap (K:Int)=(K:Int):=Br _ (by unfold O at I;omega);have v3:IntKind.u64.wrap (R:Int)=(R:Int):=Br _ (by unfold O at I;omega);have v4:IntKind.u64.wrap (S:Int)=(S:Int):=Br _ (by unfold O at I;omega);have bl:q<=h:=by rw[<-hq];exact FD _ _
      have v5:IntKind.u64.wrap (q:Int)=(q:Int):=Br _ (by unfold O at z1;omega);have bi:¬(l=0):=Y
      obtain⟨bf,bg⟩:=A.fp;obtain⟨ay,az⟩:=t.fp;obtain⟨ba,bc⟩:=u.fp;clear M hle hP ad am an hq W y1 y2 ah X;go_upto_region 6 with fail
      go_quiet (fail)
      go_wp2_with fail
      go_region
      go_wp2_with fail
      have g9:Jn (wr.drewN (nq+1)) B9 202 (C B (g:Nat)) (C B (pb:Nat)):=A;have Ub:Jn (wr.drewN (nq+1)) (B9+1) 202 (C B (a:Nat)) (C B (nb:Nat)):=t;have Qs:Jn (wr.drewN (nq+1)) (B9+1+1) 202 (C B (i:Nat)) (C B (c:Nat)):=u;have g4:Jn (wr.drewN (nq+1)) w.heap.size 202 (C B 0) (C B 0):=j;have g5:Jn (wr.drewN (nq+1)) (w.heap.size+1) 202 (C B 0) (C B 0):=k;have gB:Bl w (wr.drewN (nq+1)):=Jx hB _;rw[Uc];refine⟨⟨l,r,a,nb,i,c,R,S,rfl,rfl,⟨_,F.o⟩,Or.inr Qi.o,⟨Y,z4,z5,z6,z7,Y,Y⟩,?_,?_,?_,?_,?_,?_⟩,by simp[intOf];omega⟩
      . exact(((((g9.set0 _).set1 _).far Z _).far Z _).far Dc _).far Dc _
      . exact(((((Ub.far Z _).far Z _).set0 _).set1 _).far Z _).far Z _
      . exact(((((Qs.far Dc _).far Dc _).far Z _).far Z _).set0 _).set1 _
      . exact(((((g4.far Dc _).far Dc _).far Dc _).far Dc _).far Dc _).far Dc _
      . exact(((((g5.far Dc _).far Dc _).far Dc _).far Dc _).far Dc _).far Dc _
      . exact(((((gB.setCell (p:=⟨_,0,none⟩) Dc _).setCell (p:=⟨_,1,none⟩) Dc _).setCell (p:=⟨_,0,none⟩) Dc _).setCell (p:=⟨_,1,none⟩) Dc _).setCell (p:=⟨_,0,none⟩) Dc _).setCell (p:=⟨_,1,none⟩) Dc _
    . clear hle;obtain⟨Qx,Qq⟩:=j.cp;obtain⟨Qy,Qu⟩:=k.cp;obtain⟨Qr,Qt⟩:=j.fp;obtain⟨Qz,Ua⟩:=k.fp;go_wp2_with fail
      go_region
      go_wp2_with fail
      obtain⟨q4,q5⟩:=PA (C B (g:Nat)) (C B (pb:Nat)) (C B (a:Nat)) (C B (nb:Nat)) j k;obtain⟨Qh,Qj⟩:=q4.cp;obtain⟨Qg,Qf⟩:=q5.cp;exact BA (v:=.tuple #[.agg #[C B (g:Nat),C B (pb:Nat)],.agg #[C B (a:Nat),C B (nb:Nat)]]) (by simp[results,Tryz.results174,go_sem,Qh,Qj,Qg,Qf]) rfl ⟨g,pb,a,nb,rfl,⟨z2,z3,z4,z5⟩,X.o,((((hB.setCell (p:=⟨_,0,none⟩) Dc _).setCell (p:=⟨_,1,none⟩) Dc _).setCell (p:=⟨_,0,none⟩) Dc _).setCell (p:=⟨_,1,none⟩) Dc _).drew⟩
  . clear hle;obtain⟨Qx,Qq⟩:=j.cp;obtain⟨Qy,Qu⟩:=k.cp;obtain⟨Qr,Qt⟩:=j.fp;obtain⟨Qz,Ua⟩:=k.fp;go_wp2_with fail
    go_region
    go_wp2_with fail
    obtain⟨q4,q5⟩:=PA (C B (g:Nat)) (C B (pb:Nat)) (C B (a:Nat)) (C B (nb:Nat)) j k;obtain⟨Qh,Qj⟩:=q4.cp;obtain⟨Qg,Qf⟩:=q5.cp;exact BA (v:=.tuple #[.agg #[C B (g:Nat),C B (pb:Nat)],.agg #[C B (a:Nat),C B (nb:Nat)]]) (by simp[results,Tryz.results174,go_sem,Qh,Qj,Qg,Qf]) rfl ⟨g,pb,a,nb,rfl,⟨z2,z3,z4,z5⟩,X.o,((((hB.setCell (p:=⟨_,0,none⟩) Dc _).setCell (p:=⟨_,1,none⟩) Dc _).setCell (p:=⟨_,0,none⟩) Dc _).setCell (p:=⟨_,1,none⟩) Dc _).drew⟩
end
theorem VA(a:Option Addr)(la ca:Nat)(b:Option Addr)(lb cb x y:Nat)(w:World)(K:Row B w (D a la ca) (Ji O x))(L:Row B w (D b lb cb) (Ji O y))(H:y<=x)(an:2<=lb):
 Calls Tryz.prog 174 #[D a la ca,D b lb cb] w λe w'=>∃n pb i nb:Nat,e=.returned (.tuple #[.agg #[C B (n:Nat),C B (pb:Nat)],.agg #[C B (i:Nat),C B (nb:Nat)]])/\(n<O/\pb<O/\i<O/\nb<O)/\(pb=0\/GO x y n pb i nb)/\Bl w w':=by
 obtain⟨af,ai,ap,m,ae⟩:=JD K;obtain⟨ah,aj,aq,am,ak⟩:=JD L;have N:lb<=la:=by rw[af,ah];exact Y8 H
 obtain⟨k,A⟩:∃k,la=k+2:=⟨la-2,Y⟩;obtain⟨r,t,rfl,ad,I⟩:=ae (k+1) Y;have c:=JA Jf x;have F:(Ji O x).length=k+2:=Y
 have z:(Ji O x)[k+1]?.getD 0≠0:=by
  intro e;have W:=Jq O (Ji O x) (k+1);rw[Ac Y,e,CO,Cn,Jw Jf]at W;have h4:=Yw c (k+1);have v:=Lz Jf F Y;rw[show k+2-1=k+1 from rfl]at v;omega
 have f:(Ji O x)[k+1]?.getD 0<O:=c.getD uo _;obtain⟨d,g⟩:=ex ((Ji O x)[k+1]?.getD 0);rw[g]at I z f;obtain⟨P,Q,u⟩:=bitLen_spec d z (by rw[<-Gk];exact f);have hL:Lib.bitLen d<=64:=by
  rcases A5 64 (Lib.bitLen d)with h|h
  . exfalso
    have v:2^64<=2^(Lib.bitLen d-1):=AE Y Y;rw[Gk]at f;omega
  . exact h
 obtain⟨s,G⟩:∃s,s=64-Lib.bitLen d:=⟨_,rfl⟩;obtain⟨o,v2⟩:=O2 (s:=s) c F g Q u P hL G;rw[Jw Jf]at o v2;have M:d<2^(64-s):=by rw[G,show 64-(64-Lib.bitLen d)=Lib.bitLen d from by omega];exact u
 have j:0<O^k*2^(64-s):=DH (CU uo) (Cc _);have hH:E5 x k s<O:=by
  unfold E5;rw[A6 j];have hp:=I7 (s:=s) Y;have R:O*(O^k*2^(64-s))*2^s=O^(k+2):=by
   rw[AJ,AJ,As (2^(64-s)),hp,A4,A4,As O,AJ]
  rw[<-R]at o;exact Nat.lt_of_mul_lt_mul_right o
 have p:=λ(V:World) (h:Bl w V)=>O9 (some ⟨r,t,none⟩) la ca (Ji O x) k (k+1) la s V (Row.below K h) c A Y Y Y (Aa _) m (λ_=>by rw[g];exact M);have q:=λ(V:World) (h:Bl w V)=>O9 b lb cb (Ji O y) k (k+1) la s V (Row.below L h) (JA Jf y) A Y Y Y N m (λe=>by
  have X:=Jq O (Ji O y) (k+1);rw[Ac Y,Jw Jf]at X;have h7:=Jq O (Ji O x) (k+1);rw[Ac Y,Jw Jf,g]at h7;have h8:=Yw c (k+1);have h9:(Ji O y)[k+1]?.getD 0<=d:=by
   rcases A5 d ((Ji O y)[k+1]?.getD 0)with h|h
   . exfalso
     have:=Ao (O^(k+1)) (show d+1<=(Ji O y)[k+1]?.getD 0 from h);rw[AN,Fv]at this;omega
   . exact h
  omega)
 rw[Jw Jf]at p q;refine U9 r t la (k+1) ca b lb cb x y d s (E5 x k s) (E5 y k s) w Y ad I f Y (show _=_ by omega) m Y p q hH (Nat.div_le_div_right H) ?_;intro sg h l i nb c xb hle T U;refine hle.out (S:=O^k*2^(64-s)) (al:=x%(O^k*2^(64-s))) (be:=y%(O^k*2^(64-s))) ?_ ?_ (Cp _ j) (Cp _ j) T U
 . unfold E5;rw[As];exact(Ci x _).symm
 . unfold E5;rw[As];exact(Ci y _).symm
attribute [local go_sem] Oper.semAt_some
def Kz(W:World)(p:Addr):Nat:=match W.cell? p with|some (.int _ z)=>z.toNat|_=>0
def rowVal(W:World):Value->Nat
 |D (some p) l _=>val O ((List.range l).map λj=>Kz W ⟨p.block,p.off+j,none⟩)
 |_=>0
theorem UN.rowVal{W:World}{a:Option Addr}{l c n:Nat}(h:UN W (D a l c) n):rowVal W (D a l c)=n:=by
 obtain⟨f,_,_,_,g⟩:=JD h;rcases Ch l with d|d
 . subst d;have m:n=0:=(Yg Jf).1 (AB f.symm);subst m;cases a<;>rfl
 . obtain⟨b,off,rfl,_,_⟩:=g 0 d;show val O ((List.range l).map λj=>Kz W ⟨b,off+j,none⟩)=n;have e:(List.range l).map (λj=>Kz W ⟨b,off+j,none⟩)=Ji O n:=by
    refine List.ext_getElem (by rw[C5,List.length_range];exact f) λj p i=>?_;obtain⟨o,q,e,_,k⟩:=g j Y;cases e;rw[List.getElem_map,List.getElem_range,Kz,k,Am i];rfl
   rw[e,Jw Jf]
theorem VB(a:Option Addr)(la ca:Nat)(b:Option Addr)(lb cb x y:Nat)(w:World)(ra:Row B w (D a la ca) (Ji O x))(rb:Row B w (D b lb cb) (Ji O y))(ap:la<1000000000000)(aq:lb<1000000000000):
 Calls Tryz.prog 134 #[D a la ca,D b lb cb] w λe o=>∃u,e=.returned u/\UN o u (Nat.gcd x y)/\Bl w o:=by
 have N:=Ja (MR _ _ (Ji O x) (Ji O y) w ra rb (JA Jf x) (JA Jf y) (ID Jf x) (ID Jf y));rw[Jw Jf,Jw Jf]at N;obtain⟨cm,ad⟩:=ex (XD x y:Int);rw[ad]at N;obtain⟨Qj,Qm,Qh⟩:=Dd ad ra rb;clear ad ra rb;go_enter Tryz.func134,Tryz.ntmps134
 go_upto_if 14 with(go_at_call 126;refine N.o.mono ?_;rintro e w1 ⟨rfl,A⟩)
 go_cut [0,1] λM I wr=>∃(g:Option Addr) (f c0 X:Nat) (i:Option Addr) (l1 c1 d:Nat),M=D g f c0/\I=D i l1 c1/\Hid (UN wr (D g f c0) X)/\Hid (UN wr (D i l1 c1) d)/\Hid (d<=X/\Nat.gcd X d=Nat.gcd x y)/\f<1000000000000/\Bl w wr
 case first=>
  by_cases Qw:cm<0
  . have Qx:x<y:=by
     have h:=Qj.o;unfold XD at h;split at h
     . assumption
     . split at h<;>omega
    go_wp2_with fail
    go_meet
    case rel=>exact⟨_,_,_,y,_,_,_,x,rfl,rfl,Ja (UN.below Qh.o A),Ja (UN.below Qm.o A),Ja ⟨Y,C2 _ _⟩,aq,A⟩
  . have Qx:¬(x<y):=λh=>by
     have q:=Qj.o;rw[Hc h]at q;omega
    go_wp2_with fail
    go_meet
    case rel=>exact⟨_,_,_,x,_,_,_,y,rfl,rfl,Ja (UN.below Qm.o A),Ja (UN.below Qh.o A),Ja ⟨Y,rfl⟩,ap,A⟩
 case rest=>
  obtain⟨g,f,c0,X,i,l1,c1,d,rfl,rfl,q,Q,K,h4,h5⟩:=hcut;clear N Qj Qm Qh A;go_wp2_with fail
  go_loopw [0,1] (λM I wr=>∃(g:Option Addr) (f c0 X:Nat) (i:Option Addr) (l1 c1 d:Nat),M=D g f c0/\I=D i l1 c1/\Hid (UN wr (D g f c0) X)/\Hid (UN wr (D i l1 c1) d)/\Hid (d<=X/\Nat.gcd X d=Nat.gcd x y)/\f<1000000000000/\Bl w wr)
   (λM I wr=>rowVal wr M+rowVal wr I)
  case atStart=>exact⟨g,f,c0,X,i,l1,c1,d,rfl,rfl,q,Q,K,h4,h5⟩
  case round=>
   clear q Q K h4 h5;obtain⟨g,f,c0,X,i,l1,c1,d,rfl,rfl,r,m,t,aw,R⟩:=hrel;have ay:l1<=f:=by rw[UN.len r.o,UN.len m.o];exact Y8 t.o.1
   by_cases ax:1<l1
   . have Qw:(1:Int)<(l1:Int):=Y
     have W:d≠0:=λe=>by
      have h:=UN.len m.o;rw[e,JN]at h;simp at h;omega
     have Qu:=Ja (VA g f c0 i l1 c1 X d _ r.o m.o t.o.1 Y);go_upto_region 5 with(go_at_call 174;refine Qu.o.mono ?_;rintro e j ⟨s,pb,G,nb,rfl,⟨b1,b2,b3,b4⟩,af,n⟩)
     obtain⟨k,L⟩:=ex ((j.alloc (E #[C B (s:Nat),C B (pb:Nat)] 202)).alloc (E #[C B (G:Nat),C B (nb:Nat)] 202));have Ql:Bl w j:=Bt R n;have H:Bl wr k:=by rw[<-L];exact(n.alloc n.size _).alloc (by have:=n.size;simp;omega) _
     have Qd:Bl w k:=Bt R H;have m5:Jn k j.heap.size 202 (C B (s:Nat)) (C B (pb:Nat)):=by rw[<-L];exact(Jn.new j _ _ _).alloc _
     have m6:Jn k (j.heap.size+1) 202 (C B (G:Nat)) (C B (nb:Nat)):=by
      have h:=Jn.new (j.alloc (E #[C B (s:Nat),C B (pb:Nat)] 202)) 202 (C B (G:Nat)) (C B (nb:Nat));rw[Ax,L]at h;exact h
     have Qn:=UN.below r.o H;have P:=UN.below m.o H;rw[L];clear L Qu n Ql;obtain⟨k0,k1⟩:=m5.cp;obtain⟨k2,k3⟩:=m6.cp;by_cases T:pb=0
     . subst T;have Qk:=Ja (Mh g f c0 i l1 c1 X d k Qn P W Y);clear af;go_wp2_with(go_at_call 176;refine Qk.o.mono ?_;rintro e w4 ⟨u,v,rfl,hu,F,S⟩;obtain⟨ua,uc,rfl⟩:=UN.form hu;obtain⟨va,vc,rfl⟩:=UN.form F)
       have Qi:=Cp X (show d>0 by omega);have Qq:=UN.below P S;refine⟨⟨i,l1,c1,d,va,_,vc,X%d,rfl,rfl,Ja Qq,Ja F,Ja ⟨Y,by rw[<-t.o.2,C2 d,<-Nat.gcd_rec,C2]⟩,Y,Bt Qd S⟩,?_⟩;rw[UN.rowVal Qq,UN.rowVal F,UN.rowVal r.o,UN.rowVal m.o];have:=t.o.1;omega
     . have z:=af.resolve_left T;have Qs:nb*d≠0:=by
        have:=z.2.2.2;exact Nat.mul_ne_zero Y W
       obtain⟨Qr,Qp,Qa,Qo,Qg⟩:=GQ (λ(V:World) (h:Bl k V)=>O8 s pb g f c0 i l1 c1 X d V (UN.below Qn h) (UN.below P h) b1 b2 Y Y (Nat.mul_ne_zero T W)) (λ(V:World) (h:Bl k V)=>O8 G nb g f c0 i l1 c1 X d V (UN.below Qn h) (UN.below P h) b3 b4 Y Y Qs) (z.less T Y) z.gcd z.2.2.1;have Qf:=Ja (show Y5 (s*X) (pb*d)<=X by
        have e1:=z.1;have e2:=C4 (Y5 (s*X) (pb*d)) z.2.2.2;omega)
       clear z af Qs;generalize Y5 (s*X) (pb*d)=D1 at *;generalize Y5 (G*X) (nb*d)=D2 at *;have hq:Bl k k.drew:=(BE _ k).drew;go_upto_region 6 with fail
       go_region_held3 (λo=>o.cell? ⟨j.heap.size,0,none⟩=some (C B (s:Nat))/\o.cell? ⟨j.heap.size,1,none⟩=some (C B (pb:Nat))/\o.cell? ⟨j.heap.size+1,0,none⟩=some (C B (G:Nat))/\o.cell? ⟨j.heap.size+1,1,none⟩=some (C B (nb:Nat))) (exact⟨k0,k1,k2,k3⟩)
        (first
         |(go_at_call 175;refine(Qr.o _ hq).mono ?_;clear Qr;rintro e w4 ⟨u4,rfl,ak,S⟩;obtain⟨xa,xc,rfl⟩:=UN.form ak;have hq:=Bt hq S;obtain⟨k0,k1⟩:=(m5.below hq).cp;obtain⟨k2,k3⟩:=(m6.below hq).cp)
         |(go_at_call 175;refine(Qp.o _ hq).mono ?_;clear Qp;rintro e w5 ⟨u5,rfl,ah,ai⟩;obtain⟨ya,yc,rfl⟩:=UN.form ah;have hq:=Bt hq ai;obtain⟨k0,k1⟩:=(m5.below hq).cp;obtain⟨k2,k3⟩:=(m6.below hq).cp))
       all_goals go_wp2_with fail
       have am:=UN.below ak ai;refine⟨⟨xa,_,xc,D1,ya,_,yc,D2,rfl,rfl,Ja am,Ja ah,Ja ⟨Nat.le_of_lt Qg.o,Qo.o.trans t.o.2⟩,?_,Bt Qd hq⟩,?_⟩
       . have q:=Y8 Qf.o;rw[<-UN.len r.o]at q;omega
       . rw[UN.rowVal am,UN.rowVal ah,UN.rowVal r.o,UN.rowVal m.o];exact Qa.o
   . rcases Ch l1 with h0|h0
     . subst h0;have Qt:d=0:=(Yg Jf).1 (AB (UN.len m.o).symm);have HC:=Ja (Oh g f c0 _ wr r.o);have U:=Ja (show X=Nat.gcd x y by rw[<-t.o.2,Qt,Nat.gcd_zero_right]);clear Qt;go_wp2_with(go_at_call 177;refine HC.o.mono ?_;rintro e j ⟨za,zc,rfl,hz,n⟩)
       go_ret;exact⟨_,rfl,by rw[<-U.o];exact hz,Bt R n⟩
     . obtain rfl:l1=1:=Y
       obtain⟨ae,az,ba⟩:=Mg (UN.len m.o).symm;obtain⟨bb,bo,rfl,an,kb⟩:=(JD m.o).2.2.2.2 0 Y;rw[ae]at kb;have Qy:wr.cell? ⟨bb,bo,none⟩=some (C B (d:Nat)):=kb;have Qk:=Ja (Mh g f c0 (some ⟨bb,bo,none⟩) 1 c1 X d wr r.o m.o Y Y);have Qi:=Cp X (show d>0 by omega);have U:=Ja (show Nat.gcd d (X%d)=Nat.gcd x y by rw[<-t.o.2,C2 d,<-Nat.gcd_rec,C2]);have Qv:=Ja (show ∀(V:World) (v:Option Addr) (l c:Nat),UN V (D v l c) (X%d)->Calls Tryz.prog 178 #[D (some ⟨V.heap.size,0,none⟩) 1 1,D v l c] (V.alloc (E #[C B (d:Nat)] 115)) λe o=>∃u,e=.returned u/\UN o u (Nat.gcd x y)/\Below (V.alloc (E #[C B (d:Nat)] 115)).heap.size (V.alloc (E #[C B (d:Nat)] 115)) o from λV v l c h=>by
        have q:=(DL.made (xs:=[d]) (BD V (E #[C B (d:Nat)] 115))).row 0 1 1 Z Y Y Y;have Q:Row B (V.alloc (E #[C B (d:Nat)] 115)) (D (some ⟨V.heap.size,0,none⟩) 1 1) (Ji O d):=by rw[ae];exact q
        have K:=U4 (some ⟨V.heap.size,0,none⟩) 1 v l c d (X%d) _ Q (UN.below h (Ba V _)) Y;rw[U.o]at K;exact K)
       clear kb ae;go_upto_region 12 with(go_at_call 176;refine Qk.o.mono ?_;rintro e j ⟨u,v,rfl,hu,F,n⟩;obtain⟨ua,uc,rfl⟩:=UN.form hu;obtain⟨va,vc,rfl⟩:=UN.form F)
       have bc:=(n.cell (p:=⟨bb,bo,none⟩) an).trans Qy;go_wp2_with(go_at_call 178;refine(Qv.o _ _ _ _ F).mono ?_;rintro e w3 ⟨u3,rfl,aj,H⟩;obtain⟨ta,tc,rfl⟩:=UN.form aj)
       go_ret;have Ql:Bl w j:=Bt R n;exact⟨_,rfl,aj,O6 Ql H⟩

