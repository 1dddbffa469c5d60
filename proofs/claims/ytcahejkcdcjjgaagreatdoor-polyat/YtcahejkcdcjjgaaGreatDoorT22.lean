import Derived.Test.YtcahejkcdcjjgaaGreatDoorT21
import Derived.Deep.RegionHeld3
import Derived.BigRegion
open Go.IntKind renaming u64->B
open Go.Value renaming int->C,slice->D
open Go.Obj renaming cells->E
set_option maxRecDepth 100000
set_option maxHeartbeats 16000000
namespace Go.Proofs.YtcahejkcdcjjgaaGreatDoor
open Go.RowKit Go.Shelf
section
attribute [local go_sem] Oper.semAt_some
theorem OT{W:World}{B:Nat}{t:TypeId}{d c u0 u1:Value}(x0 x1 a b:Value)(h:Jj W B t d c)(k:Jj W (B+1) t u0 u1):
 Jj ((((W.setCell ⟨B,0,none⟩ x0).setCell ⟨B,1,none⟩ x1).setCell ⟨B+1,0,none⟩ a).setCell ⟨B+1,1,none⟩ b).drew B t x0 x1/\Jj ((((W.setCell ⟨B,0,none⟩ x0).setCell ⟨B,1,none⟩ x1).setCell ⟨B+1,0,none⟩ a).setCell ⟨B+1,1,none⟩ b).drew (B+1) t a b:=
 ⟨((((h.set0 x0).set1 x1).far DO a).far DO b).drew,((((k.far DO x0).far DO x1).set0 a).set1 b).drew⟩
theorem Th(R U t I ca:Nat)(b:Option Addr)(lb cb x y d s A K:Nat)(w:World)(h1:(t:Int)-1=I)(aq:R<w.heap.size)
(ka:w.cell? ⟨R,U+I,none⟩=some (C B (d:Nat)))(av:d<DN)(hs:s<=63)(HS:Hid ((64:Int)-(Lib.bitLen d:Int)=(s:Int)))(bu:t<=1099511627776)(bh:I<t)
(aj:Hid (∀V:World,Bl w V->Calls Tryz.prog 177 #[D (some ⟨R,U,none⟩) t ca,C .i64 (t:Nat),C B (s:Nat)] V λe u=>e=.returned (C B (A:Nat))/\Bl V u))
(ak:Hid (∀V:World,Bl w V->Calls Tryz.prog 177 #[D b lb cb,C .i64 (t:Nat),C B (s:Nat)] V λe u=>e=.returned (C B (K:Nat))/\Bl V u))
(M:A<DN)(ay:K<=A)(aw:Hid (∀Y h l a nb k c,FF A K Y h l a nb k c->c<=l->nb+c<=h-l->F3 x y a nb k c)):
 Calls Tryz.prog 149 #[D (some ⟨R,U,none⟩) t ca,D b lb cb] w λe u=>∃j g a nb:Nat,e=.returned (.tuple #[.agg #[C B (j:Nat),C B (g:Nat)],.agg #[C B (a:Nat),C B (nb:Nat)]])/\(j<DN/\g<DN/\a<DN/\nb<DN)/\(g=0\/F3 x y j g a nb)/\Bl w u:=by
 have co:Tryz.prog.follows .mixedOrders=true:=by kernel_rfl
 have i1:IntKind.i64.wrap ((t:Int)-1)=(I:Int):=by rw[h1];exact BS _ om
 have i3:IntKind.i64.wrap (I:Int)=(I:Int):=BS _ om;have bc:IntKind.u64.wrap (s:Int)=(s:Int):=Bn _ om;obtain⟨W0,N⟩:=ex ((w.alloc (E #[C B 0,C B 0] 180)).alloc (E #[C B 0,C B 0] 180));have Qi:Bl w W0:=by rw[<-N];exact(Ba w _).alloc DO _
 have b4:Jj W0 w.heap.size 180 (C B 0) (C B 0):=by rw[<-N];exact(Jj.new w _ _ _).alloc _
 have b5:Jj W0 (w.heap.size+1) 180 (C B 0) (C B 0):=by
  have h:=Jj.new (w.alloc (E #[C B 0,C B 0] 180)) 180 (C B 0) (C B 0);rw[A1,N]at h;exact h
 have Qs:=(Qi.cell (p:=⟨R,U+I,none⟩) aq).trans ka;have Qn:=Ja N;have Qm:=Ja (show ∀V:World,Calls Tryz.prog 176 #[C B (d:Nat)] V λe u=>e=.returned (C .i64 (s:Nat))/\u=V from λV=>by
  have h:=Tryz.bits_LeadingZeros64 (d:Nat) V om (by unfold DN at av;omega);rw[Cv,HS.o]at h;exact h)
 clear N ka HS;go_enter Tryz.func149,Tryz.ntmps149
 go_upto_region 1 with fail
 try rw[Qn.o]
 go_upto_region 2 with(go_at_call 176;refine(Qm.o _).mono ?_;rintro e u ⟨rfl,e1⟩;have e2:=e1.symm;subst e2;clear e1)
 have i:Bl w W0:=Qi;go_upto_region 3 with(first
  |(go_at_call 177;refine(aj.o _ i).mono ?_;clear aj;rintro e w1 ⟨rfl,af⟩;have i:=Bt i af)
  |(go_at_call 177;refine(ak.o _ i).mono ?_;clear ak;rintro e o ⟨rfl,ad⟩;have i:=Bt i ad))
 go_wp2_with fail
 obtain⟨J,z⟩:=ex (((o.alloc (E #[C B 0,C B 0] 180)).alloc (E #[C B 1,C B 0] 180)).alloc (E #[C B 0,C B 1] 180));have Qo:Bl w J:=by rw[<-z];exact((i.alloc i.size _).alloc (by have:=i.size;simp;omega) _).alloc (by have:=i.size;simp;omega) _
 have H:Jj J o.heap.size 180 (C B (0:Nat)) (C B (0:Nat)):=by rw[<-z];exact((Jj.new o _ _ _).alloc _).alloc _
 have F:Jj J (o.heap.size+1) 180 (C B (1:Nat)) (C B (0:Nat)):=by
  have h:=(Jj.new (o.alloc (E #[C B 0,C B 0] 180)) 180 (C B 1) (C B 0)).alloc (E #[C B 0,C B 1] 180);rw[A1,z]at h;exact h
 have G:Jj J (o.heap.size+1+1) 180 (C B (0:Nat)) (C B (1:Nat)):=by
  have h:=Jj.new ((o.alloc (E #[C B 0,C B 0] 180)).alloc (E #[C B 1,C B 0] 180)) 180 (C B 0) (C B 1);rw[A1,A1,z]at h;exact h
 have X:Bl W0 o:=Bt af ad;have m:Jj J w.heap.size 180 (C B 0) (C B 0):=by rw[<-z];exact(((b4.below X).alloc _).alloc _).alloc _
 have n:Jj J (w.heap.size+1) 180 (C B 0) (C B 0):=by rw[<-z];exact(((b5.below X).alloc _).alloc _).alloc _
 have Ub:w.heap.size+1<o.heap.size:=by have:=(b5.below X).lt;exact this
 rw[z];obtain⟨B9,an⟩:=ex (o.heap.size);rw[an]at H F G Ub ⊢;clear z X b4 b5 af ad i Qi an Qs Qm Qn;go_loopw [7,8] (λhv lv wr=>∃h l j g a nb k c:Nat,hv=C B (h:Nat)/\lv=C B (l:Nat)/\Hid (∃Y,FF A K Y h l a nb k c)/\Hid (g=0\/F3 x y j g a nb)/\(h<DN/\j<DN/\g<DN/\a<DN/\nb<DN/\k<DN/\c<DN)/\
  Jj wr B9 180 (C B (j:Nat)) (C B (g:Nat))/\Jj wr (B9+1) 180 (C B (a:Nat)) (C B (nb:Nat))/\Jj wr (B9+1+1) 180 (C B (k:Nat)) (C B (c:Nat))/\Jj wr w.heap.size 180 (C B 0) (C B 0)/\Jj wr (w.heap.size+1) 180 (C B 0) (C B 0)/\Bl w wr)
  (λ_ lv _=>(intOf lv).toNat)
 case atStart=>exact⟨A,K,0,0,1,0,0,1,rfl,rfl,⟨1,FF.start ay⟩,Or.inl rfl,⟨M,by unfold DN;omega,by unfold DN;omega,by unfold DN;omega,by unfold DN;omega,by unfold DN;omega,by unfold DN;omega⟩,H,F,G,m,n,Qo⟩
 case round=>
  clear H F G m n Qo;obtain⟨h,l,j,g,a,nb,k,c,rfl,rfl,ai,HO,⟨z1,z2,z3,z4,z5,z6,z7⟩,H,F,G,m,n,hB⟩:=hrel;obtain⟨Y,hle⟩:=ai.o;have bn:l<=h:=hle.2.2.2.2.2.2.2;have cj:1<=c:=hle.2.2.2.2.2.2.1;obtain⟨bk,bg⟩:=H.cp;obtain⟨ce,ci⟩:=F.cp;obtain⟨cg,bi⟩:=G.cp;by_cases c1:c<=l
  . obtain⟨y1,y2⟩:=hle.small om;obtain⟨e,he⟩:∃e:Nat,(h:Int)-(l:Int)=(e:Int):=⟨h-l,om⟩;obtain⟨f,hf⟩:∃f:Nat,(nb:Int)+(c:Int)=(f:Int):=⟨nb+c,om⟩;have we:IntKind.u64.wrap (e:Int)=(e:Int):=Bn _ (by unfold DN at z1;omega);have wf:IntKind.u64.wrap (f:Int)=(f:Int):=Bn _ (by unfold DN at M;omega);by_cases c2:f<=e
    . have Qk:=Ja (aw.o _ _ _ _ _ _ _ hle c1 om);have O:=hle.step (show 1<=l by omega);have L:=Ja O;obtain⟨q,i⟩:=ex (h/l);obtain⟨r,W⟩:=ex (h%l);rw[i,W]at O L;have az:r<l:=by rw[<-W];exact A9 _ om
      have ck:(h:Int)/(l:Int)=(q:Int):=by rw[<-i];exact(Fb h l).symm
      have Qv:(h:Int)%(l:Int)=(r:Int):=by rw[<-W];exact(Int.natCast_emod h l).symm
      have Ql:a+q*k<=K:=by
       have h1:=O.2.2.1;have h2:=CA (a+q*k) (show 0<l by omega);omega
      have Qp:nb+q*c<=A:=by
       have h1:=O.2.1;have h2:=CA (nb+q*c) (show 0<l by omega);omega
      obtain⟨P,hP⟩:=ex (q*k);obtain⟨Q,ae⟩:=ex (q*c);rw[hP]at Ql L;rw[ae]at Qp L;obtain⟨S,ah⟩:=ex (a+P);obtain⟨T,ap⟩:=ex (nb+Q);rw[ah]at Ql L;rw[ap]at Qp L;have p1:(q:Int)*(k:Int)=(P:Int):=by rw[<-hP];exact(C0 q k).symm
      have p2:(q:Int)*(c:Int)=(Q:Int):=by rw[<-ae];exact(C0 q c).symm
      have p3:(a:Int)+(P:Int)=(S:Int):=om
      have p4:(nb:Int)+(Q:Int)=(T:Int):=om
      have v1:IntKind.u64.wrap (P:Int)=(P:Int):=Bn _ (by unfold DN at M;omega);have v2:IntKind.u64.wrap (Q:Int)=(Q:Int):=Bn _ (by unfold DN at M;omega);have v3:IntKind.u64.wrap (S:Int)=(S:Int):=Bn _ (by unfold DN at M;omega);have v4:IntKind.u64.wrap (T:Int)=(T:Int):=Bn _ (by unfold DN at M;omega);have bm:q<=h:=by rw[<-i];exact C6 _ _
      have v5:IntKind.u64.wrap (q:Int)=(q:Int):=Bn _ (by unfold DN at z1;omega);have cl:¬(l=0):=om
      obtain⟨bf,cn⟩:=H.fp;obtain⟨bj,bz⟩:=F.fp;obtain⟨bd,bt⟩:=G.fp;clear O hle hP ae ah ap i W y1 y2 ai HO;go_upto_region 6 with fail
      go_quiet (fail)
      go_wp2_with fail
      go_region
      go_wp2_with fail
      have g9:Jj (wr.drewN (nq+1)) B9 180 (C B (j:Nat)) (C B (g:Nat)):=H;have Qx:Jj (wr.drewN (nq+1)) (B9+1) 180 (C B (a:Nat)) (C B (nb:Nat)):=F;have Qr:Jj (wr.drewN (nq+1)) (B9+1+1) 180 (C B (k:Nat)) (C B (c:Nat)):=G;have g4:Jj (wr.drewN (nq+1)) w.heap.size 180 (C B 0) (C B 0):=m;have g5:Jj (wr.drewN (nq+1)) (w.heap.size+1) 180 (C B 0) (C B 0):=n;have gB:Bl w (wr.drewN (nq+1)):=Ib hB _;rw[Qv];refine⟨⟨l,r,a,nb,k,c,S,T,rfl,rfl,⟨_,L.o⟩,Or.inr Qk.o,⟨om,z4,z5,z6,z7,om,om⟩,?_,?_,?_,?_,?_,?_⟩,by simp[intOf];omega⟩
      . exact(((((g9.set0 _).set1 _).far DO _).far DO _).far so _).far so _
      . exact(((((Qx.far DO _).far DO _).set0 _).set1 _).far DO _).far DO _
      . exact(((((Qr.far so _).far so _).far DO _).far DO _).set0 _).set1 _
      . exact(((((g4.far so _).far so _).far so _).far so _).far so _).far so _
      . exact(((((g5.far so _).far so _).far so _).far so _).far so _).far so _
      . exact(((((gB.setCell (p:=⟨_,0,none⟩) so _).setCell (p:=⟨_,1,none⟩) so _).setCell (p:=⟨_,0,none⟩) so _).setCell (p:=⟨_,1,none⟩) so _).setCell (p:=⟨_,0,none⟩) so _).setCell (p:=⟨_,1,none⟩) so _
    . clear hle;obtain⟨Qt,Qq⟩:=m.cp;obtain⟨Qu,Qz⟩:=n.cp;obtain⟨Qw,Uc⟩:=m.fp;obtain⟨Qy,Ua⟩:=n.fp;have n1:¬(w.heap.size+1=w.heap.size):=om
      have n2:¬(B9=w.heap.size):=om
      have n3:¬(B9+1=w.heap.size):=om
      have n4:¬(B9=w.heap.size+1):=om
      have n5:¬(B9+1=w.heap.size+1):=om
      go_wp2_with fail
      go_region
      go_wp2_with fail
      obtain⟨Z,q5⟩:=OT (C B (j:Nat)) (C B (g:Nat)) (C B (a:Nat)) (C B (nb:Nat)) m n;obtain⟨Qf,Qj⟩:=Z.cp;obtain⟨Qh,Qg⟩:=q5.cp;exact BA (v:=.tuple #[.agg #[C B (j:Nat),C B (g:Nat)],.agg #[C B (a:Nat),C B (nb:Nat)]]) (by simp[results,Tryz.results149,go_sem,Qf,Qj,Qh,Qg]) rfl ⟨j,g,a,nb,rfl,⟨z2,z3,z4,z5⟩,HO.o,((((hB.setCell (p:=⟨_,0,none⟩) so _).setCell (p:=⟨_,1,none⟩) so _).setCell (p:=⟨_,0,none⟩) so _).setCell (p:=⟨_,1,none⟩) so _).drew⟩
  . clear hle;obtain⟨Qt,Qq⟩:=m.cp;obtain⟨Qu,Qz⟩:=n.cp;obtain⟨Qw,Uc⟩:=m.fp;obtain⟨Qy,Ua⟩:=n.fp;have n1:¬(w.heap.size+1=w.heap.size):=om
    have n2:¬(B9=w.heap.size):=om
    have n3:¬(B9+1=w.heap.size):=om
    have n4:¬(B9=w.heap.size+1):=om
    have n5:¬(B9+1=w.heap.size+1):=om
    go_wp2_with fail
    go_region
    go_wp2_with fail
    obtain⟨Z,q5⟩:=OT (C B (j:Nat)) (C B (g:Nat)) (C B (a:Nat)) (C B (nb:Nat)) m n;obtain⟨Qf,Qj⟩:=Z.cp;obtain⟨Qh,Qg⟩:=q5.cp;exact BA (v:=.tuple #[.agg #[C B (j:Nat),C B (g:Nat)],.agg #[C B (a:Nat),C B (nb:Nat)]]) (by simp[results,Tryz.results149,go_sem,Qf,Qj,Qh,Qg]) rfl ⟨j,g,a,nb,rfl,⟨z2,z3,z4,z5⟩,HO.o,((((hB.setCell (p:=⟨_,0,none⟩) so _).setCell (p:=⟨_,1,none⟩) so _).setCell (p:=⟨_,0,none⟩) so _).setCell (p:=⟨_,1,none⟩) so _).drew⟩
end
theorem Ti(a:Option Addr)(c m:Nat)(b:Option Addr)(lb j x y:Nat)(w:World)(A:Row B w (D a c m) (Jc DN x))(H:Row B w (D b lb j) (Jc DN y))(u:y<=x)(ai:2<=lb):
 Calls Tryz.prog 149 #[D a c m,D b lb j] w λe w'=>∃q o g nb:Nat,e=.returned (.tuple #[.agg #[C B (q:Nat),C B (o:Nat)],.agg #[C B (g:Nat),C B (nb:Nat)]])/\(q<DN/\o<DN/\g<DN/\nb<DN)/\(o=0\/F3 x y q o g nb)/\Bl w w':=by
 obtain⟨X,ah,an,t,T⟩:=Js A;obtain⟨ad,af,ak,aj,ae⟩:=Js H;have P:lb<=c:=by rw[X,ad];exact YZ u
 obtain⟨k,J⟩:∃k,c=k+2:=⟨c-2,om⟩;obtain⟨z,F,rfl,O,G⟩:=T (k+1) om;have f:=Jo Je x;have M:(Jc DN x).length=k+2:=om
 have v:(Jc DN x)[k+1]?.getD 0≠0:=by
  intro e;have R:=Jq DN (Jc DN x) (k+1);rw[Ab om,e,Cq,Cd,Jm Je]at R;have h4:=Yj f (k+1);have L:=YW Je M om;rw[show k+2-1=k+1 from rfl]at L;omega
 have n:(Jc DN x)[k+1]?.getD 0<DN:=f.getD uo _;obtain⟨d,i⟩:=ex ((Jc DN x)[k+1]?.getD 0);rw[i]at G v n;obtain⟨Q,Y,N⟩:=bitLen_spec d v (by rw[<-GG];exact n);have hL:Lib.bitLen d<=64:=by
  rcases AB 64 (Lib.bitLen d)with h|h
  . exfalso
    have L:2^64<=2^(Lib.bitLen d-1):=AD om om;rw[GG]at n;omega
  . exact h
 obtain⟨s,hs⟩:∃s,s=64-Lib.bitLen d:=⟨_,rfl⟩;obtain⟨r,U⟩:=OL (s:=s) f M i Y N Q hL hs;rw[Jm Je]at r U;have Qc:d<2^(64-s):=by rw[hs,show 64-(64-Lib.bitLen d)=Lib.bitLen d from by omega];exact N
 have p:0<DN^k*2^(64-s):=DL (Fv uo) (Cc _);have W:FB x k s<DN:=by
  unfold FB;rw[AO p];have hp:=IY (s:=s) om;have Z:DN*(DN^k*2^(64-s))*2^s=DN^(k+2):=by
   rw[Aw,Aw,As (2^(64-s)),hp,AR,AR,As DN,Aw]
  rw[<-Z]at r;exact Nat.lt_of_mul_lt_mul_right r
 have K:=λ(V:World) (h:Bl w V)=>OS (some ⟨z,F,none⟩) c m (Jc DN x) k (k+1) c s V (Row.below A h) f J om om om (Aa _) t (λ_=>by rw[i];exact Qc);have I:=λ(V:World) (h:Bl w V)=>OS b lb j (Jc DN y) k (k+1) c s V (Row.below H h) (Jo Je y) J om om om P t (λe=>by
  have ap:=Yj (Jo Je y) (k+1);have h6:=Jq DN (Jc DN y) (k+1);rw[Ab om,Jm Je]at h6;have h7:=Jq DN (Jc DN x) (k+1);rw[Ab om,Jm Je,i]at h7;have h8:=Yj f (k+1);have h9:(Jc DN y)[k+1]?.getD 0<=d:=by
   rcases AB d ((Jc DN y)[k+1]?.getD 0)with h|h
   . exfalso
     have:=Az (DN^(k+1)) (show d+1<=(Jc DN y)[k+1]?.getD 0 from h);rw[Av,Fk]at this;omega
   . exact h
  omega)
 rw[Jm Je]at K I;refine Th z F c (k+1) m b lb j x y d s (FB x k s) (FB y k s) w om O G n om (show _=_ by omega) t om K I W (Nat.div_le_div_right u) ?_;intro sg h l g nb f xb hle h1 h2;refine hle.out (S:=DN^k*2^(64-s)) (al:=x%(DN^k*2^(64-s))) (be:=y%(DN^k*2^(64-s))) ?_ ?_ (A9 _ p) (A9 _ p) h1 h2
 . unfold FB;rw[As];exact(Cb x _).symm
 . unfold FB;rw[As];exact(Cb y _).symm
attribute [local go_sem] Oper.semAt_some
def GH(W:World)(p:Addr):Nat:=match W.cell? p with|some (.int _ z)=>z.toNat|_=>0
def rowVal(W:World):Value->Nat
 |D (some p) l _=>val DN ((List.range l).map λj=>GH W ⟨p.block,p.off+j,none⟩)
 |_=>0
theorem UN.rowVal{W:World}{a:Option Addr}{l c n:Nat}(h:UN W (D a l c) n):rowVal W (D a l c)=n:=by
 obtain⟨g,_,_,_,f⟩:=Js h;rcases AQ l with d|d
 . subst d;have m:n=0:=(JB Je).1 (Am g.symm);subst m;cases a<;>rfl
 . obtain⟨b,off,rfl,_,_⟩:=f 0 d;show val DN ((List.range l).map λj=>GH W ⟨b,off+j,none⟩)=n;have e:(List.range l).map (λj=>GH W ⟨b,off+j,none⟩)=Jc DN n:=by
    refine List.ext_getElem (by rw[Fs,List.length_range];exact g) (λj p i=>?_);obtain⟨q,o,e,_,k⟩:=f j om;cases e;rw[List.getElem_map,List.getElem_range,GH,k,Af i];rfl
   rw[e,Jm Je]
theorem Tj(a:Option Addr)(la ca:Nat)(b:Option Addr)(lb cb x y:Nat)(w:World)(ra:Row B w (D a la ca) (Jc DN x))(rb:Row B w (D b lb cb) (Jc DN y))(av:la<1000000000000)(aq:lb<1000000000000):
 Calls Tryz.prog 116 #[D a la ca,D b lb cb] w λe r=>∃u,e=.returned u/\UN r u (Nat.gcd x y)/\Bl w r:=by
 have bg:Tryz.prog.follows .mixedOrders=true:=by kernel_rfl
 have U:=Ja (Lq _ _ (Jc DN x) (Jc DN y) w ra rb (Jo Je x) (Jo Je y) (Yf Je x) (Yf Je y));rw[Jm Je,Jm Je]at U;obtain⟨cm,af⟩:=ex (YT x y:Int);rw[af]at U;obtain⟨Qo,Ql,Qj⟩:=Dm af ra rb;clear af ra rb;go_enter Tryz.func116,Tryz.ntmps116
 go_upto_if 14 with(go_at_call 114;refine U.o.mono ?_;rintro e w1 ⟨rfl,H⟩)
 go_cut [0,1] (λO L wr=>∃(i:Option Addr) (g c0 X:Nat) (j:Option Addr) (f c1 d:Nat),O=D i g c0/\L=D j f c1/\Hid (UN wr (D i g c0) X)/\Hid (UN wr (D j f c1) d)/\Hid (d<=X/\Nat.gcd X d=Nat.gcd x y)/\g<1000000000000/\Bl w wr)
 case first=>
  by_cases Qv:cm<0
  . have Qy:x<y:=by
     have h:=Qo.o;unfold YT at h;split at h
     . assumption
     . split at h<;>omega
    go_wp2_with fail
    go_meet
    case rel=>exact⟨_,_,_,y,_,_,_,x,rfl,rfl,Ja (UN.below Qj.o H),Ja (UN.below Ql.o H),Ja ⟨om,C8 _ _⟩,aq,H⟩
  . have Qy:¬(x<y):=λh=>by
     have A:=Qo.o;rw[Xu h]at A;omega
    go_wp2_with fail
    go_meet
    case rel=>exact⟨_,_,_,x,_,_,_,y,rfl,rfl,Ja (UN.below Ql.o H),Ja (UN.below Qj.o H),Ja ⟨om,rfl⟩,av,H⟩
 case rest=>
  obtain⟨i,g,c0,X,j,f,c1,d,rfl,rfl,A,S,N,h4,h5⟩:=hcut;clear U Qo Ql Qj H;go_wp2_with fail
  go_loopw [0,1] (λO L wr=>∃(i:Option Addr) (g c0 X:Nat) (j:Option Addr) (f c1 d:Nat),O=D i g c0/\L=D j f c1/\Hid (UN wr (D i g c0) X)/\Hid (UN wr (D j f c1) d)/\Hid (d<=X/\Nat.gcd X d=Nat.gcd x y)/\g<1000000000000/\Bl w wr)
   (λO L wr=>rowVal wr O+rowVal wr L)
  case atStart=>exact⟨i,g,c0,X,j,f,c1,d,rfl,rfl,A,S,N,h4,h5⟩
  case round=>
   clear A S N h4 h5;obtain⟨i,g,c0,X,j,f,c1,d,rfl,rfl,t,o,G,bd,R⟩:=hrel;have aw:f<=g:=by rw[UN.len t.o,UN.len o.o];exact YZ G.o.1
   by_cases az:1<f
   . have Qv:(1:Int)<(f:Int):=om
     have W:d≠0:=λe=>by
      have h:=UN.len o.o;rw[e,Jy]at h;simp at h;omega
     have Qq:=Ja (Ti i g c0 j f c1 X d _ t.o o.o G.o.1 om);go_upto_region 5 with(go_at_call 149;refine Qq.o.mono ?_;rintro e k ⟨z,s,I,nb,rfl,⟨b1,b2,b3,b4⟩,ah,q⟩)
     obtain⟨n,K⟩:=ex ((k.alloc (E #[C B (z:Nat),C B (s:Nat)] 180)).alloc (E #[C B (I:Nat),C B (nb:Nat)] 180));have Qg:Bl w k:=Bt R q;have M:Bl wr n:=by rw[<-K];exact(q.alloc q.size _).alloc (by have:=q.size;simp;omega) _
     have Qd:Bl w n:=Bt R M;have m5:Jj n k.heap.size 180 (C B (z:Nat)) (C B (s:Nat)):=by rw[<-K];exact(Jj.new k _ _ _).alloc _
     have m6:Jj n (k.heap.size+1) 180 (C B (I:Nat)) (C B (nb:Nat)):=by
      have h:=Jj.new (k.alloc (E #[C B (z:Nat),C B (s:Nat)] 180)) 180 (C B (I:Nat)) (C B (nb:Nat));rw[A1,K]at h;exact h
     have Z:=UN.below t.o M;have P:=UN.below o.o M;rw[K];clear K Qq q Qg;obtain⟨k0,k1⟩:=m5.cp;obtain⟨k2,k3⟩:=m6.cp;by_cases Q:s=0
     . subst Q;have Y:=Ja (L8 i g c0 j f c1 X d n Z P W om);clear ah;go_wp2_with(go_at_call 151;refine Y.o.mono ?_;rintro e w4 ⟨u,v,rfl,hu,J,T⟩;obtain⟨ua,uc,rfl⟩:=UN.form hu;obtain⟨va,vc,rfl⟩:=UN.form J)
       have Qe:=A9 X (show d>0 by omega);have Qt:=UN.below P T;refine⟨⟨j,f,c1,d,va,_,vc,X%d,rfl,rfl,Ja Qt,Ja J,Ja ⟨om,by rw[<-G.o.2,C8 d,<-Nat.gcd_rec,C8]⟩,om,Bt Qd T⟩,?_⟩;rw[UN.rowVal Qt,UN.rowVal J,UN.rowVal t.o,UN.rowVal o.o];have:=G.o.1;omega
     . have F:=ah.resolve_left Q;have Qu:nb*d≠0:=by
        have:=F.2.2.2;exact Ft om W
       obtain⟨Qr,Qp,Qa,Qk,Qf⟩:=GB (λ(V:World) (h:Bl n V)=>OR z s i g c0 j f c1 X d V (UN.below Z h) (UN.below P h) b1 b2 om om (Ft Q W)) (λ(V:World) (h:Bl n V)=>OR I nb i g c0 j f c1 X d V (UN.below Z h) (UN.below P h) b3 b4 om om Qu) (F.less Q om) F.gcd F.2.2.1;have Qh:=Ja (show YX (z*X) (s*d)<=X by
        have e1:=F.1;have e2:=Cw (YX (z*X) (s*d)) F.2.2.2;omega)
       clear F ah Qu;generalize YX (z*X) (s*d)=D1 at *;generalize YX (I*X) (nb*d)=D2 at *;have m:Bl n n.drew:=(BB _ n).drew;go_upto_region 6 with fail
       go_region_held3 (λr=>r.cell? ⟨k.heap.size,0,none⟩=some (C B (z:Nat))/\r.cell? ⟨k.heap.size,1,none⟩=some (C B (s:Nat))/\r.cell? ⟨k.heap.size+1,0,none⟩=some (C B (I:Nat))/\r.cell? ⟨k.heap.size+1,1,none⟩=some (C B (nb:Nat))) (exact⟨k0,k1,k2,k3⟩)
        (first
         |(go_at_call 150;refine(Qr.o _ m).mono ?_;clear Qr;rintro e w4 ⟨u4,rfl,aj,T⟩;obtain⟨xa,xc,rfl⟩:=UN.form aj;have m:=Bt m T;obtain⟨k0,k1⟩:=(m5.below m).cp;obtain⟨k2,k3⟩:=(m6.below m).cp)
         |(go_at_call 150;refine(Qp.o _ m).mono ?_;clear Qp;rintro e w5 ⟨u5,rfl,ad,an⟩;obtain⟨ya,yc,rfl⟩:=UN.form ad;have m:=Bt m an;obtain⟨k0,k1⟩:=(m5.below m).cp;obtain⟨k2,k3⟩:=(m6.below m).cp))
       all_goals go_wp2_with fail
       have ai:=UN.below aj an;refine⟨⟨xa,_,xc,D1,ya,_,yc,D2,rfl,rfl,Ja ai,Ja ad,Ja ⟨Fw Qf.o,Qk.o.trans G.o.2⟩,?_,Bt Qd m⟩,?_⟩
       . have A:=YZ Qh.o;rw[<-UN.len t.o]at A;omega
       . rw[UN.rowVal ai,UN.rowVal ad,UN.rowVal t.o,UN.rowVal o.o];exact Qa.o
   . rcases AQ f with h0|h0
     . subst h0;have Qs:d=0:=(JB Je).1 (Am (UN.len o.o).symm);have HC:=Ja (Nr i g c0 _ wr t.o);have HE:=Ja (show X=Nat.gcd x y by rw[<-G.o.2,Qs,Nat.gcd_zero_right]);clear Qs;go_wp2_with(go_at_call 131;refine HC.o.mono ?_;rintro e k ⟨za,zc,rfl,hz,q⟩)
       go_ret;exact⟨_,rfl,by rw[<-HE.o];exact hz,Bt R q⟩
     . obtain rfl:f=1:=om
       obtain⟨ae,ay,bf⟩:=L5 (UN.len o.o).symm;obtain⟨bb,bo,rfl,ap,kb⟩:=(Js o.o).2.2.2.2 0 om;rw[ae]at kb;have Qw:wr.cell? ⟨bb,bo,none⟩=some (C B (d:Nat)):=kb;have Y:=Ja (L8 i g c0 (some ⟨bb,bo,none⟩) 1 c1 X d wr t.o o.o om om);have Qe:=A9 X (show d>0 by omega);have HE:=Ja (show Nat.gcd d (X%d)=Nat.gcd x y by rw[<-G.o.2,C8 d,<-Nat.gcd_rec,C8]);have Qx:=Ja (show ∀(V:World) (v:Option Addr) (l c:Nat),UN V (D v l c) (X%d)->Calls Tryz.prog 152 #[D (some ⟨V.heap.size,0,none⟩) 1 1,D v l c] (V.alloc (E #[C B (d:Nat)] 163)) λe r=>∃u,e=.returned u/\UN r u (Nat.gcd x y)/\Below (V.alloc (E #[C B (d:Nat)] 163)).heap.size (V.alloc (E #[C B (d:Nat)] 163)) r from λV v l c h=>by
        have A:=(DU.made (xs:=[d]) (BC V (E #[C B (d:Nat)] 163))).row 0 1 1 DO om om om;have S:Row B (V.alloc (E #[C B (d:Nat)] 163)) (D (some ⟨V.heap.size,0,none⟩) 1 1) (Jc DN d):=by rw[ae];exact A
        have N:=Tc (some ⟨V.heap.size,0,none⟩) 1 v l c d (X%d) _ S (UN.below h (Ba V _)) om;rw[HE.o]at N;exact N)
       clear kb ae;go_upto_region 12 with(go_at_call 151;refine Y.o.mono ?_;rintro e k ⟨u,v,rfl,hu,J,q⟩;obtain⟨ua,uc,rfl⟩:=UN.form hu;obtain⟨va,vc,rfl⟩:=UN.form J)
       have bc:=(q.cell (p:=⟨bb,bo,none⟩) ap).trans Qw;go_wp2_with(go_at_call 152;refine(Qx.o _ _ _ _ J).mono ?_;rintro e w3 ⟨u3,rfl,ak,M⟩;obtain⟨ta,tc,rfl⟩:=UN.form ak)
       go_ret;have Qg:Bl w k:=Bt R q;exact⟨_,rfl,ak,OP Qg M⟩

