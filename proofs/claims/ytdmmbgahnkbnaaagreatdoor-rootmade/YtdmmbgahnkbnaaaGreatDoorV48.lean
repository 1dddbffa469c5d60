import Derived.Test.YtdmmbgahnkbnaaaGreatDoorV47
set_option linter.all false
open Go.Value renaming slice->C,bool->B
open Go renaming World->D,Value->F
open Go.Obj renaming cells->E
set_option maxRecDepth 99999
set_option maxHeartbeats 0
namespace Go.Proofs.YtdmmbgahnkbnaaaGreatDoor
open Go.RowKit Go.Shelf
attribute [local go_sem] Oper.semAt_some
namespace M3
def Dat.fpoly(N:Nat)(ps:List Rat):Dat where
 ty:=25
 has V v:=Je V v ps/\KB N v
 noPoly:=false
 below h hb:=⟨Je.below h.1 hb,h.2⟩
 keep h hk hp:=⟨Dat.keep (.poly ps) h.1 hk hp,h.2⟩
def KU(b V:D)(B:Nat)(Q:List Rat):Prop:=∃U a l c,Bl b U/\Below (U.setCell ⟨B,0,none⟩ (C a l c)).heap.size (U.setCell ⟨B,0,none⟩ (C a l c)) V/\Je U (.agg #[C a l c]) Q/\KB b.heap.size (.agg #[C a l c])
variable{ds:List Dat}{Q z:List Rat}{H c l:Nat}{gd:Option (Nat × Bool)}{ty:TypeId}{u1 v:F}{V W f w:D}{T:D->F->Prop}
def KU.below{B:Nat}(h:KU f V B Q)(i:Bl V W):KU f W B Q:=by
 obtain⟨U,a,l,c,b,d,e,g⟩:=h;exact⟨U,a,l,c,b,Bt d i,e,g⟩
def bT{B:Nat}{ρ:Operand->F}{x y:Operand}{ps:String}{af:Array Edge}{a0:Option Addr}{g c0:Nat}
(i:Boxed f B 25 (C a0 g c0))(a:Bl f V)(hv:Has V u1 (.fpoly f.heap.size Q))(hT:∀ {W},KU f W B Q->T W undef:=by exact λm=>m)(l:ρ x=.pointer (some ⟨B,0,none⟩):=by kernel_rfl)(c:ρ y=u1:=by kernel_rfl):
 Wr ρ { dst:=none,op:=.store 25 x y,type:=ty,pos:=ps,after:=af,guard:=gd } V ds (.eq undef) T:=by
 have n:=boxed_below i a;have j:=n.cell;have f0:=n.frozen;obtain⟨b,l1,c1,e⟩:=Je.form (show Je V _ _ from hv.1);rw[e]at hv;rw[e]at c;exact⟨.skip,undef,_,by go_simp,Or.inr ⟨rfl,rfl⟩,rfl,λd v _ k=>k.set1 n rfl _,hT ⟨V,b,l1,c1,a,BB _ _,hv.1,hv.2⟩⟩
def vH{bs:List (Option (Nat × Dat))}{ρ:Operand->F}{x y z:Operand}{dst:Option Tmp}{ps:String}{af:Array Edge}{a b c:Rat}{u2 u3:F}
(M:DJ w V bs)(d:Has V u1 (.rat a))(e:Has V u2 (.rat b))(f:Has V u3 (.rat c))(hT:∀ {o u},DJ w (V.alloc o) bs->T (V.alloc o) u:=by exact λm=>m)(s:ρ x=u1:=by kernel_rfl)(t:ρ y=u2:=by kernel_rfl)(v:ρ z=u3:=by kernel_rfl):
 Wr ρ { dst:=dst,op:=.buildSlice 22 3 #[(0,x),(1,y),(2,z)],type:=ty,pos:=ps,after:=af,guard:=gd } V ds (.krow [a,b,c]) T:=by
 obtain⟨K,g,l1,c1,P,l,A,d1,rfl⟩:=Jf.form (show Jf V _ _ from d);obtain⟨L,i,l2,c2,Q,n,G,q,rfl⟩:=Jf.form (show Jf V _ _ from e);obtain⟨N,j,I,c3,R,p,H,r,rfl⟩:=Jf.form (show Jf V _ _ from f);exact⟨_,C (some ⟨V.heap.size,0,none⟩) 3 3,_,by go_simp,Or.inl rfl,sU d e f,λ_ _ _ k=>k.alloc _,hT (M.below (Ba V _))⟩
def vJ{qs:List Rat}(h:ET true H W v qs):∀p l c,v=C (some p) l c->H<=p.block:=by
 rcases h with⟨rfl,_⟩|⟨g,cap,cur,rfl,a,_⟩
 . intro p l c e;cases e
 . intro p l c e;cases e;exact a
def SX(f:Nat->Rat)(k:Nat):Jc (EF f k)=EF f k:=by
 cases k with
 |zero=>exact XA (Or.inr (by show(1:Rat)≠0;decide))
 |succ k=>exact Jq _ _
def vK{p:Addr}(h:Je V (.agg #[C (some p) l c]) z)(z0:z≠[]):p.block<V.heap.size:=by
 obtain⟨u,e,h⟩:=h;cases e;obtain⟨a,cap,e,_,_,_,h⟩:=h;cases e;rcases h with h|⟨b,d,f⟩
 . exact absurd h z0
 . cases d;exact f.lt
def Ef(f:Nat->Rat)(k:Nat):List Rat:=(List.range k).map f
def O4(f:Nat->Rat)(k:Nat)(c:Int)(z R:List Rat)(o:Int):Prop:=
 ((c<1\/99<c)/\z=EF f k/\R=Ef f k/\o=0)\/(1<=c/\c<=99/\z=Ji (EF f k) [Rat.divInt (-c) 1,0,1]/\((∃s:Nat,(s:Int)*s=c/\R=Ef f k++[Rat.divInt s 1]++[0-Rat.divInt s 1]/\o=0)\/((∃s:Nat,c<(s+1:Int)*(s+1)/\(s:Int)*s<c)/\R=Ef f k/\o=2)))
def vM(w:D)(f:Nat->Rat)(k:Nat)(c:Int)(r:Ending)(w':D):Prop:=
 ∃u v z R o,r=.returned (.tuple #[u,v,.int .i64 o])/\Je w' u z/\RowK true w' v R/\O4 f k c z R o/\Bl w w'
def SY{a:Option Addr}{R:List Rat}(b:Boxed V w.heap.size 25 (C none 0 0))(d:w.heap.size<H)(g:Je V (.agg #[C a l c]) z)(e:ET true H V v R)(hl:R.length<=1099511627776)(f:Bl w V):
 (V.setCell ⟨w.heap.size,0,none⟩ (C a l c)).cell? ⟨w.heap.size,0,none⟩=some (C a l c)/\Je (V.setCell ⟨w.heap.size,0,none⟩ (C a l c)) (.agg #[C a l c]) z/\RowK true (V.setCell ⟨w.heap.size,0,none⟩ (C a l c)) v R/\Bl w (V.setCell ⟨w.heap.size,0,none⟩ (C a l c)):=
 ⟨(show Boxed (V.setCell ⟨w.heap.size,0,none⟩ (C a l c)) w.heap.size 25 (C a l c)from JY b _).cell,LS b g,(SC e b d _).row hl,f.setCell (p:=⟨w.heap.size,0,none⟩) (Aa _) _⟩
def vN(a:Option Addr)(n cap:Nat)(S:Nat->ByteArray)(c:Int)(w:D)(hc:∀j,j<n->∃b bi,a=some ⟨b,bi,none⟩/\b<w.heap.size/\w.cell? ⟨b,bi+j,none⟩=some (.string (S j)))(ku:-9223372036854775808<=c)(kv:c<=9223372036854775807):
 Calls Tryz.prog 31 #[C a n cap,.int .i64 c] w (vM w (λj=>Ex (Jk (S j))) (min n 5) c):=by
 have Qw:=Z hc;have Qv:∀j,DQ 2000 (Ex (Jk (S j))):=λj=>Vq _;have HG:=Z λ(j:Nat) (V:D)=>ms (S j) V;obtain⟨f,hf⟩:∃f:Nat->Rat,∀j,Ex (Jk (S j))=f j:=⟨λj=>Ex (Jk (S j)),λ_=>rfl⟩;simp only[hf]at HG Qv ⊢;have HF:=Z Qv;have HP:=Z (λ(V:D)=>show Calls Tryz.prog 42 #[.string ⟨#[49]⟩] V λr w'=>∃u,r=.returned (.tuple #[u,.int .i64 0,.int .i64 0])/\Je w' u [1]/\Bl V w' from
  (WF ⟨#[49]⟩ V).mono (λr w' h=>by
   obtain⟨u,e,p,A,m,h3⟩:=h;rw[Ks,show Jk ⟨#[49]⟩=[49]from rfl,show IR [49]=([1],0,0)by decide +kernel]at m;obtain⟨rfl,rfl,h4⟩:=m;exact⟨u,A,h4,h3⟩))
 have HO:=Z (λ(V:D)=>show Calls Tryz.prog 34 #[.string ⟨#[49]⟩] V λr w'=>∃u,r=.returned (.tuple #[u,B true])/\Jf w' u 1/\Bl V w' from
  (OA ⟨#[49]⟩ V).mono (λr w' h=>by
   obtain⟨u,A,m,h3⟩:=h;rw[show Jk ⟨#[49]⟩=[49]from rfl]at A m;rw[Z3.2]at A;rw[Z3.1]at m;exact⟨u,A,m,h3⟩))
 obtain⟨L,gj⟩:=ex (w.alloc (E #[C none 0 0] 25));have Uo:=Z gj;have Qc:=Z (show Boxed L w.heap.size 25 (C none 0 0)/\Bl w L by
  rw[<-gj];exact⟨BG w _ _,Ba w _⟩)
 have M1:Hid (DJ L L []):=Z (DJ.nil L);clear hc Qv hf gj;go_enter Tryz.func31,Tryz.ntmps31
 go_upto_region 1 with fail
 rw[Uo.o];clear Uo;go_upto_region 2 with(go_at_call 42;refine(HP.o _).mono ?_;clear HP;rintro e ck ⟨u901,rfl,z,d⟩;obtain⟨jd,jo,jg,rfl⟩:=Je.form z)
 obtain⟨W,I⟩:=ex (ck.alloc (E #[C jd jo jg] 25));obtain⟨B1,G⟩:=ex (ck.heap.size);have g:DJ L (ck.alloc (E #[C jd jo jg] 25)) [some (ck.heap.size,.poly [1])]:=DJ.push (M1.o.below d) (.poly [1]) z;rw[I,G]at g;rw[I];rw[G];have M2:Hid (DJ L W [some (B1,.poly [1])]):=Z g;clear M1 g I G z d;go_upto_region 3 with(go_at_call 34;refine(HO.o _).mono ?_;clear HO;rintro e cn ⟨u902,rfl,z,d⟩;obtain⟨jr,je,jp,jh,js,jf,jn,ji,rfl⟩:=Jf.form z)
 obtain⟨V2,I⟩:=ex (cn.alloc (E #[B jr,C je jp jh,B js,C jf jn ji] 41));obtain⟨B2,G⟩:=ex (cn.heap.size);have g:DJ L (cn.alloc (E #[B jr,C je jp jh,B js,C jf jn ji] 41)) [some (B1,.poly [1]),some (cn.heap.size,.rat 1)]:=DJ.push (M2.o.below d) (.rat 1) z;rw[I,G]at g;rw[I];rw[G];have M3:Hid (DJ L V2 [some (B1,.poly [1]),some (B2,.rat 1)]):=Z g;clear M2 g I G z d;go_upto_region 4 with fail
 obtain⟨V3,I⟩:=ex (V2.alloc (E #[B false,C none 0 0,B false,C none 0 0] 41));obtain⟨B3,G⟩:=ex (V2.heap.size);have g:DJ L (V2.alloc (E #[B false,C none 0 0,B false,C none 0 0] 41)) [some (B1,.poly [1]),some (B2,.rat 1),some (V2.heap.size,.rat 0)]:=DJ.push (M3.o) (.rat 0) (Xx V2);rw[I,G]at g;rw[I];rw[G];have M4:Hid (DJ L V3 [some (B1,.poly [1]),some (B2,.rat 1),some (B3,.rat 0)]):=Z g;clear M3 g I G;obtain⟨H,hH⟩:=ex (V3.heap.size);have Qb:=Z (show(B1<H/\B2<H/\B3<H)/\L.heap.size<=H by
  obtain⟨⟨_,x0,_⟩,_⟩:=M4.o.1 0 _ _ rfl;obtain⟨⟨_,x1,_⟩,_⟩:=M4.o.1 1 _ _ rfl;obtain⟨⟨_,x2,_⟩,_⟩:=M4.o.1 2 _ _ rfl;rw[<-hH];exact⟨⟨x0.lt,x1.lt,x2.lt⟩,M4.o.2.2.size⟩)
 have HV:=Z (Nat.le_of_eq hH.symm);clear hH;go_upto_region 6 with fail
 go_loopw [13,14] (λrv iv wr=>∃k:Nat,k<=5/\k<=n/\iv=.int .i64 (k:Int)/\(∃ra rc,rv=C ra k rc)/\Hid (DJ L wr [some (B1,.poly (EF f k)),some (B2,.rat 1),some (B3,.rat 0)])/\Hid (ET true H wr rv (Ef f k))/\Hid (H<=wr.heap.size)) λ_ iv _=>5-(intOf iv).toNat
 case atStart=>exact⟨0,O,As _,rfl,⟨_,_,rfl⟩,M4,Z (ET.nil _ _ _),HV⟩
 case round=>
  obtain⟨k,kx,kc,rfl,⟨ra,rc,rfl⟩,M,ai,jc⟩:=hrel;clear HV M4;have HV:=jc;clear jc;by_cases gq:k<n/\k<5
  . obtain⟨kd,ky⟩:=gq;have g1:(k:Int)<(n:Int):=O
    have g2:(k:Int)<5:=O
    have g3:¬(k:Int)<0:=O
    obtain⟨T,Qo,Qr,Un,Qe,HX,Qt⟩:=IW (sQ HF.o k O) (show(EF f k).length+2<=1099511627776 by have:=(K8 HF.o k O).2;omega) (show EF f (k+1)=Ji (EF f k) [0-f k,1]from rfl) (show Ef f (k+1)=Ef f k++[f k]by unfold Ef;rw[List.range_succ,List.map_append];rfl) (show(Ef f k).length=k by unfold Ef;simp) (show DQ 2000 (f k)from HF.o k) λ(V:D)=>HG.o k V;obtain⟨b,bi,rfl,gn,jj⟩:=Qw.o k kd;have Ut:=(M.o.2.2.cell (p:=⟨b,bi+k,none⟩) (An gn Qc.o.2.size)).trans ((Qc.o.2.cell (p:=⟨b,bi+k,none⟩) gn).trans jj);obtain⟨x,hx⟩:=ex (f k);rw[hx]at T Qr Un HX Qt;clear hx gn jj Qw HF HG;obtain⟨Q,hQ⟩:=ex (EF f k);rw[hQ]at M T Qr Qo;clear hQ;obtain⟨Q2,hQ⟩:=ex (Ji Q [0-x,1]);have Qn:=Z (λ(V W:D) (h:Bl V W) (u v:F) (z:Je W u Q) (hv:Je W v [0-x,1])=>show Calls Tryz.prog 9 #[u,v] W λe w'=>∃u,e=.returned u/\(Je w' u Q2/\KB V.heap.size u)/\Bl W w' from
     (hQ ▸ QN u v Q [0-x,1] W z hv T.o.2.1 T.o.2.2 T.o.1 Qo.o).mono λe w' ⟨u,A,m,h3,h4⟩=>⟨u,A,⟨m,λa l c e=>Ac h.size (h3 a l c e)⟩,h4⟩)
    have Qk:=Z (λ(V:D) (u:F) (h:RowK true V u [0-x,1])=>show Calls Tryz.prog 40 #[u] V λe w'=>∃u,e=.returned u/\Je w' u [0-x,1]/\Bl V w' by
     have h:=MI u [0-x,1] V h T.o.2.2;rw[aF]at h;exact h.mono λe w' ⟨u,A,m,_,h3⟩=>⟨u,A,m,h3⟩)
    rw[hQ]at Qr;clear hQ;go_upto_region 9 with(go_at_call 85;refine(Qt.o _).mono ?_;clear Qt;rintro e bj ⟨u908,rfl,z,d⟩;obtain⟨io,df,ic,ei,iy,dt,gw,fm,rfl⟩:=Jf.form z)
    have R:=Bt d (Ba bj (E #[B io,C df ic ei,B iy,C dt gw fm] 41))
    obtain⟨K,I⟩:=ex (bj.alloc (E #[B io,C df ic ei,B iy,C dt gw fm] 41));obtain⟨BX,G⟩:=ex (bj.heap.size);have g:DJ L (bj.alloc (E #[B io,C df ic ei,B iy,C dt gw fm] 41)) [some (B1,.poly Q),some (B2,.rat 1),some (B3,.rat 0),some (bj.heap.size,.rat x)]:=DJ.push (M.o.below d) (.rat x) z;rw[I,G]at g;rw[I]at R ⊢;rw[G];obtain⟨P,O8,Ql,Qs⟩:=Dt g (ai.o.below R) R (aG ai.o);clear g I G R z d M ai Ut;obtain⟨a4,l4,c4,X,_⟩:=P.o.poly2 (i:=0) rfl;have Qf:=Z X;clear X;refine Yx Dh [[],[],[],[1,2],[],[3,4],[5,3],[0,6,6],[7,7,0,1,2,3,4,5,6,7]] [.poly Q,.rat 0,.rat x,.rat (0-x),.rat 1,.krow [0-x,1],.poly [0-x,1],.fpoly K.heap.size Q2,.eq undef] [5,8] (λb _ V=>if b.getD 1 false then KU K V B1 Q2 else Bl K V) (BB _ K).drew (SR (.vl rfl λ_ j=>FP 0 (P.o.below j))<|SR (.vl rfl λ_ j=>EK 2 (P.o.below j))<|SR (.vl rfl λ_ j=>EK 3 (P.o.below j))<|SR (.cl (hJ:=λ_ _ _ _ h d=>Jx h (λk=>k.below d) λk=>Bt k d) λh _=>KA _ _ 0 x _ (h.g 1) (h.g 2) FO (Sq.of HX.o O))<|SR (.vl rfl λ_ j=>EK 1 (P.o.below j))<|SR (.wr rfl λh j=>NC (P.o.below j) (h.g 3) (h.g 4) (hT:=fun {o u} _=>Below.alloc j (Below.size j) _))<|SR (.cl (hJ:=λ_ _ _ _ h d=>Jx h (λk=>k.below d) λk=>Bt k d) λh _=>Qk.o _ _ (h.g 5))<|SR (.cl (hJ:=λ_ _ _ _ h d=>Jx h (λk=>k.below d) λk=>Bt k d) λh j=>Qn.o K _ j _ _ (h.g 0) (h.g 6))<|SR (.wr rfl λh j=>bT Qf.o j (h.g 7)) Stp.end_)
     λf9 V9 gi g=>?_
    replace g:KU K V9 B1 Q2:=g;refine DP ?_;obtain⟨U,pa,pl,pc,hU,ae,hp,az⟩:=g;have nb:=boxed_below Qf.o hU;have Qi:Boxed (U.setCell ⟨B1,0,none⟩ (C pa pl pc)) B1 25 (C pa pl pc):=JY nb _;have Qm:=boxed_below Qi ae;have Qd:Hid (DJ L V9 [some (B1,.poly Q2),some (B2,.rat 1),some (B3,.rat 0),some (BX,.rat x)]):=Z (((P.o.below hU).putPoly (i:=0) rfl hp).below ae);have O9:=Z ((SC (O8.o.below hU) nb Qb.o.1.1 (C pa pl pc)).below ae);have FR:=Z (show ∀p l c,V9.cell? ⟨B1,0,none⟩=some (C (some p) l c)->K.heap.size<=p.block from λp l c e=>by
     rw[Qm.cell]at e;cases e;exact az _ _ _ rfl)
    have SZ:=Z (show H<=V9.heap.size from Ac HV.o (Ac Ql.o.size (Ac hU.size (by have:=ae.size;rw[World.size_setCell]at this;exact this))));clear nb Qi Qm hU ae hp az gi P O8 Qf Qn Qk T;obtain⟨il,de,ib,ed,ix,b10,gv,fi,am,r10,gr,gu⟩:=Qd.o.rat (i:=3) rfl;obtain⟨e0,e1,e2,e3⟩:=am.cq;obtain⟨v9,w9,ah,o9,m9,h9⟩:=sT (Qd.o.take 3) O9.o SZ.o Qb.o.2 Qb.o.1 (N:=K.heap.size) (λp l c e=>An (Qs.o p l c e) Ql.o.size) FR.o r10 (by rw[Qe.o];omega);obtain⟨a9,c9,e9,_⟩:=o9.form;subst e9;rw[show(Ef f k++[x]).length=k+1 by rw[Am,Qe.o];rfl]at o9 ah;obtain⟨Uw,Ux,Wa⟩:=DX o9 m9 h9;have f4:IntKind.i64.wrap ((k:Int)+1)=(k:Int)+1:=by rw[BH];omega
    clear o9 m9 h9 am r10 gr gu Qd O9 FR SZ Qs;go_wp2_with(at_builtin;refine Br _ rfl _ _ 22 22 rfl _ _ rfl rfl _ _ ah ?_;clear ah)
    go_roundw
    case rel=>exact⟨k+1,O,O,by go_num,⟨a9,c9,rfl⟩,by rw[Qr.o];exact Ux,by rw[Un.o];exact Uw,Wa⟩
    case measure=>simp[intOf];omega
  . have Qj:¬k<n\/(k<n/\¬k<5):=O
    have Qu:=Z (show min n 5=k by omega);have Qx:=Z (show w.heap.size<H by have A:=Qc.o.1.lt;have m:=Qb.o.2;omega);go_upto_region 6 with fail
    go_cut [38] λcv w'=>cv=B false/\w'=wr
    case first=>
     rcases Qj with h|⟨A,m⟩
     . have g1:¬(k:Int)<(n:Int):=O
       go_wp2_with fail
       go_meet
       exact⟨rfl,rfl⟩
     . have g1:(k:Int)<(n:Int):=O
       have g2:¬(k:Int)<5:=O
       go_wp2_with fail
       go_meet
       exact⟨rfl,rfl⟩
    case rest=>
     obtain⟨rfl,rfl⟩:=hcut;clear Qj kc Qw HG;by_cases bu:c<1\/99<c
     . obtain⟨a4,l4,c4,X,r4⟩:=M.o.poly2 (i:=0) rfl;have e4:=X.cell;have nB:=boxed_below Qc.o.1 M.o.2.2;have k0:=nB.cell;have f0:=nB.frozen;have HE:=Z (SY nB Qx.o r4 ai.o (by unfold Ef;rw[CK,List.length_range];omega) (Bt Qc.o.2 M.o.2.2));have Wb:=Z bu;clear X r4 nB;go_upto_region 11 with fail
       go_cut [63] λcv w'=>cv=B true/\w'=wc
       case first=>
        rcases bu with h|h
        . go_wp2_with fail
          go_meet
          exact⟨rfl,rfl⟩
        . have A:¬c<1:=O
          go_wp2_with fail
          go_meet
          exact⟨rfl,rfl⟩
       case rest=>
        obtain⟨rfl,rfl⟩:=hcut;clear bu;go_wp2_with fail
        have k1:=HE.o.1;exact BA (by simp[results,Tryz.results31,go_sem,k1]) rfl ⟨_,_,_,_,(0:Int),rfl,HE.o.2.1,HE.o.2.2.1,by rw[Qu.o];exact Or.inl ⟨Wb.o,rfl,rfl,rfl⟩,HE.o.2.2.2⟩
     . have A:¬c<1:=O
       have m:¬99<c:=O
       have kz:IntKind.i64.wrap (-c)=-c:=by rw[BH];omega
       obtain⟨Qh,Uh,Us,Ua⟩:=Dt (show 1<=c/\c<=99 by omega) (Ol (c:=-c) O O) (λ(V:D)=>FM (-c) O O V) λ(V:D)=>FM 1 O O V;have Ul:=Z (λ(x:Int) (hx:Sm 1 x) (V:D) (u v:F) (z:Jj V u x) (hv:Jj V v 1)=>show Calls Tryz.prog 38 #[u,v] V λe w'=>∃u,e=.returned (.tuple #[u,B true])/\Jf w' u (Rat.divInt x 1)/\Bl V w' by
        have h:=Ib u v x 1 V z hv (Sok.of hx O) (Sok.of (Sm.one 1 O) O);rw[show decide ((1:Int)≠0)=true from rfl]at h;exact h)
       obtain⟨T,Qo,Qe⟩:=DX (sR HF.o k O Uh.o) (show(EF f k).length+3<=1099511627776 by have:=(K8 HF.o k O).2;omega) (show(Ef f k).length=k by unfold Ef;simp);clear bu;go_upto_region 14 with(first
        |(go_at_call 35;refine(Us.o _).mono ?_;clear Us;rintro e wA ⟨uA,rfl,bf,aq⟩)
        |(go_at_call 35;refine(Ua.o _).mono ?_;rintro e wB ⟨uB,rfl,bg,aj⟩)
        |(go_at_call 38;refine(Ul.o (-c) Uh.o _ _ _ (bf.below aj) bg).mono ?_;rintro e bm ⟨u913,rfl,z,ay⟩;obtain⟨iu,dh,ie,fg,iz,dx,gy,fo,rfl⟩:=Jf.form z))
       have d:=Bt (Bt aq aj) ay
       have R:=Bt d (Ba bm (E #[B iu,C dh ie fg,B iz,C dx gy fo] 41))
       obtain⟨K,I⟩:=ex (bm.alloc (E #[B iu,C dh ie fg,B iz,C dx gy fo] 41));obtain⟨BX,G⟩:=ex (bm.heap.size);obtain⟨x,hx⟩:=ex (Rat.divInt (-c) 1);rw[hx]at z T;obtain⟨Q,hQ⟩:=ex (EF f k);rw[hQ]at M T Qo;obtain⟨Q2,bn⟩:=ex (Ji Q [x,0,1]);have Qz:=Z (show Q2≠[]from λe=>by
        have h0:=(K8 HF.o k O).2;have h:=JB (SX f k) (OY x).1 (λe=>by rw[e]at h0;simp at h0) DI;rw[hQ,bn,e]at h;rw[hQ]at h0;simp at h)
       have Uj:=Z (show Ji (EF f k) [Rat.divInt (-c) 1,0,1]=Q2 by rw[hx,hQ];exact bn);have g:DJ L (bm.alloc (E #[B iu,C dh ie fg,B iz,C dx gy fo] 41)) [some (B1,.poly Q),some (B2,.rat 1),some (B3,.rat 0),some (bm.heap.size,.rat x)]:=DJ.push (M.o.below d) (.rat x) z;rw[I,G]at g;rw[I]at R ⊢;rw[G];obtain⟨P,O8,Ql,Qs⟩:=Dt g (ai.o.below R) R (aG ai.o);have Qn:=Z (λ(W:D) (h:Bl K W) (u v:F) (z:Je W u Q) (hv:Je W v [x,0,1])=>show Calls Tryz.prog 9 #[u,v] W λe w'=>∃u,e=.returned u/\(Je w' u Q2/\KB K.heap.size u)/\Bl W w' from
        (bn ▸ QN u v Q [x,0,1] W z hv T.o.2.1 T.o.2.2 T.o.1 Qo.o).mono λe w' ⟨u,A,m,h3,h4⟩=>⟨u,A,⟨m,λa l c e=>Ac h.size (h3 a l c e)⟩,h4⟩)
       have Qk:=Z (λ(V:D) (u:F) (h:RowK true V u [x,0,1])=>show Calls Tryz.prog 40 #[u] V λe w'=>∃u,e=.returned u/\Je w' u [x,0,1]/\Bl V w' by
        have h:=MI u [x,0,1] V h T.o.2.2;rw[(OY x).1]at h;exact h.mono λe w' ⟨u,A,m,_,h3⟩=>⟨u,A,m,h3⟩)
       obtain⟨a4,l4,c4,X,_⟩:=P.o.poly2 (i:=0) rfl;have Qf:=Z X;clear X g I G R z d M ai hx hQ bn bf aq bg aj ay;refine Yx Dh [[],[],[],[],[1,2,3],[4],[0,5,5],[6,6,0,1,2,3,4,5,6]] [.poly Q,.rat x,.rat 0,.rat 1,.krow [x,0,1],.poly [x,0,1],.fpoly K.heap.size Q2,.eq undef] [4,7] (λb _ V=>if b.getD 1 false then KU K V B1 Q2 else Bl K V) (BB _ K).drew (SR (.vl rfl λ_ j=>FP 0 (P.o.below j))<|SR (.vl rfl λ_ j=>EK 3 (P.o.below j))<|SR (.vl rfl λ_ j=>EK 2 (P.o.below j))<|SR (.vl rfl λ_ j=>EK 1 (P.o.below j))<|SR (.wr rfl λh j=>vH (P.o.below j) (h.g 1) (h.g 2) (h.g 3) (hT:=fun {o u} _=>Below.alloc j (Below.size j) _))<|SR (.cl (hJ:=λ_ _ _ _ h d=>Jx h (λk=>k.below d) λk=>Bt k d) λh _=>Qk.o _ _ (h.g 4))<|SR (.cl (hJ:=λ_ _ _ _ h d=>Jx h (λk=>k.below d) λk=>Bt k d) λh j=>Qn.o _ j _ _ (h.g 0) (h.g 5))<|SR (.wr rfl λh j=>bT Qf.o j (h.g 6)) Stp.end_)
        λf9 V9 gi g=>?_
       replace g:KU K V9 B1 Q2:=g;refine DP ?_;obtain⟨U,pa,pl,pc,hU,ae,hp,az⟩:=g;have nb:=boxed_below Qf.o hU;have Qi:Boxed (U.setCell ⟨B1,0,none⟩ (C pa pl pc)) B1 25 (C pa pl pc):=JY nb _;have Qm:=boxed_below Qi ae;have Qd:Hid (DJ L V9 [some (B1,.poly Q2),some (B2,.rat 1),some (B3,.rat 0),some (BX,.rat x)]):=Z (((P.o.below hU).putPoly (i:=0) rfl hp).below ae);have O9:=Z ((SC (O8.o.below hU) nb Qb.o.1.1 (C pa pl pc)).below ae);have FR:=Z (show ∀p l c,V9.cell? ⟨B1,0,none⟩=some (C (some p) l c)->K.heap.size<=p.block from λp l c e=>by
        rw[Qm.cell]at e;cases e;exact az _ _ _ rfl)
       have Um:=Z (show K.heap.size<=V9.heap.size from Ac hU.size (by have:=ae.size;rw[World.size_setCell]at this;exact this));have SZ:=Z (show H<=V9.heap.size from Ac HV.o (Ac Ql.o.size Um.o));clear nb Qi Qm hU ae hp az gi P O8 Qf Qn Qk T;go_upto_region 16 with fail
       go_loop [18] (λsv=>∃s:Nat,s<=10/\sv=.int .i64 (s:Int)/\Hid (s=0\/∃t:Nat,s=t+1/\(t:Int)*t<c)) λsv=>10-(intOf sv).toNat
       case atStart=>exact⟨0,O,rfl,Z (Or.inl rfl)⟩
       case round=>
        obtain⟨s,ld,rfl,HS⟩:=hrel;have Uk:(s:Int)*s<=100:=by have:=Int.mul_le_mul (show(s:Int)<=10 by omega) (show(s:Int)<=10 by omega) O O;omega
        have Ue:(0:Int)<=(s:Int)*s:=Int.mul_nonneg O O;obtain⟨ss,bz⟩:=ex ((s:Int)*s:Int);rw[bz]at Uk Ue;have hw:IntKind.i64.wrap ((s:Int)*s)=ss:=by rw[bz,BH];omega
        have Qg:=Z bz;clear bz;by_cases gq:ss<c
        . have lj:s<10:=by
           rcases A4 s 10 with h|h
           . exact h
           . obtain rfl:s=10:=O
             have:=Qg.o;have:=Qh.o;omega
          have f4:IntKind.i64.wrap ((s:Int)+1)=(s:Int)+1:=by rw[BH];omega
          go_wp2_with fail
          go_round
          case rel=>exact⟨s+1,O,by go_num,Z (Or.inr ⟨s,rfl,by rw[Qg.o];exact gq⟩)⟩
          case measure=>simp[intOf];omega
        . obtain⟨a4,l4,c4,X,r4⟩:=Qd.o.poly2 (i:=0) rfl;have e4:=X.cell;by_cases jz:c<ss
          . have nB:=boxed_below Qc.o.1 Qd.o.2.2;have k0:=nB.cell;have f0:=nB.frozen;have HE:=Z (SY nB Qx.o r4 O9.o (by rw[Qe.o];omega) (Bt Qc.o.2 Qd.o.2.2));have Uy:=Z (show ∃t:Nat,c<(t+1:Int)*(t+1)/\(t:Int)*t<c by
             rcases HS.o with h|⟨t,h,m⟩
             . have e:=Qg.o;rw[h]at e;have e0:ss=0:=by rw[<-e];rfl
               have:=Qh.o;exfalso;omega
             . exact⟨t,by have e:=Qg.o;rw[h]at e;push_cast at e;rw[e];exact jz,m⟩)
            clear X r4 nB;go_wp2_with fail
            have k1:=HE.o.1;exact BA (by simp[results,Tryz.results31,go_sem,k1]) rfl ⟨_,_,_,_,(2:Int),rfl,HE.o.2.1,HE.o.2.2.1,by rw[Qu.o];exact Or.inr ⟨Qh.o.1,Qh.o.2,Uj.o.symm,Or.inr ⟨Uy.o,rfl,rfl⟩⟩,HE.o.2.2.2⟩
          . have Uq:ss=c:=O
            obtain⟨Uu,Ur,Ui⟩:=DX (show(s:Int)*s=c by rw[Qg.o];exact Uq) (λ(V:D)=>FM (s:Int) O O V) (Ol (c:=(s:Int)) O O);have Uf:=Z (show ∀p l c,V9.cell? ⟨B1,0,none⟩=some (C (some p) l c)->p.block<V9.heap.size from λp l c e=>by
             rw[e4]at e;cases e;exact vK r4 Qz.o)
            clear X r4 Uq Uk Ue HS Qg e4;go_upto_region 21 with(first
             |(go_at_call 35;refine(Ur.o _).mono ?_;clear Ur;rintro e wA ⟨uA,rfl,bf,aq⟩)
             |(go_at_call 35;refine(Ua.o _).mono ?_;rintro e wB ⟨uB,rfl,bg,aj⟩)
             |(go_at_call 38;refine(Ul.o (s:Int) Ui.o _ _ _ (bf.below aj) bg).mono ?_;rintro e ap ⟨u920,rfl,z,ay⟩;obtain⟨iw,di,ig,fh,ja,dz,ia,fx,rfl⟩:=Jf.form z))
            have d:=Bt (Bt aq aj) ay
            have R:=Bt d (Ba ap (E #[B iw,C di ig fh,B ja,C dz ia fx] 41))
            obtain⟨co,I⟩:=ex (ap.alloc (E #[B iw,C di ig fh,B ja,C dz ia fx] 41));obtain⟨BS,G⟩:=ex (ap.heap.size);obtain⟨y,hy⟩:=ex (Rat.divInt (s:Int) 1);rw[hy]at z;have HY:=Z hy;have g:DJ L (ap.alloc (E #[B iw,C di ig fh,B ja,C dz ia fx] 41)) [some (B1,.poly Q2),some (B2,.rat 1),some (B3,.rat 0),some (ap.heap.size,.rat y)]:=DJ.push ((Qd.o.take 3).below d) (.rat y) z;have Qy:K.heap.size<=ap.heap.size:=Ac Um.o d.size;rw[I,G]at g;rw[G]at Qy;rw[I]at R ⊢;rw[G];obtain⟨Ub,Ug,Uz⟩:=DX g (O9.o.below R) Qy;have Up:=Z (show ∀p l c,co.cell? ⟨B1,0,none⟩=some (C (some p) l c)->K.heap.size<=p.block/\p.block<co.heap.size from λp l c e=>by
             rw[R.cell (p:=⟨B1,0,none⟩) (An Qb.o.1.1 SZ.o)]at e;exact⟨FR.o p l c e,An (Uf.o p l c e) R.size⟩)
            have Qp:=Z (Ac SZ.o R.size);clear g I G R z d hy Qy Qd O9 bf aq bg aj ay FR Uf SZ;obtain⟨il,de,ib,ed,ix,b10,gv,fi,am,r10,gr,gu⟩:=Ub.o.rat (i:=3) rfl;obtain⟨e0,e1,e2,e3⟩:=am.cq;have Qq:∀p l c,Value.slice ra k rc=C (some p) l c->p.block<K.heap.size:=λp l c e=>An (Qs.o p l c e) Ql.o.size;obtain⟨mm,an,ah,cj,ii,jb,dj,gh,jl⟩:=SF (Ub.o.take 3) Ug.o Qp.o Qb.o.2 Qb.o.1 (λp l c p' l' c' A m=>by have h3:=Qq p l c A;have h4:=(Up.o p' l' c' m).1;omega) r10 (by rw[Qe.o];omega);obtain⟨jt,ju,jw,_⟩:=cj.form;subst jw;rw[show(Ef f k++[y]).length=k+1 by rw[Am,Qe.o];rfl]at cj ah dj;have nS:JQ an BS 41 (B il) (C de ib ed) (B ix) (C b10 gv fi):=(gh BS am.lt λp l c e=>by have:=Qq p l c e;have:=Uz.o;omega).trans am;have rS:Jf an (.agg #[B il,C de ib ed,B ix,C b10 gv fi]) y:=Dat.keep (.rat y) r10 jl (Or.inl rfl);have Uv:=Z (show ∀p l c p' l' c',Value.slice jt (k+1) ju=C (some p) l c->an.cell? ⟨B1,0,none⟩=some (C (some p') l' c')->p.block≠p'.block from λp l c p' l' c' A m=>by
             have Wc:an.cell? ⟨B1,0,none⟩=co.cell? ⟨B1,0,none⟩:=BT (gh B1 (An Qb.o.1.1 Qp.o) λq l c e=>by have A:=vJ Ug.o q l c e;have m:=Qb.o.1.1;omega);rw[Wc]at m;have h3:=Up.o p' l' c' m;rcases dj p l c A with⟨q,l2,c2,h4,h5⟩|h4
             . have:=Qq q l2 c2 h4;omega
             . omega)
            have Uc:=Z (λ(V:D) (h:Bl an V) (x1 x2 x3 x4:F) (hq:Jf V (.agg #[x1,x2,x3,x4]) (0-y))=>SF (ii.below h) (cj.below h) (Ac jb h.size) Qb.o.2 Qb.o.1 (λp l c p' l' c' A m=>by
             rw[h.cell (p:=⟨B1,0,none⟩) (An Qb.o.1.1 jb)]at m;exact Uv.o p l c p' l' c' A m) hq (by rw[Am,Qe.o];simp;omega))
            obtain⟨me,kg,m7,km,mj,b11,lk,kq,jq,r11,ke,kf⟩:=ii.rat (i:=2) rfl;have Ud:=Z (KA _ _ 0 y an r11 rS FO (Sq.of (k:=1) (HY.o ▸ DQ.divInt O Ui.o (Sm.one 1 O)) O));obtain⟨g0,g1,g2,g3⟩:=nS.cq;obtain⟨q0,q1,q2,q3⟩:=jq.cq;clear am r10 gr gu cj ii jb dj gh jl Qq jq r11 ke kf nS rS;go_upto_region 22 with(at_builtin;refine Br _ rfl _ _ 22 22 rfl _ _ rfl rfl _ _ ah ?_;clear ah e0 e1 e2 e3)
            go_upto_region 23 with(first
             |(go_at_call 41;refine Ud.o.mono ?_;clear Ud;rintro e mo ⟨u22,rfl,jk,jy⟩;obtain⟨mh,kh,m8,kn,ml,kj,ly,kt,rfl⟩:=Jf.form jk;obtain⟨mn,mr,ah,ij,ce,_⟩:=Uc.o _ jy _ _ _ _ jk;clear Uc)
             |(at_builtin;refine Br _ rfl _ _ 22 22 rfl _ _ rfl rfl _ _ ah ?_;clear ah))
            obtain⟨ki,ko,jx,_⟩:=ij.form;subst jx;obtain⟨a4,l4,c4,X,r4⟩:=ce.poly2 (i:=0) rfl;have e4:=X.cell;have nB:=boxed_below Qc.o.1 ce.2.2;have k0:=nB.cell;have f0:=nB.frozen;have HE:=Z (SY nB Qx.o r4 ij (by rw[Am,Am,Qe.o];simp;omega) (Bt Qc.o.2 ce.2.2));clear X r4 nB ij ce;go_wp2_with fail
            have k1:=HE.o.1;exact BA (by simp[results,Tryz.results31,go_sem,k1]) rfl ⟨_,_,_,_,(0:Int),rfl,HE.o.2.1,HE.o.2.2.1,by rw[Qu.o];exact Or.inr ⟨Qh.o.1,Qh.o.2,Uj.o.symm,Or.inl ⟨s,Uu.o,by rw[HY.o],rfl⟩⟩,HE.o.2.2.2⟩
end M3
section
open M3
variable{c:Int}
theorem Ll(z:Int):Rat.divInt z 1=(z:Rat):=by
 rw[AD];grind
def vO:∀c:Fin 100,0<c.val->nA [Rat.divInt (-(c.val:Int)) 1,0,1]=2:=EM
theorem vP{s:Nat}(n:(s:Int)*s<c)(o:c<(s+1:Int)*(s+1))(x:Rat):ev [Rat.divInt (-c) 1,0,1] x≠0:=λe=>by
 have d:ev ([-c,0,1].map λz:Int=>(z:Rat)) x=0:=by
  rw[<-e];simp only[List.map,ev];rw[Ll];rfl
 have j:=Rr (zs:=[-c,0,1]) DI d;have b:x.den=1:=by
  have f:(x.den:Int)∣1:=j;have:=Int.le_of_dvd O f;have:=x.den_pos;omega
 have l:x=(x.num:Rat):=by
  exact Rat.ext rfl b
 have g:x.num*x.num=c:=by
  have a:=(OY (Rat.divInt (-c) 1)).2 x;rw[e,l,Ll]at a;have i:((x.num*x.num:Int):Rat)=((c:Int):Rat):=by
   rw[Aq]
   have:((-c:Int):Rat)=-((c:Int):Rat):=Rat.intCast_neg _
   grind
  exact Rat.intCast_inj.1 i
 obtain⟨m,k⟩:=ex (x.num.natAbs:Nat);have a:(m:Int)*m=c:=by
  rw[<-g,<-k];exact Int.natAbs_mul_self' _
 rcases A4 s m with h|h
 . have:=Int.mul_le_mul (show(s+1:Int)<=m by omega) (show(s+1:Int)<=m by omega) O O;omega
 . have:=Int.mul_le_mul (show(m:Int)<=s by omega) (show(m:Int)<=s by omega) O O;omega
theorem Sa(f:Nat->Rat)(k:Nat)(y:Rat):FX (Ef f k) y=ev (EF f k) y:=by
 induction k with
 |zero=>show(1:Rat)=ev [1] y;rw[Jm]
 |succ k a=>
  have e:Ef f (k+1)=Ef f k++[f k]:=by unfold Ef;rw[List.range_succ,List.map_append];rfl
  rw[e,SV,a];show _=ev (Ji (EF f k) [0-f k,1]) y;rw[Jd,uz];show _*((y-f k)*1)=_;grind
theorem vQ{f:Nat->Rat}{k:Nat}{z R:List Rat}{o:Int}(h:O4 f k c z R o)(hl:(EF f k).length=k+1):∃d,MdA z R d/\o=(d.length:Int)-1/\R.length<=k+2/\z.length<=k+3:=by
 have b:(Ef f k).length=k:=by unfold Ef;simp
 have i:EF f k≠[]:=λe=>by rw[e]at hl;simp at hl
 rcases h with⟨_,rfl,rfl,rfl⟩|⟨u,v,rfl,n⟩
 . exact⟨[1],⟨SX f k,i,λy=>by rw[Sa,Jm,Rat.mul_one],λx=>by rw[Jm];decide,by rw[hl,b];rfl,Or.inl rfl⟩,rfl,O,O⟩
 . obtain⟨t,e⟩:=OY (Rat.divInt (-c) 1);have g:=JB (SX f k) t i DI;rw[hl]at g;have a:(Ji (EF f k) [Rat.divInt (-c) 1,0,1]).length=k+3:=by rw[g];simp
   have z0:Ji (EF f k) [Rat.divInt (-c) 1,0,1]≠[]:=λe=>by rw[e]at a;simp at a
   rcases n with⟨s,hs,rfl,rfl⟩|⟨⟨s,q,r⟩,rfl,rfl⟩
   . refine⟨[1],⟨Jq _ _,z0,λy=>?_,λx=>by rw[Jm];decide,by rw[a];simp[b],Or.inl rfl⟩,rfl,by simp[b],O⟩;rw[Jd,e,SV,SV,Sa,Jm,Ll,Ll];have j:((c:Int):Rat)=((s:Int):Rat)*((s:Int):Rat):=by rw[<-hs,Aq]
     have l:((-c:Int):Rat)=-((c:Int):Rat):=Rat.intCast_neg _;show _=_*((y-_)*1)*((y-_)*1)*1;rw[l,j];grind
   . refine⟨[Rat.divInt (-c) 1,0,1],⟨Jq _ _,z0,λy=>by rw[Jd,Sa],vP r q,by rw[a,b];rfl,Or.inr ⟨rfl,t,?_,?_⟩⟩,rfl,O,O⟩
     . show DN (1/(1:Rat)) _=_;rw[show(1:Rat)/1=1 by decide +kernel,Ii t]
     . obtain⟨m,p⟩:∃m:Nat,c=(m:Int):=⟨c.toNat,O⟩;rw[p];exact vO ⟨m,O⟩ (by show 0<m;omega)
end
namespace M3
variable{c o:Int}{R z:List Rat}{i k:Nat}{f:Nat->Rat}
def IL:NmOk 10065 8 2100000:=⟨DK,DK,DK,DK,DK,DK,DK⟩
def vR:SzOk 10065 8 2100000 10066 8:=⟨DK,DK,DK,DK,DK⟩
def vS(b:∀j,DQ 2000 (f j))(hk:k<=5)(h:O4 f k c z R o):Cd 10060 z:=by
 obtain⟨a,d⟩:=K8 b k O;rcases h with⟨_,rfl,_⟩|⟨c1,c2,rfl,_⟩
 . exact a.mono O
 . exact(a.mul (SB (Ol (c:=-c) O O))).mono O
theorem vT(d:∀j,DQ 2000 (f j))(h:O4 f k c z R o):∀j,Sq (cf R j):=by
 have g:∀v∈R,Sq v:=by
  have a:∀v∈Ef f k,Sq v:=λv hv=>by
   unfold Ef at hv;obtain⟨i,_,rfl⟩:=C2.1 hv;exact Sq.of (d i) O
  rcases h with⟨_,_,rfl,_⟩|⟨c1,c2,_,⟨s,hs,rfl,_⟩|⟨_,rfl,_⟩⟩
  . exact a
  . have l:s<=99:=by
     rcases A4 s 100 with h|h
     . omega
     . have:=Int.mul_le_mul (show(100:Int)<=s by omega) (show(100:Int)<=s by omega) O O;omega
    have b:DQ 1 (Rat.divInt (s:Int) 1):=DQ.divInt O (Ol (c:=(s:Int)) O O) (Sm.one 1 O);intro v hv;rcases Cp.1 hv with hv|hv
    . rcases Cp.1 hv with hv|hv
      . exact a v hv
      . rw[List.mem_singleton.1 hv];exact Sq.of b O
    . rw[List.mem_singleton.1 hv,show 0-Rat.divInt (s:Int) 1=-Rat.divInt (s:Int) 1 by grind];exact Sq.of b.neg O
  . exact a
 intro j;unfold cf;cases e:R[j]? with
 |none=>exact FO
 |some v=>exact g v (List.mem_of_getElem? e)
def vU{j:Nat}(h:j<R.length){x:Rat}:ER x (R.take (j+1))=ER x (R.take j)+(if cf R j=x then 1 else 0):=by
 rw[A9 h,us];have e:cf R j=R[j]:=by unfold cf;rw[AO h];rfl
 rw[e];rfl
def vV(R:List Rat){rs:List RtQ}{r:RtQ}(h:rs[i]?=some r):F4 (rs.take (i+1))=F4 (rs.take i)+(if r.lo<r.hi then 1 else 0)/\sC R (rs.take (i+1))=sC R (rs.take i)+Hx R r:=by
 have hl:=(AA.1 h).1;have e:rs[i]=r:=(AA.1 h).2;rw[A9 hl,e];unfold F4 sC;simp
def vW{rs:List RtQ}{b:Nat}(h:rs.length=b)(j:b<=8)(k:R.length<=7):F4 (rs.take i)<=8/\sC R (rs.take i)<=64:=by
 have c:∀l:List RtQ,F4 l<=l.length:=λl=>by
  induction l with
  |nil=>exact Aa _
  |cons r l a=>unfold F4 at a ⊢;rw[List.map_cons,List.sum_cons,Ah];split<;>omega
 have d:∀l:List RtQ,sC R l<=7*l.length:=λl=>by
  induction l with
  |nil=>exact Aa _
  |cons r l a=>
   have:=SW r.lo R;unfold sC at a ⊢;rw[List.map_cons,List.sum_cons,Ah];unfold Hx at a ⊢;split<;>omega
 have e:=c (rs.take i);have f:=d (rs.take i);have g:(rs.take i).length<=rs.length:=List.length_take_le' _ _;omega
def vX{K X:Nat}{r:RtQ}(h:RzOk K X r):Sq (Gi r):=by
 unfold Gi;split
 . exact FO
 . exact Sq.of h.lo (by have:=h.x2;omega)
def vY{m:Nat}{r:RtQ}(h:r.lo=r.hi):Xc m k r=r:=by
 cases k with
 |zero=>rfl
 |succ k=>rw[Xc,BF (by rw[h])]
def bU(a:Option Addr)(n cap:Nat)(S:Nat->ByteArray)(c t:Int)(w:D)(hc:∀j,j<n->∃b fm,a=some ⟨b,fm,none⟩/\b<w.heap.size/\w.cell? ⟨b,fm+j,none⟩=some (.string (S j)))(ed:-9223372036854775808<=c)(ei:c<=9223372036854775807)(di:Lib.TabIs Tryz.prog w "internal/strconv.uint64pow10" .u64 Lib.pow10Tab):
 Calls Tryz.prog 6 #[C a n cap,.int .i64 c,.int .i64 t] w λr w'=>r=.returned (B true)/\Bl w w':=by
 have Ql:=Z (vN a n cap S c w hc ed ei);obtain⟨f,hf⟩:=ex ((λj=>Ex (Jk (S j))):Nat->Rat);have HF:=Z (show ∀j,DQ 2000 (f j)from λj=>by rw[<-hf];exact Vq _);rw[hf]at Ql;obtain⟨k,hk⟩:=ex (min n 5);have Qj:=Z (show k<=5 by omega);rw[hk]at Ql;have AL:=Z λ(V:D) (h:Bl w V)=>vG V (I6 di h);have Ui:=Z di;clear hc hf hk di ed ei;go_enter Tryz.func6,Tryz.ntmps6
 go_upto_region 2 with(go_at_call 31;refine Ql.o.mono ?_;clear Ql;rintro e w1 ⟨u1,v1,z,R,o,rfl,hu,hR,hW,l⟩;obtain⟨bi,dt,bj,rfl⟩:=Je.form hu;obtain⟨aR,cR,e9,_⟩:=hR.open;subst e9)
 have Uh:=vS HF.o Qj.o hW;obtain⟨cc,hA,ho,fx,gh⟩:=vQ hW (K8 HF.o k (by have:=Qj.o;omega)).2;have cn:=hA;obtain⟨u,HO,Uj,Qq,Uk,Ub⟩:=IV hA ho (show z.length<=8 by have:=Qj.o;omega) (show R.length<=7 by have:=Qj.o;omega) (vT HF.o hW) λ(V:D) (x:F) (hx:Je V x z)=>ui (M:=10060) (n:=8) (X:=2100000) O O IL vR x z V hx cn.tz cn.z0 (by have:=Qj.o;omega) Uh;obtain⟨V1,hV⟩:=ex (w1.alloc (E #[C bi dt bj] 25));obtain⟨B1,ae⟩:=ex (w1.heap.size);have MM:DJ w (w1.alloc (E #[C bi dt bj] 25)) [some (w1.heap.size,.poly z)]:=DJ.push ((DJ.nil w).below l) (.poly z) hu;have Qx:=Ba w1 (E #[C bi dt bj] 25);rw[hV,ae]at MM;rw[hV]at Qx ⊢;rw[ae];have M1:=Z MM;have HR:=Z (hR.below Qx);clear MM hV ae Qx hu hR hW l Uh hA cn ho fx gh;obtain⟨a1,l1,c1,n1,r1⟩:=M1.o.poly2 (i:=0) rfl;have e0:=n1.cell;go_upto_region 3 with(go_at_call 12;refine(Ub.o _ _ r1).mono ?_;clear Ub;rintro e v2 ⟨u2,rs,rfl,gR,hP,ah⟩;obtain⟨a9,c9,rfl,gR⟩:=gR)
 obtain⟨GR,HP,Qv⟩:=DX gR hP ah;clear gR hP ah n1 r1 e0;go_upto_region 6 with fail
 obtain⟨NN,de⟩:=ex (rs.length);have Qy:=Z de;have Qi:=Z (show NN<=8 by
  have h1:=(HP.o.all IL u.o.tz u.o.z0).len;have h2:=Rg u.o.z0;have h3:=Uj.o;unfold nA at h1;omega)
 rw[de];clear de;go_loopw [11,12,13] (λov tv iv wr=>∃i:Nat,i<=NN/\ov=.int .i64 (F4 (rs.take i):Int)/\tv=.int .i64 (sC R (rs.take i):Int)/\iv=.int .i64 (i:Int)/\Hid (Bl v2 wr)) λ_ _ iv _=>NN-(intOf iv).toNat
 case atStart=>exact⟨0,As _,rfl,rfl,rfl,Z (BB _ _)⟩
 case round=>
  obtain⟨i,hi,rfl,rfl,rfl,HB⟩:=hrel;by_cases gn:i<NN
  . obtain⟨r,er⟩:∃r,rs[i]?=some r:=⟨_,AO (by have:=Qy.o;omega)⟩;obtain⟨g,x0,x1,x2,x3,x4,x5,x6,x7,x8,x9,gj,ea,A8⟩:=GR.o i r er;subst ea;have A0:=A8.below HB.o;have Qe:=List.mem_of_getElem? er;obtain⟨p9,t9,aq,ai⟩:=(HP.o.all IL u.o.tz u.o.z0).told r Qe;have Ud:=Z (ai.rz aq IL);have Qn:=Z (R4 _ _ _ r wr A0.2.2 Ud.o);obtain⟨ok,dh⟩:=ex (decide (¬r.lo<r.hi):Bool);rw[dh]at Qn;have Ua:=Z dh;obtain⟨x,hx⟩:=ex (Gi r);rw[hx]at Qn;have HX:=Z hx;obtain⟨L,N,Q,T,U,W,k6,k7,k8,s,P⟩:=A0.2.1;obtain⟨Qh,Qr,Uq⟩:=DX A8 Qe er;have gq:¬((i:Int)<0):=O
    have Ur:(i:Int)<(NN:Int):=O
    clear A0 A8 Qe er dh hx aq ai GR;go_upto_region 11 with(go_at_call 14;refine Qn.o.mono ?_;clear Qn;rintro e w8 ⟨u8,rfl,hu,l⟩;obtain⟨s8,a8,l8,c8,t8,b8,fi,d8,rfl⟩:=Jf.form hu)
    obtain⟨V8,hV⟩:=ex (w8.alloc (E #[B s8,C a8 l8 c8,B t8,C b8 fi d8] 41));obtain⟨d,ae⟩:=ex (w8.heap.size);have MM:DJ v2 (w8.alloc (E #[B s8,C a8 l8 c8,B t8,C b8 fi d8] 41)) [some (w8.heap.size,.rat x)]:=DJ.push ((DJ.nil v2).below (Bt HB.o l)) (.rat x) hu;rw[hV,ae]at MM;rw[hV];rw[ae];have H:=Z MM;obtain⟨_,_,_,_,es,et,bm,bn,cj,bu,ce,bz,dz⟩:=((HR.o.below Qv.o).below H.o.2.2).forms;have Ul:=Z dz;have Qu:=Z (show Sq x/\∀j,Sq (cf R j)from⟨HX.o ▸ vX Ud.o,Uk.o⟩);clear MM hV ae hu l dz L N Q T U W k6 k7 k8 s P;go_loopw [16,17] (λtv jv wq=>∃j:Nat,j<=R.length/\tv=.int .i64 ((if ok then ER x (R.take j)else 0:Nat):Int)/\jv=.int .i64 (j:Int)/\Hid (Bl V8 wq)) λ_ jv _=>R.length-(intOf jv).toNat
    case atStart=>exact⟨0,As _,by cases ok<;>rfl,rfl,Z (BB _ _)⟩
    case round=>
     obtain⟨j,hj,rfl,rfl,HQ⟩:=hrel;by_cases fg:j<R.length
     . have Um:=Qq.o;have q1:(j:Int)<(R.length:Int):=O
       have f4:IntKind.i64.wrap ((j:Int)+1)=(j:Int)+1:=by rw[BH];omega
       go_upto_region 13 with fail
       cases ok with
       |false=>
        go_quiet (fail)
        go_wp2_with fail
        go_roundw
        case rel=>exact⟨j+1,O,rfl,by go_num,Z (Kj HQ.o _)⟩
        case measure=>simp[intOf];omega
       |true=>
        obtain⟨fh,q,eg,hg,y0,y1,y2,y3⟩:=Ul.o j fg;subst eg;obtain⟨s9,ay,l9,az,t9,b9,s,d9,K,r9,_,_⟩:=H.o.rat (i:=0) rfl;have Qg:=Z λ(V:D) (h:Bl V8 V)=>XF _ _ (cf R j) x V (fh.below h) (r9.below h) (Qu.o.2 j) Qu.o.1;have HC:=Z (λ(V:D) (h:Bl V8 V)=>show(V.cell? ⟨q,j*4,none⟩=some (B (es j))/\V.cell? ⟨q,j*4+1,none⟩=some (C (bm j) (cj j) (bu j))/\V.cell? ⟨q,j*4+2,none⟩=some (B (et j))/\V.cell? ⟨q,j*4+3,none⟩=some (C (bn j) (ce j) (bz j)))/\(V.cell? ⟨d,0,none⟩=_/\V.cell? ⟨d,1,none⟩=_/\V.cell? ⟨d,2,none⟩=_/\V.cell? ⟨d,3,none⟩=_)from
         ⟨⟨(h.cell (p:=⟨q,_,none⟩) hg).trans y0,(h.cell (p:=⟨q,_,none⟩) hg).trans y1,(h.cell (p:=⟨q,_,none⟩) hg).trans y2,(h.cell (p:=⟨q,_,none⟩) hg).trans y3⟩,(K.below h).c0,(K.below h).c1,(K.below h).c2,(K.below h).c3⟩)
        obtain⟨cv,df⟩:=ex (Xe (cf R j) x);rw[df]at Qg;have Qs:=Z (show ER x (R.take (j+1))=ER x (R.take j)+(if cv=0 then 1 else 0)by
         rw[vU fg,<-df];simp only[Kq])
        have Ue:=Z (Ac (SW x (R.take j)) (List.length_take_le _ _));obtain⟨tn,dj⟩:=ex (ER x (R.take j));rw[dj]at Qs Ue;rw[show(if true=true then ER x (R.take j)else 0)=tn from dj];clear df dj hg y0 y1 y2 y3 fh K r9;have f5:IntKind.i64.wrap ((tn:Int)+1)=(tn:Int)+1:=by rw[BH];have:=Ue.o;omega
        have hq:=HQ.o.drew;obtain⟨⟨aj,am,an,ap⟩,v,y,A,G⟩:=HC.o _ hq;by_cases hz:cv=0
        . subst hz;go_region_held3 (λw'=>(w'.cell? ⟨q,j*4,none⟩=some (B (es j))/\w'.cell? ⟨q,j*4+1,none⟩=some (C (bm j) (cj j) (bu j))/\w'.cell? ⟨q,j*4+2,none⟩=some (B (et j))/\w'.cell? ⟨q,j*4+3,none⟩=some (C (bn j) (ce j) (bz j)))/\w'.cell? ⟨d,0,none⟩=some (B s9)/\w'.cell? ⟨d,1,none⟩=some (C ay l9 az)/\w'.cell? ⟨d,2,none⟩=some (B t9)/\w'.cell? ⟨d,3,none⟩=some (C b9 s d9)) (first|(with_reducible exact⟨⟨aj,am,an,ap⟩,v,y,A,G⟩)|(go_keep;done))
           (first|(go_at_call 32;refine(Qg.o _ hq).mono ?_;clear Qg;rintro e v5 ⟨rfl,l⟩;replace hq:=Bt hq l;clear l aj am an ap v y A G;obtain⟨⟨aj,am,an,ap⟩,v,y,A,G⟩:=HC.o _ hq))
          go_wp2_with fail
          go_roundw
          case rel=>exact⟨j+1,O,by rw[Qs.o];rfl,by go_num,Z hq⟩
          case measure=>simp[intOf];omega
        . have gr:(cv==0)=false:=by simp[hz]
          go_region_held3 (λw'=>(w'.cell? ⟨q,j*4,none⟩=some (B (es j))/\w'.cell? ⟨q,j*4+1,none⟩=some (C (bm j) (cj j) (bu j))/\w'.cell? ⟨q,j*4+2,none⟩=some (B (et j))/\w'.cell? ⟨q,j*4+3,none⟩=some (C (bn j) (ce j) (bz j)))/\w'.cell? ⟨d,0,none⟩=some (B s9)/\w'.cell? ⟨d,1,none⟩=some (C ay l9 az)/\w'.cell? ⟨d,2,none⟩=some (B t9)/\w'.cell? ⟨d,3,none⟩=some (C b9 s d9)) (first|(with_reducible exact⟨⟨aj,am,an,ap⟩,v,y,A,G⟩)|(go_keep;done))
           (first|(go_at_call 32;refine(Qg.o _ hq).mono ?_;clear Qg;rintro e v5 ⟨rfl,l⟩;replace hq:=Bt hq l;clear l aj am an ap v y A G;obtain⟨⟨aj,am,an,ap⟩,v,y,A,G⟩:=HC.o _ hq))
          go_wp2_with fail
          go_roundw
          case rel=>exact⟨j+1,O,by rw[Qs.o,BE hz];rfl,by go_num,Z hq⟩
          case measure=>simp[intOf];omega
     . have q1:¬(j:Int)<(R.length:Int):=O
       have Uf:R.take j=R:=Af O;rw[Uf];have Um:=Qq.o;have f4:IntKind.i64.wrap ((i:Int)+1)=(i:Int)+1:=by rw[BH];have:=Qi.o;omega
       have Qc:=Z (vV R Uq.o);obtain⟨ir,bf⟩:=ex (F4 (rs.take i));obtain⟨sc,bg⟩:=ex (sC R (rs.take i));rw[bf,bg]at Qc;rw[bf,bg];have Qw:=Z (show ir<=8/\sc<=64 by rw[<-bf,<-bg];exact vW Qy.o Qi.o Qq.o);clear Uf bf bg;cases ok with
       |false=>
        have I:r.lo<r.hi:=by have:=Ua.o;simpa using this
        have f5:IntKind.i64.wrap ((ir:Int)+1)=(ir:Int)+1:=by rw[BH];have:=Qw.o;omega
        have f6:IntKind.i64.wrap (sc:Int)=(sc:Int):=by rw[BH];have:=Qw.o;omega
        have Un:=Z (((u.o.irr HP.o IL).2 r Qr.o I));have Qd:=Z λ(V:D) (h:Bl V8 V)=>aO _ r V (Qh.o.below (Bt H.o.2.2 h)).2.2;rw[Un.o]at Qd;have Uo:=Z (show Hx R r=0 by unfold Hx;rw[BF I]);have Qo:=Z I;clear I;go_upto_region 15 with fail
        go_quiet (fail)
        have hq:=Kj HQ.o nq;obtain⟨L,N,Q,T,U,W,k6,k7,k8,s,P⟩:=(Qh.o.below (Bt H.o.2.2 hq)).2.1;go_wp2_with(go_at_call 16;refine(Qd.o _ hq).mono ?_;clear Qd;rintro e v9 ⟨rfl,ah⟩)
        go_roundw
        case rel=>exact⟨i+1,O,by rw[Qc.o.1,BF Qo.o];rfl,by rw[Qc.o.2,Uo.o];rfl,by go_num,Z (Bt H.o.2.2 (Bt hq ah))⟩
        case measure=>simp[intOf];omega
       |true=>
        have I:¬r.lo<r.hi:=BW Ua.o;have Qk:r.lo=x:=by rw[<-HX.o];unfold Gi;rw[BE I]
        obtain⟨tm,ck⟩:=ex (r.tm);have Qz:ER x R=tm:=by rw[<-Qk,<-ck];exact(u.o.tm HP.o IL Qr.o I).symm
        rw[show(if true=true then ER x R else 0)=tm from Qz];obtain⟨Up,Uc,Qd⟩:=DX (show tm<=7 by have:=SW x R;omega) (show Hx R r=tm by unfold Hx;rw[BE I,Qk,Qz]) λ(V:D) (h:Bl V8 V)=>aO _ r V (Qh.o.below (Bt H.o.2.2 h)).2.2;rw[ck]at Qd;obtain⟨m,hm⟩:∃m:Nat,max 0 (min t 30)=(m:Int):=⟨(max 0 (min t 30)).toNat,O⟩;obtain⟨p9,t9,aq,ai⟩:=(HP.o.all IL u.o.tz u.o.z0).told r Qr.o;obtain⟨s,dx,_⟩:=ai.dg aq IL (show m<=30 by omega);obtain⟨s9,ay,l9,az,t9,b9,gi,d9,K,r9,_,_⟩:=H.o.rat (i:=0) rfl;have Qt:=λ(V:D) (h:Bl V8 V)=>I6 Ui.o (M1.o.2.2.trans ((Bt Qv.o (Bt H.o.2.2 h)).mono M1.o.2.2.size));have Qm:=Z λ(V:D) (h:Bl V8 V)=>R9 _ _ s m _ r t V (Qh.o.below (Bt H.o.2.2 h)).2.2 dx O (Qt V h);rw[vY ((ai.ok.rat I).1),Qk]at Qm;have Qp:=Z λ(V:D) (h:Bl V8 V)=>Q3 _ x (m:Int) m V (r9.below h) Qu.o.1 O (Qt V h);obtain⟨DD,co⟩:=ex ((⟨(dT m x).toArray⟩:ByteArray):ByteArray);rw[co]at Qm;rw[show(⟨(XS (x.num*10^m/(x.den:Int)) m).toArray⟩:ByteArray)=DD from co]at Qp;have HC:=Z λ(V:D) (h:Bl V8 V)=>And.intro (Qh.o.below (Bt H.o.2.2 h)).2.1 (show V.cell? ⟨d,0,none⟩=_/\V.cell? ⟨d,1,none⟩=_/\V.cell? ⟨d,2,none⟩=_/\V.cell? ⟨d,3,none⟩=_ from⟨(K.below h).c0,(K.below h).c1,(K.below h).c2,(K.below h).c3⟩);have f5:IntKind.i64.wrap ((sc:Int)+(tm:Int))=(sc:Int)+(tm:Int):=by rw[BH];have:=Qw.o;have:=Up.o;omega
        have Qo:=Z I;clear I Qk ck Qz aq ai dx K r9 Qt co;go_upto_region 15 with fail
        have hq:=HQ.o.drew;obtain⟨⟨L,N,Q,T,U,W,k6,k7,k8,s,P⟩,v,y,A,G⟩:=HC.o _ hq;go_region_held3 (λw'=>w'.cell? ⟨g,i*11,none⟩=some x0/\w'.cell? ⟨g,i*11+1,none⟩=some x1/\w'.cell? ⟨g,i*11+2,none⟩=some x2/\w'.cell? ⟨g,i*11+3,none⟩=some x3/\w'.cell? ⟨g,i*11+4,none⟩=some x4/\w'.cell? ⟨g,i*11+5,none⟩=some x5/\w'.cell? ⟨g,i*11+6,none⟩=some x6/\w'.cell? ⟨g,i*11+7,none⟩=some x7/\w'.cell? ⟨g,i*11+8,none⟩=some x8/\w'.cell? ⟨g,i*11+9,none⟩=some x9/\w'.cell? ⟨g,i*11+10,none⟩=some gj/\w'.cell? ⟨d,0,none⟩=some (B s9)/\w'.cell? ⟨d,1,none⟩=some (C ay l9 az)/\w'.cell? ⟨d,2,none⟩=some (B t9)/\w'.cell? ⟨d,3,none⟩=some (C b9 gi d9)) (first|(with_reducible exact⟨L,N,Q,T,U,W,k6,k7,k8,s,P,v,y,A,G⟩)|(go_keep;done))
         (first
          |(go_at_call 16;refine(Qd.o _ hq).mono ?_;clear Qd;rintro e fo ⟨rfl,l⟩;replace hq:=Bt hq l;clear l L N Q T U W k6 k7 k8 s P v y A G;obtain⟨⟨L,N,Q,T,U,W,k6,k7,k8,s,P⟩,v,y,A,G⟩:=HC.o _ hq)
          |(go_at_call 19;refine(Qm.o _ hq).mono ?_;clear Qm;rintro e fo ⟨rfl,l⟩;replace hq:=Bt hq l;clear l L N Q T U W k6 k7 k8 s P v y A G;obtain⟨⟨L,N,Q,T,U,W,k6,k7,k8,s,P⟩,v,y,A,G⟩:=HC.o _ hq)
          |(go_at_call 33;refine(Qp.o _ hq).mono ?_;clear Qp;rintro e fo ⟨rfl,l⟩;replace hq:=Bt hq l;clear l L N Q T U W k6 k7 k8 s P v y A G;obtain⟨⟨L,N,Q,T,U,W,k6,k7,k8,s,P⟩,v,y,A,G⟩:=HC.o _ hq))
        go_wp2_with fail
        go_roundw
        case rel=>exact⟨i+1,O,by rw[Qc.o.1,BE Qo.o];rfl,by rw[Qc.o.2,Uc.o];rfl,by go_num,Z (Bt H.o.2.2 hq)⟩
        case measure=>simp[intOf];omega
        all_goals exact⟨⟨i+1,O,by rw[Qc.o.1,BE Qo.o];rfl,by rw[Qc.o.2,Uc.o];rfl,by go_num,Z (Bt H.o.2.2 hq)⟩,by simp[intOf];omega⟩
  . have Ur:¬(i:Int)<(NN:Int):=O
    have ht:rs.take i=rs:=Af (by have:=Qy.o;omega);have Qf:=(u.o.irr HP.o IL).1;have Qb:=u.o.told (HP.o.all IL u.o.tz u.o.z0) R λa h=>h;have ho:o=((cc.length-1:Nat):Int):=by
     have:=HO.o
     have:1<=cc.length:=by
      rcases u.o.c with e|e
      . rw[e];simp
      . omega
     omega
    rw[ht,Qf,Qb,ho];obtain⟨m,hm⟩:=ex (cc.length-1);rw[hm];have Ug:=Z (M1.o.2.2.trans ((Bt Qv.o HB.o).mono M1.o.2.2.size));clear ht Qf Qb ho hm;go_wp2_with(go_at_call 21;refine(AL.o _ Ug.o).mono ?_;clear AL;rintro e v3 ⟨rfl,ah⟩)
    go_ret;exact⟨rfl,Bt Ug.o ah⟩
