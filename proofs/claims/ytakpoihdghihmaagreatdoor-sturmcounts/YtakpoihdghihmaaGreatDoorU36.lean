import Derived.Test.YtakpoihdghihmaaGreatDoorU35
set_option linter.all false
open Go.Value renaming slice->F,agg->E,bool->S,pointer->L
open Go renaming World->X,Value->I
open Go.Proofs.Tryz renaming prog->C
open Go.Obj renaming cells->o
set_option maxRecDepth 99999
set_option maxHeartbeats 0
namespace Go.Proofs.YtakpoihdghihmaaGreatDoor
open Go.IntKind renaming i64->nP
open Proofs.Tryz
open Go.RowKit Go.Shelf
attribute [local go_sem] Oper.semAt_some
namespace M3
variable{ps qs:Ja}{n:Nat}
theorem kI(D:I)(q:Rat)(w:X)(t:Jj w D q)(B:Sq q):
 Calls C 206 #[D] w λe G=>∃u,e=.returned u/\Jj G u (Xa q)/\Bl w G:=by
 obtain⟨ay,T,ap,ah,bc,ad,am,aj,rfl⟩:=Jj.form t;obtain⟨W0,y,c⟩:=Kf 37 (.rat q) t 37 (.rat 0) (D8 _);have z:=Y B;clear t B;go_enter func206,ntmps206
 go_upto_region 1 with fail
 rw[y.o];clear y;obtain⟨s1,Q,l1,c1,t1,W,k1,d1,k,r1,M,N⟩:=c.o.rat (i:=0) J;have d:=Bx.all k;obtain⟨s2,R,l2,c2,t2,b2,k2,d2,a,r2,i2,j2⟩:=c.o.rat (i:=1) J;have b:=Bx.all a;have f:=Bx.f a;obtain⟨g,l,H⟩:=DX (NA _ _ q 0 W0 r1 (D8 _) z.o KB) (λ(V:X) (h:Bl W0 V)=>NB _ _ 0 q V (D8 _) (r1.below h) KB z.o) r1;obtain⟨n,v⟩:=ex (Ej q 0);rw[v]at g;have x:=Y v;clear v r1 M N;by_cases A:n<0
 . have m:=Y (show 0-q=Xa q by
    have s:=(U5 q).1 (by rw[x.o];exact A);unfold Xa;rw[BG s];grind)
   rw[m.o]at l;go_wp2_with(first
    |(go_at_call 27;refine g.o.mono ?_;clear g;rintro e P ⟨rfl,hq⟩;clear d;have d:=Bx.all (k.below hq);clear b;have b:=Bx.all (a.below hq);clear f;have f:=Bx.f (a.below hq))
    |(go_at_call 26;refine(l.o _ hq).mono ?_;clear l;rintro e w2 ⟨u2,rfl,j,K⟩;obtain⟨az,U,aq,ai,bf,ae,an,ak,rfl⟩:=Jj.form j;have hq:=Bt hq K;clear d;have d:=Bx.all (k.below hq);clear b;have b:=Bx.all (a.below hq);clear f;have f:=Bx.f (a.below hq)))
   have r:=Bt c.o.2.2 hq;have p:=c.o.ge 1 J;exact A0 (by simp[results,results206,go_sem,b]) J ⟨_,J,j.put4 (a.below hq) J J J J _ _ _ _,Jn r p _ _ _ _⟩
 . have m:=Y (show Xa q=q by
    have s:¬q<0:=λh=>A (by rw[<-x.o];exact(U5 q).2 h);unfold Xa;rw[BD s])
   go_wp2_with(go_at_call 27;refine g.o.mono ?_;clear g;rintro e P ⟨rfl,hq⟩;clear d;have d:=Bx.all (k.below hq);clear b;have b:=Bx.all (a.below hq);clear f;have f:=Bx.f (a.below hq))
   have j:=H.o.below hq;rw[<-m.o]at j;have r:=Bt c.o.2.2 hq;have p:=c.o.ge 1 J;exact A0 (by simp[results,results206,go_sem,b]) J ⟨_,J,j.put4 (a.below hq) J J J J _ _ _ _,Jn r p _ _ _ _⟩
def kJ(M N:I)(x y:Nat)(w:X)(r:Jm w M (x:Int))(s:Jm w N (y:Int))(K:0<x)(D:Sok (x:Int))(G:Sok (y:Int)):
 Calls C 180 #[M,N] w λe P=>∃u,e=.returned u/\Jm P u ((Nat.lcm x y:Nat):Int)/\Bl w P:=by
 have Q:=Y (show((Int.gcd x y:Nat):Int)≠0 by have:=Nat.gcd_pos_of_pos_left y K;exact Int.natCast_ne_zero.2 (by show Nat.gcd x y≠0;omega));obtain⟨az,ah,ap,ak,rfl⟩:=Jm.form2 r;obtain⟨bc,ai,aq,am,rfl⟩:=Jm.form2 s;obtain⟨W0,t,z⟩:=Hh 35 (.int ((x:Int))) r 35 (.int ((y:Int))) s 35 (.int 0) (ET _);have l:=Y D;have g:=Y G;clear r s D G;go_enter func180,ntmps180
 go_upto_region 1 with fail
 rw[t.o];clear t;clear K;refine EU Dl [[],[],[],[1,2],[0,3,3],[4],[5],[5],[5],[],[],[9,6,4,0,1,2,3,4,5,6,9,10],[10,7,11,0,1,2,3,4,5,6,7,9,10,11],[8,12,0,1,2,3,4,5,6,7,8,9,10,11,12]] [.int ((y:Int)),.int ((x:Int)),.int ((y:Int)),.int (((Int.gcd x y:Nat):Int)),.tup2 (.int ((y:Int)/((Int.gcd x y:Nat):Int))) (.int ((y:Int)%((Int.gcd x y:Nat):Int))),.tup2 (.int ((y:Int)/((Int.gcd x y:Nat):Int))) (.int ((y:Int)%((Int.gcd x y:Nat):Int))),.int ((y:Int)/((Int.gcd x y:Nat):Int)),.int ((y:Int)%((Int.gcd x y:Nat):Int)),.eq (S true),.ptr,.ptr,.eq undef,.eq undef,.eq (S true)] [9,10,11,12] (λb v V=>DH w V [some (w.heap.size,.int ((x:Int))),some (w.heap.size+1,.int ((y:Int))),some (w.heap.size+1+1,.int 0),nb b v 0 2 (.int 0) (.int ((y:Int)/((Int.gcd x y:Nat):Int))),nb b v 1 3 (.int 0) (.int ((y:Int)%((Int.gcd x y:Nat):Int)))]) ((z.o.none).none).drew (No (.vl J λ_ j=>Gr 1 j)<|No (.vl J λ_ j=>Gr 0 j)<|No (.vl J λ_ j=>Gr 1 j)<|No (.cl λh _=>KA _ _ (x:Int) (y:Int) _ (h.g 1) (h.g 2) (by have:=l.o.words;omega) (by have:=g.o.words;omega))<|No (.cl λh _=>Se (S0 _ _ (y:Int) ((Int.gcd x y:Nat):Int) _ (h.g 0) (h.g 3) Q.o (by have:=g.o.words;omega) (by have:=(l.o.gcd g.o).words;omega)))<|No (.vl J λh _=>mw (h.g 4))<|No (.vl J λh _=>Sl (h.g 5))<|No (.vl J λh _=>Sn (h.g 5))<|No (.vl J λh _=>So (h.g 5))<|No (.wr J λ_ j=>Hy 3 j)<|No (.wr J λ_ j=>Hy 4 j)<|No (.wr J λh j=>Gs 3 j (h.g 6) (hp:=h.g 9))<|No (.wr J λh j=>Gs 4 j (h.g 7) (hp:=h.g 10))<|No (.vl J λh _=>aw (h.g 8)) Stp.end_)
  λf T hF c=>?_
 refine DT ?_;rw[hF.e 8,hF.e 13];obtain⟨B3,n⟩:=hF.p 9;obtain⟨B4,q⟩:=hF.p 10;have c:=Ei c;simp only[n,q]at c;rw[n,q];have a:=Y c;clear c hF n q;clear z;obtain⟨s5,a5,l5,c5,n5,U⟩:=a.o.int (i:=0) J;have ad:=Bx.all n5;obtain⟨s6,a6,l6,c6,n6,W⟩:=a.o.int (i:=3) J;have ae:=Bx.all n6;obtain⟨s7,a7,l7,c7,d,i7⟩:=a.o.int (i:=2) J;have m:=Bx.all d;have B:=Bx.f d;have k:=Y (XF _ _ (x:Int) ((y:Int)/((Int.gcd x y:Nat):Int)) T U W (by have h1:=l.o.words;have h2:=(g.o.div (y:=((Int.gcd x y:Nat):Int))).words;omega));rw[kG]at k;go_wp2_with(go_at_call 69;refine k.o.mono ?_;clear k;rintro e w2 ⟨u2,rfl,H,hq⟩;obtain⟨bf,aj,ay,an,rfl⟩:=Jm.form2 H;clear m;have m:=Bx.all (d.below hq);clear B;have B:=Bx.f (d.below hq))
 have R:=Bt a.o.2.2 hq;have A:=a.o.ge 2 J;exact A0 (by simp[results,results180,go_sem,m]) J ⟨_,J,H.box (d.below hq) J J,(R.setCell (p:=⟨_,0,none⟩) A _).setCell (p:=⟨_,1,none⟩) A _⟩
def K1(F:Nat->Rat)(n i:Nat)(S:Ja):Prop:=S.length=n/\∀j,cf S j=if j<i then F j else 0
theorem K1.next{F:Nat->Rat}{i:Nat}{S:Ja}(h:K1 F n i S)(a:i<n):K1 F n (i+1) (S.set i (F i)):=by
 refine⟨by rw[Fg];exact h.1,λj=>?_⟩;rw[XY _ _ _ _ (by rw[h.1];exact a),h.2 j];grind
theorem K1.done{F:Nat->Rat}{S T:Ja}(h:K1 F n n S)(hT:Jc T=T)(hF:∀j,j<n->cf T j=F j)(a:∀j,n<=j->cf T j=0):Jc S=T:=by
 rw[<-hT];refine YL λj=>?_;rw[h.2 j];grind
def U6(v vf:I)(ps:Ja)(f:Rat)(w:X)(h:Jh w v ps)(Q:Jj w vf f)(aj:Sqs ps)(ak:Sq f)(am:∀i,Sq (cf ps i*f)):
 Calls C 181 #[v,vf] w λe w'=>∃u,e=.returned u/\Jh w' u (DQ f ps)/\Bl w w':=by
 obtain⟨m,la,r,rfl⟩:=h.form;obtain⟨s,a,l,c,t,b,k,d,rfl⟩:=Jj.form Q;obtain⟨aq,an,ap,ay,_⟩:=h.row.forms;obtain⟨V0,ae,y⟩:=Hh 25 (.cell 25 (F m la r)) Eh 37 (.rat f) Q 25 (.cell 25 (F none 0 0)) Eh;have M1:=y.o;obtain⟨n,hn⟩:=ex (ps.length:Nat);obtain⟨e0,ai⟩:=ex ((n:Int)-1:Int);have H:=Y (YI (E #[F m la r]) ps V0 (h.below M1.2.2));rw[hn,ai]at H;have bc:e0+1=(n:Int):=O
 have bf:nP.wrap (n:Int)=(n:Int):=by rw[BJ];omega
 have Ql:∀W:X,(Instr.makeSlice 22 (.int .i64 (n:Int)) (.int .i64 (n:Int))).run C W=.ok (F (some ⟨W.heap.size,0,none⟩) n n) (W.alloc (o (Y0 n) 37)):=λW=>kH n O W;obtain⟨HP,Qg,Qk,HN⟩:=Di (λ(V:X) (hB:Bl w V)=>h.below hB) aj am (show ps.length=n from hn);have Qc:n<=1099511627776:=O
 have Qn:=Y ak;clear h aj am aq an ap hn ai M1 ay Q ak;go_enter func181,ntmps181
 go_upto_region 1 with fail
 rw[ae.o];have c0:=(y.o.cell (i:=0) J).1.cell;go_upto_region 2 with(go_at_call 30;refine H.o.mono ?_;clear H;rintro e D ⟨rfl,ah⟩)
 have K:DH w (D.alloc (o (Y0 n) 37)) [some (w.heap.size,.cell 25 (F m la r)),some (w.heap.size+1,.rat f),some (w.heap.size+1+1,.cell 25 (F none 0 0)),some (D.heap.size,.rats (List.replicate n 0))]:=(y.o.below ah).push (.rats (List.replicate n 0)) (Ps _ n);obtain⟨V1,N⟩:=ex (D.alloc (o (Y0 n) 37));obtain⟨A,R⟩:=ex (D.heap.size);rw[N,R]at K;rw[N,R];have Qf:=Y K;clear K N R ah c0 y ae Ql;go_wp2;go_loopw [13] (λiv wr=>∃(i:Nat) (S:Ja),i<=n/\iv=.int .i64 (i:Int)/\Hid (K1 (λj=>cf ps j*f) n i S)/\Hid (DH w wr [some (w.heap.size,.cell 25 (F m la r)),some (w.heap.size+1,.rat f),some (w.heap.size+1+1,.cell 25 (F none 0 0)),some (A,.rats S)])) λiv _=>n-(intOf iv).toNat
 case atStart=>exact⟨0,_,Ap _,J,Y ⟨AW,λj=>by rw[J1,BD O]⟩,Qf⟩
 case round=>
  obtain⟨i,S,hi,rfl,g,x⟩:=hrel;clear Qf;by_cases U:i<n
  . have bg:(i:Int)<(n:Int):=O
    have Qh:=Y (show i<S.length by rw[g.o.1];exact U);have az:=Y (show i<ps.length by rw[HN.o];exact U);go_wp2_with fail
    have Qm:=x.o.drew;refine EU Dl [[],[],[],[],[2,3],[],[4,5,4],[0,1,0,1,2,3,4,5,6],[7,6,6,0,1,2,3,4,5,6]] [.eq (F (some ⟨A,0,none⟩) n n),.eq (.int .i64 (i:Int)),.eq (E #[F m la r]),.eq (.int .i64 (i:Int)),.rat (cf ps i),.rat f,.rat (cf ps i*f),.eq (L (some ⟨A,i*4,none⟩)),.eq undef] [8] (λb _ V=>DH w V [some (w.heap.size,.cell 25 (F m la r)),some (w.heap.size+1,.rat f),some (w.heap.size+1+1,.cell 25 (F none 0 0)),some (A,if b.getD 0 false then .rats (S.set i (cf ps i*f))else .rats S)]) Qm (No (.vl J λ_ _=>mv)<|No (.vl J λ_ _=>mv)<|No (.vl J λ_ j=>Hi 0 j)<|No (.vl J λ_ _=>mv)<|No (.cl λh j=>c2 (h.e 2) (h.e 3) (by have q:=Kp _ ps (i:Int) _ (HP.o _ j.2.2);rw[Nj]at q;exact q))<|No (.vl J λ_ j=>F3 1 j)<|No (.cl λh _=>Kn _ _ (cf ps i) f _ (h.g 4) (h.g 5) (Qg.o.at i) Qn.o)<|No (.vl J λh _=>⟨_,by refine DT ?_;rw[h.e 0,h.e 1];go_simp,J⟩)<|No (.wr J λh j=>Mv 3 j Qh.o (h.g 6) (h.e 7)) Stp.end_)
     λf V hF z=>?_
    refine DT ?_;rw[hF.e 0,hF.e 1,hF.e 2,hF.e 3,hF.e 7];have z:=Ei z;have HO:=Y z;clear z hF;go_wp2_with fail
    go_roundw
    case rel=>exact⟨i+1,_,O,by go_num,Y (g.o.next U),HO⟩
    case measure=>simp[intOf];omega
  . obtain rfl:i=n:=O
    have hE:=x.o.rats (i:=3) J;have G:=hE.row (n:=i) (cap:=i) (by rw[g.o.1];exact Aa _) (Aa _) O Qc;rw[Ad (by rw[g.o.1];exact Aa _)]at G;have M:=Y (eX _ S wr G (Sqs.of λj=>by
     rw[g.o.2 j];split
     . exact Qk.o j
     . exact KB))
    rw[g.o.done (T:=DQ f ps) (JK _ _) (λj hj=>YY _ _ _) λj hj=>by rw[YY,JZ (by rw[HN.o];exact hj),Fm]]at M;clear hE G;go_wp2_with(go_at_call 25;refine M.o.mono ?_;clear M;rintro e w5 ⟨u5,rfl,ad,_,P⟩;obtain⟨a7,l7,c7,rfl⟩:=ad.form;have B:=boxed_below (x.o.cell (i:=2) J).1 P;have x0:=B.cell;have x1:=B.frozen;have Qi:=Y (Ez B (F a7 l7 c7) ad.row);have Qj:=Y ((Bt x.o.2.2 P).setCell (p:=⟨w.heap.size+1+1,0,none⟩) (by show w.heap.size<=w.heap.size+1+1;omega) (F a7 l7 c7));clear ad P B)
    exact A0 (by simp[results,results181,go_sem,x0]) J ⟨_,J,⟨_,J,Qi.o⟩,Qj.o⟩
def kK(p:Ja)(n:Nat):((Int.gcd ((Xg p n:Nat):Int) (cf p n).num:Nat):Int)=((Xg p (n+1):Nat):Int):=rfl
def kL(p:Ja)(n:Nat):((Nat.lcm (Xv p n) (cf p n).den:Nat):Int)=((Xv p (n+1):Nat):Int):=rfl
theorem P8(D:Int)(M:Nat)(v:I)(ps:Ja)(w:X)(h:Jh w v ps)(ae:Jc ps=ps)(hD:D≠0)(ad:Sm M D)(P:Do D M ps)(hM:M<=1000000000):
 Calls C 137 #[v] w λe w'=>∃u,e=.returned u/\Jh w' u (JL ps)/\Bl w w':=by
 obtain⟨c,la,d,rfl⟩:=h.form;obtain⟨bf,az,bc,bg,_⟩:=h.row.forms;have Qa:∀i,DP M (cf ps i):=λi=>(P i).smq hD ad;obtain⟨HG,HL,Qb⟩:=DX (λi=>Sok.of (UW (λj=>(Qa j).1) i) O:∀i,Sok ((Xg ps i:Nat):Int)) (λi=>Sok.of (UV hD ad P i) O:∀i,Sok ((Xv ps i:Nat):Int)) (show Sqs ps from Sqs.of λi=>Sq.of (Qa i) hM);have HF:=Y (show ps≠[]->Sq ((Xv ps ps.length:Rat)/(Xg ps ps.length:Rat))/\∀i,Sq (cf ps i*((Xv ps ps.length:Rat)/(Xg ps ps.length:Rat)))from λg=>by
  have h1:=UX ae g (P.ln hD);refine⟨?_,λi=>?_⟩
  . have h2:((Xv ps ps.length:Rat)/(Xg ps ps.length:Rat))=Rat.divInt ((Xv ps ps.length:Nat):Int) ((Xg ps ps.length:Nat):Int):=by grind[CO,AP]
    rw[h2];exact Sq.of (DP.divInt (Int.natCast_ne_zero.2 (Ly ae g)) (UV hD ad P _) (UW (λj=>(Qa j).1) _)) hM
  . obtain⟨z,h3,h4⟩:=h1 i;have h5:cf ps i*((Xv ps ps.length:Rat)/(Xg ps ps.length:Rat))=(z:Rat):=by rw[<-h4];unfold JL;rw[YY]
    rw[h5];have h6:1<=M:=by
     by_cases h7:1<=M
     . exact h7
     . exfalso
       obtain rfl:M=0:=O
       grind[Sm]
    exact Sq.of ((Nh (D:=1) DK h3 DI).smq DK (Sm.one M h6)) hM)
 have Qj:=Y (λg=>Ly ae g:ps≠[]->Xg ps ps.length≠0);obtain⟨W0,an,M1⟩:=Hh 25 (.cell 25 (F c la d)) Eh 25 (.cell 25 (F none 0 0)) Eh 35 (.int (((Xg ps 0:Nat):Int))) (ET _) (w:=w);obtain⟨n,hn⟩:=ex (ps.length:Nat);obtain⟨e0,ay⟩:=ex ((n:Int)-1:Int);have Qc:=Y λ(V:X) (K:Bl w V)=>YI (E #[F c la d]) ps V (h.below K);rw[hn,ay]at Qc;have bm:e0+1=(n:Int):=O
 have bn:nP.wrap (n:Int)=(n:Int):=by rw[BJ];omega
 have HP:=Y λ(V:X) (K:Bl w V)=>h.below K;have HN:=Y (show ps.length=n from hn);have ce:n<=1099511627776:=O
 have Qd:=Y λ(V:X)=>Kd 1 O O V;clear h bf az bc hn ay bg ae hD ad P hM Qa;go_enter func137,ntmps137
 go_upto_region 2 with fail
 rw[an.o];clear an;go_upto_region 3 with(go_at_call 29;refine(Qd.o _).mono ?_;clear Qd;rintro e w1 ⟨u1,rfl,ak,ap⟩;obtain⟨s1,a1,l1,c1,rfl⟩:=Jm.form2 ak)
 obtain⟨V1,s⟩:=ex (w1.alloc (o #[S s1,F a1 l1 c1] 35));obtain⟨k,r⟩:=ex (w1.heap.size);have a:DH w (w1.alloc (o #[S s1,F a1 l1 c1] 35)) [some (w.heap.size,.cell 25 (F c la d)),some (w.heap.size+1,.cell 25 (F none 0 0)),some (w.heap.size+1+1,.int (((Xg ps 0:Nat):Int))),some (w1.heap.size,.int (((Xv ps 0:Nat):Int)))]:=DH.push (M1.o.below ap) (.int (((Xv ps 0:Nat):Int))) ak;rw[s,r]at a;rw[s];rw[r];have M2:Hid (DH w V1 [some (w.heap.size,.cell 25 (F c la d)),some (w.heap.size+1,.cell 25 (F none 0 0)),some (w.heap.size+1+1,.int (((Xg ps 0:Nat):Int))),some (k,.int (((Xv ps 0:Nat):Int)))]):=Y (a);clear M1;clear a s r;clear ak ap;have c0:=(M2.o.cell (i:=0) J).1.cell;go_upto_region 4 with(go_at_call 30;refine(Qc.o _ M2.o.2.2).mono ?_;clear Qc;rintro e w2 ⟨rfl,aq⟩)
 have ML:Hid (DH w w2 [some (w.heap.size,.cell 25 (F c la d)),some (w.heap.size+1,.cell 25 (F none 0 0)),some (w.heap.size+1+1,.int (((Xg ps 0:Nat):Int))),some (k,.int (((Xv ps 0:Nat):Int)))]):=Y (M2.o.below aq);clear c0 aq M2;go_loopw [12] (λiv wr=>∃i:Nat,i<=n/\iv=.int .i64 (i:Int)/\Hid (DH w wr [some (w.heap.size,.cell 25 (F c la d)),some (w.heap.size+1,.cell 25 (F none 0 0)),some (w.heap.size+1+1,.int (((Xg ps i:Nat):Int))),some (k,.int (((Xv ps i:Nat):Int)))])) λiv _=>n-(intOf iv).toNat
 case atStart=>exact⟨0,Ap _,J,ML⟩
 case round=>
  obtain⟨i,hi,rfl,M3⟩:=hrel;clear ML;by_cases bt:i<n
  . have bu:(i:Int)<(n:Int):=O
    go_upto_region 6 with fail
    refine EU Dl [[],[],[],[1,2],[3,3],[0,4,4],[5,5,0,1,2,3,4,5]] [.int (((Xg ps i:Nat):Int)),.eq (E #[F c la d]),.eq (Value.int IntKind.i64 ↑i),.rat (cf ps i),.int ((cf ps i).num),.int (((Xg ps (i+1):Nat):Int)),.eq undef] [6] (λb _ V=>DH w V [some (w.heap.size,.cell 25 (F c la d)),some (w.heap.size+1,.cell 25 (F none 0 0)),some (w.heap.size+1+1,if b.getD 0 false then .int (((Xg ps (i+1):Nat):Int))else .int (((Xg ps i:Nat):Int))),some (k,.int (((Xv ps i:Nat):Int)))]) M3.o.drew (No (.vl J λ_ j=>Gr 2 j)<|No (.vl J λ_ j=>Hi 0 j)<|No (.vl J λ_ _=>mv)<|No (.cl λh j=>c2 (h.e 1) (h.e 2) (by have q:=Kp _ ps (i:Int) _ (HP.o _ j.2.2);rw[Nj]at q;exact q))<|No (.cl λh _=>iS _ (cf ps i) _ (h.g 3))<|No (.cl λh _=>by have q:=KA _ _ ((Xg ps i:Nat):Int) (cf ps i).num _ (h.g 0) (h.g 4) (by have:=(HG.o i).words;omega) (by have:=(Qb.o.at i).num.words;omega);rw[kK]at q;exact q)<|No (.wr J λh j=>Gs 2 j (h.g 5)) Stp.end_)
     λf V3 hF a=>?_
    refine DT ?_;rw[hF.e 1,hF.e 2];have a:=Ei a;have m:=Y a;clear a hF;clear M3;go_upto_region 7 with fail
    refine EU Dl [[],[],[],[1,2],[3,3],[0,4,4],[5,5,0,1,2,3,4,5]] [.int (((Xv ps i:Nat):Int)),.eq (E #[F c la d]),.eq (Value.int IntKind.i64 ↑i),.rat (cf ps i),.int (((cf ps i).den:Int)),.int (((Xv ps (i+1):Nat):Int)),.eq undef] [6] (λb _ V=>DH w V [some (w.heap.size,.cell 25 (F c la d)),some (w.heap.size+1,.cell 25 (F none 0 0)),some (w.heap.size+1+1,.int (((Xg ps (i+1):Nat):Int))),some (k,if b.getD 0 false then .int (((Xv ps (i+1):Nat):Int))else .int (((Xv ps i:Nat):Int)))]) m.o.drew (No (.vl J λ_ j=>Gr 3 j)<|No (.vl J λ_ j=>Hi 0 j)<|No (.vl J λ_ _=>mv)<|No (.cl λh j=>c2 (h.e 1) (h.e 2) (by have q:=Kp _ ps (i:Int) _ (HP.o _ j.2.2);rw[Nj]at q;exact q))<|No (.cl λh _=>F4 _ (cf ps i) _ (h.g 3))<|No (.cl λh _=>by have q:=kJ _ _ (Xv ps i) (cf ps i).den _ (h.g 0) (h.g 4) (US ps i) (HL.o i) (Qb.o.at i).den;rw[kL]at q;exact q)<|No (.wr J λh j=>Gs 3 j (h.g 5)) Stp.end_)
     λf V5 hF a=>?_
    refine DT ?_;rw[hF.e 1,hF.e 2];have a:=Ei a;have M5:=Y a;clear a hF;clear m;go_wp2_with fail
    go_roundw
    case rel=>exact⟨i+1,O,by go_num,M5⟩
    case measure=>simp[intOf];omega
  . obtain rfl:i=n:=O
    obtain⟨s6,a6,l6,c6,n6,i6⟩:=M3.o.int (i:=2) J;obtain⟨Qi,Ql⟩:=n6.cp;obtain⟨s7,a7,l7,c7,n7,i7⟩:=M3.o.int (i:=3) J;obtain⟨Qf,Qm⟩:=n7.cp;have l:=Y (M9 _ _ ((Xv ps i:Nat):Int) ((Xg ps i:Nat):Int) wr i7 i6 (HL.o i) (HG.o i));have Qe:=(M3.o.cell (i:=1) J).1;obtain⟨r9,aj⟩:=ex (Rat.divInt ((Xv ps i:Nat):Int) ((Xg ps i:Nat):Int));rw[aj]at l;have Qg:=Y aj;clear aj;by_cases g:ps=[]
    . have A:=Y (show decide (((Xg ps i:Nat):Int)≠0)=false by rw[<-HN.o,g];decide);rw[A.o]at l;have W:=Y (show JL ps=[]by rw[g];rfl);clear g A;go_wp2_with(go_at_call 28;refine l.o.mono ?_;clear l;rintro e y ⟨u4,rfl,ah,N⟩;obtain⟨T,B,R,G,U,b9,Q,H,rfl⟩:=Jj.form ah;have t:=boxed_below (boxed_below Qe N) (Ba y (o #[S T,F B R G,S U,F b9 Q H] 37));have x0:=t.cell;have x1:=t.frozen)
      rw[W.o];exact A0 (by simp[results,results137,go_sem,x0]) J ⟨_,J,TK _,((Bt M3.o.2.2 N).alloc (by have:=M3.o.2.2.size;have:=N.size;omega) _).setCell (p:=⟨w.heap.size+1,0,none⟩) (by show w.heap.size<=w.heap.size+1;omega) _⟩
    . have A:=Y (show decide (((Xg ps i:Nat):Int)≠0)=true by
       refine BH ?_;rw[<-HN.o];exact Int.natCast_ne_zero.2 (Qj.o g))
      rw[A.o]at l;have W:=Y (show r9=(Xv ps ps.length:Rat)/(Xg ps ps.length:Rat)by rw[<-Qg.o,CO,AP,AP,HN.o]);have HT:=Y (show DQ r9 ps=JL ps by rw[W.o];rfl);have HS:=Y (show Sq r9/\∀j,Sq (cf ps j*r9)by rw[W.o];exact HF.o g);clear g A;have H2:=Y λ(V:X) (K:Bl w V) (x:I) (hx:Jj V x r9)=>U6 (E #[F c la d]) x ps r9 V (HP.o V K) hx Qb.o HS.o.1 HS.o.2;rw[HT.o]at H2;go_upto_region 12 with(go_at_call 28;refine l.o.mono ?_;clear l;rintro e y ⟨u4,rfl,ah,N⟩;obtain⟨T,B,R,G,U,b9,Q,H,rfl⟩:=Jj.form ah)
      clear Qi Ql Qf Qm;obtain⟨V8,s⟩:=ex (y.alloc (o #[S T,F B R G,S U,F b9 Q H] 37));obtain⟨B8,r⟩:=ex (y.heap.size);have a:DH w (y.alloc (o #[S T,F B R G,S U,F b9 Q H] 37)) [some (w.heap.size,.cell 25 (F c la d)),some (w.heap.size+1,.cell 25 (F none 0 0)),some (w.heap.size+1+1,.int (((Xg ps i:Nat):Int))),some (k,.int (((Xv ps i:Nat):Int))),some (y.heap.size,.rat r9)]:=DH.push (M3.o.below N) (.rat r9) ah;rw[s,r]at a;rw[s];rw[r];have m:Hid (DH w V8 [some (w.heap.size,.cell 25 (F c la d)),some (w.heap.size+1,.cell 25 (F none 0 0)),some (w.heap.size+1+1,.int (((Xg ps i:Nat):Int))),some (k,.int (((Xv ps i:Nat):Int))),some (B8,.rat r9)]):=Y (a);clear M3;clear a s r;obtain⟨T,B,R,G,U,b9,Q,H,n9,r9,i9,j9⟩:=m.o.rat (i:=4) J;obtain⟨bh,bi,bj,bk⟩:=n9.cq;have c0:=(m.o.cell (i:=0) J).1.cell;have n1:=(m.o.cell (i:=1) J).1;have HQ:=Y m.o.2.2;go_wp2_with(go_at_call 181;refine(H2.o _ HQ.o _ r9).mono ?_;clear H2;rintro e w5 ⟨u5,rfl,am,ai⟩;obtain⟨a7,l7,c7,rfl⟩:=am.form;have t:=boxed_below n1 ai;have x0:=t.cell;have x1:=t.frozen;have Qk:=Y (NJ t (x:=F a7 l7 c7) am);have Qh:=Y ((Bt HQ.o ai).setCell (p:=⟨w.heap.size+1,0,none⟩) (by show w.heap.size<=w.heap.size+1;omega) (F a7 l7 c7));clear am ai t)
      exact A0 (by simp[results,results137,go_sem,x0]) J ⟨_,J,Qk.o,Qh.o⟩
theorem kN(va vb:I)(ps qs:Ja)(w:X)(D:Jh w va ps)(G:Jh w vb qs)(an:Sqs ps)(ay:Sqs qs)(aq:qs≠[])(ap:∀i,i<=ps.length+1-qs.length->Sq (Xa (cf qs (qs.length-1))^i))(az:∀i,Sq (cf ps i*EY ps qs)):
 Calls C 182 #[va,vb] w λe w'=>∃u,e=.returned u/\Jh w' u (Xw ps qs)/\Bl w w':=by
 obtain⟨m,M⟩:=ex (qs.length-1:Nat);have Qs:=Ac.2 aq;have Qo:ps.length<=1099511627776:=by
  obtain⟨g,la,k,rfl⟩:=D.form;have:=D.row.forms;omega
 have Qk:qs.length<=1099511627776:=by
  obtain⟨c,lb,d,rfl⟩:=G.form;have:=G.row.forms;omega
 obtain⟨L,B⟩:=ex (Xa (cf qs m):Rat);obtain⟨N,hN⟩:=ex (ps.length+1-qs.length:Nat);obtain⟨e1,ak⟩:=ex ((ps.length:Int)-1:Int);have Qh:(qs.length:Int)-1=(m:Int):=O
 obtain⟨A,bt⟩:=ex (e1-(m:Int):Int);obtain⟨t,bu⟩:=ex (A+1:Int);have ce:nP.wrap A=A:=by rw[BJ];omega
 have cj:nP.wrap t=t:=by rw[BJ];omega
 obtain⟨Qb,Qg,Qr,Qm,Qc,HT,Ql,Qj⟩:=FZ (show(∀i:Nat,(i:Int)<t↔i<N)/\N<=1099511627777 from⟨λi=>by omega,O⟩) Qh ak B (show ∀i,i<=N->Sq (L^i)from λi hi=>by rw[<-B,<-M];exact ap i O) (show DQ (L^N) ps=Xw ps qs by unfold Xw EY;rw[M,B,hN]) (show ∀i,Sq (cf ps i*L^N)from λi=>by have:=az i;unfold EY at this;rwa[M,B,hN]at this) an;have Qp:=Y ay;clear ap az an ay aq hN B M Qs Qo Qk ak Qh;obtain⟨g,la,k,rfl⟩:=D.form;obtain⟨c,lb,d,rfl⟩:=G.form;obtain⟨W0,ai,M1⟩:=Hh 25 (.cell 25 (F g la k)) Eh 25 (.cell 25 (F c lb d)) Eh 25 (.cell 25 (F none 0 0)) Eh (w:=w);have HP:=Y λ(V:X) (hB:Bl w V)=>D.below hB;have HQ:=Y λ(V:X) (hB:Bl w V)=>G.below hB;clear D G;go_enter func182,ntmps182
 go_upto_region 1 with fail
 rw[ai.o];clear ai;refine EU Dl [[],[],[1],[0,2,2],[3,3],[],[5,4,4,0,1,2,3,4,5]] [.eq (E #[F c lb d]),.eq (E #[F c lb d]),.eq (.int .i64 (m:Int)),.rat (cf qs m),.rat L,.ptr,.eq undef] [5,6] (λb v V=>DH w V [some (w.heap.size,.cell 25 (F g la k)),some (w.heap.size+1,.cell 25 (F c lb d)),some (w.heap.size+1+1,.cell 25 (F none 0 0)),nb b v 0 1 (.rat 0) (.rat L)]) (M1.o.none).drew (No (.vl J λ_ j=>Hi 1 j)<|No (.vl J λ_ j=>Hi 1 j)<|No (.cl λh j=>c1 (h.e 1) (rv (Qg.o ▸ YI _ qs _ (HQ.o _ j.2.2))))<|No (.cl λh j=>c2 (h.e 0) (h.e 2) (by have q:=Kp _ qs (m:Int) _ (HQ.o _ j.2.2);rw[Nj]at q;exact q))<|No (.cl λh _=>Qm.o ▸ kI _ (cf qs m) _ (h.g 3) (Qp.o.at m))<|No (.wr J λ_ j=>Sk 3 j)<|No (.wr J λh j=>PG 3 j (h.g 4) (hp:=h.g 5)) Stp.end_)
  λf V2 hF a=>?_
 refine DT ?_;rw[hF.e 0,hF.e 1,hF.e 2];obtain⟨s,ad⟩:=hF.p 5;have a:=Ei a;simp only[ad]at a;rw[ad];have M2:=Y a;clear a hF ad;clear M1;have U:=Y λ(V:X)=>Kd 1 O O V;have HB:=U;have W:=Y λ(V:X) (x y:I) (hx:Jm V x 1) (hy:Jm V y 1)=>M9 x y 1 1 V hx hy Sok.one Sok.one;rw[show decide ((1:Int)≠0)=true from J,show Rat.divInt 1 1=L^0 by rw[Rat.pow_zero];rfl]at W;go_upto_region 3 with(first
  |(go_at_call 29;refine(U.o _).mono ?_;clear U;rintro e w3 ⟨u3,rfl,K,aj⟩)
  |(go_at_call 29;refine(HB.o _).mono ?_;clear HB;rintro e w4 ⟨u4,rfl,bc,ah⟩;have K:=K.below ah)
  |(go_at_call 28;refine(W.o _ _ _ K bc).mono ?_;clear W;rintro e H ⟨u5,rfl,r,z⟩;obtain⟨s9,a9,l9,c9,t9,b9,k9,d9,rfl⟩:=Jj.form r))
 obtain⟨V4,n⟩:=ex (H.alloc (o #[S s9,F a9 l9 c9,S t9,F b9 k9 d9] 37));obtain⟨B4,ae⟩:=ex (H.heap.size);have a:DH w (H.alloc (o #[S s9,F a9 l9 c9,S t9,F b9 k9 d9] 37)) [some (w.heap.size,.cell 25 (F g la k)),some (w.heap.size+1,.cell 25 (F c lb d)),some (w.heap.size+1+1,.cell 25 (F none 0 0)),some (s,.rat L),some (H.heap.size,.rat (L^0))]:=DH.push (((M2.o.below aj).below ah).below z) (.rat (L^0)) r;rw[n,ae]at a;rw[n];rw[ae];have M3:Hid (DH w V4 [some (w.heap.size,.cell 25 (F g la k)),some (w.heap.size+1,.cell 25 (F c lb d)),some (w.heap.size+1+1,.cell 25 (F none 0 0)),some (s,.rat L),some (B4,.rat (L^0))]):=Y (a);clear M2;clear a n ae;clear K bc r aj ah z;refine EU Dl [[],[0],[],[2,1],[1,3],[4],[]] [.eq (E #[F g la k]),.eq (.int .i64 e1),.eq (E #[F c lb d]),.eq (.int .i64 (m:Int)),.eq (.int .i64 A),.eq (.int .i64 t),.eq (.int .i64 0)] [] (λ_ _ V=>DH w V [some (w.heap.size,.cell 25 (F g la k)),some (w.heap.size+1,.cell 25 (F c lb d)),some (w.heap.size+1+1,.cell 25 (F none 0 0)),some (s,.rat L),some (B4,.rat (L^0))]) M3.o.drew (No (.vl J λ_ j=>Hi 0 j)<|No (.cl λh j=>c1 (h.e 0) (rv (Qr.o ▸ YI _ ps _ (HP.o _ j.2.2))))<|No (.vl J λ_ j=>Hi 1 j)<|No (.cl λh j=>c1 (h.e 2) (rv (Qg.o ▸ YI _ qs _ (HQ.o _ j.2.2))))<|No (.vl J λh _=>⟨(.int .i64 A),by refine DT ?_;rw[h.e 1,h.e 3];go_simp,J⟩)<|No (.vl J λh _=>⟨(.int .i64 t),by refine DT ?_;rw[h.e 4];go_simp,J⟩)<|No (.vl J λ_ _=>mv) Stp.end_)
  λf V6 hF a=>?_
 refine DT ?_;rw[hF.e 0,hF.e 1,hF.e 2,hF.e 3,hF.e 4,hF.e 5,hF.e 6];have M4:=Y a;clear a hF;clear M3;go_wp2;go_loopw [25] (λiv wr=>∃i:Nat,i<=N/\iv=.int .i64 (i:Int)/\Hid (DH w wr [some (w.heap.size,.cell 25 (F g la k)),some (w.heap.size+1,.cell 25 (F c lb d)),some (w.heap.size+1+1,.cell 25 (F none 0 0)),some (s,.rat L),some (B4,.rat (L^i))])) λiv _=>N-(intOf iv).toNat
 case atStart=>exact⟨0,Ap _,J,M4⟩
 case round=>
  clear M4;obtain⟨i,hi,rfl,l⟩:=hrel;by_cases am:i<N
  . have Qe:=(Qb.o.1 i).2 am;have bn:=Qb.o.2;obtain⟨s7,a7,l7,c7,t7,b7,k7,d7,n7,r7,i7,j7⟩:=l.o.rat (i:=3) J;have bi:=n7.kb;obtain⟨s8,a8,l8,c8,t8,b8,k8,d8,Q,r8,i8,j8⟩:=l.o.rat (i:=4) J;have Qi:=Q.kb;have Qf:=Q.fb;have R:=Y (Kn _ _ (L^i) L wr r8 r7 (Qc.o i O) (by have:=Qc.o 1 O;rwa[Rat.pow_one]at this));rw[<-Rat.pow_succ]at R;go_upto_region 6 with(go_at_call 91;refine R.o.mono ?_;clear R;rintro e w6 ⟨u6,rfl,bf,hq⟩;obtain⟨s8,a8,l8,c8,t8,b8,k8,d8,rfl⟩:=Jj.form bf;clear Qi;have Qi:=(Q.below hq).kb;clear Qf;have Qf:=(Q.below hq).fb)
    obtain⟨V9,n⟩:=ex ((((w6.setCell ⟨B4,0,none⟩ (S s8)).setCell ⟨B4,1,none⟩ (F a8 l8 c8)).setCell ⟨B4,2,none⟩ (S t8)).setCell ⟨B4,3,none⟩ (F b8 k8 d8));have a:DH w ((((w6.setCell ⟨B4,0,none⟩ (S s8)).setCell ⟨B4,1,none⟩ (F a8 l8 c8)).setCell ⟨B4,2,none⟩ (S t8)).setCell ⟨B4,3,none⟩ (F b8 k8 d8)) [some (w.heap.size,.cell 25 (F g la k)),some (w.heap.size+1,.cell 25 (F c lb d)),some (w.heap.size+1+1,.cell 25 (F none 0 0)),some (s,.rat L),some (B4,.rat (L^(i+1)))]:=DH.putRat (l.o.below hq) (i:=4) J bf;rw[n]at a;rw[n];have M6:Hid (DH w V9 [some (w.heap.size,.cell 25 (F g la k)),some (w.heap.size+1,.cell 25 (F c lb d)),some (w.heap.size+1+1,.cell 25 (F none 0 0)),some (s,.rat L),some (B4,.rat (L^(i+1)))]):=Y (a);clear l;clear a n;go_wp2_with fail
    grind[intOf]
  . have Qe:¬(i:Int)<t:=λh=>am ((Qb.o.1 i).1 h);obtain rfl:i=N:=O
    obtain⟨dh,bj,de,bk,di,b10,co,bm,bg,r10,ck,cn⟩:=l.o.rat (i:=4) J;have bh:=bg.kb;have c0:=(l.o.cell (i:=0) J).1.cell;have n1:=(l.o.cell (i:=2) J).1;have Qd:=Y l.o.2.2;have T:=Y (U6 (E #[F g la k]) _ ps (L^i) wr (HP.o wr Qd.o) r10 Qj.o (Qc.o i (Aa _)) Ql.o);rw[HT.o]at T;go_wp2_with(go_at_call 181;refine T.o.mono ?_;clear T;rintro e H ⟨u5,rfl,r,z⟩;obtain⟨a7,l7,c7,rfl⟩:=r.form;have P:=boxed_below n1 z;have x0:=P.cell;have x1:=P.frozen;have Qq:=Y (NJ P (x:=F a7 l7 c7) r);have Qn:=Y ((Bt Qd.o z).setCell (p:=⟨w.heap.size+1+1,0,none⟩) (by show w.heap.size<=w.heap.size+1+1;omega) (F a7 l7 c7));clear r z P)
    exact A0 (by simp[results,results182,go_sem,x0]) J ⟨_,J,Qq.o,Qn.o⟩
theorem kO{A:Nat}(q:D9 A ps)(d:D9 A qs)(tq:Jc qs=qs)(q0:qs≠[])(c:1<=A)(K:4*((ps.length+2)*(A+1))<=1000000000):
 Sqs ps/\Sqs qs/\(∀i,i<=ps.length+1-qs.length->Sq (Xa (cf qs (qs.length-1))^i))/\(∀i,Sq (cf ps i*EY ps qs))/\Sqs (Xw ps qs)/\(∀i,DP A (cf qs i))/\
 ∃l:Int,Dvn 1 1 l ((ps.length+2)*A+1) A (Xw ps qs) qs:=by
 have x:(ps.length+2)*(A+1)=(ps.length+2)*A+(ps.length+2):=DI
 have M:=Ac.2 q0;obtain⟨l,n,p⟩:=d (qs.length-1);have s:l≠0:=λe=>by
  have:=Jt tq q0;rw[p,e]at this;exact this J
 have H:Xa (cf qs (qs.length-1))=((l.natAbs:Int):Rat):=by
  rw[p];unfold Xa;have a:((l:Rat)<0)↔l<0:=by
   rw[show(0:Rat)=((0:Int):Rat)from J];exact Rat.intCast_lt_intCast
  split
  . rename_i h;rw[a]at h;rw[<-Rat.intCast_neg];congr 1;omega
  grind
 have j:∀i:Nat,∃z:Int,Sm (i*A+1) z/\Xa (cf qs (qs.length-1))^i=(z:Rat):=λi=>by
  refine⟨(l.natAbs:Int)^i,?_,?_⟩
  . refine Sm.powZ ?_ i;unfold Sm at n ⊢;rwa[AA]
  grind
 have m:∀(k:Nat) (z:Int),Sm k z->k<=1000000000->1<=k->Sq (z:Rat):=λk z w v a=>Sq.of ((Nh (D:=1) DK w DI).smq DK (Sm.one k a)) v;have G:ps.length+1-qs.length<=ps.length:=O
 have r:∀i:Nat,i<=ps.length->i*A<=(ps.length+2)*A:=λi u=>Ae _ O;have f:D9 ((ps.length+2)*A+1) (Xw ps qs):=λi=>by
  obtain⟨z,a,b⟩:=q i;obtain⟨y,g,t⟩:=j (ps.length+1-qs.length);refine⟨z*y,(a.mul g).mono ?_,?_⟩
  . have B:(ps.length+1-qs.length+1)*A<=(ps.length+2)*A:=Ae _ O;grind
  . unfold Xw EY;rw[YY,b,t,AH]
 have hA9:A<=(ps.length+2)*A:=by
  grind
 refine⟨Sqs.of λi=>Sq.of (q.smq c i) O,Sqs.of λi=>Sq.of (d.smq c i) O,λi u=>?_,λi=>?_,Sqs.of λi=>Sq.of (f.smq O i) O,d.smq c,l,?_⟩
 . obtain⟨z,a,b⟩:=j i;rw[b];exact m _ z a (by have:=r i O;omega) O
 . obtain⟨z,a,b⟩:=f i;have g:cf ps i*EY ps qs=(z:Rat):=by rw[<-b];unfold Xw;rw[YY]
   rw[g];exact m _ z a O O
 . refine⟨DK,Sm.one _ O,f.cdl,DK,Sm.one _ c,d.cdl,s,n,?_⟩;grind[CO]
def kP(tp:Jc ps=ps)(tq:Jc qs=qs)(q0:qs≠[]):(Xw ps qs).length=ps.length:=Yy (P4 tq q0) tp
def kQ(A:Nat)(va vb:I)(ps qs:Ja)(w:X)(M:Jh w va ps)(N:Jh w vb qs)(wp:D9 A ps)(wq:D9 A qs)(tp:Jc ps=ps)(tq:Jc qs=qs)(q0:qs≠[])(k:1<=A)(ad:4*((ps.length+2)*(A+1))<=1000000000)(hr:Ln A (JI ps qs)):
 Calls C 138 #[va,vb] w λe w'=>∃u,e=.returned u/\Jh w' u (XO ps qs)/\Bl w w':=by
 obtain⟨s1,s2,s3,s4,s5,s6,l,n⟩:=kO wp wq tq q0 k ad;have b1:(ps.length+2)*(A+1)=(ps.length+2)*A+(ps.length+2):=DI
 have Qo:=Ac.2 q0;obtain⟨m,q⟩:=ex ((Xw ps qs).length-(qs.length-1));have Qg:m<=ps.length:=by rw[kP tp tq q0]at q;omega
 have b2:m*(A+1)<=ps.length*(A+1):=Ae _ Qg;have b3:(ps.length+2)*(A+1)=ps.length*(A+1)+2*(A+1):=AU _ _ _;have Qj:=Y (λ(V:X) (x y:I) (d:Jh V x (Xw ps qs)) (g:Jh V y qs)=>ySplit_n A x y (Xw ps qs) qs V d g s5 s6 (JK _ _) tq q0 (by
  rw[q];exact n.sizes O))
 have Qf:=(n.rem q).1;have z:=n.den m;have Qm:=Y λ(V:X) (x:I) (d:Jh V x (JI (Xw ps qs) qs))=>P8 (1*l^m) ((ps.length+2)*A+1+m*(A+1)+1) x (JI (Xw ps qs) qs) V d (YO _ _) z.1 z.2 (λi=>(Qf i).mono O) O;have D:=UZ tq q0 hr;have W:=Sqs.of λi=>Sq.of (D.1.smq k i) O;have Qh:Sqs (Ys [] (JL (JI (Xw ps qs) qs))):=Sqs.of λi=>Sq.of (D.2.smq k i) O;have Qn:=Y λ(V:X) (y:I) (g:Jh V y (JL (JI (Xw ps qs) qs)))=>dZ _ y [] (JL (JI (Xw ps qs) qs)) V (TK V) g (Sqs.of λi=>by rw[YB];exact KB) W Qh;have Qi:=Y λ(V:X) (x y:I) (d:Jh V x ps) (g:Jh V y qs)=>kN x y ps qs V d g s1 s2 q0 s3 s4;clear s1 s2 s3 s4 s5 s6 n b1 Qo q Qg b2 b3 Qf z D W Qh wp wq tp tq q0 k ad hr;obtain⟨Q,la,R,rfl⟩:=M.form;obtain⟨r,lb,s,rfl⟩:=N.form;obtain⟨W0,ae,U⟩:=Hh 25 (.cell 25 (F Q la R)) Eh 25 (.cell 25 (F r lb s)) Eh 25 (.cell 25 (F none 0 0)) Eh (w:=w);have HP:=Y λ(V:X) (G:Bl w V)=>M.below G;have T:=Y λ(V:X) (G:Bl w V)=>N.below G;clear M N;go_enter func138,ntmps138
 go_upto_region 1 with fail
 rw[ae.o];refine EU Dl [[],[],[0,1],[],[2,3,2],[4],[5],[5],[5],[],[],[9,6,4,0,1,2,3,4,5,6,9,10],[10,7,11,0,1,2,3,4,5,6,7,9,10,11],[8,12,0,1,2,3,4,5,6,7,8,9,10,11,12]] [.eq (E #[F Q la R]),.eq (E #[F r lb s]),.poly (Xw ps qs),.eq (E #[F r lb s]),.tup2 (.poly (JA (Xw ps qs) qs)) (.poly (JI (Xw ps qs) qs)),.tup2 (.poly (JA (Xw ps qs) qs)) (.poly (JI (Xw ps qs) qs)),.poly (JA (Xw ps qs) qs),.poly (JI (Xw ps qs) qs),.eq (S true),.ptr,.ptr,.eq undef,.eq undef,.eq (S true)] [9,10,11,12] (λb v V=>DH w V [some (w.heap.size,.cell 25 (F Q la R)),some (w.heap.size+1,.cell 25 (F r lb s)),some (w.heap.size+1+1,.cell 25 (F none 0 0)),nb b v 0 2 (.poly []) (.poly (JA (Xw ps qs) qs)),nb b v 1 3 (.poly []) (.poly (JI (Xw ps qs) qs))]) ((U.o.none).none).drew (No (.vl J λ_ j=>Hi 0 j)<|No (.vl J λ_ j=>Hi 1 j)<|No (.cl λh j=>c2 (h.e 0) (h.e 1) (Qi.o _ _ _ (HP.o _ j.2.2) (T.o _ j.2.2)))<|No (.vl J λ_ j=>Hi 1 j)<|No (.cl λh j=>c2 J (h.e 3) (Se (Qj.o _ _ _ (h.g 2) (T.o _ j.2.2))))<|No (.vl J λh _=>mw (h.g 4))<|No (.vl J λh _=>Sl (h.g 5))<|No (.vl J λh _=>Sn (h.g 5))<|No (.vl J λh _=>So (h.g 5))<|No (.wr J λ_ j=>NK 3 j)<|No (.wr J λ_ j=>NK 4 j)<|No (.wr J λh j=>Ko 3 j (h.g 6) (hp:=h.g 9))<|No (.wr J λh j=>Ko 4 j (h.g 7) (hp:=h.g 10))<|No (.vl J λh _=>aw (h.g 8)) Stp.end_)
  λf V2 hF c=>?_
 refine DT ?_;rw[hF.e 0,hF.e 1,hF.e 3,hF.e 8,hF.e 13];obtain⟨B3,H⟩:=hF.p 9;obtain⟨B4,K⟩:=hF.p 10;have c:=Ei c;simp only[H,K]at c;rw[H,K];have t:=Y c;clear c hF H K;clear U;obtain⟨a5,l5,c5,a,r5⟩:=t.o.poly2 (i:=4) J;have ak:=a.cell;have n1:=(t.o.cell (i:=2) J).1;have Qe:=Y t.o.2.2;have H1:=Y (Qm.o V2 _ r5);go_wp2_with(first
  |(go_at_call 137;refine H1.o.mono ?_;rintro e w4 ⟨u4,rfl,aj,ah⟩)
  |(go_at_call 90;refine(Qn.o _ _ aj).mono ?_;rintro e w5 ⟨u5,rfl,P,_,ai⟩;have B:=Bt ah ai;obtain⟨a7,l7,c7,rfl⟩:=P.form;have a:=boxed_below n1 B;have x0:=a.cell;have x1:=a.frozen;have Ql:=Y (NJ a (x:=F a7 l7 c7) P);have Qk:=Y ((Bt Qe.o B).setCell (p:=⟨w.heap.size+1+1,0,none⟩) (by show w.heap.size<=w.heap.size+1+1;omega) (F a7 l7 c7));clear P B a))
 exact A0 (by simp[results,results138,go_sem,x0]) J ⟨_,J,Ql.o,Qk.o⟩
end M3
def EZ:Nat->Ja->Ja->List Ja
 |0,a,_=>[a]
 |n+1,a,b=>if b=[]then [a]else a::EZ n b (XO a b)
theorem kR:∀(n m:Nat) (a b:Ja),Jc b=b->b.length<=n->b.length<=m->EZ n a b=EZ m a b:=by
 intro n;induction n with
 |zero=>
  intro m a b _ h _;have d:b=[]:=Lu O;subst d;cases m with
  |zero=>rfl
  |succ m=>simp[EZ]
 |succ n g=>
  intro m a b tb h e;by_cases c:b=[]
  . grind
  . have hl:0<b.length:=Ac.2 c;cases m with
    |zero=>omega
    |succ m=>
     have f:=XJ (a:=a) tb c;grind[EZ,KK]
def Eg(a b:Ja):List Ja:=EZ b.length a b
theorem L0(a:Ja):Eg a []=[a]:=rfl
theorem KL{a b:Ja}(tb:Jc b=b)(c:b≠[]):Eg a b=a::Eg b (XO a b):=by
 have d:=XJ (a:=a) tb c;have hl:0<b.length:=Ac.2 c;unfold Eg;obtain⟨n,e⟩:∃n,b.length=n+1:=⟨b.length-1,O⟩;grind[EZ,kR,KK]
def D4(p q:Ja):List Ja:=Eg (JL p) (JL q)
def Jh.setB{V:X}{v:I}{ps:Ja}(h:Jh V v ps){B:Nat}{a:nJ}{l c:Nat}(b:Boxed V B 25 (F a l c)){u:I}:Jh (V.setCell ⟨B,0,none⟩ u) v ps:=M3.NJ b h
namespace M3
def De(V:X)(B:Nat)(a:nJ)(l c:Nat):Prop:=Boxed V B 25 (F a l c)
section
variable {V V':World} {B B':Nat} {a a':nJ} {l c l' c':Nat}
def De.cell(h:De V B a l c):V.cell? ⟨B,0,none⟩=some (F a l c):=Boxed.cell h
def De.frozen(h:De V B a l c):V.frozen? ⟨B,0,none⟩=false:=Boxed.frozen h
def De.below(h:De V B a l c)(b:Bl V V'):De V' B a l c:=boxed_below h b
def De.far(h:De V B a l c)(b:B≠B'){u:I}:De (V.setCell ⟨B',0,none⟩ u) B a l c:=Bx.far (cs:=#[F a l c]) h (p:=⟨B',0,none⟩) b u
def De.put(h:De V B a l c):De (V.setCell ⟨B,0,none⟩ (F a' l' c')) B a' l' c':=(show Boxed V B 25 (F a l c)from h).set _
end
def GB(G:List Ja->X->Prop):Prop:=∀H W W',G H W->Bl W W'->G H W'
def L1(B4 B5:Nat)(G:List Ja->X->Prop):Prop:=∀H W B a l c u,B=B4\/B=B5->De W B a l c->G H W->G H (W.setCell ⟨B,0,none⟩ u)
def Gc(B4 B5:Nat)(G:List Ja->X->Prop)(H:List Ja)(V:X)(v4 v5:I)(p q:Ja):Prop:=(GB G/\L1 B4 B5 G)/\G H V/\Jh V v4 p/\Jh V v5 q
section
variable {B4 B5:Nat} {G:List Ja->World->Prop} {H:List Ja} {V V':World} {v4 v5:Value} {p q:Ja}
def Gc.below(h:Gc B4 B5 G H V v4 v5 p q)(a:Bl V V'):Gc B4 B5 G H V' v4 v5 p q:=⟨h.1,h.1.1 _ _ _ h.2.1 a,h.2.2.1.below a,h.2.2.2.below a⟩
def Gc.put(h:Gc B4 B5 G H V v4 v5 p q){B:Nat}(d:B=B4\/B=B5){a:nJ}{l c:Nat}(b:De V B a l c){u:I}:Gc B4 B5 G H (V.setCell ⟨B,0,none⟩ u) v4 v5 p q:=⟨h.1,h.1.2 _ _ _ _ _ _ _ d b h.2.1,h.2.2.1.setB b,h.2.2.2.setB b⟩
end
def L2(V:X)(B:Nat)(r:Ja):Prop:=∃a l c,De V B a l c/\Jh V (E #[F a l c]) r
def L2.below{V V':X}{B:Nat}{r:Ja}(h:L2 V B r)(b:Bl V V'):L2 V' B r:=by
 obtain⟨a,l,c,d,e⟩:=h;exact⟨a,l,c,d.below b,e.below b⟩
def L3(V:X)(B:Nat):Nat:=match V.cell? ⟨B,0,none⟩with|some (F _ l _)=>l|_=>0
variable{K:Nat}
def De.len{V:X}{B:Nat}{a:nJ}{l c:Nat}(h:De V B a l c):L3 V B=l:=by
 unfold L3;rw[h.cell]
def U7{V:X}{a:nJ}{l c:Nat}{ps:Ja}(h:Jh V (E #[F a l c]) ps):l=ps.length:=h.row.forms.1
def chnL_head(a b:Ja):∃t,Eg a b=a::t:=by
 unfold Eg;cases b.length with
 |zero=>exact⟨_,J⟩
 |succ n=>
  rw[EZ];split
  . exact⟨_,J⟩
  . exact⟨_,J⟩
def kS(B4 B5 n l:Nat)(C:List Ja)(G:List Ja->X->Prop):Prop:=∀H W a c b d g f p q,H++[p] <+: C->B4<W.heap.size->B5<W.heap.size->G H W->De W B4 a c b->De W B5 d g f->Jh W (E #[F a c b]) p->Jh W (E #[F d g f]) q->
 YieldAt Fence.wide (n-1) Tryz.prog l #[E #[F a c b]] W λe W'=>e=.returned (S true)/\G (H++[p]) W'/\De W' B4 a c b/\De W' B5 d g f/\Jh W' (E #[F a c b]) p/\Jh W' (E #[F d g f]) q
structure ChOk(K:Nat)(p q:Ja):Prop where
 tp:Jc p=p
 tq:Jc q=q
 cp:∃D:Int,D≠0/\Sm K D/\Do D K p
 cq:∃D:Int,D≠0/\Sm K D/\Do D K q
 le:4*((max p.length q.length+2)*(DR K p q+1))<=1000000000
 ln:max p.length q.length<=1000
def ChOk.lp{p q:Ja}(h:ChOk K p q):Ln K p:=by obtain⟨D,a,_,b⟩:=h.cp;exact b.ln a
def ChOk.lq{p q:Ja}(h:ChOk K p q):Ln K q:=by obtain⟨D,a,_,b⟩:=h.cq;exact b.ln a
theorem ChOk.bd{p q:Ja}(h:ChOk K p q):DR K p q<=1000000000/\K<=1000000000/\p.length+q.length<=1000000000/\1<=DR K p q:=by
 have a:=h.le;grind[DR]
def kT(K n:Nat)(hn:1<=n)(Bp Bq:Nat)(pa qa:nJ)(pl pc ql qc:Nat)(p q:Ja)(s:ChOk K p q)(l:Nat)(N:Nat->Nat->List Ja->X->Prop)(w:X)(az:De w Bp pa pl pc)(bc:De w Bq qa ql qc)(ip:Jh w (E #[F pa pl pc]) p)(iq:Jh w (E #[F qa ql qc]) q)
(ap:∀B4 B5,GB (N B4 B5))(aq:∀B4 B5,w.heap.size<=B4->w.heap.size<=B5->L1 B4 B5 (N B4 B5))(hY:∀B4 B5,w.heap.size<=B4->w.heap.size<=B5->kS B4 B5 n l (D4 p q) (N B4 B5))(h0:∀B4 B5 V,w.heap.size<=B4->w.heap.size<=B5->Bl w V->N B4 B5 [] V):
 CallsIn Fence.wide n C 136 (#[.func (.yield l) #[] #[]]++#[L (some ⟨Bp,0,none⟩),L (some ⟨Bq,0,none⟩)]) w λe W'=>(∃v,e=.returned v)/\∃B4 B5 H a,(w.heap.size<=B4/\w.heap.size<=B5)/\N B4 B5 (H++[a]) W'/\D4 p q=H++[a]/\Chn p q (DR K p q) a []:=by
 have Qq:=Y λ(V:X) (hB:Bl w V)=>(az.below hB).cell;have Qi:=Y λ(V:X) (hB:Bl w V)=>(bc.below hB).cell;have Qo:=Y (λ(V:X) (hB:Bl w V)=>show Calls C 137 #[E #[F pa pl pc]] V λe w'=>∃u,e=.returned u/\Jh w' u (JL p)/\Bl V w' by
  obtain⟨D,h1,h2,Q⟩:=s.cp;exact P8 D K _ p V (ip.below hB) s.tp h1 h2 Q s.bd.2.1)
 have Qh:=Y (λ(V:X) (hB:Bl w V)=>show Calls C 137 #[E #[F qa ql qc]] V λe w'=>∃u,e=.returned u/\Jh w' u (JL q)/\Bl V w' by
  obtain⟨D,h1,h2,Q⟩:=s.cq;exact P8 D K _ q V (iq.below hB) s.tq h1 h2 Q s.bd.2.1)
 obtain⟨Qp,Qr,Qs⟩:=DX h0 (Chn.start s.tp s.tq s.lp s.lq s.bd.2.2.1) λ(a b:Ja) (h:Chn p q (DR K p q) a b) (hb:b≠[])=>Chn.next s.tp s.tq s.lp s.lq s.bd.2.2.1 h hb;have Ua:=Y (λ(V:X) (x y:I) (a b:Ja) (hx:Jh V x a) (hy:Jh V y b) (h:Chn p q (DR K p q) a b) (hb:b≠[])=>kQ (DR K p q) x y a b V hx hy h.wa h.wb h.ta h.tb hb s.bd.2.2.2 (by
  have h1:=h.la;have h2:(a.length+2)*(DR K p q+1)<=(max p.length q.length+2)*(DR K p q+1):=Ae _ O;have Q:=s.le;omega) (h.nx hb))
 obtain⟨Qm,Qj,M1⟩:=DX (show ∀B4 B5,w.heap.size<=B4->w.heap.size<=B5->GB (N B4 B5)/\L1 B4 B5 (N B4 B5)from λB4 B5 h4 h5=>⟨ap B4 B5,aq B4 B5 h4 h5⟩) hY (DH.nil w);clear s az bc ip iq ap aq hY h0;refine Bu func136 J trivial ?_ J;simp only[ntmps136,AF,Ah,AK,Nat.reduceAdd,Nat.reduceSub,As,At,AE,Ay,Ar,AC];gi_wp2_with fail
 refine Ki (An J) Dl [[],[0],[],[2],[],[],[1,4],List.range 7] [.eq (E #[F pa pl pc]),.poly (JL p),.eq (E #[F qa ql qc]),.poly (JL q),.ptr,.ptr,.eq undef,.eq undef] [4,5,6,7] (λo v V=>DH w V [nb o v 0 2 (.poly []) (.poly (JL p)),nb o v 1 3 (.poly []) (.poly (JL q))]) M1.o.none.none.drew (No (.vl J λ_ j=>⟨_,by have e0:=Qq.o _ j.2.2;refine DT ?_;go_simp,J⟩)<|No (.cl λh j=>c1 (h.e 0) (Qo.o _ j.2.2))<|No (.vl J λ_ j=>⟨_,by have e0:=Qi.o _ j.2.2;refine DT ?_;go_simp,J⟩)<|No (.cl λh j=>c1 (h.e 2) (Qh.o _ j.2.2))<|No (.wr J λ_ j=>NK 0 j)<|No (.wr J λ_ j=>NK 1 j)<|No (.wr J λh j=>Ko 0 j (h.g 1) (hp:=h.g 4))<|No (.wr J λh j=>Ko 1 j (h.g 3) (hp:=h.g 5)) Stp.end_)
  λf V2 hF U=>?_
 refine DT ?_;obtain⟨c,aj⟩:=hF.p 4;obtain⟨B4,ak⟩:=hF.p 5;have U:=Ei U;simp only[aj,ak]at U;rw[hF.e 0,hF.e 2,aj,ak];replace U:=Y U;clear hF aj ak M1;have T:=U;clear U;obtain⟨a5,r,g,n5,r5⟩:=T.o.poly2 (i:=0) J;obtain⟨a6,l6,c6,n6,r6⟩:=T.o.poly2 (i:=1) J;have P:=Y (show c≠B4/\w.heap.size<=c/\w.heap.size<=B4 from⟨T.o.ne 0 1 J J DK,T.o.ge 0 J,T.o.ge 1 J⟩);obtain⟨Qe,Qc,Qf,Qn⟩:=Di (Qp.o c B4 V2 P.o.2.1 P.o.2.2 T.o.2.2) (Qm.o c B4 P.o.2.1 P.o.2.2) (Qj.o c B4 P.o.2.1 P.o.2.2) (show ∀H a W,N c B4 (H++[a]) W->D4 p q=H++[a]->Chn p q (DR K p q) a []->∃B4 B5 H a,(w.heap.size<=B4/\w.heap.size<=B5)/\N B4 B5 (H++[a]) W/\D4 p q=H++[a]/\Chn p q (DR K p q) a []from λH a W h1 h2 Q=>⟨c,B4,H,a,⟨P.o.2.1,P.o.2.2⟩,h1,h2,Q⟩);clear Qp Qm Qj;obtain⟨G,hG⟩:=ex (N c B4);rw[hG]at Qe Qc Qf Qn;clear hG;have Qg:Hid (Gc c B4 G [] V2 (E #[F a5 r g]) (E #[F a6 l6 c6]) (JL p) (JL q)):=Y ⟨Qc.o,Qe.o,r5,r6⟩;have N4:Hid (De V2 c a5 r g):=Y n5;have N5:Hid (De V2 B4 a6 l6 c6):=Y n6;clear n5 n6 r5 r6 T Qo Qh Qe Qq Qi;gi_wp2;gi_loopw [] (λwr=>∃(H:List Ja) (a b:Ja) (M z:nJ) (B A r g:Nat),Hid (Gc c B4 G H wr (E #[F M B A]) (E #[F z r g]) a b)/\Hid (De wr c M B A)/\Hid (De wr B4 z r g)/\Hid (Chn p q (DR K p q) a b)/\Hid (D4 p q=H++Eg a b)) λwr=>L3 wr B4
 case atStart=>exact⟨[],_,_,_,_,_,_,_,_,Qg,N4,N5,Qr,Y J⟩
 case round=>
  clear Qg N4 N5 Qr;obtain⟨H,a,b,M,z,B,A,r,g,HG,H4,H5,HC,HH⟩:=hrel;obtain⟨fn,tmps,assign,body,hy,ay⟩:=Qf.o H wr M B A z r g a b (by obtain⟨t,ht⟩:=chnL_head a b;exact⟨t,by rw[HH.o,ht];simp⟩) (Bx.lt (cs:=#[F M B A]) H4.o) (Bx.lt (cs:=#[F z r g]) H5.o) HG.o.2.1 H4.o H5.o HG.o.2.2.1 HG.o.2.2.2;have e4:=H4.o.cell;gi_wp2;refine ay.mono ?_;rintro e W3 ⟨rfl,an,am,ai,bf,ae⟩;have Ql:Hid (Gc c B4 G (H++[a]) W3 (E #[F M B A]) (E #[F z r g]) a b):=Y ⟨Qc.o,an,bf,ae⟩;obtain⟨Ug,Ud,Qb⟩:=DX (U7 ae) (H5.o.len) (YI _ b W3 ae);have e5:=ai.cell;have Uc:=Y am;have Uf:=Y ai;clear hy ay e4 an am ai bf ae HG H4 H5;by_cases R:b=[]
  . have HE:=Y (show D4 p q=H++[a]by rw[HH.o,R];rfl);have Qz:=Y (show Chn p q (DR K p q) a []by have:=HC.o;rwa[R]at this);rw[R,show((([]:Ja).length:Int)-1)=-1 from J]at Qb;gi_wp2_with(refine⟨trivial,?_⟩;gi_at_call 30;refine((BM (n:=_)).2 Qb.o).mono ?_;clear Qb;rintro e w4 ⟨rfl,ad⟩)
    go_end0;exact⟨⟨_,J⟩,Qn.o H a _ (Ql.o.below ad).2.1 HE.o Qz.o⟩
  . obtain⟨m,hm⟩:=ex (b.length-1:Nat);have Qk:(b.length:Int)-1=(m:Int):=by have:=Ac.2 R;omega
    rw[Qk]at Qb;obtain⟨Qy,Ub,Qt,Qd⟩:=Di (Qs.o a b HC.o R) (XJ (a:=a) HC.o.tb R) (show D4 p q=(H++[a])++Eg b (XO a b)by rw[HH.o,KL HC.o.tb R,Ff];rfl) λ(V:X) (x y:I) (hx:Jh V x a) (hy:Jh V y b)=>Ua.o V x y a b hx hy HC.o R;have bg:¬(m:Int)<0:=O
    clear hm Qk R;gi_wp2_with(refine⟨trivial,?_⟩;gi_at_call 30;refine((BM (n:=_)).2 Qb.o).mono ?_;clear Qb;rintro e w4 ⟨rfl,ad⟩)
    have Qv:=(Ql.o.below ad).below ((BA _ w4).drew);have Ue:=(Uc.o.below ad).below ((BA _ w4).drew);have Qw:=(Uf.o.below ad).below ((BA _ w4).drew);refine Ki (An J) Dl [[],[],[],[1,2],[0,1,2,3],List.range 5] [.eq (E #[F z r g]),.eq (E #[F M B A]),.eq (E #[F z r g]),.poly (XO a b),.eq undef,.eq undef] [4,5] (λo _ V=>Gc c B4 G (H++[a]) V (E #[F M B A]) (E #[F z r g]) a b/\(if o.getD 0 false then De V c z r g else De V c M B A)/\if o.getD 1 false then L2 V B4 (XO a b)else De V B4 z r g) ⟨Qv,Ue,Qw⟩ (No (.vl J λ_ j=>⟨_,by have e0:=(show De _ B4 z r g from j.2.2).cell;refine DT ?_;go_simp,J⟩)<|No (.vl J λ_ j=>⟨_,by have e0:=(show De _ c M B A from j.2.1).cell;refine DT ?_;go_simp,J⟩)<|No (.vl J λ_ j=>⟨_,by have e0:=(show De _ B4 z r g from j.2.2).cell;refine DT ?_;go_simp,J⟩)<|No (.cl (λh j=>c2 (h.e 1) (h.e 2) (Qd.o _ _ _ j.1.2.2.1 j.1.2.2.2)) (hJ:=λ_ _ _ _ h b=>⟨h.1.below b,PH h.2.1 (·.below b) (·.below b),PH h.2.2 (·.below b) (·.below b)⟩))<|No (.wr J fun {_ V _} h j=>by
       have n:De V c M B A:=j.2.1;have e0:=n.cell;have f0:=n.frozen;exact⟨.skip,undef,_,by refine DT ?_;rw[h.e 0];go_simp,Au ⟨J,J⟩,J,λd v _ k=>k.set1 n J _,j.1.put (An J) n,n.put,(show De V B4 z r g from j.2.2).far λe=>P.o.1 e.symm⟩)<|No (.wr J fun {f V _} h j=>by
       have n:De V B4 z r g:=j.2.2;have e0:=n.cell;have f0:=n.frozen;have Q:Jh V (f 3) (XO a b):=h.g 3;obtain⟨x7,l7,c7,e⟩:=Jh.form Q;rw[e]at Q;exact⟨.skip,undef,_,by refine DT ?_;rw[e];go_simp,Au ⟨J,J⟩,J,λd v _ k=>k.set1 n J _,j.1.put (Au J) n,(show De V c z r g from j.2.1).far P.o.1,x7,l7,c7,n.put,Q.setB n⟩) Stp.end_)
     λf V hF SS=>?_
    refine DT ?_;obtain⟨ah,n6,x7,l7,c7,n7,i7⟩:=(show Gc c B4 G (H++[a]) V (E #[F M B A]) (E #[F z r g]) a b/\De V c z r g/\L2 V B4 (XO a b)from SS);rw[hF.e 0,hF.e 1,hF.e 2];have Qx:Hid (Gc c B4 G (H++[a]) V (E #[F z r g]) (E #[F x7 l7 c7]) b (XO a b)):=Y ⟨Qc.o,ah.2.1,ah.2.2.2,i7⟩;obtain⟨Qu,N6,N7⟩:=DX (show L3 V B4<L3 wr B4 by rw[n7.len,Ud.o,U7 i7,Ug.o];exact Ub.o) n6 n7;clear SS ah hF n6 n7 i7;gi_wp2;go_roundw
    case rel=>exact⟨H++[a],b,XO a b,_,_,_,_,_,_,Qx,N6,N7,Qy,Qt⟩
    case measure=>exact Qu.o
end M3
namespace M3
def L4(w V:X)(a:I)(ps:Ja):Prop:=RowK false V a ps/\Bl w V
def L4.below{w V V':X}{b:I}{ps:Ja}(h:L4 w V b ps)(a:Bl V V'):L4 w V' b ps:=⟨h.1.below a,Bt h.2 a⟩
variable{K:Nat}
def kU(c:Rat):((1:Int):Rat)/c=1/c:=rfl
def U8(va:I)(ps:Ja)(w:X)(q:RowK false w va ps)(ai:Jc ps=ps)(ae:Sqs ps)(ah:ps≠[]->Sq (1/cf ps (ps.length-1)))(bc:ps.length<1099511627776):
 Calls C 156 #[va] w λe w'=>∃u,e=.returned u/\RowK false w' u (Jy ps)/\Bl w w':=by
 obtain⟨a,la,ca,rfl⟩:=q.form;obtain⟨az,bf,bg,bm,s,t,aa,bb,ll,cc,kk,dd,hc⟩:=q.formsF;by_cases j:ps=[]
 . have Qf:la=0:=by rw[az,j];rfl
   have HA:=Y (show RowK false w (F a la ca) (Jy ps)by rw[j]at q ⊢;exact q);have bk:(la:Int)=0:=O
   clear q hc ae ah ai j;go_enter func156,ntmps156
   go_wp2_with fail
   go_ret;exact⟨_,J,HA.o,BA _ _⟩
 . have Qf:¬(la:Int)=0:=by have:=Ac.2 j;omega
   obtain⟨m,hm⟩:=ex (la-1:Nat);have bn:(la:Int)-1=(m:Int):=O
   have bt:nP.wrap (m:Int)=(m:Int):=by rw[BJ];omega
   have bu:(m:Int)<(la:Int):=O
   have P:ps.length-1=m:=O
   obtain⟨ay,g,rfl,H,aj,ak,am,an⟩:=hc m O;have Qi:=Y (show ∀V,Bl w V->(V.cell? ⟨g,m*4,none⟩=some (F (aa m) (ll m) (cc m))/\V.cell? ⟨g,m*4+1,none⟩=some (S (s m))/\V.cell? ⟨g,m*4+2,none⟩=some (F (bb m) (kk m) (dd m))/\V.cell? ⟨g,m*4+3,none⟩=some (S (t m)))/\Jk V (E #[F (aa m) (ll m) (cc m),S (s m),F (bb m) (kk m) (dd m),S (t m)]) (cf ps m)from λV G=>by
    exact⟨⟨(G.cell (p:=⟨g,_,none⟩) H).trans aj,(G.cell (p:=⟨g,_,none⟩) H).trans ak,(G.cell (p:=⟨g,_,none⟩) H).trans am,(G.cell (p:=⟨g,_,none⟩) H).trans an⟩,ay.below G⟩)
   obtain⟨Qg,Qe,Qj,Qd,Qh⟩:=Gn (show cf ps m≠0 by rw[<-P];exact Jt ai j) (show Sq (1/cf ps m)by rw[<-P];exact ah j) (show Jc (Yv (1/cf ps m) ps)=Jy ps by unfold Jy DQ;rw[P]) ae bc;have Q:=L4.below ⟨q,BA _ _⟩ ((BA _ w).drew);have HX:=Y Q;clear q hc ay H aj ak am an ae ah ai j P az bf bg bc Q;go_enter func156,ntmps156
   go_upto_region 3 with fail
   obtain⟨bz,aq⟩:=ex (((la:Int)==0));rw[aq];clear aq;have Q:=HX.o;refine J6 Dl [[],[],[],[],[3],[4],[2,5],[6],[1,7,1],[0,8,8],[9,9,0,1,2,3,4,5,6,7,8,9]] nK DK
    (λD ad V=>∃(tk tl tm ta tb R T U W ti N:I),ad={ tmps:=#[F (some ⟨g,0,none⟩) la ca,undef,N,F (some ⟨g,0,none⟩) la ca,.int .i64 ↑la,S bz,undef,tk,tl,tm,ta,tb,R,T,U,W,ti],defers:=[] }/\Hid ((D 0=true->tk=F (some ⟨g,0,none⟩) la ca)/\(D 1=true->Jk V tl ((1:Int):Rat))/\(D 2=true->tm=F (some ⟨g,0,none⟩) la ca)/\(D 3=true->ta=F (some ⟨g,0,none⟩) la ca)/\(D 4=true->tb=.int .i64 (la:Int))/\(D 5=true->R=.int .i64 (m:Int))/\(D 6=true->T=L (some ⟨g,m*4,none⟩))/\(D 7=true->Jk V U (cf ps m))/\(D 8=true->Jk V W (1/cf ps m))/\(D 9=true->RowK false V ti (Jy ps))/\(D 10=true->RowK false V N (Jy ps)))/\Hid (L4 w V (F (some ⟨g,0,none⟩) la ca) ps))
    (E8 ⟨_,_,_,J,Y ⟨DG,DG,DG,DG,DG,DG,DG,DG,DG,DG,DG⟩,Y Q⟩) ?step1 ?fin1
   case step1=>
    rintro D ad V i ds bi hi d bh ⟨tk,tl,tm,ta,tb,R,T,U,W,ti,N,rfl,c,b⟩;have bj:i<11:=(Aq.1 hi).1;obtain rfl|rfl|rfl|rfl|rfl|rfl|rfl|rfl|rfl|rfl|rfl:=LA i O
    all_goals
     simp only[AO,AJ,AX]at hi;subst hi
    . have l:=b.o;clear d;refine Da ?_;exact⟨(GH c),Y (b.o)⟩
    . have l:=b.o;clear d;have n:=Y (YD 1 O O V);refine Jo J J λK hK=>?_;go_simp;go_wp2_with(go_at_call 41;refine n.o.mono ?_;rintro e w5 ⟨v5,rfl,M,f⟩)
      obtain⟨G0,_,v,x,y,z,A,B,G8,G9,r⟩:=c.o;exact E8 ⟨_,_,_,J,Y ⟨G0,λ_=>M,v,x,y,z,A,λh=>(B h).below f,λh=>(G8 h).below f,λh=>(G9 h).below f,λh=>(r h).below f⟩,Y (b.o.below f)⟩
    . have l:=b.o;clear d;refine Da ?_;exact⟨(Gl c),Y (b.o)⟩
    . have l:=b.o;clear d;refine Da ?_;exact⟨(Hc c),Y (b.o)⟩
    . have l:=b.o;obtain rfl:=c.o.2.2.2.1 (d 3 DG);clear d;refine Da ?_;exact⟨(Hd (Hc c)),Y (b.o)⟩
    . have l:=b.o;obtain rfl:=c.o.2.2.2.2.1 (d 4 DG);clear d;refine Da ?_;exact⟨(He (Hd c)),Y (b.o)⟩
    . have l:=b.o;obtain rfl:=c.o.2.2.1 (d 2 DG);obtain rfl:=EH c (d 5 DG);clear d;refine Da ?_;exact⟨(IR (He (Gl c))),Y (b.o)⟩
    . have l:=b.o;obtain rfl:=ER c (d 6 DG);obtain⟨⟨e0,e1,e2,e3⟩,hr⟩:=Qi.o V l.2;clear d;refine Da ?_;exact⟨(Ka (IR c) λ_=>hr),Y (b.o)⟩
    . have l:=b.o;have j:=c.o.2.1 (d 1 DG);have h1:=Ec c (d 7 DG);clear d;have n:=Y (Pa _ _ ((1:Int):Rat) (cf ps m) V j h1 (Sq.of (k:=1) ⟨Sm.one 1 O,Sm.one 1 O⟩ O) (Qd.o.at m) Qg.o);rw[kU]at n;clear j h1;refine Jo J J λK hK=>?_;go_simp;go_wp2_with(go_at_call 158;refine n.o.mono ?_;rintro e w5 ⟨v5,rfl,M,f⟩)
      obtain⟨G0,G1,v,x,y,z,A,B,_,G9,r⟩:=c.o;exact E8 ⟨_,_,_,J,Y ⟨G0,λh=>(G1 h).below f,v,x,y,z,A,λh=>(B h).below f,λ_=>M,λh=>(G9 h).below f,λh=>(r h).below f⟩,Y (b.o.below f)⟩
    . have l:=b.o;have j:=Ed c (d 8 DG);obtain rfl:=c.o.1 (d 0 DG);clear d;have n:=Y (NQ _ _ ps (1/cf ps m) V l.1 j Qd.o Qe.o Qh.o);rw[Qj.o]at n;clear j;refine Jo J J λK hK=>?_;go_simp;go_wp2_with(go_at_call 111;refine n.o.mono ?_;rintro e w5 ⟨v5,rfl,M,f⟩)
      obtain⟨_,G1,v,x,y,z,A,B,G8,_,r⟩:=c.o;exact E8 ⟨_,_,_,J,Y ⟨λ_=>rfl,λh=>(G1 h).below f,v,x,y,z,A,λh=>(B h).below f,λh=>(G8 h).below f,λ_=>M,λh=>(r h).below f⟩,Y (b.o.below f)⟩
    . have l:=b.o;have j:=EM c (d 9 DG);clear d;refine Da ?_;exact⟨(Hw c λ_=>j),Y (b.o)⟩
   case fin1=>
    rintro D ad V ap ⟨tk,tl,tm,ta,tb,R,T,U,W,ti,N,rfl,c,b⟩;have h9:=c.o.2.2.2.2.2.2.2.2.2.2 (ap 10 DK);have HH:=Y (show RowK false V N (Jy ps)/\Bl w V from⟨h9,b.o.2⟩);clear c b ap h9;go_wp2_with fail
    go_ret;exact⟨_,J,HH.o⟩
def Rhn.dvn{p q a b:Ja}(h:Rhn p q (DR K p q) a b)(i:b≠[]):∃D E:Int,Dvn D E E (DR K p q) (DR K p q) a b:=by
 obtain⟨D,d1,e,f⟩:=h.ca;obtain⟨E,c,d,g⟩:=h.cb;exact⟨D,E,d1,e,f,c,d,g,c,d,by rw[h.mb i,Rat.divInt_self' c]⟩
def ChOk.fit{p q a:Ja}(b:ChOk K p q)(f:a.length<=max p.length q.length):DR K p q+a.length*(DR K p q+1)+1+(2*DR K p q+1)<=1000000000:=by
 have c:(a.length+2)*(DR K p q+1)<=(max p.length q.length+2)*(DR K p q+1):=Ae _ O;have d:(a.length+2)*(DR K p q+1)=a.length*(DR K p q+1)+2*(DR K p q+1):=AU _ _ _;have e:=b.le;omega
theorem kV(K:Nat)(va vb:I)(p q:Ja)(w:X)(ha:RowK false w va p)(Q:RowK false w vb q)(c:ChOk K p q):
 Calls C 155 #[va,vb] w λe d=>∃u,e=.returned u/\RowK false d u (JN p q)/\Bl w d:=by
 obtain⟨A,hA⟩:=ex (DR K p q);have t:=c.bd;have Qo:=c.ln;have mono:∀(r:Ja),Jc r=r->(∃D:Int,D≠0/\Sm 1000000000 D/\Do D 1000000000 r)->r.length<=1000->∀(V:X) (x:I),RowK false V x r->Calls C 156 #[x] V λe d=>∃u,e=.returned u/\RowK false d u (Jy r)/\Bl V d:=λr tr hr hl V x k=>by
  obtain⟨D,d1,M,N⟩:=hr;exact U8 x r V k tr (Sqs.of λi=>Sq.of ((N i).smq d1 M) (Aa _)) (λj=>by
   rw[Rat.div_def,Rat.one_mul];exact Sq.of (((N _).smq d1 M).inv (Jt tr j)) (Aa _)) O
 have Qa:∀(r:Ja),(∃D:Int,D≠0/\Sm K D/\Do D K r)->∃D:Int,D≠0/\Sm 1000000000 D/\Do D 1000000000 r:=λr h=>by
  obtain⟨D,d1,M,N⟩:=h;exact⟨D,d1,M.mono t.2.1,λi=>(N i).mono t.2.1⟩
 obtain⟨H1,H2,B,Qg⟩:=Di (λ(V:X) (hB:Bl w V)=>mono p c.tp (Qa p c.cp) O V va (ha.below hB)) (λ(V:X) (hB:Bl w V)=>mono q c.tq (Qa q c.cq) O V vb (Q.below hB)) (Rhn.start c.tp c.tq c.lp c.lq t.2.2.1) λ(a b:Ja) (h:Rhn p q (DR K p q) a b) (Q:b≠[])=>Rhn.next c.tp c.tq c.lp c.lq t.2.2.1 h Q;have Qk:=Y (λ(a b:Ja) (h:Rhn p q (DR K p q) a b) (j:b≠[]) (V:X) (x y:I) (k:RowK false V x a) (hy:RowK false V y b)=>show Calls C 110 #[x,y] V λe d=>∃u v,e=.returned (.tuple #[u,v])/\RowK false d u (JA a b)/\RowK false d v (JI a b)/\Bl V d by
  obtain⟨D,E,l⟩:=Rhn.dvn h j;have hf:=c.fit h.la;exact P2 _ (DR K p q) x y a b V k hy (l.divS a.length O) l.start l.sq h.ta h.tb j (by have:=h.la;omega))
 have Qh:=Y (λ(a b:Ja) (h:Rhn p q (DR K p q) a b) (j:b≠[]) (V:X) (x:I) (k:RowK false V x (JI a b))=>mono (JI a b) (YO _ _) (by
  obtain⟨D,E,l⟩:=Rhn.dvn h j;have hf:=c.fit h.la;obtain⟨m,hm⟩:=ex (a.length-(b.length-1));have am:m*(DR K p q+1)<=a.length*(DR K p q+1):=Ae _ O;have P:=l.den m;have h2:=(l.rem hm).1;exact⟨_,P.1,P.2.mono O,λi=>(h2 i).mono O⟩) (by have P:=(J8 a b h.tb j).2.1;have h2:=h.lb;omega) V x k)
 have Ql:=Y (λ(a:Ja) (h:Rhn p q (DR K p q) a [])=>show a=JN p q by rw[<-h.gc,UQ,h.ma]);have Qi:=Y (λ(a b:Ja) (h:Rhn p q (DR K p q) a b)=>show b.length<=1000 by have:=h.lb;omega);rw[hA]at B Qg Qk Qh Ql Qi;clear mono Qa c t Qo ha Q hA;go_enter func155,ntmps155
 have Qf:Bl w w:=BA _ _;go_wp2_with(first
  |(go_at_call 156;refine(H1.o _ Qf).mono ?_;clear H1;rintro e w1 ⟨u1,rfl,s,ai⟩;have Qd:=Bt Qf ai;clear Qf)
  |(go_at_call 156;refine(H2.o _ Qd).mono ?_;clear H2;rintro e w2 ⟨u2,rfl,z,ad⟩;have Qm:=Bt Qd ad;have s:=s.below ad))
 obtain⟨T,W,U,rfl⟩:=s.form;obtain⟨ya,f,yc,rfl⟩:=z.form;go_loopw [5,6,7,8] (λav bv _ _ wr=>∃(a b:Ja) (T:nJ) (W U:Nat) (ya:nJ) (f yc:Nat),av=F T W U/\bv=F ya f yc/\f<=1000/\Hid (f=b.length)/\Hid (RowK false wr (F T W U) a)/\Hid (RowK false wr (F ya f yc) b)/\Hid (Rhn p q A a b)/\Hid (Bl w wr)) λ_ bv _ _ _=>lenOf bv
 case atStart=>exact⟨_,_,_,_,_,_,_,_,J,J,by have:=Qi.o _ _ B.o;have:=z.formsF.1;omega,Y z.formsF.1,Y s,Y z,B,Y Qm⟩
 case round=>
  clear s z ai ad Qd Qm B;obtain⟨a,b,T,W,U,ya,f,yc,rfl,rfl,an,G,HA,HB,n,HQ⟩:=hrel;by_cases g:b=[]
  . have Qn:¬(0:Int)<(f:Int):=by have:=G.o;grind
    have Qq:=Y (show a=JN p q from Ql.o a (by have:=n.o;rwa[g]at this));clear g;go_wp2_with fail
    go_ret;exact⟨_,J,by rw[<-Qq.o];exact HA.o,HQ.o⟩
  . have Qn:(0:Int)<(f:Int):=by have:=G.o;have:=Ac.2 g;omega
    obtain⟨H3,H4,HN,Qj⟩:=Di (Qk.o a b n.o g wr _ _ HA.o HB.o) (λ(V:X) (x:I) (k:RowK false V x (JI a b))=>Qh.o a b n.o g V x k) (Qg.o a b n.o g) (show(Jy (JI a b)).length<b.length by rw[Y7 (YO _ _)];exact(J8 a b n.o.tb g).2.1);clear g;go_wp2_with(first
     |(go_at_call 110;refine H3.o.mono ?_;clear H3;rintro e w3 ⟨u3,v3,rfl,ak,aj,R⟩)
     |(go_at_call 156;refine(H4.o _ _ aj).mono ?_;clear H4;rintro e w4 ⟨u4,rfl,ah,ae⟩;obtain⟨za,zl,zc,rfl⟩:=ah.form))
    obtain⟨H,Qr,Qp⟩:=DX ah ((HB.o.below R).below ae) ((Bt HQ.o R).trans (ae.mono (Af HQ.o.size R.size)));clear ak aj R ah ae;go_roundw
    case rel=>exact⟨b,Jy (JI a b),_,_,_,_,_,_,J,J,by have:=H.o.formsF.1;have:=Qj.o;have:=G.o;omega,Y H.o.formsF.1,Qr,H,HN,Qp⟩
    case measure=>
     show zl<f;have P:=H.o.formsF.1;have h2:=Qj.o;have h3:=G.o;omega
end M3
def Dv(a b:Ja):Prop:=∃c:Ja,∀x,ev b x=ev a x*ev c x
def Dd(a b:Ja):Prop:=∃u v:Ja,∀x,ev u x*ev a x+ev v x*ev b x=1
section
variable {a b c d p q:Ja}
theorem Dv.refl(a:Ja):Dv a a:=⟨[1],λx=>by simp[ev];grind⟩
theorem Dv.trans(h:Dv a b)(d:Dv b c):Dv a c:=by
 obtain⟨u,e⟩:=h;obtain⟨v,f⟩:=d;exact⟨Jv u v,λx=>by rw[f,e,Ji];grind⟩
theorem Dv.zero(a:Ja):Dv a []:=⟨[],λx=>by simp[ev]⟩
theorem Dv.mul(h:Dv a b)(c:Ja):Dv a (Jv b c):=by
 obtain⟨u,d⟩:=h;exact⟨Jv u c,λx=>by rw[Ji,d,Ji];grind⟩
theorem Dv.mul'(h:Dv a b)(c:Ja):Dv a (Jv c b):=by
 obtain⟨u,d⟩:=h;exact⟨Jv u c,λx=>by rw[Ji,d,Ji];grind⟩
theorem Dv.comb(h:Dv d a)(e:Dv d b)(u v:Ja)(f:∀x,ev c x=ev u x*ev a x+ev v x*ev b x):Dv d c:=by
 obtain⟨s,g⟩:=h;obtain⟨t,i⟩:=e;exact⟨Xc (Jv u s) (Jv v t),λx=>by rw[f,g,i,YF,Ji,Ji];grind⟩
theorem Dv.of_sc{k:Rat}(c:k≠0)(h:Dv a b):Dv (DQ k a) b:=by
 obtain⟨u,d⟩:=h;have e:(1/k)*k=1:=AB c;exact⟨DQ (1/k) u,λx=>by rw[d,J2,J2];grind⟩
theorem Dv.sc(h:Dv a b)(k:Rat):Dv a (DQ k b):=by
 obtain⟨u,c⟩:=h;exact⟨DQ k u,λx=>by rw[J2,c,J2];grind⟩
theorem Dd.symm(h:Dd a b):Dd b a:=by
 obtain⟨u,v,h⟩:=h;exact⟨v,u,λx=>by rw[<-h x];grind⟩
theorem Dd.of_dv(h:Dd a b)(c:Dv d a):Dd d b:=by
 obtain⟨u,v,h⟩:=h;obtain⟨s,e⟩:=c;exact⟨Jv u s,v,λx=>by rw[<-h x,e x,Ji];grind⟩
theorem Dd.dv(h:Dd a b)(d:Dv a (Jv b c)):Dv a c:=by
 obtain⟨u,v,h⟩:=h;obtain⟨k,e⟩:=d;refine⟨Xc (Jv u c) (Jv v k),λx=>?_⟩;grind[Ji,YF]
theorem Dd.mul(h:Dd a b)(d:Dd a c):Dd a (Jv b c):=by
 obtain⟨u,v,h⟩:=h;obtain⟨s,t,d⟩:=d;refine⟨Xc u (Jv (Jv v b) s),Jv v t,λx=>?_⟩;grind[YF,Ji]
theorem Dd.unit(h:Dd a b)(c:Dv a b):Dv a [1]:=by
 obtain⟨u,v,h⟩:=h;obtain⟨s,d⟩:=c;refine⟨Xc u (Jv v s),λx=>?_⟩;grind[YF,Ji,ev]
end
def P9{p:Ja}(x:Rat):ev (Jy p) x=ev p x*(1/cf p (p.length-1)):=J2 _ _ _
theorem kW:∀(n:Nat) (p q:Ja),Jc p=p->Jc q=q->q.length<=n->Dv (EE n p q) p/\Dv (EE n p q) q/\∃u v:Ja,∀x,ev (EE n p q) x=ev u x*ev p x+ev v x*ev q x:=by
 intro n;induction n with
 |zero=>
  intro p q hp hq hl;have a:q=[]:=Lu O;subst a;rw[EE];refine⟨?_,Dv.zero _,[1/cf p (p.length-1)],[],λx=>by rw[P9];simp[ev];grind⟩;by_cases b:p=[]
  . subst b;exact Dv.refl _
  . exact Dv.of_sc (Gv (Jt hp b)) (Dv.refl _)
 |succ n g=>
  intro p q hp hq hl;by_cases a:q=[]
  . subst a;simp only[EE,BG];refine⟨?_,Dv.zero _,[1/cf p (p.length-1)],[],λx=>by rw[P9];simp[ev];grind⟩;by_cases b:p=[]
    . subst b;exact Dv.refl _
    . exact Dv.of_sc (Gv (Jt hp b)) (Dv.refl _)
  . simp only[EE,BD a];obtain⟨d,j,k,i⟩:=J8 p q hq a;obtain⟨c,e,u,v,f⟩:=g q (JI p q) hq i O;refine⟨c.comb e (JA p q) [1] (λx=>by rw[d x];simp[ev];grind),c,v,Ys u (Jv v (JA p q)),λx=>?_⟩;rw[f x,d x,Xb,Ji];grind
section
variable {p q d:Ja}
theorem Xl(hp:Jc p=p)(hq:Jc q=q):Dv (JN p q) p/\Dv (JN p q) q/\∃u v:Ja,∀x,ev (JN p q) x=ev u x*ev p x+ev v x*ev q x:=kW _ p q hp hq (Aa _)
def QA(hp:Jc p=p)(hq:Jc q=q)(a:Dv d p)(b:Dv d q):Dv d (JN p q):=by
 obtain⟨_,_,u,v,h⟩:=Xl hp hq;exact a.comb b u v h
def kX:∀(n:Nat) (p q:Ja),Jc p=p->Jc q=q->q.length<=n->Jy (EE n p q)=EE n p q:=by
 intro n;induction n with
 |zero=>intro p q hp _ _;exact KI hp
 |succ n b=>
  intro p q hp hq hl;rw[EE];split
  . exact KI hp
  . rename_i a;have:=(J8 p q hq a).2.1;exact b _ _ hq (YO _ _) O
theorem L5(hp:Jc p=p)(hq:Jc q=q):Jy (JN p q)=JN p q:=kX _ p q hp hq (Aa _)
end
theorem XK{p:Ja}(hp:Jc p=p)(h:∀x,ev p x=0):p=[]:=Ea hp J (λx=>by rw[h x];rfl)
def Dv.some{a b:Ja}(d:Jc b=b)(h:Dv a b):∃c,Jc c=c/\b=Jv a c:=by
 obtain⟨c,e⟩:=h;exact⟨Jc c,Yc _,Ea d (Yq _ _) λx=>by rw[Ji,XW,e]⟩
theorem Xp(a:Ja):Jv a []=[]:=XK (Yq _ _) λx=>by rw[Ji];simp[ev]
theorem Dv.anti{a b:Ja}(p:Jc a=a)(j:Jc b=b)(h:Dv a b)(s:Dv b a):∃k:Rat,k≠0/\b=DQ k a:=by
 obtain⟨c,q,e⟩:=h.some j;obtain⟨d,t,i⟩:=s.some p;by_cases g:a=[]
 . refine⟨1,DK,?_⟩;rw[e,g];rfl
 . have n:b≠[]:=λf=>g (by rw[i,f];rfl);have m:c≠[]:=λf=>n (by rw[e,f];exact Xp _);have l:d≠[]:=λf=>g (by rw[i,f];exact Xp _);have l1:=JS p q g m;have l2:=JS j t n l;rw[<-e]at l1;rw[<-i]at l2;have p1:0<c.length:=Ac.2 m;have v:0<d.length:=Ac.2 l;have w:0<a.length:=Ac.2 g;have r:c.length=1:=O
   match c,r with
   |[k],_=>
    have u:k≠0:=by
     have:=Jt q DG;simpa[YE]using this
    refine⟨k,u,Ea j (JK _ _) λx=>?_⟩;grind[Ji,J2,ev]
def Dv.eq{a b:Ja}(c:Jc a=a)(f:Jc b=b)(ma:Jy a=a)(mb:Jy b=b)(h:Dv a b)(d:Dv b a):a=b:=by
 obtain⟨k,g,e⟩:=h.anti c f d;rw[<-mb,e,Lw g c,ma]
theorem JW{p g:Ja}(hg:Jc g=g)(a:g≠[])(h:Dv g p):JI p g=[]/\∀x,ev p x=ev g x*ev (JA p g) x:=by
 obtain⟨c,b⟩:=h;have d:=Nf (p:=p) (u:=Jc c) (v:=[]) hg a (Yc _) J (Ac.2 a) (λx=>by rw[b,XW];simp[ev];grind);grind[XW]
theorem Y5{g u v:Ja}(hg:Jc g=g)(c:g≠[])(h:∀x,ev g x*ev u x=ev g x*ev v x):∀x,ev u x=ev v x:=by
 have d:Jv g (Ys u v)=[]:=XK (Yq _ _) λx=>by rw[Ji,Xb];have:=h x;grind
 have a:Ys u v=[]:=by
  by_cases b:Ys u v=[]
  . exact b
  . grind[JS,Xd,Ac]
 intro x;have e:=congrArg (λr=>ev r x) a;grind[Xb,ev]
theorem QB{p q:Ja}(hp:Jc p=p)(hq:Jc q=q)(a:JN p q≠[]):Dd (JA p (JN p q)) (JA q (JN p q)):=by
 obtain⟨c,d,u,v,i⟩:=Xl hp hq;have b:=YA p q;have f:=(JW b a c).2;have g:=(JW b a d).2;refine⟨u,v,?_⟩;have e:=Y5 (u:=Xc (Jv u (JA p (JN p q))) (Jv v (JA q (JN p q)))) (v:=[1]) b a (λx=>by
  grind[YF,Ji,ev])
 intro x;have j:=e x;grind[YF,Ji,ev]
theorem II{p q:Ja}(hp:Jc p=p)(hq:Jc q=q)(h:p≠[]\/q≠[]):JN p q≠[]:=λe=>by
 obtain⟨a,b,_⟩:=Xl hp hq;rw[e]at a b;obtain⟨c,f⟩:=a;obtain⟨d,g⟩:=b;grind[XK,ev]
section
variable {a b c d e f g k p q r u w y z R:Ja}
theorem Yp(p q:Ja)(x:Rat):ev (Jb (Jv p q)) x=ev (Jb p) x*ev q x+ev p x*ev (Jb q) x:=by
 rw[WC,YF,Ji,Ji]
theorem L6(p:Ja)(i:Nat):cf (Jb p) i=cf p (i+1)*(((i+1:Nat):Int):Rat):=by
 unfold Jb;rw[JT,Iq];rfl
theorem kY(a:p≠[]):(Jb p).length<p.length:=by
 have b:0<p.length:=Ac.2 a;have c:(Jb p).length<=p.length-1:=Xf (JO _) λi d=>by
  rw[L6,JZ O,Fm]
 omega
def kZ(hp:Jc p=p)(h:Jb p=[]):p.length<=1:=by
 refine Xf hp λi d=>?_;obtain⟨j,rfl⟩:∃j,i=j+1:=⟨i-1,O⟩;have b:=L6 p j;rw[h,YB]at b;rcases Rat.mul_eq_zero.1 b.symm with a|a
 . exact a
 . exfalso
   have c:((j+1:Nat):Int)=0:=by exact_mod_cast a
   omega
theorem Nk(hp:Jc p=p)(a:p≠[])(hl:p.length<=1):Dv p [1]:=by
 have d:0<p.length:=Ac.2 a;match p,hl,hp,a with
 |[c],_,hp,_=>
  have b:c≠0:=by
   have:=Jt hp DG;simpa[YE]using this
  have e:(1/c)*c=1:=AB b;exact⟨[1/c],λx=>by simp[ev];grind⟩
theorem U9(a:Jc u=u)(b:u≠[])(h:Dv u (Jb u)):Dv u [1]:=by
 refine Nk a b (kZ a ?_);obtain⟨c,d,e⟩:=h.some (JO u);grind[Xp,JS,kY,Ac]
theorem kg(B:Jc d=d)(y:d≠[])(h:Dv d (Jv (Jb d) f)):∀(n:Nat) (u:Ja),Jc u=u->d.length-u.length<=n->Dv u d->Dd u f->Dv u [1]:=by
 intro n;induction n with
 |zero=>
  intro u b hl p j;obtain⟨m,l,e⟩:=p.some B;have a:u≠[]:=λg=>y (by rw[e,g];rfl);have r:m≠[]:=λg=>y (by rw[e,g];exact Xp _);have l1:=JS b l a r;rw[<-e]at l1;have p2:0<m.length:=Ac.2 r;have p3:0<u.length:=Ac.2 a;have P:m.length<=1:=O
  have Q:=Nk l r P;have N:Dv d u:=by
   obtain⟨c,w⟩:=Q;refine⟨c,λx=>?_⟩;have V:=w x;rw[e,Ji,Rat.mul_assoc,<-V];simp[ev];grind
  have i:Dv u (Jv f (Jb d)):=by
   obtain⟨c,w⟩:=p.trans h;exact⟨c,λx=>by rw[<-w,Ji,Ji];grind⟩
  have W:=j.dv i;refine U9 b a ?_;obtain⟨k,hk,R⟩:=N.anti B b p;have z:Jb u=DQ k (Jb d):=by
   refine Ea (JO _) (JK _ _) λx=>?_;rw[R,J2];have A:DQ k d=Jv d [k]:=Ea (JK _ _) (Yq _ _) λx=>by rw[J2,Ji];simp[ev];grind
   rw[A,Yp];have H:ev (Jb [k]) x=0:=by rw[KQ];simp[dv,ev];grind
   rw[H];simp[ev];grind
  rw[z];exact W.sc k
 |succ n ih=>
  intro u b hl p j;obtain⟨m,l,e⟩:=p.some B;have a:u≠[]:=λg=>y (by rw[e,g];rfl);have r:m≠[]:=λg=>y (by rw[e,g];exact Xp _);obtain⟨T,U,s,t,g3⟩:=Xl b l;have G:=II b l (An a);have D:=YA u m;by_cases hg:(JN u m).length<=1
  . obtain⟨c,w⟩:=Nk D G hg;have M:Dd u m:=⟨Jv s c,Jv t c,λx=>by
     grind[Ji,ev]⟩
    have i:Dv u (Jv f (Jv m (Jb u))):=by
     obtain⟨v,q⟩:=h;refine⟨Ys (Jv m v) (Jv f (Jb m)),λx=>?_⟩;have z:=q x;have A:=Yp u m x;rw[<-e]at A;have H:ev d x=ev u x*ev m x:=by rw[e,Ji]
     rw[Ji]at z;rw[Ji,Ji,Xb,Ji,Ji];grind
    exact U9 b a (M.dv (j.dv i))
  . have K:Dv (Jv u (JN u m)) d:=by
     obtain⟨v,q⟩:=U;exact⟨v,λx=>by rw[e,Ji,q,Ji];grind⟩
    have l1:=JS b D a G;have p3:0<u.length:=Ac.2 a;have i:=ih (Jv u (JN u m)) (Yq _ _) O K (j.symm.mul (j.of_dv T).symm).symm;obtain⟨v,q⟩:=i;exact⟨Jv (JN u m) v,λx=>by rw[q,Ji,Ji];grind⟩
structure Yun(R w y:Ja):Prop where
 tR:Jc R=R
 R0:R≠[]
 tw:Jc w=w
 w0:w≠[]
 mw:Jy w=w
 ty:Jc y=y
 eq:∀x,ev y x*ev R x=ev w x*ev (Jb R) x
 cop:Dd w y
theorem Yun.dv(h:Yun R w y):Dv w R:=by
 refine h.cop.dv ⟨Jb R,λx=>?_⟩;rw[Ji,h.eq]
theorem QC(i:Jc w=w)(w0:w≠[])(mw:Jy w=w)(hg:Jc g=g)(n:Jy g=g)(h:Dv g w):Jy (JA w g)=JA w g/\g≠[]/\JA w g≠[]/\w=Jv g (JA w g):=by
 have b:g≠[]:=λe=>w0 (by
  obtain⟨c,m⟩:=h;grind[XK,ev])
 have e:=(JW hg b h).2;have a:w=Jv g (JA w g):=Ea i (Yq _ _) λx=>by rw[Ji,<-e]
 have q0:JA w g≠[]:=λd=>w0 (by rw[a,d];exact Xp _);refine⟨?_,b,q0,a⟩;have l:=JS hg (Y6 w g) b q0;have p1:0<g.length:=Ac.2 b;have j:0<(JA w g).length:=Ac.2 q0;have k:cf w (w.length-1)=cf g (g.length-1)*cf (JA w g) ((JA w g).length-1):=by
  obtain⟨Q,f⟩:=ex (JA w g);rw[f]at a l j ⊢;rw[a,l,show g.length+Q.length-1-1=(g.length-1)+(Q.length-1)by omega];unfold Jv;rw[JT];exact RA g Q (g.length-1) (Q.length-1) O O
 grind[Px,Jy,IF,Y6]
theorem Yun.step(h:Yun R w y):JN w (JA R w)=JA w (JN w (Ys y (Jb w)))/\JA w (JN w (JA R w))=JN w (Ys y (Jb w))/\
 Yun (JA R w) (JA w (JN w (Ys y (Jb w)))) (JA (Ys y (Jb w)) (JN w (Ys y (Jb w))))/\R=Jv w (JA R w)/\
 (∀x,ev (Ys y (Jb w)) x*ev (JA R w) x=ev w x*ev (Jb (JA R w)) x)/\w=Jv (JN w (Ys y (Jb w))) (JA w (JN w (Ys y (Jb w)))):=by
 obtain⟨r,hr⟩:=ex (JA R w);obtain⟨z,hz⟩:=ex (Ys y (Jb w));have tr:Jc r=r:=by rw[<-hr];exact Y6 _ _
 have M:Jc z=z:=by rw[<-hz];exact Xd _ _
 have eR:∀x,ev R x=ev w x*ev r x:=by rw[<-hr];exact(JW h.tw h.w0 h.dv).2
 have Qf:R=Jv w r:=Ea h.tR (Yq _ _) λx=>by rw[Ji,eR]
 have r0:r≠[]:=λe=>h.R0 (by rw[Qf,e];exact Xp _);have Qt:∀x,ev z x*ev r x=ev w x*ev (Jb r) x:=by
  have a:=Y5 (g:=w) (u:=Jv z r) (v:=Jv w (Jb r)) h.tw h.w0 (λx=>by
   have b:=h.eq x;grind[Yp,Ji,Xb])
  intro x;have b:=a x;rwa[Ji,Ji]at b
 have Q:=JO r;obtain⟨d,m⟩:=ex (JN r (Jb r));have q:Jc d=d:=by rw[<-m];exact YA _ _
 have d0:d≠[]:=by rw[<-m];exact II tr Q (An r0)
 obtain⟨g1,g2,_⟩:=Xl tr Q;rw[m]at g1 g2;obtain⟨f,W⟩:=ex (JA r d);obtain⟨e,he⟩:=ex (JA (Jb r) d);have B:∀x,ev r x=ev d x*ev f x:=by rw[<-W];exact(JW q d0 g1).2
 have ee:∀x,ev (Jb r) x=ev d x*ev e x:=by rw[<-he];exact(JW q d0 g2).2
 have tf:Jc f=f:=by rw[<-W];exact Y6 _ _
 have f0:f≠[]:=λT=>r0 (XK tr λx=>by rw[B,T];simp[ev]);have Qg:Dd f e:=by
  have:=QB tr Q (by rw[m];exact d0);rwa[m,W,he]at this
 have Qo:∀x,ev z x*ev f x=ev w x*ev e x:=by
  have a:=Y5 (g:=d) (u:=Jv z f) (v:=Jv w e) q d0 (λx=>by
   grind[Ji])
  intro x;have b:=a x;rwa[Ji,Ji]at b
 have Qe:Dv f w:=Qg.dv (⟨z,λx=>by rw[Ji];have:=Qo x;grind⟩);obtain⟨k,tk,U⟩:=Qe.some h.tw;have A:∀x,ev w x=ev f x*ev k x:=λx=>by rw[U,Ji]
 have N:∀x,ev z x=ev k x*ev e x:=by
  have a:=Y5 (g:=f) (u:=z) (v:=Jv k e) tf f0 (λx=>by
   grind[Ji])
  intro x;have b:=a x;rwa[Ji]at b
 obtain⟨P,i⟩:=ex (JN w z);have j:Jc P=P:=by rw[<-i];exact YA _ _
 have mP:Jy P=P:=by rw[<-i];exact L5 h.tw M
 obtain⟨p1,p2,_⟩:=Xl h.tw M;have Qm:Dv k P:=by rw[<-i];exact QA h.tw M ⟨f,λx=>by rw[A];grind⟩ ⟨e,N⟩
 rw[i]at p1 p2;have Qk:Dv P k:=by
  obtain⟨u,v,p⟩:=Qg;refine p1.comb p2 u v λx=>?_;have a:=p x;rw[A,N];grind
 obtain⟨m1,l,H,eW⟩:=QC h.tw h.w0 h.mw j mP p1;have zP:=(JW j l p2).2;have wP:=(JW j l p1).2;have Qj:Dd k y:=h.cop.of_dv ⟨f,λx=>by rw[A];grind⟩;have Qp:Dd k f:=by
  obtain⟨u,v,p⟩:=Qj;refine⟨Xc u (Jv v (Xc e (Jb f))),Jv v (Jb k),λx=>?_⟩;have a:=p x;have b:ev y x=ev z x+ev (Jb w) x:=by rw[<-hz,Xb];grind
  have D:=Yp f k x;rw[<-U]at D;have h4:=N x;rw[YF,Ji,Ji,YF];grind
 have Qh:Dv d (Jv (Jb d) f):=by
  refine⟨Ys e (Jb f),λx=>?_⟩;have a:r=Jv d f:=Ea tr (Yq _ _) λx=>by rw[Ji,B]
  have b:=Yp d f x;rw[<-a,ee]at b;rw[Ji,Xb];grind
 have Qn:Dd k d:=by
  obtain⟨q1,q2,s,t,q3⟩:=Xl tk q;obtain⟨c,V⟩:=kg q d0 Qh (d.length) (JN k d) (YA _ _) O q2 (Qp.of_dv q1);refine⟨Jv s c,Jv t c,λx=>?_⟩;have a:=V x;have b:=q3 x;have D:ev [1] x=1:=by simp[ev];grind
  rw[D]at a;rw[Ji,Ji];grind
 obtain⟨c1,c2,s,t,c3⟩:=Xl h.tw tr;have Qi:Dv f (JN w r):=QA h.tw tr Qe ⟨d,λx=>by rw[B];grind⟩;have Qr:Dv (JN w r) f:=by
  obtain⟨u,v,p⟩:=Qn;refine c1.comb c2 u v λx=>?_;have a:=p x;rw[A,B];grind
 obtain⟨n,G⟩:=ex (JA w P);rw[G]at m1 H eW wP;have K:Jc n=n:=by rw[<-G];exact Y6 _ _
 have Qs:Dv f n:=by
  obtain⟨c,V⟩:=Qk;refine⟨c,λx=>?_⟩;have a:=Y5 (g:=P) (u:=n) (v:=Jv f c) j l (λx=>by
   grind[Ji])
  have b:=a x;rwa[Ji]at b
 have Ql:Dv n f:=by
  have k0:k≠[]:=λT=>h.w0 (by rw[U,T];exact Xp _);obtain⟨c,V⟩:=Qm;refine⟨c,λx=>?_⟩;have a:=Y5 (g:=k) (u:=f) (v:=Jv n c) tk k0 (λx=>by
   grind[Ji])
  have b:=a x;rwa[Ji]at b
 have hG:JN w r=n:=Dv.eq (YA _ _) K (L5 h.tw tr) m1 (Qr.trans Qs) (Ql.trans Qi);have Qq:Dv n w:=⟨P,λx=>by rw[wP];grind⟩;have Qa:JA w n=P:=by
  refine Ea (Y6 _ _) j λx=>?_;have a:=(JW K H Qq).2;refine Y5 (g:=n) (u:=JA w n) (v:=P) K H (λx=>?_) x;have b:=a x;have D:=wP x;grind
 rw[hr,hz,i,G];refine⟨hG,by rw[hG];exact Qa,⟨tr,r0,K,H,m1,Y6 _ _,λx=>?_,?_⟩,Qf,Qt,eW⟩
 . refine(Y5 (g:=P) (u:=Jv (JA z P) r) (v:=Jv n (Jb r)) j l (λx=>?_) x |> λa=>by rwa[Ji,Ji]at a);grind[Ji]
 . have:=QB h.tw M (by rw[i];exact l);rwa[i,G]at this
theorem Yun.start(tp:Jc p=p)(p0:p≠[])(f:Jy p=p):Yun p (JA p (JN p (Jb p))) (JA (Jb p) (JN p (Jb p))):=by
 have ts:=JO p;obtain⟨b,c,_⟩:=Xl tp ts;have a:=II tp ts (An p0);obtain⟨d,_,g,e⟩:=QC tp p0 f (YA _ _) (L5 tp ts) b;have i:=(JW (YA p (Jb p)) a b).2;have j:=(JW (YA p (Jb p)) a c).2;refine⟨tp,p0,Y6 _ _,g,d,Y6 _ _,λx=>?_,QB tp ts a⟩;grind
end
theorem Nl{a b:Rat}(c:0<a)(d:0<b):∃e,0<e/\e<=a/\e<=b:=by
 grind
def kh{w:Ja}(tw:Jc w=w)(w0:w≠[])(hl:w.length<=1)(x y:Rat):Ds w x y:=by
 match w,w0,hl with
 |[c],_,_=>
  have c0:c≠0:=by
   have:=Jt tw DG;simpa[cf]using this
  exact LG c0 (λx=>J9 c x) x y
theorem kj:∀(n:Nat) (R w y:Ja),R.length<=n->Yun R w y->∀ {B:Rat},0<=B->∃k,0<k/\Sh B λx z=>¬Ds w x z->k<=ev y x*ev (Jb w) x/\k<=ev y z*ev (Jb w) z:=by
 intro n;induction n with
 |zero=>intro R w y hn h;exact absurd (Az.1 O) h.R0
 |succ n ih=>
  intro R w y hn h B f;by_cases hl:w.length<=1
  . exact⟨1,DK,Sh.all λx z _ _ _ H=>absurd (kh h.tw h.w0 hl x z) H⟩
  . obtain⟨_,_,c,T,_,G⟩:=h.step;have P:=Xd y (Jb w);have Qa:∀x,ev (Ys y (Jb w)) x=ev y x-ev (Jb w) x:=λx=>Xb _ _ _;obtain⟨z,hz⟩:=ex (Ys y (Jb w));rw[hz]at c G P Qa;obtain⟨g1,g2,_⟩:=Xl h.tw P;have a0:=II h.tw P (An h.w0);have W:=(JW (YA w z) a0 g2).2;obtain⟨a,ha⟩:=ex (JN w z);rw[ha]at c G W;obtain⟨g,bn⟩:=ex (JA w a);rw[bn]at c G;obtain⟨s,bt⟩:=ex (JA z a);rw[bt]at c W;obtain⟨Q,bj⟩:=ex (JA R w);rw[bj]at c T;have lR:Q.length<=n:=by
     have:=JS h.tw c.tR h.w0 c.R0;rw[<-T]at this;omega
    obtain⟨N,bu,s2⟩:=ih Q g s lR c f;have l:∀x,ev w x=ev a x*ev g x:=λx=>by
     grind[Ji]
    have fd:∀x,ev (Jb w) x=ev (Jb a) x*ev g x+ev a x*ev (Jb g) x:=λx=>by
     grind[Yp]
    have fy:∀x,ev (Jb w) x=ev y x-ev a x*ev s x:=λx=>by
     grind
    obtain⟨u,v,ae⟩:=h.cop;obtain⟨U,pU,hU⟩:=FY u f;obtain⟨V,i,hV⟩:=FY v f;obtain⟨ck,pY,hY⟩:=FY y f;obtain⟨A,pA,hA⟩:=FY a f;obtain⟨A1,ah,hA1⟩:=FY (Jb a) f;obtain⟨W2,ce,bm⟩:=FY g f;obtain⟨j,dm,bk⟩:=FY (Jb g) f;obtain⟨D,cj,ad⟩:=FY s f;have nn:∀ {a b:Rat},0<a->0<b->0<a*b:=λh1 c=>Cb h1 c;obtain⟨e1,ak,am⟩:=small (Fy (nn pU ce)) (show(0:Rat)<1/4 by grind);obtain⟨e2,an,ap⟩:=small (Fy (nn (nn i i) (nn pY cj))) (show(0:Rat)<1/16 by grind);obtain⟨e,e0,bh,bi⟩:=Nl ak an;have m:0<V*(j+D):=nn i DI;obtain⟨M,hM⟩:=ex (V*(j+D));obtain⟨e3,aq,ay⟩:=small (Fy (nn pU pA)) (show(0:Rat)<1/4 by grind);obtain⟨e4,az,bc⟩:=small (Fy (nn i ah)) (show(0:Rat)<1/4 by grind);obtain⟨e5,bf,bg⟩:=small (Fy (nn (nn m m) (nn ah (nn pA (show 0<j+j+D by grind))))) (show(0:Rat)<N/8 by grind);obtain⟨d1,ai,cn,co⟩:=Nl aq az;obtain⟨d,d0,de,aj⟩:=Nl ai bf;obtain⟨k,k0,di,dj⟩:=Nl (Xh (show(0:Rat)<1/2 by grind) (nn i i)) (Xh (show(0:Rat)<N/8 by grind) (nn m m));refine⟨k,k0,(((KS a f e0).and (KS g f d0)).and s2).mono λx x' hx dh _ ⟨⟨ta,tw⟩,s2⟩ H=>?_⟩;have dk:∀ {K r t:Rat},0<K->r<=K*t->k<=r/K->k<=t:=fun {K r t} hK h1 c=>by
     have h3:r/K*K=r:=AB DI;rcases Xs k t with h4|h4
     . exact h4
     . have:=Ao (a:=K) (b:=k-t) DI DI;have:=Ao (a:=r/K-k) (b:=K) DI DI;grind[A6]
    have ca:∀p,Wi B p->Wi e (ev a p)->k<=ev y p*ev (Jb w) p:=λp hp hq=>by
     have:=WH (hU p hp) (hV p hp) (hY p hp) hq (bm p hp) (ad p hp) (ae p) (l p) (by have:=am e bh;grind) (by have:=ap e bi;grind);grind
    have cw:∀p,Wi B p->Wi d (ev g p)->N<=ev s p*ev (Jb g) p->k<=ev y p*ev (Jb w) p:=λp hp hq hk=>by
     have h9:=WI (hU p hp) (hV p hp) (hA p hp) (hA1 p hp) hq (bk p hp) (ad p hp) (ae p) (l p) DI bu hk (by have:=ay d DI;grind) (by have:=bc d DI;grind) (by have:=bg d aj;grind);grind
    by_cases sa:Ds a x x'
    . have sw:¬Ds g x x':=λq=>H (by
       unfold Ds at *;rw[l,l];grind)
      grind
    grind
namespace M3
variable{ps:Ja}{v:I}{W:X}
def kl(n:Nat)(a d:nJ)(c b g f:Nat)(w:X):
 CallsIn Fence.wide n C 87 #[E #[F a c b],E #[F d g f]] w λe i=>e=.returned (.func (.func 136) #[] #[L (some ⟨w.heap.size,0,none⟩),L (some ⟨w.heap.size+1,0,none⟩)])/\i=(w.alloc (o #[F a c b] 25)).alloc (o #[F d g f] 25):=by
 refine Bu func87 J trivial ?_ J;simp only[ntmps87,AF,Ah,AK,Nat.reduceAdd,Nat.reduceSub,As,At,AE,Ay,Ar,AC];gi_wp2;go_ret;exact⟨J,J⟩
def VA(B B4 B5:Nat)(I:List Ja->X->Prop)(H:List Ja)(W:X):Exit->Act->X->Prop
 |.normal,_,W'=>I H W'/\W.heap.size<=W'.heap.size/\(∀(k:Nat) (o:Obj),B<=k->o.isCells=false\/k=B4\/k=B5->W.heap[k]?=some o->W'.heap[k]?=some o)/\∀v ps,Jh W v ps->Jh W' v ps
 |_,_,_=>False
def QD{W':X}{row:Option Nat}(hg:W.grownBy W' row)(a:∀r,row=some r->∃o:Obj,W.heap[r]?=some o/\o.isCells=false)(h:Jh W v ps):Jh W' v ps:=by
 obtain⟨u,e,h⟩:=h;exact⟨u,e,Lf hg a h⟩
def Nm{l:Nat}{o a:Obj}(hl:W.heap[l]?=some o)(b:o.isCells=false)(h:Jh W v ps):Jh (W.putObj l a) v ps:=
 QD (BX W l a) (λr e=>by cases e;exact⟨o,hl,b⟩) h
theorem km{g:Operand}{ps:Array Tmp}{assign body:Code}{Q:Exit->Act->X->Prop}{a:Act}{w:X}{n:Nat}
(h1:2<=n){K M N:Nat}{pa qa:nJ}{pl pc ql qc:Nat}{p q:Ja}(bi:ChOk K p q)(ay:De w M pa pl pc)(az:De w N qa ql qc)(ip:Jh w (E #[F pa pl pc]) p)(iq:Jh w (E #[F qa ql qc]) q)
(hg:a.eval g=.func (.func 136) #[] #[L (some ⟨M,0,none⟩),L (some ⟨N,0,none⟩)])(eg:∀args w,(callFunc 136 args).run C w=.ok (.enter 136 args) w)(bk:ps.size=1)
(I:Nat->Nat->List Ja->X->Prop)(hI:∀B4 B5,OwnFrom w.heap.size (I B4 B5))(ah:∀B4 B5,GB (I B4 B5))(an:∀B4 B5,w.heap.size<=B4->w.heap.size<=B5->L1 B4 B5 (I B4 B5))(h0:∀B4 B5 V,w.heap.size+2<=B4->w.heap.size+2<=B5->Bl w V->I B4 B5 [] V)(a₁:Value->Nat->Act)
(ap:∀(l:Nat) (x:nJ) (s m:Nat) (W:X) (K:Act->X->Prop),K (a₁ (F x s m) W.heap.size) (W.alloc (o #[F x s m] 25))->
  assign.wpIn (Fence.wide.inRound l) (n-1-1) C (Exit.then K λ_ _ _=>False) { tmps:=(ps.zip #[E #[F x s m]]).foldl (λt (p,v)=>t.setIfInBounds p v) a.tmps,defers:=[] } W)
(aq:∀(l b B4 B5:Nat) (x:nJ) (s m:Nat) (r:Ja) (H:List Ja) (W:X),I B4 B5 H W->H++[r] <+: D4 p q->w.heap.size+1<b->B4<b->B5<b->De W b x s m->Jh W (E #[F x s m]) r->
  body.wpIn (Fence.wide.inRound l) (n-1-1) C (VA w.heap.size B4 B5 (I B4 B5) (H++[r]) W) (a₁ (F x s m) b) W)
(bf:∀(D B4 B5:Nat) (W:X) (H:List Ja) (r:Ja),w.heap.size<=D->I B4 B5 (H++[r]) W->D4 p q=H++[r]->Chn p q (DR K p q) r []->W.heap[D]?=some (.deferred (some []))->Q .normal { a with defers:={ target:=.collected D,args:=#[] }::a.defers } W):
 (Code.rangeFunc g ps assign body).wpIn Fence.wide n C Q a w:=by
 refine wpIn_rangeFunc λfn bg=>?_;rw[show Fence.wide.round=none from J];obtain⟨rc,G⟩:∃rc:LoopState->Option Code->Loop,rc=λst pe=>{ state:=st,pending:=pe,fn,tmps:=a.tmps,params:=ps,assign,body,defers:=w.heap.size }:=⟨_,J⟩;obtain⟨V,hV⟩:=ex ((w.alloc (.deferred (some []))).alloc (.loop (rc .ready none)));have vL:V.heap[w.heap.size+1]?=some (.loop (rc .ready none)):=by
  rw[<-hV];have:=BB (w.alloc (.deferred (some []))) (.loop (rc .ready none));rwa[Ax]at this
 have vD:V.heap[w.heap.size]?=some (.deferred (some [])):=by
  rw[<-hV];exact(Bh _ _ _ DG).trans (BB w _)
 have R:Bl w V:=by rw[<-hV];exact(Ba w _).alloc (by rw[Ax];omega) _
 have bt:V.heap.size=w.heap.size+2:=by rw[<-hV];simp
 refine⟨w.heap.size+1,[{ target:=.collected w.heap.size,args:=#[] }],V,{ target:=.fn (.func 136) #[L (some ⟨M,0,none⟩),L (some ⟨N,0,none⟩)],args:=#[.func (.yield (w.heap.size+1)) #[] #[]] },V,136,
  #[.func (.yield (w.heap.size+1)) #[] #[]]++#[L (some ⟨M,0,none⟩),L (some ⟨N,0,none⟩)],V,?_,?_,?_,?_,λ_=>by omega,?_⟩
 . rw[<-hV,G];exact run_enterLoop_outer _ _ _ _ _
 . simp only[resolve,hg];simp[go_sem]
 . intro f' ai;simp[Target.leads]at ai;subst ai;exact trivial
 . simp[invoke,go_sem,eg]
 refine(kT K (n-1) O M N pa qa pl pc ql qc p q bi (w.heap.size+1)
  (λB4 B5 H W=>I B4 B5 H W/\W.heap[w.heap.size+1]?=some (.loop (rc .ready none))/\W.heap[w.heap.size]?=some (.deferred (some [])))
  V (ay.below R) (az.below R) (ip.below R) (iq.below R) ?_ ?_ ?_ λB4 B5 U h4 h5 hU=>⟨h0 B4 B5 U O O (R.trans (hU.mono O)),(hU.block _ (Ab.1 vL).1).trans vL,(hU.block _ (Ab.1 vD).1).trans vD⟩).mono ?_
 . rintro B4 B5 H W W' ⟨z,hl,d⟩ hb;exact⟨ah _ _ _ _ _ z hb,(hb.block _ (Ab.1 hl).1).trans hl,(hb.block _ (Ab.1 d).1).trans d⟩
 . rintro B4 B5 h4 h5 H W B x s m u hB hb ⟨z,hl,d⟩;exact⟨an B4 B5 O O _ _ _ _ _ _ _ hB hb z,(BC W ⟨B,0,none⟩ u _ DI).trans hl,(BC W ⟨B,0,none⟩ u _ DI).trans d⟩
 . rintro B4 B5 bm bn H W f j i a5 l5 c5 p4 q5 bj ak am ⟨z,hl,d⟩ h4 h5 i4 i5;have Qf:=(Ab.1 hl).1;have hy:=run_yield (P:=C) (args:=#[E #[F f j i]]) hl (by rw[G];exact bk.symm);rw[G]at hy;obtain⟨W1,ae⟩:=ex (W.alloc (o #[F f j i] 25));have y:Bl W W1:=by rw[<-ae];exact Ba W _
   have Qd:=(y.block _ Qf).trans hl;have Ql:=(y.block _ O).trans d;have Qj:=ah _ _ _ _ _ z y;have Qh:De W1 W.heap.size f j i:=by rw[<-ae];exact BF W 25 (F f j i)
   refine⟨fn,_,assign,body,hy,roundIn_of_wpIn bg (ap _ _ _ _ W _ ?_)⟩;rw[ae];refine⟨_,run_beginRound Qd (by rw[G]),?_⟩;obtain⟨bx,bc⟩:=ex (W.heap.size);have Qu:=h4.below y;have Qr:=h5.below y;have Qv:=i4.below y;have Qn:=i5.below y;rw[bc]at Qh Qf ak am ⊢;have Qg:=(Ab.1 Qd).1;obtain⟨c,A⟩:=ex (W1.putObj (w.heap.size+1) (.loop { rc .ready none with state:=.busy }));rw[A];have Qo:c.heap[w.heap.size+1]?=some (.loop { rc .ready none with state:=.busy }):=by rw[<-A];exact Be Qg
   have Qe:∀k,k≠w.heap.size+1->c.heap[k]?=W1.heap[k]?:=λk d=>by rw[<-A];exact BL O
   have Qt:De c bx f j i:=(Qe bx O).trans Qh;have Qk:=(Qe _ O).trans Ql;have Qp:I B4 B5 H c:=by rw[<-A];exact(hI B4 B5).putObj _ Qj O Qd J
   have Qq:De c B4 f j i:=(Qe B4 O).trans Qu;have Qw:De c B5 a5 l5 c5:=(Qe B5 O).trans Qr;have Qi:Jh c (E #[F f j i]) p4:=by rw[<-A];exact Nm Qd J Qv
   have Qs:Jh c (E #[F a5 l5 c5]) q5:=by rw[<-A];exact Nm Qd J Qn
   refine wpIn_mono (aq _ bx B4 B5 f j i p4 H c Qp bj Qf ak am Qt Qi) λe a3 W3 hp=>?_;cases e with
   |normal=>
    obtain⟨bh,bu,ad,aj⟩:=hp;have T:=ad _ _ O (An J) Qo;have hr:=run_endRound (P:=C) none T;have Qa:∀k,k≠w.heap.size+1->(W3.putObj (w.heap.size+1) (.loop (rc .ready none))).heap[k]?=W3.heap[k]?:=λk d=>BL O;have Qm:(Instr.endRound (w.heap.size+1) none).run C W3=.ok (S true) (W3.putObj (w.heap.size+1) (.loop (rc .ready none))):=by
     grind
    exact⟨_,_,Qm,J,⟨(hI B4 B5).putObj _ bh O T J,Be (Ab.1 T).1,(Qa _ O).trans (ad _ _ (Aa _) (An J) Qk)⟩,
     (Qa _ O).trans (ad _ _ O (Au (An J)) Qq),(Qa _ O).trans (ad _ _ O (Au (Au J)) Qw),Nm T J (aj _ _ Qi),Nm T J (aj _ _ Qs)⟩
   |ret=>exact hp.elim
   |exit id=>exact hp.elim
   |goto t=>exact hp.elim
   |panic ch=>exact hp.elim
   |outgrown=>exact hp.elim
 . rintro e c ⟨⟨v,rfl⟩,B4,B5,H,r,⟨h4,h5⟩,⟨z,hl,d⟩,hc,hn⟩;exact⟨none,_,by have:=run_endLoop (P:=C) hl (by rw[G];simp);rw[G]at this;exact this,bf _ B4 B5 _ H r (Aa _) ((hI B4 B5).putObj _ z O hl J) hc hn ((BL O).trans d)⟩
end M3
def Cd(M:Nat)(p:Ja):Prop:=∃D:Int,D≠0/\Sm M D/\Do D M p
section
variable {M N:Nat} {p q:Ja}
def Cd.mono(h:Cd M p)(a:M<=N):Cd N p:=by
 obtain⟨D,d1,b,c⟩:=h;exact⟨D,d1,b.mono a,λi=>(c i).mono a⟩
def Cd.smq(h:Cd M p)(i:Nat):DP M (cf p i):=by
 obtain⟨D,d1,a,b⟩:=h;exact(b i).smq d1 a
def Cd.ln(h:Cd M p):Ln M p:=by
 obtain⟨D,d1,b,a⟩:=h;exact a.ln d1
def Cd.sqs(h:Cd M p)(a:M<=1000000000):Sqs p:=Sqs.of λi=>Sq.of (h.smq i) a
theorem Cd.pos(h:Cd M p):1<=M:=by
 obtain⟨D,d1,b,_⟩:=h;by_cases a:1<=M
 . exact a
 . exfalso
   obtain rfl:M=0:=O
   grind[Sm]
def Cd.dvn(h:Cd M p)(f:Cd M q)(g:cf q (q.length-1)=1):∃D E:Int,Dvn D E E M M p q:=by
 obtain⟨D,d1,c,d⟩:=h;obtain⟨E,a,b,e⟩:=f;exact⟨D,E,d1,c,d,a,b,e,a,b,by rw[g,Rat.divInt_self' a]⟩
def Cd.quo(h:Cd M p)(e:Cd M q)(b:cf q (q.length-1)=1):Cd ((p.length+1)*(M+1)) (JA p q)/\Cd ((p.length+1)*(M+1)) (JI p q):=by
 obtain⟨D,E,d⟩:=h.dvn e b;obtain⟨m,b⟩:=ex (p.length-(q.length-1));have a:=d.den m;have c:=d.rem b;have f:m*(M+1)<=p.length*(M+1):=Ae _ O;have g:(p.length+1)*(M+1)=p.length*(M+1)+(M+1):=DI
 exact⟨⟨_,a.1,a.2.mono O,λi=>(c.2 i).mono O⟩,⟨_,a.1,a.2.mono O,λi=>(c.1 i).mono O⟩⟩
end
def VB{q:Ja}(tq:Jc q=q)(q0:q≠[])(a:Jy q=q):cf q (q.length-1)=1:=by
 have:=Px tq q0;rwa[a]at this
def Ex(p q:Ja):Ja:=if q=[]then []else JA p q
theorem Cd.ov{M:Nat}{p q:Ja}(h:Cd M p)(b:Cd M q)(tq:Jc q=q)(c:Jy q=q):Cd ((p.length+1)*(M+1)) (Ex p q):=by
 unfold Ex;split
 . refine(show Cd 1 []from P7 O).mono ?_;grind
 . rename_i a;exact(h.quo b (VB tq a c)).1
def Ij(p:Ja):Ja:=Jy (Ex p (JN p (Jb p)))
namespace M3
variable{K:Nat}
def Chn.ends{p q:Ja}(d:ChOk K p q):∀(n:Nat) (a b:Ja),b.length<=n->Chn p q (DR K p q) a b->∃r,Chn p q (DR K p q) r []:=by
 intro n;induction n with
 |zero=>
  intro a b hl h;have c:b=[]:=Lu O;subst c;exact⟨a,h⟩
 |succ n e=>
  intro a b hl h;by_cases c:b=[]
  . subst c;exact⟨a,h⟩
  . have f:=XJ (a:=a) h.tb c;exact e b (XO a b) O (Chn.next d.tp d.tq d.lp d.lq d.bd.2.2.1 h c)
def ChOk.gcd{p q:Ja}(a:ChOk K p q):Cd (DR K p q) (JN p q):=by
 obtain⟨r,b⟩:=Chn.ends a _ _ _ (Aa _) (Chn.start a.tp a.tq a.lp a.lq a.bd.2.2.1);rw[<-b.gc,UQ];exact K0 b.ta b.wa.ln a.bd.2.2.2
def ko(M:Nat)(v:I)(p:Ja)(w:X)(h:RowK false w v p)(tp:Jc p=p)(b:Cd M p)(a:M<=1000000000)(hl:p.length<=1000000000):
 Calls C 156 #[v] w λe c=>∃u,e=.returned u/\RowK false c u (Jy p)/\Bl w c:=
 U8 v p w h tp (b.sqs a) (λd=>by
  rw[Rat.div_def,Rat.one_mul];exact Sq.of ((b.smq _).inv (Jt tp d)) a) O
def kq(M:Nat)(b c:I)(p q:Ja)(w:X)(f:RowK false w b p)(g:RowK false w c q)(hp:Cd M p)(hq:Cd M q)(tp:Jc p=p)(tq:Jc q=q)(q0:q≠[])(i:Jy q=q)(k:(p.length+3)*(M+1)<=1000000000)(hl:p.length<=1000):
 Calls C 110 #[b,c] w λe d=>∃u v,e=.returned (.tuple #[u,v])/\RowK false d u (JA p q)/\RowK false d v (JI p q)/\Bl w d:=by
 obtain⟨D,E,a⟩:=hp.dvn hq (VB tq q0 i);have j:(p.length+3)*(M+1)=p.length*(M+1)+3*(M+1):=AU _ _ _;exact P2 _ M b c p q w f g (a.divS p.length O) a.start a.sq tp tq q0 hl
structure FrOk(K:Nat)(p:Ja):Prop where
 ch:ChOk K p (Jb p)
 le:(p.length+3)*(DR K p (Jb p)+1)*2<=1000000000
def FrOk.cd{p:Ja}(h:FrOk K p):Cd (DR K p (Jb p)) p:=(show Cd K p from h.ch.cp).mono (by have:=Hn K p (Jb p);omega)
def FrOk.sl{p:Ja}(h:FrOk K p)(i:Nat):Sq (EW p i):=by
 have b:=(show Cd K (Jb p)from h.ch.cq).sqs h.ch.bd.2.1;have a:=b.at i;unfold Jb at a;rwa[JT,Iq]at a
theorem kr(K:Nat)(v:I)(p:Ja)(w:X)(h:RowK false w v p)(b:FrOk K p):
 Calls C 107 #[v] w λe t=>∃u,e=.returned u/\RowK false t u (Ij p)/\Bl w t:=by
 obtain⟨a,la,ca,rfl⟩:=h.form;obtain⟨s,M,N,ad,_⟩:=h.formsF;by_cases c:p=[]
 . have W:(la:Int)=0:=by rw[s,c];rfl
   have x:=Y (show RowK false w (F a la ca) (Ij p)by rw[c]at h ⊢;exact h);clear h c b;go_enter func107,ntmps107
   go_wp2_with fail
   go_ret;exact⟨_,J,x.o,BA _ _⟩
 . have U:¬(la:Int)=0:=by have:=Ac.2 c;omega
   have B:=b.le;have r:=b.ch.bd;have A:(p.length+3)*(DR K p (Jb p)+1)=(p.length+1)*(DR K p (Jb p)+1)+2*(DR K p (Jb p)+1):=by rw[<-AU]
   have f:=b.ch.gcd;have j:=L5 b.ch.tp b.ch.tq;have i:=II b.ch.tp b.ch.tq (An c);have z:=b.ch.ln;have k:Ex p (JN p (Jb p))=JA p (JN p (Jb p)):=BD i;obtain⟨m,q,n⟩:=DX (Tr _ p w h (b.cd.sqs r.1) O) (λ(V:X) (l:Bl w V) (y:I) (d:RowK false V y (Jb p))=>kV K _ y p (Jb p) V (h.below l) d b.ch) λ(V:X) (l:Bl w V) (y:I) (d:RowK false V y (JN p (Jb p)))=>kq (DR K p (Jb p)) _ y p (JN p (Jb p)) V (h.below l) d b.cd f b.ch.tp (YA _ _) i j O O;have g:=Y (λ(V:X) (y:I) (d:RowK false V y (JA p (JN p (Jb p))))=>ko ((p.length+1)*(DR K p (Jb p)+1)) y (JA p (JN p (Jb p))) V d (Y6 _ _) (by rw[<-k];exact b.cd.ov f (YA _ _) j) O (by
    grind[JA,JV,YU]))
   rw[show Jy (JA p (JN p (Jb p)))=Ij p by unfold Ij;rw[k]]at g;clear h c b B r A f j i z k s M N;go_enter func107,ntmps107
   go_wp2_with(first
    |(go_at_call 108;refine m.o.mono ?_;clear m;rintro e w1 ⟨u1,rfl,P,hq⟩)
    |(go_at_call 155;refine(q.o _ hq _ P).mono ?_;clear q;rintro e w2 ⟨u2,rfl,Q,D⟩;have hq:=Bt hq D)
    |(go_at_call 110;refine(n.o _ hq _ Q).mono ?_;clear n;rintro e w3 ⟨u3,v3,rfl,R,ae,G⟩;have hq:=Bt hq G)
    |(go_at_call 156;refine(g.o _ _ R).mono ?_;clear g;rintro e w4 ⟨u4,rfl,T,H⟩;have hq:=Bt hq H))
   go_ret;exact⟨_,J,T,hq⟩
end M3
def L7(r:Bool):TypeId:=match r with|true=>73|false=>73
def zP:Array I:=#[F none 0 0,.int .i64 0]
def K3(r:Bool)(W W':X):Prop:=∀B,B<W.heap.size->(∀cs m,W.heap[B]?≠some (o cs (L7 r) m))->W'.heap[B]?=W.heap[B]?
variable{cs:List I}{base:Nat}{v:I}{W W':X}
theorem K3.at{r:Bool}(h:K3 r W W'){B:Nat}{cs:Array I}{t:TypeId}{m:Nat × Nat}(a:W.heap[B]?=some (o cs t m))(c:t≠L7 r):W'.heap[B]?=W.heap[B]?:=
 h B (Ab.1 a).1 λb d e=>by
  grind
def ks(k:IntKind)(r:Bool):It k≠L7 r:=by cases r<;>cases k<;>decide
def kt(k:Bool)(r:Bool):Dn k≠L7 r:=by cases r<;>cases k<;>decide
def K3.row{r:Bool}(h:K3 r W W'){k:IntKind}{ds:m4}(t:Row k W v ds):Row k W' v ds:=by
 obtain⟨a,c,e,i,l,n,g4⟩:=t;refine⟨a,c,e,i,l,n,?_⟩;rcases g4 with g4|⟨b,u,g,f,q⟩
 . exact An g4
 . obtain⟨cs,m,p⟩:=id f;have d:=h.at p (ks k r);refine Au ⟨b,u,g,f.of d,λj s=>?_⟩;rw[<-q j s];simp only[World.cell?,d]
def K3.rowK{r:Bool}(h:K3 r W W'){k:Bool}{qs:Ja}(B:RowK k W v qs):RowK k W' v qs:=by
 obtain⟨a,cap,e,p,q,s,c⟩:=B;refine⟨a,cap,e,p,q,s,?_⟩;rcases c with c|⟨b,n,cs,d,w⟩
 . exact An c
 . refine Au ⟨b,n,cs,(h.at d (kt k r)).trans d,λj A=>?_⟩;obtain⟨x,y,z,u,f,i,l,m,t⟩:=w j A;exact⟨x,y,z,u,f,i,l,m,t.keep λ_ _ _ g=>h.row g⟩
def Ho(r:Bool)(W:X)(cs:List I)(L:List (Ja × Nat)):Prop:=
 cs.length=L.length*2/\∀j p t,L[j]?=some (p,t)->∃x,cs[j*2]?=some x/\cs[j*2+1]?=some (.int .i64 (t:Int))/\RowK r W x p
theorem Ho.keep{r:Bool}{L:List (Ja × Nat)}(h:Ho r W cs L)(d:∀v qs,RowK r W v qs->RowK r W' v qs):Ho r W' cs L:=by
 refine⟨h.1,λj p t e=>?_⟩;obtain⟨x,a,b,c⟩:=h.2 j p t e;grind
def Ho.below{r:Bool}{W W':X}{cs:List I}{L:List (Ja × Nat)}(h:Ho r W cs L)(a:Bl W W'):Ho r W' cs L:=h.keep λ_ _ g=>g.below a
theorem Ho.snoc{r:Bool}{L:List (Ja × Nat)}(h:Ho r W cs L){x:I}{p:Ja}{t:Nat}(f:RowK r W x p):Ho r W (cs++[x,.int .i64 (t:Int)]) (L++[(p,t)]):=by
 refine⟨by simp[h.1];omega,λj g i e=>?_⟩;by_cases c:j<L.length
 . rw[Ft c]at e;obtain⟨y,k,l,m⟩:=h.2 j g i e;grind
 . rw[Cr O]at e;obtain⟨d,b⟩:=ex (j-L.length);rw[b]at e;cases d with
   |succ d=>simp at e
   |zero=>
    simp at e;obtain⟨rfl,rfl⟩:=e;have a:j=L.length:=O
    subst a;refine⟨x,?_,?_,f⟩
    . rw[Cr (by have:=h.1;omega),h.1,Cv];rfl
    . rw[Cr (by have:=h.1;omega),h.1,show L.length*2+1-L.length*2=1 by omega];rfl
def Ep(r:Bool)(base:Nat)(W:X)(v:I)(L:List (Ja × Nat)):Prop:=
 (v=F none 0 0/\L=[])\/∃g cap a,v=F (some ⟨g,0,none⟩) L.length cap/\base<=g/\W.heap[g]?=some (o a (L7 r) (0,0))/\L.length<=cap/\cap<=maxLen/\a.size=cap*2/\Ho r W (a.toList.take (L.length*2)) L
theorem Ep.nil(r:Bool)(base:Nat)(W:X):Ep r base W (F none 0 0) []:=An ⟨J,J⟩
def Ep.below{r:Bool}{base:Nat}{W W':X}{v:I}{L:List (Ja × Nat)}(h:Ep r base W v L)(b:Bl W W'):Ep r base W' v L:=by
 rcases h with h|⟨g,cap,c,d,e,a,f,i,j,k⟩
 . exact An h
 . exact Au ⟨g,cap,c,d,e,(b.block g (Ab.1 a).1).trans a,f,i,j,k.below b⟩
theorem Ep.form{r:Bool}{L:List (Ja × Nat)}(h:Ep r base W v L):∃a c,v=F a L.length c/\L.length<=c/\c<=maxLen:=by
 rcases h with⟨rfl,rfl⟩|⟨g,cap,b,rfl,_,_,d,e,_⟩
 . exact⟨none,0,J,DG,by unfold maxLen;omega⟩
 grind
theorem Ep.set{r:Bool}{L:List (Ja × Nat)}(h:Ep r base W v L){B:Nat}{a:nJ}{l c:Nat}(b:Boxed W B 25 (F a l c)){u:I}(s:∀v qs,RowK r W v qs->RowK r (W.setCell ⟨B,0,none⟩ u) v qs):Ep r base (W.setCell ⟨B,0,none⟩ u) v L:=by
 rcases h with h|⟨g,cap,f,i,j,k,m,n,p,q⟩
 . exact An h
 . have d:g≠B:=λe=>by
    subst e;have t:W.heap[g]?=some (o #[F a l c] 25 (0,0)):=b;grind
   exact Au ⟨g,cap,f,i,j,(BC W ⟨B,0,none⟩ u g d).trans k,m,n,p,q.keep s⟩

