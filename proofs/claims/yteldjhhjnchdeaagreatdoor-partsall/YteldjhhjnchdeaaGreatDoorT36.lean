import Derived.Test.YteldjhhjnchdeaaGreatDoorT35
set_option linter.all false
open Go.Value renaming slice->F,agg->E,pointer->L,int->Q,bool->o
open Go renaming World->X,Value->I
open Go.Proofs.Tryz renaming prog->C
open Go.Obj renaming cells->A
open Go.IntKind renaming i64->U
set_option maxRecDepth 99999
set_option maxHeartbeats 0
namespace Go.Proofs.YteldjhhjnchdeaaGreatDoor
open List renaming replicate->kT
open Proofs.Tryz
open Go.RowKit Go.Shelf
attribute [local go_sem] Oper.semAt_some
namespace M3
variable{S ps qs:Ja}{n:Nat}
theorem gL(G:I)(q:Rat)(w:X)(t:Jl w G q)(D:Sq q):
 Calls C 129 #[G] w λe H=>∃u,e=.returned u/\Jl H u (YE q)/\Bl w H:=by
 obtain⟨az,W,aq,ai,bf,ae,an,ak,rfl⟩:=Jl.form t;obtain⟨W0,y,c⟩:=Kt 65 (.rat q) t 65 (.rat 0) (ER _);have z:=Y D;clear t D;go_enter func129,ntmps129
 go_upto_region 1 with fail
 rw[y.o];clear y;obtain⟨s1,S,l1,c1,t1,b1,k1,d1,k,r1,N,P⟩:=c.o.rat (i:=0) J;have d:=Bx.all k;obtain⟨s2,T,l2,c2,t2,b2,k2,d2,a,r2,i2,j2⟩:=c.o.rat (i:=1) J;have b:=Bx.all a;have f:=Bx.f a;obtain⟨g,l,K⟩:=Dc (Rt _ _ q 0 W0 r1 (ER _) z.o Ij) (λ(V:X) (h:Bl W0 V)=>MI _ _ 0 q V (ER _) (r1.below h) Ij z.o) r1;obtain⟨n,v⟩:=ex (Ha q 0);rw[v]at g;have x:=Y v;clear v r1 N P;by_cases B:n<0
 . have m:=Y (show 0-q=YE q by
    have s:=(Tb q).1 (by rw[x.o];exact B);unfold YE;rw[BL s];grind)
   rw[m.o]at l;go_wp2_with(first
    |(go_at_call 68;refine g.o.mono ?_;clear g;rintro e R ⟨rfl,hq⟩;clear d;have d:=Bx.all (k.below hq);clear b;have b:=Bx.all (a.below hq);clear f;have f:=Bx.f (a.below hq))
    |(go_at_call 51;refine(l.o _ hq).mono ?_;clear l;rintro e w2 ⟨u2,rfl,j,M⟩;obtain⟨bc,ad,ay,aj,bg,ah,ap,am,rfl⟩:=Jl.form j;have hq:=Bt hq M;clear d;have d:=Bx.all (k.below hq);clear b;have b:=Bx.all (a.below hq);clear f;have f:=Bx.f (a.below hq)))
   have r:=Bt c.o.2.2 hq;have p:=c.o.ge 1 J;exact BA (by simp[results,results129,go_sem,b]) J ⟨_,J,j.put4 (a.below hq) J J J J _ _ _ _,Jw r p _ _ _ _⟩
 . have m:=Y (show YE q=q by
    have s:¬q<0:=λh=>B (by rw[<-x.o];exact(Tb q).2 h);unfold YE;rw[BH s])
   go_wp2_with(go_at_call 68;refine g.o.mono ?_;clear g;rintro e R ⟨rfl,hq⟩;clear d;have d:=Bx.all (k.below hq);clear b;have b:=Bx.all (a.below hq);clear f;have f:=Bx.f (a.below hq))
   have j:=K.o.below hq;rw[<-m.o]at j;have r:=Bt c.o.2.2 hq;have p:=c.o.ge 1 J;exact BA (by simp[results,results129,go_sem,b]) J ⟨_,J,j.put4 (a.below hq) J J J J _ _ _ _,Jw r p _ _ _ _⟩
def gM(N P:I)(x y:Nat)(w:X)(r:Jk w N (x:Int))(s:Jk w P (y:Int))(M:0<x)(G:Sok (x:Int))(H:Sok (y:Int)):
 Calls C 97 #[N,P] w λe R=>∃u,e=.returned u/\Jk R u ((Nat.lcm x y:Nat):Int)/\Bl w R:=by
 have S:=Y (show((Int.gcd x y:Nat):Int)≠0 by have:=Nat.gcd_pos_of_pos_left y M;exact Int.natCast_ne_zero.2 (by show Nat.gcd x y≠0;omega));obtain⟨az,ah,ap,ak,rfl⟩:=Jk.form2 r;obtain⟨bc,ai,aq,am,rfl⟩:=Jk.form2 s;obtain⟨W0,t,z⟩:=Gy 63 (.int ((x:Int))) r 63 (.int ((y:Int))) s 63 (.int 0) (EY _);have l:=Y G;have g:=Y H;clear r s G H;go_enter func97,ntmps97
 go_upto_region 1 with fail
 rw[t.o];clear t;clear M;refine Xa Di [[],[],[],[1,2],[0,3,3],[4],[5],[5],[5],[],[],[9,6,4,0,1,2,3,4,5,6,9,10],[10,7,11,0,1,2,3,4,5,6,7,9,10,11],[8,12,0,1,2,3,4,5,6,7,8,9,10,11,12]] [.int ((y:Int)),.int ((x:Int)),.int ((y:Int)),.int (((Int.gcd x y:Nat):Int)),.tup2 (.int ((y:Int)/((Int.gcd x y:Nat):Int))) (.int ((y:Int)%((Int.gcd x y:Nat):Int))),.tup2 (.int ((y:Int)/((Int.gcd x y:Nat):Int))) (.int ((y:Int)%((Int.gcd x y:Nat):Int))),.int ((y:Int)/((Int.gcd x y:Nat):Int)),.int ((y:Int)%((Int.gcd x y:Nat):Int)),.eq (o true),.ptr,.ptr,.eq undef,.eq undef,.eq (o true)] [9,10,11,12] (λb v V=>DL w V [some (w.heap.size,.int ((x:Int))),some (w.heap.size+1,.int ((y:Int))),some (w.heap.size+1+1,.int 0),nb b v 0 2 (.int 0) (.int ((y:Int)/((Int.gcd x y:Nat):Int))),nb b v 1 3 (.int 0) (.int ((y:Int)%((Int.gcd x y:Nat):Int)))]) ((z.o.none).none).drew (No (.vl J λ_ j=>GP 1 j)<|No (.vl J λ_ j=>GP 0 j)<|No (.vl J λ_ j=>GP 1 j)<|No (.cl λh _=>Ii _ _ (x:Int) (y:Int) _ (h.g 1) (h.g 2) (by have:=l.o.words;omega) (by have:=g.o.words;omega))<|No (.cl λh _=>RS (Ro _ _ (y:Int) ((Int.gcd x y:Nat):Int) _ (h.g 0) (h.g 3) S.o (by have:=g.o.words;omega) (by have:=(l.o.gcd g.o).words;omega)))<|No (.vl J λh _=>mw (h.g 4))<|No (.vl J λh _=>Ra (h.g 5))<|No (.vl J λh _=>Rb (h.g 5))<|No (.vl J λh _=>Rc (h.g 5))<|No (.wr J λ_ j=>Gz 3 j)<|No (.wr J λ_ j=>Gz 4 j)<|No (.wr J λh j=>GQ 3 j (h.g 6) (hp:=h.g 9))<|No (.wr J λh j=>GQ 4 j (h.g 7) (hp:=h.g 10))<|No (.vl J λh _=>aw (h.g 8)) Stp.end_)
  λf W hF c=>?_
 refine DU ?_;rw[hF.e 8,hF.e 13];obtain⟨B3,n⟩:=hF.p 9;obtain⟨B4,q⟩:=hF.p 10;have c:=ED c;simp only[n,q]at c;rw[n,q];have a:=Y c;clear c hF n q;clear z;obtain⟨s5,a5,l5,c5,n5,i5⟩:=a.o.int (i:=0) J;have ad:=Bx.all n5;obtain⟨s6,a6,l6,c6,n6,i6⟩:=a.o.int (i:=3) J;have ae:=Bx.all n6;obtain⟨s7,a7,l7,c7,d,i7⟩:=a.o.int (i:=2) J;have m:=Bx.all d;have D:=Bx.f d;have k:=Y (Xs _ _ (x:Int) ((y:Int)/((Int.gcd x y:Nat):Int)) W i5 i6 (by have h1:=l.o.words;have h2:=(g.o.div (y:=((Int.gcd x y:Nat):Int))).words;omega));rw[gK]at k;go_wp2_with(go_at_call 85;refine k.o.mono ?_;clear k;rintro e w2 ⟨u2,rfl,K,hq⟩;obtain⟨bf,aj,ay,an,rfl⟩:=Jk.form2 K;clear m;have m:=Bx.all (d.below hq);clear D;have D:=Bx.f (d.below hq))
 have T:=Bt a.o.2.2 hq;have B:=a.o.ge 2 J;exact BA (by simp[results,results97,go_sem,m]) J ⟨_,J,K.box (d.below hq) J J,(T.setCell (p:=⟨_,0,none⟩) B _).setCell (p:=⟨_,1,none⟩) B _⟩
def Iv(F:Nat->Rat)(n i:Nat)(S:Ja):Prop:=S.length=n/\∀j,cf S j=if j<i then F j else 0
theorem Iv.next{F:Nat->Rat}{i:Nat}(h:Iv F n i S)(a:i<n):Iv F n (i+1) (S.set i (F i)):=by
 refine⟨by rw[C0];exact h.1,λj=>?_⟩;rw[XJ _ _ _ _ (by rw[h.1];exact a),h.2 j];grind
theorem Iv.done{F:Nat->Rat}{T:Ja}(h:Iv F n n S)(hT:Jb T=T)(hF:∀j,j<n->cf T j=F j)(a:∀j,n<=j->cf T j=0):Jb S=T:=by
 rw[<-hT];refine Yy λj=>?_;rw[h.2 j];grind
def Td(v vf:I)(ps:Ja)(f:Rat)(w:X)(h:Jh w v ps)(hf:Jl w vf f)(am:Sqs ps)(an:Sq f)(ap:∀i,Sq (cf ps i*f)):
 Calls C 98 #[v,vf] w λe w'=>∃u,e=.returned u/\Jh w' u (Da f ps)/\Bl w w':=by
 obtain⟨m,la,r,rfl⟩:=h.form;obtain⟨s,a,l,c,t,b,k,d,rfl⟩:=Jl.form hf;obtain⟨az,aq,ay,bc,_⟩:=h.row.forms;obtain⟨V0,ai,y⟩:=Gy 25 (.cell 25 (F m la r)) EH 65 (.rat f) hf 25 (.cell 25 (F none 0 0)) EH;have M1:=y.o;obtain⟨n,hn⟩:=ex (ps.length:Nat);obtain⟨e0,ak⟩:=ex ((n:Int)-1:Int);have K:=Y (YJ (E #[F m la r]) ps V0 (h.below M1.2.2));rw[hn,ak]at K;have bg:e0+1=(n:Int):=O
 have bh:U.wrap (n:Int)=(n:Int):=by rw[BQ];omega
 have Ql:∀W:X,(Instr.makeSlice 22 (Q U (n:Int)) (Q U (n:Int))).run C W=.ok (F (some ⟨W.heap.size,0,none⟩) n n) (W.alloc (A (YB n) 65)):=λW=>Tc n O W;obtain⟨HP,Qg,Qk,HN⟩:=Do (λ(V:X) (hB:Bl w V)=>h.below hB) am ap (show ps.length=n from hn);have Qc:n<=1099511627776:=O
 have Qn:=Y an;clear h am ap az aq ay hn ak M1 bc hf an;go_enter func98,ntmps98
 go_upto_region 1 with fail
 rw[ai.o];have c0:=(y.o.cell (i:=0) J).1.cell;go_upto_region 2 with(go_at_call 20;refine K.o.mono ?_;clear K;rintro e G ⟨rfl,aj⟩)
 have M:DL w (G.alloc (A (YB n) 65)) [some (w.heap.size,.cell 25 (F m la r)),some (w.heap.size+1,.rat f),some (w.heap.size+1+1,.cell 25 (F none 0 0)),some (G.heap.size,.rats (kT n 0))]:=(y.o.below aj).push (.rats (kT n 0)) (Mb _ n);obtain⟨V1,P⟩:=ex (G.alloc (A (YB n) 65));obtain⟨B,ad⟩:=ex (G.heap.size);rw[P,ad]at M;rw[P,ad];have Qf:=Y M;clear M P ad aj c0 y ai Ql;go_wp2;go_loopw [13] (λiv wr=>∃(i:Nat) (S:Ja),i<=n/\iv=Q U (i:Int)/\Hid (Iv (λj=>cf ps j*f) n i S)/\Hid (DL w wr [some (w.heap.size,.cell 25 (F m la r)),some (w.heap.size+1,.rat f),some (w.heap.size+1+1,.cell 25 (F none 0 0)),some (B,.rats S)])) λiv _=>n-(intOf iv).toNat
 case atStart=>exact⟨0,_,As _,J,Y ⟨AE,λj=>by rw[JT,BH O]⟩,Qf⟩
 case round=>
  obtain⟨i,S,hi,rfl,g,x⟩:=hrel;clear Qf;by_cases ae:i<n
  . have bi:(i:Int)<(n:Int):=O
    have Qh:=Y (show i<S.length by rw[g.o.1];exact ae);have bf:=Y (show i<ps.length by rw[HN.o];exact ae);go_wp2_with fail
    have Qm:=x.o.drew;refine Xa Di [[],[],[],[],[2,3],[],[4,5,4],[0,1,0,1,2,3,4,5,6],[7,6,6,0,1,2,3,4,5,6]] [.eq (F (some ⟨B,0,none⟩) n n),.eq (Q U (i:Int)),.eq (E #[F m la r]),.eq (Q U (i:Int)),.rat (cf ps i),.rat f,.rat (cf ps i*f),.eq (L (some ⟨B,i*4,none⟩)),.eq undef] [8] (λb _ V=>DL w V [some (w.heap.size,.cell 25 (F m la r)),some (w.heap.size+1,.rat f),some (w.heap.size+1+1,.cell 25 (F none 0 0)),some (B,if b.getD 0 false then .rats (S.set i (cf ps i*f))else .rats S)]) Qm (No (.vl J λ_ _=>mv)<|No (.vl J λ_ _=>mv)<|No (.vl J λ_ j=>FY 0 j)<|No (.vl J λ_ _=>mv)<|No (.cl λh j=>c2 (h.e 2) (h.e 3) (by have q:=KH _ ps (i:Int) _ (HP.o _ j.2.2);rw[KQ]at q;exact q))<|No (.vl J λ_ j=>GO 1 j)<|No (.cl λh _=>Kz _ _ (cf ps i) f _ (h.g 4) (h.g 5) (Qg.o.at i) Qn.o)<|No (.vl J λh _=>⟨_,by refine DU ?_;rw[h.e 0,h.e 1];go_simp,J⟩)<|No (.wr J λh j=>Ky 3 j Qh.o (h.g 6) (h.e 7)) Stp.end_)
     λf V hF z=>?_
    refine DU ?_;rw[hF.e 0,hF.e 1,hF.e 2,hF.e 3,hF.e 7];have z:=ED z;have HO:=Y z;clear z hF;go_wp2_with fail
    go_roundw
    case rel=>exact⟨i+1,_,O,by go_num,Y (g.o.next ae),HO⟩
    case measure=>simp[intOf];omega
  . obtain rfl:i=n:=O
    have hE:=x.o.rats (i:=3) J;have H:=hE.row (n:=i) (cap:=i) (by rw[g.o.1];exact Aa _) (Aa _) O Qc;rw[Ad (by rw[g.o.1];exact Aa _)]at H;have N:=Y (R8 _ S wr H (Sqs.of λj=>by
     rw[g.o.2 j];split
     . exact Qk.o j
     . exact Ij))
    rw[g.o.done (T:=Da f ps) (JQ _ _) (λj hj=>Yo _ _ _) λj hj=>by rw[Yo,JS (by rw[HN.o];exact hj),CX]]at N;clear hE H;go_wp2_with(go_at_call 59;refine N.o.mono ?_;clear N;rintro e w5 ⟨u5,rfl,ah,_,R⟩;obtain⟨a7,l7,c7,rfl⟩:=ah.form;have D:=boxed_below (x.o.cell (i:=2) J).1 R;have x0:=D.cell;have x1:=D.frozen;have Qi:=Y (Ej D (F a7 l7 c7) ah.row);have Qj:=Y ((Bt x.o.2.2 R).setCell (p:=⟨w.heap.size+1+1,0,none⟩) (by show w.heap.size<=w.heap.size+1+1;omega) (F a7 l7 c7));clear ah R D)
    exact BA (by simp[results,results98,go_sem,x0]) J ⟨_,J,⟨_,J,Qi.o⟩,Qj.o⟩
def gN(p:Ja)(n:Nat):((Int.gcd ((Y4 p n:Nat):Int) (cf p n).num:Nat):Int)=((Y4 p (n+1):Nat):Int):=rfl
def gO(p:Ja)(n:Nat):((Nat.lcm (Xi p n) (cf p n).den:Nat):Int)=((Xi p (n+1):Nat):Int):=rfl
theorem O6(D:Int)(M:Nat)(v:I)(ps:Ja)(w:X)(h:Jh w v ps)(ae:Jb ps=ps)(hD:D≠0)(ad:Sm M D)(R:Dp D M ps)(hM:M<=1000000000):
 Calls C 56 #[v] w λe w'=>∃u,e=.returned u/\Jh w' u (Yf ps)/\Bl w w':=by
 obtain⟨c,la,d,rfl⟩:=h.form;obtain⟨bf,az,bc,bg,_⟩:=h.row.forms;have Qa:∀i,DT M (cf ps i):=λi=>(R i).smq hD ad;obtain⟨HG,HL,Qb⟩:=Dc (λi=>Sok.of (TS (λj=>(Qa j).1) i) O:∀i,Sok ((Y4 ps i:Nat):Int)) (λi=>Sok.of (TR hD ad R i) O:∀i,Sok ((Xi ps i:Nat):Int)) (show Sqs ps from Sqs.of λi=>Sq.of (Qa i) hM);have HF:=Y (show ps≠[]->Sq ((Xi ps ps.length:Rat)/(Y4 ps ps.length:Rat))/\∀i,Sq (cf ps i*((Xi ps ps.length:Rat)/(Y4 ps ps.length:Rat)))from λg=>by
  have h1:=TT ae g (R.ln hD);refine⟨?_,λi=>?_⟩
  . have h2:((Xi ps ps.length:Rat)/(Y4 ps ps.length:Rat))=Rat.divInt ((Xi ps ps.length:Nat):Int) ((Y4 ps ps.length:Nat):Int):=by grind[Ck,AM]
    rw[h2];exact Sq.of (DT.divInt (Int.natCast_ne_zero.2 (LJ ae g)) (TR hD ad R _) (TS (λj=>(Qa j).1) _)) hM
  . obtain⟨z,h3,h4⟩:=h1 i;have h5:cf ps i*((Xi ps ps.length:Rat)/(Y4 ps ps.length:Rat))=(z:Rat):=by rw[<-h4];unfold Yf;rw[Yo]
    rw[h5];have h6:1<=M:=by
     by_cases h7:1<=M
     . exact h7
     . exfalso
       obtain rfl:M=0:=O
       grind[Sm]
    exact Sq.of ((Mh (D:=1) DN h3 DX).smq DN (Sm.one M h6)) hM)
 have Qj:=Y (λg=>LJ ae g:ps≠[]->Y4 ps ps.length≠0);obtain⟨W0,an,M1⟩:=Gy 25 (.cell 25 (F c la d)) EH 25 (.cell 25 (F none 0 0)) EH 63 (.int (((Y4 ps 0:Nat):Int))) (EY _) (w:=w);obtain⟨n,hn⟩:=ex (ps.length:Nat);obtain⟨e0,ay⟩:=ex ((n:Int)-1:Int);have Qc:=Y λ(V:X) (N:Bl w V)=>YJ (E #[F c la d]) ps V (h.below N);rw[hn,ay]at Qc;have bm:e0+1=(n:Int):=O
 have bn:U.wrap (n:Int)=(n:Int):=by rw[BQ];omega
 have HP:=Y λ(V:X) (N:Bl w V)=>h.below N;have HN:=Y (show ps.length=n from hn);have ce:n<=1099511627776:=O
 have Qd:=Y λ(V:X)=>Jx 1 O O V;clear h bf az bc hn ay bg ae hD ad R hM Qa;go_enter func56,ntmps56
 go_upto_region 2 with fail
 rw[an.o];clear an;go_upto_region 3 with(go_at_call 95;refine(Qd.o _).mono ?_;clear Qd;rintro e w1 ⟨u1,rfl,ak,ap⟩;obtain⟨s1,a1,l1,c1,rfl⟩:=Jk.form2 ak)
 obtain⟨V1,s⟩:=ex (w1.alloc (A #[o s1,F a1 l1 c1] 63));obtain⟨k,r⟩:=ex (w1.heap.size);have a:DL w (w1.alloc (A #[o s1,F a1 l1 c1] 63)) [some (w.heap.size,.cell 25 (F c la d)),some (w.heap.size+1,.cell 25 (F none 0 0)),some (w.heap.size+1+1,.int (((Y4 ps 0:Nat):Int))),some (w1.heap.size,.int (((Xi ps 0:Nat):Int)))]:=DL.push (M1.o.below ap) (.int (((Xi ps 0:Nat):Int))) ak;rw[s,r]at a;rw[s];rw[r];have M2:Hid (DL w V1 [some (w.heap.size,.cell 25 (F c la d)),some (w.heap.size+1,.cell 25 (F none 0 0)),some (w.heap.size+1+1,.int (((Y4 ps 0:Nat):Int))),some (k,.int (((Xi ps 0:Nat):Int)))]):=Y (a);clear M1;clear a s r;clear ak ap;have c0:=(M2.o.cell (i:=0) J).1.cell;go_upto_region 4 with(go_at_call 20;refine(Qc.o _ M2.o.2.2).mono ?_;clear Qc;rintro e w2 ⟨rfl,aq⟩)
 have ML:Hid (DL w w2 [some (w.heap.size,.cell 25 (F c la d)),some (w.heap.size+1,.cell 25 (F none 0 0)),some (w.heap.size+1+1,.int (((Y4 ps 0:Nat):Int))),some (k,.int (((Xi ps 0:Nat):Int)))]):=Y (M2.o.below aq);clear c0 aq M2;go_loopw [12] (λiv wr=>∃i:Nat,i<=n/\iv=Q U (i:Int)/\Hid (DL w wr [some (w.heap.size,.cell 25 (F c la d)),some (w.heap.size+1,.cell 25 (F none 0 0)),some (w.heap.size+1+1,.int (((Y4 ps i:Nat):Int))),some (k,.int (((Xi ps i:Nat):Int)))])) λiv _=>n-(intOf iv).toNat
 case atStart=>exact⟨0,As _,J,ML⟩
 case round=>
  obtain⟨i,hi,rfl,M3⟩:=hrel;clear ML;by_cases bt:i<n
  . have bu:(i:Int)<(n:Int):=O
    go_upto_region 6 with fail
    refine Xa Di [[],[],[],[1,2],[3,3],[0,4,4],[5,5,0,1,2,3,4,5]] [.int (((Y4 ps i:Nat):Int)),.eq (E #[F c la d]),.eq (Value.int IntKind.i64 ↑i),.rat (cf ps i),.int ((cf ps i).num),.int (((Y4 ps (i+1):Nat):Int)),.eq undef] [6] (λb _ V=>DL w V [some (w.heap.size,.cell 25 (F c la d)),some (w.heap.size+1,.cell 25 (F none 0 0)),some (w.heap.size+1+1,if b.getD 0 false then .int (((Y4 ps (i+1):Nat):Int))else .int (((Y4 ps i:Nat):Int))),some (k,.int (((Xi ps i:Nat):Int)))]) M3.o.drew (No (.vl J λ_ j=>GP 2 j)<|No (.vl J λ_ j=>FY 0 j)<|No (.vl J λ_ _=>mv)<|No (.cl λh j=>c2 (h.e 1) (h.e 2) (by have q:=KH _ ps (i:Int) _ (HP.o _ j.2.2);rw[KQ]at q;exact q))<|No (.cl λh _=>eU _ (cf ps i) _ (h.g 3))<|No (.cl λh _=>by have q:=Ii _ _ ((Y4 ps i:Nat):Int) (cf ps i).num _ (h.g 0) (h.g 4) (by have:=(HG.o i).words;omega) (by have:=(Qb.o.at i).num.words;omega);rw[gN]at q;exact q)<|No (.wr J λh j=>GQ 2 j (h.g 5)) Stp.end_)
     λf V3 hF a=>?_
    refine DU ?_;rw[hF.e 1,hF.e 2];have a:=ED a;have m:=Y a;clear a hF;clear M3;go_upto_region 7 with fail
    refine Xa Di [[],[],[],[1,2],[3,3],[0,4,4],[5,5,0,1,2,3,4,5]] [.int (((Xi ps i:Nat):Int)),.eq (E #[F c la d]),.eq (Value.int IntKind.i64 ↑i),.rat (cf ps i),.int (((cf ps i).den:Int)),.int (((Xi ps (i+1):Nat):Int)),.eq undef] [6] (λb _ V=>DL w V [some (w.heap.size,.cell 25 (F c la d)),some (w.heap.size+1,.cell 25 (F none 0 0)),some (w.heap.size+1+1,.int (((Y4 ps (i+1):Nat):Int))),some (k,if b.getD 0 false then .int (((Xi ps (i+1):Nat):Int))else .int (((Xi ps i:Nat):Int)))]) m.o.drew (No (.vl J λ_ j=>GP 3 j)<|No (.vl J λ_ j=>FY 0 j)<|No (.vl J λ_ _=>mv)<|No (.cl λh j=>c2 (h.e 1) (h.e 2) (by have q:=KH _ ps (i:Int) _ (HP.o _ j.2.2);rw[KQ]at q;exact q))<|No (.cl λh _=>Ez _ (cf ps i) _ (h.g 3))<|No (.cl λh _=>by have q:=gM _ _ (Xi ps i) (cf ps i).den _ (h.g 0) (h.g 4) (TO ps i) (HL.o i) (Qb.o.at i).den;rw[gO]at q;exact q)<|No (.wr J λh j=>GQ 3 j (h.g 5)) Stp.end_)
     λf V5 hF a=>?_
    refine DU ?_;rw[hF.e 1,hF.e 2];have a:=ED a;have M5:=Y a;clear a hF;clear m;go_wp2_with fail
    go_roundw
    case rel=>exact⟨i+1,O,by go_num,M5⟩
    case measure=>simp[intOf];omega
  . obtain rfl:i=n:=O
    obtain⟨s6,a6,l6,c6,n6,i6⟩:=M3.o.int (i:=2) J;obtain⟨Qi,Ql⟩:=n6.cp;obtain⟨s7,a7,l7,c7,n7,i7⟩:=M3.o.int (i:=3) J;obtain⟨Qf,Qm⟩:=n7.cp;have l:=Y (MH _ _ ((Xi ps i:Nat):Int) ((Y4 ps i:Nat):Int) wr i7 i6 (HL.o i) (HG.o i));have Qe:=(M3.o.cell (i:=1) J).1;obtain⟨r9,aj⟩:=ex (Rat.divInt ((Xi ps i:Nat):Int) ((Y4 ps i:Nat):Int));rw[aj]at l;have Qg:=Y aj;clear aj;by_cases g:ps=[]
    . have B:=Y (show decide (((Y4 ps i:Nat):Int)≠0)=false by rw[<-HN.o,g];decide);rw[B.o]at l;have HE:=Y (show Yf ps=[]by rw[g];rfl);clear g B;go_wp2_with(go_at_call 84;refine l.o.mono ?_;clear l;rintro e y ⟨u4,rfl,ah,P⟩;obtain⟨W,G,T,H,t9,b9,S,K,rfl⟩:=Jl.form ah;have t:=boxed_below (boxed_below Qe P) (Ba y (A #[o W,F G T H,o t9,F b9 S K] 65));have x0:=t.cell;have x1:=t.frozen)
      rw[HE.o];exact BA (by simp[results,results56,go_sem,x0]) J ⟨_,J,Rx _,((Bt M3.o.2.2 P).alloc (by have:=M3.o.2.2.size;have:=P.size;omega) _).setCell (p:=⟨w.heap.size+1,0,none⟩) (by show w.heap.size<=w.heap.size+1;omega) _⟩
    . have B:=Y (show decide (((Y4 ps i:Nat):Int)≠0)=true by
       refine BI ?_;rw[<-HN.o];exact Int.natCast_ne_zero.2 (Qj.o g))
      rw[B.o]at l;have HE:=Y (show r9=(Xi ps ps.length:Rat)/(Y4 ps ps.length:Rat)by rw[<-Qg.o,Ck,AM,AM,HN.o]);have HT:=Y (show Da r9 ps=Yf ps by rw[HE.o];rfl);have HS:=Y (show Sq r9/\∀j,Sq (cf ps j*r9)by rw[HE.o];exact HF.o g);clear g B;have H2:=Y λ(V:X) (N:Bl w V) (x:I) (hx:Jl V x r9)=>Td (E #[F c la d]) x ps r9 V (HP.o V N) hx Qb.o HS.o.1 HS.o.2;rw[HT.o]at H2;go_upto_region 12 with(go_at_call 84;refine l.o.mono ?_;clear l;rintro e y ⟨u4,rfl,ah,P⟩;obtain⟨W,G,T,H,t9,b9,S,K,rfl⟩:=Jl.form ah)
      clear Qi Ql Qf Qm;obtain⟨V8,s⟩:=ex (y.alloc (A #[o W,F G T H,o t9,F b9 S K] 65));obtain⟨B8,r⟩:=ex (y.heap.size);have a:DL w (y.alloc (A #[o W,F G T H,o t9,F b9 S K] 65)) [some (w.heap.size,.cell 25 (F c la d)),some (w.heap.size+1,.cell 25 (F none 0 0)),some (w.heap.size+1+1,.int (((Y4 ps i:Nat):Int))),some (k,.int (((Xi ps i:Nat):Int))),some (y.heap.size,.rat r9)]:=DL.push (M3.o.below P) (.rat r9) ah;rw[s,r]at a;rw[s];rw[r];have m:Hid (DL w V8 [some (w.heap.size,.cell 25 (F c la d)),some (w.heap.size+1,.cell 25 (F none 0 0)),some (w.heap.size+1+1,.int (((Y4 ps i:Nat):Int))),some (k,.int (((Xi ps i:Nat):Int))),some (B8,.rat r9)]):=Y (a);clear M3;clear a s r;obtain⟨W,G,T,H,t9,b9,S,K,n9,r9,i9,j9⟩:=m.o.rat (i:=4) J;obtain⟨bh,bi,bj,bk⟩:=n9.cq;have c0:=(m.o.cell (i:=0) J).1.cell;have n1:=(m.o.cell (i:=1) J).1;have HQ:=Y m.o.2.2;go_wp2_with(go_at_call 98;refine(H2.o _ HQ.o _ r9).mono ?_;clear H2;rintro e w5 ⟨u5,rfl,am,ai⟩;obtain⟨a7,l7,c7,rfl⟩:=am.form;have t:=boxed_below n1 ai;have x0:=t.cell;have x1:=t.frozen;have Qk:=Y (K3 t (x:=F a7 l7 c7) am);have Qh:=Y ((Bt HQ.o ai).setCell (p:=⟨w.heap.size+1,0,none⟩) (by show w.heap.size<=w.heap.size+1;omega) (F a7 l7 c7));clear am ai t)
      exact BA (by simp[results,results56,go_sem,x0]) J ⟨_,J,Qk.o,Qh.o⟩
theorem gP(va vb:I)(ps qs:Ja)(w:X)(G:Jh w va ps)(H:Jh w vb qs)(an:Sqs ps)(ay:Sqs qs)(aq:qs≠[])(ap:∀i,i<=ps.length+1-qs.length->Sq (YE (cf qs (qs.length-1))^i))(az:∀i,Sq (cf ps i*Gk ps qs)):
 Calls C 99 #[va,vb] w λe w'=>∃u,e=.returned u/\Jh w' u (XA ps qs)/\Bl w w':=by
 obtain⟨m,P⟩:=ex (qs.length-1:Nat);have Qs:=Ac.2 aq;have Qo:ps.length<=1099511627776:=by
  obtain⟨g,la,k,rfl⟩:=G.form;have:=G.row.forms;omega
 have Qk:qs.length<=1099511627776:=by
  obtain⟨c,lb,d,rfl⟩:=H.form;have:=H.row.forms;omega
 obtain⟨L,D⟩:=ex (YE (cf qs m):Rat);obtain⟨N,hN⟩:=ex (ps.length+1-qs.length:Nat);obtain⟨e1,ak⟩:=ex ((ps.length:Int)-1:Int);have Qh:(qs.length:Int)-1=(m:Int):=O
 obtain⟨B,bt⟩:=ex (e1-(m:Int):Int);obtain⟨t,bu⟩:=ex (B+1:Int);have ce:U.wrap B=B:=by rw[BQ];omega
 have cj:U.wrap t=t:=by rw[BQ];omega
 obtain⟨Qb,Qg,Qr,Qm,Qc,HT,Ql,Qj⟩:=Gw (show(∀i:Nat,(i:Int)<t↔i<N)/\N<=1099511627777 from⟨λi=>by omega,O⟩) Qh ak D (show ∀i,i<=N->Sq (L^i)from λi hi=>by rw[<-D,<-P];exact ap i O) (show Da (L^N) ps=XA ps qs by unfold XA Gk;rw[P,D,hN]) (show ∀i,Sq (cf ps i*L^N)from λi=>by have:=az i;unfold Gk at this;rwa[P,D,hN]at this) an;have Qp:=Y ay;clear ap az an ay aq hN D P Qs Qo Qk ak Qh;obtain⟨g,la,k,rfl⟩:=G.form;obtain⟨c,lb,d,rfl⟩:=H.form;obtain⟨W0,ai,M1⟩:=Gy 25 (.cell 25 (F g la k)) EH 25 (.cell 25 (F c lb d)) EH 25 (.cell 25 (F none 0 0)) EH (w:=w);have HP:=Y λ(V:X) (hB:Bl w V)=>G.below hB;have HQ:=Y λ(V:X) (hB:Bl w V)=>H.below hB;clear G H;go_enter func99,ntmps99
 go_upto_region 1 with fail
 rw[ai.o];clear ai;refine Xa Di [[],[],[1],[0,2,2],[3,3],[],[5,4,4,0,1,2,3,4,5]] [.eq (E #[F c lb d]),.eq (E #[F c lb d]),.eq (Q U (m:Int)),.rat (cf qs m),.rat L,.ptr,.eq undef] [5,6] (λb v V=>DL w V [some (w.heap.size,.cell 25 (F g la k)),some (w.heap.size+1,.cell 25 (F c lb d)),some (w.heap.size+1+1,.cell 25 (F none 0 0)),nb b v 0 1 (.rat 0) (.rat L)]) (M1.o.none).drew (No (.vl J λ_ j=>FY 1 j)<|No (.vl J λ_ j=>FY 1 j)<|No (.cl λh j=>c1 (h.e 1) (rv (Qg.o ▸ YJ _ qs _ (HQ.o _ j.2.2))))<|No (.cl λh j=>c2 (h.e 0) (h.e 2) (by have q:=KH _ qs (m:Int) _ (HQ.o _ j.2.2);rw[KQ]at q;exact q))<|No (.cl λh _=>Qm.o ▸ gL _ (cf qs m) _ (h.g 3) (Qp.o.at m))<|No (.wr J λ_ j=>RZ 3 j)<|No (.wr J λh j=>RY 3 j (h.g 4) (hp:=h.g 5)) Stp.end_)
  λf V2 hF a=>?_
 refine DU ?_;rw[hF.e 0,hF.e 1,hF.e 2];obtain⟨s,ad⟩:=hF.p 5;have a:=ED a;simp only[ad]at a;rw[ad];have M2:=Y a;clear a hF ad;clear M1;have HA:=Y λ(V:X)=>Jx 1 O O V;have HB:=HA;have HC:=Y λ(V:X) (x y:I) (hx:Jk V x 1) (hy:Jk V y 1)=>MH x y 1 1 V hx hy Sok.one Sok.one;rw[show decide ((1:Int)≠0)=true from J,show Rat.divInt 1 1=L^0 by rw[Rat.pow_zero];rfl]at HC;go_upto_region 3 with(first
  |(go_at_call 95;refine(HA.o _).mono ?_;clear HA;rintro e w3 ⟨u3,rfl,M,aj⟩)
  |(go_at_call 95;refine(HB.o _).mono ?_;clear HB;rintro e w4 ⟨u4,rfl,bc,ah⟩;have M:=M.below ah)
  |(go_at_call 84;refine(HC.o _ _ _ M bc).mono ?_;clear HC;rintro e K ⟨u5,rfl,r,z⟩;obtain⟨s9,a9,l9,c9,t9,b9,k9,d9,rfl⟩:=Jl.form r))
 obtain⟨V4,n⟩:=ex (K.alloc (A #[o s9,F a9 l9 c9,o t9,F b9 k9 d9] 65));obtain⟨B4,ae⟩:=ex (K.heap.size);have a:DL w (K.alloc (A #[o s9,F a9 l9 c9,o t9,F b9 k9 d9] 65)) [some (w.heap.size,.cell 25 (F g la k)),some (w.heap.size+1,.cell 25 (F c lb d)),some (w.heap.size+1+1,.cell 25 (F none 0 0)),some (s,.rat L),some (K.heap.size,.rat (L^0))]:=DL.push (((M2.o.below aj).below ah).below z) (.rat (L^0)) r;rw[n,ae]at a;rw[n];rw[ae];have M3:Hid (DL w V4 [some (w.heap.size,.cell 25 (F g la k)),some (w.heap.size+1,.cell 25 (F c lb d)),some (w.heap.size+1+1,.cell 25 (F none 0 0)),some (s,.rat L),some (B4,.rat (L^0))]):=Y (a);clear M2;clear a n ae;clear M bc r aj ah z;refine Xa Di [[],[0],[],[2,1],[1,3],[4],[]] [.eq (E #[F g la k]),.eq (Q U e1),.eq (E #[F c lb d]),.eq (Q U (m:Int)),.eq (Q U B),.eq (Q U t),.eq (Q U 0)] [] (λ_ _ V=>DL w V [some (w.heap.size,.cell 25 (F g la k)),some (w.heap.size+1,.cell 25 (F c lb d)),some (w.heap.size+1+1,.cell 25 (F none 0 0)),some (s,.rat L),some (B4,.rat (L^0))]) M3.o.drew (No (.vl J λ_ j=>FY 0 j)<|No (.cl λh j=>c1 (h.e 0) (rv (Qr.o ▸ YJ _ ps _ (HP.o _ j.2.2))))<|No (.vl J λ_ j=>FY 1 j)<|No (.cl λh j=>c1 (h.e 2) (rv (Qg.o ▸ YJ _ qs _ (HQ.o _ j.2.2))))<|No (.vl J λh _=>⟨(Q U B),by refine DU ?_;rw[h.e 1,h.e 3];go_simp,J⟩)<|No (.vl J λh _=>⟨(Q U t),by refine DU ?_;rw[h.e 4];go_simp,J⟩)<|No (.vl J λ_ _=>mv) Stp.end_)
  λf V6 hF a=>?_
 refine DU ?_;rw[hF.e 0,hF.e 1,hF.e 2,hF.e 3,hF.e 4,hF.e 5,hF.e 6];have M4:=Y a;clear a hF;clear M3;go_wp2;go_loopw [25] (λiv wr=>∃i:Nat,i<=N/\iv=Q U (i:Int)/\Hid (DL w wr [some (w.heap.size,.cell 25 (F g la k)),some (w.heap.size+1,.cell 25 (F c lb d)),some (w.heap.size+1+1,.cell 25 (F none 0 0)),some (s,.rat L),some (B4,.rat (L^i))])) λiv _=>N-(intOf iv).toNat
 case atStart=>exact⟨0,As _,J,M4⟩
 case round=>
  clear M4;obtain⟨i,hi,rfl,l⟩:=hrel;by_cases am:i<N
  . have Qe:=(Qb.o.1 i).2 am;have bn:=Qb.o.2;obtain⟨s7,a7,l7,c7,t7,b7,k7,d7,n7,r7,i7,j7⟩:=l.o.rat (i:=3) J;have bi:=n7.kb;obtain⟨s8,a8,l8,c8,t8,b8,k8,d8,S,r8,i8,j8⟩:=l.o.rat (i:=4) J;have Qi:=S.kb;have Qf:=S.fb;have T:=Y (Kz _ _ (L^i) L wr r8 r7 (Qc.o i O) (by have:=Qc.o 1 O;rwa[Rat.pow_one]at this));rw[<-Rat.pow_succ]at T;go_upto_region 6 with(go_at_call 52;refine T.o.mono ?_;clear T;rintro e w6 ⟨u6,rfl,bf,hq⟩;obtain⟨s8,a8,l8,c8,t8,b8,k8,d8,rfl⟩:=Jl.form bf;clear Qi;have Qi:=(S.below hq).kb;clear Qf;have Qf:=(S.below hq).fb)
    obtain⟨V9,n⟩:=ex ((((w6.setCell ⟨B4,0,none⟩ (o s8)).setCell ⟨B4,1,none⟩ (F a8 l8 c8)).setCell ⟨B4,2,none⟩ (o t8)).setCell ⟨B4,3,none⟩ (F b8 k8 d8));have a:DL w ((((w6.setCell ⟨B4,0,none⟩ (o s8)).setCell ⟨B4,1,none⟩ (F a8 l8 c8)).setCell ⟨B4,2,none⟩ (o t8)).setCell ⟨B4,3,none⟩ (F b8 k8 d8)) [some (w.heap.size,.cell 25 (F g la k)),some (w.heap.size+1,.cell 25 (F c lb d)),some (w.heap.size+1+1,.cell 25 (F none 0 0)),some (s,.rat L),some (B4,.rat (L^(i+1)))]:=DL.putRat (l.o.below hq) (i:=4) J bf;rw[n]at a;rw[n];have M6:Hid (DL w V9 [some (w.heap.size,.cell 25 (F g la k)),some (w.heap.size+1,.cell 25 (F c lb d)),some (w.heap.size+1+1,.cell 25 (F none 0 0)),some (s,.rat L),some (B4,.rat (L^(i+1)))]):=Y (a);clear l;clear a n;go_wp2_with fail
    grind[intOf]
  . have Qe:¬(i:Int)<t:=λh=>am ((Qb.o.1 i).1 h);obtain rfl:i=N:=O
    obtain⟨dh,bj,de,bk,di,b10,co,bm,bg,r10,ck,cn⟩:=l.o.rat (i:=4) J;have bh:=bg.kb;have c0:=(l.o.cell (i:=0) J).1.cell;have n1:=(l.o.cell (i:=2) J).1;have Qd:=Y l.o.2.2;have W:=Y (Td (E #[F g la k]) _ ps (L^i) wr (HP.o wr Qd.o) r10 Qj.o (Qc.o i (Aa _)) Ql.o);rw[HT.o]at W;go_wp2_with(go_at_call 98;refine W.o.mono ?_;clear W;rintro e K ⟨u5,rfl,r,z⟩;obtain⟨a7,l7,c7,rfl⟩:=r.form;have R:=boxed_below n1 z;have x0:=R.cell;have x1:=R.frozen;have Qq:=Y (K3 R (x:=F a7 l7 c7) r);have Qn:=Y ((Bt Qd.o z).setCell (p:=⟨w.heap.size+1+1,0,none⟩) (by show w.heap.size<=w.heap.size+1+1;omega) (F a7 l7 c7));clear r z R)
    exact BA (by simp[results,results99,go_sem,x0]) J ⟨_,J,Qq.o,Qn.o⟩
theorem gS{A:Nat}(q:D7 A ps)(d:D7 A qs)(tq:Jb qs=qs)(q0:qs≠[])(c:1<=A)(K:4*((ps.length+2)*(A+1))<=1000000000):
 Sqs ps/\Sqs qs/\(∀i,i<=ps.length+1-qs.length->Sq (YE (cf qs (qs.length-1))^i))/\(∀i,Sq (cf ps i*Gk ps qs))/\Sqs (XA ps qs)/\(∀i,DT A (cf qs i))/\
 ∃l:Int,Dvn 1 1 l ((ps.length+2)*A+1) A (XA ps qs) qs:=by
 have x:(ps.length+2)*(A+1)=(ps.length+2)*A+(ps.length+2):=DX
 have M:=Ac.2 q0;obtain⟨l,n,p⟩:=d (qs.length-1);have s:l≠0:=λe=>by
  have:=Jv tq q0;rw[p,e]at this;exact this J
 have H:YE (cf qs (qs.length-1))=((l.natAbs:Int):Rat):=by
  rw[p];unfold YE;have a:((l:Rat)<0)↔l<0:=by
   rw[show(0:Rat)=((0:Int):Rat)from J];exact Rat.intCast_lt_intCast
  split
  . rename_i h;rw[a]at h;rw[<-Rat.intCast_neg];congr 1;omega
  grind
 have j:∀i:Nat,∃z:Int,Sm (i*A+1) z/\YE (cf qs (qs.length-1))^i=(z:Rat):=λi=>by
  refine⟨(l.natAbs:Int)^i,?_,?_⟩
  . refine Sm.powZ ?_ i;unfold Sm at n ⊢;rwa[Aw]
  grind
 have m:∀(k:Nat) (z:Int),Sm k z->k<=1000000000->1<=k->Sq (z:Rat):=λk z w v a=>Sq.of ((Mh (D:=1) DN w DX).smq DN (Sm.one k a)) v;have G:ps.length+1-qs.length<=ps.length:=O
 have r:∀i:Nat,i<=ps.length->i*A<=(ps.length+2)*A:=λi u=>Af _ O;have f:D7 ((ps.length+2)*A+1) (XA ps qs):=λi=>by
  obtain⟨z,a,b⟩:=q i;obtain⟨y,g,t⟩:=j (ps.length+1-qs.length);refine⟨z*y,(a.mul g).mono ?_,?_⟩
  . have B:(ps.length+1-qs.length+1)*A<=(ps.length+2)*A:=Af _ O;grind
  . unfold XA Gk;rw[Yo,b,t,AC]
 have hA9:A<=(ps.length+2)*A:=by
  grind
 refine⟨Sqs.of λi=>Sq.of (q.smq c i) O,Sqs.of λi=>Sq.of (d.smq c i) O,λi u=>?_,λi=>?_,Sqs.of λi=>Sq.of (f.smq O i) O,d.smq c,l,?_⟩
 . obtain⟨z,a,b⟩:=j i;rw[b];exact m _ z a (by have:=r i O;omega) O
 . obtain⟨z,a,b⟩:=f i;have g:cf ps i*Gk ps qs=(z:Rat):=by rw[<-b];unfold XA;rw[Yo]
   rw[g];exact m _ z a O O
 . refine⟨DN,Sm.one _ O,f.cdl,DN,Sm.one _ c,d.cdl,s,n,?_⟩;grind[Ck]
def gT(tp:Jb ps=ps)(tq:Jb qs=qs)(q0:qs≠[]):(XA ps qs).length=ps.length:=Yh (O3 tq q0) tp
def gU(A:Nat)(va vb:I)(ps qs:Ja)(w:X)(M:Jh w va ps)(N:Jh w vb qs)(wp:D7 A ps)(wq:D7 A qs)(tp:Jb ps=ps)(tq:Jb qs=qs)(q0:qs≠[])(k:1<=A)(ad:4*((ps.length+2)*(A+1))<=1000000000)(hr:Ln A (J0 ps qs)):
 Calls C 57 #[va,vb] w λe w'=>∃u,e=.returned u/\Jh w' u (EK ps qs)/\Bl w w':=by
 obtain⟨s1,s2,s3,s4,s5,s6,l,n⟩:=gS wp wq tq q0 k ad;have b1:(ps.length+2)*(A+1)=(ps.length+2)*A+(ps.length+2):=DX
 have Qo:=Ac.2 q0;obtain⟨m,q⟩:=ex ((XA ps qs).length-(qs.length-1));have Qg:m<=ps.length:=by rw[gT tp tq q0]at q;omega
 have b2:m*(A+1)<=ps.length*(A+1):=Af _ Qg;have b3:(ps.length+2)*(A+1)=ps.length*(A+1)+2*(A+1):=AR _ _ _;have Qj:=Y (λ(V:X) (x y:I) (d:Jh V x (XA ps qs)) (g:Jh V y qs)=>ySplit_n A x y (XA ps qs) qs V d g s5 s6 (JQ _ _) tq q0 (by
  rw[q];exact n.sizes O))
 have Qf:=(n.rem q).1;have z:=n.den m;have Qm:=Y λ(V:X) (x:I) (d:Jh V x (J0 (XA ps qs) qs))=>O6 (1*l^m) ((ps.length+2)*A+1+m*(A+1)+1) x (J0 (XA ps qs) qs) V d (YN _ _) z.1 z.2 (λi=>(Qf i).mono O) O;have D:=TV tq q0 hr;have Qd:=Sqs.of λi=>Sq.of (D.1.smq k i) O;have Qh:Sqs (JP [] (Yf (J0 (XA ps qs) qs))):=Sqs.of λi=>Sq.of (D.2.smq k i) O;have Qn:=Y λ(V:X) (y:I) (g:Jh V y (Yf (J0 (XA ps qs) qs)))=>Ry _ y [] (Yf (J0 (XA ps qs) qs)) V (Rx V) g (Sqs.of λi=>by rw[Yt];exact Ij) Qd Qh;have Qi:=Y λ(V:X) (x y:I) (d:Jh V x ps) (g:Jh V y qs)=>gP x y ps qs V d g s1 s2 q0 s3 s4;clear s1 s2 s3 s4 s5 s6 n b1 Qo q Qg b2 b3 Qf z D Qd Qh wp wq tp tq q0 k ad hr;obtain⟨R,la,S,rfl⟩:=M.form;obtain⟨r,lb,s,rfl⟩:=N.form;obtain⟨W0,ae,W⟩:=Gy 25 (.cell 25 (F R la S)) EH 25 (.cell 25 (F r lb s)) EH 25 (.cell 25 (F none 0 0)) EH (w:=w);have HP:=Y λ(V:X) (G:Bl w V)=>M.below G;have T:=Y λ(V:X) (G:Bl w V)=>N.below G;clear M N;go_enter func57,ntmps57
 go_upto_region 1 with fail
 rw[ae.o];refine Xa Di [[],[],[0,1],[],[2,3,2],[4],[5],[5],[5],[],[],[9,6,4,0,1,2,3,4,5,6,9,10],[10,7,11,0,1,2,3,4,5,6,7,9,10,11],[8,12,0,1,2,3,4,5,6,7,8,9,10,11,12]] [.eq (E #[F R la S]),.eq (E #[F r lb s]),.poly (XA ps qs),.eq (E #[F r lb s]),.tup2 (.poly (JL (XA ps qs) qs)) (.poly (J0 (XA ps qs) qs)),.tup2 (.poly (JL (XA ps qs) qs)) (.poly (J0 (XA ps qs) qs)),.poly (JL (XA ps qs) qs),.poly (J0 (XA ps qs) qs),.eq (o true),.ptr,.ptr,.eq undef,.eq undef,.eq (o true)] [9,10,11,12] (λb v V=>DL w V [some (w.heap.size,.cell 25 (F R la S)),some (w.heap.size+1,.cell 25 (F r lb s)),some (w.heap.size+1+1,.cell 25 (F none 0 0)),nb b v 0 2 (.poly []) (.poly (JL (XA ps qs) qs)),nb b v 1 3 (.poly []) (.poly (J0 (XA ps qs) qs))]) ((W.o.none).none).drew (No (.vl J λ_ j=>FY 0 j)<|No (.vl J λ_ j=>FY 1 j)<|No (.cl λh j=>c2 (h.e 0) (h.e 1) (Qi.o _ _ _ (HP.o _ j.2.2) (T.o _ j.2.2)))<|No (.vl J λ_ j=>FY 1 j)<|No (.cl λh j=>c2 J (h.e 3) (RS (Qj.o _ _ _ (h.g 2) (T.o _ j.2.2))))<|No (.vl J λh _=>mw (h.g 4))<|No (.vl J λh _=>Ra (h.g 5))<|No (.vl J λh _=>Rb (h.g 5))<|No (.vl J λh _=>Rc (h.g 5))<|No (.wr J λ_ j=>Il 3 j)<|No (.wr J λ_ j=>Il 4 j)<|No (.wr J λh j=>E0 3 j (h.g 6) (hp:=h.g 9))<|No (.wr J λh j=>E0 4 j (h.g 7) (hp:=h.g 10))<|No (.vl J λh _=>aw (h.g 8)) Stp.end_)
  λf V2 hF c=>?_
 refine DU ?_;rw[hF.e 0,hF.e 1,hF.e 3,hF.e 8,hF.e 13];obtain⟨B3,H⟩:=hF.p 9;obtain⟨B4,K⟩:=hF.p 10;have c:=ED c;simp only[H,K]at c;rw[H,K];have t:=Y c;clear c hF H K;clear W;obtain⟨a5,l5,c5,a,r5⟩:=t.o.poly2 (i:=4) J;have ak:=a.cell;have n1:=(t.o.cell (i:=2) J).1;have Qe:=Y t.o.2.2;have H1:=Y (Qm.o V2 _ r5);go_wp2_with(first
  |(go_at_call 56;refine H1.o.mono ?_;rintro e w4 ⟨u4,rfl,aj,ah⟩)
  |(go_at_call 48;refine(Qn.o _ _ aj).mono ?_;rintro e w5 ⟨u5,rfl,P,_,ai⟩;have B:=Bt ah ai;obtain⟨a7,l7,c7,rfl⟩:=P.form;have a:=boxed_below n1 B;have x0:=a.cell;have x1:=a.frozen;have Ql:=Y (K3 a (x:=F a7 l7 c7) P);have Qk:=Y ((Bt Qe.o B).setCell (p:=⟨w.heap.size+1+1,0,none⟩) (by show w.heap.size<=w.heap.size+1+1;omega) (F a7 l7 c7));clear P B a))
 exact BA (by simp[results,results57,go_sem,x0]) J ⟨_,J,Ql.o,Qk.o⟩
theorem Te(v:I)(ps:Ja)(w:X)(h:Jh w v ps)(ai:Sqs ps)(ak:Jb ps=ps)(aj:∀i,Sq (cf ps i/cf ps (ps.length-1))):
 Calls C 26 #[v] w λe w'=>∃u,e=.returned u/\Jh w' u (Jt ps)/\Bl w w':=by
 obtain⟨a,la,c,rfl⟩:=h.form;obtain⟨ap,am,an,aq,_⟩:=h.row.forms;obtain⟨V0,ad,k⟩:=Kt 25 (.cell 25 (F a la c)) EH 25 (.cell 25 (F none 0 0)) EH (w:=w);have M1:=k.o;obtain⟨n,P⟩:=ex (ps.length:Nat);obtain⟨e0,ah⟩:=ex ((n:Int)-1:Int);have D:=Y (YJ (E #[F a la c]) ps V0 (h.below M1.2.2));rw[P,ah]at D;have ay:e0+1=(n:Int):=O
 have az:U.wrap (n:Int)=(n:Int):=by rw[BQ];omega
 have Qm:∀W:X,(Instr.makeSlice 22 (Q U (n:Int)) (Q U (n:Int))).run C W=.ok (F (some ⟨W.heap.size,0,none⟩) n n) (W.alloc (A (YB n) 65)):=λW=>Tc n O W;obtain⟨x,Qf,Qi,HN⟩:=Do (λ(V:X) (hB:Bl w V)=>h.below hB) ai aj (show ps.length=n from P);have Qb:n<=1099511627776:=O
 have Qr:=Y ak;clear h ai aj ap am an P ah M1 aq ak;go_enter func26,ntmps26
 go_upto_region 1 with fail
 rw[ad.o];have c0:=(k.o.cell (i:=0) J).1.cell;go_upto_region 2 with(go_at_call 20;refine D.o.mono ?_;clear D;rintro e t ⟨rfl,ae⟩)
 have z:DL w (t.alloc (A (YB n) 65)) [some (w.heap.size,.cell 25 (F a la c)),some (w.heap.size+1,.cell 25 (F none 0 0)),some (t.heap.size,.rats (kT n 0))]:=(k.o.below ae).push (.rats (kT n 0)) (Mb _ n);obtain⟨V1,G⟩:=ex (t.alloc (A (YB n) 65));obtain⟨r,K⟩:=ex (t.heap.size);rw[G,K]at z;rw[G,K];have Qh:=Y z;clear z G K ae c0 k ad Qm;go_wp2;go_loopw [11] (λiv wr=>∃(i:Nat) (S:Ja),i<=n/\iv=Q U (i:Int)/\Hid (Iv (λj=>cf ps j/cf ps (ps.length-1)) n i S)/\Hid (DL w wr [some (w.heap.size,.cell 25 (F a la c)),some (w.heap.size+1,.cell 25 (F none 0 0)),some (r,.rats S)])) λiv _=>n-(intOf iv).toNat
 case atStart=>exact⟨0,_,As _,J,Y ⟨AE,λj=>by rw[JT,BH O]⟩,Qh⟩
 case round=>
  obtain⟨i,S,hi,rfl,d,g⟩:=hrel;clear Qh;by_cases M:i<n
  . have bc:(i:Int)<(n:Int):=O
    have Qn:=Y (show i<S.length by rw[d.o.1];exact M);have Qg:=Y (show i<ps.length by rw[HN.o];exact M);go_wp2_with fail
    have Qj:=g.o.drew;obtain⟨m,N⟩:=ex (ps.length-1:Nat);obtain⟨Qq,Ql,Qo⟩:=Dc (show(ps.length:Int)-1=(m:Int)by have:=Qg.o;omega) N (show decide (cf ps m≠0)=true by rw[<-N];exact BI (Jv Qr.o λe=>by have:=Qg.o;rw[e]at this;simp at this));clear N;refine Xa Di [[],[],[],[],[2,3],[],[],[6,4],[5,7,7],[4,8,8],[9],[10],[10],[0,1,0,1,2,3,4,5,6,7,8,9,10,11],[13,11,9,0,1,2,3,4,5,6,7,8,9,10,11]] [.eq (F (some ⟨r,0,none⟩) n n),.eq (Q U (i:Int)),.eq (E #[F a la c]),.eq (Q U (i:Int)),.rat (cf ps i),.eq (E #[F a la c]),.eq (E #[F a la c]),.eq (Q U (m:Int)),.rat (cf ps m),.tup1 (.rat (cf ps i/cf ps m)),.tup1 (.rat (cf ps i/cf ps m)),.rat (cf ps i/cf ps m),.eq (o true),.eq (L (some ⟨r,i*4,none⟩)),.eq undef] [14] (λb _ V=>DL w V [some (w.heap.size,.cell 25 (F a la c)),some (w.heap.size+1,.cell 25 (F none 0 0)),some (r,if b.getD 0 false then .rats (S.set i (cf ps i/cf ps m))else .rats S)]) Qj (No (.vl J λ_ _=>mv)<|No (.vl J λ_ _=>mv)<|No (.vl J λ_ j=>FY 0 j)<|No (.vl J λ_ _=>mv)<|No (.cl λh j=>c2 (h.e 2) (h.e 3) (by have q:=KH _ ps (i:Int) _ (x.o _ j.2.2);rw[KQ]at q;exact q))<|No (.vl J λ_ j=>FY 0 j)<|No (.vl J λ_ j=>FY 0 j)<|No (.cl λh j=>c1 (h.e 6) (rv (Qq.o ▸ YJ _ ps _ (x.o _ j.2.2))))<|No (.cl λh j=>c2 (h.e 5) (h.e 7) (by have q:=KH _ ps (m:Int) _ (x.o _ j.2.2);rw[KQ]at q;exact q))<|No (.cl λh _=>RT (Qo.o ▸ Rs _ _ (cf ps i) (cf ps m) _ (h.g 4) (h.g 8) (Qf.o.at i) (Qf.o.at m)))<|No (.vl J λh _=>mw (h.g 9))<|No (.vl J λh _=>Re (h.g 10))<|No (.vl J λh _=>Rf (h.g 10))<|No (.vl J λh _=>⟨_,by refine DU ?_;rw[h.e 0,h.e 1];go_simp,J⟩)<|No (.wr J λh j=>Ky 2 j Qn.o (h.g 11) (h.e 13)) Stp.end_)
     λf V hF l=>?_
    refine DU ?_;rw[hF.e 0,hF.e 1,hF.e 2,hF.e 3,hF.e 5,hF.e 6,hF.e 7,hF.e 12,hF.e 13];have l:=ED l;have HO:=Y l;clear l hF;rw[<-Ql.o]at HO;go_wp2_with fail
    go_roundw
    case rel=>exact⟨i+1,_,O,by go_num,Y (d.o.next M),HO⟩
    case measure=>simp[intOf];omega
  . obtain rfl:i=n:=O
    have hE:=g.o.rats (i:=2) J;have y:=hE.row (n:=i) (cap:=i) (by rw[d.o.1];exact Aa _) (Aa _) O Qb;rw[Ad (by rw[d.o.1];exact Aa _)]at y;have B:=Y (R8 _ S wr y (Sqs.of λj=>by
     rw[d.o.2 j];split
     . exact Qi.o j
     . exact Ij))
    rw[d.o.done (T:=Jt ps) (JQ _ _) (λj hj=>by grind[Jt,Yo]) λj hj=>by unfold Jt;rw[Yo,JS (by rw[HN.o];exact hj),CX]]at B;clear hE y;go_wp2_with(go_at_call 59;refine B.o.mono ?_;clear B;rintro e w5 ⟨u5,rfl,R,_,H⟩;obtain⟨a7,l7,c7,rfl⟩:=R.form;have s:=boxed_below (g.o.cell (i:=1) J).1 H;have x0:=s.cell;have x1:=s.frozen;have Qp:=Y (Ej s (F a7 l7 c7) R.row);have Qk:=Y ((Bt g.o.2.2 H).setCell (p:=⟨w.heap.size+1,0,none⟩) (by show w.heap.size<=w.heap.size+1;omega) (F a7 l7 c7));clear R H s)
    exact BA (by simp[results,results26,go_sem,x0]) J ⟨_,J,⟨_,J,Qp.o⟩,Qk.o⟩
end M3
def ID:Nat->Ja->Ja->List Ja
 |0,a,_=>[a]
 |n+1,a,b=>if b=[]then [a]else a::ID n b (EK a b)
theorem gV:∀(n m:Nat) (a b:Ja),Jb b=b->b.length<=n->b.length<=m->ID n a b=ID m a b:=by
 intro n;induction n with
 |zero=>
  intro m a b _ h _;have d:b=[]:=Md O;subst d;cases m with
  |zero=>rfl
  |succ m=>simp[ID]
 |succ n g=>
  intro m a b tb h e;by_cases c:b=[]
  . grind
  . have hl:0<b.length:=Ac.2 c;cases m with
    |zero=>omega
    |succ m=>
     have f:=Mj (a:=a) tb c;grind[ID,Mi]
def IE(a b:Ja):List Ja:=ID b.length a b
theorem gW{a b:Ja}(tb:Jb b=b)(c:b≠[]):IE a b=a::IE b (EK a b):=by
 have d:=Mj (a:=a) tb c;have hl:0<b.length:=Ac.2 c;unfold IE;obtain⟨n,e⟩:∃n,b.length=n+1:=⟨b.length-1,O⟩;grind[ID,gV,Mi]
def Ho(p q:Ja):List Ja:=IE (Yf p) (Yf q)
def Jh.setB{V:X}{v:I}{ps:Ja}(h:Jh V v ps){B:Nat}{a:kR}{l c:Nat}(b:Boxed V B 25 (F a l c)){u:I}:Jh (V.setCell ⟨B,0,none⟩ u) v ps:=M3.K3 b h
namespace M3
def De(V:X)(B:Nat)(a:kR)(l c:Nat):Prop:=Boxed V B 25 (F a l c)
section
variable {V V':World} {B B':Nat} {a a':kR} {l c l' c':Nat}
def De.cell(h:De V B a l c):V.cell? ⟨B,0,none⟩=some (F a l c):=Boxed.cell h
def De.frozen(h:De V B a l c):V.frozen? ⟨B,0,none⟩=false:=Boxed.frozen h
def De.below(h:De V B a l c)(b:Bl V V'):De V' B a l c:=boxed_below h b
def De.far(h:De V B a l c)(b:B≠B'){u:I}:De (V.setCell ⟨B',0,none⟩ u) B a l c:=Bx.far (cs:=#[F a l c]) h (p:=⟨B',0,none⟩) b u
def De.put(h:De V B a l c):De (V.setCell ⟨B,0,none⟩ (F a' l' c')) B a' l' c':=(show Boxed V B 25 (F a l c)from h).set _
end
def GB(G:List Ja->X->Prop):Prop:=∀H W W',G H W->Bl W W'->G H W'
def Mk(B4 B5:Nat)(G:List Ja->X->Prop):Prop:=∀H W B a l c u,B=B4\/B=B5->De W B a l c->G H W->G H (W.setCell ⟨B,0,none⟩ u)
def GE(B4 B5:Nat)(G:List Ja->X->Prop)(H:List Ja)(V:X)(v4 v5:I)(p q:Ja):Prop:=(GB G/\Mk B4 B5 G)/\G H V/\Jh V v4 p/\Jh V v5 q
section
variable {B4 B5:Nat} {G:List Ja->World->Prop} {H:List Ja} {V V':World} {v4 v5:Value} {p q:Ja}
def GE.below(h:GE B4 B5 G H V v4 v5 p q)(a:Bl V V'):GE B4 B5 G H V' v4 v5 p q:=⟨h.1,h.1.1 _ _ _ h.2.1 a,h.2.2.1.below a,h.2.2.2.below a⟩
def GE.put(h:GE B4 B5 G H V v4 v5 p q){B:Nat}(d:B=B4\/B=B5){a:kR}{l c:Nat}(b:De V B a l c){u:I}:GE B4 B5 G H (V.setCell ⟨B,0,none⟩ u) v4 v5 p q:=⟨h.1,h.1.2 _ _ _ _ _ _ _ d b h.2.1,h.2.2.1.setB b,h.2.2.2.setB b⟩
end
def LL(V:X)(B:Nat)(r:Ja):Prop:=∃a l c,De V B a l c/\Jh V (E #[F a l c]) r
def LL.below{V V':X}{B:Nat}{r:Ja}(h:LL V B r)(b:Bl V V'):LL V' B r:=by
 obtain⟨a,l,c,d,e⟩:=h;exact⟨a,l,c,d.below b,e.below b⟩
def LM(V:X)(B:Nat):Nat:=match V.cell? ⟨B,0,none⟩with|some (F _ l _)=>l|_=>0
variable{K:Nat}
def De.len{V:X}{B:Nat}{a:kR}{l c:Nat}(h:De V B a l c):LM V B=l:=by
 unfold LM;rw[h.cell]
def Tf{V:X}{a:kR}{l c:Nat}{ps:Ja}(h:Jh V (E #[F a l c]) ps):l=ps.length:=h.row.forms.1
def gX(a b:Ja):∃t,IE a b=a::t:=by
 unfold IE;cases b.length with
 |zero=>exact⟨_,J⟩
 |succ n=>
  rw[ID];split
  . exact⟨_,J⟩
  . exact⟨_,J⟩
def gY(B4 B5 n l:Nat)(C:List Ja)(G:List Ja->X->Prop):Prop:=∀H W a b c4 c d c5 p q,H++[p] <+: C->B4<W.heap.size->B5<W.heap.size->G H W->De W B4 a b c4->De W B5 c d c5->Jh W (E #[F a b c4]) p->Jh W (E #[F c d c5]) q->
 YieldAt Fence.wide (n-1) Tryz.prog l #[E #[F a b c4]] W λe W'=>e=.returned (o true)/\G (H++[p]) W'/\De W' B4 a b c4/\De W' B5 c d c5/\Jh W' (E #[F a b c4]) p/\Jh W' (E #[F c d c5]) q
structure ChOk(K:Nat)(p q:Ja):Prop where
 tp:Jb p=p
 tq:Jb q=q
 cp:∃D:Int,D≠0/\Sm K D/\Dp D K p
 cq:∃D:Int,D≠0/\Sm K D/\Dp D K q
 le:4*((max p.length q.length+2)*(DZ K p q+1))<=1000000000
 ln:max p.length q.length<=1000
def ChOk.lp{p q:Ja}(h:ChOk K p q):Ln K p:=by obtain⟨D,a,_,b⟩:=h.cp;exact b.ln a
def ChOk.lq{p q:Ja}(h:ChOk K p q):Ln K q:=by obtain⟨D,a,_,b⟩:=h.cq;exact b.ln a
theorem ChOk.bd{p q:Ja}(h:ChOk K p q):DZ K p q<=1000000000/\K<=1000000000/\p.length+q.length<=1000000000/\1<=DZ K p q:=by
 have a:=h.le;grind[DZ]
def gs(K n:Nat)(hn:1<=n)(Bp Bq:Nat)(pa qa:kR)(pl pc ql qc:Nat)(p q:Ja)(r:ChOk K p q)(l:Nat)(M:Nat->Nat->List Ja->X->Prop)(w:X)(az:De w Bp pa pl pc)(bc:De w Bq qa ql qc)(ip:Jh w (E #[F pa pl pc]) p)(iq:Jh w (E #[F qa ql qc]) q)
(ap:∀B4 B5,GB (M B4 B5))(aq:∀B4 B5,w.heap.size<=B4->w.heap.size<=B5->Mk B4 B5 (M B4 B5))(hY:∀B4 B5,w.heap.size<=B4->w.heap.size<=B5->gY B4 B5 n l (Ho p q) (M B4 B5))(h0:∀B4 B5 V,w.heap.size<=B4->w.heap.size<=B5->Bl w V->M B4 B5 [] V):
 CallsIn Fence.wide n C 55 (#[.func (.yield l) #[] #[]]++#[L (some ⟨Bp,0,none⟩),L (some ⟨Bq,0,none⟩)]) w λe W'=>(∃v,e=.returned v)/\∃B4 B5 H a,(w.heap.size<=B4/\w.heap.size<=B5)/\M B4 B5 (H++[a]) W'/\Ho p q=H++[a]/\Chn p q (DZ K p q) a []:=by
 have Qq:=Y λ(V:X) (hB:Bl w V)=>(az.below hB).cell;have Qi:=Y λ(V:X) (hB:Bl w V)=>(bc.below hB).cell;have Qo:=Y (λ(V:X) (hB:Bl w V)=>show Calls C 56 #[E #[F pa pl pc]] V λe w'=>∃u,e=.returned u/\Jh w' u (Yf p)/\Bl V w' by
  obtain⟨D,h1,h2,P⟩:=r.cp;exact O6 D K _ p V (ip.below hB) r.tp h1 h2 P r.bd.2.1)
 have Qh:=Y (λ(V:X) (hB:Bl w V)=>show Calls C 56 #[E #[F qa ql qc]] V λe w'=>∃u,e=.returned u/\Jh w' u (Yf q)/\Bl V w' by
  obtain⟨D,h1,h2,P⟩:=r.cq;exact O6 D K _ q V (iq.below hB) r.tq h1 h2 P r.bd.2.1)
 obtain⟨Qp,Qr,Qs⟩:=Dc h0 (Chn.start r.tp r.tq r.lp r.lq r.bd.2.2.1) λ(a b:Ja) (h:Chn p q (DZ K p q) a b) (hb:b≠[])=>Chn.next r.tp r.tq r.lp r.lq r.bd.2.2.1 h hb;have Ua:=Y (λ(V:X) (x y:I) (a b:Ja) (hx:Jh V x a) (hy:Jh V y b) (h:Chn p q (DZ K p q) a b) (hb:b≠[])=>gU (DZ K p q) x y a b V hx hy h.wa h.wb h.ta h.tb hb r.bd.2.2.2 (by
  have h1:=h.la;have h2:(a.length+2)*(DZ K p q+1)<=(max p.length q.length+2)*(DZ K p q+1):=Af _ O;have P:=r.le;omega) (h.nx hb))
 obtain⟨Qm,Qj,M1⟩:=Dc (show ∀B4 B5,w.heap.size<=B4->w.heap.size<=B5->GB (M B4 B5)/\Mk B4 B5 (M B4 B5)from λB4 B5 h4 h5=>⟨ap B4 B5,aq B4 B5 h4 h5⟩) hY (DL.nil w);clear r az bc ip iq ap aq hY h0;refine Bv func55 J trivial ?_ J;simp only[ntmps55,An,Ak,AK,Nat.reduceAdd,Nat.reduceSub,Ay,Az,AJ,AA,Aj,Au];gi_wp2_with fail
 refine Kw (Am J) Di [[],[0],[],[2],[],[],[1,4],List.range 7] [.eq (E #[F pa pl pc]),.poly (Yf p),.eq (E #[F qa ql qc]),.poly (Yf q),.ptr,.ptr,.eq undef,.eq undef] [4,5,6,7] (λo v V=>DL w V [nb o v 0 2 (.poly []) (.poly (Yf p)),nb o v 1 3 (.poly []) (.poly (Yf q))]) M1.o.none.none.drew (No (.vl J λ_ j=>⟨_,by have e0:=Qq.o _ j.2.2;refine DU ?_;go_simp,J⟩)<|No (.cl λh j=>c1 (h.e 0) (Qo.o _ j.2.2))<|No (.vl J λ_ j=>⟨_,by have e0:=Qi.o _ j.2.2;refine DU ?_;go_simp,J⟩)<|No (.cl λh j=>c1 (h.e 2) (Qh.o _ j.2.2))<|No (.wr J λ_ j=>Il 0 j)<|No (.wr J λ_ j=>Il 1 j)<|No (.wr J λh j=>E0 0 j (h.g 1) (hp:=h.g 4))<|No (.wr J λh j=>E0 1 j (h.g 3) (hp:=h.g 5)) Stp.end_)
  λf V2 hF T=>?_
 refine DU ?_;obtain⟨c,aj⟩:=hF.p 4;obtain⟨B4,ak⟩:=hF.p 5;have T:=ED T;simp only[aj,ak]at T;rw[hF.e 0,hF.e 2,aj,ak];replace T:=Y T;clear hF aj ak M1;have S:=T;clear T;obtain⟨a5,g,c5,n5,r5⟩:=S.o.poly2 (i:=0) J;obtain⟨a6,l6,c6,n6,r6⟩:=S.o.poly2 (i:=1) J;have N:=Y (show c≠B4/\w.heap.size<=c/\w.heap.size<=B4 from⟨S.o.ne 0 1 J J DN,S.o.ge 0 J,S.o.ge 1 J⟩);obtain⟨Qe,Qc,Qf,Qn⟩:=Do (Qp.o c B4 V2 N.o.2.1 N.o.2.2 S.o.2.2) (Qm.o c B4 N.o.2.1 N.o.2.2) (Qj.o c B4 N.o.2.1 N.o.2.2) (show ∀H a W,M c B4 (H++[a]) W->Ho p q=H++[a]->Chn p q (DZ K p q) a []->∃B4 B5 H a,(w.heap.size<=B4/\w.heap.size<=B5)/\M B4 B5 (H++[a]) W/\Ho p q=H++[a]/\Chn p q (DZ K p q) a []from λH a W h1 h2 P=>⟨c,B4,H,a,⟨N.o.2.1,N.o.2.2⟩,h1,h2,P⟩);clear Qp Qm Qj;obtain⟨G,hG⟩:=ex (M c B4);rw[hG]at Qe Qc Qf Qn;clear hG;have Qg:Hid (GE c B4 G [] V2 (E #[F a5 g c5]) (E #[F a6 l6 c6]) (Yf p) (Yf q)):=Y ⟨Qc.o,Qe.o,r5,r6⟩;have N4:Hid (De V2 c a5 g c5):=Y n5;have N5:Hid (De V2 B4 a6 l6 c6):=Y n6;clear n5 n6 r5 r6 S Qo Qh Qe Qq Qi;gi_wp2;gi_loopw [] (λwr=>∃(H:List Ja) (a b:Ja) (B s:kR) (z c4 g c5:Nat),Hid (GE c B4 G H wr (E #[F B z c4]) (E #[F s g c5]) a b)/\Hid (De wr c B z c4)/\Hid (De wr B4 s g c5)/\Hid (Chn p q (DZ K p q) a b)/\Hid (Ho p q=H++IE a b)) λwr=>LM wr B4
 case atStart=>exact⟨[],_,_,_,_,_,_,_,_,Qg,N4,N5,Qr,Y J⟩
 case round=>
  clear Qg N4 N5 Qr;obtain⟨H,a,b,B,s,z,c4,g,c5,HG,H4,H5,HC,HH⟩:=hrel;obtain⟨fn,tmps,assign,body,hy,ay⟩:=Qf.o H wr B z c4 s g c5 a b (by obtain⟨t,ht⟩:=gX a b;exact⟨t,by rw[HH.o,ht];simp⟩) (Bx.lt (cs:=#[F B z c4]) H4.o) (Bx.lt (cs:=#[F s g c5]) H5.o) HG.o.2.1 H4.o H5.o HG.o.2.2.1 HG.o.2.2.2;have e4:=H4.o.cell;gi_wp2;refine ay.mono ?_;rintro e W3 ⟨rfl,an,am,ai,bf,ae⟩;have Ql:Hid (GE c B4 G (H++[a]) W3 (E #[F B z c4]) (E #[F s g c5]) a b):=Y ⟨Qc.o,an,bf,ae⟩;obtain⟨Ug,Ud,Qb⟩:=Dc (Tf ae) (H5.o.len) (YJ _ b W3 ae);have e5:=ai.cell;have Uc:=Y am;have Uf:=Y ai;clear hy ay e4 an am ai bf ae HG H4 H5;by_cases R:b=[]
  . have HE:=Y (show Ho p q=H++[a]by rw[HH.o,R];rfl);have Qz:=Y (show Chn p q (DZ K p q) a []by have:=HC.o;rwa[R]at this);rw[R,show((([]:Ja).length:Int)-1)=-1 from J]at Qb;gi_wp2_with(refine⟨trivial,?_⟩;gi_at_call 20;refine((BJ (n:=_)).2 Qb.o).mono ?_;clear Qb;rintro e w4 ⟨rfl,ad⟩)
    go_end0;exact⟨⟨_,J⟩,Qn.o H a _ (Ql.o.below ad).2.1 HE.o Qz.o⟩
  . obtain⟨m,hm⟩:=ex (b.length-1:Nat);have Qk:(b.length:Int)-1=(m:Int):=by have:=Ac.2 R;omega
    rw[Qk]at Qb;obtain⟨Qy,Ub,Qt,Qd⟩:=Do (Qs.o a b HC.o R) (Mj (a:=a) HC.o.tb R) (show Ho p q=(H++[a])++IE b (EK a b)by rw[HH.o,gW HC.o.tb R,Ce];rfl) λ(V:X) (x y:I) (hx:Jh V x a) (hy:Jh V y b)=>Ua.o V x y a b hx hy HC.o R;have bg:¬(m:Int)<0:=O
    clear hm Qk R;gi_wp2_with(refine⟨trivial,?_⟩;gi_at_call 20;refine((BJ (n:=_)).2 Qb.o).mono ?_;clear Qb;rintro e w4 ⟨rfl,ad⟩)
    have Qv:=(Ql.o.below ad).below ((BB _ w4).drew);have Ue:=(Uc.o.below ad).below ((BB _ w4).drew);have Qw:=(Uf.o.below ad).below ((BB _ w4).drew);refine Kw (Am J) Di [[],[],[],[1,2],[0,1,2,3],List.range 5] [.eq (E #[F s g c5]),.eq (E #[F B z c4]),.eq (E #[F s g c5]),.poly (EK a b),.eq undef,.eq undef] [4,5] (λo _ V=>GE c B4 G (H++[a]) V (E #[F B z c4]) (E #[F s g c5]) a b/\(if o.getD 0 false then De V c s g c5 else De V c B z c4)/\if o.getD 1 false then LL V B4 (EK a b)else De V B4 s g c5) ⟨Qv,Ue,Qw⟩ (No (.vl J λ_ j=>⟨_,by have e0:=(show De _ B4 s g c5 from j.2.2).cell;refine DU ?_;go_simp,J⟩)<|No (.vl J λ_ j=>⟨_,by have e0:=(show De _ c B z c4 from j.2.1).cell;refine DU ?_;go_simp,J⟩)<|No (.vl J λ_ j=>⟨_,by have e0:=(show De _ B4 s g c5 from j.2.2).cell;refine DU ?_;go_simp,J⟩)<|No (.cl (λh j=>c2 (h.e 1) (h.e 2) (Qd.o _ _ _ j.1.2.2.1 j.1.2.2.2)) (hJ:=λ_ _ _ _ h b=>⟨h.1.below b,OO h.2.1 (·.below b) (·.below b),OO h.2.2 (·.below b) (·.below b)⟩))<|No (.wr J fun {_ V _} h j=>by
       have n:De V c B z c4:=j.2.1;have e0:=n.cell;have f0:=n.frozen;exact⟨.skip,undef,_,by refine DU ?_;rw[h.e 0];go_simp,Ax ⟨J,J⟩,J,λd v _ k=>k.set1 n J _,j.1.put (Am J) n,n.put,(show De V B4 s g c5 from j.2.2).far λe=>N.o.1 e.symm⟩)<|No (.wr J fun {f V _} h j=>by
       have n:De V B4 s g c5:=j.2.2;have e0:=n.cell;have f0:=n.frozen;have P:Jh V (f 3) (EK a b):=h.g 3;obtain⟨x7,l7,c7,e⟩:=Jh.form P;rw[e]at P;exact⟨.skip,undef,_,by refine DU ?_;rw[e];go_simp,Ax ⟨J,J⟩,J,λd v _ k=>k.set1 n J _,j.1.put (Ax J) n,(show De V c s g c5 from j.2.1).far N.o.1,x7,l7,c7,n.put,P.setB n⟩) Stp.end_)
     λf V hF SS=>?_
    refine DU ?_;obtain⟨ah,n6,x7,l7,c7,n7,i7⟩:=(show GE c B4 G (H++[a]) V (E #[F B z c4]) (E #[F s g c5]) a b/\De V c s g c5/\LL V B4 (EK a b)from SS);rw[hF.e 0,hF.e 1,hF.e 2];have Qx:Hid (GE c B4 G (H++[a]) V (E #[F s g c5]) (E #[F x7 l7 c7]) b (EK a b)):=Y ⟨Qc.o,ah.2.1,ah.2.2.2,i7⟩;obtain⟨Qu,N6,N7⟩:=Dc (show LM V B4<LM wr B4 by rw[n7.len,Ud.o,Tf i7,Ug.o];exact Ub.o) n6 n7;clear SS ah hF n6 n7 i7;gi_wp2;go_roundw
    case rel=>exact⟨H++[a],b,EK a b,_,_,_,_,_,_,Qx,N6,N7,Qy,Qt⟩
    case measure=>exact Qu.o
end M3
namespace M3
variable{ps:Ja}{K:Nat}{v:I}{W:X}
def hO(n:Nat)(a d:kR)(c b g f:Nat)(w:X):
 CallsIn Fence.wide n C 25 #[E #[F a c b],E #[F d g f]] w λe i=>e=.returned (.func (.func 55) #[] #[L (some ⟨w.heap.size,0,none⟩),L (some ⟨w.heap.size+1,0,none⟩)])/\i=(w.alloc (A #[F a c b] 25)).alloc (A #[F d g f] 25):=by
 refine Bv func25 J trivial ?_ J;simp only[ntmps25,An,Ak,AK,Nat.reduceAdd,Nat.reduceSub,Ay,Az,AJ,AA,Aj,Au];gi_wp2;go_ret;exact⟨J,J⟩
def Tg(B B4 B5:Nat)(I:List Ja->X->Prop)(H:List Ja)(W:X):Exit->Act->X->Prop
 |.normal,_,W'=>I H W'/\W.heap.size<=W'.heap.size/\(∀(k:Nat) (o:Obj),B<=k->o.isCells=false\/k=B4\/k=B5->W.heap[k]?=some o->W'.heap[k]?=some o)/\∀v ps,Jh W v ps->Jh W' v ps
 |_,_,_=>False
def Th{W':X}{row:Option Nat}(hg:W.grownBy W' row)(a:∀r,row=some r->∃o:Obj,W.heap[r]?=some o/\o.isCells=false)(h:Jh W v ps):Jh W' v ps:=by
 obtain⟨u,e,h⟩:=h;exact⟨u,e,MS hg a h⟩
def Ml{l:Nat}{o a:Obj}(hl:W.heap[l]?=some o)(b:o.isCells=false)(h:Jh W v ps):Jh (W.putObj l a) v ps:=
 Th (BV W l a) (λr e=>by cases e;exact⟨o,hl,b⟩) h
theorem iA{g:Operand}{ps:Array Tmp}{assign body:Code}{Q:Exit->Act->X->Prop}{a:Act}{w:X}{n:Nat}
(h1:2<=n){K M N:Nat}{pa qa:kR}{pl pc ql qc:Nat}{p q:Ja}(bi:ChOk K p q)(ay:De w M pa pl pc)(az:De w N qa ql qc)(ip:Jh w (E #[F pa pl pc]) p)(iq:Jh w (E #[F qa ql qc]) q)
(hg:a.eval g=.func (.func 55) #[] #[L (some ⟨M,0,none⟩),L (some ⟨N,0,none⟩)])(eg:∀args w,(callFunc 55 args).run C w=.ok (.enter 55 args) w)(bk:ps.size=1)
(I:Nat->Nat->List Ja->X->Prop)(hI:∀B4 B5,OwnFrom w.heap.size (I B4 B5))(ah:∀B4 B5,GB (I B4 B5))(an:∀B4 B5,w.heap.size<=B4->w.heap.size<=B5->Mk B4 B5 (I B4 B5))(h0:∀B4 B5 V,w.heap.size+2<=B4->w.heap.size+2<=B5->Bl w V->I B4 B5 [] V)(a₁:Value->Nat->Act)
(ap:∀(l:Nat) (x:kR) (m j:Nat) (W:X) (K:Act->X->Prop),K (a₁ (F x m j) W.heap.size) (W.alloc (A #[F x m j] 25))->
  assign.wpIn (Fence.wide.inRound l) (n-1-1) C (Exit.then K λ_ _ _=>False) { tmps:=(ps.zip #[E #[F x m j]]).foldl (λt (p,v)=>t.setIfInBounds p v) a.tmps,defers:=[] } W)
(aq:∀(l b B4 B5:Nat) (x:kR) (m j:Nat) (r:Ja) (H:List Ja) (W:X),I B4 B5 H W->H++[r] <+: Ho p q->w.heap.size+1<b->B4<b->B5<b->De W b x m j->Jh W (E #[F x m j]) r->
  body.wpIn (Fence.wide.inRound l) (n-1-1) C (Tg w.heap.size B4 B5 (I B4 B5) (H++[r]) W) (a₁ (F x m j) b) W)
(bf:∀(D B4 B5:Nat) (W:X) (H:List Ja) (r:Ja),w.heap.size<=D->I B4 B5 (H++[r]) W->Ho p q=H++[r]->Chn p q (DZ K p q) r []->W.heap[D]?=some (.deferred (some []))->Q .normal { a with defers:={ target:=.collected D,args:=#[] }::a.defers } W):
 (Code.rangeFunc g ps assign body).wpIn Fence.wide n C Q a w:=by
 refine wpIn_rangeFunc λfn bg=>?_;rw[show Fence.wide.round=none from J];obtain⟨rc,G⟩:∃rc:LoopState->Option Code->Loop,rc=λst pe=>{ state:=st,pending:=pe,fn,tmps:=a.tmps,params:=ps,assign,body,defers:=w.heap.size }:=⟨_,J⟩;obtain⟨V,hV⟩:=ex ((w.alloc (.deferred (some []))).alloc (.loop (rc .ready none)));have vL:V.heap[w.heap.size+1]?=some (.loop (rc .ready none)):=by
  rw[<-hV];have:=BC (w.alloc (.deferred (some []))) (.loop (rc .ready none));rwa[A1]at this
 have vD:V.heap[w.heap.size]?=some (.deferred (some [])):=by
  rw[<-hV];exact(Bh _ _ _ DK).trans (BC w _)
 have R:Bl w V:=by rw[<-hV];exact(Ba w _).alloc (by rw[A1];omega) _
 have bt:V.heap.size=w.heap.size+2:=by rw[<-hV];simp
 refine⟨w.heap.size+1,[{ target:=.collected w.heap.size,args:=#[] }],V,{ target:=.fn (.func 55) #[L (some ⟨M,0,none⟩),L (some ⟨N,0,none⟩)],args:=#[.func (.yield (w.heap.size+1)) #[] #[]] },V,55,
  #[.func (.yield (w.heap.size+1)) #[] #[]]++#[L (some ⟨M,0,none⟩),L (some ⟨N,0,none⟩)],V,?_,?_,?_,?_,λ_=>by omega,?_⟩
 . rw[<-hV,G];exact run_enterLoop_outer _ _ _ _ _
 . simp only[resolve,hg];simp[go_sem]
 . intro f' ai;simp[Target.leads]at ai;subst ai;exact trivial
 . simp[invoke,go_sem,eg]
 refine(gs K (n-1) O M N pa qa pl pc ql qc p q bi (w.heap.size+1)
  (λB4 B5 H W=>I B4 B5 H W/\W.heap[w.heap.size+1]?=some (.loop (rc .ready none))/\W.heap[w.heap.size]?=some (.deferred (some [])))
  V (ay.below R) (az.below R) (ip.below R) (iq.below R) ?_ ?_ ?_ λB4 B5 U h4 h5 hU=>⟨h0 B4 B5 U O O (R.trans (hU.mono O)),(hU.block _ (Ab.1 vL).1).trans vL,(hU.block _ (Ab.1 vD).1).trans vD⟩).mono ?_
 . rintro B4 B5 H W W' ⟨y,hl,d⟩ hb;exact⟨ah _ _ _ _ _ y hb,(hb.block _ (Ab.1 hl).1).trans hl,(hb.block _ (Ab.1 d).1).trans d⟩
 . rintro B4 B5 h4 h5 H W B x m j u hB hb ⟨y,hl,d⟩;exact⟨an B4 B5 O O _ _ _ _ _ _ _ hB hb y,(BD W ⟨B,0,none⟩ u _ DX).trans hl,(BD W ⟨B,0,none⟩ u _ DX).trans d⟩
 . rintro B4 B5 bm bn H W f i c4 a5 l5 c5 p4 q5 bj ak am ⟨y,hl,d⟩ h4 h5 i4 i5;have Qf:=(Ab.1 hl).1;have hy:=run_yield (P:=C) (args:=#[E #[F f i c4]]) hl (by rw[G];exact bk.symm);rw[G]at hy;obtain⟨W1,ae⟩:=ex (W.alloc (A #[F f i c4] 25));have s:Bl W W1:=by rw[<-ae];exact Ba W _
   have T:=(s.block _ Qf).trans hl;have Ql:=(s.block _ O).trans d;have Qj:=ah _ _ _ _ _ y s;have Qh:De W1 W.heap.size f i c4:=by rw[<-ae];exact BK W 25 (F f i c4)
   refine⟨fn,_,assign,body,hy,roundIn_of_wpIn bg (ap _ _ _ _ W _ ?_)⟩;rw[ae];refine⟨_,run_beginRound T (by rw[G]),?_⟩;obtain⟨bx,bc⟩:=ex (W.heap.size);have Qu:=h4.below s;have Qr:=h5.below s;have Qv:=i4.below s;have Qn:=i5.below s;rw[bc]at Qh Qf ak am ⊢;have Qg:=(Ab.1 T).1;obtain⟨c,z⟩:=ex (W1.putObj (w.heap.size+1) (.loop { rc .ready none with state:=.busy }));rw[z];have Qo:c.heap[w.heap.size+1]?=some (.loop { rc .ready none with state:=.busy }):=by rw[<-z];exact Bj Qg
   have Qe:∀k,k≠w.heap.size+1->c.heap[k]?=W1.heap[k]?:=λk d=>by rw[<-z];exact BO O
   have Qt:De c bx f i c4:=(Qe bx O).trans Qh;have Qk:=(Qe _ O).trans Ql;have Qp:I B4 B5 H c:=by rw[<-z];exact(hI B4 B5).putObj _ Qj O T J
   have Qq:De c B4 f i c4:=(Qe B4 O).trans Qu;have Qw:De c B5 a5 l5 c5:=(Qe B5 O).trans Qr;have Qi:Jh c (E #[F f i c4]) p4:=by rw[<-z];exact Ml T J Qv
   have Qs:Jh c (E #[F a5 l5 c5]) q5:=by rw[<-z];exact Ml T J Qn
   refine wpIn_mono (aq _ bx B4 B5 f i c4 p4 H c Qp bj Qf ak am Qt Qi) λe a3 W3 hp=>?_;cases e with
   |normal=>
    obtain⟨bh,bu,ad,aj⟩:=hp;have S:=ad _ _ O (Am J) Qo;have hr:=run_endRound (P:=C) none S;have Qa:∀k,k≠w.heap.size+1->(W3.putObj (w.heap.size+1) (.loop (rc .ready none))).heap[k]?=W3.heap[k]?:=λk d=>BO O;have Qm:(Instr.endRound (w.heap.size+1) none).run C W3=.ok (o true) (W3.putObj (w.heap.size+1) (.loop (rc .ready none))):=by
     grind
    exact⟨_,_,Qm,J,⟨(hI B4 B5).putObj _ bh O S J,Bj (Ab.1 S).1,(Qa _ O).trans (ad _ _ (Aa _) (Am J) Qk)⟩,
     (Qa _ O).trans (ad _ _ O (Ax (Am J)) Qq),(Qa _ O).trans (ad _ _ O (Ax (Ax J)) Qw),Ml S J (aj _ _ Qi),Ml S J (aj _ _ Qs)⟩
   |ret=>exact hp.elim
   |exit id=>exact hp.elim
   |goto t=>exact hp.elim
   |panic ch=>exact hp.elim
   |outgrown=>exact hp.elim
 . rintro e c ⟨⟨v,rfl⟩,B4,B5,H,r,⟨h4,h5⟩,⟨y,hl,d⟩,hc,hn⟩;exact⟨none,_,by have:=run_endLoop (P:=C) hl (by rw[G];simp);rw[G]at this;exact this,bf _ B4 B5 _ H r (Aa _) ((hI B4 B5).putObj _ y O hl J) hc hn ((BO O).trans d)⟩
def DL.setFar{w V:X}{bs:List (Option (Nat × Dat))}(M:DL w V bs){B:Nat}(f:w.heap.size<=B){a:kR}{l c:Nat}(g:De V B a l c)(j:∀(i:Nat) B' d,bs[i]?=some (some (B',d))->B'≠B)(u:I):DL w (V.setCell ⟨B,0,Option.none⟩ u) bs:=by
 refine⟨λi B' d h=>?_,M.2.1,M.2.2.setCell (p:=⟨B,0,Option.none⟩) f u⟩;obtain⟨⟨cs,b,e⟩,k⟩:=M.1 i B' d h;exact⟨⟨cs,b.far (p:=⟨B,0,Option.none⟩) (j i B' d h) u,e.set1 g J u⟩,k⟩
def IF(w:X)(a d:kR)(c b f e:Nat)(H:List Ja):List (Option (Nat × Dat)):=
 [some (w.heap.size,.cell 25 (F a c b)),some (w.heap.size+1,.cell 25 (F d f e)),some (w.heap.size+1+1,.cell 25 (F none 0 0)),some (w.heap.size+1+1+1,.poly (H.getLastD []))]
theorem iB{w:X}{a f:kR}{c b j g:Nat}{H:List Ja}{i B:Nat}{d:Dat}(e:(IF w a f c b j g H)[i]?=some (some (B,d))):B<=w.heap.size+1+1+1:=by
 grind[IF]
def O7(K:Nat)(va vb:I)(p q:Ja)(w:X)(ha:Jh w va p)(y:Jh w vb q)(aj:ChOk K p q):
 Calls C 8 #[va,vb] w λe w'=>∃u,e=.returned u/\Jh w' u (JA p q)/\Bl w w':=by
 obtain⟨f,j,g,rfl⟩:=ha.form;obtain⟨m,t,s,rfl⟩:=y.form;have M0:DL w _ _:=((((DL.nil w).push (.cell 25 (F f j g)) (cs:=#[F f j g]) ⟨J,J⟩).push (.cell 25 (F m t s)) (cs:=#[F m t s]) ⟨J,J⟩).push (.cell 25 (F none 0 0)) (cs:=#[F none 0 0]) ⟨J,J⟩).push (.poly []) (cs:=#[F none 0 0]) (MP _);simp only[A1]at M0;obtain⟨W0,ae⟩:=ex ((((w.alloc (A #[F f j g] 25)).alloc (A #[F m t s] 25)).alloc (A #[F none 0 0] 25)).alloc (A #[F none 0 0] 25));have M1:DL w W0 (IF w f m j g t s []):=by rw[<-ae];exact M0
 have hN:W0.heap.size=w.heap.size+1+1+1+1:=by rw[<-ae];simp
 obtain⟨Qe,Qg,HN,HP,HQ,Qm⟩:=IW ae M1 hN (λ(V:X) (hB:Bl w V)=>ha.below hB) (λ(V:X) (hB:Bl w V)=>y.below hB) aj;have c0:=(DL.cell M1 (i:=0) J).1.cell;have c1:=(DL.cell M1 (i:=1) J).1.cell;have Qj:=Y (λ(V:X) (x:I) (r:Ja) (hx:Jh V x r) (hc:Chn p q (DZ K p q) r [])=>show Calls C 26 #[x] V λe w'=>∃u,e=.returned u/\Jh w' u (JA p q)/\Bl V w' by
  have Qb:=aj.bd;have h1:=Te x r V hx (Sqs.of λi=>Sq.of (hc.wa.smq Qb.2.2.2 i) Qb.1) hc.ta (λi=>by
   have h2:=Ln.sqs hc.ta hc.wa.ln Qb.2.2.2 i;unfold Jt at h2;rw[Yo,FA,FI,<-FA]at h2;exact Sq.of h2 Qb.1)
  rw[<-hc.gc,Ox];exact h1)
 clear ha y aj M0 M1 ae hN;refine(BJ (n:=3)).1 ?_;refine BU func8 J trivial ?_ J;simp only[ntmps8,An,Ak,AK,Nat.reduceAdd,Nat.reduceSub,Ay,Az,AJ,AA,Aj,Au];gi_wp2_with fail
 rw[Qe.o];refine⟨trivial,?_⟩;refine(hO _ _ _ _ _ _ _ _).mono ?_;rintro e w' ⟨rfl,rfl⟩;obtain⟨z,ad⟩:=ex ((W0.alloc (A #[F f j g] 25)).alloc (A #[F m t s] 25));have Qi:Bl W0 z:=by rw[<-ad];exact(Ba W0 _).alloc (by rw[A1];omega) _
 have nP:De z W0.heap.size f j g:=by rw[<-ad];exact(BK W0 25 (F f j g)).alloc _
 have nQ:De z (W0.heap.size+1) m t s:=by
  rw[<-ad];have:=BK (W0.alloc (A #[F f j g] 25)) 25 (F m t s);rwa[A1]at this
 have M2:=DL.below Qg.o Qi;have Qf:z.heap.size=w.heap.size+6:=by rw[<-ad];simp[HN.o]
 rw[ad,HN.o];rw[HN.o]at nP nQ;obtain⟨Qc,Ql,Qn,S⟩:=Do M2 nP nQ Qf;clear M2 nP nQ Qf Qi ad Qe HN c0 c1 Qg;gi_wp2_with fail
 refine iA O Qm.o Ql.o Qn.o (HP.o z Qc.o.2.2) (HQ.o z Qc.o.2.2) J (DB func55 kS J) J
  (λ_ _ H W=>DL w W (IF w f m j g t s H)) (λ_ _ H W W' row M hg hr=>DL.own M hg λr e=>⟨by have:=(hr r e).1;have:=S.o;omega,(hr r e).2⟩) (λ_ _ H W W' M y=>DL.below M y)
  (λB4 B5 T h5 H W B a l c u hB y M=>DL.setFar M (by have:=S.o;omega) y (λi B' d e=>by have:=iB e;have:=S.o;omega) u) (λ_ _ V _ _ hV=>DL.below Qc.o hV)
  (λv b=>{ tmps:=#[E #[F f j g],E #[F m t s],L (some ⟨w.heap.size,0,none⟩),L (some ⟨w.heap.size+1,0,none⟩),L (some ⟨w.heap.size+1+1,0,none⟩),L (some ⟨w.heap.size+1+1+1,0,none⟩),L (some ⟨b,0,none⟩),E #[F f j g],E #[F m t s],.func (.func 55) #[] #[L (some ⟨w.heap.size+1+1+1+1,0,none⟩),L (some ⟨w.heap.size+1+1+1+1+1,0,none⟩)],E #[v],undef,undef,undef],defers:=[] }) ?assign ?body ?done
 case assign=>
  intro l x xl xc W K hK;gi_wp2;exact hK
 case body=>
  intro l b B4 B5 x xl xc r H W M _ y _ _ ai hr;have hw:z.heap.size<=W.heap.size:=Al O (FL (Bx.lt (cs:=#[F x xl xc]) ai));obtain⟨ya,yl,yc,R,r3⟩:=DL.poly2 M (i:=3) J;have e3:=R.cell;have f3:=R.frozen;have eb:=ai.cell;have HH:=Y (show ∀ak,Tg z.heap.size B4 B5 (λH W=>DL w W (IF w f m j g t s H)) (H++[r]) W .normal ak (W.setCell ⟨w.heap.size+1+1+1,0,none⟩ (F x xl xc))from λak=>by
   refine⟨?_,?_,λk o hk _ ho=>?_,λv ps h=>h.setB R⟩
   . have T:=DL.putPoly M (i:=3) J hr;show DL w _ (IF w f m j g t s (H++[r]));unfold IF at T ⊢;rw[show(H++[r]).getLastD []=r by simp];exact T
   . rw[World.size_setCell];exact Aa _
   . exact(BD W ⟨w.heap.size+1+1+1,0,none⟩ _ k (by show k≠w.heap.size+1+1+1;have:=S.o;omega)).trans ho)
  clear M y ai hr hw R r3;gi_wp2;exact HH.o _
 case done=>
  intro D _ _ W H r hD M ap am hK;have Qo:w.heap.size<=D:=by have:=S.o;omega
  have M:DL w W [some (w.heap.size,.cell 25 (F f j g)),some (w.heap.size+1,.cell 25 (F m t s)),some (w.heap.size+1+1,.cell 25 (F none 0 0)),some (w.heap.size+1+1+1,.poly r)]:=by
   have T:=M;unfold IF at T;rwa[show(H++[r]).getLastD []=r by simp]at T
  obtain⟨ya,yl,yc,R,r3⟩:=DL.poly2 M (i:=3) J;have e3:=R.cell;have n2:=(DL.cell M (i:=2) J).1;obtain⟨HC,Qh,HK⟩:=Dc (Qj.o W _ r r3 am) M.2.2 hK;clear M ap am hK r3 R Qj;gi_wp2_with(refine⟨trivial,?_⟩;gi_at_call 26;refine((BJ (n:=_)).2 HC.o).mono ?_;clear HC;rintro e w5 ⟨u5,rfl,an,ah⟩;obtain⟨G,P,N,rfl⟩:=an.form;have n5:=boxed_below n2 ah;have x0:=n5.cell;have x1:=n5.frozen)
  have Qd:(w5.setCell ⟨w.heap.size+1+1,0,none⟩ (F G P N)).heap[D]?=some (.deferred (some [])):=by
   rw[BD w5 ⟨w.heap.size+1+1,0,none⟩ _ D (by show D≠w.heap.size+1+1;have:=S.o;omega)];exact(ah.block D (Ab.1 HK.o).1).trans HK.o
  refine⟨DK,.inl ⟨_,_,J,BX Qd,?_⟩⟩;have q:De (w5.setCell ⟨w.heap.size+1+1,0,none⟩ (F G P N)) (w.heap.size+1+1) G P N:=De.put (show De w5 (w.heap.size+1+1) none 0 0 from n5);have hg:=BV (w5.setCell ⟨w.heap.size+1+1,0,none⟩ (F G P N)) D (.deferred none);have Qk:∀r,some D=some r->∃o:Obj,(w5.setCell ⟨w.heap.size+1+1,0,none⟩ (F G P N)).heap[r]?=some o/\o.isCells=false:=λr e=>by cases e;exact⟨_,Qd,J⟩
  have q2:De _ (w.heap.size+1+1) G P N:=Io hg Qk q;have g0:=q2.cell;refine⟨E #[F G P N],by simp[results,results8,go_sem,g0],_,J,?_,?_⟩
  . exact Th hg Qk (an.setB n5)
  . exact((Bt Qh.o ah).setCell (p:=⟨w.heap.size+1+1,0,none⟩) DX _).trans (DJ (w:=w) (Aa _) _ D _ _ Qo Qd J J)
def LN(w V:X)(a:I)(ps:Ja):Prop:=RowK false V a ps/\Bl w V
def LN.below{w V V':X}{b:I}{ps:Ja}(h:LN w V b ps)(a:Bl V V'):LN w V' b ps:=⟨h.1.below a,Bt h.2 a⟩
def iC(c:Rat):((1:Int):Rat)/c=1/c:=rfl
def O8(va:I)(ps:Ja)(w:X)(q:RowK false w va ps)(ai:Jb ps=ps)(ae:Sqs ps)(ah:ps≠[]->Sq (1/cf ps (ps.length-1)))(bc:ps.length<1099511627776):
 Calls C 40 #[va] w λe w'=>∃u,e=.returned u/\RowK false w' u (Jt ps)/\Bl w w':=by
 obtain⟨a,la,ca,rfl⟩:=q.form;obtain⟨az,bf,bg,bm,s,t,aa,bb,ll,cc,kk,dd,hc⟩:=q.formsF;by_cases j:ps=[]
 . have Qf:la=0:=by rw[az,j];rfl
   have HA:=Y (show RowK false w (F a la ca) (Jt ps)by rw[j]at q ⊢;exact q);have bk:(la:Int)=0:=O
   clear q hc ae ah ai j;go_enter func40,ntmps40
   go_wp2_with fail
   go_ret;exact⟨_,J,HA.o,BB _ _⟩
 . have Qf:¬(la:Int)=0:=by have:=Ac.2 j;omega
   obtain⟨m,hm⟩:=ex (la-1:Nat);have bn:(la:Int)-1=(m:Int):=O
   have bt:U.wrap (m:Int)=(m:Int):=by rw[BQ];omega
   have bu:(m:Int)<(la:Int):=O
   have R:ps.length-1=m:=O
   obtain⟨ay,g,rfl,M,aj,ak,am,an⟩:=hc m O;have Qi:=Y (show ∀V,Bl w V->(V.cell? ⟨g,m*4,none⟩=some (F (aa m) (ll m) (cc m))/\V.cell? ⟨g,m*4+1,none⟩=some (o (s m))/\V.cell? ⟨g,m*4+2,none⟩=some (F (bb m) (kk m) (dd m))/\V.cell? ⟨g,m*4+3,none⟩=some (o (t m)))/\Jq V (E #[F (aa m) (ll m) (cc m),o (s m),F (bb m) (kk m) (dd m),o (t m)]) (cf ps m)from λV H=>by
    exact⟨⟨(H.cell (p:=⟨g,_,none⟩) M).trans aj,(H.cell (p:=⟨g,_,none⟩) M).trans ak,(H.cell (p:=⟨g,_,none⟩) M).trans am,(H.cell (p:=⟨g,_,none⟩) M).trans an⟩,ay.below H⟩)
   obtain⟨Qg,Qe,Qj,Qd,Qh⟩:=GL (show cf ps m≠0 by rw[<-R];exact Jv ai j) (show Sq (1/cf ps m)by rw[<-R];exact ah j) (show Jb (YD (1/cf ps m) ps)=Jt ps by unfold Jt Da;rw[R]) ae bc;have S:=LN.below ⟨q,BB _ _⟩ ((BB _ w).drew);have HX:=Y S;clear q hc ay M aj ak am an ae ah ai j R az bf bg bc S;go_enter func40,ntmps40
   go_upto_region 3 with fail
   obtain⟨bz,aq⟩:=ex (((la:Int)==0));rw[aq];clear aq;have S:=HX.o;refine JY Di [[],[],[],[],[3],[4],[2,5],[6],[1,7,1],[0,8,8],[9,9,0,1,2,3,4,5,6,7,8,9]] kS DN
    (λD ad V=>∃(tj tk tl ta tb T W te tf tg P:I),ad={ tmps:=#[F (some ⟨g,0,none⟩) la ca,undef,P,F (some ⟨g,0,none⟩) la ca,Q U ↑la,o bz,undef,tj,tk,tl,ta,tb,T,W,te,tf,tg],defers:=[] }/\Hid ((D 0=true->tj=F (some ⟨g,0,none⟩) la ca)/\(D 1=true->Jq V tk ((1:Int):Rat))/\(D 2=true->tl=F (some ⟨g,0,none⟩) la ca)/\(D 3=true->ta=F (some ⟨g,0,none⟩) la ca)/\(D 4=true->tb=Q U (la:Int))/\(D 5=true->T=Q U (m:Int))/\(D 6=true->W=L (some ⟨g,m*4,none⟩))/\(D 7=true->Jq V te (cf ps m))/\(D 8=true->Jq V tf (1/cf ps m))/\(D 9=true->RowK false V tg (Jt ps))/\(D 10=true->RowK false V P (Jt ps)))/\Hid (LN w V (F (some ⟨g,0,none⟩) la ca) ps))
    (E8 ⟨_,_,_,J,Y ⟨DK,DK,DK,DK,DK,DK,DK,DK,DK,DK,DK⟩,Y S⟩) ?step1 ?fin1
   case step1=>
    rintro D ad V i ds bi hi d bh ⟨tj,tk,tl,ta,tb,T,W,te,tf,tg,P,rfl,c,b⟩;have bj:i<11:=(Ar.1 hi).1;obtain rfl|rfl|rfl|rfl|rfl|rfl|rfl|rfl|rfl|rfl|rfl:=KT i O
    all_goals
     simp only[AH,AD,AO]at hi;subst hi
    . have l:=b.o;clear d;refine Dd ?_;exact⟨(Gf c),Y (b.o)⟩
    . have l:=b.o;clear d;have n:=Y (Ip 1 O O V);refine Jj J J λK hK=>?_;go_simp;go_wp2_with(go_at_call 42;refine n.o.mono ?_;rintro e w5 ⟨v5,rfl,N,f⟩)
      obtain⟨G0,_,v,x,y,z,B,G,G8,G9,r⟩:=c.o;exact E8 ⟨_,_,_,J,Y ⟨G0,λ_=>N,v,x,y,z,B,λh=>(G h).below f,λh=>(G8 h).below f,λh=>(G9 h).below f,λh=>(r h).below f⟩,Y (b.o.below f)⟩
    . have l:=b.o;clear d;refine Dd ?_;exact⟨(Hu c),Y (b.o)⟩
    . have l:=b.o;clear d;refine Dd ?_;exact⟨(IR c),Y (b.o)⟩
    . have l:=b.o;obtain rfl:=c.o.2.2.2.1 (d 3 DK);clear d;refine Dd ?_;exact⟨(I6 (IR c)),Y (b.o)⟩
    . have l:=b.o;obtain rfl:=c.o.2.2.2.2.1 (d 4 DK);clear d;refine Dd ?_;exact⟨(Kf (I6 c)),Y (b.o)⟩
    . have l:=b.o;obtain rfl:=c.o.2.2.1 (d 2 DK);obtain rfl:=EU c (d 5 DK);clear d;refine Dd ?_;exact⟨(IU (Kf (Hu c))),Y (b.o)⟩
    . have l:=b.o;obtain rfl:=EW c (d 6 DK);obtain⟨⟨e0,e1,e2,e3⟩,hr⟩:=Qi.o V l.2;clear d;refine Dd ?_;exact⟨(I7 (IU c) λ_=>hr),Y (b.o)⟩
    . have l:=b.o;have j:=c.o.2.1 (d 1 DK);have h1:=EX c (d 7 DK);clear d;have n:=Y (SM _ _ ((1:Int):Rat) (cf ps m) V j h1 (Sq.of (k:=1) ⟨Sm.one 1 O,Sm.one 1 O⟩ O) (Qd.o.at m) Qg.o);rw[iC]at n;clear j h1;refine Jj J J λK hK=>?_;go_simp;go_wp2_with(go_at_call 77;refine n.o.mono ?_;rintro e w5 ⟨v5,rfl,N,f⟩)
      obtain⟨G0,G1,v,x,y,z,B,G,_,G9,r⟩:=c.o;exact E8 ⟨_,_,_,J,Y ⟨G0,λh=>(G1 h).below f,v,x,y,z,B,λh=>(G h).below f,λ_=>N,λh=>(G9 h).below f,λh=>(r h).below f⟩,Y (b.o.below f)⟩
    . have l:=b.o;have j:=Eb c (d 8 DK);obtain rfl:=c.o.1 (d 0 DK);clear d;have n:=Y (SQ _ _ ps (1/cf ps m) V l.1 j Qd.o Qe.o Qh.o);rw[Qj.o]at n;clear j;refine Jj J J λK hK=>?_;go_simp;go_wp2_with(go_at_call 76;refine n.o.mono ?_;rintro e w5 ⟨v5,rfl,N,f⟩)
      obtain⟨_,G1,v,x,y,z,B,G,G8,_,r⟩:=c.o;exact E8 ⟨_,_,_,J,Y ⟨λ_=>rfl,λh=>(G1 h).below f,v,x,y,z,B,λh=>(G h).below f,λh=>(G8 h).below f,λ_=>N,λh=>(r h).below f⟩,Y (b.o.below f)⟩
    . have l:=b.o;have j:=EQ c (d 9 DK);clear d;refine Dd ?_;exact⟨(Gv c λ_=>j),Y (b.o)⟩
   case fin1=>
    rintro D ad V ap ⟨tj,tk,tl,ta,tb,T,W,te,tf,tg,P,rfl,c,b⟩;have h9:=c.o.2.2.2.2.2.2.2.2.2.2 (ap 10 DN);have HH:=Y (show RowK false V P (Jt ps)/\Bl w V from⟨h9,b.o.2⟩);clear c b ap h9;go_wp2_with fail
    go_ret;exact⟨_,J,HH.o⟩
def Rhn.dvn{p q a b:Ja}(h:Rhn p q (DZ K p q) a b)(i:b≠[]):∃D E:Int,Dvn D E E (DZ K p q) (DZ K p q) a b:=by
 obtain⟨D,d1,e,f⟩:=h.ca;obtain⟨E,c,d,g⟩:=h.cb;exact⟨D,E,d1,e,f,c,d,g,c,d,by rw[h.mb i,Rat.divInt_self' c]⟩
def ChOk.fit{p q a:Ja}(b:ChOk K p q)(f:a.length<=max p.length q.length):DZ K p q+a.length*(DZ K p q+1)+1+(2*DZ K p q+1)<=1000000000:=by
 have c:(a.length+2)*(DZ K p q+1)<=(max p.length q.length+2)*(DZ K p q+1):=Af _ O;have d:(a.length+2)*(DZ K p q+1)=a.length*(DZ K p q+1)+2*(DZ K p q+1):=AR _ _ _;have e:=b.le;omega
theorem Ti(K:Nat)(va vb:I)(p q:Ja)(w:X)(ha:RowK false w va p)(R:RowK false w vb q)(c:ChOk K p q):
 Calls C 13 #[va,vb] w λe d=>∃u,e=.returned u/\RowK false d u (JA p q)/\Bl w d:=by
 obtain⟨A,hA⟩:=ex (DZ K p q);have t:=c.bd;have Qo:=c.ln;have mono:∀(r:Ja),Jb r=r->(∃D:Int,D≠0/\Sm 1000000000 D/\Dp D 1000000000 r)->r.length<=1000->∀(V:X) (x:I),RowK false V x r->Calls C 40 #[x] V λe d=>∃u,e=.returned u/\RowK false d u (Jt r)/\Bl V d:=λr tr hr hl V x k=>by
  obtain⟨D,d1,M,N⟩:=hr;exact O8 x r V k tr (Sqs.of λi=>Sq.of ((N i).smq d1 M) (Aa _)) (λj=>by
   rw[FA,FI];exact Sq.of (((N _).smq d1 M).inv (Jv tr j)) (Aa _)) O
 have Qa:∀(r:Ja),(∃D:Int,D≠0/\Sm K D/\Dp D K r)->∃D:Int,D≠0/\Sm 1000000000 D/\Dp D 1000000000 r:=λr h=>by
  obtain⟨D,d1,M,N⟩:=h;exact⟨D,d1,M.mono t.2.1,λi=>(N i).mono t.2.1⟩
 obtain⟨H1,H2,B,Qg⟩:=Do (λ(V:X) (hB:Bl w V)=>mono p c.tp (Qa p c.cp) O V va (ha.below hB)) (λ(V:X) (hB:Bl w V)=>mono q c.tq (Qa q c.cq) O V vb (R.below hB)) (Rhn.start c.tp c.tq c.lp c.lq t.2.2.1) λ(a b:Ja) (h:Rhn p q (DZ K p q) a b) (R:b≠[])=>Rhn.next c.tp c.tq c.lp c.lq t.2.2.1 h R;have Qk:=Y (λ(a b:Ja) (h:Rhn p q (DZ K p q) a b) (j:b≠[]) (V:X) (x y:I) (k:RowK false V x a) (hy:RowK false V y b)=>show Calls C 41 #[x,y] V λe d=>∃u v,e=.returned (.tuple #[u,v])/\RowK false d u (JL a b)/\RowK false d v (J0 a b)/\Bl V d by
  obtain⟨D,E,l⟩:=Rhn.dvn h j;have hf:=c.fit h.la;exact TU _ (DZ K p q) x y a b V k hy (l.divS a.length O) l.start l.sq h.ta h.tb j (by have:=h.la;omega))
 have Qh:=Y (λ(a b:Ja) (h:Rhn p q (DZ K p q) a b) (j:b≠[]) (V:X) (x:I) (k:RowK false V x (J0 a b))=>mono (J0 a b) (YN _ _) (by
  obtain⟨D,E,l⟩:=Rhn.dvn h j;have hf:=c.fit h.la;obtain⟨m,hm⟩:=ex (a.length-(b.length-1));have am:m*(DZ K p q+1)<=a.length*(DZ K p q+1):=Af _ O;have P:=l.den m;have h2:=(l.rem hm).1;exact⟨_,P.1,P.2.mono O,λi=>(h2 i).mono O⟩) (by have P:=(Yz a b h.tb j).2.1;have h2:=h.lb;omega) V x k)
 have Ql:=Y (λ(a:Ja) (h:Rhn p q (DZ K p q) a [])=>show a=JA p q by rw[<-h.gc,Ox,h.ma]);have Qi:=Y (λ(a b:Ja) (h:Rhn p q (DZ K p q) a b)=>show b.length<=1000 by have:=h.lb;omega);rw[hA]at B Qg Qk Qh Ql Qi;clear mono Qa c t Qo ha R hA;go_enter func13,ntmps13
 have Qf:Bl w w:=BB _ _;go_wp2_with(first
  |(go_at_call 40;refine(H1.o _ Qf).mono ?_;clear H1;rintro e w1 ⟨u1,rfl,s,ai⟩;have Qd:=Bt Qf ai;clear Qf)
  |(go_at_call 40;refine(H2.o _ Qd).mono ?_;clear H2;rintro e w2 ⟨u2,rfl,z,ad⟩;have Qm:=Bt Qd ad;have s:=s.below ad))
 obtain⟨T,xl,W,rfl⟩:=s.form;obtain⟨ya,f,yc,rfl⟩:=z.form;go_loopw [5,6,7,8] (λav bv _ _ wr=>∃(a b:Ja) (T:kR) (xl W:Nat) (ya:kR) (f yc:Nat),av=F T xl W/\bv=F ya f yc/\f<=1000/\Hid (f=b.length)/\Hid (RowK false wr (F T xl W) a)/\Hid (RowK false wr (F ya f yc) b)/\Hid (Rhn p q A a b)/\Hid (Bl w wr)) λ_ bv _ _ _=>lenOf bv
 case atStart=>exact⟨_,_,_,_,_,_,_,_,J,J,by have:=Qi.o _ _ B.o;have:=z.formsF.1;omega,Y z.formsF.1,Y s,Y z,B,Y Qm⟩
 case round=>
  clear s z ai ad Qd Qm B;obtain⟨a,b,T,xl,W,ya,f,yc,rfl,rfl,an,G,HA,HB,n,HQ⟩:=hrel;by_cases g:b=[]
  . have Qn:¬(0:Int)<(f:Int):=by have:=G.o;grind
    have Qq:=Y (show a=JA p q from Ql.o a (by have:=n.o;rwa[g]at this));clear g;go_wp2_with fail
    go_ret;exact⟨_,J,by rw[<-Qq.o];exact HA.o,HQ.o⟩
  . have Qn:(0:Int)<(f:Int):=by have:=G.o;have:=Ac.2 g;omega
    obtain⟨H3,H4,HN,Qj⟩:=Do (Qk.o a b n.o g wr _ _ HA.o HB.o) (λ(V:X) (x:I) (k:RowK false V x (J0 a b))=>Qh.o a b n.o g V x k) (Qg.o a b n.o g) (show(Jt (J0 a b)).length<b.length by rw[Ya (YN _ _)];exact(Yz a b n.o.tb g).2.1);clear g;go_wp2_with(first
     |(go_at_call 41;refine H3.o.mono ?_;clear H3;rintro e w3 ⟨u3,v3,rfl,ak,aj,S⟩)
     |(go_at_call 40;refine(H4.o _ _ aj).mono ?_;clear H4;rintro e w4 ⟨u4,rfl,ah,ae⟩;obtain⟨za,zl,zc,rfl⟩:=ah.form))
    obtain⟨H,Qr,Qp⟩:=Dc ah ((HB.o.below S).below ae) ((Bt HQ.o S).trans (ae.mono (Al HQ.o.size S.size)));clear ak aj S ah ae;go_roundw
    case rel=>exact⟨b,Jt (J0 a b),_,_,_,_,_,_,J,J,by have:=H.o.formsF.1;have:=Qj.o;have:=G.o;omega,Y H.o.formsF.1,Qr,H,HN,Qp⟩
    case measure=>
     show zl<f;have P:=H.o.formsF.1;have h2:=Qj.o;have h3:=G.o;omega
end M3
def Dv(a b:Ja):Prop:=∃c:Ja,∀x,ev b x=ev a x*ev c x
def ES(a b:Ja):Prop:=∃u v:Ja,∀x,ev u x*ev a x+ev v x*ev b x=1
section
variable {a b c d p q:Ja}
theorem Dv.refl(a:Ja):Dv a a:=⟨[1],λx=>by simp[ev];grind⟩
theorem Dv.trans(h:Dv a b)(d:Dv b c):Dv a c:=by
 obtain⟨u,e⟩:=h;obtain⟨v,f⟩:=d;exact⟨Jy u v,λx=>by rw[f,e,Jm];grind⟩
theorem Dv.zero(a:Ja):Dv a []:=⟨[],λx=>by simp[ev]⟩
theorem Dv.mul(h:Dv a b)(c:Ja):Dv a (Jy b c):=by
 obtain⟨u,d⟩:=h;exact⟨Jy u c,λx=>by rw[Jm,d,Jm];grind⟩
theorem Dv.comb(h:Dv d a)(e:Dv d b)(u v:Ja)(f:∀x,ev c x=ev u x*ev a x+ev v x*ev b x):Dv d c:=by
 obtain⟨s,hs⟩:=h;obtain⟨t,g⟩:=e;exact⟨Xm (Jy u s) (Jy v t),λx=>by rw[f,hs,g,Xk,Jm,Jm];grind⟩
theorem Dv.of_sc{k:Rat}(c:k≠0)(h:Dv a b):Dv (Da k a) b:=by
 obtain⟨u,d⟩:=h;have e:(1/k)*k=1:=CJ c;exact⟨Da (1/k) u,λx=>by rw[d,Y8,Y8];grind⟩
theorem Dv.sc(h:Dv a b)(k:Rat):Dv a (Da k b):=by
 obtain⟨u,c⟩:=h;exact⟨Da k u,λx=>by rw[Y8,c,Y8];grind⟩
theorem ES.symm(h:ES a b):ES b a:=by
 obtain⟨u,v,h⟩:=h;exact⟨v,u,λx=>by rw[<-h x];grind⟩
theorem ES.of_dv(h:ES a b)(c:Dv d a):ES d b:=by
 obtain⟨u,v,h⟩:=h;obtain⟨s,hs⟩:=c;exact⟨Jy u s,v,λx=>by rw[<-h x,hs x,Jm];grind⟩
theorem ES.dv(h:ES a b)(d:Dv a (Jy b c)):Dv a c:=by
 obtain⟨u,v,h⟩:=h;obtain⟨k,e⟩:=d;refine⟨Xm (Jy u c) (Jy v k),λx=>?_⟩;grind[Jm,Xk]
theorem ES.mul(h:ES a b)(d:ES a c):ES a (Jy b c):=by
 obtain⟨u,v,h⟩:=h;obtain⟨s,t,d⟩:=d;refine⟨Xm u (Jy (Jy v b) s),Jy v t,λx=>?_⟩;grind[Xk,Jm]
end
def Tj{p:Ja}(x:Rat):ev (Jt p) x=ev p x*(1/cf p (p.length-1)):=Y8 _ _ _
theorem iD:∀(n:Nat) (p q:Ja),Jb p=p->Jb q=q->q.length<=n->Dv (EG n p q) p/\Dv (EG n p q) q/\∃u v:Ja,∀x,ev (EG n p q) x=ev u x*ev p x+ev v x*ev q x:=by
 intro n;induction n with
 |zero=>
  intro p q hp hq hl;have a:q=[]:=Md O;subst a;rw[EG];refine⟨?_,Dv.zero _,[1/cf p (p.length-1)],[],λx=>by rw[Tj];simp[ev];grind⟩;by_cases b:p=[]
  . subst b;exact Dv.refl _
  . exact Dv.of_sc (GW (Jv hp b)) (Dv.refl _)
 |succ n g=>
  intro p q hp hq hl;by_cases a:q=[]
  . subst a;simp only[EG,BL];refine⟨?_,Dv.zero _,[1/cf p (p.length-1)],[],λx=>by rw[Tj];simp[ev];grind⟩;by_cases b:p=[]
    . subst b;exact Dv.refl _
    . exact Dv.of_sc (GW (Jv hp b)) (Dv.refl _)
  . simp only[EG,BH a];obtain⟨d,j,k,i⟩:=Yz p q hq a;obtain⟨c,e,u,v,f⟩:=g q (J0 p q) hq i O;refine⟨c.comb e (JL p q) [1] (λx=>by rw[d x];simp[ev];grind),c,v,JP u (Jy v (JL p q)),λx=>?_⟩;rw[f x,d x,XW,Jm];grind
section
variable {p q d:Ja}
theorem Xx(hp:Jb p=p)(hq:Jb q=q):Dv (JA p q) p/\Dv (JA p q) q/\∃u v:Ja,∀x,ev (JA p q) x=ev u x*ev p x+ev v x*ev q x:=iD _ p q hp hq (Aa _)
def Tk(hp:Jb p=p)(hq:Jb q=q)(a:Dv d p)(b:Dv d q):Dv d (JA p q):=by
 obtain⟨_,_,u,v,h⟩:=Xx hp hq;exact a.comb b u v h
def iE:∀(n:Nat) (p q:Ja),Jb p=p->Jb q=q->q.length<=n->Jt (EG n p q)=EG n p q:=by
 intro n;induction n with
 |zero=>intro p q hp _ _;exact Is hp
 |succ n b=>
  intro p q hp hq hl;rw[EG];split
  . exact Is hp
  . rename_i a;have:=(Yz p q hq a).2.1;exact b _ _ hq (YN _ _) O
theorem YX(hp:Jb p=p)(hq:Jb q=q):Jt (JA p q)=JA p q:=iE _ p q hp hq (Aa _)
end
theorem KR{p:Ja}(hp:Jb p=p)(h:∀x,ev p x=0):p=[]:=XY hp J (λx=>by rw[h x];rfl)
def Dv.some{a b:Ja}(d:Jb b=b)(h:Dv a b):∃c,Jb c=c/\b=Jy a c:=by
 obtain⟨c,e⟩:=h;exact⟨Jb c,Ym _,XY d (JW _ _) λx=>by rw[Jm,XF,e]⟩
theorem Y3(a:Ja):Jy a []=[]:=KR (JW _ _) λx=>by rw[Jm];simp[ev]
theorem Dv.anti{a b:Ja}(p:Jb a=a)(j:Jb b=b)(h:Dv a b)(s:Dv b a):∃k:Rat,k≠0/\b=Da k a:=by
 obtain⟨c,q,e⟩:=h.some j;obtain⟨d,t,i⟩:=s.some p;by_cases g:a=[]
 . refine⟨1,DN,?_⟩;rw[e,g];rfl
 . have n:b≠[]:=λf=>g (by rw[i,f];rfl);have m:c≠[]:=λf=>n (by rw[e,f];exact Y3 _);have l:d≠[]:=λf=>g (by rw[i,f];exact Y3 _);have l1:=JH p q g m;have l2:=JH j t n l;rw[<-e]at l1;rw[<-i]at l2;have p1:0<c.length:=Ac.2 m;have v:0<d.length:=Ac.2 l;have w:0<a.length:=Ac.2 g;have r:c.length=1:=O
   match c,r with
   |[k],_=>
    have u:k≠0:=by
     have:=Jv q DK;simpa[YC]using this
    refine⟨k,u,XY j (JQ _ _) λx=>?_⟩;grind[Jm,Y8,ev]
def Dv.eq{a b:Ja}(c:Jb a=a)(f:Jb b=b)(ma:Jt a=a)(mb:Jt b=b)(h:Dv a b)(d:Dv b a):a=b:=by
 obtain⟨k,g,e⟩:=h.anti c f d;rw[<-mb,e,LI g c,ma]
theorem YT{p g:Ja}(hg:Jb g=g)(a:g≠[])(h:Dv g p):J0 p g=[]/\∀x,ev p x=ev g x*ev (JL p g) x:=by
 obtain⟨c,b⟩:=h;have d:=Me (p:=p) (u:=Jb c) (v:=[]) hg a (Ym _) J (Ac.2 a) (λx=>by rw[b,XF];simp[ev];grind);grind[XF]
theorem XU{g u v:Ja}(hg:Jb g=g)(c:g≠[])(h:∀x,ev g x*ev u x=ev g x*ev v x):∀x,ev u x=ev v x:=by
 have d:Jy g (JP u v)=[]:=KR (JW _ _) λx=>by rw[Jm,XW];have:=h x;grind
 have a:JP u v=[]:=by
  by_cases b:JP u v=[]
  . exact b
  . grind[JH,Yi,Ac]
 intro x;have e:=Bw (λr=>ev r x) a;grind[XW,ev]
theorem O9{p q:Ja}(hp:Jb p=p)(hq:Jb q=q)(a:JA p q≠[]):ES (JL p (JA p q)) (JL q (JA p q)):=by
 obtain⟨c,d,u,v,i⟩:=Xx hp hq;have b:=JZ p q;have f:=(YT b a c).2;have g:=(YT b a d).2;refine⟨u,v,?_⟩;have e:=XU (u:=Xm (Jy u (JL p (JA p q))) (Jy v (JL q (JA p q)))) (v:=[1]) b a (λx=>by
  grind[Xk,Jm,ev])
 intro x;have j:=e x;grind[Xk,Jm,ev]
theorem XI{p q:Ja}(hp:Jb p=p)(hq:Jb q=q)(h:p≠[]\/q≠[]):JA p q≠[]:=λe=>by
 obtain⟨a,b,_⟩:=Xx hp hq;rw[e]at a b;obtain⟨c,f⟩:=a;obtain⟨d,g⟩:=b;grind[KR,ev]
section
variable {a b c d e f g k p q r u w y z R:Ja}
theorem LO(p q:Ja)(x:Rat):ev (Jd (Jy p q)) x=ev (Jd p) x*ev q x+ev p x*ev (Jd q) x:=by
 rw[U8,Xk,Jm,Jm]
theorem Xe(p:Ja)(i:Nat):cf (Jd p) i=cf p (i+1)*(((i+1:Nat):Int):Rat):=by
 unfold Jd;rw[JR,IL];rfl
theorem YG(a:p≠[]):(Jd p).length<p.length:=by
 have b:0<p.length:=Ac.2 a;have c:(Jd p).length<=p.length-1:=Y2 (JB _) λi d=>by
  rw[Xe,JS O,CX]
 omega
def Tl(hp:Jb p=p)(h:Jd p=[]):p.length<=1:=by
 refine Y2 hp λi d=>?_;obtain⟨j,rfl⟩:∃j,i=j+1:=⟨i-1,O⟩;have b:=Xe p j;rw[h,Yt]at b;rcases Rat.mul_eq_zero.1 b.symm with a|a
 . exact a
 . exfalso
   have c:((j+1:Nat):Int)=0:=by exact_mod_cast a
   omega
theorem PA(hp:Jb p=p)(a:p≠[])(hl:p.length<=1):Dv p [1]:=by
 have d:0<p.length:=Ac.2 a;match p,hl,hp,a with
 |[c],_,hp,_=>
  have b:c≠0:=by
   have:=Jv hp DK;simpa[YC]using this
  have e:(1/c)*c=1:=CJ b;exact⟨[1/c],λx=>by simp[ev];grind⟩
theorem Tm(a:Jb u=u)(b:u≠[])(h:Dv u (Jd u)):Dv u [1]:=by
 refine PA a b (Tl a ?_);obtain⟨c,d,e⟩:=h.some (JB u);grind[Y3,JH,YG,Ac]
theorem iF(c:Jb a=a)(f:Jb b=b)(d:a≠[])(g:b≠[]):Jy a b≠[]:=λe=>by
 grind[JH,Ac]
theorem iG(D:Jb d=d)(y:d≠[])(h:Dv d (Jy (Jd d) f)):∀(n:Nat) (u:Ja),Jb u=u->d.length-u.length<=n->Dv u d->ES u f->Dv u [1]:=by
 intro n;induction n with
 |zero=>
  intro u b hl p j;obtain⟨m,l,e⟩:=p.some D;have a:u≠[]:=λg=>y (by rw[e,g];rfl);have r:m≠[]:=λg=>y (by rw[e,g];exact Y3 _);have l1:=JH b l a r;rw[<-e]at l1;have p2:0<m.length:=Ac.2 r;have p3:0<u.length:=Ac.2 a;have R:m.length<=1:=O
  have S:=PA l r R;have P:Dv d u:=by
   obtain⟨c,w⟩:=S;refine⟨c,λx=>?_⟩;have V:=w x;rw[e,Jm,Rat.mul_assoc,<-V];simp[ev];grind
  have i:Dv u (Jy f (Jd d)):=by
   obtain⟨c,w⟩:=p.trans h;exact⟨c,λx=>by rw[<-w,Jm,Jm];grind⟩
  have W:=j.dv i;refine Tm b a ?_;obtain⟨k,hk,T⟩:=P.anti D b p;have z:Jd u=Da k (Jd d):=by
   refine XY (JB _) (JQ _ _) λx=>?_;rw[T,Y8];have B:Da k d=Jy d [k]:=XY (JQ _ _) (JW _ _) λx=>by rw[Y8,Jm];simp[ev];grind
   rw[B,LO];have K:ev (Jd [k]) x=0:=by rw[LZ];simp[dv,ev];grind
   rw[K];simp[ev];grind
  rw[z];exact W.sc k
 |succ n ih=>
  intro u b hl p j;obtain⟨m,l,e⟩:=p.some D;have a:u≠[]:=λg=>y (by rw[e,g];rfl);have r:m≠[]:=λg=>y (by rw[e,g];exact Y3 _);obtain⟨g1,g2,s,t,g3⟩:=Xx b l;have H:=XI b l (Am a);have G:=JZ u m;by_cases hg:(JA u m).length<=1
  . obtain⟨c,w⟩:=PA G H hg;have N:ES u m:=⟨Jy s c,Jy t c,λx=>by
     grind[Jm,ev]⟩
    have i:Dv u (Jy f (Jy m (Jd u))):=by
     obtain⟨v,q⟩:=h;refine⟨JP (Jy m v) (Jy f (Jd m)),λx=>?_⟩;have z:=q x;have B:=LO u m x;rw[<-e]at B;have K:ev d x=ev u x*ev m x:=by rw[e,Jm]
     rw[Jm]at z;rw[Jm,Jm,XW,Jm,Jm];grind
    exact Tm b a (N.dv (j.dv i))
  . have M:Dv (Jy u (JA u m)) d:=by
     obtain⟨v,q⟩:=g2;exact⟨v,λx=>by rw[e,Jm,q,Jm];grind⟩
    have l1:=JH b G a H;have p3:0<u.length:=Ac.2 a;have i:=ih (Jy u (JA u m)) (JW _ _) O M (j.symm.mul (j.of_dv g1).symm).symm;obtain⟨v,q⟩:=i;exact⟨Jy (JA u m) v,λx=>by rw[q,Jm,Jm];grind⟩
structure Yun(R w y:Ja):Prop where
 tR:Jb R=R
 R0:R≠[]
 tw:Jb w=w
 w0:w≠[]
 mw:Jt w=w
 ty:Jb y=y
 eq:∀x,ev y x*ev R x=ev w x*ev (Jd R) x
 cop:ES w y
theorem Yun.dv(h:Yun R w y):Dv w R:=by
 refine h.cop.dv ⟨Jd R,λx=>?_⟩;rw[Jm,h.eq]
theorem LP(i:Jb w=w)(w0:w≠[])(mw:Jt w=w)(hg:Jb g=g)(n:Jt g=g)(h:Dv g w):Jt (JL w g)=JL w g/\g≠[]/\JL w g≠[]/\w=Jy g (JL w g):=by
 have b:g≠[]:=λe=>w0 (by
  obtain⟨c,m⟩:=h;grind[KR,ev])
 have e:=(YT hg b h).2;have a:w=Jy g (JL w g):=XY i (JW _ _) λx=>by rw[Jm,<-e]
 have q0:JL w g≠[]:=λd=>w0 (by rw[a,d];exact Y3 _);refine⟨?_,b,q0,a⟩;have l:=JH hg (Yq w g) b q0;have p1:0<g.length:=Ac.2 b;have j:0<(JL w g).length:=Ac.2 q0;have k:cf w (w.length-1)=cf g (g.length-1)*cf (JL w g) ((JL w g).length-1):=by
  obtain⟨Q,f⟩:=ex (JL w g);rw[f]at a l j ⊢;rw[a,l,show g.length+Q.length-1-1=(g.length-1)+(Q.length-1)by omega];unfold Jy;rw[JR];exact Mw g Q (g.length-1) (Q.length-1) O O
 grind[Mg,Jt,Hj,Yq]
theorem Yun.step(h:Yun R w y):JA w (JL R w)=JL w (JA w (JP y (Jd w)))/\JL w (JA w (JL R w))=JA w (JP y (Jd w))/\
 Yun (JL R w) (JL w (JA w (JP y (Jd w)))) (JL (JP y (Jd w)) (JA w (JP y (Jd w))))/\R=Jy w (JL R w)/\
 (∀x,ev (JP y (Jd w)) x*ev (JL R w) x=ev w x*ev (Jd (JL R w)) x)/\w=Jy (JA w (JP y (Jd w))) (JL w (JA w (JP y (Jd w)))):=by
 obtain⟨r,hr⟩:=ex (JL R w);obtain⟨z,hz⟩:=ex (JP y (Jd w));have tr:Jb r=r:=by rw[<-hr];exact Yq _ _
 have N:Jb z=z:=by rw[<-hz];exact Yi _ _
 have eR:∀x,ev R x=ev w x*ev r x:=by rw[<-hr];exact(YT h.tw h.w0 h.dv).2
 have Qf:R=Jy w r:=XY h.tR (JW _ _) λx=>by rw[Jm,eR]
 have r0:r≠[]:=λe=>h.R0 (by rw[Qf,e];exact Y3 _);have Qt:∀x,ev z x*ev r x=ev w x*ev (Jd r) x:=by
  have a:=XU (g:=w) (u:=Jy z r) (v:=Jy w (Jd r)) h.tw h.w0 (λx=>by
   have b:=h.eq x;grind[LO,Jm,XW])
  intro x;have b:=a x;rwa[Jm,Jm]at b
 have T:=JB r;obtain⟨d,m⟩:=ex (JA r (Jd r));have q:Jb d=d:=by rw[<-m];exact JZ _ _
 have d0:d≠[]:=by rw[<-m];exact XI tr T (Am r0)
 obtain⟨g1,g2,_⟩:=Xx tr T;rw[m]at g1 g2;obtain⟨f,hf⟩:=ex (JL r d);obtain⟨e,he⟩:=ex (JL (Jd r) d);have D:∀x,ev r x=ev d x*ev f x:=by rw[<-hf];exact(YT q d0 g1).2
 have ee:∀x,ev (Jd r) x=ev d x*ev e x:=by rw[<-he];exact(YT q d0 g2).2
 have tf:Jb f=f:=by rw[<-hf];exact Yq _ _
 have f0:f≠[]:=λV=>r0 (KR tr λx=>by rw[D,V];simp[ev]);have Qg:ES f e:=by
  have:=O9 tr T (by rw[m];exact d0);rwa[m,hf,he]at this
 have Qo:∀x,ev z x*ev f x=ev w x*ev e x:=by
  have a:=XU (g:=d) (u:=Jy z f) (v:=Jy w e) q d0 (λx=>by
   grind[Jm])
  intro x;have b:=a x;rwa[Jm,Jm]at b
 have Qe:Dv f w:=Qg.dv (⟨z,λx=>by rw[Jm];have:=Qo x;grind⟩);obtain⟨k,tk,W⟩:=Qe.some h.tw;have B:∀x,ev w x=ev f x*ev k x:=λx=>by rw[W,Jm]
 have S:∀x,ev z x=ev k x*ev e x:=by
  have a:=XU (g:=f) (u:=z) (v:=Jy k e) tf f0 (λx=>by
   grind[Jm])
  intro x;have b:=a x;rwa[Jm]at b
 obtain⟨P,i⟩:=ex (JA w z);have j:Jb P=P:=by rw[<-i];exact JZ _ _
 have mP:Jt P=P:=by rw[<-i];exact YX h.tw N
 obtain⟨p1,p2,_⟩:=Xx h.tw N;have Qm:Dv k P:=by rw[<-i];exact Tk h.tw N ⟨f,λx=>by rw[B];grind⟩ ⟨e,S⟩
 rw[i]at p1 p2;have Qk:Dv P k:=by
  obtain⟨u,v,p⟩:=Qg;refine p1.comb p2 u v λx=>?_;have a:=p x;rw[B,S];grind
 obtain⟨m1,l,K,eW⟩:=LP h.tw h.w0 h.mw j mP p1;have zP:=(YT j l p2).2;have wP:=(YT j l p1).2;have Qj:ES k y:=h.cop.of_dv ⟨f,λx=>by rw[B];grind⟩;have Qp:ES k f:=by
  obtain⟨u,v,p⟩:=Qj;refine⟨Xm u (Jy v (Xm e (Jd f))),Jy v (Jd k),λx=>?_⟩;have a:=p x;have b:ev y x=ev z x+ev (Jd w) x:=by rw[<-hz,XW];grind
  have G:=LO f k x;rw[<-W]at G;have h4:=S x;rw[Xk,Jm,Jm,Xk];grind
 have Qh:Dv d (Jy (Jd d) f):=by
  refine⟨JP e (Jd f),λx=>?_⟩;have a:r=Jy d f:=XY tr (JW _ _) λx=>by rw[Jm,D]
  have b:=LO d f x;rw[<-a,ee]at b;rw[Jm,XW];grind
 have Qn:ES k d:=by
  obtain⟨q1,q2,s,t,q3⟩:=Xx tk q;obtain⟨c,hc⟩:=iG q d0 Qh (d.length) (JA k d) (JZ _ _) O q2 (Qp.of_dv q1);refine⟨Jy s c,Jy t c,λx=>?_⟩;have a:=hc x;have b:=q3 x;have G:ev [1] x=1:=by simp[ev];grind
  rw[G]at a;rw[Jm,Jm];grind
 obtain⟨c1,c2,s,t,c3⟩:=Xx h.tw tr;have Qi:Dv f (JA w r):=Tk h.tw tr Qe ⟨d,λx=>by rw[D];grind⟩;have Qr:Dv (JA w r) f:=by
  obtain⟨u,v,p⟩:=Qn;refine c1.comb c2 u v λx=>?_;have a:=p x;rw[B,D];grind
 obtain⟨n,H⟩:=ex (JL w P);rw[H]at m1 K eW wP;have M:Jb n=n:=by rw[<-H];exact Yq _ _
 have Qs:Dv f n:=by
  obtain⟨c,hc⟩:=Qk;refine⟨c,λx=>?_⟩;have a:=XU (g:=P) (u:=n) (v:=Jy f c) j l (λx=>by
   grind[Jm])
  have b:=a x;rwa[Jm]at b
 have Ql:Dv n f:=by
  have k0:k≠[]:=λV=>h.w0 (by rw[W,V];exact Y3 _);obtain⟨c,hc⟩:=Qm;refine⟨c,λx=>?_⟩;have a:=XU (g:=k) (u:=f) (v:=Jy n c) tk k0 (λx=>by
   grind[Jm])
  have b:=a x;rwa[Jm]at b
 have hG:JA w r=n:=Dv.eq (JZ _ _) M (YX h.tw tr) m1 (Qr.trans Qs) (Ql.trans Qi);have Qq:Dv n w:=⟨P,λx=>by rw[wP];grind⟩;have Qa:JL w n=P:=by
  refine XY (Yq _ _) j λx=>?_;have a:=(YT M K Qq).2;refine XU (g:=n) (u:=JL w n) (v:=P) M K (λx=>?_) x;have b:=a x;have G:=wP x;grind
 rw[hr,hz,i,H];refine⟨hG,by rw[hG];exact Qa,⟨tr,r0,M,K,m1,Yq _ _,λx=>?_,?_⟩,Qf,Qt,eW⟩
 . refine(XU (g:=P) (u:=Jy (JL z P) r) (v:=Jy n (Jd r)) j l (λx=>?_) x |> λa=>by rwa[Jm,Jm]at a);grind[Jm]
 . have:=O9 h.tw N (by rw[i];exact l);rwa[i,H]at this
theorem Yun.start(tp:Jb p=p)(p0:p≠[])(d:Jt p=p):Yun p (JL p (JA p (Jd p))) (JL (Jd p) (JA p (Jd p))):=by
 have a:=JB p;obtain⟨g1,g2,_⟩:=Xx tp a;have b:=XI tp a (Am p0);obtain⟨c,_,f,e⟩:=LP tp p0 d (JZ _ _) (YX tp a) g1;have g:=(YT (JZ p (Jd p)) b g1).2;have i:=(YT (JZ p (Jd p)) b g2).2;refine⟨tp,p0,Yq _ _,f,c,Yq _ _,λx=>?_,O9 tp a b⟩;grind
end
def Cd(M:Nat)(p:Ja):Prop:=∃D:Int,D≠0/\Sm M D/\Dp D M p
section
variable {M N:Nat} {p q:Ja}
def Cd.mono(h:Cd M p)(a:M<=N):Cd N p:=by
 obtain⟨D,d1,b,c⟩:=h;exact⟨D,d1,b.mono a,λi=>(c i).mono a⟩
def Cd.smq(h:Cd M p)(i:Nat):DT M (cf p i):=by
 obtain⟨D,d1,a,b⟩:=h;exact(b i).smq d1 a
def Cd.ln(h:Cd M p):Ln M p:=by
 obtain⟨D,d1,b,a⟩:=h;exact a.ln d1
def Cd.sqs(h:Cd M p)(a:M<=1000000000):Sqs p:=Sqs.of λi=>Sq.of (h.smq i) a
theorem Cd.pos(h:Cd M p):1<=M:=by
 obtain⟨D,d1,b,_⟩:=h;by_cases a:1<=M
 . exact a
 . exfalso
   obtain rfl:M=0:=O
   grind[Sm]
def Cd.mon(h:Cd M p)(tp:Jb p=p):Cd M (Jt p):=Iu tp h.ln h.pos
def Cd.monS(h:Cd M p)(tp:Jb p=p)(b:M<=1000000000)(i:Nat):Sq (cf p i/cf p (p.length-1)):=by
 have a:=Ln.sqs tp h.ln h.pos i;unfold Jt at a;rw[Yo,FA,FI,<-FA]at a;exact Sq.of a b
def Cd.dvn(h:Cd M p)(f:Cd M q)(g:cf q (q.length-1)=1):∃D E:Int,Dvn D E E M M p q:=by
 obtain⟨D,d1,c,d⟩:=h;obtain⟨E,a,b,e⟩:=f;exact⟨D,E,d1,c,d,a,b,e,a,b,by rw[g,Rat.divInt_self' a]⟩
def Cd.quo(h:Cd M p)(e:Cd M q)(b:cf q (q.length-1)=1):Cd ((p.length+1)*(M+1)) (JL p q)/\Cd ((p.length+1)*(M+1)) (J0 p q):=by
 obtain⟨D,E,d⟩:=h.dvn e b;obtain⟨m,b⟩:=ex (p.length-(q.length-1));have a:=d.den m;have c:=d.rem b;have f:m*(M+1)<=p.length*(M+1):=Af _ O;have g:(p.length+1)*(M+1)=p.length*(M+1)+(M+1):=DX
 exact⟨⟨_,a.1,a.2.mono O,λi=>(c.2 i).mono O⟩,⟨_,a.1,a.2.mono O,λi=>(c.1 i).mono O⟩⟩
end
def PB{q:Ja}(tq:Jb q=q)(q0:q≠[])(a:Jt q=q):cf q (q.length-1)=1:=by
 have:=Mg tq q0;rwa[a]at this
def Df(p q:Ja):Ja:=if q=[]then []else JL p q
def iH(p q:Ja):Jb (Df p q)=Df p q:=by
 unfold Df;split
 . rfl
 . exact Yq _ _
theorem Cd.ov{M:Nat}{p q:Ja}(h:Cd M p)(b:Cd M q)(tq:Jb q=q)(c:Jt q=q):Cd ((p.length+1)*(M+1)) (Df p q):=by
 unfold Df;split
 . refine(show Cd 1 []from O5 O).mono ?_;grind
 . rename_i a;exact(h.quo b (PB tq a c)).1
def Em(p:Ja):Ja:=Jt (Df p (JA p (Jd p)))
namespace M3
variable{K:Nat}
def Chn.ends{p q:Ja}(d:ChOk K p q):∀(n:Nat) (a b:Ja),b.length<=n->Chn p q (DZ K p q) a b->∃r,Chn p q (DZ K p q) r []:=by
 intro n;induction n with
 |zero=>
  intro a b hl h;have c:b=[]:=Md O;subst c;exact⟨a,h⟩
 |succ n e=>
  intro a b hl h;by_cases c:b=[]
  . subst c;exact⟨a,h⟩
  . have f:=Mj (a:=a) h.tb c;exact e b (EK a b) O (Chn.next d.tp d.tq d.lp d.lq d.bd.2.2.1 h c)
def ChOk.gcd{p q:Ja}(a:ChOk K p q):Cd (DZ K p q) (JA p q):=by
 obtain⟨r,b⟩:=Chn.ends a _ _ _ (Aa _) (Chn.start a.tp a.tq a.lp a.lq a.bd.2.2.1);rw[<-b.gc,Ox];exact Iu b.ta b.wa.ln a.bd.2.2.2
def Tn(M:Nat)(v:I)(p:Ja)(w:X)(h:Jh w v p)(tp:Jb p=p)(b:Cd M p)(a:M<=1000000000):
 Calls C 26 #[v] w λe c=>∃u,e=.returned u/\Jh c u (Jt p)/\Bl w c:=
 Te v p w h (b.sqs a) tp λi=>b.monS tp a i
def iI(M:Nat)(v:I)(p:Ja)(w:X)(h:RowK false w v p)(tp:Jb p=p)(b:Cd M p)(a:M<=1000000000)(hl:p.length<=1000000000):
 Calls C 40 #[v] w λe c=>∃u,e=.returned u/\RowK false c u (Jt p)/\Bl w c:=
 O8 v p w h tp (b.sqs a) (λd=>by
  rw[FA,FI];exact Sq.of ((b.smq _).inv (Jv tp d)) a) O
def PC(M:Nat)(b c:I)(p q:Ja)(w:X)(f:RowK false w b p)(g:RowK false w c q)(hp:Cd M p)(hq:Cd M q)(tp:Jb p=p)(tq:Jb q=q)(q0:q≠[])(i:Jt q=q)(k:(p.length+3)*(M+1)<=1000000000)(hl:p.length<=1000):
 Calls C 41 #[b,c] w λe d=>∃u v,e=.returned (.tuple #[u,v])/\RowK false d u (JL p q)/\RowK false d v (J0 p q)/\Bl w d:=by
 obtain⟨D,E,a⟩:=hp.dvn hq (PB tq q0 i);have j:(p.length+3)*(M+1)=p.length*(M+1)+3*(M+1):=AR _ _ _;exact TU _ M b c p q w f g (a.divS p.length O) a.start a.sq tp tq q0 hl
def iJ(M:Nat)(a b:I)(p q:Ja)(w:X)(d:Jh w a p)(f:Jh w b q)(hp:Cd M p)(hq:Cd M q)(tp:Jb p=p)(tq:Jb q=q)(j:Jt q=q)(n:2*((p.length+3)*(M+1))<=1000000000):
 Calls C 22 #[a,b] w λe c=>∃u v,e=.returned (.tuple #[u,v,o (decide (q≠[]))])/\Jh c u (if q=[]then []else JL p q)/\Jh c v (if q=[]then []else J0 p q)/\Bl w c:=by
 have k:(p.length+3)*(M+1)=p.length*(M+1)+3*(M+1):=AR _ _ _;refine fI M a b p q w d f (hp.sqs O) hq.smq tp tq λq0=>?_;obtain⟨D,E,g⟩:=hp.dvn hq (PB tq q0 j);obtain⟨m,i⟩:=ex (p.length-(q.length-1));have l:m*(M+1)<=p.length*(M+1):=Af _ O;rw[i];exact g.sizes O
def LQ(M:Nat)(V W:I)(p q:Ja)(w:X)(y:Jh w V p)(z:Jh w W q)(hp:Cd M p)(hq:Cd M q)(tp:Jb p=p)(tq:Jb q=q)(T:Jt q=q)(N:2*((p.length+3)*(M+1))<=1000000000):
 Calls C 46 #[V,W] w λe w'=>∃u,e=.returned u/\Jh w' u (Df p q)/\Bl w w':=by
 obtain⟨j,la,k,rfl⟩:=y.form;obtain⟨l,lb,m,rfl⟩:=z.form;have s:=(((DL.nil w).push (.cell 25 (F j la k)) (cs:=#[F j la k]) ⟨J,J⟩).push (.cell 25 (F l lb m)) (cs:=#[F l lb m]) ⟨J,J⟩).push (.cell 25 (F none 0 0)) (cs:=#[F none 0 0]) ⟨J,J⟩;simp only[A1]at s;obtain⟨W0,t⟩:=ex (((w.alloc (A #[F j la k] 25)).alloc (A #[F l lb m] 25)).alloc (A #[F none 0 0] 25));have G:=Y t;have a:Hid (DL w W0 [some (w.heap.size,.cell 25 (F j la k)),some (w.heap.size+1,.cell 25 (F l lb m)),some (w.heap.size+1+1,.cell 25 (F none 0 0))]):=Y (by rw[<-t];exact s);have r:=Y (iJ M _ _ p q W0 (y.below a.o.2.2) (z.below a.o.2.2) hp hq tp tq T N);obtain⟨bq,P⟩:=ex (decide (q≠[]));rw[P,show(if q=[]then []else JL p q)=Df p q from J]at r;have c0:=(a.o.cell (i:=0) J).1.cell;have c1:=(a.o.cell (i:=1) J).1.cell;have n1:=(a.o.cell (i:=2) J).1;have D:=Y a.o.2.2;clear s t y z hp hq tp tq T N P a;go_enter func46,ntmps46
 go_upto_region 1 with fail
 rw[G.o];clear G;go_upto_region 2 with(go_at_call 22;refine r.o.mono ?_;clear r;rintro e n ⟨u4,v4,rfl,B,R,f⟩;obtain⟨b,c,c4,rfl⟩:=B.form;obtain⟨H,S,K,rfl⟩:=R.form)
 have d:Bl n ((n.alloc (A #[F b c c4] 25)).alloc (A #[F H S K] 25)):=(Ba n _).alloc (by rw[A1];omega) _;have nb:=(BK n 25 (F b c c4)).alloc (A #[F H S K] 25);have e5:=nb.cell;have g:=boxed_below (boxed_below n1 f) d;have x0:=g.cell;have x1:=g.frozen;have Qe:=Y (K3 g (x:=F b c c4) (B.below d));have Qd:=Y (((Bt D.o f).trans (d.mono (Al D.o.size f.size))).setCell (p:=⟨w.heap.size+1+1,0,none⟩) DX (F b c c4));clear c0 c1 B R f nb g d;go_wp2_with fail
 exact BA (v:=E #[F b c c4]) (by simp[results,results46,go_sem,x0]) J ⟨_,J,Qe.o,Qd.o⟩
structure FrOk(K:Nat)(p:Ja):Prop where
 ch:ChOk K p (Jd p)
 le:(p.length+3)*(DZ K p (Jd p)+1)*2<=1000000000
def FrOk.cd{p:Ja}(h:FrOk K p):Cd (DZ K p (Jd p)) p:=(show Cd K p from h.ch.cp).mono (by have:=Hn K p (Jd p);omega)
def FrOk.sl{p:Ja}(h:FrOk K p)(i:Nat):Sq (Ef p i):=by
 have b:=(show Cd K (Jd p)from h.ch.cq).sqs h.ch.bd.2.1;have a:=b.at i;unfold Jd at a;rwa[JR,IL]at a
def iK(K:Nat)(v:I)(p:Ja)(w:X)(h:Jh w v p)(m:FrOk K p):
 Calls C 16 #[v] w λe w'=>∃u,e=.returned u/\Jh w' u (Em p)/\Bl w w':=by
 obtain⟨j,la,k,rfl⟩:=h.form;have M0:=((DL.nil w).push (.cell 25 (F j la k)) (cs:=#[F j la k]) ⟨J,J⟩).push (.poly []) (cs:=#[F none 0 0]) (MP _);simp only[A1]at M0;obtain⟨W0,ae⟩:=ex ((w.alloc (A #[F j la k] 25)).alloc (A #[F none 0 0] 25));have Qc:=Y ae;have HP:=Y λ(V:X) (N:Bl w V)=>h.below N;have h9:=m.le;have h8:=m.ch.bd;have h7:(p.length+3)*(DZ K p (Jd p)+1)=(p.length+1)*(DZ K p (Jd p)+1)+2*(DZ K p (Jd p)+1):=by rw[<-AR]
 have Qa:=m.ch.gcd;have Qb:=YX m.ch.tp m.ch.tq;obtain⟨Qe,Qi,Qf,Qd⟩:=Do (λ(V:X) (N:Bl w V)=>Ot (E #[F j la k]) p V (h.below N) (m.cd.sqs h8.1) m.sl) (λ(V:X) (N:Bl w V) (y:I) (T:Jh V y (Jd p))=>O7 K (E #[F j la k]) y p (Jd p) V (h.below N) T m.ch) (λ(V:X) (N:Bl w V) (y:I) (T:Jh V y (JA p (Jd p)))=>LQ (DZ K p (Jd p)) (E #[F j la k]) y p (JA p (Jd p)) V (h.below N) T m.cd Qa m.ch.tp (JZ _ _) Qb O) λ(V:X) (y:I) (T:Jh V y (Df p (JA p (Jd p))))=>Tn ((p.length+1)*(DZ K p (Jd p)+1)) y (Df p (JA p (Jd p))) V T (iH _ _) (m.cd.ov Qa (JZ _ _) Qb) O;rw[show Jt (Df p (JA p (Jd p)))=Em p from J]at Qd;have M1:Hid (DL w W0 [some (w.heap.size,.cell 25 (F j la k)),some (w.heap.size+1,.poly ([]))]):=Y (by rw[<-ae];exact M0);clear M0 ae h m h9 h8 h7 Qa Qb;go_enter func16,ntmps16
 go_upto_region 1 with fail
 rw[Qc.o];clear Qc;refine JY Di [[],[],[],[2],[1,3,3],[0,4,4],[5,5],[6,6,0,1,2,3,4,5,6]] kS DN
  (λD ad V=>∃(ta tb tc td te tf tg:I) (W:Option (Nat × Dat)),ad={ tmps:=#[E #[F j la k],L (some ⟨w.heap.size,0,none⟩),L (some ⟨w.heap.size+1,0,none⟩),ta,tb,tc,td,te,tf,tg],defers:=[] }/\Hid ((D 0=true->ta=E #[F j la k])/\(D 1=true->tb=E #[F j la k])/\(D 2=true->tc=E #[F j la k])/\(D 3=true->Has V td (.poly (Jd p)))/\(D 4=true->Has V te (.poly (JA p (Jd p))))/\(D 5=true->Has V tf (.poly (Df p (JA p (Jd p)))))/\(D 6=true->Has V tg (.poly (Em p)))/\((D 7=false->W=some (w.heap.size+1,.poly ([])))/\(D 7=true->W=some (w.heap.size+1,.poly (Em p)))))/\Hid (DL w V [some (w.heap.size,.cell 25 (F j la k)),W]))
  ⟨_,_,_,_,_,_,_,_,J,Y ⟨DK,DK,DK,DK,DK,DK,DK,⟨λ_=>rfl,DK⟩⟩,Y (M1.o).drew⟩ ?step1 ?fin1
 case step1=>
  rintro D ad V i ds ai hi g ah ⟨ta,tb,tc,td,te,tf,tg,W,rfl,b,f⟩;have aj:i<8:=(Ar.1 hi).1;obtain rfl|rfl|rfl|rfl|rfl|rfl|rfl|rfl:=UO i O
  all_goals
   simp only[AH,AD,AO]at hi;subst hi
  . have e0:=(f.o.cell (i:=0) J).1.cell;clear g;refine Za ?_;exact⟨_,_,_,_,_,_,_,_,J,(Gf b),Y (f.o)⟩
  . have e0:=(f.o.cell (i:=0) J).1.cell;clear g;refine Za ?_;exact⟨_,_,_,_,_,_,_,_,J,(Gt b),Y (f.o)⟩
  . have e0:=(f.o.cell (i:=0) J).1.cell;clear g;refine Za ?_;exact⟨_,_,_,_,_,_,_,_,J,(Hu b),Y (f.o)⟩
  . obtain rfl:=(b.o.2.2.1 (g 2 DK));have M:=Y (Qe.o V f.o.2.2);clear g;refine Jj J J λK hK=>?_;go_simp;go_wp2_with(go_at_call 24;refine M.o.mono ?_;rintro e w5 ⟨v5,rfl,P,d⟩)
    obtain⟨q,s,_,_,z,B,G,H⟩:=b.o;exact⟨_,_,_,_,_,_,_,_,J,Y ⟨q,s,λ_=>rfl,λ_=>P,λh=>(z h).below d,λh=>(B h).below d,λh=>(G h).below d,H⟩,Y (f.o.below d)⟩
  . obtain rfl:=(b.o.2.1 (g 1 DK));have R:=(b.o.2.2.2.1 (g 3 DK));have M:=Y (Qi.o V f.o.2.2 _ R);clear g R;refine Jj J J λK hK=>?_;go_simp;go_wp2_with(go_at_call 8;refine M.o.mono ?_;rintro e w5 ⟨v5,rfl,P,d⟩)
    obtain⟨q,_,t,x,_,B,G,H⟩:=b.o;exact⟨_,_,_,_,_,_,_,_,J,Y ⟨q,λ_=>rfl,t,λh=>(x h).below d,λ_=>P,λh=>(B h).below d,λh=>(G h).below d,H⟩,Y (f.o.below d)⟩
  . obtain rfl:=(b.o.1 (g 0 DK));have R:=(b.o.2.2.2.2.1 (g 4 DK));have M:=Y (Qf.o V f.o.2.2 _ R);clear g R;refine Jj J J λK hK=>?_;go_simp;go_wp2_with(go_at_call 46;refine M.o.mono ?_;rintro e w5 ⟨v5,rfl,P,d⟩)
    obtain⟨_,s,t,x,z,_,G,H⟩:=b.o;exact⟨_,_,_,_,_,_,_,_,J,Y ⟨λ_=>rfl,s,t,λh=>(x h).below d,λh=>(z h).below d,λ_=>P,λh=>(G h).below d,H⟩,Y (f.o.below d)⟩
  . have h0:=((EU b) (g 5 DK));have M:=Y (Qd.o V _ h0);clear g h0;refine Jj J J λK hK=>?_;go_simp;go_wp2_with(go_at_call 26;refine M.o.mono ?_;rintro e w5 ⟨v5,rfl,P,d⟩)
    obtain⟨q,s,t,x,z,B,_,H⟩:=b.o;exact⟨_,_,_,_,_,_,_,_,J,Y ⟨q,s,t,λh=>(x h).below d,λh=>(z h).below d,λh=>(B h).below d,λ_=>P,H⟩,Y (f.o.below d)⟩
  . obtain rfl:=EX b ah;have hv:=((EW b) (g 6 DK));obtain⟨a1,l1,c1,rfl⟩:=Jh.form (show Jh V _ _ from hv);obtain⟨a,l,c,n,r⟩:=f.o.poly2 (i:=1) J;have e0:=n.cell;have f0:=n.frozen;clear g;refine Za ?_;obtain⟨q,s,t,x,z,B,G,_⟩:=b.o;exact⟨_,_,_,_,_,_,_,_,J,Y ⟨q,s,t,λh=>(x h).set1 n J _,λh=>(z h).set1 n J _,λh=>(B h).set1 n J _,λh=>(G h).set1 n J _,⟨λh=>by simp at h,λ_=>rfl⟩⟩,Y (f.o.putPoly (i:=1) J hv)⟩
 rintro D ad V2 S ⟨ta,tb,tc,td,te,tf,tg,W,rfl,b,f⟩;obtain rfl:=b.o.2.2.2.2.2.2.2.2 (S 7 DN);obtain rfl:=b.o.1 (S 0 DN);obtain rfl:=b.o.2.1 (S 1 DN);obtain rfl:=b.o.2.2.1 (S 2 DN);clear b S M1;have M2:Hid (DL w V2 [some (w.heap.size,.cell 25 (F j la k)),some (w.heap.size+1,.poly (Em p))]):=f;clear f;obtain⟨a3,l3,c3,n3,r3⟩:=M2.o.poly2 (i:=1) J;have Qh:=n3.cell;have Qg:=Y M2.o.2.2;go_wp2_with fail
 exact BA (v:=E #[F a3 l3 c3]) (by simp[results,results16,go_sem,Qh]) J ⟨_,J,r3,Qg.o⟩
theorem iL(K:Nat)(v:I)(p:Ja)(w:X)(h:RowK false w v p)(b:FrOk K p):
 Calls C 17 #[v] w λe t=>∃u,e=.returned u/\RowK false t u (Em p)/\Bl w t:=by
 obtain⟨a,la,ca,rfl⟩:=h.form;obtain⟨s,N,P,ah,_⟩:=h.formsF;by_cases c:p=[]
 . have ae:(la:Int)=0:=by rw[s,c];rfl
   have x:=Y (show RowK false w (F a la ca) (Em p)by rw[c]at h ⊢;exact h);clear h c b;go_enter func17,ntmps17
   go_wp2_with fail
   go_ret;exact⟨_,J,x.o,BB _ _⟩
 . have ad:¬(la:Int)=0:=by have:=Ac.2 c;omega
   have D:=b.le;have r:=b.ch.bd;have B:(p.length+3)*(DZ K p (Jd p)+1)=(p.length+1)*(DZ K p (Jd p)+1)+2*(DZ K p (Jd p)+1):=by rw[<-AR]
   have f:=b.ch.gcd;have j:=YX b.ch.tp b.ch.tq;have i:=XI b.ch.tp b.ch.tq (Am c);have z:=b.ch.ln;have k:Df p (JA p (Jd p))=JL p (JA p (Jd p)):=BH i;obtain⟨m,q,n⟩:=Dc (dS _ p w h (b.cd.sqs r.1) O) (λ(V:X) (l:Bl w V) (y:I) (d:RowK false V y (Jd p))=>Ti K _ y p (Jd p) V (h.below l) d b.ch) λ(V:X) (l:Bl w V) (y:I) (d:RowK false V y (JA p (Jd p)))=>PC (DZ K p (Jd p)) _ y p (JA p (Jd p)) V (h.below l) d b.cd f b.ch.tp (JZ _ _) i j O O;have g:=Y (λ(V:X) (y:I) (d:RowK false V y (JL p (JA p (Jd p))))=>iI ((p.length+1)*(DZ K p (Jd p)+1)) y (JL p (JA p (Jd p))) V d (Yq _ _) (by rw[<-k];exact b.cd.ov f (JZ _ _) j) O (by
    grind[JL,Yk,Y0]))
   rw[show Jt (JL p (JA p (Jd p)))=Em p by unfold Em;rw[k]]at g;clear h c b D r B f j i z k s N P;go_enter func17,ntmps17
   go_wp2_with(first
    |(go_at_call 47;refine m.o.mono ?_;clear m;rintro e w1 ⟨u1,rfl,R,hq⟩)
    |(go_at_call 13;refine(q.o _ hq _ R).mono ?_;clear q;rintro e w2 ⟨u2,rfl,S,G⟩;have hq:=Bt hq G)
    |(go_at_call 41;refine(n.o _ hq _ S).mono ?_;clear n;rintro e w3 ⟨u3,v3,rfl,T,ai,H⟩;have hq:=Bt hq H)
    |(go_at_call 40;refine(g.o _ _ T).mono ?_;clear g;rintro e w4 ⟨u4,rfl,W,M⟩;have hq:=Bt hq M))
   go_ret;exact⟨_,J,W,hq⟩
end M3
variable{cs:List I}{base t:Nat}{v:I}{W W':X}
def Tryz.infoPart:(Tryz.prog.info? 44).map (λi=>(i.zero,i.size,i.bytes))=some (some (E #[F none 0 0,Q U 0]),2,32):=by kernel_rfl
def Tryz.infoRPart:(Tryz.prog.info? 46).map (λi=>(i.zero,i.size,i.bytes))=some (some (E #[F none 0 0,Q U 0]),2,32):=by kernel_rfl
def Dz(r:Bool):TypeId:=match r with|true=>44|false=>46
def GF(r:Bool):TypeId:=match r with|true=>39|false=>41
def zP:Array I:=#[F none 0 0,.int U 0]
def iM(r:Bool):Tryz.prog.underlying (GF r)=some (.slice (Dz r)):=by
 cases r with
 |true=>exact underlying39
 |false=>exact underlying41
def iN(r:Bool):∃i,Tryz.prog.info? (Dz r)=some i/\i.zero=some (E zP)/\i.size=2/\i.bytes=32:=by
 cases r with
 |true=>
  obtain⟨i,a,b,c,d⟩:=Bn Tryz.infoPart;exact⟨i,a,b,c,d⟩
 |false=>
  obtain⟨i,a,b,c,d⟩:=Bn Tryz.infoRPart;exact⟨i,a,b,c,d⟩
def GX(r:Bool)(W W':X):Prop:=∀B,B<W.heap.size->(∀cs m,W.heap[B]?≠some (A cs (Dz r) m))->W'.heap[B]?=W.heap[B]?
theorem GX.at{r:Bool}(h:GX r W W'){B:Nat}{cs:Array I}{t:TypeId}{m:Nat × Nat}(a:W.heap[B]?=some (A cs t m))(c:t≠Dz r):W'.heap[B]?=W.heap[B]?:=
 h B (Ab.1 a).1 λb d e=>by
  grind
def iO(k:IntKind)(r:Bool):NR k≠Dz r:=by cases r<;>cases k<;>decide
def iP(k:Bool)(r:Bool):Dr k≠Dz r:=by cases r<;>cases k<;>decide
def GX.row{r:Bool}(h:GX r W W'){k:IntKind}{ds:kQ}(q:Row k W v ds):Row k W' v ds:=by
 obtain⟨a,c,e,g1,g2,i,g4⟩:=q;refine⟨a,c,e,g1,g2,i,?_⟩;rcases g4 with g4|⟨b,s,g,f,n⟩
 . exact Am g4
 . obtain⟨cs,m,l⟩:=id f;have d:=h.at l (iO k r);refine Ax ⟨b,s,g,f.of d,λj p=>?_⟩;rw[<-n j p];simp only[World.cell?,d]
def GX.rowK{r:Bool}(h:GX r W W'){k:Bool}{qs:Ja}(D:RowK k W v qs):RowK k W' v qs:=by
 obtain⟨a,cap,e,p,q,s,c⟩:=D;refine⟨a,cap,e,p,q,s,?_⟩;rcases c with c|⟨b,n,cs,d,w⟩
 . exact Am c
 . refine Ax ⟨b,n,cs,(h.at d (iP k r)).trans d,λj B=>?_⟩;obtain⟨x,y,z,u,f,i,l,m,t⟩:=w j B;exact⟨x,y,z,u,f,i,l,m,t.keep λ_ _ _ g=>h.row g⟩
def GG(r:Bool)(W:X)(cs:List I)(L:List (Ja × Nat)):Prop:=
 cs.length=L.length*2/\∀j p t,L[j]?=some (p,t)->∃x,cs[j*2]?=some x/\cs[j*2+1]?=some (.int U (t:Int))/\RowK r W x p
theorem GG.keep{r:Bool}{L:List (Ja × Nat)}(h:GG r W cs L)(d:∀v qs,RowK r W v qs->RowK r W' v qs):GG r W' cs L:=by
 refine⟨h.1,λj p t e=>?_⟩;obtain⟨x,a,b,c⟩:=h.2 j p t e;grind
def GG.below{r:Bool}{W W':X}{cs:List I}{L:List (Ja × Nat)}(h:GG r W cs L)(a:Bl W W'):GG r W' cs L:=h.keep λ_ _ g=>g.below a
theorem GG.snoc{r:Bool}{L:List (Ja × Nat)}(h:GG r W cs L){x:I}{p:Ja}(f:RowK r W x p):GG r W (cs++[x,Q U (t:Int)]) (L++[(p,t)]):=by
 refine⟨by simp[h.1];omega,λj g i e=>?_⟩;by_cases c:j<L.length
 . rw[List.getElem?_append_left c]at e;obtain⟨y,k,l,m⟩:=h.2 j g i e;grind
 . rw[Cz O]at e;obtain⟨d,b⟩:=ex (j-L.length);rw[b]at e;cases d with
   |succ d=>simp at e
   |zero=>
    simp at e;obtain⟨rfl,rfl⟩:=e;have a:j=L.length:=O
    subst a;refine⟨x,?_,?_,f⟩
    . rw[Cz (by have:=h.1;omega),h.1,A7];rfl
    . rw[Cz (by have:=h.1;omega),h.1,show L.length*2+1-L.length*2=1 by omega];rfl
def XE(r:Bool)(base:Nat)(W:X)(v:I)(L:List (Ja × Nat)):Prop:=
 (v=F none 0 0/\L=[])\/∃g cap a,v=F (some ⟨g,0,none⟩) L.length cap/\base<=g/\W.heap[g]?=some (A a (Dz r) (0,0))/\L.length<=cap/\cap<=maxLen/\a.size=cap*2/\GG r W (a.toList.take (L.length*2)) L
theorem XE.nil(r:Bool)(base:Nat)(W:X):XE r base W (F none 0 0) []:=Am ⟨J,J⟩
def XE.below{r:Bool}{base:Nat}{W W':X}{v:I}{L:List (Ja × Nat)}(h:XE r base W v L)(b:Bl W W'):XE r base W' v L:=by
 rcases h with h|⟨g,cap,c,d,e,a,f,i,j,k⟩
 . exact Am h
 . exact Ax ⟨g,cap,c,d,e,(b.block g (Ab.1 a).1).trans a,f,i,j,k.below b⟩
theorem XE.form{r:Bool}{L:List (Ja × Nat)}(h:XE r base W v L):∃a c,v=F a L.length c/\L.length<=c/\c<=maxLen:=by
 rcases h with⟨rfl,rfl⟩|⟨g,cap,b,rfl,_,_,d,e,_⟩
 . exact⟨none,0,J,DK,by unfold maxLen;omega⟩
 grind
theorem XE.set{r:Bool}{L:List (Ja × Nat)}(h:XE r base W v L){B:Nat}{a:kR}{l c:Nat}(b:Boxed W B 25 (F a l c)){u:I}(s:∀v qs,RowK r W v qs->RowK r (W.setCell ⟨B,0,none⟩ u) v qs):XE r base (W.setCell ⟨B,0,none⟩ u) v L:=by
 rcases h with h|⟨g,cap,f,i,j,k,m,n,p,q⟩
 . exact Am h
 . have d:g≠B:=λe=>by
    subst e;have t:W.heap[g]?=some (A #[F a l c] 25 (0,0)):=b;grind
   exact Ax ⟨g,cap,f,i,j,(BD W ⟨B,0,none⟩ u g d).trans k,m,n,p,q.keep s⟩
theorem To(r:Bool)(base:Nat)(W:X)(v:I)(L:List (Ja × Nat))(h:XE r base W v L){a:kR}{l c:Nat}{p:Ja}(hx:RowK r W (F a l c) p)(hl:L.length+1<=1099511627776)(S:base<=W.heap.size):
 ∃v' y,(Builtin.append_ #[GF r,GF r] (GF r) #[v,F (some ⟨W.heap.size,0,none⟩) 1 1]).run C (W.alloc (A #[F a l c,Q U (t:Int)] (Dz r)))=.ok v' y/\XE r base y v' (L++[(p,t)])/\GX r W y/\(∀n w0,n<=base->Below n w0 W->Below n w0 y)/\W.heap.size<=y.heap.size:=by
 obtain⟨i,T,hz,x,ae⟩:=iN r;have V:=iM r;have f:Bl W (W.alloc (A #[F a l c,Q U (t:Int)] (Dz r))):=Ba W _;obtain⟨b,ad⟩:=ex (W.alloc (A #[F a l c,Q U (t:Int)] (Dz r)));have am:b.heap[W.heap.size]?=some (A #[F a l c,Q U (t:Int)] (Dz r) (0,0)):=by rw[<-ad];exact BC W _
 rw[ad]at f ⊢;have Qi:=hx.below f;have D:∀j c',[Value.slice a l c,Q U (t:Int)][j]?=some c'->b.cell? ((⟨W.heap.size,0,none⟩:Addr).add j)=some c':=λj c' w=>by
  grind[Y6,cell_of]
 have Qf:∀c'∈[Value.slice a l c,Q U (t:Int)],c'.oneCell'=true:=λc' w=>by
  simp at w;rcases w with rfl|rfl<;>rfl
 have Ql:(Value.agg zP).cells=zP:=rfl;have an:zP.size=2:=rfl;have grown:∀(cs:List I) (u:Nat) (m:Nat),m=L.length+1->GG r b (cs++[F a l c,Q U (t:Int)]) (L++[(p,t)])->cs.length=L.length*2->
  XE r base (b.drew.alloc (A (cs.toArray++[Value.slice a l c,Q U (t:Int)].toArray++Builtin.zeroCells zP (grownCap b m u (Dz r)-m)) (Dz r))) (F (some ⟨b.heap.size,0,none⟩) m (grownCap b m u (Dz r))) (L++[(p,t)]):=by
  intro cs u m hm w K;subst hm;have ak:=grownCap_ge b (L.length+1) u (Dz r);have Qn:=grownCap_le_maxLen b (L.length+1) u (Dz r) (by unfold maxLen;omega);have Qo:Bl b (b.drew.alloc (A (cs.toArray++[Value.slice a l c,Q U (t:Int)].toArray++Builtin.zeroCells zP (grownCap b (L.length+1) u (Dz r)-(L.length+1))) (Dz r))):=((BB _ b).drew).alloc (Aa _) _;refine Ax ⟨b.heap.size,_,_,DX,Al S f.size,BC b.drew _,DX,Qn,?_,?_⟩
  . grind[size_zeroCells,AK]
  . have e:(cs.toArray++[Value.slice a l c,Q U (t:Int)].toArray++Builtin.zeroCells zP (grownCap b (L.length+1) u (Dz r)-(L.length+1))).toList.take ((L++[(p,t)]).length*2)=cs++[F a l c,Q U (t:Int)]:=by
     simp only[Array.toList_append];have G:(L++[(p,t)]).length*2=(cs++[Value.slice a l c,Q U (t:Int)]).length:=by simp;omega
     rw[G];exact List.take_left
    rw[e];exact w.below Qo
 have fin:∀o,GX r W (b.drew.alloc o)/\(∀n w0,n<=base->Below n w0 W->Below n w0 (b.drew.alloc o))/\W.heap.size<=(b.drew.alloc o).heap.size:=λo=>by
  have H:Bl W (b.drew.alloc o):=(f.drew).alloc (by exact f.size) _;exact⟨λB z _=>H.block B z,λn w0 q R=>R.trans (H.mono (Al q S)),H.size⟩
 rcases h with⟨rfl,rfl⟩|⟨g,cap,d,rfl,h2,M,h4,h5,h6,h7⟩
 . have s:=run_append_nil (P:=C) b (GF r) (GF r) (Dz r) i _ V T hz ⟨W.heap.size,0,none⟩ 1 1 [F a l c,Q U (t:Int)] (by rw[x];rfl) D O O (by rw[ae];omega);rw[Ql]at s;refine⟨_,_,s,?_,fin _⟩;have:=grown [] 0 1 J (by rw[Aj];exact GG.snoc (cs:=[]) (L:=[]) ⟨J,λj p t e=>by simp at e⟩ Qi) J;simpa using this
 . have N:b.heap[g]?=some (A d (Dz r) (0,0)):=(f.block g (Ab.1 M).1).trans M;have K:(d.toList.take (L.length*2)).length=L.length*2:=by rw[Ah];have h0:d.toList.length=d.size:=C1;omega
   have Qk:=(h7.below f).snoc (t:=t) Qi;by_cases aj:L.length+1<=cap
   . have s:=run_append_room (P:=C) b (GF r) (GF r) (Dz r) i V T g L.length cap d N ⟨W.heap.size,0,none⟩ 1 1 [F a l c,Q U (t:Int)] (by rw[x];rfl) D Qf aj (by rw[x];simp;omega);rw[x]at s;obtain⟨k,ah⟩:=ex ((d.toList.take (L.length*2)++[Value.slice a l c,Q U (t:Int)]++d.toList.drop (L.length*2+[Value.slice a l c,Q U (t:Int)].length)).toArray);rw[ah]at s;have Qm:=setRow_heap b g d k (Dz r) (0,0) N;have Qc:GX r b (b.setRow g k):=λB z q=>setRow_other b g B k λe=>q d (0,0) (by rw[e];exact N);have Qe:b.heap.size<=(b.setRow g k).heap.size:=(below_setRow (B:=0) (BB _ b) (As _) k).size;refine⟨_,_,s,?_,λB z q=>?_,λn w0 q R=>below_setRow (R.trans (f.mono (Al q S))) (Al q h2) k,Al f.size Qe⟩
     . refine Ax ⟨g,cap,k,DX,h2,Qm,DX,h5,?_,?_⟩
       . grind
       . have e:k.toList.take ((L++[(p,t)]).length*2)=d.toList.take (L.length*2)++[F a l c,Q U (t:Int)]:=by
          rw[<-ah];have G:(L++[(p,t)]).length*2=(d.toList.take (L.length*2)++[Value.slice a l c,Q U (t:Int)]).length:=by simp[K];omega
          rw[G];exact List.take_left
         rw[e];exact Qk.keep λ_ _ g=>Qc.rowK g
     . have Qj:B≠g:=λe=>q d (0,0) (by rw[e];exact M);exact(setRow_other b g B k Qj).trans (f.block B z)
   . have ai:∀j c',(d.toList.take (L.length*2))[j]?=some c'->b.cell? ((⟨g,0,none⟩:Addr).add j)=some c':=λj c' w=>by
      grind[Y6,cell_of]
     have s:=run_append_grow (P:=C) b (GF r) (GF r) (Dz r) i _ V T hz ⟨g,0,none⟩ L.length cap (d.toList.take (L.length*2)) (by rw[x];exact K) ai ⟨W.heap.size,0,none⟩ 1 1 [F a l c,Q U (t:Int)] (by rw[x];rfl) D O O (by rw[ae];exact growslice_fits O O);grind
namespace M3
def DL.farP{w W W':X}{bs:List (Option (Nat × Dat))}{r:Bool}(M:DL w W bs)(a:GX r W W')(e:Bl w W')(f:∀(i:Nat) B d,bs[i]?=some (some (B,d))->d.ty≠Dz r):DL w W' bs:=by
 refine⟨λi B d h=>?_,M.2.1,e⟩;obtain⟨⟨cs,b,c⟩,j⟩:=M.1 i B d h;exact⟨⟨cs,(a.at b (f i B d h)).trans b,c.keep (λ_ _ _ g=>a.row g) (Ax λ_ _ g=>a.rowK g)⟩,j⟩
end M3

