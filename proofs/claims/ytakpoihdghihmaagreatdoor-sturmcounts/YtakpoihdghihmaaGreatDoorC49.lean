import Derived.Test.YtakpoihdghihmaaGreatDoorC48
open Go.Value renaming slice->C,bool->E,string->L
open Go renaming undef->B,World->G,Value->I
open Go.Obj renaming cells->F
open Go.Proofs.Tryz renaming prog->H
set_option maxRecDepth 100000
set_option maxHeartbeats 16000000
namespace Go.Proofs.YtakpoihdghihmaaGreatDoor
attribute [local go_sem] Oper.semAt_some
namespace M3
open Go.RowKit Go.Shelf
theorem li(J K X:Nat)(va vx vy:I)(p:List Rat)(x y:Rat)(w:G)(S:RowK false w va p)(T:Jl w vx x)(U:Jl w vy y)(af:p≠[]->RtOk J K X p)(Q:Db X x)(R:Db X y)(ae:X<=1000000):
 Calls H 21 #[va,vx,vy] w λe b=>e=.returned (.int .i64 (Ij p x y))/\Bl w b:=by
 obtain⟨a,la,ca,rfl⟩:=S.form;have Qe:=S.formsF.1;obtain⟨k,s,n,xs,l,q,o,t,rfl⟩:=Jl.form T;obtain⟨ya,yl,yc,ys,yb,yk,yd,yt,rfl⟩:=Jl.form U;have Qd:Bl w (w.alloc (F #[C k s n,E xs,C l q o,E t] 47)):=Ba w _;have Qc:Below (w.alloc (F #[C k s n,E xs,C l q o,E t] 47)).heap.size (w.alloc (F #[C k s n,E xs,C l q o,E t] 47)) ((w.alloc (F #[C k s n,E xs,C l q o,E t] 47)).alloc (F #[C ya yl yc,E ys,C yb yk yd,E yt] 47)):=Ba _ _;have W:=(JF.new w 47 (C k s n) (E xs) (C l q o) (E t)).below Qc;have N:=JF.new (w.alloc (F #[C k s n,E xs,C l q o,E t] 47)) 47 (C ya yl yc) (E ys) (C yb yk yd) (E yt);rw[Ax]at N;have c:=Bt Qd Qc;by_cases p0:p=[]
 . have aq:(la:Int)=0:=by rw[Qe,p0];rfl
   have e:Ij p x y=-1:=by unfold Ij;rw[BC p0]
   rw[e];have HA:=Y c;clear S T U af p0 Qe e c Qd Qc W N Q R;go_enter Tryz.func21,Tryz.ntmps21
   go_wp2_with fail
   go_ret;exact⟨rfl,HA.o⟩
 . obtain⟨m,rfl⟩:∃m,la=m+1:=⟨la-1,by have:=Ae.2 p0;omega⟩;have h:=af p0;obtain⟨d,ad⟩:=ex ((w.alloc (F #[C k s n,E xs,C l q o,E t] 47)).alloc (F #[C ya yl yc,E ys,C yb yk yd,E yt] 47));rw[ad]at c W N;obtain⟨Qf,HA,HN,HM,Qb⟩:=He ad c W N (show Calls H 60 _ d λe b=>e=.returned (.int .i64 (GD x y))/\Bl d b from ec _ _ x y d (T.below c) (U.below c) (Sq.of Q ae) (Sq.of R ae));obtain⟨r,hr⟩:=ex (GD x y);rw[hr]at Qb;have Qa:=@VK x y;rw[hr]at Qa;obtain⟨f,g,i,j⟩:=W.cq;obtain⟨v,A,D,M⟩:=N.cq;by_cases hle:y<=x
   . have e:Ij p x y=0:=by unfold Ij;rw[BB p0,BC hle]
     rw[e];have Qh:0<=r:=Qa.2 hle;clear S T U af p0 Qe e c Qd Qc W N Q R ad hr Qa hle h;go_enter Tryz.func21,Tryz.ntmps21
     go_upto_region 1 with fail
     rw[Qf.o];clear Qf;go_wp2_with(go_at_call 60;refine Qb.o.mono ?_;clear Qb;rintro e w5 ⟨rfl,ah⟩;clear f g i j v A D M)
     go_ret;exact⟨rfl,Bt HA.o ah⟩
   . have Qh:r<0:=Int.not_le.1 λh=>hle (Qa.1 h);obtain⟨Qg,HD,HU⟩:=Df (λ(V:G) (hB:Bl d V)=>QM J K _ p V ((S.below c).below hB) h.rok) (λ(V:G) (u:I) (cs:List I) (base:Nat) (h1:Yq 29 base V u cs) (h2:E0 V cs (Yp p)) (hB:Bl d V)=>QN u _ (Yp p) x cs base V h1 h2 ((T.below c).below hB) (Sq.of Q ae) (λz hz=>(h.row z hz).2 x Q) h.len) λ(V:G) (u:I) (cs:List I) (base:Nat) (h1:Yq 29 base V u cs) (h2:E0 V cs (Yp p)) (hB:Bl d V)=>QN u _ (Yp p) y cs base V h1 h2 ((U.below c).below hB) (Sq.of R ae) (λz hz=>(h.row z hz).2 y R) h.len;have l1:=Am (LX (Yp p) (λz=>De (ev z x)) λ_=>Hj _) h.len;have l2:=Am (LX (Yp p) (λz=>De (ev z y)) λ_=>Hj _) h.len;have e:Ij p x y=(XW ((Yp p).map λz=>De (ev z x)):Int)-(XW ((Yp p).map λz=>De (ev z y)):Int):=by unfold Ij;rw[BB p0,BB hle,LW,LW]
     rw[e];obtain⟨k1,aj⟩:=ex (XW ((Yp p).map λz=>De (ev z x)));obtain⟨k2,ak⟩:=ex (XW ((Yp p).map λz=>De (ev z y)));rw[aj]at HD l1 ⊢;rw[ak]at HU l2 ⊢;have aw:IntKind.i64.wrap ((k1:Int)-(k2:Int))=(k1:Int)-(k2:Int):=by rw[BL];omega
     clear S af p0 Qe e h aj ak T U Q R c Qd Qc W N ad hr Qa hle;go_enter Tryz.func21,Tryz.ntmps21
     go_upto_region 1 with fail
     rw[Qf.o];clear Qf;have hq:=BA d.heap.size d;go_upto_region 6 with(first
      |(go_at_call 60;refine Qb.o.mono ?_;clear Qb;rintro e w4 ⟨rfl,am⟩;have hq:=Bt hq am;clear f g i j v A D M)
      |(go_at_call 49;refine(Qg.o _ hq).mono ?_;clear Qg;rintro e w5 ⟨u5,rfl,⟨cs,P,r5⟩,ah⟩;obtain⟨a5,c5,ap,_,_⟩:=P.form;subst ap;have hq:=Bt hq ah))
     replace hq:=hq.drew;replace P:=P.below (BA _ w5).drew;replace r5:=r5.keep λ_ _ h=>h.below (BA _ w5).drew;obtain⟨f,g,i,j⟩:=(HN.o.below hq).cq;obtain⟨v,A,D,M⟩:=(HM.o.below hq).cq;go_region_held3 (λb=>b.cell? ⟨w.heap.size,0,none⟩=some (C k s n)/\b.cell? ⟨w.heap.size,1,none⟩=some (E xs)/\b.cell? ⟨w.heap.size,2,none⟩=some (C l q o)/\b.cell? ⟨w.heap.size,3,none⟩=some (E t)/\b.cell? ⟨w.heap.size+1,0,none⟩=some (C ya yl yc)/\b.cell? ⟨w.heap.size+1,1,none⟩=some (E ys)/\b.cell? ⟨w.heap.size+1,2,none⟩=some (C yb yk yd)/\b.cell? ⟨w.heap.size+1,3,none⟩=some (E yt)) (first|(with_reducible exact⟨f,g,i,j,v,A,D,M⟩)|(go_keep;done))
      (first
       |(go_at_call 52;refine(HD.o _ _ _ _ P r5 hq).mono ?_;clear HD;rintro e w6 ⟨rfl,ai⟩;have P:=P.below ai;have r5:=r5.keep λ_ _ h=>h.below ai;have hq:=Bt hq ai;clear f g i j v A D M;obtain⟨f,g,i,j⟩:=(HN.o.below hq).cq;obtain⟨v,A,D,M⟩:=(HM.o.below hq).cq)
       |(go_at_call 52;refine(HU.o _ _ _ _ P r5 hq).mono ?_;clear HU;rintro e w7 ⟨rfl,an⟩;have hq:=Bt hq an;clear f g i j v A D M;obtain⟨f,g,i,j⟩:=(HN.o.below hq).cq;obtain⟨v,A,D,M⟩:=(HM.o.below hq).cq))
     go_wp2_with fail
     go_ret;exact⟨rfl,Bt HA.o hq⟩
theorem lj(va:I)(p:List Rat)(w:G)(r:RowK false w va p)(hl:p.length<=1000000):
 Calls H 19 #[va] w λe w'=>e=.returned (.int .i64 (Dl p.reverse:Int))/\Bl w w':=by
 obtain⟨a9,la,c9,rfl⟩:=r.form;obtain⟨X,ae,af,am,s,t,aa,bb,ll,cc,kk,dd,U⟩:=r.formsF;have ak:(la:Int)<=1000000:=O
 have A:=Y U;have i:=Y λ(V:G) (u:I) (h:Yq 3 w.heap.size V u ((p.reverse.map De).map GF))=>PN (p.reverse.map De) u w.heap.size V h (λs hs=>by obtain⟨p,_,rfl⟩:=CJ.1 hs;exact Hj _) (by rw[Cs,List.length_reverse];exact hl);rw[KZ]at i;obtain⟨N,S⟩:=ex (Dl p.reverse);rw[S]at i ⊢;have j:=Y X;clear r U X ae af hl S;go_enter Tryz.func19,Tryz.ntmps19
 go_wp2;go_loopw [3,4] (λsv x wr=>∃(k:Nat) (a:Option Addr) (l c:Nat),k<=la/\x=.int .i64 ((la:Int)-1-k)/\sv=C a l c/\Hid (Yq 3 w.heap.size wr (C a l c) (((p.reverse.take k).map De).map GF)/\Bl w wr)) λ_ x _=>(intOf x+1).toNat
 case atStart=>exact⟨0,_,_,_,Az _,Z,rfl,Y ⟨Yq.nil _ _ _,BA _ _⟩⟩
 case round=>
  obtain⟨k,a,l,c,hk,rfl,rfl,b⟩:=hrel;by_cases an:k<la
  . obtain⟨m,hm⟩:=ex (la-1-k:Nat);have o:(la:Int)-1-k=(m:Int):=O
    have ap:(m:Int)<(la:Int):=O
    obtain⟨W,q,rfl,d,K,M,P,Q⟩:=A.o m O;have e0:=(b.o.2.cell (p:=⟨q,_,none⟩) d).trans K;have e1:=(b.o.2.cell (p:=⟨q,_,none⟩) d).trans M;have e2:=(b.o.2.cell (p:=⟨q,_,none⟩) d).trans P;have e3:=(b.o.2.cell (p:=⟨q,_,none⟩) d).trans Q;have g:=Y (L0 _ (cf p m) wr (W.below b.o.2));rw[show(cf p m).num.sign=De (cf p m)from rfl]at g;have z:=Y (show(p.reverse.take (k+1)).map De=(p.reverse.take k).map De++[De (cf p m)]from by
     have D:k<p.reverse.length:=by rw[List.length_reverse];have:=j.o;omega
     rw[<-List.take_append_getElem D,List.map_append];have Qj:p.reverse[k]=cf p m:=by
      have R:p.reverse[k]?=some p.reverse[k]:=Af D;rw[List.getElem?_reverse (by have:=j.o;omega)]at R;rw[cf,show m=p.length-1-k by have:=j.o;omega,R];rfl
     rw[Qj];rfl)
    have Qi:=Y (show((p.reverse.take k).map De).length+1<=1099511627776 from by rw[Cs,Ak];omega);have HK:=Y (show(la:Int)-1-((k+1:Nat):Int)=(m:Int)-1 by omega);obtain⟨n,hn⟩:=ex (De (cf p m));rw[hn]at g z;rw[o];have aq:(m:Int)<=1000000:=O
    clear W d K M P Q hn hm o A;go_wp2_with(first
     |(go_at_call 58;refine g.o.mono ?_;clear g;rintro e w6 ⟨rfl,f⟩;clear e0 e1 e2 e3;obtain⟨ah,ai,aj,w9,ad,v,T⟩:=MK (b.o.1.below f) (Bt b.o.2 f) n Qi.o)
     |(at_builtin;refine BU _ rfl _ _ 43 43 rfl _ _ rfl rfl _ _ ad ?_;clear ad))
    rw[<-z.o]at v;have Qh:=Y (And.intro v T);clear v T f b;go_roundw
    case rel=>exact⟨k+1,ah,ai,aj,O,by rw[HK.o],rfl,Qh⟩
    case measure=>simp[intOf]
  . obtain rfl:k=la:=O
    have o:(k:Int)-1-k=-1:=O
    rw[o];have y:=Y (i.o wr _ (by have h:=b.o.1;rw[Ac (by rw[List.length_reverse,<-j.o];exact Aa _)]at h;exact h));have HB:=Y b.o.2;clear b i;go_wp2_with(go_at_call 59;refine y.o.mono ?_;clear y;rintro e w6 ⟨rfl,f⟩)
    go_ret;exact⟨rfl,Bt HB.o f⟩
theorem Zc{W V:G}{b k j:Nat}{t t1 t2:TypeId}{v x y z u x1 y1 z1 u1:I}(p:Boxed W b t v)(q:JF W k t1 x y z u)(r:JF W j t2 x1 y1 z1 u1)(h:Below W.heap.size W V):type_of% (And.intro (boxed_below p h).cell (And.intro (q.below h).cq (r.below h).cq)):=⟨(boxed_below p h).cell,(q.below h).cq,(r.below h).cq⟩
theorem lk(K X:Nat)(v vx vy:I)(p:List Rat)(x y:Rat)(w:G)(h:Jh w v p)(hx:Jj w vx x)(hy:Jj w vy y)(af:CtOk K X p)(hX:Db X x)(hY:Db X y):
 Calls H 20 #[v,vx,vy] w λe u=>e=.returned (.int .i64 (Ii p x y))/\Bl w u:=by
 obtain⟨M,la,P,rfl⟩:=h.form;obtain⟨s,a,l,c,t,b,k,d,rfl⟩:=Jj.form hx;obtain⟨s',a',l',c',t',R,U,S,rfl⟩:=Jj.form hy;have Qm:Bl w ((w.alloc (F #[C M la P] 25)).alloc (F #[E s,C a l c,E t,C b k d] 37)):=(Ba w _).alloc (by rw[Ax];omega) _;have Ql:Below ((w.alloc (F #[C M la P] 25)).alloc (F #[E s,C a l c,E t,C b k d] 37)).heap.size ((w.alloc (F #[C M la P] 25)).alloc (F #[E s,C a l c,E t,C b k d] 37)) (((w.alloc (F #[C M la P] 25)).alloc (F #[E s,C a l c,E t,C b k d] 37)).alloc (F #[E s',C a' l' c',E t',C R U S] 37)):=Ba _ _;have n0:=((BG w 25 (C M la P)).alloc (F #[E s,C a l c,E t,C b k d] 37)).alloc (F #[E s',C a' l' c',E t',C R U S] 37);have n1:=(JF.new (w.alloc (F #[C M la P] 25)) 37 (E s) (C a l c) (E t) (C b k d)).below Ql;have n2:=JF.new ((w.alloc (F #[C M la P] 25)).alloc (F #[E s,C a l c,E t,C b k d] 37)) 37 (E s') (C a' l' c') (E t') (C R U S);have T:=Bt Qm Ql;simp only[Ax]at n1 n2;obtain⟨W0,ai⟩:=ex (((w.alloc (F #[C M la P] 25)).alloc (F #[E s,C a l c,E t,C b k d] 37)).alloc (F #[E s',C a' l' c',E t',C R U S] 37));rw[ai]at T n0 n1 n2;obtain⟨Qf,D,z,A,HA⟩:=He ai n0 n1 n2 T;have f:=n0.cell;obtain⟨x0,x1,g,i⟩:=n1.cq;obtain⟨j,n,o,q⟩:=n2.cq;have Qk:X<=1000000:=by have:=af.fit;omega
 obtain⟨HD,Qg,Qi,Qj⟩:=Dy (λ(V:G) (Q:Bl W0 V)=>Yv _ p V ((h.below T).below Q)) (λ(V:G) (Q:Bl W0 V)=>NC _ _ x y V ((hx.below T).below Q) ((hy.below T).below Q) (Sq.of hX Qk) (Sq.of hY Qk)) (λ(V:G) (Q:Bl W0 V)=>PQ _ x V ((hx.below T).below Q)) λ(V:G) (Q:Bl W0 V)=>PQ _ y V ((hy.below T).below Q);have Qh:=Y (λ(an:p≠[]->¬y<=x) (V:G) (Q:Bl W0 V) (B:Nat) (s t:Bool) (a b:Option Addr) (l c k d:Nat) (h1:JF V B 37 (E s) (C a l c) (E t) (C b k d)) (h2:Jj V (.agg #[E s,C a l c,E t,C b k d]) x) (B':Nat) (s' t':Bool) (a' R:Option Addr) (l' c' U S:Nat) (ak:JF V B' 37 (E s') (C a' l' c') (E t') (C R U S)) (am:Jj V (.agg #[E s',C a' l' c',E t',C R U S]) y)=>show Calls H 46 #[.agg #[C M la P],.func (.func 112) #[] #[.pointer (some ⟨B,0,none⟩)],.func (.func 112) #[] #[.pointer (some ⟨B',0,none⟩)]] V λe u=>e=.returned (.int .i64 (Ii p x y))/\Bl V u by
  have h3:=(h.below T).below Q;unfold Ii;by_cases p0:p=[]
  . rw[BC p0];rw[p0]at h3;exact QR _ _ h3 _ _
  . rw[BB p0,BB (an p0)];have h1:=QP K _ p _ h3 (af.sr p0) af.sl (QQ af p0 V hX h1 h2) (QQ af p0 V hY ak am);rw[LW,LW]at h1;exact h1)
 have HZ:=Y (λ(p0:p≠[]) (hle:y<=x)=>show Ii p x y=0 by unfold Ii;rw[BB p0,BC hle]);obtain⟨N,hN⟩:=ex (Ii p x y);rw[hN]at Qh HZ ⊢;obtain⟨r,hr⟩:=ex (GD x y);rw[hr]at Qg;have Qe:=@VK x y;rw[hr]at Qe;clear h hx hy af hX hY T Qm Ql n0 n1 n2 ai hN hr Qk;by_cases p0:p=[]
 . have Qc:=Y (Qh.o λh=>absurd p0 h);rw[p0,show(([]:List Rat).length:Int)-1=-1 from rfl]at HD;clear Qh HZ Qe p0 Qg;go_enter Tryz.func20,Tryz.ntmps20
   go_upto_region 1 with fail
   rw[Qf.o];clear Qf;have hq:=BA W0.heap.size W0;go_upto_region 3 with(go_at_call 30;refine(HD.o _ hq).mono ?_;clear HD;rintro e w4 ⟨rfl,ah⟩;have hq:=Bt hq ah;clear f x0 x1 g i j n o q;obtain⟨f,⟨x0,x1,g,i⟩,j,n,o,q⟩:=Zc D.o z.o A.o hq)
   have hq:=hq.drew;go_region_held3 (λu=>u.cell? ⟨w.heap.size,0,none⟩=some (C M la P)/\u.cell? ⟨w.heap.size+1,0,none⟩=some (E s)/\u.cell? ⟨w.heap.size+1,1,none⟩=some (C a l c)/\u.cell? ⟨w.heap.size+1,2,none⟩=some (E t)/\u.cell? ⟨w.heap.size+1,3,none⟩=some (C b k d)/\u.cell? ⟨w.heap.size+1+1,0,none⟩=some (E s')/\u.cell? ⟨w.heap.size+1+1,1,none⟩=some (C a' l' c')/\u.cell? ⟨w.heap.size+1+1,2,none⟩=some (E t')/\u.cell? ⟨w.heap.size+1+1,3,none⟩=some (C R U S)) (first|(with_reducible exact⟨f,x0,x1,g,i,j,n,o,q⟩)|(go_keep;done))
    (first
     |(go_at_call 51;refine(Qi.o _ hq).mono ?_;clear Qi;rintro e w5 ⟨B5,s5,t5,a5,b5,l5,c5,k5,d5,rfl,W,r5,ad⟩;have hq:=Bt hq ad;clear f x0 x1 g i j n o q;obtain⟨f,⟨x0,x1,g,i⟩,j,n,o,q⟩:=Zc D.o z.o A.o hq)
     |(go_at_call 51;refine(Qj.o _ hq).mono ?_;clear Qj;rintro e w6 ⟨B6,s6,t6,a6,b6,l6,c6,k6,d6,rfl,n6,r6,ae⟩;have W:=W.below ae;have r5:=r5.below ae;have hq:=Bt hq ae;clear f x0 x1 g i j n o q;obtain⟨f,⟨x0,x1,g,i⟩,j,n,o,q⟩:=Zc D.o z.o A.o hq)
     |(go_at_call 46;refine(Qc.o _ hq _ _ _ _ _ _ _ _ _ W r5 _ _ _ _ _ _ _ _ _ n6 r6).mono ?_;clear Qc W r5 n6 r6;rintro e w7 ⟨rfl,aj⟩;have hq:=Bt hq aj;clear f x0 x1 g i j n o q;obtain⟨f,⟨x0,x1,g,i⟩,j,n,o,q⟩:=Zc D.o z.o A.o hq))
   go_wp2_with fail
   go_ret;exact⟨rfl,Bt HA.o hq⟩
 . obtain⟨m,hm⟩:=ex (p.length-1:Nat);have Qn:(p.length:Int)-1=(m:Int):=by have:=Ae.2 p0;omega
   have ap:(0:Int)<=(m:Int):=O
   rw[Qn]at HD;clear hm Qn;by_cases hle:y<=x
   . have h0:=HZ.o p0 hle;have Qo:0<=r:=Qe.2 hle;subst h0;clear Qh HZ Qe p0 hle Qi Qj;go_enter Tryz.func20,Tryz.ntmps20
     go_upto_region 1 with fail
     rw[Qf.o];clear Qf;have hq:=BA W0.heap.size W0;go_wp2_with(first
      |(go_at_call 30;refine(HD.o _ hq).mono ?_;clear HD;rintro e w4 ⟨rfl,ah⟩;have hq:=Bt hq ah;clear f x0 x1 g i j n o q;obtain⟨f,⟨x0,x1,g,i⟩,j,n,o,q⟩:=Zc D.o z.o A.o hq)
      |(go_at_call 27;refine(Qg.o _ hq).mono ?_;clear Qg;rintro e w5 ⟨rfl,ad⟩;have hq:=Bt hq ad;clear f x0 x1 g i j n o q;obtain⟨f,⟨x0,x1,g,i⟩,j,n,o,q⟩:=Zc D.o z.o A.o hq))
     go_ret;exact⟨rfl,Bt HA.o hq⟩
   . have Qo:r<0:=Int.not_le.1 λh=>hle (Qe.1 h);have Qc:=Y (Qh.o λ_=>hle);clear Qh HZ Qe p0 hle;go_enter Tryz.func20,Tryz.ntmps20
     go_upto_region 1 with fail
     rw[Qf.o];clear Qf;have hq:=BA W0.heap.size W0;go_upto_region 3 with(first
      |(go_at_call 30;refine(HD.o _ hq).mono ?_;clear HD;rintro e w4 ⟨rfl,ah⟩;have hq:=Bt hq ah;clear f x0 x1 g i j n o q;obtain⟨f,⟨x0,x1,g,i⟩,j,n,o,q⟩:=Zc D.o z.o A.o hq)
      |(go_at_call 27;refine(Qg.o _ hq).mono ?_;clear Qg;rintro e w5 ⟨rfl,ad⟩;have hq:=Bt hq ad;clear f x0 x1 g i j n o q;obtain⟨f,⟨x0,x1,g,i⟩,j,n,o,q⟩:=Zc D.o z.o A.o hq))
     have hq:=hq.drew;go_region_held3 (λu=>u.cell? ⟨w.heap.size,0,none⟩=some (C M la P)/\u.cell? ⟨w.heap.size+1,0,none⟩=some (E s)/\u.cell? ⟨w.heap.size+1,1,none⟩=some (C a l c)/\u.cell? ⟨w.heap.size+1,2,none⟩=some (E t)/\u.cell? ⟨w.heap.size+1,3,none⟩=some (C b k d)/\u.cell? ⟨w.heap.size+1+1,0,none⟩=some (E s')/\u.cell? ⟨w.heap.size+1+1,1,none⟩=some (C a' l' c')/\u.cell? ⟨w.heap.size+1+1,2,none⟩=some (E t')/\u.cell? ⟨w.heap.size+1+1,3,none⟩=some (C R U S)) (first|(with_reducible exact⟨f,x0,x1,g,i,j,n,o,q⟩)|(go_keep;done))
      (first
       |(go_at_call 51;refine(Qi.o _ hq).mono ?_;clear Qi;rintro e w5 ⟨B5,s5,t5,a5,b5,l5,c5,k5,d5,rfl,W,r5,ad⟩;have hq:=Bt hq ad;clear f x0 x1 g i j n o q;obtain⟨f,⟨x0,x1,g,i⟩,j,n,o,q⟩:=Zc D.o z.o A.o hq)
       |(go_at_call 51;refine(Qj.o _ hq).mono ?_;clear Qj;rintro e w6 ⟨B6,s6,t6,a6,b6,l6,c6,k6,d6,rfl,n6,r6,ae⟩;have W:=W.below ae;have r5:=r5.below ae;have hq:=Bt hq ae;clear f x0 x1 g i j n o q;obtain⟨f,⟨x0,x1,g,i⟩,j,n,o,q⟩:=Zc D.o z.o A.o hq)
       |(go_at_call 46;refine(Qc.o _ hq _ _ _ _ _ _ _ _ _ W r5 _ _ _ _ _ _ _ _ _ n6 r6).mono ?_;clear Qc W r5 n6 r6;rintro e w7 ⟨rfl,aj⟩;have hq:=Bt hq aj;clear f x0 x1 g i j n o q;obtain⟨f,⟨x0,x1,g,i⟩,j,n,o,q⟩:=Zc D.o z.o A.o hq))
     go_wp2_with fail
     go_ret;exact⟨rfl,Bt HA.o hq⟩
end M3
section
open Go.RowKit Go.Shelf
theorem VO(p:List Rat)(a:List Int)(e:p=a.map (λz:Int=>(z:Rat)))(h:a.all (λz=>decide (z.natAbs<100))=true):Cd 1 p:=by
 refine⟨1,DO,Sm.one 1 O,Eh.cdl λi=>?_⟩;rw[e];by_cases b:i<a.length
 . refine⟨a[i],?_,?_⟩
   . have c:=Cj.1 h a[i] (CU b);have d:a[i].natAbs<100:=Bb c;unfold Sm DN;omega
   . unfold cf;rw[C7,Af b];rfl
 . exact⟨0,Sm.zero 1,by rw[J3 si];rfl⟩
def eP:List Rat:=[-2,0,1]
theorem lm:J9 [120,94,50,45,50]=(eP,0,0):=dk
theorem VP:Es [49]=1/\(Yz [49]).isSome=true:=dk
theorem VQ:Jc eP=[0,2]:=dk
theorem ls:I8 eP=2:=dk
theorem lu:I9 eP 1=1:=dk
theorem lw:Dl eP.reverse=1:=dk
theorem VR:Cd 1 eP:=VO eP [-2,0,1] dk DO
theorem VS:CtOk 1 1 eP:=by
 refine⟨?_,?_⟩
 . rw[VQ];exact⟨dk,dk,VR,VO _ [0,2] dk DO,DO,DO⟩
 . rw[VQ];decide
theorem lx:Db 1 (1:Rat):=⟨Sm.one 1 O,Sm.one 1 O⟩
namespace M3
theorem ly(w:G):Calls H 22 #[] w λr a=>r=.returned (E true)/\Bl w a:=by
 have W:=Y (λ(V:G)=>show Calls H 23 #[L ⟨#[120,94,50,45,50]⟩] V λr a=>∃u,r=.returned (.tuple #[u,.int .i64 0,.int .i64 0])/\Jh a u eP/\Bl V a from
  (Tq ⟨#[120,94,50,45,50]⟩ V).mono (λr a h=>by
   obtain⟨u,e,p,i,c,Q⟩:=h;rw[LJ,show Jf ⟨#[120,94,50,45,50]⟩=[120,94,50,45,50]from rfl,lm]at c;obtain⟨rfl,rfl,h4⟩:=c;exact⟨u,i,h4,Q⟩))
 have X:=Y (λ(V:G)=>show Calls H 24 #[L ⟨#[49]⟩] V λr a=>∃u,r=.returned (.tuple #[u,E true])/\Jj a u 1/\Bl V a from
  (Ng ⟨#[49]⟩ V).mono (λr a h=>by
   obtain⟨u,i,c,Q⟩:=h;rw[show Jf ⟨#[49]⟩=[49]from rfl]at i c;rw[VP.2]at i;rw[VP.1]at c;exact⟨u,i,c,Q⟩))
 obtain⟨s,t,v⟩:=Df (λ(V:G) (x:I) (j:Jh V x eP)=>VJ 1 1 x eP V j VS) (λ(V:G) (x y:I) (j:Jh V x eP) (hy:Jj V y 1)=>VL 1 1 x y eP 1 V j hy VS lx) λ(V:G) (x:I) (j:Jh V x eP)=>VM x eP V j (VR.sqs O) DO;rw[ls]at s;rw[lu]at t;rw[lw]at v;go_enter Tryz.func22,Tryz.ntmps22
 go_upto_region 2 with(go_at_call 23;refine(W.o _).mono ?_;clear W;rintro e d ⟨u1,rfl,N,ai⟩;obtain⟨A,l1,c1,rfl⟩:=N.form)
 have l:Bl d (d.alloc (F #[C A l1 c1] 25)):=Ba d _;have b:=BG d 25 (C A l1 c1);obtain⟨V1,af⟩:=ex (d.alloc (F #[C A l1 c1] 25));have r1:=N.below l;rw[af]at l b r1 ⊢;obtain⟨B1,ad⟩:=ex (d.heap.size);have Qd:Bl w V1:=Bt ai l;rw[ad]at b ⊢;clear af ad N l ai;go_upto_region 3 with(go_at_call 24;refine(X.o _).mono ?_;clear X;rintro e f ⟨u2,rfl,P,aj⟩;obtain⟨T,D,l2,c2,U,K,R,M,rfl⟩:=Jj.form P)
 have m:Bl f (f.alloc (F #[E T,C D l2 c2,E U,C K R M] 37)):=Ba f _;have k:=JF.new f 37 (E T) (C D l2 c2) (E U) (C K R M);have S:=P.below m;have g:=Bt aj m
 obtain⟨V2,ah⟩:=ex (f.alloc (F #[E T,C D l2 c2,E U,C K R M] 37));rw[ah]at m k S g ⊢;obtain⟨B2,ae⟩:=ex (f.heap.size);rw[ae]at k ⊢;replace b:=boxed_below b g;replace r1:=r1.below g;have HQ:=Y (Bt Qd g);clear ah ae P m aj g Qd;have hq:=BA V2.heap.size V2;have n:=b.cell;obtain⟨x0,x1,o,q⟩:=k.cq;obtain⟨N1,N2,z,R2⟩:=Dy b k r1 S;clear b k r1 S;go_wp2_with(first
  |(go_at_call 13;refine(s.o _ _ (z.o.below hq)).mono ?_;clear s;rintro e w5 ⟨rfl,ak⟩;have hq:=Bt hq ak;clear n x0 x1 o q;have n:=(boxed_below N1.o hq).cell;obtain⟨x0,x1,o,q⟩:=(N2.o.below hq).cq)
  |(go_at_call 15;refine(t.o _ _ _ (z.o.below hq) (R2.o.below hq)).mono ?_;clear t;rintro e w6 ⟨rfl,am⟩;have hq:=Bt hq am;clear n x0 x1 o q;have n:=(boxed_below N1.o hq).cell;obtain⟨x0,x1,o,q⟩:=(N2.o.below hq).cq)
  |(go_at_call 18;refine(v.o _ _ (z.o.below hq)).mono ?_;clear v;rintro e w7 ⟨rfl,an⟩;have hq:=Bt hq an))
 go_ret;exact⟨rfl,Bt HQ.o hq⟩
end M3
end
section
open Go.RowKit Go.Shelf
end
section
variable{S:List Rat}{l:List UInt8}{i k n x:Nat}{c:Rat}
theorem VT(h:l.all DZ=true):num l<10^l.length:=by
 have:=YB (Lj h);rwa[Ks]at this
def Fr(x:Nat)(c:Rat):Prop:=∃(a b:Nat) (y z:Nat),c=Rat.divInt a b/\a<=10^y/\b<=10^z/\b≠0/\y+z<=x
theorem Fr.mono{y:Nat}(h:Fr x c)(j:x<=y):Fr y c:=by
 obtain⟨a,b,u,v,d,e,f,g,i⟩:=h;exact⟨a,b,u,v,d,e,f,g,O⟩
theorem Fr.one:Fr 0 1:=⟨1,1,0,0,DO,DO,DO,DO,DO⟩
theorem lz(r:i<=l.length)(h:Yt l i=.ok c k):Fr (k-i) c:=by
 unfold Yt at h;split at h
 . cases h
 . rename_i ds p a g;have b:=IU r g;have t:=Hs l a;have q:=VT b.2.2.2.2.2.2.2.2;rw[b.2.2.2.2.2.2.2.1]at q;split at h
   . rename_i d;have d:=Yk d;split at h
     . cases h
     . rename_i f s m n;have e:=IU O n;have o:=VT e.2.2.2.2.2.2.2.2;rw[e.2.2.2.2.2.2.2.1]at o;split at h
       . cases h
       . rename_i j;cases h;exact⟨num ds,num f,a-p,k-s,rfl,O,O,j,O⟩
   . cases h;exact⟨num ds,1,a-p,0,(Pa _).symm,O,DO,DO,O⟩
theorem mA(g:i<=l.length)(h:Yl l i=.ok (c,n) k):Fr (k-i) c:=by
 unfold Yl at h;have p:=Hs l i;have d:=Y9 g;split at h
 . split at h
   . cases h
   . rename_i c' j b;have o:=Ob d b;have a:=lz d b;have q:=Hs l j;split at h
     . rename_i e;have e:=Yk e;split at h
       . cases h
       . rename_i s m f;have r:=Oc O f;cases h;exact a.mono O
     . cases h;exact a.mono O
 . split at h
   . split at h
     . cases h
     . cases h;exact Fr.one.mono O
   . cases h
def Hb(i:Nat)(S:List Rat):Prop:=S.length=9/\∃D:Int,D≠0/\D.natAbs<=10^i/\∀j,∃z:Int,z.natAbs<=10^i/\cf S j=Rat.divInt z D
theorem Hb.mono(h:Hb i S)(e:i<=k):Hb k S:=by
 obtain⟨a,D,b,f,c⟩:=h;have hp:(10:Nat)^i<=10^k:=Aw O e;exact⟨a,D,b,O,λj=>by obtain⟨z,g,d⟩:=c j;exact⟨z,O,d⟩⟩
theorem Hb.start(i:Nat):Hb i (List.replicate 9 0):=⟨rfl,1,DO,by have:1<=10^i:=C6 O;simpa using this,λj=>⟨0,Z,by rw[J0,Rat.zero_divInt]⟩⟩
theorem Hb.next(h:Hb i S)(s:Fr x c)(N:n<=8)(b:Bool):Hb (i+x+1) (S.set n (if b then cf S n-c else cf S n+c)):=by
 obtain⟨m,D,g,o,p⟩:=h;obtain⟨a,d,y,z,rfl,r,t,M,P⟩:=s;have f:(d:Int)≠0:=O
 have u:(10:Nat)^i*10^z<=10^(i+x):=by rw[<-CV];exact Aw O O
 have v:(10:Nat)^y*10^i<=10^(i+x):=by rw[<-CV];exact Aw O O
 have e:∀w:Int,w.natAbs<=10^i->(w*(d:Int)).natAbs<=10^(i+x):=λw e=>by
  rw[CK,AK];exact Am (Cu e t) u
 have K:((a:Int)*D).natAbs<=10^(i+x):=by
  rw[CK,AK];exact Am (Cu r o) v
 refine⟨by rw[CB];exact m,D*d,Cn g f,by have:=e D o;omega,λj=>?_⟩;rw[X7 _ _ _ _ (by rw[m];omega)];by_cases q:j=n
 . rw[BC q];obtain⟨w,k,l⟩:=p n;have A:=e w k;rw[l];cases b with
   |true=>
    refine⟨w*d-a*D,by have:=Int.natAbs_sub_le (w*(d:Int)) ((a:Int)*D);omega,?_⟩;rw[BC rfl,FP,Rat.neg_divInt,FU _ _ g f];congr 1;rw[Int.neg_mul];rfl
   |false=>
    refine⟨w*d+a*D,by have:=FW (w*(d:Int)) ((a:Int)*D);omega,?_⟩;rw[BB DO,FU _ _ g f]
 . rw[BB q];obtain⟨w,k,l⟩:=p j;exact⟨w*d,by have:=e w k;omega,by rw[l,Fg f]⟩
theorem VU:∀(f:Nat) (b:Bool) (I:Nat) (S d:List Rat) (k:Nat),I<=l.length->Hb I S->Eo l f b I S=.ok d k->Hb (l.length+1) d:=by
 intro f;induction f with
 |zero=>intro b I S d k _ _ h;cases h
 |succ f o=>
  intro b I S d k m r h;cases g:Yl l I with
  |bad e p=>rw[NZ g]at h;cases h
  |ok a s=>
   obtain⟨c,n⟩:=a;have q:=Mb m g;have i:=r.next (mA m g) q.2.2 b;have t:=Hs l s;rw[Na g]at h;split at h
   . rename_i j;have:=Yk j;exact o _ _ _ _ _ O (i.mono O) h
   . split at h
     . rename_i j;have:=Yk j;exact o _ _ _ _ _ O (i.mono O) h
     . split at h
       . cases h;exact i.mono O
       . cases h
theorem mB(h:Ed l=.ok S k):Hb (l.length+1) S:=by
 unfold Ed at h;have a:=Y9 (l:=l) (i:=0) O;split at h
 . rename_i b;have:=Yk b;exact VU _ _ _ _ _ _ O (Hb.start _) h
 . exact VU _ _ _ _ _ _ a (Hb.start _) h
theorem mC(a b c:Nat)(h:a*b<64*c):((2:Nat)^a)^b<DN^c:=by
 rw[show DN=2^64 from by decide,<-Nat.pow_mul,<-Nat.pow_mul];exact Nat.pow_lt_pow_right O h
theorem mD(h:n<=43*k)(c:k<=7):(10:Nat)^n<DN^16:=by
 have b:((10:Nat)^43)^k<=(2^143)^k:=Fw DO k;have a:(10:Nat)^n<=10^(43*k):=Aw O h;rw[Nat.pow_mul]at a;exact Cr (Am a b) (mC 143 k 16 O)
theorem mE(l:List UInt8):∃D:Int,D≠0/\Sm 16 D/\EC D 16 (J9 l).1:=by
 have a:∃D:Int,D≠0/\Sm 16 D/\EC D 16 []:=⟨1,DO,Sm.one _ O,λi=>by rw[YY];exact CD.zero _ _⟩;by_cases h:300<l.length
 . rw[show J9 l=([],1,0)by unfold J9;rw[BC h]];exact a
 . rw[L4 h];cases b:Ed l with
   |bad e p=>exact a
   |ok S k=>
    rw[show(LG (Rd.ok S k)).1=Jd S from rfl];obtain⟨_,D,c,g,d⟩:=mB b;have b:=mD (n:=l.length+1) (k:=7) O O;exact⟨D,c,by unfold Sm;omega,λi=>by
     obtain⟨z,j,f⟩:=d i;exact⟨z,by rw[J1];exact f,by unfold Sm;omega⟩⟩
open Go.RowKit Go.Shelf
theorem VV(l:List UInt8):Jd (J9 l).1=(J9 l).1:=by
 by_cases h:300<l.length
 . rw[show J9 l=([],1,0)by unfold J9;rw[BC h]];rfl
 . rw[L4 h];cases Ed l with
   |bad e p=>rfl
   |ok S k=>exact Yf _
theorem VW(s:ByteArray)(b:s.size<=140737488351232)(w:G):
 Calls H 11 #[L s] w λe d=>∃u,e=.returned u/\RowK false d u (J9 (Jf s)).1/\Bl w d:=by
 have a:=Y λ(V:G)=>fO s b V;clear b;go_enter Tryz.func11,Tryz.ntmps11
 go_wp2_with(go_at_call 45;refine(a.o _).mono ?_;clear a;rintro e k ⟨u,i,j,rfl,⟨rfl,rfl,c,_,_⟩,f⟩;obtain⟨g,l2,c2,rfl⟩:=c.form)
 go_ret;exact⟨_,rfl,c,f⟩
theorem VX(s:ByteArray)(w:G):
 Calls H 8 #[L s] w λe x=>∃u,e=.returned u/\Jh x u (J9 (Jf s)).1/\Bl w x:=by
 have q:=Y λ(V:G)=>Tq s V;have b0:=BG w 25 (C none 0 0);have i:Bl w (w.alloc (F #[C none 0 0] 25)):=Ba w _;obtain⟨N,m⟩:=ex (w.alloc (F #[C none 0 0] 25));obtain⟨y,k⟩:=ex (w.heap.size);rw[m]at b0 i;rw[k]at b0;obtain⟨z,r,K,t⟩:=Dy b0 i m k;clear b0 i m k;go_enter Tryz.func8,Tryz.ntmps8
 go_upto_region 1 with fail
 rw[K.o,t.o];go_upto_region 2 with(go_at_call 23;refine(q.o _).mono ?_;clear q;rintro e b ⟨u,Q,R,rfl,⟨rfl,rfl,n⟩,g⟩;obtain⟨a,l1,c1,rfl⟩:=n.form)
 have d:Bl b (b.alloc (F #[C a l1 c1] 25)):=Ba b _;have o:=BG b 25 (C a l1 c1);have c:=(z.o.bel g).bel d;have r1:=n.row.below d;have j:=(Bt r.o g).trans (d.mono (Bt r.o g).size);obtain⟨P,f⟩:=ex (b.alloc (F #[C a l1 c1] 25));obtain⟨M,l⟩:=ex (b.heap.size);rw[f,l]at o;rw[f]at c r1 j;rw[f,l];have x1:=o.cell;have x0:=c.cell;have f0:=c.frozen;have A:=Y (Gu c (C a l1 c1) r1);have D:=Y (j.setCell (p:=⟨y,0,none⟩) (by rw[t.o];exact Aa _) (C a l1 c1));clear d o c r1 j f l n g;go_wp2_with fail
 exact A0 (v:=.agg #[C a l1 c1]) (by simp[results,Tryz.results8,go_sem,x0]) rfl ⟨_,rfl,⟨_,rfl,A.o⟩,D.o⟩
end
section
open Go.RowKit Go.Shelf
variable{p:List Rat}{M:Nat}
theorem VY(l:List UInt8):Cd 16 (J9 l).1:=mE l
theorem Cd.mul{M N:Nat}{p q:List Rat}(h:Cd M p)(g:Cd N q):Cd (M+N+p.length) (JB p q):=by
 obtain⟨D,d1,b,c⟩:=h;obtain⟨E,d,e,f⟩:=g;have a:D*E≠0:=Cn d1 d;exact⟨D*E,a,(b.mul e).mono O,λi=>iT a (λi j=>(c i).mul (f j)) i⟩
theorem Cd.times{N:Nat}{q:List Rat}(h:Cd M p)(f:Cd N q)(hl:M+N+p.length+1<=1000000):M3.IL p q:=by
 obtain⟨D,d1,a,b⟩:=h;obtain⟨E,c,d,e⟩:=f;exact iS (Cn d1 c) ((a.mul d).mono O) (λi j=>(b i).mul (e j)) hl
theorem Cd.slope(h:Cd M p)(hl:p.length<=1000000):Cd (M+1) (Jc p):=by
 obtain⟨D,d1,a,b⟩:=h;refine⟨D,d1,a.mono O,λi=>?_⟩;rw[MG];by_cases e:i+1<p.length
 . have c:=(b (i+1)).mul (E:=1) (M:=1) (d:=(((i+1:Nat):Int):Rat)) ⟨((i+1:Nat):Int),by rw[Fa,show((1:Int):Rat)=1 from rfl];grind,by unfold Sm DN;rw[AK];omega⟩;rwa[Int.mul_one]at c
 . rw[J3 O,Cz];exact CD.zero _ _
namespace M3
theorem mF(a b:I)(ps qs:List Rat)(w:G)(i:Jh w a ps)(j:Jh w b qs)(m:Da ps)(n:Da qs)(l:IL ps qs)(k:ps.length+qs.length<=1099511627776):
 Calls H 9 #[a,b] w λe c=>∃u,e=.returned u/\Jh c u (JB ps qs)/\Bl w c:=by
 refine(eF a b ps qs w i j m n l k).mono ?_;rintro e c ⟨u,d,f,_,g⟩;exact⟨u,d,f,g⟩
theorem ChOk.of{K:Nat}{p q:List Rat}(tp:Jd p=p)(tq:Jd q=q)(cp:Cd K p)(cq:Cd K q){n:Nat}(lp:p.length<=n)(lq:q.length<=n)(hle:4*((n+2)*((K+1)*(n+n+1)+1))<=1000000)(c:n<=1000):ChOk K p q:=by
 refine⟨tp,tq,cp,cq,?_,O⟩;have a:DW K p q<=(K+1)*(n+n+1):=Ap _ O;have b:(max p.length q.length+2)*(DW K p q+1)<=(n+2)*((K+1)*(n+n+1)+1):=Cu O O;omega
end M3
end
open Go.RowKit Go.Shelf
variable{p:List Rat}
theorem mG(tp:Jd p=p):Kk p=I8 p:=by
 unfold Kk I8;by_cases p0:p=[]
 . rw[BC p0,BC p0]
 . rw[BB p0,BB p0];have:=kj tp p0;omega
theorem mH(tp:Jd p=p)(x:Rat):Kl p x=I9 p x:=by
 unfold Kl I9;by_cases p0:p=[]
 . rw[BC p0,BC p0]
 . rw[BB p0,BB p0];have:=VA tp p0 x;omega
theorem mI(tp:Jd p=p)(x y:Rat):Ij p x y=Ii p x y:=by
 unfold Ij Ii;by_cases p0:p=[]
 . rw[BC p0,BC p0]
 . rw[BB p0,BB p0];by_cases h:y<=x
   . rw[BC h,BC h]
   . rw[BB h,BB h];have:=U9 tp p0 (Rat.le_of_lt (Rat.not_le.1 h));omega
theorem QS(x:List Rat):(Jc x).length<=x.length:=Am (JY _) (by simp[Ik])
theorem mJ{K n:Nat}(tp:Jd p=p)(cp:Cd K p)(lp:p.length<=n)(b:4*((n+2)*((K+1+1)*(n+n+1)+1))<=1000000)(c:n<=1000){X:Nat}(g:n*((K+1+1)*(n+n+1)+n*((K+1+1)*(n+n+1)+1)+1+X+1)+1+X<=1000000):CtOk (K+1) X p:=by
 have sl:=QS p;refine⟨M3.ChOk.of tp (JP _) (cp.mono O) (cp.slope O) (n:=n) lp O b c,?_⟩;have d:DW (K+1) p (Jc p)<=(K+1+1)*(n+n+1):=Ap _ O;have a:max p.length (Jc p).length<=n:=O
 have e:max p.length (Jc p).length*(DW (K+1) p (Jc p)+1)<=n*((K+1+1)*(n+n+1)+1):=Cu a O;have f:max p.length (Jc p).length*(DW (K+1) p (Jc p)+max p.length (Jc p).length*(DW (K+1) p (Jc p)+1)+1+X+1)<=n*((K+1+1)*(n+n+1)+n*((K+1+1)*(n+n+1)+1)+1+X+1):=Cu a O;omega
theorem mK(tp:Jd p=p)(cp:Cd 41 p)(lp:p.length<=17)(p0:p≠[]):RtOk 42 81 2000 p:=by
 have sl:=QS p;have ch:M3.ChOk 42 p (Jc p):=M3.ChOk.of tp (JP _) (cp.mono O) (cp.slope O) (n:=17) lp O DO O;have fr:M3.FrOk 42 p:=⟨ch,by
  have c:DW 42 p (Jc p)<=(42+1)*(17+17+1):=Ap _ O;have e:(p.length+3)*(DW 42 p (Jc p)+1)<=(17+3)*((42+1)*(17+17+1)+1):=Cu O O;omega⟩
 have a:=OA tp p0;have d:=kt tp p0;have mf:Jy (DS p)=DS p:=a.mw;have b:Cd 80 (DS p):=kV tp p0 O (cp.mono O) a.tw mf d;have lf:(DS p).length<=p.length:=(Dv.len a.tw tp p0 d).1;have f:=QS (DS p);have cs:Cd 81 (Jc (DS p)):=b.slope O;have c:DW 81 (DS p) (Jc (DS p))<=(81+1)*(17+17+1):=Ap _ O;refine⟨⟨fr,p0,b.mono O,cs,O,?_⟩,?_⟩
 . have e:((DS p).length+3)*(DW 81 (DS p) (Jc (DS p))+2)<=(17+3)*((81+1)*(17+17+1)+2):=Cu O O;omega
 . exact Am (Fq (Fq (Cu (Am lf lp) (Fq (Fq (Fq c 1) 2000) 1)) 1) 2000) DO
namespace M3
theorem mL(s t a b:ByteArray)(hs:s.size<=140737488351232)(ht:t.size<=140737488351232)(ha:a.size<=140737488351232)(hb:b.size<=140737488351232)(w:G):
 Calls H 3 #[L s,L t,L a,L b] w λr w'=>r=.returned (E true)/\Bl w w':=by
 have Qu:Tryz.prog.follows .mixedOrders=true:=by kernel_rfl
 have cP:=VY (Jf s);have cQ:=VY (Jf t);have lP:=(Tp (Jf s)).1;have lQ:=(Tp (Jf t)).1;have tP:=VV (Jf s);have tQ:=VV (Jf t);obtain⟨Qo,Qn,Qs,Qt⟩:=Dy (λ(V:G)=>VW s hs V) (λ(V:G)=>VW t ht V) (λ(V:G)=>VX s V) λ(V:G)=>VX t V;obtain⟨p,hp⟩:=ex ((J9 (Jf s)).1);obtain⟨q,hq⟩:=ex ((J9 (Jf t)).1);rw[hp]at cP lP tP Qo Qs;rw[hq]at cQ lQ tQ Qn Qt;have Qc:Cd 41 (JB p q):=(cP.mul cQ).mono O;have Qh:(JB p q).length<=17:=by
  by_cases p0:p=[]
  . rw[p0];exact Az _
  . by_cases q0:q=[]
    . rw[q0,Xw];exact Az _
    . have:=JX tP tQ p0 q0;omega
 have Qm:IL p q:=cP.times cQ O;have sP:=cP.sqs O;have sQ:=cQ.sqs O;have C2:=Y λ(V:G) (x y:I) (hx:Jh V x p) (hy:Jh V y q)=>mF x y p q V hx hy sP sQ Qm O;have D2:=Y λ(V:G) (x y:I) (hx:RowK false V x p) (hy:RowK false V y q)=>Td x y p q V hx hy sP sQ Qm O;have X:=YJ p q;obtain⟨z,hz⟩:=ex (JB p q);rw[hz]at Qc Qh C2 D2 X;have Qg:CtOk 42 2000 z:=mJ X Qc Qh DO O DO;have Qe:z≠[]->RtOk 42 81 2000 z:=λz0=>mK X Qc Qh z0;have sZ:=Qc.sqs O;have vA:=Te (Jf a);have vB:=Te (Jf b);obtain⟨Qp,Qq,Qf,Qr⟩:=Dy (λ(V:G)=>Tl a V) (λ(V:G)=>Tl b V) (λ(V:G)=>Tm a ha V) λ(V:G)=>Tm b hb V;obtain⟨x,hx⟩:=ex (Es (Jf a));obtain⟨y,hy⟩:=ex (Es (Jf b));rw[hx]at vA Qp Qf;rw[hy]at vB Qq Qr;obtain⟨A1,A2,A3,A4,E1,E2,E3,E4⟩:=GX (λ(V:G) (u:I) (N:Jh V u z)=>VJ 42 2000 u z V N Qg) (λ(V:G) (u v:I) (N:Jh V u z) (T:Jj V v x)=>VL 42 2000 u v z x V N T Qg vA) (λ(V:G) (u:I) (N:Jh V u z)=>VM u z V N sZ O) (λ(V:G) (u v v':I) (N:Jh V u z) (T:Jj V v x) (ak:Jj V v' y)=>lk 42 2000 u v v' z x y V N T ak Qg vA vB) (λ(V:G) (u:I) (N:RowK false V u z)=>lY 42 81 2000 u z V N Qe) (λ(V:G) (u v:I) (N:RowK false V u z) (T:Jl V v x)=>ld 42 81 2000 u v z x V N T Qe vA O) (λ(V:G) (u:I) (N:RowK false V u z)=>lj u z V N O) λ(V:G) (u v v':I) (N:RowK false V u z) (T:Jl V v x) (ak:Jl V v' y)=>li 42 81 2000 u v v' z x y V N T ak Qe vA vB O;rw[mG X]at E1;rw[mH X]at E2;rw[mI X]at E4;obtain⟨n1,bh⟩:=ex (I8 z);obtain⟨n2,bi⟩:=ex (I9 z x);obtain⟨n3,bj⟩:=ex (Dl z.reverse);obtain⟨n4,bk⟩:=ex (Ii z x y);rw[bh]at A1 E1;rw[bi]at A2 E2;rw[bj]at A3 E3;rw[bk]at A4 E4;have AL:=Y λ(V:G)=>ly V;have M1:Hid (Mem w w []):=Y (Mem.nil w);clear cP cQ lP lQ tP tQ hp hq Qc Qh Qm sP sQ X hz Qg Qe sZ vA vB hx hy bh bi bj bk hs ht ha hb;go_enter Tryz.func3,Tryz.ntmps3
 go_upto_region 2 with(go_at_call 8;refine(Qs.o _).mono ?_;clear Qs;rintro e w1 ⟨u1,rfl,aj,az⟩;obtain⟨ad,an,af,rfl⟩:=Jh.form aj)
 obtain⟨V1,hV⟩:=ex (w1.alloc (F #[C ad an af] 25));obtain⟨B1,ah⟩:=ex (w1.heap.size);have P:Mem w (w1.alloc (F #[C ad an af] 25)) [some (w1.heap.size,.poly p)]:=Mem.push (M1.o.below az) (.poly p) aj;rw[hV,ah]at P;rw[hV];rw[ah];have M2:Hid (Mem w V1 [some (B1,.poly p)]):=Y (P);clear M1;clear P hV ah;clear aj az;refine Jr Qu [[],[],[1],[0,2,2],[3,3,0,1,2,3]] (by kernel_rfl) DO
  (λD ae V=>∃(ta tb tc td:I) (f:Option (Nat × Dat)),ae={ tmps:=#[L s,L t,L a,L b,B,B,B,B,E false,.pointer (some ⟨B1,0,none⟩),B,B,B,L s,.agg #[C ad an af],ta,tb,tc,td,B,B,B,B,B,B,B,B,B,B,B,B,B,B,B,B,B,B,B,B,B,B,B,B,B,B,B,B,B,B,B,B,B,B,B,B,B,B,B,B,B,B,B,B,B],defers:=[] }/\Hid ((D 0=true->Has V ta (.poly p))/\(D 1=true->tb=Value.string t)/\(D 2=true->Has V tc (.poly q))/\(D 3=true->Has V td (.poly z))/\((D 4=false->f=some (B1,.poly p))/\(D 4=true->f=some (B1,.poly z))))/\Hid (Mem w V [f]))
  ⟨_,_,_,_,_,rfl,Y ⟨Z,Z,Z,Z,⟨λ_=>rfl,Z⟩⟩,Y (M2.o).drew⟩ ?step2 ?fin2
 case step2=>
  rintro D ae V i ds bn hi W aw ⟨ta,tb,tc,td,f,rfl,j,P⟩;have bu:i<5:=(Ad.1 hi).1;obtain rfl|rfl|rfl|rfl|rfl:=MP i O
  all_goals
   simp only[Aj,Ag,An]at hi;subst hi
  . have hf:D 4=false:=DP bn aw;obtain rfl:=j.o.2.2.2.2.1 hf;clear W;obtain⟨a,l,c,n,r⟩:=P.o.poly2 (i:=0) rfl;have g:=n.cell;refine Za ?_;exact⟨_,_,_,_,_,rfl,Y ⟨λ_=>r,j.o.2.1,j.o.2.2.1,j.o.2.2.2.1,⟨λ_=>rfl,λh=>by simp[hf]at h⟩⟩,Y (P.o)⟩
  . clear W;refine Za ?_;exact⟨_,_,_,_,_,rfl,(Ds j),Y (P.o)⟩
  . obtain rfl:=(j.o.2.1 (W 1 Z));have HC:=Y (Qt.o V);clear W;refine Jb rfl rfl λK hK=>?_;go_simp;go_wp2_with(go_at_call 8;refine HC.o.mono ?_;rintro e w5 ⟨v5,rfl,am,U⟩)
    exact⟨_,_,_,_,_,rfl,Y ⟨λh=>(j.o.1 h).below U,λ_=>rfl,λ_=>am,λh=>(j.o.2.2.2.1 h).below U,j.o.2.2.2.2⟩,Y (P.o.below U)⟩
  . have h0:=(j.o.1 (W 0 Z));have h1:=(j.o.2.2.1 (W 2 Z));have HC:=Y (C2.o V _ _ h0 h1);clear W h0 h1;refine Jb rfl rfl λK hK=>?_;go_simp;go_wp2_with(go_at_call 9;refine HC.o.mono ?_;rintro e w5 ⟨v5,rfl,am,U⟩)
    exact⟨_,_,_,_,_,rfl,Y ⟨λh=>(j.o.1 h).below U,j.o.2.1,λh=>(j.o.2.2.1 h).below U,λ_=>am,j.o.2.2.2.2⟩,Y (P.o.below U)⟩
  . obtain rfl:=j.o.2.2.2.2.1 aw;have T:=(j.o.2.2.2.1 (W 3 Z));obtain⟨a1,l1,c1,rfl⟩:=Jh.form (show Jh V _ _ from T);obtain⟨a,l,c,n,r⟩:=P.o.poly2 (i:=0) rfl;have g:=n.cell;have f0:=n.frozen;clear W;refine Za ?_;exact⟨_,_,_,_,_,rfl,Y ⟨λh=>(j.o.1 h).set1 n rfl _,j.o.2.1,λh=>(j.o.2.2.1 h).set1 n rfl _,λh=>(j.o.2.2.2.1 h).set1 n rfl _,⟨λh=>by simp at h,λ_=>rfl⟩⟩,Y (P.o.putPoly (i:=0) rfl T)⟩
 rintro D ae V3 ai ⟨ta,tb,tc,td,f,rfl,j,P⟩;obtain rfl:=j.o.2.2.2.2.2 (ai 4 DO);obtain rfl:=j.o.2.1 (ai 1 DO);clear j ai M2;have M3:Hid (Mem w V3 [some (B1,.poly z)]):=P;clear P;have Qb:=Qf;obtain⟨a1,l1,c1,bl,r1⟩:=M3.o.poly2 (i:=0) rfl;obtain⟨Ql,N0,R0⟩:=Df M3.o.2.2 bl r1;clear M3 bl r1;have hq:=BA V3.heap.size V3;go_upto_region 4 with(first
  |(go_at_call 11;refine(Qo.o _).mono ?_;clear Qo;rintro e w3 ⟨u3,rfl,g3,bm⟩;have hq:=Bt hq bm)
  |(go_at_call 11;refine(Qn.o _).mono ?_;clear Qn;rintro e w4 ⟨u4,rfl,g4,bc⟩;have hq:=Bt hq bc;have g3:=g3.below bc)
  |(go_at_call 10;refine(D2.o _ _ _ g3 g4).mono ?_;clear D2 g3 g4;rintro e w5 ⟨u5,rfl,g5,U⟩;obtain⟨a5,l5,c5,rfl⟩:=g5.form;have hq:=Bt hq U))
 go_upto_region 5 with(go_at_call 12;refine(Qp.o _).mono ?_;clear Qp;rintro e w6 ⟨u6,rfl,g6,bf⟩;obtain⟨s6,a6,l6,c6,t6,b6,k6,d6,rfl⟩:=Jj.form g6)
 have Qj:Bl w6 (w6.alloc (F #[E s6,C a6 l6 c6,E t6,C b6 k6 d6] 37)):=Ba w6 _;have n6:=JF.new w6 37 (E s6) (C a6 l6 c6) (E t6) (C b6 k6 d6);have r6:=g6.below Qj;obtain⟨V6,ax⟩:=ex (w6.alloc (F #[E s6,C a6 l6 c6,E t6,C b6 k6 d6] 37));rw[ax]at Qj n6 r6 ⊢;obtain⟨B6,ap⟩:=ex (w6.heap.size);have Qk:=Bt bf Qj
 rw[ap]at n6 ⊢;have X6:=g5.below Qk;replace hq:=Bt hq Qk
 clear ax ap g5 g6 Qj bf Qk;go_upto_region 6 with(go_at_call 12;refine(Qq.o _).mono ?_;clear Qq;rintro e w7 ⟨u7,rfl,g7,bg⟩;obtain⟨s7,a7,l7,c7,t7,b7,k7,d7,rfl⟩:=Jj.form g7)
 have Qi:Bl w7 (w7.alloc (F #[E s7,C a7 l7 c7,E t7,C b7 k7 d7] 37)):=Ba w7 _;have n7:=JF.new w7 37 (E s7) (C a7 l7 c7) (E t7) (C b7 k7 d7);have r7:=g7.below Qi;obtain⟨V7,ay⟩:=ex (w7.alloc (F #[E s7,C a7 l7 c7,E t7,C b7 k7 d7] 37));rw[ay]at Qi n7 r7 ⊢;obtain⟨B7,aq⟩:=ex (w7.heap.size);have Qd:=Bt bg Qi
 rw[aq]at n7 ⊢;replace hq:=Bt hq Qd
 obtain⟨Q,R1,X5,R,R6,S,R7,HQ⟩:=GX (boxed_below N0.o hq) (R0.o.below hq) (X6.below Qd) (n6.below Qd) (r6.below Qd) n7 r7 (Bt Ql.o hq);clear ay aq g7 Qi bg Qd n6 n7 r6 r7 X6 hq N0 R0 Ql;have hq:=BA V7.heap.size V7;have g:=Q.o.cell;obtain⟨x0,x1,k,m⟩:=R.o.cq;obtain⟨f,o,A,M⟩:=S.o.cq;go_upto_region 8 with(first
  |(go_at_call 13;refine(A1.o _ _ (R1.o.below hq)).mono ?_;clear A1;rintro e z1 ⟨rfl,d⟩;have hq:=Bt hq d;clear d;clear g x0 x1 k m f o A M;obtain⟨g,⟨x0,x1,k,m⟩,f,o,A,M⟩:=Zc Q.o R.o S.o hq)
  |(go_at_call 14;refine(E1.o _ _ (X5.o.below hq)).mono ?_;clear E1;rintro e z2 ⟨rfl,d⟩;have hq:=Bt hq d;clear d;clear g x0 x1 k m f o A M;obtain⟨g,⟨x0,x1,k,m⟩,f,o,A,M⟩:=Zc Q.o R.o S.o hq)
  |(go_at_call 15;refine(A2.o _ _ _ (R1.o.below hq) (R6.o.below hq)).mono ?_;clear A2;rintro e z3 ⟨rfl,d⟩;have hq:=Bt hq d;clear d;clear g x0 x1 k m f o A M;obtain⟨g,⟨x0,x1,k,m⟩,f,o,A,M⟩:=Zc Q.o R.o S.o hq)
  |(go_at_call 17;refine(Qf.o _).mono ?_;clear Qf;rintro e z4 ⟨ci,rfl,k4,d⟩;have hq:=Bt hq d;clear d;clear g x0 x1 k m f o A M;obtain⟨g,⟨x0,x1,k,m⟩,f,o,A,M⟩:=Zc Q.o R.o S.o hq)
  |(go_at_call 16;refine(E2.o _ _ _ (X5.o.below hq) k4).mono ?_;clear E2;rintro e z5 ⟨rfl,d⟩;have hq:=Bt hq d;clear d;clear g x0 x1 k m f o A M;obtain⟨g,⟨x0,x1,k,m⟩,f,o,A,M⟩:=Zc Q.o R.o S.o hq)
  |(go_at_call 18;refine(A3.o _ _ (R1.o.below hq)).mono ?_;clear A3;rintro e z6 ⟨rfl,d⟩;have hq:=Bt hq d;clear d;clear g x0 x1 k m f o A M;obtain⟨g,⟨x0,x1,k,m⟩,f,o,A,M⟩:=Zc Q.o R.o S.o hq)
  |(go_at_call 19;refine(E3.o _ _ (X5.o.below hq)).mono ?_;clear E3;rintro e z7 ⟨rfl,d⟩;have hq:=Bt hq d;clear d;clear g x0 x1 k m f o A M;obtain⟨g,⟨x0,x1,k,m⟩,f,o,A,M⟩:=Zc Q.o R.o S.o hq))
 go_wp2_with(first
  |(go_at_call 20;refine(A4.o _ _ _ _ (R1.o.below hq) (R6.o.below hq) (R7.o.below hq)).mono ?_;clear A4;rintro e z8 ⟨rfl,d⟩;have hq:=Bt hq d;clear d;clear g x0 x1 k m f o A M;obtain⟨g,⟨x0,x1,k,m⟩,f,o,A,M⟩:=Zc Q.o R.o S.o hq)
  |(go_at_call 17;refine(Qb.o _).mono ?_;clear Qb;rintro e z9 ⟨cj,rfl,k9,d⟩;have hq:=Bt hq d;clear d;clear g x0 x1 k m f o A M;obtain⟨g,⟨x0,x1,k,m⟩,f,o,A,M⟩:=Zc Q.o R.o S.o hq)
  |(go_at_call 17;refine(Qr.o _).mono ?_;clear Qr;rintro e ck ⟨ce,rfl,bt,d⟩;have hq:=Bt hq d;have k9:=k9.below d;clear d;clear g x0 x1 k m f o A M;obtain⟨g,⟨x0,x1,k,m⟩,f,o,A,M⟩:=Zc Q.o R.o S.o hq)
  |(go_at_call 21;refine(E4.o _ _ _ _ (X5.o.below hq) k9 bt).mono ?_;clear E4;rintro e cn ⟨rfl,d⟩;have hq:=Bt hq d;clear d;clear g x0 x1 k m f o A M;obtain⟨g,⟨x0,x1,k,m⟩,f,o,A,M⟩:=Zc Q.o R.o S.o hq)
  |(go_at_call 22;refine(AL.o _ ).mono ?_;clear AL;rintro e co ⟨rfl,d⟩;have hq:=Bt hq d;clear d;clear g x0 x1 k m f o A M;obtain⟨g,⟨x0,x1,k,m⟩,f,o,A,M⟩:=Zc Q.o R.o S.o hq))
 go_ret;exact⟨rfl,Bt HQ.o hq⟩
end M3

