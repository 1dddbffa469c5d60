import Derived.Test.YtcahejkcdcjjgaaGreatDoorT32
open Go.Value renaming slice->C,bool->F,int->B
open Go renaming World->G
open Go.IntKind renaming i64->H
set_option maxRecDepth 100000
set_option maxHeartbeats 16000000
namespace Go.Proofs.YtcahejkcdcjjgaaGreatDoor
open Go.RowKit Go.Shelf
section
attribute [local go_sem] Oper.semAt_some
theorem DI:type_of% @Obj.cells.injEq:=@Obj.cells.injEq
def Ej(r:Bool)(W0:G)(V:G)(o:Value)(qs:List Rat):Prop:=EL r W0.heap.size V o qs/\Bl W0 V
theorem Ej.below{r:Bool}{W0 V V':G}{o:Value}{qs:List Rat}(h:Ej r W0 V o qs)(a:Bl V V'):Ej r W0 V' o qs:=⟨h.1.below a,Bt h.2 a⟩
theorem VV(va vq:Value)(ps:List Rat)(q:Rat)(w:G)(ha:RowK false w va ps)(hq:Jl w vq q)(ai:Dc ps)(ah:Sq q)(ak:ps.length<1099511627776):
 Calls Tryz.prog 72 #[va,vq] w λe w'=>∃u,e=.returned u/\RowK false w' u (Jh (YJ q ps))/\Bl w w':=by
 have Qm:Tryz.prog.follows .mixedOrders=true:=by kernel_rfl
 obtain⟨a,I,ca,rfl⟩:=ha.form;obtain⟨a8,l8,Y,s8,b8,k8,Z,t8,rfl⟩:=Jl.form hq;obtain⟨ap,az,aw,bj,s,t,aa,bb,ll,cc,kk,dd,hc⟩:=ha.formsF;have b0:=JE.new w 49 (C a8 l8 Y) (F s8) (C b8 k8 Z) (F t8);have Qf:Bl w (w.alloc (.cells #[C a8 l8 Y,F s8,C b8 k8 Z,F t8] 49)):=Ba w _;obtain⟨W0,ad⟩:=ex (w.alloc (.cells #[C a8 l8 Y,F s8,C b8 k8 Z,F t8] 49));rw[ad]at Qf b0;obtain⟨Qp,HA,HQ,HP,Qn,Qh,Qd,Qo⟩:=GC ad hc (hq.below Qf) ai ah ap Qf b0;have Qk:=Ja ak;clear ha hq ai ah ap az aw hc ad ak b0 Qf;go_enter Tryz.func72,Tryz.ntmps72
 go_upto_region 1 with fail
 rw[Qp.o];go_wp2;go_loopw [5,6] (λo i wr=>∃k:Nat,k<=I/\i=B H (k:Int)/\(∃J L,o=C J k L)/\Hid (Ej false W0 wr o (Y0 (λi=>cf ps i*q) k))) (λ_ i _=>I-(intOf i).toNat)
 case atStart=>exact⟨0,AX _,rfl,⟨_,_,rfl⟩,Ja ⟨EL.nil _ _ _,BB _ _⟩⟩
 case round=>
  obtain⟨k,hk,rfl,⟨J,L,rfl⟩,HR⟩:=hrel;by_cases bc:k<I
  . have bh:(k:Int)<(I:Int):=om
    obtain⟨M,b,rfl,P,c0,c1,c2,c3⟩:=HA.o k bc;have Qi:=Ja (show ∀V,Bl W0 V->(V.cell? ⟨b,k*4,none⟩=some (C (aa k) (ll k) (cc k))/\V.cell? ⟨b,k*4+1,none⟩=some (F (s k))/\V.cell? ⟨b,k*4+2,none⟩=some (C (bb k) (kk k) (dd k))/\V.cell? ⟨b,k*4+3,none⟩=some (F (t k)))/\Jl V (.agg #[C (aa k) (ll k) (cc k),F (s k),C (bb k) (kk k) (dd k),F (t k)]) (cf ps k)from λV h=>by
     have R:=Bt Qd.o h;exact⟨⟨(R.cell (p:=⟨b,_,none⟩) P).trans c0,(R.cell (p:=⟨b,_,none⟩) P).trans c1,(R.cell (p:=⟨b,_,none⟩) P).trans c2,(R.cell (p:=⟨b,_,none⟩) P).trans c3⟩,M.below R⟩)
    have HK:=Ja (show k+1<=1099511627776 by have:=Qk.o;have:=Qh.o;omega);clear M c0 c1 c2 c3 P;go_wp2_with fail
    have Qj:=HR.o.below ((BB _ wr).drew);refine Jn Qm [[],[],[],[1,2],[3],[],[4,5],[6],[0,7,6],[8,8,0,1,2,3,4,5,6,7,8]] (by kernel_rfl) DR
     (λD af V=>∃(ta tb X td te tf tg S N Q:Value),af={ tmps:=#[C (some ⟨b,0,none⟩) I ca,.agg #[C a8 l8 Y,F s8,C b8 k8 Z,F t8],undef,.pointer (some ⟨w.heap.size,0,none⟩),C none 0 0,Q,B H ↑k,B H ↑k,C (some ⟨b,0,none⟩) I ca,B H ↑I,F true,u11,u12,ta,tb,X,td,te,tf,tg,S,N,undef,undef],defers:=[] }/\Hid ((D 0=true->ta=C J k L)/\(D 1=true->tb=C (some ⟨b,0,none⟩) I ca)/\(D 2=true->X=B H (k:Int))/\(D 3=true->td=.pointer (some ⟨b,k*4,none⟩))/\(D 4=true->D 8=false->Jl V te (cf ps k))/\(D 5=true->D 8=false->Jl V tf q)/\(D 6=true->D 8=false->Jl V tg (cf ps k*q))/\(D 7=true->∃a l c,S=C a l c)/\(D 8=true->∃a l c,N=C a l c)/\((D 9=false->Q=Value.slice J k L)/\(D 9=true->Q=N)))/\Hid ((D 7=false->Ej false W0 V (C J k L) (Y0 (λi=>cf ps i*q) k))/\(D 7=true->D 8=false->∃(O:G) (x y z u:Value),V=O.alloc (.cells #[x,y,z,u] (Dy false))/\(Ej false W0 O (C J k L) (Y0 (λi=>cf ps i*q) k))/\Dz false O (.agg #[x,y,z,u]) (cf ps k*q)/\S=C (some ⟨O.heap.size,0,none⟩) 1 1)/\(D 8=true->Ej false W0 V N (Y0 (λi=>cf ps i*q) k++[cf ps k*q]))))
     (E8 ⟨_,_,rfl,Ja ⟨DO,DO,DO,DO,DO,DO,DO,DO,DO,⟨λ_=>rfl,DO⟩⟩,Ja ⟨λ_=>Qj,DO,DO⟩⟩) ?step1 ?fin1
    case step1=>
     rintro D af V i ds f M m n ⟨ta,tb,X,td,te,tf,tg,S,N,Q,rfl,d,A⟩;have bg:i<10:=(Ad.1 M).1;obtain rfl|rfl|rfl|rfl|rfl|rfl|rfl|rfl|rfl|rfl:=F0 i om
     all_goals
      simp only[Ah,Ae,Ak]at M;subst M
     . have v:D 8=false:=DQ f n;have W:D 9=false:=DQ f n;obtain rfl:=Dt d W;clear m;refine DT ?_;exact⟨(E1 (Di d) ⟨λ_=>rfl,λh=>by simp[W]at h⟩),Ja ⟨λh=>A.o.1 (by simpa using h),λh E=>A.o.2.1 (by simpa using h) (by simpa using E),λh=>A.o.2.2 (by simpa using h)⟩⟩
     . have v:D 8=false:=DQ f (DQ (a:=7) f (DQ (a:=6) f (DQ (a:=4) f (DQ (a:=3) f n))));have r:D 7=false:=DQ f (DQ (a:=6) f (DQ (a:=4) f (DQ (a:=3) f n)));have g:=A.o.1 r;clear m;refine DT ?_;exact⟨Ja ⟨d.o.1,λ_=>rfl,d.o.2.2.1,d.o.2.2.2.1,d.o.2.2.2.2.1,(Dk d),(Dn d),(Dq d),(Ds d),⟨λh=>(Dt d) (by simpa using h),λh=>d.o.2.2.2.2.2.2.2.2.2.2 (by simpa using h)⟩⟩,Ja ⟨λ_=>g,λh=>by simp[r]at h,λh=>by simp[v]at h⟩⟩
     . have v:D 8=false:=DQ f (DQ (a:=7) f (DQ (a:=6) f (DQ (a:=4) f (DQ (a:=3) f n))));have r:D 7=false:=DQ f (DQ (a:=6) f (DQ (a:=4) f (DQ (a:=3) f n)));have g:=A.o.1 r;clear m;refine DT ?_;exact⟨Ja ⟨d.o.1,d.o.2.1,λ_=>rfl,d.o.2.2.2.1,d.o.2.2.2.2.1,(Dk d),(Dn d),(Dq d),(Ds d),⟨λh=>(Dt d) (by simpa using h),λh=>d.o.2.2.2.2.2.2.2.2.2.2 (by simpa using h)⟩⟩,Ja ⟨λ_=>g,λh=>by simp[r]at h,λh=>by simp[v]at h⟩⟩
     . have v:D 8=false:=DQ f (DQ (a:=7) f (DQ (a:=6) f (DQ (a:=4) f n)));have r:D 7=false:=DQ f (DQ (a:=6) f (DQ (a:=4) f n));have g:=A.o.1 r;obtain rfl:=d.o.2.1 (m 1 DO);obtain rfl:=d.o.2.2.1 (m 2 DO);clear m;refine DT ?_;exact⟨Ja ⟨d.o.1,λ_=>rfl,λ_=>rfl,λ_=>rfl,d.o.2.2.2.2.1,(Dk d),(Dn d),(Dq d),(Ds d),⟨λh=>(Dt d) (by simpa using h),λh=>d.o.2.2.2.2.2.2.2.2.2.2 (by simpa using h)⟩⟩,Ja ⟨λ_=>g,λh=>by simp[r]at h,λh=>by simp[v]at h⟩⟩
     . have v:D 8=false:=DQ f (DQ (a:=7) f (DQ (a:=6) f n));have r:D 7=false:=DQ f (DQ (a:=6) f n);have g:=A.o.1 r;obtain rfl:=d.o.2.2.2.1 (m 3 DO);obtain⟨⟨e0,e1,e2,e3⟩,hr⟩:=Qi.o V g.2;clear m;refine DT ?_;exact⟨Ja ⟨d.o.1,d.o.2.1,d.o.2.2.1,λ_=>rfl,λ_ _=>hr,(Dk d),(Dn d),(Dq d),(Ds d),⟨λh=>(Dt d) (by simpa using h),λh=>d.o.2.2.2.2.2.2.2.2.2.2 (by simpa using h)⟩⟩,Ja ⟨λ_=>g,λh=>by simp[r]at h,λh=>by simp[v]at h⟩⟩
     . have v:D 8=false:=DQ f (DQ (a:=7) f (DQ (a:=6) f n));have r:D 7=false:=DQ f (DQ (a:=6) f n);have g:=A.o.1 r;have n0:=Qo.o.below g.2;obtain⟨e0,e1,e2,e3⟩:=n0.cq;clear m;refine DT ?_;exact⟨Ja ⟨d.o.1,d.o.2.1,d.o.2.2.1,d.o.2.2.2.1,d.o.2.2.2.2.1,λ_ _=>HQ.o.below g.2,(Dn d),(Dq d),(Ds d),⟨λh=>(Dt d) (by simpa using h),λh=>d.o.2.2.2.2.2.2.2.2.2.2 (by simpa using h)⟩⟩,Ja ⟨λ_=>g,λh=>by simp[r]at h,λh=>by simp[v]at h⟩⟩
     . have v:D 8=false:=DQ f n;have r:D 7=false:=DQ f n;have g:=A.o.1 r;have U:=d.o.2.2.2.2.1 (m 4 DO) v;have h1:=Dk d (m 5 DO) v;clear m;have HC:=Ja (Kp _ _ (cf ps k) q V U h1 (HP.o.at k) Qn.o);clear U h1;refine Jb rfl rfl λK hK=>?_;go_simp;go_wp2_with(go_at_call 73;refine HC.o.mono ?_;rintro e w5 ⟨v5,rfl,ay,T⟩)
       exact E8 ⟨_,_,rfl,Ja ⟨d.o.1,d.o.2.1,d.o.2.2.1,d.o.2.2.2.1,λh E=>(d.o.2.2.2.2.1 h E).below T,λh E=>((Dk d) h E).below T,λ_ _=>ay,(Dq d),(Ds d),⟨λh=>(Dt d) (by simpa using h),λh=>d.o.2.2.2.2.2.2.2.2.2.2 (by simpa using h)⟩⟩,Ja ⟨λ_=>g.below T,λh=>by simp[r]at h,λh=>by simp[v]at h⟩⟩
     . have v:D 8=false:=DQ f n;have g:=A.o.1 n;have U:=Dn d (m 6 DO) v;obtain⟨a9,l9,c9,s9,b9,k9,d9,t9,rfl⟩:=Jl.form U;clear m;refine DT ?_;exact⟨Ja ⟨d.o.1,d.o.2.1,d.o.2.2.1,d.o.2.2.2.1,λh E=>(d.o.2.2.2.2.1 h E).below (Ba V _),λh E=>((Dk d) h E).below (Ba V _),λh E=>((Dn d) h E).below (Ba V _),λ_=>⟨_,_,_,rfl⟩,(Ds d),⟨λh=>(Dt d) (by simpa using h),λh=>d.o.2.2.2.2.2.2.2.2.2.2 (by simpa using h)⟩⟩,Ja ⟨λh=>by simp at h,λ_ _=>⟨V,_,_,_,_,rfl,g,U,rfl⟩,λh=>by simp[v]at h⟩⟩
     . obtain⟨O,x9,y9,z9,u9,rfl,g,bd,av⟩:=A.o.2.1 (m 7 DO) n;obtain rfl:=d.o.1 (m 0 DO);have W:D 9=false:=DQ f n;have Qg:=m 7 DO;obtain⟨v5,w5,an,aj,bi,T⟩:=Xk false W0.heap.size O _ _ g.1 bd (by rw[JG];exact HK.o) g.2.size;dsimp only[Et,Dy]at an;subst av;obtain⟨a6,c6,e6,_⟩:=aj.form;subst e6;clear m;refine Jb rfl rfl λK hK=>?_;refine Lib.wp_append_run _ _ _ 30 30 rfl _ _ rfl rfl _ _ an (hK _ _ ?_);exact E8 ⟨_,_,rfl,Ja ⟨λ_=>rfl,d.o.2.1,d.o.2.2.1,d.o.2.2.2.1,λ_ h=>by simp at h,λ_ h=>by simp at h,λ_ h=>by simp at h,(Dq d),λ_=>⟨_,_,_,rfl⟩,⟨λh=>(Dt d) (by simpa using h),λh=>by simp[W]at h⟩⟩,Ja ⟨λh=>by simp[Qg]at h,λ_ h=>by simp at h,λ_=>⟨aj,T _ _ (Aa _) g.2⟩⟩⟩
     . clear m;refine DT ?_;exact⟨(E1 d ⟨λh=>by simp at h,λ_=>rfl⟩),Ja ⟨λh=>A.o.1 (by simpa using h),λh E=>A.o.2.1 (by simpa using h) (by simpa using E),λh=>A.o.2.2 (by simpa using h)⟩⟩
    case fin1=>
     rintro D af V ae ⟨ta,tb,X,td,te,tf,tg,S,N,Q,rfl,d,A⟩;have HO:=Ja (A.o.2.2 (ae 8 DR));obtain rfl:=d.o.2.2.2.2.2.2.2.2.2.2 (ae 9 DR);clear d A ae;obtain⟨a9,c9,e9,_⟩:=HO.o.1.form;rw[<-YG,JG]at e9;subst e9;go_wp2_with fail
     go_roundw
     case rel=>exact⟨k+1,om,by go_num,⟨a9,c9,rfl⟩,Ja (by rw[YG];exact HO.o)⟩
     case measure=>simp[intOf];omega
  . have Ql:k=I:=om
    subst Ql;have HT:=Ja (Hp _ _ wr (HR.o.1.row (by rw[JG];omega)));have HE:=Ja (show Jh (Y0 (λi=>cf ps i*q) k)=Jh (YJ q ps)from YD λj=>by
     rw[Ij,Y4];split
     . rfl
     . rw[J4 (by have:=Qh.o;omega)];grind)
    rw[HE.o]at HT;go_wp2_with(go_at_call 23;refine HT.o.mono ?_;clear HT;rintro e w1 ⟨u1,rfl,aq,bf⟩;obtain⟨a7,l7,c7,rfl⟩:=aq.form)
    go_ret;exact⟨_,rfl,aq,(Bt Qd.o HR.o.2).trans (bf.mono (AE Qd.o.size HR.o.2.size))⟩
theorem VW{ps:List Rat}(h:Dc ps):Dc (Jh (YJ (-1) ps)):=Dc.of λi=>by
 rw[J9,Y4,show cf ps i*-1=-(cf ps i)from by grind];exact(h.at i).neg
theorem Hq(r n:Value)(ps qs:List Rat)(w:G)(l:RowK false w r ps)(f:RowK false w n qs)(q:Dc ps)(i:Dc qs)(c:ps.length<1099511627776/\qs.length<1099511627776):
 Calls Tryz.prog 31 #[r,n] w λe s=>∃u,e=.returned u/\RowK false s u (Ew ps qs)/\Bl w s:=by
 obtain⟨a,Q,N,rfl⟩:=l.form;obtain⟨b,lb,K,rfl⟩:=f.form;obtain⟨D,m,o,g⟩:=D3 (show EP ps (Jh (YJ (-1) qs))=Ew ps qs from YD λj=>by rw[Xf,J9,Xf]) (Yx (-1) om om w) (λ(V:G) (u:Value) (h:Bl w V) (d:Jl V u ((-1:Int):Rat))=>VV _ u qs (-1) V (f.below h) d i (Sq.of (k:=1) ⟨(Sm.one 1 om).neg,Sm.one 1 om⟩ om) c.2) (λ(V:G) (u:Value) (h:Bl w V) (d:RowK false V u (Jh (YJ (-1) qs)))=>GK _ u ps _ V (l.below h) d q (VW i) ⟨c.1,CM (Jz _) (by unfold YJ;rw[Fs];exact c.2)⟩);rw[D.o]at g;clear l f q i c;go_enter Tryz.func31,Tryz.ntmps31
 go_wp2_with(first
  |(go_at_call 62;refine m.o.mono ?_;clear m;rintro e P ⟨u1,rfl,E,v⟩)
  |(go_at_call 72;refine(o.o _ _ v E).mono ?_;clear o;rintro e M ⟨u2,rfl,A,z⟩;have p:=Bt v z)
  |(go_at_call 30;refine(g.o _ _ p A).mono ?_;clear g;rintro e L ⟨u3,rfl,t,y⟩;have x:=Bt p y;obtain⟨J,I,O,rfl⟩:=t.form))
 go_ret;exact⟨_,rfl,t,x⟩
theorem Ik(N:Value)(n:Nat)(q:Rat)(w:G)(v:Jl w N q)(hn:n<1099511627775):
 Calls Tryz.prog 74 #[B H (n:Int),N] w λe V=>∃u,e=.returned u/\RowK false V u (Jh (Dg n [q]))/\Bl w V:=by
 obtain⟨x,s,l,p,I,E,m,t,rfl⟩:=Jl.form v;have b0:=JE.new w 49 (C x s l) (F p) (C I E m) (F t);have d:Bl w (w.alloc (.cells #[C x s l,F p,C I E m,F t] 49)):=Ba w _;obtain⟨W0,g⟩:=ex (w.alloc (.cells #[C x s l,F p,C I E m,F t] 49));rw[g]at d b0;obtain⟨Qh,Y,Q,Qg⟩:=D3 g (v.below d) d b0;clear v g b0 d;go_enter Tryz.func74,Tryz.ntmps74
 go_upto_region 1 with fail
 rw[Qh.o];go_wp2;go_loopw [5,6] (λo i wr=>∃k:Nat,k<=n/\i=B H (k:Int)/\(∃P O,o=C P k O)/\Hid (Ej false W0 wr o (Y0 (λ_=>0) k))) (λ_ i _=>n-(intOf i).toNat)
 case atStart=>exact⟨0,AX _,rfl,⟨_,_,rfl⟩,Ja ⟨EL.nil _ _ _,BB _ _⟩⟩
 case round=>
  obtain⟨k,hk,rfl,⟨P,O,rfl⟩,a⟩:=hrel;by_cases ap:k<n
  . have aj:(k:Int)<(n:Int):=om
    have K:=Ja (Yx 0 om om wr);have HK:=Ja (show k+1<=1099511627776 by omega);go_wp2_with(first
     |(go_at_call 62;refine K.o.mono ?_;clear K;rintro e w3 ⟨u3,rfl,z,y⟩;obtain⟨ah,af,av,aq,ai,an,ae,ak,rfl⟩:=Jl.form z;obtain⟨W,S,f,c,A,b⟩:=Xk false W0.heap.size w3 _ _ (a.o.1.below y) z (by rw[JG];exact HK.o) (by have:=a.o.2.size;have:=y.size;omega);have L:=Ja c;have Qf:=Ja (b W0.heap.size W0 (Aa _) (Bt a.o.2 y));clear c A b z)
     |(at_builtin;refine Bk _ rfl _ _ 30 30 rfl _ _ rfl rfl _ _ f ?_))
    obtain⟨Z,c9,U,_⟩:=L.o.form;go_roundw
    case rel=>
     refine⟨k+1,om,by go_num,⟨Z,c9,?_⟩,Ja ⟨?_,Qf.o⟩⟩
     . rw[Al,JG]at U;exact U
     . rw[YG];exact L.o
    case measure=>simp[intOf];omega
  . have X:k=n:=om
    subst X;have M:=Qg.o.below a.o.2;obtain⟨e0,e1,e2,e3⟩:=M.cq;obtain⟨W,S,f,c,A,b⟩:=Xk false W0.heap.size wr _ _ a.o.1 (Y.o.below a.o.2) (by rw[JG];omega) a.o.2.size;dsimp only[Et,Dy]at f;have HE:=Ja (show Jh (Y0 (λ_=>0) k++[q])=Jh (Dg k [q])from YD λj=>by
     rw[LE,JG,GR,Ij];by_cases D:j=k
     . rw[BI D,BI om,D,A0,Yo]
     . rw[BE D];by_cases T:k<=j
       . rw[BI T,J4 si];split<;>rfl
       . rw[BE T];split<;>rfl)
    have J:=b W0.heap.size W0 (Aa _) a.o.2;have r:=Ja (Hp _ _ S (c.row (by rw[Al,JG];simp;omega)));rw[HE.o]at r;clear c A b M;go_wp2_with(first
     |(at_builtin;refine Bk _ rfl _ _ 30 30 rfl _ _ rfl rfl _ _ f ?_)
     |(go_at_call 23;refine r.o.mono ?_;clear r;rintro e w1 ⟨u1,rfl,R,ad⟩;obtain⟨a7,l7,c7,rfl⟩:=R.form))
    go_ret;exact⟨_,rfl,R,(Bt Q.o J).trans (ad.mono (AE Q.o.size J.size))⟩
def DW(W:G)(R:Nat)(s:ByteArray)(I E A:Int):Prop:=W.heap[R]?=some (.cells #[.string s,B H I,B H E,B H A] 82 (0,0))
section
variable {W W':World} {R:Nat} {s:ByteArray} {I E A:Int}
theorem DW.lt(h:DW W R s I E A):R<W.heap.size:=(Ac.1 h).1
theorem DW.c0(h:DW W R s I E A):W.cell? ⟨R,0,none⟩=some (.string s):=by simp[World.cell?,show W.heap[R]?=_ from h]
theorem DW.c1(h:DW W R s I E A):W.cell? ⟨R,1,none⟩=some (B H I):=by simp[World.cell?,show W.heap[R]?=_ from h]
theorem DW.cp(h:DW W R s I E A):type_of% (And.intro h.c0 h.c1):=⟨h.c0,h.c1⟩
theorem DW.c2(h:DW W R s I E A):W.cell? ⟨R,2,none⟩=some (B H E):=by simp[World.cell?,show W.heap[R]?=_ from h]
theorem DW.c3(h:DW W R s I E A):W.cell? ⟨R,3,none⟩=some (B H A):=by simp[World.cell?,show W.heap[R]?=_ from h]
theorem DW.cq(h:DW W R s I E A):type_of% (And.intro h.c0 (And.intro h.c1 (And.intro h.c2 h.c3))):=⟨h.c0,h.c1,h.c2,h.c3⟩
theorem DW.f(h:DW W R s I E A)(o:Nat):W.frozen? ⟨R,o,none⟩=false:=by simp[World.frozen?,show W.heap[R]?=_ from h]
theorem DW.below(h:DW W R s I E A)(a:Bl W W'):DW W' R s I E A:=(a.block R h.lt).trans h
theorem DW.set1(h:DW W R s I E A)(x:Int):DW (W.setCell ⟨R,1,none⟩ (B H x)) R s x E A:=by
 have:=JN (o:=1) h (B H x);exact this
theorem DW.set2(h:DW W R s I E A)(x:Int):DW (W.setCell ⟨R,2,none⟩ (B H x)) R s I x A:=by
 have:=JN (o:=2) h (B H x);exact this
theorem DW.set3(h:DW W R s I E A)(x:Int):DW (W.setCell ⟨R,3,none⟩ (B H x)) R s I E x:=by
 have:=JN (o:=3) h (B H x);exact this
theorem DW.drewN(h:DW W R s I E A)(n:Nat):DW (W.drewN n) R s I E A:=h
end
variable{s:ByteArray}{I j:Nat}{c:UInt8}
theorem JA(W:G)(n:Nat)(r:Option Nat):W.grownBy (W.drewN n) r:=⟨rfl,rfl,rfl,Aa _,λ_ _ _=>rfl⟩
theorem Gr(R:Nat)(s:ByteArray)(I E A e p:Int)(w:G)(h:DW w R s I E A):
 Calls Tryz.prog 48 #[.pointer (some ⟨R,0,none⟩),B H e,B H p] w λr b=>r=.returned (.tuple #[])/\DW b R s I (if E=0 then e else E) (if E=0 then p else A)/\w.grownBy b (some R):=by
 have c2:=h.c2;have f2:=h.f 2;have f3:=h.f 3;have c3:=h.c3;by_cases a:E=0
 . rw[BI a,BI a];go_enter Tryz.func48,Tryz.ntmps48
   go_wp2;go_end0;exact⟨rfl,(h.set2 e).set3 p,Jf (JD w R 2 _) (JD _ R 3 _)⟩
 . rw[BE a,BE a];have c:(E==0)=false:=by rw[BH];exact a
   go_enter Tryz.func48,Tryz.ntmps48
   go_wp2;go_end0;exact⟨rfl,h,Yw _ _⟩
theorem Kq{d:UInt8}(h:c≠d):((c.toNat:Int)==(d.toNat:Int))=false:=by
 rw[BH];intro e;exact h (Bq.1 om)
theorem Jg(s:ByteArray):(Jd s).length=s.size:=by unfold Jd;simp
theorem Kr{f:UInt8->Bool}(g:I<=j)(i:j<=s.size)(b:∀k (a:k<s.size),I<=k->k<j->f s[k]=true)(e:∀l:j<s.size,f s[j]=false):Y9 f (Jd s) I=j:=
 KD g (by rw[Jg];exact i) (λk a d c=>b k (by rwa[Jg]at a) d c) (λa=>e (by rwa[Jg]at a))
theorem PI(a:j<s.size):JM (Jd s) j c=(s[j]==c):=by
 unfold JM;rw[Af (by rw[Jg];exact a)];rfl
theorem PJ(a:s.size<=j):JM (Jd s) j c=false:=by
 unfold JM;rw[Aq (by rw[Jg];exact a)];rfl
def Eb(W:G)(R:Nat):Nat:=(intOf ((W.cell? ⟨R,1,none⟩).getD undef)).toNat
theorem XP{W:G}{R:Nat}{E A:Int}(h:DW W R s I E A):Eb W R=I:=by
 unfold Eb;rw[h.c1];simp[intOf]
theorem Yy(R:Nat)(s:ByteArray)(I:Nat)(E A:Int)(c:UInt8)(w:G)(h:DW w R s I E A)(S:I<=s.size)(hs:s.size<=300):
 Calls Tryz.prog 47 #[.pointer (some ⟨R,0,none⟩),B .u8 (c.toNat:Int)] w λr z=>r=.returned (F (decide (E=0)&&JM (Jd s) (DS (Jd s) I) c))/\DW z R s (DS (Jd s) I:Nat) E A/\w.grownBy z (some R):=by
 have P:=Ja h;clear h;go_enter Tryz.func47,Tryz.ntmps47
 go_wp2;go_loopw [5] (λ_ wr=>∃j:Nat,I<=j/\j<=s.size/\Hid (DW wr R s j E A/\w.grownBy wr (some R)/\∀k (n:k<s.size),I<=k->k<j->s[k]=32)) (λ_ wr=>s.size-Eb wr R)
 case atStart=>exact⟨I,Aa _,S,Ja ⟨P.o,Yw _ _,λk _ v x=>by omega⟩⟩
 case round=>
  obtain⟨j,v,x,a⟩:=hrel;obtain⟨c0,c1⟩:=a.o.1.cp;have c2:=a.o.1.c2;have f1:=a.o.1.f 1;by_cases y:j<s.size
  . have U:(j:Int)<(s.size:Int):=om
    have V:(0:Int)<=(j:Int):=om
    by_cases l:s[j]=32
    . have L:((s[j].toNat:Int)==32)=true:=by rw[l];rfl
      have D:=Ja l;clear l;go_wp2_with fail
      go_quiet (fail)
      go_wp2;go_roundw
      case rel=>
       refine⟨j+1,om,om,Ja ⟨?_,Jf (Jf a.o.2.1 (JA _ _ _)) (JD _ R 1 _),λk n p t=>?_⟩⟩
       . have:=(a.o.1.drewN nq).set1 ((j:Int)+1);rw[show((j:Int)+1)=((j+1:Nat):Int)from by omega]at this;exact this
       . by_cases e:k=j
         . subst e;exact D.o
         . exact a.o.2.2 k n p om
      case measure=>
       have K:=XP a.o.1;have M:Eb ((wr.drewN nq).setCell ⟨R,1,none⟩ (B H ((j:Int)+1))) R=j+1:=by
        have:=(a.o.1.drewN nq).set1 ((j:Int)+1);rw[show((j:Int)+1)=((j+1:Nat):Int)from by omega]at this ⊢;exact XP this
       show s.size-Eb ((wr.drewN nq).setCell ⟨R,1,none⟩ (B H ((j:Int)+1))) R<s.size-Eb wr R;rw[K,M];omega
    . have L:((s[j].toNat:Int)==32)=false:=Kq (d:=32) l;have f:=Ja (show DS (Jd s) I=j from Kr v x (λk n p t=>by rw[a.o.2.2 k n p t];rfl) (λ_=>BH.2 l));have i:=Ja (PI (s:=s) (c:=c) y);clear l;go_wp2_with fail
      go_quiet (fail)
      go_wp2;have o:=Ja (show w.grownBy (wr.drewN nq) (some R)from Jf a.o.2.1 (JA _ _ _));have g:=Ja (a.o.1.drewN nq);obtain⟨O,J⟩:=g.o.cp;have T:=g.o.c2;by_cases b:E=0
      . have u:(E==0)=true:=by rw[b];rfl
        by_cases m:s[j]=c
        . have N:((s[j].toNat:Int)==(c.toNat:Int))=true:=by rw[m];exact beq_self_eq_true _
          have q:=Ja (show(decide (E=0)&&(s[j]==c))=true by rw[b,m];simp);clear m b;go_quiet (fail)
          go_wp2;go_ret;exact⟨by rw[f.o,i.o,q.o];rfl,by rw[f.o];exact g.o.drewN _,Jf o.o (JA _ _ _)⟩
        . have N:((s[j].toNat:Int)==(c.toNat:Int))=false:=Kq m;have q:=Ja (show(decide (E=0)&&(s[j]==c))=false by rw[BH.2 m,Bool.and_false]);clear m b;go_quiet (fail)
          go_wp2;go_ret;exact⟨by rw[f.o,i.o,q.o];rfl,by rw[f.o];exact g.o.drewN _,Jf o.o (JA _ _ _)⟩
      . have u:(E==0)=false:=by rw[BH];exact b
        have q:=Ja (show(decide (E=0)&&(s[j]==c))=false by rw[BF b,Bool.false_and]);clear b;go_quiet (fail)
        go_wp2;go_ret;exact⟨by rw[f.o,i.o,q.o];rfl,by rw[f.o];exact g.o.drewN _,Jf o.o (JA _ _ _)⟩
  . have Q:j=s.size:=om
    have W:decide (j<s.size)=false:=BF om;have f:=Ja (show DS (Jd s) I=j from Kr v x (λk n p t=>by rw[a.o.2.2 k n p t];rfl) (λh=>by omega));have i:=Ja (PJ (s:=s) (j:=j) (c:=c) om);clear Q y;go_wp2_with fail
    go_quiet (fail)
    go_wp2;have o:=Ja (show w.grownBy (wr.drewN nq) (some R)from Jf a.o.2.1 (JA _ _ _));have g:=Ja (a.o.1.drewN nq);obtain⟨O,J⟩:=g.o.cp;have T:=g.o.c2;by_cases b:E=0
    . have u:(E==0)=true:=by rw[b];rfl
      clear b;go_quiet (fail)
      go_wp2;go_ret;exact⟨by rw[f.o,i.o,Bool.and_false];rfl,by rw[f.o];exact g.o.drewN _,Jf o.o (JA _ _ _)⟩
    . have u:(E==0)=false:=by rw[BH];exact b
      clear b;go_quiet (fail)
      go_wp2;go_ret;exact⟨by rw[f.o,i.o,Bool.and_false];rfl,by rw[f.o];exact g.o.drewN _,Jf o.o (JA _ _ _)⟩
end
section
attribute [local go_sem] Oper.semAt_some
variable{l:List UInt8}{d n p:Nat}
theorem PK(c:UInt8)(w:G):Calls Tryz.prog 124 #[B .u8 (c.toNat:Int)] w λr e=>r=.returned (F (DY c))/\e=w:=by
 by_cases b:48<=c.toNat
 . have f:decide ((48:Int)<=(c.toNat:Int))=true:=BJ om;by_cases d:c.toNat<=57
   . have a:=Ja (show DY c=true by simp[DY,b,d]);go_enter Tryz.func124,Tryz.ntmps124
     go_wp2;go_ret;exact⟨by rw[a.o];simp;omega,rfl⟩
   . have a:=Ja (show DY c=false by simp[DY,d]);go_enter Tryz.func124,Tryz.ntmps124
     go_wp2;go_ret;exact⟨by rw[a.o];simp;omega,rfl⟩
 . have a:=Ja (show DY c=false by simp[DY,b]);go_enter Tryz.func124,Tryz.ntmps124
   go_wp2;go_ret;exact⟨by rw[a.o];rfl,rfl⟩
theorem J0(R:Nat)(s:ByteArray)(I:Nat)(E A:Int)(c:UInt8)(w:G)(h:DW w R s I E A)(j:I<=s.size)(hs:s.size<=300)(b:Bool)(l:b=(decide (E=0)&&JM (Jd s) (DS (Jd s) I) c)):
 Calls Tryz.prog 45 #[.pointer (some ⟨R,0,none⟩),B .u8 (c.toNat:Int)] w λr m=>r=.returned (F b)/\DW m R s ((DS (Jd s) I+(if b then 1 else 0):Nat):Int) E A/\w.grownBy m (some R):=by
 have f:=Ja (Yy R s I E A c w h j hs);have k:=Ja (show DS (Jd s) I<=300 from AE (Yp (by rw[Jg];exact j)) (by rw[Jg];exact hs));rw[<-l]at f;clear h j hs l;cases b
 . go_enter Tryz.func45,Tryz.ntmps45
   go_wp2_with first
    |(go_at_call 47;refine f.o.mono ?_;clear f;rintro e n ⟨rfl,a,d⟩;have g:=Ja a;clear a;have i:=Ja d;clear d)
   go_ret;exact⟨rfl,g.o,i.o⟩
 . go_enter Tryz.func45,Tryz.ntmps45
   go_wp2_with first
    |(go_at_call 47;refine f.o.mono ?_;clear f;rintro e n ⟨rfl,a,d⟩;have g:=Ja a;have c1:=a.c1;have f1:=a.f 1;clear a;have i:=Ja d;clear d;have o:=k.o;clear k)
   go_ret;exact⟨rfl,g.o.set1 _,Jf i.o (JD _ R 1 _)⟩
theorem PL(h:l.all DY=true):num l<10^l.length:=by
 have:=Yd (KA h);rwa[II]at this
def Yz(l:List UInt8)(p d n:Nat):Prop:=p+d<=l.length/\((l.drop p).take d).all DY=true/\n=num ((l.drop p).take (min 12 d))
theorem Yz.zero(h:p<=l.length):Yz l p 0 0:=⟨om,DO,by simp[num,Dw,val]⟩
theorem PM(l:List UInt8)(p d:Nat)(h:p+d<l.length):(l.drop p).take (d+1)=(l.drop p).take d++[l[p+d]]:=by
 rw[A7 (by rw[Ay];omega),CZ]
theorem Yz.all{l:List UInt8}{p d n:Nat}(h:Yz l p d n)(hl:p+d<l.length)(a:DY l[p+d]=true):((l.drop p).take (d+1)).all DY=true:=by
 rw[PM l p d hl,CT,h.2.1];simp[a]
theorem Yz.next1(h:Yz l p d n)(hl:p+d<l.length)(a:DY l[p+d]=true)(b:d<12):Yz l p (d+1) (10*n+(l[p+d].toNat-48)):=by
 refine⟨om,h.all hl a,?_⟩;rw[show min 12 (d+1)=d+1 from by omega,PM l p d hl,Jx,h.2.2,show min 12 d=d from by omega];omega
theorem Yz.next2(h:Yz l p d n)(hl:p+d<l.length)(a:DY l[p+d]=true)(b:12<=d):Yz l p (d+1) n:=by
 refine⟨om,h.all hl a,?_⟩;rw[show min 12 (d+1)=min 12 d from by omega];exact h.2.2
theorem Yz.lt(h:Yz l p d n):n<10^min 12 d:=by
 have e:((l.drop p).take (min 12 d)).all DY=true:=by
  rw[A8];intro c b;refine A8.1 h.2.1 c ?_;rw[show(l.drop p).take (min 12 d)=((l.drop p).take d).take (min 12 d)from by rw[List.take_take];congr 1;omega]at b;exact Fm b
 have a:=PL e;rw[Ai,Ay,<-h.2.2]at a;have:=h.1;rwa[show min (min 12 d) (l.length-p)=min 12 d from by omega]at a
theorem Yz.lt12(h:Yz l p d n):n<1000000000000:=
 AC h.lt (AD (n:=10) om (by omega:min 12 d<=12))
theorem Yz.lt11(h:Yz l p d n)(a:d<12):n<100000000000:=
 AC h.lt (AD (n:=10) om (by omega:min 12 d<=11))
theorem Yz.dg(h:Yz l p d n)(a:∀hl:p+d<l.length,DY l[p+d]=false):EH l p=p+d:=by
 refine KD om h.1 (λk c b e=>?_) a;have:=A8.1 h.2.1 (l[k]) ?_
 . exact this
 . rw[List.mem_iff_getElem];refine⟨k-p,by rw[Ai,Ay];omega,?_⟩;rw[List.getElem_take,CZ];congr 1;omega
def D6{α:Type}(r:Rd α)(E:Int):Int:=if E=0 then(match r with|.bad e _=>(e:Int)|.ok _ _=>0)else E
def EM{α:Type}(r:Rd α)(E A:Int):Int:=if E=0 then(match r with|.bad _ p=>(p:Int)|.ok _ _=>A)else A
theorem MW(R:Nat)(s:ByteArray)(I:Nat)(E A:Int)(p:Nat)(w:G)(h:DW w R s I E A)(Z:I<=s.size)(hs:s.size<=300)(T:DS (Jd s) I=p):
 Calls Tryz.prog 91 #[.pointer (some ⟨R,0,none⟩)] w λr w'=>∃d n:Nat,r=.returned (.tuple #[B H (n:Int),B H (p:Int)])/\EH (Jd s) p=p+d/\Yz (Jd s) p d n/\DW w' R s ((p+d:Nat):Int) (D6 (JQ (Jd s) I) E) (EM (JQ (Jd s) I) E A)/\w.grownBy w' (some R):=by
 have HI:=Ja (Yy R s I E A 32 w h Z hs);rw[T]at HI;have Qo:p<=s.size:=by rw[<-T];exact AE (Yp (by rw[Jg];exact Z)) (by rw[Jg];exact Aa _)
 have O:=Ja T;have D:=Ja (λ(x y:Int) (I':Int) (V:G) (hh:DW V R s I' E A)=>Gr R s I' E A x y V hh);clear h Z T;go_enter Tryz.func91,Tryz.ntmps91
 go_wp2_with first
  |(go_at_call 47;refine HI.o.mono ?_;clear HI;rintro e w1 ⟨rfl,Y,ad⟩;have Qn:=Ja Y;have c1:=Y.c1;clear Y;have Qp:=Ja ad;clear ad)
 go_loopw [5] (λnv wr=>∃d n:Nat,nv=B H (n:Int)/\p+d<=s.size/\Hid (DW wr R s ((p+d:Nat):Int) E A/\w.grownBy wr (some R)/\Yz (Jd s) p d n)) (λ_ wr=>s.size-Eb wr R)
 case atStart=>exact⟨0,0,rfl,om,Ja ⟨Qn.o,Qp.o,Yz.zero (by rw[Jg];exact Qo)⟩⟩
 case round=>
  clear c1;obtain⟨d,n,rfl,ae,c⟩:=hrel;obtain⟨j,U⟩:∃j,j=p+d:=⟨_,rfl⟩;have b:=Ja U;rw[<-U]at ae c;have ai:(j:Int)-(p:Int)=(d:Int):=om
  clear U;obtain⟨c0,c1⟩:=c.o.1.cp;have f1:=c.o.1.f 1;by_cases ak:j<s.size
  . have ah:(j:Int)<(s.size:Int):=om
    have aj:(0:Int)<=(j:Int):=om
    by_cases u:DY s[j]=true
    . have N:=Ja (PK s[j]);rw[u]at N;have ap:=Ya u;have Qk:=Ja u;clear u;go_wp2_with fail
      go_quiet ((go_at_call 124;exact Calls.quiet_of_same (N.o _)))
      obtain⟨t,h0⟩:∃k,k=nq:=⟨nq,rfl⟩;subst h0;have l:=Ja (show DW (wr.drewN t) R s (j:Int) E A/\w.grownBy (wr.drewN t) (some R)/\Yz (Jd s) p d n from⟨c.o.1.drewN t,Jf c.o.2.1 (JA _ _ _),c.o.2.2⟩);have Ql:=Ja (XP c.o.1);clear N;by_cases S:d<12
      . have Q:(d:Int)<12:=om
        have hn:=l.o.2.2.lt11 S;go_wp2;go_quiet (fail)
        have af:=Ja (show DW ((wr.drewN t).drewN nq) R s (j:Int) E A/\w.grownBy ((wr.drewN t).drewN nq) (some R)/\Yz (Jd s) p d n from⟨l.o.1.drewN nq,Jf l.o.2.1 (JA _ _ _),l.o.2.2⟩);go_wp2;go_roundw
        case rel=>
         refine⟨d+1,10*n+(s[j].toNat-48),?_,?_,Ja ⟨?_,?_,?_⟩⟩
         . congr 1;omega
         . have:=b.o;omega
         . have:=(c.o.1.drewN (t+nq)).set1 ((j:Int)+1);rw[show((j:Int)+1)=((p+(d+1):Nat):Int)from by have:=b.o;omega]at this ⊢;exact this
         . exact Jf (Jf c.o.2.1 (JA _ _ _)) (JD _ R 1 _)
         . have:=c.o.2.2.next1 (by rw[Jg];have:=b.o;omega) (by simp only[<-b.o];exact Qk.o) S;simp only[<-b.o]at this;exact this
        case measure=>
         have P:=XP ((c.o.1.drewN (t+nq)).set1 ((j+1:Nat):Int));rw[show((j+1:Nat):Int)=(j:Int)+1 from by omega]at P;rw[P,Ql.o];omega
      . have Q:¬(d:Int)<12:=om
        go_wp2;go_roundw
        case rel=>
         refine⟨d+1,n,rfl,?_,Ja ⟨?_,?_,?_⟩⟩
         . have:=b.o;omega
         . have:=(c.o.1.drewN t).set1 ((j:Int)+1);rw[show((j:Int)+1)=((p+(d+1):Nat):Int)from by have:=b.o;omega]at this ⊢;exact this
         . exact Jf (Jf c.o.2.1 (JA _ _ _)) (JD _ R 1 _)
         . exact c.o.2.2.next2 (by rw[Jg];have:=b.o;omega) (by simp only[<-b.o];exact Qk.o) om
        case measure=>
         have P:=XP ((c.o.1.drewN t).set1 ((j+1:Nat):Int));rw[show((j+1:Nat):Int)=(j:Int)+1 from by omega]at P;rw[P,Ql.o];omega
    . have N:=Ja (PK s[j]);have u:=Bool.eq_false_iff.2 u;rw[u]at N;have g:=Ja (show EH (Jd s) p=j by rw[b.o];exact c.o.2.2.dg (λhl=>by simp only[<-b.o];exact u));clear u;go_wp2_with fail
      go_quiet ((go_at_call 124;exact Calls.quiet_of_same (N.o _)))
      obtain⟨L,M,K⟩:=Dm (c.o.1.drewN nq) (show w.grownBy (wr.drewN nq) (some R)from Jf c.o.2.1 (JA _ _ _)) c.o.2.2;clear c;by_cases z:d=0
      . have m:j=p:=by have:=b.o;omega
        have i:=Ja (show JQ (Jd s) I=.bad 2 p by unfold JQ;rw[O.o,g.o,BI m]);have Qm:=Ja z;clear z;go_wp2_with first
         |(go_at_call 48;refine(D.o _ _ _ _ L.o).mono ?_;clear D;rintro e w2 ⟨rfl,f,o⟩;have l:=Ja f;have W:=f.c1;clear f;have J:=Ja (Jf M.o o);clear o)
        refine BA (v:=.tuple #[B H (n:Int),B H (p:Int)]) (by simp[results,Tryz.results91,go_sem]) rfl ⟨d,n,rfl,by rw[g.o];exact b.o,K.o,?_,J.o⟩;rw[<-b.o];have:=l.o;rw[i.o];exact this
      . by_cases S:12<d
        . have m:¬j=p:=by have:=b.o;omega
          have X:((j:Int)==(p:Int))=false:=by rw[BH];omega
          have Q:(12:Int)<(d:Int):=om
          have i:=Ja (show JQ (Jd s) I=.bad 3 p by unfold JQ;rw[O.o,g.o,BE m,BI (by have:=b.o;omega)]);clear z;go_wp2_with first
           |(go_at_call 48;refine(D.o _ _ _ _ L.o).mono ?_;clear D;rintro e w2 ⟨rfl,f,o⟩;have l:=Ja f;have W:=f.c1;clear f;have J:=Ja (Jf M.o o);clear o)
          refine BA (v:=.tuple #[B H (n:Int),B H (p:Int)]) (by simp[results,Tryz.results91,go_sem]) rfl ⟨d,n,rfl,by rw[g.o];exact b.o,K.o,?_,J.o⟩;rw[<-b.o];have:=l.o;rw[i.o];exact this
        . have m:¬j=p:=by have:=b.o;omega
          have X:((j:Int)==(p:Int))=false:=by rw[BH];omega
          have Q:¬(12:Int)<(d:Int):=om
          have q:∃a k,JQ (Jd s) I=.ok a k:=by unfold JQ;rw[O.o,g.o,BE m,BE (by have:=b.o;omega)];exact⟨_,_,rfl⟩
          obtain⟨a,k,q⟩:=q;have i:=Ja (show D6 (JQ (Jd s) I) E=E/\EM (JQ (Jd s) I) E A=A by rw[q];unfold D6 EM;constructor<;>(by_cases hE:E=0<;>simp[hE]));clear q;clear z;go_wp2;refine BA (v:=.tuple #[B H (n:Int),B H (p:Int)]) (by simp[results,Tryz.results91,go_sem]) rfl ⟨d,n,rfl,by rw[g.o];exact b.o,K.o,?_,M.o⟩;rw[show((p:Int)+(d:Int))=(j:Int)from by have:=b.o;omega,i.o.1,i.o.2];exact L.o
  . have g:=Ja (show EH (Jd s) p=j by rw[b.o];exact c.o.2.2.dg (λhl=>absurd hl (by rw[Jg];have:=b.o;omega)));have an:decide (j<s.size)=false:=BF om;go_wp2_with fail
    go_quiet (fail)
    obtain⟨L,M,K⟩:=Dm (c.o.1.drewN nq) (show w.grownBy (wr.drewN nq) (some R)from Jf c.o.2.1 (JA _ _ _)) c.o.2.2;clear c;by_cases z:d=0
    . have m:j=p:=by have:=b.o;omega
      have i:=Ja (show JQ (Jd s) I=.bad 2 p by unfold JQ;rw[O.o,g.o,BI m]);have Qm:=Ja z;clear z;go_wp2_with first
       |(go_at_call 48;refine(D.o _ _ _ _ L.o).mono ?_;clear D;rintro e w2 ⟨rfl,f,o⟩;have l:=Ja f;have W:=f.c1;clear f;have J:=Ja (Jf M.o o);clear o)
      refine BA (v:=.tuple #[B H (n:Int),B H (p:Int)]) (by simp[results,Tryz.results91,go_sem]) rfl ⟨d,n,rfl,by rw[g.o];exact b.o,K.o,?_,J.o⟩;rw[<-b.o];have:=l.o;rw[i.o];exact this
    . by_cases S:12<d
      . have m:¬j=p:=by have:=b.o;omega
        have X:((j:Int)==(p:Int))=false:=by rw[BH];omega
        have Q:(12:Int)<(d:Int):=om
        have i:=Ja (show JQ (Jd s) I=.bad 3 p by unfold JQ;rw[O.o,g.o,BE m,BI (by have:=b.o;omega)]);clear z;go_wp2_with first
         |(go_at_call 48;refine(D.o _ _ _ _ L.o).mono ?_;clear D;rintro e w2 ⟨rfl,f,o⟩;have l:=Ja f;have W:=f.c1;clear f;have J:=Ja (Jf M.o o);clear o)
        refine BA (v:=.tuple #[B H (n:Int),B H (p:Int)]) (by simp[results,Tryz.results91,go_sem]) rfl ⟨d,n,rfl,by rw[g.o];exact b.o,K.o,?_,J.o⟩;rw[<-b.o];have:=l.o;rw[i.o];exact this
      . have m:¬j=p:=by have:=b.o;omega
        have X:((j:Int)==(p:Int))=false:=by rw[BH];omega
        have Q:¬(12:Int)<(d:Int):=om
        have q:∃a k,JQ (Jd s) I=.ok a k:=by unfold JQ;rw[O.o,g.o,BE m,BE (by have:=b.o;omega)];exact⟨_,_,rfl⟩
        obtain⟨a,k,q⟩:=q;have i:=Ja (show D6 (JQ (Jd s) I) E=E/\EM (JQ (Jd s) I) E A=A by rw[q];unfold D6 EM;constructor<;>(by_cases hE:E=0<;>simp[hE]));clear q;clear z;go_wp2;refine BA (v:=.tuple #[B H (n:Int),B H (p:Int)]) (by simp[results,Tryz.results91,go_sem]) rfl ⟨d,n,rfl,by rw[g.o];exact b.o,K.o,?_,M.o⟩;rw[show((p:Int)+(d:Int))=(j:Int)from by have:=b.o;omega,i.o.1,i.o.2];exact L.o
end
section
def Rd.pos{α:Type}(r:Rd α):Prop:=∀e p,r=.bad e p->e≠0
variable{E:Int}{l:List UInt8}{j k p:Nat}
theorem X7{α:Type}{r:Rd α}{a:α}(h:r=.ok a k)(E A:Int):D6 r E=E/\EM r E A=A:=by
 subst h;unfold D6 EM;constructor
 . by_cases b:E=0
   . rw[BI b,b]
   . rw[BE b]
 . by_cases b:E=0
   . rw[BI b]
   . rw[BE b]
theorem VX{α:Type}{r:Rd α}{e:Nat}(h:r=.bad e p)(A:Int):D6 r 0=(e:Int)/\EM r 0 A=(p:Int):=by
 subst h;exact⟨rfl,rfl⟩
theorem F8{α:Type}(r:Rd α)(h:E≠0)(A:Int):D6 r E=E/\EM r E A=A:=by
 unfold D6 EM;exact⟨BE h,BE h⟩
theorem Ks{α:Type}{r:Rd α}(c:r.pos)(h:D6 r E=0):E=0/\∃a k,r=.ok a k:=by
 by_cases b:E=0
 . refine⟨b,?_⟩;cases r with
   |ok a k=>exact⟨a,k,rfl⟩
   |bad e p=>
    exfalso
    rw[b,(VX rfl 0).1]at h;exact c e p rfl om
 . rw[(F8 r b 0).1]at h;exact absurd h b
theorem Hr(l:List UInt8)(i:Nat):(JQ l i).pos:=by
 intro e p h;unfold JQ at h;split at h
 . cases h;decide
 . split at h
   . cases h;decide
   . cases h
theorem VY(l:List UInt8)(i:Nat):(Ye l i).pos:=by
 intro e p h;unfold Ye at h;split at h
 . rename_i b c a;cases h;exact Hr l i _ _ a
 . split at h
   . split at h
     . rename_i b c a;cases h;exact Hr _ _ _ _ a
     . split at h
       . cases h;decide
       . cases h
   . cases h
theorem VZ(l:List UInt8)(i:Nat):(XK l i).pos:=by
 intro e p h;unfold XK at h;split at h
 . split at h
   . rename_i b c a;cases h;exact Hr _ _ _ _ a
   . split at h
     . cases h;decide
     . cases h
 . cases h
theorem Gs(l:List UInt8)(i:Nat):DS l (DS l i)=DS l i:=Q7 _ l i
theorem PN(l:List UInt8)(i:Nat):JQ l (DS l i)=JQ l i:=by unfold JQ;rw[Gs]
theorem Va(l:List UInt8)(i:Nat):Ye l (DS l i)=Ye l i:=by unfold Ye;rw[PN]
def Eu(l:List UInt8)(i:Nat):Rd Rat:=if JM l (DS l i) 120 then .ok 1 (DS l i)else Ye l i
theorem PO(l:List UInt8)(i:Nat):(Eu l i).pos:=by
 unfold Eu;split
 . intro e p h;cases h
 . exact VY l i
theorem PP(h:Ex l j=false):EH l j=j:=by
 rcases AB j l.length with a|a
 . refine KD (Aa _) om (λk _ c d=>by omega) (λb=>?_);unfold Ex at h;rw[Af b]at h;simpa using h
 . unfold EH Y9;rw[At a];rfl
theorem Vb(h:Ex l j=true):JM l j 120=false:=by
 unfold Ex at h;unfold JM;cases a:l[j]? with
 |none=>rfl
 |some c=>
  rw[a]at h;simp only[C1,CO]at h;have b:=Ya h;rw[BH];intro e;cases e;simp at b
theorem X0(l:List UInt8)(i:Nat):JR l i=match Eu l i with
 |.bad e p=>.bad e p
 |.ok c k=>if JM l (DS l k) 120 then(match XK l (DS l k+1)with|.bad e p=>.bad e p|.ok n m=>.ok (c,n) m)else .ok (c,0) (DS l k):=by
 unfold JR Eu;cases a:Ex l (DS l i)with
 |true=>
  rw[Vb a,Va];simp only[if_true,Ca,if_false];cases Ye l i<;>rfl
 |false=>
  simp only[Ca,if_false];cases b:JM l (DS l i) 120 with
  |true=>
   simp only[if_true,Gs,b];cases XK l (DS l i+1)<;>rfl
  |false=>
   simp only[Ca,if_false];unfold Ye JQ;rw[BI (PP a)]
theorem Yz.of_ok{i d n:Nat}(h:Yz l p d n)(e:DS l i=p)(c:EH l p=p+d){ds:List UInt8}{b:Nat}(a:JQ l i=.ok (ds,b) k):b=p/\k=p+d/\num ds=n:=by
 unfold JQ at a;rw[e,c]at a;split at a
 . cases a
 . split at a
   . cases a
   . rename_i f g;simp only[Rd.ok.injEq,Prod.mk.injEq]at a;obtain⟨⟨rfl,rfl⟩,rfl⟩:=a;refine⟨rfl,rfl,?_⟩;rw[h.2.2,show p+d-p=d from by omega,show min 12 d=d from by omega]
section
variable {W W':World} {R:Nat} {s:ByteArray} {I E A:Int}
variable{v:Value}
theorem Kt(h:DW W R s I E A){cs:Array Value}{t:TypeId}{m:Nat × Nat}{b:Nat}(c:W.heap[b]?=some (.cells cs t m))(a:t≠82):b≠R:=by
 intro e;subst e;have:=c.symm.trans h;simp only[Ak,DI]at this;exact a this.2.1
theorem PQ(h:DW W R s I E A)(f:W.grownBy W' (some R)):∀k v ds,Row k W v ds->Row k W' v ds:=by
 intro k v ds c;obtain⟨a,cap,e,_⟩:=id c;subst e;refine c.grown f (λp d hl=>?_);obtain⟨b,off,i,cs,m,g⟩:=c.typ hl;rw[i]at d;cases d;exact Kt h g (by cases k<;>(show _≠_;decide))
theorem Jl.rd{q:Rat}(b:Jl W v q)(h:DW W R s I E A)(a:W.grownBy W' (some R)):Jl W' v q:=Dz.keep (r:=false) b (PQ h a)
theorem RowK.rd{qs:List Rat}(i:RowK false W v qs)(h:DW W R s I E A)(f:W.grownBy W' (some R)):RowK false W' v qs:=by
 obtain⟨a,cap,e,j,l,g,d⟩:=i;refine⟨a,cap,e,j,l,g,?_⟩;rcases d with d|⟨b,m,c⟩
 . exact Or.inl d
 . refine Or.inr ⟨b,m,c.keep (f.block b c.lt ?_) (PQ h f)⟩;obtain⟨cs,k,_⟩:=c;have:=Kt h k (by show(49:TypeId)≠_;decide);intro e;cases e;exact this rfl
end
def Ev(w V:G)(R B:Nat)(s:ByteArray)(I E A:Int)(c:Rat):Prop:=
 DW V R s I E A/\(∃a l e f b k d t,JE V B 49 (C a l e) (F f) (C b k d) (F t)/\Jl V (.agg #[C a l e,F f,C b k d,F t]) c)/\w.grownBy V (some R)/\w.heap.size<=B
section
variable {w V V':World} {R B:Nat} {s:ByteArray} {I E A I' E' A':Int} {c:Rat}
theorem Ev.below(h:Ev w V R B s I E A c)(e:Bl V V'):Ev w V' R B s I E A c:=by
 obtain⟨n,⟨a,l,f,j,b,k,d,t,o,g⟩,m,i⟩:=h;exact⟨n.below e,⟨a,l,f,j,b,k,d,t,o.below e,g.below e⟩,Jf m (JS e _),i⟩
theorem Ev.rd(h:Ev w V R B s I E A c)(r:DW V' R s I' E' A')(f:V.grownBy V' (some R)):Ev w V' R B s I' E' A' c:=by
 obtain⟨i,⟨a,l,j,p,b,k,d,t,g,n⟩,q,o⟩:=h;have m:B≠R:=Kt i g DR;exact⟨r,⟨a,l,j,p,b,k,d,t,(f.block B g.lt (λe=>m (A6 e))).trans g,n.rd i f⟩,Jf q f,o⟩
theorem J1{w V:G}{r:Option Nat}{B:Nat}(h:w.grownBy V r)(s:w.heap.size<=B)(o:Nat)(x:Value):w.grownBy (V.setCell ⟨B,o,none⟩ x) r:=by
 have n:=JD V B o x;obtain⟨j,k,d,a,f⟩:=h;obtain⟨c,b,l,q,g⟩:=n;exact⟨c.trans j,b.trans k,l.trans d,AE a q,λi p m=>(g i om (by intro e;cases e;omega)).trans (f i p m)⟩
theorem Ev.put(h:Ev w V R B s I E A c){a:Option Addr}{l j:Nat}{i:Bool}{b:Option Addr}{k d:Nat}{t:Bool}{c':Rat}(v:Jl V (.agg #[C a l j,F i,C b k d,F t]) c'):
 Ev w (put4 V B (C a l j) (F i) (C b k d) (F t)) R B s I E A c':=by
 obtain⟨o,⟨D,y,J,L,b0,K,d0,M,n,z⟩,u,f⟩:=h;have m:R≠B:=λe=>Kt o n DR e.symm;refine⟨?_,⟨a,l,j,i,b,k,d,t,n.put _ _ _ _,Dz.keep (r:=false) v (λ_ _ _ g=>Row.put4 g n rfl rfl rfl rfl _ _ _ _)⟩,J1 (J1 (J1 (J1 u f 0 _) f 1 _) f 2 _) f 3 _,f⟩;have x:=(BG V ⟨B,0,none⟩ (C a l j) R m).trans o;have q:=(BG _ ⟨B,1,none⟩ (F i) R m).trans x;have p:=(BG _ ⟨B,2,none⟩ (C b k d) R m).trans q;exact(BG _ ⟨B,3,none⟩ (F t) R m).trans p
end
end
attribute [local go_sem] Oper.semAt_some
variable{A E f g:Int}{l:List UInt8}{I b d n p:Nat}{c:Rat}
theorem DZ.word(h:n<1000000000000):DZ (n:Int):=DZ.of (k:=1) (by unfold Sm DN;omega) om
def Ek(c:Rat):Prop:=∃x y:Nat,c=Rat.divInt (x:Int) (y:Int)/\x<1000000000000/\y≠0/\y<1000000000000
theorem Ek.one:Ek 1:=⟨1,1,DR,om,om,om⟩
def XC(l:List UInt8)(I:Nat)(E A:Int)(c:Rat)(a:Nat)(b d:Int):Prop:=
 b=D6 (Eu l I) E/\d=EM (Eu l I) E A/\Ek c/\a<=l.length/\(E=0->∀c0 k,Eu l I=.ok c0 k->c=c0/\a=k)
theorem Vc(b:I<=l.length)(h:(decide (E=0)&&JM l (DS l I) 120)=true):XC l I E A 1 (DS l I) E A:=by
 rw[AA]at h;have e:Eu l I=.ok 1 (DS l I):=by unfold Eu;rw[BI h.2]
 refine⟨(X7 e E A).1.symm,(X7 e E A).2.symm,Ek.one,Yp b,λ_ c0 k a=>?_⟩;rw[e]at a;cases a;exact⟨rfl,rfl⟩
theorem PR(h:(decide (E=0)&&JM l (DS l I) 120)=false)(a:E=0):Eu l I=Ye l I:=by
 rw[a]at h;simp at h;unfold Eu;rw[h];simp
theorem PS(n:Nat):Rat.divInt (n:Int) 1=((n:Int):Rat):=by
 rw[<-CU ((n:Int):Rat)];simp
theorem Vd(h:(decide (E=0)&&JM l (DS l I) 120)=false)(u:DS l I=p)(s:EH l p=p+d)(j:Yz l p d n)
(o:(decide (D6 (JQ l I) E=0)&&JM l (DS l (p+d)) 47)=false):XC l I E A (Rat.divInt (n:Int) 1) (DS l (p+d)) (D6 (JQ l I) E) (EM (JQ l I) E A):=by
 have i:Ek (Rat.divInt (n:Int) 1):=⟨n,1,rfl,j.lt12,om,om⟩;have f:DS l (p+d)<=l.length:=Yp j.1;by_cases b:E=0
 . rw[XC,PR h b];subst b;cases c:JQ l I with
   |bad e q=>
    have g:Ye l I=.bad e q:=by unfold Ye;rw[c]
    rw[g];exact⟨rfl,rfl,i,f,λ_ c0 k m=>by cases m⟩
   |ok a k=>
    obtain⟨ds,t⟩:=a;obtain⟨rfl,rfl,rfl⟩:=j.of_ok u s c;rw[c,(X7 rfl 0 0).1]at o;simp at o;have g:Ye l I=.ok ((num ds:Int):Rat) (DS l (t+d)):=by unfold Ye;rw[c];simp[o]
    rw[g];refine⟨rfl,rfl,i,f,λ_ c0 k m=>?_⟩;cases m;exact⟨PS _,rfl⟩
 . refine⟨?_,?_,i,f,λr=>absurd r b⟩
   . rw[(F8 _ b A).1,(F8 _ b A).1]
   . rw[(F8 _ b A).2,(F8 _ b A).2]
theorem Ve{r u:Nat}(h:(decide (E=0)&&JM l (DS l I) 120)=false)(N:DS l I=p)(M:EH l p=p+d)(w:Yz l p d n)
(m:(decide (D6 (JQ l I) E=0)&&JM l (DS l (p+d)) 47)=true)(K:DS l (DS l (p+d)+1)=b)(P:EH l b=b+r)(i:Yz l b r u)(f v:Int)(s:f=D6 (JQ l (DS l (p+d)+1)) (D6 (JQ l I) E))(hA2:v=EM (JQ l (DS l (p+d)+1)) (D6 (JQ l I) E) (EM (JQ l I) E A)):
 (u=0->XC l I E A (Rat.divInt (n:Int) 1) (b+r) (if f=0 then 4 else f) (if f=0 then(b:Int)else v))/\(u≠0->XC l I E A (Rat.divInt (n:Int) (u:Int)) (b+r) f v):=by
 rw[AA,BQ]at m;obtain⟨Q,a,k,t⟩:=Ks (Hr l I) m.1;obtain⟨ds,J⟩:=a;obtain⟨rfl,rfl,rfl⟩:=w.of_ok N M t;subst Q;have D:Ek (Rat.divInt (num ds:Int) 1):=⟨num ds,1,rfl,w.lt12,om,om⟩;rw[m.1]at s hA2;rw[t,(X7 rfl 0 A).2]at hA2;unfold XC;rw[PR h rfl];cases c:JQ l (DS l (J+d)+1)with
 |bad e q=>
  have o:Ye l I=.bad e q:=by unfold Ye;rw[t];simp[m.2,c]
  have R:=Hr _ _ _ _ c;rw[c]at s hA2;have L:f=(e:Int):=s;have O:v=(q:Int):=hA2;have y:¬f=0:=om
  rw[o,BE y,BE y,L,O];refine⟨λ_=>⟨rfl,rfl,D,i.1,λ_ c0 k g=>by cases g⟩,λj=>⟨rfl,rfl,⟨num ds,u,rfl,w.lt12,j,i.lt12⟩,i.1,λ_ c0 k g=>by cases g⟩⟩
 |ok a k=>
  obtain⟨x,z⟩:=a;obtain⟨rfl,rfl,rfl⟩:=i.of_ok K P c;rw[c,(X7 rfl 0 A).1]at s;rw[c,(X7 rfl 0 A).2]at hA2;subst s hA2;rw[BI rfl,BI rfl];refine⟨λj=>?_,λj=>?_⟩
  . have o:Ye l I=.bad 4 z:=by unfold Ye;rw[t];simp[m.2,c,j]
    rw[o];exact⟨rfl,rfl,D,i.1,λ_ c0 k g=>by cases g⟩
  . have o:Ye l I=.ok (Rat.divInt (num ds) (num x)) (z+r):=by unfold Ye;rw[t];simp[m.2,c,j]
    rw[o];refine⟨rfl,rfl,⟨num ds,num x,rfl,w.lt12,j,i.lt12⟩,i.1,λ_ c0 k g=>?_⟩;cases g;exact⟨rfl,rfl⟩
def Xl(l:List UInt8)(I:Nat)(E A:Int)(c:Rat)(n I':Nat)(E' A':Int):Prop:=
 E'=D6 (JR l I) E/\A'=EM (JR l I) E A/\(E=0->∀c0 a k,JR l I=.ok (c0,a) k->c=c0/\n=a/\I'=k)
theorem XC.zero(h:XC l I E A c b f g)(i:f=0):E=0/\g=A/\Eu l I=.ok c b:=by
 have e:=h.1;rw[i]at e;obtain⟨d,c0,k,a⟩:=Ks (PO l I) e.symm;obtain⟨rfl,rfl⟩:=h.2.2.2.2 d c0 k a;exact⟨d,h.2.1.trans (X7 a E A).2,a⟩
theorem XC.set(h:XC l I E A c b f g)(q:f≠0)(n I':Nat):Xl l I E A c n I' f g:=by
 by_cases a:E=0
 . subst a;cases j:Eu l I with
   |ok c0 k=>
    have:=h.1;rw[j,(X7 rfl 0 A).1]at this;exact absurd this q
   |bad e p=>
    have m:JR l I=.bad e p:=by rw[X0,j]
    have i:=h.1;have d:=h.2.1;rw[j]at i d;exact⟨by rw[m];exact i,by rw[m];exact d,λ_ c0 r k o=>by rw[m]at o;cases o⟩
 . have i:=h.1;have d:=h.2.1;rw[(F8 _ a A).1]at i;rw[(F8 _ a A).2]at d;exact⟨by rw[(F8 _ a A).1];exact i,by rw[(F8 _ a A).2];exact d,λh=>absurd h a⟩
theorem Xl.of{I':Nat}(h:JR l I=.ok (c,n) I'):Xl l I 0 A c n I' 0 A:=by
 refine⟨by rw[(X7 h 0 A).1],by rw[(X7 h 0 A).2],λ_ c0 b k a=>?_⟩;rw[h]at a;cases a;exact⟨rfl,rfl,rfl⟩
theorem Xl.bad{l:List UInt8}{I:Nat}{A:Int}{e p:Nat}(c:Rat)(n I':Nat)(h:JR l I=.bad e p):Xl l I 0 A c n I' e p:=by
 exact⟨by rw[h];rfl,by rw[h];rfl,λ_ c0 b k a=>by rw[h]at a;cases a⟩
theorem Vf(h:XC l I E A c b f g)(d:(decide (f=0)&&JM l (DS l b) 120)=false):Xl l I E A c 0 (DS l b) f g:=by
 by_cases a:f=0
 . obtain⟨rfl,rfl,e⟩:=h.zero a;subst a;simp at d;refine Xl.of ?_;rw[X0,e];simp[d]
 . exact h.set a _ _
theorem Vg(h:XC l I E A c b f g)(a:(decide (f=0)&&JM l (DS l b) 120)=true)(e:(decide (f=0)&&JM l (DS l (DS l b+1)) 94)=false):Xl l I E A c 1 (DS l (DS l b+1)) f g:=by
 rw[AA,BQ]at a;obtain⟨d,a⟩:=a;obtain⟨rfl,rfl,i⟩:=h.zero d;subst d;simp at e;refine Xl.of ?_;rw[X0,i];simp[a,XK,e]
theorem Vh(h:XC l I E A c b f g)(m:(decide (f=0)&&JM l (DS l b) 120)=true)(o:(decide (f=0)&&JM l (DS l (DS l b+1)) 94)=true)(J:DS l (DS l (DS l b+1)+1)=p)(D:EH l p=p+d)(z:Yz l p d n)(j r:Int)
(s:j=D6 (JQ l (DS l (DS l b+1)+1)) f)(hA5:r=EM (JQ l (DS l (DS l b+1)+1)) f g):(8<n->Xl l I E A c 0 (p+d) (if j=0 then 3 else j) (if j=0 then(p:Int)else r))/\(¬8<n->Xl l I E A c n (p+d) j r):=by
 rw[AA,BQ]at m o;obtain⟨v,m⟩:=m;obtain⟨_,o⟩:=o;obtain⟨rfl,rfl,t⟩:=h.zero v;subst v;cases i:JQ l (DS l (DS l b+1)+1)with
 |bad e q=>
  rw[i]at s hA5;have N:=Hr _ _ _ _ i;have y:j=(e:Int):=s;have K:r=(q:Int):=hA5;have w:¬j=0:=om
  have x:JR l I=.bad e q:=by rw[X0,t];simp[m,XK,o,i]
  rw[BE w,BE w,y,K];exact⟨λ_=>Xl.bad _ _ _ x,λ_=>Xl.bad _ _ _ x⟩
 |ok a k=>
  obtain⟨L,M⟩:=a;obtain⟨rfl,rfl,rfl⟩:=z.of_ok J D i;rw[i,(X7 rfl 0 0).1]at s;rw[i,(X7 rfl 0 _).2]at hA5;subst s hA5;rw[BI rfl,BI rfl];refine⟨λu=>Xl.bad _ _ _ ?_,λu=>Xl.of ?_⟩
  . rw[X0,t];simp[m,XK,o,i,u]
  . rw[X0,t];simp[m,XK,o,i,u]
theorem Ev.new{w e:G}{R:Nat}{s:ByteArray}{I E A:Int}{c:Rat}(h:DW w R s I E A)(j:Bl w e){a:Option Addr}{l f:Nat}{g:Bool}{b:Option Addr}{k d:Nat}{t:Bool}(m:Jl e (.agg #[C a l f,F g,C b k d,F t]) c):
 Ev w (e.alloc (.cells #[C a l f,F g,C b k d,F t] 49)) R e.heap.size s I E A c:=by
 have i:Bl e (e.alloc (.cells #[C a l f,F g,C b k d,F t] 49)):=Ba e _;exact⟨(h.below j).below i,⟨a,l,f,g,b,k,d,t,JE.new _ _ _ _ _ _,m.below i⟩,Jf (JS j _) (JS i _),j.size⟩
theorem Vi(R:Nat)(s:ByteArray)(I:Nat)(E A:Int)(w:G)(h:DW w R s I E A)(hI:I<=s.size)(hs:s.size<=300):
 Calls Tryz.prog 46 #[.pointer (some ⟨R,0,none⟩)] w λr w'=>∃(u:Value) (c:Rat) (n I':Nat),r=.returned u/\RowK false w' u (Jh (Dg n [c]))/\n<=8/\Ek c/\I'<=s.size/\DW w' R s (I':Int) (D6 (JR (Jd s) I) E) (EM (JR (Jd s) I) E A)/\(E=0->∀c0 n0 k,JR (Jd s) I=.ok (c0,n0) k->c=c0/\n=n0/\I'=k)/\w.grownBy w' (some R):=by
 have Ug:I<=(Jd s).length:=by rw[Jg];exact hI
 obtain⟨b1,bz⟩:=ex ((decide (E=0)&&JM (Jd s) (DS (Jd s) I) 120));have Ud:=Ja bz;obtain⟨p,az⟩:=ex (DS (Jd s) I);have Qy:=Ja az;have Uh:p<=s.size:=by rw[<-az,<-Jg];exact Yp Ug
 have HW:=Ja (Yx 1 om om w);have Uq:=Ja (λ(V:G) (f:DW V R s I E A)=>Yy R s I E A 120 V f hI hs);rw[bz,az]at Uq;have HH:=Ja h;have Uz:=Ja Ug;clear h bz az Ug hI;go_enter Tryz.func46,Tryz.ntmps46
 go_upto_region 2 with(first
  |(go_at_call 62;refine HW.o.mono ?_;clear HW;rintro e w1 ⟨u1,rfl,bj,ci⟩;obtain⟨dw,du,eh,ef,dx,ed,ei,eb,rfl⟩:=Jl.form bj))
 have hT:=Ev.new HH.o ci bj;obtain⟨W0,bh⟩:=ex (w1.alloc (.cells #[C dw du eh,F ef,C dx ed ei,F eb] 49));rw[bh]at hT;rw[bh];obtain⟨B,hB⟩:=ex (w1.heap.size);rw[hB]at hT;rw[hB];have HT:=Ja (show Ev w W0 R B s I E A 1 from hT);clear hT bj ci bh hB;go_upto_if 15 with(first
  |(go_at_call 47;refine(Uq.o _ HT.o.1).mono ?_;clear Uq;rintro e w2 ⟨rfl,dp,co⟩;have Qt:=Ja (HT.o.rd dp co);clear dp co HT))
 go_cut [4] (λv w'=>v=F b1/\∃(c:Rat) (Q:Nat) (d g:Int),Hid (Ev w w' R B s (Q:Int) d g c/\XC (Jd s) I E A c Q d g))
 case first=>
  cases b1 with
  |true=>
   go_wp2_with fail
   go_meet
   case rel=>exact⟨rfl,1,p,E,A,Ja ⟨Qt.o,by rw[<-Qy.o];exact Vc Uz.o Ud.o⟩⟩
  |false=>
   obtain⟨d,bn⟩:=ex (D6 (JQ (Jd s) I) E);obtain⟨g,hA1⟩:=ex (EM (JQ (Jd s) I) E A);have HN:=Ja (λ(V:G) (f:DW V R s p E A)=>MW R s p E A p V f Uh hs (by rw[<-Qy.o];exact Gs _ _));have Uu:JQ (Jd s) p=JQ (Jd s) I:=by rw[<-Qy.o];exact PN _ _
   rw[Uu,bn,hA1]at HN;have Qo:=Ja bn;have Uv:=Ja hA1;clear bn hA1 Uu;go_upto_if 22 with(first
    |(go_at_call 91;refine(HN.o _ Qt.o.1).mono ?_;clear HN;rintro e w3 ⟨d1,n1,rfl,di,av,ae,af⟩;have P:=Ja (Qt.o.rd ae af);clear ae af Qt;have Uw:=Ja di;have Us:=Ja av;have Ur:=av.lt12;have cy:p+d1<=s.size:=(by rw[<-Jg];exact av.1);clear di av;obtain⟨b2,bi⟩:∃b,b=(decide (d=0)&&JM (Jd s) (DS (Jd s) (p+d1)) 47):=⟨_,rfl⟩;have Uf:=Ja bi;have Ue:=Ja (λ(V:G) (f:DW V R s ((p+d1:Nat):Int) d g)=>J0 R s (p+d1) d g 47 V f cy hs b2 bi);clear bi;obtain⟨X,ap⟩:=ex (DS (Jd s) (p+d1));rw[ap]at Ue;have Qp:=Ja ap;have eq:X<=s.size:=(by rw[<-ap,<-Jg];exact Yp (by rw[Jg];exact cy));clear ap)
    |(go_at_call 45;refine(Ue.o _ P.o.1).mono ?_;clear Ue;rintro e w4 ⟨rfl,aj,ad⟩;have D:=Ja (P.o.rd aj ad);clear aj ad P))
   have Qn:=Ja (λ(V:G)=>FS (n1:Int) om om V);have Uo:=Ja (DZ.word Ur);cases b2 with
   |false=>
    obtain⟨S,Qr,HY⟩:=Dm (λ(V:G)=>FS 1 om om V) DZ.one (show(1:Int)≠0 by omega);go_wp2_with(first
     |(go_at_call 93;refine(Qn.o _).mono ?_;clear Qn;rintro e w6 ⟨ct,rfl,L,M⟩;have Qu:=Ja (D.o.below M);clear M;have Qw:=Ja L;clear L)
     |(go_at_call 93;refine(S.o _).mono ?_;clear S;rintro e w7 ⟨cw,rfl,U,l⟩;have Qv:=Ja (Qu.o.below l);have Qb:=Ja (Qw.o.below l);clear l;have Ub:=Ja U;clear U)
     |(go_at_call 92;refine(Ho _ _ _ _ _ Qb.o Ub.o HY.o Uo.o Qr.o).mono ?_;rintro e w8 ⟨cg,rfl,j,N⟩;have T:=Qv.o.below N;clear N;obtain⟨cz,ck,de,dh,cn,dt,ce,cj,rfl⟩:=Jl.form j;have Qs:=Ja (T.put j);obtain⟨_,⟨x0,x1,x2,x3,x4,x5,x6,x7,a,_⟩,_,_⟩:=T;obtain⟨e0,e1,e2,e3⟩:=a.cq;obtain⟨g0,g1,g2,g3⟩:=a.fq;clear a j))
    go_meet
    case rel=>exact⟨rfl,_,_,_,_,Ja ⟨Qs.o,by have:=Vd (A:=A) Ud.o Qy.o Uw.o Us.o (by rw[Qo.o];exact Uf.o.symm);rw[Qp.o,Qo.o,Uv.o]at this;exact this⟩⟩
   |true=>
    have Uj:X+1<=s.size:=by
     have O:=Uf.o.symm;rw[AA]at O;have h6:=JZ O.2;rw[Qp.o,Jg]at h6;omega
    obtain⟨p2,bu⟩:=ex (DS (Jd s) (X+1));have Qz:=Ja (λ(V:G) (f:DW V R s ((X+1:Nat):Int) d g)=>MW R s (X+1) d g p2 V f Uj hs bu);have Wd:=Ja bu;clear bu;obtain⟨E2,bf⟩:=ex (D6 (JQ (Jd s) (X+1)) d);obtain⟨A2,hA2⟩:=ex (EM (JQ (Jd s) (X+1)) d g);rw[bf,hA2]at Qz;have We:=Ja bf;have Wc:=Ja hA2;clear bf hA2;go_upto_if 29 with(first
     |(go_at_call 91;refine(Qz.o _ D.o.1).mono ?_;clear Qz;rintro e w5 ⟨d2,n2,rfl,cl,bg,an,ak⟩;have J:=Ja (D.o.rd an ak);clear an ak D;have Uy:=Ja cl;have Qz:=Ja bg;have Um:=bg.lt12;clear cl bg))
    have Qx:=Ja (Ve (A:=A) Ud.o Qy.o Uw.o Us.o (by rw[Qo.o];exact Uf.o.symm) (by rw[Qp.o];exact Wd.o) Uy.o Qz.o E2 A2 (by rw[Qp.o,Qo.o];exact We.o.symm) (by rw[Qp.o,Qo.o,Uv.o];exact Wc.o.symm));by_cases bc:n2=0
    . have Wh:((n2:Int)==0)=true:=by rw[bc];rfl
      have Un:=Ja bc;clear bc;obtain⟨HF,S,Qr,HY⟩:=D3 (λ(V:G) (f:DW V R s ((p2+d2:Nat):Int) E2 A2)=>Gr R s ((p2+d2:Nat):Int) E2 A2 4 (p2:Int) V f) (λ(V:G)=>FS 1 om om V) DZ.one (show(1:Int)≠0 by omega);go_wp2_with(first
       |(go_at_call 48;refine(HF.o _ J.o.1).mono ?_;clear HF;rintro e en ⟨rfl,ah,ai⟩;have Qi:=Ja (J.o.rd ah ai);clear ah ai J)
       |(go_at_call 93;refine(Qn.o _).mono ?_;clear Qn;rintro e w6 ⟨ct,rfl,L,M⟩;have Qu:=Ja (Qi.o.below M);clear M;have Qw:=Ja L;clear L)
       |(go_at_call 93;refine(S.o _).mono ?_;clear S;rintro e w7 ⟨cw,rfl,U,l⟩;have Qv:=Ja (Qu.o.below l);have Qb:=Ja (Qw.o.below l);clear l;have Ub:=Ja U;clear U)
       |(go_at_call 92;refine(Ho _ _ _ _ _ Qb.o Ub.o HY.o Uo.o Qr.o).mono ?_;rintro e w8 ⟨cg,rfl,j,N⟩;have T:=Qv.o.below N;clear N;obtain⟨cz,ck,de,dh,cn,dt,ce,cj,rfl⟩:=Jl.form j;have Qs:=Ja (T.put j);obtain⟨_,⟨x0,x1,x2,x3,x4,x5,x6,x7,a,_⟩,_,_⟩:=T;obtain⟨e0,e1,e2,e3⟩:=a.cq;obtain⟨g0,g1,g2,g3⟩:=a.fq;clear a j))
      go_meet
      case rel=>exact⟨rfl,_,_,_,_,Ja ⟨Qs.o,Qx.o.1 Un.o⟩⟩
    . have Wh:((n2:Int)==0)=false:=by rw[BH];omega
      obtain⟨S,Qr,HY⟩:=Dm (λ(V:G)=>FS (n2:Int) om om V) (DZ.word Um) (show(n2:Int)≠0 by omega);go_wp2_with(first
       |(go_at_call 93;refine(Qn.o _).mono ?_;clear Qn;rintro e w6 ⟨ct,rfl,L,M⟩;have Qu:=Ja (J.o.below M);clear M;have Qw:=Ja L;clear L)
       |(go_at_call 93;refine(S.o _).mono ?_;clear S;rintro e w7 ⟨cw,rfl,U,l⟩;have Qv:=Ja (Qu.o.below l);have Qb:=Ja (Qw.o.below l);clear l;have Ub:=Ja U;clear U)
       |(go_at_call 92;refine(Ho _ _ _ _ _ Qb.o Ub.o HY.o Uo.o Qr.o).mono ?_;rintro e w8 ⟨cg,rfl,j,N⟩;have T:=Qv.o.below N;clear N;obtain⟨cz,ck,de,dh,cn,dt,ce,cj,rfl⟩:=Jl.form j;have Qs:=Ja (T.put j);obtain⟨_,⟨x0,x1,x2,x3,x4,x5,x6,x7,a,_⟩,_,_⟩:=T;obtain⟨e0,e1,e2,e3⟩:=a.cq;obtain⟨g0,g1,g2,g3⟩:=a.fq;clear a j))
      go_meet
      case rel=>exact⟨rfl,_,_,_,_,Ja ⟨Qs.o,Qx.o.2 bc⟩⟩
 case rest=>
  obtain⟨rfl,c,Q,d,g,z⟩:=hcut;have Ut:Q<=s.size:=by have:=z.o.2.2.2.2.1;rwa[Jg]at this
  obtain⟨b3,bd⟩:∃b,b=(decide (d=0)&&JM (Jd s) (DS (Jd s) Q) 120):=⟨_,rfl⟩;have Uc:=Ja bd.symm;obtain⟨I3,aq⟩:=ex (DS (Jd s) Q);have Y:=Ja (λ(V:G) (f:DW V R s (Q:Int) d g)=>J0 R s Q d g 120 V f Ut hs b3 bd);rw[aq]at Y;have Uk:I3<=s.size:=by rw[<-aq,<-Jg];exact Yp (by rw[Jg];exact Ut)
  have K:=Ja aq;clear aq bd Qt Ud;go_upto_if 40 with(first
   |(go_at_call 45;refine(Y.o _ z.o.1.1).mono ?_;clear Y;rintro e w3 ⟨rfl,ae,af⟩;have P:=Ja (z.o.1.rd ae af);clear ae af))
  cases b3 with
  |false=>
   obtain⟨_,⟨y0,y1,y2,y3,y4,y5,y6,y7,a,y⟩,_,_⟩:=P.o;obtain⟨e0,e1,e2,e3⟩:=a.cq;have q:=Ja (Ik _ 0 c _ y om);clear a y;go_wp2_with(first
    |(go_at_call 74;refine q.o.mono ?_;clear q;rintro e w9 ⟨u9,rfl,t,x⟩;have o:=Ja (P.o.below x);clear x;have m:=Ja t;clear t;obtain⟨a7,l7,c7,rfl⟩:=m.o.form))
   go_ret;have i:=Vf z.o.2 Uc.o;refine⟨_,c,0,_,rfl,m.o,om,z.o.2.2.2.1,by rw[K.o];exact Uk,?_,i.2.2,o.o.2.2.1⟩;rw[<-i.1,<-i.2.1];rw[K.o];exact o.o.1
  |true=>
   have Ua:I3+1<=s.size:=by
    have O:=Uc.o;rw[AA]at O;have h6:=JZ O.2;rw[K.o,Jg]at h6;omega
   obtain⟨b4,bk⟩:∃b,b=(decide (d=0)&&JM (Jd s) (DS (Jd s) (I3+1)) 94):=⟨_,rfl⟩;have Ui:=Ja bk.symm;obtain⟨W,ay⟩:=ex (DS (Jd s) (I3+1));have Y:=Ja (λ(V:G) (f:DW V R s ((I3+1:Nat):Int) d g)=>J0 R s (I3+1) d g 94 V f Ua hs b4 bk);rw[ay]at Y;have Ul:W<=s.size:=by rw[<-ay,<-Jg];exact Yp (by rw[Jg];exact Ua)
   have Qm:=Ja ay;clear ay bk;go_upto_if 45 with(first
    |(go_at_call 45;refine(Y.o _ P.o.1).mono ?_;clear Y;rintro e w4 ⟨rfl,aj,ad⟩;have D:=Ja (P.o.rd aj ad);clear aj ad))
   cases b4 with
   |false=>
    obtain⟨_,⟨y0,y1,y2,y3,y4,y5,y6,y7,a,y⟩,_,_⟩:=D.o;obtain⟨e0,e1,e2,e3⟩:=a.cq;have q:=Ja (Ik _ 1 c _ y om);clear a y;go_wp2_with(first
     |(go_at_call 74;refine q.o.mono ?_;clear q;rintro e w9 ⟨u9,rfl,t,x⟩;have o:=Ja (D.o.below x);clear x;have m:=Ja t;clear t;obtain⟨a7,l7,c7,rfl⟩:=m.o.form))
    go_ret;have i:=Vg z.o.2 Uc.o (by rw[K.o];exact Ui.o);refine⟨_,c,1,_,rfl,m.o,om,z.o.2.2.2.1,by rw[K.o,Qm.o];exact Ul,?_,i.2.2,o.o.2.2.1⟩;rw[<-i.1,<-i.2.1];rw[K.o,Qm.o];exact o.o.1
   |true=>
    have Up:W+1<=s.size:=by
     have O:=Ui.o;rw[AA]at O;have h6:=JZ O.2;rw[Qm.o,Jg]at h6;omega
    obtain⟨Z,bt⟩:=ex (DS (Jd s) (W+1));have Qq:=Ja (λ(V:G) (f:DW V R s ((W+1:Nat):Int) d g)=>MW R s (W+1) d g Z V f Up hs bt);have Wg:=Ja bt;clear bt;obtain⟨E5,bm⟩:=ex (D6 (JQ (Jd s) (W+1)) d);obtain⟨A5,hA5⟩:=ex (EM (JQ (Jd s) (W+1)) d g);rw[bm,hA5]at Qq;have Wi:=Ja bm;have Wa:=Ja hA5;clear bm hA5;go_upto_if 54 with(first
     |(go_at_call 91;refine(Qq.o _ D.o.1).mono ?_;clear Qq;rintro e w5 ⟨d5,n5,rfl,dj,aw,an,ak⟩;have J:=Ja (D.o.rd an ak);clear an ak D;have Wb:=Ja dj;have Qq:=Ja aw;have er:=aw.lt12;have Ux:Z+d5<=s.size:=(by rw[<-Jg];exact aw.1);clear dj aw))
    have Qx:=Ja (Vh z.o.2 Uc.o (by rw[K.o];exact Ui.o) (by rw[K.o,Qm.o];exact Wg.o) Wb.o Qq.o E5 A5 (by rw[K.o,Qm.o];exact Wi.o.symm) (by rw[K.o,Qm.o];exact Wa.o.symm));by_cases h8:8<n5
    . have dz:(8:Int)<(n5:Int):=om
      have HF:=Ja (λ(V:G) (f:DW V R s ((Z+d5:Nat):Int) E5 A5)=>Gr R s ((Z+d5:Nat):Int) E5 A5 3 (Z:Int) V f);go_upto_region 21 with(first
       |(go_at_call 48;refine(HF.o _ J.o.1).mono ?_;clear HF;rintro e en ⟨rfl,ah,ai⟩;have Qi:=Ja (J.o.rd ah ai);clear ah ai J))
      obtain⟨_,⟨y0,y1,y2,y3,y4,y5,y6,y7,a,y⟩,_,_⟩:=Qi.o;obtain⟨e0,e1,e2,e3⟩:=a.cq;have q:=Ja (Ik _ 0 c _ y om);clear a y;go_wp2_with(first
       |(go_at_call 74;refine q.o.mono ?_;clear q;rintro e w9 ⟨u9,rfl,t,x⟩;have o:=Ja (Qi.o.below x);clear x;have m:=Ja t;clear t;obtain⟨a7,l7,c7,rfl⟩:=m.o.form))
      go_ret;have i:=Qx.o.1 h8;refine⟨_,c,0,Z+d5,rfl,m.o,om,z.o.2.2.2.1,Ux,?_,i.2.2,o.o.2.2.1⟩;rw[<-i.1,<-i.2.1];exact o.o.1
    . have dz:¬(8:Int)<(n5:Int):=om
      obtain⟨_,⟨y0,y1,y2,y3,y4,y5,y6,y7,a,y⟩,_,_⟩:=J.o;obtain⟨e0,e1,e2,e3⟩:=a.cq;have q:=Ja (Ik _ n5 c _ y om);clear a y;go_wp2_with(first
       |(go_at_call 74;refine q.o.mono ?_;clear q;rintro e w9 ⟨u9,rfl,t,x⟩;have o:=Ja (J.o.below x);clear x;have m:=Ja t;clear t;obtain⟨a7,l7,c7,rfl⟩:=m.o.form))
      go_ret;have i:=Qx.o.2 h8;refine⟨_,c,n5,Z+d5,rfl,m.o,om,z.o.2.2.2.1,Ux,?_,i.2.2,o.o.2.2.1⟩;rw[<-i.1,<-i.2.1];exact o.o.1

