import Derived.Test.YteldjhhjnchdeaaGreatDoorV32
open Go.Value renaming slice->C,bool->F,int->B
open Go renaming World->G
open Go.IntKind renaming i64->H
set_option maxRecDepth 100000
set_option maxHeartbeats 16000000
namespace Go.Proofs.YteldjhhjnchdeaaGreatDoor
open Go.RowKit Go.Shelf
section
attribute [local go_sem] Oper.semAt_some
theorem Bu:type_of% @Obj.cells.injEq:=@Obj.cells.injEq
def F2(r:Bool)(W0:G)(V:G)(o:Value)(qs:List Rat):Prop:=Eh r W0.heap.size V o qs/\Bl W0 V
theorem F2.below{r:Bool}{W0 V V':G}{o:Value}{qs:List Rat}(h:F2 r W0 V o qs)(a:Bl V V'):F2 r W0 V' o qs:=⟨h.1.below a,Bt h.2 a⟩
theorem RZ(va vq:Value)(ps:List Rat)(q:Rat)(w:G)(ha:RowK false w va ps)(hq:Jr w vq q)(am:DZ ps)(an:Sq q)(aj:ps.length<1099511627776):
 Calls Tryz.prog 76 #[va,vq] w λe w'=>∃u,e=.returned u/\RowK false w' u (Jd (YL q ps))/\Bl w w':=by
 have Qm:Tryz.prog.follows .mixedOrders=true:=by kernel_rfl
 obtain⟨a,la,ca,rfl⟩:=ha.form;obtain⟨a8,l8,c8,s8,b8,k8,d8,t8,rfl⟩:=Jr.form hq;obtain⟨ai,ay,az,bj,s,t,aa,bb,ll,cc,kk,dd,hc⟩:=ha.formsF;have b0:=JL.new w 85 (C a8 l8 c8) (F s8) (C b8 k8 d8) (F t8);have Qf:Bl w (w.alloc (.cells #[C a8 l8 c8,F s8,C b8 k8 d8,F t8] 85)):=Ba w _;obtain⟨W0,af⟩:=ex (w.alloc (.cells #[C a8 l8 c8,F s8,C b8 k8 d8,F t8] 85));rw[af]at Qf b0;obtain⟨Qj,HA,HQ,HP,Qi,Qh,Qd,Qp⟩:=Hp af hc (hq.below Qf) am an ai Qf b0;have Ql:=J aj;clear ha hq am an ai ay az hc af aj b0 Qf;go_enter Tryz.func76,Tryz.ntmps76
 go_upto_region 1 with fail
 rw[Qj.o];go_wp2;go_loopw [5,6] (λo i wr=>∃k:Nat,k<=la/\i=B H (k:Int)/\(∃M N,o=C M k N)/\Hid (F2 false W0 wr o (Xm (λi=>cf ps i*q) k))) λ_ i _=>la-(intOf i).toNat
 case atStart=>exact⟨0,AK _,rfl,⟨_,_,rfl⟩,J ⟨Eh.nil _ _ _,BB _ _⟩⟩
 case round=>
  obtain⟨k,hk,rfl,⟨M,N,rfl⟩,X⟩:=hrel;by_cases bc:k<la
  . have bk:(k:Int)<(la:Int):=Y
    obtain⟨L,b,rfl,S,c0,c1,c2,c3⟩:=HA.o k bc;have Qo:=J (show ∀V,Bl W0 V->(V.cell? ⟨b,k*4,none⟩=some (C (aa k) (ll k) (cc k))/\V.cell? ⟨b,k*4+1,none⟩=some (F (s k))/\V.cell? ⟨b,k*4+2,none⟩=some (C (bb k) (kk k) (dd k))/\V.cell? ⟨b,k*4+3,none⟩=some (F (t k)))/\Jr V (.agg #[C (aa k) (ll k) (cc k),F (s k),C (bb k) (kk k) (dd k),F (t k)]) (cf ps k)from λV h=>by
     have R:=Bt Qd.o h;exact⟨⟨(R.cell (p:=⟨b,_,none⟩) S).trans c0,(R.cell (p:=⟨b,_,none⟩) S).trans c1,(R.cell (p:=⟨b,_,none⟩) S).trans c2,(R.cell (p:=⟨b,_,none⟩) S).trans c3⟩,L.below R⟩)
    have HK:=J (show k+1<=1099511627776 by have:=Ql.o;have:=Qh.o;omega);clear L c0 c1 c2 c3 S;go_wp2_with fail
    have Qn:=X.o.below ((BB _ wr).drew);refine Jl Qm [[],[],[],[1,2],[3],[],[4,5],[6],[0,7,6],[8,8,0,1,2,3,4,5,6,7,8]] (by kernel_rfl) DQ
     (λD ad V=>∃(ta tb tc td te tf tg U P W:Value),ad={ tmps:=#[C (some ⟨b,0,none⟩) la ca,.agg #[C a8 l8 c8,F s8,C b8 k8 d8,F t8],undef,.pointer (some ⟨w.heap.size,0,none⟩),C none 0 0,W,B H ↑k,B H ↑k,C (some ⟨b,0,none⟩) la ca,B H ↑la,F true,u11,u12,ta,tb,tc,td,te,tf,tg,U,P,undef,undef],defers:=[] }/\Hid ((D 0=true->ta=C M k N)/\(D 1=true->tb=C (some ⟨b,0,none⟩) la ca)/\(D 2=true->tc=B H (k:Int))/\(D 3=true->td=.pointer (some ⟨b,k*4,none⟩))/\(D 4=true->D 8=false->Jr V te (cf ps k))/\(D 5=true->D 8=false->Jr V tf q)/\(D 6=true->D 8=false->Jr V tg (cf ps k*q))/\(D 7=true->∃a l c,U=C a l c)/\(D 8=true->∃a l c,P=C a l c)/\((D 9=false->W=Value.slice M k N)/\(D 9=true->W=P)))/\Hid ((D 7=false->F2 false W0 V (C M k N) (Xm (λi=>cf ps i*q) k))/\(D 7=true->D 8=false->∃(I:G) (x y z u:Value),V=I.alloc (.cells #[x,y,z,u] (EH false))/\(F2 false W0 I (C M k N) (Xm (λi=>cf ps i*q) k))/\EM false I (.agg #[x,y,z,u]) (cf ps k*q)/\U=C (some ⟨I.heap.size,0,none⟩) 1 1)/\(D 8=true->F2 false W0 V P (Xm (λi=>cf ps i*q) k++[cf ps k*q]))))
     (E8 ⟨_,_,rfl,J ⟨O,O,O,O,O,O,O,O,O,⟨λ_=>rfl,O⟩⟩,J ⟨λ_=>Qn,O,O⟩⟩) ?step1 ?fin1
    case step1=>
     rintro D ad V i ds f L m n ⟨ta,tb,tc,td,te,tf,tg,U,P,W,rfl,d,A⟩;have bh:i<10:=(Ac.1 L).1;obtain rfl|rfl|rfl|rfl|rfl|rfl|rfl|rfl|rfl|rfl:=IQ i Y
     all_goals
      simp only[Af,Ae,Ag]at L;subst L
     . have r:D 8=false:=DR f n;have Qe:D 9=false:=DR f n;obtain rfl:=EE d Qe;clear m;refine DT ?_;exact⟨(Gi (Dg d) ⟨λ_=>rfl,λh=>by simp[Qe]at h⟩),J ⟨λh=>A.o.1 (by simpa using h),λh E=>A.o.2.1 (by simpa using h) (by simpa using E),λh=>A.o.2.2 (by simpa using h)⟩⟩
     . have r:D 8=false:=DR f (DR (a:=7) f (DR (a:=6) f (DR (a:=4) f (DR (a:=3) f n))));have v:D 7=false:=DR f (DR (a:=6) f (DR (a:=4) f (DR (a:=3) f n)));have g:=A.o.1 v;clear m;refine DT ?_;exact⟨J ⟨d.o.1,λ_=>rfl,d.o.2.2.1,d.o.2.2.2.1,d.o.2.2.2.2.1,(Dp d),(Ds d),(Du d),(D6 d),⟨λh=>(EE d) (by simpa using h),λh=>d.o.2.2.2.2.2.2.2.2.2.2 (by simpa using h)⟩⟩,J ⟨λ_=>g,λh=>by simp[v]at h,λh=>by simp[r]at h⟩⟩
     . have r:D 8=false:=DR f (DR (a:=7) f (DR (a:=6) f (DR (a:=4) f (DR (a:=3) f n))));have v:D 7=false:=DR f (DR (a:=6) f (DR (a:=4) f (DR (a:=3) f n)));have g:=A.o.1 v;clear m;refine DT ?_;exact⟨J ⟨d.o.1,d.o.2.1,λ_=>rfl,d.o.2.2.2.1,d.o.2.2.2.2.1,(Dp d),(Ds d),(Du d),(D6 d),⟨λh=>(EE d) (by simpa using h),λh=>d.o.2.2.2.2.2.2.2.2.2.2 (by simpa using h)⟩⟩,J ⟨λ_=>g,λh=>by simp[v]at h,λh=>by simp[r]at h⟩⟩
     . have r:D 8=false:=DR f (DR (a:=7) f (DR (a:=6) f (DR (a:=4) f n)));have v:D 7=false:=DR f (DR (a:=6) f (DR (a:=4) f n));have g:=A.o.1 v;obtain rfl:=d.o.2.1 (m 1 O);obtain rfl:=d.o.2.2.1 (m 2 O);clear m;refine DT ?_;exact⟨J ⟨d.o.1,λ_=>rfl,λ_=>rfl,λ_=>rfl,d.o.2.2.2.2.1,(Dp d),(Ds d),(Du d),(D6 d),⟨λh=>(EE d) (by simpa using h),λh=>d.o.2.2.2.2.2.2.2.2.2.2 (by simpa using h)⟩⟩,J ⟨λ_=>g,λh=>by simp[v]at h,λh=>by simp[r]at h⟩⟩
     . have r:D 8=false:=DR f (DR (a:=7) f (DR (a:=6) f n));have v:D 7=false:=DR f (DR (a:=6) f n);have g:=A.o.1 v;obtain rfl:=d.o.2.2.2.1 (m 3 O);obtain⟨⟨e0,e1,e2,e3⟩,hr⟩:=Qo.o V g.2;clear m;refine DT ?_;exact⟨J ⟨d.o.1,d.o.2.1,d.o.2.2.1,λ_=>rfl,λ_ _=>hr,(Dp d),(Ds d),(Du d),(D6 d),⟨λh=>(EE d) (by simpa using h),λh=>d.o.2.2.2.2.2.2.2.2.2.2 (by simpa using h)⟩⟩,J ⟨λ_=>g,λh=>by simp[v]at h,λh=>by simp[r]at h⟩⟩
     . have r:D 8=false:=DR f (DR (a:=7) f (DR (a:=6) f n));have v:D 7=false:=DR f (DR (a:=6) f n);have g:=A.o.1 v;have n0:=Qp.o.below g.2;obtain⟨e0,e1,e2,e3⟩:=n0.cq;clear m;refine DT ?_;exact⟨J ⟨d.o.1,d.o.2.1,d.o.2.2.1,d.o.2.2.2.1,d.o.2.2.2.2.1,λ_ _=>HQ.o.below g.2,(Ds d),(Du d),(D6 d),⟨λh=>(EE d) (by simpa using h),λh=>d.o.2.2.2.2.2.2.2.2.2.2 (by simpa using h)⟩⟩,J ⟨λ_=>g,λh=>by simp[v]at h,λh=>by simp[r]at h⟩⟩
     . have r:D 8=false:=DR f n;have v:D 7=false:=DR f n;have g:=A.o.1 v;have Q:=d.o.2.2.2.2.1 (m 4 O) r;have h1:=Dp d (m 5 O) r;clear m;have HC:=J (OJ _ _ (cf ps k) q V Q h1 (HP.o.at k) Qi.o);clear Q h1;refine Jb rfl rfl λK hK=>?_;go_simp;go_wp2_with(go_at_call 44;refine HC.o.mono ?_;rintro e w5 ⟨v5,rfl,bg,T⟩)
       exact E8 ⟨_,_,rfl,J ⟨d.o.1,d.o.2.1,d.o.2.2.1,d.o.2.2.2.1,λh E=>(d.o.2.2.2.2.1 h E).below T,λh E=>((Dp d) h E).below T,λ_ _=>bg,(Du d),(D6 d),⟨λh=>(EE d) (by simpa using h),λh=>d.o.2.2.2.2.2.2.2.2.2.2 (by simpa using h)⟩⟩,J ⟨λ_=>g.below T,λh=>by simp[v]at h,λh=>by simp[r]at h⟩⟩
     . have r:D 8=false:=DR f n;have g:=A.o.1 n;have Q:=Ds d (m 6 O) r;obtain⟨a9,l9,c9,s9,b9,k9,d9,t9,rfl⟩:=Jr.form Q;clear m;refine DT ?_;exact⟨J ⟨d.o.1,d.o.2.1,d.o.2.2.1,d.o.2.2.2.1,λh E=>(d.o.2.2.2.2.1 h E).below (Ba V _),λh E=>((Dp d) h E).below (Ba V _),λh E=>((Ds d) h E).below (Ba V _),λ_=>⟨_,_,_,rfl⟩,(D6 d),⟨λh=>(EE d) (by simpa using h),λh=>d.o.2.2.2.2.2.2.2.2.2.2 (by simpa using h)⟩⟩,J ⟨λh=>by simp at h,λ_ _=>⟨V,_,_,_,_,rfl,g,Q,rfl⟩,λh=>by simp[r]at h⟩⟩
     . obtain⟨I,x9,y9,z9,u9,rfl,g,bf,aw⟩:=A.o.2.1 (m 7 O) n;obtain rfl:=d.o.1 (m 0 O);have Qe:D 9=false:=DR f n;have Qg:=m 7 O;obtain⟨v5,w5,ah,ak,bi,T⟩:=XF false W0.heap.size I _ _ g.1 bf (by rw[JJ];exact HK.o) g.2.size;dsimp only[GA,EH]at ah;subst aw;obtain⟨a6,c6,e6,_⟩:=ak.form;subst e6;clear m;refine Jb rfl rfl λK hK=>?_;refine Lib.wp_append_run _ _ _ 30 30 rfl _ _ rfl rfl _ _ ah (hK _ _ ?_);exact E8 ⟨_,_,rfl,J ⟨λ_=>rfl,d.o.2.1,d.o.2.2.1,d.o.2.2.2.1,λ_ h=>by simp at h,λ_ h=>by simp at h,λ_ h=>by simp at h,(Du d),λ_=>⟨_,_,_,rfl⟩,⟨λh=>(EE d) (by simpa using h),λh=>by simp[Qe]at h⟩⟩,J ⟨λh=>by simp[Qg]at h,λ_ h=>by simp at h,λ_=>⟨ak,T _ _ (Aa _) g.2⟩⟩⟩
     . clear m;refine DT ?_;exact⟨(Gi d ⟨λh=>by simp at h,λ_=>rfl⟩),J ⟨λh=>A.o.1 (by simpa using h),λh E=>A.o.2.1 (by simpa using h) (by simpa using E),λh=>A.o.2.2 (by simpa using h)⟩⟩
    case fin1=>
     rintro D ad V ae ⟨ta,tb,tc,td,te,tf,tg,U,P,W,rfl,d,A⟩;have HO:=J (A.o.2.2 (ae 8 DQ));obtain rfl:=d.o.2.2.2.2.2.2.2.2.2.2 (ae 9 DQ);clear d A ae;obtain⟨a9,c9,e9,_⟩:=HO.o.1.form;rw[<-YU,JJ]at e9;subst e9;go_wp2_with fail
     go_roundw
     case rel=>exact⟨k+1,Y,by go_num,⟨a9,c9,rfl⟩,J (by rw[YU];exact HO.o)⟩
     case measure=>simp[intOf];omega
  . have Qk:k=la:=Y
    subst Qk;have HT:=J (KG _ _ wr (X.o.1.row (by rw[JJ];omega)));have HE:=J (show Jd (Xm (λi=>cf ps i*q) k)=Jd (YL q ps)from YB λj=>by
     rw[K5,Y9];split
     . rfl
     . rw[J1 (by have:=Qh.o;omega)];grind)
    rw[HE.o]at HT;go_wp2_with(go_at_call 45;refine HT.o.mono ?_;clear HT;rintro e w1 ⟨u1,rfl,ap,aq⟩;obtain⟨a7,l7,c7,rfl⟩:=ap.form)
    go_ret;exact⟨_,rfl,ap,(Bt Qd.o X.o.2).trans (aq.mono (Aq Qd.o.size X.o.2.size))⟩
theorem aT{ps:List Rat}(h:DZ ps):DZ (Jd (YL (-1) ps)):=DZ.of λi=>by
 rw[JU,Y9,show cf ps i*-1=-(cf ps i)from by grind];exact(h.at i).neg
theorem It(s t:Value)(ps qs:List Rat)(w:G)(f:RowK false w s ps)(g:RowK false w t qs)(q:DZ ps)(i:DZ qs)(c:ps.length<1099511627776/\qs.length<1099511627776):
 Calls Tryz.prog 63 #[s,t] w λe v=>∃u,e=.returned u/\RowK false v u (J3 ps qs)/\Bl w v:=by
 obtain⟨a,la,ca,rfl⟩:=f.form;obtain⟨b,lb,cb,rfl⟩:=g.form;obtain⟨x,m,n,d⟩:=EB (show ES ps (Jd (YL (-1) qs))=J3 ps qs from YB λj=>by rw[Xy,JU,Xy]) (Is (-1) Y Y w) (λ(V:G) (u:Value) (h:Bl w V) (l:Jr V u ((-1:Int):Rat))=>RZ _ u qs (-1) V (g.below h) l i (Sq.of (k:=1) ⟨(Sm.one 1 Y).neg,Sm.one 1 Y⟩ Y) c.2) λ(V:G) (u:Value) (h:Bl w V) (l:RowK false V u (Jd (YL (-1) qs)))=>IJ _ u ps _ V (f.below h) l q (aT i) ⟨c.1,Ct (Jw _) (by unfold YL;rw[FO];exact c.2)⟩;rw[x.o]at d;clear f g q i c;go_enter Tryz.func63,Tryz.ntmps63
 go_wp2_with(first
  |(go_at_call 42;refine m.o.mono ?_;clear m;rintro e M ⟨u1,rfl,D,p⟩)
  |(go_at_call 76;refine(n.o _ _ p D).mono ?_;clear n;rintro e N ⟨u2,rfl,E,z⟩;have o:=Bt p z)
  |(go_at_call 64;refine(d.o _ _ o E).mono ?_;clear d;rintro e P ⟨u3,rfl,r,A⟩;have y:=Bt o A;obtain⟨I,L,K,rfl⟩:=r.form))
 go_ret;exact⟨_,rfl,r,y⟩
theorem K6(T:Value)(n:Nat)(q:Rat)(w:G)(hq:Jr w T q)(hn:n<1099511627775):
 Calls Tryz.prog 78 #[B H (n:Int),T] w λe U=>∃u,e=.returned u/\RowK false U u (Jd (Dl n [q]))/\Bl w U:=by
 obtain⟨l,A,p,D,m,z,r,E,rfl⟩:=Jr.form hq;have b0:=JL.new w 85 (C l A p) (F D) (C m z r) (F E);have d:Bl w (w.alloc (.cells #[C l A p,F D,C m z r,F E] 85)):=Ba w _;obtain⟨W0,t⟩:=ex (w.alloc (.cells #[C l A p,F D,C m z r,F E] 85));rw[t]at d b0;obtain⟨Qe,HQ,K,Qh⟩:=EB t (hq.below d) d b0;clear hq t b0 d;go_enter Tryz.func78,Tryz.ntmps78
 go_upto_region 1 with fail
 rw[Qe.o];go_wp2;go_loopw [5,6] (λo i wr=>∃k:Nat,k<=n/\i=B H (k:Int)/\(∃R S,o=C R k S)/\Hid (F2 false W0 wr o (Xm (λ_=>0) k))) λ_ i _=>n-(intOf i).toNat
 case atStart=>exact⟨0,AK _,rfl,⟨_,_,rfl⟩,J ⟨Eh.nil _ _ _,BB _ _⟩⟩
 case round=>
  obtain⟨k,hk,rfl,⟨R,S,rfl⟩,a⟩:=hrel;by_cases aj:k<n
  . have ak:(k:Int)<(n:Int):=Y
    have I:=J (Is 0 Y Y wr);have X:=J (show k+1<=1099511627776 by omega);go_wp2_with(first
     |(go_at_call 42;refine I.o.mono ?_;clear I;rintro e w3 ⟨u3,rfl,y,x⟩;obtain⟨ae,an,ah,ap,af,am,ai,aq,rfl⟩:=Jr.form y;obtain⟨v9,V,f,c,v,b⟩:=XF false W0.heap.size w3 _ _ (a.o.1.below x) y (by rw[JJ];exact X.o) (by have:=a.o.2.size;have:=x.size;omega);have L:=J c;have Qg:=J (b W0.heap.size W0 (Aa _) (Bt a.o.2 x));clear c v b y)
     |(at_builtin;refine Bi _ rfl _ _ 30 30 rfl _ _ rfl rfl _ _ f ?_))
    obtain⟨a9,c9,N,_⟩:=L.o.form;go_roundw
    case rel=>
     refine⟨k+1,Y,by go_num,⟨a9,c9,?_⟩,J ⟨?_,Qg.o⟩⟩
     . rw[Ai,JJ]at N;exact N
     . rw[YU];exact L.o
    case measure=>simp[intOf];omega
  . have Qf:k=n:=Y
    subst Qf;have n0:=Qh.o.below a.o.2;obtain⟨e0,e1,e2,e3⟩:=n0.cq;obtain⟨v9,V,f,c,v,b⟩:=XF false W0.heap.size wr _ _ a.o.1 (HQ.o.below a.o.2) (by rw[JJ];omega) a.o.2.size;dsimp only[GA,EH]at f;have W:=J (show Jd (Xm (λ_=>0) k++[q])=Jd (Dl k [q])from YB λj=>by
     rw[Mq,JJ,IX,K5];by_cases s:j=k
     . rw[BG s,BG Y,s,A3,Xo]
     . rw[BC s];by_cases P:k<=j
       . rw[BG P,J1 si];split<;>rfl
       . rw[BC P];split<;>rfl)
    have M:=b W0.heap.size W0 (Aa _) a.o.2;have g:=J (KG _ _ V (c.row (by rw[Ai,JJ];simp;omega)));rw[W.o]at g;clear c v b n0;go_wp2_with(first
     |(at_builtin;refine Bi _ rfl _ _ 30 30 rfl _ _ rfl rfl _ _ f ?_)
     |(go_at_call 45;refine g.o.mono ?_;clear g;rintro e w1 ⟨u1,rfl,Q,ad⟩;obtain⟨a7,l7,c7,rfl⟩:=Q.form))
    go_ret;exact⟨_,rfl,Q,(Bt K.o M).trans (ad.mono (Aq K.o.size M.size))⟩
def DX(W:G)(R:Nat)(s:ByteArray)(I E A:Int):Prop:=W.heap[R]?=some (.cells #[.string s,B H I,B H E,B H A] 106 (0,0))
section
variable {W W':World} {R:Nat} {s:ByteArray} {I E A:Int}
theorem DX.lt(h:DX W R s I E A):R<W.heap.size:=(Ab.1 h).1
theorem DX.c0(h:DX W R s I E A):W.cell? ⟨R,0,none⟩=some (.string s):=by simp[World.cell?,show W.heap[R]?=_ from h]
theorem DX.c1(h:DX W R s I E A):W.cell? ⟨R,1,none⟩=some (B H I):=by simp[World.cell?,show W.heap[R]?=_ from h]
theorem DX.cp(h:DX W R s I E A):type_of% (And.intro h.c0 h.c1):=⟨h.c0,h.c1⟩
theorem DX.c2(h:DX W R s I E A):W.cell? ⟨R,2,none⟩=some (B H E):=by simp[World.cell?,show W.heap[R]?=_ from h]
theorem DX.c3(h:DX W R s I E A):W.cell? ⟨R,3,none⟩=some (B H A):=by simp[World.cell?,show W.heap[R]?=_ from h]
theorem DX.cq(h:DX W R s I E A):type_of% (And.intro h.c0 (And.intro h.c1 (And.intro h.c2 h.c3))):=⟨h.c0,h.c1,h.c2,h.c3⟩
theorem DX.f(h:DX W R s I E A)(o:Nat):W.frozen? ⟨R,o,none⟩=false:=by simp[World.frozen?,show W.heap[R]?=_ from h]
theorem DX.below(h:DX W R s I E A)(a:Bl W W'):DX W' R s I E A:=(a.block R h.lt).trans h
theorem DX.set1(h:DX W R s I E A)(x:Int):DX (W.setCell ⟨R,1,none⟩ (B H x)) R s x E A:=by
 have:=JY (o:=1) h (B H x);exact this
theorem DX.set2(h:DX W R s I E A)(x:Int):DX (W.setCell ⟨R,2,none⟩ (B H x)) R s I x A:=by
 have:=JY (o:=2) h (B H x);exact this
theorem DX.set3(h:DX W R s I E A)(x:Int):DX (W.setCell ⟨R,3,none⟩ (B H x)) R s I E x:=by
 have:=JY (o:=3) h (B H x);exact this
theorem DX.drewN(h:DX W R s I E A)(n:Nat):DX (W.drewN n) R s I E A:=h
end
variable{s:ByteArray}{I j:Nat}{c:UInt8}
theorem JI(W:G)(n:Nat)(r:Option Nat):W.grownBy (W.drewN n) r:=⟨rfl,rfl,rfl,Aa _,λ_ _ _=>rfl⟩
theorem Iu(R:Nat)(s:ByteArray)(I E A e p:Int)(w:G)(h:DX w R s I E A):
 Calls Tryz.prog 66 #[.pointer (some ⟨R,0,none⟩),B H e,B H p] w λr a=>r=.returned (.tuple #[])/\DX a R s I (if E=0 then e else E) (if E=0 then p else A)/\w.grownBy a (some R):=by
 have c2:=h.c2;have f2:=h.f 2;have f3:=h.f 3;have c3:=h.c3;by_cases hE:E=0
 . rw[BG hE,BG hE];go_enter Tryz.func66,Tryz.ntmps66
   go_wp2;go_end0;exact⟨rfl,(h.set2 e).set3 p,Jh (JD w R 2 _) (JD _ R 3 _)⟩
 . rw[BC hE,BC hE];have b:(E==0)=false:=by rw[BH];exact hE
   go_enter Tryz.func66,Tryz.ntmps66
   go_wp2;go_end0;exact⟨rfl,h,YH _ _⟩
theorem MQ{d:UInt8}(h:c≠d):((c.toNat:Int)==(d.toNat:Int))=false:=by
 rw[BH];intro e;exact h (DE.1 Y)
theorem Ji(s:ByteArray):(Je s).length=s.size:=by unfold Je;simp
theorem MR{f:UInt8->Bool}(d:I<=j)(e:j<=s.size)(g:∀k (a:k<s.size),I<=k->k<j->f s[k]=true)(i:∀l:j<s.size,f s[j]=false):Xt f (Je s) I=j:=
 Lb d (by rw[Ji];exact e) (λk a b c=>g k (by rwa[Ji]at a) b c) λa=>i (by rwa[Ji]at a)
theorem Ra(a:j<s.size):JP (Je s) j c=(s[j]==c):=by
 unfold JP;rw[Ah (by rw[Ji];exact a)];rfl
theorem Rb(a:s.size<=j):JP (Je s) j c=false:=by
 unfold JP;rw[At (by rw[Ji];exact a)];rfl
def Ez(W:G)(R:Nat):Nat:=(intOf ((W.cell? ⟨R,1,none⟩).getD undef)).toNat
theorem GP{W:G}{R:Nat}{E A:Int}(h:DX W R s I E A):Ez W R=I:=by
 unfold Ez;rw[h.c1];simp[intOf]
theorem YI(R:Nat)(s:ByteArray)(I:Nat)(E A:Int)(c:UInt8)(w:G)(h:DX w R s I E A)(N:I<=s.size)(hs:s.size<=300):
 Calls Tryz.prog 65 #[.pointer (some ⟨R,0,none⟩),B .u8 (c.toNat:Int)] w λr y=>r=.returned (F (decide (E=0)&&JP (Je s) (DU (Je s) I) c))/\DX y R s (DU (Je s) I:Nat) E A/\w.grownBy y (some R):=by
 have z:=J h;clear h;go_enter Tryz.func65,Tryz.ntmps65
 go_wp2;go_loopw [5] (λ_ wr=>∃j:Nat,I<=j/\j<=s.size/\Hid (DX wr R s j E A/\w.grownBy wr (some R)/\∀k (n:k<s.size),I<=k->k<j->s[k]=32)) λ_ wr=>s.size-Ez wr R
 case atStart=>exact⟨I,Aa _,N,J ⟨z.o,YH _ _,λk _ u v=>by omega⟩⟩
 case round=>
  obtain⟨j,u,v,a⟩:=hrel;obtain⟨c0,c1⟩:=a.o.1.cp;have c2:=a.o.1.c2;have f1:=a.o.1.f 1;by_cases x:j<s.size
  . have T:(j:Int)<(s.size:Int):=Y
    have S:(0:Int)<=(j:Int):=Y
    by_cases l:s[j]=32
    . have P:((s[j].toNat:Int)==32)=true:=by rw[l];rfl
      have K:=J l;clear l;go_wp2_with fail
      go_quiet (fail)
      go_wp2;go_roundw
      case rel=>
       refine⟨j+1,Y,Y,J ⟨?_,Jh (Jh a.o.2.1 (JI _ _ _)) (JD _ R 1 _),λk n p q=>?_⟩⟩
       . have:=(a.o.1.drewN nq).set1 ((j:Int)+1);rw[show((j:Int)+1)=((j+1:Nat):Int)from by omega]at this;exact this
       . by_cases e:k=j
         . subst e;exact K.o
         . exact a.o.2.2 k n p Y
      case measure=>
       have L:=GP a.o.1;have M:Ez ((wr.drewN nq).setCell ⟨R,1,none⟩ (B H ((j:Int)+1))) R=j+1:=by
        have:=(a.o.1.drewN nq).set1 ((j:Int)+1);rw[show((j:Int)+1)=((j+1:Nat):Int)from by omega]at this ⊢;exact GP this
       show s.size-Ez ((wr.drewN nq).setCell ⟨R,1,none⟩ (B H ((j:Int)+1))) R<s.size-Ez wr R;rw[L,M];omega
    . have P:((s[j].toNat:Int)==32)=false:=MQ (d:=32) l;have b:=J (show DU (Je s) I=j from MR u v (λk n p q=>by rw[a.o.2.2 k n p q];rfl) λ_=>BH.2 l);have i:=J (Ra (s:=s) (c:=c) x);clear l;go_wp2_with fail
      go_quiet (fail)
      go_wp2;have g:=J (show w.grownBy (wr.drewN nq) (some R)from Jh a.o.2.1 (JI _ _ _));have f:=J (a.o.1.drewN nq);by_cases hE:E=0
      . have t:(E==0)=true:=by rw[hE];rfl
        by_cases m:s[j]=c
        . have D:((s[j].toNat:Int)==(c.toNat:Int))=true:=by rw[m];exact beq_self_eq_true _
          have o:=J (show(decide (E=0)&&(s[j]==c))=true by rw[hE,m];simp);clear m hE;go_quiet (fail)
          go_wp2;go_ret;exact⟨by rw[b.o,i.o,o.o];rfl,by rw[b.o];exact f.o.drewN _,Jh g.o (JI _ _ _)⟩
        . have D:((s[j].toNat:Int)==(c.toNat:Int))=false:=MQ m;have o:=J (show(decide (E=0)&&(s[j]==c))=false by rw[BH.2 m,Bool.and_false]);clear m hE;go_quiet (fail)
          go_wp2;go_ret;exact⟨by rw[b.o,i.o,o.o];rfl,by rw[b.o];exact f.o.drewN _,Jh g.o (JI _ _ _)⟩
      . have t:(E==0)=false:=by rw[BH];exact hE
        have o:=J (show(decide (E=0)&&(s[j]==c))=false by rw[BI hE,Bool.false_and]);clear hE;go_quiet (fail)
        go_wp2;go_ret;exact⟨by rw[b.o,i.o,o.o];rfl,by rw[b.o];exact f.o.drewN _,Jh g.o (JI _ _ _)⟩
  . have Q:decide (j<s.size)=false:=BI Y;have b:=J (show DU (Je s) I=j from MR u v (λk n p q=>by rw[a.o.2.2 k n p q];rfl) λh=>by omega);have i:=J (Rb (s:=s) (j:=j) (c:=c) Y);clear x;go_wp2_with fail
    go_quiet (fail)
    go_wp2;have g:=J (show w.grownBy (wr.drewN nq) (some R)from Jh a.o.2.1 (JI _ _ _));have f:=J (a.o.1.drewN nq);by_cases hE:E=0
    . have t:(E==0)=true:=by rw[hE];rfl
      clear hE;go_quiet (fail)
      go_wp2;go_ret;exact⟨by rw[b.o,i.o,Bool.and_false];rfl,by rw[b.o];exact f.o.drewN _,Jh g.o (JI _ _ _)⟩
    . have t:(E==0)=false:=by rw[BH];exact hE
      clear hE;go_quiet (fail)
      go_wp2;go_ret;exact⟨by rw[b.o,i.o,Bool.and_false];rfl,by rw[b.o];exact f.o.drewN _,Jh g.o (JI _ _ _)⟩
end
section
attribute [local go_sem] Oper.semAt_some
variable{l:List UInt8}{d n p:Nat}
theorem Rc(c:UInt8)(w:G):Calls Tryz.prog 130 #[B .u8 (c.toNat:Int)] w λr e=>r=.returned (F (Da c))/\e=w:=by
 by_cases b:48<=c.toNat
 . have f:decide ((48:Int)<=(c.toNat:Int))=true:=BK Y;by_cases d:c.toNat<=57
   . have a:=J (show Da c=true by simp[Da,b,d]);go_enter Tryz.func130,Tryz.ntmps130
     go_wp2;go_ret;exact⟨by rw[a.o];simp;omega,rfl⟩
   . have a:=J (show Da c=false by simp[Da,d]);go_enter Tryz.func130,Tryz.ntmps130
     go_wp2;go_ret;exact⟨by rw[a.o];simp;omega,rfl⟩
 . have a:=J (show Da c=false by simp[Da,b]);go_enter Tryz.func130,Tryz.ntmps130
   go_wp2;go_ret;exact⟨by rw[a.o];rfl,rfl⟩
theorem J8(R:Nat)(s:ByteArray)(I:Nat)(E A:Int)(c:UInt8)(w:G)(h:DX w R s I E A)(j:I<=s.size)(hs:s.size<=300)(b:Bool)(l:b=(decide (E=0)&&JP (Je s) (DU (Je s) I) c)):
 Calls Tryz.prog 61 #[.pointer (some ⟨R,0,none⟩),B .u8 (c.toNat:Int)] w λr m=>r=.returned (F b)/\DX m R s ((DU (Je s) I+(if b then 1 else 0):Nat):Int) E A/\w.grownBy m (some R):=by
 have d:=J (YI R s I E A c w h j hs);have k:=J (show DU (Je s) I<=300 from Aq (Ys (by rw[Ji];exact j)) (by rw[Ji];exact hs));rw[<-l]at d;clear h j hs l;cases b
 . go_enter Tryz.func61,Tryz.ntmps61
   go_wp2_with first
    |(go_at_call 65;refine d.o.mono ?_;clear d;rintro e n ⟨rfl,a,f⟩;have i:=J a;clear a;have g:=J f;clear f)
   go_ret;exact⟨rfl,i.o,g.o⟩
 . go_enter Tryz.func61,Tryz.ntmps61
   go_wp2_with first
    |(go_at_call 65;refine d.o.mono ?_;clear d;rintro e n ⟨rfl,a,f⟩;have i:=J a;have c1:=a.c1;have f1:=a.f 1;clear a;have g:=J f;clear f;have o:=k.o;clear k)
   go_ret;exact⟨rfl,i.o.set1 _,Jh g.o (JD _ R 1 _)⟩
theorem Re(h:l.all Da=true):num l<10^l.length:=by
 have:=Yh (LZ h);rwa[Kh]at this
def YK(l:List UInt8)(p d n:Nat):Prop:=p+d<=l.length/\((l.drop p).take d).all Da=true/\n=num ((l.drop p).take (min 12 d))
theorem YK.zero(h:p<=l.length):YK l p 0 0:=⟨Y,O,by simp[num,EF,val]⟩
theorem Rf(l:List UInt8)(p d:Nat)(h:p+d<l.length):(l.drop p).take (d+1)=(l.drop p).take d++[l[p+d]]:=by
 rw[Cg (by rw[AV];omega),Fe]
theorem YK.all{l:List UInt8}{p d n:Nat}(h:YK l p d n)(hl:p+d<l.length)(a:Da l[p+d]=true):((l.drop p).take (d+1)).all Da=true:=by
 rw[Rf l p d hl,Fv,h.2.1];simp[a]
theorem YK.next1(h:YK l p d n)(hl:p+d<l.length)(a:Da l[p+d]=true)(b:d<12):YK l p (d+1) (10*n+(l[p+d].toNat-48)):=by
 refine⟨Y,h.all hl a,?_⟩;rw[show min 12 (d+1)=d+1 from by omega,Rf l p d hl,NB,h.2.2,show min 12 d=d from by omega];omega
theorem YK.next2(h:YK l p d n)(hl:p+d<l.length)(a:Da l[p+d]=true)(b:12<=d):YK l p (d+1) n:=by
 refine⟨Y,h.all hl a,?_⟩;rw[show min 12 (d+1)=min 12 d from by omega];exact h.2.2
theorem YK.lt(h:YK l p d n):n<10^min 12 d:=by
 have e:((l.drop p).take (min 12 d)).all Da=true:=by
  rw[A4];intro c b;refine A4.1 h.2.1 c ?_;rw[show(l.drop p).take (min 12 d)=((l.drop p).take d).take (min 12 d)from by rw[List.take_take];congr 1;omega]at b;exact FK b
 have a:=Re e;rw[Al,AV,<-h.2.2]at a;have:=h.1;rwa[show min (min 12 d) (l.length-p)=min 12 d from by omega]at a
theorem YK.lt12(h:YK l p d n):n<1000000000000:=
 AC h.lt (Aw (n:=10) Y (by omega:min 12 d<=12))
theorem YK.lt11(h:YK l p d n)(a:d<12):n<100000000000:=
 AC h.lt (Aw (n:=10) Y (by omega:min 12 d<=11))
theorem YK.dg(h:YK l p d n)(a:∀hl:p+d<l.length,Da l[p+d]=false):Ed l p=p+d:=by
 refine Lb Y h.1 (λk e b c=>?_) a;have:=A4.1 h.2.1 (l[k]) ?_
 . exact this
 . rw[List.mem_iff_getElem];refine⟨k-p,by rw[Al,AV];omega,?_⟩;rw[List.getElem_take,Fe];congr 1;omega
def EN{α:Type}(r:Rd α)(E:Int):Int:=if E=0 then(match r with|.bad e _=>(e:Int)|.ok _ _=>0)else E
def Ei{α:Type}(r:Rd α)(E A:Int):Int:=if E=0 then(match r with|.bad _ p=>(p:Int)|.ok _ _=>A)else A
theorem OL(R:Nat)(s:ByteArray)(I:Nat)(E A:Int)(p:Nat)(w:G)(h:DX w R s I E A)(hI:I<=s.size)(hs:s.size<=300)(hp:DU (Je s) I=p):
 Calls Tryz.prog 102 #[.pointer (some ⟨R,0,none⟩)] w λr w'=>∃d n:Nat,r=.returned (.tuple #[B H (n:Int),B H (p:Int)])/\Ed (Je s) p=p+d/\YK (Je s) p d n/\DX w' R s ((p+d:Nat):Int) (EN (JX (Je s) I) E) (Ei (JX (Je s) I) E A)/\w.grownBy w' (some R):=by
 have W:=J (YI R s I E A 32 w h hI hs);rw[hp]at W;have Qn:p<=s.size:=by rw[<-hp];exact Aq (Ys (by rw[Ji];exact hI)) (by rw[Ji];exact Aa _)
 have P:=J hp;have u:=J λ(x y:Int) (I':Int) (V:G) (hh:DX V R s I' E A)=>Iu R s I' E A x y V hh;clear h hI hp;go_enter Tryz.func102,Tryz.ntmps102
 go_wp2_with first
  |(go_at_call 65;refine W.o.mono ?_;clear W;rintro e w1 ⟨rfl,ad,ae⟩;have Qm:=J ad;have c1:=ad.c1;clear ad;have Qo:=J ae;clear ae)
 go_loopw [5] (λnv wr=>∃d n:Nat,nv=B H (n:Int)/\p+d<=s.size/\Hid (DX wr R s ((p+d:Nat):Int) E A/\w.grownBy wr (some R)/\YK (Je s) p d n)) λ_ wr=>s.size-Ez wr R
 case atStart=>exact⟨0,0,rfl,Y,J ⟨Qm.o,Qo.o,YK.zero (by rw[Ji];exact Qn)⟩⟩
 case round=>
  clear c1;obtain⟨d,n,rfl,af,c⟩:=hrel;obtain⟨j,hj⟩:∃j,j=p+d:=⟨_,rfl⟩;have b:=J hj;rw[<-hj]at af c;have aj:(j:Int)-(p:Int)=(d:Int):=Y
  clear hj;obtain⟨c0,c1⟩:=c.o.1.cp;have f1:=c.o.1.f 1;by_cases ak:j<s.size
  . have am:(j:Int)<(s.size:Int):=Y
    have ai:(0:Int)<=(j:Int):=Y
    by_cases o:Da s[j]=true
    . have Q:=J (Rc s[j]);rw[o]at Q;have ah:=YT o;have Ql:=J o;clear o;go_wp2_with fail
      go_quiet ((go_at_call 130;exact Calls.quiet_of_same (Q.o _)))
      obtain⟨N,h0⟩:∃k,k=nq:=⟨nq,rfl⟩;subst h0;have q:=J (show DX (wr.drewN N) R s (j:Int) E A/\w.grownBy (wr.drewN N) (some R)/\YK (Je s) p d n from⟨c.o.1.drewN N,Jh c.o.2.1 (JI _ _ _),c.o.2.2⟩);have Qk:=J (GP c.o.1);clear Q;by_cases U:d<12
      . have T:(d:Int)<12:=Y
        have hn:=q.o.2.2.lt11 U;go_wp2;go_quiet (fail)
        go_wp2;go_roundw
        case rel=>
         refine⟨d+1,10*n+(s[j].toNat-48),?_,?_,J ⟨?_,?_,?_⟩⟩
         . congr 1;omega
         . have:=b.o;omega
         . have:=(c.o.1.drewN (N+nq)).set1 ((j:Int)+1);rw[show((j:Int)+1)=((p+(d+1):Nat):Int)from by have:=b.o;omega]at this ⊢;exact this
         . exact Jh (Jh c.o.2.1 (JI _ _ _)) (JD _ R 1 _)
         . have:=c.o.2.2.next1 (by rw[Ji];have:=b.o;omega) (by simp only[<-b.o];exact Ql.o) U;simp only[<-b.o]at this;exact this
        case measure=>
         have S:=GP ((c.o.1.drewN (N+nq)).set1 ((j+1:Nat):Int));rw[show((j+1:Nat):Int)=(j:Int)+1 from by omega]at S;rw[S,Qk.o];omega
      . have T:¬(d:Int)<12:=Y
        go_wp2;go_roundw
        case rel=>
         refine⟨d+1,n,rfl,?_,J ⟨?_,?_,?_⟩⟩
         . have:=b.o;omega
         . have:=(c.o.1.drewN N).set1 ((j:Int)+1);rw[show((j:Int)+1)=((p+(d+1):Nat):Int)from by have:=b.o;omega]at this ⊢;exact this
         . exact Jh (Jh c.o.2.1 (JI _ _ _)) (JD _ R 1 _)
         . exact c.o.2.2.next2 (by rw[Ji];have:=b.o;omega) (by simp only[<-b.o];exact Ql.o) Y
        case measure=>
         have S:=GP ((c.o.1.drewN N).set1 ((j+1:Nat):Int));rw[show((j+1:Nat):Int)=(j:Int)+1 from by omega]at S;rw[S,Qk.o];omega
    . have Q:=J (Rc s[j]);have o:=Bool.eq_false_iff.2 o;rw[o]at Q;have i:=J (show Ed (Je s) p=j by rw[b.o];exact c.o.2.2.dg λhl=>by simp only[<-b.o];exact o);clear o;go_wp2_with fail
      go_quiet ((go_at_call 130;exact Calls.quiet_of_same (Q.o _)))
      obtain⟨D,z,L⟩:=Dk (c.o.1.drewN nq) (show w.grownBy (wr.drewN nq) (some R)from Jh c.o.2.1 (JI _ _ _)) c.o.2.2;clear c;by_cases M:d=0
      . have l:j=p:=by have:=b.o;omega
        have g:=J (show JX (Je s) I=.bad 2 p by unfold JX;rw[P.o,i.o,BG l]);clear M;go_wp2_with first
         |(go_at_call 66;refine(u.o _ _ _ _ D.o).mono ?_;clear u;rintro e w2 ⟨rfl,f,m⟩;have q:=J f;have X:=f.c1;clear f;have K:=J (Jh z.o m);clear m)
        refine BA (v:=.tuple #[B H (n:Int),B H (p:Int)]) (by simp[results,Tryz.results102,go_sem]) rfl ⟨d,n,rfl,by rw[i.o];exact b.o,L.o,?_,K.o⟩;rw[<-b.o];have:=q.o;rw[g.o];exact this
      . by_cases U:12<d
        . have l:¬j=p:=by have:=b.o;omega
          have Qj:((j:Int)==(p:Int))=false:=by rw[BH];omega
          have T:(12:Int)<(d:Int):=Y
          have g:=J (show JX (Je s) I=.bad 3 p by unfold JX;rw[P.o,i.o,BC l,BG (by have:=b.o;omega)]);clear M;go_wp2_with first
           |(go_at_call 66;refine(u.o _ _ _ _ D.o).mono ?_;clear u;rintro e w2 ⟨rfl,f,m⟩;have q:=J f;have X:=f.c1;clear f;have K:=J (Jh z.o m);clear m)
          refine BA (v:=.tuple #[B H (n:Int),B H (p:Int)]) (by simp[results,Tryz.results102,go_sem]) rfl ⟨d,n,rfl,by rw[i.o];exact b.o,L.o,?_,K.o⟩;rw[<-b.o];have:=q.o;rw[g.o];exact this
        . have l:¬j=p:=by have:=b.o;omega
          have Qj:((j:Int)==(p:Int))=false:=by rw[BH];omega
          have T:¬(12:Int)<(d:Int):=Y
          have t:∃a k,JX (Je s) I=.ok a k:=by unfold JX;rw[P.o,i.o,BC l,BC (by have:=b.o;omega)];exact⟨_,_,rfl⟩
          obtain⟨a,k,t⟩:=t;have g:=J (show EN (JX (Je s) I) E=E/\Ei (JX (Je s) I) E A=A by rw[t];unfold EN Ei;constructor<;>(by_cases hE:E=0<;>simp[hE]));clear t;clear M;go_wp2;refine BA (v:=.tuple #[B H (n:Int),B H (p:Int)]) (by simp[results,Tryz.results102,go_sem]) rfl ⟨d,n,rfl,by rw[i.o];exact b.o,L.o,?_,z.o⟩;rw[show((p:Int)+(d:Int))=(j:Int)from by have:=b.o;omega,g.o.1,g.o.2];exact D.o
  . have i:=J (show Ed (Je s) p=j by rw[b.o];exact c.o.2.2.dg λhl=>absurd hl (by rw[Ji];have:=b.o;omega));go_wp2_with fail
    go_quiet (fail)
    obtain⟨D,z,L⟩:=Dk (c.o.1.drewN nq) (show w.grownBy (wr.drewN nq) (some R)from Jh c.o.2.1 (JI _ _ _)) c.o.2.2;clear c;by_cases M:d=0
    . have l:j=p:=by have:=b.o;omega
      have g:=J (show JX (Je s) I=.bad 2 p by unfold JX;rw[P.o,i.o,BG l]);clear M;go_wp2_with first
       |(go_at_call 66;refine(u.o _ _ _ _ D.o).mono ?_;clear u;rintro e w2 ⟨rfl,f,m⟩;have q:=J f;have X:=f.c1;clear f;have K:=J (Jh z.o m);clear m)
      refine BA (v:=.tuple #[B H (n:Int),B H (p:Int)]) (by simp[results,Tryz.results102,go_sem]) rfl ⟨d,n,rfl,by rw[i.o];exact b.o,L.o,?_,K.o⟩;rw[<-b.o];have:=q.o;rw[g.o];exact this
    . by_cases U:12<d
      . have l:¬j=p:=by have:=b.o;omega
        have Qj:((j:Int)==(p:Int))=false:=by rw[BH];omega
        have T:(12:Int)<(d:Int):=Y
        have g:=J (show JX (Je s) I=.bad 3 p by unfold JX;rw[P.o,i.o,BC l,BG (by have:=b.o;omega)]);clear M;go_wp2_with first
         |(go_at_call 66;refine(u.o _ _ _ _ D.o).mono ?_;clear u;rintro e w2 ⟨rfl,f,m⟩;have q:=J f;have X:=f.c1;clear f;have K:=J (Jh z.o m);clear m)
        refine BA (v:=.tuple #[B H (n:Int),B H (p:Int)]) (by simp[results,Tryz.results102,go_sem]) rfl ⟨d,n,rfl,by rw[i.o];exact b.o,L.o,?_,K.o⟩;rw[<-b.o];have:=q.o;rw[g.o];exact this
      . have l:¬j=p:=by have:=b.o;omega
        have Qj:((j:Int)==(p:Int))=false:=by rw[BH];omega
        have T:¬(12:Int)<(d:Int):=Y
        have t:∃a k,JX (Je s) I=.ok a k:=by unfold JX;rw[P.o,i.o,BC l,BC (by have:=b.o;omega)];exact⟨_,_,rfl⟩
        obtain⟨a,k,t⟩:=t;have g:=J (show EN (JX (Je s) I) E=E/\Ei (JX (Je s) I) E A=A by rw[t];unfold EN Ei;constructor<;>(by_cases hE:E=0<;>simp[hE]));clear t;clear M;go_wp2;refine BA (v:=.tuple #[B H (n:Int),B H (p:Int)]) (by simp[results,Tryz.results102,go_sem]) rfl ⟨d,n,rfl,by rw[i.o];exact b.o,L.o,?_,z.o⟩;rw[show((p:Int)+(d:Int))=(j:Int)from by have:=b.o;omega,g.o.1,g.o.2];exact D.o
end
section
def Rd.pos{α:Type}(r:Rd α):Prop:=∀e p,r=.bad e p->e≠0
variable{l:List UInt8}{j k p:Nat}
theorem FY{α:Type}{r:Rd α}{a:α}(h:r=.ok a k)(E A:Int):EN r E=E/\Ei r E A=A:=by
 subst h;unfold EN Ei;constructor
 . by_cases hE:E=0
   . rw[BG hE,hE]
   . rw[BC hE]
 . by_cases hE:E=0
   . rw[BG hE]
   . rw[BC hE]
theorem aU{α:Type}{r:Rd α}{e:Nat}(h:r=.bad e p)(A:Int):EN r 0=(e:Int)/\Ei r 0 A=(p:Int):=by
 subst h;exact⟨rfl,rfl⟩
theorem Hu{α:Type}(r:Rd α){E:Int}(h:E≠0)(A:Int):EN r E=E/\Ei r E A=A:=by
 unfold EN Ei;exact⟨BC h,BC h⟩
theorem MS{α:Type}{r:Rd α}(hp:r.pos){E:Int}(h:EN r E=0):E=0/\∃a k,r=.ok a k:=by
 by_cases hE:E=0
 . refine⟨hE,?_⟩;cases r with
   |ok a k=>exact⟨a,k,rfl⟩
   |bad e p=>
    exfalso
    rw[hE,(aU rfl 0).1]at h;exact hp e p rfl Y
 . rw[(Hu r hE 0).1]at h;exact absurd h hE
theorem KH(l:List UInt8)(i:Nat):(JX l i).pos:=by
 intro e p h;unfold JX at h;split at h
 . cases h;decide
 . split at h
   . cases h;decide
   . cases h
theorem aV(l:List UInt8)(i:Nat):(Yf l i).pos:=by
 intro e p h;unfold Yf at h;split at h
 . rename_i b c a;cases h;exact KH l i _ _ a
 . split at h
   . split at h
     . rename_i b c a;cases h;exact KH _ _ _ _ a
     . split at h
       . cases h;decide
       . cases h
   . cases h
theorem aW(l:List UInt8)(i:Nat):(EO l i).pos:=by
 intro e p h;unfold EO at h;split at h
 . split at h
   . rename_i b c a;cases h;exact KH _ _ _ _ a
   . split at h
     . cases h;decide
     . cases h
 . cases h
theorem Iv(l:List UInt8)(i:Nat):DU l (DU l i)=DU l i:=Tv _ l i
theorem Rg(l:List UInt8)(i:Nat):JX l (DU l i)=JX l i:=by unfold JX;rw[Iv]
theorem aX(l:List UInt8)(i:Nat):Yf l (DU l i)=Yf l i:=by unfold Yf;rw[Rg]
def GD(l:List UInt8)(i:Nat):Rd Rat:=if JP l (DU l i) 120 then .ok 1 (DU l i)else Yf l i
theorem Rh(l:List UInt8)(i:Nat):(GD l i).pos:=by
 unfold GD;split
 . intro e p h;cases h
 . exact aV l i
theorem Ri(h:GH l j=false):Ed l j=j:=by
 rcases AO j l.length with a|a
 . refine Lb (Aa _) Y (λk _ c d=>by omega) λb=>?_;unfold GH at h;rw[Ah b]at h;simpa using h
 . unfold Ed Xt;rw[AR a];rfl
theorem aY(h:GH l j=true):JP l j 120=false:=by
 unfold GH at h;unfold JP;cases b:l[j]? with
 |none=>rfl
 |some c=>
  rw[b]at h;simp only[Fg,Fo]at h;have a:=YT h;rw[BH];intro e;cases e;simp at a
theorem IK(l:List UInt8)(i:Nat):JT l i=match GD l i with
 |.bad e p=>.bad e p
 |.ok c k=>if JP l (DU l k) 120 then(match EO l (DU l k+1)with|.bad e p=>.bad e p|.ok n m=>.ok (c,n) m)else .ok (c,0) (DU l k):=by
 unfold JT GD;cases a:GH l (DU l i)with
 |true=>
  rw[aY a,aX];simp only[if_true,A9,if_false];cases Yf l i<;>rfl
 |false=>
  simp only[A9,if_false];cases b:JP l (DU l i) 120 with
  |true=>
   simp only[if_true,Iv,b];cases EO l (DU l i+1)<;>rfl
  |false=>
   simp only[A9,if_false];unfold Yf JX;rw[BG (Ri a)]
theorem YK.of_ok{i d n:Nat}(h:YK l p d n)(hp:DU l i=p)(c:Ed l p=p+d){ds:List UInt8}{b:Nat}(a:JX l i=.ok (ds,b) k):b=p/\k=p+d/\num ds=n:=by
 unfold JX at a;rw[hp,c]at a;split at a
 . cases a
 . split at a
   . cases a
   . rename_i e f;simp only[Rd.ok.injEq,Prod.mk.injEq]at a;obtain⟨⟨rfl,rfl⟩,rfl⟩:=a;refine⟨rfl,rfl,?_⟩;rw[h.2.2,show p+d-p=d from by omega,show min 12 d=d from by omega]
section
variable {W W':World} {R:Nat} {s:ByteArray} {I E A:Int}
variable{v:Value}
theorem MT(h:DX W R s I E A){cs:Array Value}{t:TypeId}{m:Nat × Nat}{b:Nat}(a:W.heap[b]?=some (.cells cs t m))(c:t≠106):b≠R:=by
 intro e;subst e;have:=a.symm.trans h;simp only[Ag,Bu]at this;exact c this.2.1
theorem Rj(h:DX W R s I E A)(g:W.grownBy W' (some R)):∀k v ds,Row k W v ds->Row k W' v ds:=by
 intro k v ds c;obtain⟨a,cap,e,_⟩:=id c;subst e;refine c.grown g λp d hl=>?_;obtain⟨b,off,f,cs,m,i⟩:=c.typ hl;rw[f]at d;cases d;exact MT h i (by cases k<;>(show _≠_;decide))
theorem Jr.rd{q:Rat}(b:Jr W v q)(h:DX W R s I E A)(a:W.grownBy W' (some R)):Jr W' v q:=EM.keep (r:=false) b (Rj h a)
theorem RowK.rd{qs:List Rat}(m:RowK false W v qs)(h:DX W R s I E A)(f:W.grownBy W' (some R)):RowK false W' v qs:=by
 obtain⟨a,cap,e,i,j,k,c⟩:=m;refine⟨a,cap,e,i,j,k,?_⟩;rcases c with c|⟨b,g,d⟩
 . exact Or.inl c
 . refine Or.inr ⟨b,g,d.keep (f.block b d.lt ?_) (Rj h f)⟩;obtain⟨cs,l,_⟩:=d;have:=MT h l (by show(85:TypeId)≠_;decide);intro e;cases e;exact this rfl
end
def GE(w V:G)(R B:Nat)(s:ByteArray)(I E A:Int)(c:Rat):Prop:=
 DX V R s I E A/\(∃a l ca e b k d t,JL V B 85 (C a l ca) (F e) (C b k d) (F t)/\Jr V (.agg #[C a l ca,F e,C b k d,F t]) c)/\w.grownBy V (some R)/\w.heap.size<=B
section
variable {w V V':World} {R B:Nat} {s:ByteArray} {I E A I' E' A':Int} {c:Rat}
theorem GE.below(h:GE w V R B s I E A c)(e:Bl V V'):GE w V' R B s I E A c:=by
 obtain⟨f,⟨a,l,ca,n,b,k,d,t,g,i⟩,j,m⟩:=h;exact⟨f.below e,⟨a,l,ca,n,b,k,d,t,g.below e,i.below e⟩,Jh j (J4 e _),m⟩
theorem GE.rd(h:GE w V R B s I E A c)(p:DX V' R s I' E' A')(g:V.grownBy V' (some R)):GE w V' R B s I' E' A' c:=by
 obtain⟨i,⟨a,l,ca,q,b,k,d,t,f,m⟩,n,o⟩:=h;have j:B≠R:=MT i f DQ;exact⟨p,⟨a,l,ca,q,b,k,d,t,(g.block B f.lt λe=>j (Ch e)).trans f,m.rd i g⟩,Jh n g,o⟩
theorem Ya{w V:G}{r:Option Nat}{B:Nat}(h:w.grownBy V r)(s:w.heap.size<=B)(o:Nat)(x:Value):w.grownBy (V.setCell ⟨B,o,none⟩ x) r:=by
 have n:=JD V B o x;obtain⟨a,b,c,d,f⟩:=h;obtain⟨g,j,k,l,m⟩:=n;exact⟨g.trans a,j.trans b,k.trans c,Aq d l,λi p q=>(m i Y (by intro e;cases e;omega)).trans (f i p q)⟩
theorem GE.put(h:GE w V R B s I E A c){a:Option Addr}{l ca:Nat}{j:Bool}{b:Option Addr}{k d:Nat}{t:Bool}{c':Rat}(v:Jr V (.agg #[C a l ca,F j,C b k d,F t]) c'):
 GE w (put4 V B (C a l ca) (F j) (C b k d) (F t)) R B s I E A c':=by
 obtain⟨n,⟨x,K,y,L,b0,D,d0,M,m,z⟩,u,f⟩:=h;have i:R≠B:=λe=>MT n m DQ e.symm;refine⟨?_,⟨a,l,ca,j,b,k,d,t,m.put _ _ _ _,EM.keep (r:=false) v λ_ _ _ g=>Row.put4 g m rfl rfl rfl rfl _ _ _ _⟩,Ya (Ya (Ya (Ya u f 0 _) f 1 _) f 2 _) f 3 _,f⟩;have o:=(BD V ⟨B,0,none⟩ (C a l ca) R i).trans n;have p:=(BD _ ⟨B,1,none⟩ (F j) R i).trans o;have q:=(BD _ ⟨B,2,none⟩ (C b k d) R i).trans p;exact(BD _ ⟨B,3,none⟩ (F t) R i).trans q
end
end
attribute [local go_sem] Oper.semAt_some
variable{A E g i:Int}{l:List UInt8}{I b d n p:Nat}{c:Rat}
theorem DY.word(h:n<1000000000000):DY (n:Int):=DY.of (k:=1) (by unfold Sm Z;omega) Y
def F3(c:Rat):Prop:=∃x y:Nat,c=Rat.divInt (x:Int) (y:Int)/\x<1000000000000/\y≠0/\y<1000000000000
theorem F3.one:F3 1:=⟨1,1,DQ,Y,Y,Y⟩
def X2(l:List UInt8)(I:Nat)(E A:Int)(c:Rat)(a:Nat)(d b:Int):Prop:=
 d=EN (GD l I) E/\b=Ei (GD l I) E A/\F3 c/\a<=l.length/\(E=0->∀c0 k,GD l I=.ok c0 k->c=c0/\a=k)
theorem aZ(b:I<=l.length)(h:(decide (E=0)&&JP l (DU l I) 120)=true):X2 l I E A 1 (DU l I) E A:=by
 rw[AM]at h;have e:GD l I=.ok 1 (DU l I):=by unfold GD;rw[BG h.2]
 refine⟨(FY e E A).1.symm,(FY e E A).2.symm,F3.one,Ys b,λ_ c0 k a=>?_⟩;rw[e]at a;cases a;exact⟨rfl,rfl⟩
theorem Rk(h:(decide (E=0)&&JP l (DU l I) 120)=false)(hE:E=0):GD l I=Yf l I:=by
 rw[hE]at h;simp at h;unfold GD;rw[h];simp
theorem OM(n:Nat):Rat.divInt (n:Int) 1=((n:Int):Rat):=by
 rw[<-Fb ((n:Int):Rat)];simp
theorem ar(h:(decide (E=0)&&JP l (DU l I) 120)=false)(hp:DU l I=p)(r:Ed l p=p+d)(m:YK l p d n)
(f:(decide (EN (JX l I) E=0)&&JP l (DU l (p+d)) 47)=false):X2 l I E A (Rat.divInt (n:Int) 1) (DU l (p+d)) (EN (JX l I) E) (Ei (JX l I) E A):=by
 have i:F3 (Rat.divInt (n:Int) 1):=⟨n,1,rfl,m.lt12,Y,Y⟩;have c:DU l (p+d)<=l.length:=Ys m.1;by_cases hE:E=0
 . rw[X2,Rk h hE];subst hE;cases b:JX l I with
   |bad e q=>
    have g:Yf l I=.bad e q:=by unfold Yf;rw[b]
    rw[g];exact⟨rfl,rfl,i,c,λ_ c0 k j=>by cases j⟩
   |ok a k=>
    obtain⟨ds,s⟩:=a;obtain⟨rfl,rfl,rfl⟩:=m.of_ok hp r b;rw[b,(FY rfl 0 0).1]at f;simp at f;have g:Yf l I=.ok ((num ds:Int):Rat) (DU l (s+d)):=by unfold Yf;rw[b];simp[f]
    rw[g];refine⟨rfl,rfl,i,c,λ_ c0 k j=>?_⟩;cases j;exact⟨OM _,rfl⟩
 . refine⟨?_,?_,i,c,λo=>absurd o hE⟩
   . rw[(Hu _ hE A).1,(Hu _ hE A).1]
   . rw[(Hu _ hE A).2,(Hu _ hE A).2]
theorem bA{o u:Nat}(h:(decide (E=0)&&JP l (DU l I) 120)=false)(hp:DU l I=p)(M:Ed l p=p+d)(w:YK l p d n)
(m:(decide (EN (JX l I) E=0)&&JP l (DU l (p+d)) 47)=true)(P:DU l (DU l (p+d)+1)=b)(N:Ed l b=b+o)(i:YK l b o u)(f v:Int)(r:f=EN (JX l (DU l (p+d)+1)) (EN (JX l I) E))(hA2:v=Ei (JX l (DU l (p+d)+1)) (EN (JX l I) E) (Ei (JX l I) E A)):
 (u=0->X2 l I E A (Rat.divInt (n:Int) 1) (b+o) (if f=0 then 4 else f) (if f=0 then(b:Int)else v))/\(u≠0->X2 l I E A (Rat.divInt (n:Int) (u:Int)) (b+o) f v):=by
 rw[AM,BR]at m;obtain⟨hE,a,k,t⟩:=MS (KH l I) m.1;obtain⟨ds,Q⟩:=a;obtain⟨rfl,rfl,rfl⟩:=w.of_ok hp M t;subst hE;have z:F3 (Rat.divInt (num ds:Int) 1):=⟨num ds,1,rfl,w.lt12,Y,Y⟩;rw[m.1]at r hA2;rw[t,(FY rfl 0 A).2]at hA2;unfold X2;rw[Rk h rfl];cases c:JX l (DU l (Q+d)+1)with
 |bad e q=>
  have s:Yf l I=.bad e q:=by unfold Yf;rw[t];simp[m.2,c]
  have R:=KH _ _ _ _ c;rw[c]at r hA2;have L:f=(e:Int):=r;have K:v=(q:Int):=hA2;have x:¬f=0:=Y
  rw[s,BC x,BC x,L,K];refine⟨λ_=>⟨rfl,rfl,z,i.1,λ_ c0 k g=>by cases g⟩,λj=>⟨rfl,rfl,⟨num ds,u,rfl,w.lt12,j,i.lt12⟩,i.1,λ_ c0 k g=>by cases g⟩⟩
 |ok a k=>
  obtain⟨y,D⟩:=a;obtain⟨rfl,rfl,rfl⟩:=i.of_ok P N c;rw[c,(FY rfl 0 A).1]at r;rw[c,(FY rfl 0 A).2]at hA2;subst r hA2;rw[BG rfl,BG rfl];refine⟨λj=>?_,λj=>?_⟩
  . have s:Yf l I=.bad 4 D:=by unfold Yf;rw[t];simp[m.2,c,j]
    rw[s];exact⟨rfl,rfl,z,i.1,λ_ c0 k g=>by cases g⟩
  . have s:Yf l I=.ok (Rat.divInt (num ds) (num y)) (D+o):=by unfold Yf;rw[t];simp[m.2,c,j]
    rw[s];refine⟨rfl,rfl,⟨num ds,num y,rfl,w.lt12,j,i.lt12⟩,i.1,λ_ c0 k g=>?_⟩;cases g;exact⟨rfl,rfl⟩
def XG(l:List UInt8)(I:Nat)(E A:Int)(c:Rat)(n I':Nat)(E' A':Int):Prop:=
 E'=EN (JT l I) E/\A'=Ei (JT l I) E A/\(E=0->∀c0 n0 k,JT l I=.ok (c0,n0) k->c=c0/\n=n0/\I'=k)
theorem X2.zero(h:X2 l I E A c b g i)(e:g=0):E=0/\i=A/\GD l I=.ok c b:=by
 have d:=h.1;rw[e]at d;obtain⟨hE,c0,k,a⟩:=MS (Rh l I) d.symm;obtain⟨rfl,rfl⟩:=h.2.2.2.2 hE c0 k a;exact⟨hE,h.2.1.trans (FY a E A).2,a⟩
theorem X2.set(h:X2 l I E A c b g i)(o:g≠0)(n I':Nat):XG l I E A c n I' g i:=by
 by_cases hE:E=0
 . subst hE;cases f:GD l I with
   |ok c0 k=>
    have:=h.1;rw[f,(FY rfl 0 A).1]at this;exact absurd this o
   |bad e p=>
    have j:JT l I=.bad e p:=by rw[IK,f]
    have a:=h.1;have d:=h.2.1;rw[f]at a d;exact⟨by rw[j];exact a,by rw[j];exact d,λ_ c0 n0 k m=>by rw[j]at m;cases m⟩
 . have a:=h.1;have d:=h.2.1;rw[(Hu _ hE A).1]at a;rw[(Hu _ hE A).2]at d;exact⟨by rw[(Hu _ hE A).1];exact a,by rw[(Hu _ hE A).2];exact d,λh=>absurd h hE⟩
theorem XG.of{I':Nat}(h:JT l I=.ok (c,n) I'):XG l I 0 A c n I' 0 A:=by
 refine⟨by rw[(FY h 0 A).1],by rw[(FY h 0 A).2],λ_ c0 n0 k a=>?_⟩;rw[h]at a;cases a;exact⟨rfl,rfl,rfl⟩
theorem XG.bad{l:List UInt8}{I:Nat}{A:Int}{e p:Nat}(c:Rat)(n I':Nat)(h:JT l I=.bad e p):XG l I 0 A c n I' e p:=by
 exact⟨by rw[h];rfl,by rw[h];rfl,λ_ c0 n0 k a=>by rw[h]at a;cases a⟩
theorem bB(h:X2 l I E A c b g i)(d:(decide (g=0)&&JP l (DU l b) 120)=false):XG l I E A c 0 (DU l b) g i:=by
 by_cases a:g=0
 . obtain⟨rfl,rfl,e⟩:=h.zero a;subst a;simp at d;refine XG.of ?_;rw[IK,e];simp[d]
 . exact h.set a _ _
theorem bC(h:X2 l I E A c b g i)(a:(decide (g=0)&&JP l (DU l b) 120)=true)(e:(decide (g=0)&&JP l (DU l (DU l b+1)) 94)=false):XG l I E A c 1 (DU l (DU l b+1)) g i:=by
 rw[AM,BR]at a;obtain⟨d,a⟩:=a;obtain⟨rfl,rfl,f⟩:=h.zero d;subst d;simp at e;refine XG.of ?_;rw[IK,f];simp[a,EO,e]
theorem bD(h:X2 l I E A c b g i)(m:(decide (g=0)&&JP l (DU l b) 120)=true)(o:(decide (g=0)&&JP l (DU l (DU l b+1)) 94)=true)(hp:DU l (DU l (DU l b+1)+1)=p)(D:Ed l p=p+d)(K:YK l p d n)(j r:Int)
(s:j=EN (JX l (DU l (DU l b+1)+1)) g)(hA5:r=Ei (JX l (DU l (DU l b+1)+1)) g i):(8<n->XG l I E A c 0 (p+d) (if j=0 then 3 else j) (if j=0 then(p:Int)else r))/\(¬8<n->XG l I E A c n (p+d) j r):=by
 rw[AM,BR]at m o;obtain⟨w,m⟩:=m;obtain⟨_,o⟩:=o;obtain⟨rfl,rfl,u⟩:=h.zero w;subst w;cases f:JX l (DU l (DU l b+1)+1)with
 |bad e q=>
  rw[f]at s hA5;have M:=KH _ _ _ _ f;have z:j=(e:Int):=s;have y:r=(q:Int):=hA5;have v:¬j=0:=Y
  have x:JT l I=.bad e q:=by rw[IK,u];simp[m,EO,o,f]
  rw[BC v,BC v,z,y];exact⟨λ_=>XG.bad _ _ _ x,λ_=>XG.bad _ _ _ x⟩
 |ok a k=>
  obtain⟨L,N⟩:=a;obtain⟨rfl,rfl,rfl⟩:=K.of_ok hp D f;rw[f,(FY rfl 0 0).1]at s;rw[f,(FY rfl 0 _).2]at hA5;subst s hA5;rw[BG rfl,BG rfl];refine⟨λt=>XG.bad _ _ _ ?_,λt=>XG.of ?_⟩
  . rw[IK,u];simp[m,EO,o,f,t]
  . rw[IK,u];simp[m,EO,o,f,t]
theorem GE.new{w e:G}{R:Nat}{s:ByteArray}{I E A:Int}{c:Rat}(h:DX w R s I E A)(i:Bl w e){a:Option Addr}{l ca:Nat}{f:Bool}{b:Option Addr}{k d:Nat}{t:Bool}(j:Jr e (.agg #[C a l ca,F f,C b k d,F t]) c):
 GE w (e.alloc (.cells #[C a l ca,F f,C b k d,F t] 85)) R e.heap.size s I E A c:=by
 have g:Bl e (e.alloc (.cells #[C a l ca,F f,C b k d,F t] 85)):=Ba e _;exact⟨(h.below i).below g,⟨a,l,ca,f,b,k,d,t,JL.new _ _ _ _ _ _,j.below g⟩,Jh (J4 i _) (J4 g _),i.size⟩
theorem bE(R:Nat)(s:ByteArray)(I:Nat)(E A:Int)(w:G)(h:DX w R s I E A)(hI:I<=s.size)(hs:s.size<=300):
 Calls Tryz.prog 62 #[.pointer (some ⟨R,0,none⟩)] w λr w'=>∃(u:Value) (c:Rat) (n I':Nat),r=.returned u/\RowK false w' u (Jd (Dl n [c]))/\n<=8/\F3 c/\I'<=s.size/\DX w' R s (I':Int) (EN (JT (Je s) I) E) (Ei (JT (Je s) I) E A)/\(E=0->∀c0 n0 k,JT (Je s) I=.ok (c0,n0) k->c=c0/\n=n0/\I'=k)/\w.grownBy w' (some R):=by
 have Uk:I<=(Je s).length:=by rw[Ji];exact hI
 obtain⟨b1,bj⟩:=ex ((decide (E=0)&&JP (Je s) (DU (Je s) I) 120));have Ud:=J bj;obtain⟨j,an⟩:=ex (DU (Je s) I);have Qu:=J an;have Uh:j<=s.size:=by rw[<-an,<-Ji];exact Ys Uk
 have HW:=J (Is 1 Y Y w);have Uq:=J λ(V:G) (f:DX V R s I E A)=>YI R s I E A 120 V f hI hs;rw[bj,an]at Uq;have HH:=J h;have Wg:=J Uk;clear h bj an Uk hI;go_enter Tryz.func62,Tryz.ntmps62
 go_upto_region 2 with(first
  |(go_at_call 42;refine HW.o.mono ?_;clear HW;rintro e w1 ⟨u1,rfl,cg,dh⟩;obtain⟨ed,f7,eh,f8,ef,f6,ei,f9,rfl⟩:=Jr.form cg))
 have hT:=GE.new HH.o dh cg;obtain⟨W0,bi⟩:=ex (w1.alloc (.cells #[C ed f7 eh,F f8,C ef f6 ei,F f9] 85));rw[bi]at hT;rw[bi];obtain⟨B,hB⟩:=ex (w1.heap.size);rw[hB]at hT;rw[hB];have HT:=J (show GE w W0 R B s I E A 1 from hT);clear hT cg dh bi hB;go_upto_if 15 with(first
  |(go_at_call 65;refine(Uq.o _ HT.o.1).mono ?_;clear Uq;rintro e w2 ⟨rfl,di,de⟩;have Qy:=J (HT.o.rd di de);clear di de HT))
 go_cut [4] λv w'=>v=F b1/\∃(c:Rat) (M:Nat) (d g:Int),Hid (GE w w' R B s (M:Int) d g c/\X2 (Je s) I E A c M d g)
 case first=>
  cases b1 with
  |true=>
   go_wp2_with fail
   go_meet
   case rel=>exact⟨rfl,1,j,E,A,J ⟨Qy.o,by rw[<-Qu.o];exact aZ Wg.o Ud.o⟩⟩
  |false=>
   obtain⟨d,bc⟩:=ex (EN (JX (Je s) I) E);obtain⟨g,hA1⟩:=ex (Ei (JX (Je s) I) E A);have HN:=J λ(V:G) (f:DX V R s j E A)=>OL R s j E A j V f Uh hs (by rw[<-Qu.o];exact Iv _ _);have Uw:JX (Je s) j=JX (Je s) I:=by rw[<-Qu.o];exact Rg _ _
   rw[Uw,bc,hA1]at HN;have Ua:=J bc;have Ut:=J hA1;clear bc hA1 Uw;go_upto_if 22 with(first
    |(go_at_call 102;refine(HN.o _ Qy.o.1).mono ?_;clear HN;rintro e w3 ⟨d1,n1,rfl,cn,aw,ai,ad⟩;have Q:=J (Qy.o.rd ai ad);clear ai ad Qy;have Ux:=J cn;have Uv:=J aw;have Uf:=aw.lt12;have ew:j+d1<=s.size:=(by rw[<-Ji];exact aw.1);clear cn aw;obtain⟨b2,bk⟩:∃b,b=(decide (d=0)&&JP (Je s) (DU (Je s) (j+d1)) 47):=⟨_,rfl⟩;have Ul:=J bk;have Uo:=J λ(V:G) (f:DX V R s ((j+d1:Nat):Int) d g)=>J8 R s (j+d1) d g 47 V f ew hs b2 bk;clear bk;obtain⟨I2,bh⟩:=ex (DU (Je s) (j+d1));rw[bh]at Uo;have Qp:=J bh;clear bh)
    |(go_at_call 61;refine(Uo.o _ Q.o.1).mono ?_;clear Uo;rintro e w4 ⟨rfl,aj,ae⟩;have L:=J (Q.o.rd aj ae);clear aj ae Q))
   have Qn:=J λ(V:G)=>Hk (n1:Int) Y Y V;have Ui:=J (DY.word Uf);cases b2 with
   |false=>
    obtain⟨P,Qz,HY⟩:=Dk (λ(V:G)=>Hk 1 Y Y V) DY.one (show(1:Int)≠0 by omega);go_wp2_with(first
     |(go_at_call 79;refine(Qn.o _).mono ?_;clear Qn;rintro e w6 ⟨dw,rfl,W,T⟩;have Qw:=J (L.o.below T);clear T;have Qo:=J W;clear W)
     |(go_at_call 79;refine(P.o _).mono ?_;clear P;rintro e w7 ⟨dx,rfl,X,p⟩;have Qv:=J (Qw.o.below p);have Qb:=J (Qo.o.below p);clear p;have Qs:=J X;clear X)
     |(go_at_call 80;refine(KF _ _ _ _ _ Qb.o Qs.o HY.o Ui.o Qz.o).mono ?_;rintro e w8 ⟨dz,rfl,t,U⟩;have N:=Qv.o.below U;clear U;obtain⟨ci,dp,ck,dt,cj,dj,cl,du,rfl⟩:=Jr.form t;have Qt:=J (N.put t);obtain⟨_,⟨x0,x1,x2,x3,x4,x5,x6,x7,a,_⟩,_,_⟩:=N;obtain⟨e0,e1,e2,e3⟩:=a.cq;obtain⟨g0,g1,g2,g3⟩:=a.fq;clear a t))
    go_meet
    case rel=>exact⟨rfl,_,_,_,_,J ⟨Qt.o,by have:=ar (A:=A) Ud.o Qu.o Ux.o Uv.o (by rw[Ua.o];exact Ul.o.symm);rw[Qp.o,Ua.o,Ut.o]at this;exact this⟩⟩
   |true=>
    have Um:I2+1<=s.size:=by
     have S:=Ul.o.symm;rw[AM]at S;have h6:=JS S.2;rw[Qp.o,Ji]at h6;omega
    obtain⟨p2,bu⟩:=ex (DU (Je s) (I2+1));have Qr:=J λ(V:G) (f:DX V R s ((I2+1:Nat):Int) d g)=>OL R s (I2+1) d g p2 V f Um hs bu;have Wd:=J bu;clear bu;obtain⟨E2,bf⟩:=ex (EN (JX (Je s) (I2+1)) d);obtain⟨A2,hA2⟩:=ex (Ei (JX (Je s) (I2+1)) d g);rw[bf,hA2]at Qr;have Wb:=J bf;have We:=J hA2;clear bf hA2;go_upto_if 29 with(first
     |(go_at_call 102;refine(Qr.o _ L.o.1).mono ?_;clear Qr;rintro e w5 ⟨d2,n2,rfl,co,bt,ak,af⟩;have K:=J (L.o.rd ak af);clear ak af L;have Uy:=J co;have Qr:=J bt;have Ue:=bt.lt12;clear co bt))
    have Qq:=J (bA (A:=A) Ud.o Qu.o Ux.o Uv.o (by rw[Ua.o];exact Ul.o.symm) (by rw[Qp.o];exact Wd.o) Uy.o Qr.o E2 A2 (by rw[Qp.o,Ua.o];exact Wb.o.symm) (by rw[Qp.o,Ua.o,Ut.o];exact We.o.symm));by_cases ay:n2=0
    . have Wh:((n2:Int)==0)=true:=by rw[ay];rfl
      have Up:=J ay;clear ay;obtain⟨HF,P,Qz,HY⟩:=EB (λ(V:G) (f:DX V R s ((p2+d2:Nat):Int) E2 A2)=>Iu R s ((p2+d2:Nat):Int) E2 A2 4 (p2:Int) V f) (λ(V:G)=>Hk 1 Y Y V) DY.one (show(1:Int)≠0 by omega);go_wp2_with(first
       |(go_at_call 66;refine(HF.o _ K.o.1).mono ?_;clear HF;rintro e fa ⟨rfl,am,ah⟩;have Qi:=J (K.o.rd am ah);clear am ah K)
       |(go_at_call 79;refine(Qn.o _).mono ?_;clear Qn;rintro e w6 ⟨dw,rfl,W,T⟩;have Qw:=J (Qi.o.below T);clear T;have Qo:=J W;clear W)
       |(go_at_call 79;refine(P.o _).mono ?_;clear P;rintro e w7 ⟨dx,rfl,X,p⟩;have Qv:=J (Qw.o.below p);have Qb:=J (Qo.o.below p);clear p;have Qs:=J X;clear X)
       |(go_at_call 80;refine(KF _ _ _ _ _ Qb.o Qs.o HY.o Ui.o Qz.o).mono ?_;rintro e w8 ⟨dz,rfl,t,U⟩;have N:=Qv.o.below U;clear U;obtain⟨ci,dp,ck,dt,cj,dj,cl,du,rfl⟩:=Jr.form t;have Qt:=J (N.put t);obtain⟨_,⟨x0,x1,x2,x3,x4,x5,x6,x7,a,_⟩,_,_⟩:=N;obtain⟨e0,e1,e2,e3⟩:=a.cq;obtain⟨g0,g1,g2,g3⟩:=a.fq;clear a t))
      go_meet
      case rel=>exact⟨rfl,_,_,_,_,J ⟨Qt.o,Qq.o.1 Up.o⟩⟩
    . have Wh:((n2:Int)==0)=false:=by rw[BH];omega
      obtain⟨P,Qz,HY⟩:=Dk (λ(V:G)=>Hk (n2:Int) Y Y V) (DY.word Ue) (show(n2:Int)≠0 by omega);go_wp2_with(first
       |(go_at_call 79;refine(Qn.o _).mono ?_;clear Qn;rintro e w6 ⟨dw,rfl,W,T⟩;have Qw:=J (K.o.below T);clear T;have Qo:=J W;clear W)
       |(go_at_call 79;refine(P.o _).mono ?_;clear P;rintro e w7 ⟨dx,rfl,X,p⟩;have Qv:=J (Qw.o.below p);have Qb:=J (Qo.o.below p);clear p;have Qs:=J X;clear X)
       |(go_at_call 80;refine(KF _ _ _ _ _ Qb.o Qs.o HY.o Ui.o Qz.o).mono ?_;rintro e w8 ⟨dz,rfl,t,U⟩;have N:=Qv.o.below U;clear U;obtain⟨ci,dp,ck,dt,cj,dj,cl,du,rfl⟩:=Jr.form t;have Qt:=J (N.put t);obtain⟨_,⟨x0,x1,x2,x3,x4,x5,x6,x7,a,_⟩,_,_⟩:=N;obtain⟨e0,e1,e2,e3⟩:=a.cq;obtain⟨g0,g1,g2,g3⟩:=a.fq;clear a t))
      go_meet
      case rel=>exact⟨rfl,_,_,_,_,J ⟨Qt.o,Qq.o.2 ay⟩⟩
 case rest=>
  obtain⟨rfl,c,M,d,g,z⟩:=hcut;have Us:M<=s.size:=by have:=z.o.2.2.2.2.1;rwa[Ji]at this
  obtain⟨b3,bm⟩:∃b,b=(decide (d=0)&&JP (Je s) (DU (Je s) M) 120):=⟨_,rfl⟩;have Uc:=J bm.symm;obtain⟨I3,ap⟩:=ex (DU (Je s) M);have HX:=J λ(V:G) (f:DX V R s (M:Int) d g)=>J8 R s M d g 120 V f Us hs b3 bm;rw[ap]at HX;have Ug:I3<=s.size:=by rw[<-ap,<-Ji];exact Ys (by rw[Ji];exact Us)
  have D:=J ap;clear ap bm Qy Ud;go_upto_if 40 with(first
   |(go_at_call 61;refine(HX.o _ z.o.1.1).mono ?_;clear HX;rintro e w3 ⟨rfl,ai,ad⟩;have Q:=J (z.o.1.rd ai ad);clear ai ad))
  cases b3 with
  |false=>
   obtain⟨_,⟨y0,y1,y2,y3,y4,y5,y6,y7,a,y⟩,_,_⟩:=Q.o;obtain⟨e0,e1,e2,e3⟩:=a.cq;have l:=J (K6 _ 0 c _ y Y);clear a y;go_wp2_with(first
    |(go_at_call 78;refine l.o.mono ?_;clear l;rintro e w9 ⟨u9,rfl,x,q⟩;have m:=J (Q.o.below q);clear q;have o:=J x;clear x;obtain⟨a7,l7,c7,rfl⟩:=o.o.form))
   go_ret;have i:=bB z.o.2 Uc.o;refine⟨_,c,0,_,rfl,o.o,Y,z.o.2.2.2.1,by rw[D.o];exact Ug,?_,i.2.2,m.o.2.2.1⟩;rw[<-i.1,<-i.2.1];rw[D.o];exact m.o.1
  |true=>
   have Ub:I3+1<=s.size:=by
    have S:=Uc.o;rw[AM]at S;have h6:=JS S.2;rw[D.o,Ji]at h6;omega
   obtain⟨b4,bn⟩:∃b,b=(decide (d=0)&&JP (Je s) (DU (Je s) (I3+1)) 94):=⟨_,rfl⟩;have Un:=J bn.symm;obtain⟨I4,aq⟩:=ex (DU (Je s) (I3+1));have HX:=J λ(V:G) (f:DX V R s ((I3+1:Nat):Int) d g)=>J8 R s (I3+1) d g 94 V f Ub hs b4 bn;rw[aq]at HX;have Uj:I4<=s.size:=by rw[<-aq,<-Ji];exact Ys (by rw[Ji];exact Ub)
   have Qm:=J aq;clear aq bn;go_upto_if 45 with(first
    |(go_at_call 61;refine(HX.o _ Q.o.1).mono ?_;clear HX;rintro e w4 ⟨rfl,aj,ae⟩;have L:=J (Q.o.rd aj ae);clear aj ae))
   cases b4 with
   |false=>
    obtain⟨_,⟨y0,y1,y2,y3,y4,y5,y6,y7,a,y⟩,_,_⟩:=L.o;obtain⟨e0,e1,e2,e3⟩:=a.cq;have l:=J (K6 _ 1 c _ y Y);clear a y;go_wp2_with(first
     |(go_at_call 78;refine l.o.mono ?_;clear l;rintro e w9 ⟨u9,rfl,x,q⟩;have m:=J (L.o.below q);clear q;have o:=J x;clear x;obtain⟨a7,l7,c7,rfl⟩:=o.o.form))
    go_ret;have i:=bC z.o.2 Uc.o (by rw[D.o];exact Un.o);refine⟨_,c,1,_,rfl,o.o,Y,z.o.2.2.2.1,by rw[D.o,Qm.o];exact Uj,?_,i.2.2,m.o.2.2.1⟩;rw[<-i.1,<-i.2.1];rw[D.o,Qm.o];exact m.o.1
   |true=>
    have Ur:I4+1<=s.size:=by
     have S:=Un.o;rw[AM]at S;have h6:=JS S.2;rw[Qm.o,Ji]at h6;omega
    obtain⟨p5,ce⟩:=ex (DU (Je s) (I4+1));have Qx:=J λ(V:G) (f:DX V R s ((I4+1:Nat):Int) d g)=>OL R s (I4+1) d g p5 V f Ur hs ce;have Wi:=J ce;clear ce;obtain⟨E5,bg⟩:=ex (EN (JX (Je s) (I4+1)) d);obtain⟨A5,hA5⟩:=ex (Ei (JX (Je s) (I4+1)) d g);rw[bg,hA5]at Qx;have Wa:=J bg;have Wc:=J hA5;clear bg hA5;go_upto_if 54 with(first
     |(go_at_call 102;refine(Qx.o _ L.o.1).mono ?_;clear Qx;rintro e w5 ⟨d5,n5,rfl,ct,az,ak,af⟩;have K:=J (L.o.rd ak af);clear ak af L;have Uz:=J ct;have Qx:=J az;have fb:=az.lt12;have Uu:p5+d5<=s.size:=(by rw[<-Ji];exact az.1);clear ct az))
    have Qq:=J (bD z.o.2 Uc.o (by rw[D.o];exact Un.o) (by rw[D.o,Qm.o];exact Wi.o) Uz.o Qx.o E5 A5 (by rw[D.o,Qm.o];exact Wa.o.symm) (by rw[D.o,Qm.o];exact Wc.o.symm));by_cases h8:8<n5
    . have et:(8:Int)<(n5:Int):=Y
      have HF:=J λ(V:G) (f:DX V R s ((p5+d5:Nat):Int) E5 A5)=>Iu R s ((p5+d5:Nat):Int) E5 A5 3 (p5:Int) V f;go_upto_region 21 with(first
       |(go_at_call 66;refine(HF.o _ K.o.1).mono ?_;clear HF;rintro e fa ⟨rfl,am,ah⟩;have Qi:=J (K.o.rd am ah);clear am ah K))
      obtain⟨_,⟨y0,y1,y2,y3,y4,y5,y6,y7,a,y⟩,_,_⟩:=Qi.o;obtain⟨e0,e1,e2,e3⟩:=a.cq;have l:=J (K6 _ 0 c _ y Y);clear a y;go_wp2_with(first
       |(go_at_call 78;refine l.o.mono ?_;clear l;rintro e w9 ⟨u9,rfl,x,q⟩;have m:=J (Qi.o.below q);clear q;have o:=J x;clear x;obtain⟨a7,l7,c7,rfl⟩:=o.o.form))
      go_ret;have i:=Qq.o.1 h8;refine⟨_,c,0,p5+d5,rfl,o.o,Y,z.o.2.2.2.1,Uu,?_,i.2.2,m.o.2.2.1⟩;rw[<-i.1,<-i.2.1];exact m.o.1
    . have et:¬(8:Int)<(n5:Int):=Y
      obtain⟨_,⟨y0,y1,y2,y3,y4,y5,y6,y7,a,y⟩,_,_⟩:=K.o;obtain⟨e0,e1,e2,e3⟩:=a.cq;have l:=J (K6 _ n5 c _ y Y);clear a y;go_wp2_with(first
       |(go_at_call 78;refine l.o.mono ?_;clear l;rintro e w9 ⟨u9,rfl,x,q⟩;have m:=J (K.o.below q);clear q;have o:=J x;clear x;obtain⟨a7,l7,c7,rfl⟩:=o.o.form))
      go_ret;have i:=Qq.o.2 h8;refine⟨_,c,n5,p5+d5,rfl,o.o,Y,z.o.2.2.2.1,Uu,?_,i.2.2,m.o.2.2.1⟩;rw[<-i.1,<-i.2.1];exact m.o.1

